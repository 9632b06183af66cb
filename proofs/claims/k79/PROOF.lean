import PyProof.Rows.All
import Wide.All
import OpenK.AllK
import Wide.FinOn
import Lean
import PyProof.EqAt
import PyProof.EqKinds
import PyProof.TupleCall
import PySem.Challenge.RW_glazework_k79_deeds_known
set_option compiler.extract_closed false
noncomputable section
set_option Elab.async false
set_option linter.all false
set_option maxRecDepth 100000
namespace L2
open PySem PySem.Spec PyProof.Rows
noncomputable abbrev Key:=Sum Int Str
noncomputable def ca5 : Key → Value → Bool
 | .inl k,v=>Value.isInt k v
 | .inr x,v=>Value.isStrOf x v
noncomputable def cH0 (w : World) : Key → Int
 | .inl k=>hashInt k
 | .inr x=>hashStr w x
theorem M8 : ∀ {k : Key} {v : Value},ca5 k v = true → (∃ i t,k = Sum.inl i ∧ v = Value.int i t) ∨ (∃ x t,k = Sum.inr x ∧ v = Value.str x t)
 | .inl i,v,h=>by
  obtain ⟨t,e⟩:=Value.isInt_shape (k:=i) (v:=v) h
  exact .inl ⟨i,t,rfl,e⟩
 | .inr x,v,h=>by
  obtain ⟨t,e⟩:=Value.isStrOf_shape (x:=x) (v:=v) h
  exact .inr ⟨x,t,rfl,e⟩
theorem cn5 (a b : Int) : decide ((Sum.inl a : Key) = Sum.inl b) = (a == b):=by
 by_cases e : a = b
 ·subst e; simp
 ·have h : ¬ (Sum.inl a : Key) = Sum.inl b:=fun q=>e (Sum.inl.inj q)
  rw [decide_eq_false h]
  exact (beq_eq_false_iff_ne.mpr e).symm
theorem cn2 (a b : Str) : decide ((Sum.inr a : Key) = Sum.inr b) = decide (a = b):=by
 by_cases e : a = b
 ·subst e; simp
 ·have h : ¬ (Sum.inr a : Key) = Sum.inr b:=fun q=>e (Sum.inr.inj q)
  rw [decide_eq_false h,decide_eq_false e]
theorem cn4 (a : Int) (b : Str) : decide ((Sum.inl a : Key) = Sum.inr b) = false:=decide_eq_false (fun q=>nomatch q)
theorem cn3 (a : Str) (b : Int) : decide ((Sum.inr a : Key) = Sum.inl b) = false:=decide_eq_false (fun q=>nomatch q)
noncomputable def aQ4 (prog : Program) (w : World) : PySem.KeyKind prog w Key where
 is:=ca5
 hash:=cH0 w
 inj:=fun v a b ha hb=>by
  rcases M8 ha with ⟨i,t,rfl,rfl⟩ | ⟨x,t,rfl,rfl⟩
  ·rcases M8 hb with ⟨j,u,rfl,e⟩ | ⟨y,u,rfl,e⟩
   ·injection e with e1 _; rw [e1]
   ·exact nomatch e
  ·rcases M8 hb with ⟨j,u,rfl,e⟩ | ⟨y,u,rfl,e⟩
   ·exact nomatch e
   ·injection e with e1 _; rw [e1]
 byValue:=fun k v h=>by
  rcases M8 h with ⟨i,t,rfl,rfl⟩ | ⟨x,t,rfl,rfl⟩ <;> rfl
 pyHash:=fun hv h=>by
  rcases M8 hv with ⟨i,t,rfl,rfl⟩ | ⟨x,t,rfl,rfl⟩
  ·exact wpAny_pyHash_int h
  ·exact wpAny_pyHash_str h
 eqBool:=fun hu hv h=>by
  rcases M8 hu with ⟨i,t,rfl,rfl⟩ | ⟨x,t,rfl,rfl⟩
  ·rcases M8 hv with ⟨j,u,rfl,rfl⟩ | ⟨y,u,rfl,rfl⟩
   ·rw [cn5] at h; exact wpAny_eqBool_int h
   ·rw [cn4] at h; exact SeqAt.EqAt.int_str i t y u _ _ _ _ h
  ·rcases M8 hv with ⟨j,u,rfl,rfl⟩ | ⟨y,u,rfl,rfl⟩
   ·rw [cn3] at h; exact SeqAt.EqAt.str_int x t j u _ _ _ _ h
   ·rw [cn2] at h; exact wpAny_eqBool_str h
 «strs»:=fun k x t v h=>by
  rcases M8 h with ⟨i,u,rfl,e⟩ | ⟨y,u,rfl,e⟩
  ·exact nomatch e
  ·injection e with e1 _
   subst e1
   cases v <;> rfl
end L2
namespace L2
open PySem PySem.Spec PyProof.Rows
inductive V where
 | non | bl (b : Bool) | int (i : Int) | str (x : Str) | byt (b : Array UInt8) | flt (b : UInt64) | ref (a : Addr) | ty (n : String)
 deriving DecidableEq
noncomputable def K8 : V → Value → Prop
 | .non,u=>u = Value.none
 | .bl b,u=>u = Value.bool b
 | .int i,u=>∃ t,u = Value.int i t
 | .str x,u=>∃ t,u = Value.str x t
 | .byt b,u=>∃ t,u = Value.bytes b t
 | .flt b,u=>∃ t,u = Value.float b t
 | .ref a,u=>u = Value.ref a
 | .ty n,u=>u = Value.type n
noncomputable abbrev G3 : List V → List Value → Prop:=Paired K8
theorem G3.length {xs : List V} {us : List Value} (r : G3 xs us) : xs.length = us.length:=Paired.length r
theorem G3.get : ∀ {xs : List V} {us : List Value} {i : Nat} {x : V},G3 xs us → xs[i]? = some x → ∃ u,us[i]? = some u ∧ K8 x u
 | _,_,_,_,.nil,e=>by simp at e
 | _,_,0,_,.cons r _,e=>by simp at e; subst e; exact ⟨_,rfl,r⟩
 | _,_,i + 1,x,.cons _ t,e=>by
  obtain ⟨u,h1,h2⟩:=G3.get (i:=i) (x:=x) t (by simpa using e)
  exact ⟨u,by simpa using h1,h2⟩
theorem G3.append : ∀ {xs ys : List V} {us ws : List Value},G3 xs us → G3 ys ws → G3 (xs ++ ys) (us ++ ws)
 | _,_,_,_,.nil,s=>s
 | _,_,_,_,.cons r t,s=>.cons r (G3.append t s)
theorem G3.take : ∀ {xs : List V} {us : List Value} (n : Nat),G3 xs us → G3 (xs.take n) (us.take n)
 | _,_,0,_=>.nil
 | _,_,_ + 1,.nil=>.nil
 | _,_,n + 1,.cons r t=>.cons r (G3.take n t)
theorem G3.drop : ∀ {xs : List V} {us : List Value} (n : Nat),G3 xs us → G3 (xs.drop n) (us.drop n)
 | _,_,0,r=>r
 | _,_,_ + 1,.nil=>.nil
 | _,_,n + 1,.cons _ t=>G3.drop n t
noncomputable def cD7 : Option V → Option Value → Prop
 | some v,some u=>K8 v u
 | none,none=>True
 | _,_=>False
noncomputable def KV {κ : Type} : List (κ × V) → List (κ × Value) → Prop:=Paired fun (p : κ × V) (q : κ × Value)=>p.1 = q.1 ∧ K8 p.2 q.2
noncomputable def kV : Key → V
 | .inl i=>.int i
 | .inr x=>.str x
inductive HO where
 /-- a list -/
 | lst (xs : List V)
 /-- a tuple (never changes) -/
 | tup (xs : List V)
 /-- a dict whose keys are ints and texts; one whose keys are tuples of ints and texts (the empty one is both) -/
 | dK (kvs : List (Key × V)) | dT (kvs : List (List Key × V))
 /-- a set of ints: its members,its size -/
 | set (S : Int → Bool) (n : Nat)
 /-- an instance of the class at C,its dict at dx,its attributes -/
 | ins (C dx : Addr) (fs : List (Str × V))
 /-- the dict of the instance at x -/
 | own (x : Addr)
 /-- the dict of an exception -/
 | xd (fs : List (Str × V))
 /-- a bound method,f of x -/
 | met (f x : Addr)
 /-- a range object lo,lo + 1,.. below hi -/
 | rng (lo hi : Int)
 /-- a thing that is known to the object (the script; a dict while a loop walks it): read,never written while it is so -/
 | frz (o : Obj) (u : HO)
 /-- a code object's table -/
 | tbl (ps : Array Value)
 /-- any other thing,by what is true of its one object (a def of one's own: SetO a S n:=HO.ext fun h=>..) -/
 | ext (φ : Heap → Prop)
noncomputable abbrev Hp:=Addr → Option HO
noncomputable def upd (H : Hp) (a : Addr) (o : HO) : Hp:=fun b=>if b = a then some o else H b
theorem E5 {H : Hp} {a : Addr} {o : HO} : upd H a o a = some o:=by unfold upd; rw [if_pos rfl]
theorem F5 {H : Hp} {a b : Addr} {o : HO} (h : b ≠ a) : upd H a o b = H b:=by unfold upd; rw [if_neg h]
theorem G4 {H : Hp} {a b : Addr} {o : HO} (h : H a = some o) (h' : H b = none) : a ≠ b:=by
 intro e; subst e; rw [h] at h'; cases h'
noncomputable def aH2 (h : Heap) (a : Addr) (items : Array Value) : Prop:=∃ o,h.get? a = some o ∧ o.cls = .type "tuple" ∧ (∃ n,o.data = .seq items n) ∧ o.dict = none
theorem aH2.tup {h : Heap} {a : Addr} {items : Array Value} (p : aH2 h a items) : IsTup h a items:=let ⟨o,e,c,d,_⟩:=p; ⟨o,e,c,d⟩
theorem aH2.new (h : Heap) (items : Array Value) (n : Nat:=0) : aH2 (h.push { cls:=.type "tuple", data:=.seq items n }) h.objs.size items:=⟨_,Heap.get?_push_size _ rfl,rfl,⟨_,rfl⟩,rfl⟩
section
variable (P : Program) (w : World)
noncomputable def x4 (H : Hp) (h : Heap) (a : Addr) : HO → Prop
 | .lst xs=>xs.length ≤ sizeLine ∧ ∃ (its : List Value) (n : Nat),G3 xs its ∧ h.get? a = some { cls:=.type "list", data:=.seq its.toArray n }
 | .tup xs=>xs.length ≤ sizeLine ∧ ∃ its : List Value,G3 xs its ∧ aH2 h a its.toArray
 | .dK kvs=>kvs.length ≤ sizeLine ∧ (a == sysModules) = false ∧ ∃ vs,KV kvs vs ∧ h.DictOf (aQ4 P w) a vs
 | .dT kvs=>kvs.length ≤ sizeLine ∧ (a == sysModules) = false ∧ ∃ xs : List (List Key × Addr × Value),
   Paired (fun (p : List Key × V) (q : List Key × Addr × Value)=>p.1 = q.1 ∧ H q.2.1 = some (.tup (p.1.map kV)) ∧ K8 p.2 q.2.2) kvs xs ∧
   ∃ o es ep,h.get? a = some o ∧ o.ExactDict ∧ o.data = .dict es ep ∧ es.toList = xs.map (entryOfKey (tupleKind (aQ4 P w))) ∧ (xs.map (·.1)).Nodup
 | .set S n=>h.SetOf (intKind P w) a S n
 | .ins C dx fs=>H dx = some (.own a) ∧ fs.length ≤ 1000 ∧ dx ≠ a ∧ h.get? a = some (PySem.W.instObj C dx) ∧
   ∃ mA,h.Ns1 dx mA ∧ (∀ f,cD7 (fs.lookup f) (mA f)) ∧ PySem.Within mA (fs.map (·.1))
 | .own _=>∃ o,h.get? a = some o
 | .xd fs=>∃ mA,h.Ns1 a mA ∧ ∀ f,cD7 (fs.lookup f) (mA f)
 | .rng lo hi=>∃ t u v,h.get? a = some { cls:=.type "range", data:=.fields #[.int lo t,.int hi u,.int 1 v] }
 | .frz o u=>h.get? a = some o ∧ x4 H h a u
 | .tbl ps=>h.get? a = some { cls:=.none,data:=.fields ps }
 | .met f x=>h.get? a = some (PySem.W.methodObj (.ref f) (.ref x))
 | .ext φ=>φ h ∧ (∃ o,h.get? a = some o) ∧ ∀ h1 h2 : Heap,φ h1 → (∀ o,h1.get? a = some o → h2.get? a = some o) → φ h2
noncomputable def HOk (H : Hp) (h : Heap) : Prop:=∀ a o,H a = some o → x4 P w H h a o
end
section
variable {P : Program} {w : World} {H H' : Hp} {h h' : Heap} {a : Addr} {o : HO}
theorem x4.lt (x : x4 P w H h a o) : a < h.objs.size:=by
 cases o with
 | lst xs=>obtain ⟨_,_,_,_,e⟩:=x; exact Heap.lt_size e
 | tup xs=>obtain ⟨_,_,_,p⟩:=x; exact p.tup.lt
 | dK kvs=>obtain ⟨_,_,_,_,o,_,_,e,_⟩:=x; exact Heap.lt_size e
 | dT kvs=>obtain ⟨_,_,_,_,o,_,_,e,_⟩:=x; exact Heap.lt_size e
 | set S n=>obtain ⟨o,_,_,_,e,_⟩:=x; exact Heap.lt_size e
 | ins C dx fs=>obtain ⟨_,_,_,e,_⟩:=x; exact Heap.lt_size e
 | own y=>obtain ⟨_,e⟩:=x; exact Heap.lt_size e
 | xd fs=>obtain ⟨_,⟨_,_,_,e,_⟩,_⟩:=x; exact Heap.lt_size e
 | rng lo hi=>obtain ⟨_,_,_,e⟩:=x; exact Heap.lt_size e
 | frz ob u=>obtain ⟨e,_⟩:=x; exact Heap.lt_size e
 | tbl ps=>exact Heap.lt_size (show h.get? a = some _ from x)
 | met f y=>exact Heap.lt_size (show h.get? a = some _ from x)
 | ext φ=>obtain ⟨_,⟨_,e⟩,_⟩:=x; exact Heap.lt_size e
theorem Paired.mapP {α β : Type} {F G : α → β → Prop} : ∀ {l₁ : List α} {l₂ : List β},Paired F l₁ l₂ → (∀ a b,F a b → G a b) → Paired G l₁ l₂
 | _,_,.nil,_=>.nil
 | _,_,.cons r t,f=>.cons (f _ _ r) (Paired.mapP t f)
theorem x4.stay (x : x4 P w H h a o) (k : ∀ b u,(b = a ∨ H b = some (.own a)) → h.get? b = some u → h'.get? b = some u)
  (ho : ∀ b,H b = some (.own a) → H' b = some (.own a)) (ht : ∀ b xs,H b = some (.tup xs) → H' b = some (.tup xs)) : x4 P w H' h' a o:=by
 induction o with
 | lst xs=>obtain ⟨z,its,n,r,e⟩:=x; exact ⟨z,its,n,r,k _ _ (.inl rfl) e⟩
 | tup xs=>obtain ⟨z,its,r,ob,e,c⟩:=x; exact ⟨z,its,r,ob,k _ _ (.inl rfl) e,c⟩
 | dK kvs=>obtain ⟨z,y,vs,r,ob,es,ep,e,c⟩:=x; exact ⟨z,y,vs,r,ob,es,ep,k _ _ (.inl rfl) e,c⟩
 | dT kvs =>
  obtain ⟨z,y,xs,r,ob,es,ep,e,c⟩:=x
  exact ⟨z,y,xs,Paired.mapP r fun p q z=>⟨z.1,ht _ _ z.2.1,z.2.2⟩,ob,es,ep,k _ _ (.inl rfl) e,c⟩
 | set S n=>obtain ⟨ob,es,ep,t,e,c⟩:=x; exact ⟨ob,es,ep,t,k _ _ (.inl rfl) e,c⟩
 | ins C dx fs =>
  obtain ⟨d,z,ne,e,mA,⟨od,es,ep,e2,c⟩,r⟩:=x
  exact ⟨ho _ d,z,ne,k _ _ (.inl rfl) e,mA,⟨od,es,ep,k _ _ (.inr d) e2,c⟩,r⟩
 | own y=>obtain ⟨ob,e⟩:=x; exact ⟨ob,k _ _ (.inl rfl) e⟩
 | xd fs=>obtain ⟨mA,⟨od,es,ep,e,c⟩,r⟩:=x; exact ⟨mA,⟨od,es,ep,k _ _ (.inl rfl) e,c⟩,r⟩
 | rng lo hi=>obtain ⟨t,u,v,e⟩:=x; exact ⟨t,u,v,k _ _ (.inl rfl) e⟩
 | frz ob u ih=>obtain ⟨e,q⟩:=x; exact ⟨k _ _ (.inl rfl) e,ih q⟩
 | tbl ps =>
  have e : h.get? a = some { cls:=.none,data:=.fields ps }:=x
  show h'.get? a = some { cls:=.none,data:=.fields ps }
  exact k a _ (.inl rfl) e
 | met f y =>
  have e : h.get? a = some (PySem.W.methodObj (.ref f) (.ref y)):=x
  show h'.get? a = some (PySem.W.methodObj (.ref f) (.ref y))
  exact k a _ (.inl rfl) e
 | ext φ=>obtain ⟨p,⟨o,e⟩,st⟩:=x; exact ⟨st _ _ p fun o q=>k _ _ (.inl rfl) q,⟨o,k _ _ (.inl rfl) e⟩,st⟩
theorem HOk.lt (x : HOk P w H h) (e : H a = some o) : a < h.objs.size:=(x a o e).lt
theorem HOk.fresh (x : HOk P w H h) (e : h.objs.size ≤ a) : H a = none:=by
 cases q : H a with
 | none=>rfl
 | some u=>exact absurd (Nat.lt_of_lt_of_le (x.lt q) e) (Nat.lt_irrefl _)
theorem HOk.kept (x : HOk P w H h) (k : ∀ b u,h.get? b = some u → h'.get? b = some u) : HOk P w H h':=fun a o e =>
 (x a o e).stay (fun b u _ q=>k b u q) (fun _ q=>q) fun _ _ q=>q
theorem HOk.laid (x : HOk P w H h) (k : ∀ b u,h.get? b = some u → h'.get? b = some u) (hp : h.objs.size ≤ a) (new : x4 P w (upd H a o) h' a o) : HOk P w (upd H a o) h':=fun b u e=>by
 have hn:=x.fresh hp
 by_cases hb : b = a
 ·subst hb; rw [E5] at e; cases e; exact new
 ·rw [F5 hb] at e
  exact (x b u e).stay (fun c v _ q=>k c v q) (fun c q=>by rw [F5 (G4 q hn)]; exact q) fun c xs q=>by rw [F5 (G4 q hn)]; exact q
end
noncomputable def Rd (H : Hp) (a : Addr) (u : HO) : Prop:=H a = some u ∨ ∃ o,H a = some (.frz o u)
theorem Rd.ok {P : Program} {w : World} {H : Hp} {h : Heap} {a : Addr} {u : HO} (r : Rd H a u) (x : HOk P w H h) : x4 P w H h a u:=by
 rcases r with r | ⟨o,r⟩
 ·exact x a u r
 ·obtain ⟨_,q⟩:=x a _ r
  exact q
noncomputable def Mut : Option HO → Prop
 | some (.lst _)=>True
 | some (.dK _)=>True
 | some (.dT _)=>True
 | some (.set _ _)=>True
 | some (.ins _ _ _)=>True
 | some (.ext _)=>True
 | _=>False
section
variable {P : Program} {w : World} {H : Hp} {h h' : Heap} {x e : Addr} {o' : HO}
theorem HOk.write (ok : HOk P w H h) (mu : Mut (H x)) (he : e = x ∨ H e = some (.own x)) (k : ∀ b u,b ≠ e → h.get? b = some u → h'.get? b = some u) (heo : ∃ u,h'.get? e = some u)
  (new : x4 P w (upd H x o') h' x o') : HOk P w (upd H x o') h':=fun b u q=>by
 have nown : ∀ c y,H c = some (.own y) → c ≠ x:=fun c y r z=>by subst z; rw [r] at mu; exact mu
 have ntup : ∀ c xs,H c = some (.tup xs) → c ≠ x:=fun c xs r z=>by subst z; rw [r] at mu; exact mu
 by_cases hb : b = x
 ·subst hb; rw [E5] at q; cases q; exact new
 ·rw [F5 hb] at q
  by_cases hbe : b = e
  ·have q' : H b = some (.own x):=by
    rcases he with z | z
    ·exact absurd (hbe.trans z) hb
    ·rw [hbe]; exact z
   rw [q] at q'; cases q'
   obtain ⟨v,hv⟩:=heo
   exact ⟨v,by rw [hbe]; exact hv⟩
  ·refine (ok b u q).stay (fun c v hc r=>k c v ?_ r) (fun c r=>by rw [F5 (nown c b r)]; exact r) fun c xs r=>by rw [F5 (ntup c xs r)]; exact r
   rcases hc with rfl | hc
   ·exact hbe
   ·rintro rfl
    rcases he with z | z
    ·exact nown c b hc z
    ·rw [hc] at z; cases z; exact hb rfl
end
structure Un (fs ex : List Addr) (H H' : Hp) (h h' : Heap) : Prop where
 keep : ∀ b o,h.get? b = some o → H b = none → b ∉ fs → b ∉ ex → h'.get? b = some o
 slot : ∀ b o,h.get? b = some o → H b = none → b ∈ fs → b ∉ ex → ∃ sl,h'.get? b = some { o with slots:=sl }
 free : ∀ b o,h.get? b = some o → H b = none → b ∉ ex → H' b = none
 there : ∀ b o,h.get? b = some o → b ∉ ex → ∃ o',h'.get? b = some o'
 tups : ∀ b xs,H b = some (.tup xs) → H' b = some (.tup xs)
 frzs : ∀ b o u,H b = some (.frz o u) → H' b = some (.frz o u)
 tbls : ∀ b ps,H b = some (.tbl ps) → ∃ more,H' b = some (.tbl (ps ++ more))
section
variable {fs fs' ex ex' : List Addr} {H H1 H2 : Hp} {h h1 h2 h' : Heap} {a x e : Addr} {o : HO}
theorem Un.any (u : Un fs ex H H1 h h1) {b : Addr} {ob : Obj} (q : h.get? b = some ob) (n : H b = none) (hx : b ∉ ex) : ∃ sl,h1.get? b = some { ob with slots:=sl }:=by
 by_cases hb : b ∈ fs
 ·exact u.slot b ob q n hb hx
 ·exact ⟨ob.slots,u.keep b ob q n hb hx⟩
theorem Un.kept (k : ∀ b u,h.get? b = some u → h'.get? b = some u) : Un fs ex H H h h' :=
 ⟨fun b ob q _ _ _=>k b ob q,fun b ob q _ _ _=>⟨ob.slots,k b ob q⟩,fun _ _ _ n _=>n,fun b ob q _=>⟨ob,k b ob q⟩,fun _ _ q=>q,fun _ _ _ q=>q,fun _ ps q=>⟨#[],by rw [q]; simp⟩⟩
theorem Un.refl : Un fs ex H H h h:=Un.kept fun _ _ q=>q
theorem Un.laid (k : ∀ b u,h.get? b = some u → h'.get? b = some u) (hp : h.objs.size ≤ a) (hn : H a = none) : Un fs ex H (upd H a o) h h' where
 keep:=fun b u q _ _ _=>k b u q
 slot:=fun b u q _ _ _=>⟨u.slots,k b u q⟩
 free:=fun b u q n _=>by rw [F5 (Nat.ne_of_lt (Nat.lt_of_lt_of_le (Heap.lt_size q) hp))]; exact n
 there:=fun b u q _=>⟨u,k b u q⟩
 tups:=fun b xs q=>by rw [F5 (G4 q hn)]; exact q
 frzs:=fun b u xs q=>by rw [F5 (G4 q hn)]; exact q
 tbls:=fun b ps q=>⟨#[],by rw [F5 (G4 q hn),q]; simp⟩
theorem Un.write (mu : Mut (H x)) (he : e = x ∨ H e = some (.own x)) (k : ∀ b u,b ≠ e → h.get? b = some u → h'.get? b = some u) (heo : ∃ u,h'.get? e = some u) : Un fs ex H (upd H x o) h h':=by
 have hx : ∀ b,H b = none → b ≠ x:=fun b n z=>by subst z; rw [n] at mu; exact mu
 have hb : ∀ b,H b = none → b ≠ e:=fun b n z=>by
  subst z
  rcases he with r | r
  ·exact hx b n r
  ·rw [n] at r; cases r
 have hm : ∀ b u,H b = some u → ¬ Mut (some u) → b ≠ x:=fun b u q nm z=>by subst z; rw [q] at mu; exact nm mu
 refine ⟨fun b u q n _ _=>k b u (hb b n) q,fun b u q n _ _=>⟨u.slots,k b u (hb b n) q⟩,fun b u q n _=>by rw [F5 (hx b n)]; exact n,fun b u q _=>?_,
  fun b xs q=>by rw [F5 (hm b _ q fun z=>z)]; exact q,fun b u xs q=>by rw [F5 (hm b _ q fun z=>z)]; exact q,fun b ps q=>⟨#[],by rw [F5 (hm b _ q fun z=>z),q]; simp⟩⟩
 by_cases hbe : b = e
 ·subst hbe; exact heo
 ·exact ⟨u,k b u hbe q⟩
end
noncomputable def trk (h : Heap) (H : Hp) : List Addr:=(List.range h.objs.size).filter fun a=>(H a).isSome
noncomputable def aR4 (h : Heap) (H : Hp) : Heap:=PySem.W.hideAll h (trk h H)
theorem bu8 (h : Heap) (H : Hp) : (aR4 h H).objs.size = h.objs.size:=PySem.W.hideAll_size _ _
theorem bJ1 {h : Heap} {H : Hp} {b : Addr} {o : Obj} (e : h.get? b = some o) (n : H b = none) : (aR4 h H).get? b = some o :=
 PySem.W.hideAll_get _ e fun hm=>by
  have q : (H b).isSome = true:=(List.mem_filter.mp hm).2
  rw [n] at q; simp at q
theorem bS2 {h : Heap} {H : Hp} {b : Addr} {o : Obj} (e : (aR4 h H).get? b = some o) : h.get? b = some o ∧ H b = none:=by
 have e' : h.get? b = some o:=PySem.W.of_hideAll (trk h H) e
 refine ⟨e',?_⟩
 cases q : H b with
 | none=>rfl
 | some x =>
  have hm : b ∈ trk h H:=List.mem_filter.mpr ⟨List.mem_range.mpr (Heap.lt_size e'),by simp [q]⟩
  have z : (aR4 h H).get? b = none:=PySem.W.hideAll_none (trk h H) hm
  rw [z] at e; cases e
noncomputable def bY6 (g h : Heap) (L : Addr) : List (Addr × Obj):=(List.range h.objs.size).filterMap fun a=>if a = L ∨ (g.get? a).isSome = true then none else (h.get? a).map fun o=>(a,o)
noncomputable def J6 (g h : Heap) (L d : Addr) : List (Addr × Obj):=(bY6 g h L).filter fun p=>decide (p.1 ≠ d)
end L2
namespace L2
open PySem PySem.Spec PyProof.Rows
structure Mod (K : PySem.W.Frag) (mg : Str → Option Value) (base : Heap) : Prop where
 kin : K.In base
 glob : base.Ns mainGlobals mg
 blt : ∃ mb,base.Ns builtinsNs mb ∧ ∀ x : Str,x ≠ "__name__" → mb x = bootBuiltins x
 nolimit : base.NoLimit
structure Cx where
 prog : Program
 w : World
 K : PySem.W.Frag
 mg : Str → Option Value
 base : Heap
 A : Around
 N : List Str
 s₀ : Shared
 H₀ : Hp
 env : Env
 outer : List Env
 stack : List Env
 ex : List Addr
 fn : Str → Bool
 calm : Bool
 pn : List (Addr × Obj)
 xe : Value → Shared → Prop
noncomputable def frs (l : List Env) : List Addr:=l.filterMap (·.frame)
noncomputable abbrev Cx.fs (X : Cx) : List Addr:=frs X.outer
noncomputable def Vis (sc : Scope) (x : Str) : Prop:=sc.names.lookup x = some .local ∨ sc.names.lookup x = some .cell ∨ sc.names.lookup x = some .free
noncomputable def Loc (sc : Scope) (x : Str) : Prop:=sc.names.lookup x = some .local ∨ sc.names.lookup x = some .cell
noncomputable def cH7 (env : Env) (h : Heap) (m : Str → Option Value) (x : Str) (u : Value) : Prop :=
 (env.kindOf x = some .local ∧ m x = some u) ∨ ((env.kindOf x = some .cell ∨ env.kindOf x = some .free) ∧ ∃ c,env.cells.lookup x = some c ∧ h.IsCell c (some u))
structure Cx.Ok (X : Cx) : Prop where
 mod : Mod X.K X.mg X.base
 kind : X.env.scope.kind = .function
 glob : X.env.globals = mainGlobals
 blt : X.env.builtins = builtinsNs
 above : X.s₀.heap.objs.size ≤ X.env.locals
 inj : ∀ x y c,X.env.cells.lookup x = some c → X.env.cells.lookup y = some c → x = y
 has : ∀ x,(X.env.kindOf x = some .cell ∨ X.env.kindOf x = some .free) → ∃ c,X.env.cells.lookup x = some c
 cab : ∀ x c,X.fn x = true → X.env.cells.lookup x = some c → X.s₀.heap.objs.size ≤ c
 hd : X.calm = true → X.A.handled = none
 frames : X.A.frames = some X.stack
 stk : X.stack = X.outer ∨ (X.stack = X.env :: X.outer ∧ X.env.frame = some X.env.locals)
 exf : ∀ b ∈ X.ex,b ≠ X.env.locals ∧ ∀ x c,X.env.cells.lookup x = some c → c ≠ b
 bs : ∀ b o,X.base.get? b = some o → X.s₀.heap.get? b = some o ∧ X.H₀ b = none
 bsz : X.base.objs.size ≤ X.s₀.heap.objs.size
 noex : ∀ b o,X.base.get? b = some o → b ∉ X.ex
 exfs : ∀ b ∈ X.ex,b ∉ X.fs
 funs : X.s₀.heap.FunFrames X.base X.outer
 frf : ∀ b ∈ X.fs,X.H₀ b = none
structure Inv (X : Cx) (pins : List (Addr × Obj)) (σ : List (Option V)) (H : Hp) (s : Shared) : Prop where
 ok : X.Ok
 os : s.os = X.s₀.os
 bare : AllBare s.gens
 base : Un X.fs X.ex X.H₀ H X.s₀.heap s.heap
 loc : ∃ m,s.heap.Ns X.env.locals m ∧ ∀ (i : Nat) (x : Str) (v : V),X.N[i]? = some x → σ[i]? = some (some v) → Vis X.env.scope x → ∃ u,K8 v u ∧ cH7 X.env s.heap m x u
 cell : ∀ x c,X.env.cells.lookup x = some c → ∃ v,s.heap.IsCell c v
 free : H X.env.locals = none
 freeC : ∀ x c,X.env.cells.lookup x = some c → H c = none
 pin : ∀ p ∈ X.pn ++ pins,s.heap.get? p.1 = some p.2 ∧ H p.1 = none ∧ p.1 ≠ X.env.locals ∧ p.1 ∉ X.fs ∧ ∀ v,p.2.data ≠ .cell v
 hok : HOk X.prog X.w H s.heap
 len : σ.length = X.N.length
section
variable {X : Cx} {pins : List (Addr × Obj)} {σ : List (Option V)} {H H' : Hp} {s : Shared} {h' : Heap}
theorem Cx.Ok.nofr (ok : X.Ok) {b : Addr} {o : Obj} (e : X.base.get? b = some o) : b ∉ X.fs:=fun hb=>by
 have:=(ok.funs.mem hb).1
 rw [e] at this; cases this
theorem Inv.bs (I : Inv X pins σ H s) : ∀ b o,X.base.get? b = some o → s.heap.get? b = some o ∧ H b = none:=fun b o e =>
 ⟨I.base.keep b o (I.ok.bs b o e).1 (I.ok.bs b o e).2 (I.ok.nofr e) (I.ok.noex b o e),I.base.free b o (I.ok.bs b o e).1 (I.ok.bs b o e).2 (I.ok.noex b o e)⟩
theorem Inv.bk (I : Inv X pins σ H s) : ∀ b o,X.base.get? b = some o → s.heap.get? b = some o:=fun b o e=>(I.bs b o e).1
theorem Inv.mod (I : Inv X pins σ H s) : Mod X.K X.mg X.base:=I.ok.mod
theorem Inv.kIn (I : Inv X pins σ H s) : X.K.In s.heap:=I.ok.mod.kin.keeps I.bk
theorem Inv.lt (I : Inv X pins σ H s) : X.env.locals < s.heap.objs.size:=let ⟨_,hn,_⟩:=I.loc; hn.lt
theorem Inv.sz (I : Inv X pins σ H s) : X.s₀.heap.objs.size ≤ s.heap.objs.size:=Nat.le_trans I.ok.above (Nat.le_of_lt I.lt)
theorem Inv.nofs (I : Inv X pins σ H s) {a : Addr} (h : s.heap.objs.size ≤ a) : a ∉ X.fs:=fun hb=>by
 obtain ⟨_,o,ho,_⟩:=I.ok.funs.mem hb
 exact absurd (Nat.lt_of_lt_of_le (Heap.lt_size ho) (Nat.le_trans I.sz h)) (Nat.lt_irrefl _)
theorem Inv.cne (I : Inv X pins σ H s) : ∀ x c,X.env.cells.lookup x = some c → c ≠ X.env.locals:=fun x c e z=>by
 obtain ⟨v,o,ho,hd⟩:=I.cell x c e
 obtain ⟨m,⟨o',es,ep,ho',hd',_⟩,_⟩:=I.loc
 rw [z,ho'] at ho; cases ho; rw [hd'] at hd; cases hd
theorem Inv.funs (I : Inv X pins σ H s) : s.heap.FunFrames X.base X.outer:=by
 have all : ∀ (l : List Env),(∀ b ∈ frs l,b ∈ X.fs) → X.s₀.heap.FunFrames X.base l → s.heap.FunFrames X.base l:=by
  intro l
  induction l with
  | nil=>intro _ _; trivial
  | cons env r ih =>
   intro hs hl
   obtain ⟨hk,⟨L,o,hf,hn,ho,hd⟩,hr⟩:=hl
   have hL : L ∈ X.fs:=hs L (by unfold frs; rw [List.filterMap_cons,hf]; exact List.mem_cons_self)
   obtain ⟨sl,e⟩:=I.base.slot L o ho (I.ok.frf L hL) hL fun z=>I.ok.exfs L z hL
   exact ⟨hk,⟨L,_,hf,hn,e,hd⟩,ih (fun b hb=>hs b (by unfold frs; rw [List.filterMap_cons,hf]; exact List.mem_cons_of_mem _ hb)) hr⟩
 exact all X.outer (fun _ hb=>hb) I.ok.funs
theorem Inv.stack (I : Inv X pins σ H s) : s.heap.FunFrames X.base X.stack:=by
 rcases I.ok.stk with e | ⟨e,hf⟩
 ·rw [e]; exact I.funs
 ·rw [e]
  obtain ⟨m,hn,_⟩:=I.loc
  refine .cons (by rw [I.ok.kind]; decide) hf hn ?_ I.funs
  exact Heap.get?_none_of_le (Nat.le_trans I.ok.bsz I.ok.above)
theorem Inv.stkSub (I : Inv X pins σ H s) : ∀ b ∈ frs X.stack,b ∈ X.env.locals :: X.fs:=fun b hb=>by
 rcases I.ok.stk with e | ⟨e,hf⟩
 ·rw [e] at hb; exact List.mem_cons_of_mem _ hb
 ·rw [e] at hb
  unfold frs at hb
  rw [List.filterMap_cons,hf] at hb
  exact hb
theorem Inv.stkFree (I : Inv X pins σ H s) : ∀ b ∈ frs X.stack,H b = none:=fun b hb=>by
 rcases List.mem_cons.mp (I.stkSub b hb) with e | hb
 ·rw [e]; exact I.free
 ·obtain ⟨_,o,ho,_⟩:=I.ok.funs.mem hb
  exact I.base.free b o ho (I.ok.frf b hb) fun z=>I.ok.exfs b z hb
theorem Inv.step {g' : Array GenState} {t' : Nat} {d' : Drawn} {ch : List Addr} (I : Inv X pins σ H s)
  (hch : ∀ b ∈ ch,(b ∈ X.ex ∨ X.s₀.heap.objs.size ≤ b) ∧ b ≠ X.env.locals ∧ (∀ x c,X.env.cells.lookup x = some c → c ≠ b) ∧ ∀ p ∈ X.pn ++ pins,p.1 ≠ b)
  (keep : ∀ b o,b ≠ X.env.locals → b ∉ X.fs → b ∉ ch → s.heap.get? b = some o → H b = none → h'.get? b = some o)
  (slot : ∀ b o,b ≠ X.env.locals → b ∈ X.fs → b ∉ ch → s.heap.get? b = some o → H b = none → ∃ sl,h'.get? b = some { o with slots:=sl }) (free : ∀ b o,b ∉ ch → s.heap.get? b = some o → H b = none → H' b = none)
  (there : ∀ b o,b ∉ ch → s.heap.get? b = some o → ∃ o',h'.get? b = some o')
  (tups : ∀ b xs,H b = some (.tup xs) → H' b = some (.tup xs)) (frzs : ∀ b o u,H b = some (.frz o u) → H' b = some (.frz o u)) (tbls : ∀ b ps,H b = some (.tbl ps) → ∃ more,H' b = some (.tbl (ps ++ more)))
  (ns : ∀ m,s.heap.Ns X.env.locals m → h'.Ns X.env.locals m) (hok : HOk X.prog X.w H' h') (hg : AllBare g') :
  Inv X pins σ H' { s with heap:=h',gens:=g',drawn:=d',toks:=t' }:=by
 have neL : ∀ b o,X.s₀.heap.get? b = some o → b ≠ X.env.locals:=fun b o e=>Nat.ne_of_lt (Nat.lt_of_lt_of_le (Heap.lt_size e) I.ok.above)
 have neC : ∀ b o,X.s₀.heap.get? b = some o → b ∉ X.ex → b ∉ ch:=fun b o e hx hb=>by
  rcases (hch b hb).1 with z | z
  ·exact hx z
  ·exact absurd (Nat.lt_of_lt_of_le (Heap.lt_size e) z) (Nat.lt_irrefl _)
 have cellK : ∀ x c,X.env.cells.lookup x = some c → ∀ v,s.heap.IsCell c v → h'.IsCell c v:=fun x c e v ⟨o,ho,hd⟩=>by
  have nch : c ∉ ch:=fun z=>(hch c z).2.2.1 x c e rfl
  by_cases hc : c ∈ X.fs
  ·obtain ⟨sl,q⟩:=slot c o (I.cne x c e) hc nch ho (I.freeC x c e)
   exact ⟨_,q,hd⟩
  ·exact ⟨o,keep c o (I.cne x c e) hc nch ho (I.freeC x c e),hd⟩
 refine ⟨I.ok,I.os,hg,⟨fun b o e n hb hx=>?_,fun b o e n hb hx=>?_,fun b o e n hx=>?_,fun b o e hx=>?_,fun b xs e=>tups b xs (I.base.tups b xs e),fun b o xs e=>frzs b o xs (I.base.frzs b o xs e),fun b ps e=>?_⟩,?_,fun x c e=>?_,?_,fun x c e=>?_,fun p hp=>?_,hok,I.len⟩
 ·exact keep b o (neL b o e) hb (neC b o e hx) (I.base.keep b o e n hb hx) (I.base.free b o e n hx)
 ·obtain ⟨sl,e1⟩:=I.base.slot b o e n hb hx
  obtain ⟨sl',e2⟩:=slot b _ (neL b o e) hb (neC b o e hx) e1 (I.base.free b o e n hx)
  exact ⟨sl',e2⟩
 ·obtain ⟨o',e1⟩:=I.base.there b o e hx
  exact free b o' (neC b o e hx) e1 (I.base.free b o e n hx)
 ·obtain ⟨o',e1⟩:=I.base.there b o e hx
  exact there b o' (neC b o e hx) e1
 ·obtain ⟨m1,e1⟩:=I.base.tbls b ps e
  obtain ⟨m2,e2⟩:=tbls b _ e1
  exact ⟨m1 ++ m2,by rw [e2,Array.append_assoc]⟩
 ·obtain ⟨m,hn,hl⟩:=I.loc
  refine ⟨m,ns m hn,fun i x v e1 e2 e3=>?_⟩
  obtain ⟨u,r,l⟩:=hl i x v e1 e2 e3
  refine ⟨u,r,?_⟩
  rcases l with l | ⟨k,c,e,z⟩
  ·exact .inl l
  ·exact .inr ⟨k,c,e,cellK x c e _ z⟩
 ·obtain ⟨v,z⟩:=I.cell x c e
  exact ⟨v,cellK x c e v z⟩
 ·obtain ⟨m,⟨o,_,_,ho,_⟩,_⟩:=I.loc
  exact free _ o (fun z=>(hch _ z).2.1 rfl) ho I.free
 ·obtain ⟨v,o,ho,hd⟩:=I.cell x c e
  exact free c o (fun z=>(hch c z).2.2.1 x c e rfl) ho (I.freeC x c e)
 ·obtain ⟨e,n,ne,nf,d⟩:=I.pin p hp
  have nch : p.1 ∉ ch:=fun z=>(hch p.1 z).2.2.2 p hp rfl
  exact ⟨keep p.1 p.2 ne nf nch e n,free p.1 p.2 nch e n,ne,nf,d⟩
theorem Inv.un {t' : Nat} (I : Inv X pins σ H s) (u : Un X.fs [] H H' s.heap h') (hok : HOk X.prog X.w H' h') : Inv X pins σ H' { s with heap:=h',toks:=t' }:=by
 obtain ⟨m,⟨o,es,ep,ho,r⟩,_⟩:=id I.loc
 obtain ⟨sl,hL⟩:=u.any ho I.free (by simp)
 exact I.step (g':=s.gens) (d':=s.drawn) (ch:=[]) (fun _ z=>nomatch z) (fun b o _ hb _ e n=>u.keep b o e n hb (by simp)) (fun b o _ hb _ e n=>u.slot b o e n hb (by simp)) (fun b o _ e n=>u.free b o e n (by simp)) (fun b o _ e=>u.there b o e (by simp)) u.tups u.frzs u.tbls (fun m' hm=>by
  obtain ⟨o',es',ep',ho',r'⟩:=hm
  rw [ho] at ho'; cases ho'
  exact ⟨_,es',ep',hL,r'⟩) hok I.bare
theorem Inv.call {g' : Array GenState} {t' : Nat} {d' : Drawn} {ch : List Addr} (I : Inv X pins σ H s) (u : Un (frs X.stack) ch H H' s.heap h') (hok : HOk X.prog X.w H' h') (hg : AllBare g')
  (hch : ∀ b ∈ ch,(b ∈ X.ex ∨ X.s₀.heap.objs.size ≤ b) ∧ b ≠ X.env.locals ∧ (∀ x c,X.env.cells.lookup x = some c → c ≠ b) ∧ ∀ p ∈ X.pn ++ pins,p.1 ≠ b) :
  Inv X pins σ H' { s with heap:=h',gens:=g',drawn:=d',toks:=t' }:=by
 obtain ⟨m,⟨o,es,ep,ho,r⟩,_⟩:=id I.loc
 obtain ⟨sl,hL⟩:=u.any ho I.free fun z=>(hch _ z).2.1 rfl
 exact I.step (ch:=ch) hch (fun b o hL hb hc e n=>u.keep b o e n (fun z=>(List.mem_cons.mp (I.stkSub b z)).elim hL hb) hc) (fun b o _ _ hc e n=>u.any e n hc) (fun b o hc e n=>u.free b o e n hc) (fun b o hc e=>u.there b o e hc) u.tups u.frzs u.tbls (fun m' hm=>by
  obtain ⟨o',es',ep',ho',r'⟩:=hm
  rw [ho] at ho'; cases ho'
  exact ⟨_,es',ep',hL,r'⟩) hok hg
theorem Inv.turned {t' : Nat} {it : Addr} (I : Inv X pins σ H s) (k : ∀ b o,b ≠ it → s.heap.get? b = some o → h'.get? b = some o) (hn : H it = none) (hL : it ≠ X.env.locals)
  (h1 : it ∈ X.ex ∨ X.s₀.heap.objs.size ≤ it) (h2 : ∀ x c,X.env.cells.lookup x = some c → c ≠ it) (h3 : ∀ p ∈ X.pn ++ pins,p.1 ≠ it) : Inv X pins σ H { s with heap:=h',toks:=t' }:=by
 have nit : ∀ b u,H b = some u → b ≠ it:=fun b u e z=>by rw [z,hn] at e; cases e
 refine I.step (g':=s.gens) (d':=s.drawn) (ch:=[it]) (fun b hb=>?_) (fun b o _ _ hc e _=>k b o (fun z=>hc (by simp [z])) e) (fun b o _ _ hc e _=>⟨o.slots,k b o (fun z=>hc (by simp [z])) e⟩) (fun _ _ _ _ n=>n)
  (fun b o hc e=>⟨o,k b o (fun z=>hc (by simp [z])) e⟩) (fun _ _ e=>e) (fun _ _ _ e=>e) (fun b ps e=>⟨#[],by rw [e]; simp⟩) (fun m hm=>?_) (fun b u e=>?_) I.bare
 ·have e : b = it:=by simpa using hb
  subst e
  exact ⟨h1,hL,h2,h3⟩
 ·obtain ⟨o,es,ep,ho,r⟩:=hm
  exact ⟨o,es,ep,k _ o (Ne.symm hL) ho,r⟩
 ·refine (I.hok b u e).stay (fun c v hc q=>k c v ?_ q) (fun _ q=>q) fun _ _ q=>q
  rcases hc with z | z
  ·rw [z]; exact nit b u e
  ·exact nit c _ z
theorem Inv.tok (I : Inv X pins σ H s) (t : Nat) : Inv X pins σ H { s with toks:=t }:=I.un (h':=s.heap) (t':=t) Un.refl I.hok
theorem Inv.kept {t' : Nat} (I : Inv X pins σ H s) (k : ∀ b u,s.heap.get? b = some u → h'.get? b = some u) : Inv X pins σ H { s with heap:=h',toks:=t' }:=I.un (Un.kept k) (I.hok.kept k)
theorem Inv.laid {a : Addr} {o : HO} {t' : Nat} (I : Inv X pins σ H s) (k : ∀ b u,s.heap.get? b = some u → h'.get? b = some u) (hp : s.heap.objs.size ≤ a) (new : x4 X.prog X.w (upd H a o) h' a o) :
  Inv X pins σ (upd H a o) { s with heap:=h',toks:=t' }:=I.un (Un.laid k hp (I.hok.fresh hp)) (I.hok.laid k hp new)
theorem Inv.write {x e : Addr} {o : HO} {t' : Nat} (I : Inv X pins σ H s) (mu : Mut (H x)) (he : e = x ∨ H e = some (.own x)) (k : ∀ b u,b ≠ e → s.heap.get? b = some u → h'.get? b = some u) (heo : ∃ u,h'.get? e = some u)
  (new : x4 X.prog X.w (upd H x o) h' x o) : Inv X pins σ (upd H x o) { s with heap:=h',toks:=t' }:=I.un (Un.write mu he k heo) (I.hok.write mu he k heo new)
theorem Inv.pins_of {pins' : List (Addr × Obj)} (I : Inv X pins σ H s) (h : ∀ p ∈ pins',s.heap.get? p.1 = some p.2 ∧ H p.1 = none ∧ p.1 ≠ X.env.locals ∧ p.1 ∉ X.fs ∧ ∀ v,p.2.data ≠ .cell v) : Inv X pins' σ H s :=
 ⟨I.ok,I.os,I.bare,I.base,I.loc,I.cell,I.free,I.freeC,fun p hp=>(List.mem_append.mp hp).elim (fun z=>I.pin p (List.mem_append_left _ z)) (h p),I.hok,I.len⟩
theorem aX5 {N : List Str} (hN : N.Nodup) {i j : Nat} {x : Str} (a : N[i]? = some x) (b : N[j]? = some x) : i = j:=by
 obtain ⟨h1,e1⟩:=List.getElem?_eq_some_iff.mp a
 obtain ⟨h2,e2⟩:=List.getElem?_eq_some_iff.mp b
 exact (List.getElem_inj hN).mp (e1.trans e2.symm)
theorem aK4 {M : Model} {A : Around} {E : Value → Shared → Prop} {i : Nat} {x : Str} {v : V} {u : Value} {Q : Unit → Shared → Prop} (I : Inv X pins σ H s) (hN : X.N.Nodup) (hi : X.N[i]? = some x) (hx : Loc X.env.scope x) (r : K8 v u)
  (h : ∀ s',Inv X pins (σ.set i (some v)) H s' → (∃ a,Heap.SameBut a s.heap s'.heap ∧ (a = X.env.locals ∨ X.env.cells.lookup x = some a)) → Q () s') (hf : X.fn x = true ∨ X.env.scope.names.lookup x = some .local:=by first | exact .inl rfl | exact .inr rfl | assumption) : wpAny M A (storeName X.env x u) Q E s:=by
 obtain ⟨m,hn,hl⟩:=id I.loc
 have hcls : (X.env.scope.kind == .class || (X.env.scope.kind == .module && X.env.locals != X.env.globals)) = false:=by rw [I.ok.kind]; rfl
 have hiσ : i < σ.length:=by rw [I.len]; exact (List.getElem?_eq_some_iff.mp hi).1
 have cne:=I.cne
 have tracked : ∀ {a : Addr} {h' : Heap},(∃ o,s.heap.get? a = some o ∧ H a = none) → Heap.SameBut a s.heap h' → HOk X.prog X.w H h':=fun {a h'} ha hs b ob e=>by
  obtain ⟨_,_,hfree⟩:=ha
  refine (I.hok b ob e).stay (fun c w' hc q=>(hs.2 c ?_).trans q) (fun _ q=>q) fun _ _ q=>q
  rintro rfl
  rcases hc with rfl | hc
  ·rw [hfree] at e; cases e
  ·rw [hfree] at hc; cases hc
 rcases hx with hk | hk
 ·refine wpAny_storeName_local hk hn (fun h' hn' hs=>?_) hcls
  obtain ⟨oL,_,_,hoL,_⟩:=id hn
  refine h _ ⟨I.ok,I.os,I.bare,⟨fun b o e n hb hx=>?_,fun b o e n hb hx=>?_,I.base.free,fun b o e hx=>?_,I.base.tups,I.base.frzs,I.base.tbls⟩,⟨_,hn',fun j y v' e1 e2 e3=>?_⟩,fun y c e=>?_,I.free,I.freeC,fun p hp=>?_,tracked ⟨oL,hoL,I.free⟩ hs,by simpa using I.len⟩ ⟨_,hs,.inl rfl⟩
  ·exact (hs.2 b (Nat.ne_of_lt (Nat.lt_of_lt_of_le (Heap.lt_size e) I.ok.above))).trans (I.base.keep b o e n hb hx)
  ·obtain ⟨sl,e1⟩:=I.base.slot b o e n hb hx
   exact ⟨sl,(hs.2 b (Nat.ne_of_lt (Nat.lt_of_lt_of_le (Heap.lt_size e) I.ok.above))).trans e1⟩
  ·obtain ⟨o',e1⟩:=I.base.there b o e hx
   exact ⟨o',(hs.2 b (Nat.ne_of_lt (Nat.lt_of_lt_of_le (Heap.lt_size e) I.ok.above))).trans e1⟩
  ·by_cases hj : j = i
   ·subst hj
    rw [hi] at e1; cases e1
    rw [List.getElem?_set_self hiσ] at e2
    cases e2
    exact ⟨u,r,.inl ⟨hk,by simp⟩⟩
   ·rw [List.getElem?_set_ne (Ne.symm hj)] at e2
    obtain ⟨u',r',q⟩:=hl j y v' e1 e2 e3
    refine ⟨u',r',?_⟩
    rcases q with ⟨k,e⟩ | ⟨k,c,e,z⟩
    ·refine .inl ⟨k,?_⟩
     have : y ≠ x:=fun e=>hj (aX5 hN e1 (e ▸ hi))
     simp [this,e]
    ·exact .inr ⟨k,c,e,z.sameBut hs (cne y c e)⟩
  ·obtain ⟨w',z⟩:=I.cell y c e
   exact ⟨w',z.sameBut hs (cne y c e)⟩
  ·obtain ⟨e,n,ne,nf,d⟩:=I.pin p hp
   exact ⟨(hs.2 p.1 ne).trans e,n,ne,nf,d⟩
 ·have hfn : X.fn x = true:=by
   rcases hf with z | z
   ·exact z
   ·rw [z] at hk; cases hk
  obtain ⟨c,hc⟩:=I.ok.has x (.inl hk)
  obtain ⟨w',z⟩:=I.cell x c hc
  refine wpAny_storeName_cell I.ok.kind hk hc z (fun h' hc' hs=>?_)
  obtain ⟨oc,hoc,hocd⟩:=id z
  refine h { s with heap:=h' } ⟨I.ok,I.os,I.bare,⟨fun b o e n hb hx=>?_,fun b o e n hb hx=>?_,I.base.free,fun b o e hx=>?_,I.base.tups,I.base.frzs,I.base.tbls⟩,⟨m,hn.sameBut hs (Ne.symm (cne x c hc)),fun j y v' e1 e2 e3=>?_⟩,fun y c' e=>?_,I.free,I.freeC,fun p hp=>?_,tracked ⟨oc,hoc,I.freeC x c hc⟩ hs,by simpa using I.len⟩ ⟨c,hs,.inr hc⟩
  ·exact (hs.2 b (Nat.ne_of_lt (Nat.lt_of_lt_of_le (Heap.lt_size e) (I.ok.cab x c hfn hc)))).trans (I.base.keep b o e n hb hx)
  ·obtain ⟨sl,e1⟩:=I.base.slot b o e n hb hx
   exact ⟨sl,(hs.2 b (Nat.ne_of_lt (Nat.lt_of_lt_of_le (Heap.lt_size e) (I.ok.cab x c hfn hc)))).trans e1⟩
  ·obtain ⟨o',e1⟩:=I.base.there b o e hx
   exact ⟨o',(hs.2 b (Nat.ne_of_lt (Nat.lt_of_lt_of_le (Heap.lt_size e) (I.ok.cab x c hfn hc)))).trans e1⟩
  ·by_cases hj : j = i
   ·subst hj
    rw [hi] at e1; cases e1
    rw [List.getElem?_set_self hiσ] at e2
    cases e2
    exact ⟨u,r,.inr ⟨.inl hk,c,hc,hc'⟩⟩
   ·rw [List.getElem?_set_ne (Ne.symm hj)] at e2
    obtain ⟨u',r',q⟩:=hl j y v' e1 e2 e3
    refine ⟨u',r',?_⟩
    rcases q with q | ⟨k,c',e,z'⟩
    ·exact .inl q
    ·refine .inr ⟨k,c',e,z'.sameBut hs ?_⟩
     rintro rfl
     exact hj (aX5 hN e1 (I.ok.inj _ _ _ e hc ▸ hi))
  ·by_cases hcc : c' = c
   ·subst hcc; exact ⟨_,hc'⟩
   ·obtain ⟨w2,z2⟩:=I.cell y c' e
    exact ⟨w2,z2.sameBut hs hcc⟩
  ·obtain ⟨e,n,ne,nf,d⟩:=I.pin p hp
   refine ⟨(hs.2 p.1 ?_).trans e,n,ne,nf,d⟩
   intro q
   rw [q,hoc] at e
   have q' : oc = p.2:=Option.some.inj e
   exact d w' (by rw [← q']; exact hocd)
theorem as1 {M : Model} {A : Around} {E : Value → Shared → Prop} {i : Nat} {x : Str} {v : V} {u : Value} {Q : Unit → Shared → Prop} (I : Inv X pins σ H s) (hN : X.N.Nodup) (hi : X.N[i]? = some x) (hx : Loc X.env.scope x) (r : K8 v u)
  (h : ∀ s',Inv X pins (σ.set i (some v)) H s' → Q () s') (hf : X.fn x = true ∨ X.env.scope.names.lookup x = some .local:=by first | exact .inl rfl | exact .inr rfl | assumption) : wpAny M A (storeName X.env x u) Q E s :=
 aK4 I hN hi hx r (fun s' I' _=>h s' I') hf
theorem Inv.call' {s' : Shared} {ch : List Addr} (I : Inv X pins σ H s) (ho : s'.os = s.os) (u : Un (frs X.stack) ch H H' s.heap s'.heap) (hok : HOk X.prog X.w H' s'.heap) (hg : AllBare s'.gens)
  (hch : ∀ b ∈ ch,(b ∈ X.ex ∨ X.s₀.heap.objs.size ≤ b) ∧ b ≠ X.env.locals ∧ (∀ x c,X.env.cells.lookup x = some c → c ≠ b) ∧ ∀ p ∈ X.pn ++ pins,p.1 ≠ b) : Inv X pins σ H' s':=by
 obtain ⟨h',g',d',t',o'⟩:=s'
 have e : o' = s.os:=ho
 subst e
 exact I.call (g':=g') (t':=t') (d':=d') u hok hg hch
end
noncomputable abbrev XK:=Value → Option Addr → Hp → Prop
noncomputable abbrev St:=List (Option V)
noncomputable abbrev VK:=V → Hp → Prop
noncomputable abbrev TE:=St → Hp → VK → Prop
noncomputable abbrev TT:=St → Hp → (Bool → Hp → Prop) → Prop
noncomputable abbrev TA:=St → Hp → (List V → Hp → Prop) → Prop
structure Ends where
 nx : St → Hp → Prop
 rt : VK
 bk : St → Hp → Prop:=fun _ _=>False
 ct : St → Hp → Prop:=fun _ _=>False
noncomputable abbrev TS:=Ends → St → Hp → Prop
noncomputable def EP (X : Cx) (pins : List (Addr × Obj)) (σ : St) (Q : VK) (u : Value) (s' : Shared) : Prop:=∃ v H',Inv X pins σ H' s' ∧ K8 v u ∧ Q v H'
noncomputable def TP (X : Cx) (pins : List (Addr × Obj)) (σ : St) (Q : Bool → Hp → Prop) (b : Bool) (s' : Shared) : Prop:=∃ H',Inv X pins σ H' s' ∧ Q b H'
noncomputable def AP (X : Cx) (pins : List (Addr × Obj)) (σ : St) (Q : List V → Hp → Prop) (us : List Value) (s' : Shared) : Prop:=∃ vs H',Inv X pins σ H' s' ∧ G3 vs us ∧ Q vs H'
noncomputable def SP (X : Cx) (pins : List (Addr × Obj)) (D : Ends) (f : Flow) (s' : Shared) : Prop :=
 match f with
 | .next=>∃ σ' H',Inv X pins σ' H' s' ∧ D.nx σ' H'
 | .brk=>∃ σ' H',Inv X pins σ' H' s' ∧ D.bk σ' H'
 | .cont=>∃ σ' H',Inv X pins σ' H' s' ∧ D.ct σ' H'
 | .ret u=>∃ v σ' H',Inv X pins σ' H' s' ∧ K8 v u ∧ D.rt v H'
noncomputable def PE (X : Cx) (e : Expr) (t : TE) : Prop :=
 ∀ (pins : List (Addr × Obj)) (s : Shared) (σ : St) (H : Hp) (Q : VK),Inv X pins σ H s → t σ H Q → wpAny (model X.prog X.w) X.A (eval e X.env) (EP X pins σ Q) X.xe s
noncomputable def PT (X : Cx) (e : Expr) (t : TT) : Prop :=
 ∀ (pins : List (Addr × Obj)) (s : Shared) (σ : St) (H : Hp) (Q : Bool → Hp → Prop),Inv X pins σ H s → t σ H Q → wpAny (model X.prog X.w) X.A (isTrue e X.env (eval e X.env)) (TP X pins σ Q) X.xe s
noncomputable def PW (X : Cx) (e : Expr) (t : TT) : Prop :=
 ∀ (whole : Sem Value) (pins : List (Addr × Obj)) (s : Shared) (σ : St) (H : Hp) (Q : Bool → Hp → Prop),Inv X pins σ H s → t σ H Q → wpAny (model X.prog X.w) X.A (isTrue e X.env whole) (TP X pins σ Q) X.xe s
theorem PW.pt {X : Cx} {e : Expr} {t : TT} (h : PW X e t) : PT X e t:=h _
noncomputable def PA (X : Cx) (es : List Expr) (t : TA) : Prop :=
 ∀ (pos : Pos) (pins : List (Addr × Obj)) (s : Shared) (σ : St) (H : Hp) (Q : List V → Hp → Prop),Inv X pins σ H s → t σ H Q → wpAny (model X.prog X.w) X.A (spliced (backTo pos (starEach es X.env))) (AP X pins σ Q) X.xe s
noncomputable def PS (X : Cx) (st : Stmt) (t : TS) : Prop :=
 ∀ (pins : List (Addr × Obj)) (s : Shared) (σ : St) (H : Hp) (D : Ends),Inv X pins σ H s → t D σ H → wpAny (model X.prog X.w) X.A (exec st X.env) (SP X pins D) X.xe s
noncomputable def PSs (X : Cx) (st : List Stmt) (t : TS) : Prop :=
 ∀ (pins : List (Addr × Obj)) (s : Shared) (σ : St) (H : Hp) (D : Ends),Inv X pins σ H s → t D σ H → wpAny (model X.prog X.w) X.A (execs st X.env) (SP X pins D) X.xe s
theorem thn {α : Type} {t : Sem α} {Q Q' : α → Shared → Prop} {M : Model} {A : Around} {E : Value → Shared → Prop} {s : Shared} (h : wpAny M A t Q E s) (hQ : ∀ a s,Q a s → Q' a s) : wpAny M A t Q' E s:=wpAny_mono h hQ fun _ _ x=>x
end L2
namespace L2
open PySem PySem.Spec PyProof.Rows
section
variable {X : Cx}
theorem bin {a b : Expr} {ta tb : TE} (ha : PE X a ta) (hb : PE X b tb) {pins : List (Addr × Obj)} {s : Shared} {σ : St} {H : Hp} {R : V → V → Hp → Prop} (I : Inv X pins σ H s) (h : ta σ H fun x H1=>tb σ H1 fun y H2=>R x y H2)
  {α : Type} {Q : α → Shared → Prop} {f : Value → Value → Sem α}
  (hf : ∀ v u s2 x y H2,Inv X pins σ H2 s2 → K8 x v → K8 y u → R x y H2 → wpAny (model X.prog X.w) X.A (f v u) Q X.xe s2) :
  wpAny (model X.prog X.w) X.A (eval a X.env) (fun v s₁=>wpAny (model X.prog X.w) X.A (eval b X.env) (fun u s₂=>wpAny (model X.prog X.w) X.A (f v u) Q X.xe s₂) X.xe s₁) X.xe s:=by
 refine thn (ha pins s σ H _ I h) fun v s1 ⟨x,H1,I1,r1,q1⟩=>?_
 refine thn (hb pins s1 σ H1 _ I1 q1) fun u s2 ⟨y,H2,I2,r2,q2⟩=>?_
 exact hf v u s2 x y H2 I2 r1 r2 q2
noncomputable def cw0 (i : Nat) : TE:=fun σ H Q=>∃ v,σ[i]? = some (some v) ∧ Q v H
noncomputable def tC (v : V) : TE:=fun _ H Q=>Q v H
theorem aq0 {i : Nat} {x : Str} {pos : Pos} (hN : X.N[i]? = some x) (hv : Vis X.env.scope x) (hd : (x == ("__debug__" : Str)) = false:=by decide) (hcd : (x == ("__classdict__" : Str)) = false:=by decide) : PE X (.Name x pos) (cw0 i):=by
 intro pins s σ H Q I h
 obtain ⟨v,e,h⟩:=h
 obtain ⟨m,hn,hl⟩:=I.loc
 obtain ⟨u,r,l⟩:=hl i x v hN e hv
 have fin : EP X pins σ Q u s:=⟨v,H,I,r,h⟩
 rcases l with ⟨hk,hm⟩ | ⟨hk,c,hc,hcell⟩
 ·exact wpAny_Name (wpAny_loadName_local I.ok.kind hk hn hm fin) hd
 ·rcases hk with hk | hk
  ·exact wpAny_Name (wpAny_loadName_cell I.ok.kind hk hc hcell fin) hd
  ·exact wpAny_Name (wpAny_loadName_free I.ok.kind hk hc hcell fin hcd) hd
theorem ck5 {i j pos} : PE X (.Constant (.int i) j pos) (tC (.int i)):=fun _ _ _ H _ I h=>wpAny_Constant_int ⟨.int i,H,I.tok _,⟨_,rfl⟩,h⟩
theorem cy0 {b j pos} : PE X (.Constant (.bool b) j pos) (tC (.bl b)):=fun _ _ _ H _ I h=>Constant_bool ⟨.bl b,H,I,rfl,h⟩
theorem ck3 {j pos} : PE X (.Constant .none j pos) (tC .non):=fun _ _ _ H _ I h=>Constant_none ⟨.non,H,I,rfl,h⟩
theorem cj9 {x j pos} : PE X (.Constant (.str x) j pos) (tC (.str x)):=fun _ _ _ H _ I h=>Calls.Constant_str ⟨.str x,H,I.tok _,⟨_,rfl⟩,h⟩
noncomputable def Gl (X : Cx) (x : Str) : Prop:=X.env.kindOf x = some .globalImplicit
theorem aQ7 {E : Value → Shared → Prop} {pins : List (Addr × Obj)} {s : Shared} {σ : St} {H : Hp} {x : Str} {u : Value} {pos : Pos} {Q : Value → Shared → Prop} (I : Inv X pins σ H s) (hg : Gl X x) (hm : X.mg x = some u) (h : Q u s)
  (hd : (x == ("__debug__" : Str)) = false:=by decide) : wpAny (model X.prog X.w) X.A (eval (.Name x pos) X.env) Q E s :=
 Calls.Name_function_global I.ok.kind hg (Calls.loadGlobal_global (by rw [I.ok.glob]; exact I.mod.glob.keeps I.bk) hm h) hd
theorem aQ8 {E : Value → Shared → Prop} {pins : List (Addr × Obj)} {s : Shared} {σ : St} {H : Hp} {x : Str} {u : Value} {pos : Pos} {Q : Value → Shared → Prop} (I : Inv X pins σ H s) (hg : Gl X x) (hm : X.mg x = none) (hv : bootBuiltins x = some u) (h : Q u s)
  (hn : x ≠ "__name__" := by decide) (hd : (x == ("__debug__" : Str)) = false:=by decide) : wpAny (model X.prog X.w) X.A (eval (.Name x pos) X.env) Q E s:=by
 obtain ⟨mb,h1,h2⟩:=I.mod.blt
 exact Calls.Name_function_global I.ok.kind hg (Calls.loadGlobal_builtin (by rw [I.ok.glob]; exact I.mod.glob.keeps I.bk) hm (by rw [I.ok.blt]; exact h1.keeps I.bk) ((h2 x hn).trans hv) h) hd
theorem bR1 {x : Str} {v : V} {u : Value} {pos : Pos} (hg : Gl X x) (hm : X.mg x = some u) (r : K8 v u) (hd : (x == ("__debug__" : Str)) = false:=by decide) : PE X (.Name x pos) (tC v) :=
 fun _ _ _ H _ I h=>aQ7 I hg hm ⟨v,H,I,r,h⟩ hd
theorem bR4 {x : Str} {v : V} {u : Value} {pos : Pos} (hg : Gl X x) (hm : X.mg x = none) (hv : bootBuiltins x = some u) (r : K8 v u) (hn : x ≠ "__name__" := by decide) (hd : (x == ("__debug__" : Str)) = false:=by decide) : PE X (.Name x pos) (tC v) :=
 fun _ _ _ H _ I h=>aQ8 I hg hm hv ⟨v,H,I,r,h⟩ hn hd
variable {a b : Expr} {ta tb : TE} {pos : Pos}
variable {tA tB' : TT} {J6 : List Expr}
noncomputable def cF7 (t u : TT) : TT:=fun σ H Q=>t σ H fun c H1=>if c = true then u σ H1 Q else Q false H1
noncomputable def tOr (t u : TT) : TT:=fun σ H Q=>t σ H fun c H1=>if c = true then Q true H1 else u σ H1 Q
noncomputable def cF3 (t : TT) : TT:=fun σ H Q=>t σ H fun c H1=>Q (!c) H1
theorem bP8 (ha : PT X a tA) : PW X (.BoolOp .And [a] pos) tA:=by
 intro wh pins s σ H Q I h
 refine isTrue_and (thn (ha pins s σ H Q I h) fun c s1 e=>?_)
 cases c with
 | true=>exact isTrue_and_nil e
 | false=>exact e
theorem ci8 (ha : PT X a tA) : PW X (.BoolOp .Or [a] pos) tA:=by
 intro wh pins s σ H Q I h
 refine isTrue_or (thn (ha pins s σ H Q I h) fun c s1 e=>?_)
 cases c with
 | false=>exact isTrue_or_nil e
 | true=>exact e
theorem bC3 (ha : PT X a tA) (hb : PW X (.BoolOp .And (b :: J6) pos) tB') : PW X (.BoolOp .And (a :: b :: J6) pos) (cF7 tA tB'):=by
 intro wh pins s σ H Q I h
 refine isTrue_and (thn (ha pins s σ H _ I h) fun c s1 ⟨H1,I1,q1⟩=>?_)
 cases c with
 | true=>exact hb wh pins s1 σ H1 Q I1 q1
 | false=>exact ⟨H1,I1,q1⟩
theorem bZ6 (ha : PT X a tA) (hb : PW X (.BoolOp .Or (b :: J6) pos) tB') : PW X (.BoolOp .Or (a :: b :: J6) pos) (tOr tA tB'):=by
 intro wh pins s σ H Q I h
 refine isTrue_or (thn (ha pins s σ H _ I h) fun c s1 ⟨H1,I1,q1⟩=>?_)
 cases c with
 | true=>exact ⟨H1,I1,q1⟩
 | false=>exact hb wh pins s1 σ H1 Q I1 q1
theorem cj0 (ha : PT X a tA) : PT X (.UnaryOp .Not a pos) (cF3 tA):=by
 intro pins s σ H Q I h
 exact isTrue_not (ha pins s σ H (fun c H1=>Q (!c) H1) I h)
noncomputable def cw8 (ta tb : TE) : TE:=fun σ H Q=>ta σ H fun x H1=>∃ c,x = .bl c ∧ if c = true then tb σ H1 Q else Q (.bl false) H1
noncomputable def cF2 (ta tb : TE) : TE:=fun σ H Q=>ta σ H fun x H1=>∃ c,x = .bl c ∧ if c = true then Q (.bl true) H1 else tb σ H1 Q
noncomputable def cw2 (ta : TE) : TE:=fun σ H Q=>ta σ H fun x H1=>∃ c,x = .bl c ∧ Q (.bl (!c)) H1
theorem ck1 {op} {t : TE} (h : PE X a t) : PE X (.BoolOp op [a] pos) t:=fun pins s σ H Q I hw=>BoolOp_one (h pins s σ H Q I hw)
theorem bD3 (ha : PE X a ta) (hb : PE X (.BoolOp .And (b :: J6) pos) tb) : PE X (.BoolOp .And (a :: b :: J6) pos) (cw8 ta tb):=by
 intro pins s σ H Q I h
 refine BoolOp_and (thn (ha pins s σ H _ I h) fun v s1 ⟨x,H1,I1,r1,q1⟩=>?_)
 obtain ⟨c,rfl,q1⟩:=q1
 cases r1
 refine wpAny_truthy_bool ?_
 cases c with
 | true=>exact hb pins s1 σ H1 Q I1 q1
 | false=>exact ⟨.bl false,H1,I1,rfl,q1⟩
theorem bZ9 (ha : PE X a ta) (hb : PE X (.BoolOp .Or (b :: J6) pos) tb) : PE X (.BoolOp .Or (a :: b :: J6) pos) (cF2 ta tb):=by
 intro pins s σ H Q I h
 refine BoolOp_or (thn (ha pins s σ H _ I h) fun v s1 ⟨x,H1,I1,r1,q1⟩=>?_)
 obtain ⟨c,rfl,q1⟩:=q1
 cases r1
 refine wpAny_truthy_bool ?_
 cases c with
 | false=>exact hb pins s1 σ H1 Q I1 q1
 | true=>exact ⟨.bl true,H1,I1,rfl,q1⟩
theorem ck2 (ha : PE X a ta) : PE X (.UnaryOp .Not a pos) (cw2 ta):=by
 intro pins s σ H Q I h
 refine UnaryOp_ (thn (ha pins s σ H _ I h) fun v s1 ⟨x,H1,I1,r1,q1⟩=>?_)
 obtain ⟨c,rfl,q1⟩:=q1
 cases r1
 exact not_of (wpAny_truthy_bool ⟨.bl (!c),H1,I1,rfl,q1⟩)
noncomputable def tIf (t : TT) (ta tb : TE) : TE:=fun σ H Q=>t σ H fun c H1=>if c = true then ta σ H1 Q else tb σ H1 Q
theorem aW2 {c : Expr} (hc : PT X c tA) (ha : PE X a ta) (hb : PE X b tb) : PE X (.IfExp c a b pos) (tIf tA ta tb):=by
 intro pins s σ H Q I h
 refine wpAny_IfExp (thn (hc pins s σ H _ I h) fun d s1 ⟨H1,I1,q1⟩=>?_)
 cases d with
 | true=>exact ha pins s1 σ H1 Q I1 q1
 | false=>exact hb pins s1 σ H1 Q I1 q1
end
end L2
namespace L2
open PySem PySem.Spec PyProof.Rows
noncomputable def SqL (K : PySem.W.Frag) (H : Hp) (a : Addr) (xs : List V) : Prop :=
 Rd H a (.lst xs) ∨
  ∃ (o : Obj) (its : Array Value) (n : Nat),K.lookup a = some o ∧ o.cls = .type "list" ∧ o.dict = none ∧ o.data = .seq its n ∧ its.size ≤ sizeLine ∧ G3 xs its.toList
noncomputable def SqT (K : PySem.W.Frag) (H : Hp) (a : Addr) (xs : List V) : Prop :=
 Rd H a (.tup xs) ∨
  ∃ (o : Obj) (its : Array Value) (n : Nat),K.lookup a = some o ∧ o.cls = .type "tuple" ∧ o.dict = none ∧ o.data = .seq its n ∧ its.size ≤ sizeLine ∧ G3 xs its.toList
noncomputable def cH5 : Value → Option V
 | .none=>some .non
 | .bool b=>some (.bl b)
 | .int i _=>some (.int i)
 | .str x _=>some (.str x)
 | .bytes b _=>some (.byt b)
 | .float b _=>some (.flt b)
 | .ref a=>some (.ref a)
 | .type n=>some (.ty n)
 | _=>none
theorem K8.abs {x : V} {u : Value} (r : K8 x u) : cH5 u = some x:=by
 cases x with
 | non=>cases r; rfl
 | bl _=>cases r; rfl
 | int _=>obtain ⟨t,rfl⟩:=r; rfl
 | str _=>obtain ⟨t,rfl⟩:=r; rfl
 | byt _=>obtain ⟨t,rfl⟩:=r; rfl
 | flt _=>obtain ⟨t,rfl⟩:=r; rfl
 | ref _=>cases r; rfl
 | ty _=>cases r; rfl
theorem K8.inj {x y : V} {u : Value} (r : K8 x u) (q : K8 y u) : x = y:=Option.some.inj (r.abs.symm.trans q.abs)
theorem G3.inj : ∀ {xs ys : List V} {us : List Value},G3 xs us → G3 ys us → xs = ys
 | _,_,_,.nil,.nil=>rfl
 | _,_,_,.cons r t,.cons r' t'=>by rw [r.inj r',G3.inj t t']
section
variable {X : Cx} {pins : List (Addr × Obj)} {σ : St} {H : Hp} {s : Shared} {a : Addr} {xs ys : List V}
theorem SqL.of {K : PySem.W.Frag} (h : H a = some (.lst xs)) : SqL K H a xs:=.inl (.inl h)
theorem SqT.of {K : PySem.W.Frag} (h : H a = some (.tup xs)) : SqT K H a xs:=.inl (.inl h)
theorem Inv.list (I : Inv X pins σ H s) (h : SqL X.K H a xs) : ∃ its : List Value,G3 xs its ∧ PlainL s.heap a its.toArray ∧ xs.length ≤ sizeLine:=by
 rcases h with h | ⟨o,its,n,hk,hc,hd,hs,hz,r⟩
 ·obtain ⟨z,its,n,r,e⟩:=h.ok I.hok
  exact ⟨its,r,⟨_,n,e,rfl,rfl,rfl⟩,z⟩
 ·refine ⟨its.toList,r,⟨o,n,I.kIn a o hk,hc,hd,by simpa using hs⟩,?_⟩
  have e:=r.length
  simp only [Array.length_toList] at e
  omega
theorem Inv.tupN (I : Inv X pins σ H s) (h : SqT X.K H a xs) : ∃ its : List Value,G3 xs its ∧ aH2 s.heap a its.toArray ∧ xs.length ≤ sizeLine:=by
 rcases h with h | ⟨o,its,n,hk,hc,hd,hs,hz,r⟩
 ·obtain ⟨z,its,r,p⟩:=h.ok I.hok
  exact ⟨its,r,p,z⟩
 ·refine ⟨its.toList,r,⟨o,I.kIn a o hk,hc,⟨n,by simpa using hs⟩,hd⟩,?_⟩
  have e:=r.length
  simp only [Array.length_toList] at e
  omega
theorem Inv.tuple (I : Inv X pins σ H s) (h : SqT X.K H a xs) : ∃ its : List Value,G3 xs its ∧ IsTup s.heap a its.toArray ∧ xs.length ≤ sizeLine :=
 let ⟨its,r,p,z⟩:=I.tupN h; ⟨its,r,p.tup,z⟩
theorem Inv.list_inj (I : Inv X pins σ H s) (h : SqL X.K H a xs) (h' : SqL X.K H a ys) : xs = ys:=by
 obtain ⟨its,r,⟨o,n,e,_,_,d⟩,_⟩:=I.list h
 obtain ⟨its',r',⟨o',n',e',_,_,d'⟩,_⟩:=I.list h'
 rw [e] at e'; cases e'
 rw [d] at d'
 injection d' with d1 _
 have : its = its':=by simpa using congrArg Array.toList d1
 subst this
 exact r.inj r'
theorem Inv.tuple_inj (I : Inv X pins σ H s) (h : SqT X.K H a xs) (h' : SqT X.K H a ys) : xs = ys:=by
 obtain ⟨its,r,⟨o,e,_,n,d⟩,_⟩:=I.tuple h
 obtain ⟨its',r',⟨o',e',_,n',d'⟩,_⟩:=I.tuple h'
 rw [e] at e'; cases e'
 rw [d] at d'
 injection d' with d1 _
 have : its = its':=by simpa using congrArg Array.toList d1
 subst this
 exact r.inj r'
end
noncomputable abbrev Cx.wish (X : Cx) (E : Value → Shared → Prop) : Cx:={ X with xe:=E }
noncomputable abbrev Cx.nox (X : Cx) : Cx:=X.wish fun _ _=>False
theorem Cx.Ok.wish {X : Cx} (ok : X.Ok) (E : Value → Shared → Prop) : (X.wish E).Ok :=
 ⟨ok.mod,ok.kind,ok.glob,ok.blt,ok.above,ok.inj,ok.has,ok.cab,ok.hd,ok.frames,ok.stk,ok.exf,ok.bs,ok.bsz,ok.noex,ok.exfs,ok.funs,ok.frf⟩
theorem Cx.Ok.unwish {X : Cx} {E : Value → Shared → Prop} (ok : (X.wish E).Ok) : X.Ok :=
 ⟨ok.mod,ok.kind,ok.glob,ok.blt,ok.above,ok.inj,ok.has,ok.cab,ok.hd,ok.frames,ok.stk,ok.exf,ok.bs,ok.bsz,ok.noex,ok.exfs,ok.funs,ok.frf⟩
section
variable {X : Cx} {pins : List (Addr × Obj)} {σ : St} {H : Hp} {s : Shared} {E : Value → Shared → Prop}
theorem Inv.wish (I : Inv X pins σ H s) (E : Value → Shared → Prop) : Inv (X.wish E) pins σ H s:=⟨I.ok.wish E,I.os,I.bare,I.base,I.loc,I.cell,I.free,I.freeC,I.pin,I.hok,I.len⟩
theorem Inv.unwish (I : Inv (X.wish E) pins σ H s) : Inv X pins σ H s:=⟨I.ok.unwish,I.os,I.bare,I.base,I.loc,I.cell,I.free,I.freeC,I.pin,I.hok,I.len⟩
theorem SP.unwish {D : Ends} {f : Flow} {s' : Shared} (h : SP (X.wish E) pins D f s') : SP X pins D f s':=by
 cases f with
 | next=>obtain ⟨σ',H',I,q⟩:=h; exact ⟨σ',H',I.unwish,q⟩
 | brk=>obtain ⟨σ',H',I,q⟩:=h; exact ⟨σ',H',I.unwish,q⟩
 | cont=>obtain ⟨σ',H',I,q⟩:=h; exact ⟨σ',H',I.unwish,q⟩
 | ret u=>obtain ⟨v,σ',H',I,r,q⟩:=h; exact ⟨v,σ',H',I.unwish,r,q⟩
theorem PSs.nox {st : List Stmt} {t : TS} (h : PSs X.nox st t) : PSs X st t:=fun pins s σ H D I hw =>
 wpAny_mono (h pins s σ H D (I.wish _) hw) (fun _ _ q=>q.unwish) fun _ _ z=>False.elim z
end
section
variable {X : Cx} {st : Stmt} {J6 : List Stmt} {t u : TS} {e : Expr} {te : TE} {pos : Pos}
noncomputable def bZ2 : TS:=fun D σ H=>D.nx σ H
noncomputable def cE9 (t u : TS) : TS:=fun D σ H=>t { D with nx:=u D } σ H
theorem bQ3 : PSs X [] bZ2:=fun _ _ σ H _ I h=>wpAny_execs_nil ⟨σ,H,I,h⟩
theorem as7 (h1 : PS X st t) (h2 : PSs X J6 u) : PSs X (st :: J6) (cE9 t u):=by
 intro pins s σ H D I h
 refine wpAny_execs_cons (thn (h1 pins s σ H { D with nx:=u D } I h) fun f s1 q=>?_)
 cases f with
 | next =>
  obtain ⟨σ',H',I',q⟩:=q
  exact h2 pins s1 σ' H' D I' q
 | ret v=>exact q
 | brk=>exact q
 | cont=>exact q
theorem bQ2 (h1 : PS X st t) : PSs X [st] t:=by
 intro pins s σ H D I h
 refine wpAny_execs_cons (thn (h1 pins s σ H D I h) fun f s1 q=>?_)
 cases f with
 | next=>exact wpAny_execs_nil q
 | ret v=>exact q
 | brk=>exact q
 | cont=>exact q
noncomputable def ci0 : TS:=fun D σ H=>D.bk σ H
noncomputable def cw5 : TS:=fun D σ H=>D.ct σ H
theorem bQ4 : PS X (.Pass pos) bZ2:=fun _ _ σ H _ I h=>wpAny_Pass ⟨σ,H,I,h⟩
theorem bC7 : PS X (.Break pos) ci0:=fun _ _ σ H _ I h=>wpAny_Break ⟨σ,H,I,h⟩
theorem aV9 : PS X (.Continue pos) cw5:=fun _ _ σ H _ I h=>wpAny_Continue ⟨σ,H,I,h⟩
theorem Inv.quiet {pins : List (Addr × Obj)} {σ : St} {H : Hp} {s : Shared} (I : Inv X pins σ H s) : interactive X.env = false:=by simp [interactive,I.ok.kind]
noncomputable def cw4 (te : TE) : TS:=fun D σ H=>te σ H fun _ H1=>D.nx σ H1
theorem aP2 (he : PE X e te) (hs : swapsWith e none pos.line X.env = pure false:=by rfl) : PS X (.Expr e pos) (cw4 te):=by
 intro pins s σ H D I h
 exact wpAny_Expr_any (thn (he pins s σ H _ I h) fun v s1 ⟨x,H1,I1,r1,q1⟩=>⟨σ,H1,I1,q1⟩) I.quiet hs
noncomputable def cF0 (te : TE) : TS:=fun D σ H=>te σ H D.rt
theorem cj2 (he : PE X e te) : PS X (.Return (some e) pos) (cF0 te):=by
 intro pins s σ H D I h
 exact wpAny_Return_some (thn (he pins s σ H _ I h) fun v s1 ⟨x,H1,I1,r1,q1⟩=>⟨x,σ,H1,I1,r1,q1⟩)
noncomputable def cF5 (c : TT) (t u : TS) : TS:=fun D σ H=>c σ H fun b H1=>if b = true then t D σ H1 else u D σ H1
theorem bZ7 {c : Expr} {a b : List Stmt} {tc : TT} (hc : PT X c tc) (ha : PSs X a t) (hb : PSs X b u) : PS X (.If c a b pos) (cF5 tc t u):=by
 intro pins s σ H D I h
 refine wpAny_If (thn (hc pins s σ H _ I h) fun d s1 ⟨H1,I1,q1⟩=>?_)
 cases d with
 | true=>exact ha pins s1 σ H1 D I1 q1
 | false=>exact hb pins s1 σ H1 D I1 q1
noncomputable def ch9 : TS:=fun _ _ _=>False
theorem ab0 {sts : List Stmt} : PSs X sts ch9:=fun _ _ _ _ _ _ h=>h.elim
end
noncomputable abbrev TG:=V → St → Hp → (St → Hp → Prop) → Prop
noncomputable abbrev TGs:=List V → St → Hp → (St → Hp → Prop) → Prop
noncomputable def PG (X : Cx) (target : Expr) (t : TG) : Prop :=
 ∀ (pins : List (Addr × Obj)) (s : Shared) (σ : St) (H : Hp) (v : V) (u : Value) (Q : St → Hp → Prop),Inv X pins σ H s → K8 v u → t v σ H Q →
  wpAny (model X.prog X.w) X.A (assign target X.env u) (fun _ s'=>∃ σ' H',Inv X pins σ' H' s' ∧ Q σ' H') X.xe s
noncomputable def PGs (X : Cx) (ts : List Expr) (t : TGs) : Prop :=
 ∀ (pins : List (Addr × Obj)) (s : Shared) (σ : St) (H : Hp) (vs : List V) (us : List Value) (Q : St → Hp → Prop),Inv X pins σ H s → G3 vs us → t vs σ H Q →
  wpAny (model X.prog X.w) X.A (assignInOrder ((assignEach ts X.env).map (·.2)) us) (fun _ s'=>∃ σ' H',Inv X pins σ' H' s' ∧ Q σ' H') X.xe s
section
variable {X : Cx} {pos : Pos}
noncomputable def ca9 (i : Nat) : TG:=fun v σ H Q=>Q (σ.set i (some v)) H
theorem bR0 {i : Nat} {x : Str} (hN : X.N.Nodup) (hi : X.N[i]? = some x) (hx : Loc X.env.scope x) (hf : X.fn x = true ∨ X.env.scope.names.lookup x = some .local:=by first | exact .inl rfl | exact .inr rfl | assumption) : PG X (.Name x pos) (ca9 i):=by
 intro pins s σ H v u Q I r h
 exact wpAny_assign_Name (as1 I hN hi hx r (fun s' I'=>⟨_,H,I',h⟩) hf)
noncomputable def cH4 : TGs:=fun vs σ H Q=>vs = [] ∧ Q σ H
noncomputable def cB6 (t : TG) (u : TGs) : TGs:=fun vs σ H Q=>∃ v r,vs = v :: r ∧ t v σ H fun σ' H'=>u r σ' H' Q
theorem bQ9 : PGs X [] cH4:=by
 intro pins s σ H vs us Q I r h
 obtain ⟨e,h⟩:=h
 subst e
 cases r
 exact assignInOrder_nil ⟨σ,H,I,h⟩
theorem bD1 {e : Expr} {es : List Expr} {t : TG} {u : TGs} (h1 : PG X e t) (h2 : PGs X es u)
  (hs : (assignEach (e :: es) X.env).map (·.2) = assign e X.env :: (assignEach es X.env).map (·.2):=by rfl) : PGs X (e :: es) (cB6 t u):=by
 intro pins s σ H vs us Q I r h
 obtain ⟨v,vr,e1,h⟩:=h
 subst e1
 cases r with
 | cons r rr =>
  rw [hs]
  refine assignInOrder_cons (thn (h1 pins s σ H _ _ _ I r h) fun _ s1 ⟨σ1,H1,I1,q1⟩=>?_)
  exact h2 pins s1 σ1 H1 _ _ Q I1 rr q1
noncomputable def cH3 (K : PySem.W.Frag) (n : Nat) (t : TGs) : TG:=fun v σ H Q=>∃ a xs,v = .ref a ∧ SqT K H a xs ∧ xs.length = n ∧ t xs σ H Q
theorem cj7 {es : List Expr} {k : Nat} {t : TGs} {n : Nat} (hc : X.calm = true) (h : PGs X es t)
  (hn : (assignEach es X.env).length = n:=by rfl) (hst : (assignEach es X.env).findIdx? (·.1) = none:=by rfl) : PG X (.Tuple es k pos) (cH3 X.K n t):=by
 intro pins s σ H v u Q I r hw
 obtain ⟨a,xs,e1,hq,hl,hw⟩:=hw
 subst e1
 cases r
 obtain ⟨its,rv,ht,hz⟩:=I.tuple hq
 refine assign_Tuple_tuple (I.ok.hd hc) ht (by simp [hn,← hl,rv.length]) hst fun h' hx=>?_
 have I1 : Inv X pins σ H { s with heap:=h' }:=I.kept (t':=s.toks) fun b o e=>hx b o (Nat.ne_of_lt (Heap.lt_size e)) e
 exact h pins _ σ H xs _ Q I1 (by simpa using rv) hw
noncomputable def cw7 (te : TE) (g : TG) : TS:=fun D σ H=>te σ H fun x H1=>g x σ H1 D.nx
theorem cj5 {tg e : Expr} {te : TE} {g : TG} (he : PE X e te) (hg : PG X tg g) (hs : swapsWithSole [tg] e pos.line X.env = pure false:=by rfl) (hw : swappedStores [tg] e X.env = pure none:=by rfl)
  (h1 : (assignEach [tg] X.env).map (·.2) = [assign tg X.env]:=by rfl) : PS X (.Assign [tg] e pos) (cw7 te g):=by
 intro pins s σ H D I h
 refine wpAny_Assign_stores (thn (he pins s σ H _ I h) fun v s1 ⟨x,H1,I1,r1,q1⟩=>?_) hs hw
 rw [h1]
 exact thn (hg pins s1 σ H1 x v _ I1 r1 q1) fun _ s2 q=>q
theorem bC6 {i : Nat} {x : Str} {e : Expr} {te : TE} {pos' : Pos} (hN : X.N.Nodup) (hi : X.N[i]? = some x) (hx : Loc X.env.scope x) (he : PE X e te) (hs : swapsWith e (some (.Name x pos')) pos.line X.env = pure false:=by rfl) (hf : X.fn x = true ∨ X.env.scope.names.lookup x = some .local:=by first | exact .inl rfl | exact .inr rfl | assumption) :
  PS X (.Assign [.Name x pos'] e pos) (cw7 te (ca9 i)):=by
 intro pins s σ H D I h
 refine wpAny_Assign_Name (thn (he pins s σ H _ I h) fun v s1 ⟨y,H1,I1,r1,q1⟩=>?_) hs
 exact as1 I1 hN hi hx r1 (fun s2 I2=>⟨_,H1,I2,q1⟩) hf
noncomputable def cF1 (i j : Nat) (ta : TA) : TS:=fun D σ H=>ta σ H fun vs H1=>∃ v w,vs = [v,w] ∧ D.nx ((σ.set i (some v)).set j (some w)) H1
theorem cj3 {i j : Nat} {x y : Str} {a b : Expr} {ta : TA} {px py pt : Pos} {kt k2 pt2} (hc : X.calm = true) (hN : X.N.Nodup) (hi : X.N[i]? = some x) (hj : X.N[j]? = some y) (hij : i ≠ j)
  (hx : X.env.scope.names.lookup x = some .local) (hy : X.env.scope.names.lookup y = some .local) (ha : PA X [a,b] ta)
  (hw : swappedStores [.Tuple [.Name x px,.Name y py] kt pt] (.Tuple [a,b] k2 pt2) X.env = pure (some [x,y]))
  (hs : swapsWithSole [.Tuple [.Name x px,.Name y py] kt pt] (.Tuple [a,b] k2 pt2) pos.line X.env = pure false:=by rfl) :
  PS X (.Assign [.Tuple [.Name x px,.Name y py] kt pt] (.Tuple [a,b] k2 pt2) pos) (cF1 i j ta):=by
 intro pins s σ H D I h
 rw [exec_Assign_arm]
 refine wpAny_bind (wpAny_standAt ?_)
 rw [hs]
 refine wpAny_bind (wpAny_pure ?_)
 rw [if_neg (by decide)]
 refine wpAny_bind (Tuple_ (thn (ha _ pins s σ H _ I h) fun us s1 ⟨vs,H1,I1,r1,q1⟩=>?_))
 obtain ⟨v,w,e1,q1⟩:=q1
 subst e1
 obtain ⟨u1,u2,rfl,rv,rw'⟩ : ∃ u1 u2,us = [u1,u2] ∧ K8 v u1 ∧ K8 w u2:=by
  cases r1 with
  | cons p q =>
   cases q with
   | cons p' q' =>
    cases q'
    exact ⟨_,_,rfl,p,p'⟩
 refine wpAny_newObj_type ?_ (by show 2 ≤ sizeLine; decide)
 have I2 : Inv X pins σ H1 { s1 with heap:=s1.heap.push { cls:=.type "tuple", data:=.seq [u1,u2].toArray } }:=I1.kept (t':=s1.toks) fun b o e=>Heap.get?_push_of_some _ e
 rw [hw]
 refine wpAny_bind (wpAny_pure ?_)
 show wpAny (model X.prog X.w) X.A (do rule "assign.swapped-stores"; let items ← unpackItems (.ref s1.heap.objs.size) 2 none; assignInOrder [fun v=>bindName X.env y v,fun v=>bindName X.env x v] items.reverse; pure Flow.next) _ _ _
 refine wpAny_bind (wpAny_rule (wpAny_bind (unpackItems_tuple (items:=#[u1,u2]) (I.ok.hd hc) (IsTup.new s1.heap _) fun h' hx'=>?_)))
 have I3:=I2.kept (h':=h') (t':=s1.toks) fun b o e=>hx' b o (Nat.ne_of_lt (Heap.lt_size e)) e
 show wpAny _ _ (assignInOrder [fun v=>bindName X.env y v,fun v=>bindName X.env x v] [u2,u1] >>= fun _=>pure Flow.next) _ _ _
 refine wpAny_bind (assignInOrder_cons (wpAny_bindName (as1 I3 hN hj (.inl hy) rw' (fun s2 I4=>?_) (.inr hy))))
 refine assignInOrder_cons (wpAny_bindName (as1 I4 hN hi (.inl hx) rv (fun s3 I5=>assignInOrder_nil (wpAny_pure ?_)) (.inr hx)))
 rw [List.set_comm _ _ (Ne.symm hij)] at I5
 exact ⟨_,H1,I5,q1⟩
end
section
variable {X : Cx} {pos : Pos}
noncomputable def ch8 (c : TT) (tb : TS) : TS:=fun D σ H=>∃ W : Nat → St → Hp → Prop,(∃ m,W m σ H) ∧ ∀ m σ H,W m σ H →
 c σ H fun b H1=>if b = true then ∃ N : St → Hp → Prop,(∀ σ' H',N σ' H' → ∃ m',m' < m ∧ W m' σ' H') ∧ tb { D with nx:=N,ct:=N,bk:=D.nx } σ H1 else D.nx σ H1
theorem bC5 {c : Expr} {body : List Stmt} {tc : TT} {tb : TS} (hp : PassesOwn (model X.prog X.w) X.A X.env X.xe) (hc : PT X c tc) (hb : PSs X body tb) : PS X (.While c body [] pos) (ch8 tc tb):=by
 intro pins s σ H D I h
 obtain ⟨W,⟨m0,w0⟩,turn⟩:=h
 refine wpAny_While (codeAny_whileLoop (fun n s'=>∃ σ' H',Inv X pins σ' H' s' ∧ W n σ' H') ?_ m0 ⟨σ,H,I,w0⟩)
 rintro n s1 ⟨σ1,H1,I1,w1⟩
 refine wpAny_passesOwn hp (thn (hc pins s1 σ1 H1 _ I1 (turn n σ1 H1 w1)) fun b s2 ⟨H2,I2,q2⟩=>?_)
 cases b with
 | true =>
  obtain ⟨N,hN,q2⟩:=q2
  rw [if_pos rfl]
  refine wpAny_passesOwn hp (thn (hb pins s2 σ1 H2 _ I2 q2) fun f s3 q3=>?_)
  cases f with
  | next =>
   obtain ⟨σ3,H3,I3,n3⟩:=q3
   obtain ⟨m',hm,w3⟩:=hN σ3 H3 n3
   exact ⟨m',hm,σ3,H3,I3,w3⟩
  | cont =>
   obtain ⟨σ3,H3,I3,n3⟩:=q3
   obtain ⟨m',hm,w3⟩:=hN σ3 H3 n3
   exact ⟨m',hm,σ3,H3,I3,w3⟩
  | brk=>exact q3
  | ret v=>exact q3
 | false =>
  rw [if_neg Bool.false_ne_true]
  exact wpAny_execs_nil ⟨σ1,H2,I2,q2⟩
end
structure It where
 go : Nat → Hp → Prop
 yld : Nat → Hp → V → Hp → Prop
 stop : Nat → Hp → Prop
noncomputable def aH8 (X : Cx) (pins : List (Addr × Obj)) (H : Hp) (b : Addr) : Prop :=
 H b = none ∧ b ≠ X.env.locals ∧ b ∉ X.fs ∧ (b ∈ X.ex ∨ X.s₀.heap.objs.size ≤ b) ∧ (∀ x c,X.env.cells.lookup x = some c → c ≠ b) ∧ ∀ p ∈ X.pn ++ pins,p.1 ≠ b
theorem Inv.fpOk {X : Cx} {pins : List (Addr × Obj)} {σ : St} {H H' : Hp} {s : Shared} {b : Addr} (I : Inv X pins σ H s) (hb : s.heap.objs.size ≤ b) (hn : H' b = none) : aH8 X pins H' b:=by
 refine ⟨hn,Nat.ne_of_gt (Nat.lt_of_lt_of_le I.lt hb),I.nofs hb,.inr (Nat.le_trans I.sz hb),fun x c e z=>?_,fun p hp z=>?_⟩
 ·obtain ⟨v,q⟩:=I.cell x c e
  exact absurd (Nat.lt_of_lt_of_le q.lt (by rw [z]; exact hb)) (Nat.lt_irrefl _)
 ·exact absurd (Nat.lt_of_lt_of_le (Heap.lt_size (I.pin p hp).1) (by rw [z]; exact hb)) (Nat.lt_irrefl _)
structure Turn (P : Program) (w : World) (K : PySem.W.Frag) (tg : Expr) (J : It) (fp : List Addr) (it : Addr) (tn : Nat → Heap → Prop) : Prop where
 mem : it ∈ fp
 obj : ∀ i h,tn i h → ∀ b ∈ fp,∃ o,h.get? b = some o ∧ ∀ v,o.data ≠ .cell v
 keep : ∀ i h h',tn i h → (∀ b ∈ fp,∀ o,h.get? b = some o → h'.get? b = some o) → tn i h'
 item : ∀ (X : Cx),X.prog = P → X.w = w → X.K = K → X.calm = true → ∀ (i : Nat) (pins : List (Addr × Obj)) (s : Shared) (σ : St) (H : Hp) (E : Value → Shared → Prop),Inv X pins σ H s → (∀ b ∈ fp,aH8 X pins H b) → tn i s.heap → J.go i H →
  wpAny (model P w) X.A (pyNext (.ref it)) (fun r s1=>∃ u,r = some u ∧
   wpAny (model P w) X.A (letOwnedTupleGo tg (.ref it) u) (fun _ s2=>∃ x H',Inv X pins σ H' s2 ∧ K8 x u ∧ J.yld i H x H' ∧ tn (i + 1) s2.heap ∧ ∀ b ∈ fp,H' b = none) E s1) E s
 done : ∀ (X : Cx),X.prog = P → X.w = w → X.K = K → X.calm = true → ∀ (i : Nat) (pins : List (Addr × Obj)) (s : Shared) (σ : St) (H : Hp) (E : Value → Shared → Prop),Inv X pins σ H s → (∀ b ∈ fp,aH8 X pins H b) → tn i s.heap → J.stop i H →
  wpAny (model P w) X.A (pyNext (.ref it)) (fun r s1=>r = none ∧ Inv X pins σ H s1) E s
 self : ∀ (A : Around) (i : Nat) (s : Shared) (Q : Value → Shared → Prop) (E : Value → Shared → Prop),tn i s.heap → Q (.ref it) s → wpAny (model P w) A (pyIter (.ref it)) Q E s
noncomputable abbrev TI:=St → Hp → (It → Hp → Prop) → Prop
noncomputable def PIE (X : Cx) (pins : List (Addr × Obj)) (σ : St) (tg : Expr) (R : It → Hp → Prop) (itv : Value) (s2 : Shared) : Prop :=
 ∃ (it : Addr) (fp : List Addr) (tn : Nat → Heap → Prop) (J : It) (H' : Hp),itv = .ref it ∧ Inv X pins σ H' s2 ∧ Turn X.prog X.w X.K tg J fp it tn ∧ tn 0 s2.heap ∧ (∀ b ∈ fp,aH8 X pins H' b) ∧ R J H'
noncomputable def PI (X : Cx) (tg iter : Expr) (wi : TI) : Prop :=
 ∀ (pins : List (Addr × Obj)) (s : Shared) (σ : St) (H : Hp) (R : It → Hp → Prop),Inv X pins σ H s → wi σ H R →
  wpAny (model X.prog X.w) X.A (eval iter X.env) (fun v s1=>wpAny (model X.prog X.w) X.A (pyIter v) (PIE X pins σ tg R) X.xe s1) X.xe s
theorem bo7 {M : Model} {A : Around} {E : Value → Shared → Prop} {s : Shared} {tg : Expr} {it : Addr} {u : Value} {o : Obj} {n : String} {vs : Array Value} {Q : Unit → Shared → Prop} (ho : s.heap.get? it = some o) (hc : o.cls = .type n) (hd : o.data = .fields vs)
    (hn : ["enumerate", "zip", "dict_itemiterator", "dict_reverseitemiterator", "odict_iterator", "itertools.zip_longest", "itertools.pairwise"].contains n = false) (hQ : Q () s) : wpAny M A (letOwnedTupleGo tg (.ref it) u) Q E s:=by
  unfold letOwnedTupleGo
  cases tg <;> first
    | exact wpAny_pure hQ
    | (cases u <;> first
        | exact wpAny_pure hQ
        | (refine wpAny_bind (wpAny_load ho ?_)
           rw [hc,hd]
           show wpAny M A (if (["enumerate", "zip", "dict_itemiterator", "dict_reverseitemiterator", "odict_iterator", "itertools.zip_longest", "itertools.pairwise"].contains n && vs[0]? == some (rawInt _)) = true then _ else _) Q E s
           rw [if_neg (by intro h; rw [hn,Bool.false_and] at h; cases h)]
           exact wpAny_pure hQ))
noncomputable def Itl (K : PySem.W.Frag) (a : Addr) : It :=
 ⟨fun i H=>∃ xs x,SqL K H a xs ∧ xs[i]? = some x,fun i H x H'=>H' = H ∧ ∀ xs,SqL K H a xs → xs[i]? = some x,fun i H=>∃ xs,SqL K H a xs ∧ xs.length ≤ i⟩
noncomputable def Itt (K : PySem.W.Frag) (a : Addr) : It :=
 ⟨fun i H=>∃ xs x,SqT K H a xs ∧ xs[i]? = some x,fun i H x H'=>H' = H ∧ ∀ xs,SqT K H a xs → xs[i]? = some x,fun i H=>∃ xs,SqT K H a xs ∧ xs.length ≤ i⟩
noncomputable def Itr (lo : Int) (n : Nat) : It:=⟨fun i _=>i < n,fun i H x H'=>H' = H ∧ x = .int (lo + i),fun i _=>n ≤ i⟩
theorem bq6 {P : Program} {w : World} {K : PySem.W.Frag} {tg : Expr} (a it : Addr) : Turn P w K tg (Itl K a) [it] it (fun i h=>h.IsListIter it a i) where
 mem:=by simp
 obj:=fun i h st b hb=>by
  have e : b = it:=by simpa using hb
  subst e
  obtain ⟨o,e,c,d⟩:=st
  exact ⟨o,e,fun v z=>by rw [d] at z; cases z⟩
 keep:=fun i h h' st k=>st.at fun o e=>k it (by simp) o e
 item:=by
  intro X hP hw hK hc i pins s σ H E I hf st hg
  subst hP hw hK
  obtain ⟨xs,x,hq,hx⟩:=hg
  obtain ⟨its,rv,p,hz⟩:=I.list hq
  obtain ⟨u,hu,ru⟩:=rv.get hx
  obtain ⟨f0,f1,f2,f3,f4,f5⟩:=hf it (by simp)
  refine wpAny_pyNext_list_item st p.isList (x:=u) (by simpa using hu) fun h' st' sb=>?_
  have I1 : Inv X pins σ H { s with heap:=h' }:=I.turned (t':=s.toks) (fun b o hb e=>(sb.2 b hb).trans e) f0 f1 f3 f4 f5
  obtain ⟨o,e,c,d⟩:=id st'
  exact ⟨u,rfl,bo7 (s:={ s with heap:=h' }) e c d (by decide) ⟨x,H,I1,ru,⟨rfl,fun ys hy=>by rw [I.list_inj hy hq]; exact hx⟩,st',fun b hb=>(hf b hb).1⟩⟩
 done:=by
  intro X hP hw hK hc i pins s σ H E I hf st hg
  subst hP hw hK
  obtain ⟨xs,hq,hx⟩:=hg
  obtain ⟨its,rv,p,hz⟩:=I.list hq
  obtain ⟨f0,f1,f2,f3,f4,f5⟩:=hf it (by simp)
  have hl:=rv.length
  exact wpAny_pyNext_list_end (I.ok.hd hc) st p.isList (by simp; omega) fun h' eb=>⟨rfl,I.turned (t':=s.toks) (fun b o hb e=>eb b o hb e) f0 f1 f3 f4 f5⟩
 self:=fun _ _ _ _ _ st h=>wpAny_pyIter_listiter st h
theorem be2 {P : Program} {w : World} {K : PySem.W.Frag} {tg : Expr} (a it : Addr) : Turn P w K tg (Itt K a) [it] it (fun i h=>h.IsTupleIter it a i) where
 mem:=by simp
 obj:=fun i h st b hb=>by
  have e : b = it:=by simpa using hb
  subst e
  obtain ⟨o,e,c,d⟩:=st
  exact ⟨o,e,fun v z=>by rw [d] at z; cases z⟩
 keep:=fun i h h' st k=>st.at fun o e=>k it (by simp) o e
 item:=by
  intro X hP hw hK hc i pins s σ H E I hf st hg
  subst hP hw hK
  obtain ⟨xs,x,hq,hx⟩:=hg
  obtain ⟨its,rv,p,hz⟩:=I.tuple hq
  obtain ⟨u,hu,ru⟩:=rv.get hx
  obtain ⟨f0,f1,f2,f3,f4,f5⟩:=hf it (by simp)
  refine wpAny_pyNext_tuple_item st (show s.heap.IsTuple a its.toArray from p) (x:=u) (by simpa using hu) fun h' st' sb=>?_
  have I1 : Inv X pins σ H { s with heap:=h' }:=I.turned (t':=s.toks) (fun b o hb e=>(sb.2 b hb).trans e) f0 f1 f3 f4 f5
  obtain ⟨o,e,c,d⟩:=id st'
  exact ⟨u,rfl,bo7 (s:={ s with heap:=h' }) e c d (by decide) ⟨x,H,I1,ru,⟨rfl,fun ys hy=>by rw [I.tuple_inj hy hq]; exact hx⟩,st',fun b hb=>(hf b hb).1⟩⟩
 done:=by
  intro X hP hw hK hc i pins s σ H E I hf st hg
  subst hP hw hK
  obtain ⟨xs,hq,hx⟩:=hg
  obtain ⟨its,rv,p,hz⟩:=I.tuple hq
  obtain ⟨f0,f1,f2,f3,f4,f5⟩:=hf it (by simp)
  have hl:=rv.length
  exact wpAny_pyNext_tuple_end (I.ok.hd hc) st (show s.heap.IsTuple a its.toArray from p) (by simp; omega) fun h' eb=>⟨rfl,I.turned (t':=s.toks) (fun b o hb e=>eb b o hb e) f0 f1 f3 f4 f5⟩
 self:=fun _ _ _ _ _ st h=>wpAny_pyIter_tupleiter st h
theorem be3 {P : Program} {w : World} {K : PySem.W.Frag} {tg : Expr} (it : Addr) (lo : Int) (n : Nat) : Turn P w K tg (Itr lo n) [it] it (fun i h=>IsRangeIter h it (lo + (i : Nat) * 1) ((n : Int) - (i : Nat)) 1) where
 mem:=by simp
 obj:=fun i h st b hb=>by
  have e : b = it:=by simpa using hb
  subst e
  exact ⟨_,st,fun v z=>by
   have z' : Data.fields _ = Data.cell v:=z
   cases z'⟩
 keep:=fun i h h' st k=>k it (by simp) _ st
 item:=by
  intro X hP hw hK hc i pins s σ H E I hf st hg
  subst hP hw hK
  obtain ⟨f0,f1,f2,f3,f4,f5⟩:=hf it (by simp)
  have W:=Walks.range (prog:=X.prog) (w:=X.w) (I.ok.hd hc) it lo 1 n
  refine W.item i s _ _ hg st fun v h' tk hv st' kk=>?_
  obtain ⟨t,rfl⟩:=hv
  have I1 : Inv X pins σ H { s with heap:=h',toks:=tk }:=I.turned (fun b o hb e=>kk b o (by simpa using hb) e) f0 f1 f3 f4 f5
  refine ⟨_,rfl,bo7 (s:={ s with heap:=h',toks:=tk }) (n := "range_iterator") st' rfl rfl (by decide) ⟨.int (lo + i),H,I1,⟨t,?_⟩,⟨rfl,rfl⟩,st',fun b hb=>(hf b hb).1⟩⟩
  rw [Int.mul_one]
 done:=by
  intro X hP hw hK hc i pins s σ H E I hf st hg
  subst hP hw hK
  obtain ⟨f0,f1,f2,f3,f4,f5⟩:=hf it (by simp)
  exact wpAny_pyNext_range_end (I.ok.hd hc) st (by have : n ≤ i:=hg; omega) fun h' eb=>⟨rfl,I.turned (t':=s.toks) (fun b o hb e=>eb b o hb e) f0 f1 f3 f4 f5⟩
 self:=fun _ _ _ _ _ st h=>wpAny_pyIter_rangeiter st h
end L2
namespace L2
open PySem PySem.Spec PyProof.Rows
section
variable {X : Cx} {tg : Expr}
noncomputable def cB4 (K : PySem.W.Frag) (tl : TE) : TI:=fun σ H R=>tl σ H fun x H1=>∃ a,x = .ref a ∧ (∃ xs,SqL K H1 a xs) ∧ R (Itl K a) H1
noncomputable def cH2 (K : PySem.W.Frag) (tl : TE) : TI:=fun σ H R=>tl σ H fun x H1=>∃ a,x = .ref a ∧ (∃ xs,SqT K H1 a xs) ∧ R (Itt K a) H1
theorem bQ8 {l : Expr} {tl : TE} (hl : PE X l tl) : PI X tg l (cB4 X.K tl):=by
 intro pins s σ H R I h
 refine thn (hl pins s σ H _ I h) fun v s1 ⟨x,H1,I1,r1,q1⟩=>?_
 obtain ⟨a,e,⟨xs,hq⟩,q⟩:=q1
 subst e
 cases r1
 obtain ⟨its,rv,p,hz⟩:=I1.list hq
 refine wpAny_pyIter_list p.isList ?_
 refine ⟨s1.heap.objs.size,[s1.heap.objs.size],_,_,H1,rfl,I1.kept (t':=s1.toks) fun b o e=>Heap.get?_push_of_some _ e,bq6 a _,⟨_,Heap.get?_push_size _ rfl,rfl,rfl⟩,fun b hb=>?_,q⟩
 have e : b = s1.heap.objs.size:=by simpa using hb
 subst e
 exact I1.fpOk (Nat.le_refl _) (I1.hok.fresh (Nat.le_refl _))
theorem cj6 {l : Expr} {tl : TE} (hl : PE X l tl) : PI X tg l (cH2 X.K tl):=by
 intro pins s σ H R I h
 refine thn (hl pins s σ H _ I h) fun v s1 ⟨x,H1,I1,r1,q1⟩=>?_
 obtain ⟨a,e,⟨xs,hq⟩,q⟩:=q1
 subst e
 cases r1
 obtain ⟨its,rv,p,hz⟩:=I1.tuple hq
 refine wpAny_pyIter_tuple (show s1.heap.IsTuple a its.toArray from p) ?_
 refine ⟨s1.heap.objs.size,[s1.heap.objs.size],_,_,H1,rfl,I1.kept (t':=s1.toks) fun b o e=>Heap.get?_push_of_some _ e,be2 a _,⟨_,Heap.get?_push_size _ rfl,rfl,rfl⟩,fun b hb=>?_,q⟩
 have e : b = s1.heap.objs.size:=by simpa using hb
 subst e
 exact I1.fpOk (Nat.le_refl _) (I1.hok.fresh (Nat.le_refl _))
theorem bC1 {pins : List (Addr × Obj)} {σ : St} {H : Hp} {s : Shared} {R : It → Hp → Prop} {E : Value → Shared → Prop} {lo hi : Int} {t u v : Tok} {tk : Nat} (I : Inv X pins σ H s) (h1 : -(2 ^ 62) ≤ lo) (h2 : lo < 2 ^ 62) (h3 : -(2 ^ 62) ≤ hi) (h4 : hi < 2 ^ 62)
  (q : R (Itr lo (hi - lo).toNat) H) : wpAny (model X.prog X.w) X.A (pyIter (.ref s.heap.objs.size)) (PIE X pins σ tg R) E { s with heap:=s.heap.push { cls:=.type "range", data:=.fields #[.int lo t,.int hi u,.int 1 v] },toks:=tk }:=by
 refine wpAny_pyIter_range (IsRange.new ..) (small_one h1 h2 h3 h4) ?_
 have I1 : Inv X pins σ H { s with heap:=s.heap.push { cls:=.type "range", data:=.fields #[.int lo t,.int hi u,.int 1 v] },toks:=tk }:=I.kept fun b o e=>Heap.get?_push_of_some _ e
 refine ⟨(s.heap.push { cls:=.type "range", data:=.fields #[.int lo t,.int hi u,.int 1 v] }).objs.size,[(s.heap.push { cls:=.type "range", data:=.fields #[.int lo t,.int hi u,.int 1 v] }).objs.size],_,_,H,rfl,
  I1.kept (t':=tk) fun b o e=>Heap.get?_push_of_some _ e,be3 _ lo (hi - lo).toNat,?_,fun b hb=>?_,q⟩
 ·have e1 : lo + ((0 : Nat) : Int) * 1 = lo:=by simp
  have e2 : (((hi - lo).toNat : Nat) : Int) - ((0 : Nat) : Int) = Builtin.Range.rangeSize lo hi 1:=by rw [rangeSize_one]; split <;> omega
  show IsRangeIter _ _ (lo + ((0 : Nat) : Int) * 1) ((((hi - lo).toNat : Nat) : Int) - ((0 : Nat) : Int)) 1
  rw [e1,e2]
  exact Heap.get?_push_size _ rfl
 ·have e : b = (s.heap.push { cls:=.type "range", data:=.fields #[.int lo t,.int hi u,.int 1 v] }).objs.size:=by simpa using hb
  subst e
  exact I1.fpOk (Nat.le_refl _) (I1.hok.fresh (Nat.le_refl _))
noncomputable def cB3 (ta : TA) : TI:=fun σ H R=>ta σ H fun vs H1=>∃ j : Int,vs = [.int j] ∧ -(2 ^ 62) ≤ j ∧ j < 2 ^ 62 ∧ R (Itr 0 j.toNat) H1
theorem br7 {a : Expr} {ta : TA} {p pos : Pos} (hg : Gl X "range") (hm : X.mg "range" = none) (ha : PA X [a] ta) (hs : starEach [a] X.env = [(false,eval a X.env)]:=by rfl) : PI X tg (.Call (.Name "range" p) [a] [] pos) (cB3 ta):=by
 intro pins s σ H R I h
 refine Call_ (aQ8 I hg hm boot_range (PyProof.Rows.callWith_type1 (thn (ha pos pins s σ H _ I h) fun us s1 ⟨vs,H1,I1,r1,q1⟩=>?_) hs rfl))
 obtain ⟨j,e,q1,q2,q⟩:=q1
 subst e
 cases r1 with
 | cons r rr =>
  cases rr
  obtain ⟨t,rfl⟩:=r
  exact call_range_1 (bC1 I1 (by omega) (by omega) q1 q2 (by simpa using q))
noncomputable def cF6 (wi : TI) (g : TG) (tb : TS) : TS:=fun D σ H=>wi σ H fun J H1=>∃ W : Nat → Nat → St → Hp → Prop,(∃ m,W 0 m σ H1) ∧ ∀ i m σ H,W i m σ H →
 (J.stop i H ∧ D.nx σ H) ∨ (J.go i H ∧ ∃ N : St → Hp → Prop,(∀ σ' H',N σ' H' → ∃ m',m' < m ∧ W (i + 1) m' σ' H') ∧ ∀ x H',J.yld i H x H' → g x σ H' fun σ2 H2=>tb { D with nx:=N,ct:=N,bk:=D.nx } σ2 H2)
noncomputable def aE7 (fp : List Addr) (h : Heap) : List (Addr × Obj):=fp.filterMap fun b=>(h.get? b).map fun o=>(b,o)
theorem ad9 {fp : List Addr} {h : Heap} {b : Addr} {o : Obj} (hb : b ∈ fp) (e : h.get? b = some o) : (b,o) ∈ aE7 fp h:=List.mem_filterMap.mpr ⟨b,hb,by rw [e]; rfl⟩
theorem bs2 {fp : List Addr} {h : Heap} {p : Addr × Obj} (hp : p ∈ aE7 fp h) : p.1 ∈ fp ∧ h.get? p.1 = some p.2:=by
 obtain ⟨b,hb,e⟩:=List.mem_filterMap.mp hp
 cases q : h.get? b with
 | none=>rw [q] at e; cases e
 | some o =>
  rw [q] at e
  have e' : (b,o) = p:=Option.some.inj e
  subst e'
  exact ⟨hb,q⟩
theorem Inv.pinned {pins : List (Addr × Obj)} {σ : St} {H : Hp} {s : Shared} {fp : List Addr} (I : Inv X pins σ H s) (hf : ∀ b ∈ fp,aH8 X pins H b) (ho : ∀ b ∈ fp,∃ o,s.heap.get? b = some o ∧ ∀ v,o.data ≠ .cell v) : Inv X (pins ++ aE7 fp s.heap) σ H s :=
 I.pins_of fun p hp=>(List.mem_append.mp hp).elim (fun z=>I.pin p (List.mem_append_right _ z)) fun z=>by
  obtain ⟨hb,e⟩:=bs2 z
  obtain ⟨f0,f1,f2,_⟩:=hf p.1 hb
  obtain ⟨o,e',d⟩:=ho p.1 hb
  rw [e] at e'; cases e'
  exact ⟨e,f0,f1,f2,d⟩
theorem Inv.unpinned {pins pl : List (Addr × Obj)} {σ : St} {H : Hp} {s : Shared} (I : Inv X (pins ++ pl) σ H s) : Inv X pins σ H s:=I.pins_of fun p hp=>I.pin p (List.mem_append_right _ (List.mem_append_left _ hp))
theorem cj4 {iter : Expr} {body : List Stmt} {wi : TI} {g : TG} {tb : TS} {pos : Pos} (hp : PassesOwn (model X.prog X.w) X.A X.env X.xe) (hc : X.calm = true) (hi : PI X tg iter wi) (hg : PG X tg g) (hb : PSs X body tb)
  (hs : ∀ x,foldedSetIterable iter X.env x = pure x:=by intro _; rfl) : PS X (.For tg iter body [] pos) (cF6 wi g tb):=by
 intro pins s σ H D I h
 refine wpAny_For (thn (hi pins s σ H _ I h) fun v s1 h1=>thn h1 fun itv s2 h2=>?_) hs
 obtain ⟨it,fp,tn,J,H2,e,I2,T,st2,f2,W,⟨m0,w0⟩,turn⟩:=h2
 subst e
 have stat : ∀ {H' : Hp},(∀ b ∈ fp,H' b = none) → ∀ b ∈ fp,aH8 X pins H' b:=fun hn b hb=>⟨hn b hb,(f2 b hb).2⟩
 refine codeAny_forLoop_any (fun n s'=>∃ i σ' H',Inv X pins σ' H' s' ∧ tn i s'.heap ∧ (∀ b ∈ fp,H' b = none) ∧ W i n σ' H') ?_ m0 ⟨0,σ,H2,I2,st2,fun b hb=>(f2 b hb).1,w0⟩
 rintro n s3 ⟨i,σ3,H3,I3,st3,fr3,w3⟩
 rcases turn i n σ3 H3 w3 with ⟨stop,qn⟩ | ⟨go,N,hN,step⟩
 ·refine wpAny_passesOwn hp (thn (T.done X rfl rfl rfl hc i pins s3 σ3 H3 X.xe I3 (stat fr3) st3 stop) fun r s4 ⟨hr,I4⟩=>?_)
  subst hr
  exact wpAny_execs_nil ⟨σ3,H3,I4,qn⟩
 ·refine wpAny_passesOwn hp (thn (T.item X rfl rfl rfl hc i pins s3 σ3 H3 X.xe I3 (stat fr3) st3 go) fun r s4 ⟨u,hr,h4⟩=>?_)
  subst hr
  refine wpAny_passesOwn hp (thn h4 fun _ s5 ⟨x,H5,I5,r5,y5,st5,fr5⟩=>?_)
  have I5':=I5.pinned (stat fr5) (T.obj _ _ st5)
  refine wpAny_passesOwn hp (thn (hg _ s5 σ3 H5 x u _ I5' r5 (step x H5 y5)) fun _ s6 ⟨σ6,H6,I6,q6⟩=>?_)
  refine wpAny_passesOwn hp (thn (hb _ s6 σ6 H6 _ I6 q6) fun f s7 q7=>?_)
  have again : ∀ {σ7 : St} {H7 : Hp},Inv X (pins ++ aE7 fp s5.heap) σ7 H7 s7 → N σ7 H7 → ∃ m,m < n ∧ ∃ i σ' H',Inv X pins σ' H' s7 ∧ tn i s7.heap ∧ (∀ b ∈ fp,H' b = none) ∧ W i m σ' H':=fun {σ7 H7} I7 n7=>by
   obtain ⟨m',hm,w7⟩:=hN σ7 H7 n7
   refine ⟨m',hm,i + 1,σ7,H7,I7.unpinned,T.keep _ _ _ st5 fun b hb o e=>(I7.pin (b,o) (List.mem_append_right _ (List.mem_append_right _ (ad9 hb e)))).1,fun b hb=>?_,w7⟩
   obtain ⟨o,e,d⟩:=T.obj _ _ st5 b hb
   exact (I7.pin (b,o) (List.mem_append_right _ (List.mem_append_right _ (ad9 hb e)))).2.1
  cases f with
  | next=>obtain ⟨σ7,H7,I7,n7⟩:=q7; exact again I7 n7
  | cont=>obtain ⟨σ7,H7,I7,n7⟩:=q7; exact again I7 n7
  | brk=>obtain ⟨σ7,H7,I7,q7⟩:=q7; exact ⟨σ7,H7,I7.unpinned,q7⟩
  | ret v=>obtain ⟨x7,σ7,H7,I7,r7,q7⟩:=q7; exact ⟨x7,σ7,H7,I7.unpinned,r7,q7⟩
end
end L2
namespace L2
open PySem PySem.Spec PyProof.Rows
noncomputable abbrev R2:=V → V → Hp → VK → Prop
noncomputable def OpR (X : Cx) (f : Value → Value → Sem Value) (r : R2) : Prop :=
 ∀ (pins : List (Addr × Obj)) (s : Shared) (σ : St) (H : Hp) (x y : V) (v u : Value) (Q : VK),Inv X pins σ H s → K8 x v → K8 y u → r x y H Q →
  wpAny (model X.prog X.w) X.A (f v u) (EP X pins σ Q) X.xe s
noncomputable def UnR (X : Cx) (f : Value → Sem Value) (r : V → Hp → VK → Prop) : Prop :=
 ∀ (pins : List (Addr × Obj)) (s : Shared) (σ : St) (H : Hp) (x : V) (v : Value) (Q : VK),Inv X pins σ H s → K8 x v → r x H Q →
  wpAny (model X.prog X.w) X.A (f v) (EP X pins σ Q) X.xe s
noncomputable def y6 (X : Cx) (f : Value) (r : List V → Hp → VK → Prop) : Prop :=
 ∀ (pins : List (Addr × Obj)) (s : Shared) (σ : St) (H : Hp) (xs : List V) (us : List Value) (Q : VK),Inv X pins σ H s → G3 xs us → r xs H Q →
  wpAny (model X.prog X.w) X.A (call f us) (EP X pins σ Q) X.xe s
noncomputable def cH6 (X : Cx) (r : V → Hp → (Bool → Hp → Prop) → Prop) : Prop :=
 ∀ (pins : List (Addr × Obj)) (s : Shared) (σ : St) (H : Hp) (x : V) (v : Value) (Q : Bool → Hp → Prop),Inv X pins σ H s → K8 x v → r x H Q →
  wpAny (model X.prog X.w) X.A (truthy v) (TP X pins σ Q) X.xe s
noncomputable def tOp (r : R2) (ta tb : TE) : TE:=fun σ H Q=>ta σ H fun x H1=>tb σ H1 fun y H2=>r x y H2 Q
noncomputable def tUn (r : V → Hp → VK → Prop) (ta : TE) : TE:=fun σ H Q=>ta σ H fun x H1=>r x H1 Q
noncomputable def rI (C : Int → Int → Prop) (g : Int → Int → V) : R2:=fun x y H Q=>∃ i j,x = .int i ∧ y = .int j ∧ C i j ∧ Q (g i j) H
noncomputable def rI0 (g : Int → Int → V) : R2:=fun x y H Q=>∃ i j,x = .int i ∧ y = .int j ∧ Q (g i j) H
noncomputable def rU (g : Int → V) : V → Hp → VK → Prop:=fun x H Q=>∃ i,x = .int i ∧ Q (g i) H
section
variable {X : Cx} {a b c : Expr} {ta tb tc : TE} {pos : Pos}
theorem ct0 (ha : PE X a ta) (hb : PE X b tb) {pins : List (Addr × Obj)} {s : Shared} {σ : St} {H : Hp} {R : V → V → Hp → Prop} (I : Inv X pins σ H s)
  (h : ta σ H fun x H1=>tb σ H1 fun y H2=>R x y H2) {Q : Value → Shared → Prop} {f : Value → Value → Sem Value}
  (hf : ∀ v u s2 x y H2,Inv X pins σ H2 s2 → K8 x v → K8 y u → R x y H2 → wpAny (model X.prog X.w) X.A (f v u) Q X.xe s2) :
  wpAny (model X.prog X.w) X.A (eval a X.env) (fun v s₁=>wpAny (model X.prog X.w) X.A (eval b X.env) (fun u s₂=>wpAny (model X.prog X.w) X.A (f v u) Q X.xe s₂) X.xe s₁) X.xe s:=by
 refine thn (ha pins s σ H _ I h) fun v s1 ⟨x,H1,I1,r1,q1⟩=>?_
 refine thn (hb pins s1 σ H1 _ I1 q1) fun u s2 ⟨y,H2,I2,r2,q2⟩=>?_
 exact hf v u s2 x y H2 I2 r1 r2 q2
theorem ca0 {op : Operator} {r : R2} (ho : OpR X (binaryOp op) r) (ha : PE X a ta) (hb : PE X b tb) : PE X (.BinOp a op b pos) (tOp r ta tb):=by
 intro pins s σ H Q I h
 exact wpAny_BinOp (ct0 ha hb I h fun v u s2 x y H2 I2 rx ry q=>ho pins s2 σ H2 x y v u Q I2 rx ry q)
theorem cx9 {op : UnaryOp} {r : V → Hp → VK → Prop} (ho : UnR X (unaryOp op) r) (ha : PE X a ta) : PE X (.UnaryOp op a pos) (tUn r ta):=by
 intro pins s σ H Q I h
 exact UnaryOp_ (thn (ha pins s σ H _ I h) fun v s1 ⟨x,H1,I1,r1,q1⟩=>ho pins s1 σ H1 x v Q I1 r1 q1)
theorem opI {f : Value → Value → Sem Value} {C : Int → Int → Prop} {g : Int → Int → Int}
  (rule : ∀ (i j : Int) (t u : Tok) (s : Shared) (Q : Value → Shared → Prop) (E : Value → Shared → Prop),C i j → Q (.int (g i j) s.toks) { s with toks:=s.toks + 1 } → wpAny (model X.prog X.w) X.A (f (.int i t) (.int j u)) Q E s) :
  OpR X f (rI C fun i j=>.int (g i j)):=by
 intro pins s σ H x y v u Q I rx ry h
 obtain ⟨i,j,rfl,rfl,hc,q⟩:=h
 obtain ⟨t,rfl⟩:=rx
 obtain ⟨t',rfl⟩:=ry
 exact rule i j t t' s _ _ hc ⟨.int (g i j),H,I.tok _,⟨_,rfl⟩,q⟩
theorem cy6 {f : Value → Value → Sem Value} {g : Int → Int → Int}
  (rule : ∀ (i j : Int) (t u : Tok) (s : Shared) (Q : Value → Shared → Prop) (E : Value → Shared → Prop),Q (.int (g i j) s.toks) { s with toks:=s.toks + 1 } → wpAny (model X.prog X.w) X.A (f (.int i t) (.int j u)) Q E s) :
  OpR X f (rI0 fun i j=>.int (g i j)):=by
 intro pins s σ H x y v u Q I rx ry h
 obtain ⟨i,j,rfl,rfl,q⟩:=h
 obtain ⟨t,rfl⟩:=rx
 obtain ⟨t',rfl⟩:=ry
 exact rule i j t t' s _ _ ⟨.int (g i j),H,I.tok _,⟨_,rfl⟩,q⟩
theorem bS1 {f : Value → Value → Sem Value} {g : Int → Int → Bool}
  (rule : ∀ (i j : Int) (t u : Tok) (s : Shared) (Q : Value → Shared → Prop) (E : Value → Shared → Prop),Q (.bool (g i j)) s → wpAny (model X.prog X.w) X.A (f (.int i t) (.int j u)) Q E s) :
  OpR X f (rI0 fun i j=>.bl (g i j)):=by
 intro pins s σ H x y v u Q I rx ry h
 obtain ⟨i,j,rfl,rfl,q⟩:=h
 obtain ⟨t,rfl⟩:=rx
 obtain ⟨t',rfl⟩:=ry
 exact rule i j t t' s _ _ ⟨.bl (g i j),H,I,rfl,q⟩
noncomputable def cH9 (i j : Int) : Prop:=0 ≤ j ∧ j ≤ 1000000 ∧ i.natAbs < 2 ^ 64
theorem bD6 : OpR X (binaryOp .Add) (rI0 fun i j=>.int (i + j)):=cy6 fun _ _ _ _ _ _ _ q=>add_int q
theorem ck8 : OpR X (binaryOp .Sub) (rI0 fun i j=>.int (i - j)):=cy6 fun _ _ _ _ _ _ _ q=>sub_int q
theorem cl0 : OpR X (binaryOp .Mod) (rI (fun _ j=>0 < j) fun i j=>.int (i % j)):=opI fun i j _ _ _ _ _ hc q=>by
 have h1 : (0 : Int) < j:=hc
 exact mod_int' (by omega) (by rw [Int.fmod_eq_emod_of_nonneg i (by omega)]; exact q)
theorem ck9 : OpR X (binaryOp .Pow) (rI cH9 fun i j=>.int (i ^ j.toNat)):=opI fun _ _ _ _ _ _ _ hc q=>pow_int_small hc.1 hc.2.1 hc.2.2 q
theorem unI {f : Value → Sem Value} {g : Int → Int}
  (rule : ∀ (i : Int) (t : Tok) (s : Shared) (Q : Value → Shared → Prop) (E : Value → Shared → Prop),Q (.int (g i) s.toks) { s with toks:=s.toks + 1 } → wpAny (model X.prog X.w) X.A (f (.int i t)) Q E s) :
  UnR X f (rU fun i=>.int (g i)):=by
 intro pins s σ H x v Q I rx h
 obtain ⟨i,rfl,q⟩:=h
 obtain ⟨t,rfl⟩:=rx
 exact rule i t s _ _ ⟨.int (g i),H,I.tok _,⟨_,rfl⟩,q⟩
theorem cb9 : UnR X (unaryOp .USub) (rU fun i=>.int (-i)):=unI fun _ _ _ _ _ q=>neg_int q
end
section
variable {X : Cx} {a b c : Expr} {ta tb tc : TE} {pos : Pos}
theorem aR9 {pins : List (Addr × Obj)} {σ : St} {H : Hp} {s : Shared} {Q : VK} {k k' : Bool} (I : Inv X pins σ H s) (q : Q (.bl k) H) (e : k = k') : EP X pins σ Q (.bool k') s:=by
 subst e
 exact ⟨.bl k,H,I,rfl,q⟩
theorem cy2 : OpR X (compareOp .Lt) (rI0 fun i j=>.bl (decide (i < j))):=bS1 fun _ _ _ _ _ _ _ q=>lt_int q
theorem cy3 : OpR X (compareOp .LtE) (rI0 fun i j=>.bl (decide (i ≤ j))):=bS1 fun _ _ _ _ _ _ _ q=>le_int q
theorem cy4 : OpR X (compareOp .Gt) (rI0 fun i j=>.bl (decide (j < i))):=bS1 fun _ _ _ _ _ _ _ q=>gt_int q
theorem cy5 : OpR X (compareOp .GtE) (rI0 fun i j=>.bl (decide (j ≤ i))):=bS1 fun _ _ _ _ _ _ _ q=>ge_int q
theorem br8 : OpR X (compareOp .In) (fun x y H Q=>∃ i j,x = .str i ∧ y = .str j ∧ Q (.bl (!(Builtin.Str.occurrences j i 0 j.length 1).isEmpty)) H):=by
 intro pins s σ H x y v u Q I rx ry h
 obtain ⟨i,j,rfl,rfl,q⟩:=h
 obtain ⟨t,rfl⟩:=rx
 obtain ⟨t',rfl⟩:=ry
 exact in_str (aR9 I q rfl)
theorem cl1 : OpR X (compareOp .Is) (fun x y H Q=>y = .non ∧ Q (.bl (decide (x = .non))) H):=by
 intro pins s σ H x y v u Q I rx ry h
 obtain ⟨rfl,q⟩:=h
 cases ry
 refine is_none_gen (aR9 I q ?_)
 cases x <;> first
  | (cases rx; rfl)
  | (obtain ⟨t,rfl⟩:=rx; rfl)
theorem bR8 : OpR X (compareOp .IsNot) (fun x y H Q=>y = .non ∧ Q (.bl (!decide (x = .non))) H):=by
 intro pins s σ H x y v u Q I rx ry h
 obtain ⟨rfl,q⟩:=h
 cases ry
 refine isnot_none_gen (aR9 I q ?_)
 cases x <;> first
  | (cases rx; rfl)
  | (obtain ⟨t,rfl⟩:=rx; rfl)
theorem aP3 : OpR X (compareOp .NotIn) (fun x y H Q=>∃ i j,x = .str i ∧ y = .str j ∧ Q (.bl (!(!(Builtin.Str.occurrences j i 0 j.length 1).isEmpty))) H):=by
 intro pins s σ H x y v u Q I rx ry h
 obtain ⟨i,j,rfl,rfl,q⟩:=h
 obtain ⟨t,rfl⟩:=rx
 obtain ⟨t',rfl⟩:=ry
 exact notIn_str (aR9 I q rfl)
theorem bE8 (b : Expr) {op : CmpOp} (h : op ≠ .In:=by decide) (h2 : op ≠ .NotIn:=by decide) : behindInMarks op b = false:=by
 have e1 : (op == CmpOp.In) = false:=by cases op <;> first | rfl | exact absurd rfl h
 have e2 : (op == CmpOp.NotIn) = false:=by cases op <;> first | rfl | exact absurd rfl h2
 cases b <;> simp [behindInMarks,e1,e2]
theorem bR2 {op : CmpOp} {r : R2} (ho : OpR X (compareOp op) r) (ha : PE X a ta) (hb : PE X b tb) (hm : behindInMarks op b = false) : PE X (.Compare a [op] [b] pos) (tOp r ta tb):=by
 intro pins s σ H Q I h
 exact wpAny_Compare1 (ct0 ha hb I h fun v u s2 x y H2 I2 rx ry q=>ho pins s2 σ H2 x y v u Q I2 rx ry q) hm
noncomputable def bZ1 (t : TE) : TT:=fun σ H Q=>t σ H fun x H'=>∃ k,x = .bl k ∧ Q k H'
theorem bQ1 {op : CmpOp} {r : R2} (ho : OpR X (compareOp op) r) (ha : PE X a ta) (hb : PE X b tb) (hm : behindInMarks op b = false) : PT X (.Compare a [op] [b] pos) (bZ1 (tOp r ta tb)):=by
 intro pins s σ H Q I h
 refine wpAny_isTrue_Compare1 (thn (ha pins s σ H _ I h) fun v s1 ⟨x,H1,I1,r1,q1⟩=>thn (hb pins s1 σ H1 _ I1 q1) fun u s2 ⟨y,H2,I2,r2,q2⟩ =>
  thn (ho pins s2 σ H2 x y v u _ I2 r1 r2 q2) fun c s3 ⟨z,H3,I3,r3,k,e,q3⟩=>?_) hm
 subst e
 cases r3
 exact wpAny_truthy_bool ⟨H3,I3,q3⟩
noncomputable def bA7 (r r' : R2) (ta tb tc : TE) : TE:=fun σ H Q=>ta σ H fun x H1=>tb σ H1 fun y H2=>r x y H2 fun z H3=>∃ k,z = .bl k ∧
 (if k = true then tc σ H3 fun w' H4=>r' y w' H4 Q else Q (.bl false) H3)
theorem aW3 {op op' : CmpOp} {r r' : R2} (ho : OpR X (compareOp op) r) (ho' : OpR X (compareOp op') r') (ha : PE X a ta) (hb : PE X b tb) (hc : PE X c tc)
  (hm : lastMarks [op,op'] [b,c] = false:=by with_unfolding_all rfl) : PE X (.Compare a [op,op'] [b,c] pos) (bA7 r r' ta tb tc):=by
 intro pins s σ H Q I h
 refine Compare_chain (thn (ha pins s σ H _ I h) fun v s1 ⟨x,H1,I1,r1,q1⟩=>chain_link (thn (hb pins s1 σ H1 _ I1 q1) fun u s2 ⟨y,H2,I2,r2,q2⟩ =>
  thn (ho pins s2 σ H2 x y v u _ I2 r1 r2 q2) fun d s3 ⟨z,H3,I3,r3,k,e,q3⟩=>?_)) hm
 subst e
 cases r3
 refine wpAny_truthy_bool ?_
 cases k with
 | false=>exact ite_ff ⟨.bl false,H3,I3,rfl,q3⟩
 | true=>exact ite_tt (chain_last (thn (hc pins s3 σ H3 _ I3 q3) fun w' s4 ⟨z',H4,I4,r4,q4⟩=>ho' pins s4 σ H4 y z' u w' Q I4 r2 r4 q4))
theorem aV8 {op op' : CmpOp} {r r' : R2} (ho : OpR X (compareOp op) r) (ho' : OpR X (compareOp op') r') (ha : PE X a ta) (hb : PE X b tb) (hc : PE X c tc)
  (hm : lastMarks [op,op'] [b,c] = false:=by with_unfolding_all rfl) : PT X (.Compare a [op,op'] [b,c] pos) (bZ1 (bA7 r r' ta tb tc)):=by
 intro pins s σ H Q I h
 refine isTrue_chain (thn (ha pins s σ H _ I h) fun v s1 ⟨x,H1,I1,r1,q1⟩=>test_link (thn (hb pins s1 σ H1 _ I1 q1) fun u s2 ⟨y,H2,I2,r2,q2⟩ =>
  thn (ho pins s2 σ H2 x y v u _ I2 r1 r2 q2) fun d s3 ⟨z,H3,I3,r3,k,e,q3⟩=>?_)) hm
 subst e
 cases r3
 refine wpAny_truthy_bool ?_
 cases k with
 | false =>
  obtain ⟨k',e',q'⟩:=q3
  cases e'
  exact ite_ff ⟨H3,I3,q'⟩
 | true =>
  refine ite_tt (test_last (thn (hc pins s3 σ H3 _ I3 q3) fun w' s4 ⟨z',H4,I4,r4,q4⟩=>thn (ho' pins s4 σ H4 y z' u w' _ I4 r2 r4 q4) fun d' s5 ⟨z2,H5,I5,r5,k2,e2,q5⟩=>?_))
  subst e2
  cases r5
  exact wpAny_truthy_bool ⟨H5,I5,q5⟩
noncomputable def cD6 (K : PySem.W.Frag) (x : V) (H : Hp) (k : Bool) : Prop :=
 match x with
 | .non=>k = false
 | .bl b=>k = b
 | .int i=>k = (i != 0)
 | .str y=>y.length ≤ sizeLine ∧ k = ((y.length : Int) != 0)
 | .byt y=>y.size ≤ sizeLine ∧ k = ((y.size : Int) != 0)
 | .ref p=>(∃ xs,SqL K H p xs ∧ k = !xs.isEmpty) ∨ (∃ xs,SqT K H p xs ∧ k = !xs.isEmpty) ∨ ∃ kvs,H p = some (.dK kvs) ∧ k = !kvs.isEmpty
 | _=>False
theorem bh6 {κ : Type} {kvs : List (κ × V)} {vs : List (κ × Value)} (r : KV kvs vs) : (!vs.isEmpty) = !kvs.isEmpty:=by
 cases r <;> rfl
theorem aF6 {xs : List V} {its : List Value} (r : G3 xs its) : (!its.toArray.isEmpty) = !xs.isEmpty:=by
 cases r <;> simp
theorem ay1 : (sizeLine : Nat) < 2 ^ 63:=by rw [sizeLine_eq]; decide
theorem cc2 : cH6 X (fun x H Q=>∃ k,cD6 X.K x H k ∧ Q k H):=by
 intro pins s σ H x v Q I rx h
 obtain ⟨k,e,q⟩:=h
 have hl:=ay1
 have hs : sizeLine = 16777216:=sizeLine_eq
 cases x with
 | non =>
  cases rx
  have e' : k = false:=e
  subst e'
  exact truthy_none ⟨H,I,q⟩
 | bl b =>
  cases rx
  have e' : k = b:=e
  subst e'
  exact wpAny_truthy_bool ⟨H,I,q⟩
 | int i =>
  obtain ⟨t,rfl⟩:=rx
  have e' : k = (i != 0):=e
  subst e'
  exact PySem.P.truthy_int ⟨H,I,q⟩
 | str y =>
  obtain ⟨t,rfl⟩:=rx
  obtain ⟨hy,e'⟩ : y.length ≤ sizeLine ∧ k = ((y.length : Int) != 0):=e
  subst e'
  exact PySem.P.truthy_str (by omega) ⟨H,I.tok _,q⟩
 | byt y =>
  obtain ⟨t,rfl⟩:=rx
  obtain ⟨hy,e'⟩ : y.size ≤ sizeLine ∧ k = ((y.size : Int) != 0):=e
  subst e'
  exact PySem.W.truthy_bytes (by omega) ⟨H,I.tok _,q⟩
 | ref p =>
  cases rx
  have e' : (∃ xs,SqL X.K H p xs ∧ k = !xs.isEmpty) ∨ (∃ xs,SqT X.K H p xs ∧ k = !xs.isEmpty) ∨ ∃ kvs,H p = some (.dK kvs) ∧ k = !kvs.isEmpty:=e
  rcases e' with ⟨xs,hx,e'⟩ | ⟨xs,hx,e'⟩ | ⟨kvs,hx,e'⟩
  ·subst e'
   obtain ⟨its,r,pl,hz⟩:=I.list hx
   have hlen:=r.length
   exact wpAny_truthy_list pl.isList (by simp only [List.size_toArray]; omega) ⟨H,I.tok _,by rw [aF6 r]; exact q⟩
  ·subst e'
   obtain ⟨its,r,pl,hz⟩:=I.tuple hx
   have hlen:=r.length
   exact truthy_tuple pl (by simp only [List.size_toArray]; omega) ⟨H,I.tok _,by rw [aF6 r]; exact q⟩
  ·subst e'
   obtain ⟨hz,hS,vs,r,m⟩ : kvs.length ≤ sizeLine ∧ (p == sysModules) = false ∧ ∃ vs,KV kvs vs ∧ s.heap.DictOf (aQ4 X.prog X.w) p vs:=I.hok p _ hx
   have hlen : kvs.length = vs.length:=Paired.length r
   exact wpAny_truthy_dict hS m (by omega) ⟨H,I.tok _,by rw [bh6 r]; exact q⟩
 | _=>exact (show False from e).elim
theorem bC4 (ha : PE X a ta) (he : ∀ whole,isTrue a X.env whole = (do let v ← whole; standAt a.pos; holding [v] (truthy v))) :
  PT X a (fun σ H Q=>ta σ H fun x H'=>∃ k,cD6 X.K x H' k ∧ Q k H'):=by
 intro pins s σ H Q I h
 exact isTrue_plain (thn (ha pins s σ H _ I h) fun v s1 ⟨x,H1,I1,r1,q1⟩=>cc2 pins s1 σ H1 x v Q I1 r1 q1) (he _)
theorem bf7 : OpR X (binaryOp .Add) (fun x y H Q=>∃ i j,x = .str i ∧ y = .str j ∧ i.length + j.length ≤ sizeLine ∧ Q (.str (i ++ j)) H):=by
 intro pins s σ H x y v u Q I rx ry h
 obtain ⟨i,j,rfl,rfl,hz,q⟩:=h
 obtain ⟨t,rfl⟩:=rx
 obtain ⟨t',rfl⟩:=ry
 exact add_str (fun t' tk=>⟨.str (i ++ j),H,I.tok _,⟨_,rfl⟩,q⟩) hz
theorem ag1 {x : V} {us : List Value} (r : G3 [x] us) : ∃ u,us = [u] ∧ K8 x u:=by
 cases r with
 | cons r1 r2=>cases r2; exact ⟨_,rfl,r1⟩
theorem cv6 {x y : V} {us : List Value} (r : G3 [x,y] us) : ∃ u w',us = [u,w'] ∧ K8 x u ∧ K8 y w':=by
 cases r with
 | cons r1 r2 =>
  cases r2 with
  | cons r3 r4=>cases r4; exact ⟨_,_,rfl,r1,r3⟩
theorem aM5 : y6 X (.type "int") (fun xs H Q=>(∃ i,xs = [.int i] ∧ Q (.int i) H) ∨ ∃ k,xs = [.bl k] ∧ Q (.int (if k then 1 else 0)) H):=by
 intro pins s σ H xs us Q I r h
 rcases h with ⟨i,rfl,q⟩ | ⟨k,rfl,q⟩
 ·obtain ⟨u,rfl,t,rfl⟩:=ag1 r
  exact call_int_int ⟨.int i,H,I,⟨_,rfl⟩,q⟩
 ·obtain ⟨u,rfl,r1⟩:=ag1 r
  cases r1
  exact call_int_bool ⟨.int (if k then 1 else 0),H,I.tok _,⟨_,rfl⟩,q⟩
theorem aS5 : y6 X (.type "str") (fun xs H Q=>∃ i,xs = [.int i] ∧ i.natAbs.log2 < 1920 ∧ Q (.str (toString i)) H):=by
 intro pins s σ H xs us Q I r h
 obtain ⟨i,rfl,hz,q⟩:=h
 obtain ⟨u,rfl,t,rfl⟩:=ag1 r
 exact PySem.P.str_of_int hz ⟨.str _,H,I.tok _,⟨_,rfl⟩,q⟩
end
end L2
namespace L2
open PySem PySem.Spec PyProof.Rows
section
variable {prog : Program} {w : World} {A : Around} {E : Value → Shared → Prop} {s : Shared} {K : PySem.W.Frag} {x dx C f : Addr} {mA : Str → Option Value} {name : Str} {v : Value}
end
section
variable {P : Program} {w : World} {H H' : Hp} {h h' : Heap} {a C dx : Addr} {fs fs' : List (Str × V)}
end
section
variable {X : Cx} {pins : List (Addr × Obj)} {σ : St} {H : Hp} {s : Shared} {a C dx : Addr} {fs : List (Str × V)} {f : Str} {v : V} {A : Around} {E : Value → Shared → Prop}
end
section
variable {X : Cx} {o e value : Expr} {f : Str} {pos pos' tpos : Pos} {ta tv : TE}
end
section
variable {X : Cx} {pins : List (Addr × Obj)} {σ : St} {H : Hp} {s : Shared} {A : Around} {E : Value → Shared → Prop} {Q : Value → Shared → Prop} {c : Value} {b : Bool}
end
end L2
namespace L2
open PySem PySem.Spec PyProof.Rows
structure Room (k : Nat) (A : Around) : Prop where
 hd : A.handled = none
 dp : A.depth + 3 * k + 5 < recursionLimit
 un : A.units + 16 * k + 200 < cLine
theorem Room.mono {j k : Nat} {A : Around} (r : Room k A) (h : j ≤ k) : Room j A:=⟨r.hd,by have:=r.dp; omega,by have:=r.un; omega⟩
theorem Room.deeper {k : Nat} {A : Around} (r : Room (k + 1) A) (env : Env) : Room k (A.deeper env) :=
 ⟨r.hd,by have:=r.dp; show A.depth + 1 + 3 * k + 5 < _; omega,by have:=r.un; show A.units + 3 + 16 * k + 200 < _; omega⟩
theorem Room.depth {k : Nat} {A : Around} (r : Room k A) : A.depth < recursionLimit:=by have:=r.dp; omega
theorem Room.units {k : Nat} {A : Around} (r : Room k A) : A.units + 64 < cLine:=by have:=r.un; omega
noncomputable def cw3 : TA:=fun _ H Q=>Q [] H
noncomputable def cw6 (ta : TE) (tr : TA) : TA:=fun σ H Q=>ta σ H fun x H1=>tr σ H1 fun xs H2=>Q (x :: xs) H2
section
variable {X : Cx} {e : Expr} {es : List Expr} {te : TE} {t : TA} {pos : Pos}
theorem P4 : PA X [] cw3:=fun _ _ _ _ H Q I h=>Calls.spliced_nil ⟨[],H,I,.nil,h⟩
theorem K9 (ha : PE X e te) (hr : PA X es t) (hs : starEach (e :: es) X.env = (false,eval e X.env) :: starEach es X.env:=by rfl) : PA X (e :: es) (cw6 te t):=by
 intro pos pins s σ H Q I h
 rw [hs]
 show wpAny _ _ (spliced ((false,eval e X.env) :: backTo pos (starEach es X.env))) _ _ s
 refine Calls.spliced_cons (thn (ha pins s σ H _ I h) fun u s1 ⟨x,H1,I1,r1,q1⟩=>?_)
 exact thn (hr pos pins s1 σ H1 _ I1 q1) fun us s2 ⟨xs,H2,I2,r2,q2⟩=>⟨x :: xs,H2,I2,.cons r1 r2,q2⟩
noncomputable def cE8 (t : TA) : TE:=fun σ H Q=>t σ H fun xs H1=>xs.length ≤ sizeLine ∧ ∀ p,H1 p = none → Q (.ref p) (upd H1 p (.tup xs))
noncomputable def cF4 (t : TA) : TE:=fun σ H Q=>t σ H fun xs H1=>xs.length ≤ sizeLine ∧ ∀ p,H1 p = none → Q (.ref p) (upd H1 p (.lst xs))
theorem cj8 {x1} (h : PA X es t) : PE X (.Tuple es x1 pos) (cE8 t):=by
 intro pins s σ H Q I hq
 refine wpAny_Tuple_spliced (thn (h pos pins s σ H _ I hq) fun us s1 ⟨xs,H1,I1,r,z,q⟩=>⟨by rw [← r.length]; exact z,?_⟩)
 have hf : H1 s1.heap.objs.size = none:=I1.hok.fresh (Nat.le_refl _)
 refine ⟨.ref s1.heap.objs.size,upd H1 s1.heap.objs.size (.tup xs),I1.laid (t':=s1.toks) (fun b u e=>Heap.get?_push_of_some _ e) (Nat.le_refl _) ?_,rfl,q _ hf⟩
 exact ⟨z,us,r,⟨_,Heap.get?_push_size _ rfl,rfl,⟨_,rfl⟩,rfl⟩⟩
theorem ck4 (h : PA X es t) : PE X (.List es pos) (cF4 t):=by
 intro pins s σ H Q I hq
 refine wpAny_List_spliced (thn (h pos pins s σ H _ I hq) fun us s1 ⟨xs,H1,I1,r,z,q⟩=>⟨by rw [← r.length]; exact z,?_⟩)
 have hf : H1 s1.heap.objs.size = none:=I1.hok.fresh (Nat.le_refl _)
 refine ⟨.ref s1.heap.objs.size,upd H1 s1.heap.objs.size (.lst xs),I1.laid (t':=s1.toks) (fun b u e=>Heap.get?_push_of_some _ e) (Nat.le_refl _) ?_,rfl,q _ hf⟩
 exact ⟨z,us,0,r,Heap.get?_push_size _ rfl⟩
end
noncomputable abbrev Sp:=List V → Hp → VK → XK → Prop
noncomputable abbrev CXT:=List Env → Hp → Shared → XK → Value → Shared → Prop
structure Env0 (P : Program) (w : World) (K : PySem.W.Frag) (mg : Str → Option Value) (base : Heap) (A : Around) (outer : List Env) (s : Shared) (H : Hp) : Prop where
 frames : A.frames = some outer
 mod : Mod K mg base
 bs : ∀ b o,base.get? b = some o → s.heap.get? b = some o ∧ H b = none
 bsz : base.objs.size ≤ s.heap.objs.size
 funs : s.heap.FunFrames base outer
 frf : ∀ b ∈ frs outer,H b = none
 hok : HOk P w H s.heap
 bare : AllBare s.gens
noncomputable def CE (outer : List Env) (P : Program) (w : World) (H : Hp) (s : Shared) (Q : VK) (u : Value) (s' : Shared) : Prop :=
 ∃ v H',s'.os = s.os ∧ AllBare s'.gens ∧ Un (frs outer) [] H H' s.heap s'.heap ∧ HOk P w H' s'.heap ∧ K8 v u ∧ Q v H'
noncomputable def CR (CX : CXT) (outer : List Env) (P : Program) (w : World) (H : Hp) (s : Shared) (Q : VK) (E : XK) (r : Result) (s' : Shared) : Prop :=
 match r with
 | .ok (.ret u)=>CE outer P w H s Q u s'
 | .ok _=>False
 | .error e=>CX outer H s E e s'
structure FnOk (P : Program) (w : World) (K : PySem.W.Frag) (mg : Str → Option Value) (base : Heap) (CX : CXT) (k : Nat) (f : Addr) (fd : FuncData) (ps : List Str) (sp : Sp) : Prop where
 len : ∀ vs H Q E,sp vs H Q E → vs.length = ps.length
 run : ∀ (A : Around) (outer : List Env) (s : Shared) (H : Hp) (args : Args) (us : List Value) (vs : List V) (Q : VK) (E : XK),Room k A → Env0 P w K mg base A outer s H → BindsTo s fd args (ps.zip us) → G3 vs us → sp vs H Q E →
  codeAny (model P w) A (.call (.ref f) args) (CR CX outer P w H s Q E) s
theorem FnOk.mono {P : Program} {w : World} {K : PySem.W.Frag} {mg : Str → Option Value} {base : Heap} {CX : CXT} {j k : Nat} {f : Addr} {fd : FuncData} {ps : List Str} {sp : Sp} (F : FnOk P w K mg base CX j f fd ps sp) (h : j ≤ k) :
  FnOk P w K mg base CX k f fd ps sp:=⟨F.len,fun A outer s H args us vs Q E hr=>F.run A outer s H args us vs Q E (hr.mono h)⟩
section
variable {X : Cx} {pins : List (Addr × Obj)} {σ : St} {H : Hp} {s s' : Shared}
theorem Inv.env0 (I : Inv X pins σ H s) : Env0 X.prog X.w X.K X.mg X.base X.A X.stack s H :=
 ⟨I.ok.frames,I.ok.mod,I.bs,Nat.le_trans I.ok.bsz I.sz,I.stack,I.stkFree,I.hok,I.bare⟩
theorem Inv.after {Q : VK} {u : Value} (I : Inv X pins σ H s) (h : CE X.stack X.prog X.w H s Q u s') : EP X pins σ Q u s':=by
 obtain ⟨v,H',os,bare,un,hok,r,q⟩:=h
 obtain ⟨hh,g,d,t,os'⟩:=s'
 obtain rfl : os' = s.os:=os
 exact ⟨v,H',I.call (h':=hh) (g':=g) (d':=d) (t':=t) (ch:=[]) un hok bare (fun b z=>absurd z (by simp)),r,q⟩
end
noncomputable def bZ3 (sp : Sp) (dvs : List V) (E : XK) (t : TA) : TE:=fun σ H Q=>t σ H fun vs H1=>sp (vs ++ dvs) H1 Q E
noncomputable def y8 (K : PySem.W.Frag) (fd : FuncData) (ps : List Str) (ds : List Value) : Prop :=
 ∀ (s : Shared) (us : List Value),K.In s.heap → (us ++ ds).length = ps.length → BindsTo s fd ⟨us,[]⟩ (ps.zip (us ++ ds))
theorem y8.all {K : PySem.W.Frag} {fd : FuncData} {ps : List Str} (h : ∀ us : List Value,us.length = ps.length → bindArgs fd ⟨us,[]⟩ = pure (ps.zip us)) : y8 K fd ps []:=fun s us _ hl=>by
 rw [List.append_nil] at hl ⊢
 exact .of_eq (h us hl)
noncomputable def aT9 (CX : CXT) (X : Cx) (E : XK) : Prop:=∀ (pins : List (Addr × Obj)) (σ : St) (H : Hp) (s : Shared) (e : Value) (s' : Shared),Inv X pins σ H s → CX X.stack H s E e s' → X.xe e s'
section
variable {X : Cx} {CX : CXT} {k : Nat} {f C : Addr} {fd : FuncData} {ps : List Str} {sp : Sp} {dvs : List V} {ds : List Value} {E : XK} {x m : Str} {p pos apos : Pos} {e o : Expr} {es : List Expr} {ta : TE} {t : TA}
theorem bB7 {pins : List (Addr × Obj)} {σ : St} {H : Hp} {s : Shared} {Q : VK} {us : List Value} {vs : List V} (F : FnOk X.prog X.w X.K X.mg X.base CX k f fd ps sp) (hr : Room k X.A) (hb : y8 X.K fd ps ds) (hd : G3 dvs ds) (hx : aT9 CX X E)
  (I : Inv X pins σ H s) (r : G3 vs us) (h : sp (vs ++ dvs) H Q E) : wpAny (model X.prog X.w) X.A (call (.ref f) us) (EP X pins σ Q) X.xe s:=by
 have r2 : G3 (vs ++ dvs) (us ++ ds):=r.append hd
 have hl : (us ++ ds).length = ps.length:=by rw [← r2.length]; exact F.len _ _ _ _ h
 refine wpAny_call (codeAny_mono (F.run X.A X.stack s H ⟨us,[]⟩ (us ++ ds) (vs ++ dvs) Q E hr I.env0 (hb s us I.kIn hl) r2 h) fun r s' hq=>?_)
 cases r with
 | error e=>exact hx pins σ H s e s' I hq
 | ok fl =>
  cases fl with
  | ret u=>exact I.after hq
  | next=>exact False.elim hq
  | brk=>exact False.elim hq
  | cont=>exact False.elim hq
theorem bR3 (F : FnOk X.prog X.w X.K X.mg X.base CX k f fd ps sp) (hr : Room k X.A) (hg : Gl X x) (hm : X.mg x = some (.ref f)) (hk : PySem.W.keepIn X.K (.ref f) = true) (hb : y8 X.K fd ps ds) (hd : G3 dvs ds) (hx : aT9 CX X E)
  (ha : PA X (e :: es) t) (hdb : (x == ("__debug__" : Str)) = false:=by decide) (he : starEach (e :: es) X.env = (false,eval e X.env) :: starEach es X.env:=by rfl) (hpl : (backTo pos (starEach es X.env)).any (·.1) = false:=by rfl) :
  PE X (.Call (.Name x p) (e :: es) [] pos) (bZ3 sp dvs E t):=by
 intro pins s σ H Q I h
 refine wpAny_Call_Name_kw (aQ7 I hg hm ?_ hdb)
 refine PySem.W.callWith_K (h₀:=X.base) I.ok.mod.kin hk (thn (ha pos pins s σ H _ I h) fun us s1 ⟨vs,H1,I1,r,q⟩=>⟨I1.kIn,?_⟩) he hpl
 exact bB7 F hr hb hd hx I1 r q
theorem bD2 (F : FnOk X.prog X.w X.K X.mg X.base CX k f fd ps sp) (hr : Room k X.A) (hg : Gl X x) (hm : X.mg x = some (.ref f)) (hk : PySem.W.keepIn X.K (.ref f) = true) (hb : y8 X.K fd ps ds) (hd : G3 dvs ds) (hx : aT9 CX X E)
  (hdb : (x == ("__debug__" : Str)) = false:=by decide) : PE X (.Call (.Name x p) [] [] pos) (bZ3 sp dvs E cw3):=by
 intro pins s σ H Q I h
 refine wpAny_Call_Name_kw (aQ7 I hg hm ?_ hdb)
 exact PySem.W.callWith_K0 I.kIn hk (bB7 (us:=[]) F hr hb hd hx I .nil h)
end
section
variable {X : Cx} {CX : CXT} {k : Nat} {f C : Addr} {fd : FuncData} {ps ks : List Str} {sp : Sp} {E : XK} {x m : Str} {p pos apos kpos : Pos} {e o : Expr} {es : List Expr} {kws : List Keyword} {te ta : TE} {t tk : TA} {nm : Option Str}
variable {g : List Value → List Value → List Value} {gV : List V → List V → List V}
end
structure FnScope (N P : List Str) (sc : Scope) : Prop where
 kind : sc.kind = .function
 co : sc.isCoroutine = false
 gen : sc.isGenerator = false
 nd : N.Nodup
 pre : N.take P.length = P
 par : ∀ x ∈ P,sc.names.lookup x = some .local ∨ sc.names.lookup x = some .cell
 nofree : ∀ y ∈ sc.names,y.2 ≠ .free
theorem aM6 {kindOf : Str → Option NameKind} {x : Str} : ∀ {binds : List (Str × Value)} {m : Str → Option Value},(∀ v,(x,v) ∉ binds) → bindL kindOf binds m x = m x
 | [],_,_=>rfl
 | (n,v) :: r,m,h=>by
  unfold bindL
  rw [aM6 fun w hw=>h w (List.mem_cons_of_mem _ hw)]
  split
  ·have : x ≠ n:=by rintro rfl; exact h v List.mem_cons_self
   simp [this]
  ·rfl
theorem aM8 {kindOf : Str → Option NameKind} {x : Str} : ∀ {binds : List (Str × Value)} {m : Str → Option Value},(∀ v,(x,v) ∉ binds) → bindC kindOf binds m x = m x
 | [],_,_=>rfl
 | (n,v) :: r,m,h=>by
  unfold bindC
  rw [aM8 fun w hw=>h w (List.mem_cons_of_mem _ hw)]
  split
  ·rfl
  ·have : x ≠ n:=by rintro rfl; exact h v List.mem_cons_self
   simp [this]
theorem aM7 {kindOf : Str → Option NameKind} {x : Str} {v : Value} : ∀ {P : List Str} {vs : List Value} {i : Nat} {m : Str → Option Value},P.Nodup → P[i]? = some x → vs[i]? = some v → kindOf x = some .local →
  bindL kindOf (P.zip vs) m x = some v
 | [],_,_,_,_,h,_,_=>by simp at h
 | _ :: _,[],_,_,_,_,h,_=>by simp at h
 | p :: P,w :: vs,0,m,nd,h1,h2,hk=>by
  simp at h1 h2; subst h1; subst h2
  show bindL kindOf ((p,w) :: P.zip vs) m p = _
  unfold bindL
  rw [aM6 fun v hv=>(List.nodup_cons.mp nd).1 (List.of_mem_zip hv).1,if_pos hk]
  simp
 | p :: P,w :: vs,i + 1,m,nd,h1,h2,hk=>by
  show bindL kindOf ((p,w) :: P.zip vs) m x = _
  unfold bindL
  exact aM7 (i:=i) (List.nodup_cons.mp nd).2 (by simpa using h1) (by simpa using h2) hk
theorem aM9 {kindOf : Str → Option NameKind} {x : Str} {v : Value} : ∀ {P : List Str} {vs : List Value} {i : Nat} {m : Str → Option Value},P.Nodup → P[i]? = some x → vs[i]? = some v → kindOf x ≠ some .local →
  bindC kindOf (P.zip vs) m x = some v
 | [],_,_,_,_,h,_,_=>by simp at h
 | _ :: _,[],_,_,_,_,h,_=>by simp at h
 | p :: P,w :: vs,0,m,nd,h1,h2,hk=>by
  simp at h1 h2; subst h1; subst h2
  show bindC kindOf ((p,w) :: P.zip vs) m p = _
  unfold bindC
  rw [aM8 fun v hv=>(List.nodup_cons.mp nd).1 (List.of_mem_zip hv).1,if_neg hk]
  simp
 | p :: P,w :: vs,i + 1,m,nd,h1,h2,hk=>by
  show bindC kindOf ((p,w) :: P.zip vs) m x = _
  unfold bindC
  exact aM9 (i:=i) (List.nodup_cons.mp nd).2 (by simpa using h1) (by simpa using h2) hk
noncomputable def aa6 (N : List Str) (vs : List V) : St:=vs.map some ++ List.replicate (N.length - vs.length) none
noncomputable def bj2 (CX : CXT) (P : Program) (w : World) (K : PySem.W.Frag) (mg : Str → Option Value) (base : Heap) (N : List Str) (qual : Str) (scope : Scope) (f : Addr) (cd : Value) (A : Around) (outer : List Env) (s : Shared) (H : Hp) (E : XK) : Cx where
 prog:=P
 w:=w
 K:=K
 mg:=mg
 base:=base
 A:=A.deeper (envOfC qual scope s.heap.objs.size f cd)
 N:=N
 s₀:=s
 H₀:=H
 env:=envOfC qual scope s.heap.objs.size f cd
 outer:=outer
 stack:=envOfC qual scope s.heap.objs.size f cd :: outer
 ex:=[]
 calm:=true
 fn:=fun _=>true
 pn:=[]
 xe:=fun e s'=>wpAny (model P w) (A.deeper (envOfC qual scope s.heap.objs.size f cd)) (leaving (envOfC qual scope s.heap.objs.size f cd) e) (fun _ s''=>CX outer H s E e s'') (fun e' s''=>CX outer H s E e' s'') s'
theorem bb7 {sc : Scope} {n : Nat} {x : Str} (h : sc.names.lookup x = some .cell) : ∃ c,(cellsFrom n sc.names []).lookup x = some c:=by
 have q:=PySem.W.cellsFrom_some sc.names n [] (.inl h)
 exact Option.isSome_iff_exists.mp q
theorem bu7 {CX : CXT} {P : Program} {w : World} {K : PySem.W.Frag} {mg : Str → Option Value} {base : Heap} {N ps : List Str} {qual : Str} {scope : Scope} {f : Addr} {cd : Value} {A : Around} {outer : List Env} {s s1 : Shared} {H : Hp} {E : XK} {us : List Value} {vs : List V}
  (S : FnScope N ps scope) (hd : A.handled = none) (e0 : Env0 P w K mg base A outer s H) (hl : vs.length = ps.length) (r : G3 vs us)
  (x : InCallC s s.heap.objs.size (bindL (envOfC qual scope s.heap.objs.size f cd).kindOf (ps.zip us) fun _=>none) (cellsFrom (s.heap.objs.size + 1) scope.names []) (bindC (envOfC qual scope s.heap.objs.size f cd).kindOf (ps.zip us) fun _=>none) s1) :
  Inv (bj2 CX P w K mg base N qual scope f cd A outer s H E) [] (aa6 N vs) H s1:=by
 have hpl : ps.length ≤ N.length:=by have:=congrArg List.length S.pre; rw [List.length_take] at this; omega
 obtain ⟨h1,tk,rfl,hk⟩:=x.done
 have noA : ∀ b : Addr,b ∉ (bj2 CX P w K mg base N qual scope f cd A outer s H E).ex:=fun b z=>absurd (show b ∈ ([] : List Addr) from z) (by simp)
 refine ⟨⟨e0.mod,S.kind,rfl,rfl,Nat.le_refl _,fun y z c h1 h2=>?_,fun y hy=>?_,fun y c _ h=>?_,fun _=>hd,Around.frames_deeper e0.frames,.inr ⟨rfl,rfl⟩,fun b z=>absurd z (noA b),e0.bs,e0.bsz,fun b _ _=>noA b,fun b z=>absurd z (noA b),e0.funs,e0.frf⟩,
  rfl,e0.bare,Un.kept hk,⟨_,x.toInCall.ns,fun i y v h1 h2 h3=>?_⟩,fun y c h=>⟨_,x.cell y c h⟩,e0.hok.fresh (Nat.le_refl _),fun y c h=>?_,fun p hp=>absurd (show p ∈ ([] : List (Addr × Obj)) from hp) (by simp),e0.hok.kept hk,?_⟩
 ·exact name_of_addr x.apart (PySem.mem_of_lookup h1) (PySem.mem_of_lookup h2)
 ·have hy : scope.names.lookup y = some .cell ∨ scope.names.lookup y = some .free:=hy
  rcases hy with hy | hy
  ·exact bb7 hy
  ·exact absurd rfl (S.nofree _ (PySem.mem_of_lookup hy))
 ·exact Nat.le_of_lt (x.above y c (PySem.mem_of_lookup h))
 ·have hi : i < vs.length:=by
   unfold aa6 at h2
   by_cases hi : i < vs.length
   ·exact hi
   ·rw [List.getElem?_append_right (by simpa using hi)] at h2
    rw [List.getElem?_replicate] at h2
    split at h2 <;> cases h2
  have ha : vs[i]? = some v:=by
   unfold aa6 at h2
   rw [List.getElem?_append_left (by simpa using hi),List.getElem?_map] at h2
   cases e : vs[i]? with
   | none=>rw [e] at h2; cases h2
   | some a=>rw [e] at h2; cases h2; rfl
  obtain ⟨u,hu,rv⟩:=r.get ha
  have hp : ps[i]? = some y:=by
   rw [← S.pre,List.getElem?_take_of_lt (by omega)]; exact h1
  have ndP : ps.Nodup:=by rw [← S.pre]; exact S.nd.sublist (List.take_sublist _ _)
  refine ⟨u,rv,?_⟩
  rcases S.par y (List.mem_of_getElem? hp) with k | k
  ·exact .inl ⟨k,aM7 ndP hp hu k⟩
  ·obtain ⟨c,e⟩:=bb7 (n:=s.heap.objs.size + 1) k
   refine .inr ⟨.inl k,c,e,?_⟩
   have q:=x.cell y c e
   rw [aM9 ndP hp hu (by show scope.names.lookup y ≠ _; rw [k]; decide)] at q
   exact q
 ·exact e0.hok.fresh (Nat.le_of_lt (x.above y c (PySem.mem_of_lookup h)))
 ·unfold aa6
  show _ = N.length
  rw [List.length_append,List.length_map,List.length_replicate]
  omega
theorem aZ5 {CX : CXT} {P : Program} {w : World} {K : PySem.W.Frag} {mg : Str → Option Value} {base : Heap} {k : Nat} {f : Addr} {name qual : Str} {params : Arguments} {body : List Stmt} {scope : Scope} {dV kV doc pm cdv ct oc : Value} {an od : Option Addr}
  {osl : Array (Option Value)} {N ps : List Str} {sp : Sp} (lk : K.lookup f = some ⟨oc,od,.func (PySem.W.fnOf name qual params body scope dV kV doc pm an cdv ct),osl⟩) (hcd : PySem.W.codeIn K cdv qual = true) (S : FnScope N ps scope)
  (len : ∀ vs H Q E,sp vs H Q E → vs.length = ps.length)
  (hbody : ∀ (A : Around) (outer : List Env) (s : Shared) (H : Hp) (vs : List V) (Q : VK) (E : XK),Room k (A.deeper (envOfC qual scope s.heap.objs.size f cdv)) → sp vs H Q E →
   ∃ t,PSs (bj2 CX P w K mg base N qual scope f cdv A outer s H E) body t ∧ t { nx:=fun _ H'=>Q .non H',rt:=Q } (aa6 N vs) H) :
  FnOk P w K mg base CX (k + 1) f (PySem.W.fnOf name qual params body scope dV kV doc pm an cdv ct) ps sp:=by
 refine ⟨len,fun A outer s H args us vs Q E hr e0 hb r hsp=>?_⟩
 have hl:=len _ _ _ _ hsp
 have KX : K.In s.heap:=e0.mod.kin.keeps fun b o e=>(e0.bs b o e).1
 have lim : s.heap.NoLimit:=e0.mod.nolimit.keeps fun b o e=>(e0.bs b o e).1
 have hkind : ∀ y ∈ ps.zip us,scope.names.lookup y.1 = some .local ∨ (scope.names.lookup y.1 = some .cell ∧ ((cellsFrom (s.heap.objs.size + 1) scope.names []).lookup y.1).isSome = true):=fun ⟨n,v⟩ hy=>by
  rcases S.par n (List.of_mem_zip hy).1 with q | q
  ·exact .inl q
  ·exact .inr ⟨q,PySem.W.cellsFrom_some _ _ _ (.inl q)⟩
 refine codeAny_call_function hr.depth (KX _ _ lk) rfl S.co S.gen rfl (PySem.W.codeRec_of KX hcd) (hb _ _ _ _ ?_)
 refine wpAny_newFunctionEnv_cells S.kind hkind fun env he s1 x=>?_
 subst he
 refine ⟨lim.keeps x.toInCall.keep,codeAny_func ?_⟩
 obtain ⟨t,ht,hq⟩:=hbody A outer s H vs Q E (hr.deeper _) hsp
 have I : Inv (bj2 CX P w K mg base N qual scope f cdv A outer s H E) [] (aa6 N vs) H s1:=bu7 S hr.hd e0 hl r x
 refine wpAny_mono (ht [] s1 (aa6 N vs) H _ I hq) (fun fl s' hs=>?_) fun e s' hs=>hs
 have fin : ∀ {σ' : St} {H' : Hp} {v : V} {u : Value},Inv (bj2 CX P w K mg base N qual scope f cdv A outer s H E) [] σ' H' s' → K8 v u → Q v H' → CE outer P w H s Q u s' :=
  fun {σ' H' v u} J rv q=>⟨v,H',J.os,J.bare,J.base,J.hok,rv,q⟩
 cases fl with
 | ret u =>
  obtain ⟨v,σ',H',J,rv,q⟩:=hs
  exact fin J rv q
 | next =>
  obtain ⟨σ',H',J,q⟩:=hs
  exact fin (v:=V.non) (u:=Value.none) J rfl q
 | brk =>
  obtain ⟨_,_,_,q⟩:=hs
  exact False.elim q
 | cont =>
  obtain ⟨_,_,_,q⟩:=hs
  exact False.elim q
end L2
namespace L2
open PySem PySem.Spec PyProof.Rows
section
variable {X : Cx} {x : Str} {p pos : Pos} {e : Expr} {es : List Expr} {t : TA} {id T : String} {r : List V → Hp → VK → Prop}
noncomputable def tCB (r : List V → Hp → VK → Prop) (t : TA) : TE:=fun σ H Q=>t σ H fun vs H1=>r vs H1 Q
theorem ab1 (hc : y6 X (.builtin id) r) (hg : Gl X x) (hm : X.mg x = none) (hv : bootBuiltins x = some (.builtin id)) (ha : PA X (e :: es) t) (hn : x ≠ "__name__" := by decide) (hdb : (x == ("__debug__" : Str)) = false:=by decide)
  (he : starEach (e :: es) X.env = (false,eval e X.env) :: starEach es X.env:=by rfl) (hpl : (backTo pos (starEach es X.env)).any (·.1) = false:=by rfl) : PE X (.Call (.Name x p) (e :: es) [] pos) (tCB r t):=by
 intro pins s σ H Q I h
 refine wpAny_Call_Name_kw (aQ8 I hg hm hv ?_ hn hdb)
 exact PyProof.Rows.callWith_builtin1 (thn (ha pos pins s σ H _ I h) fun us s1 ⟨vs,H1,I1,r1,q1⟩=>hc pins s1 σ H1 vs us Q I1 r1 q1) he hpl
theorem W7 (hc : y6 X (.type T) r) (hg : Gl X x) (hm : X.mg x = none) (hv : bootBuiltins x = some (.type T)) (ha : PA X (e :: es) t) (hn : x ≠ "__name__" := by decide) (hdb : (x == ("__debug__" : Str)) = false:=by decide)
  (he : starEach (e :: es) X.env = (false,eval e X.env) :: starEach es X.env:=by rfl) (hpl : (backTo pos (starEach es X.env)).any (·.1) = false:=by rfl) : PE X (.Call (.Name x p) (e :: es) [] pos) (tCB r t):=by
 intro pins s σ H Q I h
 refine wpAny_Call_Name_kw (aQ8 I hg hm hv ?_ hn hdb)
 exact PyProof.Rows.callWith_type1 (thn (ha pos pins s σ H _ I h) fun us s1 ⟨vs,H1,I1,r1,q1⟩=>hc pins s1 σ H1 vs us Q I1 r1 q1) he hpl
end
end L2
namespace HT
open PySem PyProof.Rows
section
open PySem.SeqAt
open PySem.AutoSeq1 (wpAny_loadPart')
open PySem.MeetsSeq PySem.MeetsSeq2 PySem.MeetsSeq3
end
section
variable {prog : Program} {w : World} {A : Around} {E : Value → Shared → Prop} {s : Shared}
theorem cat_tup {t b : Addr} {vs ws : List Value} {Q : Value → Shared → Prop} (ht : IsTup s.heap t vs.toArray) (hb : IsTup s.heap b ws.toArray) (hv : vs ≠ [])
  (h1 : ws = [] → Q (.ref t) s) (h2 : ws ≠ [] → Q (.ref s.heap.objs.size) { s with heap:=s.heap.push { cls:=.type "tuple", data:=.seq (vs ++ ws).toArray } })
  (hsz : vs.length + ws.length ≤ sizeLine) : wpAny (model prog w) A (binaryOp .Add (.ref t) (.ref b)) Q E s:=by
 obtain ⟨⟨cls,dd,data,sl⟩,ho,hc,n,hd⟩:=id ht
 obtain ⟨⟨cls2,dd2,data2,sl2⟩,ho2,hc2,n2,hd2⟩:=id hb
 simp only at hc hd hc2 hd2
 subst hc hd hc2 hd2
 have e : vs.toArray ++ ws.toArray = (vs ++ ws).toArray:=by simp
 by_cases hw : ws = []
 ·exact concat_meets ⟨_,ho,rfl⟩ ⟨_,ho2,rfl⟩ noFill_tuple_add seq_tuple_add PySem.F.slot_tuple_add PySem.F.entry_tuple_add (PySem.F.args_tuple_add_2 _ _)
   (tuple_addW1 t b vs.toArray ws.toArray n n2 dd dd2 sl sl2 (by simpa using hv) (by simp [hw])) ⟨ho,ho2,h1 hw⟩
 ·refine concat_meets ⟨_,ho,rfl⟩ ⟨_,ho2,rfl⟩ noFill_tuple_add seq_tuple_add PySem.F.slot_tuple_add PySem.F.entry_tuple_add (PySem.F.args_tuple_add_2 _ _)
   (tuple_addW2 t b vs.toArray ws.toArray n n2 dd dd2 sl sl2 (by simpa using hv) (by simpa using hw) (by rw [List.size_toArray,List.size_toArray]; exact hsz)) ⟨ho,ho2,?_⟩
  rw [e]
  exact h2 hw
noncomputable def sIx (n d : Nat) : Option Int → Nat
 | none=>d
 | some v=>if v < 0 then (v + (n : Int)).toNat else min v.toNat n
theorem sIx_none (n d : Nat) : sIx n d none = d:=rfl
theorem sIx_nat (n d k : Nat) : sIx n d (some (k : Int)) = min k n:=by
 show (if (k : Int) < 0 then ((k : Int) + (n : Int)).toNat else min (k : Int).toNat n) = min k n
 rw [if_neg (by omega),Int.toNat_natCast]
theorem ci5 (n d : Nat) (hd : d ≤ n) (o : Option Int) : sIx n d o ≤ n:=by
 cases o with
 | none=>exact hd
 | some v =>
  show (if v < 0 then (v + (n : Int)).toNat else min v.toNat n) ≤ n
  by_cases hv : v < 0
  ·rw [if_pos hv]; omega
  ·rw [if_neg hv]; exact Nat.min_le_right _ _
theorem bp4 (v : Int) (n d : Nat) : (if v < 0 then max (v + (n : Int)) 0 else min v (n : Int)) = ((sIx n d (some v) : Nat) : Int):=by
 show (if v < 0 then max (v + (n : Int)) 0 else min v (n : Int)) = (((if v < 0 then (v + (n : Int)).toNat else min v.toNat n) : Nat) : Int)
 by_cases hv : v < 0
 ·simp only [if_pos hv]; omega
 ·simp only [if_neg hv]; omega
theorem bl4 (lo hi : Option Int) (n : Nat) : Builtin.Slice.sliceAdjust lo hi 1 (n : Int) = (((sIx n 0 lo : Nat) : Int),((sIx n n hi : Nat) : Int)):=by
 have h1 : ¬ ((1 : Int) < 0):=by omega
 unfold Builtin.Slice.sliceAdjust
 simp only [h1,if_false]
 refine Prod.ext ?_ ?_
 ·cases lo with
  | none=>rfl
  | some v=>exact bp4 v n 0
 ·cases hi with
  | none=>rfl
  | some v=>exact bp4 v n n
theorem bf4 (i j : Nat) : Builtin.Slice.slicePlaces (i : Int) (j : Int) 1 = j - i:=by
 unfold Builtin.Slice.slicePlaces
 have h1 : (1 : Int) > 0:=by omega
 simp only [h1,if_true,Int.ediv_one]
 split <;> omega
theorem aD0 {v : Value} {o : Option Int} {Q : Option Int → Shared → Prop} (p : IsPart v o) (h : Q o s) : wpAny (model prog w) A (Builtin.Slice.slicePartIndex v) Q E s:=by
 cases p with
 | none=>exact slicePart_none h
 | int i t=>exact slicePart_int h
theorem sliceApplied_gen {sl : Addr} {vl vu : Value} {lo hi : Option Int} {n : Nat} {Q : Int × Int × Nat → Shared → Prop} (hs : s.heap.IsSliceOf sl vl vu .none) (pl : IsPart vl lo) (pu : IsPart vu hi)
  (h : Q (((sIx n 0 lo : Nat) : Int),1,sIx n n hi - sIx n 0 lo) s) : wpAny (model prog w) A (Builtin.Slice.sliceApplied (.ref sl) (pure (n : Int))) Q E s:=by
 obtain ⟨os,hos,hcs,hds⟩:=id hs
 unfold Builtin.Slice.sliceApplied Builtin.Slice.sliceFields
 refine wpAny_bind (wpAny_bind (wpAny_field hos hds (x:=vl) rfl (wpAny_bind (wpAny_field hos hds (x:=vu) rfl (wpAny_bind (wpAny_field hos hds (x:=.none) rfl (wpAny_pure ?_)))))))
 refine wpAny_bind (slicePart_none ?_)
 show wpAny _ _ (if ((1 : Int) == 0) = true then _ else _) _ _ s
 rw [if_neg (by decide)]
 refine wpAny_bind (aD0 pl (wpAny_bind (aD0 pu (wpAny_bind (wpAny_pure ?_)))))
 show wpAny _ _ (match Builtin.Slice.sliceAdjust lo hi 1 (n : Int) with | (lo,hi)=>pure (lo,(1 : Int),Builtin.Slice.slicePlaces lo hi 1)) _ _ s
 rw [bl4 lo hi n]
 show wpAny _ _ (pure (((sIx n 0 lo : Nat) : Int),(1 : Int),Builtin.Slice.slicePlaces ((sIx n 0 lo : Nat) : Int) ((sIx n n hi : Nat) : Int) 1)) _ _ s
 rw [bf4]
 exact wpAny_pure h
theorem bD0 (xs : Array Value) (i k : Nat) : ((List.range k).filterMap fun (m : Nat)=>xs[((i : Int) + (m : Int) * 1).toNat]?).toArray = ((xs.toList.drop i).take k).toArray:=by
 have e : (fun (m : Nat)=>xs[((i : Int) + (m : Int) * 1).toNat]?) = fun m=>xs[i + m]?:=by
  funext m
  have : ((i : Int) + (m : Int) * 1).toNat = i + m:=by omega
  rw [this]
 rw [e]
 have:=pick_run xs i k
 rw [List.filterMap_map] at this
 have e2 : ((fun x=>xs[x]?) ∘ fun x=>i + x) = fun m=>xs[i + m]?:=rfl
 rw [e2] at this
 rw [this]
theorem getItem_tuple_cut {t sl : Addr} {items : Array Value} {vl vu : Value} {lo hi : Option Int} {Q : Value → Shared → Prop} (ht : IsTup s.heap t items) (hs : s.heap.IsSliceOf sl vl vu .none) (pl : IsPart vl lo) (pu : IsPart vu hi)
  (hw : ¬ (sIx items.size 0 lo = 0 ∧ sIx items.size items.size hi = items.size))
  (h : Q (.ref s.heap.objs.size) { s with heap:=s.heap.push { cls:=.type "tuple", data:=.seq ((items.toList.drop (sIx items.size 0 lo)).take (sIx items.size items.size hi - sIx items.size 0 lo)).toArray } })
  (hsz : items.size ≤ sizeLine) : wpAny (model prog w) A (getItem (.ref t) (.ref sl)) Q E s:=by
 have htake : sizeOk (.seq ((items.toList.drop (sIx items.size 0 lo)).take (sIx items.size items.size hi - sIx items.size 0 lo)).toArray):=by
  show ((items.toList.drop (sIx items.size 0 lo)).take (sIx items.size items.size hi - sIx items.size 0 lo)).toArray.size ≤ sizeLine
  rw [List.size_toArray,List.length_take,List.length_drop,Array.length_toList]
  omega
 have hj : sIx items.size items.size hi ≤ items.size:=ci5 _ _ (Nat.le_refl _) hi
 obtain ⟨os,hos,hcs,hds⟩:=id hs
 have hTs : s.TypeIs (.ref sl) "slice" := ⟨os,hos,hcs⟩
 unfold getItem
 try with_reducible refine wpAny_holding ?_
 first | refine wpAny_bind (wpAny_pure ?_) | skip
 refine wpAny_bind (wpAny_sequenceKey ht.typeIs (by decide) ?_)
 refine wpAny_bind (wpAny_callSpecial?_slot (name:=Str.ofString "__getitem__") ht.typeIs PyProof.Rows.slot_tuple_getitem
  (wpAny_call_entry PyProof.Rows.slot_tuple_getitem ht.typeIs entry_tuple_getitem ?_ (args_tuple_getitem _ _)))
 show wpAny _ _ (Builtin.Tuple.tupleItemsOf (.ref t) >>= _) _ _ s
 refine wpAny_bind (tupleItemsOf_ ht ?_)
 refine wpAny_bind (wpAny_typeOf hTs ?_)
 rw [if_pos (by decide)]
 refine wpAny_bind (sliceApplied_gen hs pl pu ?_)
 have hno : ¬ ((((sIx items.size 0 lo : Nat) : Int) == 0 && (1 : Int) == 1 && (sIx items.size items.size hi - sIx items.size 0 lo) == items.size) = true):=by
  intro q
  rw [Bool.and_eq_true,Bool.and_eq_true] at q
  have q1 : ((sIx items.size 0 lo : Nat) : Int) = 0:=eq_of_beq q.1.1
  have q2 : sIx items.size items.size hi - sIx items.size 0 lo = items.size:=eq_of_beq q.2
  exact hw ⟨by omega,by omega⟩
 show wpAny _ _ (if (((sIx items.size 0 lo : Nat) : Int) == 0 && (1 : Int) == 1 && (sIx items.size items.size hi - sIx items.size 0 lo) == items.size) = true then _ else _) _ _ s
 rw [if_neg hno,bD0]
 first
  | exact wpAny_bind (m:=Builtin.Tuple.tupleExact _) (wpAny_newObj_type (wpAny_pure ⟨_,rfl,wpAny_pure h⟩) htake)
  | exact wpAny_bind (m:=Builtin.Tuple.tupleExact _) (wpAny_newObj_type (wpAny_bind (wpAny_pure (wpAny_pure ⟨_,rfl,wpAny_pure h⟩))) htake)
  | exact wpAny_bind (wpAny_bind (m:=Builtin.Tuple.tupleExact _) (wpAny_newObj_type (wpAny_pure (wpAny_pure ⟨_,rfl,wpAny_pure h⟩)) htake))
  | exact wpAny_bind (wpAny_bind (m:=Builtin.Tuple.tupleExact _) (wpAny_newObj_type (wpAny_pure ⟨_,rfl,wpAny_pure h⟩) htake))
end
end HT
namespace L2
open PySem PySem.Spec PyProof.Rows
noncomputable abbrev TO:=St → Hp → (Option Int → Hp → Prop) → Prop
noncomputable def PO (X : Cx) (e : Option Expr) (t : TO) : Prop :=
 ∀ (pins : List (Addr × Obj)) (s : Shared) (σ : St) (H : Hp) (Q : Option Int → Hp → Prop),Inv X pins σ H s → t σ H Q →
  wpAny (model X.prog X.w) X.A (evalPart e X.env) (fun u s'=>∃ o H',Inv X pins σ H' s' ∧ IsPart u o ∧ Q o H') X.xe s
noncomputable def bO6 : TO:=fun _ H Q=>Q none H
noncomputable def cw1 (t : TE) : TO:=fun σ H Q=>t σ H fun x H1=>∃ i,x = .int i ∧ Q (some i) H1
section
variable {X : Cx} {e : Expr} {te : TE} {lo hi : Option Expr} {tl th : TO} {pos p2 : Pos}
theorem bQ7 : PO X none bO6:=by
 intro pins s σ H Q I h
 rw [evalPart_none]
 exact wpAny_pure ⟨none,H,I,.none,h⟩
theorem bQ6 (h : PE X e te) : PO X (some e) (cw1 te):=by
 intro pins s σ H Q I hw
 rw [evalPart_some]
 refine thn (h pins s σ H _ I hw) fun u s1 ⟨x,H1,I1,r1,q1⟩=>?_
 obtain ⟨i,rfl,q⟩:=q1
 obtain ⟨t,rfl⟩:=r1
 exact ⟨some i,H1,I1,.int i t,q⟩
noncomputable def SlR (X : Cx) (r : V → Option Int → Option Int → Hp → VK → Prop) : Prop :=
 ∀ (pins : List (Addr × Obj)) (s : Shared) (σ : St) (H : Hp) (x : V) (v vl vu : Value) (lo hi : Option Int) (sl : Addr) (Q : VK),Inv X pins σ H s → K8 x v → s.heap.IsSliceOf sl vl vu .none → IsPart vl lo → IsPart vu hi → r x lo hi H Q →
  ∃ T id,typeLookup (.type T) "__getitem__" = pure (some (.builtin id)) ∧ s.TypeIs v T ∧ wpAny (model X.prog X.w) X.A (getItem v (.ref sl)) (EP X pins σ Q) X.xe s
theorem SlR.or {r r' : V → Option Int → Option Int → Hp → VK → Prop} (h : SlR X r) (h' : SlR X r') : SlR X (fun x lo hi H Q=>r x lo hi H Q ∨ r' x lo hi H Q):=by
 intro pins s σ H x v vl vu lo hi sl Q I rx hs pl pu q
 rcases q with q | q
 ·exact h pins s σ H x v vl vu lo hi sl Q I rx hs pl pu q
 ·exact h' pins s σ H x v vl vu lo hi sl Q I rx hs pl pu q
noncomputable def tSl (r : V → Option Int → Option Int → Hp → VK → Prop) (te : TE) (tl th : TO) : TE:=fun σ H Q=>te σ H fun x H1=>tl σ H1 fun l H2=>th σ H2 fun u H3=>r x l u H3 Q
theorem as8 {r : V → Option Int → Option Int → Hp → VK → Prop} (hr : SlR X r) (he : PE X e te) (hl : PO X lo tl) (hu : PO X hi th) : PE X (.Subscript e (.Slice lo hi none p2) pos) (tSl r te tl th):=by
 intro pins s σ H Q I h
 refine Subscript_ (thn (he pins s σ H _ I h) fun v s1 ⟨x,H1,I1,r1,q1⟩=>?_)
 refine wpAny_Slice (thn (hl pins s1 σ H1 _ I1 q1) fun vl s2 ⟨l,H2,I2,pl,q2⟩=>thn (hu pins s2 σ H2 _ I2 q2) fun vu s3 ⟨u,H3,I3,pu,q3⟩=>?_)
 rw [evalPart_none]
 refine wpAny_pure ?_
 have I4 : Inv X pins σ H3 { s3 with heap:=s3.heap.push { cls:=.type "slice", data:=.fields #[vl,vu,.none] } }:=I3.kept (t':=s3.toks) fun b ob q=>Heap.get?_push_of_some _ q
 obtain ⟨T,id,hT,ht,hg⟩:=hr pins { s3 with heap:=s3.heap.push { cls:=.type "slice", data:=.fields #[vl,vu,.none] } } σ H3 x v vl vu l u s3.heap.objs.size Q I4 r1 (Heap.IsSliceOf.new ..) pl pu q3
 show wpAny (model X.prog X.w) X.A (subscriptTail e (.Slice lo hi none p2) v (.ref s3.heap.objs.size)) (EP X pins σ Q) X.xe { s3 with heap:=s3.heap.push { cls:=.type "slice", data:=.fields #[vl,vu,.none] } }
 exact tail_any (ops:=[.ref s3.heap.objs.size,v]) ht hT hg (by with_unfolding_all rfl)
noncomputable def bb5 (xs : List V) (lo hi : Option Int) : List V:=(xs.drop (HT.sIx xs.length 0 lo)).take (HT.sIx xs.length xs.length hi - HT.sIx xs.length 0 lo)
theorem az7 (xs : List V) (lo hi : Option Int) : (bb5 xs lo hi).length ≤ xs.length:=by
 unfold bb5
 rw [List.length_take,List.length_drop]
 omega
noncomputable def cG1 (K : PySem.W.Frag) : V → Option Int → Option Int → Hp → VK → Prop:=fun x lo hi H Q=>∃ a xs,x = .ref a ∧ SqT K H a xs ∧
 ¬ (HT.sIx xs.length 0 lo = 0 ∧ HT.sIx xs.length xs.length hi = xs.length) ∧ ∀ p,H p = none → Q (.ref p) (upd H p (.tup (bb5 xs lo hi)))
theorem ci3 : SlR X (cG1 X.K):=by
 intro pins s σ H x v vl vu lo hi sl Q I rx hs pl pu h
 obtain ⟨a,xs,rfl,hx,hw,q⟩:=h
 cases rx
 obtain ⟨its,r,ht,hz⟩:=I.tuple hx
 have hlen : its.toArray.size = xs.length:=by rw [List.size_toArray]; exact r.length.symm
 refine ⟨"tuple", _,PyProof.Rows.slot_tuple_getitem.lookup,ht.typeIs,?_⟩
 refine HT.getItem_tuple_cut ht hs pl pu (by rw [hlen]; exact hw) ?_ (by rw [hlen]; exact hz)
 rw [hlen]
 refine ⟨.ref s.heap.objs.size,_,I.laid (t':=s.toks) (o:=.tup (bb5 xs lo hi)) (fun b ob q=>Heap.get?_push_of_some _ q) (Nat.le_refl _) ?_,rfl,q _ (I.hok.fresh (Nat.le_refl _))⟩
 exact ⟨Nat.le_trans (az7 xs lo hi) hz,_,(r.drop (HT.sIx xs.length 0 lo)).take (HT.sIx xs.length xs.length hi - HT.sIx xs.length 0 lo),aH2.new _ _⟩
noncomputable def cx8 (K : PySem.W.Frag) : R2:=fun x y H Q=>∃ a b xs ys,x = .ref a ∧ y = .ref b ∧ SqT K H a xs ∧ SqT K H b ys ∧ xs ≠ [] ∧ xs.length + ys.length ≤ sizeLine ∧
 (ys = [] → Q (.ref a) H) ∧ (ys ≠ [] → ∀ p,H p = none → Q (.ref p) (upd H p (.tup (xs ++ ys))))
theorem G3.nil_iff {xs : List V} {us : List Value} (r : G3 xs us) : us = [] ↔ xs = []:=by
 cases r with
 | nil=>simp
 | cons _ _=>simp
theorem bS0 : OpR X (binaryOp .Add) (cx8 X.K):=by
 intro pins s σ H x y v u Q I rx ry h
 obtain ⟨a,b,xs,ys,rfl,rfl,ha,hb,hx,hz,q1,q2⟩:=h
 cases rx
 cases ry
 obtain ⟨its,r1,p1,_⟩:=I.tuple ha
 obtain ⟨its2,r2,p2,_⟩:=I.tuple hb
 refine HT.cat_tup p1 p2 (fun z=>hx (r1.nil_iff.mp z)) (fun z=>⟨.ref a,H,I,rfl,q1 (r2.nil_iff.mp z)⟩) (fun z=>?_) (by rw [← r1.length,← r2.length]; exact hz)
 refine ⟨.ref s.heap.objs.size,_,I.laid (t':=s.toks) (o:=.tup (xs ++ ys)) (fun b ob q=>Heap.get?_push_of_some _ q) (Nat.le_refl _) ?_,rfl,q2 (fun w=>z (r2.nil_iff.mpr w)) _ (I.hok.fresh (Nat.le_refl _))⟩
 exact ⟨by rw [List.length_append]; exact hz,_,r1.append r2,aH2.new _ _⟩
end
end L2
namespace L2
open PySem PySem.Spec PyProof.Rows
noncomputable def ixN (n : Nat) (i : Int) : Option Nat:=if 0 ≤ i then (if i < n then some i.toNat else none) else if -(n : Int) ≤ i then some (i + n).toNat else none
noncomputable def atI {α : Type} (xs : List α) (i : Int) : Option α:=(ixN xs.length i).bind fun j=>xs[j]?
theorem bW5 {n : Nat} {i : Int} {j : Nat} (h : ixN n i = some j) : seqIndex? i n = some j ∧ j < n ∧ -(n : Int) ≤ i ∧ i < n:=by
 unfold ixN at h
 by_cases h0 : 0 ≤ i
 ·rw [if_pos h0] at h
  by_cases h1 : i < n
  ·rw [if_pos h1] at h
   have e : i.toNat = j:=Option.some.inj h
   exact ⟨by rw [seqIndex_of h0 h1,e],by omega,by omega,h1⟩
  ·rw [if_neg h1] at h; cases h
 ·rw [if_neg h0] at h
  by_cases h1 : -(n : Int) ≤ i
  ·rw [if_pos h1] at h
   have e : (i + n).toNat = j:=Option.some.inj h
   exact ⟨by rw [seqIndex_neg (by omega) h1,e],by omega,h1,by omega⟩
  ·rw [if_neg h1] at h; cases h
theorem aT4 {α : Type} {xs : List α} {i : Int} {v : α} (h : atI xs i = some v) : ∃ j,seqIndex? i xs.length = some j ∧ xs[j]? = some v ∧ j < xs.length ∧ -(xs.length : Int) ≤ i ∧ i < xs.length:=by
 unfold atI at h
 cases e : ixN xs.length i with
 | none=>rw [e] at h; cases h
 | some j =>
  rw [e] at h
  obtain ⟨h1,h2,h3,h4⟩:=bW5 e
  exact ⟨j,h1,h,h2,h3,h4⟩
theorem M3 {α : Type} {xs : List α} {j : Nat} {v : α} (h : xs[j]? = some v) : atI xs (j : Int) = some v:=by
 have hj : j < xs.length:=(List.getElem?_eq_some_iff.mp h).1
 have e : ixN xs.length (j : Int) = some j:=by
  unfold ixN
  rw [if_pos (by omega),if_pos (by omega)]; simp
 unfold atI; rw [e]; exact h
noncomputable def aC1 (b : Expr) : Prop:=∀ o i,subscripted b false o i = operate [o,i] (getItem o i)
noncomputable def IxR (X : Cx) (r : R2) : Prop :=
 ∀ (value slice : Expr) (pins : List (Addr × Obj)) (s : Shared) (σ : St) (H : Hp) (x y : V) (v u : Value) (Q : VK),Inv X pins σ H s → K8 x v → K8 y u → r x y H Q →
  subscripted slice false v u = operate [v,u] (getItem v u) → wpAny (model X.prog X.w) X.A (subscriptTail value slice v u) (EP X pins σ Q) X.xe s
noncomputable def MtR (X : Cx) (id : String) (r : V → List V → Hp → VK → Prop) : Prop :=
 ∀ (pins : List (Addr × Obj)) (s : Shared) (σ : St) (H : Hp) (x : V) (xs : List V) (v : Value) (us : List Value) (Q : VK),Inv X pins σ H s → K8 x v → G3 xs us → r x xs H Q →
  wpAny (model X.prog X.w) X.A (call (.builtin id) (v :: us)) (EP X pins σ Q) X.xe s
section
variable {X : Cx} {a b : Expr} {ta tb : TE} {pos : Pos}
theorem IxR.or {r r' : R2} (h : IxR X r) (h' : IxR X r') : IxR X (fun x y H Q=>r x y H Q ∨ r' x y H Q):=by
 intro value slice pins s σ H x y v u Q I rx ry q hs
 rcases q with q | q
 ·exact h value slice pins s σ H x y v u Q I rx ry q hs
 ·exact h' value slice pins s σ H x y v u Q I rx ry q hs
theorem ca1 {r : R2} (hr : IxR X r) (ha : PE X a ta) (hb : PE X b tb) (hs : aC1 b) : PE X (.Subscript a b pos) (tOp r ta tb):=by
 intro pins s σ H Q I h
 exact Subscript_ (ct0 ha hb I h fun v u s2 x y H2 I2 rx ry q=>hr a b pins s2 σ H2 x y v u Q I2 rx ry q (hs _ _))
noncomputable def cx7 (K : PySem.W.Frag) : R2:=fun x y H Q=>∃ p xs i v,x = .ref p ∧ y = .int i ∧ SqL K H p xs ∧ atI xs i = some v ∧ Q v H
noncomputable def cx5 (K : PySem.W.Frag) : R2:=fun x y H Q=>∃ p xs i v,x = .ref p ∧ y = .int i ∧ SqT K H p xs ∧ atI xs i = some v ∧ Q v H
noncomputable def cx6 : R2:=fun x y H Q=>∃ z i c,x = .str z ∧ y = .int i ∧ z.length ≤ sizeLine ∧ atI z.cps.toList i = some c ∧ Q (.str ⟨#[c]⟩) H
theorem bW4 : IxR X (cx7 X.K):=by
 intro value slice pins s σ H x y v u Q I rx ry h hs
 obtain ⟨p,xs,i,z,rfl,rfl,hq,he,q⟩:=h
 cases rx
 obtain ⟨t,rfl⟩:=ry
 obtain ⟨its,r,pl,hz⟩:=I.list hq
 obtain ⟨j,h1,h2,h3,h4,h5⟩:=aT4 he
 obtain ⟨w,ew,rw'⟩:=r.get h2
 have hl:=r.length
 have hn:=ay1
 have fin : EP X pins σ Q w s:=⟨z,H,I,rw',q⟩
 by_cases h0 : 0 ≤ i
 ·have hj : i.toNat = j:=by
   rw [seqIndex_of h0 h5] at h1
   exact Option.some.inj h1
  exact item_listR pl.isList h0 (by omega) (by rw [hj]; simpa using ew) fin hs
 ·have hj : (i + (its.toArray.size : Int)).toNat = j:=by
   rw [seqIndex_neg (by omega) h4] at h1
   rw [List.size_toArray,← hl]
   exact Option.some.inj h1
  exact subscriptTail_builtinR (x:=w) pl.isList.typeIs slot_list_getitem.lookup
   (wpAny_getItem_list_neg (Q:=fun r s'=>r = w ∧ EP X pins σ Q r s') pl.isList (by omega) (by rw [List.size_toArray] <;> omega) (by omega) (by rw [hj]; simpa using ew) ⟨rfl,fin⟩) hs
theorem cr6 : IxR X (cx5 X.K):=by
 intro value slice pins s σ H x y v u Q I rx ry h hs
 obtain ⟨p,xs,i,z,rfl,rfl,hq,he,q⟩:=h
 cases rx
 obtain ⟨t,rfl⟩:=ry
 obtain ⟨its,r,pl,hz⟩:=I.tuple hq
 obtain ⟨j,h1,h2,h3,h4,h5⟩:=aT4 he
 obtain ⟨w,ew,rw'⟩:=r.get h2
 have hl:=r.length
 have hn:=ay1
 have fin : EP X pins σ Q w s:=⟨z,H,I,rw',q⟩
 exact subscriptTail_builtinR (x:=w) pl.typeIs slot_tuple_getitem.lookup
  (getItem_tuple (j:=j) (Q:=fun r s'=>r = w ∧ EP X pins σ Q r s') pl (by omega) (by omega) (by rw [List.size_toArray,← hl]; exact h1) (by simpa using ew) ⟨rfl,fin⟩) hs
theorem cr7 : IxR X cx6:=by
 intro value slice pins s σ H x y v u Q I rx ry h hs
 obtain ⟨z,i,c,rfl,rfl,hz,he,q⟩:=h
 obtain ⟨t,rfl⟩:=rx
 obtain ⟨t',rfl⟩:=ry
 obtain ⟨j,h1,h2,h3,h4,h5⟩:=aT4 he
 have hl : z.cps.toList.length = z.length:=by simp [Str.length]
 rw [hl] at h1 h4 h5
 have hn:=ay1
 exact tail_any (typeIs_str s z t) slot_str_getitem.lookup (getItem_str (c:=c) (by
  have e1 : decide (i < -(2 ^ 63 : Int)) = false:=decide_eq_false (by omega)
  have e2 : decide (i ≥ 2 ^ 63) = false:=decide_eq_false (by omega)
  rw [e1,e2,Bool.or_false]) (by rw [h1]; simpa using h2) ⟨.str ⟨#[c]⟩,H,I.tok _,⟨_,rfl⟩,q⟩) hs
noncomputable def rIx (K : PySem.W.Frag) : R2:=fun x y H Q=>cx7 K x y H Q ∨ cx5 K x y H Q ∨ cx6 x y H Q
theorem bI4 : IxR X (rIx X.K):=bW4.or (cr6.or cr7)
theorem as2 (lo hi : Option Int) (n : Nat) : (sliceBounds lo hi none n).1 = ((HT.sIx n 0 lo : Nat) : Int) ∧ (sliceBounds lo hi none n).2.1 = ((HT.sIx n n hi : Nat) : Int) ∧ (sliceBounds lo hi none n).2.2 = 1:=by
 refine ⟨?_,?_,rfl⟩
 ·cases lo with
  | none=>simp [sliceBounds,HT.sIx]
  | some i =>
   simp only [sliceBounds,HT.sIx,Option.getD_none,show (1 : Int) > 0 by decide,if_true]
   by_cases h : i < 0
   ·simp only [h,if_true] <;> omega
   ·simp only [h,if_false] <;> omega
 ·cases hi with
  | none=>simp [sliceBounds,HT.sIx]
  | some i =>
   simp only [sliceBounds,HT.sIx,Option.getD_none,show (1 : Int) > 0 by decide,if_true]
   by_cases h : i < 0
   ·simp only [h,if_true] <;> omega
   ·simp only [h,if_false] <;> omega
theorem aI0 (its : List Value) (lo hi : Option Int) : slicePick its.toArray lo hi none = ((its.drop (HT.sIx its.length 0 lo)).take (HT.sIx its.length its.length hi - HT.sIx its.length 0 lo)).toArray:=by
 obtain ⟨h1,h2,h3⟩:=as2 lo hi its.toArray.size
 unfold slicePick
 rw [h1,h2,h3]
 simp only [sliceRange_one,pick_run,List.size_toArray] <;> rfl
noncomputable def cG2 (K : PySem.W.Frag) : V → Option Int → Option Int → Hp → VK → Prop:=fun x lo hi H Q=>∃ a xs,x = .ref a ∧ SqL K H a xs ∧ ∀ p,H p = none → Q (.ref p) (upd H p (.lst (bb5 xs lo hi)))
theorem bm6 : SlR X (cG2 X.K):=by
 intro pins s σ H x v vl vu lo hi sl Q I rx hs pl pu h
 obtain ⟨a,xs,rfl,hx,q⟩:=h
 cases rx
 obtain ⟨its,r,ht,hz⟩:=I.list hx
 have hlen:=r.length
 refine ⟨"list", _,slot_list_getitem.lookup,ht.isList.typeIs,?_⟩
 refine wpAny_getItem_list_slice ht.isList hs pl pu .none (by simp) ?_ (by rw [List.size_toArray] <;> omega)
 rw [aI0,← hlen]
 refine ⟨.ref s.heap.objs.size,_,I.laid (t':=s.toks) (o:=.lst (bb5 xs lo hi)) (fun b ob q=>Heap.get?_push_of_some _ q) (Nat.le_refl _) ?_,rfl,q _ (I.hok.fresh (Nat.le_refl _))⟩
 exact ⟨Nat.le_trans (az7 xs lo hi) hz,_,0,(r.drop (HT.sIx xs.length 0 lo)).take (HT.sIx xs.length xs.length hi - HT.sIx xs.length 0 lo),Heap.get?_push_size _ rfl⟩
noncomputable def ao5 : V → Bool
 | .non=>true
 | .bl _=>true
 | .int _=>true
 | .str _=>true
 | _=>false
noncomputable def eqV : V → V → Bool
 | .non,.non=>true
 | .bl a,.bl b=>a == b
 | .bl a,.int b=>(if a then 1 else 0) == b
 | .int a,.bl b=>a == (if b then 1 else 0)
 | .int a,.int b=>a == b
 | .str a,.str b=>a == b
 | _,_=>false
theorem cs5 {A : Around} {s : Shared} {y x : V} {u v : Value} (ry : K8 y u) (rx : K8 x v) (fy : ao5 y = true) (fx : ao5 x = true) : SeqAt.EqAt A s u v (eqV y x):=by
 cases y with
 | non =>
  cases ry
  cases x with
  | non=>cases rx; exact SeqAt.EqAt.same _
  | bl b=>cases rx; exact SeqAt.EqAt.none_bool b
  | int b=>obtain ⟨t,rfl⟩:=rx; exact SeqAt.EqAt.none_int b t
  | str b=>obtain ⟨t,rfl⟩:=rx; exact SeqAt.EqAt.none_str b t
  | _=>exact absurd (show false = true from fx) Bool.false_ne_true
 | bl a =>
  cases ry
  cases x with
  | non=>cases rx; exact SeqAt.EqAt.bool_none a
  | bl b=>cases rx; exact SeqAt.EqAt.bool_bool a b
  | int b=>obtain ⟨t,rfl⟩:=rx; exact SeqAt.EqAt.bool_int a b t
  | str b=>obtain ⟨t,rfl⟩:=rx; exact SeqAt.EqAt.bool_str a b t
  | _=>exact absurd (show false = true from fx) Bool.false_ne_true
 | int a =>
  obtain ⟨t',rfl⟩:=ry
  cases x with
  | non=>cases rx; exact SeqAt.EqAt.int_none a t'
  | bl b=>cases rx; exact SeqAt.EqAt.int_bool a t' b
  | int b=>obtain ⟨t,rfl⟩:=rx; exact SeqAt.EqAt.int_int a t' b t
  | str b=>obtain ⟨t,rfl⟩:=rx; exact SeqAt.EqAt.int_str a t' b t
  | _=>exact absurd (show false = true from fx) Bool.false_ne_true
 | str a =>
  obtain ⟨t',rfl⟩:=ry
  cases x with
  | non=>cases rx; exact SeqAt.EqAt.str_none a t'
  | bl b=>cases rx; exact SeqAt.EqAt.str_bool a t' b
  | int b=>obtain ⟨t,rfl⟩:=rx; exact SeqAt.EqAt.str_int a t' b t
  | str b=>obtain ⟨t,rfl⟩:=rx; exact SeqAt.EqAt.str_str a t' b t
  | _=>exact absurd (show false = true from fx) Bool.false_ne_true
 | _=>exact absurd (show false = true from fy) Bool.false_ne_true
noncomputable def eqU (x : V) (u : Value) : Bool:=match u with
 | .none=>eqV .non x
 | .bool b=>eqV (.bl b) x
 | .int i _=>eqV (.int i) x
 | .str z _=>eqV (.str z) x
 | _=>false
theorem bL0 {x y : V} {u : Value} (r : K8 y u) (f : ao5 y = true) : eqU x u = eqV y x:=by
 cases y with
 | non=>cases r; rfl
 | bl b=>cases r; rfl
 | int i=>obtain ⟨t,rfl⟩:=r; rfl
 | str z=>obtain ⟨t,rfl⟩:=r; rfl
 | _=>exact absurd (show false = true from f) Bool.false_ne_true
theorem au6 {x : V} : ∀ {xs : List V} {us : List Value},G3 xs us → xs.all ao5 = true → us.any (eqU x) = xs.any fun y=>eqV y x
 | _,_,.nil,_=>rfl
 | y :: xs,u :: us,.cons r t,f=>by
  rw [List.all_cons,Bool.and_eq_true] at f
  rw [List.any_cons,List.any_cons,bL0 r f.1,au6 t f.2]
theorem aj0 {A : Around} {s : Shared} {x : V} {v : Value} (rx : K8 x v) (fx : ao5 x = true) : ∀ {xs : List V} {us : List Value},G3 xs us → xs.all ao5 = true → ∀ u ∈ us,SeqAt.EqAt A s u v (eqU x u)
 | _,_,.nil,_=>fun u hu=>by cases hu
 | y :: xs,u :: us,.cons r t,f=>fun u' hu=>by
  rw [List.all_cons,Bool.and_eq_true] at f
  rcases List.mem_cons.mp hu with rfl | hu
  ·rw [bL0 r f.1]; exact cs5 r rx f.1 fx
  ·exact aj0 rx fx t f.2 u' hu
noncomputable def inV (x : V) (xs : List V) : Bool:=xs.any fun y=>eqV y x
noncomputable def rIn (K : PySem.W.Frag) (neg : Bool) : R2:=fun x y H Q=>∃ p xs,y = .ref p ∧ (SqL K H p xs ∨ SqT K H p xs) ∧ ao5 x = true ∧ xs.all ao5 = true ∧ Q (.bl (if neg then !inV x xs else inV x xs)) H
theorem br9 : OpR X (compareOp .In) (rIn X.K false):=by
 intro pins s σ H x y v u Q I rx ry h
 obtain ⟨p,xs,rfl,hq,fx,fs,q⟩:=h
 cases ry
 rcases hq with hq | hq
 ·obtain ⟨its,r,pl,hz⟩:=I.list hq
  refine SeqAt.in_listAt (eqU x) pl.isList (fun w hw=>aj0 rx fx r fs w (by simpa using hw)) ⟨.bl _,H,I,rfl,?_⟩
  rw [show its.toArray.any (eqU x) = its.any (eqU x) by simp,au6 r fs]
  exact q
 ·obtain ⟨its,r,pl,hz⟩:=I.tuple hq
  refine SeqAt.in_tupleAt (eqU x) pl (fun w hw=>aj0 rx fx r fs w (by simpa using hw)) ⟨.bl _,H,I,rfl,?_⟩
  rw [show its.toArray.any (eqU x) = its.any (eqU x) by simp,au6 r fs]
  exact q
theorem aP4 : OpR X (compareOp .NotIn) (rIn X.K true):=by
 intro pins s σ H x y v u Q I rx ry h
 obtain ⟨p,xs,rfl,hq,fx,fs,q⟩:=h
 cases ry
 rcases hq with hq | hq
 ·obtain ⟨its,r,pl,hz⟩:=I.list hq
  refine SeqAt.notIn_listAt (eqU x) pl.isList (fun w hw=>aj0 rx fx r fs w (by simpa using hw)) ⟨.bl _,H,I,rfl,?_⟩
  rw [show its.toArray.any (eqU x) = its.any (eqU x) by simp,au6 r fs]
  exact q
 ·obtain ⟨its,r,pl,hz⟩:=I.tuple hq
  refine SeqAt.notIn_tupleAt (eqU x) pl (fun w hw=>aj0 rx fx r fs w (by simpa using hw)) ⟨.bl _,H,I,rfl,?_⟩
  rw [show its.toArray.any (eqU x) = its.any (eqU x) by simp,au6 r fs]
  exact q
theorem aS8 : y6 X (.builtin "len") (fun xs H Q=>∃ p ys,xs = [.ref p] ∧ (SqL X.K H p ys ∨ SqT X.K H p ys) ∧ Q (.int ys.length) H):=by
 intro pins s σ H xs us Q I r h
 obtain ⟨p,ys,rfl,hq,q⟩:=h
 obtain ⟨u,rfl,rx⟩:=ag1 r
 cases rx
 have hn:=ay1
 rcases hq with hq | hq
 ·obtain ⟨its,r',pl,hz⟩:=I.list hq
  have hlen:=r'.length
  exact Calls.call_len_list pl.isList (by simp only [List.size_toArray] <;> omega) ⟨.int ys.length,H,I.tok _,⟨s.toks + 1,by rw [List.size_toArray,hlen]⟩,q⟩
 ·obtain ⟨its,r',pl,hz⟩:=I.tuple hq
  have hlen:=r'.length
  exact len_tuple pl (by simp only [List.size_toArray] <;> omega) ⟨.int ys.length,H,I.tok _,⟨s.toks + 1,by rw [List.size_toArray,hlen]⟩,q⟩
theorem aS7 : y6 X (.builtin "len") (fun xs H Q=>∃ z,xs = [.str z] ∧ z.length ≤ sizeLine ∧ Q (.int z.length) H):=by
 intro pins s σ H xs us Q I r h
 obtain ⟨z,rfl,hz,q⟩:=h
 obtain ⟨u,rfl,t,rfl⟩:=ag1 r
 have hn:=ay1
 exact len_str (by omega) ⟨.int z.length,H,I.tok _,⟨_,rfl⟩,q⟩
theorem aS6 : y6 X (.type "list") (fun xs H Q=>∃ p ys,xs = [.ref p] ∧ (SqL X.K H p ys ∨ SqT X.K H p ys) ∧ ∀ l,H l = none → Q (.ref l) (upd H l (.lst ys))):=by
 intro pins s σ H xs us Q I r h
 obtain ⟨p,ys,rfl,hq,q⟩:=h
 obtain ⟨u,rfl,rx⟩:=ag1 r
 cases rx
 have fin : ∀ (its : List Value),G3 ys its → ys.length ≤ sizeLine → ∀ (h' : Heap) (c' : Nat),(∀ b o',s.heap.get? b = some o' → h'.get? b = some o') →
   h'.get? s.heap.objs.size = some { cls:=.type "list", dict:=none,data:=.seq its.toArray c',slots:=#[] } → EP X pins σ Q (.ref s.heap.objs.size) { s with heap:=h' }:=fun its r' hz h' c' kp e =>
  ⟨.ref s.heap.objs.size,_,I.laid (t':=s.toks) kp (Nat.le_refl _) (show x4 X.prog X.w _ h' _ (.lst ys) from ⟨hz,its,c',r',e⟩),rfl,q _ (I.hok.fresh (Nat.le_refl _))⟩
 rcases hq with hq | hq
 ·obtain ⟨its,r',pl,hz⟩:=I.list hq
  have hlen:=r'.length
  obtain ⟨o,ho,hc,n,hd⟩:=pl.isList
  exact call_list_seq p (.inl rfl) ho hc hd (fun h' c' kp e=>fin its r' hz h' c' kp e) (by simp only [List.size_toArray] <;> omega)
 ·obtain ⟨its,r',pl,hz⟩:=I.tuple hq
  have hlen:=r'.length
  obtain ⟨o,ho,hc,n,hd⟩:=pl
  exact call_list_seq p (.inr rfl) ho hc hd (fun h' c' kp e=>fin its r' hz h' c' kp e) (by simp only [List.size_toArray] <;> omega)
theorem aJ2 : y6 X (.type "tuple") (fun xs H Q=>∃ p ys,xs = [.ref p] ∧ ((SqL X.K H p ys ∧ ∀ l,H l = none → Q (.ref l) (upd H l (.tup ys))) ∨ (SqT X.K H p ys ∧ Q (.ref p) H))):=by
 intro pins s σ H xs us Q I r h
 obtain ⟨p,ys,rfl,h⟩:=h
 obtain ⟨u,rfl,rx⟩:=ag1 r
 cases rx
 rcases h with ⟨hq,q⟩ | ⟨hq,q⟩
 ·obtain ⟨its,r',pl,hz⟩:=I.list hq
  have hlen:=r'.length
  refine call_tuple_list pl.isList (fun h' kp=>?_) (by simp only [List.size_toArray] <;> omega)
  have I1 : Inv X pins σ H { s with heap:=h' }:=I.kept (t':=s.toks) kp
  have I2 : Inv X pins σ (upd H h'.objs.size (.tup ys)) { s with heap:=h'.push { cls:=.type "tuple", data:=.seq its.toArray } } :=
   I1.laid (t':=s.toks) (fun b o e=>Heap.get?_push_of_some _ e) (Nat.le_refl _) (show x4 X.prog X.w _ _ _ (.tup ys) from ⟨hz,its,r',aH2.new _ _⟩)
  exact ⟨.ref h'.objs.size,_,I2,rfl,q _ (I1.hok.fresh (Nat.le_refl _))⟩
 ·obtain ⟨its,r',pl,hz⟩:=I.tuple hq
  exact call_tuple_same pl ⟨.ref p,H,I,rfl,q⟩
noncomputable def tyV (K : PySem.W.Frag) (T : String) (x : V) (H : Hp) : Prop:=match x with
 | .str _=>T = "str"
 | .int _=>T = "int"
 | .ref p=>(T = "list" ∧ ∃ xs,SqL K H p xs) ∨ (T = "tuple" ∧ ∃ o,K.lookup p = some o ∧ o.cls = .type "tuple" ∧ o.dict = none) ∨
   (T = "dict" ∧ ((∃ kvs,H p = some (.dK kvs)) ∨ ∃ kvs,H p = some (.dT kvs))) ∨ (T = "set" ∧ ∃ S n,H p = some (.set S n))
 | _=>False
theorem cc0 {pins : List (Addr × Obj)} {σ : St} {H : Hp} {s : Shared} {T : String} {x : V} {v : Value} (I : Inv X pins σ H s) (r : K8 x v) (ty : tyV X.K T x H) :
  s.TypeIs v T ∧ ∀ a,v = .ref a → ∃ ob,s.heap.get? a = some ob ∧ ob.dict = none:=by
 cases x with
 | str z =>
  obtain ⟨t,rfl⟩:=r
  cases (show T = "str" from ty)
  exact ⟨typeIs_str s z t,fun _ e=>nomatch e⟩
 | int i =>
  obtain ⟨t,rfl⟩:=r
  cases (show T = "int" from ty)
  exact ⟨typeIs_int s i t,fun _ e=>nomatch e⟩
 | ref p =>
  cases r
  rcases ty with ⟨rfl,xs,hq⟩ | ⟨rfl,o,hk,hc,hd⟩ | ⟨rfl,hk⟩ | ⟨rfl,S,n,hk⟩
  ·obtain ⟨its,_,pl,_⟩:=I.list hq
   refine ⟨pl.isList.typeIs,fun a e=>?_⟩
   cases e
   obtain ⟨o,n,e,c,hd,_⟩:=pl
   exact ⟨o,e,hd⟩
  ·refine ⟨⟨o,I.kIn p o hk,hc⟩,fun a e=>?_⟩
   cases e
   exact ⟨o,I.kIn _ o hk,hd⟩
  ·have z : ∃ o,s.heap.get? p = some o ∧ o.ExactDict:=by
    rcases hk with ⟨kvs,hk⟩ | ⟨kvs,hk⟩
    ·obtain ⟨_,_,_,_,o,_,_,e,ex,_⟩:=I.hok p _ hk
     exact ⟨o,e,ex⟩
    ·obtain ⟨_,_,_,_,o,_,_,e,ex,_⟩:=I.hok p _ hk
     exact ⟨o,e,ex⟩
   obtain ⟨o,e,ex⟩:=z
   refine ⟨⟨o,e,ex.1⟩,fun a e2=>?_⟩
   cases e2
   exact ⟨o,e,ex.2.1⟩
  ·obtain ⟨o,_,_,_,e,ex,_⟩:=I.hok p _ hk
   refine ⟨⟨o,e,ex.1⟩,fun a e2=>?_⟩
   cases e2
   exact ⟨o,e,ex.2.1⟩
 | _=>exact False.elim ty
noncomputable def tBM (K : PySem.W.Frag) (T : String) (r : V → List V → Hp → VK → Prop) (to : TE) (t : TA) : TE:=fun σ H Q=>to σ H fun x H1=>tyV K T x H1 ∧ t σ H1 fun xs H2=>r x xs H2 Q
variable {o e : Expr} {es : List Expr} {to : TE} {t : TA} {name : Str} {apos cpos : Pos} {T id : String} {r : V → List V → Hp → VK → Prop}
theorem bn2 (pa : PlainAttrs T) (slot : Slot T name id) (hty : typeOf (.builtin id) = pure (.type "method_descriptor")) (hm : MtR X id r) (ho : PE X o to) (ha : PA X (e :: es) t)
  (hbase : attributeBase o name X.env (eval o X.env) = eval o X.env:=by rfl)
  (hfew : ((backTo cpos (starEach (e :: es) X.env)).all (fun x=>!x.1) && (backToKw cpos (keywordEach [] X.env)).all (fun x=>x.1.isSome)
   && decide ((e :: es).length + ([] : List Keyword).length + (if ([] : List Keyword).isEmpty then 0 else 1) < 30)) = true:=by rfl)
  (hline : (apos.endLine == cpos.line) = true:=by rfl) (hs : starEach (e :: es) X.env = (false,eval e X.env) :: starEach es X.env:=by rfl) (hplain : (backTo cpos (starEach es X.env)).any (·.1) = false:=by rfl) :
  PE X (.Call (.Attribute o name apos) (e :: es) [] cpos) (tBM X.K T r to t):=by
 intro pins s σ H Q I h
 refine wpAny_Call_method_late hbase hfew hline rfl (thn (ho pins s σ H _ I h) fun v s1 ⟨x,H1,I1,r1,ty,q1⟩=>?_)
 obtain ⟨h1,h2⟩:=cc0 I1 r1 ty
 refine ⟨T,id,pa,slot,hty,h1,h2,?_⟩
 have hA:=ha cpos pins s1 σ H1 _ I1 q1
 rw [hs] at hA ⊢
 refine Calls.callWith_builtin (by show (false || (backTo cpos (starEach es X.env)).any (·.1)) = false; rw [hplain] <;> rfl) (Calls.evalArgs_plain ?_)
 exact thn hA fun us s2 ⟨vs,H2,I2,r2,q2⟩=>hm pins s2 σ H2 x vs v us Q I2 r1 r2 q2
end
end L2
namespace L2
open PySem PySem.Spec PyProof.Rows
noncomputable def MtM (X : Cx) (id : String) (r : V → List V → Hp → VK → Prop) : Prop :=
 ∀ (pins : List (Addr × Obj)) (s : Shared) (σ : St) (H : Hp) (x : V) (xs : List V) (v : Value) (us : List Value) (Q : VK),Inv X pins σ H s → K8 x v → G3 xs us → r x xs H Q →
  wpAny (model X.prog X.w) X.A (call (.builtin id) (v :: us)) (EP X pins σ Q) X.xe s
theorem G3.one : ∀ {x : V} {us : List Value},G3 [x] us → ∃ u,us = [u] ∧ K8 x u
 | _,_,.cons r .nil=>⟨_,rfl,r⟩
theorem G3.rep {xs : List V} {us : List Value} (h : G3 xs us) : ∀ k : Nat,G3 (List.replicate k xs).flatten (List.replicate k us).flatten
 | 0=>.nil
 | k + 1=>by
  rw [List.replicate_succ,List.replicate_succ,List.flatten_cons,List.flatten_cons]
  exact G3.append h (G3.rep h k)
theorem aM0 (its : List Value) : ∀ (k : Nat) (acc : List Value),
  List.foldl (fun x1 x2=>x1 ++ x2) acc.toArray (List.replicate k its.toArray) = (acc ++ (List.replicate k its).flatten).toArray
 | 0,acc=>by simp
 | k + 1,acc=>by
  have e : acc.toArray ++ its.toArray = (acc ++ its).toArray:=by simp
  have e2 : (acc ++ its) ++ (List.replicate k its).flatten = acc ++ (List.replicate (k + 1) its).flatten:=by
   rw [List.replicate_succ,List.flatten_cons,List.append_assoc]
  rw [← e2,← aM0 its k (acc ++ its),← e,List.replicate_succ,List.foldl_cons]
section
variable {X : Cx} {pins : List (Addr × Obj)} {σ : St} {H : Hp} {s : Shared} {l b : Addr} {xs ys zs : List V}
theorem Inv.lset {its its' : List Value} {n : Nat} {f : Array Value → Array Value} {t' : Nat} (I : Inv X pins σ H s) (hH : H l = some (.lst xs))
  (e : s.heap.get? l = some { cls:=.type "list", data:=.seq its.toArray n }) (hf : f its.toArray = its'.toArray) (hv : G3 ys its') (hz : ys.length ≤ sizeLine) :
  Inv X pins σ (upd H l (.lst ys)) { s with heap:=s.heap.update l (Obj.mapSeq f),toks:=t' }:=by
 have q:=PySem.IsL.update e f
 rw [hf] at q
 refine I.write (x:=l) (e:=l) (by rw [hH]; exact trivial) (.inl rfl) (fun b' u hb hu=>(Heap.get?_update_other s.heap (Obj.mapSeq f) (Ne.symm hb)).trans hu) ⟨_,q⟩ ?_
 exact ⟨hz,its',_,hv,q⟩
theorem Inv.lnew {its : List Value} {t' : Nat} (I : Inv X pins σ H s) (hv : G3 ys its) (hz : ys.length ≤ sizeLine) :
  Inv X pins σ (upd H s.heap.objs.size (.lst ys)) { s with heap:=s.heap.push { cls:=.type "list", data:=.seq its.toArray },toks:=t' } :=
 I.laid (fun _ _ q=>Heap.get?_push_of_some _ q) (Nat.le_refl _) ⟨hz,its,0,hv,Heap.get?_push_size _ rfl⟩
theorem Inv.fresh (I : Inv X pins σ H s) : H s.heap.objs.size = none:=I.hok.fresh (Nat.le_refl _)
theorem Inv.lstM (I : Inv X pins σ H s) (hH : H l = some (.lst xs)) : xs.length ≤ sizeLine ∧ ∃ (its : List Value) (n : Nat),G3 xs its ∧ xs.length = its.length ∧ s.heap.get? l = some { cls:=.type "list", data:=.seq its.toArray n }:=by
 obtain ⟨z,its,n,r,e⟩:=I.hok l _ hH
 exact ⟨z,its,n,r,r.length,e⟩
theorem ai6 {n : Nat} (h : n ≤ sizeLine) : Builtin.List.listTooLong n = false:=by
 unfold Builtin.List.listTooLong
 exact decide_eq_false (by omega)
end
section
variable {X : Cx}
noncomputable def bP4 : V → List V → Hp → VK → Prop:=fun x vs H Q=>∃ l xs y,x = .ref l ∧ vs = [y] ∧ H l = some (.lst xs) ∧ xs.length < sizeLine ∧ Q .non (upd H l (.lst (xs ++ [y])))
theorem aL1 : MtM X "list.append" bP4:=by
 intro pins s σ H x vs v us Q I rx rv h
 obtain ⟨l,xs,y,rfl,rfl,hH,hz,q⟩:=h
 cases rx
 obtain ⟨u,rfl,ru⟩:=rv.one
 obtain ⟨z,its,n,r,hl,e⟩:=I.lstM hH
 refine call_meets F.slot_list_append ⟨_,e,rfl⟩ F.entry_list_append (F.args_list_append_2 _ _) (PySem.list_append l its.toArray n u (by rw [List.size_toArray]; omega)) ⟨e,?_⟩
 refine ⟨.non,_,I.lset (its':=its ++ [u]) hH e (by simp) (r.append (.cons ru .nil)) ?_,rfl,q⟩
 rw [List.length_append,List.length_singleton]
 omega
theorem aQ6 {α : Type} (xs : List α) (k : Nat) : (List.replicate k xs).flatten.length = k * xs.length:=by
 induction k with
 | zero=>simp
 | succ k ih=>rw [List.replicate_succ,List.flatten_cons,List.length_append,ih,Nat.succ_mul,Nat.add_comm]
end
section
variable {prog : Program} {w : World} {A : Around} {E : Value → Shared → Prop} {s : Shared}
theorem bq8 (its its2 : List Value) (a c : Nat) : its.toArray.extract 0 a ++ its2.toArray ++ its.toArray.extract c its.toArray.size = (its.take a ++ its2 ++ its.drop c).toArray:=by
  apply Array.toList_inj.mp
  first
    | (simp
       exact List.take_of_length_le (by simp))
    | simp [List.take_of_length_le]
    | simp
set_option maxRecDepth 100000 in
end
section
variable {X : Cx}
end
end L2
namespace Att
open PySem PySem.W PySem.Calls PyProof.Rows
theorem aA3 {P : Params} {h : Heap} : ∀ (ns : List Int) (vs : List Value),WellAll P h vs (ns.map WData.int) → IntsAre vs ns:=by
 intro ns
 induction ns with
 | nil =>
  intro vs w
  rw [List.map_nil] at w
  cases w
  exact .nil
 | cons n ns ih =>
  intro vs w
  rw [List.map_cons] at w
  cases w with
  | cons a b =>
   cases a
   exact .cons _ _ (ih _ b)
theorem br2 {l : OpenLaw} {n : Nat} (hn : l.most = some n) {P : Params} {h : Heap} {args : List WData} {vals : List Value}
  (hpre : l.row.toRowW.claim.pre args = true) (hwl : WellAll P h vals args) :
  ∃ a vs ns,vals = [Value.ref a] ∧ args = [WData.list (ns.map WData.int)] ∧ h.get? a = some { cls:=.type "list", data:=.seq vs.toArray } ∧ IntsAre vs ns ∧ ns.length ≤ n:=by
 have hsh : WShape.hasAll [] args [.list .int] = true:=(pre_splitW hpre).1
 have hc : l.pre.holds [] { args:=args } = true:=(pre_splitW hpre).2
 obtain ⟨d,r,rfl,h1,h2⟩:=hasAllW_cons hsh
 obtain rfl:=hasAllW_nil h2
 obtain ⟨xs,rfl,h3⟩:=hasW_list h1
 obtain ⟨ns,rfl⟩:=items_int h3
 have hlen : ns.length ≤ n:=by
  unfold OpenLaw.pre at hc
  have h4 : (WTm.not (.lt (.lit (.int (n : Int))) (.len (.arg 0)))).holds [] { args:=[.list (ns.map .int)] } = true:=by
   have h4:=(holds_andW hc).1
   rw [hn] at h4
   exact h4
  have h5:=condW_of h4 (w_not (w_lt w_lit (w_len_list (w_arg rfl))))
  rw [List.length_map] at h5
  refine Nat.le_of_not_lt fun q=>?_
  have q' : (n : Int) < ((ns.length : Nat) : Int):=by omega
  first
   | (rw [decide_eq_true q'] at h5; exact absurd h5 (by decide))
   | (simp at h5; omega)
 cases hwl with
 | cons w1 w2 =>
  cases w2
  cases w1 with
  | list ho hall=>exact ⟨_,_,ns,rfl,rfl,ho,aA3 ns _ hall,hlen⟩
theorem br5 (l : OpenLaw) (args : List WData) : l.row.toRowW.claim.post args (.bool true) args = true :=
 postW_of (r:=l.row.toRowW) (X:=(true == true))
  (show WShape.has [] (.bool true) .bool = true by first | rfl | decide | simp [WShape.has,WShape.arms,WShape.armsAll])
  (show (WTm.eq .res (.lit (.bool true))).value [] { args:=args,res:=some (.bool true),after:=args } = some (.bool (true == true)) from w_eq_bool (w_res rfl) w_lit) rfl
theorem attach_call {l : OpenLaw} {n : Nat} {q : Program} {loose : List Str} {XP : (Str → Option Value) → Heap → Prop} {YP : World → Heap → Prop} {d : DefRec}
  (hn : l.most = some n) (hdf : d.params.defaults = [])
  (call : ∀ (w : World) (s₀ s₁ : Shared) (mg mb : Str → Option Value) (fa : Addr) (o : Obj) (pm cd doc : Value) (a : Addr) (vs : List Value) (ns : List Int),
   Ground q loose [] XP w s₀ mg mb s₁.heap → YP w s₁.heap →
   s₁.heap.get? fa = some o → o.data = .func (docDef d.name d.params d.body d.scope pm cd doc) → s₁.heap.CodeRec cd d.name → mg d.name = some (.ref fa) →
   s₁.heap.get? a = some { cls:=.type "list", data:=.seq vs.toArray } → IntsAre vs ns → ns.length ≤ n → s₁.gens = #[] →
   codeAny (model l.prog w) callerA (.call (.ref fa) ⟨[.ref a],[]⟩) (fun r s'=>r = .ok (.ret (.bool true)) ∧ OldK s₁.heap s'.heap ∧ s'.os = s₁.os ∧ AllBare s'.gens) s₁) :
  WalkO q loose XP YP l.row.toRowW d [] (fun f vs=>PySem.call f vs):=by
 intro w s₀ s₁ mg mb G Y fa o pm cd doc dV kV ho hd hcd hD hmg hg args vals as hpre hlay hrd hwl hlo
 obtain rfl : dV = .none:=Dflts.none hD hdf
 obtain rfl : kV = .none:=Dflts.noKw hD
 obtain ⟨a,vs,ns,rfl,rfl,hobj,hints,hlen⟩:=br2 hn hpre hwl
 refine enter_call (codeAny_mono (call w s₀ s₁ mg mb fa o pm cd doc a vs ns G Y ho (fd_plain hd) hcd hmg hobj hints hlen hg) fun r s' hq=>?_)
 obtain ⟨rfl,h2,h3,h4⟩:=hq
 exact ⟨.inl ⟨.bool true,.bool true,[],rfl,fun _=>rfl,.bool true,br5 l _,fun _=>⟨List.Pairwise.nil,fun _ hm=>(nomatch hm)⟩⟩,h2,h3,h4⟩
section
variable {prog : Program} {w : World} {A : Around} {E : Value → Shared → Prop} {s : Shared} {K : Frag}
end
end Att
namespace L2
open PySem PySem.Spec PyProof.Rows
theorem aK0 : ∀ {vs : List Value} {ns : List Int},IntsAre vs ns → G3 (ns.map V.int) vs
 | _,_,.nil=>.nil
 | _,_,.cons n t h=>.cons ⟨t,rfl⟩ (aK0 h)
noncomputable def ct7 (H : Hp) : Prop:=∀ b,H b = none ∨ ∃ o xs,H b = some (.frz o (.lst xs))
theorem bG2 {P : Program} {w : World} {K : PySem.W.Frag} {mg mb : Str → Option Value} {CX : CXT} {k : Nat} {fa a : Addr} {fd : FuncData} {x : Str} {sp : Sp} {s₁ : Shared} {vs : List Value} {ns : List Int}
  (KX : K.In s₁.heap) (hns : s₁.heap.Ns mainGlobals mg) (hb : s₁.heap.Ns builtinsNs mb) (hbb : ∀ x : Str,x ≠ "__name__" → mb x = bootBuiltins x) (hlim : s₁.heap.NoLimit) (hg : s₁.gens = #[])
  (ha : s₁.heap.get? a = some { cls:=.type "list", data:=.seq vs.toArray }) (hi : IntsAre vs ns) (hl : ns.length ≤ sizeLine) (hr : Room k callerA)
  (F : ∀ base : Heap,K.In base → base.Ns mainGlobals mg → FnOk P w K mg base CX k fa fd [x] sp) (hbind : ∀ (s : Shared) (u : Value),BindsTo s fd ⟨[u],[]⟩ [(x,u)])
  (hsp : ∀ H : Hp,ct7 H → SqL K H a (ns.map V.int) → sp [.ref a] H (fun v _=>v = .bl true) fun _ _ _=>False)
  (hCX : ∀ H e s',CX [] H s₁ (fun _ _ _=>False) e s' → False) :
  codeAny (model P w) callerA (.call (.ref fa) ⟨[.ref a],[]⟩) (fun r s'=>r = .ok (.ret (.bool true)) ∧ OldK s₁.heap s'.heap ∧ s'.os = s₁.os ∧ AllBare s'.gens) s₁:=by
 have rv:=aK0 hi
 have lenV:=hi.length
 have core : ∀ H : Hp,ct7 H → SqL K H a (ns.map V.int) → HOk P w H s₁.heap → (∀ b,H b ≠ none → b = a) → (H a ≠ none → K.lookup a = none) →
   codeAny (model P w) callerA (.call (.ref fa) ⟨[.ref a],[]⟩) (fun r s'=>r = .ok (.ret (.bool true)) ∧ OldK s₁.heap s'.heap ∧ s'.os = s₁.os ∧ AllBare s'.gens) s₁:=by
  intro H hO hS hok hA hK
  have base_of : ∀ {b : Addr} {o : Obj},s₁.heap.get? b = some o → H b = none → (aR4 s₁.heap H).get? b = some o:=fun e n=>bJ1 e n
  have noA : ∀ {b : Addr} {o : Obj} {es : Array DictEntry} {ep : Nat},s₁.heap.get? b = some o → o.data = .dict es ep → H b = none:=fun {b o es ep} e d=>by
   cases q : H b with
   | none=>rfl
   | some u =>
    have e' : b = a:=hA b (by rw [q]; simp)
    subst e'
    rw [ha] at e; cases e
    have d' : Data.seq vs.toArray _ = Data.dict es ep:=d
    cases d'
  have nsK : ∀ {b : Addr} {m : Str → Option Value},s₁.heap.Ns b m → (aR4 s₁.heap H).Ns b m:=fun {b m} ⟨o,es,ep,e,d,r⟩=>⟨o,es,ep,base_of e (noA e d),d,r⟩
  have hKb : K.In (aR4 s₁.heap H):=fun b o e=>base_of (KX b o e) (by
   cases q : H b with
   | none=>rfl
   | some u =>
    have e' : b = a:=hA b (by rw [q]; simp)
    subst e'
    rw [hK (by rw [q]; simp)] at e; cases e)
  have hM : Mod K mg (aR4 s₁.heap H):=⟨hKb,nsK hns,⟨mb,nsK hb,hbb⟩,let ⟨mc,h1,h2⟩:=hlim; ⟨mc,nsK h1,h2⟩⟩
  have e0 : Env0 P w K mg (aR4 s₁.heap H) callerA [] s₁ H:=⟨rfl,hM,fun b o e=>bS2 e,Nat.le_of_eq (bu8 _ _),trivial,fun b hb=>absurd (show b ∈ ([] : List Addr) from hb) (by simp),hok,.of_eq hg⟩
  refine codeAny_mono ((F _ hKb (nsK hns)).run callerA [] s₁ H ⟨[.ref a],[]⟩ [.ref a] [.ref a] _ _ hr e0 (hbind s₁ (.ref a)) (.cons rfl .nil) (hsp H hO hS)) fun r s' h=>?_
  cases r with
  | error e=>exact (hCX H e s' h).elim
  | ok fl =>
   cases fl with
   | next=>exact False.elim h
   | brk=>exact False.elim h
   | cont=>exact False.elim h
   | ret u =>
    obtain ⟨v,H',os,bare,un,hok',r',q⟩:=h
    have q' : v = .bl true:=q
    subst q'
    obtain rfl : u = Value.bool true:=r'
    refine ⟨rfl,OldK.of_keep fun b o e=>?_,os,bare⟩
    cases q : H b with
    | none=>exact un.keep b o e q (by intro z; exact absurd (show b ∈ ([] : List Addr) from z) (by simp)) (by simp)
    | some u =>
     rcases hO b with z | ⟨ob,xs,z⟩
     ·rw [q] at z; cases z
     ·have z2:=un.frzs b ob _ z
      obtain ⟨e1,_⟩:=hok b _ z
      obtain ⟨e2,_⟩:=hok' b _ z2
      rw [e] at e1; cases e1
      exact e2
 cases hk : K.lookup a with
 | some o =>
  have e:=KX a o hk
  rw [ha] at e
  cases e
  refine core (fun _=>none) (fun _=>.inl rfl) (.inr ⟨_,vs.toArray,_,hk,rfl,rfl,rfl,by rw [List.size_toArray,lenV]; exact hl,by simpa using rv⟩) (fun b u z=>by have z' : (none : Option HO) = some u:=z; cases z') (fun b z=>absurd rfl z) fun z=>absurd rfl z
 | none =>
  refine core (fun b=>if b = a then some (.frz { cls:=.type "list", data:=.seq vs.toArray } (.lst (ns.map V.int))) else none) (fun b=>?_) (.inl (.inr ⟨{ cls:=.type "list", data:=.seq vs.toArray },if_pos rfl⟩)) (fun b u z=>?_) (fun b z=>?_) fun _=>hk
  ·by_cases hb : b = a
   ·exact .inr ⟨_,_,if_pos hb⟩
   ·exact .inl (if_neg hb)
  ·by_cases hb : b = a
   ·have z':=(if_pos hb).symm.trans z
    cases z'
    subst hb
    exact ⟨ha,by rw [List.length_map]; exact hl,vs,_,rv,ha⟩
   ·have z':=(if_neg hb).symm.trans z
    cases z'
  ·by_cases hb : b = a
   ·exact hb
   ·exact absurd (if_neg hb) z
end L2
namespace L2
open PySem PySem.Spec PyProof.Rows
theorem bO4 {l : PySem.W.OpenLaw} {n k : Nat} {q : Program} {loose : List Str} {XP : (Str → Option Value) → Heap → Prop} {YP : World → Heap → Prop} {d : DefRec} {K : Params → PySem.W.Frag} {CX : World → CXT} {sp : World → Sp} {x : Str}
  (hn : l.most = some n) (hn2 : n ≤ sizeLine) (hdf : d.params.defaults = []) (hr : Room k callerA)
  (hY : ∀ (w : World) (h : Heap),YP w h → (K w.params).In h)
  (F : ∀ (w : World) (mg : Str → Option Value) (fa : Addr) (h : Heap),(K w.params).In h → h.Ns mainGlobals mg → mg d.name = some (.ref fa) →
   ∃ fd : FuncData,(∀ (s : Shared) (u : Value),BindsTo s fd ⟨[u],[]⟩ [(x,u)]) ∧
    ∀ base : Heap,(K w.params).In base → base.Ns mainGlobals mg → FnOk l.prog w (K w.params) mg base (CX w) k fa fd [x] (sp w))
  (hsp : ∀ (w : World) (H : Hp) (a : Addr) (ns : List Int),ns.length ≤ n → ct7 H → SqL (K w.params) H a (ns.map V.int) → sp w [.ref a] H (fun v _=>v = .bl true) fun _ _ _=>False)
  (hCX : ∀ (w : World) (H : Hp) (s : Shared) (e : Value) (s' : Shared),CX w [] H s (fun _ _ _=>False) e s' → False) :
  PySem.W.WalkO q loose XP YP l.row.toRowW d [] (fun f vs=>PySem.call f vs):=by
 refine Att.attach_call hn hdf fun w s₀ s₁ mg mb fa o pm cd doc a vs ns G Y ho hd hcd hmg hobj hints hlen hg=>?_
 have KX:=hY w _ Y
 obtain ⟨fd,hb,hF⟩:=F w mg fa _ KX G.T.g hmg
 exact bG2 KX G.T.g G.T.b G.T.builtins G.T.nolimit hg hobj hints (Nat.le_trans hlen hn2) hr hF hb (fun H hO hS=>hsp w H a ns hlen hO hS) fun H e s'=>hCX w H s₁ e s'
end L2
namespace L2
open PySem PySem.Spec PyProof.Rows
noncomputable def f9 (s : Stmt) : Arguments:=match s with
 | .FunctionDef _ a _ _ _ _ _ _ _ _=>a
 | _=>{ posonlyargs:=[],args:=[],vararg:=none,kwonlyargs:=[],kw_defaults:=[],kwarg:=none,defaults:=[] }
noncomputable def U2 (s : Stmt) : List Stmt:=match s with
 | .FunctionDef _ _ b _ _ _ _ _ _ _=>b
 | _=>[]
noncomputable def J7 (s : Stmt) : Scope:=match s with
 | .FunctionDef _ _ _ _ _ _ sc _ _ _=>sc
 | _=>{ kind:=.function,names:=[],isGenerator:=false,isCoroutine:=false }
noncomputable abbrev CX0 : CXT:=fun _ _ _ _ _ _=>False
noncomputable abbrev E0 : XK:=fun _ _ _=>False
theorem ca2 {X : Cx} : aT9 CX0 X E0:=fun _ _ _ _ _ _ _ h=>h.elim
structure Fun (K : PySem.W.Frag) (x qual : Str) (st : Stmt) (f : Addr) (fd : FuncData) : Prop where
 ex : ∃ (oc : Value) (od : Option Addr) (kV doc pm : Value) (an : Option Addr) (cdv ct : Value) (osl : Array (Option Value)),
  fd = PySem.W.fnOf x qual (f9 st) (U2 st) (J7 st) .none kV doc pm an cdv ct ∧ K.lookup f = some ⟨oc,od,.func fd,osl⟩ ∧ PySem.W.codeIn K cdv qual = true
 kp : PySem.W.keepIn K (.ref f) = true
section
variable {P : Program} {w : World} {K : PySem.W.Frag} {mg : Str → Option Value} {base : Heap}
theorem Fun.ok {x qual : Str} {st : Stmt} {f : Addr} {fd : FuncData} {N ps : List Str} {k : Nat} {sp : Sp} (F : Fun K x qual st f fd) (S : FnScope N ps (J7 st)) (len : ∀ vs H Q E,sp vs H Q E → vs.length = ps.length)
  (hbody : ∀ (cdv : Value) (A : Around) (outer : List Env) (s : Shared) (H : Hp) (vs : List V) (Q : VK) (E : XK),Room k (A.deeper (envOfC qual (J7 st) s.heap.objs.size f cdv)) → sp vs H Q E →
   ∃ t,PSs (bj2 CX0 P w K mg base N qual (J7 st) f cdv A outer s H E).nox (U2 st) t ∧ t { nx:=fun _ H'=>Q .non H',rt:=Q } (aa6 N vs) H) : FnOk P w K mg base CX0 (k + 1) f fd ps sp:=by
 obtain ⟨oc,od,kV,doc,pm,an,cdv,ct,osl,rfl,lk,hcd⟩:=F.ex
 refine aZ5 lk hcd S len fun A outer s H vs Q E hr hsp=>?_
 obtain ⟨t,h,q⟩:=hbody cdv A outer s H vs Q E hr hsp
 exact ⟨t,h.nox,q⟩
theorem cs2 {x qual : Str} {st : Stmt} {f : Addr} {oc : Value} {od an : Option Addr} {osl : Array (Option Value)} {kV doc pm cdv ct : Value} (l : K.lookup f = some ⟨oc,od,.func (PySem.W.fnOf x qual (f9 st) (U2 st) (J7 st) .none kV doc pm an cdv ct),osl⟩)
  (c : PySem.W.codeIn K cdv qual = true) (k : PySem.W.keepIn K (.ref f) = true) : Fun K x qual st f (PySem.W.fnOf x qual (f9 st) (U2 st) (J7 st) .none kV doc pm an cdv ct):=⟨⟨oc,od,kV,doc,pm,an,cdv,ct,osl,rfl,l,c⟩,k⟩
end
theorem av4 {n : Nat} (h : n ≤ 1000) : n < sizeLine:=Nat.lt_of_le_of_lt h (by decide)
section
variable {X : Cx}
theorem pv (i : Nat) {x : Str} {pos : Pos} (hN : X.N[i]? = some x:=by rfl) (hv : Vis X.env.scope x:=by first | exact Or.inl rfl | exact Or.inr (Or.inl rfl) | exact Or.inr (Or.inr rfl)) (hd : (x == ("__debug__" : Str)) = false:=by decide)
  (hcd : (x == ("__classdict__" : Str)) = false:=by decide) : PE X (.Name x pos) (cw0 i):=aq0 hN hv hd hcd
end
theorem aI7 {A B : Prop} (h : B) : if false = true then A else B:=by
 rw [if_neg Bool.false_ne_true]
 exact h
theorem aI6 {A B : Prop} (h : A) : if true = true then A else B:=by
 rw [if_pos rfl]
 exact h
noncomputable def J0 (H H' : Hp) : Prop:=∀ b o,H b = some o → H' b = some o
theorem J0.refl (H : Hp) : J0 H H:=fun _ _ h=>h
theorem J0.trans {H H1 H2 : Hp} (a : J0 H H1) (b : J0 H1 H2) : J0 H H2:=fun c o h=>b c o (a c o h)
theorem J0.free {H H' : Hp} (e : J0 H H') {l : Addr} (h : H' l = Option.none) : H l = Option.none:=by
 cases q : H l with
 | none=>rfl
 | some o =>
  rw [e l o q] at h
  cases h
end L2
set_option maxHeartbeats 4000000
namespace G
theorem xbm {α β : Type} {o : Option α} {f : α → Option β} {b : β} (h : o.bind f = some b) : ∃ a,o = some a ∧ f a = some b:=Option.bind_eq_some_iff.mp h
open PySem PySem.Spec PyProof.Rows L2
noncomputable abbrev D:=PyData
mutual
noncomputable def Rep (K : PySem.W.Frag) (H : Hp) : D → V → Prop
 | .none,v=>v = .non
 | .bool b,v=>v = .bl b
 | .int i,v=>v = .int i
 | .str x,v=>v = .str x
 | .tuple ds,v=>∃ a vs,v = .ref a ∧ SqT K H a vs ∧ Reps K H ds vs
 | .list ds,v=>∃ a vs,v = .ref a ∧ SqL K H a vs ∧ Reps K H ds vs
 | .dict _,_=>False
noncomputable def Reps (K : PySem.W.Frag) (H : Hp) : List D → List V → Prop
 | [],vs=>vs = []
 | d :: ds,vs=>∃ v r,vs = v :: r ∧ Rep K H d v ∧ Reps K H ds r
end
section
variable {K : PySem.W.Frag} {H H' H0 H1 H2 Hf Hf' Hf1 Hf2 : Hp}
theorem bm8 {a : Addr} {u : HO} (e : J0 H H') (h : Rd H a u) : Rd H' a u:=by
 rcases h with h | ⟨o,h⟩
 ·exact .inl (e _ _ h)
 ·exact .inr ⟨o,e _ _ h⟩
theorem F0 {a : Addr} {xs : List V} (e : J0 H H') (h : SqT K H a xs) : SqT K H' a xs:=h.imp (bm8 e) id
theorem L4 {a : Addr} {xs : List V} (e : J0 H H') (h : SqL K H a xs) : SqL K H' a xs:=h.imp (bm8 e) id
mutual
theorem Rep.mono (e : J0 H H') : ∀ {d : D} {v : V},Rep K H d v → Rep K H' d v
 | .none,_,h=>h
 | .bool _,_,h=>h
 | .int _,_,h=>h
 | .str _,_,h=>h
 | .tuple _,_,⟨a,vs,h1,h2,h3⟩=>⟨a,vs,h1,F0 e h2,Reps.mono e h3⟩
 | .list _,_,⟨a,vs,h1,h2,h3⟩=>⟨a,vs,h1,L4 e h2,Reps.mono e h3⟩
 | .dict _,_,h=>h
theorem Reps.mono (e : J0 H H') : ∀ {ds : List D} {vs : List V},Reps K H ds vs → Reps K H' ds vs
 | [],_,h=>h
 | _ :: _,_,⟨v,r,h1,h2,h3⟩=>⟨v,r,h1,Rep.mono e h2,Reps.mono e h3⟩
end
theorem Reps.length : ∀ {ds : List D} {vs : List V},Reps K H ds vs → vs.length = ds.length
 | [],_,h=>by cases h; rfl
 | _ :: _,_,⟨v,r,h1,h2,h3⟩=>by subst h1; simp [Reps.length h3]
theorem Reps.get : ∀ {ds : List D} {vs : List V} {i : Nat} {d : D},Reps K H ds vs → ds[i]? = some d → ∃ v,vs[i]? = some v ∧ Rep K H d v
 | [],_,_,_,_,e=>by simp at e
 | x :: _,_,0,_,⟨v,r,h1,h2,h3⟩,e=>by subst h1; simp at e; subst e; exact ⟨v,rfl,h2⟩
 | x :: _,_,i + 1,_,⟨v,r,h1,h2,h3⟩,e=>by
  subst h1
  obtain ⟨u,q1,q2⟩:=Reps.get (i:=i) h3 (by simpa using e)
  exact ⟨u,by simpa using q1,q2⟩
theorem Reps.append : ∀ {ds es : List D} {vs us : List V},Reps K H ds vs → Reps K H es us → Reps K H (ds ++ es) (vs ++ us)
 | [],_,_,_,h,q=>by cases h; exact q
 | _ :: _,_,_,_,⟨v,r,h1,h2,h3⟩,q=>by subst h1; exact ⟨v,r ++ _,rfl,h2,Reps.append h3 q⟩
theorem Reps.take : ∀ {ds : List D} {vs : List V} (n : Nat),Reps K H ds vs → Reps K H (ds.take n) (vs.take n)
 | [],_,n,h=>by cases h; simp [Reps]
 | _ :: _,_,0,h=>by simp [Reps]
 | _ :: _,_,n + 1,⟨v,r,h1,h2,h3⟩=>by subst h1; exact ⟨v,r.take n,rfl,h2,Reps.take n h3⟩
theorem Reps.drop : ∀ {ds : List D} {vs : List V} (n : Nat),Reps K H ds vs → Reps K H (ds.drop n) (vs.drop n)
 | [],_,n,h=>by cases h; simp [Reps]
 | _ :: _,_,0,h=>h
 | _ :: _,_,n + 1,⟨v,r,h1,h2,h3⟩=>by subst h1; exact Reps.drop n h3
theorem Reps.ints : ∀ (ns : List Int),Reps K H (ns.map PyData.int) (ns.map V.int)
 | []=>rfl
 | n :: r=>⟨.int n,r.map V.int,rfl,rfl,Reps.ints r⟩
theorem Reps.flatten {ds : List D} {vs : List V} (h : Reps K H ds vs) : ∀ k : Nat,Reps K H (List.replicate k ds).flatten (List.replicate k vs).flatten
 | 0=>rfl
 | k + 1=>by simp only [List.replicate_succ,List.flatten_cons]; exact h.append (Reps.flatten h k)
structure Grow (H Hf H' Hf' : Hp) : Prop where
 big : J0 H H'
 sub : J0 Hf' H'
 ext : J0 Hf Hf'
 new : ∀ b,Hf' b ≠ none → Hf b ≠ none ∨ H b = none
theorem Grow.refl (h : J0 Hf H) : Grow H Hf H Hf:=⟨J0.refl _,h,J0.refl _,fun _ h=>.inl h⟩
theorem Grow.trans (a : Grow H Hf H1 Hf1) (b : Grow H1 Hf1 H2 Hf2) : Grow H Hf H2 Hf2 :=
 ⟨a.big.trans b.big,b.sub,a.ext.trans b.ext,fun x h=>(b.new x h).elim (a.new x) fun z=>.inr (a.big.free z)⟩
theorem G9 {p : Addr} {o : HO} (h : H p = none) : J0 H (upd H p o):=fun b u e=>by rw [F5 (G4 e h)]; exact e
theorem Grow.laid {p : Addr} {o : HO} (s : J0 Hf H) (h : H p = none) : Grow H Hf (upd H p o) (upd Hf p o):=by
 refine ⟨G9 h,fun b u e=>?_,G9 (s.free h),fun b e=>?_⟩
 ·by_cases q : b = p
  ·subst q; rw [E5] at e; rw [E5]; exact e
  ·rw [F5 q] at e; rw [F5 q]; exact s b u e
 ·by_cases q : b = p
  ·subst q; exact .inr h
  ·rw [F5 q] at e; exact .inl e
theorem Grow.made {p : Addr} {o : HO} (s : J0 Hf H) (h : H p = none) : Grow H Hf (upd H p o) Hf :=
 ⟨G9 h,s.trans (G9 h),J0.refl _,fun _ e=>.inl e⟩
theorem Grow.freeze {p : Addr} {o : HO} (g : Grow H Hf H1 Hf1) (h : H1 p = some o) (n : Hf1 p = none) (f : H p = none) : Grow H Hf H1 (upd Hf1 p o):=by
 refine ⟨g.big,fun b u e=>?_,g.ext.trans (G9 n),fun b e=>?_⟩
 ·by_cases q : b = p
  ·subst q; rw [E5] at e; rw [h]; exact e
  ·rw [F5 q] at e; exact g.sub b u e
 ·by_cases q : b = p
  ·subst q; exact .inr f
  ·rw [F5 q] at e; exact g.new b e
end
inductive B where
 | val (d : D)
 | own (ds : List D)
noncomputable abbrev Rho:=List (Option B)
noncomputable def SB (K : PySem.W.Frag) (H0 H Hf : Hp) : B → V → Prop
 | .val d,v=>Rep K Hf d v
 | .own ds,v=>∃ a vs,v = .ref a ∧ H a = some (.lst vs) ∧ Hf a = none ∧ H0 a = none ∧ Reps K Hf ds vs
structure Slots (K : PySem.W.Frag) (H0 : Hp) (ρ : Rho) (σ : L2.St) (H Hf : Hp) : Prop where
 len : ρ.length = σ.length
 is : ∀ (i : Nat) (b : B),ρ[i]? = some (some b) → ∃ v,σ[i]? = some (some v) ∧ SB K H0 H Hf b v
 apart : ∀ (i j : Nat) (ds es : List D) (a : Addr),ρ[i]? = some (some (.own ds)) → ρ[j]? = some (some (.own es)) → σ[i]? = some (some (V.ref a)) → σ[j]? = some (some (V.ref a)) → i = j
section
variable {K : PySem.W.Frag} {H H' H0 H1 H2 Hf Hf' Hf1 Hf2 : Hp} {ρ : Rho} {σ : L2.St}
theorem SB.grow {b : B} {v : V} (h : SB K H0 H Hf b v) (g : Grow H Hf H' Hf') : SB K H0 H' Hf' b v:=by
 cases b with
 | val d=>exact Rep.mono g.ext h
 | own ds =>
  obtain ⟨a,vs,e,h1,h2,h3,h4⟩:=h
  refine ⟨a,vs,e,g.big _ _ h1,?_,h3,h4.mono g.ext⟩
  cases q : Hf' a with
  | none=>rfl
  | some u =>
   rcases g.new a (by rw [q]; simp) with z | z
   ·exact absurd h2 z
   ·rw [h1] at z; cases z
theorem Slots.grow (s : Slots K H0 ρ σ H Hf) (g : Grow H Hf H' Hf') : Slots K H0 ρ σ H' Hf' :=
 ⟨s.len,fun i b e=>let ⟨v,h1,h2⟩:=s.is i b e; ⟨v,h1,h2.grow g⟩,s.apart⟩
end
noncomputable abbrev DE:=Rho → Option D
noncomputable def tJ (K : PySem.W.Frag) (ρ : Rho) (R : Hp → V → Hp → Hp → Prop) : TE:=fun σ H Q=>∃ H0 Hf,J0 Hf H ∧ Slots K H0 ρ σ H Hf ∧ ∀ v H' Hf',Grow H Hf H' Hf' → R H v H' Hf' → Q v H'
noncomputable def JE (X : Cx) (e : Expr) (f : DE) : Prop:=∀ ρ d,f ρ = some d → PE X e (tJ X.K ρ fun _ v _ Hf=>Rep X.K Hf d v)
noncomputable def Sq (K : PySem.W.Frag) : Bool → Hp → Addr → List V → Prop
 | true=>SqT K
 | false=>SqL K
noncomputable def RQ (K : PySem.W.Frag) (t : Bool) (ds : List D) (v : V) (H Hf : Hp) : Prop:=∃ a vs,v = .ref a ∧ Sq K t H a vs ∧ Reps K Hf ds vs
noncomputable def JQ (X : Cx) (e : Expr) (f : Rho → Option (Bool × List D)) : Prop:=∀ ρ t ds,f ρ = some (t,ds) → PE X e (tJ X.K ρ fun _ v H Hf=>RQ X.K t ds v H Hf)
noncomputable def JN (X : Cx) (e : Expr) (f : Rho → Option (List D)) : Prop:=∀ ρ ds,f ρ = some ds → PE X e (tJ X.K ρ fun H v H' Hf'=>∃ a vs,v = .ref a ∧ H a = none ∧ H' a = some (.lst vs) ∧ Hf' a = none ∧ Reps X.K Hf' ds vs)
noncomputable def tJA (K : PySem.W.Frag) (ρ : Rho) (ds : List D) : TA:=fun σ H Q=>∃ H0 Hf,J0 Hf H ∧ Slots K H0 ρ σ H Hf ∧ ∀ vs H' Hf',Grow H Hf H' Hf' → Reps K Hf' ds vs → Q vs H'
structure JA (X : Cx) (es : List Expr) (f : Rho → Option (List D)) : Prop where
 len : ∀ ρ ds,f ρ = some ds → ds.length = es.length
 run : ∀ ρ ds,f ρ = some ds → PA X es (tJA X.K ρ ds)
noncomputable def JT (X : Cx) (e : Expr) (f : Rho → Option Bool) : Prop:=∀ ρ c,f ρ = some c → PT X e (fun σ H Q=>∃ H0 Hf,J0 Hf H ∧ Slots X.K H0 ρ σ H Hf ∧ ∀ H' Hf',Grow H Hf H' Hf' → Q c H')
noncomputable def JW (X : Cx) (e : Expr) (f : Rho → Option Bool) : Prop:=∀ ρ c,f ρ = some c → PW X e (fun σ H Q=>∃ H0 Hf,J0 Hf H ∧ Slots X.K H0 ρ σ H Hf ∧ ∀ H' Hf',Grow H Hf H' Hf' → Q c H')
section
variable {X : Cx}
theorem D8 {e : Expr} {t t' : TE} (h : PE X e t) (i : ∀ σ H Q,t' σ H Q → t σ H Q) : PE X e t':=fun pins s σ H Q I q=>h pins s σ H Q I (i σ H Q q)
theorem aP1 {e : Expr} {t t' : TT} (h : PT X e t) (i : ∀ σ H Q,t' σ H Q → t σ H Q) : PT X e t':=fun pins s σ H Q I q=>h pins s σ H Q I (i σ H Q q)
noncomputable def dC (d : D) : DE:=fun _=>some d
noncomputable def A6 (i : Nat) : DE:=fun ρ=>match ρ[i]? with
 | some (some (.val d))=>some d
 | _=>none
noncomputable def B0 (i : Nat) : Rho → Option (Bool × List D):=fun ρ=>match ρ[i]? with
 | some (some (.own ds))=>some (false,ds)
 | some (some (.val (.list ds)))=>some (false,ds)
 | some (some (.val (.tuple ds)))=>some (true,ds)
 | _=>none
noncomputable def k9 : D → Option (Bool × List D)
 | .list ds=>some (false,ds)
 | .tuple ds=>some (true,ds)
 | _=>none
theorem bI0 {i : Int} {j : Nat} {pos : Pos} : JE X (.Constant (.int i) j pos) (dC (.int i)):=fun ρ d h=>by
 cases h
 exact D8 ck5 fun σ H Q ⟨H0,Hf,s,sl,k⟩=>k _ H Hf (Grow.refl s) rfl
theorem cB0 {b : Bool} {j : Nat} {pos : Pos} : JE X (.Constant (.bool b) j pos) (dC (.bool b)):=fun ρ d h=>by
 cases h
 exact D8 cy0 fun σ H Q ⟨H0,Hf,s,sl,k⟩=>k _ H Hf (Grow.refl s) rfl
theorem cq7 {j : Nat} {pos : Pos} : JE X (.Constant .none j pos) (dC .none):=fun ρ d h=>by
 cases h
 exact D8 ck3 fun σ H Q ⟨H0,Hf,s,sl,k⟩=>k _ H Hf (Grow.refl s) rfl
theorem cq1 {x : Str} {j : Nat} {pos : Pos} : JE X (.Constant (.str x) j pos) (dC (.str x)):=fun ρ d h=>by
 cases h
 exact D8 cj9 fun σ H Q ⟨H0,Hf,s,sl,k⟩=>k _ H Hf (Grow.refl s) rfl
theorem cp9 (i : Nat) {x : Str} {pos : Pos} (hN : X.N[i]? = some x:=by rfl) (hv : Vis X.env.scope x:=by first | exact Or.inl rfl | exact Or.inr (Or.inl rfl) | exact Or.inr (Or.inr rfl)) (hd : (x == ("__debug__" : Str)) = false:=by decide)
  (hcd : (x == ("__classdict__" : Str)) = false:=by decide) : JE X (.Name x pos) (A6 i):=fun ρ d h=>by
 refine D8 (aq0 hN hv hd hcd) fun σ H Q ⟨H0,Hf,s,sl,k⟩=>?_
 unfold A6 at h
 split at h
 ·rename_i d' e
  cases h
  obtain ⟨v,h1,h2⟩:=sl.is i _ e
  exact ⟨v,h1,k v H Hf (Grow.refl s) h2⟩
 ·cases h
theorem cp2 (i : Nat) {x : Str} {pos : Pos} (hN : X.N[i]? = some x:=by rfl) (hv : Vis X.env.scope x:=by first | exact Or.inl rfl | exact Or.inr (Or.inl rfl) | exact Or.inr (Or.inr rfl)) (hd : (x == ("__debug__" : Str)) = false:=by decide)
  (hcd : (x == ("__classdict__" : Str)) = false:=by decide) : JQ X (.Name x pos) (B0 i):=fun ρ t ds h=>by
 refine D8 (aq0 hN hv hd hcd) fun σ H Q ⟨H0,Hf,s,sl,k⟩=>?_
 unfold B0 at h
 split at h
 ·rename_i d' e
  cases h
  obtain ⟨v,h1,a,vs,rfl,h2,h3,h4,h5⟩:=sl.is i _ e
  exact ⟨_,h1,k _ H Hf (Grow.refl s) ⟨a,vs,rfl,SqL.of h2,h5⟩⟩
 ·rename_i d' e
  cases h
  obtain ⟨v,h1,a,vs,rfl,h2,h3⟩:=sl.is i _ e
  exact ⟨_,h1,k _ H Hf (Grow.refl s) ⟨a,vs,rfl,L4 s h2,h3⟩⟩
 ·rename_i d' e
  cases h
  obtain ⟨v,h1,a,vs,rfl,h2,h3⟩:=sl.is i _ e
  exact ⟨_,h1,k _ H Hf (Grow.refl s) ⟨a,vs,rfl,F0 s h2,h3⟩⟩
 ·cases h
theorem Rep.seq {K : PySem.W.Frag} {H Hf : Hp} {d : D} {v : V} {t : Bool} {ds : List D} (h : Rep K Hf d v) (s : J0 Hf H) (e : k9 d = some (t,ds)) : RQ K t ds v H Hf:=by
 cases d with
 | list xs=>cases e; obtain ⟨a,vs,e1,e2,e3⟩:=h; exact ⟨a,vs,e1,L4 s e2,e3⟩
 | tuple xs=>cases e; obtain ⟨a,vs,e1,e2,e3⟩:=h; exact ⟨a,vs,e1,F0 s e2,e3⟩
 | _=>cases e
noncomputable def qE (f : DE) : Rho → Option (Bool × List D):=fun ρ=>(f ρ).bind k9
theorem bH1 {e : Expr} {f : DE} (h : JE X e f) : JQ X e (qE f):=fun ρ t ds q=>by
 obtain ⟨d,h1,h2⟩:=xbm q
 exact D8 (h ρ d h1) fun σ H Q ⟨H0,Hf,s,sl,k⟩=>⟨H0,Hf,s,sl,fun v H' Hf' g r=>k v H' Hf' g (r.seq g.sub h2)⟩
noncomputable def A7 : Rho → Option (List D):=fun _=>some []
noncomputable def A5 (f : DE) (g : Rho → Option (List D)) : Rho → Option (List D):=fun ρ=>(f ρ).bind fun d=>(g ρ).map fun ds=>d :: ds
theorem cr5 : JA X [] A7:=⟨fun ρ ds h=>by cases h; rfl,fun ρ ds h pos pins s σ H Q I ⟨H0,Hf,ss,sl,k⟩=>by
 cases h
 exact P4 pos pins s σ H Q I (k [] H Hf (Grow.refl ss) rfl)⟩
theorem bW3 {e : Expr} {es : List Expr} {f : DE} {g : Rho → Option (List D)} (h : JE X e f) (r : JA X es g) (hs : starEach (e :: es) X.env = (false,eval e X.env) :: starEach es X.env:=by rfl) : JA X (e :: es) (A5 f g):=by
 refine ⟨fun ρ ds q=>?_,fun ρ ds q=>?_⟩
 ·obtain ⟨d,h1,h2⟩:=xbm q
  obtain ⟨es',h3,h4⟩:=Option.map_eq_some_iff.mp h2
  subst h4
  simp [r.len ρ es' h3]
 ·obtain ⟨d,h1,h2⟩:=xbm q
  obtain ⟨es',h3,h4⟩:=Option.map_eq_some_iff.mp h2
  subst h4
  intro pos pins s σ H Q I ⟨H0,Hf,ss,sl,k⟩
  refine K9 (h ρ d h1) (r.run ρ es' h3) hs pos pins s σ H Q I ⟨H0,Hf,ss,sl,fun v H1 Hf1 g1 r1=>⟨H0,Hf1,g1.sub,sl.grow g1,fun vs H2 Hf2 g2 r2=>?_⟩⟩
  exact k (v :: vs) H2 Hf2 (g1.trans g2) ⟨v,vs,rfl,r1.mono g2.ext,r2⟩
noncomputable def D2 (f : Rho → Option (List D)) : DE:=fun ρ=>(f ρ).map PyData.tuple
theorem cq0 {es : List Expr} {f : Rho → Option (List D)} {k : Nat} {pos : Pos} (h : JA X es f) (hn : es.length ≤ 1000:=by decide) : JE X (.Tuple es k pos) (D2 f):=fun ρ d q=>by
 obtain ⟨ds,h1,h2⟩:=Option.map_eq_some_iff.mp q
 subst h2
 refine D8 (cj8 fun pos pins s σ H Q I t=>h.run ρ ds h1 pos pins s σ H Q I t) fun σ H Q ⟨H0,Hf,s,sl,k⟩=>?_
 refine ⟨H0,Hf,s,sl,fun vs H1 Hf1 g r=>⟨?_,fun p hp=>?_⟩⟩
 ·rw [r.length,h.len ρ ds h1]; exact Nat.le_of_lt (av4 hn)
 ·exact k _ _ _ (g.trans (Grow.laid g.sub hp)) ⟨p,vs,rfl,SqT.of E5,r.mono (Grow.laid (o:=.tup vs) g.sub hp).ext⟩
theorem cp4 {es : List Expr} {f : Rho → Option (List D)} {pos : Pos} (h : JA X es f) (hn : es.length ≤ 1000:=by decide) : JN X (.List es pos) f:=fun ρ ds h1=>by
 refine D8 (ck4 fun pos pins s σ H Q I t=>h.run ρ ds h1 pos pins s σ H Q I t) fun σ H Q ⟨H0,Hf,s,sl,k⟩=>?_
 refine ⟨H0,Hf,s,sl,fun vs H1 Hf1 g r=>⟨?_,fun p hp=>?_⟩⟩
 ·rw [r.length,h.len ρ ds h1]; exact Nat.le_of_lt (av4 hn)
 ·exact k _ _ _ (g.trans (Grow.made g.sub hp)) ⟨p,vs,rfl,g.big.free hp,E5,g.sub.free hp,r⟩
noncomputable def D6 (f : Rho → Option (List D)) : DE:=fun ρ=>(f ρ).map PyData.list
theorem aF4 {e : Expr} {f : Rho → Option (List D)} (h : JN X e f) : JE X e (D6 f):=fun ρ d q=>by
 obtain ⟨ds,h1,h2⟩:=Option.map_eq_some_iff.mp q
 subst h2
 refine D8 (h ρ ds h1) fun σ H Q ⟨H0,Hf,s,sl,k⟩=>⟨H0,Hf,s,sl,fun v H' Hf' g ⟨a,vs,e1,e2,e3,e4,e5⟩=>?_⟩
 subst e1
 exact k _ _ _ (g.freeze e3 e4 e2) ⟨a,vs,rfl,SqL.of E5,e5.mono (G9 e4)⟩
theorem bH0 {e : Expr} {f : Rho → Option (List D)} (h : JN X e f) : JQ X e (fun ρ=>(f ρ).map fun ds=>(false,ds)):=fun ρ t ds q=>by
 obtain ⟨ds',h1,h2⟩:=Option.map_eq_some_iff.mp q
 cases h2
 refine D8 (h ρ ds h1) fun σ H Q ⟨H0,Hf,s,sl,k⟩=>⟨H0,Hf,s,sl,fun v H' Hf' g ⟨a,vs,e1,e2,e3,e4,e5⟩=>?_⟩
 subst e1
 exact k _ _ _ g ⟨a,vs,rfl,SqL.of e3,e5⟩
noncomputable def OpD (X : Cx) (F : Value → Value → Sem Value) (h : D → D → Option D) : Prop:=∀ x y z,h x y = some z →
 OpR X F fun vx vy H Q=>∃ Hf,J0 Hf H ∧ Rep X.K Hf x vx ∧ Rep X.K Hf y vy ∧ ∀ v H' Hf',Grow H Hf H' Hf' → Rep X.K Hf' z v → Q v H'
noncomputable def A9 (h : D → D → Option D) (f g : DE) : DE:=fun ρ=>(f ρ).bind fun x=>(g ρ).bind fun y=>h x y
theorem aa4 {op : Operator} {h : D → D → Option D} {a b : Expr} {f g : DE} {pos : Pos} (o : OpD X (binaryOp op) h) (ha : JE X a f) (hb : JE X b g) : JE X (.BinOp a op b pos) (A9 h f g):=fun ρ d q=>by
 obtain ⟨x,h1,q⟩:=xbm q
 obtain ⟨y,h2,h3⟩:=xbm q
 refine D8 (ca0 (o x y d h3) (ha ρ x h1) (hb ρ y h2)) fun σ H Q ⟨H0,Hf,s,sl,k⟩=>?_
 refine ⟨H0,Hf,s,sl,fun v H1 Hf1 g1 r1=>⟨H0,Hf1,g1.sub,sl.grow g1,fun u H2 Hf2 g2 r2=>?_⟩⟩
 exact ⟨Hf2,g2.sub,r1.mono g2.ext,r2,fun w H3 Hf3 g3 r3=>k w H3 Hf3 ((g1.trans g2).trans g3) r3⟩
theorem cr2 {op : CmpOp} {h : D → D → Option D} {a b : Expr} {f g : DE} {pos : Pos} (o : OpD X (compareOp op) h) (ha : JE X a f) (hb : JE X b g) (hm : behindInMarks op b = false:=by first | exact bE8 _ | rfl) : JE X (.Compare a [op] [b] pos) (A9 h f g):=fun ρ d q=>by
 obtain ⟨x,h1,q⟩:=xbm q
 obtain ⟨y,h2,h3⟩:=xbm q
 refine D8 (bR2 (o x y d h3) (ha ρ x h1) (hb ρ y h2) hm) fun σ H Q ⟨H0,Hf,s,sl,k⟩=>?_
 refine ⟨H0,Hf,s,sl,fun v H1 Hf1 g1 r1=>⟨H0,Hf1,g1.sub,sl.grow g1,fun u H2 Hf2 g2 r2=>?_⟩⟩
 exact ⟨Hf2,g2.sub,r1.mono g2.ext,r2,fun w H3 Hf3 g3 r3=>k w H3 Hf3 ((g1.trans g2).trans g3) r3⟩
theorem OpR.imp {F : Value → Value → Sem Value} {r r' : R2} (h : OpR X F r) (i : ∀ x y H Q,r' x y H Q → r x y H Q) : OpR X F r':=fun pins s σ H x y v u Q I rx ry q=>h pins s σ H x y v u Q I rx ry (i x y H Q q)
end
end G
namespace G
open PySem PySem.Spec PyProof.Rows L2
section
variable {X : Cx}
noncomputable def G7 (i : Int) : Prop:=i.natAbs < 2 ^ 8000
instance : DecidablePred G7:=fun i=>inferInstanceAs (Decidable (i.natAbs < 2 ^ 8000))
theorem G7.log {i : Int} (h : G7 i) (h0 : i.natAbs ≠ 0) : i.natAbs.log2 < 8000:=(Nat.log2_lt h0).mpr h
theorem G7.bits {i : Int} (h : G7 i) : Builtin.Int.intBits i ≤ 2 ^ 20:=by
 unfold Builtin.Int.intBits
 split
 ·exact Nat.zero_le _
 ·rename_i h0
  have:=h.log (by simpa using h0)
  omega
theorem bR9 {X : Cx} : OpR X (binaryOp .Mult) (rI (fun i j=>G7 i ∧ G7 j) fun i j=>.int (i * j)):=opI fun _ _ _ _ _ _ _ hc q=>mul_int q (PySem.IntMulOk.of_bits hc.1.bits hc.2.bits)
noncomputable def cD5 (x y : D) : Option D:=match x,y with
 | .int i,.int j=>some (.int (i + j))
 | _,_=>none
noncomputable def ag3 (x y : D) : Option D:=match x,y with
 | .int i,.int j=>some (.int (i - j))
 | .int i,.bool b=>some (.int (i - if b = true then 1 else 0))
 | .bool a,.int j=>some (.int ((if a = true then 1 else 0) - j))
 | _,_=>none
noncomputable def cm7 (x y : D) : Option D:=match x,y with
 | .int i,.int j=>if G7 i ∧ G7 j then some (.int (i * j)) else none
 | _,_=>none
noncomputable def V7 (x y : D) : Option D:=match x,y with
 | .int i,.int j=>if 0 < j ∧ G7 j then some (.int (i / j)) else none
 | _,_=>none
noncomputable def Q8 (x y : D) : Option D:=match x,y with
 | .int i,.int j=>if 0 < j then some (.int (i % j)) else none
 | _,_=>none
noncomputable def br4 (x y : D) : Option D:=match x,y with
 | .int i,.int j=>if 0 ≤ j ∧ j ≤ 1000000 ∧ i.natAbs < 2 ^ 64 then some (.int (i ^ j.toNat)) else none
 | _,_=>none
theorem cG8 : OpD X (binaryOp .Add) cD5:=fun x y z h=>by
 unfold cD5 at h
 split at h
 ·cases h
  exact OpR.imp bD6 fun vx vy H Q ⟨Hf,s,r1,r2,k⟩=>⟨_,_,r1,r2,k _ H Hf (Grow.refl s) rfl⟩
 ·cases h
theorem cl4 : OpD X (binaryOp .Sub) ag3:=fun x y z h=>by
 unfold ag3 at h
 split at h
 ·cases h
  exact OpR.imp ck8 fun vx vy H Q ⟨Hf,s,r1,r2,k⟩=>⟨_,_,r1,r2,k _ H Hf (Grow.refl s) rfl⟩
 ·cases h
  intro pins s σ H vx vy v u Q I rx ry ⟨Hf,ss,r1,r2,k⟩
  cases r1; cases r2
  obtain ⟨t,rfl⟩:=rx
  obtain rfl : u = Value.bool _:=ry
  exact PySem.IntBool.sub_int_bool ⟨.int _,H,I.tok _,⟨_,rfl⟩,k _ H Hf (Grow.refl ss) rfl⟩
 ·cases h
  intro pins s σ H vx vy v u Q I rx ry ⟨Hf,ss,r1,r2,k⟩
  cases r1; cases r2
  obtain ⟨t,rfl⟩:=ry
  obtain rfl : v = Value.bool _:=rx
  exact PySem.IntBool.sub_bool_int ⟨.int _,H,I.tok _,⟨_,rfl⟩,k _ H Hf (Grow.refl ss) rfl⟩
 ·cases h
theorem cl6 : OpD X (binaryOp .Mult) cm7:=fun x y z h=>by
 unfold cm7 at h
 split at h
 ·split at h
  ·rename_i c
   cases h
   exact OpR.imp bR9 fun vx vy H Q ⟨Hf,s,r1,r2,k⟩=>⟨_,_,r1,r2,c,k _ H Hf (Grow.refl s) rfl⟩
  ·cases h
 ·cases h
theorem bs0 : OpR X (binaryOp .FloorDiv) (rI (fun _ j=>0 < j ∧ G7 j) fun i j=>.int (i / j)):=opI fun i j _ _ s Q E hc q=>by
 have e : i.fdiv j = i / j:=Int.fdiv_eq_ediv_of_nonneg i (Int.le_of_lt hc.1)
 refine floordiv_int (by omega) (by rw [e]; exact q) (.inl (PyProof.noPylong_of_log2 ?_))
 have h2:=hc.2.log (by omega)
 omega
theorem cm0 : OpD X (binaryOp .FloorDiv) V7:=fun x y z h=>by
 unfold V7 at h
 split at h
 ·split at h
  ·rename_i c
   cases h
   exact OpR.imp bs0 fun vx vy H Q ⟨Hf,s,r1,r2,k⟩=>⟨_,_,r1,r2,c,k _ H Hf (Grow.refl s) rfl⟩
  ·cases h
 ·cases h
theorem cl7 : OpD X (binaryOp .Mod) Q8:=fun x y z h=>by
 unfold Q8 at h
 split at h
 ·split at h
  ·rename_i c
   cases h
   exact OpR.imp cl0 fun vx vy H Q ⟨Hf,s,r1,r2,k⟩=>⟨_,_,r1,r2,c,k _ H Hf (Grow.refl s) rfl⟩
  ·cases h
 ·cases h
theorem cl5 : OpD X (binaryOp .Pow) br4:=fun x y z h=>by
 unfold br4 at h
 split at h
 ·split at h
  ·rename_i c
   cases h
   exact OpR.imp ck9 fun vx vy H Q ⟨Hf,s,r1,r2,k⟩=>⟨_,_,r1,r2,c,k _ H Hf (Grow.refl s) rfl⟩
  ·cases h
 ·cases h
theorem bD5 : OpR X (binaryOp .Add) (fun x y H Q=>∃ a b ys,x = .ref a ∧ y = .ref b ∧ SqT X.K H a [] ∧ SqT X.K H b ys ∧ Q (.ref b) H):=by
 intro pins s σ H x y v u Q I rx ry h
 obtain ⟨a,b,ys,rfl,rfl,ha,hb,q⟩:=h
 cases rx
 cases ry
 obtain ⟨its,r1,p1,_⟩:=I.tuple ha
 obtain ⟨its2,r2,p2,_⟩:=I.tuple hb
 cases r1
 obtain ⟨⟨cls,dd,data,sl⟩,ho,hc,n,hd⟩:=id p1
 obtain ⟨⟨cls2,dd2,data2,sl2⟩,ho2,hc2,n2,hd2⟩:=id p2
 simp only at hc hd hc2 hd2
 subst hc hd hc2 hd2
 exact concat_meets ⟨_,ho,rfl⟩ ⟨_,ho2,rfl⟩ noFill_tuple_add seq_tuple_add PySem.F.slot_tuple_add PySem.F.entry_tuple_add (PySem.F.args_tuple_add_2 _ _)
   (tuple_addW0 a b _ its2.toArray n n2 dd dd2 sl sl2 (by rfl)) ⟨ho,ho2,⟨.ref b,H,I,rfl,q⟩⟩
noncomputable def V2 (x y : D) : Option D:=match x,y with
 | .tuple xs,.tuple ys=>if xs.length + ys.length ≤ 16777216 then some (.tuple (xs ++ ys)) else none
 | .str a,.str b=>if a.length + b.length ≤ 16777216 then some (.str (a ++ b)) else none
 | .int i,.int j=>some (.int (i + j))
 | .bool a,.int j=>some (.int ((if a = true then 1 else 0) + j))
 | _,_=>none
theorem bE0 : OpD X (binaryOp .Add) V2:=fun x y z h=>by
 unfold V2 at h
 split at h
 ·split at h
  ·rename_i xs ys c
   cases h
   cases xs with
   | nil =>
    refine OpR.imp bD5 fun vx vy H Q ⟨Hf,s,r1,r2,k⟩=>?_
    obtain ⟨a,vs,rfl,h2,h3⟩:=r1
    obtain ⟨b,us,rfl,h5,h6⟩:=r2
    cases h3
    exact ⟨a,b,us,rfl,rfl,F0 s h2,F0 s h5,k _ H Hf (Grow.refl s) ⟨b,us,rfl,h5,h6⟩⟩
   | cons d0 ds0 =>
    refine OpR.imp bS0 fun vx vy H Q ⟨Hf,s,r1,r2,k⟩=>?_
    obtain ⟨a,vs,rfl,h2,h3⟩:=r1
    obtain ⟨b,us,rfl,h5,h6⟩:=r2
    have l1:=h3.length
    have l2:=h6.length
    refine ⟨a,b,vs,us,rfl,rfl,F0 s h2,F0 s h5,?_,by rw [sizeLine_eq]; omega,fun e=>?_,fun e p hp=>?_⟩
    ·intro e; subst e; simp at l1
    ·subst e
     have : ys = []:=by cases ys <;> simp_all
     subst this
     exact k _ H Hf (Grow.refl s) ⟨a,vs,rfl,h2,by rw [List.append_nil]; exact h3⟩
    ·exact k _ _ _ (Grow.laid s hp) ⟨p,vs ++ us,rfl,SqT.of E5,(h3.append h6).mono (G9 (s.free hp))⟩
  ·cases h
 ·split at h
  ·rename_i c
   cases h
   exact OpR.imp bf7 fun vx vy H Q ⟨Hf,s,r1,r2,k⟩=>⟨_,_,r1,r2,by rw [sizeLine_eq]; exact c,k _ H Hf (Grow.refl s) rfl⟩
  ·cases h
 ·cases h
  exact OpR.imp bD6 fun vx vy H Q ⟨Hf,s,r1,r2,k⟩=>⟨_,_,r1,r2,k _ H Hf (Grow.refl s) rfl⟩
 ·cases h
  intro pins s σ H vx vy v u Q I rx ry ⟨Hf,ss,r1,r2,k⟩
  cases r1; cases r2
  obtain ⟨t,rfl⟩:=ry
  obtain rfl : v = Value.bool _:=rx
  exact PySem.IntBool.add_bool_int ⟨.int _,H,I.tok _,⟨_,rfl⟩,k _ H Hf (Grow.refl ss) rfl⟩
 ·cases h
noncomputable def ltI (x y : D) : Option D:=match x,y with
 | .int i,.int j=>some (.bool (decide (i < j)))
 | _,_=>none
noncomputable def leI (x y : D) : Option D:=match x,y with
 | .int i,.int j=>some (.bool (decide (i ≤ j)))
 | _,_=>none
noncomputable def gtI (x y : D) : Option D:=match x,y with
 | .int i,.int j=>some (.bool (decide (j < i)))
 | _,_=>none
noncomputable def geI (x y : D) : Option D:=match x,y with
 | .int i,.int j=>some (.bool (decide (j ≤ i)))
 | _,_=>none
theorem cy8 : OpD X (compareOp .Lt) ltI:=fun x y z h=>by
 unfold ltI at h
 split at h
 ·cases h
  exact OpR.imp cy2 fun vx vy H Q ⟨Hf,s,r1,r2,k⟩=>⟨_,_,r1,r2,k _ H Hf (Grow.refl s) rfl⟩
 ·cases h
theorem cy9 : OpD X (compareOp .LtE) leI:=fun x y z h=>by
 unfold leI at h
 split at h
 ·cases h
  exact OpR.imp cy3 fun vx vy H Q ⟨Hf,s,r1,r2,k⟩=>⟨_,_,r1,r2,k _ H Hf (Grow.refl s) rfl⟩
 ·cases h
theorem cz2 : OpD X (compareOp .Gt) gtI:=fun x y z h=>by
 unfold gtI at h
 split at h
 ·cases h
  exact OpR.imp cy4 fun vx vy H Q ⟨Hf,s,r1,r2,k⟩=>⟨_,_,r1,r2,k _ H Hf (Grow.refl s) rfl⟩
 ·cases h
theorem cz3 : OpD X (compareOp .GtE) geI:=fun x y z h=>by
 unfold geI at h
 split at h
 ·cases h
  exact OpR.imp cy5 fun vx vy H Q ⟨Hf,s,r1,r2,k⟩=>⟨_,_,r1,r2,k _ H Hf (Grow.refl s) rfl⟩
 ·cases h
mutual
theorem Rep.reads {pins : List (Addr × Obj)} {σ : L2.St} {H : Hp} {s : Shared} (I : Inv X pins σ H s) : ∀ {d : D} {v : V} {u : Value},Rep X.K H d v → K8 v u → ∃ as,Reads s.heap u d as
 | .none,_,_,h,r=>by cases h; cases r; exact ⟨_,.none⟩
 | .bool b,_,_,h,r=>by cases h; cases r; exact ⟨_,.bool b⟩
 | .int i,_,_,h,r=>by cases h; obtain ⟨t,rfl⟩:=r; exact ⟨_,.int i t⟩
 | .str x,_,_,h,r=>by cases h; obtain ⟨t,rfl⟩:=r; exact ⟨_,.str x t⟩
 | .tuple ds,_,_,⟨a,vs,h1,h2,h3⟩,r=>by
  subst h1; cases r
  obtain ⟨its,rv,⟨o,ho,hc,n,hd⟩,_⟩:=I.tuple h2
  obtain ⟨as,q⟩:=Reps.reads I h3 rv
  exact ⟨_,.tuple ho hc hd (by simpa using q)⟩
 | .list ds,_,_,⟨a,vs,h1,h2,h3⟩,r=>by
  subst h1; cases r
  obtain ⟨its,rv,pl,_⟩:=I.list h2
  obtain ⟨o,ho,hc,n,hd⟩:=pl.isList
  obtain ⟨as,q⟩:=Reps.reads I h3 rv
  exact ⟨_,.list ho hc hd (by simpa using q)⟩
 | .dict _,_,_,h,_=>h.elim
theorem Reps.reads {pins : List (Addr × Obj)} {σ : L2.St} {H : Hp} {s : Shared} (I : Inv X pins σ H s) : ∀ {ds : List D} {vs : List V} {us : List Value},Reps X.K H ds vs → G3 vs us → ∃ as,ReadsAll s.heap us ds as
 | [],_,_,h,r=>by cases h; cases r; exact ⟨_,.nil⟩
 | d :: ds,_,_,⟨v,vr,h1,h2,h3⟩,r=>by
  subst h1
  cases r with
  | cons r1 r2 =>
   obtain ⟨as,q1⟩:=Rep.reads I h2 r1
   obtain ⟨bs,q2⟩:=Reps.reads I h3 r2
   exact ⟨_,.cons q1 q2⟩
end
noncomputable def eqD (x y : D) : Option D:=if SeqAt.shaped x = true ∧ SeqAt.shaped y = true then some (.bool (PyData.eqv x y)) else none
noncomputable def neD (x y : D) : Option D:=if SeqAt.shaped x = true ∧ SeqAt.shaped y = true then some (.bool (!PyData.eqv x y)) else none
theorem cz4 (hu : X.A.units + 64 < cLine) : OpD X (compareOp .Eq) eqD:=fun x y z h=>by
 unfold eqD at h
 split at h
 ·rename_i c
  cases h
  intro pins s σ H vx vy v u Q I rx ry ⟨Hf,ss,r1,r2,k⟩
  obtain ⟨as,q1⟩:=Rep.reads I (r1.mono ss) rx
  obtain ⟨bs,q2⟩:=Rep.reads I (r2.mono ss) ry
  exact eq_dataH q1 q2 c.1 c.2 hu ⟨.bl _,H,I,rfl,k _ H Hf (Grow.refl ss) rfl⟩
 ·cases h
theorem cy7 (hu : X.A.units + 64 < cLine) : OpD X (compareOp .NotEq) neD:=fun x y z h=>by
 unfold neD at h
 split at h
 ·rename_i c
  cases h
  intro pins s σ H vx vy v u Q I rx ry ⟨Hf,ss,r1,r2,k⟩
  obtain ⟨as,q1⟩:=Rep.reads I (r1.mono ss) rx
  obtain ⟨bs,q2⟩:=Rep.reads I (r2.mono ss) ry
  exact ne_dataH q1 q2 c.1 c.2 hu ⟨.bl _,H,I,rfl,k _ H Hf (Grow.refl ss) rfl⟩
 ·cases h
noncomputable def isN (x y : D) : Option D:=match x,y with
 | .none,.none=>some (.bool true)
 | .dict _,_=>none
 | _,.none=>some (.bool false)
 | _,_=>none
theorem bm9 {K : PySem.W.Frag} {H : Hp} {d : D} {v : V} (h : Rep K H d v) : (decide (v = .non)) = (match d with | .none=>true | _=>false):=by
 cases d with
 | none=>cases h; rfl
 | bool b=>cases h; rfl
 | int b=>cases h; rfl
 | str b=>cases h; rfl
 | tuple ds=>obtain ⟨a,vs,rfl,_⟩:=h; rfl
 | list ds=>obtain ⟨a,vs,rfl,_⟩:=h; rfl
 | dict ds=>exact h.elim
theorem cl8 : OpD X (compareOp .Is) isN:=fun x y z h=>by
 refine OpR.imp cl1 fun vx vy H Q ⟨Hf,s,r1,r2,k⟩=>?_
 have e:=bm9 r1
 cases y <;> cases x <;> simp only [isN,Option.some.injEq,reduceCtorEq] at h <;>
  (subst h; simp only at e; rw [e]; exact ⟨r2,k _ H Hf (Grow.refl s) rfl⟩)
noncomputable def cm1 (x y : D) : Option D:=match x,y with
 | .none,.none=>some (.bool false)
 | .dict _,_=>none
 | _,.none=>some (.bool true)
 | _,_=>none
theorem bS4 : OpD X (compareOp .IsNot) cm1:=fun x y z h=>by
 refine OpR.imp bR8 fun vx vy H Q ⟨Hf,s,r1,r2,k⟩=>?_
 have e:=bm9 r1
 cases y <;> cases x <;> simp only [cm1,Option.some.injEq,reduceCtorEq] at h <;>
  (subst h; simp only at e; rw [e]; exact ⟨r2,k _ H Hf (Grow.refl s) rfl⟩)
noncomputable def E2 (h1 h2 : D → D → Option D) (f g k : DE) : DE:=fun ρ=>(f ρ).bind fun x=>(g ρ).bind fun y=>(h1 x y).bind fun z=>match z with
 | .bool true=>(k ρ).bind fun w=>h2 y w
 | .bool false=>some (.bool false)
 | _=>none
theorem bI2 {op op' : CmpOp} {h1 h2 : D → D → Option D} {a b c : Expr} {f g k : DE} {pos : Pos} (o1 : OpD X (compareOp op) h1) (o2 : OpD X (compareOp op') h2) (ha : JE X a f) (hb : JE X b g) (hc : JE X c k)
  (hm : lastMarks [op,op'] [b,c] = false:=by with_unfolding_all rfl) : JE X (.Compare a [op,op'] [b,c] pos) (E2 h1 h2 f g k):=fun ρ d q=>by
 obtain ⟨x,e1,q⟩:=xbm q
 obtain ⟨y,e2,q⟩:=xbm q
 obtain ⟨z,e3,q⟩:=xbm q
 split at q
 ·obtain ⟨w,e4,e5⟩:=xbm q
  refine D8 (aW3 (o1 x y _ e3) (o2 y w d e5) (ha ρ x e1) (hb ρ y e2) (hc ρ w e4) hm) fun σ H Q ⟨H0,Hf,s,sl,kk⟩=>?_
  refine ⟨H0,Hf,s,sl,fun v H1 Hf1 g1 r1=>⟨H0,Hf1,g1.sub,sl.grow g1,fun u H2 Hf2 g2 r2=>⟨Hf2,g2.sub,r1.mono g2.ext,r2,fun z' H3 Hf3 g3 r3=>?_⟩⟩⟩
  refine ⟨true,r3,aI6 ⟨H0,Hf3,g3.sub,sl.grow ((g1.trans g2).trans g3),fun w' H4 Hf4 g4 r4=>⟨Hf4,g4.sub,r2.mono (g3.trans g4).ext,r4,fun z2 H5 Hf5 g5 r5=>?_⟩⟩⟩
  exact kk z2 H5 Hf5 ((((g1.trans g2).trans g3).trans g4).trans g5) r5
 ·cases q
  intro pins s σ H Q I ⟨H0,Hf,ss,sl,kk⟩
  refine aW3 (tc:=fun _ _ _=>False) (r':=fun _ _ _ _=>False) (o1 x y _ e3) (fun _ _ _ _ _ _ _ _ _ _ _ _ h=>h.elim) (ha ρ x e1) (hb ρ y e2) (fun _ _ _ _ _ _ h=>h.elim) hm pins s σ H Q I ?_
  refine ⟨H0,Hf,ss,sl,fun v H1 Hf1 g1 r1=>⟨H0,Hf1,g1.sub,sl.grow g1,fun u H2 Hf2 g2 r2=>⟨Hf2,g2.sub,r1.mono g2.ext,r2,fun z' H3 Hf3 g3 r3=>?_⟩⟩⟩
  exact ⟨false,r3,aI7 (kk _ H3 Hf3 ((g1.trans g2).trans g3) rfl)⟩
 ·cases q
theorem cq5 {op : BoolOp} {a : Expr} {f : DE} {pos : Pos} (h : JE X a f) : JE X (.BoolOp op [a] pos) f:=fun ρ d q=>ck1 (h ρ d q)
noncomputable def G0 (f g : DE) : DE:=fun ρ=>(f ρ).bind fun x=>match x with
 | .bool true=>g ρ
 | .bool false=>some (.bool false)
 | _=>none
noncomputable def dOr (f g : DE) : DE:=fun ρ=>(f ρ).bind fun x=>match x with
 | .bool true=>some (.bool true)
 | .bool false=>g ρ
 | _=>none
noncomputable def af2 (f : DE) : DE:=fun ρ=>(f ρ).bind fun x=>match x with
 | .bool c=>some (.bool (!c))
 | _=>none
theorem cr3 {a b : Expr} {J6 : List Expr} {f g : DE} {pos : Pos} (ha : JE X a f) (hb : JE X (.BoolOp .And (b :: J6) pos) g) : JE X (.BoolOp .And (a :: b :: J6) pos) (G0 f g):=fun ρ d q=>by
 obtain ⟨x,e1,q⟩:=xbm q
 split at q
 ·refine D8 (bD3 (ha ρ _ e1) (hb ρ d q)) fun σ H Q ⟨H0,Hf,s,sl,k⟩=>⟨H0,Hf,s,sl,fun v H1 Hf1 g1 r1=>⟨true,r1,aI6 ⟨H0,Hf1,g1.sub,sl.grow g1,fun u H2 Hf2 g2 r2=>k u H2 Hf2 (g1.trans g2) r2⟩⟩⟩
 ·cases q
  refine D8 (bD3 (tb:=fun _ _ _=>False) (ha ρ _ e1) (fun _ _ _ _ _ _ h=>h.elim)) fun σ H Q ⟨H0,Hf,s,sl,k⟩=>⟨H0,Hf,s,sl,fun v H1 Hf1 g1 r1=>⟨false,r1,aI7 (k _ H1 Hf1 g1 rfl)⟩⟩
 ·cases q
theorem cA8 {a b : Expr} {J6 : List Expr} {f g : DE} {pos : Pos} (ha : JE X a f) (hb : JE X (.BoolOp .Or (b :: J6) pos) g) : JE X (.BoolOp .Or (a :: b :: J6) pos) (dOr f g):=fun ρ d q=>by
 obtain ⟨x,e1,q⟩:=xbm q
 split at q
 ·cases q
  refine D8 (bZ9 (tb:=fun _ _ _=>False) (ha ρ _ e1) (fun _ _ _ _ _ _ h=>h.elim)) fun σ H Q ⟨H0,Hf,s,sl,k⟩=>⟨H0,Hf,s,sl,fun v H1 Hf1 g1 r1=>⟨true,r1,aI6 (k _ H1 Hf1 g1 rfl)⟩⟩
 ·refine D8 (bZ9 (ha ρ _ e1) (hb ρ d q)) fun σ H Q ⟨H0,Hf,s,sl,k⟩=>⟨H0,Hf,s,sl,fun v H1 Hf1 g1 r1=>⟨false,r1,aI7 ⟨H0,Hf1,g1.sub,sl.grow g1,fun u H2 Hf2 g2 r2=>k u H2 Hf2 (g1.trans g2) r2⟩⟩⟩
 ·cases q
theorem cq6 {a : Expr} {f : DE} {pos : Pos} (ha : JE X a f) : JE X (.UnaryOp .Not a pos) (af2 f):=fun ρ d q=>by
 obtain ⟨x,e1,q⟩:=xbm q
 split at q
 ·cases q
  exact D8 (ck2 (ha ρ _ e1)) fun σ H Q ⟨H0,Hf,s,sl,k⟩=>⟨H0,Hf,s,sl,fun v H1 Hf1 g1 r1=>⟨_,r1,k _ H1 Hf1 g1 rfl⟩⟩
 ·cases q
noncomputable def G2 : D → Option Bool
 | .none=>some false
 | .bool b=>some b
 | .int i=>some (i != 0)
 | .str x=>if x.length ≤ 16777216 then some ((x.length : Int) != 0) else none
 | .list ds=>some (!ds.isEmpty)
 | .tuple ds=>some (!ds.isEmpty)
 | .dict _=>none
noncomputable def B9 (f : DE) : Rho → Option Bool:=fun ρ=>(f ρ).bind G2
theorem co0 {a : Expr} {f : DE} (ha : JE X a f) (he : ∀ whole,isTrue a X.env whole = (do let v ← whole; standAt a.pos; holding [v] (truthy v)):=by intro _; rfl) : JT X a (B9 f):=fun ρ c q=>by
 obtain ⟨d,e1,e2⟩:=xbm q
 refine aP1 (bC4 (ha ρ d e1) he) fun σ H Q ⟨H0,Hf,s,sl,k⟩=>⟨H0,Hf,s,sl,fun v H1 Hf1 g1 r1=>⟨c,?_,k H1 Hf1 g1⟩⟩
 cases d with
 | none=>cases e2; cases r1; rfl
 | bool b=>cases e2; cases r1; rfl
 | int i=>cases e2; cases r1; rfl
 | str x =>
  simp only [G2] at e2
  split at e2
  ·rename_i hx; cases e2; cases r1; exact ⟨by rw [sizeLine_eq]; exact hx,rfl⟩
  ·cases e2
 | list ds =>
  cases e2
  obtain ⟨a,vs,rfl,h2,h3⟩:=r1
  refine .inl ⟨vs,L4 g1.sub h2,?_⟩
  have:=h3.length
  cases ds <;> cases vs <;> simp_all
 | tuple ds =>
  cases e2
  obtain ⟨a,vs,rfl,h2,h3⟩:=r1
  refine .inr (.inl ⟨vs,F0 g1.sub h2,?_⟩)
  have:=h3.length
  cases ds <;> cases vs <;> simp_all
 | dict _=>cases e2
noncomputable def B8 : D → Option Bool
 | .bool b=>some b
 | _=>none
noncomputable def tB2 (h : D → D → Option D) (f g : DE) : Rho → Option Bool:=fun ρ=>(A9 h f g ρ).bind B8
theorem bp5 {d : D} {c : Bool} (h : B8 d = some c) : d = .bool c:=by
 cases d <;> simp [B8] at h
 subst h; rfl
theorem co2 {op : CmpOp} {h : D → D → Option D} {a b : Expr} {f g : DE} {pos : Pos} (o : OpD X (compareOp op) h) (ha : JE X a f) (hb : JE X b g) (hm : behindInMarks op b = false:=by first | exact bE8 _ | rfl) : JT X (.Compare a [op] [b] pos) (tB2 h f g):=fun ρ c q=>by
 obtain ⟨d,q,e⟩:=xbm q
 obtain ⟨x,h1,q⟩:=xbm q
 obtain ⟨y,h2,h3⟩:=xbm q
 have:=bp5 e
 subst this
 refine aP1 (bQ1 (o x y _ h3) (ha ρ x h1) (hb ρ y h2) hm) fun σ H Q ⟨H0,Hf,s,sl,k⟩=>?_
 refine ⟨H0,Hf,s,sl,fun v H1 Hf1 g1 r1=>⟨H0,Hf1,g1.sub,sl.grow g1,fun u H2 Hf2 g2 r2=>?_⟩⟩
 exact ⟨Hf2,g2.sub,r1.mono g2.ext,r2,fun w H3 Hf3 g3 r3=>⟨c,r3,k H3 Hf3 ((g1.trans g2).trans g3)⟩⟩
noncomputable def L7 (f g : Rho → Option Bool) : Rho → Option Bool:=fun ρ=>(f ρ).bind fun c=>if c then g ρ else some false
noncomputable def C4 (f g : Rho → Option Bool) : Rho → Option Bool:=fun ρ=>(f ρ).bind fun c=>if c then some true else g ρ
noncomputable def B7 (f : Rho → Option Bool) : Rho → Option Bool:=fun ρ=>(f ρ).map fun c=>!c
theorem aO9 {e : Expr} {t t' : TT} (h : PW X e t) (i : ∀ σ H Q,t' σ H Q → t σ H Q) : PW X e t':=fun whole pins s σ H Q I q=>h whole pins s σ H Q I (i σ H Q q)
theorem bG4 {e : Expr} {f : Rho → Option Bool} (h : JW X e f) : JT X e f:=fun ρ c q=>(h ρ c q).pt
theorem bU2 {a : Expr} {f : Rho → Option Bool} {pos : Pos} (h : JT X a f) : JW X (.BoolOp .And [a] pos) f:=fun ρ c q=>bP8 (h ρ c q)
theorem cn6 {a : Expr} {f : Rho → Option Bool} {pos : Pos} (h : JT X a f) : JW X (.BoolOp .Or [a] pos) f:=fun ρ c q=>ci8 (h ρ c q)
theorem cn7 {a b : Expr} {J6 : List Expr} {f g : Rho → Option Bool} {pos : Pos} (ha : JT X a f) (hb : JW X (.BoolOp .And (b :: J6) pos) g) : JW X (.BoolOp .And (a :: b :: J6) pos) (L7 f g):=fun ρ c q=>by
 obtain ⟨x,e1,q⟩:=xbm q
 cases x with
 | true=>exact aO9 (bC3 (ha ρ _ e1) (hb ρ c (by simpa using q))) fun σ H Q ⟨H0,Hf,s,sl,k⟩=>⟨H0,Hf,s,sl,fun H1 Hf1 g1=>aI6 ⟨H0,Hf1,g1.sub,sl.grow g1,fun H2 Hf2 g2=>k H2 Hf2 (g1.trans g2)⟩⟩
 | false =>
  have : c = false:=by simpa using q.symm
  subst this
  exact aO9 (bC3 (tB':=fun _ _ _=>False) (ha ρ _ e1) (fun _ _ _ _ _ _ _ h=>h.elim)) fun σ H Q ⟨H0,Hf,s,sl,k⟩=>⟨H0,Hf,s,sl,fun H1 Hf1 g1=>aI7 (k H1 Hf1 g1)⟩
theorem cA4 {a b : Expr} {J6 : List Expr} {f g : Rho → Option Bool} {pos : Pos} (ha : JT X a f) (hb : JW X (.BoolOp .Or (b :: J6) pos) g) : JW X (.BoolOp .Or (a :: b :: J6) pos) (C4 f g):=fun ρ c q=>by
 obtain ⟨x,e1,q⟩:=xbm q
 cases x with
 | false=>exact aO9 (bZ6 (ha ρ _ e1) (hb ρ c (by simpa using q))) fun σ H Q ⟨H0,Hf,s,sl,k⟩=>⟨H0,Hf,s,sl,fun H1 Hf1 g1=>aI7 ⟨H0,Hf1,g1.sub,sl.grow g1,fun H2 Hf2 g2=>k H2 Hf2 (g1.trans g2)⟩⟩
 | true =>
  have : c = true:=by simpa using q.symm
  subst this
  exact aO9 (bZ6 (tB':=fun _ _ _=>False) (ha ρ _ e1) (fun _ _ _ _ _ _ _ h=>h.elim)) fun σ H Q ⟨H0,Hf,s,sl,k⟩=>⟨H0,Hf,s,sl,fun H1 Hf1 g1=>aI6 (k H1 Hf1 g1)⟩
theorem co1 {a : Expr} {f : Rho → Option Bool} {pos : Pos} (ha : JT X a f) : JT X (.UnaryOp .Not a pos) (B7 f):=fun ρ c q=>by
 obtain ⟨x,e1,e2⟩:=Option.map_eq_some_iff.mp q
 subst e2
 exact aP1 (cj0 (ha ρ x e1)) fun σ H Q ⟨H0,Hf,s,sl,k⟩=>⟨H0,Hf,s,sl,fun H1 Hf1 g1=>k H1 Hf1 g1⟩
noncomputable def ay6 (t : Rho → Option Bool) (f g : DE) : DE:=fun ρ=>(t ρ).bind fun c=>if c then f ρ else g ρ
theorem cr0 {c a b : Expr} {t : Rho → Option Bool} {f g : DE} {pos : Pos} (hc : JT X c t) (ha : JE X a f) (hb : JE X b g) : JE X (.IfExp c a b pos) (ay6 t f g):=fun ρ d q=>by
 obtain ⟨x,e1,q⟩:=xbm q
 cases x with
 | true=>exact D8 (aW2 (tb:=fun _ _ _=>False) (hc ρ _ e1) (ha ρ d (by simpa using q)) (fun _ _ _ _ _ _ h=>h.elim)) fun σ H Q ⟨H0,Hf,s,sl,k⟩=>⟨H0,Hf,s,sl,fun H1 Hf1 g1=>aI6 ⟨H0,Hf1,g1.sub,sl.grow g1,fun u H2 Hf2 g2 r2=>k u H2 Hf2 (g1.trans g2) r2⟩⟩
 | false=>exact D8 (aW2 (ta:=fun _ _ _=>False) (hc ρ _ e1) (fun _ _ _ _ _ _ h=>h.elim) (hb ρ d (by simpa using q))) fun σ H Q ⟨H0,Hf,s,sl,k⟩=>⟨H0,Hf,s,sl,fun H1 Hf1 g1=>aI7 ⟨H0,Hf1,g1.sub,sl.grow g1,fun u H2 Hf2 g2 r2=>k u H2 Hf2 (g1.trans g2) r2⟩⟩
noncomputable def dIx (f : Rho → Option (Bool × List D)) (g : DE) : DE:=fun ρ=>(f ρ).bind fun q=>(g ρ).bind fun i=>match i with
 | .int i=>atI q.2 i
 | _=>none
theorem bP3 {K : PySem.W.Frag} {H : Hp} {ds : List D} {vs : List V} {i : Int} {d : D} (h : Reps K H ds vs) (e : atI ds i = some d) : ∃ v,atI vs i = some v ∧ Rep K H d v:=by
 unfold atI at e ⊢
 rw [h.length]
 obtain ⟨j,h1,h2⟩:=xbm e
 obtain ⟨v,h3,h4⟩:=h.get h2
 exact ⟨v,by rw [h1]; exact h3,h4⟩
theorem cA9 {a b : Expr} {f : Rho → Option (Bool × List D)} {g : DE} {pos : Pos} (ha : JQ X a f) (hb : JE X b g) (hs : aC1 b:=by intro _ _; rfl) : JE X (.Subscript a b pos) (dIx f g):=fun ρ d q=>by
 obtain ⟨⟨t,ds⟩,h1,q⟩:=xbm q
 obtain ⟨y,h2,h3⟩:=xbm q
 split at h3
 ·refine D8 (ca1 bI4 (ha ρ t ds h1) (hb ρ _ h2) hs) fun σ H Q ⟨H0,Hf,s,sl,k⟩=>?_
  refine ⟨H0,Hf,s,sl,fun v H1 Hf1 g1 ⟨p,vs,e1,e2,e3⟩=>⟨H0,Hf1,g1.sub,sl.grow g1,fun u H2 Hf2 g2 r2=>?_⟩⟩
  obtain ⟨w,q1,q2⟩:=bP3 (e3.mono g2.ext) h3
  cases t with
  | true=>exact .inr (.inl ⟨p,vs,_,w,e1,r2,F0 g2.big e2,q1,k w H2 Hf2 (g1.trans g2) q2⟩)
  | false=>exact .inl ⟨p,vs,_,w,e1,r2,L4 g2.big e2,q1,k w H2 Hf2 (g1.trans g2) q2⟩
 ·cases h3
noncomputable def L6 (xs : List D) (lo hi : Option Int) : List D:=(xs.drop (HT.sIx xs.length 0 lo)).take (HT.sIx xs.length xs.length hi - HT.sIx xs.length 0 lo)
theorem aE1 {K : PySem.W.Frag} {H : Hp} {ds : List D} {vs : List V} (h : Reps K H ds vs) (lo hi : Option Int) : Reps K H (L6 ds lo hi) (bb5 vs lo hi):=by
 unfold L6 bb5
 rw [h.length]
 exact (h.drop _).take _
noncomputable def JO (X : Cx) (e : Option Expr) (f : Rho → Option (Option Int)) : Prop:=∀ ρ o,f ρ = some o → PO X e (fun σ H Q=>∃ H0 Hf,J0 Hf H ∧ Slots X.K H0 ρ σ H Hf ∧ ∀ H' Hf',Grow H Hf H' Hf' → Q o H')
noncomputable def E7 : Rho → Option (Option Int):=fun _=>some none
noncomputable def W2 : D → Option Int
 | .int i=>some i
 | _=>none
noncomputable def D1 (f : DE) : Rho → Option (Option Int):=fun ρ=>(f ρ).bind fun d=>(W2 d).map some
theorem bV3 : JO X none E7:=fun ρ o q=>by
 cases q
 intro pins s σ H Q I ⟨H0,Hf,ss,sl,k⟩
 exact bQ7 pins s σ H Q I (k H Hf (Grow.refl ss))
theorem bV2 {e : Expr} {f : DE} (h : JE X e f) : JO X (some e) (D1 f):=fun ρ o q=>by
 obtain ⟨d,e1,e2⟩:=xbm q
 obtain ⟨i,e3,e4⟩:=Option.map_eq_some_iff.mp e2
 subst e4
 cases d <;> simp [W2] at e3
 subst e3
 intro pins s σ H Q I ⟨H0,Hf,ss,sl,k⟩
 exact bQ6 (h ρ _ e1) pins s σ H Q I ⟨H0,Hf,ss,sl,fun v H1 Hf1 g1 r1=>⟨_,r1,k H1 Hf1 g1⟩⟩
noncomputable def ab4 (f : DE) (lo hi : Rho → Option (Option Int)) : DE:=fun ρ=>(f ρ).bind fun d=>(lo ρ).bind fun l=>(hi ρ).bind fun h=>match d with
 | .tuple xs=>some (.tuple (L6 xs l h))
 | _=>none
theorem an7 {prog : Program} {w : World} {A : Around} {E : Value → Shared → Prop} {s : Shared} {t sl : Addr} {items : Array Value} {vl vu : Value} {lo hi : Option Int} {Q : Value → Shared → Prop} (ht : IsTup s.heap t items) (hs : s.heap.IsSliceOf sl vl vu .none) (pl : IsPart vl lo) (pu : IsPart vu hi)
  (hw : HT.sIx items.size 0 lo = 0 ∧ HT.sIx items.size items.size hi = items.size) (h : Q (.ref t) s) : wpAny (model prog w) A (getItem (.ref t) (.ref sl)) Q E s:=by
 obtain ⟨os,hos,hcs,hds⟩:=id hs
 have hTs : s.TypeIs (.ref sl) "slice" := ⟨os,hos,hcs⟩
 unfold getItem
 try with_reducible refine wpAny_holding ?_
 first | refine wpAny_bind (wpAny_pure ?_) | skip
 refine wpAny_bind (wpAny_sequenceKey ht.typeIs (by decide) ?_)
 refine wpAny_bind (wpAny_callSpecial?_slot (name:=Str.ofString "__getitem__") ht.typeIs PyProof.Rows.slot_tuple_getitem
  (wpAny_call_entry PyProof.Rows.slot_tuple_getitem ht.typeIs entry_tuple_getitem ?_ (args_tuple_getitem _ _)))
 show wpAny _ _ (Builtin.Tuple.tupleItemsOf (.ref t) >>= _) _ _ s
 refine wpAny_bind (tupleItemsOf_ ht ?_)
 refine wpAny_bind (wpAny_typeOf hTs ?_)
 rw [if_pos (by decide)]
 refine wpAny_bind (HT.sliceApplied_gen hs pl pu ?_)
 have hyes : ((((HT.sIx items.size 0 lo : Nat) : Int) == 0 && (1 : Int) == 1 && (HT.sIx items.size items.size hi - HT.sIx items.size 0 lo) == items.size) = true):=by
  rw [hw.1,hw.2]; simp
 show wpAny _ _ (if (((HT.sIx items.size 0 lo : Nat) : Int) == 0 && (1 : Int) == 1 && (HT.sIx items.size items.size hi - HT.sIx items.size 0 lo) == items.size) = true then _ else _) _ _ s
 rw [if_pos hyes]
 unfold Builtin.Tuple.tupleIsExact
 refine wpAny_bind (wpAny_bind (wpAny_typeOf ht.typeIs (wpAny_pure ?_)))
 rw [if_pos (by decide +kernel)]
 exact wpAny_bind (wpAny_rule (wpAny_pure ⟨_,rfl,wpAny_pure h⟩))
theorem aO2 : SlR X (fun x lo hi H Q=>∃ a xs,x = .ref a ∧ SqT X.K H a xs ∧ (HT.sIx xs.length 0 lo = 0 ∧ HT.sIx xs.length xs.length hi = xs.length) ∧ Q (.ref a) H):=by
 intro pins s σ H x v vl vu lo hi sl Q I rx hs pl pu h
 obtain ⟨a,xs,rfl,hx,hw,q⟩:=h
 cases rx
 obtain ⟨its,r,ht,hz⟩:=I.tuple hx
 have hlen : its.toArray.size = xs.length:=by rw [List.size_toArray]; exact r.length.symm
 refine ⟨"tuple", _,PyProof.Rows.slot_tuple_getitem.lookup,ht.typeIs,?_⟩
 exact an7 ht hs pl pu (by rw [hlen]; exact hw) ⟨.ref a,H,I,rfl,q⟩
theorem bH6 {a : Expr} {lo hi : Option Expr} {f : DE} {l h : Rho → Option (Option Int)} {pos p2 : Pos} (ha : JE X a f) (hl : JO X lo l) (hh : JO X hi h) : JE X (.Subscript a (.Slice lo hi none p2) pos) (ab4 f l h):=fun ρ d q=>by
 obtain ⟨x,e1,q⟩:=xbm q
 obtain ⟨y,e2,q⟩:=xbm q
 obtain ⟨z,e3,q⟩:=xbm q
 cases x with
 | tuple xs =>
  cases q
  refine D8 (as8 (ci3.or aO2) (ha ρ _ e1) (hl ρ y e2) (hh ρ z e3)) fun σ H Q ⟨H0,Hf,s,sl,k⟩=>?_
  refine ⟨H0,Hf,s,sl,fun v H1 Hf1 g1 ⟨p,vs,q1,q2,q3⟩=>⟨H0,Hf1,g1.sub,sl.grow g1,fun H2 Hf2 g2=>⟨H0,Hf2,g2.sub,sl.grow (g1.trans g2),fun H3 Hf3 g3=>?_⟩⟩⟩
  subst q1
  have q2':=F0 (g2.trans g3).ext q2
  have q3':=q3.mono (g2.trans g3).ext
  by_cases c : HT.sIx vs.length 0 y = 0 ∧ HT.sIx vs.length vs.length z = vs.length
  ·refine .inr ⟨p,vs,rfl,F0 g3.sub q2',c,k _ H3 Hf3 ((g1.trans g2).trans g3) ⟨p,vs,rfl,q2',?_⟩⟩
   have : L6 xs y z = xs:=by
    unfold L6
    rw [← q3.length,c.1,c.2]
    simp [q3.length]
   rw [this]; exact q3'
  ·refine .inl ⟨p,vs,rfl,F0 g3.sub q2',c,fun p' hp=>?_⟩
   exact k _ _ _ (((g1.trans g2).trans g3).trans (Grow.laid g3.sub hp)) ⟨p',_,rfl,SqT.of E5,(aE1 q3' y z).mono (G9 (g3.sub.free hp))⟩
 | _=>cases q
end
end G
namespace G
open PySem PySem.Spec PyProof.Rows L2
section
variable {X : Cx}
theorem bj8 : bootBuiltins "len" = some (.builtin "len"):=PySem.boot_len
theorem ct3 : bootBuiltins "all" = some (.builtin "all"):=by decide +kernel
theorem ct2 : bootBuiltins "isinstance" = some (.builtin "isinstance"):=by decide +kernel
theorem bj9 : bootBuiltins "int" = some (.type "int"):=by decide +kernel
theorem bY0 : bootBuiltins "bool" = some (.type "bool"):=by decide +kernel
theorem bj7 : bootBuiltins "str" = some (.type "str"):=by decide +kernel
theorem bp6 : bootBuiltins "list" = some (.type "list"):=by decide +kernel
theorem bb9 : bootBuiltins "tuple" = some (.type "tuple"):=by decide +kernel
noncomputable def D4 (f : Rho → Option (Bool × List D)) : DE:=fun ρ=>(f ρ).map fun q=>.int q.2.length
theorem bH8 {e : Expr} {f : Rho → Option (Bool × List D)} {p pos : Pos} (hg : Gl X "len") (hm : X.mg "len" = none) (h : JQ X e f) (he : starEach [e] X.env = [(false,eval e X.env)]:=by rfl) : JE X (.Call (.Name "len" p) [e] [] pos) (D4 f):=fun ρ d q=>by
 obtain ⟨⟨t,ds⟩,h1,h2⟩:=Option.map_eq_some_iff.mp q
 subst h2
 refine D8 (ab1 aS8 hg hm bj8 (K9 (h ρ t ds h1) P4 he) (he:=he)) fun σ H Q ⟨H0,Hf,s,sl,k⟩=>?_
 refine ⟨H0,Hf,s,sl,fun v H1 Hf1 g1 ⟨a,vs,e1,e2,e3⟩=>⟨a,vs,by rw [e1],?_,?_⟩⟩
 ·cases t with
  | true=>exact .inr e2
  | false=>exact .inl e2
 ·exact k _ H1 Hf1 g1 (by rw [e3.length]; rfl)
theorem bH4 {e : Expr} {f : Rho → Option (Bool × List D)} {p pos : Pos} (hg : Gl X "tuple") (hm : X.mg "tuple" = none) (h : JQ X e f) (hz : ∀ ρ ds,f ρ ≠ some (true,ds) ∨ True:=by intros; exact .inr trivial) (he : starEach [e] X.env = [(false,eval e X.env)]:=by rfl) :
  JE X (.Call (.Name "tuple" p) [e] [] pos) (fun ρ=>(f ρ).bind fun q=>if q.1 = true then none else some (.tuple q.2)):=fun ρ d q=>by
 obtain ⟨⟨t,ds⟩,h1,h2⟩:=xbm q
 cases t with
 | true=>simp at h2
 | false =>
  simp only [Bool.false_eq_true,if_false,Option.some.injEq] at h2
  subst h2
  refine D8 (W7 aJ2 hg hm bb9 (K9 (h ρ false ds h1) P4 he) (he:=he)) fun σ H Q ⟨H0,Hf,s,sl,k⟩=>?_
  refine ⟨H0,Hf,s,sl,fun v H1 Hf1 g1 ⟨a,vs,e1,e2,e3⟩=>⟨a,vs,by rw [e1],.inl ⟨e2,fun l hl=>?_⟩⟩⟩
  exact k _ _ _ (g1.trans (Grow.laid g1.sub hl)) ⟨l,vs,rfl,SqT.of E5,e3.mono (G9 (g1.sub.free hl))⟩
theorem bV4 {e : Expr} {f : Rho → Option (Bool × List D)} {p pos : Pos} (hg : Gl X "list") (hm : X.mg "list" = none) (h : JQ X e f) (he : starEach [e] X.env = [(false,eval e X.env)]:=by rfl) : JN X (.Call (.Name "list" p) [e] [] pos) (fun ρ=>(f ρ).map fun q=>q.2):=fun ρ ds' q=>by
 obtain ⟨⟨t,ds⟩,h1,h2⟩:=Option.map_eq_some_iff.mp q
 subst h2
 refine D8 (W7 aS6 hg hm bp6 (K9 (h ρ t ds h1) P4 he) (he:=he)) fun σ H Q ⟨H0,Hf,s,sl,k⟩=>?_
 refine ⟨H0,Hf,s,sl,fun v H1 Hf1 g1 ⟨a,vs,e1,e2,e3⟩=>⟨a,vs,by rw [e1],?_,fun l hl=>?_⟩⟩
 ·cases t with
  | true=>exact .inr e2
  | false=>exact .inl e2
 ·exact k _ _ _ (g1.trans (Grow.made g1.sub hl)) ⟨l,vs,rfl,g1.big.free hl,E5,g1.sub.free hl,e3⟩
noncomputable def Z4 (f : DE) : DE:=fun ρ=>(f ρ).bind fun d=>match d with
 | .int i=>some (.int i)
 | .bool b=>some (.int (if b then 1 else 0))
 | _=>none
theorem bH9 {e : Expr} {f : DE} {p pos : Pos} (hg : Gl X "int") (hm : X.mg "int" = none) (h : JE X e f) (he : starEach [e] X.env = [(false,eval e X.env)]:=by rfl) : JE X (.Call (.Name "int" p) [e] [] pos) (Z4 f):=fun ρ d q=>by
 obtain ⟨x,h1,h2⟩:=xbm q
 split at h2
 ·cases h2
  exact D8 (W7 aM5 hg hm bj9 (K9 (h ρ _ h1) P4 he) (he:=he)) fun σ H Q ⟨H0,Hf,s,sl,k⟩ =>
   ⟨H0,Hf,s,sl,fun v H1 Hf1 g1 r=>.inl ⟨_,by rw [show v = _ from r],k _ H1 Hf1 g1 rfl⟩⟩
 ·cases h2
  exact D8 (W7 aM5 hg hm bj9 (K9 (h ρ _ h1) P4 he) (he:=he)) fun σ H Q ⟨H0,Hf,s,sl,k⟩ =>
   ⟨H0,Hf,s,sl,fun v H1 Hf1 g1 r=>.inr ⟨_,by rw [show v = _ from r],k _ H1 Hf1 g1 rfl⟩⟩
 ·cases h2
noncomputable def bj1 (f : DE) : DE:=fun ρ=>(f ρ).bind fun d=>match d with
 | .int i=>if i.natAbs.log2 < 1920 then some (.str (toString i)) else none
 | .bool b=>some (.str (if b = true then "True" else "False"))
 | _=>none
theorem aJ3 : y6 X (.type "str") (fun xs H Q=>∃ b,xs = [.bl b] ∧ Q (.str (if b = true then "True" else "False")) H):=by
 intro pins s σ H xs us Q I r h
 obtain ⟨b,rfl,q⟩:=h
 obtain ⟨u,rfl,e⟩:=ag1 r
 obtain rfl : u = Value.bool b:=e
 exact PySem.P.str_of_bool ⟨.str _,H,I.tok _,⟨_,rfl⟩,q⟩
theorem bH5 {e : Expr} {f : DE} {p pos : Pos} (hg : Gl X "str") (hm : X.mg "str" = none) (h : JE X e f) (he : starEach [e] X.env = [(false,eval e X.env)]:=by rfl) : JE X (.Call (.Name "str" p) [e] [] pos) (bj1 f):=fun ρ d q=>by
 obtain ⟨x,h1,h2⟩:=xbm q
 split at h2
 ·split at h2
  ·rename_i c
   cases h2
   exact D8 (W7 aS5 hg hm bj7 (K9 (h ρ _ h1) P4 he) (he:=he)) fun σ H Q ⟨H0,Hf,s,sl,k⟩ =>
    ⟨H0,Hf,s,sl,fun v H1 Hf1 g1 r=>⟨_,by rw [show v = _ from r],c,k _ H1 Hf1 g1 rfl⟩⟩
  ·cases h2
 ·cases h2
  exact D8 (W7 aJ3 hg hm bj7 (K9 (h ρ _ h1) P4 he) (he:=he)) fun σ H Q ⟨H0,Hf,s,sl,k⟩ =>
   ⟨H0,Hf,s,sl,fun v H1 Hf1 g1 r=>⟨_,by rw [show v = _ from r],k _ H1 Hf1 g1 rfl⟩⟩
 ·cases h2
noncomputable def bd3 : List D → Option Bool
 | []=>some true
 | .bool b :: r=>(bd3 r).map fun c=>b && c
 | _ :: _=>none
theorem bd2 : ∀ {ds : List D} {c : Bool},bd3 ds = some c → ∃ bs : List Bool,ds = bs.map PyData.bool ∧ c = bs.all id
 | [],c,h=>by cases h; exact ⟨[],rfl,rfl⟩
 | .bool b :: r,c,h=>by
  obtain ⟨c',h1,h2⟩:=Option.map_eq_some_iff.mp h
  obtain ⟨bs,h3,h4⟩:=bd2 h1
  exact ⟨b :: bs,by simp [h3],by simp [← h2,h4]⟩
theorem aE2 {K : PySem.W.Frag} {H : Hp} : ∀ {bs : List Bool} {vs : List V},Reps K H (bs.map PyData.bool) vs → vs = bs.map V.bl
 | [],_,h=>h
 | _ :: _,_,⟨v,r,h1,h2,h3⟩=>by subst h1; rw [show v = _ from h2,aE2 h3]; rfl
theorem bx4 : y6 X (.builtin "all") (fun xs H Q=>X.calm = true ∧ ∃ (p : Addr) (bs : List Bool),xs = [.ref p] ∧ SqL X.K H p (bs.map V.bl) ∧ Q (.bl (bs.all id)) H):=by
 intro pins s σ H xs us Q I r h
 obtain ⟨hc,p,bs,rfl,hq,q⟩:=h
 obtain ⟨u,rfl,rx⟩:=ag1 r
 cases rx
 obtain ⟨its,rv,pl,hz⟩:=I.list hq
 have hlen:=rv.length
 have hh : X.A.in1.handled = none:=I.ok.hd hc
 have hlt : p < s.heap.objs.size:=by obtain ⟨_,e,_⟩:=pl.isList; exact Heap.lt_size e
 refine call_all_walk (wpAny_pyIter_list pl.isList ?_)
 refine ⟨s.heap.objs.size,_,_,_,_,_,fun i=>(bs[i]?).getD false,rfl,Walks.list hh _ p (Nat.ne_of_lt hlt) its.toArray,⟨⟨_,Heap.get?_push_size _ rfl,rfl,rfl⟩,pl.isList.at fun o e=>Heap.get?_push_of_some _ e⟩,?_,?_⟩
 ·intro i v s' Q' E' hv hQ
  have hv' : its[i]? = some v:=by simpa using hv
  have : ∃ b,bs[i]? = some b:=by
   have : i < its.length:=(List.getElem?_eq_some_iff.mp hv').1
   have : i < bs.length:=by simpa using (by omega : i < (bs.map V.bl).length)
   exact ⟨bs[i],by simp [this]⟩
  obtain ⟨b,hb⟩:=this
  obtain ⟨u,hu,ru⟩:=rv.get (i:=i) (x:=.bl b) (by simp [hb])
  rw [hv'] at hu; cases hu
  cases ru
  exact wpAny_truthy_bool (by simpa [hb] using hQ)
 ·intro h' tk hk
  have e : ((List.range its.toArray.size).all fun i=>(bs[i]?).getD false) = bs.all id:=by
   have hn : its.toArray.size = bs.length:=by simpa using hlen.symm
   rw [hn,Bool.eq_iff_iff]
   simp only [List.all_eq_true,List.mem_range,id]
   constructor
   ·intro h x hx
    obtain ⟨i,hi,rfl⟩:=List.mem_iff_getElem.mp hx
    simpa [hi] using h i hi
   ·intro h i hi
    simpa [hi] using h bs[i] (List.getElem_mem hi)
  rw [e]
  have I1 : Inv X pins σ H { s with heap:=h',toks:=tk }:=by
   have I0 : Inv X pins σ H { s with heap:=s.heap.push { cls:=.type "list_iterator", data:=.fields #[.ref p,rawInt 0] } }:=I.kept (t':=s.toks) fun b o e=>Heap.get?_push_of_some _ e
   refine I.kept (t':=tk) fun b o e=>hk b o ?_ (Heap.get?_push_of_some _ e)
   intro hb
   have : b = s.heap.objs.size:=by simpa using hb
   subst this
   exact absurd (Heap.lt_size e) (Nat.lt_irrefl _)
  exact ⟨.bl (bs.all id),H,I1,rfl,q⟩
noncomputable def Y1 (f : Rho → Option (Bool × List D)) : DE:=fun ρ=>(f ρ).bind fun q=>if q.1 = true then none else (bd3 q.2).map PyData.bool
theorem cr4 {e : Expr} {f : Rho → Option (Bool × List D)} {p pos : Pos} (hg : Gl X "all") (hm : X.mg "all" = none) (h : JQ X e f) (hc : X.calm = true:=by rfl) (he : starEach [e] X.env = [(false,eval e X.env)]:=by rfl) : JE X (.Call (.Name "all" p) [e] [] pos) (Y1 f):=fun ρ d q=>by
 obtain ⟨⟨t,ds⟩,h1,h2⟩:=xbm q
 cases t with
 | true=>simp at h2
 | false =>
  simp only [Bool.false_eq_true,if_false] at h2
  obtain ⟨c,h3,h4⟩:=Option.map_eq_some_iff.mp h2
  subst h4
  obtain ⟨bs,h5,h6⟩:=bd2 h3
  subst h5 h6
  refine D8 (ab1 bx4 hg hm ct3 (K9 (h ρ false _ h1) P4 he) (he:=he)) fun σ H Q ⟨H0,Hf,s,sl,k⟩=>?_
  refine ⟨H0,Hf,s,sl,fun v H1 Hf1 g1 ⟨a,vs,e1,e2,e3⟩=>⟨hc,a,bs,by rw [e1],?_,k _ H1 Hf1 g1 rfl⟩⟩
  rw [aE2 e3] at e2
  exact e2
noncomputable def K3 (T : String) (d : D) : Option Bool:=match T,d with
 | "int", .int _=>some true
 | "int", .bool _=>some true
 | "int", .none=>some false
 | "int", .str _=>some false
 | "int", .tuple _=>some false
 | "int", .list _=>some false
 | "bool", .int _=>some false
 | "bool", .bool _=>some true
 | "bool", .none=>some false
 | "bool", .str _=>some false
 | "bool", .tuple _=>some false
 | "bool", .list _=>some false
 | "str", .int _=>some false
 | "str", .bool _=>some false
 | "str", .none=>some false
 | "str", .str _=>some true
 | "str", .tuple _=>some false
 | "str", .list _=>some false
 | "tuple", .int _=>some false
 | "tuple", .bool _=>some false
 | "tuple", .none=>some false
 | "tuple", .str _=>some false
 | "tuple", .tuple _=>some true
 | "tuple", .list _=>some false
 | "list", .int _=>some false
 | "list", .bool _=>some false
 | "list", .none=>some false
 | "list", .str _=>some false
 | "list", .tuple _=>some false
 | "list", .list _=>some true
 | _,_=>none
noncomputable def tyD : D → String
 | .int _ => "int"
 | .bool _ => "bool"
 | .none => "NoneType"
 | .str _ => "str"
 | .tuple _ => "tuple"
 | .list _ => "list"
 | .dict _ => "dict"
theorem bW6 {K : PySem.W.Frag} {T : String} {d : D} {b : Bool} (h : K3 T d = some b) : PySem.W.kitOne K (.type (tyD d)) (.type T) = some b:=by
 unfold K3 at h
 split at h <;> first
  | (cases h; rfl)
  | cases h
theorem bM3 {T : String} : y6 X (.builtin "isinstance") (fun xs H Q=>∃ d x b,xs = [x,.ty T] ∧ Rep X.K H d x ∧ K3 T d = some b ∧ Q (.bl b) H):=by
 intro pins s σ H xs us Q I r h
 obtain ⟨d,x,b,rfl,hd,hb,q⟩:=h
 obtain ⟨u,c,rfl,rx,rc⟩:=cv6 r
 cases rc
 have e:=bW6 (K:=X.K) hb
 have fin : ∀ tk,EP X pins σ Q (.bool b) { s with toks:=tk }:=fun tk=>⟨.bl b,H,I.tok tk,rfl,q⟩
 cases d with
 | none=>cases hd; cases rx; exact PySem.W.kia_one PySem.W.kitx_none I.kIn True.intro e (fun z=>nomatch z) fin
 | bool y=>cases hd; cases rx; exact PySem.W.kia_one PySem.W.kitx_bool I.kIn True.intro e (fun z=>nomatch z) fin
 | int i=>cases hd; obtain ⟨t,rfl⟩:=rx; exact PySem.W.kia_one PySem.W.kitx_int I.kIn True.intro e (fun z=>nomatch z) fin
 | str i=>cases hd; obtain ⟨t,rfl⟩:=rx; exact PySem.W.kia_one PySem.W.kitx_str I.kIn True.intro e (fun z=>nomatch z) fin
 | tuple ds =>
  obtain ⟨a,vs,rfl,h2,h3⟩:=hd
  cases rx
  obtain ⟨its,rv,⟨o,ho,hc,_⟩,_⟩:=I.tuple h2
  exact PySem.W.kia_one PySem.W.kitx_tuple I.kIn ⟨o,ho,hc⟩ e (fun z=>nomatch z) fin
 | list ds =>
  obtain ⟨a,vs,rfl,h2,h3⟩:=hd
  cases rx
  obtain ⟨its,rv,pl,_⟩:=I.list h2
  obtain ⟨o,ho,hc,_⟩:=pl.isList
  exact PySem.W.kia_one PySem.W.kitx_list I.kIn ⟨o,ho,hc⟩ e (fun z=>nomatch z) fin
 | dict ds=>exact hd.elim
noncomputable def D3 (T : String) (f : DE) : DE:=fun ρ=>(f ρ).bind fun d=>(K3 T d).map PyData.bool
theorem cq9 {e : Expr} {f : DE} {x : Str} {T : String} {p p2 pos : Pos} (hg : Gl X "isinstance") (hm : X.mg "isinstance" = none) (hgT : Gl X x) (hmT : X.mg x = none) (hvT : bootBuiltins x = some (.type T)) (h : JE X e f)
  (hn : x ≠ "__name__" := by decide) (hd : (x == ("__debug__" : Str)) = false:=by decide)
  (he : starEach [e,.Name x p2] X.env = (false,eval e X.env) :: starEach [.Name x p2] X.env:=by rfl) (he2 : starEach [.Name x p2] X.env = [(false,eval (.Name x p2) X.env)]:=by rfl) (hpl : (backTo pos (starEach [.Name x p2] X.env)).any (·.1) = false:=by rfl) :
  JE X (.Call (.Name "isinstance" p) [e,.Name x p2] [] pos) (D3 T f):=fun ρ d q=>by
 obtain ⟨y,h1,h2⟩:=xbm q
 obtain ⟨b,h3,h4⟩:=Option.map_eq_some_iff.mp h2
 subst h4
 refine D8 (ab1 (bM3 (T:=T)) hg hm ct2 (K9 (h ρ y h1) (K9 (bR4 (v:=.ty T) hgT hmT hvT rfl hn hd) P4 he2) he) (he:=he) (hpl:=hpl)) fun σ H Q ⟨H0,Hf,s,sl,k⟩=>?_
 exact ⟨H0,Hf,s,sl,fun v H1 Hf1 g1 r=>⟨y,v,b,rfl,r.mono g1.sub,h3,k _ H1 Hf1 g1 rfl⟩⟩
noncomputable def spF (K : PySem.W.Frag) (n : Nat) (F : List D → Option D) : Sp:=fun vs H Q _=>vs.length = n ∧ ∃ Hf ds d,J0 Hf H ∧ Reps K Hf ds vs ∧ F ds = some d ∧ ∀ v H' Hf',Grow H Hf H' Hf' → Rep K Hf' d v → Q v H'
noncomputable def A8 (F : List D → Option D) (f : Rho → Option (List D)) : DE:=fun ρ=>(f ρ).bind F
theorem bW2 {k : Nat} {f : Addr} {fd : FuncData} {ps : List Str} {n : Nat} {F : List D → Option D} {x : Str} {e : Expr} {es : List Expr} {g : Rho → Option (List D)} {p pos : Pos} (Fk : FnOk X.prog X.w X.K X.mg X.base CX0 k f fd ps (spF X.K n F)) (hr : Room k X.A) (hg : Gl X x) (hm : X.mg x = some (.ref f)) (hk : PySem.W.keepIn X.K (.ref f) = true) (hb : y8 X.K fd ps [])
  (ha : JA X (e :: es) g) (hn : (e :: es).length = n:=by rfl) (hdb : (x == ("__debug__" : Str)) = false:=by decide) (he : starEach (e :: es) X.env = (false,eval e X.env) :: starEach es X.env:=by rfl) (hpl : (backTo pos (starEach es X.env)).any (·.1) = false:=by rfl) :
  JE X (.Call (.Name x p) (e :: es) [] pos) (A8 F g):=fun ρ d q=>by
 obtain ⟨ds,h1,h2⟩:=xbm q
 refine D8 (bR3 Fk hr hg hm hk hb .nil ca2 (fun pos pins s σ H Q I t=>ha.run ρ ds h1 pos pins s σ H Q I t) hdb he hpl) fun σ H Q ⟨H0,Hf,s,sl,kk⟩=>?_
 refine ⟨H0,Hf,s,sl,fun vs H1 Hf1 g1 r1=>⟨?_,Hf1,ds,d,g1.sub,by rw [List.append_nil]; exact r1,h2,fun v H2 Hf2 g2 r2=>kk v H2 Hf2 (g1.trans g2) r2⟩⟩
 rw [List.append_nil,r1.length,ha.len ρ ds h1,hn]
inductive Fl where
 | nx (ρ : Rho)
 | rt (d : D)
 | bk (ρ : Rho)
 | ct (ρ : Rho)
noncomputable abbrev DS:=Rho → Option Fl
structure At (K : PySem.W.Frag) (H0 Hf0 : Hp) (ρ : Rho) (σ : L2.St) (H Hf : Hp) : Prop where
 gr : Grow H0 Hf0 H Hf
 sl : Slots K H0 ρ σ H Hf
noncomputable def Fl.ends (K : PySem.W.Frag) (H0 Hf0 Hf : Hp) (En : Ends) : Fl → Prop
 | .nx ρ=>∀ σ' H' Hf',At K H0 Hf0 ρ σ' H' Hf' → J0 Hf Hf' → En.nx σ' H'
 | .bk ρ=>∀ σ' H' Hf',At K H0 Hf0 ρ σ' H' Hf' → J0 Hf Hf' → En.bk σ' H'
 | .ct ρ=>∀ σ' H' Hf',At K H0 Hf0 ρ σ' H' Hf' → J0 Hf Hf' → En.ct σ' H'
 | .rt d=>∀ v H' Hf',Grow H0 Hf0 H' Hf' → Rep K Hf' d v → En.rt v H'
noncomputable def tJS (K : PySem.W.Frag) (H0 Hf0 : Hp) (ρ : Rho) (fl : Fl) : TS:=fun En σ H=>∃ Hf,At K H0 Hf0 ρ σ H Hf ∧ fl.ends K H0 Hf0 Hf En
noncomputable def JS (X : Cx) (st : Stmt) (f : DS) : Prop:=∀ ρ fl,f ρ = some fl → ∀ H0 Hf0,PS X st (tJS X.K H0 Hf0 ρ fl)
noncomputable def JSs (X : Cx) (sts : List Stmt) (f : DS) : Prop:=∀ ρ fl,f ρ = some fl → ∀ H0 Hf0,PSs X sts (tJS X.K H0 Hf0 ρ fl)
theorem Q6 {st : Stmt} {t t' : TS} (h : PS X st t) (i : ∀ En σ H,t' En σ H → t En σ H) : PS X st t':=fun pins s σ H En I q=>h pins s σ H En I (i En σ H q)
theorem as6 {st : List Stmt} {t t' : TS} (h : PSs X st t) (i : ∀ En σ H,t' En σ H → t En σ H) : PSs X st t':=fun pins s σ H En I q=>h pins s σ H En I (i En σ H q)
theorem At.grow {K : PySem.W.Frag} {H0 Hf0 H Hf H' Hf' : Hp} {ρ : Rho} {σ : L2.St} (a : At K H0 Hf0 ρ σ H Hf) (g : Grow H Hf H' Hf') : At K H0 Hf0 ρ σ H' Hf':=⟨a.gr.trans g,a.sl.grow g⟩
theorem Fl.ends_mono {K : PySem.W.Frag} {H0 Hf0 Hf Hf' : Hp} {En : Ends} {fl : Fl} (h : fl.ends K H0 Hf0 Hf En) (e : J0 Hf Hf') : fl.ends K H0 Hf0 Hf' En:=by
 cases fl with
 | nx ρ=>exact fun σ' H' Hf'' a s=>h σ' H' Hf'' a (e.trans s)
 | bk ρ=>exact fun σ' H' Hf'' a s=>h σ' H' Hf'' a (e.trans s)
 | ct ρ=>exact fun σ' H' Hf'' a s=>h σ' H' Hf'' a (e.trans s)
 | rt d=>exact h
noncomputable def C0 : DS:=fun ρ=>some (.nx ρ)
noncomputable def B3 (f g : DS) : DS:=fun ρ=>(f ρ).bind fun fl=>match fl with
 | .nx ρ'=>g ρ'
 | fl=>some fl
theorem bU6 : JSs X [] C0:=fun ρ fl q H0 Hf0=>by
 cases q
 exact as6 bQ3 fun En σ H ⟨Hf,a,e⟩=>e σ H Hf a (J0.refl _)
theorem bG6 {st : Stmt} {sts : List Stmt} {f g : DS} (h1 : JS X st f) (h2 : JSs X sts g) : JSs X (st :: sts) (B3 f g):=fun ρ fl q H0 Hf0=>by
 obtain ⟨fl1,e1,q⟩:=xbm q
 cases fl1 with
 | nx ρ' =>
  refine as6 (as7 (h1 ρ _ e1 H0 Hf0) (h2 ρ' fl q H0 Hf0)) fun En σ H ⟨Hf,a,e⟩=>⟨Hf,a,fun σ' H' Hf' a' s'=>⟨Hf',a',Fl.ends_mono e s'⟩⟩
 | rt d=>cases q; exact as6 (as7 (h1 ρ _ e1 H0 Hf0) ab0) fun En σ H ⟨Hf,a,e⟩=>⟨Hf,a,e⟩
 | bk ρ'=>cases q; exact as6 (as7 (h1 ρ _ e1 H0 Hf0) ab0) fun En σ H ⟨Hf,a,e⟩=>⟨Hf,a,e⟩
 | ct ρ'=>cases q; exact as6 (as7 (h1 ρ _ e1 H0 Hf0) ab0) fun En σ H ⟨Hf,a,e⟩=>⟨Hf,a,e⟩
theorem bU5 {st : Stmt} {f : DS} (h1 : JS X st f) : JSs X [st] f:=fun ρ fl q H0 Hf0=>bQ2 (h1 ρ fl q H0 Hf0)
noncomputable def B4 (f : DE) : DS:=fun ρ=>(f ρ).map Fl.rt
theorem co4 {e : Expr} {f : DE} {pos : Pos} (h : JE X e f) : JS X (.Return (some e) pos) (B4 f):=fun ρ fl q H0 Hf0=>by
 obtain ⟨d,e1,e2⟩:=Option.map_eq_some_iff.mp q
 subst e2
 exact Q6 (cj2 (h ρ d e1)) fun En σ H ⟨Hf,a,e⟩=>⟨H0,Hf,a.gr.sub,a.sl,fun v H' Hf' g r=>e v H' Hf' (a.gr.trans g) r⟩
noncomputable def sIf (t : Rho → Option Bool) (f g : DS) : DS:=fun ρ=>(t ρ).bind fun c=>if c then f ρ else g ρ
theorem cA6 {c : Expr} {a b : List Stmt} {t : Rho → Option Bool} {f g : DS} {pos : Pos} (hc : JT X c t) (ha : JSs X a f) (hb : JSs X b g) : JS X (.If c a b pos) (sIf t f g):=fun ρ fl q H0 Hf0=>by
 obtain ⟨x,e1,q⟩:=xbm q
 cases x with
 | true =>
  refine Q6 (bZ7 (hc ρ _ e1) (ha ρ fl (by simpa using q) H0 Hf0) ab0) fun En σ H ⟨Hf,a,e⟩=>⟨H0,Hf,a.gr.sub,a.sl,fun H' Hf' g=>aI6 ⟨Hf',a.grow g,Fl.ends_mono e g.ext⟩⟩
 | false =>
  refine Q6 (bZ7 (hc ρ _ e1) ab0 (hb ρ fl (by simpa using q) H0 Hf0)) fun En σ H ⟨Hf,a,e⟩=>⟨H0,Hf,a.gr.sub,a.sl,fun H' Hf' g=>aI7 ⟨Hf',a.grow g,Fl.ends_mono e g.ext⟩⟩
theorem Slots.set {K : PySem.W.Frag} {H0 H Hf : Hp} {ρ : Rho} {σ : L2.St} {i : Nat} {d : D} {v : V} (s : Slots K H0 ρ σ H Hf) (r : Rep K Hf d v) : Slots K H0 (ρ.set i (some (.val d))) (σ.set i (some v)) H Hf:=by
 refine ⟨by simp [s.len],fun j b e=>?_,fun j k ds es a h1 h2 h3 h4=>?_⟩
 ·by_cases q : i = j
  ·subst q
   have hi : i < ρ.length:=by
    have:=(List.getElem?_eq_some_iff.mp e).1
    simpa using this
   have hi' : i < σ.length:=by rw [← s.len]; exact hi
   rw [List.getElem?_set_self hi] at e
   cases e
   exact ⟨v,List.getElem?_set_self hi',r⟩
  ·rw [List.getElem?_set_ne q] at e
   obtain ⟨u,h1,h2⟩:=s.is j b e
   exact ⟨u,by rw [List.getElem?_set_ne q]; exact h1,h2⟩
 ·have hj : i ≠ j:=by
   intro q; subst q
   have hi : i < ρ.length:=by
    have:=(List.getElem?_eq_some_iff.mp h1).1
    simpa using this
   rw [List.getElem?_set_self hi] at h1
   cases h1
  have hk : i ≠ k:=by
   intro q; subst q
   have hi : i < ρ.length:=by
    have:=(List.getElem?_eq_some_iff.mp h2).1
    simpa using this
   rw [List.getElem?_set_self hi] at h2
   cases h2
  rw [List.getElem?_set_ne hj] at h1 h3
  rw [List.getElem?_set_ne hk] at h2 h4
  exact s.apart j k ds es a h1 h2 h3 h4
noncomputable def D0 (i : Nat) (f : DE) : DS:=fun ρ=>(f ρ).map fun d=>.nx (ρ.set i (some (.val d)))
theorem bG8 (i : Nat) {x : Str} {e : Expr} {f : DE} {pos pos' : Pos} (hN : X.N.Nodup) (h : JE X e f) (hi : X.N[i]? = some x:=by rfl) (hx : Loc X.env.scope x:=by first | exact Or.inl rfl | exact Or.inr rfl)
  (hs : swapsWith e (some (.Name x pos')) pos.line X.env = pure false:=by rfl) (hf : X.fn x = true ∨ X.env.scope.names.lookup x = some .local:=by first | exact .inl rfl | exact .inr rfl) : JS X (.Assign [.Name x pos'] e pos) (D0 i f):=fun ρ fl q H0 Hf0=>by
 obtain ⟨d,e1,e2⟩:=Option.map_eq_some_iff.mp q
 subst e2
 exact Q6 (bC6 hN hi hx (h ρ d e1) hs hf) fun En σ H ⟨Hf,a,e⟩=>⟨H0,Hf,a.gr.sub,a.sl,fun v H' Hf' g r=>e _ H' Hf' ⟨a.gr.trans g,(a.sl.grow g).set r⟩ g.ext⟩
noncomputable def bB6 (i j : Nat) (f : Rho → Option (List D)) : DS:=fun ρ=>(f ρ).bind fun ds=>match ds with
 | [a,b]=>some (.nx ((ρ.set i (some (.val a))).set j (some (.val b))))
 | _=>none
end
end G
namespace G
open PySem PySem.Spec PyProof.Rows L2
theorem bx0 {prog : Program} {w : World} {A : Around} {R : Result → Shared → Prop} {s : Shared} {elt target iter : Expr} {ifs : List Expr} {scope : Scope} {pos : Pos} {it acc : Value} {env : Env} (I : Nat → Shared → Prop)
  (turn : ∀ n s,I n s → wpAny (model prog w) A (pyNext it) (fun r s1=>match r with
   | none=>R (.ok .next) s1
   | some v=>wpAny (model prog w) A (letOwnedTupleGo target it v) (fun _ s1'=>wpAny (model prog w) A (assign target env v) (fun _ s2 =>
     wpAny (model prog w) A (forIn ifs true fun c r=>if r = true then do let ok ← isTrue c env (eval c env); pure (ForInStep.yield ok) else pure (ForInStep.yield r)) (fun ok s3 =>
      if ok = true then wpAny (model prog w) A (eval elt env) (fun x s4 =>
       wpAny (model prog w) A (call (.builtin "list.append") [acc,x]) (fun _ s5=>∃ m,m < n ∧ I m s5) (fun _ _=>False) s4) (fun _ _=>False) s3
      else ∃ m,m < n ∧ I m s3) (fun _ _=>False) s2) (fun _ _=>False) s1') (fun _ _=>False) s1) (fun _ _=>False) s)
  (n : Nat) (h : I n s) :
  codeAny (model prog w) A (.compLoop (.ListComp elt [⟨target,iter,ifs,0⟩] scope pos) 0 it acc env) R s:=by
 refine codeAny_loop rfl I (fun n s hI=>?_) n h
 show wpAny _ A ((compTurn (.ListComp elt [⟨target,iter,ifs,0⟩] scope pos) 0 it acc env).onRaise (fun x=>do noteFrame x env; theTreesLotGoes x)) _ _ s
 refine wpAny_noted ?_
 rw [compTurn_list]
 refine wpAny_bind (wpAny_standAt (wpAny_bind (wpAny_mono (turn n s hI) (fun r s1 h1=>?_) fun _ _ h'=>h'.elim)))
 cases r with
 | none=>exact wpAny_pure h1
 | some v =>
  refine wpAny_bind (wpAny_mono h1 (fun _ s1' h1'=>?_) fun _ _ h'=>h'.elim)
  refine wpAny_bind (wpAny_mono h1' (fun _ s2 h2=>wpAny_bind (wpAny_mono h2 (fun ok s3 h3=>?_) fun _ _ h'=>h'.elim)) fun _ _ h'=>h'.elim)
  cases ok with
  | false=>exact wpAny_pure ⟨rfl,h3⟩
  | true =>
   exact wpAny_bind (wpAny_bind (wpAny_mono h3 (fun x s4 h4=>wpAny_bind (wpAny_mono h4 (fun _ s5 h5=>wpAny_pure (wpAny_pure ⟨rfl,h5⟩)) fun _ _ h'=>h'.elim)) fun _ _ h'=>h'.elim))
noncomputable def T6 (cells : List (Str × Addr)) : List (Str × NameKind) → List (Str × Addr) → List (Str × Addr)
 | [],cs=>cs
 | (n,k) :: r,cs=>if (k == NameKind.free) = true then T6 cells r ((n,(cells.lookup n).getD 0) :: cs) else T6 cells r cs
theorem aG6 {env : Env} : ∀ (names : List (Str × NameKind)) (cs : List (Str × Addr)),(∀ y ∈ names,y.2 = .free → ∃ c,env.cells.lookup y.1 = some c) →
  (forIn names cs fun (x : Str × NameKind) (r : List (Str × Addr))=>if (x.2 == NameKind.free) = true then do let a ← cellOf env x.1; pure (ForInStep.yield ((x.1,a) :: r)) else pure (ForInStep.yield r) : Sem (List (Str × Addr))) = pure (T6 env.cells names cs)
 | [],cs,_=>rfl
 | (n,k) :: r,cs,h=>by
  rw [List.forIn_cons]
  have hr : ∀ y ∈ r,y.2 = .free → ∃ c,env.cells.lookup y.1 = some c:=fun y hy=>h y (List.mem_cons_of_mem _ hy)
  by_cases hk : (k == NameKind.free) = true
  ·obtain ⟨c,hc⟩:=h (n,k) List.mem_cons_self (by simpa using hk)
   have hc' : env.cells.lookup n = some c:=hc
   simp only [hk,if_true]
   have e : cellOf env n = pure c:=by unfold cellOf; rw [hc']
   rw [e]
   show (forIn r ((n,c) :: cs) _ : Sem _) = _
   rw [aG6 r _ hr]
   simp only [T6,hk,if_true,hc',Option.getD_some]
  ·have hk' : (k == NameKind.free) = false:=by simpa using hk
   simp only [hk',Bool.false_eq_true,if_false]
   show (forIn r cs _ : Sem _) = _
   rw [aG6 r _ hr]
   simp only [T6,hk',Bool.false_eq_true,if_false]
theorem bX9 {scope : Scope} {env : Env} (h : ∀ y ∈ scope.names,y.2 = .free → ∃ c,env.cells.lookup y.1 = some c) : closureFor scope env = pure (T6 env.cells scope.names []):=by
 have:=aG6 (env:=env) scope.names [] h
 unfold closureFor
 exact congrArg (fun z=>z >>= fun cs=>pure cs) this
theorem au5 {cells : List (Str × Addr)} : ∀ {names : List (Str × NameKind)} {cs : List (Str × Addr)} {x : Str} {c : Addr},(x,c) ∈ T6 cells names cs → (x,c) ∈ cs ∨ ((x,NameKind.free) ∈ names ∧ c = (cells.lookup x).getD 0)
 | [],cs,x,c,h=>.inl h
 | (n,k) :: r,cs,x,c,h=>by
  unfold T6 at h
  split at h
  ·rename_i hk
   rcases au5 h with q | ⟨q1,q2⟩
   ·rcases List.mem_cons.mp q with q | q
    ·cases q
     have : k = .free:=by simpa using hk
     subst this
     exact .inr ⟨List.mem_cons_self,rfl⟩
    ·exact .inl q
   ·exact .inr ⟨List.mem_cons_of_mem _ q1,q2⟩
  ·rcases au5 h with q | ⟨q1,q2⟩
   ·exact .inl q
   ·exact .inr ⟨List.mem_cons_of_mem _ q1,q2⟩
theorem ab5 {cells : List (Str × Addr)} : ∀ {names : List (Str × NameKind)} {cs : List (Str × Addr)} {x : Str},((x,NameKind.free) ∈ names ∨ ∃ c,(x,c) ∈ cs) → ∃ c,(x,c) ∈ T6 cells names cs
 | [],cs,x,h=>by
  rcases h with h | h
  ·cases h
  ·exact h
 | (n,k) :: r,cs,x,h=>by
  unfold T6
  rcases h with h | ⟨c,h⟩
  ·rcases List.mem_cons.mp h with q | q
   ·cases q
    rw [if_pos (by rfl)]
    exact ab5 (.inr ⟨_,List.mem_cons_self⟩)
   ·split
    ·exact ab5 (.inl q)
    ·exact ab5 (.inl q)
  ·split
   ·exact ab5 (.inr ⟨c,List.mem_cons_of_mem _ h⟩)
   ·exact ab5 (.inr ⟨c,h⟩)
theorem aq3 {l : List (Str × Addr)} {x : Str} {c : Addr} (h : (x,c) ∈ l) : ∃ c',l.lookup x = some c':=by
 induction l with
 | nil=>cases h
 | cons p r ih =>
  obtain ⟨n,a⟩:=p
  rw [List.lookup_cons]
  cases e : x == n with
  | true=>exact ⟨a,rfl⟩
  | false =>
   rcases List.mem_cons.mp h with q | q
   ·cases q; simp at e
   ·exact ih q
theorem as5 {scope : Scope} {env : Env} {x : Str} {k : NameKind} : (relabel scope env).names.lookup x = some k → ∃ k0,scope.names.lookup x = some k0 ∧ (k = k0 ∨ k0 = .free):=by
 unfold relabel
 simp only
 generalize scope.names = names
 induction names with
 | nil=>intro h; simp at h
 | cons p r ih =>
  obtain ⟨n,k1⟩:=p
  intro h
  rw [List.map_cons] at h
  by_cases hc : (k1 == NameKind.free && env.scope.kind == .function && env.kindOf n == some .cell) = true
  ·simp only [hc,if_true,List.lookup_cons] at h
   rw [List.lookup_cons]
   cases e : x == n with
   | true =>
    rw [e] at h
    rw [Bool.and_eq_true,Bool.and_eq_true] at hc
    exact ⟨k1,rfl,.inr (by simpa using hc.1.1)⟩
   | false=>rw [e] at h; exact ih h
  ·have hc' : (k1 == NameKind.free && env.scope.kind == .function && env.kindOf n == some .cell) = false:=by simpa using hc
   simp only [hc',Bool.false_eq_true,if_false,List.lookup_cons] at h
   rw [List.lookup_cons]
   cases e : x == n with
   | true=>rw [e] at h; cases h; exact ⟨_,rfl,.inl rfl⟩
   | false=>rw [e] at h; exact ih h
theorem aO7 {scope : Scope} {env : Env} {x : Str} : scope.names.lookup x = some .free → (relabel scope env).names.lookup x = some .cell ∨ (relabel scope env).names.lookup x = some .free:=by
 unfold relabel
 simp only
 generalize scope.names = names
 induction names with
 | nil=>intro h; simp at h
 | cons p r ih =>
  obtain ⟨n,k1⟩:=p
  intro h
  rw [List.lookup_cons] at h
  rw [List.map_cons]
  cases e : x == n with
  | true =>
   rw [e] at h
   cases h
   have en : x = n:=by simpa using e
   subst en
   by_cases hc : (NameKind.free == NameKind.free && env.scope.kind == .function && env.kindOf x == some .cell) = true
   ·simp only [hc,if_true,List.lookup_cons,e]; exact .inl trivial
   ·have hc' : (NameKind.free == NameKind.free && env.scope.kind == .function && env.kindOf x == some .cell) = false:=by simpa using hc
    simp only [hc',Bool.false_eq_true,if_false,List.lookup_cons,e]; exact .inr trivial
  | false =>
   rw [e] at h
   by_cases hc : (k1 == NameKind.free && env.scope.kind == .function && env.kindOf n == some .cell) = true
   ·simp only [hc,if_true,List.lookup_cons,e]; exact ih h
   ·have hc' : (k1 == NameKind.free && env.scope.kind == .function && env.kindOf n == some .cell) = false:=by simpa using hc
    simp only [hc',Bool.false_eq_true,if_false,List.lookup_cons,e]; exact ih h
noncomputable def G6 (X : Cx) (N' : List Str) (scope : Scope) (C : Addr) (s₀ : Shared) (H₀ : Hp) (ex : List Addr) : Cx where
 prog:=X.prog
 w:=X.w
 K:=X.K
 mg:=X.mg
 base:=X.base
 A:=X.A
 N:=N'
 s₀:=s₀
 H₀:=H₀
 env:=compEnvC scope (T6 X.env.cells scope.names []) C X.env
 outer:=X.stack
 stack:=X.stack
 ex:=ex
 fn:=fun _=>false
 calm:=X.calm
 pn:=[]
 xe:=fun _ _=>False
structure CompSc (X : Cx) (N' : List Str) (n : Nat) (caps : List Nat) (scope : Scope) : Prop where
 kind : scope.kind = .function
 cell : ∀ y ∈ scope.names,y.2 ≠ .cell
 loc : ∀ y ∈ scope.names,y.2 = .local → scope.names.lookup y.1 = some .local
 free : ∀ y ∈ scope.names,y.2 = .free → X.env.scope.names.lookup y.1 = some .cell ∨ X.env.scope.names.lookup y.1 = some .free
 len : N'.length = n + caps.length
 cap : ∀ (i j : Nat),caps[i]? = some j → ∃ x,X.N[j]? = some x ∧ N'[n + i]? = some x ∧ scope.names.lookup x = some .free
section
variable {X : Cx} {N' : List Str} {n : Nat} {caps : List Nat} {scope : Scope}
theorem U6 {l : List (Str × NameKind)} {x : Str} {k : NameKind} (h : l.lookup x = some k) : (x,k) ∈ l:=PySem.mem_of_lookup h
noncomputable def aJ1 (n : Nat) (caps : List Nat) (σ : L2.St) : L2.St:=List.replicate n none ++ caps.map fun j=>(σ[j]?).join
theorem bj3 {pins : List (Addr × Obj)} {σ : L2.St} {H : Hp} {s : Shared} {h1 : Heap} {tk : Nat} {fp : List Addr} {m : Str → Option Value} (S : CompSc X N' n caps scope) (I : Inv X pins σ H s) (hf : ∀ b ∈ fp,aH8 X pins H b) (hlt : ∀ b ∈ fp,b < s.heap.objs.size)
  (hns : h1.Ns s.heap.objs.size m) (hk : ∀ b o,s.heap.get? b = some o → h1.get? b = some o) :
  Inv (G6 X N' scope s.heap.objs.size s H fp) [] (aJ1 n caps σ) H { s with heap:=h1,toks:=tk }:=by
 have cl_of : ∀ x c,(T6 X.env.cells scope.names []).lookup x = some c → X.env.cells.lookup x = some c:=fun x c h=>by
  have hm:=PySem.mem_of_lookup h
  rcases au5 hm with q | ⟨q1,q2⟩
  ·cases q
  ·obtain ⟨c',hc'⟩:=I.ok.has x (S.free _ q1 rfl)
   rw [hc'] at q2
   rw [hc',q2]; rfl
 have cl_has : ∀ x,(x,NameKind.free) ∈ scope.names → ∃ c,(T6 X.env.cells scope.names []).lookup x = some c:=fun x h=>by
  obtain ⟨c,hc⟩:=ab5 (cells:=X.env.cells) (cs:=[]) (.inl h)
  exact aq3 hc
 have kind_free : ∀ x,((relabel scope X.env).names.lookup x = some .cell ∨ (relabel scope X.env).names.lookup x = some .free) → (x,NameKind.free) ∈ scope.names:=fun x h=>by
  rcases h with h | h
  ·obtain ⟨k0,e1,e2⟩:=as5 h
   rcases e2 with e2 | e2
   ·subst e2; exact absurd rfl (S.cell _ (U6 e1))
   ·subst e2; exact U6 e1
  ·obtain ⟨k0,e1,e2⟩:=as5 h
   rcases e2 with e2 | e2
   ·subst e2; exact U6 e1
   ·subst e2; exact U6 e1
 have cell_lt : ∀ x c,X.env.cells.lookup x = some c → c < s.heap.objs.size:=fun x c e=>by
  obtain ⟨v,q⟩:=I.cell x c e
  exact q.lt
 have ok : (G6 X N' scope s.heap.objs.size s H fp).Ok:=by
  refine ⟨I.ok.mod,S.kind,I.ok.glob,I.ok.blt,Nat.le_refl _,fun x y c e1 e2=>I.ok.inj x y c (cl_of x c e1) (cl_of y c e2),fun x hx=>cl_has x (kind_free x hx),fun x c e _=>(Bool.false_ne_true e).elim,I.ok.hd,I.ok.frames,.inl rfl,fun b hb=>⟨Nat.ne_of_lt (hlt b hb),fun x c e=>(hf b hb).2.2.2.2.1 x c (cl_of x c e)⟩,
   I.bs,Nat.le_trans I.ok.bsz I.sz,fun b o e hb=>?_,fun b hb hb2=>?_,I.stack,I.stkFree⟩
  ·rcases (hf b hb).2.2.2.1 with z | z
   ·exact I.ok.noex b o e z
   ·exact absurd (Nat.lt_of_lt_of_le (Heap.lt_size e) (Nat.le_trans I.ok.bsz z)) (Nat.lt_irrefl _)
  ·rcases List.mem_cons.mp (I.stkSub b hb2) with z | z
   ·exact (hf b hb).2.1 z
   ·exact (hf b hb).2.2.1 z
 refine ⟨ok,rfl,I.bare,Un.kept hk,⟨m,hns,fun i x v e1 e2 e3=>?_⟩,fun x c e=>?_,I.hok.fresh (Nat.le_refl _),fun x c e=>I.freeC x c (cl_of x c e),fun p hp=>absurd (show p ∈ ([] : List (Addr × Obj)) from hp) (by simp),I.hok.kept hk,?_⟩
 ·have hi : n ≤ i:=by
   rcases Nat.lt_or_ge i n with h | h
   ·unfold aJ1 at e2
    rw [List.getElem?_append_left (by simpa using h),List.getElem?_replicate,if_pos h] at e2
    cases e2
   ·exact h
  unfold aJ1 at e2
  rw [List.getElem?_append_right (by simpa using hi),List.getElem?_map] at e2
  simp only [List.length_replicate] at e2
  cases hj : caps[i - n]? with
  | none=>rw [hj] at e2; cases e2
  | some j =>
   rw [hj] at e2
   have e2' : (σ[j]?).join = some v:=by simpa using e2
   have e2'' : σ[j]? = some (some v):=by
    cases q : σ[j]? with
    | none=>rw [q] at e2'; cases e2'
    | some o=>rw [q] at e2'; simp at e2'; rw [e2']
   obtain ⟨y,q1,q2,q3⟩:=S.cap _ _ hj
   have : y = x:=by
    have e1' : N'[i]? = some x:=e1
    rw [show n + (i - n) = i by omega,e1'] at q2
    cases q2; rfl
   subst this
   obtain ⟨m0,hn0,hl0⟩:=I.loc
   have hv : Vis X.env.scope y:=by
    rcases S.free _ (U6 q3) rfl with z | z
    ·exact .inr (.inl z)
    ·exact .inr (.inr z)
   obtain ⟨u,ru,lk⟩:=hl0 j y v q1 e2'' hv
   refine ⟨u,ru,.inr ⟨aO7 q3,?_⟩⟩
   rcases lk with ⟨lk,_⟩ | ⟨_,c,hc,hcell⟩
   ·rcases S.free _ (U6 q3) rfl with z | z
    ·have : X.env.scope.names.lookup y = some .local:=lk
     rw [z] at this; cases this
    ·have : X.env.scope.names.lookup y = some .local:=lk
     rw [z] at this; cases this
   ·obtain ⟨c',hc'⟩:=cl_has y (U6 q3)
    have:=cl_of y c' hc'
    rw [hc] at this; cases this
    obtain ⟨o,ho,hd⟩:=hcell
    exact ⟨c,hc',o,hk c o ho,hd⟩
 ·obtain ⟨v,o,ho,hd⟩:=I.cell x c (cl_of x c e)
  exact ⟨v,o,hk c o ho,hd⟩
 ·show (aJ1 n caps σ).length = N'.length
  unfold aJ1
  rw [S.len]; simp
theorem aM3 {pins : List (Addr × Obj)} {σ σ' : L2.St} {H H' : Hp} {s s' : Shared} {h' : Heap} {fp : List Addr} (I : Inv X pins σ H s) (hf : ∀ b ∈ fp,aH8 X pins H b)
  (I' : Inv (G6 X N' scope s.heap.objs.size s H fp) [] σ' H' s') (sb : Heap.SameBut s.heap.objs.size s'.heap h') : Inv X pins σ H' { s' with heap:=h' }:=by
 have ne : ∀ b o,s.heap.get? b = some o → b ≠ s.heap.objs.size:=fun b o e=>Nat.ne_of_lt (Heap.lt_size e)
 refine I.call' (s':={ s' with heap:=h' }) (ch:=fp) I'.os ?_ ?_ I'.bare fun b hb=>⟨(hf b hb).2.2.2.1,(hf b hb).2.1,(hf b hb).2.2.2.2.1,(hf b hb).2.2.2.2.2⟩
 ·refine ⟨fun b o e n hb hx=>sb.extBut b o (ne b o e) (I'.base.keep b o e n hb hx),fun b o e n hb hx=>?_,I'.base.free,fun b o e hx=>?_,I'.base.tups,I'.base.frzs,I'.base.tbls⟩
  ·obtain ⟨sl,q⟩:=I'.base.slot b o e n hb hx
   exact ⟨sl,sb.extBut b _ (ne b o e) q⟩
  ·obtain ⟨o',q⟩:=I'.base.there b o e hx
   exact ⟨o',sb.extBut b _ (ne b o e) q⟩
 ·intro b u e
  have nC : ∀ c v,H' c = some v → c ≠ s.heap.objs.size:=fun c v q z=>by
   have:=I'.free
   have z' : H' c = none:=by rw [z]; exact this
   rw [z'] at q; cases q
  refine (I'.hok b u e).stay (fun c v hc q=>sb.extBut c v ?_ q) (fun _ q=>q) fun _ _ q=>q
  rcases hc with z | z
  ·rw [z]; exact nC b u e
  ·exact nC c _ z
noncomputable def PTs (X : Cx) (ifs : List Expr) (t : TT) : Prop :=
 ∀ (pins : List (Addr × Obj)) (s : Shared) (σ : L2.St) (H : Hp) (Q : Bool → Hp → Prop),Inv X pins σ H s → t σ H Q →
  wpAny (model X.prog X.w) X.A (forIn ifs true fun c r=>if r = true then do let ok ← isTrue c X.env (eval c X.env); pure (ForInStep.yield ok) else pure (ForInStep.yield r)) (TP X pins σ Q) X.xe s
theorem bQ0 : PTs X [] (fun _ H Q=>Q true H):=fun pins s σ H Q I h=>wpAny_tests_nil ⟨H,I,h⟩
theorem bP9 {c : Expr} {t : TT} (h : PT X c t) : PTs X [c] t:=fun pins s σ H Q I q=>wpAny_tests_one (h pins s σ H Q I q)
noncomputable def bA6 (n : Nat) (caps : List Nat) (wi : TI) (g : TG) (tc : TT) (te : TE) : TE:=fun σ H Q=>wi σ H fun J H1=>∀ Dd,H1 Dd = none → ∃ W : Nat → Nat → List V → L2.St → Hp → Prop,
 (∃ m,W 0 m [] (aJ1 n caps σ) (upd H1 Dd (.lst []))) ∧
 ∀ i m ys σ' H',W i m ys σ' H' →
  (J.stop i H' ∧ Q (.ref Dd) H') ∨
  (J.go i H' ∧ ∀ x H2,J.yld i H' x H2 → g x σ' H2 fun σ3 H3=>tc σ3 H3 fun b H4 =>
   if b = true then te σ3 H4 fun y H5=>H5 Dd = some (.lst ys) ∧ ys.length < sizeLine ∧ ∃ m',m' < m ∧ W (i + 1) m' (ys ++ [y]) σ3 (upd H5 Dd (.lst (ys ++ [y])))
   else ∃ m',m' < m ∧ W (i + 1) m' ys σ3 H4)
theorem bb6 {elt tgt iter : Expr} {ifs : List Expr} {pos : Pos} {wi : TI} {g : TG} {tc : TT} {te : TE} {RR : Value → Addr → Result → Shared → Prop} {E : Value → Shared → Prop} (S : CompSc X N' n caps scope) (hx : ∀ e s,X.xe e s → False) (hc : X.calm = true)
  (hi : PI X tgt iter wi) (hg : ∀ C s0 H0 ex,PG (G6 X N' scope C s0 H0 ex) tgt g) (ht : ∀ C s0 H0 ex,PTs (G6 X N' scope C s0 H0 ex) ifs tc) (he : ∀ C s0 H0 ex,PE (G6 X N' scope C s0 H0 ex) elt te)
  {pins : List (Addr × Obj)} {s : Shared} {σ : L2.St} {H : Hp} {Q : VK} (I : Inv X pins σ H s) (h : bA6 n caps wi g tc te σ H Q)
  (hRR : ∀ D C r s',r = .ok .next → (∃ m,s'.heap.Ns C m ∧ ∀ h',Heap.SameBut C s'.heap h' → ∃ H',Inv X pins σ H' { s' with heap:=h' } ∧ Q (.ref D) H') →
   (∃ s2 fp σ' H2 H',s2.heap.objs.size = C ∧ Inv X pins σ H2 s2 ∧ (∀ b ∈ fp,aH8 X pins H2 b) ∧ Inv (G6 X N' scope s2.heap.objs.size s2 H2 fp) [] σ' H' s' ∧ Q (.ref D) H') → RR (.ref D) C r s') :
  wpAny (model X.prog X.w) X.A (eval iter X.env) (fun x s₁=>wpAny (model X.prog X.w) X.A (pyIter x) (fun it s₂=>wpAny (model X.prog X.w) X.A (newList []) (fun acc s₃ =>
   wpAny (model X.prog X.w) X.A (newFunctionEnv scope X.env.globals (T6 X.env.cells scope.names []) [] X.env.qual none .none (some X.env)) (fun cenv s₄ =>
    codeAny (model X.prog X.w) X.A (.compStart (.ListComp elt [⟨tgt,iter,ifs,0⟩] scope pos) 0 it acc { cenv with scope:=relabel scope X.env }) (RR acc cenv.locals) s₄) E s₃) E s₂) E s₁) E s:=by
 refine wpAny_mono (hi pins s σ H _ I h) (fun v s1 h1=>wpAny_mono h1 (fun itv s2 h2=>?_) fun _ _ z=>(hx _ _ z).elim) fun _ _ z=>(hx _ _ z).elim
 obtain ⟨it,fp,tn,J,H2,e,I2,T,st2,f2,R⟩:=h2
 subst e
 refine wpAny_newObj_type (wpAny_newFunctionEnv S.cell (by intro y hy; simp at hy) (fun h₁ hns₁ hsb₁=>?_) S.kind)
 dsimp only at hns₁ hsb₁ ⊢
 obtain ⟨W,⟨m0,w0⟩,turn⟩:=R s2.heap.objs.size (I2.hok.fresh (Nat.le_refl _))
 have lt2 : ∀ b ∈ fp,b < s2.heap.objs.size:=fun b hb=>by
  obtain ⟨o,ho,_⟩:=T.obj _ _ st2 b hb
  exact Heap.lt_size ho
 have I3 : Inv X pins σ (upd H2 s2.heap.objs.size (.lst [])) { s2 with heap:=s2.heap.push { cls:=.type "list", dict:=none,data:=.seq ([] : List Value).toArray } } :=
  I2.laid (t':=s2.toks) (fun b u e=>Heap.get?_push_of_some _ e) (Nat.le_refl _) ⟨Nat.zero_le _,[],0,.nil,Heap.get?_push_size _ rfl⟩
 generalize hs3 : ({ s2 with heap:=s2.heap.push { cls:=.type "list", dict:=none,data:=.seq ([] : List Value).toArray } } : Shared) = s3 at I3
 have es3 : s3.heap = s2.heap.push { cls:=.type "list", dict:=none,data:=.seq ([] : List Value).toArray }:=by rw [← hs3]
 rw [← es3] at hns₁ hsb₁ ⊢
 have keep3 : ∀ b o,s3.heap.get? b = some o → h₁.get? b = some o:=fun b o e=>hsb₁.extBut b o (Nat.ne_of_lt (Heap.lt_size e)) (Heap.get?_push_of_some _ e)
 have lt3 : ∀ b ∈ fp,b < s3.heap.objs.size:=fun b hb=>by rw [es3,Heap.size_push]; exact Nat.lt_succ_of_lt (lt2 b hb)
 have f3 : ∀ b ∈ fp,aH8 X pins (upd H2 s2.heap.objs.size (.lst [])) b:=fun b hb=>⟨by rw [F5 (Nat.ne_of_lt (lt2 b hb))]; exact (f2 b hb).1,(f2 b hb).2⟩
 generalize hH3 : upd H2 s2.heap.objs.size (HO.lst []) = H3 at I3 f3 w0
 have fin3 : ∀ {σ' : L2.St} {H' : Hp} {pl : List (Addr × Obj)},(∀ b ∈ fp,H' b = none) → (∀ p ∈ pl,False) → ∀ b ∈ fp,aH8 (G6 X N' scope s3.heap.objs.size s3 H3 fp) pl H' b:=fun {σ' H' pl} hn hp b hb=>by
  refine ⟨hn b hb,Nat.ne_of_lt (lt3 b hb),fun z=>?_,.inl hb,fun x c e=>?_,fun p hp'=>?_⟩
  ·rcases List.mem_cons.mp (I3.stkSub b z) with z | z
   ·exact (f3 b hb).2.1 z
   ·exact (f3 b hb).2.2.1 z
  ·have hm:=PySem.mem_of_lookup e
   rcases au5 hm with q | ⟨q1,q2⟩
   ·cases q
   ·obtain ⟨c',hc'⟩:=I3.ok.has x (S.free _ q1 rfl)
    rw [hc'] at q2
    have q2' : c = c':=q2
    subst q2'
    exact (f3 b hb).2.2.2.2.1 x c hc'
  ·exact (hp p (by simpa [G6] using hp')).elim
 have toks : ∃ tk,({ s2 with heap:=h₁,toks:=s2.toks + ([] : List (Str × Value)).length } : Shared) = { s3 with heap:=h₁,toks:=tk }:=⟨s2.toks,by rw [← hs3]; rfl⟩
 obtain ⟨tk,htk⟩:=toks
 have st4 : tn 0 h₁:=T.keep 0 s2.heap h₁ st2 fun b hb o e=>keep3 b o (by rw [es3]; exact Heap.get?_push_of_some _ e)
 have I4 : Inv (G6 X N' scope s3.heap.objs.size s3 H3 fp) [] (aJ1 n caps σ) H3 { s3 with heap:=h₁,toks:=tk }:=bj3 S I3 f3 lt3 hns₁ keep3
 have loop : codeAny (model X.prog X.w) X.A (.compLoop (.ListComp elt [⟨tgt,iter,ifs,0⟩] scope pos) 0 (.ref it) (.ref s2.heap.objs.size) (compEnvC scope (T6 X.env.cells scope.names []) s3.heap.objs.size X.env)) (RR (.ref s2.heap.objs.size) s3.heap.objs.size) { s3 with heap:=h₁,toks:=tk }:=by
  refine bx0 (fun k s'=>∃ i ys σ' H',Inv (G6 X N' scope s3.heap.objs.size s3 H3 fp) [] σ' H' s' ∧ tn i s'.heap ∧ (∀ b ∈ fp,H' b = none) ∧ W i k ys σ' H') ?_ m0 ⟨0,[],_,H3,I4,st4,fun b hb=>(f3 b hb).1,w0⟩
  rintro k s5 ⟨i,ys,σ5,H5,I5,st5,fr5,w5⟩
  have pz : ∀ p ∈ ([] : List (Addr × Obj)),False:=fun p hp=>by cases hp
  rcases turn i k ys σ5 H5 w5 with ⟨stop,qn⟩ | ⟨go,step⟩
  ·refine wpAny_mono (T.done (G6 X N' scope s3.heap.objs.size s3 H3 fp) rfl rfl rfl hc i [] s5 σ5 H5 (fun _ _=>False) I5 (fin3 (σ':=σ5) fr5 pz) st5 stop) (fun r s6 ⟨hr,I6⟩=>?_) fun _ _ z=>z
   subst hr
   obtain ⟨m6,hn6,_⟩:=I6.loc
   refine hRR _ _ _ s6 rfl ⟨m6,hn6,fun h' sb=>⟨H5,aM3 I3 f3 I6 sb,qn⟩⟩ ⟨s3,fp,σ5,H3,H5,rfl,I3,f3,I6,qn⟩
  ·refine wpAny_mono (T.item (G6 X N' scope s3.heap.objs.size s3 H3 fp) rfl rfl rfl hc i [] s5 σ5 H5 (fun _ _=>False) I5 (fin3 (σ':=σ5) fr5 pz) st5 go) (fun r s6 ⟨u,hr,h6⟩=>?_) fun _ _ z=>z
   subst hr
   refine wpAny_mono h6 (fun _ s7 ⟨x,H7,I7,r7,y7,st7,fr7⟩=>?_) fun _ _ z=>z
   have I7':=I7.pinned (fin3 (σ':=σ5) fr7 pz) (T.obj _ _ st7)
   refine wpAny_mono (hg _ _ _ _ _ s7 σ5 H7 x u _ I7' r7 (step x H7 y7)) (fun _ s8 ⟨σ8,H8,I8,q8⟩=>?_) fun _ _ z=>z
   refine wpAny_mono (ht _ _ _ _ _ s8 σ8 H8 _ I8 q8) (fun ok s9 ⟨H9,I9,q9⟩=>?_) fun _ _ z=>z
   have again : ∀ {σ' : L2.St} {H' : Hp} {s' : Shared},Inv (G6 X N' scope s3.heap.objs.size s3 H3 fp) ([] ++ aE7 fp s7.heap) σ' H' s' → Inv (G6 X N' scope s3.heap.objs.size s3 H3 fp) [] σ' H' s' ∧ tn (i + 1) s'.heap ∧ ∀ b ∈ fp,H' b = none:=fun {σ' H' s'} I'=>by
    refine ⟨I'.unpinned,T.keep _ _ _ st7 fun b hb o e=>(I'.pin (b,o) (List.mem_append_right _ (List.mem_append_right _ (ad9 hb e)))).1,fun b hb=>?_⟩
    obtain ⟨o,e,d⟩:=T.obj _ _ st7 b hb
    exact (I'.pin (b,o) (List.mem_append_right _ (List.mem_append_right _ (ad9 hb e)))).2.1
   cases ok with
   | false =>
    rw [if_neg Bool.false_ne_true] at q9 ⊢
    obtain ⟨m',hm,w'⟩:=q9
    obtain ⟨a1,a2,a3⟩:=again I9
    exact ⟨m',hm,i + 1,ys,σ8,H9,a1,a2,a3,w'⟩
   | true =>
    rw [if_pos rfl] at q9 ⊢
    refine wpAny_mono (he _ _ _ _ _ s9 σ8 H9 _ I9 q9) (fun y s10 ⟨vy,H10,I10,r10,q10,z10,m',hm,w'⟩=>?_) fun _ _ z=>z
    refine wpAny_mono (aL1 (X:=G6 X N' scope s3.heap.objs.size s3 H3 fp) _ s10 σ8 H10 (.ref s2.heap.objs.size) [vy] _ _ (fun v H'=>v = .non ∧ H' = upd H10 s2.heap.objs.size (.lst (ys ++ [vy]))) I10 rfl (.cons r10 .nil) ⟨_,ys,vy,rfl,rfl,q10,z10,rfl,rfl⟩) (fun _ s11 ⟨v11,H11,I11,r11,e11,e12⟩=>?_) fun _ _ z=>z
    subst e12
    obtain ⟨a1,a2,a3⟩:=again I11
    exact ⟨m',hm,i + 1,ys ++ [vy],σ8,_,a1,a2,a3,w'⟩
 show codeAny (model X.prog X.w) X.A _ _ ({ s2 with heap:=h₁,toks:=s2.toks + ([] : List (Str × Value)).length } : Shared)
 rw [htk]
 exact codeAny_compStart_list loop (T.self _ _ _ _ _ st4 loop)
end
end G
namespace G
open PySem PySem.Spec PyProof.Rows L2
section
variable {X : Cx}
noncomputable def tgJ (K : PySem.W.Frag) (f : D → Rho → Option Rho) : TG:=fun v σ H Q=>∃ d ρ ρ' H0 Hf,f d ρ = some ρ' ∧ J0 Hf H ∧ Slots K H0 ρ σ H Hf ∧ Rep K Hf d v ∧ ∀ σ',Slots K H0 ρ' σ' H Hf → Q σ' H
noncomputable def JG (X : Cx) (tg : Expr) (f : D → Rho → Option Rho) : Prop:=PG X tg (tgJ X.K f)
noncomputable def cE7 (K : PySem.W.Frag) (f : List D → Rho → Option Rho) : TGs:=fun vs σ H Q=>∃ ds ρ ρ' H0 Hf,f ds ρ = some ρ' ∧ J0 Hf H ∧ Slots K H0 ρ σ H Hf ∧ Reps K Hf ds vs ∧ ∀ σ',Slots K H0 ρ' σ' H Hf → Q σ' H
noncomputable def JGs (X : Cx) (tg : List Expr) (f : List D → Rho → Option Rho) : Prop:=PGs X tg (cE7 X.K f)
noncomputable def C7 (i : Nat) : D → Rho → Option Rho:=fun d ρ=>some (ρ.set i (some (.val d)))
theorem bV7 (i : Nat) {x : Str} {pos : Pos} (hN : X.N.Nodup) (hi : X.N[i]? = some x:=by rfl) (hx : Loc X.env.scope x:=by first | exact Or.inl rfl | exact Or.inr rfl) (hf : X.fn x = true ∨ X.env.scope.names.lookup x = some .local:=by first | exact .inl rfl | exact .inr rfl) : JG X (.Name x pos) (C7 i):=by
 intro pins s σ H v u Q I r ⟨d,ρ,ρ',H0,Hf,e,ss,sl,rp,k⟩
 cases e
 exact bR0 hN hi hx hf pins s σ H v u Q I r (k _ (sl.set rp))
noncomputable def Q9 : List D → Rho → Option Rho:=fun ds ρ=>match ds with
 | []=>some ρ
 | _=>none
noncomputable def F6 (f : D → Rho → Option Rho) (g : List D → Rho → Option Rho) : List D → Rho → Option Rho:=fun ds ρ=>match ds with
 | d :: r=>(f d ρ).bind fun ρ'=>g r ρ'
 | []=>none
theorem bV6 : JGs X [] Q9:=by
 intro pins s σ H vs us Q I r ⟨ds,ρ,ρ',H0,Hf,e,ss,sl,rp,k⟩
 cases ds with
 | nil=>cases e; exact bQ9 pins s σ H vs us Q I r ⟨rp,k _ sl⟩
 | cons d ds=>cases e
theorem bH3 {e : Expr} {es : List Expr} {f : D → Rho → Option Rho} {g : List D → Rho → Option Rho} (h1 : JG X e f) (h2 : JGs X es g) (hs : (assignEach (e :: es) X.env).map (·.2) = assign e X.env :: (assignEach es X.env).map (·.2):=by rfl) : JGs X (e :: es) (F6 f g):=by
 intro pins s σ H vs us Q I r ⟨ds,ρ,ρ',H0,Hf,e,ss,sl,rp,k⟩
 cases ds with
 | nil=>cases e
 | cons d ds =>
  obtain ⟨ρ1,e1,e2⟩:=xbm e
  obtain ⟨v,vr,rfl,q1,q2⟩:=rp
  exact bD1 h1 h2 hs pins s σ H _ us Q I r ⟨v,vr,rfl,d,ρ,ρ1,H0,Hf,e1,ss,sl,q1,fun σ' sl'=>⟨ds,ρ1,ρ',H0,Hf,e2,ss,sl',q2,k⟩⟩
noncomputable def Q2 (n : Nat) (g : List D → Rho → Option Rho) : D → Rho → Option Rho:=fun d ρ=>match d with
 | .tuple ds=>if ds.length = n then g ds ρ else none
 | _=>none
theorem cp8 {es : List Expr} {k n : Nat} {pos : Pos} {g : List D → Rho → Option Rho} (h : JGs X es g) (hc : X.calm = true:=by rfl) (hn : (assignEach es X.env).length = n:=by rfl) (hst : (assignEach es X.env).findIdx? (·.1) = none:=by rfl) : JG X (.Tuple es k pos) (Q2 n g):=by
 intro pins s σ H v u Q I r ⟨d,ρ,ρ',H0,Hf,e,ss,sl,rp,kk⟩
 cases d with
 | tuple ds =>
  simp only [Q2] at e
  split at e
  ·rename_i hl
   obtain ⟨a,vs,rfl,q1,q2⟩:=rp
   exact cj7 hc h hn hst pins s σ H _ u Q I r ⟨a,vs,rfl,F0 ss q1,by rw [q2.length,hl],ds,ρ,ρ',H0,Hf,e,ss,sl,q2,kk⟩
  ·cases e
 | _=>cases e
noncomputable def bN6 (K : PySem.W.Frag) (J : It) (ds : List D) (Hf1 : Hp) : Prop:=∀ (i : Nat) (H Hf : Hp),J0 Hf1 Hf → J0 Hf H → (ds.length ≤ i → J.stop i H) ∧ ∀ d,ds[i]? = some d → J.go i H ∧ ∀ x H',J.yld i H x H' → ∃ Hf',Grow H Hf H' Hf' ∧ Rep K Hf' d x
noncomputable def tiJ (K : PySem.W.Frag) (ρ : Rho) (ds : List D) : TI:=fun σ H R=>∃ H0 Hf,J0 Hf H ∧ Slots K H0 ρ σ H Hf ∧ ∀ J H' Hf',Grow H Hf H' Hf' → bN6 K J ds Hf' → R J H'
noncomputable def JI (X : Cx) (tg iter : Expr) (f : Rho → Option (List D)) : Prop:=∀ ρ ds,f ρ = some ds → PI X tg iter (tiJ X.K ρ ds)
theorem bf6 {tg iter : Expr} {t t' : TI} (h : PI X tg iter t) (i : ∀ σ H R,t' σ H R → t σ H R) : PI X tg iter t':=fun pins s σ H R I q=>h pins s σ H R I (i σ H R q)
noncomputable def E1 (f : DE) : Rho → Option (List D):=fun ρ=>(f ρ).bind fun d=>match d with
 | .list ds=>some ds
 | .tuple ds=>some ds
 | _=>none
theorem bh4 {tg e : Expr} {f : DE} (h : JE X e f) : JI X tg e (E1 f):=fun ρ ds q=>by
 obtain ⟨d,e1,e2⟩:=xbm q
 cases d with
 | list xs =>
  cases e2
  refine bf6 (bQ8 (h ρ _ e1)) fun σ H R ⟨H0,Hf,s,sl,k⟩=>⟨H0,Hf,s,sl,fun v H1 Hf1 g1 ⟨a,vs,h1,h2,h3⟩=>⟨a,h1,⟨vs,L4 g1.sub h2⟩,k _ H1 Hf1 g1 ?_⟩⟩
  intro i H' Hf' sa sb
  have q' : SqL X.K H' a vs:=L4 (sa.trans sb) h2
  refine ⟨fun hi=>⟨vs,q',by rw [h3.length]; exact hi⟩,fun d hd=>?_⟩
  obtain ⟨v,w1,w2⟩:=h3.get hd
  refine ⟨⟨vs,v,q',w1⟩,fun x H'' hy=>?_⟩
  obtain ⟨rfl,hy⟩:=hy
  have:=hy vs q'
  rw [w1] at this; cases this
  exact ⟨Hf',Grow.refl sb,w2.mono sa⟩
 | tuple xs =>
  cases e2
  refine bf6 (cj6 (h ρ _ e1)) fun σ H R ⟨H0,Hf,s,sl,k⟩=>⟨H0,Hf,s,sl,fun v H1 Hf1 g1 ⟨a,vs,h1,h2,h3⟩=>⟨a,h1,⟨vs,F0 g1.sub h2⟩,k _ H1 Hf1 g1 ?_⟩⟩
  intro i H' Hf' sa sb
  have q' : SqT X.K H' a vs:=F0 (sa.trans sb) h2
  refine ⟨fun hi=>⟨vs,q',by rw [h3.length]; exact hi⟩,fun d hd=>?_⟩
  obtain ⟨v,w1,w2⟩:=h3.get hd
  refine ⟨⟨vs,v,q',w1⟩,fun x H'' hy=>?_⟩
  obtain ⟨rfl,hy⟩:=hy
  have:=hy vs q'
  rw [w1] at this; cases this
  exact ⟨Hf',Grow.refl sb,w2.mono sa⟩
 | _=>cases e2
noncomputable def ad6 (lo hi : Int) : List D:=(List.range (hi - lo).toNat).map fun (i : Nat)=>PyData.int (lo + i)
theorem aO0 {K : PySem.W.Frag} {lo hi : Int} {Hf1 : Hp} : bN6 K (Itr lo (hi - lo).toNat) (ad6 lo hi) Hf1:=by
 intro i H Hf sa sb
 have hl : (ad6 lo hi).length = (hi - lo).toNat:=by simp [ad6]
 refine ⟨fun h=>by rw [hl] at h; exact h,fun d hd=>?_⟩
 have hi' : i < (hi - lo).toNat:=by
  have:=(List.getElem?_eq_some_iff.mp hd).1
  rw [hl] at this; exact this
 refine ⟨hi',fun x H' hy=>?_⟩
 obtain ⟨e1,e2⟩:=hy
 subst e1 e2
 have : d = .int (lo + i):=by
  have : (ad6 lo hi)[i]? = some (.int (lo + i)):=by simp [ad6,hi']
  rw [hd] at this; cases this; rfl
 subst this
 exact ⟨Hf,Grow.refl sb,rfl⟩
noncomputable def K4 (f : DE) : Rho → Option (List D):=fun ρ=>(f ρ).bind fun d=>match d with
 | .int j=>if -(2 ^ 62) ≤ j ∧ j < 2 ^ 62 then some (ad6 0 j) else none
 | _=>none
theorem bu5 {tg e : Expr} {f : DE} {p pos : Pos} (hg : Gl X "range") (hm : X.mg "range" = none) (h : JE X e f) (hs : starEach [e] X.env = [(false,eval e X.env)]:=by rfl) : JI X tg (.Call (.Name "range" p) [e] [] pos) (K4 f):=fun ρ ds q=>by
 obtain ⟨d,e1,e2⟩:=xbm q
 split at e2
 ·split at e2
  ·rename_i j c
   cases e2
   refine bf6 (br7 hg hm (K9 (h ρ _ e1) P4 hs) hs) fun σ H R ⟨H0,Hf,s,sl,k⟩=>⟨H0,Hf,s,sl,fun v H1 Hf1 g1 r=>⟨j,by rw [show v = _ from r],c.1,c.2,k _ H1 Hf1 g1 ?_⟩⟩
   have:=aO0 (K:=X.K) (lo:=0) (hi:=j) (Hf1:=Hf1)
   rw [Int.sub_zero] at this
   exact this
  ·cases e2
 ·cases e2
theorem Grow.nofr {H Hf H' Hf' : Hp} {a : Addr} {o : HO} (g : Grow H Hf H' Hf') (h : H a = some o) (n : Hf a = none) : Hf' a = none:=by
 cases q : Hf' a with
 | none=>rfl
 | some u =>
  rcases g.new a (by rw [q]; simp) with z | z
  ·exact absurd n z
  ·rw [h] at z; cases z
noncomputable def t8 (n : Nat) (caps : List Nat) (ρ : Rho) : Rho:=List.replicate n none ++ caps.map fun j=>match ρ[j]? with
 | some (some (.val d))=>some (.val d)
 | _=>none
noncomputable def R9 (g : D → Rho → Option Rho) (c : Rho → Option Bool) (e : DE) : List D → Rho → Option (List D)
 | [],_=>some []
 | d :: ds,ρ=>(g d ρ).bind fun ρ1=>(c ρ1).bind fun b=>if b then (e ρ1).bind fun y=>(R9 g c e ds ρ1).map fun r=>y :: r else R9 g c e ds ρ1
noncomputable def C8 (n : Nat) (caps : List Nat) (src : Rho → Option (List D)) (g : D → Rho → Option Rho) (c : Rho → Option Bool) (e : DE) : Rho → Option (List D):=fun ρ=>(src ρ).bind fun ds=>if ds.length ≤ 16777216 then R9 g c e ds (t8 n caps ρ) else none
noncomputable def aK1 (K : PySem.W.Frag) (c : Rho → Option Bool) : TT:=fun σ H Q=>∃ ρ b,c ρ = some b ∧ ∃ H0 Hf,J0 Hf H ∧ Slots K H0 ρ σ H Hf ∧ ∀ H' Hf',Grow H Hf H' Hf' → Q b H'
noncomputable def bm0 (K : PySem.W.Frag) (e : DE) : TE:=fun σ H Q=>∃ ρ d,e ρ = some d ∧ tJ K ρ (fun _ v _ Hf=>Rep K Hf d v) σ H Q
noncomputable def JTs (X : Cx) (ifs : List Expr) (c : Rho → Option Bool) : Prop:=PTs X ifs (aK1 X.K c)
noncomputable def G1 : Rho → Option Bool:=fun _=>some true
theorem bU4 : JTs X [] G1:=fun pins s σ H Q I ⟨ρ,b,e,H0,Hf,ss,sl,k⟩=>by
 cases e
 exact bQ0 pins s σ H Q I (k H Hf (Grow.refl ss))
theorem bU3 {e : Expr} {c : Rho → Option Bool} (h : JT X e c) : JTs X [e] c:=fun pins s σ H Q I ⟨ρ,b,e,H0,Hf,ss,sl,k⟩=>bP9 (h ρ b e) pins s σ H Q I ⟨H0,Hf,ss,sl,k⟩
theorem bj6 {K : PySem.W.Frag} {n : Nat} {caps : List Nat} {H0 H H1 H' Hf : Hp} {ρ : Rho} {σ : L2.St} (sl : Slots K H0 ρ σ H Hf) : Slots K H1 (t8 n caps ρ) (aJ1 n caps σ) H' Hf:=by
 have noown : ∀ (i : Nat) (ds : List D),(t8 n caps ρ)[i]? ≠ some (some (.own ds)):=fun i ds h=>by
  unfold t8 at h
  rcases Nat.lt_or_ge i n with q | q
  ·rw [List.getElem?_append_left (by simpa using q),List.getElem?_replicate,if_pos q] at h; cases h
  ·rw [List.getElem?_append_right (by simpa using q),List.getElem?_map] at h
   cases hj : caps[i - (List.replicate n (none : Option B)).length]? with
   | none=>rw [hj] at h; cases h
   | some j =>
    rw [hj] at h
    simp only [Option.map_some,Option.some.injEq] at h
    split at h <;> cases h
 refine ⟨by simp [t8,aJ1],fun i b e=>?_,fun i j ds es a h1=>(noown i ds h1).elim⟩
 unfold t8 at e
 unfold aJ1
 rcases Nat.lt_or_ge i n with q | q
 ·rw [List.getElem?_append_left (by simpa using q),List.getElem?_replicate,if_pos q] at e; cases e
 ·rw [List.getElem?_append_right (by simpa using q),List.getElem?_map] at e
  rw [List.getElem?_append_right (by simpa using q),List.getElem?_map]
  simp only [List.length_replicate] at e ⊢
  cases hj : caps[i - n]? with
  | none=>rw [hj] at e; cases e
  | some j =>
   rw [hj] at e
   simp only [Option.map_some,Option.some.injEq] at e ⊢
   split at e
   ·rename_i d hd
    cases e
    obtain ⟨v,h1,h2⟩:=sl.is j _ hd
    exact ⟨v,by rw [h1]; rfl,h2⟩
   ·cases e
theorem aq9 {K : PySem.W.Frag} {n : Nat} {caps : List Nat} {ρ : Rho} {src : Rho → Option (List D)} {g : D → Rho → Option Rho} {c : Rho → Option Bool} {e : DE} {out : List D} (h : C8 n caps src g c e ρ = some out) :
  ∃ ds,src ρ = some ds ∧ ∀ σ H Q,tJ K ρ (fun H v H' Hf'=>∃ a vs,v = .ref a ∧ H a = none ∧ H' a = some (.lst vs) ∧ Hf' a = none ∧ Reps K Hf' out vs) σ H Q → bA6 n caps (tiJ K ρ ds) (tgJ K g) (aK1 K c) (bm0 K e) σ H Q:=by
 obtain ⟨ds,e1,e2⟩:=xbm h
 split at e2
 ·rename_i hz
  refine ⟨ds,e1,fun σ H Q ⟨H0,Hf,s,sl,k⟩=>⟨H0,Hf,s,sl,fun J H1 Hf1 g1 Y Dd hD=>?_⟩⟩
  refine ⟨fun i m ys σ' H'=>m = ds.length - i ∧ i ≤ ds.length ∧ ∃ Hf' ρ' o1 o2,Grow H1 Hf1 H' Hf' ∧ H' Dd = some (.lst ys) ∧ Hf' Dd = none ∧ Slots K (upd H1 Dd (.lst [])) ρ' σ' H' Hf' ∧ Reps K Hf' o1 ys ∧ o1.length ≤ i ∧ R9 g c e (ds.drop i) ρ' = some o2 ∧ o1 ++ o2 = out,
   ⟨ds.length,by simp,Nat.zero_le _,Hf1,t8 n caps ρ,[],out,Grow.made g1.sub hD,E5,g1.sub.free hD,bj6 (sl.grow g1),rfl,Nat.le_refl _,by simpa using e2,rfl⟩,?_⟩
  rintro i m ys σ' H' ⟨rfl,hi,Hf',ρ',o1,o2,gr,hd1,hd2,sl',rp,ho,ec,eo⟩
  obtain ⟨Ys,Yg⟩:=Y i H' Hf' gr.ext gr.sub
  rcases Nat.lt_or_ge i ds.length with hlt | hge
  ·right
   obtain ⟨go,yl⟩:=Yg ds[i] (by simp [hlt])
   refine ⟨go,fun x H2 hy=>?_⟩
   obtain ⟨Hf2,g2,r2⟩:=yl x H2 hy
   rw [List.drop_eq_getElem_cons hlt] at ec
   obtain ⟨ρ1,c1,ec⟩:=xbm ec
   obtain ⟨b,c2,ec⟩:=xbm ec
   refine ⟨ds[i],ρ',ρ1,_,Hf2,c1,g2.sub,sl'.grow g2,r2,fun σ3 sl3=>⟨ρ1,b,c2,_,Hf2,g2.sub,sl3,fun H4 Hf4 g4=>?_⟩⟩
   have gr4:=(gr.trans g2).trans g4
   have hd4 : H4 Dd = some (.lst ys):=g4.big _ _ (g2.big _ _ hd1)
   have hf4 : Hf4 Dd = none:=(g2.trans g4).nofr hd1 hd2
   have rp4:=rp.mono (g2.trans g4).ext
   cases b with
   | false =>
    rw [if_neg Bool.false_ne_true] at ec
    refine aI7 ?_
    exact ⟨ds.length - (i + 1),by omega,rfl,hlt,Hf4,ρ1,o1,o2,gr4,hd4,hf4,sl3.grow g4,rp4,by omega,ec,eo⟩
   | true =>
    rw [if_pos rfl] at ec
    refine aI6 ?_
    obtain ⟨y,c3,ec⟩:=xbm ec
    obtain ⟨o3,c4,rfl⟩:=Option.map_eq_some_iff.mp ec
    refine ⟨ρ1,y,c3,_,Hf4,g4.sub,sl3.grow g4,fun v H5 Hf5 g5 r5=>⟨g5.big _ _ hd4,?_,?_⟩⟩
    ·rw [rp.length,sizeLine_eq]; omega
    ·have hf5 : Hf5 Dd = none:=g5.nofr hd4 hf4
     have gr5:=gr4.trans g5
     refine ⟨ds.length - (i + 1),by omega,rfl,hlt,Hf5,ρ1,o1 ++ [y],o3,⟨fun b u q=>?_,fun b u q=>?_,gr5.ext,gr5.new⟩,E5,hf5,?_,(rp4.mono g5.ext).append ⟨v,[],rfl,r5,rfl⟩,by simp; omega,c4,by simp [← eo]⟩
     ·rw [F5 (G4 q hD)]; exact gr5.big b u q
     ·rw [F5 (G4 q hf5)]; exact gr5.sub b u q
     ·have sl5:=(sl3.grow g4).grow g5
      refine ⟨sl5.len,fun j bb q=>?_,sl5.apart⟩
      obtain ⟨w,q1,q2⟩:=sl5.is j bb q
      refine ⟨w,q1,?_⟩
      cases bb with
      | val d=>exact q2
      | own dd =>
       obtain ⟨a,vs,z1,z2,z3,z4,z5⟩:=q2
       have ne : a ≠ Dd:=fun z=>by rw [z,E5] at z4; cases z4
       exact ⟨a,vs,z1,by rw [F5 ne]; exact z2,z3,z4,z5⟩
  ·left
   have : i = ds.length:=by omega
   subst this
   rw [List.drop_length] at ec
   cases ec
   rw [List.append_nil] at eo
   subst eo
   exact ⟨Ys (Nat.le_refl _),k _ H' Hf' (g1.trans gr) ⟨Dd,ys,rfl,g1.big.free hD,hd1,hd2,rp⟩⟩
 ·cases e2
end
end G
namespace G
open PySem PySem.Spec PyProof.Rows L2
section
variable {X : Cx}
noncomputable def aC0 (N N' : List Str) (n : Nat) (caps : List Nat) (sc scope : Scope) : Bool :=
 (match scope.kind with | .function=>true | _=>false) &&
 (scope.names.all fun y=>(match y.2 with | .cell=>false | .local=>scope.names.lookup y.1 == some .local | .free=>sc.names.lookup y.1 == some .cell || sc.names.lookup y.1 == some .free | _=>true)) &&
 (N'.length == n + caps.length) &&
 ((List.range caps.length).all fun i=>match caps[i]? with
  | some j=>(match N[j]? with | some x=>N'[n + i]? == some x && scope.names.lookup x == some .free | none=>false)
  | none=>true)
theorem bx1 {N N' : List Str} {n : Nat} {caps : List Nat} {sc scope : Scope} (h : aC0 N N' n caps sc scope = true) (hN : X.N = N) (hS : X.env.scope = sc) : CompSc X N' n caps scope:=by
 subst hN hS
 unfold aC0 at h
 simp only [Bool.and_eq_true,List.all_eq_true] at h
 obtain ⟨⟨⟨h1,h2⟩,h3⟩,h4⟩:=h
 refine ⟨?_,fun y hy e=>?_,fun y hy e=>?_,fun y hy e=>?_,by simpa using h3,fun i j e=>?_⟩
 ·cases q : scope.kind <;> rw [q] at h1 <;> first | rfl | cases h1
 ·have:=h2 y hy
  rw [e] at this; cases this
 ·have:=h2 y hy
  rw [e] at this; simpa using this
 ·have:=h2 y hy
  rw [e] at this; simpa using this
 ·have hi : i < caps.length:=(List.getElem?_eq_some_iff.mp e).1
  have:=h4 i (by simpa using hi)
  rw [e] at this
  simp only at this
  cases q : X.N[j]? with
  | none=>rw [q] at this; cases this
  | some x =>
   rw [q] at this
   simp only [Bool.and_eq_true] at this
   exact ⟨x,rfl,by simpa using this.1,by simpa using this.2⟩
theorem bp3 {N' : List Str} {n : Nat} {caps : List Nat} {scope : Scope} {pins : List (Addr × Obj)} {σ : L2.St} {H : Hp} {s : Shared} (S : CompSc X N' n caps scope) (I : Inv X pins σ H s) : closureFor scope X.env = pure (T6 X.env.cells scope.names []) :=
 bX9 fun y hy e=>I.ok.has y.1 (S.free y hy e)
theorem bV5 {N' : List Str} {n : Nat} {caps : List Nat} {scope : Scope} {elt tgt iter : Expr} {ifs : List Expr} {pos : Pos} {src : Rho → Option (List D)} {g : D → Rho → Option Rho} {c : Rho → Option Bool} {e : DE} (S : CompSc X N' n caps scope) (hx : ∀ e s,X.xe e s → False)
  (hi : JI X tgt iter src) (hg : ∀ C s0 H0 ex,JG (G6 X N' scope C s0 H0 ex) tgt g) (ht : ∀ C s0 H0 ex,JTs (G6 X N' scope C s0 H0 ex) ifs c) (he : ∀ C s0 H0 ex,JE (G6 X N' scope C s0 H0 ex) elt e)
  (hc : X.calm = true:=by rfl) (hs : ∀ x,foldedSetIterable iter X.env x = pure x:=by intro _; rfl) : JN X (.ListComp elt [⟨tgt,iter,ifs,0⟩] scope pos) (C8 n caps src g c e):=by
 intro ρ out h
 obtain ⟨ds,e1,k⟩:=aq9 (K:=X.K) h
 intro pins s σ H Q I t
 rw [eval_ListComp]
 refine wpAny_comprehension_free (use:=none) rfl hs (bp3 S I) S.kind S.loc (bb6 (RR:=fun acc C=>compPost (model X.prog X.w) X.A X.xe none (EP X pins σ Q) acc C) S hx hc (hi ρ ds e1) (g:=tgJ X.K g) (tc:=aK1 X.K c) (te:=bm0 X.K e) hg ht (fun C s0 H0 ex pins s σ H Q I ⟨ρ,d,e,t⟩=>he C s0 H0 ex ρ d e pins s σ H Q I t) I (k σ H Q t) ?_)
 intro Dd C r s' hr ⟨m,hn,kk⟩ _
 subst hr
 exact ⟨m,hn,fun h' sb=>let ⟨H',I',q⟩:=kk h' sb; ⟨.ref Dd,H',I',rfl,q⟩⟩
theorem aE6 {N' : List Str} {n : Nat} {caps : List Nat} {scope : Scope} {elt tgt iter : Expr} {ifs : List Expr} {pos pos' spos : Pos} {i : Nat} {x : Str} {wi : TI} {g : TG} {tc : TT} {te : TE} (S : CompSc X N' n caps scope) (hx : ∀ e s,X.xe e s → False) (hc : X.calm = true)
  (hN : X.N.Nodup) (hi : X.N[i]? = some x) (hl : X.env.scope.names.lookup x = some .local) (hsrc : PI X tgt iter wi) (hg : ∀ C s0 H0 ex,PG (G6 X N' scope C s0 H0 ex) tgt g) (ht : ∀ C s0 H0 ex,PTs (G6 X N' scope C s0 H0 ex) ifs tc) (he : ∀ C s0 H0 ex,PE (G6 X N' scope C s0 H0 ex) elt te)
  (hsw : swapsWith (.ListComp elt [⟨tgt,iter,ifs,0⟩] scope pos) (some (.Name x pos')) spos.line X.env = pure true) (hs : ∀ x,foldedSetIterable iter X.env x = pure x) :
  PS X (.Assign [.Name x pos'] (.ListComp elt [⟨tgt,iter,ifs,0⟩] scope pos) spos) (fun En σ H=>bA6 n caps wi g tc te σ H fun v H'=>En.nx (σ.set i (some v)) H'):=by
 intro pins s σ H En I h
 rw [exec_Assign_Name_used _ _ _ _ hsw]
 refine wpAny_bind (wpAny_standAt (wpAny_bind ?_))
 show wpAny _ X.A (do let _ ← comprehension (.ListComp elt [⟨tgt,iter,ifs,0⟩] scope pos) scope X.env _ (newList []) false (eval iter X.env) (some (assign (.Name x pos') X.env))) _ _ s
 refine wpAny_bind (wpAny_mono (wpAny_comprehension_free (use:=some (assign (.Name x pos') X.env)) (Q:=fun _ s'=>SP X pins En .next s') rfl hs (bp3 S I) S.kind S.loc
  (bb6 (RR:=fun acc C=>compPost (model X.prog X.w) X.A X.xe (some (assign (.Name x pos') X.env)) (fun _ s'=>SP X pins En .next s') acc C) S hx hc hsrc hg ht he I h ?_)) (fun _ s' hq=>wpAny_pure (wpAny_pure hq)) fun _ _ z=>z)
 intro Dd C r s' hr _ ⟨s2,fp,σ',H2,H',eC,I2,f2,I',q⟩
 subst hr eC
 have IX : Inv X pins σ H' s':=aM3 (h':=s'.heap) I2 f2 I' (Heap.SameBut.refl ..)
 obtain ⟨mC,hnC,_⟩:=I'.loc
 have hCL : s2.heap.objs.size ≠ X.env.locals:=fun z=>by
  have:=I2.lt
  rw [← z] at this
  exact Nat.lt_irrefl _ this
 show wpAny _ X.A (assign (.Name x pos') X.env (.ref Dd)) _ _ _
 refine wpAny_assign_Name (aK4 (v:=.ref Dd) IX hN hi (.inl hl) rfl (fun s3 I3 ⟨a,sb,ha⟩=>?_) (.inr hl))
 have hCa : s2.heap.objs.size ≠ a:=fun z=>by
  rcases ha with ha | ha
  ·exact hCL (z.trans ha)
  ·obtain ⟨v,q'⟩:=I2.cell x a ha
   have:=q'.lt
   rw [← z] at this
   exact Nat.lt_irrefl _ this
 refine ⟨mC,hnC.sameBut sb hCa,fun h' sb'=>?_⟩
 refine ⟨_,H',I3.turned (t':=s3.toks) (it:=s2.heap.objs.size) (fun b o hb e=>sb'.extBut b o hb e) I'.free hCL (.inr I2.sz) (fun y c e z=>?_) (fun p hp z=>?_),q⟩
 ·obtain ⟨v,q'⟩:=I2.cell y c e
  have:=q'.lt
  rw [z] at this
  exact Nat.lt_irrefl _ this
 ·have:=Heap.lt_size (I2.pin p hp).1
  rw [z] at this
  exact Nat.lt_irrefl _ this
noncomputable def R3 (i : Nat) (f : Rho → Option (List D)) : DS:=fun ρ=>(f ρ).map fun ds=>.nx (ρ.set i (some (.val (.list ds))))
theorem bV0 (i : Nat) {N' : List Str} {n : Nat} {caps : List Nat} {scope : Scope} {elt tgt iter : Expr} {ifs : List Expr} {pos pos' spos : Pos} {x : Str} {src : Rho → Option (List D)} {g : D → Rho → Option Rho} {c : Rho → Option Bool} {e : DE} (hN : X.N.Nodup) (S : CompSc X N' n caps scope) (hx : ∀ e s,X.xe e s → False)
  (hi : JI X tgt iter src) (hg : ∀ C s0 H0 ex,JG (G6 X N' scope C s0 H0 ex) tgt g) (ht : ∀ C s0 H0 ex,JTs (G6 X N' scope C s0 H0 ex) ifs c) (he : ∀ C s0 H0 ex,JE (G6 X N' scope C s0 H0 ex) elt e)
  (hi2 : X.N[i]? = some x:=by rfl) (hl : X.env.scope.names.lookup x = some .local:=by rfl) (hsw : swapsWith (.ListComp elt [⟨tgt,iter,ifs,0⟩] scope pos) (some (.Name x pos')) spos.line X.env = pure true:=by rfl)
  (hc : X.calm = true:=by rfl) (hs : ∀ x,foldedSetIterable iter X.env x = pure x:=by intro _; rfl) : JS X (.Assign [.Name x pos'] (.ListComp elt [⟨tgt,iter,ifs,0⟩] scope pos) spos) (R3 i (C8 n caps src g c e)):=fun ρ fl q H0 Hf0=>by
 obtain ⟨out,e1,e2⟩:=Option.map_eq_some_iff.mp q
 subst e2
 obtain ⟨ds,e3,k⟩:=aq9 (K:=X.K) e1
 refine Q6 (aE6 S hx hc hN hi2 hl (hi ρ ds e3) (g:=tgJ X.K g) (tc:=aK1 X.K c) (te:=bm0 X.K e) hg ht (fun C s0 H0 ex pins s σ H Q I ⟨ρ,d,e,t⟩=>he C s0 H0 ex ρ d e pins s σ H Q I t) hsw hs) fun En σ H ⟨Hf,a,ee⟩=>k σ H _ ⟨H0,Hf,a.gr.sub,a.sl,fun v H' Hf' gg ⟨p,vs,z1,z2,z3,z4,z5⟩=>?_⟩
 subst z1
 have g2:=gg.freeze z3 z4 z2
 exact ee _ H' _ ⟨a.gr.trans g2,(a.sl.grow g2).set ⟨p,vs,rfl,SqL.of E5,z5.mono (G9 z4)⟩⟩ g2.ext
theorem co5 {i j : Nat} {x y : Str} {a b : Expr} {f : Rho → Option (List D)} {px py pt : Pos} {kt k2 pt2} {pos : Pos} (hN : X.N.Nodup) (ha : JA X [a,b] f) (hw : swappedStores [.Tuple [.Name x px,.Name y py] kt pt] (.Tuple [a,b] k2 pt2) X.env = pure (some [x,y])) (hij : i ≠ j)
  (hi : X.N[i]? = some x:=by rfl) (hj : X.N[j]? = some y:=by rfl) (hx : X.env.scope.names.lookup x = some .local:=by rfl) (hy : X.env.scope.names.lookup y = some .local:=by rfl) (hc : X.calm = true:=by rfl)
  (hs : swapsWithSole [.Tuple [.Name x px,.Name y py] kt pt] (.Tuple [a,b] k2 pt2) pos.line X.env = pure false:=by rfl) : JS X (.Assign [.Tuple [.Name x px,.Name y py] kt pt] (.Tuple [a,b] k2 pt2) pos) (bB6 i j f):=fun ρ fl q H0 Hf0=>by
 obtain ⟨ds,e1,e2⟩:=xbm q
 split at e2
 ·cases e2
  refine Q6 (cj3 hc hN hi hj hij hx hy (fun pos pins s σ H Q I t=>ha.run ρ _ e1 pos pins s σ H Q I t) hw hs) fun En σ H ⟨Hf,at',e⟩=>⟨H0,Hf,at'.gr.sub,at'.sl,fun vs H' Hf' gg rp=>?_⟩
  obtain ⟨v,r,rfl,r1,w,r',rfl,r2,r3⟩:=rp
  cases r3
  exact ⟨v,w,rfl,e _ H' Hf' ⟨at'.gr.trans gg,((at'.sl.grow gg).set r1).set r2⟩ gg.ext⟩
 ·cases e2
noncomputable def Y9 (f : DE) (g : D → Rho → Option Rho) : DS:=fun ρ=>(f ρ).bind fun d=>(g d ρ).map Fl.nx
theorem bG9 {tg e : Expr} {f : DE} {g : D → Rho → Option Rho} {pos : Pos} (he : JE X e f) (hg : JG X tg g) (hs : swapsWithSole [tg] e pos.line X.env = pure false:=by rfl) (hw : swappedStores [tg] e X.env = pure none:=by rfl)
  (h1 : (assignEach [tg] X.env).map (·.2) = [assign tg X.env]:=by rfl) : JS X (.Assign [tg] e pos) (Y9 f g):=fun ρ fl q H0 Hf0=>by
 obtain ⟨d,e1,e2⟩:=xbm q
 obtain ⟨ρ',e3,e4⟩:=Option.map_eq_some_iff.mp e2
 subst e4
 exact Q6 (cj5 (he ρ d e1) hg hs hw h1) fun En σ H ⟨Hf,a,ee⟩=>⟨H0,Hf,a.gr.sub,a.sl,fun v H' Hf' gg r=>⟨d,ρ,ρ',H0,Hf',e3,gg.sub,a.sl.grow gg,r,fun σ' sl'=>ee σ' H' Hf' ⟨a.gr.trans gg,sl'⟩ gg.ext⟩⟩
noncomputable def r9 (i : Nat) (f : Rho → Option (List D)) : DS:=fun ρ=>(f ρ).map fun ds=>.nx (ρ.set i (some (.own ds)))
theorem Slots.setOwn {K : PySem.W.Frag} {H0 H H' Hf Hf' : Hp} {ρ : Rho} {σ : L2.St} {i : Nat} {ds : List D} {a : Addr} {vs : List V} (s : Slots K H0 ρ σ H Hf) (g : Grow H Hf H' Hf') (n0 : H0 a = none) (n : H a = none) (h : H' a = some (.lst vs)) (nf : Hf' a = none) (r : Reps K Hf' ds vs) :
  Slots K H0 (ρ.set i (some (.own ds))) (σ.set i (some (.ref a))) H' Hf':=by
 have s':=s.grow g
 have old : ∀ (j : Nat) (es : List D),i ≠ j → ρ[j]? = some (some (.own es)) → σ[j]? ≠ some (some (.ref a)):=fun j es hj e z=>by
  obtain ⟨v,h1,b,us,e1,h2,_⟩:=s.is j _ e
  rw [z] at h1; cases h1; cases e1
  rw [n] at h2; cases h2
 refine ⟨by simp [s.len],fun j b e=>?_,fun j k ds1 es b h1 h2 h3 h4=>?_⟩
 ·by_cases q : i = j
  ·subst q
   have hi : i < ρ.length:=by simpa using (List.getElem?_eq_some_iff.mp e).1
   have hi' : i < σ.length:=by rw [← s.len]; exact hi
   rw [List.getElem?_set_self hi] at e
   cases e
   exact ⟨_,List.getElem?_set_self hi',a,vs,rfl,h,nf,n0,r⟩
  ·rw [List.getElem?_set_ne q] at e
   obtain ⟨u,h1,h2⟩:=s'.is j b e
   exact ⟨u,by rw [List.getElem?_set_ne q]; exact h1,h2⟩
 ·by_cases qj : i = j
  ·by_cases qk : i = k
   ·rw [← qj,← qk]
   ·subst qj
    have hi : i < ρ.length:=by simpa using (List.getElem?_eq_some_iff.mp h1).1
    rw [List.getElem?_set_self (by rw [← s.len]; exact hi)] at h3
    rw [List.getElem?_set_ne qk] at h2 h4
    cases h3
    exact (old k es qk h2 h4).elim
  ·rw [List.getElem?_set_ne qj] at h1 h3
   by_cases qk : i = k
   ·subst qk
    have hi : i < ρ.length:=by simpa using (List.getElem?_eq_some_iff.mp h2).1
    rw [List.getElem?_set_self (by rw [← s.len]; exact hi)] at h4
    cases h4
    exact (old j ds1 qj h1 h3).elim
   ·rw [List.getElem?_set_ne qk] at h2 h4
    exact s.apart j k ds1 es b h1 h2 h3 h4
theorem co6 (i : Nat) {x : Str} {e : Expr} {f : Rho → Option (List D)} {pos pos' : Pos} (hN : X.N.Nodup) (h : JN X e f) (hi : X.N[i]? = some x:=by rfl) (hx : Loc X.env.scope x:=by first | exact Or.inl rfl | exact Or.inr rfl)
  (hs : swapsWith e (some (.Name x pos')) pos.line X.env = pure false:=by rfl) (hf : X.fn x = true ∨ X.env.scope.names.lookup x = some .local:=by first | exact .inl rfl | exact .inr rfl) : JS X (.Assign [.Name x pos'] e pos) (r9 i f):=fun ρ fl q H0 Hf0=>by
 obtain ⟨ds,e1,e2⟩:=Option.map_eq_some_iff.mp q
 subst e2
 refine Q6 (bC6 hN hi hx (h ρ ds e1) hs hf) fun En σ H ⟨Hf,a,e⟩=>⟨H0,Hf,a.gr.sub,a.sl,fun v H' Hf' g ⟨p,vs,z1,z2,z3,z4,z5⟩=>?_⟩
 subst z1
 exact e _ H' Hf' ⟨a.gr.trans g,a.sl.setOwn g (a.gr.big.free z2) z2 z3 z4 z5⟩ g.ext
noncomputable def aa3 (i : Nat) (f : DE) : DS:=fun ρ=>match ρ[i]? with
 | some (some (.own ds))=>if ds.length < 16777216 then (f ρ).map fun d=>.nx (ρ.set i (some (.own (ds ++ [d])))) else none
 | _=>none
theorem cp1 (i : Nat) {x : Str} {e : Expr} {f : DE} {p apos cpos pos : Pos} (h : JE X e f) (hN : X.N[i]? = some x:=by rfl) (hv : Vis X.env.scope x:=by first | exact Or.inl rfl | exact Or.inr (Or.inl rfl) | exact Or.inr (Or.inr rfl)) (hd : (x == ("__debug__" : Str)) = false:=by decide)
  (hcd : (x == ("__classdict__" : Str)) = false:=by decide) (hbase : attributeBase (.Name x p) "append" X.env (eval (.Name x p) X.env) = eval (.Name x p) X.env:=by rfl)
  (hfew : ((backTo cpos (starEach [e] X.env)).all (fun x=>!x.1) && (backToKw cpos (keywordEach [] X.env)).all (fun x=>x.1.isSome)
   && decide (([e] : List Expr).length + ([] : List Keyword).length + (if ([] : List Keyword).isEmpty then 0 else 1) < 30)) = true:=by rfl)
  (hline : (apos.endLine == cpos.line) = true:=by rfl) (hs : starEach [e] X.env = [(false,eval e X.env)]:=by rfl) (hsw : swapsWith (.Call (.Attribute (.Name x p) "append" apos) [e] [] cpos) none pos.line X.env = pure false:=by rfl) :
  JS X (.Expr (.Call (.Attribute (.Name x p) "append" apos) [e] [] cpos) pos) (aa3 i f):=fun ρ fl q H0 Hf0=>by
 unfold aa3 at q
 split at q
 ·rename_i ds eo
  split at q
  ·rename_i hz
   obtain ⟨d,e1,e2⟩:=Option.map_eq_some_iff.mp q
   subst e2
   refine Q6 (aP2 (bn2 PySem.F.plainAttrs_list PySem.F.slot_list_append PySem.F.type_list_append aL1 (aq0 hN hv hd hcd) (K9 (h ρ d e1) P4 hs) hbase hfew hline hs) hsw) fun En σ H ⟨Hf,a,ee⟩=>?_
   obtain ⟨v,h1,b,vs,rfl,h2,h3,h4,h5⟩:=a.sl.is i _ eo
   refine ⟨_,h1,.inl ⟨rfl,vs,SqL.of h2⟩,H0,Hf,a.gr.sub,a.sl,fun w H' Hf' gg r=>?_⟩
   have hb : H' b = some (.lst vs):=gg.big _ _ h2
   have hfb : Hf' b = none:=gg.nofr h2 h3
   have g2:=a.gr.trans gg
   have sl2:=a.sl.grow gg
   refine ⟨b,vs,w,rfl,rfl,hb,by rw [h5.length,sizeLine_eq]; exact hz,ee _ _ Hf' ⟨⟨fun c u z=>?_,fun c u z=>?_,g2.ext,g2.new⟩,?_⟩ gg.ext⟩
   ·rw [F5 (G4 z h4)]; exact g2.big c u z
   ·rw [F5 (G4 z hfb)]; exact g2.sub c u z
   ·refine ⟨by simpa using sl2.len,fun j bb z=>?_,fun j k ds1 es c q1 q2 q3 q4=>?_⟩
    ·by_cases qj : i = j
     ·subst qj
      have hi : i < ρ.length:=(List.getElem?_eq_some_iff.mp eo).1
      rw [List.getElem?_set_self hi] at z
      cases z
      exact ⟨_,h1,b,vs ++ [w],rfl,E5,hfb,h4,(h5.mono gg.ext).append ⟨w,[],rfl,r,rfl⟩⟩
     ·rw [List.getElem?_set_ne qj] at z
      obtain ⟨u,z1,z2⟩:=sl2.is j bb z
      refine ⟨u,z1,?_⟩
      cases bb with
      | val d=>exact z2
      | own dd =>
       obtain ⟨a',vs',y1,y2,y3,y4,y5⟩:=z2
       have ne : a' ≠ b:=fun zz=>by
        subst zz y1
        exact qj (a.sl.apart i j ds dd a' eo z h1 z1)
       exact ⟨a',vs',y1,by rw [F5 ne]; exact y2,y3,y4,y5⟩
    ·have q1' : ∃ dd,ρ[j]? = some (some (.own dd)):=by
      by_cases qj : i = j
      ·subst qj; exact ⟨ds,eo⟩
      ·rw [List.getElem?_set_ne qj] at q1; exact ⟨_,q1⟩
     have q2' : ∃ dd,ρ[k]? = some (some (.own dd)):=by
      by_cases qj : i = k
      ·subst qj; exact ⟨ds,eo⟩
      ·rw [List.getElem?_set_ne qj] at q2; exact ⟨_,q2⟩
     obtain ⟨d1,q1'⟩:=q1'
     obtain ⟨d2,q2'⟩:=q2'
     exact a.sl.apart j k d1 d2 c q1' q2' q3 q4
  ·cases q
 ·cases q
noncomputable def frz (i : Nat) (ρ : Rho) : Rho:=match ρ[i]? with
 | some (some (.own ds))=>ρ.set i (some (.val (.list ds)))
 | _=>ρ
theorem cs3 {K : PySem.W.Frag} {H0 Hf0 H Hf : Hp} {ρ : Rho} {σ : L2.St} (i : Nat) (a : At K H0 Hf0 ρ σ H Hf) : ∃ Hf',J0 Hf Hf' ∧ At K H0 Hf0 (frz i ρ) σ H Hf':=by
 unfold frz
 split
 ·rename_i ds eo
  obtain ⟨v,h1,b,vs,rfl,h2,h3,h4,h5⟩:=a.sl.is i _ eo
  have g : Grow H0 Hf0 H (upd Hf b (.lst vs)):=a.gr.freeze h2 h3 h4
  refine ⟨upd Hf b (.lst vs),G9 h3,g,⟨by simpa using a.sl.len,fun j bb z=>?_,fun j k ds1 es c q1 q2 q3 q4=>?_⟩⟩
  ·have hi : i < ρ.length:=(List.getElem?_eq_some_iff.mp eo).1
   by_cases qj : i = j
   ·subst qj
    rw [List.getElem?_set_self hi] at z
    cases z
    exact ⟨_,h1,b,vs,rfl,SqL.of E5,h5.mono (G9 h3)⟩
   ·rw [List.getElem?_set_ne qj] at z
    obtain ⟨u,z1,z2⟩:=a.sl.is j bb z
    refine ⟨u,z1,?_⟩
    cases bb with
    | val d=>exact Rep.mono (G9 h3) z2
    | own dd =>
     obtain ⟨a',vs',y1,y2,y3,y4,y5⟩:=z2
     have ne : a' ≠ b:=fun zz=>by
      subst zz y1
      exact qj (a.sl.apart i j ds dd a' eo z h1 z1)
     exact ⟨a',vs',y1,y2,by rw [F5 ne]; exact y3,y4,y5.mono (G9 h3)⟩
  ·have hi : i < ρ.length:=(List.getElem?_eq_some_iff.mp eo).1
   have qj : i ≠ j:=fun z=>by subst z; rw [List.getElem?_set_self hi] at q1; cases q1
   have qk : i ≠ k:=fun z=>by subst z; rw [List.getElem?_set_self hi] at q2; cases q2
   rw [List.getElem?_set_ne qj] at q1
   rw [List.getElem?_set_ne qk] at q2
   exact a.sl.apart j k ds1 es c q1 q2 q3 q4
 ·exact ⟨Hf,J0.refl _,a⟩
noncomputable def ax4 (i : Nat) (f : DS) : DS:=fun ρ=>f (frz i ρ)
theorem co7 (i : Nat) {st : Stmt} {f : DS} (h : JS X st f) : JS X st (ax4 i f):=fun ρ fl q H0 Hf0=>Q6 (h (frz i ρ) fl q H0 Hf0) fun En σ H ⟨Hf,a,e⟩=>by
 obtain ⟨Hf',s,a'⟩:=cs3 i a
 exact ⟨Hf',a',Fl.ends_mono e s⟩
noncomputable def cv8 (K : PySem.W.Frag) (H0 Hf0 : Hp) (f : DS) : TS:=fun En σ H=>∃ ρ fl,f ρ = some fl ∧ tJS K H0 Hf0 ρ fl En σ H
theorem bn0 {sts : List Stmt} {f : DS} {H0 Hf0 : Hp} (h : JSs X sts f) : PSs X sts (cv8 X.K H0 Hf0 f):=fun pins s σ H En I ⟨ρ,fl,e,t⟩=>h ρ fl e H0 Hf0 pins s σ H En I t
theorem cj1 {e : Expr} {c : Rho → Option Bool} (h : JT X e c) : PT X e (aK1 X.K c):=fun pins s σ H Q I ⟨ρ,b,e,t⟩=>h ρ b e pins s σ H Q I t
noncomputable def Y0 (t : Rho → Option Bool) (f : DS) : Nat → DS
 | 0=>fun _=>none
 | n + 1=>fun ρ=>(t ρ).bind fun c=>if c then (f ρ).bind fun fl=>match fl with
   | .nx ρ'=>Y0 t f n ρ'
   | .ct ρ'=>Y0 t f n ρ'
   | .bk ρ'=>some (.nx ρ')
   | .rt d=>some (.rt d)
  else some (.nx ρ)
theorem aq5 {t : Rho → Option Bool} {f : DS} : ∀ {n : Nat} {ρ : Rho} {fl : Fl},Y0 t f n ρ = some fl → Y0 t f (n + 1) ρ = some fl
 | 0,_,_,h=>by cases h
 | n + 1,ρ,fl,h=>by
  obtain ⟨c,e1,h⟩:=xbm h
  show (t ρ).bind _ = _
  rw [e1]
  cases c with
  | false=>exact h
  | true =>
   obtain ⟨fl1,e2,h⟩:=xbm h
   show (f ρ).bind _ = _
   rw [e2]
   cases fl1 with
   | nx ρ'=>exact aq5 (n:=n) h
   | ct ρ'=>exact aq5 (n:=n) h
   | bk ρ'=>exact h
   | rt d=>exact h
theorem aY9 {t : Rho → Option Bool} {f : DS} {n m : Nat} {ρ : Rho} {fl : Fl} (h : Y0 t f n ρ = some fl) (l : n ≤ m) : Y0 t f m ρ = some fl:=by
 induction l with
 | refl=>exact h
 | step _ ih=>exact aq5 ih
open Classical in
noncomputable def ad3 (t : Rho → Option Bool) (f : DS) : DS:=fun ρ=>if h : ∃ fl n,Y0 t f n ρ = some fl then some h.choose else none
theorem aK8 {t : Rho → Option Bool} {f : DS} {n : Nat} {ρ : Rho} {fl : Fl} (h : Y0 t f n ρ = some fl) : ad3 t f ρ = some fl:=by
 have hx : ∃ fl n,Y0 t f n ρ = some fl:=⟨fl,n,h⟩
 unfold ad3
 rw [dif_pos hx]
 obtain ⟨m,hm⟩:=hx.choose_spec
 have h1:=aY9 h (Nat.le_max_left n m)
 have h2:=aY9 hm (Nat.le_max_right n m)
 rw [h1] at h2
 exact h2.symm
theorem bs1 {t : Rho → Option Bool} {f : DS} {ρ : Rho} {fl : Fl} (h : ad3 t f ρ = some fl) : ∃ n,Y0 t f n ρ = some fl:=by
 unfold ad3 at h
 split at h
 ·rename_i hx
  cases h
  exact hx.choose_spec
 ·cases h
theorem bG7 {c : Expr} {body : List Stmt} {t : Rho → Option Bool} {f : DS} {pos : Pos} (hc : JT X c t) (hb : JSs X body f) (hp : PassesOwn (model X.prog X.w) X.A X.env X.xe:=by exact PassesOwn.never) : JS X (.While c body [] pos) (ad3 t f):=fun ρ fl q H0 Hf0=>by
 obtain ⟨n,hn⟩:=bs1 q
 refine Q6 (bC5 hp (cj1 hc) (bn0 (H0:=H0) (Hf0:=Hf0) hb)) fun En σ H ⟨Hf,a,e⟩=>?_
 refine ⟨fun m σ H=>∃ Hf' ρ',At X.K H0 Hf0 ρ' σ H Hf' ∧ J0 Hf Hf' ∧ Y0 t f m ρ' = some fl,⟨n,Hf,ρ,a,J0.refl _,hn⟩,?_⟩
 rintro m σ' H' ⟨Hf',ρ',a',s',hm⟩
 cases m with
 | zero=>cases hm
 | succ m =>
  obtain ⟨b,e1,hm⟩:=xbm hm
  refine ⟨ρ',b,e1,H0,Hf',a'.gr.sub,a'.sl,fun H2 Hf2 g2=>?_⟩
  have a2:=a'.grow g2
  have s2:=s'.trans g2.ext
  cases b with
  | false =>
   have : fl = .nx ρ':=by simpa using hm.symm
   subst this
   exact aI7 (e σ' H2 Hf2 a2 s2)
  | true =>
   obtain ⟨fl1,e2,hm⟩:=xbm (show (f ρ').bind _ = some fl from hm)
   refine aI6 ⟨fun σ3 H3=>∃ m',m' < m + 1 ∧ ∃ Hf' ρ',At X.K H0 Hf0 ρ' σ3 H3 Hf' ∧ J0 Hf Hf' ∧ Y0 t f m' ρ' = some fl,fun σ3 H3 z=>z,ρ',fl1,e2,Hf2,a2,?_⟩
   cases fl1 with
   | nx ρ3=>exact fun σ3 H3 Hf3 a3 s3=>⟨m,Nat.lt_succ_self _,Hf3,ρ3,a3,s2.trans s3,hm⟩
   | ct ρ3=>exact fun σ3 H3 Hf3 a3 s3=>⟨m,Nat.lt_succ_self _,Hf3,ρ3,a3,s2.trans s3,hm⟩
   | bk ρ3 =>
    cases hm
    exact fun σ3 H3 Hf3 a3 s3=>e σ3 H3 Hf3 a3 (s2.trans s3)
   | rt d =>
    cases hm
    exact e
noncomputable def an8 (g : D → Rho → Option Rho) (f : DS) : List D → DS
 | []=>fun ρ=>some (.nx ρ)
 | d :: ds=>fun ρ=>(g d ρ).bind fun ρ1=>(f ρ1).bind fun fl=>match fl with
   | .nx ρ'=>an8 g f ds ρ'
   | .ct ρ'=>an8 g f ds ρ'
   | .bk ρ'=>some (.nx ρ')
   | .rt d=>some (.rt d)
noncomputable def aa2 (src : Rho → Option (List D)) (g : D → Rho → Option Rho) (f : DS) : DS:=fun ρ=>(src ρ).bind fun ds=>an8 g f ds ρ
theorem co8 {tg iter : Expr} {body : List Stmt} {src : Rho → Option (List D)} {g : D → Rho → Option Rho} {f : DS} {pos : Pos} (hi : JI X tg iter src) (hg : JG X tg g) (hb : JSs X body f) (hp : PassesOwn (model X.prog X.w) X.A X.env X.xe:=by exact PassesOwn.never) (hc : X.calm = true:=by rfl)
  (hs : ∀ x,foldedSetIterable iter X.env x = pure x:=by intro _; rfl) : JS X (.For tg iter body [] pos) (aa2 src g f):=fun ρ fl q H0 Hf0=>by
 obtain ⟨ds,e1,e2⟩:=xbm q
 refine Q6 (cj4 hp hc (hi ρ ds e1) hg (bn0 (H0:=H0) (Hf0:=Hf0) hb) hs) fun En σ H ⟨Hf,a,e⟩=>⟨H0,Hf,a.gr.sub,a.sl,fun J H1 Hf1 g1 Y=>?_⟩
 refine ⟨fun i m σ H=>m = ds.length - i ∧ i ≤ ds.length ∧ ∃ Hf' ρ',At X.K H0 Hf0 ρ' σ H Hf' ∧ J0 Hf1 Hf' ∧ an8 g f (ds.drop i) ρ' = some fl,⟨ds.length,by simp,Nat.zero_le _,Hf1,ρ,a.grow g1,J0.refl _,by simpa using e2⟩,?_⟩
 rintro i m σ' H' ⟨rfl,hi,Hf',ρ',a',s',hm⟩
 obtain ⟨Ys,Yg⟩:=Y i H' Hf' s' a'.gr.sub
 rcases Nat.lt_or_ge i ds.length with hlt | hge
 ·right
  obtain ⟨go,yl⟩:=Yg ds[i] (by simp [hlt])
  rw [List.drop_eq_getElem_cons hlt] at hm
  obtain ⟨ρ1,c1,hm⟩:=xbm hm
  obtain ⟨fl1,c2,hm⟩:=xbm hm
  refine ⟨go,fun σ3 H3=>∃ m',m' < ds.length - i ∧ m' = ds.length - (i + 1) ∧ i + 1 ≤ ds.length ∧ ∃ Hf' ρ',At X.K H0 Hf0 ρ' σ3 H3 Hf' ∧ J0 Hf1 Hf' ∧ an8 g f (ds.drop (i + 1)) ρ' = some fl,fun σ3 H3 ⟨m',z1,z2⟩=>⟨m',z1,z2⟩,fun x H2 hy=>?_⟩
  obtain ⟨Hf2,g2,r2⟩:=yl x H2 hy
  have a2:=a'.grow g2
  refine ⟨ds[i],ρ',ρ1,H0,Hf2,c1,g2.sub,a2.sl,r2,fun σ3 sl3=>⟨ρ1,fl1,c2,Hf2,⟨a2.gr,sl3⟩,?_⟩⟩
  have s2:=s'.trans g2.ext
  cases fl1 with
  | nx ρ3=>exact fun σ3 H3 Hf3 a3 s3=>⟨_,by omega,rfl,hlt,Hf3,ρ3,a3,s2.trans s3,hm⟩
  | ct ρ3=>exact fun σ3 H3 Hf3 a3 s3=>⟨_,by omega,rfl,hlt,Hf3,ρ3,a3,s2.trans s3,hm⟩
  | bk ρ3 =>
   cases hm
   exact fun σ3 H3 Hf3 a3 s3=>e σ3 H3 Hf3 a3 (g1.ext.trans (s2.trans s3))
  | rt d =>
   cases hm
   exact e
 ·left
  have : i = ds.length:=by omega
  subst this
  rw [List.drop_length] at hm
  cases hm
  exact ⟨Ys (Nat.le_refl _),e σ' H' Hf' a' (g1.ext.trans s')⟩
theorem bU7 {pos : Pos} : JS X (.Pass pos) C0:=fun ρ fl q H0 Hf0=>by
 cases q
 exact Q6 bQ4 fun En σ H ⟨Hf,a,e⟩=>e σ H Hf a (J0.refl _)
theorem cp0 {pos : Pos} : JS X (.Break pos) (fun ρ=>some (.bk ρ)):=fun ρ fl q H0 Hf0=>by
 cases q
 exact Q6 bC7 fun En σ H ⟨Hf,a,e⟩=>e σ H Hf a (J0.refl _)
end
noncomputable def av3 (n : Nat) (ds : List D) : Rho:=ds.map (fun d=>some (B.val d)) ++ List.replicate (n - ds.length) none
noncomputable def E9 (g : DS) (n : Nat) : List D → Option D:=fun ds=>(g (av3 n ds)).bind fun fl=>match fl with
 | .rt d=>some d
 | .nx _=>some .none
 | _=>none
theorem aU9 {K : PySem.W.Frag} {H0 H Hf : Hp} {N : List Str} {ds : List D} {vs : List V} (r : Reps K Hf ds vs) : Slots K H0 (av3 N.length ds) (L2.aa6 N vs) H Hf:=by
 have hl:=r.length
 have noown : ∀ (i : Nat) (b : B),(av3 N.length ds)[i]? = some (some b) → ∃ d,ds[i]? = some d ∧ b = .val d:=fun i b h=>by
  unfold av3 at h
  rcases Nat.lt_or_ge i ds.length with q | q
  ·rw [List.getElem?_append_left (by simpa using q),List.getElem?_map] at h
   rw [List.getElem?_eq_getElem q] at h ⊢
   simp only [Option.map_some,Option.some.injEq] at h
   exact ⟨ds[i],rfl,h.symm⟩
  ·rw [List.getElem?_append_right (by simpa using q),List.getElem?_replicate] at h
   split at h <;> cases h
 refine ⟨by simp [av3,L2.aa6,hl],fun i b e=>?_,fun i j d1 d2 a e1 _ _ _=>?_⟩
 ·obtain ⟨d,h1,h2⟩:=noown i b e
  subst h2
  obtain ⟨v,h3,h4⟩:=r.get h1
  refine ⟨v,?_,h4⟩
  have hi : i < vs.length:=(List.getElem?_eq_some_iff.mp h3).1
  unfold L2.aa6
  rw [List.getElem?_append_left (by simpa using hi),List.getElem?_map,h3]; rfl
 ·obtain ⟨d,_,h2⟩:=noown i _ e1
  cases h2
theorem bW8 {P : Program} {w : World} {K : PySem.W.Frag} {mg : Str → Option Value} {base : Heap} {x qual : Str} {st : Stmt} {f : Addr} {fd : FuncData} {N ps : List Str} {k : Nat} {g : DS} (F : Fun K x qual st f fd) (S : FnScope N ps (J7 st))
  (hb : ∀ (cdv : Value) (A : Around) (outer : List Env) (s : Shared) (H : Hp) (E : XK),Room k (A.deeper (envOfC qual (J7 st) s.heap.objs.size f cdv)) → JSs (bj2 CX0 P w K mg base N qual (J7 st) f cdv A outer s H E).nox (U2 st) g) :
  FnOk P w K mg base CX0 (k + 1) f fd ps (spF K ps.length (E9 g N.length)):=by
 refine F.ok S (fun vs H Q E h=>h.1) fun cdv A outer s H vs Q E hr hsp=>?_
 obtain ⟨hlen,Hf,ds,d,ss,rp,e,kk⟩:=hsp
 obtain ⟨fl,e1,e2⟩:=xbm e
 refine ⟨_,hb cdv A outer s H E hr _ fl e1 H Hf,Hf,⟨Grow.refl ss,aU9 rp⟩,?_⟩
 cases fl with
 | rt d'=>cases e2; exact fun v H' Hf' g r=>kk v H' Hf' g r
 | nx ρ=>cases e2; exact fun σ' H' Hf' a _=>kk _ H' Hf' a.gr rfl
 | bk ρ=>cases e2
 | ct ρ=>cases e2
end G
namespace G
open PySem PySem.Spec PyProof.Rows L2
section
variable {prog : Program} {w : World} {A : Around} {E : Value → Shared → Prop} {s : Shared} {t t1 t2 : Bool}
end
end G
namespace G
open PySem PySem.Spec PyProof.Rows L2
section
variable {prog : Program} {w : World} {A : Around} {E : Value → Shared → Prop} {s : Shared} {t1 t2 : Bool}
end
end G
namespace G
open PySem PySem.Spec PyProof.Rows L2
section
variable {X : Cx}
noncomputable def aF7 (f g : Rho → Option (Bool × List D)) : Rho → Option (List D):=fun ρ=>(f ρ).bind fun p=>(g ρ).bind fun q=>some ((p.2.zip q.2).map fun (x,y)=>PyData.tuple [x,y])
end
end G
namespace G
open PySem PySem.Spec PyProof.Rows L2
theorem az5 : fillsNumberSlot (.type "tuple") "mul" = pure false:=PySem.fillsNumberSlot_seq (id := "tuple.__mul__") (r:=some (.builtin "tuple.__rmul__")) F.slot_tuple_mul.lookup (by decide +kernel) F.slot_tuple_rmul.lookup (by decide +kernel)
theorem aK9 : seqRepeat? (.type "tuple") = pure (some (.builtin "tuple.__mul__")):=by
 unfold seqRepeat?
 rw [PySem.seqSlot_of (T := "tuple") (name := "__mul__") (id := "tuple.__mul__") F.slot_tuple_mul.lookup (by decide +kernel),PySem.seqSlot_of (T := "tuple") (name := "__rmul__") (id := "tuple.__rmul__") F.slot_tuple_rmul.lookup (by decide +kernel)]; rfl
theorem as4 (a : Int) (t : Tok) (l : Addr) (items : Array Value) (n : Nat) (dd : Option Addr) (sl : Array (Option Value)) :
  Meets (Builtin.«int.__rmul__» ⟨[.int a t,.ref l],[]⟩) (fun _ R s=>s.heap.get? l = some ⟨.type "tuple", dd,.seq items n,sl⟩ ∧ R (.ok (.ret Value.notImplemented)) s) :=
 .of_wp fun prog w A R s h=>by obtain ⟨hp,g,d,tk,os⟩:=s; obtain ⟨hl,h⟩:=h; wp_walk; exact ⟨_,rfl,h⟩
theorem bf2 (items : Array Value) (k : Nat) : List.foldl (fun x1 x2=>x1 ++ x2) #[] (List.replicate k items) = (List.replicate k items.toList).flatten.toArray:=by
 have:=aM0 items.toList k []
 rw [List.nil_append] at this
 simpa using this
theorem aY1 (l : Addr) (items : Array Value) (n : Nat) (dd : Option Addr) (sl : Array (Option Value)) (x : Int) (u : Tok) (h2 : 2 ≤ x) (h3 : x < 1000000) (he : items.isEmpty = false) (hz : items.size * x.toNat ≤ sizeLine) :
  Meets (Builtin.«tuple.__mul__» ⟨[.ref l,.int x u],[]⟩) (fun _ R s=>s.heap.get? l = some ⟨.type "tuple", dd,.seq items n,sl⟩ ∧ R (.ok (.ret (Value.ref s.heap.objs.size))) { s with heap:=s.heap.push { cls:=Value.type "tuple", data:=Data.seq (List.foldl (fun x1 x2=>x1 ++ x2) #[] (List.replicate x.toNat items)) } }) :=
 .of_wp fun prog w A R s h=>by
  obtain ⟨hp,g,d,tk,os⟩:=s
  obtain ⟨hl,h⟩:=h
  have hm : (items.size : Int) * x ≤ 16777216:=by
   have e : ((items.size * x.toNat : Nat) : Int) = (items.size : Int) * x:=by rw [Int.natCast_mul,Int.toNat_of_nonneg (by omega)]
   have : items.size * x.toNat ≤ 16777216:=by rw [← sizeLine_eq]; exact hz
   omega
  wp_walk
  refine wpAny_ite_false (by simp; omega) ?_
  have ht : Heap.IsTuple (Shared.heap ⟨hp,g,d,tk,os⟩) l items:=⟨_,hl,rfl,n,rfl⟩
  refine wpAny_bind (tupleItemsOf_ ht ?_)
  refine wpAny_ite_false (by rw [he]; simp; omega) ?_
  show wpAny _ _ (if (decide (x ≤ 0) || items.isEmpty) = true then _ else _) _ _ _
  refine wpAny_ite_false (by rw [he]; simp; omega) ?_
  show wpAny _ _ (if (items.size : Int) * x > (2 ^ 63 - 1) / 8 then _ else _) _ _ _
  rw [if_neg (by omega)]
  show wpAny _ _ (if Builtin.Tuple.tupleTooMany ((items.size : Int) * x) = true then _ else _) _ _ _
  rw [if_neg (by unfold Builtin.Tuple.tupleTooMany; rw [sizeLine_eq]; simp; omega)]
  refine wpAny_bind (m:=Builtin.Tuple.tupleExact _) (wpAny_newObj_type (wpAny_pure ⟨_,rfl,h⟩) ?_)
  show (List.foldl (fun x1 x2=>x1 ++ x2) #[] (List.replicate x.toNat items)).size ≤ sizeLine
  rw [bf2 items x.toNat,List.size_toArray,aQ6,Array.length_toList,Nat.mul_comm]
  exact hz
section
variable {X : Cx}
theorem bR6 : OpR X (binaryOp .Mult) (fun x y H Q=>∃ l k xs,x = .ref l ∧ y = .int k ∧ SqT X.K H l xs ∧ xs ≠ [] ∧ 2 ≤ k ∧ k < 1000000 ∧ xs.length * k.toNat ≤ sizeLine ∧ ∀ p,H p = none → Q (.ref p) (upd H p (.tup (List.replicate k.toNat xs).flatten))):=by
 intro pins s σ H x y v u Q I rx ry h
 obtain ⟨l,k,xs,rfl,rfl,hq,hx,h2,h3,hz,q⟩:=h
 cases rx
 obtain ⟨t,rfl⟩:=ry
 obtain ⟨its,r,p1,_⟩:=I.tuple hq
 obtain ⟨⟨cls,dd,data,sl⟩,ho,hc,n,hd⟩:=id p1
 simp only at hc hd
 subst hc hd
 have hl:=r.length
 have he : its.toArray.isEmpty = false:=by
  cases its with
  | nil=>exact absurd (r.nil_iff.mp rfl) hx
  | cons a b=>rfl
 refine wpAny_binaryOp_repeat_ref (T := "tuple") (U := "int") (by decide) ⟨_,ho,rfl⟩ (fun s'=>typeIs_int s' k t) az5 F.fills_int_mul F.slot_int_rmul aK9 F.slot_int_index.lookup
  (call_meets F.slot_int_rmul (typeIs_int s k t) F.entry_int_rmul (F.args_int_rmul_2 _ _) (as4 k t l its.toArray n dd sl) ⟨ho,rfl,⟨_,ho,rfl⟩,
   call_meets F.slot_tuple_mul ⟨_,ho,rfl⟩ F.entry_tuple_mul (F.args_tuple_mul_2 _ _) (aY1 l its.toArray n dd sl k t h2 h3 he (by rw [List.size_toArray,← hl]; exact hz)) ⟨ho,?_⟩⟩)
 rw [bf2]
 refine ⟨.ref _,_,I.laid (t':=s.toks) (o:=.tup (List.replicate k.toNat xs).flatten) (fun b ob q=>Heap.get?_push_of_some _ q) (Nat.le_refl _) ⟨?_,_,r.rep k.toNat,aH2.new _ _⟩,rfl,q _ (I.hok.fresh (Nat.le_refl _))⟩
 rw [aQ6,Nat.mul_comm]; exact hz
noncomputable def f7 (x y : D) : Option D:=match x,y with
 | .int i,.int j=>if G7 i ∧ G7 j then some (.int (i * j)) else none
 | .tuple xs,.int k=>if xs.isEmpty = false ∧ 2 ≤ k ∧ k < 1000000 ∧ xs.length * k.toNat ≤ 16777216 then some (.tuple (List.replicate k.toNat xs).flatten) else none
 | _,_=>none
theorem aP5 : OpD X (binaryOp .Mult) f7:=fun x y z h=>by
 unfold f7 at h
 split at h
 ·exact cl6 _ _ z (by unfold cm7; exact h)
 ·split at h
  ·rename_i xs k c
   cases h
   refine OpR.imp bR6 fun vx vy H Q ⟨Hf,s,r1,r2,kk⟩=>?_
   obtain ⟨a,vs,rfl,h2,h3⟩:=r1
   refine ⟨a,k,vs,rfl,r2,F0 s h2,?_,c.2.1,c.2.2.1,by rw [h3.length,sizeLine_eq]; exact c.2.2.2,fun p hp=>?_⟩
   ·intro e
    subst e
    have:=h3.length
    cases xs with
    | nil=>exact absurd c.1 (by simp)
    | cons a b=>simp at this
   ·exact kk _ _ _ (Grow.laid s hp) ⟨p,_,rfl,SqT.of E5,(h3.flatten k.toNat).mono (G9 (s.free hp))⟩
  ·cases h
 ·cases h
noncomputable def R8 (f : DE) : DE:=fun ρ=>(f ρ).bind fun d=>match d with
 | .int i=>some (.int (-i))
 | _=>none
theorem bH7 {a : Expr} {f : DE} {pos : Pos} (h : JE X a f) : JE X (.UnaryOp .USub a pos) (R8 f):=fun ρ d q=>by
 obtain ⟨x,e1,e2⟩:=xbm q
 cases x with
 | int i =>
  cases e2
  exact D8 (cx9 cb9 (h ρ _ e1)) fun σ H Q ⟨H0,Hf,s,sl,k⟩=>⟨H0,Hf,s,sl,fun v H1 Hf1 g1 r1=>⟨_,r1,k _ H1 Hf1 g1 rfl⟩⟩
 | _=>cases e2
noncomputable def isB (x y : D) : Option D:=match y with
 | .bool b=>(match x with
  | .bool c=>some (.bool (c == b))
  | .dict _=>none
  | _=>some (.bool false))
 | .none=>isN x .none
 | _=>none
noncomputable def bT0 (x y : D) : Option D:=match y with
 | .bool b=>(match x with
  | .bool c=>some (.bool (!(c == b)))
  | .dict _=>none
  | _=>some (.bool true))
 | .none=>cm1 x .none
 | _=>none
theorem cz0 : OpD X (compareOp .Is) isB:=fun x y z h=>by
 cases y with
 | none=>exact cl8 x .none z h
 | bool b =>
  intro pins s σ H vx vy v u Q I rx ry ⟨Hf,ss,r1,r2,k⟩
  cases r2
  cases ry
  have fin : ∀ c,z = .bool c → (v == Value.bool b) = c → EP X pins σ Q (.bool (v == Value.bool b)) s:=fun c e1 e2=>by
   rw [e2]; subst e1; exact ⟨.bl c,H,I,rfl,k _ H Hf (Grow.refl ss) rfl⟩
  cases x with
  | none=>cases r1; cases rx; cases h; exact wpAny_is_plain rfl (fin _ rfl rfl)
  | bool c=>cases r1; cases rx; cases h; exact wpAny_is_plain rfl (fin _ rfl (by cases c <;> cases b <;> rfl))
  | int i=>cases r1; obtain ⟨t,rfl⟩:=rx; cases h; exact wpAny_is_plain rfl (fin _ rfl rfl)
  | str i=>cases r1; obtain ⟨t,rfl⟩:=rx; cases h; exact wpAny_is_plain rfl (fin _ rfl rfl)
  | tuple ds=>obtain ⟨a,vs,rfl,_⟩:=r1; cases rx; cases h; exact wpAny_is_plain rfl (fin _ rfl rfl)
  | list ds=>obtain ⟨a,vs,rfl,_⟩:=r1; cases rx; cases h; exact wpAny_is_plain rfl (fin _ rfl rfl)
  | dict ds=>cases h
 | _=>cases h
theorem bD9 : OpD X (compareOp .IsNot) bT0:=fun x y z h=>by
 cases y with
 | none=>exact bS4 x .none z h
 | bool b =>
  intro pins s σ H vx vy v u Q I rx ry ⟨Hf,ss,r1,r2,k⟩
  cases r2
  cases ry
  have fin : ∀ c,z = .bool c → (!(v == Value.bool b)) = c → EP X pins σ Q (.bool (!(v == Value.bool b))) s:=fun c e1 e2=>by
   rw [e2]; subst e1; exact ⟨.bl c,H,I,rfl,k _ H Hf (Grow.refl ss) rfl⟩
  cases x with
  | none=>cases r1; cases rx; cases h; exact wpAny_isNot_plain rfl (fin _ rfl rfl)
  | bool c=>cases r1; cases rx; cases h; exact wpAny_isNot_plain rfl (fin _ rfl (by cases c <;> cases b <;> rfl))
  | int i=>cases r1; obtain ⟨t,rfl⟩:=rx; cases h; exact wpAny_isNot_plain rfl (fin _ rfl rfl)
  | str i=>cases r1; obtain ⟨t,rfl⟩:=rx; cases h; exact wpAny_isNot_plain rfl (fin _ rfl rfl)
  | tuple ds=>obtain ⟨a,vs,rfl,_⟩:=r1; cases rx; cases h; exact wpAny_isNot_plain rfl (fin _ rfl rfl)
  | list ds=>obtain ⟨a,vs,rfl,_⟩:=r1; cases rx; cases h; exact wpAny_isNot_plain rfl (fin _ rfl rfl)
  | dict ds=>cases h
 | _=>cases h
noncomputable def bd6 (K : PySem.W.Frag) (d : D) (u : Value) : Prop:=∃ v,K8 v u ∧ ∀ H : Hp,Rep K H d v
theorem cr1 {x : Str} {d : D} {u : Value} {pos : Pos} (r : bd6 X.K d u) (hg : Gl X x) (hm : X.mg x = some u) (hd : (x == ("__debug__" : Str)) = false:=by decide) : JE X (.Name x pos) (dC d):=fun ρ d' q=>by
 cases q
 obtain ⟨v,rv,rp⟩:=r
 exact D8 (bR1 hg hm rv hd) fun σ H Q ⟨H0,Hf,s,sl,k⟩=>k _ H Hf (Grow.refl s) (rp Hf)
noncomputable def qN (f : Rho → Option (List D)) : Rho → Option (Bool × List D):=fun ρ=>(f ρ).map fun ds=>(false,ds)
theorem cp3 {e : Expr} {f : Rho → Option (List D)} (h : JN X e f) : JQ X e (qN f):=bH0 h
noncomputable def N9 (f : Rho → Option (Bool × List D)) : DE:=fun ρ=>(f ρ).bind fun q=>if q.1 = true then none else some (.tuple q.2)
theorem bV8 {e : Expr} {f : Rho → Option (Bool × List D)} {p pos : Pos} (hg : Gl X "tuple") (hm : X.mg "tuple" = none) (h : JQ X e f) (he : starEach [e] X.env = [(false,eval e X.env)]:=by rfl) : JE X (.Call (.Name "tuple" p) [e] [] pos) (N9 f):=bH4 hg hm h (he:=he)
end
end G
namespace G
open PySem PySem.Spec PyProof.Rows L2
theorem bz6 (l b : Addr) (items items2 : Array Value) (n n2 : Nat) (dd dd2 : Option Addr) (sl sl2 : Array (Option Value)) (hz : items.size + items2.size ≤ sizeLine) :
  Meets (Builtin.«list.__add__» ⟨[.ref l,.ref b],[]⟩) (fun _ R s=>s.heap.get? l = some ⟨.type "list", dd,.seq items n,sl⟩ ∧ s.heap.get? b = some ⟨.type "list", dd2,.seq items2 n2,sl2⟩ ∧ R (.ok (.ret (Value.ref s.heap.objs.size))) { s with heap:=s.heap.push { cls:=Value.type "list", data:=Data.seq (items ++ items2) } }) :=
 .of_wp fun prog w A R s h=>by
  obtain ⟨hp,g,d,tk,os⟩:=s
  obtain ⟨hl,hb,h⟩:=h
  have hsub : isSubtype (.type "list") (.type "list") = pure true:=by rw [isSubtype_type]; kernel_rfl
  have hsz:=hz
  wp_walk
  exact ⟨_,rfl,h⟩
section
variable {X : Cx}
theorem bn5 : OpR X (binaryOp .Add) (fun x y H Q=>∃ a b xs ys,x = .ref a ∧ y = .ref b ∧ SqL X.K H a xs ∧ SqL X.K H b ys ∧ xs.length + ys.length ≤ sizeLine ∧ ∀ p,H p = none → Q (.ref p) (upd H p (.lst (xs ++ ys)))):=by
 intro pins s σ H x y v u Q I rx ry h
 obtain ⟨a,b,xs,ys,rfl,rfl,ha,hb,hz,q⟩:=h
 cases rx
 cases ry
 obtain ⟨its,r1,p1,_⟩:=I.list ha
 obtain ⟨its2,r2,p2,_⟩:=I.list hb
 obtain ⟨⟨cls,dd,data,sl⟩,ho,hc,n,hd⟩:=p1.isList
 obtain ⟨⟨cls2,dd2,data2,sl2⟩,ho2,hc2,n2,hd2⟩:=p2.isList
 simp only at hc hd hc2 hd2
 subst hc hd hc2 hd2
 have l1:=r1.length
 have l2:=r2.length
 refine concat_meets ⟨_,ho,rfl⟩ ⟨_,ho2,rfl⟩ noFill_list_add seq_list_add PySem.F.slot_list_add PySem.F.entry_list_add (PySem.F.args_list_add_2 _ _) (bz6 a b its.toArray its2.toArray n n2 dd dd2 sl sl2 (by simp only [List.size_toArray]; omega)) ⟨ho,ho2,?_⟩
 have ea : its.toArray ++ its2.toArray = (its ++ its2).toArray:=by simp
 rw [ea]
 exact ⟨.ref _,_,I.lnew (t':=s.toks) (r1.append r2) (by rw [List.length_append]; omega),rfl,q _ I.fresh⟩
noncomputable def C1 (x y : D) : Option D:=match x,y with
 | .list xs,.list ys=>if xs.length + ys.length ≤ 16777216 then some (.list (xs ++ ys)) else none
 | x,y=>V2 x y
theorem bS6 : OpD X (binaryOp .Add) C1:=fun x y z h=>by
 unfold C1 at h
 split at h
 ·split at h
  ·rename_i c
   cases h
   refine OpR.imp bn5 fun vx vy H Q ⟨Hf,s,r1,r2,k⟩=>?_
   obtain ⟨a,vs,rfl,h2,h3⟩:=r1
   obtain ⟨b,us,rfl,h5,h6⟩:=r2
   refine ⟨a,b,vs,us,rfl,rfl,L4 s h2,L4 s h5,by rw [h3.length,h6.length,sizeLine_eq]; exact c,fun p hp=>?_⟩
   exact k _ _ _ (Grow.laid s hp) ⟨p,vs ++ us,rfl,SqL.of E5,(h3.append h6).mono (G9 (s.free hp))⟩
  ·cases h
 ·exact bE0 _ _ z h
noncomputable def bp1 (f : DE) : DE:=fun ρ=>(f ρ).bind fun d=>match d with
 | .tuple xs=>some (.tuple xs.reverse)
 | _=>none
end
end G
namespace G
theorem xg0 {α : Type} {a : α} {l : List α} : (a :: l)[0]? = some a:=rfl
theorem xg1 {α : Type} {a : α} {i : Nat} {l : List α} : (a :: l)[i + 1]? = l[i]?:=rfl
theorem xw0 {α : Type} {a b : α} {l : List α} : (a :: l).set 0 b = b :: l:=rfl
theorem xw1 {α : Type} {a b : α} {i : Nat} {l : List α} : (a :: l).set (i + 1) b = a :: l.set i b:=rfl
theorem xbs {α β : Type} {a : α} {f : α → Option β} : (some a).bind f = f a:=rfl
theorem xms {α β : Type} {a : α} {f : α → β} : (some a).map f = some (f a):=rfl
theorem xca {α : Type} {a : α} {l m : List α} : (a :: l) ++ m = a :: (l ++ m):=rfl
theorem xna {α : Type} {l : List α} : [] ++ l = l:=rfl
theorem xmc {α β : Type} {f : α → β} {a : α} {l : List α} : (a :: l).map f = f a :: l.map f:=rfl
theorem xmn {α β : Type} {f : α → β} : [].map f = []:=rfl
theorem xnf : (!false) = true:=rfl
theorem xnt : (!true) = false:=rfl
theorem xft : (false = true) = False:=by simp
end G
local macro_rules
  | `(‹$x›)=>`(some (G.B.val $x))
noncomputable section
namespace Sh
open PySem PySem.Spec PyProof.Rows L2 G
def az3 : DS:=(B3 (ad3 (tB2 neD (A6 1) (dC (.int 0))) (B3 (D0 2 (A9 Q8 (A6 0) (A6 1))) (B3 (D0 0 (A6 1)) (D0 1 (A6 2))))) (B4 (A6 0)))
def M0 : List D → Option D:=E9 az3 3
def j4 : DS:=(B3 (D0 2 (A8 M0 (A5 (A6 0) (A5 (A6 1) A7)))) (B4 (D2 (A5 (A9 V7 (A6 0) (A6 2)) (A5 (A9 V7 (A6 1) (A6 2)) A7)))))
def av0 : List D → Option D:=E9 j4 3
def j5 : DS:=(B4 (A9 leI (A9 f7 (dIx (B0 0) (dC (.int 0))) (dIx (B0 1) (dC (.int 1)))) (A9 f7 (dIx (B0 1) (dC (.int 0))) (dIx (B0 0) (dC (.int 1))))))
def j6 : List D → Option D:=E9 j5 2
def aC2 : DS:=(B4 (A8 av0 (A5 (A9 f7 (dIx (B0 0) (dC (.int 0))) (dIx (B0 1) (dC (.int 0)))) (A5 (A9 f7 (dIx (B0 0) (dC (.int 1))) (dIx (B0 1) (dC (.int 1)))) A7))))
def bY9 : List D → Option D:=E9 aC2 2
def aH5 : DS:=(B3 (sIf (tB2 eqD (A6 0) (D6 A7)) (B4 (A9 f7 (dC (.int 7)) (A6 1))) C0) (B4 (A9 V2 (dIx (B0 0) (A9 Q8 (A6 1) (D4 (B0 0)))) (A9 f7 (dC (.int 6553)) (A9 V7 (A6 1) (D4 (B0 0)))))))
def av2 : List D → Option D:=E9 aH5 2
def aN8 : DS:=(B3 (D0 3 (A9 Q8 (A9 V2 (A9 f7 (A9 Q8 (A8 av2 (A5 (A6 0) (A5 (A6 1) A7))) (dC (.int 2147483563))) (dC (.int 69069))) (A9 f7 (dC (.int 104723)) (A9 V2 (A6 1) (dC (.int 1))))) (dC (.int 2147483563)))) (B3 (D0 3 (A9 Q8 (A9 V2 (A9 f7 (A6 3) (A6 3)) (A9 V7 (A6 3) (dC (.int 3)))) (dC (.int 2147483399)))) (B4 (A9 Q8 (A9 V7 (A9 Q8 (A9 V2 (A9 f7 (A6 3) (A6 3)) (A9 V7 (A6 3) (dC (.int 7)))) (dC (.int 2147483647))) (dC (.int 11))) (A6 2)))))
def B5 : List D → Option D:=E9 aN8 4
def au8 : DS:=(B3 (D0 2 (A6 0)) (B3 (D0 3 (A6 1)) (B3 (ad3 (tB2 gtI (A6 2) (dC (.int 0))) (bB6 2 3 (A5 (A9 Q8 (A6 3) (A6 2)) (A5 (A6 2) A7)))) (B4 (D2 (A5 (A9 V7 (A6 0) (A6 3)) (A5 (A9 V7 (A6 1) (A6 3)) A7)))))))
def p7 : List D → Option D:=E9 au8 4
def aN4 : DS:=(B4 (A8 p7 (A5 (A9 f7 (dIx (B0 0) (dC (.int 0))) (dIx (B0 1) (dC (.int 0)))) (A5 (A9 f7 (dIx (B0 0) (dC (.int 1))) (dIx (B0 1) (dC (.int 1)))) A7))))
def an1 : List D → Option D:=E9 aN4 2
def aN5 : DS:=(B3 (D0 2 (A9 V2 (dC (.int 1)) (A8 B5 (A5 (A6 0) (A5 (A6 1) (A5 (dC (.int 12)) A7)))))) (B3 (D0 3 (A8 p7 (A5 (A8 B5 (A5 (A6 0) (A5 (A9 V2 (A6 1) (dC (.int 1))) (A5 (A9 V2 (A6 2) (dC (.int 1))) A7)))) (A5 (A6 2) A7)))) (B4 (dIx (qN (A5 (A6 3) (A5 (A6 3) (A5 (A6 3) (A5 (D2 (A5 (dC (.int 0)) (A5 (dC (.int 1)) A7))) (A5 (D2 (A5 (dC (.int 1)) (A5 (dC (.int 1)) A7))) A7)))))) (A8 B5 (A5 (A6 0) (A5 (A9 V2 (A6 1) (dC (.int 2))) (A5 (dC (.int 5)) A7))))))))
def L0 : List D → Option D:=E9 aN5 4
def bd7 : DS:=(B3 (D0 2 (A8 L0 (A5 (A6 0) (A5 (A6 1) A7)))) (B4 (A9 V2 (D2 (A5 (A6 2) A7)) (N9 (qN (C8 1 [2,0,1] (K4 (dC (.int 3))) (C7 0) G1 (A8 an1 (A5 (A6 1) (A5 (A8 L0 (A5 (A6 2) (A5 (A9 V2 (A9 V2 (A6 3) (dC (.int 3))) (A9 f7 (dC (.int 3)) (A6 0))) A7))) A7)))))))))
def W0 : List D → Option D:=E9 bd7 3
def aU1 : DS:=(B4 (G0 (D3 "int" (A6 0)) (af2 (D3 "bool" (A6 0)))))
def C2 : List D → Option D:=E9 aU1 1
def Q0 : DS:=(B3 (sIf (C4 (B7 (B9 (D3 "tuple" (A6 0)))) (C4 (tB2 neD (D4 (B0 0)) (dC (.int 2))) (C4 (B7 (B9 (A8 C2 (A5 (dIx (B0 0) (dC (.int 0))) A7)))) (B7 (B9 (A8 C2 (A5 (dIx (B0 0) (dC (.int 1))) A7))))))) (B4 (dC (.bool false))) C0) (B4 (G0 (A9 gtI (dIx (B0 0) (dC (.int 1))) (dC (.int 0))) (G0 (E2 leI leI (dC (.int 0)) (dIx (B0 0) (dC (.int 0))) (dIx (B0 0) (dC (.int 1)))) (A9 eqD (A8 p7 (A5 (dIx (B0 0) (dC (.int 0))) (A5 (dIx (B0 0) (dC (.int 1))) A7))) (A6 0))))))
def E4 : List D → Option D:=E9 Q0 1
def x9 : DS:=(B3 (sIf (C4 (B7 (B9 (D3 "tuple" (A6 0)))) (C4 (tB2 neD (D4 (B0 0)) (dC (.int 4))) (tB2 neD (D6 (C8 1 [] (E1 (A6 0)) (C7 0) (B7 (B9 (A8 E4 (A5 (A6 0) A7)))) (A6 0))) (D6 A7)))) (B4 (dC (.bool false))) C0) (B4 (A9 eqD (D6 (C8 1 [0] (E1 (A6 0)) (C7 0) (tB2 gtI (A9 f7 (dIx (B0 0) (dC (.int 0))) (dIx (qE (dIx (B0 1) (dC (.int 0)))) (dC (.int 1)))) (A9 f7 (dIx (qE (dIx (B0 1) (dC (.int 0)))) (dC (.int 0))) (dIx (B0 0) (dC (.int 1))))) (A6 0))) (D6 A7))))
def K6 : List D → Option D:=E9 x9 1
def bl6 : DS:=(B4 (G0 (D3 "int" (A6 0)) (af2 (D3 "bool" (A6 0)))))
def J8 : List D → Option D:=E9 bl6 1
def U7 : DS:=(B3 (sIf (C4 (B7 (B9 (D3 "tuple" (A6 0)))) (tB2 neD (D4 (B0 0)) (dC (.int 2)))) (B4 (dC (.bool false))) C0) (B3 (D0 1 (dIx (B0 0) (dC (.int 0)))) (B3 (D0 2 (dIx (B0 0) (dC (.int 1)))) (B3 (sIf (C4 (B7 (B9 (A8 J8 (A5 (A6 1) A7)))) (B7 (B9 (A8 J8 (A5 (A6 2) A7))))) (B4 (dC (.bool false))) C0) (B4 (G0 (A9 gtI (A6 2) (dC (.int 0))) (G0 (E2 leI leI (dC (.int 0)) (A6 1) (A6 2)) (A9 eqD (A8 M0 (A5 (A6 1) (A5 (A6 2) A7))) (dC (.int 1))))))))))
def F8 : List D → Option D:=E9 U7 3
def am5 : DS:=(B3 (sIf (C4 (B7 (B9 (D3 "tuple" (A6 0)))) (tB2 neD (D4 (B0 0)) (dC (.int 4)))) (B4 (dC (.bool false))) C0) (B3 (sIf (B7 (B9 (Y1 (qN (C8 1 [] (E1 (A6 0)) (C7 0) G1 (A8 F8 (A5 (A6 0) A7))))))) (B4 (dC (.bool false))) C0) (B4 (Y1 (qN (C8 1 [0] (E1 (ab4 (A6 0) (D1 (dC (.int 1))) E7)) (C7 0) G1 (A8 j6 (A5 (A6 0) (A5 (dIx (B0 1) (dC (.int 0))) A7)))))))))
def L1 : List D → Option D:=E9 am5 1
end Sh
namespace G
open PySem PySem.Spec PyProof.Rows L2
section
variable {prog : Program} {w : World} {A : Around} {E : Value → Shared → Prop} {s : Shared}
theorem bl3 (n : Nat) : Builtin.Slice.sliceAdjust none none (-1) (n : Int) = ((n : Int) - 1,-1):=by
 unfold Builtin.Slice.sliceAdjust
 have h1 : (-1 : Int) < 0:=by omega
 simp only [h1,if_true]
theorem bf3 (n : Nat) : Builtin.Slice.slicePlaces ((n : Int) - 1) (-1) (-1) = n:=by
 unfold Builtin.Slice.slicePlaces
 have h1 : ¬ (-1 : Int) > 0:=by omega
 have h2 : -(-1 : Int) = 1:=by omega
 simp only [h1,if_false,h2,Int.ediv_one]
 split <;> omega
theorem av5 {sl : Addr} {t : Tok} {n : Nat} {Q : Int × Int × Nat → Shared → Prop} (hs : s.heap.IsSliceOf sl .none .none (.int (-1) t))
  (h : Q ((n : Int) - 1,-1,n) s) : wpAny (model prog w) A (Builtin.Slice.sliceApplied (.ref sl) (pure (n : Int))) Q E s:=by
 obtain ⟨os,hos,hcs,hds⟩:=id hs
 unfold Builtin.Slice.sliceApplied Builtin.Slice.sliceFields
 refine wpAny_bind (wpAny_bind (wpAny_field hos hds (x:=.none) rfl (wpAny_bind (wpAny_field hos hds (x:=.none) rfl (wpAny_bind (wpAny_field hos hds (x:=.int (-1) t) rfl (wpAny_pure ?_)))))))
 refine wpAny_bind (slicePart_int ?_)
 show wpAny _ _ (if ((-1 : Int) == 0) = true then _ else _) _ _ s
 rw [if_neg (by decide)]
 refine wpAny_bind (slicePart_none (wpAny_bind (slicePart_none (wpAny_bind (wpAny_pure ?_)))))
 show wpAny _ _ (match Builtin.Slice.sliceAdjust none none (-1) (n : Int) with | (lo,hi)=>pure (lo,(-1 : Int),Builtin.Slice.slicePlaces lo hi (-1))) _ _ s
 rw [bl3 n]
 show wpAny _ _ (pure ((n : Int) - 1,(-1 : Int),Builtin.Slice.slicePlaces ((n : Int) - 1) (-1) (-1))) _ _ s
 rw [bf3]
 exact wpAny_pure h
theorem aW1 {α : Type} : ∀ l : List α,(List.range l.length).filterMap (fun k=>l[k]?) = l
 | []=>rfl
 | a :: l=>by
  rw [List.length_cons,List.range_succ_eq_map,List.filterMap_cons,List.filterMap_map]
  simp only [xg0]
  congr 1
  exact aW1 l
theorem aZ6 {α β : Type} {f g : α → Option β} : ∀ {l : List α},(∀ x ∈ l,f x = g x) → l.filterMap f = l.filterMap g
 | [],_=>rfl
 | a :: l,h=>by rw [List.filterMap_cons,List.filterMap_cons,h a (List.mem_cons_self ..),aZ6 fun x hx=>h x (List.mem_cons_of_mem _ hx)]
theorem bC9 (xs : Array Value) : ((List.range xs.size).filterMap fun (k : Nat)=>xs[(((xs.size : Int) - 1) + (k : Int) * -1).toNat]?).toArray = xs.toList.reverse.toArray:=by
 congr 1
 have e : ∀ k ∈ List.range xs.size,xs[(((xs.size : Int) - 1) + (k : Int) * -1).toNat]? = xs.toList.reverse[k]?:=by
  intro k hk
  have hk:=List.mem_range.mp hk
  have : (((xs.size : Int) - 1) + (k : Int) * -1).toNat = xs.size - 1 - k:=by omega
  rw [this,List.getElem?_reverse (by rw [Array.length_toList]; exact hk),Array.length_toList,Array.getElem?_toList]
 rw [aZ6 e]
 have:=aW1 xs.toList.reverse
 rw [List.length_reverse,Array.length_toList] at this
 exact this
theorem at4 {t sl : Addr} {items : Array Value} {k : Tok} {Q : Value → Shared → Prop} (ht : IsTup s.heap t items) (hs : s.heap.IsSliceOf sl .none .none (.int (-1) k))
  (h : Q (.ref s.heap.objs.size) { s with heap:=s.heap.push { cls:=.type "tuple", data:=.seq items.toList.reverse.toArray } })
  (hsz : items.size ≤ sizeLine) : wpAny (model prog w) A (getItem (.ref t) (.ref sl)) Q E s:=by
 have htake : sizeOk (.seq items.toList.reverse.toArray):=by
  show items.toList.reverse.toArray.size ≤ sizeLine
  rw [List.size_toArray,List.length_reverse,Array.length_toList]
  omega
 obtain ⟨os,hos,hcs,hds⟩:=id hs
 have hTs : s.TypeIs (.ref sl) "slice" := ⟨os,hos,hcs⟩
 unfold getItem
 try with_reducible refine wpAny_holding ?_
 first | refine wpAny_bind (wpAny_pure ?_) | skip
 refine wpAny_bind (wpAny_sequenceKey ht.typeIs (by decide) ?_)
 refine wpAny_bind (wpAny_callSpecial?_slot (name:=Str.ofString "__getitem__") ht.typeIs PyProof.Rows.slot_tuple_getitem
  (wpAny_call_entry PyProof.Rows.slot_tuple_getitem ht.typeIs entry_tuple_getitem ?_ (args_tuple_getitem _ _)))
 show wpAny _ _ (Builtin.Tuple.tupleItemsOf (.ref t) >>= _) _ _ s
 refine wpAny_bind (tupleItemsOf_ ht ?_)
 refine wpAny_bind (wpAny_typeOf hTs ?_)
 rw [if_pos (by decide)]
 refine wpAny_bind (av5 hs ?_)
 have hno : ¬ ((((items.size : Int) - 1) == 0 && (-1 : Int) == 1 && items.size == items.size) = true):=by
  have : ((-1 : Int) == 1) = false:=rfl
  rw [this]; simp
 show wpAny _ _ (if (((items.size : Int) - 1) == 0 && (-1 : Int) == 1 && items.size == items.size) = true then _ else _) _ _ s
 rw [if_neg hno,bC9]
 first
  | exact wpAny_bind (m:=Builtin.Tuple.tupleExact _) (wpAny_newObj_type (wpAny_pure ⟨_,rfl,wpAny_pure h⟩) htake)
  | exact wpAny_bind (m:=Builtin.Tuple.tupleExact _) (wpAny_newObj_type (wpAny_bind (wpAny_pure (wpAny_pure ⟨_,rfl,wpAny_pure h⟩))) htake)
  | exact wpAny_bind (wpAny_bind (m:=Builtin.Tuple.tupleExact _) (wpAny_newObj_type (wpAny_pure (wpAny_pure ⟨_,rfl,wpAny_pure h⟩)) htake))
  | exact wpAny_bind (wpAny_bind (m:=Builtin.Tuple.tupleExact _) (wpAny_newObj_type (wpAny_pure ⟨_,rfl,wpAny_pure h⟩) htake))
end
section
variable {X : Cx} {e st : Expr} {te ts : TE} {p2 pos : Pos}
theorem aU7 : ∀ {xs : List V} {us : List Value},G3 xs us → G3 xs.reverse us.reverse
 | [],[],h=>h
 | x :: xs,u :: us,h=>by
  cases h with
  | cons a b=>rw [List.reverse_cons,List.reverse_cons]; exact (aU7 b).append (.cons a .nil)
theorem ck0 (he : PE X e te) (hs : PE X st ts) : PE X (.Subscript e (.Slice none none (some st) p2) pos)
  (fun σ H Q=>te σ H fun x H1=>ts σ H1 fun y H2=>∃ a xs,x = .ref a ∧ y = .int (-1) ∧ SqT X.K H2 a xs ∧ ∀ p,H2 p = none → Q (.ref p) (upd H2 p (.tup xs.reverse))):=by
 intro pins s σ H Q I h
 refine Subscript_ (thn (he pins s σ H _ I h) fun v s1 ⟨x,H1,I1,r1,q1⟩=>?_)
 refine wpAny_Slice ?_
 rw [evalPart_none]
 refine wpAny_pure (wpAny_pure ?_)
 rw [evalPart_some]
 refine thn (hs pins s1 σ H1 _ I1 q1) fun vs s3 ⟨y,H3,I3,r3,a,xs,e1,e2,hx,q⟩=>?_
 subst e1 e2
 cases r1
 obtain ⟨tk,rfl⟩:=r3
 have I4 : Inv X pins σ H3 { s3 with heap:=s3.heap.push { cls:=.type "slice", data:=.fields #[.none,.none,.int (-1) tk] } }:=I3.kept (t':=s3.toks) fun b ob q=>Heap.get?_push_of_some _ q
 obtain ⟨its,r,ht,hz⟩:=I4.tuple hx
 have hlen : its.toArray.size = xs.length:=by rw [List.size_toArray]; exact r.length.symm
 show wpAny (model X.prog X.w) X.A (subscriptTail e (.Slice none none (some st) p2) (.ref a) (.ref s3.heap.objs.size)) (EP X pins σ Q) X.xe { s3 with heap:=s3.heap.push { cls:=.type "slice", data:=.fields #[.none,.none,.int (-1) tk] } }
 refine tail_any (ops:=[.ref a,.ref s3.heap.objs.size]) ht.typeIs PyProof.Rows.slot_tuple_getitem.lookup ?_ (by with_unfolding_all rfl)
 refine at4 ht (Heap.IsSliceOf.new ..) ?_ (by rw [hlen]; exact hz)
 refine ⟨.ref _,_,I4.laid (t':=s3.toks) (o:=.tup xs.reverse) (fun b ob q=>Heap.get?_push_of_some _ q) (Nat.le_refl _) ?_,rfl,q _ (I4.hok.fresh (Nat.le_refl _))⟩
 exact ⟨by rw [List.length_reverse]; exact hz,_,aU7 r,aH2.new _ _⟩
theorem bB9 {K : PySem.W.Frag} {H : Hp} {ds : List D} {vs : List V} (h : Reps K H ds vs) : Reps K H ds.reverse vs.reverse:=by
 induction ds generalizing vs with
 | nil=>cases vs with
  | nil=>exact h
  | cons _ _=>exact absurd h.length (by simp)
 | cons d ds ih=>cases vs with
  | nil=>exact absurd h.length (by simp)
  | cons v vs =>
   obtain ⟨v',r',e,h1,h2⟩:=h
   cases e
   rw [List.reverse_cons,List.reverse_cons]
   exact (ih h2).append ⟨_,_,rfl,h1,rfl⟩
theorem bV9 {a st : Expr} {f : DE} {pos p2 : Pos} (ha : JE X a f) (hs : JE X st (R8 (dC (.int 1)))) : JE X (.Subscript a (.Slice none none (some st) p2) pos) (bp1 f):=fun ρ d q=>by
 obtain ⟨x,e1,q⟩:=Option.bind_eq_some_iff.mp q
 cases x with
 | tuple xs =>
  cases q
  refine D8 (ck0 (ha ρ _ e1) (hs ρ (.int (-1)) rfl)) fun σ H Q ⟨H0,Hf,s,sl,k⟩=>?_
  refine ⟨H0,Hf,s,sl,fun v H1 Hf1 g1 ⟨p,vs,q1,q2,q3⟩=>⟨H0,Hf1,g1.sub,sl.grow g1,fun u H2 Hf2 g2 r2=>?_⟩⟩
  subst q1
  cases r2
  have q2':=F0 g2.ext q2
  have q3':=q3.mono g2.ext
  refine ⟨p,vs,rfl,rfl,F0 g2.sub q2',fun p' hp=>?_⟩
  exact k _ _ _ ((g1.trans g2).trans (Grow.laid g2.sub hp)) ⟨p',_,rfl,SqT.of E5,(bB9 q3').mono (G9 (g2.sub.free hp))⟩
 | _=>cases q
end
end G
namespace Sh
open PySem PySem.Spec PyProof.Rows L2 G
def bp9 : DS:=(B3 (D0 1 (D6 (A5 (R8 (dC (.int 1))) (A5 (dC (.int 0)) (A5 (dC (.int 1)) (A5 (dC (.int 2)) (A5 (dC (.int 10)) (A5 (dC (.bool true)) (A5 (dC (.bool false)) (A5 (dC .none) (A5 (dC (.str "")) (A5 (dC (.str "a")) (A5 (dC (.str "over")) (A5 (dC (.str "Ab")) (A5 (D2 A7) (A5 (D6 A7) (A5 (D2 (A5 (dC (.int 0)) (A5 (dC (.int 1)) A7))) (A5 (D2 (A5 (dC (.int 1)) (A5 (dC (.int 1)) A7))) (A5 (D2 (A5 (dC (.int 1)) (A5 (dC (.int 2)) A7))) (A5 (D2 (A5 (dC (.int 2)) (A5 (dC (.int 2)) A7))) (A5 (D2 (A5 (dC (.int 2)) (A5 (dC (.int 1)) A7))) A7))))))))))))))))))))) (B3 (D0 1 (A9 C1 (A6 1) (D6 (A5 (D2 (A5 (dC (.str "a")) A7)) (A5 (D6 (A5 (dC (.int 0)) (A5 (dC (.int 1)) A7))) (A5 (dC (.str "abcdefg")) (A5 (D2 (A5 (R8 (dC (.int 1))) (A5 (dC (.int 1)) A7))) (A5 (D2 (A5 (dC (.int 1)) (A5 (dC (.int 0)) A7))) (A5 (A9 f7 (D2 (A5 (D2 (A5 (dC (.int 0)) (A5 (dC (.int 1)) A7))) A7)) (dC (.int 4))) (A5 (D2 (A5 (dC (.str "tone")) (A5 (dC (.str "zz")) (A5 (dC (.str "grey")) (A5 (D2 (A5 (dC (.int 1)) (A5 (dC (.int 1)) A7))) (A5 (dC (.bool true)) A7)))))) A7)))))))))) (B4 (dIx (B0 1) (A9 Q8 (A6 0) (dC (.int 26)))))))
def aC3 : List D → Option D:=E9 bp9 2
def G5 (self : List D → Option D) : DS:=(B3 (sIf (L7 (tB2 gtI (A6 2) (dC (.int 0))) (L7 (B9 (D3 "tuple" (A6 0))) (L7 (tB2 gtI (D4 (B0 0)) (dC (.int 0))) (tB2 gtI (A9 Q8 (A6 1) (dC (.int 7))) (dC (.int 0)))))) (B3 (D0 3 (A9 Q8 (A9 V7 (A6 1) (dC (.int 7))) (D4 (B0 0)))) (B3 (D0 4 (A8 self (A5 (dIx (B0 0) (A6 3)) (A5 (A9 V7 (A6 1) (dC (.int 91))) (A5 (A9 ag3 (A6 2) (dC (.int 1))) A7))))) (B4 (A9 V2 (A9 V2 (ab4 (A6 0) E7 (D1 (A6 3))) (D2 (A5 (A6 4) A7))) (ab4 (A6 0) (D1 (A9 V2 (A6 3) (dC (.int 1)))) E7))))) C0) (B3 (sIf (L7 (B9 (D3 "tuple" (A6 0))) (L7 (tB2 gtI (D4 (B0 0)) (dC (.int 0))) (tB2 eqD (A9 Q8 (A9 V7 (A6 1) (dC (.int 7))) (dC (.int 2))) (dC (.int 0))))) (B4 (dIx (qN (A5 (D6 (fun ρ=>((B0 0) ρ).map fun q=>q.2)) (A5 (ab4 (A6 0) E7 (D1 (R8 (dC (.int 1))))) (A5 (A9 V2 (A6 0) (ab4 (A6 0) (D1 (R8 (dC (.int 1)))) E7)) (A5 (ab4 (A6 0) (D1 (dC (.int 1))) E7) (A5 (bp1 (A6 0)) (A5 (A9 f7 (A6 0) (dC (.int 2))) A7))))))) (A9 Q8 (A9 V7 (A6 1) (dC (.int 14))) (dC (.int 6))))) C0) (B3 (sIf (L7 (B9 (D3 "int" (A6 0))) (tB2 eqD (A9 Q8 (A9 V7 (A6 1) (dC (.int 7))) (dC (.int 2))) (dC (.int 0)))) (B4 (dIx (qN (A5 (bj1 (A6 0)) (A5 (A9 ag3 (dC (.int 0)) (A6 0)) (A5 (A9 V2 (A6 0) (dC (.int 1))) (A5 (A9 eqD (A6 0) (dC (.int 1))) (A5 (A9 ag3 (A6 0) (dC (.int 1))) (A5 (A9 V2 (A6 0) (dC (.int 9))) A7))))))) (A9 Q8 (A9 V7 (A6 1) (dC (.int 14))) (dC (.int 6))))) C0) (B4 (A8 aC3 (A5 (A9 V7 (A6 1) (dC (.int 7))) A7))))))
def F7 : Nat → List D → Option D
 | 0=>fun _=>none
 | k + 1=>E9 (G5 (F7 k)) 5
end Sh
namespace G
open PySem PySem.Spec PyProof.Rows L2
section
variable {X : Cx}
def atS (x : Str) (i : Int) : Option D:=if x.length ≤ 16777216 then (atI x.cps.toList i).map fun c=>.str ⟨#[c]⟩ else none
def aq8 (f g : DE) : DE:=fun ρ=>(f ρ).bind fun x=>(g ρ).bind fun i=>match x,i with
 | .str x,.int i=>atS x i
 | _,_=>none
theorem cq8 {a b : Expr} {f g : DE} {pos : Pos} (ha : JE X a f) (hb : JE X b g) (hs : aC1 b:=by intro _ _; rfl) : JE X (.Subscript a b pos) (aq8 f g):=fun ρ d q=>by
 obtain ⟨x,h1,q⟩:=Option.bind_eq_some_iff.mp q
 obtain ⟨y,h2,h3⟩:=Option.bind_eq_some_iff.mp q
 split at h3
 ·rename_i x i
  unfold atS at h3
  split at h3
  ·rename_i hz
   obtain ⟨c,e1,e2⟩:=Option.map_eq_some_iff.mp h3
   subst e2
   refine D8 (ca1 bI4 (ha ρ _ h1) (hb ρ _ h2) hs) fun σ H Q ⟨H0,Hf,s,sl,k⟩=>?_
   refine ⟨H0,Hf,s,sl,fun v H1 Hf1 g1 r1=>⟨H0,Hf1,g1.sub,sl.grow g1,fun u H2 Hf2 g2 r2=>?_⟩⟩
   exact .inr (.inr ⟨x,i,c,r1,r2,by rw [sizeLine_eq]; exact hz,e1,k _ H2 Hf2 (g1.trans g2) rfl⟩)
  ·cases h3
 ·cases h3
def P8 (f : DE) (lo hi : Rho → Option (Option Int)) : DE:=fun ρ=>(f ρ).bind fun d=>(lo ρ).bind fun l=>(hi ρ).bind fun h=>match d with
 | .tuple xs=>some (.tuple (L6 xs l h))
 | .list xs=>some (.list (L6 xs l h))
 | _=>none
theorem cq4 {a : Expr} {lo hi : Option Expr} {f : DE} {l h : Rho → Option (Option Int)} {pos p2 : Pos} (ha : JE X a f) (hl : JO X lo l) (hh : JO X hi h) : JE X (.Subscript a (.Slice lo hi none p2) pos) (P8 f l h):=fun ρ d q=>by
 obtain ⟨x,e1,q⟩:=Option.bind_eq_some_iff.mp q
 obtain ⟨y,e2,q⟩:=Option.bind_eq_some_iff.mp q
 obtain ⟨z,e3,q⟩:=Option.bind_eq_some_iff.mp q
 cases x with
 | tuple xs =>
  cases q
  refine bH6 ha hl hh ρ _ ?_
  unfold ab4
  rw [e1,xbs,e2,xbs,e3,xbs]
 | list xs =>
  cases q
  refine D8 (as8 bm6 (ha ρ _ e1) (hl ρ y e2) (hh ρ z e3)) fun σ H Q ⟨H0,Hf,s,sl,k⟩=>?_
  refine ⟨H0,Hf,s,sl,fun v H1 Hf1 g1 ⟨p,vs,q1,q2,q3⟩=>⟨H0,Hf1,g1.sub,sl.grow g1,fun H2 Hf2 g2=>⟨H0,Hf2,g2.sub,sl.grow (g1.trans g2),fun H3 Hf3 g3=>?_⟩⟩⟩
  subst q1
  have q2':=L4 (g2.trans g3).ext q2
  have q3':=q3.mono (g2.trans g3).ext
  refine ⟨p,vs,rfl,L4 g3.sub q2',fun p' hp=>?_⟩
  exact k _ _ _ (((g1.trans g2).trans g3).trans (Grow.laid g3.sub hp)) ⟨p',_,rfl,SqL.of E5,(aE1 q3' y z).mono (G9 (g3.sub.free hp))⟩
 | _=>cases q
end
end G
namespace G
open PySem PySem.Spec PyProof.Rows L2
section
variable {X : Cx}
theorem bm1 : ∀ {ys : List Str} {us : List Value},G3 (ys.map V.str) us → ∃ l : List (Str × Tok),us = strValues l ∧ l.map (·.1) = ys
 | [],[],_=>⟨[],rfl,rfl⟩
 | y :: ys,u :: us,h=>by
  cases h with
  | cons a b =>
   obtain ⟨t,rfl⟩:=a
   obtain ⟨l,rfl,rfl⟩:=bm1 b
   exact ⟨(y,t) :: l,rfl,rfl⟩
def at1 (sep : Str) (ys : List Str) : Nat:=ys.toArray.foldl (fun n y=>n + y.length + sep.length) 0
def cx4 (K : PySem.W.Frag) : V → List V → Hp → VK → Prop:=fun x vs H Q=>∃ sep p ys,x = .str sep ∧ vs = [.ref p] ∧ SqL K H p (ys.map V.str) ∧ at1 sep ys ≤ sizeLine ∧ (Builtin.Str.glued sep ys).length ≤ sizeLine ∧ Q (.str (Builtin.Str.glued sep ys)) H
theorem bT8 : MtR X "str.join" (cx4 X.K):=by
 intro pins s σ H x vs v us Q I rx rv h
 obtain ⟨sep,p,ys,rfl,rfl,hq,hz,hg,q⟩:=h
 obtain ⟨t,rfl⟩:=rx
 obtain ⟨u,rfl,ru⟩:=rv.one
 cases ru
 obtain ⟨its,r,pl,_⟩:=I.list hq
 obtain ⟨l,rfl,rfl⟩:=bm1 r
 refine call_meets F.slot_str_join (typeIs_str s sep t) F.entry_str_join (F.args_str_join_2 _ _) (meets_str_join_list sep t p l ?_) ⟨pl.isList,?_⟩
 ·show decide (at1 sep (l.map (·.1)) > sizeLine) = false
  exact decide_eq_false (by omega)
 ·match l,q,hg with
  | [],q,hg=>exact ⟨hg,.str _,H,I.tok _,⟨_,rfl⟩,q⟩
  | [a],q,_=>exact ⟨.str _,H,I,⟨_,rfl⟩,q⟩
  | a :: b :: r,q,hg=>exact ⟨hg,.str _,H,I.tok _,⟨_,rfl⟩,q⟩
def aK3 : List D → Option (List Str)
 | []=>some []
 | .str x :: r=>(aK3 r).map fun ys=>x :: ys
 | _ :: _=>none
theorem ax5 {K : PySem.W.Frag} {H : Hp} : ∀ {ds : List D} {ys : List Str} {vs : List V},aK3 ds = some ys → Reps K H ds vs → vs = ys.map V.str
 | [],ys,vs,h,r=>by cases h; exact r
 | .str x :: ds,ys,vs,h,r=>by
  obtain ⟨zs,e1,e2⟩:=Option.map_eq_some_iff.mp h
  subst e2
  obtain ⟨v,r',e,h1,h2⟩:=r
  subst e
  rw [ax5 e1 h2]
  cases h1
  rfl
def aG4 (f : DE) (g : Rho → Option (Bool × List D)) : DE:=fun ρ=>(f ρ).bind fun s=>(g ρ).bind fun q=>match s with
 | .str sep=>if q.1 = true then none else (aK3 q.2).bind fun ys=>if at1 sep ys ≤ 16777216 ∧ (Builtin.Str.glued sep ys).length ≤ 16777216 then some (.str (Builtin.Str.glued sep ys)) else none
 | _=>none
theorem bW1 {o e : Expr} {f : DE} {g : Rho → Option (Bool × List D)} {apos cpos : Pos} (ho : JE X o f) (h : JQ X e g)
  (hbase : attributeBase o "join" X.env (eval o X.env) = eval o X.env:=by rfl)
  (hfew : ((backTo cpos (starEach [e] X.env)).all (fun x=>!x.1) && (backToKw cpos (keywordEach [] X.env)).all (fun x=>x.1.isSome)
   && decide (([e] : List Expr).length + ([] : List Keyword).length + (if ([] : List Keyword).isEmpty then 0 else 1) < 30)) = true:=by rfl)
  (hline : (apos.endLine == cpos.line) = true:=by rfl) (hs : starEach [e] X.env = [(false,eval e X.env)]:=by rfl) :
  JE X (.Call (.Attribute o "join" apos) [e] [] cpos) (aG4 f g):=fun ρ d q=>by
 obtain ⟨s,e1,q⟩:=Option.bind_eq_some_iff.mp q
 obtain ⟨⟨t,ds⟩,e2,q⟩:=Option.bind_eq_some_iff.mp q
 cases s with
 | str sep =>
  cases t with
  | true=>simp at q
  | false =>
   simp only [xft,if_false] at q
   obtain ⟨ys,e3,q⟩:=Option.bind_eq_some_iff.mp q
   split at q
   ·rename_i hz
    cases q
    refine D8 (bn2 F.plainAttrs_str F.slot_str_join F.type_str_join bT8 (ho ρ _ e1) (K9 (h ρ false ds e2) P4 hs) hbase hfew hline hs) fun σ H Q ⟨H0,Hf,s,sl,k⟩=>?_
    refine ⟨H0,Hf,s,sl,fun v H1 Hf1 g1 r1=>?_⟩
    cases r1
    refine ⟨rfl,H0,Hf1,g1.sub,sl.grow g1,fun w H2 Hf2 g2 ⟨p,vs,z1,z2,z3⟩=>?_⟩
    subst z1
    rw [ax5 e3 z3] at z2
    exact ⟨sep,p,ys,rfl,rfl,z2,by rw [sizeLine_eq]; exact hz.1,by rw [sizeLine_eq]; exact hz.2,k _ H2 Hf2 (g1.trans g2) rfl⟩
   ·cases q
 | _=>cases q
end
end G
namespace G
open PySem PySem.Spec PyProof.Rows L2
section
open PySem.SeqAt PySem.MeetsSeq PySem.MeetsSeq2 PySem.MeetsSeq3 PySem.SeqRoads2
open PySem.AutoSeq1 (wpAny_loadPart')
theorem aC8 (l : Addr) (items : Array Value) (n : Nat) (dd : Option Addr) (sl : Array (Option Value)) (x : Value) (e : Nat → Bool) :
  Meets (Builtin.«tuple.__contains__» ⟨[.ref l,x],[]⟩)
   (fun A R s=>s.heap.get? l = some { cls:=.type "tuple", dict:=dd,data:=.seq items n,slots:=sl } ∧ (∀ j (h : j < items.size),EqAt A.in1 s items[j] x (e j)) ∧ R (.ok (.ret (.bool ((List.range items.size).any e)))) s) :=
 .of_wp fun prog w A R s h=>by
  obtain ⟨hp,g,d,tk,os⟩:=s; obtain ⟨hl,he,h⟩:=h
  wp_walk using wpAny_loadPart' hl,wpAny_forIn_array _ (fun J6 b s'=>b.1 = none ∧ s' = ⟨hp,g,d,tk,os⟩ ∧ ∃ i,J6 = items.toList.drop i ∧ R (.ok (.ret (.bool (((List.range items.size).drop i).any e)))) ⟨hp,g,d,tk,os⟩) _
  case turn =>
   rintro y J6 b s' ⟨hb,rfl,i,hz,hR⟩
   have hlt : i < items.toList.length:=by
    rcases Nat.lt_or_ge i items.toList.length with h' | h'
    ·exact h'
    ·rw [List.drop_of_length_le h'] at hz; cases hz
   have hi : i < items.size:=by simpa using hlt
   rw [List.drop_eq_getElem_cons hlt] at hz
   injection hz with hy hrest
   have hy : y = items[i]:=by simpa using hy
   subst hy
   have hd : (List.range items.size).drop i = i :: (List.range items.size).drop (i + 1):=by simp [List.drop_eq_getElem_cons,hi]
   rw [hd,List.any_cons] at hR
   refine wpAny_bind (he i hi prog w _ _ ?_)
   cases hy : e i with
   | true =>
    rw [hy] at hR
    wp_walk
    exact ⟨_,rfl,by simpa using hR⟩
   | false =>
    rw [hy] at hR
    wp_walk
    exact ⟨rfl,rfl,i + 1,hrest,by simpa using hR⟩
  case fin =>
   rintro ⟨b1,b2⟩ s' ⟨hb,rfl,i,hz,hR⟩
   simp only at hb
   subst hb
   have hge : items.size ≤ i:=by
    rcases Nat.lt_or_ge i items.toList.length with h' | h'
    ·rw [List.drop_eq_getElem_cons h'] at hz; cases hz
    ·simpa using h'
   rw [List.drop_of_length_le (by simpa using hge)] at hR
   wp_walk
   exact ⟨_,rfl,by simpa using hR⟩
  case h =>
   exact ⟨rfl,rfl,0,by simp,by simpa using h⟩
end
section
variable {X : Cx}
def P0 : D → Bool
 | .none=>true
 | .bool _=>true
 | .int _=>true
 | .str _=>true
 | _=>false
def toV : D → V
 | .none=>.non
 | .bool b=>.bl b
 | .int i=>.int i
 | .str x=>.str x
 | _=>.non
theorem aa9 {K : PySem.W.Frag} {H : Hp} {d : D} {v : V} (f : P0 d = true) (r : Rep K H d v) : v = toV d ∧ ao5 v = true:=by
 cases d with
 | none=>cases r; exact ⟨rfl,rfl⟩
 | bool b=>cases r; exact ⟨rfl,rfl⟩
 | int i=>cases r; exact ⟨rfl,rfl⟩
 | str x=>cases r; exact ⟨rfl,rfl⟩
 | tuple _=>cases f
 | list _=>cases f
 | dict _=>cases f
theorem ax6 {K : PySem.W.Frag} {H : Hp} : ∀ {ds : List D} {vs : List V},ds.all P0 = true → Reps K H ds vs → vs = ds.map toV ∧ vs.all ao5 = true
 | [],vs,_,r=>by cases (show vs = [] from r); exact ⟨rfl,rfl⟩
 | d :: ds,vs,f,r=>by
  rw [List.all_cons,Bool.and_eq_true] at f
  obtain ⟨v,r',e,h1,h2⟩:=r
  subst e
  obtain ⟨e1,e2⟩:=aa9 f.1 h1
  obtain ⟨e3,e4⟩:=ax6 f.2 h2
  subst e1 e3
  exact ⟨rfl,by rw [List.all_cons,e2,e4]; rfl⟩
def isS : D → Bool
 | .str _=>true
 | _=>false
def inD (neg : Bool) (x y : D) : Option D:=match y with
 | .list ds=>if P0 x = true ∧ ds.all P0 = true then some (.bool (if neg then !inV (toV x) (ds.map toV) else inV (toV x) (ds.map toV))) else none
 | .tuple ds=>if P0 x = true ∧ ds.all P0 = true then some (.bool (if neg then !inV (toV x) (ds.map toV) else inV (toV x) (ds.map toV))) else if P0 x = false ∧ SeqAt.shaped x = true ∧ ds.all isS = true then some (.bool neg) else if SeqAt.shaped x = true ∧ x.depth ≤ 60 ∧ ds.all SeqAt.shaped = true then some (.bool (if neg then !(ds.any fun y=>PyData.eqv y x) else ds.any fun y=>PyData.eqv y x)) else none
 | _=>none
theorem bW9 {A : Around} {s : Shared} {x : D} {v : Value} {as : List Addr} (f : P0 x = false) (sh : SeqAt.shaped x = true) (r : Reads s.heap v x as) (hu : A.units < cLine) (a : Str) (t : Tok) : SeqAt.EqAt A s (.str a t) v false:=by
 cases r with
 | none=>cases f
 | bool _=>cases f
 | int _ _=>cases f
 | str _ _=>cases f
 | list h1 h2 h3 _=>exact SeqAt.EqAt.str_list a t ⟨_,h1,h2,_,h3⟩ hu
 | tuple h1 h2 h3 _=>exact SeqAt.EqAt.str_tuple a t ⟨_,h1,h2,_,h3⟩ hu
 | dict _ _ _ _ _=>exact absurd (SeqAt.canLay_of_shaped sh) (by simp [PyData.canLay0])
theorem aZ7 {K : PySem.W.Frag} {H : Hp} : ∀ {ds : List D} {vs : List V} {us : List Value},ds.all isS = true → Reps K H ds vs → G3 vs us → ∀ y ∈ us,∃ a t,y = Value.str a t
 | [],_,_,_,r,w=>by cases (show _ = [] from r); cases w; intro y hy; cases hy
 | d :: ds,_,_,f,r,w=>by
  rw [List.all_cons,Bool.and_eq_true] at f
  obtain ⟨v,r',rfl,h1,h2⟩:=r
  cases w with
  | cons w1 w2 =>
   intro y hy
   rcases List.mem_cons.mp hy with rfl | hy
   ·cases d with
    | str a =>
     cases (show v = .str a from h1)
     obtain ⟨t,e⟩:=w1
     exact ⟨a,t,e⟩
    | _=>cases f.1
   ·exact aZ7 f.2 h2 w2 y hy
theorem bI8 {x : D} {ds : List D} {vx vy : V} {v u : Value} {pins : List (Addr × Obj)} {s : Shared} {σ : L2.St} {H Hf : Hp} {Q : Value → Shared → Prop} (hu : X.A.units + 64 < cLine) (f : P0 x = false) (sh : SeqAt.shaped x = true) (a : ds.all isS = true) (I : L2.Inv X pins σ H s) (rx : K8 vx v) (ry : K8 vy u) (ss : J0 Hf H) (r1 : Rep X.K Hf x vx) (r2 : Rep X.K Hf (.tuple ds) vy) :
  (Q (.bool false) s → wpAny (model X.prog X.w) X.A (compareOp .In v u) Q X.xe s) ∧ (Q (.bool true) s → wpAny (model X.prog X.w) X.A (compareOp .NotIn v u) Q X.xe s):=by
 obtain ⟨p,vs,rfl,h2,h3⟩:=r2
 obtain rfl : u = Value.ref p:=ry
 obtain ⟨its,rv,pl,_⟩:=I.tuple (F0 ss h2)
 obtain ⟨as,rd⟩:=Rep.reads I (r1.mono ss) rx
 have st:=aZ7 a h3 rv
 have he : ∀ y,y ∈ its.toArray → SeqAt.EqAt X.A.in1 s y v ((fun _=>false) y):=fun y hy=>by
  obtain ⟨b,t,rfl⟩:=st y (by simpa using hy)
  exact bW9 f sh rd (by show X.A.units + 1 < _; omega) b t
 have no : its.toArray.any (fun _=>false) = false:=by simp
 refine ⟨fun q=>SeqAt.in_tupleAt (fun _=>false) pl he (by rw [no]; exact q),fun q=>SeqAt.notIn_tupleAt (fun _=>false) pl he (by rw [no]; exact q)⟩
theorem cx3 {h : Heap} : ∀ {vs : List Value} {ds : List D} {as : List Addr},ReadsAll h vs ds as → vs.length = ds.length ∧ ∀ (j : Nat) (hj : j < vs.length),∃ bs,Reads h vs[j] (ds.getD j .none) bs
 | [],_,_,r=>by cases r; exact ⟨rfl,fun j hj=>absurd hj (Nat.not_lt_zero _)⟩
 | v :: vs,_,_,r=>by
  cases r with
  | cons r1 r2 =>
   obtain ⟨h1,h2⟩:=cx3 r2
   refine ⟨by rw [List.length_cons,List.length_cons,h1],fun j hj=>?_⟩
   cases j with
   | zero=>exact ⟨_,r1⟩
   | succ j=>exact h2 j (by simpa using hj)
theorem bz3 {α : Type} (p : α → Bool) (z : α) (l : List α) : (List.range l.length).any (fun j=>p (l.getD j z)) = l.any p:=by
 rw [Bool.eq_iff_iff,List.any_eq_true,List.any_eq_true]
 constructor
 ·rintro ⟨j,hj,h⟩
  have hj:=List.mem_range.mp hj
  exact ⟨l[j],List.getElem_mem hj,by simpa [hj] using h⟩
 ·rintro ⟨x,hx,h⟩
  obtain ⟨j,hj,rfl⟩:=List.getElem_of_mem hx
  exact ⟨j,List.mem_range.mpr hj,by simpa [hj] using h⟩
theorem bl9 {x : D} {ds : List D} {vx : V} {v : Value} {pins : List (Addr × Obj)} {s : Shared} {σ : L2.St} {H Hf : Hp} {p : Addr} {vs : List V} (hu : X.A.units + 64 < cLine) (sx : SeqAt.shaped x = true) (dx : x.depth ≤ 60) (sd : ds.all SeqAt.shaped = true) (I : L2.Inv X pins σ H s) (rx : K8 vx v) (ss : J0 Hf H) (r1 : Rep X.K Hf x vx) (h2 : SqT X.K Hf p vs) (h3 : Reps X.K Hf ds vs) :
  ∃ its : List Value,IsTup s.heap p its.toArray ∧ its.length = ds.length ∧ ∀ j (h : j < its.toArray.size),SeqAt.EqAt X.A.in1 s its.toArray[j] v (PyData.eqv (ds.getD j .none) x):=by
 obtain ⟨its,rv,pl,_⟩:=I.tuple (F0 ss h2)
 obtain ⟨as,rd⟩:=Rep.reads I (r1.mono ss) rx
 obtain ⟨bs,ra⟩:=Reps.reads I (h3.mono ss) rv
 obtain ⟨e1,e2⟩:=cx3 ra
 refine ⟨its,pl,e1,fun j hj=>?_⟩
 have hj' : j < its.length:=by simpa using hj
 obtain ⟨cs,q⟩:=e2 j hj'
 have hd : j < ds.length:=by omega
 have sj:=List.all_eq_true.mp sd _ (List.getElem_mem hd)
 have ej : ds.getD j .none = ds[j]:=by simp [hd]
 rw [ej] at q ⊢
 have:=SeqAt.eqAt_reads ds[j] x X.A.in1 s _ _ _ _ q rd (SeqAt.canLay_of_shaped sj) (SeqAt.canLay_of_shaped sx) (by show X.A.units + 1 + _ < _; have:=Nat.min_le_right ds[j].depth x.depth; omega)
 simpa using this
theorem bI7 {x : D} {ds : List D} {vx vy : V} {v u : Value} {pins : List (Addr × Obj)} {s : Shared} {σ : L2.St} {H Hf : Hp} {Q : Value → Shared → Prop} (hu : X.A.units + 64 < cLine) (sx : SeqAt.shaped x = true) (dx : x.depth ≤ 60) (sd : ds.all SeqAt.shaped = true) (I : L2.Inv X pins σ H s) (rx : K8 vx v) (ry : K8 vy u) (ss : J0 Hf H) (r1 : Rep X.K Hf x vx) (r2 : Rep X.K Hf (.tuple ds) vy) :
  (Q (.bool (ds.any fun y=>PyData.eqv y x)) s → wpAny (model X.prog X.w) X.A (compareOp .In v u) Q X.xe s) ∧ (Q (.bool (!(ds.any fun y=>PyData.eqv y x))) s → wpAny (model X.prog X.w) X.A (compareOp .NotIn v u) Q X.xe s):=by
 obtain ⟨p,vs,rfl,h2,h3⟩:=r2
 obtain rfl : u = Value.ref p:=ry
 obtain ⟨its,pl,ln,he⟩:=bl9 hu sx dx sd I rx ss r1 h2 h3
 obtain ⟨⟨cls,dd,data,sl⟩,ho,hc,n,hd⟩:=id pl
 simp only at hc hd
 subst hc hd
 have ea : (List.range its.toArray.size).any (fun j=>PyData.eqv (ds.getD j .none) x) = ds.any fun y=>PyData.eqv y x:=by
  rw [List.size_toArray,ln]
  exact bz3 (fun y=>PyData.eqv y x) .none ds
 refine ⟨fun q=>SeqRoads2.in_meets ⟨_,ho,rfl⟩ F.slot_tuple_contains F.entry_tuple_contains (F.args_tuple_contains_2 _ _) (aC8 p its.toArray n dd sl v _) ⟨ho,he,_,rfl,by rw [ea]; exact q⟩,
  fun q=>SeqRoads2.notIn_meets ⟨_,ho,rfl⟩ F.slot_tuple_contains F.entry_tuple_contains (F.args_tuple_contains_2 _ _) (aC8 p its.toArray n dd sl v _) ⟨ho,he,_,rfl,by rw [ea]; exact q⟩⟩
theorem bI9 {op : CmpOp} {neg : Bool} (o : OpR X (compareOp op) (rIn X.K neg)) (o2 : ∀ x ds,P0 x = false → SeqAt.shaped x = true → ds.all isS = true → OpR X (compareOp op) (fun vx vy H Q=>∃ Hf,J0 Hf H ∧ Rep X.K Hf x vx ∧ Rep X.K Hf (.tuple ds) vy ∧ ∀ v H' Hf',Grow H Hf H' Hf' → Rep X.K Hf' (.bool neg) v → Q v H'))
  (o3 : ∀ x ds,SeqAt.shaped x = true → x.depth ≤ 60 → ds.all SeqAt.shaped = true → OpR X (compareOp op) (fun vx vy H Q=>∃ Hf,J0 Hf H ∧ Rep X.K Hf x vx ∧ Rep X.K Hf (.tuple ds) vy ∧ ∀ v H' Hf',Grow H Hf H' Hf' → Rep X.K Hf' (.bool (if neg then !(ds.any fun y=>PyData.eqv y x) else ds.any fun y=>PyData.eqv y x)) v → Q v H')) : OpD X (compareOp op) (inD neg):=fun x y z h=>by
 unfold inD at h
 split at h
 ·split at h
  ·rename_i c
   cases h
   refine OpR.imp o fun vx vy H Q ⟨Hf,s,r1,r2,k⟩=>?_
   obtain ⟨p,vs,rfl,h2,h3⟩:=r2
   obtain ⟨e1,e2⟩:=aa9 c.1 r1
   obtain ⟨e3,e4⟩:=ax6 c.2 h3
   subst e1 e3
   exact ⟨p,_,rfl,.inl (L4 s h2),e2,e4,k _ H Hf (Grow.refl s) rfl⟩
  ·cases h
 ·split at h
  ·rename_i c
   cases h
   refine OpR.imp o fun vx vy H Q ⟨Hf,s,r1,r2,k⟩=>?_
   obtain ⟨p,vs,rfl,h2,h3⟩:=r2
   obtain ⟨e1,e2⟩:=aa9 c.1 r1
   obtain ⟨e3,e4⟩:=ax6 c.2 h3
   subst e1 e3
   exact ⟨p,_,rfl,.inr (F0 s h2),e2,e4,k _ H Hf (Grow.refl s) rfl⟩
  ·split at h
   ·rename_i c
    cases h
    exact o2 _ _ c.1 c.2.1 c.2.2
   ·split at h
    ·rename_i c
     cases h
     exact o3 _ _ c.1 c.2.1 c.2.2
    ·cases h
 ·cases h
theorem cz1 (hu : X.A.units + 64 < cLine) : OpD X (compareOp .In) (inD false):=bI9 br9 (fun x ds f sh a pins s σ H vx vy v u Q I rx ry ⟨Hf,ss,r1,r2,k⟩=>(bI8 hu f sh a I rx ry ss r1 r2).1 ⟨.bl false,H,I,rfl,k _ H Hf (Grow.refl ss) rfl⟩)
 fun x ds sx dx sd pins s σ H vx vy v u Q I rx ry ⟨Hf,ss,r1,r2,k⟩=>(bI7 hu sx dx sd I rx ry ss r1 r2).1 ⟨.bl _,H,I,rfl,k _ H Hf (Grow.refl ss) rfl⟩
theorem bD8 (hu : X.A.units + 64 < cLine) : OpD X (compareOp .NotIn) (inD true):=bI9 aP4 (fun x ds f sh a pins s σ H vx vy v u Q I rx ry ⟨Hf,ss,r1,r2,k⟩=>(bI8 hu f sh a I rx ry ss r1 r2).2 ⟨.bl true,H,I,rfl,k _ H Hf (Grow.refl ss) rfl⟩)
 fun x ds sx dx sd pins s σ H vx vy v u Q I rx ry ⟨Hf,ss,r1,r2,k⟩=>(bI7 hu sx dx sd I rx ry ss r1 r2).2 ⟨.bl _,H,I,rfl,k _ H Hf (Grow.refl ss) rfl⟩
theorem X0 (neg : Bool) (x : Str) (ys : List Str) : inD neg (.str x) (.tuple (ys.map PyData.str)) = some (.bool (if neg then !(ys.any fun y=>y == x) else ys.any fun y=>y == x)):=by
 have f : (ys.map PyData.str).all P0 = true:=by
  rw [List.all_eq_true]
  intro d hd
  obtain ⟨y,_,rfl⟩:=List.mem_map.mp hd
  rfl
 show (if P0 (.str x) = true ∧ (ys.map PyData.str).all P0 = true then _ else _) = _
 rw [if_pos ⟨rfl,f⟩]
 have : inV (toV (.str x)) ((ys.map PyData.str).map toV) = ys.any fun y=>y == x:=by
  unfold inV
  rw [List.map_map,List.any_map]
  rfl
 rw [this]
end
end G
namespace G
open PySem PySem.Spec PyProof.Rows L2
section
variable {X : Cx}
theorem bI3 {k : Nat} {f : Addr} {fd : FuncData} {ps : List Str} {F : List D → Option D} {x : Str} {p pos : Pos} (Fk : FnOk X.prog X.w X.K X.mg X.base CX0 k f fd ps (spF X.K 0 F)) (hr : Room k X.A) (hg : Gl X x) (hm : X.mg x = some (.ref f)) (hk : PySem.W.keepIn X.K (.ref f) = true) (hb : y8 X.K fd ps [])
  (hdb : (x == ("__debug__" : Str)) = false:=by decide) : JE X (.Call (.Name x p) [] [] pos) (A8 F A7):=fun ρ d q=>by
 have h2 : F [] = some d:=q
 refine D8 (bD2 Fk hr hg hm hk hb .nil ca2 hdb) fun σ H Q ⟨H0,Hf,s,sl,kk⟩=>?_
 exact ⟨rfl,Hf,[],d,s,rfl,h2,fun v H2 Hf2 g2 r2=>kk v H2 Hf2 g2 r2⟩
end
end G
namespace G
open PySem PySem.Spec PyProof.Rows L2
def aN2 (K : PySem.W.Frag) : List D → List Value → Prop
 | [],us=>us = []
 | d :: ds,us=>∃ u r,us = u :: r ∧ bd6 K d u ∧ aN2 K ds r
section
variable {K : PySem.W.Frag}
theorem aL3 : aN2 K [] []:=rfl
theorem P5 {d : D} {ds : List D} {u : Value} {us : List Value} (h : bd6 K d u) (t : aN2 K ds us) : aN2 K (d :: ds) (u :: us):=⟨u,us,rfl,h,t⟩
theorem aL4 : ∀ {ds : List D} {us : List Value},aN2 K ds us → ∃ vs,G3 vs us ∧ ∀ H : Hp,Reps K H ds vs
 | [],_,h=>by cases h; exact ⟨[],.nil,fun _=>rfl⟩
 | d :: ds,_,⟨u,r,e,⟨v,h1,h2⟩,h3⟩=>by
  subst e
  obtain ⟨vs,q1,q2⟩:=aL4 h3
  exact ⟨v :: vs,.cons h1 q1,fun H=>⟨v,vs,rfl,h2 H,q2 H⟩⟩
theorem aF3 (i : Int) (t : Tok) : bd6 K (.int i) (.int i t):=⟨.int i,⟨t,rfl⟩,fun _=>rfl⟩
theorem aY5 {a : Addr} {o : Obj} {its : Array Value} {n : Nat} {ds : List D} (h : K.lookup a = some o) (hc : o.cls = .type "tuple") (hn : o.dict = none) (hd : o.data = .seq its n) (hz : its.size ≤ 1000) (hi : aN2 K ds its.toList) : bd6 K (.tuple ds) (.ref a):=by
 obtain ⟨vs,q1,q2⟩:=aL4 hi
 exact ⟨.ref a,rfl,fun H=>⟨a,vs,rfl,.inr ⟨o,its,n,h,hc,hn,hd,Nat.le_of_lt (av4 hz),q1⟩,q2 H⟩⟩
end
end G
namespace G
open PySem PySem.Spec PyProof.Rows L2
theorem aY0 (l : Addr) (items : Array Value) (n : Nat) (dd : Option Addr) (sl : Array (Option Value)) (u : Tok) :
  Meets (Builtin.«tuple.__mul__» ⟨[.ref l,.int 1 u],[]⟩) (fun _ R s=>s.heap.get? l = some ⟨.type "tuple", dd,.seq items n,sl⟩ ∧ R (.ok (.ret (Value.ref l))) s) :=
 .of_wp fun prog w A R s h=>by
  obtain ⟨hp,g,d,tk,os⟩:=s
  obtain ⟨hl,h⟩:=h
  wp_walk
  exact ⟨_,rfl,h⟩
section
variable {X : Cx}
theorem bD4 : OpR X (binaryOp .Mult) (fun x y H Q=>∃ l xs,x = .ref l ∧ y = .int 1 ∧ SqT X.K H l xs ∧ Q (.ref l) H):=by
 intro pins s σ H x y v u Q I rx ry h
 obtain ⟨l,xs,rfl,rfl,hq,q⟩:=h
 cases rx
 obtain ⟨t,rfl⟩:=ry
 obtain ⟨its,r,p1,_⟩:=I.tuple hq
 obtain ⟨⟨cls,dd,data,sl⟩,ho,hc,n,hd⟩:=id p1
 simp only at hc hd
 subst hc hd
 exact wpAny_binaryOp_repeat_ref (T := "tuple") (U := "int") (by decide) ⟨_,ho,rfl⟩ (fun s'=>typeIs_int s' 1 t) az5 F.fills_int_mul F.slot_int_rmul aK9 F.slot_int_index.lookup
  (call_meets F.slot_int_rmul (typeIs_int s 1 t) F.entry_int_rmul (F.args_int_rmul_2 _ _) (as4 1 t l its.toArray n dd sl) ⟨ho,rfl,⟨_,ho,rfl⟩,
   call_meets F.slot_tuple_mul ⟨_,ho,rfl⟩ F.entry_tuple_mul (F.args_tuple_mul_2 _ _) (aY0 l its.toArray n dd sl t) ⟨ho,⟨.ref l,H,I,rfl,q⟩⟩⟩)
theorem aO6 (a : Int) (t : Tok) (l : Addr) (items : Array Value) (n : Nat) (dd : Option Addr) (sl : Array (Option Value)) :
  Meets (Builtin.«int.__rmul__» ⟨[.int a t,.ref l],[]⟩) (fun _ R s=>s.heap.get? l = some ⟨.type "list", dd,.seq items n,sl⟩ ∧ R (.ok (.ret Value.notImplemented)) s):=Meets.of_wp fun prog w A R s h=>by
 obtain ⟨hp,g,d,tk,os⟩:=s
 obtain ⟨hl,h⟩:=h
 wp_walk
 exact ⟨_,rfl,h⟩
theorem aY2 (l : Addr) (items : Array Value) (n : Nat) (dd : Option Addr) (sl : Array (Option Value)) (x : Int) (u : Tok) (c0 : ¬(!Builtin.List.listFitsIndex x) = true) (c1 : ¬items.size * x.toNat > (2 ^ 63 - 1) / 8) (c2 : ¬Builtin.List.listTooLong (items.size * x.toNat) = true) :
  Meets (Builtin.«list.__mul__» ⟨[.ref l,.int x u],[]⟩) (fun _ R s=>s.heap.get? l = some ⟨.type "list", dd,.seq items n,sl⟩ ∧ R (.ok (.ret (Value.ref s.heap.objs.size))) { s with heap:=s.heap.push { cls:=Value.type "list", data:=Data.seq (List.foldl (fun x1 x2=>x1 ++ x2) #[] (List.replicate (if items.isEmpty = true then 0 else x.toNat) items)) } }):=Meets.of_wp fun prog w A R s h=>by
 obtain ⟨hp,g,d,tk,os⟩:=s
 obtain ⟨hl,h⟩:=h
 have hsz:=AutoListH.joined_fits c2
 wp_walk
 refine wpAny_ite_false (decide_eq_false (Nat.not_lt.mpr hsz)) ?_
 wp_walk
 exact ⟨_,rfl,h⟩
theorem bR7 : OpR X (binaryOp .Mult) (fun x y H Q=>∃ l k xs,x = .ref l ∧ y = .int k ∧ SqL X.K H l xs ∧ 0 ≤ k ∧ k < 1000000 ∧ xs.length * k.toNat ≤ sizeLine ∧ ∀ p,H p = none → Q (.ref p) (upd H p (.lst (List.replicate k.toNat xs).flatten))):=by
 intro pins s σ H x y v u Q I rx ry h
 obtain ⟨l,k,xs,rfl,rfl,hq,h1,h2,hz,q⟩:=h
 cases rx
 obtain ⟨t,rfl⟩:=ry
 obtain ⟨its,r,p1,_⟩:=I.list hq
 obtain ⟨⟨cls,dd,data,sl⟩,ho,hc,n,hd⟩:=p1.isList
 simp only at hc hd
 subst hc hd
 have hl:=r.length
 have hlen : its.toArray.size * k.toNat ≤ sizeLine:=by rw [List.size_toArray,← hl]; exact hz
 have hcap : ¬ its.toArray.size * k.toNat > (2 ^ 63 - 1) / 8:=by
  have : (sizeLine : Nat) ≤ (2 ^ 63 - 1) / 8:=by decide
  omega
 have hfit : ¬ (!Builtin.List.listFitsIndex k) = true:=by
  rw [fitsIndex_both (by omega) (by omega)]; exact Bool.false_ne_true
 have hlong : ¬ Builtin.List.listTooLong (its.toArray.size * k.toNat) = true:=by
  rw [ai6 hlen]; exact Bool.false_ne_true
 have hnew : List.foldl (fun x1 x2=>x1 ++ x2) #[] (List.replicate (if its.toArray.isEmpty = true then 0 else k.toNat) its.toArray) = (List.replicate k.toNat its).flatten.toArray:=by
  rw [bf2]
  cases its with
  | nil=>simp
  | cons a r'=>rw [if_neg (by simp)]
 refine wpAny_binaryOp_repeat_ref (T := "list") (U := "int") (by decide) ⟨_,ho,rfl⟩ (fun s'=>typeIs_int s' k t) noFill_list_mul F.fills_int_mul F.slot_int_rmul repeat_list F.slot_int_index.lookup
  (call_meets F.slot_int_rmul (typeIs_int s k t) F.entry_int_rmul (F.args_int_rmul_2 _ _) (aO6 k t l its.toArray n dd sl) ⟨ho,rfl,⟨_,ho,rfl⟩,
   call_meets F.slot_list_mul ⟨_,ho,rfl⟩ F.entry_list_mul (F.args_list_mul_2 _ _) (aY2 l its.toArray n dd sl k t hfit hcap hlong) ⟨ho,?_⟩⟩)
 rw [hnew]
 exact ⟨.ref _,_,I.lnew (t':=s.toks) (r.rep k.toNat) (by rw [aQ6,Nat.mul_comm]; exact hz),rfl,q _ I.fresh⟩
def J4 (x y : D) : Option D:=match x,y with
 | .tuple xs,.int k=>if k = 1 then some (.tuple xs) else f7 (.tuple xs) (.int k)
 | .list xs,.int k=>if 0 ≤ k ∧ k < 1000000 ∧ xs.length * k.toNat ≤ 16777216 then some (.list (List.replicate k.toNat xs).flatten) else none
 | x,y=>f7 x y
theorem bn6 : OpD X (binaryOp .Mult) J4:=fun x y z h=>by
 unfold J4 at h
 split at h
 ·split at h
  ·rename_i xs k c
   subst c
   cases h
   refine OpR.imp bD4 fun vx vy H Q ⟨Hf,s,r1,r2,kk⟩=>?_
   obtain ⟨a,vs,rfl,h2,h3⟩:=r1
   exact ⟨a,vs,rfl,r2,F0 s h2,kk _ _ _ (Grow.refl s) ⟨a,vs,rfl,h2,h3⟩⟩
  ·exact aP5 _ _ z h
 ·split at h
  ·rename_i xs k c
   cases h
   refine OpR.imp bR7 fun vx vy H Q ⟨Hf,s,r1,r2,kk⟩=>?_
   obtain ⟨a,vs,rfl,h2,h3⟩:=r1
   refine ⟨a,k,vs,rfl,r2,L4 s h2,c.1,c.2.1,by rw [h3.length,sizeLine_eq]; exact c.2.2,fun p hp=>?_⟩
   exact kk _ _ _ (Grow.laid s hp) ⟨p,_,rfl,SqL.of E5,(h3.flatten k.toNat).mono (G9 (s.free hp))⟩
  ·cases h
 ·exact aP5 _ _ z h
theorem aj4 (i j : Int) : C1 (.int i) (.int j) = some (.int (i + j)):=rfl
def bw9 (f : Rho → Option (Bool × List D)) (lo hi : Rho → Option (Option Int)) : DE:=fun ρ=>(f ρ).bind fun q=>(lo ρ).bind fun l=>(hi ρ).bind fun h=>if q.1 = true then none else some (.list (L6 q.2 l h))
theorem cq3 {a : Expr} {lo hi : Option Expr} {f : Rho → Option (Bool × List D)} {l h : Rho → Option (Option Int)} {pos p2 : Pos} (ha : JQ X a f) (hl : JO X lo l) (hh : JO X hi h) : JE X (.Subscript a (.Slice lo hi none p2) pos) (bw9 f l h):=fun ρ d q=>by
 obtain ⟨⟨t,xs⟩,e1,q⟩:=Option.bind_eq_some_iff.mp q
 obtain ⟨y,e2,q⟩:=Option.bind_eq_some_iff.mp q
 obtain ⟨z,e3,q⟩:=Option.bind_eq_some_iff.mp q
 cases t with
 | true=>simp at q
 | false =>
  simp only [xft,if_false] at q
  cases q
  refine D8 (as8 bm6 (ha ρ _ _ e1) (hl ρ y e2) (hh ρ z e3)) fun σ H Q ⟨H0,Hf,s,sl,k⟩=>?_
  refine ⟨H0,Hf,s,sl,fun v H1 Hf1 g1 ⟨p,vs,q1,q2,q3⟩=>⟨H0,Hf1,g1.sub,sl.grow g1,fun H2 Hf2 g2=>⟨H0,Hf2,g2.sub,sl.grow (g1.trans g2),fun H3 Hf3 g3=>?_⟩⟩⟩
  subst q1
  have q3':=q3.mono (g2.trans g3).ext
  refine ⟨p,vs,rfl,L4 (g2.trans g3).big q2,fun p' hp=>?_⟩
  exact k _ _ _ (((g1.trans g2).trans g3).trans (Grow.laid g3.sub hp)) ⟨p',_,rfl,SqL.of E5,(aE1 q3' y z).mono (G9 (g3.sub.free hp))⟩
def P3 : DS:=fun _=>none
theorem K2 {st : Stmt} : JS X st P3:=fun ρ fl q=>by cases q
def r8 (f : DE) : Rho → Option Bool:=fun ρ=>(f ρ).bind B8
theorem bG5 {op op' : CmpOp} {h1 h2 : D → D → Option D} {a b c : Expr} {f g k : DE} {pos : Pos} (o1 : OpD X (compareOp op) h1) (o2 : OpD X (compareOp op') h2) (ha : JE X a f) (hb : JE X b g) (hc : JE X c k)
  (hm : lastMarks [op,op'] [b,c] = false:=by with_unfolding_all rfl) : JT X (.Compare a [op,op'] [b,c] pos) (r8 (E2 h1 h2 f g k)):=fun ρ d q=>by
 obtain ⟨dd,q,ed⟩:=Option.bind_eq_some_iff.mp q
 have ed:=bp5 ed
 subst ed
 obtain ⟨x,e1,q⟩:=Option.bind_eq_some_iff.mp q
 obtain ⟨y,e2,q⟩:=Option.bind_eq_some_iff.mp q
 obtain ⟨z,e3,q⟩:=Option.bind_eq_some_iff.mp q
 split at q
 ·obtain ⟨w,e4,e5⟩:=Option.bind_eq_some_iff.mp q
  refine aP1 (aV8 (o1 x y _ e3) (o2 y w _ e5) (ha ρ x e1) (hb ρ y e2) (hc ρ w e4) hm) fun σ H Q ⟨H0,Hf,s,sl,kk⟩=>?_
  refine ⟨H0,Hf,s,sl,fun v H1 Hf1 g1 r1=>⟨H0,Hf1,g1.sub,sl.grow g1,fun u H2 Hf2 g2 r2=>⟨Hf2,g2.sub,r1.mono g2.ext,r2,fun z' H3 Hf3 g3 r3=>?_⟩⟩⟩
  refine ⟨true,r3,aI6 ⟨H0,Hf3,g3.sub,sl.grow ((g1.trans g2).trans g3),fun w' H4 Hf4 g4 r4=>⟨Hf4,g4.sub,r2.mono (g3.trans g4).ext,r4,fun z2 H5 Hf5 g5 r5=>?_⟩⟩⟩
  exact ⟨d,r5,kk H5 Hf5 ((((g1.trans g2).trans g3).trans g4).trans g5)⟩
 ·cases q
  intro pins s σ H Q I ⟨H0,Hf,ss,sl,kk⟩
  refine aV8 (tc:=fun _ _ _=>False) (r':=fun _ _ _ _=>False) (o1 x y _ e3) (fun _ _ _ _ _ _ _ _ _ _ _ _ h=>h.elim) (ha ρ x e1) (hb ρ y e2) (fun _ _ _ _ _ _ h=>h.elim) hm pins s σ H Q I ?_
  refine ⟨H0,Hf,ss,sl,fun v H1 Hf1 g1 r1=>⟨H0,Hf1,g1.sub,sl.grow g1,fun u H2 Hf2 g2 r2=>⟨Hf2,g2.sub,r1.mono g2.ext,r2,fun z' H3 Hf3 g3 r3=>?_⟩⟩⟩
  exact ⟨false,r3,aI7 ⟨false,rfl,kk H3 Hf3 ((g1.trans g2).trans g3)⟩⟩
 ·cases q
end
end G
namespace Sh
open PySem PySem.Spec PyProof.Rows L2 G
def ab7 : DS:=(B4 (G0 (A8 J8 (A5 (A6 0) A7)) (E2 leI leI (dC (.int 1)) (A6 0) (dC (.int 8)))))
def j9 : List D → Option D:=E9 ab7 1
def o0 : DS:=(B3 (sIf (C4 (B7 (B9 (D3 "tuple" (A6 0)))) (tB2 neD (D4 (B0 0)) (dC (.int 3)))) (B4 (dC (.bool false))) C0) (B4 (G0 (A8 j9 (A5 (dIx (B0 0) (dC (.int 0))) A7)) (G0 (A8 j9 (A5 (dIx (B0 0) (dC (.int 1))) A7)) (D3 "tuple" (dIx (B0 0) (dC (.int 2))))))))
def S4 : List D → Option D:=E9 o0 1
def S1 : DS:=(B3 (sIf (B7 (B9 (A8 S4 (A5 (A6 0) A7)))) (B4 (dC (.bool false))) C0) (B3 (D0 1 (dIx (B0 0) (dC (.int 2)))) (B4 (G0 (A9 eqD (D4 (B0 1)) (A9 J4 (dIx (B0 0) (dC (.int 0))) (dIx (B0 0) (dC (.int 1))))) (Y1 (qN (C8 1 [] (E1 (A6 1)) (C7 0) G1 (A8 L1 (A5 (A6 0) A7)))))))))
def L3 : List D → Option D:=E9 S1 2
def az0 : DS:=(B3 (R3 4 (C8 1 [0,1] (K4 (A9 J4 (A6 2) (A6 3))) (C7 0) G1 (A8 W0 (A5 (A6 1) (A5 (A9 C1 (A6 2) (A9 J4 (dC (.int 12)) (A6 0))) A7))))) (B3 (sIf (tB2 eqD (A8 B5 (A5 (A6 0) (A5 (A9 C1 (A6 1) (dC (.int 7))) (A5 (dC (.int 3)) A7)))) (dC (.int 0))) (D0 4 (A9 J4 (P8 (A6 4) E7 (D1 (dC (.int 1)))) (A9 J4 (A6 2) (A6 3)))) C0) (B4 (D2 (A5 (A6 2) (A5 (A6 3) (A5 (N9 (B0 4)) A7)))))))
def ab9 : List D → Option D:=E9 az0 5
def P9 : DS:=(B3 (sIf (C4 (B7 (B9 (D3 "tuple" (A6 0)))) (tB2 neD (D4 (B0 0)) (dC (.int 3)))) (B4 (dC (.bool false))) C0) (B3 (sIf (tB2 neD (D6 (C8 1 [] (E1 (P8 (A6 0) E7 (D1 (dC (.int 2))))) (C7 0) (C4 (B7 (B9 (A8 C2 (A5 (A6 0) A7)))) (B7 (r8 (E2 leI leI (dC (.int 1)) (A6 0) (dC (.int 8)))))) (A6 0))) (D6 A7)) (B4 (dC (.bool false))) C0) (B3 (sIf (C4 (B7 (B9 (D3 "tuple" (dIx (B0 0) (dC (.int 2)))))) (tB2 neD (D4 (qE (dIx (B0 0) (dC (.int 2))))) (A9 J4 (dIx (B0 0) (dC (.int 0))) (dIx (B0 0) (dC (.int 1)))))) (B4 (dC (.bool false))) C0) (B4 (A9 eqD (D6 (C8 1 [] (E1 (dIx (B0 0) (dC (.int 2)))) (C7 0) (B7 (B9 (A8 K6 (A5 (A6 0) A7)))) (A6 0))) (D6 A7))))))
def J1 : List D → Option D:=E9 P9 1
end Sh
namespace G
open PySem PySem.Spec PyProof.Rows L2
section
variable {prog : Program} {w : World} {A : Around} {E : Value → Shared → Prop} {s : Shared} {t : Bool}
end
section
variable {X : Cx}
def cB8 (ds : List D) : List D:=(List.range ds.length).zip ds |>.map fun (k,d)=>PyData.tuple [.int (k : Nat),d]
def cB5 (f : Rho → Option (Bool × List D)) : Rho → Option (List D):=fun ρ=>(f ρ).map fun q=>cB8 q.2
end
end G
namespace G
open PySem PySem.Spec PyProof.Rows L2
section
variable {prog : Program} {w : World} {A : Around} {E : Value → Shared → Prop} {s : Shared}
theorem aD3 {l b sl : Addr} {items new : Array Value} {n n2 : Nat} {vl vu : Value} {lo hi : Option Int} {Q : Unit → Shared → Prop}
    (e : s.heap.get? l = some { cls:=.type "list", data:=.seq items n }) (e2 : s.heap.get? b = some { cls:=.type "list", data:=.seq new n2 }) (hne : l ≠ b)
    (hs : s.heap.IsSliceOf sl vl vu .none) (pl : IsPart vl lo) (pu : IsPart vu hi) (hsz : items.size + new.size ≤ sizeLine)
    (h : Q () { s with heap:=s.heap.update l (Obj.mapSeq fun xs=>xs.extract 0 (HT.sIx items.size 0 lo) ++ new ++ xs.extract (max (HT.sIx items.size 0 lo) (HT.sIx items.size items.size hi)) xs.size) }) :
    wpAny (model prog w) A (setItem (.ref l) (.ref sl) (.ref b)) Q E s:=by
  have hl : s.heap.IsList l items:=PySem.IsL.isList e
  have hb : s.heap.IsList b new:=PySem.IsL.isList e2
  obtain ⟨os,hos,hcs,hds⟩:=id hs
  have hTs : s.TypeIs (.ref sl) "slice" := ⟨os,hos,hcs⟩
  have hstep : ¬ ((rawPart none == rawInt 0) = true):=Bool.false_ne_true
  have hsame : Builtin.List.listSameRef (.ref l) (.ref b) = false:=by
    unfold Builtin.List.listSameRef
    exact beq_eq_false_iff_ne.mpr hne
  have hbd : sliceBounds lo hi none items.size = (((HT.sIx items.size 0 lo : Nat) : Int),((HT.sIx items.size items.size hi : Nat) : Int),1):=by
    obtain ⟨h1,h2,h3⟩:=as2 lo hi items.size
    exact Prod.ext h1 (Prod.ext h2 h3)
  have hmax : (max ((HT.sIx items.size 0 lo : Nat) : Int) ((HT.sIx items.size items.size hi : Nat) : Int)).toNat = max (HT.sIx items.size 0 lo) (HT.sIx items.size items.size hi):=by omega
  have hz' : ((fun xs : Array Value=>xs.extract 0 (HT.sIx items.size 0 lo) ++ new ++ xs.extract (max (HT.sIx items.size 0 lo) (HT.sIx items.size items.size hi)) xs.size) items).size ≤ sizeLine + 1:=by
    simp only [Array.size_append,Array.size_extract]
    omega
  unfold setItem
  try with_reducible refine wpAny_holding ?_
  first | refine wpAny_bind (wpAny_pure ?_) | skip
  refine wpAny_bind (wpAny_sequenceKey hl.typeIs (by decide) ?_)
  refine wpAny_bind (wpAny_callSpecial?_slot (name:=Str.ofString "__setitem__") hl.typeIs slot_list_setitem (wpAny_call_entry slot_list_setitem hl.typeIs entry_list_setitem ?_ (args_list_setitem _ _ _)))
  show wpAny _ _ (Builtin.List.listSubscript? (.ref sl) >>= _) _ _ s
  refine wpAny_bind ?_
  unfold Builtin.List.listSubscript?
  refine wpAny_bind (wpAny_specialOf hTs slice_no_index ?_)
  simp only [Option.isNone_none,if_true]
  refine wpAny_pure ?_
  show wpAny _ _ (typeOf (.ref sl) >>= _) _ _ s
  refine wpAny_bind (wpAny_typeOf hTs ?_)
  first
    | rw [if_neg (by decide)]
    | refine PySem.W.KFB.if_not (by decide) ?_
  rw [listSliceParts_eq]
  refine wpAny_bind (wpAny_bind (wpAny_field hos hds (x:=.none) rfl (wpAny_bind (wpAny_listPart .none ?_))))
  rw [if_neg hstep]
  refine wpAny_bind (wpAny_field hos hds (x:=vl) rfl (wpAny_bind (wpAny_listPart pl ?_)))
  refine wpAny_bind (wpAny_field hos hds (x:=vu) rfl (wpAny_bind (wpAny_listPart pu (wpAny_pure ?_))))
  first
    | simp only [hsame,xft,if_false]
    | refine PySem.W.KFB.if_not hsame ?_
    | (dsimp only
       rw [if_neg (by rw [hsame]; exact Bool.false_ne_true)])
  refine wpAny_bind (m:=Builtin.List.listAllItems (.ref b) "must assign iterable to extended slice") ?_
  unfold Builtin.List.listAllItems
  refine wpAny_bind (wpAny_typeOf hb.typeIs ?_)
  first
    | refine PySem.W.KFB.if_so (by decide) ?_
    | rw [if_pos (by decide)]
    | simp only [beq_self_eq_true,Bool.true_or,if_true]
  unfold Builtin.List.listItems
  refine wpAny_bind (wpAny_seqItems e2 rfl (wpAny_pure ?_))
  refine wpAny_bind (wpAny_bind (wpAny_seqItems e rfl (wpAny_pure ?_)))
  refine wpAny_bind (wpAny_of_eq ((sliceIndices_raw lo hi none items.size (by simp)).trans (congrArg (pure : Int × Int × Int → Sem (Int × Int × Int)) hbd)) ?_)
  show wpAny _ _ (if ((1 : Int) == 1) = true then _ else _) _ _ s
  rw [if_pos (by decide)]
  refine wpAny_bind (wpAny_rule ?_)
  first
    | simp only [ai6 hsz,xft,if_false]
    | refine PySem.W.KFB.if_not (ai6 hsz) ?_
  first | refine wpAny_bind (wpAny_pure ?_) | skip
  show wpAny _ _ (updateSeq l (fun xs=>xs.extract 0 (((HT.sIx items.size 0 lo : Nat) : Int)).toNat ++ new ++ xs.extract (max ((HT.sIx items.size 0 lo : Nat) : Int) ((HT.sIx items.size items.size hi : Nat) : Int)).toNat xs.size) >>= _) _ _ s
  rw [hmax,Int.toNat_natCast]
  refine wpAny_bind (wpAny_updateSeq (hz:=Nat.le_trans (Nat.le_add_right _ _) hsz) (_hz':=hz') e rfl ?_)
  refine wpAny_bind (wpAny_letGo ?_)
  first
    | exact wpAny_bind (wpAny_pure (wpAny_pure ⟨.none,rfl,wpAny_pure h⟩))
    | exact wpAny_pure ⟨.none,rfl,wpAny_pure h⟩
end
section
variable {X : Cx}
def aC9 {α : Type} (xs : List α) (lo hi : Option Int) (ys : List α) : List α:=xs.take (HT.sIx xs.length 0 lo) ++ ys ++ xs.drop (max (HT.sIx xs.length 0 lo) (HT.sIx xs.length xs.length hi))
theorem bf0 {pins : List (Addr × Obj)} {s : Shared} {σ : L2.St} {H : Hp} {l b sl : Addr} {xs ys : List V} {lo hi : Option Int} {vl vu : Value} {Q : Unit → Shared → Prop} (I : Inv X pins σ H s)
  (hH : H l = some (.lst xs)) (hB : H b = some (.lst ys)) (hne : l ≠ b) (hs : s.heap.IsSliceOf sl vl vu .none) (pl : IsPart vl lo) (pu : IsPart vu hi)
  (hz : xs.length + ys.length ≤ sizeLine) (h : ∀ s',Inv X pins σ (upd H l (.lst (aC9 xs lo hi ys))) s' → Q () s') :
  wpAny (model X.prog X.w) X.A (setItem (.ref l) (.ref sl) (.ref b)) Q X.xe s:=by
 obtain ⟨z,its,n,r,hl,e⟩:=I.lstM hH
 obtain ⟨z2,its2,n2,r2,hl2,e2⟩:=I.lstM hB
 refine aD3 e e2 hne hs pl pu (by rw [List.size_toArray,List.size_toArray]; omega) (h _ ?_)
 have hz0 : its.toArray.size = xs.length:=by rw [List.size_toArray]; exact hl.symm
 refine I.lset (its':=its.take (HT.sIx xs.length 0 lo) ++ its2 ++ its.drop (max (HT.sIx xs.length 0 lo) (HT.sIx xs.length xs.length hi))) (t':=s.toks) hH e ?_ (G3.append (G3.append (r.take _) r2) (r.drop _)) ?_
 ·have e0:=bq8 its its2 (HT.sIx xs.length 0 lo) (max (HT.sIx xs.length 0 lo) (HT.sIx xs.length xs.length hi))
  rw [hz0] at e0 ⊢
  exact e0
 ·unfold aC9
  rw [List.length_append,List.length_append,List.length_take,List.length_drop]
  omega
theorem bB8 {K : PySem.W.Frag} {H : Hp} {ds es : List D} {vs us : List V} (h : Reps K H ds vs) (g : Reps K H es us) (lo hi : Option Int) : Reps K H (aC9 ds lo hi es) (aC9 vs lo hi us):=by
 unfold aC9
 rw [h.length]
 exact ((h.take _).append g).append (h.drop _)
theorem Slots.reOwn {K : PySem.W.Frag} {H0 H Hf : Hp} {ρ : Rho} {σ : L2.St} {i : Nat} {ds ds' : List D} {b : Addr} {vs' : List V} (sl : Slots K H0 ρ σ H Hf) (eo : ρ[i]? = some (some (.own ds))) (h1 : σ[i]? = some (some (.ref b))) (hf : Hf b = none) (h0 : H0 b = none) (r : Reps K Hf ds' vs') :
  Slots K H0 (ρ.set i (some (.own ds'))) σ (upd H b (.lst vs')) Hf:=by
 refine ⟨by simpa using sl.len,fun j bb z=>?_,fun j k ds1 es c q1 q2 q3 q4=>?_⟩
 ·by_cases qj : i = j
  ·subst qj
   have hi : i < ρ.length:=(List.getElem?_eq_some_iff.mp eo).1
   rw [List.getElem?_set_self hi] at z
   cases z
   exact ⟨_,h1,b,vs',rfl,E5,hf,h0,r⟩
  ·rw [List.getElem?_set_ne qj] at z
   obtain ⟨u,z1,z2⟩:=sl.is j bb z
   refine ⟨u,z1,?_⟩
   cases bb with
   | val d=>exact z2
   | own dd =>
    obtain ⟨a',us',y1,y2,y3,y4,y5⟩:=z2
    have ne : a' ≠ b:=fun zz=>by
     subst zz y1
     exact qj (sl.apart i j ds dd a' eo z h1 z1)
    exact ⟨a',us',y1,by rw [F5 ne]; exact y2,y3,y4,y5⟩
 ·have f : ∀ (j : Nat) (es : List D),(ρ.set i (some (B.own ds')))[j]? = some (some (B.own es)) → ∃ dd : List D,ρ[j]? = some (some (B.own dd)):=fun j es q=>by
   by_cases qj : i = j
   ·subst qj; exact ⟨ds,eo⟩
   ·rw [List.getElem?_set_ne qj] at q; exact ⟨_,q⟩
  obtain ⟨d1,q1'⟩:=f j _ q1
  obtain ⟨d2,q2'⟩:=f k _ q2
  exact sl.apart j k d1 d2 c q1' q2' q3 q4
def bB5 (i : Nat) (lo hi : Rho → Option (Option Int)) (f : Rho → Option (List D)) : DS:=fun ρ=>(f ρ).bind fun es=>(lo ρ).bind fun l=>(hi ρ).bind fun h=>match ρ[i]? with
 | some (some (.own ds))=>if ds.length + es.length ≤ 16777216 then some (.nx (ρ.set i (some (.own (aC9 ds l h es))))) else none
 | _=>none
theorem co3 (i : Nat) {x : Str} {e : Expr} {lo hi : Option Expr} {f : Rho → Option (List D)} {l h : Rho → Option (Option Int)} {p p2 pos' pos : Pos} (he : JN X e f) (hl : JO X lo l) (hh : JO X hi h) (hN : X.N[i]? = some x:=by rfl)
  (hv : Vis X.env.scope x:=by first | exact Or.inl rfl | exact Or.inr (Or.inl rfl) | exact Or.inr (Or.inr rfl)) (hd : (x == ("__debug__" : Str)) = false:=by decide) (hcd : (x == ("__classdict__" : Str)) = false:=by decide)
  (hsw : swapsWith e (some (.Subscript (.Name x p) (.Slice lo hi none p2) pos')) pos.line X.env = pure false:=by rfl) : JS X (.Assign [.Subscript (.Name x p) (.Slice lo hi none p2) pos'] e pos) (bB5 i l h f):=fun ρ fl q H0 Hf0=>by
 obtain ⟨es,e1,q⟩:=Option.bind_eq_some_iff.mp q
 obtain ⟨y,e2,q⟩:=Option.bind_eq_some_iff.mp q
 obtain ⟨z,e3,q⟩:=Option.bind_eq_some_iff.mp q
 split at q
 ·rename_i ds eo
  split at q
  ·rename_i hz
   cases q
   intro pins s σ H En I ⟨Hf,a,ee⟩
   refine wpAny_Assign_Subscript (thn (he ρ es e1 pins s σ H (fun v H'=>∃ Hf',Grow H Hf H' Hf' ∧ ∃ b us,v = .ref b ∧ H b = none ∧ H' b = some (.lst us) ∧ Hf' b = none ∧ Reps X.K Hf' es us) I ⟨H0,Hf,a.gr.sub,a.sl,fun v H' Hf' g r=>⟨Hf',g,r⟩⟩) fun v s1 ⟨x1,H1,I1,r1,Hf1,g1,b,us,ev,b1,b2,b3,b4⟩=>?_) hsw
   subst ev
   cases r1
   obtain ⟨vl0,h1,c,vs,ev,h2,h3,h4,h5⟩:=a.sl.is i _ eo
   subst ev
   refine thn (aq0 hN hv hd hcd pins s1 σ H1 (fun v H'=>v = .ref c ∧ H' = H1) I1 ⟨_,h1,rfl,rfl⟩) fun ov s2 ⟨x2,H2,I2,r2,ex,eH⟩=>?_
   subst ex eH
   cases r2
   have sl1:=a.sl.grow g1
   refine wpAny_Slice (thn (hl ρ y e2 pins s2 σ H2 (fun o H'=>o = y ∧ ∃ Hf',Grow H2 Hf1 H' Hf') I2 ⟨H0,Hf1,g1.sub,sl1,fun H' Hf' g=>⟨rfl,Hf',g⟩⟩) fun wl s3 ⟨o3,H3,I3,pl,eo3,Hf3,g3⟩=>?_)
   subst eo3
   have sl3:=sl1.grow g3
   refine thn (hh ρ z e3 pins s3 σ H3 (fun o H'=>o = z ∧ ∃ Hf',Grow H3 Hf3 H' Hf') I3 ⟨H0,Hf3,g3.sub,sl3,fun H' Hf' g=>⟨rfl,Hf',g⟩⟩) fun wu s4 ⟨o4,H4,I4,pu,eo4,Hf4,g4⟩=>?_
   subst eo4
   have sl4:=sl3.grow g4
   have gg : Grow H Hf H4 Hf4:=(g1.trans g3).trans g4
   rw [evalPart_none]
   refine wpAny_pure ?_
   have I5 : Inv X pins σ H4 { s4 with heap:=s4.heap.push { cls:=.type "slice", data:=.fields #[wl,wu,.none] } }:=I4.kept (t':=s4.toks) fun b ob q=>Heap.get?_push_of_some _ q
   have hc : H4 c = some (.lst vs):=gg.big _ _ h2
   have hb : H4 b = some (.lst us):=(g3.trans g4).big _ _ b2
   have hcb : c ≠ b:=fun zz=>by subst zz; rw [h2] at b1; cases b1
   have hfc : Hf4 c = none:=gg.nofr h2 h3
   have rd : Reps X.K Hf4 (aC9 ds o3 o4 es) (aC9 vs o3 o4 us):=bB8 (h5.mono gg.ext) (b4.mono (g3.trans g4).ext) _ _
   refine bf0 I5 hc hb hcb (Heap.IsSliceOf.new ..) pl pu (by rw [h5.length,b4.length,sizeLine_eq]; exact hz) fun s' I'=>?_
   have ga:=a.gr.trans gg
   refine ⟨σ,_,I',ee σ _ Hf4 ⟨⟨fun d u zz=>?_,fun d u zz=>?_,ga.ext,ga.new⟩,sl4.reOwn eo h1 hfc h4 rd⟩ gg.ext⟩
   ·rw [F5 (G4 zz h4)]; exact ga.big d u zz
   ·rw [F5 (G4 zz hfc)]; exact ga.sub d u zz
  ·cases q
 ·cases q
theorem bU8 (i : Nat) {N' : List Str} {n : Nat} {caps : List Nat} {scope : Scope} {elt tgt iter : Expr} {ifs : List Expr} {pos pos' spos : Pos} {x : Str} {src : Rho → Option (List D)} {g : D → Rho → Option Rho} {c : Rho → Option Bool} {e : DE} (hN : X.N.Nodup) (S : CompSc X N' n caps scope) (hx : ∀ e s,X.xe e s → False)
  (hi : JI X tgt iter src) (hg : ∀ C s0 H0 ex,JG (G6 X N' scope C s0 H0 ex) tgt g) (ht : ∀ C s0 H0 ex,JTs (G6 X N' scope C s0 H0 ex) ifs c) (he : ∀ C s0 H0 ex,JE (G6 X N' scope C s0 H0 ex) elt e)
  (hi2 : X.N[i]? = some x:=by rfl) (hl : X.env.scope.names.lookup x = some .local:=by rfl) (hsw : swapsWith (.ListComp elt [⟨tgt,iter,ifs,0⟩] scope pos) (some (.Name x pos')) spos.line X.env = pure true:=by rfl)
  (hc : X.calm = true:=by rfl) (hs : ∀ x,foldedSetIterable iter X.env x = pure x:=by intro _; rfl) : JS X (.Assign [.Name x pos'] (.ListComp elt [⟨tgt,iter,ifs,0⟩] scope pos) spos) (r9 i (C8 n caps src g c e)):=fun ρ fl q H0 Hf0=>by
 obtain ⟨out,e1,e2⟩:=Option.map_eq_some_iff.mp q
 subst e2
 obtain ⟨ds,e3,k⟩:=aq9 (K:=X.K) e1
 refine Q6 (aE6 S hx hc hN hi2 hl (hi ρ ds e3) (g:=tgJ X.K g) (tc:=aK1 X.K c) (te:=bm0 X.K e) hg ht (fun C s0 H0 ex pins s σ H Q I ⟨ρ,d,e,t⟩=>he C s0 H0 ex ρ d e pins s σ H Q I t) hsw hs) fun En σ H ⟨Hf,a,ee⟩=>k σ H _ ⟨H0,Hf,a.gr.sub,a.sl,fun v H' Hf' gg ⟨p,vs,z1,z2,z3,z4,z5⟩=>?_⟩
 subst z1
 exact ee _ H' Hf' ⟨a.gr.trans gg,a.sl.setOwn gg (a.gr.big.free z2) z2 z3 z4 z5⟩ gg.ext
def bZ5 : DS:=fun ρ=>some (.ct ρ)
theorem bU9 {pos : Pos} : JS X (.Continue pos) bZ5:=fun ρ fl q H0 Hf0=>by
 cases q
 exact Q6 aV9 fun En σ H ⟨Hf,a,e⟩=>e σ H Hf a (J0.refl _)
end
end G
namespace G
open PySem PySem.Spec PyProof.Rows L2
section
variable {X : Cx}
def aA0 (x : Str) (k : Int) : Str:=if (k == 1 || x.length == 0) = true then x else ⟨(List.replicate k.toNat x.cps).foldl (· ++ ·) #[]⟩
def bu3 (x y : D) : Option D:=match x,y with
 | .str x,.int k=>if 1 ≤ k ∧ k ≤ 2 ∧ x.length ≤ 1000 ∧ (aA0 x k).length ≤ 16777216 then some (.str (aA0 x k)) else none
 | _,_=>none
theorem bS5 : OpD X (binaryOp .Mult) bu3:=fun x y z h=>by
 unfold bu3 at h
 split at h
 ·split at h
  ·rename_i x k c
   cases h
   intro pins s σ H vx vy v u Q I rx ry ⟨Hf,ss,r1,r2,kk⟩
   cases r1
   cases r2
   obtain ⟨t,rfl⟩:=rx
   obtain ⟨t2,rfl⟩:=ry
   have w:=kk (.str (aA0 x k)) H Hf (Grow.refl ss) rfl
   have k12 : k = 1 ∨ k = 2:=by omega
   refine P.mul_str (by rw [decide_eq_false (by omega),decide_eq_false (by omega)]; rfl) (fun _ _=>by rcases k12 with rfl | rfl <;> omega) (fun _ _=>?_) ?_
   ·unfold Builtin.Str.tooLong
    rw [sizeLine_eq]
    refine decide_eq_false ?_
    rcases k12 with rfl | rfl <;> simp <;> omega
   ·rw [if_neg (by omega)]
    unfold aA0 at w c
    split
    ·rename_i e
     rw [if_pos e] at w
     exact ⟨.str x,H,I,⟨_,rfl⟩,w⟩
    ·rename_i e
     rw [if_neg e] at w c
     exact ⟨by rw [sizeLine_eq]; exact c.2.2.2,.str _,H,I.tok _,⟨_,rfl⟩,w⟩
  ·cases h
 ·cases h
def slS (x : Str) (lo hi : Option Int) : Str:=if ((1 : Int) == 1 && (Builtin.Str.strSliceIndices lo hi 1 x.length).length == x.length) = true then x else ⟨((Builtin.Str.strSliceIndices lo hi 1 x.length).filterMap (x.cps[·]?)).toArray⟩
def bw8 (f : DE) (lo hi : Rho → Option (Option Int)) : DE:=fun ρ=>(f ρ).bind fun d=>(lo ρ).bind fun l=>(hi ρ).bind fun h=>match d with
 | .str x=>if x.length ≤ 1000 ∧ (slS x l h).length ≤ 16777216 then some (.str (slS x l h)) else none
 | _=>none
theorem bn3 {u : Value} {o : Option Int} (h : IsPart u o) : ∃ p : Option (Int × Tok),u = partValue p ∧ p.map (·.1) = o:=by
 cases h with
 | none=>exact ⟨none,rfl,rfl⟩
 | int i t=>exact ⟨some (i,t),rfl,rfl⟩
theorem bO9 : SlR X (fun x lo hi H Q=>∃ z,x = .str z ∧ (slS z lo hi).length ≤ 16777216 ∧ Q (.str (slS z lo hi)) H):=by
 intro pins s σ H x v vl vu lo hi sl Q I rx hs pl pu h
 obtain ⟨z,rfl,hz,q⟩:=h
 obtain ⟨t,rfl⟩:=rx
 obtain ⟨pl',rfl,rfl⟩:=bn3 pl
 obtain ⟨pu',rfl,rfl⟩:=bn3 pu
 refine ⟨"str", _,F.slot_str_getitem.lookup,typeIs_str s z t,wpAny_getItem_str_slice (l:=pl') (u:=pu') (st:=none) hs rfl ?_⟩
 show (if ((1 : Int) == 1 && (Builtin.Str.strSliceIndices (pl'.map (·.1)) (pu'.map (·.1)) 1 z.length).length == z.length) = true then Made.val (.str z t) else Made.str ⟨((Builtin.Str.strSliceIndices (pl'.map (·.1)) (pu'.map (·.1)) 1 z.length).filterMap (z.cps[·]?)).toArray⟩).post _ _
 unfold slS at q hz
 by_cases e : ((1 : Int) == 1 && (Builtin.Str.strSliceIndices (pl'.map (·.1)) (pu'.map (·.1)) 1 z.length).length == z.length) = true
 ·rw [if_pos e] at q ⊢
  exact ⟨.str z,H,I,⟨_,rfl⟩,q⟩
 ·rw [if_neg e] at q hz ⊢
  exact ⟨by rw [sizeLine_eq]; exact hz,.str _,H,I.tok _,⟨_,rfl⟩,q⟩
theorem cq2 {a : Expr} {lo hi : Option Expr} {f : DE} {l h : Rho → Option (Option Int)} {pos p2 : Pos} (ha : JE X a f) (hl : JO X lo l) (hh : JO X hi h) : JE X (.Subscript a (.Slice lo hi none p2) pos) (bw8 f l h):=fun ρ d q=>by
 obtain ⟨x,e1,q⟩:=Option.bind_eq_some_iff.mp q
 obtain ⟨y,e2,q⟩:=Option.bind_eq_some_iff.mp q
 obtain ⟨z,e3,q⟩:=Option.bind_eq_some_iff.mp q
 cases x with
 | str x =>
  simp only at q
  split at q
  ·rename_i c
   cases q
   refine D8 (as8 bO9 (ha ρ _ e1) (hl ρ y e2) (hh ρ z e3)) fun σ H Q ⟨H0,Hf,s,sl,k⟩=>?_
   refine ⟨H0,Hf,s,sl,fun v H1 Hf1 g1 r1=>⟨H0,Hf1,g1.sub,sl.grow g1,fun H2 Hf2 g2=>⟨H0,Hf2,g2.sub,sl.grow (g1.trans g2),fun H3 Hf3 g3=>?_⟩⟩⟩
   exact ⟨x,r1,c.2,k _ H3 Hf3 ((g1.trans g2).trans g3) rfl⟩
  ·cases q
 | _=>cases q
def bf1 (i : Nat) (f : DE) : DS:=fun ρ=>match ρ[i]? with
 | some (some (.own ds))=>(f ρ).bind fun d=>match d with
  | .list es=>if ds.length + es.length ≤ 16777216 then some (.nx (ρ.set i (some (.own (ds ++ es))))) else none
  | .tuple es=>if ds.length + es.length ≤ 16777216 then some (.nx (ρ.set i (some (.own (ds ++ es))))) else none
  | _=>none
 | _=>none
end
end G
namespace Sh
open PySem PySem.Spec PyProof.Rows L2 G
def az1 : DS:=(B4 (dIx (B0 0) (dC (.int 0))))
def V1 : List D → Option D:=E9 az1 1
def aH7 : DS:=(B4 (A9 eqD (A8 V1 (A5 (A6 0) A7)) (dC (.str "layer"))))
def ag0 : List D → Option D:=E9 aH7 1
def aN9 : DS:=(B4 (A9 eqD (A8 V1 (A5 (A6 0) A7)) (dC (.str "tone"))))
def an3 : List D → Option D:=E9 aN9 1
def az8 : DS:=(B4 (dIx (B0 0) (dC (.int 2))))
def P1 : List D → Option D:=E9 az8 1
def aN3 : DS:=(B4 (dIx (B0 0) (dC (.int 2))))
def am8 : List D → Option D:=E9 aN3 1
def ao6 : DS:=(B4 (dIx (B0 0) (dC (.int 3))))
def Q5 : List D → Option D:=E9 ao6 1
def aH6 : DS:=(B4 (dIx (B0 0) (dC (.int 4))))
def p9 : List D → Option D:=E9 aH6 1
def bz8 : DS:=(B4 (dIx (B0 0) (dC (.int 5))))
def an0 : List D → Option D:=E9 bz8 1
def bN7 : DS:=(B4 (dIx (B0 0) (dC (.int 6))))
def au9 : List D → Option D:=E9 bN7 1
def bz7 : DS:=(B4 (dIx (B0 0) (dC (.int 7))))
def am9 : List D → Option D:=E9 bz7 1
def bl5 : DS:=(B4 (dIx (B0 0) (dC (.int 8))))
def o9 : List D → Option D:=E9 bl5 1
def aJ7 : DS:=(B4 (dIx (B0 0) (dC (.int 5))))
def J9 : List D → Option D:=E9 aJ7 1
def aN7 : DS:=(B3 (D0 3 (A9 eqD (A8 B5 (A5 (A6 0) (A5 (A6 1) (A5 (dC (.int 2)) A7)))) (dC (.int 0)))) (B3 (r9 4 A7) (B3 (aa2 (K4 (A6 2)) (C7 5) (B3 (D0 6 (aG4 (dC (.str "")) (qN (C8 1 [0,1,5] (K4 (dC (.int 2))) (C7 0) G1 (aq8 (dC (.str "abcdefghijklmnopqrstuvwxyz")) (A8 B5 (A5 (A6 1) (A5 (A9 C1 (A9 C1 (A9 C1 (A6 2) (dC (.int 1))) (A9 J4 (dC (.int 3)) (A6 3))) (A6 0)) (A5 (dC (.int 26)) A7))))))))) (B3 (D0 6 (A9 bu3 (bw8 (A6 6) E7 (D1 (A8 B5 (A5 (A6 0) (A5 (A9 C1 (A9 C1 (A6 1) (dC (.int 3))) (A9 J4 (dC (.int 3)) (A6 5))) (A5 (dC (.int 3)) A7)))))) (dIx (qN (A5 (dC (.int 1)) (A5 (dC (.int 2)) A7))) (A8 B5 (A5 (A6 0) (A5 (A9 C1 (A9 C1 (A6 1) (dC (.int 2))) (A9 J4 (dC (.int 3)) (A6 5))) (A5 (dC (.int 2)) A7))))))) (aa3 4 (dIx (qN (A5 (A9 C1 (A6 6) (aq8 (dC (.str "abcdefghijklmn")) (A6 5))) (A5 (A9 C1 (aq8 (dC (.str "abcdefghijklmn")) (A6 5)) (A6 6)) A7))) (Z4 (A6 3))))))) (ax4 4 (B4 (A6 4))))))
def ac0 : List D → Option D:=E9 aN7 7
def ah2 : DS:=(D0 4 (A8 L0 (A5 (A6 0) (A5 (A6 1) A7))))
def ah1 : DS:=(D0 5 (A9 gtI (A8 B5 (A5 (A6 0) (A5 (A9 C1 (A6 1) (dC (.int 3))) (A5 (dC (.int 6)) A7)))) (dC (.int 0))))
def X5 : DS:=(sIf (tB2 eqD (A8 B5 (A5 (A6 0) (A5 (A9 C1 (A6 1) (dC (.int 4))) (A5 (dC (.int 6)) A7)))) (dC (.int 0))) (B4 (D2 (A5 (dC (.str "tone")) (A5 (A6 2) (A5 (dIx (qN (A5 (dC (.str "turn")) (A5 (dC (.str "grey")) (A5 (dC (.str "round")) A7)))) (A8 B5 (A5 (A6 0) (A5 (A9 C1 (A6 1) (dC (.int 5))) (A5 (dC (.int 3)) A7))))) (A5 (A6 4) (A5 (A6 5) A7))))))) C0)
def ah0 : DS:=(D0 6 (dIx (qN (A5 (dC (.str "over")) (A5 (dC (.str "multiply")) (A5 (dC (.str "screen")) (A5 (dC (.str "plus")) (A5 (dC (.str "atop")) (A5 (dC (.str "cut")) A7))))))) (A8 B5 (A5 (A6 0) (A5 (A9 C1 (A6 1) (dC (.int 5))) (A5 (dC (.int 6)) A7))))))
def u6 : DS:=(sIf (tB2 gtI (A8 B5 (A5 (A6 0) (A5 (A9 C1 (A6 1) (dC (.int 6))) (A5 (dC (.int 3)) A7)))) (dC (.int 0))) (D0 6 (A6 3)) C0)
def ag9 : DS:=(D0 7 (A9 C1 (dC (.int 1)) (A8 B5 (A5 (A6 0) (A5 (A9 C1 (A6 1) (dC (.int 7))) (A5 (dC (.int 3)) A7))))))
def ag8 : DS:=(D0 8 (A9 C1 (dC (.int 1)) (A8 B5 (A5 (A6 0) (A5 (A9 C1 (A6 1) (dC (.int 8))) (A5 (dC (.int 3)) A7))))))
def ag7 : DS:=(D0 9 (dC .none))
def u5 : DS:=(sIf (tB2 eqD (A8 B5 (A5 (A6 0) (A5 (A9 C1 (A6 1) (dC (.int 9))) (A5 (dC (.int 3)) A7)))) (dC (.int 0))) (D0 9 (N9 (qN (C8 1 [0,1] (K4 (A9 J4 (A6 7) (A6 8))) (C7 0) G1 (A8 L0 (A5 (A6 1) (A5 (A9 C1 (A9 C1 (A6 2) (dC (.int 20))) (A9 J4 (dC (.int 3)) (A6 0))) A7))))))) C0)
def ag6 : DS:=(D0 10 (A9 ag3 (A8 B5 (A5 (A6 0) (A5 (A9 C1 (A6 1) (dC (.int 10))) (A5 (dC (.int 4)) A7)))) (dC (.int 1))))
def ac5 : DS:=(D0 11 (A9 ag3 (A8 B5 (A5 (A6 0) (A5 (A9 C1 (A6 1) (dC (.int 11))) (A5 (dC (.int 4)) A7)))) (dC (.int 1))))
def Z6 : DS:=(sIf (tB2 eqD (A8 B5 (A5 (A6 0) (A5 (A9 C1 (A6 1) (dC (.int 12))) (A5 (dC (.int 3)) A7)))) (dC (.int 0))) (Y9 (D2 (A5 (dC (.int 3)) (A5 (dC (.int 3)) (A5 (dC (.int 0)) (A5 (dC (.int 0)) (A5 (dC .none) A7)))))) (Q2 5 (F6 (C7 7) (F6 (C7 8) (F6 (C7 10) (F6 (C7 11) (F6 (C7 9) Q9))))))) C0)
def ac4 : DS:=(D0 12 (A8 ab9 (A5 (A6 0) (A5 (A9 C1 (A6 1) (dC (.int 50))) (A5 (A6 7) (A5 (A6 8) A7))))))
def ac3 : DS:=(B4 (D2 (A5 (dC (.str "layer")) (A5 (A6 2) (A5 (A6 6) (A5 (A6 4) (A5 (A6 5) (A5 (A6 10) (A5 (A6 11) (A5 (A6 9) (A5 (A6 12) A7)))))))))))
def aH4 : DS:=(B3 ah2 (B3 ah1 (B3 X5 (B3 ah0 (B3 u6 (B3 ag9 (B3 ag8 (B3 ag7 (B3 u5 (B3 ag6 (B3 ac5 (B3 Z6 (B3 ac4 ac3)))))))))))))
def T9 : List D → Option D:=E9 aH4 13
def aN6 : DS:=(B3 (D0 4 (dIx (qN (A5 (dC (.str "over")) (A5 (dC (.str "multiply")) (A5 (dC (.str "screen")) (A5 (dC (.str "plus")) A7))))) (A8 B5 (A5 (A6 0) (A5 (A6 1) (A5 (dC (.int 4)) A7)))))) (B3 (D0 5 (A8 B5 (A5 (A6 0) (A5 (A9 C1 (A6 1) (dC (.int 1))) (A5 (A9 C1 (A6 2) (dC (.int 1))) A7))))) (B3 (r9 6 (C8 1 [0,4,3,1] (K4 (A6 5)) (C7 0) G1 (A8 T9 (A5 (A6 1) (A5 (A9 C1 (A9 C1 (A6 4) (dC (.int 20))) (A9 J4 (dC (.int 170)) (A6 0))) (A5 (dIx (B0 3) (A6 0)) (A5 (A6 2) A7))))))) (B3 (aa2 (K4 (A8 B5 (A5 (A6 0) (A5 (A9 C1 (A6 1) (dC (.int 2))) (A5 (dC (.int 3)) A7))))) (C7 7) (B3 (D0 8 (A8 B5 (A5 (A6 0) (A5 (A9 C1 (A9 C1 (A6 1) (dC (.int 3))) (A9 J4 (dC (.int 5)) (A6 7))) (A5 (A9 C1 (D4 (B0 6)) (dC (.int 1))) A7))))) (B3 (D0 9 (A9 C1 (A6 8) (A8 B5 (A5 (A6 0) (A5 (A9 C1 (A9 C1 (A6 1) (dC (.int 4))) (A9 J4 (dC (.int 5)) (A6 7))) (A5 (dC (.int 3)) A7)))))) (B3 (D0 10 (dIx (qN (A5 (D2 (A5 (dC (.int 1)) (A5 (dC (.int 1)) A7))) (A5 (A8 L0 (A5 (A6 0) (A5 (A9 C1 (A9 C1 (A6 1) (dC (.int 5))) (A9 J4 (dC (.int 5)) (A6 7))) A7))) A7))) (A8 B5 (A5 (A6 0) (A5 (A9 C1 (A9 C1 (A6 1) (dC (.int 6))) (A9 J4 (dC (.int 5)) (A6 7))) (A5 (dC (.int 2)) A7)))))) (B3 (D0 11 (dIx (qN (A5 (A6 4) (A5 (dC (.str "atop")) (A5 (A6 4) (A5 (dC (.str "cut")) A7))))) (A8 B5 (A5 (A6 0) (A5 (A9 C1 (A9 C1 (A6 1) (dC (.int 7))) (A9 J4 (dC (.int 5)) (A6 7))) (A5 (dC (.int 4)) A7)))))) (B3 (D0 12 (D2 (A5 (dC (.str "group")) (A5 (dIx (B0 3) (A9 C1 (A6 2) (A6 7))) (A5 (A6 11) (A5 (A6 10) (A5 (A9 gtI (A8 B5 (A5 (A6 0) (A5 (A9 C1 (A9 C1 (A6 1) (dC (.int 14))) (A6 7)) (A5 (dC (.int 7)) A7)))) (dC (.int 0))) A7))))))) (bB5 6 (D1 (A6 8)) (D1 (A6 9)) (A5 (A9 C1 (A6 12) (D2 (A5 (N9 (qE (bw9 (B0 6) (D1 (A6 8)) (D1 (A6 9))))) A7))) A7)))))))) (B4 (N9 (B0 6)))))))
def an2 : List D → Option D:=E9 aN6 13
def az9 : DS:=(B3 (D0 4 (A9 C1 (dC (.int 1)) (A8 B5 (A5 (A6 0) (A5 (A6 1) (A5 (dC (.int 3)) A7)))))) (B3 (D0 5 (A9 C1 (dC (.int 1)) (A8 B5 (A5 (A6 0) (A5 (A9 C1 (A6 1) (dC (.int 1))) (A5 (dC (.int 3)) A7)))))) (B4 (D2 (A5 (A6 4) (A5 (A6 5) (A5 (A8 an2 (A5 (A6 0) (A5 (A9 C1 (A6 1) (dC (.int 2))) (A5 (A6 2) (A5 (A6 3) A7))))) A7)))))))
def Y5 : List D → Option D:=E9 az9 6
end Sh
namespace G
open PySem PySem.Spec PyProof.Rows L2
section
variable {X : Cx}
def aX9 (f g : Rho → Option (Bool × List D)) : Rho → Option (List D):=fun ρ=>(f ρ).bind fun p=>(g ρ).bind fun q=>if p.1 = false ∧ q.1 = false ∧ p.2.length + q.2.length ≤ 16777216 then some (p.2 ++ q.2) else none
theorem cp5 {a b : Expr} {f g : Rho → Option (Bool × List D)} {pos : Pos} (ha : JQ X a f) (hb : JQ X b g) : JN X (.BinOp a .Add b pos) (aX9 f g):=fun ρ out q=>by
 obtain ⟨⟨t1,xs⟩,e1,q⟩:=Option.bind_eq_some_iff.mp q
 obtain ⟨⟨t2,ys⟩,e2,q⟩:=Option.bind_eq_some_iff.mp q
 split at q
 ·rename_i c
  obtain ⟨c1,c2,c3⟩:=c
  simp only at c1 c2 c3
  subst c1 c2
  cases q
  refine D8 (ca0 bn5 (ha ρ _ _ e1) (hb ρ _ _ e2)) fun σ H Q ⟨H0,Hf,s,sl,k⟩=>?_
  refine ⟨H0,Hf,s,sl,fun v H1 Hf1 g1 ⟨p,vs,z1,z2,z3⟩=>⟨H0,Hf1,g1.sub,sl.grow g1,fun u H2 Hf2 g2 ⟨p',us,z1',z2',z3'⟩=>?_⟩⟩
  subst z1 z1'
  refine ⟨p,p',vs,us,rfl,rfl,L4 g2.big z2,z2',by rw [z3.length,z3'.length,sizeLine_eq]; exact c3,fun n hn=>?_⟩
  exact k _ _ _ ((g1.trans g2).trans (Grow.made g2.sub hn)) ⟨n,vs ++ us,rfl,(g1.trans g2).big.free hn,E5,g2.sub.free hn,(z3.mono g2.ext).append z3'⟩
 ·cases q
end
end G
namespace Sh
open PySem PySem.Spec PyProof.Rows L2 G
def af9 : DS:=(B4 (A9 eqD (A8 V1 (A5 (A6 0) A7)) (dC (.str "group"))))
def N8 : List D → Option D:=E9 af9 1
def ay9 : DS:=(B4 (dIx (B0 0) (dC (.int 1))))
def M5 : List D → Option D:=E9 ay9 1
def aH3 : DS:=(B3 (aa2 (cB5 (qE (A6 0))) (Q2 2 (F6 (C7 2) (F6 (C7 3) Q9))) (sIf (tB2 eqD (A8 M5 (A5 (A6 3) A7)) (A6 1)) (B4 (A6 2)) C0)) (B4 (dC .none)))
def aH9 : List D → Option D:=E9 aH3 4
def aU0 (self : List D → Option D) : DS:=(B3 (sIf (tB2 bT0 (A8 aH9 (A5 (A6 0) (A5 (A6 1) A7))) (dC .none)) (B4 (A6 0)) C0) (B3 (aa2 (E1 (A6 0)) (C7 2) (sIf (B9 (A8 N8 (A5 (A6 2) A7))) (B3 (D0 3 (A8 self (A5 (A8 J9 (A5 (A6 2) A7)) (A5 (A6 1) A7)))) (sIf (tB2 bT0 (A6 3) (dC .none)) (B4 (A6 3)) C0)) C0)) (B4 (dC .none))))
def aU3 : Nat → List D → Option D
 | 0=>fun _=>none
 | k + 1=>E9 (aU0 (aU3 k)) 4
def aU2 (self : List D → Option D) : DS:=(B3 (r9 1 A7) (B3 (aa2 (E1 (A6 0)) (C7 2) (B3 (aa3 1 (A6 2)) (sIf (tB2 eqD (dIx (B0 2) (dC (.int 0))) (dC (.str "group"))) (r9 1 (aX9 (B0 1) (qE (A8 self (A5 (dIx (B0 2) (dC (.int 5))) A7))))) C0))) (ax4 1 (B4 (A6 1)))))
def E8 : Nat → List D → Option D
 | 0=>fun _=>none
 | k + 1=>E9 (aU2 (E8 k)) 3
end Sh
namespace G
open PySem PySem.Spec PyProof.Rows L2
section
variable {X : Cx}
theorem bX1 (l b : Addr) (xs ys : Array Value) (n m : Nat) (dd : Option Addr) (sl : Array (Option Value)) (h0 : ¬(!xs.isEmpty && Builtin.List.listTooLong (xs.size + ys.size)) = true) (h1 : xs.size ≤ sizeLine) (h2 : xs.size + ys.size ≤ sizeLine + 1) :
  Meets (Builtin.«list.extend» ⟨[.ref l,.ref b],[]⟩) (fun _ R s=>s.heap.get? l = some { cls:=.type "list", data:=.seq xs n } ∧ s.heap.get? b = some ⟨.type "list", dd,.seq ys m,sl⟩ ∧
   R (.ok (.ret Value.none)) { s with heap:=s.heap.update l (Obj.mapSeq fun x=>x ++ ys),toks:=s.toks }) :=
 .of_wp fun prog w A R s h=>by
  obtain ⟨hp,g,d,tk,os⟩:=s
  obtain ⟨hl,hb,h⟩:=h
  have f1:=AutoSeq1.idx_int
  have f2:=AutoSeq1.sub_tuple_tuple
  have f3:=AutoSeq1.sub_list_list
  have f4:=AutoSeq1.sub_tuple_list
  have f5:=AutoSeq1.sub_list_tuple
  have hz' : (xs ++ ys).size ≤ sizeLine + 1:=by rw [Array.size_append]; exact h2
  wp_walk using (wpAny_updateSeq hl rfl (hz:=h1) (_hz':=hz')),AutoSeq1.wpAny_loadPart' hl,AutoSeq1.wpAny_loadPart' hb
  exact ⟨_,rfl,h⟩
theorem bX0 (l b : Addr) (xs ys : Array Value) (n m : Nat) (dd : Option Addr) (sl : Array (Option Value)) (h0 : ¬(!xs.isEmpty && Builtin.List.listTooLong (xs.size + ys.size)) = true) (h1 : xs.size ≤ sizeLine) (h2 : xs.size + ys.size ≤ sizeLine + 1) :
  Meets (Builtin.«list.extend» ⟨[.ref l,.ref b],[]⟩) (fun _ R s=>s.heap.get? l = some { cls:=.type "list", data:=.seq xs n } ∧ s.heap.get? b = some ⟨.type "tuple", dd,.seq ys m,sl⟩ ∧
   R (.ok (.ret Value.none)) { s with heap:=s.heap.update l (Obj.mapSeq fun x=>x ++ ys),toks:=s.toks }) :=
 .of_wp fun prog w A R s h=>by
  obtain ⟨hp,g,d,tk,os⟩:=s
  obtain ⟨hl,hb,h⟩:=h
  have f1:=AutoSeq1.idx_int
  have f2:=AutoSeq1.sub_tuple_tuple
  have f3:=AutoSeq1.sub_list_list
  have f4:=AutoSeq1.sub_tuple_list
  have f5:=AutoSeq1.sub_list_tuple
  have hz' : (xs ++ ys).size ≤ sizeLine + 1:=by rw [Array.size_append]; exact h2
  wp_walk using (wpAny_updateSeq hl rfl (hz:=h1) (_hz':=hz')),AutoSeq1.wpAny_loadPart' hl,AutoSeq1.wpAny_loadPart' hb
  exact ⟨_,rfl,h⟩
def cG4 (K : PySem.W.Frag) : V → List V → Hp → VK → Prop:=fun x vs H Q=>∃ l b xs zs,x = .ref l ∧ vs = [.ref b] ∧ H l = some (.lst xs) ∧ (SqL K H b zs ∨ SqT K H b zs) ∧ xs.length + zs.length ≤ sizeLine ∧ Q .non (upd H l (.lst (xs ++ zs)))
theorem bF6 : MtM X "list.extend" (cG4 X.K):=by
 intro pins s σ H x vs v us Q I rx rv h
 obtain ⟨l,b,xs,zs,rfl,rfl,hH,hB,hz,q⟩:=h
 cases rx
 obtain ⟨u,rfl,ru⟩:=rv.one
 cases ru
 obtain ⟨z,its,n,r,hl,e⟩:=I.lstM hH
 rcases hB with hB | hB
 ·obtain ⟨its2,r2,pl,_⟩:=I.list hB
  obtain ⟨⟨cls,dd,data,sl⟩,ho,hc,m,hd⟩:=pl.isList
  simp only at hc hd
  subst hc hd
  have hl2:=r2.length
  have hsz : its.toArray.size + its2.toArray.size ≤ sizeLine:=by rw [List.size_toArray,List.size_toArray]; omega
  have hlong : ¬ (!its.toArray.isEmpty && Builtin.List.listTooLong (its.toArray.size + its2.toArray.size)) = true:=by
   rw [ai6 hsz,Bool.and_false]; exact Bool.false_ne_true
  refine call_meets F.slot_list_extend ⟨_,e,rfl⟩ F.entry_list_extend (F.args_list_extend_2 _ _) (bX1 l b its.toArray its2.toArray n m dd sl hlong (by rw [List.size_toArray]; omega) (by omega)) ⟨e,ho,?_⟩
  refine ⟨.non,_,I.lset (its':=its ++ its2) hH e (by simp) (r.append r2) ?_,rfl,q⟩
  rw [List.length_append]; omega
 ·obtain ⟨its2,r2,pl,_⟩:=I.tuple hB
  obtain ⟨⟨cls,dd,data,sl⟩,ho,hc,m,hd⟩:=pl
  simp only at hc hd
  subst hc hd
  have hl2:=r2.length
  have hsz : its.toArray.size + its2.toArray.size ≤ sizeLine:=by rw [List.size_toArray,List.size_toArray]; omega
  have hlong : ¬ (!its.toArray.isEmpty && Builtin.List.listTooLong (its.toArray.size + its2.toArray.size)) = true:=by
   rw [ai6 hsz,Bool.and_false]; exact Bool.false_ne_true
  refine call_meets F.slot_list_extend ⟨_,e,rfl⟩ F.entry_list_extend (F.args_list_extend_2 _ _) (bX0 l b its.toArray its2.toArray n m dd sl hlong (by rw [List.size_toArray]; omega) (by omega)) ⟨e,ho,?_⟩
  refine ⟨.non,_,I.lset (its':=its ++ its2) hH e (by simp) (r.append r2) ?_,rfl,q⟩
  rw [List.length_append]; omega
theorem co9 (i : Nat) {x : Str} {e : Expr} {f : DE} {p apos cpos pos : Pos} (h : JE X e f) (hN : X.N[i]? = some x) (hv : Vis X.env.scope x) (hd : (x == ("__debug__" : Str)) = false)
  (hcd : (x == ("__classdict__" : Str)) = false) (hline : (apos.endLine == cpos.line) = true) (hs : starEach [e] X.env = [(false,eval e X.env)]) :
  JS X (.Expr (.Call (.Attribute (.Name x p) "extend" apos) [e] [] cpos) pos) (bf1 i f):=fun ρ fl q H0 Hf0=>by
 unfold bf1 at q
 split at q
 ·rename_i ds eo
  obtain ⟨d,e1,q⟩:=Option.bind_eq_some_iff.mp q
  split at q
  ·rename_i es
   split at q
   ·rename_i hz
    cases q
    refine Q6 (aP2 (bn2 PySem.F.plainAttrs_list PySem.F.slot_list_extend PySem.F.type_list_extend bF6 (aq0 hN hv hd hcd) (K9 (h ρ _ e1) P4 hs) rfl (by rw [hs]; rfl) hline hs) rfl) fun En σ H ⟨Hf,a,ee⟩=>?_
    obtain ⟨v,h1,b,vs,rfl,h2,h3,h4,h5⟩:=a.sl.is i _ eo
    refine ⟨_,h1,.inl ⟨rfl,vs,SqL.of h2⟩,H0,Hf,a.gr.sub,a.sl,fun w H' Hf' gg r=>?_⟩
    obtain ⟨b2,us,rfl,r1,r2⟩:=r
    have hb : H' b = some (.lst vs):=gg.big _ _ h2
    have hfb : Hf' b = none:=gg.nofr h2 h3
    have g2:=a.gr.trans gg
    have sl2:=a.sl.grow gg
    refine ⟨b,b2,vs,us,rfl,rfl,hb,.inl (L4 gg.sub r1),by rw [h5.length,r2.length,sizeLine_eq]; exact hz,ee _ _ Hf' ⟨⟨fun c u z=>?_,fun c u z=>?_,g2.ext,g2.new⟩,?_⟩ gg.ext⟩
    ·rw [F5 (G4 z h4)]; exact g2.big c u z
    ·rw [F5 (G4 z hfb)]; exact g2.sub c u z
    ·exact sl2.reOwn eo h1 hfb h4 ((h5.mono gg.ext).append r2)
   ·cases q
  ·rename_i es
   split at q
   ·rename_i hz
    cases q
    refine Q6 (aP2 (bn2 PySem.F.plainAttrs_list PySem.F.slot_list_extend PySem.F.type_list_extend bF6 (aq0 hN hv hd hcd) (K9 (h ρ _ e1) P4 hs) rfl (by rw [hs]; rfl) hline hs) rfl) fun En σ H ⟨Hf,a,ee⟩=>?_
    obtain ⟨v,h1,b,vs,rfl,h2,h3,h4,h5⟩:=a.sl.is i _ eo
    refine ⟨_,h1,.inl ⟨rfl,vs,SqL.of h2⟩,H0,Hf,a.gr.sub,a.sl,fun w H' Hf' gg r=>?_⟩
    obtain ⟨b2,us,rfl,r1,r2⟩:=r
    have hb : H' b = some (.lst vs):=gg.big _ _ h2
    have hfb : Hf' b = none:=gg.nofr h2 h3
    have g2:=a.gr.trans gg
    have sl2:=a.sl.grow gg
    refine ⟨b,b2,vs,us,rfl,rfl,hb,.inr (F0 gg.sub r1),by rw [h5.length,r2.length,sizeLine_eq]; exact hz,ee _ _ Hf' ⟨⟨fun c u z=>?_,fun c u z=>?_,g2.ext,g2.new⟩,?_⟩ gg.ext⟩
    ·rw [F5 (G4 z h4)]; exact g2.big c u z
    ·rw [F5 (G4 z hfb)]; exact g2.sub c u z
    ·exact sl2.reOwn eo h1 hfb h4 ((h5.mono gg.ext).append r2)
   ·cases q
  ·cases q
 ·cases q
end
end G
namespace G
open PySem PySem.Spec PyProof.Rows L2
def bb1 (a : List Str) (x : Str) : List Str:=if a.any (· == x) then a else a ++ [x]
def ddN (v : Nat → Str) (i : Nat) : List Str:=((List.range i).map v).foldl bb1 []
def ddS (l : List Str) : List Str:=l.foldl bb1 []
theorem aG3 (v : Nat → Str) (i : Nat) : ddN v (i + 1) = bb1 (ddN v i) (v i):=by
 unfold ddN
 rw [List.range_succ,List.map_append,List.foldl_append]
 rfl
theorem bL9 (v : Nat → Str) : ∀ i,(ddN v i).length ≤ i
 | 0=>Nat.le_refl 0
 | i + 1=>by
  have ih:=bL9 v i
  rw [aG3]
  unfold bb1
  split
  ·omega
  ·rw [List.length_append,List.length_singleton]
   omega
theorem cs7 (a : List Str) (x y : Str) : (bb1 a x).any (· == y) = (a.any (· == y) || decide (y = x)):=by
 unfold bb1
 by_cases q : a.any (· == x) = true
 ·rw [if_pos q]
  by_cases e : y = x
  ·subst e; rw [q]; simp
  ·simp [e]
 ·rw [if_neg q,List.any_append]
  by_cases e : y = x
  ·subst e; simp
  ·have : (x == y) = false:=by simpa [beq_iff_eq] using fun z : x = y=>e z.symm
   simp [this,e]
theorem cs6 (a : List Str) (x : Str) : (bb1 a x).length = if a.any (· == x) then a.length else a.length + 1:=by
 unfold bb1
 split <;> simp
theorem cs8 (l : List Str) (d : Str) : ddN (fun i=>l.getD i d) l.length = ddS l:=by
 unfold ddN ddS
 congr 1
 refine List.ext_getElem? fun i=>?_
 rw [List.getElem?_map]
 by_cases hi : i < l.length
 ·rw [List.getElem?_range hi,List.getElem?_eq_getElem hi]
  simp [List.getD,List.getElem?_eq_getElem hi]
 ·rw [List.getElem?_eq_none (by simpa using hi),List.getElem?_eq_none (by simpa using hi)]
  rfl
section
variable {prog : Program} {w : World} {A : Around} {R : Result → Shared → Prop} {J : Addr} {fp wr : List Addr} {Gn : Array GenState → Array GenState → Prop} {n : Nat} {P : Nat → Value → Prop} {St : Nat → Shared → Prop}
theorem bB4 (W : WalksS prog w A.in1 J fp wr Gn n P St) (S : Addr) (hS1 : S ∉ fp) (v : Nat → Str) (hv : ∀ i u,P i u → ∃ t,u = .str (v i) t) (hb : n + 1 < scanBound) :
  ∀ (k i : Nat) (s : Shared),n - i = k → i ≤ n → St i s → s.heap.SetOf (strKind prog w) S (fun y=>(ddN v i).any (· == y)) (ddN v i).length →
   (∀ s',Moved (S :: wr) Gn s s' → s'.heap.SetOf (strKind prog w) S (fun y=>(ddN v n).any (· == y)) (ddN v n).length → R (.ok (.ret .none)) s') →
   codeAny (model prog w) A (.builtin "set.update.loop" ⟨[.ref S,.ref J],[]⟩) R s:=by
 have hS2 : S ∉ wr:=fun z=>hS1 (W.sub _ z)
 have more : ∀ b ∈ wr,b ∈ S :: wr:=fun b z=>List.mem_cons_of_mem _ z
 intro k
 induction k with
 | zero =>
  intro i s e1 e2 q1 q2 q3
  obtain rfl : i = n:=by omega
  refine codeAny_builtin PyProof.Rows.F.entry_set_update_loop ?_
  rw [Around.under_plainId PyProof.Rows.F.plain_set_update_loop _]
  show wpAny _ _ (pyNext (.ref J) >>= _) _ _ _
  refine wpAny_bind (W.done s _ _ q1 fun s' mv=>?_)
  show wpAny _ _ (ret Value.none) _ _ _
  refine wpAny_pure (q3 s' (mv.mono more) ?_)
  obtain ⟨o,es,ep,tb,ho,more'⟩:=q2
  exact ⟨o,es,ep,tb,mv.heap S _ hS2 ho,more'⟩
 | succ k ih =>
  intro i s e1 e2 q1 q2 q3
  have lt : i < n:=by omega
  refine codeAny_builtin PyProof.Rows.F.entry_set_update_loop ?_
  rw [Around.under_plainId PyProof.Rows.F.plain_set_update_loop _]
  show wpAny _ _ (pyNext (.ref J) >>= _) _ _ _
  refine wpAny_bind (W.item i s _ _ lt q1 fun u s' hP q1' mv=>?_)
  obtain ⟨t,rfl⟩:=hv i u hP
  have q2' : s'.heap.SetOf (strKind prog w) S (fun y=>(ddN v i).any (· == y)) (ddN v i).length:=by
   obtain ⟨o,es,ep,tb,ho,more'⟩:=q2
   exact ⟨o,es,ep,tb,mv.heap S _ hS2 ho,more'⟩
  show wpAny _ _ (holding [Value.str (v i) t] (setAdd S (.str (v i) t)) >>= _) _ _ _
  refine wpAny_bind (wpAny_holding ?_)
  unfold setAdd
  refine wpAny_holding (wpAny_bind ((strKind prog w).pyHash (k:=v i) (strKind_is _ _ _ _) ?_))
  have room : (ddN v i).length + 1 < scanBound:=by have:=bL9 v i; omega
  refine wpAny_setAddHashed_of (knd:=strKind prog w) (s:={ s' with toks:=s'.toks + 1 }) (strKind_is _ _ _ _) rfl q2' room fun h' sb q4=>?_
  have q5 : h'.SetOf (strKind prog w) S (fun y=>(ddN v (i + 1)).any (· == y)) (ddN v (i + 1)).length:=SetOf_congr q4 (fun y=>by rw [aG3,cs7]) (by rw [aG3,cs6])
  refine wpAny_pure ⟨plainId_quiet PyProof.Rows.F.plain_set_update_loop _,ih (i + 1) _ (by omega) lt (W.frame _ s' _ _ q1' (Nat.le_succ _) fun b z o e=>?_) q5 fun s2 mv2 q6=>?_⟩
  ·rw [sb.2 b (fun y : b = S=>hS1 (by rw [← y]; exact z))]; exact e
  ·refine q3 s2 (Moved.trans W.gtrans ((mv.mono more).then_heap (Nat.le_succ _) fun b o z e=>?_) mv2) q6
   rw [sb.2 b (fun y : b = S=>z (by rw [y]; exact List.mem_cons_self))]; exact e
end
section
variable {prog : Program} {w : World} {A : Around} {E : Value → Shared → Prop} {s : Shared}
abbrev V6 (b : Bool) : Obj:={ cls:=.type "set", dict:=none,data:=.set #[] 0 (.fresh 0 0 b) }
theorem aV6 {l : Addr} {its : Array Value} {xs : List Str} {Q : Value → Shared → Prop} (hh : A.handled = none) (hl : s.heap.IsList l its) (hi : ∀ (i : Nat) (u : Value),its[i]? = some u → ∃ t,u = .str (xs.getD i "") t) (hb : its.size + 1 < scanBound)
  (h : ∀ (h' : Heap) (tk : Nat),h'.SetOf (strKind prog w) s.heap.objs.size (fun y=>(ddN (fun i=>xs.getD i "") its.size).any (· == y)) (ddN (fun i=>xs.getD i "") its.size).length →
   (∀ b o,b < s.heap.objs.size → s.heap.get? b = some o → h'.get? b = some o) → Q (.ref s.heap.objs.size) { s with heap:=h',toks:=tk }) :
  wpAny (model prog w) A (call (.type "set") [.ref l]) Q E s:=by
 obtain ⟨c,tl,hmro⟩:=F.called_set.mro
 have hmade:=F.called_set.made
 have hsub:=F.called_set.sub
 refine wpAny_call (codeAny_of_tree ?_)
 show wpAny _ _ (callAny (.type "set") _) _ _ _
 refine wpAny_pure ⟨Code.quiet_builtin _ (by decide +kernel),codeAny_builtin F.entry_type_call ?_⟩
 rw [Around.under_plain (weight_type_call_type "set" [.ref l] []) rfl]
 have n1:=F.called_set.notType
 have n2:=F.called_set.canCreate
 have n3:=F.typeCall_set_1 (.ref l)
 repeat (any_goals (first | assumption | wp_step))
 refine codeAny_mono (code_set_new_1 (.ref l) (E:=E) (Q₁:=fun ob s1=>∃ b : Bool,ob = .ref s.heap.objs.size ∧ s1 = { s with heap:=s.heap.push (V6 b) }) fun b=>⟨b,rfl,rfl⟩) fun r s1 hr=>?_
 cases r with
 | error e=>exact hr
 | ok fl =>
  cases fl with
  | ret ob =>
   obtain ⟨b,rfl,rfl⟩:=hr
   have g0 : (s.heap.push (V6 b)).get? s.heap.objs.size = some (V6 b):=Heap.get?_push_size _ rfl
   have hT : Shared.TypeIs { s with heap:=s.heap.push (V6 b) } (.ref s.heap.objs.size) "set" := ⟨_,g0,rfl⟩
   have li:=F.called_set.init.lookup
   have bi:=F.called_set.init.bind (.ref s.heap.objs.size)
   repeat (any_goals (first | assumption | wp_step))
   refine codeAny_mono (codeAny_call_builtin (R:=wants (fun r s2=>r = .none ∧ ∃ h' tk,s2 = { s with heap:=h',toks:=tk } ∧ h'.SetOf (strKind prog w) s.heap.objs.size (fun y=>(ddN (fun i=>xs.getD i "") its.size).any (· == y)) (ddN (fun i=>xs.getD i "") its.size).length ∧
     (∀ b o,b < s.heap.objs.size → s.heap.get? b = some o → h'.get? b = some o)) E) F.called_set.init.plain F.entry_set_init (check_set_init_1 hT ?_)) fun r2 s2 hr2=>?_
   ·obtain ⟨⟨c0,d0,dt0,sl0⟩,hol,hcl,nl,hdl⟩:=hl
    simp only at hcl hdl
    subst hcl hdl
    have hol' : (s.heap.push (V6 b)).get? l = some { cls:=.type "list", dict:=d0,data:=.seq its nl,slots:=sl0 }:=Heap.get?_push_of_some _ hol
    have f1:=F.sub_list_set
    have f2:=F.sub_list_frozenset
    have f3 : (Value.type "list" == Value.type "dict") = false:=by decide
    have hl1 : (s.heap.push (V6 b)).IsList l its:=⟨_,hol',rfl,nl,rfl⟩
    unfold Builtin.«set.__init__» noKeywords Builtin.Frozenset.updateFrom
    generalize hPI : pyIter = PI
    wp_walk
    subst hPI
    refine wpAny_pyIter_list hl1 (wpAny_bind (wpAny_runValue ?_))
    have lS : l < s.heap.objs.size:=Heap.lt_size hol
    have h3 : A.in1.in1.in1.handled = none:=by simp [hh]
    have nI : l ≠ (s.heap.push (V6 b)).objs.size:=by
     rw [Heap.size_push]
     exact Nat.ne_of_lt (Nat.lt_succ_of_lt lS)
    have nf : s.heap.objs.size ∉ [(s.heap.push (V6 b)).objs.size,l]:=by
     rw [Heap.size_push]
     simp only [List.mem_cons,List.mem_singleton,List.not_mem_nil,or_false,not_or]
     exact ⟨Nat.ne_of_lt (Nat.lt_succ_self _),Nat.ne_of_gt lS⟩
    refine bB4 ((Walks.list h3 _ l nI its).toS) s.heap.objs.size nf (fun i=>xs.getD i "") hi hb (its.size - 0) 0 _ (by omega) (Nat.zero_le _) ⟨⟨_,Heap.get?_push_size _ rfl,rfl,rfl⟩,(hl1.push _)⟩ ?hS0 ?hR
    case hS0 =>
     have gt : ((s.heap.push (V6 b)).push { cls:=.type "list_iterator", data:=.fields #[.ref l,.int 0 0] }).get? s.heap.objs.size = some (V6 b):=Heap.get?_push_of_some _ g0
     exact SetOf_congr ((setObjOf_fresh (knd:=strKind prog w) b).setOf gt (by unfold scanBound; omega)) (fun _=>rfl) rfl
    case hR =>
     intro s' mv q
     obtain ⟨h',g',d',tk',os'⟩:=s'
     have eg : g' = s.gens:=mv.gens
     have ed : d' = s.drawn:=mv.drawn
     have eo : os' = s.os:=mv.os
     subst eg ed eo
     show wpAny _ _ _ _ _ _
     refine wpAny_pure ?_
     show wpAny _ _ (ret Value.none) _ _ _
     refine wpAny_pure ⟨rfl,h',tk',rfl,q,fun c o hc e=>?_⟩
     have c1 : c ≠ s.heap.objs.size:=Nat.ne_of_lt hc
     have c2 : c ≠ (s.heap.push (V6 b)).objs.size:=by
      rw [Heap.size_push]
      exact Nat.ne_of_lt (Nat.lt_succ_of_lt hc)
     exact mv.heap c o (by simp only [List.mem_cons,List.mem_singleton,List.not_mem_nil,or_false,not_or]; exact ⟨c1,c2⟩) (Heap.get?_push_of_some _ (Heap.get?_push_of_some _ e))
   ·cases r2 with
    | error e=>exact hr2
    | ok fl2 =>
     cases fl2 with
     | ret r =>
      obtain ⟨rfl,h',tk,rfl,q1,q2⟩:=hr2
      repeat (any_goals (first | assumption | wp_step))
      exact h _ _ q1 q2
     | _=>exact hr2.elim
  | _=>exact hr.elim
end
end G
namespace G
open PySem PySem.Spec PyProof.Rows L2
section
variable {X : Cx}
def SetO (X : Cx) (a : Addr) (n : Nat) : HO:=.ext fun h=>∃ S,h.SetOf (strKind X.prog X.w) a S n
theorem ct1 : bootBuiltins "set" = some (.type "set"):=by decide +kernel
theorem aU6 : ∀ {ys : List Str} {us : List Value},G3 (ys.map V.str) us → ∀ (i : Nat) (u : Value),us[i]? = some u → ∃ t,u = .str (ys.getD i "") t
 | [],[],_,i,u,h=>by simp at h
 | y :: ys,u :: us,h,i,v,e=>by
  cases h with
  | cons a b =>
   cases i with
   | zero =>
    simp only [xg0,Option.some.injEq] at e
    subst e
    obtain ⟨t,e⟩:=a
    exact ⟨t,e⟩
   | succ i =>
    simp only [xg1] at e
    obtain ⟨t,e'⟩:=aU6 b i v e
    exact ⟨t,e'⟩
theorem bx2 (hc : X.calm = true) : y6 X (.type "set") (fun xs H Q=>∃ p ys,xs = [.ref p] ∧ SqL X.K H p (ys.map V.str) ∧ ys.length ≤ 4000 ∧ ∀ l,H l = none → Q (.ref l) (upd H l (SetO X l (ddS ys).length))):=by
 intro pins s σ H xs us Q I r h
 obtain ⟨p,ys,rfl,hq,hz,q⟩:=h
 obtain ⟨u,rfl,rx⟩:=ag1 r
 cases rx
 obtain ⟨its,rv,pl,_⟩:=I.list hq
 have hl : its.length = ys.length:=by have:=rv.length; rw [List.length_map] at this; exact this.symm
 have hs : its.toArray.size = ys.length:=by rw [List.size_toArray]; exact hl
 refine aV6 (xs:=ys) (I.ok.hd hc) pl.isList (fun i u e=>aU6 rv i u (by rw [List.getElem?_toArray] at e; exact e)) (by rw [hs]; unfold scanBound; omega) fun h' tk q1 q2=>?_
 rw [hs,cs8] at q1
 refine ⟨.ref _,_,I.laid (a:=s.heap.objs.size) (o:=SetO X s.heap.objs.size (ddS ys).length) (h':=h') (t':=tk) (fun b o e=>q2 b o (Heap.lt_size e) e) (Nat.le_refl _) ⟨⟨_,q1⟩,?_,?_⟩,rfl,q _ I.fresh⟩
 ·obtain ⟨o,es,ep,t,ho,_⟩:=q1
  exact ⟨o,ho⟩
 ·intro h1 h2 ⟨S,o,es,ep,t,ho,J6⟩ k
  exact ⟨S,o,es,ep,t,k o ho,J6⟩
theorem bx3 : y6 X (.builtin "len") (fun xs H Q=>∃ p n,xs = [.ref p] ∧ H p = some (SetO X p n) ∧ Q (.int n) H):=by
 intro pins s σ H xs us Q I r h
 obtain ⟨p,n,rfl,hp,q⟩:=h
 obtain ⟨u,rfl,rx⟩:=ag1 r
 cases rx
 obtain ⟨⟨S,o,es,ep,t,ho,hex,hd,_,_,hb,hf,hn⟩,_,_⟩:=I.hok p _ hp
 have : es.size < 4096:=hb
 exact call_len_set ho hex hd hf (by omega) ⟨.int n,H,I.tok _,⟨_,by rw [hn]⟩,q⟩
def am3 (f : Rho → Option (Bool × List D)) : DE:=fun ρ=>(f ρ).bind fun q=>if q.1 = true then none else (aK3 q.2).bind fun ys=>if ys.length ≤ 4000 then some (.int (ddS ys).length) else none
theorem bu6 {e : Expr} {f : Rho → Option (Bool × List D)} {p p2 pos pos2 : Pos} (hg : Gl X "len") (hm : X.mg "len" = none) (hg2 : Gl X "set") (hm2 : X.mg "set" = none) (h : JQ X e f) (hc : X.calm = true) (he : starEach [e] X.env = [(false,eval e X.env)]) :
  JE X (.Call (.Name "len" p) [.Call (.Name "set" p2) [e] [] pos2] [] pos) (am3 f):=fun ρ d q=>by
 obtain ⟨⟨t,ds⟩,h1,q⟩:=Option.bind_eq_some_iff.mp q
 split at q
 ·cases q
 ·rename_i ht
  have ht : t = false:=by simpa using ht
  subst ht
  obtain ⟨ys,h2,q⟩:=Option.bind_eq_some_iff.mp q
  split at q
  ·rename_i hz
   cases q
   refine D8 (ab1 bx3 hg hm bj8 (K9 (W7 (bx2 hc) hg2 hm2 ct1 (K9 (h ρ false ds h1) P4 he) (he:=he)) P4 rfl)) fun σ H Q ⟨H0,Hf,s,sl,k⟩=>?_
   refine ⟨H0,Hf,s,sl,fun v H1 Hf1 g1 ⟨a,vs,e1,e2,e3⟩=>⟨a,ys,by rw [e1],?_,hz,fun l hl=>⟨l,_,rfl,E5,?_⟩⟩⟩
   ·rw [← ax5 h2 e3]; exact e2
   ·exact k _ _ _ (g1.trans (Grow.made g1.sub hl)) rfl
  ·cases q
end
end G
namespace G
open PySem PySem.Spec PyProof.Rows L2
section
variable {X : Cx}
def cs0 (x y : Str) : Bool:=!(Builtin.Str.occurrences y x 0 y.length 1).isEmpty
def inS (neg : Bool) (x y : D) : Option D:=match x,y with
 | .str i,.str j=>some (.bool (if neg then !cs0 i j else cs0 i j))
 | _,_=>none
theorem cl9 : OpD X (compareOp .In) (inS false):=fun x y z h=>by
 cases x <;> cases y <;> first | (cases h; done) | skip
 rename_i i j
 cases h
 refine OpR.imp br8 fun vx vy H Q ⟨Hf,s,rx,ry,k⟩=>?_
 cases rx
 cases ry
 exact ⟨i,j,rfl,rfl,k _ H Hf (Grow.refl s) rfl⟩
theorem bs4 : OpD X (compareOp .NotIn) (inS true):=fun x y z h=>by
 cases x <;> cases y <;> first | (cases h; done) | skip
 rename_i i j
 cases h
 refine OpR.imp aP3 fun vx vy H Q ⟨Hf,s,rx,ry,k⟩=>?_
 cases rx
 cases ry
 exact ⟨i,j,rfl,rfl,k _ H Hf (Grow.refl s) rfl⟩
def aM2 (f : DE) : DE:=fun ρ=>(f ρ).bind fun d=>match d with
 | .str x=>if x.length ≤ 16777216 then some (.int x.length) else none
 | _=>none
theorem bW0 {e : Expr} {f : DE} {p pos : Pos} (hg : Gl X "len") (hm : X.mg "len" = none) (h : JE X e f) (he : starEach [e] X.env = [(false,eval e X.env)]) : JE X (.Call (.Name "len" p) [e] [] pos) (aM2 f):=fun ρ d q=>by
 obtain ⟨y,h1,h2⟩:=Option.bind_eq_some_iff.mp q
 obtain ⟨x,rfl⟩ : ∃ x,y = .str x:=by
  cases y with
  | str x=>exact ⟨x,rfl⟩
  | _=>cases h2
 have h2 : (if x.length ≤ 16777216 then some (PyData.int x.length) else none) = some d:=h2
 split at h2
 ·rename_i hz
  cases h2
  refine D8 (ab1 aS7 hg hm bj8 (K9 (h ρ _ h1) P4 he) (he:=he)) fun σ H Q ⟨H0,Hf,s,sl,k⟩=>?_
  refine ⟨H0,Hf,s,sl,fun v H1 Hf1 g1 r=>⟨x,?_,by rw [sizeLine_eq]; exact hz,k _ H1 Hf1 g1 rfl⟩⟩
  cases r; rfl
 ·cases h2
def Its (x : Str) : It:=⟨fun i _=>i < x.cps.size,fun i H v H'=>H' = H ∧ ∃ c,x.cps[i]? = some c ∧ v = .str ⟨#[c]⟩,fun i _=>x.cps.size ≤ i⟩
theorem bA4 {P : Program} {w : World} {K : PySem.W.Frag} {tg : Expr} (x : Str) (t : Tok) (it : Addr) : Turn P w K tg (Its x) [it] it (fun i h=>h.IsStrIter it "str_ascii_iterator" x t i) where
 mem:=by simp
 obj:=fun i h st b hb=>by
  have e : b = it:=by simpa using hb
  subst e
  obtain ⟨o,e,c,d⟩:=st
  exact ⟨o,e,fun v z=>by rw [d] at z; cases z⟩
 keep:=fun i h h' st k=>by
  obtain ⟨o,e,r⟩:=st
  exact ⟨o,k it (by simp) o e,r⟩
 item:=by
  intro X hP hw hK hc i pins s σ H E I hf st hg
  subst hP hw hK
  obtain ⟨f0,f1,f2,f3,f4,f5⟩:=hf it (by simp)
  have hi : i < x.cps.size:=hg
  refine wpAny_pyNext_ascii_item st (c:=x.cps[i]) (by simp [hi]) fun h' st' sb=>?_
  have I1 : Inv X pins σ H { s with heap:=h',toks:=s.toks + 1 }:=I.turned (t':=s.toks + 1) (fun b o hb e=>(sb.2 b hb).trans e) f0 f1 f3 f4 f5
  obtain ⟨o,e,c,d⟩:=id st'
  exact ⟨_,rfl,bo7 (s:={ s with heap:=h',toks:=s.toks + 1 }) e c d (by decide) ⟨.str ⟨#[x.cps[i]]⟩,H,I1,⟨_,rfl⟩,⟨rfl,_,by simp [hi],rfl⟩,st',fun b hb=>(hf b hb).1⟩⟩
 done:=by
  intro X hP hw hK hc i pins s σ H E I hf st hg
  subst hP hw hK
  obtain ⟨f0,f1,f2,f3,f4,f5⟩:=hf it (by simp)
  have hi : x.cps.size ≤ i:=hg
  exact wpAny_pyNext_ascii_end (I.ok.hd hc) st (by simp [hi]) fun h' eb=>⟨rfl,I.turned (t':=s.toks) (fun b o hb e=>eb b o hb e) f0 f1 f3 f4 f5⟩
 self:=fun _ _ _ _ _ st h=>wpAny_pyIter_striter_ascii st h
def aK7 (x : Str) : List D:=x.cps.toList.map fun c=>.str ⟨#[c]⟩
def aZ3 (f : DE) : Rho → Option (List D):=fun ρ=>(f ρ).bind fun d=>match d with
 | .str x=>if x.cps.all (· < 128) = true then some (aK7 x) else none
 | _=>none
theorem cp6 {tg e : Expr} {f : DE} (h : JE X e f) : JI X tg e (aZ3 f):=fun ρ ds q=>by
 obtain ⟨d,e1,e2⟩:=Option.bind_eq_some_iff.mp q
 obtain ⟨x,rfl⟩ : ∃ x,d = .str x:=by
  cases d with
  | str x=>exact ⟨x,rfl⟩
  | _=>cases e2
 have e2 : (if x.cps.all (· < 128) = true then some (aK7 x) else none) = some ds:=e2
 split at e2
 ·rename_i ha
  cases e2
  intro pins s σ H R I ⟨H0,Hf,ss,sl,k⟩
  refine thn (h ρ _ e1 pins s σ H (fun v H'=>∃ Hf',Grow H Hf H' Hf' ∧ v = .str x) I ⟨H0,Hf,ss,sl,fun v H' Hf' g r=>⟨Hf',g,r⟩⟩) fun v s1 ⟨y,H1,I1,r1,Hf1,g1,ey⟩=>?_
  subst ey
  obtain ⟨t,rfl⟩:=r1
  refine wpAny_pyIter_ascii ha ?_
  have I2 : Inv X pins σ H1 { s1 with heap:=s1.heap.push { cls:=.type "str_ascii_iterator", data:=.fields #[.str x t,.int 0 0] } }:=I1.kept (t':=s1.toks) fun b u e=>Heap.get?_push_of_some _ e
  refine ⟨_,_,_,Its x,H1,rfl,I2,bA4 x t s1.heap.objs.size,⟨_,Heap.get?_push_size _ rfl,rfl,rfl⟩,fun b hb=>?_,k _ H1 Hf1 g1 fun i H' Hf' sa sb=>⟨fun hi=>?_,fun d hd=>?_⟩⟩
  ·have hb' : s1.heap.objs.size ≤ b:=by rw [List.mem_singleton] at hb; rw [hb]; exact Nat.le_refl _
   exact I1.fpOk hb' (I1.hok.fresh hb')
  ·show x.cps.size ≤ i
   simpa [aK7] using hi
  ·unfold aK7 at hd
   rw [List.getElem?_map] at hd
   obtain ⟨c,c1,c2⟩:=Option.map_eq_some_iff.mp hd
   have c1' : x.cps[i]? = some c:=by rw [← Array.getElem?_toList]; exact c1
   refine ⟨(Array.getElem?_eq_some_iff.mp c1').1,fun v H'' ⟨h1,c',h2,h3⟩=>?_⟩
   subst h1 h3 c2
   rw [c1'] at h2
   cases h2
   exact ⟨Hf',Grow.refl sb,rfl⟩
 ·cases e2
end
end G
namespace G
open PySem PySem.Spec PyProof PyProof.Rows L2
section
variable {X : Cx}
end
end G
namespace G
open PySem PySem.Spec PyProof.Rows L2
section
variable {prog : Program} {w : World} {A : Around} {E : Value → Shared → Prop} {s : Shared} {t : Bool}
end
section
variable {X : Cx} {pins : List (Addr × Obj)} {σ : L2.St} {A : Around} {t : Bool} {S e it a : Addr} {ws : List V}
end
section
variable {X : Cx}
end
end G
namespace G
open PySem PySem.Spec PyProof.Rows L2
section
open PySem.SeqAt PySem.MeetsSeq PySem.MeetsSeq2 PySem.MeetsSeq3 PySem.SeqRoads2
open PySem.AutoSeq1 (wpAny_loadPart')
theorem be4 (l : Addr) (items : Array Value) (n : Nat) (dd : Option Addr) (sl : Array (Option Value)) (x : Value) (e : Nat → Bool) (j : Nat) (hj : j < items.size) (hit : e j = true) (hno : ∀ m,m < j → e m = false) :
  Meets (Builtin.«tuple.index» ⟨[.ref l,x],[]⟩)
   (fun A R s=>s.heap.get? l = some { cls:=.type "tuple", dict:=dd,data:=.seq items n,slots:=sl } ∧ (∀ j (h : j < items.size),EqAt A.in1 s items[j] x (e j)) ∧ R (.ok (.ret (.int j s.toks))) { s with toks:=s.toks + 1 }) :=
 .of_wp fun prog w A R s h=>by
  obtain ⟨hp,g,d,tk,os⟩:=s; obtain ⟨hl,he,h⟩:=h
  unfold Builtin.«tuple.index»
  simp only [Std.Legacy.Range.forIn_eq_forIn_range']
  wp_walk using wpAny_loadPart' hl,wpAny_forIn_list _ (fun J6 b s'=>b.1 = none ∧ s' = ⟨hp,g,d,tk,os⟩ ∧ ∃ i,i ≤ j ∧ J6 = List.range' i (items.size - i)) _
  case turn =>
   rintro y J6 b s' ⟨hb,rfl,i,hij,hz⟩
   obtain ⟨m,hm⟩ : ∃ m,items.size - i = m + 1:=⟨items.size - i - 1,by omega⟩
   rw [hm,List.range'_succ] at hz
   injection hz with hy hrest
   subst hy
   have hi : y < items.size:=by omega
   have e1 : items[y]? = some items[y]:=by simp [hi]
   rw [e1]
   refine wpAny_bind (he y hi prog w _ _ ?_)
   rcases Nat.lt_or_ge y j with q | q
   ·rw [hno y q]
    wp_walk
    exact ⟨rfl,rfl,y + 1,q,by rw [hrest]; congr 1; omega⟩
   ·have : y = j:=by omega
    subst this
    rw [hit]
    wp_walk
    exact ⟨_,rfl,h⟩
  case fin =>
   rintro ⟨b1,b2⟩ s' ⟨hb,rfl,i,hij,hz⟩
   exfalso
   have : items.size - i = 0:=by
    cases q : items.size - i with
    | zero=>rfl
    | succ m=>rw [q,List.range'_succ] at hz; cases hz
   omega
  case h =>
   refine ⟨rfl,rfl,0,Nat.zero_le _,?_⟩
   simp [Std.Legacy.Range.size]
end
section
variable {X : Cx}
def cG3 (X : Cx) (ds : List D) (x : D) (j : Nat) : V → List V → Hp → VK → Prop:=fun vt vs H Q=>∃ Hf vx,vs = [vx] ∧ J0 Hf H ∧ Rep X.K Hf (.tuple ds) vt ∧ Rep X.K Hf x vx ∧ Q (.int j) H
theorem bF5 (hu : X.A.units + 64 < cLine) {ds : List D} {x : D} {j : Nat} (sx : SeqAt.shaped x = true) (dx : x.depth ≤ 60) (sd : ds.all SeqAt.shaped = true) (hj : ds.findIdx? (fun y=>PyData.eqv y x) = some j) : MtR X "tuple.index" (cG3 X ds x j):=by
 intro pins s σ H vt vs v us Q I rt rv ⟨Hf,vx,e,ss,r1,r2,q⟩
 subst e
 obtain ⟨u,rfl,rx⟩:=ag1 rv
 obtain ⟨p,ws,rfl,h2,h3⟩:=r1
 obtain rfl : v = Value.ref p:=rt
 obtain ⟨its,pl,ln,he⟩:=bl9 hu sx dx sd I rx ss r2 h2 h3
 obtain ⟨⟨cls,dd,data,sl⟩,ho,hc,n,hd⟩:=id pl
 simp only at hc hd
 subst hc hd
 obtain ⟨h1,h4,h5⟩:=List.findIdx?_eq_some_iff_getElem.mp hj
 refine call_meets F.slot_tuple_index ⟨_,ho,rfl⟩ F.entry_tuple_index (F.args_tuple_index_2 _ _) (be4 p its.toArray n dd sl u (fun m=>PyData.eqv (ds.getD m .none) x) j (by rw [List.size_toArray,ln]; exact h1) (by simpa [h1] using h4) (fun m hm=>?_)) ⟨ho,he,.int j,H,I.tok _,⟨_,rfl⟩,q⟩
 have hm' : m < ds.length:=by omega
 have:=h5 m hm
 simpa [hm'] using this
theorem ck6 {o e : Expr} {to : TE} {t : TA} {name : Str} {apos cpos : Pos} {id : String} {r : V → List V → Hp → VK → Prop} (slot : Slot "tuple" name id) (hty : typeOf (.builtin id) = pure (.type "method_descriptor")) (hm : MtR X id r) (ho : PE X o to) (ha : PA X [e] t)
  (hbase : attributeBase o name X.env (eval o X.env) = eval o X.env)
  (hfew : ((backTo cpos (starEach [e] X.env)).all (fun x=>!x.1) && (backToKw cpos (keywordEach [] X.env)).all (fun x=>x.1.isSome) && decide (([e] : List Expr).length + ([] : List Keyword).length + (if ([] : List Keyword).isEmpty then 0 else 1) < 30)) = true)
  (hline : (apos.endLine == cpos.line) = true) (hs : starEach [e] X.env = [(false,eval e X.env)]) :
  PE X (.Call (.Attribute o name apos) [e] [] cpos) (fun σ H Q=>to σ H fun x H1=>(∃ p xs,x = .ref p ∧ SqT X.K H1 p xs) ∧ t σ H1 fun xs H2=>r x xs H2 Q):=by
 intro pins s σ H Q I h
 refine wpAny_Call_method_late hbase hfew hline rfl (thn (ho pins s σ H _ I h) fun v s1 ⟨x,H1,I1,r1,⟨p,xs,e1,e2⟩,q1⟩=>?_)
 subst e1
 obtain rfl : v = Value.ref p:=r1
 obtain ⟨its,_,⟨ob,g1,g2,_,g4⟩,_⟩:=I1.tupN e2
 refine ⟨"tuple", id,F.plainAttrs_tuple,slot,hty,⟨ob,g1,g2⟩,fun a ea=>?_,?_⟩
 ·cases ea; exact ⟨ob,g1,g4⟩
 have hA:=ha cpos pins s1 σ H1 _ I1 q1
 rw [hs] at hA ⊢
 refine Calls.callWith_builtin (by rfl) (Calls.evalArgs_plain ?_)
 exact thn hA fun us s2 ⟨vs,H2,I2,r2,q2⟩=>hm pins s2 σ H2 (.ref p) vs (.ref p) us Q I2 rfl r2 q2
def aG5 (f g : DE) : DE:=fun ρ=>(f ρ).bind fun t=>(g ρ).bind fun x=>match t with
 | .tuple ds=>if SeqAt.shaped x = true ∧ x.depth ≤ 60 ∧ ds.all SeqAt.shaped = true then (ds.findIdx? fun y=>PyData.eqv y x).map (fun (j : Nat)=>PyData.int (j : Int)) else none
 | _=>none
theorem bI1 {o e : Expr} {f g : DE} {apos cpos : Pos} (hu : X.A.units + 64 < cLine) (ho : JE X o f) (h : JE X e g) (hbase : attributeBase o "index" X.env (eval o X.env) = eval o X.env)
  (hfew : ((backTo cpos (starEach [e] X.env)).all (fun x=>!x.1) && (backToKw cpos (keywordEach [] X.env)).all (fun x=>x.1.isSome) && decide (([e] : List Expr).length + ([] : List Keyword).length + (if ([] : List Keyword).isEmpty then 0 else 1) < 30)) = true)
  (hline : (apos.endLine == cpos.line) = true) (hs : starEach [e] X.env = [(false,eval e X.env)]) : JE X (.Call (.Attribute o "index" apos) [e] [] cpos) (aG5 f g):=fun ρ d q=>by
 obtain ⟨t,e1,q⟩:=Option.bind_eq_some_iff.mp q
 obtain ⟨x,e2,q⟩:=Option.bind_eq_some_iff.mp q
 cases t with
 | tuple ds =>
  simp only at q
  split at q
  ·rename_i c
   obtain ⟨j,hj,rfl⟩:=Option.map_eq_some_iff.mp q
   refine D8 (ck6 F.slot_tuple_index F.type_tuple_index (bF5 hu c.1 c.2.1 c.2.2 hj) (ho ρ _ e1) (K9 (h ρ _ e2) P4 hs) hbase hfew hline hs) fun σ H Q ⟨H0,Hf,s,sl,k⟩=>?_
   refine ⟨H0,Hf,s,sl,fun v H1 Hf1 g1 r1=>?_⟩
   have r1':=r1
   obtain ⟨p,vs,rfl,h2,h3⟩:=r1
   refine ⟨⟨p,vs,rfl,F0 g1.sub h2⟩,H0,Hf1,g1.sub,sl.grow g1,fun w H2 Hf2 g2 r2=>?_⟩
   exact ⟨Hf2,w,rfl,g2.sub,r1'.mono g2.ext,r2,k _ H2 Hf2 (g1.trans g2) rfl⟩
  ·cases q
 | _=>cases q
end
end G
namespace G
open PySem PySem.Spec PyProof.Rows L2
abbrev FnD:=List D → Option D
structure Sg where
 fn : List (Str × FnD × Nat)
 cs : List (Str × D)
 bl : List Str
structure Kx where
 N : List Str
 sc : Scope
 df : Bool
 own : List Nat
 cpt : List Nat
 tx : List Nat
 old : Bool
 fz : List (Nat × List Nat)
 hc : List ((Nat × Nat) × List Nat)
def biS (K : PySem.W.Frag) (n : Nat) (F : List D → Option D) : List V → Hp → VK → Prop:=fun vs H Q=>vs.length = n ∧ ∃ Hf ds d,J0 Hf H ∧ Reps K Hf ds vs ∧ F ds = some d ∧ ∀ v H' Hf',Grow H Hf H' Hf' → Rep K Hf' d v → Q v H'
def cu1 (x : Str) (F : FnD) (n : Nat) : Prop:=0 < n ∧ x ≠ "__name__" ∧ ∃ nm,bootBuiltins x = some (.builtin nm) ∧ ∀ X : Cx,X.A.units + 64 < cLine → y6 X (.builtin nm) (biS X.K n F)
theorem cB1 {X : Cx} {n : Nat} {F : FnD} {x : Str} {e : Expr} {es : List Expr} {g : Rho → Option (List D)} {p pos : Pos} (hb : cu1 x F n) (hu : X.A.units + 64 < cLine) (hg : Gl X x) (hm : X.mg x = none) (ha : JA X (e :: es) g) (hn : (e :: es).length = n) (hdb : (x == ("__debug__" : Str)) = false)
  (he : starEach (e :: es) X.env = (false,eval e X.env) :: starEach es X.env) (hpl : (backTo pos (starEach es X.env)).any (·.1) = false) : JE X (.Call (.Name x p) (e :: es) [] pos) (A8 F g):=fun ρ d q=>by
 obtain ⟨ds,h1,h2⟩:=Option.bind_eq_some_iff.mp q
 obtain ⟨_,hnn,nm,hv,hc⟩:=hb
 refine D8 (ab1 (hc X hu) hg hm hv (ha.run ρ ds h1) hnn hdb he hpl) fun σ H Q ⟨H0,Hf,s,sl,kk⟩=>?_
 exact ⟨H0,Hf,s,sl,fun vs H1 Hf1 g1 r1=>⟨by rw [r1.length,ha.len ρ ds h1,hn],Hf1,ds,d,g1.sub,r1,h2,fun v H2 Hf2 g2 r2=>kk v H2 Hf2 (g1.trans g2) r2⟩⟩
def cH8 (X : Cx) (x : Str) (F : FnD) (n : Nat) : Prop:=(∃ (k : Nat) (f : Addr) (fd : FuncData) (ps : List Str),FnOk X.prog X.w X.K X.mg X.base CX0 k f fd ps (spF X.K n F) ∧ Room k X.A ∧ X.mg x = some (.ref f) ∧ PySem.W.keepIn X.K (.ref f) = true ∧ y8 X.K fd ps []) ∨ (X.mg x = none ∧ cu1 x F n)
structure Fit (S : Sg) (c : Kx) (X : Cx) : Prop where
 N : X.N = c.N
 sc : X.env.scope = c.sc
 nd : c.N.Nodup
 calm : X.calm = true
 xe : X.xe = fun _ _=>False
 units : X.A.units + 64 < cLine
 df : c.df = true → (∀ x,X.fn x = true) ∧ c.sc.kind = .function
 fns : ∀ x F n,S.fn.lookup x = some (F,n) → cH8 X x F n
 css : ∀ x d,S.cs.lookup x = some d → ∃ u,bd6 X.K d u ∧ X.mg x = some u
 bls : ∀ x,S.bl.contains x = true → X.mg x = none
def pl : Expr → Bool
 | .Starred ..=>false
 | .Slice ..=>false
 | .Set ..=>false
 | _=>true
def bh0 : Expr → Bool
 | .Call ..=>false
 | _=>true
def isC : Expr → Bool
 | .ListComp ..=>true
 | .SetComp ..=>true
 | .DictComp ..=>true
 | _=>false
def plT : Expr → Bool
 | .UnaryOp ..=>false
 | .BoolOp ..=>false
 | .IfExp ..=>false
 | .Compare ..=>false
 | _=>true
def aq4 (x : Str) : List Str → Option Nat
 | []=>none
 | y :: r=>if y == x then some 0 else (aq4 x r).map (· + 1)
theorem aY8 {x : Str} : ∀ {l : List Str} {i : Nat},aq4 x l = some i → l[i]? = some x
 | [],i,h=>by cases h
 | y :: r,i,h=>by
  unfold aq4 at h
  split at h
  ·rename_i e
   cases h
   simp only [beq_iff_eq] at e
   subst e; rfl
  ·obtain ⟨j,h1,h2⟩:=Option.map_eq_some_iff.mp h
   subst h2
   simpa using aY8 h1
def ay0 : List Str → Bool
 | []=>true
 | x :: r=>!(r.contains x) && ay0 r
theorem ax9 : ∀ {l : List Str},ay0 l = true → l.Nodup
 | [],_=>List.nodup_nil
 | x :: r,h=>by
  unfold ay0 at h
  simp only [Bool.and_eq_true,Bool.not_eq_true'] at h
  refine List.nodup_cons.mpr ⟨fun z=>?_,ax9 h.2⟩
  have:=h.1
  rw [List.contains_iff_mem.mpr z] at this
  cases this
def bq4 (sc : Scope) (x : Str) : Bool:=(match sc.names.lookup x with | some .local=>true | some .cell=>true | some .free=>true | _=>false) && !(x == ("__debug__" : Str)) && !(x == ("__classdict__" : Str))
def bG0 (c : Kx) (x : Str) : Bool:=(match c.sc.names.lookup x with | some .local=>true | some .cell=>c.df | _=>false)
def bJ7 (sc : Scope) (x : Str) : Bool:=(match sc.names.lookup x with | some .globalImplicit=>true | _=>false) && !(x == ("__debug__" : Str))
def biB (S : Sg) (c : Kx) (w x : Str) : Bool:=x == w && S.bl.contains w && bJ7 c.sc w
section
variable {X : Cx} {S : Sg} {c : Kx}
theorem aA9 {x : Str} (F : Fit S c X) (h : bq4 c.sc x = true) : Vis X.env.scope x ∧ (x == ("__debug__" : Str)) = false ∧ (x == ("__classdict__" : Str)) = false:=by
 unfold bq4 at h
 simp only [Bool.and_eq_true,Bool.not_eq_true'] at h
 obtain ⟨⟨h1,h2⟩,h3⟩:=h
 refine ⟨?_,h2,h3⟩
 rw [F.sc]
 unfold Vis
 split at h1
 ·rename_i e; exact .inl e
 ·rename_i e; exact .inr (.inl e)
 ·rename_i e; exact .inr (.inr e)
 ·cases h1
theorem bo0 {x : Str} (F : Fit S c X) (h : bG0 c x = true) : L2.Loc X.env.scope x ∧ (X.fn x = true ∨ X.env.scope.names.lookup x = some .local):=by
 unfold bG0 at h
 rw [F.sc]
 unfold L2.Loc
 split at h
 ·rename_i e; exact ⟨.inl e,.inr e⟩
 ·rename_i e; exact ⟨.inr e,.inl ((F.df h).1 x)⟩
 ·cases h
theorem aR5 {x : Str} (F : Fit S c X) (h : bJ7 c.sc x = true) : Gl X x ∧ (x == ("__debug__" : Str)) = false:=by
 unfold bJ7 at h
 simp only [Bool.and_eq_true,Bool.not_eq_true'] at h
 refine ⟨?_,h.2⟩
 unfold Gl Env.kindOf
 rw [F.sc]
 have h1:=h.1
 split at h1
 ·rename_i e; exact e
 ·cases h1
theorem N7 {w x : Str} (F : Fit S c X) (h : biB S c w x = true) : x = w ∧ Gl X w ∧ X.mg w = none:=by
 unfold biB at h
 simp only [Bool.and_eq_true,beq_iff_eq] at h
 exact ⟨h.1.1,(aR5 F h.2).1,F.bls _ h.1.2⟩
theorem U0 {e : Expr} (h : pl e = true) (es : List Expr) (env : Env) : starEach (e :: es) env = (false,eval e env) :: starEach es env:=by
 cases e <;> first | rfl | cases h
theorem bZ8 {e : Expr} (h : pl e = true) : aC1 e:=by
 intro o i
 cases e <;> first | rfl | cases h
theorem aB0 {e : Expr} (h : pl e = true) (op : CmpOp) : behindInMarks op e = false:=by
 cases e <;> first | rfl | cases h
theorem bn1 {e : Expr} (h : pl e = true) (env : Env) (x : Value) : foldedSetIterable e env x = pure x:=by
 cases e <;> first | rfl | cases h
theorem az6 {o : Expr} (h : bh0 o = true) (attr : Str) (env : Env) (t : Sem Value) : attributeBase o attr env t = t:=by
 cases o <;> first | rfl | cases h
theorem aF1 {e : Expr} (h : isC e = false) (t : Option Expr) (l : Nat) (env : Env) : swapsWith e t l env = pure false:=by
 cases e <;> first | rfl | cases h
theorem bC8 {e : Expr} (h : plT e = true) (env : Env) (whole : Sem Value) : isTrue e env whole = (do let v ← whole; standAt e.pos; holding [v] (truthy v)):=by
 cases e <;> first | rfl | cases h
end
end G
namespace G
open PySem PySem.Spec PyProof.Rows L2
abbrev DA:=Rho → Option (List D)
abbrev DQ:=Rho → Option (Bool × List D)
abbrev DT:=Rho → Option Bool
abbrev DG:=D → Rho → Option Rho
def dNo : DE:=fun _=>none
def aNo : DA:=fun _=>none
def qNo : DQ:=fun _=>none
def tNo : DT:=fun _=>none
def gNo : DG:=fun _ _=>none
structure Ev where
 e : Kx → Expr → DE
 q : Kx → Expr → DQ
 n : Kx → Expr → DA
 t : Kx → Expr → DT
 g : Kx → Expr → DG
 b : Kx → List Stmt → DS
def bj4 : CmpOp → D → D → Option D
 | .Lt=>ltI | .LtE=>leI | .Gt=>gtI | .GtE=>geI | .Eq=>eqD | .NotEq=>neD | .Is=>isB | .IsNot=>bT0 | .In=>inD false | .NotIn=>inD true
def evA (f : Expr → DE) : List Expr → DA
 | []=>A7
 | e :: es=>if pl e then A5 (f e) (evA f es) else aNo
def bK7 (f : Expr → DE) (op : BoolOp) : List Expr → DE
 | []=>dNo
 | [a]=>f a
 | a :: b :: r=>match op with
  | .And=>G0 (f a) (bK7 f op (b :: r))
  | .Or=>dOr (f a) (bK7 f op (b :: r))
def bK6 (f : Expr → DT) (op : BoolOp) : List Expr → DT
 | []=>tNo
 | [a]=>f a
 | a :: b :: r=>match op with
  | .And=>L7 (f a) (bK6 f op (b :: r))
  | .Or=>C4 (f a) (bK6 f op (b :: r))
def evO (f : Expr → DE) : Option Expr → Rho → Option (Option Int)
 | none=>E7
 | some e=>D1 (f e)
def cs4 (f : Expr → DG) : List Expr → List D → Rho → Option Rho
 | []=>Q9
 | e :: es=>F6 (f e) (cs4 f es)
def bK4 (f : Expr → DT) : List Expr → DT
 | []=>G1
 | [t]=>f t
 | _=>tNo
def Y6 : Expr → List Str
 | .Name x _=>[x]
 | .Tuple es _ _=>es.filterMap fun | .Name x _=>some x | _=>none
 | _=>[]
def rl (scope sc : Scope) : Scope:={ scope with names:=scope.names.map fun (n,k)=>if (k == .free && sc.kind == .function && sc.names.lookup n == some .cell) then (n,.cell) else (n,k) }
def bJ0 (n : Nat) (caps l : List Nat) : List Nat:=(List.range caps.length).filterMap fun i=>match caps[i]? with | some j=>if l.contains j then some (n + i) else none | none=>none
def cx1 (c : Kx) (j : Nat) : Str:=(c.N[j]?).getD ""
def inner (c : Kx) (tn : List Str) (caps : List Nat) (scope : Scope) : Kx :=
 { N:=tn ++ caps.map (cx1 c),sc:=rl scope c.sc,df:=false,own:=bJ0 tn.length caps c.own,cpt:=[],tx:=bJ0 tn.length caps c.tx,old:=c.old,fz:=[],hc:=c.hc }
def isList : Expr → Bool
 | .List ..=>true
 | .ListComp ..=>true
 | _=>false
def at3 (c : Kx) (l : List Nat) : Expr → Bool
 | .Name x _=>(match aq4 x c.N with | some i=>l.contains i | none=>false)
 | _=>false
def cr9 : Expr → Bool
 | .Constant (.str _) _ _=>true
 | _=>false
def cv9 (S : Sg) (c : Kx) : Expr → Bool
 | .Constant (.str _) _ _=>true
 | .Name x _=>(match aq4 x c.N with | some _=>false | none=>(match S.cs.lookup x with | some (.str _)=>true | _=>false))
 | _=>false
def opW (S : Sg) (c : Kx) (op : CmpOp) (b : Expr) : D → D → Option D:=if cv9 S c b then (match op with
 | .In=>inS false
 | .NotIn=>inS true
 | _=>bj4 op) else bj4 op
def aZ1 : Expr → Bool
 | .Tuple ..=>true
 | _=>false
def cc1 (x : Str) : Option String:=if x == "int" then some "int" else if x == "bool" then some "bool" else if x == "str" then some "str" else if x == "tuple" then some "tuple" else if x == "list" then some "list" else none
section
variable (S : Sg) (r : Ev)
def evR (c : Kx) (tg : Expr) (a : Expr) : DA:=match a with
 | .Call (.Name y _) [.Call (.Name z _) [b] [] _] [] _=>if biB S c "list" y && biB S c "enumerate" z && aZ1 tg && pl b then fun _=>none else fun _=>none
 | _=>fun _=>none
def evI (c : Kx) (tg it : Expr) : DA:=match it with
 | .Call (.Name x _) [a] [] _=>if biB S c "reversed" x then evR S c tg a else if biB S c "range" x && pl a then K4 (r.e c a) else if biB S c "enumerate" x && aZ1 tg && pl a then (fun _=>none) else E1 (r.e c it)
 | .Call (.Name x _) [a,b] [] _=>if biB S c "range" x && pl a && pl b then (fun _=>none) else if biB S c "zip" x && aZ1 tg && pl a && pl b then (fun _=>none) else E1 (r.e c it)
 | _=>if at3 c c.tx it then aZ3 (r.e c it) else E1 (r.e c it)
def evC (c : Kx) (ex : Expr) : DA:=match ex with
 | .ListComp elt [⟨tgt,iter,ifs,0⟩] scope pos =>
  let tn:=Y6 tgt
  let caps:=(c.hc.lookup (pos.line,pos.col)).getD []
  let c':=inner c tn caps scope
  if aC0 c.N c'.N tn.length caps c.sc scope && ay0 c'.N && pl iter then C8 tn.length caps (evI S r c tgt iter) (r.g c' tgt) (bK4 (r.t c') ifs) (r.e c' elt) else aNo
 | _=>aNo
def bd9 (c : Kx) (x : Str) (a : Expr) : DE :=
 if !(pl a) then dNo
 else if biB S c "len" x then (match a with
  | .Call (.Name y _) [e] [] _=>if biB S c "set" y && pl e then am3 (r.q c e) else D4 (r.q c a)
  | _=>if at3 c c.tx a then aM2 (r.e c a) else D4 (r.q c a))
 else if biB S c "tuple" x then N9 (r.q c a)
 else if biB S c "all" x then Y1 (r.q c a)
 else if biB S c "int" x then Z4 (r.e c a)
 else if biB S c "str" x then bj1 (r.e c a)
 else if biB S c "abs" x then dNo
 else if biB S c "min" x then dNo
 else if biB S c "max" x then dNo
 else dNo
def bd8 (c : Kx) (x : Str) (a b : Expr) : DE :=
 if !(pl a) then dNo
 else if biB S c "isinstance" x then (match b with
  | .Name y _=>(match cc1 y with
   | some T=>if biB S c y y then D3 T (r.e c a) else dNo
   | none=>dNo)
  | _=>dNo)
 else if !(pl b) then dNo
 else if biB S c "min" x then dNo
 else if biB S c "max" x then dNo
 else dNo
def bA1 (c : Kx) (x : Str) (args : List Expr) (ex : Expr) : DE:=match S.fn.lookup x with
 | some (F,n)=>if bJ7 c.sc x && args.length == n && args.all pl then A8 F (evA (r.e c) args) else dNo
 | none=>match args with
  | [a]=>if biB S c "list" x then D6 (r.n c ex) else bd9 S r c x a
  | [a,b]=>bd8 S r c x a b
  | _=>dNo
def cb2 (c : Kx) (a i : Expr) : DE:=match i with
 | .Slice lo hi none _ =>
  if c.old then ab4 (r.e c a) (evO (r.e c) lo) (evO (r.e c) hi)
  else if at3 c c.tx a then bw8 (r.e c a) (evO (r.e c) lo) (evO (r.e c) hi)
  else if at3 c c.own a then bw9 (r.q c a) (evO (r.e c) lo) (evO (r.e c) hi)
  else P8 (r.e c a) (evO (r.e c) lo) (evO (r.e c) hi)
 | .Slice none none (some (.UnaryOp .USub (.Constant (.int 1) _ _) _)) _=>bp1 (r.e c a)
 | _=>if pl i then (if cr9 a then aq8 (r.e c a) (r.e c i) else dIx (r.q c a) (r.e c i)) else dNo
def xE (c : Kx) (ex : Expr) : DE:=match ex with
 | .Constant .none _ _=>dC .none
 | .Constant (.bool b) _ _=>dC (.bool b)
 | .Constant (.int i) _ _=>dC (.int i)
 | .Constant (.str x) _ _=>dC (.str x)
 | .Name x _=>(match aq4 x c.N with
  | some i=>if bq4 c.sc x then A6 i else dNo
  | none=>(match S.cs.lookup x with
   | some d=>if bJ7 c.sc x then dC d else dNo
   | none=>dNo))
 | .Tuple es _ _=>if es.length ≤ 1000 then D2 (evA (r.e c) es) else dNo
 | .List _ _=>D6 (r.n c ex)
 | .ListComp _ _ _ _=>D6 (r.n c ex)
 | .BinOp a .Add b _=>if c.old && !(isList a || isList b) then A9 V2 (r.e c a) (r.e c b) else A9 C1 (r.e c a) (r.e c b)
 | .BinOp a .Sub b _=>A9 ag3 (r.e c a) (r.e c b)
 | .BinOp a .Mult b _=>if c.old then A9 f7 (r.e c a) (r.e c b) else (match a with
  | .Subscript v _ _=>if at3 c c.tx v then A9 bu3 (r.e c a) (r.e c b) else A9 J4 (r.e c a) (r.e c b)
  | _=>A9 J4 (r.e c a) (r.e c b))
 | .BinOp a .FloorDiv b _=>A9 V7 (r.e c a) (r.e c b)
 | .BinOp a .Mod b _=>A9 Q8 (r.e c a) (r.e c b)
 | .BinOp a .Pow b _=>A9 br4 (r.e c a) (r.e c b)
 | .UnaryOp .USub a _=>R8 (r.e c a)
 | .UnaryOp .Not a _=>af2 (r.e c a)
 | .Compare a [op] [b] _=>if pl b then A9 (opW S c op b) (r.e c a) (r.e c b) else dNo
 | .Compare a [op,op'] [b,d] _=>if pl d then E2 (bj4 op) (bj4 op') (r.e c a) (r.e c b) (r.e c d) else dNo
 | .BoolOp op vs _=>bK7 (r.e c) op vs
 | .IfExp t a b _=>ay6 (r.t c t) (r.e c a) (r.e c b)
 | .Subscript a i _=>cb2 r c a i
 | .Call (.Attribute o m apos) [a] [] cpos=>if m == "join" && bh0 o && apos.endLine == cpos.line && pl a then aG4 (r.e c o) (r.q c a) else if m == "index" && bh0 o && apos.endLine == cpos.line && pl a then aG5 (r.e c o) (r.e c a) else dNo
 | .Call (.Name x _) args [] _=>bA1 S r c x args ex
 | _=>dNo
def xQ (c : Kx) (ex : Expr) : DQ:=match ex with
 | .Name x _=>(match aq4 x c.N with
  | some i=>if bq4 c.sc x then B0 i else qNo
  | none=>qE (r.e c ex))
 | .List _ _=>qN (r.n c ex)
 | .ListComp _ _ _ _=>qN (r.n c ex)
 | .Call (.Name x _) [_] [] _=>if biB S c "list" x then qN (r.n c ex) else qE (r.e c ex)
 | _=>qE (r.e c ex)
def xN (c : Kx) (ex : Expr) : DA:=match ex with
 | .List es _=>if es.length ≤ 1000 then evA (r.e c) es else aNo
 | .ListComp _ _ _ _=>evC S r c ex
 | .Call (.Name x _) [a] [] _=>if biB S c "list" x && pl a then (fun ρ=>(r.q c a ρ).map fun q=>q.2) else aNo
 | .BinOp a .Add b _=>aX9 (r.q c a) (r.q c b)
 | _=>aNo
def xT (c : Kx) (ex : Expr) : DT:=match ex with
 | .Compare a [op] [b] _=>if pl b then tB2 (opW S c op b) (r.e c a) (r.e c b) else tNo
 | .Compare a [op,op'] [b,d] _=>if pl d then r8 (E2 (bj4 op) (bj4 op') (r.e c a) (r.e c b) (r.e c d)) else tNo
 | .BoolOp op vs _=>bK6 (r.t c) op vs
 | .UnaryOp .Not a _=>B7 (r.t c a)
 | _=>if plT ex then B9 (r.e c ex) else tNo
def xG (c : Kx) (ex : Expr) : DG:=match ex with
 | .Name x _=>(match aq4 x c.N with
  | some i=>if bG0 c x then C7 i else gNo
  | none=>gNo)
 | .Tuple es _ _=>if es.all pl then Q2 es.length (cs4 (r.g c) es) else gNo
 | _=>gNo
def cy1 (c : Kx) (x y : Str) (px py : Pos) (a b : Expr) : Bool :=
 c.df && pl a && pl b && !(x == y) && px.line == py.line && c.sc.names.lookup x == some .local && c.sc.names.lookup y == some .local && !(([a,b] : List Expr).all (foldedForSure 8)) && !(([a,b] : List Expr).all (constantsAlone 8))
def cb4 (c : Kx) (tg v : Expr) (p : Pos) : DS:=match tg with
 | .Name x p'=>(match aq4 x c.N with
  | none=>P3
  | some i=>if !(bG0 c x) then P3 else (match v with
   | .ListComp _ _ sc pv=>if c.sc.names.lookup x == some .local then
     (if c.df && p'.line == pv.line && !(sc.names.any fun (n,k)=>n == x && (k == .local || k == .cell)) then (if c.own.contains i then r9 i (evC S r c v) else R3 i (evC S r c v)) else P3)
    else D0 i (r.e c v)
   | _=>if isC v then P3 else if c.own.contains i then r9 i (r.n c v) else D0 i (r.e c v)))
 | .Subscript (.Name x _) (.Slice lo hi none _) _=>(match aq4 x c.N with
  | none=>P3
  | some i=>if bq4 c.sc x && !(isC v) then bB5 i (evO (r.e c) lo) (evO (r.e c) hi) (r.n c v) else P3)
 | .Tuple [.Name x px,.Name y py] _ _=>(match v with
  | .Tuple [a,b] _ _=>(match aq4 x c.N,aq4 y c.N with
   | some i,some j=>if cy1 c x y px py a b then bB6 i j (evA (r.e c) [a,b]) else P3
   | _,_=>P3)
  | .Tuple _ _ _=>P3
  | _=>Y9 (r.e c v) (r.g c tg))
 | .Tuple es _ _=>if aZ1 v && (es.length == 2 || es.length == 3) then P3 else Y9 (r.e c v) (r.g c tg)
 | _=>P3
def cb3 (c : Kx) (x m : Str) (e : Expr) : DS:=match aq4 x c.N with
 | none=>P3
 | some i=>if bq4 c.sc x && pl e then (if m == "append" then aa3 i (r.e c e) else if m == "extend" then bf1 i (r.e c e) else P3) else P3
def xS0 (c : Kx) (st : Stmt) : DS:=match st with
 | .Return (some e) _=>B4 (r.e c e)
 | .If t a b _=>sIf (r.t c t) (r.b c a) (r.b c b)
 | .While t a [] _=>ad3 (r.t c t) (r.b c a)
 | .For tg it a [] _=>if pl it then aa2 (evI S r c tg it) (r.g c tg) (r.b c a) else P3
 | .Assign [tg] v p=>cb4 S r c tg v p
 | .Expr (.Call (.Attribute (.Name x _) m apos) [e] [] cpos) _=>if apos.endLine == cpos.line then cb3 r c x m e else P3
 | .Continue _=>bZ5
 | .Break _=>fun ρ=>some (.bk ρ)
 | .Pass _=>C0
 | _=>P3
def cn0 : Stmt → Nat
 | .Return _ p=>p.line
 | .If _ _ _ p=>p.line
 | .While _ _ _ p=>p.line
 | .For _ _ _ _ p=>p.line
 | .Assign _ _ p=>p.line
 | .Expr _ p=>p.line
 | _=>0
def fzW (g : DS) : Option (List Nat) → DS
 | none=>g
 | some l=>l.foldl (fun g i=>ax4 i g) g
def xS (c : Kx) (st : Stmt) : DS:=fzW (xS0 S r c st) (c.fz.lookup (cn0 st))
def evB (f : Stmt → DS) : List Stmt → DS
 | []=>C0
 | [s]=>f s
 | s :: t :: J6=>B3 (f s) (evB f (t :: J6))
def step : Ev:=⟨xE S r,xQ S r,xN S r,xT S r,xG r,fun c=>evB (xS S r c)⟩
end
def ev (S : Sg) : Nat → Ev
 | 0=>⟨fun _ _=>dNo,fun _ _=>qNo,fun _ _=>aNo,fun _ _=>tNo,fun _ _=>gNo,fun _ _=>P3⟩
 | n + 1=>step S (ev S n)
end G
namespace Sh
open PySem PySem.Spec PyProof.Rows L2 G
def ab8 : DS:=(B4 (G0 (D3 "str" (A6 0)) (G0 (E2 leI leI (dC (.int 1)) (aM2 (A6 0)) (dC (.int 6))) (Y1 (qN (C8 1 [] (aZ3 (A6 0)) (C7 0) G1 (A9 (inS false) (A6 0) (dC (.str "abcdefghijklmnopqrstuvwxyz")))))))))
def O8 : List D → Option D:=E9 ab8 1
def ar8 : DS:=(B4 (D3 "bool" (A6 0)))
def U8 : List D → Option D:=E9 ar8 1
def Y3 : DS:=(B4 (G0 (A8 J8 (A5 (A6 0) A7)) (E2 leI leI (R8 (dC (.int 9))) (A6 0) (dC (.int 9)))))
def P2 : List D → Option D:=E9 Y3 1
def am6 : DS:=(B3 (sIf (tB2 isB (A6 0) (dC .none)) (B4 (dC (.bool true))) C0) (B3 (sIf (C4 (B7 (B9 (D3 "tuple" (A6 0)))) (tB2 neD (D4 (B0 0)) (D4 (qE (dIx (B0 1) (dC (.int 2))))))) (B4 (dC (.bool false))) C0) (B4 (Y1 (qN (C8 1 [] (E1 (A6 0)) (C7 0) G1 (A8 F8 (A5 (A6 0) A7))))))))
def ac2 : List D → Option D:=E9 am6 2
def J3 : DS:=(B3 (sIf (C4 (tB2 neD (D4 (B0 0)) (dC (.int 9))) (C4 (tB2 (inD true) (A8 P1 (A5 (A6 0) A7)) (dC (.tuple [(.str "over"),(.str "multiply"),(.str "screen"),(.str "plus"),(.str "atop"),(.str "cut")]))) (B7 (B9 (A8 L3 (A5 (A8 o9 (A5 (A6 0) A7)) A7)))))) (B4 (dC (.bool false))) C0) (B4 (G0 (A8 P2 (A5 (A8 an0 (A5 (A6 0) A7)) A7)) (G0 (A8 P2 (A5 (A8 au9 (A5 (A6 0) A7)) A7)) (A8 ac2 (A5 (A8 am9 (A5 (A6 0) A7)) (A5 (A8 o9 (A5 (A6 0) A7)) A7)))))))
def L5 : List D → Option D:=E9 J3 1
def E3 (self : Nat → List D → Option D) : DS:=(B3 (sIf (C4 (tB2 neD (D4 (B0 0)) (dC (.int 6))) (C4 (tB2 (inD true) (A8 P1 (A5 (A6 0) A7)) (dC (.tuple [(.str "over"),(.str "multiply"),(.str "screen"),(.str "plus"),(.str "atop"),(.str "cut")]))) (tB2 eqD (A6 1) (dC (.int 0))))) (B4 (dC (.bool false))) C0) (B4 (A8 (self 2) (A5 (A8 J9 (A5 (A6 0) A7)) (A5 (A9 ag3 (A6 1) (dC (.int 1))) A7)))))
def F9 (self : Nat → List D → Option D) : DS:=(B3 (sIf (C4 (B7 (B9 (D3 "tuple" (A6 0)))) (tB2 ltI (D4 (B0 0)) (dC (.int 5)))) (B4 (dC (.bool false))) C0) (B3 (sIf (C4 (B7 (B9 (A8 O8 (A5 (A8 M5 (A5 (A6 0) A7)) A7)))) (C4 (B7 (B9 (A8 F8 (A5 (A8 Q5 (A5 (A6 0) A7)) A7)))) (B7 (B9 (A8 U8 (A5 (A8 p9 (A5 (A6 0) A7)) A7)))))) (B4 (dC (.bool false))) C0) (B3 (sIf (B9 (A8 ag0 (A5 (A6 0) A7))) (B4 (A8 L5 (A5 (A6 0) A7))) C0) (B3 (sIf (B9 (A8 N8 (A5 (A6 0) A7))) (B4 (A8 (self 0) (A5 (A6 0) (A5 (A6 1) A7)))) C0) (B4 (G0 (A8 an3 (A5 (A6 0) A7)) (G0 (A9 eqD (D4 (B0 0)) (dC (.int 5))) (A9 (inD false) (A8 am8 (A5 (A6 0) A7)) (dC (.tuple [(.str "turn"),(.str "grey"),(.str "round")]))))))))))
def Y4 (self : Nat → List D → Option D) : DS:=(B4 (G0 (D3 "tuple" (A6 0)) (Y1 (qN (C8 1 [1] (E1 (A6 0)) (C7 0) G1 (A8 (self 1) (A5 (A6 0) (A5 (A6 1) A7))))))))
def B1 : Nat → Nat → List D → Option D
 | 0=>fun _ _=>none
 | k + 1=>fun i=>match i with
  | 0=>E9 (E3 (B1 k)) 2
  | 1=>E9 (F9 (B1 k)) 2
  | 2=>E9 (Y4 (B1 k)) 2
  | _=>fun _=>none
def C9 (k : Nat) : List D → Option D:=B1 k 0
def C6 (k : Nat) : List D → Option D:=B1 k 1
def S6 (k : Nat) : List D → Option D:=B1 k 2
def X4 (self : List D → Option D) : DS:=(B3 (r9 1 A7) (B3 (aa2 (E1 (A6 0)) (C7 2) (B3 (aa3 1 (A8 M5 (A5 (A6 2) A7))) (sIf (B9 (A8 N8 (A5 (A6 2) A7))) (bf1 1 (A8 self (A5 (A8 J9 (A5 (A6 2) A7)) A7))) C0))) (ax4 1 (B4 (A6 1)))))
def D5 : Nat → List D → Option D
 | 0=>fun _=>none
 | k + 1=>E9 (X4 (D5 k)) 3
def o7 : DS:=(B3 (D0 1 (A8 (D5 12) (A5 (A6 0) A7))) (B4 (A9 eqD (am3 (B0 1)) (D4 (B0 1)))))
def Q1 : List D → Option D:=E9 o7 2
end Sh
namespace Sh
open PySem G
theorem O0 (i j : Int) : neD (.int i) (.int j) = some (.bool (!(i == j))):=rfl
theorem W1 (i j : Int) : eqD (.int i) (.int j) = some (.bool (i == j)):=rfl
theorem bo5 {t : Rho → Option Bool} {f : DS} {n : Nat} {ρ ρ' : Rho} (h1 : t ρ = some true) (h2 : f ρ = some (.nx ρ')) : Y0 t f (n + 1) ρ = Y0 t f n ρ':=by
 simp only [Y0,h1,h2,xbs,if_true]
theorem bK1 : ∀ (b a : Nat) (x : Option B),∃ n x',Y0 (tB2 neD (A6 1) (dC (.int 0))) (B3 (D0 2 (A9 Q8 (A6 0) (A6 1))) (B3 (D0 0 (A6 1)) (D0 1 (A6 2)))) n [‹.int a›,‹.int b›,x]
  = some (.nx [‹.int (Nat.gcd a b)›,‹.int 0›,x']):=by
 intro b
 induction b using Nat.strongRecOn with
 | _ b ih =>
  intro a x
  by_cases hb : b = 0
  ·subst hb
   refine ⟨1,x,?_⟩
   rw [Nat.gcd_zero_right]
   rfl
  ·obtain ⟨n,x',h⟩:=ih (a % b) (Nat.mod_lt _ (Nat.pos_of_ne_zero hb)) b (‹.int ((a % b : Nat) : Int)›)
   refine ⟨n + 1,x',?_⟩
   have e1 : tB2 neD (A6 1) (dC (.int 0)) [‹.int a›,‹.int b›,x] = some true:=by
    show (neD (.int b) (.int 0)).bind B8 = some true
    rw [O0]
    have : ((b : Int) == 0) = false:=by simp; omega
    rw [this]; rfl
   have e2 : Q8 (.int a) (.int b) = some (.int ((a % b : Nat) : Int)):=by
    show (if (0 : Int) < (b : Int) then some (PyData.int ((a : Int) % (b : Int))) else none) = _
    rw [if_pos (by omega)]
    simp
   have e3 : B3 (D0 2 (A9 Q8 (A6 0) (A6 1))) (B3 (D0 0 (A6 1)) (D0 1 (A6 2))) [‹.int a›,‹.int b›,x] = some (.nx [‹.int b›,‹.int ((a % b : Nat) : Int)›,‹.int ((a % b : Nat) : Int)›]):=by
    show ((((Q8 (.int a) (.int b))).map fun d=>Fl.nx [‹.int a›,‹.int b›,some (.val d)]).bind _) = _
    rw [e2]
    rfl
   rw [bo5 e1 e3,h,Nat.gcd_comm b,Nat.gcd_comm a b,← Nat.gcd_rec]
theorem bN9 (a b : Nat) : M0 [.int a,.int b] = some (.int (Nat.gcd a b)):=by
 obtain ⟨n,x',h⟩:=bK1 b a none
 show ((ad3 _ _ [‹.int a›,‹.int b›,none]).bind _).bind _ = _
 rw [aK8 h]
 rfl
theorem bu4 : ∀ (a b : Nat) (t u : D),∃ n,Y0 (tB2 gtI (A6 2) (dC (.int 0))) (bB6 2 3 (A5 (A9 Q8 (A6 3) (A6 2)) (A5 (A6 2) A7))) n [some (.val t),some (.val u),‹.int a›,‹.int b›]
  = some (.nx [some (.val t),some (.val u),‹.int 0›,‹.int (Nat.gcd a b)›]):=by
 intro a
 induction a using Nat.strongRecOn with
 | _ a ih =>
  intro b t u
  by_cases ha : a = 0
  ·subst ha
   refine ⟨1,?_⟩
   rw [Nat.gcd_zero_left]
   rfl
  ·obtain ⟨n,h⟩:=ih (b % a) (Nat.mod_lt _ (Nat.pos_of_ne_zero ha)) a t u
   refine ⟨n + 1,?_⟩
   have e1 : tB2 gtI (A6 2) (dC (.int 0)) [some (.val t),some (.val u),‹.int a›,‹.int b›] = some true:=by
    show some (decide ((0 : Int) < (a : Int))) = some true
    rw [decide_eq_true (by omega)]
   have e2 : Q8 (.int b) (.int a) = some (.int ((b % a : Nat) : Int)):=by
    show (if (0 : Int) < (a : Int) then some (PyData.int ((b : Int) % (a : Int))) else none) = _
    rw [if_pos (by omega)]
    simp
   have e3 : bB6 2 3 (A5 (A9 Q8 (A6 3) (A6 2)) (A5 (A6 2) A7)) [some (.val t),some (.val u),‹.int a›,‹.int b›] = some (.nx [some (.val t),some (.val u),‹.int ((b % a : Nat) : Int)›,‹.int a›]):=by
    show ((Q8 (.int b) (.int a)).bind fun d=>(some [PyData.int (a : Int)]).map fun ds=>d :: ds).bind _ = _
    rw [e2]
    rfl
   rw [bo5 e1 e3,h,← Nat.gcd_rec]
def fr (r : Rat) : D:=.tuple [.int r.num,.int r.den]
theorem J5 {i : Int} {k : Nat} (h : i.natAbs < 2 ^ k) (hk : k ≤ 8000) : G7 i:=Nat.lt_of_lt_of_le h (Nat.pow_le_pow_right (by decide) hk)
theorem at0 (a b : Nat) (hb : 0 < b) : fr (mkRat a b) = .tuple [.int ((a / Nat.gcd a b : Nat) : Int),.int ((b / Nat.gcd a b : Nat) : Int)]:=by
 unfold fr
 rw [Rat.num_mkRat,Rat.den_mkRat,if_neg (by omega),if_neg (by omega)]
 have e : b.gcd (a : Int).natAbs = Nat.gcd a b:=by rw [Int.natAbs_natCast,Nat.gcd_comm]
 rw [e]
 simp
theorem bo9 (a b x k : Nat) (hb : 0 < b) (hk : b < 2 ^ k) (hk8 : k ≤ 8000) : V7 (.int x) (.int (Nat.gcd a b)) = some (.int ((x / Nat.gcd a b : Nat) : Int)):=by
 have g0 : 0 < Nat.gcd a b:=Nat.gcd_pos_of_pos_right _ hb
 have gs : G7 (Nat.gcd a b : Nat):=J5 (k:=k) (by rw [Int.natAbs_natCast]; exact Nat.lt_of_le_of_lt (Nat.le_of_dvd hb (Nat.gcd_dvd_right a b)) hk) hk8
 show (if (0 : Int) < ((Nat.gcd a b : Nat) : Int) ∧ G7 (Nat.gcd a b : Nat) then some (PyData.int ((x : Int) / ((Nat.gcd a b : Nat) : Int))) else none) = _
 rw [if_pos ⟨by omega,gs⟩]
 simp
theorem bZ0 (a b k : Nat) (hb : 0 < b) (hk : b < 2 ^ k) (hk8 : k ≤ 8000) : av0 [.int a,.int b] = some (fr (mkRat a b)):=by
 have d:=fun x=>bo9 a b x k hb hk hk8
 have e : j4 [‹.int a›,‹.int b›,none] = some (.rt (fr (mkRat a b))):=by
  rw [at0 a b hb]
  simp only [j4,B3,D0,A8,A5,A7,A6,xg0,xg1,xbs,xms,bN9,xw1,xw0,B4,D2,A9,d]
 show (j4 [‹.int a›,‹.int b›,none]).bind _ = _
 rw [e]; rfl
theorem aU5 (a b k : Nat) (hb : 0 < b) (hk : b < 2 ^ k) (hk8 : k ≤ 8000) : p7 [.int a,.int b] = some (fr (mkRat a b)):=by
 have d:=fun x=>bo9 a b x k hb hk hk8
 obtain ⟨n,h⟩:=bu4 a b (.int a) (.int b)
 have e : au8 [‹.int a›,‹.int b›,none,none] = some (.rt (fr (mkRat a b))):=by
  rw [at0 a b hb]
  simp only [au8,B3,D0,A8,A5,A7,A6,xg0,xg1,xbs,xms,xw1,xw0,B4,D2,A9,d,aK8 h]
 show (au8 [‹.int a›,‹.int b›,none,none]).bind _ = _
 rw [e]; rfl
structure Bd (k : Nat) (r : Rat) : Prop where
 nn : 0 ≤ r
 num : r.num.natAbs < 2 ^ k
 den : r.den < 2 ^ k
theorem Bd.mono {j k : Nat} {r : Rat} (h : Bd j r) (l : j ≤ k) : Bd k r:=⟨h.nn,Nat.lt_of_lt_of_le h.num (Nat.pow_le_pow_right (by decide) l),Nat.lt_of_lt_of_le h.den (Nat.pow_le_pow_right (by decide) l)⟩
theorem Bd.nat {k : Nat} {r : Rat} (h : Bd k r) : r.num = (r.num.natAbs : Int):=by
 have:=Rat.num_nonneg.mpr h.nn
 omega
theorem bF7 (a b : Nat) : 0 ≤ mkRat (a : Int) b:=by
 rw [← Rat.num_nonneg,Rat.num_mkRat]
 split
 ·exact Int.le_refl _
 ·exact Int.ediv_nonneg (by omega) (by omega)
theorem Bd.of {a b k : Nat} (hb : 0 < b) (h1 : a < 2 ^ k) (h2 : b < 2 ^ k) : Bd k (mkRat a b):=by
 refine ⟨bF7 a b,?_,?_⟩
 ·rw [Rat.num_mkRat,if_neg (by omega)]
  rw [show ((a : Int) / ((b.gcd (a : Int).natAbs : Nat) : Int)) = ((a / b.gcd (a : Int).natAbs : Nat) : Int) by simp,Int.natAbs_natCast]
  exact Nat.lt_of_le_of_lt (Nat.div_le_self _ _) h1
 ·rw [Rat.den_mkRat,if_neg (by omega)]
  exact Nat.lt_of_le_of_lt (Nat.div_le_self _ _) h2
theorem ad8 {a b j k : Nat} (h1 : a < 2 ^ j) (h2 : b < 2 ^ k) : a * b < 2 ^ (j + k):=by
 rw [Nat.pow_add]
 exact Nat.mul_lt_mul'' h1 h2
theorem aO8 {j k : Nat} {r s : Rat} (hr : Bd j r) (hs : Bd k s) : r * s = mkRat ((r.num.natAbs * s.num.natAbs : Nat) : Int) (r.den * s.den):=by
 rw [Rat.mul_def,Rat.normalize_eq_mkRat,Int.natCast_mul,← hr.nat,← hs.nat]
theorem P6 (r : Rat) : 0 < r.den:=Nat.pos_of_ne_zero r.den_nz
theorem Bd.mul {j k : Nat} {r s : Rat} (hr : Bd j r) (hs : Bd k s) : Bd (j + k) (r * s):=by
 rw [aO8 hr hs]
 exact Bd.of (Nat.mul_pos (P6 r) (P6 s)) (ad8 hr.num hs.num) (ad8 hr.den hs.den)
theorem Bd.one : Bd 1 1:=⟨by decide,by decide,by decide⟩
theorem Bd.zero : Bd 1 0:=⟨by decide,by decide,by decide⟩
theorem Bd.sn {k : Nat} {r : Rat} (h : Bd k r) (hk : k ≤ 8000) : G7 r.num:=J5 h.num hk
theorem Bd.sd {k : Nat} {r : Rat} (h : Bd k r) (hk : k ≤ 8000) : G7 r.den:=J5 (k:=k) (by rw [Int.natAbs_natCast]; exact h.den) hk
theorem R5 {i j : Int} (h1 : G7 i) (h2 : G7 j) : f7 (.int i) (.int j) = some (.int (i * j)):=by
 show (if G7 i ∧ G7 j then some (PyData.int (i * j)) else none) = _
 rw [if_pos ⟨h1,h2⟩]
theorem n6 (i j : Int) : V2 (.int i) (.int j) = some (.int (i + j)):=rfl
theorem Z5 (i j : Int) : ag3 (.int i) (.int j) = some (.int (i - j)):=rfl
theorem t7 (i j : Int) : leI (.int i) (.int j) = some (.bool (decide (i ≤ j))):=rfl
theorem ag5 (a b : D) : L2.atI [a,b] 0 = some a:=rfl
theorem ag4 (a b : D) : L2.atI [a,b] 1 = some b:=rfl
theorem ix0 {ρ : Rho} {i : Nat} {r : Rat} (h : ρ[i]? = some (‹fr r›)) : dIx (B0 i) (dC (.int 0)) ρ = some (.int r.num):=by
 simp only [dIx,B0,h,fr,dC,xbs,ag5]
theorem ix1 {ρ : Rho} {i : Nat} {r : Rat} (h : ρ[i]? = some (‹fr r›)) : dIx (B0 i) (dC (.int 1)) ρ = some (.int r.den):=by
 simp only [dIx,B0,h,fr,dC,xbs,ag4]
theorem v0 (x : Option B) (l : Rho) : (x :: l)[0]? = some x:=rfl
theorem v1 (y x : Option B) (l : Rho) : (y :: x :: l)[1]? = some x:=rfl
theorem ct8 {j k : Nat} {r s : Rat} (hr : Bd j r) (hs : Bd k s) (l : j + k ≤ 8000) : bY9 [fr r,fr s] = some (fr (r * s)):=by
 have e : aC2 [‹fr r›,‹fr s›] = some (.rt (fr (r * s))):=by
  simp only [aC2,B4,A8,A5,A7,A9,ix0 (v0 _ _),ix1 (v0 _ _),ix0 (v1 _ _ _),ix1 (v1 _ _ _),xbs,xms,R5 (hr.sn (by omega)) (hs.sn (by omega)),R5 (hr.sd (by omega)) (hs.sd (by omega))]
  have:=bZ0 (r.num.natAbs * s.num.natAbs) (r.den * s.den) (j + k) (Nat.mul_pos (P6 r) (P6 s)) (ad8 hr.den hs.den) l
  rw [← aO8 hr hs,Int.natCast_mul,Int.natCast_mul,← hr.nat,← hs.nat] at this
  rw [this]; rfl
 show (aC2 [‹fr r›,‹fr s›]).bind _ = _
 rw [e]; rfl
theorem aj8 {j k : Nat} {r s : Rat} (hr : Bd j r) (hs : Bd k s) (l : j + k ≤ 8000) : j6 [fr r,fr s] = some (.bool (decide (r ≤ s))):=by
 have e : j5 [‹fr r›,‹fr s›] = some (.rt (.bool (decide (r ≤ s)))):=by
  simp only [j5,B4,A8,A5,A7,A9,ix0 (v0 _ _),ix1 (v0 _ _),ix0 (v1 _ _ _),ix1 (v1 _ _ _),xbs,xms,R5 (hr.sn (by omega)) (hs.sd (by omega)),R5 (hs.sn (by omega)) (hr.sd (by omega)),t7]
  simp only [← Rat.le_iff]
 show (j5 [‹fr r›,‹fr s›]).bind _ = _
 rw [e]; rfl
end Sh
set_option exponentiation.threshold 9000
namespace Sh
open PySem G L2
theorem an6 (i j : Int) : ltI (.int i) (.int j) = some (.bool (decide (i < j))):=rfl
theorem aj2 (i j : Int) : gtI (.int i) (.int j) = some (.bool (decide (j < i))):=rfl
theorem aE5 {α : Type} (x : α) : List.replicate 0 x = []:=rfl
theorem aE4 {α : Type} (x : α) : List.replicate 1 x = [x]:=rfl
theorem aE3 {α : Type} (x : α) : List.replicate 2 x = [x,x]:=rfl
theorem aj3 (a b c d : D) : L6 [a,b,c,d] (some 1) none = [b,c,d]:=rfl
theorem ar4 (a b c d : D) : L2.atI [a,b,c,d] 0 = some a:=rfl
theorem ar3 (a b c d : D) : L2.atI [a,b,c,d] 1 = some b:=rfl
theorem ar2 (a b c d : D) : L2.atI [a,b,c,d] 2 = some c:=rfl
theorem ar1 (a b c d : D) : L2.atI [a,b,c,d] 3 = some d:=rfl
theorem ar6 (a b c : D) : L2.atI [a,b,c] 0 = some a:=rfl
theorem ar5 (a b c : D) : L2.atI [a,b,c] 1 = some b:=rfl
theorem af5 (a b c : D) : L2.atI [a,b,c] 2 = some c:=rfl
theorem aa7 {n k : Nat} (h : n < 2 ^ k) (hk : k ≤ 8000) : G7 (n : Int):=J5 (k:=k) (by rw [Int.natAbs_natCast]; exact h) hk
theorem ab3 {i j : Int} (h : 0 < j) : Q8 (.int i) (.int j) = some (.int (i % j)):=by
 show (if (0 : Int) < j then some (PyData.int (i % j)) else none) = _
 rw [if_pos h]
theorem ag2 {i j : Int} (h : 0 < j) (s : G7 j) : V7 (.int i) (.int j) = some (.int (i / j)):=by
 show (if (0 : Int) < j ∧ G7 j then some (PyData.int (i / j)) else none) = _
 rw [if_pos ⟨h,s⟩]
theorem B2 {g : DS} {n : Nat} {ds : List D} {ρ : Rho} {d : D} (h : av3 n ds = ρ) (e : g ρ = some (.rt d)) : E9 g n ds = some d:=by
 unfold E9
 rw [h,e]; rfl
theorem ar7 {j k : Nat} {r s : Rat} (hr : Bd j r) (hs : Bd k s) (l : j + k ≤ 8000) : an1 [fr r,fr s] = some (fr (r * s)):=by
 refine B2 (ρ:=[‹fr r›,‹fr s›]) rfl ?_
 simp only [aN4,B4,A8,A5,A7,A9,ix0 (v0 _ _),ix1 (v0 _ _),ix0 (v1 _ _ _),ix1 (v1 _ _ _),xbs,xms,R5 (hr.sn (by omega)) (hs.sn (by omega)),R5 (hr.sd (by omega)) (hs.sd (by omega))]
 have:=aU5 (r.num.natAbs * s.num.natAbs) (r.den * s.den) (j + k) (Nat.mul_pos (P6 r) (P6 s)) (ad8 hr.den hs.den) l
 rw [← aO8 hr hs,Int.natCast_mul,Int.natCast_mul,← hr.nat,← hs.nat] at this
 rw [this]; rfl
def aM4 (ns : List Int) (k : Nat) : Int:=if ns.length = 0 then 7 * (k : Int) else ns.getD (k % ns.length) 0 + 6553 * ((k / ns.length : Nat) : Int)
theorem bK8 (ns : List Int) : eqD (.list (ns.map PyData.int)) (.list []) = some (.bool (decide (ns.length = 0))):=by
 have h1 : SeqAt.shaped (.list (ns.map PyData.int)) = true:=by
  have c : ∀ l : List Int,PyData.canLayAll0 (l.map PyData.int) = true:=fun l=>by
   induction l with
   | nil=>rfl
   | cons a r ih=>simp only [xmc,PyData.canLayAll0,PyData.canLay0,ih]; rfl
  have d : ∀ l : List Int,PyData.depthAll (l.map PyData.int) = 0:=fun l=>by
   induction l with
   | nil=>rfl
   | cons a r ih=>simp only [xmc,PyData.depthAll,PyData.depth,ih]; rfl
  unfold SeqAt.shaped
  simp only [PyData.canLay0,c,PyData.depth,d]
  rfl
 unfold eqD
 rw [if_pos ⟨h1,rfl⟩]
 cases ns with
 | nil=>rfl
 | cons a r=>simp [PyData.eqv,PyData.eqvAll]
theorem cu0 (ns : List Int) (k : Nat) (hn : ns.length ≤ 63) (hk : k < 2 ^ 60) : av2 [.list (ns.map PyData.int),.int k] = some (.int (aM4 ns k)):=by
 refine B2 (ρ:=[‹.list (ns.map PyData.int)›,‹.int k›]) rfl ?_
 have sk : G7 (k : Int):=aa7 hk (by decide)
 by_cases h : ns.length = 0
 ·have e : aM4 ns k = 7 * (k : Int):=by unfold aM4; rw [if_pos h]
  simp only [aH5,B3,D0,B4,sIf,C0,R3,Y9,A6,dC,D2,D6,A9,A8,ay6,G0,dOr,af2,E2,dIx,ab4,D4,N9,Y1,Z4,D3,B0,qE,qN,k9,E7,D1,W2,A7,A5,B9,tB2,L7,C4,B7,G2,B8,C8,R9,t8,G1,C7,Q2,F6,Q9,E1,K4,aF7,K3,xg0,xg1,xw0,xw1,xbs,xms,xmc,xmn,xna,xca,n6,Z5,t7,O0,W1,an6,aj2,aE5,aE4,aE3,aj3,ar4,ar3,ar2,ar1,ar6,ar5,af5,ag5,ag4,xnt,xnf,xft,if_true,if_false,ite_true,ite_false,bK8,h,decide_true,R5 (i:=7) (J5 (k:=3) (by decide) (by decide)) sk,e]
 ·have e : aM4 ns k = ns.getD (k % ns.length) 0 + 6553 * ((k / ns.length : Nat) : Int):=by unfold aM4; rw [if_neg h]
  have hl : (List.map PyData.int ns).length = ns.length:=List.length_map ..
  have hp : 0 < ns.length:=Nat.pos_of_ne_zero h
  have m1 : Q8 (.int k) (.int ns.length) = some (.int ((k % ns.length : Nat) : Int)):=by rw [ab3 (by omega)]; simp
  have m2 : V7 (.int k) (.int ns.length) = some (.int ((k / ns.length : Nat) : Int)):=by rw [ag2 (by omega) (aa7 (k:=6) (by omega) (by decide))]; simp
  have m3 : L2.atI (List.map PyData.int ns) ((k % ns.length : Nat) : Int) = some (.int (ns.getD (k % ns.length) 0)):=by
   refine L2.M3 ?_
   have hlt : k % ns.length < ns.length:=Nat.mod_lt _ hp
   rw [List.getElem?_map,List.getElem?_eq_getElem hlt]
   simp [List.getD,hlt]
  have sq : G7 ((k / ns.length : Nat) : Int):=aa7 (k:=60) (Nat.lt_of_le_of_lt (Nat.div_le_self _ _) hk) (by decide)
  simp only [aH5,B3,D0,B4,sIf,C0,R3,Y9,A6,dC,D2,D6,A9,A8,ay6,G0,dOr,af2,E2,dIx,ab4,D4,N9,Y1,Z4,D3,B0,qE,qN,k9,E7,D1,W2,A7,A5,B9,tB2,L7,C4,B7,G2,B8,C8,R9,t8,G1,C7,Q2,F6,Q9,E1,K4,aF7,K3,xg0,xg1,xw0,xw1,xbs,xms,xmc,xmn,xna,xca,n6,Z5,t7,O0,W1,an6,aj2,aE5,aE4,aE3,aj3,ar4,ar3,ar2,ar1,ar6,ar5,af5,ag5,ag4,xnt,xnf,xft,if_true,if_false,ite_true,ite_false,bK8,h,decide_false,hl,m1,m2,m3,R5 (i:=6553) (J5 (k:=13) (by decide) (by decide)) sq,e]
def at7 (ns : List Int) (k : Nat) (m : Int) : Int :=
 let c:=(aM4 ns k % 2147483563 * 69069 + 104723 * ((k : Int) + 1)) % 2147483563
 let c:=(c * c + c / 3) % 2147483399
 (c * c + c / 7) % 2147483647 / 11 % m
theorem aV5 {i : Int} (h0 : 0 ≤ i) (h : i < 4294967296) : G7 i:=J5 (k:=32) (by omega) (by decide)
theorem aC4 (ns : List Int) (k : Nat) (m : Int) (hn : ns.length ≤ 63) (hk : k < 2 ^ 60) (hm : 0 < m) : B5 [.list (ns.map PyData.int),.int k,.int m] = some (.int (at7 ns k m)):=by
 refine B2 (ρ:=[‹.list (ns.map PyData.int)›,‹.int k›,‹.int m›,none]) rfl ?_
 have c0 : ∀ x : Int,G7 (x % 2147483563):=fun x=>aV5 (by omega) (by omega)
 have c1 : ∀ x : Int,G7 (x % 2147483399):=fun x=>aV5 (by omega) (by omega)
 have sk : G7 ((k : Int) + 1):=J5 (k:=61) (by omega) (by decide)
 have s1 : G7 69069:=J5 (k:=17) (by decide) (by decide)
 have s2 : G7 104723:=J5 (k:=17) (by decide) (by decide)
 have s3 : G7 3:=J5 (k:=2) (by decide) (by decide)
 have s7 : G7 7:=J5 (k:=3) (by decide) (by decide)
 have s11 : G7 11:=J5 (k:=4) (by decide) (by decide)
 simp only [aN8,B3,D0,B4,sIf,C0,R3,Y9,A6,dC,D2,D6,A9,A8,ay6,G0,dOr,af2,E2,dIx,ab4,D4,N9,Y1,Z4,D3,B0,qE,qN,k9,E7,D1,W2,A7,A5,B9,tB2,L7,C4,B7,G2,B8,C8,R9,t8,G1,C7,Q2,F6,Q9,E1,K4,aF7,K3,xg0,xg1,xw0,xw1,xbs,xms,xmc,xmn,xna,xca,n6,Z5,t7,O0,W1,an6,aj2,aE5,aE4,aE3,aj3,ar4,ar3,ar2,ar1,ar6,ar5,af5,ag5,ag4,xnt,xnf,xft,if_true,if_false,ite_true,ite_false,cu0 ns k hn hk,ab3 (show (0 : Int) < 2147483563 by decide),ab3 (show (0 : Int) < 2147483399 by decide),ab3 (show (0 : Int) < 2147483647 by decide),ab3 hm,R5 (c0 _) s1,R5 s2 sk,R5 (c0 _) (c0 _),R5 (c1 _) (c1 _),ag2 (show (0 : Int) < 3 by decide) s3,ag2 (show (0 : Int) < 7 by decide) s7,ag2 (show (0 : Int) < 11 by decide) s11]
 rfl
theorem aB5 (ns : List Int) (k : Nat) (m : Int) (hm : 0 < m) : 0 ≤ at7 ns k m ∧ at7 ns k m < m:=by
 unfold at7
 exact ⟨Int.emod_nonneg _ (by omega),Int.emod_lt_of_pos _ hm⟩
structure IsSh (k : Nat) (r : Rat) : Prop where
 bd : Bd k r
 le : r ≤ 1
theorem aL2 {a b : Nat} (hb : 0 < b) (h : a ≤ b) : mkRat (a : Int) b ≤ 1:=by
 rw [Rat.le_iff,Rat.num_mkRat,Rat.den_mkRat,if_neg (by omega),if_neg (by omega)]
 have e0 : (1 : Rat).num = 1:=rfl
 have e1 : (1 : Rat).den = 1:=rfl
 rw [e0,e1]
 have : a / b.gcd a ≤ b / b.gcd a:=Nat.div_le_div_right h
 simp
 exact_mod_cast this
theorem am7 (ns : List Int) (at' : Nat) (hn : ns.length ≤ 63) (hk : at' < 2 ^ 40) : ∃ r,L0 [.list (ns.map PyData.int),.int at'] = some (fr r) ∧ IsSh 4 r:=by
 obtain ⟨u0,u1⟩:=aB5 ns at' 12 (by decide)
 obtain ⟨u,hu⟩ : ∃ u : Nat,(1 : Int) + at7 ns at' 12 = u ∧ 0 < u ∧ u ≤ 12:=⟨(1 + at7 ns at' 12).toNat,by omega,by omega,by omega⟩
 obtain ⟨t0,t1⟩:=aB5 ns (at' + 1) ((u : Int) + 1) (by omega)
 obtain ⟨t,ht⟩ : ∃ t : Nat,at7 ns (at' + 1) ((u : Int) + 1) = t ∧ t ≤ u:=⟨(at7 ns (at' + 1) ((u : Int) + 1)).toNat,by omega,by omega⟩
 obtain ⟨p0,p1⟩:=aB5 ns (at' + 2) 5 (by decide)
 have hs : IsSh 4 (mkRat (t : Int) u):=⟨Bd.of (by omega) (by omega) (by omega),aL2 (by omega) (by omega)⟩
 have e1:=aC4 ns at' 12 hn (by omega) (by decide)
 have e2:=aC4 ns (at' + 1) ((u : Int) + 1) hn (by omega) (by omega)
 have e3:=aC4 ns (at' + 2) 5 hn (by omega) (by decide)
 have e4:=aU5 t u 4 (by omega) (by omega) (by decide)
 have c1 : ((at' : Int) + 1) = ((at' + 1 : Nat) : Int):=by omega
 have c2 : ((at' : Int) + 2) = ((at' + 2 : Nat) : Int):=by omega
 rw [ht.1] at e2
 have pick : ∀ (j : Int),0 ≤ j → j < 5 → ∃ r,L2.atI [fr (mkRat (t : Int) u),fr (mkRat (t : Int) u),fr (mkRat (t : Int) u),.tuple [.int 0,.int 1],.tuple [.int 1,.int 1]] j = some (fr r) ∧ IsSh 4 r:=fun j h0 h5=>by
  have : j = 0 ∨ j = 1 ∨ j = 2 ∨ j = 3 ∨ j = 4:=by omega
  rcases this with rfl | rfl | rfl | rfl | rfl
  ·exact ⟨_,rfl,hs⟩
  ·exact ⟨_,rfl,hs⟩
  ·exact ⟨_,rfl,hs⟩
  ·exact ⟨0,rfl,Bd.zero.mono (by decide),by decide⟩
  ·exact ⟨1,rfl,Bd.one.mono (by decide),by decide⟩
 obtain ⟨r,hr1,hr2⟩:=pick _ p0 p1
 refine ⟨r,B2 (ρ:=[‹.list (ns.map PyData.int)›,‹.int at'›,none,none]) rfl ?_,hr2⟩
 simp only [aN5,B3,D0,B4,sIf,C0,R3,Y9,A6,dC,D2,D6,A9,A8,ay6,G0,dOr,af2,E2,dIx,ab4,D4,N9,Y1,Z4,D3,B0,qE,qN,k9,E7,D1,W2,A7,A5,B9,tB2,L7,C4,B7,G2,B8,C8,R9,t8,G1,C7,Q2,F6,Q9,E1,K4,aF7,K3,xg0,xg1,xw0,xw1,xbs,xms,xmc,xmn,xna,xca,n6,Z5,t7,O0,W1,an6,aj2,aE5,aE4,aE3,aj3,ar4,ar3,ar2,ar1,ar6,ar5,af5,ag5,ag4,xnt,xnf,xft,if_true,if_false,ite_true,ite_false,e1,hu.1,c1,c2,e2,e3,e4,hr1]
end Sh
namespace Sh
open PySem G L2
def sp (c x y z : Rat) : D:=.tuple [fr c,fr x,fr y,fr z]
structure Spot (k : Nat) (c x y z : Rat) : Prop where
 hc : IsSh k c
 hx : Bd k x
 hy : Bd k y
 hz : Bd k z
 xc : x ≤ c
 yc : y ≤ c
 zc : z ≤ c
theorem IsSh.mono {j k : Nat} {r : Rat} (h : IsSh j r) (l : j ≤ k) : IsSh k r:=⟨h.bd.mono l,h.le⟩
theorem Spot.mono {j k : Nat} {c x y z : Rat} (h : Spot j c x y z) (l : j ≤ k) : Spot k c x y z:=⟨h.hc.mono l,h.hx.mono l,h.hy.mono l,h.hz.mono l,h.xc,h.yc,h.zc⟩
theorem ai9 {c r : Rat} (hc : 0 ≤ c) (hr : r ≤ 1) : c * r ≤ c:=by
 have:=Rat.mul_le_mul_of_nonneg_right hr hc
 grind
theorem cG0 : ad6 0 3 = [.int 0,.int 1,.int 2]:=rfl
theorem ct9 (ns : List Int) (k : Nat) (hn : ns.length ≤ 63) (hk : k < 2 ^ 30) : ∃ c x y z,W0 [.list (ns.map PyData.int),.int k] = some (sp c x y z) ∧ Spot 8 c x y z:=by
 obtain ⟨c,ec,hc⟩:=am7 ns k hn (by omega)
 obtain ⟨a0,e0,h0⟩:=am7 ns (k + 3) hn (by omega)
 obtain ⟨a1,e1,h1⟩:=am7 ns (k + 6) hn (by omega)
 obtain ⟨a2,e2,h2⟩:=am7 ns (k + 9) hn (by omega)
 refine ⟨c,c * a0,c * a1,c * a2,?_,⟨hc.mono (by decide),hc.bd.mul h0.bd,hc.bd.mul h1.bd,hc.bd.mul h2.bd,ai9 hc.bd.nn h0.le,ai9 hc.bd.nn h1.le,ai9 hc.bd.nn h2.le⟩⟩
 refine B2 (ρ:=[‹.list (ns.map PyData.int)›,‹.int k›,none]) rfl ?_
 have i0 : (k : Int) + 3 + 3 * 0 = ((k + 3 : Nat) : Int):=by omega
 have i1 : (k : Int) + 3 + 3 * 1 = ((k + 6 : Nat) : Int):=by omega
 have i2 : (k : Int) + 3 + 3 * 2 = ((k + 9 : Nat) : Int):=by omega
 have s0 : G7 0:=J5 (k:=2) (by decide) (by decide)
 have s1 : G7 1:=J5 (k:=2) (by decide) (by decide)
 have s2 : G7 2:=J5 (k:=2) (by decide) (by decide)
 have s3 : G7 3:=J5 (k:=2) (by decide) (by decide)
 have m0:=R5 s3 s0
 have m1:=R5 s3 s1
 have m2:=R5 s3 s2
 have r3 : ((-(2 ^ 62) : Int) ≤ 3 ∧ (3 : Int) < 2 ^ 62):=by decide
 have l3 : ([PyData.int 0,.int 1,.int 2] : List D).length ≤ 16777216:=by decide
 have ct : ∀ a b c d : D,V2 (.tuple [a]) (.tuple [b,c,d]) = some (.tuple [a,b,c,d]):=fun a b c d=>rfl
 simp only [bd7,B3,D0,B4,sIf,C0,R3,Y9,A6,dC,D2,D6,A9,A8,ay6,G0,dOr,af2,E2,dIx,ab4,D4,N9,Y1,Z4,D3,B0,qE,qN,k9,E7,D1,W2,A7,A5,B9,tB2,L7,C4,B7,G2,B8,C8,R9,t8,G1,C7,Q2,F6,Q9,E1,K4,aF7,K3,xg0,xg1,xw0,xw1,xbs,xms,xmc,xmn,xna,xca,n6,Z5,t7,O0,W1,an6,aj2,aE5,aE4,aE3,aj3,ar4,ar3,ar2,ar1,ar6,ar5,af5,ag5,ag4,xnt,xnf,xft,if_true,if_false,ite_true,ite_false,ec,r3,and_self,cG0,l3,m0,m1,m2,i0,i1,i2,e0,e1,e2,ar7 hc.bd h0.bd (by decide),ar7 hc.bd h1.bd (by decide),ar7 hc.bd h2.bd (by decide),ct,sp]
theorem cm3 : neD (.list []) (.list []) = some (.bool false):=rfl
theorem bX3 : eqD (.list []) (.list []) = some (.bool true):=rfl
theorem at2 (i : Int) : C2 [.int i] = some (.bool true):=rfl
theorem aj1 (i : Int) : J8 [.int i] = some (.bool true):=rfl
theorem aL9 (r : Rat) : SeqAt.shaped (fr r) = true:=rfl
theorem cB7 (r s : Rat) : eqD (fr r) (fr s) = some (.bool (decide (r = s))):=by
 unfold eqD
 rw [if_pos ⟨aL9 r,aL9 s⟩]
 congr 2
 show ((r.num == s.num) && (((r.den : Int) == (s.den : Int)) && true)) = _
 rw [Bool.eq_iff_iff]
 simp only [Bool.and_true,Bool.and_eq_true,beq_iff_eq,decide_eq_true_eq]
 constructor
 ·intro h; exact Rat.ext h.1 (by exact_mod_cast h.2)
 ·intro h; subst h; exact ⟨rfl,rfl⟩
theorem aY3 {k : Nat} {r : Rat} (h : Bd k r) : mkRat ((r.num.natAbs : Nat) : Int) r.den = r:=by
 rw [← h.nat]; exact Rat.mkRat_self r
theorem aF0 {k : Nat} {r : Rat} (h : IsSh k r) : r.num ≤ r.den:=by
 have:=(Rat.le_iff r 1).mp h.le
 have e0 : (1 : Rat).num = 1:=rfl
 have e1 : (1 : Rat).den = 1:=rfl
 rw [e0,e1] at this
 omega
theorem aI4 (a b : D) : ((([a,b] : List D).length : Nat) : Int) = 2:=rfl
theorem bU0 (a b c d : D) : ((([a,b,c,d] : List D).length : Nat) : Int) = 4:=rfl
theorem bb2 : ((2 : Int) == 2) = true:=rfl
theorem bb4 : ((4 : Int) == 4) = true:=rfl
theorem n8 {k : Nat} {r : Rat} (h : IsSh k r) (hk : k ≤ 8000) : E4 [fr r] = some (.bool true):=by
 have n0:=Rat.num_nonneg.mpr h.bd.nn
 have nd:=aF0 h
 have d0 : (0 : Int) < r.den:=by have:=P6 r; omega
 have e:=aU5 r.num.natAbs r.den k (P6 r) h.bd.den hk
 rw [aY3 h.bd,← h.bd.nat] at e
 have e2:=cB7 r r
 refine B2 (ρ:=[‹fr r›]) rfl ?_
 have e' : p7 [PyData.int r.num,PyData.int r.den] = some (.tuple [.int r.num,.int r.den]):=e
 have e2' : eqD (.tuple [.int r.num,.int r.den]) (.tuple [.int r.num,.int r.den]) = some (.bool true):=by
  have:=e2
  simp only [decide_true] at this
  exact this
 simp only [Q0,fr,B3,D0,B4,sIf,C0,R3,Y9,A6,dC,D2,D6,A9,A8,ay6,G0,dOr,af2,E2,dIx,ab4,D4,N9,Y1,Z4,D3,B0,qE,qN,k9,E7,D1,W2,A7,A5,B9,tB2,L7,C4,B7,G2,B8,C8,R9,t8,G1,C7,Q2,F6,Q9,E1,K4,aF7,K3,xg0,xg1,xw0,xw1,xbs,xms,xmc,xmn,xna,xca,n6,Z5,t7,O0,W1,an6,aj2,aE5,aE4,aE3,aj3,ar4,ar3,ar2,ar1,ar6,ar5,af5,ag5,ag4,xnt,xnf,xft,if_true,if_false,ite_true,ite_false,aI4,bb2,at2,d0,decide_true,n0,nd,e',e2']
theorem af6 {k : Nat} {r : Rat} (h : IsSh k r) (hk : k ≤ 8000) : F8 [fr r] = some (.bool true):=by
 have n0:=Rat.num_nonneg.mpr h.bd.nn
 have nd:=aF0 h
 have d0 : (0 : Int) < r.den:=by have:=P6 r; omega
 have e:=bN9 r.num.natAbs r.den
 rw [← h.bd.nat,show Nat.gcd r.num.natAbs r.den = 1 from r.reduced] at e
 have e' : M0 [PyData.int r.num,PyData.int r.den] = some (.int 1):=e
 have b1 : ((1 : Int) == 1) = true:=rfl
 refine B2 (ρ:=[‹fr r›,none,none]) rfl ?_
 simp only [U7,fr,B3,D0,B4,sIf,C0,R3,Y9,A6,dC,D2,D6,A9,A8,ay6,G0,dOr,af2,E2,dIx,ab4,D4,N9,Y1,Z4,D3,B0,qE,qN,k9,E7,D1,W2,A7,A5,B9,tB2,L7,C4,B7,G2,B8,C8,R9,t8,G1,C7,Q2,F6,Q9,E1,K4,aF7,K3,xg0,xg1,xw0,xw1,xbs,xms,xmc,xmn,xna,xca,n6,Z5,t7,O0,W1,an6,aj2,aE5,aE4,aE3,aj3,ar4,ar3,ar2,ar1,ar6,ar5,af5,ag5,ag4,xnt,xnf,xft,if_true,if_false,ite_true,ite_false,aI4,bb2,aj1,d0,decide_true,n0,nd,e',b1]
theorem bo6 {j k : Nat} {r s : Rat} (hr : Bd j r) (hs : Bd k s) (hj : j ≤ 8000) (hk : k ≤ 8000) (l : r ≤ s) : (decide (s.num * (r.den : Int) < r.num * (s.den : Int))) = false:=by
 have:=(Rat.le_iff r s).mp l
 exact decide_eq_false (by omega)
theorem cD4 : bd3 [.bool true,.bool true,.bool true,.bool true] = some true:=rfl
end Sh
local macro_rules
  | `(tactic| wp_walk using evA)=>`(tactic| simp only [G.B3,G.D0,G.B4,G.sIf,G.C0,G.R3,G.Y9,G.A6,G.dC,G.D2,G.D6,G.A9,G.A8,G.ay6,G.G0,G.dOr,G.af2,G.E2,G.dIx,G.ab4,G.D4,G.N9,G.Y1,G.Z4,G.D3,G.B0,G.qE,G.qN,G.k9,G.E7,G.D1,G.W2,G.A7,G.A5,G.B9,G.tB2,G.L7,G.C4,G.B7,G.G2,G.B8,G.C8,G.R9,G.t8,G.G1,G.C7,G.Q2,G.F6,G.Q9,G.E1,G.K4,G.aF7,G.K3,G.xg0,G.xg1,G.xw0,G.xw1,G.xbs,G.xms,G.xmc,G.xmn,G.xna,G.xca,Sh.n6,Sh.Z5,Sh.t7,Sh.O0,Sh.W1,Sh.an6,Sh.aj2,Sh.aE5,Sh.aE4,Sh.aE3,Sh.aj3,Sh.ar4,Sh.ar3,Sh.ar2,Sh.ar1,Sh.ar6,Sh.ar5,Sh.af5,Sh.ag5,Sh.ag4,G.xnt,G.xnf,G.xft,if_true,if_false,ite_true,ite_false])
  | `(tactic| wp_walk using evA,$ts,*)=>`(tactic| simp only [G.B3,G.D0,G.B4,G.sIf,G.C0,G.R3,G.Y9,G.A6,G.dC,G.D2,G.D6,G.A9,G.A8,G.ay6,G.G0,G.dOr,G.af2,G.E2,G.dIx,G.ab4,G.D4,G.N9,G.Y1,G.Z4,G.D3,G.B0,G.qE,G.qN,G.k9,G.E7,G.D1,G.W2,G.A7,G.A5,G.B9,G.tB2,G.L7,G.C4,G.B7,G.G2,G.B8,G.C8,G.R9,G.t8,G.G1,G.C7,G.Q2,G.F6,G.Q9,G.E1,G.K4,G.aF7,G.K3,G.xg0,G.xg1,G.xw0,G.xw1,G.xbs,G.xms,G.xmc,G.xmn,G.xna,G.xca,Sh.n6,Sh.Z5,Sh.t7,Sh.O0,Sh.W1,Sh.an6,Sh.aj2,Sh.aE5,Sh.aE4,Sh.aE3,Sh.aj3,Sh.ar4,Sh.ar3,Sh.ar2,Sh.ar1,Sh.ar6,Sh.ar5,Sh.af5,Sh.ag5,Sh.ag4,G.xnt,G.xnf,G.xft,if_true,if_false,ite_true,ite_false,$[$ts:term],*])
local macro_rules
  | `(tactic| wp_walk using evB)=>`(tactic| simp only [G.B3,G.D0,G.B4,G.sIf,G.C0,G.R3,G.Y9,G.A6,G.dC,G.D2,G.D6,G.A9,G.A8,G.G0,G.dOr,G.af2,G.E2,G.dIx,G.D4,G.N9,G.Y1,G.Z4,G.D3,G.B0,G.qE,G.qN,G.k9,G.E7,G.D1,G.W2,G.A7,G.A5,G.B9,G.tB2,G.L7,G.C4,G.B7,G.G2,G.B8,G.G1,G.C7,G.Q2,G.F6,G.Q9,G.E1,G.K3,G.xg0,G.xg1,G.xw0,G.xw1,G.xbs,G.xms,G.xmc,G.xmn,G.xna,G.xca,Sh.n6,Sh.Z5,Sh.t7,Sh.O0,Sh.W1,Sh.an6,Sh.aj2,Sh.ar4,Sh.ar3,Sh.ar2,Sh.ar1,Sh.ar6,Sh.ar5,Sh.af5,Sh.ag5,Sh.ag4,G.xnt,G.xnf,G.xft,if_true,if_false])
  | `(tactic| wp_walk using evB,$ts,*)=>`(tactic| simp only [G.B3,G.D0,G.B4,G.sIf,G.C0,G.R3,G.Y9,G.A6,G.dC,G.D2,G.D6,G.A9,G.A8,G.G0,G.dOr,G.af2,G.E2,G.dIx,G.D4,G.N9,G.Y1,G.Z4,G.D3,G.B0,G.qE,G.qN,G.k9,G.E7,G.D1,G.W2,G.A7,G.A5,G.B9,G.tB2,G.L7,G.C4,G.B7,G.G2,G.B8,G.G1,G.C7,G.Q2,G.F6,G.Q9,G.E1,G.K3,G.xg0,G.xg1,G.xw0,G.xw1,G.xbs,G.xms,G.xmc,G.xmn,G.xna,G.xca,Sh.n6,Sh.Z5,Sh.t7,Sh.O0,Sh.W1,Sh.an6,Sh.aj2,Sh.ar4,Sh.ar3,Sh.ar2,Sh.ar1,Sh.ar6,Sh.ar5,Sh.af5,Sh.ag5,Sh.ag4,G.xnt,G.xnf,G.xft,if_true,if_false,$[$ts:term],*])
local macro_rules
  | `(tactic| wp_walk using evC)=>`(tactic| simp only [G.B3,G.D0,G.B4,G.sIf,G.C0,G.R3,G.Y9,G.A6,G.dC,G.D2,G.D6,G.A9,G.A8,G.ay6,G.G0,G.dOr,G.af2,G.E2,G.dIx,G.ab4,G.D4,G.N9,G.Y1,G.Z4,G.D3,G.B0,G.qE,G.qN,G.k9,G.E7,G.D1,G.W2,G.A7,G.A5,G.B9,G.tB2,G.L7,G.C4,G.B7,G.G2,G.B8,G.C8,G.R9,G.t8,G.G1,G.C7,G.Q2,G.F6,G.Q9,G.E1,G.K4,G.aF7,G.K3,G.xg0,G.xg1,G.xw0,G.xw1,G.xbs,G.xms,G.xmc,G.xmn,G.xna,G.xca,Sh.n6,Sh.Z5,Sh.t7,Sh.O0,Sh.W1,Sh.an6,Sh.aj2,Sh.aE5,Sh.aE4,Sh.aE3,Sh.aj3,Sh.ar4,Sh.ar3,Sh.ar2,Sh.ar1,Sh.ar6,Sh.ar5,Sh.af5,Sh.ag5,Sh.ag4,G.xnt,G.xnf,G.xft,if_true,if_false,ite_true,ite_false,G.aj4,G.r8])
  | `(tactic| wp_walk using evC,$ts,*)=>`(tactic| simp only [G.B3,G.D0,G.B4,G.sIf,G.C0,G.R3,G.Y9,G.A6,G.dC,G.D2,G.D6,G.A9,G.A8,G.ay6,G.G0,G.dOr,G.af2,G.E2,G.dIx,G.ab4,G.D4,G.N9,G.Y1,G.Z4,G.D3,G.B0,G.qE,G.qN,G.k9,G.E7,G.D1,G.W2,G.A7,G.A5,G.B9,G.tB2,G.L7,G.C4,G.B7,G.G2,G.B8,G.C8,G.R9,G.t8,G.G1,G.C7,G.Q2,G.F6,G.Q9,G.E1,G.K4,G.aF7,G.K3,G.xg0,G.xg1,G.xw0,G.xw1,G.xbs,G.xms,G.xmc,G.xmn,G.xna,G.xca,Sh.n6,Sh.Z5,Sh.t7,Sh.O0,Sh.W1,Sh.an6,Sh.aj2,Sh.aE5,Sh.aE4,Sh.aE3,Sh.aj3,Sh.ar4,Sh.ar3,Sh.ar2,Sh.ar1,Sh.ar6,Sh.ar5,Sh.af5,Sh.ag5,Sh.ag4,G.xnt,G.xnf,G.xft,if_true,if_false,ite_true,ite_false,G.aj4,G.r8,$[$ts:term],*])
local macro_rules
  | `(tactic| wp_walk using evD)=>`(tactic| simp only [G.B3,G.D0,G.B4,G.sIf,G.C0,G.R3,G.Y9,G.A6,G.dC,G.D2,G.D6,G.A9,G.A8,G.G0,G.dOr,G.af2,G.E2,G.dIx,G.D4,G.N9,G.Y1,G.Z4,G.D3,G.B0,G.qE,G.qN,G.k9,G.E7,G.D1,G.W2,G.A7,G.A5,G.B9,G.tB2,G.L7,G.C4,G.B7,G.G2,G.B8,G.G1,G.C7,G.Q2,G.F6,G.Q9,G.E1,G.K3,G.xg0,G.xg1,G.xw0,G.xw1,G.xbs,G.xms,G.xmc,G.xmn,G.xna,G.xca,Sh.n6,Sh.Z5,Sh.t7,Sh.O0,Sh.W1,Sh.an6,Sh.aj2,Sh.ar4,Sh.ar3,Sh.ar2,Sh.ar1,Sh.ar6,Sh.ar5,Sh.af5,Sh.ag5,Sh.ag4,G.xnt,G.xnf,G.xft,if_true,if_false,G.aj4,G.r8])
  | `(tactic| wp_walk using evD,$ts,*)=>`(tactic| simp only [G.B3,G.D0,G.B4,G.sIf,G.C0,G.R3,G.Y9,G.A6,G.dC,G.D2,G.D6,G.A9,G.A8,G.G0,G.dOr,G.af2,G.E2,G.dIx,G.D4,G.N9,G.Y1,G.Z4,G.D3,G.B0,G.qE,G.qN,G.k9,G.E7,G.D1,G.W2,G.A7,G.A5,G.B9,G.tB2,G.L7,G.C4,G.B7,G.G2,G.B8,G.G1,G.C7,G.Q2,G.F6,G.Q9,G.E1,G.K3,G.xg0,G.xg1,G.xw0,G.xw1,G.xbs,G.xms,G.xmc,G.xmn,G.xna,G.xca,Sh.n6,Sh.Z5,Sh.t7,Sh.O0,Sh.W1,Sh.an6,Sh.aj2,Sh.ar4,Sh.ar3,Sh.ar2,Sh.ar1,Sh.ar6,Sh.ar5,Sh.af5,Sh.ag5,Sh.ag4,G.xnt,G.xnf,G.xft,if_true,if_false,G.aj4,G.r8,$[$ts:term],*])
namespace Sh
open PySem G L2
theorem E6 {x y : Str} {b : Bool} (hx : PyData.canLay0 (.str x) = true) (hy : PyData.canLay0 (.str y) = true) (e : (x == y) = b) : eqD (.str x) (.str y) = some (.bool b):=by
 unfold eqD
 have s : ∀ z : Str,PyData.canLay0 (.str z) = true → SeqAt.shaped (.str z) = true:=fun z h=>by unfold SeqAt.shaped; rw [h]; rfl
 rw [if_pos ⟨s x hx,s y hy⟩]
 show some (PyData.bool (x == y)) = _
 rw [e]
inductive Man where
 | over | mult | screen | plus | atop | cut
def Man.s : Man → Str
 | .over => "over"
 | .mult => "multiply"
 | .screen => "screen"
 | .plus => "plus"
 | .atop => "atop"
 | .cut => "cut"
end Sh
namespace Sh
open PySem G L2
inductive Rul where
 | turn | grey | round
def Rul.s : Rul → Str
 | .turn => "turn"
 | .grey => "grey"
 | .round => "round"
end Sh
namespace Sh
open PySem G L2
def Gd : Nat → D → Prop
 | _,.none=>True
 | _,.bool _=>True
 | _,.int i=>i.natAbs < 2 ^ 40
 | _,.str x=>PyData.strOk x = true
 | n + 1,.tuple xs=>xs.length ≤ 64 ∧ ∀ x ∈ xs,Gd n x
 | n + 1,.list xs=>xs.length ≤ 64 ∧ ∀ x ∈ xs,Gd n x
 | _,_=>False
theorem aT6 {n : Nat} (h : ∀ d,Gd n d → PyData.canLay0 d = true ∧ PyData.depth d ≤ n) : ∀ xs : List D,(∀ x ∈ xs,Gd n x) → PyData.canLayAll0 xs = true ∧ PyData.depthAll xs ≤ n
 | [],_=>⟨rfl,Nat.zero_le _⟩
 | x :: xs,g=>by
  have a:=h x (g x (List.mem_cons_self ..))
  have b:=aT6 h xs fun y hy=>g y (List.mem_cons_of_mem _ hy)
  refine ⟨?_,?_⟩
  ·show (PyData.canLay0 x && PyData.canLayAll0 xs) = true
   rw [a.1,b.1]; rfl
  ·show max (PyData.depth x) (PyData.depthAll xs) ≤ n
   omega
theorem Gd.lay : ∀ (n : Nat) (d : D),Gd n d → PyData.canLay0 d = true ∧ PyData.depth d ≤ n:=by
 intro n
 induction n with
 | zero=>intro d g; cases d <;> first | exact ⟨rfl,Nat.zero_le _⟩ | exact ⟨g,Nat.zero_le _⟩ | exact g.elim
 | succ n ih =>
  intro d g
  cases d with
  | tuple xs=>have:=aT6 ih xs g.2; exact ⟨this.1,Nat.succ_le_succ this.2⟩
  | list xs=>have:=aT6 ih xs g.2; exact ⟨this.1,Nat.succ_le_succ this.2⟩
  | none=>exact ⟨rfl,Nat.zero_le _⟩
  | bool b=>exact ⟨rfl,Nat.zero_le _⟩
  | int i=>exact ⟨rfl,Nat.zero_le _⟩
  | str x=>exact ⟨g,Nat.zero_le _⟩
  | dict _=>exact g.elim
theorem Gd.shaped {n : Nat} {d : D} (g : Gd n d) (hn : n ≤ 64) : SeqAt.shaped d = true:=by
 have:=Gd.lay n d g
 unfold SeqAt.shaped
 rw [this.1,Bool.true_and]
 exact decide_eq_true (by omega)
theorem aB3 {n : Nat} {x : D} {xs : List D} (g : ∀ y ∈ x :: xs,Gd n y) (hl : (x :: xs).length ≤ 64) (hn : n ≤ 60) : neD (.list (x :: xs)) (.list []) = some (.bool true):=by
 have : Gd (n + 1) (.list (x :: xs)):=⟨hl,g⟩
 unfold neD
 rw [if_pos ⟨this.shaped (by omega),rfl⟩]; rfl
theorem bO5 {a b c : D} {r : List D} : ((((a :: b :: c :: r).length : Nat) : Int) == 2) = false:=by
 rw [beq_eq_false_iff_ne]
 simp only [List.length_cons]; omega
theorem br1 (a b : Int) (ha : a.natAbs < 2 ^ 40) (hb : b.natAbs < 2 ^ 40) : ∃ c,F8 [.tuple [.int a,.int b]] = some (.bool c) ∧ E4 [.tuple [.int a,.int b]] = some (.bool c) ∧ (c = true → ∃ r,.tuple [.int a,.int b] = fr r ∧ IsSh 40 r):=by
 have b2 : ((2 : Int) == 2) = true:=rfl
 by_cases h1 : 0 < b
 ·by_cases h2 : 0 ≤ a
  ·by_cases h3 : a ≤ b
   ·obtain ⟨p,rfl⟩:=Int.eq_ofNat_of_zero_le h2
    obtain ⟨q,rfl⟩:=Int.eq_ofNat_of_zero_le (Int.le_of_lt h1)
    have e1:=bN9 p q
    have q0 : 0 < q:=by omega
    have e2:=aU5 p q 40 q0 (by omega) (by decide)
    rw [at0 p q q0] at e2
    have g0 : 0 < Nat.gcd p q:=Nat.gcd_pos_of_pos_right _ q0
    have eqq : eqD (.tuple [.int ((p / Nat.gcd p q : Nat) : Int),.int ((q / Nat.gcd p q : Nat) : Int)]) (.tuple [.int p,.int q]) = some (.bool (decide (Nat.gcd p q = 1))):=by
     unfold eqD
     rw [if_pos ⟨rfl,rfl⟩]
     congr 2
     show (((((p / Nat.gcd p q : Nat) : Int)) == (p : Int)) && ((((q / Nat.gcd p q : Nat) : Int) == (q : Int)) && true)) = _
     rw [Bool.eq_iff_iff]
     simp only [Bool.and_true,Bool.and_eq_true,beq_iff_eq,decide_eq_true_eq]
     constructor
     ·intro h
      have h4 : q / Nat.gcd p q = q:=by exact_mod_cast h.2
      rcases Nat.lt_or_ge 1 (Nat.gcd p q) with h5 | h5
      ·have:=Nat.div_lt_self q0 h5; omega
      ·omega
     ·intro h; rw [h,Nat.div_one,Nat.div_one]; exact ⟨rfl,rfl⟩
    have c1 : (((Nat.gcd p q : Nat) : Int) == 1) = decide (Nat.gcd p q = 1):=by
     rw [Bool.eq_iff_iff]; simp only [beq_iff_eq,decide_eq_true_eq]; omega
    refine ⟨decide (Nat.gcd p q = 1),?_,?_,fun h=>?_⟩
    ·refine B2 (ρ:=[‹.tuple [.int p,.int q]›,none,none]) rfl ?_
     wp_walk using evA,U7,aI4,b2,aj1,h1,h2,h3,decide_true,e1,c1
    ·refine B2 (ρ:=[‹.tuple [.int p,.int q]›]) rfl ?_
     wp_walk using evA,Q0,aI4,b2,at2,h1,h2,h3,decide_true,e2,eqq
    ·have g1:=of_decide_eq_true h
     refine ⟨mkRat p q,?_,⟨Bd.of q0 (by omega) (by omega),aL2 q0 (by omega)⟩⟩
     rw [at0 p q q0,g1,Nat.div_one,Nat.div_one]
   ·refine ⟨false,?_,?_,fun h=>by cases h⟩
    ·refine B2 (ρ:=[‹.tuple [.int a,.int b]›,none,none]) rfl ?_
     wp_walk using evA,U7,aI4,b2,aj1,h1,h2,h3,decide_true,decide_false
    ·refine B2 (ρ:=[‹.tuple [.int a,.int b]›]) rfl ?_
     wp_walk using evA,Q0,aI4,b2,at2,h1,h2,h3,decide_true,decide_false
  ·refine ⟨false,?_,?_,fun h=>by cases h⟩
   ·refine B2 (ρ:=[‹.tuple [.int a,.int b]›,none,none]) rfl ?_
    wp_walk using evA,U7,aI4,b2,aj1,h1,h2,decide_true,decide_false
   ·refine B2 (ρ:=[‹.tuple [.int a,.int b]›]) rfl ?_
    wp_walk using evA,Q0,aI4,b2,at2,h1,h2,decide_true,decide_false
 ·refine ⟨false,?_,?_,fun h=>by cases h⟩
  ·refine B2 (ρ:=[‹.tuple [.int a,.int b]›,none,none]) rfl ?_
   wp_walk using evA,U7,aI4,b2,aj1,h1,decide_true,decide_false
  ·refine B2 (ρ:=[‹.tuple [.int a,.int b]›]) rfl ?_
   wp_walk using evA,Q0,aI4,b2,at2,h1,decide_true,decide_false
theorem aD1 (a b c : D) (r : List D) : F8 [.tuple (a :: b :: c :: r)] = some (.bool false) ∧ E4 [.tuple (a :: b :: c :: r)] = some (.bool false):=by
 have h:=@bO5 a b c r
 constructor
 ·refine B2 (ρ:=[‹.tuple (a :: b :: c :: r)›,none,none]) rfl ?_
  wp_walk using evA,U7,h
 ·refine B2 (ρ:=[‹.tuple (a :: b :: c :: r)›]) rfl ?_
  wp_walk using evA,Q0,h
theorem W4 {n : Nat} {d : D} (g : Gd n d) : ∃ c,F8 [d] = some (.bool c) ∧ E4 [d] = some (.bool c) ∧ (c = true → ∃ r,d = fr r ∧ IsSh 40 r):=by
 have no : ∀ {d : D},F8 [d] = some (.bool false) → E4 [d] = some (.bool false) → ∃ c,F8 [d] = some (.bool c) ∧ E4 [d] = some (.bool c) ∧ (c = true → ∃ r,d = fr r ∧ IsSh 40 r):=fun h1 h2=>⟨false,h1,h2,fun h=>by cases h⟩
 cases d with
 | none=>exact no rfl rfl
 | bool b=>exact no rfl rfl
 | int i=>exact no rfl rfl
 | str x=>exact no rfl rfl
 | list xs=>exact no rfl rfl
 | dict _=>cases n <;> exact g.elim
 | tuple xs =>
  cases n with
  | zero=>exact g.elim
  | succ n =>
   match xs,g with
   | [],_=>exact no rfl rfl
   | [a],_=>exact no rfl rfl
   | a :: b :: c :: r,_=>exact no (aD1 a b c r).1 (aD1 a b c r).2
   | [a,b],g =>
    have ga:=g.2 a (by simp)
    have gb:=g.2 b (by simp)
    cases a <;> cases b <;> first
     | exact br1 _ _ (by cases n <;> exact ga) (by cases n <;> exact gb)
     | exact no rfl rfl
     | (exfalso; cases n <;> exact ga.elim)
     | (exfalso; cases n <;> exact gb.elim)
--main
theorem f8 {n : Nat} {x : D} {xs : List D} (g : ∀ y ∈ x :: xs,Gd n y) (hl : (x :: xs).length ≤ 64) (hn : n ≤ 60) : eqD (.list (x :: xs)) (.list []) = some (.bool false):=by
 have : Gd (n + 1) (.list (x :: xs)):=⟨hl,g⟩
 unfold eqD
 rw [if_pos ⟨this.shaped (by omega),rfl⟩]; rfl
theorem bK0 {k : Nat} {r : Rat} (h : Bd k r) (hk : k ≤ 40) (n : Nat) : Gd (n + 1) (fr r):=by
 have h:=h.mono hk
 refine ⟨by show 2 ≤ 64; decide,?_⟩
 intro x hx
 simp only [List.mem_cons,List.not_mem_nil,or_false] at hx
 rcases hx with rfl | rfl
 ·cases n <;> exact h.num
 ·have : ((r.den : Int)).natAbs < 2 ^ 40:=by rw [Int.natAbs_natCast]; exact h.den
  cases n <;> exact this
theorem bh7 {r s : Rat} (l : ¬ r ≤ s) : (decide (s.num * (r.den : Int) < r.num * (s.den : Int))) = true:=by
 have:=mt (Rat.le_iff r s).mpr l
 exact decide_eq_true (by omega)
theorem ct5 (a b c : Bool) : bd3 [.bool a,.bool b,.bool c] = some (a && (b && (c && true))):=rfl
theorem ct4 (a b c d : Bool) : bd3 [.bool a,.bool b,.bool c,.bool d] = some (a && (b && (c && (d && true)))):=rfl
theorem bO8 {c x y z : Rat} (hc : IsSh 40 c) (hx : IsSh 40 x) (hy : IsSh 40 y) (hz : IsSh 40 z) : ∃ t,L1 [sp c x y z] = some (.bool t) ∧ K6 [sp c x y z] = some (.bool t):=by
 have hk : 40 ≤ 8000:=by decide
 have f4 : ∀ a b c d : D,([a,b,c,d] : List D).length ≤ 16777216:=fun a b c d=>by show 4 ≤ 16777216; decide
 have f3 : ∀ a b c : D,([a,b,c] : List D).length ≤ 16777216:=fun a b c=>by show 3 ≤ 16777216; decide
 refine ⟨decide (x ≤ c) && (decide (y ≤ c) && (decide (z ≤ c) && true)),?_,?_⟩
 ·refine B2 (ρ:=[‹sp c x y z›]) rfl ?_
  wp_walk using evA,am5,sp,bU0,bb4,f4,f3,af6 hc hk,af6 hx hk,af6 hy hk,af6 hz hk,cD4,aj8 hx.bd hc.bd (by decide),aj8 hy.bd hc.bd (by decide),aj8 hz.bd hc.bd (by decide),ct5
 ·refine B2 (ρ:=[‹sp c x y z›]) rfl ?_
  have q : ∀ {r : Rat},(fr r) = .tuple [.int r.num,.int r.den]:=rfl
  have gx:=bK0 hx.bd (by decide) 1
  have gy:=bK0 hy.bd (by decide) 1
  have gz:=bK0 hz.bd (by decide) 1
  have e1:=f8 (n:=2) (x:=fr x) (xs:=[]) (by simp [gx]) (by simp) (by decide)
  have e2:=f8 (n:=2) (x:=fr y) (xs:=[]) (by simp [gy]) (by simp) (by decide)
  have e3:=f8 (n:=2) (x:=fr z) (xs:=[]) (by simp [gz]) (by simp) (by decide)
  have e4:=f8 (n:=2) (x:=fr x) (xs:=[fr y]) (by simp [gx,gy]) (by simp) (by decide)
  have e5:=f8 (n:=2) (x:=fr x) (xs:=[fr z]) (by simp [gx,gz]) (by simp) (by decide)
  have e6:=f8 (n:=2) (x:=fr y) (xs:=[fr z]) (by simp [gy,gz]) (by simp) (by decide)
  have e7:=f8 (n:=2) (x:=fr x) (xs:=[fr y,fr z]) (by simp [gx,gy,gz]) (by simp) (by decide)
  have S:=n8 hc hk
  wp_walk using evA,x9,sp,bU0,bb4,f4,n8 hc hk,n8 hx hk,n8 hy hk,n8 hz hk,cm3
  simp only [q] at e1 e2 e3 e4 e5 e6 e7
  by_cases h1 : x ≤ c <;> by_cases h2 : y ≤ c <;> by_cases h3 : z ≤ c <;>
  wp_walk using evA,q,R5 (hc.bd.sn hk) (hc.bd.sd hk),R5 (hx.bd.sn hk) (hc.bd.sd hk),R5 (hy.bd.sn hk) (hc.bd.sd hk),R5 (hz.bd.sn hk) (hc.bd.sd hk),R5 (hc.bd.sn hk) (hx.bd.sd hk),R5 (hc.bd.sn hk) (hy.bd.sd hk),R5 (hc.bd.sn hk) (hz.bd.sd hk),h1,h2,h3,decide_true,decide_false,Bool.and_true,Bool.and_false,Bool.true_and,Bool.false_and,
   bo6 hc.bd hc.bd hk hk (Rat.le_refl),(bo6 hx.bd hc.bd hk hk : x ≤ c → _),(bo6 hy.bd hc.bd hk hk : y ≤ c → _),(bo6 hz.bd hc.bd hk hk : z ≤ c → _),(bh7 : ¬ x ≤ c → _),(bh7 : ¬ y ≤ c → _),(bh7 : ¬ z ≤ c → _),not_false_eq_true,bX3,e1,e2,e3,e4,e5,e6,e7
theorem cw9 {n : Nat} {a b c e : D} (hn : n ≤ 60) (ga : Gd n a) (gb : Gd n b) (gc : Gd n c) (ge : Gd n e) : ∃ t,L1 [.tuple [a,b,c,e]] = some (.bool t) ∧ K6 [.tuple [a,b,c,e]] = some (.bool t):=by
  obtain ⟨c1,p1,l1,r1⟩:=W4 ga
  obtain ⟨c2,p2,l2,r2⟩:=W4 gb
  obtain ⟨c3,p3,l3,r3⟩:=W4 gc
  obtain ⟨c4,p4,l4,r4⟩:=W4 ge
  have f4 : ∀ a b c d : D,([a,b,c,d] : List D).length ≤ 16777216:=fun a b c d=>by show 4 ≤ 16777216; decide
  by_cases H : (c1 && (c2 && (c3 && (c4 && true)))) = true
  · simp only [Bool.and_eq_true,Bool.and_true] at H
    obtain ⟨h1,h2,h3,h4⟩:=H
    obtain ⟨ra,rfl,ia⟩:=r1 h1
    obtain ⟨rb,rfl,ib⟩:=r2 h2
    obtain ⟨rc,rfl,ic⟩:=r3 h3
    obtain ⟨re,rfl,ie⟩:=r4 h4
    exact bO8 ia ib ic ie
  · have H : (c1 && (c2 && (c3 && (c4 && true)))) = false:=by simpa using H
    refine ⟨false,?_,?_⟩
    · refine B2 (ρ:=[‹.tuple [a,b,c,e]›]) rfl ?_
      wp_walk using evA,am5,bU0,bb4,f4,p1,p2,p3,p4,ct4,H
    · refine B2 (ρ:=[‹.tuple [a,b,c,e]›]) rfl ?_
      clear p1 p2 p3 p4 r1 r2 r3 r4
      cases c1 <;> cases c2 <;> cases c3 <;> cases c4 <;> first
        | (exfalso; exact absurd H (by decide))
        | (wp_walk using evA,x9,bU0,bb4,f4,l1,l2,l3,l4
           rw [aB3 (n:=n) (by simp [ga,gb,gc,ge]) (by simp) hn]
           rfl)
theorem bT9 {a b c d e : D} {r : List D} : ((((a :: b :: c :: d :: e :: r).length : Nat) : Int) == 4) = false:=by
 rw [beq_eq_false_iff_ne]
 simp only [List.length_cons]; omega
theorem aK5 (a b c d e : D) (r : List D) : L1 [.tuple (a :: b :: c :: d :: e :: r)] = some (.bool false) ∧ K6 [.tuple (a :: b :: c :: d :: e :: r)] = some (.bool false):=by
 have h:=@bT9 a b c d e r
 constructor
 ·refine B2 (ρ:=[‹.tuple (a :: b :: c :: d :: e :: r)›]) rfl ?_
  wp_walk using evA,am5,h
 ·refine B2 (ρ:=[‹.tuple (a :: b :: c :: d :: e :: r)›]) rfl ?_
  wp_walk using evA,x9,h
theorem aV1 {n : Nat} {d : D} (g : Gd n d) (hn : n ≤ 60) : ∃ t,L1 [d] = some (.bool t) ∧ K6 [d] = some (.bool t):=by
 cases d with
 | none=>exact ⟨false,rfl,rfl⟩
 | bool b=>exact ⟨false,rfl,rfl⟩
 | int i=>exact ⟨false,rfl,rfl⟩
 | str x=>exact ⟨false,rfl,rfl⟩
 | list xs=>exact ⟨false,rfl,rfl⟩
 | dict _=>cases n <;> exact g.elim
 | tuple xs =>
  cases n with
  | zero=>exact g.elim
  | succ n =>
   match xs,g with
   | [],_=>exact ⟨false,rfl,rfl⟩
   | [a],_=>exact ⟨false,rfl,rfl⟩
   | [a,b],_=>exact ⟨false,rfl,rfl⟩
   | [a,b,c],_=>exact ⟨false,rfl,rfl⟩
   | a :: b :: c :: d :: e :: r,_=>exact ⟨false,(aK5 a b c d e r).1,(aK5 a b c d e r).2⟩
   | [a,b,c,e],g=>exact cw9 (by omega) (g.2 a (by simp)) (g.2 b (by simp)) (g.2 c (by simp)) (g.2 e (by simp))
--main
theorem aG9 (l : List D) (n m : Int) (hm : m = (l.length : Nat)) (h0 : 0 < l.length) : ∃ d ∈ l,atI l (n % m) = some d:=by
 subst hm
 have a:=Int.emod_nonneg n (show ((l.length : Nat) : Int) ≠ 0 by omega)
 have b:=Int.emod_lt_of_pos n (show 0 < ((l.length : Nat) : Int) by omega)
 obtain ⟨j,e⟩:=Int.eq_ofNat_of_zero_le a
 rw [e] at b ⊢
 have hj : j < l.length:=by omega
 exact ⟨l[j],List.getElem_mem hj,M3 (List.getElem?_eq_getElem hj)⟩
def bs3 : List D:=[.int (-1),.int 0,.int 1,.int 2,.int 10,.bool true,.bool false,.none,.str "", .str "a", .str "over", .str "Ab", .tuple [],.list [],.tuple [.int 0,.int 1],.tuple [.int 1,.int 1],.tuple [.int 1,.int 2],.tuple [.int 2,.int 2],.tuple [.int 2,.int 1],
 .tuple [.str "a"],.list [.int 0,.int 1],.str "abcdefg", .tuple [.int (-1),.int 1],.tuple [.int 1,.int 0],.tuple [.tuple [.int 0,.int 1],.tuple [.int 0,.int 1],.tuple [.int 0,.int 1],.tuple [.int 0,.int 1]],.tuple [.str "tone", .str "zz", .str "grey", .tuple [.int 1,.int 1],.bool true]]
theorem bS3 (n : Int) : bp9 [‹.int n›,none] = (atI bs3 (n % 26)).map Fl.rt:=rfl
theorem sml (i : Int) (h : i.natAbs < 2 ^ 40) : G7 i:=J5 (k:=40) h (by decide)
theorem af3 {xs : List D} {l h : Option Int} {x : D} (hx : x ∈ L6 xs l h) : x ∈ xs:=List.mem_of_mem_drop (List.mem_of_mem_take hx)
theorem af4 (xs : List D) (l h : Option Int) : (L6 xs l h).length ≤ xs.length:=by
 unfold L6
 rw [List.length_take,List.length_drop]
 omega
theorem cat_tup {xs ys : List D} (h : xs.length + ys.length ≤ 16777216) : V2 (.tuple xs) (.tuple ys) = some (.tuple (xs ++ ys)):=if_pos h
theorem cv7 (xs : List D) (h0 : xs ≠ []) (hl : xs.length ≤ 16) : f7 (.tuple xs) (.int 2) = some (.tuple (xs ++ xs)):=by
 have e : (List.replicate 2 xs).flatten = xs ++ xs:=by simp [List.replicate]
 have : xs.isEmpty = false:=by cases xs with
  | nil=>exact absurd rfl h0
  | cons _ _=>rfl
 show (if xs.isEmpty = false ∧ (2 : Int) ≤ 2 ∧ (2 : Int) < 1000000 ∧ xs.length * (2 : Int).toNat ≤ 16777216 then some (PyData.tuple (List.replicate (2 : Int).toNat xs).flatten) else none) = _
 rw [if_pos ⟨this,by decide,by decide,by show xs.length * 2 ≤ 16777216; omega⟩]
 exact congrArg (fun z=>some (PyData.tuple z)) e
end Sh
namespace Sh
open PySem G L2
theorem z3 (a b c d e f : D) : (List.zip [a,b,c] [d,e,f]).map (fun (x,y)=>PyData.tuple [x,y]) = [.tuple [a,d],.tuple [b,e],.tuple [c,f]]:=rfl
end Sh
namespace Sh
open PySem G L2
structure Q4 where
 c : Rat
 x : Rat
 y : Rat
 z : Rat
def Q4.d (q : Q4) : D:=sp q.c q.x q.y q.z
def Q4.ok (k : Nat) (q : Q4) : Prop:=Spot k q.c q.x q.y q.z
def q0 : Q4:=⟨0,0,0,0⟩
theorem Q4.ok.mono {j k : Nat} {q : Q4} (h : q.ok j) (l : j ≤ k) : q.ok k:=Spot.mono h l
def Ly (n : Nat) (d : D) : Prop:=PyData.canLay0 d = true ∧ PyData.depth d ≤ n
theorem bl2 {n : Nat} : ∀ xs : List D,(∀ x ∈ xs,Ly n x) → PyData.canLayAll0 xs = true ∧ PyData.depthAll xs ≤ n
 | [],_=>⟨rfl,Nat.zero_le _⟩
 | x :: xs,g=>by
  have a:=g x (List.mem_cons_self ..)
  have b:=bl2 xs fun y hy=>g y (List.mem_cons_of_mem _ hy)
  refine ⟨?_,?_⟩
  ·show (PyData.canLay0 x && PyData.canLayAll0 xs) = true
   rw [a.1,b.1]; rfl
  ·show max (PyData.depth x) (PyData.depthAll xs) ≤ n
   have:=a.2; have:=b.2; omega
theorem Ly.lst {n : Nat} {xs : List D} (h : ∀ x ∈ xs,Ly n x) : Ly (n + 1) (.list xs):=⟨(bl2 xs h).1,Nat.succ_le_succ (bl2 xs h).2⟩
theorem Ly.mono {m n : Nat} {d : D} (h : Ly m d) (l : m ≤ n) : Ly n d:=⟨h.1,Nat.le_trans h.2 l⟩
theorem Ly.shaped {n : Nat} {d : D} (g : Ly n d) (hn : n ≤ 64) : SeqAt.shaped d = true:=by
 unfold SeqAt.shaped
 rw [g.1,Bool.true_and]
 exact decide_eq_true (by have:=g.2; omega)
theorem Gd.ly {n : Nat} {d : D} (g : Gd n d) : Ly n d:=Gd.lay n d g
def shD (w h : Nat) (l : List Q4) : D:=.tuple [.int w,.int h,.tuple (l.map Q4.d)]
structure ShOk (k : Nat) (w h : Nat) (l : List Q4) : Prop where
 w1 : 1 ≤ w
 w8 : w ≤ 8
 h1 : 1 ≤ h
 h8 : h ≤ 8
 len : l.length = w * h
 ok : ∀ q ∈ l,q.ok k
theorem bM2 {α : Type} {e : DE} {r : Rho} {h f : α → D} : ∀ (l : List α) (x : Option B),(∀ a ∈ l,e (‹h a› :: r) = some (f a)) → R9 (C7 0) G1 e (l.map h) (x :: r) = some (l.map f)
 | [],_,_=>rfl
 | a :: l,x,H=>by
  simp only [xmc,R9,C7,xw0,xbs,G1,if_true,H a (List.mem_cons_self ..),bM2 l _ (fun b hb=>H b (List.mem_cons_of_mem _ hb)),xms]
theorem bM1 {α : Type} {c : Rho → Option Bool} {e : DE} {r : Rho} {h f : α → D} {p : α → Bool} : ∀ (l : List α) (x : Option B),(∀ a ∈ l,c (‹h a› :: r) = some (p a)) → (∀ a ∈ l,e (‹h a› :: r) = some (f a)) → R9 (C7 0) c e (l.map h) (x :: r) = some ((l.filter p).map f)
 | [],_,_,_=>rfl
 | a :: l,x,C,H=>by
  have ih:=bM1 l (‹h a›) (fun b hb=>C b (List.mem_cons_of_mem _ hb)) (fun b hb=>H b (List.mem_cons_of_mem _ hb))
  cases q : p a with
  | true =>
   simp only [xmc,R9,C7,xw0,xbs,C a (List.mem_cons_self ..),q,if_true,H a (List.mem_cons_self ..),ih,xms,List.filter_cons_of_pos q]
  | false =>
   have q' : ¬ p a = true:=by rw [q]; exact Bool.false_ne_true
   simp only [xmc,R9,C7,xw0,xbs,C a (List.mem_cons_self ..),q,xft,if_false,ih,List.filter_cons_of_neg q']
theorem ai8 {α : Type} {caps : List Nat} {src : Rho → Option (List D)} {e : DE} {ρ r : Rho} {l : List α} {h f : α → D} (hr : t8 1 caps ρ = none :: r) (hs : src ρ = some (l.map h)) (hl : l.length ≤ 1000) (H : ∀ a ∈ l,e (‹h a› :: r) = some (f a)) :
  C8 1 caps src (C7 0) G1 e ρ = some (l.map f):=by
 unfold C8
 rw [hs,xbs,if_pos (by rw [List.length_map]; omega),hr,bM2 l _ H]
theorem U1 {α : Type} {caps : List Nat} {src : Rho → Option (List D)} {c : Rho → Option Bool} {e : DE} {ρ r : Rho} {l : List α} {h f : α → D} {p : α → Bool} (hr : t8 1 caps ρ = none :: r) (hs : src ρ = some (l.map h)) (hl : l.length ≤ 1000) (C : ∀ a ∈ l,c (‹h a› :: r) = some (p a)) (H : ∀ a ∈ l,e (‹h a› :: r) = some (f a)) :
  C8 1 caps src (C7 0) c e ρ = some ((l.filter p).map f):=by
 unfold C8
 rw [hs,xbs,if_pos (by rw [List.length_map]; omega),hr,bM1 l _ C H]
theorem ak0 {f : DE} {ρ : Rho} {n : Nat} (h : f ρ = some (.int n)) (hn : n ≤ 1000) : K4 f ρ = some ((List.range n).map fun k : Nat=>PyData.int k):=by
 unfold K4
 rw [h,xbs]
 show (if -(2 ^ 62) ≤ (n : Int) ∧ (n : Int) < 2 ^ 62 then some (ad6 0 n) else none) = _
 rw [if_pos ⟨by omega,by omega⟩]
 unfold ad6
 congr 1
 have e : ((n : Int) - 0).toNat = n:=by omega
 rw [e]
 apply List.map_congr_left
 intro k _
 congr 1
 omega
theorem cm8 {i j : Int} (h1 : G7 i) (h2 : G7 j) : J4 (.int i) (.int j) = some (.int (i * j)):=R5 h1 h2
theorem R6 {i j : Nat} (h1 : i ≤ 1000) (h2 : j ≤ 1000) : J4 (.int i) (.int j) = some (.int ((i * j : Nat) : Int)):=by
 rw [cm8 (aa7 (k:=10) (by omega) (by decide)) (aa7 (k:=10) (by omega) (by decide)),Int.natCast_mul]
theorem bh5 {n : Nat} {i : Int} (h0 : 0 ≤ i) (h1 : i < n) : ixN n i = some i.toNat:=by unfold ixN; rw [if_pos h0,if_pos h1]
end Sh
namespace Sh
open PySem G L2
abbrev scr (ns : List Int) : D:=.list (ns.map PyData.int)
theorem ba8 (ns : List Int) (k m : Nat) (hn : ns.length ≤ 63) (hk : k < 2 ^ 60) (hm : 0 < m) : ∃ n : Nat,B5 [scr ns,.int k,.int m] = some (.int n) ∧ n < m:=by
 have a:=aC4 ns k m hn hk (by omega)
 have b:=aB5 ns k m (by omega)
 refine ⟨(at7 ns k m).toNat,?_,by omega⟩
 rw [a]
 congr 2
 omega
theorem aB9 {h : D → D → Option D} {f g : DE} {ρ : Rho} {x y : D} (h1 : f ρ = some x) (h2 : g ρ = some y) : A9 h f g ρ = h x y:=by unfold A9; rw [h1,xbs,h2,xbs]
theorem aa9 {α : Type} (a : α) : ∀ n : Nat,(List.replicate n [a]).flatten = List.replicate n a
 | 0=>rfl
 | n + 1=>by rw [List.replicate_succ,List.flatten_cons,aa9 a n]; rfl
theorem bF4 {xs : List D} {n : Nat} (hn : n ≤ 1000) (hx : xs.length ≤ 1000) : J4 (.list xs) (.int n) = some (.list (List.replicate n xs).flatten):=by
 show (if 0 ≤ (n : Int) ∧ (n : Int) < 1000000 ∧ xs.length * ((n : Int)).toNat ≤ 16777216 then some (PyData.list (List.replicate ((n : Int)).toNat xs).flatten) else none) = _
 rw [Int.toNat_natCast,if_pos ⟨by omega,by omega,Nat.le_trans (Nat.mul_le_mul hx hn) (by decide)⟩]
theorem cC3 (a : D) (r : List D) : L6 (a :: r) none (some 1) = [a]:=by
 unfold L6
 have h1 : HT.sIx (a :: r).length 0 none = 0:=by simp [HT.sIx]
 have h2 : HT.sIx (a :: r).length (a :: r).length (some 1) = 1:=by simp only [HT.sIx,List.length_cons]; first | omega | (simp; omega) | simp
 rw [h1,h2]; rfl
theorem aU4 (ns : List Int) (k : Nat) (hn : ns.length ≤ 63) (hk : k < 2 ^ 30) : ∃ q : Q4,W0 [scr ns,.int k] = some q.d ∧ q.ok 8:=by
 obtain ⟨c,x,y,z,e,S⟩:=ct9 ns k hn hk
 exact ⟨⟨c,x,y,z⟩,e,S⟩
theorem bB1 (ns : List Int) (at' : Nat) (hn : ns.length ≤ 63) (ha : at' < 2 ^ 20) : ∃ f : Nat → Q4,∀ k,k < 1000 → W0 [scr ns,.int ((at' + 12 * k : Nat) : Int)] = some (f k).d ∧ (f k).ok 8:=by
 refine ⟨fun k=>if h : k < 1000 then Classical.choose (aU4 ns (at' + 12 * k) hn (by omega)) else q0,fun k hk=>?_⟩
 simp only [dif_pos hk]
 exact Classical.choose_spec (aU4 ns (at' + 12 * k) hn (by omega))
theorem aQ9 (ns : List Int) (at' w h : Nat) (hn : ns.length ≤ 63) (ha : at' < 2 ^ 20) (w1 : 1 ≤ w) (w8 : w ≤ 8) (h1 : 1 ≤ h) (h8 : h ≤ 8) : ∃ l : List Q4,ab9 [scr ns,.int at',.int w,.int h] = some (shD w h l) ∧ ShOk 8 w h l:=by
 obtain ⟨f,hf⟩:=bB1 ns at' hn ha
 have wh : w * h ≤ 64:=Nat.mul_le_mul w8 h8
 have wh1 : 1 ≤ w * h:=Nat.mul_le_mul w1 h1
 obtain ⟨t,et,ht⟩:=ba8 ns (at' + 7) 3 hn (by omega) (by decide)
 have et' : B5 [scr ns,.int ((at' : Int) + 7),.int 3] = some (.int t):=by rw [← et]; simp
 have c : C8 1 [0,1] (K4 (A9 J4 (A6 2) (A6 3))) (C7 0) G1 (A8 W0 (A5 (A6 1) (A5 (A9 C1 (A6 2) (A9 J4 (dC (.int 12)) (A6 0))) A7))) [‹scr ns›,‹.int at'›,‹.int w›,‹.int h›,none] = some ((List.range (w * h)).map fun k=>(f k).d):=by
  refine ai8 (l:=List.range (w * h)) (h:=fun k : Nat=>PyData.int k) (r:=[‹scr ns›,‹.int at'›]) rfl (ak0 ?_ (by omega)) (by rw [List.length_range]; omega) ?_
  ·exact R6 (by omega) (by omega)
  ·intro k hk
   have hk:=List.mem_range.mp hk
   have m12 : J4 (.int 12) (.int k) = some (.int ((12 * k : Nat) : Int)):=R6 (i:=12) (by decide) (by omega)
   have e1 : ((at' : Int) + ((12 * k : Nat) : Int)) = ((at' + 12 * k : Nat) : Int):=by omega
   wp_walk using evD,m12,e1,(hf k (by omega)).1
 have mwh : J4 (.int w) (.int h) = some (.int ((w * h : Nat) : Int)):=R6 (by omega) (by omega)
 have cv : ((t : Int) == 0) = decide (t = 0):=by cases t with
  | zero=>rfl
  | succ n=>rw [decide_eq_false (by omega)]; exact beq_eq_false_iff_ne.mpr (by omega)
 obtain ⟨n,en⟩ : ∃ n,w * h = n + 1:=⟨w * h - 1,by omega⟩
 by_cases t0 : t = 0
 ·refine ⟨List.replicate (w * h) (f 0),?_,w1,w8,h1,h8,List.length_replicate ..,fun q hq=>by rw [(List.mem_replicate.mp hq).2]; exact (hf 0 (by decide)).2⟩
  refine B2 (ρ:=[‹scr ns›,‹.int at'›,‹.int w›,‹.int h›,none]) rfl ?_
  have hd : (List.range (w * h)).map (fun k=>(f k).d) = (f 0).d :: (List.range n).map (fun k=>(f (k + 1)).d):=by
   rw [en,List.range_succ_eq_map,xmc,List.map_map]; rfl
  rw [hd] at c
  have v : A9 J4 (P8 (A6 4) E7 (D1 (dC (.int 1)))) (A9 J4 (A6 2) (A6 3)) [‹scr ns›,‹.int at'›,‹.int w›,‹.int h›,‹.list ((f 0).d :: (List.range n).map (fun k=>(f (k + 1)).d))›] = some (.list (List.replicate (w * h) (f 0).d)):=by
   have a1 : P8 (A6 4) E7 (D1 (dC (.int 1))) [‹scr ns›,‹.int at'›,‹.int w›,‹.int h›,‹.list ((f 0).d :: (List.range n).map (fun k=>(f (k + 1)).d))›] = some (.list (L6 ((f 0).d :: (List.range n).map (fun k=>(f (k + 1)).d)) none (some 1))):=rfl
   have a2 : A9 J4 (A6 2) (A6 3) [‹scr ns›,‹.int at'›,‹.int w›,‹.int h›,‹.list ((f 0).d :: (List.range n).map (fun k=>(f (k + 1)).d))›] = some (.int ((w * h : Nat) : Int)):=(aB9 rfl rfl).trans mwh
   rw [cC3] at a1
   have a3:=bF4 (xs:=[(f 0).d]) (show w * h ≤ 1000 by omega) (show 1 ≤ 1000 by decide)
   rw [aa9] at a3
   exact (aB9 a1 a2).trans a3
  have t1 : tB2 eqD (A8 B5 (A5 (A6 0) (A5 (A9 C1 (A6 1) (dC (.int 7))) (A5 (dC (.int 3)) A7)))) (dC (.int 0)) [‹scr ns›,‹.int at'›,‹.int w›,‹.int h›,‹.list ((f 0).d :: (List.range n).map (fun k=>(f (k + 1)).d))›] = some true:=by
   simp only [tB2,A9,A8,A5,A7,A6,dC,xms,xbs,xg0,xg1,aj4,et',W1,cv,decide_eq_true t0,B8]
  simp only [az0,B3,R3,c,sIf,t1,D0,v,B4,D2,A5,A7,N9,B0,A6,xms,xbs,xw0,xw1,xg0,xg1,if_true,xft,if_false,shD,List.map_replicate]
 ·refine ⟨(List.range (w * h)).map f,?_,w1,w8,h1,h8,by rw [List.length_map,List.length_range],fun q hq=>by
   obtain ⟨k,hk,rfl⟩:=List.mem_map.mp hq
   exact (hf k (by have:=List.mem_range.mp hk; omega)).2⟩
  refine B2 (ρ:=[‹scr ns›,‹.int at'›,‹.int w›,‹.int h›,none]) rfl ?_
  wp_walk using evD,az0,c,et',cv,decide_eq_false t0,shD,List.map_map
  rfl
theorem as3 {n : Nat} {d : D} (g : Gd n d) : ∃ t : Bool,j9 [d] = some (.bool t) ∧ (C4 (B7 (B9 (A8 C2 (A5 (A6 0) A7)))) (B7 (r8 (E2 leI leI (dC (.int 1)) (A6 0) (dC (.int 8)))))) [some (.val d)] = some (!t) ∧ (t = true → ∃ i : Nat,d = .int i ∧ 1 ≤ i ∧ i ≤ 8):=by
 have no : ∀ d : D,J8 [d] = some (.bool false) → C2 [d] = some (.bool false) → ∃ t : Bool,j9 [d] = some (.bool t) ∧ (C4 (B7 (B9 (A8 C2 (A5 (A6 0) A7)))) (B7 (r8 (E2 leI leI (dC (.int 1)) (A6 0) (dC (.int 8)))))) [some (.val d)] = some (!t) ∧ (t = true → ∃ i : Nat,d = .int i ∧ 1 ≤ i ∧ i ≤ 8):=fun d e1 e2=>by
  refine ⟨false,B2 (ρ:=[some (.val d)]) rfl ?_,?_,fun z=>by cases z⟩
  ·wp_walk using evD,ab7,e1
  ·wp_walk using evD,e2
 cases d with
 | int i =>
  have w1 : J8 [.int i] = some (.bool true):=rfl
  have w2 : C2 [.int i] = some (.bool true):=rfl
  by_cases a : 1 ≤ i
  ·by_cases b : i ≤ 8
   ·refine ⟨true,B2 (ρ:=[‹.int i›]) rfl ?_,?_,fun _=>⟨i.toNat,by congr 1; omega,by omega,by omega⟩⟩
    ·wp_walk using evD,ab7,w1,a,b,decide_true
    ·wp_walk using evD,w2,a,b,decide_true
   ·refine ⟨false,B2 (ρ:=[‹.int i›]) rfl ?_,?_,fun z=>by cases z⟩
    ·wp_walk using evD,ab7,w1,a,b,decide_true,decide_false
    ·wp_walk using evD,w2,a,b,decide_true,decide_false
  ·refine ⟨false,B2 (ρ:=[‹.int i›]) rfl ?_,?_,fun z=>by cases z⟩
   ·wp_walk using evD,ab7,w1,a,decide_false
   ·wp_walk using evD,w2,a,decide_false
 | none=>exact no _ rfl rfl
 | bool b=>exact no _ rfl rfl
 | str x=>exact no _ rfl rfl
 | tuple xs=>exact no _ rfl rfl
 | list xs=>exact no _ rfl rfl
 | dict _=>cases n <;> exact g.elim
theorem aj5 {α : Type} (f : α → Bool) : ∀ l : List α,bd3 (l.map fun a=>PyData.bool (f a)) = some (l.all f)
 | []=>rfl
 | a :: l=>by
  show (bd3 (l.map fun a=>PyData.bool (f a))).map (fun c=>f a && c) = _
  rw [aj5 f l]; rfl
theorem aH1 {α : Type} (f : α → Bool) : ∀ l : List α,l.all f = (l.filter fun a=>!f a).isEmpty
 | []=>rfl
 | a :: l=>by
  rw [List.all_cons,aH1 f l,List.filter_cons]
  cases f a <;> simp
def aF5 (d : D) : Bool:=@decide (L1 [d] = some (.bool true)) (Classical.propDecidable _)
theorem aZ2 {n : Nat} {d : D} (g : Gd n d) (hn : n ≤ 60) : L1 [d] = some (.bool (aF5 d)) ∧ K6 [d] = some (.bool (aF5 d)):=by
 obtain ⟨t,e1,e2⟩:=aV1 g hn
 have : aF5 d = t:=by
  unfold aF5
  cases t with
  | true=>exact @decide_eq_true _ (Classical.propDecidable _) e1
  | false=>exact @decide_eq_false _ (Classical.propDecidable _) (by rw [e1]; intro z; cases z)
 rw [this]; exact ⟨e1,e2⟩
theorem cA1 {xs : List D} (h : xs.length ≠ 3) : (((xs.length : Nat) : Int) == 3) = false:=by
 rw [beq_eq_false_iff_ne]; omega
theorem X9 {xs : List D} (h : xs.length ≠ 3) : L3 [.tuple xs] = some (.bool false) ∧ J1 [.tuple xs] = some (.bool false):=by
 have z : S4 [.tuple xs] = some (.bool false):=by
  refine B2 (ρ:=[‹.tuple xs›]) rfl ?_
  wp_walk using evD,o0,cA1 h
 refine ⟨B2 (ρ:=[‹.tuple xs›,none]) rfl ?_,B2 (ρ:=[‹.tuple xs›]) rfl ?_⟩
 ·wp_walk using evD,S1,z
 ·wp_walk using evD,P9,cA1 h
theorem L8 {d : D} (h : K3 "tuple" d = some false) : L3 [d] = some (.bool false) ∧ J1 [d] = some (.bool false):=by
 have z : S4 [d] = some (.bool false):=by
  refine B2 (ρ:=[some (.val d)]) rfl ?_
  simp only [o0,B3,sIf,C4,B7,B9,D3,A6,xg0,xbs,xms,h,G2,xnf,if_true,B4,dC]
 refine ⟨B2 (ρ:=[some (.val d),none]) rfl ?_,B2 (ρ:=[some (.val d)]) rfl ?_⟩
 ·wp_walk using evD,S1,z
 ·simp only [P9,B3,sIf,C4,B7,B9,D3,A6,xg0,xbs,xms,h,G2,xnf,if_true,B4,dC]
theorem ci4 {n : Nat} {a b c : D} (hn : n ≤ 59) (ga : Gd n a) (gb : Gd n b) (gc : Gd n c) : ∃ t,L3 [.tuple [a,b,c]] = some (.bool t) ∧ J1 [.tuple [a,b,c]] = some (.bool t):=by
 obtain ⟨ta,ea,ca,ia⟩:=as3 ga
 obtain ⟨tb,eb,cb,ib⟩:=as3 gb
 have l3 : ((([a,b,c] : List D).length : Nat) : Int) = 3:=rfl
 have b3 : ((3 : Int) == 3) = true:=rfl
 have src : (E1 (P8 (A6 0) E7 (D1 (dC (.int 2))))) [‹.tuple [a,b,c]›] = some ([(a,!ta),(b,!tb)].map Prod.fst):=rfl
 have flt : C8 1 [] (E1 (P8 (A6 0) E7 (D1 (dC (.int 2))))) (C7 0) (C4 (B7 (B9 (A8 C2 (A5 (A6 0) A7)))) (B7 (r8 (E2 leI leI (dC (.int 1)) (A6 0) (dC (.int 8)))))) (A6 0) [‹.tuple [a,b,c]›] = some (([(a,!ta),(b,!tb)].filter Prod.snd).map Prod.fst):=by
  refine U1 (l:=[(a,!ta),(b,!tb)]) (h:=Prod.fst) (f:=Prod.fst) (p:=Prod.snd) (r:=[]) rfl src (by show 2 ≤ 1000; decide) ?_ ?_
  ·intro p hp
   simp only [List.mem_cons,List.not_mem_nil,or_false] at hp
   rcases hp with rfl | rfl
   ·exact ca
   ·exact cb
  ·intro p _; rfl
 have sz : ∀ t,K3 "tuple" c = some t → S4 [.tuple [a,b,c]] = some (.bool (ta && (tb && t))):=fun t hc=>by
  refine B2 (ρ:=[‹.tuple [a,b,c]›]) rfl ?_
  have hi : D3 "tuple" (dIx (B0 0) (dC (.int 2))) [‹.tuple [a,b,c]›] = some (.bool t):=by
   simp only [D3,dIx,B0,dC,xg0,xbs,af5,hc,xms]
  have hi0 : D3 "tuple" (A6 0) [‹.tuple [a,b,c]›] = some (.bool true):=rfl
  have g0 : dIx (B0 0) (dC (.int 0)) [‹.tuple [a,b,c]›] = some a:=rfl
  have g1 : dIx (B0 0) (dC (.int 1)) [‹.tuple [a,b,c]›] = some b:=rfl
  cases ta <;> cases tb <;> simp only [o0,B3,sIf,C0,B4,C4,B7,B9,tB2,A9,D4,A8,A5,A7,G0,hi,hi0,g0,g1,B0,dC,A6,xg0,xbs,xms,l3,O0,b3,B8,G2,xnt,xnf,xft,if_true,if_false,ea,eb,Bool.true_and,Bool.false_and]
 have gy : ∀ y ∈ [a,b],Gd n y:=fun y hy=>by
  simp only [List.mem_cons,List.not_mem_nil,or_false] at hy
  rcases hy with rfl | rfl
  ·exact ga
  ·exact gb
 have no : (ta && tb) = false → ∃ t,L3 [.tuple [a,b,c]] = some (.bool t) ∧ J1 [.tuple [a,b,c]] = some (.bool t):=fun hz=>by
  have zz : S4 [.tuple [a,b,c]] = some (.bool false):=by
   obtain ⟨t,ht⟩ : ∃ t,K3 "tuple" c = some t:=by
    cases c <;> first | exact ⟨_,rfl⟩ | (cases n <;> exact gc.elim)
   rw [sz t ht]
   cases ta <;> cases tb <;> first | rfl | cases hz
  have fl : neD (.list (([(a,!ta),(b,!tb)].filter Prod.snd).map Prod.fst)) (.list []) = some (.bool true):=by
   have one : ∀ y ∈ [a,b],neD (.list [y]) (.list []) = some (.bool true):=fun y hy=>aB3 (fun z hz=>by rw [List.mem_singleton.mp hz]; exact gy y hy) (by show 1 ≤ 64; decide) (by omega)
   have two : neD (.list [a,b]) (.list []) = some (.bool true):=aB3 gy (by show 2 ≤ 64; decide) (by omega)
   cases ta with
   | false=>cases tb with
    | false=>exact two
    | true=>exact one a (by simp)
   | true=>cases tb with
    | false=>exact one b (by simp)
    | true=>exact absurd hz (by decide)
  refine ⟨false,B2 (ρ:=[‹.tuple [a,b,c]›,none]) rfl ?_,B2 (ρ:=[‹.tuple [a,b,c]›]) rfl ?_⟩
  ·wp_walk using evD,S1,zz
  ·simp only [P9,B3,sIf,C0,B4,C4,B7,B9,tB2,A9,D4,D6,A7,flt,fl,D3,K3,B0,dC,A6,xg0,xbs,xms,l3,O0,b3,B8,G2,xnt,xnf,xft,if_true,if_false]
 cases ta with
 | false=>exact no rfl
 | true =>
  cases tb with
  | false=>exact no rfl
  | true =>
   obtain ⟨i,rfl,i1,i8⟩:=ia rfl
   obtain ⟨j,rfl,j1,j8⟩:=ib rfl
   rw [show (([((.int i : D),!true),((.int j : D),!true)].filter Prod.snd).map Prod.fst) = [] from rfl] at flt
   have fl : neD (.list []) (.list []) = some (.bool false):=rfl
   have mij : J4 (.int i) (.int j) = some (.int ((i * j : Nat) : Int)):=R6 (by omega) (by omega)
   have nott : K3 "tuple" c = some false → ∃ t,L3 [.tuple [.int i,.int j,c]] = some (.bool t) ∧ J1 [.tuple [.int i,.int j,c]] = some (.bool t):=fun hc=>by
    have zz:=sz false hc
    have hi : ∀ q,D3 "tuple" (dIx (B0 0) (dC (.int 2))) (‹.tuple [.int i,.int j,c]› :: q) = some (.bool false):=fun q=>by
     simp only [D3,dIx,B0,dC,xg0,xbs,af5,hc,xms]
    have hi0 : D3 "tuple" (A6 0) [‹.tuple [.int i,.int j,c]›] = some (.bool true):=rfl
    refine ⟨false,B2 (ρ:=[‹.tuple [.int i,.int j,c]›,none]) rfl ?_,B2 (ρ:=[‹.tuple [.int i,.int j,c]›]) rfl ?_⟩
    ·simp only [Bool.true_and] at zz
     wp_walk using evD,S1,zz
    ·simp only [P9,B3,sIf,C0,B4,C4,B7,B9,tB2,A9,D4,D6,A7,flt,fl,hi,hi0,B0,dC,A6,xg0,xbs,xms,l3,O0,b3,B8,G2,xnt,xnf,xft,if_true,if_false]
   cases c with
   | tuple cs =>
    cases n with
    | zero=>exact gc.elim
    | succ n =>
    have zz:=sz true rfl
    simp only [Bool.true_and,Bool.and_true] at zz
    have gcs : ∀ x ∈ cs,Gd n x:=gc.2
    have hcs : cs.length ≤ 64:=gc.1
    have ef : eqD (.list (cs.filter fun x=>!aF5 x)) (.list []) = some (.bool (cs.filter fun x=>!aF5 x).isEmpty):=by
     cases e : cs.filter (fun x=>!aF5 x) with
     | nil=>rfl
     | cons y ys =>
      have sub : ∀ x ∈ y :: ys,x ∈ cs:=fun x hx=>by rw [← e] at hx; exact (List.mem_filter.mp hx).1
      exact f8 (fun x hx=>gcs x (sub x hx)) (by rw [← e]; exact Nat.le_trans (List.length_filter_le ..) hcs) (by omega)
    have al : ∀ q : Option B,C8 1 [] (E1 (A6 1)) (C7 0) G1 (A8 L1 (A5 (A6 0) A7)) [q,‹.tuple cs›] = some (cs.map fun x=>.bool (aF5 x)):=fun q=>by
     refine ai8 (l:=cs) (h:=id) (r:=[]) rfl (by rw [List.map_id]; rfl) (by omega) fun x hx=>?_
     wp_walk using evD,id,(aZ2 (gcs x hx) (by omega)).1
    have la : C8 1 [] (E1 (dIx (B0 0) (dC (.int 2)))) (C7 0) (B7 (B9 (A8 K6 (A5 (A6 0) A7)))) (A6 0) [‹.tuple [.int i,.int j,.tuple cs]›] = some (cs.filter fun x=>!aF5 x):=by
     rw [U1 (l:=cs) (h:=id) (f:=id) (p:=fun x=>!aF5 x) (r:=[]) rfl (by rw [List.map_id]; rfl) (by omega) (fun x hx=>by wp_walk using evD,id,(aZ2 (gcs x hx) (by omega)).2) (fun x _=>rfl),List.map_id]
    by_cases hl : cs.length = i * j
    ·have hb : (((cs.length : Nat) : Int) == ((i * j : Nat) : Int)) = true:=by rw [hl]; simp
     refine ⟨cs.all aF5,B2 (ρ:=[‹.tuple [.int i,.int j,.tuple cs]›,none]) rfl ?_,B2 (ρ:=[‹.tuple [.int i,.int j,.tuple cs]›]) rfl ?_⟩
     ·wp_walk using evD,S1,zz,mij,hb,al,aj5
     ·rw [aH1]
      wp_walk using evD,P9,flt,fl,la,ef,l3,b3,mij,hb
    ·have hb : (((cs.length : Nat) : Int) == ((i * j : Nat) : Int)) = false:=by rw [beq_eq_false_iff_ne]; omega
     refine ⟨false,B2 (ρ:=[‹.tuple [.int i,.int j,.tuple cs]›,none]) rfl ?_,B2 (ρ:=[‹.tuple [.int i,.int j,.tuple cs]›]) rfl ?_⟩
     ·wp_walk using evD,S1,zz,mij,hb
     ·wp_walk using evD,P9,flt,fl,l3,b3,mij,hb
   | none=>exact nott rfl
   | bool _=>exact nott rfl
   | int _=>exact nott rfl
   | str _=>exact nott rfl
   | list _=>exact nott rfl
   | dict _=>cases n <;> exact gc.elim
theorem br0 {n : Nat} {d : D} (g : Gd n d) (hn : n ≤ 60) : ∃ t,L3 [d] = some (.bool t) ∧ J1 [d] = some (.bool t):=by
 cases d with
 | tuple xs =>
  cases n with
  | zero=>exact g.elim
  | succ n =>
  match xs,g with
  | [a,b,c],g=>exact ci4 (by omega) (g.2 a (by simp)) (g.2 b (by simp)) (g.2 c (by simp))
  | [],_=>exact ⟨false,X9 (by decide)⟩
  | [a],_=>exact ⟨false,X9 (by simp)⟩
  | [a,b],_=>exact ⟨false,X9 (by simp)⟩
  | a :: b :: c :: e :: r,_=>exact ⟨false,X9 (by simp)⟩
 | none=>exact ⟨false,L8 rfl⟩
 | bool _=>exact ⟨false,L8 rfl⟩
 | int _=>exact ⟨false,L8 rfl⟩
 | str _=>exact ⟨false,L8 rfl⟩
 | list _=>exact ⟨false,L8 rfl⟩
 | dict _=>cases n <;> exact g.elim
end Sh
namespace Sh
open PySem G L2
theorem q4 : (4 : Nat) ≤ 16777216:=by decide
theorem q3 : (3 : Nat) ≤ 16777216:=by decide
end Sh
namespace Sh
open PySem G L2
def Dv (N : Nat) (r : Rat) : Prop:=∃ z : Int,r * (N : Rat) = (z : Rat)
theorem Dv.mul {M N : Nat} {r s : Rat} (h : Dv M r) (g : Dv N s) : Dv (M * N) (r * s):=by
 obtain ⟨a,ha⟩:=h; obtain ⟨b,hb⟩:=g
 exact ⟨a * b,by rw [Rat.intCast_mul,← ha,← hb,Rat.natCast_mul]; grind⟩
theorem Dv.int (N : Nat) (i : Int) : Dv N (i : Rat):=⟨i * N,by rw [Rat.intCast_mul]; rfl⟩
theorem Dv.one (N : Nat) : Dv N 1:=Dv.int N 1
theorem Dv.right {N : Nat} {r : Rat} (h : Dv N r) (M : Nat) : Dv (N * M) r:=by
 have:=h.mul (Dv.one M); rwa [Rat.mul_one] at this
theorem Dv.left {N : Nat} {r : Rat} (h : Dv N r) (M : Nat) : Dv (M * N) r:=by
 have:=(Dv.one M).mul h; rwa [Rat.one_mul] at this
theorem Dv.of (a : Int) {N : Nat} (hN : 0 < N) : Dv N (mkRat a N):=by
 refine ⟨a,?_⟩
 have hN' : (N : Rat) ≠ 0:=by
  intro h
  have : N = 0:=by exact_mod_cast h
  omega
 rw [Rat.mkRat_eq_div]
 exact Rat.div_mul_cancel hN'
def Dn (k : Nat) (q : Q4) : Prop:=∃ N,0 < N ∧ N < 2 ^ k ∧ Dv N q.c ∧ Dv N q.x ∧ Dv N q.y ∧ Dv N q.z
def Ds (k : Nat) (s : Rat) : Prop:=∃ N,0 < N ∧ N < 2 ^ k ∧ Dv N s
theorem aq2 {a b j k : Nat} (h1 : a < 2 ^ j) (h2 : b < 2 ^ k) : a * b < 2 ^ (j + k):=by
 rw [Nat.pow_add]
 exact Nat.mul_lt_mul'' h1 h2
def Q4.or (q : Q4) : Prop:=0 ≤ q.x ∧ 0 ≤ q.y ∧ 0 ≤ q.z ∧ q.x ≤ q.c ∧ q.y ≤ q.c ∧ q.z ≤ q.c ∧ q.c ≤ 1
theorem Q4.ok.or {k : Nat} {q : Q4} (h : q.ok k) : q.or:=⟨h.hx.nn,h.hy.nn,h.hz.nn,h.xc,h.yc,h.zc,h.hc.le⟩
structure Dq (k : Nat) (q : Q4) : Prop where
 o : q.or
 n : Dn k q
structure Sr (k : Nat) (s : Rat) : Prop where
 h : IsSh k s
 n : Ds k s
end Sh
namespace Sh
open PySem G L2
inductive Nd where
 | layer (nm : D) (m : Man) (s : Rat) (sh : Bool) (lf tp : Int) (mk : Option (List Rat)) (w h : Nat) (l : List Q4) (kb : Nat)
 | tone (nm : D) (r : Rul) (s : Rat) (sh : Bool)
 | group (nm : D) (m : Man) (s : Rat) (sh : Bool) (ns : List Nd)
def mkD : Option (List Rat) → D
 | none=>.none
 | some ms=>.tuple (ms.map fr)
mutual
def Nd.d : Nd → D
 | .layer nm m s sh lf tp mk w h l _=>.tuple [.str "layer", nm,.str m.s,fr s,.bool sh,.int lf,.int tp,mkD mk,shD w h l]
 | .tone nm r s sh=>.tuple [.str "tone", nm,.str r.s,fr s,.bool sh]
 | .group nm m s sh ns=>.tuple [.str "group", nm,.str m.s,fr s,.bool sh,.tuple (Nd.ds ns)]
def Nd.ds : List Nd → List D
 | []=>[]
 | n :: r=>n.d :: Nd.ds r
end
mutual
def Nd.Ok : Nd → Prop
 | .layer _ _ s _ _ _ mk w h l kb=>Sr 4 s ∧ ShOk kb w h l ∧ (∀ q ∈ l,Dq kb q) ∧ (∀ ms,mk = some ms → ms.length = w * h ∧ ∀ r ∈ ms,Sr 4 r) ∧ 1 ≤ kb
 | .tone _ _ s _=>Sr 4 s
 | .group _ _ s _ ns=>Sr 4 s ∧ Nd.Oks ns
def Nd.Oks : List Nd → Prop
 | []=>True
 | n :: r=>n.Ok ∧ Nd.Oks r
end
mutual
def Nd.wg : Nd → Nat
 | .layer _ _ _ _ _ _ _ _ _ _ kb=>kb + 8
 | .tone ..=>6
 | .group _ _ _ _ ns=>5 + Nd.wgs ns
def Nd.wgs : List Nd → Nat
 | []=>0
 | n :: r=>n.wg + Nd.wgs r
end
mutual
def Nd.dp : Nd → Nat
 | .layer ..=>0
 | .tone ..=>0
 | .group _ _ _ _ ns=>1 + Nd.dps ns
def Nd.dps : List Nd → Nat
 | []=>0
 | n :: r=>max n.dp (Nd.dps r)
end
theorem cI0 : eqD (.str "layer") (.str "tone") = some (.bool false):=E6 (by decide +kernel) (by decide +kernel) (by decide +kernel)
theorem cI1 : eqD (.str "group") (.str "tone") = some (.bool false):=E6 (by decide +kernel) (by decide +kernel) (by decide +kernel)
theorem cB9 : eqD (.str "layer") (.str "group") = some (.bool false):=E6 (by decide +kernel) (by decide +kernel) (by decide +kernel)
theorem cC1 : eqD (.str "group") (.str "group") = some (.bool true):=E6 (by decide +kernel) (by decide +kernel) (by decide +kernel)
section
variable {nm : D} {m : Man} {r : Rul} {s : Rat} {sh : Bool} {lf tp : Int} {mk : Option (List Rat)} {w h : Nat} {l : List Q4} {kb : Nat} {ns : List Nd}
end
end Sh
namespace Sh
open PySem G L2
theorem aN0 (a b c d e f g h i : D) : L2.atI [a,b,c,d,e,f,g,h,i] 0 = some a:=rfl
theorem bd0 (a b c d e f g h i : D) : L2.atI [a,b,c,d,e,f,g,h,i] 1 = some b:=rfl
theorem cC9 (a b c d e f g h i : D) : L2.atI [a,b,c,d,e,f,g,h,i] 2 = some c:=rfl
theorem cC8 (a b c d e f g h i : D) : L2.atI [a,b,c,d,e,f,g,h,i] 3 = some d:=rfl
theorem cC7 (a b c d e f g h i : D) : L2.atI [a,b,c,d,e,f,g,h,i] 4 = some e:=rfl
theorem cC6 (a b c d e f g h i : D) : L2.atI [a,b,c,d,e,f,g,h,i] 8 = some i:=rfl
theorem aN1 (a b c d e f : D) : L2.atI [a,b,c,d,e,f] 0 = some a:=rfl
theorem bN3 (a b c d e f : D) : L2.atI [a,b,c,d,e,f] 1 = some b:=rfl
theorem cD1 (a b c d e f : D) : L2.atI [a,b,c,d,e,f] 3 = some d:=rfl
theorem cD0 (a b c d e f : D) : L2.atI [a,b,c,d,e,f] 4 = some e:=rfl
theorem bN2 (a b c d e f : D) : L2.atI [a,b,c,d,e,f] 5 = some f:=rfl
theorem bN4 (a b c d e : D) : L2.atI [a,b,c,d,e] 0 = some a:=rfl
theorem cD3 (a b c d e : D) : L2.atI [a,b,c,d,e] 1 = some b:=rfl
theorem cD2 (a b c d e : D) : L2.atI [a,b,c,d,e] 4 = some e:=rfl
end Sh
namespace Sh
open PySem G L2
theorem B6 {f g : DS} {ρ ρ' : Rho} (h : f ρ = some (.nx ρ')) : B3 f g ρ = g ρ':=by unfold B3; rw [h]; rfl
theorem k8 {f g : DS} {ρ : Rho} {d : D} (h : f ρ = some (.rt d)) : B3 f g ρ = some (.rt d):=by unfold B3; rw [h]; rfl
theorem at5 {α : Type} {g : D → Rho → Option Rho} {f : DS} {h : α → D} {I : Nat → Rho → Prop} : ∀ (l : List α) (i : Nat) (ρ : Rho),I i ρ → (∀ (j : Nat) (a : α),l[j]? = some a → ∀ ρ,I (i + j) ρ → ∃ ρ1,g (h a) ρ = some ρ1 ∧ ∃ ρ',f ρ1 = some (.nx ρ') ∧ I (i + j + 1) ρ') → ∃ ρ',an8 g f (l.map h) ρ = some (.nx ρ') ∧ I (i + l.length) ρ'
 | [],i,ρ,h0,_=>⟨ρ,rfl,h0⟩
 | a :: l,i,ρ,h0,H=>by
  obtain ⟨ρ1,e1,ρ2,e2,h2⟩:=H 0 a rfl ρ h0
  obtain ⟨ρ',e3,h3⟩:=at5 l (i + 1) ρ2 (by simpa using h2) (fun j b hb ρ hρ=>by
   have:=H (j + 1) b (by simpa using hb) ρ (by rwa [show i + (j + 1) = i + 1 + j by omega])
   rwa [show i + (j + 1) + 1 = i + 1 + j + 1 by omega] at this)
  refine ⟨ρ',?_,by rw [List.length_cons,show i + (l.length + 1) = i + 1 + l.length by omega]; exact h3⟩
  simp only [xmc,an8,e1,xbs,e2,e3]
theorem aZ5 {α : Type} (x : α) {n : Nat} {P : Nat → α → Prop} (h : ∀ j,j < n → ∃ a,P j a) : ∃ f : Nat → α,∀ j,j < n → P j (f j):=by
 refine ⟨fun j=>if hj : j < n then Classical.choose (h j hj) else x,fun j hj=>?_⟩
 simp only [dif_pos hj]
 exact Classical.choose_spec (h j hj)
theorem D7 (ns : List Int) (hn : ns.length ≤ 63) {e m' : Int} (k m : Nat) (he : e = (k : Int)) (hm' : m' = (m : Int)) (hk : k < 2 ^ 60) (hm : 0 < m) : ∃ n : Nat,B5 [scr ns,.int e,.int m'] = some (.int n) ∧ n < m:=by
 subst he hm'
 exact ba8 ns k m hn hk hm
theorem aD2 (ns : List Int) (hn : ns.length ≤ 63) {e : Int} (k : Nat) (he : e = (k : Int)) (hk : k < 2 ^ 40) : ∃ r,L0 [scr ns,.int e] = some (fr r) ∧ IsSh 4 r:=by
 subst he
 exact am7 ns k hn hk
theorem bB3 (ns : List Int) (hn : ns.length ≤ 63) {e : Int} (k w h : Nat) (he : e = (k : Int)) (hk : k < 2 ^ 20) (w1 : 1 ≤ w) (w8 : w ≤ 8) (h1 : 1 ≤ h) (h8 : h ≤ 8) : ∃ l : List Q4,ab9 [scr ns,.int e,.int w,.int h] = some (shD w h l) ∧ ShOk 8 w h l:=by
 subst he
 exact aQ9 ns k w h hn hk w1 w8 h1 h8
theorem at6 (r : Rat) : Dv r.den r:=by
 have:=Dv.of r.num (P6 r)
 rwa [Rat.mkRat_self] at this
theorem bm2 {k : Nat} {s : Rat} (h : IsSh k s) : Sr k s:=⟨h,s.den,P6 s,h.bd.den,at6 s⟩
theorem cC2 {q : Q4} (h : q.ok 8) : Dq 32 q :=
 ⟨h.or,q.c.den * q.x.den * (q.y.den * q.z.den),Nat.mul_pos (Nat.mul_pos (P6 _) (P6 _)) (Nat.mul_pos (P6 _) (P6 _)),aq2 (aq2 h.hc.bd.den h.hx.den) (aq2 h.hy.den h.hz.den),
  ((at6 q.c).right _).right _,((at6 q.x).left _).right _,((at6 q.y).right _).left _,((at6 q.z).left _).left _⟩
def SOk (s : Str) : Prop:=∀ c ∈ s.cps.toList,97 ≤ c ∧ c ≤ 122
theorem SOk.app {a b : Str} (ha : SOk a) (hb : SOk b) : SOk (a ++ b):=by
 intro c hc
 have : c ∈ (a.cps ++ b.cps).toList:=hc
 rw [Array.toList_append] at this
 rcases List.mem_append.mp this with h | h
 ·exact ha c h
 ·exact hb c h
theorem cr8 (x : Str) (n : Nat) (h : n < x.length) (hx : x.length ≤ 1000) : ∃ s : Str,atS x (n : Int) = some (.str s) ∧ s.length = 1 ∧ (SOk x → SOk s):=by
 unfold atS
 rw [if_pos (by omega)]
 have hl : x.cps.toList.length = x.length:=by unfold Str.length; simp
 have h' : n < x.cps.toList.length:=by omega
 have : atI x.cps.toList (n : Int) = some x.cps.toList[n]:=by
  unfold atI
  rw [bh5 (by omega) (by omega),xbs,Int.toNat_natCast,List.getElem?_eq_getElem h']
 rw [this]
 refine ⟨⟨#[x.cps.toList[n]]⟩,rfl,rfl,fun hs c hc=>?_⟩
 have : c = x.cps.toList[n]:=by simpa using hc
 rw [this]
 exact hs _ (List.getElem_mem h')
theorem bP1 (x : Str) (lo hi : Option Int) : (slS x lo hi).length ≤ x.length:=by
 unfold slS
 split
 ·exact Nat.le_refl _
 ·unfold Str.length
  rw [List.size_toArray]
  exact Nat.le_trans (List.length_filterMap_le ..) (PyProof.Rows.indices_len_le ..)
theorem bP0 {x : Str} (h : SOk x) (lo hi : Option Int) : SOk (slS x lo hi):=by
 unfold slS
 split
 ·exact h
 ·intro c hc
  simp only [List.toList_toArray] at hc
  obtain ⟨i,_,e⟩:=List.mem_filterMap.mp hc
  exact h c (Array.mem_toList_iff.mpr (Array.mem_of_getElem? e))
theorem bC0 {x : Str} (h : SOk x) (k : Int) (hk : k = 1 ∨ k = 2) : SOk (aA0 x k):=by
 unfold aA0
 split
 ·exact h
 ·rename_i e
  rcases hk with rfl | rfl
  ·simp at e
  ·intro c hc
   have : c ∈ ((#[] ++ x.cps) ++ x.cps).toList:=hc
   simp at this
   exact h c (Array.mem_toList_iff.mpr this)
theorem bJ6 {a b : Str} (ha : SOk a) (hb : SOk b) : SOk (Builtin.Str.glued "" [a,b]):=by
 intro c hc
 have : c ∈ (a.cps ++ ("" : Str).cps ++ b.cps).toList:=hc
 rw [Array.toList_append,Array.toList_append] at this
 rcases List.mem_append.mp this with h | h
 ·rcases List.mem_append.mp h with h | h
  ·exact ha c h
  ·exact absurd h (by simp [show ("" : Str).cps = #[] from rfl])
 ·exact hb c h
theorem bY8 : SOk "abcdefghijklmnopqrstuvwxyz" := by
 have : ("abcdefghijklmnopqrstuvwxyz" : Str).cps.toList.all (fun c=>decide (97 ≤ c ∧ c ≤ 122)) = true:=by decide +kernel
 intro c hc
 exact of_decide_eq_true (List.all_eq_true.mp this c hc)
def ltr (k : Nat) : Str:=⟨#[97 + k]⟩
theorem cm9 : ∀ k : Nat,k < 14 → atS "abcdefghijklmn" (k : Int) = some (.str (ltr k)):=by
 have e : ("abcdefghijklmn" : Str) = ⟨#[97,98,99,100,101,102,103,104,105,106,107,108,109,110]⟩:=by decide +kernel
 intro k hk
 rw [e]
 rcases (show k = 0 ∨ k = 1 ∨ k = 2 ∨ k = 3 ∨ k = 4 ∨ k = 5 ∨ k = 6 ∨ k = 7 ∨ k = 8 ∨ k = 9 ∨ k = 10 ∨ k = 11 ∨ k = 12 ∨ k = 13 by omega) with rfl | rfl | rfl | rfl | rfl | rfl | rfl | rfl | rfl | rfl | rfl | rfl | rfl | rfl <;> rfl
theorem bn9 (k : Nat) (h : k < 14) : SOk (ltr k):=by
 intro c hc
 have : c = 97 + k:=by simpa [ltr] using hc
 omega
def nmS (b : Bool) (k : Nat) (y : Str) : Str:=if b = true then ltr k ++ y else y ++ ltr k
theorem bT4 (b : Bool) {k : Nat} {y : Str} (hk : k < 14) (hy : SOk y) : SOk (nmS b k y):=by
 unfold nmS
 split
 ·exact (bn9 k hk).app hy
 ·exact hy.app (bn9 k hk)
theorem aV7 (x : Str) (k : Int) (hk : k = 1 ∨ k = 2) : (aA0 x k).length ≤ 2 * x.length:=by
 unfold aA0
 split
 ·omega
 ·rename_i e
  rcases hk with rfl | rfl
  ·simp at e
  ·show ((#[] ++ x.cps) ++ x.cps).size ≤ 2 * x.cps.size
   simp; omega
theorem ca7 (a b : Str) (ha : a.length = 1) (hb : b.length = 1) : aG4 (dC (.str "")) (fun _=>some (false,[.str a,.str b])) [] = some (.str (Builtin.Str.glued "" [a,b])) ∧ (Builtin.Str.glued "" [a,b]).length = 2:=by
 have h2 : (Builtin.Str.glued "" [a,b]).length = 2:=by
  show (a.cps ++ ("" : Str).cps ++ b.cps).size = 2
  unfold Str.length at ha hb
  rw [Array.size_append,Array.size_append,ha,hb]
  rfl
 have h1 : at1 "" [a,b] ≤ 16777216:=by
  show 0 + a.length + ("" : Str).length + b.length + ("" : Str).length ≤ 16777216
  have : ("" : Str).length = 0:=rfl
  omega
 refine ⟨?_,h2⟩
 show (if at1 "" [a,b] ≤ 16777216 ∧ (Builtin.Str.glued "" [a,b]).length ≤ 16777216 then some (PyData.str (Builtin.Str.glued "" [a,b])) else none) = _
 rw [if_pos ⟨h1,by omega⟩]
theorem bV1 {f : DE} {g : Rho → Option (Bool × List D)} {ρ : Rho} {a b : Str} (hf : f ρ = some (.str "")) (hg : g ρ = some (false,[.str a,.str b])) (ha : a.length = 1) (hb : b.length = 1) : aG4 f g ρ = some (.str (Builtin.Str.glued "" [a,b])):=by
 rw [← (ca7 a b ha hb).1]
 unfold aG4
 rw [hf,hg]
 rfl
theorem bT7 (x : Str) (k : Int) (hk : k = 1 ∨ k = 2) (hx : x.length ≤ 1000) : bu3 (.str x) (.int k) = some (.str (aA0 x k)):=by
 show (if 1 ≤ k ∧ k ≤ 2 ∧ x.length ≤ 1000 ∧ (aA0 x k).length ≤ 16777216 then some (PyData.str (aA0 x k)) else none) = _
 have:=aV7 x k hk
 rw [if_pos ⟨by omega,by omega,hx,by omega⟩]
theorem bb8 (a b : Str) (ha : a.length ≤ 1000) (hb : b.length ≤ 1000) : C1 (.str a) (.str b) = some (.str (a ++ b)):=by
 show (if a.length + b.length ≤ 16777216 then some (PyData.str (a ++ b)) else none) = _
 rw [if_pos (by omega)]
theorem cH1 : ∀ n : Nat,n < 2 → ∃ k : Int,atI ([.int 1,.int 2] : List D) (n : Int) = some (.int k) ∧ (k = 1 ∨ k = 2)
 | 0,_=>⟨1,rfl,.inl rfl⟩
 | 1,_=>⟨2,rfl,.inr rfl⟩
 | n + 2,h=>absurd h (by omega)
def nbA : DS:=(D0 6 (aG4 (dC (.str "")) (qN (C8 1 [0,1,5] (K4 (dC (.int 2))) (C7 0) G1 (aq8 (dC (.str "abcdefghijklmnopqrstuvwxyz")) (A8 B5 (A5 (A6 1) (A5 (A9 C1 (A9 C1 (A9 C1 (A6 2) (dC (.int 1))) (A9 J4 (dC (.int 3)) (A6 3))) (A6 0)) (A5 (dC (.int 26)) A7)))))))))
def nbB : DS:=(D0 6 (A9 bu3 (bw8 (A6 6) E7 (D1 (A8 B5 (A5 (A6 0) (A5 (A9 C1 (A9 C1 (A6 1) (dC (.int 3))) (A9 J4 (dC (.int 3)) (A6 5))) (A5 (dC (.int 3)) A7)))))) (dIx (qN (A5 (dC (.int 1)) (A5 (dC (.int 2)) A7))) (A8 B5 (A5 (A6 0) (A5 (A9 C1 (A9 C1 (A6 1) (dC (.int 2))) (A9 J4 (dC (.int 3)) (A6 5))) (A5 (dC (.int 2)) A7)))))))
def nbC : DS:=(aa3 4 (dIx (qN (A5 (A9 C1 (A6 6) (aq8 (dC (.str "abcdefghijklmn")) (A6 5))) (A5 (A9 C1 (aq8 (dC (.str "abcdefghijklmn")) (A6 5)) (A6 6)) A7))) (Z4 (A6 3))))
def aX8 : DS:=B3 nbA (B3 nbB nbC)
theorem bJ4 : aN7 = (B3 (D0 3 (A9 eqD (A8 B5 (A5 (A6 0) (A5 (A6 1) (A5 (dC (.int 2)) A7)))) (dC (.int 0)))) (B3 (r9 4 A7) (B3 (aa2 (K4 (A6 2)) (C7 5) aX8) (ax4 4 (B4 (A6 4)))))):=rfl
def gb0 : DS:=(D0 8 (A8 B5 (A5 (A6 0) (A5 (A9 C1 (A9 C1 (A6 1) (dC (.int 3))) (A9 J4 (dC (.int 5)) (A6 7))) (A5 (A9 C1 (D4 (B0 6)) (dC (.int 1))) A7)))))
def gb1 : DS:=(D0 9 (A9 C1 (A6 8) (A8 B5 (A5 (A6 0) (A5 (A9 C1 (A9 C1 (A6 1) (dC (.int 4))) (A9 J4 (dC (.int 5)) (A6 7))) (A5 (dC (.int 3)) A7))))))
def gb2 : DS:=(D0 10 (dIx (qN (A5 (D2 (A5 (dC (.int 1)) (A5 (dC (.int 1)) A7))) (A5 (A8 L0 (A5 (A6 0) (A5 (A9 C1 (A9 C1 (A6 1) (dC (.int 5))) (A9 J4 (dC (.int 5)) (A6 7))) A7))) A7))) (A8 B5 (A5 (A6 0) (A5 (A9 C1 (A9 C1 (A6 1) (dC (.int 6))) (A9 J4 (dC (.int 5)) (A6 7))) (A5 (dC (.int 2)) A7))))))
def gb3 : DS:=(D0 11 (dIx (qN (A5 (A6 4) (A5 (dC (.str "atop")) (A5 (A6 4) (A5 (dC (.str "cut")) A7))))) (A8 B5 (A5 (A6 0) (A5 (A9 C1 (A9 C1 (A6 1) (dC (.int 7))) (A9 J4 (dC (.int 5)) (A6 7))) (A5 (dC (.int 4)) A7))))))
def gb4 : DS:=(D0 12 (D2 (A5 (dC (.str "group")) (A5 (dIx (B0 3) (A9 C1 (A6 2) (A6 7))) (A5 (A6 11) (A5 (A6 10) (A5 (A9 gtI (A8 B5 (A5 (A6 0) (A5 (A9 C1 (A9 C1 (A6 1) (dC (.int 14))) (A6 7)) (A5 (dC (.int 7)) A7)))) (dC (.int 0))) A7)))))))
def gb5 : DS:=(bB5 6 (D1 (A6 8)) (D1 (A6 9)) (A5 (A9 C1 (A6 12) (D2 (A5 (N9 (qE (bw9 (B0 6) (D1 (A6 8)) (D1 (A6 9))))) A7))) A7))
def bo8 : DS:=(B3 gb0 (B3 gb1 (B3 gb2 (B3 gb3 (B3 gb4 gb5)))))
def gn0 : DS:=(D0 4 (dIx (qN (A5 (dC (.str "over")) (A5 (dC (.str "multiply")) (A5 (dC (.str "screen")) (A5 (dC (.str "plus")) A7))))) (A8 B5 (A5 (A6 0) (A5 (A6 1) (A5 (dC (.int 4)) A7))))))
def gn1 : DS:=(D0 5 (A8 B5 (A5 (A6 0) (A5 (A9 C1 (A6 1) (dC (.int 1))) (A5 (A9 C1 (A6 2) (dC (.int 1))) A7)))))
def gn2 : DS:=(r9 6 (C8 1 [0,4,3,1] (K4 (A6 5)) (C7 0) G1 (A8 T9 (A5 (A6 1) (A5 (A9 C1 (A9 C1 (A6 4) (dC (.int 20))) (A9 J4 (dC (.int 170)) (A6 0))) (A5 (dIx (B0 3) (A6 0)) (A5 (A6 2) A7)))))))
def gn3 : DS:=(aa2 (K4 (A8 B5 (A5 (A6 0) (A5 (A9 C1 (A6 1) (dC (.int 2))) (A5 (dC (.int 3)) A7))))) (C7 7) bo8)
def gn4 : DS:=(B4 (N9 (B0 6)))
theorem bJ3 : aN6 = (B3 gn0 (B3 gn1 (B3 gn2 (B3 gn3 gn4)))):=rfl
theorem cm6 (ns : List Int) (hn : ns.length ≤ 63) (at' k : Nat) (ha : at' < 2 ^ 20) (hk : k < 14) (a2 : Option B) (b : Bool) (L : List D) (a6 : Option B) : ∃ x : Str,nbA [‹scr ns›,‹.int at'›,a2,‹.bool b›,some (.own L),‹.int k›,a6] = some (.nx [‹scr ns›,‹.int at'›,a2,‹.bool b›,some (.own L),‹.int k›,‹.str x›]) ∧ x.length = 2 ∧ SOk x:=by
 have m3 : J4 (.int 3) (.int k) = some (.int ((3 * k : Nat) : Int)):=R6 (i:=3) (by decide) (by omega)
 have P : ∀ j,j < 2 → ∃ s : Str,aq8 (dC (.str "abcdefghijklmnopqrstuvwxyz")) (A8 B5 (A5 (A6 1) (A5 (A9 C1 (A9 C1 (A9 C1 (A6 2) (dC (.int 1))) (A9 J4 (dC (.int 3)) (A6 3))) (A6 0)) (A5 (dC (.int 26)) A7)))) [‹.int (j : Nat)›,‹scr ns›,‹.int at'›,‹.int k›] = some (.str s) ∧ s.length = 1 ∧ SOk s:=fun j hj=>by
  obtain ⟨d,ed,ld⟩:=D7 ns hn (e:=(at' : Int) + 1 + ((3 * k : Nat) : Int) + (j : Int)) (m':=26) (at' + 1 + 3 * k + j) 26 (by omega) rfl (by omega) (by decide)
  obtain ⟨s,es,ls,ss⟩:=cr8 "abcdefghijklmnopqrstuvwxyz" d ld (by decide)
  refine ⟨s,?_,ls,ss bY8⟩
  wp_walk using evD,aq8,m3,ed,es
 obtain ⟨S,hS⟩:=aZ5 (x:=("" : Str)) P
 have c : C8 1 [0,1,5] (K4 (dC (.int 2))) (C7 0) G1 (aq8 (dC (.str "abcdefghijklmnopqrstuvwxyz")) (A8 B5 (A5 (A6 1) (A5 (A9 C1 (A9 C1 (A9 C1 (A6 2) (dC (.int 1))) (A9 J4 (dC (.int 3)) (A6 3))) (A6 0)) (A5 (dC (.int 26)) A7))))) [‹scr ns›,‹.int at'›,a2,‹.bool b›,some (.own L),‹.int k›,a6] = some ((List.range 2).map fun j=>.str (S j)) :=
  ai8 (l:=List.range 2) (h:=fun j : Nat=>PyData.int j) (r:=[‹scr ns›,‹.int at'›,‹.int k›]) rfl (ak0 (n:=2) rfl (by decide)) (by decide) fun j hj=>(hS j (List.mem_range.mp hj)).1
 refine ⟨Builtin.Str.glued "" [S 0,S 1],?_,(ca7 _ _ (hS 0 (by decide)).2.1 (hS 1 (by decide)).2.1).2,bJ6 (hS 0 (by decide)).2.2 (hS 1 (by decide)).2.2⟩
 have jn:=bV1 (f:=dC (.str "")) (g:=qN (C8 1 [0,1,5] (K4 (dC (.int 2))) (C7 0) G1 (aq8 (dC (.str "abcdefghijklmnopqrstuvwxyz")) (A8 B5 (A5 (A6 1) (A5 (A9 C1 (A9 C1 (A9 C1 (A6 2) (dC (.int 1))) (A9 J4 (dC (.int 3)) (A6 3))) (A6 0)) (A5 (dC (.int 26)) A7))))))) (ρ:=[‹scr ns›,‹.int at'›,a2,‹.bool b›,some (.own L),‹.int k›,a6]) rfl (by unfold qN; rw [c]; rfl) (hS 0 (by decide)).2.1 (hS 1 (by decide)).2.1
 unfold nbA D0
 rw [jn]
 rfl
theorem cm5 (ns : List Int) (hn : ns.length ≤ 63) (at' k : Nat) (ha : at' < 2 ^ 20) (hk : k < 14) (a2 : Option B) (b : Bool) (L : List D) (x : Str) (hx : x.length = 2) (sx : SOk x) : ∃ y : Str,nbB [‹scr ns›,‹.int at'›,a2,‹.bool b›,some (.own L),‹.int k›,‹.str x›] = some (.nx [‹scr ns›,‹.int at'›,a2,‹.bool b›,some (.own L),‹.int k›,‹.str y›]) ∧ y.length ≤ 4 ∧ SOk y:=by
 have m3 : J4 (.int 3) (.int k) = some (.int ((3 * k : Nat) : Int)):=R6 (i:=3) (by decide) (by omega)
 obtain ⟨d,ed,ld⟩:=D7 ns hn (e:=(at' : Int) + 3 + ((3 * k : Nat) : Int)) (m':=3) (at' + 3 + 3 * k) 3 (by omega) rfl (by omega) (by decide)
 obtain ⟨d',ed',ld'⟩:=D7 ns hn (e:=(at' : Int) + 2 + ((3 * k : Nat) : Int)) (m':=2) (at' + 2 + 3 * k) 2 (by omega) rfl (by omega) (by decide)
 obtain ⟨kk,ek,hk'⟩:=cH1 d' ld'
 have sl:=bP1 x none (some (d : Int))
 have rl:=aV7 (slS x none (some (d : Int))) kk hk'
 refine ⟨aA0 (slS x none (some (d : Int))) kk,?_,by omega,bC0 (bP0 sx _ _) kk hk'⟩
 have a1 : bw8 (A6 6) E7 (D1 (A8 B5 (A5 (A6 0) (A5 (A9 C1 (A9 C1 (A6 1) (dC (.int 3))) (A9 J4 (dC (.int 3)) (A6 5))) (A5 (dC (.int 3)) A7))))) [‹scr ns›,‹.int at'›,a2,‹.bool b›,some (.own L),‹.int k›,‹.str x›] = some (.str (slS x none (some (d : Int)))):=by
  have cnd : x.length ≤ 1000 ∧ (slS x none (some (d : Int))).length ≤ 16777216:=⟨by omega,by omega⟩
  wp_walk using evD,bw8,m3,ed,if_pos cnd
 have a2 : dIx (qN (A5 (dC (.int 1)) (A5 (dC (.int 2)) A7))) (A8 B5 (A5 (A6 0) (A5 (A9 C1 (A9 C1 (A6 1) (dC (.int 2))) (A9 J4 (dC (.int 3)) (A6 5))) (A5 (dC (.int 2)) A7)))) [‹scr ns›,‹.int at'›,a2,‹.bool b›,some (.own L),‹.int k›,‹.str x›] = some (.int kk):=by
  wp_walk using evD,m3,ed',ek
 unfold nbB D0
 rw [aB9 a1 a2,bT7 _ kk hk' (by omega)]
 rfl
theorem ifb (b : Bool) (x y : D) : atI [x,y] (if b = true then 1 else 0) = some (if b = true then y else x):=by cases b <;> rfl
theorem cm4 (ns : List Int) (at' k : Nat) (hk : k < 14) (a2 : Option B) (b : Bool) (L : List D) (hL : L.length ≤ 100) (y : Str) (hy : y.length ≤ 4) : nbC [‹scr ns›,‹.int at'›,a2,‹.bool b›,some (.own L),‹.int k›,‹.str y›] = some (.nx [‹scr ns›,‹.int at'›,a2,‹.bool b›,some (.own (L ++ [.str (nmS b k y)])),‹.int k›,‹.str y›]):=by
 have ec:=cm9 k hk
 have lc : (ltr k).length = 1:=rfl
 have c1:=bb8 y (ltr k) (by omega) (by omega)
 have c2:=bb8 (ltr k) y (by omega) (by omega)
 have hl : L.length < 16777216:=by omega
 have e : dIx (qN (A5 (A9 C1 (A6 6) (aq8 (dC (.str "abcdefghijklmn")) (A6 5))) (A5 (A9 C1 (aq8 (dC (.str "abcdefghijklmn")) (A6 5)) (A6 6)) A7))) (Z4 (A6 3)) [‹scr ns›,‹.int at'›,a2,‹.bool b›,some (.own L),‹.int k›,‹.str y›] = some (.str (nmS b k y)):=by
  wp_walk using evD,aq8,ec,c1,c2,ifb
  cases b <;> rfl
 unfold nbC aa3
 simp only [xg0,xg1,if_pos hl,e,xms,xw0,xw1]
theorem bF3 (ns : List Int) (hn : ns.length ≤ 63) (at' many : Nat) (ha : at' < 2 ^ 20) (hm : many ≤ 14) : ∃ L : List D,ac0 [scr ns,.int at',.int many] = some (.list L) ∧ L.length = many ∧ ∃ b : Bool,∀ i,i < many → ∃ y,L[i]? = some (.str (nmS b i y)) ∧ SOk y ∧ y.length ≤ 4:=by
 obtain ⟨d,ed,ld⟩:=D7 ns hn (e:=(at' : Int)) (m':=2) at' 2 rfl rfl (by omega) (by decide)
 obtain ⟨ρ',e,L,a5,a6,hρ,hL,hP⟩:=at5 (g:=C7 5) (f:=aX8) (h:=fun j : Nat=>PyData.int j) (I:=fun i ρ=>∃ (L : List D) (a5 a6 : Option B),ρ = [‹scr ns›,‹.int at'›,‹.int many›,‹.bool ((d : Int) == 0)›,some (.own L),a5,a6] ∧ L.length = i ∧ ∀ n,n < i → ∃ y,L[n]? = some (.str (nmS ((d : Int) == 0) n y)) ∧ SOk y ∧ y.length ≤ 4) (List.range many) 0 [‹scr ns›,‹.int at'›,‹.int many›,‹.bool ((d : Int) == 0)›,some (.own []),none,none] ⟨[],none,none,rfl,rfl,fun n h=>absurd h (Nat.not_lt_zero n)⟩ (fun j a hj ρ hρ=>by
  obtain ⟨L,a5,a6,rfl,hL,hP⟩:=hρ
  obtain ⟨hj1,hj2⟩:=List.getElem?_eq_some_iff.mp hj
  rw [List.length_range] at hj1
  rw [List.getElem_range] at hj2
  subst hj2
  refine ⟨_,rfl,?_⟩
  simp only [xw0,xw1]
  obtain ⟨x,e1,hx,sx⟩:=cm6 ns hn at' j ha (by omega) (‹.int many›) ((d : Int) == 0) L a6
  obtain ⟨y,e2,hy,sy⟩:=cm5 ns hn at' j ha (by omega) (‹.int many›) ((d : Int) == 0) L x hx sx
  have e3:=cm4 ns at' j (by omega) (‹.int many›) ((d : Int) == 0) L (by omega) y hy
  have eb : aX8 [‹scr ns›,‹.int at'›,‹.int many›,‹.bool ((d : Int) == 0)›,some (.own L),‹.int j›,a6] = some (.nx [‹scr ns›,‹.int at'›,‹.int many›,‹.bool ((d : Int) == 0)›,some (.own (L ++ [.str (nmS ((d : Int) == 0) j y)])),‹.int j›,‹.str y›]):=by
   unfold aX8
   rw [B6 e1,B6 e2,e3]
  refine ⟨_,eb,L ++ [.str (nmS ((d : Int) == 0) j y)],_,_,rfl,by rw [List.length_append,hL]; rfl,fun n hn=>?_⟩
  by_cases q : n < 0 + j
  ·obtain ⟨z,e1,e2⟩:=hP n q
   exact ⟨z,by rw [List.getElem?_append_left (by omega)]; exact e1,e2⟩
  ·have : n = L.length:=by omega
   refine ⟨y,?_,sy,hy⟩
   rw [this,List.getElem?_append_right (Nat.le_refl _),Nat.sub_self]
   rw [show L.length = j by omega]
   rfl)
 subst hρ
 rw [List.length_range,Nat.zero_add] at hL hP
 refine ⟨L,?_,hL,_,hP⟩
 refine B2 (ρ:=[‹scr ns›,‹.int at'›,‹.int many›,none,none,none,none]) rfl ?_
 have rn : K4 (A6 2) [‹scr ns›,‹.int at'›,‹.int many›,‹.bool ((d : Int) == 0)›,some (.own []),none,none] = _:=ak0 (n:=many) rfl (by omega)
 have s0 : (D0 3 (A9 eqD (A8 B5 (A5 (A6 0) (A5 (A6 1) (A5 (dC (.int 2)) A7)))) (dC (.int 0)))) [‹scr ns›,‹.int at'›,‹.int many›,none,none,none,none] = some (.nx [‹scr ns›,‹.int at'›,‹.int many›,‹.bool ((d : Int) == 0)›,none,none,none]):=by
  simp only [D0,A9,A8,A5,A7,A6,dC,xbs,xms,xg0,xg1,xw0,xw1,ed,W1]
 have s1 : (r9 4 A7) [‹scr ns›,‹.int at'›,‹.int many›,‹.bool ((d : Int) == 0)›,none,none,none] = some (.nx [‹scr ns›,‹.int at'›,‹.int many›,‹.bool ((d : Int) == 0)›,some (.own []),none,none]):=rfl
 have s2 : (aa2 (K4 (A6 2)) (C7 5) aX8) [‹scr ns›,‹.int at'›,‹.int many›,‹.bool ((d : Int) == 0)›,some (.own []),none,none] = some (.nx [‹scr ns›,‹.int at'›,‹.int many›,‹.bool ((d : Int) == 0)›,some (.own L),a5,a6]):=by
  unfold aa2
  rw [rn]
  exact e
 have s3 : (ax4 4 (B4 (A6 4))) [‹scr ns›,‹.int at'›,‹.int many›,‹.bool ((d : Int) == 0)›,some (.own L),a5,a6] = some (.rt (.list L)):=rfl
 rw [bJ4,B6 s0,B6 s1,B6 s2]
 exact s3
theorem cz7 : ∀ n : Nat,n < 6 → ∃ m : Man,atI ([.str "over", .str "multiply", .str "screen", .str "plus", .str "atop", .str "cut"] : List D) (n : Int) = some (.str m.s)
 | 0,_=>⟨.over,rfl⟩
 | 1,_=>⟨.mult,rfl⟩
 | 2,_=>⟨.screen,rfl⟩
 | 3,_=>⟨.plus,rfl⟩
 | 4,_=>⟨.atop,rfl⟩
 | 5,_=>⟨.cut,rfl⟩
 | n + 6,h=>absurd h (by omega)
theorem cG9 : ∀ n : Nat,n < 4 → ∃ m : Man,atI ([.str "over", .str "multiply", .str "screen", .str "plus"] : List D) (n : Int) = some (.str m.s)
 | 0,_=>⟨.over,rfl⟩
 | 1,_=>⟨.mult,rfl⟩
 | 2,_=>⟨.screen,rfl⟩
 | 3,_=>⟨.plus,rfl⟩
 | n + 4,h=>absurd h (by omega)
theorem cz8 (m : Man) : ∀ n : Nat,n < 4 → ∃ m' : Man,atI ([.str m.s,.str "atop", .str m.s,.str "cut"] : List D) (n : Int) = some (.str m'.s)
 | 0,_=>⟨m,rfl⟩
 | 1,_=>⟨.atop,rfl⟩
 | 2,_=>⟨m,rfl⟩
 | 3,_=>⟨.cut,rfl⟩
 | n + 4,h=>absurd h (by omega)
theorem cF9 : ∀ n : Nat,n < 3 → ∃ r : Rul,atI ([.str "turn", .str "grey", .str "round"] : List D) (n : Int) = some (.str r.s)
 | 0,_=>⟨.turn,rfl⟩
 | 1,_=>⟨.grey,rfl⟩
 | 2,_=>⟨.round,rfl⟩
 | n + 3,h=>absurd h (by omega)
theorem bq1 (n : Nat) : ((n : Int) == 0) = decide (n = 0):=by
 cases n with
 | zero=>rfl
 | succ n=>rw [decide_eq_false (by omega)]; exact beq_eq_false_iff_ne.mpr (by omega)
theorem bO0 (n : Nat) : (decide ((0 : Int) < (n : Int))) = decide (0 < n):=by
 cases n with
 | zero=>rfl
 | succ n=>rw [decide_eq_true (by omega),decide_eq_true (by omega)]
theorem ad1 (n : Nat) : (1 : Int) + (n : Int) = ((1 + n : Nat) : Int):=by omega
def Nd.nm : Nd → D
 | .layer nm ..=>nm
 | .tone nm ..=>nm
 | .group nm ..=>nm
mutual
def Nd.near : Nd → Prop
 | .layer _ _ _ _ lf tp _ w h l kb=>-2 ≤ lf ∧ lf ≤ 2 ∧ -2 ≤ tp ∧ tp ≤ 2 ∧ kb ≤ 40 ∧ w ≤ 3 ∧ h ≤ 3 ∧ ∀ q ∈ l,q.ok 8
 | .tone ..=>True
 | .group _ _ _ _ ns=>Nd.nears ns
def Nd.nears : List Nd → Prop
 | []=>True
 | n :: r=>n.near ∧ Nd.nears r
end
theorem S8 : ∀ l : List Nd,Nd.nears l ↔ ∀ n ∈ l,n.near
 | []=>by simp [Nd.nears]
 | n :: r=>by simp [Nd.nears,S8 r]
theorem bo1 (ns : List Int) (hn : ns.length ≤ 63) (at' : Nat) (ha : at' < 2 ^ 19) (nm : D) (m : Man) : ∃ n : Nd,T9 [scr ns,.int at',nm,.str m.s] = some n.d ∧ n.Ok ∧ n.dp = 0 ∧ n.wg ≤ 40 ∧ n.nm = nm ∧ n.near:=by
 obtain ⟨s,es,hs⟩:=am7 ns at' hn (by omega)
 have es : L0 [scr ns,.int at'] = some (fr s):=es
 obtain ⟨d3,e3,l3⟩:=D7 ns hn (e:=(at' : Int) + 3) (m':=6) (at' + 3) 6 (by omega) rfl (by omega) (by decide)
 obtain ⟨d4,e4,l4⟩:=D7 ns hn (e:=(at' : Int) + 4) (m':=6) (at' + 4) 6 (by omega) rfl (by omega) (by decide)
 obtain ⟨d6,e6,l6⟩:=D7 ns hn (e:=(at' : Int) + 6) (m':=3) (at' + 6) 3 (by omega) rfl (by omega) (by decide)
 obtain ⟨d7,e7,l7⟩:=D7 ns hn (e:=(at' : Int) + 7) (m':=3) (at' + 7) 3 (by omega) rfl (by omega) (by decide)
 obtain ⟨d8,e8,l8⟩:=D7 ns hn (e:=(at' : Int) + 8) (m':=3) (at' + 8) 3 (by omega) rfl (by omega) (by decide)
 obtain ⟨d9,e9,l9⟩:=D7 ns hn (e:=(at' : Int) + 9) (m':=3) (at' + 9) 3 (by omega) rfl (by omega) (by decide)
 obtain ⟨d10,e10,l10⟩:=D7 ns hn (e:=(at' : Int) + 10) (m':=4) (at' + 10) 4 (by omega) rfl (by omega) (by decide)
 obtain ⟨d11,e11,l11⟩:=D7 ns hn (e:=(at' : Int) + 11) (m':=4) (at' + 11) 4 (by omega) rfl (by omega) (by decide)
 obtain ⟨d12,e12,l12⟩:=D7 ns hn (e:=(at' : Int) + 12) (m':=3) (at' + 12) 3 (by omega) rfl (by omega) (by decide)
 obtain ⟨d5,e5,l5⟩:=D7 ns hn (e:=(at' : Int) + 5) (m':=3) (at' + 5) 3 (by omega) rfl (by omega) (by decide)
 obtain ⟨d5',e5',l5'⟩:=D7 ns hn (e:=(at' : Int) + 5) (m':=6) (at' + 5) 6 (by omega) rfl (by omega) (by decide)
 have s0 : ah2 [‹scr ns›,‹.int at'›,some (.val nm),‹.str m.s›,none,none,none,none,none,none,none,none,none] = some (.nx [‹scr ns›,‹.int at'›,some (.val nm),‹.str m.s›,‹fr s›,none,none,none,none,none,none,none,none]):=by
  wp_walk using evD,ah2,es
 have s1 : ah1 [‹scr ns›,‹.int at'›,some (.val nm),‹.str m.s›,‹fr s›,none,none,none,none,none,none,none,none] = some (.nx [‹scr ns›,‹.int at'›,some (.val nm),‹.str m.s›,‹fr s›,‹.bool (decide (0 < d3))›,none,none,none,none,none,none,none]):=by
  wp_walk using evD,ah1,e3,bO0
 by_cases t4 : d4 = 0
 ·obtain ⟨r,er⟩:=cF9 d5 l5
  refine ⟨.tone nm r s (decide (0 < d3)),?_,bm2 hs,rfl,by show 6 ≤ 40; decide,rfl,by rw [Nd.near]; trivial⟩
  have s2 : X5 [‹scr ns›,‹.int at'›,some (.val nm),‹.str m.s›,‹fr s›,‹.bool (decide (0 < d3))›,none,none,none,none,none,none,none] = some (.rt (.tuple [.str "tone", nm,.str r.s,fr s,.bool (decide (0 < d3))])):=by
   wp_walk using evD,X5,e4,bq1,decide_eq_true t4,e5,er
  refine B2 (ρ:=[‹scr ns›,‹.int at'›,some (.val nm),‹.str m.s›,none,none,none,none,none,none,none,none,none]) rfl ?_
  unfold aH4
  rw [B6 s0,B6 s1,k8 s2,Nd.d]
 have s2 : X5 [‹scr ns›,‹.int at'›,some (.val nm),‹.str m.s›,‹fr s›,‹.bool (decide (0 < d3))›,none,none,none,none,none,none,none] = some (.nx [‹scr ns›,‹.int at'›,some (.val nm),‹.str m.s›,‹fr s›,‹.bool (decide (0 < d3))›,none,none,none,none,none,none,none]):=by
  wp_walk using evD,X5,e4,bq1,decide_eq_false t4
 obtain ⟨m0,em0⟩:=cz7 d5' l5'
 have s3 : ah0 [‹scr ns›,‹.int at'›,some (.val nm),‹.str m.s›,‹fr s›,‹.bool (decide (0 < d3))›,none,none,none,none,none,none,none] = some (.nx [‹scr ns›,‹.int at'›,some (.val nm),‹.str m.s›,‹fr s›,‹.bool (decide (0 < d3))›,‹.str m0.s›,none,none,none,none,none,none]):=by
  wp_walk using evD,ah0,e5',em0
 obtain ⟨m1,s4⟩ : ∃ m1 : Man,u6 [‹scr ns›,‹.int at'›,some (.val nm),‹.str m.s›,‹fr s›,‹.bool (decide (0 < d3))›,‹.str m0.s›,none,none,none,none,none,none] = some (.nx [‹scr ns›,‹.int at'›,some (.val nm),‹.str m.s›,‹fr s›,‹.bool (decide (0 < d3))›,‹.str m1.s›,none,none,none,none,none,none]):=by
  by_cases t6 : 0 < d6
  ·exact ⟨m,by wp_walk using evD,u6,e6,bO0,decide_eq_true t6⟩
  ·exact ⟨m0,by wp_walk using evD,u6,e6,bO0,decide_eq_false t6⟩
 have s5 : ag9 [‹scr ns›,‹.int at'›,some (.val nm),‹.str m.s›,‹fr s›,‹.bool (decide (0 < d3))›,‹.str m1.s›,none,none,none,none,none,none] = some (.nx [‹scr ns›,‹.int at'›,some (.val nm),‹.str m.s›,‹fr s›,‹.bool (decide (0 < d3))›,‹.str m1.s›,‹.int ((1 + d7 : Nat) : Int)›,none,none,none,none,none]):=by
  wp_walk using evD,ag9,e7,ad1
 have s6 : ag8 [‹scr ns›,‹.int at'›,some (.val nm),‹.str m.s›,‹fr s›,‹.bool (decide (0 < d3))›,‹.str m1.s›,‹.int ((1 + d7 : Nat) : Int)›,none,none,none,none,none] = some (.nx [‹scr ns›,‹.int at'›,some (.val nm),‹.str m.s›,‹fr s›,‹.bool (decide (0 < d3))›,‹.str m1.s›,‹.int ((1 + d7 : Nat) : Int)›,‹.int ((1 + d8 : Nat) : Int)›,none,none,none,none]):=by
  wp_walk using evD,ag8,e8,ad1
 have s7 : ag7 [‹scr ns›,‹.int at'›,some (.val nm),‹.str m.s›,‹fr s›,‹.bool (decide (0 < d3))›,‹.str m1.s›,‹.int ((1 + d7 : Nat) : Int)›,‹.int ((1 + d8 : Nat) : Int)›,none,none,none,none] = some (.nx [‹scr ns›,‹.int at'›,some (.val nm),‹.str m.s›,‹fr s›,‹.bool (decide (0 < d3))›,‹.str m1.s›,‹.int ((1 + d7 : Nat) : Int)›,‹.int ((1 + d8 : Nat) : Int)›,some (.val .none),none,none,none]):=by
  wp_walk using evD,ag7
 have wh : (1 + d7) * (1 + d8) ≤ 9:=Nat.mul_le_mul (show 1 + d7 ≤ 3 by omega) (show 1 + d8 ≤ 3 by omega)
 have mwh : J4 (.int ((1 + d7 : Nat) : Int)) (.int ((1 + d8 : Nat) : Int)) = some (.int (((1 + d7) * (1 + d8) : Nat) : Int)):=R6 (by omega) (by omega)
 obtain ⟨mk,s8,hmk⟩ : ∃ mk : Option (List Rat),u5 [‹scr ns›,‹.int at'›,some (.val nm),‹.str m.s›,‹fr s›,‹.bool (decide (0 < d3))›,‹.str m1.s›,‹.int ((1 + d7 : Nat) : Int)›,‹.int ((1 + d8 : Nat) : Int)›,some (.val .none),none,none,none] = some (.nx [‹scr ns›,‹.int at'›,some (.val nm),‹.str m.s›,‹fr s›,‹.bool (decide (0 < d3))›,‹.str m1.s›,‹.int ((1 + d7 : Nat) : Int)›,‹.int ((1 + d8 : Nat) : Int)›,‹mkD mk›,none,none,none]) ∧ ∀ ms,mk = some ms → ms.length = (1 + d7) * (1 + d8) ∧ ∀ r ∈ ms,Sr 4 r:=by
  by_cases t9 : d9 = 0
  ·have P : ∀ j,j < 9 → ∃ r : Rat,L0 [scr ns,.int ((at' : Int) + 20 + ((3 * j : Nat) : Int))] = some (fr r) ∧ IsSh 4 r:=fun j hj=>aD2 ns hn (at' + 20 + 3 * j) (by omega) (by omega)
   obtain ⟨R,hR⟩:=aZ5 (x:=(0 : Rat)) P
   have c : C8 1 [0,1] (K4 (A9 J4 (A6 7) (A6 8))) (C7 0) G1 (A8 L0 (A5 (A6 1) (A5 (A9 C1 (A9 C1 (A6 2) (dC (.int 20))) (A9 J4 (dC (.int 3)) (A6 0))) A7))) [‹scr ns›,‹.int at'›,some (.val nm),‹.str m.s›,‹fr s›,‹.bool (decide (0 < d3))›,‹.str m1.s›,‹.int ((1 + d7 : Nat) : Int)›,‹.int ((1 + d8 : Nat) : Int)›,some (.val .none),none,none,none] = some ((List.range ((1 + d7) * (1 + d8))).map fun j=>fr (R j)):=by
    refine ai8 (l:=List.range ((1 + d7) * (1 + d8))) (h:=fun j : Nat=>PyData.int j) (r:=[‹scr ns›,‹.int at'›]) rfl (ak0 ((aB9 rfl rfl).trans mwh) (by omega)) (by rw [List.length_range]; omega) fun j hj=>?_
    have hj:=List.mem_range.mp hj
    have m3 : J4 (.int 3) (.int j) = some (.int ((3 * j : Nat) : Int)):=R6 (i:=3) (by decide) (by omega)
    wp_walk using evD,m3,(hR j (by omega)).1
   refine ⟨some ((List.range ((1 + d7) * (1 + d8))).map R),?_,fun ms e=>?_⟩
   ·simp only [u5,sIf,tB2,D0,N9,qN,c,A9,A8,A5,A7,A6,dC,aj4,e9,W1,bq1,decide_eq_true t9,B8,xbs,xms,xg0,xg1,xw0,xw1,if_true,xft,if_false,mkD,List.map_map]
    rfl
   ·cases e
    refine ⟨by rw [List.length_map,List.length_range],fun r hr=>?_⟩
    obtain ⟨j,hj,rfl⟩:=List.mem_map.mp hr
    exact bm2 (hR j (by have:=List.mem_range.mp hj; omega)).2
  ·exact ⟨none,by (wp_walk using evD,u5,e9,bq1,decide_eq_false t9,mkD),fun ms e=>by cases e⟩
 have s9 : ag6 [‹scr ns›,‹.int at'›,some (.val nm),‹.str m.s›,‹fr s›,‹.bool (decide (0 < d3))›,‹.str m1.s›,‹.int ((1 + d7 : Nat) : Int)›,‹.int ((1 + d8 : Nat) : Int)›,‹mkD mk›,none,none,none] = some (.nx [‹scr ns›,‹.int at'›,some (.val nm),‹.str m.s›,‹fr s›,‹.bool (decide (0 < d3))›,‹.str m1.s›,‹.int ((1 + d7 : Nat) : Int)›,‹.int ((1 + d8 : Nat) : Int)›,‹mkD mk›,‹.int ((d10 : Int) - 1)›,none,none]):=by
  wp_walk using evD,ag6,e10
 have s10 : ac5 [‹scr ns›,‹.int at'›,some (.val nm),‹.str m.s›,‹fr s›,‹.bool (decide (0 < d3))›,‹.str m1.s›,‹.int ((1 + d7 : Nat) : Int)›,‹.int ((1 + d8 : Nat) : Int)›,‹mkD mk›,‹.int ((d10 : Int) - 1)›,none,none] = some (.nx [‹scr ns›,‹.int at'›,some (.val nm),‹.str m.s›,‹fr s›,‹.bool (decide (0 < d3))›,‹.str m1.s›,‹.int ((1 + d7 : Nat) : Int)›,‹.int ((1 + d8 : Nat) : Int)›,‹mkD mk›,‹.int ((d10 : Int) - 1)›,‹.int ((d11 : Int) - 1)›,none]):=by
  wp_walk using evD,ac5,e11
 obtain ⟨w,h,lf,tp,mk',s11,hw,hh,hmk',hof⟩ : ∃ (w h : Nat) (lf tp : Int) (mk' : Option (List Rat)),Z6 [‹scr ns›,‹.int at'›,some (.val nm),‹.str m.s›,‹fr s›,‹.bool (decide (0 < d3))›,‹.str m1.s›,‹.int ((1 + d7 : Nat) : Int)›,‹.int ((1 + d8 : Nat) : Int)›,‹mkD mk›,‹.int ((d10 : Int) - 1)›,‹.int ((d11 : Int) - 1)›,none] = some (.nx [‹scr ns›,‹.int at'›,some (.val nm),‹.str m.s›,‹fr s›,‹.bool (decide (0 < d3))›,‹.str m1.s›,‹.int (w : Nat)›,‹.int (h : Nat)›,‹mkD mk'›,‹.int lf›,‹.int tp›,none]) ∧ (1 ≤ w ∧ w ≤ 3) ∧ (1 ≤ h ∧ h ≤ 3) ∧ (∀ ms,mk' = some ms → ms.length = w * h ∧ ∀ r ∈ ms,Sr 4 r) ∧ (-2 ≤ lf ∧ lf ≤ 2 ∧ -2 ≤ tp ∧ tp ≤ 2):=by
  by_cases t12 : d12 = 0
  ·refine ⟨3,3,0,0,none,?_,by decide,by decide,(fun ms e=>by cases e),by decide⟩
   have l5 : ∀ a b c d e : D,([a,b,c,d,e] : List D).length = 5:=fun _ _ _ _ _=>rfl
   wp_walk using evD,Z6,e12,bq1,decide_eq_true t12,l5,mkD
   rfl
  ·exact ⟨1 + d7,1 + d8,(d10 : Int) - 1,(d11 : Int) - 1,mk,by (wp_walk using evD,Z6,e12,bq1,decide_eq_false t12),by omega,by omega,hmk,by omega⟩
 obtain ⟨l,el,S⟩:=bB3 ns hn (e:=(at' : Int) + 50) (at' + 50) w h (by omega) (by omega) hw.1 (by omega) hh.1 (by omega)
 have s12 : ac4 [‹scr ns›,‹.int at'›,some (.val nm),‹.str m.s›,‹fr s›,‹.bool (decide (0 < d3))›,‹.str m1.s›,‹.int (w : Nat)›,‹.int (h : Nat)›,‹mkD mk'›,‹.int lf›,‹.int tp›,none] = some (.nx [‹scr ns›,‹.int at'›,some (.val nm),‹.str m.s›,‹fr s›,‹.bool (decide (0 < d3))›,‹.str m1.s›,‹.int (w : Nat)›,‹.int (h : Nat)›,‹mkD mk'›,‹.int lf›,‹.int tp›,‹shD w h l›]):=by
  wp_walk using evD,ac4,el
 refine ⟨.layer nm m1 s (decide (0 < d3)) lf tp mk' w h l 32,?_,?_,rfl,Nat.le_refl _,rfl,by rw [Nd.near]; exact ⟨hof.1,hof.2.1,hof.2.2.1,hof.2.2.2,by decide,by omega,by omega,S.ok⟩⟩
 ·have s13 : ac3 [‹scr ns›,‹.int at'›,some (.val nm),‹.str m.s›,‹fr s›,‹.bool (decide (0 < d3))›,‹.str m1.s›,‹.int (w : Nat)›,‹.int (h : Nat)›,‹mkD mk'›,‹.int lf›,‹.int tp›,‹shD w h l›] = some (.rt (.tuple [.str "layer", nm,.str m1.s,fr s,.bool (decide (0 < d3)),.int lf,.int tp,mkD mk',shD w h l])):=by
   wp_walk using evD,ac3
  refine B2 (ρ:=[‹scr ns›,‹.int at'›,some (.val nm),‹.str m.s›,none,none,none,none,none,none,none,none,none]) rfl ?_
  unfold aH4
  rw [B6 s0,B6 s1,B6 s2,B6 s3,B6 s4,B6 s5,B6 s6,B6 s7,B6 s8,B6 s9,B6 s10,B6 s11,B6 s12,s13,Nd.d]
 ·rw [Nd.Ok]
  exact ⟨bm2 hs,⟨S.w1,S.w8,S.h1,S.h8,S.len,fun q hq=>(S.ok q hq).mono (by decide)⟩,fun q hq=>cC2 (S.ok q hq),hmk',by decide⟩
end Sh
namespace Sh
open PySem G L2
theorem R7 : ∀ l : List Nd,Nd.ds l = l.map Nd.d
 | []=>by rw [Nd.ds]; rfl
 | n :: r=>by rw [Nd.ds,R7 r]; rfl
theorem c7 : ∀ l : List Nd,Nd.Oks l ↔ ∀ n ∈ l,n.Ok
 | []=>by simp [Nd.Oks]
 | n :: r=>by simp [Nd.Oks,c7 r]
theorem as0 : ∀ a b : List Nd,Nd.wgs (a ++ b) = Nd.wgs a + Nd.wgs b
 | [],b=>by simp [Nd.wgs]
 | n :: a,b=>by rw [xca,Nd.wgs,Nd.wgs,as0 a b]; omega
theorem ak3 : ∀ a b : List Nd,Nd.dps (a ++ b) = max (Nd.dps a) (Nd.dps b)
 | [],b=>by simp [Nd.dps]
 | n :: a,b=>by rw [xca,Nd.dps,Nd.dps,ak3 a b]; omega
theorem bA3 : ∀ l : List Nd,(∀ n ∈ l,n.wg ≤ 40) → Nd.wgs l ≤ 40 * l.length
 | [],_=>by simp [Nd.wgs]
 | n :: l,h=>by
  have a:=h n (List.mem_cons_self ..)
  have b:=bA3 l fun m hm=>h m (List.mem_cons_of_mem _ hm)
  rw [Nd.wgs,List.length_cons]; omega
theorem ba9 : ∀ l : List Nd,(∀ n ∈ l,n.dp = 0) → Nd.dps l = 0
 | [],_=>by simp [Nd.dps]
 | n :: l,h=>by
  have a:=h n (List.mem_cons_self ..)
  have b:=ba9 l fun m hm=>h m (List.mem_cons_of_mem _ hm)
  rw [Nd.dps]; omega
mutual
def Nd.nms : Nd → List D
 | .layer nm _ _ _ _ _ _ _ _ _ _=>[nm]
 | .tone nm _ _ _=>[nm]
 | .group nm _ _ _ ns=>nm :: Nd.nmss ns
def Nd.nmss : List Nd → List D
 | []=>[]
 | n :: r=>n.nms ++ Nd.nmss r
end
theorem T7 : ∀ a b : List Nd,Nd.nmss (a ++ b) = Nd.nmss a ++ Nd.nmss b
 | [],b=>by simp [Nd.nmss]
 | n :: a,b=>by rw [xca,Nd.nmss,Nd.nmss,T7 a b,List.append_assoc]
mutual
def Nd.thin : Nd → Prop
 | .layer ..=>True
 | .tone ..=>True
 | .group _ _ _ _ ns=>ns.length ≤ 1000 ∧ Nd.thins ns
def Nd.thins : List Nd → Prop
 | []=>True
 | n :: r=>n.thin ∧ Nd.thins r
end
theorem aa5 : ∀ l : List Nd,Nd.thins l ↔ ∀ n ∈ l,n.thin
 | []=>by simp [Nd.thins]
 | n :: r=>by simp [Nd.thins,aa5 r]
def aA4 (l : List Nd) (a c : Nat) (g : List Nd → Nd) : List Nd:=l.take a ++ [g ((l.drop a).take (c - a))] ++ l.drop c
theorem ci2 (l : List Nd) {a c : Nat} (h : a ≤ c) : l.take a ++ (l.drop a).take (c - a) ++ l.drop c = l:=by
 have e : l.drop c = (l.drop a).drop (c - a):=by rw [List.drop_drop]; congr 1; omega
 rw [e,List.append_assoc,List.take_append_drop,List.take_append_drop]
theorem bX8 {ds : List D} {a b : Nat} (ha : a ≤ ds.length) : L6 ds (some (a : Int)) (some (b : Int)) = (ds.drop a).take (min b ds.length - a) ∧ ∀ es : List D,aC9 ds (some (a : Int)) (some (b : Int)) es = ds.take a ++ es ++ ds.drop (max a (min b ds.length)):=by
 have h1 : HT.sIx ds.length 0 (some (a : Int)) = a:=by rw [HT.sIx_nat]; omega
 have h2 : HT.sIx ds.length ds.length (some (b : Int)) = min b ds.length:=HT.sIx_nat ..
 refine ⟨?_,fun es=>?_⟩
 ·unfold L6; rw [h1,h2]
 ·unfold aC9; rw [h1,h2]
theorem bK2 (ns : List Int) (hn : ns.length ≤ 63) (at' most k : Nat) (ha : at' < 2 ^ 18) (hk : k < 2) (hmost : most ≤ 6) (N : List D) (hN : most + 2 ≤ N.length) (m : Man) (l : List Nd) (hl : l.length ≤ 100) (a5 a8 a9 a10 a11 a12 : Option B) :
  ∃ (a c : Nat) (nm : D) (m' : Man) (s : Rat) (sh : Bool) (b8 b9 b10 b11 b12 : Option B),bo8 [‹scr ns›,‹.int at'›,‹.int most›,‹.list N›,‹.str m.s›,a5,some (.own (Nd.ds l)),‹.int k›,a8,a9,a10,a11,a12] = some (.nx [‹scr ns›,‹.int at'›,‹.int most›,‹.list N›,‹.str m.s›,a5,some (.own (Nd.ds (aA4 l a c (Nd.group nm m' s sh)))),‹.int k›,b8,b9,b10,b11,b12]) ∧ a ≤ c ∧ c ≤ l.length ∧ IsSh 4 s ∧ nm = N.getD (most + k) .none:=by
 have m5 : J4 (.int 5) (.int k) = some (.int ((5 * k : Nat) : Int)):=R6 (i:=5) (by decide) (by omega)
 have hds : (Nd.ds l).length = l.length:=by rw [R7,List.length_map]
 obtain ⟨f,ef,lf⟩:=D7 ns hn (e:=(at' : Int) + 3 + ((5 * k : Nat) : Int)) (m':=(((Nd.ds l).length : Nat) : Int) + 1) (at' + 3 + 5 * k) (l.length + 1) (by omega) (by rw [hds]; omega) (by omega) (by omega)
 obtain ⟨d,ed,ld⟩:=D7 ns hn (e:=(at' : Int) + 4 + ((5 * k : Nat) : Int)) (m':=3) (at' + 4 + 5 * k) 3 (by omega) rfl (by omega) (by decide)
 obtain ⟨s0,es0,hs0⟩:=aD2 ns hn (e:=(at' : Int) + 5 + ((5 * k : Nat) : Int)) (at' + 5 + 5 * k) (by omega) (by omega)
 obtain ⟨d6,e6,l6⟩:=D7 ns hn (e:=(at' : Int) + 6 + ((5 * k : Nat) : Int)) (m':=2) (at' + 6 + 5 * k) 2 (by omega) rfl (by omega) (by decide)
 obtain ⟨d7,e7,l7⟩:=D7 ns hn (e:=(at' : Int) + 7 + ((5 * k : Nat) : Int)) (m':=4) (at' + 7 + 5 * k) 4 (by omega) rfl (by omega) (by decide)
 obtain ⟨d14,e14,l14⟩:=D7 ns hn (e:=(at' : Int) + 14 + (k : Int)) (m':=7) (at' + 14 + k) 7 (by omega) rfl (by omega) (by decide)
 obtain ⟨m',em'⟩:=cz8 m d7 l7
 obtain ⟨s,est,hs⟩ : ∃ s : Rat,atI ([.tuple [.int 1,.int 1],fr s0] : List D) (d6 : Int) = some (fr s) ∧ IsSh 4 s:=by
  rcases (show d6 = 0 ∨ d6 = 1 by omega) with rfl | rfl
  ·exact ⟨1,rfl,Bd.one.mono (by decide),Rat.le_refl⟩
  ·exact ⟨s0,rfl,hs0⟩
 obtain ⟨nm,enm,hnm⟩ : ∃ nm,atI N ((most : Int) + (k : Int)) = some nm ∧ nm = N.getD (most + k) .none:=by
  unfold atI
  rw [bh5 (by omega) (by omega),xbs]
  have h' : ((most : Int) + (k : Int)).toNat = most + k:=by omega
  rw [h']
  exact ⟨N[most + k]'(by omega),List.getElem?_eq_getElem (by omega),by rw [List.getD_eq_getElem?_getD,List.getElem?_eq_getElem (by omega)]; rfl⟩
 refine ⟨f,max f (min (f + d) l.length),nm,m',s,decide (0 < d14),?_⟩
 have s0 : gb0 [‹scr ns›,‹.int at'›,‹.int most›,‹.list N›,‹.str m.s›,a5,some (.own (Nd.ds l)),‹.int k›,a8,a9,a10,a11,a12] = some (.nx [‹scr ns›,‹.int at'›,‹.int most›,‹.list N›,‹.str m.s›,a5,some (.own (Nd.ds l)),‹.int k›,‹.int f›,a9,a10,a11,a12]):=by
  wp_walk using evD,gb0,m5,ef
 have fd : (f : Int) + (d : Int) = ((f + d : Nat) : Int):=by omega
 have s1 : gb1 [‹scr ns›,‹.int at'›,‹.int most›,‹.list N›,‹.str m.s›,a5,some (.own (Nd.ds l)),‹.int k›,‹.int f›,a9,a10,a11,a12] = some (.nx [‹scr ns›,‹.int at'›,‹.int most›,‹.list N›,‹.str m.s›,a5,some (.own (Nd.ds l)),‹.int k›,‹.int f›,‹.int ((f + d : Nat) : Int)›,a10,a11,a12]):=by
  wp_walk using evD,gb1,m5,ed,fd
 have s2 : gb2 [‹scr ns›,‹.int at'›,‹.int most›,‹.list N›,‹.str m.s›,a5,some (.own (Nd.ds l)),‹.int k›,‹.int f›,‹.int ((f + d : Nat) : Int)›,a10,a11,a12] = some (.nx [‹scr ns›,‹.int at'›,‹.int most›,‹.list N›,‹.str m.s›,a5,some (.own (Nd.ds l)),‹.int k›,‹.int f›,‹.int ((f + d : Nat) : Int)›,‹fr s›,a11,a12]):=by
  wp_walk using evD,gb2,m5,es0,e6,est
 have s3 : gb3 [‹scr ns›,‹.int at'›,‹.int most›,‹.list N›,‹.str m.s›,a5,some (.own (Nd.ds l)),‹.int k›,‹.int f›,‹.int ((f + d : Nat) : Int)›,‹fr s›,a11,a12] = some (.nx [‹scr ns›,‹.int at'›,‹.int most›,‹.list N›,‹.str m.s›,a5,some (.own (Nd.ds l)),‹.int k›,‹.int f›,‹.int ((f + d : Nat) : Int)›,‹fr s›,‹.str m'.s›,a12]):=by
  wp_walk using evD,gb3,m5,e7,em'
 have s4 : gb4 [‹scr ns›,‹.int at'›,‹.int most›,‹.list N›,‹.str m.s›,a5,some (.own (Nd.ds l)),‹.int k›,‹.int f›,‹.int ((f + d : Nat) : Int)›,‹fr s›,‹.str m'.s›,a12] = some (.nx [‹scr ns›,‹.int at'›,‹.int most›,‹.list N›,‹.str m.s›,a5,some (.own (Nd.ds l)),‹.int k›,‹.int f›,‹.int ((f + d : Nat) : Int)›,‹fr s›,‹.str m'.s›,‹.tuple [.str "group", nm,.str m'.s,fr s,.bool (decide (0 < d14))]›]):=by
  wp_walk using evD,gb4,enm,e14,bO0
 obtain ⟨q1,q2⟩:=bX8 (ds:=Nd.ds l) (a:=f) (b:=f + d) (by omega)
 have mid : ((Nd.ds l).drop f).take (min (f + d) (Nd.ds l).length - f) = Nd.ds ((l.drop f).take (max f (min (f + d) l.length) - f)):=by
  rw [hds,R7,R7,← List.map_drop,← List.map_take]
  congr 2; omega
 have s5 : gb5 [‹scr ns›,‹.int at'›,‹.int most›,‹.list N›,‹.str m.s›,a5,some (.own (Nd.ds l)),‹.int k›,‹.int f›,‹.int ((f + d : Nat) : Int)›,‹fr s›,‹.str m'.s›,‹.tuple [.str "group", nm,.str m'.s,fr s,.bool (decide (0 < d14))]›] = some (.nx [‹scr ns›,‹.int at'›,‹.int most›,‹.list N›,‹.str m.s›,a5,some (.own (Nd.ds (aA4 l f (max f (min (f + d) l.length)) (Nd.group nm m' s (decide (0 < d14)))))),‹.int k›,‹.int f›,‹.int ((f + d : Nat) : Int)›,‹fr s›,‹.str m'.s›,‹.tuple [.str "group", nm,.str m'.s,fr s,.bool (decide (0 < d14))]›]):=by
  have x1 : bw9 (B0 6) (D1 (A6 8)) (D1 (A6 9)) [‹scr ns›,‹.int at'›,‹.int most›,‹.list N›,‹.str m.s›,a5,some (.own (Nd.ds l)),‹.int k›,‹.int f›,‹.int ((f + d : Nat) : Int)›,‹fr s›,‹.str m'.s›,‹.tuple [.str "group", nm,.str m'.s,fr s,.bool (decide (0 < d14))]›] = some (.list (Nd.ds ((l.drop f).take (max f (min (f + d) l.length) - f)))):=by
   rw [← mid,← q1]; rfl
  have x2 : (A5 (A9 C1 (A6 12) (D2 (A5 (N9 (qE (bw9 (B0 6) (D1 (A6 8)) (D1 (A6 9))))) A7))) A7) [‹scr ns›,‹.int at'›,‹.int most›,‹.list N›,‹.str m.s›,a5,some (.own (Nd.ds l)),‹.int k›,‹.int f›,‹.int ((f + d : Nat) : Int)›,‹fr s›,‹.str m'.s›,‹.tuple [.str "group", nm,.str m'.s,fr s,.bool (decide (0 < d14))]›] = some [Nd.d (Nd.group nm m' s (decide (0 < d14)) ((l.drop f).take (max f (min (f + d) l.length) - f)))]:=by
   have cc : ∀ a b c d e g : D,C1 (.tuple [a,b,c,d,e]) (.tuple [g]) = some (.tuple [a,b,c,d,e,g]):=fun _ _ _ _ _ _=>rfl
   simp only [A5,A7,A9,D2,N9,qE,x1,k9,A6,xbs,xms,xg0,xg1,xft,if_false,cc,Nd.d]
  have sz : (Nd.ds l).length + 1 ≤ 16777216:=by omega
  have fin : aC9 (Nd.ds l) (some (f : Int)) (some ((f + d : Nat) : Int)) [Nd.d (Nd.group nm m' s (decide (0 < d14)) ((l.drop f).take (max f (min (f + d) l.length) - f)))] = Nd.ds (aA4 l f (max f (min (f + d) l.length)) (Nd.group nm m' s (decide (0 < d14)))):=by
   rw [q2,hds]
   unfold aA4
   rw [R7,R7,List.map_append,List.map_append,List.map_take,List.map_drop]
   rfl
  rw [← fin]
  unfold gb5 bB5
  rw [x2,xbs]
  show (if (Nd.ds l).length + 1 ≤ 16777216 then some (Fl.nx _) else none) = _
  rw [if_pos sz]
  rfl
 refine ⟨‹.int f›,‹.int ((f + d : Nat) : Int)›,‹fr s›,‹.str m'.s›,‹.tuple [.str "group", nm,.str m'.s,fr s,.bool (decide (0 < d14))]›,?_,by omega,by omega,hs,hnm⟩
 unfold bo8
 rw [B6 s0,B6 s1,B6 s2,B6 s3,B6 s4,s5]
structure NOk (N : List D) (i : Nat) (most : Nat) (l : List Nd) : Prop where
 ok : Nd.Oks l
 wg : Nd.wgs l ≤ 40 * most + 5 * i
 dp : Nd.dps l ≤ i
 len : l.length ≤ most + i
 th : Nd.thins l
 nr : Nd.nears l
 ix : ∃ is : List Nat,Nd.nmss l = is.map (fun j=>N.getD j .none) ∧ is.Nodup ∧ ∀ j ∈ is,j < most + i
theorem NOk.grp {N : List D} {i most : Nat} {l : List Nd} (h : NOk N i most l) {a c : Nat} {nm : D} {m : Man} {s : Rat} {sh : Bool} (ac : a ≤ c) (hs : IsSh 4 s) (hnm : nm = N.getD (most + i) .none) (h100 : l.length ≤ 100) : NOk N (i + 1) most (aA4 l a c (Nd.group nm m s sh)):=by
 have e:=ci2 l ac
 have w1:=congrArg Nd.wgs e
 have w2:=congrArg Nd.dps e
 rw [as0,as0] at w1
 rw [ak3,ak3] at w2
 have hw:=h.wg
 have hd:=h.dp
 refine ⟨?_,?_,?_,?_,?_,?_,?_⟩
 ·rw [c7]
  have ok:=(c7 l).mp h.ok
  intro n hn
  unfold aA4 at hn
  rcases List.mem_append.mp hn with hn | hn
  ·rcases List.mem_append.mp hn with hn | hn
   ·exact ok n (List.mem_of_mem_take hn)
   ·rw [List.mem_singleton.mp hn]
    rw [Nd.Ok]
    exact ⟨bm2 hs,(c7 _).mpr fun n' hn'=>ok n' (List.mem_of_mem_drop (List.mem_of_mem_take hn'))⟩
  ·exact ok n (List.mem_of_mem_drop hn)
 ·unfold aA4
  rw [as0,as0]
  simp only [Nd.wgs,Nd.wg]
  omega
 ·unfold aA4
  rw [ak3,ak3]
  simp only [Nd.dps,Nd.dp]
  omega
 ·unfold aA4
  rw [List.length_append,List.length_append,List.length_take,List.length_drop,List.length_singleton]
  have:=h.len
  omega
 ·rw [aa5]
  have th:=(aa5 l).mp h.th
  intro n hn
  unfold aA4 at hn
  rcases List.mem_append.mp hn with hn | hn
  ·rcases List.mem_append.mp hn with hn | hn
   ·exact th n (List.mem_of_mem_take hn)
   ·rw [List.mem_singleton.mp hn,Nd.thin]
    exact ⟨Nat.le_trans (List.length_take_le' ..) (by rw [List.length_drop]; omega),(aa5 _).mpr fun n' hn'=>th n' (List.mem_of_mem_drop (List.mem_of_mem_take hn'))⟩
  ·exact th n (List.mem_of_mem_drop hn)
 ·rw [S8]
  have th:=(S8 l).mp h.nr
  intro n hn
  unfold aA4 at hn
  rcases List.mem_append.mp hn with hn | hn
  ·rcases List.mem_append.mp hn with hn | hn
   ·exact th n (List.mem_of_mem_take hn)
   ·rw [List.mem_singleton.mp hn,Nd.near]
    exact (S8 _).mpr fun n' hn'=>th n' (List.mem_of_mem_drop (List.mem_of_mem_take hn'))
  ·exact th n (List.mem_of_mem_drop hn)
 ·obtain ⟨is,e1,e2,e3⟩:=h.ix
  have w3:=congrArg Nd.nmss e
  rw [T7,T7,e1] at w3
  obtain ⟨i12,i3,q1,q2,q3⟩:=List.map_eq_append_iff.mp w3.symm
  obtain ⟨i1,i2,p1,p2,p3⟩:=List.map_eq_append_iff.mp q2
  subst p1 q1
  refine ⟨i1 ++ ((most + i) :: i2) ++ i3,?_,?_,?_⟩
  ·unfold aA4
   rw [T7,T7,← q3,← p2]
   simp only [Nd.nmss,Nd.nms,List.append_nil,List.map_append,xmc,p3,hnm]
  ·have pm : (i1 ++ ((most + i) :: i2) ++ i3).Perm ((most + i) :: (i1 ++ i2 ++ i3)):=by
    rw [List.append_assoc,xca,List.append_assoc i1 i2 i3]
    exact List.perm_middle
   rw [pm.nodup_iff,List.nodup_cons]
   exact ⟨fun z=>by have:=e3 _ z; omega,e2⟩
  ·intro j hj
   have : j = most + i ∨ j ∈ i1 ++ i2 ++ i3:=by
    simp only [List.mem_append,List.mem_cons] at hj ⊢
    rcases hj with (h | h | h) | h
    ·exact .inr (.inl (.inl h))
    ·exact .inl h
    ·exact .inr (.inl (.inr h))
    ·exact .inr (.inr h)
   rcases this with rfl | h
   ·omega
   ·have:=e3 j h; omega
theorem bE9 (ns : List Int) (hn : ns.length ≤ 63) (at' most : Nat) (ha : at' < 2 ^ 18) (hmost : most ≤ 6) (N : List D) (hN : most + 2 ≤ N.length) : ∃ l : List Nd,an2 [scr ns,.int at',.int most,.list N] = some (.tuple (Nd.ds l)) ∧ NOk N 2 most l:=by
 obtain ⟨d0,e0,l0⟩:=D7 ns hn (e:=(at' : Int)) (m':=4) at' 4 rfl rfl (by omega) (by decide)
 obtain ⟨d1,e1,l1⟩:=D7 ns hn (e:=(at' : Int) + 1) (m':=(most : Int) + 1) (at' + 1) (most + 1) (by omega) (by omega) (by omega) (by omega)
 obtain ⟨d2,e2,l2⟩:=D7 ns hn (e:=(at' : Int) + 2) (m':=3) (at' + 2) 3 (by omega) rfl (by omega) (by decide)
 obtain ⟨m,em⟩:=cG9 d0 l0
 have P : ∀ j,j < d1 → ∃ n : Nd,A8 T9 (A5 (A6 1) (A5 (A9 C1 (A9 C1 (A6 4) (dC (.int 20))) (A9 J4 (dC (.int 170)) (A6 0))) (A5 (dIx (B0 3) (A6 0)) (A5 (A6 2) A7)))) [‹.int (j : Nat)›,‹scr ns›,‹.str m.s›,‹.list N›,‹.int at'›] = some n.d ∧ n.Ok ∧ n.dp = 0 ∧ n.wg ≤ 40 ∧ n.nm = N.getD j .none ∧ n.near:=fun j hj=>by
  have m170 : J4 (.int 170) (.int j) = some (.int ((170 * j : Nat) : Int)):=R6 (i:=170) (by decide) (by omega)
  have en : atI N (j : Int) = some (N[j]'(by omega)):=by
   unfold atI
   rw [bh5 (by omega) (by omega),xbs,Int.toNat_natCast]
   exact List.getElem?_eq_getElem (by omega)
  obtain ⟨n,en',hn'⟩:=bo1 ns hn (at' + 20 + 170 * j) (by omega) (N[j]'(by omega)) m
  have ei : (at' : Int) + 20 + ((170 * j : Nat) : Int) = ((at' + 20 + 170 * j : Nat) : Int):=by omega
  refine ⟨n,?_,hn'.1,hn'.2.1,hn'.2.2.1,by rw [hn'.2.2.2.1,List.getD_eq_getElem?_getD,List.getElem?_eq_getElem (by omega)]; rfl,hn'.2.2.2.2⟩
  wp_walk using evD,m170,en,ei,en'
 obtain ⟨f,hf⟩:=aZ5 (x:=Nd.tone .none .turn 0 true) P
 have g0 : gn0 [‹scr ns›,‹.int at'›,‹.int most›,‹.list N›,none,none,none,none,none,none,none,none,none] = some (.nx [‹scr ns›,‹.int at'›,‹.int most›,‹.list N›,‹.str m.s›,none,none,none,none,none,none,none,none]):=by
  wp_walk using evD,gn0,e0,em
 have g1 : gn1 [‹scr ns›,‹.int at'›,‹.int most›,‹.list N›,‹.str m.s›,none,none,none,none,none,none,none,none] = some (.nx [‹scr ns›,‹.int at'›,‹.int most›,‹.list N›,‹.str m.s›,‹.int d1›,none,none,none,none,none,none,none]):=by
  wp_walk using evD,gn1,e1
 have g2 : gn2 [‹scr ns›,‹.int at'›,‹.int most›,‹.list N›,‹.str m.s›,‹.int d1›,none,none,none,none,none,none,none] = some (.nx [‹scr ns›,‹.int at'›,‹.int most›,‹.list N›,‹.str m.s›,‹.int d1›,some (.own (Nd.ds ((List.range d1).map f))),none,none,none,none,none,none]):=by
  have c : C8 1 [0,4,3,1] (K4 (A6 5)) (C7 0) G1 (A8 T9 (A5 (A6 1) (A5 (A9 C1 (A9 C1 (A6 4) (dC (.int 20))) (A9 J4 (dC (.int 170)) (A6 0))) (A5 (dIx (B0 3) (A6 0)) (A5 (A6 2) A7))))) [‹scr ns›,‹.int at'›,‹.int most›,‹.list N›,‹.str m.s›,‹.int d1›,none,none,none,none,none,none,none] = some ((List.range d1).map fun j=>(f j).d) :=
   ai8 (l:=List.range d1) (h:=fun j : Nat=>PyData.int j) (r:=[‹scr ns›,‹.str m.s›,‹.list N›,‹.int at'›]) rfl (ak0 (n:=d1) rfl (by omega)) (by rw [List.length_range]; omega) fun j hj=>(hf j (List.mem_range.mp hj)).1
  unfold gn2 r9
  rw [c,R7,List.map_map]
  rfl
 have aa6 : NOk N 0 most ((List.range d1).map f):=by
  refine ⟨(c7 _).mpr fun n h=>?_,?_,?_,?_,(aa5 _).mpr fun n h=>?_,(S8 _).mpr fun n h=>?_,List.range d1,?_,List.nodup_range,fun j hj=>by have:=List.mem_range.mp hj; omega⟩
  ·obtain ⟨j,hj,rfl⟩:=List.mem_map.mp h
   exact (hf j (List.mem_range.mp hj)).2.1
  ·have:=bA3 ((List.range d1).map f) fun n h=>by
    obtain ⟨j,hj,rfl⟩:=List.mem_map.mp h
    exact (hf j (List.mem_range.mp hj)).2.2.2.1
   rw [List.length_map,List.length_range] at this
   omega
  ·rw [ba9 _ fun n h=>by
    obtain ⟨j,hj,rfl⟩:=List.mem_map.mp h
    exact (hf j (List.mem_range.mp hj)).2.2.1]
   exact Nat.le_refl _
  ·rw [List.length_map,List.length_range]; omega
  ·obtain ⟨j,hj,rfl⟩:=List.mem_map.mp h
   have:=(hf j (List.mem_range.mp hj)).2.2.1
   cases q : f j with
   | group=>rw [q,Nd.dp] at this; omega
   | layer=>rw [Nd.thin]; trivial
   | tone=>rw [Nd.thin]; trivial
  ·obtain ⟨j,hj,rfl⟩:=List.mem_map.mp h
   exact (hf j (List.mem_range.mp hj)).2.2.2.2.2
  ·have key : ∀ is : List Nat,(∀ j ∈ is,j < d1) → Nd.nmss (is.map f) = is.map fun j=>N.getD j .none:=by
    intro is
    induction is with
    | nil=>intro _; simp [Nd.nmss]
    | cons j is ih =>
     intro hj
     have a:=hf j (hj j (List.mem_cons_self ..))
     rw [xmc,Nd.nmss,ih fun i hi=>hj i (List.mem_cons_of_mem _ hi),xmc,← a.2.2.2.2.1]
     cases q : f j with
     | group=>have:=a.2.2.1; rw [q,Nd.dp] at this; omega
     | layer=>simp [Nd.nms,Nd.nm]
     | tone=>simp [Nd.nms,Nd.nm]
   exact key _ fun j hj=>List.mem_range.mp hj
 obtain ⟨ρ',e3,l,b7,b8,b9,b10,b11,b12,hρ,hl⟩:=at5 (g:=C7 7) (f:=bo8) (h:=fun j : Nat=>PyData.int j) (I:=fun i ρ=>∃ (l : List Nd) (b7 b8 b9 b10 b11 b12 : Option B),ρ = [‹scr ns›,‹.int at'›,‹.int most›,‹.list N›,‹.str m.s›,‹.int d1›,some (.own (Nd.ds l)),b7,b8,b9,b10,b11,b12] ∧ NOk N i most l) (List.range d2) 0 [‹scr ns›,‹.int at'›,‹.int most›,‹.list N›,‹.str m.s›,‹.int d1›,some (.own (Nd.ds ((List.range d1).map f))),none,none,none,none,none,none] ⟨_,_,_,_,_,_,_,rfl,aa6⟩ (fun j a hj ρ hρ=>by
  obtain ⟨l,b7,b8,b9,b10,b11,b12,rfl,hl⟩:=hρ
  obtain ⟨hj1,hj2⟩:=List.getElem?_eq_some_iff.mp hj
  rw [List.length_range] at hj1
  rw [List.getElem_range] at hj2
  subst hj2
  refine ⟨_,rfl,?_⟩
  simp only [xw0,xw1]
  have hll:=hl.len
  obtain ⟨a,c,nm,m',s,sh,c8,c9,c10,c11,c12,eb,ac,cl,hs,hnm⟩:=bK2 ns hn at' most j ha (by omega) hmost N hN m l (by omega) (‹.int d1›) b8 b9 b10 b11 b12
  exact ⟨_,eb,_,_,_,_,_,_,_,rfl,hl.grp ac hs (by rw [hnm,Nat.zero_add]) (by omega)⟩)
 subst hρ
 rw [List.length_range,Nat.zero_add] at hl
 refine ⟨l,?_,hl.ok,by have:=hl.wg; omega,by have:=hl.dp; omega,by have:=hl.len; omega,hl.th,hl.nr,by
  obtain ⟨is,q1,q2,q3⟩:=hl.ix
  exact ⟨is,q1,q2,fun j hj=>by have:=q3 j hj; omega⟩⟩
 have rn : K4 (A8 B5 (A5 (A6 0) (A5 (A9 C1 (A6 1) (dC (.int 2))) (A5 (dC (.int 3)) A7)))) [‹scr ns›,‹.int at'›,‹.int most›,‹.list N›,‹.str m.s›,‹.int d1›,some (.own (Nd.ds ((List.range d1).map f))),none,none,none,none,none,none] = _:=ak0 (n:=d2) (by wp_walk using evD,e2) (by omega)
 have g3 : gn3 [‹scr ns›,‹.int at'›,‹.int most›,‹.list N›,‹.str m.s›,‹.int d1›,some (.own (Nd.ds ((List.range d1).map f))),none,none,none,none,none,none] = some (.nx [‹scr ns›,‹.int at'›,‹.int most›,‹.list N›,‹.str m.s›,‹.int d1›,some (.own (Nd.ds l)),b7,b8,b9,b10,b11,b12]):=by
  unfold gn3 aa2
  rw [rn]
  exact e3
 have g4 : gn4 [‹scr ns›,‹.int at'›,‹.int most›,‹.list N›,‹.str m.s›,‹.int d1›,some (.own (Nd.ds l)),b7,b8,b9,b10,b11,b12] = some (.rt (.tuple (Nd.ds l))):=rfl
 refine B2 (ρ:=[‹scr ns›,‹.int at'›,‹.int most›,‹.list N›,none,none,none,none,none,none,none,none,none]) rfl ?_
 rw [bJ3,B6 g0,B6 g1,B6 g2,B6 g3]
 exact g4
def R4 (w h : Nat) (l : List Nd) : D:=.tuple [.int w,.int h,.tuple (Nd.ds l)]
theorem bf5 (ns : List Int) (hn : ns.length ≤ 63) (at' most : Nat) (ha : at' < 2 ^ 17) (hmost : most ≤ 6) (N : List D) (hN : most + 2 ≤ N.length) : ∃ (w h : Nat) (l : List Nd),Y5 [scr ns,.int at',.int most,.list N] = some (R4 w h l) ∧ NOk N 2 most l ∧ (1 ≤ w ∧ w ≤ 3) ∧ (1 ≤ h ∧ h ≤ 3):=by
 obtain ⟨d0,e0,l0⟩:=D7 ns hn (e:=(at' : Int)) (m':=3) at' 3 rfl rfl (by omega) (by decide)
 obtain ⟨d1,e1,l1⟩:=D7 ns hn (e:=(at' : Int) + 1) (m':=3) (at' + 1) 3 (by omega) rfl (by omega) (by decide)
 obtain ⟨l,el,hl⟩:=bE9 ns hn (at' + 2) most (by omega) hmost N hN
 have e2 : (at' : Int) + 2 = ((at' + 2 : Nat) : Int):=by omega
 refine ⟨1 + d0,1 + d1,l,?_,hl,by omega,by omega⟩
 refine B2 (ρ:=[‹scr ns›,‹.int at'›,‹.int most›,‹.list N›,none,none]) rfl ?_
 wp_walk using evD,az9,e0,e1,ad1,e2,el,R4
end Sh
namespace Sh
open PySem G L2
theorem aF8 {g : D → Rho → Option Rho} {f : DS} {I : Rho → Prop} : ∀ (X : List D) (ρ : Rho),I ρ → (∀ x ∈ X,∀ ρ,I ρ → ∃ ρ1,g x ρ = some ρ1 ∧ ∃ ρ',f ρ1 = some (.nx ρ') ∧ I ρ') → ∃ ρ',an8 g f X ρ = some (.nx ρ') ∧ I ρ'
 | [],ρ,h,_=>⟨ρ,rfl,h⟩
 | x :: X,ρ,h,H=>by
  obtain ⟨ρ1,e1,ρ2,e2,h2⟩:=H x (List.mem_cons_self ..) ρ h
  obtain ⟨ρ',e3,h3⟩:=aF8 X ρ2 h2 fun y hy=>H y (List.mem_cons_of_mem _ hy)
  exact ⟨ρ',by simp only [an8,e1,xbs,e2,e3],h3⟩
theorem name_of (n : Nd) : M5 [n.d] = some n.nm:=by
 cases n <;> (rw [Nd.d]; rfl)
theorem aZ0 (n : Nd) : N8 [n.d] = some (.bool (match n with | .group ..=>true | _=>false)):=by
 have e_tg : eqD (.str "tone") (.str "group") = some (.bool false):=E6 (by decide +kernel) (by decide +kernel) (by decide +kernel)
 cases n with
 | layer nm m s sh lf tp mk w h l kb=>rw [Nd.d]; exact B2 (ρ:=[‹.tuple [.str "layer", nm,.str m.s,fr s,.bool sh,.int lf,.int tp,mkD mk,shD w h l]›]) rfl (congrArg (Option.map Fl.rt) cB9)
 | tone nm r s sh=>rw [Nd.d]; exact B2 (ρ:=[‹.tuple [.str "tone", nm,.str r.s,fr s,.bool sh]›]) rfl (congrArg (Option.map Fl.rt) e_tg)
 | group nm m s sh ns=>rw [Nd.d]; exact B2 (ρ:=[‹.tuple [.str "group", nm,.str m.s,fr s,.bool sh,.tuple (Nd.ds ns)]›]) rfl (congrArg (Option.map Fl.rt) cC1)
theorem u7 {l : List Nd} {n : Nd} (h : n ∈ l) : n.dp ≤ Nd.dps l:=by
 obtain ⟨a,b,rfl⟩:=List.append_of_mem h
 rw [ak3,Nd.dps]; omega
end Sh
namespace Sh
open PySem G L2
end Sh
namespace Sh
open PySem G L2
def alb (f : Nat) : DS:=(B3 (aa3 1 (A6 2)) (sIf (tB2 eqD (dIx (B0 2) (dC (.int 0))) (dC (.str "group"))) (r9 1 (aX9 (B0 1) (qE (A8 (E8 f) (A5 (dIx (B0 2) (dC (.int 5))) A7))))) C0))
theorem e_tg : eqD (.str "tone") (.str "group") = some (.bool false):=E6 (by decide +kernel) (by decide +kernel) (by decide +kernel)
theorem bd4 {n : Nd} (f : Nat) (h : n.dp = 0) (a0 : Option B) (X : List D) (hX : X.length < 1000) : alb f [a0,some (.own X),some (.val n.d)] = some (.nx [a0,some (.own (X ++ [n.d])),some (.val n.d)]):=by
 have hx : X.length < 16777216:=by omega
 have s0 : (aa3 1 (A6 2)) [a0,some (.own X),some (.val n.d)] = some (.nx [a0,some (.own (X ++ [n.d])),some (.val n.d)]):=by
  simp only [aa3,xg0,xg1,if_pos hx,A6,xms,xw0,xw1]
 unfold alb
 rw [B6 s0]
 cases n with
 | group=>rw [Nd.dp] at h; omega
 | layer=>rw [Nd.d]; wp_walk using evD,aN0,cB9
 | tone=>rw [Nd.d]; wp_walk using evD,bN4,e_tg
theorem bz5 {nm : D} {m : Man} {s : Rat} {sh : Bool} {ns : List Nd} (f : Nat) (a0 : Option B) (X Y : List D) (hX : X.length < 1000) (hY : Y.length < 1000) (e : E8 f [.tuple (Nd.ds ns)] = some (.list Y)) : alb f [a0,some (.own X),‹Nd.d (.group nm m s sh ns)›] = some (.nx [a0,some (.own (X ++ [Nd.d (.group nm m s sh ns)] ++ Y)),‹Nd.d (.group nm m s sh ns)›]):=by
 have hx : X.length < 16777216:=by omega
 have s0 : (aa3 1 (A6 2)) [a0,some (.own X),‹Nd.d (.group nm m s sh ns)›] = some (.nx [a0,some (.own (X ++ [Nd.d (.group nm m s sh ns)])),‹Nd.d (.group nm m s sh ns)›]):=by
  simp only [aa3,xg0,xg1,if_pos hx,A6,xms,xw0,xw1]
 unfold alb
 rw [B6 s0]
 have hc : aX9 (B0 1) (qE (A8 (E8 f) (A5 (dIx (B0 2) (dC (.int 5))) A7))) [a0,some (.own (X ++ [Nd.d (.group nm m s sh ns)])),‹Nd.d (.group nm m s sh ns)›] = some (X ++ [Nd.d (.group nm m s sh ns)] ++ Y):=by
  have q2 : qE (A8 (E8 f) (A5 (dIx (B0 2) (dC (.int 5))) A7)) [a0,some (.own (X ++ [Nd.d (.group nm m s sh ns)])),‹Nd.d (.group nm m s sh ns)›] = some (false,Y):=by
   rw [show Nd.d (.group nm m s sh ns) = .tuple [.str "group", nm,.str m.s,fr s,.bool sh,.tuple (Nd.ds ns)] by rw [Nd.d]]
   wp_walk using evD,bN2,e
  unfold aX9
  rw [q2]
  show (if false = false ∧ false = false ∧ (X ++ [Nd.d (.group nm m s sh ns)]).length + Y.length ≤ 16777216 then some (X ++ [Nd.d (.group nm m s sh ns)] ++ Y) else none) = _
  rw [if_pos ⟨rfl,rfl,by rw [List.length_append]; show X.length + 1 + Y.length ≤ _; omega⟩]
 have ht : tB2 eqD (dIx (B0 2) (dC (.int 0))) (dC (.str "group")) [a0,some (.own (X ++ [Nd.d (.group nm m s sh ns)])),‹Nd.d (.group nm m s sh ns)›] = some true:=by
  rw [show Nd.d (.group nm m s sh ns) = .tuple [.str "group", nm,.str m.s,fr s,.bool sh,.tuple (Nd.ds ns)] by rw [Nd.d]]
  wp_walk using evD,aN1,cC1
 simp only [sIf,ht,xbs,if_true,r9,hc,xms,xw0,xw1]
end Sh
namespace Sh
open PySem G L2
def Low (s : Str) : Prop:=∀ c ∈ s.cps.toList,97 ≤ c ∧ c ≤ 122
def Nm (d : D) : Prop:=∃ s : Str,d = .str s ∧ Low s ∧ 1 ≤ s.length ∧ s.length ≤ 6
theorem strength_of (n : Nd) : ∃ s,Q5 [n.d] = some (fr s) ∧ (n.Ok → Sr 4 s):=by
 cases n with
 | layer nm m s sh lf tp mk w h l kb=>exact ⟨s,by rw [Nd.d]; rfl,fun o=>by rw [Nd.Ok] at o; exact o.1⟩
 | tone nm r s sh=>exact ⟨s,by rw [Nd.d]; rfl,fun o=>by rw [Nd.Ok] at o; exact o⟩
 | group nm m s sh ns=>exact ⟨s,by rw [Nd.d]; rfl,fun o=>by rw [Nd.Ok] at o; exact o.1⟩
def nmb (f : Nat) : DS:=(B3 (aa3 1 (A8 M5 (A5 (A6 2) A7))) (sIf (B9 (A8 N8 (A5 (A6 2) A7))) (bf1 1 (A8 (D5 f) (A5 (A8 J9 (A5 (A6 2) A7)) A7))) C0))
theorem cm2 {n : Nd} (f : Nat) (a0 : Option B) (X : List D) (hX : X.length + n.nms.length ≤ 1000) (H : ∀ nm m s sh ns,n = .group nm m s sh ns → D5 f [.tuple (Nd.ds ns)] = some (.list (Nd.nmss ns))) : nmb f [a0,some (.own X),some (.val n.d)] = some (.nx [a0,some (.own (X ++ n.nms)),some (.val n.d)]):=by
 have hx : X.length < 16777216:=by omega
 have en:=name_of n
 have eg:=aZ0 n
 have s0 : (aa3 1 (A8 M5 (A5 (A6 2) A7))) [a0,some (.own X),some (.val n.d)] = some (.nx [a0,some (.own (X ++ [n.nm])),some (.val n.d)]):=by
  simp only [aa3,A8,A5,A7,en,xg0,xg1,if_pos hx,A6,xms,xbs,xw0,xw1]
 unfold nmb
 rw [B6 s0]
 cases n with
 | layer=>wp_walk using evD,eg; rw [Nd.nm,Nd.nms]
 | tone=>wp_walk using evD,eg; rw [Nd.nm,Nd.nms]
 | group nm m s sh ns =>
  have e1 : J9 [Nd.d (.group nm m s sh ns)] = some (.tuple (Nd.ds ns)):=by rw [Nd.d]; rfl
  have e2:=H nm m s sh ns rfl
  rw [Nd.nms] at hX
  have e3 : (X ++ [nm]).length + (Nd.nmss ns).length ≤ 16777216:=by simp at hX ⊢; omega
  rw [Nd.nm]
  wp_walk using evD,bf1,eg,e1,e2,if_pos e3
  rw [Nd.nms,List.append_assoc]; rfl
theorem bn8 {l : List Nd} {f : Nat} (hw : (Nd.nmss l).length ≤ 1000) (H : ∀ n ∈ l,∀ nm m s sh ns,n = .group nm m s sh ns → D5 f [.tuple (Nd.ds ns)] = some (.list (Nd.nmss ns))) : D5 (f + 1) [.tuple (Nd.ds l)] = some (.list (Nd.nmss l)):=by
 obtain ⟨ρ',e,a2,hρ⟩:=at5 (g:=C7 2) (f:=nmb f) (h:=Nd.d) (I:=fun i ρ=>∃ a2,ρ = [‹.tuple (Nd.ds l)›,some (.own (Nd.nmss (l.take i))),a2]) l 0 [‹.tuple (Nd.ds l)›,some (.own []),none] ⟨none,rfl⟩ (fun j n hj ρ hρ=>by
  obtain ⟨a2,rfl⟩:=hρ
  rw [Nat.zero_add]
  obtain ⟨hjl,rfl⟩:=List.getElem?_eq_some_iff.mp hj
  have ww : Nd.nmss (l.take (j + 1)) = Nd.nmss (l.take j) ++ (l[j]).nms:=by rw [List.take_succ_eq_append_getElem hjl,T7,Nd.nmss,Nd.nmss,List.append_nil]
  have wl:=congrArg (fun x=>(Nd.nmss x).length) (List.take_append_drop (j + 1) l)
  simp only [T7,ww,List.length_append] at wl
  exact ⟨_,rfl,_,cm2 f _ _ (by omega) (H _ (List.getElem_mem hjl)),_,by rw [ww]⟩)
 subst hρ
 rw [Nat.zero_add,List.take_of_length_le (Nat.le_refl _),← R7] at e
 refine B2 (g:=X4 (D5 f)) (ρ:=[‹.tuple (Nd.ds l)›,none,none]) rfl ?_
 have s0 : (r9 1 A7) [‹.tuple (Nd.ds l)›,none,none] = some (.nx [‹.tuple (Nd.ds l)›,some (.own []),none]):=rfl
 have s1 : (aa2 (E1 (A6 0)) (C7 2) (nmb f)) [‹.tuple (Nd.ds l)›,some (.own []),none] = some (.nx [‹.tuple (Nd.ds l)›,some (.own (Nd.nmss l)),a2]):=e
 have s2 : (ax4 1 (B4 (A6 1))) [‹.tuple (Nd.ds l)›,some (.own (Nd.nmss l)),a2] = some (.rt (.list (Nd.nmss l))):=rfl
 exact (B6 s0).trans ((B6 s1).trans s2)
theorem bT1 {n : Nd} {l : List Nd} (h : n ∈ l) : n.nms.length ≤ (Nd.nmss l).length:=by
 obtain ⟨a,b,rfl⟩:=List.append_of_mem h
 rw [T7,Nd.nmss,List.length_append,List.length_append]; omega
theorem names_among : ∀ (k : Nat) (l : List Nd) (f : Nat),Nd.dps l ≤ k → k + 1 ≤ f → (Nd.nmss l).length ≤ 1000 → D5 f [.tuple (Nd.ds l)] = some (.list (Nd.nmss l)):=by
 intro k
 induction k with
 | zero =>
  intro l f hd hf hw
  obtain ⟨f,rfl⟩ : ∃ g,f = g + 1:=⟨f - 1,by omega⟩
  refine bn8 hw fun n hn nm m s sh ns e=>?_
  have:=u7 hn
  rw [e,Nd.dp] at this; omega
 | succ k ih =>
  intro l f hd hf hw
  obtain ⟨f,rfl⟩ : ∃ g,f = g + 1:=⟨f - 1,by omega⟩
  refine bn8 hw fun n hn nm m s sh ns e=>?_
  have h1:=u7 hn
  have h2:=bT1 hn
  rw [e,Nd.dp] at h1
  rw [e,Nd.nms,List.length_cons] at h2
  exact ih ns f (by omega) (by omega) (by omega)
end Sh
namespace Sh
open PySem G L2
mutual
def wt : D → Nat
 | .tuple xs=>1 + wts xs
 | .list xs=>1 + wts xs
 | _=>1
def wts : List D → Nat
 | []=>0
 | x :: xs=>wt x + wts xs
end
theorem u4 : ∀ xs ys : List D,wts (xs ++ ys) = wts xs + wts ys
 | [],ys=>by rw [xna,wts,Nat.zero_add]
 | x :: xs,ys=>by rw [xca,wts,wts,u4 xs ys]; omega
theorem bl7 : ∀ xs : List D,wts xs.reverse = wts xs
 | []=>rfl
 | x :: xs=>by rw [List.reverse_cons,u4,bl7 xs,wts,wts,wts]; omega
theorem ar9 (xs : List D) (l h : Option Int) : wts (L6 xs l h) ≤ wts xs:=by
 have td : ∀ (a : Nat) (ys : List D),wts (ys.take a) ≤ wts ys ∧ wts (ys.drop a) ≤ wts ys:=fun a ys=>by
  have:=congrArg wts (List.take_append_drop a ys)
  rw [u4] at this
  omega
 unfold L6
 exact Nat.le_trans (td _ _).1 (td _ _).2
theorem cb5 {x : D} {xs : List D} {i : Nat} (h : xs[i]? = some x) : wts (xs.take i) + wt x + wts (xs.drop (i + 1)) = wts xs:=by
 obtain ⟨hi,rfl⟩:=List.getElem?_eq_some_iff.mp h
 have:=congrArg wts (List.take_append_drop i xs)
 rw [List.drop_eq_getElem_cons hi,u4,wts] at this
 omega
def Gk : Nat → D → Prop
 | _,.none=>True
 | _,.bool _=>True
 | _,.int i=>i.natAbs < 2 ^ 40
 | _,.str x=>x.cps.all (· < 128) = true ∧ x.cps.size ≤ 100
 | n + 1,.tuple xs=>xs.length ≤ 64 ∧ ∀ x ∈ xs,Gk n x
 | n + 1,.list xs=>xs.length ≤ 64 ∧ ∀ x ∈ xs,Gk n x
 | _,_=>False
theorem Gk.gd : ∀ (n : Nat) (d : D),Gk n d → Gd n d:=by
 have st : ∀ x : Str,x.cps.all (· < 128) = true → PyData.strOk x = true:=fun x h=>by
  unfold PyData.strOk
  rw [Array.all_eq_true] at h ⊢
  intro i hi
  have:=h i hi
  simp only [decide_eq_true_eq] at this ⊢
  omega
 intro n
 induction n with
 | zero=>intro d g; cases d <;> first | exact trivial | exact g | exact st _ g.1 | exact g.elim
 | succ n ih =>
  intro d g
  cases d with
  | tuple xs=>exact ⟨g.1,fun x hx=>ih x (g.2 x hx)⟩
  | list xs=>exact ⟨g.1,fun x hx=>ih x (g.2 x hx)⟩
  | none=>exact trivial
  | bool b=>exact trivial
  | int i=>exact g
  | str x=>exact st _ g.1
  | dict _=>exact g.elim
theorem Gk.ly {n : Nat} {d : D} (g : Gk n d) : Ly n d:=(Gk.gd n d g).ly
theorem bJ8 {s : String} (h : ∀ c ∈ s.toList,c.toNat < 128) (hl : s.toList.length ≤ 100) (n : Nat) : Gk n (.str (Str.ofString s)):=by
 have e : (Str.ofString s).cps.toList = s.toList.map Char.toNat:=PyProof.Rows.signs_ofString s
 have q : (Str.ofString s).cps.all (· < 128) = true ∧ (Str.ofString s).cps.size ≤ 100:=by
  constructor
  ·rw [← Array.all_toList,e,List.all_map,List.all_eq_true]
   intro c hc
   exact decide_eq_true (h c hc)
  ·rw [← Array.length_toList,e,List.length_map]; exact hl
 cases n <;> exact q
theorem aR6 (n : Nat) (b : Bool) : Gk n (.bool b):=by cases n <;> exact trivial
theorem bW7 (n : Nat) : Gk n .none:=by cases n <;> exact trivial
theorem Z3 (n : Nat) (i : Int) (h : i.natAbs < 2 ^ 40) : Gk n (.int i):=by cases n <;> exact h
theorem Z0 (n : Nat) (x : Str) (h : x.cps.all (· < 128) = true) (hl : x.cps.size ≤ 100) : Gk n (.str x):=by cases n <;> exact ⟨h,hl⟩
theorem n5 {n : Nat} {xs : List D} (h : xs.length ≤ 64) (g : ∀ x ∈ xs,Gk n x) : Gk (n + 1) (.tuple xs):=⟨h,g⟩
theorem bJ9 {n : Nat} {xs : List D} (h : xs.length ≤ 64) (g : ∀ x ∈ xs,Gk n x) : Gk (n + 1) (.list xs):=⟨h,g⟩
theorem ay3 {n : Nat} : ∀ x ∈ ([] : List D),Gk n x:=fun x hx=>absurd hx List.not_mem_nil
theorem G8 {n : Nat} {x : D} {xs : List D} (h : Gk n x) (g : ∀ y ∈ xs,Gk n y) : ∀ y ∈ x :: xs,Gk n y:=fun y hy=>(List.mem_cons.mp hy).elim (fun e=>e ▸ h) (g y)
theorem Gk.mono : ∀ {m n : Nat} {d : D},Gk m d → m ≤ n → Gk n d:=by
 intro m
 induction m with
 | zero =>
  intro n d g h
  cases d <;> first | exact g.elim | (cases n <;> exact g)
 | succ m ih =>
  intro n d g h
  obtain ⟨n,rfl⟩ : ∃ k,n = k + 1:=⟨n - 1,by omega⟩
  cases d with
  | tuple xs=>exact ⟨g.1,fun x hx=>ih (g.2 x hx) (by omega)⟩
  | list xs=>exact ⟨g.1,fun x hx=>ih (g.2 x hx) (by omega)⟩
  | none=>exact trivial
  | bool b=>exact trivial
  | int i=>exact g
  | str x=>exact g
  | dict _=>exact g.elim
theorem gk2 (n : Nat) (i j : Int) (hi : i.natAbs < 2 ^ 40) (hj : j.natAbs < 2 ^ 40) : Gk (n + 1) (.tuple [.int i,.int j]):=n5 (by show 2 ≤ 64; decide) (G8 (Z3 n _ hi) (G8 (Z3 n _ hj) ay3))
theorem cl3 (n : Nat) : ∀ d ∈ bs3,Gk (n + 2) d:=by
 unfold bs3
 have s1 : ∀ n,Gk n (.str ""):=fun n=>Z0 n _ (by decide +kernel) (by decide +kernel)
 have s2 : ∀ n,Gk n (.str "a"):=fun n=>Z0 n _ (by decide +kernel) (by decide +kernel)
 have s3 : ∀ n,Gk n (.str "over"):=fun n=>Z0 n _ (by decide +kernel) (by decide +kernel)
 have s4 : ∀ n,Gk n (.str "Ab"):=fun n=>Z0 n _ (by decide +kernel) (by decide +kernel)
 have s5 : ∀ n,Gk n (.str "abcdefg"):=fun n=>Z0 n _ (by decide +kernel) (by decide +kernel)
 have s6 : ∀ n,Gk n (.str "tone"):=fun n=>Z0 n _ (by decide +kernel) (by decide +kernel)
 have s7 : ∀ n,Gk n (.str "zz"):=fun n=>Z0 n _ (by decide +kernel) (by decide +kernel)
 have s8 : ∀ n,Gk n (.str "grey"):=fun n=>Z0 n _ (by decide +kernel) (by decide +kernel)
 repeat' (first
  | exact ay3
  | exact s1 _ | exact s2 _ | exact s3 _ | exact s4 _ | exact s5 _ | exact s6 _ | exact s7 _ | exact s8 _
  | exact Z3 _ _ (by decide)
  | exact aR6 _ _
  | exact bW7 _
  | exact gk2 _ _ _ (by decide) (by decide)
  | refine n5 (by simp) ?_
  | refine bJ9 (by simp) ?_
  | refine G8 ?_ ?_)
theorem cl2 : ∀ d ∈ bs3,wt d ≤ 14:=by
 intro d hd
 simp only [bs3,List.mem_cons,List.not_mem_nil,or_false] at hd
 rcases hd with rfl | rfl | rfl | rfl | rfl | rfl | rfl | rfl | rfl | rfl | rfl | rfl | rfl | rfl | rfl | rfl | rfl | rfl | rfl | rfl | rfl | rfl | rfl | rfl | rfl | rfl <;> simp [wt,wts]
theorem aB2 (m : Nat) (n : Int) : ∃ d,aC3 [.int n] = some d ∧ Gk (m + 2) d ∧ wt d ≤ 14:=by
 obtain ⟨d,hd,e⟩:=aG9 bs3 n 26 rfl (by decide)
 refine ⟨d,?_,cl3 m d hd,cl2 d hd⟩
 refine B2 (ρ:=[‹.int n›,none]) rfl ?_
 rw [bS3,e]; rfl
theorem aZ4 (n : Nat) (i : Int) (hi : i.natAbs < 2 ^ 40) : Gk n (.str (Str.ofString (toString i))):=by
 refine bJ8 (int_ascii i) ?_ n
 have nat : ∀ m : Nat,m < 2 ^ 40 → (Nat.repr m).toList.length ≤ 20:=fun m hm=>by
  rw [String.length_toList]
  exact (Nat.length_repr_le_iff (by decide)).mpr (Nat.lt_of_lt_of_le hm (by decide))
 rw [Int.toString_eq_repr,Int.repr_eq_if]
 split
 ·have:=nat i.toNat (by omega); omega
 ·rw [String.toList_append,List.length_append]
  have:=nat (-i).toNat (by omega)
  have e : "-".toList.length = 1:=by decide
  omega
theorem bm4 (j m : Nat) (i n k : Int) (hi : i.natAbs < 2 ^ 30) : ∃ d,F7 (j + 1) [.int i,.int n,.int k] = some d ∧ Gk (m + 2) d ∧ wt d ≤ 14:=by
 have d7 : V7 (.int n) (.int 7) = some (.int (n / 7)):=ag2 (by decide) (sml 7 (by decide))
 have d14 : V7 (.int n) (.int 14) = some (.int (n / 14)):=ag2 (by decide) (sml 14 (by decide))
 have m2 : Q8 (.int (n / 7)) (.int 2) = some (.int (n / 7 % 2)):=ab3 (by decide)
 have m6 : Q8 (.int (n / 14)) (.int 6) = some (.int (n / 14 % 6)):=ab3 (by decide)
 have lg : i.natAbs.log2 < 1920:=by
  rcases Nat.eq_zero_or_pos i.natAbs with h | h
  ·rw [h]; decide
  ·have:=(Nat.log2_lt (n:=i.natAbs) (k:=30) (by omega)).mpr hi
   omega
 obtain ⟨d,hd,e⟩:=aG9 [.str (Str.ofString (toString i)),.int (0 - i),.int (i + 1),.bool (i == 1),.int (i - 1),.int (i + 9)] (n / 14) 6 rfl (by show 0 < 6; decide)
 have gw : wt d ≤ 14:=by
  simp only [List.mem_cons,List.not_mem_nil,or_false] at hd
  rcases hd with rfl | rfl | rfl | rfl | rfl | rfl <;> simp [wt]
 have gd : Gk (m + 2) d ∧ wt d ≤ 14:=⟨G8 (aZ4 _ i (by omega)) (G8 (Z3 _ _ (by omega)) (G8 (Z3 _ _ (by omega)) (G8 (aR6 _ _) (G8 (Z3 _ _ (by omega)) (G8 (Z3 _ _ (by omega)) ay3))))) d hd,gw⟩
 obtain ⟨o,eo,go⟩:=aB2 m (n / 7)
 cases h : (n / 7 % 2 == 0) with
 | true =>
  refine ⟨d,?_,gd⟩
  refine B2 (ρ:=[‹.int i›,‹.int n›,‹.int k›,none,none]) rfl ?_
  by_cases hk : 0 < k
  ·wp_walk using evC,G5,hk,decide_true,d7,d14,m2,m6,h,bj1,lg,e
  ·wp_walk using evC,G5,hk,decide_false,d7,d14,m2,m6,h,bj1,lg,e
 | false =>
  refine ⟨o,?_,go⟩
  refine B2 (ρ:=[‹.int i›,‹.int n›,‹.int k›,none,none]) rfl ?_
  by_cases hk : 0 < k
  ·wp_walk using evC,G5,hk,decide_true,d7,m2,h,eo
  ·wp_walk using evC,G5,hk,decide_false,d7,m2,h,eo
theorem aV3 (j m : Nat) (b : Bool) (n k : Int) : ∃ d,F7 (j + 1) [.bool b,.int n,.int k] = some d ∧ Gk (m + 2) d ∧ wt d ≤ 14:=by
 have d7 : V7 (.int n) (.int 7) = some (.int (n / 7)):=ag2 (by decide) (sml 7 (by decide))
 have d14 : V7 (.int n) (.int 14) = some (.int (n / 14)):=ag2 (by decide) (sml 14 (by decide))
 have m2 : Q8 (.int (n / 7)) (.int 2) = some (.int (n / 7 % 2)):=ab3 (by decide)
 have m6 : Q8 (.int (n / 14)) (.int 6) = some (.int (n / 14 % 6)):=ab3 (by decide)
 obtain ⟨i,hi⟩ : ∃ i : Int,i = if b = true then 1 else 0:=⟨_,rfl⟩
 have hi' : i.natAbs ≤ 1:=by rw [hi]; cases b <;> decide
 have s1 : ag3 (.int 0) (.bool b) = some (.int (0 - i)):=by rw [hi]; rfl
 have s2 : ag3 (.bool b) (.int 1) = some (.int (i - 1)):=by rw [hi]; rfl
 have c1 : V2 (.bool b) (.int 1) = some (.int (i + 1)):=by rw [hi]; rfl
 have c9 : V2 (.bool b) (.int 9) = some (.int (i + 9)):=by rw [hi]; rfl
 obtain ⟨t,ht⟩ : ∃ t,eqD (.bool b) (.int 1) = some (.bool t):=⟨_,rfl⟩
 obtain ⟨d,hd,e⟩:=aG9 [.str (if b = true then "True" else "False"),.int (0 - i),.int (i + 1),.bool t,.int (i - 1),.int (i + 9)] (n / 14) 6 rfl (by show 0 < 6; decide)
 have gw : wt d ≤ 14:=by
  simp only [List.mem_cons,List.not_mem_nil,or_false] at hd
  rcases hd with rfl | rfl | rfl | rfl | rfl | rfl <;> simp [wt]
 have gd : Gk (m + 2) d ∧ wt d ≤ 14:=⟨G8 (by cases b <;> exact Z0 _ _ (by decide +kernel) (by decide +kernel)) (G8 (Z3 _ _ (by omega)) (G8 (Z3 _ _ (by omega)) (G8 (aR6 _ _) (G8 (Z3 _ _ (by omega)) (G8 (Z3 _ _ (by omega)) ay3))))) d hd,gw⟩
 obtain ⟨o,eo,go⟩:=aB2 m (n / 7)
 cases h : (n / 7 % 2 == 0) with
 | true =>
  refine ⟨d,?_,gd⟩
  refine B2 (ρ:=[‹.bool b›,‹.int n›,‹.int k›,none,none]) rfl ?_
  by_cases hk : 0 < k
  ·wp_walk using evC,G5,hk,decide_true,d7,d14,m2,m6,h,bj1,s1,s2,c1,c9,ht,e
  ·wp_walk using evC,G5,hk,decide_false,d7,d14,m2,m6,h,bj1,s1,s2,c1,c9,ht,e
 | false =>
  refine ⟨o,?_,go⟩
  refine B2 (ρ:=[‹.bool b›,‹.int n›,‹.int k›,none,none]) rfl ?_
  by_cases hk : 0 < k
  ·wp_walk using evC,G5,hk,decide_true,d7,m2,h,eo
  ·wp_walk using evC,G5,hk,decide_false,d7,m2,h,eo
theorem aV2 (j m : Nat) (d0 : D) (n k : Int) (h0 : K3 "int" d0 = some false) (h1 : K3 "tuple" d0 = some false ∨ d0 = .tuple []) : ∃ d,F7 (j + 1) [d0,.int n,.int k] = some d ∧ Gk (m + 2) d ∧ wt d ≤ 14:=by
 have d7 : V7 (.int n) (.int 7) = some (.int (n / 7)):=ag2 (by decide) (sml 7 (by decide))
 obtain ⟨o,eo,go⟩:=aB2 m (n / 7)
 refine ⟨o,?_,go⟩
 refine B2 (ρ:=[some (.val d0),‹.int n›,‹.int k›,none,none]) rfl ?_
 have i0 : D3 "int" (A6 0) [some (.val d0),‹.int n›,‹.int k›,none,none] = some (.bool false):=by
  simp only [D3,A6,xg0,xbs,h0,xms]
 rcases h1 with h1 | rfl
 ·have i1 : D3 "tuple" (A6 0) [some (.val d0),‹.int n›,‹.int k›,none,none] = some (.bool false):=by
   simp only [D3,A6,xg0,xbs,h1,xms]
  by_cases hk : 0 < k
  ·simp only [G5,B3,sIf,L7,tB2,B9,A9,i0,i1,G2,B8,A6,dC,A8,A5,A7,B4,C0,xg0,xg1,aj2,hk,decide_true,d7,eo,xbs,xms,xft,if_true,if_false]
  ·simp only [G5,B3,sIf,L7,tB2,B9,A9,i0,i1,G2,B8,A6,dC,A8,A5,A7,B4,C0,xg0,xg1,aj2,hk,decide_false,d7,eo,xbs,xms,xft,if_true,if_false]
 ·have l0 : decide ((0 : Int) < (((([] : List D).length : Nat)) : Int)) = false:=by decide
  by_cases hk : 0 < k
  ·wp_walk using evC,G5,hk,decide_true,l0,d7,eo
  ·wp_walk using evC,G5,hk,decide_false,l0,d7,eo
theorem cs9 {xs : List D} {i : Nat} (h : i < xs.length) : L6 xs none (some (i : Int)) = xs.take i:=by
 unfold L6
 rw [HT.sIx_none,HT.sIx_nat,List.drop_zero,Nat.min_eq_left (Nat.le_of_lt h),Nat.sub_zero]
theorem bb3 {xs : List D} {i : Nat} (h : i < xs.length) : L6 xs (some ((i : Int) + 1)) none = xs.drop (i + 1):=by
 have e : ((i : Int) + 1) = ((i + 1 : Nat) : Int):=by omega
 rw [e]
 unfold L6
 rw [HT.sIx_none,HT.sIx_nat,Nat.min_eq_left h]
 exact List.take_of_length_le (by rw [List.length_drop]; exact Nat.le_refl _)
theorem bm3 {j m : Nat} {xs : List D} (h0 : xs ≠ []) (hl : xs.length ≤ 16) (g : ∀ x ∈ xs,Gk (m + 2) x) (n k : Int) (R : 0 < k → ∀ x ∈ xs,∀ n : Int,∃ d,F7 j [x,.int n,.int (k - 1)] = some d ∧ Gk (m + 2) d ∧ wt d ≤ 2 * wt x + 14) :
  ∃ d,F7 (j + 1) [.tuple xs,.int n,.int k] = some d ∧ Gk (m + 3) d ∧ wt d ≤ 2 * wt (.tuple xs) + 14:=by
 have lp : 0 < xs.length:=by cases xs with
  | nil=>exact absurd rfl h0
  | cons _ _=>simp
 have d7 : V7 (.int n) (.int 7) = some (.int (n / 7)):=ag2 (by decide) (sml 7 (by decide))
 have d91 : V7 (.int n) (.int 91) = some (.int (n / 91)):=ag2 (by decide) (sml 91 (by decide))
 have d14 : V7 (.int n) (.int 14) = some (.int (n / 14)):=ag2 (by decide) (sml 14 (by decide))
 have m2 : Q8 (.int (n / 7)) (.int 2) = some (.int (n / 7 % 2)):=ab3 (by decide)
 have m6 : Q8 (.int (n / 14)) (.int 6) = some (.int (n / 14 % 6)):=ab3 (by decide)
 have m7 : Q8 (.int n) (.int 7) = some (.int (n % 7)):=ab3 (by decide)
 have ml : Q8 (.int (n / 7)) (.int ((xs.length : Nat) : Int)) = some (.int (n / 7 % ((xs.length : Nat) : Int))):=ab3 (by omega)
 have lz : decide ((0 : Int) < ((xs.length : Nat) : Int)) = true:=decide_eq_true (by omega)
 have c1:=af4 xs none (some (-1))
 have c2:=af4 xs (some (-1)) none
 have c3:=af4 xs (some 1) none
 have k1 : V2 (.tuple xs) (.tuple (L6 xs (some (-1)) none)) = _:=cat_tup (by omega)
 have k2:=cv7 xs h0 hl
 obtain ⟨o,eo,go,wo⟩:=aB2 (m + 1) (n / 7)
 have wx : wt (.tuple xs) = 1 + wts xs:=by rw [wt]
 obtain ⟨d,hd,e⟩:=aG9 [.list xs,.tuple (L6 xs none (some (-1))),.tuple (xs ++ L6 xs (some (-1)) none),.tuple (L6 xs (some 1) none),.tuple xs.reverse,.tuple (xs ++ xs)] (n / 14) 6 rfl (by show 0 < 6; decide)
 have gd : Gk (m + 3) d:=by
  refine G8 ?_ (G8 ?_ (G8 ?_ (G8 ?_ (G8 ?_ (G8 ?_ ay3))))) d hd
  ·exact bJ9 (by omega) g
  ·exact n5 (by omega) fun x hx=>g x (af3 hx)
  ·exact n5 (by rw [List.length_append]; omega) fun x hx=>(List.mem_append.mp hx).elim (g x) fun hx=>g x (af3 hx)
  ·exact n5 (by omega) fun x hx=>g x (af3 hx)
  ·exact n5 (by rw [List.length_reverse]; omega) fun x hx=>g x (List.mem_reverse.mp hx)
  ·exact n5 (by rw [List.length_append]; omega) fun x hx=>(List.mem_append.mp hx).elim (g x) (g x)
 have wd : wt d ≤ 2 * wt (.tuple xs) + 14:=by
  have w1:=ar9 xs none (some (-1))
  have w2:=ar9 xs (some (-1)) none
  have w3:=ar9 xs (some 1) none
  have w4:=bl7 xs
  simp only [List.mem_cons,List.not_mem_nil,or_false] at hd
  rw [wx]
  rcases hd with rfl | rfl | rfl | rfl | rfl | rfl <;> simp only [wt,u4] <;> omega
 obtain ⟨a,ha,ea⟩:=aG9 xs (n / 7) ((xs.length : Nat) : Int) rfl lp
 by_cases q : 0 < k ∧ 0 < n % 7
 ·obtain ⟨b,eb,gb,wb⟩:=R q.1 a ha (n / 91)
  have p0 : 0 ≤ n / 7 % ((xs.length : Nat) : Int):=Int.emod_nonneg _ (by omega)
  have p1 : n / 7 % ((xs.length : Nat) : Int) < ((xs.length : Nat) : Int):=Int.emod_lt_of_pos _ (by omega)
  generalize hP : n / 7 % ((xs.length : Nat) : Int) = P at *
  have c4:=af4 xs none (some P)
  have c5:=af4 xs (some (P + 1)) none
  have k3 : V2 (.tuple (L6 xs none (some P))) (.tuple [b]) = _:=cat_tup (by show _ + 1 ≤ _; omega)
  have k4 : V2 (.tuple (L6 xs none (some P) ++ [b])) (.tuple (L6 xs (some (P + 1)) none)) = _:=cat_tup (by rw [List.length_append]; show _ + 1 + _ ≤ _; omega)
  have gw : Gk (m + 3) (.tuple (L6 xs none (some P) ++ [b] ++ L6 xs (some (P + 1)) none)):=by
   refine n5 (by rw [List.length_append,List.length_append]; show _ + 1 + _ ≤ _; omega) fun x hx=>?_
   rcases List.mem_append.mp hx with hx | hx
   ·rcases List.mem_append.mp hx with hx | hx
    ·exact g x (af3 hx)
    ·rw [List.mem_singleton.mp hx]; exact gb
   ·exact g x (af3 hx)
  have ww : wt (.tuple (L6 xs none (some P) ++ [b] ++ L6 xs (some (P + 1)) none)) ≤ 2 * wt (.tuple xs) + 14:=by
   obtain ⟨i,rfl⟩:=Int.eq_ofNat_of_zero_le p0
   have hi : i < xs.length:=by omega
   have ci : L6 xs none (some (i : Int)) = xs.take i:=cs9 hi
   have cj : L6 xs (some ((i : Int) + 1)) none = xs.drop (i + 1):=bb3 hi
   have ei : xs[i]? = some a:=by
    rw [M3 (List.getElem?_eq_getElem hi)] at ea
    cases ea
    exact List.getElem?_eq_getElem hi
   have:=cb5 ei
   rw [ci,cj,wx,wt,u4,u4,wts,wts]
   omega
  refine ⟨_,?_,gw,ww⟩
  refine B2 (ρ:=[‹.tuple xs›,‹.int n›,‹.int k›,none,none]) rfl ?_
  wp_walk using evC,G5,q.1,q.2,decide_true,lz,d7,d91,m7,ml,ea,eb,k3,k4
 ·have nx : L7 (tB2 gtI (A6 2) (dC (.int 0))) (L7 (B9 (D3 "tuple" (A6 0))) (L7 (tB2 gtI (D4 (B0 0)) (dC (.int 0))) (tB2 gtI (A9 Q8 (A6 1) (dC (.int 7))) (dC (.int 0))))) [‹.tuple xs›,‹.int n›,‹.int k›,none,none] = some false:=by
   by_cases hk : 0 < k
   ·have : ¬ 0 < n % 7:=fun h=>q ⟨hk,h⟩
    wp_walk using evC,hk,decide_true,lz,m7,this,decide_false
   ·wp_walk using evC,hk,decide_false
  cases h : (n / 7 % 2 == 0) with
  | true =>
   refine ⟨d,?_,gd,wd⟩
   refine B2 (ρ:=[‹.tuple xs›,‹.int n›,‹.int k›,none,none]) rfl ?_
   unfold G5
   rw [B3,sIf,nx]
   wp_walk using evC,lz,d7,d14,m2,m6,h,R8,bp1,k1,k2,e
  | false =>
   refine ⟨o,?_,go,by omega⟩
   refine B2 (ρ:=[‹.tuple xs›,‹.int n›,‹.int k›,none,none]) rfl ?_
   unfold G5
   rw [B3,sIf,nx]
   wp_walk using evC,lz,d7,m2,h,eo
def Sk : Nat → D → Prop
 | _,.none=>True
 | _,.bool _=>True
 | _,.int i=>i.natAbs < 2 ^ 30
 | _,.str x=>x.cps.all (· < 128) = true ∧ x.cps.size ≤ 100
 | n + 1,.tuple xs=>xs.length ≤ 16 ∧ ∀ x ∈ xs,Sk n x
 | _,_=>False
theorem Sk.gk : ∀ (n : Nat) (d : D),Sk n d → Gk n d:=by
 intro n
 induction n with
 | zero=>intro d g; cases d <;> first | exact trivial | exact g | exact Nat.lt_trans g (by decide) | exact g.elim
 | succ n ih =>
  intro d g
  cases d with
  | tuple xs=>exact ⟨by have:=g.1; omega,fun x hx=>ih x (g.2 x hx)⟩
  | none=>exact trivial
  | bool b=>exact trivial
  | int i=>exact Nat.lt_trans (show i.natAbs < 2 ^ 30 from g) (by decide)
  | str x=>exact g
  | list _=>exact g.elim
  | dict _=>exact g.elim
theorem bm5 : ∀ (j m : Nat) (d : D) (k : Int),Sk m d → k ≤ j → ∀ n : Int,∃ d',F7 (j + 1) [d,.int n,.int k] = some d' ∧ Gk (m + 3) d' ∧ wt d' ≤ 2 * wt d + 14:=by
 intro j
 induction j with
 | zero =>
  intro m d k g hk n
  have els : K3 "int" d = some false → (K3 "tuple" d = some false ∨ d = .tuple []) → ∃ d',F7 1 [d,.int n,.int k] = some d' ∧ Gk (m + 3) d' ∧ wt d' ≤ 2 * wt d + 14:=fun a b=>let ⟨d',e,g,q⟩:=aV2 0 (m + 1) d n k a b; ⟨d',e,g,by omega⟩
  cases d with
  | none=>exact els rfl (.inl rfl)
  | str x=>exact els rfl (.inl rfl)
  | bool b=>exact let ⟨d',e,g,q⟩:=aV3 0 (m + 1) b n k; ⟨d',e,g,by omega⟩
  | int i=>exact let ⟨d',e,g,q⟩:=bm4 0 (m + 1) i n k (by cases m <;> exact g); ⟨d',e,g,by omega⟩
  | list _=>cases m <;> exact g.elim
  | dict _=>cases m <;> exact g.elim
  | tuple xs =>
   cases m with
   | zero=>exact g.elim
   | succ m =>
    by_cases h0 : xs = []
    ·subst h0; exact els rfl (.inr rfl)
    ·exact bm3 (m:=m + 1) h0 g.1 (fun x hx=>(Sk.gk _ _ (g.2 x hx)).mono (by omega)) n k (fun hk'=>absurd hk' (by omega))
 | succ j ih =>
  intro m d k g hk n
  have els : K3 "int" d = some false → (K3 "tuple" d = some false ∨ d = .tuple []) → ∃ d',F7 (j + 2) [d,.int n,.int k] = some d' ∧ Gk (m + 3) d' ∧ wt d' ≤ 2 * wt d + 14:=fun a b=>let ⟨d',e,g,q⟩:=aV2 (j + 1) (m + 1) d n k a b; ⟨d',e,g,by omega⟩
  cases d with
  | none=>exact els rfl (.inl rfl)
  | str x=>exact els rfl (.inl rfl)
  | bool b=>exact let ⟨d',e,g,q⟩:=aV3 (j + 1) (m + 1) b n k; ⟨d',e,g,by omega⟩
  | int i=>exact let ⟨d',e,g,q⟩:=bm4 (j + 1) (m + 1) i n k (by cases m <;> exact g); ⟨d',e,g,by omega⟩
  | list _=>cases m <;> exact g.elim
  | dict _=>cases m <;> exact g.elim
  | tuple xs =>
   cases m with
   | zero=>exact g.elim
   | succ m =>
    by_cases h0 : xs = []
    ·subst h0; exact els rfl (.inr rfl)
    ·refine bm3 (j:=j + 1) (m:=m + 1) h0 g.1 (fun x hx=>(Sk.gk _ _ (g.2 x hx)).mono (by omega)) n k fun hk' x hx n'=>?_
     obtain ⟨d',e,q⟩:=ih m x (k - 1) (g.2 x hx) (by omega) n'
     exact ⟨d',e,q⟩
end Sh
namespace Sh
open PySem PySem.Spec PyProof.Rows L2 G
end Sh
namespace Sh
open PySem PySem.Spec PyProof.Rows L2 G
end Sh
namespace Sh
open PySem PySem.Spec PyProof.Rows L2 G
end Sh
namespace Sh
open PySem PySem.Spec PyProof.Rows L2 G
end Sh
namespace Sh
open PySem PySem.Spec PyProof.Rows L2 G
end Sh
namespace Sh
open PySem PySem.Spec PyProof.Rows L2 G
def az2 : DS:=(B4 (G0 (A8 (C6 12) (A5 (A6 0) (A5 (dC (.int 3)) A7))) (A8 Q1 (A5 (D2 (A5 (A6 0) A7)) A7))))
def ac1 : List D → Option D:=E9 az2 1
def Y2 : DS:=(B3 (sIf (C4 (B7 (B9 (D3 "str" (A6 0)))) (B7 (r8 (E2 leI leI (dC (.int 1)) (aM2 (A6 0)) (dC (.int 6)))))) (B4 (dC (.bool false))) C0) (B4 (A9 eqD (D6 (C8 1 [] (aZ3 (A6 0)) (C7 0) (tB2 (inS true) (A6 0) (dC (.str "abcdefghijklmnopqrstuvwxyz"))) (A6 0))) (D6 A7))))
def K7 : List D → Option D:=E9 Y2 1
def af7 : DS:=(B3 (D0 1 (D6 (A5 (dC (.str "over")) (A5 (dC (.str "multiply")) (A5 (dC (.str "screen")) (A5 (dC (.str "plus")) (A5 (dC (.str "atop")) (A5 (dC (.str "cut")) A7)))))))) (B3 (sIf (tB2 eqD (dIx (B0 0) (dC (.int 0))) (dC (.str "tone"))) (D0 1 (D6 (A5 (dC (.str "turn")) (A5 (dC (.str "grey")) (A5 (dC (.str "round")) A7))))) C0) (B3 (sIf (C4 (B7 (B9 (A8 K7 (A5 (dIx (B0 0) (dC (.int 1))) A7)))) (C4 (B7 (B9 (D3 "str" (dIx (B0 0) (dC (.int 2)))))) (tB2 (inD true) (dIx (B0 0) (dC (.int 2))) (A6 1)))) (B4 (dC (.bool false))) C0) (B4 (G0 (A8 E4 (A5 (dIx (B0 0) (dC (.int 3))) A7)) (D3 "bool" (dIx (B0 0) (dC (.int 4)))))))))
def J2 : List D → Option D:=E9 af7 2
def K5 (self : List D → Option D) : DS:=(B3 (sIf (C4 (B7 (B9 (D3 "tuple" (A6 0)))) (C4 (tB2 ltI (D4 (B0 0)) (dC (.int 5))) (tB2 (inD true) (dIx (B0 0) (dC (.int 0))) (D2 (A5 (dC (.str "layer")) (A5 (dC (.str "group")) (A5 (dC (.str "tone")) A7))))))) (B4 (dC (.bool false))) C0) (B3 (sIf (B7 (B9 (A8 J2 (A5 (A6 0) A7)))) (B4 (dC (.bool false))) C0) (B3 (sIf (tB2 eqD (dIx (B0 0) (dC (.int 0))) (dC (.str "tone"))) (B4 (A9 eqD (D4 (B0 0)) (dC (.int 5)))) C0) (B3 (sIf (tB2 eqD (dIx (B0 0) (dC (.int 0))) (dC (.str "group"))) (B3 (sIf (C4 (tB2 neD (D4 (B0 0)) (dC (.int 6))) (C4 (tB2 eqD (A6 1) (dC (.int 0))) (B7 (B9 (D3 "tuple" (dIx (B0 0) (dC (.int 5)))))))) (B4 (dC (.bool false))) C0) (B4 (A9 eqD (D6 (C8 1 [1] (E1 (dIx (B0 0) (dC (.int 5)))) (C7 0) (B7 (B9 (A8 self (A5 (A6 0) (A5 (A9 ag3 (A6 1) (dC (.int 1))) A7))))) (A6 0))) (D6 A7)))) C0) (B3 (sIf (C4 (tB2 neD (D4 (B0 0)) (dC (.int 9))) (B7 (B9 (A8 J1 (A5 (dIx (B0 0) (dC (.int 8))) A7))))) (B4 (dC (.bool false))) C0) (B3 (sIf (tB2 neD (D6 (C8 1 [] (E1 (P8 (A6 0) (D1 (dC (.int 5))) (D1 (dC (.int 7))))) (C7 0) (C4 (B7 (B9 (A8 C2 (A5 (A6 0) A7)))) (B7 (r8 (E2 leI leI (R8 (dC (.int 9))) (A6 0) (dC (.int 9)))))) (A6 0))) (D6 A7)) (B4 (dC (.bool false))) C0) (B3 (sIf (tB2 isB (dIx (B0 0) (dC (.int 7))) (dC .none)) (B4 (dC (.bool true))) C0) (B3 (sIf (C4 (B7 (B9 (D3 "tuple" (dIx (B0 0) (dC (.int 7)))))) (tB2 neD (D4 (qE (dIx (B0 0) (dC (.int 7))))) (D4 (qE (dIx (qE (dIx (B0 0) (dC (.int 8)))) (dC (.int 2))))))) (B4 (dC (.bool false))) C0) (B4 (A9 eqD (D6 (C8 1 [] (E1 (dIx (B0 0) (dC (.int 7)))) (C7 0) (B7 (B9 (A8 E4 (A5 (A6 0) A7)))) (A6 0))) (D6 A7)))))))))))
def C3 : Nat → List D → Option D
 | 0=>fun _=>none
 | k + 1=>E9 (K5 (C3 k)) 2
def aj6 : DS:=(B3 (R3 1 (C8 1 [] (E1 (A8 (E8 12) (A5 (A6 0) A7))) (C7 0) G1 (dIx (B0 0) (dC (.int 1))))) (B4 (A9 eqD (am3 (B0 1)) (D4 (B0 1)))))
def O7 : List D → Option D:=E9 aj6 2
end Sh
namespace Sh
open PySem G L2
theorem aB4 {n : Nat} {d : D} (g : Gk n d) : (∃ t,K3 "tuple" d = some t) ∧ (∃ t,K3 "str" d = some t) ∧ (∃ t,K3 "bool" d = some t):=by
 cases d <;> first | exact ⟨⟨_,rfl⟩,⟨_,rfl⟩,⟨_,rfl⟩⟩ | (cases n <;> exact g.elim)
theorem aF9 {α : Type} (p : α → Bool) (l : List α) : (l.filter fun a=>!p a) = [] ↔ l.all p = true:=by
 rw [List.filter_eq_nil_iff,List.all_eq_true]
 constructor
 ·intro h a ha; have:=h a ha; cases q : p a <;> simp_all
 ·intro h a ha; simp [h a ha]
theorem ak2 {n : Nat} {α : Type} {f : α → D} {l : List α} {p : α → Bool} (g : ∀ a ∈ l,Gk n (f a)) (hl : l.length ≤ 64) (hn : n ≤ 60) : eqD (.list ((l.filter fun a=>!p a).map f)) (.list []) = some (.bool (l.all p)) ∧ neD (.list ((l.filter fun a=>!p a).map f)) (.list []) = some (.bool (!l.all p)):=by
 cases h : l.all p with
 | true=>rw [(aF9 p l).mpr h]; exact ⟨rfl,rfl⟩
 | false =>
  have hz : (l.filter fun a=>!p a) ≠ []:=fun e=>by rw [(aF9 p l).mp e] at h; cases h
  have len : (l.filter fun a=>!p a).length ≤ 64:=Nat.le_trans (List.length_filter_le _ _) hl
  have gm : ∀ y ∈ (l.filter fun a=>!p a).map f,Gd n y:=fun y hy=>by
   obtain ⟨a,ha,rfl⟩:=List.mem_map.mp hy
   exact Gk.gd _ _ (g a (List.mem_filter.mp ha).1)
  cases e : (l.filter fun a=>!p a).map f with
  | nil=>exact absurd (List.map_eq_nil_iff.mp e) hz
  | cons x xs =>
   rw [e] at gm
   have len' : (x :: xs).length ≤ 64:=by rw [← e,List.length_map]; exact len
   exact ⟨f8 gm len' hn,aB3 gm len' hn⟩
theorem ai7 {n : Nat} {d : D} (g : Gk n d) (hn : n ≤ 60) : ∃ t,O8 [d] = some (.bool t) ∧ K7 [d] = some (.bool t) ∧ (t = true → ∃ s,d = .str s):=by
 have no : ∀ d : D,K3 "str" d = some false → ∃ t,O8 [d] = some (.bool t) ∧ K7 [d] = some (.bool t) ∧ (t = true → ∃ s,d = .str s):=fun d h=>by
  refine ⟨false,B2 (ρ:=[some (.val d)]) rfl ?_,B2 (ρ:=[some (.val d)]) rfl ?_,fun h=>by cases h⟩
  ·simp only [ab8,B4,G0,D3,A6,xg0,xbs,xms,h]
  ·simp only [Y2,B3,sIf,C4,B7,B9,B4,dC,D3,A6,xg0,xbs,xms,h,G2,xnf,if_true]
 cases d with
 | none=>exact no _ rfl
 | bool _=>exact no _ rfl
 | int _=>exact no _ rfl
 | tuple _=>exact no _ rfl
 | list _=>exact no _ rfl
 | dict _=>cases n <;> exact g.elim
 | str x =>
  obtain ⟨g1,g2⟩ : x.cps.all (· < 128) = true ∧ x.cps.size ≤ 100:=by cases n <;> exact g
  have hl : x.length ≤ 16777216:=by show x.cps.size ≤ _; omega
  have ln : aM2 (A6 0) [‹.str x›] = some (.int x.length):=by
   simp only [aM2,A6,xg0,xbs,hl,if_true]
  have si : aZ3 (A6 0) [‹.str x›] = some (aK7 x):=by
   simp only [aZ3,A6,xg0,xbs,g1,if_true]
  have i1 : D3 "str" (A6 0) [‹.str x›] = some (.bool true):=rfl
  by_cases c : (1 : Int) ≤ x.length ∧ (x.length : Int) ≤ 6
  ·have sl : (aK7 x) = x.cps.toList.map fun c=>PyData.str ⟨#[c]⟩:=rfl
   rw [sl] at si
   have l6 : x.cps.toList.length ≤ 64:=by rw [Array.length_toList]; have : x.length = x.cps.size:=rfl; omega
   let p : Nat → Bool:=fun c=>cs0 ⟨#[c]⟩ "abcdefghijklmnopqrstuvwxyz"
   have c1 : C8 1 [] (aZ3 (A6 0)) (C7 0) G1 (A9 (inS false) (A6 0) (dC (.str "abcdefghijklmnopqrstuvwxyz"))) [‹.str x›] = some (x.cps.toList.map fun c=>.bool (p c)) :=
    ai8 (r:=[]) rfl si (by omega) fun c _=>rfl
   have c2 : C8 1 [] (aZ3 (A6 0)) (C7 0) (tB2 (inS true) (A6 0) (dC (.str "abcdefghijklmnopqrstuvwxyz"))) (A6 0) [‹.str x›] = some ((x.cps.toList.filter fun c=>!p c).map fun c=>.str ⟨#[c]⟩) :=
    U1 (r:=[]) rfl si (by omega) (fun c _=>rfl) fun c _=>rfl
   have e:=(ak2 (n:=0) (f:=fun c=>PyData.str ⟨#[c]⟩) (l:=x.cps.toList) (p:=p) (fun c hc=>Z0 0 _ (by
    have:=(Array.all_eq_true' (as:=x.cps) (p:=(· < 128))).mp g1 c (by simpa using hc)
    simpa using this) (by show 1 ≤ 100; decide)) l6 (by decide)).1
   refine ⟨x.cps.toList.all p,B2 (ρ:=[‹.str x›]) rfl ?_,B2 (ρ:=[‹.str x›]) rfl ?_,fun _=>⟨x,rfl⟩⟩
   ·simp only [ab8,B4,G0,i1,E2,dC,ln,t7,c.1,c.2,decide_true,Y1,qN,c1,xbs,xms,xft,if_false,if_true,aj5]
   ·simp only [Y2,B3,sIf,C0,C4,B7,B9,r8,B4,dC,i1,E2,ln,t7,c.1,c.2,decide_true,G2,B8,xnt,xnf,xft,if_false,if_true,A9,D6,c2,A7,xbs,xms,e]
  ·refine ⟨false,B2 (ρ:=[‹.str x›]) rfl ?_,B2 (ρ:=[‹.str x›]) rfl ?_,fun h=>by cases h⟩
   ·by_cases a : (1 : Int) ≤ x.length
    ·have b : ¬ (x.length : Int) ≤ 6:=fun b=>c ⟨a,b⟩
     simp only [ab8,B4,G0,i1,E2,dC,ln,t7,a,b,decide_true,decide_false,xbs,xms]
    ·simp only [ab8,B4,G0,i1,E2,dC,ln,t7,a,decide_false,xbs,xms]
   ·by_cases a : (1 : Int) ≤ x.length
    ·have b : ¬ (x.length : Int) ≤ 6:=fun b=>c ⟨a,b⟩
     simp only [Y2,B3,sIf,C4,B7,B9,r8,B4,dC,i1,E2,ln,t7,a,b,decide_true,decide_false,G2,B8,xnt,xnf,xft,if_false,if_true,xbs,xms]
    ·simp only [Y2,B3,sIf,C4,B7,B9,r8,B4,dC,i1,E2,ln,t7,a,decide_false,G2,B8,xnt,xnf,xft,if_false,if_true,xbs,xms]
theorem aB1 {n : Nat} {d : D} (g : Gk n d) : ∃ t : Bool,P2 [d] = some (.bool t) ∧ (C4 (B7 (B9 (A8 C2 (A5 (A6 0) A7)))) (B7 (r8 (E2 leI leI (R8 (dC (.int 9))) (A6 0) (dC (.int 9)))))) [some (.val d)] = some (!t):=by
 have no : ∀ d : D,J8 [d] = some (.bool false) → C2 [d] = some (.bool false) → ∃ t : Bool,P2 [d] = some (.bool t) ∧ (C4 (B7 (B9 (A8 C2 (A5 (A6 0) A7)))) (B7 (r8 (E2 leI leI (R8 (dC (.int 9))) (A6 0) (dC (.int 9)))))) [some (.val d)] = some (!t):=fun d e1 e2=>by
  refine ⟨false,B2 (ρ:=[some (.val d)]) rfl ?_,?_⟩
  ·wp_walk using evD,Y3,e1
  ·wp_walk using evD,e2
 cases d with
 | int i =>
  have w1 : J8 [.int i] = some (.bool true):=rfl
  have w2 : C2 [.int i] = some (.bool true):=rfl
  have ng : ∀ ρ,R8 (dC (.int 9)) ρ = some (.int (-9)):=fun _=>rfl
  by_cases a : -9 ≤ i
  ·by_cases b : i ≤ 9
   ·refine ⟨true,B2 (ρ:=[‹.int i›]) rfl ?_,?_⟩
    ·wp_walk using evD,Y3,w1,ng,a,b,decide_true
    ·wp_walk using evD,w2,ng,a,b,decide_true
   ·refine ⟨false,B2 (ρ:=[‹.int i›]) rfl ?_,?_⟩
    ·wp_walk using evD,Y3,w1,ng,a,b,decide_true,decide_false
    ·wp_walk using evD,w2,ng,a,b,decide_true,decide_false
  ·refine ⟨false,B2 (ρ:=[‹.int i›]) rfl ?_,?_⟩
   ·wp_walk using evD,Y3,w1,ng,a,decide_false
   ·wp_walk using evD,w2,ng,a,decide_false
 | none=>exact no _ rfl rfl
 | bool b=>exact no _ rfl rfl
 | str x=>exact no _ rfl rfl
 | tuple xs=>exact no _ rfl rfl
 | list xs=>exact no _ rfl rfl
 | dict _=>cases n <;> exact g.elim
abbrev bF9 : D:=.tuple [.str "over", .str "multiply", .str "screen", .str "plus", .str "atop", .str "cut"]
abbrev aY4 : D:=.list [.str "over", .str "multiply", .str "screen", .str "plus", .str "atop", .str "cut"]
abbrev cF8 : D:=.tuple [.str "turn", .str "grey", .str "round"]
abbrev cx2 : D:=.list [.str "turn", .str "grey", .str "round"]
theorem aq6 {n : Nat} {d : D} (g : Gk n d) (hn : n ≤ 60) (ys : List Str) : ∃ b s : Bool,inD true d (.tuple (ys.map PyData.str)) = some (.bool (!b)) ∧ inD false d (.tuple (ys.map PyData.str)) = some (.bool b) ∧ K3 "str" d = some s ∧ (s = false → b = false) ∧ (s = true → inD true d (.list (ys.map PyData.str)) = some (.bool (!b))) ∧ (b = true → ∃ x,d = .str x ∧ x ∈ ys):=by
 have f : (ys.map PyData.str).all P0 = true:=by
  rw [List.all_eq_true]; intro d hd; obtain ⟨y,_,rfl⟩:=List.mem_map.mp hd; rfl
 have fs : (ys.map PyData.str).all isS = true:=by
  rw [List.all_eq_true]; intro d hd; obtain ⟨y,_,rfl⟩:=List.mem_map.mp hd; rfl
 have far : ∀ d : D,P0 d = false → SeqAt.shaped d = true → K3 "str" d = some false → ∃ b s : Bool,inD true d (.tuple (ys.map PyData.str)) = some (.bool (!b)) ∧ inD false d (.tuple (ys.map PyData.str)) = some (.bool b) ∧ K3 "str" d = some s ∧ (s = false → b = false) ∧ (s = true → inD true d (.list (ys.map PyData.str)) = some (.bool (!b))) ∧ (b = true → ∃ x,d = .str x ∧ x ∈ ys):=fun d h1 h2 h3=>by
  have e : ∀ neg,inD neg d (.tuple (ys.map PyData.str)) = some (.bool neg):=fun neg=>by
   show (if P0 d = true ∧ (ys.map PyData.str).all P0 = true then _ else if P0 d = false ∧ SeqAt.shaped d = true ∧ (ys.map PyData.str).all isS = true then some (PyData.bool neg) else _) = _
   rw [if_neg (by rw [h1]; simp),if_pos ⟨h1,h2,fs⟩]
  exact ⟨false,false,e true,e false,h3,fun _=>rfl,(fun z=>by cases z),fun z=>by cases z⟩
 have flat : ∀ d : D,P0 d = true → K3 "str" d = some false → inV (toV d) ((ys.map PyData.str).map toV) = false → ∃ b s : Bool,inD true d (.tuple (ys.map PyData.str)) = some (.bool (!b)) ∧ inD false d (.tuple (ys.map PyData.str)) = some (.bool b) ∧ K3 "str" d = some s ∧ (s = false → b = false) ∧ (s = true → inD true d (.list (ys.map PyData.str)) = some (.bool (!b))) ∧ (b = true → ∃ x,d = .str x ∧ x ∈ ys):=fun d h1 h3 h4=>by
  have e : ∀ neg,inD neg d (.tuple (ys.map PyData.str)) = some (.bool neg):=fun neg=>by
   show (if P0 d = true ∧ (ys.map PyData.str).all P0 = true then some (PyData.bool (if neg then !inV (toV d) ((ys.map PyData.str).map toV) else inV (toV d) ((ys.map PyData.str).map toV))) else _) = _
   rw [if_pos ⟨h1,f⟩,h4]; cases neg <;> rfl
  exact ⟨false,false,e true,e false,h3,fun _=>rfl,(fun z=>by cases z),fun z=>by cases z⟩
 have nov : ∀ v : V,(∀ y : Str,inV v [.str y] = false) → inV v ((ys.map PyData.str).map toV) = false:=fun v h=>by
  unfold inV at h ⊢
  rw [List.map_map,List.any_map,List.any_eq_false]
  intro y _
  have e : eqV (V.str y) v = false:=by simpa using h y
  show ¬ eqV (V.str y) v = true
  rw [e]; exact Bool.false_ne_true
 cases d with
 | none=>exact flat _ rfl rfl (nov _ fun y=>rfl)
 | bool b=>exact flat _ rfl rfl (nov _ fun y=>rfl)
 | int i=>exact flat _ rfl rfl (nov _ fun y=>rfl)
 | tuple xs=>exact far _ rfl (g.ly.shaped (by omega)) rfl
 | list xs=>exact far _ rfl (g.ly.shaped (by omega)) rfl
 | dict _=>cases n <;> exact g.elim
 | str x =>
  have e1:=X0 true x ys
  have e2:=X0 false x ys
  refine ⟨ys.any fun y=>y == x,true,e1,e2,rfl,(fun z=>by cases z),fun _=>?_,fun h=>?_⟩
  ·have iv : inV (toV (.str x)) ((ys.map PyData.str).map toV) = ys.any fun y=>y == x:=by
    unfold inV
    rw [List.map_map,List.any_map]
    rfl
   show (if P0 (.str x) = true ∧ (ys.map PyData.str).all P0 = true then some (PyData.bool (if true = true then !inV (toV (.str x)) ((ys.map PyData.str).map toV) else inV (toV (.str x)) ((ys.map PyData.str).map toV))) else none) = _
   rw [if_pos ⟨rfl,f⟩,iv]; rfl
  ·obtain ⟨y,hy,e⟩:=List.any_eq_true.mp h
   simp only [beq_iff_eq] at e
   exact ⟨x,rfl,e ▸ hy⟩
theorem aY6 {n : Nat} {d : D} (g : Gk n d) (hn : n ≤ 60) : d = .str "layer" ∨ d = .str "group" ∨ d = .str "tone" ∨ (eqD d (.str "layer") = some (.bool false) ∧ eqD d (.str "group") = some (.bool false) ∧ eqD d (.str "tone") = some (.bool false) ∧ inD true d (.tuple [.str "layer", .str "group", .str "tone"]) = some (.bool true)):=by
 have sh:=g.ly.shaped (show n ≤ 64 by omega)
 obtain ⟨b,s,h1,h2,h3,h4,h5,h6⟩:=aq6 g hn ["layer", "group", "tone"]
 cases b with
 | true =>
  obtain ⟨x,rfl,hx⟩:=h6 rfl
  simp only [List.mem_cons,List.not_mem_nil,or_false] at hx
  rcases hx with rfl | rfl | rfl
  ·exact .inl rfl
  ·exact .inr (.inl rfl)
  ·exact .inr (.inr (.inl rfl))
 | false =>
  refine .inr (.inr (.inr ?_))
  have ne : ∀ y : Str,SeqAt.shaped (.str y) = true → y ∈ (["layer", "group", "tone"] : List Str) → eqD d (.str y) = some (.bool false):=fun y hs hy=>by
   unfold eqD
   rw [if_pos ⟨sh,hs⟩]
   congr 2
   cases d with
   | str x =>
    have:=X0 false x ["layer", "group", "tone"]
    rw [show (.tuple ((["layer", "group", "tone"] : List Str).map PyData.str) : D) = .tuple ((["layer", "group", "tone"] : List Str).map PyData.str) from rfl] at this
    rw [h2] at this
    simp only [xft,if_false,Option.some.injEq,PyData.bool.injEq] at this
    have:=List.any_eq_false.mp this.symm y hy
    show (x == y) = false
    cases q : x == y with
    | false=>rfl
    | true=>rw [beq_iff_eq.mp q] at this; simp at this
   | _=>rfl
  exact ⟨ne _ (by decide +kernel) (by simp),ne _ (by decide +kernel) (by simp),ne _ (by decide +kernel) (by simp),h1⟩
end Sh
namespace Sh
open PySem G L2
def shB (d : D) : Bool:=@decide (F8 [d] = some (.bool true)) (Classical.propDecidable _)
theorem bm7 {n : Nat} {d : D} (g : Gk n d) : F8 [d] = some (.bool (shB d)) ∧ E4 [d] = some (.bool (shB d)):=by
 obtain ⟨t,e1,e2,_⟩:=W4 (Gk.gd _ _ g)
 have : shB d = t:=by
  unfold shB
  cases t with
  | true=>exact @decide_eq_true _ (Classical.propDecidable _) e1
  | false=>exact @decide_eq_false _ (Classical.propDecidable _) (by rw [e1]; intro z; cases z)
 rw [this]; exact ⟨e1,e2⟩
theorem bq9 {n : Nat} {d : D} (g : Gk n d) (h : L3 [d] = some (.bool true)) : ∃ a b sp,d = .tuple [a,b,.tuple sp]:=by
 have no : ∀ {d : D},L3 [d] = some (.bool false) → L3 [d] = some (.bool true) → False:=fun h1 h2=>by rw [h1] at h2; cases h2
 cases d with
 | tuple xs =>
  cases n with
  | zero=>exact g.elim
  | succ n =>
  match xs,g,h with
  | [a,b,c],g,h =>
   have ga:=g.2 a (by simp)
   have gb:=g.2 b (by simp)
   have gc:=g.2 c (by simp)
   obtain ⟨ta,ea,_,_⟩:=as3 (Gk.gd _ _ ga)
   obtain ⟨tb,eb,_,_⟩:=as3 (Gk.gd _ _ gb)
   have key : K3 "tuple" c = some false → False:=fun hc=>by
    refine no ?_ h
    have zz : S4 [.tuple [a,b,c]] = some (.bool false):=by
     refine B2 (ρ:=[‹.tuple [a,b,c]›]) rfl ?_
     have hi : D3 "tuple" (dIx (B0 0) (dC (.int 2))) [‹.tuple [a,b,c]›] = some (.bool false):=by
      simp only [D3,dIx,B0,dC,xg0,xbs,af5,hc,xms]
     have hi0 : D3 "tuple" (A6 0) [‹.tuple [a,b,c]›] = some (.bool true):=rfl
     have g0 : dIx (B0 0) (dC (.int 0)) [‹.tuple [a,b,c]›] = some a:=rfl
     have g1 : dIx (B0 0) (dC (.int 1)) [‹.tuple [a,b,c]›] = some b:=rfl
     have l3 : ((([a,b,c] : List D).length : Nat) : Int) = 3:=rfl
     have b3 : ((3 : Int) == 3) = true:=rfl
     cases ta <;> cases tb <;> simp only [o0,B3,sIf,C0,B4,C4,B7,B9,tB2,A9,D4,A8,A5,A7,G0,hi,hi0,g0,g1,B0,dC,A6,xg0,xbs,xms,l3,O0,b3,B8,G2,xnt,xnf,xft,if_true,if_false,ea,eb,Bool.true_and,Bool.false_and]
    refine B2 (ρ:=[‹.tuple [a,b,c]›,none]) rfl ?_
    wp_walk using evD,S1,zz
   cases c with
   | tuple sp=>exact ⟨a,b,sp,rfl⟩
   | dict _=>exfalso; cases n <;> exact gc.elim
   | none=>exact (key rfl).elim
   | bool _=>exact (key rfl).elim
   | int _=>exact (key rfl).elim
   | str _=>exact (key rfl).elim
   | list _=>exact (key rfl).elim
  | [],_,h=>exact (no (X9 (by decide)).1 h).elim
  | [a],_,h=>exact (no (X9 (by simp)).1 h).elim
  | [a,b],_,h=>exact (no (X9 (by simp)).1 h).elim
  | a :: b :: c :: e :: r,_,h=>exact (no (X9 (by simp)).1 h).elim
 | none=>exact (no (L8 rfl).1 h).elim
 | bool _=>exact (no (L8 rfl).1 h).elim
 | int _=>exact (no (L8 rfl).1 h).elim
 | str _=>exact (no (L8 rfl).1 h).elim
 | list _=>exact (no (L8 rfl).1 h).elim
 | dict _=>cases n <;> exact g.elim
def bh2 : DS:=(B3 (sIf (tB2 isB (dIx (B0 0) (dC (.int 7))) (dC .none)) (B4 (dC (.bool true))) C0) (B3 (sIf (C4 (B7 (B9 (D3 "tuple" (dIx (B0 0) (dC (.int 7)))))) (tB2 neD (D4 (qE (dIx (B0 0) (dC (.int 7))))) (D4 (qE (dIx (qE (dIx (B0 0) (dC (.int 8)))) (dC (.int 2))))))) (B4 (dC (.bool false))) C0) (B4 (A9 eqD (D6 (C8 1 [] (E1 (dIx (B0 0) (dC (.int 7)))) (C7 0) (B7 (B9 (A8 E4 (A5 (A6 0) A7)))) (A6 0))) (D6 A7)))))
theorem bF8 {n : Nat} {m : D} (g : Gk n m) (hn : n ≤ 60) (a b : D) (sp : List D) (xs : List D) (k : D) (h7 : atI xs 7 = some m) (h8 : atI xs 8 = some (.tuple [a,b,.tuple sp])) : ∃ t,ac2 [m,.tuple [a,b,.tuple sp]] = some (.bool t) ∧ bh2 [‹.tuple xs›,some (.val k)] = some (.rt (.bool t)):=by
 have i7 : dIx (B0 0) (dC (.int 7)) [‹.tuple xs›,some (.val k)] = some m:=by simp only [dIx,B0,dC,xg0,xbs,h7]
 have i8 : dIx (qE (dIx (B0 0) (dC (.int 8)))) (dC (.int 2)) [‹.tuple xs›,some (.val k)] = some (.tuple sp):=by
  simp only [dIx,B0,qE,dC,xg0,xbs,h8,k9,af5]
 have j2 : dIx (B0 1) (dC (.int 2)) [some (.val m),‹.tuple [a,b,.tuple sp]›] = some (.tuple sp):=rfl
 have no : isB m .none = some (.bool false) → K3 "tuple" m = some false → ∃ t,ac2 [m,.tuple [a,b,.tuple sp]] = some (.bool t) ∧ bh2 [‹.tuple xs›,some (.val k)] = some (.rt (.bool t)):=fun h1 h2=>by
  refine ⟨false,B2 (ρ:=[some (.val m),‹.tuple [a,b,.tuple sp]›]) rfl ?_,?_⟩
  ·simp only [am6,B3,sIf,C0,B4,tB2,C4,B7,B9,A9,D3,A6,dC,xg0,xbs,xms,h1,h2,B8,G2,xnf,xft,if_false,if_true]
  ·simp only [bh2,B3,sIf,C0,B4,tB2,C4,B7,B9,A9,D3,dC,i7,xbs,xms,h1,h2,B8,G2,xnf,xft,if_false,if_true]
 cases m with
 | none =>
  refine ⟨true,rfl,?_⟩
  have h1 : isB .none .none = some (.bool true):=rfl
  simp only [bh2,B3,sIf,B4,tB2,A9,dC,i7,xbs,xms,h1,B8,if_true]
 | bool _=>exact no rfl rfl
 | int _=>exact no rfl rfl
 | str _=>exact no rfl rfl
 | list _=>exact no rfl rfl
 | dict _=>cases n <;> exact g.elim
 | tuple ys =>
  cases n with
  | zero=>exact g.elim
  | succ n =>
  have h1 : isB (.tuple ys) .none = some (.bool false):=rfl
  have h2 : K3 "tuple" (.tuple ys) = some true:=rfl
  have ld : D4 (qE (dIx (B0 0) (dC (.int 7)))) [‹.tuple xs›,some (.val k)] = some (.int ys.length):=by simp only [D4,qE,i7,xbs,xms,k9]
  have l8 : D4 (qE (dIx (qE (dIx (B0 0) (dC (.int 8)))) (dC (.int 2)))) [‹.tuple xs›,some (.val k)] = some (.int sp.length):=by simp only [D4,qE,xbs,xms] at i8 ⊢; rw [i8]; rfl
  have l2 : D4 (qE (dIx (B0 1) (dC (.int 2)))) [‹.tuple ys›,‹.tuple [a,b,.tuple sp]›] = some (.int sp.length):=by simp only [D4,qE,j2,xbs,xms,k9]
  have l0 : D4 (B0 0) [‹.tuple ys›,‹.tuple [a,b,.tuple sp]›] = some (.int ys.length):=rfl
  cases c : (((ys.length : Nat) : Int) == ((sp.length : Nat) : Int)) with
  | false =>
   refine ⟨false,B2 (ρ:=[‹.tuple ys›,‹.tuple [a,b,.tuple sp]›]) rfl ?_,?_⟩
   ·simp only [am6,B3,sIf,C0,B4,tB2,C4,B7,B9,A9,D3,A6,dC,xg0,xbs,xms,h1,h2,l0,l2,O0,c,B8,G2,xnt,xnf,xft,if_false,if_true]
   ·simp only [bh2,B3,sIf,C0,B4,tB2,C4,B7,B9,A9,D3,dC,i7,xbs,xms,h1,h2,ld,l8,O0,c,B8,G2,xnt,xnf,xft,if_false,if_true]
  | true =>
   have gy : ∀ y ∈ ys,Gk n y:=g.2
   have c1 : C8 1 [] (E1 (A6 0)) (C7 0) G1 (A8 F8 (A5 (A6 0) A7)) [‹.tuple ys›,‹.tuple [a,b,.tuple sp]›] = some (ys.map fun y=>.bool (shB y)):=by
    refine ai8 (l:=ys) (h:=id) (r:=[]) rfl (by rw [List.map_id]; rfl) (by have:=g.1; omega) fun y hy=>?_
    wp_walk using evD,id,(bm7 (gy y hy)).1
   have c2 : C8 1 [] (E1 (dIx (B0 0) (dC (.int 7)))) (C7 0) (B7 (B9 (A8 E4 (A5 (A6 0) A7)))) (A6 0) [‹.tuple xs›,some (.val k)] = some ((ys.filter fun y=>!shB y).map id):=by
    refine U1 (l:=ys) (h:=id) (f:=id) (p:=fun y=>!shB y) (r:=[]) rfl (by rw [List.map_id]; simp only [E1,i7,xbs]) (by have:=g.1; omega) (fun y hy=>?_) fun y _=>rfl
    wp_walk using evD,id,(bm7 (gy y hy)).2
   have e:=(ak2 (n:=n) (f:=id) (l:=ys) (p:=shB) gy g.1 (by omega)).1
   refine ⟨ys.all shB,B2 (ρ:=[‹.tuple ys›,‹.tuple [a,b,.tuple sp]›]) rfl ?_,?_⟩
   ·simp only [am6,B3,sIf,C0,B4,tB2,C4,B7,B9,A9,D3,A6,dC,xg0,xbs,xms,h1,h2,l0,l2,O0,c,B8,G2,xnt,xnf,xft,if_false,if_true,Y1,qN,c1,aj5]
   ·simp only [bh2,B3,sIf,C0,B4,tB2,C4,B7,B9,A9,D3,dC,i7,xbs,xms,h1,h2,ld,l8,O0,c,B8,G2,xnt,xnf,xft,if_false,if_true,D6,c2,A7,e]
end Sh
namespace Sh
open PySem G L2
def bG3 : DS:=(B3 (sIf (C4 (tB2 neD (D4 (B0 0)) (dC (.int 9))) (B7 (B9 (A8 J1 (A5 (dIx (B0 0) (dC (.int 8))) A7))))) (B4 (dC (.bool false))) C0) (B3 (sIf (tB2 neD (D6 (C8 1 [] (E1 (P8 (A6 0) (D1 (dC (.int 5))) (D1 (dC (.int 7))))) (C7 0) (C4 (B7 (B9 (A8 C2 (A5 (A6 0) A7)))) (B7 (r8 (E2 leI leI (R8 (dC (.int 9))) (A6 0) (dC (.int 9)))))) (A6 0))) (D6 A7)) (B4 (dC (.bool false))) C0) bh2))
theorem cn1 {n : Nat} (hn : n ≤ 59) {a0 a1 a2 a3 a4 a5 a6 a7 a8 : D} {b : Bool} (hb : inD true a2 bF9 = some (.bool (!b))) (g5 : Gk n a5) (g6 : Gk n a6) (g7 : Gk n a7) (g8 : Gk n a8) (k : D) :
  ∃ t,L5 [.tuple [a0,a1,a2,a3,a4,a5,a6,a7,a8]] = some (.bool (b && t)) ∧ bG3 [‹.tuple [a0,a1,a2,a3,a4,a5,a6,a7,a8]›,some (.val k)] = some (.rt (.bool t)):=by
 have l9 : ((([a0,a1,a2,a3,a4,a5,a6,a7,a8] : List D).length : Nat) : Int) = 9:=rfl
 have b9 : ((9 : Int) == 9) = true:=rfl
 have x2 : P1 [.tuple [a0,a1,a2,a3,a4,a5,a6,a7,a8]] = some a2:=rfl
 have x5 : an0 [.tuple [a0,a1,a2,a3,a4,a5,a6,a7,a8]] = some a5:=rfl
 have x6 : au9 [.tuple [a0,a1,a2,a3,a4,a5,a6,a7,a8]] = some a6:=rfl
 have x7 : am9 [.tuple [a0,a1,a2,a3,a4,a5,a6,a7,a8]] = some a7:=rfl
 have x8 : o9 [.tuple [a0,a1,a2,a3,a4,a5,a6,a7,a8]] = some a8:=rfl
 have i8 : dIx (B0 0) (dC (.int 8)) [‹.tuple [a0,a1,a2,a3,a4,a5,a6,a7,a8]›,some (.val k)] = some a8:=rfl
 obtain ⟨ts,s1,s2⟩:=br0 (Gk.gd _ _ g8) (by omega)
 cases ts with
 | false =>
  refine ⟨false,B2 (ρ:=[‹.tuple [a0,a1,a2,a3,a4,a5,a6,a7,a8]›]) rfl ?_,?_⟩
  ·rw [Bool.and_false]
   cases b with
   | false =>
    rw [xnf] at hb
    wp_walk using evD,J3,l9,b9,x2,hb
   | true =>
    rw [xnt] at hb
    wp_walk using evD,J3,l9,b9,x2,hb,x8,s1
  ·simp only [bG3,B3,sIf,C0,B4,C4,B7,B9,tB2,A9,D4,B0,dC,A8,A5,A7,i8,xg0,xbs,xms,l9,b9,O0,s2,B8,G2,xnt,xnf,xft,if_true,if_false]
 | true =>
  obtain ⟨p,q,sp,rfl⟩:=bq9 g8 s1
  obtain ⟨o5,e5,f5⟩:=aB1 g5
  obtain ⟨o6,e6,f6⟩:=aB1 g6
  obtain ⟨tm,m1,m2⟩:=bF8 g7 (by omega) p q sp [a0,a1,a2,a3,a4,a5,a6,a7,.tuple [p,q,.tuple sp]] k rfl rfl
  have c : C8 1 [] (E1 (P8 (A6 0) (D1 (dC (.int 5))) (D1 (dC (.int 7))))) (C7 0) (C4 (B7 (B9 (A8 C2 (A5 (A6 0) A7)))) (B7 (r8 (E2 leI leI (R8 (dC (.int 9))) (A6 0) (dC (.int 9)))))) (A6 0) [‹.tuple [a0,a1,a2,a3,a4,a5,a6,a7,.tuple [p,q,.tuple sp]]›,some (.val k)] = some (([(a5,o5),(a6,o6)].filter fun z=>!z.2).map Prod.fst):=by
   refine U1 (l:=[(a5,o5),(a6,o6)]) (h:=Prod.fst) (f:=Prod.fst) (p:=fun z=>!z.2) (r:=[]) rfl rfl (by show 2 ≤ 1000; decide) ?_ fun z _=>rfl
   intro z hz
   simp only [List.mem_cons,List.not_mem_nil,or_false] at hz
   rcases hz with rfl | rfl
   ·exact f5
   ·exact f6
  have en:=(ak2 (n:=n) (f:=Prod.fst) (l:=[(a5,o5),(a6,o6)]) (p:=Prod.snd) (fun z hz=>by
   simp only [List.mem_cons,List.not_mem_nil,or_false] at hz
   rcases hz with rfl | rfl
   ·exact g5
   ·exact g6) (by show 2 ≤ 64; decide) (by omega)).2
  have al : ([(a5,o5),(a6,o6)] : List (D × Bool)).all Prod.snd = (o5 && o6):=by simp
  rw [al] at en
  refine ⟨o5 && (o6 && tm),B2 (ρ:=[‹.tuple [a0,a1,a2,a3,a4,a5,a6,a7,.tuple [p,q,.tuple sp]]›]) rfl ?_,?_⟩
  ·cases b with
   | false =>
    rw [xnf] at hb
    wp_walk using evD,J3,l9,b9,x2,hb,Bool.false_and
   | true =>
    rw [xnt] at hb
    cases o5 <;> cases o6 <;> wp_walk using evD,J3,l9,b9,x2,hb,x5,x6,x7,x8,s1,e5,e6,m1,Bool.true_and,Bool.false_and
  ·have h1 : (sIf (C4 (tB2 neD (D4 (B0 0)) (dC (.int 9))) (B7 (B9 (A8 J1 (A5 (dIx (B0 0) (dC (.int 8))) A7))))) (B4 (dC (.bool false))) C0) [‹.tuple [a0,a1,a2,a3,a4,a5,a6,a7,.tuple [p,q,.tuple sp]]›,some (.val k)] = some (.nx [‹.tuple [a0,a1,a2,a3,a4,a5,a6,a7,.tuple [p,q,.tuple sp]]›,some (.val k)]):=by
    simp only [sIf,C0,B4,C4,B7,B9,tB2,A9,D4,B0,dC,A8,A5,A7,i8,xg0,xbs,xms,l9,b9,O0,s2,B8,G2,xnt,xnf,xft,if_true,if_false]
   unfold bG3
   rw [B6 h1]
   have nn : D6 A7 [‹.tuple [a0,a1,a2,a3,a4,a5,a6,a7,.tuple [p,q,.tuple sp]]›,some (.val k)] = some (.list []):=rfl
   cases o : (o5 && o6) with
   | false =>
    rw [o] at en
    have : (o5 && (o6 && tm)) = false:=by rw [← Bool.and_assoc,o]; rfl
    rw [this]
    simp only [B3,sIf,B4,tB2,A9,D6,c,nn,dC,A7,xbs,xms,en,B8,xnf,if_true]
   | true =>
    rw [o] at en
    have : (o5 && (o6 && tm)) = tm:=by rw [← Bool.and_assoc,o]; rfl
    rw [this]
    have h2 : (sIf (tB2 neD (D6 (C8 1 [] (E1 (P8 (A6 0) (D1 (dC (.int 5))) (D1 (dC (.int 7))))) (C7 0) (C4 (B7 (B9 (A8 C2 (A5 (A6 0) A7)))) (B7 (r8 (E2 leI leI (R8 (dC (.int 9))) (A6 0) (dC (.int 9)))))) (A6 0))) (D6 A7)) (B4 (dC (.bool false))) C0) [‹.tuple [a0,a1,a2,a3,a4,a5,a6,a7,.tuple [p,q,.tuple sp]]›,some (.val k)] = some (.nx [‹.tuple [a0,a1,a2,a3,a4,a5,a6,a7,.tuple [p,q,.tuple sp]]›,some (.val k)]):=by
     simp only [sIf,B4,C0,tB2,A9,D6,c,dC,A7,xbs,xms,en,B8,xnt,xft,if_false]
    rw [B6 h2]
    exact m2
def aI5 (self : List D → Option D) : DS:=(B3 (sIf (C4 (tB2 neD (D4 (B0 0)) (dC (.int 6))) (C4 (tB2 eqD (A6 1) (dC (.int 0))) (B7 (B9 (D3 "tuple" (dIx (B0 0) (dC (.int 5)))))))) (B4 (dC (.bool false))) C0) (B4 (A9 eqD (D6 (C8 1 [1] (E1 (dIx (B0 0) (dC (.int 5)))) (C7 0) (B7 (B9 (A8 self (A5 (A6 0) (A5 (A9 ag3 (A6 1) (dC (.int 1))) A7))))) (A6 0))) (D6 A7))))
theorem cs1 {n : Nat} {a0 a1 a2 a3 a4 a5 : D} {b : Bool} (hb : inD true a2 bF9 = some (.bool (!b))) (f : Nat) (self : List D → Option D) :
  C9 (f + 1) [.tuple [a0,a1,a2,a3,a4,a5],.int 0] = some (.bool false) ∧ aI5 self [‹.tuple [a0,a1,a2,a3,a4,a5]›,‹.int 0›] = some (.rt (.bool false)):=by
 have l6 : ((([a0,a1,a2,a3,a4,a5] : List D).length : Nat) : Int) = 6:=rfl
 have b6 : ((6 : Int) == 6) = true:=rfl
 have z0 : ((0 : Int) == 0) = true:=rfl
 have x2 : P1 [.tuple [a0,a1,a2,a3,a4,a5]] = some a2:=rfl
 refine ⟨B2 (g:=E3 (B1 f)) (ρ:=[‹.tuple [a0,a1,a2,a3,a4,a5]›,‹.int 0›]) rfl ?_,?_⟩
 ·cases b with
  | false=>rw [xnf] at hb; wp_walk using evD,E3,l6,b6,x2,hb
  | true=>rw [xnt] at hb; wp_walk using evD,E3,l6,b6,x2,hb,z0
 ·wp_walk using evD,aI5,l6,b6,z0
theorem bJ5 {n : Nat} (hn : n ≤ 59) {a0 a1 a2 a3 a4 a5 : D} {b : Bool} (hb : inD true a2 bF9 = some (.bool (!b))) (g5 : Gk (n + 1) a5) (k f j : Nat) (nb : D → Bool) (H : ∀ x,Gk n x → C6 f [x,.int k] = some (.bool (nb x)) ∧ C3 j [x,.int k] = some (.bool (nb x))) :
  ∃ t,C9 (f + 2) [.tuple [a0,a1,a2,a3,a4,a5],.int ((k + 1 : Nat) : Int)] = some (.bool (b && t)) ∧ aI5 (C3 j) [‹.tuple [a0,a1,a2,a3,a4,a5]›,‹.int ((k + 1 : Nat) : Int)›] = some (.rt (.bool t)) ∧ (t = true → ∃ ks,a5 = .tuple ks ∧ ks.all nb = true):=by
 have l6 : ((([a0,a1,a2,a3,a4,a5] : List D).length : Nat) : Int) = 6:=rfl
 have b6 : ((6 : Int) == 6) = true:=rfl
 have z0 : (((k + 1 : Nat) : Int) == 0) = false:=beq_eq_false_iff_ne.mpr (by omega)
 have k1 : ((k + 1 : Nat) : Int) - 1 = (k : Int):=by omega
 have x2 : P1 [.tuple [a0,a1,a2,a3,a4,a5]] = some a2:=rfl
 have x5 : J9 [.tuple [a0,a1,a2,a3,a4,a5]] = some a5:=rfl
 have i5 : dIx (B0 0) (dC (.int 5)) [‹.tuple [a0,a1,a2,a3,a4,a5]›,‹.int ((k + 1 : Nat) : Int)›] = some a5:=rfl
 have prog : ∀ t,S6 (f + 1) [a5,.int k] = some (.bool t) → C9 (f + 2) [.tuple [a0,a1,a2,a3,a4,a5],.int ((k + 1 : Nat) : Int)] = some (.bool (b && t)):=fun t h=>by
  refine B2 (g:=E3 (B1 (f + 1))) (ρ:=[‹.tuple [a0,a1,a2,a3,a4,a5]›,‹.int ((k + 1 : Nat) : Int)›]) rfl ?_
  have h' : B1 (f + 1) 2 [a5,.int k] = some (.bool t):=h
  cases b with
  | false=>rw [xnf] at hb; wp_walk using evD,E3,l6,b6,x2,hb,Bool.false_and
  | true=>rw [xnt] at hb; wp_walk using evD,E3,l6,b6,x2,hb,z0,x5,k1,h',Bool.true_and
 have no : K3 "tuple" a5 = some false → ∃ t,C9 (f + 2) [.tuple [a0,a1,a2,a3,a4,a5],.int ((k + 1 : Nat) : Int)] = some (.bool (b && t)) ∧ aI5 (C3 j) [‹.tuple [a0,a1,a2,a3,a4,a5]›,‹.int ((k + 1 : Nat) : Int)›] = some (.rt (.bool t)) ∧ (t = true → ∃ ks,a5 = .tuple ks ∧ ks.all nb = true):=fun h=>by
  refine ⟨false,prog false ?_,?_,fun z=>by cases z⟩
  ·refine B2 (g:=Y4 (B1 f)) (ρ:=[some (.val a5),‹.int k›]) rfl ?_
   simp only [Y4,B4,G0,D3,A6,xg0,xbs,xms,h]
  ·simp only [aI5,B3,sIf,B4,C4,B7,B9,tB2,A9,D4,B0,dC,D3,A6,i5,h,xg0,xg1,xbs,xms,l6,b6,O0,W1,z0,B8,G2,xnt,xnf,xft,if_true,if_false]
 cases a5 with
 | none=>exact no rfl
 | bool _=>exact no rfl
 | int _=>exact no rfl
 | str _=>exact no rfl
 | list _=>exact no rfl
 | dict _=>exact g5.elim
 | tuple ks =>
  have gk : ∀ y ∈ ks,Gk n y:=g5.2
  have c1 : C8 1 [1] (E1 (A6 0)) (C7 0) G1 (A8 (B1 f 1) (A5 (A6 0) (A5 (A6 1) A7))) [‹.tuple ks›,‹.int k›] = some (ks.map fun y=>.bool (nb y)):=by
   refine ai8 (l:=ks) (h:=id) (r:=[‹.int k›]) rfl (by rw [List.map_id]; rfl) (by have:=g5.1; omega) fun y hy=>?_
   have h' : B1 f 1 [y,.int k] = some (.bool (nb y)):=(H y (gk y hy)).1
   wp_walk using evD,id,h'
  have c2 : C8 1 [1] (E1 (dIx (B0 0) (dC (.int 5)))) (C7 0) (B7 (B9 (A8 (C3 j) (A5 (A6 0) (A5 (A9 ag3 (A6 1) (dC (.int 1))) A7))))) (A6 0) [‹.tuple [a0,a1,a2,a3,a4,.tuple ks]›,‹.int ((k + 1 : Nat) : Int)›] = some ((ks.filter fun y=>!nb y).map id):=by
   refine U1 (l:=ks) (h:=id) (f:=id) (p:=fun y=>!nb y) (r:=[‹.int ((k + 1 : Nat) : Int)›]) rfl (by rw [List.map_id]; rfl) (by have:=g5.1; omega) (fun y hy=>?_) fun y _=>rfl
   wp_walk using evD,id,k1,(H y (gk y hy)).2
  have e:=(ak2 (n:=n) (f:=id) (l:=ks) (p:=nb) gk g5.1 (by omega)).1
  refine ⟨ks.all nb,prog _ ?_,?_,fun h=>⟨ks,rfl,h⟩⟩
  ·refine B2 (g:=Y4 (B1 f)) (ρ:=[‹.tuple ks›,‹.int k›]) rfl ?_
   have hi : D3 "tuple" (A6 0) [‹.tuple ks›,‹.int k›] = some (.bool true):=rfl
   simp only [Y4,B4,G0,hi,Y1,qN,c1,xbs,xms,xft,if_false,aj5]
  ·have hi : D3 "tuple" (dIx (B0 0) (dC (.int 5))) [‹.tuple [a0,a1,a2,a3,a4,.tuple ks]›,‹.int ((k + 1 : Nat) : Int)›] = some (.bool true):=rfl
   simp only [aI5,B3,sIf,C0,B4,C4,B7,B9,tB2,A9,D4,B0,dC,A6,hi,xg0,xg1,xbs,xms,l6,b6,O0,W1,z0,B8,G2,xnt,xnf,xft,if_true,if_false,D6,c2,A7,e]
end Sh
namespace Sh
open PySem G L2
theorem bJ2 {n : Nat} (hn : n ≤ 60) {xs : List D} {a0 a1 a2 a3 a4 : D} (A0 : atI xs 0 = some a0) (A1 : atI xs 1 = some a1) (A2 : atI xs 2 = some a2) (A3 : atI xs 3 = some a3) (A4 : atI xs 4 = some a4) (g1 : Gk n a1) (g2 : Gk n a2) (g3 : Gk n a3) (g4 : Gk n a4) :
  ∃ t1 t3 t4 bm br : Bool,O8 [a1] = some (.bool t1) ∧ F8 [a3] = some (.bool t3) ∧ K3 "bool" a4 = some t4 ∧ inD true a2 bF9 = some (.bool (!bm)) ∧ inD false a2 cF8 = some (.bool br) ∧
   (eqD a0 (.str "tone") = some (.bool false) → J2 [.tuple xs] = some (.bool (t1 && (bm && (t3 && t4))))) ∧ (eqD a0 (.str "tone") = some (.bool true) → J2 [.tuple xs] = some (.bool (t1 && (br && (t3 && t4))))) ∧ (t1 = true → ∃ s,a1 = .str s):=by
 obtain ⟨t1,n1,n2,n3⟩:=ai7 g1 hn
 obtain ⟨t3,e3,f3,_⟩:=W4 (Gk.gd _ _ g3)
 obtain ⟨_,_,t4,e4⟩:=aB4 g4
 obtain ⟨bm,s,m1,m2,m3,m4,m5,_⟩:=aq6 g2 hn ["over", "multiply", "screen", "plus", "atop", "cut"]
 obtain ⟨br,s',r1,r2,r3,r4,r5,_⟩:=aq6 g2 hn ["turn", "grey", "round"]
 have ss : s' = s:=by rw [m3] at r3; cases r3; rfl
 subst ss
 have step : ∀ (L : D) (b : Bool) (ρ1 : Rho),ρ1 = [‹.tuple xs›,some (.val L)] → (s' = false → b = false) → (s' = true → inD true a2 L = some (.bool (!b))) →
   (B3 (sIf (C4 (B7 (B9 (A8 K7 (A5 (dIx (B0 0) (dC (.int 1))) A7)))) (C4 (B7 (B9 (D3 "str" (dIx (B0 0) (dC (.int 2)))))) (tB2 (inD true) (dIx (B0 0) (dC (.int 2))) (A6 1)))) (B4 (dC (.bool false))) C0) (B4 (G0 (A8 E4 (A5 (dIx (B0 0) (dC (.int 3))) A7)) (D3 "bool" (dIx (B0 0) (dC (.int 4))))))) ρ1 = some (.rt (.bool (t1 && (b && (t3 && t4))))):=fun L b ρ1 hρ h1 h2=>by
  subst hρ
  have i1 : dIx (B0 0) (dC (.int 1)) [‹.tuple xs›,some (.val L)] = some a1:=by simp only [dIx,B0,dC,xg0,xbs,A1]
  have i2 : dIx (B0 0) (dC (.int 2)) [‹.tuple xs›,some (.val L)] = some a2:=by simp only [dIx,B0,dC,xg0,xbs,A2]
  have i3 : dIx (B0 0) (dC (.int 3)) [‹.tuple xs›,some (.val L)] = some a3:=by simp only [dIx,B0,dC,xg0,xbs,A3]
  have i4 : dIx (B0 0) (dC (.int 4)) [‹.tuple xs›,some (.val L)] = some a4:=by simp only [dIx,B0,dC,xg0,xbs,A4]
  cases t1 with
  | false=>simp only [B3,sIf,B4,C4,B7,B9,A8,A5,A7,i1,n2,dC,G2,xbs,xms,xnf,if_true,Bool.false_and]
  | true =>
   cases s' with
   | false =>
    rw [h1 rfl]
    simp only [B3,sIf,B4,C4,B7,B9,A8,A5,A7,i1,i2,n2,D3,m3,dC,G2,xbs,xms,xnt,xnf,xft,if_true,if_false,Bool.false_and,Bool.and_false,Bool.true_and]
   | true =>
    have h2:=h2 rfl
    cases b with
    | false =>
     rw [xnf] at h2
     simp only [B3,sIf,B4,C4,B7,B9,tB2,A9,A8,A5,A7,i1,i2,n2,D3,m3,h2,dC,A6,xg0,xg1,G2,B8,xbs,xms,xnt,xnf,xft,if_true,if_false,Bool.false_and,Bool.and_false,Bool.true_and]
    | true =>
     rw [xnt] at h2
     cases t3 <;> simp only [B3,sIf,C0,B4,C4,B7,B9,tB2,A9,G0,A8,A5,A7,i1,i2,i3,i4,n2,f3,D3,m3,h2,e4,dC,A6,xg0,xg1,G2,B8,xbs,xms,xnt,xnf,xft,if_true,if_false,Bool.false_and,Bool.true_and]
 refine ⟨t1,t3,t4,bm,br,n1,e3,e4,m1,r2,fun h=>?_,fun h=>?_,n3⟩
 ·refine B2 (ρ:=[‹.tuple xs›,none]) rfl ?_
  have i0 : dIx (B0 0) (dC (.int 0)) [‹.tuple xs›,some (.val aY4)] = some a0:=by simp only [dIx,B0,dC,xg0,xbs,A0]
  have h0 : (D0 1 (D6 (A5 (dC (.str "over")) (A5 (dC (.str "multiply")) (A5 (dC (.str "screen")) (A5 (dC (.str "plus")) (A5 (dC (.str "atop")) (A5 (dC (.str "cut")) A7)))))))) [‹.tuple xs›,none] = some (.nx [‹.tuple xs›,some (.val aY4)]):=rfl
  have h1 : (sIf (tB2 eqD (dIx (B0 0) (dC (.int 0))) (dC (.str "tone"))) (D0 1 (D6 (A5 (dC (.str "turn")) (A5 (dC (.str "grey")) (A5 (dC (.str "round")) A7))))) C0) [‹.tuple xs›,some (.val aY4)] = some (.nx [‹.tuple xs›,some (.val aY4)]):=by
   simp only [sIf,C0,tB2,A9,i0,dC,h,B8,xbs,xft,if_false]
  unfold af7
  rw [B6 h0,B6 h1]
  exact step aY4 bm _ rfl m4 m5
 ·refine B2 (ρ:=[‹.tuple xs›,none]) rfl ?_
  have i0 : dIx (B0 0) (dC (.int 0)) [‹.tuple xs›,some (.val aY4)] = some a0:=by simp only [dIx,B0,dC,xg0,xbs,A0]
  have h0 : (D0 1 (D6 (A5 (dC (.str "over")) (A5 (dC (.str "multiply")) (A5 (dC (.str "screen")) (A5 (dC (.str "plus")) (A5 (dC (.str "atop")) (A5 (dC (.str "cut")) A7)))))))) [‹.tuple xs›,none] = some (.nx [‹.tuple xs›,some (.val aY4)]):=rfl
  have h1 : (sIf (tB2 eqD (dIx (B0 0) (dC (.int 0))) (dC (.str "tone"))) (D0 1 (D6 (A5 (dC (.str "turn")) (A5 (dC (.str "grey")) (A5 (dC (.str "round")) A7))))) C0) [‹.tuple xs›,some (.val aY4)] = some (.nx [‹.tuple xs›,some (.val cx2)]):=by
   simp only [sIf,D0,tB2,A9,i0,dC,h,B8,D6,A5,A7,xbs,xms,if_true,xw0,xw1]
  unfold af7
  rw [B6 h0,B6 h1]
  exact step cx2 br _ rfl r4 r5
def bd5 (d : D) (ns : List D) : Prop:=∃ a0 a1 r,d = .tuple (a0 :: a1 :: r) ∧ (∃ s,a1 = .str s) ∧ eqD a0 (.str "group") = some (.bool false) ∧ ns = [a1]
def NdL (P : D → List D → Prop) : List D → List D → Prop
 | [],ns=>ns = []
 | x :: xs,ns=>∃ n1 n2,P x n1 ∧ NdL P xs n2 ∧ ns = n1 ++ n2
def Nds : Nat → D → List D → Prop
 | 0,d,ns=>bd5 d ns
 | k + 1,d,ns=>bd5 d ns ∨ ∃ nm a2 a3 a4 ks nss,d = .tuple [.str "group", nm,a2,a3,a4,.tuple ks] ∧ (∃ s,nm = .str s) ∧ NdL (Nds k) ks nss ∧ ns = nm :: nss
theorem bF1 {P : D → List D → Prop} : ∀ {ks : List D},(∀ x ∈ ks,∃ ns,P x ns ∧ ns.length ≤ wt x) → ∃ ns,NdL P ks ns ∧ ns.length ≤ wts ks
 | [],_=>⟨[],rfl,Nat.zero_le _⟩
 | x :: ks,h=>by
  obtain ⟨n1,p1,l1⟩:=h x (List.mem_cons_self ..)
  obtain ⟨n2,p2,l2⟩:=bF1 fun y hy=>h y (List.mem_cons_of_mem _ hy)
  exact ⟨n1 ++ n2,⟨n1,n2,p1,p2,rfl⟩,by rw [List.length_append,wts]; omega⟩
theorem ad4 {j : Nat} {d k : D} {t : Bool} (h : K5 (C3 j) [some (.val d),some (.val k)] = some (.rt (.bool t))) : C3 (j + 1) [d,k] = some (.bool t):=B2 (g:=K5 (C3 j)) (ρ:=[some (.val d),some (.val k)]) rfl h
theorem ad5 {f : Nat} {d k : D} {t : Bool} (h : F9 (B1 f) [some (.val d),some (.val k)] = some (.rt (.bool t))) : C6 (f + 1) [d,k] = some (.bool t):=B2 (g:=F9 (B1 f)) (ρ:=[some (.val d),some (.val k)]) rfl h
theorem ad7 {d : D} (h : K3 "tuple" d = some false) (f j : Nat) (k : D) : C6 (f + 1) [d,k] = some (.bool false) ∧ C3 (j + 1) [d,k] = some (.bool false):=by
 refine ⟨ad5 ?_,ad4 ?_⟩
 ·simp only [F9,B3,sIf,B4,C4,B7,B9,D3,A6,dC,xg0,xbs,xms,h,G2,xnf,if_true]
 ·simp only [K5,B3,sIf,B4,C4,B7,B9,D3,A6,dC,xg0,xbs,xms,h,G2,xnf,if_true]
theorem as9 {xs : List D} (h : xs.length < 5) (f j : Nat) (k : D) : C6 (f + 1) [.tuple xs,k] = some (.bool false) ∧ C3 (j + 1) [.tuple xs,k] = some (.bool false):=by
 have h5 : ((xs.length : Nat) : Int) < 5:=by omega
 refine ⟨ad5 ?_,ad4 ?_⟩
 ·wp_walk using evD,F9,h5,decide_true
 ·wp_walk using evD,K5,h5,decide_true
theorem V5 {f g : DS} {ρ : Rho} {d : D} (h : f ρ = some (.rt d)) : B3 f g ρ = some (.rt d):=by unfold B3; rw [h]; rfl
theorem kin (x : Str) (h : (["layer", "group", "tone"] : List Str).any (fun y=>y == x) = true) : inD true (.str x) (.tuple [.str "layer", .str "group", .str "tone"]) = some (.bool false):=by
 have:=X0 true x ["layer", "group", "tone"]
 rw [h] at this
 exact this
theorem cG6 : eqD (.str "layer") (.str "layer") = some (.bool true):=E6 (by decide +kernel) (by decide +kernel) (by decide +kernel)
theorem bP6 : eqD (.str "layer") (.str "group") = some (.bool false):=E6 (by decide +kernel) (by decide +kernel) (by decide +kernel)
theorem bP5 : eqD (.str "layer") (.str "tone") = some (.bool false):=E6 (by decide +kernel) (by decide +kernel) (by decide +kernel)
theorem cG7 : eqD (.str "group") (.str "layer") = some (.bool false):=E6 (by decide +kernel) (by decide +kernel) (by decide +kernel)
theorem br3 : eqD (.str "group") (.str "group") = some (.bool true):=E6 (by decide +kernel) (by decide +kernel) (by decide +kernel)
theorem bP7 : eqD (.str "group") (.str "tone") = some (.bool false):=E6 (by decide +kernel) (by decide +kernel) (by decide +kernel)
theorem cG5 : eqD (.str "tone") (.str "layer") = some (.bool false):=E6 (by decide +kernel) (by decide +kernel) (by decide +kernel)
theorem ci7 : eqD (.str "tone") (.str "group") = some (.bool false):=E6 (by decide +kernel) (by decide +kernel) (by decide +kernel)
theorem bC2 : eqD (.str "tone") (.str "tone") = some (.bool true):=E6 (by decide +kernel) (by decide +kernel) (by decide +kernel)
theorem aL0 {n : Nat} (hn : n ≤ 59) {xs : List D} (h5 : 5 ≤ xs.length) (g : ∀ x ∈ xs,Gk n x) (k : Int) (f j : Nat) (PG : D → Prop)
  (HG : ∀ a0 a1 a2 a3 a4 a5 b,xs = [a0,a1,a2,a3,a4,a5] → inD true a2 bF9 = some (.bool (!b)) → ∃ t,C9 f [.tuple xs,.int k] = some (.bool (b && t)) ∧ aI5 (C3 j) [‹.tuple xs›,‹.int k›] = some (.rt (.bool t)) ∧ (t = true → PG a5))
  (HG' : xs.length ≠ 6 → C9 f [.tuple xs,.int k] = some (.bool false)) :
  ∃ t,C6 (f + 1) [.tuple xs,.int k] = some (.bool t) ∧ C3 (j + 1) [.tuple xs,.int k] = some (.bool t) ∧ (t = true → (∃ ns,bd5 (.tuple xs) ns ∧ ns.length = 1) ∨ ∃ nm a2 a3 a4 a5,xs = [.str "group", nm,a2,a3,a4,a5] ∧ (∃ s,nm = .str s) ∧ PG a5):=by
 obtain ⟨a0,a1,a2,a3,a4,r,hx⟩ : ∃ a0 a1 a2 a3 a4 r,xs = a0 :: a1 :: a2 :: a3 :: a4 :: r:=by
  match xs,h5 with
  | a0 :: a1 :: a2 :: a3 :: a4 :: r,_=>exact ⟨a0,a1,a2,a3,a4,r,rfl⟩
  | [],h=>simp at h
  | [_],h=>simp at h
  | [_,_],h=>simp at h
  | [_,_,_],h=>simp at h
  | [_,_,_,_],h=>simp at h
 have A0 : atI xs 0 = some a0:=by rw [hx]; exact M3 (j:=0) rfl
 have A1 : atI xs 1 = some a1:=by rw [hx]; exact M3 (j:=1) rfl
 have A2 : atI xs 2 = some a2:=by rw [hx]; exact M3 (j:=2) rfl
 have A3 : atI xs 3 = some a3:=by rw [hx]; exact M3 (j:=3) rfl
 have A4 : atI xs 4 = some a4:=by rw [hx]; exact M3 (j:=4) rfl
 have g0:=g a0 (by rw [hx]; simp)
 have g1:=g a1 (by rw [hx]; simp)
 have g2:=g a2 (by rw [hx]; simp)
 have g3:=g a3 (by rw [hx]; simp)
 have g4:=g a4 (by rw [hx]; simp)
 obtain ⟨t1,t3,t4,bm,br,n1,e3,e4,m1,r2,hd0,hd1,n3⟩:=bJ2 (show n ≤ 60 by omega) A0 A1 A2 A3 A4 g1 g2 g3 g4
 have lt5 : ¬ ((xs.length : Nat) : Int) < 5:=by omega
 have N1 : M5 [.tuple xs] = some a1:=B2 (ρ:=[‹.tuple xs›]) rfl (by wp_walk using evD,ay9,A1)
 have N0 : V1 [.tuple xs] = some a0:=B2 (ρ:=[‹.tuple xs›]) rfl (by wp_walk using evD,az1,A0)
 have N2 : am8 [.tuple xs] = some a2:=B2 (ρ:=[‹.tuple xs›]) rfl (by wp_walk using evD,aN3,A2)
 have N2' : P1 [.tuple xs] = some a2:=B2 (ρ:=[‹.tuple xs›]) rfl (by wp_walk using evD,az8,A2)
 have N3 : Q5 [.tuple xs] = some a3:=B2 (ρ:=[‹.tuple xs›]) rfl (by wp_walk using evD,ao6,A3)
 have N4 : p9 [.tuple xs] = some a4:=B2 (ρ:=[‹.tuple xs›]) rfl (by wp_walk using evD,aH6,A4)
 have T4 : U8 [a4] = some (.bool t4):=B2 (ρ:=[some (.val a4)]) rfl (by simp only [ar8,B4,D3,A6,xg0,xbs,xms,e4])
 have kl : ∀ t,eqD a0 (.str "layer") = some (.bool t) → ag0 [.tuple xs] = some (.bool t):=fun t h=>B2 (ρ:=[‹.tuple xs›]) rfl (by wp_walk using evD,aH7,N0,h)
 have kg : ∀ t,eqD a0 (.str "group") = some (.bool t) → N8 [.tuple xs] = some (.bool t):=fun t h=>B2 (ρ:=[‹.tuple xs›]) rfl (by wp_walk using evD,af9,N0,h)
 have kt : ∀ t,eqD a0 (.str "tone") = some (.bool t) → an3 [.tuple xs] = some (.bool t):=fun t h=>B2 (ρ:=[‹.tuple xs›]) rfl (by wp_walk using evD,aN9,N0,h)
 have d0 : dIx (B0 0) (dC (.int 0)) [‹.tuple xs›,‹.int k›] = some a0:=by simp only [dIx,B0,dC,xg0,xbs,A0]
 have p0 : (sIf (C4 (B7 (B9 (D3 "tuple" (A6 0)))) (tB2 ltI (D4 (B0 0)) (dC (.int 5)))) (B4 (dC (.bool false))) C0) [‹.tuple xs›,‹.int k›] = some (.nx [‹.tuple xs›,‹.int k›]):=by
  wp_walk using evD,lt5,decide_false
 have p1 : (t1 && (t3 && t4)) = true → (sIf (C4 (B7 (B9 (A8 O8 (A5 (A8 M5 (A5 (A6 0) A7)) A7)))) (C4 (B7 (B9 (A8 F8 (A5 (A8 Q5 (A5 (A6 0) A7)) A7)))) (B7 (B9 (A8 U8 (A5 (A8 p9 (A5 (A6 0) A7)) A7)))))) (B4 (dC (.bool false))) C0) [‹.tuple xs›,‹.int k›] = some (.nx [‹.tuple xs›,‹.int k›]):=fun h=>by
  simp only [Bool.and_eq_true] at h
  obtain ⟨rfl,rfl,rfl⟩:=h
  wp_walk using evD,N1,N3,N4,n1,e3,T4
 have pf : (t1 && (t3 && t4)) = false → C6 (f + 1) [.tuple xs,.int k] = some (.bool false):=fun h=>by
  refine ad5 ?_
  unfold F9
  rw [B6 p0]
  cases t1 with
  | false=>wp_walk using evD,N1,n1
  | true =>
   cases t3 with
   | false=>wp_walk using evD,N1,N3,n1,e3
   | true =>
    cases t4 with
    | false=>wp_walk using evD,N1,N3,N4,n1,e3,T4
    | true=>cases h
 have l0 : ∀ t,inD true a0 (.tuple [.str "layer", .str "group", .str "tone"]) = some (.bool t) → (C4 (B7 (B9 (D3 "tuple" (A6 0)))) (C4 (tB2 ltI (D4 (B0 0)) (dC (.int 5))) (tB2 (inD true) (dIx (B0 0) (dC (.int 0))) (D2 (A5 (dC (.str "layer")) (A5 (dC (.str "group")) (A5 (dC (.str "tone")) A7))))))) [‹.tuple xs›,‹.int k›] = some t:=fun t h=>by
  simp only [C4,B7,B9,tB2,A9,D3,D4,A6,B0,d0,dC,D2,A5,A7,K3,G2,B8,an6,lt5,decide_false,xg0,xbs,xms,h,xnt,xft,if_false]
 have lf : ∀ t,inD true a0 (.tuple [.str "layer", .str "group", .str "tone"]) = some (.bool t) → J2 [.tuple xs] = some (.bool false) → C3 (j + 1) [.tuple xs,.int k] = some (.bool false):=fun t h hh=>by
  refine ad4 ?_
  cases t with
  | true=>simp only [K5,B3,sIf,B4,l0 true h,dC,xbs,xms,if_true]
  | false=>simp only [K5,B3,sIf,B4,C0,l0 false h,B7,B9,A8,A5,A7,A6,xg0,hh,G2,xnf,dC,xbs,xms,xft,if_false,if_true]
 have hh : ∀ {b : Bool},(t1 && (t3 && t4)) = false → (t1 && (b && (t3 && t4))) = false:=fun {b} h=>by
  cases t1 <;> cases t3 <;> cases t4 <;> cases b <;> first | rfl | cases h
 have ht : ∀ {b : Bool},(t1 && (t3 && t4)) = true → (t1 && (b && (t3 && t4))) = b:=fun {b} h=>by
  cases t1 <;> cases t3 <;> cases t4 <;> cases b <;> first | rfl | cases h
 have lg : inD true a0 (.tuple [.str "layer", .str "group", .str "tone"]) = some (.bool false) → J2 [.tuple xs] = some (.bool true) → (sIf (B7 (B9 (A8 J2 (A5 (A6 0) A7)))) (B4 (dC (.bool false))) C0) [‹.tuple xs›,‹.int k›] = some (.nx [‹.tuple xs›,‹.int k›]) ∧ (sIf (C4 (B7 (B9 (D3 "tuple" (A6 0)))) (C4 (tB2 ltI (D4 (B0 0)) (dC (.int 5))) (tB2 (inD true) (dIx (B0 0) (dC (.int 0))) (D2 (A5 (dC (.str "layer")) (A5 (dC (.str "group")) (A5 (dC (.str "tone")) A7))))))) (B4 (dC (.bool false))) C0) [‹.tuple xs›,‹.int k›] = some (.nx [‹.tuple xs›,‹.int k›]):=fun h1 h2=>by
  refine ⟨?_,?_⟩
  ·simp only [sIf,C0,B7,B9,A8,A5,A7,A6,xg0,h2,G2,xnt,xbs,xms,xft,if_false]
  ·simp only [sIf,C0,l0 false h1,xbs,xft,if_false]
 cases hA : (t1 && (t3 && t4)) with
 | false =>
  refine ⟨false,pf hA,?_,fun z=>by cases z⟩
  rcases aY6 g0 (show n ≤ 60 by omega) with rfl | rfl | rfl | ⟨k1,k2,k3,k4⟩
  ·exact lf _ (kin "layer" (by decide +kernel)) (by rw [hd0 bP5,hh hA])
  ·exact lf _ (kin "group" (by decide +kernel)) (by rw [hd0 bP7,hh hA])
  ·exact lf _ (kin "tone" (by decide +kernel)) (by rw [hd1 bC2,hh hA])
  ·exact lf _ k4 (by rw [hd0 k3,hh hA])
 | true =>
  have t1t : t1 = true:=by cases t1 with | true=>rfl | false=>cases hA
  have p1:=p1 hA
  rcases aY6 g0 (show n ≤ 60 by omega) with rfl | rfl | rfl | ⟨k1,k2,k3,k4⟩
  ·
   have leaf : bd5 (.tuple xs) [a1]:=⟨_,_,_,by rw [hx],n3 t1t,bP6,rfl⟩
   have kb:=kin "layer" (by decide +kernel)
   have hdv : J2 [.tuple xs] = some (.bool bm):=by rw [hd0 bP5,ht hA]
   have prog : ∀ t,L5 [.tuple xs] = some (.bool t) → C6 (f + 1) [.tuple xs,.int k] = some (.bool t):=fun t h=>by
    refine ad5 ?_
    unfold F9
    rw [B6 p0,B6 p1]
    wp_walk using evD,kl _ cG6,h
   have law : bm = true → ∀ t,bG3 [‹.tuple xs›,‹.int k›] = some (.rt (.bool t)) → C3 (j + 1) [.tuple xs,.int k] = some (.bool t):=fun hb t h=>by
    rw [hb] at hdv
    refine ad4 ?_
    unfold K5
    rw [B6 (lg kb hdv).2,B6 (lg kb hdv).1]
    have s1 : (sIf (tB2 eqD (dIx (B0 0) (dC (.int 0))) (dC (.str "tone"))) (B4 (A9 eqD (D4 (B0 0)) (dC (.int 5)))) C0) [‹.tuple xs›,‹.int k›] = some (.nx [‹.tuple xs›,‹.int k›]):=by
     simp only [sIf,C0,tB2,A9,d0,dC,bP5,B8,xbs,xft,if_false]
    have s2 : ∀ z : DS,(sIf (tB2 eqD (dIx (B0 0) (dC (.int 0))) (dC (.str "group"))) z C0) [‹.tuple xs›,‹.int k›] = some (.nx [‹.tuple xs›,‹.int k›]):=fun z=>by
     simp only [sIf,C0,tB2,A9,d0,dC,bP6,B8,xbs,xft,if_false]
    rw [B6 s1,B6 (s2 _)]
    exact h
   by_cases l9 : xs.length = 9
   ·obtain ⟨a5,a6,a7,a8,hr⟩ : ∃ a5 a6 a7 a8,r = [a5,a6,a7,a8]:=by
     rw [hx] at l9
     match r,l9 with
     | [a5,a6,a7,a8],_=>exact ⟨a5,a6,a7,a8,rfl⟩
     | [],h=>simp at h
     | [_],h=>simp at h
     | [_,_],h=>simp at h
     | [_,_,_],h=>simp at h
     | _ :: _ :: _ :: _ :: _ :: _,h=>simp at h
    subst hr
    obtain ⟨t,u1,u2⟩:=cn1 (a0:=.str "layer") (a1:=a1) (a3:=a3) (a4:=a4) hn m1 (g a5 (by rw [hx]; simp)) (g a6 (by rw [hx]; simp)) (g a7 (by rw [hx]; simp)) (g a8 (by rw [hx]; simp)) (.int k)
    rw [← hx] at u1 u2
    refine ⟨bm && t,prog _ u1,?_,fun _=>.inl ⟨_,leaf,rfl⟩⟩
    cases hb : bm with
    | false=>rw [Bool.false_and]; rw [hb] at hdv; exact lf _ kb hdv
    | true=>rw [Bool.true_and]; exact law hb _ u2
   ·have e9 : (((xs.length : Nat) : Int) == 9) = false:=beq_eq_false_iff_ne.mpr (by omega)
    refine ⟨false,prog _ (B2 (ρ:=[‹.tuple xs›]) rfl (by wp_walk using evD,J3,e9)),?_,fun z=>by cases z⟩
    cases hb : bm with
    | false=>rw [hb] at hdv; exact lf _ kb hdv
    | true=>exact law hb _ (by wp_walk using evD,bG3,e9)
  ·
   have kb:=kin "group" (by decide +kernel)
   have hdv : J2 [.tuple xs] = some (.bool bm):=by rw [hd0 bP7,ht hA]
   have prog : ∀ t,C9 f [.tuple xs,.int k] = some (.bool t) → C6 (f + 1) [.tuple xs,.int k] = some (.bool t):=fun t h=>by
    refine ad5 ?_
    have h' : B1 f 0 [.tuple xs,.int k] = some (.bool t):=h
    unfold F9
    rw [B6 p0,B6 p1]
    wp_walk using evD,kl _ cG7,kg _ br3,h'
   have law : bm = true → ∀ t,aI5 (C3 j) [‹.tuple xs›,‹.int k›] = some (.rt (.bool t)) → C3 (j + 1) [.tuple xs,.int k] = some (.bool t):=fun hb t h=>by
    rw [hb] at hdv
    refine ad4 ?_
    unfold K5
    rw [B6 (lg kb hdv).2,B6 (lg kb hdv).1]
    have s1 : (sIf (tB2 eqD (dIx (B0 0) (dC (.int 0))) (dC (.str "tone"))) (B4 (A9 eqD (D4 (B0 0)) (dC (.int 5)))) C0) [‹.tuple xs›,‹.int k›] = some (.nx [‹.tuple xs›,‹.int k›]):=by
     simp only [sIf,C0,tB2,A9,d0,dC,bP7,B8,xbs,xft,if_false]
    rw [B6 s1]
    have s2 : ∀ y z : DS,(B3 (sIf (tB2 eqD (dIx (B0 0) (dC (.int 0))) (dC (.str "group"))) y C0) z) [‹.tuple xs›,‹.int k›] = B3 y z [‹.tuple xs›,‹.int k›]:=fun y z=>by
     simp only [B3,sIf,tB2,A9,d0,dC,br3,B8,xbs,if_true]
    rw [s2]
    exact V5 (f:=aI5 (C3 j)) h
   by_cases l6 : xs.length = 6
   ·obtain ⟨a5,hr⟩ : ∃ a5,r = [a5]:=by
     rw [hx] at l6
     match r,l6 with
     | [a5],_=>exact ⟨a5,rfl⟩
     | [],h=>simp at h
     | _ :: _ :: _,h=>simp at h
    subst hr
    obtain ⟨t,u1,u2,u3⟩:=HG _ _ _ _ _ _ bm hx m1
    refine ⟨bm && t,prog _ u1,?_,fun z=>.inr ⟨a1,a2,a3,a4,a5,hx,n3 t1t,u3 (by cases t with | true=>rfl | false=>rw [Bool.and_false] at z; cases z)⟩⟩
    cases hb : bm with
    | false=>rw [Bool.false_and]; rw [hb] at hdv; exact lf _ kb hdv
    | true=>rw [Bool.true_and]; exact law hb _ u2
   ·have e6 : (((xs.length : Nat) : Int) == 6) = false:=beq_eq_false_iff_ne.mpr (by omega)
    refine ⟨false,prog _ (HG' l6),?_,fun z=>by cases z⟩
    cases hb : bm with
    | false=>rw [hb] at hdv; exact lf _ kb hdv
    | true=>exact law hb _ (by wp_walk using evD,aI5,e6)
  ·
   have leaf : bd5 (.tuple xs) [a1]:=⟨_,_,_,by rw [hx],n3 t1t,ci7,rfl⟩
   have kb:=kin "tone" (by decide +kernel)
   have hdv : J2 [.tuple xs] = some (.bool br):=by rw [hd1 bC2,ht hA]
   obtain ⟨q,e5⟩ : ∃ q,(((xs.length : Nat) : Int) == 5) = q:=⟨_,rfl⟩
   have prog : C6 (f + 1) [.tuple xs,.int k] = some (.bool (q && br)):=by
    refine ad5 ?_
    unfold F9
    rw [B6 p0,B6 p1]
    cases q <;> wp_walk using evD,kl _ cG5,kg _ ci7,kt _ bC2,e5,N2,r2,Bool.true_and,Bool.false_and
   refine ⟨q && br,prog,?_,fun _=>.inl ⟨_,leaf,rfl⟩⟩
   cases hb : br with
   | false=>rw [Bool.and_false]; rw [hb] at hdv; exact lf _ kb hdv
   | true =>
    rw [hb] at hdv
    refine ad4 ?_
    unfold K5
    rw [B6 (lg kb hdv).2,B6 (lg kb hdv).1,Bool.and_true]
    simp only [B3,sIf,B4,tB2,A9,d0,dC,D4,B0,bC2,B8,xg0,xbs,xms,if_true,W1,e5]
  ·
   refine ⟨false,?_,?_,fun z=>by cases z⟩
   ·refine ad5 ?_
    unfold F9
    rw [B6 p0,B6 p1]
    wp_walk using evD,kl _ k1,kg _ k2,kt _ k3
   ·refine ad4 ?_
    simp only [K5,B3,sIf,B4,l0 true k4,dC,xbs,xms,if_true]
end Sh
namespace Sh
open PySem G L2
theorem aL8 {xs : List D} (h : xs.length ≠ 6) (f : Nat) (k : D) : C9 (f + 1) [.tuple xs,k] = some (.bool false):=by
 have e6 : (((xs.length : Nat) : Int) == 6) = false:=beq_eq_false_iff_ne.mpr (by omega)
 refine B2 (g:=E3 (B1 f)) (ρ:=[‹.tuple xs›,some (.val k)]) rfl ?_
 wp_walk using evD,E3,e6
theorem bF0 : ∀ (k e e' n : Nat) (d : D),n ≤ 59 → Gk n d → ∃ t,C6 (3 * k + 2 + e) [d,.int k] = some (.bool t) ∧ C3 (k + 1 + e') [d,.int k] = some (.bool t) ∧ (t = true → ∃ ns,Nds k d ns ∧ ns.length ≤ wt d):=by
 intro k
 induction k with
 | zero =>
  intro e e' n d hn g
  have f1 : 3 * 0 + 2 + e = (e + 1) + 1:=by omega
  have f2 : 0 + 1 + e' = e' + 1:=by omega
  rw [f1,f2]
  have other : K3 "tuple" d = some false → ∃ t,C6 (e + 1 + 1) [d,.int ((0 : Nat) : Int)] = some (.bool t) ∧ C3 (e' + 1) [d,.int ((0 : Nat) : Int)] = some (.bool t) ∧ (t = true → ∃ ns,Nds 0 d ns ∧ ns.length ≤ wt d):=fun h =>
   ⟨false,(ad7 h (e + 1) e' _).1,(ad7 h (e + 1) e' _).2,fun z=>by cases z⟩
  cases d with
  | none=>exact other rfl
  | bool _=>exact other rfl
  | int _=>exact other rfl
  | str _=>exact other rfl
  | list _=>exact other rfl
  | dict _=>cases n <;> exact g.elim
  | tuple xs =>
   cases n with
   | zero=>exact g.elim
   | succ n =>
   by_cases h5 : xs.length < 5
   ·exact ⟨false,(as9 h5 (e + 1) e' _).1,(as9 h5 (e + 1) e' _).2,fun z=>by cases z⟩
   ·obtain ⟨t,u1,u2,u3⟩:=aL0 (n:=n) (by omega) (xs:=xs) (by omega) g.2 0 (e + 1) e' (fun _=>False) (fun a0 a1 a2 a3 a4 a5 b hx hb=>by
     subst hx
     have q:=cs1 (n:=0) (a0:=a0) (a1:=a1) (a3:=a3) (a4:=a4) (a5:=a5) hb e (C3 e')
     exact ⟨false,by rw [Bool.and_false]; exact q.1,q.2,fun z=>by cases z⟩) (fun h6=>aL8 h6 e _)
    refine ⟨t,u1,u2,fun h=>?_⟩
    rcases u3 h with ⟨ns,hl,hn⟩ | ⟨_,_,_,_,_,_,_,z⟩
    ·exact ⟨ns,hl,by rw [hn,wt]; omega⟩
    ·exact z.elim
 | succ k ih =>
  intro e e' n d hn g
  have f1 : 3 * (k + 1) + 2 + e = (3 * k + 2 + e + 2) + 1:=by omega
  have f2 : k + 1 + 1 + e' = (k + 1 + e') + 1:=by omega
  rw [f1,f2]
  have other : K3 "tuple" d = some false → ∃ t,C6 (3 * k + 2 + e + 2 + 1) [d,.int ((k + 1 : Nat) : Int)] = some (.bool t) ∧ C3 (k + 1 + e' + 1) [d,.int ((k + 1 : Nat) : Int)] = some (.bool t) ∧ (t = true → ∃ ns,Nds (k + 1) d ns ∧ ns.length ≤ wt d):=fun h =>
   ⟨false,(ad7 h (3 * k + 2 + e + 2) (k + 1 + e') _).1,(ad7 h (3 * k + 2 + e + 2) (k + 1 + e') _).2,fun z=>by cases z⟩
  cases d with
  | none=>exact other rfl
  | bool _=>exact other rfl
  | int _=>exact other rfl
  | str _=>exact other rfl
  | list _=>exact other rfl
  | dict _=>cases n <;> exact g.elim
  | tuple xs =>
   cases n with
   | zero=>exact g.elim
   | succ n =>
   by_cases h5 : xs.length < 5
   ·exact ⟨false,(as9 h5 (3 * k + 2 + e + 2) (k + 1 + e') _).1,(as9 h5 (3 * k + 2 + e + 2) (k + 1 + e') _).2,fun z=>by cases z⟩
   ·let nb : D → Bool:=fun x=>@decide (C3 (k + 1 + e') [x,.int k] = some (.bool true)) (Classical.propDecidable _)
    have nbv : ∀ {x : D} {t : Bool},C3 (k + 1 + e') [x,.int k] = some (.bool t) → nb x = t:=fun {x t} h=>by
     cases t with
     | true=>exact @decide_eq_true _ (Classical.propDecidable _) h
     | false=>exact @decide_eq_false _ (Classical.propDecidable _) (by rw [h]; intro z; cases z)
    obtain ⟨t,u1,u2,u3⟩:=aL0 (n:=n) (by omega) (xs:=xs) (by omega) g.2 ((k + 1 : Nat) : Int) (3 * k + 2 + e + 2) (k + 1 + e') (fun a5=>∃ ks,a5 = .tuple ks ∧ ∃ ns,NdL (Nds k) ks ns ∧ ns.length ≤ wts ks) (fun a0 a1 a2 a3 a4 a5 b hx hb=>by
     have g5 : Gk n a5:=g.2 a5 (by rw [hx]; simp)
     subst hx
     cases n with
     | zero =>
      have q:=bJ5 (n:=0) (by omega) (a0:=a0) (a1:=a1) (a3:=a3) (a4:=a4) hb (g5.mono (Nat.zero_le 1)) k (3 * k + 2 + e) (k + 1 + e') nb (fun x gx=>by
       obtain ⟨t,v1,v2,_⟩:=ih e e' 0 x (by omega) gx
       rw [nbv v2]; exact ⟨v1,v2⟩)
      obtain ⟨t,v1,v2,v3⟩:=q
      refine ⟨t,v1,v2,fun h=>?_⟩
      obtain ⟨ks,rfl,_⟩:=v3 h
      exact g5.elim
     | succ n =>
      obtain ⟨t,v1,v2,v3⟩:=bJ5 (n:=n) (by omega) (a0:=a0) (a1:=a1) (a3:=a3) (a4:=a4) hb g5 k (3 * k + 2 + e) (k + 1 + e') nb (fun x gx=>by
       obtain ⟨t,v1,v2,_⟩:=ih e e' n x (by omega) gx
       rw [nbv v2]; exact ⟨v1,v2⟩)
      refine ⟨t,v1,v2,fun h=>?_⟩
      obtain ⟨ks,rfl,ha⟩:=v3 h
      refine ⟨ks,rfl,bF1 fun x hx=>?_⟩
      obtain ⟨t,w1,w2,w3⟩:=ih e e' n x (by omega) (g5.2 x hx)
      have:=List.all_eq_true.mp ha x hx
      rw [nbv w2] at this
      exact w3 this) (fun h6=>aL8 h6 _ _)
    refine ⟨t,u1,u2,fun h=>?_⟩
    rcases u3 h with ⟨ns,hl,hn⟩ | ⟨nm,a2,a3,a4,a5,hx,hs,ks,h5,ns,hL,hl⟩
    ·exact ⟨ns,.inl hl,by rw [hn,wt]; omega⟩
    ·refine ⟨nm :: ns,.inr ⟨nm,a2,a3,a4,ks,ns,by rw [hx,h5],hs,hL,rfl⟩,?_⟩
     rw [hx,h5]
     simp only [wt,wts,List.length_cons]
     omega
abbrev big : Nat:=16777000
theorem bT3 {f : Nat} : ∀ {k : Nat} {d : D} {ns : List D},Nds k d ns → (∀ ks nss,(∃ k',k = k' + 1 ∧ NdL (Nds k') ks nss) → nss.length ≤ big → D5 f [.tuple ks] = some (.list nss)) → ∀ (a0 : Option B) (X : List D),X.length + ns.length ≤ big → nmb f [a0,some (.own X),some (.val d)] = some (.nx [a0,some (.own (X ++ ns)),some (.val d)]):=by
 have leaf : ∀ {d : D} {ns : List D},bd5 d ns → ∀ (a0 : Option B) (X : List D),X.length + ns.length ≤ big → nmb f [a0,some (.own X),some (.val d)] = some (.nx [a0,some (.own (X ++ ns)),some (.val d)]):=fun {d ns} h a0 X hX=>by
  obtain ⟨b0,b1,r,rfl,_,hg,rfl⟩:=h
  have hx : X.length < 16777216:=by have : big = 16777000:=rfl; omega
  have A0 : atI (b0 :: b1 :: r) 0 = some b0:=M3 (j:=0) rfl
  have A1 : atI (b0 :: b1 :: r) 1 = some b1:=M3 (j:=1) rfl
  have N1 : M5 [.tuple (b0 :: b1 :: r)] = some b1:=B2 (ρ:=[‹.tuple (b0 :: b1 :: r)›]) rfl (by wp_walk using evD,ay9,A1)
  have N0 : V1 [.tuple (b0 :: b1 :: r)] = some b0:=B2 (ρ:=[‹.tuple (b0 :: b1 :: r)›]) rfl (by wp_walk using evD,az1,A0)
  have kg : N8 [.tuple (b0 :: b1 :: r)] = some (.bool false):=B2 (ρ:=[‹.tuple (b0 :: b1 :: r)›]) rfl (by wp_walk using evD,af9,N0,hg)
  wp_walk using evD,nmb,aa3,N1,kg,if_pos hx
 intro k d ns h H a0 X hX
 cases k with
 | zero=>exact leaf h a0 X hX
 | succ k =>
  rcases h with h | ⟨nm,a2,a3,a4,ks,nss,rfl,_,hL,rfl⟩
  ·exact leaf h a0 X hX
  ·rw [List.length_cons] at hX
   have hb : big = 16777000:=rfl
   have hx : X.length < 16777216:=by omega
   have N1 : M5 [.tuple [.str "group", nm,a2,a3,a4,.tuple ks]] = some nm:=rfl
   have kg : N8 [.tuple [.str "group", nm,a2,a3,a4,.tuple ks]] = some (.bool true):=B2 (ρ:=[‹.tuple [.str "group", nm,a2,a3,a4,.tuple ks]›]) rfl (by
    have N0 : V1 [.tuple [.str "group", nm,a2,a3,a4,.tuple ks]] = some (.str "group"):=rfl
    wp_walk using evD,af9,N0,br3)
   have e1 : J9 [.tuple [.str "group", nm,a2,a3,a4,.tuple ks]] = some (.tuple ks):=rfl
   have e2:=H ks nss ⟨k,rfl,hL⟩ (by omega)
   have e3 : (X ++ [nm]).length + nss.length ≤ 16777216:=by rw [List.length_append]; show X.length + 1 + _ ≤ _; omega
   wp_walk using evD,nmb,aa3,bf1,N1,kg,e1,e2,if_pos hx,if_pos e3,List.append_assoc
theorem aQ2 {f k : Nat} (H : ∀ ks nss,(∃ k',k = k' + 1 ∧ NdL (Nds k') ks nss) → nss.length ≤ big → D5 f [.tuple ks] = some (.list nss)) : ∀ {ks ns : List D},NdL (Nds k) ks ns → ∀ (a0 a2 : Option B) (X : List D),X.length + ns.length ≤ big → ∃ a2',an8 (C7 2) (nmb f) ks [a0,some (.own X),a2] = some (.nx [a0,some (.own (X ++ ns)),a2'])
 | [],ns,h,a0,a2,X,_=>by cases (show ns = [] from h); exact ⟨a2,by rw [List.append_nil]; rfl⟩
 | x :: ks,ns,h,a0,a2,X,hX=>by
  obtain ⟨n1,n2,p1,p2,rfl⟩:=h
  rw [List.length_append] at hX
  have e1:=bT3 p1 H a0 X (by omega)
  obtain ⟨a2',e2⟩:=aQ2 H p2 a0 (some (.val x)) (X ++ n1) (by rw [List.length_append]; omega)
  refine ⟨a2',?_⟩
  rw [List.append_assoc] at e2
  rw [an8]
  show ((nmb f [a0,some (.own X),some (.val x)]).bind _) = _
  rw [e1]
  exact e2
theorem bz4 : ∀ (k f : Nat) (ks ns : List D),NdL (Nds k) ks ns → ns.length ≤ big → D5 (k + 1 + f) [.tuple ks] = some (.list ns):=by
 intro k
 induction k with
 | zero =>
  intro f ks ns h hl
  have f1 : 0 + 1 + f = f + 1:=by omega
  rw [f1]
  obtain ⟨a2,e⟩:=aQ2 (f:=f) (k:=0) (fun ks nss hk _=>by obtain ⟨k',z,_⟩:=hk; omega) h (‹.tuple ks›) none [] (by simpa using hl)
  refine B2 (g:=X4 (D5 f)) (ρ:=[‹.tuple ks›,none,none]) rfl ?_
  have s0 : (r9 1 A7) [‹.tuple ks›,none,none] = some (.nx [‹.tuple ks›,some (.own []),none]):=rfl
  have s1 : (aa2 (E1 (A6 0)) (C7 2) (nmb f)) [‹.tuple ks›,some (.own []),none] = some (.nx [‹.tuple ks›,some (.own ns),a2]):=e
  have s2 : (ax4 1 (B4 (A6 1))) [‹.tuple ks›,some (.own ns),a2] = some (.rt (.list ns)):=rfl
  exact (B6 s0).trans ((B6 s1).trans s2)
 | succ k ih =>
  intro f ks ns h hl
  have f1 : k + 1 + 1 + f = (k + 1 + f) + 1:=by omega
  rw [f1]
  obtain ⟨a2,e⟩:=aQ2 (f:=k + 1 + f) (k:=k + 1) (fun ks nss hk hl'=>by
   obtain ⟨k',z,hL⟩:=hk
   cases z
   exact ih f ks nss hL hl') h (‹.tuple ks›) none [] (by simpa using hl)
  refine B2 (g:=X4 (D5 (k + 1 + f))) (ρ:=[‹.tuple ks›,none,none]) rfl ?_
  have s0 : (r9 1 A7) [‹.tuple ks›,none,none] = some (.nx [‹.tuple ks›,some (.own []),none]):=rfl
  have s1 : (aa2 (E1 (A6 0)) (C7 2) (nmb (k + 1 + f))) [‹.tuple ks›,some (.own []),none] = some (.nx [‹.tuple ks›,some (.own ns),a2]):=e
  have s2 : (ax4 1 (B4 (A6 1))) [‹.tuple ks›,some (.own ns),a2] = some (.rt (.list ns)):=rfl
  exact (B6 s0).trans ((B6 s1).trans s2)
end Sh
namespace Sh
open PySem G L2
def Nam (Z : List (D × D)) : Prop:=∀ z ∈ Z,∃ ys,z.1 = .tuple ys ∧ atI ys 1 = some z.2
theorem Nam.app {Z Y : List (D × D)} (h : Nam Z) (g : Nam Y) : Nam (Z ++ Y):=fun z hz=>(List.mem_append.mp hz).elim (h z) (g z)
theorem bY7 {f : Nat} : ∀ {k : Nat} {d : D} {ns : List D},Nds k d ns → (∀ ks nss,(∃ k',k = k' + 1 ∧ NdL (Nds k') ks nss) → nss.length ≤ big → ∃ Z,Nam Z ∧ Z.map Prod.snd = nss ∧ E8 f [.tuple ks] = some (.list (Z.map Prod.fst))) → ns.length ≤ big →
  ∃ Z,Nam Z ∧ Z.map Prod.snd = ns ∧ ∀ (a0 : Option B) (X : List D),X.length + ns.length ≤ big → alb f [a0,some (.own X),some (.val d)] = some (.nx [a0,some (.own (X ++ Z.map Prod.fst)),some (.val d)]):=by
 have leaf : ∀ {d : D} {ns : List D},bd5 d ns → ∃ Z,Nam Z ∧ Z.map Prod.snd = ns ∧ ∀ (a0 : Option B) (X : List D),X.length + ns.length ≤ big → alb f [a0,some (.own X),some (.val d)] = some (.nx [a0,some (.own (X ++ Z.map Prod.fst)),some (.val d)]):=fun {d ns} h=>by
  obtain ⟨b0,b1,r,rfl,_,hg,rfl⟩:=h
  have A0 : atI (b0 :: b1 :: r) 0 = some b0:=M3 (j:=0) rfl
  have A1 : atI (b0 :: b1 :: r) 1 = some b1:=M3 (j:=1) rfl
  refine ⟨[(.tuple (b0 :: b1 :: r),b1)],fun z hz=>?_,rfl,fun a0 X hX=>?_⟩
  ·rw [List.mem_singleton.mp hz]; exact ⟨_,rfl,A1⟩
  ·have hx : X.length < 16777216:=by have : big = 16777000:=rfl; omega
   wp_walk using evD,alb,aa3,A0,hg,if_pos hx
 intro k d ns h H hl
 cases k with
 | zero=>exact leaf h
 | succ k =>
  rcases h with h | ⟨nm,a2,a3,a4,ks,nss,rfl,_,hL,rfl⟩
  ·exact leaf h
  ·rw [List.length_cons] at hl
   obtain ⟨Z,z1,z2,z3⟩:=H ks nss ⟨k,rfl,hL⟩ (by omega)
   have zl : Z.length = nss.length:=by rw [← z2,List.length_map]
   refine ⟨(.tuple [.str "group", nm,a2,a3,a4,.tuple ks],nm) :: Z,fun z hz=>?_,by rw [xmc,z2],fun a0 X hX=>?_⟩
   ·rcases List.mem_cons.mp hz with rfl | hz
    ·exact ⟨_,rfl,rfl⟩
    ·exact z1 z hz
   ·rw [List.length_cons] at hX
    have hb : big = 16777000:=rfl
    have hx : X.length < 16777216:=by omega
    have s0 : (aa3 1 (A6 2)) [a0,some (.own X),‹.tuple [.str "group", nm,a2,a3,a4,.tuple ks]›] = some (.nx [a0,some (.own (X ++ [.tuple [.str "group", nm,a2,a3,a4,.tuple ks]])),‹.tuple [.str "group", nm,a2,a3,a4,.tuple ks]›]):=by
     simp only [aa3,xg0,xg1,if_pos hx,A6,xms,xw0,xw1]
    have hc : aX9 (B0 1) (qE (A8 (E8 f) (A5 (dIx (B0 2) (dC (.int 5))) A7))) [a0,some (.own (X ++ [.tuple [.str "group", nm,a2,a3,a4,.tuple ks]])),‹.tuple [.str "group", nm,a2,a3,a4,.tuple ks]›] = some (X ++ [.tuple [.str "group", nm,a2,a3,a4,.tuple ks]] ++ Z.map Prod.fst):=by
     have q2 : qE (A8 (E8 f) (A5 (dIx (B0 2) (dC (.int 5))) A7)) [a0,some (.own (X ++ [.tuple [.str "group", nm,a2,a3,a4,.tuple ks]])),‹.tuple [.str "group", nm,a2,a3,a4,.tuple ks]›] = some (false,Z.map Prod.fst):=by
      wp_walk using evD,bN2,z3
     unfold aX9
     rw [q2]
     show (if false = false ∧ false = false ∧ (X ++ [PyData.tuple [.str "group", nm,a2,a3,a4,.tuple ks]]).length + (Z.map Prod.fst).length ≤ 16777216 then some (X ++ [PyData.tuple [.str "group", nm,a2,a3,a4,.tuple ks]] ++ Z.map Prod.fst) else none) = _
     rw [if_pos ⟨rfl,rfl,by rw [List.length_append,List.length_map]; show X.length + 1 + Z.length ≤ _; omega⟩]
    have ht : tB2 eqD (dIx (B0 2) (dC (.int 0))) (dC (.str "group")) [a0,some (.own (X ++ [.tuple [.str "group", nm,a2,a3,a4,.tuple ks]])),‹.tuple [.str "group", nm,a2,a3,a4,.tuple ks]›] = some true:=by
     wp_walk using evD,aN1,br3
    unfold alb
    rw [B6 s0]
    simp only [sIf,ht,xbs,if_true,r9,hc,xms,xw0,xw1,List.append_assoc,xmc,xca,xna]
theorem aT8 {f k : Nat} (H : ∀ ks nss,(∃ k',k = k' + 1 ∧ NdL (Nds k') ks nss) → nss.length ≤ big → ∃ Z,Nam Z ∧ Z.map Prod.snd = nss ∧ E8 f [.tuple ks] = some (.list (Z.map Prod.fst))) : ∀ {ks ns : List D},NdL (Nds k) ks ns → ns.length ≤ big →
  ∃ Z,Nam Z ∧ Z.map Prod.snd = ns ∧ ∀ (a0 a2 : Option B) (X : List D),X.length + ns.length ≤ big → ∃ a2',an8 (C7 2) (alb f) ks [a0,some (.own X),a2] = some (.nx [a0,some (.own (X ++ Z.map Prod.fst)),a2'])
 | [],ns,h,_=>by cases (show ns = [] from h); exact ⟨[],fun z hz=>absurd hz List.not_mem_nil,rfl,fun a0 a2 X _=>⟨a2,by rw [xmn,List.append_nil]; rfl⟩⟩
 | x :: ks,ns,h,hl=>by
  obtain ⟨n1,n2,p1,p2,rfl⟩:=h
  rw [List.length_append] at hl
  obtain ⟨Z1,u1,u2,u3⟩:=bY7 p1 H (by omega)
  obtain ⟨Z2,v1,v2,v3⟩:=aT8 H p2 (by omega)
  refine ⟨Z1 ++ Z2,u1.app v1,by rw [List.map_append,u2,v2],fun a0 a2 X hX=>?_⟩
  rw [List.length_append] at hX
  have l1 : (Z1.map Prod.fst).length = n1.length:=by rw [← u2,List.length_map,List.length_map]
  obtain ⟨a2',e2⟩:=v3 a0 (some (.val x)) (X ++ Z1.map Prod.fst) (by rw [List.length_append,l1]; omega)
  refine ⟨a2',?_⟩
  rw [List.append_assoc,← List.map_append] at e2
  rw [an8]
  show ((alb f [a0,some (.own X),some (.val x)]).bind _) = _
  rw [u3 a0 X (by omega)]
  exact e2
theorem bY5 : ∀ (k f : Nat) (ks ns : List D),NdL (Nds k) ks ns → ns.length ≤ big → ∃ Z,Nam Z ∧ Z.map Prod.snd = ns ∧ E8 (k + 1 + f) [.tuple ks] = some (.list (Z.map Prod.fst)):=by
 have fin : ∀ (f : Nat) (ks ns : List D) (Z : List (D × D)),ns.length ≤ big → (∀ (a0 a2 : Option B) (X : List D),X.length + ns.length ≤ big → ∃ a2',an8 (C7 2) (alb f) ks [a0,some (.own X),a2] = some (.nx [a0,some (.own (X ++ Z.map Prod.fst)),a2'])) → E8 (f + 1) [.tuple ks] = some (.list (Z.map Prod.fst)):=fun f ks ns Z hl h=>by
  obtain ⟨a2,e⟩:=h (‹.tuple ks›) none [] (by simpa using hl)
  refine B2 (g:=aU2 (E8 f)) (ρ:=[‹.tuple ks›,none,none]) rfl ?_
  have s0 : (r9 1 A7) [‹.tuple ks›,none,none] = some (.nx [‹.tuple ks›,some (.own []),none]):=rfl
  have s1 : (aa2 (E1 (A6 0)) (C7 2) (alb f)) [‹.tuple ks›,some (.own []),none] = some (.nx [‹.tuple ks›,some (.own (Z.map Prod.fst)),a2]):=e
  have s2 : (ax4 1 (B4 (A6 1))) [‹.tuple ks›,some (.own (Z.map Prod.fst)),a2] = some (.rt (.list (Z.map Prod.fst))):=rfl
  exact (B6 s0).trans ((B6 s1).trans s2)
 intro k
 induction k with
 | zero =>
  intro f ks ns h hl
  have f1 : 0 + 1 + f = f + 1:=by omega
  rw [f1]
  obtain ⟨Z,z1,z2,z3⟩:=aT8 (f:=f) (k:=0) (fun ks nss hk _=>by obtain ⟨k',z,_⟩:=hk; omega) h hl
  exact ⟨Z,z1,z2,fin f ks ns Z hl z3⟩
 | succ k ih =>
  intro f ks ns h hl
  have f1 : k + 1 + 1 + f = (k + 1 + f) + 1:=by omega
  rw [f1]
  obtain ⟨Z,z1,z2,z3⟩:=aT8 (f:=k + 1 + f) (k:=k + 1) (fun ks nss hk hl'=>by
   obtain ⟨k',z,hL⟩:=hk
   cases z
   exact ih f ks nss hL hl') h hl
  exact ⟨Z,z1,z2,fin _ ks ns Z hl z3⟩
theorem aQ3 {P : D → List D → Prop} {S : D → Prop} (H : ∀ x n1,P x n1 → ∀ y ∈ n1,S y) : ∀ {ks ns : List D},NdL P ks ns → ∀ y ∈ ns,S y
 | [],ns,h=>by cases (show ns = [] from h); exact fun x hx=>absurd hx List.not_mem_nil
 | x :: ks,ns,h=>by
  obtain ⟨n1,n2,p1,p2,rfl⟩:=h
  intro y hy
  exact (List.mem_append.mp hy).elim (H x n1 p1 y) (aQ3 H p2 y)
theorem bT5 : ∀ (k : Nat) (d : D) (ns : List D),Nds k d ns → ∀ x ∈ ns,∃ s,x = .str s:=by
 have leaf : ∀ {d : D} {ns : List D},bd5 d ns → ∀ x ∈ ns,∃ s,x = .str s:=fun {d ns} h x hx=>by
  obtain ⟨_,b1,_,_,hs,_,rfl⟩:=h
  rw [List.mem_singleton.mp hx]; exact hs
 intro k
 induction k with
 | zero=>intro d ns h; exact leaf h
 | succ k ih =>
  intro d ns h
  rcases h with h | ⟨nm,a2,a3,a4,ks,nss,rfl,hs,hL,rfl⟩
  ·exact leaf h
  ·intro x hx
   rcases List.mem_cons.mp hx with rfl | hx
   ·exact hs
   ·exact aQ3 ih hL x hx
theorem bT6 {k : Nat} {ks ns : List D} (h : NdL (Nds k) ks ns) : ∀ x ∈ ns,∃ s,x = .str s:=aQ3 (bT5 k) h
theorem aU8 : ∀ L : List D,(∀ d ∈ L,∃ s,d = .str s) → ∃ ys : List Str,aK3 L = some ys ∧ ys.length = L.length
 | [],_=>⟨[],rfl,rfl⟩
 | d :: L,h=>by
  obtain ⟨ys,e2,l⟩:=aU8 L fun x hx=>h x (List.mem_cons_of_mem _ hx)
  obtain ⟨s,rfl⟩:=h d (List.mem_cons_self ..)
  exact ⟨s :: ys,by unfold aK3; rw [e2]; rfl,by rw [List.length_cons,List.length_cons,l]⟩
theorem be1 {ks ns : List D} (h : NdL (Nds 3) ks ns) (hl : ns.length ≤ 4000) : ∃ t,Q1 [.tuple ks] = some (.bool t) ∧ O7 [.tuple ks] = some (.bool t):=by
 have hb : big = 16777000:=rfl
 have e1 : D5 12 [.tuple ks] = some (.list ns):=bz4 3 8 ks ns h (by omega)
 obtain ⟨Z,z1,z2,z3⟩:=bY5 3 8 ks ns h (by omega)
 have z3 : E8 12 [.tuple ks] = some (.list (Z.map Prod.fst)):=z3
 obtain ⟨ys,y1,y2⟩:=aU8 ns (bT6 h)
 have y4 : ys.length ≤ 4000:=by omega
 have fin : ∀ (a0 : Option B),A9 eqD (am3 (B0 1)) (D4 (B0 1)) [a0,‹.list ns›] = some (.bool (((ddS ys).length : Int) == ((ns.length : Nat) : Int))):=fun a0=>by
  simp only [A9,am3,D4,B0,k9,xg0,xg1,xbs,xms,xft,if_false,y1,if_pos y4,W1]
 refine ⟨(((ddS ys).length : Int) == ((ns.length : Nat) : Int)),B2 (ρ:=[‹.tuple ks›,none]) rfl ?_,B2 (ρ:=[‹.tuple ks›,none]) rfl ?_⟩
 ·have s0 : (D0 1 (A8 (D5 12) (A5 (A6 0) A7))) [‹.tuple ks›,none] = some (.nx [‹.tuple ks›,‹.list ns›]):=by
   simp only [D0,A8,A5,A7,A6,xg0,xbs,xms,e1,xw0,xw1]
  unfold o7
  rw [B6 s0]
  simp only [B4,fin,xms]
 ·have c : C8 1 [] (E1 (A8 (E8 12) (A5 (A6 0) A7))) (C7 0) G1 (dIx (B0 0) (dC (.int 1))) [‹.tuple ks›,none] = some ns:=by
   have src : E1 (A8 (E8 12) (A5 (A6 0) A7)) [‹.tuple ks›,none] = some (Z.map Prod.fst):=by
    simp only [E1,A8,A5,A7,A6,xg0,xbs,xms,z3]
   have zl : Z.length = ns.length:=by rw [← z2,List.length_map]
   unfold C8
   rw [src,xbs,if_pos (by rw [List.length_map]; omega),show t8 1 [] [some (B.val (PyData.tuple ks)),none] = [none] from rfl,bM2 (h:=Prod.fst) (f:=Prod.snd) Z none ?_,z2]
   intro z hz
   obtain ⟨zs,e1,e2⟩:=z1 z hz
   rw [e1]
   simp only [dIx,B0,dC,xg0,xbs,e2]
  have s0 : (R3 1 (C8 1 [] (E1 (A8 (E8 12) (A5 (A6 0) A7))) (C7 0) G1 (dIx (B0 0) (dC (.int 1))))) [‹.tuple ks›,none] = some (.nx [‹.tuple ks›,‹.list ns›]):=by
   simp only [R3,c,xms,xw0,xw1]
  unfold aj6
  rw [B6 s0]
  simp only [B4,fin,xms]
end Sh
namespace G
open PySem PySem.Spec PyProof.Rows L2
section
variable {X : Cx} {S : Sg} {c : Kx}
theorem O9 {e : Expr} : JE X e dNo:=fun ρ d h=>by cases h
theorem ca6 {e : Expr} : JQ X e qNo:=fun ρ t d h=>by cases h
theorem aL6 {e : Expr} : JN X e aNo:=fun ρ d h=>by cases h
theorem bo2 {e : Expr} : JT X e tNo:=fun ρ d h=>by cases h
theorem cA5 {e : Expr} : JW X e tNo:=fun ρ d h=>by cases h
theorem aY7 {e : Expr} : JG X e gNo:=by
 unfold JG PG
 intros
 rename_i h
 obtain ⟨d,ρ,ρ',H0,Hf,z,_⟩:=h
 cases z
theorem cB2 {es : List Expr} : JA X es aNo:=⟨fun ρ d h=>(nomatch h),fun ρ d h=>(nomatch h)⟩
theorem cn8 {es : List Expr} : JTs X es tNo:=fun pins s σ H Q I ⟨ρ,b,h,_⟩=>by cases h
theorem ak1 (hu : X.A.units + 64 < cLine) : ∀ op : CmpOp,OpD X (compareOp op) (bj4 op)
 | .Lt=>cy8 | .LtE=>cy9 | .Gt=>cz2 | .GtE=>cz3 | .Eq=>cz4 hu | .NotEq=>cy7 hu | .Is=>cz0 | .IsNot=>bD9 | .In=>cz1 hu | .NotIn=>bD8 hu
theorem bD7 (hu : X.A.units + 64 < cLine) (S : Sg) (c : Kx) (op : CmpOp) (b : Expr) : OpD X (compareOp op) (opW S c op b):=by
 unfold opW
 split
 ·split
  ·exact cl9
  ·exact bs4
  ·exact ak1 hu _
 ·exact ak1 hu op
theorem aL7 {f : Expr → DE} (h : ∀ e,JE X e (f e)) : ∀ es,JA X es (evA f es)
 | []=>cr5
 | e :: es=>by
  unfold evA
  split
  ·rename_i p; exact bW3 (h e) (aL7 h es) (U0 p es _)
  ·exact cB2
theorem aR3 {f : Expr → DE} (h : ∀ e,JE X e (f e)) (op : BoolOp) (pos : Pos) : ∀ vs,JE X (.BoolOp op vs pos) (bK7 f op vs)
 | []=>O9
 | [a]=>cq5 (h a)
 | a :: b :: r=>by
  unfold bK7
  cases op
  ·exact cr3 (h a) (aR3 h .And pos (b :: r))
  ·exact cA8 (h a) (aR3 h .Or pos (b :: r))
theorem aR2 {f : Expr → DT} (h : ∀ e,JT X e (f e)) (op : BoolOp) (pos : Pos) : ∀ vs,JW X (.BoolOp op vs pos) (bK6 f op vs)
 | []=>cA5
 | [a]=>by cases op; exact bU2 (h a); exact cn6 (h a)
 | a :: b :: r=>by
  unfold bK6
  cases op
  ·exact cn7 (h a) (aR2 h .And pos (b :: r))
  ·exact cA4 (h a) (aR2 h .Or pos (b :: r))
theorem ao4 {f : Expr → DE} (h : ∀ e,JE X e (f e)) : ∀ o,JO X o (evO f o)
 | none=>bV3
 | some e=>bV2 (h e)
theorem cn9 {f : Expr → DT} (h : ∀ e,JT X e (f e)) : ∀ l,JTs X l (bK4 f l)
 | []=>bU4
 | [t]=>bU3 (h t)
 | _ :: _ :: _=>cn8
theorem bH2 {f : Expr → DG} (h : ∀ e,JG X e (f e)) : ∀ es,es.all pl = true → JGs X es (cs4 f es)
 | [],_=>bV6
 | e :: es,p=>by
  simp only [List.all_cons,Bool.and_eq_true] at p
  refine bH3 (h e) (bH2 h es p.2) ?_
  have p1:=p.1
  cases e <;> first | rfl | cases p1
theorem bp7 {env : Env} : ∀ {es : List Expr},es.all pl = true → (assignEach es env).length = es.length ∧ (assignEach es env).findIdx? (·.1) = none
 | [],_=>⟨rfl,rfl⟩
 | e :: es,p=>by
  simp only [List.all_cons,Bool.and_eq_true] at p
  obtain ⟨h1,h2⟩:=bp7 (env:=env) p.2
  have p1:=p.1
  have q : assignEach (e :: es) env = (false,assign e env) :: assignEach es env:=by cases e <;> first | rfl | cases p1
  rw [q]
  refine ⟨by simp [h1],?_⟩
  simp [List.findIdx?_cons,h2]
structure Sound (S : Sg) (r : Ev) : Prop where
 e : ∀ {c X},Fit S c X → ∀ ex,JE X ex (r.e c ex)
 q : ∀ {c X},Fit S c X → ∀ ex,JQ X ex (r.q c ex)
 n : ∀ {c X},Fit S c X → ∀ ex,JN X ex (r.n c ex)
 t : ∀ {c X},Fit S c X → ∀ ex,JT X ex (r.t c ex)
 g : ∀ {c X},Fit S c X → ∀ ex,JG X ex (r.g c ex)
 b : ∀ {c X},Fit S c X → ∀ sts,JSs X sts (r.b c sts)
theorem Fit.hx (F : Fit S c X) : ∀ e s,X.xe e s → False:=fun e s h=>by rw [F.xe] at h; exact h
theorem Fit.po (F : Fit S c X) : PassesOwn (model X.prog X.w) X.A X.env X.xe:=by rw [F.xe]; exact PassesOwn.never
theorem Fit.slot (F : Fit S c X) {x : Str} {i : Nat} (h : aq4 x c.N = some i) : X.N[i]? = some x:=by rw [F.N]; exact aY8 h
theorem Fit.inner {tn : List Str} {caps : List Nat} {scope : Scope} {C : Addr} {s0 : Shared} {H0 : Hp} {ex : List Addr} (F : Fit S c X) (hn : (G.inner c tn caps scope).N.Nodup) : Fit S (G.inner c tn caps scope) (G6 X (G.inner c tn caps scope).N scope C s0 H0 ex) :=
 ⟨rfl,by show relabel scope X.env = rl scope c.sc; rw [← F.sc]; rfl,hn,F.calm,rfl,F.units,(fun h=>by cases h),F.fns,F.css,F.bls⟩
variable {r : Ev}
theorem cp7 (R : Sound S r) (F : Fit S c X) (tg a : Expr) {p pos : Pos} (hg : Gl X "reversed") (hm : X.mg "reversed" = none) : JI X tg (.Call (.Name "reversed" p) [a] [] pos) (evR S c tg a):=by
 unfold evR
 split
 ·split
  ·rename_i h
   simp only [Bool.and_eq_true] at h
   obtain ⟨rfl,h1,h2⟩:=N7 F h.1.1.1
   obtain ⟨rfl,h3,h4⟩:=N7 F h.1.1.2
   have ht:=h.1.2
   exact fun ρ ds q=>nomatch q
  ·exact fun ρ ds q=>nomatch q
 ·exact fun ρ ds q=>nomatch q
theorem ca8 (R : Sound S r) (F : Fit S c X) (tg it : Expr) : JI X tg it (evI S r c tg it):=by
 unfold evI
 split
 ·rename_i x p a pos
  split
  ·rename_i h
   obtain ⟨rfl,h1,h2⟩:=N7 F h
   exact cp7 R F tg a h1 h2
  ·split
   ·rename_i h
    simp only [Bool.and_eq_true] at h
    obtain ⟨rfl,h1,h2⟩:=N7 F h.1
    exact bu5 h1 h2 (R.e F a) (U0 h.2 _ _)
   ·split
    ·rename_i h
     simp only [Bool.and_eq_true] at h
     obtain ⟨rfl,h1,h2⟩:=N7 F h.1.1
     have ht:=h.1.2
     exact fun ρ ds q=>nomatch q
    ·exact bh4 (R.e F _)
 ·rename_i x p a b pos
  split
  ·rename_i h
   simp only [Bool.and_eq_true] at h
   obtain ⟨rfl,h1,h2⟩:=N7 F h.1.1
   exact fun ρ ds q=>nomatch q
  ·split
   ·rename_i h
    simp only [Bool.and_eq_true] at h
    obtain ⟨rfl,h1,h2⟩:=N7 F h.1.1.1
    have ht:=h.1.1.2
    exact fun ρ ds q=>nomatch q
   ·exact bh4 (R.e F _)
 ·split
  ·exact cp6 (R.e F _)
  ·exact bh4 (R.e F _)
theorem bp2 (R : Sound S r) (F : Fit S c X) {elt tgt iter : Expr} {ifs : List Expr} {scope : Scope} {caps : List Nat}
  (h : (aC0 c.N (G.inner c (Y6 tgt) caps scope).N (Y6 tgt).length caps c.sc scope && ay0 (G.inner c (Y6 tgt) caps scope).N && pl iter) = true) :
  CompSc X (G.inner c (Y6 tgt) caps scope).N (Y6 tgt).length caps scope ∧ JI X tgt iter (evI S r c tgt iter) ∧ (∀ C s0 H0 ex,JG (G6 X (G.inner c (Y6 tgt) caps scope).N scope C s0 H0 ex) tgt (r.g (G.inner c (Y6 tgt) caps scope) tgt)) ∧
  (∀ C s0 H0 ex,JTs (G6 X (G.inner c (Y6 tgt) caps scope).N scope C s0 H0 ex) ifs (bK4 (r.t (G.inner c (Y6 tgt) caps scope)) ifs)) ∧ (∀ C s0 H0 ex,JE (G6 X (G.inner c (Y6 tgt) caps scope).N scope C s0 H0 ex) elt (r.e (G.inner c (Y6 tgt) caps scope) elt)) ∧
  ∀ x,foldedSetIterable iter X.env x = pure x:=by
 simp only [Bool.and_eq_true] at h
 obtain ⟨⟨h1,h2⟩,h3⟩:=h
 have hn:=ax9 h2
 exact ⟨bx1 h1 F.N F.sc,ca8 R F tgt iter,fun C s0 H0 ex=>R.g (F.inner hn) tgt,fun C s0 H0 ex=>cn9 (R.t (F.inner hn)) ifs,fun C s0 H0 ex=>R.e (F.inner hn) elt,bn1 h3 _⟩
theorem cA7 (R : Sound S r) (F : Fit S c X) (ex : Expr) : JN X ex (evC S r c ex):=by
 unfold evC
 split
 ·rename_i elt tgt iter ifs scope pos
  dsimp only
  split
  ·rename_i h
   obtain ⟨h1,h2,h3,h4,h5,h6⟩:=bp2 (ifs:=ifs) (elt:=elt) R F h
   exact bV5 h1 F.hx h2 h3 h4 h5 F.calm h6
  ·exact aL6
 ·exact aL6
theorem bq5 {x : Str} {T : String} (h : cc1 x = some T) : bootBuiltins x = some (.type T) ∧ x ≠ "__name__" ∧ (x == ("__debug__" : Str)) = false:=by
 unfold cc1 at h
 split at h
 ·rename_i e; cases h; simp only [beq_iff_eq] at e; subst e; exact ⟨bj9,by decide,by decide⟩
 ·split at h
  ·rename_i e; cases h; simp only [beq_iff_eq] at e; subst e; exact ⟨bY0,by decide,by decide⟩
  ·split at h
   ·rename_i e; cases h; simp only [beq_iff_eq] at e; subst e; exact ⟨bj7,by decide,by decide⟩
   ·split at h
    ·rename_i e; cases h; simp only [beq_iff_eq] at e; subst e; exact ⟨bb9,by decide,by decide⟩
    ·split at h
     ·rename_i e; cases h; simp only [beq_iff_eq] at e; subst e; exact ⟨bp6,by decide,by decide⟩
     ·cases h
theorem ap9 (pos : Pos) (env : Env) : ∀ {es : List Expr},es.all pl = true → (starEach es env).any (·.1) = false
 | [],_=>rfl
 | e :: es,h=>by
  simp only [List.all_cons,Bool.and_eq_true] at h
  rw [U0 h.1,List.any_cons,ap9 pos env h.2]; rfl
end
end G
namespace G
open PySem PySem.Spec PyProof.Rows L2
section
variable {X : Cx} {S : Sg} {c : Kx} {r : Ev}
theorem bO1 (R : Sound S r) (F : Fit S c X) (a i : Expr) (pos : Pos) : JE X (.Subscript a i pos) (cb2 r c a i):=by
 unfold cb2
 split
 ·split
  ·exact bH6 (R.e F _) (ao4 (R.e F) _) (ao4 (R.e F) _)
  ·split
   ·exact cq2 (R.e F _) (ao4 (R.e F) _) (ao4 (R.e F) _)
   ·split
    ·exact cq3 (R.q F _) (ao4 (R.e F) _) (ao4 (R.e F) _)
    ·exact cq4 (R.e F _) (ao4 (R.e F) _) (ao4 (R.e F) _)
 ·exact bV9 (R.e F _) (bH7 bI0)
 ·split
  ·rename_i h
   split
   ·exact cq8 (R.e F _) (R.e F _) (bZ8 h)
   ·exact cA9 (R.q F _) (R.e F _) (bZ8 h)
  ·exact O9
theorem bq3 (R : Sound S r) (F : Fit S c X) (x : Str) (a : Expr) (p pos : Pos) : JE X (.Call (.Name x p) [a] [] pos) (bd9 S r c x a):=by
 unfold bd9
 split
 ·exact O9
 rename_i hp
 have hp : pl a = true:=by simpa using hp
 have hs:=U0 hp [] X.env
 split
 ·rename_i h
  obtain ⟨rfl,h1,h2⟩:=N7 F h
  split
  ·rename_i y py e ppos
   split
   ·rename_i hy
    simp only [Bool.and_eq_true] at hy
    obtain ⟨rfl,g1,g2⟩:=N7 F hy.1
    exact bu6 h1 h2 g1 g2 (R.q F _) F.calm (U0 hy.2 _ _)
   ·exact bH8 h1 h2 (R.q F _) hs
  ·split
   ·exact bW0 h1 h2 (R.e F a) hs
   ·exact bH8 h1 h2 (R.q F a) hs
 split
 ·rename_i h; obtain ⟨rfl,h1,h2⟩:=N7 F h; exact bV8 h1 h2 (R.q F a) hs
 split
 ·rename_i h; obtain ⟨rfl,h1,h2⟩:=N7 F h; exact cr4 h1 h2 (R.q F a) F.calm hs
 split
 ·rename_i h; obtain ⟨rfl,h1,h2⟩:=N7 F h; exact bH9 h1 h2 (R.e F a) hs
 split
 ·rename_i h; obtain ⟨rfl,h1,h2⟩:=N7 F h; exact bH5 h1 h2 (R.e F a) hs
 split
 ·rename_i h; obtain ⟨rfl,h1,h2⟩:=N7 F h; exact O9
 split
 ·rename_i h; obtain ⟨rfl,h1,h2⟩:=N7 F h; exact O9
 split
 ·rename_i h; obtain ⟨rfl,h1,h2⟩:=N7 F h; exact O9
 exact O9
theorem bq2 (R : Sound S r) (F : Fit S c X) (x : Str) (a b : Expr) (p pos : Pos) : JE X (.Call (.Name x p) [a,b] [] pos) (bd8 S r c x a b):=by
 unfold bd8
 split
 ·exact O9
 rename_i hp
 have hp : pl a = true:=by simpa using hp
 split
 ·rename_i h
  obtain ⟨rfl,h1,h2⟩:=N7 F h
  split
  ·rename_i y py
   split
   ·rename_i T hT
    split
    ·rename_i hy
     obtain ⟨_,g1,g2⟩:=N7 F hy
     obtain ⟨t1,t2,t3⟩:=bq5 hT
     exact cq9 h1 h2 g1 g2 t1 (R.e F a) t2 t3 (U0 hp _ _) rfl rfl
    ·exact O9
   ·exact O9
  ·exact O9
 split
 ·exact O9
 rename_i hb
 have hb : pl b = true:=by simpa using hb
 split
 ·rename_i h; obtain ⟨rfl,h1,h2⟩:=N7 F h; exact O9
 split
 ·rename_i h; obtain ⟨rfl,h1,h2⟩:=N7 F h; exact O9
 exact O9
theorem aH0 (pos : Pos) : ∀ l : List (Bool × Sem Value),(backTo pos l).any (·.1) = l.any (·.1)
 | []=>rfl
 | (b,t) :: r=>by
  have ih:=aH0 pos r
  unfold backTo at ih ⊢
  rw [xmc,List.any_cons,List.any_cons,ih]
theorem bA0 (R : Sound S r) (F : Fit S c X) (x : Str) (args : List Expr) (p pos : Pos) : JE X (.Call (.Name x p) args [] pos) (bA1 S r c x args (.Call (.Name x p) args [] pos)):=by
 unfold bA1
 split
 ·rename_i Fn n hl
  split
  ·rename_i h
   simp only [Bool.and_eq_true,beq_iff_eq] at h
   obtain ⟨⟨hg,hn⟩,hp⟩:=h
   obtain ⟨g1,g2⟩:=aR5 F hg
   rcases F.fns _ _ _ hl with ⟨k,f,fd,ps,hk,hr,hm,hkp,hb⟩ | ⟨hm,hb⟩
   case inr =>
    cases args with
    | nil=>cases hn; exact absurd hb.1 (Nat.lt_irrefl _)
    | cons e es =>
     simp only [List.all_cons,Bool.and_eq_true] at hp
     exact cB1 hb F.units g1 hm (aL7 (R.e F) (e :: es)) hn g2 (U0 hp.1 _ _) ((aH0 pos _).trans (ap9 pos _ hp.2))
   cases args with
   | nil=>cases hn; exact bI3 hk hr g1 hm hkp hb g2
   | cons e es =>
    simp only [List.all_cons,Bool.and_eq_true] at hp
    exact bW2 hk hr g1 hm hkp hb (aL7 (R.e F) (e :: es)) hn g2 (U0 hp.1 _ _) ((aH0 pos _).trans (ap9 pos _ hp.2))
  ·exact O9
 ·split
  ·split
   ·exact aF4 (R.n F _)
   ·exact bq3 R F _ _ _ _
  ·exact bq2 R F _ _ _ _ _
  ·exact O9
theorem cu8 (R : Sound S r) (F : Fit S c X) (ex : Expr) : JE X ex (xE S r c ex):=by
 have hu:=F.units
 unfold xE
 split
 ·exact cq7
 ·exact cB0
 ·exact bI0
 ·exact cq1
 ·split
  ·rename_i i h
   split
   ·rename_i v; obtain ⟨h1,h2,h3⟩:=aA9 F v; exact cp9 i (F.slot h) h1 h2 h3
   ·exact O9
  ·split
   ·rename_i d hd
    split
    ·rename_i g; obtain ⟨u,k1,k2⟩:=F.css _ _ hd; obtain ⟨g1,g2⟩:=aR5 F g; exact cr1 k1 g1 k2 g2
    ·exact O9
   ·exact O9
 ·split
  ·rename_i h; exact cq0 (aL7 (R.e F) _) h
  ·exact O9
 ·exact aF4 (R.n F _)
 ·exact aF4 (R.n F _)
 ·split
  ·exact aa4 bE0 (R.e F _) (R.e F _)
  ·exact aa4 bS6 (R.e F _) (R.e F _)
 ·exact aa4 cl4 (R.e F _) (R.e F _)
 ·split
  ·exact aa4 aP5 (R.e F _) (R.e F _)
  ·split
   ·split
    ·exact aa4 bS5 (R.e F _) (R.e F _)
    ·exact aa4 bn6 (R.e F _) (R.e F _)
   ·exact aa4 bn6 (R.e F _) (R.e F _)
 ·exact aa4 cm0 (R.e F _) (R.e F _)
 ·exact aa4 cl7 (R.e F _) (R.e F _)
 ·exact aa4 cl5 (R.e F _) (R.e F _)
 ·exact bH7 (R.e F _)
 ·exact cq6 (R.e F _)
 ·split
  ·rename_i h; exact cr2 (bD7 hu S c _ _) (R.e F _) (R.e F _) (aB0 h _)
  ·exact O9
 ·split
  ·rename_i h; exact bI2 (ak1 hu _) (ak1 hu _) (R.e F _) (R.e F _) (R.e F _) (aB0 h _)
  ·exact O9
 ·exact aR3 (R.e F) _ _ _
 ·exact cr0 (R.t F _) (R.e F _) (R.e F _)
 ·exact bO1 R F _ _ _
 ·split
  ·rename_i h
   simp only [Bool.and_eq_true,beq_iff_eq] at h
   obtain ⟨⟨⟨hm,hn⟩,hl⟩,hp⟩:=h
   subst hm
   have hs:=U0 hp [] X.env
   exact bW1 (R.e F _) (R.q F _) (az6 hn _ _ _) (by rw [hs]; rfl) (by simpa using hl) hs
  ·split
   ·rename_i h
    simp only [Bool.and_eq_true,beq_iff_eq] at h
    obtain ⟨⟨⟨hm,hn⟩,hl⟩,hp⟩:=h
    subst hm
    have hs:=U0 hp [] X.env
    exact bI1 hu (R.e F _) (R.e F _) (az6 hn _ _ _) (by rw [hs]; rfl) (by simpa using hl) hs
   ·exact O9
 ·exact bA0 R F _ _ _ _
 ·exact O9
theorem cu5 (R : Sound S r) (F : Fit S c X) (ex : Expr) : JQ X ex (xQ S r c ex):=by
 unfold xQ
 split
 ·split
  ·rename_i i h
   split
   ·rename_i v; obtain ⟨h1,h2,h3⟩:=aA9 F v; exact cp2 i (F.slot h) h1 h2 h3
   ·exact ca6
  ·exact bH1 (R.e F _)
 ·exact cp3 (R.n F _)
 ·exact cp3 (R.n F _)
 ·split
  ·exact cp3 (R.n F _)
  ·exact bH1 (R.e F _)
 ·exact bH1 (R.e F _)
theorem cu6 (R : Sound S r) (F : Fit S c X) (ex : Expr) : JN X ex (xN S r c ex):=by
 unfold xN
 split
 ·split
  ·rename_i h; exact cp4 (aL7 (R.e F) _) h
  ·exact aL6
 ·exact cA7 R F _
 ·split
  ·rename_i h
   simp only [Bool.and_eq_true] at h
   obtain ⟨rfl,h1,h2⟩:=N7 F h.1
   exact bV4 h1 h2 (R.q F _) (U0 h.2 _ _)
  ·exact aL6
 ·exact cp5 (R.q F _) (R.q F _)
 ·exact aL6
theorem cu3 (R : Sound S r) (F : Fit S c X) (ex : Expr) : JT X ex (xT S r c ex):=by
 have hu:=F.units
 unfold xT
 split
 ·split
  ·rename_i h; exact co2 (bD7 hu S c _ _) (R.e F _) (R.e F _) (aB0 h _)
  ·exact bo2
 ·split
  ·rename_i h; exact bG5 (ak1 hu _) (ak1 hu _) (R.e F _) (R.e F _) (R.e F _) (aB0 h _)
  ·exact bo2
 ·exact bG4 (aR2 (R.t F) _ _ _)
 ·exact co1 (R.t F _)
 ·split
  ·rename_i h; exact co0 (R.e F _) (bC8 h _)
  ·exact bo2
theorem cu7 (R : Sound S r) (F : Fit S c X) (ex : Expr) : JG X ex (xG r c ex):=by
 unfold xG
 split
 ·split
  ·rename_i i h
   split
   ·rename_i v; obtain ⟨h1,h2⟩:=bo0 F v; exact bV7 i (by rw [F.N]; exact F.nd) (F.slot h) h1 h2
   ·exact aY7
  ·exact aY7
 ·split
  ·rename_i h
   obtain ⟨h1,h2⟩:=bp7 (env:=X.env) h
   exact cp8 (bH2 (R.g F) _ h) F.calm h1 h2
  ·exact aY7
 ·exact aY7
theorem bo3 {st : Stmt} {f : DS} (h : ∀ ρ,f ρ = none) : JS X st f:=fun ρ fl q=>by rw [h ρ] at q; cases q
theorem bM4 (F : Fit S c X) (h : c.df = true) : X.env.blockKind = .function:=by
 unfold Env.blockKind
 rw [F.sc,(F.df h).2]; rfl
theorem aK2 (elt : Expr) (gens : List Comprehension) (sc : Scope) (pv p' : Pos) (x : Str) (l : Nat) (env : Env) : swapsWith (.ListComp elt gens sc pv) (some (.Name x p')) l env =
  pure (env.blockKind == .function && env.kindOf x == some .local && p'.line == pv.line && !(sc.names.any fun (n,k)=>n == x && (k == .local || k == .cell))):=rfl
theorem bo4 (R : Sound S r) (F : Fit S c X) {x : Str} {p' pv p : Pos} {elt : Expr} {gens : List Comprehension} {sc : Scope} {i : Nat} (hi : aq4 x c.N = some i) (hl : (c.sc.names.lookup x == some .local) = true)
  (h : (c.df && p'.line == pv.line && !(sc.names.any fun (n,k)=>n == x && (k == .local || k == .cell))) = true) :
  JS X (.Assign [.Name x p'] (.ListComp elt gens sc pv) p) (r9 i (evC S r c (.ListComp elt gens sc pv))) ∧ JS X (.Assign [.Name x p'] (.ListComp elt gens sc pv) p) (R3 i (evC S r c (.ListComp elt gens sc pv))):=by
 unfold evC
 simp only [Bool.and_eq_true] at h
 have hl' : X.env.scope.names.lookup x = some .local:=by rw [F.sc]; simpa using hl
 have hsw : swapsWith (.ListComp elt gens sc pv) (some (.Name x p')) p.line X.env = pure true:=by
  rw [aK2,bM4 F h.1.1,h.1.2,h.2]
  unfold Env.kindOf
  rw [hl']; rfl
 split
 ·rename_i elt tgt iter ifs scope pos he
  cases he
  dsimp only
  split
  ·rename_i hc
   obtain ⟨h1,h2,h3,h4,h5,h6⟩:=bp2 (ifs:=ifs) (elt:=elt) R F hc
   exact ⟨bU8 i (by rw [F.N]; exact F.nd) h1 F.hx h2 h3 h4 h5 (F.slot hi) hl' hsw F.calm h6,bV0 i (by rw [F.N]; exact F.nd) h1 F.hx h2 h3 h4 h5 (F.slot hi) hl' hsw F.calm h6⟩
  ·exact ⟨bo3 fun ρ=>rfl,bo3 fun ρ=>rfl⟩
 ·exact ⟨bo3 fun ρ=>rfl,bo3 fun ρ=>rfl⟩
theorem bO3 (R : Sound S r) (F : Fit S c X) (tg v : Expr) (p : Pos) : JS X (.Assign [tg] v p) (cb4 S r c tg v p):=by
 have nd : X.N.Nodup:=by rw [F.N]; exact F.nd
 unfold cb4
 split
 ·rename_i x p'
  split
  ·exact K2
  ·rename_i i hi
   split
   ·exact K2
   ·rename_i hlo
    have hlo : bG0 c x = true:=by simpa using hlo
    obtain ⟨l1,l2⟩:=bo0 F hlo
    split
    ·rename_i elt gens sc pv
     split
     ·rename_i hl
      split
      ·rename_i h
       split
       ·exact (bo4 R F hi hl h).1
       ·exact (bo4 R F hi hl h).2
      ·exact K2
     ·rename_i hl
      refine bG8 i nd (R.e F _) (F.slot hi) l1 ?_ l2
      rw [aK2]
      have : (X.env.kindOf x == some .local) = false:=by
       unfold Env.kindOf
       rw [F.sc]; simpa using hl
      rw [this,Bool.and_false]; rfl
    ·split
     ·exact K2
     ·rename_i hc
      have hc : isC v = false:=by simpa using hc
      split
      ·exact co6 i nd (R.n F _) (F.slot hi) l1 (aF1 hc _ _ _) l2
      ·exact bG8 i nd (R.e F _) (F.slot hi) l1 (aF1 hc _ _ _) l2
 ·split
  ·exact K2
  ·rename_i i hi
   split
   ·rename_i h
    simp only [Bool.and_eq_true,Bool.not_eq_true'] at h
    obtain ⟨h1,h2,h3⟩:=aA9 F h.1
    exact co3 i (R.n F _) (ao4 (R.e F) _) (ao4 (R.e F) _) (F.slot hi) h1 h2 h3 (aF1 h.2 _ _ _)
   ·exact K2
 ·rename_i x px y py kt pt
  split
  ·rename_i a b k2 p2
   split
   ·rename_i i j hi hj
    split
    ·rename_i h
     unfold cy1 at h
     simp only [Bool.and_eq_true,Bool.not_eq_true',beq_iff_eq] at h
     obtain ⟨⟨⟨⟨⟨⟨⟨⟨hd,ha⟩,hb⟩,hxy⟩,hl⟩,hx⟩,hy⟩,hf⟩,hcs⟩:=h
     have hx' : X.env.scope.names.lookup x = some .local:=by rw [F.sc]; exact hx
     have hy' : X.env.scope.names.lookup y = some .local:=by rw [F.sc]; exact hy
     have hne : i ≠ j:=fun z=>by
      subst z
      have:=(F.slot hi).symm.trans (F.slot hj)
      cases this
      simp at hxy
     refine co5 nd (aL7 (R.e F) [a,b]) ?_ hne (F.slot hi) (F.slot hj) hx' hy' F.calm rfl
     have kx : X.env.kindOf x = some .local:=hx'
     have ky : X.env.kindOf y = some .local:=hy'
     have st : ∀ e : Expr,pl e = true → (match e with | .Starred ..=>true | _=>false) = false:=fun e he=>by cases e <;> first | rfl | cases he
     have sa:=st a ha
     have sb:=st b hb
     have hyx : (y == x) = false:=by
      cases q : (y == x) with
      | false=>rfl
      | true=>simp only [beq_iff_eq] at q; subst q; simp at hxy
     simp only [swappedStores,List.length_cons,List.length_nil,List.head?_cons,xms,Option.getD_some,Expr.pos,List.filterMap_cons,List.filterMap_nil,kx,ky,bM4 F hd,hf,hcs,hl,sa,sb,List.any_cons,List.any_nil]
     simp [List.eraseDups,List.eraseDupsBy,List.eraseDupsBy.loop,hxy,hyx]
     intro z
     rcases z with z | z
     ·cases a <;> first | exact absurd (show false = true from z) Bool.false_ne_true | exact nomatch ha
     ·cases b <;> first | exact absurd (show false = true from z) Bool.false_ne_true | exact nomatch hb
    ·exact K2
   ·exact K2
  ·exact K2
  ·rename_i h1 h2
   refine bG9 (R.e F _) (R.g F _) ?_ ?_ rfl
   ·cases v <;> rfl
   ·cases v <;> first | rfl | exact (h2 _ _ _ rfl).elim
 ·rename_i es kt pt _
  split
  ·exact K2
  ·rename_i h
   refine bG9 (R.e F _) (R.g F _) ?_ ?_ rfl
   ·cases v <;> rfl
   ·cases v <;> first | rfl | skip
    rename_i vs k3 p3
    have h : (es.length == 2 || es.length == 3) = false:=by simpa [aZ1] using h
    unfold swappedStores
    simp only [h,xnf,Bool.true_or,if_true]
 ·exact K2
end
end G
namespace G
open PySem PySem.Spec PyProof.Rows L2
section
variable {X : Cx} {S : Sg} {c : Kx} {r : Ev}
theorem bO2 (R : Sound S r) (F : Fit S c X) (x m : Str) (e : Expr) (p apos cpos pos : Pos) (hl : (apos.endLine == cpos.line) = true) : JS X (.Expr (.Call (.Attribute (.Name x p) m apos) [e] [] cpos) pos) (cb3 r c x m e):=by
 unfold cb3
 split
 ·exact K2
 ·rename_i i hi
  split
  ·rename_i h
   simp only [Bool.and_eq_true] at h
   obtain ⟨h1,h2,h3⟩:=aA9 F h.1
   have hs:=U0 h.2 [] X.env
   split
   ·rename_i hm
    simp only [beq_iff_eq] at hm
    subst hm
    exact cp1 i (R.e F e) (F.slot hi) h1 h2 h3 rfl (by rw [hs]; rfl) hl hs rfl
   ·split
    ·rename_i hm
     simp only [beq_iff_eq] at hm
     subst hm
     exact co9 i (R.e F e) (F.slot hi) h1 h2 h3 hl hs
    ·exact K2
  ·exact K2
theorem bz9 (R : Sound S r) (F : Fit S c X) (st : Stmt) : JS X st (xS0 S r c st):=by
 unfold xS0
 split
 ·exact co4 (R.e F _)
 ·exact cA6 (R.t F _) (R.b F _) (R.b F _)
 ·exact bG7 (R.t F _) (R.b F _) F.po
 ·split
  ·rename_i h; exact co8 (ca8 R F _ _) (R.g F _) (R.b F _) F.po F.calm (bn1 h _)
  ·exact K2
 ·exact bO3 R F _ _ _
 ·split
  ·rename_i h; exact bO2 R F _ _ _ _ _ _ _ h
  ·exact K2
 ·exact bU9
 ·exact cp0
 ·exact bU7
 ·exact K2
theorem bK3 {st : Stmt} : ∀ (l : List Nat) {g : DS},JS X st g → JS X st (l.foldl (fun g i=>ax4 i g) g)
 | [],_,h=>h
 | i :: l,_,h=>bK3 l (co7 i h)
theorem cu4 (R : Sound S r) (F : Fit S c X) (st : Stmt) : JS X st (xS S r c st):=by
 unfold xS fzW
 split
 ·exact bz9 R F st
 ·exact bK3 _ (bz9 R F st)
theorem bK5 {f : Stmt → DS} (h : ∀ st,JS X st (f st)) : ∀ sts,JSs X sts (evB f sts)
 | []=>bU6
 | [s]=>bU5 (h s)
 | s :: t :: J6=>bG6 (h s) (bK5 h (t :: J6))
theorem bO7 (R : Sound S r) : Sound S (step S r) :=
 ⟨fun F=>cu8 R F,fun F=>cu5 R F,fun F=>cu6 R F,fun F=>cu3 R F,fun F=>cu7 R F,fun F=>bK5 (cu4 R F)⟩
theorem cb0 (S : Sg) : ∀ n,Sound S (ev S n)
 | 0=>⟨fun _ _=>O9,fun _ _=>ca6,fun _ _=>aL6,fun _ _=>bo2,fun _ _=>aY7,fun _ _ ρ fl q=>by cases q⟩
 | n + 1=>bO7 (cb0 S n)
end
structure Fd where
 x : Str
 st : Stmt
 ps : List Str
 N : List Str
 own : List Nat:=[]
 tx : List Nat:=[]
 old : Bool:=false
 fz : List (Nat × List Nat):=[]
 hc : List ((Nat × Nat) × List Nat):=[]
def Fd.c (d : Fd) : Kx:={ N:=d.N,sc:=J7 d.st,df:=true,own:=d.own,cpt:=[],tx:=d.tx,old:=d.old,fz:=d.fz,hc:=d.hc }
def Fd.okB (d : Fd) : Bool:=let sc:=J7 d.st
 sc.kind == .function && !sc.isCoroutine && !sc.isGenerator && ay0 d.N && d.N.take d.ps.length == d.ps && (d.ps.all fun x=>match sc.names.lookup x with | some .local=>true | some .cell=>true | _=>false) && sc.names.all fun y=>match y.2 with | .free=>false | _=>true
theorem Fd.sc {d : Fd} (h : d.okB = true) : FnScope d.N d.ps (J7 d.st):=by
 unfold Fd.okB at h
 simp only [Bool.and_eq_true,Bool.not_eq_true',beq_iff_eq,List.all_eq_true] at h
 obtain ⟨⟨⟨⟨⟨⟨h1,h2⟩,h3⟩,h4⟩,h5⟩,h6⟩,h7⟩:=h
 refine ⟨h1,h2,h3,ax9 h4,h5,fun x hx=>?_,fun y hy e=>?_⟩
 ·have:=h6 x hx
  split at this
  ·rename_i q; exact .inl q
  ·rename_i q; exact .inr q
  ·cases this
 ·have:=h7 y hy
  rw [e] at this
  cases this
def KF (K : PySem.W.Frag) (x : Str) (st : Stmt) : Prop:=∃ (f : Addr) (oc : Value) (od : Option Addr) (sl : Array (Option Value)) (kV dc pm : Value) (an : Option Addr) (cd ct : Value),
 PySem.W.nsIn K mainGlobals x = some (some (.ref f)) ∧ K.lookup f = some ⟨oc,od,.func (PySem.W.fnOf x x (f9 st) (U2 st) (J7 st) .none kV dc pm an cd ct),sl⟩ ∧ PySem.W.codeIn K cd x = true ∧ PySem.W.keepIn K (.ref f) = true
theorem cA3 {K : PySem.W.Frag} {x : Str} {st : Stmt} {f : Addr} {oc : Value} {od : Option Addr} {sl : Array (Option Value)} {kV dc pm : Value} {an : Option Addr} {cd ct : Value} (a : PySem.W.nsIn K mainGlobals x = some (some (.ref f)))
  (l : K.lookup f = some ⟨oc,od,.func (PySem.W.fnOf x x (f9 st) (U2 st) (J7 st) .none kV dc pm an cd ct),sl⟩) (c : PySem.W.codeIn K cd x = true) (k : PySem.W.keepIn K (.ref f) = true) : KF K x st:=⟨f,oc,od,sl,kV,dc,pm,an,cd,ct,a,l,c,k⟩
abbrev Tab:=List (Str × FnD × Nat)
section
variable {P : Program} {w : World} {K : PySem.W.Frag} {mg : Str → Option Value} {base : Heap} {cs : List (Str × D)} {bl : List Str}
structure Md (K : PySem.W.Frag) (mg : Str → Option Value) (cs : List (Str × D)) (bl : List Str) : Prop where
 ns : ∀ x v,PySem.W.nsIn K mainGlobals x = some (some v) → mg x = some v
 css : ∀ x d,cs.lookup x = some d → ∃ u,bd6 K d u ∧ mg x = some u
 bls : ∀ x,bl.contains x = true → mg x = none
def TOk (P : Program) (w : World) (K : PySem.W.Frag) (mg : Str → Option Value) (base : Heap) (k : Nat) (tab : Tab) : Prop:=∀ x F n,tab.lookup x = some (F,n) → (∃ (f : Addr) (fd : FuncData) (ps : List Str),
 FnOk P w K mg base CX0 k f fd ps (spF K n F) ∧ mg x = some (.ref f) ∧ PySem.W.keepIn K (.ref f) = true ∧ y8 K fd ps []) ∨ (mg x = none ∧ cu1 x F n)
theorem TOk.nil : TOk P w K mg base 0 []:=fun x F n h=>by cases h
theorem TOk.mono {j k : Nat} {tab : Tab} (T : TOk P w K mg base j tab) (h : j ≤ k) : TOk P w K mg base k tab:=fun x F n e =>
 (T x F n e).imp (fun ⟨f,fd,ps,h1,h2,h3,h4⟩=>⟨f,fd,ps,h1.mono h,h2,h3,h4⟩) id
section
variable {P : List Value → Prop}
theorem ua0 (h : P []) : ∀ us : List Value,us.length = 0 → P us
 | [],_=>h
theorem ua1 (h : ∀ a,P [a]) : ∀ us : List Value,us.length = 1 → P us
 | a :: us,e=>ua0 (P:=fun us=>P (a :: us)) (h a) us (Nat.succ.inj e)
theorem ua2 (h : ∀ a b,P [a,b]) : ∀ us : List Value,us.length = 2 → P us
 | a :: us,e=>ua1 (P:=fun us=>P (a :: us)) (h a) us (Nat.succ.inj e)
theorem ua3 (h : ∀ a b c,P [a,b,c]) : ∀ us : List Value,us.length = 3 → P us
 | a :: us,e=>ua2 (P:=fun us=>P (a :: us)) (h a) us (Nat.succ.inj e)
theorem ua4 (h : ∀ a b c d,P [a,b,c,d]) : ∀ us : List Value,us.length = 4 → P us
 | a :: us,e=>ua3 (P:=fun us=>P (a :: us)) (h a) us (Nat.succ.inj e)
end
def Bd (d : Fd) : Prop:=∀ (kV doc pm : Value) (an : Option Addr) (cdv ct : Value) (us : List Value),us.length = d.ps.length → bindArgs (PySem.W.fnOf d.x d.x (f9 d.st) (U2 d.st) (J7 d.st) .none kV doc pm an cdv ct) ⟨us,[]⟩ = pure (d.ps.zip us)
def rd (tab : Tab) (cs : List (Str × D)) (bl : List Str) (d : Fd) : FnD:=E9 ((ev ⟨tab,cs,bl⟩ 99).b d.c (U2 d.st)) d.N.length
theorem aM1 {k : Nat} {tab : Tab} {d : Fd} {f : Addr} {fd : FuncData} (M : Md K mg cs bl) (T : TOk P w K mg base k tab) (ok : d.okB = true) (Fn : Fun K d.x d.x d.st f fd) : FnOk P w K mg base CX0 (k + 1) f fd d.ps (spF K d.ps.length (rd tab cs bl d)):=by
 have Sc:=Fd.sc ok
 refine bW8 (N:=d.N) Fn Sc fun cdv A outer s H E hr=>(cb0 ⟨tab,cs,bl⟩ 99).b (c:=d.c) ?_ _
 refine ⟨rfl,rfl,Sc.nd,rfl,rfl,hr.units,fun _=>⟨fun _=>rfl,Sc.kind⟩,fun x F n h=>?_,M.css,M.bls⟩
 exact (T x F n h).imp (fun ⟨f',fd',ps,h1,h2,h3,h4⟩=>⟨k,f',fd',ps,h1,hr,h2,h3,h4⟩) id
theorem ay2 {x : Str} {st : Stmt} (h : KF K x st) (M : Md K mg cs bl) : ∃ (f : Addr) (kV dc pm : Value) (an : Option Addr) (cd ct : Value),Fun K x x st f (PySem.W.fnOf x x (f9 st) (U2 st) (J7 st) .none kV dc pm an cd ct) ∧ mg x = some (.ref f):=by
 obtain ⟨f,oc,od,sl,kV,dc,pm,an,cd,ct,a,l,cc,kk⟩:=h
 exact ⟨f,kV,dc,pm,an,cd,ct,cs2 l cc kk,M.ns _ _ a⟩
theorem TOk.cons {k : Nat} {tab : Tab} {x : Str} {F : FnD} {n : Nat} (T : TOk P w K mg base k tab) (h : ∃ (f : Addr) (fd : FuncData) (ps : List Str),FnOk P w K mg base CX0 k f fd ps (spF K n F) ∧ mg x = some (.ref f) ∧ PySem.W.keepIn K (.ref f) = true ∧ y8 K fd ps []) :
  TOk P w K mg base k ((x,F,n) :: tab):=fun y G m e=>by
 rw [List.lookup_cons] at e
 split at e
 ·rename_i q
  cases e
  simp only [beq_iff_eq] at q
  subst q
  exact .inl h
 ·exact T y G m e
theorem TOk.add {k n : Nat} {tab : Tab} {F : FnD} (T : TOk P w K mg base k tab) (M : Md K mg cs bl) (d : Fd) (h : KF K d.x d.st) (bd : Bd d) (ok : d.okB = true) (hn : d.ps.length = n) (e : rd tab cs bl d = F) : TOk P w K mg base (k + 1) ((d.x,F,n) :: tab):=by
 subst hn e
 obtain ⟨f,kV,dc,pm,an,cd,ct,Fn,hm⟩:=ay2 h M
 exact (T.mono (Nat.le_succ k)).cons ⟨f,_,d.ps,aM1 M T ok Fn,hm,Fn.kp,.all (bd kV dc pm an cd ct)⟩
theorem TOk.rec {k n : Nat} {tab : Tab} {F : Nat → FnD} (T : TOk P w K mg base k tab) (M : Md K mg cs bl) (d : Fd) (h : KF K d.x d.st) (bd : Bd d) (ok : d.okB = true) (hn : d.ps.length = n) (e0 : F 0 = fun _=>none) (e : ∀ j,rd ((d.x,F j,n) :: tab) cs bl d = F (j + 1)) (j : Nat) :
  TOk P w K mg base (k + j) ((d.x,F j,n) :: tab):=by
 subst hn
 obtain ⟨f,kV,dc,pm,an,cd,ct,Fn,hm⟩:=ay2 h M
 have bb : y8 K _ d.ps []:=.all (bd kV dc pm an cd ct)
 have main : ∀ j,FnOk P w K mg base CX0 (k + j) f (PySem.W.fnOf d.x d.x (f9 d.st) (U2 d.st) (J7 d.st) .none kV dc pm an cd ct) d.ps (spF K d.ps.length (F j)):=fun j=>by
  induction j with
  | zero =>
   rw [e0]
   exact ⟨fun vs H Q E h=>h.1,fun A outer s H args us vs Q E hr e0 hb hv hs=>by obtain ⟨_,Hf,ds,d,_,_,e,_⟩:=hs; cases e⟩
  | succ j ih =>
   rw [← e j]
   exact aM1 M ((T.mono (Nat.le_add_right k j)).cons ⟨f,_,d.ps,ih,hm,Fn.kp,bb⟩) ok Fn
 exact (T.mono (Nat.le_add_right k j)).cons ⟨f,_,d.ps,main j,hm,Fn.kp,bb⟩
theorem TOk.rec3 {k n1 n2 n3 : Nat} {tab : Tab} {F1 F2 F3 : Nat → FnD} (T : TOk P w K mg base k tab) (M : Md K mg cs bl) (d1 d2 d3 : Fd) (h1 : KF K d1.x d1.st) (h2 : KF K d2.x d2.st) (h3 : KF K d3.x d3.st) (q1 : Bd d1) (q2 : Bd d2) (q3 : Bd d3) (ok1 : d1.okB = true) (ok2 : d2.okB = true) (ok3 : d3.okB = true)
  (m1 : d1.ps.length = n1) (m2 : d2.ps.length = n2) (m3 : d3.ps.length = n3) (z1 : F1 0 = fun _=>none) (z2 : F2 0 = fun _=>none) (z3 : F3 0 = fun _=>none)
  (e1 : ∀ j,rd ((d1.x,F1 j,n1) :: (d2.x,F2 j,n2) :: (d3.x,F3 j,n3) :: tab) cs bl d1 = F1 (j + 1)) (e2 : ∀ j,rd ((d1.x,F1 j,n1) :: (d2.x,F2 j,n2) :: (d3.x,F3 j,n3) :: tab) cs bl d2 = F2 (j + 1))
  (e3 : ∀ j,rd ((d1.x,F1 j,n1) :: (d2.x,F2 j,n2) :: (d3.x,F3 j,n3) :: tab) cs bl d3 = F3 (j + 1)) (j : Nat) :
  TOk P w K mg base (k + j) ((d1.x,F1 j,n1) :: (d2.x,F2 j,n2) :: (d3.x,F3 j,n3) :: tab):=by
 subst m1 m2 m3
 obtain ⟨f1,a1,a2,a3,a4,a5,a6,Fn1,hm1⟩:=ay2 h1 M
 obtain ⟨f2,c1,c2,c3,c4,c5,c6,Fn2,hm2⟩:=ay2 h2 M
 obtain ⟨f3,g1,g2,g3,g4,g5,g6,Fn3,hm3⟩:=ay2 h3 M
 have b1 : y8 K _ d1.ps []:=.all (q1 a1 a2 a3 a4 a5 a6)
 have b2 : y8 K _ d2.ps []:=.all (q2 c1 c2 c3 c4 c5 c6)
 have b3 : y8 K _ d3.ps []:=.all (q3 g1 g2 g3 g4 g5 g6)
 have none_ok : ∀ {f : Addr} {fd : FuncData} {ps : List Str},FnOk P w K mg base CX0 (k + 0) f fd ps (spF K ps.length fun _=>none):=fun {f fd ps} =>
  ⟨fun vs H Q E h=>h.1,fun A outer s H args us vs Q E hr e0 hb hv hs=>by obtain ⟨_,Hf,ds,d,_,_,e,_⟩:=hs; cases e⟩
 induction j with
 | zero=>rw [z1,z2,z3]; exact (((T.mono (Nat.le_refl _)).cons ⟨f3,_,d3.ps,none_ok,hm3,Fn3.kp,b3⟩).cons ⟨f2,_,d2.ps,none_ok,hm2,Fn2.kp,b2⟩).cons ⟨f1,_,d1.ps,none_ok,hm1,Fn1.kp,b1⟩
 | succ j ih =>
  have o1:=aM1 M ih ok1 Fn1
  have o2:=aM1 M ih ok2 Fn2
  have o3:=aM1 M ih ok3 Fn3
  rw [e1 j] at o1
  rw [e2 j] at o2
  rw [e3 j] at o3
  exact (((T.mono (Nat.le_add_right k (j + 1))).cons ⟨f3,_,d3.ps,o3,hm3,Fn3.kp,b3⟩).cons ⟨f2,_,d2.ps,o2,hm2,Fn2.kp,b2⟩).cons ⟨f1,_,d1.ps,o1,hm1,Fn1.kp,b1⟩
theorem bU1 {k : Nat} {tab : Tab} {F : FnD} {fa : Addr} {x : Str} (M : Md K mg cs bl) (T : ∀ base : Heap,TOk P w K mg base k tab) (d : Fd) (h : KF K d.x d.st) (bd : Bd d) (ok : d.okB = true) (hp : d.ps = [x]) (e : rd tab cs bl d = F) (hm : mg d.x = some (.ref fa)) :
  ∃ fd : FuncData,(∀ (s : Shared) (u : Value),BindsTo s fd ⟨[u],[]⟩ [(x,u)]) ∧ ∀ base : Heap,FnOk P w K mg base CX0 (k + 1) fa fd [x] (spF K 1 F):=by
 subst e
 obtain ⟨f,kV,dc,pm,an,cd,ct,Fn,hm'⟩:=ay2 h M
 cases hm.symm.trans hm'
 refine ⟨PySem.W.fnOf d.x d.x (f9 d.st) (U2 d.st) (J7 d.st) .none kV dc pm an cd ct,fun s u=>.of_eq ?_,fun base=>?_⟩
 ·have:=bd kV dc pm an cd ct [u] (by rw [hp]; rfl)
  rw [hp] at this
  exact this
 ·have:=aM1 M (T base) ok Fn
  rw [hp] at this
  exact this
end
end G
namespace Lk79
open PySem PySem.Spec PyProof.Rows L2 G Sh
def top (i : Nat) : Stmt:=PySem.Challenge.pw_glazework_k79_deeds_known.main.body.getD i (.Pass ⟨0,0,0,0⟩)
abbrev ao9 : Stmt:=top 1
abbrev W6 : Stmt:=top 2
abbrev ap5 : Stmt:=top 3
abbrev ad2 : Stmt:=top 4
abbrev aw6 : Stmt:=top 6
abbrev ap7 : Stmt:=top 7
abbrev ap8 : Stmt:=top 8
abbrev aw7 : Stmt:=top 9
abbrev av7 : Stmt:=top 10
abbrev ah6 : Stmt:=top 11
abbrev av6 : Stmt:=top 12
abbrev y9 : Stmt:=top 13
abbrev ap3 : Stmt:=top 14
abbrev av9 : Stmt:=top 15
abbrev aD4 : Stmt:=top 16
abbrev av8 : Stmt:=top 17
abbrev ao7 : Stmt:=top 18
abbrev aa1 : Stmt:=top 19
abbrev aw8 : Stmt:=top 23
abbrev aw9 : Stmt:=top 26
abbrev ap2 : Stmt:=top 27
abbrev ap4 : Stmt:=top 28
abbrev ax1 : Stmt:=top 33
abbrev ap1 : Stmt:=top 34
abbrev ai3 : Stmt:=top 35
abbrev ax2 : Stmt:=top 36
abbrev T3 : Stmt:=top 37
abbrev T5 : Stmt:=top 38
abbrev Y8 : Stmt:=top 39
abbrev ai5 : Stmt:=top 40
abbrev aa0 : Stmt:=top 41
abbrev U5 : Stmt:=top 42
abbrev ax0 : Stmt:=top 43
abbrev ai4 : Stmt:=top 45
abbrev ap6 : Stmt:=top 46
abbrev ap0 : Stmt:=top 47
abbrev Y7 : Stmt:=top 48
abbrev W5 : Stmt:=top 49
abbrev m9 : Stmt:=top 50
abbrev ax3 : Stmt:=top 51
abbrev aE0 : Stmt:=top 53
abbrev aw5 : Stmt:=top 54
abbrev aD6 : Stmt:=top 55
abbrev aw0 : Stmt:=top 57
abbrev aw2 : Stmt:=top 59
abbrev aD5 : Stmt:=top 60
abbrev aw1 : Stmt:=top 61
abbrev aw4 : Stmt:=top 62
abbrev aD7 : Stmt:=top 63
abbrev aw3 : Stmt:=top 64
abbrev ah7 : Stmt:=top 65
abbrev ac7 : Stmt:=top 66
abbrev ac9 : Stmt:=top 67
abbrev ah8 : Stmt:=top 68
abbrev aO4 : Stmt:=top 69
abbrev ao8 : Stmt:=top 70
abbrev aO5 : Stmt:=top 71
abbrev ai0 : Stmt:=top 72
abbrev ac8 : Stmt:=top 73
abbrev ad0 : Stmt:=top 74
abbrev ah9 : Stmt:=top 75
abbrev m8 : Stmt:=top 76
abbrev aO3 : Stmt:=top 78
abbrev aD9 : Stmt:=top 79
abbrev ai2 : Stmt:=top 80
abbrev ai1 : Stmt:=top 81
abbrev aD8 : Stmt:=top 82
abbrev bZ4 : Stmt:=top 83
def S2 : DS:=(B4 (G0 (A8 J8 (A5 (A6 0) A7)) (A9 geI (A6 0) (dC (.int 0)))))
def N5 : List D → Option D:=E9 S2 1
def af8 : DS:=(B4 (G0 (D3 "tuple" (A6 0)) (G0 (A9 eqD (D4 (B0 0)) (dC (.int 2))) (G0 (A8 P2 (A5 (dIx (B0 0) (dC (.int 0))) A7)) (A8 P2 (A5 (dIx (B0 0) (dC (.int 1))) A7))))))
def W9 : List D → Option D:=E9 af8 1
def n9 : DS:=(B3 (sIf (tB2 eqD (A6 0) (dC (.str "strength"))) (B4 (A8 F8 (A5 (A6 1) A7))) C0) (B3 (sIf (tB2 eqD (A6 0) (dC (.str "shown"))) (B4 (A8 U8 (A5 (A6 1) A7))) C0) (B3 (sIf (tB2 eqD (A6 0) (dC (.str "manner"))) (B4 (A9 (inD false) (A6 1) (dC (.tuple [(.str "over"),(.str "multiply"),(.str "screen"),(.str "plus"),(.str "atop"),(.str "cut")])))) C0) (B4 (A8 W9 (A5 (A6 1) A7))))))
def p8 : List D → Option D:=E9 n9 2
def M4 : DS:=(B3 (sIf (C4 (tB2 neD (D4 (B0 0)) (dC (.int 6))) (C4 (B7 (B9 (A8 O8 (A5 (dIx (B0 0) (dC (.int 1))) A7)))) (C4 (B7 (B9 (A8 N5 (A5 (dIx (B0 0) (dC (.int 2))) A7)))) (B7 (B9 (A8 N5 (A5 (dIx (B0 0) (dC (.int 3))) A7))))))) (B4 (dC (.bool false))) C0) (B4 (G0 (A8 L1 (A5 (dIx (B0 0) (dC (.int 4))) A7)) (A8 L1 (A5 (dIx (B0 0) (dC (.int 5))) A7)))))
def M6 : List D → Option D:=E9 M4 1
def W8 : DS:=(B4 (G0 (A9 eqD (D4 (B0 0)) (dC (.int 4))) (G0 (A8 O8 (A5 (dIx (B0 0) (dC (.int 1))) A7)) (G0 (A8 p8 (A5 (dIx (B0 0) (dC (.int 0))) (A5 (dIx (B0 0) (dC (.int 2))) A7))) (A8 p8 (A5 (dIx (B0 0) (dC (.int 0))) (A5 (dIx (B0 0) (dC (.int 3))) A7)))))))
def L9 : List D → Option D:=E9 W8 1
def O6 : DS:=(B3 (sIf (C4 (tB2 neD (D4 (B0 0)) (dC (.int 4))) (C4 (B7 (B9 (A8 N5 (A5 (dIx (B0 0) (dC (.int 2))) A7)))) (B7 (B9 (A8 ac1 (A5 (dIx (B0 0) (dC (.int 3))) A7)))))) (B4 (dC (.bool false))) C0) (B4 (dOr (A9 eqD (dIx (B0 0) (dC (.int 1))) (dC (.str ""))) (A8 O8 (A5 (dIx (B0 0) (dC (.int 1))) A7)))))
def S5 : List D → Option D:=E9 O6 1
def j7 : DS:=(B3 (sIf (C4 (B7 (B9 (D3 "tuple" (A6 0)))) (tB2 eqD (D4 (B0 0)) (dC (.int 0)))) (B4 (dC (.bool false))) C0) (B3 (sIf (tB2 (inD false) (dIx (B0 0) (dC (.int 0))) (D2 (A5 (dC (.str "put")) (A5 (dC (.str "out")) A7)))) (B4 (A8 S5 (A5 (A6 0) A7))) C0) (B3 (sIf (tB2 eqD (dIx (B0 0) (dC (.int 0))) (dC (.str "spot"))) (B4 (A8 M6 (A5 (A6 0) A7))) C0) (B4 (G0 (A9 (inD false) (dIx (B0 0) (dC (.int 0))) (D2 (A5 (dC (.str "strength")) (A5 (dC (.str "shown")) (A5 (dC (.str "manner")) (A5 (dC (.str "place")) A7)))))) (A8 L9 (A5 (A6 0) A7)))))))
def F4 : List D → Option D:=E9 j7 1
def bp8 : DS:=(B3 (D0 4 (A9 C1 (D6 (A5 (D2 (A5 (dC (.str "")) (A5 (A6 2) A7))) A7)) (D6 (C8 1 [] (E1 (A8 (E8 12) (A5 (A6 2) A7))) (C7 0) (tB2 eqD (dIx (B0 0) (dC (.int 0))) (dC (.str "group"))) (D2 (A5 (dIx (B0 0) (dC (.int 1))) (A5 (dIx (B0 0) (dC (.int 5))) A7))))))) (B3 (Y9 (dIx (B0 4) (A8 B5 (A5 (A6 0) (A5 (A6 1) (A5 (D4 (B0 4)) A7))))) (Q2 2 (F6 (C7 5) (F6 (C7 6) Q9)))) (B3 (D0 7 (A8 T9 (A5 (A6 0) (A5 (A9 C1 (A6 1) (dC (.int 10))) (A5 (A6 3) (A5 (dC (.str "over")) A7)))))) (B3 (sIf (tB2 eqD (A8 B5 (A5 (A6 0) (A5 (A9 C1 (A6 1) (dC (.int 1))) (A5 (dC (.int 3)) A7)))) (dC (.int 0))) (D0 7 (D2 (A5 (dC (.str "group")) (A5 (A6 3) (A5 (dC (.str "plus")) (A5 (D2 (A5 (dC (.int 1)) (A5 (dC (.int 2)) A7))) (A5 (dC (.bool true)) (A5 (D2 (A5 (A9 C1 (A9 C1 (P8 (A6 7) E7 (D1 (dC (.int 1)))) (D2 (A5 (A9 C1 (A6 3) (dC (.str "q"))) A7))) (P8 (A6 7) (D1 (dC (.int 2))) E7)) A7)) A7)))))))) C0) (B4 (D2 (A5 (dC (.str "put")) (A5 (A6 5) (A5 (A8 B5 (A5 (A6 0) (A5 (A9 C1 (A6 1) (dC (.int 2))) (A5 (A9 C1 (D4 (B0 6)) (dC (.int 1))) A7)))) (A5 (A6 7) A7))))))))))
def av1 : List D → Option D:=E9 bp8 8
def az4 : DS:=(D0 4 (dIx (B0 2) (dC (.int 2))))
def ah5 : DS:=(D0 5 (A8 (E8 12) (A5 (A6 4) A7)))
def X8 : DS:=(sIf (C4 (tB2 eqD (A6 5) (D6 A7)) (tB2 eqD (A8 B5 (A5 (A6 0) (A5 (A6 1) (A5 (dC (.int 4)) A7)))) (dC (.int 0)))) (B4 (A8 av1 (A5 (A6 0) (A5 (A9 C1 (A6 1) (dC (.int 20))) (A5 (A6 4) (A5 (A6 3) A7)))))) C0)
def ah4 : DS:=(D0 6 (dIx (B0 5) (A8 B5 (A5 (A6 0) (A5 (A9 C1 (A6 1) (dC (.int 1))) (A5 (D4 (B0 5)) A7))))))
def ah3 : DS:=(D0 7 (A8 B5 (A5 (A6 0) (A5 (A9 C1 (A6 1) (dC (.int 2))) (A5 (dC (.int 6)) A7)))))
def V0 : DS:=(sIf (tB2 eqD (A6 7) (dC (.int 0))) (B3 (D0 8 (A9 C1 (D6 (A5 (D2 (A5 (dC (.str "")) (A5 (A6 4) A7))) A7)) (D6 (C8 1 [] (E1 (A6 5)) (C7 0) (tB2 eqD (dIx (B0 0) (dC (.int 0))) (dC (.str "group"))) (D2 (A5 (dIx (B0 0) (dC (.int 1))) (A5 (dIx (B0 0) (dC (.int 5))) A7))))))) (B3 (Y9 (dIx (qN (C8 1 [6] (E1 (A6 8)) (C7 0) (tB2 (inD false) (A6 1) (dIx (B0 0) (dC (.int 1)))) (A6 0))) (dC (.int 0))) (Q2 2 (F6 (C7 9) (F6 (C7 10) Q9)))) (B4 (D2 (A5 (dC (.str "out")) (A5 (A6 9) (A5 (aG5 (A6 10) (A6 6)) (A5 (A6 6) A7)))))))) C0)
def M7 : DS:=(sIf (C4 (tB2 eqD (A6 7) (dC (.int 1))) (tB2 eqD (dIx (B0 6) (dC (.int 0))) (dC (.str "tone")))) (B4 (D2 (A5 (dC (.str "shown")) (A5 (dIx (B0 6) (dC (.int 1))) (A5 (dIx (B0 6) (dC (.int 4))) (A5 (A9 eqD (A8 B5 (A5 (A6 0) (A5 (A9 C1 (A6 1) (dC (.int 3))) (A5 (dC (.int 2)) A7)))) (dC (.int 0))) A7)))))) C0)
def U9 : DS:=(sIf (C4 (tB2 eqD (A6 7) (dC (.int 2))) (tB2 eqD (dIx (B0 6) (dC (.int 0))) (dC (.str "group")))) (B4 (D2 (A5 (dC (.str "strength")) (A5 (dIx (B0 6) (dC (.int 1))) (A5 (dIx (B0 6) (dC (.int 3))) (A5 (A8 L0 (A5 (A6 0) (A5 (A9 C1 (A6 1) (dC (.int 4))) A7))) A7)))))) C0)
def X7 : DS:=(sIf (tB2 eqD (A6 7) (dC (.int 3))) (B3 (D0 11 (D6 (A5 (dC (.str "over")) (A5 (dC (.str "multiply")) (A5 (dC (.str "screen")) (A5 (dC (.str "plus")) (A5 (dC (.str "atop")) (A5 (dC (.str "cut")) A7)))))))) (B4 (D2 (A5 (dC (.str "manner")) (A5 (dIx (B0 6) (dC (.int 1))) (A5 (dIx (B0 6) (dC (.int 2))) (A5 (dIx (B0 11) (A8 B5 (A5 (A6 0) (A5 (A9 C1 (A6 1) (dC (.int 3))) (A5 (dC (.int 6)) A7))))) A7))))))) C0)
def X6 : DS:=(sIf (tB2 eqD (A6 7) (dC (.int 4))) (B4 (D2 (A5 (dC (.str "place")) (A5 (dIx (B0 6) (dC (.int 1))) (A5 (P8 (A6 6) (D1 (dC (.int 5))) (D1 (dC (.int 7)))) (A5 (D2 (A5 (A9 ag3 (A8 B5 (A5 (A6 0) (A5 (A9 C1 (A6 1) (dC (.int 3))) (A5 (dC (.int 5)) A7)))) (dC (.int 2))) (A5 (A9 ag3 (A8 B5 (A5 (A6 0) (A5 (A9 C1 (A6 1) (dC (.int 4))) (A5 (dC (.int 5)) A7)))) (dC (.int 2))) A7))) A7)))))) C0)
def Z9 : DS:=(Y9 (dIx (B0 6) (dC (.int 8))) (Q2 3 (F6 (C7 12) (F6 (C7 13) (F6 (C7 14) Q9)))))
def Z8 : DS:=(D0 15 (A8 B5 (A5 (A6 0) (A5 (A9 C1 (A6 1) (dC (.int 3))) (A5 (A6 12) A7)))))
def Z7 : DS:=(D0 16 (A8 B5 (A5 (A6 0) (A5 (A9 C1 (A6 1) (dC (.int 4))) (A5 (A6 13) A7)))))
def ac6 : DS:=(B4 (D2 (A5 (dC (.str "spot")) (A5 (dIx (B0 6) (dC (.int 1))) (A5 (A6 15) (A5 (A6 16) (A5 (dIx (B0 14) (A9 C1 (A9 J4 (A6 16) (A6 12)) (A6 15))) (A5 (A8 W0 (A5 (A6 0) (A5 (A9 C1 (A6 1) (dC (.int 7))) A7))) A7))))))))
def ab6 : DS:=(B3 az4 (B3 ah5 (B3 X8 (B3 ah4 (B3 ah3 (B3 V0 (B3 M7 (B3 U9 (B3 X7 (B3 X6 (B3 Z9 (B3 Z8 (B3 Z7 ac6)))))))))))))
def aj7 : List D → Option D:=E9 ab6 17
def K1 : DS:=(sIf (tB2 eqD (A6 0) (dC (.str "strength"))) (B4 (A8 E4 (A5 (A6 1) A7))) C0)
def M1 : DS:=(sIf (tB2 eqD (A6 0) (dC (.str "shown"))) (B4 (D3 "bool" (A6 1))) C0)
def O3 : DS:=(sIf (tB2 eqD (A6 0) (dC (.str "manner"))) (B4 (G0 (D3 "str" (A6 1)) (A9 (inD false) (A6 1) (D2 (A5 (dC (.str "over")) (A5 (dC (.str "multiply")) (A5 (dC (.str "screen")) (A5 (dC (.str "plus")) (A5 (dC (.str "atop")) (A5 (dC (.str "cut")) A7)))))))))) C0)
def V3 : DS:=(sIf (tB2 eqD (A6 0) (dC (.str "spot"))) (B4 (A8 K6 (A5 (A6 1) A7))) C0)
def K0 : DS:=(sIf (C4 (B7 (B9 (D3 "tuple" (A6 1)))) (tB2 neD (D4 (B0 1)) (dC (.int 2)))) (B4 (dC (.bool false))) C0)
def R0 : DS:=(B4 (A9 eqD (D6 (C8 1 [] (E1 (A6 1)) (C7 0) (C4 (B7 (B9 (A8 C2 (A5 (A6 0) A7)))) (B7 (r8 (E2 leI leI (R8 (dC (.int 9))) (A6 0) (dC (.int 9)))))) (A6 0))) (D6 A7)))
def S0 : DS:=(B3 K1 (B3 M1 (B3 O3 (B3 V3 (B3 K0 R0)))))
def S3 : List D → Option D:=E9 S0 2
def O5 : DS:=(sIf (C4 (B7 (B9 (D3 "tuple" (A6 0)))) (C4 (tB2 (inD true) (D4 (B0 0)) (D2 (A5 (dC (.int 4)) (A5 (dC (.int 6)) A7)))) (B7 (B9 (D3 "str" (dIx (B0 0) (dC (.int 0)))))))) (B4 (dC (.bool false))) C0)
def R1 : DS:=(sIf (tB2 (inD false) (dIx (B0 0) (dC (.int 0))) (D2 (A5 (dC (.str "put")) (A5 (dC (.str "out")) A7)))) (B3 (sIf (C4 (tB2 neD (D4 (B0 0)) (dC (.int 4))) (C4 (L7 (tB2 neD (dIx (B0 0) (dC (.int 1))) (dC (.str ""))) (B7 (B9 (A8 K7 (A5 (dIx (B0 0) (dC (.int 1))) A7))))) (B7 (B9 (A8 C2 (A5 (dIx (B0 0) (dC (.int 2))) A7)))))) (B4 (dC (.bool false))) C0) (B4 (G0 (A9 geI (dIx (B0 0) (dC (.int 2))) (dC (.int 0))) (G0 (A8 (C3 12) (A5 (dIx (B0 0) (dC (.int 3))) (A5 (dC (.int 3)) A7))) (A8 O7 (A5 (D2 (A5 (dIx (B0 0) (dC (.int 3))) A7)) A7)))))) C0)
def V4 : DS:=(sIf (C4 (tB2 (inD true) (dIx (B0 0) (dC (.int 0))) (D2 (A5 (dC (.str "strength")) (A5 (dC (.str "shown")) (A5 (dC (.str "manner")) (A5 (dC (.str "place")) (A5 (dC (.str "spot")) A7))))))) (B7 (B9 (A8 K7 (A5 (dIx (B0 0) (dC (.int 1))) A7))))) (B4 (dC (.bool false))) C0)
def M2 : DS:=(sIf (tB2 neD (D4 (B0 0)) (dIx (qN (A5 (dC (.int 4)) (A5 (dC (.int 6)) A7))) (Z4 (A9 eqD (dIx (B0 0) (dC (.int 0))) (dC (.str "spot")))))) (B4 (dC (.bool false))) C0)
def O4 : DS:=(sIf (tB2 neD (D6 (C8 1 [] (E1 (P8 (A6 0) (D1 (dC (.int 2))) (D1 (R8 (dC (.int 2)))))) (C7 0) (C4 (B7 (B9 (A8 C2 (A5 (A6 0) A7)))) (tB2 ltI (A6 0) (dC (.int 0)))) (A6 0))) (D6 A7)) (B4 (dC (.bool false))) C0)
def k6 : DS:=(B4 (A9 eqD (D6 (C8 1 [0] (E1 (P8 (A6 0) (D1 (R8 (dC (.int 2)))) E7)) (C7 0) (B7 (B9 (A8 S3 (A5 (dIx (B0 1) (dC (.int 0))) (A5 (A6 0) A7))))) (A6 0))) (D6 A7)))
def M9 : DS:=(B3 O5 (B3 R1 (B3 V4 (B3 M2 (B3 O4 k6)))))
def D9 : List D → Option D:=E9 M9 1
def bN8 (self : List D → Option D) : DS:=(B3 (sIf (B9 (D3 "int" (A6 0))) (B4 (D6 (A5 (dC .none) (A5 (dC (.bool true)) (A5 (A9 ag3 (A6 0) (dC (.int 1))) (A5 (A9 C1 (A6 0) (dC (.int 1))) (A5 (dC (.int 1000)) A7))))))) C0) (B3 (sIf (B7 (B9 (D3 "tuple" (A6 0)))) (B4 (D6 (A5 (dC .none) (A5 (dC (.str "")) (A5 (dC (.str "A")) (A5 (dC (.str "zz")) (A5 (dC (.str "spot")) A7))))))) C0) (B3 (D0 1 (D6 (A5 (dC .none) (A5 (D6 (fun ρ=>((B0 0) ρ).map fun q=>q.2)) (A5 (A9 C1 (A6 0) (P8 (A6 0) (D1 (R8 (dC (.int 1)))) E7)) (A5 (P8 (A6 0) (D1 (dC (.int 1))) E7) A7)))))) (B3 (aa2 (K4 (D4 (B0 0))) (C7 2) (D0 1 (A9 C1 (A6 1) (D6 (C8 1 [0,2] (E1 (A8 self (A5 (dIx (B0 0) (A6 2)) A7))) (C7 0) G1 (A9 C1 (A9 C1 (P8 (A6 1) E7 (D1 (A6 2))) (D2 (A5 (A6 0) A7))) (P8 (A6 1) (D1 (A9 C1 (A6 2) (dC (.int 1)))) E7))))))) (B4 (A6 1))))))
def Q3 : Nat → List D → Option D
 | 0=>fun _=>none
 | k + 1=>E9 (bN8 (Q3 k)) 3
def be9 : DS:=(D0 1 (A8 ac0 (A5 (A6 0) (A5 (dC (.int 0)) (A5 (dC (.int 7)) A7)))))
def be8 : DS:=(D0 2 (A8 Y5 (A5 (A6 0) (A5 (dC (.int 30)) (A5 (dC (.int 4)) (A5 (A6 1) A7))))))
def be7 : DS:=(D0 3 (A8 aj7 (A5 (A6 0) (A5 (dC (.int 800)) (A5 (A6 2) (A5 (dIx (B0 1) (dC (.int 6))) A7))))))
def be6 : DS:=(D0 4 (A8 (F7 12) (A5 (A6 3) (A5 (A8 B5 (A5 (A6 0) (A5 (dC (.int 22)) (A5 (A9 br4 (dC (.int 10)) (dC (.int 7))) A7)))) (A5 (A8 B5 (A5 (A6 0) (A5 (dC (.int 23)) (A5 (dC (.int 4)) A7)))) A7)))))
def be5 : DS:=(D0 5 (D2 (A5 (dC (.str "put")) (A5 (dC (.str "")) (A5 (dC (.int 0)) (A5 (A8 (F7 12) (A5 (dIx (B0 3) (R8 (dC (.int 1)))) (A5 (A8 B5 (A5 (A6 0) (A5 (dC (.int 24)) (A5 (A9 br4 (dC (.int 10)) (dC (.int 7))) A7)))) (A5 (A8 B5 (A5 (A6 0) (A5 (dC (.int 25)) (A5 (dC (.int 4)) A7)))) A7)))) A7))))))
def bB0 : DS:=(aa2 (E1 (D2 (A5 (A6 3) (A5 (A6 4) (A5 (A6 5) (A5 (A9 C1 (A6 3) (P8 (A6 3) (D1 (R8 (dC (.int 1)))) E7)) (A5 (P8 (A6 3) E7 (D1 (R8 (dC (.int 1))))) A7))))))) (C7 6) (B3 (D0 7 (A8 F4 (A5 (A6 6) A7))) (sIf (C4 (B7 (B9 (D3 "bool" (A6 7)))) (tB2 neD (A6 7) (A8 D9 (A5 (A6 6) A7)))) (B4 (dC (.bool false))) C0)))
def bA9 : DS:=(D0 8 (D6 (A5 (D2 (A5 (dC (.str "place")) (A5 (dC (.str "ab")) (A5 (D2 (A5 (dC (.int 0)) (A5 (dC (.int 0)) A7))) (A5 (D2 (A5 (dC (.int 1)) (A5 (R8 (dC (.int 9))) A7))) A7))))) (A5 (D2 (A5 (dC (.str "shown")) (A5 (dC (.str "ab")) (A5 (dC (.bool true)) (A5 (dC (.bool false)) A7))))) (A5 (D2 (A5 (dC (.str "strength")) (A5 (dC (.str "ab")) (A5 (D2 (A5 (dC (.int 1)) (A5 (dC (.int 2)) A7))) (A5 (D2 (A5 (dC (.int 0)) (A5 (dC (.int 1)) A7))) A7))))) A7)))))
def bA8 : DS:=(aa2 (E1 (A6 8)) (C7 9) (sIf (tB2 neD (D6 (C8 1 [] (E1 (A9 C1 (D6 (A5 (A6 9) A7)) (A8 (Q3 12) (A5 (A6 9) A7)))) (C7 0) (tB2 neD (A8 F4 (A5 (A6 0) A7)) (A8 D9 (A5 (A6 0) A7))) (A6 0))) (D6 A7)) (B4 (dC (.bool false))) C0))
def ci1 : DS:=(B4 (dC (.bool true)))
def cb1 : DS:=(B3 be9 (B3 be8 (B3 be7 (B3 be6 (B3 be5 (B3 bB0 (B3 bA9 (B3 bA8 ci1))))))))
def bq0 : List D → Option D:=E9 cb1 10
end Lk79
namespace Lk79
open PySem G L2 Sh
theorem bK9 {n : Nat} {d : D} (g : Gk n d) (hn : n ≤ 60) (y : Str) (hs : SeqAt.shaped (.str y) = true) : ∃ t,eqD d (.str y) = some (.bool t) ∧ neD d (.str y) = some (.bool (!t)) ∧ (t = true → d = .str y):=by
 have sh:=g.ly.shaped (show n ≤ 64 by omega)
 have e : ∀ t,PyData.eqv d (.str y) = t → eqD d (.str y) = some (.bool t) ∧ neD d (.str y) = some (.bool (!t)):=fun t h=>by
  unfold eqD neD
  rw [if_pos ⟨sh,hs⟩,if_pos ⟨sh,hs⟩,h]; exact ⟨rfl,rfl⟩
 cases d with
 | str x =>
  refine ⟨x == y,(e _ rfl).1,(e _ rfl).2,fun h=>by rw [beq_iff_eq.mp h]⟩
 | _=>exact ⟨false,(e _ rfl).1,(e _ rfl).2,fun z=>by cases z⟩
theorem aJ8 {n : Nat} {d : D} (g : Gk n d) : ∃ w,J8 [d] = some (.bool w) ∧ C2 [d] = some (.bool w) ∧ (w = true → ∃ i,d = .int i):=by
 cases d <;> first | exact ⟨true,rfl,rfl,fun _=>⟨_,rfl⟩⟩ | exact ⟨false,rfl,rfl,fun z=>by cases z⟩ | (cases n <;> exact g.elim)
theorem bn7 {n : Nat} {d : D} (g : Gk n d) : ∃ t,N5 [d] = some (.bool t) ∧ (C4 (B7 (B9 (A8 C2 (A5 (A6 0) A7)))) (tB2 ltI (A6 0) (dC (.int 0)))) [some (.val d)] = some (!t):=by
 obtain ⟨w,w1,w2,w3⟩:=aJ8 g
 cases w with
 | false =>
  refine ⟨false,B2 (ρ:=[some (.val d)]) rfl ?_,?_⟩
  ·wp_walk using evD,S2,w1
  ·wp_walk using evD,w2
 | true =>
  obtain ⟨i,rfl⟩:=w3 rfl
  by_cases h : 0 ≤ i
  ·have h' : ¬ i < 0:=by omega
   refine ⟨true,B2 (ρ:=[‹.int i›]) rfl ?_,?_⟩
   ·wp_walk using evD,S2,w1,geI,h,decide_true
   ·wp_walk using evD,w2,h',decide_false
  ·have h' : i < 0:=by omega
   refine ⟨false,B2 (ρ:=[‹.int i›]) rfl ?_,?_⟩
   ·wp_walk using evD,S2,w1,geI,h,decide_false
   ·wp_walk using evD,w2,h',decide_true
theorem bq7 {n : Nat} {d : D} (g : Gk n d) (hn : n ≤ 60) : ∃ t,L1 [d] = some (.bool t) ∧ K6 [d] = some (.bool t):=aV1 (Gk.gd _ _ g) hn
theorem br6 {n : Nat} {d : D} (g : Gk n d) (hn : n ≤ 60) : ∃ t,W9 [d] = some (.bool t) ∧ (B3 K0 R0) [‹.str "place"›,some (.val d)] = some (.rt (.bool t)):=by
 have no : K3 "tuple" d = some false → ∃ t,W9 [d] = some (.bool t) ∧ (B3 K0 R0) [‹.str "place"›,some (.val d)] = some (.rt (.bool t)):=fun h=>by
  refine ⟨false,B2 (ρ:=[some (.val d)]) rfl ?_,?_⟩
  ·simp only [af8,B4,G0,D3,A6,xg0,xbs,xms,h]
  ·simp only [K0,B3,sIf,B4,C4,B7,B9,D3,A6,dC,xg0,xg1,xbs,xms,h,G2,xnf,if_true]
 have long : ∀ xs : List D,xs.length ≠ 2 → d = .tuple xs → ∃ t,W9 [d] = some (.bool t) ∧ (B3 K0 R0) [‹.str "place"›,some (.val d)] = some (.rt (.bool t)):=fun xs h e=>by
  subst e
  have e2 : (((xs.length : Nat) : Int) == 2) = false:=beq_eq_false_iff_ne.mpr (by omega)
  refine ⟨false,B2 (ρ:=[‹.tuple xs›]) rfl ?_,?_⟩
  ·wp_walk using evD,af8,e2
  ·wp_walk using evD,K0,e2
 cases d with
 | none=>exact no rfl
 | bool _=>exact no rfl
 | int _=>exact no rfl
 | str _=>exact no rfl
 | list _=>exact no rfl
 | dict _=>cases n <;> exact g.elim
 | tuple xs =>
  by_cases h2 : xs.length = 2
  case neg=>exact long xs h2 rfl
  obtain ⟨a,b,rfl⟩ : ∃ a b,xs = [a,b]:=by
   match xs,h2 with
   | [a,b],_=>exact ⟨a,b,rfl⟩
  cases n with
  | zero=>exact g.elim
  | succ n =>
  have ga:=g.2 a (by simp)
  have gb:=g.2 b (by simp)
  obtain ⟨ta,ea,fa⟩:=aB1 ga
  obtain ⟨tb,eb,fb⟩:=aB1 gb
  have l2 : ((([a,b] : List D).length : Nat) : Int) = 2:=rfl
  have b2 : ((2 : Int) == 2) = true:=rfl
  have c : C8 1 [] (E1 (A6 1)) (C7 0) (C4 (B7 (B9 (A8 C2 (A5 (A6 0) A7)))) (B7 (r8 (E2 leI leI (R8 (dC (.int 9))) (A6 0) (dC (.int 9)))))) (A6 0) [‹.str "place"›,‹.tuple [a,b]›] = some (([(a,ta),(b,tb)].filter fun z=>!z.2).map Prod.fst):=by
   refine U1 (l:=[(a,ta),(b,tb)]) (h:=Prod.fst) (f:=Prod.fst) (p:=fun z=>!z.2) (r:=[]) rfl rfl (by show 2 ≤ 1000; decide) ?_ fun z _=>rfl
   intro z hz
   simp only [List.mem_cons,List.not_mem_nil,or_false] at hz
   rcases hz with rfl | rfl
   ·exact fa
   ·exact fb
  have en:=(ak2 (n:=n) (f:=Prod.fst) (l:=[(a,ta),(b,tb)]) (p:=Prod.snd) (fun z hz=>by
   simp only [List.mem_cons,List.not_mem_nil,or_false] at hz
   rcases hz with rfl | rfl
   ·exact ga
   ·exact gb) (by show 2 ≤ 64; decide) (by omega)).1
  have al : ([(a,ta),(b,tb)] : List (D × Bool)).all Prod.snd = (ta && tb):=by simp
  rw [al] at en
  have g0 : dIx (B0 0) (dC (.int 0)) [‹.tuple [a,b]›] = some a:=rfl
  have g1 : dIx (B0 0) (dC (.int 1)) [‹.tuple [a,b]›] = some b:=rfl
  have hi0 : D3 "tuple" (A6 0) [‹.tuple [a,b]›] = some (.bool true):=rfl
  refine ⟨ta && tb,B2 (ρ:=[‹.tuple [a,b]›]) rfl ?_,?_⟩
  ·cases ta <;> simp only [af8,B4,G0,hi0,A9,D4,B0,dC,A8,A5,A7,g0,g1,xg0,xbs,xms,l2,W1,b2,ea,eb,Bool.true_and,Bool.false_and]
  ·have s4 : K0 [‹.str "place"›,‹.tuple [a,b]›] = some (.nx [‹.str "place"›,‹.tuple [a,b]›]):=by
    wp_walk using evD,K0,l2,b2
   rw [B6 s4]
   simp only [R0,B4,A9,D6,c,A7,xbs,xms,en]
theorem cu9 : eqD (.str "strength") (.str "strength") = some (.bool true):=E6 (by decide +kernel) (by decide +kernel) (by decide +kernel)
theorem cv4 : eqD (.str "shown") (.str "strength") = some (.bool false):=E6 (by decide +kernel) (by decide +kernel) (by decide +kernel)
theorem cv5 : eqD (.str "shown") (.str "shown") = some (.bool true):=E6 (by decide +kernel) (by decide +kernel) (by decide +kernel)
theorem cb6 : eqD (.str "manner") (.str "strength") = some (.bool false):=E6 (by decide +kernel) (by decide +kernel) (by decide +kernel)
theorem cb8 : eqD (.str "manner") (.str "shown") = some (.bool false):=E6 (by decide +kernel) (by decide +kernel) (by decide +kernel)
theorem cb7 : eqD (.str "manner") (.str "manner") = some (.bool true):=E6 (by decide +kernel) (by decide +kernel) (by decide +kernel)
theorem cv1 : eqD (.str "place") (.str "strength") = some (.bool false):=E6 (by decide +kernel) (by decide +kernel) (by decide +kernel)
theorem cv3 : eqD (.str "place") (.str "shown") = some (.bool false):=E6 (by decide +kernel) (by decide +kernel) (by decide +kernel)
theorem cv2 : eqD (.str "place") (.str "manner") = some (.bool false):=E6 (by decide +kernel) (by decide +kernel) (by decide +kernel)
theorem cv0 : eqD (.str "place") (.str "spot") = some (.bool false):=E6 (by decide +kernel) (by decide +kernel) (by decide +kernel)
theorem cE1 : eqD (.str "spot") (.str "strength") = some (.bool false):=E6 (by decide +kernel) (by decide +kernel) (by decide +kernel)
theorem cE3 : eqD (.str "spot") (.str "shown") = some (.bool false):=E6 (by decide +kernel) (by decide +kernel) (by decide +kernel)
theorem cE2 : eqD (.str "spot") (.str "manner") = some (.bool false):=E6 (by decide +kernel) (by decide +kernel) (by decide +kernel)
theorem be0 : eqD (.str "spot") (.str "spot") = some (.bool true):=E6 (by decide +kernel) (by decide +kernel) (by decide +kernel)
theorem cE4 : eqD (.str "strength") (.str "spot") = some (.bool false):=E6 (by decide +kernel) (by decide +kernel) (by decide +kernel)
theorem cE6 : eqD (.str "shown") (.str "spot") = some (.bool false):=E6 (by decide +kernel) (by decide +kernel) (by decide +kernel)
theorem cE5 : eqD (.str "manner") (.str "spot") = some (.bool false):=E6 (by decide +kernel) (by decide +kernel) (by decide +kernel)
abbrev bh8 : List Str:=["strength", "shown", "manner", "place"]
theorem bl8 {n : Nat} {d : D} (g : Gk n d) (hn : n ≤ 60) (w : Str) (hw : w ∈ bh8) : ∃ t,p8 [.str w,d] = some (.bool t) ∧ S3 [.str w,d] = some (.bool t):=by
 obtain ⟨_,⟨ts,es⟩,⟨tb,eb⟩⟩:=aB4 g
 simp only [bh8,List.mem_cons,List.not_mem_nil,or_false] at hw
 rcases hw with rfl | rfl | rfl | rfl
 ·obtain ⟨t,e1,e2,_⟩:=W4 (Gk.gd _ _ g)
  refine ⟨t,B2 (ρ:=[‹.str "strength"›,some (.val d)]) rfl ?_,B2 (ρ:=[‹.str "strength"›,some (.val d)]) rfl ?_⟩
  ·wp_walk using evD,n9,cu9,e1
  ·wp_walk using evD,S0,K1,cu9,e2
 ·have T : U8 [d] = some (.bool tb):=B2 (ρ:=[some (.val d)]) rfl (by simp only [ar8,B4,D3,A6,xg0,xbs,xms,eb])
  refine ⟨tb,B2 (ρ:=[‹.str "shown"›,some (.val d)]) rfl ?_,B2 (ρ:=[‹.str "shown"›,some (.val d)]) rfl ?_⟩
  ·wp_walk using evD,n9,cv4,cv5,T
  ·simp only [S0,K1,M1,B3,sIf,C0,B4,tB2,A9,A6,dC,D3,xg0,xg1,xbs,xms,cv4,cv5,eb,B8,xft,if_true,if_false]
 ·obtain ⟨b,s,_,m2,m3,m4,_,_⟩:=aq6 g hn ["over", "multiply", "screen", "plus", "atop", "cut"]
  have m2' : inD false d (.tuple [.str "over", .str "multiply", .str "screen", .str "plus", .str "atop", .str "cut"]) = some (.bool b):=m2
  refine ⟨b,B2 (ρ:=[‹.str "manner"›,some (.val d)]) rfl ?_,B2 (ρ:=[‹.str "manner"›,some (.val d)]) rfl ?_⟩
  ·wp_walk using evD,n9,cb6,cb8,cb7,m2'
  ·cases s with
   | false =>
    rw [m4 rfl]
    simp only [S0,K1,M1,O3,B3,sIf,C0,B4,tB2,A9,G0,A6,dC,D3,xg0,xg1,xbs,xms,cb6,cb8,cb7,m3,B8,xft,if_true,if_false]
   | true =>
    simp only [S0,K1,M1,O3,B3,sIf,C0,B4,tB2,A9,G0,A6,dC,D2,A5,A7,D3,xg0,xg1,xbs,xms,cb6,cb8,cb7,m3,m2',B8,xft,if_true,if_false]
 ·obtain ⟨t,e1,e2⟩:=br6 g hn
  refine ⟨t,B2 (ρ:=[‹.str "place"›,some (.val d)]) rfl ?_,B2 (ρ:=[‹.str "place"›,some (.val d)]) rfl ?_⟩
  ·wp_walk using evD,n9,cv1,cv3,cv2,e1
  ·have s0 : K1 [‹.str "place"›,some (.val d)] = some (.nx [‹.str "place"›,some (.val d)]):=by wp_walk using evD,K1,cv1
   have s1 : M1 [‹.str "place"›,some (.val d)] = some (.nx [‹.str "place"›,some (.val d)]):=by wp_walk using evD,M1,cv3
   have s2 : O3 [‹.str "place"›,some (.val d)] = some (.nx [‹.str "place"›,some (.val d)]):=by wp_walk using evD,O3,cv2
   have s3 : V3 [‹.str "place"›,some (.val d)] = some (.nx [‹.str "place"›,some (.val d)]):=by wp_walk using evD,V3,cv0
   unfold S0
   rw [B6 s0,B6 s1,B6 s2,B6 s3]
   exact e2
theorem aL5 {n : Nat} {d : D} (g : Gk n d) (hn : n ≤ 60) : ∃ t,L1 [d] = some (.bool t) ∧ S3 [.str "spot", d] = some (.bool t):=by
 obtain ⟨t,e1,e2⟩:=bq7 g hn
 refine ⟨t,e1,B2 (ρ:=[‹.str "spot"›,some (.val d)]) rfl ?_⟩
 wp_walk using evD,S0,K1,M1,O3,V3,cE1,cE3,cE2,be0,e2
end Lk79
namespace Lk79
open PySem G L2 Sh
theorem bG1 (L : Int) : inD true (.int L) (.tuple [.int 4,.int 6]) = some (.bool (!((4 == L) || (6 == L)))):=by
 show some (PyData.bool (!(eqV (.int 4) (.int L) || (eqV (.int 6) (.int L) || false)))) = _
 rw [Bool.or_false]; rfl
theorem aC6 {n : Nat} {d : D} (g : Gk n d) (hn : n ≤ 60) : (d = .str "put" ∨ d = .str "out") ∨ d = .str "spot" ∨ (∃ w ∈ bh8,d = .str w) ∨ (inD false d (.tuple [.str "put", .str "out"]) = some (.bool false) ∧ eqD d (.str "spot") = some (.bool false) ∧ inD false d (.tuple [.str "strength", .str "shown", .str "manner", .str "place"]) = some (.bool false) ∧ inD true d (.tuple [.str "strength", .str "shown", .str "manner", .str "place", .str "spot"]) = some (.bool true)):=by
 obtain ⟨b1,_,_,p2,_,_,_,p6⟩:=aq6 g hn ["put", "out"]
 obtain ⟨b3,_,_,q2,_,_,_,q6⟩:=aq6 g hn ["strength", "shown", "manner", "place"]
 obtain ⟨b5,_,r1,_,_,_,_,r6⟩:=aq6 g hn ["strength", "shown", "manner", "place", "spot"]
 obtain ⟨bs,s1,_,s3⟩:=bK9 g hn "spot" (by decide +kernel)
 cases b1 with
 | true =>
  obtain ⟨x,rfl,hx⟩:=p6 rfl
  simp only [List.mem_cons,List.not_mem_nil,or_false] at hx
  rcases hx with rfl | rfl
  ·exact .inl (.inl rfl)
  ·exact .inl (.inr rfl)
 | false =>
  cases bs with
  | true=>exact .inr (.inl (s3 rfl))
  | false =>
   cases b3 with
   | true =>
    obtain ⟨x,rfl,hx⟩:=q6 rfl
    exact .inr (.inr (.inl ⟨x,hx,rfl⟩))
   | false =>
    cases b5 with
    | false=>exact .inr (.inr (.inr ⟨p2,s1,q2,r1⟩))
    | true =>
     obtain ⟨x,rfl,hx⟩:=r6 rfl
     simp only [List.mem_cons,List.not_mem_nil,or_false] at hx
     exfalso
     rcases hx with rfl | rfl | rfl | rfl | rfl
     ·exact absurd (q2.symm.trans (X0 false "strength" ["strength", "shown", "manner", "place"])) (by rw [show (["strength", "shown", "manner", "place"] : List Str).any (fun y=>y == "strength") = true by decide +kernel]; intro z; cases z)
     ·exact absurd (q2.symm.trans (X0 false "shown" ["strength", "shown", "manner", "place"])) (by rw [show (["strength", "shown", "manner", "place"] : List Str).any (fun y=>y == "shown") = true by decide +kernel]; intro z; cases z)
     ·exact absurd (q2.symm.trans (X0 false "manner" ["strength", "shown", "manner", "place"])) (by rw [show (["strength", "shown", "manner", "place"] : List Str).any (fun y=>y == "manner") = true by decide +kernel]; intro z; cases z)
     ·exact absurd (q2.symm.trans (X0 false "place" ["strength", "shown", "manner", "place"])) (by rw [show (["strength", "shown", "manner", "place"] : List Str).any (fun y=>y == "place") = true by decide +kernel]; intro z; cases z)
     ·rw [be0] at s1; cases s1
theorem inF (x : Str) (ys : List Str) (t : Bool) (h : ys.any (fun y=>y == x) = t) : inD false (.str x) (.tuple (ys.map PyData.str)) = some (.bool t):=by rw [X0,h]; rfl
theorem inT (x : Str) (ys : List Str) (t : Bool) (h : ys.any (fun y=>y == x) = t) : inD true (.str x) (.tuple (ys.map PyData.str)) = some (.bool (!t)):=by rw [X0,h]; rfl
theorem aW0 {w : Str} (h : w = "put" ∨ w = "out") : inD false (.str w) (.tuple [.str "put", .str "out"]) = some (.bool true):=by
 rcases h with rfl | rfl
 ·exact inF "put" ["put", "out"] true (by decide +kernel)
 ·exact inF "out" ["put", "out"] true (by decide +kernel)
theorem aV4 : inD false (.str "spot") (.tuple [.str "put", .str "out"]) = some (.bool false):=inF "spot" ["put", "out"] false (by decide +kernel)
theorem cx0 : inD true (.str "spot") (.tuple [.str "strength", .str "shown", .str "manner", .str "place", .str "spot"]) = some (.bool false):=inT "spot" ["strength", "shown", "manner", "place", "spot"] true (by decide +kernel)
theorem aR8 {w : Str} (h : w ∈ bh8) : inD false (.str w) (.tuple [.str "put", .str "out"]) = some (.bool false) ∧ eqD (.str w) (.str "spot") = some (.bool false) ∧ inD false (.str w) (.tuple [.str "strength", .str "shown", .str "manner", .str "place"]) = some (.bool true) ∧ inD true (.str w) (.tuple [.str "strength", .str "shown", .str "manner", .str "place", .str "spot"]) = some (.bool false):=by
 simp only [bh8,List.mem_cons,List.not_mem_nil,or_false] at h
 rcases h with rfl | rfl | rfl | rfl
 ·exact ⟨inF "strength" ["put", "out"] false (by decide +kernel),cE4,inF "strength" ["strength", "shown", "manner", "place"] true (by decide +kernel),inT "strength" ["strength", "shown", "manner", "place", "spot"] true (by decide +kernel)⟩
 ·exact ⟨inF "shown" ["put", "out"] false (by decide +kernel),cE6,inF "shown" ["strength", "shown", "manner", "place"] true (by decide +kernel),inT "shown" ["strength", "shown", "manner", "place", "spot"] true (by decide +kernel)⟩
 ·exact ⟨inF "manner" ["put", "out"] false (by decide +kernel),cE5,inF "manner" ["strength", "shown", "manner", "place"] true (by decide +kernel),inT "manner" ["strength", "shown", "manner", "place", "spot"] true (by decide +kernel)⟩
 ·exact ⟨inF "place" ["put", "out"] false (by decide +kernel),cv0,inF "place" ["strength", "shown", "manner", "place"] true (by decide +kernel),inT "place" ["strength", "shown", "manner", "place", "spot"] true (by decide +kernel)⟩
theorem S7 {xs : List D} {a0 : D} (h0 : xs ≠ []) (A0 : atI xs 0 = some a0) :
  (inD false a0 (.tuple [.str "put", .str "out"]) = some (.bool true) → ∀ t,S5 [.tuple xs] = some (.bool t) → F4 [.tuple xs] = some (.bool t)) ∧
  (inD false a0 (.tuple [.str "put", .str "out"]) = some (.bool false) → eqD a0 (.str "spot") = some (.bool true) → ∀ t,M6 [.tuple xs] = some (.bool t) → F4 [.tuple xs] = some (.bool t)) ∧
  (inD false a0 (.tuple [.str "put", .str "out"]) = some (.bool false) → eqD a0 (.str "spot") = some (.bool false) → inD false a0 (.tuple [.str "strength", .str "shown", .str "manner", .str "place"]) = some (.bool true) → ∀ t,L9 [.tuple xs] = some (.bool t) → F4 [.tuple xs] = some (.bool t)) ∧
  (inD false a0 (.tuple [.str "put", .str "out"]) = some (.bool false) → eqD a0 (.str "spot") = some (.bool false) → inD false a0 (.tuple [.str "strength", .str "shown", .str "manner", .str "place"]) = some (.bool false) → F4 [.tuple xs] = some (.bool false)):=by
 have l0 : (((xs.length : Nat) : Int) == 0) = false:=beq_eq_false_iff_ne.mpr (by
  cases xs with
  | nil=>exact absurd rfl h0
  | cons _ _=>simp only [List.length_cons]; omega)
 refine ⟨fun h1 t ht=>?_,fun h1 h2 t ht=>?_,fun h1 h2 h3 t ht=>?_,fun h1 h2 h3=>?_⟩
 ·exact B2 (ρ:=[‹.tuple xs›]) rfl (by wp_walk using evD,j7,l0,A0,h1,ht)
 ·exact B2 (ρ:=[‹.tuple xs›]) rfl (by wp_walk using evD,j7,l0,A0,h1,h2,ht)
 ·exact B2 (ρ:=[‹.tuple xs›]) rfl (by wp_walk using evD,j7,l0,A0,h1,h2,h3,ht)
 ·exact B2 (ρ:=[‹.tuple xs›]) rfl (by wp_walk using evD,j7,l0,A0,h1,h2,h3)
theorem aP0 {xs : List D} (h : xs.length ≠ 4) : S5 [.tuple xs] = some (.bool false):=by
 have e : (((xs.length : Nat) : Int) == 4) = false:=beq_eq_false_iff_ne.mpr (by omega)
 exact B2 (ρ:=[‹.tuple xs›]) rfl (by wp_walk using evD,O6,e)
theorem aV0 {xs : List D} (h : xs.length ≠ 6) : M6 [.tuple xs] = some (.bool false):=by
 have e : (((xs.length : Nat) : Int) == 6) = false:=beq_eq_false_iff_ne.mpr (by omega)
 exact B2 (ρ:=[‹.tuple xs›]) rfl (by wp_walk using evD,M4,e)
theorem aJ9 {xs : List D} (h : xs.length ≠ 4) : L9 [.tuple xs] = some (.bool false):=by
 have e : (((xs.length : Nat) : Int) == 4) = false:=beq_eq_false_iff_ne.mpr (by omega)
 exact B2 (ρ:=[‹.tuple xs›]) rfl (by wp_walk using evD,W8,e)
theorem bQ5 {n : Nat} (hn : n ≤ 60) {xs : List D} {a0 : D} (h0 : xs ≠ []) (A0 : atI xs 0 = some a0) (g0 : Gk n a0) (h4 : xs.length ≠ 4) (h6 : xs.length ≠ 6) : F4 [.tuple xs] = some (.bool false):=by
 obtain ⟨p1,p2,p3,p4⟩:=S7 h0 A0
 rcases aC6 g0 hn with (rfl | rfl) | rfl | ⟨w,hw,rfl⟩ | ⟨k1,k2,k3,_⟩
 ·exact p1 (aW0 (.inl rfl)) _ (aP0 h4)
 ·exact p1 (aW0 (.inr rfl)) _ (aP0 h4)
 ·exact p2 aV4 be0 _ (aV0 h6)
 ·obtain ⟨k1,k2,k3,_⟩:=aR8 hw
  exact p3 k1 k2 k3 _ (aJ9 h4)
 ·exact p4 k1 k2 k3
theorem aa8 {d : D} {t : Bool} (h : M9 [some (.val d)] = some (.rt (.bool t))) : D9 [d] = some (.bool t):=B2 (ρ:=[some (.val d)]) rfl h
theorem aR1 {xs : List D} {x : Str} (A0 : atI xs 0 = some (.str x)) (hl : xs.length = 4 ∨ xs.length = 6) : O5 [‹.tuple xs›] = some (.nx [‹.tuple xs›]):=by
 have e : (!(((4 : Int) == ((xs.length : Nat) : Int)) || ((6 : Int) == ((xs.length : Nat) : Int)))) = false:=by rcases hl with h | h <;> rw [h] <;> rfl
 have i0 : D3 "str" (dIx (B0 0) (dC (.int 0))) [‹.tuple xs›] = some (.bool true):=by simp only [D3,dIx,B0,dC,xg0,xbs,xms,A0,K3]
 have it : D3 "tuple" (A6 0) [‹.tuple xs›] = some (.bool true):=rfl
 simp only [O5,sIf,C0,C4,B7,B9,tB2,A9,D4,D2,A5,A7,i0,it,B0,dC,xg0,xbs,xms,bG1,e,G2,B8,xnt,xft,if_false]
theorem bh1 {n : Nat} {xs : List D} (g : ∀ x ∈ xs,Gk n x) (h : (xs.length ≠ 4 ∧ xs.length ≠ 6) ∨ ∃ a0,atI xs 0 = some a0 ∧ K3 "str" a0 = some false) : D9 [.tuple xs] = some (.bool false):=by
 refine aa8 ?_
 have it : D3 "tuple" (A6 0) [‹.tuple xs›] = some (.bool true):=rfl
 by_cases q : xs.length ≠ 4 ∧ xs.length ≠ 6
 ·have e : (!(((4 : Int) == ((xs.length : Nat) : Int)) || ((6 : Int) == ((xs.length : Nat) : Int)))) = true:=by
   rw [beq_eq_false_iff_ne.mpr (show (4 : Int) ≠ ((xs.length : Nat) : Int) by omega),beq_eq_false_iff_ne.mpr (show (6 : Int) ≠ ((xs.length : Nat) : Int) by omega)]; rfl
  simp only [M9,B3,O5,sIf,B4,C4,B7,B9,tB2,A9,D4,D2,A5,A7,it,B0,dC,xg0,xbs,xms,bG1,e,G2,B8,xnt,xft,if_false,if_true]
 ·rcases h with h | ⟨a0,A0,h⟩
  ·exact absurd h q
  ·have e : (!(((4 : Int) == ((xs.length : Nat) : Int)) || ((6 : Int) == ((xs.length : Nat) : Int)))) = false:=by
    have : xs.length = 4 ∨ xs.length = 6:=by omega
    rcases this with h | h <;> rw [h] <;> rfl
   have i0 : D3 "str" (dIx (B0 0) (dC (.int 0))) [‹.tuple xs›] = some (.bool false):=by simp only [D3,dIx,B0,dC,xg0,xbs,xms,A0,h]
   simp only [M9,B3,O5,sIf,B4,C4,B7,B9,tB2,A9,D4,D2,A5,A7,i0,it,B0,dC,xg0,xbs,xms,bG1,e,G2,B8,xnt,xnf,xft,if_false,if_true]
end Lk79
namespace Lk79
open PySem G L2 Sh
theorem cz6 {n : Nat} (hn : n ≤ 59) {d : D} (g : Gk n d) (hw : wt d ≤ 3900) : (C3 12 [d,.int 3] = some (.bool false) ∧ ac1 [d] = some (.bool false)) ∨ (C3 12 [d,.int 3] = some (.bool true) ∧ ∃ t,O7 [.tuple [d]] = some (.bool t) ∧ ac1 [d] = some (.bool t)):=by
 obtain ⟨t,u1,u2,u3⟩:=bF0 3 1 8 n d hn g
 have u1 : C6 12 [d,.int 3] = some (.bool t):=u1
 have u2 : C3 12 [d,.int 3] = some (.bool t):=u2
 cases t with
 | false =>
  refine .inl ⟨u2,B2 (ρ:=[some (.val d)]) rfl ?_⟩
  wp_walk using evD,az2,u1
 | true =>
  obtain ⟨ns,h1,h2⟩:=u3 rfl
  obtain ⟨t,v1,v2⟩:=be1 (ks:=[d]) (ns:=ns) ⟨ns,[],h1,rfl,by rw [List.append_nil]⟩ (by omega)
  refine .inr ⟨u2,t,v2,B2 (ρ:=[some (.val d)]) rfl ?_⟩
  wp_walk using evD,az2,u1,v1
theorem aC7 {n : Nat} {a b : D} {ta tb : Bool} (ga : Gk n a) (gb : Gk n b) (hn : n ≤ 60) : eqD (.list (([(a,ta),(b,tb)].filter fun z=>!z.2).map Prod.fst)) (.list []) = some (.bool (ta && tb)) ∧ neD (.list (([(a,ta),(b,tb)].filter fun z=>!z.2).map Prod.fst)) (.list []) = some (.bool (!(ta && tb))):=by
 have en:=ak2 (n:=n) (f:=Prod.fst) (l:=[(a,ta),(b,tb)]) (p:=Prod.snd) (fun z hz=>by
  simp only [List.mem_cons,List.not_mem_nil,or_false] at hz
  rcases hz with rfl | rfl
  ·exact ga
  ·exact gb) (by show 2 ≤ 64; decide) hn
 have al : ([(a,ta),(b,tb)] : List (D × Bool)).all Prod.snd = (ta && tb):=by simp
 rw [al] at en
 exact en
theorem bb0 {n : Nat} (hn : n ≤ 59) {w : Str} (hw : w = "put" ∨ w = "out") {a1 a2 a3 : D} (g1 : Gk n a1) (g2 : Gk n a2) (g3 : Gk n a3) (w3 : wt a3 ≤ 3900) : ∃ t,F4 [.tuple [.str w,a1,a2,a3]] = some (.bool t) ∧ D9 [.tuple [.str w,a1,a2,a3]] = some (.bool t):=by
 have A0 : atI [.str w,a1,a2,a3] 0 = some (.str w):=rfl
 obtain ⟨p1,_⟩:=S7 (xs:=[.str w,a1,a2,a3]) (by simp) A0
 have s0:=aR1 (xs:=[.str w,a1,a2,a3]) A0 (.inl rfl)
 have l4 : ((([.str w,a1,a2,a3] : List D).length : Nat) : Int) = 4:=rfl
 have b4 : ((4 : Int) == 4) = true:=rfl
 have i0 : dIx (B0 0) (dC (.int 0)) [‹.tuple [.str w,a1,a2,a3]›] = some (.str w):=rfl
 have i1 : dIx (B0 0) (dC (.int 1)) [‹.tuple [.str w,a1,a2,a3]›] = some a1:=rfl
 have i2 : dIx (B0 0) (dC (.int 2)) [‹.tuple [.str w,a1,a2,a3]›] = some a2:=rfl
 have i3 : dIx (B0 0) (dC (.int 3)) [‹.tuple [.str w,a1,a2,a3]›] = some a3:=rfl
 obtain ⟨e1,q1,q2,_⟩:=bK9 g1 (show n ≤ 60 by omega) "" (by decide +kernel)
 obtain ⟨t1,n1,n2,_⟩:=ai7 g1 (show n ≤ 60 by omega)
 obtain ⟨w2,h1,h2,h3⟩:=aJ8 g2
 have po:=aW0 hw
 have lawR : ∀ t,(B3 (sIf (C4 (tB2 neD (D4 (B0 0)) (dC (.int 4))) (C4 (L7 (tB2 neD (dIx (B0 0) (dC (.int 1))) (dC (.str ""))) (B7 (B9 (A8 K7 (A5 (dIx (B0 0) (dC (.int 1))) A7))))) (B7 (B9 (A8 C2 (A5 (dIx (B0 0) (dC (.int 2))) A7)))))) (B4 (dC (.bool false))) C0) (B4 (G0 (A9 geI (dIx (B0 0) (dC (.int 2))) (dC (.int 0))) (G0 (A8 (C3 12) (A5 (dIx (B0 0) (dC (.int 3))) (A5 (dC (.int 3)) A7))) (A8 O7 (A5 (D2 (A5 (dIx (B0 0) (dC (.int 3))) A7)) A7)))))) [‹.tuple [.str w,a1,a2,a3]›] = some (.rt (.bool t)) → D9 [.tuple [.str w,a1,a2,a3]] = some (.bool t):=fun t h=>by
  refine aa8 ?_
  unfold M9
  rw [B6 s0]
  refine V5 ?_
  unfold R1
  have c : tB2 (inD false) (dIx (B0 0) (dC (.int 0))) (D2 (A5 (dC (.str "put")) (A5 (dC (.str "out")) A7))) [‹.tuple [.str w,a1,a2,a3]›] = some true:=by
   simp only [tB2,A9,i0,D2,A5,A7,dC,xbs,xms,po,B8]
  unfold sIf
  rw [c]
  exact h
 have cond : (C4 (tB2 neD (D4 (B0 0)) (dC (.int 4))) (C4 (L7 (tB2 neD (dIx (B0 0) (dC (.int 1))) (dC (.str ""))) (B7 (B9 (A8 K7 (A5 (dIx (B0 0) (dC (.int 1))) A7))))) (B7 (B9 (A8 C2 (A5 (dIx (B0 0) (dC (.int 2))) A7)))))) [‹.tuple [.str w,a1,a2,a3]›] = some (!((e1 || t1) && w2)):=by
  cases e1 <;> cases t1 <;> cases w2 <;> simp only [C4,L7,B7,B9,tB2,A9,D4,A8,A5,A7,B0,dC,i1,i2,xg0,xbs,xms,l4,b4,O0,q2,n2,h2,G2,B8,xnt,xnf,xft,if_true,if_false,Bool.true_or,Bool.or_true,Bool.false_or,Bool.or_false,Bool.and_true,Bool.true_and,Bool.false_and,Bool.and_false,Bool.or_self,Bool.and_self]
 have fin : dOr (A9 eqD (dIx (B0 0) (dC (.int 1))) (dC (.str ""))) (A8 O8 (A5 (dIx (B0 0) (dC (.int 1))) A7)) [‹.tuple [.str w,a1,a2,a3]›] = some (.bool (e1 || t1)):=by
  cases e1 <;> simp only [dOr,A9,A8,A5,A7,dC,i1,xbs,xms,q1,n1,Bool.true_or,Bool.false_or]
 cases w2 with
 | false =>
  refine ⟨false,p1 po _ (B2 (ρ:=[‹.tuple [.str w,a1,a2,a3]›]) rfl ?_),lawR _ ?_⟩
  ·have nu : N5 [a2] = some (.bool false):=B2 (ρ:=[some (.val a2)]) rfl (by wp_walk using evD,S2,h1)
   simp only [O6,B3,sIf,B4,C4,B7,B9,tB2,A9,D4,A8,A5,A7,B0,dC,i2,xg0,xbs,xms,l4,b4,O0,nu,G2,B8,xnt,xnf,xft,if_true,if_false]
  ·rw [Bool.and_false,xnf] at cond
   simp only [B3,sIf,cond,B4,dC,xbs,xms,if_true]
 | true =>
  obtain ⟨i,rfl⟩:=h3 rfl
  rw [Bool.and_true] at cond
  by_cases hi : 0 ≤ i
  ·have nu : N5 [.int i] = some (.bool true):=B2 (ρ:=[‹.int i›]) rfl (by wp_walk using evD,S2,h1,geI,hi,decide_true)
   have gi : geI (.int i) (.int 0) = some (.bool true):=by simp only [geI,hi,decide_true]
   rcases cz6 hn g3 w3 with ⟨u1,u2⟩ | ⟨u1,t,u2,u3⟩
   ·refine ⟨false,p1 po _ (B2 (ρ:=[‹.tuple [.str w,a1,.int i,a3]›]) rfl ?_),lawR _ ?_⟩
    ·simp only [O6,B3,sIf,B4,C4,B7,B9,tB2,A9,D4,A8,A5,A7,B0,dC,i2,i3,xg0,xbs,xms,l4,b4,O0,nu,u2,G2,B8,xnt,xnf,xft,if_true,if_false]
    ·cases e : (e1 || t1) <;> rw [e] at cond <;> simp only [B3,sIf,cond,B4,C0,G0,A9,A8,A5,A7,dC,i2,i3,gi,u1,xbs,xms,xnt,xnf,xft,if_true,if_false]
   ·refine ⟨t && (e1 || t1),p1 po _ (B2 (ρ:=[‹.tuple [.str w,a1,.int i,a3]›]) rfl ?_),lawR _ ?_⟩
    ·cases t <;> simp only [O6,B3,sIf,B4,C0,C4,B7,B9,tB2,A9,D4,A8,A5,A7,B0,dC,i2,i3,xg0,xbs,xms,l4,b4,O0,nu,u3,G2,B8,xnt,xnf,xft,if_true,if_false,Bool.true_and,Bool.false_and]
     simp only [dOr,A9,A8,A5,A7,dC,xbs,xms] at fin
     simp only [dOr,A9,A8,A5,A7,dC,xbs,xms,fin]
    ·cases e : (e1 || t1) <;> rw [e] at cond <;> simp only [B3,sIf,cond,B4,C0,G0,A9,A8,A5,A7,D2,dC,i2,i3,gi,u1,u2,xbs,xms,xnt,xnf,xft,if_true,if_false,Bool.and_true,Bool.and_false]
  ·have nu : N5 [.int i] = some (.bool false):=B2 (ρ:=[‹.int i›]) rfl (by wp_walk using evD,S2,h1,geI,hi,decide_false)
   have gi : geI (.int i) (.int 0) = some (.bool false):=by simp only [geI,hi,decide_false]
   refine ⟨false,p1 po _ (B2 (ρ:=[‹.tuple [.str w,a1,.int i,a3]›]) rfl ?_),lawR _ ?_⟩
   ·simp only [O6,B3,sIf,B4,C4,B7,B9,tB2,A9,D4,A8,A5,A7,B0,dC,i2,xg0,xbs,xms,l4,b4,O0,nu,G2,B8,xnt,xnf,xft,if_true,if_false]
   ·cases e : (e1 || t1) <;> rw [e] at cond <;> simp only [B3,sIf,cond,B4,C0,G0,A9,dC,i2,gi,xbs,xms,xnt,xnf,xft,if_true,if_false]
end Lk79
namespace Lk79
open PySem G L2 Sh
theorem aF2 {xs : List D} {a0 : D} (A0 : atI xs 0 = some a0) (h : inD false a0 (.tuple [.str "put", .str "out"]) = some (.bool false)) : R1 [‹.tuple xs›] = some (.nx [‹.tuple xs›]):=by
 have i0 : dIx (B0 0) (dC (.int 0)) [‹.tuple xs›] = some a0:=by simp only [dIx,B0,dC,xg0,xbs,A0]
 have c : tB2 (inD false) (dIx (B0 0) (dC (.int 0))) (D2 (A5 (dC (.str "put")) (A5 (dC (.str "out")) A7))) [‹.tuple xs›] = some false:=by
  simp only [tB2,A9,i0,D2,A5,A7,dC,xbs,xms,h,B8]
 unfold R1 sIf
 rw [c]; rfl
theorem aR0 {xs : List D} {a0 a1 : D} {t1 : Bool} (A0 : atI xs 0 = some a0) (A1 : atI xs 1 = some a1) (h : inD true a0 (.tuple [.str "strength", .str "shown", .str "manner", .str "place", .str "spot"]) = some (.bool false)) (n2 : K7 [a1] = some (.bool t1)) :
  V4 [‹.tuple xs›] = some (if t1 = true then .nx [‹.tuple xs›] else .rt (.bool false)):=by
 have i0 : dIx (B0 0) (dC (.int 0)) [‹.tuple xs›] = some a0:=by simp only [dIx,B0,dC,xg0,xbs,A0]
 have i1 : dIx (B0 0) (dC (.int 1)) [‹.tuple xs›] = some a1:=by simp only [dIx,B0,dC,xg0,xbs,A1]
 cases t1 <;> simp only [V4,sIf,B4,C0,C4,B7,B9,tB2,A9,i0,i1,D2,A8,A5,A7,dC,xbs,xms,h,n2,G2,B8,xnt,xnf,xft,if_true,if_false]
theorem bL8 {n : Nat} (hn : n ≤ 59) {w : Str} (hw : w ∈ bh8) {a1 a2 a3 : D} (g1 : Gk n a1) (g2 : Gk n a2) (g3 : Gk n a3) : ∃ t,F4 [.tuple [.str w,a1,a2,a3]] = some (.bool t) ∧ D9 [.tuple [.str w,a1,a2,a3]] = some (.bool t):=by
 have A0 : atI [.str w,a1,a2,a3] 0 = some (.str w):=rfl
 have A1 : atI [.str w,a1,a2,a3] 1 = some a1:=rfl
 obtain ⟨k1,k2,k3,k5⟩:=aR8 hw
 obtain ⟨_,_,p3,_⟩:=S7 (xs:=[.str w,a1,a2,a3]) (by simp) A0
 have s0:=aR1 (xs:=[.str w,a1,a2,a3]) A0 (.inl rfl)
 have s1:=aF2 A0 k1
 obtain ⟨t1,n1,n2,_⟩:=ai7 g1 (show n ≤ 60 by omega)
 have s2:=aR0 A0 A1 k5 n2
 obtain ⟨t2,v1,v2⟩:=bl8 g2 (show n ≤ 60 by omega) w hw
 obtain ⟨t3,u1,u2⟩:=bl8 g3 (show n ≤ 60 by omega) w hw
 have l4 : ((([.str w,a1,a2,a3] : List D).length : Nat) : Int) = 4:=rfl
 have b4 : ((4 : Int) == 4) = true:=rfl
 have i0 : dIx (B0 0) (dC (.int 0)) [‹.tuple [.str w,a1,a2,a3]›] = some (.str w):=rfl
 have i1 : dIx (B0 0) (dC (.int 1)) [‹.tuple [.str w,a1,a2,a3]›] = some a1:=rfl
 have i2 : dIx (B0 0) (dC (.int 2)) [‹.tuple [.str w,a1,a2,a3]›] = some a2:=rfl
 have i3 : dIx (B0 0) (dC (.int 3)) [‹.tuple [.str w,a1,a2,a3]›] = some a3:=rfl
 have pv : L9 [.tuple [.str w,a1,a2,a3]] = some (.bool (t1 && (t2 && t3))):=by
  refine B2 (ρ:=[‹.tuple [.str w,a1,a2,a3]›]) rfl ?_
  cases t1 <;> cases t2 <;> simp only [W8,B4,G0,A9,D4,A8,A5,A7,B0,dC,i0,i1,i2,i3,xg0,xbs,xms,l4,b4,W1,n1,v1,u1,Bool.true_and,Bool.false_and]
 refine ⟨t1 && (t2 && t3),p3 k1 k2 k3 _ pv,aa8 ?_⟩
 unfold M9
 rw [B6 s0,B6 s1]
 cases t1 with
 | false=>exact V5 s2
 | true =>
  rw [B6 s2,Bool.true_and]
  have s3 : M2 [‹.tuple [.str w,a1,a2,a3]›] = some (.nx [‹.tuple [.str w,a1,a2,a3]›]):=by
   simp only [M2,sIf,C0,tB2,A9,D4,dIx,qN,Z4,i0,B0,dC,A5,A7,A0,xg0,xbs,xms,k2,l4,ag5,O0,b4,B8,xnt,xft,if_false]
  have c4 : C8 1 [] (E1 (P8 (A6 0) (D1 (dC (.int 2))) (D1 (R8 (dC (.int 2)))))) (C7 0) (C4 (B7 (B9 (A8 C2 (A5 (A6 0) A7)))) (tB2 ltI (A6 0) (dC (.int 0)))) (A6 0) [‹.tuple [.str w,a1,a2,a3]›] = some []:=rfl
  have nn : neD (.list []) (.list []) = some (.bool false):=rfl
  have s4 : O4 [‹.tuple [.str w,a1,a2,a3]›] = some (.nx [‹.tuple [.str w,a1,a2,a3]›]):=by
   simp only [O4,sIf,C0,tB2,A9,D6,c4,A7,xbs,xms,nn,B8,xft,if_false]
  have c5 : C8 1 [0] (E1 (P8 (A6 0) (D1 (R8 (dC (.int 2)))) E7)) (C7 0) (B7 (B9 (A8 S3 (A5 (dIx (B0 1) (dC (.int 0))) (A5 (A6 0) A7))))) (A6 0) [‹.tuple [.str w,a1,a2,a3]›] = some (([(a2,t2),(a3,t3)].filter fun z=>!z.2).map Prod.fst):=by
   refine U1 (l:=[(a2,t2),(a3,t3)]) (h:=Prod.fst) (f:=Prod.fst) (p:=fun z=>!z.2) (r:=[‹.tuple [.str w,a1,a2,a3]›]) rfl rfl (by show 2 ≤ 1000; decide) ?_ fun z _=>rfl
   have j0 : ∀ z : D,dIx (B0 1) (dC (.int 0)) [some (.val z),‹.tuple [.str w,a1,a2,a3]›] = some (.str w):=fun _=>rfl
   intro z hz
   simp only [List.mem_cons,List.not_mem_nil,or_false] at hz
   rcases hz with rfl | rfl
   ·simp only [B7,B9,A8,A5,A7,j0,A6,xg0,xbs,xms,v2,G2]
   ·simp only [B7,B9,A8,A5,A7,j0,A6,xg0,xbs,xms,u2,G2]
  rw [B6 s3,B6 s4]
  simp only [k6,B4,A9,D6,c5,A7,xbs,xms,(aC7 g2 g3 (show n ≤ 60 by omega)).1]
theorem bw7 {n : Nat} (hn : n ≤ 59) {a1 a2 a3 a4 a5 : D} (g1 : Gk n a1) (g2 : Gk n a2) (g3 : Gk n a3) (g4 : Gk n a4) (g5 : Gk n a5) : ∃ t,F4 [.tuple [.str "spot", a1,a2,a3,a4,a5]] = some (.bool t) ∧ D9 [.tuple [.str "spot", a1,a2,a3,a4,a5]] = some (.bool t):=by
 have A0 : atI [.str "spot", a1,a2,a3,a4,a5] 0 = some (.str "spot"):=rfl
 have A1 : atI [.str "spot", a1,a2,a3,a4,a5] 1 = some a1:=rfl
 obtain ⟨_,p2,_,_⟩:=S7 (xs:=[.str "spot", a1,a2,a3,a4,a5]) (by simp) A0
 have s0:=aR1 (xs:=[.str "spot", a1,a2,a3,a4,a5]) A0 (.inr rfl)
 have s1:=aF2 A0 aV4
 obtain ⟨t1,n1,n2,_⟩:=ai7 g1 (show n ≤ 60 by omega)
 have s2:=aR0 A0 A1 cx0 n2
 obtain ⟨t2,x1,x2⟩:=bn7 g2
 obtain ⟨t3,y1,y2⟩:=bn7 g3
 obtain ⟨t4,v1,v2⟩:=aL5 g4 (show n ≤ 60 by omega)
 obtain ⟨t5,u1,u2⟩:=aL5 g5 (show n ≤ 60 by omega)
 have l6 : ((([.str "spot", a1,a2,a3,a4,a5] : List D).length : Nat) : Int) = 6:=rfl
 have b6 : ((6 : Int) == 6) = true:=rfl
 have i0 : dIx (B0 0) (dC (.int 0)) [‹.tuple [.str "spot", a1,a2,a3,a4,a5]›] = some (.str "spot"):=rfl
 have i1 : dIx (B0 0) (dC (.int 1)) [‹.tuple [.str "spot", a1,a2,a3,a4,a5]›] = some a1:=rfl
 have i2 : dIx (B0 0) (dC (.int 2)) [‹.tuple [.str "spot", a1,a2,a3,a4,a5]›] = some a2:=rfl
 have i3 : dIx (B0 0) (dC (.int 3)) [‹.tuple [.str "spot", a1,a2,a3,a4,a5]›] = some a3:=rfl
 have i4 : dIx (B0 0) (dC (.int 4)) [‹.tuple [.str "spot", a1,a2,a3,a4,a5]›] = some a4:=rfl
 have i5 : dIx (B0 0) (dC (.int 5)) [‹.tuple [.str "spot", a1,a2,a3,a4,a5]›] = some a5:=rfl
 have pv : M6 [.tuple [.str "spot", a1,a2,a3,a4,a5]] = some (.bool (t1 && ((t2 && t3) && (t4 && t5)))):=by
  refine B2 (ρ:=[‹.tuple [.str "spot", a1,a2,a3,a4,a5]›]) rfl ?_
  cases t1 with
  | false=>simp only [M4,B3,sIf,B4,C4,B7,B9,tB2,A9,D4,A8,A5,A7,B0,dC,i1,xg0,xbs,xms,l6,b6,O0,n1,G2,B8,xnt,xnf,xft,if_true,if_false,Bool.false_and]
  | true =>
   cases t2 with
   | false=>simp only [M4,B3,sIf,B4,C4,B7,B9,tB2,A9,D4,A8,A5,A7,B0,dC,i1,i2,xg0,xbs,xms,l6,b6,O0,n1,x1,G2,B8,xnt,xnf,xft,if_true,if_false,Bool.false_and,Bool.true_and]
   | true =>
    cases t3 with
    | false=>simp only [M4,B3,sIf,B4,C4,B7,B9,tB2,A9,D4,A8,A5,A7,B0,dC,i1,i2,i3,xg0,xbs,xms,l6,b6,O0,n1,x1,y1,G2,B8,xnt,xnf,xft,if_true,if_false,Bool.false_and,Bool.true_and,Bool.and_false]
    | true=>cases t4 <;> simp only [M4,B3,sIf,B4,C0,C4,B7,B9,tB2,A9,G0,D4,A8,A5,A7,B0,dC,i1,i2,i3,i4,i5,xg0,xbs,xms,l6,b6,O0,n1,x1,y1,v1,u1,G2,B8,xnt,xnf,xft,if_true,if_false,Bool.false_and,Bool.true_and]
 refine ⟨t1 && ((t2 && t3) && (t4 && t5)),p2 aV4 be0 _ pv,aa8 ?_⟩
 unfold M9
 rw [B6 s0,B6 s1]
 cases t1 with
 | false=>exact V5 s2
 | true =>
  rw [B6 s2,Bool.true_and]
  have s3 : M2 [‹.tuple [.str "spot", a1,a2,a3,a4,a5]›] = some (.nx [‹.tuple [.str "spot", a1,a2,a3,a4,a5]›]):=by
   simp only [M2,sIf,C0,tB2,A9,D4,dIx,qN,Z4,i0,B0,dC,A5,A7,A0,xg0,xbs,xms,be0,l6,ag4,O0,b6,B8,xnt,xft,if_false,if_true]
  have c4 : C8 1 [] (E1 (P8 (A6 0) (D1 (dC (.int 2))) (D1 (R8 (dC (.int 2)))))) (C7 0) (C4 (B7 (B9 (A8 C2 (A5 (A6 0) A7)))) (tB2 ltI (A6 0) (dC (.int 0)))) (A6 0) [‹.tuple [.str "spot", a1,a2,a3,a4,a5]›] = some (([(a2,t2),(a3,t3)].filter fun z=>!z.2).map Prod.fst):=by
   refine U1 (l:=[(a2,t2),(a3,t3)]) (h:=Prod.fst) (f:=Prod.fst) (p:=fun z=>!z.2) (r:=[]) rfl rfl (by show 2 ≤ 1000; decide) ?_ fun z _=>rfl
   intro z hz
   simp only [List.mem_cons,List.not_mem_nil,or_false] at hz
   rcases hz with rfl | rfl
   ·exact x2
   ·exact y2
  have c5 : C8 1 [0] (E1 (P8 (A6 0) (D1 (R8 (dC (.int 2)))) E7)) (C7 0) (B7 (B9 (A8 S3 (A5 (dIx (B0 1) (dC (.int 0))) (A5 (A6 0) A7))))) (A6 0) [‹.tuple [.str "spot", a1,a2,a3,a4,a5]›] = some (([(a4,t4),(a5,t5)].filter fun z=>!z.2).map Prod.fst):=by
   refine U1 (l:=[(a4,t4),(a5,t5)]) (h:=Prod.fst) (f:=Prod.fst) (p:=fun z=>!z.2) (r:=[‹.tuple [.str "spot", a1,a2,a3,a4,a5]›]) rfl rfl (by show 2 ≤ 1000; decide) ?_ fun z _=>rfl
   have j0 : ∀ z : D,dIx (B0 1) (dC (.int 0)) [some (.val z),‹.tuple [.str "spot", a1,a2,a3,a4,a5]›] = some (.str "spot"):=fun _=>rfl
   intro z hz
   simp only [List.mem_cons,List.not_mem_nil,or_false] at hz
   rcases hz with rfl | rfl
   ·simp only [B7,B9,A8,A5,A7,j0,A6,xg0,xbs,xms,v2,G2]
   ·simp only [B7,B9,A8,A5,A7,j0,A6,xg0,xbs,xms,u2,G2]
  rw [B6 s3]
  have e4:=(aC7 (ta:=t2) (tb:=t3) g2 g3 (show n ≤ 60 by omega)).2
  have e5:=(aC7 (ta:=t4) (tb:=t5) g4 g5 (show n ≤ 60 by omega)).1
  cases o : (t2 && t3) with
  | false =>
   rw [o] at e4
   refine V5 ?_
   simp only [O4,sIf,B4,tB2,A9,D6,c4,A7,dC,xbs,xms,e4,B8,xnf,if_true,Bool.false_and]
  | true =>
   rw [o] at e4
   have s4 : O4 [‹.tuple [.str "spot", a1,a2,a3,a4,a5]›] = some (.nx [‹.tuple [.str "spot", a1,a2,a3,a4,a5]›]):=by
    simp only [O4,sIf,C0,tB2,A9,D6,c4,A7,xbs,xms,e4,B8,xnt,xft,if_false]
   rw [B6 s4,Bool.true_and]
   simp only [k6,B4,A9,D6,c5,A7,xbs,xms,e5]
theorem n4 {n : Nat} (hn : n ≤ 60) {xs : List D} {x : Str} {a1 : D} (A0 : atI xs 0 = some (.str x)) (A1 : atI xs 1 = some a1) (g1 : Gk n a1) (hl : xs.length = 4 ∨ xs.length = 6)
  (h : ((x = "put" ∨ x = "out") ∧ xs.length = 6) ∨ (x = "spot" ∧ xs.length = 4) ∨ (x ∈ bh8 ∧ xs.length = 6) ∨ (inD false (.str x) (.tuple [.str "put", .str "out"]) = some (.bool false) ∧ inD true (.str x) (.tuple [.str "strength", .str "shown", .str "manner", .str "place", .str "spot"]) = some (.bool true))) : D9 [.tuple xs] = some (.bool false):=by
 have s0:=aR1 A0 hl
 have i0 : dIx (B0 0) (dC (.int 0)) [‹.tuple xs›] = some (.str x):=by simp only [dIx,B0,dC,xg0,xbs,A0]
 obtain ⟨t1,n1,n2,_⟩:=ai7 g1 hn
 refine aa8 ?_
 unfold M9
 rw [B6 s0]
 rcases h with ⟨hw,l⟩ | ⟨rfl,l⟩ | ⟨hw,l⟩ | ⟨k1,k5⟩
 ·refine V5 ?_
  have e : ((((xs.length : Nat) : Int)) == 4) = false:=by rw [l]; rfl
  simp only [R1,B3,sIf,B4,tB2,C4,A9,D4,i0,B0,D2,A5,A7,dC,xg0,xbs,xms,aW0 hw,O0,e,B8,xnf,if_true]
 ·rw [B6 (aF2 A0 aV4)]
  have s2:=aR0 A0 A1 cx0 n2
  cases t1 with
  | false=>exact V5 s2
  | true =>
   rw [B6 s2]
   refine V5 ?_
   have e : ((((xs.length : Nat) : Int)) == 6) = false:=by rw [l]; rfl
   simp only [M2,sIf,B4,tB2,A9,D4,dIx,qN,Z4,B0,dC,A5,A7,A0,xg0,xbs,xms,be0,ag4,O0,e,B8,xnf,if_true]
 ·obtain ⟨k1,k2,k3,k5⟩:=aR8 hw
  rw [B6 (aF2 A0 k1)]
  have s2:=aR0 A0 A1 k5 n2
  cases t1 with
  | false=>exact V5 s2
  | true =>
   rw [B6 s2]
   refine V5 ?_
   have e : ((((xs.length : Nat) : Int)) == 4) = false:=by rw [l]; rfl
   simp only [M2,sIf,B4,tB2,A9,D4,dIx,qN,Z4,B0,dC,A5,A7,A0,xg0,xbs,xms,k2,xft,if_false,ag5,O0,e,B8,xnf,if_true]
 ·rw [B6 (aF2 A0 k1)]
  refine V5 ?_
  simp only [V4,sIf,B4,C4,tB2,A9,i0,D2,A5,A7,dC,xbs,xms,k5,B8,if_true]
theorem aG2 {n : Nat} (hn : n ≤ 59) {d : D} (g : Gk n d) (hw : wt d ≤ 3900) : ∃ t,F4 [d] = some (.bool t) ∧ D9 [d] = some (.bool t):=by
 have no : K3 "tuple" d = some false → ∃ t,F4 [d] = some (.bool t) ∧ D9 [d] = some (.bool t):=fun h=>by
  refine ⟨false,B2 (ρ:=[some (.val d)]) rfl ?_,aa8 ?_⟩
  ·simp only [j7,B3,sIf,B4,C4,B7,B9,D3,A6,dC,xg0,xbs,xms,h,G2,xnf,if_true]
  ·simp only [M9,O5,B3,sIf,B4,C4,B7,B9,D3,A6,dC,xg0,xbs,xms,h,G2,xnf,if_true]
 cases d with
 | none=>exact no rfl
 | bool _=>exact no rfl
 | int _=>exact no rfl
 | str _=>exact no rfl
 | list _=>exact no rfl
 | dict _=>cases n <;> exact g.elim
 | tuple xs =>
  cases n with
  | zero=>exact g.elim
  | succ n =>
  by_cases h4 : xs.length = 4
  ·obtain ⟨a0,a1,a2,a3,rfl⟩ : ∃ a0 a1 a2 a3,xs = [a0,a1,a2,a3]:=by
    match xs,h4 with
    | [a0,a1,a2,a3],_=>exact ⟨a0,a1,a2,a3,rfl⟩
   have g0:=g.2 a0 (by simp)
   have g1:=g.2 a1 (by simp)
   have g2:=g.2 a2 (by simp)
   have g3:=g.2 a3 (by simp)
   have w3 : wt a3 ≤ 3900:=by simp only [wt,wts] at hw; omega
   rcases aC6 g0 (show n ≤ 60 by omega) with (rfl | rfl) | rfl | ⟨w,hw',rfl⟩ | ⟨k1,k2,k3,k4⟩
   ·exact bb0 (by omega) (.inl rfl) g1 g2 g3 w3
   ·exact bb0 (by omega) (.inr rfl) g1 g2 g3 w3
   ·obtain ⟨_,p2,_,_⟩:=S7 (xs:=[.str "spot", a1,a2,a3]) (by simp) rfl
    exact ⟨false,p2 aV4 be0 _ (aV0 (by simp)),n4 (show n ≤ 60 by omega) rfl rfl g1 (.inl rfl) (.inr (.inl ⟨rfl,rfl⟩))⟩
   ·exact bL8 (by omega) hw' g1 g2 g3
   ·obtain ⟨_,_,_,p4⟩:=S7 (xs:=[a0,a1,a2,a3]) (by simp) rfl
    refine ⟨false,p4 k1 k2 k3,?_⟩
    obtain ⟨_,⟨s,es⟩,_⟩:=aB4 g0
    cases s with
    | false=>exact bh1 g.2 (.inr ⟨a0,rfl,es⟩)
    | true =>
     obtain ⟨x,rfl⟩ : ∃ x,a0 = .str x:=by cases a0 <;> first | exact ⟨_,rfl⟩ | cases es
     exact n4 (show n ≤ 60 by omega) rfl rfl g1 (.inl rfl) (.inr (.inr (.inr ⟨k1,k4⟩)))
  ·by_cases h6 : xs.length = 6
   ·obtain ⟨a0,a1,a2,a3,a4,a5,rfl⟩ : ∃ a0 a1 a2 a3 a4 a5,xs = [a0,a1,a2,a3,a4,a5]:=by
     match xs,h6 with
     | [a0,a1,a2,a3,a4,a5],_=>exact ⟨a0,a1,a2,a3,a4,a5,rfl⟩
    have g0:=g.2 a0 (by simp)
    have g1:=g.2 a1 (by simp)
    rcases aC6 g0 (show n ≤ 60 by omega) with hpo | rfl | ⟨w,hw',rfl⟩ | ⟨k1,k2,k3,k4⟩
    ·obtain ⟨w,hpo',rfl⟩ : ∃ w : Str,(w = "put" ∨ w = "out") ∧ a0 = .str w:=by
      rcases hpo with rfl | rfl
      ·exact ⟨_,.inl rfl,rfl⟩
      ·exact ⟨_,.inr rfl,rfl⟩
     obtain ⟨p1,_⟩:=S7 (xs:=[.str w,a1,a2,a3,a4,a5]) (by simp) rfl
     exact ⟨false,p1 (aW0 hpo') _ (aP0 (by simp)),n4 (show n ≤ 60 by omega) rfl rfl g1 (.inr rfl) (.inl ⟨hpo',rfl⟩)⟩
    ·exact bw7 (by omega) g1 (g.2 a2 (by simp)) (g.2 a3 (by simp)) (g.2 a4 (by simp)) (g.2 a5 (by simp))
    ·obtain ⟨k1,k2,k3,_⟩:=aR8 hw'
     obtain ⟨_,_,p3,_⟩:=S7 (xs:=[.str w,a1,a2,a3,a4,a5]) (by simp) rfl
     exact ⟨false,p3 k1 k2 k3 _ (aJ9 (by simp)),n4 (show n ≤ 60 by omega) rfl rfl g1 (.inr rfl) (.inr (.inr (.inl ⟨hw',rfl⟩)))⟩
    ·obtain ⟨_,_,_,p4⟩:=S7 (xs:=[a0,a1,a2,a3,a4,a5]) (by simp) rfl
     refine ⟨false,p4 k1 k2 k3,?_⟩
     obtain ⟨_,⟨s,es⟩,_⟩:=aB4 g0
     cases s with
     | false=>exact bh1 g.2 (.inr ⟨a0,rfl,es⟩)
     | true =>
      obtain ⟨x,rfl⟩ : ∃ x,a0 = .str x:=by cases a0 <;> first | exact ⟨_,rfl⟩ | cases es
      exact n4 (show n ≤ 60 by omega) rfl rfl g1 (.inr rfl) (.inr (.inr (.inr ⟨k1,k4⟩)))
   ·refine ⟨false,?_,bh1 g.2 (.inl ⟨h4,h6⟩)⟩
    cases xs with
    | nil=>rfl
    | cons a0 r=>exact bQ5 (show n ≤ 60 by omega) (by simp) (M3 (j:=0) rfl) (g.2 a0 (by simp)) h4 h6
end Lk79
namespace Sh
open PySem G L2
theorem Sk.mono : ∀ {m n : Nat} {d : D},Sk m d → m ≤ n → Sk n d:=by
 intro m
 induction m with
 | zero =>
  intro n d g h
  cases d <;> first | exact g.elim | (cases n <;> exact g)
 | succ m ih =>
  intro n d g h
  obtain ⟨n,rfl⟩ : ∃ k,n = k + 1:=⟨n - 1,by omega⟩
  cases d with
  | tuple xs=>exact ⟨g.1,fun x hx=>ih (g.2 x hx) (by omega)⟩
  | list xs=>exact g.elim
  | none=>exact trivial
  | bool b=>exact trivial
  | int i=>exact g
  | str x=>exact g
  | dict _=>exact g.elim
theorem k7 (n : Nat) (x : Str) (h : x.cps.all (· < 128) = true) (hl : x.cps.size ≤ 100) : Sk n (.str x):=by cases n <;> exact ⟨h,hl⟩
theorem aj9 (n : Nat) (b : Bool) : Sk n (.bool b):=by cases n <;> exact trivial
theorem T2 (n : Nat) (i : Int) (h : i.natAbs < 2 ^ 30) : Sk n (.int i):=by cases n <;> exact h
theorem T1 {n : Nat} {xs : List D} (h : xs.length ≤ 16) (g : ∀ x ∈ xs,Sk n x) : Sk (n + 1) (.tuple xs):=⟨h,g⟩
theorem W3 {n : Nat} : ∀ x ∈ ([] : List D),Sk n x:=fun x hx=>absurd hx List.not_mem_nil
theorem C5 {n : Nat} {x : D} {xs : List D} (h : Sk n x) (g : ∀ y ∈ xs,Sk n y) : ∀ y ∈ x :: xs,Sk n y:=fun y hy=>(List.mem_cons.mp hy).elim (fun e=>e ▸ h) (g y)
theorem aK6 {d : D} (h : Nm d) (n : Nat) : Sk n d:=by
 obtain ⟨s,rfl,h1,h2,h3⟩:=h
 refine k7 n s ?_ (Nat.le_trans h3 (by decide))
 rw [← Array.all_toList,List.all_eq_true]
 intro c hc
 have:=h1 c hc
 exact decide_eq_true (by omega)
theorem ao3 {k : Nat} {r : Rat} (h : Bd k r) (hk : k ≤ 30) (n : Nat) : Sk (n + 1) (fr r):=by
 have h:=h.mono hk
 exact T1 (by show 2 ≤ 16; decide) (C5 (T2 n _ h.num) (C5 (T2 n _ (by rw [Int.natAbs_natCast]; exact h.den)) W3))
theorem aC5 (r : Rat) : wt (fr r) = 3:=by unfold fr; simp [wt,wts]
theorem aO1 {α : Type} {f : α → D} {c : Nat} : ∀ {l : List α},(∀ a ∈ l,wt (f a) ≤ c) → wts (l.map f) ≤ c * l.length
 | [],_=>by simp [wts]
 | a :: l,h=>by
  have h1:=h a (List.mem_cons_self ..)
  have h2:=aO1 (l:=l) (fun b hb=>h b (List.mem_cons_of_mem _ hb))
  rw [xmc,wts,List.length_cons,Nat.mul_succ]; omega
theorem bB2 {q : Q4} (h : q.ok 8) (n : Nat) : Sk (n + 2) q.d:=T1 (by show 4 ≤ 16; decide) (C5 (ao3 h.hc.bd (by decide) n) (C5 (ao3 h.hx (by decide) n) (C5 (ao3 h.hy (by decide) n) (C5 (ao3 h.hz (by decide) n) W3))))
theorem bA2 (q : Q4) : wt q.d = 13:=by
 show wt (.tuple [fr q.c,fr q.x,fr q.y,fr q.z]) = 13
 simp [wt,wts,aC5]
theorem aQ5 (m : Man) (n : Nat) : Sk n (.str m.s):=by cases m <;> exact k7 n _ (by decide +kernel) (by decide +kernel)
theorem ci6 (r : Rul) (n : Nat) : Sk n (.str r.s):=by cases r <;> exact k7 n _ (by decide +kernel) (by decide +kernel)
theorem cA0 (n : Nat) : Sk n (.str "layer"):=k7 n _ (by decide +kernel) (by decide +kernel)
theorem ca4 (n : Nat) : Sk n (.str "group"):=k7 n _ (by decide +kernel) (by decide +kernel)
theorem cz9 (n : Nat) : Sk n (.str "tone"):=k7 n _ (by decide +kernel) (by decide +kernel)
theorem aX6 {d : D} (h : Nm d) : wt d = 1:=by obtain ⟨s,rfl,_⟩:=h; rfl
theorem bT2 (n : Nd) : 1 ≤ n.nms.length:=by cases n <;> (rw [Nd.nms]; simp)
theorem aQ1 : ∀ l : List Nd,l.length ≤ (Nd.nmss l).length
 | []=>Nat.zero_le _
 | n :: l=>by have:=bT2 n; have:=aQ1 l; rw [Nd.nmss,List.length_append,List.length_cons]; omega
theorem ca3 : ∀ (k : Nat) (n : Nd),n.dp ≤ k → n.Ok → n.near → (∀ d ∈ n.nms,Nm d) → n.nms.length ≤ 16 → Sk (2 * k + 5) n.d ∧ wt n.d ≤ 165 * n.nms.length:=by
 have leafT : ∀ (nm : D) (r : Rul) (s : Rat) (sh : Bool),Sr 4 s → Nm nm → Sk 5 (Nd.d (.tone nm r s sh)) ∧ wt (Nd.d (.tone nm r s sh)) ≤ 165:=fun nm r s sh hs hn=>by
  rw [Nd.d]
  refine ⟨T1 (by show 5 ≤ 16; decide) (C5 (cz9 _) (C5 (aK6 hn _) (C5 (ci6 r _) (C5 (ao3 hs.h.bd (by decide) 3) (C5 (aj9 _ _) W3))))),?_⟩
  simp only [wt,wts,aC5,aX6 hn]
  decide
 have leafL : ∀ (nm : D) (m : Man) (s : Rat) (sh : Bool) (lf tp : Int) (mk : Option (List Rat)) (w h : Nat) (l : List Q4) (kb : Nat),Nd.Ok (.layer nm m s sh lf tp mk w h l kb) → Nd.near (.layer nm m s sh lf tp mk w h l kb) → Nm nm → Sk 5 (Nd.d (.layer nm m s sh lf tp mk w h l kb)) ∧ wt (Nd.d (.layer nm m s sh lf tp mk w h l kb)) ≤ 165:=fun nm m s sh lf tp mk w h l kb ok nr hn=>by
  rw [Nd.Ok] at ok
  rw [Nd.near] at nr
  obtain ⟨hs,S,_,hm,_⟩:=ok
  obtain ⟨f1,f2,f3,f4,_,w3,h3,hq⟩:=nr
  have wh : w * h ≤ 9:=Nat.mul_le_mul w3 h3
  have ll : l.length ≤ 9:=by rw [S.len]; exact wh
  have mkS : Sk 4 (mkD mk) ∧ wt (mkD mk) ≤ 28:=by
   cases mk with
   | none=>exact ⟨trivial,by show 1 ≤ 28; decide⟩
   | some ms =>
    obtain ⟨m1,m2⟩:=hm ms rfl
    refine ⟨T1 (by rw [List.length_map,m1]; omega) fun x hx=>?_,?_⟩
    ·obtain ⟨r,hr,rfl⟩:=List.mem_map.mp hx
     exact ao3 (m2 r hr).h.bd (by decide) 2
    ·show wt (.tuple (ms.map fr)) ≤ 28
     have:=aO1 (f:=fr) (c:=3) (l:=ms) fun a _=>Nat.le_of_eq (aC5 a)
     rw [wt]; rw [m1] at this; omega
  have shS : Sk 4 (shD w h l) ∧ wt (shD w h l) ≤ 121:=by
   refine ⟨T1 (by show 3 ≤ 16; decide) (C5 (T2 _ _ (by omega)) (C5 (T2 _ _ (by omega)) (C5 (T1 (by rw [List.length_map]; omega) fun x hx=>?_) W3))),?_⟩
   ·obtain ⟨q,hq',rfl⟩:=List.mem_map.mp hx
    exact bB2 (hq q hq') 0
   ·have:=aO1 (f:=Q4.d) (c:=13) (l:=l) fun a _=>Nat.le_of_eq (bA2 a)
    unfold shD
    simp only [wt,wts]; omega
  rw [Nd.d]
  refine ⟨T1 (by show 9 ≤ 16; decide) (C5 (cA0 _) (C5 (aK6 hn _) (C5 (aQ5 m _) (C5 (ao3 hs.h.bd (by decide) 3) (C5 (aj9 _ _) (C5 (T2 _ _ (by omega)) (C5 (T2 _ _ (by omega)) (C5 mkS.1 (C5 shS.1 W3))))))))),?_⟩
  have:=mkS.2
  have:=shS.2
  simp only [wt,wts,aC5,aX6 hn]
  omega
 intro k
 induction k with
 | zero =>
  intro n hd ok nr hn hl
  cases n with
  | layer nm m s sh lf tp mk w h l kb=>rw [Nd.nms] at hn ⊢; exact leafL nm m s sh lf tp mk w h l kb ok nr (hn _ (by simp))
  | tone nm r s sh=>rw [Nd.nms] at hn ⊢; rw [Nd.Ok] at ok; exact leafT nm r s sh ok (hn _ (by simp))
  | group nm m s sh ns=>rw [Nd.dp] at hd; omega
 | succ k ih =>
  intro n hd ok nr hn hl
  cases n with
  | layer nm m s sh lf tp mk w h l kb =>
   rw [Nd.nms] at hn ⊢
   have q:=leafL nm m s sh lf tp mk w h l kb ok nr (hn _ (by simp))
   exact ⟨Sk.mono q.1 (by omega),q.2⟩
  | tone nm r s sh =>
   rw [Nd.nms] at hn ⊢; rw [Nd.Ok] at ok
   have q:=leafT nm r s sh ok (hn _ (by simp))
   exact ⟨Sk.mono q.1 (by omega),q.2⟩
  | group nm m s sh ns =>
   rw [Nd.dp] at hd
   rw [Nd.Ok] at ok
   rw [Nd.near] at nr
   rw [Nd.nms] at hn hl ⊢
   rw [List.length_cons] at hl
   have hnm:=hn nm (by simp)
   have each : ∀ x ∈ ns,Sk (2 * k + 5) x.d ∧ wt x.d ≤ 165 * x.nms.length:=fun x hx=>by
    obtain ⟨a,b,e⟩:=List.append_of_mem hx
    have e2 : Nd.nmss ns = Nd.nmss a ++ (x.nms ++ Nd.nmss b):=by rw [e,T7,Nd.nmss]
    have d1:=u7 hx
    refine ih x (by omega) ((c7 ns).mp ok.2 x hx) ((S8 ns).mp nr x hx) (fun d hd'=>hn d ?_) ?_
    ·rw [e2]; simp [hd']
    ·rw [e2,List.length_append,List.length_append] at hl; omega
   have sum : ∀ l : List Nd,(∀ x ∈ l,wt x.d ≤ 165 * x.nms.length) → wts (Nd.ds l) ≤ 165 * (Nd.nmss l).length:=fun l=>by
    induction l with
    | nil=>intro _; simp [Nd.ds,wts]
    | cons x l ihl =>
     intro h
     have h1:=h x (List.mem_cons_self ..)
     have h2:=ihl fun y hy=>h y (List.mem_cons_of_mem _ hy)
     rw [Nd.ds,wts,Nd.nmss,List.length_append,Nat.mul_add]; omega
   have sm:=sum ns fun x hx=>(each x hx).2
   have nl:=aQ1 ns
   have dl : (Nd.ds ns).length = ns.length:=by rw [R7,List.length_map]
   rw [Nd.d]
   refine ⟨?_,?_⟩
   ·have : 2 * (k + 1) + 5 = (2 * k + 6) + 1:=by omega
    rw [this]
    refine T1 (by show 6 ≤ 16; decide) (C5 (ca4 _) (C5 (aK6 hnm _) (C5 (aQ5 m _) (C5 (ao3 ok.1.h.bd (by decide) _) (C5 (aj9 _ _) (C5 (T1 (by omega) fun x hx=>?_) W3))))))
    rw [R7] at hx
    obtain ⟨y,hy,rfl⟩:=List.mem_map.mp hx
    exact (each y hy).1
   ·simp only [wt,wts,aC5,aX6 hnm,List.length_cons]
    omega
theorem bP2 (n : Nat) (i j : Int) (hi : i.natAbs < 2 ^ 30) (hj : j.natAbs < 2 ^ 30) : Sk (n + 1) (.tuple [.int i,.int j]):=T1 (by show 2 ≤ 16; decide) (C5 (T2 _ _ hi) (C5 (T2 _ _ hj) W3))
end Sh
namespace Lk79
open PySem G L2 Sh
mutual
def al : Nd → List Nd
 | .group nm m s sh ns=>.group nm m s sh ns :: als ns
 | .layer nm m s sh lf tp mk w h l kb=>[.layer nm m s sh lf tp mk w h l kb]
 | .tone nm r s sh=>[.tone nm r s sh]
def als : List Nd → List Nd
 | []=>[]
 | n :: r=>al n ++ als r
end
theorem aT7 (n : Nd) : n ∈ al n:=by cases n <;> simp [al]
theorem am4 {n x : Nd} {l : List Nd} (h : x ∈ l) (hn : n ∈ al x) : n ∈ als l:=by
 induction l with
 | nil=>cases h
 | cons y l ih =>
  rw [als]
  rcases List.mem_cons.mp h with rfl | h
  ·exact List.mem_append_left _ hn
  ·exact List.mem_append_right _ (ih h)
theorem au7 {n : Nd} : ∀ {l : List Nd},n ∈ als l → ∃ x ∈ l,n ∈ al x
 | [],h=>by rw [als] at h; cases h
 | y :: l,h=>by
  rw [als] at h
  rcases List.mem_append.mp h with h | h
  ·exact ⟨y,List.mem_cons_self ..,h⟩
  ·obtain ⟨x,hx,hn⟩:=au7 h
   exact ⟨x,List.mem_cons_of_mem _ hx,hn⟩
theorem ab2 {x : Nd} {l : List Nd} (h : x ∈ l) : (∀ d ∈ x.nms,d ∈ Nd.nmss l) ∧ x.nms.length ≤ (Nd.nmss l).length:=by
 obtain ⟨a,b,rfl⟩:=List.append_of_mem h
 rw [T7,Nd.nmss]
 exact ⟨fun d hd=>by simp [hd],by rw [List.length_append,List.length_append]; omega⟩
theorem aT5 : ∀ (k : Nat) (l : List Nd),Nd.dps l ≤ k → Nd.Oks l → Nd.nears l → ∀ n ∈ als l,n.Ok ∧ n.near ∧ n.dp ≤ k ∧ (∀ d ∈ n.nms,d ∈ Nd.nmss l) ∧ n.nms.length ≤ (Nd.nmss l).length ∧ (n ∈ l ∨ ∃ nm m s sh ns,Nd.group nm m s sh ns ∈ als l ∧ n ∈ ns):=by
 intro k
 induction k with
 | zero =>
  intro l hd ok nr n hn
  obtain ⟨x,hx,hn⟩:=au7 hn
  have d1:=u7 hx
  have e : n = x:=by
   cases x with
   | group nm m s sh ns=>rw [Nd.dp] at d1; omega
   | layer=>rw [al] at hn; exact List.mem_singleton.mp hn
   | tone=>rw [al] at hn; exact List.mem_singleton.mp hn
  subst e
  exact ⟨(c7 l).mp ok n hx,(S8 l).mp nr n hx,by omega,(ab2 hx).1,(ab2 hx).2,.inl hx⟩
 | succ k ih =>
  intro l hd ok nr n hn
  obtain ⟨x,hx,hn⟩:=au7 hn
  have d1:=u7 hx
  have own : n = x → n.Ok ∧ n.near ∧ n.dp ≤ k + 1 ∧ (∀ d ∈ n.nms,d ∈ Nd.nmss l) ∧ n.nms.length ≤ (Nd.nmss l).length ∧ (n ∈ l ∨ ∃ nm m s sh ns,Nd.group nm m s sh ns ∈ als l ∧ n ∈ ns):=fun e=>by
   subst e
   exact ⟨(c7 l).mp ok n hx,(S8 l).mp nr n hx,by omega,(ab2 hx).1,(ab2 hx).2,.inl hx⟩
  cases x with
  | layer=>rw [al] at hn; exact own (List.mem_singleton.mp hn)
  | tone=>rw [al] at hn; exact own (List.mem_singleton.mp hn)
  | group nm m s sh ns =>
   rw [al] at hn
   rcases List.mem_cons.mp hn with e | hn
   ·exact own e
   ·have ok1:=(c7 l).mp ok _ hx
    have nr1:=(S8 l).mp nr _ hx
    rw [Nd.Ok] at ok1
    rw [Nd.near] at nr1
    rw [Nd.dp] at d1
    obtain ⟨q1,q2,q3,q4,q5,q6⟩:=ih ns (by omega) ok1.2 nr1 n hn
    obtain ⟨r1,r2⟩:=ab2 hx
    rw [Nd.nms] at r1 r2
    rw [List.length_cons] at r2
    have up : ∀ y ∈ als ns,y ∈ als l:=fun y hy=>am4 hx (by rw [al]; exact List.mem_cons_of_mem _ hy)
    refine ⟨q1,q2,by omega,fun d hd=>r1 d (List.mem_cons_of_mem _ (q4 d hd)),by omega,.inr ?_⟩
    rcases q6 with q | ⟨nm',m',s',sh',ns',g1,g2⟩
    ·exact ⟨nm,m,s,sh,ns,am4 hx (aT7 _),q⟩
    ·exact ⟨nm',m',s',sh',ns',up _ g1,g2⟩
mutual
theorem ct6 : ∀ n : Nd,(al n).length = n.nms.length
 | .group nm m s sh ns=>by rw [al,Nd.nms,List.length_cons,List.length_cons,als_nms ns]
 | .layer ..=>by rw [al,Nd.nms]; rfl
 | .tone ..=>by rw [al,Nd.nms]; rfl
theorem als_nms : ∀ l : List Nd,(als l).length = (Nd.nmss l).length
 | []=>rfl
 | n :: l=>by rw [als,Nd.nmss,List.length_append,List.length_append,ct6 n,als_nms l]
end
theorem bd1 {f : Nat} (a0 : Option B) : ∀ (l : List Nd) (X : List D) (a2 : Option B),X.length + (als l).length ≤ 500 → (∀ nm m s sh ns,Nd.group nm m s sh ns ∈ l → E8 f [.tuple (Nd.ds ns)] = some (.list ((als ns).map Nd.d))) → ∃ a2',an8 (C7 2) (alb f) (l.map Nd.d) [a0,some (.own X),a2] = some (.nx [a0,some (.own (X ++ (als l).map Nd.d)),a2'])
 | [],X,a2,_,_=>⟨a2,by rw [als,xmn,List.append_nil]; rfl⟩
 | n :: l,X,a2,hX,H=>by
  rw [als,List.length_append] at hX
  have one : alb f [a0,some (.own X),some (.val n.d)] = some (.nx [a0,some (.own (X ++ (al n).map Nd.d)),some (.val n.d)]):=by
   cases n with
   | layer nm m s sh lf tp mk w h l kb=>rw [al]; exact bd4 f (by rw [Nd.dp]) a0 X (by omega)
   | tone nm r s sh=>rw [al]; exact bd4 f (by rw [Nd.dp]) a0 X (by omega)
   | group nm m s sh ns =>
    rw [al,List.length_cons] at hX
    have:=bz5 (nm:=nm) (m:=m) (s:=s) (sh:=sh) (ns:=ns) f a0 X ((als ns).map Nd.d) (by omega) (by rw [List.length_map]; omega) (H nm m s sh ns (List.mem_cons_self ..))
    rw [this,al,xmc,List.append_assoc]; rfl
  obtain ⟨a2',e2⟩:=bd1 a0 l (X ++ (al n).map Nd.d) (some (.val n.d)) (by rw [List.length_append,List.length_map]; omega) (fun nm m s sh ns h=>H nm m s sh ns (List.mem_cons_of_mem _ h))
  refine ⟨a2',?_⟩
  rw [List.append_assoc,← List.map_append,← als] at e2
  rw [xmc,an8]
  show ((alb f [a0,some (.own X),some (.val n.d)]).bind _) = _
  rw [one]
  exact e2
theorem bN5 : ∀ (k : Nat) (l : List Nd) (f : Nat),Nd.dps l ≤ k → k + 1 ≤ f → (als l).length ≤ 500 → E8 f [.tuple (Nd.ds l)] = some (.list ((als l).map Nd.d)):=by
 have fin : ∀ (l : List Nd) (f : Nat),(als l).length ≤ 500 → (∀ nm m s sh ns,Nd.group nm m s sh ns ∈ l → E8 f [.tuple (Nd.ds ns)] = some (.list ((als ns).map Nd.d))) → E8 (f + 1) [.tuple (Nd.ds l)] = some (.list ((als l).map Nd.d)):=fun l f hl H=>by
  obtain ⟨a2,e⟩:=bd1 (‹.tuple (Nd.ds l)›) l [] none (by simpa using hl) H
  rw [← R7] at e
  refine B2 (g:=aU2 (E8 f)) (ρ:=[‹.tuple (Nd.ds l)›,none,none]) rfl ?_
  have s0 : (r9 1 A7) [‹.tuple (Nd.ds l)›,none,none] = some (.nx [‹.tuple (Nd.ds l)›,some (.own []),none]):=rfl
  have s1 : (aa2 (E1 (A6 0)) (C7 2) (alb f)) [‹.tuple (Nd.ds l)›,some (.own []),none] = some (.nx [‹.tuple (Nd.ds l)›,some (.own ((als l).map Nd.d)),a2]):=e
  have s2 : (ax4 1 (B4 (A6 1))) [‹.tuple (Nd.ds l)›,some (.own ((als l).map Nd.d)),a2] = some (.rt (.list ((als l).map Nd.d))):=rfl
  exact (B6 s0).trans ((B6 s1).trans s2)
 intro k
 induction k with
 | zero =>
  intro l f hd hf hl
  obtain ⟨f,rfl⟩ : ∃ g,f = g + 1:=⟨f - 1,by omega⟩
  refine fin l f hl fun nm m s sh ns h=>?_
  have:=u7 h
  rw [Nd.dp] at this; omega
 | succ k ih =>
  intro l f hd hf hl
  obtain ⟨f,rfl⟩ : ∃ g,f = g + 1:=⟨f - 1,by omega⟩
  refine fin l f hl fun nm m s sh ns h=>?_
  have d1:=u7 h
  rw [Nd.dp] at d1
  refine ih ns f (by omega) (by omega) ?_
  have n1:=ab2 h
  rw [Nd.nms,List.length_cons] at n1
  rw [als_nms] at hl ⊢
  omega
def isG : Nd → Bool
 | .group ..=>true
 | _=>false
def bh3 : Nd → List Nd
 | .group _ _ _ _ ns=>ns
 | _=>[]
def Q7 (z : D × List Nd) : D:=.tuple [z.1,.tuple (Nd.ds z.2)]
def par (l : List Nd) : List (D × List Nd):=(.str "", l) :: ((als l).filter isG).map fun n=>(n.nm,bh3 n)
theorem bM0 {α : Type} {c : Rho → Option Bool} {e : DE} {r : Rho} {h f : α → D} {p : α → Bool} : ∀ (l : List α) (x : Option B),(∀ a ∈ l,c (‹h a› :: r) = some (p a)) → (∀ a ∈ l,p a = true → e (‹h a› :: r) = some (f a)) → R9 (C7 0) c e (l.map h) (x :: r) = some ((l.filter p).map f)
 | [],_,_,_=>rfl
 | a :: l,x,C,H=>by
  have ih:=bM0 l (‹h a›) (fun b hb=>C b (List.mem_cons_of_mem _ hb)) (fun b hb=>H b (List.mem_cons_of_mem _ hb))
  cases q : p a with
  | true =>
   simp only [xmc,R9,C7,xw0,xbs,C a (List.mem_cons_self ..),q,if_true,H a (List.mem_cons_self ..) q,ih,xms,List.filter_cons_of_pos q]
  | false =>
   have q' : ¬ p a = true:=by rw [q]; exact Bool.false_ne_true
   simp only [xmc,R9,C7,xw0,xbs,C a (List.mem_cons_self ..),q,xft,if_false,ih,List.filter_cons_of_neg q']
theorem aW4 {src : Rho → Option (List D)} {ρ : Rho} {l : List Nd} (hs : src ρ = some ((als l).map Nd.d)) (hl : (als l).length ≤ 500) :
  C8 1 [] src (C7 0) (tB2 eqD (dIx (B0 0) (dC (.int 0))) (dC (.str "group"))) (D2 (A5 (dIx (B0 0) (dC (.int 1))) (A5 (dIx (B0 0) (dC (.int 5))) A7))) ρ = some (((als l).filter isG).map fun n=>Q7 (n.nm,bh3 n)):=by
 unfold C8
 rw [hs,xbs,if_pos (by rw [List.length_map]; omega),show t8 1 [] ρ = [none] from rfl]
 refine bM0 (h:=Nd.d) (p:=isG) (als l) none (fun n _=>?_) fun n _ hp=>?_
 ·cases n with
  | layer=>rw [Nd.d]; wp_walk using evD,aN0,bP6,isG
  | tone=>rw [Nd.d]; wp_walk using evD,bN4,ci7,isG
  | group=>rw [Nd.d]; wp_walk using evD,aN1,br3,isG
 ·cases n with
  | layer=>cases hp
  | tone=>cases hp
  | group nm m s sh ns=>rw [Nd.d]; wp_walk using evD,bN3,bN2,Q7,bh3,Nd.nm
theorem bn4 (l : List Nd) (hl : (als l).length ≤ 500) : C1 (.list [Q7 (.str "", l)]) (.list (((als l).filter isG).map fun n=>Q7 (n.nm,bh3 n))) = some (.list ((par l).map Q7)):=by
 have e : (par l).map Q7 = [Q7 (.str "", l)] ++ (((als l).filter isG).map fun n=>Q7 (n.nm,bh3 n)):=by
  unfold par; rw [xmc,List.map_map]; rfl
 rw [e]
 have:=List.length_filter_le isG (als l)
 show (if 1 + _ ≤ 16777216 then _ else none) = _
 rw [if_pos (by rw [List.length_map]; omega)]
theorem bR5 {l : List Nd} {z : D × List Nd} (h : z ∈ par l) : (z = (.str "", l)) ∨ ∃ nm m s sh ns,Nd.group nm m s sh ns ∈ als l ∧ z = (nm,ns):=by
 unfold par at h
 rcases List.mem_cons.mp h with h | h
 ·exact .inl h
 ·obtain ⟨n,hn,rfl⟩:=List.mem_map.mp h
  obtain ⟨h1,h2⟩:=List.mem_filter.mp hn
  cases n with
  | layer=>cases h2
  | tone=>cases h2
  | group nm m s sh ns=>exact .inr ⟨nm,m,s,sh,ns,h1,by rw [Nd.nm,bh3]⟩
theorem ck7 {l : List Nd} {nm : D} {m : Man} {s : Rat} {sh : Bool} {ns : List Nd} (h : Nd.group nm m s sh ns ∈ als l) : (nm,ns) ∈ par l:=by
 unfold par
 refine List.mem_cons_of_mem _ (List.mem_map.mpr ⟨_,List.mem_filter.mpr ⟨h,rfl⟩,?_⟩)
 rw [Nd.nm,bh3]
theorem bI6 {d : D} {ks : List D} (hd : Ly 30 d) (hk : ∀ x ∈ ks,Ly 30 x) (ht : ∃ xs,d = .tuple xs) (hks : ∀ x ∈ ks,∃ xs,x = .tuple xs) : inD false d (.tuple ks) = some (.bool (ks.any fun y=>PyData.eqv y d)):=by
 obtain ⟨xs,rfl⟩:=ht
 have sx:=hd.shaped (by decide)
 have sd : ks.all SeqAt.shaped = true:=by rw [List.all_eq_true]; exact fun x hx=>(hk x hx).shaped (by decide)
 show (if P0 (.tuple xs) = true ∧ ks.all P0 = true then some (PyData.bool (if false = true then !inV (toV (.tuple xs)) (ks.map toV) else inV (toV (.tuple xs)) (ks.map toV))) else if P0 (.tuple xs) = false ∧ SeqAt.shaped (.tuple xs) = true ∧ ks.all isS = true then some (PyData.bool false) else if SeqAt.shaped (.tuple xs) = true ∧ (PyData.tuple xs).depth ≤ 60 ∧ ks.all SeqAt.shaped = true then some (PyData.bool (if false = true then !(ks.any fun y=>PyData.eqv y (.tuple xs)) else ks.any fun y=>PyData.eqv y (.tuple xs))) else none) = _
 rw [if_neg (by intro z; cases z.1)]
 cases ks with
 | nil=>rw [if_pos ⟨rfl,sx,rfl⟩]; rfl
 | cons k ks =>
  obtain ⟨ys,rfl⟩:=hks k (List.mem_cons_self ..)
  rw [if_neg (by intro z; have:=z.2.2; rw [List.all_cons] at this; cases this),if_pos ⟨sx,Nat.le_trans hd.2 (by decide),sd⟩]
  rfl
theorem bI5 {d : D} {ks : List D} (hd : Ly 30 d) (hm : d ∈ ks ∨ ks.any (fun y=>PyData.eqv y d) = true) : ∃ j,j < ks.length ∧ ks.findIdx? (fun y=>PyData.eqv y d) = some j:=by
 have ha : ks.any (fun y=>PyData.eqv y d) = true:=by
  rcases hm with h | h
  ·exact List.any_eq_true.mpr ⟨d,h,SeqAt.eqv_refl d hd.1⟩
  ·exact h
 cases e : ks.findIdx? (fun y=>PyData.eqv y d) with
 | none =>
  rw [List.findIdx?_eq_none_iff] at e
  obtain ⟨x,hx,h⟩:=List.any_eq_true.mp ha
  rw [e x hx] at h; cases h
 | some j =>
  obtain ⟨h1,_⟩:=List.findIdx?_eq_some_iff_getElem.mp e
  exact ⟨j,h1,rfl⟩
end Lk79
namespace Lk79
open PySem G L2 Sh
structure Dr (l : List Nd) : Prop where
 ok : Nd.Oks l
 nr : Nd.nears l
 dp : Nd.dps l ≤ 2
 nm : ∀ d ∈ Nd.nmss l,Nm d
 len : (Nd.nmss l).length ≤ 6
theorem Dr.al6 {l : List Nd} (g : Dr l) : (als l).length ≤ 6:=by rw [als_nms]; exact g.len
theorem Dr.node {l : List Nd} (g : Dr l) {n : Nd} (h : n ∈ als l) : Sk 9 n.d ∧ wt n.d ≤ 990 ∧ Nm n.nm:=by
 obtain ⟨q1,q2,q3,q4,q5,_⟩:=aT5 2 l g.dp g.ok g.nr n h
 have q:=ca3 2 n q3 q1 q2 (fun d hd=>g.nm d (q4 d hd)) (by have:=g.len; omega)
 have:=g.len
 refine ⟨q.1,by have:=q.2; omega,g.nm _ (q4 _ ?_)⟩
 cases n <;> (rw [Nd.nms,Nd.nm]; simp)
theorem Dr.ly {l : List Nd} (g : Dr l) {n : Nd} (h : n ∈ als l) : Ly 30 n.d:=((Sk.gk _ _ (g.node h).1).ly).mono (by decide)
theorem Dr.par {l : List Nd} (g : Dr l) {z : D × List Nd} (h : z ∈ par l) : (∀ n,Sk n z.1) ∧ wt z.1 = 1 ∧ z.2.length ≤ 6 ∧ ∀ n ∈ z.2,n ∈ als l:=by
 rcases bR5 h with rfl | ⟨nm,m,s,sh,ns,h1,rfl⟩
 ·refine ⟨fun n=>k7 n _ (by decide +kernel) (by decide +kernel),rfl,?_,fun n hn=>am4 hn (aT7 n)⟩
  have:=aQ1 l; have:=g.len; show l.length ≤ 6; omega
 ·obtain ⟨q1,q2,q3,q4,q5,_⟩:=aT5 2 l g.dp g.ok g.nr _ h1
  have n1:=(g.node h1).2.2
  rw [Nd.nm] at n1
  refine ⟨fun n=>aK6 n1 n,aX6 n1,?_,fun n hn=>?_⟩
  ·have:=aQ1 ns
   rw [Nd.nms,List.length_cons] at q5
   have:=g.len
   show ns.length ≤ 6; omega
  ·obtain ⟨x,hx,hg⟩:=au7 h1
   have : ∀ (k : Nat) (x : Nd),x.dp ≤ k → Nd.group nm m s sh ns ∈ al x → ∀ n ∈ ns,n ∈ al x:=by
    intro k
    induction k with
    | zero =>
     intro x hd hg n hn
     cases x with
     | layer=>rw [al] at hg; cases List.mem_singleton.mp hg
     | tone=>rw [al] at hg; cases List.mem_singleton.mp hg
     | group=>rw [Nd.dp] at hd; omega
    | succ k ih =>
     intro x hd hg n hn
     cases x with
     | layer=>rw [al] at hg; cases List.mem_singleton.mp hg
     | tone=>rw [al] at hg; cases List.mem_singleton.mp hg
     | group nm' m' s' sh' ns' =>
      rw [al] at hg ⊢
      rw [Nd.dp] at hd
      rcases List.mem_cons.mp hg with e | hg
      ·cases e
       exact List.mem_cons_of_mem _ (am4 hn (aT7 n))
      ·obtain ⟨y,hy,hgy⟩:=au7 hg
       have d1:=u7 hy
       exact List.mem_cons_of_mem _ (am4 hy (ih y (by omega) hgy n hn))
   exact am4 hx (this x.dp x (Nat.le_refl _) hg n hn)
def Dd (d : D) : Prop:=∃ xs z,d = .tuple (xs ++ [z]) ∧ xs.length ≤ 8 ∧ (∀ x ∈ xs ++ [z],Sk 15 x) ∧ wt d ≤ 1400 ∧ wt z ≤ 1200
theorem dd4 {a b c e : D} (ha : Sk 15 a) (hb : Sk 15 b) (hc : Sk 15 c) (he : Sk 15 e) (h : wt a + wt b + wt c ≤ 150) (hw : wt e ≤ 1200) : Dd (.tuple [a,b,c,e]) :=
 ⟨[a,b,c],e,rfl,by show 3 ≤ 8; decide,C5 ha (C5 hb (C5 hc (C5 he W3))),by simp only [wt,wts]; omega,hw⟩
theorem dd6 {a b c e f g : D} (ha : Sk 15 a) (hb : Sk 15 b) (hc : Sk 15 c) (he : Sk 15 e) (hf : Sk 15 f) (hg : Sk 15 g) (h : wt a + wt b + wt c + wt e + wt f ≤ 150) (hw : wt g ≤ 1200) : Dd (.tuple [a,b,c,e,f,g]) :=
 ⟨[a,b,c,e,f],g,rfl,by show 5 ≤ 8; decide,C5 ha (C5 hb (C5 hc (C5 he (C5 hf (C5 hg W3))))),by simp only [wt,wts]; omega,hw⟩
theorem Dd.sk {d : D} (h : Dd d) : Sk 16 d ∧ wt d ≤ 1400:=by
 obtain ⟨xs,z,rfl,h1,h2,h3,_⟩:=h
 exact ⟨T1 (by rw [List.length_append]; show _ + 1 ≤ _; omega) h2,h3⟩
theorem ci9 {l : List Nd} (g : Dr l) (ns : List Int) (hn : ns.length ≤ 63) (at' : Nat) (ha : at' < 2 ^ 17) {nm : Str} (hnm : Nm (.str nm)) : ∃ d,av1 [scr ns,.int at',.tuple (Nd.ds l),.str nm] = some d ∧ Dd d:=by
 have l6:=g.al6
 have eA:=bN5 2 l 12 g.dp (by decide) (by omega)
 have src : E1 (A8 (E8 12) (A5 (A6 2) A7)) [‹scr ns›,‹.int at'›,‹.tuple (Nd.ds l)›,‹.str nm›,none,none,none,none] = some ((als l).map Nd.d):=by
  simp only [E1,A8,A5,A7,A6,xg0,xg1,xbs,xms,eA]
 have pc:=aW4 src (by omega)
 have cc:=bn4 l (by omega)
 have s0 : (D0 4 (A9 C1 (D6 (A5 (D2 (A5 (dC (.str "")) (A5 (A6 2) A7))) A7)) (D6 (C8 1 [] (E1 (A8 (E8 12) (A5 (A6 2) A7))) (C7 0) (tB2 eqD (dIx (B0 0) (dC (.int 0))) (dC (.str "group"))) (D2 (A5 (dIx (B0 0) (dC (.int 1))) (A5 (dIx (B0 0) (dC (.int 5))) A7))))))) [‹scr ns›,‹.int at'›,‹.tuple (Nd.ds l)›,‹.str nm›,none,none,none,none] = some (.nx [‹scr ns›,‹.int at'›,‹.tuple (Nd.ds l)›,‹.str nm›,‹.list ((par l).map Q7)›,none,none,none]):=by
  have e1 : D6 (A5 (D2 (A5 (dC (.str "")) (A5 (A6 2) A7))) A7) [‹scr ns›,‹.int at'›,‹.tuple (Nd.ds l)›,‹.str nm›,none,none,none,none] = some (.list [Q7 (.str "", l)]):=rfl
  simp only [D0,A9,e1,xbs]
  simp only [D6,pc,xbs,xms,cc,xw0,xw1]
 have pl : ((par l).map Q7).length = (par l).length:=List.length_map ..
 have ppos : 0 < (par l).length:=by unfold par; simp
 obtain ⟨t,et,lt⟩:=D7 ns hn (e:=(at' : Int)) (m':=(((par l).map Q7).length : Nat)) at' (par l).length rfl (by rw [pl]) (by omega) ppos
 obtain ⟨z,hz,ez⟩ : ∃ z ∈ par l,atI ((par l).map Q7) (t : Int) = some (Q7 z):=⟨(par l)[t],List.getElem_mem lt,M3 (by rw [List.getElem?_map,List.getElem?_eq_getElem lt]; rfl)⟩
 obtain ⟨z1,z2,z3,z4⟩:=g.par hz
 have l2 : ∀ a b : D,([a,b] : List D).length = 2:=fun _ _=>rfl
 have s1 : (Y9 (dIx (B0 4) (A8 B5 (A5 (A6 0) (A5 (A6 1) (A5 (D4 (B0 4)) A7))))) (Q2 2 (F6 (C7 5) (F6 (C7 6) Q9)))) [‹scr ns›,‹.int at'›,‹.tuple (Nd.ds l)›,‹.str nm›,‹.list ((par l).map Q7)›,none,none,none] = some (.nx [‹scr ns›,‹.int at'›,‹.tuple (Nd.ds l)›,‹.str nm›,‹.list ((par l).map Q7)›,some (.val z.1),‹.tuple (Nd.ds z.2)›,none]):=by
  wp_walk using evD,et,ez,Q7,l2
 obtain ⟨n,en,no,nd,_,nnm,nnr⟩:=bo1 ns hn (at' + 10) (by omega) (.str nm) .over
 have en : T9 [scr ns,.int ((at' : Int) + 10),.str nm,.str "over"] = some n.d:=by
  have : ((at' + 10 : Nat) : Int) = (at' : Int) + 10:=by omega
  rw [← this]; exact en
 have nms : n.nms = [.str nm]:=by
  cases n with
  | group=>rw [Nd.dp] at nd; omega
  | layer=>rw [Nd.nm] at nnm; rw [Nd.nms,nnm]
  | tone=>rw [Nd.nm] at nnm; rw [Nd.nms,nnm]
 have nS:=ca3 0 n (by omega) no nnr (fun d hd=>by rw [nms] at hd; rw [List.mem_singleton.mp hd]; exact hnm) (by rw [nms,List.length_singleton]; omega)
 rw [nms] at nS
 have nS1 : Sk 5 n.d:=nS.1
 have nS2 : wt n.d ≤ 165:=nS.2
 have s2 : (D0 7 (A8 T9 (A5 (A6 0) (A5 (A9 C1 (A6 1) (dC (.int 10))) (A5 (A6 3) (A5 (dC (.str "over")) A7)))))) [‹scr ns›,‹.int at'›,‹.tuple (Nd.ds l)›,‹.str nm›,‹.list ((par l).map Q7)›,some (.val z.1),‹.tuple (Nd.ds z.2)›,none] = some (.nx [‹scr ns›,‹.int at'›,‹.tuple (Nd.ds l)›,‹.str nm›,‹.list ((par l).map Q7)›,some (.val z.1),‹.tuple (Nd.ds z.2)›,some (.val n.d)]):=by
  wp_walk using evD,en
 obtain ⟨c,ec,_⟩:=D7 ns hn (e:=(at' : Int) + 1) (m':=3) (at' + 1) 3 (by omega) rfl (by omega) (by decide)
 obtain ⟨r,J6,hr⟩ : ∃ a r,n.d = .tuple (a :: .str nm :: r):=by
  cases n with
  | group=>rw [Nd.dp] at nd; omega
  | layer nm'=>rw [Nd.nm] at nnm; subst nnm; rw [Nd.d]; exact ⟨_,_,rfl⟩
  | tone nm'=>rw [Nd.nm] at nnm; subst nnm; rw [Nd.d]; exact ⟨_,_,rfl⟩
 have hrl : J6.length ≤ 14:=by
  have:=nS1
  rw [hr] at this
  have:=this.1
  simp only [List.length_cons] at this
  omega
 have hS : ∀ x ∈ r :: J6,Sk 4 x:=fun x hx=>by
  have q:=nS1
  rw [hr] at q
  rcases List.mem_cons.mp hx with rfl | hx
  ·exact q.2 _ (by simp)
  ·exact q.2 x (by simp [hx])
 obtain ⟨v,gv,wv,s3⟩ : ∃ v : D,Sk 15 v ∧ wt v ≤ 1200 ∧ (sIf (tB2 eqD (A8 B5 (A5 (A6 0) (A5 (A9 C1 (A6 1) (dC (.int 1))) (A5 (dC (.int 3)) A7)))) (dC (.int 0))) (D0 7 (D2 (A5 (dC (.str "group")) (A5 (A6 3) (A5 (dC (.str "plus")) (A5 (D2 (A5 (dC (.int 1)) (A5 (dC (.int 2)) A7))) (A5 (dC (.bool true)) (A5 (D2 (A5 (A9 C1 (A9 C1 (P8 (A6 7) E7 (D1 (dC (.int 1)))) (D2 (A5 (A9 C1 (A6 3) (dC (.str "q"))) A7))) (P8 (A6 7) (D1 (dC (.int 2))) E7)) A7)) A7)))))))) C0) [‹scr ns›,‹.int at'›,‹.tuple (Nd.ds l)›,‹.str nm›,‹.list ((par l).map Q7)›,some (.val z.1),‹.tuple (Nd.ds z.2)›,some (.val n.d)] = some (.nx [‹scr ns›,‹.int at'›,‹.tuple (Nd.ds l)›,‹.str nm›,‹.list ((par l).map Q7)›,some (.val z.1),‹.tuple (Nd.ds z.2)›,some (.val v)]):=by
  cases q : ((c : Int) == 0) with
  | false =>
   refine ⟨n.d,Sk.mono nS1 (by decide),by omega,?_⟩
   wp_walk using evD,ec,q
  | true =>
   obtain ⟨s,es,sl,s1,s6⟩:=hnm
   cases es
   have cq : C1 (.str nm) (.str "q") = some (.str (nm ++ "q")):=by
    show (if nm.length + 1 ≤ 16777216 then _ else none) = _
    rw [if_pos (by omega)]
   have sk : ∀ n,Sk n (.str (nm ++ "q")):=fun n=>by
    have e0 : (nm ++ ("q" : Str)).cps = nm.cps ++ #[113]:=rfl
    refine k7 n _ ?_ ?_
    ·rw [e0,Array.all_append,Bool.and_eq_true]
     refine ⟨?_,by decide +kernel⟩
     rw [← Array.all_toList,List.all_eq_true]
     intro x hx
     have:=sl x hx
     exact decide_eq_true (by omega)
    ·rw [e0,Array.size_append]
     have : nm.cps.size ≤ 6:=s6
     show _ + 1 ≤ 100
     omega
   have c1 : L6 (r :: .str nm :: J6) none (some 1) = [r]:=cC3 r _
   have c2 : L6 (r :: .str nm :: J6) (some 2) none = J6:=by
    have:=bb3 (xs:=r :: .str nm :: J6) (i:=1) (by simp)
    exact this
   have k1 : C1 (.tuple [r]) (.tuple [.str (nm ++ "q")]) = some (.tuple [r,.str (nm ++ "q")]):=by
    show (if 1 + 1 ≤ 16777216 then _ else none) = _
    rw [if_pos (by omega)]; rfl
   have k2 : C1 (.tuple [r,.str (nm ++ "q")]) (.tuple J6) = some (.tuple (r :: .str (nm ++ "q") :: J6)):=by
    show (if 2 + J6.length ≤ 16777216 then _ else none) = _
    rw [if_pos (by omega)]; rfl
   have a1 : P8 (A6 7) E7 (D1 (dC (.int 1))) [‹scr ns›,‹.int at'›,‹.tuple (Nd.ds l)›,‹.str nm›,‹.list ((par l).map Q7)›,some (.val z.1),‹.tuple (Nd.ds z.2)›,‹.tuple (r :: .str nm :: J6)›] = some (.tuple [r]):=by
    exact congrArg (fun q=>some (PyData.tuple q)) c1
   have a2 : P8 (A6 7) (D1 (dC (.int 2))) E7 [‹scr ns›,‹.int at'›,‹.tuple (Nd.ds l)›,‹.str nm›,‹.list ((par l).map Q7)›,some (.val z.1),‹.tuple (Nd.ds z.2)›,‹.tuple (r :: .str nm :: J6)›] = some (.tuple J6):=by
    exact congrArg (fun q=>some (PyData.tuple q)) c2
   rw [hr]
   have plus : ∀ n,Sk n (.str "plus"):=fun n=>k7 n _ (by decide +kernel) (by decide +kernel)
   refine ⟨.tuple [.str "group", .str nm,.str "plus", .tuple [.int 1,.int 2],.bool true,.tuple [.tuple (r :: .str (nm ++ "q") :: J6)]],?_,?_,?_⟩
   ·refine T1 (by show 6 ≤ 16; decide) (C5 (ca4 _) (C5 (aK6 ⟨nm,rfl,sl,s1,s6⟩ _) (C5 (plus _) (C5 (bP2 13 1 2 (by decide) (by decide)) (C5 (aj9 _ _) (C5 (T1 (by show 1 ≤ 16; decide) (C5 (T1 (by simp only [List.length_cons]; omega) (C5 (Sk.mono (hS r (by simp)) (by decide)) (C5 (sk _) fun x hx=>Sk.mono (hS x (by simp [hx])) (by decide)))) W3)) W3))))))
   ·rw [hr] at nS2
    simp only [wt,wts] at nS2 ⊢
    omega
   ·simp only [sIf,tB2,A9,A8,A5,A7,A6,dC,xg0,xg1,xbs,xms,aj4,ec,W1,q,B8,if_true,D0,D2,a1,a2,cq,k1,k2,xw0,xw1]
 have zl : (Nd.ds z.2).length = z.2.length:=by rw [R7,List.length_map]
 obtain ⟨u,eu,lu⟩:=D7 ns hn (e:=(at' : Int) + 2) (m':=((Nd.ds z.2).length : Nat) + 1) (at' + 2) (z.2.length + 1) (by omega) (by rw [zl]; omega) (by omega) (by omega)
 refine ⟨.tuple [.str "put", z.1,.int u,v],B2 (ρ:=[‹scr ns›,‹.int at'›,‹.tuple (Nd.ds l)›,‹.str nm›,none,none,none,none]) rfl ?_,dd4 (k7 _ _ (by decide +kernel) (by decide +kernel)) (z1 _) (T2 _ _ (by omega)) gv (by rw [z2]; simp only [wt]; omega) wv⟩
 unfold bp8
 rw [B6 s0,B6 s1,B6 s2,B6 s3]
 wp_walk using evD,eu
end Lk79
namespace Lk79
open PySem G L2 Sh
theorem bX2 {X : List D} (h : ∀ x ∈ X,Ly 30 x) : eqD (.list X) (.list []) = some (.bool X.isEmpty):=by
 unfold eqD
 rw [if_pos ⟨(Ly.lst h).shaped (by decide),rfl⟩]
 cases X <;> rfl
theorem ixN {a : Rho → Option (List D)} {ρ : Rho} {xs : List D} (h : a ρ = some xs) (i : Int) : dIx (qN a) (dC (.int i)) ρ = atI xs i:=by unfold dIx qN; rw [h]; rfl
theorem bF2 (n : Nd) : ∃ xs,n.d = .tuple xs:=by cases n <;> (rw [Nd.d]; exact ⟨_,rfl⟩)
theorem lit (n : Nat) {x : Str} (h : x.cps.all (· < 128) = true) (hl : x.cps.size ≤ 100) : Sk n (.str x):=k7 n x h hl
abbrev en (ns : List Int) (w h : Nat) (l : List Nd) (nm : Str) (a4 a5 a6 a7 a8 a9 a10 a12 a13 a14 a15 a16 : Option B) : Rho:=[‹scr ns›,‹.int 800›,‹R4 w h l›,‹.str nm›,a4,a5,a6,a7,a8,a9,a10,none,a12,a13,a14,a15,a16]
theorem cE0 {l : List Nd} (g : Dr l) (ns : List Int) (w h : Nat) (nm : Str) {n : Nd} (hn : n ∈ als l) (t : Nat) (ht : ((t : Int) == 0) = true) : ∃ d,V0 (en ns w h l nm (‹.tuple (Nd.ds l)›) (‹.list ((als l).map Nd.d)›) (‹n.d›) (‹.int t›) none none none none none none none none) = some (.rt d) ∧ Dd d:=by
 have l6:=g.al6
 have src : E1 (A6 5) (en ns w h l nm (‹.tuple (Nd.ds l)›) (‹.list ((als l).map Nd.d)›) (‹n.d›) (‹.int t›) none none none none none none none none) = some ((als l).map Nd.d):=rfl
 have pc:=aW4 src (by omega)
 have cc:=bn4 l (by omega)
 have s0 : (D0 8 (A9 C1 (D6 (A5 (D2 (A5 (dC (.str "")) (A5 (A6 4) A7))) A7)) (D6 (C8 1 [] (E1 (A6 5)) (C7 0) (tB2 eqD (dIx (B0 0) (dC (.int 0))) (dC (.str "group"))) (D2 (A5 (dIx (B0 0) (dC (.int 1))) (A5 (dIx (B0 0) (dC (.int 5))) A7))))))) (en ns w h l nm (‹.tuple (Nd.ds l)›) (‹.list ((als l).map Nd.d)›) (‹n.d›) (‹.int t›) none none none none none none none none) = some (.nx (en ns w h l nm (‹.tuple (Nd.ds l)›) (‹.list ((als l).map Nd.d)›) (‹n.d›) (‹.int t›) (‹.list ((par l).map Q7)›) none none none none none none none)):=by
  have e1 : D6 (A5 (D2 (A5 (dC (.str "")) (A5 (A6 4) A7))) A7) (en ns w h l nm (‹.tuple (Nd.ds l)›) (‹.list ((als l).map Nd.d)›) (‹n.d›) (‹.int t›) none none none none none none none none) = some (.list [Q7 (.str "", l)]):=rfl
  simp only [D0,A9,e1,xbs]
  simp only [D6,pc,xbs,xms,cc,xw0,xw1]
 have inn : ∀ z ∈ par l,inD false n.d (.tuple (Nd.ds z.2)) = some (.bool ((Nd.ds z.2).any fun y=>PyData.eqv y n.d)):=fun z hz=>by
  obtain ⟨_,_,_,z4⟩:=g.par hz
  refine bI6 (g.ly hn) (fun x hx=>?_) (bF2 n) fun x hx=>?_
  ·rw [R7] at hx
   obtain ⟨m,hm,rfl⟩:=List.mem_map.mp hx
   exact g.ly (z4 m hm)
  ·rw [R7] at hx
   obtain ⟨m,hm,rfl⟩:=List.mem_map.mp hx
   exact bF2 m
 have pl : (par l).length ≤ 7:=by
  unfold par
  rw [List.length_cons,List.length_map]
  have:=List.length_filter_le isG (als l)
  omega
 have cm : C8 1 [6] (E1 (A6 8)) (C7 0) (tB2 (inD false) (A6 1) (dIx (B0 0) (dC (.int 1)))) (A6 0) (en ns w h l nm (‹.tuple (Nd.ds l)›) (‹.list ((als l).map Nd.d)›) (‹n.d›) (‹.int t›) (‹.list ((par l).map Q7)›) none none none none none none none) = some (((par l).filter fun z=>(Nd.ds z.2).any fun y=>PyData.eqv y n.d).map Q7):=by
  refine U1 (h:=Q7) (p:=fun z=>(Nd.ds z.2).any fun y=>PyData.eqv y n.d) (r:=[some (.val n.d)]) rfl rfl (by omega) (fun z hz=>?_) fun z hz=>rfl
  have i1 : dIx (B0 0) (dC (.int 1)) [‹Q7 z›,some (.val n.d)] = some (.tuple (Nd.ds z.2)):=rfl
  simp only [tB2,A9,A6,i1,xg0,xg1,xbs,xms,inn z hz,B8]
 have mem : ∃ z ∈ par l,((Nd.ds z.2).any fun y=>PyData.eqv y n.d) = true:=by
  have rf : PyData.eqv n.d n.d = true:=SeqAt.eqv_refl n.d (g.ly hn).1
  have any : ∀ m : List Nd,n ∈ m → ((Nd.ds m).any fun y=>PyData.eqv y n.d) = true:=fun m hm=>List.any_eq_true.mpr ⟨n.d,by rw [R7]; exact List.mem_map_of_mem hm,rf⟩
  obtain ⟨_,_,_,_,_,q⟩:=aT5 2 l g.dp g.ok g.nr n hn
  rcases q with q | ⟨nm',m,s,sh,ms,q1,q2⟩
  ·exact ⟨(.str "", l),by unfold par; exact List.mem_cons_self ..,any l q⟩
  ·exact ⟨(nm',ms),ck7 q1,any ms q2⟩
 obtain ⟨z,J6,hzr⟩ : ∃ z J6,((par l).filter fun z=>(Nd.ds z.2).any fun y=>PyData.eqv y n.d) = z :: J6:=by
  cases e : (par l).filter fun z=>(Nd.ds z.2).any fun y=>PyData.eqv y n.d with
  | nil =>
   obtain ⟨z,h1,h2⟩:=mem
   rw [List.filter_eq_nil_iff] at e
   exact absurd h2 (e z h1)
  | cons z J6=>exact ⟨z,J6,rfl⟩
 have hz : z ∈ par l ∧ ((Nd.ds z.2).any fun y=>PyData.eqv y n.d) = true:=List.mem_filter.mp (by rw [hzr]; exact List.mem_cons_self ..)
 rw [hzr] at cm
 obtain ⟨z1,z2,z3,z4⟩:=g.par hz.1
 have s1 : (Y9 (dIx (qN (C8 1 [6] (E1 (A6 8)) (C7 0) (tB2 (inD false) (A6 1) (dIx (B0 0) (dC (.int 1)))) (A6 0))) (dC (.int 0))) (Q2 2 (F6 (C7 9) (F6 (C7 10) Q9)))) (en ns w h l nm (‹.tuple (Nd.ds l)›) (‹.list ((als l).map Nd.d)›) (‹n.d›) (‹.int t›) (‹.list ((par l).map Q7)›) none none none none none none none) = some (.nx (en ns w h l nm (‹.tuple (Nd.ds l)›) (‹.list ((als l).map Nd.d)›) (‹n.d›) (‹.int t›) (‹.list ((par l).map Q7)›) (‹z.1›) (‹.tuple (Nd.ds z.2)›) none none none none none)):=by
  have i0 : dIx (qN (C8 1 [6] (E1 (A6 8)) (C7 0) (tB2 (inD false) (A6 1) (dIx (B0 0) (dC (.int 1)))) (A6 0))) (dC (.int 0)) (en ns w h l nm (‹.tuple (Nd.ds l)›) (‹.list ((als l).map Nd.d)›) (‹n.d›) (‹.int t›) (‹.list ((par l).map Q7)›) none none none none none none none) = some (Q7 z):=by
   rw [ixN cm]
   show atI (Q7 z :: J6.map Q7) ((0 : Nat) : Int) = _
   exact M3 rfl
  unfold Y9
  rw [i0]
  rfl
 obtain ⟨j,jl,ej⟩:=bI5 (ks:=Nd.ds z.2) (g.ly hn) (.inr hz.2)
 have dl : (Nd.ds z.2).length = z.2.length:=by rw [R7,List.length_map]
 have e3 : aG5 (A6 10) (A6 6) (en ns w h l nm (‹.tuple (Nd.ds l)›) (‹.list ((als l).map Nd.d)›) (‹n.d›) (‹.int t›) (‹.list ((par l).map Q7)›) (‹z.1›) (‹.tuple (Nd.ds z.2)›) none none none none none) = some (.int j):=by
  show (if SeqAt.shaped n.d = true ∧ n.d.depth ≤ 60 ∧ (Nd.ds z.2).all SeqAt.shaped = true then ((Nd.ds z.2).findIdx? fun y=>PyData.eqv y n.d).map (fun (j : Nat)=>PyData.int (j : Int)) else none) = _
  have sh : (Nd.ds z.2).all SeqAt.shaped = true:=by
   rw [List.all_eq_true]
   intro x hx
   rw [R7] at hx
   obtain ⟨m,hm,rfl⟩:=List.mem_map.mp hx
   exact (g.ly (z4 m hm)).shaped (by decide)
  rw [if_pos ⟨(g.ly hn).shaped (by decide),Nat.le_trans (g.ly hn).2 (by decide),sh⟩,ej]
  rfl
 obtain ⟨k1,k2,k3⟩:=g.node hn
 refine ⟨.tuple [.str "out", z.1,.int j,n.d],?_,dd4 (lit _ (by decide +kernel) (by decide +kernel)) (z1 _) (T2 _ _ (by omega)) (Sk.mono k1 (by decide)) (by rw [z2]; simp only [wt]; omega) (by omega)⟩
 have s2 : (B4 (D2 (A5 (dC (.str "out")) (A5 (A6 9) (A5 (aG5 (A6 10) (A6 6)) (A5 (A6 6) A7)))))) (en ns w h l nm (‹.tuple (Nd.ds l)›) (‹.list ((als l).map Nd.d)›) (‹n.d›) (‹.int t›) (‹.list ((par l).map Q7)›) (‹z.1›) (‹.tuple (Nd.ds z.2)›) none none none none none) = some (.rt (.tuple [.str "out", z.1,.int j,n.d])):=by
  simp only [B4,D2,A5,A7,e3,dC,A6,xg0,xg1,xbs,xms]
 have c0 : (tB2 eqD (A6 7) (dC (.int 0))) (en ns w h l nm (‹.tuple (Nd.ds l)›) (‹.list ((als l).map Nd.d)›) (‹n.d›) (‹.int t›) none none none none none none none none) = some true:=by simp only [tB2,A9,A6,dC,xg0,xg1,xbs,xms,W1,ht,B8]
 unfold V0 sIf
 rw [c0,xbs,if_pos rfl,B6 s0,B6 s1]
 exact s2
theorem cD9 {l : List Nd} (g : Dr l) (ns : List Int) (hn : ns.length ≤ 63) (w h : Nat) (nm : Str) {n : Nd} (hm : n ∈ als l) (t : Nat) (ht : ((t : Int) == 0) = false) : ∃ d,(B3 V0 (B3 M7 (B3 U9 (B3 X7 (B3 X6 (B3 Z9 (B3 Z8 (B3 Z7 ac6)))))))) (en ns w h l nm (‹.tuple (Nd.ds l)›) (‹.list ((als l).map Nd.d)›) (‹n.d›) (‹.int t›) none none none none none none none none) = some (.rt d) ∧ Dd d:=by
 have s5 : V0 (en ns w h l nm (‹.tuple (Nd.ds l)›) (‹.list ((als l).map Nd.d)›) (‹n.d›) (‹.int t›) none none none none none none none none) = some (.nx (en ns w h l nm (‹.tuple (Nd.ds l)›) (‹.list ((als l).map Nd.d)›) (‹n.d›) (‹.int t›) none none none none none none none none)):=by
  have c0 : (tB2 eqD (A6 7) (dC (.int 0))) (en ns w h l nm (‹.tuple (Nd.ds l)›) (‹.list ((als l).map Nd.d)›) (‹n.d›) (‹.int t›) none none none none none none none none) = some false:=by simp only [tB2,A9,A6,dC,xg0,xg1,xbs,xms,W1,ht,B8]
  unfold V0 sIf
  rw [c0]
  rfl
 rw [B6 s5]
 obtain ⟨k1,k2,k3⟩:=g.node hm
 obtain ⟨o1,o2,_⟩:=aT5 2 l g.dp g.ok g.nr n hm
 obtain ⟨x,ex,lx⟩:=D7 ns hn (e:=803) (m':=2) 803 2 rfl rfl (by decide) (by decide)
 obtain ⟨r,er,hr⟩:=aD2 ns hn (e:=804) 804 rfl (by decide)
 obtain ⟨y,ey,ly⟩:=D7 ns hn (e:=803) (m':=6) 803 6 rfl rfl (by decide) (by decide)
 obtain ⟨m6,em6⟩:=cz7 y ly
 obtain ⟨u,eu,lu⟩:=D7 ns hn (e:=803) (m':=5) 803 5 rfl rfl (by decide) (by decide)
 obtain ⟨v,ev,lv⟩:=D7 ns hn (e:=804) (m':=5) 804 5 rfl rfl (by decide) (by decide)
 obtain ⟨q,eq,oq⟩:=aU4 ns 807 hn (by decide)
 have eq : W0 [scr ns,.int 807] = some q.d:=eq
 have a1 : ∀ (a : D) (b : Bool),wt a = 1 → (∀ n,Sk n a) → Dd (.tuple [.str "shown", a,.bool b,.bool ((x : Int) == 0)]):=fun a b h1 h2=>dd4 (lit _ (by decide +kernel) (by decide +kernel)) (h2 _) (aj9 _ _) (aj9 _ _) (by simp only [wt] at h1 ⊢; omega) (by simp only [wt]; omega)
 have a2 : ∀ (a : D) (s : Rat),Sr 4 s → wt a = 1 → (∀ n,Sk n a) → Dd (.tuple [.str "strength", a,fr s,fr r]):=fun a s hs h1 h2=>dd4 (lit _ (by decide +kernel) (by decide +kernel)) (h2 _) (ao3 hs.h.bd (by decide) _) (ao3 hr.bd (by decide) _) (by rw [aC5]; simp only [wt] at h1 ⊢; omega) (by rw [aC5]; omega)
 have nn : (∀ k,Sk k n.nm) ∧ wt n.nm = 1:=⟨fun k=>aK6 k3 k,aX6 k3⟩
 cases n with
 | tone nm' rr s sh =>
  rw [Nd.nm] at nn
  refine ⟨.tuple [.str "shown", nm',.bool sh,.bool ((x : Int) == 0)],k8 ?_,a1 nm' sh nn.2 nn.1⟩
  rw [Nd.d]
  cases q1 : ((t : Int) == 1) <;> wp_walk using evD,M7,en,Int.reduceAdd,q1,bN4,cD3,cD2,bC2,ex
 | group nm' m s sh ms =>
  rw [Nd.nm] at nn
  rw [Nd.Ok] at o1
  rw [Nd.d]
  cases q1 : ((t : Int) == 1) with
  | true =>
   refine ⟨.tuple [.str "shown", nm',.bool sh,.bool ((x : Int) == 0)],k8 ?_,a1 nm' sh nn.2 nn.1⟩
   wp_walk using evD,M7,en,Int.reduceAdd,q1,aN1,bN3,cD0,ex
  | false =>
   refine ⟨.tuple [.str "strength", nm',fr s,fr r],(B6 (by wp_walk using evD,M7,en,Int.reduceAdd,q1,aN1,bP7 : M7 (en ns w h l nm (‹.tuple (Nd.ds l)›) (‹.list ((als l).map Nd.d)›) (‹.tuple [.str "group", nm',.str m.s,fr s,.bool sh,.tuple (Nd.ds ms)]›) (‹.int t›) none none none none none none none none) = some (.nx (en ns w h l nm (‹.tuple (Nd.ds l)›) (‹.list ((als l).map Nd.d)›) (‹.tuple [.str "group", nm',.str m.s,fr s,.bool sh,.tuple (Nd.ds ms)]›) (‹.int t›) none none none none none none none none)))).trans (k8 ?_),a2 nm' s o1.1 nn.2 nn.1⟩
   cases q2 : ((t : Int) == 2) <;> wp_walk using evD,U9,en,Int.reduceAdd,q2,aN1,bN3,cD1,br3,er
 | layer nm' m s sh lf tp mk w' h' l' kb =>
  rw [Nd.nm] at nn
  rw [Nd.Ok] at o1
  rw [Nd.near] at o2
  rw [Nd.d]
  obtain ⟨p1,p2,_⟩:=o1
  cases q1 : ((t : Int) == 1) with
  | true =>
   refine ⟨.tuple [.str "shown", nm',.bool sh,.bool ((x : Int) == 0)],k8 ?_,a1 nm' sh nn.2 nn.1⟩
   wp_walk using evD,M7,en,Int.reduceAdd,q1,aN0,bd0,cC7,ex
  | false =>
   rw [B6 (by wp_walk using evD,M7,en,Int.reduceAdd,q1,aN0,bP5 : M7 (en ns w h l nm (‹.tuple (Nd.ds l)›) (‹.list ((als l).map Nd.d)›) (‹.tuple [.str "layer", nm',.str m.s,fr s,.bool sh,.int lf,.int tp,mkD mk,shD w' h' l']›) (‹.int t›) none none none none none none none none) = some (.nx (en ns w h l nm (‹.tuple (Nd.ds l)›) (‹.list ((als l).map Nd.d)›) (‹.tuple [.str "layer", nm',.str m.s,fr s,.bool sh,.int lf,.int tp,mkD mk,shD w' h' l']›) (‹.int t›) none none none none none none none none)))]
   cases q2 : ((t : Int) == 2) with
   | true =>
    refine ⟨.tuple [.str "strength", nm',fr s,fr r],k8 ?_,a2 nm' s p1 nn.2 nn.1⟩
    wp_walk using evD,U9,en,Int.reduceAdd,q2,aN0,bd0,cC8,er
   | false =>
    rw [B6 (by wp_walk using evD,U9,en,Int.reduceAdd,q2,aN0,bP6 : U9 (en ns w h l nm (‹.tuple (Nd.ds l)›) (‹.list ((als l).map Nd.d)›) (‹.tuple [.str "layer", nm',.str m.s,fr s,.bool sh,.int lf,.int tp,mkD mk,shD w' h' l']›) (‹.int t›) none none none none none none none none) = some (.nx (en ns w h l nm (‹.tuple (Nd.ds l)›) (‹.list ((als l).map Nd.d)›) (‹.tuple [.str "layer", nm',.str m.s,fr s,.bool sh,.int lf,.int tp,mkD mk,shD w' h' l']›) (‹.int t›) none none none none none none none none)))]
    cases q3 : ((t : Int) == 3) with
    | true =>
     refine ⟨.tuple [.str "manner", nm',.str m.s,.str m6.s],k8 ?_,dd4 (lit _ (by decide +kernel) (by decide +kernel)) (nn.1 _) (aQ5 _ _) (aQ5 _ _) (by have:=nn.2; simp only [wt] at this ⊢; omega) (by simp only [wt]; omega)⟩
     wp_walk using evD,X7,en,Int.reduceAdd,q3,bd0,cC9,ey,em6
    | false =>
     rw [B6 (by wp_walk using evD,X7,en,Int.reduceAdd,q3 : X7 (en ns w h l nm (‹.tuple (Nd.ds l)›) (‹.list ((als l).map Nd.d)›) (‹.tuple [.str "layer", nm',.str m.s,fr s,.bool sh,.int lf,.int tp,mkD mk,shD w' h' l']›) (‹.int t›) none none none none none none none none) = some (.nx (en ns w h l nm (‹.tuple (Nd.ds l)›) (‹.list ((als l).map Nd.d)›) (‹.tuple [.str "layer", nm',.str m.s,fr s,.bool sh,.int lf,.int tp,mkD mk,shD w' h' l']›) (‹.int t›) none none none none none none none none)))]
     cases q4 : ((t : Int) == 4) with
     | true =>
      refine ⟨.tuple [.str "place", nm',.tuple [.int lf,.int tp],.tuple [.int ((u : Int) - 2),.int ((v : Int) - 2)]],k8 ?_,dd4 (lit _ (by decide +kernel) (by decide +kernel)) (nn.1 _) (T1 (by show 2 ≤ 16; decide) (C5 (T2 _ _ (by omega)) (C5 (T2 _ _ (by omega)) W3))) (T1 (by show 2 ≤ 16; decide) (C5 (T2 _ _ (by omega)) (C5 (T2 _ _ (by omega)) W3))) (by have:=nn.2; simp only [wt,wts] at this ⊢; omega) (by simp only [wt,wts]; omega)⟩
      have sl : P8 (A6 6) (D1 (dC (.int 5))) (D1 (dC (.int 7))) (en ns w h l nm (‹.tuple (Nd.ds l)›) (‹.list ((als l).map Nd.d)›) (‹.tuple [.str "layer", nm',.str m.s,fr s,.bool sh,.int lf,.int tp,mkD mk,shD w' h' l']›) (‹.int t›) none none none none none none none none) = some (.tuple [.int lf,.int tp]):=rfl
      simp only [X6,en,sIf,B4,tB2,B8,D2,A5,A7,sl,A9,dC,A8,dIx,B0,W2,A6,xg0,xg1,xbs,xms,W1,aj4,q4,k9,bd0,eu,ev,Z5,if_true,Int.reduceAdd]
     | false =>
      rw [B6 (by wp_walk using evD,X6,en,Int.reduceAdd,q4 : X6 (en ns w h l nm (‹.tuple (Nd.ds l)›) (‹.list ((als l).map Nd.d)›) (‹.tuple [.str "layer", nm',.str m.s,fr s,.bool sh,.int lf,.int tp,mkD mk,shD w' h' l']›) (‹.int t›) none none none none none none none none) = some (.nx (en ns w h l nm (‹.tuple (Nd.ds l)›) (‹.list ((als l).map Nd.d)›) (‹.tuple [.str "layer", nm',.str m.s,fr s,.bool sh,.int lf,.int tp,mkD mk,shD w' h' l']›) (‹.int t›) none none none none none none none none)))]
      obtain ⟨w1,w8,h1,h8,len,_⟩:=p2
      obtain ⟨_,_,_,_,_,w3,h3,o8⟩:=o2
      obtain ⟨a,ea,la⟩:=D7 ns hn (e:=803) (m':=(w' : Int)) 803 w' rfl rfl (by decide) (by omega)
      obtain ⟨b,eb,lb⟩:=D7 ns hn (e:=804) (m':=(h' : Int)) 804 h' rfl rfl (by decide) (by omega)
      have bw : b * w' + a < l'.length:=by
       rw [len]
       have : (b + 1) * w' ≤ h' * w':=Nat.mul_le_mul_right _ (by omega)
       rw [Nat.mul_comm w' h']
       rw [Nat.succ_mul] at this
       omega
      have em : J4 (.int b) (.int w') = some (.int ((b * w' : Nat) : Int)):=R6 (by omega) (by omega)
      have ei : atI (l'.map Q4.d) (((b * w' : Nat) : Int) + (a : Int)) = some (l'[b * w' + a]).d:=by
       rw [← Int.natCast_add]
       exact M3 (by rw [List.getElem?_map,List.getElem?_eq_getElem bw]; rfl)
      have l3 : ∀ a b c : D,([a,b,c] : List D).length = 3:=fun _ _ _=>rfl
      refine ⟨.tuple [.str "spot", nm',.int a,.int b,(l'[b * w' + a]).d,q.d],?_,dd6 (lit _ (by decide +kernel) (by decide +kernel)) (nn.1 _) (T2 _ _ (by omega)) (T2 _ _ (by omega)) (bB2 (o8 _ (List.getElem_mem bw)) 13) (bB2 oq 13) (by rw [bA2]; have:=nn.2; simp only [wt] at this ⊢; omega) (by rw [bA2]; omega)⟩
      rw [B6 (by wp_walk using evD,Z9,en,Int.reduceAdd,cC6,shD,l3 : Z9 (en ns w h l nm (‹.tuple (Nd.ds l)›) (‹.list ((als l).map Nd.d)›) (‹.tuple [.str "layer", nm',.str m.s,fr s,.bool sh,.int lf,.int tp,mkD mk,shD w' h' l']›) (‹.int t›) none none none none none none none none) = some (.nx (en ns w h l nm (‹.tuple (Nd.ds l)›) (‹.list ((als l).map Nd.d)›) (‹.tuple [.str "layer", nm',.str m.s,fr s,.bool sh,.int lf,.int tp,mkD mk,shD w' h' l']›) (‹.int t›) none none none (‹.int w'›) (‹.int h'›) (‹.tuple (l'.map Q4.d)›) none none)))]
      rw [B6 (by wp_walk using evD,Z8,en,Int.reduceAdd,ea : Z8 (en ns w h l nm (‹.tuple (Nd.ds l)›) (‹.list ((als l).map Nd.d)›) (‹.tuple [.str "layer", nm',.str m.s,fr s,.bool sh,.int lf,.int tp,mkD mk,shD w' h' l']›) (‹.int t›) none none none (‹.int w'›) (‹.int h'›) (‹.tuple (l'.map Q4.d)›) none none) = some (.nx (en ns w h l nm (‹.tuple (Nd.ds l)›) (‹.list ((als l).map Nd.d)›) (‹.tuple [.str "layer", nm',.str m.s,fr s,.bool sh,.int lf,.int tp,mkD mk,shD w' h' l']›) (‹.int t›) none none none (‹.int w'›) (‹.int h'›) (‹.tuple (l'.map Q4.d)›) (‹.int a›) none)))]
      rw [B6 (by wp_walk using evD,Z7,en,Int.reduceAdd,eb : Z7 (en ns w h l nm (‹.tuple (Nd.ds l)›) (‹.list ((als l).map Nd.d)›) (‹.tuple [.str "layer", nm',.str m.s,fr s,.bool sh,.int lf,.int tp,mkD mk,shD w' h' l']›) (‹.int t›) none none none (‹.int w'›) (‹.int h'›) (‹.tuple (l'.map Q4.d)›) (‹.int a›) none) = some (.nx (en ns w h l nm (‹.tuple (Nd.ds l)›) (‹.list ((als l).map Nd.d)›) (‹.tuple [.str "layer", nm',.str m.s,fr s,.bool sh,.int lf,.int tp,mkD mk,shD w' h' l']›) (‹.int t›) none none none (‹.int w'›) (‹.int h'›) (‹.tuple (l'.map Q4.d)›) (‹.int a›) (‹.int b›))))]
      wp_walk using evD,ac6,en,Int.reduceAdd,em,ei,eq,bd0
theorem bX7 {l : List Nd} (g : Dr l) (ns : List Int) (hn : ns.length ≤ 63) (w h : Nat) {nm : Str} (hnm : Nm (.str nm)) : ∃ d,aj7 [scr ns,.int 800,R4 w h l,.str nm] = some d ∧ Dd d:=by
 have l6:=g.al6
 have eA:=bN5 2 l 12 g.dp (by decide) (by omega)
 have fin : ∀ d,ab6 (en ns w h l nm none none none none none none none none none none none none) = some (.rt d) → Dd d → ∃ d,aj7 [scr ns,.int 800,R4 w h l,.str nm] = some d ∧ Dd d:=fun d h1 h2=>⟨d,B2 rfl h1,h2⟩
 have s0 : az4 (en ns w h l nm none none none none none none none none none none none none) = some (.nx (en ns w h l nm (‹.tuple (Nd.ds l)›) none none none none none none none none none none none)):=rfl
 have s1 : ah5 (en ns w h l nm (‹.tuple (Nd.ds l)›) none none none none none none none none none none none) = some (.nx (en ns w h l nm (‹.tuple (Nd.ds l)›) (‹.list ((als l).map Nd.d)›) none none none none none none none none none none)):=by wp_walk using evD,ah5,en,Int.reduceAdd,eA
 have eX:=bX2 (X:=(als l).map Nd.d) fun x hx=>by
  obtain ⟨n,hn',rfl⟩:=List.mem_map.mp hx
  exact g.ly hn'
 obtain ⟨c,ec,lc⟩:=D7 ns hn (e:=800) (m':=4) 800 4 rfl rfl (by decide) (by decide)
 obtain ⟨dp,ep,hp⟩:=ci9 g ns hn 820 (by decide) hnm
 have ep : av1 [scr ns,.int 820,.tuple (Nd.ds l),.str nm] = some dp:=ep
 cases q0 : ((als l).map Nd.d).isEmpty with
 | true =>
  rw [q0] at eX
  refine fin dp ?_ hp
  unfold ab6
  rw [B6 s0,B6 s1]
  exact k8 (by wp_walk using evD,X8,en,Int.reduceAdd,eX,ep)
 | false =>
  rw [q0] at eX
  cases q1 : ((c : Int) == 0) with
  | true =>
   refine fin dp ?_ hp
   unfold ab6
   rw [B6 s0,B6 s1]
   exact k8 (by wp_walk using evD,X8,en,Int.reduceAdd,eX,ec,q1,ep)
  | false =>
   have s2 : X8 (en ns w h l nm (‹.tuple (Nd.ds l)›) (‹.list ((als l).map Nd.d)›) none none none none none none none none none none) = some (.nx (en ns w h l nm (‹.tuple (Nd.ds l)›) (‹.list ((als l).map Nd.d)›) none none none none none none none none none none)):=by wp_walk using evD,X8,en,Int.reduceAdd,eX,ec,q1
   have pos : 0 < (als l).length:=by
    cases e : als l with
    | nil=>rw [e] at q0; cases q0
    | cons a b=>rw [List.length_cons]; omega
   obtain ⟨i,ei,li⟩:=D7 ns hn (e:=801) (m':=(((als l).map Nd.d).length : Nat)) 801 (als l).length rfl (by rw [List.length_map]) (by decide) pos
   have hm : (als l)[i] ∈ als l:=List.getElem_mem li
   have ai : atI ((als l).map Nd.d) (i : Int) = some ((als l)[i]).d:=M3 (by rw [List.getElem?_map,List.getElem?_eq_getElem li]; rfl)
   generalize (als l)[i] = n at hm ai
   have s3 : ah4 (en ns w h l nm (‹.tuple (Nd.ds l)›) (‹.list ((als l).map Nd.d)›) none none none none none none none none none none) = some (.nx (en ns w h l nm (‹.tuple (Nd.ds l)›) (‹.list ((als l).map Nd.d)›) (‹n.d›) none none none none none none none none none)):=by wp_walk using evD,ah4,en,Int.reduceAdd,ei,ai
   obtain ⟨t,et,lt⟩:=D7 ns hn (e:=802) (m':=6) 802 6 rfl rfl (by decide) (by decide)
   have s4 : ah3 (en ns w h l nm (‹.tuple (Nd.ds l)›) (‹.list ((als l).map Nd.d)›) (‹n.d›) none none none none none none none none none) = some (.nx (en ns w h l nm (‹.tuple (Nd.ds l)›) (‹.list ((als l).map Nd.d)›) (‹n.d›) (‹.int t›) none none none none none none none none)):=by wp_walk using evD,ah3,en,Int.reduceAdd,et
   cases q2 : ((t : Int) == 0) with
   | true =>
    obtain ⟨d,e1,e2⟩:=cE0 g ns w h nm hm t q2
    refine fin d ?_ e2
    unfold ab6
    rw [B6 s0,B6 s1,B6 s2,B6 s3,B6 s4]
    exact k8 e1
   | false =>
    obtain ⟨d,e1,e2⟩:=cD9 g ns hn w h nm hm t q2
    refine fin d ?_ e2
    unfold ab6
    rw [B6 s0,B6 s1,B6 s2,B6 s3,B6 s4]
    exact e1
end Lk79
namespace Lk79
open PySem G L2 Sh
def gkB : Nat → D → Bool
 | _,.none=>true
 | _,.bool _=>true
 | _,.int i=>decide (i.natAbs < 2 ^ 40)
 | _,.str x=>x.cps.all (· < 128) && decide (x.cps.size ≤ 100)
 | n + 1,.tuple xs=>decide (xs.length ≤ 64) && xs.all (gkB n)
 | n + 1,.list xs=>decide (xs.length ≤ 64) && xs.all (gkB n)
 | _,_=>false
theorem aR7 : ∀ (n : Nat) (d : D),gkB n d = true → Gk n d:=by
 intro n
 induction n with
 | zero =>
  intro d h
  cases d with
  | none=>trivial
  | bool=>trivial
  | int i=>exact (of_decide_eq_true (show decide (i.natAbs < 2 ^ 40) = true from h) : i.natAbs < 2 ^ 40)
  | str x =>
   have h : (x.cps.all (· < 128) && decide (x.cps.size ≤ 100)) = true:=h
   rw [Bool.and_eq_true] at h
   exact ⟨h.1,of_decide_eq_true h.2⟩
  | tuple xs=>cases h
  | list xs=>cases h
  | dict=>cases h
 | succ n ih =>
  intro d h
  cases d with
  | none=>trivial
  | bool=>trivial
  | int i=>exact (of_decide_eq_true (show decide (i.natAbs < 2 ^ 40) = true from h) : i.natAbs < 2 ^ 40)
  | str x =>
   have h : (x.cps.all (· < 128) && decide (x.cps.size ≤ 100)) = true:=h
   rw [Bool.and_eq_true] at h
   exact ⟨h.1,of_decide_eq_true h.2⟩
  | tuple xs =>
   have h : (decide (xs.length ≤ 64) && xs.all (gkB n)) = true:=h
   rw [Bool.and_eq_true,List.all_eq_true] at h
   exact ⟨of_decide_eq_true h.1,fun x hx=>ih x (h.2 x hx)⟩
  | list xs =>
   have h : (decide (xs.length ≤ 64) && xs.all (gkB n)) = true:=h
   rw [Bool.and_eq_true,List.all_eq_true] at h
   exact ⟨of_decide_eq_true h.1,fun x hx=>ih x (h.2 x hx)⟩
  | dict=>cases h
def chk : Option D → Bool
 | some (.list L)=>decide (L.length ≤ 100) && L.all fun d=>gkB 6 d && decide (wt d ≤ 3900)
 | _=>false
theorem bj5 {o : Option D} (h : chk o = true) : ∃ L,o = some (.list L) ∧ L.length ≤ 100 ∧ ∀ d ∈ L,Gk 6 d ∧ wt d ≤ 3900:=by
 match o,h with
 | some (.list L),h =>
  have h : (decide (L.length ≤ 100) && L.all fun d=>gkB 6 d && decide (wt d ≤ 3900)) = true:=h
  rw [Bool.and_eq_true,List.all_eq_true] at h
  refine ⟨L,rfl,of_decide_eq_true h.1,fun d hd=>?_⟩
  have:=h.2 d hd
  rw [Bool.and_eq_true] at this
  exact ⟨aR7 _ _ this.1,of_decide_eq_true this.2⟩
def kn : List D:=[.tuple [.str "place", .str "ab", .tuple [.int 0,.int 0],.tuple [.int 1,.int (-9)]],.tuple [.str "shown", .str "ab", .bool true,.bool false],.tuple [.str "strength", .str "ab", .tuple [.int 1,.int 2],.tuple [.int 0,.int 1]]]
theorem kn1 : chk (Q3 12 [.tuple [.str "place", .str "ab", .tuple [.int 0,.int 0],.tuple [.int 1,.int (-9)]]]) = true:=by kernel_rfl
theorem kn2 : chk (Q3 12 [.tuple [.str "shown", .str "ab", .bool true,.bool false]]) = true:=by kernel_rfl
theorem kn3 : chk (Q3 12 [.tuple [.str "strength", .str "ab", .tuple [.int 1,.int 2],.tuple [.int 0,.int 1]]]) = true:=by kernel_rfl
theorem cA2 : ∀ d ∈ kn,(∃ L,Q3 12 [d] = some (.list L) ∧ L.length ≤ 100 ∧ ∀ d ∈ L,Gk 6 d ∧ wt d ≤ 3900) ∧ Gk 6 d ∧ wt d ≤ 3900:=by
 intro d hd
 simp only [kn,List.mem_cons,List.not_mem_nil,or_false] at hd
 rcases hd with rfl | rfl | rfl
 ·exact ⟨bj5 kn1,aR7 _ _ (by decide +kernel),by simp only [wt,wts]; omega⟩
 ·exact ⟨bj5 kn2,aR7 _ _ (by decide +kernel),by simp only [wt,wts]; omega⟩
 ·exact ⟨bj5 kn3,aR7 _ _ (by decide +kernel),by simp only [wt,wts]; omega⟩
theorem bY4 (xs : List D) (z : D) : atI (xs ++ [z]) (-1) = some z:=by
 have e : L2.ixN (xs ++ [z]).length (-1) = some xs.length:=by
  unfold L2.ixN
  rw [List.length_append,List.length_singleton,if_neg (by decide),if_pos (by omega)]
  congr 1
  omega
 unfold atI
 rw [e]
 simp
end Lk79
namespace Lk79
open PySem G L2 Sh
def b5 : DS:=(B3 (D0 7 (A8 F4 (A5 (A6 6) A7))) (sIf (C4 (B7 (B9 (D3 "bool" (A6 7)))) (tB2 neD (A6 7) (A8 D9 (A5 (A6 6) A7)))) (B4 (dC (.bool false))) C0))
theorem aX7 (t : Bool) : neD (.bool t) (.bool t) = some (.bool false):=by cases t <;> rfl
theorem cC5 {ρ : Rho} {a0 a1 a2 a3 a4 a5 a7 a8 a9 : Option B} {x : D} {t : Bool} (e1 : F4 [x] = some (.bool t)) (e2 : D9 [x] = some (.bool t)) : b5 [a0,a1,a2,a3,a4,a5,some (.val x),a7,a8,a9] = some (.nx [a0,a1,a2,a3,a4,a5,some (.val x),‹.bool t›,a8,a9]):=by
 have i : K3 "bool" (.bool t) = some true:=rfl
 have n:=aX7 t
 simp only [b5,B3,D0,sIf,B4,C0,A8,A6,dC,A5,A7,C4,B7,B9,tB2,A9,D3,xg0,xg1,xw0,xw1,xbs,xms,e1,e2,i,n,G2,B8,xnt,xft,if_true,if_false]
theorem main : ∀ ns : List Int,ns.length ≤ 63 → bq0 [.list (ns.map PyData.int)] = some (.bool true):=by
 intro ns hn
 obtain ⟨N,eN,hN,b,hP⟩:=bF3 ns hn 0 7 (by decide) (by decide)
 have eN : ac0 [scr ns,.int 0,.int 7] = some (.list N):=eN
 obtain ⟨w,h,l,ep,hl,hw,hh⟩:=bf5 ns hn 30 4 (by decide) (by decide) N (by omega)
 have ep : Y5 [scr ns,.int 30,.int 4,.list N] = some (R4 w h l):=ep
 obtain ⟨is,q1_ix,q2,q3⟩:=hl.ix
 have nm6 : ∀ j,j < 7 → ∃ s,N[j]? = some (.str s) ∧ Nm (.str s):=fun j hj=>by
  obtain ⟨y,e1,e2,e3⟩:=hP j hj
  have z : (nmS b j y).length = y.length + 1:=by
   have lc : (ltr j).cps.size = 1:=rfl
   cases b
   ·show (y.cps ++ (ltr j).cps).size = _
    rw [Array.size_append,lc]; rfl
   ·show ((ltr j).cps ++ y.cps).size = _
    rw [Array.size_append,lc,Nat.add_comm]; rfl
  exact ⟨_,e1,_,rfl,bT4 b (by omega) e2,by omega,by omega⟩
 have g : Dr l:=by
  refine ⟨hl.ok,hl.nr,hl.dp,fun d hd=>?_,?_⟩
  ·rw [q1_ix] at hd
   obtain ⟨j,hj,rfl⟩:=List.mem_map.mp hd
   obtain ⟨s,e1,e2⟩:=nm6 j (by have:=q3 j hj; omega)
   rw [List.getD_eq_getElem?_getD,e1]; exact e2
  ·rw [q1_ix,List.length_map]
   have:=List.Nodup.length_le_of_subset q2 (l₂:=List.range 6) (fun j hj=>List.mem_range.mpr (by have:=q3 j hj; omega))
   rwa [List.length_range] at this
 obtain ⟨nm,en6,hnm⟩:=nm6 6 (by decide)
 have N6 : atI N 6 = some (.str nm):=M3 (j:=6) en6
 obtain ⟨d,ed,hd⟩:=bX7 g ns hn w h hnm
 obtain ⟨d22,e22,l22⟩:=D7 ns hn (e:=22) (m':=10000000) 22 10000000 rfl rfl (by decide) (by decide)
 obtain ⟨d23,e23,l23⟩:=D7 ns hn (e:=23) (m':=4) 23 4 rfl rfl (by decide) (by decide)
 obtain ⟨d24,e24,l24⟩:=D7 ns hn (e:=24) (m':=10000000) 24 10000000 rfl rfl (by decide) (by decide)
 obtain ⟨d25,e25,l25⟩:=D7 ns hn (e:=25) (m':=4) 25 4 rfl rfl (by decide) (by decide)
 have pow7 : br4 (.int 10) (.int 7) = some (.int 10000000):=rfl
 obtain ⟨sk,wd⟩:=hd.sk
 obtain ⟨xs,z,hdx,lx,sx,_,wz⟩:=hd
 obtain ⟨d4,e4,g4,w4⟩:=bm5 11 16 d d23 sk (by omega) d22
 have e4 : F7 12 [d,.int d22,.int d23] = some d4:=e4
 obtain ⟨z4,ez,gz,wz4⟩:=bm5 11 15 z d25 (sx z (by simp)) (by omega) d24
 have ez : F7 12 [z,.int d24,.int d25] = some z4:=ez
 have s0 : be9 [‹scr ns›,none,none,none,none,none,none,none,none,none] = some (.nx [‹scr ns›,‹.list N›,none,none,none,none,none,none,none,none]):=by wp_walk using evD,be9,eN
 have s1 : be8 [‹scr ns›,‹.list N›,none,none,none,none,none,none,none,none] = some (.nx [‹scr ns›,‹.list N›,‹R4 w h l›,none,none,none,none,none,none,none]):=by wp_walk using evD,be8,ep
 have s2 : be7 [‹scr ns›,‹.list N›,‹R4 w h l›,none,none,none,none,none,none,none] = some (.nx [‹scr ns›,‹.list N›,‹R4 w h l›,‹d›,none,none,none,none,none,none]):=by wp_walk using evD,be7,N6,ed
 have s3 : be6 [‹scr ns›,‹.list N›,‹R4 w h l›,‹d›,none,none,none,none,none,none] = some (.nx [‹scr ns›,‹.list N›,‹R4 w h l›,‹d›,‹d4›,none,none,none,none,none]):=by wp_walk using evD,be6,pow7,e22,e23,e4
 obtain ⟨d5,hd5⟩ : ∃ d5 : D,d5 = .tuple [.str "put", .str "", .int 0,z4]:=⟨_,rfl⟩
 have iz : dIx (B0 3) (R8 (dC (.int 1))) [‹scr ns›,‹.list N›,‹R4 w h l›,‹d›,‹d4›,none,none,none,none,none] = some z:=by
  rw [hdx]
  exact bY4 xs z
 have s4 : be5 [‹scr ns›,‹.list N›,‹R4 w h l›,‹d›,‹d4›,none,none,none,none,none] = some (.nx [‹scr ns›,‹.list N›,‹R4 w h l›,‹d›,‹d4›,‹d5›,none,none,none,none]):=by
  rw [hd5]
  simp only [be5,D0,D2,A5,A7,A8,iz,dC,A6,A9,xg0,xg1,xw0,xw1,xbs,xms,pow7,e24,e25,ez]
 have lx9 : (xs ++ [z]).length ≤ 9:=by rw [List.length_append,List.length_singleton]; omega
 have c1:=af4 (xs ++ [z]) (some (-1)) none
 have c2:=af4 (xs ++ [z]) none (some (-1))
 have w1:=ar9 (xs ++ [z]) (some (-1)) none
 have w2:=ar9 (xs ++ [z]) none (some (-1))
 have wd' : 1 + wts (xs ++ [z]) ≤ 1400:=by rw [hdx] at wd; simpa only [wt] using wd
 have gx : ∀ x ∈ xs ++ [z],Gk 18 x:=fun x hx=>(Sk.gk _ _ (sx x hx)).mono (by decide)
 have cc : C1 (.tuple (xs ++ [z])) (.tuple (L6 (xs ++ [z]) (some (-1)) none)) = some (.tuple ((xs ++ [z]) ++ L6 (xs ++ [z]) (some (-1)) none)):=by
  show (if (xs ++ [z]).length + _ ≤ 16777216 then _ else none) = _
  rw [if_pos (by omega)]
 have any : ∀ x ∈ ([d,d4,d5,.tuple ((xs ++ [z]) ++ L6 (xs ++ [z]) (some (-1)) none),.tuple (L6 (xs ++ [z]) none (some (-1)))] : List D),∃ t,F4 [x] = some (.bool t) ∧ D9 [x] = some (.bool t):=fun x hx=>by
  have : Gk 19 x ∧ wt x ≤ 3900:=by
   simp only [List.mem_cons,List.not_mem_nil,or_false] at hx
   rcases hx with rfl | rfl | rfl | rfl | rfl
   ·exact ⟨(Sk.gk _ _ sk).mono (by decide),by omega⟩
   ·exact ⟨g4,by omega⟩
   ·rw [hd5]
    exact ⟨n5 (by show 4 ≤ 64; decide) (G8 (Z0 _ _ (by decide +kernel) (by decide +kernel)) (G8 (Z0 _ _ (by decide +kernel) (by decide +kernel)) (G8 (Z3 _ _ (by decide)) (G8 gz ay3)))),by simp only [wt,wts]; omega⟩
   ·refine ⟨n5 (by rw [List.length_append]; omega) fun x hx=>?_,by rw [wt,u4]; omega⟩
    rcases List.mem_append.mp hx with hx | hx
    ·exact gx x hx
    ·exact gx x (af3 hx)
   ·exact ⟨n5 (by omega) fun x hx=>gx x (af3 hx),by rw [wt]; omega⟩
  exact aG2 (by decide) this.1 this.2
 obtain ⟨a6,a7,s5⟩ : ∃ a6 a7,bB0 [‹scr ns›,‹.list N›,‹R4 w h l›,‹d›,‹d4›,‹d5›,none,none,none,none] = some (.nx [‹scr ns›,‹.list N›,‹R4 w h l›,‹d›,‹d4›,‹d5›,a6,a7,none,none]):=by
  obtain ⟨ρ',e,a6,a7,rfl⟩:=aF8 (g:=C7 6) (f:=b5) (I:=fun ρ=>∃ a6 a7,ρ = [‹scr ns›,‹.list N›,‹R4 w h l›,‹d›,‹d4›,‹d5›,a6,a7,none,none]) [d,d4,d5,.tuple ((xs ++ [z]) ++ L6 (xs ++ [z]) (some (-1)) none),.tuple (L6 (xs ++ [z]) none (some (-1)))] [‹scr ns›,‹.list N›,‹R4 w h l›,‹d›,‹d4›,‹d5›,none,none,none,none] ⟨none,none,rfl⟩ fun x hx ρ hρ=>by
   obtain ⟨a6,a7,rfl⟩:=hρ
   obtain ⟨t,t1,t2⟩:=any x hx
   exact ⟨_,rfl,_,cC5 (ρ:=[]) t1 t2,_,_,rfl⟩
  refine ⟨a6,a7,?_⟩
  have sr : E1 (D2 (A5 (A6 3) (A5 (A6 4) (A5 (A6 5) (A5 (A9 C1 (A6 3) (P8 (A6 3) (D1 (R8 (dC (.int 1)))) E7)) (A5 (P8 (A6 3) E7 (D1 (R8 (dC (.int 1))))) A7)))))) [‹scr ns›,‹.list N›,‹R4 w h l›,‹d›,‹d4›,‹d5›,none,none,none,none] = some [d,d4,d5,.tuple ((xs ++ [z]) ++ L6 (xs ++ [z]) (some (-1)) none),.tuple (L6 (xs ++ [z]) none (some (-1)))]:=by
   have v3 : A6 3 [‹scr ns›,‹.list N›,‹R4 w h l›,‹d›,‹d4›,‹d5›,none,none,none,none] = some (.tuple (xs ++ [z])):=by rw [hdx]; rfl
   have v3' : A6 3 [‹scr ns›,‹.list N›,‹R4 w h l›,‹d›,‹d4›,‹d5›,none,none,none,none] = some d:=rfl
   have k1 : P8 (A6 3) (D1 (R8 (dC (.int 1)))) E7 [‹scr ns›,‹.list N›,‹R4 w h l›,‹d›,‹d4›,‹d5›,none,none,none,none] = some (.tuple (L6 (xs ++ [z]) (some (-1)) none)):=by unfold P8; rw [v3]; rfl
   have k2 : P8 (A6 3) E7 (D1 (R8 (dC (.int 1)))) [‹scr ns›,‹.list N›,‹R4 w h l›,‹d›,‹d4›,‹d5›,none,none,none,none] = some (.tuple (L6 (xs ++ [z]) none (some (-1)))):=by unfold P8; rw [v3]; rfl
   have k3 : A9 C1 (A6 3) (P8 (A6 3) (D1 (R8 (dC (.int 1)))) E7) [‹scr ns›,‹.list N›,‹R4 w h l›,‹d›,‹d4›,‹d5›,none,none,none,none] = some (.tuple ((xs ++ [z]) ++ L6 (xs ++ [z]) (some (-1)) none)):=by unfold A9; rw [v3,k1]; exact cc
   have v4 : A6 4 [‹scr ns›,‹.list N›,‹R4 w h l›,‹d›,‹d4›,‹d5›,none,none,none,none] = some d4:=rfl
   have v5 : A6 5 [‹scr ns›,‹.list N›,‹R4 w h l›,‹d›,‹d4›,‹d5›,none,none,none,none] = some d5:=rfl
   simp only [E1,D2,A5,A7,v3',v4,v5,k3,k2,xbs,xms]
  show (E1 _ _).bind _ = _
  rw [sr]
  exact e
 have s6 : bA9 [‹scr ns›,‹.list N›,‹R4 w h l›,‹d›,‹d4›,‹d5›,a6,a7,none,none] = some (.nx [‹scr ns›,‹.list N›,‹R4 w h l›,‹d›,‹d4›,‹d5›,a6,a7,‹.list kn›,none]):=rfl
 obtain ⟨a9,s7⟩ : ∃ a9,bA8 [‹scr ns›,‹.list N›,‹R4 w h l›,‹d›,‹d4›,‹d5›,a6,a7,‹.list kn›,none] = some (.nx [‹scr ns›,‹.list N›,‹R4 w h l›,‹d›,‹d4›,‹d5›,a6,a7,‹.list kn›,a9]):=by
  obtain ⟨ρ',e,a9,rfl⟩:=aF8 (g:=C7 9) (f:=(sIf (tB2 neD (D6 (C8 1 [] (E1 (A9 C1 (D6 (A5 (A6 9) A7)) (A8 (Q3 12) (A5 (A6 9) A7)))) (C7 0) (tB2 neD (A8 F4 (A5 (A6 0) A7)) (A8 D9 (A5 (A6 0) A7))) (A6 0))) (D6 A7)) (B4 (dC (.bool false))) C0)) (I:=fun ρ=>∃ a9,ρ = [‹scr ns›,‹.list N›,‹R4 w h l›,‹d›,‹d4›,‹d5›,a6,a7,‹.list kn›,a9]) kn [‹scr ns›,‹.list N›,‹R4 w h l›,‹d›,‹d4›,‹d5›,a6,a7,‹.list kn›,none] ⟨none,rfl⟩ fun x hx ρ hρ=>by
   obtain ⟨a9,rfl⟩:=hρ
   obtain ⟨⟨L,eL,lL,hL⟩,gx9,wx9⟩:=cA2 x hx
   refine ⟨[‹scr ns›,‹.list N›,‹R4 w h l›,‹d›,‹d4›,‹d5›,a6,a7,‹.list kn›,some (.val x)],rfl,[‹scr ns›,‹.list N›,‹R4 w h l›,‹d›,‹d4›,‹d5›,a6,a7,‹.list kn›,some (.val x)],?_,some (.val x),rfl⟩
   have sr : E1 (A9 C1 (D6 (A5 (A6 9) A7)) (A8 (Q3 12) (A5 (A6 9) A7))) [‹scr ns›,‹.list N›,‹R4 w h l›,‹d›,‹d4›,‹d5›,a6,a7,‹.list kn›,some (.val x)] = some ((x :: L).map id):=by
    have ck : C1 (.list [x]) (.list L) = some (.list (x :: L)):=by
     show (if 1 + L.length ≤ 16777216 then _ else none) = _
     rw [if_pos (by omega)]; rfl
    rw [List.map_id]
    simp only [E1,A9,D6,A8,A5,A7,A6,xg0,xg1,xbs,xms,eL,ck]
   have cm:=U1 (α:=D) (caps:=[]) (c:=(tB2 neD (A8 F4 (A5 (A6 0) A7)) (A8 D9 (A5 (A6 0) A7)))) (e:=A6 0) (h:=id) (f:=id) (p:=fun _=>false) (r:=[]) rfl sr (by rw [List.length_cons]; omega) (fun a ha=>by
    obtain ⟨t,t1,t2⟩ : ∃ t,F4 [a] = some (.bool t) ∧ D9 [a] = some (.bool t):=by
     rcases List.mem_cons.mp ha with rfl | ha
     ·exact aG2 (by decide) gx9 wx9
     ·exact aG2 (by decide) (hL a ha).1 (hL a ha).2
    simp only [tB2,A9,A8,A5,A7,A6,id,xg0,xbs,xms,t1,t2,aX7,B8]) fun a ha=>rfl
   rw [List.filter_eq_nil_iff.mpr (fun a _=>Bool.false_ne_true),xmn] at cm
   have nn : neD (.list []) (.list []) = some (.bool false):=rfl
   simp only [sIf,tB2,A9,D6,A7,cm,xbs,xms,nn,B8,xft,if_false,C0]
  exact ⟨a9,e⟩
 refine B2 (ρ:=[‹scr ns›,none,none,none,none,none,none,none,none,none]) rfl ?_
 unfold cb1
 rw [B6 s0,B6 s1,B6 s2,B6 s3,B6 s4,B6 s5,B6 s6,B6 s7]
 rfl
end Lk79
namespace Lk79
open PySem PySem.Spec PyProof.Rows L2 G Sh
theorem T8 {K : PySem.W.Frag} (x : Str) (t : Tok) : bd6 K (.str x) (.str x t):=⟨.str x,⟨t,rfl⟩,fun _=>rfl⟩
def zcs : List (Str × D):=[("MANNERS", (.tuple [(.str "over"),(.str "multiply"),(.str "screen"),(.str "plus"),(.str "atop"),(.str "cut")])),("RULES", (.tuple [(.str "turn"),(.str "grey"),(.str "round")])),("GREATEST", (.int 8)),("LETTERS", (.str "abcdefghijklmnopqrstuvwxyz")),("DEEPEST", (.int 3)),("FARTHEST", (.int 9))]
def zbl : List Str:=["all", "bool", "int", "isinstance", "len", "list", "range", "set", "str", "tuple"]
def tb0 : Tab:=[]
def ae2 : Fd:={ x := "is_whole", st:=ao9,ps:=["thing"],N:=["thing"],old:=true }
theorem bk2 : Bd ae2:=fun _ _ _ _ _ _=>ua1 fun _=>rfl
theorem bg0 : ae2.okB = true:=by kernel_rfl
theorem bi1 : rd tb0 zcs zbl ae2 = J8:=by kernel_rfl
def tb1 : Tab:=("is_whole", J8,1) :: tb0
def T0 : Fd:={ x := "common_divisor", st:=W6,ps:=["one", "other"],N:=["one", "other", "left_over"],old:=true }
theorem ay8 : Bd T0:=fun _ _ _ _ _ _=>ua2 fun _ _=>rfl
theorem ax8 : T0.okB = true:=by kernel_rfl
theorem ay5 : rd tb1 zcs zbl T0 = M0:=by kernel_rfl
def tb2 : Tab:=("common_divisor", M0,2) :: tb1
def ae8 : Fd:={ x := "is_share", st:=ap5,ps:=["thing"],N:=["thing", "top", "under"],old:=true }
theorem bk8 : Bd ae8:=fun _ _ _ _ _ _=>ua1 fun _=>rfl
theorem bg6 : ae8.okB = true:=by kernel_rfl
theorem bi7 : rd tb2 zcs zbl ae8 = F8:=by kernel_rfl
def tb3 : Tab:=("is_share", F8,1) :: tb2
def j3 : Fd:={ x := "is_at_most", st:=ad2,ps:=["one", "other"],N:=["one", "other"],old:=true }
theorem aT3 : Bd j3:=fun _ _ _ _ _ _=>ua2 fun _ _=>rfl
theorem aQ0 : j3.okB = true:=by kernel_rfl
theorem aS4 : rd tb3 zcs zbl j3 = j6:=by kernel_rfl
def tb4 : Tab:=("is_at_most", j6,2) :: tb3
def al4 : Fd:={ x := "kind_of", st:=aw6,ps:=["node"],N:=["node"] }
theorem by5 : Bd al4:=fun _ _ _ _ _ _=>ua1 fun _=>rfl
theorem bt5 : al4.okB = true:=by kernel_rfl
theorem bv9 : rd tb4 zcs zbl al4 = V1:=by kernel_rfl
def tb5 : Tab:=("kind_of", V1,1) :: tb4
def af0 : Fd:={ x := "is_layer", st:=ap7,ps:=["node"],N:=["node"] }
theorem bl0 : Bd af0:=fun _ _ _ _ _ _=>ua1 fun _=>rfl
theorem bg8 : af0.okB = true:=by kernel_rfl
theorem bi9 : rd tb5 zcs zbl af0 = ag0:=by kernel_rfl
def tb6 : Tab:=("is_layer", ag0,1) :: tb5
def af1 : Fd:={ x := "is_group", st:=ap8,ps:=["node"],N:=["node"] }
theorem bl1 : Bd af1:=fun _ _ _ _ _ _=>ua1 fun _=>rfl
theorem bg9 : af1.okB = true:=by kernel_rfl
theorem bj0 : rd tb6 zcs zbl af1 = N8:=by kernel_rfl
def tb7 : Tab:=("is_group", N8,1) :: tb6
def al5 : Fd:={ x := "is_tone", st:=aw7,ps:=["node"],N:=["node"] }
theorem by6 : Bd al5:=fun _ _ _ _ _ _=>ua1 fun _=>rfl
theorem bt6 : al5.okB = true:=by kernel_rfl
theorem bw0 : rd tb7 zcs zbl al5 = an3:=by kernel_rfl
def tb8 : Tab:=("is_tone", an3,1) :: tb7
def ak5 : Fd:={ x := "name_of", st:=av7,ps:=["node"],N:=["node"] }
theorem bx6 : Bd ak5:=fun _ _ _ _ _ _=>ua1 fun _=>rfl
theorem bs6 : ak5.okB = true:=by kernel_rfl
theorem bv0 : rd tb8 zcs zbl ak5 = M5:=by kernel_rfl
def tb9 : Tab:=("name_of", M5,1) :: tb8
def u8 : Fd:={ x := "manner_of", st:=ah6,ps:=["node"],N:=["node"] }
theorem bc0 : Bd u8:=fun _ _ _ _ _ _=>ua1 fun _=>rfl
theorem aW5 : u8.okB = true:=by kernel_rfl
theorem aZ8 : rd tb9 zcs zbl u8 = P1:=by kernel_rfl
def ch7 : Tab:=("manner_of", P1,1) :: tb9
def ak4 : Fd:={ x := "rule_of", st:=av6,ps:=["tone"],N:=["tone"] }
theorem bx5 : Bd ak4:=fun _ _ _ _ _ _=>ua1 fun _=>rfl
theorem bs5 : ak4.okB = true:=by kernel_rfl
theorem bu9 : rd ch7 zcs zbl ak4 = am8:=by kernel_rfl
def ch6 : Tab:=("rule_of", am8,1) :: ch7
def X1 : Fd:={ x := "strength_of", st:=y9,ps:=["node"],N:=["node"] }
theorem aJ4 : Bd X1:=fun _ _ _ _ _ _=>ua1 fun _=>rfl
theorem aI1 : X1.okB = true:=by kernel_rfl
theorem aI8 : rd ch6 zcs zbl X1 = Q5:=by kernel_rfl
def ch5 : Tab:=("strength_of", Q5,1) :: ch6
def ae6 : Fd:={ x := "is_shown", st:=ap3,ps:=["node"],N:=["node"] }
theorem bk6 : Bd ae6:=fun _ _ _ _ _ _=>ua1 fun _=>rfl
theorem bg4 : ae6.okB = true:=by kernel_rfl
theorem bi5 : rd ch5 zcs zbl ae6 = p9:=by kernel_rfl
def ch4 : Tab:=("is_shown", p9,1) :: ch5
def ak7 : Fd:={ x := "left_of", st:=av9,ps:=["layer"],N:=["layer"] }
theorem bx8 : Bd ak7:=fun _ _ _ _ _ _=>ua1 fun _=>rfl
theorem bs8 : ak7.okB = true:=by kernel_rfl
theorem bv2 : rd ch4 zcs zbl ak7 = an0:=by kernel_rfl
def ch3 : Tab:=("left_of", an0,1) :: ch4
def at8 : Fd:={ x := "top_of", st:=aD4,ps:=["layer"],N:=["layer"] }
theorem bM5 : Bd at8:=fun _ _ _ _ _ _=>ua1 fun _=>rfl
theorem bE1 : at8.okB = true:=by kernel_rfl
theorem bL1 : rd ch3 zcs zbl at8 = au9:=by kernel_rfl
def ch2 : Tab:=("top_of", au9,1) :: ch3
def ak6 : Fd:={ x := "mask_of", st:=av8,ps:=["layer"],N:=["layer"] }
theorem bx7 : Bd ak6:=fun _ _ _ _ _ _=>ua1 fun _=>rfl
theorem bs7 : ak6.okB = true:=by kernel_rfl
theorem bv1 : rd ch2 zcs zbl ak6 = am9:=by kernel_rfl
def ch1 : Tab:=("mask_of", am9,1) :: ch2
def ae0 : Fd:={ x := "sheet_of", st:=ao7,ps:=["layer"],N:=["layer"] }
theorem bk0 : Bd ae0:=fun _ _ _ _ _ _=>ua1 fun _=>rfl
theorem bf8 : ae0.okB = true:=by kernel_rfl
theorem bh9 : rd ch1 zcs zbl ae0 = o9:=by kernel_rfl
def ch0 : Tab:=("sheet_of", o9,1) :: ch1
def X3 : Fd:={ x := "inner_nodes", st:=aa1,ps:=["group"],N:=["group"] }
theorem aJ6 : Bd X3:=fun _ _ _ _ _ _=>ua1 fun _=>rfl
theorem aI3 : X3.okB = true:=by kernel_rfl
theorem aJ0 : rd ch0 zcs zbl X3 = J9:=by kernel_rfl
def cg9 : Tab:=("inner_nodes", J9,1) :: ch0
def al7 : Fd:={ x := "is_spot", st:=aw8,ps:=["thing"],N:=["thing"],old:=true,hc:=[((57,15),[0])] }
theorem by7 : Bd al7:=fun _ _ _ _ _ _=>ua1 fun _=>rfl
theorem bt7 : al7.okB = true:=by kernel_rfl
theorem bw1 : rd cg9 zcs zbl al7 = L1:=by kernel_rfl
def cg8 : Tab:=("is_spot", L1,1) :: cg9
def al8 : Fd:={ x := "is_size", st:=aw9,ps:=["thing"],N:=["thing"] }
theorem by8 : Bd al8:=fun _ _ _ _ _ _=>ua1 fun _=>rfl
theorem bt8 : al8.okB = true:=by kernel_rfl
theorem bw2 : rd cg8 zcs zbl al8 = j9:=by kernel_rfl
def cg7 : Tab:=("is_size", j9,1) :: cg8
def ae5 : Fd:={ x := "is_sized", st:=ap2,ps:=["thing"],N:=["thing"] }
theorem bk5 : Bd ae5:=fun _ _ _ _ _ _=>ua1 fun _=>rfl
theorem bg3 : ae5.okB = true:=by kernel_rfl
theorem bi4 : rd cg7 zcs zbl ae5 = S4:=by kernel_rfl
def cg6 : Tab:=("is_sized", S4,1) :: cg7
def ae7 : Fd:={ x := "is_sheet", st:=ap4,ps:=["thing"],N:=["thing", "spots"] }
theorem bk7 : Bd ae7:=fun _ _ _ _ _ _=>ua1 fun _=>rfl
theorem bg5 : ae7.okB = true:=by kernel_rfl
theorem bi6 : rd cg6 zcs zbl ae7 = L3:=by kernel_rfl
def cg5 : Tab:=("is_sheet", L3,1) :: cg6
def am0 : Fd:={ x := "is_name", st:=ax1,ps:=["thing"],N:=["thing"],tx:=[0] }
theorem bz0 : Bd am0:=fun _ _ _ _ _ _=>ua1 fun _=>rfl
theorem bu0 : am0.okB = true:=by kernel_rfl
theorem bw4 : rd cg5 zcs zbl am0 = O8:=by kernel_rfl
def cg4 : Tab:=("is_name", O8,1) :: cg5
def ae4 : Fd:={ x := "is_truth", st:=ap1,ps:=["thing"],N:=["thing"] }
theorem bk4 : Bd ae4:=fun _ _ _ _ _ _=>ua1 fun _=>rfl
theorem bg2 : ae4.okB = true:=by kernel_rfl
theorem bi3 : rd cg4 zcs zbl ae4 = U8:=by kernel_rfl
def cg3 : Tab:=("is_truth", U8,1) :: cg4
def w9 : Fd:={ x := "is_offset", st:=ai3,ps:=["thing"],N:=["thing"] }
theorem bc7 : Bd w9:=fun _ _ _ _ _ _=>ua1 fun _=>rfl
theorem aX2 : w9.okB = true:=by kernel_rfl
theorem ba5 : rd cg3 zcs zbl w9 = P2:=by kernel_rfl
def cg2 : Tab:=("is_offset", P2,1) :: cg3
def am1 : Fd:={ x := "is_mask", st:=ax2,ps:=["thing", "sheet"],N:=["thing", "sheet"] }
theorem bz1 : Bd am1:=fun _ _ _ _ _ _=>ua2 fun _ _=>rfl
theorem bu1 : am1.okB = true:=by kernel_rfl
theorem bw5 : rd cg2 zcs zbl am1 = ac2:=by kernel_rfl
def cg1 : Tab:=("is_mask", ac2,2) :: cg2
def O1 : Fd:={ x := "is_layer_of_parts", st:=T3,ps:=["thing"],N:=["thing"] }
theorem ao1 : Bd O1:=fun _ _ _ _ _ _=>ua1 fun _=>rfl
theorem an4 : O1.okB = true:=by kernel_rfl
theorem an9 : rd cg1 zcs zbl O1 = L5:=by kernel_rfl
def bA5 : Tab:=("is_layer_of_parts", L5,1) :: cg1
def O2 : Fd:={ x := "is_group_of_nodes", st:=T5,ps:=["thing", "deepest"],N:=["thing", "deepest"] }
theorem ao2 : Bd O2:=fun _ _ _ _ _ _=>ua2 fun _ _=>rfl
theorem an5 : O2.okB = true:=by kernel_rfl
def U4 : Fd:={ x := "has_node_form", st:=Y8,ps:=["thing", "deepest"],N:=["thing", "deepest"] }
theorem aA8 : Bd U4:=fun _ _ _ _ _ _=>ua2 fun _ _=>rfl
theorem aA2 : U4.okB = true:=by kernel_rfl
def x3 : Fd:={ x := "are_nodes", st:=ai5,ps:=["thing", "deepest"],N:=["thing", "deepest"],hc:=[((106,44),[1])] }
theorem bc9 : Bd x3:=fun _ _ _ _ _ _=>ua2 fun _ _=>rfl
theorem aX4 : x3.okB = true:=by kernel_rfl
theorem ao0 (j : Nat) : rd (("is_group_of_nodes", C9 j,2) :: ("has_node_form", C6 j,2) :: ("are_nodes", S6 j,2) :: bA5) zcs zbl O2 = C9 (j + 1):=by kernel_rfl
theorem aA6 (j : Nat) : rd (("is_group_of_nodes", C9 j,2) :: ("has_node_form", C6 j,2) :: ("are_nodes", S6 j,2) :: bA5) zcs zbl U4 = C6 (j + 1):=by kernel_rfl
theorem ba7 (j : Nat) : rd (("is_group_of_nodes", C9 j,2) :: ("has_node_form", C6 j,2) :: ("are_nodes", S6 j,2) :: bA5) zcs zbl x3 = S6 (j + 1):=by kernel_rfl
def cg0 : Tab:=("is_group_of_nodes", C9 12,2) :: ("has_node_form", C6 12,2) :: ("are_nodes", S6 12,2) :: bA5
def X2 : Fd:={ x := "names_among", st:=aa0,ps:=["nodes"],N:=["nodes", "names", "node"],own:=[1],fz:=[(113,[1])] }
theorem aJ5 : Bd X2:=fun _ _ _ _ _ _=>ua1 fun _=>rfl
theorem aI2 : X2.okB = true:=by kernel_rfl
theorem aI9 (j : Nat) : rd (("names_among", D5 j,1) :: cg0) zcs zbl X2 = D5 (j + 1):=by kernel_rfl
def cf9 : Tab:=("names_among", D5 12,1) :: cg0
def P7 : Fd:={ x := "are_names_unlike", st:=U5,ps:=["nodes"],N:=["nodes", "names"] }
theorem ar0 : Bd P7:=fun _ _ _ _ _ _=>ua1 fun _=>rfl
theorem aq1 : P7.okB = true:=by kernel_rfl
theorem aq7 : rd cf9 zcs zbl P7 = Q1:=by kernel_rfl
def cf8 : Tab:=("are_names_unlike", Q1,1) :: cf9
def al9 : Fd:={ x := "is_node", st:=ax0,ps:=["thing"],N:=["thing"] }
theorem by9 : Bd al9:=fun _ _ _ _ _ _=>ua1 fun _=>rfl
theorem bt9 : al9.okB = true:=by kernel_rfl
theorem bw3 : rd cf8 zcs zbl al9 = ac1:=by kernel_rfl
def cf7 : Tab:=("is_node", ac1,1) :: cf8
def x0 : Fd:={ x := "is_number", st:=ai4,ps:=["thing"],N:=["thing"] }
theorem bc8 : Bd x0:=fun _ _ _ _ _ _=>ua1 fun _=>rfl
theorem aX3 : x0.okB = true:=by kernel_rfl
theorem ba6 : rd cf7 zcs zbl x0 = N5:=by kernel_rfl
def cf6 : Tab:=("is_number", N5,1) :: cf7
def ae9 : Fd:={ x := "is_place", st:=ap6,ps:=["thing"],N:=["thing"] }
theorem bk9 : Bd ae9:=fun _ _ _ _ _ _=>ua1 fun _=>rfl
theorem bg7 : ae9.okB = true:=by kernel_rfl
theorem bi8 : rd cf6 zcs zbl ae9 = W9:=by kernel_rfl
def cf5 : Tab:=("is_place", W9,1) :: cf6
def ae3 : Fd:={ x := "is_value", st:=ap0,ps:=["word", "thing"],N:=["word", "thing"] }
theorem bk3 : Bd ae3:=fun _ _ _ _ _ _=>ua2 fun _ _=>rfl
theorem bg1 : ae3.okB = true:=by kernel_rfl
theorem bi2 : rd cf5 zcs zbl ae3 = p8:=by kernel_rfl
def cf4 : Tab:=("is_value", p8,2) :: cf5
def U3 : Fd:={ x := "has_spot_form", st:=Y7,ps:=["thing"],N:=["thing"] }
theorem aA7 : Bd U3:=fun _ _ _ _ _ _=>ua1 fun _=>rfl
theorem aA1 : U3.okB = true:=by kernel_rfl
theorem aA5 : rd cf4 zcs zbl U3 = M6:=by kernel_rfl
def cf3 : Tab:=("has_spot_form", M6,1) :: cf4
def S9 : Fd:={ x := "has_value_form", st:=W5,ps:=["thing"],N:=["thing"] }
theorem ay7 : Bd S9:=fun _ _ _ _ _ _=>ua1 fun _=>rfl
theorem ax7 : S9.okB = true:=by kernel_rfl
theorem ay4 : rd cf3 zcs zbl S9 = L9:=by kernel_rfl
def cf2 : Tab:=("has_value_form", L9,1) :: cf3
def V9 : Fd:={ x := "has_put_form", st:=m9,ps:=["thing"],N:=["thing"] }
theorem aG8 : Bd V9:=fun _ _ _ _ _ _=>ua1 fun _=>rfl
theorem aE9 : V9.okB = true:=by kernel_rfl
theorem aG1 : rd cf2 zcs zbl V9 = S5:=by kernel_rfl
def cf1 : Tab:=("has_put_form", S5,1) :: cf2
def am2 : Fd:={ x := "is_deed", st:=ax3,ps:=["thing"],N:=["thing"] }
theorem bz2 : Bd am2:=fun _ _ _ _ _ _=>ua1 fun _=>rfl
theorem bu2 : am2.okB = true:=by kernel_rfl
theorem bw6 : rd cf1 zcs zbl am2 = F4:=by kernel_rfl
def cf0 : Tab:=("is_deed", F4,1) :: cf1
def au4 : Fd:={ x := "_law_cell", st:=aE0,ps:=["_law_script", "_law_k"],N:=["_law_script", "_law_k"],old:=true }
theorem bN1 : Bd au4:=fun _ _ _ _ _ _=>ua2 fun _ _=>rfl
theorem bE7 : au4.okB = true:=by kernel_rfl
theorem bL7 : rd cf0 zcs zbl au4 = av2:=by kernel_rfl
def ce9 : Tab:=("_law_cell", av2,2) :: cf0
def al3 : Fd:={ x := "_law_drawn", st:=aw5,ps:=["_law_script", "_law_k", "_law_many"],N:=["_law_script", "_law_k", "_law_many", "_law_cell_here"],old:=true }
theorem by4 : Bd al3:=fun _ _ _ _ _ _=>ua3 fun _ _ _=>rfl
theorem bt4 : al3.okB = true:=by kernel_rfl
theorem bv8 : rd ce9 zcs zbl al3 = B5:=by kernel_rfl
def ce8 : Tab:=("_law_drawn", B5,3) :: ce9
def au0 : Fd:={ x := "_law_made", st:=aD6,ps:=["_law_top", "_law_under"],N:=["_law_top", "_law_under", "_law_one", "_law_by"],old:=true }
theorem bM7 : Bd au0:=fun _ _ _ _ _ _=>ua2 fun _ _=>rfl
theorem bE3 : au0.okB = true:=by kernel_rfl
theorem bL3 : rd ce8 zcs zbl au0 = p7:=by kernel_rfl
def ce7 : Tab:=("_law_made", p7,2) :: ce8
def ak8 : Fd:={ x := "_law_times", st:=aw0,ps:=["_law_one", "_law_other"],N:=["_law_one", "_law_other"],old:=true }
theorem bx9 : Bd ak8:=fun _ _ _ _ _ _=>ua2 fun _ _=>rfl
theorem bs9 : ak8.okB = true:=by kernel_rfl
theorem bv3 : rd ce7 zcs zbl ak8 = an1:=by kernel_rfl
def ce6 : Tab:=("_law_times", an1,2) :: ce7
def al0 : Fd:={ x := "_law_share", st:=aw2,ps:=["_law_script", "_law_at"],N:=["_law_script", "_law_at", "_law_under", "_law_drawn_here"],old:=true }
theorem by1 : Bd al0:=fun _ _ _ _ _ _=>ua2 fun _ _=>rfl
theorem bt1 : al0.okB = true:=by kernel_rfl
theorem bv5 : rd ce6 zcs zbl al0 = L0:=by kernel_rfl
def ce5 : Tab:=("_law_share", L0,2) :: ce6
def at9 : Fd:={ x := "_law_spot", st:=aD5,ps:=["_law_script", "_law_at"],N:=["_law_script", "_law_at", "_law_cover"],old:=true,hc:=[((177,33),[2,0,1])] }
theorem bM6 : Bd at9:=fun _ _ _ _ _ _=>ua2 fun _ _=>rfl
theorem bE2 : at9.okB = true:=by kernel_rfl
theorem bL2 : rd ce5 zcs zbl at9 = W0:=by kernel_rfl
def ce4 : Tab:=("_law_spot", W0,2) :: ce5
def ak9 : Fd:={ x := "_law_sheet", st:=aw1,ps:=["_law_script", "_law_at", "_law_wide", "_law_high"],N:=["_law_script", "_law_at", "_law_wide", "_law_high", "_law_spots"],hc:=[((179,17),[0,1])] }
theorem by0 : Bd ak9:=fun _ _ _ _ _ _=>ua4 fun _ _ _ _=>rfl
theorem bt0 : ak9.okB = true:=by kernel_rfl
theorem bv4 : rd ce4 zcs zbl ak9 = ab9:=by kernel_rfl
def ce3 : Tab:=("_law_sheet", ab9,4) :: ce4
def al2 : Fd:={ x := "_law_names", st:=aw4,ps:=["_law_script", "_law_at", "_law_many"],N:=["_law_script", "_law_at", "_law_many", "_law_is_first", "_law_found", "_law_k", "_law_word"],own:=[4],tx:=[6],fz:=[(190,[4])],hc:=[((187,28),[0,1,5])] }
theorem by3 : Bd al2:=fun _ _ _ _ _ _=>ua3 fun _ _ _=>rfl
theorem bt3 : al2.okB = true:=by kernel_rfl
theorem bv7 : rd ce3 zcs zbl al2 = ac0:=by kernel_rfl
def ce2 : Tab:=("_law_names", ac0,3) :: ce3
def au1 : Fd:={ x := "_law_leaf", st:=aD7,ps:=["_law_script", "_law_at", "_law_name", "_law_main"],N:=["_law_script", "_law_at", "_law_name", "_law_main", "_law_strength", "_law_is_shown", "_law_manner", "_law_wide", "_law_high", "_law_mask", "_law_left", "_law_top", "_law_sheet_here"],hc:=[((203,26),[0,1])] }
theorem bM8 : Bd au1:=fun _ _ _ _ _ _=>ua4 fun _ _ _ _=>rfl
theorem bE4 : au1.okB = true:=by kernel_rfl
theorem bL4 : rd ce2 zcs zbl au1 = T9:=by kernel_rfl
def ce1 : Tab:=("_law_leaf", T9,4) :: ce2
def al1 : Fd:={ x := "_law_nodes", st:=aw3,ps:=["_law_script", "_law_at", "_law_most", "_law_names_here"],N:=["_law_script", "_law_at", "_law_most", "_law_names_here", "_law_main", "_law_many", "_law_found", "_law_k", "_law_first", "_law_last", "_law_strength", "_law_manner", "_law_group"],own:=[6],hc:=[((213,17),[0,4,3,1])] }
theorem by2 : Bd al1:=fun _ _ _ _ _ _=>ua4 fun _ _ _ _=>rfl
theorem bt2 : al1.okB = true:=by kernel_rfl
theorem bv6 : rd ce1 zcs zbl al1 = an2:=by kernel_rfl
def ce0 : Tab:=("_law_nodes", an2,4) :: ce1
def u9 : Fd:={ x := "_law_picture", st:=ah7,ps:=["_law_script", "_law_at", "_law_most", "_law_names_here"],N:=["_law_script", "_law_at", "_law_most", "_law_names_here", "_law_wide", "_law_high"] }
theorem bc1 : Bd u9:=fun _ _ _ _ _ _=>ua4 fun _ _ _ _=>rfl
theorem aW6 : u9.okB = true:=by kernel_rfl
theorem aZ9 : rd ce0 zcs zbl u9 = Y5:=by kernel_rfl
def cd9 : Tab:=("_law_picture", Y5,4) :: ce0
def g9 : Fd:={ x := "_law_is_whole", st:=ac7,ps:=["_law_thing"],N:=["_law_thing"],old:=true }
theorem aS9 : Bd g9:=fun _ _ _ _ _ _=>ua1 fun _=>rfl
theorem aP6 : g9.okB = true:=by kernel_rfl
theorem aS0 : rd cd9 zcs zbl g9 = C2:=by kernel_rfl
def cd8 : Tab:=("_law_is_whole", C2,1) :: cd9
def i6 : Fd:={ x := "_law_is_share", st:=ac9,ps:=["_law_thing"],N:=["_law_thing"],old:=true }
theorem aT1 : Bd i6:=fun _ _ _ _ _ _=>ua1 fun _=>rfl
theorem aP8 : i6.okB = true:=by kernel_rfl
theorem aS2 : rd cd8 zcs zbl i6 = E4:=by kernel_rfl
def cd7 : Tab:=("_law_is_share", E4,1) :: cd8
def v6 : Fd:={ x := "_law_is_spot", st:=ah8,ps:=["_law_thing"],N:=["_law_thing"],old:=true,hc:=[((235,11),[0])] }
theorem bc2 : Bd v6:=fun _ _ _ _ _ _=>ua1 fun _=>rfl
theorem aW7 : v6.okB = true:=by kernel_rfl
theorem ba0 : rd cd7 zcs zbl v6 = K6:=by kernel_rfl
def cd6 : Tab:=("_law_is_spot", K6,1) :: cd7
def aB7 : Fd:={ x := "_law_odd", st:=aO4,ps:=["_law_number"],N:=["_law_number", "_law_some"],old:=true }
theorem bY2 : Bd aB7:=fun _ _ _ _ _ _=>ua1 fun _=>rfl
theorem bS8 : aB7.okB = true:=by kernel_rfl
theorem bX5 : rd cd6 zcs zbl aB7 = aC3:=by kernel_rfl
def cd5 : Tab:=("_law_odd", aC3,1) :: cd6
def ae1 : Fd:={ x := "_law_spoilt", st:=ao8,ps:=["_law_thing", "_law_number", "_law_deep"],N:=["_law_thing", "_law_number", "_law_deep", "_law_at", "_law_part"],old:=true }
theorem bk1 : Bd ae1:=fun _ _ _ _ _ _=>ua3 fun _ _ _=>rfl
theorem bf9 : ae1.okB = true:=by kernel_rfl
theorem bi0 (j : Nat) : rd (("_law_spoilt", F7 j,3) :: cd5) zcs zbl ae1 = F7 (j + 1):=by kernel_rfl
def cd4 : Tab:=("_law_spoilt", F7 12,3) :: cd5
def aB8 : Fd:={ x := "_law_all", st:=aO5,ps:=["_law_nodes_here"],N:=["_law_nodes_here", "_law_found", "_law_node"],own:=[1],fz:=[(256,[1])] }
theorem bY3 : Bd aB8:=fun _ _ _ _ _ _=>ua1 fun _=>rfl
theorem bS9 : aB8.okB = true:=by kernel_rfl
theorem bX6 (j : Nat) : rd (("_law_all", E8 j,1) :: cd4) zcs zbl aB8 = E8 (j + 1):=by kernel_rfl
def cd3 : Tab:=("_law_all", E8 12,1) :: cd4
def v8 : Fd:={ x := "_law_is_name", st:=ai0,ps:=["_law_thing"],N:=["_law_thing"],tx:=[0] }
theorem bc4 : Bd v8:=fun _ _ _ _ _ _=>ua1 fun _=>rfl
theorem aW9 : v8.okB = true:=by kernel_rfl
theorem ba2 : rd cd3 zcs zbl v8 = K7:=by kernel_rfl
def cd2 : Tab:=("_law_is_name", K7,1) :: cd3
def h9 : Fd:={ x := "_law_is_sheet", st:=ac8,ps:=["_law_thing"],N:=["_law_thing"] }
theorem aT0 : Bd h9:=fun _ _ _ _ _ _=>ua1 fun _=>rfl
theorem aP7 : h9.okB = true:=by kernel_rfl
theorem aS1 : rd cd2 zcs zbl h9 = J1:=by kernel_rfl
def cd1 : Tab:=("_law_is_sheet", J1,1) :: cd2
def i9 : Fd:={ x := "_law_has_head", st:=ad0,ps:=["_law_thing"],N:=["_law_thing", "_law_words"] }
theorem aT2 : Bd i9:=fun _ _ _ _ _ _=>ua1 fun _=>rfl
theorem aP9 : i9.okB = true:=by kernel_rfl
theorem aS3 : rd cd1 zcs zbl i9 = J2:=by kernel_rfl
def cd0 : Tab:=("_law_has_head", J2,1) :: cd1
def v7 : Fd:={ x := "_law_is_node", st:=ah9,ps:=["_law_thing", "_law_deep"],N:=["_law_thing", "_law_deep"],hc:=[((286,15),[1])] }
theorem bc3 : Bd v7:=fun _ _ _ _ _ _=>ua2 fun _ _=>rfl
theorem aW8 : v7.okB = true:=by kernel_rfl
theorem ba1 (j : Nat) : rd (("_law_is_node", C3 j,2) :: cd0) zcs zbl v7 = C3 (j + 1):=by kernel_rfl
def cc9 : Tab:=("_law_is_node", C3 12,2) :: cd0
def V8 : Fd:={ x := "_law_are_unlike", st:=m8,ps:=["_law_nodes_here"],N:=["_law_nodes_here", "_law_names_here"] }
theorem aG7 : Bd V8:=fun _ _ _ _ _ _=>ua1 fun _=>rfl
theorem aE8 : V8.okB = true:=by kernel_rfl
theorem aG0 : rd cc9 zcs zbl V8 = O7:=by kernel_rfl
def cc8 : Tab:=("_law_are_unlike", O7,1) :: cc9
def aB6 : Fd:={ x := "_law_put", st:=aO3,ps:=["_law_script", "_law_at", "_law_nodes_here", "_law_name"],N:=["_law_script", "_law_at", "_law_nodes_here", "_law_name", "_law_parents", "_law_parent", "_law_some", "_law_leaf_here"] }
theorem bY1 : Bd aB6:=fun _ _ _ _ _ _=>ua4 fun _ _ _ _=>rfl
theorem bS7 : aB6.okB = true:=by kernel_rfl
theorem bX4 : rd cc8 zcs zbl aB6 = av1:=by kernel_rfl
def cc7 : Tab:=("_law_put", av1,4) :: cc8
def au3 : Fd:={ x := "_law_deed", st:=aD9,ps:=["_law_script", "_law_at", "_law_picture_here", "_law_name"],N:=["_law_script", "_law_at", "_law_picture_here", "_law_name", "_law_nodes_here", "_law_known", "_law_node", "_law_way", "_law_parents", "_law_parent", "_law_some", "_law_manners", "_law_wide", "_law_high", "_law_spots", "_law_x", "_law_y"],hc:=[((321,33),[6])] }
theorem bN0 : Bd au3:=fun _ _ _ _ _ _=>ua4 fun _ _ _ _=>rfl
theorem bE6 : au3.okB = true:=by kernel_rfl
theorem bL6 : rd cc7 zcs zbl au3 = aj7:=by kernel_rfl
def cc6 : Tab:=("_law_deed", aj7,4) :: cc7
def v9 : Fd:={ x := "_law_is_kind", st:=ai1,ps:=["_law_word", "_law_thing"],N:=["_law_word", "_law_thing"] }
theorem bc5 : Bd v9:=fun _ _ _ _ _ _=>ua2 fun _ _=>rfl
theorem aX0 : v9.okB = true:=by kernel_rfl
theorem ba3 : rd cc6 zcs zbl v9 = S3:=by kernel_rfl
def cc5 : Tab:=("_law_is_kind", S3,2) :: cc6
def w6 : Fd:={ x := "_law_is_deed", st:=ai2,ps:=["_law_thing"],N:=["_law_thing"],hc:=[((349,11),[0])] }
theorem bc6 : Bd w6:=fun _ _ _ _ _ _=>ua1 fun _=>rfl
theorem aX1 : w6.okB = true:=by kernel_rfl
theorem ba4 : rd cc5 zcs zbl w6 = D9:=by kernel_rfl
def cc4 : Tab:=("_law_is_deed", D9,1) :: cc5
def au2 : Fd:={ x := "_law_each", st:=aD8,ps:=["_law_thing"],N:=["_law_thing", "_law_found", "_law_place"],hc:=[((369,34),[0,2])] }
theorem bM9 : Bd au2:=fun _ _ _ _ _ _=>ua1 fun _=>rfl
theorem bE5 : au2.okB = true:=by kernel_rfl
theorem bL5 (j : Nat) : rd (("_law_each", Q3 j,1) :: cc4) zcs zbl au2 = Q3 (j + 1):=by kernel_rfl
def cc3 : Tab:=("_law_each", Q3 12,1) :: cc4
def bp0 : Fd:={ x := "law", st:=bZ4,ps:=["_law_script"],N:=["_law_script", "_law_names_here", "_law_picture_here", "_law_deed_here", "_law_thing", "_law_other", "_law_one", "_law_said", "_law_known", "_law_base"] }
theorem cC4 : Bd bp0:=fun _ _ _ _ _ _=>ua1 fun _=>rfl
theorem cz5 : bp0.okB = true:=by kernel_rfl
theorem cC0 : rd cc3 zcs zbl bp0 = bq0:=by kernel_rfl
theorem cD8 {P : Program} {w : World} {K : PySem.W.Frag} {mg : Str → Option Value} (M : Md K mg zcs zbl) (h_is_whole : KF K "is_whole" ao9) (h_common_divisor : KF K "common_divisor" W6) (h_is_share : KF K "is_share" ap5) (h_is_at_most : KF K "is_at_most" ad2) (h_kind_of : KF K "kind_of" aw6) (h_is_layer : KF K "is_layer" ap7) (h_is_group : KF K "is_group" ap8) (h_is_tone : KF K "is_tone" aw7) (h_name_of : KF K "name_of" av7) (h_manner_of : KF K "manner_of" ah6) (h_rule_of : KF K "rule_of" av6) (h_strength_of : KF K "strength_of" y9) (h_is_shown : KF K "is_shown" ap3) (h_left_of : KF K "left_of" av9) (h_top_of : KF K "top_of" aD4) (h_mask_of : KF K "mask_of" av8) (h_sheet_of : KF K "sheet_of" ao7) (h_inner_nodes : KF K "inner_nodes" aa1) (h_is_spot : KF K "is_spot" aw8) (h_is_size : KF K "is_size" aw9) (h_is_sized : KF K "is_sized" ap2) (h_is_sheet : KF K "is_sheet" ap4) (h_is_name : KF K "is_name" ax1) (h_is_truth : KF K "is_truth" ap1) (h_is_offset : KF K "is_offset" ai3) (h_is_mask : KF K "is_mask" ax2) (h_is_layer_of_parts : KF K "is_layer_of_parts" T3) (h_is_group_of_nodes : KF K "is_group_of_nodes" T5) (h_has_node_form : KF K "has_node_form" Y8) (h_are_nodes : KF K "are_nodes" ai5) (h_names_among : KF K "names_among" aa0) (h_are_names_unlike : KF K "are_names_unlike" U5) (h_is_node : KF K "is_node" ax0) (h_is_number : KF K "is_number" ai4) (h_is_place : KF K "is_place" ap6) (h_is_value : KF K "is_value" ap0) (h_has_spot_form : KF K "has_spot_form" Y7) (h_has_value_form : KF K "has_value_form" W5) (h_has_put_form : KF K "has_put_form" m9) (h_is_deed : KF K "is_deed" ax3) (h_l_cell : KF K "_law_cell" aE0) (h_l_drawn : KF K "_law_drawn" aw5) (h_l_made : KF K "_law_made" aD6) (h_l_times : KF K "_law_times" aw0) (h_l_share : KF K "_law_share" aw2) (h_l_spot : KF K "_law_spot" aD5) (h_l_sheet : KF K "_law_sheet" aw1) (h_l_names : KF K "_law_names" aw4) (h_l_leaf : KF K "_law_leaf" aD7) (h_l_nodes : KF K "_law_nodes" aw3) (h_l_picture : KF K "_law_picture" ah7) (h_l_is_whole : KF K "_law_is_whole" ac7) (h_l_is_share : KF K "_law_is_share" ac9) (h_l_is_spot : KF K "_law_is_spot" ah8) (h_l_odd : KF K "_law_odd" aO4) (h_l_spoilt : KF K "_law_spoilt" ao8) (h_l_all : KF K "_law_all" aO5) (h_l_is_name : KF K "_law_is_name" ai0) (h_l_is_sheet : KF K "_law_is_sheet" ac8) (h_l_has_head : KF K "_law_has_head" ad0) (h_l_is_node : KF K "_law_is_node" ah9) (h_l_are_unlike : KF K "_law_are_unlike" m8) (h_l_put : KF K "_law_put" aO3) (h_l_deed : KF K "_law_deed" aD9) (h_l_is_deed : KF K "_law_is_deed" ai2) (h_l_is_kind : KF K "_law_is_kind" ai1) (h_l_each : KF K "_law_each" aD8) (base : Heap) : TOk P w K mg base 131 cc3:=by
 have t : TOk P w K mg base 0 tb0:=TOk.nil
 have t : TOk P w K mg base 1 tb1:=t.add M ae2 h_is_whole bk2 bg0 rfl bi1
 have t : TOk P w K mg base 2 tb2:=t.add M T0 h_common_divisor ay8 ax8 rfl ay5
 have t : TOk P w K mg base 3 tb3:=t.add M ae8 h_is_share bk8 bg6 rfl bi7
 have t : TOk P w K mg base 4 tb4:=t.add M j3 h_is_at_most aT3 aQ0 rfl aS4
 have t : TOk P w K mg base 5 tb5:=t.add M al4 h_kind_of by5 bt5 rfl bv9
 have t : TOk P w K mg base 6 tb6:=t.add M af0 h_is_layer bl0 bg8 rfl bi9
 have t : TOk P w K mg base 7 tb7:=t.add M af1 h_is_group bl1 bg9 rfl bj0
 have t : TOk P w K mg base 8 tb8:=t.add M al5 h_is_tone by6 bt6 rfl bw0
 have t : TOk P w K mg base 9 tb9:=t.add M ak5 h_name_of bx6 bs6 rfl bv0
 have t : TOk P w K mg base 10 ch7:=t.add M u8 h_manner_of bc0 aW5 rfl aZ8
 have t : TOk P w K mg base 11 ch6:=t.add M ak4 h_rule_of bx5 bs5 rfl bu9
 have t : TOk P w K mg base 12 ch5:=t.add M X1 h_strength_of aJ4 aI1 rfl aI8
 have t : TOk P w K mg base 13 ch4:=t.add M ae6 h_is_shown bk6 bg4 rfl bi5
 have t : TOk P w K mg base 14 ch3:=t.add M ak7 h_left_of bx8 bs8 rfl bv2
 have t : TOk P w K mg base 15 ch2:=t.add M at8 h_top_of bM5 bE1 rfl bL1
 have t : TOk P w K mg base 16 ch1:=t.add M ak6 h_mask_of bx7 bs7 rfl bv1
 have t : TOk P w K mg base 17 ch0:=t.add M ae0 h_sheet_of bk0 bf8 rfl bh9
 have t : TOk P w K mg base 18 cg9:=t.add M X3 h_inner_nodes aJ6 aI3 rfl aJ0
 have t : TOk P w K mg base 19 cg8:=t.add M al7 h_is_spot by7 bt7 rfl bw1
 have t : TOk P w K mg base 20 cg7:=t.add M al8 h_is_size by8 bt8 rfl bw2
 have t : TOk P w K mg base 21 cg6:=t.add M ae5 h_is_sized bk5 bg3 rfl bi4
 have t : TOk P w K mg base 22 cg5:=t.add M ae7 h_is_sheet bk7 bg5 rfl bi6
 have t : TOk P w K mg base 23 cg4:=t.add M am0 h_is_name bz0 bu0 rfl bw4
 have t : TOk P w K mg base 24 cg3:=t.add M ae4 h_is_truth bk4 bg2 rfl bi3
 have t : TOk P w K mg base 25 cg2:=t.add M w9 h_is_offset bc7 aX2 rfl ba5
 have t : TOk P w K mg base 26 cg1:=t.add M am1 h_is_mask bz1 bu1 rfl bw5
 have t : TOk P w K mg base 27 bA5:=t.add M O1 h_is_layer_of_parts ao1 an4 rfl an9
 have t : TOk P w K mg base 39 cg0:=TOk.rec3 (F1:=C9) (F2:=C6) (F3:=S6) t M O2 U4 x3 h_is_group_of_nodes h_has_node_form h_are_nodes ao2 aA8 bc9 an5 aA2 aX4 rfl rfl rfl rfl rfl rfl ao0 aA6 ba7 12
 have t : TOk P w K mg base 51 cf9:=TOk.rec (F:=D5) t M X2 h_names_among aJ5 aI2 rfl rfl aI9 12
 have t : TOk P w K mg base 52 cf8:=t.add M P7 h_are_names_unlike ar0 aq1 rfl aq7
 have t : TOk P w K mg base 53 cf7:=t.add M al9 h_is_node by9 bt9 rfl bw3
 have t : TOk P w K mg base 54 cf6:=t.add M x0 h_is_number bc8 aX3 rfl ba6
 have t : TOk P w K mg base 55 cf5:=t.add M ae9 h_is_place bk9 bg7 rfl bi8
 have t : TOk P w K mg base 56 cf4:=t.add M ae3 h_is_value bk3 bg1 rfl bi2
 have t : TOk P w K mg base 57 cf3:=t.add M U3 h_has_spot_form aA7 aA1 rfl aA5
 have t : TOk P w K mg base 58 cf2:=t.add M S9 h_has_value_form ay7 ax7 rfl ay4
 have t : TOk P w K mg base 59 cf1:=t.add M V9 h_has_put_form aG8 aE9 rfl aG1
 have t : TOk P w K mg base 60 cf0:=t.add M am2 h_is_deed bz2 bu2 rfl bw6
 have t : TOk P w K mg base 61 ce9:=t.add M au4 h_l_cell bN1 bE7 rfl bL7
 have t : TOk P w K mg base 62 ce8:=t.add M al3 h_l_drawn by4 bt4 rfl bv8
 have t : TOk P w K mg base 63 ce7:=t.add M au0 h_l_made bM7 bE3 rfl bL3
 have t : TOk P w K mg base 64 ce6:=t.add M ak8 h_l_times bx9 bs9 rfl bv3
 have t : TOk P w K mg base 65 ce5:=t.add M al0 h_l_share by1 bt1 rfl bv5
 have t : TOk P w K mg base 66 ce4:=t.add M at9 h_l_spot bM6 bE2 rfl bL2
 have t : TOk P w K mg base 67 ce3:=t.add M ak9 h_l_sheet by0 bt0 rfl bv4
 have t : TOk P w K mg base 68 ce2:=t.add M al2 h_l_names by3 bt3 rfl bv7
 have t : TOk P w K mg base 69 ce1:=t.add M au1 h_l_leaf bM8 bE4 rfl bL4
 have t : TOk P w K mg base 70 ce0:=t.add M al1 h_l_nodes by2 bt2 rfl bv6
 have t : TOk P w K mg base 71 cd9:=t.add M u9 h_l_picture bc1 aW6 rfl aZ9
 have t : TOk P w K mg base 72 cd8:=t.add M g9 h_l_is_whole aS9 aP6 rfl aS0
 have t : TOk P w K mg base 73 cd7:=t.add M i6 h_l_is_share aT1 aP8 rfl aS2
 have t : TOk P w K mg base 74 cd6:=t.add M v6 h_l_is_spot bc2 aW7 rfl ba0
 have t : TOk P w K mg base 75 cd5:=t.add M aB7 h_l_odd bY2 bS8 rfl bX5
 have t : TOk P w K mg base 87 cd4:=TOk.rec (F:=F7) t M ae1 h_l_spoilt bk1 bf9 rfl rfl bi0 12
 have t : TOk P w K mg base 99 cd3:=TOk.rec (F:=E8) t M aB8 h_l_all bY3 bS9 rfl rfl bX6 12
 have t : TOk P w K mg base 100 cd2:=t.add M v8 h_l_is_name bc4 aW9 rfl ba2
 have t : TOk P w K mg base 101 cd1:=t.add M h9 h_l_is_sheet aT0 aP7 rfl aS1
 have t : TOk P w K mg base 102 cd0:=t.add M i9 h_l_has_head aT2 aP9 rfl aS3
 have t : TOk P w K mg base 114 cc9:=TOk.rec (F:=C3) t M v7 h_l_is_node bc3 aW8 rfl rfl ba1 12
 have t : TOk P w K mg base 115 cc8:=t.add M V8 h_l_are_unlike aG7 aE8 rfl aG0
 have t : TOk P w K mg base 116 cc7:=t.add M aB6 h_l_put bY1 bS7 rfl bX4
 have t : TOk P w K mg base 117 cc6:=t.add M au3 h_l_deed bN0 bE6 rfl bL6
 have t : TOk P w K mg base 118 cc5:=t.add M v9 h_l_is_kind bc5 aX0 rfl ba3
 have t : TOk P w K mg base 119 cc4:=t.add M w6 h_l_is_deed bc6 aX1 rfl ba4
 have t : TOk P w K mg base 131 cc3:=TOk.rec (F:=Q3) t M au2 h_l_each bM9 bE5 rfl rfl bL5 12
 exact t
theorem zmd {K : PySem.W.Frag} {h : Heap} {mg : Str → Option Value} {q0 q1 : Addr} {y0 y1 : Array (Option Value)} {g0t0 g0t1 g0t2 g0t3 g0t4 g0t5 g1t0 g1t1 g1t2 g2 g3 g4 g5 : Tok} {n0 n1 : Nat} (X : K.In h) (G : h.Ns mainGlobals mg) (p0 : PySem.W.nsIn K mainGlobals "MANNERS" = some (some (.ref q0))) (r0 : K.lookup q0 = some ⟨.type "tuple", none,.seq #[.str "over" g0t0,.str "multiply" g0t1,.str "screen" g0t2,.str "plus" g0t3,.str "atop" g0t4,.str "cut" g0t5] n0,y0⟩) (p1 : PySem.W.nsIn K mainGlobals "RULES" = some (some (.ref q1))) (r1 : K.lookup q1 = some ⟨.type "tuple", none,.seq #[.str "turn" g1t0,.str "grey" g1t1,.str "round" g1t2] n1,y1⟩) (p2 : PySem.W.nsIn K mainGlobals "GREATEST" = some (some (.int 8 g2))) (p3 : PySem.W.nsIn K mainGlobals "LETTERS" = some (some (.str "abcdefghijklmnopqrstuvwxyz" g3))) (p4 : PySem.W.nsIn K mainGlobals "DEEPEST" = some (some (.int 3 g4))) (p5 : PySem.W.nsIn K mainGlobals "FARTHEST" = some (some (.int 9 g5))) (z0 : PySem.W.nsIn K mainGlobals "all" = some none) (z1 : PySem.W.nsIn K mainGlobals "bool" = some none) (z2 : PySem.W.nsIn K mainGlobals "int" = some none) (z3 : PySem.W.nsIn K mainGlobals "isinstance" = some none) (z4 : PySem.W.nsIn K mainGlobals "len" = some none) (z5 : PySem.W.nsIn K mainGlobals "list" = some none) (z6 : PySem.W.nsIn K mainGlobals "range" = some none) (z7 : PySem.W.nsIn K mainGlobals "set" = some none) (z8 : PySem.W.nsIn K mainGlobals "str" = some none) (z9 : PySem.W.nsIn K mainGlobals "tuple" = some none) : Md K mg zcs zbl:=by
 refine ⟨fun x v e=>PySem.W.mg_of X G e,fun x d e=>?_,fun x e=>?_⟩
 ·unfold zcs at e
  rw [List.lookup_cons] at e
  split at e
  ·rename_i q; cases e; simp only [beq_iff_eq] at q; subst q; exact ⟨_,(aY5 r0 rfl rfl rfl (by show 6 ≤ 1000; decide) (P5 (T8 "over" g0t0) (P5 (T8 "multiply" g0t1) (P5 (T8 "screen" g0t2) (P5 (T8 "plus" g0t3) (P5 (T8 "atop" g0t4) (P5 (T8 "cut" g0t5) aL3))))))),PySem.W.mg_of X G p0⟩
  rw [List.lookup_cons] at e
  split at e
  ·rename_i q; cases e; simp only [beq_iff_eq] at q; subst q; exact ⟨_,(aY5 r1 rfl rfl rfl (by show 3 ≤ 1000; decide) (P5 (T8 "turn" g1t0) (P5 (T8 "grey" g1t1) (P5 (T8 "round" g1t2) aL3)))),PySem.W.mg_of X G p1⟩
  rw [List.lookup_cons] at e
  split at e
  ·rename_i q; cases e; simp only [beq_iff_eq] at q; subst q; exact ⟨_,(aF3 8 g2),PySem.W.mg_of X G p2⟩
  rw [List.lookup_cons] at e
  split at e
  ·rename_i q; cases e; simp only [beq_iff_eq] at q; subst q; exact ⟨_,(T8 "abcdefghijklmnopqrstuvwxyz" g3),PySem.W.mg_of X G p3⟩
  rw [List.lookup_cons] at e
  split at e
  ·rename_i q; cases e; simp only [beq_iff_eq] at q; subst q; exact ⟨_,(aF3 3 g4),PySem.W.mg_of X G p4⟩
  rw [List.lookup_cons] at e
  split at e
  ·rename_i q; cases e; simp only [beq_iff_eq] at q; subst q; exact ⟨_,(aF3 9 g5),PySem.W.mg_of X G p5⟩
  cases e
 ·unfold zbl at e
  simp only [List.contains_cons,List.contains_nil,Bool.or_false,Bool.or_eq_true,beq_iff_eq] at e
  rcases e with e | e | e | e | e | e | e | e | e | e
  ·subst e; exact PySem.W.mg_none_of X G z0
  ·subst e; exact PySem.W.mg_none_of X G z1
  ·subst e; exact PySem.W.mg_none_of X G z2
  ·subst e; exact PySem.W.mg_none_of X G z3
  ·subst e; exact PySem.W.mg_none_of X G z4
  ·subst e; exact PySem.W.mg_none_of X G z5
  ·subst e; exact PySem.W.mg_none_of X G z6
  ·subst e; exact PySem.W.mg_none_of X G z7
  ·subst e; exact PySem.W.mg_none_of X G z8
  ·subst e; exact PySem.W.mg_none_of X G z9
structure Qs (K : PySem.W.Frag) : Prop where
 h_is_whole : KF K "is_whole" ao9
 h_common_divisor : KF K "common_divisor" W6
 h_is_share : KF K "is_share" ap5
 h_is_at_most : KF K "is_at_most" ad2
 h_kind_of : KF K "kind_of" aw6
 h_is_layer : KF K "is_layer" ap7
 h_is_group : KF K "is_group" ap8
 h_is_tone : KF K "is_tone" aw7
 h_name_of : KF K "name_of" av7
 h_manner_of : KF K "manner_of" ah6
 h_rule_of : KF K "rule_of" av6
 h_strength_of : KF K "strength_of" y9
 h_is_shown : KF K "is_shown" ap3
 h_left_of : KF K "left_of" av9
 h_top_of : KF K "top_of" aD4
 h_mask_of : KF K "mask_of" av8
 h_sheet_of : KF K "sheet_of" ao7
 h_inner_nodes : KF K "inner_nodes" aa1
 h_is_spot : KF K "is_spot" aw8
 h_is_size : KF K "is_size" aw9
 h_is_sized : KF K "is_sized" ap2
 h_is_sheet : KF K "is_sheet" ap4
 h_is_name : KF K "is_name" ax1
 h_is_truth : KF K "is_truth" ap1
 h_is_offset : KF K "is_offset" ai3
 h_is_mask : KF K "is_mask" ax2
 h_is_layer_of_parts : KF K "is_layer_of_parts" T3
 h_is_group_of_nodes : KF K "is_group_of_nodes" T5
 h_has_node_form : KF K "has_node_form" Y8
 h_are_nodes : KF K "are_nodes" ai5
 h_names_among : KF K "names_among" aa0
 h_are_names_unlike : KF K "are_names_unlike" U5
 h_is_node : KF K "is_node" ax0
 h_is_number : KF K "is_number" ai4
 h_is_place : KF K "is_place" ap6
 h_is_value : KF K "is_value" ap0
 h_has_spot_form : KF K "has_spot_form" Y7
 h_has_value_form : KF K "has_value_form" W5
 h_has_put_form : KF K "has_put_form" m9
 h_is_deed : KF K "is_deed" ax3
 h_l_cell : KF K "_law_cell" aE0
 h_l_drawn : KF K "_law_drawn" aw5
 h_l_made : KF K "_law_made" aD6
 h_l_times : KF K "_law_times" aw0
 h_l_share : KF K "_law_share" aw2
 h_l_spot : KF K "_law_spot" aD5
 h_l_sheet : KF K "_law_sheet" aw1
 h_l_names : KF K "_law_names" aw4
 h_l_leaf : KF K "_law_leaf" aD7
 h_l_nodes : KF K "_law_nodes" aw3
 h_l_picture : KF K "_law_picture" ah7
 h_l_is_whole : KF K "_law_is_whole" ac7
 h_l_is_share : KF K "_law_is_share" ac9
 h_l_is_spot : KF K "_law_is_spot" ah8
 h_l_odd : KF K "_law_odd" aO4
 h_l_spoilt : KF K "_law_spoilt" ao8
 h_l_all : KF K "_law_all" aO5
 h_l_is_name : KF K "_law_is_name" ai0
 h_l_is_sheet : KF K "_law_is_sheet" ac8
 h_l_has_head : KF K "_law_has_head" ad0
 h_l_is_node : KF K "_law_is_node" ah9
 h_l_are_unlike : KF K "_law_are_unlike" m8
 h_l_put : KF K "_law_put" aO3
 h_l_deed : KF K "_law_deed" aD9
 h_l_is_deed : KF K "_law_is_deed" ai2
 h_l_is_kind : KF K "_law_is_kind" ai1
 h_l_each : KF K "_law_each" aD8
 h_law : KF K "law" bZ4
theorem cu2 {l : PySem.W.OpenLaw} {q : Program} {loose : List Str} {XP : (Str → Option Value) → Heap → Prop} {YP : World → Heap → Prop} {d : DefRec} {K : Params → PySem.W.Frag} (hn : l.most = some 63) (hdf : d.params.defaults = [])
  (hY : ∀ (w : World) (h : Heap),YP w h → (K w.params).In h) (hd : d.name = "law")
  (F : ∀ (w : World) (mg : Str → Option Value) (h : Heap),(K w.params).In h → h.Ns mainGlobals mg → Md (K w.params) mg zcs zbl)
  (Q : ∀ w : World,Qs (K w.params))
  (M : ∀ ns : List Int,ns.length ≤ 63 → bq0 [.list (ns.map PyData.int)] = some (.bool true)) :
  PySem.W.WalkO q loose XP YP l.row.toRowW d [] (fun f vs=>PySem.call f vs) :=
 L2.bO4 (n:=63) (k:=132) (x := "_law_script") (CX:=fun _=>CX0) (sp:=fun w=>spF (K w.params) 1 bq0) hn (by decide) hdf ⟨rfl,by decide,by decide⟩ hY
  (fun w mg fa h hk hg hm=>by
   have N:=F w mg h hk hg
   have q:=Q w
   rw [hd] at hm
   obtain ⟨fd,b1,b2⟩:=bU1 N (fun base=>cD8 N q.h_is_whole q.h_common_divisor q.h_is_share q.h_is_at_most q.h_kind_of q.h_is_layer q.h_is_group q.h_is_tone q.h_name_of q.h_manner_of q.h_rule_of q.h_strength_of q.h_is_shown q.h_left_of q.h_top_of q.h_mask_of q.h_sheet_of q.h_inner_nodes q.h_is_spot q.h_is_size q.h_is_sized q.h_is_sheet q.h_is_name q.h_is_truth q.h_is_offset q.h_is_mask q.h_is_layer_of_parts q.h_is_group_of_nodes q.h_has_node_form q.h_are_nodes q.h_names_among q.h_are_names_unlike q.h_is_node q.h_is_number q.h_is_place q.h_is_value q.h_has_spot_form q.h_has_value_form q.h_has_put_form q.h_is_deed q.h_l_cell q.h_l_drawn q.h_l_made q.h_l_times q.h_l_share q.h_l_spot q.h_l_sheet q.h_l_names q.h_l_leaf q.h_l_nodes q.h_l_picture q.h_l_is_whole q.h_l_is_share q.h_l_is_spot q.h_l_odd q.h_l_spoilt q.h_l_all q.h_l_is_name q.h_l_is_sheet q.h_l_has_head q.h_l_is_node q.h_l_are_unlike q.h_l_put q.h_l_deed q.h_l_is_deed q.h_l_is_kind q.h_l_each base) bp0 q.h_law cC4 cz5 rfl cC0 hm
   exact ⟨fd,b1,fun base _ _=>b2 base⟩)
  (fun w H a ns hl _ hS=>⟨rfl,H,[.list (ns.map PyData.int)],.bool true,J0.refl _,⟨.ref a,[],rfl,⟨a,_,rfl,hS,Reps.ints ns⟩,rfl⟩,M ns hl,fun v H' Hf' g r=>r⟩) fun _ _ _ _ _ z=>z
end Lk79
def PySem.W.Fast.tw17715045574330350262 : Unit:=()
def PySem.W.Fast.tw7669782964706586947 : Unit:=()
def PySem.W.Fast.tw255983088910576167 : Unit:=()
def PySem.W.Fast.tw11955508899981520957 : Unit:=()
def PySem.W.Fast.tw6248677440731273422 : Unit:=()
def PySem.W.Fast.tw18267149543480358067 : Unit:=()
def PySem.W.Fast.tw1758521787819619602 : Unit:=()
def PySem.W.Fast.tw9061894895699668702 : Unit:=()
def PySem.W.Fast.tw18108963683032719150 : Unit:=()
def PySem.W.Fast.tw8230411453693837335 : Unit:=()
def PySem.W.Fast.tw10371283379917128649 : Unit:=()
def PySem.W.Fast.tw18422956845486711309 : Unit:=()
def PySem.W.Fast.tw7772263069841220338 : Unit:=()
def PySem.W.Fast.tw17893949226074798384 : Unit:=()
def PySem.W.Fast.tw467128576859371763 : Unit:=()
def PySem.W.Fast.tw16085258441792450251 : Unit:=()
def PySem.W.Fast.tw8558842439267496783 : Unit:=()
def PySem.W.Fast.tw5650692003139833311 : Unit:=()
def PySem.W.Fast.tw1166279355048552811 : Unit:=()
def PySem.W.Fast.tw9873348691986580652 : Unit:=()
def PySem.W.Fast.tw16868818731235409362 : Unit:=()
def PySem.W.Fast.tw13488012297385438045 : Unit:=()
def PySem.W.Fast.tw16337104354744174934 : Unit:=()
def PySem.W.Fast.tw10937545435605427714 : Unit:=()
def PySem.W.Fast.tw17261139656543226691 : Unit:=()
def PySem.W.Fast.tw17772228765256708248 : Unit:=()
def PySem.W.Fast.tw12274729094407497851 : Unit:=()
def PySem.W.Fast.tw17783885768454047158 : Unit:=()
def PySem.W.Fast.tw1102554649185758933 : Unit:=()
def PySem.W.Fast.tw11545332664042885049 : Unit:=()
def PySem.W.Fast.tw11426956669698985330 : Unit:=()
def PySem.W.Fast.tw4293461425308455703 : Unit:=()
def PySem.W.Fast.tw10209356348755583751 : Unit:=()
def PySem.W.Fast.tw8684155821880123286 : Unit:=()
def PySem.W.Fast.tw2403265861157159110 : Unit:=()
def PySem.W.Fast.tw10381270500256319978 : Unit:=()
def PySem.W.Fast.tw2057129249088631878 : Unit:=()
def PySem.W.Fast.tw18253882664224690513 : Unit:=()
def PySem.W.Fast.tw13471554173802634262 : Unit:=()
def PySem.W.Fast.tw6566416805326722962 : Unit:=()
def PySem.W.Fast.tw10499001929533793047 : Unit:=()
def PySem.W.Fast.tw11752278095853707930 : Unit:=()
def PySem.W.Fast.tw17454605672037374526 : Unit:=()
def PySem.W.Fast.tw10225436720441437334 : Unit:=()
def PySem.W.Fast.tw1984449244789371338 : Unit:=()
def PySem.W.Fast.tw13604177127063145396 : Unit:=()
def PySem.W.Fast.tw1674195489775331760 : Unit:=()
def PySem.W.Fast.tw312638570484206185 : Unit:=()
def PySem.W.Fast.tw11728991254699026733 : Unit:=()
def PySem.W.Fast.tw4240864146961561732 : Unit:=()
def PySem.W.Fast.tw12342354200015397575 : Unit:=()
def PySem.W.Fast.tw7715699294780518823 : Unit:=()
def PySem.W.Fast.tw10409275856532362020 : Unit:=()
def PySem.W.Fast.tw7808529387192577129 : Unit:=()
def PySem.W.Fast.tw9503540794137079470 : Unit:=()
def PySem.W.Fast.tw2409490535754927727 : Unit:=()
def PySem.W.Fast.tw3076949429094296415 : Unit:=()
def PySem.W.Fast.tw3505718281376909595 : Unit:=()
def PySem.W.Fast.tw17498692880983178263 : Unit:=()
def PySem.W.Fast.tw12243531655429623264 : Unit:=()
def PySem.W.Fast.tw12380673581689034809 : Unit:=()
def PySem.W.Fast.tw14315791620118941345 : Unit:=()
def PySem.W.Fast.tw6254716180203451778 : Unit:=()
def PySem.W.Fast.tw6596064308727778318 : Unit:=()
namespace Lk79
open PySem PySem.W PyProof.Rows
set_option maxHeartbeats 0 in
open_top head for PySem.Challenge.rw_glazework_k79_deeds_known
end Lk79
open PySem PySem.W PyProof.Rows
set_option maxRecDepth 100000 in
set_option maxHeartbeats 0 in
theorem PySem.Challenge.cw_glazework_k79_deeds_known_holds : PySem.Challenge.rw_glazework_k79_deeds_known.Holds := by
 refine Lk79.head ?_
 k_fill
 refine Lk79.cu2 (l:=PySem.Challenge.rw_glazework_k79_deeds_known) rfl rfl (fun w h Y=>PySem.W.kIn_of Y) rfl ?F ?Q Lk79.main
 case F =>
  intro w mg h KX G
  refine' Lk79.zmd KX G ?p0 ?r0 ?p1 ?r1 ?p2 ?p3 ?p4 ?p5 ?z0 ?z1 ?z2 ?z3 ?z4 ?z5 ?z6 ?z7 ?z8 ?z9
  (case p0=>k_is); (case r0=>k_is); (case p1=>k_is); (case r1=>k_is); (case p2=>k_is); (case p3=>k_is); (case p4=>k_is); (case p5=>k_is); (case z0=>k_is); (case z1=>k_is); (case z2=>k_is); (case z3=>k_is); (case z4=>k_is); (case z5=>k_is); (case z6=>k_is); (case z7=>k_is); (case z8=>k_is); (case z9=>k_is)
 case Q =>
  intro w
  refine ⟨?_,?_,?_,?_,?_,?_,?_,?_,?_,?_,?_,?_,?_,?_,?_,?_,?_,?_,?_,?_,?_,?_,?_,?_,?_,?_,?_,?_,?_,?_,?_,?_,?_,?_,?_,?_,?_,?_,?_,?_,?_,?_,?_,?_,?_,?_,?_,?_,?_,?_,?_,?_,?_,?_,?_,?_,?_,?_,?_,?_,?_,?_,?_,?_,?_,?_,?_,?_⟩
  all_goals (refine' G.cA3 ?a ?l ?c ?k; (case a=>k_is); (case l=>k_is); (case c=>k_is); (case k=>k_is))
