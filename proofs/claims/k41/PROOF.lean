import PyProof.Rows.All
import Wide.All
import OpenK.AllK
import Wide.FinOn
import Lean
import PyProof.EqAt
import PyProof.EqKinds
import PyProof.TupleCall
import PySem.Challenge.RW_glazework_k41_whole_needless
set_option compiler.extract_closed false
noncomputable section
set_option Elab.async false
set_option linter.all false
set_option maxRecDepth 100000
namespace L2
open PySem PySem.Spec PyProof.Rows
noncomputable abbrev Key:=Sum Int Str
noncomputable def cu9 : Key → Value → Bool
 | .inl k,v=>Value.isInt k v
 | .inr x,v=>Value.isStrOf x v
noncomputable def dc3 (w : World) : Key → Int
 | .inl k=>hashInt k
 | .inr x=>hashStr w x
theorem R1 : ∀ {k : Key} {v : Value},cu9 k v = true → (∃ i t,k = Sum.inl i ∧ v = Value.int i t) ∨ (∃ x t,k = Sum.inr x ∧ v = Value.str x t)
 | .inl i,v,h=>by
  obtain ⟨t,e⟩:=Value.isInt_shape (k:=i) (v:=v) h
  exact .inl ⟨i,t,rfl,e⟩
 | .inr x,v,h=>by
  obtain ⟨t,e⟩:=Value.isStrOf_shape (x:=x) (v:=v) h
  exact .inr ⟨x,t,rfl,e⟩
theorem cK3 (a b : Int) : decide ((Sum.inl a : Key) = Sum.inl b) = (a == b):=by
 by_cases e : a = b
 ·subst e; simp
 ·have h : ¬ (Sum.inl a : Key) = Sum.inl b:=fun q=>e (Sum.inl.inj q)
  rw [decide_eq_false h]
  exact (beq_eq_false_iff_ne.mpr e).symm
theorem cK0 (a b : Str) : decide ((Sum.inr a : Key) = Sum.inr b) = decide (a = b):=by
 by_cases e : a = b
 ·subst e; simp
 ·have h : ¬ (Sum.inr a : Key) = Sum.inr b:=fun q=>e (Sum.inr.inj q)
  rw [decide_eq_false h,decide_eq_false e]
theorem cK2 (a : Int) (b : Str) : decide ((Sum.inl a : Key) = Sum.inr b) = false:=decide_eq_false (fun q=>nomatch q)
theorem cK1 (a : Str) (b : Int) : decide ((Sum.inr a : Key) = Sum.inl b) = false:=decide_eq_false (fun q=>nomatch q)
noncomputable def bc1 (prog : Program) (w : World) : PySem.KeyKind prog w Key where
 is:=cu9
 hash:=dc3 w
 inj:=fun v a b ha hb=>by
  rcases R1 ha with ⟨i,t,rfl,rfl⟩ | ⟨x,t,rfl,rfl⟩
  ·rcases R1 hb with ⟨j,u,rfl,e⟩ | ⟨y,u,rfl,e⟩
   ·injection e with e1 _; rw [e1]
   ·exact nomatch e
  ·rcases R1 hb with ⟨j,u,rfl,e⟩ | ⟨y,u,rfl,e⟩
   ·exact nomatch e
   ·injection e with e1 _; rw [e1]
 byValue:=fun k v h=>by
  rcases R1 h with ⟨i,t,rfl,rfl⟩ | ⟨x,t,rfl,rfl⟩ <;> rfl
 pyHash:=fun hv h=>by
  rcases R1 hv with ⟨i,t,rfl,rfl⟩ | ⟨x,t,rfl,rfl⟩
  ·exact wpAny_pyHash_int h
  ·exact wpAny_pyHash_str h
 eqBool:=fun hu hv h=>by
  rcases R1 hu with ⟨i,t,rfl,rfl⟩ | ⟨x,t,rfl,rfl⟩
  ·rcases R1 hv with ⟨j,u,rfl,rfl⟩ | ⟨y,u,rfl,rfl⟩
   ·rw [cK3] at h; exact wpAny_eqBool_int h
   ·rw [cK2] at h; exact SeqAt.EqAt.int_str i t y u _ _ _ _ h
  ·rcases R1 hv with ⟨j,u,rfl,rfl⟩ | ⟨y,u,rfl,rfl⟩
   ·rw [cK1] at h; exact SeqAt.EqAt.str_int x t j u _ _ _ _ h
   ·rw [cK0] at h; exact wpAny_eqBool_str h
 «strs»:=fun k x t v h=>by
  rcases R1 h with ⟨i,u,rfl,e⟩ | ⟨y,u,rfl,e⟩
  ·exact nomatch e
  ·injection e with e1 _
   subst e1
   cases v <;> rfl
end L2
namespace L2
open PySem PySem.Spec PyProof.Rows
inductive V where
 | non | bl (b : Bool) | int (i : Int) | str (x : Str) | byt (b : Array UInt8) | flt (b : UInt64) | ref (a : Addr) | ty (n : String)
 deriving DecidableEq
noncomputable def Q6 : V → Value → Prop
 | .non,u=>u = Value.none
 | .bl b,u=>u = Value.bool b
 | .int i,u=>∃ t,u = Value.int i t
 | .str x,u=>∃ t,u = Value.str x t
 | .byt b,u=>∃ t,u = Value.bytes b t
 | .flt b,u=>∃ t,u = Value.float b t
 | .ref a,u=>u = Value.ref a
 | .ty n,u=>u = Value.type n
noncomputable abbrev K2 : List V → List Value → Prop:=Paired Q6
theorem K2.length {xs : List V} {us : List Value} (r : K2 xs us) : xs.length = us.length:=Paired.length r
theorem K2.get : ∀ {xs : List V} {us : List Value} {i : Nat} {x : V},K2 xs us → xs[i]? = some x → ∃ u,us[i]? = some u ∧ Q6 x u
 | _,_,_,_,.nil,e=>by simp at e
 | _,_,0,_,.cons r _,e=>by simp at e; subst e; exact ⟨_,rfl,r⟩
 | _,_,i + 1,x,.cons _ t,e=>by
  obtain ⟨u,h1,h2⟩:=K2.get (i:=i) (x:=x) t (by simpa using e)
  exact ⟨u,by simpa using h1,h2⟩
theorem K2.append : ∀ {xs ys : List V} {us ws : List Value},K2 xs us → K2 ys ws → K2 (xs ++ ys) (us ++ ws)
 | _,_,_,_,.nil,s=>s
 | _,_,_,_,.cons r t,s=>.cons r (K2.append t s)
theorem K2.take : ∀ {xs : List V} {us : List Value} (n : Nat),K2 xs us → K2 (xs.take n) (us.take n)
 | _,_,0,_=>.nil
 | _,_,_ + 1,.nil=>.nil
 | _,_,n + 1,.cons r t=>.cons r (K2.take n t)
theorem K2.drop : ∀ {xs : List V} {us : List Value} (n : Nat),K2 xs us → K2 (xs.drop n) (us.drop n)
 | _,_,0,r=>r
 | _,_,_ + 1,.nil=>.nil
 | _,_,n + 1,.cons _ t=>K2.drop n t
noncomputable def cZ5 : Option V → Option Value → Prop
 | some v,some u=>Q6 v u
 | none,none=>True
 | _,_=>False
noncomputable def KV {κ : Type} : List (κ × V) → List (κ × Value) → Prop:=Paired fun (p : κ × V) (q : κ × Value)=>p.1 = q.1 ∧ Q6 p.2 q.2
noncomputable def kV : Key → V
 | .inl i=>.int i
 | .inr x=>.str x
inductive HO where
 /-- a list -/
 | lst (xs : List V)
 /-- a tuple (never changes) -/
 | tup (xs : List V)
 /-- a dict whose keys are ints and texts; one whose keys are tuples of ints and texts (the empty one is both) -/
 | dK (kvs : List (Key × V)) | dT (kvs : List (List Key × V))
 /-- a set of ints: its members,its size -/
 | set (S : Int → Bool) (n : Nat)
 /-- an instance of the class at C,its dict at dx,its attributes -/
 | ins (C dx : Addr) (fs : List (Str × V))
 /-- the dict of the instance at x -/
 | own (x : Addr)
 /-- the dict of an exception -/
 | xd (fs : List (Str × V))
 /-- a bound method,f of x -/
 | met (f x : Addr)
 /-- a range object lo,lo + 1,.. below hi -/
 | rng (lo hi : Int)
 /-- a thing that is known to the object (the script; a dict while a loop walks it): read,never written while it is so -/
 | frz (o : Obj) (u : HO)
 /-- a code object's table -/
 | tbl (ps : Array Value)
 /-- any other thing,by what is true of its one object (a def of one's own: SetO a S n:=HO.ext fun h=>..) -/
 | ext (φ : Heap → Prop)
noncomputable abbrev Hp:=Addr → Option HO
noncomputable def upd (H : Hp) (a : Addr) (o : HO) : Hp:=fun b=>if b = a then some o else H b
theorem C6 {H : Hp} {a : Addr} {o : HO} : upd H a o a = some o:=by unfold upd; rw [if_pos rfl]
theorem C7 {H : Hp} {a b : Addr} {o : HO} (h : b ≠ a) : upd H a o b = H b:=by unfold upd; rw [if_neg h]
theorem C9 {H : Hp} {a b : Addr} {o : HO} (h : H a = some o) (h' : H b = none) : a ≠ b:=by
 intro e; subst e; rw [h] at h'; cases h'
section
variable (P : Program) (w : World)
noncomputable def aa8 (H : Hp) (h : Heap) (a : Addr) : HO → Prop
 | .lst xs=>xs.length ≤ sizeLine ∧ ∃ (its : List Value) (n : Nat),K2 xs its ∧ h.get? a = some { cls:=.type "list", data:=.seq its.toArray n }
 | .tup xs=>xs.length ≤ sizeLine ∧ ∃ its : List Value,K2 xs its ∧ IsTup h a its.toArray
 | .dK kvs=>kvs.length ≤ sizeLine ∧ (a == sysModules) = false ∧ ∃ vs,KV kvs vs ∧ h.DictOf (bc1 P w) a vs
 | .dT kvs=>kvs.length ≤ sizeLine ∧ (a == sysModules) = false ∧ ∃ xs : List (List Key × Addr × Value),
   Paired (fun (p : List Key × V) (q : List Key × Addr × Value)=>p.1 = q.1 ∧ H q.2.1 = some (.tup (p.1.map kV)) ∧ Q6 p.2 q.2.2) kvs xs ∧
   ∃ o es ep,h.get? a = some o ∧ o.ExactDict ∧ o.data = .dict es ep ∧ es.toList = xs.map (entryOfKey (tupleKind (bc1 P w))) ∧ (xs.map (·.1)).Nodup
 | .set S n=>h.SetOf (intKind P w) a S n
 | .ins C dx fs=>H dx = some (.own a) ∧ fs.length ≤ 1000 ∧ dx ≠ a ∧ h.get? a = some (PySem.W.instObj C dx) ∧
   ∃ mA,h.Ns1 dx mA ∧ (∀ f,cZ5 (fs.lookup f) (mA f)) ∧ PySem.Within mA (fs.map (·.1))
 | .own _=>∃ o,h.get? a = some o
 | .xd fs=>∃ mA,h.Ns1 a mA ∧ ∀ f,cZ5 (fs.lookup f) (mA f)
 | .rng lo hi=>∃ t u v,h.get? a = some { cls:=.type "range", data:=.fields #[.int lo t,.int hi u,.int 1 v] }
 | .frz o u=>h.get? a = some o ∧ aa8 H h a u
 | .tbl ps=>h.get? a = some { cls:=.none,data:=.fields ps }
 | .met f x=>h.get? a = some (PySem.W.methodObj (.ref f) (.ref x))
 | .ext φ=>φ h ∧ (∃ o,h.get? a = some o) ∧ ∀ h1 h2 : Heap,φ h1 → (∀ o,h1.get? a = some o → h2.get? a = some o) → φ h2
noncomputable def HOk (H : Hp) (h : Heap) : Prop:=∀ a o,H a = some o → aa8 P w H h a o
end
section
variable {P : Program} {w : World} {H H' : Hp} {h h' : Heap} {a : Addr} {o : HO}
theorem aa8.lt (x : aa8 P w H h a o) : a < h.objs.size:=by
 cases o with
 | lst xs=>obtain ⟨_,_,_,_,e⟩:=x; exact Heap.lt_size e
 | tup xs=>obtain ⟨_,_,_,p⟩:=x; exact p.lt
 | dK kvs=>obtain ⟨_,_,_,_,o,_,_,e,_⟩:=x; exact Heap.lt_size e
 | dT kvs=>obtain ⟨_,_,_,_,o,_,_,e,_⟩:=x; exact Heap.lt_size e
 | set S n=>obtain ⟨o,_,_,_,e,_⟩:=x; exact Heap.lt_size e
 | ins C dx fs=>obtain ⟨_,_,_,e,_⟩:=x; exact Heap.lt_size e
 | own y=>obtain ⟨_,e⟩:=x; exact Heap.lt_size e
 | xd fs=>obtain ⟨_,⟨_,_,_,e,_⟩,_⟩:=x; exact Heap.lt_size e
 | rng lo hi=>obtain ⟨_,_,_,e⟩:=x; exact Heap.lt_size e
 | frz ob u=>obtain ⟨e,_⟩:=x; exact Heap.lt_size e
 | tbl ps=>exact Heap.lt_size (show h.get? a = some _ from x)
 | met f y=>exact Heap.lt_size (show h.get? a = some _ from x)
 | ext φ=>obtain ⟨_,⟨_,e⟩,_⟩:=x; exact Heap.lt_size e
theorem Paired.mapP {α β : Type} {F G : α → β → Prop} : ∀ {l₁ : List α} {l₂ : List β},Paired F l₁ l₂ → (∀ a b,F a b → G a b) → Paired G l₁ l₂
 | _,_,.nil,_=>.nil
 | _,_,.cons r t,f=>.cons (f _ _ r) (Paired.mapP t f)
theorem aa8.stay (x : aa8 P w H h a o) (k : ∀ b u,(b = a ∨ H b = some (.own a)) → h.get? b = some u → h'.get? b = some u)
  (ho : ∀ b,H b = some (.own a) → H' b = some (.own a)) (ht : ∀ b xs,H b = some (.tup xs) → H' b = some (.tup xs)) : aa8 P w H' h' a o:=by
 induction o with
 | lst xs=>obtain ⟨z,its,n,r,e⟩:=x; exact ⟨z,its,n,r,k _ _ (.inl rfl) e⟩
 | tup xs=>obtain ⟨z,its,r,ob,e,c⟩:=x; exact ⟨z,its,r,ob,k _ _ (.inl rfl) e,c⟩
 | dK kvs=>obtain ⟨z,y,vs,r,ob,es,ep,e,c⟩:=x; exact ⟨z,y,vs,r,ob,es,ep,k _ _ (.inl rfl) e,c⟩
 | dT kvs =>
  obtain ⟨z,y,xs,r,ob,es,ep,e,c⟩:=x
  exact ⟨z,y,xs,Paired.mapP r fun p q z=>⟨z.1,ht _ _ z.2.1,z.2.2⟩,ob,es,ep,k _ _ (.inl rfl) e,c⟩
 | set S n=>obtain ⟨ob,es,ep,t,e,c⟩:=x; exact ⟨ob,es,ep,t,k _ _ (.inl rfl) e,c⟩
 | ins C dx fs =>
  obtain ⟨d,z,ne,e,mA,⟨od,es,ep,e2,c⟩,r⟩:=x
  exact ⟨ho _ d,z,ne,k _ _ (.inl rfl) e,mA,⟨od,es,ep,k _ _ (.inr d) e2,c⟩,r⟩
 | own y=>obtain ⟨ob,e⟩:=x; exact ⟨ob,k _ _ (.inl rfl) e⟩
 | xd fs=>obtain ⟨mA,⟨od,es,ep,e,c⟩,r⟩:=x; exact ⟨mA,⟨od,es,ep,k _ _ (.inl rfl) e,c⟩,r⟩
 | rng lo hi=>obtain ⟨t,u,v,e⟩:=x; exact ⟨t,u,v,k _ _ (.inl rfl) e⟩
 | frz ob u ih=>obtain ⟨e,q⟩:=x; exact ⟨k _ _ (.inl rfl) e,ih q⟩
 | tbl ps =>
  have e : h.get? a = some { cls:=.none,data:=.fields ps }:=x
  show h'.get? a = some { cls:=.none,data:=.fields ps }
  exact k a _ (.inl rfl) e
 | met f y =>
  have e : h.get? a = some (PySem.W.methodObj (.ref f) (.ref y)):=x
  show h'.get? a = some (PySem.W.methodObj (.ref f) (.ref y))
  exact k a _ (.inl rfl) e
 | ext φ=>obtain ⟨p,⟨o,e⟩,st⟩:=x; exact ⟨st _ _ p fun o q=>k _ _ (.inl rfl) q,⟨o,k _ _ (.inl rfl) e⟩,st⟩
theorem HOk.lt (x : HOk P w H h) (e : H a = some o) : a < h.objs.size:=(x a o e).lt
theorem HOk.fresh (x : HOk P w H h) (e : h.objs.size ≤ a) : H a = none:=by
 cases q : H a with
 | none=>rfl
 | some u=>exact absurd (Nat.lt_of_lt_of_le (x.lt q) e) (Nat.lt_irrefl _)
theorem HOk.kept (x : HOk P w H h) (k : ∀ b u,h.get? b = some u → h'.get? b = some u) : HOk P w H h':=fun a o e =>
 (x a o e).stay (fun b u _ q=>k b u q) (fun _ q=>q) fun _ _ q=>q
theorem HOk.laid (x : HOk P w H h) (k : ∀ b u,h.get? b = some u → h'.get? b = some u) (hp : h.objs.size ≤ a) (new : aa8 P w (upd H a o) h' a o) : HOk P w (upd H a o) h':=fun b u e=>by
 have hn:=x.fresh hp
 by_cases hb : b = a
 ·subst hb; rw [C6] at e; cases e; exact new
 ·rw [C7 hb] at e
  exact (x b u e).stay (fun c v _ q=>k c v q) (fun c q=>by rw [C7 (C9 q hn)]; exact q) fun c xs q=>by rw [C7 (C9 q hn)]; exact q
end
noncomputable def Rd (H : Hp) (a : Addr) (u : HO) : Prop:=H a = some u ∨ ∃ o,H a = some (.frz o u)
theorem Rd.ok {P : Program} {w : World} {H : Hp} {h : Heap} {a : Addr} {u : HO} (r : Rd H a u) (x : HOk P w H h) : aa8 P w H h a u:=by
 rcases r with r | ⟨o,r⟩
 ·exact x a u r
 ·obtain ⟨_,q⟩:=x a _ r
  exact q
noncomputable def Mut : Option HO → Prop
 | some (.lst _)=>True
 | some (.dK _)=>True
 | some (.dT _)=>True
 | some (.set _ _)=>True
 | some (.ins _ _ _)=>True
 | some (.ext _)=>True
 | _=>False
section
variable {P : Program} {w : World} {H : Hp} {h h' : Heap} {x e : Addr} {o' : HO}
theorem HOk.write (ok : HOk P w H h) (mu : Mut (H x)) (he : e = x ∨ H e = some (.own x)) (k : ∀ b u,b ≠ e → h.get? b = some u → h'.get? b = some u) (heo : ∃ u,h'.get? e = some u)
  (new : aa8 P w (upd H x o') h' x o') : HOk P w (upd H x o') h':=fun b u q=>by
 have nown : ∀ c y,H c = some (.own y) → c ≠ x:=fun c y r z=>by subst z; rw [r] at mu; exact mu
 have ntup : ∀ c xs,H c = some (.tup xs) → c ≠ x:=fun c xs r z=>by subst z; rw [r] at mu; exact mu
 by_cases hb : b = x
 ·subst hb; rw [C6] at q; cases q; exact new
 ·rw [C7 hb] at q
  by_cases hbe : b = e
  ·have q' : H b = some (.own x):=by
    rcases he with z | z
    ·exact absurd (hbe.trans z) hb
    ·rw [hbe]; exact z
   rw [q] at q'; cases q'
   obtain ⟨v,hv⟩:=heo
   exact ⟨v,by rw [hbe]; exact hv⟩
  ·refine (ok b u q).stay (fun c v hc r=>k c v ?_ r) (fun c r=>by rw [C7 (nown c b r)]; exact r) fun c xs r=>by rw [C7 (ntup c xs r)]; exact r
   rcases hc with rfl | hc
   ·exact hbe
   ·rintro rfl
    rcases he with z | z
    ·exact nown c b hc z
    ·rw [hc] at z; cases z; exact hb rfl
end
structure Un (fs ex : List Addr) (H H' : Hp) (h h' : Heap) : Prop where
 keep : ∀ b o,h.get? b = some o → H b = none → b ∉ fs → b ∉ ex → h'.get? b = some o
 slot : ∀ b o,h.get? b = some o → H b = none → b ∈ fs → b ∉ ex → ∃ sl,h'.get? b = some { o with slots:=sl }
 free : ∀ b o,h.get? b = some o → H b = none → b ∉ ex → H' b = none
 there : ∀ b o,h.get? b = some o → b ∉ ex → ∃ o',h'.get? b = some o'
 tups : ∀ b xs,H b = some (.tup xs) → H' b = some (.tup xs)
 frzs : ∀ b o u,H b = some (.frz o u) → H' b = some (.frz o u)
 tbls : ∀ b ps,H b = some (.tbl ps) → ∃ more,H' b = some (.tbl (ps ++ more))
section
variable {fs fs' ex ex' : List Addr} {H H1 H2 : Hp} {h h1 h2 h' : Heap} {a x e : Addr} {o : HO}
theorem Un.any (u : Un fs ex H H1 h h1) {b : Addr} {ob : Obj} (q : h.get? b = some ob) (n : H b = none) (hx : b ∉ ex) : ∃ sl,h1.get? b = some { ob with slots:=sl }:=by
 by_cases hb : b ∈ fs
 ·exact u.slot b ob q n hb hx
 ·exact ⟨ob.slots,u.keep b ob q n hb hx⟩
theorem Un.kept (k : ∀ b u,h.get? b = some u → h'.get? b = some u) : Un fs ex H H h h' :=
 ⟨fun b ob q _ _ _=>k b ob q,fun b ob q _ _ _=>⟨ob.slots,k b ob q⟩,fun _ _ _ n _=>n,fun b ob q _=>⟨ob,k b ob q⟩,fun _ _ q=>q,fun _ _ _ q=>q,fun _ ps q=>⟨#[],by rw [q]; simp⟩⟩
theorem Un.refl : Un fs ex H H h h:=Un.kept fun _ _ q=>q
theorem Un.laid (k : ∀ b u,h.get? b = some u → h'.get? b = some u) (hp : h.objs.size ≤ a) (hn : H a = none) : Un fs ex H (upd H a o) h h' where
 keep:=fun b u q _ _ _=>k b u q
 slot:=fun b u q _ _ _=>⟨u.slots,k b u q⟩
 free:=fun b u q n _=>by rw [C7 (Nat.ne_of_lt (Nat.lt_of_lt_of_le (Heap.lt_size q) hp))]; exact n
 there:=fun b u q _=>⟨u,k b u q⟩
 tups:=fun b xs q=>by rw [C7 (C9 q hn)]; exact q
 frzs:=fun b u xs q=>by rw [C7 (C9 q hn)]; exact q
 tbls:=fun b ps q=>⟨#[],by rw [C7 (C9 q hn),q]; simp⟩
theorem Un.write (mu : Mut (H x)) (he : e = x ∨ H e = some (.own x)) (k : ∀ b u,b ≠ e → h.get? b = some u → h'.get? b = some u) (heo : ∃ u,h'.get? e = some u) : Un fs ex H (upd H x o) h h':=by
 have hx : ∀ b,H b = none → b ≠ x:=fun b n z=>by subst z; rw [n] at mu; exact mu
 have hb : ∀ b,H b = none → b ≠ e:=fun b n z=>by
  subst z
  rcases he with r | r
  ·exact hx b n r
  ·rw [n] at r; cases r
 have hm : ∀ b u,H b = some u → ¬ Mut (some u) → b ≠ x:=fun b u q nm z=>by subst z; rw [q] at mu; exact nm mu
 refine ⟨fun b u q n _ _=>k b u (hb b n) q,fun b u q n _ _=>⟨u.slots,k b u (hb b n) q⟩,fun b u q n _=>by rw [C7 (hx b n)]; exact n,fun b u q _=>?_,
  fun b xs q=>by rw [C7 (hm b _ q fun z=>z)]; exact q,fun b u xs q=>by rw [C7 (hm b _ q fun z=>z)]; exact q,fun b ps q=>⟨#[],by rw [C7 (hm b _ q fun z=>z),q]; simp⟩⟩
 by_cases hbe : b = e
 ·subst hbe; exact heo
 ·exact ⟨u,k b u hbe q⟩
end
noncomputable def trk (h : Heap) (H : Hp) : List Addr:=(List.range h.objs.size).filter fun a=>(H a).isSome
noncomputable def bd1 (h : Heap) (H : Hp) : Heap:=PySem.W.hideAll h (trk h H)
theorem bL2 (h : Heap) (H : Hp) : (bd1 h H).objs.size = h.objs.size:=PySem.W.hideAll_size _ _
theorem cc7 {h : Heap} {H : Hp} {b : Addr} {o : Obj} (e : h.get? b = some o) (n : H b = none) : (bd1 h H).get? b = some o :=
 PySem.W.hideAll_get _ e fun hm=>by
  have q : (H b).isSome = true:=(List.mem_filter.mp hm).2
  rw [n] at q; simp at q
theorem cm3 {h : Heap} {H : Hp} {b : Addr} {o : Obj} (e : (bd1 h H).get? b = some o) : h.get? b = some o ∧ H b = none:=by
 have e' : h.get? b = some o:=PySem.W.of_hideAll (trk h H) e
 refine ⟨e',?_⟩
 cases q : H b with
 | none=>rfl
 | some x =>
  have hm : b ∈ trk h H:=List.mem_filter.mpr ⟨List.mem_range.mpr (Heap.lt_size e'),by simp [q]⟩
  have z : (bd1 h H).get? b = none:=PySem.W.hideAll_none (trk h H) hm
  rw [z] at e; cases e
noncomputable def ct4 (g h : Heap) (L : Addr) : List (Addr × Obj):=(List.range h.objs.size).filterMap fun a=>if a = L ∨ (g.get? a).isSome = true then none else (h.get? a).map fun o=>(a,o)
noncomputable def Y9 (g h : Heap) (L d : Addr) : List (Addr × Obj):=(ct4 g h L).filter fun p=>decide (p.1 ≠ d)
end L2
namespace L2
open PySem PySem.Spec PyProof.Rows
structure Mod (K : PySem.W.Frag) (mg : Str → Option Value) (base : Heap) : Prop where
 kin : K.In base
 glob : base.Ns mainGlobals mg
 blt : ∃ mb,base.Ns builtinsNs mb ∧ ∀ x : Str,x ≠ "__name__" → mb x = bootBuiltins x
 nolimit : base.NoLimit
structure Cx where
 prog : Program
 w : World
 K : PySem.W.Frag
 mg : Str → Option Value
 base : Heap
 A : Around
 N : List Str
 s₀ : Shared
 H₀ : Hp
 env : Env
 outer : List Env
 stack : List Env
 ex : List Addr
 fn : Str → Bool
 calm : Bool
 pn : List (Addr × Obj)
 xe : Value → Shared → Prop
noncomputable def frs (l : List Env) : List Addr:=l.filterMap (·.frame)
noncomputable abbrev Cx.fs (X : Cx) : List Addr:=frs X.outer
noncomputable def Vis (sc : Scope) (x : Str) : Prop:=sc.names.lookup x = some .local ∨ sc.names.lookup x = some .cell ∨ sc.names.lookup x = some .free
noncomputable def Loc (sc : Scope) (x : Str) : Prop:=sc.names.lookup x = some .local ∨ sc.names.lookup x = some .cell
noncomputable def dd7 (env : Env) (h : Heap) (m : Str → Option Value) (x : Str) (u : Value) : Prop :=
 (env.kindOf x = some .local ∧ m x = some u) ∨ ((env.kindOf x = some .cell ∨ env.kindOf x = some .free) ∧ ∃ c,env.cells.lookup x = some c ∧ h.IsCell c (some u))
structure Cx.Ok (X : Cx) : Prop where
 mod : Mod X.K X.mg X.base
 kind : X.env.scope.kind = .function
 glob : X.env.globals = mainGlobals
 blt : X.env.builtins = builtinsNs
 above : X.s₀.heap.objs.size ≤ X.env.locals
 inj : ∀ x y c,X.env.cells.lookup x = some c → X.env.cells.lookup y = some c → x = y
 has : ∀ x,(X.env.kindOf x = some .cell ∨ X.env.kindOf x = some .free) → ∃ c,X.env.cells.lookup x = some c
 cab : ∀ x c,X.fn x = true → X.env.cells.lookup x = some c → X.s₀.heap.objs.size ≤ c
 hd : X.calm = true → X.A.handled = none
 frames : X.A.frames = some X.stack
 stk : X.stack = X.outer ∨ (X.stack = X.env :: X.outer ∧ X.env.frame = some X.env.locals)
 exf : ∀ b ∈ X.ex,b ≠ X.env.locals ∧ ∀ x c,X.env.cells.lookup x = some c → c ≠ b
 bs : ∀ b o,X.base.get? b = some o → X.s₀.heap.get? b = some o ∧ X.H₀ b = none
 bsz : X.base.objs.size ≤ X.s₀.heap.objs.size
 noex : ∀ b o,X.base.get? b = some o → b ∉ X.ex
 exfs : ∀ b ∈ X.ex,b ∉ X.fs
 funs : X.s₀.heap.FunFrames X.base X.outer
 frf : ∀ b ∈ X.fs,X.H₀ b = none
structure Inv (X : Cx) (pins : List (Addr × Obj)) (σ : List (Option V)) (H : Hp) (s : Shared) : Prop where
 ok : X.Ok
 os : s.os = X.s₀.os
 bare : AllBare s.gens
 base : Un X.fs X.ex X.H₀ H X.s₀.heap s.heap
 loc : ∃ m,s.heap.Ns X.env.locals m ∧ ∀ (i : Nat) (x : Str) (v : V),X.N[i]? = some x → σ[i]? = some (some v) → Vis X.env.scope x → ∃ u,Q6 v u ∧ dd7 X.env s.heap m x u
 cell : ∀ x c,X.env.cells.lookup x = some c → ∃ v,s.heap.IsCell c v
 free : H X.env.locals = none
 freeC : ∀ x c,X.env.cells.lookup x = some c → H c = none
 pin : ∀ p ∈ X.pn ++ pins,s.heap.get? p.1 = some p.2 ∧ H p.1 = none ∧ p.1 ≠ X.env.locals ∧ p.1 ∉ X.fs ∧ ∀ v,p.2.data ≠ .cell v
 hok : HOk X.prog X.w H s.heap
 len : σ.length = X.N.length
section
variable {X : Cx} {pins : List (Addr × Obj)} {σ : List (Option V)} {H H' : Hp} {s : Shared} {h' : Heap}
theorem Cx.Ok.nofr (ok : X.Ok) {b : Addr} {o : Obj} (e : X.base.get? b = some o) : b ∉ X.fs:=fun hb=>by
 have:=(ok.funs.mem hb).1
 rw [e] at this; cases this
theorem Inv.bs (I : Inv X pins σ H s) : ∀ b o,X.base.get? b = some o → s.heap.get? b = some o ∧ H b = none:=fun b o e =>
 ⟨I.base.keep b o (I.ok.bs b o e).1 (I.ok.bs b o e).2 (I.ok.nofr e) (I.ok.noex b o e),I.base.free b o (I.ok.bs b o e).1 (I.ok.bs b o e).2 (I.ok.noex b o e)⟩
theorem Inv.bk (I : Inv X pins σ H s) : ∀ b o,X.base.get? b = some o → s.heap.get? b = some o:=fun b o e=>(I.bs b o e).1
theorem Inv.mod (I : Inv X pins σ H s) : Mod X.K X.mg X.base:=I.ok.mod
theorem Inv.kIn (I : Inv X pins σ H s) : X.K.In s.heap:=I.ok.mod.kin.keeps I.bk
theorem Inv.lt (I : Inv X pins σ H s) : X.env.locals < s.heap.objs.size:=let ⟨_,hn,_⟩:=I.loc; hn.lt
theorem Inv.sz (I : Inv X pins σ H s) : X.s₀.heap.objs.size ≤ s.heap.objs.size:=Nat.le_trans I.ok.above (Nat.le_of_lt I.lt)
theorem Inv.nofs (I : Inv X pins σ H s) {a : Addr} (h : s.heap.objs.size ≤ a) : a ∉ X.fs:=fun hb=>by
 obtain ⟨_,o,ho,_⟩:=I.ok.funs.mem hb
 exact absurd (Nat.lt_of_lt_of_le (Heap.lt_size ho) (Nat.le_trans I.sz h)) (Nat.lt_irrefl _)
theorem Inv.cne (I : Inv X pins σ H s) : ∀ x c,X.env.cells.lookup x = some c → c ≠ X.env.locals:=fun x c e z=>by
 obtain ⟨v,o,ho,hd⟩:=I.cell x c e
 obtain ⟨m,⟨o',es,ep,ho',hd',_⟩,_⟩:=I.loc
 rw [z,ho'] at ho; cases ho; rw [hd'] at hd; cases hd
theorem Inv.funs (I : Inv X pins σ H s) : s.heap.FunFrames X.base X.outer:=by
 have all : ∀ (l : List Env),(∀ b ∈ frs l,b ∈ X.fs) → X.s₀.heap.FunFrames X.base l → s.heap.FunFrames X.base l:=by
  intro l
  induction l with
  | nil=>intro _ _; trivial
  | cons env r ih =>
   intro hs hl
   obtain ⟨hk,⟨L,o,hf,hn,ho,hd⟩,hr⟩:=hl
   have hL : L ∈ X.fs:=hs L (by unfold frs; rw [List.filterMap_cons,hf]; exact List.mem_cons_self)
   obtain ⟨sl,e⟩:=I.base.slot L o ho (I.ok.frf L hL) hL fun z=>I.ok.exfs L z hL
   exact ⟨hk,⟨L,_,hf,hn,e,hd⟩,ih (fun b hb=>hs b (by unfold frs; rw [List.filterMap_cons,hf]; exact List.mem_cons_of_mem _ hb)) hr⟩
 exact all X.outer (fun _ hb=>hb) I.ok.funs
theorem Inv.stack (I : Inv X pins σ H s) : s.heap.FunFrames X.base X.stack:=by
 rcases I.ok.stk with e | ⟨e,hf⟩
 ·rw [e]; exact I.funs
 ·rw [e]
  obtain ⟨m,hn,_⟩:=I.loc
  refine .cons (by rw [I.ok.kind]; decide) hf hn ?_ I.funs
  exact Heap.get?_none_of_le (Nat.le_trans I.ok.bsz I.ok.above)
theorem Inv.stkSub (I : Inv X pins σ H s) : ∀ b ∈ frs X.stack,b ∈ X.env.locals :: X.fs:=fun b hb=>by
 rcases I.ok.stk with e | ⟨e,hf⟩
 ·rw [e] at hb; exact List.mem_cons_of_mem _ hb
 ·rw [e] at hb
  unfold frs at hb
  rw [List.filterMap_cons,hf] at hb
  exact hb
theorem Inv.stkFree (I : Inv X pins σ H s) : ∀ b ∈ frs X.stack,H b = none:=fun b hb=>by
 rcases List.mem_cons.mp (I.stkSub b hb) with e | hb
 ·rw [e]; exact I.free
 ·obtain ⟨_,o,ho,_⟩:=I.ok.funs.mem hb
  exact I.base.free b o ho (I.ok.frf b hb) fun z=>I.ok.exfs b z hb
theorem Inv.step {g' : Array GenState} {t' : Nat} {d' : Drawn} {ch : List Addr} (I : Inv X pins σ H s)
  (hch : ∀ b ∈ ch,(b ∈ X.ex ∨ X.s₀.heap.objs.size ≤ b) ∧ b ≠ X.env.locals ∧ (∀ x c,X.env.cells.lookup x = some c → c ≠ b) ∧ ∀ p ∈ X.pn ++ pins,p.1 ≠ b)
  (keep : ∀ b o,b ≠ X.env.locals → b ∉ X.fs → b ∉ ch → s.heap.get? b = some o → H b = none → h'.get? b = some o)
  (slot : ∀ b o,b ≠ X.env.locals → b ∈ X.fs → b ∉ ch → s.heap.get? b = some o → H b = none → ∃ sl,h'.get? b = some { o with slots:=sl }) (free : ∀ b o,b ∉ ch → s.heap.get? b = some o → H b = none → H' b = none)
  (there : ∀ b o,b ∉ ch → s.heap.get? b = some o → ∃ o',h'.get? b = some o')
  (tups : ∀ b xs,H b = some (.tup xs) → H' b = some (.tup xs)) (frzs : ∀ b o u,H b = some (.frz o u) → H' b = some (.frz o u)) (tbls : ∀ b ps,H b = some (.tbl ps) → ∃ more,H' b = some (.tbl (ps ++ more)))
  (ns : ∀ m,s.heap.Ns X.env.locals m → h'.Ns X.env.locals m) (hok : HOk X.prog X.w H' h') (hg : AllBare g') :
  Inv X pins σ H' { s with heap:=h',gens:=g',drawn:=d',toks:=t' }:=by
 have neL : ∀ b o,X.s₀.heap.get? b = some o → b ≠ X.env.locals:=fun b o e=>Nat.ne_of_lt (Nat.lt_of_lt_of_le (Heap.lt_size e) I.ok.above)
 have neC : ∀ b o,X.s₀.heap.get? b = some o → b ∉ X.ex → b ∉ ch:=fun b o e hx hb=>by
  rcases (hch b hb).1 with z | z
  ·exact hx z
  ·exact absurd (Nat.lt_of_lt_of_le (Heap.lt_size e) z) (Nat.lt_irrefl _)
 have cellK : ∀ x c,X.env.cells.lookup x = some c → ∀ v,s.heap.IsCell c v → h'.IsCell c v:=fun x c e v ⟨o,ho,hd⟩=>by
  have nch : c ∉ ch:=fun z=>(hch c z).2.2.1 x c e rfl
  by_cases hc : c ∈ X.fs
  ·obtain ⟨sl,q⟩:=slot c o (I.cne x c e) hc nch ho (I.freeC x c e)
   exact ⟨_,q,hd⟩
  ·exact ⟨o,keep c o (I.cne x c e) hc nch ho (I.freeC x c e),hd⟩
 refine ⟨I.ok,I.os,hg,⟨fun b o e n hb hx=>?_,fun b o e n hb hx=>?_,fun b o e n hx=>?_,fun b o e hx=>?_,fun b xs e=>tups b xs (I.base.tups b xs e),fun b o xs e=>frzs b o xs (I.base.frzs b o xs e),fun b ps e=>?_⟩,?_,fun x c e=>?_,?_,fun x c e=>?_,fun p hp=>?_,hok,I.len⟩
 ·exact keep b o (neL b o e) hb (neC b o e hx) (I.base.keep b o e n hb hx) (I.base.free b o e n hx)
 ·obtain ⟨sl,e1⟩:=I.base.slot b o e n hb hx
  obtain ⟨sl',e2⟩:=slot b _ (neL b o e) hb (neC b o e hx) e1 (I.base.free b o e n hx)
  exact ⟨sl',e2⟩
 ·obtain ⟨o',e1⟩:=I.base.there b o e hx
  exact free b o' (neC b o e hx) e1 (I.base.free b o e n hx)
 ·obtain ⟨o',e1⟩:=I.base.there b o e hx
  exact there b o' (neC b o e hx) e1
 ·obtain ⟨m1,e1⟩:=I.base.tbls b ps e
  obtain ⟨m2,e2⟩:=tbls b _ e1
  exact ⟨m1 ++ m2,by rw [e2,Array.append_assoc]⟩
 ·obtain ⟨m,hn,hl⟩:=I.loc
  refine ⟨m,ns m hn,fun i x v e1 e2 e3=>?_⟩
  obtain ⟨u,r,l⟩:=hl i x v e1 e2 e3
  refine ⟨u,r,?_⟩
  rcases l with l | ⟨k,c,e,z⟩
  ·exact .inl l
  ·exact .inr ⟨k,c,e,cellK x c e _ z⟩
 ·obtain ⟨v,z⟩:=I.cell x c e
  exact ⟨v,cellK x c e v z⟩
 ·obtain ⟨m,⟨o,_,_,ho,_⟩,_⟩:=I.loc
  exact free _ o (fun z=>(hch _ z).2.1 rfl) ho I.free
 ·obtain ⟨v,o,ho,hd⟩:=I.cell x c e
  exact free c o (fun z=>(hch c z).2.2.1 x c e rfl) ho (I.freeC x c e)
 ·obtain ⟨e,n,ne,nf,d⟩:=I.pin p hp
  have nch : p.1 ∉ ch:=fun z=>(hch p.1 z).2.2.2 p hp rfl
  exact ⟨keep p.1 p.2 ne nf nch e n,free p.1 p.2 nch e n,ne,nf,d⟩
theorem Inv.un {t' : Nat} (I : Inv X pins σ H s) (u : Un X.fs [] H H' s.heap h') (hok : HOk X.prog X.w H' h') : Inv X pins σ H' { s with heap:=h',toks:=t' }:=by
 obtain ⟨m,⟨o,es,ep,ho,r⟩,_⟩:=id I.loc
 obtain ⟨sl,hL⟩:=u.any ho I.free (by simp)
 exact I.step (g':=s.gens) (d':=s.drawn) (ch:=[]) (fun _ z=>nomatch z) (fun b o _ hb _ e n=>u.keep b o e n hb (by simp)) (fun b o _ hb _ e n=>u.slot b o e n hb (by simp)) (fun b o _ e n=>u.free b o e n (by simp)) (fun b o _ e=>u.there b o e (by simp)) u.tups u.frzs u.tbls (fun m' hm=>by
  obtain ⟨o',es',ep',ho',r'⟩:=hm
  rw [ho] at ho'; cases ho'
  exact ⟨_,es',ep',hL,r'⟩) hok I.bare
theorem Inv.call {g' : Array GenState} {t' : Nat} {d' : Drawn} {ch : List Addr} (I : Inv X pins σ H s) (u : Un (frs X.stack) ch H H' s.heap h') (hok : HOk X.prog X.w H' h') (hg : AllBare g')
  (hch : ∀ b ∈ ch,(b ∈ X.ex ∨ X.s₀.heap.objs.size ≤ b) ∧ b ≠ X.env.locals ∧ (∀ x c,X.env.cells.lookup x = some c → c ≠ b) ∧ ∀ p ∈ X.pn ++ pins,p.1 ≠ b) :
  Inv X pins σ H' { s with heap:=h',gens:=g',drawn:=d',toks:=t' }:=by
 obtain ⟨m,⟨o,es,ep,ho,r⟩,_⟩:=id I.loc
 obtain ⟨sl,hL⟩:=u.any ho I.free fun z=>(hch _ z).2.1 rfl
 exact I.step (ch:=ch) hch (fun b o hL hb hc e n=>u.keep b o e n (fun z=>(List.mem_cons.mp (I.stkSub b z)).elim hL hb) hc) (fun b o _ _ hc e n=>u.any e n hc) (fun b o hc e n=>u.free b o e n hc) (fun b o hc e=>u.there b o e hc) u.tups u.frzs u.tbls (fun m' hm=>by
  obtain ⟨o',es',ep',ho',r'⟩:=hm
  rw [ho] at ho'; cases ho'
  exact ⟨_,es',ep',hL,r'⟩) hok hg
theorem Inv.turned {t' : Nat} {it : Addr} (I : Inv X pins σ H s) (k : ∀ b o,b ≠ it → s.heap.get? b = some o → h'.get? b = some o) (hn : H it = none) (hL : it ≠ X.env.locals)
  (h1 : it ∈ X.ex ∨ X.s₀.heap.objs.size ≤ it) (h2 : ∀ x c,X.env.cells.lookup x = some c → c ≠ it) (h3 : ∀ p ∈ X.pn ++ pins,p.1 ≠ it) : Inv X pins σ H { s with heap:=h',toks:=t' }:=by
 have nit : ∀ b u,H b = some u → b ≠ it:=fun b u e z=>by rw [z,hn] at e; cases e
 refine I.step (g':=s.gens) (d':=s.drawn) (ch:=[it]) (fun b hb=>?_) (fun b o _ _ hc e _=>k b o (fun z=>hc (by simp [z])) e) (fun b o _ _ hc e _=>⟨o.slots,k b o (fun z=>hc (by simp [z])) e⟩) (fun _ _ _ _ n=>n)
  (fun b o hc e=>⟨o,k b o (fun z=>hc (by simp [z])) e⟩) (fun _ _ e=>e) (fun _ _ _ e=>e) (fun b ps e=>⟨#[],by rw [e]; simp⟩) (fun m hm=>?_) (fun b u e=>?_) I.bare
 ·have e : b = it:=by simpa using hb
  subst e
  exact ⟨h1,hL,h2,h3⟩
 ·obtain ⟨o,es,ep,ho,r⟩:=hm
  exact ⟨o,es,ep,k _ o (Ne.symm hL) ho,r⟩
 ·refine (I.hok b u e).stay (fun c v hc q=>k c v ?_ q) (fun _ q=>q) fun _ _ q=>q
  rcases hc with z | z
  ·rw [z]; exact nit b u e
  ·exact nit c _ z
theorem Inv.tok (I : Inv X pins σ H s) (t : Nat) : Inv X pins σ H { s with toks:=t }:=I.un (h':=s.heap) (t':=t) Un.refl I.hok
theorem Inv.kept {t' : Nat} (I : Inv X pins σ H s) (k : ∀ b u,s.heap.get? b = some u → h'.get? b = some u) : Inv X pins σ H { s with heap:=h',toks:=t' }:=I.un (Un.kept k) (I.hok.kept k)
theorem Inv.laid {a : Addr} {o : HO} {t' : Nat} (I : Inv X pins σ H s) (k : ∀ b u,s.heap.get? b = some u → h'.get? b = some u) (hp : s.heap.objs.size ≤ a) (new : aa8 X.prog X.w (upd H a o) h' a o) :
  Inv X pins σ (upd H a o) { s with heap:=h',toks:=t' }:=I.un (Un.laid k hp (I.hok.fresh hp)) (I.hok.laid k hp new)
theorem Inv.write {x e : Addr} {o : HO} {t' : Nat} (I : Inv X pins σ H s) (mu : Mut (H x)) (he : e = x ∨ H e = some (.own x)) (k : ∀ b u,b ≠ e → s.heap.get? b = some u → h'.get? b = some u) (heo : ∃ u,h'.get? e = some u)
  (new : aa8 X.prog X.w (upd H x o) h' x o) : Inv X pins σ (upd H x o) { s with heap:=h',toks:=t' }:=I.un (Un.write mu he k heo) (I.hok.write mu he k heo new)
theorem Inv.pins_of {pins' : List (Addr × Obj)} (I : Inv X pins σ H s) (h : ∀ p ∈ pins',s.heap.get? p.1 = some p.2 ∧ H p.1 = none ∧ p.1 ≠ X.env.locals ∧ p.1 ∉ X.fs ∧ ∀ v,p.2.data ≠ .cell v) : Inv X pins' σ H s :=
 ⟨I.ok,I.os,I.bare,I.base,I.loc,I.cell,I.free,I.freeC,fun p hp=>(List.mem_append.mp hp).elim (fun z=>I.pin p (List.mem_append_left _ z)) (h p),I.hok,I.len⟩
theorem bj8 {N : List Str} (hN : N.Nodup) {i j : Nat} {x : Str} (a : N[i]? = some x) (b : N[j]? = some x) : i = j:=by
 obtain ⟨h1,e1⟩:=List.getElem?_eq_some_iff.mp a
 obtain ⟨h2,e2⟩:=List.getElem?_eq_some_iff.mp b
 exact (List.getElem_inj hN).mp (e1.trans e2.symm)
theorem aU2 {M : Model} {A : Around} {E : Value → Shared → Prop} {i : Nat} {x : Str} {v : V} {u : Value} {Q : Unit → Shared → Prop} (I : Inv X pins σ H s) (hN : X.N.Nodup) (hi : X.N[i]? = some x) (hx : Loc X.env.scope x) (r : Q6 v u)
  (h : ∀ s',Inv X pins (σ.set i (some v)) H s' → (∃ a,Heap.SameBut a s.heap s'.heap ∧ (a = X.env.locals ∨ X.env.cells.lookup x = some a)) → Q () s') (hf : X.fn x = true ∨ X.env.scope.names.lookup x = some .local:=by first | exact .inl rfl | exact .inr rfl | assumption) : wpAny M A (storeName X.env x u) Q E s:=by
 obtain ⟨m,hn,hl⟩:=id I.loc
 have hcls : (X.env.scope.kind == .class || (X.env.scope.kind == .module && X.env.locals != X.env.globals)) = false:=by rw [I.ok.kind]; rfl
 have hiσ : i < σ.length:=by rw [I.len]; exact (List.getElem?_eq_some_iff.mp hi).1
 have cne:=I.cne
 have tracked : ∀ {a : Addr} {h' : Heap},(∃ o,s.heap.get? a = some o ∧ H a = none) → Heap.SameBut a s.heap h' → HOk X.prog X.w H h':=fun {a h'} ha hs b ob e=>by
  obtain ⟨_,_,hfree⟩:=ha
  refine (I.hok b ob e).stay (fun c w' hc q=>(hs.2 c ?_).trans q) (fun _ q=>q) fun _ _ q=>q
  rintro rfl
  rcases hc with rfl | hc
  ·rw [hfree] at e; cases e
  ·rw [hfree] at hc; cases hc
 rcases hx with hk | hk
 ·refine wpAny_storeName_local hk hn (fun h' hn' hs=>?_) hcls
  obtain ⟨oL,_,_,hoL,_⟩:=id hn
  refine h _ ⟨I.ok,I.os,I.bare,⟨fun b o e n hb hx=>?_,fun b o e n hb hx=>?_,I.base.free,fun b o e hx=>?_,I.base.tups,I.base.frzs,I.base.tbls⟩,⟨_,hn',fun j y v' e1 e2 e3=>?_⟩,fun y c e=>?_,I.free,I.freeC,fun p hp=>?_,tracked ⟨oL,hoL,I.free⟩ hs,by simpa using I.len⟩ ⟨_,hs,.inl rfl⟩
  ·exact (hs.2 b (Nat.ne_of_lt (Nat.lt_of_lt_of_le (Heap.lt_size e) I.ok.above))).trans (I.base.keep b o e n hb hx)
  ·obtain ⟨sl,e1⟩:=I.base.slot b o e n hb hx
   exact ⟨sl,(hs.2 b (Nat.ne_of_lt (Nat.lt_of_lt_of_le (Heap.lt_size e) I.ok.above))).trans e1⟩
  ·obtain ⟨o',e1⟩:=I.base.there b o e hx
   exact ⟨o',(hs.2 b (Nat.ne_of_lt (Nat.lt_of_lt_of_le (Heap.lt_size e) I.ok.above))).trans e1⟩
  ·by_cases hj : j = i
   ·subst hj
    rw [hi] at e1; cases e1
    rw [List.getElem?_set_self hiσ] at e2
    cases e2
    exact ⟨u,r,.inl ⟨hk,by simp⟩⟩
   ·rw [List.getElem?_set_ne (Ne.symm hj)] at e2
    obtain ⟨u',r',q⟩:=hl j y v' e1 e2 e3
    refine ⟨u',r',?_⟩
    rcases q with ⟨k,e⟩ | ⟨k,c,e,z⟩
    ·refine .inl ⟨k,?_⟩
     have : y ≠ x:=fun e=>hj (bj8 hN e1 (e ▸ hi))
     simp [this,e]
    ·exact .inr ⟨k,c,e,z.sameBut hs (cne y c e)⟩
  ·obtain ⟨w',z⟩:=I.cell y c e
   exact ⟨w',z.sameBut hs (cne y c e)⟩
  ·obtain ⟨e,n,ne,nf,d⟩:=I.pin p hp
   exact ⟨(hs.2 p.1 ne).trans e,n,ne,nf,d⟩
 ·have hfn : X.fn x = true:=by
   rcases hf with z | z
   ·exact z
   ·rw [z] at hk; cases hk
  obtain ⟨c,hc⟩:=I.ok.has x (.inl hk)
  obtain ⟨w',z⟩:=I.cell x c hc
  refine wpAny_storeName_cell I.ok.kind hk hc z (fun h' hc' hs=>?_)
  obtain ⟨oc,hoc,hocd⟩:=id z
  refine h { s with heap:=h' } ⟨I.ok,I.os,I.bare,⟨fun b o e n hb hx=>?_,fun b o e n hb hx=>?_,I.base.free,fun b o e hx=>?_,I.base.tups,I.base.frzs,I.base.tbls⟩,⟨m,hn.sameBut hs (Ne.symm (cne x c hc)),fun j y v' e1 e2 e3=>?_⟩,fun y c' e=>?_,I.free,I.freeC,fun p hp=>?_,tracked ⟨oc,hoc,I.freeC x c hc⟩ hs,by simpa using I.len⟩ ⟨c,hs,.inr hc⟩
  ·exact (hs.2 b (Nat.ne_of_lt (Nat.lt_of_lt_of_le (Heap.lt_size e) (I.ok.cab x c hfn hc)))).trans (I.base.keep b o e n hb hx)
  ·obtain ⟨sl,e1⟩:=I.base.slot b o e n hb hx
   exact ⟨sl,(hs.2 b (Nat.ne_of_lt (Nat.lt_of_lt_of_le (Heap.lt_size e) (I.ok.cab x c hfn hc)))).trans e1⟩
  ·obtain ⟨o',e1⟩:=I.base.there b o e hx
   exact ⟨o',(hs.2 b (Nat.ne_of_lt (Nat.lt_of_lt_of_le (Heap.lt_size e) (I.ok.cab x c hfn hc)))).trans e1⟩
  ·by_cases hj : j = i
   ·subst hj
    rw [hi] at e1; cases e1
    rw [List.getElem?_set_self hiσ] at e2
    cases e2
    exact ⟨u,r,.inr ⟨.inl hk,c,hc,hc'⟩⟩
   ·rw [List.getElem?_set_ne (Ne.symm hj)] at e2
    obtain ⟨u',r',q⟩:=hl j y v' e1 e2 e3
    refine ⟨u',r',?_⟩
    rcases q with q | ⟨k,c',e,z'⟩
    ·exact .inl q
    ·refine .inr ⟨k,c',e,z'.sameBut hs ?_⟩
     rintro rfl
     exact hj (bj8 hN e1 (I.ok.inj _ _ _ e hc ▸ hi))
  ·by_cases hcc : c' = c
   ·subst hcc; exact ⟨_,hc'⟩
   ·obtain ⟨w2,z2⟩:=I.cell y c' e
    exact ⟨w2,z2.sameBut hs hcc⟩
  ·obtain ⟨e,n,ne,nf,d⟩:=I.pin p hp
   refine ⟨(hs.2 p.1 ?_).trans e,n,ne,nf,d⟩
   intro q
   rw [q,hoc] at e
   have q' : oc = p.2:=Option.some.inj e
   exact d w' (by rw [← q']; exact hocd)
theorem aw7 {M : Model} {A : Around} {E : Value → Shared → Prop} {i : Nat} {x : Str} {v : V} {u : Value} {Q : Unit → Shared → Prop} (I : Inv X pins σ H s) (hN : X.N.Nodup) (hi : X.N[i]? = some x) (hx : Loc X.env.scope x) (r : Q6 v u)
  (h : ∀ s',Inv X pins (σ.set i (some v)) H s' → Q () s') (hf : X.fn x = true ∨ X.env.scope.names.lookup x = some .local:=by first | exact .inl rfl | exact .inr rfl | assumption) : wpAny M A (storeName X.env x u) Q E s :=
 aU2 I hN hi hx r (fun s' I' _=>h s' I') hf
theorem Inv.call' {s' : Shared} {ch : List Addr} (I : Inv X pins σ H s) (ho : s'.os = s.os) (u : Un (frs X.stack) ch H H' s.heap s'.heap) (hok : HOk X.prog X.w H' s'.heap) (hg : AllBare s'.gens)
  (hch : ∀ b ∈ ch,(b ∈ X.ex ∨ X.s₀.heap.objs.size ≤ b) ∧ b ≠ X.env.locals ∧ (∀ x c,X.env.cells.lookup x = some c → c ≠ b) ∧ ∀ p ∈ X.pn ++ pins,p.1 ≠ b) : Inv X pins σ H' s':=by
 obtain ⟨h',g',d',t',o'⟩:=s'
 have e : o' = s.os:=ho
 subst e
 exact I.call (g':=g') (t':=t') (d':=d') u hok hg hch
end
noncomputable abbrev XK:=Value → Option Addr → Hp → Prop
noncomputable abbrev St:=List (Option V)
noncomputable abbrev VK:=V → Hp → Prop
noncomputable abbrev TE:=St → Hp → VK → Prop
noncomputable abbrev TT:=St → Hp → (Bool → Hp → Prop) → Prop
noncomputable abbrev TA:=St → Hp → (List V → Hp → Prop) → Prop
structure Ends where
 nx : St → Hp → Prop
 rt : VK
 bk : St → Hp → Prop:=fun _ _=>False
 ct : St → Hp → Prop:=fun _ _=>False
noncomputable abbrev TS:=Ends → St → Hp → Prop
noncomputable def EP (X : Cx) (pins : List (Addr × Obj)) (σ : St) (Q : VK) (u : Value) (s' : Shared) : Prop:=∃ v H',Inv X pins σ H' s' ∧ Q6 v u ∧ Q v H'
noncomputable def TP (X : Cx) (pins : List (Addr × Obj)) (σ : St) (Q : Bool → Hp → Prop) (b : Bool) (s' : Shared) : Prop:=∃ H',Inv X pins σ H' s' ∧ Q b H'
noncomputable def AP (X : Cx) (pins : List (Addr × Obj)) (σ : St) (Q : List V → Hp → Prop) (us : List Value) (s' : Shared) : Prop:=∃ vs H',Inv X pins σ H' s' ∧ K2 vs us ∧ Q vs H'
noncomputable def SP (X : Cx) (pins : List (Addr × Obj)) (D : Ends) (f : Flow) (s' : Shared) : Prop :=
 match f with
 | .next=>∃ σ' H',Inv X pins σ' H' s' ∧ D.nx σ' H'
 | .brk=>∃ σ' H',Inv X pins σ' H' s' ∧ D.bk σ' H'
 | .cont=>∃ σ' H',Inv X pins σ' H' s' ∧ D.ct σ' H'
 | .ret u=>∃ v σ' H',Inv X pins σ' H' s' ∧ Q6 v u ∧ D.rt v H'
noncomputable def PE (X : Cx) (e : Expr) (t : TE) : Prop :=
 ∀ (pins : List (Addr × Obj)) (s : Shared) (σ : St) (H : Hp) (Q : VK),Inv X pins σ H s → t σ H Q → wpAny (model X.prog X.w) X.A (eval e X.env) (EP X pins σ Q) X.xe s
noncomputable def PT (X : Cx) (e : Expr) (t : TT) : Prop :=
 ∀ (pins : List (Addr × Obj)) (s : Shared) (σ : St) (H : Hp) (Q : Bool → Hp → Prop),Inv X pins σ H s → t σ H Q → wpAny (model X.prog X.w) X.A (isTrue e X.env (eval e X.env)) (TP X pins σ Q) X.xe s
noncomputable def PW (X : Cx) (e : Expr) (t : TT) : Prop :=
 ∀ (whole : Sem Value) (pins : List (Addr × Obj)) (s : Shared) (σ : St) (H : Hp) (Q : Bool → Hp → Prop),Inv X pins σ H s → t σ H Q → wpAny (model X.prog X.w) X.A (isTrue e X.env whole) (TP X pins σ Q) X.xe s
theorem PW.pt {X : Cx} {e : Expr} {t : TT} (h : PW X e t) : PT X e t:=h _
noncomputable def PA (X : Cx) (es : List Expr) (t : TA) : Prop :=
 ∀ (pos : Pos) (pins : List (Addr × Obj)) (s : Shared) (σ : St) (H : Hp) (Q : List V → Hp → Prop),Inv X pins σ H s → t σ H Q → wpAny (model X.prog X.w) X.A (spliced (backTo pos (starEach es X.env))) (AP X pins σ Q) X.xe s
noncomputable def PS (X : Cx) (st : Stmt) (t : TS) : Prop :=
 ∀ (pins : List (Addr × Obj)) (s : Shared) (σ : St) (H : Hp) (D : Ends),Inv X pins σ H s → t D σ H → wpAny (model X.prog X.w) X.A (exec st X.env) (SP X pins D) X.xe s
noncomputable def PSs (X : Cx) (st : List Stmt) (t : TS) : Prop :=
 ∀ (pins : List (Addr × Obj)) (s : Shared) (σ : St) (H : Hp) (D : Ends),Inv X pins σ H s → t D σ H → wpAny (model X.prog X.w) X.A (execs st X.env) (SP X pins D) X.xe s
theorem thn {α : Type} {t : Sem α} {Q Q' : α → Shared → Prop} {M : Model} {A : Around} {E : Value → Shared → Prop} {s : Shared} (h : wpAny M A t Q E s) (hQ : ∀ a s,Q a s → Q' a s) : wpAny M A t Q' E s:=wpAny_mono h hQ fun _ _ x=>x
end L2
namespace L2
open PySem PySem.Spec PyProof.Rows
section
variable {X : Cx}
theorem bin {a b : Expr} {ta tb : TE} (ha : PE X a ta) (hb : PE X b tb) {pins : List (Addr × Obj)} {s : Shared} {σ : St} {H : Hp} {R : V → V → Hp → Prop} (I : Inv X pins σ H s) (h : ta σ H fun x H1=>tb σ H1 fun y H2=>R x y H2)
  {α : Type} {Q : α → Shared → Prop} {f : Value → Value → Sem α}
  (hf : ∀ v u s2 x y H2,Inv X pins σ H2 s2 → Q6 x v → Q6 y u → R x y H2 → wpAny (model X.prog X.w) X.A (f v u) Q X.xe s2) :
  wpAny (model X.prog X.w) X.A (eval a X.env) (fun v s₁=>wpAny (model X.prog X.w) X.A (eval b X.env) (fun u s₂=>wpAny (model X.prog X.w) X.A (f v u) Q X.xe s₂) X.xe s₁) X.xe s:=by
 refine thn (ha pins s σ H _ I h) fun v s1 ⟨x,H1,I1,r1,q1⟩=>?_
 refine thn (hb pins s1 σ H1 _ I1 q1) fun u s2 ⟨y,H2,I2,r2,q2⟩=>?_
 exact hf v u s2 x y H2 I2 r1 r2 q2
noncomputable def cT2 (i : Nat) : TE:=fun σ H Q=>∃ v,σ[i]? = some (some v) ∧ Q v H
noncomputable def tC (v : V) : TE:=fun _ H Q=>Q v H
theorem au7 {i : Nat} {x : Str} {pos : Pos} (hN : X.N[i]? = some x) (hv : Vis X.env.scope x) (hd : (x == ("__debug__" : Str)) = false:=by decide) (hcd : (x == ("__classdict__" : Str)) = false:=by decide) : PE X (.Name x pos) (cT2 i):=by
 intro pins s σ H Q I h
 obtain ⟨v,e,h⟩:=h
 obtain ⟨m,hn,hl⟩:=I.loc
 obtain ⟨u,r,l⟩:=hl i x v hN e hv
 have fin : EP X pins σ Q u s:=⟨v,H,I,r,h⟩
 rcases l with ⟨hk,hm⟩ | ⟨hk,c,hc,hcell⟩
 ·exact wpAny_Name (wpAny_loadName_local I.ok.kind hk hn hm fin) hd
 ·rcases hk with hk | hk
  ·exact wpAny_Name (wpAny_loadName_cell I.ok.kind hk hc hcell fin) hd
  ·exact wpAny_Name (wpAny_loadName_free I.ok.kind hk hc hcell fin hcd) hd
theorem cH3 {i j pos} : PE X (.Constant (.int i) j pos) (tC (.int i)):=fun _ _ _ H _ I h=>wpAny_Constant_int ⟨.int i,H,I.tok _,⟨_,rfl⟩,h⟩
theorem cV1 {b j pos} : PE X (.Constant (.bool b) j pos) (tC (.bl b)):=fun _ _ _ H _ I h=>Constant_bool ⟨.bl b,H,I,rfl,h⟩
theorem cH1 {j pos} : PE X (.Constant .none j pos) (tC .non):=fun _ _ _ H _ I h=>Constant_none ⟨.non,H,I,rfl,h⟩
theorem cG7 {x j pos} : PE X (.Constant (.str x) j pos) (tC (.str x)):=fun _ _ _ H _ I h=>Calls.Constant_str ⟨.str x,H,I.tok _,⟨_,rfl⟩,h⟩
noncomputable def Gl (X : Cx) (x : Str) : Prop:=X.env.kindOf x = some .globalImplicit
theorem bc4 {E : Value → Shared → Prop} {pins : List (Addr × Obj)} {s : Shared} {σ : St} {H : Hp} {x : Str} {u : Value} {pos : Pos} {Q : Value → Shared → Prop} (I : Inv X pins σ H s) (hg : Gl X x) (hm : X.mg x = some u) (h : Q u s)
  (hd : (x == ("__debug__" : Str)) = false:=by decide) : wpAny (model X.prog X.w) X.A (eval (.Name x pos) X.env) Q E s :=
 Calls.Name_function_global I.ok.kind hg (Calls.loadGlobal_global (by rw [I.ok.glob]; exact I.mod.glob.keeps I.bk) hm h) hd
theorem am3 {E : Value → Shared → Prop} {pins : List (Addr × Obj)} {s : Shared} {σ : St} {H : Hp} {x : Str} {u : Value} {pos : Pos} {Q : Value → Shared → Prop} (I : Inv X pins σ H s) (hg : Gl X x) (hm : X.mg x = none) (hv : bootBuiltins x = some u) (h : Q u s)
  (hn : x ≠ "__name__" := by decide) (hd : (x == ("__debug__" : Str)) = false:=by decide) : wpAny (model X.prog X.w) X.A (eval (.Name x pos) X.env) Q E s:=by
 obtain ⟨mb,h1,h2⟩:=I.mod.blt
 exact Calls.Name_function_global I.ok.kind hg (Calls.loadGlobal_builtin (by rw [I.ok.glob]; exact I.mod.glob.keeps I.bk) hm (by rw [I.ok.blt]; exact h1.keeps I.bk) ((h2 x hn).trans hv) h) hd
theorem cl3 {x : Str} {v : V} {u : Value} {pos : Pos} (hg : Gl X x) (hm : X.mg x = some u) (r : Q6 v u) (hd : (x == ("__debug__" : Str)) = false:=by decide) : PE X (.Name x pos) (tC v) :=
 fun _ _ _ H _ I h=>bc4 I hg hm ⟨v,H,I,r,h⟩ hd
theorem cl6 {x : Str} {v : V} {u : Value} {pos : Pos} (hg : Gl X x) (hm : X.mg x = none) (hv : bootBuiltins x = some u) (r : Q6 v u) (hn : x ≠ "__name__" := by decide) (hd : (x == ("__debug__" : Str)) = false:=by decide) : PE X (.Name x pos) (tC v) :=
 fun _ _ _ H _ I h=>am3 I hg hm hv ⟨v,H,I,r,h⟩ hn hd
variable {a b : Expr} {ta tb : TE} {pos : Pos}
variable {tA tB' : TT} {Y9 : List Expr}
noncomputable def db0 (t u : TT) : TT:=fun σ H Q=>t σ H fun c H1=>if c = true then u σ H1 Q else Q false H1
noncomputable def tOr (t u : TT) : TT:=fun σ H Q=>t σ H fun c H1=>if c = true then Q true H1 else u σ H1 Q
noncomputable def da6 (t : TT) : TT:=fun σ H Q=>t σ H fun c H1=>Q (!c) H1
theorem ck1 (ha : PT X a tA) : PW X (.BoolOp .And [a] pos) tA:=by
 intro wh pins s σ H Q I h
 refine isTrue_and (thn (ha pins s σ H Q I h) fun c s1 e=>?_)
 cases c with
 | true=>exact isTrue_and_nil e
 | false=>exact e
theorem cF6 (ha : PT X a tA) : PW X (.BoolOp .Or [a] pos) tA:=by
 intro wh pins s σ H Q I h
 refine isTrue_or (thn (ha pins s σ H Q I h) fun c s1 e=>?_)
 cases c with
 | false=>exact isTrue_or_nil e
 | true=>exact e
theorem bV5 (ha : PT X a tA) (hb : PW X (.BoolOp .And (b :: Y9) pos) tB') : PW X (.BoolOp .And (a :: b :: Y9) pos) (db0 tA tB'):=by
 intro wh pins s σ H Q I h
 refine isTrue_and (thn (ha pins s σ H _ I h) fun c s1 ⟨H1,I1,q1⟩=>?_)
 cases c with
 | true=>exact hb wh pins s1 σ H1 Q I1 q1
 | false=>exact ⟨H1,I1,q1⟩
theorem cu2 (ha : PT X a tA) (hb : PW X (.BoolOp .Or (b :: Y9) pos) tB') : PW X (.BoolOp .Or (a :: b :: Y9) pos) (tOr tA tB'):=by
 intro wh pins s σ H Q I h
 refine isTrue_or (thn (ha pins s σ H _ I h) fun c s1 ⟨H1,I1,q1⟩=>?_)
 cases c with
 | true=>exact ⟨H1,I1,q1⟩
 | false=>exact hb wh pins s1 σ H1 Q I1 q1
theorem cF7 (ha : PT X a tA) : PT X (.UnaryOp .Not a pos) (da6 tA):=by
 intro pins s σ H Q I h
 exact isTrue_not (ha pins s σ H (fun c H1=>Q (!c) H1) I h)
noncomputable def cU0 (ta tb : TE) : TE:=fun σ H Q=>ta σ H fun x H1=>∃ c,x = .bl c ∧ if c = true then tb σ H1 Q else Q (.bl false) H1
noncomputable def da5 (ta tb : TE) : TE:=fun σ H Q=>ta σ H fun x H1=>∃ c,x = .bl c ∧ if c = true then Q (.bl true) H1 else tb σ H1 Q
noncomputable def cT4 (ta : TE) : TE:=fun σ H Q=>ta σ H fun x H1=>∃ c,x = .bl c ∧ Q (.bl (!c)) H1
theorem cG9 {op} {t : TE} (h : PE X a t) : PE X (.BoolOp op [a] pos) t:=fun pins s σ H Q I hw=>BoolOp_one (h pins s σ H Q I hw)
theorem bW5 (ha : PE X a ta) (hb : PE X (.BoolOp .And (b :: Y9) pos) tb) : PE X (.BoolOp .And (a :: b :: Y9) pos) (cU0 ta tb):=by
 intro pins s σ H Q I h
 refine BoolOp_and (thn (ha pins s σ H _ I h) fun v s1 ⟨x,H1,I1,r1,q1⟩=>?_)
 obtain ⟨c,rfl,q1⟩:=q1
 cases r1
 refine wpAny_truthy_bool ?_
 cases c with
 | true=>exact hb pins s1 σ H1 Q I1 q1
 | false=>exact ⟨.bl false,H1,I1,rfl,q1⟩
theorem cu5 (ha : PE X a ta) (hb : PE X (.BoolOp .Or (b :: Y9) pos) tb) : PE X (.BoolOp .Or (a :: b :: Y9) pos) (da5 ta tb):=by
 intro pins s σ H Q I h
 refine BoolOp_or (thn (ha pins s σ H _ I h) fun v s1 ⟨x,H1,I1,r1,q1⟩=>?_)
 obtain ⟨c,rfl,q1⟩:=q1
 cases r1
 refine wpAny_truthy_bool ?_
 cases c with
 | false=>exact hb pins s1 σ H1 Q I1 q1
 | true=>exact ⟨.bl true,H1,I1,rfl,q1⟩
theorem cH0 (ha : PE X a ta) : PE X (.UnaryOp .Not a pos) (cT4 ta):=by
 intro pins s σ H Q I h
 refine UnaryOp_ (thn (ha pins s σ H _ I h) fun v s1 ⟨x,H1,I1,r1,q1⟩=>?_)
 obtain ⟨c,rfl,q1⟩:=q1
 cases r1
 exact not_of (wpAny_truthy_bool ⟨.bl (!c),H1,I1,rfl,q1⟩)
noncomputable def tIf (t : TT) (ta tb : TE) : TE:=fun σ H Q=>t σ H fun c H1=>if c = true then ta σ H1 Q else tb σ H1 Q
theorem bi8 {c : Expr} (hc : PT X c tA) (ha : PE X a ta) (hb : PE X b tb) : PE X (.IfExp c a b pos) (tIf tA ta tb):=by
 intro pins s σ H Q I h
 refine wpAny_IfExp (thn (hc pins s σ H _ I h) fun d s1 ⟨H1,I1,q1⟩=>?_)
 cases d with
 | true=>exact ha pins s1 σ H1 Q I1 q1
 | false=>exact hb pins s1 σ H1 Q I1 q1
end
end L2
namespace L2
open PySem PySem.Spec PyProof.Rows
noncomputable def SqL (K : PySem.W.Frag) (H : Hp) (a : Addr) (xs : List V) : Prop :=
 Rd H a (.lst xs) ∨
  ∃ (o : Obj) (its : Array Value) (n : Nat),K.lookup a = some o ∧ o.cls = .type "list" ∧ o.dict = none ∧ o.data = .seq its n ∧ its.size ≤ sizeLine ∧ K2 xs its.toList
noncomputable def SqT (K : PySem.W.Frag) (H : Hp) (a : Addr) (xs : List V) : Prop :=
 Rd H a (.tup xs) ∨
  ∃ (o : Obj) (its : Array Value) (n : Nat),K.lookup a = some o ∧ o.cls = .type "tuple" ∧ o.data = .seq its n ∧ its.size ≤ sizeLine ∧ K2 xs its.toList
noncomputable def dd5 : Value → Option V
 | .none=>some .non
 | .bool b=>some (.bl b)
 | .int i _=>some (.int i)
 | .str x _=>some (.str x)
 | .bytes b _=>some (.byt b)
 | .float b _=>some (.flt b)
 | .ref a=>some (.ref a)
 | .type n=>some (.ty n)
 | _=>none
theorem Q6.abs {x : V} {u : Value} (r : Q6 x u) : dd5 u = some x:=by
 cases x with
 | non=>cases r; rfl
 | bl _=>cases r; rfl
 | int _=>obtain ⟨t,rfl⟩:=r; rfl
 | str _=>obtain ⟨t,rfl⟩:=r; rfl
 | byt _=>obtain ⟨t,rfl⟩:=r; rfl
 | flt _=>obtain ⟨t,rfl⟩:=r; rfl
 | ref _=>cases r; rfl
 | ty _=>cases r; rfl
theorem Q6.inj {x y : V} {u : Value} (r : Q6 x u) (q : Q6 y u) : x = y:=Option.some.inj (r.abs.symm.trans q.abs)
theorem K2.inj : ∀ {xs ys : List V} {us : List Value},K2 xs us → K2 ys us → xs = ys
 | _,_,_,.nil,.nil=>rfl
 | _,_,_,.cons r t,.cons r' t'=>by rw [r.inj r',K2.inj t t']
section
variable {X : Cx} {pins : List (Addr × Obj)} {σ : St} {H : Hp} {s : Shared} {a : Addr} {xs ys : List V}
theorem SqL.of {K : PySem.W.Frag} (h : H a = some (.lst xs)) : SqL K H a xs:=.inl (.inl h)
theorem SqT.of {K : PySem.W.Frag} (h : H a = some (.tup xs)) : SqT K H a xs:=.inl (.inl h)
theorem Inv.list (I : Inv X pins σ H s) (h : SqL X.K H a xs) : ∃ its : List Value,K2 xs its ∧ PlainL s.heap a its.toArray ∧ xs.length ≤ sizeLine:=by
 rcases h with h | ⟨o,its,n,hk,hc,hd,hs,hz,r⟩
 ·obtain ⟨z,its,n,r,e⟩:=h.ok I.hok
  exact ⟨its,r,⟨_,n,e,rfl,rfl,rfl⟩,z⟩
 ·refine ⟨its.toList,r,⟨o,n,I.kIn a o hk,hc,hd,by simpa using hs⟩,?_⟩
  have e:=r.length
  simp only [Array.length_toList] at e
  omega
theorem Inv.tuple (I : Inv X pins σ H s) (h : SqT X.K H a xs) : ∃ its : List Value,K2 xs its ∧ IsTup s.heap a its.toArray ∧ xs.length ≤ sizeLine:=by
 rcases h with h | ⟨o,its,n,hk,hc,hs,hz,r⟩
 ·obtain ⟨z,its,r,p⟩:=h.ok I.hok
  exact ⟨its,r,p,z⟩
 ·refine ⟨its.toList,r,⟨o,I.kIn a o hk,hc,n,by simpa using hs⟩,?_⟩
  have e:=r.length
  simp only [Array.length_toList] at e
  omega
theorem Inv.list_inj (I : Inv X pins σ H s) (h : SqL X.K H a xs) (h' : SqL X.K H a ys) : xs = ys:=by
 obtain ⟨its,r,⟨o,n,e,_,_,d⟩,_⟩:=I.list h
 obtain ⟨its',r',⟨o',n',e',_,_,d'⟩,_⟩:=I.list h'
 rw [e] at e'; cases e'
 rw [d] at d'
 injection d' with d1 _
 have : its = its':=by simpa using congrArg Array.toList d1
 subst this
 exact r.inj r'
theorem Inv.tuple_inj (I : Inv X pins σ H s) (h : SqT X.K H a xs) (h' : SqT X.K H a ys) : xs = ys:=by
 obtain ⟨its,r,⟨o,e,_,n,d⟩,_⟩:=I.tuple h
 obtain ⟨its',r',⟨o',e',_,n',d'⟩,_⟩:=I.tuple h'
 rw [e] at e'; cases e'
 rw [d] at d'
 injection d' with d1 _
 have : its = its':=by simpa using congrArg Array.toList d1
 subst this
 exact r.inj r'
end
noncomputable abbrev Cx.wish (X : Cx) (E : Value → Shared → Prop) : Cx:={ X with xe:=E }
noncomputable abbrev Cx.nox (X : Cx) : Cx:=X.wish fun _ _=>False
theorem Cx.Ok.wish {X : Cx} (ok : X.Ok) (E : Value → Shared → Prop) : (X.wish E).Ok :=
 ⟨ok.mod,ok.kind,ok.glob,ok.blt,ok.above,ok.inj,ok.has,ok.cab,ok.hd,ok.frames,ok.stk,ok.exf,ok.bs,ok.bsz,ok.noex,ok.exfs,ok.funs,ok.frf⟩
theorem Cx.Ok.unwish {X : Cx} {E : Value → Shared → Prop} (ok : (X.wish E).Ok) : X.Ok :=
 ⟨ok.mod,ok.kind,ok.glob,ok.blt,ok.above,ok.inj,ok.has,ok.cab,ok.hd,ok.frames,ok.stk,ok.exf,ok.bs,ok.bsz,ok.noex,ok.exfs,ok.funs,ok.frf⟩
section
variable {X : Cx} {pins : List (Addr × Obj)} {σ : St} {H : Hp} {s : Shared} {E : Value → Shared → Prop}
theorem Inv.wish (I : Inv X pins σ H s) (E : Value → Shared → Prop) : Inv (X.wish E) pins σ H s:=⟨I.ok.wish E,I.os,I.bare,I.base,I.loc,I.cell,I.free,I.freeC,I.pin,I.hok,I.len⟩
theorem Inv.unwish (I : Inv (X.wish E) pins σ H s) : Inv X pins σ H s:=⟨I.ok.unwish,I.os,I.bare,I.base,I.loc,I.cell,I.free,I.freeC,I.pin,I.hok,I.len⟩
theorem SP.unwish {D : Ends} {f : Flow} {s' : Shared} (h : SP (X.wish E) pins D f s') : SP X pins D f s':=by
 cases f with
 | next=>obtain ⟨σ',H',I,q⟩:=h; exact ⟨σ',H',I.unwish,q⟩
 | brk=>obtain ⟨σ',H',I,q⟩:=h; exact ⟨σ',H',I.unwish,q⟩
 | cont=>obtain ⟨σ',H',I,q⟩:=h; exact ⟨σ',H',I.unwish,q⟩
 | ret u=>obtain ⟨v,σ',H',I,r,q⟩:=h; exact ⟨v,σ',H',I.unwish,r,q⟩
theorem PSs.nox {st : List Stmt} {t : TS} (h : PSs X.nox st t) : PSs X st t:=fun pins s σ H D I hw =>
 wpAny_mono (h pins s σ H D (I.wish _) hw) (fun _ _ q=>q.unwish) fun _ _ z=>False.elim z
end
section
variable {X : Cx} {st : Stmt} {Y9 : List Stmt} {t u : TS} {e : Expr} {te : TE} {pos : Pos}
noncomputable def ct9 : TS:=fun D σ H=>D.nx σ H
noncomputable def da2 (t u : TS) : TS:=fun D σ H=>t { D with nx:=u D } σ H
theorem ck6 : PSs X [] ct9:=fun _ _ σ H _ I h=>wpAny_execs_nil ⟨σ,H,I,h⟩
theorem ax9 (h1 : PS X st t) (h2 : PSs X Y9 u) : PSs X (st :: Y9) (da2 t u):=by
 intro pins s σ H D I h
 refine wpAny_execs_cons (thn (h1 pins s σ H { D with nx:=u D } I h) fun f s1 q=>?_)
 cases f with
 | next =>
  obtain ⟨σ',H',I',q⟩:=q
  exact h2 pins s1 σ' H' D I' q
 | ret v=>exact q
 | brk=>exact q
 | cont=>exact q
theorem ck5 (h1 : PS X st t) : PSs X [st] t:=by
 intro pins s σ H D I h
 refine wpAny_execs_cons (thn (h1 pins s σ H D I h) fun f s1 q=>?_)
 cases f with
 | next=>exact wpAny_execs_nil q
 | ret v=>exact q
 | brk=>exact q
 | cont=>exact q
noncomputable def cF0 : TS:=fun D σ H=>D.bk σ H
noncomputable def cT7 : TS:=fun D σ H=>D.ct σ H
theorem ck7 : PS X (.Pass pos) ct9:=fun _ _ σ H _ I h=>wpAny_Pass ⟨σ,H,I,h⟩
theorem bV9 : PS X (.Break pos) cF0:=fun _ _ σ H _ I h=>wpAny_Break ⟨σ,H,I,h⟩
theorem bi6 : PS X (.Continue pos) cT7:=fun _ _ σ H _ I h=>wpAny_Continue ⟨σ,H,I,h⟩
theorem Inv.quiet {pins : List (Addr × Obj)} {σ : St} {H : Hp} {s : Shared} (I : Inv X pins σ H s) : interactive X.env = false:=by simp [interactive,I.ok.kind]
noncomputable def cT6 (te : TE) : TS:=fun D σ H=>te σ H fun _ H1=>D.nx σ H1
theorem ba4 (he : PE X e te) (hs : swapsWith e none pos.line X.env = pure false:=by rfl) : PS X (.Expr e pos) (cT6 te):=by
 intro pins s σ H D I h
 exact wpAny_Expr_any (thn (he pins s σ H _ I h) fun v s1 ⟨x,H1,I1,r1,q1⟩=>⟨σ,H1,I1,q1⟩) I.quiet hs
noncomputable def da3 (te : TE) : TS:=fun D σ H=>te σ H D.rt
theorem cF9 (he : PE X e te) : PS X (.Return (some e) pos) (da3 te):=by
 intro pins s σ H D I h
 exact wpAny_Return_some (thn (he pins s σ H _ I h) fun v s1 ⟨x,H1,I1,r1,q1⟩=>⟨x,σ,H1,I1,r1,q1⟩)
noncomputable def da8 (c : TT) (t u : TS) : TS:=fun D σ H=>c σ H fun b H1=>if b = true then t D σ H1 else u D σ H1
theorem cu3 {c : Expr} {a b : List Stmt} {tc : TT} (hc : PT X c tc) (ha : PSs X a t) (hb : PSs X b u) : PS X (.If c a b pos) (da8 tc t u):=by
 intro pins s σ H D I h
 refine wpAny_If (thn (hc pins s σ H _ I h) fun d s1 ⟨H1,I1,q1⟩=>?_)
 cases d with
 | true=>exact ha pins s1 σ H1 D I1 q1
 | false=>exact hb pins s1 σ H1 D I1 q1
noncomputable def cE9 : TS:=fun _ _ _=>False
theorem af1 {sts : List Stmt} : PSs X sts cE9:=fun _ _ _ _ _ _ h=>h.elim
end
noncomputable abbrev TG:=V → St → Hp → (St → Hp → Prop) → Prop
noncomputable abbrev TGs:=List V → St → Hp → (St → Hp → Prop) → Prop
noncomputable def PG (X : Cx) (target : Expr) (t : TG) : Prop :=
 ∀ (pins : List (Addr × Obj)) (s : Shared) (σ : St) (H : Hp) (v : V) (u : Value) (Q : St → Hp → Prop),Inv X pins σ H s → Q6 v u → t v σ H Q →
  wpAny (model X.prog X.w) X.A (assign target X.env u) (fun _ s'=>∃ σ' H',Inv X pins σ' H' s' ∧ Q σ' H') X.xe s
noncomputable def PGs (X : Cx) (ts : List Expr) (t : TGs) : Prop :=
 ∀ (pins : List (Addr × Obj)) (s : Shared) (σ : St) (H : Hp) (vs : List V) (us : List Value) (Q : St → Hp → Prop),Inv X pins σ H s → K2 vs us → t vs σ H Q →
  wpAny (model X.prog X.w) X.A (assignInOrder ((assignEach ts X.env).map (·.2)) us) (fun _ s'=>∃ σ' H',Inv X pins σ' H' s' ∧ Q σ' H') X.xe s
section
variable {X : Cx} {pos : Pos}
noncomputable def cv6 (i : Nat) : TG:=fun v σ H Q=>Q (σ.set i (some v)) H
theorem cl2 {i : Nat} {x : Str} (hN : X.N.Nodup) (hi : X.N[i]? = some x) (hx : Loc X.env.scope x) (hf : X.fn x = true ∨ X.env.scope.names.lookup x = some .local:=by first | exact .inl rfl | exact .inr rfl | assumption) : PG X (.Name x pos) (cv6 i):=by
 intro pins s σ H v u Q I r h
 exact wpAny_assign_Name (aw7 I hN hi hx r (fun s' I'=>⟨_,H,I',h⟩) hf)
noncomputable def dc7 : TGs:=fun vs σ H Q=>vs = [] ∧ Q σ H
noncomputable def cY3 (t : TG) (u : TGs) : TGs:=fun vs σ H Q=>∃ v r,vs = v :: r ∧ t v σ H fun σ' H'=>u r σ' H' Q
theorem cl1 : PGs X [] dc7:=by
 intro pins s σ H vs us Q I r h
 obtain ⟨e,h⟩:=h
 subst e
 cases r
 exact assignInOrder_nil ⟨σ,H,I,h⟩
theorem bW3 {e : Expr} {es : List Expr} {t : TG} {u : TGs} (h1 : PG X e t) (h2 : PGs X es u)
  (hs : (assignEach (e :: es) X.env).map (·.2) = assign e X.env :: (assignEach es X.env).map (·.2):=by rfl) : PGs X (e :: es) (cY3 t u):=by
 intro pins s σ H vs us Q I r h
 obtain ⟨v,vr,e1,h⟩:=h
 subst e1
 cases r with
 | cons r rr =>
  rw [hs]
  refine assignInOrder_cons (thn (h1 pins s σ H _ _ _ I r h) fun _ s1 ⟨σ1,H1,I1,q1⟩=>?_)
  exact h2 pins s1 σ1 H1 _ _ Q I1 rr q1
noncomputable def dc6 (K : PySem.W.Frag) (n : Nat) (t : TGs) : TG:=fun v σ H Q=>∃ a xs,v = .ref a ∧ SqT K H a xs ∧ xs.length = n ∧ t xs σ H Q
theorem cG5 {es : List Expr} {k : Nat} {t : TGs} {n : Nat} (hc : X.calm = true) (h : PGs X es t)
  (hn : (assignEach es X.env).length = n:=by rfl) (hst : (assignEach es X.env).findIdx? (·.1) = none:=by rfl) : PG X (.Tuple es k pos) (dc6 X.K n t):=by
 intro pins s σ H v u Q I r hw
 obtain ⟨a,xs,e1,hq,hl,hw⟩:=hw
 subst e1
 cases r
 obtain ⟨its,rv,ht,hz⟩:=I.tuple hq
 refine assign_Tuple_tuple (I.ok.hd hc) ht (by simp [hn,← hl,rv.length]) hst fun h' hx=>?_
 have I1 : Inv X pins σ H { s with heap:=h' }:=I.kept (t':=s.toks) fun b o e=>hx b o (Nat.ne_of_lt (Heap.lt_size e)) e
 exact h pins _ σ H xs _ Q I1 (by simpa using rv) hw
noncomputable def cT9 (te : TE) (g : TG) : TS:=fun D σ H=>te σ H fun x H1=>g x σ H1 D.nx
theorem cG2 {tg e : Expr} {te : TE} {g : TG} (he : PE X e te) (hg : PG X tg g) (hs : swapsWithSole [tg] e pos.line X.env = pure false:=by rfl) (hw : swappedStores [tg] e X.env = pure none:=by rfl)
  (h1 : (assignEach [tg] X.env).map (·.2) = [assign tg X.env]:=by rfl) : PS X (.Assign [tg] e pos) (cT9 te g):=by
 intro pins s σ H D I h
 refine wpAny_Assign_stores (thn (he pins s σ H _ I h) fun v s1 ⟨x,H1,I1,r1,q1⟩=>?_) hs hw
 rw [h1]
 exact thn (hg pins s1 σ H1 x v _ I1 r1 q1) fun _ s2 q=>q
theorem bV8 {i : Nat} {x : Str} {e : Expr} {te : TE} {pos' : Pos} (hN : X.N.Nodup) (hi : X.N[i]? = some x) (hx : Loc X.env.scope x) (he : PE X e te) (hs : swapsWith e (some (.Name x pos')) pos.line X.env = pure false:=by rfl) (hf : X.fn x = true ∨ X.env.scope.names.lookup x = some .local:=by first | exact .inl rfl | exact .inr rfl | assumption) :
  PS X (.Assign [.Name x pos'] e pos) (cT9 te (cv6 i)):=by
 intro pins s σ H D I h
 refine wpAny_Assign_Name (thn (he pins s σ H _ I h) fun v s1 ⟨y,H1,I1,r1,q1⟩=>?_) hs
 exact aw7 I1 hN hi hx r1 (fun s2 I2=>⟨_,H1,I2,q1⟩) hf
noncomputable def da4 (i j : Nat) (ta : TA) : TS:=fun D σ H=>ta σ H fun vs H1=>∃ v w,vs = [v,w] ∧ D.nx ((σ.set i (some v)).set j (some w)) H1
theorem cG0 {i j : Nat} {x y : Str} {a b : Expr} {ta : TA} {px py pt : Pos} {kt k2 pt2} (hc : X.calm = true) (hN : X.N.Nodup) (hi : X.N[i]? = some x) (hj : X.N[j]? = some y) (hij : i ≠ j)
  (hx : X.env.scope.names.lookup x = some .local) (hy : X.env.scope.names.lookup y = some .local) (ha : PA X [a,b] ta)
  (hw : swappedStores [.Tuple [.Name x px,.Name y py] kt pt] (.Tuple [a,b] k2 pt2) X.env = pure (some [x,y]))
  (hs : swapsWithSole [.Tuple [.Name x px,.Name y py] kt pt] (.Tuple [a,b] k2 pt2) pos.line X.env = pure false:=by rfl) :
  PS X (.Assign [.Tuple [.Name x px,.Name y py] kt pt] (.Tuple [a,b] k2 pt2) pos) (da4 i j ta):=by
 intro pins s σ H D I h
 rw [exec_Assign_arm]
 refine wpAny_bind (wpAny_standAt ?_)
 rw [hs]
 refine wpAny_bind (wpAny_pure ?_)
 rw [if_neg (by decide)]
 refine wpAny_bind (Tuple_ (thn (ha _ pins s σ H _ I h) fun us s1 ⟨vs,H1,I1,r1,q1⟩=>?_))
 obtain ⟨v,w,e1,q1⟩:=q1
 subst e1
 obtain ⟨u1,u2,rfl,rv,rw'⟩ : ∃ u1 u2,us = [u1,u2] ∧ Q6 v u1 ∧ Q6 w u2:=by
  cases r1 with
  | cons p q =>
   cases q with
   | cons p' q' =>
    cases q'
    exact ⟨_,_,rfl,p,p'⟩
 refine wpAny_newObj_type ?_ (by show 2 ≤ sizeLine; decide)
 have I2 : Inv X pins σ H1 { s1 with heap:=s1.heap.push { cls:=.type "tuple", data:=.seq [u1,u2].toArray } }:=I1.kept (t':=s1.toks) fun b o e=>Heap.get?_push_of_some _ e
 rw [hw]
 refine wpAny_bind (wpAny_pure ?_)
 show wpAny (model X.prog X.w) X.A (do rule "assign.swapped-stores"; let items ← unpackItems (.ref s1.heap.objs.size) 2 none; assignInOrder [fun v=>bindName X.env y v,fun v=>bindName X.env x v] items.reverse; pure Flow.next) _ _ _
 refine wpAny_bind (wpAny_rule (wpAny_bind (unpackItems_tuple (items:=#[u1,u2]) (I.ok.hd hc) (IsTup.new s1.heap _) fun h' hx'=>?_)))
 have I3:=I2.kept (h':=h') (t':=s1.toks) fun b o e=>hx' b o (Nat.ne_of_lt (Heap.lt_size e)) e
 show wpAny _ _ (assignInOrder [fun v=>bindName X.env y v,fun v=>bindName X.env x v] [u2,u1] >>= fun _=>pure Flow.next) _ _ _
 refine wpAny_bind (assignInOrder_cons (wpAny_bindName (aw7 I3 hN hj (.inl hy) rw' (fun s2 I4=>?_) (.inr hy))))
 refine assignInOrder_cons (wpAny_bindName (aw7 I4 hN hi (.inl hx) rv (fun s3 I5=>assignInOrder_nil (wpAny_pure ?_)) (.inr hx)))
 rw [List.set_comm _ _ (Ne.symm hij)] at I5
 exact ⟨_,H1,I5,q1⟩
end
section
variable {X : Cx} {pos : Pos}
noncomputable def cE8 (c : TT) (tb : TS) : TS:=fun D σ H=>∃ W : Nat → St → Hp → Prop,(∃ m,W m σ H) ∧ ∀ m σ H,W m σ H →
 c σ H fun b H1=>if b = true then ∃ N : St → Hp → Prop,(∀ σ' H',N σ' H' → ∃ m',m' < m ∧ W m' σ' H') ∧ tb { D with nx:=N,ct:=N,bk:=D.nx } σ H1 else D.nx σ H1
theorem bV7 {c : Expr} {body : List Stmt} {tc : TT} {tb : TS} (hp : PassesOwn (model X.prog X.w) X.A X.env X.xe) (hc : PT X c tc) (hb : PSs X body tb) : PS X (.While c body [] pos) (cE8 tc tb):=by
 intro pins s σ H D I h
 obtain ⟨W,⟨m0,w0⟩,turn⟩:=h
 refine wpAny_While (codeAny_whileLoop (fun n s'=>∃ σ' H',Inv X pins σ' H' s' ∧ W n σ' H') ?_ m0 ⟨σ,H,I,w0⟩)
 rintro n s1 ⟨σ1,H1,I1,w1⟩
 refine wpAny_passesOwn hp (thn (hc pins s1 σ1 H1 _ I1 (turn n σ1 H1 w1)) fun b s2 ⟨H2,I2,q2⟩=>?_)
 cases b with
 | true =>
  obtain ⟨N,hN,q2⟩:=q2
  rw [if_pos rfl]
  refine wpAny_passesOwn hp (thn (hb pins s2 σ1 H2 _ I2 q2) fun f s3 q3=>?_)
  cases f with
  | next =>
   obtain ⟨σ3,H3,I3,n3⟩:=q3
   obtain ⟨m',hm,w3⟩:=hN σ3 H3 n3
   exact ⟨m',hm,σ3,H3,I3,w3⟩
  | cont =>
   obtain ⟨σ3,H3,I3,n3⟩:=q3
   obtain ⟨m',hm,w3⟩:=hN σ3 H3 n3
   exact ⟨m',hm,σ3,H3,I3,w3⟩
  | brk=>exact q3
  | ret v=>exact q3
 | false =>
  rw [if_neg Bool.false_ne_true]
  exact wpAny_execs_nil ⟨σ1,H2,I2,q2⟩
end
structure It where
 go : Nat → Hp → Prop
 yld : Nat → Hp → V → Hp → Prop
 stop : Nat → Hp → Prop
noncomputable def ae5 (X : Cx) (pins : List (Addr × Obj)) (H : Hp) (b : Addr) : Prop :=
 H b = none ∧ b ≠ X.env.locals ∧ b ∉ X.fs ∧ (b ∈ X.ex ∨ X.s₀.heap.objs.size ≤ b) ∧ (∀ x c,X.env.cells.lookup x = some c → c ≠ b) ∧ ∀ p ∈ X.pn ++ pins,p.1 ≠ b
theorem Inv.fpOk {X : Cx} {pins : List (Addr × Obj)} {σ : St} {H H' : Hp} {s : Shared} {b : Addr} (I : Inv X pins σ H s) (hb : s.heap.objs.size ≤ b) (hn : H' b = none) : ae5 X pins H' b:=by
 refine ⟨hn,Nat.ne_of_gt (Nat.lt_of_lt_of_le I.lt hb),I.nofs hb,.inr (Nat.le_trans I.sz hb),fun x c e z=>?_,fun p hp z=>?_⟩
 ·obtain ⟨v,q⟩:=I.cell x c e
  exact absurd (Nat.lt_of_lt_of_le q.lt (by rw [z]; exact hb)) (Nat.lt_irrefl _)
 ·exact absurd (Nat.lt_of_lt_of_le (Heap.lt_size (I.pin p hp).1) (by rw [z]; exact hb)) (Nat.lt_irrefl _)
structure Turn (P : Program) (w : World) (K : PySem.W.Frag) (tg : Expr) (J : It) (fp : List Addr) (it : Addr) (tn : Nat → Heap → Prop) : Prop where
 mem : it ∈ fp
 obj : ∀ i h,tn i h → ∀ b ∈ fp,∃ o,h.get? b = some o ∧ ∀ v,o.data ≠ .cell v
 keep : ∀ i h h',tn i h → (∀ b ∈ fp,∀ o,h.get? b = some o → h'.get? b = some o) → tn i h'
 item : ∀ (X : Cx),X.prog = P → X.w = w → X.K = K → X.calm = true → ∀ (i : Nat) (pins : List (Addr × Obj)) (s : Shared) (σ : St) (H : Hp) (E : Value → Shared → Prop),Inv X pins σ H s → (∀ b ∈ fp,ae5 X pins H b) → tn i s.heap → J.go i H →
  wpAny (model P w) X.A (pyNext (.ref it)) (fun r s1=>∃ u,r = some u ∧
   wpAny (model P w) X.A (letOwnedTupleGo tg (.ref it) u) (fun _ s2=>∃ x H',Inv X pins σ H' s2 ∧ Q6 x u ∧ J.yld i H x H' ∧ tn (i + 1) s2.heap ∧ ∀ b ∈ fp,H' b = none) E s1) E s
 done : ∀ (X : Cx),X.prog = P → X.w = w → X.K = K → X.calm = true → ∀ (i : Nat) (pins : List (Addr × Obj)) (s : Shared) (σ : St) (H : Hp) (E : Value → Shared → Prop),Inv X pins σ H s → (∀ b ∈ fp,ae5 X pins H b) → tn i s.heap → J.stop i H →
  wpAny (model P w) X.A (pyNext (.ref it)) (fun r s1=>r = none ∧ Inv X pins σ H s1) E s
 self : ∀ (A : Around) (i : Nat) (s : Shared) (Q : Value → Shared → Prop) (E : Value → Shared → Prop),tn i s.heap → Q (.ref it) s → wpAny (model P w) A (pyIter (.ref it)) Q E s
noncomputable abbrev TI:=St → Hp → (It → Hp → Prop) → Prop
noncomputable def PIE (X : Cx) (pins : List (Addr × Obj)) (σ : St) (tg : Expr) (R : It → Hp → Prop) (itv : Value) (s2 : Shared) : Prop :=
 ∃ (it : Addr) (fp : List Addr) (tn : Nat → Heap → Prop) (J : It) (H' : Hp),itv = .ref it ∧ Inv X pins σ H' s2 ∧ Turn X.prog X.w X.K tg J fp it tn ∧ tn 0 s2.heap ∧ (∀ b ∈ fp,ae5 X pins H' b) ∧ R J H'
noncomputable def PI (X : Cx) (tg iter : Expr) (wi : TI) : Prop :=
 ∀ (pins : List (Addr × Obj)) (s : Shared) (σ : St) (H : Hp) (R : It → Hp → Prop),Inv X pins σ H s → wi σ H R →
  wpAny (model X.prog X.w) X.A (eval iter X.env) (fun v s1=>wpAny (model X.prog X.w) X.A (pyIter v) (PIE X pins σ tg R) X.xe s1) X.xe s
theorem bl9 {M : Model} {A : Around} {E : Value → Shared → Prop} {s : Shared} {tg : Expr} {it : Addr} {u : Value} {o : Obj} {n : String} {vs : Array Value} {Q : Unit → Shared → Prop} (ho : s.heap.get? it = some o) (hc : o.cls = .type n) (hd : o.data = .fields vs)
    (hn : ["enumerate", "zip", "dict_itemiterator", "dict_reverseitemiterator", "odict_iterator", "itertools.zip_longest", "itertools.pairwise"].contains n = false) (hQ : Q () s) : wpAny M A (letOwnedTupleGo tg (.ref it) u) Q E s:=by
  unfold letOwnedTupleGo
  cases tg <;> first
    | exact wpAny_pure hQ
    | (cases u <;> first
        | exact wpAny_pure hQ
        | (refine wpAny_bind (wpAny_load ho ?_)
           rw [hc,hd]
           show wpAny M A (if (["enumerate", "zip", "dict_itemiterator", "dict_reverseitemiterator", "odict_iterator", "itertools.zip_longest", "itertools.pairwise"].contains n && vs[0]? == some (rawInt _)) = true then _ else _) Q E s
           rw [if_neg (by intro h; rw [hn,Bool.false_and] at h; cases h)]
           exact wpAny_pure hQ))
noncomputable def Itl (K : PySem.W.Frag) (a : Addr) : It :=
 ⟨fun i H=>∃ xs x,SqL K H a xs ∧ xs[i]? = some x,fun i H x H'=>H' = H ∧ ∀ xs,SqL K H a xs → xs[i]? = some x,fun i H=>∃ xs,SqL K H a xs ∧ xs.length ≤ i⟩
noncomputable def Itt (K : PySem.W.Frag) (a : Addr) : It :=
 ⟨fun i H=>∃ xs x,SqT K H a xs ∧ xs[i]? = some x,fun i H x H'=>H' = H ∧ ∀ xs,SqT K H a xs → xs[i]? = some x,fun i H=>∃ xs,SqT K H a xs ∧ xs.length ≤ i⟩
noncomputable def Itr (lo : Int) (n : Nat) : It:=⟨fun i _=>i < n,fun i H x H'=>H' = H ∧ x = .int (lo + i),fun i _=>n ≤ i⟩
theorem bF5 {P : Program} {w : World} {K : PySem.W.Frag} {tg : Expr} (a it : Addr) : Turn P w K tg (Itl K a) [it] it (fun i h=>h.IsListIter it a i) where
 mem:=by simp
 obj:=fun i h st b hb=>by
  have e : b = it:=by simpa using hb
  subst e
  obtain ⟨o,e,c,d⟩:=st
  exact ⟨o,e,fun v z=>by rw [d] at z; cases z⟩
 keep:=fun i h h' st k=>st.at fun o e=>k it (by simp) o e
 item:=by
  intro X hP hw hK hc i pins s σ H E I hf st hg
  subst hP hw hK
  obtain ⟨xs,x,hq,hx⟩:=hg
  obtain ⟨its,rv,p,hz⟩:=I.list hq
  obtain ⟨u,hu,ru⟩:=rv.get hx
  obtain ⟨f0,f1,f2,f3,f4,f5⟩:=hf it (by simp)
  refine wpAny_pyNext_list_item st p.isList (x:=u) (by simpa using hu) fun h' st' sb=>?_
  have I1 : Inv X pins σ H { s with heap:=h' }:=I.turned (t':=s.toks) (fun b o hb e=>(sb.2 b hb).trans e) f0 f1 f3 f4 f5
  obtain ⟨o,e,c,d⟩:=id st'
  exact ⟨u,rfl,bl9 (s:={ s with heap:=h' }) e c d (by decide) ⟨x,H,I1,ru,⟨rfl,fun ys hy=>by rw [I.list_inj hy hq]; exact hx⟩,st',fun b hb=>(hf b hb).1⟩⟩
 done:=by
  intro X hP hw hK hc i pins s σ H E I hf st hg
  subst hP hw hK
  obtain ⟨xs,hq,hx⟩:=hg
  obtain ⟨its,rv,p,hz⟩:=I.list hq
  obtain ⟨f0,f1,f2,f3,f4,f5⟩:=hf it (by simp)
  have hl:=rv.length
  exact wpAny_pyNext_list_end (I.ok.hd hc) st p.isList (by simp; omega) fun h' eb=>⟨rfl,I.turned (t':=s.toks) (fun b o hb e=>eb b o hb e) f0 f1 f3 f4 f5⟩
 self:=fun _ _ _ _ _ st h=>wpAny_pyIter_listiter st h
theorem bq1 {P : Program} {w : World} {K : PySem.W.Frag} {tg : Expr} (a it : Addr) : Turn P w K tg (Itt K a) [it] it (fun i h=>h.IsTupleIter it a i) where
 mem:=by simp
 obj:=fun i h st b hb=>by
  have e : b = it:=by simpa using hb
  subst e
  obtain ⟨o,e,c,d⟩:=st
  exact ⟨o,e,fun v z=>by rw [d] at z; cases z⟩
 keep:=fun i h h' st k=>st.at fun o e=>k it (by simp) o e
 item:=by
  intro X hP hw hK hc i pins s σ H E I hf st hg
  subst hP hw hK
  obtain ⟨xs,x,hq,hx⟩:=hg
  obtain ⟨its,rv,p,hz⟩:=I.tuple hq
  obtain ⟨u,hu,ru⟩:=rv.get hx
  obtain ⟨f0,f1,f2,f3,f4,f5⟩:=hf it (by simp)
  refine wpAny_pyNext_tuple_item st (show s.heap.IsTuple a its.toArray from p) (x:=u) (by simpa using hu) fun h' st' sb=>?_
  have I1 : Inv X pins σ H { s with heap:=h' }:=I.turned (t':=s.toks) (fun b o hb e=>(sb.2 b hb).trans e) f0 f1 f3 f4 f5
  obtain ⟨o,e,c,d⟩:=id st'
  exact ⟨u,rfl,bl9 (s:={ s with heap:=h' }) e c d (by decide) ⟨x,H,I1,ru,⟨rfl,fun ys hy=>by rw [I.tuple_inj hy hq]; exact hx⟩,st',fun b hb=>(hf b hb).1⟩⟩
 done:=by
  intro X hP hw hK hc i pins s σ H E I hf st hg
  subst hP hw hK
  obtain ⟨xs,hq,hx⟩:=hg
  obtain ⟨its,rv,p,hz⟩:=I.tuple hq
  obtain ⟨f0,f1,f2,f3,f4,f5⟩:=hf it (by simp)
  have hl:=rv.length
  exact wpAny_pyNext_tuple_end (I.ok.hd hc) st (show s.heap.IsTuple a its.toArray from p) (by simp; omega) fun h' eb=>⟨rfl,I.turned (t':=s.toks) (fun b o hb e=>eb b o hb e) f0 f1 f3 f4 f5⟩
 self:=fun _ _ _ _ _ st h=>wpAny_pyIter_tupleiter st h
theorem bq2 {P : Program} {w : World} {K : PySem.W.Frag} {tg : Expr} (it : Addr) (lo : Int) (n : Nat) : Turn P w K tg (Itr lo n) [it] it (fun i h=>IsRangeIter h it (lo + (i : Nat) * 1) ((n : Int) - (i : Nat)) 1) where
 mem:=by simp
 obj:=fun i h st b hb=>by
  have e : b = it:=by simpa using hb
  subst e
  exact ⟨_,st,fun v z=>by
   have z' : Data.fields _ = Data.cell v:=z
   cases z'⟩
 keep:=fun i h h' st k=>k it (by simp) _ st
 item:=by
  intro X hP hw hK hc i pins s σ H E I hf st hg
  subst hP hw hK
  obtain ⟨f0,f1,f2,f3,f4,f5⟩:=hf it (by simp)
  have W:=Walks.range (prog:=X.prog) (w:=X.w) (I.ok.hd hc) it lo 1 n
  refine W.item i s _ _ hg st fun v h' tk hv st' kk=>?_
  obtain ⟨t,rfl⟩:=hv
  have I1 : Inv X pins σ H { s with heap:=h',toks:=tk }:=I.turned (fun b o hb e=>kk b o (by simpa using hb) e) f0 f1 f3 f4 f5
  refine ⟨_,rfl,bl9 (s:={ s with heap:=h',toks:=tk }) (n := "range_iterator") st' rfl rfl (by decide) ⟨.int (lo + i),H,I1,⟨t,?_⟩,⟨rfl,rfl⟩,st',fun b hb=>(hf b hb).1⟩⟩
  rw [Int.mul_one]
 done:=by
  intro X hP hw hK hc i pins s σ H E I hf st hg
  subst hP hw hK
  obtain ⟨f0,f1,f2,f3,f4,f5⟩:=hf it (by simp)
  exact wpAny_pyNext_range_end (I.ok.hd hc) st (by have : n ≤ i:=hg; omega) fun h' eb=>⟨rfl,I.turned (t':=s.toks) (fun b o hb e=>eb b o hb e) f0 f1 f3 f4 f5⟩
 self:=fun _ _ _ _ _ st h=>wpAny_pyIter_rangeiter st h
end L2
namespace L2
open PySem PySem.Spec PyProof.Rows
section
variable {X : Cx} {tg : Expr}
noncomputable def cY1 (K : PySem.W.Frag) (tl : TE) : TI:=fun σ H R=>tl σ H fun x H1=>∃ a,x = .ref a ∧ (∃ xs,SqL K H1 a xs) ∧ R (Itl K a) H1
noncomputable def dc5 (K : PySem.W.Frag) (tl : TE) : TI:=fun σ H R=>tl σ H fun x H1=>∃ a,x = .ref a ∧ (∃ xs,SqT K H1 a xs) ∧ R (Itt K a) H1
theorem cl0 {l : Expr} {tl : TE} (hl : PE X l tl) : PI X tg l (cY1 X.K tl):=by
 intro pins s σ H R I h
 refine thn (hl pins s σ H _ I h) fun v s1 ⟨x,H1,I1,r1,q1⟩=>?_
 obtain ⟨a,e,⟨xs,hq⟩,q⟩:=q1
 subst e
 cases r1
 obtain ⟨its,rv,p,hz⟩:=I1.list hq
 refine wpAny_pyIter_list p.isList ?_
 refine ⟨s1.heap.objs.size,[s1.heap.objs.size],_,_,H1,rfl,I1.kept (t':=s1.toks) fun b o e=>Heap.get?_push_of_some _ e,bF5 a _,⟨_,Heap.get?_push_size _ rfl,rfl,rfl⟩,fun b hb=>?_,q⟩
 have e : b = s1.heap.objs.size:=by simpa using hb
 subst e
 exact I1.fpOk (Nat.le_refl _) (I1.hok.fresh (Nat.le_refl _))
theorem cG4 {l : Expr} {tl : TE} (hl : PE X l tl) : PI X tg l (dc5 X.K tl):=by
 intro pins s σ H R I h
 refine thn (hl pins s σ H _ I h) fun v s1 ⟨x,H1,I1,r1,q1⟩=>?_
 obtain ⟨a,e,⟨xs,hq⟩,q⟩:=q1
 subst e
 cases r1
 obtain ⟨its,rv,p,hz⟩:=I1.tuple hq
 refine wpAny_pyIter_tuple (show s1.heap.IsTuple a its.toArray from p) ?_
 refine ⟨s1.heap.objs.size,[s1.heap.objs.size],_,_,H1,rfl,I1.kept (t':=s1.toks) fun b o e=>Heap.get?_push_of_some _ e,bq1 a _,⟨_,Heap.get?_push_size _ rfl,rfl,rfl⟩,fun b hb=>?_,q⟩
 have e : b = s1.heap.objs.size:=by simpa using hb
 subst e
 exact I1.fpOk (Nat.le_refl _) (I1.hok.fresh (Nat.le_refl _))
theorem bi4 {pins : List (Addr × Obj)} {σ : St} {H : Hp} {s : Shared} {R : It → Hp → Prop} {E : Value → Shared → Prop} {lo hi : Int} {t u v : Tok} {tk : Nat} (I : Inv X pins σ H s) (h1 : -(2 ^ 62) ≤ lo) (h2 : lo < 2 ^ 62) (h3 : -(2 ^ 62) ≤ hi) (h4 : hi < 2 ^ 62)
  (q : R (Itr lo (hi - lo).toNat) H) : wpAny (model X.prog X.w) X.A (pyIter (.ref s.heap.objs.size)) (PIE X pins σ tg R) E { s with heap:=s.heap.push { cls:=.type "range", data:=.fields #[.int lo t,.int hi u,.int 1 v] },toks:=tk }:=by
 refine wpAny_pyIter_range (IsRange.new ..) (small_one h1 h2 h3 h4) ?_
 have I1 : Inv X pins σ H { s with heap:=s.heap.push { cls:=.type "range", data:=.fields #[.int lo t,.int hi u,.int 1 v] },toks:=tk }:=I.kept fun b o e=>Heap.get?_push_of_some _ e
 refine ⟨(s.heap.push { cls:=.type "range", data:=.fields #[.int lo t,.int hi u,.int 1 v] }).objs.size,[(s.heap.push { cls:=.type "range", data:=.fields #[.int lo t,.int hi u,.int 1 v] }).objs.size],_,_,H,rfl,
  I1.kept (t':=tk) fun b o e=>Heap.get?_push_of_some _ e,bq2 _ lo (hi - lo).toNat,?_,fun b hb=>?_,q⟩
 ·have e1 : lo + ((0 : Nat) : Int) * 1 = lo:=by simp
  have e2 : (((hi - lo).toNat : Nat) : Int) - ((0 : Nat) : Int) = Builtin.Range.rangeSize lo hi 1:=by rw [rangeSize_one]; split <;> omega
  show IsRangeIter _ _ (lo + ((0 : Nat) : Int) * 1) ((((hi - lo).toNat : Nat) : Int) - ((0 : Nat) : Int)) 1
  rw [e1,e2]
  exact Heap.get?_push_size _ rfl
 ·have e : b = (s.heap.push { cls:=.type "range", data:=.fields #[.int lo t,.int hi u,.int 1 v] }).objs.size:=by simpa using hb
  subst e
  exact I1.fpOk (Nat.le_refl _) (I1.hok.fresh (Nat.le_refl _))
noncomputable def cY0 (ta : TA) : TI:=fun σ H R=>ta σ H fun vs H1=>∃ j : Int,vs = [.int j] ∧ -(2 ^ 62) ≤ j ∧ j < 2 ^ 62 ∧ R (Itr 0 j.toNat) H1
noncomputable def cX9 (ta : TA) : TI:=fun σ H R=>ta σ H fun vs H1=>∃ i j : Int,vs = [.int i,.int j] ∧ (-(2 ^ 62) ≤ i ∧ i < 2 ^ 62 ∧ -(2 ^ 62) ≤ j ∧ j < 2 ^ 62) ∧ R (Itr i (j - i).toNat) H1
theorem bG6 {a : Expr} {ta : TA} {p pos : Pos} (hg : Gl X "range") (hm : X.mg "range" = none) (ha : PA X [a] ta) (hs : starEach [a] X.env = [(false,eval a X.env)]:=by rfl) : PI X tg (.Call (.Name "range" p) [a] [] pos) (cY0 ta):=by
 intro pins s σ H R I h
 refine Call_ (am3 I hg hm boot_range (PyProof.Rows.callWith_type1 (thn (ha pos pins s σ H _ I h) fun us s1 ⟨vs,H1,I1,r1,q1⟩=>?_) hs rfl))
 obtain ⟨j,e,q1,q2,q⟩:=q1
 subst e
 cases r1 with
 | cons r rr =>
  cases rr
  obtain ⟨t,rfl⟩:=r
  exact call_range_1 (bi4 I1 (by omega) (by omega) q1 q2 (by simpa using q))
theorem bG5 {a b : Expr} {ta : TA} {p pos : Pos} (hg : Gl X "range") (hm : X.mg "range" = none) (ha : PA X [a,b] ta) (hs : starEach [a,b] X.env = [(false,eval a X.env),(false,eval b X.env)]:=by rfl) (hs2 : starEach [b] X.env = [(false,eval b X.env)]:=by rfl) :
  PI X tg (.Call (.Name "range" p) [a,b] [] pos) (cX9 ta):=by
 intro pins s σ H R I h
 refine Call_ (am3 I hg hm boot_range (PyProof.Rows.callWith_type1 (thn (ha pos pins s σ H _ I h) fun us s1 ⟨vs,H1,I1,r1,q1⟩=>?_) (by rw [hs,hs2]) (by rw [hs2]; rfl)))
 obtain ⟨i,j,e,⟨q1,q2,q3,q4⟩,q⟩:=q1
 subst e
 cases r1 with
 | cons r rr =>
  cases rr with
  | cons r' rr =>
   cases rr
   obtain ⟨t,rfl⟩:=r
   obtain ⟨t',rfl⟩:=r'
   exact call_range_2 (bi4 I1 q1 q2 q3 q4 q)
noncomputable def da9 (wi : TI) (g : TG) (tb : TS) : TS:=fun D σ H=>wi σ H fun J H1=>∃ W : Nat → Nat → St → Hp → Prop,(∃ m,W 0 m σ H1) ∧ ∀ i m σ H,W i m σ H →
 (J.stop i H ∧ D.nx σ H) ∨ (J.go i H ∧ ∃ N : St → Hp → Prop,(∀ σ' H',N σ' H' → ∃ m',m' < m ∧ W (i + 1) m' σ' H') ∧ ∀ x H',J.yld i H x H' → g x σ H' fun σ2 H2=>tb { D with nx:=N,ct:=N,bk:=D.nx } σ2 H2)
noncomputable def aM9 (fp : List Addr) (h : Heap) : List (Addr × Obj):=fp.filterMap fun b=>(h.get? b).map fun o=>(b,o)
theorem ah4 {fp : List Addr} {h : Heap} {b : Addr} {o : Obj} (hb : b ∈ fp) (e : h.get? b = some o) : (b,o) ∈ aM9 fp h:=List.mem_filterMap.mpr ⟨b,hb,by rw [e]; rfl⟩
theorem bH1 {fp : List Addr} {h : Heap} {p : Addr × Obj} (hp : p ∈ aM9 fp h) : p.1 ∈ fp ∧ h.get? p.1 = some p.2:=by
 obtain ⟨b,hb,e⟩:=List.mem_filterMap.mp hp
 cases q : h.get? b with
 | none=>rw [q] at e; cases e
 | some o =>
  rw [q] at e
  have e' : (b,o) = p:=Option.some.inj e
  subst e'
  exact ⟨hb,q⟩
theorem Inv.pinned {pins : List (Addr × Obj)} {σ : St} {H : Hp} {s : Shared} {fp : List Addr} (I : Inv X pins σ H s) (hf : ∀ b ∈ fp,ae5 X pins H b) (ho : ∀ b ∈ fp,∃ o,s.heap.get? b = some o ∧ ∀ v,o.data ≠ .cell v) : Inv X (pins ++ aM9 fp s.heap) σ H s :=
 I.pins_of fun p hp=>(List.mem_append.mp hp).elim (fun z=>I.pin p (List.mem_append_right _ z)) fun z=>by
  obtain ⟨hb,e⟩:=bH1 z
  obtain ⟨f0,f1,f2,_⟩:=hf p.1 hb
  obtain ⟨o,e',d⟩:=ho p.1 hb
  rw [e] at e'; cases e'
  exact ⟨e,f0,f1,f2,d⟩
theorem Inv.unpinned {pins pl : List (Addr × Obj)} {σ : St} {H : Hp} {s : Shared} (I : Inv X (pins ++ pl) σ H s) : Inv X pins σ H s:=I.pins_of fun p hp=>I.pin p (List.mem_append_right _ (List.mem_append_left _ hp))
theorem cG1 {iter : Expr} {body : List Stmt} {wi : TI} {g : TG} {tb : TS} {pos : Pos} (hp : PassesOwn (model X.prog X.w) X.A X.env X.xe) (hc : X.calm = true) (hi : PI X tg iter wi) (hg : PG X tg g) (hb : PSs X body tb)
  (hs : ∀ x,foldedSetIterable iter X.env x = pure x:=by intro _; rfl) : PS X (.For tg iter body [] pos) (da9 wi g tb):=by
 intro pins s σ H D I h
 refine wpAny_For (thn (hi pins s σ H _ I h) fun v s1 h1=>thn h1 fun itv s2 h2=>?_) hs
 obtain ⟨it,fp,tn,J,H2,e,I2,T,st2,f2,W,⟨m0,w0⟩,turn⟩:=h2
 subst e
 have stat : ∀ {H' : Hp},(∀ b ∈ fp,H' b = none) → ∀ b ∈ fp,ae5 X pins H' b:=fun hn b hb=>⟨hn b hb,(f2 b hb).2⟩
 refine codeAny_forLoop_any (fun n s'=>∃ i σ' H',Inv X pins σ' H' s' ∧ tn i s'.heap ∧ (∀ b ∈ fp,H' b = none) ∧ W i n σ' H') ?_ m0 ⟨0,σ,H2,I2,st2,fun b hb=>(f2 b hb).1,w0⟩
 rintro n s3 ⟨i,σ3,H3,I3,st3,fr3,w3⟩
 rcases turn i n σ3 H3 w3 with ⟨stop,qn⟩ | ⟨go,N,hN,step⟩
 ·refine wpAny_passesOwn hp (thn (T.done X rfl rfl rfl hc i pins s3 σ3 H3 X.xe I3 (stat fr3) st3 stop) fun r s4 ⟨hr,I4⟩=>?_)
  subst hr
  exact wpAny_execs_nil ⟨σ3,H3,I4,qn⟩
 ·refine wpAny_passesOwn hp (thn (T.item X rfl rfl rfl hc i pins s3 σ3 H3 X.xe I3 (stat fr3) st3 go) fun r s4 ⟨u,hr,h4⟩=>?_)
  subst hr
  refine wpAny_passesOwn hp (thn h4 fun _ s5 ⟨x,H5,I5,r5,y5,st5,fr5⟩=>?_)
  have I5':=I5.pinned (stat fr5) (T.obj _ _ st5)
  refine wpAny_passesOwn hp (thn (hg _ s5 σ3 H5 x u _ I5' r5 (step x H5 y5)) fun _ s6 ⟨σ6,H6,I6,q6⟩=>?_)
  refine wpAny_passesOwn hp (thn (hb _ s6 σ6 H6 _ I6 q6) fun f s7 q7=>?_)
  have again : ∀ {σ7 : St} {H7 : Hp},Inv X (pins ++ aM9 fp s5.heap) σ7 H7 s7 → N σ7 H7 → ∃ m,m < n ∧ ∃ i σ' H',Inv X pins σ' H' s7 ∧ tn i s7.heap ∧ (∀ b ∈ fp,H' b = none) ∧ W i m σ' H':=fun {σ7 H7} I7 n7=>by
   obtain ⟨m',hm,w7⟩:=hN σ7 H7 n7
   refine ⟨m',hm,i + 1,σ7,H7,I7.unpinned,T.keep _ _ _ st5 fun b hb o e=>(I7.pin (b,o) (List.mem_append_right _ (List.mem_append_right _ (ah4 hb e)))).1,fun b hb=>?_,w7⟩
   obtain ⟨o,e,d⟩:=T.obj _ _ st5 b hb
   exact (I7.pin (b,o) (List.mem_append_right _ (List.mem_append_right _ (ah4 hb e)))).2.1
  cases f with
  | next=>obtain ⟨σ7,H7,I7,n7⟩:=q7; exact again I7 n7
  | cont=>obtain ⟨σ7,H7,I7,n7⟩:=q7; exact again I7 n7
  | brk=>obtain ⟨σ7,H7,I7,q7⟩:=q7; exact ⟨σ7,H7,I7.unpinned,q7⟩
  | ret v=>obtain ⟨x7,σ7,H7,I7,r7,q7⟩:=q7; exact ⟨x7,σ7,H7,I7.unpinned,r7,q7⟩
end
end L2
namespace L2
open PySem PySem.Spec PyProof.Rows
noncomputable abbrev R2:=V → V → Hp → VK → Prop
noncomputable def OpR (X : Cx) (f : Value → Value → Sem Value) (r : R2) : Prop :=
 ∀ (pins : List (Addr × Obj)) (s : Shared) (σ : St) (H : Hp) (x y : V) (v u : Value) (Q : VK),Inv X pins σ H s → Q6 x v → Q6 y u → r x y H Q →
  wpAny (model X.prog X.w) X.A (f v u) (EP X pins σ Q) X.xe s
noncomputable def UnR (X : Cx) (f : Value → Sem Value) (r : V → Hp → VK → Prop) : Prop :=
 ∀ (pins : List (Addr × Obj)) (s : Shared) (σ : St) (H : Hp) (x : V) (v : Value) (Q : VK),Inv X pins σ H s → Q6 x v → r x H Q →
  wpAny (model X.prog X.w) X.A (f v) (EP X pins σ Q) X.xe s
noncomputable def u5 (X : Cx) (f : Value) (r : List V → Hp → VK → Prop) : Prop :=
 ∀ (pins : List (Addr × Obj)) (s : Shared) (σ : St) (H : Hp) (xs : List V) (us : List Value) (Q : VK),Inv X pins σ H s → K2 xs us → r xs H Q →
  wpAny (model X.prog X.w) X.A (call f us) (EP X pins σ Q) X.xe s
noncomputable def dd6 (X : Cx) (r : V → Hp → (Bool → Hp → Prop) → Prop) : Prop :=
 ∀ (pins : List (Addr × Obj)) (s : Shared) (σ : St) (H : Hp) (x : V) (v : Value) (Q : Bool → Hp → Prop),Inv X pins σ H s → Q6 x v → r x H Q →
  wpAny (model X.prog X.w) X.A (truthy v) (TP X pins σ Q) X.xe s
noncomputable def tOp (r : R2) (ta tb : TE) : TE:=fun σ H Q=>ta σ H fun x H1=>tb σ H1 fun y H2=>r x y H2 Q
noncomputable def tUn (r : V → Hp → VK → Prop) (ta : TE) : TE:=fun σ H Q=>ta σ H fun x H1=>r x H1 Q
noncomputable def rI (C : Int → Int → Prop) (g : Int → Int → V) : R2:=fun x y H Q=>∃ i j,x = .int i ∧ y = .int j ∧ C i j ∧ Q (g i j) H
noncomputable def rI0 (g : Int → Int → V) : R2:=fun x y H Q=>∃ i j,x = .int i ∧ y = .int j ∧ Q (g i j) H
noncomputable def rU (g : Int → V) : V → Hp → VK → Prop:=fun x H Q=>∃ i,x = .int i ∧ Q (g i) H
section
variable {X : Cx} {a b c : Expr} {ta tb tc : TE} {pos : Pos}
theorem cQ6 (ha : PE X a ta) (hb : PE X b tb) {pins : List (Addr × Obj)} {s : Shared} {σ : St} {H : Hp} {R : V → V → Hp → Prop} (I : Inv X pins σ H s)
  (h : ta σ H fun x H1=>tb σ H1 fun y H2=>R x y H2) {Q : Value → Shared → Prop} {f : Value → Value → Sem Value}
  (hf : ∀ v u s2 x y H2,Inv X pins σ H2 s2 → Q6 x v → Q6 y u → R x y H2 → wpAny (model X.prog X.w) X.A (f v u) Q X.xe s2) :
  wpAny (model X.prog X.w) X.A (eval a X.env) (fun v s₁=>wpAny (model X.prog X.w) X.A (eval b X.env) (fun u s₂=>wpAny (model X.prog X.w) X.A (f v u) Q X.xe s₂) X.xe s₁) X.xe s:=by
 refine thn (ha pins s σ H _ I h) fun v s1 ⟨x,H1,I1,r1,q1⟩=>?_
 refine thn (hb pins s1 σ H1 _ I1 q1) fun u s2 ⟨y,H2,I2,r2,q2⟩=>?_
 exact hf v u s2 x y H2 I2 r1 r2 q2
theorem cu6 {op : Operator} {r : R2} (ho : OpR X (binaryOp op) r) (ha : PE X a ta) (hb : PE X b tb) : PE X (.BinOp a op b pos) (tOp r ta tb):=by
 intro pins s σ H Q I h
 exact wpAny_BinOp (cQ6 ha hb I h fun v u s2 x y H2 I2 rx ry q=>ho pins s2 σ H2 x y v u Q I2 rx ry q)
theorem cV0 {op : UnaryOp} {r : V → Hp → VK → Prop} (ho : UnR X (unaryOp op) r) (ha : PE X a ta) : PE X (.UnaryOp op a pos) (tUn r ta):=by
 intro pins s σ H Q I h
 exact UnaryOp_ (thn (ha pins s σ H _ I h) fun v s1 ⟨x,H1,I1,r1,q1⟩=>ho pins s1 σ H1 x v Q I1 r1 q1)
theorem opI {f : Value → Value → Sem Value} {C : Int → Int → Prop} {g : Int → Int → Int}
  (rule : ∀ (i j : Int) (t u : Tok) (s : Shared) (Q : Value → Shared → Prop) (E : Value → Shared → Prop),C i j → Q (.int (g i j) s.toks) { s with toks:=s.toks + 1 } → wpAny (model X.prog X.w) X.A (f (.int i t) (.int j u)) Q E s) :
  OpR X f (rI C fun i j=>.int (g i j)):=by
 intro pins s σ H x y v u Q I rx ry h
 obtain ⟨i,j,rfl,rfl,hc,q⟩:=h
 obtain ⟨t,rfl⟩:=rx
 obtain ⟨t',rfl⟩:=ry
 exact rule i j t t' s _ _ hc ⟨.int (g i j),H,I.tok _,⟨_,rfl⟩,q⟩
theorem cV7 {f : Value → Value → Sem Value} {g : Int → Int → Int}
  (rule : ∀ (i j : Int) (t u : Tok) (s : Shared) (Q : Value → Shared → Prop) (E : Value → Shared → Prop),Q (.int (g i j) s.toks) { s with toks:=s.toks + 1 } → wpAny (model X.prog X.w) X.A (f (.int i t) (.int j u)) Q E s) :
  OpR X f (rI0 fun i j=>.int (g i j)):=by
 intro pins s σ H x y v u Q I rx ry h
 obtain ⟨i,j,rfl,rfl,q⟩:=h
 obtain ⟨t,rfl⟩:=rx
 obtain ⟨t',rfl⟩:=ry
 exact rule i j t t' s _ _ ⟨.int (g i j),H,I.tok _,⟨_,rfl⟩,q⟩
theorem cm2 {f : Value → Value → Sem Value} {g : Int → Int → Bool}
  (rule : ∀ (i j : Int) (t u : Tok) (s : Shared) (Q : Value → Shared → Prop) (E : Value → Shared → Prop),Q (.bool (g i j)) s → wpAny (model X.prog X.w) X.A (f (.int i t) (.int j u)) Q E s) :
  OpR X f (rI0 fun i j=>.bl (g i j)):=by
 intro pins s σ H x y v u Q I rx ry h
 obtain ⟨i,j,rfl,rfl,q⟩:=h
 obtain ⟨t,rfl⟩:=rx
 obtain ⟨t',rfl⟩:=ry
 exact rule i j t t' s _ _ ⟨.bl (g i j),H,I,rfl,q⟩
noncomputable def de0 (i j : Int) : Prop:=0 ≤ j ∧ j ≤ 1000000 ∧ i.natAbs < 2 ^ 64
theorem bW8 : OpR X (binaryOp .Add) (rI0 fun i j=>.int (i + j)):=cV7 fun _ _ _ _ _ _ _ q=>add_int q
theorem cH4 : OpR X (binaryOp .Sub) (rI0 fun i j=>.int (i - j)):=cV7 fun _ _ _ _ _ _ _ q=>sub_int q
theorem cH6 : OpR X (binaryOp .Mod) (rI (fun _ j=>0 < j) fun i j=>.int (i % j)):=opI fun i j _ _ _ _ _ hc q=>by
 have h1 : (0 : Int) < j:=hc
 exact mod_int' (by omega) (by rw [Int.fmod_eq_emod_of_nonneg i (by omega)]; exact q)
theorem cH5 : OpR X (binaryOp .Pow) (rI de0 fun i j=>.int (i ^ j.toNat)):=opI fun _ _ _ _ _ _ _ hc q=>pow_int_small hc.1 hc.2.1 hc.2.2 q
theorem unI {f : Value → Sem Value} {g : Int → Int}
  (rule : ∀ (i : Int) (t : Tok) (s : Shared) (Q : Value → Shared → Prop) (E : Value → Shared → Prop),Q (.int (g i) s.toks) { s with toks:=s.toks + 1 } → wpAny (model X.prog X.w) X.A (f (.int i t)) Q E s) :
  UnR X f (rU fun i=>.int (g i)):=by
 intro pins s σ H x v Q I rx h
 obtain ⟨i,rfl,q⟩:=h
 obtain ⟨t,rfl⟩:=rx
 exact rule i t s _ _ ⟨.int (g i),H,I.tok _,⟨_,rfl⟩,q⟩
theorem cx5 : UnR X (unaryOp .USub) (rU fun i=>.int (-i)):=unI fun _ _ _ _ _ q=>neg_int q
end
section
variable {X : Cx} {a b c : Expr} {ta tb tc : TE} {pos : Pos}
theorem bd7 {pins : List (Addr × Obj)} {σ : St} {H : Hp} {s : Shared} {Q : VK} {k k' : Bool} (I : Inv X pins σ H s) (q : Q (.bl k) H) (e : k = k') : EP X pins σ Q (.bool k') s:=by
 subst e
 exact ⟨.bl k,H,I,rfl,q⟩
theorem cV3 : OpR X (compareOp .Lt) (rI0 fun i j=>.bl (decide (i < j))):=cm2 fun _ _ _ _ _ _ _ q=>lt_int q
theorem cV4 : OpR X (compareOp .LtE) (rI0 fun i j=>.bl (decide (i ≤ j))):=cm2 fun _ _ _ _ _ _ _ q=>le_int q
theorem cV5 : OpR X (compareOp .Gt) (rI0 fun i j=>.bl (decide (j < i))):=cm2 fun _ _ _ _ _ _ _ q=>gt_int q
theorem cV6 : OpR X (compareOp .GtE) (rI0 fun i j=>.bl (decide (j ≤ i))):=cm2 fun _ _ _ _ _ _ _ q=>ge_int q
theorem bG7 : OpR X (compareOp .In) (fun x y H Q=>∃ i j,x = .str i ∧ y = .str j ∧ Q (.bl (!(Builtin.Str.occurrences j i 0 j.length 1).isEmpty)) H):=by
 intro pins s σ H x y v u Q I rx ry h
 obtain ⟨i,j,rfl,rfl,q⟩:=h
 obtain ⟨t,rfl⟩:=rx
 obtain ⟨t',rfl⟩:=ry
 exact in_str (bd7 I q rfl)
theorem cH7 : OpR X (compareOp .Is) (fun x y H Q=>y = .non ∧ Q (.bl (decide (x = .non))) H):=by
 intro pins s σ H x y v u Q I rx ry h
 obtain ⟨rfl,q⟩:=h
 cases ry
 refine is_none_gen (bd7 I q ?_)
 cases x <;> first
  | (cases rx; rfl)
  | (obtain ⟨t,rfl⟩:=rx; rfl)
theorem cl9 : OpR X (compareOp .IsNot) (fun x y H Q=>y = .non ∧ Q (.bl (!decide (x = .non))) H):=by
 intro pins s σ H x y v u Q I rx ry h
 obtain ⟨rfl,q⟩:=h
 cases ry
 refine isnot_none_gen (bd7 I q ?_)
 cases x <;> first
  | (cases rx; rfl)
  | (obtain ⟨t,rfl⟩:=rx; rfl)
theorem ba8 : OpR X (compareOp .NotIn) (fun x y H Q=>∃ i j,x = .str i ∧ y = .str j ∧ Q (.bl (!(!(Builtin.Str.occurrences j i 0 j.length 1).isEmpty))) H):=by
 intro pins s σ H x y v u Q I rx ry h
 obtain ⟨i,j,rfl,rfl,q⟩:=h
 obtain ⟨t,rfl⟩:=rx
 obtain ⟨t',rfl⟩:=ry
 exact notIn_str (bd7 I q rfl)
theorem bX9 (b : Expr) {op : CmpOp} (h : op ≠ .In:=by decide) (h2 : op ≠ .NotIn:=by decide) : behindInMarks op b = false:=by
 have e1 : (op == CmpOp.In) = false:=by cases op <;> first | rfl | exact absurd rfl h
 have e2 : (op == CmpOp.NotIn) = false:=by cases op <;> first | rfl | exact absurd rfl h2
 cases b <;> simp [behindInMarks,e1,e2]
theorem cl4 {op : CmpOp} {r : R2} (ho : OpR X (compareOp op) r) (ha : PE X a ta) (hb : PE X b tb) (hm : behindInMarks op b = false) : PE X (.Compare a [op] [b] pos) (tOp r ta tb):=by
 intro pins s σ H Q I h
 exact wpAny_Compare1 (cQ6 ha hb I h fun v u s2 x y H2 I2 rx ry q=>ho pins s2 σ H2 x y v u Q I2 rx ry q) hm
noncomputable def ct8 (t : TE) : TT:=fun σ H Q=>t σ H fun x H'=>∃ k,x = .bl k ∧ Q k H'
theorem ck4 {op : CmpOp} {r : R2} (ho : OpR X (compareOp op) r) (ha : PE X a ta) (hb : PE X b tb) (hm : behindInMarks op b = false) : PT X (.Compare a [op] [b] pos) (ct8 (tOp r ta tb)):=by
 intro pins s σ H Q I h
 refine wpAny_isTrue_Compare1 (thn (ha pins s σ H _ I h) fun v s1 ⟨x,H1,I1,r1,q1⟩=>thn (hb pins s1 σ H1 _ I1 q1) fun u s2 ⟨y,H2,I2,r2,q2⟩ =>
  thn (ho pins s2 σ H2 x y v u _ I2 r1 r2 q2) fun c s3 ⟨z,H3,I3,r3,k,e,q3⟩=>?_) hm
 subst e
 cases r3
 exact wpAny_truthy_bool ⟨H3,I3,q3⟩
noncomputable def bU1 (r r' : R2) (ta tb tc : TE) : TE:=fun σ H Q=>ta σ H fun x H1=>tb σ H1 fun y H2=>r x y H2 fun z H3=>∃ k,z = .bl k ∧
 (if k = true then tc σ H3 fun w' H4=>r' y w' H4 Q else Q (.bl false) H3)
theorem bi9 {op op' : CmpOp} {r r' : R2} (ho : OpR X (compareOp op) r) (ho' : OpR X (compareOp op') r') (ha : PE X a ta) (hb : PE X b tb) (hc : PE X c tc)
  (hm : lastMarks [op,op'] [b,c] = false:=by with_unfolding_all rfl) : PE X (.Compare a [op,op'] [b,c] pos) (bU1 r r' ta tb tc):=by
 intro pins s σ H Q I h
 refine Compare_chain (thn (ha pins s σ H _ I h) fun v s1 ⟨x,H1,I1,r1,q1⟩=>chain_link (thn (hb pins s1 σ H1 _ I1 q1) fun u s2 ⟨y,H2,I2,r2,q2⟩ =>
  thn (ho pins s2 σ H2 x y v u _ I2 r1 r2 q2) fun d s3 ⟨z,H3,I3,r3,k,e,q3⟩=>?_)) hm
 subst e
 cases r3
 refine wpAny_truthy_bool ?_
 cases k with
 | false=>exact ite_ff ⟨.bl false,H3,I3,rfl,q3⟩
 | true=>exact ite_tt (chain_last (thn (hc pins s3 σ H3 _ I3 q3) fun w' s4 ⟨z',H4,I4,r4,q4⟩=>ho' pins s4 σ H4 y z' u w' Q I4 r2 r4 q4))
theorem bi5 {op op' : CmpOp} {r r' : R2} (ho : OpR X (compareOp op) r) (ho' : OpR X (compareOp op') r') (ha : PE X a ta) (hb : PE X b tb) (hc : PE X c tc)
  (hm : lastMarks [op,op'] [b,c] = false:=by with_unfolding_all rfl) : PT X (.Compare a [op,op'] [b,c] pos) (ct8 (bU1 r r' ta tb tc)):=by
 intro pins s σ H Q I h
 refine isTrue_chain (thn (ha pins s σ H _ I h) fun v s1 ⟨x,H1,I1,r1,q1⟩=>test_link (thn (hb pins s1 σ H1 _ I1 q1) fun u s2 ⟨y,H2,I2,r2,q2⟩ =>
  thn (ho pins s2 σ H2 x y v u _ I2 r1 r2 q2) fun d s3 ⟨z,H3,I3,r3,k,e,q3⟩=>?_)) hm
 subst e
 cases r3
 refine wpAny_truthy_bool ?_
 cases k with
 | false =>
  obtain ⟨k',e',q'⟩:=q3
  cases e'
  exact ite_ff ⟨H3,I3,q'⟩
 | true =>
  refine ite_tt (test_last (thn (hc pins s3 σ H3 _ I3 q3) fun w' s4 ⟨z',H4,I4,r4,q4⟩=>thn (ho' pins s4 σ H4 y z' u w' _ I4 r2 r4 q4) fun d' s5 ⟨z2,H5,I5,r5,k2,e2,q5⟩=>?_))
  subst e2
  cases r5
  exact wpAny_truthy_bool ⟨H5,I5,q5⟩
noncomputable def cZ4 (K : PySem.W.Frag) (x : V) (H : Hp) (k : Bool) : Prop :=
 match x with
 | .non=>k = false
 | .bl b=>k = b
 | .int i=>k = (i != 0)
 | .str y=>y.length ≤ sizeLine ∧ k = ((y.length : Int) != 0)
 | .byt y=>y.size ≤ sizeLine ∧ k = ((y.size : Int) != 0)
 | .ref p=>(∃ xs,SqL K H p xs ∧ k = !xs.isEmpty) ∨ (∃ xs,SqT K H p xs ∧ k = !xs.isEmpty) ∨ ∃ kvs,H p = some (.dK kvs) ∧ k = !kvs.isEmpty
 | _=>False
theorem bu4 {κ : Type} {kvs : List (κ × V)} {vs : List (κ × Value)} (r : KV kvs vs) : (!vs.isEmpty) = !kvs.isEmpty:=by
 cases r <;> rfl
theorem aO3 {xs : List V} {its : List Value} (r : K2 xs its) : (!its.toArray.isEmpty) = !xs.isEmpty:=by
 cases r <;> simp
theorem aE4 : (sizeLine : Nat) < 2 ^ 63:=by rw [sizeLine_eq]; decide
theorem cx8 : dd6 X (fun x H Q=>∃ k,cZ4 X.K x H k ∧ Q k H):=by
 intro pins s σ H x v Q I rx h
 obtain ⟨k,e,q⟩:=h
 have hl:=aE4
 have hs : sizeLine = 16777216:=sizeLine_eq
 cases x with
 | non =>
  cases rx
  have e' : k = false:=e
  subst e'
  exact truthy_none ⟨H,I,q⟩
 | bl b =>
  cases rx
  have e' : k = b:=e
  subst e'
  exact wpAny_truthy_bool ⟨H,I,q⟩
 | int i =>
  obtain ⟨t,rfl⟩:=rx
  have e' : k = (i != 0):=e
  subst e'
  exact PySem.P.truthy_int ⟨H,I,q⟩
 | str y =>
  obtain ⟨t,rfl⟩:=rx
  obtain ⟨hy,e'⟩ : y.length ≤ sizeLine ∧ k = ((y.length : Int) != 0):=e
  subst e'
  exact PySem.P.truthy_str (by omega) ⟨H,I.tok _,q⟩
 | byt y =>
  obtain ⟨t,rfl⟩:=rx
  obtain ⟨hy,e'⟩ : y.size ≤ sizeLine ∧ k = ((y.size : Int) != 0):=e
  subst e'
  exact PySem.W.truthy_bytes (by omega) ⟨H,I.tok _,q⟩
 | ref p =>
  cases rx
  have e' : (∃ xs,SqL X.K H p xs ∧ k = !xs.isEmpty) ∨ (∃ xs,SqT X.K H p xs ∧ k = !xs.isEmpty) ∨ ∃ kvs,H p = some (.dK kvs) ∧ k = !kvs.isEmpty:=e
  rcases e' with ⟨xs,hx,e'⟩ | ⟨xs,hx,e'⟩ | ⟨kvs,hx,e'⟩
  ·subst e'
   obtain ⟨its,r,pl,hz⟩:=I.list hx
   have hlen:=r.length
   exact wpAny_truthy_list pl.isList (by simp only [List.size_toArray]; omega) ⟨H,I.tok _,by rw [aO3 r]; exact q⟩
  ·subst e'
   obtain ⟨its,r,pl,hz⟩:=I.tuple hx
   have hlen:=r.length
   exact truthy_tuple pl (by simp only [List.size_toArray]; omega) ⟨H,I.tok _,by rw [aO3 r]; exact q⟩
  ·subst e'
   obtain ⟨hz,hS,vs,r,m⟩ : kvs.length ≤ sizeLine ∧ (p == sysModules) = false ∧ ∃ vs,KV kvs vs ∧ s.heap.DictOf (bc1 X.prog X.w) p vs:=I.hok p _ hx
   have hlen : kvs.length = vs.length:=Paired.length r
   exact wpAny_truthy_dict hS m (by omega) ⟨H,I.tok _,by rw [bu4 r]; exact q⟩
 | _=>exact (show False from e).elim
theorem bV6 (ha : PE X a ta) (he : ∀ whole,isTrue a X.env whole = (do let v ← whole; standAt a.pos; holding [v] (truthy v))) :
  PT X a (fun σ H Q=>ta σ H fun x H'=>∃ k,cZ4 X.K x H' k ∧ Q k H'):=by
 intro pins s σ H Q I h
 exact isTrue_plain (thn (ha pins s σ H _ I h) fun v s1 ⟨x,H1,I1,r1,q1⟩=>cx8 pins s1 σ H1 x v Q I1 r1 q1) (he _)
theorem bs1 : OpR X (binaryOp .Add) (fun x y H Q=>∃ i j,x = .str i ∧ y = .str j ∧ i.length + j.length ≤ sizeLine ∧ Q (.str (i ++ j)) H):=by
 intro pins s σ H x y v u Q I rx ry h
 obtain ⟨i,j,rfl,rfl,hz,q⟩:=h
 obtain ⟨t,rfl⟩:=rx
 obtain ⟨t',rfl⟩:=ry
 exact add_str (fun t' tk=>⟨.str (i ++ j),H,I.tok _,⟨_,rfl⟩,q⟩) hz
theorem ae7 {x : V} {us : List Value} (r : K2 [x] us) : ∃ u,us = [u] ∧ Q6 x u:=by
 cases r with
 | cons r1 r2=>cases r2; exact ⟨_,rfl,r1⟩
theorem bz8 {x y : V} {us : List Value} (r : K2 [x,y] us) : ∃ u w',us = [u,w'] ∧ Q6 x u ∧ Q6 y w':=by
 cases r with
 | cons r1 r2 =>
  cases r2 with
  | cons r3 r4=>cases r4; exact ⟨_,_,rfl,r1,r3⟩
theorem cg3 : u5 X (.builtin "abs") (fun xs H Q=>∃ i,xs = [.int i] ∧ Q (.int (if i < 0 then -i else i)) H):=by
 intro pins s σ H xs us Q I r h
 obtain ⟨i,rfl,q⟩:=h
 obtain ⟨u,rfl,t,rfl⟩:=ae7 r
 exact call_abs_int fun u tk=>⟨.int (if i < 0 then -i else i),H,I.tok _,⟨_,rfl⟩,q⟩
theorem bO7 (hc : X.calm = true) : u5 X (.builtin "max") (fun xs H Q=>∃ i j,xs = [.int i,.int j] ∧ Q (.int (if j > i then j else i)) H):=by
 intro pins s σ H xs us Q I r h
 obtain ⟨i,j,rfl,q⟩:=h
 obtain ⟨u,w',rfl,⟨t,rfl⟩,⟨t',rfl⟩⟩:=bz8 r
 refine max_two_ints (I.ok.hd hc) fun h' tk k=>⟨_,H,I.kept k,?_,q⟩
 by_cases hj : j > i
 ·rw [if_pos hj,if_pos hj]; exact ⟨_,rfl⟩
 ·rw [if_neg hj,if_neg hj]; exact ⟨_,rfl⟩
theorem bO5 (hc : X.calm = true) : u5 X (.builtin "min") (fun xs H Q=>∃ i j,xs = [.int i,.int j] ∧ Q (.int (if j < i then j else i)) H):=by
 intro pins s σ H xs us Q I r h
 obtain ⟨i,j,rfl,q⟩:=h
 obtain ⟨u,w',rfl,⟨t,rfl⟩,⟨t',rfl⟩⟩:=bz8 r
 refine min_two_ints (I.ok.hd hc) fun h' tk k=>⟨_,H,I.kept k,?_,q⟩
 by_cases hj : j < i
 ·rw [if_pos hj,if_pos hj]; exact ⟨_,rfl⟩
 ·rw [if_neg hj,if_neg hj]; exact ⟨_,rfl⟩
theorem aW1 : u5 X (.type "int") (fun xs H Q=>(∃ i,xs = [.int i] ∧ Q (.int i) H) ∨ ∃ k,xs = [.bl k] ∧ Q (.int (if k then 1 else 0)) H):=by
 intro pins s σ H xs us Q I r h
 rcases h with ⟨i,rfl,q⟩ | ⟨k,rfl,q⟩
 ·obtain ⟨u,rfl,t,rfl⟩:=ae7 r
  exact call_int_int ⟨.int i,H,I,⟨_,rfl⟩,q⟩
 ·obtain ⟨u,rfl,r1⟩:=ae7 r
  cases r1
  exact call_int_bool ⟨.int (if k then 1 else 0),H,I.tok _,⟨_,rfl⟩,q⟩
theorem be8 : u5 X (.type "str") (fun xs H Q=>∃ i,xs = [.int i] ∧ i.natAbs.log2 < 1920 ∧ Q (.str (toString i)) H):=by
 intro pins s σ H xs us Q I r h
 obtain ⟨i,rfl,hz,q⟩:=h
 obtain ⟨u,rfl,t,rfl⟩:=ae7 r
 exact PySem.P.str_of_int hz ⟨.str _,H,I.tok _,⟨_,rfl⟩,q⟩
end
end L2
namespace L2
open PySem PySem.Spec PyProof.Rows
section
variable {prog : Program} {w : World} {A : Around} {E : Value → Shared → Prop} {s : Shared} {K : PySem.W.Frag} {x dx C f : Addr} {mA : Str → Option Value} {name : Str} {v : Value}
end
section
variable {P : Program} {w : World} {H H' : Hp} {h h' : Heap} {a C dx : Addr} {fs fs' : List (Str × V)}
end
section
variable {X : Cx} {pins : List (Addr × Obj)} {σ : St} {H : Hp} {s : Shared} {a C dx : Addr} {fs : List (Str × V)} {f : Str} {v : V} {A : Around} {E : Value → Shared → Prop}
end
section
variable {X : Cx} {o e value : Expr} {f : Str} {pos pos' tpos : Pos} {ta tv : TE}
end
section
variable {X : Cx} {pins : List (Addr × Obj)} {σ : St} {H : Hp} {s : Shared} {A : Around} {E : Value → Shared → Prop} {Q : Value → Shared → Prop} {c : Value} {b : Bool}
end
end L2
namespace L2
open PySem PySem.Spec PyProof.Rows
structure Room (k : Nat) (A : Around) : Prop where
 hd : A.handled = none
 dp : A.depth + 3 * k + 5 < recursionLimit
 un : A.units + 16 * k + 200 < cLine
theorem Room.mono {j k : Nat} {A : Around} (r : Room k A) (h : j ≤ k) : Room j A:=⟨r.hd,by have:=r.dp; omega,by have:=r.un; omega⟩
theorem Room.deeper {k : Nat} {A : Around} (r : Room (k + 1) A) (env : Env) : Room k (A.deeper env) :=
 ⟨r.hd,by have:=r.dp; show A.depth + 1 + 3 * k + 5 < _; omega,by have:=r.un; show A.units + 3 + 16 * k + 200 < _; omega⟩
theorem Room.depth {k : Nat} {A : Around} (r : Room k A) : A.depth < recursionLimit:=by have:=r.dp; omega
theorem Room.units {k : Nat} {A : Around} (r : Room k A) : A.units + 64 < cLine:=by have:=r.un; omega
noncomputable def cT5 : TA:=fun _ H Q=>Q [] H
noncomputable def cT8 (ta : TE) (tr : TA) : TA:=fun σ H Q=>ta σ H fun x H1=>tr σ H1 fun xs H2=>Q (x :: xs) H2
section
variable {X : Cx} {e : Expr} {es : List Expr} {te : TE} {t : TA} {pos : Pos}
theorem O9 : PA X [] cT5:=fun _ _ _ _ H Q I h=>Calls.spliced_nil ⟨[],H,I,.nil,h⟩
theorem F7 (ha : PE X e te) (hr : PA X es t) (hs : starEach (e :: es) X.env = (false,eval e X.env) :: starEach es X.env:=by rfl) : PA X (e :: es) (cT8 te t):=by
 intro pos pins s σ H Q I h
 rw [hs]
 show wpAny _ _ (spliced ((false,eval e X.env) :: backTo pos (starEach es X.env))) _ _ s
 refine Calls.spliced_cons (thn (ha pins s σ H _ I h) fun u s1 ⟨x,H1,I1,r1,q1⟩=>?_)
 exact thn (hr pos pins s1 σ H1 _ I1 q1) fun us s2 ⟨xs,H2,I2,r2,q2⟩=>⟨x :: xs,H2,I2,.cons r1 r2,q2⟩
noncomputable def da1 (t : TA) : TE:=fun σ H Q=>t σ H fun xs H1=>xs.length ≤ sizeLine ∧ ∀ p,H1 p = none → Q (.ref p) (upd H1 p (.tup xs))
noncomputable def da7 (t : TA) : TE:=fun σ H Q=>t σ H fun xs H1=>xs.length ≤ sizeLine ∧ ∀ p,H1 p = none → Q (.ref p) (upd H1 p (.lst xs))
theorem cG6 {x1} (h : PA X es t) : PE X (.Tuple es x1 pos) (da1 t):=by
 intro pins s σ H Q I hq
 refine wpAny_Tuple_spliced (thn (h pos pins s σ H _ I hq) fun us s1 ⟨xs,H1,I1,r,z,q⟩=>⟨by rw [← r.length]; exact z,?_⟩)
 have hf : H1 s1.heap.objs.size = none:=I1.hok.fresh (Nat.le_refl _)
 refine ⟨.ref s1.heap.objs.size,upd H1 s1.heap.objs.size (.tup xs),I1.laid (t':=s1.toks) (fun b u e=>Heap.get?_push_of_some _ e) (Nat.le_refl _) ?_,rfl,q _ hf⟩
 exact ⟨z,us,r,⟨_,Heap.get?_push_size _ rfl,rfl,_,rfl⟩⟩
theorem cH2 (h : PA X es t) : PE X (.List es pos) (da7 t):=by
 intro pins s σ H Q I hq
 refine wpAny_List_spliced (thn (h pos pins s σ H _ I hq) fun us s1 ⟨xs,H1,I1,r,z,q⟩=>⟨by rw [← r.length]; exact z,?_⟩)
 have hf : H1 s1.heap.objs.size = none:=I1.hok.fresh (Nat.le_refl _)
 refine ⟨.ref s1.heap.objs.size,upd H1 s1.heap.objs.size (.lst xs),I1.laid (t':=s1.toks) (fun b u e=>Heap.get?_push_of_some _ e) (Nat.le_refl _) ?_,rfl,q _ hf⟩
 exact ⟨z,us,0,r,Heap.get?_push_size _ rfl⟩
end
noncomputable abbrev Sp:=List V → Hp → VK → XK → Prop
noncomputable abbrev CXT:=List Env → Hp → Shared → XK → Value → Shared → Prop
structure Env0 (P : Program) (w : World) (K : PySem.W.Frag) (mg : Str → Option Value) (base : Heap) (A : Around) (outer : List Env) (s : Shared) (H : Hp) : Prop where
 frames : A.frames = some outer
 mod : Mod K mg base
 bs : ∀ b o,base.get? b = some o → s.heap.get? b = some o ∧ H b = none
 bsz : base.objs.size ≤ s.heap.objs.size
 funs : s.heap.FunFrames base outer
 frf : ∀ b ∈ frs outer,H b = none
 hok : HOk P w H s.heap
 bare : AllBare s.gens
noncomputable def CE (outer : List Env) (P : Program) (w : World) (H : Hp) (s : Shared) (Q : VK) (u : Value) (s' : Shared) : Prop :=
 ∃ v H',s'.os = s.os ∧ AllBare s'.gens ∧ Un (frs outer) [] H H' s.heap s'.heap ∧ HOk P w H' s'.heap ∧ Q6 v u ∧ Q v H'
noncomputable def CR (CX : CXT) (outer : List Env) (P : Program) (w : World) (H : Hp) (s : Shared) (Q : VK) (E : XK) (r : Result) (s' : Shared) : Prop :=
 match r with
 | .ok (.ret u)=>CE outer P w H s Q u s'
 | .ok _=>False
 | .error e=>CX outer H s E e s'
structure FnOk (P : Program) (w : World) (K : PySem.W.Frag) (mg : Str → Option Value) (base : Heap) (CX : CXT) (k : Nat) (f : Addr) (fd : FuncData) (ps : List Str) (sp : Sp) : Prop where
 len : ∀ vs H Q E,sp vs H Q E → vs.length = ps.length
 run : ∀ (A : Around) (outer : List Env) (s : Shared) (H : Hp) (args : Args) (us : List Value) (vs : List V) (Q : VK) (E : XK),Room k A → Env0 P w K mg base A outer s H → BindsTo s fd args (ps.zip us) → K2 vs us → sp vs H Q E →
  codeAny (model P w) A (.call (.ref f) args) (CR CX outer P w H s Q E) s
theorem FnOk.mono {P : Program} {w : World} {K : PySem.W.Frag} {mg : Str → Option Value} {base : Heap} {CX : CXT} {j k : Nat} {f : Addr} {fd : FuncData} {ps : List Str} {sp : Sp} (F : FnOk P w K mg base CX j f fd ps sp) (h : j ≤ k) :
  FnOk P w K mg base CX k f fd ps sp:=⟨F.len,fun A outer s H args us vs Q E hr=>F.run A outer s H args us vs Q E (hr.mono h)⟩
section
variable {X : Cx} {pins : List (Addr × Obj)} {σ : St} {H : Hp} {s s' : Shared}
theorem Inv.env0 (I : Inv X pins σ H s) : Env0 X.prog X.w X.K X.mg X.base X.A X.stack s H :=
 ⟨I.ok.frames,I.ok.mod,I.bs,Nat.le_trans I.ok.bsz I.sz,I.stack,I.stkFree,I.hok,I.bare⟩
theorem Inv.after {Q : VK} {u : Value} (I : Inv X pins σ H s) (h : CE X.stack X.prog X.w H s Q u s') : EP X pins σ Q u s':=by
 obtain ⟨v,H',os,bare,un,hok,r,q⟩:=h
 obtain ⟨hh,g,d,t,os'⟩:=s'
 obtain rfl : os' = s.os:=os
 exact ⟨v,H',I.call (h':=hh) (g':=g) (d':=d) (t':=t) (ch:=[]) un hok bare (fun b z=>absurd z (by simp)),r,q⟩
end
noncomputable def cu0 (sp : Sp) (dvs : List V) (E : XK) (t : TA) : TE:=fun σ H Q=>t σ H fun vs H1=>sp (vs ++ dvs) H1 Q E
noncomputable def ad3 (K : PySem.W.Frag) (fd : FuncData) (ps : List Str) (ds : List Value) : Prop :=
 ∀ (s : Shared) (us : List Value),K.In s.heap → (us ++ ds).length = ps.length → BindsTo s fd ⟨us,[]⟩ (ps.zip (us ++ ds))
theorem ad3.all {K : PySem.W.Frag} {fd : FuncData} {ps : List Str} (h : ∀ us : List Value,us.length = ps.length → bindArgs fd ⟨us,[]⟩ = pure (ps.zip us)) : ad3 K fd ps []:=fun s us _ hl=>by
 rw [List.append_nil] at hl ⊢
 exact .of_eq (h us hl)
noncomputable def bg1 (CX : CXT) (X : Cx) (E : XK) : Prop:=∀ (pins : List (Addr × Obj)) (σ : St) (H : Hp) (s : Shared) (e : Value) (s' : Shared),Inv X pins σ H s → CX X.stack H s E e s' → X.xe e s'
section
variable {X : Cx} {CX : CXT} {k : Nat} {f C : Addr} {fd : FuncData} {ps : List Str} {sp : Sp} {dvs : List V} {ds : List Value} {E : XK} {x m : Str} {p pos apos : Pos} {e o : Expr} {es : List Expr} {ta : TE} {t : TA}
theorem bV1 {pins : List (Addr × Obj)} {σ : St} {H : Hp} {s : Shared} {Q : VK} {us : List Value} {vs : List V} (F : FnOk X.prog X.w X.K X.mg X.base CX k f fd ps sp) (hr : Room k X.A) (hb : ad3 X.K fd ps ds) (hd : K2 dvs ds) (hx : bg1 CX X E)
  (I : Inv X pins σ H s) (r : K2 vs us) (h : sp (vs ++ dvs) H Q E) : wpAny (model X.prog X.w) X.A (call (.ref f) us) (EP X pins σ Q) X.xe s:=by
 have r2 : K2 (vs ++ dvs) (us ++ ds):=r.append hd
 have hl : (us ++ ds).length = ps.length:=by rw [← r2.length]; exact F.len _ _ _ _ h
 refine wpAny_call (codeAny_mono (F.run X.A X.stack s H ⟨us,[]⟩ (us ++ ds) (vs ++ dvs) Q E hr I.env0 (hb s us I.kIn hl) r2 h) fun r s' hq=>?_)
 cases r with
 | error e=>exact hx pins σ H s e s' I hq
 | ok fl =>
  cases fl with
  | ret u=>exact I.after hq
  | next=>exact False.elim hq
  | brk=>exact False.elim hq
  | cont=>exact False.elim hq
theorem cl5 (F : FnOk X.prog X.w X.K X.mg X.base CX k f fd ps sp) (hr : Room k X.A) (hg : Gl X x) (hm : X.mg x = some (.ref f)) (hk : PySem.W.keepIn X.K (.ref f) = true) (hb : ad3 X.K fd ps ds) (hd : K2 dvs ds) (hx : bg1 CX X E)
  (ha : PA X (e :: es) t) (hdb : (x == ("__debug__" : Str)) = false:=by decide) (he : starEach (e :: es) X.env = (false,eval e X.env) :: starEach es X.env:=by rfl) (hpl : (backTo pos (starEach es X.env)).any (·.1) = false:=by rfl) :
  PE X (.Call (.Name x p) (e :: es) [] pos) (cu0 sp dvs E t):=by
 intro pins s σ H Q I h
 refine wpAny_Call_Name_kw (bc4 I hg hm ?_ hdb)
 refine PySem.W.callWith_K (h₀:=X.base) I.ok.mod.kin hk (thn (ha pos pins s σ H _ I h) fun us s1 ⟨vs,H1,I1,r,q⟩=>⟨I1.kIn,?_⟩) he hpl
 exact bV1 F hr hb hd hx I1 r q
theorem bW4 (F : FnOk X.prog X.w X.K X.mg X.base CX k f fd ps sp) (hr : Room k X.A) (hg : Gl X x) (hm : X.mg x = some (.ref f)) (hk : PySem.W.keepIn X.K (.ref f) = true) (hb : ad3 X.K fd ps ds) (hd : K2 dvs ds) (hx : bg1 CX X E)
  (hdb : (x == ("__debug__" : Str)) = false:=by decide) : PE X (.Call (.Name x p) [] [] pos) (cu0 sp dvs E cT5):=by
 intro pins s σ H Q I h
 refine wpAny_Call_Name_kw (bc4 I hg hm ?_ hdb)
 exact PySem.W.callWith_K0 I.kIn hk (bV1 (us:=[]) F hr hb hd hx I .nil h)
end
section
variable {X : Cx} {CX : CXT} {k : Nat} {f C : Addr} {fd : FuncData} {ps ks : List Str} {sp : Sp} {E : XK} {x m : Str} {p pos apos kpos : Pos} {e o : Expr} {es : List Expr} {kws : List Keyword} {te ta : TE} {t tk : TA} {nm : Option Str}
variable {g : List Value → List Value → List Value} {gV : List V → List V → List V}
end
structure FnScope (N P : List Str) (sc : Scope) : Prop where
 kind : sc.kind = .function
 co : sc.isCoroutine = false
 gen : sc.isGenerator = false
 nd : N.Nodup
 pre : N.take P.length = P
 par : ∀ x ∈ P,sc.names.lookup x = some .local ∨ sc.names.lookup x = some .cell
 nofree : ∀ y ∈ sc.names,y.2 ≠ .free
theorem aW2 {kindOf : Str → Option NameKind} {x : Str} : ∀ {binds : List (Str × Value)} {m : Str → Option Value},(∀ v,(x,v) ∉ binds) → bindL kindOf binds m x = m x
 | [],_,_=>rfl
 | (n,v) :: r,m,h=>by
  unfold bindL
  rw [aW2 fun w hw=>h w (List.mem_cons_of_mem _ hw)]
  split
  ·have : x ≠ n:=by rintro rfl; exact h v List.mem_cons_self
   simp [this]
  ·rfl
theorem aW4 {kindOf : Str → Option NameKind} {x : Str} : ∀ {binds : List (Str × Value)} {m : Str → Option Value},(∀ v,(x,v) ∉ binds) → bindC kindOf binds m x = m x
 | [],_,_=>rfl
 | (n,v) :: r,m,h=>by
  unfold bindC
  rw [aW4 fun w hw=>h w (List.mem_cons_of_mem _ hw)]
  split
  ·rfl
  ·have : x ≠ n:=by rintro rfl; exact h v List.mem_cons_self
   simp [this]
theorem aW3 {kindOf : Str → Option NameKind} {x : Str} {v : Value} : ∀ {P : List Str} {vs : List Value} {i : Nat} {m : Str → Option Value},P.Nodup → P[i]? = some x → vs[i]? = some v → kindOf x = some .local →
  bindL kindOf (P.zip vs) m x = some v
 | [],_,_,_,_,h,_,_=>by simp at h
 | _ :: _,[],_,_,_,_,h,_=>by simp at h
 | p :: P,w :: vs,0,m,nd,h1,h2,hk=>by
  simp at h1 h2; subst h1; subst h2
  show bindL kindOf ((p,w) :: P.zip vs) m p = _
  unfold bindL
  rw [aW2 fun v hv=>(List.nodup_cons.mp nd).1 (List.of_mem_zip hv).1,if_pos hk]
  simp
 | p :: P,w :: vs,i + 1,m,nd,h1,h2,hk=>by
  show bindL kindOf ((p,w) :: P.zip vs) m x = _
  unfold bindL
  exact aW3 (i:=i) (List.nodup_cons.mp nd).2 (by simpa using h1) (by simpa using h2) hk
theorem aW5 {kindOf : Str → Option NameKind} {x : Str} {v : Value} : ∀ {P : List Str} {vs : List Value} {i : Nat} {m : Str → Option Value},P.Nodup → P[i]? = some x → vs[i]? = some v → kindOf x ≠ some .local →
  bindC kindOf (P.zip vs) m x = some v
 | [],_,_,_,_,h,_,_=>by simp at h
 | _ :: _,[],_,_,_,_,h,_=>by simp at h
 | p :: P,w :: vs,0,m,nd,h1,h2,hk=>by
  simp at h1 h2; subst h1; subst h2
  show bindC kindOf ((p,w) :: P.zip vs) m p = _
  unfold bindC
  rw [aW4 fun v hv=>(List.nodup_cons.mp nd).1 (List.of_mem_zip hv).1,if_neg hk]
  simp
 | p :: P,w :: vs,i + 1,m,nd,h1,h2,hk=>by
  show bindC kindOf ((p,w) :: P.zip vs) m x = _
  unfold bindC
  exact aW5 (i:=i) (List.nodup_cons.mp nd).2 (by simpa using h1) (by simpa using h2) hk
noncomputable def ae8 (N : List Str) (vs : List V) : St:=vs.map some ++ List.replicate (N.length - vs.length) none
noncomputable def bw5 (CX : CXT) (P : Program) (w : World) (K : PySem.W.Frag) (mg : Str → Option Value) (base : Heap) (N : List Str) (qual : Str) (scope : Scope) (f : Addr) (cd : Value) (A : Around) (outer : List Env) (s : Shared) (H : Hp) (E : XK) : Cx where
 prog:=P
 w:=w
 K:=K
 mg:=mg
 base:=base
 A:=A.deeper (envOfC qual scope s.heap.objs.size f cd)
 N:=N
 s₀:=s
 H₀:=H
 env:=envOfC qual scope s.heap.objs.size f cd
 outer:=outer
 stack:=envOfC qual scope s.heap.objs.size f cd :: outer
 ex:=[]
 calm:=true
 fn:=fun _=>true
 pn:=[]
 xe:=fun e s'=>wpAny (model P w) (A.deeper (envOfC qual scope s.heap.objs.size f cd)) (leaving (envOfC qual scope s.heap.objs.size f cd) e) (fun _ s''=>CX outer H s E e s'') (fun e' s''=>CX outer H s E e' s'') s'
theorem bn6 {sc : Scope} {n : Nat} {x : Str} (h : sc.names.lookup x = some .cell) : ∃ c,(cellsFrom n sc.names []).lookup x = some c:=by
 have q:=PySem.W.cellsFrom_some sc.names n [] (.inl h)
 exact Option.isSome_iff_exists.mp q
theorem bL1 {CX : CXT} {P : Program} {w : World} {K : PySem.W.Frag} {mg : Str → Option Value} {base : Heap} {N ps : List Str} {qual : Str} {scope : Scope} {f : Addr} {cd : Value} {A : Around} {outer : List Env} {s s1 : Shared} {H : Hp} {E : XK} {us : List Value} {vs : List V}
  (S : FnScope N ps scope) (hd : A.handled = none) (e0 : Env0 P w K mg base A outer s H) (hl : vs.length = ps.length) (r : K2 vs us)
  (x : InCallC s s.heap.objs.size (bindL (envOfC qual scope s.heap.objs.size f cd).kindOf (ps.zip us) fun _=>none) (cellsFrom (s.heap.objs.size + 1) scope.names []) (bindC (envOfC qual scope s.heap.objs.size f cd).kindOf (ps.zip us) fun _=>none) s1) :
  Inv (bw5 CX P w K mg base N qual scope f cd A outer s H E) [] (ae8 N vs) H s1:=by
 have hpl : ps.length ≤ N.length:=by have:=congrArg List.length S.pre; rw [List.length_take] at this; omega
 obtain ⟨h1,tk,rfl,hk⟩:=x.done
 have noA : ∀ b : Addr,b ∉ (bw5 CX P w K mg base N qual scope f cd A outer s H E).ex:=fun b z=>absurd (show b ∈ ([] : List Addr) from z) (by simp)
 refine ⟨⟨e0.mod,S.kind,rfl,rfl,Nat.le_refl _,fun y z c h1 h2=>?_,fun y hy=>?_,fun y c _ h=>?_,fun _=>hd,Around.frames_deeper e0.frames,.inr ⟨rfl,rfl⟩,fun b z=>absurd z (noA b),e0.bs,e0.bsz,fun b _ _=>noA b,fun b z=>absurd z (noA b),e0.funs,e0.frf⟩,
  rfl,e0.bare,Un.kept hk,⟨_,x.toInCall.ns,fun i y v h1 h2 h3=>?_⟩,fun y c h=>⟨_,x.cell y c h⟩,e0.hok.fresh (Nat.le_refl _),fun y c h=>?_,fun p hp=>absurd (show p ∈ ([] : List (Addr × Obj)) from hp) (by simp),e0.hok.kept hk,?_⟩
 ·exact name_of_addr x.apart (PySem.mem_of_lookup h1) (PySem.mem_of_lookup h2)
 ·have hy : scope.names.lookup y = some .cell ∨ scope.names.lookup y = some .free:=hy
  rcases hy with hy | hy
  ·exact bn6 hy
  ·exact absurd rfl (S.nofree _ (PySem.mem_of_lookup hy))
 ·exact Nat.le_of_lt (x.above y c (PySem.mem_of_lookup h))
 ·have hi : i < vs.length:=by
   unfold ae8 at h2
   by_cases hi : i < vs.length
   ·exact hi
   ·rw [List.getElem?_append_right (by simpa using hi)] at h2
    rw [List.getElem?_replicate] at h2
    split at h2 <;> cases h2
  have ha : vs[i]? = some v:=by
   unfold ae8 at h2
   rw [List.getElem?_append_left (by simpa using hi),List.getElem?_map] at h2
   cases e : vs[i]? with
   | none=>rw [e] at h2; cases h2
   | some a=>rw [e] at h2; cases h2; rfl
  obtain ⟨u,hu,rv⟩:=r.get ha
  have hp : ps[i]? = some y:=by
   rw [← S.pre,List.getElem?_take_of_lt (by omega)]; exact h1
  have ndP : ps.Nodup:=by rw [← S.pre]; exact S.nd.sublist (List.take_sublist _ _)
  refine ⟨u,rv,?_⟩
  rcases S.par y (List.mem_of_getElem? hp) with k | k
  ·exact .inl ⟨k,aW3 ndP hp hu k⟩
  ·obtain ⟨c,e⟩:=bn6 (n:=s.heap.objs.size + 1) k
   refine .inr ⟨.inl k,c,e,?_⟩
   have q:=x.cell y c e
   rw [aW5 ndP hp hu (by show scope.names.lookup y ≠ _; rw [k]; decide)] at q
   exact q
 ·exact e0.hok.fresh (Nat.le_of_lt (x.above y c (PySem.mem_of_lookup h)))
 ·unfold ae8
  show _ = N.length
  rw [List.length_append,List.length_map,List.length_replicate]
  omega
theorem bm2 {CX : CXT} {P : Program} {w : World} {K : PySem.W.Frag} {mg : Str → Option Value} {base : Heap} {k : Nat} {f : Addr} {name qual : Str} {params : Arguments} {body : List Stmt} {scope : Scope} {dV kV doc pm cdv ct oc : Value} {an od : Option Addr}
  {osl : Array (Option Value)} {N ps : List Str} {sp : Sp} (lk : K.lookup f = some ⟨oc,od,.func (PySem.W.fnOf name qual params body scope dV kV doc pm an cdv ct),osl⟩) (hcd : PySem.W.codeIn K cdv qual = true) (S : FnScope N ps scope)
  (len : ∀ vs H Q E,sp vs H Q E → vs.length = ps.length)
  (hbody : ∀ (A : Around) (outer : List Env) (s : Shared) (H : Hp) (vs : List V) (Q : VK) (E : XK),Room k (A.deeper (envOfC qual scope s.heap.objs.size f cdv)) → sp vs H Q E →
   ∃ t,PSs (bw5 CX P w K mg base N qual scope f cdv A outer s H E) body t ∧ t { nx:=fun _ H'=>Q .non H',rt:=Q } (ae8 N vs) H) :
  FnOk P w K mg base CX (k + 1) f (PySem.W.fnOf name qual params body scope dV kV doc pm an cdv ct) ps sp:=by
 refine ⟨len,fun A outer s H args us vs Q E hr e0 hb r hsp=>?_⟩
 have hl:=len _ _ _ _ hsp
 have KX : K.In s.heap:=e0.mod.kin.keeps fun b o e=>(e0.bs b o e).1
 have lim : s.heap.NoLimit:=e0.mod.nolimit.keeps fun b o e=>(e0.bs b o e).1
 have hkind : ∀ y ∈ ps.zip us,scope.names.lookup y.1 = some .local ∨ (scope.names.lookup y.1 = some .cell ∧ ((cellsFrom (s.heap.objs.size + 1) scope.names []).lookup y.1).isSome = true):=fun ⟨n,v⟩ hy=>by
  rcases S.par n (List.of_mem_zip hy).1 with q | q
  ·exact .inl q
  ·exact .inr ⟨q,PySem.W.cellsFrom_some _ _ _ (.inl q)⟩
 refine codeAny_call_function hr.depth (KX _ _ lk) rfl S.co S.gen rfl (PySem.W.codeRec_of KX hcd) (hb _ _ _ _ ?_)
 refine wpAny_newFunctionEnv_cells S.kind hkind fun env he s1 x=>?_
 subst he
 refine ⟨lim.keeps x.toInCall.keep,codeAny_func ?_⟩
 obtain ⟨t,ht,hq⟩:=hbody A outer s H vs Q E (hr.deeper _) hsp
 have I : Inv (bw5 CX P w K mg base N qual scope f cdv A outer s H E) [] (ae8 N vs) H s1:=bL1 S hr.hd e0 hl r x
 refine wpAny_mono (ht [] s1 (ae8 N vs) H _ I hq) (fun fl s' hs=>?_) fun e s' hs=>hs
 have fin : ∀ {σ' : St} {H' : Hp} {v : V} {u : Value},Inv (bw5 CX P w K mg base N qual scope f cdv A outer s H E) [] σ' H' s' → Q6 v u → Q v H' → CE outer P w H s Q u s' :=
  fun {σ' H' v u} J rv q=>⟨v,H',J.os,J.bare,J.base,J.hok,rv,q⟩
 cases fl with
 | ret u =>
  obtain ⟨v,σ',H',J,rv,q⟩:=hs
  exact fin J rv q
 | next =>
  obtain ⟨σ',H',J,q⟩:=hs
  exact fin (v:=V.non) (u:=Value.none) J rfl q
 | brk =>
  obtain ⟨_,_,_,q⟩:=hs
  exact False.elim q
 | cont =>
  obtain ⟨_,_,_,q⟩:=hs
  exact False.elim q
end L2
namespace L2
open PySem PySem.Spec PyProof.Rows
section
variable {X : Cx} {x : Str} {p pos : Pos} {e : Expr} {es : List Expr} {t : TA} {id T : String} {r : List V → Hp → VK → Prop}
noncomputable def tCB (r : List V → Hp → VK → Prop) (t : TA) : TE:=fun σ H Q=>t σ H fun vs H1=>r vs H1 Q
theorem W7 (hc : u5 X (.builtin id) r) (hg : Gl X x) (hm : X.mg x = none) (hv : bootBuiltins x = some (.builtin id)) (ha : PA X (e :: es) t) (hn : x ≠ "__name__" := by decide) (hdb : (x == ("__debug__" : Str)) = false:=by decide)
  (he : starEach (e :: es) X.env = (false,eval e X.env) :: starEach es X.env:=by rfl) (hpl : (backTo pos (starEach es X.env)).any (·.1) = false:=by rfl) : PE X (.Call (.Name x p) (e :: es) [] pos) (tCB r t):=by
 intro pins s σ H Q I h
 refine wpAny_Call_Name_kw (am3 I hg hm hv ?_ hn hdb)
 exact PyProof.Rows.callWith_builtin1 (thn (ha pos pins s σ H _ I h) fun us s1 ⟨vs,H1,I1,r1,q1⟩=>hc pins s1 σ H1 vs us Q I1 r1 q1) he hpl
theorem y9 (hc : u5 X (.type T) r) (hg : Gl X x) (hm : X.mg x = none) (hv : bootBuiltins x = some (.type T)) (ha : PA X (e :: es) t) (hn : x ≠ "__name__" := by decide) (hdb : (x == ("__debug__" : Str)) = false:=by decide)
  (he : starEach (e :: es) X.env = (false,eval e X.env) :: starEach es X.env:=by rfl) (hpl : (backTo pos (starEach es X.env)).any (·.1) = false:=by rfl) : PE X (.Call (.Name x p) (e :: es) [] pos) (tCB r t):=by
 intro pins s σ H Q I h
 refine wpAny_Call_Name_kw (am3 I hg hm hv ?_ hn hdb)
 exact PyProof.Rows.callWith_type1 (thn (ha pos pins s σ H _ I h) fun us s1 ⟨vs,H1,I1,r1,q1⟩=>hc pins s1 σ H1 vs us Q I1 r1 q1) he hpl
end
end L2
namespace HT
open PySem PyProof.Rows
section
open PySem.SeqAt
open PySem.AutoSeq1 (wpAny_loadPart')
open PySem.MeetsSeq PySem.MeetsSeq2 PySem.MeetsSeq3
end
section
variable {prog : Program} {w : World} {A : Around} {E : Value → Shared → Prop} {s : Shared}
theorem cat_tup {t b : Addr} {vs ws : List Value} {Q : Value → Shared → Prop} (ht : IsTup s.heap t vs.toArray) (hb : IsTup s.heap b ws.toArray) (hv : vs ≠ [])
  (h1 : ws = [] → Q (.ref t) s) (h2 : ws ≠ [] → Q (.ref s.heap.objs.size) { s with heap:=s.heap.push { cls:=.type "tuple", data:=.seq (vs ++ ws).toArray } })
  (hsz : vs.length + ws.length ≤ sizeLine) : wpAny (model prog w) A (binaryOp .Add (.ref t) (.ref b)) Q E s:=by
 obtain ⟨⟨cls,dd,data,sl⟩,ho,hc,n,hd⟩:=id ht
 obtain ⟨⟨cls2,dd2,data2,sl2⟩,ho2,hc2,n2,hd2⟩:=id hb
 simp only at hc hd hc2 hd2
 subst hc hd hc2 hd2
 have e : vs.toArray ++ ws.toArray = (vs ++ ws).toArray:=by simp
 by_cases hw : ws = []
 ·exact concat_meets ⟨_,ho,rfl⟩ ⟨_,ho2,rfl⟩ noFill_tuple_add seq_tuple_add PySem.F.slot_tuple_add PySem.F.entry_tuple_add (PySem.F.args_tuple_add_2 _ _)
   (tuple_addW1 t b vs.toArray ws.toArray n n2 dd dd2 sl sl2 (by simpa using hv) (by simp [hw])) ⟨ho,ho2,h1 hw⟩
 ·refine concat_meets ⟨_,ho,rfl⟩ ⟨_,ho2,rfl⟩ noFill_tuple_add seq_tuple_add PySem.F.slot_tuple_add PySem.F.entry_tuple_add (PySem.F.args_tuple_add_2 _ _)
   (tuple_addW2 t b vs.toArray ws.toArray n n2 dd dd2 sl sl2 (by simpa using hv) (by simpa using hw) (by rw [List.size_toArray,List.size_toArray]; exact hsz)) ⟨ho,ho2,?_⟩
  rw [e]
  exact h2 hw
noncomputable def sIx (n d : Nat) : Option Int → Nat
 | none=>d
 | some v=>if v < 0 then (v + (n : Int)).toNat else min v.toNat n
theorem sIx_none (n d : Nat) : sIx n d none = d:=rfl
theorem sIx_nat (n d k : Nat) : sIx n d (some (k : Int)) = min k n:=by
 show (if (k : Int) < 0 then ((k : Int) + (n : Int)).toNat else min (k : Int).toNat n) = min k n
 rw [if_neg (by omega),Int.toNat_natCast]
theorem cF3 (n d : Nat) (hd : d ≤ n) (o : Option Int) : sIx n d o ≤ n:=by
 cases o with
 | none=>exact hd
 | some v =>
  show (if v < 0 then (v + (n : Int)).toNat else min v.toNat n) ≤ n
  by_cases hv : v < 0
  ·rw [if_pos hv]; omega
  ·rw [if_neg hv]; exact Nat.min_le_right _ _
theorem bE1 (v : Int) (n d : Nat) : (if v < 0 then max (v + (n : Int)) 0 else min v (n : Int)) = ((sIx n d (some v) : Nat) : Int):=by
 show (if v < 0 then max (v + (n : Int)) 0 else min v (n : Int)) = (((if v < 0 then (v + (n : Int)).toNat else min v.toNat n) : Nat) : Int)
 by_cases hv : v < 0
 ·simp only [if_pos hv]; omega
 ·simp only [if_neg hv]; omega
theorem by9 (lo hi : Option Int) (n : Nat) : Builtin.Slice.sliceAdjust lo hi 1 (n : Int) = (((sIx n 0 lo : Nat) : Int),((sIx n n hi : Nat) : Int)):=by
 have h1 : ¬ ((1 : Int) < 0):=by omega
 unfold Builtin.Slice.sliceAdjust
 simp only [h1,if_false]
 refine Prod.ext ?_ ?_
 ·cases lo with
  | none=>rfl
  | some v=>exact bE1 v n 0
 ·cases hi with
  | none=>rfl
  | some v=>exact bE1 v n n
theorem br9 (i j : Nat) : Builtin.Slice.slicePlaces (i : Int) (j : Int) 1 = j - i:=by
 unfold Builtin.Slice.slicePlaces
 have h1 : (1 : Int) > 0:=by omega
 simp only [h1,if_true,Int.ediv_one]
 split <;> omega
theorem aL6 {v : Value} {o : Option Int} {Q : Option Int → Shared → Prop} (p : IsPart v o) (h : Q o s) : wpAny (model prog w) A (Builtin.Slice.slicePartIndex v) Q E s:=by
 cases p with
 | none=>exact slicePart_none h
 | int i t=>exact slicePart_int h
theorem sliceApplied_gen {sl : Addr} {vl vu : Value} {lo hi : Option Int} {n : Nat} {Q : Int × Int × Nat → Shared → Prop} (hs : s.heap.IsSliceOf sl vl vu .none) (pl : IsPart vl lo) (pu : IsPart vu hi)
  (h : Q (((sIx n 0 lo : Nat) : Int),1,sIx n n hi - sIx n 0 lo) s) : wpAny (model prog w) A (Builtin.Slice.sliceApplied (.ref sl) (pure (n : Int))) Q E s:=by
 obtain ⟨os,hos,hcs,hds⟩:=id hs
 unfold Builtin.Slice.sliceApplied Builtin.Slice.sliceFields
 refine wpAny_bind (wpAny_bind (wpAny_field hos hds (x:=vl) rfl (wpAny_bind (wpAny_field hos hds (x:=vu) rfl (wpAny_bind (wpAny_field hos hds (x:=.none) rfl (wpAny_pure ?_)))))))
 refine wpAny_bind (slicePart_none ?_)
 show wpAny _ _ (if ((1 : Int) == 0) = true then _ else _) _ _ s
 rw [if_neg (by decide)]
 refine wpAny_bind (aL6 pl (wpAny_bind (aL6 pu (wpAny_bind (wpAny_pure ?_)))))
 show wpAny _ _ (match Builtin.Slice.sliceAdjust lo hi 1 (n : Int) with | (lo,hi)=>pure (lo,(1 : Int),Builtin.Slice.slicePlaces lo hi 1)) _ _ s
 rw [by9 lo hi n]
 show wpAny _ _ (pure (((sIx n 0 lo : Nat) : Int),(1 : Int),Builtin.Slice.slicePlaces ((sIx n 0 lo : Nat) : Int) ((sIx n n hi : Nat) : Int) 1)) _ _ s
 rw [br9]
 exact wpAny_pure h
theorem bW2 (xs : Array Value) (i k : Nat) : ((List.range k).filterMap fun (m : Nat)=>xs[((i : Int) + (m : Int) * 1).toNat]?).toArray = ((xs.toList.drop i).take k).toArray:=by
 have e : (fun (m : Nat)=>xs[((i : Int) + (m : Int) * 1).toNat]?) = fun m=>xs[i + m]?:=by
  funext m
  have : ((i : Int) + (m : Int) * 1).toNat = i + m:=by omega
  rw [this]
 rw [e]
 have:=pick_run xs i k
 rw [List.filterMap_map] at this
 have e2 : ((fun x=>xs[x]?) ∘ fun x=>i + x) = fun m=>xs[i + m]?:=rfl
 rw [e2] at this
 rw [this]
theorem getItem_tuple_cut {t sl : Addr} {items : Array Value} {vl vu : Value} {lo hi : Option Int} {Q : Value → Shared → Prop} (ht : IsTup s.heap t items) (hs : s.heap.IsSliceOf sl vl vu .none) (pl : IsPart vl lo) (pu : IsPart vu hi)
  (hw : ¬ (sIx items.size 0 lo = 0 ∧ sIx items.size items.size hi = items.size))
  (h : Q (.ref s.heap.objs.size) { s with heap:=s.heap.push { cls:=.type "tuple", data:=.seq ((items.toList.drop (sIx items.size 0 lo)).take (sIx items.size items.size hi - sIx items.size 0 lo)).toArray } })
  (hsz : items.size ≤ sizeLine) : wpAny (model prog w) A (getItem (.ref t) (.ref sl)) Q E s:=by
 have htake : sizeOk (.seq ((items.toList.drop (sIx items.size 0 lo)).take (sIx items.size items.size hi - sIx items.size 0 lo)).toArray):=by
  show ((items.toList.drop (sIx items.size 0 lo)).take (sIx items.size items.size hi - sIx items.size 0 lo)).toArray.size ≤ sizeLine
  rw [List.size_toArray,List.length_take,List.length_drop,Array.length_toList]
  omega
 have hj : sIx items.size items.size hi ≤ items.size:=cF3 _ _ (Nat.le_refl _) hi
 obtain ⟨os,hos,hcs,hds⟩:=id hs
 have hTs : s.TypeIs (.ref sl) "slice" := ⟨os,hos,hcs⟩
 unfold getItem
 try with_reducible refine wpAny_holding ?_
 first | refine wpAny_bind (wpAny_pure ?_) | skip
 refine wpAny_bind (wpAny_sequenceKey ht.typeIs (by decide) ?_)
 refine wpAny_bind (wpAny_callSpecial?_slot (name:=Str.ofString "__getitem__") ht.typeIs PyProof.Rows.slot_tuple_getitem
  (wpAny_call_entry PyProof.Rows.slot_tuple_getitem ht.typeIs entry_tuple_getitem ?_ (args_tuple_getitem _ _)))
 show wpAny _ _ (Builtin.Tuple.tupleItemsOf (.ref t) >>= _) _ _ s
 refine wpAny_bind (tupleItemsOf_ ht ?_)
 refine wpAny_bind (wpAny_typeOf hTs ?_)
 rw [if_pos (by decide)]
 refine wpAny_bind (sliceApplied_gen hs pl pu ?_)
 have hno : ¬ ((((sIx items.size 0 lo : Nat) : Int) == 0 && (1 : Int) == 1 && (sIx items.size items.size hi - sIx items.size 0 lo) == items.size) = true):=by
  intro q
  rw [Bool.and_eq_true,Bool.and_eq_true] at q
  have q1 : ((sIx items.size 0 lo : Nat) : Int) = 0:=eq_of_beq q.1.1
  have q2 : sIx items.size items.size hi - sIx items.size 0 lo = items.size:=eq_of_beq q.2
  exact hw ⟨by omega,by omega⟩
 show wpAny _ _ (if (((sIx items.size 0 lo : Nat) : Int) == 0 && (1 : Int) == 1 && (sIx items.size items.size hi - sIx items.size 0 lo) == items.size) = true then _ else _) _ _ s
 rw [if_neg hno,bW2]
 first
  | exact wpAny_bind (m:=Builtin.Tuple.tupleExact _) (wpAny_newObj_type (wpAny_pure ⟨_,rfl,wpAny_pure h⟩) htake)
  | exact wpAny_bind (m:=Builtin.Tuple.tupleExact _) (wpAny_newObj_type (wpAny_bind (wpAny_pure (wpAny_pure ⟨_,rfl,wpAny_pure h⟩))) htake)
  | exact wpAny_bind (wpAny_bind (m:=Builtin.Tuple.tupleExact _) (wpAny_newObj_type (wpAny_pure (wpAny_pure ⟨_,rfl,wpAny_pure h⟩)) htake))
  | exact wpAny_bind (wpAny_bind (m:=Builtin.Tuple.tupleExact _) (wpAny_newObj_type (wpAny_pure ⟨_,rfl,wpAny_pure h⟩) htake))
end
end HT
namespace L2
open PySem PySem.Spec PyProof.Rows
noncomputable abbrev TO:=St → Hp → (Option Int → Hp → Prop) → Prop
noncomputable def PO (X : Cx) (e : Option Expr) (t : TO) : Prop :=
 ∀ (pins : List (Addr × Obj)) (s : Shared) (σ : St) (H : Hp) (Q : Option Int → Hp → Prop),Inv X pins σ H s → t σ H Q →
  wpAny (model X.prog X.w) X.A (evalPart e X.env) (fun u s'=>∃ o H',Inv X pins σ H' s' ∧ IsPart u o ∧ Q o H') X.xe s
noncomputable def cj4 : TO:=fun _ H Q=>Q none H
noncomputable def cT3 (t : TE) : TO:=fun σ H Q=>t σ H fun x H1=>∃ i,x = .int i ∧ Q (some i) H1
section
variable {X : Cx} {e : Expr} {te : TE} {lo hi : Option Expr} {tl th : TO} {pos p2 : Pos}
theorem ck9 : PO X none cj4:=by
 intro pins s σ H Q I h
 rw [evalPart_none]
 exact wpAny_pure ⟨none,H,I,.none,h⟩
theorem ck8 (h : PE X e te) : PO X (some e) (cT3 te):=by
 intro pins s σ H Q I hw
 rw [evalPart_some]
 refine thn (h pins s σ H _ I hw) fun u s1 ⟨x,H1,I1,r1,q1⟩=>?_
 obtain ⟨i,rfl,q⟩:=q1
 obtain ⟨t,rfl⟩:=r1
 exact ⟨some i,H1,I1,.int i t,q⟩
noncomputable def SlR (X : Cx) (r : V → Option Int → Option Int → Hp → VK → Prop) : Prop :=
 ∀ (pins : List (Addr × Obj)) (s : Shared) (σ : St) (H : Hp) (x : V) (v vl vu : Value) (lo hi : Option Int) (sl : Addr) (Q : VK),Inv X pins σ H s → Q6 x v → s.heap.IsSliceOf sl vl vu .none → IsPart vl lo → IsPart vu hi → r x lo hi H Q →
  ∃ T id,typeLookup (.type T) "__getitem__" = pure (some (.builtin id)) ∧ s.TypeIs v T ∧ wpAny (model X.prog X.w) X.A (getItem v (.ref sl)) (EP X pins σ Q) X.xe s
theorem SlR.or {r r' : V → Option Int → Option Int → Hp → VK → Prop} (h : SlR X r) (h' : SlR X r') : SlR X (fun x lo hi H Q=>r x lo hi H Q ∨ r' x lo hi H Q):=by
 intro pins s σ H x v vl vu lo hi sl Q I rx hs pl pu q
 rcases q with q | q
 ·exact h pins s σ H x v vl vu lo hi sl Q I rx hs pl pu q
 ·exact h' pins s σ H x v vl vu lo hi sl Q I rx hs pl pu q
noncomputable def tSl (r : V → Option Int → Option Int → Hp → VK → Prop) (te : TE) (tl th : TO) : TE:=fun σ H Q=>te σ H fun x H1=>tl σ H1 fun l H2=>th σ H2 fun u H3=>r x l u H3 Q
theorem ay0 {r : V → Option Int → Option Int → Hp → VK → Prop} (hr : SlR X r) (he : PE X e te) (hl : PO X lo tl) (hu : PO X hi th) : PE X (.Subscript e (.Slice lo hi none p2) pos) (tSl r te tl th):=by
 intro pins s σ H Q I h
 refine Subscript_ (thn (he pins s σ H _ I h) fun v s1 ⟨x,H1,I1,r1,q1⟩=>?_)
 refine wpAny_Slice (thn (hl pins s1 σ H1 _ I1 q1) fun vl s2 ⟨l,H2,I2,pl,q2⟩=>thn (hu pins s2 σ H2 _ I2 q2) fun vu s3 ⟨u,H3,I3,pu,q3⟩=>?_)
 rw [evalPart_none]
 refine wpAny_pure ?_
 have I4 : Inv X pins σ H3 { s3 with heap:=s3.heap.push { cls:=.type "slice", data:=.fields #[vl,vu,.none] } }:=I3.kept (t':=s3.toks) fun b ob q=>Heap.get?_push_of_some _ q
 obtain ⟨T,id,hT,ht,hg⟩:=hr pins { s3 with heap:=s3.heap.push { cls:=.type "slice", data:=.fields #[vl,vu,.none] } } σ H3 x v vl vu l u s3.heap.objs.size Q I4 r1 (Heap.IsSliceOf.new ..) pl pu q3
 show wpAny (model X.prog X.w) X.A (subscriptTail e (.Slice lo hi none p2) v (.ref s3.heap.objs.size)) (EP X pins σ Q) X.xe { s3 with heap:=s3.heap.push { cls:=.type "slice", data:=.fields #[vl,vu,.none] } }
 exact tail_any (ops:=[.ref s3.heap.objs.size,v]) ht hT hg (by with_unfolding_all rfl)
noncomputable def bn4 (xs : List V) (lo hi : Option Int) : List V:=(xs.drop (HT.sIx xs.length 0 lo)).take (HT.sIx xs.length xs.length hi - HT.sIx xs.length 0 lo)
theorem aG2 (xs : List V) (lo hi : Option Int) : (bn4 xs lo hi).length ≤ xs.length:=by
 unfold bn4
 rw [List.length_take,List.length_drop]
 omega
noncomputable def db3 (K : PySem.W.Frag) : V → Option Int → Option Int → Hp → VK → Prop:=fun x lo hi H Q=>∃ a xs,x = .ref a ∧ SqT K H a xs ∧
 ¬ (HT.sIx xs.length 0 lo = 0 ∧ HT.sIx xs.length xs.length hi = xs.length) ∧ ∀ p,H p = none → Q (.ref p) (upd H p (.tup (bn4 xs lo hi)))
theorem cF2 : SlR X (db3 X.K):=by
 intro pins s σ H x v vl vu lo hi sl Q I rx hs pl pu h
 obtain ⟨a,xs,rfl,hx,hw,q⟩:=h
 cases rx
 obtain ⟨its,r,ht,hz⟩:=I.tuple hx
 have hlen : its.toArray.size = xs.length:=by rw [List.size_toArray]; exact r.length.symm
 refine ⟨"tuple", _,PyProof.Rows.slot_tuple_getitem.lookup,ht.typeIs,?_⟩
 refine HT.getItem_tuple_cut ht hs pl pu (by rw [hlen]; exact hw) ?_ (by rw [hlen]; exact hz)
 rw [hlen]
 refine ⟨.ref s.heap.objs.size,_,I.laid (t':=s.toks) (o:=.tup (bn4 xs lo hi)) (fun b ob q=>Heap.get?_push_of_some _ q) (Nat.le_refl _) ?_,rfl,q _ (I.hok.fresh (Nat.le_refl _))⟩
 exact ⟨Nat.le_trans (aG2 xs lo hi) hz,_,(r.drop (HT.sIx xs.length 0 lo)).take (HT.sIx xs.length xs.length hi - HT.sIx xs.length 0 lo),IsTup.new _ _⟩
noncomputable def cU7 (K : PySem.W.Frag) : R2:=fun x y H Q=>∃ a b xs ys,x = .ref a ∧ y = .ref b ∧ SqT K H a xs ∧ SqT K H b ys ∧ xs ≠ [] ∧ xs.length + ys.length ≤ sizeLine ∧
 (ys = [] → Q (.ref a) H) ∧ (ys ≠ [] → ∀ p,H p = none → Q (.ref p) (upd H p (.tup (xs ++ ys))))
theorem K2.nil_iff {xs : List V} {us : List Value} (r : K2 xs us) : us = [] ↔ xs = []:=by
 cases r with
 | nil=>simp
 | cons _ _=>simp
theorem cm1 : OpR X (binaryOp .Add) (cU7 X.K):=by
 intro pins s σ H x y v u Q I rx ry h
 obtain ⟨a,b,xs,ys,rfl,rfl,ha,hb,hx,hz,q1,q2⟩:=h
 cases rx
 cases ry
 obtain ⟨its,r1,p1,_⟩:=I.tuple ha
 obtain ⟨its2,r2,p2,_⟩:=I.tuple hb
 refine HT.cat_tup p1 p2 (fun z=>hx (r1.nil_iff.mp z)) (fun z=>⟨.ref a,H,I,rfl,q1 (r2.nil_iff.mp z)⟩) (fun z=>?_) (by rw [← r1.length,← r2.length]; exact hz)
 refine ⟨.ref s.heap.objs.size,_,I.laid (t':=s.toks) (o:=.tup (xs ++ ys)) (fun b ob q=>Heap.get?_push_of_some _ q) (Nat.le_refl _) ?_,rfl,q2 (fun w=>z (r2.nil_iff.mpr w)) _ (I.hok.fresh (Nat.le_refl _))⟩
 exact ⟨by rw [List.length_append]; exact hz,_,r1.append r2,IsTup.new _ _⟩
end
end L2
namespace L2
open PySem PySem.Spec PyProof.Rows
noncomputable def ixN (n : Nat) (i : Int) : Option Nat:=if 0 ≤ i then (if i < n then some i.toNat else none) else if -(n : Int) ≤ i then some (i + n).toNat else none
noncomputable def atI {α : Type} (xs : List α) (i : Int) : Option α:=(ixN xs.length i).bind fun j=>xs[j]?
theorem cr0 {n : Nat} {i : Int} {j : Nat} (h : ixN n i = some j) : seqIndex? i n = some j ∧ j < n ∧ -(n : Int) ≤ i ∧ i < n:=by
 unfold ixN at h
 by_cases h0 : 0 ≤ i
 ·rw [if_pos h0] at h
  by_cases h1 : i < n
  ·rw [if_pos h1] at h
   have e : i.toNat = j:=Option.some.inj h
   exact ⟨by rw [seqIndex_of h0 h1,e],by omega,by omega,h1⟩
  ·rw [if_neg h1] at h; cases h
 ·rw [if_neg h0] at h
  by_cases h1 : -(n : Int) ≤ i
  ·rw [if_pos h1] at h
   have e : (i + n).toNat = j:=Option.some.inj h
   exact ⟨by rw [seqIndex_neg (by omega) h1,e],by omega,h1,by omega⟩
  ·rw [if_neg h1] at h; cases h
theorem bf8 {α : Type} {xs : List α} {i : Int} {v : α} (h : atI xs i = some v) : ∃ j,seqIndex? i xs.length = some j ∧ xs[j]? = some v ∧ j < xs.length ∧ -(xs.length : Int) ≤ i ∧ i < xs.length:=by
 unfold atI at h
 cases e : ixN xs.length i with
 | none=>rw [e] at h; cases h
 | some j =>
  rw [e] at h
  obtain ⟨h1,h2,h3,h4⟩:=cr0 e
  exact ⟨j,h1,h,h2,h3,h4⟩
theorem ct3 {α : Type} {xs : List α} {j : Nat} {v : α} (h : xs[j]? = some v) : atI xs (j : Int) = some v:=by
 have hj : j < xs.length:=(List.getElem?_eq_some_iff.mp h).1
 have e : ixN xs.length (j : Int) = some j:=by
  unfold ixN
  rw [if_pos (by omega),if_pos (by omega)]; simp
 unfold atI; rw [e]; exact h
noncomputable def aK7 (b : Expr) : Prop:=∀ o i,subscripted b false o i = operate [o,i] (getItem o i)
noncomputable def IxR (X : Cx) (r : R2) : Prop :=
 ∀ (value slice : Expr) (pins : List (Addr × Obj)) (s : Shared) (σ : St) (H : Hp) (x y : V) (v u : Value) (Q : VK),Inv X pins σ H s → Q6 x v → Q6 y u → r x y H Q →
  subscripted slice false v u = operate [v,u] (getItem v u) → wpAny (model X.prog X.w) X.A (subscriptTail value slice v u) (EP X pins σ Q) X.xe s
noncomputable def MtR (X : Cx) (id : String) (r : V → List V → Hp → VK → Prop) : Prop :=
 ∀ (pins : List (Addr × Obj)) (s : Shared) (σ : St) (H : Hp) (x : V) (xs : List V) (v : Value) (us : List Value) (Q : VK),Inv X pins σ H s → Q6 x v → K2 xs us → r x xs H Q →
  wpAny (model X.prog X.w) X.A (call (.builtin id) (v :: us)) (EP X pins σ Q) X.xe s
section
variable {X : Cx} {a b : Expr} {ta tb : TE} {pos : Pos}
theorem IxR.or {r r' : R2} (h : IxR X r) (h' : IxR X r') : IxR X (fun x y H Q=>r x y H Q ∨ r' x y H Q):=by
 intro value slice pins s σ H x y v u Q I rx ry q hs
 rcases q with q | q
 ·exact h value slice pins s σ H x y v u Q I rx ry q hs
 ·exact h' value slice pins s σ H x y v u Q I rx ry q hs
theorem cu7 {r : R2} (hr : IxR X r) (ha : PE X a ta) (hb : PE X b tb) (hs : aK7 b) : PE X (.Subscript a b pos) (tOp r ta tb):=by
 intro pins s σ H Q I h
 exact Subscript_ (cQ6 ha hb I h fun v u s2 x y H2 I2 rx ry q=>hr a b pins s2 σ H2 x y v u Q I2 rx ry q (hs _ _))
noncomputable def cU6 (K : PySem.W.Frag) : R2:=fun x y H Q=>∃ p xs i v,x = .ref p ∧ y = .int i ∧ SqL K H p xs ∧ atI xs i = some v ∧ Q v H
noncomputable def cU4 (K : PySem.W.Frag) : R2:=fun x y H Q=>∃ p xs i v,x = .ref p ∧ y = .int i ∧ SqT K H p xs ∧ atI xs i = some v ∧ Q v H
noncomputable def cU5 : R2:=fun x y H Q=>∃ z i c,x = .str z ∧ y = .int i ∧ z.length ≤ sizeLine ∧ atI z.cps.toList i = some c ∧ Q (.str ⟨#[c]⟩) H
theorem cq9 : IxR X (cU6 X.K):=by
 intro value slice pins s σ H x y v u Q I rx ry h hs
 obtain ⟨p,xs,i,z,rfl,rfl,hq,he,q⟩:=h
 cases rx
 obtain ⟨t,rfl⟩:=ry
 obtain ⟨its,r,pl,hz⟩:=I.list hq
 obtain ⟨j,h1,h2,h3,h4,h5⟩:=bf8 he
 obtain ⟨w,ew,rw'⟩:=r.get h2
 have hl:=r.length
 have hn:=aE4
 have fin : EP X pins σ Q w s:=⟨z,H,I,rw',q⟩
 by_cases h0 : 0 ≤ i
 ·have hj : i.toNat = j:=by
   rw [seqIndex_of h0 h5] at h1
   exact Option.some.inj h1
  exact item_listR pl.isList h0 (by omega) (by rw [hj]; simpa using ew) fin hs
 ·have hj : (i + (its.toArray.size : Int)).toNat = j:=by
   rw [seqIndex_neg (by omega) h4] at h1
   rw [List.size_toArray,← hl]
   exact Option.some.inj h1
  exact subscriptTail_builtinR (x:=w) pl.isList.typeIs slot_list_getitem.lookup
   (wpAny_getItem_list_neg (Q:=fun r s'=>r = w ∧ EP X pins σ Q r s') pl.isList (by omega) (by rw [List.size_toArray] <;> omega) (by omega) (by rw [hj]; simpa using ew) ⟨rfl,fin⟩) hs
theorem cO6 : IxR X (cU4 X.K):=by
 intro value slice pins s σ H x y v u Q I rx ry h hs
 obtain ⟨p,xs,i,z,rfl,rfl,hq,he,q⟩:=h
 cases rx
 obtain ⟨t,rfl⟩:=ry
 obtain ⟨its,r,pl,hz⟩:=I.tuple hq
 obtain ⟨j,h1,h2,h3,h4,h5⟩:=bf8 he
 obtain ⟨w,ew,rw'⟩:=r.get h2
 have hl:=r.length
 have hn:=aE4
 have fin : EP X pins σ Q w s:=⟨z,H,I,rw',q⟩
 exact subscriptTail_builtinR (x:=w) pl.typeIs slot_tuple_getitem.lookup
  (getItem_tuple (j:=j) (Q:=fun r s'=>r = w ∧ EP X pins σ Q r s') pl (by omega) (by omega) (by rw [List.size_toArray,← hl]; exact h1) (by simpa using ew) ⟨rfl,fin⟩) hs
theorem cO7 : IxR X cU5:=by
 intro value slice pins s σ H x y v u Q I rx ry h hs
 obtain ⟨z,i,c,rfl,rfl,hz,he,q⟩:=h
 obtain ⟨t,rfl⟩:=rx
 obtain ⟨t',rfl⟩:=ry
 obtain ⟨j,h1,h2,h3,h4,h5⟩:=bf8 he
 have hl : z.cps.toList.length = z.length:=by simp [Str.length]
 rw [hl] at h1 h4 h5
 have hn:=aE4
 exact tail_any (typeIs_str s z t) slot_str_getitem.lookup (getItem_str (c:=c) (by
  have e1 : decide (i < -(2 ^ 63 : Int)) = false:=decide_eq_false (by omega)
  have e2 : decide (i ≥ 2 ^ 63) = false:=decide_eq_false (by omega)
  rw [e1,e2,Bool.or_false]) (by rw [h1]; simpa using h2) ⟨.str ⟨#[c]⟩,H,I.tok _,⟨_,rfl⟩,q⟩) hs
noncomputable def rIx (K : PySem.W.Frag) : R2:=fun x y H Q=>cU6 K x y H Q ∨ cU4 K x y H Q ∨ cU5 x y H Q
theorem cb9 : IxR X (rIx X.K):=cq9.or (cO6.or cO7)
theorem ax4 (lo hi : Option Int) (n : Nat) : (sliceBounds lo hi none n).1 = ((HT.sIx n 0 lo : Nat) : Int) ∧ (sliceBounds lo hi none n).2.1 = ((HT.sIx n n hi : Nat) : Int) ∧ (sliceBounds lo hi none n).2.2 = 1:=by
 refine ⟨?_,?_,rfl⟩
 ·cases lo with
  | none=>simp [sliceBounds,HT.sIx]
  | some i =>
   simp only [sliceBounds,HT.sIx,Option.getD_none,show (1 : Int) > 0 by decide,if_true]
   by_cases h : i < 0
   ·simp only [h,if_true] <;> omega
   ·simp only [h,if_false] <;> omega
 ·cases hi with
  | none=>simp [sliceBounds,HT.sIx]
  | some i =>
   simp only [sliceBounds,HT.sIx,Option.getD_none,show (1 : Int) > 0 by decide,if_true]
   by_cases h : i < 0
   ·simp only [h,if_true] <;> omega
   ·simp only [h,if_false] <;> omega
theorem aR0 (its : List Value) (lo hi : Option Int) : slicePick its.toArray lo hi none = ((its.drop (HT.sIx its.length 0 lo)).take (HT.sIx its.length its.length hi - HT.sIx its.length 0 lo)).toArray:=by
 obtain ⟨h1,h2,h3⟩:=ax4 lo hi its.toArray.size
 unfold slicePick
 rw [h1,h2,h3]
 simp only [sliceRange_one,pick_run,List.size_toArray] <;> rfl
noncomputable def db4 (K : PySem.W.Frag) : V → Option Int → Option Int → Hp → VK → Prop:=fun x lo hi H Q=>∃ a xs,x = .ref a ∧ SqL K H a xs ∧ ∀ p,H p = none → Q (.ref p) (upd H p (.lst (bn4 xs lo hi)))
theorem bA0 : SlR X (db4 X.K):=by
 intro pins s σ H x v vl vu lo hi sl Q I rx hs pl pu h
 obtain ⟨a,xs,rfl,hx,q⟩:=h
 cases rx
 obtain ⟨its,r,ht,hz⟩:=I.list hx
 have hlen:=r.length
 refine ⟨"list", _,slot_list_getitem.lookup,ht.isList.typeIs,?_⟩
 refine wpAny_getItem_list_slice ht.isList hs pl pu .none (by simp) ?_ (by rw [List.size_toArray] <;> omega)
 rw [aR0,← hlen]
 refine ⟨.ref s.heap.objs.size,_,I.laid (t':=s.toks) (o:=.lst (bn4 xs lo hi)) (fun b ob q=>Heap.get?_push_of_some _ q) (Nat.le_refl _) ?_,rfl,q _ (I.hok.fresh (Nat.le_refl _))⟩
 exact ⟨Nat.le_trans (aG2 xs lo hi) hz,_,0,(r.drop (HT.sIx xs.length 0 lo)).take (HT.sIx xs.length xs.length hi - HT.sIx xs.length 0 lo),Heap.get?_push_size _ rfl⟩
noncomputable def as9 : V → Bool
 | .non=>true
 | .bl _=>true
 | .int _=>true
 | .str _=>true
 | _=>false
noncomputable def eqV : V → V → Bool
 | .non,.non=>true
 | .bl a,.bl b=>a == b
 | .bl a,.int b=>(if a then 1 else 0) == b
 | .int a,.bl b=>a == (if b then 1 else 0)
 | .int a,.int b=>a == b
 | .str a,.str b=>a == b
 | _,_=>false
theorem cP7 {A : Around} {s : Shared} {y x : V} {u v : Value} (ry : Q6 y u) (rx : Q6 x v) (fy : as9 y = true) (fx : as9 x = true) : SeqAt.EqAt A s u v (eqV y x):=by
 cases y with
 | non =>
  cases ry
  cases x with
  | non=>cases rx; exact SeqAt.EqAt.same _
  | bl b=>cases rx; exact SeqAt.EqAt.none_bool b
  | int b=>obtain ⟨t,rfl⟩:=rx; exact SeqAt.EqAt.none_int b t
  | str b=>obtain ⟨t,rfl⟩:=rx; exact SeqAt.EqAt.none_str b t
  | _=>exact absurd (show false = true from fx) Bool.false_ne_true
 | bl a =>
  cases ry
  cases x with
  | non=>cases rx; exact SeqAt.EqAt.bool_none a
  | bl b=>cases rx; exact SeqAt.EqAt.bool_bool a b
  | int b=>obtain ⟨t,rfl⟩:=rx; exact SeqAt.EqAt.bool_int a b t
  | str b=>obtain ⟨t,rfl⟩:=rx; exact SeqAt.EqAt.bool_str a b t
  | _=>exact absurd (show false = true from fx) Bool.false_ne_true
 | int a =>
  obtain ⟨t',rfl⟩:=ry
  cases x with
  | non=>cases rx; exact SeqAt.EqAt.int_none a t'
  | bl b=>cases rx; exact SeqAt.EqAt.int_bool a t' b
  | int b=>obtain ⟨t,rfl⟩:=rx; exact SeqAt.EqAt.int_int a t' b t
  | str b=>obtain ⟨t,rfl⟩:=rx; exact SeqAt.EqAt.int_str a t' b t
  | _=>exact absurd (show false = true from fx) Bool.false_ne_true
 | str a =>
  obtain ⟨t',rfl⟩:=ry
  cases x with
  | non=>cases rx; exact SeqAt.EqAt.str_none a t'
  | bl b=>cases rx; exact SeqAt.EqAt.str_bool a t' b
  | int b=>obtain ⟨t,rfl⟩:=rx; exact SeqAt.EqAt.str_int a t' b t
  | str b=>obtain ⟨t,rfl⟩:=rx; exact SeqAt.EqAt.str_str a t' b t
  | _=>exact absurd (show false = true from fx) Bool.false_ne_true
 | _=>exact absurd (show false = true from fy) Bool.false_ne_true
noncomputable def eqU (x : V) (u : Value) : Bool:=match u with
 | .none=>eqV .non x
 | .bool b=>eqV (.bl b) x
 | .int i _=>eqV (.int i) x
 | .str z _=>eqV (.str z) x
 | _=>false
theorem ce7 {x y : V} {u : Value} (r : Q6 y u) (f : as9 y = true) : eqU x u = eqV y x:=by
 cases y with
 | non=>cases r; rfl
 | bl b=>cases r; rfl
 | int i=>obtain ⟨t,rfl⟩:=r; rfl
 | str z=>obtain ⟨t,rfl⟩:=r; rfl
 | _=>exact absurd (show false = true from f) Bool.false_ne_true
theorem az9 {x : V} : ∀ {xs : List V} {us : List Value},K2 xs us → xs.all as9 = true → us.any (eqU x) = xs.any fun y=>eqV y x
 | _,_,.nil,_=>rfl
 | y :: xs,u :: us,.cons r t,f=>by
  rw [List.all_cons,Bool.and_eq_true] at f
  rw [List.any_cons,List.any_cons,ce7 r f.1,az9 t f.2]
theorem am1 {A : Around} {s : Shared} {x : V} {v : Value} (rx : Q6 x v) (fx : as9 x = true) : ∀ {xs : List V} {us : List Value},K2 xs us → xs.all as9 = true → ∀ u ∈ us,SeqAt.EqAt A s u v (eqU x u)
 | _,_,.nil,_=>fun u hu=>by cases hu
 | y :: xs,u :: us,.cons r t,f=>fun u' hu=>by
  rw [List.all_cons,Bool.and_eq_true] at f
  rcases List.mem_cons.mp hu with rfl | hu
  ·rw [ce7 r f.1]; exact cP7 r rx f.1 fx
  ·exact am1 rx fx t f.2 u' hu
noncomputable def inV (x : V) (xs : List V) : Bool:=xs.any fun y=>eqV y x
noncomputable def rIn (K : PySem.W.Frag) (neg : Bool) : R2:=fun x y H Q=>∃ p xs,y = .ref p ∧ (SqL K H p xs ∨ SqT K H p xs) ∧ as9 x = true ∧ xs.all as9 = true ∧ Q (.bl (if neg then !inV x xs else inV x xs)) H
theorem bG8 : OpR X (compareOp .In) (rIn X.K false):=by
 intro pins s σ H x y v u Q I rx ry h
 obtain ⟨p,xs,rfl,hq,fx,fs,q⟩:=h
 cases ry
 rcases hq with hq | hq
 ·obtain ⟨its,r,pl,hz⟩:=I.list hq
  refine SeqAt.in_listAt (eqU x) pl.isList (fun w hw=>am1 rx fx r fs w (by simpa using hw)) ⟨.bl _,H,I,rfl,?_⟩
  rw [show its.toArray.any (eqU x) = its.any (eqU x) by simp,az9 r fs]
  exact q
 ·obtain ⟨its,r,pl,hz⟩:=I.tuple hq
  refine SeqAt.in_tupleAt (eqU x) pl (fun w hw=>am1 rx fx r fs w (by simpa using hw)) ⟨.bl _,H,I,rfl,?_⟩
  rw [show its.toArray.any (eqU x) = its.any (eqU x) by simp,az9 r fs]
  exact q
theorem ba9 : OpR X (compareOp .NotIn) (rIn X.K true):=by
 intro pins s σ H x y v u Q I rx ry h
 obtain ⟨p,xs,rfl,hq,fx,fs,q⟩:=h
 cases ry
 rcases hq with hq | hq
 ·obtain ⟨its,r,pl,hz⟩:=I.list hq
  refine SeqAt.notIn_listAt (eqU x) pl.isList (fun w hw=>am1 rx fx r fs w (by simpa using hw)) ⟨.bl _,H,I,rfl,?_⟩
  rw [show its.toArray.any (eqU x) = its.any (eqU x) by simp,az9 r fs]
  exact q
 ·obtain ⟨its,r,pl,hz⟩:=I.tuple hq
  refine SeqAt.notIn_tupleAt (eqU x) pl (fun w hw=>am1 rx fx r fs w (by simpa using hw)) ⟨.bl _,H,I,rfl,?_⟩
  rw [show its.toArray.any (eqU x) = its.any (eqU x) by simp,az9 r fs]
  exact q
theorem bf1 : u5 X (.builtin "len") (fun xs H Q=>∃ p ys,xs = [.ref p] ∧ (SqL X.K H p ys ∨ SqT X.K H p ys) ∧ Q (.int ys.length) H):=by
 intro pins s σ H xs us Q I r h
 obtain ⟨p,ys,rfl,hq,q⟩:=h
 obtain ⟨u,rfl,rx⟩:=ae7 r
 cases rx
 have hn:=aE4
 rcases hq with hq | hq
 ·obtain ⟨its,r',pl,hz⟩:=I.list hq
  have hlen:=r'.length
  exact Calls.call_len_list pl.isList (by simp only [List.size_toArray] <;> omega) ⟨.int ys.length,H,I.tok _,⟨s.toks + 1,by rw [List.size_toArray,hlen]⟩,q⟩
 ·obtain ⟨its,r',pl,hz⟩:=I.tuple hq
  have hlen:=r'.length
  exact len_tuple pl (by simp only [List.size_toArray] <;> omega) ⟨.int ys.length,H,I.tok _,⟨s.toks + 1,by rw [List.size_toArray,hlen]⟩,q⟩
theorem bf0 : u5 X (.builtin "len") (fun xs H Q=>∃ z,xs = [.str z] ∧ z.length ≤ sizeLine ∧ Q (.int z.length) H):=by
 intro pins s σ H xs us Q I r h
 obtain ⟨z,rfl,hz,q⟩:=h
 obtain ⟨u,rfl,t,rfl⟩:=ae7 r
 have hn:=aE4
 exact len_str (by omega) ⟨.int z.length,H,I.tok _,⟨_,rfl⟩,q⟩
theorem be9 : u5 X (.type "list") (fun xs H Q=>∃ p ys,xs = [.ref p] ∧ (SqL X.K H p ys ∨ SqT X.K H p ys) ∧ ∀ l,H l = none → Q (.ref l) (upd H l (.lst ys))):=by
 intro pins s σ H xs us Q I r h
 obtain ⟨p,ys,rfl,hq,q⟩:=h
 obtain ⟨u,rfl,rx⟩:=ae7 r
 cases rx
 have fin : ∀ (its : List Value),K2 ys its → ys.length ≤ sizeLine → ∀ (h' : Heap) (c' : Nat),(∀ b o',s.heap.get? b = some o' → h'.get? b = some o') →
   h'.get? s.heap.objs.size = some { cls:=.type "list", dict:=none,data:=.seq its.toArray c',slots:=#[] } → EP X pins σ Q (.ref s.heap.objs.size) { s with heap:=h' }:=fun its r' hz h' c' kp e =>
  ⟨.ref s.heap.objs.size,_,I.laid (t':=s.toks) kp (Nat.le_refl _) (show aa8 X.prog X.w _ h' _ (.lst ys) from ⟨hz,its,c',r',e⟩),rfl,q _ (I.hok.fresh (Nat.le_refl _))⟩
 rcases hq with hq | hq
 ·obtain ⟨its,r',pl,hz⟩:=I.list hq
  have hlen:=r'.length
  obtain ⟨o,ho,hc,n,hd⟩:=pl.isList
  exact call_list_seq p (.inl rfl) ho hc hd (fun h' c' kp e=>fin its r' hz h' c' kp e) (by simp only [List.size_toArray] <;> omega)
 ·obtain ⟨its,r',pl,hz⟩:=I.tuple hq
  have hlen:=r'.length
  obtain ⟨o,ho,hc,n,hd⟩:=pl
  exact call_list_seq p (.inr rfl) ho hc hd (fun h' c' kp e=>fin its r' hz h' c' kp e) (by simp only [List.size_toArray] <;> omega)
theorem aS9 : u5 X (.type "tuple") (fun xs H Q=>∃ p ys,xs = [.ref p] ∧ ((SqL X.K H p ys ∧ ∀ l,H l = none → Q (.ref l) (upd H l (.tup ys))) ∨ (SqT X.K H p ys ∧ Q (.ref p) H))):=by
 intro pins s σ H xs us Q I r h
 obtain ⟨p,ys,rfl,h⟩:=h
 obtain ⟨u,rfl,rx⟩:=ae7 r
 cases rx
 rcases h with ⟨hq,q⟩ | ⟨hq,q⟩
 ·obtain ⟨its,r',pl,hz⟩:=I.list hq
  have hlen:=r'.length
  refine call_tuple_list pl.isList (fun h' kp=>?_) (by simp only [List.size_toArray] <;> omega)
  have I1 : Inv X pins σ H { s with heap:=h' }:=I.kept (t':=s.toks) kp
  have I2 : Inv X pins σ (upd H h'.objs.size (.tup ys)) { s with heap:=h'.push { cls:=.type "tuple", data:=.seq its.toArray } } :=
   I1.laid (t':=s.toks) (fun b o e=>Heap.get?_push_of_some _ e) (Nat.le_refl _) (show aa8 X.prog X.w _ _ _ (.tup ys) from ⟨hz,its,r',IsTup.new _ _⟩)
  exact ⟨.ref h'.objs.size,_,I2,rfl,q _ (I1.hok.fresh (Nat.le_refl _))⟩
 ·obtain ⟨its,r',pl,hz⟩:=I.tuple hq
  exact call_tuple_same pl ⟨.ref p,H,I,rfl,q⟩
noncomputable def tyV (K : PySem.W.Frag) (T : String) (x : V) (H : Hp) : Prop:=match x with
 | .str _=>T = "str"
 | .int _=>T = "int"
 | .ref p=>(T = "list" ∧ ∃ xs,SqL K H p xs) ∨ (T = "tuple" ∧ ∃ o,K.lookup p = some o ∧ o.cls = .type "tuple" ∧ o.dict = none) ∨
   (T = "dict" ∧ ((∃ kvs,H p = some (.dK kvs)) ∨ ∃ kvs,H p = some (.dT kvs))) ∨ (T = "set" ∧ ∃ S n,H p = some (.set S n))
 | _=>False
theorem cx6 {pins : List (Addr × Obj)} {σ : St} {H : Hp} {s : Shared} {T : String} {x : V} {v : Value} (I : Inv X pins σ H s) (r : Q6 x v) (ty : tyV X.K T x H) :
  s.TypeIs v T ∧ ∀ a,v = .ref a → ∃ ob,s.heap.get? a = some ob ∧ ob.dict = none:=by
 cases x with
 | str z =>
  obtain ⟨t,rfl⟩:=r
  cases (show T = "str" from ty)
  exact ⟨typeIs_str s z t,fun _ e=>nomatch e⟩
 | int i =>
  obtain ⟨t,rfl⟩:=r
  cases (show T = "int" from ty)
  exact ⟨typeIs_int s i t,fun _ e=>nomatch e⟩
 | ref p =>
  cases r
  rcases ty with ⟨rfl,xs,hq⟩ | ⟨rfl,o,hk,hc,hd⟩ | ⟨rfl,hk⟩ | ⟨rfl,S,n,hk⟩
  ·obtain ⟨its,_,pl,_⟩:=I.list hq
   refine ⟨pl.isList.typeIs,fun a e=>?_⟩
   cases e
   obtain ⟨o,n,e,c,hd,_⟩:=pl
   exact ⟨o,e,hd⟩
  ·refine ⟨⟨o,I.kIn p o hk,hc⟩,fun a e=>?_⟩
   cases e
   exact ⟨o,I.kIn _ o hk,hd⟩
  ·have z : ∃ o,s.heap.get? p = some o ∧ o.ExactDict:=by
    rcases hk with ⟨kvs,hk⟩ | ⟨kvs,hk⟩
    ·obtain ⟨_,_,_,_,o,_,_,e,ex,_⟩:=I.hok p _ hk
     exact ⟨o,e,ex⟩
    ·obtain ⟨_,_,_,_,o,_,_,e,ex,_⟩:=I.hok p _ hk
     exact ⟨o,e,ex⟩
   obtain ⟨o,e,ex⟩:=z
   refine ⟨⟨o,e,ex.1⟩,fun a e2=>?_⟩
   cases e2
   exact ⟨o,e,ex.2.1⟩
  ·obtain ⟨o,_,_,_,e,ex,_⟩:=I.hok p _ hk
   refine ⟨⟨o,e,ex.1⟩,fun a e2=>?_⟩
   cases e2
   exact ⟨o,e,ex.2.1⟩
 | _=>exact False.elim ty
noncomputable def tBM (K : PySem.W.Frag) (T : String) (r : V → List V → Hp → VK → Prop) (to : TE) (t : TA) : TE:=fun σ H Q=>to σ H fun x H1=>tyV K T x H1 ∧ t σ H1 fun xs H2=>r x xs H2 Q
variable {o e : Expr} {es : List Expr} {to : TE} {t : TA} {name : Str} {apos cpos : Pos} {T id : String} {r : V → List V → Hp → VK → Prop}
theorem bB0 (pa : PlainAttrs T) (slot : Slot T name id) (hty : typeOf (.builtin id) = pure (.type "method_descriptor")) (hm : MtR X id r) (ho : PE X o to) (ha : PA X (e :: es) t)
  (hbase : attributeBase o name X.env (eval o X.env) = eval o X.env:=by rfl)
  (hfew : ((backTo cpos (starEach (e :: es) X.env)).all (fun x=>!x.1) && (backToKw cpos (keywordEach [] X.env)).all (fun x=>x.1.isSome)
   && decide ((e :: es).length + ([] : List Keyword).length + (if ([] : List Keyword).isEmpty then 0 else 1) < 30)) = true:=by rfl)
  (hline : (apos.endLine == cpos.line) = true:=by rfl) (hs : starEach (e :: es) X.env = (false,eval e X.env) :: starEach es X.env:=by rfl) (hplain : (backTo cpos (starEach es X.env)).any (·.1) = false:=by rfl) :
  PE X (.Call (.Attribute o name apos) (e :: es) [] cpos) (tBM X.K T r to t):=by
 intro pins s σ H Q I h
 refine wpAny_Call_method_late hbase hfew hline rfl (thn (ho pins s σ H _ I h) fun v s1 ⟨x,H1,I1,r1,ty,q1⟩=>?_)
 obtain ⟨h1,h2⟩:=cx6 I1 r1 ty
 refine ⟨T,id,pa,slot,hty,h1,h2,?_⟩
 have hA:=ha cpos pins s1 σ H1 _ I1 q1
 rw [hs] at hA ⊢
 refine Calls.callWith_builtin (by show (false || (backTo cpos (starEach es X.env)).any (·.1)) = false; rw [hplain] <;> rfl) (Calls.evalArgs_plain ?_)
 exact thn hA fun us s2 ⟨vs,H2,I2,r2,q2⟩=>hm pins s2 σ H2 x vs v us Q I2 r1 r2 q2
end
end L2
namespace L2
open PySem PySem.Spec PyProof.Rows
noncomputable def MtM (X : Cx) (id : String) (r : V → List V → Hp → VK → Prop) : Prop :=
 ∀ (pins : List (Addr × Obj)) (s : Shared) (σ : St) (H : Hp) (x : V) (xs : List V) (v : Value) (us : List Value) (Q : VK),Inv X pins σ H s → Q6 x v → K2 xs us → r x xs H Q →
  wpAny (model X.prog X.w) X.A (call (.builtin id) (v :: us)) (EP X pins σ Q) X.xe s
theorem K2.one : ∀ {x : V} {us : List Value},K2 [x] us → ∃ u,us = [u] ∧ Q6 x u
 | _,_,.cons r .nil=>⟨_,rfl,r⟩
theorem K2.rep {xs : List V} {us : List Value} (h : K2 xs us) : ∀ k : Nat,K2 (List.replicate k xs).flatten (List.replicate k us).flatten
 | 0=>.nil
 | k + 1=>by
  rw [List.replicate_succ,List.replicate_succ,List.flatten_cons,List.flatten_cons]
  exact K2.append h (K2.rep h k)
theorem aV3 (its : List Value) : ∀ (k : Nat) (acc : List Value),
  List.foldl (fun x1 x2=>x1 ++ x2) acc.toArray (List.replicate k its.toArray) = (acc ++ (List.replicate k its).flatten).toArray
 | 0,acc=>by simp
 | k + 1,acc=>by
  have e : acc.toArray ++ its.toArray = (acc ++ its).toArray:=by simp
  have e2 : (acc ++ its) ++ (List.replicate k its).flatten = acc ++ (List.replicate (k + 1) its).flatten:=by
   rw [List.replicate_succ,List.flatten_cons,List.append_assoc]
  rw [← e2,← aV3 its k (acc ++ its),← e,List.replicate_succ,List.foldl_cons]
section
variable {X : Cx} {pins : List (Addr × Obj)} {σ : St} {H : Hp} {s : Shared} {l b : Addr} {xs ys zs : List V}
theorem Inv.lset {its its' : List Value} {n : Nat} {f : Array Value → Array Value} {t' : Nat} (I : Inv X pins σ H s) (hH : H l = some (.lst xs))
  (e : s.heap.get? l = some { cls:=.type "list", data:=.seq its.toArray n }) (hf : f its.toArray = its'.toArray) (hv : K2 ys its') (hz : ys.length ≤ sizeLine) :
  Inv X pins σ (upd H l (.lst ys)) { s with heap:=s.heap.update l (Obj.mapSeq f),toks:=t' }:=by
 have q:=PySem.IsL.update e f
 rw [hf] at q
 refine I.write (x:=l) (e:=l) (by rw [hH]; exact trivial) (.inl rfl) (fun b' u hb hu=>(Heap.get?_update_other s.heap (Obj.mapSeq f) (Ne.symm hb)).trans hu) ⟨_,q⟩ ?_
 exact ⟨hz,its',_,hv,q⟩
theorem Inv.lnew {its : List Value} {t' : Nat} (I : Inv X pins σ H s) (hv : K2 ys its) (hz : ys.length ≤ sizeLine) :
  Inv X pins σ (upd H s.heap.objs.size (.lst ys)) { s with heap:=s.heap.push { cls:=.type "list", data:=.seq its.toArray },toks:=t' } :=
 I.laid (fun _ _ q=>Heap.get?_push_of_some _ q) (Nat.le_refl _) ⟨hz,its,0,hv,Heap.get?_push_size _ rfl⟩
theorem Inv.fresh (I : Inv X pins σ H s) : H s.heap.objs.size = none:=I.hok.fresh (Nat.le_refl _)
theorem Inv.lstM (I : Inv X pins σ H s) (hH : H l = some (.lst xs)) : xs.length ≤ sizeLine ∧ ∃ (its : List Value) (n : Nat),K2 xs its ∧ xs.length = its.length ∧ s.heap.get? l = some { cls:=.type "list", data:=.seq its.toArray n }:=by
 obtain ⟨z,its,n,r,e⟩:=I.hok l _ hH
 exact ⟨z,its,n,r,r.length,e⟩
theorem al9 {n : Nat} (h : n ≤ sizeLine) : Builtin.List.listTooLong n = false:=by
 unfold Builtin.List.listTooLong
 exact decide_eq_false (by omega)
end
section
variable {X : Cx}
noncomputable def ck0 : V → List V → Hp → VK → Prop:=fun x vs H Q=>∃ l xs y,x = .ref l ∧ vs = [y] ∧ H l = some (.lst xs) ∧ xs.length < sizeLine ∧ Q .non (upd H l (.lst (xs ++ [y])))
theorem aU8 : MtM X "list.append" ck0:=by
 intro pins s σ H x vs v us Q I rx rv h
 obtain ⟨l,xs,y,rfl,rfl,hH,hz,q⟩:=h
 cases rx
 obtain ⟨u,rfl,ru⟩:=rv.one
 obtain ⟨z,its,n,r,hl,e⟩:=I.lstM hH
 refine call_meets F.slot_list_append ⟨_,e,rfl⟩ F.entry_list_append (F.args_list_append_2 _ _) (PySem.list_append l its.toArray n u (by rw [List.size_toArray]; omega)) ⟨e,?_⟩
 refine ⟨.non,_,I.lset (its':=its ++ [u]) hH e (by simp) (r.append (.cons ru .nil)) ?_,rfl,q⟩
 rw [List.length_append,List.length_singleton]
 omega
theorem bc3 {α : Type} (xs : List α) (k : Nat) : (List.replicate k xs).flatten.length = k * xs.length:=by
 induction k with
 | zero=>simp
 | succ k ih=>rw [List.replicate_succ,List.flatten_cons,List.length_append,ih,Nat.succ_mul,Nat.add_comm]
end
section
variable {prog : Program} {w : World} {A : Around} {E : Value → Shared → Prop} {s : Shared}
theorem bG0 (its its2 : List Value) (a c : Nat) : its.toArray.extract 0 a ++ its2.toArray ++ its.toArray.extract c its.toArray.size = (its.take a ++ its2 ++ its.drop c).toArray:=by
  apply Array.toList_inj.mp
  first
    | (simp
       exact List.take_of_length_le (by simp))
    | simp [List.take_of_length_le]
    | simp
set_option maxRecDepth 100000 in
end
section
variable {X : Cx}
end
end L2
namespace Att
open PySem PySem.W PySem.Calls PyProof.Rows
theorem aH8 {P : Params} {h : Heap} : ∀ (ns : List Int) (vs : List Value),WellAll P h vs (ns.map WData.int) → IntsAre vs ns:=by
 intro ns
 induction ns with
 | nil =>
  intro vs w
  rw [List.map_nil] at w
  cases w
  exact .nil
 | cons n ns ih =>
  intro vs w
  rw [List.map_cons] at w
  cases w with
  | cons a b =>
   cases a
   exact .cons _ _ (ih _ b)
theorem bG3 {l : OpenLaw} {n : Nat} (hn : l.most = some n) {P : Params} {h : Heap} {args : List WData} {vals : List Value}
  (hpre : l.row.toRowW.claim.pre args = true) (hwl : WellAll P h vals args) :
  ∃ a vs ns,vals = [Value.ref a] ∧ args = [WData.list (ns.map WData.int)] ∧ h.get? a = some { cls:=.type "list", data:=.seq vs.toArray } ∧ IntsAre vs ns ∧ ns.length ≤ n:=by
 have hsh : WShape.hasAll [] args [.list .int] = true:=(pre_splitW hpre).1
 have hc : l.pre.holds [] { args:=args } = true:=(pre_splitW hpre).2
 obtain ⟨d,r,rfl,h1,h2⟩:=hasAllW_cons hsh
 obtain rfl:=hasAllW_nil h2
 obtain ⟨xs,rfl,h3⟩:=hasW_list h1
 obtain ⟨ns,rfl⟩:=items_int h3
 have hlen : ns.length ≤ n:=by
  unfold OpenLaw.pre at hc
  have h4 : (WTm.not (.lt (.lit (.int (n : Int))) (.len (.arg 0)))).holds [] { args:=[.list (ns.map .int)] } = true:=by
   have h4:=(holds_andW hc).1
   rw [hn] at h4
   exact h4
  have h5:=condW_of h4 (w_not (w_lt w_lit (w_len_list (w_arg rfl))))
  rw [List.length_map] at h5
  refine Nat.le_of_not_lt fun q=>?_
  have q' : (n : Int) < ((ns.length : Nat) : Int):=by omega
  first
   | (rw [decide_eq_true q'] at h5; exact absurd h5 (by decide))
   | (simp at h5; omega)
 cases hwl with
 | cons w1 w2 =>
  cases w2
  cases w1 with
  | list ho hall=>exact ⟨_,_,ns,rfl,rfl,ho,aH8 ns _ hall,hlen⟩
theorem bG4 (l : OpenLaw) (args : List WData) : l.row.toRowW.claim.post args (.bool true) args = true :=
 postW_of (r:=l.row.toRowW) (X:=(true == true))
  (show WShape.has [] (.bool true) .bool = true by first | rfl | decide | simp [WShape.has,WShape.arms,WShape.armsAll])
  (show (WTm.eq .res (.lit (.bool true))).value [] { args:=args,res:=some (.bool true),after:=args } = some (.bool (true == true)) from w_eq_bool (w_res rfl) w_lit) rfl
theorem attach_call {l : OpenLaw} {n : Nat} {q : Program} {loose : List Str} {XP : (Str → Option Value) → Heap → Prop} {YP : World → Heap → Prop} {d : DefRec}
  (hn : l.most = some n) (hdf : d.params.defaults = [])
  (call : ∀ (w : World) (s₀ s₁ : Shared) (mg mb : Str → Option Value) (fa : Addr) (o : Obj) (pm cd doc : Value) (a : Addr) (vs : List Value) (ns : List Int),
   Ground q loose [] XP w s₀ mg mb s₁.heap → YP w s₁.heap →
   s₁.heap.get? fa = some o → o.data = .func (docDef d.name d.params d.body d.scope pm cd doc) → s₁.heap.CodeRec cd d.name → mg d.name = some (.ref fa) →
   s₁.heap.get? a = some { cls:=.type "list", data:=.seq vs.toArray } → IntsAre vs ns → ns.length ≤ n → s₁.gens = #[] →
   codeAny (model l.prog w) callerA (.call (.ref fa) ⟨[.ref a],[]⟩) (fun r s'=>r = .ok (.ret (.bool true)) ∧ OldK s₁.heap s'.heap ∧ s'.os = s₁.os ∧ AllBare s'.gens) s₁) :
  WalkO q loose XP YP l.row.toRowW d [] (fun f vs=>PySem.call f vs):=by
 intro w s₀ s₁ mg mb G Y fa o pm cd doc dV kV ho hd hcd hD hmg hg args vals as hpre hlay hrd hwl hlo
 obtain rfl : dV = .none:=Dflts.none hD hdf
 obtain rfl : kV = .none:=Dflts.noKw hD
 obtain ⟨a,vs,ns,rfl,rfl,hobj,hints,hlen⟩:=bG3 hn hpre hwl
 refine enter_call (codeAny_mono (call w s₀ s₁ mg mb fa o pm cd doc a vs ns G Y ho (fd_plain hd) hcd hmg hobj hints hlen hg) fun r s' hq=>?_)
 obtain ⟨rfl,h2,h3,h4⟩:=hq
 exact ⟨.inl ⟨.bool true,.bool true,[],rfl,fun _=>rfl,.bool true,bG4 l _,fun _=>⟨List.Pairwise.nil,fun _ hm=>(nomatch hm)⟩⟩,h2,h3,h4⟩
section
variable {prog : Program} {w : World} {A : Around} {E : Value → Shared → Prop} {s : Shared} {K : Frag}
end
end Att
namespace L2
open PySem PySem.Spec PyProof.Rows
theorem y8 : ∀ {vs : List Value} {ns : List Int},IntsAre vs ns → K2 (ns.map V.int) vs
 | _,_,.nil=>.nil
 | _,_,.cons n t h=>.cons ⟨t,rfl⟩ (y8 h)
noncomputable def cR5 (H : Hp) : Prop:=∀ b,H b = none ∨ ∃ o xs,H b = some (.frz o (.lst xs))
theorem bZ8 {P : Program} {w : World} {K : PySem.W.Frag} {mg mb : Str → Option Value} {CX : CXT} {k : Nat} {fa a : Addr} {fd : FuncData} {x : Str} {sp : Sp} {s₁ : Shared} {vs : List Value} {ns : List Int}
  (KX : K.In s₁.heap) (hns : s₁.heap.Ns mainGlobals mg) (hb : s₁.heap.Ns builtinsNs mb) (hbb : ∀ x : Str,x ≠ "__name__" → mb x = bootBuiltins x) (hlim : s₁.heap.NoLimit) (hg : s₁.gens = #[])
  (ha : s₁.heap.get? a = some { cls:=.type "list", data:=.seq vs.toArray }) (hi : IntsAre vs ns) (hl : ns.length ≤ sizeLine) (hr : Room k callerA)
  (F : ∀ base : Heap,K.In base → base.Ns mainGlobals mg → FnOk P w K mg base CX k fa fd [x] sp) (hbind : ∀ (s : Shared) (u : Value),BindsTo s fd ⟨[u],[]⟩ [(x,u)])
  (hsp : ∀ H : Hp,cR5 H → SqL K H a (ns.map V.int) → sp [.ref a] H (fun v _=>v = .bl true) fun _ _ _=>False)
  (hCX : ∀ H e s',CX [] H s₁ (fun _ _ _=>False) e s' → False) :
  codeAny (model P w) callerA (.call (.ref fa) ⟨[.ref a],[]⟩) (fun r s'=>r = .ok (.ret (.bool true)) ∧ OldK s₁.heap s'.heap ∧ s'.os = s₁.os ∧ AllBare s'.gens) s₁:=by
 have rv:=y8 hi
 have lenV:=hi.length
 have core : ∀ H : Hp,cR5 H → SqL K H a (ns.map V.int) → HOk P w H s₁.heap → (∀ b,H b ≠ none → b = a) → (H a ≠ none → K.lookup a = none) →
   codeAny (model P w) callerA (.call (.ref fa) ⟨[.ref a],[]⟩) (fun r s'=>r = .ok (.ret (.bool true)) ∧ OldK s₁.heap s'.heap ∧ s'.os = s₁.os ∧ AllBare s'.gens) s₁:=by
  intro H hO hS hok hA hK
  have base_of : ∀ {b : Addr} {o : Obj},s₁.heap.get? b = some o → H b = none → (bd1 s₁.heap H).get? b = some o:=fun e n=>cc7 e n
  have noA : ∀ {b : Addr} {o : Obj} {es : Array DictEntry} {ep : Nat},s₁.heap.get? b = some o → o.data = .dict es ep → H b = none:=fun {b o es ep} e d=>by
   cases q : H b with
   | none=>rfl
   | some u =>
    have e' : b = a:=hA b (by rw [q]; simp)
    subst e'
    rw [ha] at e; cases e
    have d' : Data.seq vs.toArray _ = Data.dict es ep:=d
    cases d'
  have nsK : ∀ {b : Addr} {m : Str → Option Value},s₁.heap.Ns b m → (bd1 s₁.heap H).Ns b m:=fun {b m} ⟨o,es,ep,e,d,r⟩=>⟨o,es,ep,base_of e (noA e d),d,r⟩
  have hKb : K.In (bd1 s₁.heap H):=fun b o e=>base_of (KX b o e) (by
   cases q : H b with
   | none=>rfl
   | some u =>
    have e' : b = a:=hA b (by rw [q]; simp)
    subst e'
    rw [hK (by rw [q]; simp)] at e; cases e)
  have hM : Mod K mg (bd1 s₁.heap H):=⟨hKb,nsK hns,⟨mb,nsK hb,hbb⟩,let ⟨mc,h1,h2⟩:=hlim; ⟨mc,nsK h1,h2⟩⟩
  have e0 : Env0 P w K mg (bd1 s₁.heap H) callerA [] s₁ H:=⟨rfl,hM,fun b o e=>cm3 e,Nat.le_of_eq (bL2 _ _),trivial,fun b hb=>absurd (show b ∈ ([] : List Addr) from hb) (by simp),hok,.of_eq hg⟩
  refine codeAny_mono ((F _ hKb (nsK hns)).run callerA [] s₁ H ⟨[.ref a],[]⟩ [.ref a] [.ref a] _ _ hr e0 (hbind s₁ (.ref a)) (.cons rfl .nil) (hsp H hO hS)) fun r s' h=>?_
  cases r with
  | error e=>exact (hCX H e s' h).elim
  | ok fl =>
   cases fl with
   | next=>exact False.elim h
   | brk=>exact False.elim h
   | cont=>exact False.elim h
   | ret u =>
    obtain ⟨v,H',os,bare,un,hok',r',q⟩:=h
    have q' : v = .bl true:=q
    subst q'
    obtain rfl : u = Value.bool true:=r'
    refine ⟨rfl,OldK.of_keep fun b o e=>?_,os,bare⟩
    cases q : H b with
    | none=>exact un.keep b o e q (by intro z; exact absurd (show b ∈ ([] : List Addr) from z) (by simp)) (by simp)
    | some u =>
     rcases hO b with z | ⟨ob,xs,z⟩
     ·rw [q] at z; cases z
     ·have z2:=un.frzs b ob _ z
      obtain ⟨e1,_⟩:=hok b _ z
      obtain ⟨e2,_⟩:=hok' b _ z2
      rw [e] at e1; cases e1
      exact e2
 cases hk : K.lookup a with
 | some o =>
  have e:=KX a o hk
  rw [ha] at e
  cases e
  refine core (fun _=>none) (fun _=>.inl rfl) (.inr ⟨_,vs.toArray,_,hk,rfl,rfl,rfl,by rw [List.size_toArray,lenV]; exact hl,by simpa using rv⟩) (fun b u z=>by have z' : (none : Option HO) = some u:=z; cases z') (fun b z=>absurd rfl z) fun z=>absurd rfl z
 | none =>
  refine core (fun b=>if b = a then some (.frz { cls:=.type "list", data:=.seq vs.toArray } (.lst (ns.map V.int))) else none) (fun b=>?_) (.inl (.inr ⟨{ cls:=.type "list", data:=.seq vs.toArray },if_pos rfl⟩)) (fun b u z=>?_) (fun b z=>?_) fun _=>hk
  ·by_cases hb : b = a
   ·exact .inr ⟨_,_,if_pos hb⟩
   ·exact .inl (if_neg hb)
  ·by_cases hb : b = a
   ·have z':=(if_pos hb).symm.trans z
    cases z'
    subst hb
    exact ⟨ha,by rw [List.length_map]; exact hl,vs,_,rv,ha⟩
   ·have z':=(if_neg hb).symm.trans z
    cases z'
  ·by_cases hb : b = a
   ·exact hb
   ·exact absurd (if_neg hb) z
end L2
namespace L2
open PySem PySem.Spec PyProof.Rows
theorem ci9 {l : PySem.W.OpenLaw} {n k : Nat} {q : Program} {loose : List Str} {XP : (Str → Option Value) → Heap → Prop} {YP : World → Heap → Prop} {d : DefRec} {K : Params → PySem.W.Frag} {CX : World → CXT} {sp : World → Sp} {x : Str}
  (hn : l.most = some n) (hn2 : n ≤ sizeLine) (hdf : d.params.defaults = []) (hr : Room k callerA)
  (hY : ∀ (w : World) (h : Heap),YP w h → (K w.params).In h)
  (F : ∀ (w : World) (mg : Str → Option Value) (fa : Addr) (h : Heap),(K w.params).In h → h.Ns mainGlobals mg → mg d.name = some (.ref fa) →
   ∃ fd : FuncData,(∀ (s : Shared) (u : Value),BindsTo s fd ⟨[u],[]⟩ [(x,u)]) ∧
    ∀ base : Heap,(K w.params).In base → base.Ns mainGlobals mg → FnOk l.prog w (K w.params) mg base (CX w) k fa fd [x] (sp w))
  (hsp : ∀ (w : World) (H : Hp) (a : Addr) (ns : List Int),ns.length ≤ n → cR5 H → SqL (K w.params) H a (ns.map V.int) → sp w [.ref a] H (fun v _=>v = .bl true) fun _ _ _=>False)
  (hCX : ∀ (w : World) (H : Hp) (s : Shared) (e : Value) (s' : Shared),CX w [] H s (fun _ _ _=>False) e s' → False) :
  PySem.W.WalkO q loose XP YP l.row.toRowW d [] (fun f vs=>PySem.call f vs):=by
 refine Att.attach_call hn hdf fun w s₀ s₁ mg mb fa o pm cd doc a vs ns G Y ho hd hcd hmg hobj hints hlen hg=>?_
 have KX:=hY w _ Y
 obtain ⟨fd,hb,hF⟩:=F w mg fa _ KX G.T.g hmg
 exact bZ8 KX G.T.g G.T.b G.T.builtins G.T.nolimit hg hobj hints (Nat.le_trans hlen hn2) hr hF hb (fun H hO hS=>hsp w H a ns hlen hO hS) fun H e s'=>hCX w H s₁ e s'
end L2
namespace L2
open PySem PySem.Spec PyProof.Rows
noncomputable def w6 (s : Stmt) : Arguments:=match s with
 | .FunctionDef _ a _ _ _ _ _ _ _ _=>a
 | _=>{ posonlyargs:=[],args:=[],vararg:=none,kwonlyargs:=[],kw_defaults:=[],kwarg:=none,defaults:=[] }
noncomputable def X4 (s : Stmt) : List Stmt:=match s with
 | .FunctionDef _ _ b _ _ _ _ _ _ _=>b
 | _=>[]
noncomputable def N3 (s : Stmt) : Scope:=match s with
 | .FunctionDef _ _ _ _ _ _ sc _ _ _=>sc
 | _=>{ kind:=.function,names:=[],isGenerator:=false,isCoroutine:=false }
noncomputable abbrev CX0 : CXT:=fun _ _ _ _ _ _=>False
noncomputable abbrev E0 : XK:=fun _ _ _=>False
theorem cu8 {X : Cx} : bg1 CX0 X E0:=fun _ _ _ _ _ _ _ h=>h.elim
structure Fun (K : PySem.W.Frag) (x qual : Str) (st : Stmt) (f : Addr) (fd : FuncData) : Prop where
 ex : ∃ (oc : Value) (od : Option Addr) (kV doc pm : Value) (an : Option Addr) (cdv ct : Value) (osl : Array (Option Value)),
  fd = PySem.W.fnOf x qual (w6 st) (X4 st) (N3 st) .none kV doc pm an cdv ct ∧ K.lookup f = some ⟨oc,od,.func fd,osl⟩ ∧ PySem.W.codeIn K cdv qual = true
 kp : PySem.W.keepIn K (.ref f) = true
section
variable {P : Program} {w : World} {K : PySem.W.Frag} {mg : Str → Option Value} {base : Heap}
theorem Fun.ok {x qual : Str} {st : Stmt} {f : Addr} {fd : FuncData} {N ps : List Str} {k : Nat} {sp : Sp} (F : Fun K x qual st f fd) (S : FnScope N ps (N3 st)) (len : ∀ vs H Q E,sp vs H Q E → vs.length = ps.length)
  (hbody : ∀ (cdv : Value) (A : Around) (outer : List Env) (s : Shared) (H : Hp) (vs : List V) (Q : VK) (E : XK),Room k (A.deeper (envOfC qual (N3 st) s.heap.objs.size f cdv)) → sp vs H Q E →
   ∃ t,PSs (bw5 CX0 P w K mg base N qual (N3 st) f cdv A outer s H E).nox (X4 st) t ∧ t { nx:=fun _ H'=>Q .non H',rt:=Q } (ae8 N vs) H) : FnOk P w K mg base CX0 (k + 1) f fd ps sp:=by
 obtain ⟨oc,od,kV,doc,pm,an,cdv,ct,osl,rfl,lk,hcd⟩:=F.ex
 refine bm2 lk hcd S len fun A outer s H vs Q E hr hsp=>?_
 obtain ⟨t,h,q⟩:=hbody cdv A outer s H vs Q E hr hsp
 exact ⟨t,h.nox,q⟩
theorem cP3 {x qual : Str} {st : Stmt} {f : Addr} {oc : Value} {od an : Option Addr} {osl : Array (Option Value)} {kV doc pm cdv ct : Value} (l : K.lookup f = some ⟨oc,od,.func (PySem.W.fnOf x qual (w6 st) (X4 st) (N3 st) .none kV doc pm an cdv ct),osl⟩)
  (c : PySem.W.codeIn K cdv qual = true) (k : PySem.W.keepIn K (.ref f) = true) : Fun K x qual st f (PySem.W.fnOf x qual (w6 st) (X4 st) (N3 st) .none kV doc pm an cdv ct):=⟨⟨oc,od,kV,doc,pm,an,cdv,ct,osl,rfl,l,c⟩,k⟩
end
theorem aA8 {n : Nat} (h : n ≤ 1000) : n < sizeLine:=Nat.lt_of_le_of_lt h (by decide)
section
variable {X : Cx}
theorem pv (i : Nat) {x : Str} {pos : Pos} (hN : X.N[i]? = some x:=by rfl) (hv : Vis X.env.scope x:=by first | exact Or.inl rfl | exact Or.inr (Or.inl rfl) | exact Or.inr (Or.inr rfl)) (hd : (x == ("__debug__" : Str)) = false:=by decide)
  (hcd : (x == ("__classdict__" : Str)) = false:=by decide) : PE X (.Name x pos) (cT2 i):=au7 hN hv hd hcd
end
theorem aR9 {A B : Prop} (h : B) : if false = true then A else B:=by
 rw [if_neg Bool.false_ne_true]
 exact h
theorem aR8 {A B : Prop} (h : A) : if true = true then A else B:=by
 rw [if_pos rfl]
 exact h
noncomputable def L3 (H H' : Hp) : Prop:=∀ b o,H b = some o → H' b = some o
theorem L3.refl (H : Hp) : L3 H H:=fun _ _ h=>h
theorem L3.trans {H H1 H2 : Hp} (a : L3 H H1) (b : L3 H1 H2) : L3 H H2:=fun c o h=>b c o (a c o h)
theorem L3.free {H H' : Hp} (e : L3 H H') {l : Addr} (h : H' l = Option.none) : H l = Option.none:=by
 cases q : H l with
 | none=>rfl
 | some o =>
  rw [e l o q] at h
  cases h
end L2
set_option maxHeartbeats 4000000
namespace G
theorem xbm {α β : Type} {o : Option α} {f : α → Option β} {b : β} (h : o.bind f = some b) : ∃ a,o = some a ∧ f a = some b:=Option.bind_eq_some_iff.mp h
open PySem PySem.Spec PyProof.Rows L2
noncomputable abbrev D:=PyData
mutual
noncomputable def Rep (K : PySem.W.Frag) (H : Hp) : D → V → Prop
 | .none,v=>v = .non
 | .bool b,v=>v = .bl b
 | .int i,v=>v = .int i
 | .str x,v=>v = .str x
 | .tuple ds,v=>∃ a vs,v = .ref a ∧ SqT K H a vs ∧ Reps K H ds vs
 | .list ds,v=>∃ a vs,v = .ref a ∧ SqL K H a vs ∧ Reps K H ds vs
 | .dict _,_=>False
noncomputable def Reps (K : PySem.W.Frag) (H : Hp) : List D → List V → Prop
 | [],vs=>vs = []
 | d :: ds,vs=>∃ v r,vs = v :: r ∧ Rep K H d v ∧ Reps K H ds r
end
section
variable {K : PySem.W.Frag} {H H' H0 H1 H2 Hf Hf' Hf1 Hf2 : Hp}
theorem bA2 {a : Addr} {u : HO} (e : L3 H H') (h : Rd H a u) : Rd H' a u:=by
 rcases h with h | ⟨o,h⟩
 ·exact .inl (e _ _ h)
 ·exact .inr ⟨o,e _ _ h⟩
theorem E2 {a : Addr} {xs : List V} (e : L3 H H') (h : SqT K H a xs) : SqT K H' a xs:=h.imp (bA2 e) id
theorem K8 {a : Addr} {xs : List V} (e : L3 H H') (h : SqL K H a xs) : SqL K H' a xs:=h.imp (bA2 e) id
mutual
theorem Rep.mono (e : L3 H H') : ∀ {d : D} {v : V},Rep K H d v → Rep K H' d v
 | .none,_,h=>h
 | .bool _,_,h=>h
 | .int _,_,h=>h
 | .str _,_,h=>h
 | .tuple _,_,⟨a,vs,h1,h2,h3⟩=>⟨a,vs,h1,E2 e h2,Reps.mono e h3⟩
 | .list _,_,⟨a,vs,h1,h2,h3⟩=>⟨a,vs,h1,K8 e h2,Reps.mono e h3⟩
 | .dict _,_,h=>h
theorem Reps.mono (e : L3 H H') : ∀ {ds : List D} {vs : List V},Reps K H ds vs → Reps K H' ds vs
 | [],_,h=>h
 | _ :: _,_,⟨v,r,h1,h2,h3⟩=>⟨v,r,h1,Rep.mono e h2,Reps.mono e h3⟩
end
theorem Reps.length : ∀ {ds : List D} {vs : List V},Reps K H ds vs → vs.length = ds.length
 | [],_,h=>by cases h; rfl
 | _ :: _,_,⟨v,r,h1,h2,h3⟩=>by subst h1; simp [Reps.length h3]
theorem Reps.get : ∀ {ds : List D} {vs : List V} {i : Nat} {d : D},Reps K H ds vs → ds[i]? = some d → ∃ v,vs[i]? = some v ∧ Rep K H d v
 | [],_,_,_,_,e=>by simp at e
 | x :: _,_,0,_,⟨v,r,h1,h2,h3⟩,e=>by subst h1; simp at e; subst e; exact ⟨v,rfl,h2⟩
 | x :: _,_,i + 1,_,⟨v,r,h1,h2,h3⟩,e=>by
  subst h1
  obtain ⟨u,q1,q2⟩:=Reps.get (i:=i) h3 (by simpa using e)
  exact ⟨u,by simpa using q1,q2⟩
theorem Reps.append : ∀ {ds es : List D} {vs us : List V},Reps K H ds vs → Reps K H es us → Reps K H (ds ++ es) (vs ++ us)
 | [],_,_,_,h,q=>by cases h; exact q
 | _ :: _,_,_,_,⟨v,r,h1,h2,h3⟩,q=>by subst h1; exact ⟨v,r ++ _,rfl,h2,Reps.append h3 q⟩
theorem Reps.take : ∀ {ds : List D} {vs : List V} (n : Nat),Reps K H ds vs → Reps K H (ds.take n) (vs.take n)
 | [],_,n,h=>by cases h; simp [Reps]
 | _ :: _,_,0,h=>by simp [Reps]
 | _ :: _,_,n + 1,⟨v,r,h1,h2,h3⟩=>by subst h1; exact ⟨v,r.take n,rfl,h2,Reps.take n h3⟩
theorem Reps.drop : ∀ {ds : List D} {vs : List V} (n : Nat),Reps K H ds vs → Reps K H (ds.drop n) (vs.drop n)
 | [],_,n,h=>by cases h; simp [Reps]
 | _ :: _,_,0,h=>h
 | _ :: _,_,n + 1,⟨v,r,h1,h2,h3⟩=>by subst h1; exact Reps.drop n h3
theorem Reps.ints : ∀ (ns : List Int),Reps K H (ns.map PyData.int) (ns.map V.int)
 | []=>rfl
 | n :: r=>⟨.int n,r.map V.int,rfl,rfl,Reps.ints r⟩
theorem Reps.flatten {ds : List D} {vs : List V} (h : Reps K H ds vs) : ∀ k : Nat,Reps K H (List.replicate k ds).flatten (List.replicate k vs).flatten
 | 0=>rfl
 | k + 1=>by simp only [List.replicate_succ,List.flatten_cons]; exact h.append (Reps.flatten h k)
structure Grow (H Hf H' Hf' : Hp) : Prop where
 big : L3 H H'
 sub : L3 Hf' H'
 ext : L3 Hf Hf'
 new : ∀ b,Hf' b ≠ none → Hf b ≠ none ∨ H b = none
theorem Grow.refl (h : L3 Hf H) : Grow H Hf H Hf:=⟨L3.refl _,h,L3.refl _,fun _ h=>.inl h⟩
theorem Grow.trans (a : Grow H Hf H1 Hf1) (b : Grow H1 Hf1 H2 Hf2) : Grow H Hf H2 Hf2 :=
 ⟨a.big.trans b.big,b.sub,a.ext.trans b.ext,fun x h=>(b.new x h).elim (a.new x) fun z=>.inr (a.big.free z)⟩
theorem G0 {p : Addr} {o : HO} (h : H p = none) : L3 H (upd H p o):=fun b u e=>by rw [C7 (C9 e h)]; exact e
theorem Grow.laid {p : Addr} {o : HO} (s : L3 Hf H) (h : H p = none) : Grow H Hf (upd H p o) (upd Hf p o):=by
 refine ⟨G0 h,fun b u e=>?_,G0 (s.free h),fun b e=>?_⟩
 ·by_cases q : b = p
  ·subst q; rw [C6] at e; rw [C6]; exact e
  ·rw [C7 q] at e; rw [C7 q]; exact s b u e
 ·by_cases q : b = p
  ·subst q; exact .inr h
  ·rw [C7 q] at e; exact .inl e
theorem Grow.made {p : Addr} {o : HO} (s : L3 Hf H) (h : H p = none) : Grow H Hf (upd H p o) Hf :=
 ⟨G0 h,s.trans (G0 h),L3.refl _,fun _ e=>.inl e⟩
theorem Grow.freeze {p : Addr} {o : HO} (g : Grow H Hf H1 Hf1) (h : H1 p = some o) (n : Hf1 p = none) (f : H p = none) : Grow H Hf H1 (upd Hf1 p o):=by
 refine ⟨g.big,fun b u e=>?_,g.ext.trans (G0 n),fun b e=>?_⟩
 ·by_cases q : b = p
  ·subst q; rw [C6] at e; rw [h]; exact e
  ·rw [C7 q] at e; exact g.sub b u e
 ·by_cases q : b = p
  ·subst q; exact .inr f
  ·rw [C7 q] at e; exact g.new b e
end
inductive B where
 | val (d : D)
 | own (ds : List D)
noncomputable abbrev Rho:=List (Option B)
noncomputable def SB (K : PySem.W.Frag) (H0 H Hf : Hp) : B → V → Prop
 | .val d,v=>Rep K Hf d v
 | .own ds,v=>∃ a vs,v = .ref a ∧ H a = some (.lst vs) ∧ Hf a = none ∧ H0 a = none ∧ Reps K Hf ds vs
structure Slots (K : PySem.W.Frag) (H0 : Hp) (ρ : Rho) (σ : L2.St) (H Hf : Hp) : Prop where
 len : ρ.length = σ.length
 is : ∀ (i : Nat) (b : B),ρ[i]? = some (some b) → ∃ v,σ[i]? = some (some v) ∧ SB K H0 H Hf b v
 apart : ∀ (i j : Nat) (ds es : List D) (a : Addr),ρ[i]? = some (some (.own ds)) → ρ[j]? = some (some (.own es)) → σ[i]? = some (some (V.ref a)) → σ[j]? = some (some (V.ref a)) → i = j
section
variable {K : PySem.W.Frag} {H H' H0 H1 H2 Hf Hf' Hf1 Hf2 : Hp} {ρ : Rho} {σ : L2.St}
theorem SB.grow {b : B} {v : V} (h : SB K H0 H Hf b v) (g : Grow H Hf H' Hf') : SB K H0 H' Hf' b v:=by
 cases b with
 | val d=>exact Rep.mono g.ext h
 | own ds =>
  obtain ⟨a,vs,e,h1,h2,h3,h4⟩:=h
  refine ⟨a,vs,e,g.big _ _ h1,?_,h3,h4.mono g.ext⟩
  cases q : Hf' a with
  | none=>rfl
  | some u =>
   rcases g.new a (by rw [q]; simp) with z | z
   ·exact absurd h2 z
   ·rw [h1] at z; cases z
theorem Slots.grow (s : Slots K H0 ρ σ H Hf) (g : Grow H Hf H' Hf') : Slots K H0 ρ σ H' Hf' :=
 ⟨s.len,fun i b e=>let ⟨v,h1,h2⟩:=s.is i b e; ⟨v,h1,h2.grow g⟩,s.apart⟩
end
noncomputable abbrev DE:=Rho → Option D
noncomputable def tJ (K : PySem.W.Frag) (ρ : Rho) (R : Hp → V → Hp → Hp → Prop) : TE:=fun σ H Q=>∃ H0 Hf,L3 Hf H ∧ Slots K H0 ρ σ H Hf ∧ ∀ v H' Hf',Grow H Hf H' Hf' → R H v H' Hf' → Q v H'
noncomputable def JE (X : Cx) (e : Expr) (f : DE) : Prop:=∀ ρ d,f ρ = some d → PE X e (tJ X.K ρ fun _ v _ Hf=>Rep X.K Hf d v)
noncomputable def Sq (K : PySem.W.Frag) : Bool → Hp → Addr → List V → Prop
 | true=>SqT K
 | false=>SqL K
noncomputable def RQ (K : PySem.W.Frag) (t : Bool) (ds : List D) (v : V) (H Hf : Hp) : Prop:=∃ a vs,v = .ref a ∧ Sq K t H a vs ∧ Reps K Hf ds vs
noncomputable def JQ (X : Cx) (e : Expr) (f : Rho → Option (Bool × List D)) : Prop:=∀ ρ t ds,f ρ = some (t,ds) → PE X e (tJ X.K ρ fun _ v H Hf=>RQ X.K t ds v H Hf)
noncomputable def JN (X : Cx) (e : Expr) (f : Rho → Option (List D)) : Prop:=∀ ρ ds,f ρ = some ds → PE X e (tJ X.K ρ fun H v H' Hf'=>∃ a vs,v = .ref a ∧ H a = none ∧ H' a = some (.lst vs) ∧ Hf' a = none ∧ Reps X.K Hf' ds vs)
noncomputable def tJA (K : PySem.W.Frag) (ρ : Rho) (ds : List D) : TA:=fun σ H Q=>∃ H0 Hf,L3 Hf H ∧ Slots K H0 ρ σ H Hf ∧ ∀ vs H' Hf',Grow H Hf H' Hf' → Reps K Hf' ds vs → Q vs H'
structure JA (X : Cx) (es : List Expr) (f : Rho → Option (List D)) : Prop where
 len : ∀ ρ ds,f ρ = some ds → ds.length = es.length
 run : ∀ ρ ds,f ρ = some ds → PA X es (tJA X.K ρ ds)
noncomputable def JT (X : Cx) (e : Expr) (f : Rho → Option Bool) : Prop:=∀ ρ c,f ρ = some c → PT X e (fun σ H Q=>∃ H0 Hf,L3 Hf H ∧ Slots X.K H0 ρ σ H Hf ∧ ∀ H' Hf',Grow H Hf H' Hf' → Q c H')
noncomputable def JW (X : Cx) (e : Expr) (f : Rho → Option Bool) : Prop:=∀ ρ c,f ρ = some c → PW X e (fun σ H Q=>∃ H0 Hf,L3 Hf H ∧ Slots X.K H0 ρ σ H Hf ∧ ∀ H' Hf',Grow H Hf H' Hf' → Q c H')
section
variable {X : Cx}
theorem C3 {e : Expr} {t t' : TE} (h : PE X e t) (i : ∀ σ H Q,t' σ H Q → t σ H Q) : PE X e t':=fun pins s σ H Q I q=>h pins s σ H Q I (i σ H Q q)
theorem ba3 {e : Expr} {t t' : TT} (h : PT X e t) (i : ∀ σ H Q,t' σ H Q → t σ H Q) : PT X e t':=fun pins s σ H Q I q=>h pins s σ H Q I (i σ H Q q)
noncomputable def dC (d : D) : DE:=fun _=>some d
noncomputable def A1 (i : Nat) : DE:=fun ρ=>match ρ[i]? with
 | some (some (.val d))=>some d
 | _=>none
noncomputable def A8 (i : Nat) : Rho → Option (Bool × List D):=fun ρ=>match ρ[i]? with
 | some (some (.own ds))=>some (false,ds)
 | some (some (.val (.list ds)))=>some (false,ds)
 | some (some (.val (.tuple ds)))=>some (true,ds)
 | _=>none
noncomputable def af0 : D → Option (Bool × List D)
 | .list ds=>some (false,ds)
 | .tuple ds=>some (true,ds)
 | _=>none
theorem cb6 {i : Int} {j : Nat} {pos : Pos} : JE X (.Constant (.int i) j pos) (dC (.int i)):=fun ρ d h=>by
 cases h
 exact C3 cH3 fun σ H Q ⟨H0,Hf,s,sl,k⟩=>k _ H Hf (Grow.refl s) rfl
theorem cX7 {b : Bool} {j : Nat} {pos : Pos} : JE X (.Constant (.bool b) j pos) (dC (.bool b)):=fun ρ d h=>by
 cases h
 exact C3 cV1 fun σ H Q ⟨H0,Hf,s,sl,k⟩=>k _ H Hf (Grow.refl s) rfl
theorem cN6 {j : Nat} {pos : Pos} : JE X (.Constant .none j pos) (dC .none):=fun ρ d h=>by
 cases h
 exact C3 cH1 fun σ H Q ⟨H0,Hf,s,sl,k⟩=>k _ H Hf (Grow.refl s) rfl
theorem cN0 {x : Str} {j : Nat} {pos : Pos} : JE X (.Constant (.str x) j pos) (dC (.str x)):=fun ρ d h=>by
 cases h
 exact C3 cG7 fun σ H Q ⟨H0,Hf,s,sl,k⟩=>k _ H Hf (Grow.refl s) rfl
theorem cM8 (i : Nat) {x : Str} {pos : Pos} (hN : X.N[i]? = some x:=by rfl) (hv : Vis X.env.scope x:=by first | exact Or.inl rfl | exact Or.inr (Or.inl rfl) | exact Or.inr (Or.inr rfl)) (hd : (x == ("__debug__" : Str)) = false:=by decide)
  (hcd : (x == ("__classdict__" : Str)) = false:=by decide) : JE X (.Name x pos) (A1 i):=fun ρ d h=>by
 refine C3 (au7 hN hv hd hcd) fun σ H Q ⟨H0,Hf,s,sl,k⟩=>?_
 unfold A1 at h
 split at h
 ·rename_i d' e
  cases h
  obtain ⟨v,h1,h2⟩:=sl.is i _ e
  exact ⟨v,h1,k v H Hf (Grow.refl s) h2⟩
 ·cases h
theorem cM0 (i : Nat) {x : Str} {pos : Pos} (hN : X.N[i]? = some x:=by rfl) (hv : Vis X.env.scope x:=by first | exact Or.inl rfl | exact Or.inr (Or.inl rfl) | exact Or.inr (Or.inr rfl)) (hd : (x == ("__debug__" : Str)) = false:=by decide)
  (hcd : (x == ("__classdict__" : Str)) = false:=by decide) : JQ X (.Name x pos) (A8 i):=fun ρ t ds h=>by
 refine C3 (au7 hN hv hd hcd) fun σ H Q ⟨H0,Hf,s,sl,k⟩=>?_
 unfold A8 at h
 split at h
 ·rename_i d' e
  cases h
  obtain ⟨v,h1,a,vs,rfl,h2,h3,h4,h5⟩:=sl.is i _ e
  exact ⟨_,h1,k _ H Hf (Grow.refl s) ⟨a,vs,rfl,SqL.of h2,h5⟩⟩
 ·rename_i d' e
  cases h
  obtain ⟨v,h1,a,vs,rfl,h2,h3⟩:=sl.is i _ e
  exact ⟨_,h1,k _ H Hf (Grow.refl s) ⟨a,vs,rfl,K8 s h2,h3⟩⟩
 ·rename_i d' e
  cases h
  obtain ⟨v,h1,a,vs,rfl,h2,h3⟩:=sl.is i _ e
  exact ⟨_,h1,k _ H Hf (Grow.refl s) ⟨a,vs,rfl,E2 s h2,h3⟩⟩
 ·cases h
theorem Rep.seq {K : PySem.W.Frag} {H Hf : Hp} {d : D} {v : V} {t : Bool} {ds : List D} (h : Rep K Hf d v) (s : L3 Hf H) (e : af0 d = some (t,ds)) : RQ K t ds v H Hf:=by
 cases d with
 | list xs=>cases e; obtain ⟨a,vs,e1,e2,e3⟩:=h; exact ⟨a,vs,e1,K8 s e2,e3⟩
 | tuple xs=>cases e; obtain ⟨a,vs,e1,e2,e3⟩:=h; exact ⟨a,vs,e1,E2 s e2,e3⟩
 | _=>cases e
noncomputable def qE (f : DE) : Rho → Option (Bool × List D):=fun ρ=>(f ρ).bind af0
theorem ca7 {e : Expr} {f : DE} (h : JE X e f) : JQ X e (qE f):=fun ρ t ds q=>by
 obtain ⟨d,h1,h2⟩:=xbm q
 exact C3 (h ρ d h1) fun σ H Q ⟨H0,Hf,s,sl,k⟩=>⟨H0,Hf,s,sl,fun v H' Hf' g r=>k v H' Hf' g (r.seq g.sub h2)⟩
noncomputable def A3 : Rho → Option (List D):=fun _=>some []
noncomputable def A0 (f : DE) (g : Rho → Option (List D)) : Rho → Option (List D):=fun ρ=>(f ρ).bind fun d=>(g ρ).map fun ds=>d :: ds
theorem cO5 : JA X [] A3:=⟨fun ρ ds h=>by cases h; rfl,fun ρ ds h pos pins s σ H Q I ⟨H0,Hf,ss,sl,k⟩=>by
 cases h
 exact O9 pos pins s σ H Q I (k [] H Hf (Grow.refl ss) rfl)⟩
theorem cq8 {e : Expr} {es : List Expr} {f : DE} {g : Rho → Option (List D)} (h : JE X e f) (r : JA X es g) (hs : starEach (e :: es) X.env = (false,eval e X.env) :: starEach es X.env:=by rfl) : JA X (e :: es) (A0 f g):=by
 refine ⟨fun ρ ds q=>?_,fun ρ ds q=>?_⟩
 ·obtain ⟨d,h1,h2⟩:=xbm q
  obtain ⟨es',h3,h4⟩:=Option.map_eq_some_iff.mp h2
  subst h4
  simp [r.len ρ es' h3]
 ·obtain ⟨d,h1,h2⟩:=xbm q
  obtain ⟨es',h3,h4⟩:=Option.map_eq_some_iff.mp h2
  subst h4
  intro pos pins s σ H Q I ⟨H0,Hf,ss,sl,k⟩
  refine F7 (h ρ d h1) (r.run ρ es' h3) hs pos pins s σ H Q I ⟨H0,Hf,ss,sl,fun v H1 Hf1 g1 r1=>⟨H0,Hf1,g1.sub,sl.grow g1,fun vs H2 Hf2 g2 r2=>?_⟩⟩
  exact k (v :: vs) H2 Hf2 (g1.trans g2) ⟨v,vs,rfl,r1.mono g2.ext,r2⟩
noncomputable def F6 (f : Rho → Option (List D)) : DE:=fun ρ=>(f ρ).map PyData.tuple
theorem cM9 {es : List Expr} {f : Rho → Option (List D)} {k : Nat} {pos : Pos} (h : JA X es f) (hn : es.length ≤ 1000:=by decide) : JE X (.Tuple es k pos) (F6 f):=fun ρ d q=>by
 obtain ⟨ds,h1,h2⟩:=Option.map_eq_some_iff.mp q
 subst h2
 refine C3 (cG6 fun pos pins s σ H Q I t=>h.run ρ ds h1 pos pins s σ H Q I t) fun σ H Q ⟨H0,Hf,s,sl,k⟩=>?_
 refine ⟨H0,Hf,s,sl,fun vs H1 Hf1 g r=>⟨?_,fun p hp=>?_⟩⟩
 ·rw [r.length,h.len ρ ds h1]; exact Nat.le_of_lt (aA8 hn)
 ·exact k _ _ _ (g.trans (Grow.laid g.sub hp)) ⟨p,vs,rfl,SqT.of C6,r.mono (Grow.laid (o:=.tup vs) g.sub hp).ext⟩
theorem cM2 {es : List Expr} {f : Rho → Option (List D)} {pos : Pos} (h : JA X es f) (hn : es.length ≤ 1000:=by decide) : JN X (.List es pos) f:=fun ρ ds h1=>by
 refine C3 (cH2 fun pos pins s σ H Q I t=>h.run ρ ds h1 pos pins s σ H Q I t) fun σ H Q ⟨H0,Hf,s,sl,k⟩=>?_
 refine ⟨H0,Hf,s,sl,fun vs H1 Hf1 g r=>⟨?_,fun p hp=>?_⟩⟩
 ·rw [r.length,h.len ρ ds h1]; exact Nat.le_of_lt (aA8 hn)
 ·exact k _ _ _ (g.trans (Grow.made g.sub hp)) ⟨p,vs,rfl,g.big.free hp,C6,g.sub.free hp,r⟩
noncomputable def P3 (f : Rho → Option (List D)) : DE:=fun ρ=>(f ρ).map PyData.list
theorem aO0 {e : Expr} {f : Rho → Option (List D)} (h : JN X e f) : JE X e (P3 f):=fun ρ d q=>by
 obtain ⟨ds,h1,h2⟩:=Option.map_eq_some_iff.mp q
 subst h2
 refine C3 (h ρ ds h1) fun σ H Q ⟨H0,Hf,s,sl,k⟩=>⟨H0,Hf,s,sl,fun v H' Hf' g ⟨a,vs,e1,e2,e3,e4,e5⟩=>?_⟩
 subst e1
 exact k _ _ _ (g.freeze e3 e4 e2) ⟨a,vs,rfl,SqL.of C6,e5.mono (G0 e4)⟩
theorem ca6 {e : Expr} {f : Rho → Option (List D)} (h : JN X e f) : JQ X e (fun ρ=>(f ρ).map fun ds=>(false,ds)):=fun ρ t ds q=>by
 obtain ⟨ds',h1,h2⟩:=Option.map_eq_some_iff.mp q
 cases h2
 refine C3 (h ρ ds h1) fun σ H Q ⟨H0,Hf,s,sl,k⟩=>⟨H0,Hf,s,sl,fun v H' Hf' g ⟨a,vs,e1,e2,e3,e4,e5⟩=>?_⟩
 subst e1
 exact k _ _ _ g ⟨a,vs,rfl,SqL.of e3,e5⟩
noncomputable def OpD (X : Cx) (F : Value → Value → Sem Value) (h : D → D → Option D) : Prop:=∀ x y z,h x y = some z →
 OpR X F fun vx vy H Q=>∃ Hf,L3 Hf H ∧ Rep X.K Hf x vx ∧ Rep X.K Hf y vy ∧ ∀ v H' Hf',Grow H Hf H' Hf' → Rep X.K Hf' z v → Q v H'
noncomputable def A5 (h : D → D → Option D) (f g : DE) : DE:=fun ρ=>(f ρ).bind fun x=>(g ρ).bind fun y=>h x y
theorem ae2 {op : Operator} {h : D → D → Option D} {a b : Expr} {f g : DE} {pos : Pos} (o : OpD X (binaryOp op) h) (ha : JE X a f) (hb : JE X b g) : JE X (.BinOp a op b pos) (A5 h f g):=fun ρ d q=>by
 obtain ⟨x,h1,q⟩:=xbm q
 obtain ⟨y,h2,h3⟩:=xbm q
 refine C3 (cu6 (o x y d h3) (ha ρ x h1) (hb ρ y h2)) fun σ H Q ⟨H0,Hf,s,sl,k⟩=>?_
 refine ⟨H0,Hf,s,sl,fun v H1 Hf1 g1 r1=>⟨H0,Hf1,g1.sub,sl.grow g1,fun u H2 Hf2 g2 r2=>?_⟩⟩
 exact ⟨Hf2,g2.sub,r1.mono g2.ext,r2,fun w H3 Hf3 g3 r3=>k w H3 Hf3 ((g1.trans g2).trans g3) r3⟩
theorem cO1 {op : CmpOp} {h : D → D → Option D} {a b : Expr} {f g : DE} {pos : Pos} (o : OpD X (compareOp op) h) (ha : JE X a f) (hb : JE X b g) (hm : behindInMarks op b = false:=by first | exact bX9 _ | rfl) : JE X (.Compare a [op] [b] pos) (A5 h f g):=fun ρ d q=>by
 obtain ⟨x,h1,q⟩:=xbm q
 obtain ⟨y,h2,h3⟩:=xbm q
 refine C3 (cl4 (o x y d h3) (ha ρ x h1) (hb ρ y h2) hm) fun σ H Q ⟨H0,Hf,s,sl,k⟩=>?_
 refine ⟨H0,Hf,s,sl,fun v H1 Hf1 g1 r1=>⟨H0,Hf1,g1.sub,sl.grow g1,fun u H2 Hf2 g2 r2=>?_⟩⟩
 exact ⟨Hf2,g2.sub,r1.mono g2.ext,r2,fun w H3 Hf3 g3 r3=>k w H3 Hf3 ((g1.trans g2).trans g3) r3⟩
theorem OpR.imp {F : Value → Value → Sem Value} {r r' : R2} (h : OpR X F r) (i : ∀ x y H Q,r' x y H Q → r x y H Q) : OpR X F r':=fun pins s σ H x y v u Q I rx ry q=>h pins s σ H x y v u Q I rx ry (i x y H Q q)
end
end G
namespace G
open PySem PySem.Spec PyProof.Rows L2
section
variable {X : Cx}
noncomputable def L0 (i : Int) : Prop:=i.natAbs < 2 ^ 8000
instance : DecidablePred L0:=fun i=>inferInstanceAs (Decidable (i.natAbs < 2 ^ 8000))
theorem L0.log {i : Int} (h : L0 i) (h0 : i.natAbs ≠ 0) : i.natAbs.log2 < 8000:=(Nat.log2_lt h0).mpr h
theorem L0.bits {i : Int} (h : L0 i) : Builtin.Int.intBits i ≤ 2 ^ 20:=by
 unfold Builtin.Int.intBits
 split
 ·exact Nat.zero_le _
 ·rename_i h0
  have:=h.log (by simpa using h0)
  omega
theorem cm0 {X : Cx} : OpR X (binaryOp .Mult) (rI (fun i j=>L0 i ∧ L0 j) fun i j=>.int (i * j)):=opI fun _ _ _ _ _ _ _ hc q=>mul_int q (PySem.IntMulOk.of_bits hc.1.bits hc.2.bits)
noncomputable def cZ3 (x y : D) : Option D:=match x,y with
 | .int i,.int j=>some (.int (i + j))
 | _,_=>none
noncomputable def aG7 (x y : D) : Option D:=match x,y with
 | .int i,.int j=>some (.int (i - j))
 | _,_=>none
noncomputable def cJ5 (x y : D) : Option D:=match x,y with
 | .int i,.int j=>if L0 i ∧ L0 j then some (.int (i * j)) else none
 | _,_=>none
noncomputable def av7 (x y : D) : Option D:=match x,y with
 | .int i,.int j=>if 0 < j ∧ L0 j then some (.int (i / j)) else none
 | _,_=>none
noncomputable def ab7 (x y : D) : Option D:=match x,y with
 | .int i,.int j=>if 0 < j then some (.int (i % j)) else none
 | _,_=>none
noncomputable def cG3 (x y : D) : Option D:=match x,y with
 | .int i,.int j=>if 0 ≤ j ∧ j ≤ 1000000 ∧ i.natAbs < 2 ^ 64 then some (.int (i ^ j.toNat)) else none
 | _,_=>none
theorem db6 : OpD X (binaryOp .Add) cZ3:=fun x y z h=>by
 unfold cZ3 at h
 split at h
 ·cases h
  exact OpR.imp bW8 fun vx vy H Q ⟨Hf,s,r1,r2,k⟩=>⟨_,_,r1,r2,k _ H Hf (Grow.refl s) rfl⟩
 ·cases h
theorem cI0 : OpD X (binaryOp .Sub) aG7:=fun x y z h=>by
 unfold aG7 at h
 split at h
 ·cases h
  exact OpR.imp cH4 fun vx vy H Q ⟨Hf,s,r1,r2,k⟩=>⟨_,_,r1,r2,k _ H Hf (Grow.refl s) rfl⟩
 ·cases h
theorem cI2 : OpD X (binaryOp .Mult) cJ5:=fun x y z h=>by
 unfold cJ5 at h
 split at h
 ·split at h
  ·rename_i c
   cases h
   exact OpR.imp cm0 fun vx vy H Q ⟨Hf,s,r1,r2,k⟩=>⟨_,_,r1,r2,c,k _ H Hf (Grow.refl s) rfl⟩
  ·cases h
 ·cases h
theorem bG9 : OpR X (binaryOp .FloorDiv) (rI (fun _ j=>0 < j ∧ L0 j) fun i j=>.int (i / j)):=opI fun i j _ _ s Q E hc q=>by
 have e : i.fdiv j = i / j:=Int.fdiv_eq_ediv_of_nonneg i (Int.le_of_lt hc.1)
 refine floordiv_int (by omega) (by rw [e]; exact q) (.inl (PyProof.noPylong_of_log2 ?_))
 have h2:=hc.2.log (by omega)
 omega
theorem cI6 : OpD X (binaryOp .FloorDiv) av7:=fun x y z h=>by
 unfold av7 at h
 split at h
 ·split at h
  ·rename_i c
   cases h
   exact OpR.imp bG9 fun vx vy H Q ⟨Hf,s,r1,r2,k⟩=>⟨_,_,r1,r2,c,k _ H Hf (Grow.refl s) rfl⟩
  ·cases h
 ·cases h
theorem cI3 : OpD X (binaryOp .Mod) ab7:=fun x y z h=>by
 unfold ab7 at h
 split at h
 ·split at h
  ·rename_i c
   cases h
   exact OpR.imp cH6 fun vx vy H Q ⟨Hf,s,r1,r2,k⟩=>⟨_,_,r1,r2,c,k _ H Hf (Grow.refl s) rfl⟩
  ·cases h
 ·cases h
theorem cI1 : OpD X (binaryOp .Pow) cG3:=fun x y z h=>by
 unfold cG3 at h
 split at h
 ·split at h
  ·rename_i c
   cases h
   exact OpR.imp cH5 fun vx vy H Q ⟨Hf,s,r1,r2,k⟩=>⟨_,_,r1,r2,c,k _ H Hf (Grow.refl s) rfl⟩
  ·cases h
 ·cases h
theorem bW7 : OpR X (binaryOp .Add) (fun x y H Q=>∃ a b ys,x = .ref a ∧ y = .ref b ∧ SqT X.K H a [] ∧ SqT X.K H b ys ∧ Q (.ref b) H):=by
 intro pins s σ H x y v u Q I rx ry h
 obtain ⟨a,b,ys,rfl,rfl,ha,hb,q⟩:=h
 cases rx
 cases ry
 obtain ⟨its,r1,p1,_⟩:=I.tuple ha
 obtain ⟨its2,r2,p2,_⟩:=I.tuple hb
 cases r1
 obtain ⟨⟨cls,dd,data,sl⟩,ho,hc,n,hd⟩:=id p1
 obtain ⟨⟨cls2,dd2,data2,sl2⟩,ho2,hc2,n2,hd2⟩:=id p2
 simp only at hc hd hc2 hd2
 subst hc hd hc2 hd2
 exact concat_meets ⟨_,ho,rfl⟩ ⟨_,ho2,rfl⟩ noFill_tuple_add seq_tuple_add PySem.F.slot_tuple_add PySem.F.entry_tuple_add (PySem.F.args_tuple_add_2 _ _)
   (tuple_addW0 a b _ its2.toArray n n2 dd dd2 sl sl2 (by rfl)) ⟨ho,ho2,⟨.ref b,H,I,rfl,q⟩⟩
noncomputable def af6 (x y : D) : Option D:=match x,y with
 | .tuple xs,.tuple ys=>if xs.length + ys.length ≤ 16777216 then some (.tuple (xs ++ ys)) else none
 | .str a,.str b=>if a.length + b.length ≤ 16777216 then some (.str (a ++ b)) else none
 | .int i,.int j=>some (.int (i + j))
 | _,_=>none
theorem bX2 : OpD X (binaryOp .Add) af6:=fun x y z h=>by
 unfold af6 at h
 split at h
 ·split at h
  ·rename_i xs ys c
   cases h
   cases xs with
   | nil =>
    refine OpR.imp bW7 fun vx vy H Q ⟨Hf,s,r1,r2,k⟩=>?_
    obtain ⟨a,vs,rfl,h2,h3⟩:=r1
    obtain ⟨b,us,rfl,h5,h6⟩:=r2
    cases h3
    exact ⟨a,b,us,rfl,rfl,E2 s h2,E2 s h5,k _ H Hf (Grow.refl s) ⟨b,us,rfl,h5,h6⟩⟩
   | cons d0 ds0 =>
    refine OpR.imp cm1 fun vx vy H Q ⟨Hf,s,r1,r2,k⟩=>?_
    obtain ⟨a,vs,rfl,h2,h3⟩:=r1
    obtain ⟨b,us,rfl,h5,h6⟩:=r2
    have l1:=h3.length
    have l2:=h6.length
    refine ⟨a,b,vs,us,rfl,rfl,E2 s h2,E2 s h5,?_,by rw [sizeLine_eq]; omega,fun e=>?_,fun e p hp=>?_⟩
    ·intro e; subst e; simp at l1
    ·subst e
     have : ys = []:=by cases ys <;> simp_all
     subst this
     exact k _ H Hf (Grow.refl s) ⟨a,vs,rfl,h2,by rw [List.append_nil]; exact h3⟩
    ·exact k _ _ _ (Grow.laid s hp) ⟨p,vs ++ us,rfl,SqT.of C6,(h3.append h6).mono (G0 (s.free hp))⟩
  ·cases h
 ·split at h
  ·rename_i c
   cases h
   exact OpR.imp bs1 fun vx vy H Q ⟨Hf,s,r1,r2,k⟩=>⟨_,_,r1,r2,by rw [sizeLine_eq]; exact c,k _ H Hf (Grow.refl s) rfl⟩
  ·cases h
 ·cases h
  exact OpR.imp bW8 fun vx vy H Q ⟨Hf,s,r1,r2,k⟩=>⟨_,_,r1,r2,k _ H Hf (Grow.refl s) rfl⟩
 ·cases h
noncomputable def ltI (x y : D) : Option D:=match x,y with
 | .int i,.int j=>some (.bool (decide (i < j)))
 | _,_=>none
noncomputable def leI (x y : D) : Option D:=match x,y with
 | .int i,.int j=>some (.bool (decide (i ≤ j)))
 | _,_=>none
noncomputable def gtI (x y : D) : Option D:=match x,y with
 | .int i,.int j=>some (.bool (decide (j < i)))
 | _,_=>none
noncomputable def geI (x y : D) : Option D:=match x,y with
 | .int i,.int j=>some (.bool (decide (j ≤ i)))
 | _,_=>none
theorem cV9 : OpD X (compareOp .Lt) ltI:=fun x y z h=>by
 unfold ltI at h
 split at h
 ·cases h
  exact OpR.imp cV3 fun vx vy H Q ⟨Hf,s,r1,r2,k⟩=>⟨_,_,r1,r2,k _ H Hf (Grow.refl s) rfl⟩
 ·cases h
theorem cW0 : OpD X (compareOp .LtE) leI:=fun x y z h=>by
 unfold leI at h
 split at h
 ·cases h
  exact OpR.imp cV4 fun vx vy H Q ⟨Hf,s,r1,r2,k⟩=>⟨_,_,r1,r2,k _ H Hf (Grow.refl s) rfl⟩
 ·cases h
theorem cW3 : OpD X (compareOp .Gt) gtI:=fun x y z h=>by
 unfold gtI at h
 split at h
 ·cases h
  exact OpR.imp cV5 fun vx vy H Q ⟨Hf,s,r1,r2,k⟩=>⟨_,_,r1,r2,k _ H Hf (Grow.refl s) rfl⟩
 ·cases h
theorem cW4 : OpD X (compareOp .GtE) geI:=fun x y z h=>by
 unfold geI at h
 split at h
 ·cases h
  exact OpR.imp cV6 fun vx vy H Q ⟨Hf,s,r1,r2,k⟩=>⟨_,_,r1,r2,k _ H Hf (Grow.refl s) rfl⟩
 ·cases h
mutual
theorem Rep.reads {pins : List (Addr × Obj)} {σ : L2.St} {H : Hp} {s : Shared} (I : Inv X pins σ H s) : ∀ {d : D} {v : V} {u : Value},Rep X.K H d v → Q6 v u → ∃ as,Reads s.heap u d as
 | .none,_,_,h,r=>by cases h; cases r; exact ⟨_,.none⟩
 | .bool b,_,_,h,r=>by cases h; cases r; exact ⟨_,.bool b⟩
 | .int i,_,_,h,r=>by cases h; obtain ⟨t,rfl⟩:=r; exact ⟨_,.int i t⟩
 | .str x,_,_,h,r=>by cases h; obtain ⟨t,rfl⟩:=r; exact ⟨_,.str x t⟩
 | .tuple ds,_,_,⟨a,vs,h1,h2,h3⟩,r=>by
  subst h1; cases r
  obtain ⟨its,rv,⟨o,ho,hc,n,hd⟩,_⟩:=I.tuple h2
  obtain ⟨as,q⟩:=Reps.reads I h3 rv
  exact ⟨_,.tuple ho hc hd (by simpa using q)⟩
 | .list ds,_,_,⟨a,vs,h1,h2,h3⟩,r=>by
  subst h1; cases r
  obtain ⟨its,rv,pl,_⟩:=I.list h2
  obtain ⟨o,ho,hc,n,hd⟩:=pl.isList
  obtain ⟨as,q⟩:=Reps.reads I h3 rv
  exact ⟨_,.list ho hc hd (by simpa using q)⟩
 | .dict _,_,_,h,_=>h.elim
theorem Reps.reads {pins : List (Addr × Obj)} {σ : L2.St} {H : Hp} {s : Shared} (I : Inv X pins σ H s) : ∀ {ds : List D} {vs : List V} {us : List Value},Reps X.K H ds vs → K2 vs us → ∃ as,ReadsAll s.heap us ds as
 | [],_,_,h,r=>by cases h; cases r; exact ⟨_,.nil⟩
 | d :: ds,_,_,⟨v,vr,h1,h2,h3⟩,r=>by
  subst h1
  cases r with
  | cons r1 r2 =>
   obtain ⟨as,q1⟩:=Rep.reads I h2 r1
   obtain ⟨bs,q2⟩:=Reps.reads I h3 r2
   exact ⟨_,.cons q1 q2⟩
end
noncomputable def eqD (x y : D) : Option D:=if SeqAt.shaped x = true ∧ SeqAt.shaped y = true then some (.bool (PyData.eqv x y)) else none
noncomputable def neD (x y : D) : Option D:=if SeqAt.shaped x = true ∧ SeqAt.shaped y = true then some (.bool (!PyData.eqv x y)) else none
theorem cW5 (hu : X.A.units + 64 < cLine) : OpD X (compareOp .Eq) eqD:=fun x y z h=>by
 unfold eqD at h
 split at h
 ·rename_i c
  cases h
  intro pins s σ H vx vy v u Q I rx ry ⟨Hf,ss,r1,r2,k⟩
  obtain ⟨as,q1⟩:=Rep.reads I (r1.mono ss) rx
  obtain ⟨bs,q2⟩:=Rep.reads I (r2.mono ss) ry
  exact eq_dataH q1 q2 c.1 c.2 hu ⟨.bl _,H,I,rfl,k _ H Hf (Grow.refl ss) rfl⟩
 ·cases h
theorem cV8 (hu : X.A.units + 64 < cLine) : OpD X (compareOp .NotEq) neD:=fun x y z h=>by
 unfold neD at h
 split at h
 ·rename_i c
  cases h
  intro pins s σ H vx vy v u Q I rx ry ⟨Hf,ss,r1,r2,k⟩
  obtain ⟨as,q1⟩:=Rep.reads I (r1.mono ss) rx
  obtain ⟨bs,q2⟩:=Rep.reads I (r2.mono ss) ry
  exact ne_dataH q1 q2 c.1 c.2 hu ⟨.bl _,H,I,rfl,k _ H Hf (Grow.refl ss) rfl⟩
 ·cases h
noncomputable def isN (x y : D) : Option D:=match x,y with
 | .none,.none=>some (.bool true)
 | .dict _,_=>none
 | _,.none=>some (.bool false)
 | _,_=>none
theorem bA4 {K : PySem.W.Frag} {H : Hp} {d : D} {v : V} (h : Rep K H d v) : (decide (v = .non)) = (match d with | .none=>true | _=>false):=by
 cases d with
 | none=>cases h; rfl
 | bool b=>cases h; rfl
 | int b=>cases h; rfl
 | str b=>cases h; rfl
 | tuple ds=>obtain ⟨a,vs,rfl,_⟩:=h; rfl
 | list ds=>obtain ⟨a,vs,rfl,_⟩:=h; rfl
 | dict ds=>exact h.elim
theorem cI4 : OpD X (compareOp .Is) isN:=fun x y z h=>by
 refine OpR.imp cH7 fun vx vy H Q ⟨Hf,s,r1,r2,k⟩=>?_
 have e:=bA4 r1
 cases y <;> cases x <;> simp only [isN,Option.some.injEq,reduceCtorEq] at h <;>
  (subst h; simp only at e; rw [e]; exact ⟨r2,k _ H Hf (Grow.refl s) rfl⟩)
noncomputable def cI9 (x y : D) : Option D:=match x,y with
 | .none,.none=>some (.bool false)
 | .dict _,_=>none
 | _,.none=>some (.bool true)
 | _,_=>none
theorem cm4 : OpD X (compareOp .IsNot) cI9:=fun x y z h=>by
 refine OpR.imp cl9 fun vx vy H Q ⟨Hf,s,r1,r2,k⟩=>?_
 have e:=bA4 r1
 cases y <;> cases x <;> simp only [cI9,Option.some.injEq,reduceCtorEq] at h <;>
  (subst h; simp only at e; rw [e]; exact ⟨r2,k _ H Hf (Grow.refl s) rfl⟩)
noncomputable def N2 (h1 h2 : D → D → Option D) (f g k : DE) : DE:=fun ρ=>(f ρ).bind fun x=>(g ρ).bind fun y=>(h1 x y).bind fun z=>match z with
 | .bool true=>(k ρ).bind fun w=>h2 y w
 | .bool false=>some (.bool false)
 | _=>none
theorem cb7 {op op' : CmpOp} {h1 h2 : D → D → Option D} {a b c : Expr} {f g k : DE} {pos : Pos} (o1 : OpD X (compareOp op) h1) (o2 : OpD X (compareOp op') h2) (ha : JE X a f) (hb : JE X b g) (hc : JE X c k)
  (hm : lastMarks [op,op'] [b,c] = false:=by with_unfolding_all rfl) : JE X (.Compare a [op,op'] [b,c] pos) (N2 h1 h2 f g k):=fun ρ d q=>by
 obtain ⟨x,e1,q⟩:=xbm q
 obtain ⟨y,e2,q⟩:=xbm q
 obtain ⟨z,e3,q⟩:=xbm q
 split at q
 ·obtain ⟨w,e4,e5⟩:=xbm q
  refine C3 (bi9 (o1 x y _ e3) (o2 y w d e5) (ha ρ x e1) (hb ρ y e2) (hc ρ w e4) hm) fun σ H Q ⟨H0,Hf,s,sl,kk⟩=>?_
  refine ⟨H0,Hf,s,sl,fun v H1 Hf1 g1 r1=>⟨H0,Hf1,g1.sub,sl.grow g1,fun u H2 Hf2 g2 r2=>⟨Hf2,g2.sub,r1.mono g2.ext,r2,fun z' H3 Hf3 g3 r3=>?_⟩⟩⟩
  refine ⟨true,r3,aR8 ⟨H0,Hf3,g3.sub,sl.grow ((g1.trans g2).trans g3),fun w' H4 Hf4 g4 r4=>⟨Hf4,g4.sub,r2.mono (g3.trans g4).ext,r4,fun z2 H5 Hf5 g5 r5=>?_⟩⟩⟩
  exact kk z2 H5 Hf5 ((((g1.trans g2).trans g3).trans g4).trans g5) r5
 ·cases q
  intro pins s σ H Q I ⟨H0,Hf,ss,sl,kk⟩
  refine bi9 (tc:=fun _ _ _=>False) (r':=fun _ _ _ _=>False) (o1 x y _ e3) (fun _ _ _ _ _ _ _ _ _ _ _ _ h=>h.elim) (ha ρ x e1) (hb ρ y e2) (fun _ _ _ _ _ _ h=>h.elim) hm pins s σ H Q I ?_
  refine ⟨H0,Hf,ss,sl,fun v H1 Hf1 g1 r1=>⟨H0,Hf1,g1.sub,sl.grow g1,fun u H2 Hf2 g2 r2=>⟨Hf2,g2.sub,r1.mono g2.ext,r2,fun z' H3 Hf3 g3 r3=>?_⟩⟩⟩
  exact ⟨false,r3,aR9 (kk _ H3 Hf3 ((g1.trans g2).trans g3) rfl)⟩
 ·cases q
theorem cN4 {op : BoolOp} {a : Expr} {f : DE} {pos : Pos} (h : JE X a f) : JE X (.BoolOp op [a] pos) f:=fun ρ d q=>cG9 (h ρ d q)
noncomputable def R6 (f g : DE) : DE:=fun ρ=>(f ρ).bind fun x=>match x with
 | .bool true=>g ρ
 | .bool false=>some (.bool false)
 | _=>none
noncomputable def dOr (f g : DE) : DE:=fun ρ=>(f ρ).bind fun x=>match x with
 | .bool true=>some (.bool true)
 | .bool false=>g ρ
 | _=>none
noncomputable def ae4 (f : DE) : DE:=fun ρ=>(f ρ).bind fun x=>match x with
 | .bool c=>some (.bool (!c))
 | _=>none
theorem cO2 {a b : Expr} {Y9 : List Expr} {f g : DE} {pos : Pos} (ha : JE X a f) (hb : JE X (.BoolOp .And (b :: Y9) pos) g) : JE X (.BoolOp .And (a :: b :: Y9) pos) (R6 f g):=fun ρ d q=>by
 obtain ⟨x,e1,q⟩:=xbm q
 split at q
 ·refine C3 (bW5 (ha ρ _ e1) (hb ρ d q)) fun σ H Q ⟨H0,Hf,s,sl,k⟩=>⟨H0,Hf,s,sl,fun v H1 Hf1 g1 r1=>⟨true,r1,aR8 ⟨H0,Hf1,g1.sub,sl.grow g1,fun u H2 Hf2 g2 r2=>k u H2 Hf2 (g1.trans g2) r2⟩⟩⟩
 ·cases q
  refine C3 (bW5 (tb:=fun _ _ _=>False) (ha ρ _ e1) (fun _ _ _ _ _ _ h=>h.elim)) fun σ H Q ⟨H0,Hf,s,sl,k⟩=>⟨H0,Hf,s,sl,fun v H1 Hf1 g1 r1=>⟨false,r1,aR9 (k _ H1 Hf1 g1 rfl)⟩⟩
 ·cases q
theorem cX5 {a b : Expr} {Y9 : List Expr} {f g : DE} {pos : Pos} (ha : JE X a f) (hb : JE X (.BoolOp .Or (b :: Y9) pos) g) : JE X (.BoolOp .Or (a :: b :: Y9) pos) (dOr f g):=fun ρ d q=>by
 obtain ⟨x,e1,q⟩:=xbm q
 split at q
 ·cases q
  refine C3 (cu5 (tb:=fun _ _ _=>False) (ha ρ _ e1) (fun _ _ _ _ _ _ h=>h.elim)) fun σ H Q ⟨H0,Hf,s,sl,k⟩=>⟨H0,Hf,s,sl,fun v H1 Hf1 g1 r1=>⟨true,r1,aR8 (k _ H1 Hf1 g1 rfl)⟩⟩
 ·refine C3 (cu5 (ha ρ _ e1) (hb ρ d q)) fun σ H Q ⟨H0,Hf,s,sl,k⟩=>⟨H0,Hf,s,sl,fun v H1 Hf1 g1 r1=>⟨false,r1,aR9 ⟨H0,Hf1,g1.sub,sl.grow g1,fun u H2 Hf2 g2 r2=>k u H2 Hf2 (g1.trans g2) r2⟩⟩⟩
 ·cases q
theorem cN5 {a : Expr} {f : DE} {pos : Pos} (ha : JE X a f) : JE X (.UnaryOp .Not a pos) (ae4 f):=fun ρ d q=>by
 obtain ⟨x,e1,q⟩:=xbm q
 split at q
 ·cases q
  exact C3 (cH0 (ha ρ _ e1)) fun σ H Q ⟨H0,Hf,s,sl,k⟩=>⟨H0,Hf,s,sl,fun v H1 Hf1 g1 r1=>⟨_,r1,k _ H1 Hf1 g1 rfl⟩⟩
 ·cases q
noncomputable def ab5 : D → Option Bool
 | .none=>some false
 | .bool b=>some b
 | .int i=>some (i != 0)
 | .str x=>if x.length ≤ 16777216 then some ((x.length : Int) != 0) else none
 | .list ds=>some (!ds.isEmpty)
 | .tuple ds=>some (!ds.isEmpty)
 | .dict _=>none
noncomputable def K5 (f : DE) : Rho → Option Bool:=fun ρ=>(f ρ).bind ab5
theorem cK8 {a : Expr} {f : DE} (ha : JE X a f) (he : ∀ whole,isTrue a X.env whole = (do let v ← whole; standAt a.pos; holding [v] (truthy v)):=by intro _; rfl) : JT X a (K5 f):=fun ρ c q=>by
 obtain ⟨d,e1,e2⟩:=xbm q
 refine ba3 (bV6 (ha ρ d e1) he) fun σ H Q ⟨H0,Hf,s,sl,k⟩=>⟨H0,Hf,s,sl,fun v H1 Hf1 g1 r1=>⟨c,?_,k H1 Hf1 g1⟩⟩
 cases d with
 | none=>cases e2; cases r1; rfl
 | bool b=>cases e2; cases r1; rfl
 | int i=>cases e2; cases r1; rfl
 | str x =>
  simp only [ab5] at e2
  split at e2
  ·rename_i hx; cases e2; cases r1; exact ⟨by rw [sizeLine_eq]; exact hx,rfl⟩
  ·cases e2
 | list ds =>
  cases e2
  obtain ⟨a,vs,rfl,h2,h3⟩:=r1
  refine .inl ⟨vs,K8 g1.sub h2,?_⟩
  have:=h3.length
  cases ds <;> cases vs <;> simp_all
 | tuple ds =>
  cases e2
  obtain ⟨a,vs,rfl,h2,h3⟩:=r1
  refine .inr (.inl ⟨vs,E2 g1.sub h2,?_⟩)
  have:=h3.length
  cases ds <;> cases vs <;> simp_all
 | dict _=>cases e2
noncomputable def M4 : D → Option Bool
 | .bool b=>some b
 | _=>none
noncomputable def tB2 (h : D → D → Option D) (f g : DE) : Rho → Option Bool:=fun ρ=>(A5 h f g ρ).bind M4
theorem bE3 {d : D} {c : Bool} (h : M4 d = some c) : d = .bool c:=by
 cases d <;> simp [M4] at h
 subst h; rfl
theorem cL0 {op : CmpOp} {h : D → D → Option D} {a b : Expr} {f g : DE} {pos : Pos} (o : OpD X (compareOp op) h) (ha : JE X a f) (hb : JE X b g) (hm : behindInMarks op b = false:=by first | exact bX9 _ | rfl) : JT X (.Compare a [op] [b] pos) (tB2 h f g):=fun ρ c q=>by
 obtain ⟨d,q,e⟩:=xbm q
 obtain ⟨x,h1,q⟩:=xbm q
 obtain ⟨y,h2,h3⟩:=xbm q
 have:=bE3 e
 subst this
 refine ba3 (ck4 (o x y _ h3) (ha ρ x h1) (hb ρ y h2) hm) fun σ H Q ⟨H0,Hf,s,sl,k⟩=>?_
 refine ⟨H0,Hf,s,sl,fun v H1 Hf1 g1 r1=>⟨H0,Hf1,g1.sub,sl.grow g1,fun u H2 Hf2 g2 r2=>?_⟩⟩
 exact ⟨Hf2,g2.sub,r1.mono g2.ext,r2,fun w H3 Hf3 g3 r3=>⟨c,r3,k H3 Hf3 ((g1.trans g2).trans g3)⟩⟩
noncomputable def W0 (f g : Rho → Option Bool) : Rho → Option Bool:=fun ρ=>(f ρ).bind fun c=>if c then g ρ else some false
noncomputable def Q9 (f g : Rho → Option Bool) : Rho → Option Bool:=fun ρ=>(f ρ).bind fun c=>if c then some true else g ρ
noncomputable def L4 (f : Rho → Option Bool) : Rho → Option Bool:=fun ρ=>(f ρ).map fun c=>!c
theorem ba2 {e : Expr} {t t' : TT} (h : PW X e t) (i : ∀ σ H Q,t' σ H Q → t σ H Q) : PW X e t':=fun whole pins s σ H Q I q=>h whole pins s σ H Q I (i σ H Q q)
theorem ca0 {e : Expr} {f : Rho → Option Bool} (h : JW X e f) : JT X e f:=fun ρ c q=>(h ρ c q).pt
theorem co1 {a : Expr} {f : Rho → Option Bool} {pos : Pos} (h : JT X a f) : JW X (.BoolOp .And [a] pos) f:=fun ρ c q=>ck1 (h ρ c q)
theorem cK4 {a : Expr} {f : Rho → Option Bool} {pos : Pos} (h : JT X a f) : JW X (.BoolOp .Or [a] pos) f:=fun ρ c q=>cF6 (h ρ c q)
theorem cK5 {a b : Expr} {Y9 : List Expr} {f g : Rho → Option Bool} {pos : Pos} (ha : JT X a f) (hb : JW X (.BoolOp .And (b :: Y9) pos) g) : JW X (.BoolOp .And (a :: b :: Y9) pos) (W0 f g):=fun ρ c q=>by
 obtain ⟨x,e1,q⟩:=xbm q
 cases x with
 | true=>exact ba2 (bV5 (ha ρ _ e1) (hb ρ c (by simpa using q))) fun σ H Q ⟨H0,Hf,s,sl,k⟩=>⟨H0,Hf,s,sl,fun H1 Hf1 g1=>aR8 ⟨H0,Hf1,g1.sub,sl.grow g1,fun H2 Hf2 g2=>k H2 Hf2 (g1.trans g2)⟩⟩
 | false =>
  have : c = false:=by simpa using q.symm
  subst this
  exact ba2 (bV5 (tB':=fun _ _ _=>False) (ha ρ _ e1) (fun _ _ _ _ _ _ _ h=>h.elim)) fun σ H Q ⟨H0,Hf,s,sl,k⟩=>⟨H0,Hf,s,sl,fun H1 Hf1 g1=>aR9 (k H1 Hf1 g1)⟩
theorem cX1 {a b : Expr} {Y9 : List Expr} {f g : Rho → Option Bool} {pos : Pos} (ha : JT X a f) (hb : JW X (.BoolOp .Or (b :: Y9) pos) g) : JW X (.BoolOp .Or (a :: b :: Y9) pos) (Q9 f g):=fun ρ c q=>by
 obtain ⟨x,e1,q⟩:=xbm q
 cases x with
 | false=>exact ba2 (cu2 (ha ρ _ e1) (hb ρ c (by simpa using q))) fun σ H Q ⟨H0,Hf,s,sl,k⟩=>⟨H0,Hf,s,sl,fun H1 Hf1 g1=>aR9 ⟨H0,Hf1,g1.sub,sl.grow g1,fun H2 Hf2 g2=>k H2 Hf2 (g1.trans g2)⟩⟩
 | true =>
  have : c = true:=by simpa using q.symm
  subst this
  exact ba2 (cu2 (tB':=fun _ _ _=>False) (ha ρ _ e1) (fun _ _ _ _ _ _ _ h=>h.elim)) fun σ H Q ⟨H0,Hf,s,sl,k⟩=>⟨H0,Hf,s,sl,fun H1 Hf1 g1=>aR8 (k H1 Hf1 g1)⟩
theorem cK9 {a : Expr} {f : Rho → Option Bool} {pos : Pos} (ha : JT X a f) : JT X (.UnaryOp .Not a pos) (L4 f):=fun ρ c q=>by
 obtain ⟨x,e1,e2⟩:=Option.map_eq_some_iff.mp q
 subst e2
 exact ba3 (cF7 (ha ρ x e1)) fun σ H Q ⟨H0,Hf,s,sl,k⟩=>⟨H0,Hf,s,sl,fun H1 Hf1 g1=>k H1 Hf1 g1⟩
noncomputable def as5 (t : Rho → Option Bool) (f g : DE) : DE:=fun ρ=>(t ρ).bind fun c=>if c then f ρ else g ρ
theorem cN9 {c a b : Expr} {t : Rho → Option Bool} {f g : DE} {pos : Pos} (hc : JT X c t) (ha : JE X a f) (hb : JE X b g) : JE X (.IfExp c a b pos) (as5 t f g):=fun ρ d q=>by
 obtain ⟨x,e1,q⟩:=xbm q
 cases x with
 | true=>exact C3 (bi8 (tb:=fun _ _ _=>False) (hc ρ _ e1) (ha ρ d (by simpa using q)) (fun _ _ _ _ _ _ h=>h.elim)) fun σ H Q ⟨H0,Hf,s,sl,k⟩=>⟨H0,Hf,s,sl,fun H1 Hf1 g1=>aR8 ⟨H0,Hf1,g1.sub,sl.grow g1,fun u H2 Hf2 g2 r2=>k u H2 Hf2 (g1.trans g2) r2⟩⟩
 | false=>exact C3 (bi8 (ta:=fun _ _ _=>False) (hc ρ _ e1) (fun _ _ _ _ _ _ h=>h.elim) (hb ρ d (by simpa using q))) fun σ H Q ⟨H0,Hf,s,sl,k⟩=>⟨H0,Hf,s,sl,fun H1 Hf1 g1=>aR9 ⟨H0,Hf1,g1.sub,sl.grow g1,fun u H2 Hf2 g2 r2=>k u H2 Hf2 (g1.trans g2) r2⟩⟩
noncomputable def dIx (f : Rho → Option (Bool × List D)) (g : DE) : DE:=fun ρ=>(f ρ).bind fun q=>(g ρ).bind fun i=>match i with
 | .int i=>atI q.2 i
 | _=>none
theorem cj9 {K : PySem.W.Frag} {H : Hp} {ds : List D} {vs : List V} {i : Int} {d : D} (h : Reps K H ds vs) (e : atI ds i = some d) : ∃ v,atI vs i = some v ∧ Rep K H d v:=by
 unfold atI at e ⊢
 rw [h.length]
 obtain ⟨j,h1,h2⟩:=xbm e
 obtain ⟨v,h3,h4⟩:=h.get h2
 exact ⟨v,by rw [h1]; exact h3,h4⟩
theorem cX6 {a b : Expr} {f : Rho → Option (Bool × List D)} {g : DE} {pos : Pos} (ha : JQ X a f) (hb : JE X b g) (hs : aK7 b:=by intro _ _; rfl) : JE X (.Subscript a b pos) (dIx f g):=fun ρ d q=>by
 obtain ⟨⟨t,ds⟩,h1,q⟩:=xbm q
 obtain ⟨y,h2,h3⟩:=xbm q
 split at h3
 ·refine C3 (cu7 cb9 (ha ρ t ds h1) (hb ρ _ h2) hs) fun σ H Q ⟨H0,Hf,s,sl,k⟩=>?_
  refine ⟨H0,Hf,s,sl,fun v H1 Hf1 g1 ⟨p,vs,e1,e2,e3⟩=>⟨H0,Hf1,g1.sub,sl.grow g1,fun u H2 Hf2 g2 r2=>?_⟩⟩
  obtain ⟨w,q1,q2⟩:=cj9 (e3.mono g2.ext) h3
  cases t with
  | true=>exact .inr (.inl ⟨p,vs,_,w,e1,r2,E2 g2.big e2,q1,k w H2 Hf2 (g1.trans g2) q2⟩)
  | false=>exact .inl ⟨p,vs,_,w,e1,r2,K8 g2.big e2,q1,k w H2 Hf2 (g1.trans g2) q2⟩
 ·cases h3
noncomputable def aj0 (xs : List D) (lo hi : Option Int) : List D:=(xs.drop (HT.sIx xs.length 0 lo)).take (HT.sIx xs.length xs.length hi - HT.sIx xs.length 0 lo)
theorem aM5 {K : PySem.W.Frag} {H : Hp} {ds : List D} {vs : List V} (h : Reps K H ds vs) (lo hi : Option Int) : Reps K H (aj0 ds lo hi) (bn4 vs lo hi):=by
 unfold aj0 bn4
 rw [h.length]
 exact (h.drop _).take _
noncomputable def JO (X : Cx) (e : Option Expr) (f : Rho → Option (Option Int)) : Prop:=∀ ρ o,f ρ = some o → PO X e (fun σ H Q=>∃ H0 Hf,L3 Hf H ∧ Slots X.K H0 ρ σ H Hf ∧ ∀ H' Hf',Grow H Hf H' Hf' → Q o H')
noncomputable def N0 : Rho → Option (Option Int):=fun _=>some none
noncomputable def Z5 : D → Option Int
 | .int i=>some i
 | _=>none
noncomputable def F9 (f : DE) : Rho → Option (Option Int):=fun ρ=>(f ρ).bind fun d=>(Z5 d).map some
theorem cp2 : JO X none N0:=fun ρ o q=>by
 cases q
 intro pins s σ H Q I ⟨H0,Hf,ss,sl,k⟩
 exact ck9 pins s σ H Q I (k H Hf (Grow.refl ss))
theorem cp1 {e : Expr} {f : DE} (h : JE X e f) : JO X (some e) (F9 f):=fun ρ o q=>by
 obtain ⟨d,e1,e2⟩:=xbm q
 obtain ⟨i,e3,e4⟩:=Option.map_eq_some_iff.mp e2
 subst e4
 cases d <;> simp [Z5] at e3
 subst e3
 intro pins s σ H Q I ⟨H0,Hf,ss,sl,k⟩
 exact ck8 (h ρ _ e1) pins s σ H Q I ⟨H0,Hf,ss,sl,fun v H1 Hf1 g1 r1=>⟨_,r1,k H1 Hf1 g1⟩⟩
noncomputable def ak0 (f : DE) (lo hi : Rho → Option (Option Int)) : DE:=fun ρ=>(f ρ).bind fun d=>(lo ρ).bind fun l=>(hi ρ).bind fun h=>match d with
 | .tuple xs=>some (.tuple (aj0 xs l h))
 | _=>none
theorem as2 {prog : Program} {w : World} {A : Around} {E : Value → Shared → Prop} {s : Shared} {t sl : Addr} {items : Array Value} {vl vu : Value} {lo hi : Option Int} {Q : Value → Shared → Prop} (ht : IsTup s.heap t items) (hs : s.heap.IsSliceOf sl vl vu .none) (pl : IsPart vl lo) (pu : IsPart vu hi)
  (hw : HT.sIx items.size 0 lo = 0 ∧ HT.sIx items.size items.size hi = items.size) (h : Q (.ref t) s) : wpAny (model prog w) A (getItem (.ref t) (.ref sl)) Q E s:=by
 obtain ⟨os,hos,hcs,hds⟩:=id hs
 have hTs : s.TypeIs (.ref sl) "slice" := ⟨os,hos,hcs⟩
 unfold getItem
 try with_reducible refine wpAny_holding ?_
 first | refine wpAny_bind (wpAny_pure ?_) | skip
 refine wpAny_bind (wpAny_sequenceKey ht.typeIs (by decide) ?_)
 refine wpAny_bind (wpAny_callSpecial?_slot (name:=Str.ofString "__getitem__") ht.typeIs PyProof.Rows.slot_tuple_getitem
  (wpAny_call_entry PyProof.Rows.slot_tuple_getitem ht.typeIs entry_tuple_getitem ?_ (args_tuple_getitem _ _)))
 show wpAny _ _ (Builtin.Tuple.tupleItemsOf (.ref t) >>= _) _ _ s
 refine wpAny_bind (tupleItemsOf_ ht ?_)
 refine wpAny_bind (wpAny_typeOf hTs ?_)
 rw [if_pos (by decide)]
 refine wpAny_bind (HT.sliceApplied_gen hs pl pu ?_)
 have hyes : ((((HT.sIx items.size 0 lo : Nat) : Int) == 0 && (1 : Int) == 1 && (HT.sIx items.size items.size hi - HT.sIx items.size 0 lo) == items.size) = true):=by
  rw [hw.1,hw.2]; simp
 show wpAny _ _ (if (((HT.sIx items.size 0 lo : Nat) : Int) == 0 && (1 : Int) == 1 && (HT.sIx items.size items.size hi - HT.sIx items.size 0 lo) == items.size) = true then _ else _) _ _ s
 rw [if_pos hyes]
 unfold Builtin.Tuple.tupleIsExact
 refine wpAny_bind (wpAny_bind (wpAny_typeOf ht.typeIs (wpAny_pure ?_)))
 rw [if_pos (by decide +kernel)]
 exact wpAny_bind (wpAny_rule (wpAny_pure ⟨_,rfl,wpAny_pure h⟩))
theorem aZ0 : SlR X (fun x lo hi H Q=>∃ a xs,x = .ref a ∧ SqT X.K H a xs ∧ (HT.sIx xs.length 0 lo = 0 ∧ HT.sIx xs.length xs.length hi = xs.length) ∧ Q (.ref a) H):=by
 intro pins s σ H x v vl vu lo hi sl Q I rx hs pl pu h
 obtain ⟨a,xs,rfl,hx,hw,q⟩:=h
 cases rx
 obtain ⟨its,r,ht,hz⟩:=I.tuple hx
 have hlen : its.toArray.size = xs.length:=by rw [List.size_toArray]; exact r.length.symm
 refine ⟨"tuple", _,PyProof.Rows.slot_tuple_getitem.lookup,ht.typeIs,?_⟩
 exact as2 ht hs pl pu (by rw [hlen]; exact hw) ⟨.ref a,H,I,rfl,q⟩
theorem cb2 {a : Expr} {lo hi : Option Expr} {f : DE} {l h : Rho → Option (Option Int)} {pos p2 : Pos} (ha : JE X a f) (hl : JO X lo l) (hh : JO X hi h) : JE X (.Subscript a (.Slice lo hi none p2) pos) (ak0 f l h):=fun ρ d q=>by
 obtain ⟨x,e1,q⟩:=xbm q
 obtain ⟨y,e2,q⟩:=xbm q
 obtain ⟨z,e3,q⟩:=xbm q
 cases x with
 | tuple xs =>
  cases q
  refine C3 (ay0 (cF2.or aZ0) (ha ρ _ e1) (hl ρ y e2) (hh ρ z e3)) fun σ H Q ⟨H0,Hf,s,sl,k⟩=>?_
  refine ⟨H0,Hf,s,sl,fun v H1 Hf1 g1 ⟨p,vs,q1,q2,q3⟩=>⟨H0,Hf1,g1.sub,sl.grow g1,fun H2 Hf2 g2=>⟨H0,Hf2,g2.sub,sl.grow (g1.trans g2),fun H3 Hf3 g3=>?_⟩⟩⟩
  subst q1
  have q2':=E2 (g2.trans g3).ext q2
  have q3':=q3.mono (g2.trans g3).ext
  by_cases c : HT.sIx vs.length 0 y = 0 ∧ HT.sIx vs.length vs.length z = vs.length
  ·refine .inr ⟨p,vs,rfl,E2 g3.sub q2',c,k _ H3 Hf3 ((g1.trans g2).trans g3) ⟨p,vs,rfl,q2',?_⟩⟩
   have : aj0 xs y z = xs:=by
    unfold aj0
    rw [← q3.length,c.1,c.2]
    simp [q3.length]
   rw [this]; exact q3'
  ·refine .inl ⟨p,vs,rfl,E2 g3.sub q2',c,fun p' hp=>?_⟩
   exact k _ _ _ (((g1.trans g2).trans g3).trans (Grow.laid g3.sub hp)) ⟨p',_,rfl,SqT.of C6,(aM5 q3' y z).mono (G0 (g3.sub.free hp))⟩
 | _=>cases q
end
end G
namespace G
open PySem PySem.Spec PyProof.Rows L2
section
variable {X : Cx}
theorem bx1 : bootBuiltins "len" = some (.builtin "len"):=PySem.boot_len
theorem cR0 : bootBuiltins "all" = some (.builtin "all"):=by decide +kernel
theorem cQ9 : bootBuiltins "isinstance" = some (.builtin "isinstance"):=by decide +kernel
theorem bx2 : bootBuiltins "int" = some (.type "int"):=by decide +kernel
theorem cs7 : bootBuiltins "bool" = some (.type "bool"):=by decide +kernel
theorem cg8 : bootBuiltins "str" = some (.type "str"):=by decide +kernel
theorem bE4 : bootBuiltins "list" = some (.type "list"):=by decide +kernel
theorem bo0 : bootBuiltins "tuple" = some (.type "tuple"):=by decide +kernel
theorem cQ7 : bootBuiltins "zip" = some (.type "zip"):=by decide +kernel
noncomputable def R3 (f : Rho → Option (Bool × List D)) : DE:=fun ρ=>(f ρ).map fun q=>.int q.2.length
theorem cb4 {e : Expr} {f : Rho → Option (Bool × List D)} {p pos : Pos} (hg : Gl X "len") (hm : X.mg "len" = none) (h : JQ X e f) (he : starEach [e] X.env = [(false,eval e X.env)]:=by rfl) : JE X (.Call (.Name "len" p) [e] [] pos) (R3 f):=fun ρ d q=>by
 obtain ⟨⟨t,ds⟩,h1,h2⟩:=Option.map_eq_some_iff.mp q
 subst h2
 refine C3 (W7 bf1 hg hm bx1 (F7 (h ρ t ds h1) O9 he) (he:=he)) fun σ H Q ⟨H0,Hf,s,sl,k⟩=>?_
 refine ⟨H0,Hf,s,sl,fun v H1 Hf1 g1 ⟨a,vs,e1,e2,e3⟩=>⟨a,vs,by rw [e1],?_,?_⟩⟩
 ·cases t with
  | true=>exact .inr e2
  | false=>exact .inl e2
 ·exact k _ H1 Hf1 g1 (by rw [e3.length]; rfl)
theorem cb0 {e : Expr} {f : Rho → Option (Bool × List D)} {p pos : Pos} (hg : Gl X "tuple") (hm : X.mg "tuple" = none) (h : JQ X e f) (hz : ∀ ρ ds,f ρ ≠ some (true,ds) ∨ True:=by intros; exact .inr trivial) (he : starEach [e] X.env = [(false,eval e X.env)]:=by rfl) :
  JE X (.Call (.Name "tuple" p) [e] [] pos) (fun ρ=>(f ρ).bind fun q=>if q.1 = true then none else some (.tuple q.2)):=fun ρ d q=>by
 obtain ⟨⟨t,ds⟩,h1,h2⟩:=xbm q
 cases t with
 | true=>simp at h2
 | false =>
  simp only [Bool.false_eq_true,if_false,Option.some.injEq] at h2
  subst h2
  refine C3 (y9 aS9 hg hm bo0 (F7 (h ρ false ds h1) O9 he) (he:=he)) fun σ H Q ⟨H0,Hf,s,sl,k⟩=>?_
  refine ⟨H0,Hf,s,sl,fun v H1 Hf1 g1 ⟨a,vs,e1,e2,e3⟩=>⟨a,vs,by rw [e1],.inl ⟨e2,fun l hl=>?_⟩⟩⟩
  exact k _ _ _ (g1.trans (Grow.laid g1.sub hl)) ⟨l,vs,rfl,SqT.of C6,e3.mono (G0 (g1.sub.free hl))⟩
theorem cp3 {e : Expr} {f : Rho → Option (Bool × List D)} {p pos : Pos} (hg : Gl X "list") (hm : X.mg "list" = none) (h : JQ X e f) (he : starEach [e] X.env = [(false,eval e X.env)]:=by rfl) : JN X (.Call (.Name "list" p) [e] [] pos) (fun ρ=>(f ρ).map fun q=>q.2):=fun ρ ds' q=>by
 obtain ⟨⟨t,ds⟩,h1,h2⟩:=Option.map_eq_some_iff.mp q
 subst h2
 refine C3 (y9 be9 hg hm bE4 (F7 (h ρ t ds h1) O9 he) (he:=he)) fun σ H Q ⟨H0,Hf,s,sl,k⟩=>?_
 refine ⟨H0,Hf,s,sl,fun v H1 Hf1 g1 ⟨a,vs,e1,e2,e3⟩=>⟨a,vs,by rw [e1],?_,fun l hl=>?_⟩⟩
 ·cases t with
  | true=>exact .inr e2
  | false=>exact .inl e2
 ·exact k _ _ _ (g1.trans (Grow.made g1.sub hl)) ⟨l,vs,rfl,g1.big.free hl,C6,g1.sub.free hl,e3⟩
noncomputable def ab9 (f : DE) : DE:=fun ρ=>(f ρ).bind fun d=>match d with
 | .int i=>some (.int i)
 | .bool b=>some (.int (if b then 1 else 0))
 | _=>none
theorem cb5 {e : Expr} {f : DE} {p pos : Pos} (hg : Gl X "int") (hm : X.mg "int" = none) (h : JE X e f) (he : starEach [e] X.env = [(false,eval e X.env)]:=by rfl) : JE X (.Call (.Name "int" p) [e] [] pos) (ab9 f):=fun ρ d q=>by
 obtain ⟨x,h1,h2⟩:=xbm q
 split at h2
 ·cases h2
  exact C3 (y9 aW1 hg hm bx2 (F7 (h ρ _ h1) O9 he) (he:=he)) fun σ H Q ⟨H0,Hf,s,sl,k⟩ =>
   ⟨H0,Hf,s,sl,fun v H1 Hf1 g1 r=>.inl ⟨_,by rw [show v = _ from r],k _ H1 Hf1 g1 rfl⟩⟩
 ·cases h2
  exact C3 (y9 aW1 hg hm bx2 (F7 (h ρ _ h1) O9 he) (he:=he)) fun σ H Q ⟨H0,Hf,s,sl,k⟩ =>
   ⟨H0,Hf,s,sl,fun v H1 Hf1 g1 r=>.inr ⟨_,by rw [show v = _ from r],k _ H1 Hf1 g1 rfl⟩⟩
 ·cases h2
noncomputable def cY6 (f : DE) : DE:=fun ρ=>(f ρ).bind fun d=>match d with
 | .int i=>if i.natAbs.log2 < 1920 then some (.str (toString i)) else none
 | _=>none
theorem cb1 {e : Expr} {f : DE} {p pos : Pos} (hg : Gl X "str") (hm : X.mg "str" = none) (h : JE X e f) (he : starEach [e] X.env = [(false,eval e X.env)]:=by rfl) : JE X (.Call (.Name "str" p) [e] [] pos) (cY6 f):=fun ρ d q=>by
 obtain ⟨x,h1,h2⟩:=xbm q
 split at h2
 ·split at h2
  ·rename_i c
   cases h2
   exact C3 (y9 be8 hg hm cg8 (F7 (h ρ _ h1) O9 he) (he:=he)) fun σ H Q ⟨H0,Hf,s,sl,k⟩ =>
    ⟨H0,Hf,s,sl,fun v H1 Hf1 g1 r=>⟨_,by rw [show v = _ from r],c,k _ H1 Hf1 g1 rfl⟩⟩
  ·cases h2
 ·cases h2
noncomputable def bf9 : List D → Option Bool
 | []=>some true
 | .bool b :: r=>(bf9 r).map fun c=>b && c
 | _ :: _=>none
theorem bo8 : ∀ {ds : List D} {c : Bool},bf9 ds = some c → ∃ bs : List Bool,ds = bs.map PyData.bool ∧ c = bs.all id
 | [],c,h=>by cases h; exact ⟨[],rfl,rfl⟩
 | .bool b :: r,c,h=>by
  obtain ⟨c',h1,h2⟩:=Option.map_eq_some_iff.mp h
  obtain ⟨bs,h3,h4⟩:=bo8 h1
  exact ⟨b :: bs,by simp [h3],by simp [← h2,h4]⟩
theorem aM6 {K : PySem.W.Frag} {H : Hp} : ∀ {bs : List Bool} {vs : List V},Reps K H (bs.map PyData.bool) vs → vs = bs.map V.bl
 | [],_,h=>h
 | _ :: _,_,⟨v,r,h1,h2,h3⟩=>by subst h1; rw [show v = _ from h2,aM6 h3]; rfl
theorem bO9 : u5 X (.builtin "all") (fun xs H Q=>X.calm = true ∧ ∃ (p : Addr) (bs : List Bool),xs = [.ref p] ∧ SqL X.K H p (bs.map V.bl) ∧ Q (.bl (bs.all id)) H):=by
 intro pins s σ H xs us Q I r h
 obtain ⟨hc,p,bs,rfl,hq,q⟩:=h
 obtain ⟨u,rfl,rx⟩:=ae7 r
 cases rx
 obtain ⟨its,rv,pl,hz⟩:=I.list hq
 have hlen:=rv.length
 have hh : X.A.in1.handled = none:=I.ok.hd hc
 have hlt : p < s.heap.objs.size:=by obtain ⟨_,e,_⟩:=pl.isList; exact Heap.lt_size e
 refine call_all_walk (wpAny_pyIter_list pl.isList ?_)
 refine ⟨s.heap.objs.size,_,_,_,_,_,fun i=>(bs[i]?).getD false,rfl,Walks.list hh _ p (Nat.ne_of_lt hlt) its.toArray,⟨⟨_,Heap.get?_push_size _ rfl,rfl,rfl⟩,pl.isList.at fun o e=>Heap.get?_push_of_some _ e⟩,?_,?_⟩
 ·intro i v s' Q' E' hv hQ
  have hv' : its[i]? = some v:=by simpa using hv
  have : ∃ b,bs[i]? = some b:=by
   have : i < its.length:=(List.getElem?_eq_some_iff.mp hv').1
   have : i < bs.length:=by simpa using (by omega : i < (bs.map V.bl).length)
   exact ⟨bs[i],by simp [this]⟩
  obtain ⟨b,hb⟩:=this
  obtain ⟨u,hu,ru⟩:=rv.get (i:=i) (x:=.bl b) (by simp [hb])
  rw [hv'] at hu; cases hu
  cases ru
  exact wpAny_truthy_bool (by simpa [hb] using hQ)
 ·intro h' tk hk
  have e : ((List.range its.toArray.size).all fun i=>(bs[i]?).getD false) = bs.all id:=by
   have hn : its.toArray.size = bs.length:=by simpa using hlen.symm
   rw [hn,Bool.eq_iff_iff]
   simp only [List.all_eq_true,List.mem_range,id]
   constructor
   ·intro h x hx
    obtain ⟨i,hi,rfl⟩:=List.mem_iff_getElem.mp hx
    simpa [hi] using h i hi
   ·intro h i hi
    simpa [hi] using h bs[i] (List.getElem_mem hi)
  rw [e]
  have I1 : Inv X pins σ H { s with heap:=h',toks:=tk }:=by
   have I0 : Inv X pins σ H { s with heap:=s.heap.push { cls:=.type "list_iterator", data:=.fields #[.ref p,rawInt 0] } }:=I.kept (t':=s.toks) fun b o e=>Heap.get?_push_of_some _ e
   refine I.kept (t':=tk) fun b o e=>hk b o ?_ (Heap.get?_push_of_some _ e)
   intro hb
   have : b = s.heap.objs.size:=by simpa using hb
   subst this
   exact absurd (Heap.lt_size e) (Nat.lt_irrefl _)
  exact ⟨.bl (bs.all id),H,I1,rfl,q⟩
noncomputable def j0 (f : Rho → Option (Bool × List D)) : DE:=fun ρ=>(f ρ).bind fun q=>if q.1 = true then none else (bf9 q.2).map PyData.bool
theorem cO3 {e : Expr} {f : Rho → Option (Bool × List D)} {p pos : Pos} (hg : Gl X "all") (hm : X.mg "all" = none) (h : JQ X e f) (hc : X.calm = true:=by rfl) (he : starEach [e] X.env = [(false,eval e X.env)]:=by rfl) : JE X (.Call (.Name "all" p) [e] [] pos) (j0 f):=fun ρ d q=>by
 obtain ⟨⟨t,ds⟩,h1,h2⟩:=xbm q
 cases t with
 | true=>simp at h2
 | false =>
  simp only [Bool.false_eq_true,if_false] at h2
  obtain ⟨c,h3,h4⟩:=Option.map_eq_some_iff.mp h2
  subst h4
  obtain ⟨bs,h5,h6⟩:=bo8 h3
  subst h5 h6
  refine C3 (W7 bO9 hg hm cR0 (F7 (h ρ false _ h1) O9 he) (he:=he)) fun σ H Q ⟨H0,Hf,s,sl,k⟩=>?_
  refine ⟨H0,Hf,s,sl,fun v H1 Hf1 g1 ⟨a,vs,e1,e2,e3⟩=>⟨hc,a,bs,by rw [e1],?_,k _ H1 Hf1 g1 rfl⟩⟩
  rw [aM6 e3] at e2
  exact e2
noncomputable def ae3 (T : String) (d : D) : Option Bool:=match T,d with
 | "int", .int _=>some true
 | "int", .bool _=>some true
 | "int", .none=>some false
 | "int", .str _=>some false
 | "int", .tuple _=>some false
 | "int", .list _=>some false
 | "bool", .int _=>some false
 | "bool", .bool _=>some true
 | "bool", .none=>some false
 | "bool", .str _=>some false
 | "bool", .tuple _=>some false
 | "bool", .list _=>some false
 | "str", .int _=>some false
 | "str", .bool _=>some false
 | "str", .none=>some false
 | "str", .str _=>some true
 | "str", .tuple _=>some false
 | "str", .list _=>some false
 | "tuple", .int _=>some false
 | "tuple", .bool _=>some false
 | "tuple", .none=>some false
 | "tuple", .str _=>some false
 | "tuple", .tuple _=>some true
 | "tuple", .list _=>some false
 | "list", .int _=>some false
 | "list", .bool _=>some false
 | "list", .none=>some false
 | "list", .str _=>some false
 | "list", .tuple _=>some false
 | "list", .list _=>some true
 | _,_=>none
noncomputable def tyD : D → String
 | .int _ => "int"
 | .bool _ => "bool"
 | .none => "NoneType"
 | .str _ => "str"
 | .tuple _ => "tuple"
 | .list _ => "list"
 | .dict _ => "dict"
theorem cr2 {K : PySem.W.Frag} {T : String} {d : D} {b : Bool} (h : ae3 T d = some b) : PySem.W.kitOne K (.type (tyD d)) (.type T) = some b:=by
 unfold ae3 at h
 split at h <;> first
  | (cases h; rfl)
  | cases h
theorem cg2 {T : String} : u5 X (.builtin "isinstance") (fun xs H Q=>∃ d x b,xs = [x,.ty T] ∧ Rep X.K H d x ∧ ae3 T d = some b ∧ Q (.bl b) H):=by
 intro pins s σ H xs us Q I r h
 obtain ⟨d,x,b,rfl,hd,hb,q⟩:=h
 obtain ⟨u,c,rfl,rx,rc⟩:=bz8 r
 cases rc
 have e:=cr2 (K:=X.K) hb
 have fin : ∀ tk,EP X pins σ Q (.bool b) { s with toks:=tk }:=fun tk=>⟨.bl b,H,I.tok tk,rfl,q⟩
 cases d with
 | none=>cases hd; cases rx; exact PySem.W.kia_one PySem.W.kitx_none I.kIn True.intro e (fun z=>nomatch z) fin
 | bool y=>cases hd; cases rx; exact PySem.W.kia_one PySem.W.kitx_bool I.kIn True.intro e (fun z=>nomatch z) fin
 | int i=>cases hd; obtain ⟨t,rfl⟩:=rx; exact PySem.W.kia_one PySem.W.kitx_int I.kIn True.intro e (fun z=>nomatch z) fin
 | str i=>cases hd; obtain ⟨t,rfl⟩:=rx; exact PySem.W.kia_one PySem.W.kitx_str I.kIn True.intro e (fun z=>nomatch z) fin
 | tuple ds =>
  obtain ⟨a,vs,rfl,h2,h3⟩:=hd
  cases rx
  obtain ⟨its,rv,⟨o,ho,hc,_⟩,_⟩:=I.tuple h2
  exact PySem.W.kia_one PySem.W.kitx_tuple I.kIn ⟨o,ho,hc⟩ e (fun z=>nomatch z) fin
 | list ds =>
  obtain ⟨a,vs,rfl,h2,h3⟩:=hd
  cases rx
  obtain ⟨its,rv,pl,_⟩:=I.list h2
  obtain ⟨o,ho,hc,_⟩:=pl.isList
  exact PySem.W.kia_one PySem.W.kitx_list I.kIn ⟨o,ho,hc⟩ e (fun z=>nomatch z) fin
 | dict ds=>exact hd.elim
noncomputable def W4 (T : String) (f : DE) : DE:=fun ρ=>(f ρ).bind fun d=>(ae3 T d).map PyData.bool
theorem cN8 {e : Expr} {f : DE} {x : Str} {T : String} {p p2 pos : Pos} (hg : Gl X "isinstance") (hm : X.mg "isinstance" = none) (hgT : Gl X x) (hmT : X.mg x = none) (hvT : bootBuiltins x = some (.type T)) (h : JE X e f)
  (hn : x ≠ "__name__" := by decide) (hd : (x == ("__debug__" : Str)) = false:=by decide)
  (he : starEach [e,.Name x p2] X.env = (false,eval e X.env) :: starEach [.Name x p2] X.env:=by rfl) (he2 : starEach [.Name x p2] X.env = [(false,eval (.Name x p2) X.env)]:=by rfl) (hpl : (backTo pos (starEach [.Name x p2] X.env)).any (·.1) = false:=by rfl) :
  JE X (.Call (.Name "isinstance" p) [e,.Name x p2] [] pos) (W4 T f):=fun ρ d q=>by
 obtain ⟨y,h1,h2⟩:=xbm q
 obtain ⟨b,h3,h4⟩:=Option.map_eq_some_iff.mp h2
 subst h4
 refine C3 (W7 (cg2 (T:=T)) hg hm cQ9 (F7 (h ρ y h1) (F7 (cl6 (v:=.ty T) hgT hmT hvT rfl hn hd) O9 he2) he) (he:=he) (hpl:=hpl)) fun σ H Q ⟨H0,Hf,s,sl,k⟩=>?_
 exact ⟨H0,Hf,s,sl,fun v H1 Hf1 g1 r=>⟨y,v,b,rfl,r.mono g1.sub,h3,k _ H1 Hf1 g1 rfl⟩⟩
noncomputable def spF (K : PySem.W.Frag) (n : Nat) (F : List D → Option D) : Sp:=fun vs H Q _=>vs.length = n ∧ ∃ Hf ds d,L3 Hf H ∧ Reps K Hf ds vs ∧ F ds = some d ∧ ∀ v H' Hf',Grow H Hf H' Hf' → Rep K Hf' d v → Q v H'
noncomputable def A2 (F : List D → Option D) (f : Rho → Option (List D)) : DE:=fun ρ=>(f ρ).bind F
theorem cq7 {k : Nat} {f : Addr} {fd : FuncData} {ps : List Str} {n : Nat} {F : List D → Option D} {x : Str} {e : Expr} {es : List Expr} {g : Rho → Option (List D)} {p pos : Pos} (Fk : FnOk X.prog X.w X.K X.mg X.base CX0 k f fd ps (spF X.K n F)) (hr : Room k X.A) (hg : Gl X x) (hm : X.mg x = some (.ref f)) (hk : PySem.W.keepIn X.K (.ref f) = true) (hb : ad3 X.K fd ps [])
  (ha : JA X (e :: es) g) (hn : (e :: es).length = n:=by rfl) (hdb : (x == ("__debug__" : Str)) = false:=by decide) (he : starEach (e :: es) X.env = (false,eval e X.env) :: starEach es X.env:=by rfl) (hpl : (backTo pos (starEach es X.env)).any (·.1) = false:=by rfl) :
  JE X (.Call (.Name x p) (e :: es) [] pos) (A2 F g):=fun ρ d q=>by
 obtain ⟨ds,h1,h2⟩:=xbm q
 refine C3 (cl5 Fk hr hg hm hk hb .nil cu8 (fun pos pins s σ H Q I t=>ha.run ρ ds h1 pos pins s σ H Q I t) hdb he hpl) fun σ H Q ⟨H0,Hf,s,sl,kk⟩=>?_
 refine ⟨H0,Hf,s,sl,fun vs H1 Hf1 g1 r1=>⟨?_,Hf1,ds,d,g1.sub,by rw [List.append_nil]; exact r1,h2,fun v H2 Hf2 g2 r2=>kk v H2 Hf2 (g1.trans g2) r2⟩⟩
 rw [List.append_nil,r1.length,ha.len ρ ds h1,hn]
inductive Fl where
 | nx (ρ : Rho)
 | rt (d : D)
 | bk (ρ : Rho)
 | ct (ρ : Rho)
noncomputable abbrev DS:=Rho → Option Fl
structure At (K : PySem.W.Frag) (H0 Hf0 : Hp) (ρ : Rho) (σ : L2.St) (H Hf : Hp) : Prop where
 gr : Grow H0 Hf0 H Hf
 sl : Slots K H0 ρ σ H Hf
noncomputable def Fl.ends (K : PySem.W.Frag) (H0 Hf0 Hf : Hp) (En : Ends) : Fl → Prop
 | .nx ρ=>∀ σ' H' Hf',At K H0 Hf0 ρ σ' H' Hf' → L3 Hf Hf' → En.nx σ' H'
 | .bk ρ=>∀ σ' H' Hf',At K H0 Hf0 ρ σ' H' Hf' → L3 Hf Hf' → En.bk σ' H'
 | .ct ρ=>∀ σ' H' Hf',At K H0 Hf0 ρ σ' H' Hf' → L3 Hf Hf' → En.ct σ' H'
 | .rt d=>∀ v H' Hf',Grow H0 Hf0 H' Hf' → Rep K Hf' d v → En.rt v H'
noncomputable def tJS (K : PySem.W.Frag) (H0 Hf0 : Hp) (ρ : Rho) (fl : Fl) : TS:=fun En σ H=>∃ Hf,At K H0 Hf0 ρ σ H Hf ∧ fl.ends K H0 Hf0 Hf En
noncomputable def JS (X : Cx) (st : Stmt) (f : DS) : Prop:=∀ ρ fl,f ρ = some fl → ∀ H0 Hf0,PS X st (tJS X.K H0 Hf0 ρ fl)
noncomputable def JSs (X : Cx) (sts : List Stmt) (f : DS) : Prop:=∀ ρ fl,f ρ = some fl → ∀ H0 Hf0,PSs X sts (tJS X.K H0 Hf0 ρ fl)
theorem U0 {st : Stmt} {t t' : TS} (h : PS X st t) (i : ∀ En σ H,t' En σ H → t En σ H) : PS X st t':=fun pins s σ H En I q=>h pins s σ H En I (i En σ H q)
theorem ax8 {st : List Stmt} {t t' : TS} (h : PSs X st t) (i : ∀ En σ H,t' En σ H → t En σ H) : PSs X st t':=fun pins s σ H En I q=>h pins s σ H En I (i En σ H q)
theorem At.grow {K : PySem.W.Frag} {H0 Hf0 H Hf H' Hf' : Hp} {ρ : Rho} {σ : L2.St} (a : At K H0 Hf0 ρ σ H Hf) (g : Grow H Hf H' Hf') : At K H0 Hf0 ρ σ H' Hf':=⟨a.gr.trans g,a.sl.grow g⟩
theorem Fl.ends_mono {K : PySem.W.Frag} {H0 Hf0 Hf Hf' : Hp} {En : Ends} {fl : Fl} (h : fl.ends K H0 Hf0 Hf En) (e : L3 Hf Hf') : fl.ends K H0 Hf0 Hf' En:=by
 cases fl with
 | nx ρ=>exact fun σ' H' Hf'' a s=>h σ' H' Hf'' a (e.trans s)
 | bk ρ=>exact fun σ' H' Hf'' a s=>h σ' H' Hf'' a (e.trans s)
 | ct ρ=>exact fun σ' H' Hf'' a s=>h σ' H' Hf'' a (e.trans s)
 | rt d=>exact h
noncomputable def C1 : DS:=fun ρ=>some (.nx ρ)
noncomputable def A6 (f g : DS) : DS:=fun ρ=>(f ρ).bind fun fl=>match fl with
 | .nx ρ'=>g ρ'
 | fl=>some fl
theorem co5 : JSs X [] C1:=fun ρ fl q H0 Hf0=>by
 cases q
 exact ax8 ck6 fun En σ H ⟨Hf,a,e⟩=>e σ H Hf a (L3.refl _)
theorem ca2 {st : Stmt} {sts : List Stmt} {f g : DS} (h1 : JS X st f) (h2 : JSs X sts g) : JSs X (st :: sts) (A6 f g):=fun ρ fl q H0 Hf0=>by
 obtain ⟨fl1,e1,q⟩:=xbm q
 cases fl1 with
 | nx ρ' =>
  refine ax8 (ax9 (h1 ρ _ e1 H0 Hf0) (h2 ρ' fl q H0 Hf0)) fun En σ H ⟨Hf,a,e⟩=>⟨Hf,a,fun σ' H' Hf' a' s'=>⟨Hf',a',Fl.ends_mono e s'⟩⟩
 | rt d=>cases q; exact ax8 (ax9 (h1 ρ _ e1 H0 Hf0) af1) fun En σ H ⟨Hf,a,e⟩=>⟨Hf,a,e⟩
 | bk ρ'=>cases q; exact ax8 (ax9 (h1 ρ _ e1 H0 Hf0) af1) fun En σ H ⟨Hf,a,e⟩=>⟨Hf,a,e⟩
 | ct ρ'=>cases q; exact ax8 (ax9 (h1 ρ _ e1 H0 Hf0) af1) fun En σ H ⟨Hf,a,e⟩=>⟨Hf,a,e⟩
theorem co4 {st : Stmt} {f : DS} (h1 : JS X st f) : JSs X [st] f:=fun ρ fl q H0 Hf0=>ck5 (h1 ρ fl q H0 Hf0)
noncomputable def A9 (f : DE) : DS:=fun ρ=>(f ρ).map Fl.rt
theorem cL2 {e : Expr} {f : DE} {pos : Pos} (h : JE X e f) : JS X (.Return (some e) pos) (A9 f):=fun ρ fl q H0 Hf0=>by
 obtain ⟨d,e1,e2⟩:=Option.map_eq_some_iff.mp q
 subst e2
 exact U0 (cF9 (h ρ d e1)) fun En σ H ⟨Hf,a,e⟩=>⟨H0,Hf,a.gr.sub,a.sl,fun v H' Hf' g r=>e v H' Hf' (a.gr.trans g) r⟩
noncomputable def sIf (t : Rho → Option Bool) (f g : DS) : DS:=fun ρ=>(t ρ).bind fun c=>if c then f ρ else g ρ
theorem cX3 {c : Expr} {a b : List Stmt} {t : Rho → Option Bool} {f g : DS} {pos : Pos} (hc : JT X c t) (ha : JSs X a f) (hb : JSs X b g) : JS X (.If c a b pos) (sIf t f g):=fun ρ fl q H0 Hf0=>by
 obtain ⟨x,e1,q⟩:=xbm q
 cases x with
 | true =>
  refine U0 (cu3 (hc ρ _ e1) (ha ρ fl (by simpa using q) H0 Hf0) af1) fun En σ H ⟨Hf,a,e⟩=>⟨H0,Hf,a.gr.sub,a.sl,fun H' Hf' g=>aR8 ⟨Hf',a.grow g,Fl.ends_mono e g.ext⟩⟩
 | false =>
  refine U0 (cu3 (hc ρ _ e1) af1 (hb ρ fl (by simpa using q) H0 Hf0)) fun En σ H ⟨Hf,a,e⟩=>⟨H0,Hf,a.gr.sub,a.sl,fun H' Hf' g=>aR9 ⟨Hf',a.grow g,Fl.ends_mono e g.ext⟩⟩
theorem Slots.set {K : PySem.W.Frag} {H0 H Hf : Hp} {ρ : Rho} {σ : L2.St} {i : Nat} {d : D} {v : V} (s : Slots K H0 ρ σ H Hf) (r : Rep K Hf d v) : Slots K H0 (ρ.set i (some (.val d))) (σ.set i (some v)) H Hf:=by
 refine ⟨by simp [s.len],fun j b e=>?_,fun j k ds es a h1 h2 h3 h4=>?_⟩
 ·by_cases q : i = j
  ·subst q
   have hi : i < ρ.length:=by
    have:=(List.getElem?_eq_some_iff.mp e).1
    simpa using this
   have hi' : i < σ.length:=by rw [← s.len]; exact hi
   rw [List.getElem?_set_self hi] at e
   cases e
   exact ⟨v,List.getElem?_set_self hi',r⟩
  ·rw [List.getElem?_set_ne q] at e
   obtain ⟨u,h1,h2⟩:=s.is j b e
   exact ⟨u,by rw [List.getElem?_set_ne q]; exact h1,h2⟩
 ·have hj : i ≠ j:=by
   intro q; subst q
   have hi : i < ρ.length:=by
    have:=(List.getElem?_eq_some_iff.mp h1).1
    simpa using this
   rw [List.getElem?_set_self hi] at h1
   cases h1
  have hk : i ≠ k:=by
   intro q; subst q
   have hi : i < ρ.length:=by
    have:=(List.getElem?_eq_some_iff.mp h2).1
    simpa using this
   rw [List.getElem?_set_self hi] at h2
   cases h2
  rw [List.getElem?_set_ne hj] at h1 h3
  rw [List.getElem?_set_ne hk] at h2 h4
  exact s.apart j k ds es a h1 h2 h3 h4
noncomputable def B4 (i : Nat) (f : DE) : DS:=fun ρ=>(f ρ).map fun d=>.nx (ρ.set i (some (.val d)))
theorem ca4 (i : Nat) {x : Str} {e : Expr} {f : DE} {pos pos' : Pos} (hN : X.N.Nodup) (h : JE X e f) (hi : X.N[i]? = some x:=by rfl) (hx : Loc X.env.scope x:=by first | exact Or.inl rfl | exact Or.inr rfl)
  (hs : swapsWith e (some (.Name x pos')) pos.line X.env = pure false:=by rfl) (hf : X.fn x = true ∨ X.env.scope.names.lookup x = some .local:=by first | exact .inl rfl | exact .inr rfl) : JS X (.Assign [.Name x pos'] e pos) (B4 i f):=fun ρ fl q H0 Hf0=>by
 obtain ⟨d,e1,e2⟩:=Option.map_eq_some_iff.mp q
 subst e2
 exact U0 (bV8 hN hi hx (h ρ d e1) hs hf) fun En σ H ⟨Hf,a,e⟩=>⟨H0,Hf,a.gr.sub,a.sl,fun v H' Hf' g r=>e _ H' Hf' ⟨a.gr.trans g,(a.sl.grow g).set r⟩ g.ext⟩
noncomputable def bV0 (i j : Nat) (f : Rho → Option (List D)) : DS:=fun ρ=>(f ρ).bind fun ds=>match ds with
 | [a,b]=>some (.nx ((ρ.set i (some (.val a))).set j (some (.val b))))
 | _=>none
end
end G
namespace G
open PySem PySem.Spec PyProof.Rows L2
theorem bO1 {prog : Program} {w : World} {A : Around} {R : Result → Shared → Prop} {s : Shared} {elt target iter : Expr} {ifs : List Expr} {scope : Scope} {pos : Pos} {it acc : Value} {env : Env} (I : Nat → Shared → Prop)
  (turn : ∀ n s,I n s → wpAny (model prog w) A (pyNext it) (fun r s1=>match r with
   | none=>R (.ok .next) s1
   | some v=>wpAny (model prog w) A (letOwnedTupleGo target it v) (fun _ s1'=>wpAny (model prog w) A (assign target env v) (fun _ s2 =>
     wpAny (model prog w) A (forIn ifs true fun c r=>if r = true then do let ok ← isTrue c env (eval c env); pure (ForInStep.yield ok) else pure (ForInStep.yield r)) (fun ok s3 =>
      if ok = true then wpAny (model prog w) A (eval elt env) (fun x s4 =>
       wpAny (model prog w) A (call (.builtin "list.append") [acc,x]) (fun _ s5=>∃ m,m < n ∧ I m s5) (fun _ _=>False) s4) (fun _ _=>False) s3
      else ∃ m,m < n ∧ I m s3) (fun _ _=>False) s2) (fun _ _=>False) s1') (fun _ _=>False) s1) (fun _ _=>False) s)
  (n : Nat) (h : I n s) :
  codeAny (model prog w) A (.compLoop (.ListComp elt [⟨target,iter,ifs,0⟩] scope pos) 0 it acc env) R s:=by
 refine codeAny_loop rfl I (fun n s hI=>?_) n h
 show wpAny _ A ((compTurn (.ListComp elt [⟨target,iter,ifs,0⟩] scope pos) 0 it acc env).onRaise (fun x=>do noteFrame x env; theTreesLotGoes x)) _ _ s
 refine wpAny_noted ?_
 rw [compTurn_list]
 refine wpAny_bind (wpAny_standAt (wpAny_bind (wpAny_mono (turn n s hI) (fun r s1 h1=>?_) fun _ _ h'=>h'.elim)))
 cases r with
 | none=>exact wpAny_pure h1
 | some v =>
  refine wpAny_bind (wpAny_mono h1 (fun _ s1' h1'=>?_) fun _ _ h'=>h'.elim)
  refine wpAny_bind (wpAny_mono h1' (fun _ s2 h2=>wpAny_bind (wpAny_mono h2 (fun ok s3 h3=>?_) fun _ _ h'=>h'.elim)) fun _ _ h'=>h'.elim)
  cases ok with
  | false=>exact wpAny_pure ⟨rfl,h3⟩
  | true =>
   exact wpAny_bind (wpAny_bind (wpAny_mono h3 (fun x s4 h4=>wpAny_bind (wpAny_mono h4 (fun _ s5 h5=>wpAny_pure (wpAny_pure ⟨rfl,h5⟩)) fun _ _ h'=>h'.elim)) fun _ _ h'=>h'.elim))
noncomputable def W5 (cells : List (Str × Addr)) : List (Str × NameKind) → List (Str × Addr) → List (Str × Addr)
 | [],cs=>cs
 | (n,k) :: r,cs=>if (k == NameKind.free) = true then W5 cells r ((n,(cells.lookup n).getD 0) :: cs) else W5 cells r cs
theorem aP2 {env : Env} : ∀ (names : List (Str × NameKind)) (cs : List (Str × Addr)),(∀ y ∈ names,y.2 = .free → ∃ c,env.cells.lookup y.1 = some c) →
  (forIn names cs fun (x : Str × NameKind) (r : List (Str × Addr))=>if (x.2 == NameKind.free) = true then do let a ← cellOf env x.1; pure (ForInStep.yield ((x.1,a) :: r)) else pure (ForInStep.yield r) : Sem (List (Str × Addr))) = pure (W5 env.cells names cs)
 | [],cs,_=>rfl
 | (n,k) :: r,cs,h=>by
  rw [List.forIn_cons]
  have hr : ∀ y ∈ r,y.2 = .free → ∃ c,env.cells.lookup y.1 = some c:=fun y hy=>h y (List.mem_cons_of_mem _ hy)
  by_cases hk : (k == NameKind.free) = true
  ·obtain ⟨c,hc⟩:=h (n,k) List.mem_cons_self (by simpa using hk)
   have hc' : env.cells.lookup n = some c:=hc
   simp only [hk,if_true]
   have e : cellOf env n = pure c:=by unfold cellOf; rw [hc']
   rw [e]
   show (forIn r ((n,c) :: cs) _ : Sem _) = _
   rw [aP2 r _ hr]
   simp only [W5,hk,if_true,hc',Option.getD_some]
  ·have hk' : (k == NameKind.free) = false:=by simpa using hk
   simp only [hk',Bool.false_eq_true,if_false]
   show (forIn r cs _ : Sem _) = _
   rw [aP2 r _ hr]
   simp only [W5,hk',Bool.false_eq_true,if_false]
theorem cs6 {scope : Scope} {env : Env} (h : ∀ y ∈ scope.names,y.2 = .free → ∃ c,env.cells.lookup y.1 = some c) : closureFor scope env = pure (W5 env.cells scope.names []):=by
 have:=aP2 (env:=env) scope.names [] h
 unfold closureFor
 exact congrArg (fun z=>z >>= fun cs=>pure cs) this
theorem az7 {cells : List (Str × Addr)} : ∀ {names : List (Str × NameKind)} {cs : List (Str × Addr)} {x : Str} {c : Addr},(x,c) ∈ W5 cells names cs → (x,c) ∈ cs ∨ ((x,NameKind.free) ∈ names ∧ c = (cells.lookup x).getD 0)
 | [],cs,x,c,h=>.inl h
 | (n,k) :: r,cs,x,c,h=>by
  unfold W5 at h
  split at h
  ·rename_i hk
   rcases az7 h with q | ⟨q1,q2⟩
   ·rcases List.mem_cons.mp q with q | q
    ·cases q
     have : k = .free:=by simpa using hk
     subst this
     exact .inr ⟨List.mem_cons_self,rfl⟩
    ·exact .inl q
   ·exact .inr ⟨List.mem_cons_of_mem _ q1,q2⟩
  ·rcases az7 h with q | ⟨q1,q2⟩
   ·exact .inl q
   ·exact .inr ⟨List.mem_cons_of_mem _ q1,q2⟩
theorem af5 {cells : List (Str × Addr)} : ∀ {names : List (Str × NameKind)} {cs : List (Str × Addr)} {x : Str},((x,NameKind.free) ∈ names ∨ ∃ c,(x,c) ∈ cs) → ∃ c,(x,c) ∈ W5 cells names cs
 | [],cs,x,h=>by
  rcases h with h | h
  ·cases h
  ·exact h
 | (n,k) :: r,cs,x,h=>by
  unfold W5
  rcases h with h | ⟨c,h⟩
  ·rcases List.mem_cons.mp h with q | q
   ·cases q
    rw [if_pos (by rfl)]
    exact af5 (.inr ⟨_,List.mem_cons_self⟩)
   ·split
    ·exact af5 (.inl q)
    ·exact af5 (.inl q)
  ·split
   ·exact af5 (.inr ⟨c,List.mem_cons_of_mem _ h⟩)
   ·exact af5 (.inr ⟨c,h⟩)
theorem av1 {l : List (Str × Addr)} {x : Str} {c : Addr} (h : (x,c) ∈ l) : ∃ c',l.lookup x = some c':=by
 induction l with
 | nil=>cases h
 | cons p r ih =>
  obtain ⟨n,a⟩:=p
  rw [List.lookup_cons]
  cases e : x == n with
  | true=>exact ⟨a,rfl⟩
  | false =>
   rcases List.mem_cons.mp h with q | q
   ·cases q; simp at e
   ·exact ih q
theorem ax7 {scope : Scope} {env : Env} {x : Str} {k : NameKind} : (relabel scope env).names.lookup x = some k → ∃ k0,scope.names.lookup x = some k0 ∧ (k = k0 ∨ k0 = .free):=by
 unfold relabel
 simp only
 generalize scope.names = names
 induction names with
 | nil=>intro h; simp at h
 | cons p r ih =>
  obtain ⟨n,k1⟩:=p
  intro h
  rw [List.map_cons] at h
  by_cases hc : (k1 == NameKind.free && env.scope.kind == .function && env.kindOf n == some .cell) = true
  ·simp only [hc,if_true,List.lookup_cons] at h
   rw [List.lookup_cons]
   cases e : x == n with
   | true =>
    rw [e] at h
    rw [Bool.and_eq_true,Bool.and_eq_true] at hc
    exact ⟨k1,rfl,.inr (by simpa using hc.1.1)⟩
   | false=>rw [e] at h; exact ih h
  ·have hc' : (k1 == NameKind.free && env.scope.kind == .function && env.kindOf n == some .cell) = false:=by simpa using hc
   simp only [hc',Bool.false_eq_true,if_false,List.lookup_cons] at h
   rw [List.lookup_cons]
   cases e : x == n with
   | true=>rw [e] at h; cases h; exact ⟨_,rfl,.inl rfl⟩
   | false=>rw [e] at h; exact ih h
theorem ba0 {scope : Scope} {env : Env} {x : Str} : scope.names.lookup x = some .free → (relabel scope env).names.lookup x = some .cell ∨ (relabel scope env).names.lookup x = some .free:=by
 unfold relabel
 simp only
 generalize scope.names = names
 induction names with
 | nil=>intro h; simp at h
 | cons p r ih =>
  obtain ⟨n,k1⟩:=p
  intro h
  rw [List.lookup_cons] at h
  rw [List.map_cons]
  cases e : x == n with
  | true =>
   rw [e] at h
   cases h
   have en : x = n:=by simpa using e
   subst en
   by_cases hc : (NameKind.free == NameKind.free && env.scope.kind == .function && env.kindOf x == some .cell) = true
   ·simp only [hc,if_true,List.lookup_cons,e]; exact .inl trivial
   ·have hc' : (NameKind.free == NameKind.free && env.scope.kind == .function && env.kindOf x == some .cell) = false:=by simpa using hc
    simp only [hc',Bool.false_eq_true,if_false,List.lookup_cons,e]; exact .inr trivial
  | false =>
   rw [e] at h
   by_cases hc : (k1 == NameKind.free && env.scope.kind == .function && env.kindOf n == some .cell) = true
   ·simp only [hc,if_true,List.lookup_cons,e]; exact ih h
   ·have hc' : (k1 == NameKind.free && env.scope.kind == .function && env.kindOf n == some .cell) = false:=by simpa using hc
    simp only [hc',Bool.false_eq_true,if_false,List.lookup_cons,e]; exact ih h
noncomputable def K9 (X : Cx) (N' : List Str) (scope : Scope) (C : Addr) (s₀ : Shared) (H₀ : Hp) (ex : List Addr) : Cx where
 prog:=X.prog
 w:=X.w
 K:=X.K
 mg:=X.mg
 base:=X.base
 A:=X.A
 N:=N'
 s₀:=s₀
 H₀:=H₀
 env:=compEnvC scope (W5 X.env.cells scope.names []) C X.env
 outer:=X.stack
 stack:=X.stack
 ex:=ex
 fn:=fun _=>false
 calm:=X.calm
 pn:=[]
 xe:=fun _ _=>False
structure CompSc (X : Cx) (N' : List Str) (n : Nat) (caps : List Nat) (scope : Scope) : Prop where
 kind : scope.kind = .function
 cell : ∀ y ∈ scope.names,y.2 ≠ .cell
 loc : ∀ y ∈ scope.names,y.2 = .local → scope.names.lookup y.1 = some .local
 free : ∀ y ∈ scope.names,y.2 = .free → X.env.scope.names.lookup y.1 = some .cell ∨ X.env.scope.names.lookup y.1 = some .free
 len : N'.length = n + caps.length
 cap : ∀ (i j : Nat),caps[i]? = some j → ∃ x,X.N[j]? = some x ∧ N'[n + i]? = some x ∧ scope.names.lookup x = some .free
section
variable {X : Cx} {N' : List Str} {n : Nat} {caps : List Nat} {scope : Scope}
theorem Y3 {l : List (Str × NameKind)} {x : Str} {k : NameKind} (h : l.lookup x = some k) : (x,k) ∈ l:=PySem.mem_of_lookup h
noncomputable def aS7 (n : Nat) (caps : List Nat) (σ : L2.St) : L2.St:=List.replicate n none ++ caps.map fun j=>(σ[j]?).join
theorem bw6 {pins : List (Addr × Obj)} {σ : L2.St} {H : Hp} {s : Shared} {h1 : Heap} {tk : Nat} {fp : List Addr} {m : Str → Option Value} (S : CompSc X N' n caps scope) (I : Inv X pins σ H s) (hf : ∀ b ∈ fp,ae5 X pins H b) (hlt : ∀ b ∈ fp,b < s.heap.objs.size)
  (hns : h1.Ns s.heap.objs.size m) (hk : ∀ b o,s.heap.get? b = some o → h1.get? b = some o) :
  Inv (K9 X N' scope s.heap.objs.size s H fp) [] (aS7 n caps σ) H { s with heap:=h1,toks:=tk }:=by
 have cl_of : ∀ x c,(W5 X.env.cells scope.names []).lookup x = some c → X.env.cells.lookup x = some c:=fun x c h=>by
  have hm:=PySem.mem_of_lookup h
  rcases az7 hm with q | ⟨q1,q2⟩
  ·cases q
  ·obtain ⟨c',hc'⟩:=I.ok.has x (S.free _ q1 rfl)
   rw [hc'] at q2
   rw [hc',q2]; rfl
 have cl_has : ∀ x,(x,NameKind.free) ∈ scope.names → ∃ c,(W5 X.env.cells scope.names []).lookup x = some c:=fun x h=>by
  obtain ⟨c,hc⟩:=af5 (cells:=X.env.cells) (cs:=[]) (.inl h)
  exact av1 hc
 have kind_free : ∀ x,((relabel scope X.env).names.lookup x = some .cell ∨ (relabel scope X.env).names.lookup x = some .free) → (x,NameKind.free) ∈ scope.names:=fun x h=>by
  rcases h with h | h
  ·obtain ⟨k0,e1,e2⟩:=ax7 h
   rcases e2 with e2 | e2
   ·subst e2; exact absurd rfl (S.cell _ (Y3 e1))
   ·subst e2; exact Y3 e1
  ·obtain ⟨k0,e1,e2⟩:=ax7 h
   rcases e2 with e2 | e2
   ·subst e2; exact Y3 e1
   ·subst e2; exact Y3 e1
 have cell_lt : ∀ x c,X.env.cells.lookup x = some c → c < s.heap.objs.size:=fun x c e=>by
  obtain ⟨v,q⟩:=I.cell x c e
  exact q.lt
 have ok : (K9 X N' scope s.heap.objs.size s H fp).Ok:=by
  refine ⟨I.ok.mod,S.kind,I.ok.glob,I.ok.blt,Nat.le_refl _,fun x y c e1 e2=>I.ok.inj x y c (cl_of x c e1) (cl_of y c e2),fun x hx=>cl_has x (kind_free x hx),fun x c e _=>(Bool.false_ne_true e).elim,I.ok.hd,I.ok.frames,.inl rfl,fun b hb=>⟨Nat.ne_of_lt (hlt b hb),fun x c e=>(hf b hb).2.2.2.2.1 x c (cl_of x c e)⟩,
   I.bs,Nat.le_trans I.ok.bsz I.sz,fun b o e hb=>?_,fun b hb hb2=>?_,I.stack,I.stkFree⟩
  ·rcases (hf b hb).2.2.2.1 with z | z
   ·exact I.ok.noex b o e z
   ·exact absurd (Nat.lt_of_lt_of_le (Heap.lt_size e) (Nat.le_trans I.ok.bsz z)) (Nat.lt_irrefl _)
  ·rcases List.mem_cons.mp (I.stkSub b hb2) with z | z
   ·exact (hf b hb).2.1 z
   ·exact (hf b hb).2.2.1 z
 refine ⟨ok,rfl,I.bare,Un.kept hk,⟨m,hns,fun i x v e1 e2 e3=>?_⟩,fun x c e=>?_,I.hok.fresh (Nat.le_refl _),fun x c e=>I.freeC x c (cl_of x c e),fun p hp=>absurd (show p ∈ ([] : List (Addr × Obj)) from hp) (by simp),I.hok.kept hk,?_⟩
 ·have hi : n ≤ i:=by
   rcases Nat.lt_or_ge i n with h | h
   ·unfold aS7 at e2
    rw [List.getElem?_append_left (by simpa using h),List.getElem?_replicate,if_pos h] at e2
    cases e2
   ·exact h
  unfold aS7 at e2
  rw [List.getElem?_append_right (by simpa using hi),List.getElem?_map] at e2
  simp only [List.length_replicate] at e2
  cases hj : caps[i - n]? with
  | none=>rw [hj] at e2; cases e2
  | some j =>
   rw [hj] at e2
   have e2' : (σ[j]?).join = some v:=by simpa using e2
   have e2'' : σ[j]? = some (some v):=by
    cases q : σ[j]? with
    | none=>rw [q] at e2'; cases e2'
    | some o=>rw [q] at e2'; simp at e2'; rw [e2']
   obtain ⟨y,q1,q2,q3⟩:=S.cap _ _ hj
   have : y = x:=by
    have e1' : N'[i]? = some x:=e1
    rw [show n + (i - n) = i by omega,e1'] at q2
    cases q2; rfl
   subst this
   obtain ⟨m0,hn0,hl0⟩:=I.loc
   have hv : Vis X.env.scope y:=by
    rcases S.free _ (Y3 q3) rfl with z | z
    ·exact .inr (.inl z)
    ·exact .inr (.inr z)
   obtain ⟨u,ru,lk⟩:=hl0 j y v q1 e2'' hv
   refine ⟨u,ru,.inr ⟨ba0 q3,?_⟩⟩
   rcases lk with ⟨lk,_⟩ | ⟨_,c,hc,hcell⟩
   ·rcases S.free _ (Y3 q3) rfl with z | z
    ·have : X.env.scope.names.lookup y = some .local:=lk
     rw [z] at this; cases this
    ·have : X.env.scope.names.lookup y = some .local:=lk
     rw [z] at this; cases this
   ·obtain ⟨c',hc'⟩:=cl_has y (Y3 q3)
    have:=cl_of y c' hc'
    rw [hc] at this; cases this
    obtain ⟨o,ho,hd⟩:=hcell
    exact ⟨c,hc',o,hk c o ho,hd⟩
 ·obtain ⟨v,o,ho,hd⟩:=I.cell x c (cl_of x c e)
  exact ⟨v,o,hk c o ho,hd⟩
 ·show (aS7 n caps σ).length = N'.length
  unfold aS7
  rw [S.len]; simp
theorem aV9 {pins : List (Addr × Obj)} {σ σ' : L2.St} {H H' : Hp} {s s' : Shared} {h' : Heap} {fp : List Addr} (I : Inv X pins σ H s) (hf : ∀ b ∈ fp,ae5 X pins H b)
  (I' : Inv (K9 X N' scope s.heap.objs.size s H fp) [] σ' H' s') (sb : Heap.SameBut s.heap.objs.size s'.heap h') : Inv X pins σ H' { s' with heap:=h' }:=by
 have ne : ∀ b o,s.heap.get? b = some o → b ≠ s.heap.objs.size:=fun b o e=>Nat.ne_of_lt (Heap.lt_size e)
 refine I.call' (s':={ s' with heap:=h' }) (ch:=fp) I'.os ?_ ?_ I'.bare fun b hb=>⟨(hf b hb).2.2.2.1,(hf b hb).2.1,(hf b hb).2.2.2.2.1,(hf b hb).2.2.2.2.2⟩
 ·refine ⟨fun b o e n hb hx=>sb.extBut b o (ne b o e) (I'.base.keep b o e n hb hx),fun b o e n hb hx=>?_,I'.base.free,fun b o e hx=>?_,I'.base.tups,I'.base.frzs,I'.base.tbls⟩
  ·obtain ⟨sl,q⟩:=I'.base.slot b o e n hb hx
   exact ⟨sl,sb.extBut b _ (ne b o e) q⟩
  ·obtain ⟨o',q⟩:=I'.base.there b o e hx
   exact ⟨o',sb.extBut b _ (ne b o e) q⟩
 ·intro b u e
  have nC : ∀ c v,H' c = some v → c ≠ s.heap.objs.size:=fun c v q z=>by
   have:=I'.free
   have z' : H' c = none:=by rw [z]; exact this
   rw [z'] at q; cases q
  refine (I'.hok b u e).stay (fun c v hc q=>sb.extBut c v ?_ q) (fun _ q=>q) fun _ _ q=>q
  rcases hc with z | z
  ·rw [z]; exact nC b u e
  ·exact nC c _ z
noncomputable def PTs (X : Cx) (ifs : List Expr) (t : TT) : Prop :=
 ∀ (pins : List (Addr × Obj)) (s : Shared) (σ : L2.St) (H : Hp) (Q : Bool → Hp → Prop),Inv X pins σ H s → t σ H Q →
  wpAny (model X.prog X.w) X.A (forIn ifs true fun c r=>if r = true then do let ok ← isTrue c X.env (eval c X.env); pure (ForInStep.yield ok) else pure (ForInStep.yield r)) (TP X pins σ Q) X.xe s
theorem ck3 : PTs X [] (fun _ H Q=>Q true H):=fun pins s σ H Q I h=>wpAny_tests_nil ⟨H,I,h⟩
theorem ck2 {c : Expr} {t : TT} (h : PT X c t) : PTs X [c] t:=fun pins s σ H Q I q=>wpAny_tests_one (h pins s σ H Q I q)
noncomputable def bU0 (n : Nat) (caps : List Nat) (wi : TI) (g : TG) (tc : TT) (te : TE) : TE:=fun σ H Q=>wi σ H fun J H1=>∀ Dd,H1 Dd = none → ∃ W : Nat → Nat → List V → L2.St → Hp → Prop,
 (∃ m,W 0 m [] (aS7 n caps σ) (upd H1 Dd (.lst []))) ∧
 ∀ i m ys σ' H',W i m ys σ' H' →
  (J.stop i H' ∧ Q (.ref Dd) H') ∨
  (J.go i H' ∧ ∀ x H2,J.yld i H' x H2 → g x σ' H2 fun σ3 H3=>tc σ3 H3 fun b H4 =>
   if b = true then te σ3 H4 fun y H5=>H5 Dd = some (.lst ys) ∧ ys.length < sizeLine ∧ ∃ m',m' < m ∧ W (i + 1) m' (ys ++ [y]) σ3 (upd H5 Dd (.lst (ys ++ [y])))
   else ∃ m',m' < m ∧ W (i + 1) m' ys σ3 H4)
theorem bn5 {elt tgt iter : Expr} {ifs : List Expr} {pos : Pos} {wi : TI} {g : TG} {tc : TT} {te : TE} {RR : Value → Addr → Result → Shared → Prop} {E : Value → Shared → Prop} (S : CompSc X N' n caps scope) (hx : ∀ e s,X.xe e s → False) (hc : X.calm = true)
  (hi : PI X tgt iter wi) (hg : ∀ C s0 H0 ex,PG (K9 X N' scope C s0 H0 ex) tgt g) (ht : ∀ C s0 H0 ex,PTs (K9 X N' scope C s0 H0 ex) ifs tc) (he : ∀ C s0 H0 ex,PE (K9 X N' scope C s0 H0 ex) elt te)
  {pins : List (Addr × Obj)} {s : Shared} {σ : L2.St} {H : Hp} {Q : VK} (I : Inv X pins σ H s) (h : bU0 n caps wi g tc te σ H Q)
  (hRR : ∀ D C r s',r = .ok .next → (∃ m,s'.heap.Ns C m ∧ ∀ h',Heap.SameBut C s'.heap h' → ∃ H',Inv X pins σ H' { s' with heap:=h' } ∧ Q (.ref D) H') →
   (∃ s2 fp σ' H2 H',s2.heap.objs.size = C ∧ Inv X pins σ H2 s2 ∧ (∀ b ∈ fp,ae5 X pins H2 b) ∧ Inv (K9 X N' scope s2.heap.objs.size s2 H2 fp) [] σ' H' s' ∧ Q (.ref D) H') → RR (.ref D) C r s') :
  wpAny (model X.prog X.w) X.A (eval iter X.env) (fun x s₁=>wpAny (model X.prog X.w) X.A (pyIter x) (fun it s₂=>wpAny (model X.prog X.w) X.A (newList []) (fun acc s₃ =>
   wpAny (model X.prog X.w) X.A (newFunctionEnv scope X.env.globals (W5 X.env.cells scope.names []) [] X.env.qual none .none (some X.env)) (fun cenv s₄ =>
    codeAny (model X.prog X.w) X.A (.compStart (.ListComp elt [⟨tgt,iter,ifs,0⟩] scope pos) 0 it acc { cenv with scope:=relabel scope X.env }) (RR acc cenv.locals) s₄) E s₃) E s₂) E s₁) E s:=by
 refine wpAny_mono (hi pins s σ H _ I h) (fun v s1 h1=>wpAny_mono h1 (fun itv s2 h2=>?_) fun _ _ z=>(hx _ _ z).elim) fun _ _ z=>(hx _ _ z).elim
 obtain ⟨it,fp,tn,J,H2,e,I2,T,st2,f2,R⟩:=h2
 subst e
 refine wpAny_newObj_type (wpAny_newFunctionEnv S.cell (by intro y hy; simp at hy) (fun h₁ hns₁ hsb₁=>?_) S.kind)
 dsimp only at hns₁ hsb₁ ⊢
 obtain ⟨W,⟨m0,w0⟩,turn⟩:=R s2.heap.objs.size (I2.hok.fresh (Nat.le_refl _))
 have lt2 : ∀ b ∈ fp,b < s2.heap.objs.size:=fun b hb=>by
  obtain ⟨o,ho,_⟩:=T.obj _ _ st2 b hb
  exact Heap.lt_size ho
 have I3 : Inv X pins σ (upd H2 s2.heap.objs.size (.lst [])) { s2 with heap:=s2.heap.push { cls:=.type "list", dict:=none,data:=.seq ([] : List Value).toArray } } :=
  I2.laid (t':=s2.toks) (fun b u e=>Heap.get?_push_of_some _ e) (Nat.le_refl _) ⟨Nat.zero_le _,[],0,.nil,Heap.get?_push_size _ rfl⟩
 generalize hs3 : ({ s2 with heap:=s2.heap.push { cls:=.type "list", dict:=none,data:=.seq ([] : List Value).toArray } } : Shared) = s3 at I3
 have es3 : s3.heap = s2.heap.push { cls:=.type "list", dict:=none,data:=.seq ([] : List Value).toArray }:=by rw [← hs3]
 rw [← es3] at hns₁ hsb₁ ⊢
 have keep3 : ∀ b o,s3.heap.get? b = some o → h₁.get? b = some o:=fun b o e=>hsb₁.extBut b o (Nat.ne_of_lt (Heap.lt_size e)) (Heap.get?_push_of_some _ e)
 have lt3 : ∀ b ∈ fp,b < s3.heap.objs.size:=fun b hb=>by rw [es3,Heap.size_push]; exact Nat.lt_succ_of_lt (lt2 b hb)
 have f3 : ∀ b ∈ fp,ae5 X pins (upd H2 s2.heap.objs.size (.lst [])) b:=fun b hb=>⟨by rw [C7 (Nat.ne_of_lt (lt2 b hb))]; exact (f2 b hb).1,(f2 b hb).2⟩
 generalize hH3 : upd H2 s2.heap.objs.size (HO.lst []) = H3 at I3 f3 w0
 have fin3 : ∀ {σ' : L2.St} {H' : Hp} {pl : List (Addr × Obj)},(∀ b ∈ fp,H' b = none) → (∀ p ∈ pl,False) → ∀ b ∈ fp,ae5 (K9 X N' scope s3.heap.objs.size s3 H3 fp) pl H' b:=fun {σ' H' pl} hn hp b hb=>by
  refine ⟨hn b hb,Nat.ne_of_lt (lt3 b hb),fun z=>?_,.inl hb,fun x c e=>?_,fun p hp'=>?_⟩
  ·rcases List.mem_cons.mp (I3.stkSub b z) with z | z
   ·exact (f3 b hb).2.1 z
   ·exact (f3 b hb).2.2.1 z
  ·have hm:=PySem.mem_of_lookup e
   rcases az7 hm with q | ⟨q1,q2⟩
   ·cases q
   ·obtain ⟨c',hc'⟩:=I3.ok.has x (S.free _ q1 rfl)
    rw [hc'] at q2
    have q2' : c = c':=q2
    subst q2'
    exact (f3 b hb).2.2.2.2.1 x c hc'
  ·exact (hp p (by simpa [K9] using hp')).elim
 have toks : ∃ tk,({ s2 with heap:=h₁,toks:=s2.toks + ([] : List (Str × Value)).length } : Shared) = { s3 with heap:=h₁,toks:=tk }:=⟨s2.toks,by rw [← hs3]; rfl⟩
 obtain ⟨tk,htk⟩:=toks
 have st4 : tn 0 h₁:=T.keep 0 s2.heap h₁ st2 fun b hb o e=>keep3 b o (by rw [es3]; exact Heap.get?_push_of_some _ e)
 have I4 : Inv (K9 X N' scope s3.heap.objs.size s3 H3 fp) [] (aS7 n caps σ) H3 { s3 with heap:=h₁,toks:=tk }:=bw6 S I3 f3 lt3 hns₁ keep3
 have loop : codeAny (model X.prog X.w) X.A (.compLoop (.ListComp elt [⟨tgt,iter,ifs,0⟩] scope pos) 0 (.ref it) (.ref s2.heap.objs.size) (compEnvC scope (W5 X.env.cells scope.names []) s3.heap.objs.size X.env)) (RR (.ref s2.heap.objs.size) s3.heap.objs.size) { s3 with heap:=h₁,toks:=tk }:=by
  refine bO1 (fun k s'=>∃ i ys σ' H',Inv (K9 X N' scope s3.heap.objs.size s3 H3 fp) [] σ' H' s' ∧ tn i s'.heap ∧ (∀ b ∈ fp,H' b = none) ∧ W i k ys σ' H') ?_ m0 ⟨0,[],_,H3,I4,st4,fun b hb=>(f3 b hb).1,w0⟩
  rintro k s5 ⟨i,ys,σ5,H5,I5,st5,fr5,w5⟩
  have pz : ∀ p ∈ ([] : List (Addr × Obj)),False:=fun p hp=>by cases hp
  rcases turn i k ys σ5 H5 w5 with ⟨stop,qn⟩ | ⟨go,step⟩
  ·refine wpAny_mono (T.done (K9 X N' scope s3.heap.objs.size s3 H3 fp) rfl rfl rfl hc i [] s5 σ5 H5 (fun _ _=>False) I5 (fin3 (σ':=σ5) fr5 pz) st5 stop) (fun r s6 ⟨hr,I6⟩=>?_) fun _ _ z=>z
   subst hr
   obtain ⟨m6,hn6,_⟩:=I6.loc
   refine hRR _ _ _ s6 rfl ⟨m6,hn6,fun h' sb=>⟨H5,aV9 I3 f3 I6 sb,qn⟩⟩ ⟨s3,fp,σ5,H3,H5,rfl,I3,f3,I6,qn⟩
  ·refine wpAny_mono (T.item (K9 X N' scope s3.heap.objs.size s3 H3 fp) rfl rfl rfl hc i [] s5 σ5 H5 (fun _ _=>False) I5 (fin3 (σ':=σ5) fr5 pz) st5 go) (fun r s6 ⟨u,hr,h6⟩=>?_) fun _ _ z=>z
   subst hr
   refine wpAny_mono h6 (fun _ s7 ⟨x,H7,I7,r7,y7,st7,fr7⟩=>?_) fun _ _ z=>z
   have I7':=I7.pinned (fin3 (σ':=σ5) fr7 pz) (T.obj _ _ st7)
   refine wpAny_mono (hg _ _ _ _ _ s7 σ5 H7 x u _ I7' r7 (step x H7 y7)) (fun _ s8 ⟨σ8,H8,I8,q8⟩=>?_) fun _ _ z=>z
   refine wpAny_mono (ht _ _ _ _ _ s8 σ8 H8 _ I8 q8) (fun ok s9 ⟨H9,I9,q9⟩=>?_) fun _ _ z=>z
   have again : ∀ {σ' : L2.St} {H' : Hp} {s' : Shared},Inv (K9 X N' scope s3.heap.objs.size s3 H3 fp) ([] ++ aM9 fp s7.heap) σ' H' s' → Inv (K9 X N' scope s3.heap.objs.size s3 H3 fp) [] σ' H' s' ∧ tn (i + 1) s'.heap ∧ ∀ b ∈ fp,H' b = none:=fun {σ' H' s'} I'=>by
    refine ⟨I'.unpinned,T.keep _ _ _ st7 fun b hb o e=>(I'.pin (b,o) (List.mem_append_right _ (List.mem_append_right _ (ah4 hb e)))).1,fun b hb=>?_⟩
    obtain ⟨o,e,d⟩:=T.obj _ _ st7 b hb
    exact (I'.pin (b,o) (List.mem_append_right _ (List.mem_append_right _ (ah4 hb e)))).2.1
   cases ok with
   | false =>
    rw [if_neg Bool.false_ne_true] at q9 ⊢
    obtain ⟨m',hm,w'⟩:=q9
    obtain ⟨a1,a2,a3⟩:=again I9
    exact ⟨m',hm,i + 1,ys,σ8,H9,a1,a2,a3,w'⟩
   | true =>
    rw [if_pos rfl] at q9 ⊢
    refine wpAny_mono (he _ _ _ _ _ s9 σ8 H9 _ I9 q9) (fun y s10 ⟨vy,H10,I10,r10,q10,z10,m',hm,w'⟩=>?_) fun _ _ z=>z
    refine wpAny_mono (aU8 (X:=K9 X N' scope s3.heap.objs.size s3 H3 fp) _ s10 σ8 H10 (.ref s2.heap.objs.size) [vy] _ _ (fun v H'=>v = .non ∧ H' = upd H10 s2.heap.objs.size (.lst (ys ++ [vy]))) I10 rfl (.cons r10 .nil) ⟨_,ys,vy,rfl,rfl,q10,z10,rfl,rfl⟩) (fun _ s11 ⟨v11,H11,I11,r11,e11,e12⟩=>?_) fun _ _ z=>z
    subst e12
    obtain ⟨a1,a2,a3⟩:=again I11
    exact ⟨m',hm,i + 1,ys ++ [vy],σ8,_,a1,a2,a3,w'⟩
 show codeAny (model X.prog X.w) X.A _ _ ({ s2 with heap:=h₁,toks:=s2.toks + ([] : List (Str × Value)).length } : Shared)
 rw [htk]
 exact codeAny_compStart_list loop (T.self _ _ _ _ _ st4 loop)
end
end G
namespace G
open PySem PySem.Spec PyProof.Rows L2
section
variable {X : Cx}
noncomputable def tgJ (K : PySem.W.Frag) (f : D → Rho → Option Rho) : TG:=fun v σ H Q=>∃ d ρ ρ' H0 Hf,f d ρ = some ρ' ∧ L3 Hf H ∧ Slots K H0 ρ σ H Hf ∧ Rep K Hf d v ∧ ∀ σ',Slots K H0 ρ' σ' H Hf → Q σ' H
noncomputable def JG (X : Cx) (tg : Expr) (f : D → Rho → Option Rho) : Prop:=PG X tg (tgJ X.K f)
noncomputable def da0 (K : PySem.W.Frag) (f : List D → Rho → Option Rho) : TGs:=fun vs σ H Q=>∃ ds ρ ρ' H0 Hf,f ds ρ = some ρ' ∧ L3 Hf H ∧ Slots K H0 ρ σ H Hf ∧ Reps K Hf ds vs ∧ ∀ σ',Slots K H0 ρ' σ' H Hf → Q σ' H
noncomputable def JGs (X : Cx) (tg : List Expr) (f : List D → Rho → Option Rho) : Prop:=PGs X tg (da0 X.K f)
noncomputable def B1 (i : Nat) : D → Rho → Option Rho:=fun d ρ=>some (ρ.set i (some (.val d)))
theorem cp8 (i : Nat) {x : Str} {pos : Pos} (hN : X.N.Nodup) (hi : X.N[i]? = some x:=by rfl) (hx : Loc X.env.scope x:=by first | exact Or.inl rfl | exact Or.inr rfl) (hf : X.fn x = true ∨ X.env.scope.names.lookup x = some .local:=by first | exact .inl rfl | exact .inr rfl) : JG X (.Name x pos) (B1 i):=by
 intro pins s σ H v u Q I r ⟨d,ρ,ρ',H0,Hf,e,ss,sl,rp,k⟩
 cases e
 exact cl2 hN hi hx hf pins s σ H v u Q I r (k _ (sl.set rp))
noncomputable def K7 : List D → Rho → Option Rho:=fun ds ρ=>match ds with
 | []=>some ρ
 | _=>none
noncomputable def B2 (f : D → Rho → Option Rho) (g : List D → Rho → Option Rho) : List D → Rho → Option Rho:=fun ds ρ=>match ds with
 | d :: r=>(f d ρ).bind fun ρ'=>g r ρ'
 | []=>none
theorem cp7 : JGs X [] K7:=by
 intro pins s σ H vs us Q I r ⟨ds,ρ,ρ',H0,Hf,e,ss,sl,rp,k⟩
 cases ds with
 | nil=>cases e; exact cl1 pins s σ H vs us Q I r ⟨rp,k _ sl⟩
 | cons d ds=>cases e
theorem ca9 {e : Expr} {es : List Expr} {f : D → Rho → Option Rho} {g : List D → Rho → Option Rho} (h1 : JG X e f) (h2 : JGs X es g) (hs : (assignEach (e :: es) X.env).map (·.2) = assign e X.env :: (assignEach es X.env).map (·.2):=by rfl) : JGs X (e :: es) (B2 f g):=by
 intro pins s σ H vs us Q I r ⟨ds,ρ,ρ',H0,Hf,e,ss,sl,rp,k⟩
 cases ds with
 | nil=>cases e
 | cons d ds =>
  obtain ⟨ρ1,e1,e2⟩:=xbm e
  obtain ⟨v,vr,rfl,q1,q2⟩:=rp
  exact bW3 h1 h2 hs pins s σ H _ us Q I r ⟨v,vr,rfl,d,ρ,ρ1,H0,Hf,e1,ss,sl,q1,fun σ' sl'=>⟨ds,ρ1,ρ',H0,Hf,e2,ss,sl',q2,k⟩⟩
noncomputable def K4 (n : Nat) (g : List D → Rho → Option Rho) : D → Rho → Option Rho:=fun d ρ=>match d with
 | .tuple ds=>if ds.length = n then g ds ρ else none
 | _=>none
theorem cM7 {es : List Expr} {k n : Nat} {pos : Pos} {g : List D → Rho → Option Rho} (h : JGs X es g) (hc : X.calm = true:=by rfl) (hn : (assignEach es X.env).length = n:=by rfl) (hst : (assignEach es X.env).findIdx? (·.1) = none:=by rfl) : JG X (.Tuple es k pos) (K4 n g):=by
 intro pins s σ H v u Q I r ⟨d,ρ,ρ',H0,Hf,e,ss,sl,rp,kk⟩
 cases d with
 | tuple ds =>
  simp only [K4] at e
  split at e
  ·rename_i hl
   obtain ⟨a,vs,rfl,q1,q2⟩:=rp
   exact cG5 hc h hn hst pins s σ H _ u Q I r ⟨a,vs,rfl,E2 ss q1,by rw [q2.length,hl],ds,ρ,ρ',H0,Hf,e,ss,sl,q2,kk⟩
  ·cases e
 | _=>cases e
noncomputable def bg0 (K : PySem.W.Frag) (J : It) (ds : List D) (Hf1 : Hp) : Prop:=∀ (i : Nat) (H Hf : Hp),L3 Hf1 Hf → L3 Hf H → (ds.length ≤ i → J.stop i H) ∧ ∀ d,ds[i]? = some d → J.go i H ∧ ∀ x H',J.yld i H x H' → ∃ Hf',Grow H Hf H' Hf' ∧ Rep K Hf' d x
noncomputable def tiJ (K : PySem.W.Frag) (ρ : Rho) (ds : List D) : TI:=fun σ H R=>∃ H0 Hf,L3 Hf H ∧ Slots K H0 ρ σ H Hf ∧ ∀ J H' Hf',Grow H Hf H' Hf' → bg0 K J ds Hf' → R J H'
noncomputable def JI (X : Cx) (tg iter : Expr) (f : Rho → Option (List D)) : Prop:=∀ ρ ds,f ρ = some ds → PI X tg iter (tiJ X.K ρ ds)
theorem ba6 {tg iter : Expr} {t t' : TI} (h : PI X tg iter t) (i : ∀ σ H R,t' σ H R → t σ H R) : PI X tg iter t':=fun pins s σ H R I q=>h pins s σ H R I (i σ H R q)
noncomputable def G1 (f : DE) : Rho → Option (List D):=fun ρ=>(f ρ).bind fun d=>match d with
 | .list ds=>some ds
 | .tuple ds=>some ds
 | _=>none
theorem bu3 {tg e : Expr} {f : DE} (h : JE X e f) : JI X tg e (G1 f):=fun ρ ds q=>by
 obtain ⟨d,e1,e2⟩:=xbm q
 cases d with
 | list xs =>
  cases e2
  refine ba6 (cl0 (h ρ _ e1)) fun σ H R ⟨H0,Hf,s,sl,k⟩=>⟨H0,Hf,s,sl,fun v H1 Hf1 g1 ⟨a,vs,h1,h2,h3⟩=>⟨a,h1,⟨vs,K8 g1.sub h2⟩,k _ H1 Hf1 g1 ?_⟩⟩
  intro i H' Hf' sa sb
  have q' : SqL X.K H' a vs:=K8 (sa.trans sb) h2
  refine ⟨fun hi=>⟨vs,q',by rw [h3.length]; exact hi⟩,fun d hd=>?_⟩
  obtain ⟨v,w1,w2⟩:=h3.get hd
  refine ⟨⟨vs,v,q',w1⟩,fun x H'' hy=>?_⟩
  obtain ⟨rfl,hy⟩:=hy
  have:=hy vs q'
  rw [w1] at this; cases this
  exact ⟨Hf',Grow.refl sb,w2.mono sa⟩
 | tuple xs =>
  cases e2
  refine ba6 (cG4 (h ρ _ e1)) fun σ H R ⟨H0,Hf,s,sl,k⟩=>⟨H0,Hf,s,sl,fun v H1 Hf1 g1 ⟨a,vs,h1,h2,h3⟩=>⟨a,h1,⟨vs,E2 g1.sub h2⟩,k _ H1 Hf1 g1 ?_⟩⟩
  intro i H' Hf' sa sb
  have q' : SqT X.K H' a vs:=E2 (sa.trans sb) h2
  refine ⟨fun hi=>⟨vs,q',by rw [h3.length]; exact hi⟩,fun d hd=>?_⟩
  obtain ⟨v,w1,w2⟩:=h3.get hd
  refine ⟨⟨vs,v,q',w1⟩,fun x H'' hy=>?_⟩
  obtain ⟨rfl,hy⟩:=hy
  have:=hy vs q'
  rw [w1] at this; cases this
  exact ⟨Hf',Grow.refl sb,w2.mono sa⟩
 | _=>cases e2
noncomputable def ae1 (lo hi : Int) : List D:=(List.range (hi - lo).toNat).map fun (i : Nat)=>PyData.int (lo + i)
theorem aw6 {K : PySem.W.Frag} {lo hi : Int} {Hf1 : Hp} : bg0 K (Itr lo (hi - lo).toNat) (ae1 lo hi) Hf1:=by
 intro i H Hf sa sb
 have hl : (ae1 lo hi).length = (hi - lo).toNat:=by simp [ae1]
 refine ⟨fun h=>by rw [hl] at h; exact h,fun d hd=>?_⟩
 have hi' : i < (hi - lo).toNat:=by
  have:=(List.getElem?_eq_some_iff.mp hd).1
  rw [hl] at this; exact this
 refine ⟨hi',fun x H' hy=>?_⟩
 obtain ⟨e1,e2⟩:=hy
 subst e1 e2
 have : d = .int (lo + i):=by
  have : (ae1 lo hi)[i]? = some (.int (lo + i)):=by simp [ae1,hi']
  rw [hd] at this; cases this; rfl
 subst this
 exact ⟨Hf,Grow.refl sb,rfl⟩
noncomputable def O4 (f : DE) : Rho → Option (List D):=fun ρ=>(f ρ).bind fun d=>match d with
 | .int j=>if -(2 ^ 62) ≤ j ∧ j < 2 ^ 62 then some (ae1 0 j) else none
 | _=>none
theorem bK9 {tg e : Expr} {f : DE} {p pos : Pos} (hg : Gl X "range") (hm : X.mg "range" = none) (h : JE X e f) (hs : starEach [e] X.env = [(false,eval e X.env)]:=by rfl) : JI X tg (.Call (.Name "range" p) [e] [] pos) (O4 f):=fun ρ ds q=>by
 obtain ⟨d,e1,e2⟩:=xbm q
 split at e2
 ·split at e2
  ·rename_i j c
   cases e2
   refine ba6 (bG6 hg hm (F7 (h ρ _ e1) O9 hs) hs) fun σ H R ⟨H0,Hf,s,sl,k⟩=>⟨H0,Hf,s,sl,fun v H1 Hf1 g1 r=>⟨j,by rw [show v = _ from r],c.1,c.2,k _ H1 Hf1 g1 ?_⟩⟩
   have:=aw6 (K:=X.K) (lo:=0) (hi:=j) (Hf1:=Hf1)
   rw [Int.sub_zero] at this
   exact this
  ·cases e2
 ·cases e2
noncomputable def cv5 (f g : DE) : Rho → Option (List D):=fun ρ=>(f ρ).bind fun d=>(g ρ).bind fun e=>match d,e with
 | .int i,.int j=>if (-(2 ^ 62) ≤ i ∧ i < 2 ^ 62) ∧ -(2 ^ 62) ≤ j ∧ j < 2 ^ 62 then some (ae1 i j) else none
 | _,_=>none
theorem bK8 {tg a b : Expr} {f g : DE} {p pos : Pos} (hg : Gl X "range") (hm : X.mg "range" = none) (ha : JE X a f) (hb : JE X b g) (hs : starEach [a,b] X.env = [(false,eval a X.env),(false,eval b X.env)]:=by rfl) (hs2 : starEach [b] X.env = [(false,eval b X.env)]:=by rfl) :
  JI X tg (.Call (.Name "range" p) [a,b] [] pos) (cv5 f g):=fun ρ ds q=>by
 obtain ⟨d,e1,q⟩:=xbm q
 obtain ⟨e,e2,q⟩:=xbm q
 split at q
 ·split at q
  ·rename_i c
   cases q
   refine ba6 (bG5 hg hm (F7 (ha ρ _ e1) (F7 (hb ρ _ e2) O9 hs2) (by rw [hs,hs2])) hs hs2) fun σ H R ⟨H0,Hf,s,sl,k⟩=>⟨H0,Hf,s,sl,fun v H1 Hf1 g1 r=>⟨H0,Hf1,g1.sub,sl.grow g1,fun u H2 Hf2 g2 r2=>⟨_,_,by rw [show v = _ from r,show u = _ from r2],⟨c.1.1,c.1.2,c.2.1,c.2.2⟩,k _ H2 Hf2 (g1.trans g2) aw6⟩⟩⟩
  ·cases q
 ·cases q
theorem Grow.nofr {H Hf H' Hf' : Hp} {a : Addr} {o : HO} (g : Grow H Hf H' Hf') (h : H a = some o) (n : Hf a = none) : Hf' a = none:=by
 cases q : Hf' a with
 | none=>rfl
 | some u =>
  rcases g.new a (by rw [q]; simp) with z | z
  ·exact absurd n z
  ·rw [h] at z; cases z
noncomputable def ac0 (n : Nat) (caps : List Nat) (ρ : Rho) : Rho:=List.replicate n none ++ caps.map fun j=>match ρ[j]? with
 | some (some (.val d))=>some (.val d)
 | _=>none
noncomputable def U7 (g : D → Rho → Option Rho) (c : Rho → Option Bool) (e : DE) : List D → Rho → Option (List D)
 | [],_=>some []
 | d :: ds,ρ=>(g d ρ).bind fun ρ1=>(c ρ1).bind fun b=>if b then (e ρ1).bind fun y=>(U7 g c e ds ρ1).map fun r=>y :: r else U7 g c e ds ρ1
noncomputable def B8 (n : Nat) (caps : List Nat) (src : Rho → Option (List D)) (g : D → Rho → Option Rho) (c : Rho → Option Bool) (e : DE) : Rho → Option (List D):=fun ρ=>(src ρ).bind fun ds=>if ds.length ≤ 16777216 then U7 g c e ds (ac0 n caps ρ) else none
noncomputable def aU0 (K : PySem.W.Frag) (c : Rho → Option Bool) : TT:=fun σ H Q=>∃ ρ b,c ρ = some b ∧ ∃ H0 Hf,L3 Hf H ∧ Slots K H0 ρ σ H Hf ∧ ∀ H' Hf',Grow H Hf H' Hf' → Q b H'
noncomputable def bz9 (K : PySem.W.Frag) (e : DE) : TE:=fun σ H Q=>∃ ρ d,e ρ = some d ∧ tJ K ρ (fun _ v _ Hf=>Rep K Hf d v) σ H Q
noncomputable def JTs (X : Cx) (ifs : List Expr) (c : Rho → Option Bool) : Prop:=PTs X ifs (aU0 X.K c)
noncomputable def C8 : Rho → Option Bool:=fun _=>some true
theorem co3 : JTs X [] C8:=fun pins s σ H Q I ⟨ρ,b,e,H0,Hf,ss,sl,k⟩=>by
 cases e
 exact ck3 pins s σ H Q I (k H Hf (Grow.refl ss))
theorem co2 {e : Expr} {c : Rho → Option Bool} (h : JT X e c) : JTs X [e] c:=fun pins s σ H Q I ⟨ρ,b,e,H0,Hf,ss,sl,k⟩=>ck2 (h ρ b e) pins s σ H Q I ⟨H0,Hf,ss,sl,k⟩
theorem bw9 {K : PySem.W.Frag} {n : Nat} {caps : List Nat} {H0 H H1 H' Hf : Hp} {ρ : Rho} {σ : L2.St} (sl : Slots K H0 ρ σ H Hf) : Slots K H1 (ac0 n caps ρ) (aS7 n caps σ) H' Hf:=by
 have noown : ∀ (i : Nat) (ds : List D),(ac0 n caps ρ)[i]? ≠ some (some (.own ds)):=fun i ds h=>by
  unfold ac0 at h
  rcases Nat.lt_or_ge i n with q | q
  ·rw [List.getElem?_append_left (by simpa using q),List.getElem?_replicate,if_pos q] at h; cases h
  ·rw [List.getElem?_append_right (by simpa using q),List.getElem?_map] at h
   cases hj : caps[i - (List.replicate n (none : Option B)).length]? with
   | none=>rw [hj] at h; cases h
   | some j =>
    rw [hj] at h
    simp only [Option.map_some,Option.some.injEq] at h
    split at h <;> cases h
 refine ⟨by simp [ac0,aS7],fun i b e=>?_,fun i j ds es a h1=>(noown i ds h1).elim⟩
 unfold ac0 at e
 unfold aS7
 rcases Nat.lt_or_ge i n with q | q
 ·rw [List.getElem?_append_left (by simpa using q),List.getElem?_replicate,if_pos q] at e; cases e
 ·rw [List.getElem?_append_right (by simpa using q),List.getElem?_map] at e
  rw [List.getElem?_append_right (by simpa using q),List.getElem?_map]
  simp only [List.length_replicate] at e ⊢
  cases hj : caps[i - n]? with
  | none=>rw [hj] at e; cases e
  | some j =>
   rw [hj] at e
   simp only [Option.map_some,Option.some.injEq] at e ⊢
   split at e
   ·rename_i d hd
    cases e
    obtain ⟨v,h1,h2⟩:=sl.is j _ hd
    exact ⟨v,by rw [h1]; rfl,h2⟩
   ·cases e
theorem av9 {K : PySem.W.Frag} {n : Nat} {caps : List Nat} {ρ : Rho} {src : Rho → Option (List D)} {g : D → Rho → Option Rho} {c : Rho → Option Bool} {e : DE} {out : List D} (h : B8 n caps src g c e ρ = some out) :
  ∃ ds,src ρ = some ds ∧ ∀ σ H Q,tJ K ρ (fun H v H' Hf'=>∃ a vs,v = .ref a ∧ H a = none ∧ H' a = some (.lst vs) ∧ Hf' a = none ∧ Reps K Hf' out vs) σ H Q → bU0 n caps (tiJ K ρ ds) (tgJ K g) (aU0 K c) (bz9 K e) σ H Q:=by
 obtain ⟨ds,e1,e2⟩:=xbm h
 split at e2
 ·rename_i hz
  refine ⟨ds,e1,fun σ H Q ⟨H0,Hf,s,sl,k⟩=>⟨H0,Hf,s,sl,fun J H1 Hf1 g1 Y Dd hD=>?_⟩⟩
  refine ⟨fun i m ys σ' H'=>m = ds.length - i ∧ i ≤ ds.length ∧ ∃ Hf' ρ' o1 o2,Grow H1 Hf1 H' Hf' ∧ H' Dd = some (.lst ys) ∧ Hf' Dd = none ∧ Slots K (upd H1 Dd (.lst [])) ρ' σ' H' Hf' ∧ Reps K Hf' o1 ys ∧ o1.length ≤ i ∧ U7 g c e (ds.drop i) ρ' = some o2 ∧ o1 ++ o2 = out,
   ⟨ds.length,by simp,Nat.zero_le _,Hf1,ac0 n caps ρ,[],out,Grow.made g1.sub hD,C6,g1.sub.free hD,bw9 (sl.grow g1),rfl,Nat.le_refl _,by simpa using e2,rfl⟩,?_⟩
  rintro i m ys σ' H' ⟨rfl,hi,Hf',ρ',o1,o2,gr,hd1,hd2,sl',rp,ho,ec,eo⟩
  obtain ⟨Ys,Yg⟩:=Y i H' Hf' gr.ext gr.sub
  rcases Nat.lt_or_ge i ds.length with hlt | hge
  ·right
   obtain ⟨go,yl⟩:=Yg ds[i] (by simp [hlt])
   refine ⟨go,fun x H2 hy=>?_⟩
   obtain ⟨Hf2,g2,r2⟩:=yl x H2 hy
   rw [List.drop_eq_getElem_cons hlt] at ec
   obtain ⟨ρ1,c1,ec⟩:=xbm ec
   obtain ⟨b,c2,ec⟩:=xbm ec
   refine ⟨ds[i],ρ',ρ1,_,Hf2,c1,g2.sub,sl'.grow g2,r2,fun σ3 sl3=>⟨ρ1,b,c2,_,Hf2,g2.sub,sl3,fun H4 Hf4 g4=>?_⟩⟩
   have gr4:=(gr.trans g2).trans g4
   have hd4 : H4 Dd = some (.lst ys):=g4.big _ _ (g2.big _ _ hd1)
   have hf4 : Hf4 Dd = none:=(g2.trans g4).nofr hd1 hd2
   have rp4:=rp.mono (g2.trans g4).ext
   cases b with
   | false =>
    rw [if_neg Bool.false_ne_true] at ec
    refine aR9 ?_
    exact ⟨ds.length - (i + 1),by omega,rfl,hlt,Hf4,ρ1,o1,o2,gr4,hd4,hf4,sl3.grow g4,rp4,by omega,ec,eo⟩
   | true =>
    rw [if_pos rfl] at ec
    refine aR8 ?_
    obtain ⟨y,c3,ec⟩:=xbm ec
    obtain ⟨o3,c4,rfl⟩:=Option.map_eq_some_iff.mp ec
    refine ⟨ρ1,y,c3,_,Hf4,g4.sub,sl3.grow g4,fun v H5 Hf5 g5 r5=>⟨g5.big _ _ hd4,?_,?_⟩⟩
    ·rw [rp.length,sizeLine_eq]; omega
    ·have hf5 : Hf5 Dd = none:=g5.nofr hd4 hf4
     have gr5:=gr4.trans g5
     refine ⟨ds.length - (i + 1),by omega,rfl,hlt,Hf5,ρ1,o1 ++ [y],o3,⟨fun b u q=>?_,fun b u q=>?_,gr5.ext,gr5.new⟩,C6,hf5,?_,(rp4.mono g5.ext).append ⟨v,[],rfl,r5,rfl⟩,by simp; omega,c4,by simp [← eo]⟩
     ·rw [C7 (C9 q hD)]; exact gr5.big b u q
     ·rw [C7 (C9 q hf5)]; exact gr5.sub b u q
     ·have sl5:=(sl3.grow g4).grow g5
      refine ⟨sl5.len,fun j bb q=>?_,sl5.apart⟩
      obtain ⟨w,q1,q2⟩:=sl5.is j bb q
      refine ⟨w,q1,?_⟩
      cases bb with
      | val d=>exact q2
      | own dd =>
       obtain ⟨a,vs,z1,z2,z3,z4,z5⟩:=q2
       have ne : a ≠ Dd:=fun z=>by rw [z,C6] at z4; cases z4
       exact ⟨a,vs,z1,by rw [C7 ne]; exact z2,z3,z4,z5⟩
  ·left
   have : i = ds.length:=by omega
   subst this
   rw [List.drop_length] at ec
   cases ec
   rw [List.append_nil] at eo
   subst eo
   exact ⟨Ys (Nat.le_refl _),k _ H' Hf' (g1.trans gr) ⟨Dd,ys,rfl,g1.big.free hD,hd1,hd2,rp⟩⟩
 ·cases e2
end
end G
namespace G
open PySem PySem.Spec PyProof.Rows L2
section
variable {X : Cx}
noncomputable def aK6 (N N' : List Str) (n : Nat) (caps : List Nat) (sc scope : Scope) : Bool :=
 (match scope.kind with | .function=>true | _=>false) &&
 (scope.names.all fun y=>(match y.2 with | .cell=>false | .local=>scope.names.lookup y.1 == some .local | .free=>sc.names.lookup y.1 == some .cell || sc.names.lookup y.1 == some .free | _=>true)) &&
 (N'.length == n + caps.length) &&
 ((List.range caps.length).all fun i=>match caps[i]? with
  | some j=>(match N[j]? with | some x=>N'[n + i]? == some x && scope.names.lookup x == some .free | none=>false)
  | none=>true)
theorem bO2 {N N' : List Str} {n : Nat} {caps : List Nat} {sc scope : Scope} (h : aK6 N N' n caps sc scope = true) (hN : X.N = N) (hS : X.env.scope = sc) : CompSc X N' n caps scope:=by
 subst hN hS
 unfold aK6 at h
 simp only [Bool.and_eq_true,List.all_eq_true] at h
 obtain ⟨⟨⟨h1,h2⟩,h3⟩,h4⟩:=h
 refine ⟨?_,fun y hy e=>?_,fun y hy e=>?_,fun y hy e=>?_,by simpa using h3,fun i j e=>?_⟩
 ·cases q : scope.kind <;> rw [q] at h1 <;> first | rfl | cases h1
 ·have:=h2 y hy
  rw [e] at this; cases this
 ·have:=h2 y hy
  rw [e] at this; simpa using this
 ·have:=h2 y hy
  rw [e] at this; simpa using this
 ·have hi : i < caps.length:=(List.getElem?_eq_some_iff.mp e).1
  have:=h4 i (by simpa using hi)
  rw [e] at this
  simp only at this
  cases q : X.N[j]? with
  | none=>rw [q] at this; cases this
  | some x =>
   rw [q] at this
   simp only [Bool.and_eq_true] at this
   exact ⟨x,rfl,by simpa using this.1,by simpa using this.2⟩
theorem bE0 {N' : List Str} {n : Nat} {caps : List Nat} {scope : Scope} {pins : List (Addr × Obj)} {σ : L2.St} {H : Hp} {s : Shared} (S : CompSc X N' n caps scope) (I : Inv X pins σ H s) : closureFor scope X.env = pure (W5 X.env.cells scope.names []) :=
 cs6 fun y hy e=>I.ok.has y.1 (S.free y hy e)
theorem cp4 {N' : List Str} {n : Nat} {caps : List Nat} {scope : Scope} {elt tgt iter : Expr} {ifs : List Expr} {pos : Pos} {src : Rho → Option (List D)} {g : D → Rho → Option Rho} {c : Rho → Option Bool} {e : DE} (S : CompSc X N' n caps scope) (hx : ∀ e s,X.xe e s → False)
  (hi : JI X tgt iter src) (hg : ∀ C s0 H0 ex,JG (K9 X N' scope C s0 H0 ex) tgt g) (ht : ∀ C s0 H0 ex,JTs (K9 X N' scope C s0 H0 ex) ifs c) (he : ∀ C s0 H0 ex,JE (K9 X N' scope C s0 H0 ex) elt e)
  (hc : X.calm = true:=by rfl) (hs : ∀ x,foldedSetIterable iter X.env x = pure x:=by intro _; rfl) : JN X (.ListComp elt [⟨tgt,iter,ifs,0⟩] scope pos) (B8 n caps src g c e):=by
 intro ρ out h
 obtain ⟨ds,e1,k⟩:=av9 (K:=X.K) h
 intro pins s σ H Q I t
 rw [eval_ListComp]
 refine wpAny_comprehension_free (use:=none) rfl hs (bE0 S I) S.kind S.loc (bn5 (RR:=fun acc C=>compPost (model X.prog X.w) X.A X.xe none (EP X pins σ Q) acc C) S hx hc (hi ρ ds e1) (g:=tgJ X.K g) (tc:=aU0 X.K c) (te:=bz9 X.K e) hg ht (fun C s0 H0 ex pins s σ H Q I ⟨ρ,d,e,t⟩=>he C s0 H0 ex ρ d e pins s σ H Q I t) I (k σ H Q t) ?_)
 intro Dd C r s' hr ⟨m,hn,kk⟩ _
 subst hr
 exact ⟨m,hn,fun h' sb=>let ⟨H',I',q⟩:=kk h' sb; ⟨.ref Dd,H',I',rfl,q⟩⟩
theorem aM7 {N' : List Str} {n : Nat} {caps : List Nat} {scope : Scope} {elt tgt iter : Expr} {ifs : List Expr} {pos pos' spos : Pos} {i : Nat} {x : Str} {wi : TI} {g : TG} {tc : TT} {te : TE} (S : CompSc X N' n caps scope) (hx : ∀ e s,X.xe e s → False) (hc : X.calm = true)
  (hN : X.N.Nodup) (hi : X.N[i]? = some x) (hl : X.env.scope.names.lookup x = some .local) (hsrc : PI X tgt iter wi) (hg : ∀ C s0 H0 ex,PG (K9 X N' scope C s0 H0 ex) tgt g) (ht : ∀ C s0 H0 ex,PTs (K9 X N' scope C s0 H0 ex) ifs tc) (he : ∀ C s0 H0 ex,PE (K9 X N' scope C s0 H0 ex) elt te)
  (hsw : swapsWith (.ListComp elt [⟨tgt,iter,ifs,0⟩] scope pos) (some (.Name x pos')) spos.line X.env = pure true) (hs : ∀ x,foldedSetIterable iter X.env x = pure x) :
  PS X (.Assign [.Name x pos'] (.ListComp elt [⟨tgt,iter,ifs,0⟩] scope pos) spos) (fun En σ H=>bU0 n caps wi g tc te σ H fun v H'=>En.nx (σ.set i (some v)) H'):=by
 intro pins s σ H En I h
 rw [exec_Assign_Name_used _ _ _ _ hsw]
 refine wpAny_bind (wpAny_standAt (wpAny_bind ?_))
 show wpAny _ X.A (do let _ ← comprehension (.ListComp elt [⟨tgt,iter,ifs,0⟩] scope pos) scope X.env _ (newList []) false (eval iter X.env) (some (assign (.Name x pos') X.env))) _ _ s
 refine wpAny_bind (wpAny_mono (wpAny_comprehension_free (use:=some (assign (.Name x pos') X.env)) (Q:=fun _ s'=>SP X pins En .next s') rfl hs (bE0 S I) S.kind S.loc
  (bn5 (RR:=fun acc C=>compPost (model X.prog X.w) X.A X.xe (some (assign (.Name x pos') X.env)) (fun _ s'=>SP X pins En .next s') acc C) S hx hc hsrc hg ht he I h ?_)) (fun _ s' hq=>wpAny_pure (wpAny_pure hq)) fun _ _ z=>z)
 intro Dd C r s' hr _ ⟨s2,fp,σ',H2,H',eC,I2,f2,I',q⟩
 subst hr eC
 have IX : Inv X pins σ H' s':=aV9 (h':=s'.heap) I2 f2 I' (Heap.SameBut.refl ..)
 obtain ⟨mC,hnC,_⟩:=I'.loc
 have hCL : s2.heap.objs.size ≠ X.env.locals:=fun z=>by
  have:=I2.lt
  rw [← z] at this
  exact Nat.lt_irrefl _ this
 show wpAny _ X.A (assign (.Name x pos') X.env (.ref Dd)) _ _ _
 refine wpAny_assign_Name (aU2 (v:=.ref Dd) IX hN hi (.inl hl) rfl (fun s3 I3 ⟨a,sb,ha⟩=>?_) (.inr hl))
 have hCa : s2.heap.objs.size ≠ a:=fun z=>by
  rcases ha with ha | ha
  ·exact hCL (z.trans ha)
  ·obtain ⟨v,q'⟩:=I2.cell x a ha
   have:=q'.lt
   rw [← z] at this
   exact Nat.lt_irrefl _ this
 refine ⟨mC,hnC.sameBut sb hCa,fun h' sb'=>?_⟩
 refine ⟨_,H',I3.turned (t':=s3.toks) (it:=s2.heap.objs.size) (fun b o hb e=>sb'.extBut b o hb e) I'.free hCL (.inr I2.sz) (fun y c e z=>?_) (fun p hp z=>?_),q⟩
 ·obtain ⟨v,q'⟩:=I2.cell y c e
  have:=q'.lt
  rw [z] at this
  exact Nat.lt_irrefl _ this
 ·have:=Heap.lt_size (I2.pin p hp).1
  rw [z] at this
  exact Nat.lt_irrefl _ this
noncomputable def R0 (i : Nat) (f : Rho → Option (List D)) : DS:=fun ρ=>(f ρ).map fun ds=>.nx (ρ.set i (some (.val (.list ds))))
theorem co9 (i : Nat) {N' : List Str} {n : Nat} {caps : List Nat} {scope : Scope} {elt tgt iter : Expr} {ifs : List Expr} {pos pos' spos : Pos} {x : Str} {src : Rho → Option (List D)} {g : D → Rho → Option Rho} {c : Rho → Option Bool} {e : DE} (hN : X.N.Nodup) (S : CompSc X N' n caps scope) (hx : ∀ e s,X.xe e s → False)
  (hi : JI X tgt iter src) (hg : ∀ C s0 H0 ex,JG (K9 X N' scope C s0 H0 ex) tgt g) (ht : ∀ C s0 H0 ex,JTs (K9 X N' scope C s0 H0 ex) ifs c) (he : ∀ C s0 H0 ex,JE (K9 X N' scope C s0 H0 ex) elt e)
  (hi2 : X.N[i]? = some x:=by rfl) (hl : X.env.scope.names.lookup x = some .local:=by rfl) (hsw : swapsWith (.ListComp elt [⟨tgt,iter,ifs,0⟩] scope pos) (some (.Name x pos')) spos.line X.env = pure true:=by rfl)
  (hc : X.calm = true:=by rfl) (hs : ∀ x,foldedSetIterable iter X.env x = pure x:=by intro _; rfl) : JS X (.Assign [.Name x pos'] (.ListComp elt [⟨tgt,iter,ifs,0⟩] scope pos) spos) (R0 i (B8 n caps src g c e)):=fun ρ fl q H0 Hf0=>by
 obtain ⟨out,e1,e2⟩:=Option.map_eq_some_iff.mp q
 subst e2
 obtain ⟨ds,e3,k⟩:=av9 (K:=X.K) e1
 refine U0 (aM7 S hx hc hN hi2 hl (hi ρ ds e3) (g:=tgJ X.K g) (tc:=aU0 X.K c) (te:=bz9 X.K e) hg ht (fun C s0 H0 ex pins s σ H Q I ⟨ρ,d,e,t⟩=>he C s0 H0 ex ρ d e pins s σ H Q I t) hsw hs) fun En σ H ⟨Hf,a,ee⟩=>k σ H _ ⟨H0,Hf,a.gr.sub,a.sl,fun v H' Hf' gg ⟨p,vs,z1,z2,z3,z4,z5⟩=>?_⟩
 subst z1
 have g2:=gg.freeze z3 z4 z2
 exact ee _ H' _ ⟨a.gr.trans g2,(a.sl.grow g2).set ⟨p,vs,rfl,SqL.of C6,z5.mono (G0 z4)⟩⟩ g2.ext
theorem cL3 {i j : Nat} {x y : Str} {a b : Expr} {f : Rho → Option (List D)} {px py pt : Pos} {kt k2 pt2} {pos : Pos} (hN : X.N.Nodup) (ha : JA X [a,b] f) (hw : swappedStores [.Tuple [.Name x px,.Name y py] kt pt] (.Tuple [a,b] k2 pt2) X.env = pure (some [x,y])) (hij : i ≠ j)
  (hi : X.N[i]? = some x:=by rfl) (hj : X.N[j]? = some y:=by rfl) (hx : X.env.scope.names.lookup x = some .local:=by rfl) (hy : X.env.scope.names.lookup y = some .local:=by rfl) (hc : X.calm = true:=by rfl)
  (hs : swapsWithSole [.Tuple [.Name x px,.Name y py] kt pt] (.Tuple [a,b] k2 pt2) pos.line X.env = pure false:=by rfl) : JS X (.Assign [.Tuple [.Name x px,.Name y py] kt pt] (.Tuple [a,b] k2 pt2) pos) (bV0 i j f):=fun ρ fl q H0 Hf0=>by
 obtain ⟨ds,e1,e2⟩:=xbm q
 split at e2
 ·cases e2
  refine U0 (cG0 hc hN hi hj hij hx hy (fun pos pins s σ H Q I t=>ha.run ρ _ e1 pos pins s σ H Q I t) hw hs) fun En σ H ⟨Hf,at',e⟩=>⟨H0,Hf,at'.gr.sub,at'.sl,fun vs H' Hf' gg rp=>?_⟩
  obtain ⟨v,r,rfl,r1,w,r',rfl,r2,r3⟩:=rp
  cases r3
  exact ⟨v,w,rfl,e _ H' Hf' ⟨at'.gr.trans gg,((at'.sl.grow gg).set r1).set r2⟩ gg.ext⟩
 ·cases e2
noncomputable def ab6 (f : DE) (g : D → Rho → Option Rho) : DS:=fun ρ=>(f ρ).bind fun d=>(g d ρ).map Fl.nx
theorem ca5 {tg e : Expr} {f : DE} {g : D → Rho → Option Rho} {pos : Pos} (he : JE X e f) (hg : JG X tg g) (hs : swapsWithSole [tg] e pos.line X.env = pure false:=by rfl) (hw : swappedStores [tg] e X.env = pure none:=by rfl)
  (h1 : (assignEach [tg] X.env).map (·.2) = [assign tg X.env]:=by rfl) : JS X (.Assign [tg] e pos) (ab6 f g):=fun ρ fl q H0 Hf0=>by
 obtain ⟨d,e1,e2⟩:=xbm q
 obtain ⟨ρ',e3,e4⟩:=Option.map_eq_some_iff.mp e2
 subst e4
 exact U0 (cG2 (he ρ d e1) hg hs hw h1) fun En σ H ⟨Hf,a,ee⟩=>⟨H0,Hf,a.gr.sub,a.sl,fun v H' Hf' gg r=>⟨d,ρ,ρ',H0,Hf',e3,gg.sub,a.sl.grow gg,r,fun σ' sl'=>ee σ' H' Hf' ⟨a.gr.trans gg,sl'⟩ gg.ext⟩⟩
noncomputable def ae0 (i : Nat) (f : Rho → Option (List D)) : DS:=fun ρ=>(f ρ).map fun ds=>.nx (ρ.set i (some (.own ds)))
theorem Slots.setOwn {K : PySem.W.Frag} {H0 H H' Hf Hf' : Hp} {ρ : Rho} {σ : L2.St} {i : Nat} {ds : List D} {a : Addr} {vs : List V} (s : Slots K H0 ρ σ H Hf) (g : Grow H Hf H' Hf') (n0 : H0 a = none) (n : H a = none) (h : H' a = some (.lst vs)) (nf : Hf' a = none) (r : Reps K Hf' ds vs) :
  Slots K H0 (ρ.set i (some (.own ds))) (σ.set i (some (.ref a))) H' Hf':=by
 have s':=s.grow g
 have old : ∀ (j : Nat) (es : List D),i ≠ j → ρ[j]? = some (some (.own es)) → σ[j]? ≠ some (some (.ref a)):=fun j es hj e z=>by
  obtain ⟨v,h1,b,us,e1,h2,_⟩:=s.is j _ e
  rw [z] at h1; cases h1; cases e1
  rw [n] at h2; cases h2
 refine ⟨by simp [s.len],fun j b e=>?_,fun j k ds1 es b h1 h2 h3 h4=>?_⟩
 ·by_cases q : i = j
  ·subst q
   have hi : i < ρ.length:=by simpa using (List.getElem?_eq_some_iff.mp e).1
   have hi' : i < σ.length:=by rw [← s.len]; exact hi
   rw [List.getElem?_set_self hi] at e
   cases e
   exact ⟨_,List.getElem?_set_self hi',a,vs,rfl,h,nf,n0,r⟩
  ·rw [List.getElem?_set_ne q] at e
   obtain ⟨u,h1,h2⟩:=s'.is j b e
   exact ⟨u,by rw [List.getElem?_set_ne q]; exact h1,h2⟩
 ·by_cases qj : i = j
  ·by_cases qk : i = k
   ·rw [← qj,← qk]
   ·subst qj
    have hi : i < ρ.length:=by simpa using (List.getElem?_eq_some_iff.mp h1).1
    rw [List.getElem?_set_self (by rw [← s.len]; exact hi)] at h3
    rw [List.getElem?_set_ne qk] at h2 h4
    cases h3
    exact (old k es qk h2 h4).elim
  ·rw [List.getElem?_set_ne qj] at h1 h3
   by_cases qk : i = k
   ·subst qk
    have hi : i < ρ.length:=by simpa using (List.getElem?_eq_some_iff.mp h2).1
    rw [List.getElem?_set_self (by rw [← s.len]; exact hi)] at h4
    cases h4
    exact (old j ds1 qj h1 h3).elim
   ·rw [List.getElem?_set_ne qk] at h2 h4
    exact s.apart j k ds1 es b h1 h2 h3 h4
theorem cL4 (i : Nat) {x : Str} {e : Expr} {f : Rho → Option (List D)} {pos pos' : Pos} (hN : X.N.Nodup) (h : JN X e f) (hi : X.N[i]? = some x:=by rfl) (hx : Loc X.env.scope x:=by first | exact Or.inl rfl | exact Or.inr rfl)
  (hs : swapsWith e (some (.Name x pos')) pos.line X.env = pure false:=by rfl) (hf : X.fn x = true ∨ X.env.scope.names.lookup x = some .local:=by first | exact .inl rfl | exact .inr rfl) : JS X (.Assign [.Name x pos'] e pos) (ae0 i f):=fun ρ fl q H0 Hf0=>by
 obtain ⟨ds,e1,e2⟩:=Option.map_eq_some_iff.mp q
 subst e2
 refine U0 (bV8 hN hi hx (h ρ ds e1) hs hf) fun En σ H ⟨Hf,a,e⟩=>⟨H0,Hf,a.gr.sub,a.sl,fun v H' Hf' g ⟨p,vs,z1,z2,z3,z4,z5⟩=>?_⟩
 subst z1
 exact e _ H' Hf' ⟨a.gr.trans g,a.sl.setOwn g (a.gr.big.free z2) z2 z3 z4 z5⟩ g.ext
noncomputable def i9 (i : Nat) (f : DE) : DS:=fun ρ=>match ρ[i]? with
 | some (some (.own ds))=>if ds.length < 16777216 then (f ρ).map fun d=>.nx (ρ.set i (some (.own (ds ++ [d])))) else none
 | _=>none
theorem cL9 (i : Nat) {x : Str} {e : Expr} {f : DE} {p apos cpos pos : Pos} (h : JE X e f) (hN : X.N[i]? = some x:=by rfl) (hv : Vis X.env.scope x:=by first | exact Or.inl rfl | exact Or.inr (Or.inl rfl) | exact Or.inr (Or.inr rfl)) (hd : (x == ("__debug__" : Str)) = false:=by decide)
  (hcd : (x == ("__classdict__" : Str)) = false:=by decide) (hbase : attributeBase (.Name x p) "append" X.env (eval (.Name x p) X.env) = eval (.Name x p) X.env:=by rfl)
  (hfew : ((backTo cpos (starEach [e] X.env)).all (fun x=>!x.1) && (backToKw cpos (keywordEach [] X.env)).all (fun x=>x.1.isSome)
   && decide (([e] : List Expr).length + ([] : List Keyword).length + (if ([] : List Keyword).isEmpty then 0 else 1) < 30)) = true:=by rfl)
  (hline : (apos.endLine == cpos.line) = true:=by rfl) (hs : starEach [e] X.env = [(false,eval e X.env)]:=by rfl) (hsw : swapsWith (.Call (.Attribute (.Name x p) "append" apos) [e] [] cpos) none pos.line X.env = pure false:=by rfl) :
  JS X (.Expr (.Call (.Attribute (.Name x p) "append" apos) [e] [] cpos) pos) (i9 i f):=fun ρ fl q H0 Hf0=>by
 unfold i9 at q
 split at q
 ·rename_i ds eo
  split at q
  ·rename_i hz
   obtain ⟨d,e1,e2⟩:=Option.map_eq_some_iff.mp q
   subst e2
   refine U0 (ba4 (bB0 PySem.F.plainAttrs_list PySem.F.slot_list_append PySem.F.type_list_append aU8 (au7 hN hv hd hcd) (F7 (h ρ d e1) O9 hs) hbase hfew hline hs) hsw) fun En σ H ⟨Hf,a,ee⟩=>?_
   obtain ⟨v,h1,b,vs,rfl,h2,h3,h4,h5⟩:=a.sl.is i _ eo
   refine ⟨_,h1,.inl ⟨rfl,vs,SqL.of h2⟩,H0,Hf,a.gr.sub,a.sl,fun w H' Hf' gg r=>?_⟩
   have hb : H' b = some (.lst vs):=gg.big _ _ h2
   have hfb : Hf' b = none:=gg.nofr h2 h3
   have g2:=a.gr.trans gg
   have sl2:=a.sl.grow gg
   refine ⟨b,vs,w,rfl,rfl,hb,by rw [h5.length,sizeLine_eq]; exact hz,ee _ _ Hf' ⟨⟨fun c u z=>?_,fun c u z=>?_,g2.ext,g2.new⟩,?_⟩ gg.ext⟩
   ·rw [C7 (C9 z h4)]; exact g2.big c u z
   ·rw [C7 (C9 z hfb)]; exact g2.sub c u z
   ·refine ⟨by simpa using sl2.len,fun j bb z=>?_,fun j k ds1 es c q1 q2 q3 q4=>?_⟩
    ·by_cases qj : i = j
     ·subst qj
      have hi : i < ρ.length:=(List.getElem?_eq_some_iff.mp eo).1
      rw [List.getElem?_set_self hi] at z
      cases z
      exact ⟨_,h1,b,vs ++ [w],rfl,C6,hfb,h4,(h5.mono gg.ext).append ⟨w,[],rfl,r,rfl⟩⟩
     ·rw [List.getElem?_set_ne qj] at z
      obtain ⟨u,z1,z2⟩:=sl2.is j bb z
      refine ⟨u,z1,?_⟩
      cases bb with
      | val d=>exact z2
      | own dd =>
       obtain ⟨a',vs',y1,y2,y3,y4,y5⟩:=z2
       have ne : a' ≠ b:=fun zz=>by
        subst zz y1
        exact qj (a.sl.apart i j ds dd a' eo z h1 z1)
       exact ⟨a',vs',y1,by rw [C7 ne]; exact y2,y3,y4,y5⟩
    ·have q1' : ∃ dd,ρ[j]? = some (some (.own dd)):=by
      by_cases qj : i = j
      ·subst qj; exact ⟨ds,eo⟩
      ·rw [List.getElem?_set_ne qj] at q1; exact ⟨_,q1⟩
     have q2' : ∃ dd,ρ[k]? = some (some (.own dd)):=by
      by_cases qj : i = k
      ·subst qj; exact ⟨ds,eo⟩
      ·rw [List.getElem?_set_ne qj] at q2; exact ⟨_,q2⟩
     obtain ⟨d1,q1'⟩:=q1'
     obtain ⟨d2,q2'⟩:=q2'
     exact a.sl.apart j k d1 d2 c q1' q2' q3 q4
  ·cases q
 ·cases q
noncomputable def frz (i : Nat) (ρ : Rho) : Rho:=match ρ[i]? with
 | some (some (.own ds))=>ρ.set i (some (.val (.list ds)))
 | _=>ρ
theorem cP4 {K : PySem.W.Frag} {H0 Hf0 H Hf : Hp} {ρ : Rho} {σ : L2.St} (i : Nat) (a : At K H0 Hf0 ρ σ H Hf) : ∃ Hf',L3 Hf Hf' ∧ At K H0 Hf0 (frz i ρ) σ H Hf':=by
 unfold frz
 split
 ·rename_i ds eo
  obtain ⟨v,h1,b,vs,rfl,h2,h3,h4,h5⟩:=a.sl.is i _ eo
  have g : Grow H0 Hf0 H (upd Hf b (.lst vs)):=a.gr.freeze h2 h3 h4
  refine ⟨upd Hf b (.lst vs),G0 h3,g,⟨by simpa using a.sl.len,fun j bb z=>?_,fun j k ds1 es c q1 q2 q3 q4=>?_⟩⟩
  ·have hi : i < ρ.length:=(List.getElem?_eq_some_iff.mp eo).1
   by_cases qj : i = j
   ·subst qj
    rw [List.getElem?_set_self hi] at z
    cases z
    exact ⟨_,h1,b,vs,rfl,SqL.of C6,h5.mono (G0 h3)⟩
   ·rw [List.getElem?_set_ne qj] at z
    obtain ⟨u,z1,z2⟩:=a.sl.is j bb z
    refine ⟨u,z1,?_⟩
    cases bb with
    | val d=>exact Rep.mono (G0 h3) z2
    | own dd =>
     obtain ⟨a',vs',y1,y2,y3,y4,y5⟩:=z2
     have ne : a' ≠ b:=fun zz=>by
      subst zz y1
      exact qj (a.sl.apart i j ds dd a' eo z h1 z1)
     exact ⟨a',vs',y1,y2,by rw [C7 ne]; exact y3,y4,y5.mono (G0 h3)⟩
  ·have hi : i < ρ.length:=(List.getElem?_eq_some_iff.mp eo).1
   have qj : i ≠ j:=fun z=>by subst z; rw [List.getElem?_set_self hi] at q1; cases q1
   have qk : i ≠ k:=fun z=>by subst z; rw [List.getElem?_set_self hi] at q2; cases q2
   rw [List.getElem?_set_ne qj] at q1
   rw [List.getElem?_set_ne qk] at q2
   exact a.sl.apart j k ds1 es c q1 q2 q3 q4
 ·exact ⟨Hf,L3.refl _,a⟩
noncomputable def aG8 (i : Nat) (f : DS) : DS:=fun ρ=>f (frz i ρ)
theorem cL5 (i : Nat) {st : Stmt} {f : DS} (h : JS X st f) : JS X st (aG8 i f):=fun ρ fl q H0 Hf0=>U0 (h (frz i ρ) fl q H0 Hf0) fun En σ H ⟨Hf,a,e⟩=>by
 obtain ⟨Hf',s,a'⟩:=cP4 i a
 exact ⟨Hf',a',Fl.ends_mono e s⟩
noncomputable def cT0 (K : PySem.W.Frag) (H0 Hf0 : Hp) (f : DS) : TS:=fun En σ H=>∃ ρ fl,f ρ = some fl ∧ tJS K H0 Hf0 ρ fl En σ H
theorem bA7 {sts : List Stmt} {f : DS} {H0 Hf0 : Hp} (h : JSs X sts f) : PSs X sts (cT0 X.K H0 Hf0 f):=fun pins s σ H En I ⟨ρ,fl,e,t⟩=>h ρ fl e H0 Hf0 pins s σ H En I t
theorem cF8 {e : Expr} {c : Rho → Option Bool} (h : JT X e c) : PT X e (aU0 X.K c):=fun pins s σ H Q I ⟨ρ,b,e,t⟩=>h ρ b e pins s σ H Q I t
noncomputable def o6 (t : Rho → Option Bool) (f : DS) : Nat → DS
 | 0=>fun _=>none
 | n + 1=>fun ρ=>(t ρ).bind fun c=>if c then (f ρ).bind fun fl=>match fl with
   | .nx ρ'=>o6 t f n ρ'
   | .ct ρ'=>o6 t f n ρ'
   | .bk ρ'=>some (.nx ρ')
   | .rt d=>some (.rt d)
  else some (.nx ρ)
theorem av4 {t : Rho → Option Bool} {f : DS} : ∀ {n : Nat} {ρ : Rho} {fl : Fl},o6 t f n ρ = some fl → o6 t f (n + 1) ρ = some fl
 | 0,_,_,h=>by cases h
 | n + 1,ρ,fl,h=>by
  obtain ⟨c,e1,h⟩:=xbm h
  show (t ρ).bind _ = _
  rw [e1]
  cases c with
  | false=>exact h
  | true =>
   obtain ⟨fl1,e2,h⟩:=xbm h
   show (f ρ).bind _ = _
   rw [e2]
   cases fl1 with
   | nx ρ'=>exact av4 (n:=n) h
   | ct ρ'=>exact av4 (n:=n) h
   | bk ρ'=>exact h
   | rt d=>exact h
theorem bl5 {t : Rho → Option Bool} {f : DS} {n m : Nat} {ρ : Rho} {fl : Fl} (h : o6 t f n ρ = some fl) (l : n ≤ m) : o6 t f m ρ = some fl:=by
 induction l with
 | refl=>exact h
 | step _ ih=>exact av4 ih
open Classical in
noncomputable def ah2 (t : Rho → Option Bool) (f : DS) : DS:=fun ρ=>if h : ∃ fl n,o6 t f n ρ = some fl then some h.choose else none
theorem aU4 {t : Rho → Option Bool} {f : DS} {n : Nat} {ρ : Rho} {fl : Fl} (h : o6 t f n ρ = some fl) : ah2 t f ρ = some fl:=by
 have hx : ∃ fl n,o6 t f n ρ = some fl:=⟨fl,n,h⟩
 unfold ah2
 rw [dif_pos hx]
 obtain ⟨m,hm⟩:=hx.choose_spec
 have h1:=bl5 h (Nat.le_max_left n m)
 have h2:=bl5 hm (Nat.le_max_right n m)
 rw [h1] at h2
 exact h2.symm
theorem bH0 {t : Rho → Option Bool} {f : DS} {ρ : Rho} {fl : Fl} (h : ah2 t f ρ = some fl) : ∃ n,o6 t f n ρ = some fl:=by
 unfold ah2 at h
 split at h
 ·rename_i hx
  cases h
  exact hx.choose_spec
 ·cases h
theorem ca3 {c : Expr} {body : List Stmt} {t : Rho → Option Bool} {f : DS} {pos : Pos} (hc : JT X c t) (hb : JSs X body f) (hp : PassesOwn (model X.prog X.w) X.A X.env X.xe:=by exact PassesOwn.never) : JS X (.While c body [] pos) (ah2 t f):=fun ρ fl q H0 Hf0=>by
 obtain ⟨n,hn⟩:=bH0 q
 refine U0 (bV7 hp (cF8 hc) (bA7 (H0:=H0) (Hf0:=Hf0) hb)) fun En σ H ⟨Hf,a,e⟩=>?_
 refine ⟨fun m σ H=>∃ Hf' ρ',At X.K H0 Hf0 ρ' σ H Hf' ∧ L3 Hf Hf' ∧ o6 t f m ρ' = some fl,⟨n,Hf,ρ,a,L3.refl _,hn⟩,?_⟩
 rintro m σ' H' ⟨Hf',ρ',a',s',hm⟩
 cases m with
 | zero=>cases hm
 | succ m =>
  obtain ⟨b,e1,hm⟩:=xbm hm
  refine ⟨ρ',b,e1,H0,Hf',a'.gr.sub,a'.sl,fun H2 Hf2 g2=>?_⟩
  have a2:=a'.grow g2
  have s2:=s'.trans g2.ext
  cases b with
  | false =>
   have : fl = .nx ρ':=by simpa using hm.symm
   subst this
   exact aR9 (e σ' H2 Hf2 a2 s2)
  | true =>
   obtain ⟨fl1,e2,hm⟩:=xbm (show (f ρ').bind _ = some fl from hm)
   refine aR8 ⟨fun σ3 H3=>∃ m',m' < m + 1 ∧ ∃ Hf' ρ',At X.K H0 Hf0 ρ' σ3 H3 Hf' ∧ L3 Hf Hf' ∧ o6 t f m' ρ' = some fl,fun σ3 H3 z=>z,ρ',fl1,e2,Hf2,a2,?_⟩
   cases fl1 with
   | nx ρ3=>exact fun σ3 H3 Hf3 a3 s3=>⟨m,Nat.lt_succ_self _,Hf3,ρ3,a3,s2.trans s3,hm⟩
   | ct ρ3=>exact fun σ3 H3 Hf3 a3 s3=>⟨m,Nat.lt_succ_self _,Hf3,ρ3,a3,s2.trans s3,hm⟩
   | bk ρ3 =>
    cases hm
    exact fun σ3 H3 Hf3 a3 s3=>e σ3 H3 Hf3 a3 (s2.trans s3)
   | rt d =>
    cases hm
    exact e
noncomputable def ab8 (g : D → Rho → Option Rho) (f : DS) : List D → DS
 | []=>fun ρ=>some (.nx ρ)
 | d :: ds=>fun ρ=>(g d ρ).bind fun ρ1=>(f ρ1).bind fun fl=>match fl with
   | .nx ρ'=>ab8 g f ds ρ'
   | .ct ρ'=>ab8 g f ds ρ'
   | .bk ρ'=>some (.nx ρ')
   | .rt d=>some (.rt d)
noncomputable def U4 (src : Rho → Option (List D)) (g : D → Rho → Option Rho) (f : DS) : DS:=fun ρ=>(src ρ).bind fun ds=>ab8 g f ds ρ
theorem cL6 {tg iter : Expr} {body : List Stmt} {src : Rho → Option (List D)} {g : D → Rho → Option Rho} {f : DS} {pos : Pos} (hi : JI X tg iter src) (hg : JG X tg g) (hb : JSs X body f) (hp : PassesOwn (model X.prog X.w) X.A X.env X.xe:=by exact PassesOwn.never) (hc : X.calm = true:=by rfl)
  (hs : ∀ x,foldedSetIterable iter X.env x = pure x:=by intro _; rfl) : JS X (.For tg iter body [] pos) (U4 src g f):=fun ρ fl q H0 Hf0=>by
 obtain ⟨ds,e1,e2⟩:=xbm q
 refine U0 (cG1 hp hc (hi ρ ds e1) hg (bA7 (H0:=H0) (Hf0:=Hf0) hb) hs) fun En σ H ⟨Hf,a,e⟩=>⟨H0,Hf,a.gr.sub,a.sl,fun J H1 Hf1 g1 Y=>?_⟩
 refine ⟨fun i m σ H=>m = ds.length - i ∧ i ≤ ds.length ∧ ∃ Hf' ρ',At X.K H0 Hf0 ρ' σ H Hf' ∧ L3 Hf1 Hf' ∧ ab8 g f (ds.drop i) ρ' = some fl,⟨ds.length,by simp,Nat.zero_le _,Hf1,ρ,a.grow g1,L3.refl _,by simpa using e2⟩,?_⟩
 rintro i m σ' H' ⟨rfl,hi,Hf',ρ',a',s',hm⟩
 obtain ⟨Ys,Yg⟩:=Y i H' Hf' s' a'.gr.sub
 rcases Nat.lt_or_ge i ds.length with hlt | hge
 ·right
  obtain ⟨go,yl⟩:=Yg ds[i] (by simp [hlt])
  rw [List.drop_eq_getElem_cons hlt] at hm
  obtain ⟨ρ1,c1,hm⟩:=xbm hm
  obtain ⟨fl1,c2,hm⟩:=xbm hm
  refine ⟨go,fun σ3 H3=>∃ m',m' < ds.length - i ∧ m' = ds.length - (i + 1) ∧ i + 1 ≤ ds.length ∧ ∃ Hf' ρ',At X.K H0 Hf0 ρ' σ3 H3 Hf' ∧ L3 Hf1 Hf' ∧ ab8 g f (ds.drop (i + 1)) ρ' = some fl,fun σ3 H3 ⟨m',z1,z2⟩=>⟨m',z1,z2⟩,fun x H2 hy=>?_⟩
  obtain ⟨Hf2,g2,r2⟩:=yl x H2 hy
  have a2:=a'.grow g2
  refine ⟨ds[i],ρ',ρ1,H0,Hf2,c1,g2.sub,a2.sl,r2,fun σ3 sl3=>⟨ρ1,fl1,c2,Hf2,⟨a2.gr,sl3⟩,?_⟩⟩
  have s2:=s'.trans g2.ext
  cases fl1 with
  | nx ρ3=>exact fun σ3 H3 Hf3 a3 s3=>⟨_,by omega,rfl,hlt,Hf3,ρ3,a3,s2.trans s3,hm⟩
  | ct ρ3=>exact fun σ3 H3 Hf3 a3 s3=>⟨_,by omega,rfl,hlt,Hf3,ρ3,a3,s2.trans s3,hm⟩
  | bk ρ3 =>
   cases hm
   exact fun σ3 H3 Hf3 a3 s3=>e σ3 H3 Hf3 a3 (g1.ext.trans (s2.trans s3))
  | rt d =>
   cases hm
   exact e
 ·left
  have : i = ds.length:=by omega
  subst this
  rw [List.drop_length] at hm
  cases hm
  exact ⟨Ys (Nat.le_refl _),e σ' H' Hf' a' (g1.ext.trans s')⟩
theorem co6 {pos : Pos} : JS X (.Pass pos) C1:=fun ρ fl q H0 Hf0=>by
 cases q
 exact U0 ck7 fun En σ H ⟨Hf,a,e⟩=>e σ H Hf a (L3.refl _)
theorem cL8 {pos : Pos} : JS X (.Break pos) (fun ρ=>some (.bk ρ)):=fun ρ fl q H0 Hf0=>by
 cases q
 exact U0 bV9 fun En σ H ⟨Hf,a,e⟩=>e σ H Hf a (L3.refl _)
end
noncomputable def aA7 (n : Nat) (ds : List D) : Rho:=ds.map (fun d=>some (B.val d)) ++ List.replicate (n - ds.length) none
noncomputable def C4 (g : DS) (n : Nat) : List D → Option D:=fun ds=>(g (aA7 n ds)).bind fun fl=>match fl with
 | .rt d=>some d
 | .nx _=>some .none
 | _=>none
theorem bh6 {K : PySem.W.Frag} {H0 H Hf : Hp} {N : List Str} {ds : List D} {vs : List V} (r : Reps K Hf ds vs) : Slots K H0 (aA7 N.length ds) (L2.ae8 N vs) H Hf:=by
 have hl:=r.length
 have noown : ∀ (i : Nat) (b : B),(aA7 N.length ds)[i]? = some (some b) → ∃ d,ds[i]? = some d ∧ b = .val d:=fun i b h=>by
  unfold aA7 at h
  rcases Nat.lt_or_ge i ds.length with q | q
  ·rw [List.getElem?_append_left (by simpa using q),List.getElem?_map] at h
   rw [List.getElem?_eq_getElem q] at h ⊢
   simp only [Option.map_some,Option.some.injEq] at h
   exact ⟨ds[i],rfl,h.symm⟩
  ·rw [List.getElem?_append_right (by simpa using q),List.getElem?_replicate] at h
   split at h <;> cases h
 refine ⟨by simp [aA7,L2.ae8,hl],fun i b e=>?_,fun i j d1 d2 a e1 _ _ _=>?_⟩
 ·obtain ⟨d,h1,h2⟩:=noown i b e
  subst h2
  obtain ⟨v,h3,h4⟩:=r.get h1
  refine ⟨v,?_,h4⟩
  have hi : i < vs.length:=(List.getElem?_eq_some_iff.mp h3).1
  unfold L2.ae8
  rw [List.getElem?_append_left (by simpa using hi),List.getElem?_map,h3]; rfl
 ·obtain ⟨d,_,h2⟩:=noown i _ e1
  cases h2
theorem cr5 {P : Program} {w : World} {K : PySem.W.Frag} {mg : Str → Option Value} {base : Heap} {x qual : Str} {st : Stmt} {f : Addr} {fd : FuncData} {N ps : List Str} {k : Nat} {g : DS} (F : Fun K x qual st f fd) (S : FnScope N ps (N3 st))
  (hb : ∀ (cdv : Value) (A : Around) (outer : List Env) (s : Shared) (H : Hp) (E : XK),Room k (A.deeper (envOfC qual (N3 st) s.heap.objs.size f cdv)) → JSs (bw5 CX0 P w K mg base N qual (N3 st) f cdv A outer s H E).nox (X4 st) g) :
  FnOk P w K mg base CX0 (k + 1) f fd ps (spF K ps.length (C4 g N.length)):=by
 refine F.ok S (fun vs H Q E h=>h.1) fun cdv A outer s H vs Q E hr hsp=>?_
 obtain ⟨hlen,Hf,ds,d,ss,rp,e,kk⟩:=hsp
 obtain ⟨fl,e1,e2⟩:=xbm e
 refine ⟨_,hb cdv A outer s H E hr _ fl e1 H Hf,Hf,⟨Grow.refl ss,bh6 rp⟩,?_⟩
 cases fl with
 | rt d'=>cases e2; exact fun v H' Hf' g r=>kk v H' Hf' g r
 | nx ρ=>cases e2; exact fun σ' H' Hf' a _=>kk _ H' Hf' a.gr rfl
 | bk ρ=>cases e2
 | ct ρ=>cases e2
end G
namespace G
open PySem PySem.Spec PyProof.Rows L2
noncomputable def SIt : Bool → Heap → Addr → Addr → Nat → Prop
 | true=>Heap.IsTupleIter
 | false=>Heap.IsListIter
noncomputable def SSq : Bool → Heap → Addr → Array Value → Prop
 | true=>Heap.IsTuple
 | false=>Heap.IsList
section
variable {prog : Program} {w : World} {A : Around} {E : Value → Shared → Prop} {s : Shared} {t t1 t2 : Bool}
theorem SIt.ext {h h' : Heap} {it l : Addr} {k : Nat} (x : SIt t h it l k) (e : ∀ o,h.get? it = some o → h'.get? it = some o) : SIt t h' it l k:=by
 cases t with
 | true=>obtain ⟨o,ho,r⟩:=x; exact ⟨o,e o ho,r⟩
 | false=>obtain ⟨o,ho,r⟩:=x; exact ⟨o,e o ho,r⟩
theorem SSq.ext {h h' : Heap} {l : Addr} {xs : Array Value} (x : SSq t h l xs) (e : ∀ o,h.get? l = some o → h'.get? l = some o) : SSq t h' l xs:=by
 cases t with
 | true=>obtain ⟨o,ho,r⟩:=x; exact ⟨o,e o ho,r⟩
 | false=>obtain ⟨o,ho,r⟩:=x; exact ⟨o,e o ho,r⟩
theorem SIt.lt {h : Heap} {it l : Addr} {k : Nat} (x : SIt t h it l k) : it < h.objs.size:=by
 cases t with
 | true=>obtain ⟨o,ho,_⟩:=x; exact Heap.lt_size ho
 | false=>obtain ⟨o,ho,_⟩:=x; exact Heap.lt_size ho
theorem bq3 {it l : Addr} {k : Nat} {xs : Array Value} {x : Value} {Q : Value → Shared → Prop} (hit : s.heap.IsTupleIter it l k) (hl : s.heap.IsTuple l xs) (hx : xs[k]? = some x)
  (hQ : ∀ h',h'.IsTupleIter it l (k + 1) → Heap.SameBut it s.heap h' → Q x { s with heap:=h' }) : wpAny (model prog w) A (Builtin.SmallTypes.nextOf (.ref it)) Q E s:=by
 obtain ⟨o,ho,hc,hd⟩:=id hit; obtain ⟨ol,hol,_,nl,hdl⟩:=hl; unfold Builtin.SmallTypes.nextOf
 refine wpAny_bind (wpAny_callSpecial?_slot (name:=Str.ofString "__next__") hit.typeIs F.slot_tuple_iterator_next (wpAny_call_entry F.slot_tuple_iterator_next hit.typeIs F.entry_tuple_iterator_next ?_ (F.args_tuple_iterator_next_1 _)))
 show wpAny _ _ (field (.ref it) 0 >>= _) _ _ s; refine wpAny_bind (wpAny_field ho hd (x:=.ref l) rfl ?_); show wpAny _ _ (if (Value.ref l == Value.none) = true then _ else _) _ _ s
 rw [if_neg (show ¬ ((Value.ref l == Value.none) = true) from Bool.false_ne_true)]; show wpAny _ _ (field (.ref it) 1 >>= _) _ _ s
 refine wpAny_bind (wpAny_field ho hd (x:=.int k 0) rfl ?_); show wpAny _ _ (seqItems? (.ref l) >>= _) _ _ s; refine wpAny_bind (wpAny_seqItems hol hdl ?_); simp only [Int.toNat_natCast,hx]
 refine wpAny_bind (wpAny_setField ho hd (by simp) (wpAny_pure ⟨x,rfl,wpAny_pure (hQ _ ⟨_,Heap.get?_update_self _ ho (Obj.isFreed_of_fields (Obj.data_mapFields hd _)),(Obj.cls_mapFields ..).trans hc,?_⟩ (Heap.SameBut.update ..))⟩))
 rw [Obj.data_mapFields hd]; simp [rawInt]
theorem bF7 {it l : Addr} {k : Nat} {xs : Array Value} {Q : Value → Shared → Prop} (hh : A.handled = none) (hit : s.heap.IsTupleIter it l k) (hl : s.heap.IsTuple l xs) (hx : xs[k]? = none)
  (hE : ∀ h' e,Heap.ExtBut it s.heap h' → (∃ o,h'.get? e = some o ∧ o.cls = .type "StopIteration") → E (.ref e) { s with heap:=h' }) : wpAny (model prog w) A (Builtin.SmallTypes.nextOf (.ref it)) Q E s:=by
 obtain ⟨o,ho,hc,hd⟩:=id hit; obtain ⟨ol,hol,_,nl,hdl⟩:=hl; unfold Builtin.SmallTypes.nextOf
 refine wpAny_bind (wpAny_callSpecial?_slot (name:=Str.ofString "__next__") hit.typeIs F.slot_tuple_iterator_next (wpAny_call_entry F.slot_tuple_iterator_next hit.typeIs F.entry_tuple_iterator_next ?_ (F.args_tuple_iterator_next_1 _)))
 show wpAny _ _ (field (.ref it) 0 >>= _) _ _ s; refine wpAny_bind (wpAny_field ho hd (x:=.ref l) rfl ?_); show wpAny _ _ (if (Value.ref l == Value.none) = true then _ else _) _ _ s
 rw [if_neg (show ¬ ((Value.ref l == Value.none) = true) from Bool.false_ne_true)]; show wpAny _ _ (field (.ref it) 1 >>= _) _ _ s
 refine wpAny_bind (wpAny_field ho hd (x:=.int k 0) rfl ?_); show wpAny _ _ (seqItems? (.ref l) >>= _) _ _ s; refine wpAny_bind (wpAny_seqItems hol hdl ?_); simp only [Int.toNat_natCast,hx]
 refine wpAny_bind (wpAny_rule (wpAny_bind (wpAny_setField ho hd (by simp) ?_))); show wpAny _ _ (newExc (.type "StopIteration") [] >>= _) _ _ _; refine wpAny_bind ?_; simp only [newExc,newTuple]
 refine wpAny_bind (wpAny_newObj_type ?_ (by size_fits)); refine wpAny_bind (m:=firstArgMember _ _) (wpAny_of_eq (a:=Value.none) (by first | rfl | (simp only [firstArgMember]; rfl)) ?_); refine wpAny_newObj_type ?_ (by size_fits)
 simp only [raiseNew]; refine wpAny_bind (wpAny_handled ?_); first | rw [show A.in1.handled = none from hh] | rw [hh]
 refine wpAny_bind (wpAny_pure (wpAny_throw ?_)); exact hE _ _ (((Heap.SameBut.update ..).extBut.push _).push _) ⟨_,Heap.get?_push_size _ rfl,rfl⟩
theorem al0 {it l : Addr} {k : Nat} {xs : Array Value} {x : Value} {Q : Value → Shared → Prop} (hit : SIt t s.heap it l k) (hl : SSq t s.heap l xs) (hx : xs[k]? = some x)
  (hQ : ∀ h',SIt t h' it l (k + 1) → Heap.SameBut it s.heap h' → Q x { s with heap:=h' }) : wpAny (model prog w) A (Builtin.SmallTypes.nextOf (.ref it)) Q E s:=by
 cases t with
 | true=>exact bq3 hit hl hx hQ
 | false=>exact wpAny_nextOf_list_item hit hl hx hQ
theorem ax5 {it l : Addr} {k : Nat} {xs : Array Value} {Q : Value → Shared → Prop} (hh : A.handled = none) (hit : SIt t s.heap it l k) (hl : SSq t s.heap l xs) (hx : xs[k]? = none)
  (hE : ∀ h' e,Heap.ExtBut it s.heap h' → (∃ o,h'.get? e = some o ∧ o.cls = .type "StopIteration") → E (.ref e) { s with heap:=h' }) : wpAny (model prog w) A (Builtin.SmallTypes.nextOf (.ref it)) Q E s:=by
 cases t with
 | true=>exact bF7 hh hit hl hx hE
 | false=>exact wpAny_nextOf_list_end hh hit hl hx hE
theorem bF8 {z TI TO i1 i2 l1 l2 : Addr} {k1 k2 : Nat} {xs ys : Array Value} {x y a b : Value} {Q : Value → Shared → Prop} (Z : ZipApart z TI TO i1 i2 l1 l2)
  (hz : IsZip s.heap z TI TO .none) (hTI : IsPair s.heap TI (.ref i1) (.ref i2)) (hTO : IsPair s.heap TO a b) (h1 : SIt t1 s.heap i1 l1 k1) (h2 : SIt t2 s.heap i2 l2 k2) (hl1 : SSq t1 s.heap l1 xs) (hl2 : SSq t2 s.heap l2 ys) (hx : xs[k1]? = some x) (hy : ys[k2]? = some y)
  (hQ : ∀ h',IsZip h' z TI TO (rawInt s.heap.objs.size) → IsPair h' TO x y → SIt t1 h' i1 l1 (k1 + 1) → SIt t2 h' i2 l2 (k2 + 1) → IsPair h' s.heap.objs.size x y → h'.objs.size = s.heap.objs.size + 1 →
   (∀ c o,c ≠ z → c ≠ TO → c ≠ i1 → c ≠ i2 → s.heap.get? c = some o → h'.get? c = some o) → Q (.ref s.heap.objs.size) { s with heap:=h' }) :
  wpAny (model prog w) A (Builtin.«zip.__next__» ⟨[.ref z],[]⟩) (fun fin s'=>∃ v,fin = .done (.ret v) ∧ Q v s') E s:=by
 show wpAny _ _ (field (.ref z) 2 >>= _) _ _ _; refine wpAny_bind (wpAny_field hz rfl (x:=.bool false) rfl ?_); show wpAny _ _ (field (.ref z) 3 >>= _) _ _ _; refine wpAny_bind (wpAny_field hz rfl (x:=.ref TI) rfl ?_)
 refine wpAny_bind (wpAny_seqItems hTI rfl ?_); show wpAny _ _ (Builtin.SmallTypes.ownedTupleIsFree (.ref z) >>= _) _ _ _; refine wpAny_bind ?_; unfold Builtin.SmallTypes.ownedTupleIsFree
 refine wpAny_bind (wpAny_field hz rfl (x:=.none) rfl (wpAny_pure ?_)); simp only [if_true]; refine wpAny_bind (wpAny_rule ?_); refine wpAny_bind (wpAny_field hz rfl (x:=.ref TO) rfl ?_)
 refine wpAny_bind (wpAny_setField_rec hz (by simp) fun ha za sa=>?_); have za' : IsZip ha z TI TO .ellipsis:=za
 refine wpAny_bind ?_; simp only [List.zipIdx_cons,List.zipIdx_nil,List.forIn_cons,List.forIn_nil]; refine wpAny_bind (wpAny_bind (wpAny_onRaise ?_)); show wpAny _ _ (Builtin.SmallTypes.nextOf (.ref i1) >>= _) _ _ _
 refine wpAny_bind (al0 (h1.ext fun o e=>sa.extBut _ _ Z.i1z e) (hl1.ext fun o e=>sa.extBut _ _ Z.l1z e) hx fun hb h1b sb=>wpAny_pure ?_)
 have hTOb : IsPair hb TO a b:=sb.extBut _ _ Z.TOi1 (sa.extBut _ _ Z.TOz hTO)
 refine wpAny_bind (wpAny_seqItems hTOb rfl ?_); refine wpAny_bind (wpAny_updateSeq_pair hTOb fun hcc TOc sc=>?_); have TOc' : IsPair hcc TO x b:=TOc
 refine wpAny_bind (wpAny_letGo (wpAny_pure ?_)); refine wpAny_bind (wpAny_bind (wpAny_onRaise ?_)); show wpAny _ _ (Builtin.SmallTypes.nextOf (.ref i2) >>= _) _ _ _
 refine wpAny_bind (al0 (((h2.ext fun o e=>sa.extBut _ _ Z.i2z e).ext fun o e=>sb.extBut _ _ Z.i12.symm e).ext fun o e=>sc.extBut _ _ Z.TOi2.symm e) (((hl2.ext fun o e=>sa.extBut _ _ Z.l2z e).ext fun o e=>sb.extBut _ _ Z.l2i1 e).ext fun o e=>sc.extBut _ _ Z.l2TO e) hy fun hd h2d sd=>wpAny_pure ?_)
 have hTOd : IsPair hd TO x b:=sd.extBut _ _ Z.TOi2 TOc'
 refine wpAny_bind (wpAny_seqItems hTOd rfl ?_); refine wpAny_bind (wpAny_updateSeq_pair hTOd fun he TOe se=>?_); have TOe' : IsPair he TO x y:=TOe
 refine wpAny_bind (wpAny_letGo (wpAny_pure (wpAny_pure ?_))); refine wpAny_bind (wpAny_seqItems TOe' rfl ?_); refine wpAny_bind (wpAny_newTuple ?_)
 have sz : he.objs.size = s.heap.objs.size:=by rw [se.1,sd.1,sc.1,sb.1,sa.1]
 have ze : IsZip he z TI TO .ellipsis:=se.extBut _ _ Z.TOz.symm (sd.extBut _ _ Z.i2z.symm (sc.extBut _ _ Z.TOz.symm (sb.extBut _ _ Z.i1z.symm za')))
 have ke : ∀ c o,c ≠ z → c ≠ TO → c ≠ i1 → c ≠ i2 → s.heap.get? c = some o → he.get? c = some o:=fun c o c1 c2 c3 c4 e=>se.extBut _ _ c2 (sd.extBut _ _ c4 (sc.extBut _ _ c2 (sb.extBut _ _ c3 (sa.extBut _ _ c1 e))))
 have h1e : SIt t1 he i1 l1 (k1 + 1):=((h1b.ext fun o e=>sc.extBut _ _ Z.TOi1.symm e).ext fun o e=>sd.extBut _ _ Z.i12 e).ext fun o e=>se.extBut _ _ Z.TOi1.symm e
 have h2e : SIt t2 he i2 l2 (k2 + 1):=h2d.ext fun o e=>se.extBut _ _ Z.TOi2.symm e
 have zlt : z < he.objs.size:=Heap.lt_size ze
 show wpAny _ _ (Builtin.SmallTypes.ownedTupleHandOut (.ref z) (.ref he.objs.size) >>= _) _ _ _; refine wpAny_bind ?_; unfold Builtin.SmallTypes.ownedTupleHandOut
 have zf : IsZip (he.push { cls:=.type "tuple", data:=.seq #[x,y] }) z TI TO .ellipsis:=Heap.get?_push_of_some _ ze
 refine wpAny_bind (wpAny_setField_rec zf (by simp) fun hg zg sg=>?_); have zg' : IsZip hg z TI TO (rawInt he.objs.size):=zg
 refine wpAny_setField_rec zg' (by simp) fun hi zi si=>?_; have zi' : IsZip hi z TI TO (rawInt he.objs.size):=zi
 have up : ∀ c o,c ≠ z → he.get? c = some o → hi.get? c = some o:=fun c o c1 e=>si.extBut _ _ c1 (sg.extBut _ _ c1 (Heap.get?_push_of_some _ e))
 have hT : IsPair hi he.objs.size x y:=si.extBut _ _ (Nat.ne_of_gt zlt) (sg.extBut _ _ (Nat.ne_of_gt zlt) (Heap.get?_push_size _ rfl))
 have szi : hi.objs.size = he.objs.size + 1:=by rw [si.1,sg.1,Heap.size_push]
 rw [sz] at zi' hT szi
 refine wpAny_pure ⟨_,rfl,?_⟩; show Q (.ref he.objs.size) _; rw [sz]
 exact hQ hi zi' (up _ _ Z.TOz TOe') (h1e.ext fun o e=>up _ o Z.i1z e) (h2e.ext fun o e=>up _ o Z.i2z e) hT szi fun c o c1 c2 c3 c4 e=>up c o c1 (ke c o c1 c2 c3 c4 e)
theorem bU3 {z TI TO i1 i2 l1 l2 : Addr} {k1 k2 : Nat} {xs ys : Array Value} {a b : Value} {Q : Fin → Shared → Prop} (hh : A.handled = none) (Z : ZipApart z TI TO i1 i2 l1 l2)
  (hz : IsZip s.heap z TI TO .none) (hTI : IsPair s.heap TI (.ref i1) (.ref i2)) (hTO : IsPair s.heap TO a b) (h1 : SIt t1 s.heap i1 l1 k1) (h2 : SIt t2 s.heap i2 l2 k2) (hl1 : SSq t1 s.heap l1 xs) (hl2 : SSq t2 s.heap l2 ys) (hend : xs[k1]? = none ∨ ys[k2]? = none)
  (hE : ∀ h' e,(∀ c o,c ≠ z → c ≠ TO → c ≠ i1 → c ≠ i2 → s.heap.get? c = some o → h'.get? c = some o) → (∃ o,h'.get? e = some o ∧ o.cls = .type "StopIteration") → E (.ref e) { s with heap:=h' }) :
  wpAny (model prog w) A (Builtin.«zip.__next__» ⟨[.ref z],[]⟩) Q E s:=by
 show wpAny _ _ (field (.ref z) 2 >>= _) _ _ _; refine wpAny_bind (wpAny_field hz rfl (x:=.bool false) rfl ?_); show wpAny _ _ (field (.ref z) 3 >>= _) _ _ _; refine wpAny_bind (wpAny_field hz rfl (x:=.ref TI) rfl ?_)
 refine wpAny_bind (wpAny_seqItems hTI rfl ?_); show wpAny _ _ (Builtin.SmallTypes.ownedTupleIsFree (.ref z) >>= _) _ _ _; refine wpAny_bind ?_; unfold Builtin.SmallTypes.ownedTupleIsFree
 refine wpAny_bind (wpAny_field hz rfl (x:=.none) rfl (wpAny_pure ?_)); simp only [if_true]; refine wpAny_bind (wpAny_rule ?_); refine wpAny_bind (wpAny_field hz rfl (x:=.ref TO) rfl ?_)
 refine wpAny_bind (wpAny_setField_rec hz (by simp) fun ha za sa=>?_); have za' : IsZip ha z TI TO .ellipsis:=za
 refine wpAny_bind ?_; simp only [List.zipIdx_cons,List.zipIdx_nil,List.forIn_cons,List.forIn_nil]; refine wpAny_bind (wpAny_bind (wpAny_onRaise ?_)); show wpAny _ _ (Builtin.SmallTypes.nextOf (.ref i1) >>= _) _ _ _
 cases hx : xs[k1]? with
 | none =>
  refine wpAny_bind (ax5 hh (h1.ext fun o e=>sa.extBut _ _ Z.i1z e) (hl1.ext fun o e=>sa.extBut _ _ Z.l1z e) hx fun hb e sb he=>?_)
  obtain ⟨oe,hoe,hce⟩:=he; have zb : IsZip hb z TI TO .ellipsis:=sb _ _ Z.i1z.symm za'; have hez : e ≠ z:=fun q=>by subst q; rw [zb] at hoe; cases hoe; simp at hce
  exact wpAny_setField_rec zb (by simp) fun hcc _ sc=>hE hcc e (fun c o c1 _ c3 _ q=>sc.extBut _ _ c1 (sb _ _ c3 (sa.extBut _ _ c1 q))) ⟨oe,sc.extBut _ _ hez hoe,hce⟩
 | some x =>
  have hy : ys[k2]? = none:=by rcases hend with h | h; rw [hx] at h; cases h; exact h
  refine wpAny_bind (al0 (h1.ext fun o e=>sa.extBut _ _ Z.i1z e) (hl1.ext fun o e=>sa.extBut _ _ Z.l1z e) hx fun hb h1b sb=>wpAny_pure ?_)
  have hTOb : IsPair hb TO a b:=sb.extBut _ _ Z.TOi1 (sa.extBut _ _ Z.TOz hTO)
  refine wpAny_bind (wpAny_seqItems hTOb rfl ?_); refine wpAny_bind (wpAny_updateSeq_pair hTOb fun hcc TOc sc=>?_)
  refine wpAny_bind (wpAny_letGo (wpAny_pure ?_)); refine wpAny_bind (wpAny_bind (wpAny_onRaise ?_)); show wpAny _ _ (Builtin.SmallTypes.nextOf (.ref i2) >>= _) _ _ _
  refine wpAny_bind (ax5 hh (((h2.ext fun o e=>sa.extBut _ _ Z.i2z e).ext fun o e=>sb.extBut _ _ Z.i12.symm e).ext fun o e=>sc.extBut _ _ Z.TOi2.symm e) (((hl2.ext fun o e=>sa.extBut _ _ Z.l2z e).ext fun o e=>sb.extBut _ _ Z.l2i1 e).ext fun o e=>sc.extBut _ _ Z.l2TO e) hy fun hd e sd he=>?_)
  obtain ⟨oe,hoe,hce⟩:=he; have zd : IsZip hd z TI TO .ellipsis:=sd _ _ Z.i2z.symm (sc.extBut _ _ Z.TOz.symm (sb.extBut _ _ Z.i1z.symm za')); have hez : e ≠ z:=fun q=>by subst q; rw [zd] at hoe; cases hoe; simp at hce
  exact wpAny_setField_rec zd (by simp) fun hf _ sf=>hE hf e (fun c o c1 c2 c3 c4 q=>sf.extBut _ _ c1 (sd _ _ c4 (sc.extBut _ _ c2 (sb.extBut _ _ c3 (sa.extBut _ _ c1 q))))) ⟨oe,sf.extBut _ _ hez hoe,hce⟩
theorem br2 {z TI TO i1 i2 l1 l2 : Addr} {k1 k2 : Nat} {xs ys : Array Value} {x y a b : Value} {Q : Option Value → Shared → Prop} (Z : ZipApart z TI TO i1 i2 l1 l2)
  (hz : IsZip s.heap z TI TO .none) (hTI : IsPair s.heap TI (.ref i1) (.ref i2)) (hTO : IsPair s.heap TO a b) (h1 : SIt t1 s.heap i1 l1 k1) (h2 : SIt t2 s.heap i2 l2 k2) (hl1 : SSq t1 s.heap l1 xs) (hl2 : SSq t2 s.heap l2 ys) (hx : xs[k1]? = some x) (hy : ys[k2]? = some y)
  (hQ : ∀ h',IsZip h' z TI TO (rawInt s.heap.objs.size) → IsPair h' TO x y → SIt t1 h' i1 l1 (k1 + 1) → SIt t2 h' i2 l2 (k2 + 1) → IsPair h' s.heap.objs.size x y → h'.objs.size = s.heap.objs.size + 1 →
   (∀ c o,c ≠ z → c ≠ TO → c ≠ i1 → c ≠ i2 → s.heap.get? c = some o → h'.get? c = some o) → Q (some (.ref s.heap.objs.size)) { s with heap:=h' }) : wpAny (model prog w) A (pyNext (.ref z)) Q E s:=by
 have hT : s.TypeIs (.ref z) "zip" := ⟨_,hz,rfl⟩
 unfold pyNext
 refine wpAny_bind (wpAny_attempt (wpAny_callSpecial?_slot (name:=Str.ofString "__next__") hT F.slot_zip_next (wpAny_call_entry F.slot_zip_next hT F.entry_zip_next (bF8 Z hz hTI hTO h1 h2 hl1 hl2 hx hy ?_) (F.args_zip_next_1 _))))
 exact fun h' a1 a2 a3 a4 a5 a6 a7=>wpAny_pure (hQ h' a1 a2 a3 a4 a5 a6 a7)
theorem bG1 {z TI TO i1 i2 l1 l2 : Addr} {k1 k2 : Nat} {xs ys : Array Value} {a b : Value} {Q : Option Value → Shared → Prop} (hh : A.handled = none) (Z : ZipApart z TI TO i1 i2 l1 l2)
  (hz : IsZip s.heap z TI TO .none) (hTI : IsPair s.heap TI (.ref i1) (.ref i2)) (hTO : IsPair s.heap TO a b) (h1 : SIt t1 s.heap i1 l1 k1) (h2 : SIt t2 s.heap i2 l2 k2) (hl1 : SSq t1 s.heap l1 xs) (hl2 : SSq t2 s.heap l2 ys) (hend : xs[k1]? = none ∨ ys[k2]? = none)
  (hQ : ∀ h',(∀ c o,c ≠ z → c ≠ TO → c ≠ i1 → c ≠ i2 → s.heap.get? c = some o → h'.get? c = some o) → Q none { s with heap:=h' }) : wpAny (model prog w) A (pyNext (.ref z)) Q E s:=by
 have hT : s.TypeIs (.ref z) "zip" := ⟨_,hz,rfl⟩
 unfold pyNext
 refine wpAny_bind (wpAny_attempt (wpAny_callSpecial?_slot (name:=Str.ofString "__next__") hT F.slot_zip_next (wpAny_call_entry F.slot_zip_next hT F.entry_zip_next (bU3 hh Z hz hTI hTO h1 h2 hl1 hl2 hend fun h' e hk he=>?_) (F.args_zip_next_1 _))))
 obtain ⟨o,ho,hc⟩:=he
 exact wpAny_bind (wpAny_isInstance (T := "StopIteration") (b:=true) ⟨o,ho,hc⟩ isSubtype_stop (wpAny_pure (hQ _ hk)))
noncomputable def ay4 (t : Bool) (l : Addr) : Obj:={ cls:=.type (if t then "tuple_iterator" else "list_iterator"),data:=.fields #[.ref l,.int 0 0] }
theorem aZ1 {h : Heap} {l : Addr} (t : Bool) : SIt t (h.push (ay4 t l)) h.objs.size l 0:=by
 cases t with
 | true=>exact ⟨_,Heap.get?_push_size _ rfl,rfl,rfl⟩
 | false=>exact ⟨_,Heap.get?_push_size _ rfl,rfl,rfl⟩
theorem al1 {l : Addr} {xs : Array Value} {Q : Value → Shared → Prop} (hl : SSq t s.heap l xs) (hQ : Q (.ref s.heap.objs.size) { s with heap:=s.heap.push (ay4 t l) }) : wpAny (model prog w) A (pyIter (.ref l)) Q E s:=by
 cases t with
 | true=>exact wpAny_pyIter_tuple hl hQ
 | false=>exact wpAny_pyIter_list hl hQ
end
end G
namespace G
open PySem PySem.Spec PyProof.Rows L2
noncomputable abbrev zp1 (h : Heap) (t1 : Bool) (l1 : Addr) : Heap:=h.push (ay4 t1 l1)
noncomputable abbrev zp2 (h : Heap) (t1 t2 : Bool) (l1 l2 : Addr) : Heap:=(zp1 h t1 l1).push (ay4 t2 l2)
noncomputable abbrev zp3 (h : Heap) (t1 t2 : Bool) (l1 l2 : Addr) : Heap:=(zp2 h t1 t2 l1 l2).push { cls:=.type "tuple", data:=.seq #[.ref h.objs.size,.ref (zp1 h t1 l1).objs.size] }
noncomputable abbrev zp4 (h : Heap) (t1 t2 : Bool) (l1 l2 : Addr) : Heap:=(zp3 h t1 t2 l1 l2).push { cls:=.type "tuple", data:=.seq #[.none,.none] }
noncomputable abbrev zp5 (h : Heap) (t1 t2 : Bool) (l1 l2 : Addr) : Heap:=(zp4 h t1 t2 l1 l2).push { cls:=.type "zip", data:=.fields #[.none,.bool false,.bool false,.ref (zp2 h t1 t2 l1 l2).objs.size,.ref (zp3 h t1 t2 l1 l2).objs.size] }
theorem bU2 (l1 l2 : Addr) (xs ys : Array Value) (t1 t2 : Bool) :
  Meets (Builtin.«zip.__new__» ⟨[.type "zip", .ref l1,.ref l2],[]⟩) (fun _ R s=>SSq t1 s.heap l1 xs ∧ SSq t2 s.heap l2 ys ∧ ∀ h',IsZip h' (s.heap.objs.size + 4) (s.heap.objs.size + 2) (s.heap.objs.size + 3) .none → IsPair h' (s.heap.objs.size + 2) (.ref s.heap.objs.size) (.ref (s.heap.objs.size + 1)) →
   IsPair h' (s.heap.objs.size + 3) .none .none → SIt t1 h' s.heap.objs.size l1 0 → SIt t2 h' (s.heap.objs.size + 1) l2 0 → (∀ c o,s.heap.get? c = some o → h'.get? c = some o) → R (.ok (.ret (.ref (s.heap.objs.size + 4)))) { s with heap:=h' }) :=
 .of_wp fun prog w A R s h=>by
  obtain ⟨hp,g,d,tk,os⟩:=s
  obtain ⟨hl1,hl2,h⟩:=h
  have hsub:=sub_zip
  have q1 : SSq t1 (Shared.heap ⟨hp,g,d,tk,os⟩) l1 xs:=hl1
  have q2 : SSq t2 (Shared.heap ⟨hp.push (ay4 t1 l1),g,d,tk,os⟩) l2 ys:=SSq.ext hl2 fun o e=>Heap.get?_push_of_some _ e
  wp_walk using al1 q1,al1 q2
  refine ⟨_,rfl,?_⟩
  have z1 : (zp1 hp t1 l1).objs.size = hp.objs.size + 1:=Heap.size_push ..
  have z2 : (zp2 hp t1 t2 l1 l2).objs.size = hp.objs.size + 2:=by rw [Heap.size_push,z1]
  have z3 : (zp3 hp t1 t2 l1 l2).objs.size = hp.objs.size + 3:=by rw [Heap.size_push,z2]
  have z4 : (zp4 hp t1 t2 l1 l2).objs.size = hp.objs.size + 4:=by rw [Heap.size_push,z3]
  show R (.ok (.ret (.ref (zp4 hp t1 t2 l1 l2).objs.size))) ⟨zp5 hp t1 t2 l1 l2,g,d,tk,os⟩
  rw [z4]
  have g5 : (zp5 hp t1 t2 l1 l2).get? (zp4 hp t1 t2 l1 l2).objs.size = some _:=Heap.get?_push_size _ rfl
  have g4 : (zp5 hp t1 t2 l1 l2).get? (zp3 hp t1 t2 l1 l2).objs.size = some _:=Heap.get?_push_of_some _ (Heap.get?_push_size _ rfl)
  have g3 : (zp5 hp t1 t2 l1 l2).get? (zp2 hp t1 t2 l1 l2).objs.size = some _:=Heap.get?_push_of_some _ (Heap.get?_push_of_some _ (Heap.get?_push_size _ rfl))
  rw [z4,z2,z3] at g5
  rw [z3] at g4
  rw [z2,z1] at g3
  have k1 : ∀ c o,hp.get? c = some o → (zp5 hp t1 t2 l1 l2).get? c = some o:=fun c o e=>Heap.get?_push_of_some _ (Heap.get?_push_of_some _ (Heap.get?_push_of_some _ (Heap.get?_push_of_some _ (Heap.get?_push_of_some _ e))))
  have s1 : SIt t1 (zp5 hp t1 t2 l1 l2) hp.objs.size l1 0:=(aZ1 (h:=hp) (l:=l1) t1).ext fun o e=>Heap.get?_push_of_some _ (Heap.get?_push_of_some _ (Heap.get?_push_of_some _ (Heap.get?_push_of_some _ e)))
  have s2 : SIt t2 (zp5 hp t1 t2 l1 l2) (zp1 hp t1 l1).objs.size l2 0:=(aZ1 (h:=zp1 hp t1 l1) (l:=l2) t2).ext fun o e=>Heap.get?_push_of_some _ (Heap.get?_push_of_some _ (Heap.get?_push_of_some _ e))
  rw [z1] at s2
  exact h _ g5 g3 g4 s1 s2 k1
section
variable {prog : Program} {w : World} {A : Around} {E : Value → Shared → Prop} {s : Shared} {t1 t2 : Bool}
theorem bF9 {l1 l2 : Addr} {xs ys : Array Value} {Q : Value → Shared → Prop} (hl1 : SSq t1 s.heap l1 xs) (hl2 : SSq t2 s.heap l2 ys)
  (h : ∀ h',IsZip h' (s.heap.objs.size + 4) (s.heap.objs.size + 2) (s.heap.objs.size + 3) .none → IsPair h' (s.heap.objs.size + 2) (.ref s.heap.objs.size) (.ref (s.heap.objs.size + 1)) →
   IsPair h' (s.heap.objs.size + 3) .none .none → SIt t1 h' s.heap.objs.size l1 0 → SIt t2 h' (s.heap.objs.size + 1) l2 0 → (∀ c o,s.heap.get? c = some o → h'.get? c = some o) → Q (.ref (s.heap.objs.size + 4)) { s with heap:=h' }) :
  wpAny (model prog w) A (call (.type "zip") [.ref l1,.ref l2]) Q E s:=by
 refine callType_new F.called_zip (by decide) (F.typeCall_zip_2 _ _) (F.newCall_zip_2 _ _) (fun obj=>F.args_object_init_3 obj _ _) F.entry_zip_new (bU2 l1 l2 xs ys t1 t2) ⟨hl1,hl2,fun h' a1 a2 a3 a4 a5 a6=>?_⟩
 exact ⟨⟨_,a1,rfl⟩,h h' a1 a2 a3 a4 a5 a6⟩
end
noncomputable def Itz (K : PySem.W.Frag) (t1 t2 : Bool) (a1 a2 : Addr) : It :=
  ⟨fun i H=>∃ xs ys x y,Sq K t1 H a1 xs ∧ Sq K t2 H a2 ys ∧ xs[i]? = some x ∧ ys[i]? = some y,
   fun i H v H'=>∃ T x y,v = .ref T ∧ H T = none ∧ H' = upd H T (.tup [x,y]) ∧ (∀ xs,Sq K t1 H a1 xs → xs[i]? = some x) ∧ ∀ ys,Sq K t2 H a2 ys → ys[i]? = some y,
   fun i H=>∃ xs ys,Sq K t1 H a1 xs ∧ Sq K t2 H a2 ys ∧ (xs.length ≤ i ∨ ys.length ≤ i)⟩
theorem br0 {X : Cx} {pins : List (Addr × Obj)} {σ : L2.St} {H : Hp} {s : Shared} {t : Bool} {a : Addr} {xs ys : List V} (I : Inv X pins σ H s) (h : Sq X.K t H a xs) (h' : Sq X.K t H a ys) : xs = ys:=by
 cases t with
 | true=>exact I.tuple_inj h h'
 | false=>exact I.list_inj h h'
theorem X2 {X : Cx} {pins : List (Addr × Obj)} {σ : L2.St} {H : Hp} {s : Shared} {t : Bool} {a : Addr} {xs : List V} (I : Inv X pins σ H s) (h : Sq X.K t H a xs) : ∃ its : List Value,K2 xs its ∧ SSq t s.heap a its.toArray ∧ a < s.heap.objs.size:=by
 cases t with
 | true =>
  obtain ⟨its,r,p,_⟩:=I.tuple h
  exact ⟨its,r,p,by obtain ⟨o,ho,_⟩:=p; exact Heap.lt_size ho⟩
 | false =>
  obtain ⟨its,r,p,_⟩:=I.list h
  exact ⟨its,r,p.isList,by obtain ⟨o,ho,_⟩:=p.isList; exact Heap.lt_size ho⟩
end G
namespace G
open PySem PySem.Spec PyProof.Rows L2
theorem v5 {X : Cx} {pins : List (Addr × Obj)} {σ : L2.St} {H : Hp} {s : Shared} {h' : Heap} {t' : Nat} {ch : List Addr} {T : Addr} {o : HO} (I : Inv X pins σ H s) (hf : ∀ b ∈ ch,ae5 X pins H b) (hT : s.heap.objs.size ≤ T)
  (k : ∀ b u,b ∉ ch → s.heap.get? b = some u → h'.get? b = some u) (new : aa8 X.prog X.w (upd H T o) h' T o) : Inv X pins σ (upd H T o) { s with heap:=h',toks:=t' }:=by
 have hn : H T = none:=I.hok.fresh hT
 have neT : ∀ b u,s.heap.get? b = some u → b ≠ T:=fun b u e=>Nat.ne_of_lt (Nat.lt_of_lt_of_le (Heap.lt_size e) hT)
 have nch : ∀ b u,H b = some u → b ∉ ch:=fun b u e z=>by rw [(hf b z).1] at e; cases e
 refine I.step (g':=s.gens) (d':=s.drawn) (ch:=ch) (fun b hb=>⟨(hf b hb).2.2.2.1,(hf b hb).2.1,(hf b hb).2.2.2.2.1,(hf b hb).2.2.2.2.2⟩) (fun b u _ _ hc e _=>k b u hc e) (fun b u _ _ hc e _=>⟨u.slots,k b u hc e⟩)
  (fun b u _ e n=>by rw [C7 (neT b u e)]; exact n) (fun b u hc e=>⟨u,k b u hc e⟩) (fun b xs e=>by rw [C7 (C9 e hn)]; exact e) (fun b ob u e=>by rw [C7 (C9 e hn)]; exact e)
  (fun b ps e=>⟨#[],by rw [C7 (C9 e hn),e]; simp⟩) (fun m hm=>?_) (fun b u e=>?_) I.bare
 ·obtain ⟨ob,es,ep,ho,r⟩:=hm
  exact ⟨ob,es,ep,k _ ob (fun z=>(hf _ z).2.1 rfl) ho,r⟩
 ·by_cases hb : b = T
  ·subst hb; rw [C6] at e; cases e; exact new
  ·rw [C7 hb] at e
   refine (I.hok b u e).stay (fun c v hc q=>k c v ?_ q) (fun c q=>by rw [C7 (C9 q hn)]; exact q) fun c xs q=>by rw [C7 (C9 q hn)]; exact q
   rcases hc with z | z
   ·rw [z]; exact nch b u e
   ·exact nch c _ z
theorem Y5 {X : Cx} {pins : List (Addr × Obj)} {σ : L2.St} {H : Hp} {s : Shared} {h' : Heap} {t' : Nat} {ch : List Addr} (I : Inv X pins σ H s) (hf : ∀ b ∈ ch,ae5 X pins H b)
  (k : ∀ b u,b ∉ ch → s.heap.get? b = some u → h'.get? b = some u) : Inv X pins σ H { s with heap:=h',toks:=t' }:=by
 have nch : ∀ b u,H b = some u → b ∉ ch:=fun b u e z=>by rw [(hf b z).1] at e; cases e
 refine I.step (g':=s.gens) (d':=s.drawn) (ch:=ch) (fun b hb=>⟨(hf b hb).2.2.2.1,(hf b hb).2.1,(hf b hb).2.2.2.2.1,(hf b hb).2.2.2.2.2⟩) (fun b u _ _ hc e _=>k b u hc e) (fun b u _ _ hc e _=>⟨u.slots,k b u hc e⟩)
  (fun b u _ e n=>n) (fun b u hc e=>⟨u,k b u hc e⟩) (fun b xs e=>e) (fun b ob u e=>e) (fun b ps e=>⟨#[],by rw [e]; simp⟩) (fun m hm=>?_) (fun b u e=>?_) I.bare
 ·obtain ⟨ob,es,ep,ho,r⟩:=hm
  exact ⟨ob,es,ep,k _ ob (fun z=>(hf _ z).2.1 rfl) ho,r⟩
 ·refine (I.hok b u e).stay (fun c v hc q=>k c v ?_ q) (fun c q=>q) fun c xs q=>q
  rcases hc with z | z
  ·rw [z]; exact nch b u e
  ·exact nch c _ z
theorem bT0 {P : Program} {w : World} {K : PySem.W.Frag} {elts : List Expr} {k0 : Nat} {pos : Pos} {t1 t2 : Bool} {z TI TO i1 i2 a1 a2 : Addr} (Z : ZipApart z TI TO i1 i2 a1 a2) :
  Turn P w K (.Tuple elts k0 pos) (Itz K t1 t2 a1 a2) [z,TI,TO,i1,i2] z (fun i h=>IsZip h z TI TO .none ∧ IsPair h TI (.ref i1) (.ref i2) ∧ (∃ a b,IsPair h TO a b) ∧ SIt t1 h i1 a1 i ∧ SIt t2 h i2 a2 i) where
 mem:=by simp
 obj:=fun i h ⟨hz,hTI,⟨a,b,hTO⟩,h1,h2⟩ c hc=>by
  simp only [List.mem_cons,List.not_mem_nil,or_false] at hc
  rcases hc with rfl | rfl | rfl | rfl | rfl
  ·exact ⟨_,hz,fun v q=>by cases q⟩
  ·exact ⟨_,hTI,fun v q=>by cases q⟩
  ·exact ⟨_,hTO,fun v q=>by cases q⟩
  ·cases t1 with
   | true=>obtain ⟨o,ho,_,hd⟩:=h1; exact ⟨o,ho,fun v q=>by rw [hd] at q; cases q⟩
   | false=>obtain ⟨o,ho,_,hd⟩:=h1; exact ⟨o,ho,fun v q=>by rw [hd] at q; cases q⟩
  ·cases t2 with
   | true=>obtain ⟨o,ho,_,hd⟩:=h2; exact ⟨o,ho,fun v q=>by rw [hd] at q; cases q⟩
   | false=>obtain ⟨o,ho,_,hd⟩:=h2; exact ⟨o,ho,fun v q=>by rw [hd] at q; cases q⟩
 keep:=fun i h h' ⟨hz,hTI,⟨a,b,hTO⟩,h1,h2⟩ hk=>⟨hk z (by simp) _ hz,hk TI (by simp) _ hTI,⟨a,b,hk TO (by simp) _ hTO⟩,h1.ext fun o e=>hk i1 (by simp) o e,h2.ext fun o e=>hk i2 (by simp) o e⟩
 item:=by
  intro X hP hw hK hc i pins s σ H E I hf ⟨hz,hTI,⟨a,b,hTO⟩,h1,h2⟩ hg
  subst hP hw hK
  obtain ⟨xs,ys,x,y,q1,q2,ex,ey⟩:=hg
  obtain ⟨us,r1,p1,lt1⟩:=X2 I q1
  obtain ⟨ws,r2,p2,lt2⟩:=X2 I q2
  obtain ⟨ux,eux,rx⟩:=r1.get ex
  obtain ⟨uy,euy,ry⟩:=r2.get ey
  refine br2 Z hz hTI hTO h1 h2 p1 p2 (x:=ux) (y:=uy) (by simpa using eux) (by simpa using euy) fun h' b1 b2 b3 b4 b5 b6 b7=>⟨_,rfl,wpAny_letOwnedTupleGo_zip b1 fun h'' c1 c2=>?_⟩
  have neT : ∀ c o,s.heap.get? c = some o → c ≠ s.heap.objs.size:=fun c o e=>Nat.ne_of_lt (Heap.lt_size e)
  have up : ∀ c o,c ≠ z → h'.get? c = some o → h''.get? c = some o:=fun c o n e=>c2.extBut c o n e
  refine ⟨.ref s.heap.objs.size,upd H s.heap.objs.size (.tup [x,y]),v5 (s:=s) (h':=h'') (t':=s.toks) (ch:=[z,TI,TO,i1,i2]) I hf (Nat.le_refl _) (fun c u hc e=>?_) ?_,rfl,⟨_,x,y,rfl,I.hok.fresh (Nat.le_refl _),rfl,fun zs hz'=>by rw [br0 I hz' q1]; exact ex,fun zs hz'=>by rw [br0 I hz' q2]; exact ey⟩,⟨c1,?_,⟨_,_,up TO _ Z.TOz b2⟩,b3.ext fun o e=>up i1 o Z.i1z e,b4.ext fun o e=>up i2 o Z.i2z e⟩,fun c hc=>?_⟩
  ·simp only [List.mem_cons,List.not_mem_nil,or_false,not_or] at hc
   exact up c u hc.1 (b7 c u hc.1 hc.2.2.1 hc.2.2.2.1 hc.2.2.2.2 e)
  ·refine ⟨by show 2 ≤ sizeLine; decide,[ux,uy],.cons rx (.cons ry .nil),_,up _ _ ?_ b5,rfl,_,rfl⟩
   exact fun q=>neT z _ hz q.symm
  ·exact up TI _ Z.TIz (b7 TI _ Z.TIz Z.TITO Z.TIi1 Z.TIi2 hTI)
  ·have e : c < s.heap.objs.size:=by
    simp only [List.mem_cons,List.not_mem_nil,or_false] at hc
    rcases hc with rfl | rfl | rfl | rfl | rfl
    ·exact Heap.lt_size hz
    ·exact Heap.lt_size hTI
    ·exact Heap.lt_size hTO
    ·exact h1.lt
    ·exact h2.lt
   rw [C7 (Nat.ne_of_lt e)]
   exact (hf c hc).1
 done:=by
  intro X hP hw hK hc i pins s σ H E I hf ⟨hz,hTI,⟨a,b,hTO⟩,h1,h2⟩ hg
  subst hP hw hK
  obtain ⟨xs,ys,q1,q2,hl⟩:=hg
  obtain ⟨us,r1,p1,lt1⟩:=X2 I q1
  obtain ⟨ws,r2,p2,lt2⟩:=X2 I q2
  have l1:=r1.length
  have l2:=r2.length
  refine bG1 (I.ok.hd hc) Z hz hTI hTO h1 h2 p1 p2 ?_ fun h' hk=>⟨rfl,Y5 (t':=s.toks) (ch:=[z,TI,TO,i1,i2]) I hf fun c u hc e=>?_⟩
  ·rcases hl with h | h
   ·left; simp; omega
   ·right; simp; omega
  ·simp only [List.mem_cons,List.not_mem_nil,or_false,not_or] at hc
   exact hk c u hc.1 hc.2.2.1 hc.2.2.2.1 hc.2.2.2.2 e
 self:=fun _ _ _ _ _ st h=>wpAny_pyIter_zip st.1 h
section
variable {X : Cx}
noncomputable def as1 (f g : Rho → Option (Bool × List D)) : Rho → Option (List D):=fun ρ=>(f ρ).bind fun p=>(g ρ).bind fun q=>some ((p.2.zip q.2).map fun (x,y)=>PyData.tuple [x,y])
theorem bp6 {K : PySem.W.Frag} {t1 t2 : Bool} {a1 a2 : Addr} {vs us : List V} {ds es : List D} {Hf1 : Hp} (h1 : Sq K t1 Hf1 a1 vs) (h2 : Sq K t2 Hf1 a2 us) (r1 : Reps K Hf1 ds vs) (r2 : Reps K Hf1 es us) :
  bg0 K (Itz K t1 t2 a1 a2) ((ds.zip es).map fun (x,y)=>PyData.tuple [x,y]) Hf1:=by
 have mono : ∀ {t : Bool} {a : Addr} {xs : List V} {H H' : Hp},L3 H H' → Sq K t H a xs → Sq K t H' a xs:=fun {t a xs H H'} e h=>by
  cases t with
  | true=>exact E2 e h
  | false=>exact K8 e h
 intro i H Hf sa sb
 have m1:=mono (sa.trans sb) h1
 have m2:=mono (sa.trans sb) h2
 have l1:=r1.length
 have l2:=r2.length
 refine ⟨fun hi=>⟨vs,us,m1,m2,?_⟩,fun d hd=>?_⟩
 ·simp at hi; omega
 ·rw [List.getElem?_map] at hd
  obtain ⟨⟨x,y⟩,q1,q2⟩:=Option.map_eq_some_iff.mp hd
  subst q2
  obtain ⟨q1,q2⟩:=List.getElem?_zip_eq_some.mp q1
  obtain ⟨vx,e1,e2⟩:=r1.get q1
  obtain ⟨vy,e3,e4⟩:=r2.get q2
  refine ⟨⟨vs,us,vx,vy,m1,m2,e1,e3⟩,fun v H' ⟨T,x',y',z1,z2,z3,z4,z5⟩=>?_⟩
  subst z1 z3
  have w1:=z4 vs m1
  have w2:=z5 us m2
  rw [e1] at w1
  rw [e3] at w2
  cases w1
  cases w2
  have nf : Hf T = none:=sb.free z2
  refine ⟨upd Hf T (.tup [vx,vy]),Grow.laid sb z2,T,[vx,vy],rfl,SqT.of C6,vx,[vy],rfl,(e2.mono sa).mono (G0 nf),vy,[],rfl,(e4.mono sa).mono (G0 nf),rfl⟩
theorem cM4 {elts : List Expr} {k0 : Nat} {tpos : Pos} {a b : Expr} {f g : DE} {p pos : Pos} (hg : Gl X "zip") (hm : X.mg "zip" = none) (ha : JE X a f) (hb : JE X b g) (hs : starEach [a,b] X.env = [(false,eval a X.env),(false,eval b X.env)]:=by rfl) (hs2 : starEach [b] X.env = [(false,eval b X.env)]:=by rfl) :
  JI X (.Tuple elts k0 tpos) (.Call (.Name "zip" p) [a,b] [] pos) (as1 (qE f) (qE g)):=fun ρ out q=>by
 obtain ⟨⟨t1,ds⟩,e1,q⟩:=xbm q
 obtain ⟨⟨t2,es⟩,e2,q⟩:=xbm q
 cases q
 obtain ⟨d1,e1,e1'⟩:=xbm e1
 obtain ⟨d2,e2,e2'⟩:=xbm e2
 intro pins s σ H R I ⟨H0,Hf,ss,sl,k⟩
 refine Call_ (am3 I hg hm cQ7 (PyProof.Rows.callWith_type1 (thn (F7 (ha ρ d1 e1) (F7 (hb ρ d2 e2) O9 hs2) (by rw [hs,hs2]) pos pins s σ H
  (fun vs H'=>∃ v u Hf',vs = [v,u] ∧ Grow H Hf H' Hf' ∧ Rep X.K Hf' d1 v ∧ Rep X.K Hf' d2 u) I ⟨H0,Hf,ss,sl,fun v H1 Hf1 g1 r1=>⟨H0,Hf1,g1.sub,sl.grow g1,fun u H2 Hf2 g2 r2=>⟨v,u,Hf2,rfl,g1.trans g2,r1.mono g2.ext,r2⟩⟩⟩) fun us s1 ⟨vs,H1,I1,r1,v,u,Hf1,ev,gr,p1,p2⟩=>?_) (by rw [hs,hs2]) (by rw [hs2]; rfl)))
 subst ev
 obtain ⟨uv,uu,rfl,rv,ru⟩:=bz8 r1
 obtain ⟨a1,vs1,rfl,w1,w2⟩:=p1.seq (L3.refl Hf1) e1'
 obtain ⟨a2,vs2,rfl,w3,w4⟩:=p2.seq (L3.refl Hf1) e2'
 cases rv
 cases ru
 have mono : ∀ {t : Bool} {a : Addr} {xs : List V} {H H' : Hp},L3 H H' → Sq X.K t H a xs → Sq X.K t H' a xs:=fun {t a xs H H'} e h=>by
  cases t with
  | true=>exact E2 e h
  | false=>exact K8 e h
 obtain ⟨us1,rr1,hp1,lt1⟩:=X2 I1 (mono gr.sub w1)
 obtain ⟨us2,rr2,hp2,lt2⟩:=X2 I1 (mono gr.sub w3)
 refine bF9 hp1 hp2 fun h' b1 b2 b3 b4 b5 b6=>?_
 have I2 : Inv X pins σ H1 { s1 with heap:=h' }:=I1.kept (t':=s1.toks) b6
 refine wpAny_pyIter_zip b1 ⟨_,_,_,_,H1,rfl,I2,bT0 (zipApart_new lt1 lt2),⟨b1,b2,⟨_,_,b3⟩,b4,b5⟩,fun b hb=>?_,k _ H1 Hf1 gr (bp6 w1 w3 w2 w4)⟩
 have hb' : s1.heap.objs.size ≤ b:=by
  simp only [List.mem_cons,List.not_mem_nil,or_false] at hb
  rcases hb with rfl | rfl | rfl | rfl | rfl
  ·exact Nat.le_add_right _ _
  ·exact Nat.le_add_right _ _
  ·exact Nat.le_add_right _ _
  ·exact Nat.le_refl _
  ·exact Nat.le_add_right _ _
 exact I1.fpOk hb' (I1.hok.fresh hb')
end
end G
namespace G
open PySem PySem.Spec PyProof.Rows L2
theorem aG1 : fillsNumberSlot (.type "tuple") "mul" = pure false:=PySem.fillsNumberSlot_seq (id := "tuple.__mul__") (r:=some (.builtin "tuple.__rmul__")) F.slot_tuple_mul.lookup (by decide +kernel) F.slot_tuple_rmul.lookup (by decide +kernel)
theorem aU5 : seqRepeat? (.type "tuple") = pure (some (.builtin "tuple.__mul__")):=by
 unfold seqRepeat?
 rw [PySem.seqSlot_of (T := "tuple") (name := "__mul__") (id := "tuple.__mul__") F.slot_tuple_mul.lookup (by decide +kernel),PySem.seqSlot_of (T := "tuple") (name := "__rmul__") (id := "tuple.__rmul__") F.slot_tuple_rmul.lookup (by decide +kernel)]; rfl
theorem ax6 (a : Int) (t : Tok) (l : Addr) (items : Array Value) (n : Nat) (dd : Option Addr) (sl : Array (Option Value)) :
  Meets (Builtin.«int.__rmul__» ⟨[.int a t,.ref l],[]⟩) (fun _ R s=>s.heap.get? l = some ⟨.type "tuple", dd,.seq items n,sl⟩ ∧ R (.ok (.ret Value.notImplemented)) s) :=
 .of_wp fun prog w A R s h=>by obtain ⟨hp,g,d,tk,os⟩:=s; obtain ⟨hl,h⟩:=h; wp_walk; exact ⟨_,rfl,h⟩
theorem br7 (items : Array Value) (k : Nat) : List.foldl (fun x1 x2=>x1 ++ x2) #[] (List.replicate k items) = (List.replicate k items.toList).flatten.toArray:=by
 have:=aV3 items.toList k []
 rw [List.nil_append] at this
 simpa using this
theorem bk6 (l : Addr) (items : Array Value) (n : Nat) (dd : Option Addr) (sl : Array (Option Value)) (x : Int) (u : Tok) (h2 : 2 ≤ x) (h3 : x < 1000000) (he : items.isEmpty = false) (hz : items.size * x.toNat ≤ sizeLine) :
  Meets (Builtin.«tuple.__mul__» ⟨[.ref l,.int x u],[]⟩) (fun _ R s=>s.heap.get? l = some ⟨.type "tuple", dd,.seq items n,sl⟩ ∧ R (.ok (.ret (Value.ref s.heap.objs.size))) { s with heap:=s.heap.push { cls:=Value.type "tuple", data:=Data.seq (List.foldl (fun x1 x2=>x1 ++ x2) #[] (List.replicate x.toNat items)) } }) :=
 .of_wp fun prog w A R s h=>by
  obtain ⟨hp,g,d,tk,os⟩:=s
  obtain ⟨hl,h⟩:=h
  have hm : (items.size : Int) * x ≤ 16777216:=by
   have e : ((items.size * x.toNat : Nat) : Int) = (items.size : Int) * x:=by rw [Int.natCast_mul,Int.toNat_of_nonneg (by omega)]
   have : items.size * x.toNat ≤ 16777216:=by rw [← sizeLine_eq]; exact hz
   omega
  wp_walk
  refine wpAny_ite_false (by simp; omega) ?_
  have ht : Heap.IsTuple (Shared.heap ⟨hp,g,d,tk,os⟩) l items:=⟨_,hl,rfl,n,rfl⟩
  refine wpAny_bind (tupleItemsOf_ ht ?_)
  refine wpAny_ite_false (by rw [he]; simp; omega) ?_
  show wpAny _ _ (if (decide (x ≤ 0) || items.isEmpty) = true then _ else _) _ _ _
  refine wpAny_ite_false (by rw [he]; simp; omega) ?_
  show wpAny _ _ (if (items.size : Int) * x > (2 ^ 63 - 1) / 8 then _ else _) _ _ _
  rw [if_neg (by omega)]
  show wpAny _ _ (if Builtin.Tuple.tupleTooMany ((items.size : Int) * x) = true then _ else _) _ _ _
  rw [if_neg (by unfold Builtin.Tuple.tupleTooMany; rw [sizeLine_eq]; simp; omega)]
  refine wpAny_bind (m:=Builtin.Tuple.tupleExact _) (wpAny_newObj_type (wpAny_pure ⟨_,rfl,h⟩) ?_)
  show (List.foldl (fun x1 x2=>x1 ++ x2) #[] (List.replicate x.toNat items)).size ≤ sizeLine
  rw [br7 items x.toNat,List.size_toArray,bc3,Array.length_toList,Nat.mul_comm]
  exact hz
section
variable {X : Cx}
theorem cl7 : OpR X (binaryOp .Mult) (fun x y H Q=>∃ l k xs,x = .ref l ∧ y = .int k ∧ SqT X.K H l xs ∧ xs ≠ [] ∧ 2 ≤ k ∧ k < 1000000 ∧ xs.length * k.toNat ≤ sizeLine ∧ ∀ p,H p = none → Q (.ref p) (upd H p (.tup (List.replicate k.toNat xs).flatten))):=by
 intro pins s σ H x y v u Q I rx ry h
 obtain ⟨l,k,xs,rfl,rfl,hq,hx,h2,h3,hz,q⟩:=h
 cases rx
 obtain ⟨t,rfl⟩:=ry
 obtain ⟨its,r,p1,_⟩:=I.tuple hq
 obtain ⟨⟨cls,dd,data,sl⟩,ho,hc,n,hd⟩:=id p1
 simp only at hc hd
 subst hc hd
 have hl:=r.length
 have he : its.toArray.isEmpty = false:=by
  cases its with
  | nil=>exact absurd (r.nil_iff.mp rfl) hx
  | cons a b=>rfl
 refine wpAny_binaryOp_repeat_ref (T := "tuple") (U := "int") (by decide) ⟨_,ho,rfl⟩ (fun s'=>typeIs_int s' k t) aG1 F.fills_int_mul F.slot_int_rmul aU5 F.slot_int_index.lookup
  (call_meets F.slot_int_rmul (typeIs_int s k t) F.entry_int_rmul (F.args_int_rmul_2 _ _) (ax6 k t l its.toArray n dd sl) ⟨ho,rfl,⟨_,ho,rfl⟩,
   call_meets F.slot_tuple_mul ⟨_,ho,rfl⟩ F.entry_tuple_mul (F.args_tuple_mul_2 _ _) (bk6 l its.toArray n dd sl k t h2 h3 he (by rw [List.size_toArray,← hl]; exact hz)) ⟨ho,?_⟩⟩)
 rw [br7]
 refine ⟨.ref _,_,I.laid (t':=s.toks) (o:=.tup (List.replicate k.toNat xs).flatten) (fun b ob q=>Heap.get?_push_of_some _ q) (Nat.le_refl _) ⟨?_,_,r.rep k.toNat,IsTup.new _ _⟩,rfl,q _ (I.hok.fresh (Nat.le_refl _))⟩
 rw [bc3,Nat.mul_comm]; exact hz
noncomputable def o5 (x y : D) : Option D:=match x,y with
 | .int i,.int j=>if L0 i ∧ L0 j then some (.int (i * j)) else none
 | .tuple xs,.int k=>if xs.isEmpty = false ∧ 2 ≤ k ∧ k < 1000000 ∧ xs.length * k.toNat ≤ 16777216 then some (.tuple (List.replicate k.toNat xs).flatten) else none
 | _,_=>none
theorem bb0 : OpD X (binaryOp .Mult) o5:=fun x y z h=>by
 unfold o5 at h
 split at h
 ·exact cI2 _ _ z (by unfold cJ5; exact h)
 ·split at h
  ·rename_i xs k c
   cases h
   refine OpR.imp cl7 fun vx vy H Q ⟨Hf,s,r1,r2,kk⟩=>?_
   obtain ⟨a,vs,rfl,h2,h3⟩:=r1
   refine ⟨a,k,vs,rfl,r2,E2 s h2,?_,c.2.1,c.2.2.1,by rw [h3.length,sizeLine_eq]; exact c.2.2.2,fun p hp=>?_⟩
   ·intro e
    subst e
    have:=h3.length
    cases xs with
    | nil=>exact absurd c.1 (by simp)
    | cons a b=>simp at this
   ·exact kk _ _ _ (Grow.laid s hp) ⟨p,_,rfl,SqT.of C6,(h3.flatten k.toNat).mono (G0 (s.free hp))⟩
  ·cases h
 ·cases h
noncomputable def aI5 (f : DE) : DE:=fun ρ=>(f ρ).bind fun d=>match d with
 | .int i=>some (.int (-i))
 | _=>none
theorem cb3 {a : Expr} {f : DE} {pos : Pos} (h : JE X a f) : JE X (.UnaryOp .USub a pos) (aI5 f):=fun ρ d q=>by
 obtain ⟨x,e1,e2⟩:=xbm q
 cases x with
 | int i =>
  cases e2
  exact C3 (cV0 cx5 (h ρ _ e1)) fun σ H Q ⟨H0,Hf,s,sl,k⟩=>⟨H0,Hf,s,sl,fun v H1 Hf1 g1 r1=>⟨_,r1,k _ H1 Hf1 g1 rfl⟩⟩
 | _=>cases e2
noncomputable def isB (x y : D) : Option D:=match y with
 | .bool b=>(match x with
  | .bool c=>some (.bool (c == b))
  | .dict _=>none
  | _=>some (.bool false))
 | .none=>isN x .none
 | _=>none
noncomputable def aR7 (x y : D) : Option D:=match y with
 | .bool b=>(match x with
  | .bool c=>some (.bool (!(c == b)))
  | .dict _=>none
  | _=>some (.bool true))
 | .none=>cI9 x .none
 | _=>none
theorem cW1 : OpD X (compareOp .Is) isB:=fun x y z h=>by
 cases y with
 | none=>exact cI4 x .none z h
 | bool b =>
  intro pins s σ H vx vy v u Q I rx ry ⟨Hf,ss,r1,r2,k⟩
  cases r2
  cases ry
  have fin : ∀ c,z = .bool c → (v == Value.bool b) = c → EP X pins σ Q (.bool (v == Value.bool b)) s:=fun c e1 e2=>by
   rw [e2]; subst e1; exact ⟨.bl c,H,I,rfl,k _ H Hf (Grow.refl ss) rfl⟩
  cases x with
  | none=>cases r1; cases rx; cases h; exact wpAny_is_plain rfl (fin _ rfl rfl)
  | bool c=>cases r1; cases rx; cases h; exact wpAny_is_plain rfl (fin _ rfl (by cases c <;> cases b <;> rfl))
  | int i=>cases r1; obtain ⟨t,rfl⟩:=rx; cases h; exact wpAny_is_plain rfl (fin _ rfl rfl)
  | str i=>cases r1; obtain ⟨t,rfl⟩:=rx; cases h; exact wpAny_is_plain rfl (fin _ rfl rfl)
  | tuple ds=>obtain ⟨a,vs,rfl,_⟩:=r1; cases rx; cases h; exact wpAny_is_plain rfl (fin _ rfl rfl)
  | list ds=>obtain ⟨a,vs,rfl,_⟩:=r1; cases rx; cases h; exact wpAny_is_plain rfl (fin _ rfl rfl)
  | dict ds=>cases h
 | _=>cases h
theorem bX1 : OpD X (compareOp .IsNot) aR7:=fun x y z h=>by
 cases y with
 | none=>exact cm4 x .none z h
 | bool b =>
  intro pins s σ H vx vy v u Q I rx ry ⟨Hf,ss,r1,r2,k⟩
  cases r2
  cases ry
  have fin : ∀ c,z = .bool c → (!(v == Value.bool b)) = c → EP X pins σ Q (.bool (!(v == Value.bool b))) s:=fun c e1 e2=>by
   rw [e2]; subst e1; exact ⟨.bl c,H,I,rfl,k _ H Hf (Grow.refl ss) rfl⟩
  cases x with
  | none=>cases r1; cases rx; cases h; exact wpAny_isNot_plain rfl (fin _ rfl rfl)
  | bool c=>cases r1; cases rx; cases h; exact wpAny_isNot_plain rfl (fin _ rfl (by cases c <;> cases b <;> rfl))
  | int i=>cases r1; obtain ⟨t,rfl⟩:=rx; cases h; exact wpAny_isNot_plain rfl (fin _ rfl rfl)
  | str i=>cases r1; obtain ⟨t,rfl⟩:=rx; cases h; exact wpAny_isNot_plain rfl (fin _ rfl rfl)
  | tuple ds=>obtain ⟨a,vs,rfl,_⟩:=r1; cases rx; cases h; exact wpAny_isNot_plain rfl (fin _ rfl rfl)
  | list ds=>obtain ⟨a,vs,rfl,_⟩:=r1; cases rx; cases h; exact wpAny_isNot_plain rfl (fin _ rfl rfl)
  | dict ds=>cases h
 | _=>cases h
noncomputable def bp0 (K : PySem.W.Frag) (d : D) (u : Value) : Prop:=∃ v,Q6 v u ∧ ∀ H : Hp,Rep K H d v
theorem cO0 {x : Str} {d : D} {u : Value} {pos : Pos} (r : bp0 X.K d u) (hg : Gl X x) (hm : X.mg x = some u) (hd : (x == ("__debug__" : Str)) = false:=by decide) : JE X (.Name x pos) (dC d):=fun ρ d' q=>by
 cases q
 obtain ⟨v,rv,rp⟩:=r
 exact C3 (cl3 hg hm rv hd) fun σ H Q ⟨H0,Hf,s,sl,k⟩=>k _ H Hf (Grow.refl s) (rp Hf)
noncomputable def qN (f : Rho → Option (List D)) : Rho → Option (Bool × List D):=fun ρ=>(f ρ).map fun ds=>(false,ds)
theorem cM1 {e : Expr} {f : Rho → Option (List D)} (h : JN X e f) : JQ X e (qN f):=ca6 h
noncomputable def N4 (f : Rho → Option (Bool × List D)) : DE:=fun ρ=>(f ρ).bind fun q=>if q.1 = true then none else some (.tuple q.2)
theorem cp9 {e : Expr} {f : Rho → Option (Bool × List D)} {p pos : Pos} (hg : Gl X "tuple") (hm : X.mg "tuple" = none) (h : JQ X e f) (he : starEach [e] X.env = [(false,eval e X.env)]:=by rfl) : JE X (.Call (.Name "tuple" p) [e] [] pos) (N4 f):=cb0 hg hm h (he:=he)
end
end G
namespace G
open PySem PySem.Spec PyProof.Rows L2
theorem bR4 (l b : Addr) (items items2 : Array Value) (n n2 : Nat) (dd dd2 : Option Addr) (sl sl2 : Array (Option Value)) (hz : items.size + items2.size ≤ sizeLine) :
  Meets (Builtin.«list.__add__» ⟨[.ref l,.ref b],[]⟩) (fun _ R s=>s.heap.get? l = some ⟨.type "list", dd,.seq items n,sl⟩ ∧ s.heap.get? b = some ⟨.type "list", dd2,.seq items2 n2,sl2⟩ ∧ R (.ok (.ret (Value.ref s.heap.objs.size))) { s with heap:=s.heap.push { cls:=Value.type "list", data:=Data.seq (items ++ items2) } }) :=
 .of_wp fun prog w A R s h=>by
  obtain ⟨hp,g,d,tk,os⟩:=s
  obtain ⟨hl,hb,h⟩:=h
  have hsub : isSubtype (.type "list") (.type "list") = pure true:=by rw [isSubtype_type]; kernel_rfl
  have hsz:=hz
  wp_walk
  exact ⟨_,rfl,h⟩
section
variable {X : Cx}
theorem bB2 : OpR X (binaryOp .Add) (fun x y H Q=>∃ a b xs ys,x = .ref a ∧ y = .ref b ∧ SqL X.K H a xs ∧ SqL X.K H b ys ∧ xs.length + ys.length ≤ sizeLine ∧ ∀ p,H p = none → Q (.ref p) (upd H p (.lst (xs ++ ys)))):=by
 intro pins s σ H x y v u Q I rx ry h
 obtain ⟨a,b,xs,ys,rfl,rfl,ha,hb,hz,q⟩:=h
 cases rx
 cases ry
 obtain ⟨its,r1,p1,_⟩:=I.list ha
 obtain ⟨its2,r2,p2,_⟩:=I.list hb
 obtain ⟨⟨cls,dd,data,sl⟩,ho,hc,n,hd⟩:=p1.isList
 obtain ⟨⟨cls2,dd2,data2,sl2⟩,ho2,hc2,n2,hd2⟩:=p2.isList
 simp only at hc hd hc2 hd2
 subst hc hd hc2 hd2
 have l1:=r1.length
 have l2:=r2.length
 refine concat_meets ⟨_,ho,rfl⟩ ⟨_,ho2,rfl⟩ noFill_list_add seq_list_add PySem.F.slot_list_add PySem.F.entry_list_add (PySem.F.args_list_add_2 _ _) (bR4 a b its.toArray its2.toArray n n2 dd dd2 sl sl2 (by simp only [List.size_toArray]; omega)) ⟨ho,ho2,?_⟩
 have ea : its.toArray ++ its2.toArray = (its ++ its2).toArray:=by simp
 rw [ea]
 exact ⟨.ref _,_,I.lnew (t':=s.toks) (r1.append r2) (by rw [List.length_append]; omega),rfl,q _ I.fresh⟩
noncomputable def B5 (x y : D) : Option D:=match x,y with
 | .list xs,.list ys=>if xs.length + ys.length ≤ 16777216 then some (.list (xs ++ ys)) else none
 | x,y=>af6 x y
theorem cm6 : OpD X (binaryOp .Add) B5:=fun x y z h=>by
 unfold B5 at h
 split at h
 ·split at h
  ·rename_i c
   cases h
   refine OpR.imp bB2 fun vx vy H Q ⟨Hf,s,r1,r2,k⟩=>?_
   obtain ⟨a,vs,rfl,h2,h3⟩:=r1
   obtain ⟨b,us,rfl,h5,h6⟩:=r2
   refine ⟨a,b,vs,us,rfl,rfl,K8 s h2,K8 s h5,by rw [h3.length,h6.length,sizeLine_eq]; exact c,fun p hp=>?_⟩
   exact k _ _ _ (Grow.laid s hp) ⟨p,vs ++ us,rfl,SqL.of C6,(h3.append h6).mono (G0 (s.free hp))⟩
  ·cases h
 ·exact bX2 _ _ z h
noncomputable def cv9 (f : DE) : DE:=fun ρ=>(f ρ).bind fun d=>match d with
 | .tuple xs=>some (.tuple xs.reverse)
 | _=>none
end
end G
namespace G
theorem xg0 {α : Type} {a : α} {l : List α} : (a :: l)[0]? = some a:=rfl
theorem xg1 {α : Type} {a : α} {i : Nat} {l : List α} : (a :: l)[i + 1]? = l[i]?:=rfl
theorem xw0 {α : Type} {a b : α} {l : List α} : (a :: l).set 0 b = b :: l:=rfl
theorem xw1 {α : Type} {a b : α} {i : Nat} {l : List α} : (a :: l).set (i + 1) b = a :: l.set i b:=rfl
theorem xbs {α β : Type} {a : α} {f : α → Option β} : (some a).bind f = f a:=rfl
theorem xms {α β : Type} {a : α} {f : α → β} : (some a).map f = some (f a):=rfl
theorem xca {α : Type} {a : α} {l m : List α} : (a :: l) ++ m = a :: (l ++ m):=rfl
theorem xna {α : Type} {l : List α} : [] ++ l = l:=rfl
theorem xmc {α β : Type} {f : α → β} {a : α} {l : List α} : (a :: l).map f = f a :: l.map f:=rfl
theorem xmn {α β : Type} {f : α → β} : [].map f = []:=rfl
theorem xnf : (!false) = true:=rfl
theorem xnt : (!true) = false:=rfl
theorem xft : (false = true) = False:=by simp
end G
local macro_rules
  | `(‹$x›)=>`(some (G.B.val $x))
noncomputable section
namespace Sh
open PySem PySem.Spec PyProof.Rows L2 G
def aF9 : DS:=(A6 (ah2 (tB2 neD (A1 1) (dC (.int 0))) (A6 (B4 2 (A5 ab7 (A1 0) (A1 1))) (A6 (B4 0 (A1 1)) (B4 1 (A1 2))))) (A9 (A1 0)))
def Q0 : List D → Option D:=C4 aF9 3
def x9 : DS:=(A6 (B4 2 (A2 Q0 (A0 (A1 0) (A0 (A1 1) A3)))) (A9 (F6 (A0 (A5 av7 (A1 0) (A1 2)) (A0 (A5 av7 (A1 1) (A1 2)) A3)))))
def V8 : List D → Option D:=C4 x9 3
def y6 : DS:=(A9 (A5 leI (A5 o5 (dIx (A8 0) (dC (.int 0))) (dIx (A8 1) (dC (.int 1)))) (A5 o5 (dIx (A8 1) (dC (.int 0))) (dIx (A8 0) (dC (.int 1))))))
def c7 : List D → Option D:=C4 y6 2
def aK9 : DS:=(A9 (A2 V8 (A0 (A5 af6 (A5 o5 (dIx (A8 0) (dC (.int 0))) (dIx (A8 1) (dC (.int 1)))) (A5 o5 (dIx (A8 1) (dC (.int 0))) (dIx (A8 0) (dC (.int 1))))) (A0 (A5 o5 (dIx (A8 0) (dC (.int 1))) (dIx (A8 1) (dC (.int 1)))) A3))))
def U3 : List D → Option D:=C4 aK9 2
def aj1 : DS:=(A9 (A2 V8 (A0 (A5 aG7 (A5 o5 (dIx (A8 0) (dC (.int 0))) (dIx (A8 1) (dC (.int 1)))) (A5 o5 (dIx (A8 1) (dC (.int 0))) (dIx (A8 0) (dC (.int 1))))) (A0 (A5 o5 (dIx (A8 0) (dC (.int 1))) (dIx (A8 1) (dC (.int 1)))) A3))))
def T3 : List D → Option D:=C4 aj1 2
def aK8 : DS:=(A9 (A2 V8 (A0 (A5 o5 (dIx (A8 0) (dC (.int 0))) (dIx (A8 1) (dC (.int 0)))) (A0 (A5 o5 (dIx (A8 0) (dC (.int 1))) (dIx (A8 1) (dC (.int 1)))) A3))))
def U2 : List D → Option D:=C4 aK8 2
def aq9 : DS:=(A9 (A2 T3 (A0 (dC (.tuple [(.int 1),(.int 1)])) (A0 (A1 0) A3))))
def j9 : List D → Option D:=C4 aq9 1
def n8 : DS:=(A9 (as5 (K5 (A2 c7 (A0 (A1 0) (A0 (dC (.tuple [(.int 1),(.int 1)])) A3)))) (A1 0) (dC (.tuple [(.int 1),(.int 1)]))))
def X1 : List D → Option D:=C4 n8 1
def P0 : DS:=(A6 (sIf (tB2 eqD (A1 0) (dC (.str "plus"))) (A9 (A2 X1 (A0 (A2 U3 (A0 (A1 1) (A0 (A1 2) A3))) A3))) C1) (A6 (sIf (tB2 eqD (A1 0) (dC (.str "atop"))) (A9 (A1 2)) C1) (A6 (sIf (tB2 eqD (A1 0) (dC (.str "cut"))) (A9 (A2 U2 (A0 (A1 2) (A0 (A2 j9 (A0 (A1 1) A3)) A3)))) C1) (A9 (A2 T3 (A0 (A2 U3 (A0 (A1 1) (A0 (A1 2) A3))) (A0 (A2 U2 (A0 (A1 1) (A0 (A1 2) A3))) A3)))))))
def Y0 : List D → Option D:=C4 P0 3
def O2 : DS:=(A6 (sIf (tB2 eqD (A1 0) (dC (.str "plus"))) (A9 (A2 X1 (A0 (A2 U3 (A0 (A1 3) (A0 (A1 4) A3))) A3))) C1) (A6 (sIf (tB2 eqD (A1 0) (dC (.str "screen"))) (A9 (A2 T3 (A0 (A2 U3 (A0 (A1 3) (A0 (A1 4) A3))) (A0 (A2 U2 (A0 (A1 3) (A0 (A1 4) A3))) A3)))) C1) (A6 (B4 5 (A2 U2 (A0 (A1 4) (A0 (A2 j9 (A0 (A1 1) A3)) A3)))) (A6 (sIf (tB2 eqD (A1 0) (dC (.str "over"))) (A9 (A2 U3 (A0 (A1 3) (A0 (A1 5) A3)))) C1) (A6 (sIf (tB2 eqD (A1 0) (dC (.str "multiply"))) (A9 (A2 U3 (A0 (A2 U3 (A0 (A2 U2 (A0 (A1 3) (A0 (A1 4) A3))) (A0 (A2 U2 (A0 (A1 3) (A0 (A2 j9 (A0 (A1 2) A3)) A3))) A3))) (A0 (A1 5) A3)))) C1) (A6 (sIf (tB2 eqD (A1 0) (dC (.str "atop"))) (A9 (A2 U3 (A0 (A2 U2 (A0 (A1 3) (A0 (A1 2) A3))) (A0 (A1 5) A3)))) C1) (A9 (A1 5))))))))
def V9 : List D → Option D:=C4 O2 6
def aX7 : DS:=(A6 (B4 3 (dIx (A8 1) (dC (.int 0)))) (A6 (B4 4 (dIx (A8 2) (dC (.int 0)))) (A6 (R0 5 (B8 2 [0,3,4] (as1 (qE (ak0 (A1 1) (F9 (dC (.int 1))) N0)) (qE (ak0 (A1 2) (F9 (dC (.int 1))) N0))) (K4 2 (B2 (B1 0) (B2 (B1 1) K7))) C8 (A2 V9 (A0 (A1 2) (A0 (A1 3) (A0 (A1 4) (A0 (A1 0) (A0 (A1 1) A3)))))))) (A9 (F6 (A0 (A2 Y0 (A0 (A1 0) (A0 (A1 3) (A0 (A1 4) A3)))) (A0 (dIx (A8 5) (dC (.int 0))) (A0 (dIx (A8 5) (dC (.int 1))) (A0 (dIx (A8 5) (dC (.int 2))) A3)))))))))
def aa2 : List D → Option D:=C4 aX7 6
def aQ2 : DS:=(A6 (sIf (tB2 eqD (A1 0) (P3 A3)) (A9 (A5 o5 (dC (.int 7)) (A1 1))) C1) (A9 (A5 af6 (dIx (A8 0) (A5 ab7 (A1 1) (R3 (A8 0)))) (A5 o5 (dC (.int 6553)) (A5 av7 (A1 1) (R3 (A8 0)))))))
def aA5 : List D → Option D:=C4 aQ2 2
def aX2 : DS:=(A6 (B4 3 (A5 ab7 (A5 af6 (A5 o5 (A5 ab7 (A2 aA5 (A0 (A1 0) (A0 (A1 1) A3))) (dC (.int 2147483563))) (dC (.int 69069))) (A5 o5 (dC (.int 104723)) (A5 af6 (A1 1) (dC (.int 1))))) (dC (.int 2147483563)))) (A6 (B4 3 (A5 ab7 (A5 af6 (A5 o5 (A1 3) (A1 3)) (A5 av7 (A1 3) (dC (.int 3)))) (dC (.int 2147483399)))) (A9 (A5 ab7 (A5 av7 (A5 ab7 (A5 af6 (A5 o5 (A1 3) (A1 3)) (A5 av7 (A1 3) (dC (.int 7)))) (dC (.int 2147483647))) (dC (.int 11))) (A1 2)))))
def A7 : List D → Option D:=C4 aX2 4
def aA1 : DS:=(A6 (B4 2 (A1 0)) (A6 (B4 3 (A1 1)) (A6 (ah2 (tB2 gtI (A1 2) (dC (.int 0))) (bV0 2 3 (A0 (A5 ab7 (A1 3) (A1 2)) (A0 (A1 2) A3)))) (A9 (F6 (A0 (A5 av7 (A1 0) (A1 3)) (A0 (A5 av7 (A1 1) (A1 3)) A3)))))))
def ab3 : List D → Option D:=C4 aA1 4
def aW8 : DS:=(A9 (A2 ab3 (A0 (A5 o5 (dIx (A8 0) (dC (.int 0))) (dIx (A8 1) (dC (.int 0)))) (A0 (A5 o5 (dIx (A8 0) (dC (.int 1))) (dIx (A8 1) (dC (.int 1)))) A3))))
def ar4 : List D → Option D:=C4 aW8 2
def aW9 : DS:=(A6 (B4 2 (A5 af6 (dC (.int 1)) (A2 A7 (A0 (A1 0) (A0 (A1 1) (A0 (dC (.int 12)) A3)))))) (A6 (B4 3 (A2 ab3 (A0 (A2 A7 (A0 (A1 0) (A0 (A5 af6 (A1 1) (dC (.int 1))) (A0 (A5 af6 (A1 2) (dC (.int 1))) A3)))) (A0 (A1 2) A3)))) (A9 (dIx (qN (A0 (A1 3) (A0 (A1 3) (A0 (A1 3) (A0 (F6 (A0 (dC (.int 0)) (A0 (dC (.int 1)) A3))) (A0 (F6 (A0 (dC (.int 1)) (A0 (dC (.int 1)) A3))) A3)))))) (A2 A7 (A0 (A1 0) (A0 (A5 af6 (A1 1) (dC (.int 2))) (A0 (dC (.int 5)) A3))))))))
def P9 : List D → Option D:=C4 aW9 4
def bp3 : DS:=(A6 (B4 2 (A2 P9 (A0 (A1 0) (A0 (A1 1) A3)))) (A9 (A5 af6 (F6 (A0 (A1 2) A3)) (N4 (qN (B8 1 [2,0,1] (O4 (dC (.int 3))) (B1 0) C8 (A2 ar4 (A0 (A1 1) (A0 (A2 P9 (A0 (A1 2) (A0 (A5 af6 (A5 af6 (A1 3) (dC (.int 3))) (A5 o5 (dC (.int 3)) (A1 0))) A3))) A3)))))))))
def V0 : List D → Option D:=C4 bp3 3
def bg2 : DS:=(A9 (R6 (W4 "int" (A1 0)) (ae4 (W4 "bool" (A1 0)))))
def aj3 : List D → Option D:=C4 bg2 1
def aA2 : DS:=(A6 (sIf (Q9 (L4 (K5 (W4 "tuple" (A1 0)))) (Q9 (tB2 neD (R3 (A8 0)) (dC (.int 2))) (Q9 (L4 (K5 (A2 aj3 (A0 (dIx (A8 0) (dC (.int 0))) A3)))) (L4 (K5 (A2 aj3 (A0 (dIx (A8 0) (dC (.int 1))) A3))))))) (A9 (dC (.bool false))) C1) (A9 (R6 (A5 gtI (dIx (A8 0) (dC (.int 1))) (dC (.int 0))) (R6 (N2 leI leI (dC (.int 0)) (dIx (A8 0) (dC (.int 0))) (dIx (A8 0) (dC (.int 1)))) (A5 eqD (A2 ab3 (A0 (dIx (A8 0) (dC (.int 0))) (A0 (dIx (A8 0) (dC (.int 1))) A3))) (A1 0))))))
def bg7 : List D → Option D:=C4 aA2 1
def bz1 : DS:=(A9 (R6 (W4 "int" (A1 0)) (ae4 (W4 "bool" (A1 0)))))
def S0 : List D → Option D:=C4 bz1 1
def aQ5 : DS:=(A6 (sIf (Q9 (L4 (K5 (W4 "tuple" (A1 0)))) (tB2 neD (R3 (A8 0)) (dC (.int 2)))) (A9 (dC (.bool false))) C1) (A6 (B4 1 (dIx (A8 0) (dC (.int 0)))) (A6 (B4 2 (dIx (A8 0) (dC (.int 1)))) (A6 (sIf (Q9 (L4 (K5 (A2 S0 (A0 (A1 1) A3)))) (L4 (K5 (A2 S0 (A0 (A1 2) A3))))) (A9 (dC (.bool false))) C1) (A9 (R6 (A5 gtI (A1 2) (dC (.int 0))) (R6 (N2 leI leI (dC (.int 0)) (A1 1) (A1 2)) (A5 eqD (A2 Q0 (A0 (A1 1) (A0 (A1 2) A3))) (dC (.int 1))))))))))
def Y7 : List D → Option D:=C4 aQ5 3
def aX3 : DS:=(A6 (sIf (Q9 (L4 (K5 (W4 "tuple" (A1 0)))) (tB2 neD (R3 (A8 0)) (dC (.int 4)))) (A9 (dC (.bool false))) C1) (A6 (sIf (L4 (K5 (j0 (qN (B8 1 [] (G1 (A1 0)) (B1 0) C8 (A2 Y7 (A0 (A1 0) A3))))))) (A9 (dC (.bool false))) C1) (A9 (j0 (qN (B8 1 [0] (G1 (ak0 (A1 0) (F9 (dC (.int 1))) N0)) (B1 0) C8 (A2 c7 (A0 (A1 0) (A0 (dIx (A8 1) (dC (.int 0))) A3)))))))))
def ag2 : List D → Option D:=C4 aX3 1
def ar0 : DS:=(A6 (B4 2 (dIx (A8 1) (dC (.int 0)))) (A6 (B4 3 (dIx (A8 1) (dC (.int 1)))) (A6 (B4 4 (dIx (A8 1) (dC (.int 2)))) (A6 (B4 5 (dIx (A8 1) (dC (.int 3)))) (A6 (sIf (tB2 eqD (A1 0) (dC (.str "turn"))) (A9 (F6 (A0 (A1 2) (A0 (A2 T3 (A0 (A1 2) (A0 (A1 3) A3))) (A0 (A2 T3 (A0 (A1 2) (A0 (A1 4) A3))) (A0 (A2 T3 (A0 (A1 2) (A0 (A1 5) A3))) A3)))))) C1) (A6 (sIf (tB2 eqD (A1 0) (dC (.str "grey"))) (A6 (B4 6 (A2 U2 (A0 (A2 U3 (A0 (A2 U3 (A0 (A1 3) (A0 (A1 4) A3))) (A0 (A1 5) A3))) (A0 (dC (.tuple [(.int 1),(.int 3)])) A3)))) (A9 (F6 (A0 (A1 2) (A0 (A1 6) (A0 (A1 6) (A0 (A1 6) A3))))))) C1) (A9 (F6 (A0 (A1 2) (A0 (A1 4) (A0 (A1 5) (A0 (A1 3) A3))))))))))))
def ar8 : List D → Option D:=C4 ar0 7
def bE7 : DS:=(A9 (A2 U3 (A0 (A2 U2 (A0 (A1 0) (A0 (A1 1) A3))) (A0 (A2 U2 (A0 (A2 j9 (A0 (A1 0) A3)) (A0 (A1 2) A3))) A3))))
def aL0 : List D → Option D:=C4 bE7 3
def bE6 : DS:=(A9 (N4 (qN (B8 2 [2] (as1 (qE (A2 ar8 (A0 (A1 0) (A0 (A1 1) A3)))) (qE (A1 1))) (K4 2 (B2 (B1 0) (B2 (B1 1) K7))) C8 (A2 aL0 (A0 (A1 2) (A0 (A1 0) (A0 (A1 1) A3))))))))
def aA4 : List D → Option D:=C4 bE6 3
end Sh
namespace G
open PySem PySem.Spec PyProof.Rows L2
section
variable {prog : Program} {w : World} {A : Around} {E : Value → Shared → Prop} {s : Shared}
theorem by8 (n : Nat) : Builtin.Slice.sliceAdjust none none (-1) (n : Int) = ((n : Int) - 1,-1):=by
 unfold Builtin.Slice.sliceAdjust
 have h1 : (-1 : Int) < 0:=by omega
 simp only [h1,if_true]
theorem br8 (n : Nat) : Builtin.Slice.slicePlaces ((n : Int) - 1) (-1) (-1) = n:=by
 unfold Builtin.Slice.slicePlaces
 have h1 : ¬ (-1 : Int) > 0:=by omega
 have h2 : -(-1 : Int) = 1:=by omega
 simp only [h1,if_false,h2,Int.ediv_one]
 split <;> omega
theorem aA9 {sl : Addr} {t : Tok} {n : Nat} {Q : Int × Int × Nat → Shared → Prop} (hs : s.heap.IsSliceOf sl .none .none (.int (-1) t))
  (h : Q ((n : Int) - 1,-1,n) s) : wpAny (model prog w) A (Builtin.Slice.sliceApplied (.ref sl) (pure (n : Int))) Q E s:=by
 obtain ⟨os,hos,hcs,hds⟩:=id hs
 unfold Builtin.Slice.sliceApplied Builtin.Slice.sliceFields
 refine wpAny_bind (wpAny_bind (wpAny_field hos hds (x:=.none) rfl (wpAny_bind (wpAny_field hos hds (x:=.none) rfl (wpAny_bind (wpAny_field hos hds (x:=.int (-1) t) rfl (wpAny_pure ?_)))))))
 refine wpAny_bind (slicePart_int ?_)
 show wpAny _ _ (if ((-1 : Int) == 0) = true then _ else _) _ _ s
 rw [if_neg (by decide)]
 refine wpAny_bind (slicePart_none (wpAny_bind (slicePart_none (wpAny_bind (wpAny_pure ?_)))))
 show wpAny _ _ (match Builtin.Slice.sliceAdjust none none (-1) (n : Int) with | (lo,hi)=>pure (lo,(-1 : Int),Builtin.Slice.slicePlaces lo hi (-1))) _ _ s
 rw [by8 n]
 show wpAny _ _ (pure ((n : Int) - 1,(-1 : Int),Builtin.Slice.slicePlaces ((n : Int) - 1) (-1) (-1))) _ _ s
 rw [br8]
 exact wpAny_pure h
theorem bi7 {α : Type} : ∀ l : List α,(List.range l.length).filterMap (fun k=>l[k]?) = l
 | []=>rfl
 | a :: l=>by
  rw [List.length_cons,List.range_succ_eq_map,List.filterMap_cons,List.filterMap_map]
  simp only [xg0]
  congr 1
  exact bi7 l
theorem bm3 {α β : Type} {f g : α → Option β} : ∀ {l : List α},(∀ x ∈ l,f x = g x) → l.filterMap f = l.filterMap g
 | [],_=>rfl
 | a :: l,h=>by rw [List.filterMap_cons,List.filterMap_cons,h a (List.mem_cons_self ..),bm3 fun x hx=>h x (List.mem_cons_of_mem _ hx)]
theorem bW1 (xs : Array Value) : ((List.range xs.size).filterMap fun (k : Nat)=>xs[(((xs.size : Int) - 1) + (k : Int) * -1).toNat]?).toArray = xs.toList.reverse.toArray:=by
 congr 1
 have e : ∀ k ∈ List.range xs.size,xs[(((xs.size : Int) - 1) + (k : Int) * -1).toNat]? = xs.toList.reverse[k]?:=by
  intro k hk
  have hk:=List.mem_range.mp hk
  have : (((xs.size : Int) - 1) + (k : Int) * -1).toNat = xs.size - 1 - k:=by omega
  rw [this,List.getElem?_reverse (by rw [Array.length_toList]; exact hk),Array.length_toList,Array.getElem?_toList]
 rw [bm3 e]
 have:=bi7 xs.toList.reverse
 rw [List.length_reverse,Array.length_toList] at this
 exact this
theorem ay7 {t sl : Addr} {items : Array Value} {k : Tok} {Q : Value → Shared → Prop} (ht : IsTup s.heap t items) (hs : s.heap.IsSliceOf sl .none .none (.int (-1) k))
  (h : Q (.ref s.heap.objs.size) { s with heap:=s.heap.push { cls:=.type "tuple", data:=.seq items.toList.reverse.toArray } })
  (hsz : items.size ≤ sizeLine) : wpAny (model prog w) A (getItem (.ref t) (.ref sl)) Q E s:=by
 have htake : sizeOk (.seq items.toList.reverse.toArray):=by
  show items.toList.reverse.toArray.size ≤ sizeLine
  rw [List.size_toArray,List.length_reverse,Array.length_toList]
  omega
 obtain ⟨os,hos,hcs,hds⟩:=id hs
 have hTs : s.TypeIs (.ref sl) "slice" := ⟨os,hos,hcs⟩
 unfold getItem
 try with_reducible refine wpAny_holding ?_
 first | refine wpAny_bind (wpAny_pure ?_) | skip
 refine wpAny_bind (wpAny_sequenceKey ht.typeIs (by decide) ?_)
 refine wpAny_bind (wpAny_callSpecial?_slot (name:=Str.ofString "__getitem__") ht.typeIs PyProof.Rows.slot_tuple_getitem
  (wpAny_call_entry PyProof.Rows.slot_tuple_getitem ht.typeIs entry_tuple_getitem ?_ (args_tuple_getitem _ _)))
 show wpAny _ _ (Builtin.Tuple.tupleItemsOf (.ref t) >>= _) _ _ s
 refine wpAny_bind (tupleItemsOf_ ht ?_)
 refine wpAny_bind (wpAny_typeOf hTs ?_)
 rw [if_pos (by decide)]
 refine wpAny_bind (aA9 hs ?_)
 have hno : ¬ ((((items.size : Int) - 1) == 0 && (-1 : Int) == 1 && items.size == items.size) = true):=by
  have : ((-1 : Int) == 1) = false:=rfl
  rw [this]; simp
 show wpAny _ _ (if (((items.size : Int) - 1) == 0 && (-1 : Int) == 1 && items.size == items.size) = true then _ else _) _ _ s
 rw [if_neg hno,bW1]
 first
  | exact wpAny_bind (m:=Builtin.Tuple.tupleExact _) (wpAny_newObj_type (wpAny_pure ⟨_,rfl,wpAny_pure h⟩) htake)
  | exact wpAny_bind (m:=Builtin.Tuple.tupleExact _) (wpAny_newObj_type (wpAny_bind (wpAny_pure (wpAny_pure ⟨_,rfl,wpAny_pure h⟩))) htake)
  | exact wpAny_bind (wpAny_bind (m:=Builtin.Tuple.tupleExact _) (wpAny_newObj_type (wpAny_pure (wpAny_pure ⟨_,rfl,wpAny_pure h⟩)) htake))
  | exact wpAny_bind (wpAny_bind (m:=Builtin.Tuple.tupleExact _) (wpAny_newObj_type (wpAny_pure ⟨_,rfl,wpAny_pure h⟩) htake))
end
section
variable {X : Cx} {e st : Expr} {te ts : TE} {p2 pos : Pos}
theorem bh4 : ∀ {xs : List V} {us : List Value},K2 xs us → K2 xs.reverse us.reverse
 | [],[],h=>h
 | x :: xs,u :: us,h=>by
  cases h with
  | cons a b=>rw [List.reverse_cons,List.reverse_cons]; exact (bh4 b).append (.cons a .nil)
theorem cG8 (he : PE X e te) (hs : PE X st ts) : PE X (.Subscript e (.Slice none none (some st) p2) pos)
  (fun σ H Q=>te σ H fun x H1=>ts σ H1 fun y H2=>∃ a xs,x = .ref a ∧ y = .int (-1) ∧ SqT X.K H2 a xs ∧ ∀ p,H2 p = none → Q (.ref p) (upd H2 p (.tup xs.reverse))):=by
 intro pins s σ H Q I h
 refine Subscript_ (thn (he pins s σ H _ I h) fun v s1 ⟨x,H1,I1,r1,q1⟩=>?_)
 refine wpAny_Slice ?_
 rw [evalPart_none]
 refine wpAny_pure (wpAny_pure ?_)
 rw [evalPart_some]
 refine thn (hs pins s1 σ H1 _ I1 q1) fun vs s3 ⟨y,H3,I3,r3,a,xs,e1,e2,hx,q⟩=>?_
 subst e1 e2
 cases r1
 obtain ⟨tk,rfl⟩:=r3
 have I4 : Inv X pins σ H3 { s3 with heap:=s3.heap.push { cls:=.type "slice", data:=.fields #[.none,.none,.int (-1) tk] } }:=I3.kept (t':=s3.toks) fun b ob q=>Heap.get?_push_of_some _ q
 obtain ⟨its,r,ht,hz⟩:=I4.tuple hx
 have hlen : its.toArray.size = xs.length:=by rw [List.size_toArray]; exact r.length.symm
 show wpAny (model X.prog X.w) X.A (subscriptTail e (.Slice none none (some st) p2) (.ref a) (.ref s3.heap.objs.size)) (EP X pins σ Q) X.xe { s3 with heap:=s3.heap.push { cls:=.type "slice", data:=.fields #[.none,.none,.int (-1) tk] } }
 refine tail_any (ops:=[.ref a,.ref s3.heap.objs.size]) ht.typeIs PyProof.Rows.slot_tuple_getitem.lookup ?_ (by with_unfolding_all rfl)
 refine ay7 ht (Heap.IsSliceOf.new ..) ?_ (by rw [hlen]; exact hz)
 refine ⟨.ref _,_,I4.laid (t':=s3.toks) (o:=.tup xs.reverse) (fun b ob q=>Heap.get?_push_of_some _ q) (Nat.le_refl _) ?_,rfl,q _ (I4.hok.fresh (Nat.le_refl _))⟩
 exact ⟨by rw [List.length_reverse]; exact hz,_,bh4 r,IsTup.new _ _⟩
theorem bV3 {K : PySem.W.Frag} {H : Hp} {ds : List D} {vs : List V} (h : Reps K H ds vs) : Reps K H ds.reverse vs.reverse:=by
 induction ds generalizing vs with
 | nil=>cases vs with
  | nil=>exact h
  | cons _ _=>exact absurd h.length (by simp)
 | cons d ds ih=>cases vs with
  | nil=>exact absurd h.length (by simp)
  | cons v vs =>
   obtain ⟨v',r',e,h1,h2⟩:=h
   cases e
   rw [List.reverse_cons,List.reverse_cons]
   exact (ih h2).append ⟨_,_,rfl,h1,rfl⟩
theorem cq0 {a st : Expr} {f : DE} {pos p2 : Pos} (ha : JE X a f) (hs : JE X st (aI5 (dC (.int 1)))) : JE X (.Subscript a (.Slice none none (some st) p2) pos) (cv9 f):=fun ρ d q=>by
 obtain ⟨x,e1,q⟩:=Option.bind_eq_some_iff.mp q
 cases x with
 | tuple xs =>
  cases q
  refine C3 (cG8 (ha ρ _ e1) (hs ρ (.int (-1)) rfl)) fun σ H Q ⟨H0,Hf,s,sl,k⟩=>?_
  refine ⟨H0,Hf,s,sl,fun v H1 Hf1 g1 ⟨p,vs,q1,q2,q3⟩=>⟨H0,Hf1,g1.sub,sl.grow g1,fun u H2 Hf2 g2 r2=>?_⟩⟩
  subst q1
  cases r2
  have q2':=E2 g2.ext q2
  have q3':=q3.mono g2.ext
  refine ⟨p,vs,rfl,rfl,E2 g2.sub q2',fun p' hp=>?_⟩
  exact k _ _ _ ((g1.trans g2).trans (Grow.laid g2.sub hp)) ⟨p',_,rfl,SqT.of C6,(bV3 q3').mono (G0 (g2.sub.free hp))⟩
 | _=>cases q
end
end G
namespace Sh
open PySem PySem.Spec PyProof.Rows L2 G
def aP7 : DS:=(A9 (N4 (qN (B8 1 [1] (G1 (A1 0)) (B1 0) C8 (A2 U2 (A0 (A1 0) (A0 (A1 1) A3)))))))
def ab1 : List D → Option D:=C4 aP7 2
end Sh
namespace G
open PySem PySem.Spec PyProof.Rows L2
section
variable {X : Cx}
def atS (x : Str) (i : Int) : Option D:=if x.length ≤ 16777216 then (atI x.cps.toList i).map fun c=>.str ⟨#[c]⟩ else none
def av8 (f g : DE) : DE:=fun ρ=>(f ρ).bind fun x=>(g ρ).bind fun i=>match x,i with
 | .str x,.int i=>atS x i
 | _,_=>none
theorem cN7 {a b : Expr} {f g : DE} {pos : Pos} (ha : JE X a f) (hb : JE X b g) (hs : aK7 b:=by intro _ _; rfl) : JE X (.Subscript a b pos) (av8 f g):=fun ρ d q=>by
 obtain ⟨x,h1,q⟩:=Option.bind_eq_some_iff.mp q
 obtain ⟨y,h2,h3⟩:=Option.bind_eq_some_iff.mp q
 split at h3
 ·rename_i x i
  unfold atS at h3
  split at h3
  ·rename_i hz
   obtain ⟨c,e1,e2⟩:=Option.map_eq_some_iff.mp h3
   subst e2
   refine C3 (cu7 cb9 (ha ρ _ h1) (hb ρ _ h2) hs) fun σ H Q ⟨H0,Hf,s,sl,k⟩=>?_
   refine ⟨H0,Hf,s,sl,fun v H1 Hf1 g1 r1=>⟨H0,Hf1,g1.sub,sl.grow g1,fun u H2 Hf2 g2 r2=>?_⟩⟩
   exact .inr (.inr ⟨x,i,c,r1,r2,by rw [sizeLine_eq]; exact hz,e1,k _ H2 Hf2 (g1.trans g2) rfl⟩)
  ·cases h3
 ·cases h3
def am8 (f : DE) (lo hi : Rho → Option (Option Int)) : DE:=fun ρ=>(f ρ).bind fun d=>(lo ρ).bind fun l=>(hi ρ).bind fun h=>match d with
 | .tuple xs=>some (.tuple (aj0 xs l h))
 | .list xs=>some (.list (aj0 xs l h))
 | _=>none
theorem cN3 {a : Expr} {lo hi : Option Expr} {f : DE} {l h : Rho → Option (Option Int)} {pos p2 : Pos} (ha : JE X a f) (hl : JO X lo l) (hh : JO X hi h) : JE X (.Subscript a (.Slice lo hi none p2) pos) (am8 f l h):=fun ρ d q=>by
 obtain ⟨x,e1,q⟩:=Option.bind_eq_some_iff.mp q
 obtain ⟨y,e2,q⟩:=Option.bind_eq_some_iff.mp q
 obtain ⟨z,e3,q⟩:=Option.bind_eq_some_iff.mp q
 cases x with
 | tuple xs =>
  cases q
  refine cb2 ha hl hh ρ _ ?_
  unfold ak0
  rw [e1,xbs,e2,xbs,e3,xbs]
 | list xs =>
  cases q
  refine C3 (ay0 bA0 (ha ρ _ e1) (hl ρ y e2) (hh ρ z e3)) fun σ H Q ⟨H0,Hf,s,sl,k⟩=>?_
  refine ⟨H0,Hf,s,sl,fun v H1 Hf1 g1 ⟨p,vs,q1,q2,q3⟩=>⟨H0,Hf1,g1.sub,sl.grow g1,fun H2 Hf2 g2=>⟨H0,Hf2,g2.sub,sl.grow (g1.trans g2),fun H3 Hf3 g3=>?_⟩⟩⟩
  subst q1
  have q2':=K8 (g2.trans g3).ext q2
  have q3':=q3.mono (g2.trans g3).ext
  refine ⟨p,vs,rfl,K8 g3.sub q2',fun p' hp=>?_⟩
  exact k _ _ _ (((g1.trans g2).trans g3).trans (Grow.laid g3.sub hp)) ⟨p',_,rfl,SqL.of C6,(aM5 q3' y z).mono (G0 (g3.sub.free hp))⟩
 | _=>cases q
end
end G
namespace G
open PySem PySem.Spec PyProof.Rows L2
section
variable {X : Cx}
theorem ao2 : ∀ {ys : List Str} {us : List Value},K2 (ys.map V.str) us → ∃ l : List (Str × Tok),us = strValues l ∧ l.map (·.1) = ys
 | [],[],_=>⟨[],rfl,rfl⟩
 | y :: ys,u :: us,h=>by
  cases h with
  | cons a b =>
   obtain ⟨t,rfl⟩:=a
   obtain ⟨l,rfl,rfl⟩:=ao2 b
   exact ⟨(y,t) :: l,rfl,rfl⟩
def ay3 (sep : Str) (ys : List Str) : Nat:=ys.toArray.foldl (fun n y=>n + y.length + sep.length) 0
def cU3 (K : PySem.W.Frag) : V → List V → Hp → VK → Prop:=fun x vs H Q=>∃ sep p ys,x = .str sep ∧ vs = [.ref p] ∧ SqL K H p (ys.map V.str) ∧ ay3 sep ys ≤ sizeLine ∧ (Builtin.Str.glued sep ys).length ≤ sizeLine ∧ Q (.str (Builtin.Str.glued sep ys)) H
theorem cn7 : MtR X "str.join" (cU3 X.K):=by
 intro pins s σ H x vs v us Q I rx rv h
 obtain ⟨sep,p,ys,rfl,rfl,hq,hz,hg,q⟩:=h
 obtain ⟨t,rfl⟩:=rx
 obtain ⟨u,rfl,ru⟩:=rv.one
 cases ru
 obtain ⟨its,r,pl,_⟩:=I.list hq
 obtain ⟨l,rfl,rfl⟩:=ao2 r
 refine call_meets F.slot_str_join (typeIs_str s sep t) F.entry_str_join (F.args_str_join_2 _ _) (meets_str_join_list sep t p l ?_) ⟨pl.isList,?_⟩
 ·show decide (ay3 sep (l.map (·.1)) > sizeLine) = false
  exact decide_eq_false (by omega)
 ·match l,q,hg with
  | [],q,hg=>exact ⟨hg,.str _,H,I.tok _,⟨_,rfl⟩,q⟩
  | [a],q,_=>exact ⟨.str _,H,I,⟨_,rfl⟩,q⟩
  | a :: b :: r,q,hg=>exact ⟨hg,.str _,H,I.tok _,⟨_,rfl⟩,q⟩
def aG0 : List D → Option (List Str)
 | []=>some []
 | .str x :: r=>(aG0 r).map fun ys=>x :: ys
 | _ :: _=>none
theorem aD3 {K : PySem.W.Frag} {H : Hp} : ∀ {ds : List D} {ys : List Str} {vs : List V},aG0 ds = some ys → Reps K H ds vs → vs = ys.map V.str
 | [],ys,vs,h,r=>by cases h; exact r
 | .str x :: ds,ys,vs,h,r=>by
  obtain ⟨zs,e1,e2⟩:=Option.map_eq_some_iff.mp h
  subst e2
  obtain ⟨v,r',e,h1,h2⟩:=r
  subst e
  rw [aD3 e1 h2]
  cases h1
  rfl
def aP1 (f : DE) (g : Rho → Option (Bool × List D)) : DE:=fun ρ=>(f ρ).bind fun s=>(g ρ).bind fun q=>match s with
 | .str sep=>if q.1 = true then none else (aG0 q.2).bind fun ys=>if ay3 sep ys ≤ 16777216 ∧ (Builtin.Str.glued sep ys).length ≤ 16777216 then some (.str (Builtin.Str.glued sep ys)) else none
 | _=>none
theorem cq6 {o e : Expr} {f : DE} {g : Rho → Option (Bool × List D)} {apos cpos : Pos} (ho : JE X o f) (h : JQ X e g)
  (hbase : attributeBase o "join" X.env (eval o X.env) = eval o X.env:=by rfl)
  (hfew : ((backTo cpos (starEach [e] X.env)).all (fun x=>!x.1) && (backToKw cpos (keywordEach [] X.env)).all (fun x=>x.1.isSome)
   && decide (([e] : List Expr).length + ([] : List Keyword).length + (if ([] : List Keyword).isEmpty then 0 else 1) < 30)) = true:=by rfl)
  (hline : (apos.endLine == cpos.line) = true:=by rfl) (hs : starEach [e] X.env = [(false,eval e X.env)]:=by rfl) :
  JE X (.Call (.Attribute o "join" apos) [e] [] cpos) (aP1 f g):=fun ρ d q=>by
 obtain ⟨s,e1,q⟩:=Option.bind_eq_some_iff.mp q
 obtain ⟨⟨t,ds⟩,e2,q⟩:=Option.bind_eq_some_iff.mp q
 cases s with
 | str sep =>
  cases t with
  | true=>simp at q
  | false =>
   simp only [xft,if_false] at q
   obtain ⟨ys,e3,q⟩:=Option.bind_eq_some_iff.mp q
   split at q
   ·rename_i hz
    cases q
    refine C3 (bB0 F.plainAttrs_str F.slot_str_join F.type_str_join cn7 (ho ρ _ e1) (F7 (h ρ false ds e2) O9 hs) hbase hfew hline hs) fun σ H Q ⟨H0,Hf,s,sl,k⟩=>?_
    refine ⟨H0,Hf,s,sl,fun v H1 Hf1 g1 r1=>?_⟩
    cases r1
    refine ⟨rfl,H0,Hf1,g1.sub,sl.grow g1,fun w H2 Hf2 g2 ⟨p,vs,z1,z2,z3⟩=>?_⟩
    subst z1
    rw [aD3 e3 z3] at z2
    exact ⟨sep,p,ys,rfl,rfl,z2,by rw [sizeLine_eq]; exact hz.1,by rw [sizeLine_eq]; exact hz.2,k _ H2 Hf2 (g1.trans g2) rfl⟩
   ·cases q
 | _=>cases q
end
end G
namespace G
open PySem PySem.Spec PyProof.Rows L2
section
variable {X : Cx}
def aa6 : D → Bool
 | .none=>true
 | .bool _=>true
 | .int _=>true
 | .str _=>true
 | _=>false
def toV : D → V
 | .none=>.non
 | .bool b=>.bl b
 | .int i=>.int i
 | .str x=>.str x
 | _=>.non
theorem aa5 {K : PySem.W.Frag} {H : Hp} {d : D} {v : V} (f : aa6 d = true) (r : Rep K H d v) : v = toV d ∧ as9 v = true:=by
 cases d with
 | none=>cases r; exact ⟨rfl,rfl⟩
 | bool b=>cases r; exact ⟨rfl,rfl⟩
 | int i=>cases r; exact ⟨rfl,rfl⟩
 | str x=>cases r; exact ⟨rfl,rfl⟩
 | tuple _=>cases f
 | list _=>cases f
 | dict _=>cases f
theorem aD5 {K : PySem.W.Frag} {H : Hp} : ∀ {ds : List D} {vs : List V},ds.all aa6 = true → Reps K H ds vs → vs = ds.map toV ∧ vs.all as9 = true
 | [],vs,_,r=>by cases (show vs = [] from r); exact ⟨rfl,rfl⟩
 | d :: ds,vs,f,r=>by
  rw [List.all_cons,Bool.and_eq_true] at f
  obtain ⟨v,r',e,h1,h2⟩:=r
  subst e
  obtain ⟨e1,e2⟩:=aa5 f.1 h1
  obtain ⟨e3,e4⟩:=aD5 f.2 h2
  subst e1 e3
  exact ⟨rfl,by rw [List.all_cons,e2,e4]; rfl⟩
def inD (neg : Bool) (x y : D) : Option D:=match y with
 | .list ds=>if aa6 x = true ∧ ds.all aa6 = true then some (.bool (if neg then !inV (toV x) (ds.map toV) else inV (toV x) (ds.map toV))) else none
 | .tuple ds=>if aa6 x = true ∧ ds.all aa6 = true then some (.bool (if neg then !inV (toV x) (ds.map toV) else inV (toV x) (ds.map toV))) else none
 | _=>none
theorem cc4 {op : CmpOp} {neg : Bool} (o : OpR X (compareOp op) (rIn X.K neg)) : OpD X (compareOp op) (inD neg):=fun x y z h=>by
 unfold inD at h
 split at h
 ·split at h
  ·rename_i c
   cases h
   refine OpR.imp o fun vx vy H Q ⟨Hf,s,r1,r2,k⟩=>?_
   obtain ⟨p,vs,rfl,h2,h3⟩:=r2
   obtain ⟨e1,e2⟩:=aa5 c.1 r1
   obtain ⟨e3,e4⟩:=aD5 c.2 h3
   subst e1 e3
   exact ⟨p,_,rfl,.inl (K8 s h2),e2,e4,k _ H Hf (Grow.refl s) rfl⟩
  ·cases h
 ·split at h
  ·rename_i c
   cases h
   refine OpR.imp o fun vx vy H Q ⟨Hf,s,r1,r2,k⟩=>?_
   obtain ⟨p,vs,rfl,h2,h3⟩:=r2
   obtain ⟨e1,e2⟩:=aa5 c.1 r1
   obtain ⟨e3,e4⟩:=aD5 c.2 h3
   subst e1 e3
   exact ⟨p,_,rfl,.inr (E2 s h2),e2,e4,k _ H Hf (Grow.refl s) rfl⟩
  ·cases h
 ·cases h
theorem cW2 : OpD X (compareOp .In) (inD false):=cc4 bG8
theorem bX0 : OpD X (compareOp .NotIn) (inD true):=cc4 ba9
end
end G
namespace G
open PySem PySem.Spec PyProof.Rows L2
section
variable {X : Cx}
theorem cg9 : bootBuiltins "min" = some (.builtin "min"):=by decide +kernel
theorem ch0 : bootBuiltins "max" = some (.builtin "max"):=by decide +kernel
theorem cR1 : bootBuiltins "abs" = some (.builtin "abs"):=by decide +kernel
def aV7 (f g : DE) : DE:=fun ρ=>(f ρ).bind fun x=>(g ρ).bind fun y=>match x,y with
 | .int i,.int j=>some (.int (if j < i then j else i))
 | _,_=>none
def aV8 (f g : DE) : DE:=fun ρ=>(f ρ).bind fun x=>(g ρ).bind fun y=>match x,y with
 | .int i,.int j=>some (.int (if j > i then j else i))
 | _,_=>none
def cY7 (f : DE) : DE:=fun ρ=>(f ρ).bind fun x=>match x with
 | .int i=>some (.int (if i < 0 then -i else i))
 | _=>none
theorem cO4 {e : Expr} {f : DE} {p pos : Pos} (hg : Gl X "abs") (hm : X.mg "abs" = none) (h : JE X e f) (he : starEach [e] X.env = [(false,eval e X.env)]:=by rfl) : JE X (.Call (.Name "abs" p) [e] [] pos) (cY7 f):=fun ρ d q=>by
 obtain ⟨x,h1,h2⟩:=Option.bind_eq_some_iff.mp q
 split at h2
 ·cases h2
  exact C3 (W7 cg3 hg hm cR1 (F7 (h ρ _ h1) O9 he) (he:=he)) fun σ H Q ⟨H0,Hf,s,sl,k⟩ =>
   ⟨H0,Hf,s,sl,fun v H1 Hf1 g1 r=>⟨_,by rw [show v = _ from r],k _ H1 Hf1 g1 rfl⟩⟩
 ·cases h2
theorem cq2 {e e' : Expr} {f g : DE} {p pos : Pos} (hg : Gl X "min") (hm : X.mg "min" = none) (h : JE X e f) (h' : JE X e' g) (hc : X.calm = true:=by rfl) (he : starEach [e,e'] X.env = (false,eval e X.env) :: starEach [e'] X.env:=by rfl) (he' : starEach [e'] X.env = [(false,eval e' X.env)]:=by rfl)
  (hpl : (backTo pos (starEach [e'] X.env)).any (·.1) = false:=by rfl) : JE X (.Call (.Name "min" p) [e,e'] [] pos) (aV7 f g):=fun ρ d q=>by
 obtain ⟨x,h1,q⟩:=Option.bind_eq_some_iff.mp q
 obtain ⟨y,h2,h3⟩:=Option.bind_eq_some_iff.mp q
 split at h3
 ·cases h3
  exact C3 (W7 (bO5 hc) hg hm cg9 (F7 (h ρ _ h1) (F7 (h' ρ _ h2) O9 he') he) (he:=he) (hpl:=hpl)) fun σ H Q ⟨H0,Hf,s,sl,k⟩ =>
   ⟨H0,Hf,s,sl,fun v H1 Hf1 g1 r=>⟨H0,Hf1,g1.sub,sl.grow g1,fun w H2 Hf2 g2 r2=>⟨_,_,by rw [show v = _ from r,show w = _ from r2],k _ H2 Hf2 (g1.trans g2) rfl⟩⟩⟩
 ·cases h3
theorem cq4 {e e' : Expr} {f g : DE} {p pos : Pos} (hg : Gl X "max") (hm : X.mg "max" = none) (h : JE X e f) (h' : JE X e' g) (hc : X.calm = true:=by rfl) (he : starEach [e,e'] X.env = (false,eval e X.env) :: starEach [e'] X.env:=by rfl) (he' : starEach [e'] X.env = [(false,eval e' X.env)]:=by rfl)
  (hpl : (backTo pos (starEach [e'] X.env)).any (·.1) = false:=by rfl) : JE X (.Call (.Name "max" p) [e,e'] [] pos) (aV8 f g):=fun ρ d q=>by
 obtain ⟨x,h1,q⟩:=Option.bind_eq_some_iff.mp q
 obtain ⟨y,h2,h3⟩:=Option.bind_eq_some_iff.mp q
 split at h3
 ·cases h3
  exact C3 (W7 (bO7 hc) hg hm ch0 (F7 (h ρ _ h1) (F7 (h' ρ _ h2) O9 he') he) (he:=he) (hpl:=hpl)) fun σ H Q ⟨H0,Hf,s,sl,k⟩ =>
   ⟨H0,Hf,s,sl,fun v H1 Hf1 g1 r=>⟨H0,Hf1,g1.sub,sl.grow g1,fun w H2 Hf2 g2 r2=>⟨_,_,by rw [show v = _ from r,show w = _ from r2],k _ H2 Hf2 (g1.trans g2) rfl⟩⟩⟩
 ·cases h3
theorem cb8 {k : Nat} {f : Addr} {fd : FuncData} {ps : List Str} {F : List D → Option D} {x : Str} {p pos : Pos} (Fk : FnOk X.prog X.w X.K X.mg X.base CX0 k f fd ps (spF X.K 0 F)) (hr : Room k X.A) (hg : Gl X x) (hm : X.mg x = some (.ref f)) (hk : PySem.W.keepIn X.K (.ref f) = true) (hb : ad3 X.K fd ps [])
  (hdb : (x == ("__debug__" : Str)) = false:=by decide) : JE X (.Call (.Name x p) [] [] pos) (A2 F A3):=fun ρ d q=>by
 have h2 : F [] = some d:=q
 refine C3 (bW4 Fk hr hg hm hk hb .nil cu8 hdb) fun σ H Q ⟨H0,Hf,s,sl,kk⟩=>?_
 exact ⟨rfl,Hf,[],d,s,rfl,h2,fun v H2 Hf2 g2 r2=>kk v H2 Hf2 g2 r2⟩
end
end G
namespace G
open PySem PySem.Spec PyProof.Rows L2
def aW6 (K : PySem.W.Frag) : List D → List Value → Prop
 | [],us=>us = []
 | d :: ds,us=>∃ u r,us = u :: r ∧ bp0 K d u ∧ aW6 K ds r
section
variable {K : PySem.W.Frag}
theorem V2 : aW6 K [] []:=rfl
theorem B9 {d : D} {ds : List D} {u : Value} {us : List Value} (h : bp0 K d u) (t : aW6 K ds us) : aW6 K (d :: ds) (u :: us):=⟨u,us,rfl,h,t⟩
theorem aV0 : ∀ {ds : List D} {us : List Value},aW6 K ds us → ∃ vs,K2 vs us ∧ ∀ H : Hp,Reps K H ds vs
 | [],_,h=>by cases h; exact ⟨[],.nil,fun _=>rfl⟩
 | d :: ds,_,⟨u,r,e,⟨v,h1,h2⟩,h3⟩=>by
  subst e
  obtain ⟨vs,q1,q2⟩:=aV0 h3
  exact ⟨v :: vs,.cons h1 q1,fun H=>⟨v,vs,rfl,h2 H,q2 H⟩⟩
theorem Q2 (i : Int) (t : Tok) : bp0 K (.int i) (.int i t):=⟨.int i,⟨t,rfl⟩,fun _=>rfl⟩
theorem Z4 {a : Addr} {o : Obj} {its : Array Value} {n : Nat} {ds : List D} (h : K.lookup a = some o) (hc : o.cls = .type "tuple") (hd : o.data = .seq its n) (hz : its.size ≤ 1000) (hi : aW6 K ds its.toList) : bp0 K (.tuple ds) (.ref a):=by
 obtain ⟨vs,q1,q2⟩:=aV0 hi
 exact ⟨.ref a,rfl,fun H=>⟨a,vs,rfl,.inr ⟨o,its,n,h,hc,hd,Nat.le_of_lt (aA8 hz),q1⟩,q2 H⟩⟩
end
end G
namespace G
open PySem PySem.Spec PyProof.Rows L2
theorem bk5 (l : Addr) (items : Array Value) (n : Nat) (dd : Option Addr) (sl : Array (Option Value)) (u : Tok) :
  Meets (Builtin.«tuple.__mul__» ⟨[.ref l,.int 1 u],[]⟩) (fun _ R s=>s.heap.get? l = some ⟨.type "tuple", dd,.seq items n,sl⟩ ∧ R (.ok (.ret (Value.ref l))) s) :=
 .of_wp fun prog w A R s h=>by
  obtain ⟨hp,g,d,tk,os⟩:=s
  obtain ⟨hl,h⟩:=h
  wp_walk
  exact ⟨_,rfl,h⟩
section
variable {X : Cx}
theorem bW6 : OpR X (binaryOp .Mult) (fun x y H Q=>∃ l xs,x = .ref l ∧ y = .int 1 ∧ SqT X.K H l xs ∧ Q (.ref l) H):=by
 intro pins s σ H x y v u Q I rx ry h
 obtain ⟨l,xs,rfl,rfl,hq,q⟩:=h
 cases rx
 obtain ⟨t,rfl⟩:=ry
 obtain ⟨its,r,p1,_⟩:=I.tuple hq
 obtain ⟨⟨cls,dd,data,sl⟩,ho,hc,n,hd⟩:=id p1
 simp only at hc hd
 subst hc hd
 exact wpAny_binaryOp_repeat_ref (T := "tuple") (U := "int") (by decide) ⟨_,ho,rfl⟩ (fun s'=>typeIs_int s' 1 t) aG1 F.fills_int_mul F.slot_int_rmul aU5 F.slot_int_index.lookup
  (call_meets F.slot_int_rmul (typeIs_int s 1 t) F.entry_int_rmul (F.args_int_rmul_2 _ _) (ax6 1 t l its.toArray n dd sl) ⟨ho,rfl,⟨_,ho,rfl⟩,
   call_meets F.slot_tuple_mul ⟨_,ho,rfl⟩ F.entry_tuple_mul (F.args_tuple_mul_2 _ _) (bk5 l its.toArray n dd sl t) ⟨ho,⟨.ref l,H,I,rfl,q⟩⟩⟩)
theorem aZ9 (a : Int) (t : Tok) (l : Addr) (items : Array Value) (n : Nat) (dd : Option Addr) (sl : Array (Option Value)) :
  Meets (Builtin.«int.__rmul__» ⟨[.int a t,.ref l],[]⟩) (fun _ R s=>s.heap.get? l = some ⟨.type "list", dd,.seq items n,sl⟩ ∧ R (.ok (.ret Value.notImplemented)) s):=Meets.of_wp fun prog w A R s h=>by
 obtain ⟨hp,g,d,tk,os⟩:=s
 obtain ⟨hl,h⟩:=h
 wp_walk
 exact ⟨_,rfl,h⟩
theorem bk7 (l : Addr) (items : Array Value) (n : Nat) (dd : Option Addr) (sl : Array (Option Value)) (x : Int) (u : Tok) (c0 : ¬(!Builtin.List.listFitsIndex x) = true) (c1 : ¬items.size * x.toNat > (2 ^ 63 - 1) / 8) (c2 : ¬Builtin.List.listTooLong (items.size * x.toNat) = true) :
  Meets (Builtin.«list.__mul__» ⟨[.ref l,.int x u],[]⟩) (fun _ R s=>s.heap.get? l = some ⟨.type "list", dd,.seq items n,sl⟩ ∧ R (.ok (.ret (Value.ref s.heap.objs.size))) { s with heap:=s.heap.push { cls:=Value.type "list", data:=Data.seq (List.foldl (fun x1 x2=>x1 ++ x2) #[] (List.replicate (if items.isEmpty = true then 0 else x.toNat) items)) } }):=Meets.of_wp fun prog w A R s h=>by
 obtain ⟨hp,g,d,tk,os⟩:=s
 obtain ⟨hl,h⟩:=h
 have hsz:=AutoListH.joined_fits c2
 wp_walk
 refine wpAny_ite_false (decide_eq_false (Nat.not_lt.mpr hsz)) ?_
 wp_walk
 exact ⟨_,rfl,h⟩
theorem cl8 : OpR X (binaryOp .Mult) (fun x y H Q=>∃ l k xs,x = .ref l ∧ y = .int k ∧ SqL X.K H l xs ∧ 0 ≤ k ∧ k < 1000000 ∧ xs.length * k.toNat ≤ sizeLine ∧ ∀ p,H p = none → Q (.ref p) (upd H p (.lst (List.replicate k.toNat xs).flatten))):=by
 intro pins s σ H x y v u Q I rx ry h
 obtain ⟨l,k,xs,rfl,rfl,hq,h1,h2,hz,q⟩:=h
 cases rx
 obtain ⟨t,rfl⟩:=ry
 obtain ⟨its,r,p1,_⟩:=I.list hq
 obtain ⟨⟨cls,dd,data,sl⟩,ho,hc,n,hd⟩:=p1.isList
 simp only at hc hd
 subst hc hd
 have hl:=r.length
 have hlen : its.toArray.size * k.toNat ≤ sizeLine:=by rw [List.size_toArray,← hl]; exact hz
 have hcap : ¬ its.toArray.size * k.toNat > (2 ^ 63 - 1) / 8:=by
  have : (sizeLine : Nat) ≤ (2 ^ 63 - 1) / 8:=by decide
  omega
 have hfit : ¬ (!Builtin.List.listFitsIndex k) = true:=by
  rw [fitsIndex_both (by omega) (by omega)]; exact Bool.false_ne_true
 have hlong : ¬ Builtin.List.listTooLong (its.toArray.size * k.toNat) = true:=by
  rw [al9 hlen]; exact Bool.false_ne_true
 have hnew : List.foldl (fun x1 x2=>x1 ++ x2) #[] (List.replicate (if its.toArray.isEmpty = true then 0 else k.toNat) its.toArray) = (List.replicate k.toNat its).flatten.toArray:=by
  rw [br7]
  cases its with
  | nil=>simp
  | cons a r'=>rw [if_neg (by simp)]
 refine wpAny_binaryOp_repeat_ref (T := "list") (U := "int") (by decide) ⟨_,ho,rfl⟩ (fun s'=>typeIs_int s' k t) noFill_list_mul F.fills_int_mul F.slot_int_rmul repeat_list F.slot_int_index.lookup
  (call_meets F.slot_int_rmul (typeIs_int s k t) F.entry_int_rmul (F.args_int_rmul_2 _ _) (aZ9 k t l its.toArray n dd sl) ⟨ho,rfl,⟨_,ho,rfl⟩,
   call_meets F.slot_list_mul ⟨_,ho,rfl⟩ F.entry_list_mul (F.args_list_mul_2 _ _) (bk7 l its.toArray n dd sl k t hfit hcap hlong) ⟨ho,?_⟩⟩)
 rw [hnew]
 exact ⟨.ref _,_,I.lnew (t':=s.toks) (r.rep k.toNat) (by rw [bc3,Nat.mul_comm]; exact hz),rfl,q _ I.fresh⟩
def L5 (x y : D) : Option D:=match x,y with
 | .tuple xs,.int k=>if k = 1 then some (.tuple xs) else o5 (.tuple xs) (.int k)
 | .list xs,.int k=>if 0 ≤ k ∧ k < 1000000 ∧ xs.length * k.toNat ≤ 16777216 then some (.list (List.replicate k.toNat xs).flatten) else none
 | x,y=>o5 x y
theorem bB3 : OpD X (binaryOp .Mult) L5:=fun x y z h=>by
 unfold L5 at h
 split at h
 ·split at h
  ·rename_i xs k c
   subst c
   cases h
   refine OpR.imp bW6 fun vx vy H Q ⟨Hf,s,r1,r2,kk⟩=>?_
   obtain ⟨a,vs,rfl,h2,h3⟩:=r1
   exact ⟨a,vs,rfl,r2,E2 s h2,kk _ _ _ (Grow.refl s) ⟨a,vs,rfl,h2,h3⟩⟩
  ·exact bb0 _ _ z h
 ·split at h
  ·rename_i xs k c
   cases h
   refine OpR.imp cl8 fun vx vy H Q ⟨Hf,s,r1,r2,kk⟩=>?_
   obtain ⟨a,vs,rfl,h2,h3⟩:=r1
   refine ⟨a,k,vs,rfl,r2,K8 s h2,c.1,c.2.1,by rw [h3.length,sizeLine_eq]; exact c.2.2,fun p hp=>?_⟩
   exact kk _ _ _ (Grow.laid s hp) ⟨p,_,rfl,SqL.of C6,(h3.flatten k.toNat).mono (G0 (s.free hp))⟩
  ·cases h
 ·exact bb0 _ _ z h
theorem aw0 (i j : Int) : B5 (.int i) (.int j) = some (.int (i + j)):=rfl
def bN9 (f : Rho → Option (Bool × List D)) (lo hi : Rho → Option (Option Int)) : DE:=fun ρ=>(f ρ).bind fun q=>(lo ρ).bind fun l=>(hi ρ).bind fun h=>if q.1 = true then none else some (.list (aj0 q.2 l h))
theorem cN2 {a : Expr} {lo hi : Option Expr} {f : Rho → Option (Bool × List D)} {l h : Rho → Option (Option Int)} {pos p2 : Pos} (ha : JQ X a f) (hl : JO X lo l) (hh : JO X hi h) : JE X (.Subscript a (.Slice lo hi none p2) pos) (bN9 f l h):=fun ρ d q=>by
 obtain ⟨⟨t,xs⟩,e1,q⟩:=Option.bind_eq_some_iff.mp q
 obtain ⟨y,e2,q⟩:=Option.bind_eq_some_iff.mp q
 obtain ⟨z,e3,q⟩:=Option.bind_eq_some_iff.mp q
 cases t with
 | true=>simp at q
 | false =>
  simp only [xft,if_false] at q
  cases q
  refine C3 (ay0 bA0 (ha ρ _ _ e1) (hl ρ y e2) (hh ρ z e3)) fun σ H Q ⟨H0,Hf,s,sl,k⟩=>?_
  refine ⟨H0,Hf,s,sl,fun v H1 Hf1 g1 ⟨p,vs,q1,q2,q3⟩=>⟨H0,Hf1,g1.sub,sl.grow g1,fun H2 Hf2 g2=>⟨H0,Hf2,g2.sub,sl.grow (g1.trans g2),fun H3 Hf3 g3=>?_⟩⟩⟩
  subst q1
  have q3':=q3.mono (g2.trans g3).ext
  refine ⟨p,vs,rfl,K8 (g2.trans g3).big q2,fun p' hp=>?_⟩
  exact k _ _ _ (((g1.trans g2).trans g3).trans (Grow.laid g3.sub hp)) ⟨p',_,rfl,SqL.of C6,(aM5 q3' y z).mono (G0 (g3.sub.free hp))⟩
def P5 : DS:=fun _=>none
theorem O6 {st : Stmt} : JS X st P5:=fun ρ fl q=>by cases q
def bq5 (f : DE) : Rho → Option Bool:=fun ρ=>(f ρ).bind M4
theorem ca1 {op op' : CmpOp} {h1 h2 : D → D → Option D} {a b c : Expr} {f g k : DE} {pos : Pos} (o1 : OpD X (compareOp op) h1) (o2 : OpD X (compareOp op') h2) (ha : JE X a f) (hb : JE X b g) (hc : JE X c k)
  (hm : lastMarks [op,op'] [b,c] = false:=by with_unfolding_all rfl) : JT X (.Compare a [op,op'] [b,c] pos) (bq5 (N2 h1 h2 f g k)):=fun ρ d q=>by
 obtain ⟨dd,q,ed⟩:=Option.bind_eq_some_iff.mp q
 have ed:=bE3 ed
 subst ed
 obtain ⟨x,e1,q⟩:=Option.bind_eq_some_iff.mp q
 obtain ⟨y,e2,q⟩:=Option.bind_eq_some_iff.mp q
 obtain ⟨z,e3,q⟩:=Option.bind_eq_some_iff.mp q
 split at q
 ·obtain ⟨w,e4,e5⟩:=Option.bind_eq_some_iff.mp q
  refine ba3 (bi5 (o1 x y _ e3) (o2 y w _ e5) (ha ρ x e1) (hb ρ y e2) (hc ρ w e4) hm) fun σ H Q ⟨H0,Hf,s,sl,kk⟩=>?_
  refine ⟨H0,Hf,s,sl,fun v H1 Hf1 g1 r1=>⟨H0,Hf1,g1.sub,sl.grow g1,fun u H2 Hf2 g2 r2=>⟨Hf2,g2.sub,r1.mono g2.ext,r2,fun z' H3 Hf3 g3 r3=>?_⟩⟩⟩
  refine ⟨true,r3,aR8 ⟨H0,Hf3,g3.sub,sl.grow ((g1.trans g2).trans g3),fun w' H4 Hf4 g4 r4=>⟨Hf4,g4.sub,r2.mono (g3.trans g4).ext,r4,fun z2 H5 Hf5 g5 r5=>?_⟩⟩⟩
  exact ⟨d,r5,kk H5 Hf5 ((((g1.trans g2).trans g3).trans g4).trans g5)⟩
 ·cases q
  intro pins s σ H Q I ⟨H0,Hf,ss,sl,kk⟩
  refine bi5 (tc:=fun _ _ _=>False) (r':=fun _ _ _ _=>False) (o1 x y _ e3) (fun _ _ _ _ _ _ _ _ _ _ _ _ h=>h.elim) (ha ρ x e1) (hb ρ y e2) (fun _ _ _ _ _ _ h=>h.elim) hm pins s σ H Q I ?_
  refine ⟨H0,Hf,ss,sl,fun v H1 Hf1 g1 r1=>⟨H0,Hf1,g1.sub,sl.grow g1,fun u H2 Hf2 g2 r2=>⟨Hf2,g2.sub,r1.mono g2.ext,r2,fun z' H3 Hf3 g3 r3=>?_⟩⟩⟩
  exact ⟨false,r3,aR9 ⟨false,rfl,kk H3 Hf3 ((g1.trans g2).trans g3)⟩⟩
 ·cases q
end
end G
namespace Sh
open PySem PySem.Spec PyProof.Rows L2 G
def aF8 : DS:=(A9 (R6 (A2 S0 (A0 (A1 0) A3)) (N2 leI leI (dC (.int 1)) (A1 0) (dC (.int 8)))))
def aa1 : List D → Option D:=C4 aF8 1
def aw5 : DS:=(A6 (sIf (Q9 (L4 (K5 (W4 "tuple" (A1 0)))) (tB2 neD (R3 (A8 0)) (dC (.int 3)))) (A9 (dC (.bool false))) C1) (A9 (R6 (A2 aa1 (A0 (dIx (A8 0) (dC (.int 0))) A3)) (R6 (A2 aa1 (A0 (dIx (A8 0) (dC (.int 1))) A3)) (W4 "tuple" (dIx (A8 0) (dC (.int 2))))))))
def k6 : List D → Option D:=C4 aw5 1
def aQ4 : DS:=(A6 (sIf (L4 (K5 (A2 k6 (A0 (A1 0) A3)))) (A9 (dC (.bool false))) C1) (A6 (B4 1 (dIx (A8 0) (dC (.int 2)))) (A9 (R6 (A5 eqD (R3 (A8 1)) (A5 L5 (dIx (A8 0) (dC (.int 0))) (dIx (A8 0) (dC (.int 1))))) (j0 (qN (B8 1 [] (G1 (A1 1)) (B1 0) C8 (A2 ag2 (A0 (A1 0) A3)))))))))
def aj5 : List D → Option D:=C4 aQ4 2
def aG3 : DS:=(A9 (P3 (B8 1 [0] (O4 (A5 L5 (A1 0) (A1 1))) (B1 0) C8 (F6 (A0 (A5 ab7 (A1 0) (A1 1)) (A0 (A5 av7 (A1 0) (A1 1)) A3))))))
def U9 : List D → Option D:=C4 aG3 2
def aG6 : DS:=(A9 (R6 (N2 leI ltI (dC (.int 0)) (A1 1) (dIx (A8 0) (dC (.int 0)))) (N2 leI ltI (dC (.int 0)) (A1 2) (dIx (A8 0) (dC (.int 1))))))
def Y8 : List D → Option D:=C4 aG6 3
def ad0 : DS:=(A9 (A5 B5 (A5 L5 (A1 2) (dIx (A8 0) (dC (.int 0)))) (A1 1)))
def O8 : List D → Option D:=C4 ad0 3
def aF6 : DS:=(A6 (sIf (L4 (K5 (A2 Y8 (A0 (A1 0) (A0 (A1 1) (A0 (A1 2) A3)))))) (A9 (dC (.tuple [(.tuple [(.int 0),(.int 1)]),(.tuple [(.int 0),(.int 1)]),(.tuple [(.int 0),(.int 1)]),(.tuple [(.int 0),(.int 1)])]))) C1) (A9 (dIx (qE (dIx (A8 0) (dC (.int 2)))) (A2 O8 (A0 (A1 0) (A0 (A1 1) (A0 (A1 2) A3)))))))
def ar1 : List D → Option D:=C4 aF6 3
def aF7 : DS:=(A6 (R0 4 (B8 1 [0,1] (O4 (A5 L5 (A1 2) (A1 3))) (B1 0) C8 (A2 V0 (A0 (A1 1) (A0 (A5 B5 (A1 2) (A5 L5 (dC (.int 12)) (A1 0))) A3))))) (A6 (sIf (tB2 eqD (A2 A7 (A0 (A1 0) (A0 (A5 B5 (A1 1) (dC (.int 7))) (A0 (dC (.int 3)) A3)))) (dC (.int 0))) (B4 4 (A5 L5 (am8 (A1 4) N0 (F9 (dC (.int 1)))) (A5 L5 (A1 2) (A1 3)))) C1) (A9 (F6 (A0 (A1 2) (A0 (A1 3) (A0 (N4 (A8 4)) A3)))))))
def af9 : List D → Option D:=C4 aF7 5
end Sh
namespace G
open PySem PySem.Spec PyProof.Rows L2
theorem aV6 {prog : Program} {w : World} {A : Around} (hh : A.handled = none) (t : Bool) (it l : Addr) (hne : l ≠ it) (xs : Array Value) : Draws prog w A it [it,l] xs.size (fun i x=>xs[i]? = some x) (fun i h=>SIt t h it l i ∧ SSq t h l xs):=by
 refine ⟨fun i h ⟨a,_⟩=>?_,fun i h h' ⟨a,b⟩ k=>⟨a.ext fun o e=>k it (by simp) o e,b.ext fun o e=>k l (by simp) o e⟩,fun i s Q E hi ⟨a,b⟩ hQ=>?_,fun s Q E ⟨a,b⟩ hE=>ax5 hh a b (by simp) hE⟩
 ·cases t with
  | true=>obtain ⟨o,ho,_⟩:=a; exact ⟨o,ho⟩
  | false=>obtain ⟨o,ho,_⟩:=a; exact ⟨o,ho⟩
 ·have hx : xs[i]? = some xs[i]:=by simp [hi]
  exact al0 a b hx fun h' c sb=>hQ _ h' s.toks hx ⟨c,b.ext fun o e=>sb.extBut l o hne e⟩ sb
theorem bG2 (l : Addr) (items : Array Value) (n : Nat) (dd : Option Addr) (sl : Array (Option Value)) :
  Meets (Builtin.«enumerate.__new__» ⟨[.type "enumerate", .ref l],[]⟩) (fun _ R s=>s.heap.get? l = some ⟨.type "tuple", dd,.seq items n,sl⟩ ∧
   R (.ok (.ret (.ref (s.heap.push (ay4 true l)).objs.size))) { s with heap:=(s.heap.push (ay4 true l)).push { cls:=.type "enumerate", data:=.fields #[.none,.bool false,.ref s.heap.objs.size,rawInt 0,.none,.none] } }):=Meets.of_wp fun prog w A R s h=>by
 obtain ⟨hp,g,d,tk,os⟩:=s
 obtain ⟨hl,h⟩:=h
 have hsub:=sub_enumerate
 have q1 : SSq true (Shared.heap ⟨hp,g,d,tk,os⟩) l items:=⟨_,hl,rfl,n,rfl⟩
 wp_walk using AutoSeq1.wpAny_loadPart' hl
 refine wpAny_stack_any fun st=>wpAny_pure ?_
 split
 ·rename_i c _ _ _ _ _
  cases (c == Value.type "enumerate")
  ·wp_walk using AutoSeq1.wpAny_loadPart' hl,al1 q1
   exact ⟨_,rfl,h⟩
  ·wp_walk using AutoSeq1.wpAny_loadPart' hl,al1 q1
   exact ⟨_,rfl,h⟩
 ·wp_walk using AutoSeq1.wpAny_loadPart' hl,al1 q1
  exact ⟨_,rfl,h⟩
section
variable {prog : Program} {w : World} {A : Around} {E : Value → Shared → Prop} {s : Shared} {t : Bool}
theorem aL8 {l : Addr} {xs : Array Value} {Q : Value → Shared → Prop} (hl : SSq t s.heap l xs)
  (h : ∀ h',IsEnum h' (s.heap.objs.size + 1) s.heap.objs.size 0 .none → SIt t h' s.heap.objs.size l 0 → (∀ c o,s.heap.get? c = some o → h'.get? c = some o) → Q (.ref (s.heap.objs.size + 1)) { s with heap:=h' }) :
  wpAny (model prog w) A (call (.type "enumerate") [.ref l]) Q E s:=by
 cases t with
 | false=>exact call_enumerate_list hl fun h' a b _ d=>h h' a b d
 | true =>
  obtain ⟨⟨cls,dd,data,sl⟩,ho,hc,n,hd⟩:=hl
  simp only at hc hd
  subst hc hd
  refine callType_new F.called_enumerate (by decide) (F.typeCall_enumerate_1 _) (F.newCall_enumerate_1 _) (fun obj=>F.args_object_init_2 obj _) F.entry_enumerate_new (bG2 l xs n dd sl) ⟨ho,?_⟩
  have z1 : (s.heap.push (ay4 true l)).objs.size = s.heap.objs.size + 1:=Heap.size_push ..
  show _ ∧ _
  rw [z1]
  have he:=Heap.get?_push_size (s.heap.push (ay4 true l)) (o:={ cls:=.type "enumerate", data:=.fields #[.none,.bool false,.ref s.heap.objs.size,rawInt 0,.none,.none] }) rfl
  rw [z1] at he
  exact ⟨⟨_,he,rfl⟩,h _ he ((aZ1 (h:=s.heap) (l:=l) true).ext fun o e=>Heap.get?_push_of_some _ e) fun c o e=>Heap.get?_push_of_some _ (Heap.get?_push_of_some _ e)⟩
theorem aV5 {e it l : Addr} {i : Int} {k : Nat} {xs : Array Value} {old : Value} {Q : Option Value → Shared → Prop} (hh : A.handled = none) (he : IsEnum s.heap e it i old) (hit : SIt t s.heap it l k) (hl : SSq t s.heap l xs) (hx : xs[k]? = none)
  (hQ : ∀ h',Heap.ExtBut it s.heap h' → Q none { s with heap:=h' }) : wpAny (model prog w) A (pyNext (.ref e)) Q E s:=by
 have hT : s.TypeIs (.ref e) "enumerate" := ⟨_,he,rfl⟩
 unfold pyNext
 refine wpAny_bind (wpAny_attempt (wpAny_callSpecial?_slot (name:=Str.ofString "__next__") hT F.slot_enumerate_next (wpAny_call_entry F.slot_enumerate_next hT F.entry_enumerate_next ?_ (F.args_enumerate_next_1 _))))
 show wpAny _ _ (field (.ref e) 2 >>= _) _ _ _
 refine wpAny_bind (wpAny_field he rfl (x:=.ref it) rfl (wpAny_bind (ax5 hh hit hl hx fun h' x he' hx'=>?_)))
 obtain ⟨o,ho,hc⟩:=hx'
 exact wpAny_bind (wpAny_isInstance (T := "StopIteration") (b:=true) ⟨o,ho,hc⟩ isSubtype_stop (wpAny_pure (hQ _ he')))
end
def Ite (K : PySem.W.Frag) (t : Bool) (a : Addr) : It :=
  ⟨fun i H=>∃ xs x,Sq K t H a xs ∧ xs[i]? = some x,
   fun i H v H'=>∃ T x,v = .ref T ∧ H T = none ∧ H' = upd H T (.tup [.int i,x]) ∧ ∀ xs,Sq K t H a xs → xs[i]? = some x,
   fun i H=>∃ xs,Sq K t H a xs ∧ xs.length ≤ i⟩
theorem bF6 {P : Program} {w : World} {K : PySem.W.Frag} {elts : List Expr} {k0 : Nat} {pos : Pos} {t : Bool} {e it a : Addr} (h1 : e ≠ it) (h2 : a ≠ e) (h3 : a ≠ it) :
  Turn P w K (.Tuple elts k0 pos) (Ite K t a) [e,it] e (fun i h=>(∃ old,IsEnum h e it i old) ∧ SIt t h it a i) where
 mem:=by simp
 obj:=fun i h ⟨⟨old,he⟩,hi⟩ c hc=>by
  simp only [List.mem_cons,List.not_mem_nil,or_false] at hc
  rcases hc with rfl | rfl
  ·exact ⟨_,he,fun v q=>by cases q⟩
  ·cases t with
   | true=>obtain ⟨o,ho,_,hd⟩:=hi; exact ⟨o,ho,fun v q=>by rw [hd] at q; cases q⟩
   | false=>obtain ⟨o,ho,_,hd⟩:=hi; exact ⟨o,ho,fun v q=>by rw [hd] at q; cases q⟩
 keep:=fun i h h' ⟨⟨old,he⟩,hi⟩ hk=>⟨⟨old,hk e (by simp) _ he⟩,hi.ext fun o q=>hk it (by simp) o q⟩
 item:=by
  intro X hP hw hK hc i pins s σ H E I hf ⟨⟨old,he⟩,hi⟩ hg
  subst hP hw hK
  obtain ⟨xs,x,q1,ex⟩:=hg
  obtain ⟨us,r1,p1,lt1⟩:=X2 I q1
  obtain ⟨ux,eux,rx⟩:=r1.get ex
  have hlt : i < us.toArray.size:=by rw [List.size_toArray]; exact (List.getElem?_eq_some_iff.mp eux).1
  refine wpAny_pyNext_enum_itemD (aV6 (A:=X.A.in1) (I.ok.hd hc) t it a h3 us.toArray) he ⟨hi,p1⟩ hlt h1 (by simp only [List.mem_cons,List.not_mem_nil,or_false,not_or]; exact ⟨h1,fun z=>h2 z.symm⟩) fun y h' tk hy ho hst hT hsz hk=>⟨_,rfl,wpAny_letOwnedTupleGo_enum ho fun h'' c1 c2=>?_⟩
  have ey : y = ux:=by
   have : us[i]? = some y:=by simpa using hy
   rw [eux] at this
   exact (Option.some.inj this).symm
  subst ey
  have neT : ∀ c o,s.heap.get? c = some o → c ≠ s.heap.objs.size:=fun c o q=>Nat.ne_of_lt (Heap.lt_size q)
  have up : ∀ c o,c ≠ e → h'.get? c = some o → h''.get? c = some o:=fun c o n q=>c2.extBut c o n q
  refine ⟨.ref s.heap.objs.size,upd H s.heap.objs.size (.tup [.int i,x]),v5 (s:=s) (h':=h'') (t':=tk + 1) (ch:=[e,it]) I hf (Nat.le_refl _) (fun c u hc q=>?_) ?_,rfl,⟨_,x,rfl,I.hok.fresh (Nat.le_refl _),rfl,fun zs hz'=>by rw [br0 I hz' q1]; exact ex⟩,⟨⟨_,by simpa using c1⟩,hst.1.ext fun o q=>up it o h1.symm q⟩,fun c hc=>?_⟩
  ·simp only [List.mem_cons,List.not_mem_nil,or_false,not_or] at hc
   exact up c u hc.1 (hk c u hc.1 hc.2 q)
  ·refine ⟨by show 2 ≤ sizeLine; decide,[.int i tk,y],.cons ⟨tk,rfl⟩ (.cons rx .nil),_,up _ _ ?_ hT,rfl,_,rfl⟩
   exact fun q=>neT e _ he q.symm
  ·have lt : c < s.heap.objs.size:=by
    simp only [List.mem_cons,List.not_mem_nil,or_false] at hc
    rcases hc with rfl | rfl
    ·exact Heap.lt_size he
    ·exact hi.lt
   rw [C7 (Nat.ne_of_lt lt)]
   exact (hf c hc).1
 done:=by
  intro X hP hw hK hc i pins s σ H E I hf ⟨⟨old,he⟩,hi⟩ hg
  subst hP hw hK
  obtain ⟨xs,q1,hl⟩:=hg
  obtain ⟨us,r1,p1,lt1⟩:=X2 I q1
  have l1:=r1.length
  refine aV5 (I.ok.hd hc) he hi p1 (by simp; omega) fun h' hk=>⟨rfl,Y5 (t':=s.toks) (ch:=[e,it]) I hf fun c u hc q=>?_⟩
  simp only [List.mem_cons,List.not_mem_nil,or_false,not_or] at hc
  exact hk c u hc.2 q
 self:=fun _ _ _ _ _ st h=>by
  obtain ⟨⟨old,he⟩,_⟩:=st
  exact wpAny_pyIter_enum he h
section
variable {X : Cx}
def v7 (ds : List D) : List D:=(List.range ds.length).zip ds |>.map fun (k,d)=>PyData.tuple [.int (k : Nat),d]
def aO4 (f : Rho → Option (Bool × List D)) : Rho → Option (List D):=fun ρ=>(f ρ).map fun q=>v7 q.2
theorem aa7 (ds : List D) (i : Nat) : (v7 ds)[i]? = (ds[i]?).map fun d=>.tuple [.int i,d]:=by
 unfold v7
 rw [List.getElem?_map]
 cases e : ds[i]? with
 | none =>
  have : ds.length ≤ i:=by simpa using e
  have z : ((List.range ds.length).zip ds)[i]? = none:=by simp; omega
  rw [z]; rfl
 | some d =>
  have hi:=(List.getElem?_eq_some_iff.mp e).1
  have z : ((List.range ds.length).zip ds)[i]? = some (i,d):=List.getElem?_zip_eq_some.mpr ⟨by simp [hi],e⟩
  rw [z]; rfl
theorem o8 (ds : List D) : (v7 ds).length = ds.length:=by unfold v7; simp
theorem bh0 {K : PySem.W.Frag} {t : Bool} {a : Addr} {vs : List V} {ds : List D} {Hf1 : Hp} (h1 : Sq K t Hf1 a vs) (r1 : Reps K Hf1 ds vs) : bg0 K (Ite K t a) (v7 ds) Hf1:=by
 have mono : ∀ {t : Bool} {a : Addr} {xs : List V} {H H' : Hp},L3 H H' → Sq K t H a xs → Sq K t H' a xs:=fun {t a xs H H'} e h=>by
  cases t with
  | true=>exact E2 e h
  | false=>exact K8 e h
 intro i H Hf sa sb
 have m1:=mono (sa.trans sb) h1
 have l1:=r1.length
 refine ⟨fun hi=>⟨vs,m1,by rw [o8] at hi; omega⟩,fun d hd=>?_⟩
 rw [aa7] at hd
 obtain ⟨x,q1,q2⟩:=Option.map_eq_some_iff.mp hd
 subst q2
 obtain ⟨vx,e1,e2⟩:=r1.get q1
 refine ⟨⟨vs,vx,m1,e1⟩,fun v H' ⟨T,x',z1,z2,z3,z4⟩=>?_⟩
 subst z1 z3
 have w1:=z4 vs m1
 rw [e1] at w1
 cases w1
 have nf : Hf T = none:=sb.free z2
 exact ⟨upd Hf T (.tup [.int i,vx]),Grow.laid sb z2,T,[.int i,vx],rfl,SqT.of C6,.int i,[vx],rfl,rfl,vx,[],rfl,(e2.mono sa).mono (G0 nf),rfl⟩
theorem cp6 {elts : List Expr} {k0 : Nat} {tpos : Pos} {a : Expr} {f : DE} {p pos : Pos} (hg : Gl X "enumerate") (hm : X.mg "enumerate" = none) (ha : JE X a f) (hs : starEach [a] X.env = [(false,eval a X.env)]:=by rfl) :
  JI X (.Tuple elts k0 tpos) (.Call (.Name "enumerate" p) [a] [] pos) (aO4 (qE f)):=fun ρ out q=>by
 obtain ⟨⟨t1,ds⟩,e1,q⟩:=Option.map_eq_some_iff.mp q
 subst q
 obtain ⟨d1,e1,e1'⟩:=Option.bind_eq_some_iff.mp e1
 intro pins s σ H R I ⟨H0,Hf,ss,sl,k⟩
 refine Call_ (am3 I hg hm rfl (PyProof.Rows.callWith_type1 (thn (F7 (ha ρ d1 e1) O9 (by rw [hs]; rfl) pos pins s σ H
  (fun vs H'=>∃ v Hf',vs = [v] ∧ Grow H Hf H' Hf' ∧ Rep X.K Hf' d1 v) I ⟨H0,Hf,ss,sl,fun v H1 Hf1 g1 r1=>⟨v,Hf1,rfl,g1,r1⟩⟩) fun us s1 ⟨vs,H1,I1,r1,v,Hf1,ev,gr,p1⟩=>?_) (by rw [hs]; rfl) (by rfl)))
 subst ev
 obtain ⟨uv,rfl,rv⟩:=r1.one
 obtain ⟨a1,vs1,rfl,w1,w2⟩:=p1.seq (L3.refl Hf1) e1'
 cases rv
 have mono : ∀ {t : Bool} {a : Addr} {xs : List V} {H H' : Hp},L3 H H' → Sq X.K t H a xs → Sq X.K t H' a xs:=fun {t a xs H H'} e h=>by
  cases t with
  | true=>exact E2 e h
  | false=>exact K8 e h
 obtain ⟨us1,rr1,hp1,lt1⟩:=X2 I1 (mono gr.sub w1)
 refine aL8 hp1 fun h' b1 b2 b3=>?_
 have I2 : Inv X pins σ H1 { s1 with heap:=h' }:=I1.kept (t':=s1.toks) b3
 refine wpAny_pyIter_enum b1 ⟨_,_,_,_,H1,rfl,I2,bF6 (e:=s1.heap.objs.size + 1) (it:=s1.heap.objs.size) (a:=a1) (Nat.succ_ne_self _) (Nat.ne_of_lt (Nat.lt_succ_of_lt lt1)) (Nat.ne_of_lt lt1),⟨⟨_,b1⟩,b2⟩,fun b hb=>?_,k _ H1 Hf1 gr (bh0 w1 w2)⟩
 have hb' : s1.heap.objs.size ≤ b:=by
  simp only [List.mem_cons,List.not_mem_nil,or_false] at hb
  rcases hb with rfl | rfl
  ·exact Nat.le_add_right _ _
  ·exact Nat.le_refl _
 exact I1.fpOk hb' (I1.hok.fresh hb')
end
end G
namespace G
open PySem PySem.Spec PyProof.Rows L2
section
variable {prog : Program} {w : World} {A : Around} {E : Value → Shared → Prop} {s : Shared}
theorem aL7 {l b sl : Addr} {items new : Array Value} {n n2 : Nat} {vl vu : Value} {lo hi : Option Int} {Q : Unit → Shared → Prop}
    (e : s.heap.get? l = some { cls:=.type "list", data:=.seq items n }) (e2 : s.heap.get? b = some { cls:=.type "list", data:=.seq new n2 }) (hne : l ≠ b)
    (hs : s.heap.IsSliceOf sl vl vu .none) (pl : IsPart vl lo) (pu : IsPart vu hi) (hsz : items.size + new.size ≤ sizeLine)
    (h : Q () { s with heap:=s.heap.update l (Obj.mapSeq fun xs=>xs.extract 0 (HT.sIx items.size 0 lo) ++ new ++ xs.extract (max (HT.sIx items.size 0 lo) (HT.sIx items.size items.size hi)) xs.size) }) :
    wpAny (model prog w) A (setItem (.ref l) (.ref sl) (.ref b)) Q E s:=by
  have hl : s.heap.IsList l items:=PySem.IsL.isList e
  have hb : s.heap.IsList b new:=PySem.IsL.isList e2
  obtain ⟨os,hos,hcs,hds⟩:=id hs
  have hTs : s.TypeIs (.ref sl) "slice" := ⟨os,hos,hcs⟩
  have hstep : ¬ ((rawPart none == rawInt 0) = true):=Bool.false_ne_true
  have hsame : Builtin.List.listSameRef (.ref l) (.ref b) = false:=by
    unfold Builtin.List.listSameRef
    exact beq_eq_false_iff_ne.mpr hne
  have hbd : sliceBounds lo hi none items.size = (((HT.sIx items.size 0 lo : Nat) : Int),((HT.sIx items.size items.size hi : Nat) : Int),1):=by
    obtain ⟨h1,h2,h3⟩:=ax4 lo hi items.size
    exact Prod.ext h1 (Prod.ext h2 h3)
  have hmax : (max ((HT.sIx items.size 0 lo : Nat) : Int) ((HT.sIx items.size items.size hi : Nat) : Int)).toNat = max (HT.sIx items.size 0 lo) (HT.sIx items.size items.size hi):=by omega
  have hz' : ((fun xs : Array Value=>xs.extract 0 (HT.sIx items.size 0 lo) ++ new ++ xs.extract (max (HT.sIx items.size 0 lo) (HT.sIx items.size items.size hi)) xs.size) items).size ≤ sizeLine + 1:=by
    simp only [Array.size_append,Array.size_extract]
    omega
  unfold setItem
  try with_reducible refine wpAny_holding ?_
  first | refine wpAny_bind (wpAny_pure ?_) | skip
  refine wpAny_bind (wpAny_sequenceKey hl.typeIs (by decide) ?_)
  refine wpAny_bind (wpAny_callSpecial?_slot (name:=Str.ofString "__setitem__") hl.typeIs slot_list_setitem (wpAny_call_entry slot_list_setitem hl.typeIs entry_list_setitem ?_ (args_list_setitem _ _ _)))
  show wpAny _ _ (Builtin.List.listSubscript? (.ref sl) >>= _) _ _ s
  refine wpAny_bind ?_
  unfold Builtin.List.listSubscript?
  refine wpAny_bind (wpAny_specialOf hTs slice_no_index ?_)
  simp only [Option.isNone_none,if_true]
  refine wpAny_pure ?_
  show wpAny _ _ (typeOf (.ref sl) >>= _) _ _ s
  refine wpAny_bind (wpAny_typeOf hTs ?_)
  first
    | rw [if_neg (by decide)]
    | refine PySem.W.KFB.if_not (by decide) ?_
  rw [listSliceParts_eq]
  refine wpAny_bind (wpAny_bind (wpAny_field hos hds (x:=.none) rfl (wpAny_bind (wpAny_listPart .none ?_))))
  rw [if_neg hstep]
  refine wpAny_bind (wpAny_field hos hds (x:=vl) rfl (wpAny_bind (wpAny_listPart pl ?_)))
  refine wpAny_bind (wpAny_field hos hds (x:=vu) rfl (wpAny_bind (wpAny_listPart pu (wpAny_pure ?_))))
  first
    | simp only [hsame,xft,if_false]
    | refine PySem.W.KFB.if_not hsame ?_
    | (dsimp only
       rw [if_neg (by rw [hsame]; exact Bool.false_ne_true)])
  refine wpAny_bind (m:=Builtin.List.listAllItems (.ref b) "must assign iterable to extended slice") ?_
  unfold Builtin.List.listAllItems
  refine wpAny_bind (wpAny_typeOf hb.typeIs ?_)
  first
    | refine PySem.W.KFB.if_so (by decide) ?_
    | rw [if_pos (by decide)]
    | simp only [beq_self_eq_true,Bool.true_or,if_true]
  unfold Builtin.List.listItems
  refine wpAny_bind (wpAny_seqItems e2 rfl (wpAny_pure ?_))
  refine wpAny_bind (wpAny_bind (wpAny_seqItems e rfl (wpAny_pure ?_)))
  refine wpAny_bind (wpAny_of_eq ((sliceIndices_raw lo hi none items.size (by simp)).trans (congrArg (pure : Int × Int × Int → Sem (Int × Int × Int)) hbd)) ?_)
  show wpAny _ _ (if ((1 : Int) == 1) = true then _ else _) _ _ s
  rw [if_pos (by decide)]
  refine wpAny_bind (wpAny_rule ?_)
  first
    | simp only [al9 hsz,xft,if_false]
    | refine PySem.W.KFB.if_not (al9 hsz) ?_
  first | refine wpAny_bind (wpAny_pure ?_) | skip
  show wpAny _ _ (updateSeq l (fun xs=>xs.extract 0 (((HT.sIx items.size 0 lo : Nat) : Int)).toNat ++ new ++ xs.extract (max ((HT.sIx items.size 0 lo : Nat) : Int) ((HT.sIx items.size items.size hi : Nat) : Int)).toNat xs.size) >>= _) _ _ s
  rw [hmax,Int.toNat_natCast]
  refine wpAny_bind (wpAny_updateSeq (hz:=Nat.le_trans (Nat.le_add_right _ _) hsz) (_hz':=hz') e rfl ?_)
  refine wpAny_bind (wpAny_letGo ?_)
  first
    | exact wpAny_bind (wpAny_pure (wpAny_pure ⟨.none,rfl,wpAny_pure h⟩))
    | exact wpAny_pure ⟨.none,rfl,wpAny_pure h⟩
end
section
variable {X : Cx}
def aL4 {α : Type} (xs : List α) (lo hi : Option Int) (ys : List α) : List α:=xs.take (HT.sIx xs.length 0 lo) ++ ys ++ xs.drop (max (HT.sIx xs.length 0 lo) (HT.sIx xs.length xs.length hi))
theorem br4 {pins : List (Addr × Obj)} {s : Shared} {σ : L2.St} {H : Hp} {l b sl : Addr} {xs ys : List V} {lo hi : Option Int} {vl vu : Value} {Q : Unit → Shared → Prop} (I : Inv X pins σ H s)
  (hH : H l = some (.lst xs)) (hB : H b = some (.lst ys)) (hne : l ≠ b) (hs : s.heap.IsSliceOf sl vl vu .none) (pl : IsPart vl lo) (pu : IsPart vu hi)
  (hz : xs.length + ys.length ≤ sizeLine) (h : ∀ s',Inv X pins σ (upd H l (.lst (aL4 xs lo hi ys))) s' → Q () s') :
  wpAny (model X.prog X.w) X.A (setItem (.ref l) (.ref sl) (.ref b)) Q X.xe s:=by
 obtain ⟨z,its,n,r,hl,e⟩:=I.lstM hH
 obtain ⟨z2,its2,n2,r2,hl2,e2⟩:=I.lstM hB
 refine aL7 e e2 hne hs pl pu (by rw [List.size_toArray,List.size_toArray]; omega) (h _ ?_)
 have hz0 : its.toArray.size = xs.length:=by rw [List.size_toArray]; exact hl.symm
 refine I.lset (its':=its.take (HT.sIx xs.length 0 lo) ++ its2 ++ its.drop (max (HT.sIx xs.length 0 lo) (HT.sIx xs.length xs.length hi))) (t':=s.toks) hH e ?_ (K2.append (K2.append (r.take _) r2) (r.drop _)) ?_
 ·have e0:=bG0 its its2 (HT.sIx xs.length 0 lo) (max (HT.sIx xs.length 0 lo) (HT.sIx xs.length xs.length hi))
  rw [hz0] at e0 ⊢
  exact e0
 ·unfold aL4
  rw [List.length_append,List.length_append,List.length_take,List.length_drop]
  omega
theorem bV2 {K : PySem.W.Frag} {H : Hp} {ds es : List D} {vs us : List V} (h : Reps K H ds vs) (g : Reps K H es us) (lo hi : Option Int) : Reps K H (aL4 ds lo hi es) (aL4 vs lo hi us):=by
 unfold aL4
 rw [h.length]
 exact ((h.take _).append g).append (h.drop _)
theorem Slots.reOwn {K : PySem.W.Frag} {H0 H Hf : Hp} {ρ : Rho} {σ : L2.St} {i : Nat} {ds ds' : List D} {b : Addr} {vs' : List V} (sl : Slots K H0 ρ σ H Hf) (eo : ρ[i]? = some (some (.own ds))) (h1 : σ[i]? = some (some (.ref b))) (hf : Hf b = none) (h0 : H0 b = none) (r : Reps K Hf ds' vs') :
  Slots K H0 (ρ.set i (some (.own ds'))) σ (upd H b (.lst vs')) Hf:=by
 refine ⟨by simpa using sl.len,fun j bb z=>?_,fun j k ds1 es c q1 q2 q3 q4=>?_⟩
 ·by_cases qj : i = j
  ·subst qj
   have hi : i < ρ.length:=(List.getElem?_eq_some_iff.mp eo).1
   rw [List.getElem?_set_self hi] at z
   cases z
   exact ⟨_,h1,b,vs',rfl,C6,hf,h0,r⟩
  ·rw [List.getElem?_set_ne qj] at z
   obtain ⟨u,z1,z2⟩:=sl.is j bb z
   refine ⟨u,z1,?_⟩
   cases bb with
   | val d=>exact z2
   | own dd =>
    obtain ⟨a',us',y1,y2,y3,y4,y5⟩:=z2
    have ne : a' ≠ b:=fun zz=>by
     subst zz y1
     exact qj (sl.apart i j ds dd a' eo z h1 z1)
    exact ⟨a',us',y1,by rw [C7 ne]; exact y2,y3,y4,y5⟩
 ·have f : ∀ (j : Nat) (es : List D),(ρ.set i (some (B.own ds')))[j]? = some (some (B.own es)) → ∃ dd : List D,ρ[j]? = some (some (B.own dd)):=fun j es q=>by
   by_cases qj : i = j
   ·subst qj; exact ⟨ds,eo⟩
   ·rw [List.getElem?_set_ne qj] at q; exact ⟨_,q⟩
  obtain ⟨d1,q1'⟩:=f j _ q1
  obtain ⟨d2,q2'⟩:=f k _ q2
  exact sl.apart j k d1 d2 c q1' q2' q3 q4
def bU9 (i : Nat) (lo hi : Rho → Option (Option Int)) (f : Rho → Option (List D)) : DS:=fun ρ=>(f ρ).bind fun es=>(lo ρ).bind fun l=>(hi ρ).bind fun h=>match ρ[i]? with
 | some (some (.own ds))=>if ds.length + es.length ≤ 16777216 then some (.nx (ρ.set i (some (.own (aL4 ds l h es))))) else none
 | _=>none
theorem cL1 (i : Nat) {x : Str} {e : Expr} {lo hi : Option Expr} {f : Rho → Option (List D)} {l h : Rho → Option (Option Int)} {p p2 pos' pos : Pos} (he : JN X e f) (hl : JO X lo l) (hh : JO X hi h) (hN : X.N[i]? = some x:=by rfl)
  (hv : Vis X.env.scope x:=by first | exact Or.inl rfl | exact Or.inr (Or.inl rfl) | exact Or.inr (Or.inr rfl)) (hd : (x == ("__debug__" : Str)) = false:=by decide) (hcd : (x == ("__classdict__" : Str)) = false:=by decide)
  (hsw : swapsWith e (some (.Subscript (.Name x p) (.Slice lo hi none p2) pos')) pos.line X.env = pure false:=by rfl) : JS X (.Assign [.Subscript (.Name x p) (.Slice lo hi none p2) pos'] e pos) (bU9 i l h f):=fun ρ fl q H0 Hf0=>by
 obtain ⟨es,e1,q⟩:=Option.bind_eq_some_iff.mp q
 obtain ⟨y,e2,q⟩:=Option.bind_eq_some_iff.mp q
 obtain ⟨z,e3,q⟩:=Option.bind_eq_some_iff.mp q
 split at q
 ·rename_i ds eo
  split at q
  ·rename_i hz
   cases q
   intro pins s σ H En I ⟨Hf,a,ee⟩
   refine wpAny_Assign_Subscript (thn (he ρ es e1 pins s σ H (fun v H'=>∃ Hf',Grow H Hf H' Hf' ∧ ∃ b us,v = .ref b ∧ H b = none ∧ H' b = some (.lst us) ∧ Hf' b = none ∧ Reps X.K Hf' es us) I ⟨H0,Hf,a.gr.sub,a.sl,fun v H' Hf' g r=>⟨Hf',g,r⟩⟩) fun v s1 ⟨x1,H1,I1,r1,Hf1,g1,b,us,ev,b1,b2,b3,b4⟩=>?_) hsw
   subst ev
   cases r1
   obtain ⟨vl0,h1,c,vs,ev,h2,h3,h4,h5⟩:=a.sl.is i _ eo
   subst ev
   refine thn (au7 hN hv hd hcd pins s1 σ H1 (fun v H'=>v = .ref c ∧ H' = H1) I1 ⟨_,h1,rfl,rfl⟩) fun ov s2 ⟨x2,H2,I2,r2,ex,eH⟩=>?_
   subst ex eH
   cases r2
   have sl1:=a.sl.grow g1
   refine wpAny_Slice (thn (hl ρ y e2 pins s2 σ H2 (fun o H'=>o = y ∧ ∃ Hf',Grow H2 Hf1 H' Hf') I2 ⟨H0,Hf1,g1.sub,sl1,fun H' Hf' g=>⟨rfl,Hf',g⟩⟩) fun wl s3 ⟨o3,H3,I3,pl,eo3,Hf3,g3⟩=>?_)
   subst eo3
   have sl3:=sl1.grow g3
   refine thn (hh ρ z e3 pins s3 σ H3 (fun o H'=>o = z ∧ ∃ Hf',Grow H3 Hf3 H' Hf') I3 ⟨H0,Hf3,g3.sub,sl3,fun H' Hf' g=>⟨rfl,Hf',g⟩⟩) fun wu s4 ⟨o4,H4,I4,pu,eo4,Hf4,g4⟩=>?_
   subst eo4
   have sl4:=sl3.grow g4
   have gg : Grow H Hf H4 Hf4:=(g1.trans g3).trans g4
   rw [evalPart_none]
   refine wpAny_pure ?_
   have I5 : Inv X pins σ H4 { s4 with heap:=s4.heap.push { cls:=.type "slice", data:=.fields #[wl,wu,.none] } }:=I4.kept (t':=s4.toks) fun b ob q=>Heap.get?_push_of_some _ q
   have hc : H4 c = some (.lst vs):=gg.big _ _ h2
   have hb : H4 b = some (.lst us):=(g3.trans g4).big _ _ b2
   have hcb : c ≠ b:=fun zz=>by subst zz; rw [h2] at b1; cases b1
   have hfc : Hf4 c = none:=gg.nofr h2 h3
   have rd : Reps X.K Hf4 (aL4 ds o3 o4 es) (aL4 vs o3 o4 us):=bV2 (h5.mono gg.ext) (b4.mono (g3.trans g4).ext) _ _
   refine br4 I5 hc hb hcb (Heap.IsSliceOf.new ..) pl pu (by rw [h5.length,b4.length,sizeLine_eq]; exact hz) fun s' I'=>?_
   have ga:=a.gr.trans gg
   refine ⟨σ,_,I',ee σ _ Hf4 ⟨⟨fun d u zz=>?_,fun d u zz=>?_,ga.ext,ga.new⟩,sl4.reOwn eo h1 hfc h4 rd⟩ gg.ext⟩
   ·rw [C7 (C9 zz h4)]; exact ga.big d u zz
   ·rw [C7 (C9 zz hfc)]; exact ga.sub d u zz
  ·cases q
 ·cases q
theorem co7 (i : Nat) {N' : List Str} {n : Nat} {caps : List Nat} {scope : Scope} {elt tgt iter : Expr} {ifs : List Expr} {pos pos' spos : Pos} {x : Str} {src : Rho → Option (List D)} {g : D → Rho → Option Rho} {c : Rho → Option Bool} {e : DE} (hN : X.N.Nodup) (S : CompSc X N' n caps scope) (hx : ∀ e s,X.xe e s → False)
  (hi : JI X tgt iter src) (hg : ∀ C s0 H0 ex,JG (K9 X N' scope C s0 H0 ex) tgt g) (ht : ∀ C s0 H0 ex,JTs (K9 X N' scope C s0 H0 ex) ifs c) (he : ∀ C s0 H0 ex,JE (K9 X N' scope C s0 H0 ex) elt e)
  (hi2 : X.N[i]? = some x:=by rfl) (hl : X.env.scope.names.lookup x = some .local:=by rfl) (hsw : swapsWith (.ListComp elt [⟨tgt,iter,ifs,0⟩] scope pos) (some (.Name x pos')) spos.line X.env = pure true:=by rfl)
  (hc : X.calm = true:=by rfl) (hs : ∀ x,foldedSetIterable iter X.env x = pure x:=by intro _; rfl) : JS X (.Assign [.Name x pos'] (.ListComp elt [⟨tgt,iter,ifs,0⟩] scope pos) spos) (ae0 i (B8 n caps src g c e)):=fun ρ fl q H0 Hf0=>by
 obtain ⟨out,e1,e2⟩:=Option.map_eq_some_iff.mp q
 subst e2
 obtain ⟨ds,e3,k⟩:=av9 (K:=X.K) e1
 refine U0 (aM7 S hx hc hN hi2 hl (hi ρ ds e3) (g:=tgJ X.K g) (tc:=aU0 X.K c) (te:=bz9 X.K e) hg ht (fun C s0 H0 ex pins s σ H Q I ⟨ρ,d,e,t⟩=>he C s0 H0 ex ρ d e pins s σ H Q I t) hsw hs) fun En σ H ⟨Hf,a,ee⟩=>k σ H _ ⟨H0,Hf,a.gr.sub,a.sl,fun v H' Hf' gg ⟨p,vs,z1,z2,z3,z4,z5⟩=>?_⟩
 subst z1
 exact ee _ H' Hf' ⟨a.gr.trans gg,a.sl.setOwn gg (a.gr.big.free z2) z2 z3 z4 z5⟩ gg.ext
def bi2 : DS:=fun ρ=>some (.ct ρ)
theorem co8 {pos : Pos} : JS X (.Continue pos) bi2:=fun ρ fl q H0 Hf0=>by
 cases q
 exact U0 bi6 fun En σ H ⟨Hf,a,e⟩=>e σ H Hf a (L3.refl _)
end
end G
namespace G
open PySem PySem.Spec PyProof.Rows L2
section
variable {X : Cx}
def aG9 (x : Str) (k : Int) : Str:=if (k == 1 || x.length == 0) = true then x else ⟨(List.replicate k.toNat x.cps).foldl (· ++ ·) #[]⟩
def bK0 (x y : D) : Option D:=match x,y with
 | .str x,.int k=>if 1 ≤ k ∧ k ≤ 2 ∧ x.length ≤ 1000 ∧ (aG9 x k).length ≤ 16777216 then some (.str (aG9 x k)) else none
 | _,_=>none
theorem cm5 : OpD X (binaryOp .Mult) bK0:=fun x y z h=>by
 unfold bK0 at h
 split at h
 ·split at h
  ·rename_i x k c
   cases h
   intro pins s σ H vx vy v u Q I rx ry ⟨Hf,ss,r1,r2,kk⟩
   cases r1
   cases r2
   obtain ⟨t,rfl⟩:=rx
   obtain ⟨t2,rfl⟩:=ry
   have w:=kk (.str (aG9 x k)) H Hf (Grow.refl ss) rfl
   have k12 : k = 1 ∨ k = 2:=by omega
   refine P.mul_str (by rw [decide_eq_false (by omega),decide_eq_false (by omega)]; rfl) (fun _ _=>by rcases k12 with rfl | rfl <;> omega) (fun _ _=>?_) ?_
   ·unfold Builtin.Str.tooLong
    rw [sizeLine_eq]
    refine decide_eq_false ?_
    rcases k12 with rfl | rfl <;> simp <;> omega
   ·rw [if_neg (by omega)]
    unfold aG9 at w c
    split
    ·rename_i e
     rw [if_pos e] at w
     exact ⟨.str x,H,I,⟨_,rfl⟩,w⟩
    ·rename_i e
     rw [if_neg e] at w c
     exact ⟨by rw [sizeLine_eq]; exact c.2.2.2,.str _,H,I.tok _,⟨_,rfl⟩,w⟩
  ·cases h
 ·cases h
def slS (x : Str) (lo hi : Option Int) : Str:=if ((1 : Int) == 1 && (Builtin.Str.strSliceIndices lo hi 1 x.length).length == x.length) = true then x else ⟨((Builtin.Str.strSliceIndices lo hi 1 x.length).filterMap (x.cps[·]?)).toArray⟩
def bN8 (f : DE) (lo hi : Rho → Option (Option Int)) : DE:=fun ρ=>(f ρ).bind fun d=>(lo ρ).bind fun l=>(hi ρ).bind fun h=>match d with
 | .str x=>if x.length ≤ 1000 ∧ (slS x l h).length ≤ 16777216 then some (.str (slS x l h)) else none
 | _=>none
theorem bB1 {u : Value} {o : Option Int} (h : IsPart u o) : ∃ p : Option (Int × Tok),u = partValue p ∧ p.map (·.1) = o:=by
 cases h with
 | none=>exact ⟨none,rfl,rfl⟩
 | int i t=>exact ⟨some (i,t),rfl,rfl⟩
theorem cj6 : SlR X (fun x lo hi H Q=>∃ z,x = .str z ∧ (slS z lo hi).length ≤ 16777216 ∧ Q (.str (slS z lo hi)) H):=by
 intro pins s σ H x v vl vu lo hi sl Q I rx hs pl pu h
 obtain ⟨z,rfl,hz,q⟩:=h
 obtain ⟨t,rfl⟩:=rx
 obtain ⟨pl',rfl,rfl⟩:=bB1 pl
 obtain ⟨pu',rfl,rfl⟩:=bB1 pu
 refine ⟨"str", _,F.slot_str_getitem.lookup,typeIs_str s z t,wpAny_getItem_str_slice (l:=pl') (u:=pu') (st:=none) hs rfl ?_⟩
 show (if ((1 : Int) == 1 && (Builtin.Str.strSliceIndices (pl'.map (·.1)) (pu'.map (·.1)) 1 z.length).length == z.length) = true then Made.val (.str z t) else Made.str ⟨((Builtin.Str.strSliceIndices (pl'.map (·.1)) (pu'.map (·.1)) 1 z.length).filterMap (z.cps[·]?)).toArray⟩).post _ _
 unfold slS at q hz
 by_cases e : ((1 : Int) == 1 && (Builtin.Str.strSliceIndices (pl'.map (·.1)) (pu'.map (·.1)) 1 z.length).length == z.length) = true
 ·rw [if_pos e] at q ⊢
  exact ⟨.str z,H,I,⟨_,rfl⟩,q⟩
 ·rw [if_neg e] at q hz ⊢
  exact ⟨by rw [sizeLine_eq]; exact hz,.str _,H,I.tok _,⟨_,rfl⟩,q⟩
theorem cN1 {a : Expr} {lo hi : Option Expr} {f : DE} {l h : Rho → Option (Option Int)} {pos p2 : Pos} (ha : JE X a f) (hl : JO X lo l) (hh : JO X hi h) : JE X (.Subscript a (.Slice lo hi none p2) pos) (bN8 f l h):=fun ρ d q=>by
 obtain ⟨x,e1,q⟩:=Option.bind_eq_some_iff.mp q
 obtain ⟨y,e2,q⟩:=Option.bind_eq_some_iff.mp q
 obtain ⟨z,e3,q⟩:=Option.bind_eq_some_iff.mp q
 cases x with
 | str x =>
  simp only at q
  split at q
  ·rename_i c
   cases q
   refine C3 (ay0 cj6 (ha ρ _ e1) (hl ρ y e2) (hh ρ z e3)) fun σ H Q ⟨H0,Hf,s,sl,k⟩=>?_
   refine ⟨H0,Hf,s,sl,fun v H1 Hf1 g1 r1=>⟨H0,Hf1,g1.sub,sl.grow g1,fun H2 Hf2 g2=>⟨H0,Hf2,g2.sub,sl.grow (g1.trans g2),fun H3 Hf3 g3=>?_⟩⟩⟩
   exact ⟨x,r1,c.2,k _ H3 Hf3 ((g1.trans g2).trans g3) rfl⟩
  ·cases q
 | _=>cases q
def aZ8 (i : Nat) (f : DE) : DS:=fun ρ=>match ρ[i]? with
 | some (some (.own ds))=>(f ρ).bind fun d=>match d with
  | .list es=>if ds.length + es.length ≤ 16777216 then some (.nx (ρ.set i (some (.own (ds ++ es))))) else none
  | .tuple es=>if ds.length + es.length ≤ 16777216 then some (.nx (ρ.set i (some (.own (ds ++ es))))) else none
  | _=>none
 | _=>none
end
end G
namespace Sh
open PySem PySem.Spec PyProof.Rows L2 G
def bS0 : DS:=(A9 (dIx (A8 0) (dC (.int 0))))
def ag1 : List D → Option D:=C4 bS0 1
def bz4 : DS:=(A9 (A5 eqD (A2 ag1 (A0 (A1 0) A3)) (dC (.str "layer"))))
def V1 : List D → Option D:=C4 bz4 1
def bS1 : DS:=(A9 (A5 eqD (A2 ag1 (A0 (A1 0) A3)) (dC (.str "tone"))))
def M3 : List D → Option D:=C4 bS1 1
def bp2 : DS:=(A9 (dIx (A8 0) (dC (.int 2))))
def O7 : List D → Option D:=C4 bp2 1
def bR6 : DS:=(A9 (dIx (A8 0) (dC (.int 2))))
def j8 : List D → Option D:=C4 bR6 1
def aT6 : DS:=(A9 (dIx (A8 0) (dC (.int 3))))
def L1 : List D → Option D:=C4 aT6 1
def bz3 : DS:=(A9 (dIx (A8 0) (dC (.int 4))))
def P1 : List D → Option D:=C4 bz3 1
def bR9 : DS:=(A9 (dIx (A8 0) (dC (.int 5))))
def k5 : List D → Option D:=C4 bR9 1
def ci0 : DS:=(A9 (dIx (A8 0) (dC (.int 6))))
def ab2 : List D → Option D:=C4 ci0 1
def bR8 : DS:=(A9 (dIx (A8 0) (dC (.int 7))))
def aa0 : List D → Option D:=C4 bR8 1
def bz0 : DS:=(A9 (dIx (A8 0) (dC (.int 8))))
def U8 : List D → Option D:=C4 bz0 1
def aT7 : DS:=(A9 (dIx (A8 0) (dC (.int 5))))
def C5 : List D → Option D:=C4 aT7 1
def n5 : DS:=(A6 (B4 3 (A2 U8 (A0 (A1 0) A3))) (A6 (B4 4 (A2 aa0 (A0 (A1 0) A3))) (A6 (B4 5 (A2 ar1 (A0 (A1 3) (A0 (A1 1) (A0 (A1 2) A3))))) (A6 (sIf (Q9 (tB2 isB (A1 4) (dC .none)) (L4 (K5 (A2 Y8 (A0 (A1 3) (A0 (A1 1) (A0 (A1 2) A3))))))) (A9 (A1 5)) C1) (A9 (A2 ab1 (A0 (A1 5) (A0 (dIx (A8 4) (A2 O8 (A0 (A1 3) (A0 (A1 1) (A0 (A1 2) A3))))) A3))))))))
def n9 : List D → Option D:=C4 n5 6
def af8 (self : Nat → List D → Option D) : DS:=(A6 (sIf (K5 (A2 V1 (A0 (A1 0) A3))) (B4 3 (A2 n9 (A0 (A1 0) (A0 (A5 aG7 (A1 1) (A2 k5 (A0 (A1 0) A3))) (A0 (A5 aG7 (A1 2) (A2 ab2 (A0 (A1 0) A3))) A3))))) (B4 3 (A2 (self 2) (A0 (A2 C5 (A0 (A1 0) A3)) (A0 (A1 1) (A0 (A1 2) A3)))))) (A9 (A2 ab1 (A0 (A1 3) (A0 (A2 L1 (A0 (A1 0) A3)) A3)))))
def M5 (self : Nat → List D → Option D) : DS:=(A6 (sIf (L4 (K5 (A2 P1 (A0 (A1 0) A3)))) (A9 (A1 1)) C1) (A6 (sIf (K5 (A2 M3 (A0 (A1 0) A3))) (A9 (A2 aA4 (A0 (A2 j8 (A0 (A1 0) A3)) (A0 (A1 1) (A0 (A2 L1 (A0 (A1 0) A3)) A3))))) C1) (A9 (A2 aa2 (A0 (A2 O7 (A0 (A1 0) A3)) (A0 (A2 (self 0) (A0 (A1 0) (A0 (A1 2) (A0 (A1 3) A3)))) (A0 (A1 1) A3)))))))
def aa9 (self : Nat → List D → Option D) : DS:=(A6 (B4 3 (dC (.tuple [(.tuple [(.int 0),(.int 1)]),(.tuple [(.int 0),(.int 1)]),(.tuple [(.int 0),(.int 1)]),(.tuple [(.int 0),(.int 1)])]))) (A6 (U4 (G1 (A1 0)) (B1 4) (B4 3 (A2 (self 1) (A0 (A1 4) (A0 (A1 3) (A0 (A1 1) (A0 (A1 2) A3))))))) (A9 (A1 3))))
def f9 : Nat → Nat → List D → Option D
 | 0=>fun _ _=>none
 | k + 1=>fun i=>match i with
  | 0=>C4 (af8 (f9 k)) 4
  | 1=>C4 (M5 (f9 k)) 4
  | 2=>C4 (aa9 (f9 k)) 5
  | _=>fun _=>none
def S6 (k : Nat) : List D → Option D:=f9 k 0
def R9 (k : Nat) : List D → Option D:=f9 k 1
def R8 (k : Nat) : List D → Option D:=f9 k 2
def aX6 : DS:=(A9 (A2 (R8 12) (A0 (dIx (A8 0) (dC (.int 2))) (A0 (A1 1) (A0 (A1 2) A3)))))
def ag3 : List D → Option D:=C4 aX6 3
def ci1 : DS:=(A6 (R0 1 (B8 2 [0] (G1 (A2 U9 (A0 (dIx (A8 0) (dC (.int 0))) (A0 (dIx (A8 0) (dC (.int 1))) A3)))) (K4 2 (B2 (B1 0) (B2 (B1 1) K7))) C8 (A2 ag3 (A0 (A1 2) (A0 (A1 0) (A0 (A1 1) A3)))))) (A9 (F6 (A0 (dIx (A8 0) (dC (.int 0))) (A0 (dIx (A8 0) (dC (.int 1))) (A0 (N4 (A8 1)) A3))))))
def ae6 : List D → Option D:=C4 ci1 2
def aX1 : DS:=(A6 (B4 3 (A5 eqD (A2 A7 (A0 (A1 0) (A0 (A1 1) (A0 (dC (.int 2)) A3)))) (dC (.int 0)))) (A6 (ae0 4 A3) (A6 (U4 (O4 (A1 2)) (B1 5) (A6 (B4 6 (aP1 (dC (.str "")) (qN (B8 1 [0,1,5] (O4 (dC (.int 2))) (B1 0) C8 (av8 (dC (.str "abcdefghijklmnopqrstuvwxyz")) (A2 A7 (A0 (A1 1) (A0 (A5 B5 (A5 B5 (A5 B5 (A1 2) (dC (.int 1))) (A5 L5 (dC (.int 3)) (A1 3))) (A1 0)) (A0 (dC (.int 26)) A3))))))))) (A6 (B4 6 (A5 bK0 (bN8 (A1 6) N0 (F9 (A2 A7 (A0 (A1 0) (A0 (A5 B5 (A5 B5 (A1 1) (dC (.int 3))) (A5 L5 (dC (.int 3)) (A1 5))) (A0 (dC (.int 3)) A3)))))) (dIx (qN (A0 (dC (.int 1)) (A0 (dC (.int 2)) A3))) (A2 A7 (A0 (A1 0) (A0 (A5 B5 (A5 B5 (A1 1) (dC (.int 2))) (A5 L5 (dC (.int 3)) (A1 5))) (A0 (dC (.int 2)) A3))))))) (i9 4 (dIx (qN (A0 (A5 B5 (A1 6) (av8 (dC (.str "abcdefghijklmn")) (A1 5))) (A0 (A5 B5 (av8 (dC (.str "abcdefghijklmn")) (A1 5)) (A1 6)) A3))) (ab9 (A1 3))))))) (aG8 4 (A9 (A1 4))))))
def ag0 : List D → Option D:=C4 aX1 7
def ak9 : DS:=(B4 4 (A2 P9 (A0 (A1 0) (A0 (A1 1) A3))))
def ak8 : DS:=(B4 5 (A5 gtI (A2 A7 (A0 (A1 0) (A0 (A5 B5 (A1 1) (dC (.int 3))) (A0 (dC (.int 6)) A3)))) (dC (.int 0))))
def o0 : DS:=(sIf (tB2 eqD (A2 A7 (A0 (A1 0) (A0 (A5 B5 (A1 1) (dC (.int 4))) (A0 (dC (.int 6)) A3)))) (dC (.int 0))) (A9 (F6 (A0 (dC (.str "tone")) (A0 (A1 2) (A0 (dIx (qN (A0 (dC (.str "turn")) (A0 (dC (.str "grey")) (A0 (dC (.str "round")) A3)))) (A2 A7 (A0 (A1 0) (A0 (A5 B5 (A1 1) (dC (.int 5))) (A0 (dC (.int 3)) A3))))) (A0 (A1 4) (A0 (A1 5) A3))))))) C1)
def ak7 : DS:=(B4 6 (dIx (qN (A0 (dC (.str "over")) (A0 (dC (.str "multiply")) (A0 (dC (.str "screen")) (A0 (dC (.str "plus")) (A0 (dC (.str "atop")) (A0 (dC (.str "cut")) A3))))))) (A2 A7 (A0 (A1 0) (A0 (A5 B5 (A1 1) (dC (.int 5))) (A0 (dC (.int 6)) A3))))))
def ac2 : DS:=(sIf (tB2 gtI (A2 A7 (A0 (A1 0) (A0 (A5 B5 (A1 1) (dC (.int 6))) (A0 (dC (.int 3)) A3)))) (dC (.int 0))) (B4 6 (A1 3)) C1)
def ak6 : DS:=(B4 7 (A5 B5 (dC (.int 1)) (A2 A7 (A0 (A1 0) (A0 (A5 B5 (A1 1) (dC (.int 7))) (A0 (dC (.int 3)) A3))))))
def ak5 : DS:=(B4 8 (A5 B5 (dC (.int 1)) (A2 A7 (A0 (A1 0) (A0 (A5 B5 (A1 1) (dC (.int 8))) (A0 (dC (.int 3)) A3))))))
def ak4 : DS:=(B4 9 (dC .none))
def ac1 : DS:=(sIf (tB2 eqD (A2 A7 (A0 (A1 0) (A0 (A5 B5 (A1 1) (dC (.int 9))) (A0 (dC (.int 3)) A3)))) (dC (.int 0))) (B4 9 (N4 (qN (B8 1 [0,1] (O4 (A5 L5 (A1 7) (A1 8))) (B1 0) C8 (A2 P9 (A0 (A1 1) (A0 (A5 B5 (A5 B5 (A1 2) (dC (.int 20))) (A5 L5 (dC (.int 3)) (A1 0))) A3))))))) C1)
def ak3 : DS:=(B4 10 (A5 aG7 (A2 A7 (A0 (A1 0) (A0 (A5 B5 (A1 1) (dC (.int 10))) (A0 (dC (.int 4)) A3)))) (dC (.int 1))))
def ag6 : DS:=(B4 11 (A5 aG7 (A2 A7 (A0 (A1 0) (A0 (A5 B5 (A1 1) (dC (.int 11))) (A0 (dC (.int 4)) A3)))) (dC (.int 1))))
def v9 : DS:=(sIf (tB2 eqD (A2 A7 (A0 (A1 0) (A0 (A5 B5 (A1 1) (dC (.int 12))) (A0 (dC (.int 3)) A3)))) (dC (.int 0))) (ab6 (F6 (A0 (dC (.int 3)) (A0 (dC (.int 3)) (A0 (dC (.int 0)) (A0 (dC (.int 0)) (A0 (dC .none) A3)))))) (K4 5 (B2 (B1 7) (B2 (B1 8) (B2 (B1 10) (B2 (B1 11) (B2 (B1 9) K7))))))) C1)
def ag5 : DS:=(B4 12 (A2 af9 (A0 (A1 0) (A0 (A5 B5 (A1 1) (dC (.int 50))) (A0 (A1 7) (A0 (A1 8) A3))))))
def ag4 : DS:=(A9 (F6 (A0 (dC (.str "layer")) (A0 (A1 2) (A0 (A1 6) (A0 (A1 4) (A0 (A1 5) (A0 (A1 10) (A0 (A1 11) (A0 (A1 9) (A0 (A1 12) A3)))))))))))
def aQ1 : DS:=(A6 ak9 (A6 ak8 (A6 o0 (A6 ak7 (A6 ac2 (A6 ak6 (A6 ak5 (A6 ak4 (A6 ac1 (A6 ak3 (A6 ag6 (A6 v9 (A6 ag5 ag4)))))))))))))
def ab4 : List D → Option D:=C4 aQ1 13
def aX0 : DS:=(A6 (B4 4 (dIx (qN (A0 (dC (.str "over")) (A0 (dC (.str "multiply")) (A0 (dC (.str "screen")) (A0 (dC (.str "plus")) A3))))) (A2 A7 (A0 (A1 0) (A0 (A1 1) (A0 (dC (.int 4)) A3)))))) (A6 (B4 5 (A2 A7 (A0 (A1 0) (A0 (A5 B5 (A1 1) (dC (.int 1))) (A0 (A5 B5 (A1 2) (dC (.int 1))) A3))))) (A6 (ae0 6 (B8 1 [0,4,3,1] (O4 (A1 5)) (B1 0) C8 (A2 ab4 (A0 (A1 1) (A0 (A5 B5 (A5 B5 (A1 4) (dC (.int 20))) (A5 L5 (dC (.int 170)) (A1 0))) (A0 (dIx (A8 3) (A1 0)) (A0 (A1 2) A3))))))) (A6 (U4 (O4 (A2 A7 (A0 (A1 0) (A0 (A5 B5 (A1 1) (dC (.int 2))) (A0 (dC (.int 3)) A3))))) (B1 7) (A6 (B4 8 (A2 A7 (A0 (A1 0) (A0 (A5 B5 (A5 B5 (A1 1) (dC (.int 3))) (A5 L5 (dC (.int 5)) (A1 7))) (A0 (A5 B5 (R3 (A8 6)) (dC (.int 1))) A3))))) (A6 (B4 9 (A5 B5 (A1 8) (A2 A7 (A0 (A1 0) (A0 (A5 B5 (A5 B5 (A1 1) (dC (.int 4))) (A5 L5 (dC (.int 5)) (A1 7))) (A0 (dC (.int 3)) A3)))))) (A6 (B4 10 (dIx (qN (A0 (F6 (A0 (dC (.int 1)) (A0 (dC (.int 1)) A3))) (A0 (A2 P9 (A0 (A1 0) (A0 (A5 B5 (A5 B5 (A1 1) (dC (.int 5))) (A5 L5 (dC (.int 5)) (A1 7))) A3))) A3))) (A2 A7 (A0 (A1 0) (A0 (A5 B5 (A5 B5 (A1 1) (dC (.int 6))) (A5 L5 (dC (.int 5)) (A1 7))) (A0 (dC (.int 2)) A3)))))) (A6 (B4 11 (dIx (qN (A0 (A1 4) (A0 (dC (.str "atop")) (A0 (A1 4) (A0 (dC (.str "cut")) A3))))) (A2 A7 (A0 (A1 0) (A0 (A5 B5 (A5 B5 (A1 1) (dC (.int 7))) (A5 L5 (dC (.int 5)) (A1 7))) (A0 (dC (.int 4)) A3)))))) (A6 (B4 12 (F6 (A0 (dC (.str "group")) (A0 (dIx (A8 3) (A5 B5 (A1 2) (A1 7))) (A0 (A1 11) (A0 (A1 10) (A0 (A5 gtI (A2 A7 (A0 (A1 0) (A0 (A5 B5 (A5 B5 (A1 1) (dC (.int 14))) (A1 7)) (A0 (dC (.int 7)) A3)))) (dC (.int 0))) A3))))))) (bU9 6 (F9 (A1 8)) (F9 (A1 9)) (A0 (A5 B5 (A1 12) (F6 (A0 (N4 (qE (bN9 (A8 6) (F9 (A1 8)) (F9 (A1 9))))) A3))) A3)))))))) (A9 (N4 (A8 6)))))))
def ar5 : List D → Option D:=C4 aX0 13
def aG4 : DS:=(A6 (B4 4 (A5 B5 (dC (.int 1)) (A2 A7 (A0 (A1 0) (A0 (A1 1) (A0 (dC (.int 3)) A3)))))) (A6 (B4 5 (A5 B5 (dC (.int 1)) (A2 A7 (A0 (A1 0) (A0 (A5 B5 (A1 1) (dC (.int 1))) (A0 (dC (.int 3)) A3)))))) (A9 (F6 (A0 (A1 4) (A0 (A1 5) (A0 (A2 ar5 (A0 (A1 0) (A0 (A5 B5 (A1 1) (dC (.int 2))) (A0 (A1 2) (A0 (A1 3) A3))))) A3)))))))
def o9 : List D → Option D:=C4 aG4 6
end Sh
namespace G
open PySem PySem.Spec PyProof.Rows L2
section
variable {X : Cx}
def bJ9 (f g : Rho → Option (Bool × List D)) : Rho → Option (List D):=fun ρ=>(f ρ).bind fun p=>(g ρ).bind fun q=>if p.1 = false ∧ q.1 = false ∧ p.2.length + q.2.length ≤ 16777216 then some (p.2 ++ q.2) else none
theorem cM3 {a b : Expr} {f g : Rho → Option (Bool × List D)} {pos : Pos} (ha : JQ X a f) (hb : JQ X b g) : JN X (.BinOp a .Add b pos) (bJ9 f g):=fun ρ out q=>by
 obtain ⟨⟨t1,xs⟩,e1,q⟩:=Option.bind_eq_some_iff.mp q
 obtain ⟨⟨t2,ys⟩,e2,q⟩:=Option.bind_eq_some_iff.mp q
 split at q
 ·rename_i c
  obtain ⟨c1,c2,c3⟩:=c
  simp only at c1 c2 c3
  subst c1 c2
  cases q
  refine C3 (cu6 bB2 (ha ρ _ _ e1) (hb ρ _ _ e2)) fun σ H Q ⟨H0,Hf,s,sl,k⟩=>?_
  refine ⟨H0,Hf,s,sl,fun v H1 Hf1 g1 ⟨p,vs,z1,z2,z3⟩=>⟨H0,Hf1,g1.sub,sl.grow g1,fun u H2 Hf2 g2 ⟨p',us,z1',z2',z3'⟩=>?_⟩⟩
  subst z1 z1'
  refine ⟨p,p',vs,us,rfl,rfl,K8 g2.big z2,z2',by rw [z3.length,z3'.length,sizeLine_eq]; exact c3,fun n hn=>?_⟩
  exact k _ _ _ ((g1.trans g2).trans (Grow.made g2.sub hn)) ⟨n,vs ++ us,rfl,(g1.trans g2).big.free hn,C6,g2.sub.free hn,(z3.mono g2.ext).append z3'⟩
 ·cases q
end
end G
namespace Sh
open PySem PySem.Spec PyProof.Rows L2 G
def bz5 : DS:=(A9 (A5 eqD (A2 ag1 (A0 (A1 0) A3)) (dC (.str "group"))))
def M2 : List D → Option D:=C4 bz5 1
def bR7 : DS:=(A9 (dIx (A8 0) (dC (.int 1))))
def P8 : List D → Option D:=C4 bR7 1
def aw4 : DS:=(A9 (A5 B5 (am8 (A1 0) N0 (F9 (dC (.int 5)))) (F6 (A0 (A1 1) A3))))
def Q7 : List D → Option D:=C4 aw4 2
def aP8 : DS:=(A6 (U4 (aO4 (qE (A1 0))) (K4 2 (B2 (B1 2) (B2 (B1 3) K7))) (sIf (tB2 eqD (A2 P8 (A0 (A1 3) A3)) (A1 1)) (A9 (A1 2)) C1)) (A9 (dC .none)))
def S5 : List D → Option D:=C4 aP8 4
def P6 (self : List D → Option D) : DS:=(A6 (sIf (tB2 aR7 (A2 S5 (A0 (A1 0) (A0 (A1 1) A3))) (dC .none)) (A9 (A1 0)) C1) (A6 (U4 (G1 (A1 0)) (B1 2) (sIf (K5 (A2 M2 (A0 (A1 2) A3))) (A6 (B4 3 (A2 self (A0 (A2 C5 (A0 (A1 2) A3)) (A0 (A1 1) A3)))) (sIf (tB2 aR7 (A1 3) (dC .none)) (A9 (A1 3)) C1)) C1)) (A9 (dC .none))))
def K3 : Nat → List D → Option D
 | 0=>fun _=>none
 | k + 1=>C4 (P6 (K3 k)) 4
def an7 : DS:=(A6 (B4 2 (A2 (K3 12) (A0 (dIx (A8 0) (dC (.int 2))) (A0 (A1 1) A3)))) (A6 (sIf (tB2 isB (A1 2) (dC .none)) P5 C1) (A9 (A1 2))))
def Z8 : List D → Option D:=C4 an7 3
def bg3 (self : List D → Option D) : DS:=(A6 (ae0 1 A3) (A6 (U4 (G1 (A1 0)) (B1 2) (A6 (i9 1 (A1 2)) (sIf (tB2 eqD (dIx (A8 2) (dC (.int 0))) (dC (.str "group"))) (ae0 1 (bJ9 (A8 1) (qE (A2 self (A0 (dIx (A8 2) (dC (.int 5))) A3))))) C1))) (aG8 1 (A9 (A1 1)))))
def R4 : Nat → List D → Option D
 | 0=>fun _=>none
 | k + 1=>C4 (bg3 (R4 k)) 3
end Sh
namespace G
open PySem PySem.Spec PyProof.Rows L2
section
variable {X : Cx}
theorem cr7 (l b : Addr) (xs ys : Array Value) (n m : Nat) (dd : Option Addr) (sl : Array (Option Value)) (h0 : ¬(!xs.isEmpty && Builtin.List.listTooLong (xs.size + ys.size)) = true) (h1 : xs.size ≤ sizeLine) (h2 : xs.size + ys.size ≤ sizeLine + 1) :
  Meets (Builtin.«list.extend» ⟨[.ref l,.ref b],[]⟩) (fun _ R s=>s.heap.get? l = some { cls:=.type "list", data:=.seq xs n } ∧ s.heap.get? b = some ⟨.type "list", dd,.seq ys m,sl⟩ ∧
   R (.ok (.ret Value.none)) { s with heap:=s.heap.update l (Obj.mapSeq fun x=>x ++ ys),toks:=s.toks }) :=
 .of_wp fun prog w A R s h=>by
  obtain ⟨hp,g,d,tk,os⟩:=s
  obtain ⟨hl,hb,h⟩:=h
  have f1:=AutoSeq1.idx_int
  have f2:=AutoSeq1.sub_tuple_tuple
  have f3:=AutoSeq1.sub_list_list
  have f4:=AutoSeq1.sub_tuple_list
  have f5:=AutoSeq1.sub_list_tuple
  have hz' : (xs ++ ys).size ≤ sizeLine + 1:=by rw [Array.size_append]; exact h2
  wp_walk using (wpAny_updateSeq hl rfl (hz:=h1) (_hz':=hz')),AutoSeq1.wpAny_loadPart' hl,AutoSeq1.wpAny_loadPart' hb
  exact ⟨_,rfl,h⟩
theorem cr6 (l b : Addr) (xs ys : Array Value) (n m : Nat) (dd : Option Addr) (sl : Array (Option Value)) (h0 : ¬(!xs.isEmpty && Builtin.List.listTooLong (xs.size + ys.size)) = true) (h1 : xs.size ≤ sizeLine) (h2 : xs.size + ys.size ≤ sizeLine + 1) :
  Meets (Builtin.«list.extend» ⟨[.ref l,.ref b],[]⟩) (fun _ R s=>s.heap.get? l = some { cls:=.type "list", data:=.seq xs n } ∧ s.heap.get? b = some ⟨.type "tuple", dd,.seq ys m,sl⟩ ∧
   R (.ok (.ret Value.none)) { s with heap:=s.heap.update l (Obj.mapSeq fun x=>x ++ ys),toks:=s.toks }) :=
 .of_wp fun prog w A R s h=>by
  obtain ⟨hp,g,d,tk,os⟩:=s
  obtain ⟨hl,hb,h⟩:=h
  have f1:=AutoSeq1.idx_int
  have f2:=AutoSeq1.sub_tuple_tuple
  have f3:=AutoSeq1.sub_list_list
  have f4:=AutoSeq1.sub_tuple_list
  have f5:=AutoSeq1.sub_list_tuple
  have hz' : (xs ++ ys).size ≤ sizeLine + 1:=by rw [Array.size_append]; exact h2
  wp_walk using (wpAny_updateSeq hl rfl (hz:=h1) (_hz':=hz')),AutoSeq1.wpAny_loadPart' hl,AutoSeq1.wpAny_loadPart' hb
  exact ⟨_,rfl,h⟩
def db5 (K : PySem.W.Frag) : V → List V → Hp → VK → Prop:=fun x vs H Q=>∃ l b xs zs,x = .ref l ∧ vs = [.ref b] ∧ H l = some (.lst xs) ∧ (SqL K H b zs ∨ SqT K H b zs) ∧ xs.length + zs.length ≤ sizeLine ∧ Q .non (upd H l (.lst (xs ++ zs)))
theorem bZ1 : MtM X "list.extend" (db5 X.K):=by
 intro pins s σ H x vs v us Q I rx rv h
 obtain ⟨l,b,xs,zs,rfl,rfl,hH,hB,hz,q⟩:=h
 cases rx
 obtain ⟨u,rfl,ru⟩:=rv.one
 cases ru
 obtain ⟨z,its,n,r,hl,e⟩:=I.lstM hH
 rcases hB with hB | hB
 ·obtain ⟨its2,r2,pl,_⟩:=I.list hB
  obtain ⟨⟨cls,dd,data,sl⟩,ho,hc,m,hd⟩:=pl.isList
  simp only at hc hd
  subst hc hd
  have hl2:=r2.length
  have hsz : its.toArray.size + its2.toArray.size ≤ sizeLine:=by rw [List.size_toArray,List.size_toArray]; omega
  have hlong : ¬ (!its.toArray.isEmpty && Builtin.List.listTooLong (its.toArray.size + its2.toArray.size)) = true:=by
   rw [al9 hsz,Bool.and_false]; exact Bool.false_ne_true
  refine call_meets F.slot_list_extend ⟨_,e,rfl⟩ F.entry_list_extend (F.args_list_extend_2 _ _) (cr7 l b its.toArray its2.toArray n m dd sl hlong (by rw [List.size_toArray]; omega) (by omega)) ⟨e,ho,?_⟩
  refine ⟨.non,_,I.lset (its':=its ++ its2) hH e (by simp) (r.append r2) ?_,rfl,q⟩
  rw [List.length_append]; omega
 ·obtain ⟨its2,r2,pl,_⟩:=I.tuple hB
  obtain ⟨⟨cls,dd,data,sl⟩,ho,hc,m,hd⟩:=pl
  simp only at hc hd
  subst hc hd
  have hl2:=r2.length
  have hsz : its.toArray.size + its2.toArray.size ≤ sizeLine:=by rw [List.size_toArray,List.size_toArray]; omega
  have hlong : ¬ (!its.toArray.isEmpty && Builtin.List.listTooLong (its.toArray.size + its2.toArray.size)) = true:=by
   rw [al9 hsz,Bool.and_false]; exact Bool.false_ne_true
  refine call_meets F.slot_list_extend ⟨_,e,rfl⟩ F.entry_list_extend (F.args_list_extend_2 _ _) (cr6 l b its.toArray its2.toArray n m dd sl hlong (by rw [List.size_toArray]; omega) (by omega)) ⟨e,ho,?_⟩
  refine ⟨.non,_,I.lset (its':=its ++ its2) hH e (by simp) (r.append r2) ?_,rfl,q⟩
  rw [List.length_append]; omega
theorem cL7 (i : Nat) {x : Str} {e : Expr} {f : DE} {p apos cpos pos : Pos} (h : JE X e f) (hN : X.N[i]? = some x) (hv : Vis X.env.scope x) (hd : (x == ("__debug__" : Str)) = false)
  (hcd : (x == ("__classdict__" : Str)) = false) (hline : (apos.endLine == cpos.line) = true) (hs : starEach [e] X.env = [(false,eval e X.env)]) :
  JS X (.Expr (.Call (.Attribute (.Name x p) "extend" apos) [e] [] cpos) pos) (aZ8 i f):=fun ρ fl q H0 Hf0=>by
 unfold aZ8 at q
 split at q
 ·rename_i ds eo
  obtain ⟨d,e1,q⟩:=Option.bind_eq_some_iff.mp q
  split at q
  ·rename_i es
   split at q
   ·rename_i hz
    cases q
    refine U0 (ba4 (bB0 PySem.F.plainAttrs_list PySem.F.slot_list_extend PySem.F.type_list_extend bZ1 (au7 hN hv hd hcd) (F7 (h ρ _ e1) O9 hs) rfl (by rw [hs]; rfl) hline hs) rfl) fun En σ H ⟨Hf,a,ee⟩=>?_
    obtain ⟨v,h1,b,vs,rfl,h2,h3,h4,h5⟩:=a.sl.is i _ eo
    refine ⟨_,h1,.inl ⟨rfl,vs,SqL.of h2⟩,H0,Hf,a.gr.sub,a.sl,fun w H' Hf' gg r=>?_⟩
    obtain ⟨b2,us,rfl,r1,r2⟩:=r
    have hb : H' b = some (.lst vs):=gg.big _ _ h2
    have hfb : Hf' b = none:=gg.nofr h2 h3
    have g2:=a.gr.trans gg
    have sl2:=a.sl.grow gg
    refine ⟨b,b2,vs,us,rfl,rfl,hb,.inl (K8 gg.sub r1),by rw [h5.length,r2.length,sizeLine_eq]; exact hz,ee _ _ Hf' ⟨⟨fun c u z=>?_,fun c u z=>?_,g2.ext,g2.new⟩,?_⟩ gg.ext⟩
    ·rw [C7 (C9 z h4)]; exact g2.big c u z
    ·rw [C7 (C9 z hfb)]; exact g2.sub c u z
    ·exact sl2.reOwn eo h1 hfb h4 ((h5.mono gg.ext).append r2)
   ·cases q
  ·rename_i es
   split at q
   ·rename_i hz
    cases q
    refine U0 (ba4 (bB0 PySem.F.plainAttrs_list PySem.F.slot_list_extend PySem.F.type_list_extend bZ1 (au7 hN hv hd hcd) (F7 (h ρ _ e1) O9 hs) rfl (by rw [hs]; rfl) hline hs) rfl) fun En σ H ⟨Hf,a,ee⟩=>?_
    obtain ⟨v,h1,b,vs,rfl,h2,h3,h4,h5⟩:=a.sl.is i _ eo
    refine ⟨_,h1,.inl ⟨rfl,vs,SqL.of h2⟩,H0,Hf,a.gr.sub,a.sl,fun w H' Hf' gg r=>?_⟩
    obtain ⟨b2,us,rfl,r1,r2⟩:=r
    have hb : H' b = some (.lst vs):=gg.big _ _ h2
    have hfb : Hf' b = none:=gg.nofr h2 h3
    have g2:=a.gr.trans gg
    have sl2:=a.sl.grow gg
    refine ⟨b,b2,vs,us,rfl,rfl,hb,.inr (E2 gg.sub r1),by rw [h5.length,r2.length,sizeLine_eq]; exact hz,ee _ _ Hf' ⟨⟨fun c u z=>?_,fun c u z=>?_,g2.ext,g2.new⟩,?_⟩ gg.ext⟩
    ·rw [C7 (C9 z h4)]; exact g2.big c u z
    ·rw [C7 (C9 z hfb)]; exact g2.sub c u z
    ·exact sl2.reOwn eo h1 hfb h4 ((h5.mono gg.ext).append r2)
   ·cases q
  ·cases q
 ·cases q
end
end G
namespace G
open PySem PySem.Spec PyProof.Rows L2
def aS6 (a : List Str) (x : Str) : List Str:=if a.any (· == x) then a else a ++ [x]
def ddN (v : Nat → Str) (i : Nat) : List Str:=((List.range i).map v).foldl aS6 []
def ddS (l : List Str) : List Str:=l.foldl aS6 []
theorem aP0 (v : Nat → Str) (i : Nat) : ddN v (i + 1) = aS6 (ddN v i) (v i):=by
 unfold ddN
 rw [List.range_succ,List.map_append,List.foldl_append]
 rfl
theorem cf6 (v : Nat → Str) : ∀ i,(ddN v i).length ≤ i
 | 0=>Nat.le_refl 0
 | i + 1=>by
  have ih:=cf6 v i
  rw [aP0]
  unfold aS6
  split
  ·omega
  ·rw [List.length_append,List.length_singleton]
   omega
theorem cQ2 (a : List Str) (x y : Str) : (aS6 a x).any (· == y) = (a.any (· == y) || decide (y = x)):=by
 unfold aS6
 by_cases q : a.any (· == x) = true
 ·rw [if_pos q]
  by_cases e : y = x
  ·subst e; rw [q]; simp
  ·simp [e]
 ·rw [if_neg q,List.any_append]
  by_cases e : y = x
  ·subst e; simp
  ·have : (x == y) = false:=by simpa [beq_iff_eq] using fun z : x = y=>e z.symm
   simp [this,e]
theorem cQ1 (a : List Str) (x : Str) : (aS6 a x).length = if a.any (· == x) then a.length else a.length + 1:=by
 unfold aS6
 split <;> simp
theorem cQ3 (l : List Str) (d : Str) : ddN (fun i=>l.getD i d) l.length = ddS l:=by
 unfold ddN ddS
 congr 1
 refine List.ext_getElem? fun i=>?_
 rw [List.getElem?_map]
 by_cases hi : i < l.length
 ·rw [List.getElem?_range hi,List.getElem?_eq_getElem hi]
  simp [List.getD,List.getElem?_eq_getElem hi]
 ·rw [List.getElem?_eq_none (by simpa using hi),List.getElem?_eq_none (by simpa using hi)]
  rfl
section
variable {prog : Program} {w : World} {A : Around} {R : Result → Shared → Prop} {J : Addr} {fp wr : List Addr} {Gn : Array GenState → Array GenState → Prop} {n : Nat} {P : Nat → Value → Prop} {St : Nat → Shared → Prop}
theorem bU8 (W : WalksS prog w A.in1 J fp wr Gn n P St) (S : Addr) (hS1 : S ∉ fp) (v : Nat → Str) (hv : ∀ i u,P i u → ∃ t,u = .str (v i) t) (hb : n + 1 < scanBound) :
  ∀ (k i : Nat) (s : Shared),n - i = k → i ≤ n → St i s → s.heap.SetOf (strKind prog w) S (fun y=>(ddN v i).any (· == y)) (ddN v i).length →
   (∀ s',Moved (S :: wr) Gn s s' → s'.heap.SetOf (strKind prog w) S (fun y=>(ddN v n).any (· == y)) (ddN v n).length → R (.ok (.ret .none)) s') →
   codeAny (model prog w) A (.builtin "set.update.loop" ⟨[.ref S,.ref J],[]⟩) R s:=by
 have hS2 : S ∉ wr:=fun z=>hS1 (W.sub _ z)
 have more : ∀ b ∈ wr,b ∈ S :: wr:=fun b z=>List.mem_cons_of_mem _ z
 intro k
 induction k with
 | zero =>
  intro i s e1 e2 q1 q2 q3
  obtain rfl : i = n:=by omega
  refine codeAny_builtin PyProof.Rows.F.entry_set_update_loop ?_
  rw [Around.under_plainId PyProof.Rows.F.plain_set_update_loop _]
  show wpAny _ _ (pyNext (.ref J) >>= _) _ _ _
  refine wpAny_bind (W.done s _ _ q1 fun s' mv=>?_)
  show wpAny _ _ (ret Value.none) _ _ _
  refine wpAny_pure (q3 s' (mv.mono more) ?_)
  obtain ⟨o,es,ep,tb,ho,more'⟩:=q2
  exact ⟨o,es,ep,tb,mv.heap S _ hS2 ho,more'⟩
 | succ k ih =>
  intro i s e1 e2 q1 q2 q3
  have lt : i < n:=by omega
  refine codeAny_builtin PyProof.Rows.F.entry_set_update_loop ?_
  rw [Around.under_plainId PyProof.Rows.F.plain_set_update_loop _]
  show wpAny _ _ (pyNext (.ref J) >>= _) _ _ _
  refine wpAny_bind (W.item i s _ _ lt q1 fun u s' hP q1' mv=>?_)
  obtain ⟨t,rfl⟩:=hv i u hP
  have q2' : s'.heap.SetOf (strKind prog w) S (fun y=>(ddN v i).any (· == y)) (ddN v i).length:=by
   obtain ⟨o,es,ep,tb,ho,more'⟩:=q2
   exact ⟨o,es,ep,tb,mv.heap S _ hS2 ho,more'⟩
  show wpAny _ _ (holding [Value.str (v i) t] (setAdd S (.str (v i) t)) >>= _) _ _ _
  refine wpAny_bind (wpAny_holding ?_)
  unfold setAdd
  refine wpAny_holding (wpAny_bind ((strKind prog w).pyHash (k:=v i) (strKind_is _ _ _ _) ?_))
  have room : (ddN v i).length + 1 < scanBound:=by have:=cf6 v i; omega
  refine wpAny_setAddHashed_of (knd:=strKind prog w) (s:={ s' with toks:=s'.toks + 1 }) (strKind_is _ _ _ _) rfl q2' room fun h' sb q4=>?_
  have q5 : h'.SetOf (strKind prog w) S (fun y=>(ddN v (i + 1)).any (· == y)) (ddN v (i + 1)).length:=SetOf_congr q4 (fun y=>by rw [aP0,cQ2]) (by rw [aP0,cQ1])
  refine wpAny_pure ⟨plainId_quiet PyProof.Rows.F.plain_set_update_loop _,ih (i + 1) _ (by omega) lt (W.frame _ s' _ _ q1' (Nat.le_succ _) fun b z o e=>?_) q5 fun s2 mv2 q6=>?_⟩
  ·rw [sb.2 b (fun y : b = S=>hS1 (by rw [← y]; exact z))]; exact e
  ·refine q3 s2 (Moved.trans W.gtrans ((mv.mono more).then_heap (Nat.le_succ _) fun b o z e=>?_) mv2) q6
   rw [sb.2 b (fun y : b = S=>z (by rw [y]; exact List.mem_cons_self))]; exact e
end
section
variable {prog : Program} {w : World} {A : Around} {E : Value → Shared → Prop} {s : Shared}
abbrev Z2 (b : Bool) : Obj:={ cls:=.type "set", dict:=none,data:=.set #[] 0 (.fresh 0 0 b) }
theorem bi1 {l : Addr} {its : Array Value} {xs : List Str} {Q : Value → Shared → Prop} (hh : A.handled = none) (hl : s.heap.IsList l its) (hi : ∀ (i : Nat) (u : Value),its[i]? = some u → ∃ t,u = .str (xs.getD i "") t) (hb : its.size + 1 < scanBound)
  (h : ∀ (h' : Heap) (tk : Nat),h'.SetOf (strKind prog w) s.heap.objs.size (fun y=>(ddN (fun i=>xs.getD i "") its.size).any (· == y)) (ddN (fun i=>xs.getD i "") its.size).length →
   (∀ b o,b < s.heap.objs.size → s.heap.get? b = some o → h'.get? b = some o) → Q (.ref s.heap.objs.size) { s with heap:=h',toks:=tk }) :
  wpAny (model prog w) A (call (.type "set") [.ref l]) Q E s:=by
 obtain ⟨c,tl,hmro⟩:=F.called_set.mro
 have hmade:=F.called_set.made
 have hsub:=F.called_set.sub
 refine wpAny_call (codeAny_of_tree ?_)
 show wpAny _ _ (callAny (.type "set") _) _ _ _
 refine wpAny_pure ⟨Code.quiet_builtin _ (by decide +kernel),codeAny_builtin F.entry_type_call ?_⟩
 rw [Around.under_plain (weight_type_call_type "set" [.ref l] []) rfl]
 have n1:=F.called_set.notType
 have n2:=F.called_set.canCreate
 have n3:=F.typeCall_set_1 (.ref l)
 repeat (any_goals (first | assumption | wp_step))
 refine codeAny_mono (code_set_new_1 (.ref l) (E:=E) (Q₁:=fun ob s1=>∃ b : Bool,ob = .ref s.heap.objs.size ∧ s1 = { s with heap:=s.heap.push (Z2 b) }) fun b=>⟨b,rfl,rfl⟩) fun r s1 hr=>?_
 cases r with
 | error e=>exact hr
 | ok fl =>
  cases fl with
  | ret ob =>
   obtain ⟨b,rfl,rfl⟩:=hr
   have g0 : (s.heap.push (Z2 b)).get? s.heap.objs.size = some (Z2 b):=Heap.get?_push_size _ rfl
   have hT : Shared.TypeIs { s with heap:=s.heap.push (Z2 b) } (.ref s.heap.objs.size) "set" := ⟨_,g0,rfl⟩
   have li:=F.called_set.init.lookup
   have bi:=F.called_set.init.bind (.ref s.heap.objs.size)
   repeat (any_goals (first | assumption | wp_step))
   refine codeAny_mono (codeAny_call_builtin (R:=wants (fun r s2=>r = .none ∧ ∃ h' tk,s2 = { s with heap:=h',toks:=tk } ∧ h'.SetOf (strKind prog w) s.heap.objs.size (fun y=>(ddN (fun i=>xs.getD i "") its.size).any (· == y)) (ddN (fun i=>xs.getD i "") its.size).length ∧
     (∀ b o,b < s.heap.objs.size → s.heap.get? b = some o → h'.get? b = some o)) E) F.called_set.init.plain F.entry_set_init (check_set_init_1 hT ?_)) fun r2 s2 hr2=>?_
   ·obtain ⟨⟨c0,d0,dt0,sl0⟩,hol,hcl,nl,hdl⟩:=hl
    simp only at hcl hdl
    subst hcl hdl
    have hol' : (s.heap.push (Z2 b)).get? l = some { cls:=.type "list", dict:=d0,data:=.seq its nl,slots:=sl0 }:=Heap.get?_push_of_some _ hol
    have f1:=F.sub_list_set
    have f2:=F.sub_list_frozenset
    have f3 : (Value.type "list" == Value.type "dict") = false:=by decide
    have hl1 : (s.heap.push (Z2 b)).IsList l its:=⟨_,hol',rfl,nl,rfl⟩
    unfold Builtin.«set.__init__» noKeywords Builtin.Frozenset.updateFrom
    generalize hPI : pyIter = PI
    wp_walk
    subst hPI
    refine wpAny_pyIter_list hl1 (wpAny_bind (wpAny_runValue ?_))
    have lS : l < s.heap.objs.size:=Heap.lt_size hol
    have h3 : A.in1.in1.in1.handled = none:=by simp [hh]
    have nI : l ≠ (s.heap.push (Z2 b)).objs.size:=by
     rw [Heap.size_push]
     exact Nat.ne_of_lt (Nat.lt_succ_of_lt lS)
    have nf : s.heap.objs.size ∉ [(s.heap.push (Z2 b)).objs.size,l]:=by
     rw [Heap.size_push]
     simp only [List.mem_cons,List.mem_singleton,List.not_mem_nil,or_false,not_or]
     exact ⟨Nat.ne_of_lt (Nat.lt_succ_self _),Nat.ne_of_gt lS⟩
    refine bU8 ((Walks.list h3 _ l nI its).toS) s.heap.objs.size nf (fun i=>xs.getD i "") hi hb (its.size - 0) 0 _ (by omega) (Nat.zero_le _) ⟨⟨_,Heap.get?_push_size _ rfl,rfl,rfl⟩,(hl1.push _)⟩ ?hS0 ?hR
    case hS0 =>
     have gt : ((s.heap.push (Z2 b)).push { cls:=.type "list_iterator", data:=.fields #[.ref l,.int 0 0] }).get? s.heap.objs.size = some (Z2 b):=Heap.get?_push_of_some _ g0
     exact SetOf_congr ((setObjOf_fresh (knd:=strKind prog w) b).setOf gt (by unfold scanBound; omega)) (fun _=>rfl) rfl
    case hR =>
     intro s' mv q
     obtain ⟨h',g',d',tk',os'⟩:=s'
     have eg : g' = s.gens:=mv.gens
     have ed : d' = s.drawn:=mv.drawn
     have eo : os' = s.os:=mv.os
     subst eg ed eo
     show wpAny _ _ _ _ _ _
     refine wpAny_pure ?_
     show wpAny _ _ (ret Value.none) _ _ _
     refine wpAny_pure ⟨rfl,h',tk',rfl,q,fun c o hc e=>?_⟩
     have c1 : c ≠ s.heap.objs.size:=Nat.ne_of_lt hc
     have c2 : c ≠ (s.heap.push (Z2 b)).objs.size:=by
      rw [Heap.size_push]
      exact Nat.ne_of_lt (Nat.lt_succ_of_lt hc)
     exact mv.heap c o (by simp only [List.mem_cons,List.mem_singleton,List.not_mem_nil,or_false,not_or]; exact ⟨c1,c2⟩) (Heap.get?_push_of_some _ (Heap.get?_push_of_some _ e))
   ·cases r2 with
    | error e=>exact hr2
    | ok fl2 =>
     cases fl2 with
     | ret r =>
      obtain ⟨rfl,h',tk,rfl,q1,q2⟩:=hr2
      repeat (any_goals (first | assumption | wp_step))
      exact h _ _ q1 q2
     | _=>exact hr2.elim
  | _=>exact hr.elim
end
end G
namespace G
open PySem PySem.Spec PyProof.Rows L2
section
variable {X : Cx}
def SetO (X : Cx) (a : Addr) (n : Nat) : HO:=.ext fun h=>∃ S,h.SetOf (strKind X.prog X.w) a S n
theorem cQ8 : bootBuiltins "set" = some (.type "set"):=by decide +kernel
theorem bh3 : ∀ {ys : List Str} {us : List Value},K2 (ys.map V.str) us → ∀ (i : Nat) (u : Value),us[i]? = some u → ∃ t,u = .str (ys.getD i "") t
 | [],[],_,i,u,h=>by simp at h
 | y :: ys,u :: us,h,i,v,e=>by
  cases h with
  | cons a b =>
   cases i with
   | zero =>
    simp only [xg0,Option.some.injEq] at e
    subst e
    obtain ⟨t,e⟩:=a
    exact ⟨t,e⟩
   | succ i =>
    simp only [xg1] at e
    obtain ⟨t,e'⟩:=bh3 b i v e
    exact ⟨t,e'⟩
theorem bO3 (hc : X.calm = true) : u5 X (.type "set") (fun xs H Q=>∃ p ys,xs = [.ref p] ∧ SqL X.K H p (ys.map V.str) ∧ ys.length ≤ 4000 ∧ ∀ l,H l = none → Q (.ref l) (upd H l (SetO X l (ddS ys).length))):=by
 intro pins s σ H xs us Q I r h
 obtain ⟨p,ys,rfl,hq,hz,q⟩:=h
 obtain ⟨u,rfl,rx⟩:=ae7 r
 cases rx
 obtain ⟨its,rv,pl,_⟩:=I.list hq
 have hl : its.length = ys.length:=by have:=rv.length; rw [List.length_map] at this; exact this.symm
 have hs : its.toArray.size = ys.length:=by rw [List.size_toArray]; exact hl
 refine bi1 (xs:=ys) (I.ok.hd hc) pl.isList (fun i u e=>bh3 rv i u (by rw [List.getElem?_toArray] at e; exact e)) (by rw [hs]; unfold scanBound; omega) fun h' tk q1 q2=>?_
 rw [hs,cQ3] at q1
 refine ⟨.ref _,_,I.laid (a:=s.heap.objs.size) (o:=SetO X s.heap.objs.size (ddS ys).length) (h':=h') (t':=tk) (fun b o e=>q2 b o (Heap.lt_size e) e) (Nat.le_refl _) ⟨⟨_,q1⟩,?_,?_⟩,rfl,q _ I.fresh⟩
 ·obtain ⟨o,es,ep,t,ho,_⟩:=q1
  exact ⟨o,ho⟩
 ·intro h1 h2 ⟨S,o,es,ep,t,ho,Y9⟩ k
  exact ⟨S,o,es,ep,t,k o ho,Y9⟩
theorem bO8 : u5 X (.builtin "len") (fun xs H Q=>∃ p n,xs = [.ref p] ∧ H p = some (SetO X p n) ∧ Q (.int n) H):=by
 intro pins s σ H xs us Q I r h
 obtain ⟨p,n,rfl,hp,q⟩:=h
 obtain ⟨u,rfl,rx⟩:=ae7 r
 cases rx
 obtain ⟨⟨S,o,es,ep,t,ho,hex,hd,_,_,hb,hf,hn⟩,_,_⟩:=I.hok p _ hp
 have : es.size < 4096:=hb
 exact call_len_set ho hex hd hf (by omega) ⟨.int n,H,I.tok _,⟨_,by rw [hn]⟩,q⟩
def ai9 (f : Rho → Option (Bool × List D)) : DE:=fun ρ=>(f ρ).bind fun q=>if q.1 = true then none else (aG0 q.2).bind fun ys=>if ys.length ≤ 4000 then some (.int (ddS ys).length) else none
theorem bL0 {e : Expr} {f : Rho → Option (Bool × List D)} {p p2 pos pos2 : Pos} (hg : Gl X "len") (hm : X.mg "len" = none) (hg2 : Gl X "set") (hm2 : X.mg "set" = none) (h : JQ X e f) (hc : X.calm = true) (he : starEach [e] X.env = [(false,eval e X.env)]) :
  JE X (.Call (.Name "len" p) [.Call (.Name "set" p2) [e] [] pos2] [] pos) (ai9 f):=fun ρ d q=>by
 obtain ⟨⟨t,ds⟩,h1,q⟩:=Option.bind_eq_some_iff.mp q
 split at q
 ·cases q
 ·rename_i ht
  have ht : t = false:=by simpa using ht
  subst ht
  obtain ⟨ys,h2,q⟩:=Option.bind_eq_some_iff.mp q
  split at q
  ·rename_i hz
   cases q
   refine C3 (W7 bO8 hg hm bx1 (F7 (y9 (bO3 hc) hg2 hm2 cQ8 (F7 (h ρ false ds h1) O9 he) (he:=he)) O9 rfl)) fun σ H Q ⟨H0,Hf,s,sl,k⟩=>?_
   refine ⟨H0,Hf,s,sl,fun v H1 Hf1 g1 ⟨a,vs,e1,e2,e3⟩=>⟨a,ys,by rw [e1],?_,hz,fun l hl=>⟨l,_,rfl,C6,?_⟩⟩⟩
   ·rw [← aD3 h2 e3]; exact e2
   ·exact k _ _ _ (g1.trans (Grow.made g1.sub hl)) rfl
  ·cases q
end
end G
namespace G
open PySem PySem.Spec PyProof.Rows L2
section
variable {X : Cx}
def cr4 (x y : Str) : Bool:=!(Builtin.Str.occurrences y x 0 y.length 1).isEmpty
def inS (neg : Bool) (x y : D) : Option D:=match x,y with
 | .str i,.str j=>some (.bool (if neg then !cr4 i j else cr4 i j))
 | _,_=>none
theorem cI5 : OpD X (compareOp .In) (inS false):=fun x y z h=>by
 cases x <;> cases y <;> first | (cases h; done) | skip
 rename_i i j
 cases h
 refine OpR.imp bG7 fun vx vy H Q ⟨Hf,s,rx,ry,k⟩=>?_
 cases rx
 cases ry
 exact ⟨i,j,rfl,rfl,k _ H Hf (Grow.refl s) rfl⟩
theorem bH2 : OpD X (compareOp .NotIn) (inS true):=fun x y z h=>by
 cases x <;> cases y <;> first | (cases h; done) | skip
 rename_i i j
 cases h
 refine OpR.imp ba8 fun vx vy H Q ⟨Hf,s,rx,ry,k⟩=>?_
 cases rx
 cases ry
 exact ⟨i,j,rfl,rfl,k _ H Hf (Grow.refl s) rfl⟩
def bD7 (f : DE) : DE:=fun ρ=>(f ρ).bind fun d=>match d with
 | .str x=>if x.length ≤ 16777216 then some (.int x.length) else none
 | _=>none
theorem cq5 {e : Expr} {f : DE} {p pos : Pos} (hg : Gl X "len") (hm : X.mg "len" = none) (h : JE X e f) (he : starEach [e] X.env = [(false,eval e X.env)]) : JE X (.Call (.Name "len" p) [e] [] pos) (bD7 f):=fun ρ d q=>by
 obtain ⟨y,h1,h2⟩:=Option.bind_eq_some_iff.mp q
 obtain ⟨x,rfl⟩ : ∃ x,y = .str x:=by
  cases y with
  | str x=>exact ⟨x,rfl⟩
  | _=>cases h2
 have h2 : (if x.length ≤ 16777216 then some (PyData.int x.length) else none) = some d:=h2
 split at h2
 ·rename_i hz
  cases h2
  refine C3 (W7 bf0 hg hm bx1 (F7 (h ρ _ h1) O9 he) (he:=he)) fun σ H Q ⟨H0,Hf,s,sl,k⟩=>?_
  refine ⟨H0,Hf,s,sl,fun v H1 Hf1 g1 r=>⟨x,?_,by rw [sizeLine_eq]; exact hz,k _ H1 Hf1 g1 rfl⟩⟩
  cases r; rfl
 ·cases h2
def Its (x : Str) : It:=⟨fun i _=>i < x.cps.size,fun i H v H'=>H' = H ∧ ∃ c,x.cps[i]? = some c ∧ v = .str ⟨#[c]⟩,fun i _=>x.cps.size ≤ i⟩
theorem bT1 {P : Program} {w : World} {K : PySem.W.Frag} {tg : Expr} (x : Str) (t : Tok) (it : Addr) : Turn P w K tg (Its x) [it] it (fun i h=>h.IsStrIter it "str_ascii_iterator" x t i) where
 mem:=by simp
 obj:=fun i h st b hb=>by
  have e : b = it:=by simpa using hb
  subst e
  obtain ⟨o,e,c,d⟩:=st
  exact ⟨o,e,fun v z=>by rw [d] at z; cases z⟩
 keep:=fun i h h' st k=>by
  obtain ⟨o,e,r⟩:=st
  exact ⟨o,k it (by simp) o e,r⟩
 item:=by
  intro X hP hw hK hc i pins s σ H E I hf st hg
  subst hP hw hK
  obtain ⟨f0,f1,f2,f3,f4,f5⟩:=hf it (by simp)
  have hi : i < x.cps.size:=hg
  refine wpAny_pyNext_ascii_item st (c:=x.cps[i]) (by simp [hi]) fun h' st' sb=>?_
  have I1 : Inv X pins σ H { s with heap:=h',toks:=s.toks + 1 }:=I.turned (t':=s.toks + 1) (fun b o hb e=>(sb.2 b hb).trans e) f0 f1 f3 f4 f5
  obtain ⟨o,e,c,d⟩:=id st'
  exact ⟨_,rfl,bl9 (s:={ s with heap:=h',toks:=s.toks + 1 }) e c d (by decide) ⟨.str ⟨#[x.cps[i]]⟩,H,I1,⟨_,rfl⟩,⟨rfl,_,by simp [hi],rfl⟩,st',fun b hb=>(hf b hb).1⟩⟩
 done:=by
  intro X hP hw hK hc i pins s σ H E I hf st hg
  subst hP hw hK
  obtain ⟨f0,f1,f2,f3,f4,f5⟩:=hf it (by simp)
  have hi : x.cps.size ≤ i:=hg
  exact wpAny_pyNext_ascii_end (I.ok.hd hc) st (by simp [hi]) fun h' eb=>⟨rfl,I.turned (t':=s.toks) (fun b o hb e=>eb b o hb e) f0 f1 f3 f4 f5⟩
 self:=fun _ _ _ _ _ st h=>wpAny_pyIter_striter_ascii st h
def bh8 (x : Str) : List D:=x.cps.toList.map fun c=>.str ⟨#[c]⟩
def cr3 (f : DE) : Rho → Option (List D):=fun ρ=>(f ρ).bind fun d=>match d with
 | .str x=>if x.cps.all (· < 128) = true then some (bh8 x) else none
 | _=>none
theorem cM5 {tg e : Expr} {f : DE} (h : JE X e f) : JI X tg e (cr3 f):=fun ρ ds q=>by
 obtain ⟨d,e1,e2⟩:=Option.bind_eq_some_iff.mp q
 obtain ⟨x,rfl⟩ : ∃ x,d = .str x:=by
  cases d with
  | str x=>exact ⟨x,rfl⟩
  | _=>cases e2
 have e2 : (if x.cps.all (· < 128) = true then some (bh8 x) else none) = some ds:=e2
 split at e2
 ·rename_i ha
  cases e2
  intro pins s σ H R I ⟨H0,Hf,ss,sl,k⟩
  refine thn (h ρ _ e1 pins s σ H (fun v H'=>∃ Hf',Grow H Hf H' Hf' ∧ v = .str x) I ⟨H0,Hf,ss,sl,fun v H' Hf' g r=>⟨Hf',g,r⟩⟩) fun v s1 ⟨y,H1,I1,r1,Hf1,g1,ey⟩=>?_
  subst ey
  obtain ⟨t,rfl⟩:=r1
  refine wpAny_pyIter_ascii ha ?_
  have I2 : Inv X pins σ H1 { s1 with heap:=s1.heap.push { cls:=.type "str_ascii_iterator", data:=.fields #[.str x t,.int 0 0] } }:=I1.kept (t':=s1.toks) fun b u e=>Heap.get?_push_of_some _ e
  refine ⟨_,_,_,Its x,H1,rfl,I2,bT1 x t s1.heap.objs.size,⟨_,Heap.get?_push_size _ rfl,rfl,rfl⟩,fun b hb=>?_,k _ H1 Hf1 g1 fun i H' Hf' sa sb=>⟨fun hi=>?_,fun d hd=>?_⟩⟩
  ·have hb' : s1.heap.objs.size ≤ b:=by rw [List.mem_singleton] at hb; rw [hb]; exact Nat.le_refl _
   exact I1.fpOk hb' (I1.hok.fresh hb')
  ·show x.cps.size ≤ i
   simpa [bh8] using hi
  ·unfold bh8 at hd
   rw [List.getElem?_map] at hd
   obtain ⟨c,c1,c2⟩:=Option.map_eq_some_iff.mp hd
   have c1' : x.cps[i]? = some c:=by rw [← Array.getElem?_toList]; exact c1
   refine ⟨(Array.getElem?_eq_some_iff.mp c1').1,fun v H'' ⟨h1,c',h2,h3⟩=>?_⟩
   subst h1 h3 c2
   rw [c1'] at h2
   cases h2
   exact ⟨Hf',Grow.refl sb,rfl⟩
 ·cases e2
end
end G
namespace G
open PySem PySem.Spec PyProof PyProof.Rows L2
section
variable {X : Cx}
def mnF (m x : Int) : Int:=if x < m then x else m
def mxF (m x : Int) : Int:=if x > m then x else m
def mnL : List Int → Int
 | []=>0
 | a :: r=>r.foldl mnF a
def mxL : List Int → Int
 | []=>0
 | a :: r=>r.foldl mxF a
theorem bC1 : ∀ (l : List Int) (z : Int),(l.foldl mnF z = z ∨ l.foldl mnF z ∈ l) ∧ l.foldl mnF z ≤ z ∧ ∀ a ∈ l,l.foldl mnF z ≤ a
 | [],z=>⟨.inl rfl,Int.le_refl _,fun a h=>by simp at h⟩
 | x :: l,z=>by
  obtain ⟨h1,h2,h3⟩:=bC1 l (mnF z x)
  rw [List.foldl_cons]
  have k : (mnF z x = z ∨ mnF z x = x) ∧ mnF z x ≤ z ∧ mnF z x ≤ x:=by unfold mnF; split <;> omega
  refine ⟨?_,by omega,fun a ha=>?_⟩
  ·rcases h1 with h | h
   ·rcases k.1 with q | q
    ·left; rw [h,q]
    ·right; rw [h,q]; exact List.mem_cons_self ..
   ·right; exact List.mem_cons_of_mem _ h
  ·rcases List.mem_cons.mp ha with rfl | ha
   ·omega
   ·exact h3 a ha
theorem bB8 : ∀ (l : List Int) (z : Int),(l.foldl mxF z = z ∨ l.foldl mxF z ∈ l) ∧ z ≤ l.foldl mxF z ∧ ∀ a ∈ l,a ≤ l.foldl mxF z
 | [],z=>⟨.inl rfl,Int.le_refl _,fun a h=>by simp at h⟩
 | x :: l,z=>by
  obtain ⟨h1,h2,h3⟩:=bB8 l (mxF z x)
  rw [List.foldl_cons]
  have k : (mxF z x = z ∨ mxF z x = x) ∧ z ≤ mxF z x ∧ x ≤ mxF z x:=by unfold mxF; split <;> omega
  refine ⟨?_,by omega,fun a ha=>?_⟩
  ·rcases h1 with h | h
   ·rcases k.1 with q | q
    ·left; rw [h,q]
    ·right; rw [h,q]; exact List.mem_cons_self ..
   ·right; exact List.mem_cons_of_mem _ h
  ·rcases List.mem_cons.mp ha with rfl | ha
   ·omega
   ·exact h3 a ha
theorem bZ2 {l : List Int} (h : l ≠ []) : mnL l ∈ l ∧ ∀ a ∈ l,mnL l ≤ a:=by
 cases l with
 | nil=>exact absurd rfl h
 | cons x l =>
  obtain ⟨h1,h2,h3⟩:=bC1 l x
  refine ⟨?_,fun a ha=>?_⟩
  ·rcases h1 with h | h
   ·show l.foldl mnF x ∈ _; rw [h]; exact List.mem_cons_self ..
   ·exact List.mem_cons_of_mem _ h
  ·rcases List.mem_cons.mp ha with rfl | ha
   ·exact h2
   ·exact h3 a ha
theorem bY8 {l : List Int} (h : l ≠ []) : mxL l ∈ l ∧ ∀ a ∈ l,a ≤ mxL l:=by
 cases l with
 | nil=>exact absurd rfl h
 | cons x l =>
  obtain ⟨h1,h2,h3⟩:=bB8 l x
  refine ⟨?_,fun a ha=>?_⟩
  ·rcases h1 with h | h
   ·show l.foldl mxF x ∈ _; rw [h]; exact List.mem_cons_self ..
   ·exact List.mem_cons_of_mem _ h
  ·rcases List.mem_cons.mp ha with rfl | ha
   ·exact h2
   ·exact h3 a ha
def bD0 : List D → Option (List Int)
 | []=>some []
 | .int i :: r=>(bD0 r).map fun ys=>i :: ys
 | _ :: _=>none
theorem aD4 {K : PySem.W.Frag} {H : Hp} : ∀ {ds : List D} {ys : List Int} {vs : List V},bD0 ds = some ys → Reps K H ds vs → vs = ys.map V.int
 | [],ys,vs,h,r=>by cases h; exact r
 | .int x :: ds,ys,vs,h,r=>by
  obtain ⟨zs,h1,h2⟩:=Option.map_eq_some_iff.mp h
  subst h2
  obtain ⟨v,t,e1,e2,e3⟩:=r
  subst e1
  rw [show v = _ from e2,aD4 h1 e3]; rfl
theorem y8 : ∀ {ys : List Int} {us : List Value},K2 (ys.map V.int) us → ∃ xs : List (Int × Tok),us = xs.map (fun p=>.int p.1 p.2) ∧ xs.map (·.1) = ys
 | [],[],_=>⟨[],rfl,rfl⟩
 | y :: ys,u :: us,h=>by
  cases h with
  | cons a b =>
   obtain ⟨xs,e1,e2⟩:=y8 b
   obtain ⟨t,rfl⟩:=a
   exact ⟨(y,t) :: xs,by rw [e1]; rfl,by rw [xmc,e2]⟩
theorem bO4 (hc : X.calm = true) : u5 X (.builtin "min") (fun xs H Q=>∃ p ns,xs = [.ref p] ∧ SqL X.K H p (ns.map V.int) ∧ ns ≠ [] ∧ Q (.int (mnL ns)) H):=by
 intro pins s σ H xs us Q I r h
 obtain ⟨p,ns,rfl,hq,hz,q⟩:=h
 obtain ⟨u,rfl,rx⟩:=ae7 r
 cases rx
 obtain ⟨its,rv,pl,_⟩:=I.list hq
 obtain ⟨zs,e1,e2⟩:=y8 rv
 have hl : s.heap.IsList p (intItems zs.toArray):=by
  have:=pl.isList
  rw [e1] at this
  simpa [intItems] using this
 have hzs : zs.toArray.toList.map (·.1) = ns:=by simpa using e2
 have hn : 0 < zs.toArray.size:=by
  cases zs with
  | nil=>exact absurd e2.symm hz
  | cons=>simp
 refine min_intList (I.ok.hd hc) hl hn fun v h' tk hv hk=>?_
 obtain ⟨t,rfl⟩:=intItems_at hv
 obtain ⟨b1,b2⟩:=argBest_lt (numAt zs.toArray) (zs.toArray.size - 1)
 have key : numAt zs.toArray (argBest (fun i j=>decide (numAt zs.toArray i < numAt zs.toArray j)) (zs.toArray.size - 1)) = mnL ns:=by
  obtain ⟨m1,m2⟩:=bZ2 hz
  have g : ∀ j,j < zs.toArray.size → numAt zs.toArray j ∈ ns:=fun j hj=>by
   rw [numAt_eq,hzs]; exact getD_mem (by rw [← hzs,List.length_map,Array.length_toList]; omega)
  refine Int.le_antisymm ?_ (m2 _ (g _ (by omega)))
  rw [← hzs] at m1
  obtain ⟨j,hj,e⟩:=mem_getD m1
  rw [List.length_map,Array.length_toList] at hj
  have:=b2 j (by omega)
  rw [numAt_eq zs.toArray j,e,hzs] at this
  exact this
 rw [key]
 exact ⟨.int _,H,I.kept (t':=tk) hk,⟨_,rfl⟩,q⟩
theorem bO6 (hc : X.calm = true) : u5 X (.builtin "max") (fun xs H Q=>∃ p ns,xs = [.ref p] ∧ SqL X.K H p (ns.map V.int) ∧ ns ≠ [] ∧ Q (.int (mxL ns)) H):=by
 intro pins s σ H xs us Q I r h
 obtain ⟨p,ns,rfl,hq,hz,q⟩:=h
 obtain ⟨u,rfl,rx⟩:=ae7 r
 cases rx
 obtain ⟨its,rv,pl,_⟩:=I.list hq
 obtain ⟨zs,e1,e2⟩:=y8 rv
 have hl : s.heap.IsList p (intItems zs.toArray):=by
  have:=pl.isList
  rw [e1] at this
  simpa [intItems] using this
 have hzs : zs.toArray.toList.map (·.1) = ns:=by simpa using e2
 have hn : 0 < zs.toArray.size:=by
  cases zs with
  | nil=>exact absurd e2.symm hz
  | cons=>simp
 refine max_intList (I.ok.hd hc) hl hn fun v h' tk hv hk=>?_
 obtain ⟨t,rfl⟩:=intItems_at hv
 obtain ⟨b1,b2⟩:=argBest_gt (numAt zs.toArray) (zs.toArray.size - 1)
 have key : numAt zs.toArray (argBest (fun i j=>decide (numAt zs.toArray i > numAt zs.toArray j)) (zs.toArray.size - 1)) = mxL ns:=by
  obtain ⟨m1,m2⟩:=bY8 hz
  have g : ∀ j,j < zs.toArray.size → numAt zs.toArray j ∈ ns:=fun j hj=>by
   rw [numAt_eq,hzs]; exact getD_mem (by rw [← hzs,List.length_map,Array.length_toList]; omega)
  refine Int.le_antisymm (m2 _ (g _ (by omega))) ?_
  rw [← hzs] at m1
  obtain ⟨j,hj,e⟩:=mem_getD m1
  rw [List.length_map,Array.length_toList] at hj
  have:=b2 j (by omega)
  rw [numAt_eq zs.toArray j,e,hzs] at this
  exact this
 rw [key]
 exact ⟨.int _,H,I.kept (t':=tk) hk,⟨_,rfl⟩,q⟩
def cw0 (f : Rho → Option (Bool × List D)) : DE:=fun ρ=>(f ρ).bind fun q=>if q.1 = true then none else (bD0 q.2).bind fun ns=>if ns = [] then none else some (.int (mnL ns))
def cw1 (f : Rho → Option (Bool × List D)) : DE:=fun ρ=>(f ρ).bind fun q=>if q.1 = true then none else (bD0 q.2).bind fun ns=>if ns = [] then none else some (.int (mxL ns))
theorem cq1 {e : Expr} {f : Rho → Option (Bool × List D)} {p pos : Pos} (hg : Gl X "min") (hm : X.mg "min" = none) (h : JQ X e f) (hc : X.calm = true) (he : starEach [e] X.env = [(false,eval e X.env)]) : JE X (.Call (.Name "min" p) [e] [] pos) (cw0 f):=fun ρ d q=>by
 obtain ⟨⟨t,ds⟩,h1,q⟩:=Option.bind_eq_some_iff.mp q
 split at q
 ·cases q
 ·rename_i ht
  have ht : t = false:=by simpa using ht
  subst ht
  obtain ⟨ys,h2,q⟩:=Option.bind_eq_some_iff.mp q
  split at q
  ·cases q
  ·rename_i hz
   cases q
   refine C3 (W7 (bO4 hc) hg hm cg9 (F7 (h ρ false ds h1) O9 he) (he:=he)) fun σ H Q ⟨H0,Hf,s,sl,k⟩=>?_
   refine ⟨H0,Hf,s,sl,fun v H1 Hf1 g1 ⟨a,vs,e1,e2,e3⟩=>⟨a,ys,by rw [e1],?_,hz,?_⟩⟩
   ·rw [← aD4 h2 e3]; exact e2
   ·exact k _ _ _ g1 rfl
theorem cq3 {e : Expr} {f : Rho → Option (Bool × List D)} {p pos : Pos} (hg : Gl X "max") (hm : X.mg "max" = none) (h : JQ X e f) (hc : X.calm = true) (he : starEach [e] X.env = [(false,eval e X.env)]) : JE X (.Call (.Name "max" p) [e] [] pos) (cw1 f):=fun ρ d q=>by
 obtain ⟨⟨t,ds⟩,h1,q⟩:=Option.bind_eq_some_iff.mp q
 split at q
 ·cases q
 ·rename_i ht
  have ht : t = false:=by simpa using ht
  subst ht
  obtain ⟨ys,h2,q⟩:=Option.bind_eq_some_iff.mp q
  split at q
  ·cases q
  ·rename_i hz
   cases q
   refine C3 (W7 (bO6 hc) hg hm ch0 (F7 (h ρ false ds h1) O9 he) (he:=he)) fun σ H Q ⟨H0,Hf,s,sl,k⟩=>?_
   refine ⟨H0,Hf,s,sl,fun v H1 Hf1 g1 ⟨a,vs,e1,e2,e3⟩=>⟨a,ys,by rw [e1],?_,hz,?_⟩⟩
   ·rw [← aD4 h2 e3]; exact e2
   ·exact k _ _ _ g1 rfl
end
end G
namespace G
open PySem PySem.Spec PyProof.Rows L2
section
variable {prog : Program} {w : World} {A : Around} {E : Value → Shared → Prop} {s : Shared} {t : Bool}
theorem bh1 {M : Model} {a : Addr} {Q : Option Obj → Shared → Prop} (h : Q (s.heap.get? a) s) : wpAny M A (loadIfAlive a) Q E s:=fun Γ p _=>by
 show Sem.wp M Γ (.loadIfAlive a .pure) _ _ p s
 rw [Sem.wp_loadIfAlive]
 exact (Sem.wp_pure ..).mpr h
def bE9 (h : Heap) (e it : Addr) (i : Int) : Prop:=∃ (a : Addr) (b : Bool) (x : Value) (u : Obj),
 h.get? e = some { cls:=.type "enumerate", dict:=none,data:=.fields #[rawInt a,.bool b,.ref it,rawInt i,.none,x],slots:=#[] } ∧ a ≠ e ∧ a ≠ it ∧ h.get? a = some u
theorem bL3 {e it l : Addr} {i : Nat} {xs : Array Value} {x : Value} {Q : Option Value → Shared → Prop} (he : bE9 s.heap e it i) (hit : SIt t s.heap it l i) (hl : SSq t s.heap l xs) (hx : xs[i]? = some x) (hne : e ≠ it)
  (hQ : ∀ h' tk,bE9 h' e it ((i : Int) + 1) → SIt t h' it l (i + 1) → h'.get? s.heap.objs.size = some { cls:=.type "tuple", data:=.seq #[.int i tk,x] } → h'.objs.size = s.heap.objs.size + 1 →
   (∀ b o,b ≠ e → b ≠ it → s.heap.get? b = some o → h'.get? b = some o) → Q (some (.ref s.heap.objs.size)) { s with heap:=h',toks:=tk + 1 }) :
  wpAny (model prog w) A (pyNext (.ref e)) Q E s:=by
 obtain ⟨a,b,x0,u,he,ae,ai,ha⟩:=he
 have hT : s.TypeIs (.ref e) "enumerate" := ⟨_,he,rfl⟩
 unfold pyNext
 refine wpAny_bind (wpAny_attempt (wpAny_callSpecial?_slot (name:=Str.ofString "__next__") hT F.slot_enumerate_next (wpAny_call_entry F.slot_enumerate_next hT F.entry_enumerate_next ?_ (F.args_enumerate_next_1 _))))
 obtain ⟨hp,g,d,tk,os⟩:=s
 show wpAny _ _ (field (.ref e) 2 >>= _) _ _ _
 refine wpAny_bind (wpAny_field he rfl (x:=.ref it) rfl ?_)
 refine wpAny_bind (al0 hit hl hx fun h₁ hit₁ hs₁=>?_)
 replace hs₁ : Heap.SameBut it hp h₁:=hs₁
 have he₁:=(hs₁.2 e hne).trans he
 show wpAny _ _ (field (.ref e) 3 >>= _) _ _ ⟨h₁,g,d,tk,os⟩
 refine wpAny_bind (wpAny_field he₁ rfl (x:=rawInt i) rfl ?_)
 show wpAny _ _ (field (.ref e) 4 >>= _) _ _ ⟨h₁,g,d,tk,os⟩
 refine wpAny_bind (wpAny_field he₁ rfl (x:=.none) rfl ?_)
 show wpAny _ _ (mkInt i >>= _) _ _ ⟨h₁,g,d,tk,os⟩
 refine wpAny_bind (wpAny_mkInt ?_)
 show wpAny _ _ (setField (.ref e) 3 (rawInt ((i : Int) + 1)) >>= _) _ _ ⟨h₁,g,d,tk + 1,os⟩
 refine wpAny_bind (wpAny_setField_rec he₁ (by simp) fun h₂ he₂ hs₂=>?_)
 replace hs₂ : Heap.SameBut e h₁ h₂:=hs₂
 replace he₂ : h₂.get? e = some { cls:=.type "enumerate", dict:=none,data:=.fields #[rawInt a,.bool b,.ref it,rawInt ((i : Int) + 1),.none,x0],slots:=#[] }:=he₂
 show wpAny _ _ (setField (.ref e) 4 .none >>= _) _ _ ⟨h₂,g,d,tk + 1,os⟩
 refine wpAny_bind (wpAny_setField_rec he₂ (by simp) fun h₃ he₃ hs₃=>?_)
 replace hs₃ : Heap.SameBut e h₂ h₃:=hs₃
 replace he₃ : h₃.get? e = some { cls:=.type "enumerate", dict:=none,data:=.fields #[rawInt a,.bool b,.ref it,rawInt ((i : Int) + 1),.none,x0],slots:=#[] }:=he₃
 show wpAny _ _ (newTuple [.int i tk,x] >>= _) _ _ ⟨h₃,g,d,tk + 1,os⟩
 refine wpAny_bind (wpAny_newTuple ?_)
 have he₄:=Heap.get?_push_of_some { cls:=.type "tuple", data:=.seq #[.int i tk,x] } he₃
 generalize hh₄ : h₃.push { cls:=.type "tuple", data:=.seq #[.int i tk,x] } = h₄ at he₄
 have hsz : h₃.objs.size = hp.objs.size:=by rw [hs₃.1,hs₂.1,hs₁.1]
 have hel : e < hp.objs.size:=Heap.lt_size he
 have ht₄ : h₄.get? hp.objs.size = some { cls:=.type "tuple", data:=.seq #[.int i tk,x] }:=by rw [← hh₄,← hsz]; exact Heap.get?_push_size _ rfl
 have hz₄ : h₄.objs.size = hp.objs.size + 1:=by rw [← hh₄,Heap.size_push,hsz]
 have hk₄ : ∀ b o,b ≠ e → b ≠ it → hp.get? b = some o → h₄.get? b = some o:=fun b o hbe hbi hb=>by
  rw [← hh₄]; exact Heap.get?_push_of_some _ (hs₃.extBut b o hbe (hs₂.extBut b o hbe (hs₁.extBut b o hbi hb)))
 have hit₄ : SIt t h₄ it l (i + 1):=hit₁.ext fun o y=>by
  rw [← hh₄]; exact Heap.get?_push_of_some _ (hs₃.extBut it o hne.symm (hs₂.extBut it o hne.symm y))
 have ha₄:=hk₄ a u ae ai ha
 show wpAny _ _ (Builtin.SmallTypes.ownedTupleIsFree (.ref e) >>= _) _ _ ⟨h₄,g,d,tk + 1,os⟩
 rw [hsz]
 clear hh₄ he₃ hs₃ he₂ hs₂ he₁ hs₁ hit₁ hsz h₃ h₂ h₁
 refine wpAny_bind ?_
 unfold Builtin.SmallTypes.ownedTupleIsFree
 refine wpAny_bind (wpAny_field he₄ rfl (x:=rawInt a) rfl ?_)
 show wpAny _ _ (loadIfAlive ((a : Int)).toNat >>= _) _ _ _
 refine wpAny_bind (bh1 ?_)
 rw [Int.toNat_natCast]
 rw [show (Shared.heap ⟨h₄,g,d,tk + 1,os⟩).get? a = some u from ha₄]
 show wpAny _ _ (field (.ref e) 1 >>= _) _ _ ⟨h₄,g,d,tk + 1,os⟩
 refine wpAny_bind (wpAny_field he₄ rfl (x:=.bool b) rfl ?_)
 cases b with
 | false =>
  show wpAny _ _ (setField (.ref e) 1 (.bool true) >>= _) _ _ ⟨h₄,g,d,tk + 1,os⟩
  refine wpAny_bind (wpAny_setField_rec he₄ (by simp) fun h₅ he₅ hs₅=>?_)
  replace hs₅ : Heap.SameBut e h₄ h₅:=hs₅
  refine wpAny_pure (wpAny_pure ⟨_,rfl,wpAny_pure (hQ h₅ tk ⟨a,true,x0,u,he₅,ae,ai,hs₅.extBut a u ae ha₄⟩ (hit₄.ext fun o y=>hs₅.extBut it o hne.symm y) (hs₅.extBut _ _ (Nat.ne_of_gt hel) ht₄) (by rw [hs₅.1,hz₄]) fun b o hbe hbi hb=>hs₅.extBut b o hbe (hk₄ b o hbe hbi hb))⟩)
 | true =>
  exact wpAny_pure (wpAny_pure ⟨_,rfl,wpAny_pure (hQ h₄ tk ⟨a,true,x0,u,he₄,ae,ai,ha₄⟩ hit₄ ht₄ hz₄ hk₄)⟩)
theorem bu9 {e it l : Addr} {i : Int} {k : Nat} {xs : Array Value} {Q : Option Value → Shared → Prop} (hh : A.handled = none) (he : bE9 s.heap e it i) (hit : SIt t s.heap it l k) (hl : SSq t s.heap l xs) (hx : xs[k]? = none)
  (hQ : ∀ h',Heap.ExtBut it s.heap h' → Q none { s with heap:=h' }) : wpAny (model prog w) A (pyNext (.ref e)) Q E s:=by
 obtain ⟨a,b,x0,u,he,_⟩:=he
 have hT : s.TypeIs (.ref e) "enumerate" := ⟨_,he,rfl⟩
 unfold pyNext
 refine wpAny_bind (wpAny_attempt (wpAny_callSpecial?_slot (name:=Str.ofString "__next__") hT F.slot_enumerate_next (wpAny_call_entry F.slot_enumerate_next hT F.entry_enumerate_next ?_ (F.args_enumerate_next_1 _))))
 show wpAny _ _ (field (.ref e) 2 >>= _) _ _ _
 refine wpAny_bind (wpAny_field he rfl (x:=.ref it) rfl (wpAny_bind (ax5 hh hit hl hx fun h' x he' hx'=>?_)))
 obtain ⟨o,ho,hc⟩:=hx'
 exact wpAny_bind (wpAny_isInstance (T := "StopIteration") (b:=true) ⟨o,ho,hc⟩ isSubtype_stop (wpAny_pure (hQ _ he')))
def aA6 (h : Heap) (e it : Addr) (i : Int) : Prop:=(∃ old,IsEnum h e it i old) ∨ bE9 h e it i
theorem aA6.obj {h : Heap} {e it : Addr} {i : Int} (x : aA6 h e it i) : ∃ fs,h.get? e = some { cls:=.type "enumerate", dict:=none,data:=.fields fs,slots:=#[] }:=by
 rcases x with ⟨old,x⟩ | ⟨a,b,x0,u,x,_⟩
 ·exact ⟨_,x⟩
 ·exact ⟨_,x⟩
theorem aA6.ext {h h' : Heap} {e it : Addr} {i : Int} (x : aA6 h e it i) {S : Addr} {o : Obj} (hS : h.get? S = some o) (hS' : ∃ o',h'.get? S = some o') (hne : S ≠ e) (k : ∀ b o,b ≠ S → h.get? b = some o → h'.get? b = some o) : aA6 h' e it i:=by
 rcases x with ⟨old,x⟩ | ⟨a,b,x0,u,x,ae,ai,ha⟩
 ·exact .inl ⟨old,k _ _ hne.symm x⟩
 ·by_cases q : a = S
  ·subst q
   obtain ⟨o',hS'⟩:=hS'
   exact .inr ⟨a,b,x0,o',k _ _ hne.symm x,ae,ai,hS'⟩
  ·exact .inr ⟨a,b,x0,u,k _ _ hne.symm x,ae,ai,k _ _ q ha⟩
theorem bL4 {e it l : Addr} {i : Nat} {xs : Array Value} {x : Value} {Q : Option Value → Shared → Prop} (hh : A.handled = none) (he : aA6 s.heap e it i) (hit : SIt t s.heap it l i) (hl : SSq t s.heap l xs) (hx : xs[i]? = some x) (hne : e ≠ it) (hle : l ≠ e) (hli : l ≠ it)
  (hQ : ∀ h' tk,aA6 h' e it ((i + 1 : Nat) : Int) → SIt t h' it l (i + 1) → h'.get? s.heap.objs.size = some { cls:=.type "tuple", data:=.seq #[.int i tk,x] } → h'.objs.size = s.heap.objs.size + 1 →
   (∀ b o,b ≠ e → b ≠ it → s.heap.get? b = some o → h'.get? b = some o) → Q (some (.ref s.heap.objs.size)) { s with heap:=h',toks:=tk + 1 }) :
  wpAny (model prog w) A (pyNext (.ref e)) Q E s:=by
 have ei : (((i + 1 : Nat)) : Int) = (i : Int) + 1:=by omega
 rcases he with ⟨old,he⟩ | he
 ·have hlt : i < xs.size:=by
   rcases Nat.lt_or_ge i xs.size with h | h
   ·exact h
   ·rw [Array.getElem?_eq_none h] at hx; cases hx
  have el:=Heap.lt_size he
  have il:=hit.lt
  refine wpAny_pyNext_enum_itemD (aV6 (A:=A.in1) hh t it l hli xs) he ⟨hit,hl⟩ hlt hne (by simp only [List.mem_cons,List.not_mem_nil,or_false,not_or]; exact ⟨hne,hle.symm⟩) fun y h' tk hy ho hst hT hsz hk=>?_
  rw [hx] at hy
  cases hy
  exact hQ h' tk (.inr ⟨_,false,x,_,by rw [ei]; exact ho,Nat.ne_of_gt el,Nat.ne_of_gt il,hT⟩) hst.1 hT hsz hk
 ·exact bL3 he hit hl hx hne fun h' tk a b c d k=>hQ h' tk (.inr (by rw [ei]; exact a)) b c d k
theorem bv0 {e it l : Addr} {i : Int} {k : Nat} {xs : Array Value} {Q : Option Value → Shared → Prop} (hh : A.handled = none) (he : aA6 s.heap e it i) (hit : SIt t s.heap it l k) (hl : SSq t s.heap l xs) (hx : xs[k]? = none)
  (hQ : ∀ h',Heap.ExtBut it s.heap h' → Q none { s with heap:=h' }) : wpAny (model prog w) A (pyNext (.ref e)) Q E s:=by
 rcases he with ⟨old,he⟩ | he
 ·exact aV5 hh he hit hl hx hQ
 ·exact bu9 hh he hit hl hx hQ
theorem bm4 : typeLookup (.type "enumerate") "__len__" = pure none:=by rw [typeLookup_type,builtinLookup_eq_fast]; kernel_rfl
theorem bd8 : typeLookup (.type "enumerate") "__length_hint__" = pure none:=by rw [typeLookup_type,builtinLookup_eq_fast]; kernel_rfl
end
def cR4 (Hf : Hp) (ws : List V) (Ts : List Addr) (i : Nat) : Prop:=Ts.length = i ∧ ∀ (j : Nat) (T : Addr),Ts[j]? = some T → ∃ x,ws[j]? = some x ∧ Hf T = some (.tup [.int j,x])
abbrev bl0 (Ts : List Addr) (c : Nat) : Obj:={ cls:=.type "list", dict:=none,data:=.seq (Ts.map Value.ref).toArray c,slots:=#[] }
section
variable {X : Cx} {pins : List (Addr × Obj)} {σ : L2.St} {A : Around} {t : Bool} {S e it a : Addr} {ws : List V}
theorem aJ5 {K : PySem.W.Frag} {t : Bool} {a : Addr} {xs : List V} {H H' : Hp} (e : L3 H H') (h : Sq K t H a xs) : Sq K t H' a xs:=by
 cases t with
 | true=>exact E2 e h
 | false=>exact K8 e h
theorem cd9 {H : Hp} {T : Addr} {o : HO} {b : Addr} (h : ae5 X pins H b) (n : b ≠ T) : ae5 X pins (upd H T o) b:=⟨by rw [C7 n]; exact h.1,h.2⟩
theorem bK5 {R : Result → Shared → Prop} {res : Value} (hc : A.handled = none) (h1 : e ≠ it) (h2 : a ≠ e) (h3 : a ≠ it) (h4 : S ≠ e) (h5 : S ≠ it) (hz : ws.length ≤ 1000) {H0 Hf0 : Hp} :
    ∀ (k i : Nat) (s : Shared) (H Hf : Hp) (Ts : List Addr) (c : Nat),ws.length - i = k → i ≤ ws.length → Inv X pins σ H s → (∀ b ∈ [e,it,S],ae5 X pins H b) → aA6 s.heap e it i → SIt t s.heap it a i → Sq X.K t Hf a ws → Grow H0 Hf0 H Hf → s.heap.get? S = some (bl0 Ts c) → cR4 Hf ws Ts i →
    (∀ s' H' Hf' Ts' c',Inv X pins σ H' s' → (∀ b ∈ [e,it,S],ae5 X pins H' b) → Grow H0 Hf0 H' Hf' → s'.heap.get? S = some (bl0 Ts' c') → cR4 Hf' ws Ts' ws.length → R (.ok (.ret res)) s') →
    codeAny (model X.prog X.w) A (.builtin "list.extend.loop" ⟨[.ref S,.ref e,res],[]⟩) R s:=by
  intro k
  induction k with
  | zero =>
    intro i s H Hf Ts c hk hi I hf he hit sq g hS ht hR
    have hin : i = ws.length:=by omega
    obtain ⟨us,r1,p1,lt1⟩:=X2 I (aJ5 g.sub sq)
    have l1:=r1.length
    refine codeAny_builtin F.entry_extend_loop ?_
    rw [Around.under_plainId F.plain_extend_loop _]
    show wpAny _ A.in1 (pyNext (.ref e) >>= _) _ _ s
    refine wpAny_bind (bv0 hc he hit p1 (by simp; omega) fun h' hk'=>?_)
    have I' : Inv X pins σ H { s with heap:=h',toks:=s.toks }:=Y5 (ch:=[e,it]) I (fun b hb=>hf b (by simp at hb; rcases hb with rfl | rfl <;> simp)) fun b u hb q=>hk' b u (fun z=>hb (by simp [z])) q
    exact wpAny_pure (hR _ H Hf Ts c I' hf g (hk' S _ h5 hS) (by rw [← hin]; exact ht))
  | succ k ih =>
    intro i s H Hf Ts c hk hi I hf he hit sq g hS ht hR
    have hlt : i < ws.length:=by omega
    obtain ⟨us,r1,p1,lt1⟩:=X2 I (aJ5 g.sub sq)
    obtain ⟨ux,eux,rx⟩:=r1.get (List.getElem?_eq_getElem hlt)
    refine codeAny_builtin F.entry_extend_loop ?_
    rw [Around.under_plainId F.plain_extend_loop _]
    show wpAny _ A.in1 (pyNext (.ref e) >>= _) _ _ s
    refine wpAny_bind (bL4 hc he hit p1 (by simpa using eux) h1 h2 h3 fun h' tk he' hit' hT hsz hkp=>?_)
    have hn : H s.heap.objs.size = none:=I.hok.fresh (Nat.le_refl _)
    have neT : ∀ c o,s.heap.get? c = some o → c ≠ s.heap.objs.size:=fun c o q=>Nat.ne_of_lt (Heap.lt_size q)
    obtain ⟨fs,eo⟩:=he.obj
    have I1 : Inv X pins σ (upd H s.heap.objs.size (.tup [.int i,ws[i]])) { s with heap:=h',toks:=tk + 1 }:=v5 (s:=s) (h':=h') (t':=tk + 1) (ch:=[e,it]) I (fun b hb=>hf b (by simp at hb; rcases hb with rfl | rfl <;> simp)) (Nat.le_refl _) (fun b u hb q=>hkp b u (fun z=>hb (by simp [z])) (fun z=>hb (by simp [z])) q)
      ⟨by show 2 ≤ sizeLine; decide,[.int i tk,ux],.cons ⟨tk,rfl⟩ (.cons rx .nil),_,hT,rfl,_,rfl⟩
    have hS':=hkp S _ h4 h5 hS
    show wpAny _ A.in1 (updateSeq S (·.push (.ref s.heap.objs.size)) >>= _) _ _ _
    refine wpAny_bind (wpAny_updateSeq hS' rfl ?_ (by simp [ht.1]; have : (1000 : Nat) < sizeLine:=by decide
                                                      omega) (by simp [ht.1]; have : (1000 : Nat) < sizeLine:=by decide
                                                                 omega))
    have hf1 : ∀ b ∈ [e,it,S],ae5 X pins (upd H s.heap.objs.size (.tup [.int i,ws[i]])) b:=fun b hb=>cd9 (hf b hb) (by
      simp at hb
      rcases hb with rfl | rfl | rfl
      · exact neT _ _ eo
      · exact Nat.ne_of_lt hit.lt
      · exact neT _ _ hS)
    have oth : ∀ b o,b ≠ S → h'.get? b = some o → (h'.update S (Obj.mapSeq (·.push (.ref s.heap.objs.size)))).get? b = some o:=fun b o hb q=>(Heap.get?_update_other _ _ (Ne.symm hb)).trans q
    have hSn:=Heap.get?_update_self (Obj.mapSeq (·.push (Value.ref s.heap.objs.size))) hS' rfl
    have I2:=Y5 (t':=tk + 1) (h':=h'.update S (Obj.mapSeq (·.push (.ref s.heap.objs.size)))) (ch:=[S]) I1 (fun b hb=>hf1 b (by simp at hb; simp [hb])) fun b u hb q=>oth b u (fun z=>hb (by simp [z])) q
    have hnf : Hf s.heap.objs.size = none:=g.sub.free hn
    refine wpAny_pure ⟨plainId_quiet F.plain_extend_loop _,ih (i + 1) _ _ (upd Hf s.heap.objs.size (.tup [.int i,ws[i]])) (Ts ++ [s.heap.objs.size]) (c + 1) (by omega) (by omega) I2 hf1 (he'.ext hS' ⟨_,hSn⟩ h4 oth) (hit'.ext fun o q=>oth it o h5.symm q) (aJ5 (G0 hnf) sq) (g.trans (Grow.laid g.sub hn)) ?_ ?_ hR⟩
    · simpa [bl0,Obj.mapSeq] using hSn
    · refine ⟨by rw [List.length_append,ht.1]; rfl,fun j T hj=>?_⟩
      rcases Nat.lt_or_ge j Ts.length with q | q
      · rw [List.getElem?_append_left q] at hj
        obtain ⟨x,ex,hx⟩:=ht.2 j T hj
        exact ⟨x,ex,by rw [C7 (C9 hx hnf)]; exact hx⟩
      · rw [List.getElem?_append_right q] at hj
        have hj0 : j - Ts.length = 0:=by
          rcases Nat.eq_zero_or_pos (j - Ts.length) with z | z
          · exact z
          · rw [List.getElem?_eq_none (by simp; omega)] at hj; cases hj
        rw [hj0] at hj
        cases hj
        have : j = i:=by have:=ht.1; omega
        subst this
        exact ⟨_,List.getElem?_eq_getElem hlt,C6⟩
theorem aP3 {H Hf : Hp} {s : Shared} {E : Value → Shared → Prop} {Q : Value → Shared → Prop} (hc : A.handled = none) (h1 : e ≠ it) (h2 : a ≠ e) (h3 : a ≠ it) (hz : ws.length ≤ 1000) (I : Inv X pins σ H s) (hf : ∀ b ∈ [e,it],ae5 X pins H b) (he : IsEnum s.heap e it 0 .none) (hit : SIt t s.heap it a 0) (sq : Sq X.K t Hf a ws) (g : L3 Hf H)
  (hQ : ∀ s' H' Hf' Ts c,Inv X pins σ H' s' → (∀ b ∈ [e,it,s.heap.objs.size],ae5 X pins H' b) → Grow H Hf H' Hf' → s'.heap.get? s.heap.objs.size = some (bl0 Ts c) → cR4 Hf' ws Ts ws.length → Q (.ref s.heap.objs.size) s') :
  wpAny (model X.prog X.w) A (call (.type "list") [.ref e]) Q E s:=by
 have el:=Heap.lt_size he
 have il:=hit.lt
 obtain ⟨S,eS⟩ : ∃ S,S = s.heap.objs.size:=⟨_,rfl⟩
 have fS : ae5 X pins H S:=I.fpOk (by omega) (I.hok.fresh (by omega))
 have h4 : S ≠ e:=by rw [eS]; exact Nat.ne_of_gt el
 have h5 : S ≠ it:=by rw [eS]; exact Nat.ne_of_gt il
 rw [← eS] at hQ
 refine callType_codes (Q₁:=fun obj s₁=>obj = .ref S ∧ s₁ = { s with heap:=s.heap.push { cls:=.type "list", data:=.seq #[] } }) F.called_list (F.typeCall_list_1 _) F.entry_list_init (code_list_new _ ⟨by rw [eS],rfl⟩) fun obj s₁ hh=>?_
 obtain ⟨rfl,rfl⟩:=hh
 have hS : (s.heap.push { cls:=.type "list", data:=.seq #[] }).get? S = some { cls:=.type "list", data:=.seq #[] }:=by rw [eS]; exact Heap.get?_push_size _ rfl
 refine ⟨⟨_,hS,rfl⟩,F.args_list_init_2 _ _,?_⟩
 show wpAny _ _ (do let old ← Builtin.List.listItems (.ref S); Builtin.List.listUpdate (.ref S) (fun _=>#[]); letGo old.toList.reverse; Builtin.List.listExtendWith (.ref S) (.ref e) .none) _ _ _
 refine wpAny_bind ?_
 unfold Builtin.List.listItems
 refine wpAny_bind (wpAny_seqItems hS rfl (wpAny_pure ?_))
 show wpAny _ _ (updateSeq S (fun _=>#[]) >>= fun _=>letGo (#[] : Array Value).toList.reverse >>= fun _=>Builtin.List.listExtendWith (.ref S) (.ref e) .none) _ _ _
 refine wpAny_bind (wpAny_updateSeq hS rfl ?_)
 have hS₂:=Heap.get?_update_self (Obj.mapSeq (fun _=>(#[] : Array Value))) hS rfl
 refine wpAny_bind (wpAny_letGo ?_)
 have k2 : ∀ b o,b ≠ S → s.heap.get? b = some o → ((s.heap.push { cls:=.type "list", data:=.seq #[] }).update S (Obj.mapSeq (fun _=>(#[] : Array Value)))).get? b = some o:=fun b o hb q=>(Heap.get?_update_other _ _ (Ne.symm hb)).trans (Heap.get?_push_of_some _ q)
 generalize (s.heap.push { cls:=.type "list", data:=.seq #[] }).update S (Obj.mapSeq (fun _=>(#[] : Array Value))) = h₂ at hS₂ k2
 have he₂ : IsEnum h₂ e it 0 .none:=k2 e _ h4.symm he
 unfold Builtin.List.listExtendWith
 refine wpAny_bind (wpAny_typeOf ⟨_,he₂,rfl⟩ ?_)
 have q1 : Builtin.List.listSameRef (.ref S) (.ref e) = false:=by simp [Builtin.List.listSameRef,h4]
 have q2 : (Value.type "enumerate" == Value.type "list") = false:=by decide
 have q3 : (Value.type "enumerate" == Value.type "tuple") = false:=by decide
 simp only [q1,q2,q3,Bool.or_false,xft,if_false]
 refine wpAny_bind (wpAny_pyIter_enum he₂ ?_)
 refine wpAny_bind (wpAny_holding ?_)
 unfold Builtin.List.listLengthHint
 refine wpAny_bind (wpAny_specialOf ⟨_,he₂,rfl⟩ bm4 ?_)
 show wpAny _ _ (specialOf (Value.ref e) (Str.ofString "__length_hint__") >>= _) _ _ _
 refine wpAny_bind (wpAny_specialOf ⟨_,he₂,rfl⟩ bd8 ?_)
 refine wpAny_pure ?_
 show wpAny _ _ (rule "list.extend.makes-room" >>= fun _=>Builtin.List.listTouch (.ref S) >>= fun _=>again (.builtin "list.extend.loop" ⟨[.ref S,.ref e,.none],[]⟩)) _ _ _
 refine wpAny_bind (wpAny_rule ?_)
 refine wpAny_bind ?_
 show wpAny _ _ (updateSeq S (·.push .none) >>= fun _=>updateSeq S (·.pop)) _ _ _
 refine wpAny_bind (wpAny_updateSeq hS₂ rfl ?_)
 have hS₃:=Heap.get?_update_self (Obj.mapSeq (·.push Value.none)) hS₂ rfl
 refine wpAny_updateSeq (hz:=by seq_fits) hS₃ rfl ?_
 have hS₄:=Heap.get?_update_self (Obj.mapSeq (·.pop)) hS₃ rfl
 have k4 : ∀ b o,b ≠ S → s.heap.get? b = some o → ((h₂.update S (Obj.mapSeq (·.push Value.none))).update S (Obj.mapSeq (·.pop))).get? b = some o :=
  fun b o hb q=>(Heap.get?_update_other _ _ (Ne.symm hb)).trans ((Heap.get?_update_other _ _ (Ne.symm hb)).trans (k2 b o hb q))
 generalize (h₂.update S (Obj.mapSeq (·.push Value.none))).update S (Obj.mapSeq (·.pop)) = h₄ at hS₄ k4
 have I4 : Inv X pins σ H { s with heap:=h₄,toks:=s.toks }:=Y5 (ch:=[S]) I (fun b hb=>by simp at hb; rw [hb]; exact fS) fun b u hb q=>k4 b u (fun z=>hb (by simp [z])) q
 refine wpAny_pure ⟨plainId_quiet F.plain_extend_loop _,bK5 (S:=S) (A:=A.in1) hc h1 h2 h3 h4 h5 hz ws.length 0 _ H Hf [] _ (by omega) (by omega) I4 (fun b hb=>by
  simp at hb
  rcases hb with rfl | rfl | rfl
  ·exact hf _ (by simp)
  ·exact hf _ (by simp)
  ·exact fS) (.inl ⟨_,k4 e _ h4.symm he⟩) (hit.ext fun o q=>k4 it o h5.symm q) sq (Grow.refl g) hS₄ ⟨rfl,fun j T hj=>by simp at hj⟩ fun s' H' Hf' Ts c I' f' g' hS' t'=>?_⟩
 exact ⟨rfl,hQ s' H' Hf' Ts c I' f' g' hS' t'⟩
def dd8 (vs : List V) : It:=⟨fun i _=>i < vs.length,fun i H x H'=>H' = H ∧ vs[vs.length - 1 - i]? = some x,fun i _=>vs.length ≤ i⟩
theorem bT2 {P : Program} {w : World} {K : PySem.W.Frag} {tg : Expr} (R S : Addr) (hne : S ≠ R) (Ts : List Addr) (c : Nat) :
  Turn P w K tg (dd8 (Ts.map V.ref)) [R,S] R (fun i h=>i ≤ Ts.length ∧ h.IsRevIter R S ((Ts.length : Int) - 1 - (i : Int)) ∧ h.get? S = some (bl0 Ts c)) where
 mem:=by simp
 obj:=fun i h ⟨_,hr,hl⟩ b hb=>by
  simp only [List.mem_cons,List.not_mem_nil,or_false] at hb
  rcases hb with rfl | rfl
  ·obtain ⟨o,ho,_,hd⟩:=hr; exact ⟨o,ho,fun v q=>by rw [hd] at q; cases q⟩
  ·exact ⟨_,hl,fun v q=>by cases q⟩
 keep:=fun i h h' ⟨hi,hr,hl⟩ k=>⟨hi,hr.at fun o q=>k R (by simp) o q,k S (by simp) _ hl⟩
 item:=by
  intro X hP hw hK hc i pins s σ H E I hf ⟨hi,hr,hl⟩ hg
  subst hP hw hK
  have hg : i < Ts.length:=by
   have : i < (Ts.map V.ref).length:=hg
   rwa [List.length_map] at this
  have e : (Ts.length : Int) - 1 - (i : Int) = ((Ts.length - 1 - i : Nat) : Int):=by omega
  rw [e] at hr
  have hx : (Ts.map Value.ref).toArray[Ts.length - 1 - i]? = some (.ref (Ts[Ts.length - 1 - i]'(by omega))):=by
   simp
  refine wpAny_pyNext_rev_item hr (items:=(Ts.map Value.ref).toArray) ⟨_,hl,rfl,_,rfl⟩ hx fun h' hr' sb=>?_
  have I1 : Inv X pins σ H { s with heap:=h',toks:=s.toks }:=Y5 (ch:=[R,S]) I hf fun b u hb q=>sb.extBut b u (fun z=>hb (by simp [z])) q
  obtain ⟨o,ho,hc',hd⟩:=id hr'
  refine ⟨_,rfl,bl9 (s:={ s with heap:=h' }) ho hc' hd (by decide) ⟨.ref (Ts[Ts.length - 1 - i]'(by omega)),H,I1,rfl,⟨rfl,?_⟩,⟨by omega,?_,sb.extBut S _ hne hl⟩,fun b hb=>(hf b hb).1⟩⟩
  ·rw [List.length_map,List.getElem?_map,List.getElem?_eq_getElem (by omega)]; rfl
  ·have e2 : ((Ts.length - 1 - i : Nat) : Int) - 1 = (Ts.length : Int) - 1 - ((i + 1 : Nat) : Int):=by omega
   rw [← e2]; exact hr'
 done:=by
  intro X hP hw hK hc i pins s σ H E I hf ⟨hi,hr,hl⟩ hg
  subst hP hw hK
  have hg : Ts.length ≤ i:=by
   have : (Ts.map V.ref).length ≤ i:=hg
   rwa [List.length_map] at this
  have e : (Ts.length : Int) - 1 - (i : Int) = -1:=by omega
  rw [e] at hr
  exact wpAny_pyNext_rev_end (I.ok.hd hc) hr fun h' eb=>⟨rfl,Y5 (t':=s.toks) (ch:=[R,S]) I hf fun b u hb q=>eb b u (fun z=>hb (by simp [z])) q⟩
 self:=fun _ _ _ _ _ ⟨_,hr,_⟩ h=>wpAny_pyIter_revIter hr h
end
section
variable {X : Cx}
theorem ty1 {pins : List (Addr × Obj)} {s : Shared} {σ : L2.St} {H : Hp} {T : String} {x : Str} {a : Expr} {p pos : Pos} {Q : Value → Shared → Prop} {E : Value → Shared → Prop} (I : Inv X pins σ H s) (hg : Gl X x) (hm : X.mg x = none) (hv : bootBuiltins x = some (.type T)) (hn : x ≠ "__name__") (hd : (x == ("__debug__" : Str)) = false)
  (hs : starEach [a] X.env = [(false,eval a X.env)]) (h : wpAny (model X.prog X.w) X.A (eval a X.env) (fun v s1=>wpAny (model X.prog X.w) X.A (call (.type T) [v]) Q E s1) E s) : wpAny (model X.prog X.w) X.A (eval (.Call (.Name x p) [a] [] pos) X.env) Q E s:=by
 refine Call_ (am3 I hg hm hv (PyProof.Rows.callWith_type1 ?_ (by rw [hs]; rfl) (by rfl)) hn hd)
 rw [hs]
 exact Calls.spliced_cons (thn h fun v s1 q=>Calls.spliced_nil q)
def cc5 (f : Rho → Option (Bool × List D)) : Rho → Option (List D):=fun ρ=>(f ρ).bind fun q=>if q.2.length ≤ 1000 then some (v7 q.2).reverse else none
theorem cp5 {elts : List Expr} {k0 : Nat} {tpos : Pos} {a : Expr} {f : DE} {p1 p2 p3 q1 q2 q3 : Pos} (ge : Gl X "enumerate") (me : X.mg "enumerate" = none) (gl : Gl X "list") (ml : X.mg "list" = none) (gr : Gl X "reversed") (mr : X.mg "reversed" = none) (hc : X.calm = true) (ha : JE X a f) (hs : starEach [a] X.env = [(false,eval a X.env)]:=by rfl) :
  JI X (.Tuple elts k0 tpos) (.Call (.Name "reversed" p1) [.Call (.Name "list" p2) [.Call (.Name "enumerate" p3) [a] [] q3] [] q2] [] q1) (cc5 (qE f)):=fun ρ out q=>by
 obtain ⟨⟨t1,ds⟩,e1,q⟩:=Option.bind_eq_some_iff.mp q
 simp only at q
 split at q
 ·rename_i hz
  cases q
  obtain ⟨d1,e1,e1'⟩:=Option.bind_eq_some_iff.mp e1
  intro pins s σ H R I ⟨H0,Hf,ss,sl,k⟩
  refine ty1 I gr mr rfl (by decide) (by decide) rfl (ty1 I gl ml rfl (by decide) (by decide) rfl (ty1 I ge me rfl (by decide) (by decide) hs ?_))
  refine thn (ha ρ d1 e1 pins s σ H (fun v H'=>∃ Hf',Grow H Hf H' Hf' ∧ Rep X.K Hf' d1 v) I ⟨H0,Hf,ss,sl,fun v H1 Hf1 g1 r1=>⟨Hf1,g1,r1⟩⟩) fun u s1 ⟨v,H1,I1,rv,Hf1,gr1,p1⟩=>?_
  obtain ⟨a1,vs1,rfl,w1,w2⟩:=p1.seq (L3.refl Hf1) e1'
  cases rv
  obtain ⟨us1,rr1,hp1,lt1⟩:=X2 I1 (aJ5 gr1.sub w1)
  have hz' : vs1.length ≤ 1000:=by have:=w2.length; omega
  refine aL8 hp1 fun h' b1 b2 b3=>?_
  have I2 : Inv X pins σ H1 { s1 with heap:=h' }:=I1.kept (t':=s1.toks) b3
  refine aP3 (e:=s1.heap.objs.size + 1) (it:=s1.heap.objs.size) (a:=a1) (I.ok.hd hc) (Nat.succ_ne_self _) (Nat.ne_of_lt (Nat.lt_succ_of_lt lt1)) (Nat.ne_of_lt lt1) hz' I2 (fun b hb=>?_) b1 b2 w1 gr1.sub fun s3 H3 Hf3 Ts c I3 f3 g3 hS3 t3=>?_
  ·have hb' : s1.heap.objs.size ≤ b:=by
    simp only [List.mem_cons,List.not_mem_nil,or_false] at hb
    rcases hb with rfl | rfl
    ·exact Nat.le_add_right _ _
    ·exact Nat.le_refl _
   exact I1.fpOk hb' (I1.hok.fresh hb')
  obtain ⟨S,eS⟩ : ∃ S,S = h'.objs.size:=⟨_,rfl⟩
  rw [show (Shared.heap { s1 with heap:=h' }).objs.size = S from eS.symm] at hS3 f3 ⊢
  refine call_reversed_list (items:=(Ts.map Value.ref).toArray) ⟨_,hS3,rfl,_,rfl⟩ ?_
  have kp : ∀ b o,s3.heap.get? b = some o → (s3.heap.push (revObj S (((Ts.map Value.ref).toArray.size : Int) - 1))).get? b = some o:=fun b o q=>Heap.get?_push_of_some _ q
  have I4 : Inv X pins σ H3 { s3 with heap:=s3.heap.push (revObj S (((Ts.map Value.ref).toArray.size : Int) - 1)),toks:=s3.toks }:=I3.kept kp
  have lS:=Heap.lt_size hS3
  have rv : (s3.heap.push (revObj S (((Ts.map Value.ref).toArray.size : Int) - 1))).IsRevIter s3.heap.objs.size S ((Ts.length : Int) - 1 - ((0 : Nat) : Int)):=⟨_,Heap.get?_push_size _ rfl,rfl,by simp [revObj]⟩
  refine wpAny_pyIter_revIter rv ⟨_,_,_,_,H3,rfl,I4,bT2 s3.heap.objs.size S (Nat.ne_of_lt lS) Ts c,⟨Nat.zero_le _,rv,kp _ _ hS3⟩,fun b hb=>?_,k _ H3 Hf3 (gr1.trans g3) ?_⟩
  ·simp only [List.mem_cons,List.not_mem_nil,or_false] at hb
   rcases hb with rfl | rfl
   ·exact I3.fpOk (Nat.le_refl _) (I3.hok.fresh (Nat.le_refl _))
   ·exact f3 _ (by simp)
  ·intro i H4 Hf4 sa sb
   have l1:=w2.length
   have tl:=t3.1
   have el : (Ts.map V.ref).length = ds.length:=by rw [List.length_map,tl,l1]
   refine ⟨fun hi=>?_,fun d hd=>?_⟩
   ·rw [List.length_reverse,o8] at hi
    show (Ts.map V.ref).length ≤ i
    omega
   ·have hlt : i < ds.length:=by
     have:=(List.getElem?_eq_some_iff.mp hd).1
     rwa [List.length_reverse,o8] at this
    refine ⟨show i < (Ts.map V.ref).length by omega,fun x H' ⟨z1,z2⟩=>?_⟩
    subst z1
    rw [List.getElem?_reverse (by rw [o8]; exact hlt),o8,aa7] at hd
    obtain ⟨d0,ed,rfl⟩:=Option.map_eq_some_iff.mp hd
    rw [el,List.getElem?_map] at z2
    obtain ⟨T,eT,rfl⟩:=Option.map_eq_some_iff.mp z2
    obtain ⟨x0,ex0,hT⟩:=t3.2 _ T eT
    obtain ⟨v0,ev0,rv0⟩:=w2.get ed
    rw [ev0] at ex0
    obtain rfl:=Option.some.inj ex0
    exact ⟨Hf4,Grow.refl sb,T,_,rfl,SqT.of (sa _ _ hT),.int _,[v0],rfl,rfl,v0,[],rfl,(rv0.mono g3.ext).mono sa,rfl⟩
 ·cases q
end
end G
namespace G
open PySem PySem.Spec PyProof.Rows L2
abbrev FnD:=List D → Option D
structure Sg where
 fn : List (Str × FnD × Nat)
 cs : List (Str × D)
 bl : List Str
structure Kx where
 N : List Str
 sc : Scope
 df : Bool
 own : List Nat
 cpt : List Nat
 tx : List Nat
 old : Bool
 fz : List (Nat × List Nat)
 hc : List ((Nat × Nat) × List Nat)
def dd9 (X : Cx) (x : Str) (F : FnD) (n : Nat) : Prop:=∃ (k : Nat) (f : Addr) (fd : FuncData) (ps : List Str),FnOk X.prog X.w X.K X.mg X.base CX0 k f fd ps (spF X.K n F) ∧ Room k X.A ∧ X.mg x = some (.ref f) ∧ PySem.W.keepIn X.K (.ref f) = true ∧ ad3 X.K fd ps []
structure Fit (S : Sg) (c : Kx) (X : Cx) : Prop where
 N : X.N = c.N
 sc : X.env.scope = c.sc
 nd : c.N.Nodup
 calm : X.calm = true
 xe : X.xe = fun _ _=>False
 units : X.A.units + 64 < cLine
 df : c.df = true → (∀ x,X.fn x = true) ∧ c.sc.kind = .function
 fns : ∀ x F n,S.fn.lookup x = some (F,n) → dd9 X x F n
 css : ∀ x d,S.cs.lookup x = some d → ∃ u,bp0 X.K d u ∧ X.mg x = some u
 bls : ∀ x,S.bl.contains x = true → X.mg x = none
def pl : Expr → Bool
 | .Starred ..=>false
 | .Slice ..=>false
 | .Set ..=>false
 | _=>true
def bY1 : Expr → Bool
 | .Call ..=>false
 | _=>true
def isC : Expr → Bool
 | .ListComp ..=>true
 | .SetComp ..=>true
 | .DictComp ..=>true
 | _=>false
def plT : Expr → Bool
 | .UnaryOp ..=>false
 | .BoolOp ..=>false
 | .IfExp ..=>false
 | .Compare ..=>false
 | _=>true
def av2 (x : Str) : List Str → Option Nat
 | []=>none
 | y :: r=>if y == x then some 0 else (av2 x r).map (· + 1)
theorem bl4 {x : Str} : ∀ {l : List Str} {i : Nat},av2 x l = some i → l[i]? = some x
 | [],i,h=>by cases h
 | y :: r,i,h=>by
  unfold av2 at h
  split at h
  ·rename_i e
   cases h
   simp only [beq_iff_eq] at e
   subst e; rfl
  ·obtain ⟨j,h1,h2⟩:=Option.map_eq_some_iff.mp h
   subst h2
   simpa using bl4 h1
def aE2 : List Str → Bool
 | []=>true
 | x :: r=>!(r.contains x) && aE2 r
theorem aE1 : ∀ {l : List Str},aE2 l = true → l.Nodup
 | [],_=>List.nodup_nil
 | x :: r,h=>by
  unfold aE2 at h
  simp only [Bool.and_eq_true,Bool.not_eq_true'] at h
  refine List.nodup_cons.mpr ⟨fun z=>?_,aE1 h.2⟩
  have:=h.1
  rw [List.contains_iff_mem.mpr z] at this
  cases this
def bF3 (sc : Scope) (x : Str) : Bool:=(match sc.names.lookup x with | some .local=>true | some .cell=>true | some .free=>true | _=>false) && !(x == ("__debug__" : Str)) && !(x == ("__classdict__" : Str))
def bZ5 (c : Kx) (x : Str) : Bool:=(match c.sc.names.lookup x with | some .local=>true | some .cell=>c.df | _=>false)
def cd1 (sc : Scope) (x : Str) : Bool:=(match sc.names.lookup x with | some .globalImplicit=>true | _=>false) && !(x == ("__debug__" : Str))
def biB (S : Sg) (c : Kx) (w x : Str) : Bool:=x == w && S.bl.contains w && cd1 c.sc w
section
variable {X : Cx} {S : Sg} {c : Kx}
theorem aJ2 {x : Str} (F : Fit S c X) (h : bF3 c.sc x = true) : Vis X.env.scope x ∧ (x == ("__debug__" : Str)) = false ∧ (x == ("__classdict__" : Str)) = false:=by
 unfold bF3 at h
 simp only [Bool.and_eq_true,Bool.not_eq_true'] at h
 obtain ⟨⟨h1,h2⟩,h3⟩:=h
 refine ⟨?_,h2,h3⟩
 rw [F.sc]
 unfold Vis
 split at h1
 ·rename_i e; exact .inl e
 ·rename_i e; exact .inr (.inl e)
 ·rename_i e; exact .inr (.inr e)
 ·cases h1
theorem bC3 {x : Str} (F : Fit S c X) (h : bZ5 c x = true) : L2.Loc X.env.scope x ∧ (X.fn x = true ∨ X.env.scope.names.lookup x = some .local):=by
 unfold bZ5 at h
 rw [F.sc]
 unfold L2.Loc
 split at h
 ·rename_i e; exact ⟨.inl e,.inr e⟩
 ·rename_i e; exact ⟨.inr e,.inl ((F.df h).1 x)⟩
 ·cases h
theorem bd3 {x : Str} (F : Fit S c X) (h : cd1 c.sc x = true) : Gl X x ∧ (x == ("__debug__" : Str)) = false:=by
 unfold cd1 at h
 simp only [Bool.and_eq_true,Bool.not_eq_true'] at h
 refine ⟨?_,h.2⟩
 unfold Gl Env.kindOf
 rw [F.sc]
 have h1:=h.1
 split at h1
 ·rename_i e; exact e
 ·cases h1
theorem R7 {w x : Str} (F : Fit S c X) (h : biB S c w x = true) : x = w ∧ Gl X w ∧ X.mg w = none:=by
 unfold biB at h
 simp only [Bool.and_eq_true,beq_iff_eq] at h
 exact ⟨h.1.1,(bd3 F h.2).1,F.bls _ h.1.2⟩
theorem M6 {e : Expr} (h : pl e = true) (es : List Expr) (env : Env) : starEach (e :: es) env = (false,eval e env) :: starEach es env:=by
 cases e <;> first | rfl | cases h
theorem cu4 {e : Expr} (h : pl e = true) : aK7 e:=by
 intro o i
 cases e <;> first | rfl | cases h
theorem aJ7 {e : Expr} (h : pl e = true) (op : CmpOp) : behindInMarks op e = false:=by
 cases e <;> first | rfl | cases h
theorem bA8 {e : Expr} (h : pl e = true) (env : Env) (x : Value) : foldedSetIterable e env x = pure x:=by
 cases e <;> first | rfl | cases h
theorem bj9 {o : Expr} (h : bY1 o = true) (attr : Str) (env : Env) (t : Sem Value) : attributeBase o attr env t = t:=by
 cases o <;> first | rfl | cases h
theorem aN5 {e : Expr} (h : isC e = false) (t : Option Expr) (l : Nat) (env : Env) : swapsWith e t l env = pure false:=by
 cases e <;> first | rfl | cases h
theorem bW0 {e : Expr} (h : plT e = true) (env : Env) (whole : Sem Value) : isTrue e env whole = (do let v ← whole; standAt e.pos; holding [v] (truthy v)):=by
 cases e <;> first | rfl | cases h
end
end G
namespace G
open PySem PySem.Spec PyProof.Rows L2
abbrev DA:=Rho → Option (List D)
abbrev DQ:=Rho → Option (Bool × List D)
abbrev DT:=Rho → Option Bool
abbrev DG:=D → Rho → Option Rho
def dNo : DE:=fun _=>none
def aNo : DA:=fun _=>none
def qNo : DQ:=fun _=>none
def tNo : DT:=fun _=>none
def gNo : DG:=fun _ _=>none
structure Ev where
 e : Kx → Expr → DE
 q : Kx → Expr → DQ
 n : Kx → Expr → DA
 t : Kx → Expr → DT
 g : Kx → Expr → DG
 b : Kx → List Stmt → DS
def bw8 : CmpOp → D → D → Option D
 | .Lt=>ltI | .LtE=>leI | .Gt=>gtI | .GtE=>geI | .Eq=>eqD | .NotEq=>neD | .Is=>isB | .IsNot=>aR7 | .In=>inD false | .NotIn=>inD true
def evA (f : Expr → DE) : List Expr → DA
 | []=>A3
 | e :: es=>if pl e then A0 (f e) (evA f es) else aNo
def ce3 (f : Expr → DE) (op : BoolOp) : List Expr → DE
 | []=>dNo
 | [a]=>f a
 | a :: b :: r=>match op with
  | .And=>R6 (f a) (ce3 f op (b :: r))
  | .Or=>dOr (f a) (ce3 f op (b :: r))
def ce2 (f : Expr → DT) (op : BoolOp) : List Expr → DT
 | []=>tNo
 | [a]=>f a
 | a :: b :: r=>match op with
  | .And=>W0 (f a) (ce2 f op (b :: r))
  | .Or=>Q9 (f a) (ce2 f op (b :: r))
def evO (f : Expr → DE) : Option Expr → Rho → Option (Option Int)
 | none=>N0
 | some e=>F9 (f e)
def cP5 (f : Expr → DG) : List Expr → List D → Rho → Option Rho
 | []=>K7
 | e :: es=>B2 (f e) (cP5 f es)
def ce0 (f : Expr → DT) : List Expr → DT
 | []=>C8
 | [t]=>f t
 | _=>tNo
def u6 : Expr → List Str
 | .Name x _=>[x]
 | .Tuple es _ _=>es.filterMap fun | .Name x _=>some x | _=>none
 | _=>[]
def rl (scope sc : Scope) : Scope:={ scope with names:=scope.names.map fun (n,k)=>if (k == .free && sc.kind == .function && sc.names.lookup n == some .cell) then (n,.cell) else (n,k) }
def cc6 (n : Nat) (caps l : List Nat) : List Nat:=(List.range caps.length).filterMap fun i=>match caps[i]? with | some j=>if l.contains j then some (n + i) else none | none=>none
def cU2 (c : Kx) (j : Nat) : Str:=(c.N[j]?).getD ""
def inner (c : Kx) (tn : List Str) (caps : List Nat) (scope : Scope) : Kx :=
 { N:=tn ++ caps.map (cU2 c),sc:=rl scope c.sc,df:=false,own:=cc6 tn.length caps c.own,cpt:=[],tx:=cc6 tn.length caps c.tx,old:=c.old,fz:=[],hc:=c.hc }
def isList : Expr → Bool
 | .List ..=>true
 | .ListComp ..=>true
 | _=>false
def ay5 (c : Kx) (l : List Nat) : Expr → Bool
 | .Name x _=>(match av2 x c.N with | some i=>l.contains i | none=>false)
 | _=>false
def cO9 : Expr → Bool
 | .Constant (.str _) _ _=>true
 | _=>false
def cT1 (S : Sg) (c : Kx) : Expr → Bool
 | .Constant (.str _) _ _=>true
 | .Name x _=>(match av2 x c.N with | some _=>false | none=>(match S.cs.lookup x with | some (.str _)=>true | _=>false))
 | _=>false
def opW (S : Sg) (c : Kx) (op : CmpOp) (b : Expr) : D → D → Option D:=if cT1 S c b then (match op with
 | .In=>inS false
 | .NotIn=>inS true
 | _=>bw8 op) else bw8 op
def bl7 : Expr → Bool
 | .Tuple ..=>true
 | _=>false
def cx7 (x : Str) : Option String:=if x == "int" then some "int" else if x == "bool" then some "bool" else if x == "str" then some "str" else if x == "tuple" then some "tuple" else if x == "list" then some "list" else none
section
variable (S : Sg) (r : Ev)
def evR (c : Kx) (tg : Expr) (a : Expr) : DA:=match a with
 | .Call (.Name y _) [.Call (.Name z _) [b] [] _] [] _=>if biB S c "list" y && biB S c "enumerate" z && bl7 tg && pl b then cc5 (qE (r.e c b)) else fun _=>none
 | _=>fun _=>none
def evI (c : Kx) (tg it : Expr) : DA:=match it with
 | .Call (.Name x _) [a] [] _=>if biB S c "reversed" x then evR S r c tg a else if biB S c "range" x && pl a then O4 (r.e c a) else if biB S c "enumerate" x && bl7 tg && pl a then aO4 (qE (r.e c a)) else G1 (r.e c it)
 | .Call (.Name x _) [a,b] [] _=>if biB S c "range" x && pl a && pl b then cv5 (r.e c a) (r.e c b) else if biB S c "zip" x && bl7 tg && pl a && pl b then as1 (qE (r.e c a)) (qE (r.e c b)) else G1 (r.e c it)
 | _=>if ay5 c c.tx it then cr3 (r.e c it) else G1 (r.e c it)
def evC (c : Kx) (ex : Expr) : DA:=match ex with
 | .ListComp elt [⟨tgt,iter,ifs,0⟩] scope pos =>
  let tn:=u6 tgt
  let caps:=(c.hc.lookup (pos.line,pos.col)).getD []
  let c':=inner c tn caps scope
  if aK6 c.N c'.N tn.length caps c.sc scope && aE2 c'.N && pl iter then B8 tn.length caps (evI S r c tgt iter) (r.g c' tgt) (ce0 (r.t c') ifs) (r.e c' elt) else aNo
 | _=>aNo
def bp8 (c : Kx) (x : Str) (a : Expr) : DE :=
 if !(pl a) then dNo
 else if biB S c "len" x then (match a with
  | .Call (.Name y _) [e] [] _=>if biB S c "set" y && pl e then ai9 (r.q c e) else R3 (r.q c a)
  | _=>if ay5 c c.tx a then bD7 (r.e c a) else R3 (r.q c a))
 else if biB S c "tuple" x then N4 (r.q c a)
 else if biB S c "all" x then j0 (r.q c a)
 else if biB S c "int" x then ab9 (r.e c a)
 else if biB S c "str" x then cY6 (r.e c a)
 else if biB S c "abs" x then cY7 (r.e c a)
 else if biB S c "min" x then cw0 (r.q c a)
 else if biB S c "max" x then cw1 (r.q c a)
 else dNo
def bp7 (c : Kx) (x : Str) (a b : Expr) : DE :=
 if !(pl a) then dNo
 else if biB S c "isinstance" x then (match b with
  | .Name y _=>(match cx7 y with
   | some T=>if biB S c y y then W4 T (r.e c a) else dNo
   | none=>dNo)
  | _=>dNo)
 else if !(pl b) then dNo
 else if biB S c "min" x then aV7 (r.e c a) (r.e c b)
 else if biB S c "max" x then aV8 (r.e c a) (r.e c b)
 else dNo
def bS4 (c : Kx) (x : Str) (args : List Expr) (ex : Expr) : DE:=match S.fn.lookup x with
 | some (F,n)=>if cd1 c.sc x && args.length == n && args.all pl then A2 F (evA (r.e c) args) else dNo
 | none=>match args with
  | [a]=>if biB S c "list" x then P3 (r.n c ex) else bp8 S r c x a
  | [a,b]=>bp7 S r c x a b
  | _=>dNo
def cx0 (c : Kx) (a i : Expr) : DE:=match i with
 | .Slice lo hi none _ =>
  if c.old then ak0 (r.e c a) (evO (r.e c) lo) (evO (r.e c) hi)
  else if ay5 c c.tx a then bN8 (r.e c a) (evO (r.e c) lo) (evO (r.e c) hi)
  else if ay5 c c.own a then bN9 (r.q c a) (evO (r.e c) lo) (evO (r.e c) hi)
  else am8 (r.e c a) (evO (r.e c) lo) (evO (r.e c) hi)
 | .Slice none none (some (.UnaryOp .USub (.Constant (.int 1) _ _) _)) _=>cv9 (r.e c a)
 | _=>if pl i then (if cO9 a then av8 (r.e c a) (r.e c i) else dIx (r.q c a) (r.e c i)) else dNo
def xE (c : Kx) (ex : Expr) : DE:=match ex with
 | .Constant .none _ _=>dC .none
 | .Constant (.bool b) _ _=>dC (.bool b)
 | .Constant (.int i) _ _=>dC (.int i)
 | .Constant (.str x) _ _=>dC (.str x)
 | .Name x _=>(match av2 x c.N with
  | some i=>if bF3 c.sc x then A1 i else dNo
  | none=>(match S.cs.lookup x with
   | some d=>if cd1 c.sc x then dC d else dNo
   | none=>dNo))
 | .Tuple es _ _=>if es.length ≤ 1000 then F6 (evA (r.e c) es) else dNo
 | .List _ _=>P3 (r.n c ex)
 | .ListComp _ _ _ _=>P3 (r.n c ex)
 | .BinOp a .Add b _=>if c.old && !(isList a || isList b) then A5 af6 (r.e c a) (r.e c b) else A5 B5 (r.e c a) (r.e c b)
 | .BinOp a .Sub b _=>A5 aG7 (r.e c a) (r.e c b)
 | .BinOp a .Mult b _=>if c.old then A5 o5 (r.e c a) (r.e c b) else (match a with
  | .Subscript v _ _=>if ay5 c c.tx v then A5 bK0 (r.e c a) (r.e c b) else A5 L5 (r.e c a) (r.e c b)
  | _=>A5 L5 (r.e c a) (r.e c b))
 | .BinOp a .FloorDiv b _=>A5 av7 (r.e c a) (r.e c b)
 | .BinOp a .Mod b _=>A5 ab7 (r.e c a) (r.e c b)
 | .BinOp a .Pow b _=>A5 cG3 (r.e c a) (r.e c b)
 | .UnaryOp .USub a _=>aI5 (r.e c a)
 | .UnaryOp .Not a _=>ae4 (r.e c a)
 | .Compare a [op] [b] _=>if pl b then A5 (opW S c op b) (r.e c a) (r.e c b) else dNo
 | .Compare a [op,op'] [b,d] _=>if pl d then N2 (bw8 op) (bw8 op') (r.e c a) (r.e c b) (r.e c d) else dNo
 | .BoolOp op vs _=>ce3 (r.e c) op vs
 | .IfExp t a b _=>as5 (r.t c t) (r.e c a) (r.e c b)
 | .Subscript a i _=>cx0 r c a i
 | .Call (.Attribute o m apos) [a] [] cpos=>if m == "join" && bY1 o && apos.endLine == cpos.line && pl a then aP1 (r.e c o) (r.q c a) else dNo
 | .Call (.Name x _) args [] _=>bS4 S r c x args ex
 | _=>dNo
def xQ (c : Kx) (ex : Expr) : DQ:=match ex with
 | .Name x _=>(match av2 x c.N with
  | some i=>if bF3 c.sc x then A8 i else qNo
  | none=>qE (r.e c ex))
 | .List _ _=>qN (r.n c ex)
 | .ListComp _ _ _ _=>qN (r.n c ex)
 | .Call (.Name x _) [_] [] _=>if biB S c "list" x then qN (r.n c ex) else qE (r.e c ex)
 | _=>qE (r.e c ex)
def xN (c : Kx) (ex : Expr) : DA:=match ex with
 | .List es _=>if es.length ≤ 1000 then evA (r.e c) es else aNo
 | .ListComp _ _ _ _=>evC S r c ex
 | .Call (.Name x _) [a] [] _=>if biB S c "list" x && pl a then (fun ρ=>(r.q c a ρ).map fun q=>q.2) else aNo
 | .BinOp a .Add b _=>bJ9 (r.q c a) (r.q c b)
 | _=>aNo
def xT (c : Kx) (ex : Expr) : DT:=match ex with
 | .Compare a [op] [b] _=>if pl b then tB2 (opW S c op b) (r.e c a) (r.e c b) else tNo
 | .Compare a [op,op'] [b,d] _=>if pl d then bq5 (N2 (bw8 op) (bw8 op') (r.e c a) (r.e c b) (r.e c d)) else tNo
 | .BoolOp op vs _=>ce2 (r.t c) op vs
 | .UnaryOp .Not a _=>L4 (r.t c a)
 | _=>if plT ex then K5 (r.e c ex) else tNo
def xG (c : Kx) (ex : Expr) : DG:=match ex with
 | .Name x _=>(match av2 x c.N with
  | some i=>if bZ5 c x then B1 i else gNo
  | none=>gNo)
 | .Tuple es _ _=>if es.all pl then K4 es.length (cP5 (r.g c) es) else gNo
 | _=>gNo
def cV2 (c : Kx) (x y : Str) (px py : Pos) (a b : Expr) : Bool :=
 c.df && pl a && pl b && !(x == y) && px.line == py.line && c.sc.names.lookup x == some .local && c.sc.names.lookup y == some .local && !(([a,b] : List Expr).all (foldedForSure 8)) && !(([a,b] : List Expr).all (constantsAlone 8))
def cx2 (c : Kx) (tg v : Expr) (p : Pos) : DS:=match tg with
 | .Name x p'=>(match av2 x c.N with
  | none=>P5
  | some i=>if !(bZ5 c x) then P5 else (match v with
   | .ListComp _ _ sc pv=>if c.sc.names.lookup x == some .local then
     (if c.df && p'.line == pv.line && !(sc.names.any fun (n,k)=>n == x && (k == .local || k == .cell)) then (if c.own.contains i then ae0 i (evC S r c v) else R0 i (evC S r c v)) else P5)
    else B4 i (r.e c v)
   | _=>if isC v then P5 else if c.own.contains i then ae0 i (r.n c v) else B4 i (r.e c v)))
 | .Subscript (.Name x _) (.Slice lo hi none _) _=>(match av2 x c.N with
  | none=>P5
  | some i=>if bF3 c.sc x && !(isC v) then bU9 i (evO (r.e c) lo) (evO (r.e c) hi) (r.n c v) else P5)
 | .Tuple [.Name x px,.Name y py] _ _=>(match v with
  | .Tuple [a,b] _ _=>(match av2 x c.N,av2 y c.N with
   | some i,some j=>if cV2 c x y px py a b then bV0 i j (evA (r.e c) [a,b]) else P5
   | _,_=>P5)
  | .Tuple _ _ _=>P5
  | _=>ab6 (r.e c v) (r.g c tg))
 | .Tuple es _ _=>if bl7 v && (es.length == 2 || es.length == 3) then P5 else ab6 (r.e c v) (r.g c tg)
 | _=>P5
def cx1 (c : Kx) (x m : Str) (e : Expr) : DS:=match av2 x c.N with
 | none=>P5
 | some i=>if bF3 c.sc x && pl e then (if m == "append" then i9 i (r.e c e) else if m == "extend" then aZ8 i (r.e c e) else P5) else P5
def xS0 (c : Kx) (st : Stmt) : DS:=match st with
 | .Return (some e) _=>A9 (r.e c e)
 | .If t a b _=>sIf (r.t c t) (r.b c a) (r.b c b)
 | .While t a [] _=>ah2 (r.t c t) (r.b c a)
 | .For tg it a [] _=>if pl it then U4 (evI S r c tg it) (r.g c tg) (r.b c a) else P5
 | .Assign [tg] v p=>cx2 S r c tg v p
 | .Expr (.Call (.Attribute (.Name x _) m apos) [e] [] cpos) _=>if apos.endLine == cpos.line then cx1 r c x m e else P5
 | .Continue _=>bi2
 | .Break _=>fun ρ=>some (.bk ρ)
 | .Pass _=>C1
 | _=>P5
def cJ8 : Stmt → Nat
 | .Return _ p=>p.line
 | .If _ _ _ p=>p.line
 | .While _ _ _ p=>p.line
 | .For _ _ _ _ p=>p.line
 | .Assign _ _ p=>p.line
 | .Expr _ p=>p.line
 | _=>0
def fzW (g : DS) : Option (List Nat) → DS
 | none=>g
 | some l=>l.foldl (fun g i=>aG8 i g) g
def xS (c : Kx) (st : Stmt) : DS:=fzW (xS0 S r c st) (c.fz.lookup (cJ8 st))
def evB (f : Stmt → DS) : List Stmt → DS
 | []=>C1
 | [s]=>f s
 | s :: t :: Y9=>A6 (f s) (evB f (t :: Y9))
def step : Ev:=⟨xE S r,xQ S r,xN S r,xT S r,xG r,fun c=>evB (xS S r c)⟩
end
def ev (S : Sg) : Nat → Ev
 | 0=>⟨fun _ _=>dNo,fun _ _=>qNo,fun _ _=>aNo,fun _ _=>tNo,fun _ _=>gNo,fun _ _=>P5⟩
 | n + 1=>step S (ev S n)
end G
namespace Sh
open PySem PySem.Spec PyProof.Rows L2 G
def aX4 : DS:=(A9 (R6 (W4 "str" (A1 0)) (R6 (N2 leI leI (dC (.int 1)) (bD7 (A1 0)) (dC (.int 6))) (j0 (qN (B8 1 [] (cr3 (A1 0)) (B1 0) C8 (A5 (inS false) (A1 0) (dC (.str "abcdefghijklmnopqrstuvwxyz")))))))))
def ar6 : List D → Option D:=C4 aX4 1
def bz2 : DS:=(A9 (W4 "bool" (A1 0)))
def aj4 : List D → Option D:=C4 bz2 1
def aG5 : DS:=(A9 (R6 (A2 S0 (A0 (A1 0) A3)) (N2 leI leI (aI5 (dC (.int 9))) (A1 0) (dC (.int 9)))))
def p9 : List D → Option D:=C4 aG5 1
def aX5 : DS:=(A6 (sIf (tB2 isB (A1 0) (dC .none)) (A9 (dC (.bool true))) C1) (A6 (sIf (Q9 (L4 (K5 (W4 "tuple" (A1 0)))) (tB2 neD (R3 (A8 0)) (R3 (qE (dIx (A8 1) (dC (.int 2))))))) (A9 (dC (.bool false))) C1) (A9 (j0 (qN (B8 1 [] (G1 (A1 0)) (B1 0) C8 (A2 Y7 (A0 (A1 0) A3))))))))
def ar7 : List D → Option D:=C4 aX5 2
def v8 : DS:=(A6 (sIf (Q9 (tB2 neD (R3 (A8 0)) (dC (.int 9))) (Q9 (tB2 (inD true) (A2 O7 (A0 (A1 0) A3)) (dC (.tuple [(.str "over"),(.str "multiply"),(.str "screen"),(.str "plus"),(.str "atop"),(.str "cut")]))) (L4 (K5 (A2 aj5 (A0 (A2 U8 (A0 (A1 0) A3)) A3)))))) (A9 (dC (.bool false))) C1) (A9 (R6 (A2 p9 (A0 (A2 k5 (A0 (A1 0) A3)) A3)) (R6 (A2 p9 (A0 (A2 ab2 (A0 (A1 0) A3)) A3)) (A2 ar7 (A0 (A2 aa0 (A0 (A1 0) A3)) (A0 (A2 U8 (A0 (A1 0) A3)) A3)))))))
def P4 : List D → Option D:=C4 v8 1
def W6 (self : Nat → List D → Option D) : DS:=(A6 (sIf (Q9 (tB2 neD (R3 (A8 0)) (dC (.int 6))) (Q9 (tB2 (inD true) (A2 O7 (A0 (A1 0) A3)) (dC (.tuple [(.str "over"),(.str "multiply"),(.str "screen"),(.str "plus"),(.str "atop"),(.str "cut")]))) (tB2 eqD (A1 1) (dC (.int 0))))) (A9 (dC (.bool false))) C1) (A9 (A2 (self 2) (A0 (A2 C5 (A0 (A1 0) A3)) (A0 (A5 aG7 (A1 1) (dC (.int 1))) A3)))))
def T6 (self : Nat → List D → Option D) : DS:=(A6 (sIf (Q9 (L4 (K5 (W4 "tuple" (A1 0)))) (tB2 ltI (R3 (A8 0)) (dC (.int 5)))) (A9 (dC (.bool false))) C1) (A6 (sIf (Q9 (L4 (K5 (A2 ar6 (A0 (A2 P8 (A0 (A1 0) A3)) A3)))) (Q9 (L4 (K5 (A2 Y7 (A0 (A2 L1 (A0 (A1 0) A3)) A3)))) (L4 (K5 (A2 aj4 (A0 (A2 P1 (A0 (A1 0) A3)) A3)))))) (A9 (dC (.bool false))) C1) (A6 (sIf (K5 (A2 V1 (A0 (A1 0) A3))) (A9 (A2 P4 (A0 (A1 0) A3))) C1) (A6 (sIf (K5 (A2 M2 (A0 (A1 0) A3))) (A9 (A2 (self 0) (A0 (A1 0) (A0 (A1 1) A3)))) C1) (A9 (R6 (A2 M3 (A0 (A1 0) A3)) (R6 (A5 eqD (R3 (A8 0)) (dC (.int 5))) (A5 (inD false) (A2 j8 (A0 (A1 0) A3)) (dC (.tuple [(.str "turn"),(.str "grey"),(.str "round")]))))))))))
def an9 (self : Nat → List D → Option D) : DS:=(A9 (R6 (W4 "tuple" (A1 0)) (j0 (qN (B8 1 [1] (G1 (A1 0)) (B1 0) C8 (A2 (self 1) (A0 (A1 0) (A0 (A1 1) A3))))))))
def A4 : Nat → Nat → List D → Option D
 | 0=>fun _ _=>none
 | k + 1=>fun i=>match i with
  | 0=>C4 (W6 (A4 k)) 2
  | 1=>C4 (T6 (A4 k)) 2
  | 2=>C4 (an9 (A4 k)) 2
  | _=>fun _=>none
def M9 (k : Nat) : List D → Option D:=A4 k 0
def N1 (k : Nat) : List D → Option D:=A4 k 1
def P7 (k : Nat) : List D → Option D:=A4 k 2
def at0 (self : List D → Option D) : DS:=(A6 (ae0 1 A3) (A6 (U4 (G1 (A1 0)) (B1 2) (A6 (i9 1 (A2 P8 (A0 (A1 2) A3))) (sIf (K5 (A2 M2 (A0 (A1 2) A3))) (aZ8 1 (A2 self (A0 (A2 C5 (A0 (A1 2) A3)) A3))) C1))) (aG8 1 (A9 (A1 1)))))
def F8 : Nat → List D → Option D
 | 0=>fun _=>none
 | k + 1=>C4 (at0 (F8 k)) 3
def ab0 : DS:=(A6 (B4 1 (A2 (F8 12) (A0 (A1 0) A3))) (A9 (A5 eqD (ai9 (A8 1)) (R3 (A8 1)))))
def T4 : List D → Option D:=C4 ab0 2
def aA3 : DS:=(A9 (R6 (A2 k6 (A0 (A1 0) A3)) (R6 (A2 (P7 12) (A0 (dIx (A8 0) (dC (.int 2))) (A0 (dC (.int 3)) A3))) (A2 T4 (A0 (dIx (A8 0) (dC (.int 2))) A3)))))
def b0 : List D → Option D:=C4 aA3 1
end Sh
namespace Sh
open PySem PySem.Spec PyProof.Rows L2 G
def aj8 : DS:=(A6 (R0 2 (B8 2 [1] (G1 (A2 U9 (A0 (dIx (A8 0) (dC (.int 0))) (A0 (dIx (A8 0) (dC (.int 1))) A3)))) (K4 2 (B2 (B1 0) (B2 (B1 1) K7))) C8 (A2 (S6 12) (A0 (A1 2) (A0 (A1 0) (A0 (A1 1) A3)))))) (A9 (F6 (A0 (dIx (A8 0) (dC (.int 0))) (A0 (dIx (A8 0) (dC (.int 1))) (A0 (N4 (A8 2)) A3))))))
def P2 : List D → Option D:=C4 aj8 3
def aQ0 : DS:=(A9 (A2 (F8 12) (A0 (dIx (A8 0) (dC (.int 2))) A3)))
def Q8 : List D → Option D:=C4 aQ0 1
end Sh
namespace Sh
open PySem PySem.Spec PyProof.Rows L2 G
def aT8 : DS:=(A6 (sIf (Q9 (tB2 leI (A1 2) (A1 0)) (tB2 leI (A1 3) (A1 1))) (A9 (dC .none)) C1) (A9 (F6 (A0 (A1 0) (A0 (A1 1) (A0 (A5 aG7 (A1 2) (A1 0)) (A0 (A5 aG7 (A1 3) (A1 1)) A3)))))))
def at1 : List D → Option D:=C4 aT8 4
def bg4 : DS:=(A6 (sIf (tB2 isB (A1 0) (dC .none)) (A9 (A1 1)) C1) (A6 (sIf (tB2 isB (A1 1) (dC .none)) (A9 (A1 0)) C1) (A6 (B4 2 (aV8 (A5 B5 (dIx (A8 0) (dC (.int 0))) (dIx (A8 0) (dC (.int 2)))) (A5 B5 (dIx (A8 1) (dC (.int 0))) (dIx (A8 1) (dC (.int 2)))))) (A6 (B4 3 (aV8 (A5 B5 (dIx (A8 0) (dC (.int 1))) (dIx (A8 0) (dC (.int 3)))) (A5 B5 (dIx (A8 1) (dC (.int 1))) (dIx (A8 1) (dC (.int 3)))))) (A9 (A2 at1 (A0 (aV7 (dIx (A8 0) (dC (.int 0))) (dIx (A8 1) (dC (.int 0)))) (A0 (aV7 (dIx (A8 0) (dC (.int 1))) (dIx (A8 1) (dC (.int 1)))) (A0 (A1 2) (A0 (A1 3) A3))))))))))
def bg8 : List D → Option D:=C4 bg4 4
def aQ3 : DS:=(A6 (B4 1 (dC .none)) (A6 (U4 (G1 (A1 0)) (B1 2) (B4 1 (A2 bg8 (A0 (A1 1) (A0 (A1 2) A3))))) (A9 (A1 1))))
def aQ7 : List D → Option D:=C4 aQ3 3
def bp1 : DS:=(A9 (F6 (A0 (dC (.int 0)) (A0 (dC (.int 0)) (A0 (dIx (A8 0) (dC (.int 0))) (A0 (dIx (A8 0) (dC (.int 1))) A3))))))
def bp4 : List D → Option D:=C4 bp1 1
def ax3 : DS:=(B4 2 (A2 k5 (A0 (A1 1) A3)))
def ax2 : DS:=(B4 3 (A2 ab2 (A0 (A1 1) A3)))
def ax1 : DS:=(B4 4 (A2 U8 (A0 (A1 1) A3)))
def ax0 : DS:=(B4 5 (aV7 (A5 B5 (A1 2) (dIx (A8 4) (dC (.int 0)))) (dIx (A8 0) (dC (.int 0)))))
def aw9 : DS:=(B4 6 (aV7 (A5 B5 (A1 3) (dIx (A8 4) (dC (.int 1)))) (dIx (A8 0) (dC (.int 1)))))
def aw8 : DS:=(A9 (A2 at1 (A0 (aV8 (A1 2) (dC (.int 0))) (A0 (aV8 (A1 3) (dC (.int 0))) (A0 (A1 5) (A0 (A1 6) A3))))))
def aQ6 : DS:=(A6 ax3 (A6 ax2 (A6 ax1 (A6 ax0 (A6 aw9 aw8)))))
def aQ9 : List D → Option D:=C4 aQ6 7
def ci2 (self : List D → Option D) : DS:=(A6 (sIf (L4 (K5 (A2 P1 (A0 (A1 1) A3)))) (A9 (dC .none)) C1) (A6 (sIf (K5 (A2 M3 (A0 (A1 1) A3))) (A9 (A2 bp4 (A0 (A1 0) A3))) C1) (A6 (sIf (K5 (A2 M2 (A0 (A1 1) A3))) (A9 (A2 aQ7 (A0 (P3 (B8 1 [0] (G1 (A2 C5 (A0 (A1 1) A3))) (B1 0) (L4 (K5 (A2 M3 (A0 (A1 0) A3)))) (A2 self (A0 (A1 1) (A0 (A1 0) A3))))) A3))) C1) (A9 (A2 aQ9 (A0 (A1 0) (A0 (A1 1) A3)))))))
def ci4 : Nat → List D → Option D
 | 0=>fun _=>none
 | k + 1=>C4 (ci2 (ci4 k)) 2
def aj7 (self : List D → Option D) : DS:=(A6 (ae0 2 A3) (A6 (U4 (G1 (A1 0)) (B1 3) (A6 (sIf (tB2 (inD false) (A2 P8 (A0 (A1 3) A3)) (A1 1)) bi2 C1) (sIf (K5 (A2 M2 (A0 (A1 3) A3))) (i9 2 (A2 Q7 (A0 (A1 3) (A0 (A2 self (A0 (A2 C5 (A0 (A1 3) A3)) (A0 (A1 1) A3))) A3)))) (i9 2 (A1 3))))) (A9 (N4 (A8 2)))))
def D9 : Nat → List D → Option D
 | 0=>fun _=>none
 | k + 1=>C4 (aj7 (D9 k)) 4
def aW7 : DS:=(A6 (B4 2 (A2 Q8 (A0 (A1 0) A3))) (A6 (U4 (G1 (A1 1)) (B1 3) (sIf (tB2 (inD true) (A1 3) (A1 2)) P5 C1)) (A9 (F6 (A0 (dIx (A8 0) (dC (.int 0))) (A0 (dIx (A8 0) (dC (.int 1))) (A0 (A2 (D9 12) (A0 (dIx (A8 0) (dC (.int 2))) (A0 (A1 1) A3))) A3)))))))
def V7 : List D → Option D:=C4 aW7 4
end Sh
namespace Sh
open PySem PySem.Spec PyProof.Rows L2 G
end Sh
namespace Sh
open PySem PySem.Spec PyProof.Rows L2 G
def an8 : DS:=(A6 (sIf (Q9 (K5 (A2 M3 (A0 (A1 1) A3))) (Q9 (L4 (K5 (A2 P1 (A0 (A1 1) A3)))) (tB2 neD (A2 O7 (A0 (A1 1) A3)) (dC (.str "over"))))) (A9 (dC (.bool false))) C1) (A9 (j0 (qN (B8 1 [] (G1 (dIx (qE (A2 P2 (A0 (A1 0) (A0 (A1 1) A3)))) (dC (.int 2)))) (B1 0) C8 (A5 eqD (dIx (A8 0) (dC (.int 0))) (dC (.tuple [(.int 1),(.int 1)]))))))))
def ao0 : List D → Option D:=C4 an8 2
def S4 : DS:=(A6 (sIf (Q9 (L4 (K5 (A2 P1 (A0 (A1 1) A3)))) (tB2 eqD (dIx (qE (A2 L1 (A0 (A1 1) A3))) (dC (.int 0))) (dC (.int 0)))) (A9 (dC (.bool true))) C1) (A6 (sIf (K5 (A2 M3 (A0 (A1 1) A3))) (A9 (dC (.bool false))) C1) (A9 (j0 (qN (B8 1 [] (G1 (dIx (qE (A2 P2 (A0 (A1 0) (A0 (A1 1) A3)))) (dC (.int 2)))) (B1 0) C8 (A5 eqD (A1 0) (dC (.tuple [(.tuple [(.int 0),(.int 1)]),(.tuple [(.int 0),(.int 1)]),(.tuple [(.int 0),(.int 1)]),(.tuple [(.int 0),(.int 1)])])))))))))
def S7 : List D → Option D:=C4 S4 2
def aJ1 : DS:=(A6 (U4 (cc5 (qE (A1 1))) (K4 2 (B2 (B1 2) (B2 (B1 3) K7))) (sIf (K5 (A2 ao0 (A0 (A1 0) (A0 (A1 3) A3)))) (A9 (A1 2)) C1)) (A9 (dC (.int 0))))
def T7 : List D → Option D:=C4 aJ1 4
def af7 (self : List D → Option D) : DS:=(A6 (ae0 2 A3) (A6 (B4 3 (A2 T7 (A0 (A1 0) (A0 (A1 1) A3)))) (A6 (U4 (aO4 (qE (A1 1))) (K4 2 (B2 (B1 4) (B2 (B1 5) K7))) (sIf (Q9 (tB2 ltI (A1 4) (A1 3)) (K5 (A2 S7 (A0 (A1 0) (A0 (A1 5) A3))))) (i9 2 (A2 P8 (A0 (A1 5) A3))) (sIf (K5 (A2 M2 (A0 (A1 5) A3))) (aZ8 2 (A2 self (A0 (A1 0) (A0 (A2 C5 (A0 (A1 5) A3)) A3)))) C1))) (aG8 2 (A9 (A1 2))))))
def D0 : Nat → List D → Option D
 | 0=>fun _=>none
 | k + 1=>C4 (af7 (D0 k)) 6
def aP9 : DS:=(A9 (A2 (D0 12) (A0 (A1 0) (A0 (dIx (A8 0) (dC (.int 2))) A3))))
def Y6 : List D → Option D:=C4 aP9 1
end Sh
namespace Sh
open PySem PySem.Spec PyProof.Rows L2 G
def aA0 : DS:=(A6 (B4 2 (A2 Z8 (A0 (A1 0) (A0 (A1 1) A3)))) (A9 (dIx (A8 2) (A2 S5 (A0 (A1 2) (A0 (A1 1) A3))))))
def Z9 : List D → Option D:=C4 aA0 3
end Sh
namespace Sh
open PySem G
theorem af3 (i j : Int) : neD (.int i) (.int j) = some (.bool (!(i == j))):=rfl
theorem af4 (i j : Int) : eqD (.int i) (.int j) = some (.bool (i == j)):=rfl
theorem bC9 {t : Rho → Option Bool} {f : DS} {n : Nat} {ρ ρ' : Rho} (h1 : t ρ = some true) (h2 : f ρ = some (.nx ρ')) : o6 t f (n + 1) ρ = o6 t f n ρ':=by
 simp only [o6,h1,h2,xbs,if_true]
theorem cd3 : ∀ (b a : Nat) (x : Option B),∃ n x',o6 (tB2 neD (A1 1) (dC (.int 0))) (A6 (B4 2 (A5 ab7 (A1 0) (A1 1))) (A6 (B4 0 (A1 1)) (B4 1 (A1 2)))) n [‹.int a›,‹.int b›,x]
  = some (.nx [‹.int (Nat.gcd a b)›,‹.int 0›,x']):=by
 intro b
 induction b using Nat.strongRecOn with
 | _ b ih =>
  intro a x
  by_cases hb : b = 0
  ·subst hb
   refine ⟨1,x,?_⟩
   rw [Nat.gcd_zero_right]
   rfl
  ·obtain ⟨n,x',h⟩:=ih (a % b) (Nat.mod_lt _ (Nat.pos_of_ne_zero hb)) b (‹.int ((a % b : Nat) : Int)›)
   refine ⟨n + 1,x',?_⟩
   have e1 : tB2 neD (A1 1) (dC (.int 0)) [‹.int a›,‹.int b›,x] = some true:=by
    show (neD (.int b) (.int 0)).bind M4 = some true
    rw [af3]
    have : ((b : Int) == 0) = false:=by simp; omega
    rw [this]; rfl
   have e2 : ab7 (.int a) (.int b) = some (.int ((a % b : Nat) : Int)):=by
    show (if (0 : Int) < (b : Int) then some (PyData.int ((a : Int) % (b : Int))) else none) = _
    rw [if_pos (by omega)]
    simp
   have e3 : A6 (B4 2 (A5 ab7 (A1 0) (A1 1))) (A6 (B4 0 (A1 1)) (B4 1 (A1 2))) [‹.int a›,‹.int b›,x] = some (.nx [‹.int b›,‹.int ((a % b : Nat) : Int)›,‹.int ((a % b : Nat) : Int)›]):=by
    show ((((ab7 (.int a) (.int b))).map fun d=>Fl.nx [‹.int a›,‹.int b›,some (.val d)]).bind _) = _
    rw [e2]
    rfl
   rw [bC9 e1 e3,h,Nat.gcd_comm b,Nat.gcd_comm a b,← Nat.gcd_rec]
theorem cw9 (a b : Nat) : Q0 [.int a,.int b] = some (.int (Nat.gcd a b)):=by
 obtain ⟨n,x',h⟩:=cd3 b a none
 show ((ah2 _ _ [‹.int a›,‹.int b›,none]).bind _).bind _ = _
 rw [aU4 h]
 rfl
theorem bK4 : ∀ (a b : Nat) (t u : D),∃ n,o6 (tB2 gtI (A1 2) (dC (.int 0))) (bV0 2 3 (A0 (A5 ab7 (A1 3) (A1 2)) (A0 (A1 2) A3))) n [some (.val t),some (.val u),‹.int a›,‹.int b›]
  = some (.nx [some (.val t),some (.val u),‹.int 0›,‹.int (Nat.gcd a b)›]):=by
 intro a
 induction a using Nat.strongRecOn with
 | _ a ih =>
  intro b t u
  by_cases ha : a = 0
  ·subst ha
   refine ⟨1,?_⟩
   rw [Nat.gcd_zero_left]
   rfl
  ·obtain ⟨n,h⟩:=ih (b % a) (Nat.mod_lt _ (Nat.pos_of_ne_zero ha)) a t u
   refine ⟨n + 1,?_⟩
   have e1 : tB2 gtI (A1 2) (dC (.int 0)) [some (.val t),some (.val u),‹.int a›,‹.int b›] = some true:=by
    show some (decide ((0 : Int) < (a : Int))) = some true
    rw [decide_eq_true (by omega)]
   have e2 : ab7 (.int b) (.int a) = some (.int ((b % a : Nat) : Int)):=by
    show (if (0 : Int) < (a : Int) then some (PyData.int ((b : Int) % (a : Int))) else none) = _
    rw [if_pos (by omega)]
    simp
   have e3 : bV0 2 3 (A0 (A5 ab7 (A1 3) (A1 2)) (A0 (A1 2) A3)) [some (.val t),some (.val u),‹.int a›,‹.int b›] = some (.nx [some (.val t),some (.val u),‹.int ((b % a : Nat) : Int)›,‹.int a›]):=by
    show ((ab7 (.int b) (.int a)).bind fun d=>(some [PyData.int (a : Int)]).map fun ds=>d :: ds).bind _ = _
    rw [e2]
    rfl
   rw [bC9 e1 e3,h,← Nat.gcd_rec]
def fr (r : Rat) : D:=.tuple [.int r.num,.int r.den]
theorem O5 {i : Int} {k : Nat} (h : i.natAbs < 2 ^ k) (hk : k ≤ 8000) : L0 i:=Nat.lt_of_lt_of_le h (Nat.pow_le_pow_right (by decide) hk)
theorem bk9 (a b : Nat) (hb : 0 < b) : fr (mkRat a b) = .tuple [.int ((a / Nat.gcd a b : Nat) : Int),.int ((b / Nat.gcd a b : Nat) : Int)]:=by
 unfold fr
 rw [Rat.num_mkRat,Rat.den_mkRat,if_neg (by omega),if_neg (by omega)]
 have e : b.gcd (a : Int).natAbs = Nat.gcd a b:=by rw [Int.natAbs_natCast,Nat.gcd_comm]
 rw [e]
 simp
theorem bD5 (a b x k : Nat) (hb : 0 < b) (hk : b < 2 ^ k) (hk8 : k ≤ 8000) : av7 (.int x) (.int (Nat.gcd a b)) = some (.int ((x / Nat.gcd a b : Nat) : Int)):=by
 have g0 : 0 < Nat.gcd a b:=Nat.gcd_pos_of_pos_right _ hb
 have gs : L0 (Nat.gcd a b : Nat):=O5 (k:=k) (by rw [Int.natAbs_natCast]; exact Nat.lt_of_le_of_lt (Nat.le_of_dvd hb (Nat.gcd_dvd_right a b)) hk) hk8
 show (if (0 : Int) < ((Nat.gcd a b : Nat) : Int) ∧ L0 (Nat.gcd a b : Nat) then some (PyData.int ((x : Int) / ((Nat.gcd a b : Nat) : Int))) else none) = _
 rw [if_pos ⟨by omega,gs⟩]
 simp
theorem bg6 (a b k : Nat) (hb : 0 < b) (hk : b < 2 ^ k) (hk8 : k ≤ 8000) : V8 [.int a,.int b] = some (fr (mkRat a b)):=by
 have d:=fun x=>bD5 a b x k hb hk hk8
 have e : x9 [‹.int a›,‹.int b›,none] = some (.rt (fr (mkRat a b))):=by
  rw [bk9 a b hb]
  simp only [x9,A6,B4,A2,A0,A3,A1,xg0,xg1,xbs,xms,cw9,xw1,xw0,A9,F6,A5,d]
 show (x9 [‹.int a›,‹.int b›,none]).bind _ = _
 rw [e]; rfl
theorem bz6 (a b k : Nat) (hb : 0 < b) (hk : b < 2 ^ k) (hk8 : k ≤ 8000) : ab3 [.int a,.int b] = some (fr (mkRat a b)):=by
 have d:=fun x=>bD5 a b x k hb hk hk8
 obtain ⟨n,h⟩:=bK4 a b (.int a) (.int b)
 have e : aA1 [‹.int a›,‹.int b›,none,none] = some (.rt (fr (mkRat a b))):=by
  rw [bk9 a b hb]
  simp only [aA1,A6,B4,A2,A0,A3,A1,xg0,xg1,xbs,xms,xw1,xw0,A9,F6,A5,d,aU4 h]
 show (aA1 [‹.int a›,‹.int b›,none,none]).bind _ = _
 rw [e]; rfl
structure Bd (k : Nat) (r : Rat) : Prop where
 nn : 0 ≤ r
 num : r.num.natAbs < 2 ^ k
 den : r.den < 2 ^ k
theorem Bd.mono {j k : Nat} {r : Rat} (h : Bd j r) (l : j ≤ k) : Bd k r:=⟨h.nn,Nat.lt_of_lt_of_le h.num (Nat.pow_le_pow_right (by decide) l),Nat.lt_of_lt_of_le h.den (Nat.pow_le_pow_right (by decide) l)⟩
theorem Bd.nat {k : Nat} {r : Rat} (h : Bd k r) : r.num = (r.num.natAbs : Int):=by
 have:=Rat.num_nonneg.mpr h.nn
 omega
theorem bZ3 (a b : Nat) : 0 ≤ mkRat (a : Int) b:=by
 rw [← Rat.num_nonneg,Rat.num_mkRat]
 split
 ·exact Int.le_refl _
 ·exact Int.ediv_nonneg (by omega) (by omega)
theorem Bd.of {a b k : Nat} (hb : 0 < b) (h1 : a < 2 ^ k) (h2 : b < 2 ^ k) : Bd k (mkRat a b):=by
 refine ⟨bZ3 a b,?_,?_⟩
 ·rw [Rat.num_mkRat,if_neg (by omega)]
  rw [show ((a : Int) / ((b.gcd (a : Int).natAbs : Nat) : Int)) = ((a / b.gcd (a : Int).natAbs : Nat) : Int) by simp,Int.natAbs_natCast]
  exact Nat.lt_of_le_of_lt (Nat.div_le_self _ _) h1
 ·rw [Rat.den_mkRat,if_neg (by omega)]
  exact Nat.lt_of_le_of_lt (Nat.div_le_self _ _) h2
theorem Q1 {a b j k : Nat} (h1 : a < 2 ^ j) (h2 : b < 2 ^ k) : a * b < 2 ^ (j + k):=by
 rw [Nat.pow_add]
 exact Nat.mul_lt_mul'' h1 h2
theorem ba1 {j k : Nat} {r s : Rat} (hr : Bd j r) (hs : Bd k s) : r * s = mkRat ((r.num.natAbs * s.num.natAbs : Nat) : Int) (r.den * s.den):=by
 rw [Rat.mul_def,Rat.normalize_eq_mkRat,Int.natCast_mul,← hr.nat,← hs.nat]
theorem bA6 {j k : Nat} {r s : Rat} (hr : Bd j r) (hs : Bd k s) : r + s = mkRat ((r.num.natAbs * s.den + s.num.natAbs * r.den : Nat) : Int) (r.den * s.den):=by
 rw [Rat.add_def,Rat.normalize_eq_mkRat,Int.natCast_add,Int.natCast_mul,Int.natCast_mul,← hr.nat,← hs.nat]
theorem bU4 {j k : Nat} {r s : Rat} (hr : Bd j r) (hs : Bd k s) (l : s ≤ r) : s.num.natAbs * r.den ≤ r.num.natAbs * s.den:=by
 have:=(Rat.le_iff s r).mp l
 rw [hr.nat,hs.nat] at this
 exact_mod_cast this
theorem bA5 {j k : Nat} {r s : Rat} (hr : Bd j r) (hs : Bd k s) (l : s ≤ r) : r - s = mkRat ((r.num.natAbs * s.den - s.num.natAbs * r.den : Nat) : Int) (r.den * s.den):=by
 rw [Rat.sub_def,Rat.normalize_eq_mkRat,Int.ofNat_sub (bU4 hr hs l),Int.natCast_mul,Int.natCast_mul,← hr.nat,← hs.nat]
theorem M8 (r : Rat) : 0 < r.den:=Nat.pos_of_ne_zero r.den_nz
theorem Bd.mul {j k : Nat} {r s : Rat} (hr : Bd j r) (hs : Bd k s) : Bd (j + k) (r * s):=by
 rw [ba1 hr hs]
 exact Bd.of (Nat.mul_pos (M8 r) (M8 s)) (Q1 hr.num hs.num) (Q1 hr.den hs.den)
theorem Bd.add {j k : Nat} {r s : Rat} (hr : Bd j r) (hs : Bd k s) : Bd (j + k + 1) (r + s):=by
 rw [bA6 hr hs]
 have h1:=Q1 hr.num hs.den
 have h2:=Q1 hs.num hr.den
 have h3:=Q1 hr.den hs.den
 rw [Nat.add_comm k j] at h2
 exact Bd.of (Nat.mul_pos (M8 r) (M8 s)) (by rw [Nat.pow_succ]; omega) (by rw [Nat.pow_succ]; omega)
theorem Bd.sub {j k : Nat} {r s : Rat} (hr : Bd j r) (hs : Bd k s) (l : s ≤ r) : Bd (j + k) (r - s):=by
 rw [bA5 hr hs l]
 have h1:=Q1 hr.num hs.den
 have h3:=Q1 hr.den hs.den
 exact Bd.of (Nat.mul_pos (M8 r) (M8 s)) (by omega) (by omega)
theorem Bd.one : Bd 1 1:=⟨by decide,by decide,by decide⟩
theorem Bd.zero : Bd 1 0:=⟨by decide,by decide,by decide⟩
theorem cd8 : fr 1 = .tuple [.int 1,.int 1]:=rfl
theorem Bd.sn {k : Nat} {r : Rat} (h : Bd k r) (hk : k ≤ 8000) : L0 r.num:=O5 h.num hk
theorem Bd.sd {k : Nat} {r : Rat} (h : Bd k r) (hk : k ≤ 8000) : L0 r.den:=O5 (k:=k) (by rw [Int.natAbs_natCast]; exact h.den) hk
theorem W1 {i j : Int} (h1 : L0 i) (h2 : L0 j) : o5 (.int i) (.int j) = some (.int (i * j)):=by
 show (if L0 i ∧ L0 j then some (PyData.int (i * j)) else none) = _
 rw [if_pos ⟨h1,h2⟩]
theorem f8 (i j : Int) : af6 (.int i) (.int j) = some (.int (i + j)):=rfl
theorem f7 (i j : Int) : aG7 (.int i) (.int j) = some (.int (i - j)):=rfl
theorem aj9 (i j : Int) : leI (.int i) (.int j) = some (.bool (decide (i ≤ j))):=rfl
theorem ak2 (a b : D) : L2.atI [a,b] 0 = some a:=rfl
theorem ak1 (a b : D) : L2.atI [a,b] 1 = some b:=rfl
theorem ix0 {ρ : Rho} {i : Nat} {r : Rat} (h : ρ[i]? = some (‹fr r›)) : dIx (A8 i) (dC (.int 0)) ρ = some (.int r.num):=by
 simp only [dIx,A8,h,fr,dC,xbs,ak2]
theorem ix1 {ρ : Rho} {i : Nat} {r : Rat} (h : ρ[i]? = some (‹fr r›)) : dIx (A8 i) (dC (.int 1)) ρ = some (.int r.den):=by
 simp only [dIx,A8,h,fr,dC,xbs,ak1]
theorem v0 (x : Option B) (l : Rho) : (x :: l)[0]? = some x:=rfl
theorem v1 (y x : Option B) (l : Rho) : (y :: x :: l)[1]? = some x:=rfl
theorem O3 {j k : Nat} {r s : Rat} (hr : Bd j r) (hs : Bd k s) (l : j + k ≤ 8000) : U2 [fr r,fr s] = some (fr (r * s)):=by
 have e : aK8 [‹fr r›,‹fr s›] = some (.rt (fr (r * s))):=by
  simp only [aK8,A9,A2,A0,A3,A5,ix0 (v0 _ _),ix1 (v0 _ _),ix0 (v1 _ _ _),ix1 (v1 _ _ _),xbs,xms,W1 (hr.sn (by omega)) (hs.sn (by omega)),W1 (hr.sd (by omega)) (hs.sd (by omega))]
  have:=bg6 (r.num.natAbs * s.num.natAbs) (r.den * s.den) (j + k) (Nat.mul_pos (M8 r) (M8 s)) (Q1 hr.den hs.den) l
  rw [← ba1 hr hs,Int.natCast_mul,Int.natCast_mul,← hr.nat,← hs.nat] at this
  rw [this]; rfl
 show (aK8 [‹fr r›,‹fr s›]).bind _ = _
 rw [e]; rfl
theorem T5 {j k : Nat} {r s : Rat} (hr : Bd j r) (hs : Bd k s) (l : j + k ≤ 8000) : U3 [fr r,fr s] = some (fr (r + s)):=by
 have e : aK9 [‹fr r›,‹fr s›] = some (.rt (fr (r + s))):=by
  simp only [aK9,A9,A2,A0,A3,A5,ix0 (v0 _ _),ix1 (v0 _ _),ix0 (v1 _ _ _),ix1 (v1 _ _ _),xbs,xms,W1 (hr.sn (by omega)) (hs.sd (by omega)),W1 (hs.sn (by omega)) (hr.sd (by omega)),W1 (hr.sd (by omega)) (hs.sd (by omega)),f8]
  have:=bg6 (r.num.natAbs * s.den + s.num.natAbs * r.den) (r.den * s.den) (j + k) (Nat.mul_pos (M8 r) (M8 s)) (Q1 hr.den hs.den) l
  rw [← bA6 hr hs,Int.natCast_add,Int.natCast_mul,Int.natCast_mul,Int.natCast_mul,← hr.nat,← hs.nat] at this
  rw [this]; rfl
 show (aK9 [‹fr r›,‹fr s›]).bind _ = _
 rw [e]; rfl
theorem T9 {j k : Nat} {r s : Rat} (hr : Bd j r) (hs : Bd k s) (l : j + k ≤ 8000) (hl : s ≤ r) : T3 [fr r,fr s] = some (fr (r - s)):=by
 have e : aj1 [‹fr r›,‹fr s›] = some (.rt (fr (r - s))):=by
  simp only [aj1,A9,A2,A0,A3,A5,ix0 (v0 _ _),ix1 (v0 _ _),ix0 (v1 _ _ _),ix1 (v1 _ _ _),xbs,xms,W1 (hr.sn (by omega)) (hs.sd (by omega)),W1 (hs.sn (by omega)) (hr.sd (by omega)),W1 (hr.sd (by omega)) (hs.sd (by omega)),f7]
  have:=bg6 (r.num.natAbs * s.den - s.num.natAbs * r.den) (r.den * s.den) (j + k) (Nat.mul_pos (M8 r) (M8 s)) (Q1 hr.den hs.den) l
  rw [← bA5 hr hs hl,Int.ofNat_sub (bU4 hr hs hl),Int.natCast_mul,Int.natCast_mul,Int.natCast_mul,← hr.nat,← hs.nat] at this
  rw [this]; rfl
 show (aj1 [‹fr r›,‹fr s›]).bind _ = _
 rw [e]; rfl
theorem ar3 {k : Nat} {s : Rat} (hs : Bd k s) (l : k + 1 ≤ 8000) (hl : s ≤ 1) : j9 [fr s] = some (fr (1 - s)):=by
 have e : aq9 [‹fr s›] = some (.rt (fr (1 - s))):=by
  simp only [aq9,A9,A2,A0,A3,dC,A1,xg0,xbs,xms]
  rw [← cd8,T9 Bd.one hs (by omega) hl]; rfl
 show (aq9 [‹fr s›]).bind _ = _
 rw [e]; rfl
theorem ad2 {j k : Nat} {r s : Rat} (hr : Bd j r) (hs : Bd k s) (l : j + k ≤ 8000) : c7 [fr r,fr s] = some (.bool (decide (r ≤ s))):=by
 have e : y6 [‹fr r›,‹fr s›] = some (.rt (.bool (decide (r ≤ s)))):=by
  simp only [y6,A9,A2,A0,A3,A5,ix0 (v0 _ _),ix1 (v0 _ _),ix0 (v1 _ _ _),ix1 (v1 _ _ _),xbs,xms,W1 (hr.sn (by omega)) (hs.sd (by omega)),W1 (hs.sn (by omega)) (hr.sd (by omega)),aj9]
  simp only [← Rat.le_iff]
 show (y6 [‹fr r›,‹fr s›]).bind _ = _
 rw [e]; rfl
theorem bp5 {k : Nat} {r : Rat} (hr : Bd k r) (l : k + 1 ≤ 8000) : X1 [fr r] = some (fr (if r ≤ 1 then r else 1)):=by
 have e : n8 [‹fr r›] = some (.rt (fr (if r ≤ 1 then r else 1))):=by
  simp only [n8,A9,as5,K5,A2,A0,A3,dC,A1,xg0,xbs,xms]
  rw [← cd8,ad2 hr Bd.one l]
  by_cases h : r ≤ 1
  ·simp [h,ab5]
  ·simp [h,ab5]
 show (n8 [‹fr r›]).bind _ = _
 rw [e]; rfl
end Sh
set_option exponentiation.threshold 9000
namespace Sh
open PySem G L2
theorem am2 (i j : Int) : ltI (.int i) (.int j) = some (.bool (decide (i < j))):=rfl
theorem am4 (i j : Int) : gtI (.int i) (.int j) = some (.bool (decide (j < i))):=rfl
theorem aH2 {α : Type} (x : α) : List.replicate 0 x = []:=rfl
theorem aH1 {α : Type} (x : α) : List.replicate 1 x = [x]:=rfl
theorem aH0 {α : Type} (x : α) : List.replicate 2 x = [x,x]:=rfl
theorem aj6 (a b c d : D) : aj0 [a,b,c,d] (some 1) none = [b,c,d]:=rfl
theorem an2 (a b c d : D) : L2.atI [a,b,c,d] 0 = some a:=rfl
theorem an1 (a b c d : D) : L2.atI [a,b,c,d] 1 = some b:=rfl
theorem an0 (a b c d : D) : L2.atI [a,b,c,d] 2 = some c:=rfl
theorem am9 (a b c d : D) : L2.atI [a,b,c,d] 3 = some d:=rfl
theorem an5 (a b c : D) : L2.atI [a,b,c] 0 = some a:=rfl
theorem an4 (a b c : D) : L2.atI [a,b,c] 1 = some b:=rfl
theorem an3 (a b c : D) : L2.atI [a,b,c] 2 = some c:=rfl
theorem ae9 {n k : Nat} (h : n < 2 ^ k) (hk : k ≤ 8000) : L0 (n : Int):=O5 (k:=k) (by rw [Int.natAbs_natCast]; exact h) hk
theorem aU9 {i j : Int} (h : 0 < j) : ab7 (.int i) (.int j) = some (.int (i % j)):=by
 show (if (0 : Int) < j then some (PyData.int (i % j)) else none) = _
 rw [if_pos h]
theorem bn3 {i j : Int} (h : 0 < j) (s : L0 j) : av7 (.int i) (.int j) = some (.int (i / j)):=by
 show (if (0 : Int) < j ∧ L0 j then some (PyData.int (i / j)) else none) = _
 rw [if_pos ⟨h,s⟩]
theorem B0 {g : DS} {n : Nat} {ds : List D} {ρ : Rho} {d : D} (h : aA7 n ds = ρ) (e : g ρ = some (.rt d)) : C4 g n ds = some d:=by
 unfold C4
 rw [h,e]; rfl
theorem aw3 {j k : Nat} {r s : Rat} (hr : Bd j r) (hs : Bd k s) (l : j + k ≤ 8000) : ar4 [fr r,fr s] = some (fr (r * s)):=by
 refine B0 (ρ:=[‹fr r›,‹fr s›]) rfl ?_
 simp only [aW8,A9,A2,A0,A3,A5,ix0 (v0 _ _),ix1 (v0 _ _),ix0 (v1 _ _ _),ix1 (v1 _ _ _),xbs,xms,W1 (hr.sn (by omega)) (hs.sn (by omega)),W1 (hr.sd (by omega)) (hs.sd (by omega))]
 have:=bz6 (r.num.natAbs * s.num.natAbs) (r.den * s.den) (j + k) (Nat.mul_pos (M8 r) (M8 s)) (Q1 hr.den hs.den) l
 rw [← ba1 hr hs,Int.natCast_mul,Int.natCast_mul,← hr.nat,← hs.nat] at this
 rw [this]; rfl
def aW0 (ns : List Int) (k : Nat) : Int:=if ns.length = 0 then 7 * (k : Int) else ns.getD (k % ns.length) 0 + 6553 * ((k / ns.length : Nat) : Int)
theorem ce4 (ns : List Int) : eqD (.list (ns.map PyData.int)) (.list []) = some (.bool (decide (ns.length = 0))):=by
 have h1 : SeqAt.shaped (.list (ns.map PyData.int)) = true:=by
  have c : ∀ l : List Int,PyData.canLayAll0 (l.map PyData.int) = true:=fun l=>by
   induction l with
   | nil=>rfl
   | cons a r ih=>simp only [xmc,PyData.canLayAll0,PyData.canLay0,ih]; rfl
  have d : ∀ l : List Int,PyData.depthAll (l.map PyData.int) = 0:=fun l=>by
   induction l with
   | nil=>rfl
   | cons a r ih=>simp only [xmc,PyData.depthAll,PyData.depth,ih]; rfl
  unfold SeqAt.shaped
  simp only [PyData.canLay0,c,PyData.depth,d]
  rfl
 unfold eqD
 rw [if_pos ⟨h1,rfl⟩]
 cases ns with
 | nil=>rfl
 | cons a r=>simp [PyData.eqv,PyData.eqvAll]
theorem cR8 (ns : List Int) (k : Nat) (hn : ns.length ≤ 63) (hk : k < 2 ^ 60) : aA5 [.list (ns.map PyData.int),.int k] = some (.int (aW0 ns k)):=by
 refine B0 (ρ:=[‹.list (ns.map PyData.int)›,‹.int k›]) rfl ?_
 have sk : L0 (k : Int):=ae9 hk (by decide)
 by_cases h : ns.length = 0
 ·have e : aW0 ns k = 7 * (k : Int):=by unfold aW0; rw [if_pos h]
  simp only [aQ2,A6,B4,A9,sIf,C1,R0,ab6,A1,dC,F6,P3,A5,A2,as5,R6,dOr,ae4,N2,dIx,ak0,R3,N4,j0,ab9,W4,A8,qE,qN,af0,N0,F9,Z5,A3,A0,K5,tB2,W0,Q9,L4,ab5,M4,B8,U7,ac0,C8,B1,K4,B2,K7,G1,O4,as1,ae3,xg0,xg1,xw0,xw1,xbs,xms,xmc,xmn,xna,xca,f8,f7,aj9,af3,af4,am2,am4,aH2,aH1,aH0,aj6,an2,an1,an0,am9,an5,an4,an3,ak2,ak1,xnt,xnf,xft,if_true,if_false,ite_true,ite_false,ce4,h,decide_true,W1 (i:=7) (O5 (k:=3) (by decide) (by decide)) sk,e]
 ·have e : aW0 ns k = ns.getD (k % ns.length) 0 + 6553 * ((k / ns.length : Nat) : Int):=by unfold aW0; rw [if_neg h]
  have hl : (List.map PyData.int ns).length = ns.length:=List.length_map ..
  have hp : 0 < ns.length:=Nat.pos_of_ne_zero h
  have m1 : ab7 (.int k) (.int ns.length) = some (.int ((k % ns.length : Nat) : Int)):=by rw [aU9 (by omega)]; simp
  have m2 : av7 (.int k) (.int ns.length) = some (.int ((k / ns.length : Nat) : Int)):=by rw [bn3 (by omega) (ae9 (k:=6) (by omega) (by decide))]; simp
  have m3 : L2.atI (List.map PyData.int ns) ((k % ns.length : Nat) : Int) = some (.int (ns.getD (k % ns.length) 0)):=by
   refine L2.ct3 ?_
   have hlt : k % ns.length < ns.length:=Nat.mod_lt _ hp
   rw [List.getElem?_map,List.getElem?_eq_getElem hlt]
   simp [List.getD,hlt]
  have sq : L0 ((k / ns.length : Nat) : Int):=ae9 (k:=60) (Nat.lt_of_le_of_lt (Nat.div_le_self _ _) hk) (by decide)
  simp only [aQ2,A6,B4,A9,sIf,C1,R0,ab6,A1,dC,F6,P3,A5,A2,as5,R6,dOr,ae4,N2,dIx,ak0,R3,N4,j0,ab9,W4,A8,qE,qN,af0,N0,F9,Z5,A3,A0,K5,tB2,W0,Q9,L4,ab5,M4,B8,U7,ac0,C8,B1,K4,B2,K7,G1,O4,as1,ae3,xg0,xg1,xw0,xw1,xbs,xms,xmc,xmn,xna,xca,f8,f7,aj9,af3,af4,am2,am4,aH2,aH1,aH0,aj6,an2,an1,an0,am9,an5,an4,an3,ak2,ak1,xnt,xnf,xft,if_true,if_false,ite_true,ite_false,ce4,h,decide_false,hl,m1,m2,m3,W1 (i:=6553) (O5 (k:=13) (by decide) (by decide)) sq,e]
def az0 (ns : List Int) (k : Nat) (m : Int) : Int :=
 let c:=(aW0 ns k % 2147483563 * 69069 + 104723 * ((k : Int) + 1)) % 2147483563
 let c:=(c * c + c / 3) % 2147483399
 (c * c + c / 7) % 2147483647 / 11 % m
theorem aL5 {i : Int} (h0 : 0 ≤ i) (h : i < 4294967296) : L0 i:=O5 (k:=32) (by omega) (by decide)
theorem aL1 (ns : List Int) (k : Nat) (m : Int) (hn : ns.length ≤ 63) (hk : k < 2 ^ 60) (hm : 0 < m) : A7 [.list (ns.map PyData.int),.int k,.int m] = some (.int (az0 ns k m)):=by
 refine B0 (ρ:=[‹.list (ns.map PyData.int)›,‹.int k›,‹.int m›,none]) rfl ?_
 have c0 : ∀ x : Int,L0 (x % 2147483563):=fun x=>aL5 (by omega) (by omega)
 have c1 : ∀ x : Int,L0 (x % 2147483399):=fun x=>aL5 (by omega) (by omega)
 have sk : L0 ((k : Int) + 1):=O5 (k:=61) (by omega) (by decide)
 have s1 : L0 69069:=O5 (k:=17) (by decide) (by decide)
 have s2 : L0 104723:=O5 (k:=17) (by decide) (by decide)
 have s3 : L0 3:=O5 (k:=2) (by decide) (by decide)
 have s7 : L0 7:=O5 (k:=3) (by decide) (by decide)
 have s11 : L0 11:=O5 (k:=4) (by decide) (by decide)
 simp only [aX2,A6,B4,A9,sIf,C1,R0,ab6,A1,dC,F6,P3,A5,A2,as5,R6,dOr,ae4,N2,dIx,ak0,R3,N4,j0,ab9,W4,A8,qE,qN,af0,N0,F9,Z5,A3,A0,K5,tB2,W0,Q9,L4,ab5,M4,B8,U7,ac0,C8,B1,K4,B2,K7,G1,O4,as1,ae3,xg0,xg1,xw0,xw1,xbs,xms,xmc,xmn,xna,xca,f8,f7,aj9,af3,af4,am2,am4,aH2,aH1,aH0,aj6,an2,an1,an0,am9,an5,an4,an3,ak2,ak1,xnt,xnf,xft,if_true,if_false,ite_true,ite_false,cR8 ns k hn hk,aU9 (show (0 : Int) < 2147483563 by decide),aU9 (show (0 : Int) < 2147483399 by decide),aU9 (show (0 : Int) < 2147483647 by decide),aU9 hm,W1 (c0 _) s1,W1 s2 sk,W1 (c0 _) (c0 _),W1 (c1 _) (c1 _),bn3 (show (0 : Int) < 3 by decide) s3,bn3 (show (0 : Int) < 7 by decide) s7,bn3 (show (0 : Int) < 11 by decide) s11]
 rfl
theorem aJ9 (ns : List Int) (k : Nat) (m : Int) (hm : 0 < m) : 0 ≤ az0 ns k m ∧ az0 ns k m < m:=by
 unfold az0
 exact ⟨Int.emod_nonneg _ (by omega),Int.emod_lt_of_pos _ hm⟩
structure IsSh (k : Nat) (r : Rat) : Prop where
 bd : Bd k r
 le : r ≤ 1
theorem bK7 {a b : Nat} (hb : 0 < b) (h : a ≤ b) : mkRat (a : Int) b ≤ 1:=by
 rw [Rat.le_iff,Rat.num_mkRat,Rat.den_mkRat,if_neg (by omega),if_neg (by omega)]
 have e0 : (1 : Rat).num = 1:=rfl
 have e1 : (1 : Rat).den = 1:=rfl
 rw [e0,e1]
 have : a / b.gcd a ≤ b / b.gcd a:=Nat.div_le_div_right h
 simp
 exact_mod_cast this
theorem ar2 (ns : List Int) (at' : Nat) (hn : ns.length ≤ 63) (hk : at' < 2 ^ 40) : ∃ r,P9 [.list (ns.map PyData.int),.int at'] = some (fr r) ∧ IsSh 4 r:=by
 obtain ⟨u0,u1⟩:=aJ9 ns at' 12 (by decide)
 obtain ⟨u,hu⟩ : ∃ u : Nat,(1 : Int) + az0 ns at' 12 = u ∧ 0 < u ∧ u ≤ 12:=⟨(1 + az0 ns at' 12).toNat,by omega,by omega,by omega⟩
 obtain ⟨t0,t1⟩:=aJ9 ns (at' + 1) ((u : Int) + 1) (by omega)
 obtain ⟨t,ht⟩ : ∃ t : Nat,az0 ns (at' + 1) ((u : Int) + 1) = t ∧ t ≤ u:=⟨(az0 ns (at' + 1) ((u : Int) + 1)).toNat,by omega,by omega⟩
 obtain ⟨p0,p1⟩:=aJ9 ns (at' + 2) 5 (by decide)
 have hs : IsSh 4 (mkRat (t : Int) u):=⟨Bd.of (by omega) (by omega) (by omega),bK7 (by omega) (by omega)⟩
 have e1:=aL1 ns at' 12 hn (by omega) (by decide)
 have e2:=aL1 ns (at' + 1) ((u : Int) + 1) hn (by omega) (by omega)
 have e3:=aL1 ns (at' + 2) 5 hn (by omega) (by decide)
 have e4:=bz6 t u 4 (by omega) (by omega) (by decide)
 have c1 : ((at' : Int) + 1) = ((at' + 1 : Nat) : Int):=by omega
 have c2 : ((at' : Int) + 2) = ((at' + 2 : Nat) : Int):=by omega
 rw [ht.1] at e2
 have pick : ∀ (j : Int),0 ≤ j → j < 5 → ∃ r,L2.atI [fr (mkRat (t : Int) u),fr (mkRat (t : Int) u),fr (mkRat (t : Int) u),.tuple [.int 0,.int 1],.tuple [.int 1,.int 1]] j = some (fr r) ∧ IsSh 4 r:=fun j h0 h5=>by
  have : j = 0 ∨ j = 1 ∨ j = 2 ∨ j = 3 ∨ j = 4:=by omega
  rcases this with rfl | rfl | rfl | rfl | rfl
  ·exact ⟨_,rfl,hs⟩
  ·exact ⟨_,rfl,hs⟩
  ·exact ⟨_,rfl,hs⟩
  ·exact ⟨0,rfl,Bd.zero.mono (by decide),by decide⟩
  ·exact ⟨1,rfl,Bd.one.mono (by decide),by decide⟩
 obtain ⟨r,hr1,hr2⟩:=pick _ p0 p1
 refine ⟨r,B0 (ρ:=[‹.list (ns.map PyData.int)›,‹.int at'›,none,none]) rfl ?_,hr2⟩
 simp only [aW9,A6,B4,A9,sIf,C1,R0,ab6,A1,dC,F6,P3,A5,A2,as5,R6,dOr,ae4,N2,dIx,ak0,R3,N4,j0,ab9,W4,A8,qE,qN,af0,N0,F9,Z5,A3,A0,K5,tB2,W0,Q9,L4,ab5,M4,B8,U7,ac0,C8,B1,K4,B2,K7,G1,O4,as1,ae3,xg0,xg1,xw0,xw1,xbs,xms,xmc,xmn,xna,xca,f8,f7,aj9,af3,af4,am2,am4,aH2,aH1,aH0,aj6,an2,an1,an0,am9,an5,an4,an3,ak2,ak1,xnt,xnf,xft,if_true,if_false,ite_true,ite_false,e1,hu.1,c1,c2,e2,e3,e4,hr1]
end Sh
namespace Sh
open PySem G L2
def sp (c x y z : Rat) : D:=.tuple [fr c,fr x,fr y,fr z]
structure Spot (k : Nat) (c x y z : Rat) : Prop where
 hc : IsSh k c
 hx : Bd k x
 hy : Bd k y
 hz : Bd k z
 xc : x ≤ c
 yc : y ≤ c
 zc : z ≤ c
theorem IsSh.mono {j k : Nat} {r : Rat} (h : IsSh j r) (l : j ≤ k) : IsSh k r:=⟨h.bd.mono l,h.le⟩
theorem Spot.mono {j k : Nat} {c x y z : Rat} (h : Spot j c x y z) (l : j ≤ k) : Spot k c x y z:=⟨h.hc.mono l,h.hx.mono l,h.hy.mono l,h.hz.mono l,h.xc,h.yc,h.zc⟩
theorem ac3 {c r : Rat} (hc : 0 ≤ c) (hr : r ≤ 1) : c * r ≤ c:=by
 have:=Rat.mul_le_mul_of_nonneg_right hr hc
 grind
theorem db2 : ae1 0 3 = [.int 0,.int 1,.int 2]:=rfl
theorem cR7 (ns : List Int) (k : Nat) (hn : ns.length ≤ 63) (hk : k < 2 ^ 30) : ∃ c x y z,V0 [.list (ns.map PyData.int),.int k] = some (sp c x y z) ∧ Spot 8 c x y z:=by
 obtain ⟨c,ec,hc⟩:=ar2 ns k hn (by omega)
 obtain ⟨a0,e0,h0⟩:=ar2 ns (k + 3) hn (by omega)
 obtain ⟨a1,e1,h1⟩:=ar2 ns (k + 6) hn (by omega)
 obtain ⟨a2,e2,h2⟩:=ar2 ns (k + 9) hn (by omega)
 refine ⟨c,c * a0,c * a1,c * a2,?_,⟨hc.mono (by decide),hc.bd.mul h0.bd,hc.bd.mul h1.bd,hc.bd.mul h2.bd,ac3 hc.bd.nn h0.le,ac3 hc.bd.nn h1.le,ac3 hc.bd.nn h2.le⟩⟩
 refine B0 (ρ:=[‹.list (ns.map PyData.int)›,‹.int k›,none]) rfl ?_
 have i0 : (k : Int) + 3 + 3 * 0 = ((k + 3 : Nat) : Int):=by omega
 have i1 : (k : Int) + 3 + 3 * 1 = ((k + 6 : Nat) : Int):=by omega
 have i2 : (k : Int) + 3 + 3 * 2 = ((k + 9 : Nat) : Int):=by omega
 have s0 : L0 0:=O5 (k:=2) (by decide) (by decide)
 have s1 : L0 1:=O5 (k:=2) (by decide) (by decide)
 have s2 : L0 2:=O5 (k:=2) (by decide) (by decide)
 have s3 : L0 3:=O5 (k:=2) (by decide) (by decide)
 have m0:=W1 s3 s0
 have m1:=W1 s3 s1
 have m2:=W1 s3 s2
 have r3 : ((-(2 ^ 62) : Int) ≤ 3 ∧ (3 : Int) < 2 ^ 62):=by decide
 have l3 : ([PyData.int 0,.int 1,.int 2] : List D).length ≤ 16777216:=by decide
 have ct : ∀ a b c d : D,af6 (.tuple [a]) (.tuple [b,c,d]) = some (.tuple [a,b,c,d]):=fun a b c d=>rfl
 simp only [bp3,A6,B4,A9,sIf,C1,R0,ab6,A1,dC,F6,P3,A5,A2,as5,R6,dOr,ae4,N2,dIx,ak0,R3,N4,j0,ab9,W4,A8,qE,qN,af0,N0,F9,Z5,A3,A0,K5,tB2,W0,Q9,L4,ab5,M4,B8,U7,ac0,C8,B1,K4,B2,K7,G1,O4,as1,ae3,xg0,xg1,xw0,xw1,xbs,xms,xmc,xmn,xna,xca,f8,f7,aj9,af3,af4,am2,am4,aH2,aH1,aH0,aj6,an2,an1,an0,am9,an5,an4,an3,ak2,ak1,xnt,xnf,xft,if_true,if_false,ite_true,ite_false,ec,r3,and_self,db2,l3,m0,m1,m2,i0,i1,i2,e0,e1,e2,aw3 hc.bd h0.bd (by decide),aw3 hc.bd h1.bd (by decide),aw3 hc.bd h2.bd (by decide),ct,sp]
theorem cr1 (i : Int) : aj3 [.int i] = some (.bool true):=rfl
theorem cc0 (i : Int) : S0 [.int i] = some (.bool true):=rfl
theorem aV2 (r : Rat) : SeqAt.shaped (fr r) = true:=rfl
theorem ce5 (r s : Rat) : eqD (fr r) (fr s) = some (.bool (decide (r = s))):=by
 unfold eqD
 rw [if_pos ⟨aV2 r,aV2 s⟩]
 congr 2
 show ((r.num == s.num) && (((r.den : Int) == (s.den : Int)) && true)) = _
 rw [Bool.eq_iff_iff]
 simp only [Bool.and_true,Bool.and_eq_true,beq_iff_eq,decide_eq_true_eq]
 constructor
 ·intro h; exact Rat.ext h.1 (by exact_mod_cast h.2)
 ·intro h; subst h; exact ⟨rfl,rfl⟩
theorem bk8 {k : Nat} {r : Rat} (h : Bd k r) : mkRat ((r.num.natAbs : Nat) : Int) r.den = r:=by
 rw [← h.nat]; exact Rat.mkRat_self r
theorem aN4 {k : Nat} {r : Rat} (h : IsSh k r) : r.num ≤ r.den:=by
 have:=(Rat.le_iff r 1).mp h.le
 have e0 : (1 : Rat).num = 1:=rfl
 have e1 : (1 : Rat).den = 1:=rfl
 rw [e0,e1] at this
 omega
theorem cW8 (a b : D) : ((([a,b] : List D).length : Nat) : Int) = 2:=rfl
theorem dc2 (a b c d : D) : ((([a,b,c,d] : List D).length : Nat) : Int) = 4:=rfl
theorem bb2 : ((2 : Int) == 2) = true:=rfl
theorem bb4 : ((4 : Int) == 4) = true:=rfl
theorem cR6 {k : Nat} {r : Rat} (h : IsSh k r) (hk : k ≤ 8000) : bg7 [fr r] = some (.bool true):=by
 have n0:=Rat.num_nonneg.mpr h.bd.nn
 have nd:=aN4 h
 have d0 : (0 : Int) < r.den:=by have:=M8 r; omega
 have e:=bz6 r.num.natAbs r.den k (M8 r) h.bd.den hk
 rw [bk8 h.bd,← h.bd.nat] at e
 have e2:=ce5 r r
 refine B0 (ρ:=[‹fr r›]) rfl ?_
 have e' : ab3 [PyData.int r.num,PyData.int r.den] = some (.tuple [.int r.num,.int r.den]):=e
 have e2' : eqD (.tuple [.int r.num,.int r.den]) (.tuple [.int r.num,.int r.den]) = some (.bool true):=by
  have:=e2
  simp only [decide_true] at this
  exact this
 simp only [aA2,fr,A6,B4,A9,sIf,C1,R0,ab6,A1,dC,F6,P3,A5,A2,as5,R6,dOr,ae4,N2,dIx,ak0,R3,N4,j0,ab9,W4,A8,qE,qN,af0,N0,F9,Z5,A3,A0,K5,tB2,W0,Q9,L4,ab5,M4,B8,U7,ac0,C8,B1,K4,B2,K7,G1,O4,as1,ae3,xg0,xg1,xw0,xw1,xbs,xms,xmc,xmn,xna,xca,f8,f7,aj9,af3,af4,am2,am4,aH2,aH1,aH0,aj6,an2,an1,an0,am9,an5,an4,an3,ak2,ak1,xnt,xnf,xft,if_true,if_false,ite_true,ite_false,cW8,bb2,cr1,d0,decide_true,n0,nd,e',e2']
theorem j7 {k : Nat} {r : Rat} (h : IsSh k r) (hk : k ≤ 8000) : Y7 [fr r] = some (.bool true):=by
 have n0:=Rat.num_nonneg.mpr h.bd.nn
 have nd:=aN4 h
 have d0 : (0 : Int) < r.den:=by have:=M8 r; omega
 have e:=cw9 r.num.natAbs r.den
 rw [← h.bd.nat,show Nat.gcd r.num.natAbs r.den = 1 from r.reduced] at e
 have e' : Q0 [PyData.int r.num,PyData.int r.den] = some (.int 1):=e
 have b1 : ((1 : Int) == 1) = true:=rfl
 refine B0 (ρ:=[‹fr r›,none,none]) rfl ?_
 simp only [aQ5,fr,A6,B4,A9,sIf,C1,R0,ab6,A1,dC,F6,P3,A5,A2,as5,R6,dOr,ae4,N2,dIx,ak0,R3,N4,j0,ab9,W4,A8,qE,qN,af0,N0,F9,Z5,A3,A0,K5,tB2,W0,Q9,L4,ab5,M4,B8,U7,ac0,C8,B1,K4,B2,K7,G1,O4,as1,ae3,xg0,xg1,xw0,xw1,xbs,xms,xmc,xmn,xna,xca,f8,f7,aj9,af3,af4,am2,am4,aH2,aH1,aH0,aj6,an2,an1,an0,am9,an5,an4,an3,ak2,ak1,xnt,xnf,xft,if_true,if_false,ite_true,ite_false,cW8,bb2,cc0,d0,decide_true,n0,nd,e',b1]
theorem cZ2 : bf9 [.bool true,.bool true,.bool true] = some true:=rfl
theorem cZ1 : bf9 [.bool true,.bool true,.bool true,.bool true] = some true:=rfl
theorem bR5 {k : Nat} {c x y z : Rat} (S : Spot k c x y z) (hk : k + k ≤ 8000) : ag2 [sp c x y z] = some (.bool true):=by
 have hk1 : k ≤ 8000:=by omega
 have lx : IsSh k x:=⟨S.hx,Rat.le_trans S.xc S.hc.le⟩
 have ly : IsSh k y:=⟨S.hy,Rat.le_trans S.yc S.hc.le⟩
 have lz : IsSh k z:=⟨S.hz,Rat.le_trans S.zc S.hc.le⟩
 refine B0 (ρ:=[‹sp c x y z›]) rfl ?_
 have f4 : ([fr c,fr x,fr y,fr z] : List D).length ≤ 16777216:=by show 4 ≤ 16777216; decide
 have f3 : ([fr x,fr y,fr z] : List D).length ≤ 16777216:=by show 3 ≤ 16777216; decide
 simp only [aX3,sp,A6,B4,A9,sIf,C1,R0,ab6,A1,dC,F6,P3,A5,A2,as5,R6,dOr,ae4,N2,dIx,ak0,R3,N4,j0,ab9,W4,A8,qE,qN,af0,N0,F9,Z5,A3,A0,K5,tB2,W0,Q9,L4,ab5,M4,B8,U7,ac0,C8,B1,K4,B2,K7,G1,O4,as1,ae3,xg0,xg1,xw0,xw1,xbs,xms,xmc,xmn,xna,xca,f8,f7,aj9,af3,af4,am2,am4,aH2,aH1,aH0,aj6,an2,an1,an0,am9,an5,an4,an3,ak2,ak1,xnt,xnf,xft,if_true,if_false,ite_true,ite_false,dc2,bb4,f4,f3,j7 S.hc hk1,j7 lx hk1,j7 ly hk1,j7 lz hk1,cZ2,cZ1,ad2 S.hx S.hc.bd hk,ad2 S.hy S.hc.bd hk,ad2 S.hz S.hc.bd hk,S.xc,S.yc,S.zc,decide_true]
end Sh
local macro_rules
  | `(tactic| wp_walk using evA)=>`(tactic| simp only [G.A6,G.B4,G.A9,G.sIf,G.C1,G.R0,G.ab6,G.A1,G.dC,G.F6,G.P3,G.A5,G.A2,G.as5,G.R6,G.dOr,G.ae4,G.N2,G.dIx,G.ak0,G.R3,G.N4,G.j0,G.ab9,G.W4,G.A8,G.qE,G.qN,G.af0,G.N0,G.F9,G.Z5,G.A3,G.A0,G.K5,G.tB2,G.W0,G.Q9,G.L4,G.ab5,G.M4,G.B8,G.U7,G.ac0,G.C8,G.B1,G.K4,G.B2,G.K7,G.G1,G.O4,G.as1,G.ae3,G.xg0,G.xg1,G.xw0,G.xw1,G.xbs,G.xms,G.xmc,G.xmn,G.xna,G.xca,Sh.f8,Sh.f7,Sh.aj9,Sh.af3,Sh.af4,Sh.am2,Sh.am4,Sh.aH2,Sh.aH1,Sh.aH0,Sh.aj6,Sh.an2,Sh.an1,Sh.an0,Sh.am9,Sh.an5,Sh.an4,Sh.an3,Sh.ak2,Sh.ak1,G.xnt,G.xnf,G.xft,if_true,if_false,ite_true,ite_false])
  | `(tactic| wp_walk using evA,$ts,*)=>`(tactic| simp only [G.A6,G.B4,G.A9,G.sIf,G.C1,G.R0,G.ab6,G.A1,G.dC,G.F6,G.P3,G.A5,G.A2,G.as5,G.R6,G.dOr,G.ae4,G.N2,G.dIx,G.ak0,G.R3,G.N4,G.j0,G.ab9,G.W4,G.A8,G.qE,G.qN,G.af0,G.N0,G.F9,G.Z5,G.A3,G.A0,G.K5,G.tB2,G.W0,G.Q9,G.L4,G.ab5,G.M4,G.B8,G.U7,G.ac0,G.C8,G.B1,G.K4,G.B2,G.K7,G.G1,G.O4,G.as1,G.ae3,G.xg0,G.xg1,G.xw0,G.xw1,G.xbs,G.xms,G.xmc,G.xmn,G.xna,G.xca,Sh.f8,Sh.f7,Sh.aj9,Sh.af3,Sh.af4,Sh.am2,Sh.am4,Sh.aH2,Sh.aH1,Sh.aH0,Sh.aj6,Sh.an2,Sh.an1,Sh.an0,Sh.am9,Sh.an5,Sh.an4,Sh.an3,Sh.ak2,Sh.ak1,G.xnt,G.xnf,G.xft,if_true,if_false,ite_true,ite_false,$[$ts:term],*])
local macro_rules
  | `(tactic| wp_walk using evB)=>`(tactic| simp only [G.A6,G.B4,G.A9,G.sIf,G.C1,G.R0,G.ab6,G.A1,G.dC,G.F6,G.P3,G.A5,G.A2,G.R6,G.dOr,G.ae4,G.N2,G.dIx,G.R3,G.N4,G.j0,G.ab9,G.W4,G.A8,G.qE,G.qN,G.af0,G.N0,G.F9,G.Z5,G.A3,G.A0,G.K5,G.tB2,G.W0,G.Q9,G.L4,G.ab5,G.M4,G.C8,G.B1,G.K4,G.B2,G.K7,G.G1,G.ae3,G.xg0,G.xg1,G.xw0,G.xw1,G.xbs,G.xms,G.xmc,G.xmn,G.xna,G.xca,Sh.f8,Sh.f7,Sh.aj9,Sh.af3,Sh.af4,Sh.am2,Sh.am4,Sh.an2,Sh.an1,Sh.an0,Sh.am9,Sh.an5,Sh.an4,Sh.an3,Sh.ak2,Sh.ak1,G.xnt,G.xnf,G.xft,if_true,if_false])
  | `(tactic| wp_walk using evB,$ts,*)=>`(tactic| simp only [G.A6,G.B4,G.A9,G.sIf,G.C1,G.R0,G.ab6,G.A1,G.dC,G.F6,G.P3,G.A5,G.A2,G.R6,G.dOr,G.ae4,G.N2,G.dIx,G.R3,G.N4,G.j0,G.ab9,G.W4,G.A8,G.qE,G.qN,G.af0,G.N0,G.F9,G.Z5,G.A3,G.A0,G.K5,G.tB2,G.W0,G.Q9,G.L4,G.ab5,G.M4,G.C8,G.B1,G.K4,G.B2,G.K7,G.G1,G.ae3,G.xg0,G.xg1,G.xw0,G.xw1,G.xbs,G.xms,G.xmc,G.xmn,G.xna,G.xca,Sh.f8,Sh.f7,Sh.aj9,Sh.af3,Sh.af4,Sh.am2,Sh.am4,Sh.an2,Sh.an1,Sh.an0,Sh.am9,Sh.an5,Sh.an4,Sh.an3,Sh.ak2,Sh.ak1,G.xnt,G.xnf,G.xft,if_true,if_false,$[$ts:term],*])
local macro_rules
  | `(tactic| wp_walk using evC)=>`(tactic| simp only [G.A6,G.B4,G.A9,G.sIf,G.C1,G.R0,G.ab6,G.A1,G.dC,G.F6,G.P3,G.A5,G.A2,G.as5,G.R6,G.dOr,G.ae4,G.N2,G.dIx,G.ak0,G.R3,G.N4,G.j0,G.ab9,G.W4,G.A8,G.qE,G.qN,G.af0,G.N0,G.F9,G.Z5,G.A3,G.A0,G.K5,G.tB2,G.W0,G.Q9,G.L4,G.ab5,G.M4,G.B8,G.U7,G.ac0,G.C8,G.B1,G.K4,G.B2,G.K7,G.G1,G.O4,G.as1,G.ae3,G.xg0,G.xg1,G.xw0,G.xw1,G.xbs,G.xms,G.xmc,G.xmn,G.xna,G.xca,Sh.f8,Sh.f7,Sh.aj9,Sh.af3,Sh.af4,Sh.am2,Sh.am4,Sh.aH2,Sh.aH1,Sh.aH0,Sh.aj6,Sh.an2,Sh.an1,Sh.an0,Sh.am9,Sh.an5,Sh.an4,Sh.an3,Sh.ak2,Sh.ak1,G.xnt,G.xnf,G.xft,if_true,if_false,ite_true,ite_false,G.aw0,G.bq5])
  | `(tactic| wp_walk using evC,$ts,*)=>`(tactic| simp only [G.A6,G.B4,G.A9,G.sIf,G.C1,G.R0,G.ab6,G.A1,G.dC,G.F6,G.P3,G.A5,G.A2,G.as5,G.R6,G.dOr,G.ae4,G.N2,G.dIx,G.ak0,G.R3,G.N4,G.j0,G.ab9,G.W4,G.A8,G.qE,G.qN,G.af0,G.N0,G.F9,G.Z5,G.A3,G.A0,G.K5,G.tB2,G.W0,G.Q9,G.L4,G.ab5,G.M4,G.B8,G.U7,G.ac0,G.C8,G.B1,G.K4,G.B2,G.K7,G.G1,G.O4,G.as1,G.ae3,G.xg0,G.xg1,G.xw0,G.xw1,G.xbs,G.xms,G.xmc,G.xmn,G.xna,G.xca,Sh.f8,Sh.f7,Sh.aj9,Sh.af3,Sh.af4,Sh.am2,Sh.am4,Sh.aH2,Sh.aH1,Sh.aH0,Sh.aj6,Sh.an2,Sh.an1,Sh.an0,Sh.am9,Sh.an5,Sh.an4,Sh.an3,Sh.ak2,Sh.ak1,G.xnt,G.xnf,G.xft,if_true,if_false,ite_true,ite_false,G.aw0,G.bq5,$[$ts:term],*])
local macro_rules
  | `(tactic| wp_walk using evD)=>`(tactic| simp only [G.A6,G.B4,G.A9,G.sIf,G.C1,G.R0,G.ab6,G.A1,G.dC,G.F6,G.P3,G.A5,G.A2,G.R6,G.dOr,G.ae4,G.N2,G.dIx,G.R3,G.N4,G.j0,G.ab9,G.W4,G.A8,G.qE,G.qN,G.af0,G.N0,G.F9,G.Z5,G.A3,G.A0,G.K5,G.tB2,G.W0,G.Q9,G.L4,G.ab5,G.M4,G.C8,G.B1,G.K4,G.B2,G.K7,G.G1,G.ae3,G.xg0,G.xg1,G.xw0,G.xw1,G.xbs,G.xms,G.xmc,G.xmn,G.xna,G.xca,Sh.f8,Sh.f7,Sh.aj9,Sh.af3,Sh.af4,Sh.am2,Sh.am4,Sh.an2,Sh.an1,Sh.an0,Sh.am9,Sh.an5,Sh.an4,Sh.an3,Sh.ak2,Sh.ak1,G.xnt,G.xnf,G.xft,if_true,if_false,G.aw0,G.bq5])
  | `(tactic| wp_walk using evD,$ts,*)=>`(tactic| simp only [G.A6,G.B4,G.A9,G.sIf,G.C1,G.R0,G.ab6,G.A1,G.dC,G.F6,G.P3,G.A5,G.A2,G.R6,G.dOr,G.ae4,G.N2,G.dIx,G.R3,G.N4,G.j0,G.ab9,G.W4,G.A8,G.qE,G.qN,G.af0,G.N0,G.F9,G.Z5,G.A3,G.A0,G.K5,G.tB2,G.W0,G.Q9,G.L4,G.ab5,G.M4,G.C8,G.B1,G.K4,G.B2,G.K7,G.G1,G.ae3,G.xg0,G.xg1,G.xw0,G.xw1,G.xbs,G.xms,G.xmc,G.xmn,G.xna,G.xca,Sh.f8,Sh.f7,Sh.aj9,Sh.af3,Sh.af4,Sh.am2,Sh.am4,Sh.an2,Sh.an1,Sh.an0,Sh.am9,Sh.an5,Sh.an4,Sh.an3,Sh.ak2,Sh.ak1,G.xnt,G.xnf,G.xft,if_true,if_false,G.aw0,G.bq5,$[$ts:term],*])
namespace Sh
open PySem G L2
theorem B3 {x y : Str} {b : Bool} (hx : PyData.canLay0 (.str x) = true) (hy : PyData.canLay0 (.str y) = true) (e : (x == y) = b) : eqD (.str x) (.str y) = some (.bool b):=by
 unfold eqD
 have s : ∀ z : Str,PyData.canLay0 (.str z) = true → SeqAt.shaped (.str z) = true:=fun z h=>by unfold SeqAt.shaped; rw [h]; rfl
 rw [if_pos ⟨s x hx,s y hy⟩]
 show some (PyData.bool (x == y)) = _
 rw [e]
theorem Z3 {x y : Str} {b : Bool} (hx : PyData.canLay0 (.str x) = true) (hy : PyData.canLay0 (.str y) = true) (e : (!(x == y)) = b) : neD (.str x) (.str y) = some (.bool b):=by
 unfold neD
 have s : ∀ z : Str,PyData.canLay0 (.str z) = true → SeqAt.shaped (.str z) = true:=fun z h=>by unfold SeqAt.shaped; rw [h]; rfl
 rw [if_pos ⟨s x hx,s y hy⟩]
 show some (PyData.bool (!(x == y))) = _
 rw [e]
theorem J3 : eqD (.str "over") (.str "over") = some (.bool true):=B3 (by decide +kernel) (by decide +kernel) (by decide +kernel)
theorem N6 : eqD (.str "over") (.str "multiply") = some (.bool false):=B3 (by decide +kernel) (by decide +kernel) (by decide +kernel)
theorem D7 : eqD (.str "over") (.str "screen") = some (.bool false):=B3 (by decide +kernel) (by decide +kernel) (by decide +kernel)
theorem J2 : eqD (.str "over") (.str "plus") = some (.bool false):=B3 (by decide +kernel) (by decide +kernel) (by decide +kernel)
theorem J4 : eqD (.str "over") (.str "atop") = some (.bool false):=B3 (by decide +kernel) (by decide +kernel) (by decide +kernel)
theorem L7 : eqD (.str "over") (.str "cut") = some (.bool false):=B3 (by decide +kernel) (by decide +kernel) (by decide +kernel)
theorem N8 : eqD (.str "multiply") (.str "over") = some (.bool false):=B3 (by decide +kernel) (by decide +kernel) (by decide +kernel)
theorem T0 : eqD (.str "multiply") (.str "multiply") = some (.bool true):=B3 (by decide +kernel) (by decide +kernel) (by decide +kernel)
theorem J5 : eqD (.str "multiply") (.str "screen") = some (.bool false):=B3 (by decide +kernel) (by decide +kernel) (by decide +kernel)
theorem N7 : eqD (.str "multiply") (.str "plus") = some (.bool false):=B3 (by decide +kernel) (by decide +kernel) (by decide +kernel)
theorem N9 : eqD (.str "multiply") (.str "atop") = some (.bool false):=B3 (by decide +kernel) (by decide +kernel) (by decide +kernel)
theorem Q3 : eqD (.str "multiply") (.str "cut") = some (.bool false):=B3 (by decide +kernel) (by decide +kernel) (by decide +kernel)
theorem D3 : eqD (.str "screen") (.str "over") = some (.bool false):=B3 (by decide +kernel) (by decide +kernel) (by decide +kernel)
theorem G8 : eqD (.str "screen") (.str "multiply") = some (.bool false):=B3 (by decide +kernel) (by decide +kernel) (by decide +kernel)
theorem C0 : eqD (.str "screen") (.str "screen") = some (.bool true):=B3 (by decide +kernel) (by decide +kernel) (by decide +kernel)
theorem D2 : eqD (.str "screen") (.str "plus") = some (.bool false):=B3 (by decide +kernel) (by decide +kernel) (by decide +kernel)
theorem D4 : eqD (.str "screen") (.str "atop") = some (.bool false):=B3 (by decide +kernel) (by decide +kernel) (by decide +kernel)
theorem E8 : eqD (.str "screen") (.str "cut") = some (.bool false):=B3 (by decide +kernel) (by decide +kernel) (by decide +kernel)
theorem J0 : eqD (.str "plus") (.str "over") = some (.bool false):=B3 (by decide +kernel) (by decide +kernel) (by decide +kernel)
theorem N5 : eqD (.str "plus") (.str "multiply") = some (.bool false):=B3 (by decide +kernel) (by decide +kernel) (by decide +kernel)
theorem D6 : eqD (.str "plus") (.str "screen") = some (.bool false):=B3 (by decide +kernel) (by decide +kernel) (by decide +kernel)
theorem G9 : eqD (.str "plus") (.str "plus") = some (.bool true):=B3 (by decide +kernel) (by decide +kernel) (by decide +kernel)
theorem J1 : eqD (.str "plus") (.str "atop") = some (.bool false):=B3 (by decide +kernel) (by decide +kernel) (by decide +kernel)
theorem L6 : eqD (.str "plus") (.str "cut") = some (.bool false):=B3 (by decide +kernel) (by decide +kernel) (by decide +kernel)
theorem J9 : eqD (.str "atop") (.str "over") = some (.bool false):=B3 (by decide +kernel) (by decide +kernel) (by decide +kernel)
theorem O1 : eqD (.str "atop") (.str "multiply") = some (.bool false):=B3 (by decide +kernel) (by decide +kernel) (by decide +kernel)
theorem D8 : eqD (.str "atop") (.str "screen") = some (.bool false):=B3 (by decide +kernel) (by decide +kernel) (by decide +kernel)
theorem J8 : eqD (.str "atop") (.str "plus") = some (.bool false):=B3 (by decide +kernel) (by decide +kernel) (by decide +kernel)
theorem K0 : eqD (.str "atop") (.str "atop") = some (.bool true):=B3 (by decide +kernel) (by decide +kernel) (by decide +kernel)
theorem M1 : eqD (.str "atop") (.str "cut") = some (.bool false):=B3 (by decide +kernel) (by decide +kernel) (by decide +kernel)
theorem L9 : eqD (.str "cut") (.str "over") = some (.bool false):=B3 (by decide +kernel) (by decide +kernel) (by decide +kernel)
theorem Q5 : eqD (.str "cut") (.str "multiply") = some (.bool false):=B3 (by decide +kernel) (by decide +kernel) (by decide +kernel)
theorem F5 : eqD (.str "cut") (.str "screen") = some (.bool false):=B3 (by decide +kernel) (by decide +kernel) (by decide +kernel)
theorem L8 : eqD (.str "cut") (.str "plus") = some (.bool false):=B3 (by decide +kernel) (by decide +kernel) (by decide +kernel)
theorem M0 : eqD (.str "cut") (.str "atop") = some (.bool false):=B3 (by decide +kernel) (by decide +kernel) (by decide +kernel)
theorem O0 : eqD (.str "cut") (.str "cut") = some (.bool true):=B3 (by decide +kernel) (by decide +kernel) (by decide +kernel)
theorem G6 : eqD (.str "turn") (.str "turn") = some (.bool true):=B3 (by decide +kernel) (by decide +kernel) (by decide +kernel)
theorem G7 : eqD (.str "turn") (.str "grey") = some (.bool false):=B3 (by decide +kernel) (by decide +kernel) (by decide +kernel)
theorem E7 : eqD (.str "turn") (.str "round") = some (.bool false):=B3 (by decide +kernel) (by decide +kernel) (by decide +kernel)
theorem J6 : eqD (.str "grey") (.str "turn") = some (.bool false):=B3 (by decide +kernel) (by decide +kernel) (by decide +kernel)
theorem J7 : eqD (.str "grey") (.str "grey") = some (.bool true):=B3 (by decide +kernel) (by decide +kernel) (by decide +kernel)
theorem F4 : eqD (.str "grey") (.str "round") = some (.bool false):=B3 (by decide +kernel) (by decide +kernel) (by decide +kernel)
theorem E9 : eqD (.str "round") (.str "turn") = some (.bool false):=B3 (by decide +kernel) (by decide +kernel) (by decide +kernel)
theorem F0 : eqD (.str "round") (.str "grey") = some (.bool false):=B3 (by decide +kernel) (by decide +kernel) (by decide +kernel)
theorem D5 : eqD (.str "round") (.str "round") = some (.bool true):=B3 (by decide +kernel) (by decide +kernel) (by decide +kernel)
theorem G2 : neD (.str "turn") (.str "turn") = some (.bool false):=Z3 (by decide +kernel) (by decide +kernel) (by decide +kernel)
theorem G3 : neD (.str "turn") (.str "grey") = some (.bool true):=Z3 (by decide +kernel) (by decide +kernel) (by decide +kernel)
theorem E3 : neD (.str "turn") (.str "round") = some (.bool true):=Z3 (by decide +kernel) (by decide +kernel) (by decide +kernel)
theorem G4 : neD (.str "grey") (.str "turn") = some (.bool true):=Z3 (by decide +kernel) (by decide +kernel) (by decide +kernel)
theorem G5 : neD (.str "grey") (.str "grey") = some (.bool false):=Z3 (by decide +kernel) (by decide +kernel) (by decide +kernel)
theorem E6 : neD (.str "grey") (.str "round") = some (.bool true):=Z3 (by decide +kernel) (by decide +kernel) (by decide +kernel)
theorem E4 : neD (.str "round") (.str "turn") = some (.bool true):=Z3 (by decide +kernel) (by decide +kernel) (by decide +kernel)
theorem E5 : neD (.str "round") (.str "grey") = some (.bool true):=Z3 (by decide +kernel) (by decide +kernel) (by decide +kernel)
theorem D1 : neD (.str "round") (.str "round") = some (.bool false):=Z3 (by decide +kernel) (by decide +kernel) (by decide +kernel)
inductive Man where
 | over | mult | screen | plus | atop | cut
def Man.s : Man → Str
 | .over => "over"
 | .mult => "multiply"
 | .screen => "screen"
 | .plus => "plus"
 | .atop => "atop"
 | .cut => "cut"
def aS8 (r : Rat) : Rat:=if r ≤ 1 then r else 1
def Man.cov : Man → Rat → Rat → Rat
 | .plus,c,d=>aS8 (c + d)
 | .atop,c,d=>d
 | .cut,c,d=>d * (1 - c)
 | _,c,d=>c + d - c * d
def Man.col : Man → Rat → Rat → Rat → Rat → Rat
 | .over,c,d,x,y=>x + y * (1 - c)
 | .mult,c,d,x,y=>x * y + x * (1 - d) + y * (1 - c)
 | .screen,c,d,x,y=>x + y - x * y
 | .plus,c,d,x,y=>aS8 (x + y)
 | .atop,c,d,x,y=>x * d + y * (1 - c)
 | .cut,c,d,x,y=>y * (1 - c)
theorem ao3 {k : Nat} {c : Rat} (h : IsSh k c) : IsSh (k + 1) (1 - c):=by
 have b:=Bd.one.sub h.bd h.le
 rw [Nat.add_comm] at b
 exact ⟨b,by have:=h.bd.nn; grind⟩
theorem aN7 {a b : Rat} (ha : 0 ≤ a) (hb : 0 ≤ b) (ha1 : a ≤ 1) (hb1 : b ≤ 1) : a * b ≤ a + b:=by
 have:=Rat.mul_le_mul_of_nonneg_right ha1 hb
 grind
theorem cg1 {k : Nat} {r : Rat} (h : Bd k r) (hk : 1 ≤ k) : IsSh k (aS8 r):=by
 unfold aS8
 split
 ·rename_i l; exact ⟨h,l⟩
 ·exact ⟨Bd.one.mono hk,Rat.le_refl⟩
theorem ci3 (m : Man) {k : Nat} {c d : Rat} (hc : IsSh k c) (hd : IsSh k d) (l : 6 * k + 4 ≤ 8000) : Y0 [.str m.s,fr c,fr d] = some (fr (m.cov c d)) ∧ Bd (6 * k + 4) (m.cov c d):=by
 have r1:=ar3 hc.bd (by omega) hc.le
 have h1:=(ao3 hc)
 have ml:=aN7 hc.bd.nn hd.bd.nn hc.le hd.le
 have e1:=T5 hc.bd hd.bd (by omega)
 have e2:=O3 hc.bd hd.bd (by omega)
 have b1:=hc.bd.add hd.bd
 have b2:=hc.bd.mul hd.bd
 have e3:=T9 b1 b2 (by omega) ml
 have e4:=bp5 b1 (by omega)
 have e5:=O3 hd.bd h1.bd (by omega)
 cases m with
 | plus=>exact ⟨B0 (ρ:=[‹.str "plus"›,‹fr c›,‹fr d›]) rfl (by wp_walk using evA,P0,J3,N6,D7,J2,J4,L7,N8,T0,J5,N7,N9,Q3,D3,G8,C0,D2,D4,E8,J0,N5,D6,G9,J1,L6,J9,O1,D8,J8,K0,M1,L9,Q5,F5,L8,M0,O0,G6,G7,E7,J6,J7,F4,E9,F0,D5,G2,G3,E3,G4,G5,E6,E4,E5,D1,e1,e4; rfl),(cg1 b1 (by omega)).bd.mono (by omega)⟩
 | atop=>exact ⟨B0 (ρ:=[‹.str "atop"›,‹fr c›,‹fr d›]) rfl (by wp_walk using evA,P0,J3,N6,D7,J2,J4,L7,N8,T0,J5,N7,N9,Q3,D3,G8,C0,D2,D4,E8,J0,N5,D6,G9,J1,L6,J9,O1,D8,J8,K0,M1,L9,Q5,F5,L8,M0,O0,G6,G7,E7,J6,J7,F4,E9,F0,D5,G2,G3,E3,G4,G5,E6,E4,E5,D1; rfl),hd.bd.mono (by omega)⟩
 | cut=>exact ⟨B0 (ρ:=[‹.str "cut"›,‹fr c›,‹fr d›]) rfl (by wp_walk using evA,P0,J3,N6,D7,J2,J4,L7,N8,T0,J5,N7,N9,Q3,D3,G8,C0,D2,D4,E8,J0,N5,D6,G9,J1,L6,J9,O1,D8,J8,K0,M1,L9,Q5,F5,L8,M0,O0,G6,G7,E7,J6,J7,F4,E9,F0,D5,G2,G3,E3,G4,G5,E6,E4,E5,D1,r1,e5; rfl),(hd.bd.mul h1.bd).mono (by omega)⟩
 | over=>exact ⟨B0 (ρ:=[‹.str "over"›,‹fr c›,‹fr d›]) rfl (by wp_walk using evA,P0,J3,N6,D7,J2,J4,L7,N8,T0,J5,N7,N9,Q3,D3,G8,C0,D2,D4,E8,J0,N5,D6,G9,J1,L6,J9,O1,D8,J8,K0,M1,L9,Q5,F5,L8,M0,O0,G6,G7,E7,J6,J7,F4,E9,F0,D5,G2,G3,E3,G4,G5,E6,E4,E5,D1,e1,e2,e3; rfl),(b1.sub b2 ml).mono (by omega)⟩
 | mult=>exact ⟨B0 (ρ:=[‹.str "multiply"›,‹fr c›,‹fr d›]) rfl (by wp_walk using evA,P0,J3,N6,D7,J2,J4,L7,N8,T0,J5,N7,N9,Q3,D3,G8,C0,D2,D4,E8,J0,N5,D6,G9,J1,L6,J9,O1,D8,J8,K0,M1,L9,Q5,F5,L8,M0,O0,G6,G7,E7,J6,J7,F4,E9,F0,D5,G2,G3,E3,G4,G5,E6,E4,E5,D1,e1,e2,e3; rfl),(b1.sub b2 ml).mono (by omega)⟩
 | screen=>exact ⟨B0 (ρ:=[‹.str "screen"›,‹fr c›,‹fr d›]) rfl (by wp_walk using evA,P0,J3,N6,D7,J2,J4,L7,N8,T0,J5,N7,N9,Q3,D3,G8,C0,D2,D4,E8,J0,N5,D6,G9,J1,L6,J9,O1,D8,J8,K0,M1,L9,Q5,F5,L8,M0,O0,G6,G7,E7,J6,J7,F4,E9,F0,D5,G2,G3,E3,G4,G5,E6,E4,E5,D1,e1,e2,e3; rfl),(b1.sub b2 ml).mono (by omega)⟩
theorem aQ8 (m : Man) {k : Nat} {c d x y : Rat} (hc : IsSh k c) (hd : IsSh k d) (hx : IsSh k x) (hy : IsSh k y) (l : 6 * k + 4 ≤ 8000) : V9 [.str m.s,fr c,fr d,fr x,fr y] = some (fr (m.col c d x y)) ∧ Bd (6 * k + 4) (m.col c d x y):=by
 have r1:=ar3 hc.bd (by omega) hc.le
 have r2:=ar3 hd.bd (by omega) hd.le
 have h1:=ao3 hc
 have h2:=ao3 hd
 have ml:=aN7 hx.bd.nn hy.bd.nn hx.le hy.le
 have e1:=T5 hx.bd hy.bd (by omega)
 have e2:=O3 hx.bd hy.bd (by omega)
 have b1:=hx.bd.add hy.bd
 have b2:=hx.bd.mul hy.bd
 have e3:=T9 b1 b2 (by omega) ml
 have e4:=bp5 b1 (by omega)
 have bt:=hy.bd.mul h1.bd
 have et:=O3 hy.bd h1.bd (by omega)
 have e6:=T5 hx.bd bt (by omega)
 have bd:=hx.bd.mul h2.bd
 have e7:=O3 hx.bd h2.bd (by omega)
 have b8:=b2.add bd
 have e8:=T5 b2 bd (by omega)
 have e9:=T5 b8 bt (by omega)
 have b10:=hx.bd.mul hd.bd
 have e10:=O3 hx.bd hd.bd (by omega)
 have e11:=T5 b10 bt (by omega)
 cases m with
 | plus=>exact ⟨B0 (ρ:=[‹.str "plus"›,‹fr c›,‹fr d›,‹fr x›,‹fr y›,none]) rfl (by wp_walk using evA,O2,J3,N6,D7,J2,J4,L7,N8,T0,J5,N7,N9,Q3,D3,G8,C0,D2,D4,E8,J0,N5,D6,G9,J1,L6,J9,O1,D8,J8,K0,M1,L9,Q5,F5,L8,M0,O0,G6,G7,E7,J6,J7,F4,E9,F0,D5,G2,G3,E3,G4,G5,E6,E4,E5,D1,e1,e4; rfl),(cg1 b1 (by omega)).bd.mono (by omega)⟩
 | screen=>exact ⟨B0 (ρ:=[‹.str "screen"›,‹fr c›,‹fr d›,‹fr x›,‹fr y›,none]) rfl (by wp_walk using evA,O2,J3,N6,D7,J2,J4,L7,N8,T0,J5,N7,N9,Q3,D3,G8,C0,D2,D4,E8,J0,N5,D6,G9,J1,L6,J9,O1,D8,J8,K0,M1,L9,Q5,F5,L8,M0,O0,G6,G7,E7,J6,J7,F4,E9,F0,D5,G2,G3,E3,G4,G5,E6,E4,E5,D1,e1,e2,e3; rfl),(b1.sub b2 ml).mono (by omega)⟩
 | over=>exact ⟨B0 (ρ:=[‹.str "over"›,‹fr c›,‹fr d›,‹fr x›,‹fr y›,none]) rfl (by wp_walk using evA,O2,J3,N6,D7,J2,J4,L7,N8,T0,J5,N7,N9,Q3,D3,G8,C0,D2,D4,E8,J0,N5,D6,G9,J1,L6,J9,O1,D8,J8,K0,M1,L9,Q5,F5,L8,M0,O0,G6,G7,E7,J6,J7,F4,E9,F0,D5,G2,G3,E3,G4,G5,E6,E4,E5,D1,r1,et,e6; rfl),(hx.bd.add bt).mono (by omega)⟩
 | mult=>exact ⟨B0 (ρ:=[‹.str "multiply"›,‹fr c›,‹fr d›,‹fr x›,‹fr y›,none]) rfl (by wp_walk using evA,O2,J3,N6,D7,J2,J4,L7,N8,T0,J5,N7,N9,Q3,D3,G8,C0,D2,D4,E8,J0,N5,D6,G9,J1,L6,J9,O1,D8,J8,K0,M1,L9,Q5,F5,L8,M0,O0,G6,G7,E7,J6,J7,F4,E9,F0,D5,G2,G3,E3,G4,G5,E6,E4,E5,D1,r1,r2,et,e2,e7,e8,e9; rfl),(b8.add bt).mono (by omega)⟩
 | atop=>exact ⟨B0 (ρ:=[‹.str "atop"›,‹fr c›,‹fr d›,‹fr x›,‹fr y›,none]) rfl (by wp_walk using evA,O2,J3,N6,D7,J2,J4,L7,N8,T0,J5,N7,N9,Q3,D3,G8,C0,D2,D4,E8,J0,N5,D6,G9,J1,L6,J9,O1,D8,J8,K0,M1,L9,Q5,F5,L8,M0,O0,G6,G7,E7,J6,J7,F4,E9,F0,D5,G2,G3,E3,G4,G5,E6,E4,E5,D1,r1,et,e10,e11; rfl),(b10.add bt).mono (by omega)⟩
 | cut=>exact ⟨B0 (ρ:=[‹.str "cut"›,‹fr c›,‹fr d›,‹fr x›,‹fr y›,none]) rfl (by wp_walk using evA,O2,J3,N6,D7,J2,J4,L7,N8,T0,J5,N7,N9,Q3,D3,G8,C0,D2,D4,E8,J0,N5,D6,G9,J1,L6,J9,O1,D8,J8,K0,M1,L9,Q5,F5,L8,M0,O0,G6,G7,E7,J6,J7,F4,E9,F0,D5,G2,G3,E3,G4,G5,E6,E4,E5,D1,r1,et; rfl),bt.mono (by omega)⟩
theorem cQ4 (m : Man) {c d : Rat} (hc : 0 ≤ c) (hd : 0 ≤ d) (hc1 : c ≤ 1) (hd1 : d ≤ 1) : m.cov c d ≤ 1:=by
 have p : 0 ≤ (1 - c) * (1 - d):=Rat.mul_nonneg (by grind) (by grind)
 have q : d * (1 - c) ≤ 1 * (1 - c):=Rat.mul_le_mul_of_nonneg_right hd1 (by grind)
 cases m <;> simp only [Man.cov,aS8] <;> grind
theorem bw7 (m : Man) {c d x y : Rat} (hc : 0 ≤ c) (hd : 0 ≤ d) (hc1 : c ≤ 1) (hd1 : d ≤ 1) (hx : 0 ≤ x) (hy : 0 ≤ y) (xc : x ≤ c) (yd : y ≤ d) : m.col c d x y ≤ m.cov c d:=by
 have q1 : y * (1 - c) ≤ d * (1 - c):=Rat.mul_le_mul_of_nonneg_right yd (by grind)
 have q2 : x * (y + 1 - d) ≤ c * (y + 1 - d):=Rat.mul_le_mul_of_nonneg_right xc (by grind)
 have q3 : x * d ≤ c * d:=Rat.mul_le_mul_of_nonneg_right xc hd
 have q4 : (1 - c) * (1 - d) ≤ (1 - x) * (1 - d):=Rat.mul_le_mul_of_nonneg_right (by grind) (by grind)
 have q5 : (1 - d) * (1 - x) ≤ (1 - y) * (1 - x):=Rat.mul_le_mul_of_nonneg_right (by grind) (by grind)
 cases m <;> simp only [Man.cov,Man.col,aS8] <;> grind
theorem cZ8 (a b c d e f : D) : (List.zip [a,b,c] [d,e,f]) = [(a,d),(b,e),(c,f)]:=rfl
theorem ln2 (a b : D) : ([a,b] : List D).length = 2:=rfl
theorem bx0 (m : Man) {k : Nat} {c x1 x2 x3 d y1 y2 y3 : Rat} (S : Spot k c x1 x2 x3) (T : Spot k d y1 y2 y3) (l : 6 * k + 4 ≤ 8000) :
  aa2 [.str m.s,sp c x1 x2 x3,sp d y1 y2 y3] = some (sp (m.cov c d) (m.col c d x1 y1) (m.col c d x2 y2) (m.col c d x3 y3)) ∧ Spot (6 * k + 4) (m.cov c d) (m.col c d x1 y1) (m.col c d x2 y2) (m.col c d x3 y3):=by
 have s1 : IsSh k x1:=⟨S.hx,Rat.le_trans S.xc S.hc.le⟩
 have s2 : IsSh k x2:=⟨S.hy,Rat.le_trans S.yc S.hc.le⟩
 have s3 : IsSh k x3:=⟨S.hz,Rat.le_trans S.zc S.hc.le⟩
 have t1 : IsSh k y1:=⟨T.hx,Rat.le_trans T.xc T.hc.le⟩
 have t2 : IsSh k y2:=⟨T.hy,Rat.le_trans T.yc T.hc.le⟩
 have t3 : IsSh k y3:=⟨T.hz,Rat.le_trans T.zc T.hc.le⟩
 have a0:=ci3 m S.hc T.hc l
 have a1:=aQ8 m S.hc T.hc s1 t1 l
 have a2:=aQ8 m S.hc T.hc s2 t2 l
 have a3:=aQ8 m S.hc T.hc s3 t3 l
 refine ⟨?_,⟨⟨a0.2,cQ4 m S.hc.bd.nn T.hc.bd.nn S.hc.le T.hc.le⟩,a1.2,a2.2,a3.2,bw7 m S.hc.bd.nn T.hc.bd.nn S.hc.le T.hc.le S.hx.nn T.hx.nn S.xc T.xc,bw7 m S.hc.bd.nn T.hc.bd.nn S.hc.le T.hc.le S.hy.nn T.hy.nn S.yc T.yc,bw7 m S.hc.bd.nn T.hc.bd.nn S.hc.le T.hc.le S.hz.nn T.hz.nn S.zc T.zc⟩⟩
 refine B0 (ρ:=[‹.str m.s›,‹sp c x1 x2 x3›,‹sp d y1 y2 y3›,none,none,none]) rfl ?_
 have f3 : ∀ a b c : D,([a,b,c] : List D).length ≤ 16777216:=fun a b c=>by show 3 ≤ 16777216; decide
 wp_walk using evA,aX7,sp,cZ8,f3,ln2,a0.1,a1.1,a2.1,a3.1
end Sh
namespace Sh
open PySem G L2
inductive Rul where
 | turn | grey | round
def Rul.s : Rul → Str
 | .turn => "turn"
 | .grey => "grey"
 | .round => "round"
def third : Rat:=mkRat 1 3
theorem cd7 : fr third = .tuple [.int 1,.int 3]:=by
 show PyData.tuple [.int (mkRat 1 3).num,.int (mkRat 1 3).den] = _
 rw [show (mkRat 1 3).num = 1 by decide +kernel,show (mkRat 1 3).den = 3 by decide +kernel]; rfl
theorem bT7 : third * 3 = 1:=by decide +kernel
theorem aL2 : IsSh 2 third:=⟨⟨by decide +kernel,by decide +kernel,by decide +kernel⟩,by decide +kernel⟩
def Rul.new : Rul → Rat → Rat → Rat → Rat → Rat
 | .turn,c,x,y,z=>c - x
 | .grey,c,x,y,z=>(x + y + z) * third
 | .round,c,x,y,z=>y
def Rul.mix (r : Rul) (s c x y z : Rat) : Rat:=s * r.new c x y z + (1 - s) * x
theorem aj2 {j k : Nat} {s n o : Rat} (hs : IsSh k s) (hn : Bd j n) (ho : Bd k o) (l : k + j + 2 * k + 1 ≤ 8000) : aL0 [fr s,fr n,fr o] = some (fr (s * n + (1 - s) * o)):=by
 have e1:=O3 hs.bd hn (by omega)
 have r1:=ar3 hs.bd (by omega) hs.le
 have e2:=O3 (ao3 hs).bd ho (by omega)
 have e3:=T5 (hs.bd.mul hn) ((ao3 hs).bd.mul ho) (by omega)
 refine B0 (ρ:=[‹fr s›,‹fr n›,‹fr o›]) rfl ?_
 wp_walk using evA,bE7,e1,r1,e2,e3
theorem bg9 (r : Rul) {k : Nat} {c x y z : Rat} (S : Spot k c x y z) (l : 6 * k + 6 ≤ 8000) : ar8 [.str r.s,sp c x y z] = some (sp c (r.new c x y z) (r.new c y z x) (r.new c z x y)):=by
 have e1:=T9 S.hc.bd S.hx (by omega) S.xc
 have e2:=T9 S.hc.bd S.hy (by omega) S.yc
 have e3:=T9 S.hc.bd S.hz (by omega) S.zc
 have b4:=S.hx.add S.hy
 have e4:=T5 S.hx S.hy (by omega)
 have e5:=T5 b4 S.hz (by omega)
 have e6:=O3 (b4.add S.hz) aL2.bd (by omega)
 rw [cd7] at e6
 have g1 : (y + z + x) * third = (x + y + z) * third:=by grind
 have g2 : (z + x + y) * third = (x + y + z) * third:=by grind
 cases r with
 | turn =>
  refine B0 (ρ:=[‹.str "turn"›,‹sp c x y z›,none,none,none,none,none]) rfl ?_
  wp_walk using evA,ar0,sp,J3,N6,D7,J2,J4,L7,N8,T0,J5,N7,N9,Q3,D3,G8,C0,D2,D4,E8,J0,N5,D6,G9,J1,L6,J9,O1,D8,J8,K0,M1,L9,Q5,F5,L8,M0,O0,G6,G7,E7,J6,J7,F4,E9,F0,D5,G2,G3,E3,G4,G5,E6,E4,E5,D1,e1,e2,e3; rfl
 | grey =>
  refine B0 (ρ:=[‹.str "grey"›,‹sp c x y z›,none,none,none,none,none]) rfl ?_
  wp_walk using evA,ar0,sp,J3,N6,D7,J2,J4,L7,N8,T0,J5,N7,N9,Q3,D3,G8,C0,D2,D4,E8,J0,N5,D6,G9,J1,L6,J9,O1,D8,J8,K0,M1,L9,Q5,F5,L8,M0,O0,G6,G7,E7,J6,J7,F4,E9,F0,D5,G2,G3,E3,G4,G5,E6,E4,E5,D1,e4,e5,e6
  simp only [Rul.new,g1,g2]
 | round =>
  refine B0 (ρ:=[‹.str "round"›,‹sp c x y z›,none,none,none,none,none]) rfl ?_
  wp_walk using evA,ar0,sp,J3,N6,D7,J2,J4,L7,N8,T0,J5,N7,N9,Q3,D3,G8,C0,D2,D4,E8,J0,N5,D6,G9,J1,L6,J9,O1,D8,J8,K0,M1,L9,Q5,F5,L8,M0,O0,G6,G7,E7,J6,J7,F4,E9,F0,D5,G2,G3,E3,G4,G5,E6,E4,E5,D1; rfl
theorem bc0 (r : Rul) {k : Nat} {c x y z : Rat} (S : Spot k c x y z) : Bd (3 * k + 4) (r.new c x y z):=by
 cases r with
 | turn=>exact (S.hc.bd.sub S.hx S.xc).mono (by omega)
 | grey=>exact (((S.hx.add S.hy).add S.hz).mul aL2.bd).mono (by omega)
 | round=>exact S.hy.mono (by omega)
theorem Spot.rot {k : Nat} {c x y z : Rat} (S : Spot k c x y z) : Spot k c y z x:=⟨S.hc,S.hy,S.hz,S.hx,S.yc,S.zc,S.xc⟩
theorem cJ1 (r : Rul) {k : Nat} {c x y z : Rat} (S : Spot k c x y z) : r.new c x y z ≤ c:=by
 have h1:=S.xc
 have h2:=S.yc
 have h3:=S.zc
 have h4:=S.hx.nn
 cases r with
 | turn=>simp only [Rul.new]; grind
 | grey =>
  simp only [Rul.new]
  have : (x + y + z) * third ≤ (c + c + c) * third:=Rat.mul_le_mul_of_nonneg_right (by grind) aL2.bd.nn
  have e : (c + c + c) * third = c:=by have:=bT7; grind
  rw [e] at this
  exact this
 | round=>exact h2
theorem bt9 (r : Rul) {k : Nat} {s c x y z : Rat} (S : Spot k c x y z) (hs : IsSh k s) : r.mix s c x y z ≤ c:=by
 have h1 : r.new c x y z * s ≤ c * s:=Rat.mul_le_mul_of_nonneg_right (cJ1 r S) hs.bd.nn
 have h2 : x * (1 - s) ≤ c * (1 - s):=Rat.mul_le_mul_of_nonneg_right S.xc (by have:=hs.le; grind)
 unfold Rul.mix
 grind
theorem bu0 (r : Rul) {k : Nat} {s c x y z : Rat} (S : Spot k c x y z) (hs : IsSh k s) : Bd (6 * k + 6) (r.mix s c x y z):=by
 unfold Rul.mix
 exact ((hs.bd.mul (bc0 r S)).add ((ao3 hs).bd.mul S.hx)).mono (by omega)
theorem cZ7 (a b c d e f g h : D) : (List.zip [a,b,c,d] [e,f,g,h]) = [(a,e),(b,f),(c,g),(d,h)]:=rfl
theorem bT6 (r : Rul) {k : Nat} {s c x y z : Rat} (S : Spot k c x y z) (hs : IsSh k s) (l : 6 * k + 6 ≤ 8000) :
  aA4 [.str r.s,sp c x y z,fr s] = some (sp c (r.mix s c x y z) (r.mix s c y z x) (r.mix s c z x y)) ∧ Spot (6 * k + 6) c (r.mix s c x y z) (r.mix s c y z x) (r.mix s c z x y):=by
 refine ⟨?_,⟨S.hc.mono (by omega),bu0 r S hs,bu0 r S.rot hs,bu0 r S.rot.rot hs,bt9 r S hs,bt9 r S.rot hs,bt9 r S.rot.rot hs⟩⟩
 have e0:=bg9 r S l
 have ec:=aj2 hs S.hc.bd S.hc.bd (by omega)
 have e1:=aj2 hs (bc0 r S) S.hx (by omega)
 have e2:=aj2 hs (bc0 r S.rot) S.hy (by omega)
 have e3:=aj2 hs (bc0 r S.rot.rot) S.hz (by omega)
 have cc : s * c + (1 - s) * c = c:=by grind
 rw [cc] at ec
 refine B0 (ρ:=[‹.str r.s›,‹sp c x y z›,‹fr s›]) rfl ?_
 have f4 : ∀ a b c d : D,([a,b,c,d] : List D).length ≤ 16777216:=fun a b c d=>by show 4 ≤ 16777216; decide
 simp only [sp] at e0
 wp_walk using evA,bE6,sp,cZ7,f4,ln2,e0,ec,e1,e2,e3
 rfl
end Sh
namespace Sh
open PySem G L2
theorem cat_tup {xs ys : List D} (h : xs.length + ys.length ≤ 16777216) : af6 (.tuple xs) (.tuple ys) = some (.tuple (xs ++ ys)):=if_pos h
end Sh
namespace Sh
open PySem G L2
theorem z3 (a b c d e f : D) : (List.zip [a,b,c] [d,e,f]).map (fun (x,y)=>PyData.tuple [x,y]) = [.tuple [a,d],.tuple [b,e],.tuple [c,f]]:=rfl
end Sh
namespace Sh
open PySem G L2
structure Q4 where
 c : Rat
 x : Rat
 y : Rat
 z : Rat
def Q4.d (q : Q4) : D:=sp q.c q.x q.y q.z
def Q4.ok (k : Nat) (q : Q4) : Prop:=Spot k q.c q.x q.y q.z
def q0 : Q4:=⟨0,0,0,0⟩
theorem cF5 : q0.d = .tuple [.tuple [.int 0,.int 1],.tuple [.int 0,.int 1],.tuple [.int 0,.int 1],.tuple [.int 0,.int 1]]:=rfl
theorem cU8 {k : Nat} (hk : 1 ≤ k) : q0.ok k:=by
 have z : IsSh k 0:=⟨Bd.zero.mono hk,by decide⟩
 exact ⟨z,z.bd,z.bd,z.bd,Rat.le_refl,Rat.le_refl,Rat.le_refl⟩
theorem Q4.ok.mono {j k : Nat} {q : Q4} (h : q.ok j) (l : j ≤ k) : q.ok k:=Spot.mono h l
def Ly (n : Nat) (d : D) : Prop:=PyData.canLay0 d = true ∧ PyData.depth d ≤ n
theorem by7 {n : Nat} : ∀ xs : List D,(∀ x ∈ xs,Ly n x) → PyData.canLayAll0 xs = true ∧ PyData.depthAll xs ≤ n
 | [],_=>⟨rfl,Nat.zero_le _⟩
 | x :: xs,g=>by
  have a:=g x (List.mem_cons_self ..)
  have b:=by7 xs fun y hy=>g y (List.mem_cons_of_mem _ hy)
  refine ⟨?_,?_⟩
  ·show (PyData.canLay0 x && PyData.canLayAll0 xs) = true
   rw [a.1,b.1]; rfl
  ·show max (PyData.depth x) (PyData.depthAll xs) ≤ n
   have:=a.2; have:=b.2; omega
theorem Ly.tup {n : Nat} {xs : List D} (h : ∀ x ∈ xs,Ly n x) : Ly (n + 1) (.tuple xs):=⟨(by7 xs h).1,Nat.succ_le_succ (by7 xs h).2⟩
theorem Ly.int (n : Nat) (i : Int) : Ly n (.int i):=⟨rfl,Nat.zero_le _⟩
theorem Ly.shaped {n : Nat} {d : D} (g : Ly n d) (hn : n ≤ 64) : SeqAt.shaped d = true:=by
 unfold SeqAt.shaped
 rw [g.1,Bool.true_and]
 exact decide_eq_true (by have:=g.2; omega)
theorem Ly.q4 (q : Q4) (n : Nat) : Ly (n + 2) q.d:=⟨rfl,by show 2 ≤ n + 2; omega⟩
theorem Ly.spots (l : List Q4) (n : Nat) : Ly (n + 3) (.tuple (l.map Q4.d)):=Ly.tup fun x hx=>by
 obtain ⟨q,_,rfl⟩:=List.mem_map.mp hx
 exact Ly.q4 q n
theorem bB6 {n : Nat} {d : D} (g : Ly n d) (hn : n ≤ 64) : neD d d = some (.bool false):=by
 unfold neD
 rw [if_pos ⟨g.shaped hn,g.shaped hn⟩,SeqAt.eqv_refl d g.1]; rfl
theorem cr9 {n : Nat} {d : D} (g : Ly n d) (hn : n ≤ 64) : eqD d d = some (.bool true):=by
 unfold eqD
 rw [if_pos ⟨g.shaped hn,g.shaped hn⟩,SeqAt.eqv_refl d g.1]
def shD (w h : Nat) (l : List Q4) : D:=.tuple [.int w,.int h,.tuple (l.map Q4.d)]
theorem Ly.sheet (w h : Nat) (l : List Q4) : Ly 4 (shD w h l):=Ly.tup fun x hx=>by
 simp only [List.mem_cons,List.not_mem_nil,or_false] at hx
 rcases hx with rfl | rfl | rfl
 ·exact Ly.int _ _
 ·exact Ly.int _ _
 ·exact Ly.spots l 0
def atQ (w h : Nat) (l : List Q4) (x y : Int) : Q4:=if 0 ≤ x ∧ x < w ∧ 0 ≤ y ∧ y < h then l.getD (y * w + x).toNat q0 else q0
structure ShOk (k : Nat) (w h : Nat) (l : List Q4) : Prop where
 w1 : 1 ≤ w
 w8 : w ≤ 8
 h1 : 1 ≤ h
 h8 : h ≤ 8
 len : l.length = w * h
 ok : ∀ q ∈ l,q.ok k
theorem cw3 {α : Type} {e : DE} {r : Rho} {h f : α → D} : ∀ (l : List α) (x : Option B),(∀ a ∈ l,e (‹h a› :: r) = some (f a)) → U7 (B1 0) C8 e (l.map h) (x :: r) = some (l.map f)
 | [],_,_=>rfl
 | a :: l,x,H=>by
  simp only [xmc,U7,B1,xw0,xbs,C8,if_true,H a (List.mem_cons_self ..),cw3 l _ (fun b hb=>H b (List.mem_cons_of_mem _ hb)),xms]
theorem cw2 {α : Type} {e : DE} {r : Rho} {h1 h2 f : α → D} : ∀ (l : List α) (x y : Option B),(∀ a ∈ l,e (‹h1 a› :: ‹h2 a› :: r) = some (f a)) → U7 (K4 2 (B2 (B1 0) (B2 (B1 1) K7))) C8 e (l.map fun a=>.tuple [h1 a,h2 a]) (x :: y :: r) = some (l.map f)
 | [],_,_,_=>rfl
 | a :: l,x,y,H=>by
  have hl : ([h1 a,h2 a] : List D).length = 2:=rfl
  simp only [xmc,U7,K4,B2,K7,B1,hl,if_true,xw0,xw1,xbs,C8,if_true,H a (List.mem_cons_self ..),cw2 l _ _ (fun b hb=>H b (List.mem_cons_of_mem _ hb)),xms]
theorem cf9 {α : Type} {c : Rho → Option Bool} {e : DE} {r : Rho} {h f : α → D} {p : α → Bool} : ∀ (l : List α) (x : Option B),(∀ a ∈ l,c (‹h a› :: r) = some (p a)) → (∀ a ∈ l,e (‹h a› :: r) = some (f a)) → U7 (B1 0) c e (l.map h) (x :: r) = some ((l.filter p).map f)
 | [],_,_,_=>rfl
 | a :: l,x,C,H=>by
  have ih:=cf9 l (‹h a›) (fun b hb=>C b (List.mem_cons_of_mem _ hb)) (fun b hb=>H b (List.mem_cons_of_mem _ hb))
  cases q : p a with
  | true =>
   simp only [xmc,U7,B1,xw0,xbs,C a (List.mem_cons_self ..),q,if_true,H a (List.mem_cons_self ..),ih,xms,List.filter_cons_of_pos q]
  | false =>
   have q' : ¬ p a = true:=by rw [q]; exact Bool.false_ne_true
   simp only [xmc,U7,B1,xw0,xbs,C a (List.mem_cons_self ..),q,xft,if_false,ih,List.filter_cons_of_neg q']
theorem v4 {α : Type} {caps : List Nat} {src : Rho → Option (List D)} {e : DE} {ρ r : Rho} {l : List α} {h f : α → D} (hr : ac0 1 caps ρ = none :: r) (hs : src ρ = some (l.map h)) (hl : l.length ≤ 1000) (H : ∀ a ∈ l,e (‹h a› :: r) = some (f a)) :
  B8 1 caps src (B1 0) C8 e ρ = some (l.map f):=by
 unfold B8
 rw [hs,xbs,if_pos (by rw [List.length_map]; omega),hr,cw3 l _ H]
theorem bY7 {α : Type} {caps : List Nat} {src : Rho → Option (List D)} {e : DE} {ρ r : Rho} {l : List α} {h1 h2 f : α → D} (hr : ac0 2 caps ρ = none :: none :: r) (hs : src ρ = some (l.map fun a=>.tuple [h1 a,h2 a])) (hl : l.length ≤ 1000) (H : ∀ a ∈ l,e (‹h1 a› :: ‹h2 a› :: r) = some (f a)) :
  B8 2 caps src (K4 2 (B2 (B1 0) (B2 (B1 1) K7))) C8 e ρ = some (l.map f):=by
 unfold B8
 rw [hs,xbs,if_pos (by rw [List.length_map]; omega),hr,cw2 l _ _ H]
theorem aJ8 {α : Type} {caps : List Nat} {src : Rho → Option (List D)} {c : Rho → Option Bool} {e : DE} {ρ r : Rho} {l : List α} {h f : α → D} {p : α → Bool} (hr : ac0 1 caps ρ = none :: r) (hs : src ρ = some (l.map h)) (hl : l.length ≤ 1000) (C : ∀ a ∈ l,c (‹h a› :: r) = some (p a)) (H : ∀ a ∈ l,e (‹h a› :: r) = some (f a)) :
  B8 1 caps src (B1 0) c e ρ = some ((l.filter p).map f):=by
 unfold B8
 rw [hs,xbs,if_pos (by rw [List.length_map]; omega),hr,cf9 l _ C H]
theorem ah3 {f : DE} {ρ : Rho} {n : Nat} (h : f ρ = some (.int n)) (hn : n ≤ 1000) : O4 f ρ = some ((List.range n).map fun k : Nat=>PyData.int k):=by
 unfold O4
 rw [h,xbs]
 show (if -(2 ^ 62) ≤ (n : Int) ∧ (n : Int) < 2 ^ 62 then some (ae1 0 n) else none) = _
 rw [if_pos ⟨by omega,by omega⟩]
 unfold ae1
 congr 1
 have e : ((n : Int) - 0).toNat = n:=by omega
 rw [e]
 apply List.map_congr_left
 intro k _
 congr 1
 omega
theorem bY9 {i j : Int} (h1 : L0 i) (h2 : L0 j) : L5 (.int i) (.int j) = some (.int (i * j)):=W1 h1 h2
theorem U6 {i j : Nat} (h1 : i ≤ 1000) (h2 : j ≤ 1000) : L5 (.int i) (.int j) = some (.int ((i * j : Nat) : Int)):=by
 rw [bY9 (ae9 (k:=10) (by omega) (by decide)) (ae9 (k:=10) (by omega) (by decide)),Int.natCast_mul]
theorem sm8 {i : Int} (h0 : 0 ≤ i) (h : i ≤ 1000) : L0 i:=aL5 h0 (by omega)
def plc (w n : Nat) : List (Int × Int):=(List.range n).map fun k=>(((k % w : Nat) : Int),((k / w : Nat) : Int))
theorem aU6 {w h : Nat} (w1 : 1 ≤ w) (w8 : w ≤ 8) (h8 : h ≤ 8) : U9 [.int w,.int h] = some (.list ((plc w (w * h)).map fun p=>.tuple [.int p.1,.int p.2])):=by
 refine B0 (ρ:=[‹.int w›,‹.int h›]) rfl ?_
 have hm : (A5 L5 (A1 0) (A1 1)) [‹.int w›,‹.int h›] = some (.int ((w * h : Nat) : Int)):=U6 (by omega) (by omega)
 have wh : w * h ≤ 64:=Nat.mul_le_mul w8 h8
 unfold aG3 A9 P3
 rw [v4 (l:=List.range (w * h)) (h:=fun k : Nat=>PyData.int k) (f:=fun k=>.tuple [.int ((k % w : Nat) : Int),.int ((k / w : Nat) : Int)]) (r:=[‹.int w›]) rfl (ah3 hm (by omega)) (by rw [List.length_range]; omega) ?_]
 ·unfold plc
  rw [List.map_map]; rfl
 ·intro k _
  have wp : (0 : Int) < (w : Int):=by omega
  simp only [F6,A0,A3,A5,A1,xg0,xg1,xbs,xms,aU9 wp,bn3 wp (sm8 (by omega) (by omega))]
  rfl
theorem aJ6 (w n : Nat) : (plc w n).length = n:=by unfold plc; rw [List.length_map,List.length_range]
theorem ay6 (w h : Int) (s : D) (x y : Int) : Y8 [.tuple [.int w,.int h,s],.int x,.int y] = some (.bool (decide (0 ≤ x ∧ x < w ∧ 0 ≤ y ∧ y < h))):=by
 refine B0 (ρ:=[‹.tuple [.int w,.int h,s]›,‹.int x›,‹.int y›]) rfl ?_
 by_cases a : 0 ≤ x <;> by_cases b : x < w <;> by_cases c : 0 ≤ y <;> by_cases e : y < h <;> simp [aG6,A6,B4,A9,sIf,C1,R0,ab6,A1,dC,F6,P3,A5,A2,R6,dOr,ae4,N2,dIx,R3,N4,j0,ab9,W4,A8,qE,qN,af0,N0,F9,Z5,A3,A0,K5,tB2,W0,Q9,L4,ab5,M4,C8,B1,K4,B2,K7,G1,ae3,xg0,xg1,xw0,xw1,xbs,xms,xmc,xmn,xna,xca,f8,f7,aj9,af3,af4,am2,am4,an2,an1,an0,am9,an5,an4,an3,ak2,ak1,xnt,xnf,xft,if_true,if_false,aw0,bq5,a,b,c,e]
theorem av3 {n : Nat} {i : Int} (h0 : 0 ≤ i) (h1 : i < n) : ixN n i = some i.toNat:=by unfold ixN; rw [if_pos h0,if_pos h1]
theorem atD (l : List Q4) {i : Int} (h0 : 0 ≤ i) (h1 : i < l.length) : L2.atI (l.map Q4.d) i = some (l.getD i.toNat q0).d:=by
 unfold L2.atI
 rw [List.length_map,av3 h0 h1,xbs,List.getElem?_map,List.getD_eq_getElem?_getD]
 have : i.toNat < l.length:=by omega
 rw [List.getElem?_eq_getElem this]; rfl
theorem aD6 {w h : Nat} {x y : Int} (b : 0 ≤ x ∧ x < w ∧ 0 ≤ y ∧ y < h) : 0 ≤ y * w + x ∧ y * w + x < ((w * h : Nat) : Int):=by
 obtain ⟨a,b,c,e⟩:=b
 have p : 0 ≤ y * (w : Int):=Int.mul_nonneg c (by omega)
 refine ⟨by omega,?_⟩
 have : (y + 1) * (w : Int) ≤ h * (w : Int):=Int.mul_le_mul_of_nonneg_right (by omega) (by omega)
 have e2 : (y + 1) * (w : Int) = y * w + w:=by rw [Int.add_mul,Int.one_mul]
 have e3 : ((w * h : Nat) : Int) = h * w:=by rw [Int.natCast_mul,Int.mul_comm]
 omega
theorem aU7 {w h : Nat} {x y : Int} (s : D) (w8 : w ≤ 8) (h8 : h ≤ 8) (b : 0 ≤ x ∧ x < w ∧ 0 ≤ y ∧ y < h) : O8 [.tuple [.int w,.int h,s],.int x,.int y] = some (.int (y * w + x)):=by
 refine B0 (ρ:=[‹.tuple [.int w,.int h,s]›,‹.int x›,‹.int y›]) rfl ?_
 wp_walk using evD,ad0,bY9 (sm8 b.2.2.1 (by omega)) (sm8 (show (0 : Int) ≤ w by omega) (by omega))
theorem br1 {k w h : Nat} {l : List Q4} (S : ShOk k w h l) (x y : Int) : ar1 [shD w h l,.int x,.int y] = some (atQ w h l x y).d:=by
 refine B0 (ρ:=[‹shD w h l›,‹.int x›,‹.int y›]) rfl ?_
 have hp:=ay6 w h (.tuple (l.map Q4.d)) x y
 unfold atQ
 by_cases b : 0 ≤ x ∧ x < w ∧ 0 ≤ y ∧ y < h
 ·rw [if_pos b]
  rw [decide_eq_true b] at hp
  have nm:=aU7 (.tuple (l.map Q4.d)) S.w8 S.h8 b
  have pn:=aD6 b
  have e:=atD l pn.1 (by rw [S.len]; exact pn.2)
  wp_walk using evD,aF6,shD,hp,nm,e
 ·rw [if_neg b]
  rw [decide_eq_false b] at hp
  wp_walk using evD,aF6,shD,hp
  rfl
def Man.bl (m : Man) (a b : Q4) : Q4:=⟨m.cov a.c b.c,m.col a.c b.c a.x b.x,m.col a.c b.c a.y b.y,m.col a.c b.c a.z b.z⟩
theorem cY8 (m : Man) {k : Nat} {a b : Q4} (S : a.ok k) (T : b.ok k) (l : 6 * k + 4 ≤ 8000) : aa2 [.str m.s,a.d,b.d] = some (m.bl a b).d ∧ (m.bl a b).ok (6 * k + 4):=bx0 m S T l
end Sh
namespace Sh
open PySem G L2
abbrev scr (ns : List Int) : D:=.list (ns.map PyData.int)
theorem bn1 (ns : List Int) (k m : Nat) (hn : ns.length ≤ 63) (hk : k < 2 ^ 60) (hm : 0 < m) : ∃ n : Nat,A7 [scr ns,.int k,.int m] = some (.int n) ∧ n < m:=by
 have a:=aL1 ns k m hn hk (by omega)
 have b:=aJ9 ns k m (by omega)
 refine ⟨(az0 ns k m).toNat,?_,by omega⟩
 rw [a]
 congr 2
 omega
theorem aK5 {h : D → D → Option D} {f g : DE} {ρ : Rho} {x y : D} (h1 : f ρ = some x) (h2 : g ρ = some y) : A5 h f g ρ = h x y:=by unfold A5; rw [h1,xbs,h2,xbs]
theorem aa5 {α : Type} (a : α) : ∀ n : Nat,(List.replicate n [a]).flatten = List.replicate n a
 | 0=>rfl
 | n + 1=>by rw [List.replicate_succ,List.flatten_cons,aa5 a n]; rfl
theorem bZ0 {xs : List D} {n : Nat} (hn : n ≤ 1000) (hx : xs.length ≤ 1000) : L5 (.list xs) (.int n) = some (.list (List.replicate n xs).flatten):=by
 show (if 0 ≤ (n : Int) ∧ (n : Int) < 1000000 ∧ xs.length * ((n : Int)).toNat ≤ 16777216 then some (PyData.list (List.replicate ((n : Int)).toNat xs).flatten) else none) = _
 rw [Int.toNat_natCast,if_pos ⟨by omega,by omega,Nat.le_trans (Nat.mul_le_mul hx hn) (by decide)⟩]
theorem dd4 (a : D) (r : List D) : aj0 (a :: r) none (some 1) = [a]:=by
 unfold aj0
 have h1 : HT.sIx (a :: r).length 0 none = 0:=by simp [HT.sIx]
 have h2 : HT.sIx (a :: r).length (a :: r).length (some 1) = 1:=by simp only [HT.sIx,List.length_cons]; first | omega | (simp; omega) | simp
 rw [h1,h2]; rfl
theorem bg5 (ns : List Int) (k : Nat) (hn : ns.length ≤ 63) (hk : k < 2 ^ 30) : ∃ q : Q4,V0 [scr ns,.int k] = some q.d ∧ q.ok 8:=by
 obtain ⟨c,x,y,z,e,S⟩:=cR7 ns k hn hk
 exact ⟨⟨c,x,y,z⟩,e,S⟩
theorem bU5 (ns : List Int) (at' : Nat) (hn : ns.length ≤ 63) (ha : at' < 2 ^ 20) : ∃ f : Nat → Q4,∀ k,k < 1000 → V0 [scr ns,.int ((at' + 12 * k : Nat) : Int)] = some (f k).d ∧ (f k).ok 8:=by
 refine ⟨fun k=>if h : k < 1000 then Classical.choose (bg5 ns (at' + 12 * k) hn (by omega)) else q0,fun k hk=>?_⟩
 simp only [dif_pos hk]
 exact Classical.choose_spec (bg5 ns (at' + 12 * k) hn (by omega))
theorem bc5 (ns : List Int) (at' w h : Nat) (hn : ns.length ≤ 63) (ha : at' < 2 ^ 20) (w1 : 1 ≤ w) (w8 : w ≤ 8) (h1 : 1 ≤ h) (h8 : h ≤ 8) : ∃ l : List Q4,af9 [scr ns,.int at',.int w,.int h] = some (shD w h l) ∧ ShOk 8 w h l:=by
 obtain ⟨f,hf⟩:=bU5 ns at' hn ha
 have wh : w * h ≤ 64:=Nat.mul_le_mul w8 h8
 have wh1 : 1 ≤ w * h:=Nat.mul_le_mul w1 h1
 obtain ⟨t,et,ht⟩:=bn1 ns (at' + 7) 3 hn (by omega) (by decide)
 have et' : A7 [scr ns,.int ((at' : Int) + 7),.int 3] = some (.int t):=by rw [← et]; simp
 have c : B8 1 [0,1] (O4 (A5 L5 (A1 2) (A1 3))) (B1 0) C8 (A2 V0 (A0 (A1 1) (A0 (A5 B5 (A1 2) (A5 L5 (dC (.int 12)) (A1 0))) A3))) [‹scr ns›,‹.int at'›,‹.int w›,‹.int h›,none] = some ((List.range (w * h)).map fun k=>(f k).d):=by
  refine v4 (l:=List.range (w * h)) (h:=fun k : Nat=>PyData.int k) (r:=[‹scr ns›,‹.int at'›]) rfl (ah3 ?_ (by omega)) (by rw [List.length_range]; omega) ?_
  ·exact U6 (by omega) (by omega)
  ·intro k hk
   have hk:=List.mem_range.mp hk
   have m12 : L5 (.int 12) (.int k) = some (.int ((12 * k : Nat) : Int)):=U6 (i:=12) (by decide) (by omega)
   have e1 : ((at' : Int) + ((12 * k : Nat) : Int)) = ((at' + 12 * k : Nat) : Int):=by omega
   wp_walk using evD,m12,e1,(hf k (by omega)).1
 have mwh : L5 (.int w) (.int h) = some (.int ((w * h : Nat) : Int)):=U6 (by omega) (by omega)
 have cv : ((t : Int) == 0) = decide (t = 0):=by cases t with
  | zero=>rfl
  | succ n=>rw [decide_eq_false (by omega)]; exact beq_eq_false_iff_ne.mpr (by omega)
 obtain ⟨n,en⟩ : ∃ n,w * h = n + 1:=⟨w * h - 1,by omega⟩
 by_cases t0 : t = 0
 ·refine ⟨List.replicate (w * h) (f 0),?_,w1,w8,h1,h8,List.length_replicate ..,fun q hq=>by rw [(List.mem_replicate.mp hq).2]; exact (hf 0 (by decide)).2⟩
  refine B0 (ρ:=[‹scr ns›,‹.int at'›,‹.int w›,‹.int h›,none]) rfl ?_
  have hd : (List.range (w * h)).map (fun k=>(f k).d) = (f 0).d :: (List.range n).map (fun k=>(f (k + 1)).d):=by
   rw [en,List.range_succ_eq_map,xmc,List.map_map]; rfl
  rw [hd] at c
  have v : A5 L5 (am8 (A1 4) N0 (F9 (dC (.int 1)))) (A5 L5 (A1 2) (A1 3)) [‹scr ns›,‹.int at'›,‹.int w›,‹.int h›,‹.list ((f 0).d :: (List.range n).map (fun k=>(f (k + 1)).d))›] = some (.list (List.replicate (w * h) (f 0).d)):=by
   have a1 : am8 (A1 4) N0 (F9 (dC (.int 1))) [‹scr ns›,‹.int at'›,‹.int w›,‹.int h›,‹.list ((f 0).d :: (List.range n).map (fun k=>(f (k + 1)).d))›] = some (.list (aj0 ((f 0).d :: (List.range n).map (fun k=>(f (k + 1)).d)) none (some 1))):=rfl
   have a2 : A5 L5 (A1 2) (A1 3) [‹scr ns›,‹.int at'›,‹.int w›,‹.int h›,‹.list ((f 0).d :: (List.range n).map (fun k=>(f (k + 1)).d))›] = some (.int ((w * h : Nat) : Int)):=(aK5 rfl rfl).trans mwh
   rw [dd4] at a1
   have a3:=bZ0 (xs:=[(f 0).d]) (show w * h ≤ 1000 by omega) (show 1 ≤ 1000 by decide)
   rw [aa5] at a3
   exact (aK5 a1 a2).trans a3
  have t1 : tB2 eqD (A2 A7 (A0 (A1 0) (A0 (A5 B5 (A1 1) (dC (.int 7))) (A0 (dC (.int 3)) A3)))) (dC (.int 0)) [‹scr ns›,‹.int at'›,‹.int w›,‹.int h›,‹.list ((f 0).d :: (List.range n).map (fun k=>(f (k + 1)).d))›] = some true:=by
   simp only [tB2,A5,A2,A0,A3,A1,dC,xms,xbs,xg0,xg1,aw0,et',af4,cv,decide_eq_true t0,M4]
  simp only [aF7,A6,R0,c,sIf,t1,B4,v,A9,F6,A0,A3,N4,A8,A1,xms,xbs,xw0,xw1,xg0,xg1,if_true,xft,if_false,shD,List.map_replicate]
 ·refine ⟨(List.range (w * h)).map f,?_,w1,w8,h1,h8,by rw [List.length_map,List.length_range],fun q hq=>by
   obtain ⟨k,hk,rfl⟩:=List.mem_map.mp hq
   exact (hf k (by have:=List.mem_range.mp hk; omega)).2⟩
  refine B0 (ρ:=[‹scr ns›,‹.int at'›,‹.int w›,‹.int h›,none]) rfl ?_
  wp_walk using evD,aF7,c,et',cv,decide_eq_false t0,shD,List.map_map
  rfl
theorem an6 {α : Type} (f : α → Bool) : ∀ l : List α,bf9 (l.map fun a=>PyData.bool (f a)) = some (l.all f)
 | []=>rfl
 | a :: l=>by
  show (bf9 (l.map fun a=>PyData.bool (f a))).map (fun c=>f a && c) = _
  rw [an6 f l]; rfl
theorem bl6 {k w h : Nat} {l : List Q4} (S : ShOk k w h l) (hk : k + k ≤ 8000) : aj5 [shD w h l] = some (.bool true):=by
 have sz : ∀ n : Nat,1 ≤ n → n ≤ 8 → aa1 [.int n] = some (.bool true):=fun n a b=>by
  refine B0 (ρ:=[‹.int n›]) rfl ?_
  have w1 : S0 [.int n] = some (.bool true):=rfl
  have a' : (1 : Int) ≤ n:=by omega
  have b' : (n : Int) ≤ 8:=by omega
  wp_walk using evD,aF8,w1,a',b',decide_true
 have l3 : ((([.int w,.int h,.tuple (l.map Q4.d)] : List D).length : Nat) : Int) = 3:=rfl
 have b3 : ((3 : Int) == 3) = true:=rfl
 have w8:=S.w8
 have h8:=S.h8
 have wh : w * h ≤ 64:=Nat.mul_le_mul w8 h8
 have zz : k6 [shD w h l] = some (.bool true):=by
  refine B0 (ρ:=[‹shD w h l›]) rfl ?_
  wp_walk using evD,aw5,shD,l3,b3,sz w S.w1 S.w8,sz h S.h1 S.h8
 have al : ∀ q : Option B,B8 1 [] (G1 (A1 1)) (B1 0) C8 (A2 ag2 (A0 (A1 0) A3)) [q,‹.tuple (l.map Q4.d)›] = some (l.map fun x=>.bool true):=fun q=>by
  refine v4 (l:=l) (h:=Q4.d) (r:=[]) rfl rfl (by rw [S.len]; omega) fun x hx=>?_
  have:=bR5 (S.ok x hx) hk
  wp_walk using evD,Q4.d,this
 have mwh : L5 (.int w) (.int h) = some (.int ((w * h : Nat) : Int)):=U6 (by omega) (by omega)
 have hb : ((((l.map Q4.d).length : Nat) : Int) == ((w * h : Nat) : Int)) = true:=by rw [List.length_map,S.len]; simp
 have ab : bf9 (l.map fun x=>.bool true) = some true:=by rw [an6 (fun _=>true)]; simp
 refine B0 (ρ:=[‹shD w h l›,none]) rfl ?_
 simp only [shD] at zz
 wp_walk using evD,aQ4,shD,zz,al,mwh,hb,ab
end Sh
namespace Sh
open PySem G L2
theorem q4 : (4 : Nat) ≤ 16777216:=by decide
theorem q3 : (3 : Nat) ≤ 16777216:=by decide
end Sh
namespace Sh
open PySem G L2
def Dv (N : Nat) (r : Rat) : Prop:=∃ z : Int,r * (N : Rat) = (z : Rat)
theorem Dv.add {N : Nat} {r s : Rat} (h : Dv N r) (g : Dv N s) : Dv N (r + s):=by
 obtain ⟨a,ha⟩:=h; obtain ⟨b,hb⟩:=g
 exact ⟨a + b,by rw [Rat.add_mul,ha,hb,Rat.intCast_add]⟩
theorem Dv.sub {N : Nat} {r s : Rat} (h : Dv N r) (g : Dv N s) : Dv N (r - s):=by
 obtain ⟨a,ha⟩:=h; obtain ⟨b,hb⟩:=g
 exact ⟨a - b,by rw [Rat.intCast_sub,← ha,← hb]; grind⟩
theorem Dv.mul {M N : Nat} {r s : Rat} (h : Dv M r) (g : Dv N s) : Dv (M * N) (r * s):=by
 obtain ⟨a,ha⟩:=h; obtain ⟨b,hb⟩:=g
 exact ⟨a * b,by rw [Rat.intCast_mul,← ha,← hb,Rat.natCast_mul]; grind⟩
theorem Dv.int (N : Nat) (i : Int) : Dv N (i : Rat):=⟨i * N,by rw [Rat.intCast_mul]; rfl⟩
theorem Dv.one (N : Nat) : Dv N 1:=Dv.int N 1
theorem Dv.zero (N : Nat) : Dv N 0:=Dv.int N 0
theorem Dv.right {N : Nat} {r : Rat} (h : Dv N r) (M : Nat) : Dv (N * M) r:=by
 have:=h.mul (Dv.one M); rwa [Rat.mul_one] at this
theorem Dv.left {N : Nat} {r : Rat} (h : Dv N r) (M : Nat) : Dv (M * N) r:=by
 have:=(Dv.one M).mul h; rwa [Rat.one_mul] at this
theorem Dv.comm {M N : Nat} {r : Rat} (h : Dv (M * N) r) : Dv (N * M) r:=by rwa [Nat.mul_comm]
theorem Dv.of (a : Int) {N : Nat} (hN : 0 < N) : Dv N (mkRat a N):=by
 refine ⟨a,?_⟩
 have hN' : (N : Rat) ≠ 0:=by
  intro h
  have : N = 0:=by exact_mod_cast h
  omega
 rw [Rat.mkRat_eq_div]
 exact Rat.div_mul_cancel hN'
theorem Dv.mk {N : Nat} {r : Rat} (hN : 0 < N) (h : Dv N r) (h0 : 0 ≤ r) (h1 : r ≤ 1) : ∃ a : Nat,a ≤ N ∧ r = mkRat a N:=by
 obtain ⟨z,hz⟩:=h
 have hN' : (0 : Rat) < N:=by exact_mod_cast hN
 have z0 : 0 ≤ z:=by
  have : (0 : Rat) ≤ (z : Rat):=by rw [← hz]; exact Rat.mul_nonneg h0 (Rat.le_of_lt hN')
  exact_mod_cast this
 have z1 : z ≤ N:=by
  have : (z : Rat) ≤ (N : Rat):=by
   rw [← hz]
   have:=Rat.mul_le_mul_of_nonneg_right h1 (Rat.le_of_lt hN')
   rwa [Rat.one_mul] at this
  exact_mod_cast this
 refine ⟨z.toNat,by omega,?_⟩
 have e : ((z.toNat : Nat) : Int) = z:=by omega
 rw [Rat.mkRat_eq_div]
 have hne : (N : Rat) ≠ 0:=fun h=>by rw [h] at hN'; exact absurd hN' (by decide)
 have e2 : (((z.toNat : Nat) : Int) : Rat) = r * N:=by rw [e,hz]
 rw [e2]
 exact (Rat.mul_div_cancel hne).symm
theorem Dv.cap {N : Nat} {r : Rat} (h : Dv N r) : Dv N (aS8 r):=by
 unfold aS8; split
 ·exact h
 ·exact Dv.one N
theorem Dv.cov (m : Man) {M N : Nat} {c d : Rat} (hc : Dv M c) (hd : Dv N d) : Dv (M * N) (m.cov c d):=by
 cases m
 case plus=>exact ((hc.right N).add (hd.left M)).cap
 case atop=>exact hd.left M
 case cut=>exact (hd.mul ((Dv.one M).sub hc)).comm
 all_goals exact ((hc.right N).add (hd.left M)).sub (hc.mul hd)
theorem Dv.col (m : Man) {M N : Nat} {c d x y : Rat} (hc : Dv M c) (hd : Dv N d) (hx : Dv M x) (hy : Dv N y) : Dv (M * N) (m.col c d x y):=by
 have r:=(hy.mul ((Dv.one M).sub hc)).comm
 cases m
 case over=>exact (hx.right N).add r
 case mult=>exact ((hx.mul hy).add (hx.mul ((Dv.one N).sub hd))).add r
 case screen=>exact ((hx.right N).add (hy.left M)).sub (hx.mul hy)
 case plus=>exact ((hx.right N).add (hy.left M)).cap
 case atop=>exact (hx.mul hd).add r
 case cut=>exact r
def Dn (k : Nat) (q : Q4) : Prop:=∃ N,0 < N ∧ N < 2 ^ k ∧ Dv N q.c ∧ Dv N q.x ∧ Dv N q.y ∧ Dv N q.z
def Ds (k : Nat) (s : Rat) : Prop:=∃ N,0 < N ∧ N < 2 ^ k ∧ Dv N s
theorem Y4 {a b j k : Nat} (h1 : a < 2 ^ j) (h2 : b < 2 ^ k) : a * b < 2 ^ (j + k):=by
 rw [Nat.pow_add]
 exact Nat.mul_lt_mul'' h1 h2
theorem Dn.bl (m : Man) {j k : Nat} {a b : Q4} (h : Dn j a) (g : Dn k b) : Dn (j + k) (m.bl a b):=by
 obtain ⟨M,m0,m1,hc,hx,hy,hz⟩:=h
 obtain ⟨N,n0,n1,gc,gx,gy,gz⟩:=g
 exact ⟨M * N,Nat.mul_pos m0 n0,Y4 m1 n1,hc.cov m gc,hc.col m gc hx gx,hc.col m gc hy gy,hc.col m gc hz gz⟩
def Q4.wt (q : Q4) (s : Rat) : Q4:=⟨q.c * s,q.x * s,q.y * s,q.z * s⟩
theorem Dn.wt {j k : Nat} {q : Q4} {s : Rat} (h : Dn j q) (g : Ds k s) : Dn (j + k) (q.wt s):=by
 obtain ⟨M,m0,m1,hc,hx,hy,hz⟩:=h
 obtain ⟨N,n0,n1,gs⟩:=g
 exact ⟨M * N,Nat.mul_pos m0 n0,Y4 m1 n1,hc.mul gs,hx.mul gs,hy.mul gs,hz.mul gs⟩
def Rul.tn (r : Rul) (s : Rat) (q : Q4) : Q4:=⟨q.c,r.mix s q.c q.x q.y q.z,r.mix s q.c q.y q.z q.x,r.mix s q.c q.z q.x q.y⟩
theorem Dv.third : Dv 3 third:=Dv.of 1 (by decide)
theorem Dv.new (r : Rul) {N : Nat} {c x y z : Rat} (hc : Dv N c) (hx : Dv N x) (hy : Dv N y) (hz : Dv N z) : Dv (N * 3) (r.new c x y z):=by
 cases r
 ·exact (hc.sub hx).right 3
 ·exact ((hx.add hy).add hz).mul Dv.third
 ·exact hy.right 3
theorem Dv.mix (r : Rul) {M N : Nat} {s c x y z : Rat} (hs : Dv M s) (hc : Dv N c) (hx : Dv N x) (hy : Dv N y) (hz : Dv N z) : Dv (M * (N * 3)) (r.mix s c x y z) :=
 (hs.mul (Dv.new r hc hx hy hz)).add (((Dv.one M).sub hs).mul (hx.right 3))
theorem Dn.tn (r : Rul) {j k : Nat} {q : Q4} {s : Rat} (h : Dn j q) (g : Ds k s) : Dn (k + (j + 2)) (r.tn s q):=by
 obtain ⟨N,n0,n1,hc,hx,hy,hz⟩:=h
 obtain ⟨M,m0,m1,gs⟩:=g
 exact ⟨M * (N * 3),Nat.mul_pos m0 (Nat.mul_pos n0 (by decide)),Y4 m1 (Y4 n1 (by decide)),(hc.right 3).left M,gs.mix r hc hx hy hz,gs.mix r hc hy hz hx,gs.mix r hc hz hx hy⟩
theorem Dn.mono {j k : Nat} {q : Q4} (h : Dn j q) (l : j ≤ k) : Dn k q:=by
 obtain ⟨N,n0,n1,r⟩:=h
 exact ⟨N,n0,Nat.lt_of_lt_of_le n1 (Nat.pow_le_pow_right (by decide) l),r⟩
def Q4.or (q : Q4) : Prop:=0 ≤ q.x ∧ 0 ≤ q.y ∧ 0 ≤ q.z ∧ q.x ≤ q.c ∧ q.y ≤ q.c ∧ q.z ≤ q.c ∧ q.c ≤ 1
theorem Q4.ok.or {k : Nat} {q : Q4} (h : q.ok k) : q.or:=⟨h.hx.nn,h.hy.nn,h.hz.nn,h.xc,h.yc,h.zc,h.hc.le⟩
structure Dq (k : Nat) (q : Q4) : Prop where
 o : q.or
 n : Dn k q
theorem bA1 {k N : Nat} {r : Rat} (n0 : 0 < N) (n1 : N < 2 ^ k) (d : Dv N r) (h0 : 0 ≤ r) (h1 : r ≤ 1) : IsSh k r:=by
 obtain ⟨a,ha,e⟩:=d.mk n0 h0 h1
 refine ⟨?_,h1⟩
 rw [e]
 exact Bd.of n0 (by omega) n1
theorem Dq.ok {k : Nat} {q : Q4} (h : Dq k q) : q.ok k:=by
 obtain ⟨⟨x0,y0,z0,xc,yc,zc,c1⟩,N,n0,n1,hc,hx,hy,hz⟩:=h
 have c0:=Rat.le_trans x0 xc
 exact ⟨bA1 n0 n1 hc c0 c1,(bA1 n0 n1 hx x0 (Rat.le_trans xc c1)).bd,(bA1 n0 n1 hy y0 (Rat.le_trans yc c1)).bd,(bA1 n0 n1 hz z0 (Rat.le_trans zc c1)).bd,xc,yc,zc⟩
theorem Dq.mono {j k : Nat} {q : Q4} (h : Dq j q) (l : j ≤ k) : Dq k q:=⟨h.o,h.n.mono l⟩
theorem Dq.zero (k : Nat) : Dq (k + 1) q0:=⟨(cU8 (k:=1) (by decide)).or,1,by decide,Nat.one_lt_two_pow (by omega),Dv.zero 1,Dv.zero 1,Dv.zero 1,Dv.zero 1⟩
structure Sr (k : Nat) (s : Rat) : Prop where
 h : IsSh k s
 n : Ds k s
theorem Dq.bl (m : Man) {j k : Nat} {a b : Q4} (h : Dq j a) (g : Dq k b) (l : j + k ≤ 1000) : Dq (j + k) (m.bl a b) ∧ aa2 [.str m.s,a.d,b.d] = some (m.bl a b).d:=by
 have r:=cY8 m (h.ok.mono (k:=j + k) (by omega)) (g.ok.mono (k:=j + k) (by omega)) (by omega)
 exact ⟨⟨r.2.or,h.n.bl m g.n⟩,r.1⟩
theorem bS5 {j k : Nat} {q : Q4} {s : Rat} (S : q.ok j) (hs : IsSh k s) (l : j + k ≤ 8000) : ab1 [q.d,fr s] = some (q.wt s).d:=by
 refine B0 (ρ:=[some (.val q.d),‹fr s›]) rfl ?_
 have f4 : ∀ a b c d : D,([a,b,c,d] : List D).length ≤ 16777216:=fun a b c d=>by show 4 ≤ 16777216; decide
 wp_walk using evC,aP7,Q4.d,Q4.wt,sp,f4,O3 S.hc.bd hs.bd l,O3 S.hx hs.bd l,O3 S.hy hs.bd l,O3 S.hz hs.bd l
theorem cS6 {q : Q4} {s : Rat} (h : q.or) (s0 : 0 ≤ s) (s1 : s ≤ 1) : (q.wt s).or:=by
 obtain ⟨x0,y0,z0,xc,yc,zc,c1⟩:=h
 have mono : ∀ {u v : Rat},u ≤ v → u * s ≤ v * s:=fun h=>Rat.mul_le_mul_of_nonneg_right h s0
 exact ⟨Rat.mul_nonneg x0 s0,Rat.mul_nonneg y0 s0,Rat.mul_nonneg z0 s0,mono xc,mono yc,mono zc,Rat.le_trans (ac3 (Rat.le_trans x0 xc) s1) c1⟩
theorem Dq.wt {j k : Nat} {q : Q4} {s : Rat} (h : Dq j q) (g : Sr k s) : Dq (j + k) (q.wt s):=⟨cS6 h.o g.h.bd.nn g.h.le,h.n.wt g.n⟩
theorem Dq.tn (r : Rul) {j k : Nat} {q : Q4} {s : Rat} (h : Dq j q) (g : Sr k s) (l : j + k + 2 ≤ 1000) : Dq (j + k + 2) (r.tn s q) ∧ aA4 [.str r.s,q.d,fr s] = some (r.tn s q).d:=by
 have t:=bT6 r (h.ok.mono (k:=j + k) (by omega)) (g.h.mono (k:=j + k) (by omega)) (by omega)
 refine ⟨⟨Q4.ok.or (q:=r.tn s q) t.2,?_⟩,t.1⟩
 have:=h.n.tn r g.n
 rwa [show k + (j + 2) = j + k + 2 by omega] at this
end Sh
namespace Sh
open PySem G L2
inductive Nd where
 | layer (nm : D) (m : Man) (s : Rat) (sh : Bool) (lf tp : Int) (mk : Option (List Rat)) (w h : Nat) (l : List Q4) (kb : Nat)
 | tone (nm : D) (r : Rul) (s : Rat) (sh : Bool)
 | group (nm : D) (m : Man) (s : Rat) (sh : Bool) (ns : List Nd)
def mkD : Option (List Rat) → D
 | none=>.none
 | some ms=>.tuple (ms.map fr)
mutual
def Nd.d : Nd → D
 | .layer nm m s sh lf tp mk w h l _=>.tuple [.str "layer", nm,.str m.s,fr s,.bool sh,.int lf,.int tp,mkD mk,shD w h l]
 | .tone nm r s sh=>.tuple [.str "tone", nm,.str r.s,fr s,.bool sh]
 | .group nm m s sh ns=>.tuple [.str "group", nm,.str m.s,fr s,.bool sh,.tuple (Nd.ds ns)]
def Nd.ds : List Nd → List D
 | []=>[]
 | n :: r=>n.d :: Nd.ds r
end
def bt8 (mk : Option (List Rat)) (w h : Nat) (l : List Q4) (x y : Int) : Q4:=match mk with
 | none=>atQ w h l x y
 | some ms=>if 0 ≤ x ∧ x < w ∧ 0 ≤ y ∧ y < h then (atQ w h l x y).wt (ms.getD (y * w + x).toNat 1) else atQ w h l x y
def bZ7 (s : Rat) (lf tp : Int) (mk : Option (List Rat)) (w h : Nat) (l : List Q4) (x y : Int) : Q4:=(bt8 mk w h l (x - lf) (y - tp)).wt s
mutual
def Nd.ab (x y : Int) : Nd → Q4 → Q4
 | .layer _ m s sh lf tp mk w h l _,q=>if sh = true then m.bl (bZ7 s lf tp mk w h l x y) q else q
 | .tone _ r s sh,q=>if sh = true then r.tn s q else q
 | .group _ m s sh ns,q=>if sh = true then m.bl ((Nd.sw x y ns q0).wt s) q else q
def Nd.sw (x y : Int) : List Nd → Q4 → Q4
 | [],q=>q
 | n :: r,q=>Nd.sw x y r (Nd.ab x y n q)
end
mutual
def Nd.Ok : Nd → Prop
 | .layer _ _ s _ _ _ mk w h l kb=>Sr 4 s ∧ ShOk kb w h l ∧ (∀ q ∈ l,Dq kb q) ∧ (∀ ms,mk = some ms → ms.length = w * h ∧ ∀ r ∈ ms,Sr 4 r) ∧ 1 ≤ kb
 | .tone _ _ s _=>Sr 4 s
 | .group _ _ s _ ns=>Sr 4 s ∧ Nd.Oks ns
def Nd.Oks : List Nd → Prop
 | []=>True
 | n :: r=>n.Ok ∧ Nd.Oks r
end
mutual
def Nd.wg : Nd → Nat
 | .layer _ _ _ _ _ _ _ _ _ _ kb=>kb + 8
 | .tone ..=>6
 | .group _ _ _ _ ns=>5 + Nd.wgs ns
def Nd.wgs : List Nd → Nat
 | []=>0
 | n :: r=>n.wg + Nd.wgs r
end
mutual
def Nd.dp : Nd → Nat
 | .layer ..=>0
 | .tone ..=>0
 | .group _ _ _ _ ns=>1 + Nd.dps ns
def Nd.dps : List Nd → Nat
 | []=>0
 | n :: r=>max n.dp (Nd.dps r)
end
theorem dc9 : eqD (.str "layer") (.str "tone") = some (.bool false):=B3 (by decide +kernel) (by decide +kernel) (by decide +kernel)
theorem dc8 : eqD (.str "tone") (.str "tone") = some (.bool true):=B3 (by decide +kernel) (by decide +kernel) (by decide +kernel)
theorem dd1 : eqD (.str "group") (.str "tone") = some (.bool false):=B3 (by decide +kernel) (by decide +kernel) (by decide +kernel)
theorem dd0 : eqD (.str "layer") (.str "layer") = some (.bool true):=B3 (by decide +kernel) (by decide +kernel) (by decide +kernel)
theorem dd3 : eqD (.str "group") (.str "layer") = some (.bool false):=B3 (by decide +kernel) (by decide +kernel) (by decide +kernel)
theorem cP8 : eqD (.str "layer") (.str "group") = some (.bool false):=B3 (by decide +kernel) (by decide +kernel) (by decide +kernel)
theorem cP9 : eqD (.str "group") (.str "group") = some (.bool true):=B3 (by decide +kernel) (by decide +kernel) (by decide +kernel)
section
variable {nm : D} {m : Man} {r : Rul} {s : Rat} {sh : Bool} {lf tp : Int} {mk : Option (List Rat)} {w h : Nat} {l : List Q4} {kb : Nat} {ns : List Nd}
theorem bc6 : P1 [Nd.d (.layer nm m s sh lf tp mk w h l kb)] = some (.bool sh):=by rw [Nd.d]; rfl
theorem aY1 : P1 [Nd.d (.tone nm r s sh)] = some (.bool sh):=by rw [Nd.d]; rfl
theorem bd4 : P1 [Nd.d (.group nm m s sh ns)] = some (.bool sh):=by rw [Nd.d]; rfl
theorem bZ9 : M3 [Nd.d (.layer nm m s sh lf tp mk w h l kb)] = some (.bool false):=by rw [Nd.d]; exact B0 (ρ:=[‹.tuple [.str "layer", nm,.str m.s,fr s,.bool sh,.int lf,.int tp,mkD mk,shD w h l]›]) rfl (congrArg (Option.map Fl.rt) dc9)
theorem bq4 : M3 [Nd.d (.tone nm r s sh)] = some (.bool true):=by rw [Nd.d]; exact B0 (ρ:=[‹.tuple [.str "tone", nm,.str r.s,fr s,.bool sh]›]) rfl (congrArg (Option.map Fl.rt) dc8)
theorem cd5 : M3 [Nd.d (.group nm m s sh ns)] = some (.bool false):=by rw [Nd.d]; exact B0 (ρ:=[‹.tuple [.str "group", nm,.str m.s,fr s,.bool sh,.tuple (Nd.ds ns)]›]) rfl (congrArg (Option.map Fl.rt) dd1)
theorem bC5 : V1 [Nd.d (.layer nm m s sh lf tp mk w h l kb)] = some (.bool true):=by rw [Nd.d]; exact B0 (ρ:=[‹.tuple [.str "layer", nm,.str m.s,fr s,.bool sh,.int lf,.int tp,mkD mk,shD w h l]›]) rfl (congrArg (Option.map Fl.rt) dd0)
theorem bD4 : V1 [Nd.d (.group nm m s sh ns)] = some (.bool false):=by rw [Nd.d]; exact B0 (ρ:=[‹.tuple [.str "group", nm,.str m.s,fr s,.bool sh,.tuple (Nd.ds ns)]›]) rfl (congrArg (Option.map Fl.rt) dd3)
theorem bl1 : O7 [Nd.d (.layer nm m s sh lf tp mk w h l kb)] = some (.str m.s):=by rw [Nd.d]; rfl
theorem bm1 : O7 [Nd.d (.group nm m s sh ns)] = some (.str m.s):=by rw [Nd.d]; rfl
theorem cE7 : j8 [Nd.d (.tone nm r s sh)] = some (.str r.s):=by rw [Nd.d]; rfl
theorem aN9 : L1 [Nd.d (.layer nm m s sh lf tp mk w h l kb)] = some (fr s):=by rw [Nd.d]; rfl
theorem aL3 : L1 [Nd.d (.tone nm r s sh)] = some (fr s):=by rw [Nd.d]; rfl
theorem aO6 : L1 [Nd.d (.group nm m s sh ns)] = some (fr s):=by rw [Nd.d]; rfl
theorem cJ9 : k5 [Nd.d (.layer nm m s sh lf tp mk w h l kb)] = some (.int lf):=by rw [Nd.d]; rfl
theorem cW9 : ab2 [Nd.d (.layer nm m s sh lf tp mk w h l kb)] = some (.int tp):=by rw [Nd.d]; rfl
theorem bu2 : aa0 [Nd.d (.layer nm m s sh lf tp mk w h l kb)] = some (mkD mk):=by rw [Nd.d]; rfl
theorem bc7 : U8 [Nd.d (.layer nm m s sh lf tp mk w h l kb)] = some (shD w h l):=by rw [Nd.d]; rfl
theorem ao5 : C5 [Nd.d (.group nm m s sh ns)] = some (.tuple (Nd.ds ns)):=by rw [Nd.d]; rfl
end
theorem atF (ms : List Rat) {i : Int} (h0 : 0 ≤ i) (h1 : i < ms.length) : L2.atI (ms.map fr) i = some (fr (ms.getD i.toNat 1)):=by
 unfold L2.atI
 rw [List.length_map,av3 h0 h1,xbs,List.getElem?_map,List.getD_eq_getElem?_getD]
 have : i.toNat < ms.length:=by omega
 rw [List.getElem?_eq_getElem this]; rfl
theorem bD2 {k : Nat} {ms : List Rat} (h : ∀ r ∈ ms,Sr k r) {i : Nat} (hi : i < ms.length) : Sr k (ms.getD i 1):=by
 rw [List.getD_eq_getElem?_getD,List.getElem?_eq_getElem hi]
 exact h _ (List.getElem_mem hi)
theorem bf7 {w h kb : Nat} {l : List Q4} (k1 : 1 ≤ kb) (H : ∀ q ∈ l,Dq kb q) (x y : Int) : Dq kb (atQ w h l x y):=by
 unfold atQ
 split
 ·rw [List.getD_eq_getElem?_getD]
  cases e : l[(y * (w : Int) + x).toNat]? with
  | none=>exact (Dq.zero 0).mono (by omega)
  | some q=>exact H q (List.mem_of_getElem? e)
 ·exact (Dq.zero 0).mono (by omega)
theorem bB9 {mk : Option (List Rat)} {w h kb : Nat} {l : List Q4} (k1 : 1 ≤ kb) (H : ∀ q ∈ l,Dq kb q) (M : ∀ ms,mk = some ms → ms.length = w * h ∧ ∀ r ∈ ms,Sr 4 r) (x y : Int) : Dq (kb + 4) (bt8 mk w h l x y):=by
 unfold bt8
 split
 ·exact (bf7 k1 H x y).mono (by omega)
 ·rename_i ms
  split
  ·rename_i b
   have pn:=aD6 b
   have hl:=(M ms rfl).1
   exact (bf7 k1 H x y).wt (bD2 (M ms rfl).2 (by omega))
  ·exact (bf7 k1 H x y).mono (by omega)
theorem bC4 {s : Rat} {lf tp : Int} {mk : Option (List Rat)} {w h kb : Nat} {l : List Q4} (k1 : 1 ≤ kb) (hs : Sr 4 s) (H : ∀ q ∈ l,Dq kb q) (M : ∀ ms,mk = some ms → ms.length = w * h ∧ ∀ r ∈ ms,Sr 4 r) (x y : Int) : Dq (kb + 8) (bZ7 s lf tp mk w h l x y):=(bB9 k1 H M _ _).wt hs
theorem cP0 : isB .none .none = some (.bool true):=rfl
theorem bu5 (ds : List D) : isB (.tuple ds) .none = some (.bool false):=rfl
theorem bK2 {nm : D} {m : Man} {s : Rat} {sh : Bool} {lf tp : Int} {mk : Option (List Rat)} {w h kb : Nat} {l : List Q4} (k1 : 1 ≤ kb) (k9 : kb ≤ 900) (S : ShOk kb w h l) (H : ∀ q ∈ l,Dq kb q) (M : ∀ ms,mk = some ms → ms.length = w * h ∧ ∀ r ∈ ms,Sr 4 r) (x y : Int) :
  n9 [Nd.d (.layer nm m s sh lf tp mk w h l kb),.int x,.int y] = some (bt8 mk w h l x y).d:=by
 have hp : Y8 [shD w h l,.int x,.int y] = _:=ay6 w h (.tuple (l.map Q4.d)) x y
 have sa:=br1 S x y
 refine B0 (ρ:=[‹Nd.d (.layer nm m s sh lf tp mk w h l kb)›,‹.int x›,‹.int y›,none,none,none]) rfl ?_
 cases mk with
 | none=>wp_walk using evD,n5,bc7,bu2,sa,mkD,cP0,bt8
 | some ms =>
  by_cases b : 0 ≤ x ∧ x < w ∧ 0 ≤ y ∧ y < h
  ·rw [decide_eq_true b] at hp
   have nm : O8 [shD w h l,.int x,.int y] = _:=aU7 (.tuple (l.map Q4.d)) S.w8 S.h8 b
   have pn:=aD6 b
   have hl:=(M ms rfl).1
   have af:=atF ms pn.1 (by rw [hl]; exact pn.2)
   have hs:=bD2 (M ms rfl).2 (show (y * (w : Int) + x).toNat < ms.length by omega)
   have wo:=bS5 (bf7 (w:=w) (h:=h) k1 H x y).ok hs.h (by omega)
   wp_walk using evD,n5,bc7,bu2,sa,mkD,bu5,hp,nm,af,wo,bt8,if_pos b
  ·rw [decide_eq_false b] at hp
   wp_walk using evD,n5,bc7,bu2,sa,mkD,bu5,hp,bt8,if_neg b
theorem bn8 {nm : D} {m : Man} {s : Rat} {sh : Bool} {lf tp : Int} {mk : Option (List Rat)} {w h kb : Nat} {l : List Q4} (k1 : 1 ≤ kb) (k9 : kb ≤ 900) (hs : Sr 4 s) (S : ShOk kb w h l) (H : ∀ q ∈ l,Dq kb q) (M : ∀ ms,mk = some ms → ms.length = w * h ∧ ∀ r ∈ ms,Sr 4 r) (f : Nat) (x y : Int) :
  S6 (f + 1) [Nd.d (.layer nm m s sh lf tp mk w h l kb),.int x,.int y] = some (bZ7 s lf tp mk w h l x y).d:=by
 refine B0 (g:=af8 (f9 f)) (ρ:=[‹Nd.d (.layer nm m s sh lf tp mk w h l kb)›,‹.int x›,‹.int y›,none]) rfl ?_
 have mo:=bK2 (nm:=nm) (m:=m) (s:=s) (sh:=sh) (lf:=lf) (tp:=tp) k1 k9 S H M (x - lf) (y - tp)
 have wo:=bS5 (bB9 k1 H M (x - lf) (y - tp)).ok hs.h (by omega)
 wp_walk using evD,af8,bC5,cJ9,cW9,mo,aN9,wo,bZ7
theorem bn9 {nm : D} {m : Man} {s : Rat} {sh : Bool} {ns : List Nd} {q : Q4} {j : Nat} (hs : Sr 4 s) (f : Nat) (x y : Int) (e : R8 f [.tuple (Nd.ds ns),.int x,.int y] = some q.d) (hq : Dq j q) (l : j + 4 ≤ 8000) :
  S6 (f + 1) [Nd.d (.group nm m s sh ns),.int x,.int y] = some (q.wt s).d:=by
 refine B0 (g:=af8 (f9 f)) (ρ:=[‹Nd.d (.group nm m s sh ns)›,‹.int x›,‹.int y›,none]) rfl ?_
 have e' : f9 f 2 [.tuple (Nd.ds ns),.int x,.int y] = some q.d:=e
 have wo:=bS5 hq.ok hs.h l
 wp_walk using evD,af8,bD4,ao5,e',aO6,wo
mutual
theorem ch8 (x y : Int) : ∀ (n : Nd) (f : Nat) (q : Q4) (j : Nat),n.Ok → 3 * n.dp + 2 ≤ f → Dq j q → j + n.wg ≤ 900 → R9 f [n.d,q.d,.int x,.int y] = some (Nd.ab x y n q).d ∧ Dq (j + n.wg) (Nd.ab x y n q)
 | .layer nm m s sh lf tp mk w h l kb,f,q,j,ok,hf,hq,hj=>by
  obtain ⟨f,rfl⟩ : ∃ g,f = g + 2:=⟨f - 2,by omega⟩
  simp only [Nd.Ok] at ok
  simp only [Nd.wg] at hj
  obtain ⟨hs,S,H,M,k1⟩:=ok
  have bo : f9 (f + 1) 0 [Nd.d (.layer nm m s sh lf tp mk w h l kb),.int x,.int y] = _:=bn8 (nm:=nm) (m:=m) (sh:=sh) k1 (by omega) hs S H M f x y
  have b:=Dq.bl m (bC4 (lf:=lf) (tp:=tp) k1 hs H M x y) hq (by omega)
  have st : C4 (M5 (f9 (f + 1))) 4 [Nd.d (.layer nm m s sh lf tp mk w h l kb),q.d,.int x,.int y] = some (Nd.ab x y (.layer nm m s sh lf tp mk w h l kb) q).d:=by
   refine B0 (ρ:=[‹Nd.d (.layer nm m s sh lf tp mk w h l kb)›,some (.val q.d),‹.int x›,‹.int y›]) rfl ?_
   cases sh with
   | true=>wp_walk using evD,M5,bc6,bZ9,bl1,bo,b.2,Nd.ab
   | false=>wp_walk using evD,M5,bc6,Nd.ab
  refine ⟨st,?_⟩
  simp only [Nd.ab,Nd.wg]
  split
  ·exact b.1.mono (by omega)
  ·exact hq.mono (by omega)
 | .tone nm r s sh,f,q,j,ok,hf,hq,hj=>by
  obtain ⟨f,rfl⟩ : ∃ g,f = g + 2:=⟨f - 2,by omega⟩
  simp only [Nd.Ok] at ok
  simp only [Nd.wg] at hj
  have b:=Dq.tn r hq ok (by omega)
  have st : C4 (M5 (f9 (f + 1))) 4 [Nd.d (.tone nm r s sh),q.d,.int x,.int y] = some (Nd.ab x y (.tone nm r s sh) q).d:=by
   refine B0 (ρ:=[‹Nd.d (.tone nm r s sh)›,some (.val q.d),‹.int x›,‹.int y›]) rfl ?_
   cases sh with
   | true=>wp_walk using evD,M5,aY1,bq4,cE7,aL3,b.2,Nd.ab
   | false=>wp_walk using evD,M5,aY1,Nd.ab
  refine ⟨st,?_⟩
  simp only [Nd.ab,Nd.wg]
  split
  ·exact b.1.mono (by omega)
  ·exact hq.mono (by omega)
 | .group nm m s sh ns,f,q,j,ok,hf,hq,hj=>by
  simp only [Nd.dp] at hf
  obtain ⟨f,rfl⟩ : ∃ g,f = g + 3:=⟨f - 3,by omega⟩
  simp only [Nd.Ok] at ok
  simp only [Nd.wg] at hj
  obtain ⟨hs,oks⟩:=ok
  have lp:=loop_ok x y ns f q0 1 oks (by omega) (Dq.zero 0) (by omega)
  have sb : R8 (f + 1) [.tuple (Nd.ds ns),.int x,.int y] = some (Nd.sw x y ns q0).d:=by
   obtain ⟨a4,e4⟩:=lp.1 (‹.tuple (Nd.ds ns)›) none
   refine B0 (g:=aa9 (f9 f)) (ρ:=[‹.tuple (Nd.ds ns)›,‹.int x›,‹.int y›,none,none]) rfl ?_
   simp only [cF5] at e4
   simp only [aa9,A6,B4,dC,U4,G1,A1,A9,xms,xbs,xw0,xw1,xg0,xg1,e4]
  have bo : f9 (f + 2) 0 [Nd.d (.group nm m s sh ns),.int x,.int y] = _:=bn9 (nm:=nm) (m:=m) (sh:=sh) hs (f + 1) x y sb lp.2 (by omega)
  have b:=Dq.bl m (lp.2.wt hs) hq (by omega)
  have st : C4 (M5 (f9 (f + 2))) 4 [Nd.d (.group nm m s sh ns),q.d,.int x,.int y] = some (Nd.ab x y (.group nm m s sh ns) q).d:=by
   refine B0 (ρ:=[‹Nd.d (.group nm m s sh ns)›,some (.val q.d),‹.int x›,‹.int y›]) rfl ?_
   cases sh with
   | true=>wp_walk using evD,M5,bd4,cd5,bm1,bo,b.2,Nd.ab
   | false=>wp_walk using evD,M5,bd4,Nd.ab
  refine ⟨st,?_⟩
  simp only [Nd.ab,Nd.wg]
  split
  ·exact b.1.mono (by omega)
  ·exact hq.mono (by omega)
theorem loop_ok (x y : Int) : ∀ (ns : List Nd) (f : Nat) (q : Q4) (j : Nat),Nd.Oks ns → 3 * Nd.dps ns + 2 ≤ f → Dq j q → j + Nd.wgs ns ≤ 900 →
  (∀ a0 a4 : Option B,∃ a4',ab8 (B1 4) (B4 3 (A2 (f9 f 1) (A0 (A1 4) (A0 (A1 3) (A0 (A1 1) (A0 (A1 2) A3)))))) (Nd.ds ns) [a0,‹.int x›,‹.int y›,some (.val q.d),a4] = some (.nx [a0,‹.int x›,‹.int y›,some (.val (Nd.sw x y ns q).d),a4'])) ∧ Dq (j + Nd.wgs ns) (Nd.sw x y ns q)
 | [],f,q,j,ok,hf,hq,hj=>by
  simp only [Nd.sw,Nd.wgs]
  exact ⟨fun a0 a4=>⟨a4,by simp only [Nd.ds]; rfl⟩,hq⟩
 | n :: r,f,q,j,ok,hf,hq,hj=>by
  simp only [Nd.Oks] at ok
  simp only [Nd.dps] at hf
  simp only [Nd.wgs] at hj
  have a:=ch8 x y n f q j ok.1 (by omega) hq (by omega)
  have b:=loop_ok x y r f (Nd.ab x y n q) (j + n.wg) ok.2 (by omega) a.2 (by omega)
  have e : f9 f 1 [n.d,q.d,.int x,.int y] = _:=a.1
  simp only [Nd.sw,Nd.wgs]
  refine ⟨fun a0 a4=>?_,by rw [← Nat.add_assoc]; exact b.2⟩
  obtain ⟨a4',e'⟩:=b.1 a0 (some (.val n.d))
  refine ⟨a4',?_⟩
  simp only [Nd.ds,ab8,B1,B4,A2,A0,A3,A1,xbs,xms,xw0,xw1,xg0,xg1,e,e']
end
theorem bh9 (x y : Int) (ns : List Nd) (f : Nat) (ok : Nd.Oks ns) (hf : 3 * Nd.dps ns + 2 ≤ f) (hj : 1 + Nd.wgs ns ≤ 900) : R8 (f + 1) [.tuple (Nd.ds ns),.int x,.int y] = some (Nd.sw x y ns q0).d ∧ Dq (1 + Nd.wgs ns) (Nd.sw x y ns q0):=by
 have lp:=loop_ok x y ns f q0 1 ok hf (Dq.zero 0) hj
 refine ⟨?_,lp.2⟩
 obtain ⟨a4,e4⟩:=lp.1 (‹.tuple (Nd.ds ns)›) none
 refine B0 (g:=aa9 (f9 f)) (ρ:=[‹.tuple (Nd.ds ns)›,‹.int x›,‹.int y›,none,none]) rfl ?_
 simp only [cF5] at e4
 simp only [aa9,A6,B4,dC,U4,G1,A1,A9,xms,xbs,xw0,xw1,xg0,xg1,e4]
end Sh
namespace Sh
open PySem G L2
theorem cw4 (a b c d e f g h i : D) : L2.atI [a,b,c,d,e,f,g,h,i] 0 = some a:=rfl
theorem cw6 (a b c d e f : D) : L2.atI [a,b,c,d,e,f] 0 = some a:=rfl
theorem cw5 (a b c d e f : D) : L2.atI [a,b,c,d,e,f] 5 = some f:=rfl
theorem cw7 (a b c d e : D) : L2.atI [a,b,c,d,e] 0 = some a:=rfl
theorem bk4 : aR7 .none .none = some (.bool false):=rfl
end Sh
namespace Sh
open PySem G L2
theorem B7 {f g : DS} {ρ ρ' : Rho} (h : f ρ = some (.nx ρ')) : A6 f g ρ = g ρ':=by unfold A6; rw [h]; rfl
theorem br5 {f g : DS} {ρ : Rho} {d : D} (h : f ρ = some (.rt d)) : A6 f g ρ = some (.rt d):=by unfold A6; rw [h]; rfl
theorem o7 {α : Type} {g : D → Rho → Option Rho} {f : DS} {h : α → D} {I : Nat → Rho → Prop} : ∀ (l : List α) (i : Nat) (ρ : Rho),I i ρ → (∀ (j : Nat) (a : α),l[j]? = some a → ∀ ρ,I (i + j) ρ → ∃ ρ1,g (h a) ρ = some ρ1 ∧ ∃ ρ',f ρ1 = some (.nx ρ') ∧ I (i + j + 1) ρ') → ∃ ρ',ab8 g f (l.map h) ρ = some (.nx ρ') ∧ I (i + l.length) ρ'
 | [],i,ρ,h0,_=>⟨ρ,rfl,h0⟩
 | a :: l,i,ρ,h0,H=>by
  obtain ⟨ρ1,e1,ρ2,e2,h2⟩:=H 0 a rfl ρ h0
  obtain ⟨ρ',e3,h3⟩:=o7 l (i + 1) ρ2 (by simpa using h2) (fun j b hb ρ hρ=>by
   have:=H (j + 1) b (by simpa using hb) ρ (by rwa [show i + (j + 1) = i + 1 + j by omega])
   rwa [show i + (j + 1) + 1 = i + 1 + j + 1 by omega] at this)
  refine ⟨ρ',?_,by rw [List.length_cons,show i + (l.length + 1) = i + 1 + l.length by omega]; exact h3⟩
  simp only [xmc,ab8,e1,xbs,e2,e3]
theorem bm2 {α : Type} (x : α) {n : Nat} {P : Nat → α → Prop} (h : ∀ j,j < n → ∃ a,P j a) : ∃ f : Nat → α,∀ j,j < n → P j (f j):=by
 refine ⟨fun j=>if hj : j < n then Classical.choose (h j hj) else x,fun j hj=>?_⟩
 simp only [dif_pos hj]
 exact Classical.choose_spec (h j hj)
theorem K1 (ns : List Int) (hn : ns.length ≤ 63) {e m' : Int} (k m : Nat) (he : e = (k : Int)) (hm' : m' = (m : Int)) (hk : k < 2 ^ 60) (hm : 0 < m) : ∃ n : Nat,A7 [scr ns,.int e,.int m'] = some (.int n) ∧ n < m:=by
 subst he hm'
 exact bn1 ns k m hn hk hm
theorem bi0 (ns : List Int) (hn : ns.length ≤ 63) {e : Int} (k : Nat) (he : e = (k : Int)) (hk : k < 2 ^ 40) : ∃ r,P9 [scr ns,.int e] = some (fr r) ∧ IsSh 4 r:=by
 subst he
 exact ar2 ns k hn hk
theorem bU7 (ns : List Int) (hn : ns.length ≤ 63) {e : Int} (k w h : Nat) (he : e = (k : Int)) (hk : k < 2 ^ 20) (w1 : 1 ≤ w) (w8 : w ≤ 8) (h1 : 1 ≤ h) (h8 : h ≤ 8) : ∃ l : List Q4,af9 [scr ns,.int e,.int w,.int h] = some (shD w h l) ∧ ShOk 8 w h l:=by
 subst he
 exact bc5 ns k w h hn hk w1 w8 h1 h8
theorem ay9 (r : Rat) : Dv r.den r:=by
 have:=Dv.of r.num (M8 r)
 rwa [Rat.mkRat_self] at this
theorem bh7 {k : Nat} {s : Rat} (h : IsSh k s) : Sr k s:=⟨h,s.den,M8 s,h.bd.den,ay9 s⟩
theorem cv8 {q : Q4} (h : q.ok 8) : Dq 32 q :=
 ⟨h.or,q.c.den * q.x.den * (q.y.den * q.z.den),Nat.mul_pos (Nat.mul_pos (M8 _) (M8 _)) (Nat.mul_pos (M8 _) (M8 _)),Y4 (Y4 h.hc.bd.den h.hx.den) (Y4 h.hy.den h.hz.den),
  ((ay9 q.c).right _).right _,((ay9 q.x).left _).right _,((ay9 q.y).right _).left _,((ay9 q.z).left _).left _⟩
def SOk (s : Str) : Prop:=∀ c ∈ s.cps.toList,97 ≤ c ∧ c ≤ 122
theorem SOk.ok {s : Str} (h : SOk s) : PyData.canLay0 (.str s) = true:=by
 show s.cps.all (· < 0x110000) = true
 rw [Array.all_eq_true']
 intro c hc
 exact decide_eq_true (by have:=h c (Array.mem_toList_iff.mpr hc); omega)
theorem SOk.app {a b : Str} (ha : SOk a) (hb : SOk b) : SOk (a ++ b):=by
 intro c hc
 have : c ∈ (a.cps ++ b.cps).toList:=hc
 rw [Array.toList_append] at this
 rcases List.mem_append.mp this with h | h
 ·exact ha c h
 ·exact hb c h
theorem cO8 (x : Str) (n : Nat) (h : n < x.length) (hx : x.length ≤ 1000) : ∃ s : Str,atS x (n : Int) = some (.str s) ∧ s.length = 1 ∧ (SOk x → SOk s):=by
 unfold atS
 rw [if_pos (by omega)]
 have hl : x.cps.toList.length = x.length:=by unfold Str.length; simp
 have h' : n < x.cps.toList.length:=by omega
 have : atI x.cps.toList (n : Int) = some x.cps.toList[n]:=by
  unfold atI
  rw [av3 (by omega) (by omega),xbs,Int.toNat_natCast,List.getElem?_eq_getElem h']
 rw [this]
 refine ⟨⟨#[x.cps.toList[n]]⟩,rfl,rfl,fun hs c hc=>?_⟩
 have : c = x.cps.toList[n]:=by simpa using hc
 rw [this]
 exact hs _ (List.getElem_mem h')
theorem cj8 (x : Str) (lo hi : Option Int) : (slS x lo hi).length ≤ x.length:=by
 unfold slS
 split
 ·exact Nat.le_refl _
 ·unfold Str.length
  rw [List.size_toArray]
  exact Nat.le_trans (List.length_filterMap_le ..) (PyProof.Rows.indices_len_le ..)
theorem cj7 {x : Str} (h : SOk x) (lo hi : Option Int) : SOk (slS x lo hi):=by
 unfold slS
 split
 ·exact h
 ·intro c hc
  simp only [List.toList_toArray] at hc
  obtain ⟨i,_,e⟩:=List.mem_filterMap.mp hc
  exact h c (Array.mem_toList_iff.mpr (Array.mem_of_getElem? e))
theorem bV4 {x : Str} (h : SOk x) (k : Int) (hk : k = 1 ∨ k = 2) : SOk (aG9 x k):=by
 unfold aG9
 split
 ·exact h
 ·rename_i e
  rcases hk with rfl | rfl
  ·simp at e
  ·intro c hc
   have : c ∈ ((#[] ++ x.cps) ++ x.cps).toList:=hc
   simp at this
   exact h c (Array.mem_toList_iff.mpr this)
theorem cd0 {a b : Str} (ha : SOk a) (hb : SOk b) : SOk (Builtin.Str.glued "" [a,b]):=by
 intro c hc
 have : c ∈ (a.cps ++ ("" : Str).cps ++ b.cps).toList:=hc
 rw [Array.toList_append,Array.toList_append] at this
 rcases List.mem_append.mp this with h | h
 ·rcases List.mem_append.mp h with h | h
  ·exact ha c h
  ·exact absurd h (by simp [show ("" : Str).cps = #[] from rfl])
 ·exact hb c h
theorem ct5 : SOk "abcdefghijklmnopqrstuvwxyz" := by
 have : ("abcdefghijklmnopqrstuvwxyz" : Str).cps.toList.all (fun c=>decide (97 ≤ c ∧ c ≤ 122)) = true:=by decide +kernel
 intro c hc
 exact of_decide_eq_true (List.all_eq_true.mp this c hc)
def ltr (k : Nat) : Str:=⟨#[97 + k]⟩
theorem cJ6 : ∀ k : Nat,k < 14 → atS "abcdefghijklmn" (k : Int) = some (.str (ltr k)):=by
 have e : ("abcdefghijklmn" : Str) = ⟨#[97,98,99,100,101,102,103,104,105,106,107,108,109,110]⟩:=by decide +kernel
 intro k hk
 rw [e]
 rcases (show k = 0 ∨ k = 1 ∨ k = 2 ∨ k = 3 ∨ k = 4 ∨ k = 5 ∨ k = 6 ∨ k = 7 ∨ k = 8 ∨ k = 9 ∨ k = 10 ∨ k = 11 ∨ k = 12 ∨ k = 13 by omega) with rfl | rfl | rfl | rfl | rfl | rfl | rfl | rfl | rfl | rfl | rfl | rfl | rfl | rfl <;> rfl
theorem bC2 (k : Nat) (h : k < 14) : SOk (ltr k):=by
 intro c hc
 have : c = 97 + k:=by simpa [ltr] using hc
 omega
def nmS (b : Bool) (k : Nat) (y : Str) : Str:=if b = true then ltr k ++ y else y ++ ltr k
theorem cn3 (b : Bool) {k : Nat} {y : Str} (hk : k < 14) (hy : SOk y) : SOk (nmS b k y):=by
 unfold nmS
 split
 ·exact (bC2 k hk).app hy
 ·exact hy.app (bC2 k hk)
theorem bB5 {b : Bool} {i j : Nat} {y z : Str} (e : nmS b i y = nmS b j z) : i = j:=by
 unfold nmS at e
 cases b with
 | true =>
  have e : (ltr i).cps ++ y.cps = (ltr j).cps ++ z.cps:=congrArg Str.cps e
  have e:=congrArg (fun a=>a.toList.head?) e
  simp [ltr] at e
  omega
 | false =>
  have e : y.cps ++ (ltr i).cps = z.cps ++ (ltr j).cps:=congrArg Str.cps e
  have e:=congrArg (fun a=>a.toList.getLast?) e
  simp [ltr] at e
  omega
theorem bi3 (x : Str) (k : Int) (hk : k = 1 ∨ k = 2) : (aG9 x k).length ≤ 2 * x.length:=by
 unfold aG9
 split
 ·omega
 ·rename_i e
  rcases hk with rfl | rfl
  ·simp at e
  ·show ((#[] ++ x.cps) ++ x.cps).size ≤ 2 * x.cps.size
   simp; omega
theorem cv1 (a b : Str) (ha : a.length = 1) (hb : b.length = 1) : aP1 (dC (.str "")) (fun _=>some (false,[.str a,.str b])) [] = some (.str (Builtin.Str.glued "" [a,b])) ∧ (Builtin.Str.glued "" [a,b]).length = 2:=by
 have h2 : (Builtin.Str.glued "" [a,b]).length = 2:=by
  show (a.cps ++ ("" : Str).cps ++ b.cps).size = 2
  unfold Str.length at ha hb
  rw [Array.size_append,Array.size_append,ha,hb]
  rfl
 have h1 : ay3 "" [a,b] ≤ 16777216:=by
  show 0 + a.length + ("" : Str).length + b.length + ("" : Str).length ≤ 16777216
  have : ("" : Str).length = 0:=rfl
  omega
 refine ⟨?_,h2⟩
 show (if ay3 "" [a,b] ≤ 16777216 ∧ (Builtin.Str.glued "" [a,b]).length ≤ 16777216 then some (PyData.str (Builtin.Str.glued "" [a,b])) else none) = _
 rw [if_pos ⟨h1,by omega⟩]
theorem cp0 {f : DE} {g : Rho → Option (Bool × List D)} {ρ : Rho} {a b : Str} (hf : f ρ = some (.str "")) (hg : g ρ = some (false,[.str a,.str b])) (ha : a.length = 1) (hb : b.length = 1) : aP1 f g ρ = some (.str (Builtin.Str.glued "" [a,b])):=by
 rw [← (cv1 a b ha hb).1]
 unfold aP1
 rw [hf,hg]
 rfl
theorem cn6 (x : Str) (k : Int) (hk : k = 1 ∨ k = 2) (hx : x.length ≤ 1000) : bK0 (.str x) (.int k) = some (.str (aG9 x k)):=by
 show (if 1 ≤ k ∧ k ≤ 2 ∧ x.length ≤ 1000 ∧ (aG9 x k).length ≤ 16777216 then some (PyData.str (aG9 x k)) else none) = _
 have:=bi3 x k hk
 rw [if_pos ⟨by omega,by omega,hx,by omega⟩]
theorem bn7 (a b : Str) (ha : a.length ≤ 1000) (hb : b.length ≤ 1000) : B5 (.str a) (.str b) = some (.str (a ++ b)):=by
 show (if a.length + b.length ≤ 16777216 then some (PyData.str (a ++ b)) else none) = _
 rw [if_pos (by omega)]
theorem dc4 : ∀ n : Nat,n < 2 → ∃ k : Int,atI ([.int 1,.int 2] : List D) (n : Int) = some (.int k) ∧ (k = 1 ∨ k = 2)
 | 0,_=>⟨1,rfl,.inl rfl⟩
 | 1,_=>⟨2,rfl,.inr rfl⟩
 | n + 2,h=>absurd h (by omega)
def nbA : DS:=(B4 6 (aP1 (dC (.str "")) (qN (B8 1 [0,1,5] (O4 (dC (.int 2))) (B1 0) C8 (av8 (dC (.str "abcdefghijklmnopqrstuvwxyz")) (A2 A7 (A0 (A1 1) (A0 (A5 B5 (A5 B5 (A5 B5 (A1 2) (dC (.int 1))) (A5 L5 (dC (.int 3)) (A1 3))) (A1 0)) (A0 (dC (.int 26)) A3)))))))))
def nbB : DS:=(B4 6 (A5 bK0 (bN8 (A1 6) N0 (F9 (A2 A7 (A0 (A1 0) (A0 (A5 B5 (A5 B5 (A1 1) (dC (.int 3))) (A5 L5 (dC (.int 3)) (A1 5))) (A0 (dC (.int 3)) A3)))))) (dIx (qN (A0 (dC (.int 1)) (A0 (dC (.int 2)) A3))) (A2 A7 (A0 (A1 0) (A0 (A5 B5 (A5 B5 (A1 1) (dC (.int 2))) (A5 L5 (dC (.int 3)) (A1 5))) (A0 (dC (.int 2)) A3)))))))
def nbC : DS:=(i9 4 (dIx (qN (A0 (A5 B5 (A1 6) (av8 (dC (.str "abcdefghijklmn")) (A1 5))) (A0 (A5 B5 (av8 (dC (.str "abcdefghijklmn")) (A1 5)) (A1 6)) A3))) (ab9 (A1 3))))
def bk3 : DS:=A6 nbA (A6 nbB nbC)
theorem cc9 : aX1 = (A6 (B4 3 (A5 eqD (A2 A7 (A0 (A1 0) (A0 (A1 1) (A0 (dC (.int 2)) A3)))) (dC (.int 0)))) (A6 (ae0 4 A3) (A6 (U4 (O4 (A1 2)) (B1 5) bk3) (aG8 4 (A9 (A1 4)))))):=rfl
def gb0 : DS:=(B4 8 (A2 A7 (A0 (A1 0) (A0 (A5 B5 (A5 B5 (A1 1) (dC (.int 3))) (A5 L5 (dC (.int 5)) (A1 7))) (A0 (A5 B5 (R3 (A8 6)) (dC (.int 1))) A3)))))
def gb1 : DS:=(B4 9 (A5 B5 (A1 8) (A2 A7 (A0 (A1 0) (A0 (A5 B5 (A5 B5 (A1 1) (dC (.int 4))) (A5 L5 (dC (.int 5)) (A1 7))) (A0 (dC (.int 3)) A3))))))
def gb2 : DS:=(B4 10 (dIx (qN (A0 (F6 (A0 (dC (.int 1)) (A0 (dC (.int 1)) A3))) (A0 (A2 P9 (A0 (A1 0) (A0 (A5 B5 (A5 B5 (A1 1) (dC (.int 5))) (A5 L5 (dC (.int 5)) (A1 7))) A3))) A3))) (A2 A7 (A0 (A1 0) (A0 (A5 B5 (A5 B5 (A1 1) (dC (.int 6))) (A5 L5 (dC (.int 5)) (A1 7))) (A0 (dC (.int 2)) A3))))))
def gb3 : DS:=(B4 11 (dIx (qN (A0 (A1 4) (A0 (dC (.str "atop")) (A0 (A1 4) (A0 (dC (.str "cut")) A3))))) (A2 A7 (A0 (A1 0) (A0 (A5 B5 (A5 B5 (A1 1) (dC (.int 7))) (A5 L5 (dC (.int 5)) (A1 7))) (A0 (dC (.int 4)) A3))))))
def gb4 : DS:=(B4 12 (F6 (A0 (dC (.str "group")) (A0 (dIx (A8 3) (A5 B5 (A1 2) (A1 7))) (A0 (A1 11) (A0 (A1 10) (A0 (A5 gtI (A2 A7 (A0 (A1 0) (A0 (A5 B5 (A5 B5 (A1 1) (dC (.int 14))) (A1 7)) (A0 (dC (.int 7)) A3)))) (dC (.int 0))) A3)))))))
def gb5 : DS:=(bU9 6 (F9 (A1 8)) (F9 (A1 9)) (A0 (A5 B5 (A1 12) (F6 (A0 (N4 (qE (bN9 (A8 6) (F9 (A1 8)) (F9 (A1 9))))) A3))) A3))
def bD3 : DS:=(A6 gb0 (A6 gb1 (A6 gb2 (A6 gb3 (A6 gb4 gb5)))))
def gn0 : DS:=(B4 4 (dIx (qN (A0 (dC (.str "over")) (A0 (dC (.str "multiply")) (A0 (dC (.str "screen")) (A0 (dC (.str "plus")) A3))))) (A2 A7 (A0 (A1 0) (A0 (A1 1) (A0 (dC (.int 4)) A3))))))
def gn1 : DS:=(B4 5 (A2 A7 (A0 (A1 0) (A0 (A5 B5 (A1 1) (dC (.int 1))) (A0 (A5 B5 (A1 2) (dC (.int 1))) A3)))))
def gn2 : DS:=(ae0 6 (B8 1 [0,4,3,1] (O4 (A1 5)) (B1 0) C8 (A2 ab4 (A0 (A1 1) (A0 (A5 B5 (A5 B5 (A1 4) (dC (.int 20))) (A5 L5 (dC (.int 170)) (A1 0))) (A0 (dIx (A8 3) (A1 0)) (A0 (A1 2) A3)))))))
def gn3 : DS:=(U4 (O4 (A2 A7 (A0 (A1 0) (A0 (A5 B5 (A1 1) (dC (.int 2))) (A0 (dC (.int 3)) A3))))) (B1 7) bD3)
def gn4 : DS:=(A9 (N4 (A8 6)))
theorem cc8 : aX0 = (A6 gn0 (A6 gn1 (A6 gn2 (A6 gn3 gn4)))):=rfl
theorem cJ4 (ns : List Int) (hn : ns.length ≤ 63) (at' k : Nat) (ha : at' < 2 ^ 20) (hk : k < 14) (a2 : Option B) (b : Bool) (L : List D) (a6 : Option B) : ∃ x : Str,nbA [‹scr ns›,‹.int at'›,a2,‹.bool b›,some (.own L),‹.int k›,a6] = some (.nx [‹scr ns›,‹.int at'›,a2,‹.bool b›,some (.own L),‹.int k›,‹.str x›]) ∧ x.length = 2 ∧ SOk x:=by
 have m3 : L5 (.int 3) (.int k) = some (.int ((3 * k : Nat) : Int)):=U6 (i:=3) (by decide) (by omega)
 have P : ∀ j,j < 2 → ∃ s : Str,av8 (dC (.str "abcdefghijklmnopqrstuvwxyz")) (A2 A7 (A0 (A1 1) (A0 (A5 B5 (A5 B5 (A5 B5 (A1 2) (dC (.int 1))) (A5 L5 (dC (.int 3)) (A1 3))) (A1 0)) (A0 (dC (.int 26)) A3)))) [‹.int (j : Nat)›,‹scr ns›,‹.int at'›,‹.int k›] = some (.str s) ∧ s.length = 1 ∧ SOk s:=fun j hj=>by
  obtain ⟨d,ed,ld⟩:=K1 ns hn (e:=(at' : Int) + 1 + ((3 * k : Nat) : Int) + (j : Int)) (m':=26) (at' + 1 + 3 * k + j) 26 (by omega) rfl (by omega) (by decide)
  obtain ⟨s,es,ls,ss⟩:=cO8 "abcdefghijklmnopqrstuvwxyz" d ld (by decide)
  refine ⟨s,?_,ls,ss ct5⟩
  wp_walk using evD,av8,m3,ed,es
 obtain ⟨S,hS⟩:=bm2 (x:=("" : Str)) P
 have c : B8 1 [0,1,5] (O4 (dC (.int 2))) (B1 0) C8 (av8 (dC (.str "abcdefghijklmnopqrstuvwxyz")) (A2 A7 (A0 (A1 1) (A0 (A5 B5 (A5 B5 (A5 B5 (A1 2) (dC (.int 1))) (A5 L5 (dC (.int 3)) (A1 3))) (A1 0)) (A0 (dC (.int 26)) A3))))) [‹scr ns›,‹.int at'›,a2,‹.bool b›,some (.own L),‹.int k›,a6] = some ((List.range 2).map fun j=>.str (S j)) :=
  v4 (l:=List.range 2) (h:=fun j : Nat=>PyData.int j) (r:=[‹scr ns›,‹.int at'›,‹.int k›]) rfl (ah3 (n:=2) rfl (by decide)) (by decide) fun j hj=>(hS j (List.mem_range.mp hj)).1
 refine ⟨Builtin.Str.glued "" [S 0,S 1],?_,(cv1 _ _ (hS 0 (by decide)).2.1 (hS 1 (by decide)).2.1).2,cd0 (hS 0 (by decide)).2.2 (hS 1 (by decide)).2.2⟩
 have jn:=cp0 (f:=dC (.str "")) (g:=qN (B8 1 [0,1,5] (O4 (dC (.int 2))) (B1 0) C8 (av8 (dC (.str "abcdefghijklmnopqrstuvwxyz")) (A2 A7 (A0 (A1 1) (A0 (A5 B5 (A5 B5 (A5 B5 (A1 2) (dC (.int 1))) (A5 L5 (dC (.int 3)) (A1 3))) (A1 0)) (A0 (dC (.int 26)) A3))))))) (ρ:=[‹scr ns›,‹.int at'›,a2,‹.bool b›,some (.own L),‹.int k›,a6]) rfl (by unfold qN; rw [c]; rfl) (hS 0 (by decide)).2.1 (hS 1 (by decide)).2.1
 unfold nbA B4
 rw [jn]
 rfl
theorem cJ3 (ns : List Int) (hn : ns.length ≤ 63) (at' k : Nat) (ha : at' < 2 ^ 20) (hk : k < 14) (a2 : Option B) (b : Bool) (L : List D) (x : Str) (hx : x.length = 2) (sx : SOk x) : ∃ y : Str,nbB [‹scr ns›,‹.int at'›,a2,‹.bool b›,some (.own L),‹.int k›,‹.str x›] = some (.nx [‹scr ns›,‹.int at'›,a2,‹.bool b›,some (.own L),‹.int k›,‹.str y›]) ∧ y.length ≤ 4 ∧ SOk y:=by
 have m3 : L5 (.int 3) (.int k) = some (.int ((3 * k : Nat) : Int)):=U6 (i:=3) (by decide) (by omega)
 obtain ⟨d,ed,ld⟩:=K1 ns hn (e:=(at' : Int) + 3 + ((3 * k : Nat) : Int)) (m':=3) (at' + 3 + 3 * k) 3 (by omega) rfl (by omega) (by decide)
 obtain ⟨d',ed',ld'⟩:=K1 ns hn (e:=(at' : Int) + 2 + ((3 * k : Nat) : Int)) (m':=2) (at' + 2 + 3 * k) 2 (by omega) rfl (by omega) (by decide)
 obtain ⟨kk,ek,hk'⟩:=dc4 d' ld'
 have sl:=cj8 x none (some (d : Int))
 have rl:=bi3 (slS x none (some (d : Int))) kk hk'
 refine ⟨aG9 (slS x none (some (d : Int))) kk,?_,by omega,bV4 (cj7 sx _ _) kk hk'⟩
 have a1 : bN8 (A1 6) N0 (F9 (A2 A7 (A0 (A1 0) (A0 (A5 B5 (A5 B5 (A1 1) (dC (.int 3))) (A5 L5 (dC (.int 3)) (A1 5))) (A0 (dC (.int 3)) A3))))) [‹scr ns›,‹.int at'›,a2,‹.bool b›,some (.own L),‹.int k›,‹.str x›] = some (.str (slS x none (some (d : Int)))):=by
  have cnd : x.length ≤ 1000 ∧ (slS x none (some (d : Int))).length ≤ 16777216:=⟨by omega,by omega⟩
  wp_walk using evD,bN8,m3,ed,if_pos cnd
 have a2 : dIx (qN (A0 (dC (.int 1)) (A0 (dC (.int 2)) A3))) (A2 A7 (A0 (A1 0) (A0 (A5 B5 (A5 B5 (A1 1) (dC (.int 2))) (A5 L5 (dC (.int 3)) (A1 5))) (A0 (dC (.int 2)) A3)))) [‹scr ns›,‹.int at'›,a2,‹.bool b›,some (.own L),‹.int k›,‹.str x›] = some (.int kk):=by
  wp_walk using evD,m3,ed',ek
 unfold nbB B4
 rw [aK5 a1 a2,cn6 _ kk hk' (by omega)]
 rfl
theorem ifb (b : Bool) (x y : D) : atI [x,y] (if b = true then 1 else 0) = some (if b = true then y else x):=by cases b <;> rfl
theorem cJ2 (ns : List Int) (at' k : Nat) (hk : k < 14) (a2 : Option B) (b : Bool) (L : List D) (hL : L.length ≤ 100) (y : Str) (hy : y.length ≤ 4) : nbC [‹scr ns›,‹.int at'›,a2,‹.bool b›,some (.own L),‹.int k›,‹.str y›] = some (.nx [‹scr ns›,‹.int at'›,a2,‹.bool b›,some (.own (L ++ [.str (nmS b k y)])),‹.int k›,‹.str y›]):=by
 have ec:=cJ6 k hk
 have lc : (ltr k).length = 1:=rfl
 have c1:=bn7 y (ltr k) (by omega) (by omega)
 have c2:=bn7 (ltr k) y (by omega) (by omega)
 have hl : L.length < 16777216:=by omega
 have e : dIx (qN (A0 (A5 B5 (A1 6) (av8 (dC (.str "abcdefghijklmn")) (A1 5))) (A0 (A5 B5 (av8 (dC (.str "abcdefghijklmn")) (A1 5)) (A1 6)) A3))) (ab9 (A1 3)) [‹scr ns›,‹.int at'›,a2,‹.bool b›,some (.own L),‹.int k›,‹.str y›] = some (.str (nmS b k y)):=by
  wp_walk using evD,av8,ec,c1,c2,ifb
  cases b <;> rfl
 unfold nbC i9
 simp only [xg0,xg1,if_pos hl,e,xms,xw0,xw1]
theorem bY5 (ns : List Int) (hn : ns.length ≤ 63) (at' many : Nat) (ha : at' < 2 ^ 20) (hm : many ≤ 14) : ∃ L : List D,ag0 [scr ns,.int at',.int many] = some (.list L) ∧ L.length = many ∧ ∃ b : Bool,∀ i,i < many → ∃ y,L[i]? = some (.str (nmS b i y)) ∧ SOk y ∧ y.length ≤ 4:=by
 obtain ⟨d,ed,ld⟩:=K1 ns hn (e:=(at' : Int)) (m':=2) at' 2 rfl rfl (by omega) (by decide)
 obtain ⟨ρ',e,L,a5,a6,hρ,hL,hP⟩:=o7 (g:=B1 5) (f:=bk3) (h:=fun j : Nat=>PyData.int j) (I:=fun i ρ=>∃ (L : List D) (a5 a6 : Option B),ρ = [‹scr ns›,‹.int at'›,‹.int many›,‹.bool ((d : Int) == 0)›,some (.own L),a5,a6] ∧ L.length = i ∧ ∀ n,n < i → ∃ y,L[n]? = some (.str (nmS ((d : Int) == 0) n y)) ∧ SOk y ∧ y.length ≤ 4) (List.range many) 0 [‹scr ns›,‹.int at'›,‹.int many›,‹.bool ((d : Int) == 0)›,some (.own []),none,none] ⟨[],none,none,rfl,rfl,fun n h=>absurd h (Nat.not_lt_zero n)⟩ (fun j a hj ρ hρ=>by
  obtain ⟨L,a5,a6,rfl,hL,hP⟩:=hρ
  obtain ⟨hj1,hj2⟩:=List.getElem?_eq_some_iff.mp hj
  rw [List.length_range] at hj1
  rw [List.getElem_range] at hj2
  subst hj2
  refine ⟨_,rfl,?_⟩
  simp only [xw0,xw1]
  obtain ⟨x,e1,hx,sx⟩:=cJ4 ns hn at' j ha (by omega) (‹.int many›) ((d : Int) == 0) L a6
  obtain ⟨y,e2,hy,sy⟩:=cJ3 ns hn at' j ha (by omega) (‹.int many›) ((d : Int) == 0) L x hx sx
  have e3:=cJ2 ns at' j (by omega) (‹.int many›) ((d : Int) == 0) L (by omega) y hy
  have eb : bk3 [‹scr ns›,‹.int at'›,‹.int many›,‹.bool ((d : Int) == 0)›,some (.own L),‹.int j›,a6] = some (.nx [‹scr ns›,‹.int at'›,‹.int many›,‹.bool ((d : Int) == 0)›,some (.own (L ++ [.str (nmS ((d : Int) == 0) j y)])),‹.int j›,‹.str y›]):=by
   unfold bk3
   rw [B7 e1,B7 e2,e3]
  refine ⟨_,eb,L ++ [.str (nmS ((d : Int) == 0) j y)],_,_,rfl,by rw [List.length_append,hL]; rfl,fun n hn=>?_⟩
  by_cases q : n < 0 + j
  ·obtain ⟨z,e1,e2⟩:=hP n q
   exact ⟨z,by rw [List.getElem?_append_left (by omega)]; exact e1,e2⟩
  ·have : n = L.length:=by omega
   refine ⟨y,?_,sy,hy⟩
   rw [this,List.getElem?_append_right (Nat.le_refl _),Nat.sub_self]
   rw [show L.length = j by omega]
   rfl)
 subst hρ
 rw [List.length_range,Nat.zero_add] at hL hP
 refine ⟨L,?_,hL,_,hP⟩
 refine B0 (ρ:=[‹scr ns›,‹.int at'›,‹.int many›,none,none,none,none]) rfl ?_
 have rn : O4 (A1 2) [‹scr ns›,‹.int at'›,‹.int many›,‹.bool ((d : Int) == 0)›,some (.own []),none,none] = _:=ah3 (n:=many) rfl (by omega)
 have s0 : (B4 3 (A5 eqD (A2 A7 (A0 (A1 0) (A0 (A1 1) (A0 (dC (.int 2)) A3)))) (dC (.int 0)))) [‹scr ns›,‹.int at'›,‹.int many›,none,none,none,none] = some (.nx [‹scr ns›,‹.int at'›,‹.int many›,‹.bool ((d : Int) == 0)›,none,none,none]):=by
  simp only [B4,A5,A2,A0,A3,A1,dC,xbs,xms,xg0,xg1,xw0,xw1,ed,af4]
 have s1 : (ae0 4 A3) [‹scr ns›,‹.int at'›,‹.int many›,‹.bool ((d : Int) == 0)›,none,none,none] = some (.nx [‹scr ns›,‹.int at'›,‹.int many›,‹.bool ((d : Int) == 0)›,some (.own []),none,none]):=rfl
 have s2 : (U4 (O4 (A1 2)) (B1 5) bk3) [‹scr ns›,‹.int at'›,‹.int many›,‹.bool ((d : Int) == 0)›,some (.own []),none,none] = some (.nx [‹scr ns›,‹.int at'›,‹.int many›,‹.bool ((d : Int) == 0)›,some (.own L),a5,a6]):=by
  unfold U4
  rw [rn]
  exact e
 have s3 : (aG8 4 (A9 (A1 4))) [‹scr ns›,‹.int at'›,‹.int many›,‹.bool ((d : Int) == 0)›,some (.own L),a5,a6] = some (.rt (.list L)):=rfl
 rw [cc9,B7 s0,B7 s1,B7 s2]
 exact s3
theorem db9 : ∀ n : Nat,n < 6 → ∃ m : Man,atI ([.str "over", .str "multiply", .str "screen", .str "plus", .str "atop", .str "cut"] : List D) (n : Int) = some (.str m.s)
 | 0,_=>⟨.over,rfl⟩
 | 1,_=>⟨.mult,rfl⟩
 | 2,_=>⟨.screen,rfl⟩
 | 3,_=>⟨.plus,rfl⟩
 | 4,_=>⟨.atop,rfl⟩
 | 5,_=>⟨.cut,rfl⟩
 | n + 6,h=>absurd h (by omega)
theorem dc0 : ∀ n : Nat,n < 4 → ∃ m : Man,atI ([.str "over", .str "multiply", .str "screen", .str "plus"] : List D) (n : Int) = some (.str m.s)
 | 0,_=>⟨.over,rfl⟩
 | 1,_=>⟨.mult,rfl⟩
 | 2,_=>⟨.screen,rfl⟩
 | 3,_=>⟨.plus,rfl⟩
 | n + 4,h=>absurd h (by omega)
theorem cW7 (m : Man) : ∀ n : Nat,n < 4 → ∃ m' : Man,atI ([.str m.s,.str "atop", .str m.s,.str "cut"] : List D) (n : Int) = some (.str m'.s)
 | 0,_=>⟨m,rfl⟩
 | 1,_=>⟨.atop,rfl⟩
 | 2,_=>⟨m,rfl⟩
 | 3,_=>⟨.cut,rfl⟩
 | n + 4,h=>absurd h (by omega)
theorem db1 : ∀ n : Nat,n < 3 → ∃ r : Rul,atI ([.str "turn", .str "grey", .str "round"] : List D) (n : Int) = some (.str r.s)
 | 0,_=>⟨.turn,rfl⟩
 | 1,_=>⟨.grey,rfl⟩
 | 2,_=>⟨.round,rfl⟩
 | n + 3,h=>absurd h (by omega)
theorem bF0 (n : Nat) : ((n : Int) == 0) = decide (n = 0):=by
 cases n with
 | zero=>rfl
 | succ n=>rw [decide_eq_false (by omega)]; exact beq_eq_false_iff_ne.mpr (by omega)
theorem ci5 (n : Nat) : (decide ((0 : Int) < (n : Int))) = decide (0 < n):=by
 cases n with
 | zero=>rfl
 | succ n=>rw [decide_eq_true (by omega),decide_eq_true (by omega)]
theorem ad1 (n : Nat) : (1 : Int) + (n : Int) = ((1 + n : Nat) : Int):=by omega
def Nd.nm : Nd → D
 | .layer nm ..=>nm
 | .tone nm ..=>nm
 | .group nm ..=>nm
mutual
def Nd.near : Nd → Prop
 | .layer _ _ _ _ lf tp _ _ _ _ kb=>-2 ≤ lf ∧ lf ≤ 2 ∧ -2 ≤ tp ∧ tp ≤ 2 ∧ kb ≤ 40
 | .tone ..=>True
 | .group _ _ _ _ ns=>Nd.nears ns
def Nd.nears : List Nd → Prop
 | []=>True
 | n :: r=>n.near ∧ Nd.nears r
end
theorem af2 : ∀ l : List Nd,Nd.nears l ↔ ∀ n ∈ l,n.near
 | []=>by simp [Nd.nears]
 | n :: r=>by simp [Nd.nears,af2 r]
theorem cn9 (ns : List Int) (hn : ns.length ≤ 63) (at' : Nat) (ha : at' < 2 ^ 19) (nm : D) (m : Man) : ∃ n : Nd,ab4 [scr ns,.int at',nm,.str m.s] = some n.d ∧ n.Ok ∧ n.dp = 0 ∧ n.wg ≤ 40 ∧ n.nm = nm ∧ n.near:=by
 obtain ⟨s,es,hs⟩:=ar2 ns at' hn (by omega)
 have es : P9 [scr ns,.int at'] = some (fr s):=es
 obtain ⟨d3,e3,l3⟩:=K1 ns hn (e:=(at' : Int) + 3) (m':=6) (at' + 3) 6 (by omega) rfl (by omega) (by decide)
 obtain ⟨d4,e4,l4⟩:=K1 ns hn (e:=(at' : Int) + 4) (m':=6) (at' + 4) 6 (by omega) rfl (by omega) (by decide)
 obtain ⟨d6,e6,l6⟩:=K1 ns hn (e:=(at' : Int) + 6) (m':=3) (at' + 6) 3 (by omega) rfl (by omega) (by decide)
 obtain ⟨d7,e7,l7⟩:=K1 ns hn (e:=(at' : Int) + 7) (m':=3) (at' + 7) 3 (by omega) rfl (by omega) (by decide)
 obtain ⟨d8,e8,l8⟩:=K1 ns hn (e:=(at' : Int) + 8) (m':=3) (at' + 8) 3 (by omega) rfl (by omega) (by decide)
 obtain ⟨d9,e9,l9⟩:=K1 ns hn (e:=(at' : Int) + 9) (m':=3) (at' + 9) 3 (by omega) rfl (by omega) (by decide)
 obtain ⟨d10,e10,l10⟩:=K1 ns hn (e:=(at' : Int) + 10) (m':=4) (at' + 10) 4 (by omega) rfl (by omega) (by decide)
 obtain ⟨d11,e11,l11⟩:=K1 ns hn (e:=(at' : Int) + 11) (m':=4) (at' + 11) 4 (by omega) rfl (by omega) (by decide)
 obtain ⟨d12,e12,l12⟩:=K1 ns hn (e:=(at' : Int) + 12) (m':=3) (at' + 12) 3 (by omega) rfl (by omega) (by decide)
 obtain ⟨d5,e5,l5⟩:=K1 ns hn (e:=(at' : Int) + 5) (m':=3) (at' + 5) 3 (by omega) rfl (by omega) (by decide)
 obtain ⟨d5',e5',l5'⟩:=K1 ns hn (e:=(at' : Int) + 5) (m':=6) (at' + 5) 6 (by omega) rfl (by omega) (by decide)
 have s0 : ak9 [‹scr ns›,‹.int at'›,some (.val nm),‹.str m.s›,none,none,none,none,none,none,none,none,none] = some (.nx [‹scr ns›,‹.int at'›,some (.val nm),‹.str m.s›,‹fr s›,none,none,none,none,none,none,none,none]):=by
  wp_walk using evD,ak9,es
 have s1 : ak8 [‹scr ns›,‹.int at'›,some (.val nm),‹.str m.s›,‹fr s›,none,none,none,none,none,none,none,none] = some (.nx [‹scr ns›,‹.int at'›,some (.val nm),‹.str m.s›,‹fr s›,‹.bool (decide (0 < d3))›,none,none,none,none,none,none,none]):=by
  wp_walk using evD,ak8,e3,ci5
 by_cases t4 : d4 = 0
 ·obtain ⟨r,er⟩:=db1 d5 l5
  refine ⟨.tone nm r s (decide (0 < d3)),?_,bh7 hs,rfl,by show 6 ≤ 40; decide,rfl,by rw [Nd.near]; trivial⟩
  have s2 : o0 [‹scr ns›,‹.int at'›,some (.val nm),‹.str m.s›,‹fr s›,‹.bool (decide (0 < d3))›,none,none,none,none,none,none,none] = some (.rt (.tuple [.str "tone", nm,.str r.s,fr s,.bool (decide (0 < d3))])):=by
   wp_walk using evD,o0,e4,bF0,decide_eq_true t4,e5,er
  refine B0 (ρ:=[‹scr ns›,‹.int at'›,some (.val nm),‹.str m.s›,none,none,none,none,none,none,none,none,none]) rfl ?_
  unfold aQ1
  rw [B7 s0,B7 s1,br5 s2,Nd.d]
 have s2 : o0 [‹scr ns›,‹.int at'›,some (.val nm),‹.str m.s›,‹fr s›,‹.bool (decide (0 < d3))›,none,none,none,none,none,none,none] = some (.nx [‹scr ns›,‹.int at'›,some (.val nm),‹.str m.s›,‹fr s›,‹.bool (decide (0 < d3))›,none,none,none,none,none,none,none]):=by
  wp_walk using evD,o0,e4,bF0,decide_eq_false t4
 obtain ⟨m0,em0⟩:=db9 d5' l5'
 have s3 : ak7 [‹scr ns›,‹.int at'›,some (.val nm),‹.str m.s›,‹fr s›,‹.bool (decide (0 < d3))›,none,none,none,none,none,none,none] = some (.nx [‹scr ns›,‹.int at'›,some (.val nm),‹.str m.s›,‹fr s›,‹.bool (decide (0 < d3))›,‹.str m0.s›,none,none,none,none,none,none]):=by
  wp_walk using evD,ak7,e5',em0
 obtain ⟨m1,s4⟩ : ∃ m1 : Man,ac2 [‹scr ns›,‹.int at'›,some (.val nm),‹.str m.s›,‹fr s›,‹.bool (decide (0 < d3))›,‹.str m0.s›,none,none,none,none,none,none] = some (.nx [‹scr ns›,‹.int at'›,some (.val nm),‹.str m.s›,‹fr s›,‹.bool (decide (0 < d3))›,‹.str m1.s›,none,none,none,none,none,none]):=by
  by_cases t6 : 0 < d6
  ·exact ⟨m,by wp_walk using evD,ac2,e6,ci5,decide_eq_true t6⟩
  ·exact ⟨m0,by wp_walk using evD,ac2,e6,ci5,decide_eq_false t6⟩
 have s5 : ak6 [‹scr ns›,‹.int at'›,some (.val nm),‹.str m.s›,‹fr s›,‹.bool (decide (0 < d3))›,‹.str m1.s›,none,none,none,none,none,none] = some (.nx [‹scr ns›,‹.int at'›,some (.val nm),‹.str m.s›,‹fr s›,‹.bool (decide (0 < d3))›,‹.str m1.s›,‹.int ((1 + d7 : Nat) : Int)›,none,none,none,none,none]):=by
  wp_walk using evD,ak6,e7,ad1
 have s6 : ak5 [‹scr ns›,‹.int at'›,some (.val nm),‹.str m.s›,‹fr s›,‹.bool (decide (0 < d3))›,‹.str m1.s›,‹.int ((1 + d7 : Nat) : Int)›,none,none,none,none,none] = some (.nx [‹scr ns›,‹.int at'›,some (.val nm),‹.str m.s›,‹fr s›,‹.bool (decide (0 < d3))›,‹.str m1.s›,‹.int ((1 + d7 : Nat) : Int)›,‹.int ((1 + d8 : Nat) : Int)›,none,none,none,none]):=by
  wp_walk using evD,ak5,e8,ad1
 have s7 : ak4 [‹scr ns›,‹.int at'›,some (.val nm),‹.str m.s›,‹fr s›,‹.bool (decide (0 < d3))›,‹.str m1.s›,‹.int ((1 + d7 : Nat) : Int)›,‹.int ((1 + d8 : Nat) : Int)›,none,none,none,none] = some (.nx [‹scr ns›,‹.int at'›,some (.val nm),‹.str m.s›,‹fr s›,‹.bool (decide (0 < d3))›,‹.str m1.s›,‹.int ((1 + d7 : Nat) : Int)›,‹.int ((1 + d8 : Nat) : Int)›,some (.val .none),none,none,none]):=by
  wp_walk using evD,ak4
 have wh : (1 + d7) * (1 + d8) ≤ 9:=Nat.mul_le_mul (show 1 + d7 ≤ 3 by omega) (show 1 + d8 ≤ 3 by omega)
 have mwh : L5 (.int ((1 + d7 : Nat) : Int)) (.int ((1 + d8 : Nat) : Int)) = some (.int (((1 + d7) * (1 + d8) : Nat) : Int)):=U6 (by omega) (by omega)
 obtain ⟨mk,s8,hmk⟩ : ∃ mk : Option (List Rat),ac1 [‹scr ns›,‹.int at'›,some (.val nm),‹.str m.s›,‹fr s›,‹.bool (decide (0 < d3))›,‹.str m1.s›,‹.int ((1 + d7 : Nat) : Int)›,‹.int ((1 + d8 : Nat) : Int)›,some (.val .none),none,none,none] = some (.nx [‹scr ns›,‹.int at'›,some (.val nm),‹.str m.s›,‹fr s›,‹.bool (decide (0 < d3))›,‹.str m1.s›,‹.int ((1 + d7 : Nat) : Int)›,‹.int ((1 + d8 : Nat) : Int)›,‹mkD mk›,none,none,none]) ∧ ∀ ms,mk = some ms → ms.length = (1 + d7) * (1 + d8) ∧ ∀ r ∈ ms,Sr 4 r:=by
  by_cases t9 : d9 = 0
  ·have P : ∀ j,j < 9 → ∃ r : Rat,P9 [scr ns,.int ((at' : Int) + 20 + ((3 * j : Nat) : Int))] = some (fr r) ∧ IsSh 4 r:=fun j hj=>bi0 ns hn (at' + 20 + 3 * j) (by omega) (by omega)
   obtain ⟨R,hR⟩:=bm2 (x:=(0 : Rat)) P
   have c : B8 1 [0,1] (O4 (A5 L5 (A1 7) (A1 8))) (B1 0) C8 (A2 P9 (A0 (A1 1) (A0 (A5 B5 (A5 B5 (A1 2) (dC (.int 20))) (A5 L5 (dC (.int 3)) (A1 0))) A3))) [‹scr ns›,‹.int at'›,some (.val nm),‹.str m.s›,‹fr s›,‹.bool (decide (0 < d3))›,‹.str m1.s›,‹.int ((1 + d7 : Nat) : Int)›,‹.int ((1 + d8 : Nat) : Int)›,some (.val .none),none,none,none] = some ((List.range ((1 + d7) * (1 + d8))).map fun j=>fr (R j)):=by
    refine v4 (l:=List.range ((1 + d7) * (1 + d8))) (h:=fun j : Nat=>PyData.int j) (r:=[‹scr ns›,‹.int at'›]) rfl (ah3 ((aK5 rfl rfl).trans mwh) (by omega)) (by rw [List.length_range]; omega) fun j hj=>?_
    have hj:=List.mem_range.mp hj
    have m3 : L5 (.int 3) (.int j) = some (.int ((3 * j : Nat) : Int)):=U6 (i:=3) (by decide) (by omega)
    wp_walk using evD,m3,(hR j (by omega)).1
   refine ⟨some ((List.range ((1 + d7) * (1 + d8))).map R),?_,fun ms e=>?_⟩
   ·simp only [ac1,sIf,tB2,B4,N4,qN,c,A5,A2,A0,A3,A1,dC,aw0,e9,af4,bF0,decide_eq_true t9,M4,xbs,xms,xg0,xg1,xw0,xw1,if_true,xft,if_false,mkD,List.map_map]
    rfl
   ·cases e
    refine ⟨by rw [List.length_map,List.length_range],fun r hr=>?_⟩
    obtain ⟨j,hj,rfl⟩:=List.mem_map.mp hr
    exact bh7 (hR j (by have:=List.mem_range.mp hj; omega)).2
  ·exact ⟨none,by (wp_walk using evD,ac1,e9,bF0,decide_eq_false t9,mkD),fun ms e=>by cases e⟩
 have s9 : ak3 [‹scr ns›,‹.int at'›,some (.val nm),‹.str m.s›,‹fr s›,‹.bool (decide (0 < d3))›,‹.str m1.s›,‹.int ((1 + d7 : Nat) : Int)›,‹.int ((1 + d8 : Nat) : Int)›,‹mkD mk›,none,none,none] = some (.nx [‹scr ns›,‹.int at'›,some (.val nm),‹.str m.s›,‹fr s›,‹.bool (decide (0 < d3))›,‹.str m1.s›,‹.int ((1 + d7 : Nat) : Int)›,‹.int ((1 + d8 : Nat) : Int)›,‹mkD mk›,‹.int ((d10 : Int) - 1)›,none,none]):=by
  wp_walk using evD,ak3,e10
 have s10 : ag6 [‹scr ns›,‹.int at'›,some (.val nm),‹.str m.s›,‹fr s›,‹.bool (decide (0 < d3))›,‹.str m1.s›,‹.int ((1 + d7 : Nat) : Int)›,‹.int ((1 + d8 : Nat) : Int)›,‹mkD mk›,‹.int ((d10 : Int) - 1)›,none,none] = some (.nx [‹scr ns›,‹.int at'›,some (.val nm),‹.str m.s›,‹fr s›,‹.bool (decide (0 < d3))›,‹.str m1.s›,‹.int ((1 + d7 : Nat) : Int)›,‹.int ((1 + d8 : Nat) : Int)›,‹mkD mk›,‹.int ((d10 : Int) - 1)›,‹.int ((d11 : Int) - 1)›,none]):=by
  wp_walk using evD,ag6,e11
 obtain ⟨w,h,lf,tp,mk',s11,hw,hh,hmk',hof⟩ : ∃ (w h : Nat) (lf tp : Int) (mk' : Option (List Rat)),v9 [‹scr ns›,‹.int at'›,some (.val nm),‹.str m.s›,‹fr s›,‹.bool (decide (0 < d3))›,‹.str m1.s›,‹.int ((1 + d7 : Nat) : Int)›,‹.int ((1 + d8 : Nat) : Int)›,‹mkD mk›,‹.int ((d10 : Int) - 1)›,‹.int ((d11 : Int) - 1)›,none] = some (.nx [‹scr ns›,‹.int at'›,some (.val nm),‹.str m.s›,‹fr s›,‹.bool (decide (0 < d3))›,‹.str m1.s›,‹.int (w : Nat)›,‹.int (h : Nat)›,‹mkD mk'›,‹.int lf›,‹.int tp›,none]) ∧ (1 ≤ w ∧ w ≤ 3) ∧ (1 ≤ h ∧ h ≤ 3) ∧ (∀ ms,mk' = some ms → ms.length = w * h ∧ ∀ r ∈ ms,Sr 4 r) ∧ (-2 ≤ lf ∧ lf ≤ 2 ∧ -2 ≤ tp ∧ tp ≤ 2):=by
  by_cases t12 : d12 = 0
  ·refine ⟨3,3,0,0,none,?_,by decide,by decide,(fun ms e=>by cases e),by decide⟩
   have l5 : ∀ a b c d e : D,([a,b,c,d,e] : List D).length = 5:=fun _ _ _ _ _=>rfl
   wp_walk using evD,v9,e12,bF0,decide_eq_true t12,l5,mkD
   rfl
  ·exact ⟨1 + d7,1 + d8,(d10 : Int) - 1,(d11 : Int) - 1,mk,by (wp_walk using evD,v9,e12,bF0,decide_eq_false t12),by omega,by omega,hmk,by omega⟩
 obtain ⟨l,el,S⟩:=bU7 ns hn (e:=(at' : Int) + 50) (at' + 50) w h (by omega) (by omega) hw.1 (by omega) hh.1 (by omega)
 have s12 : ag5 [‹scr ns›,‹.int at'›,some (.val nm),‹.str m.s›,‹fr s›,‹.bool (decide (0 < d3))›,‹.str m1.s›,‹.int (w : Nat)›,‹.int (h : Nat)›,‹mkD mk'›,‹.int lf›,‹.int tp›,none] = some (.nx [‹scr ns›,‹.int at'›,some (.val nm),‹.str m.s›,‹fr s›,‹.bool (decide (0 < d3))›,‹.str m1.s›,‹.int (w : Nat)›,‹.int (h : Nat)›,‹mkD mk'›,‹.int lf›,‹.int tp›,‹shD w h l›]):=by
  wp_walk using evD,ag5,el
 refine ⟨.layer nm m1 s (decide (0 < d3)) lf tp mk' w h l 32,?_,?_,rfl,Nat.le_refl _,rfl,by rw [Nd.near]; exact ⟨hof.1,hof.2.1,hof.2.2.1,hof.2.2.2,by decide⟩⟩
 ·have s13 : ag4 [‹scr ns›,‹.int at'›,some (.val nm),‹.str m.s›,‹fr s›,‹.bool (decide (0 < d3))›,‹.str m1.s›,‹.int (w : Nat)›,‹.int (h : Nat)›,‹mkD mk'›,‹.int lf›,‹.int tp›,‹shD w h l›] = some (.rt (.tuple [.str "layer", nm,.str m1.s,fr s,.bool (decide (0 < d3)),.int lf,.int tp,mkD mk',shD w h l])):=by
   wp_walk using evD,ag4
  refine B0 (ρ:=[‹scr ns›,‹.int at'›,some (.val nm),‹.str m.s›,none,none,none,none,none,none,none,none,none]) rfl ?_
  unfold aQ1
  rw [B7 s0,B7 s1,B7 s2,B7 s3,B7 s4,B7 s5,B7 s6,B7 s7,B7 s8,B7 s9,B7 s10,B7 s11,B7 s12,s13,Nd.d]
 ·rw [Nd.Ok]
  exact ⟨bh7 hs,⟨S.w1,S.w8,S.h1,S.h8,S.len,fun q hq=>(S.ok q hq).mono (by decide)⟩,fun q hq=>cv8 (S.ok q hq),hmk',by decide⟩
end Sh
namespace Sh
open PySem G L2
theorem M7 : ∀ l : List Nd,Nd.ds l = l.map Nd.d
 | []=>by rw [Nd.ds]; rfl
 | n :: r=>by rw [Nd.ds,M7 r]; rfl
theorem S9 : ∀ l : List Nd,Nd.Oks l ↔ ∀ n ∈ l,n.Ok
 | []=>by simp [Nd.Oks]
 | n :: r=>by simp [Nd.Oks,S9 r]
theorem S8 : ∀ a b : List Nd,Nd.wgs (a ++ b) = Nd.wgs a + Nd.wgs b
 | [],b=>by simp [Nd.wgs]
 | n :: a,b=>by rw [xca,Nd.wgs,Nd.wgs,S8 a b]; omega
theorem X3 : ∀ a b : List Nd,Nd.dps (a ++ b) = max (Nd.dps a) (Nd.dps b)
 | [],b=>by simp [Nd.dps]
 | n :: a,b=>by rw [xca,Nd.dps,Nd.dps,X3 a b]; omega
theorem bS9 : ∀ l : List Nd,(∀ n ∈ l,n.wg ≤ 40) → Nd.wgs l ≤ 40 * l.length
 | [],_=>by simp [Nd.wgs]
 | n :: l,h=>by
  have a:=h n (List.mem_cons_self ..)
  have b:=bS9 l fun m hm=>h m (List.mem_cons_of_mem _ hm)
  rw [Nd.wgs,List.length_cons]; omega
theorem bn2 : ∀ l : List Nd,(∀ n ∈ l,n.dp = 0) → Nd.dps l = 0
 | [],_=>by simp [Nd.dps]
 | n :: l,h=>by
  have a:=h n (List.mem_cons_self ..)
  have b:=bn2 l fun m hm=>h m (List.mem_cons_of_mem _ hm)
  rw [Nd.dps]; omega
mutual
def Nd.nms : Nd → List D
 | .layer nm _ _ _ _ _ _ _ _ _ _=>[nm]
 | .tone nm _ _ _=>[nm]
 | .group nm _ _ _ ns=>nm :: Nd.nmss ns
def Nd.nmss : List Nd → List D
 | []=>[]
 | n :: r=>n.nms ++ Nd.nmss r
end
theorem E1 : ∀ a b : List Nd,Nd.nmss (a ++ b) = Nd.nmss a ++ Nd.nmss b
 | [],b=>by simp [Nd.nmss]
 | n :: a,b=>by rw [xca,Nd.nmss,Nd.nmss,E1 a b,List.append_assoc]
mutual
def Nd.thin : Nd → Prop
 | .layer ..=>True
 | .tone ..=>True
 | .group _ _ _ _ ns=>ns.length ≤ 1000 ∧ Nd.thins ns
def Nd.thins : List Nd → Prop
 | []=>True
 | n :: r=>n.thin ∧ Nd.thins r
end
theorem T8 : ∀ l : List Nd,Nd.thins l ↔ ∀ n ∈ l,n.thin
 | []=>by simp [Nd.thins]
 | n :: r=>by simp [Nd.thins,T8 r]
def aH9 (l : List Nd) (a c : Nat) (g : List Nd → Nd) : List Nd:=l.take a ++ [g ((l.drop a).take (c - a))] ++ l.drop c
theorem cF1 (l : List Nd) {a c : Nat} (h : a ≤ c) : l.take a ++ (l.drop a).take (c - a) ++ l.drop c = l:=by
 have e : l.drop c = (l.drop a).drop (c - a):=by rw [List.drop_drop]; congr 1; omega
 rw [e,List.append_assoc,List.take_append_drop,List.take_append_drop]
theorem cs5 {ds : List D} {a b : Nat} (ha : a ≤ ds.length) : aj0 ds (some (a : Int)) (some (b : Int)) = (ds.drop a).take (min b ds.length - a) ∧ ∀ es : List D,aL4 ds (some (a : Int)) (some (b : Int)) es = ds.take a ++ es ++ ds.drop (max a (min b ds.length)):=by
 have h1 : HT.sIx ds.length 0 (some (a : Int)) = a:=by rw [HT.sIx_nat]; omega
 have h2 : HT.sIx ds.length ds.length (some (b : Int)) = min b ds.length:=HT.sIx_nat ..
 refine ⟨?_,fun es=>?_⟩
 ·unfold aj0; rw [h1,h2]
 ·unfold aL4; rw [h1,h2]
theorem cd4 (ns : List Int) (hn : ns.length ≤ 63) (at' most k : Nat) (ha : at' < 2 ^ 18) (hk : k < 2) (hmost : most ≤ 6) (N : List D) (hN : most + 2 ≤ N.length) (m : Man) (l : List Nd) (hl : l.length ≤ 100) (a5 a8 a9 a10 a11 a12 : Option B) :
  ∃ (a c : Nat) (nm : D) (m' : Man) (s : Rat) (sh : Bool) (b8 b9 b10 b11 b12 : Option B),bD3 [‹scr ns›,‹.int at'›,‹.int most›,‹.list N›,‹.str m.s›,a5,some (.own (Nd.ds l)),‹.int k›,a8,a9,a10,a11,a12] = some (.nx [‹scr ns›,‹.int at'›,‹.int most›,‹.list N›,‹.str m.s›,a5,some (.own (Nd.ds (aH9 l a c (Nd.group nm m' s sh)))),‹.int k›,b8,b9,b10,b11,b12]) ∧ a ≤ c ∧ c ≤ l.length ∧ IsSh 4 s ∧ nm = N.getD (most + k) .none:=by
 have m5 : L5 (.int 5) (.int k) = some (.int ((5 * k : Nat) : Int)):=U6 (i:=5) (by decide) (by omega)
 have hds : (Nd.ds l).length = l.length:=by rw [M7,List.length_map]
 obtain ⟨f,ef,lf⟩:=K1 ns hn (e:=(at' : Int) + 3 + ((5 * k : Nat) : Int)) (m':=(((Nd.ds l).length : Nat) : Int) + 1) (at' + 3 + 5 * k) (l.length + 1) (by omega) (by rw [hds]; omega) (by omega) (by omega)
 obtain ⟨d,ed,ld⟩:=K1 ns hn (e:=(at' : Int) + 4 + ((5 * k : Nat) : Int)) (m':=3) (at' + 4 + 5 * k) 3 (by omega) rfl (by omega) (by decide)
 obtain ⟨s0,es0,hs0⟩:=bi0 ns hn (e:=(at' : Int) + 5 + ((5 * k : Nat) : Int)) (at' + 5 + 5 * k) (by omega) (by omega)
 obtain ⟨d6,e6,l6⟩:=K1 ns hn (e:=(at' : Int) + 6 + ((5 * k : Nat) : Int)) (m':=2) (at' + 6 + 5 * k) 2 (by omega) rfl (by omega) (by decide)
 obtain ⟨d7,e7,l7⟩:=K1 ns hn (e:=(at' : Int) + 7 + ((5 * k : Nat) : Int)) (m':=4) (at' + 7 + 5 * k) 4 (by omega) rfl (by omega) (by decide)
 obtain ⟨d14,e14,l14⟩:=K1 ns hn (e:=(at' : Int) + 14 + (k : Int)) (m':=7) (at' + 14 + k) 7 (by omega) rfl (by omega) (by decide)
 obtain ⟨m',em'⟩:=cW7 m d7 l7
 obtain ⟨s,est,hs⟩ : ∃ s : Rat,atI ([.tuple [.int 1,.int 1],fr s0] : List D) (d6 : Int) = some (fr s) ∧ IsSh 4 s:=by
  rcases (show d6 = 0 ∨ d6 = 1 by omega) with rfl | rfl
  ·exact ⟨1,rfl,Bd.one.mono (by decide),Rat.le_refl⟩
  ·exact ⟨s0,rfl,hs0⟩
 obtain ⟨nm,enm,hnm⟩ : ∃ nm,atI N ((most : Int) + (k : Int)) = some nm ∧ nm = N.getD (most + k) .none:=by
  unfold atI
  rw [av3 (by omega) (by omega),xbs]
  have h' : ((most : Int) + (k : Int)).toNat = most + k:=by omega
  rw [h']
  exact ⟨N[most + k]'(by omega),List.getElem?_eq_getElem (by omega),by rw [List.getD_eq_getElem?_getD,List.getElem?_eq_getElem (by omega)]; rfl⟩
 refine ⟨f,max f (min (f + d) l.length),nm,m',s,decide (0 < d14),?_⟩
 have s0 : gb0 [‹scr ns›,‹.int at'›,‹.int most›,‹.list N›,‹.str m.s›,a5,some (.own (Nd.ds l)),‹.int k›,a8,a9,a10,a11,a12] = some (.nx [‹scr ns›,‹.int at'›,‹.int most›,‹.list N›,‹.str m.s›,a5,some (.own (Nd.ds l)),‹.int k›,‹.int f›,a9,a10,a11,a12]):=by
  wp_walk using evD,gb0,m5,ef
 have fd : (f : Int) + (d : Int) = ((f + d : Nat) : Int):=by omega
 have s1 : gb1 [‹scr ns›,‹.int at'›,‹.int most›,‹.list N›,‹.str m.s›,a5,some (.own (Nd.ds l)),‹.int k›,‹.int f›,a9,a10,a11,a12] = some (.nx [‹scr ns›,‹.int at'›,‹.int most›,‹.list N›,‹.str m.s›,a5,some (.own (Nd.ds l)),‹.int k›,‹.int f›,‹.int ((f + d : Nat) : Int)›,a10,a11,a12]):=by
  wp_walk using evD,gb1,m5,ed,fd
 have s2 : gb2 [‹scr ns›,‹.int at'›,‹.int most›,‹.list N›,‹.str m.s›,a5,some (.own (Nd.ds l)),‹.int k›,‹.int f›,‹.int ((f + d : Nat) : Int)›,a10,a11,a12] = some (.nx [‹scr ns›,‹.int at'›,‹.int most›,‹.list N›,‹.str m.s›,a5,some (.own (Nd.ds l)),‹.int k›,‹.int f›,‹.int ((f + d : Nat) : Int)›,‹fr s›,a11,a12]):=by
  wp_walk using evD,gb2,m5,es0,e6,est
 have s3 : gb3 [‹scr ns›,‹.int at'›,‹.int most›,‹.list N›,‹.str m.s›,a5,some (.own (Nd.ds l)),‹.int k›,‹.int f›,‹.int ((f + d : Nat) : Int)›,‹fr s›,a11,a12] = some (.nx [‹scr ns›,‹.int at'›,‹.int most›,‹.list N›,‹.str m.s›,a5,some (.own (Nd.ds l)),‹.int k›,‹.int f›,‹.int ((f + d : Nat) : Int)›,‹fr s›,‹.str m'.s›,a12]):=by
  wp_walk using evD,gb3,m5,e7,em'
 have s4 : gb4 [‹scr ns›,‹.int at'›,‹.int most›,‹.list N›,‹.str m.s›,a5,some (.own (Nd.ds l)),‹.int k›,‹.int f›,‹.int ((f + d : Nat) : Int)›,‹fr s›,‹.str m'.s›,a12] = some (.nx [‹scr ns›,‹.int at'›,‹.int most›,‹.list N›,‹.str m.s›,a5,some (.own (Nd.ds l)),‹.int k›,‹.int f›,‹.int ((f + d : Nat) : Int)›,‹fr s›,‹.str m'.s›,‹.tuple [.str "group", nm,.str m'.s,fr s,.bool (decide (0 < d14))]›]):=by
  wp_walk using evD,gb4,enm,e14,ci5
 obtain ⟨q1,q2⟩:=cs5 (ds:=Nd.ds l) (a:=f) (b:=f + d) (by omega)
 have mid : ((Nd.ds l).drop f).take (min (f + d) (Nd.ds l).length - f) = Nd.ds ((l.drop f).take (max f (min (f + d) l.length) - f)):=by
  rw [hds,M7,M7,← List.map_drop,← List.map_take]
  congr 2; omega
 have s5 : gb5 [‹scr ns›,‹.int at'›,‹.int most›,‹.list N›,‹.str m.s›,a5,some (.own (Nd.ds l)),‹.int k›,‹.int f›,‹.int ((f + d : Nat) : Int)›,‹fr s›,‹.str m'.s›,‹.tuple [.str "group", nm,.str m'.s,fr s,.bool (decide (0 < d14))]›] = some (.nx [‹scr ns›,‹.int at'›,‹.int most›,‹.list N›,‹.str m.s›,a5,some (.own (Nd.ds (aH9 l f (max f (min (f + d) l.length)) (Nd.group nm m' s (decide (0 < d14)))))),‹.int k›,‹.int f›,‹.int ((f + d : Nat) : Int)›,‹fr s›,‹.str m'.s›,‹.tuple [.str "group", nm,.str m'.s,fr s,.bool (decide (0 < d14))]›]):=by
  have x1 : bN9 (A8 6) (F9 (A1 8)) (F9 (A1 9)) [‹scr ns›,‹.int at'›,‹.int most›,‹.list N›,‹.str m.s›,a5,some (.own (Nd.ds l)),‹.int k›,‹.int f›,‹.int ((f + d : Nat) : Int)›,‹fr s›,‹.str m'.s›,‹.tuple [.str "group", nm,.str m'.s,fr s,.bool (decide (0 < d14))]›] = some (.list (Nd.ds ((l.drop f).take (max f (min (f + d) l.length) - f)))):=by
   rw [← mid,← q1]; rfl
  have x2 : (A0 (A5 B5 (A1 12) (F6 (A0 (N4 (qE (bN9 (A8 6) (F9 (A1 8)) (F9 (A1 9))))) A3))) A3) [‹scr ns›,‹.int at'›,‹.int most›,‹.list N›,‹.str m.s›,a5,some (.own (Nd.ds l)),‹.int k›,‹.int f›,‹.int ((f + d : Nat) : Int)›,‹fr s›,‹.str m'.s›,‹.tuple [.str "group", nm,.str m'.s,fr s,.bool (decide (0 < d14))]›] = some [Nd.d (Nd.group nm m' s (decide (0 < d14)) ((l.drop f).take (max f (min (f + d) l.length) - f)))]:=by
   have cc : ∀ a b c d e g : D,B5 (.tuple [a,b,c,d,e]) (.tuple [g]) = some (.tuple [a,b,c,d,e,g]):=fun _ _ _ _ _ _=>rfl
   simp only [A0,A3,A5,F6,N4,qE,x1,af0,A1,xbs,xms,xg0,xg1,xft,if_false,cc,Nd.d]
  have sz : (Nd.ds l).length + 1 ≤ 16777216:=by omega
  have fin : aL4 (Nd.ds l) (some (f : Int)) (some ((f + d : Nat) : Int)) [Nd.d (Nd.group nm m' s (decide (0 < d14)) ((l.drop f).take (max f (min (f + d) l.length) - f)))] = Nd.ds (aH9 l f (max f (min (f + d) l.length)) (Nd.group nm m' s (decide (0 < d14)))):=by
   rw [q2,hds]
   unfold aH9
   rw [M7,M7,List.map_append,List.map_append,List.map_take,List.map_drop]
   rfl
  rw [← fin]
  unfold gb5 bU9
  rw [x2,xbs]
  show (if (Nd.ds l).length + 1 ≤ 16777216 then some (Fl.nx _) else none) = _
  rw [if_pos sz]
  rfl
 refine ⟨‹.int f›,‹.int ((f + d : Nat) : Int)›,‹fr s›,‹.str m'.s›,‹.tuple [.str "group", nm,.str m'.s,fr s,.bool (decide (0 < d14))]›,?_,by omega,by omega,hs,hnm⟩
 unfold bD3
 rw [B7 s0,B7 s1,B7 s2,B7 s3,B7 s4,s5]
structure NOk (N : List D) (i : Nat) (most : Nat) (l : List Nd) : Prop where
 ok : Nd.Oks l
 wg : Nd.wgs l ≤ 40 * most + 5 * i
 dp : Nd.dps l ≤ i
 len : l.length ≤ most + i
 th : Nd.thins l
 nr : Nd.nears l
 ix : ∃ is : List Nat,Nd.nmss l = is.map (fun j=>N.getD j .none) ∧ is.Nodup ∧ ∀ j ∈ is,j < most + i
theorem NOk.grp {N : List D} {i most : Nat} {l : List Nd} (h : NOk N i most l) {a c : Nat} {nm : D} {m : Man} {s : Rat} {sh : Bool} (ac : a ≤ c) (hs : IsSh 4 s) (hnm : nm = N.getD (most + i) .none) (h100 : l.length ≤ 100) : NOk N (i + 1) most (aH9 l a c (Nd.group nm m s sh)):=by
 have e:=cF1 l ac
 have w1:=congrArg Nd.wgs e
 have w2:=congrArg Nd.dps e
 rw [S8,S8] at w1
 rw [X3,X3] at w2
 have hw:=h.wg
 have hd:=h.dp
 refine ⟨?_,?_,?_,?_,?_,?_,?_⟩
 ·rw [S9]
  have ok:=(S9 l).mp h.ok
  intro n hn
  unfold aH9 at hn
  rcases List.mem_append.mp hn with hn | hn
  ·rcases List.mem_append.mp hn with hn | hn
   ·exact ok n (List.mem_of_mem_take hn)
   ·rw [List.mem_singleton.mp hn]
    rw [Nd.Ok]
    exact ⟨bh7 hs,(S9 _).mpr fun n' hn'=>ok n' (List.mem_of_mem_drop (List.mem_of_mem_take hn'))⟩
  ·exact ok n (List.mem_of_mem_drop hn)
 ·unfold aH9
  rw [S8,S8]
  simp only [Nd.wgs,Nd.wg]
  omega
 ·unfold aH9
  rw [X3,X3]
  simp only [Nd.dps,Nd.dp]
  omega
 ·unfold aH9
  rw [List.length_append,List.length_append,List.length_take,List.length_drop,List.length_singleton]
  have:=h.len
  omega
 ·rw [T8]
  have th:=(T8 l).mp h.th
  intro n hn
  unfold aH9 at hn
  rcases List.mem_append.mp hn with hn | hn
  ·rcases List.mem_append.mp hn with hn | hn
   ·exact th n (List.mem_of_mem_take hn)
   ·rw [List.mem_singleton.mp hn,Nd.thin]
    exact ⟨Nat.le_trans (List.length_take_le' ..) (by rw [List.length_drop]; omega),(T8 _).mpr fun n' hn'=>th n' (List.mem_of_mem_drop (List.mem_of_mem_take hn'))⟩
  ·exact th n (List.mem_of_mem_drop hn)
 ·rw [af2]
  have th:=(af2 l).mp h.nr
  intro n hn
  unfold aH9 at hn
  rcases List.mem_append.mp hn with hn | hn
  ·rcases List.mem_append.mp hn with hn | hn
   ·exact th n (List.mem_of_mem_take hn)
   ·rw [List.mem_singleton.mp hn,Nd.near]
    exact (af2 _).mpr fun n' hn'=>th n' (List.mem_of_mem_drop (List.mem_of_mem_take hn'))
  ·exact th n (List.mem_of_mem_drop hn)
 ·obtain ⟨is,e1,e2,e3⟩:=h.ix
  have w3:=congrArg Nd.nmss e
  rw [E1,E1,e1] at w3
  obtain ⟨i12,i3,q1,q2,q3⟩:=List.map_eq_append_iff.mp w3.symm
  obtain ⟨i1,i2,p1,p2,p3⟩:=List.map_eq_append_iff.mp q2
  subst p1 q1
  refine ⟨i1 ++ ((most + i) :: i2) ++ i3,?_,?_,?_⟩
  ·unfold aH9
   rw [E1,E1,← q3,← p2]
   simp only [Nd.nmss,Nd.nms,List.append_nil,List.map_append,xmc,p3,hnm]
  ·have pm : (i1 ++ ((most + i) :: i2) ++ i3).Perm ((most + i) :: (i1 ++ i2 ++ i3)):=by
    rw [List.append_assoc,xca,List.append_assoc i1 i2 i3]
    exact List.perm_middle
   rw [pm.nodup_iff,List.nodup_cons]
   exact ⟨fun z=>by have:=e3 _ z; omega,e2⟩
  ·intro j hj
   have : j = most + i ∨ j ∈ i1 ++ i2 ++ i3:=by
    simp only [List.mem_append,List.mem_cons] at hj ⊢
    rcases hj with (h | h | h) | h
    ·exact .inr (.inl (.inl h))
    ·exact .inl h
    ·exact .inr (.inl (.inr h))
    ·exact .inr (.inr h)
   rcases this with rfl | h
   ·omega
   ·have:=e3 j h; omega
theorem bY0 (ns : List Int) (hn : ns.length ≤ 63) (at' most : Nat) (ha : at' < 2 ^ 18) (hmost : most ≤ 6) (N : List D) (hN : most + 2 ≤ N.length) : ∃ l : List Nd,ar5 [scr ns,.int at',.int most,.list N] = some (.tuple (Nd.ds l)) ∧ NOk N 2 most l:=by
 obtain ⟨d0,e0,l0⟩:=K1 ns hn (e:=(at' : Int)) (m':=4) at' 4 rfl rfl (by omega) (by decide)
 obtain ⟨d1,e1,l1⟩:=K1 ns hn (e:=(at' : Int) + 1) (m':=(most : Int) + 1) (at' + 1) (most + 1) (by omega) (by omega) (by omega) (by omega)
 obtain ⟨d2,e2,l2⟩:=K1 ns hn (e:=(at' : Int) + 2) (m':=3) (at' + 2) 3 (by omega) rfl (by omega) (by decide)
 obtain ⟨m,em⟩:=dc0 d0 l0
 have P : ∀ j,j < d1 → ∃ n : Nd,A2 ab4 (A0 (A1 1) (A0 (A5 B5 (A5 B5 (A1 4) (dC (.int 20))) (A5 L5 (dC (.int 170)) (A1 0))) (A0 (dIx (A8 3) (A1 0)) (A0 (A1 2) A3)))) [‹.int (j : Nat)›,‹scr ns›,‹.str m.s›,‹.list N›,‹.int at'›] = some n.d ∧ n.Ok ∧ n.dp = 0 ∧ n.wg ≤ 40 ∧ n.nm = N.getD j .none ∧ n.near:=fun j hj=>by
  have m170 : L5 (.int 170) (.int j) = some (.int ((170 * j : Nat) : Int)):=U6 (i:=170) (by decide) (by omega)
  have en : atI N (j : Int) = some (N[j]'(by omega)):=by
   unfold atI
   rw [av3 (by omega) (by omega),xbs,Int.toNat_natCast]
   exact List.getElem?_eq_getElem (by omega)
  obtain ⟨n,en',hn'⟩:=cn9 ns hn (at' + 20 + 170 * j) (by omega) (N[j]'(by omega)) m
  have ei : (at' : Int) + 20 + ((170 * j : Nat) : Int) = ((at' + 20 + 170 * j : Nat) : Int):=by omega
  refine ⟨n,?_,hn'.1,hn'.2.1,hn'.2.2.1,by rw [hn'.2.2.2.1,List.getD_eq_getElem?_getD,List.getElem?_eq_getElem (by omega)]; rfl,hn'.2.2.2.2⟩
  wp_walk using evD,m170,en,ei,en'
 obtain ⟨f,hf⟩:=bm2 (x:=Nd.tone .none .turn 0 true) P
 have g0 : gn0 [‹scr ns›,‹.int at'›,‹.int most›,‹.list N›,none,none,none,none,none,none,none,none,none] = some (.nx [‹scr ns›,‹.int at'›,‹.int most›,‹.list N›,‹.str m.s›,none,none,none,none,none,none,none,none]):=by
  wp_walk using evD,gn0,e0,em
 have g1 : gn1 [‹scr ns›,‹.int at'›,‹.int most›,‹.list N›,‹.str m.s›,none,none,none,none,none,none,none,none] = some (.nx [‹scr ns›,‹.int at'›,‹.int most›,‹.list N›,‹.str m.s›,‹.int d1›,none,none,none,none,none,none,none]):=by
  wp_walk using evD,gn1,e1
 have g2 : gn2 [‹scr ns›,‹.int at'›,‹.int most›,‹.list N›,‹.str m.s›,‹.int d1›,none,none,none,none,none,none,none] = some (.nx [‹scr ns›,‹.int at'›,‹.int most›,‹.list N›,‹.str m.s›,‹.int d1›,some (.own (Nd.ds ((List.range d1).map f))),none,none,none,none,none,none]):=by
  have c : B8 1 [0,4,3,1] (O4 (A1 5)) (B1 0) C8 (A2 ab4 (A0 (A1 1) (A0 (A5 B5 (A5 B5 (A1 4) (dC (.int 20))) (A5 L5 (dC (.int 170)) (A1 0))) (A0 (dIx (A8 3) (A1 0)) (A0 (A1 2) A3))))) [‹scr ns›,‹.int at'›,‹.int most›,‹.list N›,‹.str m.s›,‹.int d1›,none,none,none,none,none,none,none] = some ((List.range d1).map fun j=>(f j).d) :=
   v4 (l:=List.range d1) (h:=fun j : Nat=>PyData.int j) (r:=[‹scr ns›,‹.str m.s›,‹.list N›,‹.int at'›]) rfl (ah3 (n:=d1) rfl (by omega)) (by rw [List.length_range]; omega) fun j hj=>(hf j (List.mem_range.mp hj)).1
  unfold gn2 ae0
  rw [c,M7,List.map_map]
  rfl
 have ae8 : NOk N 0 most ((List.range d1).map f):=by
  refine ⟨(S9 _).mpr fun n h=>?_,?_,?_,?_,(T8 _).mpr fun n h=>?_,(af2 _).mpr fun n h=>?_,List.range d1,?_,List.nodup_range,fun j hj=>by have:=List.mem_range.mp hj; omega⟩
  ·obtain ⟨j,hj,rfl⟩:=List.mem_map.mp h
   exact (hf j (List.mem_range.mp hj)).2.1
  ·have:=bS9 ((List.range d1).map f) fun n h=>by
    obtain ⟨j,hj,rfl⟩:=List.mem_map.mp h
    exact (hf j (List.mem_range.mp hj)).2.2.2.1
   rw [List.length_map,List.length_range] at this
   omega
  ·rw [bn2 _ fun n h=>by
    obtain ⟨j,hj,rfl⟩:=List.mem_map.mp h
    exact (hf j (List.mem_range.mp hj)).2.2.1]
   exact Nat.le_refl _
  ·rw [List.length_map,List.length_range]; omega
  ·obtain ⟨j,hj,rfl⟩:=List.mem_map.mp h
   have:=(hf j (List.mem_range.mp hj)).2.2.1
   cases q : f j with
   | group=>rw [q,Nd.dp] at this; omega
   | layer=>rw [Nd.thin]; trivial
   | tone=>rw [Nd.thin]; trivial
  ·obtain ⟨j,hj,rfl⟩:=List.mem_map.mp h
   exact (hf j (List.mem_range.mp hj)).2.2.2.2.2
  ·have key : ∀ is : List Nat,(∀ j ∈ is,j < d1) → Nd.nmss (is.map f) = is.map fun j=>N.getD j .none:=by
    intro is
    induction is with
    | nil=>intro _; simp [Nd.nmss]
    | cons j is ih =>
     intro hj
     have a:=hf j (hj j (List.mem_cons_self ..))
     rw [xmc,Nd.nmss,ih fun i hi=>hj i (List.mem_cons_of_mem _ hi),xmc,← a.2.2.2.2.1]
     cases q : f j with
     | group=>have:=a.2.2.1; rw [q,Nd.dp] at this; omega
     | layer=>simp [Nd.nms,Nd.nm]
     | tone=>simp [Nd.nms,Nd.nm]
   exact key _ fun j hj=>List.mem_range.mp hj
 obtain ⟨ρ',e3,l,b7,b8,b9,b10,b11,b12,hρ,hl⟩:=o7 (g:=B1 7) (f:=bD3) (h:=fun j : Nat=>PyData.int j) (I:=fun i ρ=>∃ (l : List Nd) (b7 b8 b9 b10 b11 b12 : Option B),ρ = [‹scr ns›,‹.int at'›,‹.int most›,‹.list N›,‹.str m.s›,‹.int d1›,some (.own (Nd.ds l)),b7,b8,b9,b10,b11,b12] ∧ NOk N i most l) (List.range d2) 0 [‹scr ns›,‹.int at'›,‹.int most›,‹.list N›,‹.str m.s›,‹.int d1›,some (.own (Nd.ds ((List.range d1).map f))),none,none,none,none,none,none] ⟨_,_,_,_,_,_,_,rfl,ae8⟩ (fun j a hj ρ hρ=>by
  obtain ⟨l,b7,b8,b9,b10,b11,b12,rfl,hl⟩:=hρ
  obtain ⟨hj1,hj2⟩:=List.getElem?_eq_some_iff.mp hj
  rw [List.length_range] at hj1
  rw [List.getElem_range] at hj2
  subst hj2
  refine ⟨_,rfl,?_⟩
  simp only [xw0,xw1]
  have hll:=hl.len
  obtain ⟨a,c,nm,m',s,sh,c8,c9,c10,c11,c12,eb,ac,cl,hs,hnm⟩:=cd4 ns hn at' most j ha (by omega) hmost N hN m l (by omega) (‹.int d1›) b8 b9 b10 b11 b12
  exact ⟨_,eb,_,_,_,_,_,_,_,rfl,hl.grp ac hs (by rw [hnm,Nat.zero_add]) (by omega)⟩)
 subst hρ
 rw [List.length_range,Nat.zero_add] at hl
 refine ⟨l,?_,hl.ok,by have:=hl.wg; omega,by have:=hl.dp; omega,by have:=hl.len; omega,hl.th,hl.nr,by
  obtain ⟨is,q1,q2,q3⟩:=hl.ix
  exact ⟨is,q1,q2,fun j hj=>by have:=q3 j hj; omega⟩⟩
 have rn : O4 (A2 A7 (A0 (A1 0) (A0 (A5 B5 (A1 1) (dC (.int 2))) (A0 (dC (.int 3)) A3)))) [‹scr ns›,‹.int at'›,‹.int most›,‹.list N›,‹.str m.s›,‹.int d1›,some (.own (Nd.ds ((List.range d1).map f))),none,none,none,none,none,none] = _:=ah3 (n:=d2) (by wp_walk using evD,e2) (by omega)
 have g3 : gn3 [‹scr ns›,‹.int at'›,‹.int most›,‹.list N›,‹.str m.s›,‹.int d1›,some (.own (Nd.ds ((List.range d1).map f))),none,none,none,none,none,none] = some (.nx [‹scr ns›,‹.int at'›,‹.int most›,‹.list N›,‹.str m.s›,‹.int d1›,some (.own (Nd.ds l)),b7,b8,b9,b10,b11,b12]):=by
  unfold gn3 U4
  rw [rn]
  exact e3
 have g4 : gn4 [‹scr ns›,‹.int at'›,‹.int most›,‹.list N›,‹.str m.s›,‹.int d1›,some (.own (Nd.ds l)),b7,b8,b9,b10,b11,b12] = some (.rt (.tuple (Nd.ds l))):=rfl
 refine B0 (ρ:=[‹scr ns›,‹.int at'›,‹.int most›,‹.list N›,none,none,none,none,none,none,none,none,none]) rfl ?_
 rw [cc8,B7 g0,B7 g1,B7 g2,B7 g3]
 exact g4
def B6 (w h : Nat) (l : List Nd) : D:=.tuple [.int w,.int h,.tuple (Nd.ds l)]
theorem bs0 (ns : List Int) (hn : ns.length ≤ 63) (at' most : Nat) (ha : at' < 2 ^ 17) (hmost : most ≤ 6) (N : List D) (hN : most + 2 ≤ N.length) : ∃ (w h : Nat) (l : List Nd),o9 [scr ns,.int at',.int most,.list N] = some (B6 w h l) ∧ NOk N 2 most l ∧ (1 ≤ w ∧ w ≤ 3) ∧ (1 ≤ h ∧ h ≤ 3):=by
 obtain ⟨d0,e0,l0⟩:=K1 ns hn (e:=(at' : Int)) (m':=3) at' 3 rfl rfl (by omega) (by decide)
 obtain ⟨d1,e1,l1⟩:=K1 ns hn (e:=(at' : Int) + 1) (m':=3) (at' + 1) 3 (by omega) rfl (by omega) (by decide)
 obtain ⟨l,el,hl⟩:=bY0 ns hn (at' + 2) most (by omega) hmost N hN
 have e2 : (at' : Int) + 2 = ((at' + 2 : Nat) : Int):=by omega
 refine ⟨1 + d0,1 + d1,l,?_,hl,by omega,by omega⟩
 refine B0 (ρ:=[‹scr ns›,‹.int at'›,‹.int most›,‹.list N›,none,none]) rfl ?_
 wp_walk using evD,aG4,e0,e1,ad1,e2,el,B6
def flL (w h : Nat) (l : List Nd) : List Q4:=(plc w (w * h)).map fun p=>Nd.sw p.1 p.2 l q0
structure Small6 (l : List Nd) : Prop where
 ok : Nd.Oks l
 wg : Nd.wgs l ≤ 800
 dp : Nd.dps l ≤ 3
theorem bu8 {w h : Nat} {l : List Nd} (S : Small6 l) (x y : Int) : ag3 [B6 w h l,.int x,.int y] = some (Nd.sw x y l q0).d:=by
 have e:=(bh9 x y l 11 S.ok (by have:=S.dp; omega) (by have:=S.wg; omega)).1
 refine B0 (ρ:=[‹B6 w h l›,‹.int x›,‹.int y›]) rfl ?_
 wp_walk using evD,aX6,B6,e
theorem bd6 {w h : Nat} {l : List Nd} (S : Small6 l) (w1 : 1 ≤ w) (w8 : w ≤ 8) (h8 : h ≤ 8) : ae6 [B6 w h l] = some (shD w h (flL w h l)):=by
 have wh : w * h ≤ 64:=Nat.mul_le_mul w8 h8
 refine B0 (ρ:=[‹B6 w h l›,none]) rfl ?_
 have c : B8 2 [0] (G1 (A2 U9 (A0 (dIx (A8 0) (dC (.int 0))) (A0 (dIx (A8 0) (dC (.int 1))) A3)))) (K4 2 (B2 (B1 0) (B2 (B1 1) K7))) C8 (A2 ag3 (A0 (A1 2) (A0 (A1 0) (A0 (A1 1) A3)))) [‹B6 w h l›,none] = some ((flL w h l).map Q4.d):=by
  rw [bY7 (l:=plc w (w * h)) (h1:=fun p=>.int p.1) (h2:=fun p=>.int p.2) (f:=fun p=>(Nd.sw p.1 p.2 l q0).d) (r:=[‹B6 w h l›]) rfl ?_ (by rw [aJ6]; omega) ?_]
  ·unfold flL; rw [List.map_map]; rfl
  ·wp_walk using evD,B6,aU6 w1 w8 h8
  ·intro p _
   wp_walk using evD,bu8 S
 have g0 : ∀ v : Option B,dIx (A8 0) (dC (.int 0)) [‹B6 w h l›,v] = some (.int w):=fun _=>rfl
 have g1 : ∀ v : Option B,dIx (A8 0) (dC (.int 1)) [‹B6 w h l›,v] = some (.int h):=fun _=>rfl
 simp only [ci1,A6,R0,c,g0,g1,A9,F6,A0,A3,N4,A8,xw0,xw1,xms,xbs,xg0,xg1]
 rfl
end Sh
namespace Sh
open PySem G L2
theorem U5 (n : Nd) : n.nm ∈ n.nms:=by
 cases n <;> simp [Nd.nm,Nd.nms]
theorem Z1 {n : Nd} {l : List Nd} (h : n ∈ l) {d : D} (hd : d ∈ n.nms) : d ∈ Nd.nmss l:=by
 obtain ⟨a,b,rfl⟩:=List.append_of_mem h
 rw [E1,Nd.nmss]
 simp [hd]
def X0 (d : D) : Prop:=∃ s : Str,d = .str s ∧ SOk s
def same (a b : D) : Bool:=@decide (a = b) (Classical.propDecidable _)
theorem aU3 (a : D) : same a a = true:=@decide_eq_true _ (Classical.propDecidable _) rfl
theorem aZ2 {a b : D} (h : a ≠ b) : same a b = false:=@decide_eq_false _ (Classical.propDecidable _) h
theorem cY4 {a b : D} (ha : X0 a) (hb : X0 b) : eqD a b = some (.bool (same a b)):=by
 obtain ⟨s,rfl,hs⟩:=ha
 obtain ⟨t,rfl,ht⟩:=hb
 refine B3 hs.ok ht.ok ?_
 by_cases e : s = t
 ·subst e; rw [aU3]; simp
 ·rw [aZ2 (fun z=>e (by cases z; rfl))]; simp [e]
theorem bd5 {g : D → Rho → Option Rho} {f : DS} {I : Rho → Prop} {d : D} : ∀ (X : List D) (i : Nat) (ρ : Rho),I ρ → (∀ j x,j < i → X[j]? = some x → ∀ ρ,I ρ → ∃ ρ1,g x ρ = some ρ1 ∧ ∃ ρ',f ρ1 = some (.nx ρ') ∧ I ρ') → (∀ x,X[i]? = some x → ∀ ρ,I ρ → ∃ ρ1,g x ρ = some ρ1 ∧ f ρ1 = some (.rt d)) → i < X.length → ab8 g f X ρ = some (.rt d)
 | [],i,ρ,_,_,_,h=>absurd h (Nat.not_lt_zero i)
 | x :: X,0,ρ,h0,_,H,_=>by
  obtain ⟨ρ1,e1,e2⟩:=H x rfl ρ h0
  simp only [ab8,e1,xbs,e2]
 | x :: X,i + 1,ρ,h0,S,H,hl=>by
  obtain ⟨ρ1,e1,ρ',e2,h2⟩:=S 0 x (by omega) rfl ρ h0
  have:=bd5 X i ρ' h2 (fun j y hj hy=>S (j + 1) y (by omega) (by simpa using hy)) (fun y hy=>H y (by simpa using hy)) (by simpa using hl)
  simp only [ab8,e1,xbs,e2,this]
theorem am6 {g : D → Rho → Option Rho} {f : DS} {I : Rho → Prop} : ∀ (X : List D) (ρ : Rho),I ρ → (∀ x ∈ X,∀ ρ,I ρ → ∃ ρ1,g x ρ = some ρ1 ∧ ∃ ρ',f ρ1 = some (.nx ρ') ∧ I ρ') → ∃ ρ',ab8 g f X ρ = some (.nx ρ') ∧ I ρ'
 | [],ρ,h,_=>⟨ρ,rfl,h⟩
 | x :: X,ρ,h,H=>by
  obtain ⟨ρ1,e1,ρ2,e2,h2⟩:=H x (List.mem_cons_self ..) ρ h
  obtain ⟨ρ',e3,h3⟩:=am6 X ρ2 h2 fun y hy=>H y (List.mem_cons_of_mem _ hy)
  exact ⟨ρ',by simp only [ab8,e1,xbs,e2,e3],h3⟩
theorem name_of (n : Nd) : P8 [n.d] = some n.nm:=by
 cases n <;> (rw [Nd.d]; rfl)
def nab : DS:=(sIf (tB2 eqD (A2 P8 (A0 (A1 3) A3)) (A1 1)) (A9 (A1 2)) C1)
theorem bt7 {n : Nd} {nm : D} (h1 : X0 n.nm) (h2 : X0 nm) (a0 a2 : Option B) (k : D) : nab [a0,some (.val nm),some (.val k),some (.val n.d)] = if same n.nm nm = true then some (.rt k) else some (.nx [a0,some (.val nm),some (.val k),some (.val n.d)]):=by
 simp only [nab,sIf,tB2,A5,A2,A0,A3,A1,name_of,cY4 h1 h2,M4,A9,C1,xbs,xms,xg0,xg1]
theorem am7 (l : List Nd) (j : Nat) : (Nd.ds l)[j]? = (l[j]?).map Nd.d:=by rw [M7,List.getElem?_map]
theorem aN3 {l : List Nd} {nm : D} (hs : ∀ n ∈ l,X0 n.nm) (hn : X0 nm) (h : ∀ n ∈ l,n.nm ≠ nm) : S5 [.tuple (Nd.ds l),nm] = some .none:=by
 refine B0 (ρ:=[‹.tuple (Nd.ds l)›,some (.val nm),none,none]) rfl ?_
 obtain ⟨ρ',e,_⟩:=o7 (g:=K4 2 (B2 (B1 2) (B2 (B1 3) K7))) (f:=nab) (h:=id) (I:=fun _ ρ=>∃ a2 a3,ρ = [‹.tuple (Nd.ds l)›,some (.val nm),a2,a3]) (v7 (Nd.ds l)) 0 [‹.tuple (Nd.ds l)›,some (.val nm),none,none] ⟨none,none,rfl⟩ (fun j d hj ρ hρ=>by
  obtain ⟨a2,a3,rfl⟩:=hρ
  rw [aa7,am7] at hj
  cases q : l[j]? with
  | none=>rw [q] at hj; cases hj
  | some n =>
   rw [q] at hj
   cases hj
   have hm:=List.mem_of_getElem? q
   refine ⟨_,rfl,[‹.tuple (Nd.ds l)›,some (.val nm),‹.int j›,some (.val n.d)],?_,_,_,rfl⟩
   have:=bt7 (hs n hm) hn (‹.tuple (Nd.ds l)›) none (.int j)
   rw [aZ2 (h n hm)] at this
   exact this)
 rw [List.map_id] at e
 have s0 : (U4 (aO4 (qE (A1 0))) (K4 2 (B2 (B1 2) (B2 (B1 3) K7))) nab) [‹.tuple (Nd.ds l)›,some (.val nm),none,none] = some (.nx ρ'):=e
 exact (B7 s0).trans rfl
theorem bj7 {a b : List Nd} {n : Nd} (hs : ∀ n' ∈ a,X0 n'.nm) (hn : X0 n.nm) (h : ∀ n' ∈ a,n'.nm ≠ n.nm) : S5 [.tuple (Nd.ds (a ++ n :: b)),n.nm] = some (.int a.length):=by
 refine B0 (ρ:=[‹.tuple (Nd.ds (a ++ n :: b))›,some (.val n.nm),none,none]) rfl ?_
 have e:=bd5 (g:=K4 2 (B2 (B1 2) (B2 (B1 3) K7))) (f:=nab) (d:=.int a.length) (I:=fun ρ=>∃ a2 a3,ρ = [‹.tuple (Nd.ds (a ++ n :: b))›,some (.val n.nm),a2,a3]) (v7 (Nd.ds (a ++ n :: b))) a.length [‹.tuple (Nd.ds (a ++ n :: b))›,some (.val n.nm),none,none] ⟨none,none,rfl⟩ (fun j x hj hx ρ hρ=>by
  obtain ⟨a2,a3,rfl⟩:=hρ
  rw [aa7,am7,List.getElem?_append_left hj,List.getElem?_eq_getElem hj] at hx
  cases hx
  have hm:=List.getElem_mem hj
  refine ⟨_,rfl,[‹.tuple (Nd.ds (a ++ n :: b))›,some (.val n.nm),‹.int j›,some (.val (a[j]).d)],?_,_,_,rfl⟩
  have:=bt7 (hs _ hm) hn (‹.tuple (Nd.ds (a ++ n :: b))›) none (.int j)
  rw [aZ2 (h _ hm)] at this
  exact this) (fun x hx ρ hρ=>by
  obtain ⟨a2,a3,rfl⟩:=hρ
  rw [aa7,am7,List.getElem?_append_right (Nat.le_refl _),Nat.sub_self] at hx
  cases hx
  refine ⟨_,rfl,?_⟩
  have:=bt7 hn hn (‹.tuple (Nd.ds (a ++ n :: b))›) none (.int a.length)
  rw [aU3] at this
  exact this) (by rw [o8,M7,List.length_map,List.length_append]; simp)
 have s0 : (U4 (aO4 (qE (A1 0))) (K4 2 (B2 (B1 2) (B2 (B1 3) K7))) nab) [‹.tuple (Nd.ds (a ++ n :: b))›,some (.val n.nm),none,none] = some (.rt (.int a.length)):=e
 exact br5 s0
theorem K6 (n : Nd) : M2 [n.d] = some (.bool (match n with | .group ..=>true | _=>false)):=by
 have e_tg : eqD (.str "tone") (.str "group") = some (.bool false):=B3 (by decide +kernel) (by decide +kernel) (by decide +kernel)
 cases n with
 | layer nm m s sh lf tp mk w h l kb=>rw [Nd.d]; exact B0 (ρ:=[‹.tuple [.str "layer", nm,.str m.s,fr s,.bool sh,.int lf,.int tp,mkD mk,shD w h l]›]) rfl (congrArg (Option.map Fl.rt) cP8)
 | tone nm r s sh=>rw [Nd.d]; exact B0 (ρ:=[‹.tuple [.str "tone", nm,.str r.s,fr s,.bool sh]›]) rfl (congrArg (Option.map Fl.rt) e_tg)
 | group nm m s sh ns=>rw [Nd.d]; exact B0 (ρ:=[‹.tuple [.str "group", nm,.str m.s,fr s,.bool sh,.tuple (Nd.ds ns)]›]) rfl (congrArg (Option.map Fl.rt) cP9)
theorem db7 (ds : List D) : aR7 (.tuple ds) .none = some (.bool true):=rfl
theorem db8 (i : Int) : aR7 (.int i) .none = some (.bool true):=rfl
theorem aY0 {l : List Nd} {nm : D} (h : nm ∉ Nd.nmss l) : ∀ n ∈ l,n.nm ≠ nm:=fun n hn e=>h (e ▸ Z1 hn (U5 n))
theorem aN6 {l : List Nd} (h : ∀ d ∈ Nd.nmss l,X0 d) : ∀ n ∈ l,X0 n.nm:=fun n hn=>h _ (Z1 hn (U5 n))
def twb (f : Nat) : DS:=(sIf (K5 (A2 M2 (A0 (A1 2) A3))) (A6 (B4 3 (A2 (K3 f) (A0 (A2 C5 (A0 (A1 2) A3)) (A0 (A1 1) A3)))) (sIf (tB2 aR7 (A1 3) (dC .none)) (A9 (A1 3)) C1)) C1)
theorem S1 {l : List Nd} {n : Nd} (h : n ∈ l) : n.dp ≤ Nd.dps l:=by
 obtain ⟨a,b,rfl⟩:=List.append_of_mem h
 rw [X3,Nd.dps]; omega
theorem cj1 (nm : D) (hn : X0 nm) : ∀ (k : Nat) (l : List Nd) (f : Nat),Nd.dps l ≤ k → k + 1 ≤ f → (∀ d ∈ Nd.nmss l,X0 d) → nm ∉ Nd.nmss l → K3 f [.tuple (Nd.ds l),nm] = some .none:=by
 intro k
 induction k with
 | zero =>
  intro l f hd hf hs hni
  obtain ⟨f,rfl⟩ : ∃ g,f = g + 1:=⟨f - 1,by omega⟩
  have e0:=aN3 (aN6 hs) hn (aY0 hni)
  obtain ⟨ρ',e,a2,a3,hρ⟩:=am6 (g:=B1 2) (f:=twb f) (I:=fun ρ=>∃ a2 a3,ρ = [‹.tuple (Nd.ds l)›,some (.val nm),a2,a3]) (Nd.ds l) [‹.tuple (Nd.ds l)›,some (.val nm),none,none] ⟨none,none,rfl⟩ (fun x hx ρ hρ=>by
   obtain ⟨a2,a3,rfl⟩:=hρ
   rw [M7] at hx
   obtain ⟨n,hm,rfl⟩:=List.mem_map.mp hx
   refine ⟨_,rfl,[‹.tuple (Nd.ds l)›,some (.val nm),some (.val n.d),a3],?_,_,_,rfl⟩
   have:=S1 hm
   cases n with
   | group _ _ _ _ _=>rw [Nd.dp] at this; omega
   | layer=>wp_walk using evD,twb,K6
   | tone=>wp_walk using evD,twb,K6)
  subst hρ
  refine B0 (g:=P6 (K3 f)) (ρ:=[‹.tuple (Nd.ds l)›,some (.val nm),none,none]) rfl ?_
  unfold twb at e
  wp_walk using evD,P6,U4,e0,bk4,e
 | succ k ih =>
  intro l f hd hf hs hni
  obtain ⟨f,rfl⟩ : ∃ g,f = g + 1:=⟨f - 1,by omega⟩
  have e0:=aN3 (aN6 hs) hn (aY0 hni)
  obtain ⟨ρ',e,a2,a3,hρ⟩:=am6 (g:=B1 2) (f:=twb f) (I:=fun ρ=>∃ a2 a3,ρ = [‹.tuple (Nd.ds l)›,some (.val nm),a2,a3]) (Nd.ds l) [‹.tuple (Nd.ds l)›,some (.val nm),none,none] ⟨none,none,rfl⟩ (fun x hx ρ hρ=>by
   obtain ⟨a2,a3,rfl⟩:=hρ
   rw [M7] at hx
   obtain ⟨n,hm,rfl⟩:=List.mem_map.mp hx
   have hdp:=S1 hm
   refine ⟨_,rfl,?_⟩
   cases n with
   | group nm' m s sh ns =>
    rw [Nd.dp] at hdp
    have sub : ∀ d ∈ Nd.nmss ns,d ∈ Nd.nmss l:=fun d hd=>Z1 hm (by rw [Nd.nms]; exact List.mem_cons_of_mem _ hd)
    have e1:=ih ns f (by omega) (by omega) (fun d hd=>hs d (sub d hd)) (fun z=>hni (sub _ z))
    refine ⟨[‹.tuple (Nd.ds l)›,some (.val nm),‹Nd.d (.group nm' m s sh ns)›,some (.val .none)],?_,_,_,rfl⟩
    wp_walk using evD,twb,K6,ao5,e1,bk4
   | layer=>exact ⟨_,by wp_walk using evD,twb,K6; rfl,_,_,rfl⟩
   | tone=>exact ⟨_,by wp_walk using evD,twb,K6; rfl,_,_,rfl⟩)
  subst hρ
  refine B0 (g:=P6 (K3 f)) (ρ:=[‹.tuple (Nd.ds l)›,some (.val nm),none,none]) rfl ?_
  unfold twb at e
  wp_walk using evD,P6,U4,e0,bk4,e
inductive Stands (a : List Nd) (n : Nd) (b : List Nd) : List Nd → Prop
 | top : Stands a n b (a ++ n :: b)
 | deep {c e : List Nd} {nm : D} {m : Man} {s : Rat} {sh : Bool} {ns : List Nd} : Stands a n b ns → Stands a n b (c ++ .group nm m s sh ns :: e)
theorem Stands.nm {a : List Nd} {n : Nd} {b l : List Nd} (h : Stands a n b l) : ∀ d ∈ n.nms,d ∈ Nd.nmss l:=by
 induction h with
 | top=>intro d hd; rw [E1,Nd.nmss]; simp [hd]
 | deep _ ih=>intro d hd; rw [E1,Nd.nmss,Nd.nms]; simp [ih d hd]
theorem cj0 {a b : List Nd} {n : Nd} (hn : X0 n.nm) {l : List Nd} (h : Stands a n b l) : ∀ f : Nat,Nd.dps l + 1 ≤ f → (∀ d ∈ Nd.nmss l,X0 d) → (Nd.nmss l).Nodup → K3 f [.tuple (Nd.ds l),n.nm] = some (.tuple (Nd.ds (a ++ n :: b))):=by
 induction h with
 | top =>
  intro f hf hs hd
  obtain ⟨f,rfl⟩ : ∃ g,f = g + 1:=⟨f - 1,by omega⟩
  rw [E1,Nd.nmss] at hd
  have e0:=bj7 (a:=a) (b:=b) (n:=n) (fun n' hn'=>aN6 hs n' (List.mem_append_left _ hn')) hn (fun n' hn' e=>by
   have d1:=(List.nodup_append.mp hd).2.2
   exact d1 n'.nm (Z1 hn' (U5 n')) n.nm (List.mem_append_left _ (U5 n)) e)
  refine B0 (g:=P6 (K3 f)) (ρ:=[‹.tuple (Nd.ds (a ++ n :: b))›,some (.val n.nm),none,none]) rfl ?_
  wp_walk using evD,P6,e0,db8
 | @deep c e nm m s sh ns h ih =>
  intro f hf hs hd
  obtain ⟨f,rfl⟩ : ∃ g,f = g + 1:=⟨f - 1,by omega⟩
  rw [X3,Nd.dps,Nd.dp] at hf
  have hin:=h.nm n.nm (U5 n)
  rw [E1,Nd.nmss,Nd.nms] at hd
  have dc:=(List.nodup_append.mp hd)
  have dg:=(List.nodup_append.mp dc.2.1)
  have dn:=List.nodup_cons.mp dg.1
  have hc : n.nm ∉ Nd.nmss c:=fun z=>dc.2.2 n.nm z n.nm (by simp [hin]) rfl
  have hg : nm ≠ n.nm:=fun z=>dn.1 (z ▸ hin)
  have he : n.nm ∉ Nd.nmss e:=fun z=>dg.2.2 n.nm (by simp [hin]) n.nm z rfl
  have hsc : ∀ d ∈ Nd.nmss c,X0 d:=fun d hd=>hs d (by rw [E1]; simp [hd])
  have hsn : ∀ d ∈ Nd.nmss ns,X0 d:=fun d hd=>hs d (by rw [E1,Nd.nmss,Nd.nms]; simp [hd])
  have e0:=aN3 (l:=c ++ .group nm m s sh ns :: e) (aN6 hs) hn (fun n' hn' z=>by
   rcases List.mem_append.mp hn' with q | q
   ·exact aY0 hc n' q z
   ·rcases List.mem_cons.mp q with rfl | q
    ·exact hg z
    ·exact aY0 he n' q z)
  have e1:=ih f (by omega) hsn dn.2
  have e2:=bd5 (g:=B1 2) (f:=twb f) (d:=.tuple (Nd.ds (a ++ n :: b))) (I:=fun ρ=>∃ a2 a3,ρ = [‹.tuple (Nd.ds (c ++ .group nm m s sh ns :: e))›,some (.val n.nm),a2,a3]) (Nd.ds (c ++ .group nm m s sh ns :: e)) c.length [‹.tuple (Nd.ds (c ++ .group nm m s sh ns :: e))›,some (.val n.nm),none,none] ⟨none,none,rfl⟩ (fun j x hj hx ρ hρ=>by
   obtain ⟨a2,a3,rfl⟩:=hρ
   rw [am7,List.getElem?_append_left hj,List.getElem?_eq_getElem hj] at hx
   cases hx
   have hm:=List.getElem_mem hj
   have hdp:=S1 hm
   refine ⟨_,rfl,?_⟩
   cases q : c[j] with
   | group nm' m' s' sh' ns' =>
    rw [q] at hm hdp
    rw [Nd.dp] at hdp
    have sub : ∀ d ∈ Nd.nmss ns',d ∈ Nd.nmss c:=fun d hd=>Z1 hm (by rw [Nd.nms]; exact List.mem_cons_of_mem _ hd)
    have e3:=cj1 n.nm hn (Nd.dps ns') ns' f (Nat.le_refl _) (by omega) (fun d hd=>hsc d (sub d hd)) (fun z=>hc (sub _ z))
    refine ⟨[‹.tuple (Nd.ds (c ++ .group nm m s sh ns :: e))›,some (.val n.nm),‹Nd.d (.group nm' m' s' sh' ns')›,some (.val .none)],?_,_,_,rfl⟩
    wp_walk using evD,twb,K6,ao5,e3,bk4
   | layer=>exact ⟨_,by wp_walk using evD,twb,K6; rfl,_,_,rfl⟩
   | tone=>exact ⟨_,by wp_walk using evD,twb,K6; rfl,_,_,rfl⟩) (fun x hx ρ hρ=>by
   obtain ⟨a2,a3,rfl⟩:=hρ
   rw [am7,List.getElem?_append_right (Nat.le_refl _),Nat.sub_self] at hx
   cases hx
   refine ⟨_,rfl,?_⟩
   wp_walk using evD,twb,K6,ao5,e1,db7) (by rw [M7,List.length_map,List.length_append]; simp)
  refine B0 (g:=P6 (K3 f)) (ρ:=[‹.tuple (Nd.ds (c ++ .group nm m s sh ns :: e))›,some (.val n.nm),none,none]) rfl ?_
  unfold twb at e2
  wp_walk using evD,P6,U4,e0,bk4,e2
end Sh
namespace Sh
open PySem G L2
theorem bp9 {nm : D} {m : Man} {s : Rat} {sh : Bool} {ns ns' : List Nd} : Q7 [Nd.d (.group nm m s sh ns),.tuple (Nd.ds ns')] = some (Nd.d (.group nm m s sh ns')):=by
 rw [Nd.d,Nd.d]
 rfl
end Sh
namespace Sh
open PySem G L2
theorem bq6 (x y : Int) : ∀ (a b : List Nd) (q : Q4),Nd.sw x y (a ++ b) q = Nd.sw x y b (Nd.sw x y a q)
 | [],b,q=>by simp [Nd.sw]
 | n :: a,b,q=>by rw [xca,Nd.sw,Nd.sw,bq6 x y a b]
structure StProps (a : List Nd) (n : Nd) (b l : List Nd) : Prop where
 ok : Nd.Oks l → n.Ok
 wg : n.wg ≤ Nd.wgs l
 dp : n.dp ≤ Nd.dps l
 nd : (Nd.nmss l).Nodup → (Nd.nmss (a ++ n :: b)).Nodup
 sub : ∀ d ∈ Nd.nmss (a ++ n :: b),d ∈ Nd.nmss l
 len : l.length ≤ 1000 → Nd.thins l → (a ++ n :: b).length ≤ 1000
theorem Stands.props {a b l : List Nd} {n : Nd} (h : Stands a n b l) : StProps a n b l:=by
 induction h with
 | top =>
  refine ⟨fun o=>(S9 _).mp o n (by simp),?_,?_,fun h=>h,fun d h=>h,fun h _=>h⟩
  ·rw [S8,Nd.wgs]; omega
  ·rw [X3,Nd.dps]; omega
 | @deep c e nm m s sh ns h ih =>
  refine ⟨fun o=>?_,?_,?_,fun hd=>?_,fun d hd=>?_,fun hl ht=>?_⟩
  ·have og:=(S9 _).mp o (.group nm m s sh ns) (by simp)
   rw [Nd.Ok] at og
   exact ih.ok og.2
  ·have:=ih.wg
   rw [S8,Nd.wgs,Nd.wg]; omega
  ·have:=ih.dp
   rw [X3,Nd.dps,Nd.dp]; omega
  ·rw [E1,Nd.nmss,Nd.nms] at hd
   exact ih.nd (List.nodup_cons.mp (List.nodup_append.mp (List.nodup_append.mp hd).2.1).1).2
  ·rw [E1,Nd.nmss,Nd.nms]
   simp [ih.sub d hd]
  ·have tg:=(T8 _).mp ht (.group nm m s sh ns) (by simp)
   rw [Nd.thin] at tg
   exact ih.len tg.1 tg.2
def alb (f : Nat) : DS:=(A6 (i9 1 (A1 2)) (sIf (tB2 eqD (dIx (A8 2) (dC (.int 0))) (dC (.str "group"))) (ae0 1 (bJ9 (A8 1) (qE (A2 (R4 f) (A0 (dIx (A8 2) (dC (.int 5))) A3))))) C1))
theorem e_tg : eqD (.str "tone") (.str "group") = some (.bool false):=B3 (by decide +kernel) (by decide +kernel) (by decide +kernel)
theorem bo9 {n : Nd} (f : Nat) (h : n.dp = 0) (a0 : Option B) (X : List D) (hX : X.length < 1000) : alb f [a0,some (.own X),some (.val n.d)] = some (.nx [a0,some (.own (X ++ [n.d])),some (.val n.d)]):=by
 have hx : X.length < 16777216:=by omega
 have s0 : (i9 1 (A1 2)) [a0,some (.own X),some (.val n.d)] = some (.nx [a0,some (.own (X ++ [n.d])),some (.val n.d)]):=by
  simp only [i9,xg0,xg1,if_pos hx,A1,xms,xw0,xw1]
 unfold alb
 rw [B7 s0]
 cases n with
 | group=>rw [Nd.dp] at h; omega
 | layer=>rw [Nd.d]; wp_walk using evD,cw4,cP8
 | tone=>rw [Nd.d]; wp_walk using evD,cw7,e_tg
theorem bR3 {nm : D} {m : Man} {s : Rat} {sh : Bool} {ns : List Nd} (f : Nat) (a0 : Option B) (X Y : List D) (hX : X.length < 1000) (hY : Y.length < 1000) (e : R4 f [.tuple (Nd.ds ns)] = some (.list Y)) : alb f [a0,some (.own X),‹Nd.d (.group nm m s sh ns)›] = some (.nx [a0,some (.own (X ++ [Nd.d (.group nm m s sh ns)] ++ Y)),‹Nd.d (.group nm m s sh ns)›]):=by
 have hx : X.length < 16777216:=by omega
 have s0 : (i9 1 (A1 2)) [a0,some (.own X),‹Nd.d (.group nm m s sh ns)›] = some (.nx [a0,some (.own (X ++ [Nd.d (.group nm m s sh ns)])),‹Nd.d (.group nm m s sh ns)›]):=by
  simp only [i9,xg0,xg1,if_pos hx,A1,xms,xw0,xw1]
 unfold alb
 rw [B7 s0]
 have hc : bJ9 (A8 1) (qE (A2 (R4 f) (A0 (dIx (A8 2) (dC (.int 5))) A3))) [a0,some (.own (X ++ [Nd.d (.group nm m s sh ns)])),‹Nd.d (.group nm m s sh ns)›] = some (X ++ [Nd.d (.group nm m s sh ns)] ++ Y):=by
  have q2 : qE (A2 (R4 f) (A0 (dIx (A8 2) (dC (.int 5))) A3)) [a0,some (.own (X ++ [Nd.d (.group nm m s sh ns)])),‹Nd.d (.group nm m s sh ns)›] = some (false,Y):=by
   rw [show Nd.d (.group nm m s sh ns) = .tuple [.str "group", nm,.str m.s,fr s,.bool sh,.tuple (Nd.ds ns)] by rw [Nd.d]]
   wp_walk using evD,cw5,e
  unfold bJ9
  rw [q2]
  show (if false = false ∧ false = false ∧ (X ++ [Nd.d (.group nm m s sh ns)]).length + Y.length ≤ 16777216 then some (X ++ [Nd.d (.group nm m s sh ns)] ++ Y) else none) = _
  rw [if_pos ⟨rfl,rfl,by rw [List.length_append]; show X.length + 1 + Y.length ≤ _; omega⟩]
 have ht : tB2 eqD (dIx (A8 2) (dC (.int 0))) (dC (.str "group")) [a0,some (.own (X ++ [Nd.d (.group nm m s sh ns)])),‹Nd.d (.group nm m s sh ns)›] = some true:=by
  rw [show Nd.d (.group nm m s sh ns) = .tuple [.str "group", nm,.str m.s,fr s,.bool sh,.tuple (Nd.ds ns)] by rw [Nd.d]]
  wp_walk using evD,cw6,cP9
 simp only [sIf,ht,xbs,if_true,ae0,hc,xms,xw0,xw1]
theorem bq0 (n : Nd) : 1 ≤ n.wg:=by
 cases n <;> (rw [Nd.wg]; omega)
theorem cR3 : ∀ (k : Nat) (l : List Nd) (f : Nat),Nd.dps l ≤ k → k + 1 ≤ f → Nd.wgs l ≤ 900 → ∃ X : List D,R4 f [.tuple (Nd.ds l)] = some (.list X) ∧ X.length ≤ Nd.wgs l ∧ ∀ d ∈ X,∃ a n b,d = Nd.d n ∧ Stands a n b l:=by
 intro k
 induction k with
 | zero =>
  intro l f hd hf hw
  obtain ⟨f,rfl⟩ : ∃ g,f = g + 1:=⟨f - 1,by omega⟩
  obtain ⟨ρ',e,X,a2,hρ,hX,hP⟩:=o7 (g:=B1 2) (f:=alb f) (h:=Nd.d) (I:=fun i ρ=>∃ X a2,ρ = [‹.tuple (Nd.ds l)›,some (.own X),a2] ∧ X.length ≤ Nd.wgs (l.take i) ∧ ∀ d ∈ X,∃ a n b,d = Nd.d n ∧ Stands a n b l) l 0 [‹.tuple (Nd.ds l)›,some (.own []),none] ⟨[],none,rfl,Nat.zero_le _,fun d h=>absurd h (by simp)⟩ (fun j n hj ρ hρ=>by
   obtain ⟨X,a2,rfl,hX,hP⟩:=hρ
   rw [Nat.zero_add] at hX ⊢
   obtain ⟨hjl,rfl⟩:=List.getElem?_eq_some_iff.mp hj
   have hsp : l = l.take j ++ l[j] :: l.drop (j + 1):=by rw [← List.drop_eq_getElem_cons hjl,List.take_append_drop]
   have ww : Nd.wgs (l.take (j + 1)) = Nd.wgs (l.take j) + (l[j]).wg:=by rw [List.take_succ_eq_append_getElem hjl,S8,Nd.wgs,Nd.wgs,Nat.add_zero]
   have wl : Nd.wgs (l.take j) ≤ Nd.wgs l:=by
    have:=congrArg Nd.wgs (List.take_append_drop j l)
    rw [S8] at this; omega
   have hdp:=S1 (List.getElem_mem hjl)
   have wp:=bq0 l[j]
   refine ⟨_,rfl,_,bo9 f (by omega) _ X (by omega),_,_,rfl,by rw [List.length_append,ww]; show X.length + 1 ≤ _; omega,fun d hd=>?_⟩
   rcases List.mem_append.mp hd with q | q
   ·exact hP d q
   ·rw [List.mem_singleton.mp q]
    exact ⟨l.take j,l[j],l.drop (j + 1),rfl,by
     have:=Stands.top (a:=l.take j) (n:=l[j]) (b:=l.drop (j + 1))
     rwa [← hsp] at this⟩)
  subst hρ
  rw [Nat.zero_add,List.take_of_length_le (Nat.le_refl _)] at hX
  refine ⟨X,?_,hX,hP⟩
  rw [← M7] at e
  refine B0 (g:=bg3 (R4 f)) (ρ:=[‹.tuple (Nd.ds l)›,none,none]) rfl ?_
  have s0 : (ae0 1 A3) [‹.tuple (Nd.ds l)›,none,none] = some (.nx [‹.tuple (Nd.ds l)›,some (.own []),none]):=rfl
  have s1 : (U4 (G1 (A1 0)) (B1 2) (alb f)) [‹.tuple (Nd.ds l)›,some (.own []),none] = some (.nx [‹.tuple (Nd.ds l)›,some (.own X),a2]):=e
  have s2 : (aG8 1 (A9 (A1 1))) [‹.tuple (Nd.ds l)›,some (.own X),a2] = some (.rt (.list X)):=rfl
  exact (B7 s0).trans ((B7 s1).trans s2)
 | succ k ih =>
  intro l f hd hf hw
  obtain ⟨f,rfl⟩ : ∃ g,f = g + 1:=⟨f - 1,by omega⟩
  obtain ⟨ρ',e,X,a2,hρ,hX,hP⟩:=o7 (g:=B1 2) (f:=alb f) (h:=Nd.d) (I:=fun i ρ=>∃ X a2,ρ = [‹.tuple (Nd.ds l)›,some (.own X),a2] ∧ X.length ≤ Nd.wgs (l.take i) ∧ ∀ d ∈ X,∃ a n b,d = Nd.d n ∧ Stands a n b l) l 0 [‹.tuple (Nd.ds l)›,some (.own []),none] ⟨[],none,rfl,Nat.zero_le _,fun d h=>absurd h (by simp)⟩ (fun j n hj ρ hρ=>by
   obtain ⟨X,a2,rfl,hX,hP⟩:=hρ
   rw [Nat.zero_add] at hX ⊢
   obtain ⟨hjl,hn⟩:=List.getElem?_eq_some_iff.mp hj
   have hsp : l = l.take j ++ l[j] :: l.drop (j + 1):=by rw [← List.drop_eq_getElem_cons hjl,List.take_append_drop]
   have ww : Nd.wgs (l.take (j + 1)) = Nd.wgs (l.take j) + (l[j]).wg:=by rw [List.take_succ_eq_append_getElem hjl,S8,Nd.wgs,Nd.wgs,Nat.add_zero]
   have wt : Nd.wgs (l.take j) + (l[j]).wg ≤ Nd.wgs l:=by
    have:=congrArg Nd.wgs (List.take_append_drop (j + 1) l)
    rw [S8] at this; omega
   have hdp:=S1 (List.getElem_mem hjl)
   rw [hn] at hsp ww wt hdp
   have wp:=bq0 n
   have tp : Stands (l.take j) n (l.drop (j + 1)) l:=by
    have:=Stands.top (a:=l.take j) (n:=n) (b:=l.drop (j + 1))
    rwa [← hsp] at this
   by_cases hg : n.dp = 0
   ·refine ⟨_,rfl,_,bo9 f hg _ X (by omega),_,_,rfl,by rw [List.length_append,ww]; show X.length + 1 ≤ _; omega,fun d hd=>?_⟩
    rcases List.mem_append.mp hd with q | q
    ·exact hP d q
    ·rw [List.mem_singleton.mp q]; exact ⟨_,n,_,rfl,tp⟩
   ·cases n with
    | layer=>exact absurd rfl hg
    | tone=>exact absurd rfl hg
    | group nm m s sh ns =>
     rw [Nd.dp] at hdp
     rw [Nd.wg] at ww wt
     obtain ⟨Y,eY,lY,hY⟩:=ih ns f (by omega) (by omega) (by omega)
     refine ⟨_,rfl,_,bR3 f _ X Y (by omega) (by omega) eY,_,_,rfl,by rw [List.length_append,List.length_append,ww]; show X.length + 1 + Y.length ≤ _; omega,fun d hd=>?_⟩
     rcases List.mem_append.mp hd with q | q
     ·rcases List.mem_append.mp q with q | q
      ·exact hP d q
      ·rw [List.mem_singleton.mp q]; exact ⟨_,_,_,rfl,tp⟩
     ·obtain ⟨a,n,b,rfl,st⟩:=hY d q
      refine ⟨a,n,b,rfl,?_⟩
      have:=Stands.deep (c:=l.take j) (e:=l.drop (j + 1)) (nm:=nm) (m:=m) (s:=s) (sh:=sh) st
      rwa [← hsp] at this)
  subst hρ
  rw [Nat.zero_add,List.take_of_length_le (Nat.le_refl _)] at hX
  refine ⟨X,?_,hX,hP⟩
  rw [← M7] at e
  refine B0 (g:=bg3 (R4 f)) (ρ:=[‹.tuple (Nd.ds l)›,none,none]) rfl ?_
  have s0 : (ae0 1 A3) [‹.tuple (Nd.ds l)›,none,none] = some (.nx [‹.tuple (Nd.ds l)›,some (.own []),none]):=rfl
  have s1 : (U4 (G1 (A1 0)) (B1 2) (alb f)) [‹.tuple (Nd.ds l)›,some (.own []),none] = some (.nx [‹.tuple (Nd.ds l)›,some (.own X),a2]):=e
  have s2 : (aG8 1 (A9 (A1 1))) [‹.tuple (Nd.ds l)›,some (.own X),a2] = some (.rt (.list X)):=rfl
  exact (B7 s0).trans ((B7 s1).trans s2)
end Sh
namespace Sh
open PySem G L2
def Low (s : Str) : Prop:=∀ c ∈ s.cps.toList,97 ≤ c ∧ c ≤ 122
def Nm (d : D) : Prop:=∃ s : Str,d = .str s ∧ Low s ∧ 1 ≤ s.length ∧ s.length ≤ 6
theorem cJ7 (c : Nat) (h1 : 97 ≤ c) (h2 : c ≤ 122) : inS false (.str ⟨#[c]⟩) (.str "abcdefghijklmnopqrstuvwxyz") = some (.bool true):=by
 have h : ∀ k : Fin 26,cr4 ⟨#[97 + k.val]⟩ "abcdefghijklmnopqrstuvwxyz" = true:=by decide +kernel
 have:=h ⟨c - 97,by omega⟩
 simp only [show 97 + (c - 97) = c by omega] at this
 show some (PyData.bool (cr4 ⟨#[c]⟩ "abcdefghijklmnopqrstuvwxyz")) = _
 rw [this]
theorem aP6 {α : Type} (l : List α) : bf9 (l.map fun _=>PyData.bool true) = some true:=by rw [an6 (fun _=>true)]; simp
theorem bJ8 {d : D} (h : Nm d) : ar6 [d] = some (.bool true):=by
 obtain ⟨s,rfl,lo,l1,l6⟩:=h
 have as : s.cps.all (· < 128) = true:=by
  rw [Array.all_eq_true']
  intro c hc
  have:=lo c (Array.mem_toList_iff.mpr hc)
  exact decide_eq_true (by omega)
 have ll : s.cps.toList.length = s.length:=by unfold Str.length; simp
 have al : B8 1 [] (cr3 (A1 0)) (B1 0) C8 (A5 (inS false) (A1 0) (dC (.str "abcdefghijklmnopqrstuvwxyz"))) [‹.str s›] = some (s.cps.toList.map fun _=>.bool true):=by
  refine v4 (l:=s.cps.toList) (h:=fun c=>.str ⟨#[c]⟩) (r:=[]) rfl ?_ (by omega) fun c hc=>cJ7 c (lo c hc).1 (lo c hc).2
  show (if s.cps.all (· < 128) = true then some (bh8 s) else none) = _
  rw [if_pos as]; rfl
 have z : s.length ≤ 16777216:=by omega
 have a' : (1 : Int) ≤ s.length:=by omega
 have b' : (s.length : Int) ≤ 6:=by omega
 refine B0 (ρ:=[‹.str s›]) rfl ?_
 wp_walk using evD,aX4,bD7,if_pos z,al,aP6,a',b',decide_true
theorem bj0 {i : Int} (h1 : -9 ≤ i) (h2 : i ≤ 9) : p9 [.int i] = some (.bool true):=by
 refine B0 (ρ:=[‹.int i›]) rfl ?_
 have w1 : S0 [.int i] = some (.bool true):=rfl
 wp_walk using evD,aG5,aI5,w1,h1,h2,decide_true
theorem bK3 {mk : Option (List Rat)} {w h : Nat} {l : List Q4} (w8 : w ≤ 8) (h8 : h ≤ 8) (len : l.length = w * h) (hm : ∀ ms,mk = some ms → ms.length = w * h ∧ ∀ r ∈ ms,Sr 4 r) : ar7 [mkD mk,shD w h l] = some (.bool true):=by
 refine B0 (ρ:=[‹mkD mk›,‹shD w h l›]) rfl ?_
 cases mk with
 | none=>rfl
 | some ms =>
  obtain ⟨lm,hr⟩:=hm ms rfl
  have wh : w * h ≤ 64:=Nat.mul_le_mul w8 h8
  have al : ∀ q : Option B,B8 1 [] (G1 (A1 0)) (B1 0) C8 (A2 Y7 (A0 (A1 0) A3)) [‹.tuple (ms.map fr)›,q] = some (ms.map fun _=>.bool true):=fun q=>by
   refine v4 (l:=ms) (h:=fr) (r:=[]) rfl rfl (by omega) fun x hx=>?_
   have:=j7 (hr x hx).h (by decide)
   wp_walk using evD,this
  have i1 : isB (.tuple (ms.map fr)) .none = some (.bool false):=rfl
  have n1 : (((ms.map fr).length : Nat) : Int) = ((w * h : Nat) : Int):=by rw [List.length_map,lm]
  have n2 : (((l.map Q4.d).length : Nat) : Int) = ((w * h : Nat) : Int):=by rw [List.length_map,len]
  have n3 : neD (.int ((w * h : Nat) : Int)) (.int ((w * h : Nat) : Int)) = some (.bool false):=by rw [af3]; simp
  wp_walk using evD,aX5,mkD,shD,al,aP6,i1,n1,n2,beq_self_eq_true
theorem cv3 {neg v : Bool} {x : D} {ds : List D} (hx : aa6 x = true) (hd : ds.all aa6 = true) (h : inV (toV x) (ds.map toV) = v) : inD neg x (.tuple ds) = some (.bool (if neg then !v else v)):=by
 subst h
 show (if aa6 x = true ∧ ds.all aa6 = true then _ else none) = _
 rw [if_pos ⟨hx,hd⟩]
theorem bZ4 (m : Man) : inD true (.str m.s) (.tuple [.str "over", .str "multiply", .str "screen", .str "plus", .str "atop", .str "cut"]) = some (.bool false) :=
 cv3 (v:=true) rfl rfl (by cases m <;> decide +kernel)
theorem cF4 (r : Rul) : inD false (.str r.s) (.tuple [.str "turn", .str "grey", .str "round"]) = some (.bool true) :=
 cv3 (v:=true) rfl rfl (by cases r <;> decide +kernel)
mutual
def Nd.off : Nd → Prop
 | .layer _ _ _ _ lf tp _ _ _ _ kb=>-9 ≤ lf ∧ lf ≤ 9 ∧ -9 ≤ tp ∧ tp ≤ 9 ∧ kb ≤ 4000
 | .tone ..=>True
 | .group _ _ _ _ ns=>ns.length ≤ 1000 ∧ Nd.offs ns
def Nd.offs : List Nd → Prop
 | []=>True
 | n :: r=>n.off ∧ Nd.offs r
end
theorem al8 : ∀ l : List Nd,Nd.offs l ↔ ∀ n ∈ l,n.off
 | []=>by simp [Nd.offs]
 | n :: r=>by simp [Nd.offs,al8 r]
theorem strength_of (n : Nd) : ∃ s,L1 [n.d] = some (fr s) ∧ (n.Ok → Sr 4 s):=by
 cases n with
 | layer nm m s sh lf tp mk w h l kb=>exact ⟨s,by rw [Nd.d]; rfl,fun o=>by rw [Nd.Ok] at o; exact o.1⟩
 | tone nm r s sh=>exact ⟨s,by rw [Nd.d]; rfl,fun o=>by rw [Nd.Ok] at o; exact o⟩
 | group nm m s sh ns=>exact ⟨s,by rw [Nd.d]; rfl,fun o=>by rw [Nd.Ok] at o; exact o.1⟩
theorem bU6 (n : Nd) : ∃ b,P1 [n.d] = some (.bool b):=by
 cases n <;> exact ⟨_,by rw [Nd.d]; rfl⟩
theorem bT3 (b : Bool) : aj4 [.bool b] = some (.bool true):=rfl
theorem bZ6 {nm : D} {m : Man} {s : Rat} {sh : Bool} {lf tp : Int} {mk : Option (List Rat)} {w h : Nat} {l : List Q4} {kb : Nat} (o : (Nd.layer nm m s sh lf tp mk w h l kb).Ok) (f : (Nd.layer nm m s sh lf tp mk w h l kb).off) : P4 [(Nd.layer nm m s sh lf tp mk w h l kb).d] = some (.bool true):=by
 rw [Nd.Ok] at o
 rw [Nd.off] at f
 obtain ⟨hs,S,_,hm,_⟩:=o
 obtain ⟨f1,f2,f3,f4,f5⟩:=f
 rw [Nd.d]
 refine B0 (ρ:=[‹.tuple [.str "layer", nm,.str m.s,fr s,.bool sh,.int lf,.int tp,mkD mk,shD w h l]›]) rfl ?_
 have e1 : ∀ a b c d e f g h i : D,O7 [.tuple [a,b,c,d,e,f,g,h,i]] = some c:=fun _ _ _ _ _ _ _ _ _=>rfl
 have e2 : ∀ a b c d e f g h i : D,U8 [.tuple [a,b,c,d,e,f,g,h,i]] = some i:=fun _ _ _ _ _ _ _ _ _=>rfl
 have e3 : ∀ a b c d e f g h i : D,k5 [.tuple [a,b,c,d,e,f,g,h,i]] = some f:=fun _ _ _ _ _ _ _ _ _=>rfl
 have e4 : ∀ a b c d e f g h i : D,ab2 [.tuple [a,b,c,d,e,f,g,h,i]] = some g:=fun _ _ _ _ _ _ _ _ _=>rfl
 have e5 : ∀ a b c d e f g h i : D,aa0 [.tuple [a,b,c,d,e,f,g,h,i]] = some h:=fun _ _ _ _ _ _ _ _ _=>rfl
 have e6 : ∀ a b c d e f g h i : D,((([a,b,c,d,e,f,g,h,i] : List D).length : Nat) : Int) = 9:=fun _ _ _ _ _ _ _ _ _=>rfl
 wp_walk using evD,v8,e1,e2,e3,e4,e5,e6,beq_self_eq_true,bZ4,bl6 S (by omega),bj0 f1 f2,bj0 f3 f4,bK3 S.w8 S.h8 S.len hm
theorem cj3 {nm : D} {r : Rul} {s : Rat} {sh : Bool} : V1 [Nd.d (.tone nm r s sh)] = some (.bool false):=by
 have e : eqD (.str "tone") (.str "layer") = some (.bool false):=B3 (by decide +kernel) (by decide +kernel) (by decide +kernel)
 rw [Nd.d]; exact B0 (ρ:=[‹.tuple [.str "tone", nm,.str r.s,fr s,.bool sh]›]) rfl (congrArg (Option.map Fl.rt) e)
theorem dc1 (n : Nd) : ∃ ds : List D,n.d = .tuple ds ∧ 5 ≤ ds.length ∧ (∀ nm r s sh,n = .tone nm r s sh → ds.length = 5):=by
 cases n with
 | layer=>exact ⟨_,by rw [Nd.d],by simp,fun _ _ _ _ h=>by cases h⟩
 | tone=>exact ⟨_,by rw [Nd.d],by simp,fun _ _ _ _ _=>rfl⟩
 | group=>exact ⟨_,by rw [Nd.d],by simp,fun _ _ _ _ h=>by cases h⟩
theorem bD1 (n : Nd) (f : Nat) (dd : D) (o : n.Ok) (hn : Nm n.nm) {z : Option Fl} (h : (A6 (sIf (K5 (A2 V1 (A0 (A1 0) A3))) (A9 (A2 P4 (A0 (A1 0) A3))) C1) (A6 (sIf (K5 (A2 M2 (A0 (A1 0) A3))) (A9 (A2 (A4 f 0) (A0 (A1 0) (A0 (A1 1) A3)))) C1) (A9 (R6 (A2 M3 (A0 (A1 0) A3)) (R6 (A5 eqD (R3 (A8 0)) (dC (.int 5))) (A5 (inD false) (A2 j8 (A0 (A1 0) A3)) (dC (.tuple [(.str "turn"),(.str "grey"),(.str "round")])))))))) [some (.val n.d),some (.val dd)] = z) : T6 (A4 f) [some (.val n.d),some (.val dd)] = z:=by
 obtain ⟨s,es,hs⟩:=strength_of n
 obtain ⟨b,eb⟩:=bU6 n
 have en:=name_of n
 have et:=bJ8 hn
 have eh:=j7 (hs o).h (by decide)
 obtain ⟨ds,ed,l5,_⟩:=dc1 n
 unfold T6
 rw [B7 (ρ':=[some (.val n.d),some (.val dd)]),B7 (ρ':=[some (.val n.d),some (.val dd)])]
 ·exact h
 ·wp_walk using evD,en,et,es,eh,eb,bT3
 ·have l5' : ¬ ((ds.length : Nat) : Int) < 5:=by omega
  rw [ed]
  wp_walk using evD,decide_eq_false l5'
theorem ch7 {l : List Nd} {f : Nat} {dd : D} (hl : l.length ≤ 1000) (H : ∀ n ∈ l,N1 f [n.d,dd] = some (.bool true)) : P7 (f + 1) [.tuple (Nd.ds l),dd] = some (.bool true):=by
 refine B0 (g:=an9 (A4 f)) (ρ:=[‹.tuple (Nd.ds l)›,some (.val dd)]) rfl ?_
 have al : B8 1 [1] (G1 (A1 0)) (B1 0) C8 (A2 (A4 f 1) (A0 (A1 0) (A0 (A1 1) A3))) [‹.tuple (Nd.ds l)›,some (.val dd)] = some (l.map fun _=>.bool true):=by
  refine v4 (l:=l) (h:=Nd.d) (r:=[some (.val dd)]) rfl (by rw [M7]; rfl) hl fun x hx=>?_
  exact H x hx
 wp_walk using evD,an9,al,aP6
theorem cP2 : ∀ (k : Nat) (n : Nd) (f : Nat) (dd : Nat),n.dp ≤ k → k ≤ dd → 3 * k + 1 ≤ f → n.Ok → n.off → (∀ d ∈ n.nms,Nm d) → N1 f [n.d,.int dd] = some (.bool true):=by
 intro k
 induction k with
 | zero =>
  intro n f dd hd hk hf o of hn
  obtain ⟨f,rfl⟩ : ∃ g,f = g + 1:=⟨f - 1,by omega⟩
  refine B0 (g:=T6 (A4 f)) (ρ:=[some (.val n.d),‹.int dd›]) rfl (bD1 n f _ o (hn _ (U5 n)) ?_)
  cases n with
  | group=>rw [Nd.dp] at hd; omega
  | layer nm m s sh lf tp mk w h l kb =>
   have el:=bZ6 o of
   wp_walk using evD,bC5,el
  | tone nm r s sh =>
   have e1 : j8 [Nd.d (.tone nm r s sh)] = some (.str r.s):=by rw [Nd.d]; rfl
   have e2:=K6 (.tone nm r s sh)
   have e3 : R3 (A8 0) [‹Nd.d (.tone nm r s sh)›,‹.int dd›] = some (.int 5):=by rw [Nd.d]; rfl
   have e4 : eqD (.int 5) (.int 5) = some (.bool true):=rfl
   simp only [A6,B4,A9,sIf,C1,A1,dC,A5,A2,R6,A3,A0,K5,ab5,M4,xg0,xg1,xbs,xms,xw0,cj3,e2,e1,e3,e4,bq4,cF4,xft,if_true,if_false]
 | succ k ih =>
  intro n f dd hd hk hf o of hn
  obtain ⟨f,rfl⟩ : ∃ g,f = g + 3:=⟨f - 3,by omega⟩
  by_cases hz : n.dp ≤ k
  ·exact ih n (f + 3) dd hz (by omega) (by omega) o of hn
  refine B0 (g:=T6 (A4 (f + 2))) (ρ:=[some (.val n.d),‹.int dd›]) rfl (bD1 n (f + 2) _ o (hn _ (U5 n)) ?_)
  cases n with
  | layer=>rw [Nd.dp] at hz; omega
  | tone=>rw [Nd.dp] at hz; omega
  | group nm m s sh ns =>
   rw [Nd.dp] at hd
   rw [Nd.Ok] at o
   rw [Nd.off] at of
   have oks:=(S9 ns).mp o.2
   have ofs:=(al8 ns).mp of.2
   obtain ⟨d',rfl⟩ : ∃ d',dd = d' + 1:=⟨dd - 1,by omega⟩
   have ea : P7 (f + 1) [.tuple (Nd.ds ns),.int d'] = some (.bool true):=ch7 of.1 fun n' h'=>ih n' f d' (by have:=S1 h'; omega) (by omega) (by omega) (oks n' h') (ofs n' h') fun d hd'=>hn d (by rw [Nd.nms]; exact List.mem_cons_of_mem _ (Z1 h' hd'))
   have eg : A4 (f + 2) 0 [Nd.d (.group nm m s sh ns),.int ((d' + 1 : Nat) : Int)] = some (.bool true):=by
    rw [Nd.d]
    refine B0 (g:=W6 (A4 (f + 1))) (ρ:=[‹.tuple [.str "group", nm,.str m.s,fr s,.bool sh,.tuple (Nd.ds ns)]›,‹.int ((d' + 1 : Nat) : Int)›]) rfl ?_
    have e1 : ∀ a b c d e f : D,O7 [.tuple [a,b,c,d,e,f]] = some c:=fun _ _ _ _ _ _=>rfl
    have e2 : ∀ a b c d e f : D,C5 [.tuple [a,b,c,d,e,f]] = some f:=fun _ _ _ _ _ _=>rfl
    have e3 : ∀ a b c d e f : D,((([a,b,c,d,e,f] : List D).length : Nat) : Int) = 6:=fun _ _ _ _ _ _=>rfl
    have e4 : (((d' + 1 : Nat) : Int) == 0) = false:=by simp; omega
    have e5 : ((d' + 1 : Nat) : Int) - 1 = (d' : Int):=by omega
    have ea' : A4 (f + 1) 2 [.tuple (Nd.ds ns),.int d'] = some (.bool true):=ea
    wp_walk using evD,W6,e1,e2,e3,e4,e5,beq_self_eq_true,bZ4,ea'
   have e2:=K6 (.group nm m s sh ns)
   wp_walk using evD,bD4,e2,eg
def nmb (f : Nat) : DS:=(A6 (i9 1 (A2 P8 (A0 (A1 2) A3))) (sIf (K5 (A2 M2 (A0 (A1 2) A3))) (aZ8 1 (A2 (F8 f) (A0 (A2 C5 (A0 (A1 2) A3)) A3))) C1))
theorem cJ0 {n : Nd} (f : Nat) (a0 : Option B) (X : List D) (hX : X.length + n.nms.length ≤ 1000) (H : ∀ nm m s sh ns,n = .group nm m s sh ns → F8 f [.tuple (Nd.ds ns)] = some (.list (Nd.nmss ns))) : nmb f [a0,some (.own X),some (.val n.d)] = some (.nx [a0,some (.own (X ++ n.nms)),some (.val n.d)]):=by
 have hx : X.length < 16777216:=by omega
 have en:=name_of n
 have eg:=K6 n
 have s0 : (i9 1 (A2 P8 (A0 (A1 2) A3))) [a0,some (.own X),some (.val n.d)] = some (.nx [a0,some (.own (X ++ [n.nm])),some (.val n.d)]):=by
  simp only [i9,A2,A0,A3,en,xg0,xg1,if_pos hx,A1,xms,xbs,xw0,xw1]
 unfold nmb
 rw [B7 s0]
 cases n with
 | layer=>wp_walk using evD,eg; rw [Nd.nm,Nd.nms]
 | tone=>wp_walk using evD,eg; rw [Nd.nm,Nd.nms]
 | group nm m s sh ns =>
  have e1 : C5 [Nd.d (.group nm m s sh ns)] = some (.tuple (Nd.ds ns)):=by rw [Nd.d]; rfl
  have e2:=H nm m s sh ns rfl
  rw [Nd.nms] at hX
  have e3 : (X ++ [nm]).length + (Nd.nmss ns).length ≤ 16777216:=by simp at hX ⊢; omega
  rw [Nd.nm]
  wp_walk using evD,aZ8,eg,e1,e2,if_pos e3
  rw [Nd.nms,List.append_assoc]; rfl
theorem bB7 {l : List Nd} {f : Nat} (hw : (Nd.nmss l).length ≤ 1000) (H : ∀ n ∈ l,∀ nm m s sh ns,n = .group nm m s sh ns → F8 f [.tuple (Nd.ds ns)] = some (.list (Nd.nmss ns))) : F8 (f + 1) [.tuple (Nd.ds l)] = some (.list (Nd.nmss l)):=by
 obtain ⟨ρ',e,a2,hρ⟩:=o7 (g:=B1 2) (f:=nmb f) (h:=Nd.d) (I:=fun i ρ=>∃ a2,ρ = [‹.tuple (Nd.ds l)›,some (.own (Nd.nmss (l.take i))),a2]) l 0 [‹.tuple (Nd.ds l)›,some (.own []),none] ⟨none,rfl⟩ (fun j n hj ρ hρ=>by
  obtain ⟨a2,rfl⟩:=hρ
  rw [Nat.zero_add]
  obtain ⟨hjl,rfl⟩:=List.getElem?_eq_some_iff.mp hj
  have ww : Nd.nmss (l.take (j + 1)) = Nd.nmss (l.take j) ++ (l[j]).nms:=by rw [List.take_succ_eq_append_getElem hjl,E1,Nd.nmss,Nd.nmss,List.append_nil]
  have wl:=congrArg (fun x=>(Nd.nmss x).length) (List.take_append_drop (j + 1) l)
  simp only [E1,ww,List.length_append] at wl
  exact ⟨_,rfl,_,cJ0 f _ _ (by omega) (H _ (List.getElem_mem hjl)),_,by rw [ww]⟩)
 subst hρ
 rw [Nat.zero_add,List.take_of_length_le (Nat.le_refl _),← M7] at e
 refine B0 (g:=at0 (F8 f)) (ρ:=[‹.tuple (Nd.ds l)›,none,none]) rfl ?_
 have s0 : (ae0 1 A3) [‹.tuple (Nd.ds l)›,none,none] = some (.nx [‹.tuple (Nd.ds l)›,some (.own []),none]):=rfl
 have s1 : (U4 (G1 (A1 0)) (B1 2) (nmb f)) [‹.tuple (Nd.ds l)›,some (.own []),none] = some (.nx [‹.tuple (Nd.ds l)›,some (.own (Nd.nmss l)),a2]):=e
 have s2 : (aG8 1 (A9 (A1 1))) [‹.tuple (Nd.ds l)›,some (.own (Nd.nmss l)),a2] = some (.rt (.list (Nd.nmss l))):=rfl
 exact (B7 s0).trans ((B7 s1).trans s2)
theorem bb8 {n : Nd} {l : List Nd} (h : n ∈ l) : n.nms.length ≤ (Nd.nmss l).length:=by
 obtain ⟨a,b,rfl⟩:=List.append_of_mem h
 rw [E1,Nd.nmss,List.length_append,List.length_append]; omega
theorem names_among : ∀ (k : Nat) (l : List Nd) (f : Nat),Nd.dps l ≤ k → k + 1 ≤ f → (Nd.nmss l).length ≤ 1000 → F8 f [.tuple (Nd.ds l)] = some (.list (Nd.nmss l)):=by
 intro k
 induction k with
 | zero =>
  intro l f hd hf hw
  obtain ⟨f,rfl⟩ : ∃ g,f = g + 1:=⟨f - 1,by omega⟩
  refine bB7 hw fun n hn nm m s sh ns e=>?_
  have:=S1 hn
  rw [e,Nd.dp] at this; omega
 | succ k ih =>
  intro l f hd hf hw
  obtain ⟨f,rfl⟩ : ∃ g,f = g + 1:=⟨f - 1,by omega⟩
  refine bB7 hw fun n hn nm m s sh ns e=>?_
  have h1:=S1 hn
  have h2:=bb8 hn
  rw [e,Nd.dp] at h1
  rw [e,Nd.nms,List.length_cons] at h2
  exact ih ns f (by omega) (by omega) (by omega)
theorem ao2 : ∀ L : List D,(∀ d ∈ L,Nm d) → ∃ ys : List Str,L = ys.map PyData.str ∧ aG0 L = some ys
 | [],_=>⟨[],rfl,rfl⟩
 | d :: L,h=>by
  obtain ⟨ys,e1,e2⟩:=ao2 L fun x hx=>h x (List.mem_cons_of_mem _ hx)
  obtain ⟨s,rfl,_⟩:=h d (List.mem_cons_self ..)
  exact ⟨s :: ys,by rw [e1]; rfl,by unfold aG0; rw [e2]; rfl⟩
theorem aO9 : ∀ (l a : List Str),(a ++ l).Nodup → l.foldl aS6 a = a ++ l
 | [],a,_=>by simp
 | x :: l,a,h=>by
  have hx : a.any (· == x) = false:=by
   rw [List.any_eq_false]
   intro y hy e
   have e : y = x:=by simpa using e
   subst e
   exact (List.nodup_append.mp h).2.2 y hy y (List.mem_cons_self ..) rfl
  rw [List.foldl_cons,aS6,hx]
  simp only [xft,if_false]
  rw [aO9 l (a ++ [x]) (by rwa [List.append_assoc]),List.append_assoc]; rfl
theorem bh5 {l : List Nd} (hd : Nd.dps l ≤ 3) (hw : (Nd.nmss l).length ≤ 1000) (hn : ∀ d ∈ Nd.nmss l,Nm d) (nd : (Nd.nmss l).Nodup) : T4 [.tuple (Nd.ds l)] = some (.bool true):=by
 have e:=names_among 3 l 12 hd (by decide) hw
 obtain ⟨ys,e1,e2⟩:=ao2 _ hn
 have ny : ys.Nodup:=by
  rw [e1] at nd
  exact List.Pairwise.imp (fun h e=>h (congrArg PyData.str e)) (List.pairwise_map.mp nd)
 have ed : ddS ys = ys:=by have:=aO9 ys [] (by simpa using ny); simpa [ddS] using this
 have ly : (Nd.nmss l).length = ys.length:=by rw [e1,List.length_map]
 have l4 : ys.length ≤ 4000:=by omega
 have es : ∀ q : Option B,ai9 (A8 1) [q,‹.list (Nd.nmss l)›] = some (.int ys.length):=fun q=>by
  show ((aG0 (Nd.nmss l)).bind fun ys=>if ys.length ≤ 4000 then some (PyData.int (ddS ys).length) else none) = _
  rw [e2,xbs,if_pos l4,ed]
 refine B0 (ρ:=[‹.tuple (Nd.ds l)›,none]) rfl ?_
 wp_walk using evD,ab0,e,es,ly,beq_self_eq_true
theorem br3 {w h : Nat} (l : List Nd) (w1 : 1 ≤ w) (w8 : w ≤ 8) (h1 : 1 ≤ h) (h8 : h ≤ 8) : k6 [B6 w h l] = some (.bool true):=by
 have sz : ∀ n : Nat,1 ≤ n → n ≤ 8 → aa1 [.int n] = some (.bool true):=fun n a b=>by
  refine B0 (ρ:=[‹.int n›]) rfl ?_
  have w1 : S0 [.int n] = some (.bool true):=rfl
  have a' : (1 : Int) ≤ n:=by omega
  have b' : (n : Int) ≤ 8:=by omega
  wp_walk using evD,aF8,w1,a',b',decide_true
 have l3 : ∀ a b c : D,((([a,b,c] : List D).length : Nat) : Int) = 3:=fun _ _ _=>rfl
 refine B0 (ρ:=[‹B6 w h l›]) rfl ?_
 wp_walk using evD,aw5,B6,l3,beq_self_eq_true,sz w w1 w8,sz h h1 h8
theorem ba5 {w h : Nat} {l : List Nd} (w1 : 1 ≤ w) (w8 : w ≤ 8) (h1 : 1 ≤ h) (h8 : h ≤ 8) (hd : Nd.dps l ≤ 3) (hl : l.length ≤ 1000) (o : Nd.Oks l) (of : Nd.offs l) (hw : (Nd.nmss l).length ≤ 1000) (hn : ∀ d ∈ Nd.nmss l,Nm d) (nd : (Nd.nmss l).Nodup) : b0 [B6 w h l] = some (.bool true):=by
 have e1:=br3 l w1 w8 h1 h8
 have oks:=(S9 l).mp o
 have ofs:=(al8 l).mp of
 have e2 : P7 12 [.tuple (Nd.ds l),.int 3] = some (.bool true):=ch7 hl fun n hn'=>cP2 3 n 11 3 (by have:=S1 hn'; omega) (by decide) (by decide) (oks n hn') (ofs n hn') fun d hd'=>hn d (Z1 hn' hd')
 have e3:=bh5 hd hw hn nd
 refine B0 (ρ:=[‹B6 w h l›]) rfl ?_
 unfold B6 at e1 ⊢
 wp_walk using evD,aA3,e1,e2,e3
end Sh
namespace Sh
open PySem G L2
theorem cf7 (l : List Nd) (a : Nat) : aj0 (Nd.ds l) none (some (a : Int)) = Nd.ds (l.take a):=by
 unfold aj0
 rw [HT.sIx_none,HT.sIx_nat,List.drop_zero,M7,M7,List.length_map,← List.map_take,Nat.sub_zero]
 congr 1
 rcases Nat.le_total a l.length with h | h
 ·rw [Nat.min_eq_left h]
 ·rw [Nat.min_eq_right h,List.take_of_length_le (Nat.le_refl _),List.take_of_length_le h]
theorem cf8 (l : List Nd) (a : Nat) : aj0 (Nd.ds l) (some (a : Int)) none = Nd.ds (l.drop a):=by
 unfold aj0
 rw [HT.sIx_none,HT.sIx_nat,M7,M7,List.length_map]
 rcases Nat.le_total a l.length with h | h
 ·rw [Nat.min_eq_left h,← List.map_drop,List.take_of_length_le (by rw [List.length_map,List.length_drop]; exact Nat.le_refl _)]
 ·rw [Nat.min_eq_right h,Nat.sub_self,List.take_zero,List.drop_of_length_le h]; rfl
theorem cg0 (a b : List Nd) (h : a.length + b.length ≤ 1000) : B5 (.tuple (Nd.ds a)) (.tuple (Nd.ds b)) = some (.tuple (Nd.ds (a ++ b))):=by
 have:=cat_tup (xs:=Nd.ds a) (ys:=Nd.ds b) (by rw [M7,M7,List.length_map,List.length_map]; omega)
 have e : Nd.ds a ++ Nd.ds b = Nd.ds (a ++ b):=by simp [M7]
 rw [e] at this
 exact this
theorem cZ0 {l : List Nd} {i : Nat} {n : Nd} (h : l[i]? = some n) : atI (Nd.ds l) (i : Int) = some n.d:=by
 obtain ⟨hi,_⟩:=List.getElem?_eq_some_iff.mp h
 unfold atI
 rw [av3 (by omega) (by rw [M7,List.length_map]; omega),xbs,Int.toNat_natCast,am7,h]; rfl
def Nd.isM (m : Man) : Nd → Prop
 | .layer _ m' _ sh _ _ _ _ _ _ _=>m' = m ∧ sh = true
 | .tone ..=>False
 | .group _ m' _ sh _=>m' = m ∧ sh = true
def Nd.br (x y : Int) : Nd → Q4
 | .layer _ _ s _ lf tp mk w h l _=>bZ7 s lf tp mk w h l x y
 | .tone ..=>q0
 | .group _ _ s _ ns=>(Nd.sw x y ns q0).wt s
theorem ch9 {m : Man} {n : Nd} (h : n.isM m) (x y : Int) (q : Q4) : Nd.ab x y n q = m.bl (n.br x y) q:=by
 cases n with
 | layer=>rw [Nd.isM] at h; rw [Nd.ab,h.1,h.2]; rfl
 | tone=>rw [Nd.isM] at h; exact h.elim
 | group=>rw [Nd.isM] at h; rw [Nd.ab,h.1,h.2]; rfl
theorem cg4 {m : Man} {n : Nd} (h : n.isM m) (o : n.Ok) (hd : n.dp ≤ 3) (hw : n.wg ≤ 800) (x y : Int) : S6 12 [n.d,.int x,.int y] = some (n.br x y).d ∧ Dq n.wg (n.br x y):=by
 cases n with
 | layer nm m s sh lf tp mk w h l kb =>
  rw [Nd.Ok] at o
  rw [Nd.wg] at hw ⊢
  obtain ⟨hs,S,H,M,k1⟩:=o
  exact ⟨bn8 k1 (by omega) hs S H M 11 x y,bC4 k1 hs H M x y⟩
 | tone=>rw [Nd.isM] at h; exact h.elim
 | group nm m s sh ns =>
  rw [Nd.Ok] at o
  rw [Nd.wg] at hw ⊢
  rw [Nd.dp] at hd
  have so:=bh9 x y ns 10 o.2 (by omega) (by omega)
  exact ⟨bn9 o.1 11 x y so.1 so.2 (by omega),(so.2.wt o.1).mono (by omega)⟩
def brL (w h : Nat) (n : Nd) : List Q4:=(plc w (w * h)).map fun p=>n.br p.1 p.2
theorem cg6 {m : Man} {n : Nd} (hm : n.isM m) (o : n.Ok) (hd : n.dp ≤ 3) (hw : n.wg ≤ 800) {w h : Nat} (l : List Nd) (w1 : 1 ≤ w) (w8 : w ≤ 8) (h1 : 1 ≤ h) (h8 : h ≤ 8) : P2 [B6 w h l,n.d] = some (shD w h (brL w h n)) ∧ ShOk 800 w h (brL w h n):=by
 have wh : w * h ≤ 64:=Nat.mul_le_mul w8 h8
 refine ⟨?_,⟨w1,w8,h1,h8,by unfold brL; rw [List.length_map,aJ6],fun q hq=>?_⟩⟩
 ·refine B0 (ρ:=[‹B6 w h l›,some (.val n.d),none]) rfl ?_
  have c : B8 2 [1] (G1 (A2 U9 (A0 (dIx (A8 0) (dC (.int 0))) (A0 (dIx (A8 0) (dC (.int 1))) A3)))) (K4 2 (B2 (B1 0) (B2 (B1 1) K7))) C8 (A2 (S6 12) (A0 (A1 2) (A0 (A1 0) (A0 (A1 1) A3)))) [‹B6 w h l›,some (.val n.d),none] = some ((brL w h n).map Q4.d):=by
   rw [bY7 (l:=plc w (w * h)) (h1:=fun p=>.int p.1) (h2:=fun p=>.int p.2) (f:=fun p=>(n.br p.1 p.2).d) (r:=[some (.val n.d)]) rfl ?_ (by rw [aJ6]; omega) ?_]
   ·unfold brL; rw [List.map_map]; rfl
   ·wp_walk using evD,B6,aU6 w1 w8 h8
   ·intro p _
    wp_walk using evD,(cg4 hm o hd hw p.1 p.2).1
  have g0 : ∀ u v : Option B,dIx (A8 0) (dC (.int 0)) [‹B6 w h l›,u,v] = some (.int w):=fun _ _=>rfl
  have g1 : ∀ u v : Option B,dIx (A8 0) (dC (.int 1)) [‹B6 w h l›,u,v] = some (.int h):=fun _ _=>rfl
  simp only [aj8,A6,R0,c,g0,g1,A9,F6,A0,A3,N4,A8,xw0,xw1,xms,xbs,xg0,xg1]
  rfl
 ·obtain ⟨p,_,rfl⟩:=List.mem_map.mp hq
  exact ((cg4 hm o hd hw p.1 p.2).2.mono hw).ok
theorem cH8 : Sr 4 1:=bh7 ⟨⟨by decide +kernel,by decide +kernel,by decide +kernel⟩,by decide +kernel⟩
end Sh
namespace Sh
open PySem G L2
def mn (i j : Int) : Int:=if j < i then j else i
abbrev Bx:=Option (Int × Int × Int × Int)
def Bx.le (A B : Bx) : Prop:=match A,B with
 | none,_=>True
 | some _,none=>False
 | some (l,t,r,b),some (l',t',r',b')=>l' ≤ l ∧ t' ≤ t ∧ r ≤ r' ∧ b ≤ b'
theorem le_refl (A : Bx) : Bx.le A A:=by
 cases A with
 | none=>exact trivial
 | some a=>show _ ∧ _ ∧ _ ∧ _; omega
theorem le_trans {A B C : Bx} (h1 : Bx.le A B) (h2 : Bx.le B C) : Bx.le A C:=by
 cases A with
 | none=>exact trivial
 | some a =>
  cases B with
  | none=>exact h1.elim
  | some b =>
   cases C with
   | none=>exact h2.elim
   | some c =>
    obtain ⟨a1,a2,a3,a4⟩:=h1
    obtain ⟨b1,b2,b3,b4⟩:=h2
    exact ⟨Int.le_trans b1 a1,Int.le_trans b2 a2,Int.le_trans a3 b3,Int.le_trans a4 b4⟩
def Nd.isT : Nd → Bool
 | .tone ..=>true
 | _=>false
theorem aO1 (n : Nd) : M3 [n.d] = some (.bool n.isT):=by
 cases n with
 | layer=>exact bZ9
 | tone=>exact bq4
 | group=>exact cd5
theorem cU9 (m : Man) {q : Q4} (o : q.or) : m.bl q0 q = q:=by
 obtain ⟨x0,y0,z0,xc,yc,zc,c1⟩:=o
 have cov : ∀ {d : Rat},0 ≤ d → d ≤ 1 → m.cov 0 d = d:=fun {d} _ _=>by cases m <;> simp only [Man.cov,aS8] <;> grind
 have col : ∀ {d y : Rat},0 ≤ y → y ≤ 1 → m.col 0 d 0 y = y:=fun {d y} _ _=>by cases m <;> simp only [Man.col,aS8] <;> grind
 unfold Man.bl q0
 simp only
 rw [cov (Rat.le_trans x0 xc) c1,col x0 (Rat.le_trans xc c1),col y0 (Rat.le_trans yc c1),col z0 (Rat.le_trans zc c1)]
theorem cU1 {l : List Nd} {q : Q4} {j : Nat} (o : Nd.Oks l) (hq : Dq j q) (hj : j + Nd.wgs l ≤ 900) (x y : Int) : Dq (j + Nd.wgs l) (Nd.sw x y l q):=(loop_ok x y l (3 * Nd.dps l + 2) q j o (Nat.le_refl _) hq hj).2
theorem bd0 {neg v : Bool} {x : D} {ds : List D} (hx : aa6 x = true) (hd : ds.all aa6 = true) (h : inV (toV x) (ds.map toV) = v) : inD neg x (.list ds) = some (.bool (if neg then !v else v)):=by
 subst h
 show (if aa6 x = true ∧ ds.all aa6 = true then _ else none) = _
 rw [if_pos ⟨hx,hd⟩]
theorem cc2 {d : D} {L : List D} (hd : d ∈ L) (hL : ∀ x ∈ L,X0 x) : inD true d (.list L) = some (.bool false):=by
 obtain ⟨s,rfl,_⟩:=hL d hd
 refine bd0 (v:=true) rfl (List.all_eq_true.mpr fun x hx=>?_) (List.any_eq_true.mpr ⟨.str s,List.mem_map.mpr ⟨.str s,hd,rfl⟩,?_⟩)
 ·obtain ⟨t,rfl,_⟩:=hL x hx; rfl
 ·exact beq_self_eq_true s
def wob (f : Nat) : DS:=(A6 (sIf (tB2 (inD false) (A2 P8 (A0 (A1 3) A3)) (A1 1)) bi2 C1) (sIf (K5 (A2 M2 (A0 (A1 3) A3))) (i9 2 (A2 Q7 (A0 (A1 3) (A0 (A2 (D9 f) (A0 (A2 C5 (A0 (A1 3) A3)) (A0 (A1 1) A3))) A3)))) (i9 2 (A1 3))))
theorem am0 {w h : Nat} {l : List Nd} (hd : Nd.dps l ≤ 3) (hl : (Nd.nmss l).length ≤ 1000) : Q8 [B6 w h l] = some (.list (Nd.nmss l)):=by
 have na:=names_among 3 l 12 hd (by decide) hl
 refine B0 (ρ:=[‹B6 w h l›]) rfl ?_
 wp_walk using evD,aQ0,B6,na
end Sh
namespace Sh
open PySem G L2
def Nd.shB : Nd → Bool
 | .layer _ _ _ sh _ _ _ _ _ _ _=>sh
 | .tone _ _ _ sh=>sh
 | .group _ _ _ sh _=>sh
def Nd.mn : Nd → Option Man
 | .layer _ m _ _ _ _ _ _ _ _ _=>some m
 | .tone ..=>none
 | .group _ m _ _ _=>some m
def Nd.stg : Nd → Rat
 | .layer _ _ s _ _ _ _ _ _ _ _=>s
 | .tone _ _ s _=>s
 | .group _ _ s _ _=>s
def Nd.isG : Nd → Bool
 | .group ..=>true
 | _=>false
def Nd.inn : Nd → List Nd
 | .group _ _ _ _ ns=>ns
 | _=>[]
def Man.isO : Man → Bool
 | .over=>true
 | _=>false
theorem bk2 (n : Nd) : P1 [n.d] = some (.bool n.shB):=by
 cases n with
 | layer=>exact bc6
 | tone=>exact aY1
 | group=>exact bd4
theorem bk1 (n : Nd) : L1 [n.d] = some (fr n.stg):=by
 cases n with
 | layer=>exact aN9
 | tone=>exact aL3
 | group=>exact aO6
theorem bJ7 {n : Nd} {m : Man} (h : n.mn = some m) : O7 [n.d] = some (.str m.s):=by
 cases n with
 | layer=>cases h; exact bl1
 | tone=>cases h
 | group=>cases h; exact bm1
theorem bY4 (n : Nd) : M2 [n.d] = some (.bool n.isG):=by rw [K6]; cases n <;> rfl
theorem bY3 {n : Nd} (h : n.isG = true) : C5 [n.d] = some (.tuple (Nd.ds n.inn)):=by
 cases n with
 | layer=>cases h
 | tone=>cases h
 | group=>exact ao5
theorem bC0 {n : Nd} : n.isT = n.mn.isNone:=by cases n <;> rfl
theorem aO2 {n : Nd} {m : Man} (h : n.mn = some m) (s : n.shB = true) : n.isM m:=by
 cases n with
 | layer=>cases h; exact ⟨rfl,s⟩
 | tone=>cases h
 | group=>cases h; exact ⟨rfl,s⟩
theorem ce6 (q q' : Q4) : ∃ b,eqD q.d q'.d = some (.bool b):=by
 unfold eqD
 rw [if_pos ⟨(Ly.q4 q 0).shaped (by decide),(Ly.q4 q' 0).shaped (by decide)⟩]
 exact ⟨_,rfl⟩
def eqB (q q' : Q4) : Bool:=(ce6 q q').choose
theorem ce8 (q q' : Q4) : eqD q.d q'.d = some (.bool (eqB q q')):=(ce6 q q').choose_spec
def Nd.cvr (w h : Nat) (n : Nd) : Bool:=match n.mn with
 | none=>false
 | some m=>n.shB && (m.isO && (brL w h n).all fun q=>decide (q.c = 1))
def Nd.nth (w h : Nat) (n : Nd) : Bool:=!n.shB || ((n.stg.num == 0) || (match n.mn with
 | none=>false
 | some _=>(brL w h n).all fun q=>eqB q q0))
structure Fits (w h : Nat) : Prop where
 w1 : 1 ≤ w
 w8 : w ≤ 8
 h1 : 1 ≤ h
 h8 : h ≤ 8
theorem bE2 (w h : Nat) (n : Nd) : (brL w h n).length = w * h:=by unfold brL; rw [List.length_map,aJ6]
theorem cn5 (m : Man) : neD (.str m.s) (.str "over") = some (.bool (!m.isO)):=by
 cases m
 ·exact Z3 (b:=false) (by decide +kernel) (by decide +kernel) (by decide +kernel)
 all_goals exact Z3 (b:=true) (by decide +kernel) (by decide +kernel) (by decide +kernel)
theorem cP6 (c : Rat) : eqD (fr c) (.tuple [.int 1,.int 1]) = some (.bool (decide (c = 1))):=ce5 c 1
theorem bO0 {w h : Nat} (W : Fits w h) (l0 : List Nd) {n : Nd} (o : n.Ok) (hd : n.dp ≤ 3) (hw : n.wg ≤ 800) : ao0 [B6 w h l0,n.d] = some (.bool (n.cvr w h)):=by
 refine B0 (ρ:=[‹B6 w h l0›,some (.val n.d)]) rfl ?_
 have et:=aO1 n
 have es:=bk2 n
 rw [bC0] at et
 unfold Nd.cvr
 cases q : n.mn with
 | none =>
  rw [q] at et
  have et : M3 [n.d] = some (.bool true):=et
  wp_walk using evD,an8,et
 | some m =>
  rw [q] at et
  have et : M3 [n.d] = some (.bool false):=et
  have em:=bJ7 q
  have ne:=cn5 m
  cases r : n.shB with
  | false =>
   rw [r] at es
   wp_walk using evD,an8,et,es,Bool.false_and
  | true =>
   rw [r] at es
   cases p : m.isO with
   | false =>
    rw [p] at ne
    wp_walk using evD,an8,et,es,em,ne,p,Bool.true_and,Bool.false_and
   | true =>
    rw [p] at ne
    have bs:=(cg6 (aO2 q r) o hd hw l0 W.w1 W.w8 W.h1 W.h8).1
    have wh : w * h ≤ 64:=Nat.mul_le_mul W.w8 W.h8
    have cm : B8 1 [] (G1 (dIx (qE (A2 P2 (A0 (A1 0) (A0 (A1 1) A3)))) (dC (.int 2)))) (B1 0) C8 (A5 eqD (dIx (A8 0) (dC (.int 0))) (dC (.tuple [(.int 1),(.int 1)]))) [‹B6 w h l0›,some (.val n.d)] = some ((brL w h n).map fun q=>.bool (decide (q.c = 1))):=by
     refine v4 (l:=brL w h n) (h:=Q4.d) (r:=[]) rfl ?_ (by rw [bE2]; omega) fun q _=>?_
     ·wp_walk using evD,bs,shD
     ·wp_walk using evD,Q4.d,sp,cP6
    wp_walk using evD,an8,et,es,em,ne,cm,p,an6,Bool.true_and
theorem bt6 {w h : Nat} (W : Fits w h) (l0 : List Nd) {n : Nd} (o : n.Ok) (hd : n.dp ≤ 3) (hw : n.wg ≤ 800) : S7 [B6 w h l0,n.d] = some (.bool (n.nth w h)):=by
 refine B0 (ρ:=[‹B6 w h l0›,some (.val n.d)]) rfl ?_
 have et:=aO1 n
 have es:=bk2 n
 have eg:=bk1 n
 rw [bC0] at et
 unfold fr at eg
 unfold Nd.nth
 cases r : n.shB with
 | false =>
  rw [r] at es
  wp_walk using evD,S4,es,Bool.true_or
 | true =>
  rw [r] at es
  cases z : (n.stg.num == 0) with
  | true=>wp_walk using evD,S4,es,eg,z,Bool.false_or,Bool.true_or
  | false =>
   cases q : n.mn with
   | none =>
    rw [q] at et
    have et : M3 [n.d] = some (.bool true):=et
    wp_walk using evD,S4,es,eg,z,et,Bool.false_or
   | some m =>
    rw [q] at et
    have et : M3 [n.d] = some (.bool false):=et
    have bs:=(cg6 (aO2 q r) o hd hw l0 W.w1 W.w8 W.h1 W.h8).1
    have wh : w * h ≤ 64:=Nat.mul_le_mul W.w8 W.h8
    have cm : B8 1 [] (G1 (dIx (qE (A2 P2 (A0 (A1 0) (A0 (A1 1) A3)))) (dC (.int 2)))) (B1 0) C8 (A5 eqD (A1 0) (dC (.tuple [(.tuple [(.int 0),(.int 1)]),(.tuple [(.int 0),(.int 1)]),(.tuple [(.int 0),(.int 1)]),(.tuple [(.int 0),(.int 1)])]))) [‹B6 w h l0›,some (.val n.d)] = some ((brL w h n).map fun q=>.bool (eqB q q0)):=by
     refine v4 (l:=brL w h n) (h:=Q4.d) (r:=[]) rfl ?_ (by rw [bE2]; omega) fun q _=>?_
     ·wp_walk using evD,bs,shD
     ·have:=ce8 q q0
      rw [cF5] at this
      wp_walk using evD,this
    wp_walk using evD,S4,es,eg,z,et,cm,an6,Bool.false_or
def hiF (w h : Nat) : Nat → List Nd → Nat → Nat
 | _,[],a=>a
 | i,n :: r,a=>hiF w h (i + 1) r (if n.cvr w h = true then i else a)
def R5 (w h : Nat) (l : List Nd) : Nat:=hiF w h 0 l 0
theorem bl8 (w h : Nat) (n : Nd) : ∀ (l : List Nd) (i a : Nat),hiF w h i (l ++ [n]) a = if n.cvr w h = true then i + l.length else hiF w h i l a
 | [],i,a=>rfl
 | m :: l,i,a=>by
  rw [xca,hiF,bl8 w h n l,hiF,List.length_cons]
  split
  ·omega
  ·rfl
theorem aO5 (w h : Nat) : ∀ (l : List Nd) (i a : Nat),(∀ n ∈ l,n.cvr w h = false) → hiF w h i l a = a
 | [],_,_,_=>rfl
 | n :: l,i,a,H=>by
  rw [hiF,aO5 w h l _ _ fun m hm=>H m (List.mem_cons_of_mem _ hm),H n (List.mem_cons_self ..)]; rfl
def hcb : DS:=(sIf (K5 (A2 ao0 (A0 (A1 0) (A0 (A1 3) A3)))) (A9 (A1 2)) C1)
structure Tame (l : List Nd) : Prop where
 ok : ∀ n ∈ l,n.Ok
 dp : ∀ n ∈ l,n.dp ≤ 3
 wg : ∀ n ∈ l,n.wg ≤ 800
 len : l.length ≤ 1000
theorem bu6 {w h : Nat} (W : Fits w h) (l0 : List Nd) {ns : List Nd} (T : Tame ns) : T7 [B6 w h l0,.tuple (Nd.ds ns)] = some (.int (R5 w h ns)):=by
 have lp : ∀ (k : Nat),k ≤ ns.length → ∀ a2 a3 : Option B,(∃ a2' a3',ab8 (K4 2 (B2 (B1 2) (B2 (B1 3) K7))) hcb ((v7 (Nd.ds ns)).take k).reverse [‹B6 w h l0›,‹.tuple (Nd.ds ns)›,a2,a3] = some (.nx [‹B6 w h l0›,‹.tuple (Nd.ds ns)›,a2',a3']) ∧ R5 w h (ns.take k) = 0) ∨ ab8 (K4 2 (B2 (B1 2) (B2 (B1 3) K7))) hcb ((v7 (Nd.ds ns)).take k).reverse [‹B6 w h l0›,‹.tuple (Nd.ds ns)›,a2,a3] = some (.rt (.int (R5 w h (ns.take k)))):=by
  intro k
  induction k with
  | zero=>intro _ a2 a3; exact .inl ⟨a2,a3,by rw [List.take_zero]; rfl,by rw [List.take_zero]; rfl⟩
  | succ k ih =>
   intro hk a2 a3
   have hk' : k < ns.length:=by omega
   have he : (v7 (Nd.ds ns))[k]? = some (.tuple [.int k,(ns[k]).d]):=by rw [aa7,am7,List.getElem?_eq_getElem hk']; rfl
   obtain ⟨hkl,hke⟩:=List.getElem?_eq_some_iff.mp he
   have hh : R5 w h (ns.take (k + 1)) = if (ns[k]).cvr w h = true then k else R5 w h (ns.take k):=by
    unfold R5
    rw [List.take_succ_eq_append_getElem hk',bl8,Nat.zero_add,List.length_take,Nat.min_eq_left (by omega)]
   have ec:=bO0 W l0 (T.ok _ (List.getElem_mem hk')) (T.dp _ (List.getElem_mem hk')) (T.wg _ (List.getElem_mem hk'))
   have tl : ([PyData.int k,(ns[k]).d] : List D).length = 2:=rfl
   rw [List.take_succ_eq_append_getElem hkl,List.reverse_append,List.reverse_singleton,List.singleton_append,hke,hh]
   cases q : (ns[k]).cvr w h with
   | true =>
    rw [q] at ec
    refine .inr ?_
    wp_walk using evD,ab8,hcb,tl,ec
   | false =>
    rw [q] at ec
    have b : hcb [‹B6 w h l0›,‹.tuple (Nd.ds ns)›,‹.int k›,some (.val (ns[k]).d)] = some (.nx [‹B6 w h l0›,‹.tuple (Nd.ds ns)›,‹.int k›,some (.val (ns[k]).d)]):=by
     wp_walk using evD,hcb,ec
    have i:=ih (by omega) (‹.int k›) (some (.val (ns[k]).d))
    simp only [ab8,K4,B2,K7,B1,tl,if_true,xw0,xw1,xbs,b,xft,if_false]
    exact i
 have e:=lp ns.length (Nat.le_refl _) none none
 rw [List.take_of_length_le (Nat.le_refl _),List.take_of_length_le (by rw [o8,M7,List.length_map]; exact Nat.le_refl _)] at e
 refine B0 (ρ:=[‹B6 w h l0›,‹.tuple (Nd.ds ns)›,none,none]) rfl ?_
 have src : cc5 (qE (A1 1)) [‹B6 w h l0›,‹.tuple (Nd.ds ns)›,none,none] = some (v7 (Nd.ds ns)).reverse:=by
  show (if (Nd.ds ns).length ≤ 1000 then some (v7 (Nd.ds ns)).reverse else none) = _
  rw [if_pos (by rw [M7,List.length_map]; exact T.len)]
 have lpe : (U4 (cc5 (qE (A1 1))) (K4 2 (B2 (B1 2) (B2 (B1 3) K7))) hcb) [‹B6 w h l0›,‹.tuple (Nd.ds ns)›,none,none] = ab8 (K4 2 (B2 (B1 2) (B2 (B1 3) K7))) hcb (v7 (Nd.ds ns)).reverse [‹B6 w h l0›,‹.tuple (Nd.ds ns)›,none,none]:=by
  unfold U4
  rw [src,xbs]
 rcases e with ⟨a2',a3',e,z⟩ | e
 ·rw [z]
  exact (B7 (lpe.trans e)).trans rfl
 ·exact br5 (lpe.trans e)
mutual
def Nd.gl (w h : Nat) : Nd → List D
 | .layer ..=>[]
 | .tone ..=>[]
 | .group _ _ _ _ ns=>Nd.gls w h (R5 w h ns) 0 ns
def Nd.gls (w h lo : Nat) (j : Nat) : List Nd → List D
 | []=>[]
 | n :: r=>(if (decide (j < lo) || n.nth w h) = true then [n.nm] else n.gl w h) ++ Nd.gls w h lo (j + 1) r
end
theorem bm0 (w h lo : Nat) (n : Nd) : ∀ (l : List Nd) (j : Nat),Nd.gls w h lo j (l ++ [n]) = Nd.gls w h lo j l ++ (if (decide (j + l.length < lo) || n.nth w h) = true then [n.nm] else n.gl w h)
 | [],j=>by rw [xna,Nd.gls,Nd.gls,Nd.gls,List.append_nil]; rfl
 | m :: l,j=>by
  rw [xca,Nd.gls,bm0 w h lo n l (j + 1),Nd.gls,List.length_cons,List.append_assoc,show j + (l.length + 1) = j + 1 + l.length by omega]
mutual
theorem bu7 (w h : Nat) : ∀ n : Nd,(n.gl w h).length + 1 ≤ n.nms.length ∧ ∀ d ∈ n.gl w h,d ∈ n.nms
 | .layer ..=>by rw [Nd.gl,Nd.nms]; exact ⟨Nat.le_refl _,fun d hd=>by simp at hd⟩
 | .tone ..=>by rw [Nd.gl,Nd.nms]; exact ⟨Nat.le_refl _,fun d hd=>by simp at hd⟩
 | .group nm m s sh ns=>by
  rw [Nd.gl,Nd.nms,List.length_cons]
  have i:=gls_sub w h ns (R5 w h ns) 0
  exact ⟨by omega,fun d hd=>List.mem_cons_of_mem _ (i.2 d hd)⟩
theorem gls_sub (w h : Nat) : ∀ (l : List Nd) (lo j : Nat),(Nd.gls w h lo j l).length ≤ (Nd.nmss l).length ∧ ∀ d ∈ Nd.gls w h lo j l,d ∈ Nd.nmss l
 | [],lo,j=>by rw [Nd.gls]; exact ⟨Nat.zero_le _,fun d hd=>by simp at hd⟩
 | n :: r,lo,j=>by
  have i1:=bu7 w h n
  have i2:=gls_sub w h r lo (j + 1)
  rw [Nd.gls,Nd.nmss,List.length_append,List.length_append]
  split
  ·refine ⟨by show 1 + _ ≤ _; omega,fun d hd=>?_⟩
   rcases List.mem_append.mp hd with q | q
   ·rw [List.mem_singleton.mp q]; exact List.mem_append_left _ (U5 n)
   ·exact List.mem_append_right _ (i2.2 d q)
  ·refine ⟨by omega,fun d hd=>?_⟩
   rcases List.mem_append.mp hd with q | q
   ·exact List.mem_append_left _ (i1.2 d q)
   ·exact List.mem_append_right _ (i2.2 d q)
end
theorem aE7 (w h lo : Nat) : ∀ (l r : List Nd) (j : Nat),j + l.length ≤ lo → Nd.gls w h lo j (l ++ r) = l.map Nd.nm ++ Nd.gls w h lo (j + l.length) r
 | [],r,j,_=>rfl
 | n :: l,r,j,hj=>by
  rw [List.length_cons] at hj
  rw [xca,Nd.gls,aE7 w h lo l r (j + 1) (by omega),decide_eq_true (show j < lo by omega),Bool.true_or,if_pos rfl,xmc,List.length_cons,show j + (l.length + 1) = j + 1 + l.length by omega]; rfl
theorem ao1 {l : List Nd} (o : Nd.Oks l) (hd : Nd.dps l ≤ 3) (hw : Nd.wgs l ≤ 800) (hl : l.length ≤ 1000) : Tame l:=by
 refine ⟨(S9 l).mp o,fun n hn=>by have:=S1 hn; omega,fun n hn=>?_,hl⟩
 obtain ⟨a,b,rfl⟩:=List.append_of_mem hn
 rw [S8,Nd.wgs] at hw
 omega
def nlb (f : Nat) : DS:=(sIf (Q9 (tB2 ltI (A1 4) (A1 3)) (K5 (A2 S7 (A0 (A1 0) (A0 (A1 5) A3))))) (i9 2 (A2 P8 (A0 (A1 5) A3))) (sIf (K5 (A2 M2 (A0 (A1 5) A3))) (aZ8 2 (A2 (D0 f) (A0 (A1 0) (A0 (A2 C5 (A0 (A1 5) A3)) A3)))) C1))
theorem cn4 {w h : Nat} (W : Fits w h) (l0 : List Nd) {n : Nd} (o : n.Ok) (hd : n.dp ≤ 3) (hw : n.wg ≤ 800) (f lo j : Nat) (X : List D) (a1 : Option B) (hX : X.length ≤ 1000) (hN : n.nms.length ≤ 1000) (H : n.isG = true → D0 f [B6 w h l0,.tuple (Nd.ds n.inn)] = some (.list (n.gl w h))) :
  nlb f [‹B6 w h l0›,a1,some (.own X),‹.int lo›,‹.int j›,some (.val n.d)] = some (.nx [‹B6 w h l0›,a1,some (.own (X ++ (if (decide (j < lo) || n.nth w h) = true then [n.nm] else n.gl w h))),‹.int lo›,‹.int j›,some (.val n.d)]):=by
 have hx : X.length < 16777216:=by omega
 have en:=name_of n
 have e0:=bt6 W l0 o hd hw
 have eg:=bY4 n
 by_cases q : j < lo
 ·have q' : decide ((j : Int) < (lo : Int)) = true:=decide_eq_true (by omega)
  rw [decide_eq_true q]
  wp_walk using evD,nlb,q',en,i9,if_pos hx,Bool.true_or
 ·have q' : decide ((j : Int) < (lo : Int)) = false:=decide_eq_false (by omega)
  rw [decide_eq_false q,Bool.false_or]
  cases r : n.nth w h with
  | true =>
   rw [r] at e0
   wp_walk using evD,nlb,q',e0,en,i9,if_pos hx
  | false =>
   rw [r] at e0
   cases g : n.isG with
   | true =>
    rw [g] at eg
    have ei:=bY3 g
    have hl:=(bu7 w h n).1
    have hx' : X.length + (n.gl w h).length ≤ 16777216:=by omega
    wp_walk using evD,nlb,q',e0,eg,ei,H g,aZ8,if_pos hx'
   | false =>
    rw [g] at eg
    have z : n.gl w h = []:=by
     cases n with
     | layer=>rw [Nd.gl]
     | tone=>rw [Nd.gl]
     | group=>cases g
    rw [z]
    wp_walk using evD,nlb,q',e0,eg,List.append_nil
theorem bk0 {w h : Nat} (W : Fits w h) (l0 : List Nd) : ∀ (k : Nat) (ns : List Nd) (f : Nat),Nd.dps ns ≤ k → k ≤ 3 → k + 1 ≤ f → Nd.Oks ns → Nd.wgs ns ≤ 800 → ns.length ≤ 1000 → Nd.thins ns → (Nd.nmss ns).length ≤ 1000 → D0 f [B6 w h l0,.tuple (Nd.ds ns)] = some (.list (Nd.gls w h (R5 w h ns) 0 ns)):=by
 have step : ∀ (ns : List Nd) (f : Nat),Tame ns → (Nd.nmss ns).length ≤ 1000 → (∀ n ∈ ns,n.isG = true → D0 f [B6 w h l0,.tuple (Nd.ds n.inn)] = some (.list (n.gl w h))) → D0 (f + 1) [B6 w h l0,.tuple (Nd.ds ns)] = some (.list (Nd.gls w h (R5 w h ns) 0 ns)):=fun ns f T hN H=>by
  obtain ⟨ρ',e,a4,a5,hρ⟩:=o7 (g:=K4 2 (B2 (B1 4) (B2 (B1 5) K7))) (f:=nlb f) (h:=id) (I:=fun i ρ=>∃ a4 a5,ρ = [‹B6 w h l0›,‹.tuple (Nd.ds ns)›,some (.own (Nd.gls w h (R5 w h ns) 0 (ns.take i))),‹.int (R5 w h ns)›,a4,a5]) (v7 (Nd.ds ns)) 0 [‹B6 w h l0›,‹.tuple (Nd.ds ns)›,some (.own []),‹.int (R5 w h ns)›,none,none] ⟨none,none,by rw [List.take_zero,Nd.gls]⟩ (fun j d hj ρ hρ=>by
   obtain ⟨a4,a5,rfl⟩:=hρ
   rw [Nat.zero_add]
   rw [aa7,am7] at hj
   obtain ⟨d',e1,rfl⟩:=Option.map_eq_some_iff.mp hj
   obtain ⟨n,e2,rfl⟩:=Option.map_eq_some_iff.mp e1
   obtain ⟨hjl,hn⟩:=List.getElem?_eq_some_iff.mp e2
   have hm : n ∈ ns:=by rw [← hn]; exact List.getElem_mem hjl
   have sb:=gls_sub w h (ns.take j) (R5 w h ns) 0
   have tk:=congrArg (fun l=>(Nd.nmss l).length) (List.take_append_drop j ns)
   simp only [E1,List.length_append] at tk
   have nn : n.nms.length ≤ (Nd.nmss ns).length:=bb8 hm
   have st:=cn4 W l0 (T.ok n hm) (T.dp n hm) (T.wg n hm) f (R5 w h ns) j (Nd.gls w h (R5 w h ns) 0 (ns.take j)) (‹.tuple (Nd.ds ns)›) (by omega) (by omega) (H n hm)
   refine ⟨_,rfl,_,st,‹.int j›,some (.val n.d),?_⟩
   rw [List.take_succ_eq_append_getElem hjl,hn,bm0,Nat.zero_add,List.length_take,Nat.min_eq_left (by omega)])
  subst hρ
  rw [Nat.zero_add,List.map_id,o8,M7,List.length_map,List.take_of_length_le (Nat.le_refl _),← M7] at e
  refine B0 (g:=af7 (D0 f)) (ρ:=[‹B6 w h l0›,‹.tuple (Nd.ds ns)›,none,none,none,none]) rfl ?_
  have hi:=bu6 W l0 T
  have s1 : (B4 3 (A2 T7 (A0 (A1 0) (A0 (A1 1) A3)))) [‹B6 w h l0›,‹.tuple (Nd.ds ns)›,some (.own []),none,none,none] = some (.nx [‹B6 w h l0›,‹.tuple (Nd.ds ns)›,some (.own []),‹.int (R5 w h ns)›,none,none]):=by
   wp_walk using evD,hi
  have s2 : (U4 (aO4 (qE (A1 1))) (K4 2 (B2 (B1 4) (B2 (B1 5) K7))) (nlb f)) [‹B6 w h l0›,‹.tuple (Nd.ds ns)›,some (.own []),‹.int (R5 w h ns)›,none,none] = some (.nx [‹B6 w h l0›,‹.tuple (Nd.ds ns)›,some (.own (Nd.gls w h (R5 w h ns) 0 ns)),‹.int (R5 w h ns)›,a4,a5]):=e
  exact (B7 (ρ':=[‹B6 w h l0›,‹.tuple (Nd.ds ns)›,some (.own []),none,none,none]) rfl).trans ((B7 s1).trans ((B7 s2).trans rfl))
 intro k
 induction k with
 | zero =>
  intro ns f hd hk hf o hw hl ht hN
  obtain ⟨f,rfl⟩ : ∃ g,f = g + 1:=⟨f - 1,by omega⟩
  refine step ns f (ao1 o (by omega) hw hl) hN fun n hn g=>?_
  have:=S1 hn
  cases n with
  | layer=>cases g
  | tone=>cases g
  | group=>rw [Nd.dp] at this; omega
 | succ k ih =>
  intro ns f hd hk hf o hw hl ht hN
  obtain ⟨f,rfl⟩ : ∃ g,f = g + 1:=⟨f - 1,by omega⟩
  have T:=ao1 o (by omega) hw hl
  refine step ns f T hN fun n hn g=>?_
  have h1:=S1 hn
  have h2:=(T8 ns).mp ht n hn
  have h3:=T.wg n hn
  have h4:=T.ok n hn
  have h5 : n.nms.length ≤ (Nd.nmss ns).length:=bb8 hn
  cases n with
  | layer=>cases g
  | tone=>cases g
  | group nm m s sh ns' =>
   rw [Nd.dp] at h1
   rw [Nd.thin] at h2
   rw [Nd.wg] at h3
   rw [Nd.Ok] at h4
   rw [Nd.nms,List.length_cons] at h5
   rw [Nd.gl]
   exact ih ns' f (by omega) (by omega) (by omega) h4.2 (by omega) h2.1 h2.2 (by omega)
end Sh
namespace Sh
open PySem G L2
def inK (K : List D) (d : D) : Bool:=@decide (d ∈ K) (Classical.propDecidable _)
theorem cv4 {K : List D} {d : D} (h : d ∈ K) : inK K d = true:=@decide_eq_true _ (Classical.propDecidable _) h
theorem cc3 {K : List D} {d : D} (h : d ∉ K) : inK K d = false:=@decide_eq_false _ (Classical.propDecidable _) h
theorem cH9 {K : List D} {d : D} (h : inK K d = true) : d ∈ K:=@of_decide_eq_true _ (Classical.propDecidable _) h
theorem bB4 {K : List D} {d : D} (h : inK K d = false) : d ∉ K:=@of_decide_eq_false _ (Classical.propDecidable _) h
mutual
def Nd.wk (K : List D) : Nd → Nd
 | .layer n m s sh lf tp mk w h l kb=>.layer n m s sh lf tp mk w h l kb
 | .tone n r s sh=>.tone n r s sh
 | .group n m s sh ns=>.group n m s sh (Nd.wks K ns)
def Nd.wks (K : List D) : List Nd → List Nd
 | []=>[]
 | n :: r=>if inK K n.nm = true then Nd.wks K r else n.wk K :: Nd.wks K r
end
theorem cP1 {d : D} {K : List D} (hd : X0 d) (hK : ∀ x ∈ K,X0 x) : inD false d (.list K) = some (.bool (inK K d)):=by
 obtain ⟨s,rfl,_⟩:=hd
 have fl : K.all aa6 = true:=List.all_eq_true.mpr fun x hx=>by obtain ⟨t,rfl,_⟩:=hK x hx; rfl
 by_cases h : (PyData.str s : D) ∈ K
 ·rw [cv4 h]
  exact bd0 (v:=true) rfl fl (List.any_eq_true.mpr ⟨.str s,List.mem_map.mpr ⟨.str s,h,rfl⟩,beq_self_eq_true s⟩)
 ·rw [cc3 h]
  refine bd0 (v:=false) rfl fl (List.any_eq_false.mpr fun y hy=>?_)
  obtain ⟨x,hx,rfl⟩:=List.mem_map.mp hy
  obtain ⟨t,rfl,_⟩:=hK x hx
  show ¬ (t == s) = true
  intro e
  exact h (by rw [← eq_of_beq e]; exact hx)
theorem aX9 {K : List D} (hK : ∀ x ∈ K,X0 x) (f : Nat) : ∀ (l : List Nd) (X : List D) (a0 a3 : Option B),(∀ n ∈ l,X0 n.nm) → X.length + l.length ≤ 1000 → (∀ n ∈ l,∀ nm' m s sh ns,n = .group nm' m s sh ns → D9 f [.tuple (Nd.ds ns),.list K] = some (.tuple (Nd.ds (Nd.wks K ns)))) →
  ∃ a3',ab8 (B1 3) (wob f) (Nd.ds l) [a0,‹.list K›,some (.own X),a3] = some (.nx [a0,‹.list K›,some (.own (X ++ Nd.ds (Nd.wks K l))),a3'])
 | [],X,a0,a3,_,_,_=>⟨a3,by rw [Nd.wks,Nd.ds,List.append_nil]; rfl⟩
 | n :: l,X,a0,a3,hs,hl,H=>by
  have hi:=cP1 (hs n (List.mem_cons_self ..)) hK
  have en:=name_of n
  rw [List.length_cons] at hl
  have hx : X.length < 16777216:=by omega
  rw [Nd.ds,Nd.wks]
  cases q : inK K n.nm with
  | true =>
   rw [q] at hi
   obtain ⟨a3',e⟩:=aX9 hK f l X a0 (some (.val n.d)) (fun x hx=>hs x (List.mem_cons_of_mem _ hx)) (by omega) (fun x hx=>H x (List.mem_cons_of_mem _ hx))
   refine ⟨a3',?_⟩
   have b : wob f [a0,‹.list K›,some (.own X),some (.val n.d)] = some (.ct [a0,‹.list K›,some (.own X),some (.val n.d)]):=by
    wp_walk using evD,wob,en,hi,bi2
   simp only [ab8,B1,xw0,xw1,xbs,b,if_true]
   exact e
  | false =>
   rw [q] at hi
   obtain ⟨a3',e⟩:=aX9 hK f l (X ++ [(n.wk K).d]) a0 (some (.val n.d)) (fun x hx=>hs x (List.mem_cons_of_mem _ hx)) (by rw [List.length_append]; show X.length + 1 + l.length ≤ 1000; omega) (fun x hx=>H x (List.mem_cons_of_mem _ hx))
   refine ⟨a3',?_⟩
   have ig:=K6 n
   have b : wob f [a0,‹.list K›,some (.own X),some (.val n.d)] = some (.nx [a0,‹.list K›,some (.own (X ++ [(n.wk K).d])),some (.val n.d)]):=by
    cases n with
    | layer=>rw [Nd.wk]; wp_walk using evD,wob,en,hi,ig,i9,if_pos hx
    | tone=>rw [Nd.wk]; wp_walk using evD,wob,en,hi,ig,i9,if_pos hx
    | group nm' m s sh ns =>
     have e1:=H _ (List.mem_cons_self ..) nm' m s sh ns rfl
     rw [Nd.wk]
     wp_walk using evD,wob,en,hi,ig,i9,if_pos hx,ao5,e1,bp9
   simp only [ab8,B1,xw0,xw1,xbs,b,xft,if_false,Nd.ds]
   rw [List.append_assoc] at e
   exact e
theorem cx3 {K : List D} (hK : ∀ x ∈ K,X0 x) : ∀ (k : Nat) (l : List Nd) (f : Nat),Nd.dps l ≤ k → k + 1 ≤ f → l.length ≤ 1000 → Nd.thins l → (∀ d ∈ Nd.nmss l,X0 d) → D9 f [.tuple (Nd.ds l),.list K] = some (.tuple (Nd.ds (Nd.wks K l))):=by
 have step : ∀ (l : List Nd) (f : Nat),l.length ≤ 1000 → (∀ d ∈ Nd.nmss l,X0 d) → (∀ n ∈ l,∀ nm' m s sh ns,n = .group nm' m s sh ns → D9 f [.tuple (Nd.ds ns),.list K] = some (.tuple (Nd.ds (Nd.wks K ns)))) → D9 (f + 1) [.tuple (Nd.ds l),.list K] = some (.tuple (Nd.ds (Nd.wks K l))):=fun l f hl hs H=>by
  obtain ⟨a3',e⟩:=aX9 hK f l [] (‹.tuple (Nd.ds l)›) none (aN6 hs) (by simpa using hl) H
  refine B0 (g:=aj7 (D9 f)) (ρ:=[‹.tuple (Nd.ds l)›,‹.list K›,none,none]) rfl ?_
  have s1 : (U4 (G1 (A1 0)) (B1 3) (wob f)) [‹.tuple (Nd.ds l)›,‹.list K›,some (.own []),none] = some (.nx [‹.tuple (Nd.ds l)›,‹.list K›,some (.own ([] ++ Nd.ds (Nd.wks K l))),a3']):=e
  exact (B7 (ρ':=[‹.tuple (Nd.ds l)›,‹.list K›,some (.own []),none]) rfl).trans ((B7 s1).trans rfl)
 intro k
 induction k with
 | zero =>
  intro l f hd hf hl ht hs
  obtain ⟨f,rfl⟩ : ∃ g,f = g + 1:=⟨f - 1,by omega⟩
  refine step l f hl hs fun n hn' nm' m s sh ns e=>?_
  have:=S1 hn'
  rw [e,Nd.dp] at this; omega
 | succ k ih =>
  intro l f hd hf hl ht hs
  obtain ⟨f,rfl⟩ : ∃ g,f = g + 1:=⟨f - 1,by omega⟩
  refine step l f hl hs fun n hn' nm' m s sh ns e=>?_
  have h1:=S1 hn'
  have h2:=(T8 l).mp ht n hn'
  rw [e,Nd.dp] at h1
  rw [e,Nd.thin] at h2
  exact ih ns f (by omega) (by omega) h2.1 h2.2 fun d hd'=>hs d (Z1 hn' (by rw [e,Nd.nms]; exact List.mem_cons_of_mem _ hd'))
theorem bh2 {w h : Nat} {l : List Nd} {K : List D} (hm : ∀ d ∈ K,d ∈ Nd.nmss l) (hs : ∀ d ∈ Nd.nmss l,X0 d) (hd : Nd.dps l ≤ 3) (hn : (Nd.nmss l).length ≤ 1000) (hl : l.length ≤ 1000) (ht : Nd.thins l) : V7 [B6 w h l,.list K] = some (B6 w h (Nd.wks K l)):=by
 have e1:=am0 (w:=w) (h:=h) hd hn
 have e2:=cx3 (fun x hx=>hs x (hm x hx)) 3 l 12 hd (by decide) hl ht hs
 refine B0 (ρ:=[‹B6 w h l›,‹.list K›,none,none]) rfl ?_
 unfold aW7
 rw [B7 (ρ':=[‹B6 w h l›,‹.list K›,‹.list (Nd.nmss l)›,none]) (by wp_walk using evD,e1)]
 obtain ⟨ρ',e3,a3,hρ⟩:=am6 (g:=B1 3) (f:=sIf (tB2 (inD true) (A1 3) (A1 2)) P5 C1) (I:=fun ρ=>∃ a3,ρ = [‹B6 w h l›,‹.list K›,‹.list (Nd.nmss l)›,a3]) K [‹B6 w h l›,‹.list K›,‹.list (Nd.nmss l)›,none] ⟨none,rfl⟩ (fun d hd' ρ hρ=>by
  obtain ⟨a3,rfl⟩:=hρ
  have e3:=cc2 (hm d hd') hs
  refine ⟨_,rfl,[‹B6 w h l›,‹.list K›,‹.list (Nd.nmss l)›,some (.val d)],?_,some (.val d),rfl⟩
  show (sIf (tB2 (inD true) (A1 3) (A1 2)) P5 C1) [‹B6 w h l›,‹.list K›,‹.list (Nd.nmss l)›,some (.val d)] = _
  wp_walk using evD,e3)
 subst hρ
 have s1 : (U4 (G1 (A1 1)) (B1 3) (sIf (tB2 (inD true) (A1 3) (A1 2)) P5 C1)) [‹B6 w h l›,‹.list K›,‹.list (Nd.nmss l)›,none] = some (.nx [‹B6 w h l›,‹.list K›,‹.list (Nd.nmss l)›,a3]):=e3
 rw [B7 s1]
 wp_walk using evD,B6,e2
theorem cr8 (r s : Rat) : PyData.eqv (fr r) (fr s) = decide (r = s):=by
 have e:=ce5 r s
 unfold eqD at e
 split at e
 ·exact PyData.bool.inj (Option.some.inj e)
 ·cases e
theorem ce9 {q q' : Q4} (h : eqB q q' = true) : q = q':=by
 have e:=ce8 q q'
 rw [h] at e
 unfold eqD at e
 rw [if_pos ⟨(Ly.q4 q 0).shaped (by decide),(Ly.q4 q' 0).shaped (by decide)⟩] at e
 have e : PyData.eqv q.d q'.d = true:=PyData.bool.inj (Option.some.inj e)
 have e : (PyData.eqv (fr q.c) (fr q'.c) && (PyData.eqv (fr q.x) (fr q'.x) && (PyData.eqv (fr q.y) (fr q'.y) && (PyData.eqv (fr q.z) (fr q'.z) && true)))) = true:=e
 simp only [cr8,Bool.and_eq_true,decide_eq_true_eq] at e
 obtain ⟨c,x,y,z⟩:=q
 obtain ⟨c',x',y',z'⟩:=q'
 obtain ⟨rfl,rfl,rfl,rfl,_⟩:=e
 rfl
theorem bS6 (q : Q4) : q.wt 0 = q0:=by
 obtain ⟨c,x,y,z⟩:=q
 simp only [Q4.wt,q0,Q4.mk.injEq]
 refine ⟨?_,?_,?_,?_⟩ <;> grind
theorem cx9 (r : Rul) (q : Q4) : r.tn 0 q = q:=by
 obtain ⟨c,x,y,z⟩:=q
 simp only [Rul.tn,Rul.mix,Q4.mk.injEq]
 refine ⟨trivial,?_,?_,?_⟩ <;> grind
theorem aN2 {s : Rat} (h : (s.num == 0) = true) : s = 0:=Rat.num_eq_zero.mp (eq_of_beq h)
theorem cg5 {n : Nd} (h : n.stg = 0) {m : Man} (hm : n.mn = some m) (x y : Int) : n.br x y = q0:=by
 cases n with
 | layer nm m s =>
  have h : s = 0:=h
  subst h
  exact bS6 _
 | tone=>cases hm
 | group nm m s sh ns =>
  have h : s = 0:=h
  subst h
  exact bS6 _
theorem cI8 {w h : Nat} {n : Nd} (hn : n.nth w h = true) {p : Int × Int} (hp : p ∈ plc w (w * h)) {q : Q4} (o : q.or) : Nd.ab p.1 p.2 n q = q:=by
 unfold Nd.nth at hn
 cases s : n.shB with
 | false =>
  cases n with
  | layer=>have s : _ = false:=s; subst s; rw [Nd.ab]; rfl
  | tone=>have s : _ = false:=s; subst s; rw [Nd.ab]; rfl
  | group=>have s : _ = false:=s; subst s; rw [Nd.ab]; rfl
 | true =>
  rw [s] at hn
  simp only [xnt,Bool.false_or,Bool.or_eq_true] at hn
  cases e : n.mn with
  | none =>
   rw [e] at hn
   simp only [xft,or_false] at hn
   have z:=aN2 hn
   cases n with
   | layer=>cases e
   | group=>cases e
   | tone nm r s' sh =>
    have s : sh = true:=s
    have z : s' = 0:=z
    subst s z
    rw [Nd.ab]
    exact cx9 r q
  | some m =>
   rw [e] at hn
   rw [ch9 (aO2 e s)]
   have : n.br p.1 p.2 = q0:=by
    rcases hn with z | z
    ·exact cg5 (aN2 z) e _ _
    ·exact ce9 (List.all_eq_true.mp z _ (List.mem_map.mpr ⟨p,hp,rfl⟩))
   rw [this,cU9 m o]
theorem cQ5 {a b : Q4} (h : a.c = 1) : Man.over.bl a b = a:=by
 obtain ⟨c,x,y,z⟩:=a
 obtain ⟨d,x',y',z'⟩:=b
 simp only at h
 subst h
 simp only [Man.bl,Man.cov,Man.col,Q4.mk.injEq]
 refine ⟨?_,?_,?_,?_⟩ <;> grind
theorem be6 {w h : Nat} {n : Nd} (hc : n.cvr w h = true) {p : Int × Int} (hp : p ∈ plc w (w * h)) (q : Q4) : Nd.ab p.1 p.2 n q = n.br p.1 p.2 ∧ (n.br p.1 p.2).c = 1 ∧ n.isM .over:=by
 unfold Nd.cvr at hc
 split at hc
 ·cases hc
 ·rename_i m e
  rw [Bool.and_eq_true,Bool.and_eq_true] at hc
  obtain ⟨h1,h2,h3⟩:=hc
  have hm : m = .over:=by cases m <;> first | rfl | cases h2
  subst hm
  have c:=of_decide_eq_true (List.all_eq_true.mp h3 _ (List.mem_map.mpr ⟨p,hp,rfl⟩))
  refine ⟨?_,c,aO2 e h1⟩
  rw [ch9 (aO2 e h1)]
  exact cQ5 c
theorem be5 {w h : Nat} (W : Fits w h) {n : Nd} (hc : n.cvr w h = true) : n.nth w h = false:=by
 have hp : (0,0) ∈ plc w (w * h):=by
  have:=Nat.mul_le_mul W.w1 W.h1
  exact List.mem_map.mpr ⟨0,List.mem_range.mpr (by omega),by simp⟩
 obtain ⟨_,c,i⟩:=be6 hc hp q0
 have ne : n.br 0 0 ≠ q0:=fun z=>by
  rw [show n.br (0,0).1 (0,0).2 = n.br 0 0 from rfl,z] at c
  exact absurd c (by decide)
 obtain ⟨m,hm⟩ : ∃ m,n.mn = some m:=by
  cases n with
  | layer=>exact ⟨_,rfl⟩
  | tone=>exact i.elim
  | group=>exact ⟨_,rfl⟩
 have s : n.shB = true:=by
  cases n with
  | layer=>exact i.2
  | tone=>exact i.elim
  | group=>exact i.2
 unfold Nd.nth
 rw [s,hm]
 have z1 : (n.stg.num == 0) = false:=by
  cases z : (n.stg.num == 0) with
  | false=>rfl
  | true=>exact absurd (cg5 (aN2 z) hm 0 0) ne
 have z2 : ((brL w h n).all fun q=>eqB q q0) = false:=by
  cases z : (brL w h n).all fun q=>eqB q q0 with
  | false=>rfl
  | true=>exact absurd (ce9 (List.all_eq_true.mp z _ (List.mem_map.mpr ⟨(0,0),hp,rfl⟩))) ne
 rw [z1]
 simp only [xnt,Bool.false_or]
 exact z2
theorem aE6 (w h : Nat) : ∀ (l : List Nd) (i a : Nat),((∀ n ∈ l,n.cvr w h = false) ∧ hiF w h i l a = a) ∨ ∃ x n y,l = x ++ n :: y ∧ n.cvr w h = true ∧ (∀ m ∈ y,m.cvr w h = false) ∧ hiF w h i l a = i + x.length
 | [],i,a=>.inl ⟨fun n hn=>by simp at hn,rfl⟩
 | n :: l,i,a=>by
  rw [hiF]
  rcases aE6 w h l (i + 1) (if n.cvr w h = true then i else a) with ⟨h1,h2⟩ | ⟨x,m,y,rfl,h1,h2,h3⟩
  ·cases e : n.cvr w h with
   | true=>exact .inr ⟨[],n,l,rfl,e,h1,by rw [e] at h2; exact h2⟩
   | false =>
    refine .inl ⟨fun m hm=>?_,by rw [e] at h2; exact h2⟩
    rcases List.mem_cons.mp hm with rfl | hm
    ·exact e
    ·exact h1 m hm
  ·exact .inr ⟨n :: x,m,y,rfl,h1,h2,by rw [h3,List.length_cons]; omega⟩
theorem aN8 : ∀ l : List Nd,l.length ≤ Nd.wgs l
 | []=>Nat.zero_le _
 | n :: r=>by
  rw [Nd.wgs,List.length_cons]
  have:=aN8 r
  have:=bq0 n
  omega
theorem aE3 {l : List Nd} (nd : (Nd.nmss l).Nodup) {n : Nd} (hn : n ∈ l) : n.nms.Nodup:=by
 obtain ⟨a,b,rfl⟩:=List.append_of_mem hn
 rw [E1,Nd.nmss] at nd
 exact (List.nodup_append.mp (List.nodup_append.mp nd).2.1).1
noncomputable abbrev ctr (w h lo j : Nat) (n : Nd) : List D:=if (decide (j < lo) || n.nth w h) = true then [n.nm] else n.gl w h
theorem bD8 (w h lo j : Nat) (n : Nd) : ∀ d ∈ ctr w h lo j n,d ∈ n.nms:=fun d hd=>by
 unfold ctr at hd
 split at hd
 ·rw [List.mem_singleton.mp hd]; exact U5 n
 ·exact (bu7 w h n).2 d hd
theorem av0 (n : Nd) : n.nms = n.nm :: Nd.nmss n.inn:=by
 cases n with
 | layer=>rw [Nd.nms]; rfl
 | tone=>rw [Nd.nms]; rfl
 | group=>rw [Nd.nms]; rfl
theorem cd2 (w h : Nat) (n : Nd) : ∀ d ∈ n.gl w h,d ∈ Nd.nmss n.inn:=by
 cases n with
 | layer=>rw [Nd.gl]; intro d hd; simp at hd
 | tone=>rw [Nd.gl]; intro d hd; simp at hd
 | group nm m s sh ns=>rw [Nd.gl]; exact (gls_sub w h ns _ 0).2
section
variable {w h : Nat} {K : List D} {p : Int × Int}
theorem ba7 {lo j : Nat} {n : Nd} (nd : n.nms.Nodup) (C : ∀ d ∈ n.nms,d ∈ K → d ∈ ctr w h lo j n) : (n.nm ∈ K → (decide (j < lo) || n.nth w h) = true) ∧ ∀ d ∈ Nd.nmss n.inn,d ∈ K → d ∈ n.gl w h:=by
 rw [av0] at nd
 have nd:=List.nodup_cons.mp nd
 refine ⟨fun hk=>?_,fun d hd hk=>?_⟩
 ·have c:=C _ (U5 n) hk
  unfold ctr at c
  split at c
  ·assumption
  ·exact absurd (cd2 w h n _ c) nd.1
 ·have c:=C d (by rw [av0]; exact List.mem_cons_of_mem _ hd) hk
  unfold ctr at c
  split at c
  ·rw [List.mem_singleton.mp c] at hd; exact absurd hd nd.1
  ·exact c
theorem be7 {lo j : Nat} {n : Nd} {r : List Nd} (nd : (Nd.nmss (n :: r)).Nodup) (C : ∀ d ∈ Nd.nmss (n :: r),d ∈ K → d ∈ Nd.gls w h lo j (n :: r)) : (∀ d ∈ n.nms,d ∈ K → d ∈ ctr w h lo j n) ∧ ∀ d ∈ Nd.nmss r,d ∈ K → d ∈ Nd.gls w h lo (j + 1) r:=by
 rw [Nd.nmss] at nd C
 rw [Nd.gls] at C
 have dj:=(List.nodup_append.mp nd).2.2
 refine ⟨fun d hd hk=>?_,fun d hd hk=>?_⟩
 ·rcases List.mem_append.mp (C d (List.mem_append_left _ hd) hk) with q | q
  ·exact q
  ·exact absurd rfl (dj d hd d ((gls_sub w h r lo (j + 1)).2 d q))
 ·rcases List.mem_append.mp (C d (List.mem_append_right _ hd) hk) with q | q
  ·exact absurd rfl (dj d (bD8 w h lo j n d q) d hd)
  ·exact q
theorem bc2 (hp : p ∈ plc w (w * h)) {lo : Nat} : ∀ (l : List Nd) (j : Nat) (q : Q4) (i : Nat),lo ≤ j → Nd.Oks l → Dq i q → i + Nd.wgs l ≤ 900 → (Nd.nmss l).Nodup → (∀ d ∈ Nd.nmss l,d ∈ K → d ∈ Nd.gls w h lo j l) → (∀ n ∈ l,(∀ d ∈ Nd.nmss n.inn,d ∈ K → d ∈ n.gl w h) → ∀ q,Nd.ab p.1 p.2 (n.wk K) q = Nd.ab p.1 p.2 n q) → Nd.sw p.1 p.2 (Nd.wks K l) q = Nd.sw p.1 p.2 l q
 | [],_,_,_,_,_,_,_,_,_,_=>by rw [Nd.wks]
 | n :: r,j,q,i,hj,o,hq,hw,nd,C,H=>by
  obtain ⟨c1,c2⟩:=be7 nd C
  rw [Nd.nmss] at nd
  obtain ⟨nd1,nd2,_⟩:=List.nodup_append.mp nd
  obtain ⟨e1,e2⟩:=ba7 nd1 c1
  rw [Nd.Oks] at o
  rw [Nd.wgs] at hw
  have on : Nd.Oks [n]:=(S9 _).mpr fun m hm=>by rw [List.mem_singleton.mp hm]; exact o.1
  have d1:=cU1 on hq (by rw [Nd.wgs,Nd.wgs]; omega) p.1 p.2
  rw [Nd.sw,Nd.sw,Nd.wgs,Nd.wgs,Nat.add_zero] at d1
  rw [Nd.wks,Nd.sw]
  cases k : inK K n.nm with
  | true =>
   have z:=e1 (cH9 k)
   rw [decide_eq_false (by omega),Bool.false_or] at z
   rw [if_pos rfl,cI8 z hp hq.o]
   exact bc2 hp r (j + 1) q i (by omega) o.2 hq (by omega) nd2 c2 fun m hm=>H m (List.mem_cons_of_mem _ hm)
  | false =>
   rw [if_neg (by simp),Nd.sw,H n (List.mem_cons_self ..) e2]
   exact bc2 hp r (j + 1) _ (i + n.wg) (by omega) o.2 d1 (by omega) nd2 c2 fun m hm=>H m (List.mem_cons_of_mem _ hm)
theorem aX8 : ∀ a b : List Nd,Nd.wks K (a ++ b) = Nd.wks K a ++ Nd.wks K b
 | [],b=>by rw [Nd.wks]; rfl
 | n :: a,b=>by
  rw [xca,Nd.wks,Nd.wks,aX8 a b]
  split <;> rfl
theorem aT9 {x y : List Nd} {n : Nd} (W : Fits w h) (hc : n.cvr w h = true) (nd : (Nd.nmss (x ++ n :: y)).Nodup) (C : ∀ d ∈ Nd.nmss (x ++ n :: y),d ∈ K → d ∈ Nd.gls w h x.length 0 (x ++ n :: y)) : n.nm ∉ K ∧ (∀ d ∈ Nd.nmss n.inn,d ∈ K → d ∈ n.gl w h) ∧ ∀ d ∈ Nd.nmss y,d ∈ K → d ∈ Nd.gls w h x.length (x.length + 1) y:=by
 rw [aE7 w h x.length x (n :: y) 0 (by omega),Nat.zero_add,E1] at C
 rw [E1] at nd
 obtain ⟨_,nd2,dj⟩:=List.nodup_append.mp nd
 have xs : ∀ d ∈ x.map Nd.nm,d ∈ Nd.nmss x:=fun d hd=>by
  obtain ⟨m,hm,rfl⟩:=List.mem_map.mp hd
  exact Z1 hm (U5 m)
 have C2 : ∀ d ∈ Nd.nmss (n :: y),d ∈ K → d ∈ Nd.gls w h x.length x.length (n :: y):=fun d hd hk=>by
  rcases List.mem_append.mp (C d (List.mem_append_right _ hd) hk) with q | q
  ·exact absurd rfl (dj d (xs d q) d hd)
  ·exact q
 obtain ⟨c1,c2⟩:=be7 nd2 C2
 rw [Nd.nmss] at nd2
 obtain ⟨e1,e2⟩:=ba7 (List.nodup_append.mp nd2).1 c1
 refine ⟨fun hk=>?_,e2,c2⟩
 have z:=e1 hk
 rw [decide_eq_false (Nat.lt_irrefl _),be5 W hc] at z
 cases z
theorem bT4 (W : Fits w h) (hp : p ∈ plc w (w * h)) {l : List Nd} (o : Nd.Oks l) (hd : Nd.dps l ≤ 3) (hw : Nd.wgs l ≤ 800) (nd : (Nd.nmss l).Nodup) (C : ∀ d ∈ Nd.nmss l,d ∈ K → d ∈ Nd.gls w h (R5 w h l) 0 l) (H : ∀ n ∈ l,(∀ d ∈ Nd.nmss n.inn,d ∈ K → d ∈ n.gl w h) → ∀ q,Nd.ab p.1 p.2 (n.wk K) q = Nd.ab p.1 p.2 n q) : Nd.sw p.1 p.2 (Nd.wks K l) q0 = Nd.sw p.1 p.2 l q0:=by
 rcases aE6 w h l 0 0 with ⟨_,h2⟩ | ⟨x,n,y,rfl,hc,_,h3⟩
 ·have h2 : R5 w h l = 0:=h2
  rw [h2] at C
  exact bc2 hp l 0 q0 1 (Nat.le_refl _) o (Dq.zero 0) (by omega) nd C H
 ·have h3 : R5 w h (x ++ n :: y) = x.length:=by unfold R5; rw [h3,Nat.zero_add]
  rw [h3] at C
  obtain ⟨e0,e1,e2⟩:=aT9 W hc nd C
  rw [E1,Nd.nmss] at nd
  have nd2:=(List.nodup_append.mp (List.nodup_append.mp nd).2.1).2.1
  have oks:=(S9 _).mp o
  rw [S8,Nd.wgs] at hw
  rw [X3,Nd.dps] at hd
  have on:=oks n (by simp)
  have br:=(cg4 (be6 hc hp q0).2.2 on (by omega) (by omega) p.1 p.2).2
  rw [aX8,Nd.wks,cc3 e0,if_neg (by simp),bq6,bq6,Nd.sw,Nd.sw,H n (by simp) e1,(be6 hc hp _).1,(be6 hc hp _).1]
  exact bc2 hp y (x.length + 1) _ n.wg (by omega) ((S9 y).mpr fun m hm=>oks m (by simp [hm])) br (by omega) nd2 e2 fun m hm=>H m (by simp [hm])
theorem cS9 (W : Fits w h) (hp : p ∈ plc w (w * h)) : ∀ (k : Nat) (n : Nd),n.dp ≤ k → k ≤ 3 → n.Ok → n.wg ≤ 800 → n.nms.Nodup → (∀ d ∈ Nd.nmss n.inn,d ∈ K → d ∈ n.gl w h) → ∀ q,Nd.ab p.1 p.2 (n.wk K) q = Nd.ab p.1 p.2 n q:=by
 intro k
 induction k with
 | zero =>
  intro n hd _ _ _ _ _ q
  cases n with
  | layer=>rw [Nd.wk]
  | tone=>rw [Nd.wk]
  | group=>rw [Nd.dp] at hd; omega
 | succ k ih =>
  intro n hd hk o hw nd C q
  cases n with
  | layer=>rw [Nd.wk]
  | tone=>rw [Nd.wk]
  | group nm m s sh ns =>
   rw [Nd.dp] at hd
   rw [Nd.Ok] at o
   rw [Nd.wg] at hw
   rw [Nd.nms] at nd
   have nd:=(List.nodup_cons.mp nd).2
   have C : ∀ d ∈ Nd.nmss ns,d ∈ K → d ∈ Nd.gls w h (R5 w h ns) 0 ns:=fun d hd' hk'=>by
    have:=C d hd' hk'
    rwa [Nd.gl] at this
   have T:=ao1 o.2 (by omega) (by omega) (Nat.le_trans (aN8 ns) (by omega))
   have e:=bT4 W hp o.2 (by omega) (by omega) nd C fun n' hn' c q'=>ih n' (by have:=S1 hn'; omega) (by omega) (T.ok n' hn') (T.wg n' hn') (aE3 nd hn') c q'
   rw [Nd.wk,Nd.ab,Nd.ab,e]
theorem bS7 (W : Fits w h) (hp : p ∈ plc w (w * h)) {l : List Nd} (o : Nd.Oks l) (hd : Nd.dps l ≤ 3) (hw : Nd.wgs l ≤ 800) (nd : (Nd.nmss l).Nodup) (C : ∀ d ∈ Nd.nmss l,d ∈ K → d ∈ Nd.gls w h (R5 w h l) 0 l) : Nd.sw p.1 p.2 (Nd.wks K l) q0 = Nd.sw p.1 p.2 l q0:=by
 have T:=ao1 o hd hw (Nat.le_trans (aN8 l) (by omega))
 exact bT4 W hp o hd hw nd C fun n hn c q=>cS9 W hp 3 n (T.dp n hn) (Nat.le_refl _) (T.ok n hn) (T.wg n hn) (aE3 nd hn) c q
theorem cS8 (W : Fits w h) (hp : p ∈ plc w (w * h)) {n : Nd} (hd : n.dp ≤ 3) (o : n.Ok) (hw : n.wg ≤ 800) (nd : n.nms.Nodup) (C : ∀ d ∈ Nd.nmss n.inn,d ∈ K → d ∈ n.gl w h) : (n.wk K).br p.1 p.2 = n.br p.1 p.2:=by
 cases n with
 | layer=>rw [Nd.wk]
 | tone=>rw [Nd.wk]
 | group nm m s sh ns =>
  rw [Nd.dp] at hd
  rw [Nd.Ok] at o
  rw [Nd.wg] at hw
  rw [Nd.nms] at nd
  have e:=bS7 W hp o.2 (by omega) (by omega) (List.nodup_cons.mp nd).2 fun d hd' hk'=>by
   have:=C d hd' hk'
   rwa [Nd.gl] at this
  rw [Nd.wk]
  show (Nd.sw p.1 p.2 (Nd.wks K ns) q0).wt s = (Nd.sw p.1 p.2 ns q0).wt s
  rw [e]
theorem ct6 (n : Nd) : (n.wk K).mn = n.mn ∧ (n.wk K).shB = n.shB ∧ (n.wk K).stg = n.stg ∧ (n.wk K).nm = n.nm:=by
 cases n with
 | layer=>rw [Nd.wk]; exact ⟨rfl,rfl,rfl,rfl⟩
 | tone=>rw [Nd.wk]; exact ⟨rfl,rfl,rfl,rfl⟩
 | group=>rw [Nd.wk]; exact ⟨rfl,rfl,rfl,rfl⟩
theorem ct7 {n : Nd} (e : brL w h (n.wk K) = brL w h n) : (n.wk K).cvr w h = n.cvr w h ∧ (n.wk K).nth w h = n.nth w h:=by
 obtain ⟨e1,e2,e3,_⟩:=ct6 (K:=K) n
 unfold Nd.cvr Nd.nth
 rw [e1,e2,e3,e]
 exact ⟨rfl,rfl⟩
theorem bu1 {lo : Nat} : ∀ (l : List Nd) (j : Nat),lo ≤ j → (Nd.nmss l).Nodup → (∀ d ∈ Nd.nmss l,d ∈ K → d ∈ Nd.gls w h lo j l) → (∀ d ∈ Nd.gls w h lo j l,d ∈ K) → (∀ n ∈ l,(∀ d ∈ Nd.nmss n.inn,d ∈ K → d ∈ n.gl w h) → (∀ d ∈ n.gl w h,d ∈ K) → (n.wk K).gl w h = [] ∧ brL w h (n.wk K) = brL w h n) → ∀ m ∈ Nd.wks K l,m.nth w h = false ∧ m.gl w h = [] ∧ ∃ n ∈ l,m.cvr w h = n.cvr w h
 | [],_,_,_,_,_,_=>fun m hm=>by rw [Nd.wks] at hm; simp at hm
 | n :: r,j,hj,nd,C,C',H=>by
  obtain ⟨c1,c2⟩:=be7 nd C
  rw [Nd.nmss] at nd
  obtain ⟨nd1,nd2,_⟩:=List.nodup_append.mp nd
  obtain ⟨e1,e2⟩:=ba7 nd1 c1
  rw [Nd.gls] at C'
  have ih:=bu1 r (j + 1) (by omega) nd2 c2 (fun d hd=>C' d (List.mem_append_right _ hd)) fun m hm=>H m (List.mem_cons_of_mem _ hm)
  rw [Nd.wks]
  cases k : inK K n.nm with
  | true =>
   rw [if_pos rfl]
   intro m hm
   obtain ⟨a,b,n',hn',c⟩:=ih m hm
   exact ⟨a,b,n',List.mem_cons_of_mem _ hn',c⟩
  | false =>
   rw [if_neg (by simp)]
   have nk:=bB4 k
   have z : (decide (j < lo) || n.nth w h) = false:=by
    cases z : (decide (j < lo) || n.nth w h) with
    | false=>rfl
    | true=>exact absurd (C' n.nm (List.mem_append_left _ (by rw [if_pos z]; exact List.mem_singleton.mpr rfl))) nk
   obtain ⟨g1,g2⟩:=H n (List.mem_cons_self ..) e2 fun d hd=>C' d (List.mem_append_left _ (by rw [if_neg (by rw [z]; simp)]; exact hd))
   intro m hm
   rcases List.mem_cons.mp hm with rfl | hm
   ·obtain ⟨q1,q2⟩:=ct7 g2
    refine ⟨?_,g1,n,List.mem_cons_self ..,q1⟩
    rw [q2]
    exact (Bool.or_eq_false_iff.mp z).2
   ·obtain ⟨a,b,n',hn',c⟩:=ih m hm
    exact ⟨a,b,n',List.mem_cons_of_mem _ hn',c⟩
theorem bd2 : ∀ (l : List Nd) (j : Nat),(∀ m ∈ l,m.nth w h = false ∧ m.gl w h = []) → Nd.gls w h 0 j l = []
 | [],_,_=>by rw [Nd.gls]
 | n :: r,j,H=>by
  obtain ⟨a,b⟩:=H n (List.mem_cons_self ..)
  rw [Nd.gls,decide_eq_false (Nat.not_lt_zero j),a,b,bd2 r (j + 1) fun m hm=>H m (List.mem_cons_of_mem _ hm)]; rfl
theorem bz7 : ∀ l : List Nd,(∀ d ∈ l.map Nd.nm,d ∈ K) → Nd.wks K l = []
 | [],_=>by rw [Nd.wks]
 | n :: r,H=>by rw [Nd.wks,cv4 (H n.nm (by simp)),if_pos rfl,bz7 r fun d hd=>H d (by simp only [xmc]; exact List.mem_cons_of_mem _ hd)]
theorem bT5 (W : Fits w h) {l : List Nd} (nd : (Nd.nmss l).Nodup) (C : ∀ d ∈ Nd.nmss l,d ∈ K → d ∈ Nd.gls w h (R5 w h l) 0 l) (C' : ∀ d ∈ Nd.gls w h (R5 w h l) 0 l,d ∈ K) (H : ∀ n ∈ l,(∀ d ∈ Nd.nmss n.inn,d ∈ K → d ∈ n.gl w h) → (∀ d ∈ n.gl w h,d ∈ K) → (n.wk K).gl w h = [] ∧ brL w h (n.wk K) = brL w h n) : Nd.gls w h (R5 w h (Nd.wks K l)) 0 (Nd.wks K l) = []:=by
 rcases aE6 w h l 0 0 with ⟨h1,h2⟩ | ⟨x,n,y,rfl,hc,hy,h3⟩
 ·have h2 : R5 w h l = 0:=h2
  rw [h2] at C C'
  have G:=bu1 l 0 (Nat.le_refl _) nd C C' H
  have z : R5 w h (Nd.wks K l) = 0:=aO5 w h _ 0 0 fun m hm=>by
   obtain ⟨_,_,n,hn,c⟩:=G m hm
   rw [c]; exact h1 n hn
  rw [z]
  exact bd2 _ 0 fun m hm=>⟨(G m hm).1,(G m hm).2.1⟩
 ·have h3 : R5 w h (x ++ n :: y) = x.length:=by unfold R5; rw [h3,Nat.zero_add]
  rw [h3] at C C'
  obtain ⟨e0,e1,e2⟩:=aT9 W hc nd C
  rw [aE7 w h x.length x (n :: y) 0 (by omega),Nat.zero_add,Nd.gls,decide_eq_false (Nat.lt_irrefl _),be5 W hc] at C'
  rw [E1,Nd.nmss] at nd
  have nd2:=(List.nodup_append.mp (List.nodup_append.mp nd).2.1).2.1
  obtain ⟨g1,g2⟩:=H n (by simp) e1 fun d hd=>C' d (List.mem_append_right _ (List.mem_append_left _ hd))
  obtain ⟨q1,q2⟩:=ct7 g2
  have G:=bu1 y (x.length + 1) (by omega) nd2 e2 (fun d hd=>C' d (List.mem_append_right _ (List.mem_append_right _ hd))) fun m hm=>H m (by simp [hm])
  rw [aX8,bz7 x fun d hd=>C' d (List.mem_append_left _ hd),xna,Nd.wks,cc3 e0,if_neg (by simp)]
  have z : R5 w h (n.wk K :: Nd.wks K y) = 0:=by
   unfold R5
   rw [hiF,q1,hc,if_pos rfl,aO5 w h _ 1 0 fun m hm=>by
    obtain ⟨_,_,n',hn',c⟩:=G m hm
    rw [c]; exact hy n' hn']
  rw [z]
  refine bd2 _ 0 fun m hm=>?_
  rcases List.mem_cons.mp hm with rfl | hm
  ·exact ⟨by rw [q2]; exact be5 W hc,g1⟩
  ·exact ⟨(G m hm).1,(G m hm).2.1⟩
theorem cS7 (W : Fits w h) : ∀ (k : Nat) (n : Nd),n.dp ≤ k → k ≤ 3 → n.Ok → n.wg ≤ 800 → n.nms.Nodup → (∀ d ∈ Nd.nmss n.inn,d ∈ K → d ∈ n.gl w h) → (∀ d ∈ n.gl w h,d ∈ K) → (n.wk K).gl w h = [] ∧ brL w h (n.wk K) = brL w h n:=by
 have br : ∀ n : Nd,n.dp ≤ 3 → n.Ok → n.wg ≤ 800 → n.nms.Nodup → (∀ d ∈ Nd.nmss n.inn,d ∈ K → d ∈ n.gl w h) → brL w h (n.wk K) = brL w h n:=fun n hd o hw nd C=>by
  unfold brL
  exact List.map_congr_left fun p hp=>cS8 W hp hd o hw nd C
 intro k
 induction k with
 | zero =>
  intro n hd _ _ _ _ _ _
  cases n with
  | layer=>rw [Nd.wk,Nd.gl]; exact ⟨rfl,rfl⟩
  | tone=>rw [Nd.wk,Nd.gl]; exact ⟨rfl,rfl⟩
  | group=>rw [Nd.dp] at hd; omega
 | succ k ih =>
  intro n hd hk o hw nd C C'
  refine ⟨?_,br n (by omega) o hw nd C⟩
  cases n with
  | layer=>rw [Nd.wk,Nd.gl]
  | tone=>rw [Nd.wk,Nd.gl]
  | group nm m s sh ns =>
   rw [Nd.dp] at hd
   rw [Nd.Ok] at o
   rw [Nd.wg] at hw
   rw [Nd.nms] at nd
   rw [Nd.gl] at C C'
   have nd:=(List.nodup_cons.mp nd).2
   have T:=ao1 o.2 (by omega) (by omega) (Nat.le_trans (aN8 ns) (by omega))
   rw [Nd.wk,Nd.gl]
   exact bT5 W nd C C' fun n' hn' c c'=>ih n' (by have:=S1 hn'; omega) (by omega) (T.ok n' hn') (T.wg n' hn') (aE3 nd hn') c c'
theorem bK6 (W : Fits w h) {l : List Nd} (o : Nd.Oks l) (hd : Nd.dps l ≤ 3) (hw : Nd.wgs l ≤ 800) (nd : (Nd.nmss l).Nodup) (C : ∀ d ∈ Nd.nmss l,d ∈ K → d ∈ Nd.gls w h (R5 w h l) 0 l) (C' : ∀ d ∈ Nd.gls w h (R5 w h l) 0 l,d ∈ K) : Nd.gls w h (R5 w h (Nd.wks K l)) 0 (Nd.wks K l) = []:=by
 have T:=ao1 o hd hw (Nat.le_trans (aN8 l) (by omega))
 exact bT5 W nd C C' fun n hn c c'=>cS7 W 3 n (T.dp n hn) (Nat.le_refl _) (T.ok n hn) (T.wg n hn) (aE3 nd hn) c c'
mutual
theorem cx4 : ∀ n : Nd,List.Sublist (n.wk K).nms n.nms ∧ ∀ d ∈ Nd.nmss (n.wk K).inn,d ∉ K
 | .layer ..=>by rw [Nd.wk]; exact ⟨List.Sublist.refl _,fun d hd=>by rw [show Nd.inn _ = [] from rfl,Nd.nmss] at hd; simp at hd⟩
 | .tone ..=>by rw [Nd.wk]; exact ⟨List.Sublist.refl _,fun d hd=>by rw [show Nd.inn _ = [] from rfl,Nd.nmss] at hd; simp at hd⟩
 | .group nm m s sh ns=>by
  obtain ⟨i1,i2⟩:=wks_nms ns
  rw [Nd.wk,Nd.nms,Nd.nms]
  exact ⟨i1.cons₂ nm,i2⟩
theorem wks_nms : ∀ l : List Nd,List.Sublist (Nd.nmss (Nd.wks K l)) (Nd.nmss l) ∧ ∀ d ∈ Nd.nmss (Nd.wks K l),d ∉ K
 | []=>by rw [Nd.wks,Nd.nmss]; exact ⟨List.Sublist.refl _,fun d hd=>by simp at hd⟩
 | n :: r=>by
  obtain ⟨i1,i2⟩:=cx4 n
  obtain ⟨j1,j2⟩:=wks_nms r
  rw [Nd.wks,Nd.nmss]
  cases k : inK K n.nm with
  | true=>rw [if_pos rfl]; exact ⟨j1.trans (List.sublist_append_right _ _),j2⟩
  | false =>
   rw [if_neg (by simp),Nd.nmss]
   refine ⟨i1.append j1,fun d hd=>?_⟩
   rcases List.mem_append.mp hd with q | q
   ·rw [av0,(ct6 n).2.2.2] at q
    rcases List.mem_cons.mp q with rfl | q
    ·exact bB4 k
    ·exact i2 d q
   ·exact j2 d q
end
mutual
theorem cY2 : ∀ n : Nd,List.Sublist (n.gl w h) (Nd.nmss n.inn)
 | .layer ..=>by rw [Nd.gl]; exact List.nil_sublist _
 | .tone ..=>by rw [Nd.gl]; exact List.nil_sublist _
 | .group nm m s sh ns=>by rw [Nd.gl]; exact gls_sl ns _ 0
theorem gls_sl : ∀ (l : List Nd) (lo j : Nat),List.Sublist (Nd.gls w h lo j l) (Nd.nmss l)
 | [],_,_=>by rw [Nd.gls]; exact List.nil_sublist _
 | n :: r,lo,j=>by
  rw [Nd.gls,Nd.nmss]
  refine List.Sublist.append ?_ (gls_sl r lo (j + 1))
  rw [av0]
  split
  ·exact (List.nil_sublist _).cons₂ _
  ·exact (cY2 n).cons _
end
mutual
theorem bS8 : ∀ n : Nd,(n.Ok → (n.wk K).Ok) ∧ (n.wk K).dp ≤ n.dp ∧ (n.wk K).wg ≤ n.wg ∧ (n.off → (n.wk K).off) ∧ (n.thin → (n.wk K).thin)
 | .layer ..=>by rw [Nd.wk]; exact ⟨id,Nat.le_refl _,Nat.le_refl _,id,id⟩
 | .tone ..=>by rw [Nd.wk]; exact ⟨id,Nat.le_refl _,Nat.le_refl _,id,id⟩
 | .group nm m s sh ns=>by
  obtain ⟨i1,i2,i3,i4,i5,i6⟩:=wks_props ns
  rw [Nd.wk,Nd.Ok,Nd.Ok,Nd.dp,Nd.dp,Nd.wg,Nd.wg,Nd.off,Nd.off,Nd.thin,Nd.thin]
  exact ⟨fun z=>⟨z.1,i1 z.2⟩,by omega,by omega,fun z=>⟨Nat.le_trans i6 z.1,i4 z.2⟩,fun z=>⟨Nat.le_trans i6 z.1,i5 z.2⟩⟩
theorem wks_props : ∀ l : List Nd,(Nd.Oks l → Nd.Oks (Nd.wks K l)) ∧ Nd.dps (Nd.wks K l) ≤ Nd.dps l ∧ Nd.wgs (Nd.wks K l) ≤ Nd.wgs l ∧ (Nd.offs l → Nd.offs (Nd.wks K l)) ∧ (Nd.thins l → Nd.thins (Nd.wks K l)) ∧ (Nd.wks K l).length ≤ l.length
 | []=>by rw [Nd.wks]; exact ⟨id,Nat.le_refl _,Nat.le_refl _,id,id,Nat.le_refl _⟩
 | n :: r=>by
  obtain ⟨i1,i2,i3,i4,i5⟩:=bS8 n
  obtain ⟨j1,j2,j3,j4,j5,j6⟩:=wks_props r
  rw [Nd.wks,Nd.Oks,Nd.dps,Nd.wgs,Nd.offs,Nd.thins,List.length_cons]
  cases k : inK K n.nm with
  | true=>rw [if_pos rfl]; exact ⟨fun z=>j1 z.2,by omega,by omega,fun z=>j4 z.2,fun z=>j5 z.2,by omega⟩
  | false =>
   rw [if_neg (by simp),Nd.Oks,Nd.dps,Nd.wgs,Nd.offs,Nd.thins,List.length_cons]
   exact ⟨fun z=>⟨i1 z.1,j1 z.2⟩,by omega,by omega,fun z=>⟨i4 z.1,j4 z.2⟩,fun z=>⟨i5 z.1,j5 z.2⟩,by omega⟩
end
mutual
theorem bJ6 (c e : List Nd) : ∀ n : Nd,∀ d ∈ n.nms,∃ a n' b,Stands a n' b (c ++ n :: e) ∧ n'.nm = d
 | .layer nm m s sh lf tp mk w h l kb,d,hd=>by
  rw [Nd.nms] at hd
  exact ⟨c,_,e,.top,(List.mem_singleton.mp hd).symm⟩
 | .tone nm r s sh,d,hd=>by
  rw [Nd.nms] at hd
  exact ⟨c,_,e,.top,(List.mem_singleton.mp hd).symm⟩
 | .group nm m s sh ns,d,hd=>by
  rw [Nd.nms] at hd
  rcases List.mem_cons.mp hd with q | q
  ·exact ⟨c,_,e,.top,q.symm⟩
  ·obtain ⟨a,n',b,st,en⟩:=nms_stands [] ns d q
   exact ⟨a,n',b,.deep st,en⟩
theorem nms_stands (c : List Nd) : ∀ l : List Nd,∀ d ∈ Nd.nmss l,∃ a n' b,Stands a n' b (c ++ l) ∧ n'.nm = d
 | [],d,hd=>by rw [Nd.nmss] at hd; simp at hd
 | n :: r,d,hd=>by
  rw [Nd.nmss] at hd
  rcases List.mem_append.mp hd with q | q
  ·exact bJ6 c r n d q
  ·have:=nms_stands (c ++ [n]) r d q
   rwa [List.append_assoc] at this
end
theorem am5 (lo : Nat) {n : Nd} {y : List Nd} {d : D} (hd : d ∈ n.nms) : ∀ (x : List Nd) (j : Nat),(Nd.nmss (x ++ n :: y)).Nodup → d ∈ Nd.gls w h lo j (x ++ n :: y) → d ∈ ctr w h lo (j + x.length) n
 | [],j,nd,hg=>by
  rw [xna,Nd.nmss] at nd
  rw [xna,Nd.gls] at hg
  rcases List.mem_append.mp hg with q | q
  ·exact q
  ·exact absurd rfl ((List.nodup_append.mp nd).2.2 d hd d ((gls_sub w h y lo (j + 1)).2 d q))
 | m :: x,j,nd,hg=>by
  rw [xca,Nd.nmss] at nd
  rw [xca,Nd.gls] at hg
  obtain ⟨_,nd2,dj⟩:=List.nodup_append.mp nd
  rw [List.length_cons,show j + (x.length + 1) = j + 1 + x.length by omega]
  rcases List.mem_append.mp hg with q | q
  ·exact absurd rfl (dj d (bD8 w h lo j m d q) d (by rw [E1,Nd.nmss]; exact List.mem_append_right _ (List.mem_append_left _ hd)))
  ·exact am5 lo hd x (j + 1) nd2 q
theorem cj2 {a b l : List Nd} {n : Nd} (st : Stands a n b l) : ∀ (lo : Nat),(Nd.nmss l).Nodup → n.nm ∈ Nd.gls w h lo 0 l → ∀ e ∈ Nd.nmss n.inn,e ∉ Nd.gls w h lo 0 l:=by
 induction st with
 | top =>
  intro lo nd hn e he hg
  have h1:=am5 lo (U5 n) a 0 nd hn
  have h2:=am5 lo (d:=e) (by rw [av0]; exact List.mem_cons_of_mem _ he) a 0 nd hg
  have ndn:=aE3 nd (show n ∈ a ++ n :: b by simp)
  rw [av0] at ndn
  have ndn:=List.nodup_cons.mp ndn
  unfold ctr at h1 h2
  split at h1
  ·rename_i z
   rw [if_pos z] at h2
   rw [List.mem_singleton.mp h2] at he
   exact ndn.1 he
  ·exact ndn.1 (cd2 w h n _ h1)
 | @deep c e' nm m s sh ns st ih =>
  intro lo nd hn e he hg
  have in1:=st.nm n.nm (U5 n)
  have in2:=st.nm e (by rw [av0]; exact List.mem_cons_of_mem _ he)
  have ndn:=aE3 nd (show Nd.group nm m s sh ns ∈ c ++ Nd.group nm m s sh ns :: e' by simp)
  have h1:=am5 lo (n:=.group nm m s sh ns) (d:=n.nm) (by rw [Nd.nms]; exact List.mem_cons_of_mem _ in1) c 0 nd hn
  have h2:=am5 lo (n:=.group nm m s sh ns) (d:=e) (by rw [Nd.nms]; exact List.mem_cons_of_mem _ in2) c 0 nd hg
  rw [Nd.nms] at ndn
  have ndn:=List.nodup_cons.mp ndn
  unfold ctr at h1 h2
  split at h1
  ·have : n.nm = nm:=List.mem_singleton.mp h1
   rw [this] at in1
   exact ndn.1 in1
  ·rename_i z
   rw [if_neg z,Nd.gl] at h2
   rw [Nd.gl] at h1
   exact ih (R5 w h ns) ndn.2 h1 e he h2
theorem bY6 {a b l : List Nd} {n : Nd} (hn : X0 n.nm) (St : Stands a n b l) (hd : Nd.dps l ≤ 4) (hs : ∀ d ∈ Nd.nmss l,X0 d) (nd : (Nd.nmss l).Nodup) : Z9 [B6 w h l,n.nm] = some n.d:=by
 have P:=St.props
 have nda:=P.nd nd
 rw [E1,Nd.nmss] at nda
 have e0:=cj0 hn St 12 (by omega) hs nd
 have e1:=bj7 (b:=b) (fun n' hn'=>hs _ (P.sub _ (Z1 (List.mem_append_left _ hn') (U5 n')))) hn fun n' hn' e=>(List.nodup_append.mp nda).2.2 _ (Z1 hn' (U5 n')) _ (List.mem_append_left _ (U5 n)) e
 have nbs : Z8 [B6 w h l,n.nm] = some (.tuple (Nd.ds (a ++ n :: b))):=by
  refine B0 (ρ:=[‹B6 w h l›,some (.val n.nm),none]) rfl ?_
  wp_walk using evD,an7,B6,e0,bu5
 have e2 : atI (Nd.ds (a ++ n :: b)) (a.length : Int) = some n.d:=cZ0 (by simp)
 refine B0 (ρ:=[‹B6 w h l›,some (.val n.nm),none]) rfl ?_
 wp_walk using evD,aA0,nbs,e1,e2
end
end Sh
namespace G
open PySem PySem.Spec PyProof.Rows L2
section
variable {X : Cx} {S : Sg} {c : Kx}
theorem W9 {e : Expr} : JE X e dNo:=fun ρ d h=>by cases h
theorem cv0 {e : Expr} : JQ X e qNo:=fun ρ t d h=>by cases h
theorem aV1 {e : Expr} : JN X e aNo:=fun ρ d h=>by cases h
theorem bC6 {e : Expr} : JT X e tNo:=fun ρ d h=>by cases h
theorem cX2 {e : Expr} : JW X e tNo:=fun ρ d h=>by cases h
theorem bl2 {e : Expr} : JG X e gNo:=by
 unfold JG PG
 intros
 rename_i h
 obtain ⟨d,ρ,ρ',H0,Hf,z,_⟩:=h
 cases z
theorem cX8 {es : List Expr} : JA X es aNo:=⟨fun ρ d h=>(nomatch h),fun ρ d h=>(nomatch h)⟩
theorem cK6 {es : List Expr} : JTs X es tNo:=fun pins s σ H Q I ⟨ρ,b,h,_⟩=>by cases h
theorem ao4 (hu : X.A.units + 64 < cLine) : ∀ op : CmpOp,OpD X (compareOp op) (bw8 op)
 | .Lt=>cV9 | .LtE=>cW0 | .Gt=>cW3 | .GtE=>cW4 | .Eq=>cW5 hu | .NotEq=>cV8 hu | .Is=>cW1 | .IsNot=>bX1 | .In=>cW2 | .NotIn=>bX0
theorem bW9 (hu : X.A.units + 64 < cLine) (S : Sg) (c : Kx) (op : CmpOp) (b : Expr) : OpD X (compareOp op) (opW S c op b):=by
 unfold opW
 split
 ·split
  ·exact cI5
  ·exact bH2
  ·exact ao4 hu _
 ·exact ao4 hu op
theorem bl3 {f : Expr → DE} (h : ∀ e,JE X e (f e)) : ∀ es,JA X es (evA f es)
 | []=>cO5
 | e :: es=>by
  unfold evA
  split
  ·rename_i p; exact cq8 (h e) (bl3 h es) (M6 p es _)
  ·exact cX8
theorem bc9 {f : Expr → DE} (h : ∀ e,JE X e (f e)) (op : BoolOp) (pos : Pos) : ∀ vs,JE X (.BoolOp op vs pos) (ce3 f op vs)
 | []=>W9
 | [a]=>cN4 (h a)
 | a :: b :: r=>by
  unfold ce3
  cases op
  ·exact cO2 (h a) (bc9 h .And pos (b :: r))
  ·exact cX5 (h a) (bc9 h .Or pos (b :: r))
theorem bc8 {f : Expr → DT} (h : ∀ e,JT X e (f e)) (op : BoolOp) (pos : Pos) : ∀ vs,JW X (.BoolOp op vs pos) (ce2 f op vs)
 | []=>cX2
 | [a]=>by cases op; exact co1 (h a); exact cK4 (h a)
 | a :: b :: r=>by
  unfold ce2
  cases op
  ·exact cK5 (h a) (bc8 h .And pos (b :: r))
  ·exact cX1 (h a) (bc8 h .Or pos (b :: r))
theorem as8 {f : Expr → DE} (h : ∀ e,JE X e (f e)) : ∀ o,JO X o (evO f o)
 | none=>cp2
 | some e=>cp1 (h e)
theorem cK7 {f : Expr → DT} (h : ∀ e,JT X e (f e)) : ∀ l,JTs X l (ce0 f l)
 | []=>co3
 | [t]=>co2 (h t)
 | _ :: _ :: _=>cK6
theorem ca8 {f : Expr → DG} (h : ∀ e,JG X e (f e)) : ∀ es,es.all pl = true → JGs X es (cP5 f es)
 | [],_=>cp7
 | e :: es,p=>by
  simp only [List.all_cons,Bool.and_eq_true] at p
  refine ca9 (h e) (ca8 h es p.2) ?_
  have p1:=p.1
  cases e <;> first | rfl | cases p1
theorem bE5 {env : Env} : ∀ {es : List Expr},es.all pl = true → (assignEach es env).length = es.length ∧ (assignEach es env).findIdx? (·.1) = none
 | [],_=>⟨rfl,rfl⟩
 | e :: es,p=>by
  simp only [List.all_cons,Bool.and_eq_true] at p
  obtain ⟨h1,h2⟩:=bE5 (env:=env) p.2
  have p1:=p.1
  have q : assignEach (e :: es) env = (false,assign e env) :: assignEach es env:=by cases e <;> first | rfl | cases p1
  rw [q]
  refine ⟨by simp [h1],?_⟩
  simp [List.findIdx?_cons,h2]
structure Sound (S : Sg) (r : Ev) : Prop where
 e : ∀ {c X},Fit S c X → ∀ ex,JE X ex (r.e c ex)
 q : ∀ {c X},Fit S c X → ∀ ex,JQ X ex (r.q c ex)
 n : ∀ {c X},Fit S c X → ∀ ex,JN X ex (r.n c ex)
 t : ∀ {c X},Fit S c X → ∀ ex,JT X ex (r.t c ex)
 g : ∀ {c X},Fit S c X → ∀ ex,JG X ex (r.g c ex)
 b : ∀ {c X},Fit S c X → ∀ sts,JSs X sts (r.b c sts)
theorem Fit.hx (F : Fit S c X) : ∀ e s,X.xe e s → False:=fun e s h=>by rw [F.xe] at h; exact h
theorem Fit.po (F : Fit S c X) : PassesOwn (model X.prog X.w) X.A X.env X.xe:=by rw [F.xe]; exact PassesOwn.never
theorem Fit.slot (F : Fit S c X) {x : Str} {i : Nat} (h : av2 x c.N = some i) : X.N[i]? = some x:=by rw [F.N]; exact bl4 h
theorem Fit.inner {tn : List Str} {caps : List Nat} {scope : Scope} {C : Addr} {s0 : Shared} {H0 : Hp} {ex : List Addr} (F : Fit S c X) (hn : (G.inner c tn caps scope).N.Nodup) : Fit S (G.inner c tn caps scope) (K9 X (G.inner c tn caps scope).N scope C s0 H0 ex) :=
 ⟨rfl,by show relabel scope X.env = rl scope c.sc; rw [← F.sc]; rfl,hn,F.calm,rfl,F.units,(fun h=>by cases h),F.fns,F.css,F.bls⟩
variable {r : Ev}
theorem cM6 (R : Sound S r) (F : Fit S c X) (tg a : Expr) {p pos : Pos} (hg : Gl X "reversed") (hm : X.mg "reversed" = none) : JI X tg (.Call (.Name "reversed" p) [a] [] pos) (evR S r c tg a):=by
 unfold evR
 split
 ·split
  ·rename_i h
   simp only [Bool.and_eq_true] at h
   obtain ⟨rfl,h1,h2⟩:=R7 F h.1.1.1
   obtain ⟨rfl,h3,h4⟩:=R7 F h.1.1.2
   have ht:=h.1.2
   cases tg <;> first | (exact cp5 h3 h4 h1 h2 hg hm F.calm (R.e F _) (M6 h.2 _ _)) | (exact nomatch ht)
  ·exact fun ρ ds q=>nomatch q
 ·exact fun ρ ds q=>nomatch q
theorem cv2 (R : Sound S r) (F : Fit S c X) (tg it : Expr) : JI X tg it (evI S r c tg it):=by
 unfold evI
 split
 ·rename_i x p a pos
  split
  ·rename_i h
   obtain ⟨rfl,h1,h2⟩:=R7 F h
   exact cM6 R F tg a h1 h2
  ·split
   ·rename_i h
    simp only [Bool.and_eq_true] at h
    obtain ⟨rfl,h1,h2⟩:=R7 F h.1
    exact bK9 h1 h2 (R.e F a) (M6 h.2 _ _)
   ·split
    ·rename_i h
     simp only [Bool.and_eq_true] at h
     obtain ⟨rfl,h1,h2⟩:=R7 F h.1.1
     have ht:=h.1.2
     cases tg <;> first | (exact cp6 h1 h2 (R.e F a) (M6 h.2 _ _)) | (exact nomatch ht)
    ·exact bu3 (R.e F _)
 ·rename_i x p a b pos
  split
  ·rename_i h
   simp only [Bool.and_eq_true] at h
   obtain ⟨rfl,h1,h2⟩:=R7 F h.1.1
   exact bK8 h1 h2 (R.e F a) (R.e F b) (by rw [M6 h.1.2,M6 h.2]; rfl) (M6 h.2 _ _)
  ·split
   ·rename_i h
    simp only [Bool.and_eq_true] at h
    obtain ⟨rfl,h1,h2⟩:=R7 F h.1.1.1
    have ht:=h.1.1.2
    cases tg <;> first | (exact cM4 h1 h2 (R.e F a) (R.e F b) (by rw [M6 h.1.2,M6 h.2]; rfl) (M6 h.2 _ _)) | (exact nomatch ht)
   ·exact bu3 (R.e F _)
 ·split
  ·exact cM5 (R.e F _)
  ·exact bu3 (R.e F _)
theorem bD9 (R : Sound S r) (F : Fit S c X) {elt tgt iter : Expr} {ifs : List Expr} {scope : Scope} {caps : List Nat}
  (h : (aK6 c.N (G.inner c (u6 tgt) caps scope).N (u6 tgt).length caps c.sc scope && aE2 (G.inner c (u6 tgt) caps scope).N && pl iter) = true) :
  CompSc X (G.inner c (u6 tgt) caps scope).N (u6 tgt).length caps scope ∧ JI X tgt iter (evI S r c tgt iter) ∧ (∀ C s0 H0 ex,JG (K9 X (G.inner c (u6 tgt) caps scope).N scope C s0 H0 ex) tgt (r.g (G.inner c (u6 tgt) caps scope) tgt)) ∧
  (∀ C s0 H0 ex,JTs (K9 X (G.inner c (u6 tgt) caps scope).N scope C s0 H0 ex) ifs (ce0 (r.t (G.inner c (u6 tgt) caps scope)) ifs)) ∧ (∀ C s0 H0 ex,JE (K9 X (G.inner c (u6 tgt) caps scope).N scope C s0 H0 ex) elt (r.e (G.inner c (u6 tgt) caps scope) elt)) ∧
  ∀ x,foldedSetIterable iter X.env x = pure x:=by
 simp only [Bool.and_eq_true] at h
 obtain ⟨⟨h1,h2⟩,h3⟩:=h
 have hn:=aE1 h2
 exact ⟨bO2 h1 F.N F.sc,cv2 R F tgt iter,fun C s0 H0 ex=>R.g (F.inner hn) tgt,fun C s0 H0 ex=>cK7 (R.t (F.inner hn)) ifs,fun C s0 H0 ex=>R.e (F.inner hn) elt,bA8 h3 _⟩
theorem cX4 (R : Sound S r) (F : Fit S c X) (ex : Expr) : JN X ex (evC S r c ex):=by
 unfold evC
 split
 ·rename_i elt tgt iter ifs scope pos
  dsimp only
  split
  ·rename_i h
   obtain ⟨h1,h2,h3,h4,h5,h6⟩:=bD9 (ifs:=ifs) (elt:=elt) R F h
   exact cp4 h1 F.hx h2 h3 h4 h5 F.calm h6
  ·exact aV1
 ·exact aV1
theorem bF4 {x : Str} {T : String} (h : cx7 x = some T) : bootBuiltins x = some (.type T) ∧ x ≠ "__name__" ∧ (x == ("__debug__" : Str)) = false:=by
 unfold cx7 at h
 split at h
 ·rename_i e; cases h; simp only [beq_iff_eq] at e; subst e; exact ⟨bx2,by decide,by decide⟩
 ·split at h
  ·rename_i e; cases h; simp only [beq_iff_eq] at e; subst e; exact ⟨cs7,by decide,by decide⟩
  ·split at h
   ·rename_i e; cases h; simp only [beq_iff_eq] at e; subst e; exact ⟨cg8,by decide,by decide⟩
   ·split at h
    ·rename_i e; cases h; simp only [beq_iff_eq] at e; subst e; exact ⟨bo0,by decide,by decide⟩
    ·split at h
     ·rename_i e; cases h; simp only [beq_iff_eq] at e; subst e; exact ⟨bE4,by decide,by decide⟩
     ·cases h
theorem bA9 {e : Expr} (h : pl e = true) (pos : Pos) (env : Env) : (backTo pos (starEach [e] env)).any (·.1) = false:=by
 rw [M6 h]; rfl
theorem aM8 (pos : Pos) (env : Env) : ∀ {es : List Expr},es.all pl = true → (starEach es env).any (·.1) = false
 | [],_=>rfl
 | e :: es,h=>by
  simp only [List.all_cons,Bool.and_eq_true] at h
  rw [M6 h.1,List.any_cons,aM8 pos env h.2]; rfl
end
end G
namespace G
open PySem PySem.Spec PyProof.Rows L2
section
variable {X : Cx} {S : Sg} {c : Kx} {r : Ev}
theorem ci6 (R : Sound S r) (F : Fit S c X) (a i : Expr) (pos : Pos) : JE X (.Subscript a i pos) (cx0 r c a i):=by
 unfold cx0
 split
 ·split
  ·exact cb2 (R.e F _) (as8 (R.e F) _) (as8 (R.e F) _)
  ·split
   ·exact cN1 (R.e F _) (as8 (R.e F) _) (as8 (R.e F) _)
   ·split
    ·exact cN2 (R.q F _) (as8 (R.e F) _) (as8 (R.e F) _)
    ·exact cN3 (R.e F _) (as8 (R.e F) _) (as8 (R.e F) _)
 ·exact cq0 (R.e F _) (cb3 cb6)
 ·split
  ·rename_i h
   split
   ·exact cN7 (R.e F _) (R.e F _) (cu4 h)
   ·exact cX6 (R.q F _) (R.e F _) (cu4 h)
  ·exact W9
theorem bF2 (R : Sound S r) (F : Fit S c X) (x : Str) (a : Expr) (p pos : Pos) : JE X (.Call (.Name x p) [a] [] pos) (bp8 S r c x a):=by
 unfold bp8
 split
 ·exact W9
 rename_i hp
 have hp : pl a = true:=by simpa using hp
 have hs:=M6 hp [] X.env
 split
 ·rename_i h
  obtain ⟨rfl,h1,h2⟩:=R7 F h
  split
  ·rename_i y py e ppos
   split
   ·rename_i hy
    simp only [Bool.and_eq_true] at hy
    obtain ⟨rfl,g1,g2⟩:=R7 F hy.1
    exact bL0 h1 h2 g1 g2 (R.q F _) F.calm (M6 hy.2 _ _)
   ·exact cb4 h1 h2 (R.q F _) hs
  ·split
   ·exact cq5 h1 h2 (R.e F a) hs
   ·exact cb4 h1 h2 (R.q F a) hs
 split
 ·rename_i h; obtain ⟨rfl,h1,h2⟩:=R7 F h; exact cp9 h1 h2 (R.q F a) hs
 split
 ·rename_i h; obtain ⟨rfl,h1,h2⟩:=R7 F h; exact cO3 h1 h2 (R.q F a) F.calm hs
 split
 ·rename_i h; obtain ⟨rfl,h1,h2⟩:=R7 F h; exact cb5 h1 h2 (R.e F a) hs
 split
 ·rename_i h; obtain ⟨rfl,h1,h2⟩:=R7 F h; exact cb1 h1 h2 (R.e F a) hs
 split
 ·rename_i h; obtain ⟨rfl,h1,h2⟩:=R7 F h; exact cO4 h1 h2 (R.e F a) hs
 split
 ·rename_i h; obtain ⟨rfl,h1,h2⟩:=R7 F h; exact cq1 h1 h2 (R.q F a) F.calm hs
 split
 ·rename_i h; obtain ⟨rfl,h1,h2⟩:=R7 F h; exact cq3 h1 h2 (R.q F a) F.calm hs
 exact W9
theorem bF1 (R : Sound S r) (F : Fit S c X) (x : Str) (a b : Expr) (p pos : Pos) : JE X (.Call (.Name x p) [a,b] [] pos) (bp7 S r c x a b):=by
 unfold bp7
 split
 ·exact W9
 rename_i hp
 have hp : pl a = true:=by simpa using hp
 split
 ·rename_i h
  obtain ⟨rfl,h1,h2⟩:=R7 F h
  split
  ·rename_i y py
   split
   ·rename_i T hT
    split
    ·rename_i hy
     obtain ⟨_,g1,g2⟩:=R7 F hy
     obtain ⟨t1,t2,t3⟩:=bF4 hT
     exact cN8 h1 h2 g1 g2 t1 (R.e F a) t2 t3 (M6 hp _ _) rfl rfl
    ·exact W9
   ·exact W9
  ·exact W9
 split
 ·exact W9
 rename_i hb
 have hb : pl b = true:=by simpa using hb
 split
 ·rename_i h; obtain ⟨rfl,h1,h2⟩:=R7 F h; exact cq2 h1 h2 (R.e F a) (R.e F b) F.calm (M6 hp _ _) (M6 hb _ _) (bA9 hb pos _)
 split
 ·rename_i h; obtain ⟨rfl,h1,h2⟩:=R7 F h; exact cq4 h1 h2 (R.e F a) (R.e F b) F.calm (M6 hp _ _) (M6 hb _ _) (bA9 hb pos _)
 exact W9
theorem bo7 (pos : Pos) : ∀ l : List (Bool × Sem Value),(backTo pos l).any (·.1) = l.any (·.1)
 | []=>rfl
 | (b,t) :: r=>by
  have ih:=bo7 pos r
  unfold backTo at ih ⊢
  rw [xmc,List.any_cons,List.any_cons,ih]
theorem bS3 (R : Sound S r) (F : Fit S c X) (x : Str) (args : List Expr) (p pos : Pos) : JE X (.Call (.Name x p) args [] pos) (bS4 S r c x args (.Call (.Name x p) args [] pos)):=by
 unfold bS4
 split
 ·rename_i Fn n hl
  split
  ·rename_i h
   simp only [Bool.and_eq_true,beq_iff_eq] at h
   obtain ⟨⟨hg,hn⟩,hp⟩:=h
   obtain ⟨g1,g2⟩:=bd3 F hg
   obtain ⟨k,f,fd,ps,hk,hr,hm,hkp,hb⟩:=F.fns _ _ _ hl
   cases args with
   | nil=>cases hn; exact cb8 hk hr g1 hm hkp hb g2
   | cons e es =>
    simp only [List.all_cons,Bool.and_eq_true] at hp
    exact cq7 hk hr g1 hm hkp hb (bl3 (R.e F) (e :: es)) hn g2 (M6 hp.1 _ _) ((bo7 pos _).trans (aM8 pos _ hp.2))
  ·exact W9
 ·split
  ·split
   ·exact aO0 (R.n F _)
   ·exact bF2 R F _ _ _ _
  ·exact bF1 R F _ _ _ _ _
  ·exact W9
theorem cS5 (R : Sound S r) (F : Fit S c X) (ex : Expr) : JE X ex (xE S r c ex):=by
 have hu:=F.units
 unfold xE
 split
 ·exact cN6
 ·exact cX7
 ·exact cb6
 ·exact cN0
 ·split
  ·rename_i i h
   split
   ·rename_i v; obtain ⟨h1,h2,h3⟩:=aJ2 F v; exact cM8 i (F.slot h) h1 h2 h3
   ·exact W9
  ·split
   ·rename_i d hd
    split
    ·rename_i g; obtain ⟨u,k1,k2⟩:=F.css _ _ hd; obtain ⟨g1,g2⟩:=bd3 F g; exact cO0 k1 g1 k2 g2
    ·exact W9
   ·exact W9
 ·split
  ·rename_i h; exact cM9 (bl3 (R.e F) _) h
  ·exact W9
 ·exact aO0 (R.n F _)
 ·exact aO0 (R.n F _)
 ·split
  ·exact ae2 bX2 (R.e F _) (R.e F _)
  ·exact ae2 cm6 (R.e F _) (R.e F _)
 ·exact ae2 cI0 (R.e F _) (R.e F _)
 ·split
  ·exact ae2 bb0 (R.e F _) (R.e F _)
  ·split
   ·split
    ·exact ae2 cm5 (R.e F _) (R.e F _)
    ·exact ae2 bB3 (R.e F _) (R.e F _)
   ·exact ae2 bB3 (R.e F _) (R.e F _)
 ·exact ae2 cI6 (R.e F _) (R.e F _)
 ·exact ae2 cI3 (R.e F _) (R.e F _)
 ·exact ae2 cI1 (R.e F _) (R.e F _)
 ·exact cb3 (R.e F _)
 ·exact cN5 (R.e F _)
 ·split
  ·rename_i h; exact cO1 (bW9 hu S c _ _) (R.e F _) (R.e F _) (aJ7 h _)
  ·exact W9
 ·split
  ·rename_i h; exact cb7 (ao4 hu _) (ao4 hu _) (R.e F _) (R.e F _) (R.e F _) (aJ7 h _)
  ·exact W9
 ·exact bc9 (R.e F) _ _ _
 ·exact cN9 (R.t F _) (R.e F _) (R.e F _)
 ·exact ci6 R F _ _ _
 ·split
  ·rename_i h
   simp only [Bool.and_eq_true,beq_iff_eq] at h
   obtain ⟨⟨⟨hm,hn⟩,hl⟩,hp⟩:=h
   subst hm
   have hs:=M6 hp [] X.env
   exact cq6 (R.e F _) (R.q F _) (bj9 hn _ _ _) (by rw [hs]; rfl) (by simpa using hl) hs
  ·exact W9
 ·exact bS3 R F _ _ _ _
 ·exact W9
theorem cS2 (R : Sound S r) (F : Fit S c X) (ex : Expr) : JQ X ex (xQ S r c ex):=by
 unfold xQ
 split
 ·split
  ·rename_i i h
   split
   ·rename_i v; obtain ⟨h1,h2,h3⟩:=aJ2 F v; exact cM0 i (F.slot h) h1 h2 h3
   ·exact cv0
  ·exact ca7 (R.e F _)
 ·exact cM1 (R.n F _)
 ·exact cM1 (R.n F _)
 ·split
  ·exact cM1 (R.n F _)
  ·exact ca7 (R.e F _)
 ·exact ca7 (R.e F _)
theorem cS3 (R : Sound S r) (F : Fit S c X) (ex : Expr) : JN X ex (xN S r c ex):=by
 unfold xN
 split
 ·split
  ·rename_i h; exact cM2 (bl3 (R.e F) _) h
  ·exact aV1
 ·exact cX4 R F _
 ·split
  ·rename_i h
   simp only [Bool.and_eq_true] at h
   obtain ⟨rfl,h1,h2⟩:=R7 F h.1
   exact cp3 h1 h2 (R.q F _) (M6 h.2 _ _)
  ·exact aV1
 ·exact cM3 (R.q F _) (R.q F _)
 ·exact aV1
theorem cS0 (R : Sound S r) (F : Fit S c X) (ex : Expr) : JT X ex (xT S r c ex):=by
 have hu:=F.units
 unfold xT
 split
 ·split
  ·rename_i h; exact cL0 (bW9 hu S c _ _) (R.e F _) (R.e F _) (aJ7 h _)
  ·exact bC6
 ·split
  ·rename_i h; exact ca1 (ao4 hu _) (ao4 hu _) (R.e F _) (R.e F _) (R.e F _) (aJ7 h _)
  ·exact bC6
 ·exact ca0 (bc8 (R.t F) _ _ _)
 ·exact cK9 (R.t F _)
 ·split
  ·rename_i h; exact cK8 (R.e F _) (bW0 h _)
  ·exact bC6
theorem cS4 (R : Sound S r) (F : Fit S c X) (ex : Expr) : JG X ex (xG r c ex):=by
 unfold xG
 split
 ·split
  ·rename_i i h
   split
   ·rename_i v; obtain ⟨h1,h2⟩:=bC3 F v; exact cp8 i (by rw [F.N]; exact F.nd) (F.slot h) h1 h2
   ·exact bl2
  ·exact bl2
 ·split
  ·rename_i h
   obtain ⟨h1,h2⟩:=bE5 (env:=X.env) h
   exact cM7 (ca8 (R.g F) _ h) F.calm h1 h2
  ·exact bl2
 ·exact bl2
theorem bC7 {st : Stmt} {f : DS} (h : ∀ ρ,f ρ = none) : JS X st f:=fun ρ fl q=>by rw [h ρ] at q; cases q
theorem cg7 (F : Fit S c X) (h : c.df = true) : X.env.blockKind = .function:=by
 unfold Env.blockKind
 rw [F.sc,(F.df h).2]; rfl
theorem aU1 (elt : Expr) (gens : List Comprehension) (sc : Scope) (pv p' : Pos) (x : Str) (l : Nat) (env : Env) : swapsWith (.ListComp elt gens sc pv) (some (.Name x p')) l env =
  pure (env.blockKind == .function && env.kindOf x == some .local && p'.line == pv.line && !(sc.names.any fun (n,k)=>n == x && (k == .local || k == .cell))):=rfl
theorem bC8 (R : Sound S r) (F : Fit S c X) {x : Str} {p' pv p : Pos} {elt : Expr} {gens : List Comprehension} {sc : Scope} {i : Nat} (hi : av2 x c.N = some i) (hl : (c.sc.names.lookup x == some .local) = true)
  (h : (c.df && p'.line == pv.line && !(sc.names.any fun (n,k)=>n == x && (k == .local || k == .cell))) = true) :
  JS X (.Assign [.Name x p'] (.ListComp elt gens sc pv) p) (ae0 i (evC S r c (.ListComp elt gens sc pv))) ∧ JS X (.Assign [.Name x p'] (.ListComp elt gens sc pv) p) (R0 i (evC S r c (.ListComp elt gens sc pv))):=by
 unfold evC
 simp only [Bool.and_eq_true] at h
 have hl' : X.env.scope.names.lookup x = some .local:=by rw [F.sc]; simpa using hl
 have hsw : swapsWith (.ListComp elt gens sc pv) (some (.Name x p')) p.line X.env = pure true:=by
  rw [aU1,cg7 F h.1.1,h.1.2,h.2]
  unfold Env.kindOf
  rw [hl']; rfl
 split
 ·rename_i elt tgt iter ifs scope pos he
  cases he
  dsimp only
  split
  ·rename_i hc
   obtain ⟨h1,h2,h3,h4,h5,h6⟩:=bD9 (ifs:=ifs) (elt:=elt) R F hc
   exact ⟨co7 i (by rw [F.N]; exact F.nd) h1 F.hx h2 h3 h4 h5 (F.slot hi) hl' hsw F.calm h6,co9 i (by rw [F.N]; exact F.nd) h1 F.hx h2 h3 h4 h5 (F.slot hi) hl' hsw F.calm h6⟩
  ·exact ⟨bC7 fun ρ=>rfl,bC7 fun ρ=>rfl⟩
 ·exact ⟨bC7 fun ρ=>rfl,bC7 fun ρ=>rfl⟩
theorem ci8 (R : Sound S r) (F : Fit S c X) (tg v : Expr) (p : Pos) : JS X (.Assign [tg] v p) (cx2 S r c tg v p):=by
 have nd : X.N.Nodup:=by rw [F.N]; exact F.nd
 unfold cx2
 split
 ·rename_i x p'
  split
  ·exact O6
  ·rename_i i hi
   split
   ·exact O6
   ·rename_i hlo
    have hlo : bZ5 c x = true:=by simpa using hlo
    obtain ⟨l1,l2⟩:=bC3 F hlo
    split
    ·rename_i elt gens sc pv
     split
     ·rename_i hl
      split
      ·rename_i h
       split
       ·exact (bC8 R F hi hl h).1
       ·exact (bC8 R F hi hl h).2
      ·exact O6
     ·rename_i hl
      refine ca4 i nd (R.e F _) (F.slot hi) l1 ?_ l2
      rw [aU1]
      have : (X.env.kindOf x == some .local) = false:=by
       unfold Env.kindOf
       rw [F.sc]; simpa using hl
      rw [this,Bool.and_false]; rfl
    ·split
     ·exact O6
     ·rename_i hc
      have hc : isC v = false:=by simpa using hc
      split
      ·exact cL4 i nd (R.n F _) (F.slot hi) l1 (aN5 hc _ _ _) l2
      ·exact ca4 i nd (R.e F _) (F.slot hi) l1 (aN5 hc _ _ _) l2
 ·split
  ·exact O6
  ·rename_i i hi
   split
   ·rename_i h
    simp only [Bool.and_eq_true,Bool.not_eq_true'] at h
    obtain ⟨h1,h2,h3⟩:=aJ2 F h.1
    exact cL1 i (R.n F _) (as8 (R.e F) _) (as8 (R.e F) _) (F.slot hi) h1 h2 h3 (aN5 h.2 _ _ _)
   ·exact O6
 ·rename_i x px y py kt pt
  split
  ·rename_i a b k2 p2
   split
   ·rename_i i j hi hj
    split
    ·rename_i h
     unfold cV2 at h
     simp only [Bool.and_eq_true,Bool.not_eq_true',beq_iff_eq] at h
     obtain ⟨⟨⟨⟨⟨⟨⟨⟨hd,ha⟩,hb⟩,hxy⟩,hl⟩,hx⟩,hy⟩,hf⟩,hcs⟩:=h
     have hx' : X.env.scope.names.lookup x = some .local:=by rw [F.sc]; exact hx
     have hy' : X.env.scope.names.lookup y = some .local:=by rw [F.sc]; exact hy
     have hne : i ≠ j:=fun z=>by
      subst z
      have:=(F.slot hi).symm.trans (F.slot hj)
      cases this
      simp at hxy
     refine cL3 nd (bl3 (R.e F) [a,b]) ?_ hne (F.slot hi) (F.slot hj) hx' hy' F.calm rfl
     have kx : X.env.kindOf x = some .local:=hx'
     have ky : X.env.kindOf y = some .local:=hy'
     have st : ∀ e : Expr,pl e = true → (match e with | .Starred ..=>true | _=>false) = false:=fun e he=>by cases e <;> first | rfl | cases he
     have sa:=st a ha
     have sb:=st b hb
     have hyx : (y == x) = false:=by
      cases q : (y == x) with
      | false=>rfl
      | true=>simp only [beq_iff_eq] at q; subst q; simp at hxy
     simp only [swappedStores,List.length_cons,List.length_nil,List.head?_cons,xms,Option.getD_some,Expr.pos,List.filterMap_cons,List.filterMap_nil,kx,ky,cg7 F hd,hf,hcs,hl,sa,sb,List.any_cons,List.any_nil]
     simp [List.eraseDups,List.eraseDupsBy,List.eraseDupsBy.loop,hxy,hyx]
     intro z
     rcases z with z | z
     ·cases a <;> first | exact absurd (show false = true from z) Bool.false_ne_true | exact nomatch ha
     ·cases b <;> first | exact absurd (show false = true from z) Bool.false_ne_true | exact nomatch hb
    ·exact O6
   ·exact O6
  ·exact O6
  ·rename_i h1 h2
   refine ca5 (R.e F _) (R.g F _) ?_ ?_ rfl
   ·cases v <;> rfl
   ·cases v <;> first | rfl | exact (h2 _ _ _ rfl).elim
 ·rename_i es kt pt _
  split
  ·exact O6
  ·rename_i h
   refine ca5 (R.e F _) (R.g F _) ?_ ?_ rfl
   ·cases v <;> rfl
   ·cases v <;> first | rfl | skip
    rename_i vs k3 p3
    have h : (es.length == 2 || es.length == 3) = false:=by simpa [bl7] using h
    unfold swappedStores
    simp only [h,xnf,Bool.true_or,if_true]
 ·exact O6
end
end G
namespace G
open PySem PySem.Spec PyProof.Rows L2
section
variable {X : Cx} {S : Sg} {c : Kx} {r : Ev}
theorem ci7 (R : Sound S r) (F : Fit S c X) (x m : Str) (e : Expr) (p apos cpos pos : Pos) (hl : (apos.endLine == cpos.line) = true) : JS X (.Expr (.Call (.Attribute (.Name x p) m apos) [e] [] cpos) pos) (cx1 r c x m e):=by
 unfold cx1
 split
 ·exact O6
 ·rename_i i hi
  split
  ·rename_i h
   simp only [Bool.and_eq_true] at h
   obtain ⟨h1,h2,h3⟩:=aJ2 F h.1
   have hs:=M6 h.2 [] X.env
   split
   ·rename_i hm
    simp only [beq_iff_eq] at hm
    subst hm
    exact cL9 i (R.e F e) (F.slot hi) h1 h2 h3 rfl (by rw [hs]; rfl) hl hs rfl
   ·split
    ·rename_i hm
     simp only [beq_iff_eq] at hm
     subst hm
     exact cL7 i (R.e F e) (F.slot hi) h1 h2 h3 hl hs
    ·exact O6
  ·exact O6
theorem bS2 (R : Sound S r) (F : Fit S c X) (st : Stmt) : JS X st (xS0 S r c st):=by
 unfold xS0
 split
 ·exact cL2 (R.e F _)
 ·exact cX3 (R.t F _) (R.b F _) (R.b F _)
 ·exact ca3 (R.t F _) (R.b F _) F.po
 ·split
  ·rename_i h; exact cL6 (cv2 R F _ _) (R.g F _) (R.b F _) F.po F.calm (bA8 h _)
  ·exact O6
 ·exact ci8 R F _ _ _
 ·split
  ·rename_i h; exact ci7 R F _ _ _ _ _ _ _ h
  ·exact O6
 ·exact co8
 ·exact cL8
 ·exact co6
 ·exact O6
theorem cd6 {st : Stmt} : ∀ (l : List Nat) {g : DS},JS X st g → JS X st (l.foldl (fun g i=>aG8 i g) g)
 | [],_,h=>h
 | i :: l,_,h=>cd6 l (cL5 i h)
theorem cS1 (R : Sound S r) (F : Fit S c X) (st : Stmt) : JS X st (xS S r c st):=by
 unfold xS fzW
 split
 ·exact bS2 R F st
 ·exact cd6 _ (bS2 R F st)
theorem ce1 {f : Stmt → DS} (h : ∀ st,JS X st (f st)) : ∀ sts,JSs X sts (evB f sts)
 | []=>co5
 | [s]=>co4 (h s)
 | s :: t :: Y9=>ca2 (h s) (ce1 h (t :: Y9))
theorem cj5 (R : Sound S r) : Sound S (step S r) :=
 ⟨fun F=>cS5 R F,fun F=>cS2 R F,fun F=>cS3 R F,fun F=>cS0 R F,fun F=>cS4 R F,fun F=>ce1 (cS1 R F)⟩
theorem cv7 (S : Sg) : ∀ n,Sound S (ev S n)
 | 0=>⟨fun _ _=>W9,fun _ _=>cv0,fun _ _=>aV1,fun _ _=>bC6,fun _ _=>bl2,fun _ _ ρ fl q=>by cases q⟩
 | n + 1=>cj5 (cv7 S n)
end
structure Fd where
 x : Str
 st : Stmt
 ps : List Str
 N : List Str
 own : List Nat:=[]
 tx : List Nat:=[]
 old : Bool:=false
 fz : List (Nat × List Nat):=[]
 hc : List ((Nat × Nat) × List Nat):=[]
def Fd.c (d : Fd) : Kx:={ N:=d.N,sc:=N3 d.st,df:=true,own:=d.own,cpt:=[],tx:=d.tx,old:=d.old,fz:=d.fz,hc:=d.hc }
def Fd.okB (d : Fd) : Bool:=let sc:=N3 d.st
 sc.kind == .function && !sc.isCoroutine && !sc.isGenerator && aE2 d.N && d.N.take d.ps.length == d.ps && (d.ps.all fun x=>match sc.names.lookup x with | some .local=>true | some .cell=>true | _=>false) && sc.names.all fun y=>match y.2 with | .free=>false | _=>true
theorem Fd.sc {d : Fd} (h : d.okB = true) : FnScope d.N d.ps (N3 d.st):=by
 unfold Fd.okB at h
 simp only [Bool.and_eq_true,Bool.not_eq_true',beq_iff_eq,List.all_eq_true] at h
 obtain ⟨⟨⟨⟨⟨⟨h1,h2⟩,h3⟩,h4⟩,h5⟩,h6⟩,h7⟩:=h
 refine ⟨h1,h2,h3,aE1 h4,h5,fun x hx=>?_,fun y hy e=>?_⟩
 ·have:=h6 x hx
  split at this
  ·rename_i q; exact .inl q
  ·rename_i q; exact .inr q
  ·cases this
 ·have:=h7 y hy
  rw [e] at this
  cases this
def KF (K : PySem.W.Frag) (x : Str) (st : Stmt) : Prop:=∃ (f : Addr) (oc : Value) (od : Option Addr) (sl : Array (Option Value)) (kV dc pm : Value) (an : Option Addr) (cd ct : Value),
 PySem.W.nsIn K mainGlobals x = some (some (.ref f)) ∧ K.lookup f = some ⟨oc,od,.func (PySem.W.fnOf x x (w6 st) (X4 st) (N3 st) .none kV dc pm an cd ct),sl⟩ ∧ PySem.W.codeIn K cd x = true ∧ PySem.W.keepIn K (.ref f) = true
theorem cX0 {K : PySem.W.Frag} {x : Str} {st : Stmt} {f : Addr} {oc : Value} {od : Option Addr} {sl : Array (Option Value)} {kV dc pm : Value} {an : Option Addr} {cd ct : Value} (a : PySem.W.nsIn K mainGlobals x = some (some (.ref f)))
  (l : K.lookup f = some ⟨oc,od,.func (PySem.W.fnOf x x (w6 st) (X4 st) (N3 st) .none kV dc pm an cd ct),sl⟩) (c : PySem.W.codeIn K cd x = true) (k : PySem.W.keepIn K (.ref f) = true) : KF K x st:=⟨f,oc,od,sl,kV,dc,pm,an,cd,ct,a,l,c,k⟩
abbrev Tab:=List (Str × FnD × Nat)
section
variable {P : Program} {w : World} {K : PySem.W.Frag} {mg : Str → Option Value} {base : Heap} {cs : List (Str × D)} {bl : List Str}
structure Md (K : PySem.W.Frag) (mg : Str → Option Value) (cs : List (Str × D)) (bl : List Str) : Prop where
 ns : ∀ x v,PySem.W.nsIn K mainGlobals x = some (some v) → mg x = some v
 css : ∀ x d,cs.lookup x = some d → ∃ u,bp0 K d u ∧ mg x = some u
 bls : ∀ x,bl.contains x = true → mg x = none
def TOk (P : Program) (w : World) (K : PySem.W.Frag) (mg : Str → Option Value) (base : Heap) (k : Nat) (tab : Tab) : Prop:=∀ x F n,tab.lookup x = some (F,n) → ∃ (f : Addr) (fd : FuncData) (ps : List Str),
 FnOk P w K mg base CX0 k f fd ps (spF K n F) ∧ mg x = some (.ref f) ∧ PySem.W.keepIn K (.ref f) = true ∧ ad3 K fd ps []
theorem TOk.nil : TOk P w K mg base 0 []:=fun x F n h=>by cases h
theorem TOk.mono {j k : Nat} {tab : Tab} (T : TOk P w K mg base j tab) (h : j ≤ k) : TOk P w K mg base k tab:=fun x F n e =>
 let ⟨f,fd,ps,h1,h2,h3,h4⟩:=T x F n e; ⟨f,fd,ps,h1.mono h,h2,h3,h4⟩
section
variable {P : List Value → Prop}
theorem ua0 (h : P []) : ∀ us : List Value,us.length = 0 → P us
 | [],_=>h
theorem ua1 (h : ∀ a,P [a]) : ∀ us : List Value,us.length = 1 → P us
 | a :: us,e=>ua0 (P:=fun us=>P (a :: us)) (h a) us (Nat.succ.inj e)
theorem ua2 (h : ∀ a b,P [a,b]) : ∀ us : List Value,us.length = 2 → P us
 | a :: us,e=>ua1 (P:=fun us=>P (a :: us)) (h a) us (Nat.succ.inj e)
theorem ua3 (h : ∀ a b c,P [a,b,c]) : ∀ us : List Value,us.length = 3 → P us
 | a :: us,e=>ua2 (P:=fun us=>P (a :: us)) (h a) us (Nat.succ.inj e)
theorem ua4 (h : ∀ a b c d,P [a,b,c,d]) : ∀ us : List Value,us.length = 4 → P us
 | a :: us,e=>ua3 (P:=fun us=>P (a :: us)) (h a) us (Nat.succ.inj e)
theorem ua5 (h : ∀ a b c d e,P [a,b,c,d,e]) : ∀ us : List Value,us.length = 5 → P us
 | a :: us,e=>ua4 (P:=fun us=>P (a :: us)) (h a) us (Nat.succ.inj e)
end
def Bd (d : Fd) : Prop:=∀ (kV doc pm : Value) (an : Option Addr) (cdv ct : Value) (us : List Value),us.length = d.ps.length → bindArgs (PySem.W.fnOf d.x d.x (w6 d.st) (X4 d.st) (N3 d.st) .none kV doc pm an cdv ct) ⟨us,[]⟩ = pure (d.ps.zip us)
def rd (tab : Tab) (cs : List (Str × D)) (bl : List Str) (d : Fd) : FnD:=C4 ((ev ⟨tab,cs,bl⟩ 99).b d.c (X4 d.st)) d.N.length
theorem aV4 {k : Nat} {tab : Tab} {d : Fd} {f : Addr} {fd : FuncData} (M : Md K mg cs bl) (T : TOk P w K mg base k tab) (ok : d.okB = true) (Fn : Fun K d.x d.x d.st f fd) : FnOk P w K mg base CX0 (k + 1) f fd d.ps (spF K d.ps.length (rd tab cs bl d)):=by
 have Sc:=Fd.sc ok
 refine cr5 (N:=d.N) Fn Sc fun cdv A outer s H E hr=>(cv7 ⟨tab,cs,bl⟩ 99).b (c:=d.c) ?_ _
 refine ⟨rfl,rfl,Sc.nd,rfl,rfl,hr.units,fun _=>⟨fun _=>rfl,Sc.kind⟩,fun x F n h=>?_,M.css,M.bls⟩
 obtain ⟨f',fd',ps,h1,h2,h3,h4⟩:=T x F n h
 exact ⟨k,f',fd',ps,h1,hr,h2,h3,h4⟩
theorem aE5 {x : Str} {st : Stmt} (h : KF K x st) (M : Md K mg cs bl) : ∃ (f : Addr) (kV dc pm : Value) (an : Option Addr) (cd ct : Value),Fun K x x st f (PySem.W.fnOf x x (w6 st) (X4 st) (N3 st) .none kV dc pm an cd ct) ∧ mg x = some (.ref f):=by
 obtain ⟨f,oc,od,sl,kV,dc,pm,an,cd,ct,a,l,cc,kk⟩:=h
 exact ⟨f,kV,dc,pm,an,cd,ct,cP3 l cc kk,M.ns _ _ a⟩
theorem TOk.cons {k : Nat} {tab : Tab} {x : Str} {F : FnD} {n : Nat} (T : TOk P w K mg base k tab) (h : ∃ (f : Addr) (fd : FuncData) (ps : List Str),FnOk P w K mg base CX0 k f fd ps (spF K n F) ∧ mg x = some (.ref f) ∧ PySem.W.keepIn K (.ref f) = true ∧ ad3 K fd ps []) :
  TOk P w K mg base k ((x,F,n) :: tab):=fun y G m e=>by
 rw [List.lookup_cons] at e
 split at e
 ·rename_i q
  cases e
  simp only [beq_iff_eq] at q
  subst q
  exact h
 ·exact T y G m e
theorem TOk.add {k n : Nat} {tab : Tab} {F : FnD} (T : TOk P w K mg base k tab) (M : Md K mg cs bl) (d : Fd) (h : KF K d.x d.st) (bd : Bd d) (ok : d.okB = true) (hn : d.ps.length = n) (e : rd tab cs bl d = F) : TOk P w K mg base (k + 1) ((d.x,F,n) :: tab):=by
 subst hn e
 obtain ⟨f,kV,dc,pm,an,cd,ct,Fn,hm⟩:=aE5 h M
 exact (T.mono (Nat.le_succ k)).cons ⟨f,_,d.ps,aV4 M T ok Fn,hm,Fn.kp,.all (bd kV dc pm an cd ct)⟩
theorem TOk.rec {k n : Nat} {tab : Tab} {F : Nat → FnD} (T : TOk P w K mg base k tab) (M : Md K mg cs bl) (d : Fd) (h : KF K d.x d.st) (bd : Bd d) (ok : d.okB = true) (hn : d.ps.length = n) (e0 : F 0 = fun _=>none) (e : ∀ j,rd ((d.x,F j,n) :: tab) cs bl d = F (j + 1)) (j : Nat) :
  TOk P w K mg base (k + j) ((d.x,F j,n) :: tab):=by
 subst hn
 obtain ⟨f,kV,dc,pm,an,cd,ct,Fn,hm⟩:=aE5 h M
 have bb : ad3 K _ d.ps []:=.all (bd kV dc pm an cd ct)
 have main : ∀ j,FnOk P w K mg base CX0 (k + j) f (PySem.W.fnOf d.x d.x (w6 d.st) (X4 d.st) (N3 d.st) .none kV dc pm an cd ct) d.ps (spF K d.ps.length (F j)):=fun j=>by
  induction j with
  | zero =>
   rw [e0]
   exact ⟨fun vs H Q E h=>h.1,fun A outer s H args us vs Q E hr e0 hb hv hs=>by obtain ⟨_,Hf,ds,d,_,_,e,_⟩:=hs; cases e⟩
  | succ j ih =>
   rw [← e j]
   exact aV4 M ((T.mono (Nat.le_add_right k j)).cons ⟨f,_,d.ps,ih,hm,Fn.kp,bb⟩) ok Fn
 exact (T.mono (Nat.le_add_right k j)).cons ⟨f,_,d.ps,main j,hm,Fn.kp,bb⟩
theorem TOk.rec3 {k n1 n2 n3 : Nat} {tab : Tab} {F1 F2 F3 : Nat → FnD} (T : TOk P w K mg base k tab) (M : Md K mg cs bl) (d1 d2 d3 : Fd) (h1 : KF K d1.x d1.st) (h2 : KF K d2.x d2.st) (h3 : KF K d3.x d3.st) (q1 : Bd d1) (q2 : Bd d2) (q3 : Bd d3) (ok1 : d1.okB = true) (ok2 : d2.okB = true) (ok3 : d3.okB = true)
  (m1 : d1.ps.length = n1) (m2 : d2.ps.length = n2) (m3 : d3.ps.length = n3) (z1 : F1 0 = fun _=>none) (z2 : F2 0 = fun _=>none) (z3 : F3 0 = fun _=>none)
  (e1 : ∀ j,rd ((d1.x,F1 j,n1) :: (d2.x,F2 j,n2) :: (d3.x,F3 j,n3) :: tab) cs bl d1 = F1 (j + 1)) (e2 : ∀ j,rd ((d1.x,F1 j,n1) :: (d2.x,F2 j,n2) :: (d3.x,F3 j,n3) :: tab) cs bl d2 = F2 (j + 1))
  (e3 : ∀ j,rd ((d1.x,F1 j,n1) :: (d2.x,F2 j,n2) :: (d3.x,F3 j,n3) :: tab) cs bl d3 = F3 (j + 1)) (j : Nat) :
  TOk P w K mg base (k + j) ((d1.x,F1 j,n1) :: (d2.x,F2 j,n2) :: (d3.x,F3 j,n3) :: tab):=by
 subst m1 m2 m3
 obtain ⟨f1,a1,a2,a3,a4,a5,a6,Fn1,hm1⟩:=aE5 h1 M
 obtain ⟨f2,c1,c2,c3,c4,c5,c6,Fn2,hm2⟩:=aE5 h2 M
 obtain ⟨f3,g1,g2,g3,g4,g5,g6,Fn3,hm3⟩:=aE5 h3 M
 have b1 : ad3 K _ d1.ps []:=.all (q1 a1 a2 a3 a4 a5 a6)
 have b2 : ad3 K _ d2.ps []:=.all (q2 c1 c2 c3 c4 c5 c6)
 have b3 : ad3 K _ d3.ps []:=.all (q3 g1 g2 g3 g4 g5 g6)
 have none_ok : ∀ {f : Addr} {fd : FuncData} {ps : List Str},FnOk P w K mg base CX0 (k + 0) f fd ps (spF K ps.length fun _=>none):=fun {f fd ps} =>
  ⟨fun vs H Q E h=>h.1,fun A outer s H args us vs Q E hr e0 hb hv hs=>by obtain ⟨_,Hf,ds,d,_,_,e,_⟩:=hs; cases e⟩
 induction j with
 | zero=>rw [z1,z2,z3]; exact (((T.mono (Nat.le_refl _)).cons ⟨f3,_,d3.ps,none_ok,hm3,Fn3.kp,b3⟩).cons ⟨f2,_,d2.ps,none_ok,hm2,Fn2.kp,b2⟩).cons ⟨f1,_,d1.ps,none_ok,hm1,Fn1.kp,b1⟩
 | succ j ih =>
  have o1:=aV4 M ih ok1 Fn1
  have o2:=aV4 M ih ok2 Fn2
  have o3:=aV4 M ih ok3 Fn3
  rw [e1 j] at o1
  rw [e2 j] at o2
  rw [e3 j] at o3
  exact (((T.mono (Nat.le_add_right k (j + 1))).cons ⟨f3,_,d3.ps,o3,hm3,Fn3.kp,b3⟩).cons ⟨f2,_,d2.ps,o2,hm2,Fn2.kp,b2⟩).cons ⟨f1,_,d1.ps,o1,hm1,Fn1.kp,b1⟩
theorem co0 {k : Nat} {tab : Tab} {F : FnD} {fa : Addr} {x : Str} (M : Md K mg cs bl) (T : ∀ base : Heap,TOk P w K mg base k tab) (d : Fd) (h : KF K d.x d.st) (bd : Bd d) (ok : d.okB = true) (hp : d.ps = [x]) (e : rd tab cs bl d = F) (hm : mg d.x = some (.ref fa)) :
  ∃ fd : FuncData,(∀ (s : Shared) (u : Value),BindsTo s fd ⟨[u],[]⟩ [(x,u)]) ∧ ∀ base : Heap,FnOk P w K mg base CX0 (k + 1) fa fd [x] (spF K 1 F):=by
 subst e
 obtain ⟨f,kV,dc,pm,an,cd,ct,Fn,hm'⟩:=aE5 h M
 cases hm.symm.trans hm'
 refine ⟨PySem.W.fnOf d.x d.x (w6 d.st) (X4 d.st) (N3 d.st) .none kV dc pm an cd ct,fun s u=>.of_eq ?_,fun base=>?_⟩
 ·have:=bd kV dc pm an cd ct [u] (by rw [hp]; rfl)
  rw [hp] at this
  exact this
 ·have:=aV4 M (T base) ok Fn
  rw [hp] at this
  exact this
end
end G
namespace Lk41
open PySem PySem.Spec PyProof.Rows L2 G Sh
def top (i : Nat) : Stmt:=PySem.Challenge.pw_glazework_k41_whole_needless.main.body.getD i (.Pass ⟨0,0,0,0⟩)
abbrev at9 : Stmt:=top 5
abbrev h9 : Stmt:=top 6
abbrev au4 : Stmt:=top 7
abbrev ag9 : Stmt:=top 8
abbrev ah1 : Stmt:=top 9
abbrev aZ7 : Stmt:=top 10
abbrev at8 : Stmt:=top 11
abbrev aZ4 : Stmt:=top 12
abbrev aB3 : Stmt:=top 13
abbrev ad9 : Stmt:=top 14
abbrev aC3 : Stmt:=top 16
abbrev au5 : Stmt:=top 17
abbrev au6 : Stmt:=top 18
abbrev aC4 : Stmt:=top 19
abbrev aB4 : Stmt:=top 20
abbrev al3 : Stmt:=top 21
abbrev aB2 : Stmt:=top 22
abbrev ad4 : Stmt:=top 23
abbrev au2 : Stmt:=top 24
abbrev aB6 : Stmt:=top 25
abbrev aL9 : Stmt:=top 26
abbrev aB5 : Stmt:=top 27
abbrev at4 : Stmt:=top 28
abbrev ad8 : Stmt:=top 29
abbrev Y1 : Stmt:=top 30
abbrev aC5 : Stmt:=top 36
abbrev at2 : Stmt:=top 37
abbrev v3 : Stmt:=top 38
abbrev i8 : Stmt:=top 39
abbrev aD2 : Stmt:=top 40
abbrev aD0 : Stmt:=top 41
abbrev aZ5 : Stmt:=top 42
abbrev aZ3 : Stmt:=top 43
abbrev aC6 : Stmt:=top 46
abbrev au1 : Stmt:=top 47
abbrev au3 : Stmt:=top 48
abbrev al2 : Stmt:=top 49
abbrev al6 : Stmt:=top 50
abbrev Z0 : Stmt:=top 51
abbrev aB1 : Stmt:=top 52
abbrev ad7 : Stmt:=top 54
abbrev aD1 : Stmt:=top 55
abbrev ad5 : Stmt:=top 56
abbrev at3 : Stmt:=top 57
abbrev v2 : Stmt:=top 58
abbrev aC9 : Stmt:=top 59
abbrev br6 : Stmt:=top 60
abbrev aC7 : Stmt:=top 65
abbrev au0 : Stmt:=top 66
abbrev al5 : Stmt:=top 67
abbrev aC8 : Stmt:=top 68
abbrev W2 : Stmt:=top 69
abbrev W3 : Stmt:=top 70
abbrev u9 : Stmt:=top 71
abbrev al7 : Stmt:=top 72
abbrev ad6 : Stmt:=top 73
abbrev Y2 : Stmt:=top 74
abbrev ah0 : Stmt:=top 75
abbrev at7 : Stmt:=top 76
abbrev aa3 : Stmt:=top 77
abbrev ag7 : Stmt:=top 78
abbrev aa4 : Stmt:=top 79
abbrev ag8 : Stmt:=top 80
abbrev aM4 : Stmt:=top 82
abbrev i7 : Stmt:=top 83
abbrev u8 : Stmt:=top 84
abbrev g9 : Stmt:=top 85
abbrev at5 : Stmt:=top 86
abbrev u7 : Stmt:=top 87
abbrev aB0 : Stmt:=top 88
abbrev aM3 : Stmt:=top 90
abbrev aC2 : Stmt:=top 91
abbrev aM1 : Stmt:=top 92
abbrev aB7 : Stmt:=top 94
abbrev aB9 : Stmt:=top 96
abbrev aM0 : Stmt:=top 97
abbrev aB8 : Stmt:=top 98
abbrev aC1 : Stmt:=top 99
abbrev aM2 : Stmt:=top 100
abbrev aC0 : Stmt:=top 101
abbrev al4 : Stmt:=top 102
abbrev aZ6 : Stmt:=top 103
abbrev cu1 : Stmt:=top 104
def bq9 : DS:=(B4 1 (A2 ag0 (A0 (A1 0) (A0 (dC (.int 0)) (A0 (dC (.int 7)) A3)))))
def bq8 : DS:=(B4 2 (A2 o9 (A0 (A1 0) (A0 (dC (.int 30)) (A0 (dC (.int 4)) (A0 (A1 1) A3))))))
def bq7 : DS:=(ab6 (A1 2) (K4 3 (B2 (B1 3) (B2 (B1 4) (B2 (B1 5) K7)))))
def aY8 : DS:=(sIf (tB2 eqD (A2 A7 (A0 (A1 0) (A0 (dC (.int 27)) (A0 (dC (.int 2)) A3)))) (dC (.int 0))) (A6 (B4 6 (A5 L5 (F6 (A0 (A5 B5 (F6 (A0 (F6 (A0 (dC (.int 1)) (A0 (dC (.int 1)) A3))) A3)) (am8 (A2 V0 (A0 (A1 0) (A0 (dC (.int 800)) A3))) (F9 (dC (.int 1))) N0)) A3)) (dC (.int 64)))) (A6 (B4 7 (A2 A7 (A0 (A1 0) (A0 (dC (.int 28)) (A0 (A5 B5 (R3 (A8 5)) (dC (.int 1))) A3))))) (A6 (B4 8 (F6 (A0 (dC (.str "layer")) (A0 (dIx (A8 1) (dC (.int 6))) (A0 (dC (.str "over")) (A0 (F6 (A0 (dC (.int 1)) (A0 (dC (.int 1)) A3))) (A0 (dC (.bool true)) (A0 (aI5 (dC (.int 1))) (A0 (aI5 (dC (.int 1))) (A0 (dC .none) (A0 (F6 (A0 (dC (.int 8)) (A0 (dC (.int 8)) (A0 (A1 6) A3)))) A3))))))))))) (A6 (B4 5 (A5 B5 (A5 B5 (am8 (A1 5) N0 (F9 (A1 7))) (F6 (A0 (A1 8) A3))) (am8 (A1 5) (F9 (A1 7)) N0))) (B4 2 (F6 (A0 (A1 3) (A0 (A1 4) (A0 (A1 5) A3))))))))) C1)
def aY7 : DS:=(B4 9 (A2 Y6 (A0 (A1 2) A3)))
def aY6 : DS:=(B4 10 (A2 V7 (A0 (A1 2) (A0 (A1 9) A3))))
def aY5 : DS:=(B4 11 (A2 ae6 (A0 (A1 2) A3)))
def aY4 : DS:=(sIf (Q9 (tB2 aR7 (A2 b0 (A0 (A1 10) A3)) (dC (.bool true))) (Q9 (tB2 neD (A2 ae6 (A0 (A1 10) A3)) (A1 11)) (tB2 neD (A2 Y6 (A0 (A1 10) A3)) (P3 A3)))) (A9 (dC (.bool false))) C1)
def aY3 : DS:=(sIf (tB2 neD (P3 (B8 1 [11,2] (G1 (A1 9)) (B1 0) (tB2 neD (A2 ae6 (A0 (A2 V7 (A0 (A1 2) (A0 (P3 (A0 (A1 0) A3)) A3))) A3)) (A1 1)) (A1 0))) (P3 A3)) (A9 (dC (.bool false))) C1)
def aY2 : DS:=(sIf (Q9 (tB2 neD (ai9 (A8 9)) (R3 (A8 9))) (tB2 neD (P3 (B8 1 [2] (G1 (A1 9)) (B1 0) (tB2 (inD true) (A1 0) (A2 Q8 (A0 (A1 1) A3))) (A1 0))) (P3 A3))) (A9 (dC (.bool false))) C1)
def aJ4 : DS:=(R0 12 (B8 1 [2] (G1 (A1 9)) (B1 0) C8 (A2 Z9 (A0 (A1 1) (A0 (A1 0) A3)))))
def aY9 : DS:=(U4 (G1 (A1 12)) (B1 13) (sIf (W0 (tB2 eqD (dIx (A8 13) (dC (.int 0))) (dC (.str "group"))) (tB2 neD (P3 (B8 1 [9] (G1 (A2 (R4 12) (A0 (dIx (A8 13) (dC (.int 5))) A3))) (B1 0) (tB2 (inD false) (dIx (A8 0) (dC (.int 1))) (A1 1)) (A1 0))) (P3 A3))) (A9 (dC (.bool false))) C1))
def aJ3 : DS:=(A9 (A5 eqD (P3 (B8 1 [9] (G1 (A2 Q8 (A0 (A1 10) A3))) (B1 0) (tB2 (inD false) (A1 0) (A1 1)) (A1 0))) (P3 A3)))
def cw8 : DS:=(A6 bq9 (A6 bq8 (A6 bq7 (A6 aY8 (A6 aY7 (A6 aY6 (A6 aY5 (A6 aY4 (A6 aY3 (A6 aY2 (A6 aJ4 (A6 aY9 aJ3))))))))))))
def bE8 : List D → Option D:=C4 cw8 14
end Lk41
namespace Lk41
open PySem G L2 Sh
theorem ix1 (n : Nd) : ∃ ds : List D,n.d = .tuple ds ∧ atI ds 1 = some n.nm:=by
 cases n <;> exact ⟨_,by rw [Nd.d],rfl⟩
theorem bK1 (x : D) {n : Nat} (h1 : 1 ≤ n) (h2 : n ≤ 1000) : L5 (.tuple [x]) (.int n) = some (.tuple (List.replicate n x)):=by
 show (if (n : Int) = 1 then some (PyData.tuple [x]) else o5 (.tuple [x]) (.int n)) = _
 by_cases e : n = 1
 ·subst e; rfl
 ·rw [if_neg (by omega)]
  show (if ([x] : List D).isEmpty = false ∧ 2 ≤ (n : Int) ∧ (n : Int) < 1000000 ∧ ([x] : List D).length * ((n : Int)).toNat ≤ 16777216 then some (PyData.tuple (List.replicate ((n : Int)).toNat [x]).flatten) else none) = _
  rw [Int.toNat_natCast,if_pos ⟨rfl,by omega,by omega,by show 1 * n ≤ _; omega⟩,Sh.aa5]
def Lq (nm : D) (q : Q4) : Nd:=.layer nm .over 1 true (-1) (-1) none 8 8 (List.replicate 64 q) 32
theorem cZ6 (nm : D) {q : Q4} (h : q.ok 8) : (Lq nm q).Ok:=by
 have d:=cv8 h
 have m : ∀ p ∈ List.replicate 64 q,p = q:=fun p hp=>(List.mem_replicate.mp hp).2
 exact ⟨cH8,⟨by decide,by decide,by decide,by decide,List.length_replicate,fun p hp=>by rw [m p hp]; exact d.ok⟩,fun p hp=>by rw [m p hp]; exact d,(fun ms e=>nomatch e),by decide⟩
theorem cc1 {neg : Bool} {d : D} {L : List D} (hd : X0 d) (hn : d ∉ L) (hL : ∀ x ∈ L,X0 x) : inD neg d (.list L) = some (.bool neg):=by
 obtain ⟨s,rfl,_⟩:=hd
 have:=bd0 (neg:=neg) (v:=false) (x:=.str s) (ds:=L) rfl (List.all_eq_true.mpr fun x hx=>by obtain ⟨t,rfl,_⟩:=hL x hx; rfl) (List.any_eq_false.mpr fun y hy=>by
  obtain ⟨x,hx,rfl⟩:=List.mem_map.mp hy
  obtain ⟨t,rfl,_⟩:=hL x hx
  show ¬ (t == s) = true
  intro e
  exact hn (by rw [← eq_of_beq e]; exact hx))
 rw [this]
 cases neg <;> rfl
theorem ay2 {w h : Nat} (W : Fits w h) {l : List Nd} (o : Nd.Oks l) (hd : Nd.dps l ≤ 3) (hw : Nd.wgs l ≤ 800) (hl : l.length ≤ 1000) (ht : Nd.thins l) (hN : (Nd.nmss l).length ≤ 1000) : Y6 [B6 w h l] = some (.list (Nd.gls w h (R5 w h l) 0 l)):=by
 have e:=bk0 W l 3 l 12 hd (by decide) (by decide) o hw hl ht hN
 refine B0 (ρ:=[‹B6 w h l›]) rfl ?_
 have p2 : dIx (A8 0) (dC (.int 2)) [‹B6 w h l›] = some (.tuple (Nd.ds l)):=rfl
 simp only [aP9,A9,A2,A0,A3,A1,p2,xg0,xbs,xms,e]
mutual
theorem bY2 : ∀ n : Nd,n.near → n.thin → n.off
 | .layer ..,o,_=>by rw [Nd.near] at o; rw [Nd.off]; omega
 | .tone ..,_,_=>by rw [Nd.off]; trivial
 | .group nm m s sh ns,o,t=>by
  rw [Nd.near] at o; rw [Nd.thin] at t; rw [Nd.off]
  exact ⟨t.1,nears_off ns o t.2⟩
theorem nears_off : ∀ l : List Nd,Nd.nears l → Nd.thins l → Nd.offs l
 | [],_,_=>by rw [Nd.offs]; trivial
 | n :: r,o,t=>by
  rw [Nd.nears] at o; rw [Nd.thins] at t; rw [Nd.offs]
  exact ⟨bY2 n o.1 t.1,nears_off r o.2 t.2⟩
end
theorem cn2 {d : D} (h : Nm d) : X0 d:=by
 obtain ⟨s,e,o,_⟩:=h
 exact ⟨s,e,o⟩
structure Good (l : List Nd) : Prop where
 ok : Nd.Oks l
 wg : Nd.wgs l ≤ 400
 dp : Nd.dps l ≤ 3
 len : l.length ≤ 100
 th : Nd.thins l
 off : Nd.offs l
 nm : ∀ d ∈ Nd.nmss l,Nm d
 nd : (Nd.nmss l).Nodup
 nl : (Nd.nmss l).length ≤ 1000
theorem Good.hs {l : List Nd} (g : Good l) : ∀ d ∈ Nd.nmss l,X0 d:=fun d hd=>cn2 (g.nm d hd)
theorem Good.sm {l : List Nd} (g : Good l) : Small6 l:=⟨g.ok,by have:=g.wg; omega,by have:=g.dp; omega⟩
theorem bb9 : neD (.list []) (.list []) = some (.bool false):=bB6 (n:=1) ⟨rfl,Nat.le_refl _⟩ (by decide)
theorem cn8 {L : List D} (hn : ∀ d ∈ L,Nm d) (nd : L.Nodup) (hl : L.length ≤ 1000) {i : Nat} {ρ : Rho} (e : A8 i ρ = some (false,L)) : ai9 (A8 i) ρ = some (.int L.length):=by
 obtain ⟨ys,e1,e2⟩:=ao2 _ hn
 have ny : ys.Nodup:=by
  rw [e1] at nd
  exact List.Pairwise.imp (fun h e=>h (congrArg PyData.str e)) (List.pairwise_map.mp nd)
 have ed : ddS ys = ys:=by have:=aO9 ys [] (by simpa using ny); simpa [ddS] using this
 have ly : L.length = ys.length:=by rw [e1,List.length_map]
 show ((A8 i ρ).bind fun q=>if q.1 = true then none else (aG0 q.2).bind fun ys=>if ys.length ≤ 4000 then some (PyData.int (ddS ys).length) else none) = _
 rw [e,xbs,if_neg (by simp),e2,xbs,if_pos (by omega),ed,ly]
abbrev en (ns : List Int) (N : List D) (w h : Nat) (l : List Nd) (r6 r7 r8 r9 r10 r11 r12 r13 : Option B) : Rho:=[‹scr ns›,‹.list N›,‹B6 w h l›,‹.int w›,‹.int h›,‹.tuple (Nd.ds l)›,r6,r7,r8,r9,r10,r11,r12,r13]
def bd : DS:=(sIf (W0 (tB2 eqD (dIx (A8 13) (dC (.int 0))) (dC (.str "group"))) (tB2 neD (P3 (B8 1 [9] (G1 (A2 (R4 12) (A0 (dIx (A8 13) (dC (.int 5))) A3))) (B1 0) (tB2 (inD false) (dIx (A8 0) (dC (.int 1))) (A1 1)) (A1 0))) (P3 A3))) (A9 (dC (.bool false))) C1)
theorem bA3 (ns : List Int) (N : List D) {w h : Nat} (W : Fits w h) {l : List Nd} (g : Good l) (r6 r7 r8 : Option B) : (A6 aY7 (A6 aY6 (A6 aY5 (A6 aY4 (A6 aY3 (A6 aY2 (A6 aJ4 (A6 aY9 aJ3)))))))) (en ns N w h l r6 r7 r8 none none none none none) = some (.rt (.bool true)):=by
 have gw:=g.wg
 have gd:=g.dp
 have gl:=g.len
 have gn:=g.nl
 have hs:=g.hs
 have wh : w * h ≤ 64:=Nat.mul_le_mul W.w8 W.h8
 obtain ⟨K,hK⟩ : ∃ K,K = Nd.gls w h (R5 w h l) 0 l:=⟨_,rfl⟩
 obtain ⟨L,hL⟩ : ∃ L,L = Nd.wks K l:=⟨_,rfl⟩
 have Ks : ∀ d ∈ K,d ∈ Nd.nmss l:=fun d hd=>by rw [hK] at hd; exact (gls_sub w h l _ 0).2 d hd
 have Kl : K.length ≤ 1000:=by have:=(gls_sub w h l (R5 w h l) 0).1; rw [hK]; omega
 have Kd : K.Nodup:=by rw [hK]; exact (gls_sl l _ 0).nodup g.nd
 have Kn : ∀ d ∈ K,X0 d:=fun d hd=>hs d (Ks d hd)
 have e4 : Y6 [B6 w h l] = some (.list K):=by rw [hK]; exact ay2 W g.ok gd (by omega) (by omega) g.th gn
 have e5 : V7 [B6 w h l,.list K] = some (B6 w h L):=by rw [hL]; exact bh2 Ks hs gd gn (by omega) g.th
 have S:=g.sm
 have e6:=bd6 S W.w1 W.w8 W.h8
 obtain ⟨p1,p2,p3,p4,p5,p6⟩:=wks_props (K:=K) l
 obtain ⟨n1,n2⟩:=wks_nms (K:=K) l
 rw [← hL] at p1 p2 p3 p4 p5 p6 n1 n2
 have Ll : (Nd.nmss L).length ≤ 1000:=Nat.le_trans n1.length_le gn
 have Lm : ∀ d ∈ Nd.nmss L,d ∈ Nd.nmss l:=fun d hd=>n1.subset hd
 have SL : Small6 L:=⟨p1 g.ok,by omega,by omega⟩
 have same : ∀ K' : List D,(∀ d ∈ K',d ∈ K) → flL w h (Nd.wks K' l) = flL w h l:=fun K' hk=>by
  unfold flL
  exact List.map_congr_left fun p hp=>bS7 W hp g.ok gd (by omega) g.nd fun d _ hd=>by rw [← hK]; exact hk d hd
 have fL : ae6 [B6 w h L] = some (shD w h (flL w h l)):=by
  have:=bd6 SL W.w1 W.w8 W.h8
  rwa [show flL w h L = flL w h l by rw [hL]; exact same K fun d hd=>hd] at this
 have iL : b0 [B6 w h L] = some (.bool true):=ba5 W.w1 W.w8 W.h1 W.h8 (by omega) (by omega) (p1 g.ok) (p4 g.off) Ll (fun d hd=>g.nm d (Lm d hd)) (n1.nodup g.nd)
 have nL : Y6 [B6 w h L] = some (.list []):=by
  have:=ay2 W (p1 g.ok) (by omega) (by omega) (by omega) (p5 g.th) Ll
  rwa [hL,bK6 W g.ok gd (by omega) g.nd (fun d _ hd=>by rw [← hK]; exact hd) (fun d hd=>by rw [hK]; exact hd),← hL] at this
 have sn : neD (shD w h (flL w h l)) (shD w h (flL w h l)) = some (.bool false):=bB6 (Ly.sheet w h _) (by decide)
 have nb : aR7 (.bool true) (.bool true) = some (.bool false):=rfl
 have t4 : aY7 (en ns N w h l r6 r7 r8 none none none none none) = some (.nx (en ns N w h l r6 r7 r8 (‹.list K›) none none none none)):=by
  wp_walk using evD,aY7,en,e4
 have t5 : aY6 (en ns N w h l r6 r7 r8 (‹.list K›) none none none none) = some (.nx (en ns N w h l r6 r7 r8 (‹.list K›) (‹B6 w h L›) none none none)):=by
  wp_walk using evD,aY6,en,e5
 have t6 : aY5 (en ns N w h l r6 r7 r8 (‹.list K›) (‹B6 w h L›) none none none) = some (.nx (en ns N w h l r6 r7 r8 (‹.list K›) (‹B6 w h L›) (‹shD w h (flL w h l)›) none none)):=by
  wp_walk using evD,aY5,en,e6
 have t7 : aY4 (en ns N w h l r6 r7 r8 (‹.list K›) (‹B6 w h L›) (‹shD w h (flL w h l)›) none none) = some (.nx (en ns N w h l r6 r7 r8 (‹.list K›) (‹B6 w h L›) (‹shD w h (flL w h l)›) none none)):=by
  wp_walk using evD,aY4,en,iL,nb,fL,sn,nL,bb9
 have idm : ∀ X : List D,X.map id = X:=fun X=>List.map_id X
 have c8 : B8 1 [11,2] (G1 (A1 9)) (B1 0) (tB2 neD (A2 ae6 (A0 (A2 V7 (A0 (A1 2) (A0 (P3 (A0 (A1 0) A3)) A3))) A3)) (A1 1)) (A1 0) (en ns N w h l r6 r7 r8 (‹.list K›) (‹B6 w h L›) (‹shD w h (flL w h l)›) none none) = some []:=by
  have:=aJ8 (caps:=[11,2]) (src:=G1 (A1 9)) (c:=tB2 neD (A2 ae6 (A0 (A2 V7 (A0 (A1 2) (A0 (P3 (A0 (A1 0) A3)) A3))) A3)) (A1 1)) (e:=A1 0) (ρ:=(en ns N w h l r6 r7 r8 (‹.list K›) (‹B6 w h L›) (‹shD w h (flL w h l)›) none none)) (l:=K) (h:=id) (f:=id) (p:=fun _=>false) (r:=[‹shD w h (flL w h l)›,‹B6 w h l›]) rfl (by rw [idm]; rfl) Kl (fun d hd=>by
   have a1:=bh2 (w:=w) (h:=h) (l:=l) (K:=[d]) (fun x hx=>by rw [List.mem_singleton.mp hx]; exact Ks d hd) hs gd gn (by omega) g.th
   obtain ⟨q1,q2,q3,q4,q5,q6⟩:=wks_props (K:=[d]) l
   have a2:=bd6 (w:=w) (h:=h) (l:=Nd.wks [d] l) ⟨q1 g.ok,by omega,by omega⟩ W.w1 W.w8 W.h8
   rw [same [d] fun x hx=>by rw [List.mem_singleton.mp hx]; exact hd] at a2
   wp_walk using evD,id,a1,a2,sn) (fun d _=>by wp_walk using evD,id)
  rw [this]
  simp
 have t8 : aY3 (en ns N w h l r6 r7 r8 (‹.list K›) (‹B6 w h L›) (‹shD w h (flL w h l)›) none none) = some (.nx (en ns N w h l r6 r7 r8 (‹.list K›) (‹B6 w h L›) (‹shD w h (flL w h l)›) none none)):=by
  have q : tB2 neD (P3 (B8 1 [11,2] (G1 (A1 9)) (B1 0) (tB2 neD (A2 ae6 (A0 (A2 V7 (A0 (A1 2) (A0 (P3 (A0 (A1 0) A3)) A3))) A3)) (A1 1)) (A1 0))) (P3 A3) (en ns N w h l r6 r7 r8 (‹.list K›) (‹B6 w h L›) (‹shD w h (flL w h l)›) none none) = some false:=by
   simp only [tB2,A5,P3,c8,A3,xms,xbs,bb9,M4]
  simp only [aY3,sIf,q,xbs,xft,if_false,C1]
 have en1:=am0 (w:=w) (h:=h) gd gn
 have c9 : B8 1 [2] (G1 (A1 9)) (B1 0) (tB2 (inD true) (A1 0) (A2 Q8 (A0 (A1 1) A3))) (A1 0) (en ns N w h l r6 r7 r8 (‹.list K›) (‹B6 w h L›) (‹shD w h (flL w h l)›) none none) = some []:=by
  have:=aJ8 (caps:=[2]) (src:=G1 (A1 9)) (c:=tB2 (inD true) (A1 0) (A2 Q8 (A0 (A1 1) A3))) (e:=A1 0) (ρ:=(en ns N w h l r6 r7 r8 (‹.list K›) (‹B6 w h L›) (‹shD w h (flL w h l)›) none none)) (l:=K) (h:=id) (f:=id) (p:=fun _=>false) (r:=[‹B6 w h l›]) rfl (by rw [idm]; rfl) Kl (fun d hd=>by
   have a1:=cc2 (Ks d hd) hs
   wp_walk using evD,id,en1,a1) (fun d _=>by wp_walk using evD,id)
  rw [this]
  simp
 have t9 : aY2 (en ns N w h l r6 r7 r8 (‹.list K›) (‹B6 w h L›) (‹shD w h (flL w h l)›) none none) = some (.nx (en ns N w h l r6 r7 r8 (‹.list K›) (‹B6 w h L›) (‹shD w h (flL w h l)›) none none)):=by
  have q1 : tB2 neD (ai9 (A8 9)) (R3 (A8 9)) (en ns N w h l r6 r7 r8 (‹.list K›) (‹B6 w h L›) (‹shD w h (flL w h l)›) none none) = some false:=by
   have l1:=cn8 (i:=9) (ρ:=(en ns N w h l r6 r7 r8 (‹.list K›) (‹B6 w h L›) (‹shD w h (flL w h l)›) none none)) (fun d hd=>g.nm d (Ks d hd)) Kd Kl rfl
   have l2 : R3 (A8 9) (en ns N w h l r6 r7 r8 (‹.list K›) (‹B6 w h L›) (‹shD w h (flL w h l)›) none none) = some (.int (K.length : Nat)):=rfl
   simp only [tB2,A5,l1,l2,xbs,af3,beq_self_eq_true,xnt,M4]
  have q2 : tB2 neD (P3 (B8 1 [2] (G1 (A1 9)) (B1 0) (tB2 (inD true) (A1 0) (A2 Q8 (A0 (A1 1) A3))) (A1 0))) (P3 A3) (en ns N w h l r6 r7 r8 (‹.list K›) (‹B6 w h L›) (‹shD w h (flL w h l)›) none none) = some false:=by
   simp only [tB2,A5,P3,c9,A3,xms,xbs,bb9,M4]
  simp only [aY2,sIf,Q9,q1,q2,xbs,xft,if_false,C1]
 have H : ∀ d : D,∃ n : Nd,d ∈ K → n.nm = d ∧ ∃ a b,Stands a n b l:=fun d=>by
  by_cases hd : d ∈ K
  ·obtain ⟨a,n,b,st,e⟩:=nms_stands [] l d (Ks d hd)
   exact ⟨n,fun _=>⟨e,a,b,st⟩⟩
  ·exact ⟨.tone .none .turn 0 true,fun z=>absurd z hd⟩
 obtain ⟨gf,hg⟩:=Classical.axiomOfChoice H
 have c10 : B8 1 [2] (G1 (A1 9)) (B1 0) C8 (A2 Z9 (A0 (A1 1) (A0 (A1 0) A3))) (en ns N w h l r6 r7 r8 (‹.list K›) (‹B6 w h L›) (‹shD w h (flL w h l)›) none none) = some (K.map fun d=>(gf d).d):=by
  refine v4 (l:=K) (h:=id) (r:=[‹B6 w h l›]) rfl (by rw [idm]; rfl) Kl fun d hd=>?_
  obtain ⟨e,a,b,st⟩:=hg d hd
  have:=bY6 (w:=w) (h:=h) (by rw [e]; exact Kn d hd) st (by omega) hs g.nd
  rw [e] at this
  wp_walk using evD,id,this
 have t10 : aJ4 (en ns N w h l r6 r7 r8 (‹.list K›) (‹B6 w h L›) (‹shD w h (flL w h l)›) none none) = some (.nx (en ns N w h l r6 r7 r8 (‹.list K›) (‹B6 w h L›) (‹shD w h (flL w h l)›) (‹.list (K.map fun d=>(gf d).d)›) none)):=by
  unfold aJ4 R0
  rw [c10]; rfl
 obtain ⟨ρ',e11,r13,hρ⟩:=am6 (g:=B1 13) (f:=bd) (I:=fun ρ=>∃ r13,ρ = (en ns N w h l r6 r7 r8 (‹.list K›) (‹B6 w h L›) (‹shD w h (flL w h l)›) (‹.list (K.map fun d=>(gf d).d)›) r13)) (K.map fun d=>(gf d).d) (en ns N w h l r6 r7 r8 (‹.list K›) (‹B6 w h L›) (‹shD w h (flL w h l)›) (‹.list (K.map fun d=>(gf d).d)›) none) ⟨none,rfl⟩ (fun x hx ρ hρ=>by
  obtain ⟨r13,rfl⟩:=hρ
  obtain ⟨d,hd,rfl⟩:=List.mem_map.mp hx
  obtain ⟨e,a,b,st⟩:=hg d hd
  refine ⟨_,rfl,(en ns N w h l r6 r7 r8 (‹.list K›) (‹B6 w h L›) (‹shD w h (flL w h l)›) (‹.list (K.map fun d=>(gf d).d)›) (some (.val (gf d).d))),?_,some (.val (gf d).d),rfl⟩
  show bd (en ns N w h l r6 r7 r8 (‹.list K›) (‹B6 w h L›) (‹shD w h (flL w h l)›) (‹.list (K.map fun d=>(gf d).d)›) (some (.val (gf d).d))) = _
  have P:=st.props
  have ti:=cj2 (w:=w) (h:=h) st (R5 w h l) g.nd (by rw [e,← hK]; exact hd)
  rw [← hK] at ti
  generalize gf d = n at st e P ti
  cases n with
  | layer nm m s sh lf tp mk w' h' l' kb=>rw [Nd.d]; wp_walk using evD,bd,en,cw4,cP8
  | tone nm r s sh=>rw [Nd.d]; wp_walk using evD,bd,en,cw7,e_tg
  | group nm m s sh ns' =>
   have Pd:=P.dp
   have Pw:=P.wg
   rw [Nd.dp] at Pd
   rw [Nd.wg] at Pw
   obtain ⟨X,eX,lX,hX⟩:=cR3 3 ns' 12 (by omega) (by decide) (by omega)
   have c11 : B8 1 [9] (G1 (A2 (R4 12) (A0 (dIx (A8 13) (dC (.int 5))) A3))) (B1 0) (tB2 (inD false) (dIx (A8 0) (dC (.int 1))) (A1 1)) (A1 0) (en ns N w h l r6 r7 r8 (‹.list K›) (‹B6 w h L›) (‹shD w h (flL w h l)›) (‹.list (K.map fun d=>(gf d).d)›) (‹Nd.d (.group nm m s sh ns')›)) = some []:=by
    have:=aJ8 (caps:=[9]) (src:=G1 (A2 (R4 12) (A0 (dIx (A8 13) (dC (.int 5))) A3))) (c:=tB2 (inD false) (dIx (A8 0) (dC (.int 1))) (A1 1)) (e:=A1 0) (ρ:=(en ns N w h l r6 r7 r8 (‹.list K›) (‹B6 w h L›) (‹shD w h (flL w h l)›) (‹.list (K.map fun d=>(gf d).d)›) (‹Nd.d (.group nm m s sh ns')›))) (l:=X) (h:=id) (f:=id) (p:=fun _=>false) (r:=[‹.list K›]) rfl (by
     rw [idm,Nd.d]
     wp_walk using evD,en,cw5,eX) (by omega) (fun x hx=>by
     obtain ⟨a',n',b',rfl,st'⟩:=hX x hx
     have m1:=st'.nm n'.nm (U5 n')
     have a1:=cc1 (neg:=false) (hs _ (st.nm _ (by rw [Nd.nms]; exact List.mem_cons_of_mem _ m1))) (ti n'.nm m1) Kn
     obtain ⟨ds,ed,e1⟩:=ix1 n'
     wp_walk using evD,id,ed,e1,a1) (fun d _=>by wp_walk using evD,id)
    rw [this]
    simp
   have q1 : tB2 eqD (dIx (A8 13) (dC (.int 0))) (dC (.str "group")) (en ns N w h l r6 r7 r8 (‹.list K›) (‹B6 w h L›) (‹shD w h (flL w h l)›) (‹.list (K.map fun d=>(gf d).d)›) (‹Nd.d (.group nm m s sh ns')›)) = some true:=by
    rw [Nd.d]; wp_walk using evD,en,cw6,cP9
   have q2 : tB2 neD (P3 (B8 1 [9] (G1 (A2 (R4 12) (A0 (dIx (A8 13) (dC (.int 5))) A3))) (B1 0) (tB2 (inD false) (dIx (A8 0) (dC (.int 1))) (A1 1)) (A1 0))) (P3 A3) (en ns N w h l r6 r7 r8 (‹.list K›) (‹B6 w h L›) (‹shD w h (flL w h l)›) (‹.list (K.map fun d=>(gf d).d)›) (‹Nd.d (.group nm m s sh ns')›)) = some false:=by
    simp only [tB2,A5,P3,c11,A3,xms,xbs,bb9,M4]
   simp only [bd,sIf,W0,q1,q2,xbs,xft,if_true,if_false,C1])
 subst hρ
 have t11 : aY9 (en ns N w h l r6 r7 r8 (‹.list K›) (‹B6 w h L›) (‹shD w h (flL w h l)›) (‹.list (K.map fun d=>(gf d).d)›) none) = some (.nx (en ns N w h l r6 r7 r8 (‹.list K›) (‹B6 w h L›) (‹shD w h (flL w h l)›) (‹.list (K.map fun d=>(gf d).d)›) r13)):=e11
 have en2:=am0 (w:=w) (h:=h) (l:=L) (by omega) Ll
 have c12 : B8 1 [9] (G1 (A2 Q8 (A0 (A1 10) A3))) (B1 0) (tB2 (inD false) (A1 0) (A1 1)) (A1 0) (en ns N w h l r6 r7 r8 (‹.list K›) (‹B6 w h L›) (‹shD w h (flL w h l)›) (‹.list (K.map fun d=>(gf d).d)›) r13) = some []:=by
  have:=aJ8 (caps:=[9]) (src:=G1 (A2 Q8 (A0 (A1 10) A3))) (c:=tB2 (inD false) (A1 0) (A1 1)) (e:=A1 0) (ρ:=(en ns N w h l r6 r7 r8 (‹.list K›) (‹B6 w h L›) (‹shD w h (flL w h l)›) (‹.list (K.map fun d=>(gf d).d)›) r13)) (l:=Nd.nmss L) (h:=id) (f:=id) (p:=fun _=>false) (r:=[‹.list K›]) rfl (by rw [idm]; wp_walk using evD,en,en2) Ll (fun d hd=>by
   have a1:=cc1 (neg:=false) (hs _ (Lm d hd)) (n2 d hd) Kn
   wp_walk using evD,id,a1) (fun d _=>by wp_walk using evD,id)
  rw [this]
  simp
 have t12 : aJ3 (en ns N w h l r6 r7 r8 (‹.list K›) (‹B6 w h L›) (‹shD w h (flL w h l)›) (‹.list (K.map fun d=>(gf d).d)›) r13) = some (.rt (.bool true)):=by
  have eqn : eqD (.list []) (.list []) = some (.bool true):=cr9 (n:=1) ⟨rfl,Nat.le_refl _⟩ (by decide)
  simp only [aJ3,A9,A5,P3,c12,A3,xms,xbs,eqn]
 rw [B7 t4,B7 t5,B7 t6,B7 t7,B7 t8,B7 t9,B7 t10,B7 t11]
 exact t12
theorem main : ∀ ns : List Int,ns.length ≤ 63 → bE8 [.list (ns.map PyData.int)] = some (.bool true):=by
 intro ns hn
 obtain ⟨N,eN,hN,b,hP⟩:=bY5 ns hn 0 7 (by decide) (by decide)
 have eN : ag0 [scr ns,.int 0,.int 7] = some (.list N):=eN
 obtain ⟨w,h,l,ep,hl,hw,hh⟩:=bs0 ns hn 30 4 (by decide) (by decide) N (by omega)
 have ep : o9 [scr ns,.int 30,.int 4,.list N] = some (B6 w h l):=ep
 have w1:=hw.1
 have w8 : w ≤ 8:=by omega
 have h1:=hh.1
 have h8 : h ≤ 8:=by omega
 have W : Fits w h:=⟨w1,w8,h1,h8⟩
 obtain ⟨is,q1_ix,q2,q3⟩:=hl.ix
 have nmv : ∀ j,j < 7 → ∃ y,N.getD j .none = .str (nmS b j y) ∧ SOk y ∧ y.length ≤ 4:=fun j hj=>by
  obtain ⟨y,e1,e2⟩:=hP j hj
  exact ⟨y,by rw [List.getD_eq_getElem?_getD,e1]; rfl,e2⟩
 have lw:=hl.wg
 have ld:=hl.dp
 have ll:=hl.len
 have nm7 : ∀ j,j < 7 → Nm (N.getD j .none):=fun j hj=>by
  obtain ⟨y,e1,e2,e3⟩:=nmv j hj
  have z : (nmS b j y).length = y.length + 1:=by
   have lc : (ltr j).cps.size = 1:=rfl
   cases b
   ·show (y.cps ++ (ltr j).cps).size = _
    rw [Array.size_append,lc]; rfl
   ·show ((ltr j).cps ++ y.cps).size = _
    rw [Array.size_append,lc,Nat.add_comm]; rfl
  exact ⟨_,e1,cn3 b (by omega) e2,by omega,by omega⟩
 have g : Good l:=by
  refine ⟨hl.ok,by omega,by omega,by omega,hl.th,nears_off l hl.nr hl.th,fun d hd=>?_,?_,?_⟩
  ·rw [q1_ix] at hd
   obtain ⟨j,hj,rfl⟩:=List.mem_map.mp hd
   exact nm7 j (by have:=q3 j hj; omega)
  ·rw [q1_ix]
   refine List.pairwise_map.mpr (List.Pairwise.imp_of_mem (fun {i j} hi hj ne e=>?_) q2)
   obtain ⟨y,e1,_⟩:=nmv i (by have:=q3 i hi; omega)
   obtain ⟨z,e2,_⟩:=nmv j (by have:=q3 j hj; omega)
   rw [e1,e2] at e
   exact ne (bB5 (PyData.str.inj e))
  ·rw [q1_ix,List.length_map]
   have:=List.Nodup.length_le_of_subset (l₂:=List.range 7) q2 fun j hj=>List.mem_range.mpr (by have:=q3 j hj; omega)
   rw [List.length_range] at this; omega
 obtain ⟨q,eq,oq⟩:=bg5 ns 800 hn (by decide)
 have eq : V0 [scr ns,.int 800] = some (.tuple [fr q.c,fr q.x,fr q.y,fr q.z]):=eq
 obtain ⟨q1,hq1⟩ : ∃ q1 : Q4,q1 = ⟨1,q.x,q.y,q.z⟩:=⟨_,rfl⟩
 have o1 : q1.ok 8:=by
  rw [hq1]
  exact ⟨⟨Bd.one.mono (by decide),Rat.le_refl⟩,oq.hx,oq.hy,oq.hz,Rat.le_trans oq.xc oq.hc.le,Rat.le_trans oq.yc oq.hc.le,Rat.le_trans oq.zc oq.hc.le⟩
 obtain ⟨n6,at6,hg6⟩ : ∃ n6,atI N 6 = some n6 ∧ N.getD 6 .none = n6:=⟨N[6]'(by omega),by unfold atI; rw [av3 (by decide) (by omega)]; exact List.getElem?_eq_getElem (by show 6 < N.length; omega),by rw [List.getD_eq_getElem?_getD,List.getElem?_eq_getElem (show 6 < N.length by omega)]; rfl⟩
 have f6 : n6 ∉ Nd.nmss l:=fun z=>by
  rw [q1_ix] at z
  obtain ⟨j,hj,e⟩:=List.mem_map.mp z
  have hj6:=q3 j hj
  obtain ⟨y,e1,_⟩:=nmv j (by omega)
  obtain ⟨z,e2,_⟩:=nmv 6 (by decide)
  rw [← hg6,e1,e2] at e
  have:=bB5 (PyData.str.inj e)
  omega
 obtain ⟨d7,e7,l7⟩:=K1 ns hn (e:=27) (m':=2) 27 2 rfl rfl (by decide) (by decide)
 obtain ⟨dk,ek,lk⟩:=K1 ns hn (e:=28) (m':=(((Nd.ds l).length : Nat) : Int) + 1) 28 (l.length + 1) rfl (by rw [M7,List.length_map]; omega) (by decide) (by omega)
 refine B0 (ρ:=[‹scr ns›,none,none,none,none,none,none,none,none,none,none,none,none,none]) rfl ?_
 have t0 : bq9 [‹scr ns›,none,none,none,none,none,none,none,none,none,none,none,none,none] = some (.nx [‹scr ns›,‹.list N›,none,none,none,none,none,none,none,none,none,none,none,none]):=by
  wp_walk using evD,bq9,eN
 have t1 : bq8 [‹scr ns›,‹.list N›,none,none,none,none,none,none,none,none,none,none,none,none] = some (.nx [‹scr ns›,‹.list N›,‹B6 w h l›,none,none,none,none,none,none,none,none,none,none,none]):=by
  wp_walk using evD,bq8,ep
 have t2 : bq7 [‹scr ns›,‹.list N›,‹B6 w h l›,none,none,none,none,none,none,none,none,none,none,none] = some (.nx (en ns N w h l none none none none none none none none)):=by
  wp_walk using evD,bq7,en,B6
  rfl
 unfold cw8
 rw [B7 t0,B7 t1,B7 t2]
 by_cases z7 : d7 = 0
 ·subst z7
  have cd : (tB2 eqD (A2 A7 (A0 (A1 0) (A0 (dC (.int 27)) (A0 (dC (.int 2)) A3)))) (dC (.int 0))) (en ns N w h l none none none none none none none none) = some true:=by
   wp_walk using evD,en,e7
   rfl
  obtain ⟨l2,hl2⟩ : ∃ l2,l2 = l.take dk ++ Lq n6 q1 :: l.drop dk:=⟨_,rfl⟩
  have tk:=List.take_append_drop dk l
  have ra : L5 (.tuple [q1.d]) (.int 64) = some (.tuple (List.replicate 64 q1.d)):=bK1 q1.d (n:=64) (by decide) (by decide)
  have lD : (Lq n6 q1).d = .tuple [.str "layer", n6,.str "over", .tuple [.int 1,.int 1],.bool true,.int (-1),.int (-1),.none,.tuple [.int 8,.int 8,.tuple (List.replicate 64 q1.d)]]:=by
   unfold Lq
   rw [Nd.d]
   show PyData.tuple [_,n6,_,_,_,_,_,_,.tuple [.int 8,.int 8,.tuple ((List.replicate 64 q1).map Q4.d)]] = _
   rw [List.map_replicate]; rfl
  have cut : ∀ a b c d : D,aj0 [a,b,c,d] (some 1) none = [b,c,d]:=fun _ _ _ _=>rfl
  have ct : ∀ a b c d : D,B5 (.tuple [a]) (.tuple [b,c,d]) = some (.tuple [a,b,c,d]):=fun _ _ _ _=>rfl
  have dq1 : q1.d = .tuple [.tuple [.int 1,.int 1],fr q.x,fr q.y,fr q.z]:=by rw [hq1]; rfl
  have u0 : (B4 6 (A5 L5 (F6 (A0 (A5 B5 (F6 (A0 (F6 (A0 (dC (.int 1)) (A0 (dC (.int 1)) A3))) A3)) (am8 (A2 V0 (A0 (A1 0) (A0 (dC (.int 800)) A3))) (F9 (dC (.int 1))) N0)) A3)) (dC (.int 64)))) (en ns N w h l none none none none none none none none) = some (.nx [‹scr ns›,‹.list N›,‹B6 w h l›,‹.int w›,‹.int h›,‹.tuple (Nd.ds l)›,‹.tuple (List.replicate 64 q1.d)›,none,none,none,none,none,none,none]):=by
   have:=ra
   rw [dq1] at this
   rw [dq1]
   wp_walk using evD,en,eq,am8,cut,ct,this
  have u1 : (B4 7 (A2 A7 (A0 (A1 0) (A0 (dC (.int 28)) (A0 (A5 B5 (R3 (A8 5)) (dC (.int 1))) A3))))) [‹scr ns›,‹.list N›,‹B6 w h l›,‹.int w›,‹.int h›,‹.tuple (Nd.ds l)›,‹.tuple (List.replicate 64 q1.d)›,none,none,none,none,none,none,none] = some (.nx [‹scr ns›,‹.list N›,‹B6 w h l›,‹.int w›,‹.int h›,‹.tuple (Nd.ds l)›,‹.tuple (List.replicate 64 q1.d)›,‹.int dk›,none,none,none,none,none,none]):=by
   wp_walk using evD,ek
  have u2 : (B4 8 (F6 (A0 (dC (.str "layer")) (A0 (dIx (A8 1) (dC (.int 6))) (A0 (dC (.str "over")) (A0 (F6 (A0 (dC (.int 1)) (A0 (dC (.int 1)) A3))) (A0 (dC (.bool true)) (A0 (aI5 (dC (.int 1))) (A0 (aI5 (dC (.int 1))) (A0 (dC .none) (A0 (F6 (A0 (dC (.int 8)) (A0 (dC (.int 8)) (A0 (A1 6) A3)))) A3))))))))))) [‹scr ns›,‹.list N›,‹B6 w h l›,‹.int w›,‹.int h›,‹.tuple (Nd.ds l)›,‹.tuple (List.replicate 64 q1.d)›,‹.int dk›,none,none,none,none,none,none] = some (.nx [‹scr ns›,‹.list N›,‹B6 w h l›,‹.int w›,‹.int h›,‹.tuple (Nd.ds l)›,‹.tuple (List.replicate 64 q1.d)›,‹.int dk›,some (.val (Lq n6 q1).d),none,none,none,none,none]):=by
   rw [lD]
   have i6 : dIx (A8 1) (dC (.int 6)) [‹scr ns›,‹.list N›,‹B6 w h l›,‹.int w›,‹.int h›,‹.tuple (Nd.ds l)›,‹.tuple (List.replicate 64 q1.d)›,‹.int dk›,none,none,none,none,none,none] = some n6:=by wp_walk using evD,at6
   have ng : aI5 (dC (.int 1)) [‹scr ns›,‹.list N›,‹B6 w h l›,‹.int w›,‹.int h›,‹.tuple (Nd.ds l)›,‹.tuple (List.replicate 64 q1.d)›,‹.int dk›,none,none,none,none,none,none] = some (.int (-1)):=rfl
   have v6 : A1 6 [‹scr ns›,‹.list N›,‹B6 w h l›,‹.int w›,‹.int h›,‹.tuple (Nd.ds l)›,‹.tuple (List.replicate 64 q1.d)›,‹.int dk›,none,none,none,none,none,none] = some (.tuple (List.replicate 64 q1.d)):=rfl
   simp only [B4,F6,A0,A3,i6,ng,v6,dC,xbs,xms]
   rfl
  have u3 : (B4 5 (A5 B5 (A5 B5 (am8 (A1 5) N0 (F9 (A1 7))) (F6 (A0 (A1 8) A3))) (am8 (A1 5) (F9 (A1 7)) N0))) [‹scr ns›,‹.list N›,‹B6 w h l›,‹.int w›,‹.int h›,‹.tuple (Nd.ds l)›,‹.tuple (List.replicate 64 q1.d)›,‹.int dk›,some (.val (Lq n6 q1).d),none,none,none,none,none] = some (.nx [‹scr ns›,‹.list N›,‹B6 w h l›,‹.int w›,‹.int h›,‹.tuple (Nd.ds l2)›,‹.tuple (List.replicate 64 q1.d)›,‹.int dk›,some (.val (Lq n6 q1).d),none,none,none,none,none]):=by
   have k1 : B5 (.tuple (Nd.ds (l.take dk))) (.tuple [(Lq n6 q1).d]) = some (.tuple (Nd.ds (l.take dk ++ [Lq n6 q1]))):=by
    have:=cg0 (l.take dk) [Lq n6 q1] (by rw [List.length_take]; simp; omega)
    rwa [show Nd.ds [Lq n6 q1] = [(Lq n6 q1).d] by rw [Nd.ds,Nd.ds]] at this
   have k2 : B5 (.tuple (Nd.ds (l.take dk ++ [Lq n6 q1]))) (.tuple (Nd.ds (l.drop dk))) = some (.tuple (Nd.ds l2)):=by
    have:=cg0 (l.take dk ++ [Lq n6 q1]) (l.drop dk) (by rw [List.length_append,List.length_take,List.length_drop]; simp; omega)
    rwa [show l.take dk ++ [Lq n6 q1] ++ l.drop dk = l2 by rw [hl2]; simp] at this
   wp_walk using evD,am8,cf7,cf8,k1,k2
  have u4 : (B4 2 (F6 (A0 (A1 3) (A0 (A1 4) (A0 (A1 5) A3))))) [‹scr ns›,‹.list N›,‹B6 w h l›,‹.int w›,‹.int h›,‹.tuple (Nd.ds l2)›,‹.tuple (List.replicate 64 q1.d)›,‹.int dk›,some (.val (Lq n6 q1).d),none,none,none,none,none] = some (.nx [‹scr ns›,‹.list N›,‹B6 w h l2›,‹.int w›,‹.int h›,‹.tuple (Nd.ds l2)›,‹.tuple (List.replicate 64 q1.d)›,‹.int dk›,some (.val (Lq n6 q1).d),none,none,none,none,none]):=by
   wp_walk using evD
   rfl
  have t3 : aY8 (en ns N w h l none none none none none none none none) = some (.nx (en ns N w h l2 (‹.tuple (List.replicate 64 q1.d)›) (‹.int dk›) (some (.val (Lq n6 q1).d)) none none none none none)):=by
   show sIf (tB2 eqD (A2 A7 (A0 (A1 0) (A0 (dC (.int 27)) (A0 (dC (.int 2)) A3)))) (dC (.int 0))) (A6 (B4 6 (A5 L5 (F6 (A0 (A5 B5 (F6 (A0 (F6 (A0 (dC (.int 1)) (A0 (dC (.int 1)) A3))) A3)) (am8 (A2 V0 (A0 (A1 0) (A0 (dC (.int 800)) A3))) (F9 (dC (.int 1))) N0)) A3)) (dC (.int 64)))) (A6 (B4 7 (A2 A7 (A0 (A1 0) (A0 (dC (.int 28)) (A0 (A5 B5 (R3 (A8 5)) (dC (.int 1))) A3))))) (A6 (B4 8 (F6 (A0 (dC (.str "layer")) (A0 (dIx (A8 1) (dC (.int 6))) (A0 (dC (.str "over")) (A0 (F6 (A0 (dC (.int 1)) (A0 (dC (.int 1)) A3))) (A0 (dC (.bool true)) (A0 (aI5 (dC (.int 1))) (A0 (aI5 (dC (.int 1))) (A0 (dC .none) (A0 (F6 (A0 (dC (.int 8)) (A0 (dC (.int 8)) (A0 (A1 6) A3)))) A3))))))))))) (A6 (B4 5 (A5 B5 (A5 B5 (am8 (A1 5) N0 (F9 (A1 7))) (F6 (A0 (A1 8) A3))) (am8 (A1 5) (F9 (A1 7)) N0))) (B4 2 (F6 (A0 (A1 3) (A0 (A1 4) (A0 (A1 5) A3))))))))) C1 (en ns N w h l none none none none none none none none) = _
   unfold sIf
   rw [cd,xbs,if_pos rfl,B7 u0,B7 u1,B7 u2,B7 u3]
   exact u4
  rw [B7 t3]
  refine bA3 ns N W ?_ _ _ _
  have oL:=cZ6 n6 o1
  have nL : (Lq n6 q1).nms = [n6]:=by unfold Lq; rw [Nd.nms]
  have wL : (Lq n6 q1).wg = 40:=by unfold Lq; rw [Nd.wg]
  have dL : (Lq n6 q1).dp = 0:=by unfold Lq; rw [Nd.dp]
  have ww:=congrArg Nd.wgs tk
  have dd:=congrArg Nd.dps tk
  have nn:=congrArg Nd.nmss tk
  rw [S8] at ww
  rw [X3] at dd
  rw [E1] at nn
  have mem : ∀ n ∈ l2,n ∈ l ∨ n = Lq n6 q1:=fun n hn=>by
   rw [hl2] at hn
   rcases List.mem_append.mp hn with z | z
   ·exact .inl (List.mem_of_mem_take z)
   ·rcases List.mem_cons.mp z with z | z
    ·exact .inr z
    ·exact .inl (List.mem_of_mem_drop z)
  have n2 : List.Perm (Nd.nmss l2) (n6 :: Nd.nmss l):=by
   rw [hl2,E1,Nd.nmss,nL,← nn]
   exact List.perm_middle
  refine ⟨(S9 _).mpr fun n hn=>?_,by rw [hl2,S8,Nd.wgs,wL]; omega,by rw [hl2,X3,Nd.dps,dL]; omega,by rw [hl2,List.length_append,List.length_cons,List.length_take,List.length_drop]; omega,(T8 _).mpr fun n hn=>?_,(al8 _).mpr fun n hn=>?_,fun d hd=>?_,n2.nodup_iff.mpr (List.nodup_cons.mpr ⟨f6,g.nd⟩),by rw [n2.length_eq,List.length_cons]; have:=q1_ix; have:=List.Nodup.length_le_of_subset (l₂:=List.range 7) q2 fun j hj=>List.mem_range.mpr (by have:=q3 j hj; omega); rw [q1_ix,List.length_map]; rw [List.length_range] at this; omega⟩
  ·rcases mem n hn with z | z
   ·exact (S9 l).mp hl.ok n z
   ·rw [z]; exact oL
  ·rcases mem n hn with z | z
   ·exact (T8 l).mp hl.th n z
   ·rw [z]; unfold Lq; rw [Nd.thin]; trivial
  ·rcases mem n hn with z | z
   ·exact (al8 l).mp g.off n z
   ·rw [z]; unfold Lq; rw [Nd.off]; omega
  ·rcases List.mem_cons.mp (n2.mem_iff.mp hd) with z | z
   ·rw [z,← hg6]; exact nm7 6 (by decide)
   ·exact g.nm d z
 ·have z : ((d7 : Int) == 0) = false:=beq_eq_false_iff_ne.mpr (by omega)
  have t3 : aY8 (en ns N w h l none none none none none none none none) = some (.nx (en ns N w h l none none none none none none none none)):=by
   wp_walk using evD,aY8,en,e7,z
  rw [B7 t3]
  exact bA3 ns N W g _ _ _
end Lk41
namespace Lk41
open PySem PySem.Spec PyProof.Rows L2 G Sh
theorem W8 {K : PySem.W.Frag} (x : Str) (t : Tok) : bp0 K (.str x) (.str x t):=⟨.str x,⟨t,rfl⟩,fun _=>rfl⟩
def zcs : List (Str × D):=[("ONE", (.tuple [(.int 1),(.int 1)])),("MANNERS", (.tuple [(.str "over"),(.str "multiply"),(.str "screen"),(.str "plus"),(.str "atop"),(.str "cut")])),("RULES", (.tuple [(.str "turn"),(.str "grey"),(.str "round")])),("CLEAR", (.tuple [(.tuple [(.int 0),(.int 1)]),(.tuple [(.int 0),(.int 1)]),(.tuple [(.int 0),(.int 1)]),(.tuple [(.int 0),(.int 1)])])),("THIRD", (.tuple [(.int 1),(.int 3)])),("GREATEST", (.int 8)),("LETTERS", (.str "abcdefghijklmnopqrstuvwxyz")),("DEEPEST", (.int 3)),("FARTHEST", (.int 9))]
def zbl : List Str:=["all", "bool", "enumerate", "int", "isinstance", "len", "list", "range", "reversed", "set", "str", "tuple", "zip"]
def tb0 : Tab:=[]
def ai1 : Fd:={ x := "is_whole", st:=at9,ps:=["thing"],N:=["thing"],old:=true }
theorem bx9 : Bd ai1:=fun _ _ _ _ _ _=>ua1 fun _=>rfl
theorem bs8 : ai1.okB = true:=by kernel_rfl
theorem bv7 : rd tb0 zcs zbl ai1 = S0:=by kernel_rfl
def tb1 : Tab:=("is_whole", S0,1) :: tb0
def V4 : Fd:={ x := "common_divisor", st:=h9,ps:=["one", "other"],N:=["one", "other", "left_over"],old:=true }
theorem aF3 : Bd V4:=fun _ _ _ _ _ _=>ua2 fun _ _=>rfl
theorem aD8 : V4.okB = true:=by kernel_rfl
theorem aE9 : rd tb1 zcs zbl V4 = Q0:=by kernel_rfl
def tb2 : Tab:=("common_divisor", Q0,2) :: tb1
def ai6 : Fd:={ x := "is_share", st:=au4,ps:=["thing"],N:=["thing", "top", "under"],old:=true }
theorem by4 : Bd ai6:=fun _ _ _ _ _ _=>ua1 fun _=>rfl
theorem bt3 : ai6.okB = true:=by kernel_rfl
theorem bw2 : rd tb2 zcs zbl ai6 = Y7:=by kernel_rfl
def tb3 : Tab:=("is_share", Y7,1) :: tb2
def x5 : Fd:={ x := "least_form", st:=ag9,ps:=["top", "under"],N:=["top", "under", "divisor"],old:=true }
theorem bf4 : Bd x5:=fun _ _ _ _ _ _=>ua2 fun _ _=>rfl
theorem bb5 : x5.okB = true:=by kernel_rfl
theorem be1 : rd tb3 zcs zbl x5 = V8:=by kernel_rfl
def tb4 : Tab:=("least_form", V8,2) :: tb3
def x8 : Fd:={ x := "is_at_most", st:=ah1,ps:=["one", "other"],N:=["one", "other"],old:=true }
theorem bf6 : Bd x8:=fun _ _ _ _ _ _=>ua2 fun _ _=>rfl
theorem bb7 : x8.okB = true:=by kernel_rfl
theorem be3 : rd tb4 zcs zbl x8 = c7:=by kernel_rfl
def tb5 : Tab:=("is_at_most", c7,2) :: tb4
def aK4 : Fd:={ x := "added", st:=aZ7,ps:=["one", "other"],N:=["one", "other"],old:=true }
theorem ct2 : Bd aK4:=fun _ _ _ _ _ _=>ua2 fun _ _=>rfl
theorem cn1 : aK4.okB = true:=by kernel_rfl
theorem cs4 : rd tb5 zcs zbl aK4 = U3:=by kernel_rfl
def tb6 : Tab:=("added", U3,2) :: tb5
def ai0 : Fd:={ x := "lessened", st:=at8,ps:=["one", "other"],N:=["one", "other"],old:=true }
theorem bx8 : Bd ai0:=fun _ _ _ _ _ _=>ua2 fun _ _=>rfl
theorem bs7 : ai0.okB = true:=by kernel_rfl
theorem bv6 : rd tb6 zcs zbl ai0 = T3:=by kernel_rfl
def tb7 : Tab:=("lessened", T3,2) :: tb6
def aK1 : Fd:={ x := "times", st:=aZ4,ps:=["one", "other"],N:=["one", "other"],old:=true }
theorem cs9 : Bd aK1:=fun _ _ _ _ _ _=>ua2 fun _ _=>rfl
theorem cm8 : aK1.okB = true:=by kernel_rfl
theorem cs1 : rd tb7 zcs zbl aK1 = U2:=by kernel_rfl
def tb8 : Tab:=("times", U2,2) :: tb7
def ao9 : Fd:={ x := "rest_of", st:=aB3,ps:=["share"],N:=["share"],old:=true }
theorem bP3 : Bd ao9:=fun _ _ _ _ _ _=>ua1 fun _=>rfl
theorem bH6 : ao9.okB = true:=by kernel_rfl
theorem bL8 : rd tb8 zcs zbl ao9 = j9:=by kernel_rfl
def tb9 : Tab:=("rest_of", j9,1) :: tb8
def m9 : Fd:={ x := "at_most_one", st:=ad9,ps:=["fraction"],N:=["fraction"],old:=true }
theorem aT5 : Bd m9:=fun _ _ _ _ _ _=>ua1 fun _=>rfl
theorem aR6 : m9.okB = true:=by kernel_rfl
theorem aS5 : rd tb9 zcs zbl m9 = X1:=by kernel_rfl
def cE6 : Tab:=("at_most_one", X1,1) :: tb9
def ap9 : Fd:={ x := "kind_of", st:=aC3,ps:=["node"],N:=["node"] }
theorem bQ3 : Bd ap9:=fun _ _ _ _ _ _=>ua1 fun _=>rfl
theorem bI6 : ap9.okB = true:=by kernel_rfl
theorem bM8 : rd cE6 zcs zbl ap9 = ag1:=by kernel_rfl
def cE5 : Tab:=("kind_of", ag1,1) :: cE6
def ai7 : Fd:={ x := "is_layer", st:=au5,ps:=["node"],N:=["node"] }
theorem by5 : Bd ai7:=fun _ _ _ _ _ _=>ua1 fun _=>rfl
theorem bt4 : ai7.okB = true:=by kernel_rfl
theorem bw3 : rd cE5 zcs zbl ai7 = V1:=by kernel_rfl
def cE4 : Tab:=("is_layer", V1,1) :: cE5
def ai8 : Fd:={ x := "is_group", st:=au6,ps:=["node"],N:=["node"] }
theorem by6 : Bd ai8:=fun _ _ _ _ _ _=>ua1 fun _=>rfl
theorem bt5 : ai8.okB = true:=by kernel_rfl
theorem bw4 : rd cE4 zcs zbl ai8 = M2:=by kernel_rfl
def cE3 : Tab:=("is_group", M2,1) :: cE4
def aq0 : Fd:={ x := "is_tone", st:=aC4,ps:=["node"],N:=["node"] }
theorem bQ4 : Bd aq0:=fun _ _ _ _ _ _=>ua1 fun _=>rfl
theorem bI7 : aq0.okB = true:=by kernel_rfl
theorem bM9 : rd cE3 zcs zbl aq0 = M3:=by kernel_rfl
def cE2 : Tab:=("is_tone", M3,1) :: cE3
def ap0 : Fd:={ x := "name_of", st:=aB4,ps:=["node"],N:=["node"] }
theorem bP4 : Bd ap0:=fun _ _ _ _ _ _=>ua1 fun _=>rfl
theorem bH7 : ap0.okB = true:=by kernel_rfl
theorem bL9 : rd cE2 zcs zbl ap0 = P8:=by kernel_rfl
def cE1 : Tab:=("name_of", P8,1) :: cE2
def ac5 : Fd:={ x := "manner_of", st:=al3,ps:=["node"],N:=["node"] }
theorem bo2 : Bd ac5:=fun _ _ _ _ _ _=>ua1 fun _=>rfl
theorem bj2 : ac5.okB = true:=by kernel_rfl
theorem bm6 : rd cE1 zcs zbl ac5 = O7:=by kernel_rfl
def cE0 : Tab:=("manner_of", O7,1) :: cE1
def ao8 : Fd:={ x := "rule_of", st:=aB2,ps:=["tone"],N:=["tone"] }
theorem bP2 : Bd ao8:=fun _ _ _ _ _ _=>ua1 fun _=>rfl
theorem bH5 : ao8.okB = true:=by kernel_rfl
theorem bL7 : rd cE0 zcs zbl ao8 = j8:=by kernel_rfl
def cD9 : Tab:=("rule_of", j8,1) :: cE0
def k7 : Fd:={ x := "strength_of", st:=ad4,ps:=["node"],N:=["node"] }
theorem aT0 : Bd k7:=fun _ _ _ _ _ _=>ua1 fun _=>rfl
theorem aR1 : k7.okB = true:=by kernel_rfl
theorem aS0 : rd cD9 zcs zbl k7 = L1:=by kernel_rfl
def cD8 : Tab:=("strength_of", L1,1) :: cD9
def ai4 : Fd:={ x := "is_shown", st:=au2,ps:=["node"],N:=["node"] }
theorem by2 : Bd ai4:=fun _ _ _ _ _ _=>ua1 fun _=>rfl
theorem bt1 : ai4.okB = true:=by kernel_rfl
theorem bw0 : rd cD8 zcs zbl ai4 = P1:=by kernel_rfl
def cD7 : Tab:=("is_shown", P1,1) :: cD8
def ap2 : Fd:={ x := "left_of", st:=aB6,ps:=["layer"],N:=["layer"] }
theorem bP6 : Bd ap2:=fun _ _ _ _ _ _=>ua1 fun _=>rfl
theorem bH9 : ap2.okB = true:=by kernel_rfl
theorem bM1 : rd cD7 zcs zbl ap2 = k5:=by kernel_rfl
def cD6 : Tab:=("left_of", k5,1) :: cD7
def az1 : Fd:={ x := "top_of", st:=aL9,ps:=["layer"],N:=["layer"] }
theorem ch1 : Bd az1:=fun _ _ _ _ _ _=>ua1 fun _=>rfl
theorem bX3 : az1.okB = true:=by kernel_rfl
theorem cf0 : rd cD6 zcs zbl az1 = ab2:=by kernel_rfl
def cD5 : Tab:=("top_of", ab2,1) :: cD6
def ap1 : Fd:={ x := "mask_of", st:=aB5,ps:=["layer"],N:=["layer"] }
theorem bP5 : Bd ap1:=fun _ _ _ _ _ _=>ua1 fun _=>rfl
theorem bH8 : ap1.okB = true:=by kernel_rfl
theorem bM0 : rd cD5 zcs zbl ap1 = aa0:=by kernel_rfl
def cD4 : Tab:=("mask_of", aa0,1) :: cD5
def ah7 : Fd:={ x := "sheet_of", st:=at4,ps:=["layer"],N:=["layer"] }
theorem bx5 : Bd ah7:=fun _ _ _ _ _ _=>ua1 fun _=>rfl
theorem bs4 : ah7.okB = true:=by kernel_rfl
theorem bv3 : rd cD4 zcs zbl ah7 = U8:=by kernel_rfl
def cD3 : Tab:=("sheet_of", U8,1) :: cD4
def m8 : Fd:={ x := "inner_nodes", st:=ad8,ps:=["group"],N:=["group"] }
theorem aT4 : Bd m8:=fun _ _ _ _ _ _=>ua1 fun _=>rfl
theorem aR5 : m8.okB = true:=by kernel_rfl
theorem aS4 : rd cD3 zcs zbl m8 = C5:=by kernel_rfl
def cD2 : Tab:=("inner_nodes", C5,1) :: cD3
def T1 : Fd:={ x := "with_inner_nodes", st:=Y1,ps:=["group", "nodes"],N:=["group", "nodes"] }
theorem aw1 : Bd T1:=fun _ _ _ _ _ _=>ua2 fun _ _=>rfl
theorem au8 : T1.okB = true:=by kernel_rfl
theorem av5 : rd cD2 zcs zbl T1 = Q7:=by kernel_rfl
def cD1 : Tab:=("with_inner_nodes", Q7,2) :: cD2
def aq1 : Fd:={ x := "is_spot", st:=aC5,ps:=["thing"],N:=["thing"],old:=true,hc:=[((80,15),[0])] }
theorem bQ5 : Bd aq1:=fun _ _ _ _ _ _=>ua1 fun _=>rfl
theorem bI8 : aq1.okB = true:=by kernel_rfl
theorem bN0 : rd cD1 zcs zbl aq1 = ag2:=by kernel_rfl
def cD0 : Tab:=("is_spot", ag2,1) :: cD1
def ah5 : Fd:={ x := "weighted", st:=at2,ps:=["spot", "share"],N:=["spot", "share"],old:=true,hc:=[((82,17),[1])] }
theorem bx3 : Bd ah5:=fun _ _ _ _ _ _=>ua2 fun _ _=>rfl
theorem bs2 : ah5.okB = true:=by kernel_rfl
theorem bv1 : rd cD0 zcs zbl ah5 = ab1:=by kernel_rfl
def cC9 : Tab:=("weighted", ab1,2) :: cD0
def X9 : Fd:={ x := "blended_cover", st:=v3,ps:=["manner", "c", "d"],N:=["manner", "c", "d"],old:=true }
theorem aJ0 : Bd X9:=fun _ _ _ _ _ _=>ua3 fun _ _ _=>rfl
theorem aH7 : X9.okB = true:=by kernel_rfl
theorem aI4 : rd cC9 zcs zbl X9 = Y0:=by kernel_rfl
def cC8 : Tab:=("blended_cover", Y0,3) :: cC9
def V6 : Fd:={ x := "blended_colour", st:=i8,ps:=["manner", "c", "d", "x", "y"],N:=["manner", "c", "d", "x", "y", "through"],old:=true }
theorem aF5 : Bd V6:=fun _ _ _ _ _ _=>ua5 fun _ _ _ _ _=>rfl
theorem aE0 : V6.okB = true:=by kernel_rfl
theorem aF1 : rd cC8 zcs zbl V6 = V9:=by kernel_rfl
def cC7 : Tab:=("blended_colour", V9,5) :: cC8
def aq8 : Fd:={ x := "blended", st:=aD2,ps:=["manner", "above", "below"],N:=["manner", "above", "below", "c", "d", "colours"],old:=true,hc:=[((107,14),[0,3,4])] }
theorem bR2 : Bd aq8:=fun _ _ _ _ _ _=>ua3 fun _ _ _=>rfl
theorem bJ5 : aq8.okB = true:=by kernel_rfl
theorem bN7 : rd cC7 zcs zbl aq8 = aa2:=by kernel_rfl
def cC6 : Tab:=("blended", aa2,3) :: cC7
def aq6 : Fd:={ x := "by_rule", st:=aD0,ps:=["rule", "spot"],N:=["rule", "spot", "cover", "red", "green", "blue", "mean"],old:=true }
theorem bR0 : Bd aq6:=fun _ _ _ _ _ _=>ua2 fun _ _=>rfl
theorem bJ3 : aq6.okB = true:=by kernel_rfl
theorem bN5 : rd cC6 zcs zbl aq6 = ar8:=by kernel_rfl
def cC5 : Tab:=("by_rule", ar8,2) :: cC6
def aK2 : Fd:={ x := "mixed", st:=aZ5,ps:=["strength", "new", "old"],N:=["strength", "new", "old"],old:=true }
theorem ct0 : Bd aK2:=fun _ _ _ _ _ _=>ua3 fun _ _ _=>rfl
theorem cm9 : aK2.okB = true:=by kernel_rfl
theorem cs2 : rd cC5 zcs zbl aK2 = aL0:=by kernel_rfl
def cC4 : Tab:=("mixed", aL0,3) :: cC5
def aK0 : Fd:={ x := "toned", st:=aZ3,ps:=["rule", "spot", "strength"],N:=["rule", "spot", "strength"],old:=true,hc:=[((123,17),[2])] }
theorem cs8 : Bd aK0:=fun _ _ _ _ _ _=>ua3 fun _ _ _=>rfl
theorem cm7 : aK0.okB = true:=by kernel_rfl
theorem cs0 : rd cC4 zcs zbl aK0 = aA4:=by kernel_rfl
def cC3 : Tab:=("toned", aA4,3) :: cC4
def aq2 : Fd:={ x := "is_size", st:=aC6,ps:=["thing"],N:=["thing"] }
theorem bQ6 : Bd aq2:=fun _ _ _ _ _ _=>ua1 fun _=>rfl
theorem bI9 : aq2.okB = true:=by kernel_rfl
theorem bN1 : rd cC3 zcs zbl aq2 = aa1:=by kernel_rfl
def cC2 : Tab:=("is_size", aa1,1) :: cC3
def ai3 : Fd:={ x := "is_sized", st:=au1,ps:=["thing"],N:=["thing"] }
theorem by1 : Bd ai3:=fun _ _ _ _ _ _=>ua1 fun _=>rfl
theorem bt0 : ai3.okB = true:=by kernel_rfl
theorem bv9 : rd cC2 zcs zbl ai3 = k6:=by kernel_rfl
def cC1 : Tab:=("is_sized", k6,1) :: cC2
def ai5 : Fd:={ x := "is_sheet", st:=au3,ps:=["thing"],N:=["thing", "spots"] }
theorem by3 : Bd ai5:=fun _ _ _ _ _ _=>ua1 fun _=>rfl
theorem bt2 : ai5.okB = true:=by kernel_rfl
theorem bw1 : rd cC1 zcs zbl ai5 = aj5:=by kernel_rfl
def cC0 : Tab:=("is_sheet", aj5,1) :: cC1
def ac4 : Fd:={ x := "places_of", st:=al2,ps:=["wide", "high"],N:=["wide", "high"],hc:=[((138,11),[0])] }
theorem bo1 : Bd ac4:=fun _ _ _ _ _ _=>ua2 fun _ _=>rfl
theorem bj1 : ac4.okB = true:=by kernel_rfl
theorem bm5 : rd cC0 zcs zbl ac4 = U9:=by kernel_rfl
def cB9 : Tab:=("places_of", U9,2) :: cC0
def ac8 : Fd:={ x := "has_place", st:=al6,ps:=["sheet", "x", "y"],N:=["sheet", "x", "y"] }
theorem bo5 : Bd ac8:=fun _ _ _ _ _ _=>ua3 fun _ _ _=>rfl
theorem bj5 : ac8.okB = true:=by kernel_rfl
theorem bm9 : rd cB9 zcs zbl ac8 = Y8:=by kernel_rfl
def cB8 : Tab:=("has_place", Y8,3) :: cB9
def U1 : Fd:={ x := "number_of_place", st:=Z0,ps:=["sheet", "x", "y"],N:=["sheet", "x", "y"] }
theorem az8 : Bd U1:=fun _ _ _ _ _ _=>ua3 fun _ _ _=>rfl
theorem ay1 : U1.okB = true:=by kernel_rfl
theorem ay8 : rd cB8 zcs zbl U1 = O8:=by kernel_rfl
def cB7 : Tab:=("number_of_place", O8,3) :: cB8
def ao7 : Fd:={ x := "spot_at", st:=aB1,ps:=["sheet", "x", "y"],N:=["sheet", "x", "y"] }
theorem bP1 : Bd ao7:=fun _ _ _ _ _ _=>ua3 fun _ _ _=>rfl
theorem bH4 : ao7.okB = true:=by kernel_rfl
theorem bL6 : rd cB7 zcs zbl ao7 = ar1:=by kernel_rfl
def cB6 : Tab:=("spot_at", ar1,3) :: cB7
def m7 : Fd:={ x := "masked_spot", st:=ad7,ps:=["layer", "x", "y"],N:=["layer", "x", "y", "sheet", "mask", "spot"] }
theorem aT3 : Bd m7:=fun _ _ _ _ _ _=>ua3 fun _ _ _=>rfl
theorem aR4 : m7.okB = true:=by kernel_rfl
theorem aS3 : rd cB6 zcs zbl m7 = n9:=by kernel_rfl
def bT9 : Tab:=("masked_spot", n9,3) :: cB6
def aq7 : Fd:={ x := "brought", st:=aD1,ps:=["node", "x", "y"],N:=["node", "x", "y", "spot"] }
theorem bR1 : Bd aq7:=fun _ _ _ _ _ _=>ua3 fun _ _ _=>rfl
theorem bJ4 : aq7.okB = true:=by kernel_rfl
def k8 : Fd:={ x := "shown_above", st:=ad5,ps:=["node", "below", "x", "y"],N:=["node", "below", "x", "y"] }
theorem aT1 : Bd k8:=fun _ _ _ _ _ _=>ua4 fun _ _ _ _=>rfl
theorem aR2 : k8.okB = true:=by kernel_rfl
def ah6 : Fd:={ x := "shown_by", st:=at3,ps:=["nodes", "x", "y"],N:=["nodes", "x", "y", "spot", "node"] }
theorem bx4 : Bd ah6:=fun _ _ _ _ _ _=>ua3 fun _ _ _=>rfl
theorem bs3 : ah6.okB = true:=by kernel_rfl
theorem bN6 (j : Nat) : rd (("brought", S6 j,3) :: ("shown_above", R9 j,4) :: ("shown_by", R8 j,3) :: bT9) zcs zbl aq7 = S6 (j + 1):=by kernel_rfl
theorem aS1 (j : Nat) : rd (("brought", S6 j,3) :: ("shown_above", R9 j,4) :: ("shown_by", R8 j,3) :: bT9) zcs zbl k8 = R9 (j + 1):=by kernel_rfl
theorem bv2 (j : Nat) : rd (("brought", S6 j,3) :: ("shown_above", R9 j,4) :: ("shown_by", R8 j,3) :: bT9) zcs zbl ah6 = R8 (j + 1):=by kernel_rfl
def cB5 : Tab:=("brought", S6 12,3) :: ("shown_above", R9 12,4) :: ("shown_by", R8 12,3) :: bT9
def X8 : Fd:={ x := "brought_sheet", st:=v2,ps:=["picture", "node"],N:=["picture", "node", "spots"],hc:=[((173,12),[1])] }
theorem aI9 : Bd X8:=fun _ _ _ _ _ _=>ua2 fun _ _=>rfl
theorem aH6 : X8.okB = true:=by kernel_rfl
theorem aI3 : rd cB5 zcs zbl X8 = P2:=by kernel_rfl
def cB4 : Tab:=("brought_sheet", P2,2) :: cB5
def aq5 : Fd:={ x := "flat_at", st:=aC9,ps:=["picture", "x", "y"],N:=["picture", "x", "y"] }
theorem bQ9 : Bd aq5:=fun _ _ _ _ _ _=>ua3 fun _ _ _=>rfl
theorem bJ2 : aq5.okB = true:=by kernel_rfl
theorem bN4 : rd cB4 zcs zbl aq5 = ag3:=by kernel_rfl
def cB3 : Tab:=("flat_at", ag3,3) :: cB4
def be4 : Fd:={ x := "flat", st:=br6,ps:=["picture"],N:=["picture", "spots"],hc:=[((178,12),[0])] }
theorem cR2 : Bd be4:=fun _ _ _ _ _ _=>ua1 fun _=>rfl
theorem cI7 : be4.okB = true:=by kernel_rfl
theorem cQ0 : rd cB3 zcs zbl be4 = ae6:=by kernel_rfl
def cB2 : Tab:=("flat", ae6,1) :: cB3
def aq3 : Fd:={ x := "is_name", st:=aC7,ps:=["thing"],N:=["thing"],tx:=[0] }
theorem bQ7 : Bd aq3:=fun _ _ _ _ _ _=>ua1 fun _=>rfl
theorem bJ0 : aq3.okB = true:=by kernel_rfl
theorem bN2 : rd cB2 zcs zbl aq3 = ar6:=by kernel_rfl
def cB1 : Tab:=("is_name", ar6,1) :: cB2
def ai2 : Fd:={ x := "is_truth", st:=au0,ps:=["thing"],N:=["thing"] }
theorem by0 : Bd ai2:=fun _ _ _ _ _ _=>ua1 fun _=>rfl
theorem bs9 : ai2.okB = true:=by kernel_rfl
theorem bv8 : rd cB1 zcs zbl ai2 = aj4:=by kernel_rfl
def cB0 : Tab:=("is_truth", aj4,1) :: cB1
def ac7 : Fd:={ x := "is_offset", st:=al5,ps:=["thing"],N:=["thing"] }
theorem bo4 : Bd ac7:=fun _ _ _ _ _ _=>ua1 fun _=>rfl
theorem bj4 : ac7.okB = true:=by kernel_rfl
theorem bm8 : rd cB0 zcs zbl ac7 = p9:=by kernel_rfl
def cA9 : Tab:=("is_offset", p9,1) :: cB0
def aq4 : Fd:={ x := "is_mask", st:=aC8,ps:=["thing", "sheet"],N:=["thing", "sheet"] }
theorem bQ8 : Bd aq4:=fun _ _ _ _ _ _=>ua2 fun _ _=>rfl
theorem bJ1 : aq4.okB = true:=by kernel_rfl
theorem bN3 : rd cA9 zcs zbl aq4 = ar7:=by kernel_rfl
def cA8 : Tab:=("is_mask", ar7,2) :: cA9
def S2 : Fd:={ x := "is_layer_of_parts", st:=W2,ps:=["thing"],N:=["thing"] }
theorem as6 : Bd S2:=fun _ _ _ _ _ _=>ua1 fun _=>rfl
theorem ar9 : S2.okB = true:=by kernel_rfl
theorem as3 : rd cA8 zcs zbl S2 = P4:=by kernel_rfl
def bT8 : Tab:=("is_layer_of_parts", P4,1) :: cA8
def S3 : Fd:={ x := "is_group_of_nodes", st:=W3,ps:=["thing", "deepest"],N:=["thing", "deepest"] }
theorem as7 : Bd S3:=fun _ _ _ _ _ _=>ua2 fun _ _=>rfl
theorem as0 : S3.okB = true:=by kernel_rfl
def X7 : Fd:={ x := "has_node_form", st:=u9,ps:=["thing", "deepest"],N:=["thing", "deepest"] }
theorem aI8 : Bd X7:=fun _ _ _ _ _ _=>ua2 fun _ _=>rfl
theorem aH5 : X7.okB = true:=by kernel_rfl
def ac9 : Fd:={ x := "are_nodes", st:=al7,ps:=["thing", "deepest"],N:=["thing", "deepest"],hc:=[((215,44),[1])] }
theorem bo6 : Bd ac9:=fun _ _ _ _ _ _=>ua2 fun _ _=>rfl
theorem bj6 : ac9.okB = true:=by kernel_rfl
theorem as4 (j : Nat) : rd (("is_group_of_nodes", M9 j,2) :: ("has_node_form", N1 j,2) :: ("are_nodes", P7 j,2) :: bT8) zcs zbl S3 = M9 (j + 1):=by kernel_rfl
theorem aI2 (j : Nat) : rd (("is_group_of_nodes", M9 j,2) :: ("has_node_form", N1 j,2) :: ("are_nodes", P7 j,2) :: bT8) zcs zbl X7 = N1 (j + 1):=by kernel_rfl
theorem bn0 (j : Nat) : rd (("is_group_of_nodes", M9 j,2) :: ("has_node_form", N1 j,2) :: ("are_nodes", P7 j,2) :: bT8) zcs zbl ac9 = P7 (j + 1):=by kernel_rfl
def cA7 : Tab:=("is_group_of_nodes", M9 12,2) :: ("has_node_form", N1 12,2) :: ("are_nodes", P7 12,2) :: bT8
def m4 : Fd:={ x := "names_among", st:=ad6,ps:=["nodes"],N:=["nodes", "names", "node"],own:=[1],fz:=[(222,[1])] }
theorem aT2 : Bd m4:=fun _ _ _ _ _ _=>ua1 fun _=>rfl
theorem aR3 : m4.okB = true:=by kernel_rfl
theorem aS2 (j : Nat) : rd (("names_among", F8 j,1) :: cA7) zcs zbl m4 = F8 (j + 1):=by kernel_rfl
def cA6 : Tab:=("names_among", F8 12,1) :: cA7
def T2 : Fd:={ x := "are_names_unlike", st:=Y2,ps:=["nodes"],N:=["nodes", "names"] }
theorem aw2 : Bd T2:=fun _ _ _ _ _ _=>ua1 fun _=>rfl
theorem au9 : T2.okB = true:=by kernel_rfl
theorem av6 : rd cA6 zcs zbl T2 = T4:=by kernel_rfl
def cA5 : Tab:=("are_names_unlike", T4,1) :: cA6
def x6 : Fd:={ x := "is_picture", st:=ah0,ps:=["thing"],N:=["thing"] }
theorem bf5 : Bd x6:=fun _ _ _ _ _ _=>ua1 fun _=>rfl
theorem bb6 : x6.okB = true:=by kernel_rfl
theorem be2 : rd cA5 zcs zbl x6 = b0:=by kernel_rfl
def cA4 : Tab:=("is_picture", b0,1) :: cA5
def ah9 : Fd:={ x := "names_in", st:=at7,ps:=["picture"],N:=["picture"] }
theorem bx7 : Bd ah9:=fun _ _ _ _ _ _=>ua1 fun _=>rfl
theorem bs6 : ah9.okB = true:=by kernel_rfl
theorem bv5 : rd cA4 zcs zbl ah9 = Q8:=by kernel_rfl
def cA3 : Tab:=("names_in", Q8,1) :: cA4
def Z6 : Fd:={ x := "number_among", st:=aa3,ps:=["nodes", "name"],N:=["nodes", "name", "number", "node"] }
theorem aP4 : Bd Z6:=fun _ _ _ _ _ _=>ua2 fun _ _=>rfl
theorem aN0 : Z6.okB = true:=by kernel_rfl
theorem aO7 : rd cA3 zcs zbl Z6 = S5:=by kernel_rfl
def cA2 : Tab:=("number_among", S5,2) :: cA3
def w9 : Fd:={ x := "tuple_with", st:=ag7,ps:=["nodes", "name"],N:=["nodes", "name", "node", "told"] }
theorem bf2 : Bd w9:=fun _ _ _ _ _ _=>ua2 fun _ _=>rfl
theorem bb1 : w9.okB = true:=by kernel_rfl
theorem bd9 (j : Nat) : rd (("tuple_with", K3 j,2) :: cA2) zcs zbl w9 = K3 (j + 1):=by kernel_rfl
def cA1 : Tab:=("tuple_with", K3 12,2) :: cA2
def Z7 : Fd:={ x := "nodes_beside", st:=aa4,ps:=["picture", "name"],N:=["picture", "name", "nodes"] }
theorem aP5 : Bd Z7:=fun _ _ _ _ _ _=>ua2 fun _ _=>rfl
theorem aN1 : Z7.okB = true:=by kernel_rfl
theorem aO8 : rd cA1 zcs zbl Z7 = Z8:=by kernel_rfl
def cA0 : Tab:=("nodes_beside", Z8,2) :: cA1
def x4 : Fd:={ x := "node_named", st:=ag8,ps:=["picture", "name"],N:=["picture", "name", "nodes"] }
theorem bf3 : Bd x4:=fun _ _ _ _ _ _=>ua2 fun _ _=>rfl
theorem bb3 : x4.okB = true:=by kernel_rfl
theorem be0 : rd cA0 zcs zbl x4 = Z9:=by kernel_rfl
def cz9 : Tab:=("node_named", Z9,2) :: cA0
def az6 : Fd:={ x := "covers", st:=aM4,ps:=["picture", "node"],N:=["picture", "node"] }
theorem ch6 : Bd az6:=fun _ _ _ _ _ _=>ua2 fun _ _=>rfl
theorem bX8 : az6.okB = true:=by kernel_rfl
theorem cf5 : rd cz9 zcs zbl az6 = ao0:=by kernel_rfl
def cz8 : Tab:=("covers", ao0,2) :: cz9
def V5 : Fd:={ x := "brings_nothing", st:=i7,ps:=["picture", "node"],N:=["picture", "node"] }
theorem aF4 : Bd V5:=fun _ _ _ _ _ _=>ua2 fun _ _=>rfl
theorem aD9 : V5.okB = true:=by kernel_rfl
theorem aF0 : rd cz8 zcs zbl V5 = S7:=by kernel_rfl
def cz7 : Tab:=("brings_nothing", S7,2) :: cz8
def X6 : Fd:={ x := "highest_cover", st:=u8,ps:=["picture", "nodes"],N:=["picture", "nodes", "number", "node"] }
theorem aI7 : Bd X6:=fun _ _ _ _ _ _=>ua2 fun _ _=>rfl
theorem aH4 : X6.okB = true:=by kernel_rfl
theorem aI1 : rd cz7 zcs zbl X6 = T7:=by kernel_rfl
def cz6 : Tab:=("highest_cover", T7,2) :: cz7
def V3 : Fd:={ x := "needless_among", st:=g9,ps:=["picture", "nodes"],N:=["picture", "nodes", "names", "lowest_seen", "number", "node"],own:=[2],fz:=[(276,[2])] }
theorem aF2 : Bd V3:=fun _ _ _ _ _ _=>ua2 fun _ _=>rfl
theorem aD7 : V3.okB = true:=by kernel_rfl
theorem aE8 (j : Nat) : rd (("needless_among", D0 j,2) :: cz6) zcs zbl V3 = D0 (j + 1):=by kernel_rfl
def cz5 : Tab:=("needless_among", D0 12,2) :: cz6
def ah8 : Fd:={ x := "needless", st:=at5,ps:=["picture"],N:=["picture"] }
theorem bx6 : Bd ah8:=fun _ _ _ _ _ _=>ua1 fun _=>rfl
theorem bs5 : ah8.okB = true:=by kernel_rfl
theorem bv4 : rd cz5 zcs zbl ah8 = Y6:=by kernel_rfl
def cz4 : Tab:=("needless", Y6,1) :: cz5
def X5 : Fd:={ x := "nodes_without", st:=u7,ps:=["nodes", "names"],N:=["nodes", "names", "kept", "node"],own:=[2] }
theorem aI6 : Bd X5:=fun _ _ _ _ _ _=>ua2 fun _ _=>rfl
theorem aH3 : X5.okB = true:=by kernel_rfl
theorem aI0 (j : Nat) : rd (("nodes_without", D9 j,2) :: cz4) zcs zbl X5 = D9 (j + 1):=by kernel_rfl
def cz3 : Tab:=("nodes_without", D9 12,2) :: cz4
def ao6 : Fd:={ x := "without", st:=aB0,ps:=["picture", "names"],N:=["picture", "names", "known", "name"] }
theorem bP0 : Bd ao6:=fun _ _ _ _ _ _=>ua2 fun _ _=>rfl
theorem bH3 : ao6.okB = true:=by kernel_rfl
theorem bL5 : rd cz3 zcs zbl ao6 = V7:=by kernel_rfl
def cz2 : Tab:=("without", V7,2) :: cz3
def az5 : Fd:={ x := "_law_cell", st:=aM3,ps:=["_law_script", "_law_k"],N:=["_law_script", "_law_k"],old:=true }
theorem ch5 : Bd az5:=fun _ _ _ _ _ _=>ua2 fun _ _=>rfl
theorem bX7 : az5.okB = true:=by kernel_rfl
theorem cf4 : rd cz2 zcs zbl az5 = aA5:=by kernel_rfl
def cz1 : Tab:=("_law_cell", aA5,2) :: cz2
def ap8 : Fd:={ x := "_law_drawn", st:=aC2,ps:=["_law_script", "_law_k", "_law_many"],N:=["_law_script", "_law_k", "_law_many", "_law_cell_here"],old:=true }
theorem bQ2 : Bd ap8:=fun _ _ _ _ _ _=>ua3 fun _ _ _=>rfl
theorem bI5 : ap8.okB = true:=by kernel_rfl
theorem bM7 : rd cz1 zcs zbl ap8 = A7:=by kernel_rfl
def cz0 : Tab:=("_law_drawn", A7,3) :: cz1
def az3 : Fd:={ x := "_law_made", st:=aM1,ps:=["_law_top", "_law_under"],N:=["_law_top", "_law_under", "_law_one", "_law_by"],old:=true }
theorem ch3 : Bd az3:=fun _ _ _ _ _ _=>ua2 fun _ _=>rfl
theorem bX5 : az3.okB = true:=by kernel_rfl
theorem cf2 : rd cz0 zcs zbl az3 = ab3:=by kernel_rfl
def cy9 : Tab:=("_law_made", ab3,2) :: cz0
def ap3 : Fd:={ x := "_law_times", st:=aB7,ps:=["_law_one", "_law_other"],N:=["_law_one", "_law_other"],old:=true }
theorem bP7 : Bd ap3:=fun _ _ _ _ _ _=>ua2 fun _ _=>rfl
theorem bI0 : ap3.okB = true:=by kernel_rfl
theorem bM2 : rd cy9 zcs zbl ap3 = ar4:=by kernel_rfl
def cy8 : Tab:=("_law_times", ar4,2) :: cy9
def ap5 : Fd:={ x := "_law_share", st:=aB9,ps:=["_law_script", "_law_at"],N:=["_law_script", "_law_at", "_law_under", "_law_drawn_here"],old:=true }
theorem bP9 : Bd ap5:=fun _ _ _ _ _ _=>ua2 fun _ _=>rfl
theorem bI2 : ap5.okB = true:=by kernel_rfl
theorem bM4 : rd cy8 zcs zbl ap5 = P9:=by kernel_rfl
def cy7 : Tab:=("_law_share", P9,2) :: cy8
def az2 : Fd:={ x := "_law_spot", st:=aM0,ps:=["_law_script", "_law_at"],N:=["_law_script", "_law_at", "_law_cover"],old:=true,hc:=[((322,33),[2,0,1])] }
theorem ch2 : Bd az2:=fun _ _ _ _ _ _=>ua2 fun _ _=>rfl
theorem bX4 : az2.okB = true:=by kernel_rfl
theorem cf1 : rd cy7 zcs zbl az2 = V0:=by kernel_rfl
def cy6 : Tab:=("_law_spot", V0,2) :: cy7
def ap4 : Fd:={ x := "_law_sheet", st:=aB8,ps:=["_law_script", "_law_at", "_law_wide", "_law_high"],N:=["_law_script", "_law_at", "_law_wide", "_law_high", "_law_spots"],hc:=[((324,17),[0,1])] }
theorem bP8 : Bd ap4:=fun _ _ _ _ _ _=>ua4 fun _ _ _ _=>rfl
theorem bI1 : ap4.okB = true:=by kernel_rfl
theorem bM3 : rd cy6 zcs zbl ap4 = af9:=by kernel_rfl
def cy5 : Tab:=("_law_sheet", af9,4) :: cy6
def ap7 : Fd:={ x := "_law_names", st:=aC1,ps:=["_law_script", "_law_at", "_law_many"],N:=["_law_script", "_law_at", "_law_many", "_law_is_first", "_law_found", "_law_k", "_law_word"],own:=[4],tx:=[6],fz:=[(335,[4])],hc:=[((332,28),[0,1,5])] }
theorem bQ1 : Bd ap7:=fun _ _ _ _ _ _=>ua3 fun _ _ _=>rfl
theorem bI4 : ap7.okB = true:=by kernel_rfl
theorem bM6 : rd cy5 zcs zbl ap7 = ag0:=by kernel_rfl
def cy4 : Tab:=("_law_names", ag0,3) :: cy5
def az4 : Fd:={ x := "_law_leaf", st:=aM2,ps:=["_law_script", "_law_at", "_law_name", "_law_main"],N:=["_law_script", "_law_at", "_law_name", "_law_main", "_law_strength", "_law_is_shown", "_law_manner", "_law_wide", "_law_high", "_law_mask", "_law_left", "_law_top", "_law_sheet_here"],hc:=[((348,26),[0,1])] }
theorem ch4 : Bd az4:=fun _ _ _ _ _ _=>ua4 fun _ _ _ _=>rfl
theorem bX6 : az4.okB = true:=by kernel_rfl
theorem cf3 : rd cy4 zcs zbl az4 = ab4:=by kernel_rfl
def cy3 : Tab:=("_law_leaf", ab4,4) :: cy4
def ap6 : Fd:={ x := "_law_nodes", st:=aC0,ps:=["_law_script", "_law_at", "_law_most", "_law_names_here"],N:=["_law_script", "_law_at", "_law_most", "_law_names_here", "_law_main", "_law_many", "_law_found", "_law_k", "_law_first", "_law_last", "_law_strength", "_law_manner", "_law_group"],own:=[6],hc:=[((358,17),[0,4,3,1])] }
theorem bQ0 : Bd ap6:=fun _ _ _ _ _ _=>ua4 fun _ _ _ _=>rfl
theorem bI3 : ap6.okB = true:=by kernel_rfl
theorem bM5 : rd cy3 zcs zbl ap6 = ar5:=by kernel_rfl
def cy2 : Tab:=("_law_nodes", ar5,4) :: cy3
def ac6 : Fd:={ x := "_law_picture", st:=al4,ps:=["_law_script", "_law_at", "_law_most", "_law_names_here"],N:=["_law_script", "_law_at", "_law_most", "_law_names_here", "_law_wide", "_law_high"] }
theorem bo3 : Bd ac6:=fun _ _ _ _ _ _=>ua4 fun _ _ _ _=>rfl
theorem bj3 : ac6.okB = true:=by kernel_rfl
theorem bm7 : rd cy2 zcs zbl ac6 = o9:=by kernel_rfl
def cy1 : Tab:=("_law_picture", o9,4) :: cy2
def aK3 : Fd:={ x := "_law_all", st:=aZ6,ps:=["_law_nodes_here"],N:=["_law_nodes_here", "_law_found", "_law_node"],own:=[1],fz:=[(377,[1])] }
theorem ct1 : Bd aK3:=fun _ _ _ _ _ _=>ua1 fun _=>rfl
theorem cn0 : aK3.okB = true:=by kernel_rfl
theorem cs3 (j : Nat) : rd (("_law_all", R4 j,1) :: cy1) zcs zbl aK3 = R4 (j + 1):=by kernel_rfl
def cy0 : Tab:=("_law_all", R4 12,1) :: cy1
def bD6 : Fd:={ x := "law", st:=cu1,ps:=["_law_script"],N:=["_law_script", "_law_names_here", "_law_picture_here", "_law_wide", "_law_high", "_law_nodes_here", "_law_solid", "_law_at", "_law_layer", "_law_told", "_law_left", "_law_shown", "_law_within", "_law_node"],hc:=[((393,7),[11,2]),((395,48),[2]),((397,18),[2]),((399,39),[9]),((401,11),[9])] }
theorem cY9 : Bd bD6:=fun _ _ _ _ _ _=>ua1 fun _=>rfl
theorem cW6 : bD6.okB = true:=by kernel_rfl
theorem cY5 : rd cy0 zcs zbl bD6 = bE8:=by kernel_rfl
theorem cZ9 {P : Program} {w : World} {K : PySem.W.Frag} {mg : Str → Option Value} (M : Md K mg zcs zbl) (h_is_whole : KF K "is_whole" at9) (h_common_divisor : KF K "common_divisor" h9) (h_is_share : KF K "is_share" au4) (h_least_form : KF K "least_form" ag9) (h_is_at_most : KF K "is_at_most" ah1) (h_added : KF K "added" aZ7) (h_lessened : KF K "lessened" at8) (h_times : KF K "times" aZ4) (h_rest_of : KF K "rest_of" aB3) (h_at_most_one : KF K "at_most_one" ad9) (h_kind_of : KF K "kind_of" aC3) (h_is_layer : KF K "is_layer" au5) (h_is_group : KF K "is_group" au6) (h_is_tone : KF K "is_tone" aC4) (h_name_of : KF K "name_of" aB4) (h_manner_of : KF K "manner_of" al3) (h_rule_of : KF K "rule_of" aB2) (h_strength_of : KF K "strength_of" ad4) (h_is_shown : KF K "is_shown" au2) (h_left_of : KF K "left_of" aB6) (h_top_of : KF K "top_of" aL9) (h_mask_of : KF K "mask_of" aB5) (h_sheet_of : KF K "sheet_of" at4) (h_inner_nodes : KF K "inner_nodes" ad8) (h_with_inner_nodes : KF K "with_inner_nodes" Y1) (h_is_spot : KF K "is_spot" aC5) (h_weighted : KF K "weighted" at2) (h_blended_cover : KF K "blended_cover" v3) (h_blended_colour : KF K "blended_colour" i8) (h_blended : KF K "blended" aD2) (h_by_rule : KF K "by_rule" aD0) (h_mixed : KF K "mixed" aZ5) (h_toned : KF K "toned" aZ3) (h_is_size : KF K "is_size" aC6) (h_is_sized : KF K "is_sized" au1) (h_is_sheet : KF K "is_sheet" au3) (h_places_of : KF K "places_of" al2) (h_has_place : KF K "has_place" al6) (h_number_of_place : KF K "number_of_place" Z0) (h_spot_at : KF K "spot_at" aB1) (h_masked_spot : KF K "masked_spot" ad7) (h_brought : KF K "brought" aD1) (h_shown_above : KF K "shown_above" ad5) (h_shown_by : KF K "shown_by" at3) (h_brought_sheet : KF K "brought_sheet" v2) (h_flat_at : KF K "flat_at" aC9) (h_flat : KF K "flat" br6) (h_is_name : KF K "is_name" aC7) (h_is_truth : KF K "is_truth" au0) (h_is_offset : KF K "is_offset" al5) (h_is_mask : KF K "is_mask" aC8) (h_is_layer_of_parts : KF K "is_layer_of_parts" W2) (h_is_group_of_nodes : KF K "is_group_of_nodes" W3) (h_has_node_form : KF K "has_node_form" u9) (h_are_nodes : KF K "are_nodes" al7) (h_names_among : KF K "names_among" ad6) (h_are_names_unlike : KF K "are_names_unlike" Y2) (h_is_picture : KF K "is_picture" ah0) (h_names_in : KF K "names_in" at7) (h_number_among : KF K "number_among" aa3) (h_tuple_with : KF K "tuple_with" ag7) (h_nodes_beside : KF K "nodes_beside" aa4) (h_node_named : KF K "node_named" ag8) (h_covers : KF K "covers" aM4) (h_brings_nothing : KF K "brings_nothing" i7) (h_highest_cover : KF K "highest_cover" u8) (h_needless_among : KF K "needless_among" g9) (h_needless : KF K "needless" at5) (h_nodes_without : KF K "nodes_without" u7) (h_without : KF K "without" aB0) (h_l_cell : KF K "_law_cell" aM3) (h_l_drawn : KF K "_law_drawn" aC2) (h_l_made : KF K "_law_made" aM1) (h_l_times : KF K "_law_times" aB7) (h_l_share : KF K "_law_share" aB9) (h_l_spot : KF K "_law_spot" aM0) (h_l_sheet : KF K "_law_sheet" aB8) (h_l_names : KF K "_law_names" aC1) (h_l_leaf : KF K "_law_leaf" aM2) (h_l_nodes : KF K "_law_nodes" aC0) (h_l_picture : KF K "_law_picture" al4) (h_l_all : KF K "_law_all" aZ6) (base : Heap) : TOk P w K mg base 155 cy0:=by
 have t : TOk P w K mg base 0 tb0:=TOk.nil
 have t : TOk P w K mg base 1 tb1:=t.add M ai1 h_is_whole bx9 bs8 rfl bv7
 have t : TOk P w K mg base 2 tb2:=t.add M V4 h_common_divisor aF3 aD8 rfl aE9
 have t : TOk P w K mg base 3 tb3:=t.add M ai6 h_is_share by4 bt3 rfl bw2
 have t : TOk P w K mg base 4 tb4:=t.add M x5 h_least_form bf4 bb5 rfl be1
 have t : TOk P w K mg base 5 tb5:=t.add M x8 h_is_at_most bf6 bb7 rfl be3
 have t : TOk P w K mg base 6 tb6:=t.add M aK4 h_added ct2 cn1 rfl cs4
 have t : TOk P w K mg base 7 tb7:=t.add M ai0 h_lessened bx8 bs7 rfl bv6
 have t : TOk P w K mg base 8 tb8:=t.add M aK1 h_times cs9 cm8 rfl cs1
 have t : TOk P w K mg base 9 tb9:=t.add M ao9 h_rest_of bP3 bH6 rfl bL8
 have t : TOk P w K mg base 10 cE6:=t.add M m9 h_at_most_one aT5 aR6 rfl aS5
 have t : TOk P w K mg base 11 cE5:=t.add M ap9 h_kind_of bQ3 bI6 rfl bM8
 have t : TOk P w K mg base 12 cE4:=t.add M ai7 h_is_layer by5 bt4 rfl bw3
 have t : TOk P w K mg base 13 cE3:=t.add M ai8 h_is_group by6 bt5 rfl bw4
 have t : TOk P w K mg base 14 cE2:=t.add M aq0 h_is_tone bQ4 bI7 rfl bM9
 have t : TOk P w K mg base 15 cE1:=t.add M ap0 h_name_of bP4 bH7 rfl bL9
 have t : TOk P w K mg base 16 cE0:=t.add M ac5 h_manner_of bo2 bj2 rfl bm6
 have t : TOk P w K mg base 17 cD9:=t.add M ao8 h_rule_of bP2 bH5 rfl bL7
 have t : TOk P w K mg base 18 cD8:=t.add M k7 h_strength_of aT0 aR1 rfl aS0
 have t : TOk P w K mg base 19 cD7:=t.add M ai4 h_is_shown by2 bt1 rfl bw0
 have t : TOk P w K mg base 20 cD6:=t.add M ap2 h_left_of bP6 bH9 rfl bM1
 have t : TOk P w K mg base 21 cD5:=t.add M az1 h_top_of ch1 bX3 rfl cf0
 have t : TOk P w K mg base 22 cD4:=t.add M ap1 h_mask_of bP5 bH8 rfl bM0
 have t : TOk P w K mg base 23 cD3:=t.add M ah7 h_sheet_of bx5 bs4 rfl bv3
 have t : TOk P w K mg base 24 cD2:=t.add M m8 h_inner_nodes aT4 aR5 rfl aS4
 have t : TOk P w K mg base 25 cD1:=t.add M T1 h_with_inner_nodes aw1 au8 rfl av5
 have t : TOk P w K mg base 26 cD0:=t.add M aq1 h_is_spot bQ5 bI8 rfl bN0
 have t : TOk P w K mg base 27 cC9:=t.add M ah5 h_weighted bx3 bs2 rfl bv1
 have t : TOk P w K mg base 28 cC8:=t.add M X9 h_blended_cover aJ0 aH7 rfl aI4
 have t : TOk P w K mg base 29 cC7:=t.add M V6 h_blended_colour aF5 aE0 rfl aF1
 have t : TOk P w K mg base 30 cC6:=t.add M aq8 h_blended bR2 bJ5 rfl bN7
 have t : TOk P w K mg base 31 cC5:=t.add M aq6 h_by_rule bR0 bJ3 rfl bN5
 have t : TOk P w K mg base 32 cC4:=t.add M aK2 h_mixed ct0 cm9 rfl cs2
 have t : TOk P w K mg base 33 cC3:=t.add M aK0 h_toned cs8 cm7 rfl cs0
 have t : TOk P w K mg base 34 cC2:=t.add M aq2 h_is_size bQ6 bI9 rfl bN1
 have t : TOk P w K mg base 35 cC1:=t.add M ai3 h_is_sized by1 bt0 rfl bv9
 have t : TOk P w K mg base 36 cC0:=t.add M ai5 h_is_sheet by3 bt2 rfl bw1
 have t : TOk P w K mg base 37 cB9:=t.add M ac4 h_places_of bo1 bj1 rfl bm5
 have t : TOk P w K mg base 38 cB8:=t.add M ac8 h_has_place bo5 bj5 rfl bm9
 have t : TOk P w K mg base 39 cB7:=t.add M U1 h_number_of_place az8 ay1 rfl ay8
 have t : TOk P w K mg base 40 cB6:=t.add M ao7 h_spot_at bP1 bH4 rfl bL6
 have t : TOk P w K mg base 41 bT9:=t.add M m7 h_masked_spot aT3 aR4 rfl aS3
 have t : TOk P w K mg base 53 cB5:=TOk.rec3 (F1:=S6) (F2:=R9) (F3:=R8) t M aq7 k8 ah6 h_brought h_shown_above h_shown_by bR1 aT1 bx4 bJ4 aR2 bs3 rfl rfl rfl rfl rfl rfl bN6 aS1 bv2 12
 have t : TOk P w K mg base 54 cB4:=t.add M X8 h_brought_sheet aI9 aH6 rfl aI3
 have t : TOk P w K mg base 55 cB3:=t.add M aq5 h_flat_at bQ9 bJ2 rfl bN4
 have t : TOk P w K mg base 56 cB2:=t.add M be4 h_flat cR2 cI7 rfl cQ0
 have t : TOk P w K mg base 57 cB1:=t.add M aq3 h_is_name bQ7 bJ0 rfl bN2
 have t : TOk P w K mg base 58 cB0:=t.add M ai2 h_is_truth by0 bs9 rfl bv8
 have t : TOk P w K mg base 59 cA9:=t.add M ac7 h_is_offset bo4 bj4 rfl bm8
 have t : TOk P w K mg base 60 cA8:=t.add M aq4 h_is_mask bQ8 bJ1 rfl bN3
 have t : TOk P w K mg base 61 bT8:=t.add M S2 h_is_layer_of_parts as6 ar9 rfl as3
 have t : TOk P w K mg base 73 cA7:=TOk.rec3 (F1:=M9) (F2:=N1) (F3:=P7) t M S3 X7 ac9 h_is_group_of_nodes h_has_node_form h_are_nodes as7 aI8 bo6 as0 aH5 bj6 rfl rfl rfl rfl rfl rfl as4 aI2 bn0 12
 have t : TOk P w K mg base 85 cA6:=TOk.rec (F:=F8) t M m4 h_names_among aT2 aR3 rfl rfl aS2 12
 have t : TOk P w K mg base 86 cA5:=t.add M T2 h_are_names_unlike aw2 au9 rfl av6
 have t : TOk P w K mg base 87 cA4:=t.add M x6 h_is_picture bf5 bb6 rfl be2
 have t : TOk P w K mg base 88 cA3:=t.add M ah9 h_names_in bx7 bs6 rfl bv5
 have t : TOk P w K mg base 89 cA2:=t.add M Z6 h_number_among aP4 aN0 rfl aO7
 have t : TOk P w K mg base 101 cA1:=TOk.rec (F:=K3) t M w9 h_tuple_with bf2 bb1 rfl rfl bd9 12
 have t : TOk P w K mg base 102 cA0:=t.add M Z7 h_nodes_beside aP5 aN1 rfl aO8
 have t : TOk P w K mg base 103 cz9:=t.add M x4 h_node_named bf3 bb3 rfl be0
 have t : TOk P w K mg base 104 cz8:=t.add M az6 h_covers ch6 bX8 rfl cf5
 have t : TOk P w K mg base 105 cz7:=t.add M V5 h_brings_nothing aF4 aD9 rfl aF0
 have t : TOk P w K mg base 106 cz6:=t.add M X6 h_highest_cover aI7 aH4 rfl aI1
 have t : TOk P w K mg base 118 cz5:=TOk.rec (F:=D0) t M V3 h_needless_among aF2 aD7 rfl rfl aE8 12
 have t : TOk P w K mg base 119 cz4:=t.add M ah8 h_needless bx6 bs5 rfl bv4
 have t : TOk P w K mg base 131 cz3:=TOk.rec (F:=D9) t M X5 h_nodes_without aI6 aH3 rfl rfl aI0 12
 have t : TOk P w K mg base 132 cz2:=t.add M ao6 h_without bP0 bH3 rfl bL5
 have t : TOk P w K mg base 133 cz1:=t.add M az5 h_l_cell ch5 bX7 rfl cf4
 have t : TOk P w K mg base 134 cz0:=t.add M ap8 h_l_drawn bQ2 bI5 rfl bM7
 have t : TOk P w K mg base 135 cy9:=t.add M az3 h_l_made ch3 bX5 rfl cf2
 have t : TOk P w K mg base 136 cy8:=t.add M ap3 h_l_times bP7 bI0 rfl bM2
 have t : TOk P w K mg base 137 cy7:=t.add M ap5 h_l_share bP9 bI2 rfl bM4
 have t : TOk P w K mg base 138 cy6:=t.add M az2 h_l_spot ch2 bX4 rfl cf1
 have t : TOk P w K mg base 139 cy5:=t.add M ap4 h_l_sheet bP8 bI1 rfl bM3
 have t : TOk P w K mg base 140 cy4:=t.add M ap7 h_l_names bQ1 bI4 rfl bM6
 have t : TOk P w K mg base 141 cy3:=t.add M az4 h_l_leaf ch4 bX6 rfl cf3
 have t : TOk P w K mg base 142 cy2:=t.add M ap6 h_l_nodes bQ0 bI3 rfl bM5
 have t : TOk P w K mg base 143 cy1:=t.add M ac6 h_l_picture bo3 bj3 rfl bm7
 have t : TOk P w K mg base 155 cy0:=TOk.rec (F:=R4) t M aK3 h_l_all ct1 cn0 rfl rfl cs3 12
 exact t
theorem zmd {K : PySem.W.Frag} {h : Heap} {mg : Str → Option Value} {q0 q1 q2 q3t0 q3t1 q3t2 q3t3 q3 q4 : Addr} {e0 e1 e2 e3t0 e3t1 e3t2 e3t3 e3 e4 : Option Addr} {y0 y1 y2 y3t0 y3t1 y3t2 y3t3 y3 y4 : Array (Option Value)} {g0t0 g0t1 g1t0 g1t1 g1t2 g1t3 g1t4 g1t5 g2t0 g2t1 g2t2 g3t0t0 g3t0t1 g3t1t0 g3t1t1 g3t2t0 g3t2t1 g3t3t0 g3t3t1 g4t0 g4t1 g5 g6 g7 g8 : Tok} {n0 n1 n2 n3t0 n3t1 n3t2 n3t3 n3 n4 : Nat} (X : K.In h) (G : h.Ns mainGlobals mg) (p0 : PySem.W.nsIn K mainGlobals "ONE" = some (some (.ref q0))) (r0 : K.lookup q0 = some ⟨.type "tuple", e0,.seq #[.int 1 g0t0,.int 1 g0t1] n0,y0⟩) (p1 : PySem.W.nsIn K mainGlobals "MANNERS" = some (some (.ref q1))) (r1 : K.lookup q1 = some ⟨.type "tuple", e1,.seq #[.str "over" g1t0,.str "multiply" g1t1,.str "screen" g1t2,.str "plus" g1t3,.str "atop" g1t4,.str "cut" g1t5] n1,y1⟩) (p2 : PySem.W.nsIn K mainGlobals "RULES" = some (some (.ref q2))) (r2 : K.lookup q2 = some ⟨.type "tuple", e2,.seq #[.str "turn" g2t0,.str "grey" g2t1,.str "round" g2t2] n2,y2⟩) (p3 : PySem.W.nsIn K mainGlobals "CLEAR" = some (some (.ref q3))) (r3 : K.lookup q3 = some ⟨.type "tuple", e3,.seq #[.ref q3t0,.ref q3t1,.ref q3t2,.ref q3t3] n3,y3⟩) (r3t3 : K.lookup q3t3 = some ⟨.type "tuple", e3t3,.seq #[.int 0 g3t3t0,.int 1 g3t3t1] n3t3,y3t3⟩) (r3t2 : K.lookup q3t2 = some ⟨.type "tuple", e3t2,.seq #[.int 0 g3t2t0,.int 1 g3t2t1] n3t2,y3t2⟩) (r3t1 : K.lookup q3t1 = some ⟨.type "tuple", e3t1,.seq #[.int 0 g3t1t0,.int 1 g3t1t1] n3t1,y3t1⟩) (r3t0 : K.lookup q3t0 = some ⟨.type "tuple", e3t0,.seq #[.int 0 g3t0t0,.int 1 g3t0t1] n3t0,y3t0⟩) (p4 : PySem.W.nsIn K mainGlobals "THIRD" = some (some (.ref q4))) (r4 : K.lookup q4 = some ⟨.type "tuple", e4,.seq #[.int 1 g4t0,.int 3 g4t1] n4,y4⟩) (p5 : PySem.W.nsIn K mainGlobals "GREATEST" = some (some (.int 8 g5))) (p6 : PySem.W.nsIn K mainGlobals "LETTERS" = some (some (.str "abcdefghijklmnopqrstuvwxyz" g6))) (p7 : PySem.W.nsIn K mainGlobals "DEEPEST" = some (some (.int 3 g7))) (p8 : PySem.W.nsIn K mainGlobals "FARTHEST" = some (some (.int 9 g8))) (z0 : PySem.W.nsIn K mainGlobals "all" = some none) (z1 : PySem.W.nsIn K mainGlobals "bool" = some none) (z2 : PySem.W.nsIn K mainGlobals "enumerate" = some none) (z3 : PySem.W.nsIn K mainGlobals "int" = some none) (z4 : PySem.W.nsIn K mainGlobals "isinstance" = some none) (z5 : PySem.W.nsIn K mainGlobals "len" = some none) (z6 : PySem.W.nsIn K mainGlobals "list" = some none) (z7 : PySem.W.nsIn K mainGlobals "range" = some none) (z8 : PySem.W.nsIn K mainGlobals "reversed" = some none) (z9 : PySem.W.nsIn K mainGlobals "set" = some none) (z10 : PySem.W.nsIn K mainGlobals "str" = some none) (z11 : PySem.W.nsIn K mainGlobals "tuple" = some none) (z12 : PySem.W.nsIn K mainGlobals "zip" = some none) : Md K mg zcs zbl:=by
 refine ⟨fun x v e=>PySem.W.mg_of X G e,fun x d e=>?_,fun x e=>?_⟩
 ·unfold zcs at e
  rw [List.lookup_cons] at e
  split at e
  ·rename_i q; cases e; simp only [beq_iff_eq] at q; subst q; exact ⟨_,(Z4 r0 rfl rfl (by show 2 ≤ 1000; decide) (B9 (Q2 1 g0t0) (B9 (Q2 1 g0t1) V2))),PySem.W.mg_of X G p0⟩
  rw [List.lookup_cons] at e
  split at e
  ·rename_i q; cases e; simp only [beq_iff_eq] at q; subst q; exact ⟨_,(Z4 r1 rfl rfl (by show 6 ≤ 1000; decide) (B9 (W8 "over" g1t0) (B9 (W8 "multiply" g1t1) (B9 (W8 "screen" g1t2) (B9 (W8 "plus" g1t3) (B9 (W8 "atop" g1t4) (B9 (W8 "cut" g1t5) V2))))))),PySem.W.mg_of X G p1⟩
  rw [List.lookup_cons] at e
  split at e
  ·rename_i q; cases e; simp only [beq_iff_eq] at q; subst q; exact ⟨_,(Z4 r2 rfl rfl (by show 3 ≤ 1000; decide) (B9 (W8 "turn" g2t0) (B9 (W8 "grey" g2t1) (B9 (W8 "round" g2t2) V2)))),PySem.W.mg_of X G p2⟩
  rw [List.lookup_cons] at e
  split at e
  ·rename_i q; cases e; simp only [beq_iff_eq] at q; subst q; exact ⟨_,(Z4 r3 rfl rfl (by show 4 ≤ 1000; decide) (B9 (Z4 r3t0 rfl rfl (by show 2 ≤ 1000; decide) (B9 (Q2 0 g3t0t0) (B9 (Q2 1 g3t0t1) V2))) (B9 (Z4 r3t1 rfl rfl (by show 2 ≤ 1000; decide) (B9 (Q2 0 g3t1t0) (B9 (Q2 1 g3t1t1) V2))) (B9 (Z4 r3t2 rfl rfl (by show 2 ≤ 1000; decide) (B9 (Q2 0 g3t2t0) (B9 (Q2 1 g3t2t1) V2))) (B9 (Z4 r3t3 rfl rfl (by show 2 ≤ 1000; decide) (B9 (Q2 0 g3t3t0) (B9 (Q2 1 g3t3t1) V2))) V2))))),PySem.W.mg_of X G p3⟩
  rw [List.lookup_cons] at e
  split at e
  ·rename_i q; cases e; simp only [beq_iff_eq] at q; subst q; exact ⟨_,(Z4 r4 rfl rfl (by show 2 ≤ 1000; decide) (B9 (Q2 1 g4t0) (B9 (Q2 3 g4t1) V2))),PySem.W.mg_of X G p4⟩
  rw [List.lookup_cons] at e
  split at e
  ·rename_i q; cases e; simp only [beq_iff_eq] at q; subst q; exact ⟨_,(Q2 8 g5),PySem.W.mg_of X G p5⟩
  rw [List.lookup_cons] at e
  split at e
  ·rename_i q; cases e; simp only [beq_iff_eq] at q; subst q; exact ⟨_,(W8 "abcdefghijklmnopqrstuvwxyz" g6),PySem.W.mg_of X G p6⟩
  rw [List.lookup_cons] at e
  split at e
  ·rename_i q; cases e; simp only [beq_iff_eq] at q; subst q; exact ⟨_,(Q2 3 g7),PySem.W.mg_of X G p7⟩
  rw [List.lookup_cons] at e
  split at e
  ·rename_i q; cases e; simp only [beq_iff_eq] at q; subst q; exact ⟨_,(Q2 9 g8),PySem.W.mg_of X G p8⟩
  cases e
 ·unfold zbl at e
  simp only [List.contains_cons,List.contains_nil,Bool.or_false,Bool.or_eq_true,beq_iff_eq] at e
  rcases e with e | e | e | e | e | e | e | e | e | e | e | e | e
  ·subst e; exact PySem.W.mg_none_of X G z0
  ·subst e; exact PySem.W.mg_none_of X G z1
  ·subst e; exact PySem.W.mg_none_of X G z2
  ·subst e; exact PySem.W.mg_none_of X G z3
  ·subst e; exact PySem.W.mg_none_of X G z4
  ·subst e; exact PySem.W.mg_none_of X G z5
  ·subst e; exact PySem.W.mg_none_of X G z6
  ·subst e; exact PySem.W.mg_none_of X G z7
  ·subst e; exact PySem.W.mg_none_of X G z8
  ·subst e; exact PySem.W.mg_none_of X G z9
  ·subst e; exact PySem.W.mg_none_of X G z10
  ·subst e; exact PySem.W.mg_none_of X G z11
  ·subst e; exact PySem.W.mg_none_of X G z12
structure Qs (K : PySem.W.Frag) : Prop where
 h_is_whole : KF K "is_whole" at9
 h_common_divisor : KF K "common_divisor" h9
 h_is_share : KF K "is_share" au4
 h_least_form : KF K "least_form" ag9
 h_is_at_most : KF K "is_at_most" ah1
 h_added : KF K "added" aZ7
 h_lessened : KF K "lessened" at8
 h_times : KF K "times" aZ4
 h_rest_of : KF K "rest_of" aB3
 h_at_most_one : KF K "at_most_one" ad9
 h_kind_of : KF K "kind_of" aC3
 h_is_layer : KF K "is_layer" au5
 h_is_group : KF K "is_group" au6
 h_is_tone : KF K "is_tone" aC4
 h_name_of : KF K "name_of" aB4
 h_manner_of : KF K "manner_of" al3
 h_rule_of : KF K "rule_of" aB2
 h_strength_of : KF K "strength_of" ad4
 h_is_shown : KF K "is_shown" au2
 h_left_of : KF K "left_of" aB6
 h_top_of : KF K "top_of" aL9
 h_mask_of : KF K "mask_of" aB5
 h_sheet_of : KF K "sheet_of" at4
 h_inner_nodes : KF K "inner_nodes" ad8
 h_with_inner_nodes : KF K "with_inner_nodes" Y1
 h_is_spot : KF K "is_spot" aC5
 h_weighted : KF K "weighted" at2
 h_blended_cover : KF K "blended_cover" v3
 h_blended_colour : KF K "blended_colour" i8
 h_blended : KF K "blended" aD2
 h_by_rule : KF K "by_rule" aD0
 h_mixed : KF K "mixed" aZ5
 h_toned : KF K "toned" aZ3
 h_is_size : KF K "is_size" aC6
 h_is_sized : KF K "is_sized" au1
 h_is_sheet : KF K "is_sheet" au3
 h_places_of : KF K "places_of" al2
 h_has_place : KF K "has_place" al6
 h_number_of_place : KF K "number_of_place" Z0
 h_spot_at : KF K "spot_at" aB1
 h_masked_spot : KF K "masked_spot" ad7
 h_brought : KF K "brought" aD1
 h_shown_above : KF K "shown_above" ad5
 h_shown_by : KF K "shown_by" at3
 h_brought_sheet : KF K "brought_sheet" v2
 h_flat_at : KF K "flat_at" aC9
 h_flat : KF K "flat" br6
 h_is_name : KF K "is_name" aC7
 h_is_truth : KF K "is_truth" au0
 h_is_offset : KF K "is_offset" al5
 h_is_mask : KF K "is_mask" aC8
 h_is_layer_of_parts : KF K "is_layer_of_parts" W2
 h_is_group_of_nodes : KF K "is_group_of_nodes" W3
 h_has_node_form : KF K "has_node_form" u9
 h_are_nodes : KF K "are_nodes" al7
 h_names_among : KF K "names_among" ad6
 h_are_names_unlike : KF K "are_names_unlike" Y2
 h_is_picture : KF K "is_picture" ah0
 h_names_in : KF K "names_in" at7
 h_number_among : KF K "number_among" aa3
 h_tuple_with : KF K "tuple_with" ag7
 h_nodes_beside : KF K "nodes_beside" aa4
 h_node_named : KF K "node_named" ag8
 h_covers : KF K "covers" aM4
 h_brings_nothing : KF K "brings_nothing" i7
 h_highest_cover : KF K "highest_cover" u8
 h_needless_among : KF K "needless_among" g9
 h_needless : KF K "needless" at5
 h_nodes_without : KF K "nodes_without" u7
 h_without : KF K "without" aB0
 h_l_cell : KF K "_law_cell" aM3
 h_l_drawn : KF K "_law_drawn" aC2
 h_l_made : KF K "_law_made" aM1
 h_l_times : KF K "_law_times" aB7
 h_l_share : KF K "_law_share" aB9
 h_l_spot : KF K "_law_spot" aM0
 h_l_sheet : KF K "_law_sheet" aB8
 h_l_names : KF K "_law_names" aC1
 h_l_leaf : KF K "_law_leaf" aM2
 h_l_nodes : KF K "_law_nodes" aC0
 h_l_picture : KF K "_law_picture" al4
 h_l_all : KF K "_law_all" aZ6
 h_law : KF K "law" cu1
theorem cR9 {l : PySem.W.OpenLaw} {q : Program} {loose : List Str} {XP : (Str → Option Value) → Heap → Prop} {YP : World → Heap → Prop} {d : DefRec} {K : Params → PySem.W.Frag} (hn : l.most = some 63) (hdf : d.params.defaults = [])
  (hY : ∀ (w : World) (h : Heap),YP w h → (K w.params).In h) (hd : d.name = "law")
  (F : ∀ (w : World) (mg : Str → Option Value) (h : Heap),(K w.params).In h → h.Ns mainGlobals mg → Md (K w.params) mg zcs zbl)
  (Q : ∀ w : World,Qs (K w.params))
  (M : ∀ ns : List Int,ns.length ≤ 63 → bE8 [.list (ns.map PyData.int)] = some (.bool true)) :
  PySem.W.WalkO q loose XP YP l.row.toRowW d [] (fun f vs=>PySem.call f vs) :=
 L2.ci9 (n:=63) (k:=156) (x := "_law_script") (CX:=fun _=>CX0) (sp:=fun w=>spF (K w.params) 1 bE8) hn (by decide) hdf ⟨rfl,by decide,by decide⟩ hY
  (fun w mg fa h hk hg hm=>by
   have N:=F w mg h hk hg
   have q:=Q w
   rw [hd] at hm
   obtain ⟨fd,b1,b2⟩:=co0 N (fun base=>cZ9 N q.h_is_whole q.h_common_divisor q.h_is_share q.h_least_form q.h_is_at_most q.h_added q.h_lessened q.h_times q.h_rest_of q.h_at_most_one q.h_kind_of q.h_is_layer q.h_is_group q.h_is_tone q.h_name_of q.h_manner_of q.h_rule_of q.h_strength_of q.h_is_shown q.h_left_of q.h_top_of q.h_mask_of q.h_sheet_of q.h_inner_nodes q.h_with_inner_nodes q.h_is_spot q.h_weighted q.h_blended_cover q.h_blended_colour q.h_blended q.h_by_rule q.h_mixed q.h_toned q.h_is_size q.h_is_sized q.h_is_sheet q.h_places_of q.h_has_place q.h_number_of_place q.h_spot_at q.h_masked_spot q.h_brought q.h_shown_above q.h_shown_by q.h_brought_sheet q.h_flat_at q.h_flat q.h_is_name q.h_is_truth q.h_is_offset q.h_is_mask q.h_is_layer_of_parts q.h_is_group_of_nodes q.h_has_node_form q.h_are_nodes q.h_names_among q.h_are_names_unlike q.h_is_picture q.h_names_in q.h_number_among q.h_tuple_with q.h_nodes_beside q.h_node_named q.h_covers q.h_brings_nothing q.h_highest_cover q.h_needless_among q.h_needless q.h_nodes_without q.h_without q.h_l_cell q.h_l_drawn q.h_l_made q.h_l_times q.h_l_share q.h_l_spot q.h_l_sheet q.h_l_names q.h_l_leaf q.h_l_nodes q.h_l_picture q.h_l_all base) bD6 q.h_law cY9 cW6 rfl cY5 hm
   exact ⟨fd,b1,fun base _ _=>b2 base⟩)
  (fun w H a ns hl _ hS=>⟨rfl,H,[.list (ns.map PyData.int)],.bool true,L3.refl _,⟨.ref a,[],rfl,⟨a,_,rfl,hS,Reps.ints ns⟩,rfl⟩,M ns hl,fun v H' Hf' g r=>r⟩) fun _ _ _ _ _ z=>z
end Lk41
def PySem.W.Fast.tw5828537668744294346 : Unit:=()
def PySem.W.Fast.tw4545427203066834630 : Unit:=()
def PySem.W.Fast.tw13656580582336104981 : Unit:=()
def PySem.W.Fast.tw4401487713924129300 : Unit:=()
def PySem.W.Fast.tw10743622545435720979 : Unit:=()
def PySem.W.Fast.tw7002916369472813781 : Unit:=()
def PySem.W.Fast.tw7671876023832046059 : Unit:=()
def PySem.W.Fast.tw14821604223250900274 : Unit:=()
def PySem.W.Fast.tw8274606159355280881 : Unit:=()
def PySem.W.Fast.tw14877259936261893943 : Unit:=()
def PySem.W.Fast.tw3355459557089300944 : Unit:=()
def PySem.W.Fast.tw2086773997602568516 : Unit:=()
def PySem.W.Fast.tw14291785609646935636 : Unit:=()
def PySem.W.Fast.tw7782292913702071335 : Unit:=()
def PySem.W.Fast.tw7046006479929337249 : Unit:=()
def PySem.W.Fast.tw8481441155358014728 : Unit:=()
def PySem.W.Fast.tw16340752271351199336 : Unit:=()
def PySem.W.Fast.tw10876528306686262343 : Unit:=()
def PySem.W.Fast.tw9231736798017670854 : Unit:=()
def PySem.W.Fast.tw17232210762991328923 : Unit:=()
def PySem.W.Fast.tw8447090610810444665 : Unit:=()
def PySem.W.Fast.tw6260863505491774513 : Unit:=()
def PySem.W.Fast.tw16090896177486631963 : Unit:=()
def PySem.W.Fast.tw4709894405933742335 : Unit:=()
def PySem.W.Fast.tw10788622746154054492 : Unit:=()
def PySem.W.Fast.tw466091457929851161 : Unit:=()
def PySem.W.Fast.tw10889657230093442119 : Unit:=()
def PySem.W.Fast.tw7047983532223502413 : Unit:=()
def PySem.W.Fast.tw11882842244024638865 : Unit:=()
def PySem.W.Fast.tw1367368554047444791 : Unit:=()
def PySem.W.Fast.tw10174357859511432527 : Unit:=()
def PySem.W.Fast.tw8563580241151092462 : Unit:=()
def PySem.W.Fast.tw2575328468653600488 : Unit:=()
def PySem.W.Fast.tw16740899694698941022 : Unit:=()
def PySem.W.Fast.tw1556383227585050476 : Unit:=()
def PySem.W.Fast.tw9516132167297655260 : Unit:=()
def PySem.W.Fast.tw4557625931050161773 : Unit:=()
def PySem.W.Fast.tw17688016396644933885 : Unit:=()
def PySem.W.Fast.tw13580263332442714182 : Unit:=()
def PySem.W.Fast.tw12751673340785191959 : Unit:=()
def PySem.W.Fast.tw7072929215549530275 : Unit:=()
def PySem.W.Fast.tw13650453855669960361 : Unit:=()
def PySem.W.Fast.tw14528585627812118549 : Unit:=()
def PySem.W.Fast.tw10622245721079396025 : Unit:=()
def PySem.W.Fast.tw3556115319413157932 : Unit:=()
def PySem.W.Fast.tw15219346327312509138 : Unit:=()
def PySem.W.Fast.tw11669152824811901012 : Unit:=()
def PySem.W.Fast.tw9374908434803951772 : Unit:=()
def PySem.W.Fast.tw8398580149276744013 : Unit:=()
def PySem.W.Fast.tw10298670853026669126 : Unit:=()
def PySem.W.Fast.tw4344671432975732673 : Unit:=()
def PySem.W.Fast.tw3018236042629016951 : Unit:=()
def PySem.W.Fast.tw13401597464642045446 : Unit:=()
def PySem.W.Fast.tw13422861824791039188 : Unit:=()
def PySem.W.Fast.tw9209999497576047887 : Unit:=()
def PySem.W.Fast.tw6391635871685017626 : Unit:=()
def PySem.W.Fast.tw12410617176286306874 : Unit:=()
def PySem.W.Fast.tw12297835436700018426 : Unit:=()
def PySem.W.Fast.tw3371194229827744277 : Unit:=()
def PySem.W.Fast.tw5975311662763282370 : Unit:=()
def PySem.W.Fast.tw3854430837594021224 : Unit:=()
def PySem.W.Fast.tw7883757063733999495 : Unit:=()
def PySem.W.Fast.tw14127918582663167875 : Unit:=()
def PySem.W.Fast.tw13008341320539024513 : Unit:=()
def PySem.W.Fast.tw10655389576245603117 : Unit:=()
def PySem.W.Fast.tw2836156392115893861 : Unit:=()
def PySem.W.Fast.tw7539063302487858998 : Unit:=()
def PySem.W.Fast.tw9644962153965440039 : Unit:=()
def PySem.W.Fast.tw11342338291080766737 : Unit:=()
def PySem.W.Fast.tw430960636126558583 : Unit:=()
def PySem.W.Fast.tw12599312676777435256 : Unit:=()
def PySem.W.Fast.tw16035323145847981666 : Unit:=()
def PySem.W.Fast.tw9337441154683675222 : Unit:=()
def PySem.W.Fast.tw12796854364790939831 : Unit:=()
namespace Lk41
open PySem PySem.W PyProof.Rows
set_option maxHeartbeats 0 in
open_top head for PySem.Challenge.rw_glazework_k41_whole_needless
end Lk41
open PySem PySem.W PyProof.Rows
set_option maxRecDepth 100000 in
set_option maxHeartbeats 0 in
theorem PySem.Challenge.cw_glazework_k41_whole_needless_holds : PySem.Challenge.rw_glazework_k41_whole_needless.Holds := by
 refine Lk41.head ?_
 k_fill
 refine Lk41.cR9 (l:=PySem.Challenge.rw_glazework_k41_whole_needless) rfl rfl (fun w h Y=>PySem.W.kIn_of Y) rfl ?F ?Q Lk41.main
 case F =>
  intro w mg h KX G
  refine' Lk41.zmd KX G ?p0 ?r0 ?p1 ?r1 ?p2 ?r2 ?p3 ?r3 ?r3t3 ?r3t2 ?r3t1 ?r3t0 ?p4 ?r4 ?p5 ?p6 ?p7 ?p8 ?z0 ?z1 ?z2 ?z3 ?z4 ?z5 ?z6 ?z7 ?z8 ?z9 ?z10 ?z11 ?z12
  (case p0=>k_is); (case r0=>k_is); (case p1=>k_is); (case r1=>k_is); (case p2=>k_is); (case r2=>k_is); (case p3=>k_is); (case r3=>k_is); (case r3t3=>k_is); (case r3t2=>k_is); (case r3t1=>k_is); (case r3t0=>k_is); (case p4=>k_is); (case r4=>k_is); (case p5=>k_is); (case p6=>k_is); (case p7=>k_is); (case p8=>k_is); (case z0=>k_is); (case z1=>k_is); (case z2=>k_is); (case z3=>k_is); (case z4=>k_is); (case z5=>k_is); (case z6=>k_is); (case z7=>k_is); (case z8=>k_is); (case z9=>k_is); (case z10=>k_is); (case z11=>k_is); (case z12=>k_is)
 case Q =>
  intro w
  refine ⟨?_,?_,?_,?_,?_,?_,?_,?_,?_,?_,?_,?_,?_,?_,?_,?_,?_,?_,?_,?_,?_,?_,?_,?_,?_,?_,?_,?_,?_,?_,?_,?_,?_,?_,?_,?_,?_,?_,?_,?_,?_,?_,?_,?_,?_,?_,?_,?_,?_,?_,?_,?_,?_,?_,?_,?_,?_,?_,?_,?_,?_,?_,?_,?_,?_,?_,?_,?_,?_,?_,?_,?_,?_,?_,?_,?_,?_,?_,?_,?_,?_,?_,?_⟩
  all_goals (refine' G.cX0 ?a ?l ?c ?k; (case a=>k_is); (case l=>k_is); (case c=>k_is); (case k=>k_is))
