import PyProof.Rows.All
import Wide.All
import OpenK.AllK
import Wide.FinOn
import Lean
import PyProof.EqAt
import PyProof.EqKinds
import PyProof.TupleCall
import PySem.Challenge.RW_glazework_k12_counts
set_option compiler.extract_closed false
noncomputable section
set_option autoImplicit true
set_option Elab.async false
set_option linter.all false
set_option maxRecDepth 100000
namespace L2
open PySem PySem.Spec PyProof.Rows
noncomputable abbrev Key:=Sum Int Str
noncomputable def bx6:Key->Value->Bool
 | .inl k,v=>Value.isInt k v
 | .inr x,v=>Value.isStrOf x v
noncomputable def cc9(w:World):Key->Int
 | .inl k=>hashInt k
 | .inr x=>hashStr w x
theorem F0:∀{k:Key}{v:Value},bx6 k v=true->(∃i t,k=Sum.inl i/\v=Value.int i t)\/(∃x t,k=Sum.inr x/\v=Value.str x t)
 | .inl i,v,h=>by
  obtain⟨t,e⟩:=Value.isInt_shape (k:=i) (v:=v) h
  exact .inl ⟨i,t,rfl,e⟩
 | .inr x,v,h=>by
  obtain⟨t,e⟩:=Value.isStrOf_shape (x:=x) (v:=v) h
  exact .inr ⟨x,t,rfl,e⟩
theorem bI8(a b:Int):decide ((Sum.inl a:Key)=Sum.inl b)=(a==b):=by
 by_cases e:a=b
 ·subst e;simp
 ·have h:¬(Sum.inl a:Key)=Sum.inl b:=fun q=>e (Sum.inl.inj q)
  rw[decide_eq_false h]
  exact(beq_eq_false_iff_ne.mpr e).symm
theorem bI5(a b:Str):decide ((Sum.inr a:Key)=Sum.inr b)=decide (a=b):=by
 by_cases e:a=b
 ·subst e;simp
 ·have h:¬(Sum.inr a:Key)=Sum.inr b:=fun q=>e (Sum.inr.inj q)
  rw[decide_eq_false h,decide_eq_false e]
theorem bI7(a:Int) (b:Str):decide ((Sum.inl a:Key)=Sum.inr b)=false:=decide_eq_false (fun q=>nomatch q)
theorem bI6(a:Str) (b:Int):decide ((Sum.inr a:Key)=Sum.inl b)=false:=decide_eq_false (fun q=>nomatch q)
noncomputable def o8(prog:Program) (w:World):PySem.KeyKind prog w Key where
 is:=bx6
 hash:=cc9 w
 inj:=fun v a b ha hb=>by
  rcases F0 ha with⟨i,t,rfl,rfl⟩|⟨x,t,rfl,rfl⟩
  ·rcases F0 hb with⟨j,u,rfl,e⟩|⟨y,u,rfl,e⟩
   ·injection e with e1 _;rw[e1]
   ·exact nomatch e
  ·rcases F0 hb with⟨j,u,rfl,e⟩|⟨y,u,rfl,e⟩
   ·exact nomatch e
   ·injection e with e1 _;rw[e1]
 byValue:=fun k v h=>by
  rcases F0 h with⟨i,t,rfl,rfl⟩|⟨x,t,rfl,rfl⟩<;>rfl
 pyHash:=fun hv h=>by
  rcases F0 hv with⟨i,t,rfl,rfl⟩|⟨x,t,rfl,rfl⟩
  ·exact wpAny_pyHash_int h
  ·exact wpAny_pyHash_str h
 eqBool:=fun hu hv h=>by
  rcases F0 hu with⟨i,t,rfl,rfl⟩|⟨x,t,rfl,rfl⟩
  ·rcases F0 hv with⟨j,u,rfl,rfl⟩|⟨y,u,rfl,rfl⟩
   ·rw[bI8]at h;exact wpAny_eqBool_int h
   ·rw[bI7]at h;exact SeqAt.EqAt.int_str i t y u _ _ _ _ h
  ·rcases F0 hv with⟨j,u,rfl,rfl⟩|⟨y,u,rfl,rfl⟩
   ·rw[bI6]at h;exact SeqAt.EqAt.str_int x t j u _ _ _ _ h
   ·rw[bI5]at h;exact wpAny_eqBool_str h
 «strs»:=fun k x t v h=>by
  rcases F0 h with⟨i,u,rfl,e⟩|⟨y,u,rfl,e⟩
  ·exact nomatch e
  ·injection e with e1 _
   subst e1
   cases v<;>rfl
end L2
namespace L2
open PySem PySem.Spec PyProof.Rows
inductive V where
 | non|bl (b:Bool)|int (i:Int)|str (x:Str)|byt (b:Array UInt8)|flt (b:UInt64)|ref (a:Addr)|ty (n:String)
 deriving DecidableEq
noncomputable def D2:V->Value->Prop
 | .non,u=>u=Value.none
 | .bl b,u=>u=Value.bool b
 | .int i,u=>∃t,u=Value.int i t
 | .str x,u=>∃t,u=Value.str x t
 | .byt b,u=>∃t,u=Value.bytes b t
 | .flt b,u=>∃t,u=Value.float b t
 | .ref a,u=>u=Value.ref a
 | .ty n,u=>u=Value.type n
noncomputable abbrev B3:List V->List Value->Prop:=Paired D2
theorem B3.length(r:B3 xs us):xs.length=us.length:=Paired.length r
theorem B3.get:∀{xs:List V}{us:List Value}{i:Nat}{x:V},B3 xs us->xs[i]? = some x->∃u,us[i]? = some u/\D2 x u
 | _,_,_,_,.nil,e=>by simp at e
 | _,_,0,_,.cons r _,e=>by simp at e;subst e;exact⟨_,rfl,r⟩
 | _,_,i+1,x,.cons _ t,e=>by
  obtain⟨u,h1,h2⟩:=B3.get (i:=i) (x:=x) t (by simpa using e)
  exact⟨u,by simpa using h1,h2⟩
theorem B3.append:∀{xs ys:List V}{us ws:List Value},B3 xs us->B3 ys ws->B3 (xs++ys) (us++ws)
 | _,_,_,_,.nil,s=>s
 | _,_,_,_,.cons r t,s=>.cons r (B3.append t s)
theorem B3.take:∀{xs:List V}{us:List Value}(n:Nat),B3 xs us->B3 (xs.take n) (us.take n)
 | _,_,0,_=>.nil
 | _,_,_+1,.nil=>.nil
 | _,_,n+1,.cons r t=>.cons r (B3.take n t)
theorem B3.drop:∀{xs:List V}{us:List Value}(n:Nat),B3 xs us->B3 (xs.drop n) (us.drop n)
 | _,_,0,r=>r
 | _,_,_+1,.nil=>.nil
 | _,_,n+1,.cons _ t=>B3.drop n t
noncomputable def ca5:Option V->Option Value->Prop
 | some v,some u=>D2 v u
 | none,none=>True
 | _,_=>False
noncomputable def KV{κ:Type}:List (κ×V)->List (κ×Value)->Prop:=Paired fun(p:κ×V) (q:κ×Value)=>p.1=q.1/\D2 p.2 q.2
noncomputable def kV:Key->V
 | .inl i=>.int i
 | .inr x=>.str x
inductive HO where
 /-- a list -/
 | lst (xs:List V)
 /-- a tuple (never changes) -/
 | tup (xs:List V)
 /-- a dict whose keys are ints and texts;one whose keys are tuples of ints and texts (the empty one is both) -/
 | dK (kvs:List (Key×V))|dT (kvs:List (List Key×V))
 /-- a set of ints: its members,its size -/
 | set (S:Int->Bool) (n:Nat)
 /-- an instance of the class at C,its dict at dx,its attributes -/
 | ins (C dx:Addr) (fs:List (Str×V))
 /-- the dict of the instance at x -/
 | own (x:Addr)
 /-- the dict of an exception -/
 | xd (fs:List (Str×V))
 /-- a bound method,f of x -/
 | met (f x:Addr)
 /-- a range object lo,lo+1,.. below hi -/
 | rng (lo hi:Int)
 /-- a thing that is known to the object (the script;a dict while a loop walks it): read,never written while it is so -/
 | frz (o:Obj) (u:HO)
 /-- a code object's table -/
 | tbl (ps:Array Value)
 /-- any other thing,by what is true of its one object (a def of one's own: SetO a S n:=HO.ext fun h=>..) -/
 | ext (φ:Heap->Prop)
noncomputable abbrev Hp:=Addr->Option HO
noncomputable def upd(H:Hp) (a:Addr) (o:HO):Hp:=fun b=>if b=a then some o else H b
theorem A6:upd H a o a=some o:=by unfold upd;rw[if_pos rfl]
theorem A7(h:b≠a):upd H a o b=H b:=by unfold upd;rw[if_neg h]
theorem A8{H:Hp}{a b:Addr}{o:HO}(h:H a=some o) (h':H b=none):a≠b:=by
 intro e;subst e;rw[h]at h';cases h'
noncomputable def ac2(h:Heap) (a:Addr) (items:Array Value):Prop:=∃o,h.get? a=some o/\o.cls=.type "tuple" /\ (∃n,o.data=.seq items n)/\o.dict=none
theorem ac2.tup{h:Heap}{a:Addr}{items:Array Value}(p:ac2 h a items):IsTup h a items:=let⟨o,e,c,d,_⟩:=p;⟨o,e,c,d⟩
theorem ac2.new(h:Heap) (items:Array Value) (n:Nat:=0):ac2 (h.push { cls:=.type "tuple", data:=.seq items n }) h.objs.size items:=⟨_,Heap.get?_push_size _ rfl,rfl,⟨_,rfl⟩,rfl⟩
section
variable (P:Program) (w:World)
noncomputable def E6(H:Hp) (h:Heap) (a:Addr):HO->Prop
 | .lst xs=>xs.length<=sizeLine/\∃(its:List Value) (n:Nat),B3 xs its/\h.get? a=some { cls:=.type "list", data:=.seq its.toArray n }
 | .tup xs=>xs.length<=sizeLine/\∃its:List Value,B3 xs its/\ac2 h a its.toArray
 | .dK kvs=>kvs.length<=sizeLine/\(a==sysModules)=false/\∃vs,KV kvs vs/\h.DictOf (o8 P w) a vs
 | .dT kvs=>kvs.length<=sizeLine/\(a==sysModules)=false/\∃xs:List (List Key×Addr×Value),
   Paired (fun(p:List Key×V) (q:List Key×Addr×Value)=>p.1=q.1/\H q.2.1=some (.tup (p.1.map kV))/\D2 p.2 q.2.2) kvs xs /\
   ∃o es ep,h.get? a=some o/\o.ExactDict/\o.data=.dict es ep/\es.toList=xs.map (entryOfKey (tupleKind (o8 P w)))/\(xs.map (·.1)).Nodup
 | .set S n=>h.SetOf (intKind P w) a S n
 | .ins C dx fs=>H dx=some (.own a)/\fs.length<=1000/\dx≠a/\h.get? a=some (PySem.W.instObj C dx) /\
   ∃mA,h.Ns1 dx mA/\(∀f,ca5 (fs.lookup f) (mA f))/\PySem.Within mA (fs.map (·.1))
 | .own _=>∃o,h.get? a=some o
 | .xd fs=>∃mA,h.Ns1 a mA/\∀f,ca5 (fs.lookup f) (mA f)
 | .rng lo hi=>∃t u v,h.get? a=some { cls:=.type "range", data:=.fields #[.int lo t,.int hi u,.int 1 v] }
 | .frz o u=>h.get? a=some o/\E6 H h a u
 | .tbl ps=>h.get? a=some { cls:=.none,data:=.fields ps }
 | .met f x=>h.get? a=some (PySem.W.methodObj (.ref f) (.ref x))
 | .ext φ=>φ h/\(∃o,h.get? a=some o)/\∀h1 h2:Heap,φ h1->(∀o,h1.get? a=some o->h2.get? a=some o)->φ h2
noncomputable def HOk(H:Hp) (h:Heap):Prop:=∀a o,H a=some o->E6 P w H h a o
end
section
variable {P:Program}{w:World}{H H':Hp}{h h':Heap}{a:Addr}{o:HO}
theorem E6.lt(x:E6 P w H h a o):a < h.objs.size:=by
 cases o with
 | lst xs=>obtain⟨_,_,_,_,e⟩:=x;exact Heap.lt_size e
 | tup xs=>obtain⟨_,_,_,p⟩:=x;exact p.tup.lt
 | dK kvs=>obtain⟨_,_,_,_,o,_,_,e,_⟩:=x;exact Heap.lt_size e
 | dT kvs=>obtain⟨_,_,_,_,o,_,_,e,_⟩:=x;exact Heap.lt_size e
 | set S n=>obtain⟨o,_,_,_,e,_⟩:=x;exact Heap.lt_size e
 | ins C dx fs=>obtain⟨_,_,_,e,_⟩:=x;exact Heap.lt_size e
 | own y=>obtain⟨_,e⟩:=x;exact Heap.lt_size e
 | xd fs=>obtain⟨_,⟨_,_,_,e,_⟩,_⟩:=x;exact Heap.lt_size e
 | rng lo hi=>obtain⟨_,_,_,e⟩:=x;exact Heap.lt_size e
 | frz ob u=>obtain⟨e,_⟩:=x;exact Heap.lt_size e
 | tbl ps=>exact Heap.lt_size (show h.get? a=some _ from x)
 | met f y=>exact Heap.lt_size (show h.get? a=some _ from x)
 | ext φ=>obtain⟨_,⟨_,e⟩,_⟩:=x;exact Heap.lt_size e
theorem Paired.mapP{α β:Type}{F G:α->β->Prop}:∀{l₁:List α}{l₂:List β},Paired F l₁ l₂->(∀a b,F a b->G a b)->Paired G l₁ l₂
 | _,_,.nil,_=>.nil
 | _,_,.cons r t,f=>.cons (f _ _ r) (Paired.mapP t f)
theorem E6.stay(x:E6 P w H h a o) (k:∀b u,(b=a\/H b=some (.own a))->h.get? b=some u->h'.get? b=some u)
  (ho:∀b,H b=some (.own a)->H' b=some (.own a)) (ht:∀b xs,H b=some (.tup xs)->H' b=some (.tup xs)):E6 P w H' h' a o:=by
 induction o with
 | lst xs=>obtain⟨z,its,n,r,e⟩:=x;exact⟨z,its,n,r,k _ _ (.inl rfl) e⟩
 | tup xs=>obtain⟨z,its,r,ob,e,c⟩:=x;exact⟨z,its,r,ob,k _ _ (.inl rfl) e,c⟩
 | dK kvs=>obtain⟨z,y,vs,r,ob,es,ep,e,c⟩:=x;exact⟨z,y,vs,r,ob,es,ep,k _ _ (.inl rfl) e,c⟩
 | dT kvs =>
  obtain⟨z,y,xs,r,ob,es,ep,e,c⟩:=x
  exact⟨z,y,xs,Paired.mapP r fun p q z=>⟨z.1,ht _ _ z.2.1,z.2.2⟩,ob,es,ep,k _ _ (.inl rfl) e,c⟩
 | set S n=>obtain⟨ob,es,ep,t,e,c⟩:=x;exact⟨ob,es,ep,t,k _ _ (.inl rfl) e,c⟩
 | ins C dx fs =>
  obtain⟨d,z,ne,e,mA,⟨od,es,ep,e2,c⟩,r⟩:=x
  exact⟨ho _ d,z,ne,k _ _ (.inl rfl) e,mA,⟨od,es,ep,k _ _ (.inr d) e2,c⟩,r⟩
 | own y=>obtain⟨ob,e⟩:=x;exact⟨ob,k _ _ (.inl rfl) e⟩
 | xd fs=>obtain⟨mA,⟨od,es,ep,e,c⟩,r⟩:=x;exact⟨mA,⟨od,es,ep,k _ _ (.inl rfl) e,c⟩,r⟩
 | rng lo hi=>obtain⟨t,u,v,e⟩:=x;exact⟨t,u,v,k _ _ (.inl rfl) e⟩
 | frz ob u ih=>obtain⟨e,q⟩:=x;exact⟨k _ _ (.inl rfl) e,ih q⟩
 | tbl ps =>
  have e:h.get? a=some { cls:=.none,data:=.fields ps }:=x
  show h'.get? a=some { cls:=.none,data:=.fields ps }
  exact k a _ (.inl rfl) e
 | met f y =>
  have e:h.get? a=some (PySem.W.methodObj (.ref f) (.ref y)):=x
  show h'.get? a=some (PySem.W.methodObj (.ref f) (.ref y))
  exact k a _ (.inl rfl) e
 | ext φ=>obtain⟨p,⟨o,e⟩,st⟩:=x;exact⟨st _ _ p fun o q=>k _ _ (.inl rfl) q,⟨o,k _ _ (.inl rfl) e⟩,st⟩
theorem HOk.lt(x:HOk P w H h) (e:H a=some o):a < h.objs.size:=(x a o e).lt
theorem HOk.fresh(x:HOk P w H h) (e:h.objs.size<=a):H a=none:=by
 cases q:H a with
 | none=>rfl
 | some u=>exact absurd (Nat.lt_of_lt_of_le (x.lt q) e) (Nat.lt_irrefl _)
theorem HOk.kept(x:HOk P w H h) (k:∀b u,h.get? b=some u->h'.get? b=some u):HOk P w H h':=fun a o e =>
 (x a o e).stay (fun b u _ q=>k b u q) (fun _ q=>q) fun _ _ q=>q
theorem HOk.laid(x:HOk P w H h) (k:∀b u,h.get? b=some u->h'.get? b=some u) (hp:h.objs.size<=a) (new:E6 P w (upd H a o) h' a o):HOk P w (upd H a o) h':=fun b u e=>by
 have hn:=x.fresh hp
 by_cases hb:b=a
 ·subst hb;rw[A6]at e;cases e;exact new
 ·rw[A7 hb]at e
  exact(x b u e).stay (fun c v _ q=>k c v q) (fun c q=>by rw[A7 (A8 q hn)];exact q) fun c xs q=>by rw[A7 (A8 q hn)];exact q
end
noncomputable def Rd(H:Hp) (a:Addr) (u:HO):Prop:=H a=some u\/∃o,H a=some (.frz o u)
theorem Rd.ok(r:Rd H a u) (x:HOk P w H h):E6 P w H h a u:=by
 rcases r with r|⟨o,r⟩
 ·exact x a u r
 ·obtain⟨_,q⟩:=x a _ r
  exact q
noncomputable def Mut:Option HO->Prop
 | some (.lst _)=>True
 | some (.dK _)=>True
 | some (.dT _)=>True
 | some (.set _ _)=>True
 | some (.ins _ _ _)=>True
 | some (.ext _)=>True
 | _=>False
section
variable {P:Program}{w:World}{H:Hp}{h h':Heap}{x e:Addr}{o':HO}
theorem HOk.write(ok:HOk P w H h) (mu:Mut (H x)) (he:e=x\/H e=some (.own x)) (k:∀b u,b≠e->h.get? b=some u->h'.get? b=some u) (heo:∃u,h'.get? e=some u)
  (new:E6 P w (upd H x o') h' x o'):HOk P w (upd H x o') h':=fun b u q=>by
 have nown:∀c y,H c=some (.own y)->c≠x:=fun c y r z=>by subst z;rw[r]at mu;exact mu
 have ntup:∀c xs,H c=some (.tup xs)->c≠x:=fun c xs r z=>by subst z;rw[r]at mu;exact mu
 by_cases hb:b=x
 ·subst hb;rw[A6]at q;cases q;exact new
 ·rw[A7 hb]at q
  by_cases hbe:b=e
  ·have q':H b=some (.own x):=by
    rcases he with z|z
    ·exact absurd (hbe.trans z) hb
    ·rw[hbe];exact z
   rw[q]at q';cases q'
   obtain⟨v,hv⟩:=heo
   exact⟨v,by rw[hbe];exact hv⟩
  ·refine(ok b u q).stay (fun c v hc r=>k c v ?_ r) (fun c r=>by rw[A7 (nown c b r)];exact r) fun c xs r=>by rw[A7 (ntup c xs r)];exact r
   rcases hc with rfl|hc
   ·exact hbe
   ·rintro rfl
    rcases he with z|z
    ·exact nown c b hc z
    ·rw[hc]at z;cases z;exact hb rfl
end
structure Un (fs ex:List Addr) (H H':Hp) (h h':Heap):Prop where
 keep:∀b o,h.get? b=some o->H b=none->b∉fs->b∉ex->h'.get? b=some o
 slot:∀b o,h.get? b=some o->H b=none->b∈fs->b∉ex->∃sl,h'.get? b=some { o with slots:=sl }
 free:∀b o,h.get? b=some o->H b=none->b∉ex->H' b=none
 there:∀b o,h.get? b=some o->b∉ex->∃o',h'.get? b=some o'
 tups:∀b xs,H b=some (.tup xs)->H' b=some (.tup xs)
 frzs:∀b o u,H b=some (.frz o u)->H' b=some (.frz o u)
 tbls:∀b ps,H b=some (.tbl ps)->∃more,H' b=some (.tbl (ps++more))
section
variable {fs fs' ex ex':List Addr}{H H1 H2:Hp}{h h1 h2 h':Heap}{a x e:Addr}{o:HO}
theorem Un.any(u:Un fs ex H H1 h h1) (q:h.get? b=some ob) (n:H b=none) (hx:b∉ex):∃sl,h1.get? b=some { ob with slots:=sl }:=by
 by_cases hb:b∈fs
 ·exact u.slot b ob q n hb hx
 ·exact⟨ob.slots,u.keep b ob q n hb hx⟩
theorem Un.kept(k:∀b u,h.get? b=some u->h'.get? b=some u):Un fs ex H H h h' :=
 ⟨fun b ob q _ _ _=>k b ob q,fun b ob q _ _ _=>⟨ob.slots,k b ob q⟩,fun _ _ _ n _=>n,fun b ob q _=>⟨ob,k b ob q⟩,fun _ _ q=>q,fun _ _ _ q=>q,fun _ ps q=>⟨#[],by rw[q];simp⟩⟩
theorem Un.refl:Un fs ex H H h h:=Un.kept fun _ _ q=>q
theorem Un.laid(k:∀b u,h.get? b=some u->h'.get? b=some u) (hp:h.objs.size<=a) (hn:H a=none):Un fs ex H (upd H a o) h h' where
 keep:=fun b u q _ _ _=>k b u q
 slot:=fun b u q _ _ _=>⟨u.slots,k b u q⟩
 free:=fun b u q n _=>by rw[A7 (Nat.ne_of_lt (Nat.lt_of_lt_of_le (Heap.lt_size q) hp))];exact n
 there:=fun b u q _=>⟨u,k b u q⟩
 tups:=fun b xs q=>by rw[A7 (A8 q hn)];exact q
 frzs:=fun b u xs q=>by rw[A7 (A8 q hn)];exact q
 tbls:=fun b ps q=>⟨#[],by rw[A7 (A8 q hn),q];simp⟩
theorem Un.write(mu:Mut (H x)) (he:e=x\/H e=some (.own x)) (k:∀b u,b≠e->h.get? b=some u->h'.get? b=some u) (heo:∃u,h'.get? e=some u):Un fs ex H (upd H x o) h h':=by
 have hx:∀b,H b=none->b≠x:=fun b n z=>by subst z;rw[n]at mu;exact mu
 have hb:∀b,H b=none->b≠e:=fun b n z=>by
  subst z
  rcases he with r|r
  ·exact hx b n r
  ·rw[n]at r;cases r
 have hm:∀b u,H b=some u->¬Mut (some u)->b≠x:=fun b u q nm z=>by subst z;rw[q]at mu;exact nm mu
 refine⟨fun b u q n _ _=>k b u (hb b n) q,fun b u q n _ _=>⟨u.slots,k b u (hb b n) q⟩,fun b u q n _=>by rw[A7 (hx b n)];exact n,fun b u q _=>?_,
  fun b xs q=>by rw[A7 (hm b _ q fun z=>z)];exact q,fun b u xs q=>by rw[A7 (hm b _ q fun z=>z)];exact q,fun b ps q=>⟨#[],by rw[A7 (hm b _ q fun z=>z),q];simp⟩⟩
 by_cases hbe:b=e
 ·subst hbe;exact heo
 ·exact⟨u,k b u hbe q⟩
end
noncomputable def trk(h:Heap) (H:Hp):List Addr:=(List.range h.objs.size).filter fun a=>(H a).isSome
noncomputable def ak0(h:Heap) (H:Hp):Heap:=PySem.W.hideAll h (trk h H)
theorem aN1(h:Heap) (H:Hp):(ak0 h H).objs.size=h.objs.size:=PySem.W.hideAll_size _ _
theorem bc3(e:h.get? b=some o) (n:H b=none):(ak0 h H).get? b=some o :=
 PySem.W.hideAll_get _ e fun hm=>by
  have q:(H b).isSome=true:=(List.mem_filter.mp hm).2
  rw[n]at q;simp at q
theorem bo3(e:(ak0 h H).get? b=some o):h.get? b=some o/\H b=none:=by
 have e':h.get? b=some o:=PySem.W.of_hideAll (trk h H) e
 refine⟨e',?_⟩
 cases q:H b with
 | none=>rfl
 | some x =>
  have hm:b∈trk h H:=List.mem_filter.mpr ⟨List.mem_range.mpr (Heap.lt_size e'),by simp[q]⟩
  have z:(ak0 h H).get? b=none:=PySem.W.hideAll_none (trk h H) hm
  rw[z]at e;cases e
noncomputable def bv5(g h:Heap) (L:Addr):List (Addr×Obj):=(List.range h.objs.size).filterMap fun a=>if a=L\/(g.get? a).isSome=true then none else(h.get? a).map fun o=>(a,o)
noncomputable def D7(g h:Heap) (L d:Addr):List (Addr×Obj):=(bv5 g h L).filter fun p=>decide (p.1≠d)
end L2
namespace L2
open PySem PySem.Spec PyProof.Rows
structure Mod (K:PySem.W.Frag) (mg:Str->Option Value) (base:Heap):Prop where
 kin:K.In base
 glob:base.Ns mainGlobals mg
 blt:∃mb,base.Ns builtinsNs mb/\∀x:Str,x ≠ "__name__" -> mb x=bootBuiltins x
 nolimit:base.NoLimit
structure Cx where
 prog:Program
 w:World
 K:PySem.W.Frag
 mg:Str->Option Value
 base:Heap
 A:Around
 N:List Str
 s₀:Shared
 H₀:Hp
 env:Env
 outer:List Env
 stack:List Env
 ex:List Addr
 fn:Str->Bool
 calm:Bool
 pn:List (Addr×Obj)
 xe:Value->Shared->Prop
noncomputable def frs(l:List Env):List Addr:=l.filterMap (·.frame)
noncomputable abbrev Cx.fs(X:Cx):List Addr:=frs X.outer
noncomputable def Vis(sc:Scope) (x:Str):Prop:=sc.names.lookup x=some .local\/sc.names.lookup x=some .cell\/sc.names.lookup x=some .free
noncomputable def Loc(sc:Scope) (x:Str):Prop:=sc.names.lookup x=some .local\/sc.names.lookup x=some .cell
noncomputable def ce0(env:Env) (h:Heap) (m:Str->Option Value) (x:Str) (u:Value):Prop :=
 (env.kindOf x=some .local/\m x=some u)\/((env.kindOf x=some .cell\/env.kindOf x=some .free)/\∃c,env.cells.lookup x=some c/\h.IsCell c (some u))
structure Cx.Ok (X:Cx):Prop where
 mod:Mod X.K X.mg X.base
 kind:X.env.scope.kind=.function
 glob:X.env.globals=mainGlobals
 blt:X.env.builtins=builtinsNs
 above:X.s₀.heap.objs.size<=X.env.locals
 inj:∀x y c,X.env.cells.lookup x=some c->X.env.cells.lookup y=some c->x=y
 has:∀x,(X.env.kindOf x=some .cell\/X.env.kindOf x=some .free)->∃c,X.env.cells.lookup x=some c
 cab:∀x c,X.fn x=true->X.env.cells.lookup x=some c->X.s₀.heap.objs.size<=c
 hd:X.calm=true->X.A.handled=none
 frames:X.A.frames=some X.stack
 stk:X.stack=X.outer\/(X.stack=X.env::X.outer/\X.env.frame=some X.env.locals)
 exf:∀b∈X.ex,b≠X.env.locals/\∀x c,X.env.cells.lookup x=some c->c≠b
 bs:∀b o,X.base.get? b=some o->X.s₀.heap.get? b=some o/\X.H₀ b=none
 bsz:X.base.objs.size<=X.s₀.heap.objs.size
 noex:∀b o,X.base.get? b=some o->b∉X.ex
 exfs:∀b∈X.ex,b∉X.fs
 funs:X.s₀.heap.FunFrames X.base X.outer
 frf:∀b∈X.fs,X.H₀ b=none
structure Inv (X:Cx) (pins:List (Addr×Obj)) (σ:List (Option V)) (H:Hp) (s:Shared):Prop where
 ok:X.Ok
 os:s.os=X.s₀.os
 bare:AllBare s.gens
 base:Un X.fs X.ex X.H₀ H X.s₀.heap s.heap
 loc:∃m,s.heap.Ns X.env.locals m/\∀(i:Nat) (x:Str) (v:V),X.N[i]? = some x->σ[i]? = some (some v)->Vis X.env.scope x->∃u,D2 v u/\ce0 X.env s.heap m x u
 cell:∀x c,X.env.cells.lookup x=some c->∃v,s.heap.IsCell c v
 free:H X.env.locals=none
 freeC:∀x c,X.env.cells.lookup x=some c->H c=none
 pin:∀p∈X.pn++pins,s.heap.get? p.1=some p.2/\H p.1=none/\p.1≠X.env.locals/\p.1∉X.fs/\∀v,p.2.data≠.cell v
 hok:HOk X.prog X.w H s.heap
 len:σ.length=X.N.length
section
variable {X:Cx}{pins:List (Addr×Obj)}{σ:List (Option V)}{H H':Hp}{s:Shared}{h':Heap}
theorem Cx.Ok.nofr(ok:X.Ok) (e:X.base.get? b=some o):b∉X.fs:=fun hb=>by
 have:=(ok.funs.mem hb).1
 rw[e]at this;cases this
theorem Inv.bs(I:Inv X pins σ H s):∀b o,X.base.get? b=some o->s.heap.get? b=some o/\H b=none:=fun b o e =>
 ⟨I.base.keep b o (I.ok.bs b o e).1 (I.ok.bs b o e).2 (I.ok.nofr e) (I.ok.noex b o e),I.base.free b o (I.ok.bs b o e).1 (I.ok.bs b o e).2 (I.ok.noex b o e)⟩
theorem Inv.bk(I:Inv X pins σ H s):∀b o,X.base.get? b=some o->s.heap.get? b=some o:=fun b o e=>(I.bs b o e).1
theorem Inv.mod(I:Inv X pins σ H s):Mod X.K X.mg X.base:=I.ok.mod
theorem Inv.kIn(I:Inv X pins σ H s):X.K.In s.heap:=I.ok.mod.kin.keeps I.bk
theorem Inv.lt(I:Inv X pins σ H s):X.env.locals < s.heap.objs.size:=let⟨_,hn,_⟩:=I.loc;hn.lt
theorem Inv.sz(I:Inv X pins σ H s):X.s₀.heap.objs.size<=s.heap.objs.size:=Nat.le_trans I.ok.above (Nat.le_of_lt I.lt)
theorem Inv.nofs(I:Inv X pins σ H s) (h:s.heap.objs.size<=a):a∉X.fs:=fun hb=>by
 obtain⟨_,o,ho,_⟩:=I.ok.funs.mem hb
 exact absurd (Nat.lt_of_lt_of_le (Heap.lt_size ho) (Nat.le_trans I.sz h)) (Nat.lt_irrefl _)
theorem Inv.cne(I:Inv X pins σ H s):∀x c,X.env.cells.lookup x=some c->c≠X.env.locals:=fun x c e z=>by
 obtain⟨v,o,ho,hd⟩:=I.cell x c e
 obtain⟨m,⟨o',es,ep,ho',hd',_⟩,_⟩:=I.loc
 rw[z,ho']at ho;cases ho;rw[hd']at hd;cases hd
theorem Inv.funs(I:Inv X pins σ H s):s.heap.FunFrames X.base X.outer:=by
 have all:∀(l:List Env),(∀b∈frs l,b∈X.fs)->X.s₀.heap.FunFrames X.base l->s.heap.FunFrames X.base l:=by
  intro l
  induction l with
  | nil=>intro _ _;trivial
  | cons env r ih =>
   intro hs hl
   obtain⟨hk,⟨L,o,hf,hn,ho,hd⟩,hr⟩:=hl
   have hL:L∈X.fs:=hs L (by unfold frs;rw[List.filterMap_cons,hf];exact List.mem_cons_self)
   obtain⟨sl,e⟩:=I.base.slot L o ho (I.ok.frf L hL) hL fun z=>I.ok.exfs L z hL
   exact⟨hk,⟨L,_,hf,hn,e,hd⟩,ih (fun b hb=>hs b (by unfold frs;rw[List.filterMap_cons,hf];exact List.mem_cons_of_mem _ hb)) hr⟩
 exact all X.outer (fun _ hb=>hb) I.ok.funs
theorem Inv.stack(I:Inv X pins σ H s):s.heap.FunFrames X.base X.stack:=by
 rcases I.ok.stk with e|⟨e,hf⟩
 ·rw[e];exact I.funs
 ·rw[e]
  obtain⟨m,hn,_⟩:=I.loc
  refine .cons (by rw[I.ok.kind];decide) hf hn ?_ I.funs
  exact Heap.get?_none_of_le (Nat.le_trans I.ok.bsz I.ok.above)
theorem Inv.stkSub(I:Inv X pins σ H s):∀b∈frs X.stack,b∈X.env.locals::X.fs:=fun b hb=>by
 rcases I.ok.stk with e|⟨e,hf⟩
 ·rw[e]at hb;exact List.mem_cons_of_mem _ hb
 ·rw[e]at hb
  unfold frs at hb
  rw[List.filterMap_cons,hf]at hb
  exact hb
theorem Inv.stkFree(I:Inv X pins σ H s):∀b∈frs X.stack,H b=none:=fun b hb=>by
 rcases List.mem_cons.mp (I.stkSub b hb) with e|hb
 ·rw[e];exact I.free
 ·obtain⟨_,o,ho,_⟩:=I.ok.funs.mem hb
  exact I.base.free b o ho (I.ok.frf b hb) fun z=>I.ok.exfs b z hb
theorem Inv.step{g':Array GenState}{t':Nat}{d':Drawn}{ch:List Addr}(I:Inv X pins σ H s)
  (hch:∀b∈ch,(b∈X.ex\/X.s₀.heap.objs.size<=b)/\b≠X.env.locals/\(∀x c,X.env.cells.lookup x=some c->c≠b)/\∀p∈X.pn++pins,p.1≠b)
  (keep:∀b o,b≠X.env.locals->b∉X.fs->b∉ch->s.heap.get? b=some o->H b=none->h'.get? b=some o)
  (slot:∀b o,b≠X.env.locals->b∈X.fs->b∉ch->s.heap.get? b=some o->H b=none->∃sl,h'.get? b=some { o with slots:=sl }) (free:∀b o,b∉ch->s.heap.get? b=some o->H b=none->H' b=none)
  (there:∀b o,b∉ch->s.heap.get? b=some o->∃o',h'.get? b=some o')
  (tups:∀b xs,H b=some (.tup xs)->H' b=some (.tup xs)) (frzs:∀b o u,H b=some (.frz o u)->H' b=some (.frz o u)) (tbls:∀b ps,H b=some (.tbl ps)->∃more,H' b=some (.tbl (ps++more)))
  (ns:∀m,s.heap.Ns X.env.locals m->h'.Ns X.env.locals m) (hok:HOk X.prog X.w H' h') (hg:AllBare g') :
  Inv X pins σ H' { s with heap:=h',gens:=g',drawn:=d',toks:=t' }:=by
 have neL:∀b o,X.s₀.heap.get? b=some o->b≠X.env.locals:=fun b o e=>Nat.ne_of_lt (Nat.lt_of_lt_of_le (Heap.lt_size e) I.ok.above)
 have neC:∀b o,X.s₀.heap.get? b=some o->b∉X.ex->b∉ch:=fun b o e hx hb=>by
  rcases(hch b hb).1 with z|z
  ·exact hx z
  ·exact absurd (Nat.lt_of_lt_of_le (Heap.lt_size e) z) (Nat.lt_irrefl _)
 have cellK:∀x c,X.env.cells.lookup x=some c->∀v,s.heap.IsCell c v->h'.IsCell c v:=fun x c e v ⟨o,ho,hd⟩=>by
  have nch:c∉ch:=fun z=>(hch c z).2.2.1 x c e rfl
  by_cases hc:c∈X.fs
  ·obtain⟨sl,q⟩:=slot c o (I.cne x c e) hc nch ho (I.freeC x c e)
   exact⟨_,q,hd⟩
  ·exact⟨o,keep c o (I.cne x c e) hc nch ho (I.freeC x c e),hd⟩
 refine⟨I.ok,I.os,hg,⟨fun b o e n hb hx=>?_,fun b o e n hb hx=>?_,fun b o e n hx=>?_,fun b o e hx=>?_,fun b xs e=>tups b xs (I.base.tups b xs e),fun b o xs e=>frzs b o xs (I.base.frzs b o xs e),fun b ps e=>?_⟩,?_,fun x c e=>?_,?_,fun x c e=>?_,fun p hp=>?_,hok,I.len⟩
 ·exact keep b o (neL b o e) hb (neC b o e hx) (I.base.keep b o e n hb hx) (I.base.free b o e n hx)
 ·obtain⟨sl,e1⟩:=I.base.slot b o e n hb hx
  obtain⟨sl',e2⟩:=slot b _ (neL b o e) hb (neC b o e hx) e1 (I.base.free b o e n hx)
  exact⟨sl',e2⟩
 ·obtain⟨o',e1⟩:=I.base.there b o e hx
  exact free b o' (neC b o e hx) e1 (I.base.free b o e n hx)
 ·obtain⟨o',e1⟩:=I.base.there b o e hx
  exact there b o' (neC b o e hx) e1
 ·obtain⟨m1,e1⟩:=I.base.tbls b ps e
  obtain⟨m2,e2⟩:=tbls b _ e1
  exact⟨m1++m2,by rw[e2,Array.append_assoc]⟩
 ·obtain⟨m,hn,hl⟩:=I.loc
  refine⟨m,ns m hn,fun i x v e1 e2 e3=>?_⟩
  obtain⟨u,r,l⟩:=hl i x v e1 e2 e3
  refine⟨u,r,?_⟩
  rcases l with l|⟨k,c,e,z⟩
  ·exact .inl l
  ·exact .inr ⟨k,c,e,cellK x c e _ z⟩
 ·obtain⟨v,z⟩:=I.cell x c e
  exact⟨v,cellK x c e v z⟩
 ·obtain⟨m,⟨o,_,_,ho,_⟩,_⟩:=I.loc
  exact free _ o (fun z=>(hch _ z).2.1 rfl) ho I.free
 ·obtain⟨v,o,ho,hd⟩:=I.cell x c e
  exact free c o (fun z=>(hch c z).2.2.1 x c e rfl) ho (I.freeC x c e)
 ·obtain⟨e,n,ne,nf,d⟩:=I.pin p hp
  have nch:p.1∉ch:=fun z=>(hch p.1 z).2.2.2 p hp rfl
  exact⟨keep p.1 p.2 ne nf nch e n,free p.1 p.2 nch e n,ne,nf,d⟩
theorem Inv.un{t':Nat}(I:Inv X pins σ H s) (u:Un X.fs [] H H' s.heap h') (hok:HOk X.prog X.w H' h'):Inv X pins σ H' { s with heap:=h',toks:=t' }:=by
 obtain⟨m,⟨o,es,ep,ho,r⟩,_⟩:=id I.loc
 obtain⟨sl,hL⟩:=u.any ho I.free (by simp)
 exact I.step (g':=s.gens) (d':=s.drawn) (ch:=[]) (fun _ z=>nomatch z) (fun b o _ hb _ e n=>u.keep b o e n hb (by simp)) (fun b o _ hb _ e n=>u.slot b o e n hb (by simp)) (fun b o _ e n=>u.free b o e n (by simp)) (fun b o _ e=>u.there b o e (by simp)) u.tups u.frzs u.tbls (fun m' hm=>by
  obtain⟨o',es',ep',ho',r'⟩:=hm
  rw[ho]at ho';cases ho'
  exact⟨_,es',ep',hL,r'⟩) hok I.bare
theorem Inv.call{g':Array GenState}{t':Nat}{d':Drawn}{ch:List Addr}(I:Inv X pins σ H s) (u:Un (frs X.stack) ch H H' s.heap h') (hok:HOk X.prog X.w H' h') (hg:AllBare g')
  (hch:∀b∈ch,(b∈X.ex\/X.s₀.heap.objs.size<=b)/\b≠X.env.locals/\(∀x c,X.env.cells.lookup x=some c->c≠b)/\∀p∈X.pn++pins,p.1≠b) :
  Inv X pins σ H' { s with heap:=h',gens:=g',drawn:=d',toks:=t' }:=by
 obtain⟨m,⟨o,es,ep,ho,r⟩,_⟩:=id I.loc
 obtain⟨sl,hL⟩:=u.any ho I.free fun z=>(hch _ z).2.1 rfl
 exact I.step (ch:=ch) hch (fun b o hL hb hc e n=>u.keep b o e n (fun z=>(List.mem_cons.mp (I.stkSub b z)).elim hL hb) hc) (fun b o _ _ hc e n=>u.any e n hc) (fun b o hc e n=>u.free b o e n hc) (fun b o hc e=>u.there b o e hc) u.tups u.frzs u.tbls (fun m' hm=>by
  obtain⟨o',es',ep',ho',r'⟩:=hm
  rw[ho]at ho';cases ho'
  exact⟨_,es',ep',hL,r'⟩) hok hg
theorem Inv.turned{t':Nat}{it:Addr}(I:Inv X pins σ H s) (k:∀b o,b≠it->s.heap.get? b=some o->h'.get? b=some o) (hn:H it=none) (hL:it≠X.env.locals)
  (h1:it∈X.ex\/X.s₀.heap.objs.size<=it) (h2:∀x c,X.env.cells.lookup x=some c->c≠it) (h3:∀p∈X.pn++pins,p.1≠it):Inv X pins σ H { s with heap:=h',toks:=t' }:=by
 have nit:∀b u,H b=some u->b≠it:=fun b u e z=>by rw[z,hn]at e;cases e
 refine I.step (g':=s.gens) (d':=s.drawn) (ch:=[it]) (fun b hb=>?_) (fun b o _ _ hc e _=>k b o (fun z=>hc (by simp[z])) e) (fun b o _ _ hc e _=>⟨o.slots,k b o (fun z=>hc (by simp[z])) e⟩) (fun _ _ _ _ n=>n)
  (fun b o hc e=>⟨o,k b o (fun z=>hc (by simp[z])) e⟩) (fun _ _ e=>e) (fun _ _ _ e=>e) (fun b ps e=>⟨#[],by rw[e];simp⟩) (fun m hm=>?_) (fun b u e=>?_) I.bare
 ·have e:b=it:=by simpa using hb
  subst e
  exact⟨h1,hL,h2,h3⟩
 ·obtain⟨o,es,ep,ho,r⟩:=hm
  exact⟨o,es,ep,k _ o (Ne.symm hL) ho,r⟩
 ·refine(I.hok b u e).stay (fun c v hc q=>k c v ?_ q) (fun _ q=>q) fun _ _ q=>q
  rcases hc with z|z
  ·rw[z];exact nit b u e
  ·exact nit c _ z
theorem Inv.tok(I:Inv X pins σ H s) (t:Nat):Inv X pins σ H { s with toks:=t }:=I.un (h':=s.heap) (t':=t) Un.refl I.hok
theorem Inv.kept(I:Inv X pins σ H s) (k:∀b u,s.heap.get? b=some u->h'.get? b=some u):Inv X pins σ H { s with heap:=h',toks:=t' }:=I.un (Un.kept k) (I.hok.kept k)
theorem Inv.laid(I:Inv X pins σ H s) (k:∀b u,s.heap.get? b=some u->h'.get? b=some u) (hp:s.heap.objs.size<=a) (new:E6 X.prog X.w (upd H a o) h' a o) :
  Inv X pins σ (upd H a o) { s with heap:=h',toks:=t' }:=I.un (Un.laid k hp (I.hok.fresh hp)) (I.hok.laid k hp new)
theorem Inv.write(I:Inv X pins σ H s) (mu:Mut (H x)) (he:e=x\/H e=some (.own x)) (k:∀b u,b≠e->s.heap.get? b=some u->h'.get? b=some u) (heo:∃u,h'.get? e=some u)
  (new:E6 X.prog X.w (upd H x o) h' x o):Inv X pins σ (upd H x o) { s with heap:=h',toks:=t' }:=I.un (Un.write mu he k heo) (I.hok.write mu he k heo new)
theorem Inv.pins_of(I:Inv X pins σ H s) (h:∀p∈pins',s.heap.get? p.1=some p.2/\H p.1=none/\p.1≠X.env.locals/\p.1∉X.fs/\∀v,p.2.data≠.cell v):Inv X pins' σ H s :=
 ⟨I.ok,I.os,I.bare,I.base,I.loc,I.cell,I.free,I.freeC,fun p hp=>(List.mem_append.mp hp).elim (fun z=>I.pin p (List.mem_append_left _ z)) (h p),I.hok,I.len⟩
theorem ao4{N:List Str}(hN:N.Nodup) {i j:Nat}{x:Str}(a:N[i]? = some x) (b:N[j]? = some x):i=j:=by
 obtain⟨h1,e1⟩:=List.getElem?_eq_some_iff.mp a
 obtain⟨h2,e2⟩:=List.getElem?_eq_some_iff.mp b
 exact(List.getElem_inj hN).mp (e1.trans e2.symm)
theorem ad6(I:Inv X pins σ H s) (hN:X.N.Nodup) (hi:X.N[i]? = some x) (hx:Loc X.env.scope x) (r:D2 v u)
  (h:∀s',Inv X pins (σ.set i (some v)) H s'->(∃a,Heap.SameBut a s.heap s'.heap/\(a=X.env.locals\/X.env.cells.lookup x=some a))->Q () s') (hf:X.fn x=true\/X.env.scope.names.lookup x=some .local:=by first|exact .inl rfl|exact .inr rfl|assumption):wpAny M A (storeName X.env x u) Q E s:=by
 obtain⟨m,hn,hl⟩:=id I.loc
 have hcls:(X.env.scope.kind == .class || (X.env.scope.kind == .module&&X.env.locals != X.env.globals))=false:=by rw[I.ok.kind];rfl
 have hiσ:i < σ.length:=by rw[I.len];exact(List.getElem?_eq_some_iff.mp hi).1
 have cne:=I.cne
 have tracked:∀{a:Addr}{h':Heap},(∃o,s.heap.get? a=some o/\H a=none)->Heap.SameBut a s.heap h'->HOk X.prog X.w H h':=fun{a h'} ha hs b ob e=>by
  obtain⟨_,_,hfree⟩:=ha
  refine(I.hok b ob e).stay (fun c w' hc q=>(hs.2 c ?_).trans q) (fun _ q=>q) fun _ _ q=>q
  rintro rfl
  rcases hc with rfl|hc
  ·rw[hfree]at e;cases e
  ·rw[hfree]at hc;cases hc
 rcases hx with hk|hk
 ·refine wpAny_storeName_local hk hn (fun h' hn' hs=>?_) hcls
  obtain⟨oL,_,_,hoL,_⟩:=id hn
  refine h _ ⟨I.ok,I.os,I.bare,⟨fun b o e n hb hx=>?_,fun b o e n hb hx=>?_,I.base.free,fun b o e hx=>?_,I.base.tups,I.base.frzs,I.base.tbls⟩,⟨_,hn',fun j y v' e1 e2 e3=>?_⟩,fun y c e=>?_,I.free,I.freeC,fun p hp=>?_,tracked ⟨oL,hoL,I.free⟩ hs,by simpa using I.len⟩ ⟨_,hs,.inl rfl⟩
  ·exact(hs.2 b (Nat.ne_of_lt (Nat.lt_of_lt_of_le (Heap.lt_size e) I.ok.above))).trans (I.base.keep b o e n hb hx)
  ·obtain⟨sl,e1⟩:=I.base.slot b o e n hb hx
   exact⟨sl,(hs.2 b (Nat.ne_of_lt (Nat.lt_of_lt_of_le (Heap.lt_size e) I.ok.above))).trans e1⟩
  ·obtain⟨o',e1⟩:=I.base.there b o e hx
   exact⟨o',(hs.2 b (Nat.ne_of_lt (Nat.lt_of_lt_of_le (Heap.lt_size e) I.ok.above))).trans e1⟩
  ·by_cases hj:j=i
   ·subst hj
    rw[hi]at e1;cases e1
    rw[List.getElem?_set_self hiσ]at e2
    cases e2
    exact⟨u,r,.inl ⟨hk,by simp⟩⟩
   ·rw[List.getElem?_set_ne (Ne.symm hj)]at e2
    obtain⟨u',r',q⟩:=hl j y v' e1 e2 e3
    refine⟨u',r',?_⟩
    rcases q with⟨k,e⟩|⟨k,c,e,z⟩
    ·refine .inl ⟨k,?_⟩
     have:y≠x:=fun e=>hj (ao4 hN e1 (e ▸ hi))
     simp[this,e]
    ·exact .inr ⟨k,c,e,z.sameBut hs (cne y c e)⟩
  ·obtain⟨w',z⟩:=I.cell y c e
   exact⟨w',z.sameBut hs (cne y c e)⟩
  ·obtain⟨e,n,ne,nf,d⟩:=I.pin p hp
   exact⟨(hs.2 p.1 ne).trans e,n,ne,nf,d⟩
 ·have hfn:X.fn x=true:=by
   rcases hf with z|z
   ·exact z
   ·rw[z]at hk;cases hk
  obtain⟨c,hc⟩:=I.ok.has x (.inl hk)
  obtain⟨w',z⟩:=I.cell x c hc
  refine wpAny_storeName_cell I.ok.kind hk hc z (fun h' hc' hs=>?_)
  obtain⟨oc,hoc,hocd⟩:=id z
  refine h { s with heap:=h' } ⟨I.ok,I.os,I.bare,⟨fun b o e n hb hx=>?_,fun b o e n hb hx=>?_,I.base.free,fun b o e hx=>?_,I.base.tups,I.base.frzs,I.base.tbls⟩,⟨m,hn.sameBut hs (Ne.symm (cne x c hc)),fun j y v' e1 e2 e3=>?_⟩,fun y c' e=>?_,I.free,I.freeC,fun p hp=>?_,tracked ⟨oc,hoc,I.freeC x c hc⟩ hs,by simpa using I.len⟩ ⟨c,hs,.inr hc⟩
  ·exact(hs.2 b (Nat.ne_of_lt (Nat.lt_of_lt_of_le (Heap.lt_size e) (I.ok.cab x c hfn hc)))).trans (I.base.keep b o e n hb hx)
  ·obtain⟨sl,e1⟩:=I.base.slot b o e n hb hx
   exact⟨sl,(hs.2 b (Nat.ne_of_lt (Nat.lt_of_lt_of_le (Heap.lt_size e) (I.ok.cab x c hfn hc)))).trans e1⟩
  ·obtain⟨o',e1⟩:=I.base.there b o e hx
   exact⟨o',(hs.2 b (Nat.ne_of_lt (Nat.lt_of_lt_of_le (Heap.lt_size e) (I.ok.cab x c hfn hc)))).trans e1⟩
  ·by_cases hj:j=i
   ·subst hj
    rw[hi]at e1;cases e1
    rw[List.getElem?_set_self hiσ]at e2
    cases e2
    exact⟨u,r,.inr ⟨.inl hk,c,hc,hc'⟩⟩
   ·rw[List.getElem?_set_ne (Ne.symm hj)]at e2
    obtain⟨u',r',q⟩:=hl j y v' e1 e2 e3
    refine⟨u',r',?_⟩
    rcases q with q|⟨k,c',e,z'⟩
    ·exact .inl q
    ·refine .inr ⟨k,c',e,z'.sameBut hs ?_⟩
     rintro rfl
     exact hj (ao4 hN e1 (I.ok.inj _ _ _ e hc ▸ hi))
  ·by_cases hcc:c'=c
   ·subst hcc;exact⟨_,hc'⟩
   ·obtain⟨w2,z2⟩:=I.cell y c' e
    exact⟨w2,z2.sameBut hs hcc⟩
  ·obtain⟨e,n,ne,nf,d⟩:=I.pin p hp
   refine⟨(hs.2 p.1 ?_).trans e,n,ne,nf,d⟩
   intro q
   rw[q,hoc]at e
   have q':oc=p.2:=Option.some.inj e
   exact d w' (by rw[← q'];exact hocd)
theorem R5(I:Inv X pins σ H s) (hN:X.N.Nodup) (hi:X.N[i]? = some x) (hx:Loc X.env.scope x) (r:D2 v u)
  (h:∀s',Inv X pins (σ.set i (some v)) H s'->Q () s') (hf:X.fn x=true\/X.env.scope.names.lookup x=some .local:=by first|exact .inl rfl|exact .inr rfl|assumption):wpAny M A (storeName X.env x u) Q E s :=
 ad6 I hN hi hx r (fun s' I' _=>h s' I') hf
theorem Inv.call'(I:Inv X pins σ H s) (ho:s'.os=s.os) (u:Un (frs X.stack) ch H H' s.heap s'.heap) (hok:HOk X.prog X.w H' s'.heap) (hg:AllBare s'.gens)
  (hch:∀b∈ch,(b∈X.ex\/X.s₀.heap.objs.size<=b)/\b≠X.env.locals/\(∀x c,X.env.cells.lookup x=some c->c≠b)/\∀p∈X.pn++pins,p.1≠b):Inv X pins σ H' s':=by
 obtain⟨h',g',d',t',o'⟩:=s'
 have e:o'=s.os:=ho
 subst e
 exact I.call (g':=g') (t':=t') (d':=d') u hok hg hch
end
noncomputable abbrev XK:=Value->Option Addr->Hp->Prop
noncomputable abbrev St:=List (Option V)
noncomputable abbrev VK:=V->Hp->Prop
noncomputable abbrev TE:=St->Hp->VK->Prop
noncomputable abbrev TT:=St->Hp->(Bool->Hp->Prop)->Prop
noncomputable abbrev TA:=St->Hp->(List V->Hp->Prop)->Prop
structure Ends where
 nx:St->Hp->Prop
 rt:VK
 bk:St->Hp->Prop:=fun _ _=>False
 ct:St->Hp->Prop:=fun _ _=>False
noncomputable abbrev TS:=Ends->St->Hp->Prop
noncomputable def EP(X:Cx) (pins:List (Addr×Obj)) (σ:St) (Q:VK) (u:Value) (s':Shared):Prop:=∃v H',Inv X pins σ H' s'/\D2 v u/\Q v H'
noncomputable def TP(X:Cx) (pins:List (Addr×Obj)) (σ:St) (Q:Bool->Hp->Prop) (b:Bool) (s':Shared):Prop:=∃H',Inv X pins σ H' s'/\Q b H'
noncomputable def AP(X:Cx) (pins:List (Addr×Obj)) (σ:St) (Q:List V->Hp->Prop) (us:List Value) (s':Shared):Prop:=∃vs H',Inv X pins σ H' s'/\B3 vs us/\Q vs H'
noncomputable def SP(X:Cx) (pins:List (Addr×Obj)) (D:Ends) (f:Flow) (s':Shared):Prop :=
 match f with
 | .next=>∃σ' H',Inv X pins σ' H' s'/\D.nx σ' H'
 | .brk=>∃σ' H',Inv X pins σ' H' s'/\D.bk σ' H'
 | .cont=>∃σ' H',Inv X pins σ' H' s'/\D.ct σ' H'
 | .ret u=>∃v σ' H',Inv X pins σ' H' s'/\D2 v u/\D.rt v H'
noncomputable def PE(X:Cx) (e:Expr) (t:TE):Prop :=
 ∀(pins:List (Addr×Obj)) (s:Shared) (σ:St) (H:Hp) (Q:VK),Inv X pins σ H s->t σ H Q->wpAny (model X.prog X.w) X.A (eval e X.env) (EP X pins σ Q) X.xe s
noncomputable def PT(X:Cx) (e:Expr) (t:TT):Prop :=
 ∀(pins:List (Addr×Obj)) (s:Shared) (σ:St) (H:Hp) (Q:Bool->Hp->Prop),Inv X pins σ H s->t σ H Q->wpAny (model X.prog X.w) X.A (isTrue e X.env (eval e X.env)) (TP X pins σ Q) X.xe s
noncomputable def PW(X:Cx) (e:Expr) (t:TT):Prop :=
 ∀(whole:Sem Value) (pins:List (Addr×Obj)) (s:Shared) (σ:St) (H:Hp) (Q:Bool->Hp->Prop),Inv X pins σ H s->t σ H Q->wpAny (model X.prog X.w) X.A (isTrue e X.env whole) (TP X pins σ Q) X.xe s
theorem PW.pt(h:PW X e t):PT X e t:=h _
noncomputable def PA(X:Cx) (es:List Expr) (t:TA):Prop :=
 ∀(pos:Pos) (pins:List (Addr×Obj)) (s:Shared) (σ:St) (H:Hp) (Q:List V->Hp->Prop),Inv X pins σ H s->t σ H Q->wpAny (model X.prog X.w) X.A (spliced (backTo pos (starEach es X.env))) (AP X pins σ Q) X.xe s
noncomputable def PS(X:Cx) (st:Stmt) (t:TS):Prop :=
 ∀(pins:List (Addr×Obj)) (s:Shared) (σ:St) (H:Hp) (D:Ends),Inv X pins σ H s->t D σ H->wpAny (model X.prog X.w) X.A (exec st X.env) (SP X pins D) X.xe s
noncomputable def PSs(X:Cx) (st:List Stmt) (t:TS):Prop :=
 ∀(pins:List (Addr×Obj)) (s:Shared) (σ:St) (H:Hp) (D:Ends),Inv X pins σ H s->t D σ H->wpAny (model X.prog X.w) X.A (execs st X.env) (SP X pins D) X.xe s
theorem thn{α:Type}{t:Sem α}{Q Q':α->Shared->Prop}{M:Model}{A:Around}{E:Value->Shared->Prop}{s:Shared}(h:wpAny M A t Q E s) (hQ:∀a s,Q a s->Q' a s):wpAny M A t Q' E s:=wpAny_mono h hQ fun _ _ x=>x
end L2
namespace L2
open PySem PySem.Spec PyProof.Rows
section
variable {X:Cx}
theorem bin{a b:Expr}{ta tb:TE}(ha:PE X a ta) (hb:PE X b tb) {pins:List (Addr×Obj)}{s:Shared}{σ:St}{H:Hp}{R:V->V->Hp->Prop}(I:Inv X pins σ H s) (h:ta σ H fun x H1=>tb σ H1 fun y H2=>R x y H2)
  {α:Type}{Q:α->Shared->Prop}{f:Value->Value->Sem α}
  (hf:∀v u s2 x y H2,Inv X pins σ H2 s2->D2 x v->D2 y u->R x y H2->wpAny (model X.prog X.w) X.A (f v u) Q X.xe s2) :
  wpAny (model X.prog X.w) X.A (eval a X.env) (fun v s₁=>wpAny (model X.prog X.w) X.A (eval b X.env) (fun u s₂=>wpAny (model X.prog X.w) X.A (f v u) Q X.xe s₂) X.xe s₁) X.xe s:=by
 refine thn (ha pins s σ H _ I h) fun v s1 ⟨x,H1,I1,r1,q1⟩=>?_
 refine thn (hb pins s1 σ H1 _ I1 q1) fun u s2 ⟨y,H2,I2,r2,q2⟩=>?_
 exact hf v u s2 x y H2 I2 r1 r2 q2
noncomputable def ag8(i:Nat):TE:=fun σ H Q=>∃v,σ[i]? = some (some v)/\Q v H
noncomputable def tC(v:V):TE:=fun _ H Q=>Q v H
theorem J4(hN:X.N[i]? = some x) (hv:Vis X.env.scope x) (hd:(x==("__debug__" : Str))=false:=by decide) (hcd:(x==("__classdict__" : Str))=false:=by decide):PE X (.Name x pos) (ag8 i):=by
 intro pins s σ H Q I h
 obtain⟨v,e,h⟩:=h
 obtain⟨m,hn,hl⟩:=I.loc
 obtain⟨u,r,l⟩:=hl i x v hN e hv
 have fin:EP X pins σ Q u s:=⟨v,H,I,r,h⟩
 rcases l with⟨hk,hm⟩|⟨hk,c,hc,hcell⟩
 ·exact wpAny_Name (wpAny_loadName_local I.ok.kind hk hn hm fin) hd
 ·rcases hk with hk|hk
  ·exact wpAny_Name (wpAny_loadName_cell I.ok.kind hk hc hcell fin) hd
  ·exact wpAny_Name (wpAny_loadName_free I.ok.kind hk hc hcell fin hcd) hd
theorem av6{i j pos}:PE X (.Constant (.int i) j pos) (tC (.int i)):=fun _ _ _ H _ I h=>wpAny_Constant_int ⟨.int i,H,I.tok _,⟨_,rfl⟩,h⟩
theorem bU2{b j pos}:PE X (.Constant (.bool b) j pos) (tC (.bl b)):=fun _ _ _ H _ I h=>Constant_bool ⟨.bl b,H,I,rfl,h⟩
theorem bF6{j pos}:PE X (.Constant .none j pos) (tC .non):=fun _ _ _ H _ I h=>Constant_none ⟨.non,H,I,rfl,h⟩
theorem bF2{x j pos}:PE X (.Constant (.str x) j pos) (tC (.str x)):=fun _ _ _ H _ I h=>Calls.Constant_str ⟨.str x,H,I.tok _,⟨_,rfl⟩,h⟩
noncomputable def Gl(X:Cx) (x:Str):Prop:=X.env.kindOf x=some .globalImplicit
theorem N4(I:Inv X pins σ H s) (hg:Gl X x) (hm:X.mg x=some u) (h:Q u s)
  (hd:(x==("__debug__" : Str))=false:=by decide):wpAny (model X.prog X.w) X.A (eval (.Name x pos) X.env) Q E s :=
 Calls.Name_function_global I.ok.kind hg (Calls.loadGlobal_global (by rw[I.ok.glob];exact I.mod.glob.keeps I.bk) hm h) hd
theorem aa2(I:Inv X pins σ H s) (hg:Gl X x) (hm:X.mg x=none) (hv:bootBuiltins x=some u) (h:Q u s)
  (hn:x ≠ "__name__" := by decide) (hd:(x==("__debug__" : Str))=false:=by decide):wpAny (model X.prog X.w) X.A (eval (.Name x pos) X.env) Q E s:=by
 obtain⟨mb,h1,h2⟩:=I.mod.blt
 exact Calls.Name_function_global I.ok.kind hg (Calls.loadGlobal_builtin (by rw[I.ok.glob];exact I.mod.glob.keeps I.bk) hm (by rw[I.ok.blt];exact h1.keeps I.bk) ((h2 x hn).trans hv) h) hd
theorem bn0(hg:Gl X x) (hm:X.mg x=some u) (r:D2 v u) (hd:(x==("__debug__" : Str))=false:=by decide):PE X (.Name x pos) (tC v) :=
 fun _ _ _ H _ I h=>N4 I hg hm ⟨v,H,I,r,h⟩ hd
theorem aD0(hg:Gl X x) (hm:X.mg x=none) (hv:bootBuiltins x=some u) (r:D2 v u) (hn:x ≠ "__name__" := by decide) (hd:(x==("__debug__" : Str))=false:=by decide):PE X (.Name x pos) (tC v) :=
 fun _ _ _ H _ I h=>aa2 I hg hm hv ⟨v,H,I,r,h⟩ hn hd
variable {a b:Expr}{ta tb:TE}{pos:Pos}
variable {tA tB':TT}{D7:List Expr}
noncomputable def cc0(t u:TT):TT:=fun σ H Q=>t σ H fun c H1=>if c=true then u σ H1 Q else Q false H1
noncomputable def tOr(t u:TT):TT:=fun σ H Q=>t σ H fun c H1=>if c=true then Q true H1 else u σ H1 Q
noncomputable def cb6(t:TT):TT:=fun σ H Q=>t σ H fun c H1=>Q (!c) H1
theorem bl8(ha:PT X a tA):PW X (.BoolOp .And [a] pos) tA:=by
 intro wh pins s σ H Q I h
 refine isTrue_and (thn (ha pins s σ H Q I h) fun c s1 e=>?_)
 cases c with
 | true=>exact isTrue_and_nil e
 | false=>exact e
theorem bE3(ha:PT X a tA):PW X (.BoolOp .Or [a] pos) tA:=by
 intro wh pins s σ H Q I h
 refine isTrue_or (thn (ha pins s σ H Q I h) fun c s1 e=>?_)
 cases c with
 | false=>exact isTrue_or_nil e
 | true=>exact e
theorem aT6(ha:PT X a tA) (hb:PW X (.BoolOp .And (b::D7) pos) tB'):PW X (.BoolOp .And (a::b::D7) pos) (cc0 tA tB'):=by
 intro wh pins s σ H Q I h
 refine isTrue_and (thn (ha pins s σ H _ I h) fun c s1 ⟨H1,I1,q1⟩=>?_)
 cases c with
 | true=>exact hb wh pins s1 σ H1 Q I1 q1
 | false=>exact⟨H1,I1,q1⟩
theorem bw6(ha:PT X a tA) (hb:PW X (.BoolOp .Or (b::D7) pos) tB'):PW X (.BoolOp .Or (a::b::D7) pos) (tOr tA tB'):=by
 intro wh pins s σ H Q I h
 refine isTrue_or (thn (ha pins s σ H _ I h) fun c s1 ⟨H1,I1,q1⟩=>?_)
 cases c with
 | true=>exact⟨H1,I1,q1⟩
 | false=>exact hb wh pins s1 σ H1 Q I1 q1
theorem bE4(ha:PT X a tA):PT X (.UnaryOp .Not a pos) (cb6 tA):=by
 intro pins s σ H Q I h
 exact isTrue_not (ha pins s σ H (fun c H1=>Q (!c) H1) I h)
noncomputable def bS7(ta tb:TE):TE:=fun σ H Q=>ta σ H fun x H1=>∃c,x=.bl c/\if c=true then tb σ H1 Q else Q (.bl false) H1
noncomputable def cb5(ta tb:TE):TE:=fun σ H Q=>ta σ H fun x H1=>∃c,x=.bl c/\if c=true then Q (.bl true) H1 else tb σ H1 Q
noncomputable def bS0(ta:TE):TE:=fun σ H Q=>ta σ H fun x H1=>∃c,x=.bl c/\Q (.bl (!c)) H1
theorem bF4{op} (h:PE X a t):PE X (.BoolOp op [a] pos) t:=fun pins s σ H Q I hw=>BoolOp_one (h pins s σ H Q I hw)
theorem aV8(ha:PE X a ta) (hb:PE X (.BoolOp .And (b::D7) pos) tb):PE X (.BoolOp .And (a::b::D7) pos) (bS7 ta tb):=by
 intro pins s σ H Q I h
 refine BoolOp_and (thn (ha pins s σ H _ I h) fun v s1 ⟨x,H1,I1,r1,q1⟩=>?_)
 obtain⟨c,rfl,q1⟩:=q1
 cases r1
 refine wpAny_truthy_bool ?_
 cases c with
 | true=>exact hb pins s1 σ H1 Q I1 q1
 | false=>exact⟨.bl false,H1,I1,rfl,q1⟩
theorem bw9(ha:PE X a ta) (hb:PE X (.BoolOp .Or (b::D7) pos) tb):PE X (.BoolOp .Or (a::b::D7) pos) (cb5 ta tb):=by
 intro pins s σ H Q I h
 refine BoolOp_or (thn (ha pins s σ H _ I h) fun v s1 ⟨x,H1,I1,r1,q1⟩=>?_)
 obtain⟨c,rfl,q1⟩:=q1
 cases r1
 refine wpAny_truthy_bool ?_
 cases c with
 | false=>exact hb pins s1 σ H1 Q I1 q1
 | true=>exact⟨.bl true,H1,I1,rfl,q1⟩
theorem bF5(ha:PE X a ta):PE X (.UnaryOp .Not a pos) (bS0 ta):=by
 intro pins s σ H Q I h
 refine UnaryOp_ (thn (ha pins s σ H _ I h) fun v s1 ⟨x,H1,I1,r1,q1⟩=>?_)
 obtain⟨c,rfl,q1⟩:=q1
 cases r1
 exact not_of (wpAny_truthy_bool ⟨.bl (!c),H1,I1,rfl,q1⟩)
noncomputable def tIf(t:TT) (ta tb:TE):TE:=fun σ H Q=>t σ H fun c H1=>if c=true then ta σ H1 Q else tb σ H1 Q
theorem ao1(hc:PT X c tA) (ha:PE X a ta) (hb:PE X b tb):PE X (.IfExp c a b pos) (tIf tA ta tb):=by
 intro pins s σ H Q I h
 refine wpAny_IfExp (thn (hc pins s σ H _ I h) fun d s1 ⟨H1,I1,q1⟩=>?_)
 cases d with
 | true=>exact ha pins s1 σ H1 Q I1 q1
 | false=>exact hb pins s1 σ H1 Q I1 q1
end
end L2
namespace L2
open PySem PySem.Spec PyProof.Rows
noncomputable def SqL(K:PySem.W.Frag) (H:Hp) (a:Addr) (xs:List V):Prop :=
 Rd H a (.lst xs) \/
  ∃(o:Obj) (its:Array Value) (n:Nat),K.lookup a=some o/\o.cls=.type "list" /\ o.dict=none/\o.data=.seq its n/\its.size<=sizeLine/\B3 xs its.toList
noncomputable def SqT(K:PySem.W.Frag) (H:Hp) (a:Addr) (xs:List V):Prop :=
 Rd H a (.tup xs) \/
  ∃(o:Obj) (its:Array Value) (n:Nat),K.lookup a=some o/\o.cls=.type "tuple" /\ o.dict=none/\o.data=.seq its n/\its.size<=sizeLine/\B3 xs its.toList
noncomputable def cd8:Value->Option V
 | .none=>some .non
 | .bool b=>some (.bl b)
 | .int i _=>some (.int i)
 | .str x _=>some (.str x)
 | .bytes b _=>some (.byt b)
 | .float b _=>some (.flt b)
 | .ref a=>some (.ref a)
 | .type n=>some (.ty n)
 | _=>none
theorem D2.abs(r:D2 x u):cd8 u=some x:=by
 cases x with
 | non=>cases r;rfl
 | bl _=>cases r;rfl
 | int _=>obtain⟨t,rfl⟩:=r;rfl
 | str _=>obtain⟨t,rfl⟩:=r;rfl
 | byt _=>obtain⟨t,rfl⟩:=r;rfl
 | flt _=>obtain⟨t,rfl⟩:=r;rfl
 | ref _=>cases r;rfl
 | ty _=>cases r;rfl
theorem D2.inj(r:D2 x u) (q:D2 y u):x=y:=Option.some.inj (r.abs.symm.trans q.abs)
theorem B3.inj:∀{xs ys:List V}{us:List Value},B3 xs us->B3 ys us->xs=ys
 | _,_,_,.nil,.nil=>rfl
 | _,_,_,.cons r t,.cons r' t'=>by rw[r.inj r',B3.inj t t']
section
variable {X:Cx}{pins:List (Addr×Obj)}{σ:St}{H:Hp}{s:Shared}{a:Addr}{xs ys:List V}
theorem SqL.of{K:PySem.W.Frag}(h:H a=some (.lst xs)):SqL K H a xs:=.inl (.inl h)
theorem SqT.of{K:PySem.W.Frag}(h:H a=some (.tup xs)):SqT K H a xs:=.inl (.inl h)
theorem Inv.list(I:Inv X pins σ H s) (h:SqL X.K H a xs):∃its:List Value,B3 xs its/\PlainL s.heap a its.toArray/\xs.length<=sizeLine:=by
 rcases h with h|⟨o,its,n,hk,hc,hd,hs,hz,r⟩
 ·obtain⟨z,its,n,r,e⟩:=h.ok I.hok
  exact⟨its,r,⟨_,n,e,rfl,rfl,rfl⟩,z⟩
 ·refine⟨its.toList,r,⟨o,n,I.kIn a o hk,hc,hd,by simpa using hs⟩,?_⟩
  have e:=r.length
  simp only[Array.length_toList]at e
  omega
theorem Inv.tupN(I:Inv X pins σ H s) (h:SqT X.K H a xs):∃its:List Value,B3 xs its/\ac2 s.heap a its.toArray/\xs.length<=sizeLine:=by
 rcases h with h|⟨o,its,n,hk,hc,hd,hs,hz,r⟩
 ·obtain⟨z,its,r,p⟩:=h.ok I.hok
  exact⟨its,r,p,z⟩
 ·refine⟨its.toList,r,⟨o,I.kIn a o hk,hc,⟨n,by simpa using hs⟩,hd⟩,?_⟩
  have e:=r.length
  simp only[Array.length_toList]at e
  omega
theorem Inv.tuple(I:Inv X pins σ H s) (h:SqT X.K H a xs):∃its:List Value,B3 xs its/\IsTup s.heap a its.toArray/\xs.length<=sizeLine :=
 let⟨its,r,p,z⟩:=I.tupN h;⟨its,r,p.tup,z⟩
theorem Inv.list_inj(I:Inv X pins σ H s) (h:SqL X.K H a xs) (h':SqL X.K H a ys):xs=ys:=by
 obtain⟨its,r,⟨o,n,e,_,_,d⟩,_⟩:=I.list h
 obtain⟨its',r',⟨o',n',e',_,_,d'⟩,_⟩:=I.list h'
 rw[e]at e';cases e'
 rw[d]at d'
 injection d' with d1 _
 have:its=its':=by simpa using congrArg Array.toList d1
 subst this
 exact r.inj r'
theorem Inv.tuple_inj(I:Inv X pins σ H s) (h:SqT X.K H a xs) (h':SqT X.K H a ys):xs=ys:=by
 obtain⟨its,r,⟨o,e,_,n,d⟩,_⟩:=I.tuple h
 obtain⟨its',r',⟨o',e',_,n',d'⟩,_⟩:=I.tuple h'
 rw[e]at e';cases e'
 rw[d]at d'
 injection d' with d1 _
 have:its=its':=by simpa using congrArg Array.toList d1
 subst this
 exact r.inj r'
end
noncomputable abbrev Cx.wish(X:Cx) (E:Value->Shared->Prop):Cx:={ X with xe:=E }
noncomputable abbrev Cx.nox(X:Cx):Cx:=X.wish fun _ _=>False
theorem Cx.Ok.wish{X:Cx}(ok:X.Ok) (E:Value->Shared->Prop):(X.wish E).Ok :=
 ⟨ok.mod,ok.kind,ok.glob,ok.blt,ok.above,ok.inj,ok.has,ok.cab,ok.hd,ok.frames,ok.stk,ok.exf,ok.bs,ok.bsz,ok.noex,ok.exfs,ok.funs,ok.frf⟩
theorem Cx.Ok.unwish{X:Cx}{E:Value->Shared->Prop}(ok:(X.wish E).Ok):X.Ok :=
 ⟨ok.mod,ok.kind,ok.glob,ok.blt,ok.above,ok.inj,ok.has,ok.cab,ok.hd,ok.frames,ok.stk,ok.exf,ok.bs,ok.bsz,ok.noex,ok.exfs,ok.funs,ok.frf⟩
section
variable {X:Cx}{pins:List (Addr×Obj)}{σ:St}{H:Hp}{s:Shared}{E:Value->Shared->Prop}
theorem Inv.wish(I:Inv X pins σ H s) (E:Value->Shared->Prop):Inv (X.wish E) pins σ H s:=⟨I.ok.wish E,I.os,I.bare,I.base,I.loc,I.cell,I.free,I.freeC,I.pin,I.hok,I.len⟩
theorem Inv.unwish(I:Inv (X.wish E) pins σ H s):Inv X pins σ H s:=⟨I.ok.unwish,I.os,I.bare,I.base,I.loc,I.cell,I.free,I.freeC,I.pin,I.hok,I.len⟩
theorem SP.unwish(h:SP (X.wish E) pins D f s'):SP X pins D f s':=by
 cases f with
 | next=>obtain⟨σ',H',I,q⟩:=h;exact⟨σ',H',I.unwish,q⟩
 | brk=>obtain⟨σ',H',I,q⟩:=h;exact⟨σ',H',I.unwish,q⟩
 | cont=>obtain⟨σ',H',I,q⟩:=h;exact⟨σ',H',I.unwish,q⟩
 | ret u=>obtain⟨v,σ',H',I,r,q⟩:=h;exact⟨v,σ',H',I.unwish,r,q⟩
theorem PSs.nox{st:List Stmt}{t:TS}(h:PSs X.nox st t):PSs X st t:=fun pins s σ H D I hw =>
 wpAny_mono (h pins s σ H D (I.wish _) hw) (fun _ _ q=>q.unwish) fun _ _ z=>False.elim z
end
section
variable {X:Cx}{st:Stmt}{D7:List Stmt}{t u:TS}{e:Expr}{te:TE}{pos:Pos}
noncomputable def bw0:TS:=fun D σ H=>D.nx σ H
noncomputable def cb2(t u:TS):TS:=fun D σ H=>t { D with nx:=u D } σ H
theorem bm3:PSs X [] bw0:=fun _ _ σ H _ I h=>wpAny_execs_nil ⟨σ,H,I,h⟩
theorem O6(h1:PS X st t) (h2:PSs X D7 u):PSs X (st::D7) (cb2 t u):=by
 intro pins s σ H D I h
 refine wpAny_execs_cons (thn (h1 pins s σ H { D with nx:=u D } I h) fun f s1 q=>?_)
 cases f with
 | next =>
  obtain⟨σ',H',I',q⟩:=q
  exact h2 pins s1 σ' H' D I' q
 | ret v=>exact q
 | brk=>exact q
 | cont=>exact q
theorem ai5(h1:PS X st t):PSs X [st] t:=by
 intro pins s σ H D I h
 refine wpAny_execs_cons (thn (h1 pins s σ H D I h) fun f s1 q=>?_)
 cases f with
 | next=>exact wpAny_execs_nil q
 | ret v=>exact q
 | brk=>exact q
 | cont=>exact q
noncomputable def bB8:TS:=fun D σ H=>D.bk σ H
noncomputable def bS3:TS:=fun D σ H=>D.ct σ H
theorem bm4:PS X (.Pass pos) bw0:=fun _ _ σ H _ I h=>wpAny_Pass ⟨σ,H,I,h⟩
theorem aU4:PS X (.Break pos) bB8:=fun _ _ σ H _ I h=>wpAny_Break ⟨σ,H,I,h⟩
theorem an7:PS X (.Continue pos) bS3:=fun _ _ σ H _ I h=>wpAny_Continue ⟨σ,H,I,h⟩
theorem Inv.quiet(I:Inv X pins σ H s):interactive X.env=false:=by simp[interactive,I.ok.kind]
noncomputable def bS2(te:TE):TS:=fun D σ H=>te σ H fun _ H1=>D.nx σ H1
theorem ai6(he:PE X e te) (hs:swapsWith e none pos.line X.env=pure false:=by rfl):PS X (.Expr e pos) (bS2 te):=by
 intro pins s σ H D I h
 exact wpAny_Expr_any (thn (he pins s σ H _ I h) fun v s1 ⟨x,H1,I1,r1,q1⟩=>⟨σ,H1,I1,q1⟩) I.quiet hs
noncomputable def cb3(te:TE):TS:=fun D σ H=>te σ H D.rt
theorem aU2(he:PE X e te):PS X (.Return (some e) pos) (cb3 te):=by
 intro pins s σ H D I h
 exact wpAny_Return_some (thn (he pins s σ H _ I h) fun v s1 ⟨x,H1,I1,r1,q1⟩=>⟨x,σ,H1,I1,r1,q1⟩)
noncomputable def cb8(c:TT) (t u:TS):TS:=fun D σ H=>c σ H fun b H1=>if b=true then t D σ H1 else u D σ H1
theorem bw7(hc:PT X c tc) (ha:PSs X a t) (hb:PSs X b u):PS X (.If c a b pos) (cb8 tc t u):=by
 intro pins s σ H D I h
 refine wpAny_If (thn (hc pins s σ H _ I h) fun d s1 ⟨H1,I1,q1⟩=>?_)
 cases d with
 | true=>exact ha pins s1 σ H1 D I1 q1
 | false=>exact hb pins s1 σ H1 D I1 q1
noncomputable def bB7:TS:=fun _ _ _=>False
theorem O5:PSs X sts bB7:=fun _ _ _ _ _ _ h=>h.elim
end
noncomputable abbrev TG:=V->St->Hp->(St->Hp->Prop)->Prop
noncomputable abbrev TGs:=List V->St->Hp->(St->Hp->Prop)->Prop
noncomputable def PG(X:Cx) (target:Expr) (t:TG):Prop :=
 ∀(pins:List (Addr×Obj)) (s:Shared) (σ:St) (H:Hp) (v:V) (u:Value) (Q:St->Hp->Prop),Inv X pins σ H s->D2 v u->t v σ H Q ->
  wpAny (model X.prog X.w) X.A (assign target X.env u) (fun _ s'=>∃σ' H',Inv X pins σ' H' s'/\Q σ' H') X.xe s
noncomputable def PGs(X:Cx) (ts:List Expr) (t:TGs):Prop :=
 ∀(pins:List (Addr×Obj)) (s:Shared) (σ:St) (H:Hp) (vs:List V) (us:List Value) (Q:St->Hp->Prop),Inv X pins σ H s->B3 vs us->t vs σ H Q ->
  wpAny (model X.prog X.w) X.A (assignInOrder ((assignEach ts X.env).map (·.2)) us) (fun _ s'=>∃σ' H',Inv X pins σ' H' s'/\Q σ' H') X.xe s
section
variable {X:Cx}{pos:Pos}
noncomputable def bc7(i:Nat):TG:=fun v σ H Q=>Q (σ.set i (some v)) H
theorem aC9(hN:X.N.Nodup) (hi:X.N[i]? = some x) (hx:Loc X.env.scope x) (hf:X.fn x=true\/X.env.scope.names.lookup x=some .local:=by first|exact .inl rfl|exact .inr rfl|assumption):PG X (.Name x pos) (bc7 i):=by
 intro pins s σ H v u Q I r h
 exact wpAny_assign_Name (R5 I hN hi hx r (fun s' I'=>⟨_,H,I',h⟩) hf)
noncomputable def cd4:TGs:=fun vs σ H Q=>vs=[]/\Q σ H
noncomputable def bY7(t:TG) (u:TGs):TGs:=fun vs σ H Q=>∃v r,vs=v::r/\t v σ H fun σ' H'=>u r σ' H' Q
theorem bm9:PGs X [] cd4:=by
 intro pins s σ H vs us Q I r h
 obtain⟨e,h⟩:=h
 subst e
 cases r
 exact assignInOrder_nil ⟨σ,H,I,h⟩
theorem aV1(h1:PG X e t) (h2:PGs X es u)
  (hs:(assignEach (e::es) X.env).map (·.2)=assign e X.env::(assignEach es X.env).map (·.2):=by rfl):PGs X (e::es) (bY7 t u):=by
 intro pins s σ H vs us Q I r h
 obtain⟨v,vr,e1,h⟩:=h
 subst e1
 cases r with
 | cons r rr =>
  rw[hs]
  refine assignInOrder_cons (thn (h1 pins s σ H _ _ _ I r h) fun _ s1 ⟨σ1,H1,I1,q1⟩=>?_)
  exact h2 pins s1 σ1 H1 _ _ Q I1 rr q1
noncomputable def cd3(K:PySem.W.Frag) (n:Nat) (t:TGs):TG:=fun v σ H Q=>∃a xs,v=.ref a/\SqT K H a xs/\xs.length=n/\t xs σ H Q
theorem bF0(hc:X.calm=true) (h:PGs X es t)
  (hn:(assignEach es X.env).length=n:=by rfl) (hst:(assignEach es X.env).findIdx? (·.1)=none:=by rfl):PG X (.Tuple es k pos) (cd3 X.K n t):=by
 intro pins s σ H v u Q I r hw
 obtain⟨a,xs,e1,hq,hl,hw⟩:=hw
 subst e1
 cases r
 obtain⟨its,rv,ht,hz⟩:=I.tuple hq
 refine assign_Tuple_tuple (I.ok.hd hc) ht (by simp[hn,← hl,rv.length]) hst fun h' hx=>?_
 have I1:Inv X pins σ H { s with heap:=h' }:=I.kept (t':=s.toks) fun b o e=>hx b o (Nat.ne_of_lt (Heap.lt_size e)) e
 exact h pins _ σ H xs _ Q I1 (by simpa using rv) hw
noncomputable def bS6(te:TE) (g:TG):TS:=fun D σ H=>te σ H fun x H1=>g x σ H1 D.nx
theorem bE8(he:PE X e te) (hg:PG X tg g) (hs:swapsWithSole [tg] e pos.line X.env=pure false:=by rfl) (hw:swappedStores [tg] e X.env=pure none:=by rfl)
  (h1:(assignEach [tg] X.env).map (·.2)=[assign tg X.env]:=by rfl):PS X (.Assign [tg] e pos) (bS6 te g):=by
 intro pins s σ H D I h
 refine wpAny_Assign_stores (thn (he pins s σ H _ I h) fun v s1 ⟨x,H1,I1,r1,q1⟩=>?_) hs hw
 rw[h1]
 exact thn (hg pins s1 σ H1 x v _ I1 r1 q1) fun _ s2 q=>q
theorem av2(hN:X.N.Nodup) (hi:X.N[i]? = some x) (hx:Loc X.env.scope x) (he:PE X e te) (hs:swapsWith e (some (.Name x pos')) pos.line X.env=pure false:=by rfl) (hf:X.fn x=true\/X.env.scope.names.lookup x=some .local:=by first|exact .inl rfl|exact .inr rfl|assumption) :
  PS X (.Assign [.Name x pos'] e pos) (bS6 te (bc7 i)):=by
 intro pins s σ H D I h
 refine wpAny_Assign_Name (thn (he pins s σ H _ I h) fun v s1 ⟨y,H1,I1,r1,q1⟩=>?_) hs
 exact R5 I1 hN hi hx r1 (fun s2 I2=>⟨_,H1,I2,q1⟩) hf
noncomputable def cb4(i j:Nat) (ta:TA):TS:=fun D σ H=>ta σ H fun vs H1=>∃v w,vs=[v,w]/\D.nx ((σ.set i (some v)).set j (some w)) H1
theorem bE6{kt k2 pt2} (hc:X.calm=true) (hN:X.N.Nodup) (hi:X.N[i]? = some x) (hj:X.N[j]? = some y) (hij:i≠j)
  (hx:X.env.scope.names.lookup x=some .local) (hy:X.env.scope.names.lookup y=some .local) (ha:PA X [a,b] ta)
  (hw:swappedStores [.Tuple [.Name x px,.Name y py] kt pt] (.Tuple [a,b] k2 pt2) X.env=pure (some [x,y]))
  (hs:swapsWithSole [.Tuple [.Name x px,.Name y py] kt pt] (.Tuple [a,b] k2 pt2) pos.line X.env=pure false:=by rfl) :
  PS X (.Assign [.Tuple [.Name x px,.Name y py] kt pt] (.Tuple [a,b] k2 pt2) pos) (cb4 i j ta):=by
 intro pins s σ H D I h
 rw[exec_Assign_arm]
 refine wpAny_bind (wpAny_standAt ?_)
 rw[hs]
 refine wpAny_bind (wpAny_pure ?_)
 rw[if_neg (by decide)]
 refine wpAny_bind (Tuple_ (thn (ha _ pins s σ H _ I h) fun us s1 ⟨vs,H1,I1,r1,q1⟩=>?_))
 obtain⟨v,w,e1,q1⟩:=q1
 subst e1
 obtain⟨u1,u2,rfl,rv,rw'⟩:∃u1 u2,us=[u1,u2]/\D2 v u1/\D2 w u2:=by
  cases r1 with
  | cons p q =>
   cases q with
   | cons p' q' =>
    cases q'
    exact⟨_,_,rfl,p,p'⟩
 refine wpAny_newObj_type ?_ (by show 2<=sizeLine;decide)
 have I2:Inv X pins σ H1 { s1 with heap:=s1.heap.push { cls:=.type "tuple", data:=.seq [u1,u2].toArray } }:=I1.kept (t':=s1.toks) fun b o e=>Heap.get?_push_of_some _ e
 rw[hw]
 refine wpAny_bind (wpAny_pure ?_)
 show wpAny (model X.prog X.w) X.A (do rule "assign.swapped-stores";let items ← unpackItems (.ref s1.heap.objs.size) 2 none;assignInOrder [fun v=>bindName X.env y v,fun v=>bindName X.env x v] items.reverse;pure Flow.next) _ _ _
 refine wpAny_bind (wpAny_rule (wpAny_bind (unpackItems_tuple (items:=#[u1,u2]) (I.ok.hd hc) (IsTup.new s1.heap _) fun h' hx'=>?_)))
 have I3:=I2.kept (h':=h') (t':=s1.toks) fun b o e=>hx' b o (Nat.ne_of_lt (Heap.lt_size e)) e
 show wpAny _ _ (assignInOrder [fun v=>bindName X.env y v,fun v=>bindName X.env x v] [u2,u1] >>= fun _=>pure Flow.next) _ _ _
 refine wpAny_bind (assignInOrder_cons (wpAny_bindName (R5 I3 hN hj (.inl hy) rw' (fun s2 I4=>?_) (.inr hy))))
 refine assignInOrder_cons (wpAny_bindName (R5 I4 hN hi (.inl hx) rv (fun s3 I5=>assignInOrder_nil (wpAny_pure ?_)) (.inr hx)))
 rw[List.set_comm _ _ (Ne.symm hij)]at I5
 exact⟨_,H1,I5,q1⟩
end
section
variable {X:Cx}{pos:Pos}
noncomputable def bB6(c:TT) (tb:TS):TS:=fun D σ H=>∃W:Nat->St->Hp->Prop,(∃m,W m σ H)/\∀m σ H,W m σ H ->
 c σ H fun b H1=>if b=true then ∃N:St->Hp->Prop,(∀σ' H',N σ' H'->∃m',m' < m/\W m' σ' H')/\tb { D with nx:=N,ct:=N,bk:=D.nx } σ H1 else D.nx σ H1
theorem aU1(hp:PassesOwn (model X.prog X.w) X.A X.env X.xe) (hc:PT X c tc) (hb:PSs X body tb):PS X (.While c body [] pos) (bB6 tc tb):=by
 intro pins s σ H D I h
 obtain⟨W,⟨m0,w0⟩,turn⟩:=h
 refine wpAny_While (codeAny_whileLoop (fun n s'=>∃σ' H',Inv X pins σ' H' s'/\W n σ' H') ?_ m0 ⟨σ,H,I,w0⟩)
 rintro n s1 ⟨σ1,H1,I1,w1⟩
 refine wpAny_passesOwn hp (thn (hc pins s1 σ1 H1 _ I1 (turn n σ1 H1 w1)) fun b s2 ⟨H2,I2,q2⟩=>?_)
 cases b with
 | true =>
  obtain⟨N,hN,q2⟩:=q2
  rw[if_pos rfl]
  refine wpAny_passesOwn hp (thn (hb pins s2 σ1 H2 _ I2 q2) fun f s3 q3=>?_)
  cases f with
  | next =>
   obtain⟨σ3,H3,I3,n3⟩:=q3
   obtain⟨m',hm,w3⟩:=hN σ3 H3 n3
   exact⟨m',hm,σ3,H3,I3,w3⟩
  | cont =>
   obtain⟨σ3,H3,I3,n3⟩:=q3
   obtain⟨m',hm,w3⟩:=hN σ3 H3 n3
   exact⟨m',hm,σ3,H3,I3,w3⟩
  | brk=>exact q3
  | ret v=>exact q3
 | false =>
  rw[if_neg Bool.false_ne_true]
  exact wpAny_execs_nil ⟨σ1,H2,I2,q2⟩
end
structure It where
 go:Nat->Hp->Prop
 yld:Nat->Hp->V->Hp->Prop
 stop:Nat->Hp->Prop
noncomputable def L7(X:Cx) (pins:List (Addr×Obj)) (H:Hp) (b:Addr):Prop :=
 H b=none/\b≠X.env.locals/\b∉X.fs/\(b∈X.ex\/X.s₀.heap.objs.size<=b)/\(∀x c,X.env.cells.lookup x=some c->c≠b)/\∀p∈X.pn++pins,p.1≠b
theorem Inv.fpOk(I:Inv X pins σ H s) (hb:s.heap.objs.size<=b) (hn:H' b=none):L7 X pins H' b:=by
 refine⟨hn,Nat.ne_of_gt (Nat.lt_of_lt_of_le I.lt hb),I.nofs hb,.inr (Nat.le_trans I.sz hb),fun x c e z=>?_,fun p hp z=>?_⟩
 ·obtain⟨v,q⟩:=I.cell x c e
  exact absurd (Nat.lt_of_lt_of_le q.lt (by rw[z];exact hb)) (Nat.lt_irrefl _)
 ·exact absurd (Nat.lt_of_lt_of_le (Heap.lt_size (I.pin p hp).1) (by rw[z];exact hb)) (Nat.lt_irrefl _)
structure Turn (P:Program) (w:World) (K:PySem.W.Frag) (tg:Expr) (J:It) (fp:List Addr) (it:Addr) (tn:Nat->Heap->Prop):Prop where
 mem:it∈fp
 obj:∀i h,tn i h->∀b∈fp,∃o,h.get? b=some o/\∀v,o.data≠.cell v
 keep:∀i h h',tn i h->(∀b∈fp,∀o,h.get? b=some o->h'.get? b=some o)->tn i h'
 item:∀(X:Cx),X.prog=P->X.w=w->X.K=K->X.calm=true->∀(i:Nat) (pins:List (Addr×Obj)) (s:Shared) (σ:St) (H:Hp) (E:Value->Shared->Prop),Inv X pins σ H s->(∀b∈fp,L7 X pins H b)->tn i s.heap->J.go i H ->
  wpAny (model P w) X.A (pyNext (.ref it)) (fun r s1=>∃u,r=some u /\
   wpAny (model P w) X.A (letOwnedTupleGo tg (.ref it) u) (fun _ s2=>∃x H',Inv X pins σ H' s2/\D2 x u/\J.yld i H x H'/\tn (i+1) s2.heap/\∀b∈fp,H' b=none) E s1) E s
 done:∀(X:Cx),X.prog=P->X.w=w->X.K=K->X.calm=true->∀(i:Nat) (pins:List (Addr×Obj)) (s:Shared) (σ:St) (H:Hp) (E:Value->Shared->Prop),Inv X pins σ H s->(∀b∈fp,L7 X pins H b)->tn i s.heap->J.stop i H ->
  wpAny (model P w) X.A (pyNext (.ref it)) (fun r s1=>r=none/\Inv X pins σ H s1) E s
 self:∀(A:Around) (i:Nat) (s:Shared) (Q:Value->Shared->Prop) (E:Value->Shared->Prop),tn i s.heap->Q (.ref it) s->wpAny (model P w) A (pyIter (.ref it)) Q E s
noncomputable abbrev TI:=St->Hp->(It->Hp->Prop)->Prop
noncomputable def PIE(X:Cx) (pins:List (Addr×Obj)) (σ:St) (tg:Expr) (R:It->Hp->Prop) (itv:Value) (s2:Shared):Prop :=
 ∃(it:Addr) (fp:List Addr) (tn:Nat->Heap->Prop) (J:It) (H':Hp),itv=.ref it/\Inv X pins σ H' s2/\Turn X.prog X.w X.K tg J fp it tn/\tn 0 s2.heap/\(∀b∈fp,L7 X pins H' b)/\R J H'
noncomputable def PI(X:Cx) (tg iter:Expr) (wi:TI):Prop :=
 ∀(pins:List (Addr×Obj)) (s:Shared) (σ:St) (H:Hp) (R:It->Hp->Prop),Inv X pins σ H s->wi σ H R ->
  wpAny (model X.prog X.w) X.A (eval iter X.env) (fun v s1=>wpAny (model X.prog X.w) X.A (pyIter v) (PIE X pins σ tg R) X.xe s1) X.xe s
theorem bc5(ho:s.heap.get? it=some o) (hc:o.cls=.type n) (hd:o.data=.fields vs)
    (hn:["enumerate", "zip", "dict_itemiterator", "dict_reverseitemiterator", "odict_iterator", "itertools.zip_longest", "itertools.pairwise"].contains n=false) (hQ:Q () s):wpAny M A (letOwnedTupleGo tg (.ref it) u) Q E s:=by
  unfold letOwnedTupleGo
  cases tg<;>first
    | exact wpAny_pure hQ
    | (cases u<;>first
        | exact wpAny_pure hQ
        | (refine wpAny_bind (wpAny_load ho ?_)
           rw[hc,hd]
           show wpAny M A (if(["enumerate", "zip", "dict_itemiterator", "dict_reverseitemiterator", "odict_iterator", "itertools.zip_longest", "itertools.pairwise"].contains n&&vs[0]? == some (rawInt _))=true then _ else _) Q E s
           rw[if_neg (by intro h;rw[hn,Bool.false_and]at h;cases h)]
           exact wpAny_pure hQ))
noncomputable def Itl(K:PySem.W.Frag) (a:Addr):It :=
 ⟨fun i H=>∃xs x,SqL K H a xs/\xs[i]? = some x,fun i H x H'=>H'=H/\∀xs,SqL K H a xs->xs[i]? = some x,fun i H=>∃xs,SqL K H a xs/\xs.length<=i⟩
noncomputable def Itt(K:PySem.W.Frag) (a:Addr):It :=
 ⟨fun i H=>∃xs x,SqT K H a xs/\xs[i]? = some x,fun i H x H'=>H'=H/\∀xs,SqT K H a xs->xs[i]? = some x,fun i H=>∃xs,SqT K H a xs/\xs.length<=i⟩
noncomputable def Itr(lo:Int) (n:Nat):It:=⟨fun i _=>i < n,fun i H x H'=>H'=H/\x=.int (lo+i),fun i _=>n<=i⟩
theorem aJ7{P:Program}{w:World}{K:PySem.W.Frag}{tg:Expr}(a it:Addr):Turn P w K tg (Itl K a) [it] it (fun i h=>h.IsListIter it a i) where
 mem:=by simp
 obj:=fun i h st b hb=>by
  have e:b=it:=by simpa using hb
  subst e
  obtain⟨o,e,c,d⟩:=st
  exact⟨o,e,fun v z=>by rw[d]at z;cases z⟩
 keep:=fun i h h' st k=>st.at fun o e=>k it (by simp) o e
 item:=by
  intro X hP hw hK hc i pins s σ H E I hf st hg
  subst hP hw hK
  obtain⟨xs,x,hq,hx⟩:=hg
  obtain⟨its,rv,p,hz⟩:=I.list hq
  obtain⟨u,hu,ru⟩:=rv.get hx
  obtain⟨f0,f1,f2,f3,f4,f5⟩:=hf it (by simp)
  refine wpAny_pyNext_list_item st p.isList (x:=u) (by simpa using hu) fun h' st' sb=>?_
  have I1:Inv X pins σ H { s with heap:=h' }:=I.turned (t':=s.toks) (fun b o hb e=>(sb.2 b hb).trans e) f0 f1 f3 f4 f5
  obtain⟨o,e,c,d⟩:=id st'
  exact⟨u,rfl,bc5 (s:={ s with heap:=h' }) e c d (by decide) ⟨x,H,I1,ru,⟨rfl,fun ys hy=>by rw[I.list_inj hy hq];exact hx⟩,st',fun b hb=>(hf b hb).1⟩⟩
 done:=by
  intro X hP hw hK hc i pins s σ H E I hf st hg
  subst hP hw hK
  obtain⟨xs,hq,hx⟩:=hg
  obtain⟨its,rv,p,hz⟩:=I.list hq
  obtain⟨f0,f1,f2,f3,f4,f5⟩:=hf it (by simp)
  have hl:=rv.length
  exact wpAny_pyNext_list_end (I.ok.hd hc) st p.isList (by simp;omega) fun h' eb=>⟨rfl,I.turned (t':=s.toks) (fun b o hb e=>eb b o hb e) f0 f1 f3 f4 f5⟩
 self:=fun _ _ _ _ _ st h=>wpAny_pyIter_listiter st h
theorem at7{P:Program}{w:World}{K:PySem.W.Frag}{tg:Expr}(a it:Addr):Turn P w K tg (Itt K a) [it] it (fun i h=>h.IsTupleIter it a i) where
 mem:=by simp
 obj:=fun i h st b hb=>by
  have e:b=it:=by simpa using hb
  subst e
  obtain⟨o,e,c,d⟩:=st
  exact⟨o,e,fun v z=>by rw[d]at z;cases z⟩
 keep:=fun i h h' st k=>st.at fun o e=>k it (by simp) o e
 item:=by
  intro X hP hw hK hc i pins s σ H E I hf st hg
  subst hP hw hK
  obtain⟨xs,x,hq,hx⟩:=hg
  obtain⟨its,rv,p,hz⟩:=I.tuple hq
  obtain⟨u,hu,ru⟩:=rv.get hx
  obtain⟨f0,f1,f2,f3,f4,f5⟩:=hf it (by simp)
  refine wpAny_pyNext_tuple_item st (show s.heap.IsTuple a its.toArray from p) (x:=u) (by simpa using hu) fun h' st' sb=>?_
  have I1:Inv X pins σ H { s with heap:=h' }:=I.turned (t':=s.toks) (fun b o hb e=>(sb.2 b hb).trans e) f0 f1 f3 f4 f5
  obtain⟨o,e,c,d⟩:=id st'
  exact⟨u,rfl,bc5 (s:={ s with heap:=h' }) e c d (by decide) ⟨x,H,I1,ru,⟨rfl,fun ys hy=>by rw[I.tuple_inj hy hq];exact hx⟩,st',fun b hb=>(hf b hb).1⟩⟩
 done:=by
  intro X hP hw hK hc i pins s σ H E I hf st hg
  subst hP hw hK
  obtain⟨xs,hq,hx⟩:=hg
  obtain⟨its,rv,p,hz⟩:=I.tuple hq
  obtain⟨f0,f1,f2,f3,f4,f5⟩:=hf it (by simp)
  have hl:=rv.length
  exact wpAny_pyNext_tuple_end (I.ok.hd hc) st (show s.heap.IsTuple a its.toArray from p) (by simp;omega) fun h' eb=>⟨rfl,I.turned (t':=s.toks) (fun b o hb e=>eb b o hb e) f0 f1 f3 f4 f5⟩
 self:=fun _ _ _ _ _ st h=>wpAny_pyIter_tupleiter st h
theorem at8{P:Program}{w:World}{K:PySem.W.Frag}{tg:Expr}(it:Addr) (lo:Int) (n:Nat):Turn P w K tg (Itr lo n) [it] it (fun i h=>IsRangeIter h it (lo+(i:Nat)*1) ((n:Int) - (i:Nat)) 1) where
 mem:=by simp
 obj:=fun i h st b hb=>by
  have e:b=it:=by simpa using hb
  subst e
  exact⟨_,st,fun v z=>by
   have z':Data.fields _=Data.cell v:=z
   cases z'⟩
 keep:=fun i h h' st k=>k it (by simp) _ st
 item:=by
  intro X hP hw hK hc i pins s σ H E I hf st hg
  subst hP hw hK
  obtain⟨f0,f1,f2,f3,f4,f5⟩:=hf it (by simp)
  have W:=Walks.range (prog:=X.prog) (w:=X.w) (I.ok.hd hc) it lo 1 n
  refine W.item i s _ _ hg st fun v h' tk hv st' kk=>?_
  obtain⟨t,rfl⟩:=hv
  have I1:Inv X pins σ H { s with heap:=h',toks:=tk }:=I.turned (fun b o hb e=>kk b o (by simpa using hb) e) f0 f1 f3 f4 f5
  refine⟨_,rfl,bc5 (s:={ s with heap:=h',toks:=tk }) (n := "range_iterator") st' rfl rfl (by decide) ⟨.int (lo+i),H,I1,⟨t,?_⟩,⟨rfl,rfl⟩,st',fun b hb=>(hf b hb).1⟩⟩
  rw[Int.mul_one]
 done:=by
  intro X hP hw hK hc i pins s σ H E I hf st hg
  subst hP hw hK
  obtain⟨f0,f1,f2,f3,f4,f5⟩:=hf it (by simp)
  exact wpAny_pyNext_range_end (I.ok.hd hc) st (by have:n<=i:=hg;omega) fun h' eb=>⟨rfl,I.turned (t':=s.toks) (fun b o hb e=>eb b o hb e) f0 f1 f3 f4 f5⟩
 self:=fun _ _ _ _ _ st h=>wpAny_pyIter_rangeiter st h
end L2
namespace L2
open PySem PySem.Spec PyProof.Rows
section
variable {X:Cx}{tg:Expr}
noncomputable def bY3(K:PySem.W.Frag) (tl:TE):TI:=fun σ H R=>tl σ H fun x H1=>∃a,x=.ref a/\(∃xs,SqL K H1 a xs)/\R (Itl K a) H1
noncomputable def cd1(K:PySem.W.Frag) (tl:TE):TI:=fun σ H R=>tl σ H fun x H1=>∃a,x=.ref a/\(∃xs,SqT K H1 a xs)/\R (Itt K a) H1
theorem bm8{l:Expr}{tl:TE}(hl:PE X l tl):PI X tg l (bY3 X.K tl):=by
 intro pins s σ H R I h
 refine thn (hl pins s σ H _ I h) fun v s1 ⟨x,H1,I1,r1,q1⟩=>?_
 obtain⟨a,e,⟨xs,hq⟩,q⟩:=q1
 subst e
 cases r1
 obtain⟨its,rv,p,hz⟩:=I1.list hq
 refine wpAny_pyIter_list p.isList ?_
 refine⟨s1.heap.objs.size,[s1.heap.objs.size],_,_,H1,rfl,I1.kept (t':=s1.toks) fun b o e=>Heap.get?_push_of_some _ e,aJ7 a _,⟨_,Heap.get?_push_size _ rfl,rfl,rfl⟩,fun b hb=>?_,q⟩
 have e:b=s1.heap.objs.size:=by simpa using hb
 subst e
 exact I1.fpOk (Nat.le_refl _) (I1.hok.fresh (Nat.le_refl _))
theorem aV0{l:Expr}{tl:TE}(hl:PE X l tl):PI X tg l (cd1 X.K tl):=by
 intro pins s σ H R I h
 refine thn (hl pins s σ H _ I h) fun v s1 ⟨x,H1,I1,r1,q1⟩=>?_
 obtain⟨a,e,⟨xs,hq⟩,q⟩:=q1
 subst e
 cases r1
 obtain⟨its,rv,p,hz⟩:=I1.tuple hq
 refine wpAny_pyIter_tuple (show s1.heap.IsTuple a its.toArray from p) ?_
 refine⟨s1.heap.objs.size,[s1.heap.objs.size],_,_,H1,rfl,I1.kept (t':=s1.toks) fun b o e=>Heap.get?_push_of_some _ e,at7 a _,⟨_,Heap.get?_push_size _ rfl,rfl,rfl⟩,fun b hb=>?_,q⟩
 have e:b=s1.heap.objs.size:=by simpa using hb
 subst e
 exact I1.fpOk (Nat.le_refl _) (I1.hok.fresh (Nat.le_refl _))
theorem aT3{pins:List (Addr×Obj)}{σ:St}{H:Hp}{s:Shared}{R:It->Hp->Prop}{E:Value->Shared->Prop}{lo hi:Int}{t u v:Tok}{tk:Nat}(I:Inv X pins σ H s) (h1:-(2 ^ 62)<=lo) (h2:lo < 2 ^ 62) (h3:-(2 ^ 62)<=hi) (h4:hi < 2 ^ 62)
  (q:R (Itr lo (hi - lo).toNat) H):wpAny (model X.prog X.w) X.A (pyIter (.ref s.heap.objs.size)) (PIE X pins σ tg R) E { s with heap:=s.heap.push { cls:=.type "range", data:=.fields #[.int lo t,.int hi u,.int 1 v] },toks:=tk }:=by
 refine wpAny_pyIter_range (IsRange.new ..) (small_one h1 h2 h3 h4) ?_
 have I1:Inv X pins σ H { s with heap:=s.heap.push { cls:=.type "range", data:=.fields #[.int lo t,.int hi u,.int 1 v] },toks:=tk }:=I.kept fun b o e=>Heap.get?_push_of_some _ e
 refine⟨(s.heap.push { cls:=.type "range", data:=.fields #[.int lo t,.int hi u,.int 1 v] }).objs.size,[(s.heap.push { cls:=.type "range", data:=.fields #[.int lo t,.int hi u,.int 1 v] }).objs.size],_,_,H,rfl,
  I1.kept (t':=tk) fun b o e=>Heap.get?_push_of_some _ e,at8 _ lo (hi - lo).toNat,?_,fun b hb=>?_,q⟩
 ·have e1:lo+((0:Nat):Int)*1=lo:=by simp
  have e2:(((hi - lo).toNat:Nat):Int) - ((0:Nat):Int)=Builtin.Range.rangeSize lo hi 1:=by rw[rangeSize_one];split<;>omega
  show IsRangeIter _ _ (lo+((0:Nat):Int)*1) ((((hi - lo).toNat:Nat):Int) - ((0:Nat):Int)) 1
  rw[e1,e2]
  exact Heap.get?_push_size _ rfl
 ·have e:b=(s.heap.push { cls:=.type "range", data:=.fields #[.int lo t,.int hi u,.int 1 v] }).objs.size:=by simpa using hb
  subst e
  exact I1.fpOk (Nat.le_refl _) (I1.hok.fresh (Nat.le_refl _))
noncomputable def bY2(ta:TA):TI:=fun σ H R=>ta σ H fun vs H1=>∃j:Int,vs=[.int j]/\-(2 ^ 62)<=j/\j < 2 ^ 62/\R (Itr 0 j.toNat) H1
theorem aL3{a:Expr}{ta:TA}{p pos:Pos}(hg:Gl X "range") (hm:X.mg "range" = none) (ha:PA X [a] ta) (hs:starEach [a] X.env=[(false,eval a X.env)]:=by rfl):PI X tg (.Call (.Name "range" p) [a] [] pos) (bY2 ta):=by
 intro pins s σ H R I h
 refine Call_ (aa2 I hg hm boot_range (PyProof.Rows.callWith_type1 (thn (ha pos pins s σ H _ I h) fun us s1 ⟨vs,H1,I1,r1,q1⟩=>?_) hs rfl))
 obtain⟨j,e,q1,q2,q⟩:=q1
 subst e
 cases r1 with
 | cons r rr =>
  cases rr
  obtain⟨t,rfl⟩:=r
  exact call_range_1 (aT3 I1 (by omega) (by omega) q1 q2 (by simpa using q))
noncomputable def cb9(wi:TI) (g:TG) (tb:TS):TS:=fun D σ H=>wi σ H fun J H1=>∃W:Nat->Nat->St->Hp->Prop,(∃m,W 0 m σ H1)/\∀i m σ H,W i m σ H ->
 (J.stop i H/\D.nx σ H)\/(J.go i H/\∃N:St->Hp->Prop,(∀σ' H',N σ' H'->∃m',m' < m/\W (i+1) m' σ' H')/\∀x H',J.yld i H x H'->g x σ H' fun σ2 H2=>tb { D with nx:=N,ct:=N,bk:=D.nx } σ2 H2)
noncomputable def c6(fp:List Addr) (h:Heap):List (Addr×Obj):=fp.filterMap fun b=>(h.get? b).map fun o=>(b,o)
theorem K4(hb:b∈fp) (e:h.get? b=some o):(b,o)∈c6 fp h:=List.mem_filterMap.mpr ⟨b,hb,by rw[e];rfl⟩
theorem aL7(hp:p∈c6 fp h):p.1∈fp/\h.get? p.1=some p.2:=by
 obtain⟨b,hb,e⟩:=List.mem_filterMap.mp hp
 cases q:h.get? b with
 | none=>rw[q]at e;cases e
 | some o =>
  rw[q]at e
  have e':(b,o)=p:=Option.some.inj e
  subst e'
  exact⟨hb,q⟩
theorem Inv.pinned(I:Inv X pins σ H s) (hf:∀b∈fp,L7 X pins H b) (ho:∀b∈fp,∃o,s.heap.get? b=some o/\∀v,o.data≠.cell v):Inv X (pins++c6 fp s.heap) σ H s :=
 I.pins_of fun p hp=>(List.mem_append.mp hp).elim (fun z=>I.pin p (List.mem_append_right _ z)) fun z=>by
  obtain⟨hb,e⟩:=aL7 z
  obtain⟨f0,f1,f2,_⟩:=hf p.1 hb
  obtain⟨o,e',d⟩:=ho p.1 hb
  rw[e]at e';cases e'
  exact⟨e,f0,f1,f2,d⟩
theorem Inv.unpinned(I:Inv X (pins++pl) σ H s):Inv X pins σ H s:=I.pins_of fun p hp=>I.pin p (List.mem_append_right _ (List.mem_append_left _ hp))
theorem aU3(hp:PassesOwn (model X.prog X.w) X.A X.env X.xe) (hc:X.calm=true) (hi:PI X tg iter wi) (hg:PG X tg g) (hb:PSs X body tb)
  (hs:∀x,foldedSetIterable iter X.env x=pure x:=by intro _;rfl):PS X (.For tg iter body [] pos) (cb9 wi g tb):=by
 intro pins s σ H D I h
 refine wpAny_For (thn (hi pins s σ H _ I h) fun v s1 h1=>thn h1 fun itv s2 h2=>?_) hs
 obtain⟨it,fp,tn,J,H2,e,I2,T,st2,f2,W,⟨m0,w0⟩,turn⟩:=h2
 subst e
 have stat:∀{H':Hp},(∀b∈fp,H' b=none)->∀b∈fp,L7 X pins H' b:=fun hn b hb=>⟨hn b hb,(f2 b hb).2⟩
 refine codeAny_forLoop_any (fun n s'=>∃i σ' H',Inv X pins σ' H' s'/\tn i s'.heap/\(∀b∈fp,H' b=none)/\W i n σ' H') ?_ m0 ⟨0,σ,H2,I2,st2,fun b hb=>(f2 b hb).1,w0⟩
 rintro n s3 ⟨i,σ3,H3,I3,st3,fr3,w3⟩
 rcases turn i n σ3 H3 w3 with⟨stop,qn⟩|⟨go,N,hN,step⟩
 ·refine wpAny_passesOwn hp (thn (T.done X rfl rfl rfl hc i pins s3 σ3 H3 X.xe I3 (stat fr3) st3 stop) fun r s4 ⟨hr,I4⟩=>?_)
  subst hr
  exact wpAny_execs_nil ⟨σ3,H3,I4,qn⟩
 ·refine wpAny_passesOwn hp (thn (T.item X rfl rfl rfl hc i pins s3 σ3 H3 X.xe I3 (stat fr3) st3 go) fun r s4 ⟨u,hr,h4⟩=>?_)
  subst hr
  refine wpAny_passesOwn hp (thn h4 fun _ s5 ⟨x,H5,I5,r5,y5,st5,fr5⟩=>?_)
  have I5':=I5.pinned (stat fr5) (T.obj _ _ st5)
  refine wpAny_passesOwn hp (thn (hg _ s5 σ3 H5 x u _ I5' r5 (step x H5 y5)) fun _ s6 ⟨σ6,H6,I6,q6⟩=>?_)
  refine wpAny_passesOwn hp (thn (hb _ s6 σ6 H6 _ I6 q6) fun f s7 q7=>?_)
  have again:∀{σ7:St}{H7:Hp},Inv X (pins++c6 fp s5.heap) σ7 H7 s7->N σ7 H7->∃m,m < n/\∃i σ' H',Inv X pins σ' H' s7/\tn i s7.heap/\(∀b∈fp,H' b=none)/\W i m σ' H':=fun{σ7 H7} I7 n7=>by
   obtain⟨m',hm,w7⟩:=hN σ7 H7 n7
   refine⟨m',hm,i+1,σ7,H7,I7.unpinned,T.keep _ _ _ st5 fun b hb o e=>(I7.pin (b,o) (List.mem_append_right _ (List.mem_append_right _ (K4 hb e)))).1,fun b hb=>?_,w7⟩
   obtain⟨o,e,d⟩:=T.obj _ _ st5 b hb
   exact(I7.pin (b,o) (List.mem_append_right _ (List.mem_append_right _ (K4 hb e)))).2.1
  cases f with
  | next=>obtain⟨σ7,H7,I7,n7⟩:=q7;exact again I7 n7
  | cont=>obtain⟨σ7,H7,I7,n7⟩:=q7;exact again I7 n7
  | brk=>obtain⟨σ7,H7,I7,q7⟩:=q7;exact⟨σ7,H7,I7.unpinned,q7⟩
  | ret v=>obtain⟨x7,σ7,H7,I7,r7,q7⟩:=q7;exact⟨x7,σ7,H7,I7.unpinned,r7,q7⟩
end
theorem bY9{K:PySem.W.Frag}{a:Addr}{xs:List V}{g:TG}{tb:TS}{D:Ends}{σ:St}{H:Hp}(Pv:Nat->St->Hp->Prop) (h0:Pv 0 σ H) (hl:∀i σ H,i<=xs.length->Pv i σ H->SqL K H a xs)
  (hs:∀i x σ H,xs[i]? = some x->Pv i σ H->g x σ H fun σ2 H2=>tb { D with nx:=Pv (i+1),ct:=Pv (i+1),bk:=D.nx } σ2 H2) (hd:∀σ H,Pv xs.length σ H->D.nx σ H) :
  ∃W:Nat->Nat->St->Hp->Prop,(∃m,W 0 m σ H)/\∀i m σ H,W i m σ H ->
   ((Itl K a).stop i H/\D.nx σ H)\/((Itl K a).go i H/\∃N:St->Hp->Prop,(∀σ' H',N σ' H'->∃m',m' < m/\W (i+1) m' σ' H')/\∀x H',(Itl K a).yld i H x H'->g x σ H' fun σ2 H2=>tb { D with nx:=N,ct:=N,bk:=D.nx } σ2 H2):=by
 refine⟨fun i m σ H=>m=xs.length - i/\i<=xs.length/\Pv i σ H,⟨xs.length,by simp,Nat.zero_le _,h0⟩,?_⟩
 rintro i m σ H ⟨rfl,hi,p⟩
 have q:=hl i σ H hi p
 by_cases hlt:i < xs.length
 ·refine .inr ⟨⟨xs,xs[i],q,by simp[hlt]⟩,Pv (i+1),fun σ' H' p'=>⟨xs.length - (i+1),by omega,rfl,hlt,p'⟩,fun x H' y=>?_⟩
  obtain⟨e,y⟩:=y
  subst e
  exact hs i x σ _ (y xs q) p
 ·have e:i=xs.length:=by omega
  subst e
  exact .inl ⟨⟨xs,q,Nat.le_refl _⟩,hd σ H p⟩
theorem bt6{K:PySem.W.Frag}{a:Addr}{xs:List V}{g:TG}{tb:TS}{D:Ends}{σ:St}{H:Hp}(Pv:Nat->St->Hp->Prop) (h0:Pv 0 σ H) (hl:∀i σ H,i<=xs.length->Pv i σ H->SqT K H a xs)
  (hs:∀i x σ H,xs[i]? = some x->Pv i σ H->g x σ H fun σ2 H2=>tb { D with nx:=Pv (i+1),ct:=Pv (i+1),bk:=D.nx } σ2 H2) (hd:∀σ H,Pv xs.length σ H->D.nx σ H) :
  ∃W:Nat->Nat->St->Hp->Prop,(∃m,W 0 m σ H)/\∀i m σ H,W i m σ H ->
   ((Itt K a).stop i H/\D.nx σ H)\/((Itt K a).go i H/\∃N:St->Hp->Prop,(∀σ' H',N σ' H'->∃m',m' < m/\W (i+1) m' σ' H')/\∀x H',(Itt K a).yld i H x H'->g x σ H' fun σ2 H2=>tb { D with nx:=N,ct:=N,bk:=D.nx } σ2 H2):=by
 refine⟨fun i m σ H=>m=xs.length - i/\i<=xs.length/\Pv i σ H,⟨xs.length,by simp,Nat.zero_le _,h0⟩,?_⟩
 rintro i m σ H ⟨rfl,hi,p⟩
 have q:=hl i σ H hi p
 by_cases hlt:i < xs.length
 ·refine .inr ⟨⟨xs,xs[i],q,by simp[hlt]⟩,Pv (i+1),fun σ' H' p'=>⟨xs.length - (i+1),by omega,rfl,hlt,p'⟩,fun x H' y=>?_⟩
  obtain⟨e,y⟩:=y
  subst e
  exact hs i x σ _ (y xs q) p
 ·have e:i=xs.length:=by omega
  subst e
  exact .inl ⟨⟨xs,q,Nat.le_refl _⟩,hd σ H p⟩
end L2
namespace L2
open PySem PySem.Spec PyProof.Rows
noncomputable abbrev R2:=V->V->Hp->VK->Prop
noncomputable def OpR(X:Cx) (f:Value->Value->Sem Value) (r:R2):Prop :=
 ∀(pins:List (Addr×Obj)) (s:Shared) (σ:St) (H:Hp) (x y:V) (v u:Value) (Q:VK),Inv X pins σ H s->D2 x v->D2 y u->r x y H Q ->
  wpAny (model X.prog X.w) X.A (f v u) (EP X pins σ Q) X.xe s
noncomputable def UnR(X:Cx) (f:Value->Sem Value) (r:V->Hp->VK->Prop):Prop :=
 ∀(pins:List (Addr×Obj)) (s:Shared) (σ:St) (H:Hp) (x:V) (v:Value) (Q:VK),Inv X pins σ H s->D2 x v->r x H Q ->
  wpAny (model X.prog X.w) X.A (f v) (EP X pins σ Q) X.xe s
noncomputable def G6(X:Cx) (f:Value) (r:List V->Hp->VK->Prop):Prop :=
 ∀(pins:List (Addr×Obj)) (s:Shared) (σ:St) (H:Hp) (xs:List V) (us:List Value) (Q:VK),Inv X pins σ H s->B3 xs us->r xs H Q ->
  wpAny (model X.prog X.w) X.A (call f us) (EP X pins σ Q) X.xe s
noncomputable def cd9(X:Cx) (r:V->Hp->(Bool->Hp->Prop)->Prop):Prop :=
 ∀(pins:List (Addr×Obj)) (s:Shared) (σ:St) (H:Hp) (x:V) (v:Value) (Q:Bool->Hp->Prop),Inv X pins σ H s->D2 x v->r x H Q ->
  wpAny (model X.prog X.w) X.A (truthy v) (TP X pins σ Q) X.xe s
noncomputable def tOp(r:R2) (ta tb:TE):TE:=fun σ H Q=>ta σ H fun x H1=>tb σ H1 fun y H2=>r x y H2 Q
noncomputable def tUn(r:V->Hp->VK->Prop) (ta:TE):TE:=fun σ H Q=>ta σ H fun x H1=>r x H1 Q
noncomputable def rI(C:Int->Int->Prop) (g:Int->Int->V):R2:=fun x y H Q=>∃i j,x=.int i/\y=.int j/\C i j/\Q (g i j) H
noncomputable def rI0(g:Int->Int->V):R2:=fun x y H Q=>∃i j,x=.int i/\y=.int j/\Q (g i j) H
noncomputable def rU(g:Int->V):V->Hp->VK->Prop:=fun x H Q=>∃i,x=.int i/\Q (g i) H
section
variable {X:Cx}{a b c:Expr}{ta tb tc:TE}{pos:Pos}
theorem bO9(ha:PE X a ta) (hb:PE X b tb) {pins:List (Addr×Obj)}{s:Shared}{σ:St}{H:Hp}{R:V->V->Hp->Prop}(I:Inv X pins σ H s)
  (h:ta σ H fun x H1=>tb σ H1 fun y H2=>R x y H2) {Q:Value->Shared->Prop}{f:Value->Value->Sem Value}
  (hf:∀v u s2 x y H2,Inv X pins σ H2 s2->D2 x v->D2 y u->R x y H2->wpAny (model X.prog X.w) X.A (f v u) Q X.xe s2) :
  wpAny (model X.prog X.w) X.A (eval a X.env) (fun v s₁=>wpAny (model X.prog X.w) X.A (eval b X.env) (fun u s₂=>wpAny (model X.prog X.w) X.A (f v u) Q X.xe s₂) X.xe s₁) X.xe s:=by
 refine thn (ha pins s σ H _ I h) fun v s1 ⟨x,H1,I1,r1,q1⟩=>?_
 refine thn (hb pins s1 σ H1 _ I1 q1) fun u s2 ⟨y,H2,I2,r2,q2⟩=>?_
 exact hf v u s2 x y H2 I2 r1 r2 q2
theorem aV3(ho:OpR X (binaryOp op) r) (ha:PE X a ta) (hb:PE X b tb):PE X (.BinOp a op b pos) (tOp r ta tb):=by
 intro pins s σ H Q I h
 exact wpAny_BinOp (bO9 ha hb I h fun v u s2 x y H2 I2 rx ry q=>ho pins s2 σ H2 x y v u Q I2 rx ry q)
theorem bU0(ho:UnR X (unaryOp op) r) (ha:PE X a ta):PE X (.UnaryOp op a pos) (tUn r ta):=by
 intro pins s σ H Q I h
 exact UnaryOp_ (thn (ha pins s σ H _ I h) fun v s1 ⟨x,H1,I1,r1,q1⟩=>ho pins s1 σ H1 x v Q I1 r1 q1)
theorem opI{f:Value->Value->Sem Value}{C:Int->Int->Prop}{g:Int->Int->Int}
  (rule:∀(i j:Int) (t u:Tok) (s:Shared) (Q:Value->Shared->Prop) (E:Value->Shared->Prop),C i j->Q (.int (g i j) s.toks) { s with toks:=s.toks+1 }->wpAny (model X.prog X.w) X.A (f (.int i t) (.int j u)) Q E s) :
  OpR X f (rI C fun i j=>.int (g i j)):=by
 intro pins s σ H x y v u Q I rx ry h
 obtain⟨i,j,rfl,rfl,hc,q⟩:=h
 obtain⟨t,rfl⟩:=rx
 obtain⟨t',rfl⟩:=ry
 exact rule i j t t' s _ _ hc ⟨.int (g i j),H,I.tok _,⟨_,rfl⟩,q⟩
theorem bU8{f:Value->Value->Sem Value}{g:Int->Int->Int}
  (rule:∀(i j:Int) (t u:Tok) (s:Shared) (Q:Value->Shared->Prop) (E:Value->Shared->Prop),Q (.int (g i j) s.toks) { s with toks:=s.toks+1 }->wpAny (model X.prog X.w) X.A (f (.int i t) (.int j u)) Q E s) :
  OpR X f (rI0 fun i j=>.int (g i j)):=by
 intro pins s σ H x y v u Q I rx ry h
 obtain⟨i,j,rfl,rfl,q⟩:=h
 obtain⟨t,rfl⟩:=rx
 obtain⟨t',rfl⟩:=ry
 exact rule i j t t' s _ _ ⟨.int (g i j),H,I.tok _,⟨_,rfl⟩,q⟩
theorem bn9{f:Value->Value->Sem Value}{g:Int->Int->Bool}
  (rule:∀(i j:Int) (t u:Tok) (s:Shared) (Q:Value->Shared->Prop) (E:Value->Shared->Prop),Q (.bool (g i j)) s->wpAny (model X.prog X.w) X.A (f (.int i t) (.int j u)) Q E s) :
  OpR X f (rI0 fun i j=>.bl (g i j)):=by
 intro pins s σ H x y v u Q I rx ry h
 obtain⟨i,j,rfl,rfl,q⟩:=h
 obtain⟨t,rfl⟩:=rx
 obtain⟨t',rfl⟩:=ry
 exact rule i j t t' s _ _ ⟨.bl (g i j),H,I,rfl,q⟩
theorem av8:OpR X (binaryOp .Add) (rI0 fun i j=>.int (i+j)):=bU8 fun _ _ _ _ _ _ _ q=>add_int q
theorem bF9:OpR X (binaryOp .Sub) (rI0 fun i j=>.int (i - j)):=bU8 fun _ _ _ _ _ _ _ q=>sub_int q
theorem bG0:OpR X (binaryOp .Mod) (rI (fun _ j=>0 < j) fun i j=>.int (i % j)):=opI fun i j _ _ _ _ _ hc q=>by
 have h1:(0:Int) < j:=hc
 exact mod_int' (by omega) (by rw[Int.fmod_eq_emod_of_nonneg i (by omega)];exact q)
theorem unI{f:Value->Sem Value}{g:Int->Int}
  (rule:∀(i:Int) (t:Tok) (s:Shared) (Q:Value->Shared->Prop) (E:Value->Shared->Prop),Q (.int (g i) s.toks) { s with toks:=s.toks+1 }->wpAny (model X.prog X.w) X.A (f (.int i t)) Q E s) :
  UnR X f (rU fun i=>.int (g i)):=by
 intro pins s σ H x v Q I rx h
 obtain⟨i,rfl,q⟩:=h
 obtain⟨t,rfl⟩:=rx
 exact rule i t s _ _ ⟨.int (g i),H,I.tok _,⟨_,rfl⟩,q⟩
theorem bB0:UnR X (unaryOp .USub) (rU fun i=>.int (-i)):=unI fun _ _ _ _ _ q=>neg_int q
end
section
variable {X:Cx}{a b c:Expr}{ta tb tc:TE}{pos:Pos}
theorem bd4(I:Inv X pins σ H s) (q:Q (.bl k) H) (e:k=k'):EP X pins σ Q (.bool k') s:=by
 subst e
 exact⟨.bl k,H,I,rfl,q⟩
theorem bU4:OpR X (compareOp .Lt) (rI0 fun i j=>.bl (decide (i < j))):=bn9 fun _ _ _ _ _ _ _ q=>lt_int q
theorem bU5:OpR X (compareOp .LtE) (rI0 fun i j=>.bl (decide (i<=j))):=bn9 fun _ _ _ _ _ _ _ q=>le_int q
theorem bU6:OpR X (compareOp .Gt) (rI0 fun i j=>.bl (decide (j < i))):=bn9 fun _ _ _ _ _ _ _ q=>gt_int q
theorem bU7:OpR X (compareOp .GtE) (rI0 fun i j=>.bl (decide (j<=i))):=bn9 fun _ _ _ _ _ _ _ q=>ge_int q
theorem bG1:OpR X (compareOp .Is) (fun x y H Q=>y=.non/\Q (.bl (decide (x=.non))) H):=by
 intro pins s σ H x y v u Q I rx ry h
 obtain⟨rfl,q⟩:=h
 cases ry
 refine is_none_gen (bd4 I q ?_)
 cases x<;>first
  | (cases rx;rfl)
  | (obtain⟨t,rfl⟩:=rx;rfl)
theorem bn6:OpR X (compareOp .IsNot) (fun x y H Q=>y=.non/\Q (.bl (!decide (x=.non))) H):=by
 intro pins s σ H x y v u Q I rx ry h
 obtain⟨rfl,q⟩:=h
 cases ry
 refine isnot_none_gen (bd4 I q ?_)
 cases x<;>first
  | (cases rx;rfl)
  | (obtain⟨t,rfl⟩:=rx;rfl)
theorem aW5(b:Expr) (h:op≠.In:=by decide) (h2:op≠.NotIn:=by decide):behindInMarks op b=false:=by
 have e1:(op==CmpOp.In)=false:=by cases op<;>first|rfl|exact absurd rfl h
 have e2:(op==CmpOp.NotIn)=false:=by cases op<;>first|rfl|exact absurd rfl h2
 cases b<;>simp[behindInMarks,e1,e2]
theorem bn1(ho:OpR X (compareOp op) r) (ha:PE X a ta) (hb:PE X b tb) (hm:behindInMarks op b=false):PE X (.Compare a [op] [b] pos) (tOp r ta tb):=by
 intro pins s σ H Q I h
 exact wpAny_Compare1 (bO9 ha hb I h fun v u s2 x y H2 I2 rx ry q=>ho pins s2 σ H2 x y v u Q I2 rx ry q) hm
noncomputable def bv9(t:TE):TT:=fun σ H Q=>t σ H fun x H'=>∃k,x=.bl k/\Q k H'
theorem bm1(ho:OpR X (compareOp op) r) (ha:PE X a ta) (hb:PE X b tb) (hm:behindInMarks op b=false):PT X (.Compare a [op] [b] pos) (bv9 (tOp r ta tb)):=by
 intro pins s σ H Q I h
 refine wpAny_isTrue_Compare1 (thn (ha pins s σ H _ I h) fun v s1 ⟨x,H1,I1,r1,q1⟩=>thn (hb pins s1 σ H1 _ I1 q1) fun u s2 ⟨y,H2,I2,r2,q2⟩ =>
  thn (ho pins s2 σ H2 x y v u _ I2 r1 r2 q2) fun c s3 ⟨z,H3,I3,r3,k,e,q3⟩=>?_) hm
 subst e
 cases r3
 exact wpAny_truthy_bool ⟨H3,I3,q3⟩
noncomputable def aQ9(r r':R2) (ta tb tc:TE):TE:=fun σ H Q=>ta σ H fun x H1=>tb σ H1 fun y H2=>r x y H2 fun z H3=>∃k,z=.bl k /\
 (if k=true then tc σ H3 fun w' H4=>r' y w' H4 Q else Q (.bl false) H3)
theorem ao2(ho:OpR X (compareOp op) r) (ho':OpR X (compareOp op') r') (ha:PE X a ta) (hb:PE X b tb) (hc:PE X c tc)
  (hm:lastMarks [op,op'] [b,c]=false:=by with_unfolding_all rfl):PE X (.Compare a [op,op'] [b,c] pos) (aQ9 r r' ta tb tc):=by
 intro pins s σ H Q I h
 refine Compare_chain (thn (ha pins s σ H _ I h) fun v s1 ⟨x,H1,I1,r1,q1⟩=>chain_link (thn (hb pins s1 σ H1 _ I1 q1) fun u s2 ⟨y,H2,I2,r2,q2⟩ =>
  thn (ho pins s2 σ H2 x y v u _ I2 r1 r2 q2) fun d s3 ⟨z,H3,I3,r3,k,e,q3⟩=>?_)) hm
 subst e
 cases r3
 refine wpAny_truthy_bool ?_
 cases k with
 | false=>exact ite_ff ⟨.bl false,H3,I3,rfl,q3⟩
 | true=>exact ite_tt (chain_last (thn (hc pins s3 σ H3 _ I3 q3) fun w' s4 ⟨z',H4,I4,r4,q4⟩=>ho' pins s4 σ H4 y z' u w' Q I4 r2 r4 q4))
theorem an6(ho:OpR X (compareOp op) r) (ho':OpR X (compareOp op') r') (ha:PE X a ta) (hb:PE X b tb) (hc:PE X c tc)
  (hm:lastMarks [op,op'] [b,c]=false:=by with_unfolding_all rfl):PT X (.Compare a [op,op'] [b,c] pos) (bv9 (aQ9 r r' ta tb tc)):=by
 intro pins s σ H Q I h
 refine isTrue_chain (thn (ha pins s σ H _ I h) fun v s1 ⟨x,H1,I1,r1,q1⟩=>test_link (thn (hb pins s1 σ H1 _ I1 q1) fun u s2 ⟨y,H2,I2,r2,q2⟩ =>
  thn (ho pins s2 σ H2 x y v u _ I2 r1 r2 q2) fun d s3 ⟨z,H3,I3,r3,k,e,q3⟩=>?_)) hm
 subst e
 cases r3
 refine wpAny_truthy_bool ?_
 cases k with
 | false =>
  obtain⟨k',e',q'⟩:=q3
  cases e'
  exact ite_ff ⟨H3,I3,q'⟩
 | true =>
  refine ite_tt (test_last (thn (hc pins s3 σ H3 _ I3 q3) fun w' s4 ⟨z',H4,I4,r4,q4⟩=>thn (ho' pins s4 σ H4 y z' u w' _ I4 r2 r4 q4) fun d' s5 ⟨z2,H5,I5,r5,k2,e2,q5⟩=>?_))
  subst e2
  cases r5
  exact wpAny_truthy_bool ⟨H5,I5,q5⟩
noncomputable def bQ0(K:PySem.W.Frag) (x:V) (H:Hp) (k:Bool):Prop :=
 match x with
 | .non=>k=false
 | .bl b=>k=b
 | .int i=>k=(i != 0)
 | .str y=>y.length<=sizeLine/\k=((y.length:Int) != 0)
 | .byt y=>y.size<=sizeLine/\k=((y.size:Int) != 0)
 | .ref p=>(∃xs,SqL K H p xs/\k = !xs.isEmpty)\/(∃xs,SqT K H p xs/\k = !xs.isEmpty)\/∃kvs,H p=some (.dK kvs)/\k = !kvs.isEmpty
 | _=>False
theorem aw8{κ:Type}{kvs:List (κ×V)}{vs:List (κ×Value)}(r:KV kvs vs):(!vs.isEmpty) = !kvs.isEmpty:=by
 cases r<;>rfl
theorem aa7(r:B3 xs its):(!its.toArray.isEmpty) = !xs.isEmpty:=by
 cases r<;>simp
theorem c8:(sizeLine:Nat) < 2 ^ 63:=by rw[sizeLine_eq];decide
theorem aQ8:cd9 X (fun x H Q=>∃k,bQ0 X.K x H k/\Q k H):=by
 intro pins s σ H x v Q I rx h
 obtain⟨k,e,q⟩:=h
 have hl:=c8
 have hs:sizeLine=16777216:=sizeLine_eq
 cases x with
 | non =>
  cases rx
  have e':k=false:=e
  subst e'
  exact truthy_none ⟨H,I,q⟩
 | bl b =>
  cases rx
  have e':k=b:=e
  subst e'
  exact wpAny_truthy_bool ⟨H,I,q⟩
 | int i =>
  obtain⟨t,rfl⟩:=rx
  have e':k=(i != 0):=e
  subst e'
  exact PySem.P.truthy_int ⟨H,I,q⟩
 | str y =>
  obtain⟨t,rfl⟩:=rx
  obtain⟨hy,e'⟩:y.length<=sizeLine/\k=((y.length:Int) != 0):=e
  subst e'
  exact PySem.P.truthy_str (by omega) ⟨H,I.tok _,q⟩
 | byt y =>
  obtain⟨t,rfl⟩:=rx
  obtain⟨hy,e'⟩:y.size<=sizeLine/\k=((y.size:Int) != 0):=e
  subst e'
  exact PySem.W.truthy_bytes (by omega) ⟨H,I.tok _,q⟩
 | ref p =>
  cases rx
  have e':(∃xs,SqL X.K H p xs/\k = !xs.isEmpty)\/(∃xs,SqT X.K H p xs/\k = !xs.isEmpty)\/∃kvs,H p=some (.dK kvs)/\k = !kvs.isEmpty:=e
  rcases e' with⟨xs,hx,e'⟩|⟨xs,hx,e'⟩|⟨kvs,hx,e'⟩
  ·subst e'
   obtain⟨its,r,pl,hz⟩:=I.list hx
   have hlen:=r.length
   exact wpAny_truthy_list pl.isList (by simp only[List.size_toArray];omega) ⟨H,I.tok _,by rw[aa7 r];exact q⟩
  ·subst e'
   obtain⟨its,r,pl,hz⟩:=I.tuple hx
   have hlen:=r.length
   exact truthy_tuple pl (by simp only[List.size_toArray];omega) ⟨H,I.tok _,by rw[aa7 r];exact q⟩
  ·subst e'
   obtain⟨hz,hS,vs,r,m⟩:kvs.length<=sizeLine/\(p==sysModules)=false/\∃vs,KV kvs vs/\s.heap.DictOf (o8 X.prog X.w) p vs:=I.hok p _ hx
   have hlen:kvs.length=vs.length:=Paired.length r
   exact wpAny_truthy_dict hS m (by omega) ⟨H,I.tok _,by rw[aw8 r];exact q⟩
 | _=>exact(show False from e).elim
theorem aU0(ha:PE X a ta) (he:∀whole,isTrue a X.env whole=(do let v ← whole;standAt a.pos;holding [v] (truthy v))) :
  PT X a (fun σ H Q=>ta σ H fun x H'=>∃k,bQ0 X.K x H' k/\Q k H'):=by
 intro pins s σ H Q I h
 exact isTrue_plain (thn (ha pins s σ H _ I h) fun v s1 ⟨x,H1,I1,r1,q1⟩=>aQ8 pins s1 σ H1 x v Q I1 r1 q1) (he _)
theorem av7:OpR X (binaryOp .Add) (fun x y H Q=>∃i j,x=.str i/\y=.str j/\i.length+j.length<=sizeLine/\Q (.str (i++j)) H):=by
 intro pins s σ H x y v u Q I rx ry h
 obtain⟨i,j,rfl,rfl,hz,q⟩:=h
 obtain⟨t,rfl⟩:=rx
 obtain⟨t',rfl⟩:=ry
 exact add_str (fun t' tk=>⟨.str (i++j),H,I.tok _,⟨_,rfl⟩,q⟩) hz
theorem K8(r:B3 [x] us):∃u,us=[u]/\D2 x u:=by
 cases r with
 | cons r1 r2=>cases r2;exact⟨_,rfl,r1⟩
theorem aA2(r:B3 [x,y] us):∃u w',us=[u,w']/\D2 x u/\D2 y w':=by
 cases r with
 | cons r1 r2 =>
  cases r2 with
  | cons r3 r4=>cases r4;exact⟨_,_,rfl,r1,r3⟩
theorem aP6(hc:X.calm=true):G6 X (.builtin "max") (fun xs H Q=>∃i j,xs=[.int i,.int j]/\Q (.int (if j > i then j else i)) H):=by
 intro pins s σ H xs us Q I r h
 obtain⟨i,j,rfl,q⟩:=h
 obtain⟨u,w',rfl,⟨t,rfl⟩,⟨t',rfl⟩⟩:=aA2 r
 refine max_two_ints (I.ok.hd hc) fun h' tk k=>⟨_,H,I.kept k,?_,q⟩
 by_cases hj:j > i
 ·rw[if_pos hj,if_pos hj];exact⟨_,rfl⟩
 ·rw[if_neg hj,if_neg hj];exact⟨_,rfl⟩
theorem aP3(hc:X.calm=true):G6 X (.builtin "min") (fun xs H Q=>∃i j,xs=[.int i,.int j]/\Q (.int (if j < i then j else i)) H):=by
 intro pins s σ H xs us Q I r h
 obtain⟨i,j,rfl,q⟩:=h
 obtain⟨u,w',rfl,⟨t,rfl⟩,⟨t',rfl⟩⟩:=aA2 r
 refine min_two_ints (I.ok.hd hc) fun h' tk k=>⟨_,H,I.kept k,?_,q⟩
 by_cases hj:j < i
 ·rw[if_pos hj,if_pos hj];exact⟨_,rfl⟩
 ·rw[if_neg hj,if_neg hj];exact⟨_,rfl⟩
theorem af5:G6 X (.type "int") (fun xs H Q=>(∃i,xs=[.int i]/\Q (.int i) H)\/∃k,xs=[.bl k]/\Q (.int (if k then 1 else 0)) H):=by
 intro pins s σ H xs us Q I r h
 rcases h with⟨i,rfl,q⟩|⟨k,rfl,q⟩
 ·obtain⟨u,rfl,t,rfl⟩:=K8 r
  exact call_int_int ⟨.int i,H,I,⟨_,rfl⟩,q⟩
 ·obtain⟨u,rfl,r1⟩:=K8 r
  cases r1
  exact call_int_bool ⟨.int (if k then 1 else 0),H,I.tok _,⟨_,rfl⟩,q⟩
end
end L2
namespace L2
open PySem PySem.Spec PyProof.Rows
section
variable {prog:Program}{w:World}{A:Around}{E:Value->Shared->Prop}{s:Shared}{K:PySem.W.Frag}{x dx C f:Addr}{mA:Str->Option Value}{name:Str}{v:Value}
end
section
variable {P:Program}{w:World}{H H':Hp}{h h':Heap}{a C dx:Addr}{fs fs':List (Str×V)}
end
section
variable {X:Cx}{pins:List (Addr×Obj)}{σ:St}{H:Hp}{s:Shared}{a C dx:Addr}{fs:List (Str×V)}{f:Str}{v:V}{A:Around}{E:Value->Shared->Prop}
end
section
variable {X:Cx}{o e value:Expr}{f:Str}{pos pos' tpos:Pos}{ta tv:TE}
end
section
variable {X:Cx}{pins:List (Addr×Obj)}{σ:St}{H:Hp}{s:Shared}{A:Around}{E:Value->Shared->Prop}{Q:Value->Shared->Prop}{c:Value}{b:Bool}
end
end L2
namespace L2
open PySem PySem.Spec PyProof.Rows
structure Room (k:Nat) (A:Around):Prop where
 hd:A.handled=none
 dp:A.depth+3*k+5 < recursionLimit
 un:A.units+16*k+200 < cLine
theorem Room.mono(r:Room k A) (h:j<=k):Room j A:=⟨r.hd,by have:=r.dp;omega,by have:=r.un;omega⟩
theorem Room.deeper(r:Room (k+1) A) (env:Env):Room k (A.deeper env) :=
 ⟨r.hd,by have:=r.dp;show A.depth+1+3*k+5 < _;omega,by have:=r.un;show A.units+3+16*k+200 < _;omega⟩
theorem Room.depth(r:Room k A):A.depth < recursionLimit:=by have:=r.dp;omega
theorem Room.units(r:Room k A):A.units+64 < cLine:=by have:=r.un;omega
noncomputable def bS1:TA:=fun _ H Q=>Q [] H
noncomputable def bS4(ta:TE) (tr:TA):TA:=fun σ H Q=>ta σ H fun x H1=>tr σ H1 fun xs H2=>Q (x::xs) H2
section
variable {X:Cx}{e:Expr}{es:List Expr}{te:TE}{t:TA}{pos:Pos}
theorem E3:PA X [] bS1:=fun _ _ _ _ H Q I h=>Calls.spliced_nil ⟨[],H,I,.nil,h⟩
theorem C0(ha:PE X e te) (hr:PA X es t) (hs:starEach (e::es) X.env=(false,eval e X.env)::starEach es X.env:=by rfl):PA X (e::es) (bS4 te t):=by
 intro pos pins s σ H Q I h
 rw[hs]
 show wpAny _ _ (spliced ((false,eval e X.env)::backTo pos (starEach es X.env))) _ _ s
 refine Calls.spliced_cons (thn (ha pins s σ H _ I h) fun u s1 ⟨x,H1,I1,r1,q1⟩=>?_)
 exact thn (hr pos pins s1 σ H1 _ I1 q1) fun us s2 ⟨xs,H2,I2,r2,q2⟩=>⟨x::xs,H2,I2,.cons r1 r2,q2⟩
noncomputable def cb1(t:TA):TE:=fun σ H Q=>t σ H fun xs H1=>xs.length<=sizeLine/\∀p,H1 p=none->Q (.ref p) (upd H1 p (.tup xs))
noncomputable def cb7(t:TA):TE:=fun σ H Q=>t σ H fun xs H1=>xs.length<=sizeLine/\∀p,H1 p=none->Q (.ref p) (upd H1 p (.lst xs))
theorem bF1{x1} (h:PA X es t):PE X (.Tuple es x1 pos) (cb1 t):=by
 intro pins s σ H Q I hq
 refine wpAny_Tuple_spliced (thn (h pos pins s σ H _ I hq) fun us s1 ⟨xs,H1,I1,r,z,q⟩=>⟨by rw[← r.length];exact z,?_⟩)
 have hf:H1 s1.heap.objs.size=none:=I1.hok.fresh (Nat.le_refl _)
 refine⟨.ref s1.heap.objs.size,upd H1 s1.heap.objs.size (.tup xs),I1.laid (t':=s1.toks) (fun b u e=>Heap.get?_push_of_some _ e) (Nat.le_refl _) ?_,rfl,q _ hf⟩
 exact⟨z,us,r,⟨_,Heap.get?_push_size _ rfl,rfl,⟨_,rfl⟩,rfl⟩⟩
theorem bF7(h:PA X es t):PE X (.List es pos) (cb7 t):=by
 intro pins s σ H Q I hq
 refine wpAny_List_spliced (thn (h pos pins s σ H _ I hq) fun us s1 ⟨xs,H1,I1,r,z,q⟩=>⟨by rw[← r.length];exact z,?_⟩)
 have hf:H1 s1.heap.objs.size=none:=I1.hok.fresh (Nat.le_refl _)
 refine⟨.ref s1.heap.objs.size,upd H1 s1.heap.objs.size (.lst xs),I1.laid (t':=s1.toks) (fun b u e=>Heap.get?_push_of_some _ e) (Nat.le_refl _) ?_,rfl,q _ hf⟩
 exact⟨z,us,0,r,Heap.get?_push_size _ rfl⟩
end
noncomputable abbrev Sp:=List V->Hp->VK->XK->Prop
noncomputable abbrev CXT:=List Env->Hp->Shared->XK->Value->Shared->Prop
structure Env0 (P:Program) (w:World) (K:PySem.W.Frag) (mg:Str->Option Value) (base:Heap) (A:Around) (outer:List Env) (s:Shared) (H:Hp):Prop where
 frames:A.frames=some outer
 mod:Mod K mg base
 bs:∀b o,base.get? b=some o->s.heap.get? b=some o/\H b=none
 bsz:base.objs.size<=s.heap.objs.size
 funs:s.heap.FunFrames base outer
 frf:∀b∈frs outer,H b=none
 hok:HOk P w H s.heap
 bare:AllBare s.gens
noncomputable def CE(outer:List Env) (P:Program) (w:World) (H:Hp) (s:Shared) (Q:VK) (u:Value) (s':Shared):Prop :=
 ∃v H',s'.os=s.os/\AllBare s'.gens/\Un (frs outer) [] H H' s.heap s'.heap/\HOk P w H' s'.heap/\D2 v u/\Q v H'
noncomputable def CR(CX:CXT) (outer:List Env) (P:Program) (w:World) (H:Hp) (s:Shared) (Q:VK) (E:XK) (r:Result) (s':Shared):Prop :=
 match r with
 | .ok (.ret u)=>CE outer P w H s Q u s'
 | .ok _=>False
 | .error e=>CX outer H s E e s'
structure FnOk (P:Program) (w:World) (K:PySem.W.Frag) (mg:Str->Option Value) (base:Heap) (CX:CXT) (k:Nat) (f:Addr) (fd:FuncData) (ps:List Str) (sp:Sp):Prop where
 len:∀vs H Q E,sp vs H Q E->vs.length=ps.length
 run:∀(A:Around) (outer:List Env) (s:Shared) (H:Hp) (args:Args) (us:List Value) (vs:List V) (Q:VK) (E:XK),Room k A->Env0 P w K mg base A outer s H->BindsTo s fd args (ps.zip us)->B3 vs us->sp vs H Q E ->
  codeAny (model P w) A (.call (.ref f) args) (CR CX outer P w H s Q E) s
theorem FnOk.mono{P:Program}{w:World}{K:PySem.W.Frag}{mg:Str->Option Value}{base:Heap}{CX:CXT}{j k:Nat}{f:Addr}{fd:FuncData}{ps:List Str}{sp:Sp}(F:FnOk P w K mg base CX j f fd ps sp) (h:j<=k) :
  FnOk P w K mg base CX k f fd ps sp:=⟨F.len,fun A outer s H args us vs Q E hr=>F.run A outer s H args us vs Q E (hr.mono h)⟩
section
variable {X:Cx}{pins:List (Addr×Obj)}{σ:St}{H:Hp}{s s':Shared}
theorem Inv.env0(I:Inv X pins σ H s):Env0 X.prog X.w X.K X.mg X.base X.A X.stack s H :=
 ⟨I.ok.frames,I.ok.mod,I.bs,Nat.le_trans I.ok.bsz I.sz,I.stack,I.stkFree,I.hok,I.bare⟩
theorem Inv.after(I:Inv X pins σ H s) (h:CE X.stack X.prog X.w H s Q u s'):EP X pins σ Q u s':=by
 obtain⟨v,H',os,bare,un,hok,r,q⟩:=h
 obtain⟨hh,g,d,t,os'⟩:=s'
 obtain rfl:os'=s.os:=os
 exact⟨v,H',I.call (h':=hh) (g':=g) (d':=d) (t':=t) (ch:=[]) un hok bare (fun b z=>absurd z (by simp)),r,q⟩
end
noncomputable def bw1(sp:Sp) (dvs:List V) (E:XK) (t:TA):TE:=fun σ H Q=>t σ H fun vs H1=>sp (vs++dvs) H1 Q E
noncomputable def K1(K:PySem.W.Frag) (fd:FuncData) (ps:List Str) (ds:List Value):Prop :=
 ∀(s:Shared) (us:List Value),K.In s.heap->(us++ds).length=ps.length->BindsTo s fd ⟨us,[]⟩ (ps.zip (us++ds))
theorem K1.all{K:PySem.W.Frag}{fd:FuncData}{ps:List Str}(h:∀us:List Value,us.length=ps.length->bindArgs fd ⟨us,[]⟩=pure (ps.zip us)):K1 K fd ps []:=fun s us _ hl=>by
 rw[List.append_nil]at hl ⊢
 exact .of_eq (h us hl)
noncomputable def al6(CX:CXT) (X:Cx) (E:XK):Prop:=∀(pins:List (Addr×Obj)) (σ:St) (H:Hp) (s:Shared) (e:Value) (s':Shared),Inv X pins σ H s->CX X.stack H s E e s'->X.xe e s'
section
variable {X:Cx}{CX:CXT}{k:Nat}{f C:Addr}{fd:FuncData}{ps:List Str}{sp:Sp}{dvs:List V}{ds:List Value}{E:XK}{x m:Str}{p pos apos:Pos}{e o:Expr}{es:List Expr}{ta:TE}{t:TA}
theorem aS8(F:FnOk X.prog X.w X.K X.mg X.base CX k f fd ps sp) (hr:Room k X.A) (hb:K1 X.K fd ps ds) (hd:B3 dvs ds) (hx:al6 CX X E)
  (I:Inv X pins σ H s) (r:B3 vs us) (h:sp (vs++dvs) H Q E):wpAny (model X.prog X.w) X.A (call (.ref f) us) (EP X pins σ Q) X.xe s:=by
 have r2:B3 (vs++dvs) (us++ds):=r.append hd
 have hl:(us++ds).length=ps.length:=by rw[← r2.length];exact F.len _ _ _ _ h
 refine wpAny_call (codeAny_mono (F.run X.A X.stack s H ⟨us,[]⟩ (us++ds) (vs++dvs) Q E hr I.env0 (hb s us I.kIn hl) r2 h) fun r s' hq=>?_)
 cases r with
 | error e=>exact hx pins σ H s e s' I hq
 | ok fl =>
  cases fl with
  | ret u=>exact I.after hq
  | next=>exact False.elim hq
  | brk=>exact False.elim hq
  | cont=>exact False.elim hq
theorem bn3(F:FnOk X.prog X.w X.K X.mg X.base CX k f fd ps sp) (hr:Room k X.A) (hg:Gl X x) (hm:X.mg x=some (.ref f)) (hk:PySem.W.keepIn X.K (.ref f)=true) (hb:K1 X.K fd ps ds) (hd:B3 dvs ds) (hx:al6 CX X E)
  (ha:PA X (e::es) t) (hdb:(x==("__debug__" : Str))=false:=by decide) (he:starEach (e::es) X.env=(false,eval e X.env)::starEach es X.env:=by rfl) (hpl:(backTo pos (starEach es X.env)).any (·.1)=false:=by rfl) :
  PE X (.Call (.Name x p) (e::es) [] pos) (bw1 sp dvs E t):=by
 intro pins s σ H Q I h
 refine wpAny_Call_Name_kw (N4 I hg hm ?_ hdb)
 refine PySem.W.callWith_K (h₀:=X.base) I.ok.mod.kin hk (thn (ha pos pins s σ H _ I h) fun us s1 ⟨vs,H1,I1,r,q⟩=>⟨I1.kIn,?_⟩) he hpl
 exact aS8 F hr hb hd hx I1 r q
theorem aV6(F:FnOk X.prog X.w X.K X.mg X.base CX k f fd ps sp) (hr:Room k X.A) (hg:Gl X x) (hm:X.mg x=some (.ref f)) (hk:PySem.W.keepIn X.K (.ref f)=true) (hb:K1 X.K fd ps ds) (hd:B3 dvs ds) (hx:al6 CX X E)
  (hdb:(x==("__debug__" : Str))=false:=by decide):PE X (.Call (.Name x p) [] [] pos) (bw1 sp dvs E bS1):=by
 intro pins s σ H Q I h
 refine wpAny_Call_Name_kw (N4 I hg hm ?_ hdb)
 exact PySem.W.callWith_K0 I.kIn hk (aS8 (us:=[]) F hr hb hd hx I .nil h)
end
section
variable {X:Cx}{CX:CXT}{k:Nat}{f C:Addr}{fd:FuncData}{ps ks:List Str}{sp:Sp}{E:XK}{x m:Str}{p pos apos kpos:Pos}{e o:Expr}{es:List Expr}{kws:List Keyword}{te ta:TE}{t tk:TA}{nm:Option Str}
variable {g:List Value->List Value->List Value}{gV:List V->List V->List V}
end
structure FnScope (N P:List Str) (sc:Scope):Prop where
 kind:sc.kind=.function
 co:sc.isCoroutine=false
 gen:sc.isGenerator=false
 nd:N.Nodup
 pre:N.take P.length=P
 par:∀x∈P,sc.names.lookup x=some .local\/sc.names.lookup x=some .cell
 nofree:∀y∈sc.names,y.2≠.free
theorem af6{kindOf:Str->Option NameKind}{x:Str}:∀{binds:List (Str×Value)}{m:Str->Option Value},(∀v,(x,v)∉binds)->bindL kindOf binds m x=m x
 | [],_,_=>rfl
 | (n,v)::r,m,h=>by
  unfold bindL
  rw[af6 fun w hw=>h w (List.mem_cons_of_mem _ hw)]
  split
  ·have:x≠n:=by rintro rfl;exact h v List.mem_cons_self
   simp[this]
  ·rfl
theorem af7{kindOf:Str->Option NameKind}{x:Str}:∀{binds:List (Str×Value)}{m:Str->Option Value},(∀v,(x,v)∉binds)->bindC kindOf binds m x=m x
 | [],_,_=>rfl
 | (n,v)::r,m,h=>by
  unfold bindC
  rw[af7 fun w hw=>h w (List.mem_cons_of_mem _ hw)]
  split
  ·rfl
  ·have:x≠n:=by rintro rfl;exact h v List.mem_cons_self
   simp[this]
theorem d9{kindOf:Str->Option NameKind}{x:Str}{v:Value}:∀{P:List Str}{vs:List Value}{i:Nat}{m:Str->Option Value},P.Nodup->P[i]? = some x->vs[i]? = some v->kindOf x=some .local ->
  bindL kindOf (P.zip vs) m x=some v
 | [],_,_,_,_,h,_,_=>by simp at h
 | _::_,[],_,_,_,_,h,_=>by simp at h
 | p::P,w::vs,0,m,nd,h1,h2,hk=>by
  simp at h1 h2;subst h1;subst h2
  show bindL kindOf ((p,w)::P.zip vs) m p=_
  unfold bindL
  rw[af6 fun v hv=>(List.nodup_cons.mp nd).1 (List.of_mem_zip hv).1,if_pos hk]
  simp
 | p::P,w::vs,i+1,m,nd,h1,h2,hk=>by
  show bindL kindOf ((p,w)::P.zip vs) m x=_
  unfold bindL
  exact d9 (i:=i) (List.nodup_cons.mp nd).2 (by simpa using h1) (by simpa using h2) hk
theorem e7{kindOf:Str->Option NameKind}{x:Str}{v:Value}:∀{P:List Str}{vs:List Value}{i:Nat}{m:Str->Option Value},P.Nodup->P[i]? = some x->vs[i]? = some v->kindOf x≠some .local ->
  bindC kindOf (P.zip vs) m x=some v
 | [],_,_,_,_,h,_,_=>by simp at h
 | _::_,[],_,_,_,_,h,_=>by simp at h
 | p::P,w::vs,0,m,nd,h1,h2,hk=>by
  simp at h1 h2;subst h1;subst h2
  show bindC kindOf ((p,w)::P.zip vs) m p=_
  unfold bindC
  rw[af7 fun v hv=>(List.nodup_cons.mp nd).1 (List.of_mem_zip hv).1,if_neg hk]
  simp
 | p::P,w::vs,i+1,m,nd,h1,h2,hk=>by
  show bindC kindOf ((p,w)::P.zip vs) m x=_
  unfold bindC
  exact e7 (i:=i) (List.nodup_cons.mp nd).2 (by simpa using h1) (by simpa using h2) hk
noncomputable def G3(N:List Str) (vs:List V):St:=vs.map some++List.replicate (N.length - vs.length) none
noncomputable def ak9(CX:CXT) (P:Program) (w:World) (K:PySem.W.Frag) (mg:Str->Option Value) (base:Heap) (N:List Str) (qual:Str) (scope:Scope) (f:Addr) (cd:Value) (A:Around) (outer:List Env) (s:Shared) (H:Hp) (E:XK):Cx where
 prog:=P
 w:=w
 K:=K
 mg:=mg
 base:=base
 A:=A.deeper (envOfC qual scope s.heap.objs.size f cd)
 N:=N
 s₀:=s
 H₀:=H
 env:=envOfC qual scope s.heap.objs.size f cd
 outer:=outer
 stack:=envOfC qual scope s.heap.objs.size f cd::outer
 ex:=[]
 calm:=true
 fn:=fun _=>true
 pn:=[]
 xe:=fun e s'=>wpAny (model P w) (A.deeper (envOfC qual scope s.heap.objs.size f cd)) (leaving (envOfC qual scope s.heap.objs.size f cd) e) (fun _ s''=>CX outer H s E e s'') (fun e' s''=>CX outer H s E e' s'') s'
theorem Z0{sc:Scope}{n:Nat}{x:Str}(h:sc.names.lookup x=some .cell):∃c,(cellsFrom n sc.names []).lookup x=some c:=by
 have q:=PySem.W.cellsFrom_some sc.names n [] (.inl h)
 exact Option.isSome_iff_exists.mp q
theorem aN0{CX:CXT}{P:Program}{w:World}{K:PySem.W.Frag}{mg:Str->Option Value}{base:Heap}{N ps:List Str}{qual:Str}{scope:Scope}{f:Addr}{cd:Value}{A:Around}{outer:List Env}{s s1:Shared}{H:Hp}{E:XK}{us:List Value}{vs:List V}
  (S:FnScope N ps scope) (hd:A.handled=none) (e0:Env0 P w K mg base A outer s H) (hl:vs.length=ps.length) (r:B3 vs us)
  (x:InCallC s s.heap.objs.size (bindL (envOfC qual scope s.heap.objs.size f cd).kindOf (ps.zip us) fun _=>none) (cellsFrom (s.heap.objs.size+1) scope.names []) (bindC (envOfC qual scope s.heap.objs.size f cd).kindOf (ps.zip us) fun _=>none) s1) :
  Inv (ak9 CX P w K mg base N qual scope f cd A outer s H E) [] (G3 N vs) H s1:=by
 have hpl:ps.length<=N.length:=by have:=congrArg List.length S.pre;rw[List.length_take]at this;omega
 obtain⟨h1,tk,rfl,hk⟩:=x.done
 have noA:∀b:Addr,b∉(ak9 CX P w K mg base N qual scope f cd A outer s H E).ex:=fun b z=>absurd (show b∈([]:List Addr) from z) (by simp)
 refine⟨⟨e0.mod,S.kind,rfl,rfl,Nat.le_refl _,fun y z c h1 h2=>?_,fun y hy=>?_,fun y c _ h=>?_,fun _=>hd,Around.frames_deeper e0.frames,.inr ⟨rfl,rfl⟩,fun b z=>absurd z (noA b),e0.bs,e0.bsz,fun b _ _=>noA b,fun b z=>absurd z (noA b),e0.funs,e0.frf⟩,
  rfl,e0.bare,Un.kept hk,⟨_,x.toInCall.ns,fun i y v h1 h2 h3=>?_⟩,fun y c h=>⟨_,x.cell y c h⟩,e0.hok.fresh (Nat.le_refl _),fun y c h=>?_,fun p hp=>absurd (show p∈([]:List (Addr×Obj)) from hp) (by simp),e0.hok.kept hk,?_⟩
 ·exact name_of_addr x.apart (PySem.mem_of_lookup h1) (PySem.mem_of_lookup h2)
 ·have hy:scope.names.lookup y=some .cell\/scope.names.lookup y=some .free:=hy
  rcases hy with hy|hy
  ·exact Z0 hy
  ·exact absurd rfl (S.nofree _ (PySem.mem_of_lookup hy))
 ·exact Nat.le_of_lt (x.above y c (PySem.mem_of_lookup h))
 ·have hi:i < vs.length:=by
   unfold G3 at h2
   by_cases hi:i < vs.length
   ·exact hi
   ·rw[List.getElem?_append_right (by simpa using hi)]at h2
    rw[List.getElem?_replicate]at h2
    split at h2<;>cases h2
  have ha:vs[i]? = some v:=by
   unfold G3 at h2
   rw[List.getElem?_append_left (by simpa using hi),List.getElem?_map]at h2
   cases e:vs[i]? with
   | none=>rw[e]at h2;cases h2
   | some a=>rw[e]at h2;cases h2;rfl
  obtain⟨u,hu,rv⟩:=r.get ha
  have hp:ps[i]? = some y:=by
   rw[← S.pre,List.getElem?_take_of_lt (by omega)];exact h1
  have ndP:ps.Nodup:=by rw[← S.pre];exact S.nd.sublist (List.take_sublist _ _)
  refine⟨u,rv,?_⟩
  rcases S.par y (List.mem_of_getElem? hp) with k|k
  ·exact .inl ⟨k,d9 ndP hp hu k⟩
  ·obtain⟨c,e⟩:=Z0 (n:=s.heap.objs.size+1) k
   refine .inr ⟨.inl k,c,e,?_⟩
   have q:=x.cell y c e
   rw[e7 ndP hp hu (by show scope.names.lookup y≠_;rw[k];decide)]at q
   exact q
 ·exact e0.hok.fresh (Nat.le_of_lt (x.above y c (PySem.mem_of_lookup h)))
 ·unfold G3
  show _=N.length
  rw[List.length_append,List.length_map,List.length_replicate]
  omega
theorem by2{CX:CXT}{P:Program}{w:World}{K:PySem.W.Frag}{mg:Str->Option Value}{base:Heap}{k:Nat}{f:Addr}{name qual:Str}{params:Arguments}{body:List Stmt}{scope:Scope}{dV kV doc pm cdv ct oc:Value}{an od:Option Addr}
  {osl:Array (Option Value)}{N ps:List Str}{sp:Sp}(lk:K.lookup f=some ⟨oc,od,.func (PySem.W.fnOf name qual params body scope dV kV doc pm an cdv ct),osl⟩) (hcd:PySem.W.codeIn K cdv qual=true) (S:FnScope N ps scope)
  (len:∀vs H Q E,sp vs H Q E->vs.length=ps.length)
  (hbody:∀(A:Around) (outer:List Env) (s:Shared) (H:Hp) (vs:List V) (Q:VK) (E:XK),Room k (A.deeper (envOfC qual scope s.heap.objs.size f cdv))->sp vs H Q E ->
   ∃t,PSs (ak9 CX P w K mg base N qual scope f cdv A outer s H E) body t/\t { nx:=fun _ H'=>Q .non H',rt:=Q } (G3 N vs) H) :
  FnOk P w K mg base CX (k+1) f (PySem.W.fnOf name qual params body scope dV kV doc pm an cdv ct) ps sp:=by
 refine⟨len,fun A outer s H args us vs Q E hr e0 hb r hsp=>?_⟩
 have hl:=len _ _ _ _ hsp
 have KX:K.In s.heap:=e0.mod.kin.keeps fun b o e=>(e0.bs b o e).1
 have lim:s.heap.NoLimit:=e0.mod.nolimit.keeps fun b o e=>(e0.bs b o e).1
 have hkind:∀y∈ps.zip us,scope.names.lookup y.1=some .local\/(scope.names.lookup y.1=some .cell/\((cellsFrom (s.heap.objs.size+1) scope.names []).lookup y.1).isSome=true):=fun⟨n,v⟩ hy=>by
  rcases S.par n (List.of_mem_zip hy).1 with q|q
  ·exact .inl q
  ·exact .inr ⟨q,PySem.W.cellsFrom_some _ _ _ (.inl q)⟩
 refine codeAny_call_function hr.depth (KX _ _ lk) rfl S.co S.gen rfl (PySem.W.codeRec_of KX hcd) (hb _ _ _ _ ?_)
 refine wpAny_newFunctionEnv_cells S.kind hkind fun env he s1 x=>?_
 subst he
 refine⟨lim.keeps x.toInCall.keep,codeAny_func ?_⟩
 obtain⟨t,ht,hq⟩:=hbody A outer s H vs Q E (hr.deeper _) hsp
 have I:Inv (ak9 CX P w K mg base N qual scope f cdv A outer s H E) [] (G3 N vs) H s1:=aN0 S hr.hd e0 hl r x
 refine wpAny_mono (ht [] s1 (G3 N vs) H _ I hq) (fun fl s' hs=>?_) fun e s' hs=>hs
 have fin:∀{σ':St}{H':Hp}{v:V}{u:Value},Inv (ak9 CX P w K mg base N qual scope f cdv A outer s H E) [] σ' H' s'->D2 v u->Q v H'->CE outer P w H s Q u s' :=
  fun{σ' H' v u} J rv q=>⟨v,H',J.os,J.bare,J.base,J.hok,rv,q⟩
 cases fl with
 | ret u =>
  obtain⟨v,σ',H',J,rv,q⟩:=hs
  exact fin J rv q
 | next =>
  obtain⟨σ',H',J,q⟩:=hs
  exact fin (v:=V.non) (u:=Value.none) J rfl q
 | brk =>
  obtain⟨_,_,_,q⟩:=hs
  exact False.elim q
 | cont =>
  obtain⟨_,_,_,q⟩:=hs
  exact False.elim q
end L2
namespace L2
open PySem PySem.Spec PyProof.Rows
section
variable {X:Cx}{x:Str}{p pos:Pos}{e:Expr}{es:List Expr}{t:TA}{id T:String}{r:List V->Hp->VK->Prop}
noncomputable def tCB(r:List V->Hp->VK->Prop) (t:TA):TE:=fun σ H Q=>t σ H fun vs H1=>r vs H1 Q
theorem F4(hc:G6 X (.builtin id) r) (hg:Gl X x) (hm:X.mg x=none) (hv:bootBuiltins x=some (.builtin id)) (ha:PA X (e::es) t) (hn:x ≠ "__name__" := by decide) (hdb:(x==("__debug__" : Str))=false:=by decide)
  (he:starEach (e::es) X.env=(false,eval e X.env)::starEach es X.env:=by rfl) (hpl:(backTo pos (starEach es X.env)).any (·.1)=false:=by rfl):PE X (.Call (.Name x p) (e::es) [] pos) (tCB r t):=by
 intro pins s σ H Q I h
 refine wpAny_Call_Name_kw (aa2 I hg hm hv ?_ hn hdb)
 exact PyProof.Rows.callWith_builtin1 (thn (ha pos pins s σ H _ I h) fun us s1 ⟨vs,H1,I1,r1,q1⟩=>hc pins s1 σ H1 vs us Q I1 r1 q1) he hpl
theorem O7(hc:G6 X (.type T) r) (hg:Gl X x) (hm:X.mg x=none) (hv:bootBuiltins x=some (.type T)) (ha:PA X (e::es) t) (hn:x ≠ "__name__" := by decide) (hdb:(x==("__debug__" : Str))=false:=by decide)
  (he:starEach (e::es) X.env=(false,eval e X.env)::starEach es X.env:=by rfl) (hpl:(backTo pos (starEach es X.env)).any (·.1)=false:=by rfl):PE X (.Call (.Name x p) (e::es) [] pos) (tCB r t):=by
 intro pins s σ H Q I h
 refine wpAny_Call_Name_kw (aa2 I hg hm hv ?_ hn hdb)
 exact PyProof.Rows.callWith_type1 (thn (ha pos pins s σ H _ I h) fun us s1 ⟨vs,H1,I1,r1,q1⟩=>hc pins s1 σ H1 vs us Q I1 r1 q1) he hpl
end
end L2
namespace HT
open PySem PyProof.Rows
section
open PySem.SeqAt
open PySem.AutoSeq1 (wpAny_loadPart')
open PySem.MeetsSeq PySem.MeetsSeq2 PySem.MeetsSeq3
end
section
variable {prog:Program}{w:World}{A:Around}{E:Value->Shared->Prop}{s:Shared}
theorem cat_tup(ht:IsTup s.heap t vs.toArray) (hb:IsTup s.heap b ws.toArray) (hv:vs≠[])
  (h1:ws=[]->Q (.ref t) s) (h2:ws≠[]->Q (.ref s.heap.objs.size) { s with heap:=s.heap.push { cls:=.type "tuple", data:=.seq (vs++ws).toArray } })
  (hsz:vs.length+ws.length<=sizeLine):wpAny (model prog w) A (binaryOp .Add (.ref t) (.ref b)) Q E s:=by
 obtain⟨⟨cls,dd,data,sl⟩,ho,hc,n,hd⟩:=id ht
 obtain⟨⟨cls2,dd2,data2,sl2⟩,ho2,hc2,n2,hd2⟩:=id hb
 simp only at hc hd hc2 hd2
 subst hc hd hc2 hd2
 have e:vs.toArray++ws.toArray=(vs++ws).toArray:=by simp
 by_cases hw:ws=[]
 ·exact concat_meets ⟨_,ho,rfl⟩ ⟨_,ho2,rfl⟩ noFill_tuple_add seq_tuple_add PySem.F.slot_tuple_add PySem.F.entry_tuple_add (PySem.F.args_tuple_add_2 _ _)
   (tuple_addW1 t b vs.toArray ws.toArray n n2 dd dd2 sl sl2 (by simpa using hv) (by simp[hw])) ⟨ho,ho2,h1 hw⟩
 ·refine concat_meets ⟨_,ho,rfl⟩ ⟨_,ho2,rfl⟩ noFill_tuple_add seq_tuple_add PySem.F.slot_tuple_add PySem.F.entry_tuple_add (PySem.F.args_tuple_add_2 _ _)
   (tuple_addW2 t b vs.toArray ws.toArray n n2 dd dd2 sl sl2 (by simpa using hv) (by simpa using hw) (by rw[List.size_toArray,List.size_toArray];exact hsz)) ⟨ho,ho2,?_⟩
  rw[e]
  exact h2 hw
noncomputable def sIx(n d:Nat):Option Int->Nat
 | none=>d
 | some v=>if v < 0 then(v+(n:Int)).toNat else min v.toNat n
theorem bD4(n d:Nat) (hd:d<=n) (o:Option Int):sIx n d o<=n:=by
 cases o with
 | none=>exact hd
 | some v =>
  show(if v < 0 then(v+(n:Int)).toNat else min v.toNat n)<=n
  by_cases hv:v < 0
  ·rw[if_pos hv];omega
  ·rw[if_neg hv];exact Nat.min_le_right _ _
theorem aH5(v:Int) (n d:Nat):(if v < 0 then max (v+(n:Int)) 0 else min v (n:Int))=((sIx n d (some v):Nat):Int):=by
 show(if v < 0 then max (v+(n:Int)) 0 else min v (n:Int))=(((if v < 0 then(v+(n:Int)).toNat else min v.toNat n):Nat):Int)
 by_cases hv:v < 0
 ·simp only[if_pos hv];omega
 ·simp only[if_neg hv];omega
theorem az1(lo hi:Option Int) (n:Nat):Builtin.Slice.sliceAdjust lo hi 1 (n:Int)=(((sIx n 0 lo:Nat):Int),((sIx n n hi:Nat):Int)):=by
 have h1:¬((1:Int) < 0):=by omega
 unfold Builtin.Slice.sliceAdjust
 simp only[h1,if_false]
 refine Prod.ext ?_ ?_
 ·cases lo with
  | none=>rfl
  | some v=>exact aH5 v n 0
 ·cases hi with
  | none=>rfl
  | some v=>exact aH5 v n n
theorem av4(i j:Nat):Builtin.Slice.slicePlaces (i:Int) (j:Int) 1=j - i:=by
 unfold Builtin.Slice.slicePlaces
 have h1:(1:Int) > 0:=by omega
 simp only[h1,if_true,Int.ediv_one]
 split<;>omega
theorem v8(p:IsPart v o) (h:Q o s):wpAny (model prog w) A (Builtin.Slice.slicePartIndex v) Q E s:=by
 cases p with
 | none=>exact slicePart_none h
 | int i t=>exact slicePart_int h
theorem sliceApplied_gen{sl:Addr}{vl vu:Value}{lo hi:Option Int}{n:Nat}{Q:Int×Int×Nat->Shared->Prop}(hs:s.heap.IsSliceOf sl vl vu .none) (pl:IsPart vl lo) (pu:IsPart vu hi)
  (h:Q (((sIx n 0 lo:Nat):Int),1,sIx n n hi - sIx n 0 lo) s):wpAny (model prog w) A (Builtin.Slice.sliceApplied (.ref sl) (pure (n:Int))) Q E s:=by
 obtain⟨os,hos,hcs,hds⟩:=id hs
 unfold Builtin.Slice.sliceApplied Builtin.Slice.sliceFields
 refine wpAny_bind (wpAny_bind (wpAny_field hos hds (x:=vl) rfl (wpAny_bind (wpAny_field hos hds (x:=vu) rfl (wpAny_bind (wpAny_field hos hds (x:=.none) rfl (wpAny_pure ?_)))))))
 refine wpAny_bind (slicePart_none ?_)
 show wpAny _ _ (if((1:Int)==0)=true then _ else _) _ _ s
 rw[if_neg (by decide)]
 refine wpAny_bind (v8 pl (wpAny_bind (v8 pu (wpAny_bind (wpAny_pure ?_)))))
 show wpAny _ _ (match Builtin.Slice.sliceAdjust lo hi 1 (n:Int) with|(lo,hi)=>pure (lo,(1:Int),Builtin.Slice.slicePlaces lo hi 1)) _ _ s
 rw[az1 lo hi n]
 show wpAny _ _ (pure (((sIx n 0 lo:Nat):Int),(1:Int),Builtin.Slice.slicePlaces ((sIx n 0 lo:Nat):Int) ((sIx n n hi:Nat):Int) 1)) _ _ s
 rw[av4]
 exact wpAny_pure h
theorem aU9(xs:Array Value) (i k:Nat):((List.range k).filterMap fun(m:Nat)=>xs[((i:Int)+(m:Int)*1).toNat]?).toArray=((xs.toList.drop i).take k).toArray:=by
 have e:(fun(m:Nat)=>xs[((i:Int)+(m:Int)*1).toNat]?)=fun m=>xs[i+m]?:=by
  funext m
  have:((i:Int)+(m:Int)*1).toNat=i+m:=by omega
  rw[this]
 rw[e]
 have:=pick_run xs i k
 rw[List.filterMap_map]at this
 have e2:((fun x=>xs[x]?) ∘ fun x=>i+x)=fun m=>xs[i+m]?:=rfl
 rw[e2]at this
 rw[this]
theorem getItem_tuple_cut{t sl:Addr}{items:Array Value}{vl vu:Value}{lo hi:Option Int}{Q:Value->Shared->Prop}(ht:IsTup s.heap t items) (hs:s.heap.IsSliceOf sl vl vu .none) (pl:IsPart vl lo) (pu:IsPart vu hi)
  (hw:¬(sIx items.size 0 lo=0/\sIx items.size items.size hi=items.size))
  (h:Q (.ref s.heap.objs.size) { s with heap:=s.heap.push { cls:=.type "tuple", data:=.seq ((items.toList.drop (sIx items.size 0 lo)).take (sIx items.size items.size hi - sIx items.size 0 lo)).toArray } })
  (hsz:items.size<=sizeLine):wpAny (model prog w) A (getItem (.ref t) (.ref sl)) Q E s:=by
 have htake:sizeOk (.seq ((items.toList.drop (sIx items.size 0 lo)).take (sIx items.size items.size hi - sIx items.size 0 lo)).toArray):=by
  show((items.toList.drop (sIx items.size 0 lo)).take (sIx items.size items.size hi - sIx items.size 0 lo)).toArray.size<=sizeLine
  rw[List.size_toArray,List.length_take,List.length_drop,Array.length_toList]
  omega
 have hj:sIx items.size items.size hi<=items.size:=bD4 _ _ (Nat.le_refl _) hi
 obtain⟨os,hos,hcs,hds⟩:=id hs
 have hTs:s.TypeIs (.ref sl) "slice" := ⟨os,hos,hcs⟩
 unfold getItem
 try with_reducible refine wpAny_holding ?_
 first|refine wpAny_bind (wpAny_pure ?_)|skip
 refine wpAny_bind (wpAny_sequenceKey ht.typeIs (by decide) ?_)
 refine wpAny_bind (wpAny_callSpecial?_slot (name:=Str.ofString "__getitem__") ht.typeIs PyProof.Rows.slot_tuple_getitem
  (wpAny_call_entry PyProof.Rows.slot_tuple_getitem ht.typeIs entry_tuple_getitem ?_ (args_tuple_getitem _ _)))
 show wpAny _ _ (Builtin.Tuple.tupleItemsOf (.ref t) >>= _) _ _ s
 refine wpAny_bind (tupleItemsOf_ ht ?_)
 refine wpAny_bind (wpAny_typeOf hTs ?_)
 rw[if_pos (by decide)]
 refine wpAny_bind (sliceApplied_gen hs pl pu ?_)
 have hno:¬((((sIx items.size 0 lo:Nat):Int)==0&&(1:Int)==1&&(sIx items.size items.size hi - sIx items.size 0 lo)==items.size)=true):=by
  intro q
  rw[Bool.and_eq_true,Bool.and_eq_true]at q
  have q1:((sIx items.size 0 lo:Nat):Int)=0:=eq_of_beq q.1.1
  have q2:sIx items.size items.size hi - sIx items.size 0 lo=items.size:=eq_of_beq q.2
  exact hw ⟨by omega,by omega⟩
 show wpAny _ _ (if(((sIx items.size 0 lo:Nat):Int)==0&&(1:Int)==1&&(sIx items.size items.size hi - sIx items.size 0 lo)==items.size)=true then _ else _) _ _ s
 rw[if_neg hno,aU9]
 first
  | exact wpAny_bind (m:=Builtin.Tuple.tupleExact _) (wpAny_newObj_type (wpAny_pure ⟨_,rfl,wpAny_pure h⟩) htake)
  | exact wpAny_bind (m:=Builtin.Tuple.tupleExact _) (wpAny_newObj_type (wpAny_bind (wpAny_pure (wpAny_pure ⟨_,rfl,wpAny_pure h⟩))) htake)
  | exact wpAny_bind (wpAny_bind (m:=Builtin.Tuple.tupleExact _) (wpAny_newObj_type (wpAny_pure (wpAny_pure ⟨_,rfl,wpAny_pure h⟩)) htake))
  | exact wpAny_bind (wpAny_bind (m:=Builtin.Tuple.tupleExact _) (wpAny_newObj_type (wpAny_pure ⟨_,rfl,wpAny_pure h⟩) htake))
end
end HT
namespace L2
open PySem PySem.Spec PyProof.Rows
noncomputable abbrev TO:=St->Hp->(Option Int->Hp->Prop)->Prop
noncomputable def PO(X:Cx) (e:Option Expr) (t:TO):Prop :=
 ∀(pins:List (Addr×Obj)) (s:Shared) (σ:St) (H:Hp) (Q:Option Int->Hp->Prop),Inv X pins σ H s->t σ H Q ->
  wpAny (model X.prog X.w) X.A (evalPart e X.env) (fun u s'=>∃o H',Inv X pins σ H' s'/\IsPart u o/\Q o H') X.xe s
noncomputable def bj0:TO:=fun _ H Q=>Q none H
noncomputable def bR9(t:TE):TO:=fun σ H Q=>t σ H fun x H1=>∃i,x=.int i/\Q (some i) H1
section
variable {X:Cx}{e:Expr}{te:TE}{lo hi:Option Expr}{tl th:TO}{pos p2:Pos}
theorem bm7:PO X none bj0:=by
 intro pins s σ H Q I h
 rw[evalPart_none]
 exact wpAny_pure ⟨none,H,I,.none,h⟩
theorem bm6(h:PE X e te):PO X (some e) (bR9 te):=by
 intro pins s σ H Q I hw
 rw[evalPart_some]
 refine thn (h pins s σ H _ I hw) fun u s1 ⟨x,H1,I1,r1,q1⟩=>?_
 obtain⟨i,rfl,q⟩:=q1
 obtain⟨t,rfl⟩:=r1
 exact⟨some i,H1,I1,.int i t,q⟩
noncomputable def SlR(X:Cx) (r:V->Option Int->Option Int->Hp->VK->Prop):Prop :=
 ∀(pins:List (Addr×Obj)) (s:Shared) (σ:St) (H:Hp) (x:V) (v vl vu:Value) (lo hi:Option Int) (sl:Addr) (Q:VK),Inv X pins σ H s->D2 x v->s.heap.IsSliceOf sl vl vu .none->IsPart vl lo->IsPart vu hi->r x lo hi H Q ->
  ∃T id,typeLookup (.type T) "__getitem__" = pure (some (.builtin id))/\s.TypeIs v T/\wpAny (model X.prog X.w) X.A (getItem v (.ref sl)) (EP X pins σ Q) X.xe s
theorem SlR.or(h:SlR X r) (h':SlR X r'):SlR X (fun x lo hi H Q=>r x lo hi H Q\/r' x lo hi H Q):=by
 intro pins s σ H x v vl vu lo hi sl Q I rx hs pl pu q
 rcases q with q|q
 ·exact h pins s σ H x v vl vu lo hi sl Q I rx hs pl pu q
 ·exact h' pins s σ H x v vl vu lo hi sl Q I rx hs pl pu q
noncomputable def tSl(r:V->Option Int->Option Int->Hp->VK->Prop) (te:TE) (tl th:TO):TE:=fun σ H Q=>te σ H fun x H1=>tl σ H1 fun l H2=>th σ H2 fun u H3=>r x l u H3 Q
theorem X0(hr:SlR X r) (he:PE X e te) (hl:PO X lo tl) (hu:PO X hi th):PE X (.Subscript e (.Slice lo hi none p2) pos) (tSl r te tl th):=by
 intro pins s σ H Q I h
 refine Subscript_ (thn (he pins s σ H _ I h) fun v s1 ⟨x,H1,I1,r1,q1⟩=>?_)
 refine wpAny_Slice (thn (hl pins s1 σ H1 _ I1 q1) fun vl s2 ⟨l,H2,I2,pl,q2⟩=>thn (hu pins s2 σ H2 _ I2 q2) fun vu s3 ⟨u,H3,I3,pu,q3⟩=>?_)
 rw[evalPart_none]
 refine wpAny_pure ?_
 have I4:Inv X pins σ H3 { s3 with heap:=s3.heap.push { cls:=.type "slice", data:=.fields #[vl,vu,.none] } }:=I3.kept (t':=s3.toks) fun b ob q=>Heap.get?_push_of_some _ q
 obtain⟨T,id,hT,ht,hg⟩:=hr pins { s3 with heap:=s3.heap.push { cls:=.type "slice", data:=.fields #[vl,vu,.none] } } σ H3 x v vl vu l u s3.heap.objs.size Q I4 r1 (Heap.IsSliceOf.new ..) pl pu q3
 show wpAny (model X.prog X.w) X.A (subscriptTail e (.Slice lo hi none p2) v (.ref s3.heap.objs.size)) (EP X pins σ Q) X.xe { s3 with heap:=s3.heap.push { cls:=.type "slice", data:=.fields #[vl,vu,.none] } }
 exact tail_any (ops:=[.ref s3.heap.objs.size,v]) ht hT hg (by with_unfolding_all rfl)
noncomputable def as1(xs:List V) (lo hi:Option Int):List V:=(xs.drop (HT.sIx xs.length 0 lo)).take (HT.sIx xs.length xs.length hi - HT.sIx xs.length 0 lo)
theorem l7(xs:List V) (lo hi:Option Int):(as1 xs lo hi).length<=xs.length:=by
 unfold as1
 rw[List.length_take,List.length_drop]
 omega
noncomputable def cc3(K:PySem.W.Frag):V->Option Int->Option Int->Hp->VK->Prop:=fun x lo hi H Q=>∃a xs,x=.ref a/\SqT K H a xs /\
 ¬(HT.sIx xs.length 0 lo=0/\HT.sIx xs.length xs.length hi=xs.length)/\∀p,H p=none->Q (.ref p) (upd H p (.tup (as1 xs lo hi)))
theorem bD0:SlR X (cc3 X.K):=by
 intro pins s σ H x v vl vu lo hi sl Q I rx hs pl pu h
 obtain⟨a,xs,rfl,hx,hw,q⟩:=h
 cases rx
 obtain⟨its,r,ht,hz⟩:=I.tuple hx
 have hlen:its.toArray.size=xs.length:=by rw[List.size_toArray];exact r.length.symm
 refine⟨"tuple", _,PyProof.Rows.slot_tuple_getitem.lookup,ht.typeIs,?_⟩
 refine HT.getItem_tuple_cut ht hs pl pu (by rw[hlen];exact hw) ?_ (by rw[hlen];exact hz)
 rw[hlen]
 refine⟨.ref s.heap.objs.size,_,I.laid (t':=s.toks) (o:=.tup (as1 xs lo hi)) (fun b ob q=>Heap.get?_push_of_some _ q) (Nat.le_refl _) ?_,rfl,q _ (I.hok.fresh (Nat.le_refl _))⟩
 exact⟨Nat.le_trans (l7 xs lo hi) hz,_,(r.drop (HT.sIx xs.length 0 lo)).take (HT.sIx xs.length xs.length hi - HT.sIx xs.length 0 lo),ac2.new _ _⟩
noncomputable def bT7(K:PySem.W.Frag):R2:=fun x y H Q=>∃a b xs ys,x=.ref a/\y=.ref b/\SqT K H a xs/\SqT K H b ys/\xs≠[]/\xs.length+ys.length<=sizeLine /\
 (ys=[]->Q (.ref a) H)/\(ys≠[]->∀p,H p=none->Q (.ref p) (upd H p (.tup (xs++ys))))
theorem B3.nil_iff(r:B3 xs us):us=[]↔xs=[]:=by
 cases r with
 | nil=>simp
 | cons _ _=>simp
theorem bn8:OpR X (binaryOp .Add) (bT7 X.K):=by
 intro pins s σ H x y v u Q I rx ry h
 obtain⟨a,b,xs,ys,rfl,rfl,ha,hb,hx,hz,q1,q2⟩:=h
 cases rx
 cases ry
 obtain⟨its,r1,p1,_⟩:=I.tuple ha
 obtain⟨its2,r2,p2,_⟩:=I.tuple hb
 refine HT.cat_tup p1 p2 (fun z=>hx (r1.nil_iff.mp z)) (fun z=>⟨.ref a,H,I,rfl,q1 (r2.nil_iff.mp z)⟩) (fun z=>?_) (by rw[← r1.length,← r2.length];exact hz)
 refine⟨.ref s.heap.objs.size,_,I.laid (t':=s.toks) (o:=.tup (xs++ys)) (fun b ob q=>Heap.get?_push_of_some _ q) (Nat.le_refl _) ?_,rfl,q2 (fun w=>z (r2.nil_iff.mpr w)) _ (I.hok.fresh (Nat.le_refl _))⟩
 exact⟨by rw[List.length_append];exact hz,_,r1.append r2,ac2.new _ _⟩
end
end L2
namespace L2
open PySem PySem.Spec PyProof.Rows
noncomputable def ixN(n:Nat) (i:Int):Option Nat:=if 0<=i then(if i < n then some i.toNat else none) else if -(n:Int)<=i then some (i+n).toNat else none
noncomputable def atI{α:Type}(xs:List α) (i:Int):Option α:=(ixN xs.length i).bind fun j=>xs[j]?
theorem bt0(h:ixN n i=some j):seqIndex? i n=some j/\j < n/\-(n:Int)<=i/\i < n:=by
 unfold ixN at h
 by_cases h0:0<=i
 ·rw[if_pos h0]at h
  by_cases h1:i < n
  ·rw[if_pos h1]at h
   have e:i.toNat=j:=Option.some.inj h
   exact⟨by rw[seqIndex_of h0 h1,e],by omega,by omega,h1⟩
  ·rw[if_neg h1]at h;cases h
 ·rw[if_neg h0]at h
  by_cases h1:-(n:Int)<=i
  ·rw[if_pos h1]at h
   have e:(i+n).toNat=j:=Option.some.inj h
   exact⟨by rw[seqIndex_neg (by omega) h1,e],by omega,h1,by omega⟩
  ·rw[if_neg h1]at h;cases h
theorem al4{α:Type}{xs:List α}{i:Int}{v:α}(h:atI xs i=some v):∃j,seqIndex? i xs.length=some j/\xs[j]? = some v/\j < xs.length/\-(xs.length:Int)<=i/\i < xs.length:=by
 unfold atI at h
 cases e:ixN xs.length i with
 | none=>rw[e]at h;cases h
 | some j =>
  rw[e]at h
  obtain⟨h1,h2,h3,h4⟩:=bt0 e
  exact⟨j,h1,h,h2,h3,h4⟩
theorem bv4{α:Type}{xs:List α}{j:Nat}{v:α}(h:xs[j]? = some v):atI xs (j:Int)=some v:=by
 have hj:j < xs.length:=(List.getElem?_eq_some_iff.mp h).1
 have e:ixN xs.length (j:Int)=some j:=by
  unfold ixN
  rw[if_pos (by omega),if_pos (by omega)];simp
 unfold atI;rw[e];exact h
noncomputable def u3(b:Expr):Prop:=∀o i,subscripted b false o i=operate [o,i] (getItem o i)
noncomputable def IxR(X:Cx) (r:R2):Prop :=
 ∀(value slice:Expr) (pins:List (Addr×Obj)) (s:Shared) (σ:St) (H:Hp) (x y:V) (v u:Value) (Q:VK),Inv X pins σ H s->D2 x v->D2 y u->r x y H Q ->
  subscripted slice false v u=operate [v,u] (getItem v u)->wpAny (model X.prog X.w) X.A (subscriptTail value slice v u) (EP X pins σ Q) X.xe s
noncomputable def MtR(X:Cx) (id:String) (r:V->List V->Hp->VK->Prop):Prop :=
 ∀(pins:List (Addr×Obj)) (s:Shared) (σ:St) (H:Hp) (x:V) (xs:List V) (v:Value) (us:List Value) (Q:VK),Inv X pins σ H s->D2 x v->B3 xs us->r x xs H Q ->
  wpAny (model X.prog X.w) X.A (call (.builtin id) (v::us)) (EP X pins σ Q) X.xe s
section
variable {X:Cx}{a b:Expr}{ta tb:TE}{pos:Pos}
theorem IxR.or(h:IxR X r) (h':IxR X r'):IxR X (fun x y H Q=>r x y H Q\/r' x y H Q):=by
 intro value slice pins s σ H x y v u Q I rx ry q hs
 rcases q with q|q
 ·exact h value slice pins s σ H x y v u Q I rx ry q hs
 ·exact h' value slice pins s σ H x y v u Q I rx ry q hs
theorem bx0(hr:IxR X r) (ha:PE X a ta) (hb:PE X b tb) (hs:u3 b):PE X (.Subscript a b pos) (tOp r ta tb):=by
 intro pins s σ H Q I h
 exact Subscript_ (bO9 ha hb I h fun v u s2 x y H2 I2 rx ry q=>hr a b pins s2 σ H2 x y v u Q I2 rx ry q (hs _ _))
noncomputable def bT6(K:PySem.W.Frag):R2:=fun x y H Q=>∃p xs i v,x=.ref p/\y=.int i/\SqL K H p xs/\atI xs i=some v/\Q v H
noncomputable def bT4(K:PySem.W.Frag):R2:=fun x y H Q=>∃p xs i v,x=.ref p/\y=.int i/\SqT K H p xs/\atI xs i=some v/\Q v H
noncomputable def bT5:R2:=fun x y H Q=>∃z i c,x=.str z/\y=.int i/\z.length<=sizeLine/\atI z.cps.toList i=some c/\Q (.str ⟨#[c]⟩) H
theorem bs9:IxR X (bT6 X.K):=by
 intro value slice pins s σ H x y v u Q I rx ry h hs
 obtain⟨p,xs,i,z,rfl,rfl,hq,he,q⟩:=h
 cases rx
 obtain⟨t,rfl⟩:=ry
 obtain⟨its,r,pl,hz⟩:=I.list hq
 obtain⟨j,h1,h2,h3,h4,h5⟩:=al4 he
 obtain⟨w,ew,rw'⟩:=r.get h2
 have hl:=r.length
 have hn:=c8
 have fin:EP X pins σ Q w s:=⟨z,H,I,rw',q⟩
 by_cases h0:0<=i
 ·have hj:i.toNat=j:=by
   rw[seqIndex_of h0 h5]at h1
   exact Option.some.inj h1
  exact item_listR pl.isList h0 (by omega) (by rw[hj];simpa using ew) fin hs
 ·have hj:(i+(its.toArray.size:Int)).toNat=j:=by
   rw[seqIndex_neg (by omega) h4]at h1
   rw[List.size_toArray,← hl]
   exact Option.some.inj h1
  exact subscriptTail_builtinR (x:=w) pl.isList.typeIs slot_list_getitem.lookup
   (wpAny_getItem_list_neg (Q:=fun r s'=>r=w/\EP X pins σ Q r s') pl.isList (by omega) (by rw[List.size_toArray]<;>omega) (by omega) (by rw[hj];simpa using ew) ⟨rfl,fin⟩) hs
theorem bM2:IxR X (bT4 X.K):=by
 intro value slice pins s σ H x y v u Q I rx ry h hs
 obtain⟨p,xs,i,z,rfl,rfl,hq,he,q⟩:=h
 cases rx
 obtain⟨t,rfl⟩:=ry
 obtain⟨its,r,pl,hz⟩:=I.tuple hq
 obtain⟨j,h1,h2,h3,h4,h5⟩:=al4 he
 obtain⟨w,ew,rw'⟩:=r.get h2
 have hl:=r.length
 have hn:=c8
 have fin:EP X pins σ Q w s:=⟨z,H,I,rw',q⟩
 exact subscriptTail_builtinR (x:=w) pl.typeIs slot_tuple_getitem.lookup
  (getItem_tuple (j:=j) (Q:=fun r s'=>r=w/\EP X pins σ Q r s') pl (by omega) (by omega) (by rw[List.size_toArray,← hl];exact h1) (by simpa using ew) ⟨rfl,fin⟩) hs
theorem bM3:IxR X bT5:=by
 intro value slice pins s σ H x y v u Q I rx ry h hs
 obtain⟨z,i,c,rfl,rfl,hz,he,q⟩:=h
 obtain⟨t,rfl⟩:=rx
 obtain⟨t',rfl⟩:=ry
 obtain⟨j,h1,h2,h3,h4,h5⟩:=al4 he
 have hl:z.cps.toList.length=z.length:=by simp[Str.length]
 rw[hl]at h1 h4 h5
 have hn:=c8
 exact tail_any (typeIs_str s z t) slot_str_getitem.lookup (getItem_str (c:=c) (by
  have e1:decide (i < -(2 ^ 63:Int))=false:=decide_eq_false (by omega)
  have e2:decide (i ≥ 2 ^ 63)=false:=decide_eq_false (by omega)
  rw[e1,e2,Bool.or_false]) (by rw[h1];simpa using h2) ⟨.str ⟨#[c]⟩,H,I.tok _,⟨_,rfl⟩,q⟩) hs
noncomputable def rIx(K:PySem.W.Frag):R2:=fun x y H Q=>bT6 K x y H Q\/bT4 K x y H Q\/bT5 x y H Q
theorem bb4:IxR X (rIx X.K):=bs9.or (bM2.or bM3)
theorem W4(lo hi:Option Int) (n:Nat):(sliceBounds lo hi none n).1=((HT.sIx n 0 lo:Nat):Int)/\(sliceBounds lo hi none n).2.1=((HT.sIx n n hi:Nat):Int)/\(sliceBounds lo hi none n).2.2=1:=by
 refine⟨?_,?_,rfl⟩
 ·cases lo with
  | none=>simp[sliceBounds,HT.sIx]
  | some i =>
   simp only[sliceBounds,HT.sIx,Option.getD_none,show(1:Int) > 0 by decide,if_true]
   by_cases h:i < 0
   ·simp only[h,if_true]<;>omega
   ·simp only[h,if_false]<;>omega
 ·cases hi with
  | none=>simp[sliceBounds,HT.sIx]
  | some i =>
   simp only[sliceBounds,HT.sIx,Option.getD_none,show(1:Int) > 0 by decide,if_true]
   by_cases h:i < 0
   ·simp only[h,if_true]<;>omega
   ·simp only[h,if_false]<;>omega
theorem ac8(its:List Value) (lo hi:Option Int):slicePick its.toArray lo hi none=((its.drop (HT.sIx its.length 0 lo)).take (HT.sIx its.length its.length hi - HT.sIx its.length 0 lo)).toArray:=by
 obtain⟨h1,h2,h3⟩:=W4 lo hi its.toArray.size
 unfold slicePick
 rw[h1,h2,h3]
 simp only[sliceRange_one,pick_run,List.size_toArray]<;>rfl
noncomputable def cc4(K:PySem.W.Frag):V->Option Int->Option Int->Hp->VK->Prop:=fun x lo hi H Q=>∃a xs,x=.ref a/\SqL K H a xs/\∀p,H p=none->Q (.ref p) (upd H p (.lst (as1 xs lo hi)))
theorem aB4:SlR X (cc4 X.K):=by
 intro pins s σ H x v vl vu lo hi sl Q I rx hs pl pu h
 obtain⟨a,xs,rfl,hx,q⟩:=h
 cases rx
 obtain⟨its,r,ht,hz⟩:=I.list hx
 have hlen:=r.length
 refine⟨"list", _,slot_list_getitem.lookup,ht.isList.typeIs,?_⟩
 refine wpAny_getItem_list_slice ht.isList hs pl pu .none (by simp) ?_ (by rw[List.size_toArray]<;>omega)
 rw[ac8,← hlen]
 refine⟨.ref s.heap.objs.size,_,I.laid (t':=s.toks) (o:=.lst (as1 xs lo hi)) (fun b ob q=>Heap.get?_push_of_some _ q) (Nat.le_refl _) ?_,rfl,q _ (I.hok.fresh (Nat.le_refl _))⟩
 exact⟨Nat.le_trans (l7 xs lo hi) hz,_,0,(r.drop (HT.sIx xs.length 0 lo)).take (HT.sIx xs.length xs.length hi - HT.sIx xs.length 0 lo),Heap.get?_push_size _ rfl⟩
noncomputable def U6:V->Bool
 | .non=>true
 | .bl _=>true
 | .int _=>true
 | .str _=>true
 | _=>false
noncomputable def eqV:V->V->Bool
 | .non,.non=>true
 | .bl a,.bl b=>a==b
 | .bl a,.int b=>(if a then 1 else 0)==b
 | .int a,.bl b=>a==(if b then 1 else 0)
 | .int a,.int b=>a==b
 | .str a,.str b=>a==b
 | _,_=>false
theorem bO2(ry:D2 y u) (rx:D2 x v) (fy:U6 y=true) (fx:U6 x=true):SeqAt.EqAt A s u v (eqV y x):=by
 cases y with
 | non =>
  cases ry
  cases x with
  | non=>cases rx;exact SeqAt.EqAt.same _
  | bl b=>cases rx;exact SeqAt.EqAt.none_bool b
  | int b=>obtain⟨t,rfl⟩:=rx;exact SeqAt.EqAt.none_int b t
  | str b=>obtain⟨t,rfl⟩:=rx;exact SeqAt.EqAt.none_str b t
  | _=>exact absurd (show false=true from fx) Bool.false_ne_true
 | bl a =>
  cases ry
  cases x with
  | non=>cases rx;exact SeqAt.EqAt.bool_none a
  | bl b=>cases rx;exact SeqAt.EqAt.bool_bool a b
  | int b=>obtain⟨t,rfl⟩:=rx;exact SeqAt.EqAt.bool_int a b t
  | str b=>obtain⟨t,rfl⟩:=rx;exact SeqAt.EqAt.bool_str a b t
  | _=>exact absurd (show false=true from fx) Bool.false_ne_true
 | int a =>
  obtain⟨t',rfl⟩:=ry
  cases x with
  | non=>cases rx;exact SeqAt.EqAt.int_none a t'
  | bl b=>cases rx;exact SeqAt.EqAt.int_bool a t' b
  | int b=>obtain⟨t,rfl⟩:=rx;exact SeqAt.EqAt.int_int a t' b t
  | str b=>obtain⟨t,rfl⟩:=rx;exact SeqAt.EqAt.int_str a t' b t
  | _=>exact absurd (show false=true from fx) Bool.false_ne_true
 | str a =>
  obtain⟨t',rfl⟩:=ry
  cases x with
  | non=>cases rx;exact SeqAt.EqAt.str_none a t'
  | bl b=>cases rx;exact SeqAt.EqAt.str_bool a t' b
  | int b=>obtain⟨t,rfl⟩:=rx;exact SeqAt.EqAt.str_int a t' b t
  | str b=>obtain⟨t,rfl⟩:=rx;exact SeqAt.EqAt.str_str a t' b t
  | _=>exact absurd (show false=true from fx) Bool.false_ne_true
 | _=>exact absurd (show false=true from fy) Bool.false_ne_true
noncomputable def eqU(x:V) (u:Value):Bool:=match u with
 | .none=>eqV .non x
 | .bool b=>eqV (.bl b) x
 | .int i _=>eqV (.int i) x
 | .str z _=>eqV (.str z) x
 | _=>false
theorem bd7(r:D2 y u) (f:U6 y=true):eqU x u=eqV y x:=by
 cases y with
 | non=>cases r;rfl
 | bl b=>cases r;rfl
 | int i=>obtain⟨t,rfl⟩:=r;rfl
 | str z=>obtain⟨t,rfl⟩:=r;rfl
 | _=>exact absurd (show false=true from f) Bool.false_ne_true
theorem Z3:∀{xs:List V}{us:List Value},B3 xs us->xs.all U6=true->us.any (eqU x)=xs.any fun y=>eqV y x
 | _,_,.nil,_=>rfl
 | y::xs,u::us,.cons r t,f=>by
  rw[List.all_cons,Bool.and_eq_true]at f
  rw[List.any_cons,List.any_cons,bd7 r f.1,Z3 t f.2]
theorem R8(rx:D2 x v) (fx:U6 x=true):∀{xs:List V}{us:List Value},B3 xs us->xs.all U6=true->∀u∈us,SeqAt.EqAt A s u v (eqU x u)
 | _,_,.nil,_=>fun u hu=>by cases hu
 | y::xs,u::us,.cons r t,f=>fun u' hu=>by
  rw[List.all_cons,Bool.and_eq_true]at f
  rcases List.mem_cons.mp hu with rfl|hu
  ·rw[bd7 r f.1];exact bO2 r rx f.1 fx
  ·exact R8 rx fx t f.2 u' hu
noncomputable def inV(x:V) (xs:List V):Bool:=xs.any fun y=>eqV y x
noncomputable def rIn(K:PySem.W.Frag) (neg:Bool):R2:=fun x y H Q=>∃p xs,y=.ref p/\(SqL K H p xs\/SqT K H p xs)/\U6 x=true/\xs.all U6=true/\Q (.bl (if neg then !inV x xs else inV x xs)) H
theorem aL4:OpR X (compareOp .In) (rIn X.K false):=by
 intro pins s σ H x y v u Q I rx ry h
 obtain⟨p,xs,rfl,hq,fx,fs,q⟩:=h
 cases ry
 rcases hq with hq|hq
 ·obtain⟨its,r,pl,hz⟩:=I.list hq
  refine SeqAt.in_listAt (eqU x) pl.isList (fun w hw=>R8 rx fx r fs w (by simpa using hw)) ⟨.bl _,H,I,rfl,?_⟩
  rw[show its.toArray.any (eqU x)=its.any (eqU x) by simp,Z3 r fs]
  exact q
 ·obtain⟨its,r,pl,hz⟩:=I.tuple hq
  refine SeqAt.in_tupleAt (eqU x) pl (fun w hw=>R8 rx fx r fs w (by simpa using hw)) ⟨.bl _,H,I,rfl,?_⟩
  rw[show its.toArray.any (eqU x)=its.any (eqU x) by simp,Z3 r fs]
  exact q
theorem ai9:OpR X (compareOp .NotIn) (rIn X.K true):=by
 intro pins s σ H x y v u Q I rx ry h
 obtain⟨p,xs,rfl,hq,fx,fs,q⟩:=h
 cases ry
 rcases hq with hq|hq
 ·obtain⟨its,r,pl,hz⟩:=I.list hq
  refine SeqAt.notIn_listAt (eqU x) pl.isList (fun w hw=>R8 rx fx r fs w (by simpa using hw)) ⟨.bl _,H,I,rfl,?_⟩
  rw[show its.toArray.any (eqU x)=its.any (eqU x) by simp,Z3 r fs]
  exact q
 ·obtain⟨its,r,pl,hz⟩:=I.tuple hq
  refine SeqAt.notIn_tupleAt (eqU x) pl (fun w hw=>R8 rx fx r fs w (by simpa using hw)) ⟨.bl _,H,I,rfl,?_⟩
  rw[show its.toArray.any (eqU x)=its.any (eqU x) by simp,Z3 r fs]
  exact q
theorem al3:G6 X (.builtin "len") (fun xs H Q=>∃p ys,xs=[.ref p]/\(SqL X.K H p ys\/SqT X.K H p ys)/\Q (.int ys.length) H):=by
 intro pins s σ H xs us Q I r h
 obtain⟨p,ys,rfl,hq,q⟩:=h
 obtain⟨u,rfl,rx⟩:=K8 r
 cases rx
 have hn:=c8
 rcases hq with hq|hq
 ·obtain⟨its,r',pl,hz⟩:=I.list hq
  have hlen:=r'.length
  exact Calls.call_len_list pl.isList (by simp only[List.size_toArray]<;>omega) ⟨.int ys.length,H,I.tok _,⟨s.toks+1,by rw[List.size_toArray,hlen]⟩,q⟩
 ·obtain⟨its,r',pl,hz⟩:=I.tuple hq
  have hlen:=r'.length
  exact len_tuple pl (by simp only[List.size_toArray]<;>omega) ⟨.int ys.length,H,I.tok _,⟨s.toks+1,by rw[List.size_toArray,hlen]⟩,q⟩
theorem al2:G6 X (.type "list") (fun xs H Q=>∃p ys,xs=[.ref p]/\(SqL X.K H p ys\/SqT X.K H p ys)/\∀l,H l=none->Q (.ref l) (upd H l (.lst ys))):=by
 intro pins s σ H xs us Q I r h
 obtain⟨p,ys,rfl,hq,q⟩:=h
 obtain⟨u,rfl,rx⟩:=K8 r
 cases rx
 have fin:∀(its:List Value),B3 ys its->ys.length<=sizeLine->∀(h':Heap) (c':Nat),(∀b o',s.heap.get? b=some o'->h'.get? b=some o') ->
   h'.get? s.heap.objs.size=some { cls:=.type "list", dict:=none,data:=.seq its.toArray c',slots:=#[] }->EP X pins σ Q (.ref s.heap.objs.size) { s with heap:=h' }:=fun its r' hz h' c' kp e =>
  ⟨.ref s.heap.objs.size,_,I.laid (t':=s.toks) kp (Nat.le_refl _) (show E6 X.prog X.w _ h' _ (.lst ys) from⟨hz,its,c',r',e⟩),rfl,q _ (I.hok.fresh (Nat.le_refl _))⟩
 rcases hq with hq|hq
 ·obtain⟨its,r',pl,hz⟩:=I.list hq
  have hlen:=r'.length
  obtain⟨o,ho,hc,n,hd⟩:=pl.isList
  exact call_list_seq p (.inl rfl) ho hc hd (fun h' c' kp e=>fin its r' hz h' c' kp e) (by simp only[List.size_toArray]<;>omega)
 ·obtain⟨its,r',pl,hz⟩:=I.tuple hq
  have hlen:=r'.length
  obtain⟨o,ho,hc,n,hd⟩:=pl
  exact call_list_seq p (.inr rfl) ho hc hd (fun h' c' kp e=>fin its r' hz h' c' kp e) (by simp only[List.size_toArray]<;>omega)
theorem ad3:G6 X (.type "tuple") (fun xs H Q=>∃p ys,xs=[.ref p]/\((SqL X.K H p ys/\∀l,H l=none->Q (.ref l) (upd H l (.tup ys)))\/(SqT X.K H p ys/\Q (.ref p) H))):=by
 intro pins s σ H xs us Q I r h
 obtain⟨p,ys,rfl,h⟩:=h
 obtain⟨u,rfl,rx⟩:=K8 r
 cases rx
 rcases h with⟨hq,q⟩|⟨hq,q⟩
 ·obtain⟨its,r',pl,hz⟩:=I.list hq
  have hlen:=r'.length
  refine call_tuple_list pl.isList (fun h' kp=>?_) (by simp only[List.size_toArray]<;>omega)
  have I1:Inv X pins σ H { s with heap:=h' }:=I.kept (t':=s.toks) kp
  have I2:Inv X pins σ (upd H h'.objs.size (.tup ys)) { s with heap:=h'.push { cls:=.type "tuple", data:=.seq its.toArray } } :=
   I1.laid (t':=s.toks) (fun b o e=>Heap.get?_push_of_some _ e) (Nat.le_refl _) (show E6 X.prog X.w _ _ _ (.tup ys) from⟨hz,its,r',ac2.new _ _⟩)
  exact⟨.ref h'.objs.size,_,I2,rfl,q _ (I1.hok.fresh (Nat.le_refl _))⟩
 ·obtain⟨its,r',pl,hz⟩:=I.tuple hq
  exact call_tuple_same pl ⟨.ref p,H,I,rfl,q⟩
noncomputable def tyV(K:PySem.W.Frag) (T:String) (x:V) (H:Hp):Prop:=match x with
 | .str _=>T = "str"
 | .int _=>T = "int"
 | .ref p=>(T = "list" /\ ∃xs,SqL K H p xs)\/(T = "tuple" /\ ∃o,K.lookup p=some o/\o.cls=.type "tuple" /\ o.dict=none) \/
   (T = "dict" /\ ((∃kvs,H p=some (.dK kvs))\/∃kvs,H p=some (.dT kvs)))\/(T = "set" /\ ∃S n,H p=some (.set S n))
 | _=>False
theorem bB2(I:Inv X pins σ H s) (r:D2 x v) (ty:tyV X.K T x H) :
  s.TypeIs v T/\∀a,v=.ref a->∃ob,s.heap.get? a=some ob/\ob.dict=none:=by
 cases x with
 | str z =>
  obtain⟨t,rfl⟩:=r
  cases(show T = "str" from ty)
  exact⟨typeIs_str s z t,fun _ e=>nomatch e⟩
 | int i =>
  obtain⟨t,rfl⟩:=r
  cases(show T = "int" from ty)
  exact⟨typeIs_int s i t,fun _ e=>nomatch e⟩
 | ref p =>
  cases r
  rcases ty with⟨rfl,xs,hq⟩|⟨rfl,o,hk,hc,hd⟩|⟨rfl,hk⟩|⟨rfl,S,n,hk⟩
  ·obtain⟨its,_,pl,_⟩:=I.list hq
   refine⟨pl.isList.typeIs,fun a e=>?_⟩
   cases e
   obtain⟨o,n,e,c,hd,_⟩:=pl
   exact⟨o,e,hd⟩
  ·refine⟨⟨o,I.kIn p o hk,hc⟩,fun a e=>?_⟩
   cases e
   exact⟨o,I.kIn _ o hk,hd⟩
  ·have z:∃o,s.heap.get? p=some o/\o.ExactDict:=by
    rcases hk with⟨kvs,hk⟩|⟨kvs,hk⟩
    ·obtain⟨_,_,_,_,o,_,_,e,ex,_⟩:=I.hok p _ hk
     exact⟨o,e,ex⟩
    ·obtain⟨_,_,_,_,o,_,_,e,ex,_⟩:=I.hok p _ hk
     exact⟨o,e,ex⟩
   obtain⟨o,e,ex⟩:=z
   refine⟨⟨o,e,ex.1⟩,fun a e2=>?_⟩
   cases e2
   exact⟨o,e,ex.2.1⟩
  ·obtain⟨o,_,_,_,e,ex,_⟩:=I.hok p _ hk
   refine⟨⟨o,e,ex.1⟩,fun a e2=>?_⟩
   cases e2
   exact⟨o,e,ex.2.1⟩
 | _=>exact False.elim ty
noncomputable def tBM(K:PySem.W.Frag) (T:String) (r:V->List V->Hp->VK->Prop) (to:TE) (t:TA):TE:=fun σ H Q=>to σ H fun x H1=>tyV K T x H1/\t σ H1 fun xs H2=>r x xs H2 Q
variable {o e:Expr}{es:List Expr}{to:TE}{t:TA}{name:Str}{apos cpos:Pos}{T id:String}{r:V->List V->Hp->VK->Prop}
theorem aV7(pa:PlainAttrs T) (slot:Slot T name id) (hty:typeOf (.builtin id)=pure (.type "method_descriptor")) (hm:MtR X id r) (ho:PE X o to) (ha:PA X (e::es) t)
  (hbase:attributeBase o name X.env (eval o X.env)=eval o X.env:=by rfl)
  (hfew:((backTo cpos (starEach (e::es) X.env)).all (fun x=>!x.1)&&(backToKw cpos (keywordEach [] X.env)).all (fun x=>x.1.isSome)
   && decide ((e::es).length+([]:List Keyword).length+(if([]:List Keyword).isEmpty then 0 else 1) < 30))=true:=by rfl)
  (hline:(apos.endLine==cpos.line)=true:=by rfl) (hs:starEach (e::es) X.env=(false,eval e X.env)::starEach es X.env:=by rfl) (hplain:(backTo cpos (starEach es X.env)).any (·.1)=false:=by rfl) :
  PE X (.Call (.Attribute o name apos) (e::es) [] cpos) (tBM X.K T r to t):=by
 intro pins s σ H Q I h
 refine wpAny_Call_method_late hbase hfew hline rfl (thn (ho pins s σ H _ I h) fun v s1 ⟨x,H1,I1,r1,ty,q1⟩=>?_)
 obtain⟨h1,h2⟩:=bB2 I1 r1 ty
 refine⟨T,id,pa,slot,hty,h1,h2,?_⟩
 have hA:=ha cpos pins s1 σ H1 _ I1 q1
 rw[hs]at hA ⊢
 refine Calls.callWith_builtin (by show(false || (backTo cpos (starEach es X.env)).any (·.1))=false;rw[hplain]<;>rfl) (Calls.evalArgs_plain ?_)
 exact thn hA fun us s2 ⟨vs,H2,I2,r2,q2⟩=>hm pins s2 σ H2 x vs v us Q I2 r1 r2 q2
end
end L2
namespace L2
open PySem PySem.Spec PyProof.Rows
noncomputable def MtM(X:Cx) (id:String) (r:V->List V->Hp->VK->Prop):Prop :=
 ∀(pins:List (Addr×Obj)) (s:Shared) (σ:St) (H:Hp) (x:V) (xs:List V) (v:Value) (us:List Value) (Q:VK),Inv X pins σ H s->D2 x v->B3 xs us->r x xs H Q ->
  wpAny (model X.prog X.w) X.A (call (.builtin id) (v::us)) (EP X pins σ Q) X.xe s
theorem B3.one:∀{x:V}{us:List Value},B3 [x] us->∃u,us=[u]/\D2 x u
 | _,_,.cons r .nil=>⟨_,rfl,r⟩
theorem B3.rep(h:B3 xs us):∀k:Nat,B3 (List.replicate k xs).flatten (List.replicate k us).flatten
 | 0=>.nil
 | k+1=>by
  rw[List.replicate_succ,List.replicate_succ,List.flatten_cons,List.flatten_cons]
  exact B3.append h (B3.rep h k)
theorem af0(its:List Value):∀(k:Nat) (acc:List Value),
  List.foldl (fun x1 x2=>x1++x2) acc.toArray (List.replicate k its.toArray)=(acc++(List.replicate k its).flatten).toArray
 | 0,acc=>by simp
 | k+1,acc=>by
  have e:acc.toArray++its.toArray=(acc++its).toArray:=by simp
  have e2:(acc++its)++(List.replicate k its).flatten=acc++(List.replicate (k+1) its).flatten:=by
   rw[List.replicate_succ,List.flatten_cons,List.append_assoc]
  rw[← e2,← af0 its k (acc++its),← e,List.replicate_succ,List.foldl_cons]
section
variable {X:Cx}{pins:List (Addr×Obj)}{σ:St}{H:Hp}{s:Shared}{l b:Addr}{xs ys zs:List V}
theorem Inv.lset{its its':List Value}{n:Nat}{f:Array Value->Array Value}{t':Nat}(I:Inv X pins σ H s) (hH:H l=some (.lst xs))
  (e:s.heap.get? l=some { cls:=.type "list", data:=.seq its.toArray n }) (hf:f its.toArray=its'.toArray) (hv:B3 ys its') (hz:ys.length<=sizeLine) :
  Inv X pins σ (upd H l (.lst ys)) { s with heap:=s.heap.update l (Obj.mapSeq f),toks:=t' }:=by
 have q:=PySem.IsL.update e f
 rw[hf]at q
 refine I.write (x:=l) (e:=l) (by rw[hH];exact trivial) (.inl rfl) (fun b' u hb hu=>(Heap.get?_update_other s.heap (Obj.mapSeq f) (Ne.symm hb)).trans hu) ⟨_,q⟩ ?_
 exact⟨hz,its',_,hv,q⟩
theorem Inv.lnew(I:Inv X pins σ H s) (hv:B3 ys its) (hz:ys.length<=sizeLine) :
  Inv X pins σ (upd H s.heap.objs.size (.lst ys)) { s with heap:=s.heap.push { cls:=.type "list", data:=.seq its.toArray },toks:=t' } :=
 I.laid (fun _ _ q=>Heap.get?_push_of_some _ q) (Nat.le_refl _) ⟨hz,its,0,hv,Heap.get?_push_size _ rfl⟩
theorem Inv.fresh(I:Inv X pins σ H s):H s.heap.objs.size=none:=I.hok.fresh (Nat.le_refl _)
theorem Inv.lstM(I:Inv X pins σ H s) (hH:H l=some (.lst xs)):xs.length<=sizeLine/\∃(its:List Value) (n:Nat),B3 xs its/\xs.length=its.length/\s.heap.get? l=some { cls:=.type "list", data:=.seq its.toArray n }:=by
 obtain⟨z,its,n,r,e⟩:=I.hok l _ hH
 exact⟨z,its,n,r,r.length,e⟩
theorem R6(h:n<=sizeLine):Builtin.List.listTooLong n=false:=by
 unfold Builtin.List.listTooLong
 exact decide_eq_false (by omega)
end
section
variable {X:Cx}
noncomputable def bl6:V->List V->Hp->VK->Prop:=fun x vs H Q=>∃l xs y,x=.ref l/\vs=[y]/\H l=some (.lst xs)/\xs.length < sizeLine/\Q .non (upd H l (.lst (xs++[y])))
theorem c7:MtM X "list.append" bl6:=by
 intro pins s σ H x vs v us Q I rx rv h
 obtain⟨l,xs,y,rfl,rfl,hH,hz,q⟩:=h
 cases rx
 obtain⟨u,rfl,ru⟩:=rv.one
 obtain⟨z,its,n,r,hl,e⟩:=I.lstM hH
 refine call_meets F.slot_list_append ⟨_,e,rfl⟩ F.entry_list_append (F.args_list_append_2 _ _) (PySem.list_append l its.toArray n u (by rw[List.size_toArray];omega)) ⟨e,?_⟩
 refine⟨.non,_,I.lset (its':=its++[u]) hH e (by simp) (r.append (.cons ru .nil)) ?_,rfl,q⟩
 rw[List.length_append,List.length_singleton]
 omega
theorem aj6{α:Type}(xs:List α) (k:Nat):(List.replicate k xs).flatten.length=k*xs.length:=by
 induction k with
 | zero=>simp
 | succ k ih=>rw[List.replicate_succ,List.flatten_cons,List.length_append,ih,Nat.succ_mul,Nat.add_comm]
end
section
variable {prog:Program}{w:World}{A:Around}{E:Value->Shared->Prop}{s:Shared}
theorem aK4(its its2:List Value) (a c:Nat):its.toArray.extract 0 a++its2.toArray++its.toArray.extract c its.toArray.size=(its.take a++its2++its.drop c).toArray:=by
  apply Array.toList_inj.mp
  first
    | (simp
       exact List.take_of_length_le (by simp))
    | simp[List.take_of_length_le]
    | simp
set_option maxRecDepth 100000 in
end
section
variable {X:Cx}
end
end L2
namespace Att
open PySem PySem.W PySem.Calls PyProof.Rows
theorem o0:∀(ns:List Int) (vs:List Value),WellAll P h vs (ns.map WData.int)->IntsAre vs ns:=by
 intro ns
 induction ns with
 | nil =>
  intro vs w
  rw[List.map_nil]at w
  cases w
  exact .nil
 | cons n ns ih =>
  intro vs w
  rw[List.map_cons]at w
  cases w with
  | cons a b =>
   cases a
   exact .cons _ _ (ih _ b)
theorem aK7{l:OpenLaw}{n:Nat}(hn:l.most=some n) {P:Params}{h:Heap}{args:List WData}{vals:List Value}
  (hpre:l.row.toRowW.claim.pre args=true) (hwl:WellAll P h vals args) :
  ∃a vs ns,vals=[Value.ref a]/\args=[WData.list (ns.map WData.int)]/\h.get? a=some { cls:=.type "list", data:=.seq vs.toArray }/\IntsAre vs ns/\ns.length<=n:=by
 have hsh:WShape.hasAll [] args [.list .int]=true:=(pre_splitW hpre).1
 have hc:l.pre.holds [] { args:=args }=true:=(pre_splitW hpre).2
 obtain⟨d,r,rfl,h1,h2⟩:=hasAllW_cons hsh
 obtain rfl:=hasAllW_nil h2
 obtain⟨xs,rfl,h3⟩:=hasW_list h1
 obtain⟨ns,rfl⟩:=items_int h3
 have hlen:ns.length<=n:=by
  unfold OpenLaw.pre at hc
  have h4:(WTm.not (.lt (.lit (.int (n:Int))) (.len (.arg 0)))).holds [] { args:=[.list (ns.map .int)] }=true:=by
   have h4:=(holds_andW hc).1
   rw[hn]at h4
   exact h4
  have h5:=condW_of h4 (w_not (w_lt w_lit (w_len_list (w_arg rfl))))
  rw[List.length_map]at h5
  refine Nat.le_of_not_lt fun q=>?_
  have q':(n:Int) < ((ns.length:Nat):Int):=by omega
  first
   | (rw[decide_eq_true q']at h5;exact absurd h5 (by decide))
   | (simp at h5;omega)
 cases hwl with
 | cons w1 w2 =>
  cases w2
  cases w1 with
  | list ho hall=>exact⟨_,_,ns,rfl,rfl,ho,o0 ns _ hall,hlen⟩
theorem aL2(l:OpenLaw) (args:List WData):l.row.toRowW.claim.post args (.bool true) args=true :=
 postW_of (r:=l.row.toRowW) (X:=(true==true))
  (show WShape.has [] (.bool true) .bool=true by first|rfl|decide|simp[WShape.has,WShape.arms,WShape.armsAll])
  (show(WTm.eq .res (.lit (.bool true))).value [] { args:=args,res:=some (.bool true),after:=args }=some (.bool (true==true)) from w_eq_bool (w_res rfl) w_lit) rfl
theorem attach_call{l:OpenLaw}{n:Nat}{q:Program}{loose:List Str}{XP:(Str->Option Value)->Heap->Prop}{YP:World->Heap->Prop}{d:DefRec}
  (hn:l.most=some n) (hdf:d.params.defaults=[])
  (call:∀(w:World) (s₀ s₁:Shared) (mg mb:Str->Option Value) (fa:Addr) (o:Obj) (pm cd doc:Value) (a:Addr) (vs:List Value) (ns:List Int),
   Ground q loose [] XP w s₀ mg mb s₁.heap->YP w s₁.heap ->
   s₁.heap.get? fa=some o->o.data=.func (docDef d.name d.params d.body d.scope pm cd doc)->s₁.heap.CodeRec cd d.name->mg d.name=some (.ref fa) ->
   s₁.heap.get? a=some { cls:=.type "list", data:=.seq vs.toArray }->IntsAre vs ns->ns.length<=n->s₁.gens = #[] ->
   codeAny (model l.prog w) callerA (.call (.ref fa) ⟨[.ref a],[]⟩) (fun r s'=>r=.ok (.ret (.bool true))/\OldK s₁.heap s'.heap/\s'.os=s₁.os/\AllBare s'.gens) s₁) :
  WalkO q loose XP YP l.row.toRowW d [] (fun f vs=>PySem.call f vs):=by
 intro w s₀ s₁ mg mb G Y fa o pm cd doc dV kV ho hd hcd hD hmg hg args vals as hpre hlay hrd hwl hlo
 obtain rfl:dV=.none:=Dflts.none hD hdf
 obtain rfl:kV=.none:=Dflts.noKw hD
 obtain⟨a,vs,ns,rfl,rfl,hobj,hints,hlen⟩:=aK7 hn hpre hwl
 refine enter_call (codeAny_mono (call w s₀ s₁ mg mb fa o pm cd doc a vs ns G Y ho (fd_plain hd) hcd hmg hobj hints hlen hg) fun r s' hq=>?_)
 obtain⟨rfl,h2,h3,h4⟩:=hq
 exact⟨.inl ⟨.bool true,.bool true,[],rfl,fun _=>rfl,.bool true,aL2 l _,fun _=>⟨List.Pairwise.nil,fun _ hm=>(nomatch hm)⟩⟩,h2,h3,h4⟩
section
variable {prog:Program}{w:World}{A:Around}{E:Value->Shared->Prop}{s:Shared}{K:Frag}
end
end Att
namespace L2
open PySem PySem.Spec PyProof.Rows
theorem G7:∀{vs:List Value}{ns:List Int},IntsAre vs ns->B3 (ns.map V.int) vs
 | _,_,.nil=>.nil
 | _,_,.cons n t h=>.cons ⟨t,rfl⟩ (G7 h)
noncomputable def bQ1(H:Hp):Prop:=∀b,H b=none\/∃o xs,H b=some (.frz o (.lst xs))
theorem aX7{P:Program}{w:World}{K:PySem.W.Frag}{mg mb:Str->Option Value}{CX:CXT}{k:Nat}{fa a:Addr}{fd:FuncData}{x:Str}{sp:Sp}{s₁:Shared}{vs:List Value}{ns:List Int}
  (KX:K.In s₁.heap) (hns:s₁.heap.Ns mainGlobals mg) (hb:s₁.heap.Ns builtinsNs mb) (hbb:∀x:Str,x ≠ "__name__" -> mb x=bootBuiltins x) (hlim:s₁.heap.NoLimit) (hg:s₁.gens = #[])
  (ha:s₁.heap.get? a=some { cls:=.type "list", data:=.seq vs.toArray }) (hi:IntsAre vs ns) (hl:ns.length<=sizeLine) (hr:Room k callerA)
  (F:∀base:Heap,K.In base->base.Ns mainGlobals mg->FnOk P w K mg base CX k fa fd [x] sp) (hbind:∀(s:Shared) (u:Value),BindsTo s fd ⟨[u],[]⟩ [(x,u)])
  (hsp:∀H:Hp,bQ1 H->SqL K H a (ns.map V.int)->sp [.ref a] H (fun v _=>v=.bl true) fun _ _ _=>False)
  (hCX:∀H e s',CX [] H s₁ (fun _ _ _=>False) e s'->False) :
  codeAny (model P w) callerA (.call (.ref fa) ⟨[.ref a],[]⟩) (fun r s'=>r=.ok (.ret (.bool true))/\OldK s₁.heap s'.heap/\s'.os=s₁.os/\AllBare s'.gens) s₁:=by
 have rv:=G7 hi
 have lenV:=hi.length
 have core:∀H:Hp,bQ1 H->SqL K H a (ns.map V.int)->HOk P w H s₁.heap->(∀b,H b≠none->b=a)->(H a≠none->K.lookup a=none) ->
   codeAny (model P w) callerA (.call (.ref fa) ⟨[.ref a],[]⟩) (fun r s'=>r=.ok (.ret (.bool true))/\OldK s₁.heap s'.heap/\s'.os=s₁.os/\AllBare s'.gens) s₁:=by
  intro H hO hS hok hA hK
  have base_of:∀{b:Addr}{o:Obj},s₁.heap.get? b=some o->H b=none->(ak0 s₁.heap H).get? b=some o:=fun e n=>bc3 e n
  have noA:∀{b:Addr}{o:Obj}{es:Array DictEntry}{ep:Nat},s₁.heap.get? b=some o->o.data=.dict es ep->H b=none:=fun{b o es ep} e d=>by
   cases q:H b with
   | none=>rfl
   | some u =>
    have e':b=a:=hA b (by rw[q];simp)
    subst e'
    rw[ha]at e;cases e
    have d':Data.seq vs.toArray _=Data.dict es ep:=d
    cases d'
  have nsK:∀{b:Addr}{m:Str->Option Value},s₁.heap.Ns b m->(ak0 s₁.heap H).Ns b m:=fun{b m} ⟨o,es,ep,e,d,r⟩=>⟨o,es,ep,base_of e (noA e d),d,r⟩
  have hKb:K.In (ak0 s₁.heap H):=fun b o e=>base_of (KX b o e) (by
   cases q:H b with
   | none=>rfl
   | some u =>
    have e':b=a:=hA b (by rw[q];simp)
    subst e'
    rw[hK (by rw[q];simp)]at e;cases e)
  have hM:Mod K mg (ak0 s₁.heap H):=⟨hKb,nsK hns,⟨mb,nsK hb,hbb⟩,let⟨mc,h1,h2⟩:=hlim;⟨mc,nsK h1,h2⟩⟩
  have e0:Env0 P w K mg (ak0 s₁.heap H) callerA [] s₁ H:=⟨rfl,hM,fun b o e=>bo3 e,Nat.le_of_eq (aN1 _ _),trivial,fun b hb=>absurd (show b∈([]:List Addr) from hb) (by simp),hok,.of_eq hg⟩
  refine codeAny_mono ((F _ hKb (nsK hns)).run callerA [] s₁ H ⟨[.ref a],[]⟩ [.ref a] [.ref a] _ _ hr e0 (hbind s₁ (.ref a)) (.cons rfl .nil) (hsp H hO hS)) fun r s' h=>?_
  cases r with
  | error e=>exact(hCX H e s' h).elim
  | ok fl =>
   cases fl with
   | next=>exact False.elim h
   | brk=>exact False.elim h
   | cont=>exact False.elim h
   | ret u =>
    obtain⟨v,H',os,bare,un,hok',r',q⟩:=h
    have q':v=.bl true:=q
    subst q'
    obtain rfl:u=Value.bool true:=r'
    refine⟨rfl,OldK.of_keep fun b o e=>?_,os,bare⟩
    cases q:H b with
    | none=>exact un.keep b o e q (by intro z;exact absurd (show b∈([]:List Addr) from z) (by simp)) (by simp)
    | some u =>
     rcases hO b with z|⟨ob,xs,z⟩
     ·rw[q]at z;cases z
     ·have z2:=un.frzs b ob _ z
      obtain⟨e1,_⟩:=hok b _ z
      obtain⟨e2,_⟩:=hok' b _ z2
      rw[e]at e1;cases e1
      exact e2
 cases hk:K.lookup a with
 | some o =>
  have e:=KX a o hk
  rw[ha]at e
  cases e
  refine core (fun _=>none) (fun _=>.inl rfl) (.inr ⟨_,vs.toArray,_,hk,rfl,rfl,rfl,by rw[List.size_toArray,lenV];exact hl,by simpa using rv⟩) (fun b u z=>by have z':(none:Option HO)=some u:=z;cases z') (fun b z=>absurd rfl z) fun z=>absurd rfl z
 | none =>
  refine core (fun b=>if b=a then some (.frz { cls:=.type "list", data:=.seq vs.toArray } (.lst (ns.map V.int))) else none) (fun b=>?_) (.inl (.inr ⟨{ cls:=.type "list", data:=.seq vs.toArray },if_pos rfl⟩)) (fun b u z=>?_) (fun b z=>?_) fun _=>hk
  ·by_cases hb:b=a
   ·exact .inr ⟨_,_,if_pos hb⟩
   ·exact .inl (if_neg hb)
  ·by_cases hb:b=a
   ·have z':=(if_pos hb).symm.trans z
    cases z'
    subst hb
    exact⟨ha,by rw[List.length_map];exact hl,vs,_,rv,ha⟩
   ·have z':=(if_neg hb).symm.trans z
    cases z'
  ·by_cases hb:b=a
   ·exact hb
   ·exact absurd (if_neg hb) z
end L2
namespace L2
open PySem PySem.Spec PyProof.Rows
theorem bi3{l:PySem.W.OpenLaw}{n k:Nat}{q:Program}{loose:List Str}{XP:(Str->Option Value)->Heap->Prop}{YP:World->Heap->Prop}{d:DefRec}{K:Params->PySem.W.Frag}{CX:World->CXT}{sp:World->Sp}{x:Str}
  (hn:l.most=some n) (hn2:n<=sizeLine) (hdf:d.params.defaults=[]) (hr:Room k callerA)
  (hY:∀(w:World) (h:Heap),YP w h->(K w.params).In h)
  (F:∀(w:World) (mg:Str->Option Value) (fa:Addr) (h:Heap),(K w.params).In h->h.Ns mainGlobals mg->mg d.name=some (.ref fa) ->
   ∃fd:FuncData,(∀(s:Shared) (u:Value),BindsTo s fd ⟨[u],[]⟩ [(x,u)]) /\
    ∀base:Heap,(K w.params).In base->base.Ns mainGlobals mg->FnOk l.prog w (K w.params) mg base (CX w) k fa fd [x] (sp w))
  (hsp:∀(w:World) (H:Hp) (a:Addr) (ns:List Int),ns.length<=n->bQ1 H->SqL (K w.params) H a (ns.map V.int)->sp w [.ref a] H (fun v _=>v=.bl true) fun _ _ _=>False)
  (hCX:∀(w:World) (H:Hp) (s:Shared) (e:Value) (s':Shared),CX w [] H s (fun _ _ _=>False) e s'->False) :
  PySem.W.WalkO q loose XP YP l.row.toRowW d [] (fun f vs=>PySem.call f vs):=by
 refine Att.attach_call hn hdf fun w s₀ s₁ mg mb fa o pm cd doc a vs ns G Y ho hd hcd hmg hobj hints hlen hg=>?_
 have KX:=hY w _ Y
 obtain⟨fd,hb,hF⟩:=F w mg fa _ KX G.T.g hmg
 exact aX7 KX G.T.g G.T.b G.T.builtins G.T.nolimit hg hobj hints (Nat.le_trans hlen hn2) hr hF hb (fun H hO hS=>hsp w H a ns hlen hO hS) fun H e s'=>hCX w H s₁ e s'
end L2
namespace L2
open PySem PySem.Spec PyProof.Rows
noncomputable def N6(s:Stmt):Arguments:=match s with
 | .FunctionDef _ a _ _ _ _ _ _ _ _=>a
 | _=>{ posonlyargs:=[],args:=[],vararg:=none,kwonlyargs:=[],kw_defaults:=[],kwarg:=none,defaults:=[] }
noncomputable def E2(s:Stmt):List Stmt:=match s with
 | .FunctionDef _ _ b _ _ _ _ _ _ _=>b
 | _=>[]
noncomputable def B2(s:Stmt):Scope:=match s with
 | .FunctionDef _ _ _ _ _ _ sc _ _ _=>sc
 | _=>{ kind:=.function,names:=[],isGenerator:=false,isCoroutine:=false }
noncomputable abbrev CX0:CXT:=fun _ _ _ _ _ _=>False
noncomputable abbrev E0:XK:=fun _ _ _=>False
theorem bx1:al6 CX0 X E0:=fun _ _ _ _ _ _ _ h=>h.elim
structure Fun (K:PySem.W.Frag) (x qual:Str) (st:Stmt) (f:Addr) (fd:FuncData):Prop where
 ex:∃(oc:Value) (od:Option Addr) (kV doc pm:Value) (an:Option Addr) (cdv ct:Value) (osl:Array (Option Value)),
  fd=PySem.W.fnOf x qual (N6 st) (E2 st) (B2 st) .none kV doc pm an cdv ct/\K.lookup f=some ⟨oc,od,.func fd,osl⟩/\PySem.W.codeIn K cdv qual=true
 kp:PySem.W.keepIn K (.ref f)=true
section
variable {P:Program}{w:World}{K:PySem.W.Frag}{mg:Str->Option Value}{base:Heap}
theorem Fun.ok{x qual:Str}{st:Stmt}{f:Addr}{fd:FuncData}{N ps:List Str}{k:Nat}{sp:Sp}(F:Fun K x qual st f fd) (S:FnScope N ps (B2 st)) (len:∀vs H Q E,sp vs H Q E->vs.length=ps.length)
  (hbody:∀(cdv:Value) (A:Around) (outer:List Env) (s:Shared) (H:Hp) (vs:List V) (Q:VK) (E:XK),Room k (A.deeper (envOfC qual (B2 st) s.heap.objs.size f cdv))->sp vs H Q E ->
   ∃t,PSs (ak9 CX0 P w K mg base N qual (B2 st) f cdv A outer s H E).nox (E2 st) t/\t { nx:=fun _ H'=>Q .non H',rt:=Q } (G3 N vs) H):FnOk P w K mg base CX0 (k+1) f fd ps sp:=by
 obtain⟨oc,od,kV,doc,pm,an,cdv,ct,osl,rfl,lk,hcd⟩:=F.ex
 refine by2 lk hcd S len fun A outer s H vs Q E hr hsp=>?_
 obtain⟨t,h,q⟩:=hbody cdv A outer s H vs Q E hr hsp
 exact⟨t,h.nox,q⟩
theorem bN1{x qual:Str}{st:Stmt}{f:Addr}{oc:Value}{od an:Option Addr}{osl:Array (Option Value)}{kV doc pm cdv ct:Value}(l:K.lookup f=some ⟨oc,od,.func (PySem.W.fnOf x qual (N6 st) (E2 st) (B2 st) .none kV doc pm an cdv ct),osl⟩)
  (c:PySem.W.codeIn K cdv qual=true) (k:PySem.W.keepIn K (.ref f)=true):Fun K x qual st f (PySem.W.fnOf x qual (N6 st) (E2 st) (B2 st) .none kV doc pm an cdv ct):=⟨⟨oc,od,kV,doc,pm,an,cdv,ct,osl,rfl,l,c⟩,k⟩
end
theorem Z9(h:n<=1000):n < sizeLine:=Nat.lt_of_le_of_lt h (by decide)
section
variable {X:Cx}
theorem pv(i:Nat) (hN:X.N[i]? = some x:=by rfl) (hv:Vis X.env.scope x:=by first|exact Or.inl rfl|exact Or.inr (Or.inl rfl)|exact Or.inr (Or.inr rfl)) (hd:(x==("__debug__" : Str))=false:=by decide)
  (hcd:(x==("__classdict__" : Str))=false:=by decide):PE X (.Name x pos) (ag8 i):=J4 hN hv hd hcd
end
theorem aa6{A B:Prop}(h:B):if false=true then A else B:=by
 rw[if_neg Bool.false_ne_true]
 exact h
theorem aa5{A B:Prop}(h:A):if true=true then A else B:=by
 rw[if_pos rfl]
 exact h
noncomputable def B5(H H':Hp):Prop:=∀b o,H b=some o->H' b=some o
theorem B5.refl(H:Hp):B5 H H:=fun _ _ h=>h
theorem B5.trans(a:B5 H H1) (b:B5 H1 H2):B5 H H2:=fun c o h=>b c o (a c o h)
theorem B5.free(e:B5 H H') (h:H' l=Option.none):H l=Option.none:=by
 cases q:H l with
 | none=>rfl
 | some o =>
  rw[e l o q]at h
  cases h
end L2
set_option maxHeartbeats 4000000
namespace G
theorem xbm{α β:Type}{o:Option α}{f:α->Option β}{b:β}(h:o.bind f=some b):∃a,o=some a/\f a=some b:=Option.bind_eq_some_iff.mp h
open PySem PySem.Spec PyProof.Rows L2
noncomputable abbrev D:=PyData
mutual
noncomputable def Rep(K:PySem.W.Frag) (H:Hp):D->V->Prop
 | .none,v=>v=.non
 | .bool b,v=>v=.bl b
 | .int i,v=>v=.int i
 | .str x,v=>v=.str x
 | .tuple ds,v=>∃a vs,v=.ref a/\SqT K H a vs/\Reps K H ds vs
 | .list ds,v=>∃a vs,v=.ref a/\SqL K H a vs/\Reps K H ds vs
 | .dict kvs,v=>∃a m,v=.ref a/\H a=some (.dK m)/\RepKs K H kvs m
noncomputable def Reps(K:PySem.W.Frag) (H:Hp):List D->List V->Prop
 | [],vs=>vs=[]
 | d::ds,vs=>∃v r,vs=v::r/\Rep K H d v/\Reps K H ds r
/-- a dict by texts -/
noncomputable def RepKs(K:PySem.W.Frag) (H:Hp):List (D×D)->List (Key×V)->Prop
 | [],m=>m=[]
 | (k,d)::r,m=>∃x v t,k=.str x/\m=(.inr x,v)::t/\Rep K H d v/\RepKs K H r t
end
section
variable {K:PySem.W.Frag}{H H' H0 H1 H2 Hf Hf' Hf1 Hf2:Hp}
theorem aB9(e:B5 H H') (h:Rd H a u):Rd H' a u:=by
 rcases h with h|⟨o,h⟩
 ·exact .inl (e _ _ h)
 ·exact .inr ⟨o,e _ _ h⟩
theorem B4(e:B5 H H') (h:SqT K H a xs):SqT K H' a xs:=h.imp (aB9 e) id
theorem C9(e:B5 H H') (h:SqL K H a xs):SqL K H' a xs:=h.imp (aB9 e) id
mutual
theorem Rep.mono(e:B5 H H'):∀{d:D}{v:V},Rep K H d v->Rep K H' d v
 | .none,_,h=>h
 | .bool _,_,h=>h
 | .int _,_,h=>h
 | .str _,_,h=>h
 | .tuple _,_,⟨a,vs,h1,h2,h3⟩=>⟨a,vs,h1,B4 e h2,Reps.mono e h3⟩
 | .list _,_,⟨a,vs,h1,h2,h3⟩=>⟨a,vs,h1,C9 e h2,Reps.mono e h3⟩
 | .dict _,_,⟨a,m,h1,h2,h3⟩=>⟨a,m,h1,e _ _ h2,RepKs.mono e h3⟩
theorem Reps.mono(e:B5 H H'):∀{ds:List D}{vs:List V},Reps K H ds vs->Reps K H' ds vs
 | [],_,h=>h
 | _::_,_,⟨v,r,h1,h2,h3⟩=>⟨v,r,h1,Rep.mono e h2,Reps.mono e h3⟩
theorem RepKs.mono(e:B5 H H'):∀{ds:List (D×D)}{vs:List (Key×V)},RepKs K H ds vs->RepKs K H' ds vs
 | [],_,h=>h
 | (_,_)::_,_,⟨x,v,t,h1,h2,h3,h4⟩=>⟨x,v,t,h1,h2,Rep.mono e h3,RepKs.mono e h4⟩
end
theorem Reps.length:∀{ds:List D}{vs:List V},Reps K H ds vs->vs.length=ds.length
 | [],_,h=>by cases h;rfl
 | _::_,_,⟨v,r,h1,h2,h3⟩=>by subst h1;simp[Reps.length h3]
theorem Reps.get:∀{ds:List D}{vs:List V}{i:Nat}{d:D},Reps K H ds vs->ds[i]? = some d->∃v,vs[i]? = some v/\Rep K H d v
 | [],_,_,_,_,e=>by simp at e
 | x::_,_,0,_,⟨v,r,h1,h2,h3⟩,e=>by subst h1;simp at e;subst e;exact⟨v,rfl,h2⟩
 | x::_,_,i+1,_,⟨v,r,h1,h2,h3⟩,e=>by
  subst h1
  obtain⟨u,q1,q2⟩:=Reps.get (i:=i) h3 (by simpa using e)
  exact⟨u,by simpa using q1,q2⟩
theorem Reps.get':∀{ds:List D}{vs:List V}{i:Nat}{v:V},Reps K H ds vs->vs[i]? = some v->∃d,ds[i]? = some d/\Rep K H d v
 | [],_,_,_,h,e=>by cases h;simp at e
 | x::_,_,0,_,⟨v,r,h1,h2,h3⟩,e=>by subst h1;simp at e;subst e;exact⟨x,rfl,h2⟩
 | x::_,_,i+1,_,⟨v,r,h1,h2,h3⟩,e=>by
  subst h1
  obtain⟨u,q1,q2⟩:=Reps.get' (i:=i) h3 (by simpa using e)
  exact⟨u,by simpa using q1,q2⟩
theorem Reps.append:∀{ds es:List D}{vs us:List V},Reps K H ds vs->Reps K H es us->Reps K H (ds++es) (vs++us)
 | [],_,_,_,h,q=>by cases h;exact q
 | _::_,_,_,_,⟨v,r,h1,h2,h3⟩,q=>by subst h1;exact⟨v,r++_,rfl,h2,Reps.append h3 q⟩
theorem Reps.take:∀{ds:List D}{vs:List V}(n:Nat),Reps K H ds vs->Reps K H (ds.take n) (vs.take n)
 | [],_,n,h=>by cases h;simp[Reps]
 | _::_,_,0,h=>by simp[Reps]
 | _::_,_,n+1,⟨v,r,h1,h2,h3⟩=>by subst h1;exact⟨v,r.take n,rfl,h2,Reps.take n h3⟩
theorem Reps.drop:∀{ds:List D}{vs:List V}(n:Nat),Reps K H ds vs->Reps K H (ds.drop n) (vs.drop n)
 | [],_,n,h=>by cases h;simp[Reps]
 | _::_,_,0,h=>h
 | _::_,_,n+1,⟨v,r,h1,h2,h3⟩=>by subst h1;exact Reps.drop n h3
theorem Reps.ints:∀(ns:List Int),Reps K H (ns.map PyData.int) (ns.map V.int)
 | []=>rfl
 | n::r=>⟨.int n,r.map V.int,rfl,rfl,Reps.ints r⟩
theorem Reps.flatten(h:Reps K H ds vs):∀k:Nat,Reps K H (List.replicate k ds).flatten (List.replicate k vs).flatten
 | 0=>rfl
 | k+1=>by simp only[List.replicate_succ,List.flatten_cons];exact h.append (Reps.flatten h k)
structure Grow (H Hf H' Hf':Hp):Prop where
 big:B5 H H'
 sub:B5 Hf' H'
 ext:B5 Hf Hf'
 new:∀b,Hf' b≠none->Hf b≠none\/H b=none
theorem Grow.refl(h:B5 Hf H):Grow H Hf H Hf:=⟨B5.refl _,h,B5.refl _,fun _ h=>.inl h⟩
theorem Grow.trans(a:Grow H Hf H1 Hf1) (b:Grow H1 Hf1 H2 Hf2):Grow H Hf H2 Hf2 :=
 ⟨a.big.trans b.big,b.sub,a.ext.trans b.ext,fun x h=>(b.new x h).elim (a.new x) fun z=>.inr (a.big.free z)⟩
theorem B9(h:H p=none):B5 H (upd H p o):=fun b u e=>by rw[A7 (A8 e h)];exact e
theorem Grow.laid(s:B5 Hf H) (h:H p=none):Grow H Hf (upd H p o) (upd Hf p o):=by
 refine⟨B9 h,fun b u e=>?_,B9 (s.free h),fun b e=>?_⟩
 ·by_cases q:b=p
  ·subst q;rw[A6]at e;rw[A6];exact e
  ·rw[A7 q]at e;rw[A7 q];exact s b u e
 ·by_cases q:b=p
  ·subst q;exact .inr h
  ·rw[A7 q]at e;exact .inl e
theorem Grow.made(s:B5 Hf H) (h:H p=none):Grow H Hf (upd H p o) Hf :=
 ⟨B9 h,s.trans (B9 h),B5.refl _,fun _ e=>.inl e⟩
theorem Grow.freeze(g:Grow H Hf H1 Hf1) (h:H1 p=some o) (n:Hf1 p=none) (f:H p=none):Grow H Hf H1 (upd Hf1 p o):=by
 refine⟨g.big,fun b u e=>?_,g.ext.trans (B9 n),fun b e=>?_⟩
 ·by_cases q:b=p
  ·subst q;rw[A6]at e;rw[h];exact e
  ·rw[A7 q]at e;exact g.sub b u e
 ·by_cases q:b=p
  ·subst q;exact .inr f
  ·rw[A7 q]at e;exact g.new b e
end
inductive B where
 | val (d:D)
 | own (ds:List D)
 | exc (x:Str)
 | opq (a:Addr)
noncomputable abbrev Rho:=List (Option B)
noncomputable def clA(K:PySem.W.Frag) (x:Str):Option Addr:=match PySem.W.nsIn K mainGlobals x with
 | some (some (.ref C))=>some C
 | _=>none
noncomputable def SB(K:PySem.W.Frag) (H0 H Hf:Hp):B->V->Prop
 | .val d,v=>Rep K Hf d v
 | .own ds,v=>∃a vs,v=.ref a/\H a=some (.lst vs)/\Hf a=none/\H0 a=none/\Reps K Hf ds vs
 | .exc x,v=>∃a o C,v=.ref a/\Hf a=some (.frz o (.own a))/\clA K x=some C/\o.cls=.ref C
 | .opq a,v=>v=.ref a
structure Slots (K:PySem.W.Frag) (H0:Hp) (ρ:Rho) (σ:L2.St) (H Hf:Hp):Prop where
 len:ρ.length=σ.length
 is:∀(i:Nat) (b:B),ρ[i]? = some (some b)->∃v,σ[i]? = some (some v)/\SB K H0 H Hf b v
 apart:∀(i j:Nat) (ds es:List D) (a:Addr),ρ[i]? = some (some (.own ds))->ρ[j]? = some (some (.own es))->σ[i]? = some (some (V.ref a))->σ[j]? = some (some (V.ref a))->i=j
section
variable {K:PySem.W.Frag}{H H' H0 H1 H2 Hf Hf' Hf1 Hf2:Hp}{ρ:Rho}{σ:L2.St}
theorem SB.grow(h:SB K H0 H Hf b v) (g:Grow H Hf H' Hf'):SB K H0 H' Hf' b v:=by
 cases b with
 | val d=>exact Rep.mono g.ext h
 | opq a=>exact h
 | exc C =>
  obtain⟨a,o,C,e,h1,h2⟩:=h
  exact⟨a,o,C,e,g.ext _ _ h1,h2⟩
 | own ds =>
  obtain⟨a,vs,e,h1,h2,h3,h4⟩:=h
  refine⟨a,vs,e,g.big _ _ h1,?_,h3,h4.mono g.ext⟩
  cases q:Hf' a with
  | none=>rfl
  | some u =>
   rcases g.new a (by rw[q];simp) with z|z
   ·exact absurd h2 z
   ·rw[h1]at z;cases z
theorem Slots.grow(s:Slots K H0 ρ σ H Hf) (g:Grow H Hf H' Hf'):Slots K H0 ρ σ H' Hf' :=
 ⟨s.len,fun i b e=>let⟨v,h1,h2⟩:=s.is i b e;⟨v,h1,h2.grow g⟩,s.apart⟩
end
noncomputable abbrev DE:=Rho->Option D
noncomputable def tJ(K:PySem.W.Frag) (ρ:Rho) (R:Hp->V->Hp->Hp->Prop):TE:=fun σ H Q=>∃H0 Hf,B5 Hf H/\Slots K H0 ρ σ H Hf/\∀v H' Hf',Grow H Hf H' Hf'->R H v H' Hf'->Q v H'
noncomputable def JE(X:Cx) (e:Expr) (f:DE):Prop:=∀ρ d,f ρ=some d->PE X e (tJ X.K ρ fun _ v _ Hf=>Rep X.K Hf d v)
noncomputable def Sq(K:PySem.W.Frag):Bool->Hp->Addr->List V->Prop
 | true=>SqT K
 | false=>SqL K
noncomputable def RQ(K:PySem.W.Frag) (t:Bool) (ds:List D) (v:V) (H Hf:Hp):Prop:=∃a vs,v=.ref a/\Sq K t H a vs/\Reps K Hf ds vs
noncomputable def JQ(X:Cx) (e:Expr) (f:Rho->Option (Bool×List D)):Prop:=∀ρ t ds,f ρ=some (t,ds)->PE X e (tJ X.K ρ fun _ v H Hf=>RQ X.K t ds v H Hf)
noncomputable def JN(X:Cx) (e:Expr) (f:Rho->Option (List D)):Prop:=∀ρ ds,f ρ=some ds->PE X e (tJ X.K ρ fun H v H' Hf'=>∃a vs,v=.ref a/\H a=none/\H' a=some (.lst vs)/\Hf' a=none/\Reps X.K Hf' ds vs)
noncomputable def tJA(K:PySem.W.Frag) (ρ:Rho) (ds:List D):TA:=fun σ H Q=>∃H0 Hf,B5 Hf H/\Slots K H0 ρ σ H Hf/\∀vs H' Hf',Grow H Hf H' Hf'->Reps K Hf' ds vs->Q vs H'
structure JA (X:Cx) (es:List Expr) (f:Rho->Option (List D)):Prop where
 len:∀ρ ds,f ρ=some ds->ds.length=es.length
 run:∀ρ ds,f ρ=some ds->PA X es (tJA X.K ρ ds)
noncomputable def JT(X:Cx) (e:Expr) (f:Rho->Option Bool):Prop:=∀ρ c,f ρ=some c->PT X e (fun σ H Q=>∃H0 Hf,B5 Hf H/\Slots X.K H0 ρ σ H Hf/\∀H' Hf',Grow H Hf H' Hf'->Q c H')
noncomputable def JW(X:Cx) (e:Expr) (f:Rho->Option Bool):Prop:=∀ρ c,f ρ=some c->PW X e (fun σ H Q=>∃H0 Hf,B5 Hf H/\Slots X.K H0 ρ σ H Hf/\∀H' Hf',Grow H Hf H' Hf'->Q c H')
section
variable {X:Cx}
theorem A9(h:PE X e t) (i:∀σ H Q,t' σ H Q->t σ H Q):PE X e t':=fun pins s σ H Q I q=>h pins s σ H Q I (i σ H Q q)
theorem ai4(h:PT X e t) (i:∀σ H Q,t' σ H Q->t σ H Q):PT X e t':=fun pins s σ H Q I q=>h pins s σ H Q I (i σ H Q q)
noncomputable def dC(d:D):DE:=fun _=>some d
noncomputable def A1(i:Nat):DE:=fun ρ=>match ρ[i]? with
 | some (some (.val d))=>some d
 | _=>none
noncomputable def B1(i:Nat):Rho->Option (Bool×List D):=fun ρ=>match ρ[i]? with
 | some (some (.own ds))=>some (false,ds)
 | some (some (.val (.list ds)))=>some (false,ds)
 | some (some (.val (.tuple ds)))=>some (true,ds)
 | _=>none
noncomputable def an3:D->Option (Bool×List D)
 | .list ds=>some (false,ds)
 | .tuple ds=>some (true,ds)
 | _=>none
theorem aw6:JE X (.Constant (.int i) j pos) (dC (.int i)):=fun ρ d h=>by
 cases h
 exact A9 av6 fun σ H Q ⟨H0,Hf,s,sl,k⟩=>k _ H Hf (Grow.refl s) rfl
theorem bX9:JE X (.Constant (.bool b) j pos) (dC (.bool b)):=fun ρ d h=>by
 cases h
 exact A9 bU2 fun σ H Q ⟨H0,Hf,s,sl,k⟩=>k _ H Hf (Grow.refl s) rfl
theorem bL5:JE X (.Constant .none j pos) (dC .none):=fun ρ d h=>by
 cases h
 exact A9 bF6 fun σ H Q ⟨H0,Hf,s,sl,k⟩=>k _ H Hf (Grow.refl s) rfl
theorem bL0:JE X (.Constant (.str x) j pos) (dC (.str x)):=fun ρ d h=>by
 cases h
 exact A9 bF2 fun σ H Q ⟨H0,Hf,s,sl,k⟩=>k _ H Hf (Grow.refl s) rfl
theorem ba0(i:Nat) (hN:X.N[i]? = some x:=by rfl) (hv:Vis X.env.scope x:=by first|exact Or.inl rfl|exact Or.inr (Or.inl rfl)|exact Or.inr (Or.inr rfl)) (hd:(x==("__debug__" : Str))=false:=by decide)
  (hcd:(x==("__classdict__" : Str))=false:=by decide):JE X (.Name x pos) (A1 i):=fun ρ d h=>by
 refine A9 (J4 hN hv hd hcd) fun σ H Q ⟨H0,Hf,s,sl,k⟩=>?_
 unfold A1 at h
 split at h
 ·rename_i d' e
  cases h
  obtain⟨v,h1,h2⟩:=sl.is i _ e
  exact⟨v,h1,k v H Hf (Grow.refl s) h2⟩
 ·cases h
theorem aZ1(i:Nat) (hN:X.N[i]? = some x:=by rfl) (hv:Vis X.env.scope x:=by first|exact Or.inl rfl|exact Or.inr (Or.inl rfl)|exact Or.inr (Or.inr rfl)) (hd:(x==("__debug__" : Str))=false:=by decide)
  (hcd:(x==("__classdict__" : Str))=false:=by decide):JQ X (.Name x pos) (B1 i):=fun ρ t ds h=>by
 refine A9 (J4 hN hv hd hcd) fun σ H Q ⟨H0,Hf,s,sl,k⟩=>?_
 unfold B1 at h
 split at h
 ·rename_i d' e
  cases h
  obtain⟨v,h1,a,vs,rfl,h2,h3,h4,h5⟩:=sl.is i _ e
  exact⟨_,h1,k _ H Hf (Grow.refl s) ⟨a,vs,rfl,SqL.of h2,h5⟩⟩
 ·rename_i d' e
  cases h
  obtain⟨v,h1,a,vs,rfl,h2,h3⟩:=sl.is i _ e
  exact⟨_,h1,k _ H Hf (Grow.refl s) ⟨a,vs,rfl,C9 s h2,h3⟩⟩
 ·rename_i d' e
  cases h
  obtain⟨v,h1,a,vs,rfl,h2,h3⟩:=sl.is i _ e
  exact⟨_,h1,k _ H Hf (Grow.refl s) ⟨a,vs,rfl,B4 s h2,h3⟩⟩
 ·cases h
theorem Rep.seq{K:PySem.W.Frag}{H Hf:Hp}{d:D}{v:V}{t:Bool}{ds:List D}(h:Rep K Hf d v) (s:B5 Hf H) (e:an3 d=some (t,ds)):RQ K t ds v H Hf:=by
 cases d with
 | list xs=>cases e;obtain⟨a,vs,e1,e2,e3⟩:=h;exact⟨a,vs,e1,C9 s e2,e3⟩
 | tuple xs=>cases e;obtain⟨a,vs,e1,e2,e3⟩:=h;exact⟨a,vs,e1,B4 s e2,e3⟩
 | _=>cases e
noncomputable def qE(f:DE):Rho->Option (Bool×List D):=fun ρ=>(f ρ).bind an3
theorem aZ3(h:JE X e f):JQ X e (qE f):=fun ρ t ds q=>by
 obtain⟨d,h1,h2⟩:=xbm q
 exact A9 (h ρ d h1) fun σ H Q ⟨H0,Hf,s,sl,k⟩=>⟨H0,Hf,s,sl,fun v H' Hf' g r=>k v H' Hf' g (r.seq g.sub h2)⟩
noncomputable def A2:Rho->Option (List D):=fun _=>some []
noncomputable def A0(f:DE) (g:Rho->Option (List D)):Rho->Option (List D):=fun ρ=>(f ρ).bind fun d=>(g ρ).map fun ds=>d::ds
theorem bb3:JA X [] A2:=⟨fun ρ ds h=>by cases h;rfl,fun ρ ds h pos pins s σ H Q I ⟨H0,Hf,ss,sl,k⟩=>by
 cases h
 exact E3 pos pins s σ H Q I (k [] H Hf (Grow.refl ss) rfl)⟩
theorem aF6(h:JE X e f) (r:JA X es g) (hs:starEach (e::es) X.env=(false,eval e X.env)::starEach es X.env:=by rfl):JA X (e::es) (A0 f g):=by
 refine⟨fun ρ ds q=>?_,fun ρ ds q=>?_⟩
 ·obtain⟨d,h1,h2⟩:=xbm q
  obtain⟨es',h3,h4⟩:=Option.map_eq_some_iff.mp h2
  subst h4
  simp[r.len ρ es' h3]
 ·obtain⟨d,h1,h2⟩:=xbm q
  obtain⟨es',h3,h4⟩:=Option.map_eq_some_iff.mp h2
  subst h4
  intro pos pins s σ H Q I ⟨H0,Hf,ss,sl,k⟩
  refine C0 (h ρ d h1) (r.run ρ es' h3) hs pos pins s σ H Q I ⟨H0,Hf,ss,sl,fun v H1 Hf1 g1 r1=>⟨H0,Hf1,g1.sub,sl.grow g1,fun vs H2 Hf2 g2 r2=>?_⟩⟩
  exact k (v::vs) H2 Hf2 (g1.trans g2) ⟨v,vs,rfl,r1.mono g2.ext,r2⟩
noncomputable def D8(f:Rho->Option (List D)):DE:=fun ρ=>(f ρ).map PyData.tuple
theorem ba2(h:JA X es f) (hn:es.length<=1000:=by decide):JE X (.Tuple es k pos) (D8 f):=fun ρ d q=>by
 obtain⟨ds,h1,h2⟩:=Option.map_eq_some_iff.mp q
 subst h2
 refine A9 (bF1 fun pos pins s σ H Q I t=>h.run ρ ds h1 pos pins s σ H Q I t) fun σ H Q ⟨H0,Hf,s,sl,k⟩=>?_
 refine⟨H0,Hf,s,sl,fun vs H1 Hf1 g r=>⟨?_,fun p hp=>?_⟩⟩
 ·rw[r.length,h.len ρ ds h1];exact Nat.le_of_lt (Z9 hn)
 ·exact k _ _ _ (g.trans (Grow.laid g.sub hp)) ⟨p,vs,rfl,SqT.of A6,r.mono (Grow.laid (o:=.tup vs) g.sub hp).ext⟩
theorem aZ4(h:JA X es f) (hn:es.length<=1000:=by decide):JN X (.List es pos) f:=fun ρ ds h1=>by
 refine A9 (bF7 fun pos pins s σ H Q I t=>h.run ρ ds h1 pos pins s σ H Q I t) fun σ H Q ⟨H0,Hf,s,sl,k⟩=>?_
 refine⟨H0,Hf,s,sl,fun vs H1 Hf1 g r=>⟨?_,fun p hp=>?_⟩⟩
 ·rw[r.length,h.len ρ ds h1];exact Nat.le_of_lt (Z9 hn)
 ·exact k _ _ _ (g.trans (Grow.made g.sub hp)) ⟨p,vs,rfl,g.big.free hp,A6,g.sub.free hp,r⟩
noncomputable def G5(f:Rho->Option (List D)):DE:=fun ρ=>(f ρ).map PyData.list
theorem X7(h:JN X e f):JE X e (G5 f):=fun ρ d q=>by
 obtain⟨ds,h1,h2⟩:=Option.map_eq_some_iff.mp q
 subst h2
 refine A9 (h ρ ds h1) fun σ H Q ⟨H0,Hf,s,sl,k⟩=>⟨H0,Hf,s,sl,fun v H' Hf' g ⟨a,vs,e1,e2,e3,e4,e5⟩=>?_⟩
 subst e1
 exact k _ _ _ (g.freeze e3 e4 e2) ⟨a,vs,rfl,SqL.of A6,e5.mono (B9 e4)⟩
theorem aZ2(h:JN X e f):JQ X e (fun ρ=>(f ρ).map fun ds=>(false,ds)):=fun ρ t ds q=>by
 obtain⟨ds',h1,h2⟩:=Option.map_eq_some_iff.mp q
 cases h2
 refine A9 (h ρ ds h1) fun σ H Q ⟨H0,Hf,s,sl,k⟩=>⟨H0,Hf,s,sl,fun v H' Hf' g ⟨a,vs,e1,e2,e3,e4,e5⟩=>?_⟩
 subst e1
 exact k _ _ _ g ⟨a,vs,rfl,SqL.of e3,e5⟩
noncomputable def OpD(X:Cx) (F:Value->Value->Sem Value) (h:D->D->Option D):Prop:=∀x y z,h x y=some z ->
 OpR X F fun vx vy H Q=>∃Hf,B5 Hf H/\Rep X.K Hf x vx/\Rep X.K Hf y vy/\∀v H' Hf',Grow H Hf H' Hf'->Rep X.K Hf' z v->Q v H'
noncomputable def A4(h:D->D->Option D) (f g:DE):DE:=fun ρ=>(f ρ).bind fun x=>(g ρ).bind fun y=>h x y
theorem N9(o:OpD X (binaryOp op) h) (ha:JE X a f) (hb:JE X b g):JE X (.BinOp a op b pos) (A4 h f g):=fun ρ d q=>by
 obtain⟨x,h1,q⟩:=xbm q
 obtain⟨y,h2,h3⟩:=xbm q
 refine A9 (aV3 (o x y d h3) (ha ρ x h1) (hb ρ y h2)) fun σ H Q ⟨H0,Hf,s,sl,k⟩=>?_
 refine⟨H0,Hf,s,sl,fun v H1 Hf1 g1 r1=>⟨H0,Hf1,g1.sub,sl.grow g1,fun u H2 Hf2 g2 r2=>?_⟩⟩
 exact⟨Hf2,g2.sub,r1.mono g2.ext,r2,fun w H3 Hf3 g3 r3=>k w H3 Hf3 ((g1.trans g2).trans g3) r3⟩
theorem ba9(o:OpD X (compareOp op) h) (ha:JE X a f) (hb:JE X b g) (hm:behindInMarks op b=false:=by first|exact aW5 _|rfl):JE X (.Compare a [op] [b] pos) (A4 h f g):=fun ρ d q=>by
 obtain⟨x,h1,q⟩:=xbm q
 obtain⟨y,h2,h3⟩:=xbm q
 refine A9 (bn1 (o x y d h3) (ha ρ x h1) (hb ρ y h2) hm) fun σ H Q ⟨H0,Hf,s,sl,k⟩=>?_
 refine⟨H0,Hf,s,sl,fun v H1 Hf1 g1 r1=>⟨H0,Hf1,g1.sub,sl.grow g1,fun u H2 Hf2 g2 r2=>?_⟩⟩
 exact⟨Hf2,g2.sub,r1.mono g2.ext,r2,fun w H3 Hf3 g3 r3=>k w H3 Hf3 ((g1.trans g2).trans g3) r3⟩
theorem OpR.imp(h:OpR X F r) (i:∀x y H Q,r' x y H Q->r x y H Q):OpR X F r':=fun pins s σ H x y v u Q I rx ry q=>h pins s σ H x y v u Q I rx ry (i x y H Q q)
end
end G
namespace G
open PySem PySem.Spec PyProof.Rows L2
section
variable {X:Cx}
noncomputable def C8(i:Int):Prop:=i.natAbs < 2 ^ 8000
instance:DecidablePred C8:=fun i=>inferInstanceAs (Decidable (i.natAbs < 2 ^ 8000))
theorem C8.log(h:C8 i) (h0:i.natAbs≠0):i.natAbs.log2 < 8000:=(Nat.log2_lt h0).mpr h
theorem C8.bits(h:C8 i):Builtin.Int.intBits i<=2 ^ 20:=by
 unfold Builtin.Int.intBits
 split
 ·exact Nat.zero_le _
 ·rename_i h0
  have:=h.log (by simpa using h0)
  grind
theorem bn7:OpR X (binaryOp .Mult) (rI (fun i j=>C8 i/\C8 j) fun i j=>.int (i*j)):=opI fun _ _ _ _ _ _ _ hc q=>mul_int q (PySem.IntMulOk.of_bits hc.1.bits hc.2.bits)
noncomputable def ca4(x y:D):Option D:=match x,y with
 | .int i,.int j=>some (.int (i+j))
 | _,_=>none
noncomputable def am6(x y:D):Option D:=match x,y with
 | .int i,.int j=>some (.int (i - j))
 | .int i,.bool b=>some (.int (i - if b=true then 1 else 0))
 | .bool a,.int j=>some (.int ((if a=true then 1 else 0) - j))
 | _,_=>none
noncomputable def bH3(x y:D):Option D:=match x,y with
 | .int i,.int j=>if C8 i/\C8 j then some (.int (i*j)) else none
 | _,_=>none
noncomputable def W0(x y:D):Option D:=match x,y with
 | .int i,.int j=>if 0 < j/\C8 j then some (.int (i / j)) else none
 | _,_=>none
noncomputable def N1(x y:D):Option D:=match x,y with
 | .int i,.int j=>if 0 < j then some (.int (i % j)) else none
 | _,_=>none
theorem cc7:OpD X (binaryOp .Add) ca4:=fun x y z h=>by
 unfold ca4 at h
 split at h
 ·cases h
  exact OpR.imp av8 fun vx vy H Q ⟨Hf,s,r1,r2,k⟩=>⟨_,_,r1,r2,k _ H Hf (Grow.refl s) rfl⟩
 ·cases h
theorem bG3:OpD X (binaryOp .Sub) am6:=fun x y z h=>by
 unfold am6 at h
 split at h
 ·cases h
  exact OpR.imp bF9 fun vx vy H Q ⟨Hf,s,r1,r2,k⟩=>⟨_,_,r1,r2,k _ H Hf (Grow.refl s) rfl⟩
 ·cases h
  intro pins s σ H vx vy v u Q I rx ry ⟨Hf,ss,r1,r2,k⟩
  cases r1;cases r2
  obtain⟨t,rfl⟩:=rx
  obtain rfl:u=Value.bool _:=ry
  exact PySem.IntBool.sub_int_bool ⟨.int _,H,I.tok _,⟨_,rfl⟩,k _ H Hf (Grow.refl ss) rfl⟩
 ·cases h
  intro pins s σ H vx vy v u Q I rx ry ⟨Hf,ss,r1,r2,k⟩
  cases r1;cases r2
  obtain⟨t,rfl⟩:=ry
  obtain rfl:v=Value.bool _:=rx
  exact PySem.IntBool.sub_bool_int ⟨.int _,H,I.tok _,⟨_,rfl⟩,k _ H Hf (Grow.refl ss) rfl⟩
 ·cases h
theorem bG4:OpD X (binaryOp .Mult) bH3:=fun x y z h=>by
 unfold bH3 at h
 split at h
 ·split at h
  ·rename_i c
   cases h
   exact OpR.imp bn7 fun vx vy H Q ⟨Hf,s,r1,r2,k⟩=>⟨_,_,r1,r2,c,k _ H Hf (Grow.refl s) rfl⟩
  ·cases h
 ·cases h
theorem aL5:OpR X (binaryOp .FloorDiv) (rI (fun _ j=>0 < j/\C8 j) fun i j=>.int (i / j)):=opI fun i j _ _ s Q E hc q=>by
 have e:i.fdiv j=i / j:=Int.fdiv_eq_ediv_of_nonneg i (Int.le_of_lt hc.1)
 refine floordiv_int (by grind) (by rw[e];exact q) (.inl (PyProof.noPylong_of_log2 ?_))
 have h2:=hc.2.log (by grind)
 grind
theorem bG7:OpD X (binaryOp .FloorDiv) W0:=fun x y z h=>by
 unfold W0 at h
 split at h
 ·split at h
  ·rename_i c
   cases h
   exact OpR.imp aL5 fun vx vy H Q ⟨Hf,s,r1,r2,k⟩=>⟨_,_,r1,r2,c,k _ H Hf (Grow.refl s) rfl⟩
  ·cases h
 ·cases h
theorem bG5:OpD X (binaryOp .Mod) N1:=fun x y z h=>by
 unfold N1 at h
 split at h
 ·split at h
  ·rename_i c
   cases h
   exact OpR.imp bG0 fun vx vy H Q ⟨Hf,s,r1,r2,k⟩=>⟨_,_,r1,r2,c,k _ H Hf (Grow.refl s) rfl⟩
  ·cases h
 ·cases h
theorem aW0:OpR X (binaryOp .Add) (fun x y H Q=>∃a b ys,x=.ref a/\y=.ref b/\SqT X.K H a []/\SqT X.K H b ys/\Q (.ref b) H):=by
 intro pins s σ H x y v u Q I rx ry h
 obtain⟨a,b,ys,rfl,rfl,ha,hb,q⟩:=h
 cases rx
 cases ry
 obtain⟨its,r1,p1,_⟩:=I.tuple ha
 obtain⟨its2,r2,p2,_⟩:=I.tuple hb
 cases r1
 obtain⟨⟨cls,dd,data,sl⟩,ho,hc,n,hd⟩:=id p1
 obtain⟨⟨cls2,dd2,data2,sl2⟩,ho2,hc2,n2,hd2⟩:=id p2
 simp only at hc hd hc2 hd2
 subst hc hd hc2 hd2
 exact concat_meets ⟨_,ho,rfl⟩ ⟨_,ho2,rfl⟩ noFill_tuple_add seq_tuple_add PySem.F.slot_tuple_add PySem.F.entry_tuple_add (PySem.F.args_tuple_add_2 _ _)
   (tuple_addW0 a b _ its2.toArray n n2 dd dd2 sl sl2 (by rfl)) ⟨ho,ho2,⟨.ref b,H,I,rfl,q⟩⟩
noncomputable def P3(x y:D):Option D:=match x,y with
 | .tuple xs,.tuple ys=>if xs.length+ys.length<=16777216 then some (.tuple (xs++ys)) else none
 | .str a,.str b=>if a.length+b.length<=16777216 then some (.str (a++b)) else none
 | .int i,.int j=>some (.int (i+j))
 | .bool a,.int j=>some (.int ((if a=true then 1 else 0)+j))
 | _,_=>none
theorem aW4:OpD X (binaryOp .Add) P3:=fun x y z h=>by
 unfold P3 at h
 split at h
 ·split at h
  ·rename_i xs ys c
   cases h
   cases xs with
   | nil =>
    refine OpR.imp aW0 fun vx vy H Q ⟨Hf,s,r1,r2,k⟩=>?_
    obtain⟨a,vs,rfl,h2,h3⟩:=r1
    obtain⟨b,us,rfl,h5,h6⟩:=r2
    cases h3
    exact⟨a,b,us,rfl,rfl,B4 s h2,B4 s h5,k _ H Hf (Grow.refl s) ⟨b,us,rfl,h5,h6⟩⟩
   | cons d0 ds0 =>
    refine OpR.imp bn8 fun vx vy H Q ⟨Hf,s,r1,r2,k⟩=>?_
    obtain⟨a,vs,rfl,h2,h3⟩:=r1
    obtain⟨b,us,rfl,h5,h6⟩:=r2
    have l1:=h3.length
    have l2:=h6.length
    refine⟨a,b,vs,us,rfl,rfl,B4 s h2,B4 s h5,?_,by rw[sizeLine_eq];grind,fun e=>?_,fun e p hp=>?_⟩
    ·intro e;subst e;simp at l1
    ·subst e
     have:ys=[]:=by cases ys<;>simp_all
     subst this
     exact k _ H Hf (Grow.refl s) ⟨a,vs,rfl,h2,by rw[List.append_nil];exact h3⟩
    ·exact k _ _ _ (Grow.laid s hp) ⟨p,vs++us,rfl,SqT.of A6,(h3.append h6).mono (B9 (s.free hp))⟩
  ·cases h
 ·split at h
  ·rename_i c
   cases h
   exact OpR.imp av7 fun vx vy H Q ⟨Hf,s,r1,r2,k⟩=>⟨_,_,r1,r2,by rw[sizeLine_eq];exact c,k _ H Hf (Grow.refl s) rfl⟩
  ·cases h
 ·cases h
  exact OpR.imp av8 fun vx vy H Q ⟨Hf,s,r1,r2,k⟩=>⟨_,_,r1,r2,k _ H Hf (Grow.refl s) rfl⟩
 ·cases h
  intro pins s σ H vx vy v u Q I rx ry ⟨Hf,ss,r1,r2,k⟩
  cases r1;cases r2
  obtain⟨t,rfl⟩:=ry
  obtain rfl:v=Value.bool _:=rx
  exact PySem.IntBool.add_bool_int ⟨.int _,H,I.tok _,⟨_,rfl⟩,k _ H Hf (Grow.refl ss) rfl⟩
 ·cases h
noncomputable def ltI(x y:D):Option D:=match x,y with
 | .int i,.int j=>some (.bool (decide (i < j)))
 | _,_=>none
noncomputable def leI(x y:D):Option D:=match x,y with
 | .int i,.int j=>some (.bool (decide (i<=j)))
 | _,_=>none
noncomputable def gtI(x y:D):Option D:=match x,y with
 | .int i,.int j=>some (.bool (decide (j < i)))
 | _,_=>none
noncomputable def geI(x y:D):Option D:=match x,y with
 | .int i,.int j=>some (.bool (decide (j<=i)))
 | _,_=>none
theorem bV1:OpD X (compareOp .Lt) ltI:=fun x y z h=>by
 unfold ltI at h
 split at h
 ·cases h
  exact OpR.imp bU4 fun vx vy H Q ⟨Hf,s,r1,r2,k⟩=>⟨_,_,r1,r2,k _ H Hf (Grow.refl s) rfl⟩
 ·cases h
theorem bV2:OpD X (compareOp .LtE) leI:=fun x y z h=>by
 unfold leI at h
 split at h
 ·cases h
  exact OpR.imp bU5 fun vx vy H Q ⟨Hf,s,r1,r2,k⟩=>⟨_,_,r1,r2,k _ H Hf (Grow.refl s) rfl⟩
 ·cases h
theorem bV5:OpD X (compareOp .Gt) gtI:=fun x y z h=>by
 unfold gtI at h
 split at h
 ·cases h
  exact OpR.imp bU6 fun vx vy H Q ⟨Hf,s,r1,r2,k⟩=>⟨_,_,r1,r2,k _ H Hf (Grow.refl s) rfl⟩
 ·cases h
theorem bV6:OpD X (compareOp .GtE) geI:=fun x y z h=>by
 unfold geI at h
 split at h
 ·cases h
  exact OpR.imp bU7 fun vx vy H Q ⟨Hf,s,r1,r2,k⟩=>⟨_,_,r1,r2,k _ H Hf (Grow.refl s) rfl⟩
 ·cases h
mutual
theorem Rep.reads(I:Inv X pins σ H s):∀{d:D}{v:V}{u:Value},Rep X.K H d v->D2 v u->∃as,Reads s.heap u d as
 | .none,_,_,h,r=>by cases h;cases r;exact⟨_,.none⟩
 | .bool b,_,_,h,r=>by cases h;cases r;exact⟨_,.bool b⟩
 | .int i,_,_,h,r=>by cases h;obtain⟨t,rfl⟩:=r;exact⟨_,.int i t⟩
 | .str x,_,_,h,r=>by cases h;obtain⟨t,rfl⟩:=r;exact⟨_,.str x t⟩
 | .tuple ds,_,_,⟨a,vs,h1,h2,h3⟩,r=>by
  subst h1;cases r
  obtain⟨its,rv,⟨o,ho,hc,n,hd⟩,_⟩:=I.tuple h2
  obtain⟨as,q⟩:=Reps.reads I h3 rv
  exact⟨_,.tuple ho hc hd (by simpa using q)⟩
 | .list ds,_,_,⟨a,vs,h1,h2,h3⟩,r=>by
  subst h1;cases r
  obtain⟨its,rv,pl,_⟩:=I.list h2
  obtain⟨o,ho,hc,n,hd⟩:=pl.isList
  obtain⟨as,q⟩:=Reps.reads I h3 rv
  exact⟨_,.list ho hc hd (by simpa using q)⟩
 | .dict kvs,_,_,⟨a,m,h1,h2,h3⟩,r=>by
  subst h1;cases r
  obtain⟨_,_,vs,rk,o,es,ep,ho,hx,hd,_,hp,_⟩:=(show E6 X.prog X.w H s.heap a (.dK m) from I.hok a _ h2)
  obtain⟨as,bs,q1,q2⟩:=RepKs.reads I h3 rk hp
  exact⟨_,.dict ho hx.1 hd q1 q2⟩
theorem RepKs.reads(I:Inv X pins σ H s):∀{kvs:List (D×D)}{m:List (Key×V)}{vs:List (Key×Value)}{es:List DictEntry},RepKs X.K H kvs m->KV m vs->Pairs (o8 X.prog X.w) es vs ->
  ∃as bs,ReadsAll s.heap (es.map (·.key)) (kvs.map (·.1)) as/\ReadsAll s.heap (es.map (·.val)) (kvs.map (·.2)) bs
 | [],_,_,_,h,r,p=>by cases h;cases r;cases p;exact⟨_,_,.nil,.nil⟩
 | (k,d)::kvs,_,_,_,⟨x,v,t,h1,h2,h3,h4⟩,r,p=>by
  subst h1 h2
  cases r with
  | @cons _ b _ bs r1 r2 =>
   cases p with
   | @cons e kv es _ p1 p2 p3 =>
    obtain⟨as,cs,q1,q2⟩:=RepKs.reads I h4 r2 p3
    obtain⟨r1,r3⟩:=r1
    rw[← p2]at r3
    obtain⟨ds,q3⟩:=Rep.reads I h3 r3
    rw[← r1]at p1
    have hk:∃t,e.key=.str x t:=Value.isStrOf_shape (x:=x) (v:=e.key) p1
    obtain⟨t,hk⟩:=hk
    refine⟨_,_,.cons (as:=[]) ?_ q1,.cons q3 q2⟩
    show Reads s.heap e.key (.str x) []
    rw[hk];exact .str x t
theorem Reps.reads(I:Inv X pins σ H s):∀{ds:List D}{vs:List V}{us:List Value},Reps X.K H ds vs->B3 vs us->∃as,ReadsAll s.heap us ds as
 | [],_,_,h,r=>by cases h;cases r;exact⟨_,.nil⟩
 | d::ds,_,_,⟨v,vr,h1,h2,h3⟩,r=>by
  subst h1
  cases r with
  | cons r1 r2 =>
   obtain⟨as,q1⟩:=Rep.reads I h2 r1
   obtain⟨bs,q2⟩:=Reps.reads I h3 r2
   exact⟨_,.cons q1 q2⟩
end
noncomputable def eqD(x y:D):Option D:=if SeqAt.shaped x=true/\SeqAt.shaped y=true then some (.bool (PyData.eqv x y)) else none
noncomputable def neD(x y:D):Option D:=if SeqAt.shaped x=true/\SeqAt.shaped y=true then some (.bool (!PyData.eqv x y)) else none
theorem bV7(hu:X.A.units+64 < cLine):OpD X (compareOp .Eq) eqD:=fun x y z h=>by
 unfold eqD at h
 split at h
 ·rename_i c
  cases h
  intro pins s σ H vx vy v u Q I rx ry ⟨Hf,ss,r1,r2,k⟩
  obtain⟨as,q1⟩:=Rep.reads I (r1.mono ss) rx
  obtain⟨bs,q2⟩:=Rep.reads I (r2.mono ss) ry
  exact eq_dataH q1 q2 c.1 c.2 hu ⟨.bl _,H,I,rfl,k _ H Hf (Grow.refl ss) rfl⟩
 ·cases h
theorem bV0(hu:X.A.units+64 < cLine):OpD X (compareOp .NotEq) neD:=fun x y z h=>by
 unfold neD at h
 split at h
 ·rename_i c
  cases h
  intro pins s σ H vx vy v u Q I rx ry ⟨Hf,ss,r1,r2,k⟩
  obtain⟨as,q1⟩:=Rep.reads I (r1.mono ss) rx
  obtain⟨bs,q2⟩:=Rep.reads I (r2.mono ss) ry
  exact ne_dataH q1 q2 c.1 c.2 hu ⟨.bl _,H,I,rfl,k _ H Hf (Grow.refl ss) rfl⟩
 ·cases h
noncomputable def isN(x y:D):Option D:=match x,y with
 | .none,.none=>some (.bool true)
 | .dict _,_=>none
 | _,.none=>some (.bool false)
 | _,_=>none
theorem aC0{K:PySem.W.Frag}{H:Hp}{d:D}{v:V}(h:Rep K H d v):(decide (v=.non))=(match d with | .none=>true|_=>false):=by
 cases d with
 | none=>cases h;rfl
 | bool b=>cases h;rfl
 | int b=>cases h;rfl
 | str b=>cases h;rfl
 | tuple ds=>obtain⟨a,vs,rfl,_⟩:=h;rfl
 | list ds=>obtain⟨a,vs,rfl,_⟩:=h;rfl
 | dict ds=>obtain⟨a,m,rfl,_⟩:=h;rfl
theorem bG6:OpD X (compareOp .Is) isN:=fun x y z h=>by
 refine OpR.imp bG1 fun vx vy H Q ⟨Hf,s,r1,r2,k⟩=>?_
 have e:=aC0 r1
 cases y<;>cases x<;>simp only[isN,Option.some.injEq,reduceCtorEq]at h <;>
  (subst h;simp only at e;rw[e];exact⟨r2,k _ H Hf (Grow.refl s) rfl⟩)
noncomputable def bG8(x y:D):Option D:=match x,y with
 | .none,.none=>some (.bool false)
 | .dict _,_=>none
 | _,.none=>some (.bool true)
 | _,_=>none
theorem bo4:OpD X (compareOp .IsNot) bG8:=fun x y z h=>by
 refine OpR.imp bn6 fun vx vy H Q ⟨Hf,s,r1,r2,k⟩=>?_
 have e:=aC0 r1
 cases y<;>cases x<;>simp only[bG8,Option.some.injEq,reduceCtorEq]at h <;>
  (subst h;simp only at e;rw[e];exact⟨r2,k _ H Hf (Grow.refl s) rfl⟩)
noncomputable def S5(h1 h2:D->D->Option D) (f g k:DE):DE:=fun ρ=>(f ρ).bind fun x=>(g ρ).bind fun y=>(h1 x y).bind fun z=>match z with
 | .bool true=>(k ρ).bind fun w=>h2 y w
 | .bool false=>some (.bool false)
 | _=>none
theorem bb0(o1:OpD X (compareOp op) h1) (o2:OpD X (compareOp op') h2) (ha:JE X a f) (hb:JE X b g) (hc:JE X c k)
  (hm:lastMarks [op,op'] [b,c]=false:=by with_unfolding_all rfl):JE X (.Compare a [op,op'] [b,c] pos) (S5 h1 h2 f g k):=fun ρ d q=>by
 obtain⟨x,e1,q⟩:=xbm q
 obtain⟨y,e2,q⟩:=xbm q
 obtain⟨z,e3,q⟩:=xbm q
 split at q
 ·obtain⟨w,e4,e5⟩:=xbm q
  refine A9 (ao2 (o1 x y _ e3) (o2 y w d e5) (ha ρ x e1) (hb ρ y e2) (hc ρ w e4) hm) fun σ H Q ⟨H0,Hf,s,sl,kk⟩=>?_
  refine⟨H0,Hf,s,sl,fun v H1 Hf1 g1 r1=>⟨H0,Hf1,g1.sub,sl.grow g1,fun u H2 Hf2 g2 r2=>⟨Hf2,g2.sub,r1.mono g2.ext,r2,fun z' H3 Hf3 g3 r3=>?_⟩⟩⟩
  refine⟨true,r3,aa5 ⟨H0,Hf3,g3.sub,sl.grow ((g1.trans g2).trans g3),fun w' H4 Hf4 g4 r4=>⟨Hf4,g4.sub,r2.mono (g3.trans g4).ext,r4,fun z2 H5 Hf5 g5 r5=>?_⟩⟩⟩
  exact kk z2 H5 Hf5 ((((g1.trans g2).trans g3).trans g4).trans g5) r5
 ·cases q
  intro pins s σ H Q I ⟨H0,Hf,ss,sl,kk⟩
  refine ao2 (tc:=fun _ _ _=>False) (r':=fun _ _ _ _=>False) (o1 x y _ e3) (fun _ _ _ _ _ _ _ _ _ _ _ _ h=>h.elim) (ha ρ x e1) (hb ρ y e2) (fun _ _ _ _ _ _ h=>h.elim) hm pins s σ H Q I ?_
  refine⟨H0,Hf,ss,sl,fun v H1 Hf1 g1 r1=>⟨H0,Hf1,g1.sub,sl.grow g1,fun u H2 Hf2 g2 r2=>⟨Hf2,g2.sub,r1.mono g2.ext,r2,fun z' H3 Hf3 g3 r3=>?_⟩⟩⟩
  exact⟨false,r3,aa6 (kk _ H3 Hf3 ((g1.trans g2).trans g3) rfl)⟩
 ·cases q
theorem bL4(h:JE X a f):JE X (.BoolOp op [a] pos) f:=fun ρ d q=>bF4 (h ρ d q)
noncomputable def aO5(f g:DE):DE:=fun ρ=>(f ρ).bind fun x=>match x with
 | .bool true=>g ρ
 | .bool false=>some (.bool false)
 | _=>none
noncomputable def dOr(f g:DE):DE:=fun ρ=>(f ρ).bind fun x=>match x with
 | .bool true=>some (.bool true)
 | .bool false=>g ρ
 | .none=>g ρ
 | .tuple (y::r)=>some (.tuple (y::r))
 | _=>none
theorem aV2{a b:Expr}{D7:List Expr}{pos:Pos}{ta tb:TE}(ha:PE X a ta) (hb:PE X (.BoolOp .Or (b::D7) pos) tb):PE X (.BoolOp .Or (a::b::D7) pos) (fun σ H Q=>ta σ H fun x H1=>∃k,bQ0 X.K x H1 k/\if k=true then Q x H1 else tb σ H1 Q):=by
 intro pins s σ H Q I h
 refine BoolOp_or (thn (ha pins s σ H _ I h) fun v s1 ⟨x,H1,I1,r1,k,tk,q1⟩=>?_)
 refine thn (aQ8 pins s1 σ H1 x v (fun c H2=>c=k/\H2=H1) I1 r1 ⟨k,tk,rfl,rfl⟩) fun c s2 ⟨H2,I2,e1,e2⟩=>?_
 subst e1 e2
 cases c with
 | false=>exact hb pins s2 σ _ Q I2 q1
 | true=>exact⟨x,_,I2,r1,q1⟩
noncomputable def be6(f:DE):DE:=fun ρ=>(f ρ).bind fun x=>match x with
 | .bool c=>some (.bool (!c))
 | _=>none
theorem bM0{a b:Expr}{D7:List Expr}{f g:DE}{pos:Pos}(ha:JE X a f) (hb:JE X (.BoolOp .And (b::D7) pos) g):JE X (.BoolOp .And (a::b::D7) pos) (aO5 f g):=fun ρ d q=>by
 obtain⟨x,e1,q⟩:=xbm q
 split at q
 ·refine A9 (aV8 (ha ρ _ e1) (hb ρ d q)) fun σ H Q ⟨H0,Hf,s,sl,k⟩=>⟨H0,Hf,s,sl,fun v H1 Hf1 g1 r1=>⟨true,r1,aa5 ⟨H0,Hf1,g1.sub,sl.grow g1,fun u H2 Hf2 g2 r2=>k u H2 Hf2 (g1.trans g2) r2⟩⟩⟩
 ·cases q
  refine A9 (aV8 (tb:=fun _ _ _=>False) (ha ρ _ e1) (fun _ _ _ _ _ _ h=>h.elim)) fun σ H Q ⟨H0,Hf,s,sl,k⟩=>⟨H0,Hf,s,sl,fun v H1 Hf1 g1 r1=>⟨false,r1,aa6 (k _ H1 Hf1 g1 rfl)⟩⟩
 ·cases q
theorem bX7{a b:Expr}{D7:List Expr}{f g:DE}{pos:Pos}(ha:JE X a f) (hb:JE X (.BoolOp .Or (b::D7) pos) g):JE X (.BoolOp .Or (a::b::D7) pos) (dOr f g):=fun ρ d q=>by
 obtain⟨x,e1,q⟩:=xbm q
 split at q
 ·cases q
  refine A9 (bw9 (tb:=fun _ _ _=>False) (ha ρ _ e1) (fun _ _ _ _ _ _ h=>h.elim)) fun σ H Q ⟨H0,Hf,s,sl,k⟩=>⟨H0,Hf,s,sl,fun v H1 Hf1 g1 r1=>⟨true,r1,aa5 (k _ H1 Hf1 g1 rfl)⟩⟩
 ·refine A9 (bw9 (ha ρ _ e1) (hb ρ d q)) fun σ H Q ⟨H0,Hf,s,sl,k⟩=>⟨H0,Hf,s,sl,fun v H1 Hf1 g1 r1=>⟨false,r1,aa6 ⟨H0,Hf1,g1.sub,sl.grow g1,fun u H2 Hf2 g2 r2=>k u H2 Hf2 (g1.trans g2) r2⟩⟩⟩
 ·refine A9 (aV2 (ha ρ _ e1) (hb ρ d q)) fun σ H Q ⟨H0,Hf,s,sl,k⟩=>⟨H0,Hf,s,sl,fun v H1 Hf1 g1 r1=>?_⟩
  cases r1
  exact⟨false,rfl,aa6 ⟨H0,Hf1,g1.sub,sl.grow g1,fun u H2 Hf2 g2 r2=>k u H2 Hf2 (g1.trans g2) r2⟩⟩
 ·cases q
  refine A9 (aV2 (tb:=fun _ _ _=>False) (ha ρ _ e1) (fun _ _ _ _ _ _ h=>h.elim)) fun σ H Q ⟨H0,Hf,s,sl,k⟩=>⟨H0,Hf,s,sl,fun v H1 Hf1 g1 r1=>?_⟩
  obtain⟨p,vs,e,h2,h3⟩:=id r1
  subst e
  refine⟨true,.inr (.inl ⟨vs,B4 g1.sub h2,?_⟩),aa5 (k _ H1 Hf1 g1 r1)⟩
  obtain⟨_,_,e,_⟩:=h3
  subst e;rfl
 ·cases q
theorem ba4(ha:JE X a f):JE X (.UnaryOp .Not a pos) (be6 f):=fun ρ d q=>by
 obtain⟨x,e1,q⟩:=xbm q
 split at q
 ·cases q
  exact A9 (bF5 (ha ρ _ e1)) fun σ H Q ⟨H0,Hf,s,sl,k⟩=>⟨H0,Hf,s,sl,fun v H1 Hf1 g1 r1=>⟨_,r1,k _ H1 Hf1 g1 rfl⟩⟩
 ·cases q
noncomputable def bi7:D->Option Bool
 | .none=>some false
 | .bool b=>some b
 | .int i=>some (i != 0)
 | .str x=>if x.length<=16777216 then some ((x.length:Int) != 0) else none
 | .list ds=>some (!ds.isEmpty)
 | .tuple ds=>some (!ds.isEmpty)
 | .dict _=>none
noncomputable def W3(f:DE):Rho->Option Bool:=fun ρ=>(f ρ).bind bi7
theorem aY2(ha:JE X a f) (he:∀whole,isTrue a X.env whole=(do let v ← whole;standAt a.pos;holding [v] (truthy v)):=by intro _;rfl):JT X a (W3 f):=fun ρ c q=>by
 obtain⟨d,e1,e2⟩:=xbm q
 refine ai4 (aU0 (ha ρ d e1) he) fun σ H Q ⟨H0,Hf,s,sl,k⟩=>⟨H0,Hf,s,sl,fun v H1 Hf1 g1 r1=>⟨c,?_,k H1 Hf1 g1⟩⟩
 cases d with
 | none=>cases e2;cases r1;rfl
 | bool b=>cases e2;cases r1;rfl
 | int i=>cases e2;cases r1;rfl
 | str x =>
  simp only[bi7]at e2
  split at e2
  ·rename_i hx;cases e2;cases r1;exact⟨by rw[sizeLine_eq];exact hx,rfl⟩
  ·cases e2
 | list ds =>
  cases e2
  obtain⟨a,vs,rfl,h2,h3⟩:=r1
  refine .inl ⟨vs,C9 g1.sub h2,?_⟩
  have:=h3.length
  cases ds<;>cases vs<;>simp_all
 | tuple ds =>
  cases e2
  obtain⟨a,vs,rfl,h2,h3⟩:=r1
  refine .inr (.inl ⟨vs,B4 g1.sub h2,?_⟩)
  have:=h3.length
  cases ds<;>cases vs<;>simp_all
 | dict _=>cases e2
noncomputable def O0:D->Option Bool
 | .bool b=>some b
 | _=>none
noncomputable def tB2(h:D->D->Option D) (f g:DE):Rho->Option Bool:=fun ρ=>(A4 h f g ρ).bind O0
theorem aH9(h:O0 d=some c):d=.bool c:=by
 cases d<;>simp[O0]at h
 subst h;rfl
theorem aY4(o:OpD X (compareOp op) h) (ha:JE X a f) (hb:JE X b g) (hm:behindInMarks op b=false:=by first|exact aW5 _|rfl):JT X (.Compare a [op] [b] pos) (tB2 h f g):=fun ρ c q=>by
 obtain⟨d,q,e⟩:=xbm q
 obtain⟨x,h1,q⟩:=xbm q
 obtain⟨y,h2,h3⟩:=xbm q
 have:=aH9 e
 subst this
 refine ai4 (bm1 (o x y _ h3) (ha ρ x h1) (hb ρ y h2) hm) fun σ H Q ⟨H0,Hf,s,sl,k⟩=>?_
 refine⟨H0,Hf,s,sl,fun v H1 Hf1 g1 r1=>⟨H0,Hf1,g1.sub,sl.grow g1,fun u H2 Hf2 g2 r2=>?_⟩⟩
 exact⟨Hf2,g2.sub,r1.mono g2.ext,r2,fun w H3 Hf3 g3 r3=>⟨c,r3,k H3 Hf3 ((g1.trans g2).trans g3)⟩⟩
noncomputable def aA4(f g:Rho->Option Bool):Rho->Option Bool:=fun ρ=>(f ρ).bind fun c=>if c then g ρ else some false
noncomputable def au2(f g:Rho->Option Bool):Rho->Option Bool:=fun ρ=>(f ρ).bind fun c=>if c then some true else g ρ
noncomputable def Q7(f:Rho->Option Bool):Rho->Option Bool:=fun ρ=>(f ρ).map fun c=>!c
theorem ai3(h:PW X e t) (i:∀σ H Q,t' σ H Q->t σ H Q):PW X e t':=fun whole pins s σ H Q I q=>h whole pins s σ H Q I (i σ H Q q)
theorem ap6(h:JW X e f):JT X e f:=fun ρ c q=>(h ρ c q).pt
theorem bq1(h:JT X a f):JW X (.BoolOp .And [a] pos) f:=fun ρ c q=>bl8 (h ρ c q)
theorem bI9(h:JT X a f):JW X (.BoolOp .Or [a] pos) f:=fun ρ c q=>bE3 (h ρ c q)
theorem bJ0{a b:Expr}{D7:List Expr}{f g:Rho->Option Bool}{pos:Pos}(ha:JT X a f) (hb:JW X (.BoolOp .And (b::D7) pos) g):JW X (.BoolOp .And (a::b::D7) pos) (aA4 f g):=fun ρ c q=>by
 obtain⟨x,e1,q⟩:=xbm q
 cases x with
 | true=>exact ai3 (aT6 (ha ρ _ e1) (hb ρ c (by simpa using q))) fun σ H Q ⟨H0,Hf,s,sl,k⟩=>⟨H0,Hf,s,sl,fun H1 Hf1 g1=>aa5 ⟨H0,Hf1,g1.sub,sl.grow g1,fun H2 Hf2 g2=>k H2 Hf2 (g1.trans g2)⟩⟩
 | false =>
  have:c=false:=by simpa using q.symm
  subst this
  exact ai3 (aT6 (tB':=fun _ _ _=>False) (ha ρ _ e1) (fun _ _ _ _ _ _ _ h=>h.elim)) fun σ H Q ⟨H0,Hf,s,sl,k⟩=>⟨H0,Hf,s,sl,fun H1 Hf1 g1=>aa6 (k H1 Hf1 g1)⟩
theorem bX0{a b:Expr}{D7:List Expr}{f g:Rho->Option Bool}{pos:Pos}(ha:JT X a f) (hb:JW X (.BoolOp .Or (b::D7) pos) g):JW X (.BoolOp .Or (a::b::D7) pos) (au2 f g):=fun ρ c q=>by
 obtain⟨x,e1,q⟩:=xbm q
 cases x with
 | false=>exact ai3 (bw6 (ha ρ _ e1) (hb ρ c (by simpa using q))) fun σ H Q ⟨H0,Hf,s,sl,k⟩=>⟨H0,Hf,s,sl,fun H1 Hf1 g1=>aa6 ⟨H0,Hf1,g1.sub,sl.grow g1,fun H2 Hf2 g2=>k H2 Hf2 (g1.trans g2)⟩⟩
 | true =>
  have:c=true:=by simpa using q.symm
  subst this
  exact ai3 (bw6 (tB':=fun _ _ _=>False) (ha ρ _ e1) (fun _ _ _ _ _ _ _ h=>h.elim)) fun σ H Q ⟨H0,Hf,s,sl,k⟩=>⟨H0,Hf,s,sl,fun H1 Hf1 g1=>aa5 (k H1 Hf1 g1)⟩
theorem aY3(ha:JT X a f):JT X (.UnaryOp .Not a pos) (Q7 f):=fun ρ c q=>by
 obtain⟨x,e1,e2⟩:=Option.map_eq_some_iff.mp q
 subst e2
 exact ai4 (bE4 (ha ρ x e1)) fun σ H Q ⟨H0,Hf,s,sl,k⟩=>⟨H0,Hf,s,sl,fun H1 Hf1 g1=>k H1 Hf1 g1⟩
noncomputable def aO3(t:Rho->Option Bool) (f g:DE):DE:=fun ρ=>(t ρ).bind fun c=>if c then f ρ else g ρ
theorem bL8(hc:JT X c t) (ha:JE X a f) (hb:JE X b g):JE X (.IfExp c a b pos) (aO3 t f g):=fun ρ d q=>by
 obtain⟨x,e1,q⟩:=xbm q
 cases x with
 | true=>exact A9 (ao1 (tb:=fun _ _ _=>False) (hc ρ _ e1) (ha ρ d (by simpa using q)) (fun _ _ _ _ _ _ h=>h.elim)) fun σ H Q ⟨H0,Hf,s,sl,k⟩=>⟨H0,Hf,s,sl,fun H1 Hf1 g1=>aa5 ⟨H0,Hf1,g1.sub,sl.grow g1,fun u H2 Hf2 g2 r2=>k u H2 Hf2 (g1.trans g2) r2⟩⟩
 | false=>exact A9 (ao1 (ta:=fun _ _ _=>False) (hc ρ _ e1) (fun _ _ _ _ _ _ h=>h.elim) (hb ρ d (by simpa using q))) fun σ H Q ⟨H0,Hf,s,sl,k⟩=>⟨H0,Hf,s,sl,fun H1 Hf1 g1=>aa6 ⟨H0,Hf1,g1.sub,sl.grow g1,fun u H2 Hf2 g2 r2=>k u H2 Hf2 (g1.trans g2) r2⟩⟩
noncomputable def dIx(f:Rho->Option (Bool×List D)) (g:DE):DE:=fun ρ=>(f ρ).bind fun q=>(g ρ).bind fun i=>match i with
 | .int i=>atI q.2 i
 | _=>none
theorem bl1{K:PySem.W.Frag}{H:Hp}{ds:List D}{vs:List V}{i:Int}{d:D}(h:Reps K H ds vs) (e:atI ds i=some d):∃v,atI vs i=some v/\Rep K H d v:=by
 unfold atI at e ⊢
 rw[h.length]
 obtain⟨j,h1,h2⟩:=xbm e
 obtain⟨v,h3,h4⟩:=h.get h2
 exact⟨v,by rw[h1];exact h3,h4⟩
theorem by0{a b:Expr}{f:Rho->Option (Bool×List D)}{g:DE}{pos:Pos}(ha:JQ X a f) (hb:JE X b g) (hs:u3 b:=by intro _ _;rfl):JE X (.Subscript a b pos) (dIx f g):=fun ρ d q=>by
 obtain⟨⟨t,ds⟩,h1,q⟩:=xbm q
 obtain⟨y,h2,h3⟩:=xbm q
 split at h3
 ·refine A9 (bx0 bb4 (ha ρ t ds h1) (hb ρ _ h2) hs) fun σ H Q ⟨H0,Hf,s,sl,k⟩=>?_
  refine⟨H0,Hf,s,sl,fun v H1 Hf1 g1 ⟨p,vs,e1,e2,e3⟩=>⟨H0,Hf1,g1.sub,sl.grow g1,fun u H2 Hf2 g2 r2=>?_⟩⟩
  obtain⟨w,q1,q2⟩:=bl1 (e3.mono g2.ext) h3
  cases t with
  | true=>exact .inr (.inl ⟨p,vs,_,w,e1,r2,B4 g2.big e2,q1,k w H2 Hf2 (g1.trans g2) q2⟩)
  | false=>exact .inl ⟨p,vs,_,w,e1,r2,C9 g2.big e2,q1,k w H2 Hf2 (g1.trans g2) q2⟩
 ·cases h3
noncomputable def U3(xs:List D) (lo hi:Option Int):List D:=(xs.drop (HT.sIx xs.length 0 lo)).take (HT.sIx xs.length xs.length hi - HT.sIx xs.length 0 lo)
theorem x3{K:PySem.W.Frag}{H:Hp}{ds:List D}{vs:List V}(h:Reps K H ds vs) (lo hi:Option Int):Reps K H (U3 ds lo hi) (as1 vs lo hi):=by
 unfold U3 as1
 rw[h.length]
 exact(h.drop _).take _
noncomputable def JO(X:Cx) (e:Option Expr) (f:Rho->Option (Option Int)):Prop:=∀ρ o,f ρ=some o->PO X e (fun σ H Q=>∃H0 Hf,B5 Hf H/\Slots X.K H0 ρ σ H Hf/\∀H' Hf',Grow H Hf H' Hf'->Q o H')
noncomputable def Q9:Rho->Option (Option Int):=fun _=>some none
noncomputable def aF8:D->Option Int
 | .int i=>some i
 | _=>none
noncomputable def Q8(f:DE):Rho->Option (Option Int):=fun ρ=>(f ρ).bind fun d=>(aF8 d).map some
theorem br4:JO X none Q9:=fun ρ o q=>by
 cases q
 intro pins s σ H Q I ⟨H0,Hf,ss,sl,k⟩
 exact bm7 pins s σ H Q I (k H Hf (Grow.refl ss))
theorem br3(h:JE X e f):JO X (some e) (Q8 f):=fun ρ o q=>by
 obtain⟨d,e1,e2⟩:=xbm q
 obtain⟨i,e3,e4⟩:=Option.map_eq_some_iff.mp e2
 subst e4
 cases d<;>simp[aF8]at e3
 subst e3
 intro pins s σ H Q I ⟨H0,Hf,ss,sl,k⟩
 exact bm6 (h ρ _ e1) pins s σ H Q I ⟨H0,Hf,ss,sl,fun v H1 Hf1 g1 r1=>⟨_,r1,k H1 Hf1 g1⟩⟩
noncomputable def ax5(f:DE) (lo hi:Rho->Option (Option Int)):DE:=fun ρ=>(f ρ).bind fun d=>(lo ρ).bind fun l=>(hi ρ).bind fun h=>match d with
 | .tuple xs=>some (.tuple (U3 xs l h))
 | _=>none
theorem U2{prog:Program}{w:World}{A:Around}{E:Value->Shared->Prop}{s:Shared}{t sl:Addr}{items:Array Value}{vl vu:Value}{lo hi:Option Int}{Q:Value->Shared->Prop}(ht:IsTup s.heap t items) (hs:s.heap.IsSliceOf sl vl vu .none) (pl:IsPart vl lo) (pu:IsPart vu hi)
  (hw:HT.sIx items.size 0 lo=0/\HT.sIx items.size items.size hi=items.size) (h:Q (.ref t) s):wpAny (model prog w) A (getItem (.ref t) (.ref sl)) Q E s:=by
 obtain⟨os,hos,hcs,hds⟩:=id hs
 have hTs:s.TypeIs (.ref sl) "slice" := ⟨os,hos,hcs⟩
 unfold getItem
 try with_reducible refine wpAny_holding ?_
 first|refine wpAny_bind (wpAny_pure ?_)|skip
 refine wpAny_bind (wpAny_sequenceKey ht.typeIs (by decide) ?_)
 refine wpAny_bind (wpAny_callSpecial?_slot (name:=Str.ofString "__getitem__") ht.typeIs PyProof.Rows.slot_tuple_getitem
  (wpAny_call_entry PyProof.Rows.slot_tuple_getitem ht.typeIs entry_tuple_getitem ?_ (args_tuple_getitem _ _)))
 show wpAny _ _ (Builtin.Tuple.tupleItemsOf (.ref t) >>= _) _ _ s
 refine wpAny_bind (tupleItemsOf_ ht ?_)
 refine wpAny_bind (wpAny_typeOf hTs ?_)
 rw[if_pos (by decide)]
 refine wpAny_bind (HT.sliceApplied_gen hs pl pu ?_)
 have hyes:((((HT.sIx items.size 0 lo:Nat):Int)==0&&(1:Int)==1&&(HT.sIx items.size items.size hi - HT.sIx items.size 0 lo)==items.size)=true):=by
  rw[hw.1,hw.2];simp
 show wpAny _ _ (if(((HT.sIx items.size 0 lo:Nat):Int)==0&&(1:Int)==1&&(HT.sIx items.size items.size hi - HT.sIx items.size 0 lo)==items.size)=true then _ else _) _ _ s
 rw[if_pos hyes]
 unfold Builtin.Tuple.tupleIsExact
 refine wpAny_bind (wpAny_bind (wpAny_typeOf ht.typeIs (wpAny_pure ?_)))
 rw[if_pos (by decide +kernel)]
 exact wpAny_bind (wpAny_rule (wpAny_pure ⟨_,rfl,wpAny_pure h⟩))
theorem ah4:SlR X (fun x lo hi H Q=>∃a xs,x=.ref a/\SqT X.K H a xs/\(HT.sIx xs.length 0 lo=0/\HT.sIx xs.length xs.length hi=xs.length)/\Q (.ref a) H):=by
 intro pins s σ H x v vl vu lo hi sl Q I rx hs pl pu h
 obtain⟨a,xs,rfl,hx,hw,q⟩:=h
 cases rx
 obtain⟨its,r,ht,hz⟩:=I.tuple hx
 have hlen:its.toArray.size=xs.length:=by rw[List.size_toArray];exact r.length.symm
 refine⟨"tuple", _,PyProof.Rows.slot_tuple_getitem.lookup,ht.typeIs,?_⟩
 exact U2 ht hs pl pu (by rw[hlen];exact hw) ⟨.ref a,H,I,rfl,q⟩
theorem ba3{a:Expr}{lo hi:Option Expr}{f:DE}{l h:Rho->Option (Option Int)}{pos p2:Pos}(ha:JE X a f) (hl:JO X lo l) (hh:JO X hi h):JE X (.Subscript a (.Slice lo hi none p2) pos) (ax5 f l h):=fun ρ d q=>by
 obtain⟨x,e1,q⟩:=xbm q
 obtain⟨y,e2,q⟩:=xbm q
 obtain⟨z,e3,q⟩:=xbm q
 cases x with
 | tuple xs =>
  cases q
  refine A9 (X0 (bD0.or ah4) (ha ρ _ e1) (hl ρ y e2) (hh ρ z e3)) fun σ H Q ⟨H0,Hf,s,sl,k⟩=>?_
  refine⟨H0,Hf,s,sl,fun v H1 Hf1 g1 ⟨p,vs,q1,q2,q3⟩=>⟨H0,Hf1,g1.sub,sl.grow g1,fun H2 Hf2 g2=>⟨H0,Hf2,g2.sub,sl.grow (g1.trans g2),fun H3 Hf3 g3=>?_⟩⟩⟩
  subst q1
  have q2':=B4 (g2.trans g3).ext q2
  have q3':=q3.mono (g2.trans g3).ext
  by_cases c:HT.sIx vs.length 0 y=0/\HT.sIx vs.length vs.length z=vs.length
  ·refine .inr ⟨p,vs,rfl,B4 g3.sub q2',c,k _ H3 Hf3 ((g1.trans g2).trans g3) ⟨p,vs,rfl,q2',?_⟩⟩
   have:U3 xs y z=xs:=by
    unfold U3
    rw[← q3.length,c.1,c.2]
    simp[q3.length]
   rw[this];exact q3'
  ·refine .inl ⟨p,vs,rfl,B4 g3.sub q2',c,fun p' hp=>?_⟩
   exact k _ _ _ (((g1.trans g2).trans g3).trans (Grow.laid g3.sub hp)) ⟨p',_,rfl,SqT.of A6,(x3 q3' y z).mono (B9 (g3.sub.free hp))⟩
 | _=>cases q
end
end G
namespace G
open PySem PySem.Spec PyProof.Rows L2
section
variable {X:Cx}
theorem bP3:bootBuiltins "len" = some (.builtin "len"):=PySem.boot_len
theorem bP5:bootBuiltins "all" = some (.builtin "all"):=by decide +kernel
theorem bg4:bootBuiltins "isinstance" = some (.builtin "isinstance"):=by decide +kernel
theorem ay5:bootBuiltins "int" = some (.type "int"):=by decide +kernel
theorem bv3:bootBuiltins "bool" = some (.type "bool"):=by decide +kernel
theorem bP0:bootBuiltins "str" = some (.type "str"):=by decide +kernel
theorem aI4:bootBuiltins "list" = some (.type "list"):=by decide +kernel
theorem as6:bootBuiltins "tuple" = some (.type "tuple"):=by decide +kernel
noncomputable def Y9(f:Rho->Option (Bool×List D)):DE:=fun ρ=>(f ρ).map fun q=>.int q.2.length
theorem ba5(hg:Gl X "len") (hm:X.mg "len" = none) (h:JQ X e f) (he:starEach [e] X.env=[(false,eval e X.env)]:=by rfl):JE X (.Call (.Name "len" p) [e] [] pos) (Y9 f):=fun ρ d q=>by
 obtain⟨⟨t,ds⟩,h1,h2⟩:=Option.map_eq_some_iff.mp q
 subst h2
 refine A9 (F4 al3 hg hm bP3 (C0 (h ρ t ds h1) E3 he) (he:=he)) fun σ H Q ⟨H0,Hf,s,sl,k⟩=>?_
 refine⟨H0,Hf,s,sl,fun v H1 Hf1 g1 ⟨a,vs,e1,e2,e3⟩=>⟨a,vs,by rw[e1],?_,?_⟩⟩
 ·cases t with
  | true=>exact .inr e2
  | false=>exact .inl e2
 ·exact k _ H1 Hf1 g1 (by rw[e3.length];rfl)
theorem ba1(hg:Gl X "tuple") (hm:X.mg "tuple" = none) (h:JQ X e f) (hz:∀ρ ds,f ρ≠some (true,ds)\/True:=by intros;exact .inr trivial) (he:starEach [e] X.env=[(false,eval e X.env)]:=by rfl) :
  JE X (.Call (.Name "tuple" p) [e] [] pos) (fun ρ=>(f ρ).bind fun q=>if q.1=true then none else some (.tuple q.2)):=fun ρ d q=>by
 obtain⟨⟨t,ds⟩,h1,h2⟩:=xbm q
 cases t with
 | true=>simp at h2
 | false =>
  simp only[Bool.false_eq_true,if_false,Option.some.injEq]at h2
  subst h2
  refine A9 (O7 ad3 hg hm as6 (C0 (h ρ false ds h1) E3 he) (he:=he)) fun σ H Q ⟨H0,Hf,s,sl,k⟩=>?_
  refine⟨H0,Hf,s,sl,fun v H1 Hf1 g1 ⟨a,vs,e1,e2,e3⟩=>⟨a,vs,by rw[e1],.inl ⟨e2,fun l hl=>?_⟩⟩⟩
  exact k _ _ _ (g1.trans (Grow.laid g1.sub hl)) ⟨l,vs,rfl,SqT.of A6,e3.mono (B9 (g1.sub.free hl))⟩
theorem br5(hg:Gl X "list") (hm:X.mg "list" = none) (h:JQ X e f) (he:starEach [e] X.env=[(false,eval e X.env)]:=by rfl):JN X (.Call (.Name "list" p) [e] [] pos) (fun ρ=>(f ρ).map fun q=>q.2):=fun ρ ds' q=>by
 obtain⟨⟨t,ds⟩,h1,h2⟩:=Option.map_eq_some_iff.mp q
 subst h2
 refine A9 (O7 al2 hg hm aI4 (C0 (h ρ t ds h1) E3 he) (he:=he)) fun σ H Q ⟨H0,Hf,s,sl,k⟩=>?_
 refine⟨H0,Hf,s,sl,fun v H1 Hf1 g1 ⟨a,vs,e1,e2,e3⟩=>⟨a,vs,by rw[e1],?_,fun l hl=>?_⟩⟩
 ·cases t with
  | true=>exact .inr e2
  | false=>exact .inl e2
 ·exact k _ _ _ (g1.trans (Grow.made g1.sub hl)) ⟨l,vs,rfl,g1.big.free hl,A6,g1.sub.free hl,e3⟩
noncomputable def bu6(f:DE):DE:=fun ρ=>(f ρ).bind fun d=>match d with
 | .int i=>some (.int i)
 | .bool b=>some (.int (if b then 1 else 0))
 | _=>none
theorem ba7(hg:Gl X "int") (hm:X.mg "int" = none) (h:JE X e f) (he:starEach [e] X.env=[(false,eval e X.env)]:=by rfl):JE X (.Call (.Name "int" p) [e] [] pos) (bu6 f):=fun ρ d q=>by
 obtain⟨x,h1,h2⟩:=xbm q
 split at h2
 ·cases h2
  exact A9 (O7 af5 hg hm ay5 (C0 (h ρ _ h1) E3 he) (he:=he)) fun σ H Q ⟨H0,Hf,s,sl,k⟩ =>
   ⟨H0,Hf,s,sl,fun v H1 Hf1 g1 r=>.inl ⟨_,by rw[show v=_ from r],k _ H1 Hf1 g1 rfl⟩⟩
 ·cases h2
  exact A9 (O7 af5 hg hm ay5 (C0 (h ρ _ h1) E3 he) (he:=he)) fun σ H Q ⟨H0,Hf,s,sl,k⟩ =>
   ⟨H0,Hf,s,sl,fun v H1 Hf1 g1 r=>.inr ⟨_,by rw[show v=_ from r],k _ H1 Hf1 g1 rfl⟩⟩
 ·cases h2
noncomputable def bP9:List D->Option Bool
 | []=>some true
 | .bool b::r=>(bP9 r).map fun c=>b&&c
 | _::_=>none
theorem as7:∀{ds:List D}{c:Bool},bP9 ds=some c->∃bs:List Bool,ds=bs.map PyData.bool/\c=bs.all id
 | [],c,h=>by cases h;exact⟨[],rfl,rfl⟩
 | .bool b::r,c,h=>by
  obtain⟨c',h1,h2⟩:=Option.map_eq_some_iff.mp h
  obtain⟨bs,h3,h4⟩:=as7 h1
  exact⟨b::bs,by simp[h3],by simp[← h2,h4]⟩
theorem x5{K:PySem.W.Frag}{H:Hp}:∀{bs:List Bool}{vs:List V},Reps K H (bs.map PyData.bool) vs->vs=bs.map V.bl
 | [],_,h=>h
 | _::_,_,⟨v,r,h1,h2,h3⟩=>by subst h1;rw[show v=_ from h2,x5 h3];rfl
theorem aP7:G6 X (.builtin "all") (fun xs H Q=>X.calm=true/\∃(p:Addr) (bs:List Bool),xs=[.ref p]/\SqL X.K H p (bs.map V.bl)/\Q (.bl (bs.all id)) H):=by
 intro pins s σ H xs us Q I r h
 obtain⟨hc,p,bs,rfl,hq,q⟩:=h
 obtain⟨u,rfl,rx⟩:=K8 r
 cases rx
 obtain⟨its,rv,pl,hz⟩:=I.list hq
 have hlen:=rv.length
 have hh:X.A.in1.handled=none:=I.ok.hd hc
 have hlt:p < s.heap.objs.size:=by obtain⟨_,e,_⟩:=pl.isList;exact Heap.lt_size e
 refine call_all_walk (wpAny_pyIter_list pl.isList ?_)
 refine⟨s.heap.objs.size,_,_,_,_,_,fun i=>(bs[i]?).getD false,rfl,Walks.list hh _ p (Nat.ne_of_lt hlt) its.toArray,⟨⟨_,Heap.get?_push_size _ rfl,rfl,rfl⟩,pl.isList.at fun o e=>Heap.get?_push_of_some _ e⟩,?_,?_⟩
 ·intro i v s' Q' E' hv hQ
  have hv':its[i]? = some v:=by simpa using hv
  have:∃b,bs[i]? = some b:=by
   have:i < its.length:=(List.getElem?_eq_some_iff.mp hv').1
   have:i < bs.length:=by simpa using (by grind:i < (bs.map V.bl).length)
   exact⟨bs[i],by simp[this]⟩
  obtain⟨b,hb⟩:=this
  obtain⟨u,hu,ru⟩:=rv.get (i:=i) (x:=.bl b) (by simp[hb])
  rw[hv']at hu;cases hu
  cases ru
  exact wpAny_truthy_bool (by simpa [hb] using hQ)
 ·intro h' tk hk
  have e:((List.range its.toArray.size).all fun i=>(bs[i]?).getD false)=bs.all id:=by
   have hn:its.toArray.size=bs.length:=by simpa using hlen.symm
   rw[hn,Bool.eq_iff_iff]
   simp only[List.all_eq_true,List.mem_range,id]
   constructor
   ·intro h x hx
    obtain⟨i,hi,rfl⟩:=List.mem_iff_getElem.mp hx
    simpa [hi] using h i hi
   ·intro h i hi
    simpa [hi] using h bs[i] (List.getElem_mem hi)
  rw[e]
  have I1:Inv X pins σ H { s with heap:=h',toks:=tk }:=by
   have I0:Inv X pins σ H { s with heap:=s.heap.push { cls:=.type "list_iterator", data:=.fields #[.ref p,rawInt 0] } }:=I.kept (t':=s.toks) fun b o e=>Heap.get?_push_of_some _ e
   refine I.kept (t':=tk) fun b o e=>hk b o ?_ (Heap.get?_push_of_some _ e)
   intro hb
   have:b=s.heap.objs.size:=by simpa using hb
   subst this
   exact absurd (Heap.lt_size e) (Nat.lt_irrefl _)
  exact⟨.bl (bs.all id),H,I1,rfl,q⟩
noncomputable def bu7(f:Rho->Option (Bool×List D)):DE:=fun ρ=>(f ρ).bind fun q=>if q.1=true then none else(bP9 q.2).map PyData.bool
theorem bM1(hg:Gl X "all") (hm:X.mg "all" = none) (h:JQ X e f) (hc:X.calm=true:=by rfl) (he:starEach [e] X.env=[(false,eval e X.env)]:=by rfl):JE X (.Call (.Name "all" p) [e] [] pos) (bu7 f):=fun ρ d q=>by
 obtain⟨⟨t,ds⟩,h1,h2⟩:=xbm q
 cases t with
 | true=>simp at h2
 | false =>
  simp only[Bool.false_eq_true,if_false]at h2
  obtain⟨c,h3,h4⟩:=Option.map_eq_some_iff.mp h2
  subst h4
  obtain⟨bs,h5,h6⟩:=as7 h3
  subst h5 h6
  refine A9 (F4 aP7 hg hm bP5 (C0 (h ρ false _ h1) E3 he) (he:=he)) fun σ H Q ⟨H0,Hf,s,sl,k⟩=>?_
  refine⟨H0,Hf,s,sl,fun v H1 Hf1 g1 ⟨a,vs,e1,e2,e3⟩=>⟨hc,a,bs,by rw[e1],?_,k _ H1 Hf1 g1 rfl⟩⟩
  rw[x5 e3]at e2
  exact e2
noncomputable def aw7(T:String) (d:D):Option Bool:=match d with
 | .int _=>(match T with | "int" => some true | "bool" => some false | "str" => some false | "tuple" => some false | "list" => some false|_=>none)
 | .bool _=>(match T with | "int" => some true | "bool" => some true | "str" => some false | "tuple" => some false | "list" => some false|_=>none)
 | .none=>(match T with | "int" => some false | "bool" => some false | "str" => some false | "tuple" => some false | "list" => some false|_=>none)
 | .str _=>(match T with | "int" => some false | "bool" => some false | "str" => some true | "tuple" => some false | "list" => some false|_=>none)
 | .tuple _=>(match T with | "int" => some false | "bool" => some false | "str" => some false | "tuple" => some true | "list" => some false|_=>none)
 | .list _=>(match T with | "int" => some false | "bool" => some false | "str" => some false | "tuple" => some false | "list" => some true|_=>none)
 | _=>none
noncomputable def tyD:D->String
 | .int _ => "int"
 | .bool _ => "bool"
 | .none => "NoneType"
 | .str _ => "str"
 | .tuple _ => "tuple"
 | .list _ => "list"
 | .dict _ => "dict"
theorem bt3{K:PySem.W.Frag}{T:String}{d:D}{b:Bool}(h:aw7 T d=some b):PySem.W.kitOne K (.type (tyD d)) (.type T)=some b:=by
 unfold aw7 at h
 cases d<;>first
  | (dsimp only at h;split at h<;>first
   | (cases h;rfl)
   | cases h)
  | cases h
theorem bf7{T:String}:G6 X (.builtin "isinstance") (fun xs H Q=>∃d x b,xs=[x,.ty T]/\Rep X.K H d x/\aw7 T d=some b/\Q (.bl b) H):=by
 intro pins s σ H xs us Q I r h
 obtain⟨d,x,b,rfl,hd,hb,q⟩:=h
 obtain⟨u,c,rfl,rx,rc⟩:=aA2 r
 cases rc
 have e:=bt3 (K:=X.K) hb
 have fin:∀tk,EP X pins σ Q (.bool b) { s with toks:=tk }:=fun tk=>⟨.bl b,H,I.tok tk,rfl,q⟩
 cases d with
 | none=>cases hd;cases rx;exact PySem.W.kia_one PySem.W.kitx_none I.kIn True.intro e (fun z=>nomatch z) fin
 | bool y=>cases hd;cases rx;exact PySem.W.kia_one PySem.W.kitx_bool I.kIn True.intro e (fun z=>nomatch z) fin
 | int i=>cases hd;obtain⟨t,rfl⟩:=rx;exact PySem.W.kia_one PySem.W.kitx_int I.kIn True.intro e (fun z=>nomatch z) fin
 | str i=>cases hd;obtain⟨t,rfl⟩:=rx;exact PySem.W.kia_one PySem.W.kitx_str I.kIn True.intro e (fun z=>nomatch z) fin
 | tuple ds =>
  obtain⟨a,vs,rfl,h2,h3⟩:=hd
  cases rx
  obtain⟨its,rv,⟨o,ho,hc,_⟩,_⟩:=I.tuple h2
  exact PySem.W.kia_one PySem.W.kitx_tuple I.kIn ⟨o,ho,hc⟩ e (fun z=>nomatch z) fin
 | list ds =>
  obtain⟨a,vs,rfl,h2,h3⟩:=hd
  cases rx
  obtain⟨its,rv,pl,_⟩:=I.list h2
  obtain⟨o,ho,hc,_⟩:=pl.isList
  exact PySem.W.kia_one PySem.W.kitx_list I.kIn ⟨o,ho,hc⟩ e (fun z=>nomatch z) fin
 | dict ds=>simp[aw7]at hb
noncomputable def bu5(T:String) (f:DE):DE:=fun ρ=>(f ρ).bind fun d=>(aw7 T d).map PyData.bool
theorem bL7(hg:Gl X "isinstance") (hm:X.mg "isinstance" = none) (hgT:Gl X x) (hmT:X.mg x=none) (hvT:bootBuiltins x=some (.type T)) (h:JE X e f)
  (hn:x ≠ "__name__" := by decide) (hd:(x==("__debug__" : Str))=false:=by decide)
  (he:starEach [e,.Name x p2] X.env=(false,eval e X.env)::starEach [.Name x p2] X.env:=by rfl) (he2:starEach [.Name x p2] X.env=[(false,eval (.Name x p2) X.env)]:=by rfl) (hpl:(backTo pos (starEach [.Name x p2] X.env)).any (·.1)=false:=by rfl) :
  JE X (.Call (.Name "isinstance" p) [e,.Name x p2] [] pos) (bu5 T f):=fun ρ d q=>by
 obtain⟨y,h1,h2⟩:=xbm q
 obtain⟨b,h3,h4⟩:=Option.map_eq_some_iff.mp h2
 subst h4
 refine A9 (F4 (bf7 (T:=T)) hg hm bg4 (C0 (h ρ y h1) (C0 (aD0 (v:=.ty T) hgT hmT hvT rfl hn hd) E3 he2) he) (he:=he) (hpl:=hpl)) fun σ H Q ⟨H0,Hf,s,sl,k⟩=>?_
 exact⟨H0,Hf,s,sl,fun v H1 Hf1 g1 r=>⟨y,v,b,rfl,r.mono g1.sub,h3,k _ H1 Hf1 g1 rfl⟩⟩
noncomputable def spF(K:PySem.W.Frag) (n:Nat) (F:List D->Option D):Sp:=fun vs H Q _=>vs.length=n/\∃Hf ds d,B5 Hf H/\Reps K Hf ds vs/\F ds=some d/\∀v H' Hf',Grow H Hf H' Hf'->Rep K Hf' d v->Q v H'
noncomputable def A3(F:List D->Option D) (f:Rho->Option (List D)):DE:=fun ρ=>(f ρ).bind F
theorem bs8(Fk:FnOk X.prog X.w X.K X.mg X.base CX0 k f fd ps (spF X.K n F)) (hr:Room k X.A) (hg:Gl X x) (hm:X.mg x=some (.ref f)) (hk:PySem.W.keepIn X.K (.ref f)=true) (hb:K1 X.K fd ps [])
  (ha:JA X (e::es) g) (hn:(e::es).length=n:=by rfl) (hdb:(x==("__debug__" : Str))=false:=by decide) (he:starEach (e::es) X.env=(false,eval e X.env)::starEach es X.env:=by rfl) (hpl:(backTo pos (starEach es X.env)).any (·.1)=false:=by rfl) :
  JE X (.Call (.Name x p) (e::es) [] pos) (A3 F g):=fun ρ d q=>by
 obtain⟨ds,h1,h2⟩:=xbm q
 refine A9 (bn3 Fk hr hg hm hk hb .nil bx1 (fun pos pins s σ H Q I t=>ha.run ρ ds h1 pos pins s σ H Q I t) hdb he hpl) fun σ H Q ⟨H0,Hf,s,sl,kk⟩=>?_
 refine⟨H0,Hf,s,sl,fun vs H1 Hf1 g1 r1=>⟨?_,Hf1,ds,d,g1.sub,by rw[List.append_nil];exact r1,h2,fun v H2 Hf2 g2 r2=>kk v H2 Hf2 (g1.trans g2) r2⟩⟩
 rw[List.append_nil,r1.length,ha.len ρ ds h1,hn]
inductive Fl where
 | nx (ρ:Rho)
 | rt (d:D)
 | bk (ρ:Rho)
 | ct (ρ:Rho)
noncomputable abbrev DS:=Rho->Option Fl
structure At (K:PySem.W.Frag) (H0 Hf0:Hp) (ρ:Rho) (σ:L2.St) (H Hf:Hp):Prop where
 gr:Grow H0 Hf0 H Hf
 sl:Slots K H0 ρ σ H Hf
noncomputable def Fl.ends(K:PySem.W.Frag) (H0 Hf0 Hf:Hp) (En:Ends):Fl->Prop
 | .nx ρ=>∀σ' H' Hf',At K H0 Hf0 ρ σ' H' Hf'->B5 Hf Hf'->En.nx σ' H'
 | .bk ρ=>∀σ' H' Hf',At K H0 Hf0 ρ σ' H' Hf'->B5 Hf Hf'->En.bk σ' H'
 | .ct ρ=>∀σ' H' Hf',At K H0 Hf0 ρ σ' H' Hf'->B5 Hf Hf'->En.ct σ' H'
 | .rt d=>∀v H' Hf',Grow H0 Hf0 H' Hf'->Rep K Hf' d v->En.rt v H'
noncomputable def tJS(K:PySem.W.Frag) (H0 Hf0:Hp) (ρ:Rho) (fl:Fl):TS:=fun En σ H=>∃Hf,At K H0 Hf0 ρ σ H Hf/\fl.ends K H0 Hf0 Hf En
noncomputable def JS(X:Cx) (st:Stmt) (f:DS):Prop:=∀ρ fl,f ρ=some fl->∀H0 Hf0,PS X st (tJS X.K H0 Hf0 ρ fl)
noncomputable def JSs(X:Cx) (sts:List Stmt) (f:DS):Prop:=∀ρ fl,f ρ=some fl->∀H0 Hf0,PSs X sts (tJS X.K H0 Hf0 ρ fl)
theorem F7{st:Stmt}{t t':TS}(h:PS X st t) (i:∀En σ H,t' En σ H->t En σ H):PS X st t':=fun pins s σ H En I q=>h pins s σ H En I (i En σ H q)
theorem T3{st:List Stmt}{t t':TS}(h:PSs X st t) (i:∀En σ H,t' En σ H->t En σ H):PSs X st t':=fun pins s σ H En I q=>h pins s σ H En I (i En σ H q)
theorem At.grow{K:PySem.W.Frag}{H0 Hf0 H Hf H' Hf':Hp}{ρ:Rho}{σ:L2.St}(a:At K H0 Hf0 ρ σ H Hf) (g:Grow H Hf H' Hf'):At K H0 Hf0 ρ σ H' Hf':=⟨a.gr.trans g,a.sl.grow g⟩
theorem Fl.ends_mono{K:PySem.W.Frag}{H0 Hf0 Hf Hf':Hp}{En:Ends}{fl:Fl}(h:fl.ends K H0 Hf0 Hf En) (e:B5 Hf Hf'):fl.ends K H0 Hf0 Hf' En:=by
 cases fl with
 | nx ρ=>exact fun σ' H' Hf'' a s=>h σ' H' Hf'' a (e.trans s)
 | bk ρ=>exact fun σ' H' Hf'' a s=>h σ' H' Hf'' a (e.trans s)
 | ct ρ=>exact fun σ' H' Hf'' a s=>h σ' H' Hf'' a (e.trans s)
 | rt d=>exact h
noncomputable def L9:DS:=fun ρ=>some (.nx ρ)
noncomputable def C3(f g:DS):DS:=fun ρ=>(f ρ).bind fun fl=>match fl with
 | .nx ρ'=>g ρ'
 | fl=>some fl
theorem bq5:JSs X [] L9:=fun ρ fl q H0 Hf0=>by
 cases q
 exact T3 bm3 fun En σ H ⟨Hf,a,e⟩=>e σ H Hf a (B5.refl _)
theorem aY6{st:Stmt}{sts:List Stmt}{f g:DS}(h1:JS X st f) (h2:JSs X sts g):JSs X (st::sts) (C3 f g):=fun ρ fl q H0 Hf0=>by
 obtain⟨fl1,e1,q⟩:=xbm q
 cases fl1 with
 | nx ρ' =>
  refine T3 (O6 (h1 ρ _ e1 H0 Hf0) (h2 ρ' fl q H0 Hf0)) fun En σ H ⟨Hf,a,e⟩=>⟨Hf,a,fun σ' H' Hf' a' s'=>⟨Hf',a',Fl.ends_mono e s'⟩⟩
 | rt d=>cases q;exact T3 (O6 (h1 ρ _ e1 H0 Hf0) O5) fun En σ H ⟨Hf,a,e⟩=>⟨Hf,a,e⟩
 | bk ρ'=>cases q;exact T3 (O6 (h1 ρ _ e1 H0 Hf0) O5) fun En σ H ⟨Hf,a,e⟩=>⟨Hf,a,e⟩
 | ct ρ'=>cases q;exact T3 (O6 (h1 ρ _ e1 H0 Hf0) O5) fun En σ H ⟨Hf,a,e⟩=>⟨Hf,a,e⟩
theorem bq4{st:Stmt}{f:DS}(h1:JS X st f):JSs X [st] f:=fun ρ fl q H0 Hf0=>ai5 (h1 ρ fl q H0 Hf0)
noncomputable def C4(f:DE):DS:=fun ρ=>(f ρ).map Fl.rt
theorem aj9{e:Expr}{f:DE}{pos:Pos}(h:JE X e f):JS X (.Return (some e) pos) (C4 f):=fun ρ fl q H0 Hf0=>by
 obtain⟨d,e1,e2⟩:=Option.map_eq_some_iff.mp q
 subst e2
 exact F7 (aU2 (h ρ d e1)) fun En σ H ⟨Hf,a,e⟩=>⟨H0,Hf,a.gr.sub,a.sl,fun v H' Hf' g r=>e v H' Hf' (a.gr.trans g) r⟩
noncomputable def sIf(t:Rho->Option Bool) (f g:DS):DS:=fun ρ=>(t ρ).bind fun c=>if c then f ρ else g ρ
theorem bx7{c:Expr}{a b:List Stmt}{t:Rho->Option Bool}{f g:DS}{pos:Pos}(hc:JT X c t) (ha:JSs X a f) (hb:JSs X b g):JS X (.If c a b pos) (sIf t f g):=fun ρ fl q H0 Hf0=>by
 obtain⟨x,e1,q⟩:=xbm q
 cases x with
 | true =>
  refine F7 (bw7 (hc ρ _ e1) (ha ρ fl (by simpa using q) H0 Hf0) O5) fun En σ H ⟨Hf,a,e⟩=>⟨H0,Hf,a.gr.sub,a.sl,fun H' Hf' g=>aa5 ⟨Hf',a.grow g,Fl.ends_mono e g.ext⟩⟩
 | false =>
  refine F7 (bw7 (hc ρ _ e1) O5 (hb ρ fl (by simpa using q) H0 Hf0)) fun En σ H ⟨Hf,a,e⟩=>⟨H0,Hf,a.gr.sub,a.sl,fun H' Hf' g=>aa6 ⟨Hf',a.grow g,Fl.ends_mono e g.ext⟩⟩
theorem Slots.set{K:PySem.W.Frag}{H0 H Hf:Hp}{ρ:Rho}{σ:L2.St}{i:Nat}{d:D}{v:V}(s:Slots K H0 ρ σ H Hf) (r:Rep K Hf d v):Slots K H0 (ρ.set i (some (.val d))) (σ.set i (some v)) H Hf:=by
 refine⟨by simp[s.len],fun j b e=>?_,fun j k ds es a h1 h2 h3 h4=>?_⟩
 ·by_cases q:i=j
  ·subst q
   have hi:i < ρ.length:=by
    have:=(List.getElem?_eq_some_iff.mp e).1
    simpa using this
   have hi':i < σ.length:=by rw[← s.len];exact hi
   rw[List.getElem?_set_self hi]at e
   cases e
   exact⟨v,List.getElem?_set_self hi',r⟩
  ·rw[List.getElem?_set_ne q]at e
   obtain⟨u,h1,h2⟩:=s.is j b e
   exact⟨u,by rw[List.getElem?_set_ne q];exact h1,h2⟩
 ·have hj:i≠j:=by
   intro q;subst q
   have hi:i < ρ.length:=by
    have:=(List.getElem?_eq_some_iff.mp h1).1
    simpa using this
   rw[List.getElem?_set_self hi]at h1
   cases h1
  have hk:i≠k:=by
   intro q;subst q
   have hi:i < ρ.length:=by
    have:=(List.getElem?_eq_some_iff.mp h2).1
    simpa using this
   rw[List.getElem?_set_self hi]at h2
   cases h2
  rw[List.getElem?_set_ne hj]at h1 h3
  rw[List.getElem?_set_ne hk]at h2 h4
  exact s.apart j k ds es a h1 h2 h3 h4
noncomputable def D0(i:Nat) (f:DE):DS:=fun ρ=>(f ρ).map fun d=>.nx (ρ.set i (some (.val d)))
theorem aw3(i:Nat) {x:Str}{e:Expr}{f:DE}{pos pos':Pos}(hN:X.N.Nodup) (h:JE X e f) (hi:X.N[i]? = some x:=by rfl) (hx:Loc X.env.scope x:=by first|exact Or.inl rfl|exact Or.inr rfl)
  (hs:swapsWith e (some (.Name x pos')) pos.line X.env=pure false:=by rfl) (hf:X.fn x=true\/X.env.scope.names.lookup x=some .local:=by first|exact .inl rfl|exact .inr rfl):JS X (.Assign [.Name x pos'] e pos) (D0 i f):=fun ρ fl q H0 Hf0=>by
 obtain⟨d,e1,e2⟩:=Option.map_eq_some_iff.mp q
 subst e2
 exact F7 (av2 hN hi hx (h ρ d e1) hs hf) fun En σ H ⟨Hf,a,e⟩=>⟨H0,Hf,a.gr.sub,a.sl,fun v H' Hf' g r=>e _ H' Hf' ⟨a.gr.trans g,(a.sl.grow g).set r⟩ g.ext⟩
noncomputable def ah5(i j:Nat) (f:Rho->Option (List D)):DS:=fun ρ=>(f ρ).bind fun ds=>match ds with
 | [a,b]=>some (.nx ((ρ.set i (some (.val a))).set j (some (.val b))))
 | _=>none
end
end G
namespace G
open PySem PySem.Spec PyProof.Rows L2
theorem af2(I:Nat->Shared->Prop)
  (turn:∀n s,I n s->wpAny (model prog w) A (pyNext it) (fun r s1=>match r with
   | none=>R (.ok .next) s1
   | some v=>wpAny (model prog w) A (letOwnedTupleGo target it v) (fun _ s1'=>wpAny (model prog w) A (assign target env v) (fun _ s2 =>
     wpAny (model prog w) A (forIn ifs true fun c r=>if r=true then do let ok ← isTrue c env (eval c env);pure (ForInStep.yield ok) else pure (ForInStep.yield r)) (fun ok s3 =>
      if ok=true then wpAny (model prog w) A (eval elt env) (fun x s4 =>
       wpAny (model prog w) A (call (.builtin "list.append") [acc,x]) (fun _ s5=>∃m,m < n/\I m s5) (fun _ _=>False) s4) (fun _ _=>False) s3
      else ∃m,m < n/\I m s3) (fun _ _=>False) s2) (fun _ _=>False) s1') (fun _ _=>False) s1) (fun _ _=>False) s)
  (n:Nat) (h:I n s) :
  codeAny (model prog w) A (.compLoop (.ListComp elt [⟨target,iter,ifs,0⟩] scope pos) 0 it acc env) R s:=by
 refine codeAny_loop rfl I (fun n s hI=>?_) n h
 show wpAny _ A ((compTurn (.ListComp elt [⟨target,iter,ifs,0⟩] scope pos) 0 it acc env).onRaise (fun x=>do noteFrame x env;theTreesLotGoes x)) _ _ s
 refine wpAny_noted ?_
 rw[compTurn_list]
 refine wpAny_bind (wpAny_standAt (wpAny_bind (wpAny_mono (turn n s hI) (fun r s1 h1=>?_) fun _ _ h'=>h'.elim)))
 cases r with
 | none=>exact wpAny_pure h1
 | some v =>
  refine wpAny_bind (wpAny_mono h1 (fun _ s1' h1'=>?_) fun _ _ h'=>h'.elim)
  refine wpAny_bind (wpAny_mono h1' (fun _ s2 h2=>wpAny_bind (wpAny_mono h2 (fun ok s3 h3=>?_) fun _ _ h'=>h'.elim)) fun _ _ h'=>h'.elim)
  cases ok with
  | false=>exact wpAny_pure ⟨rfl,h3⟩
  | true =>
   exact wpAny_bind (wpAny_bind (wpAny_mono h3 (fun x s4 h4=>wpAny_bind (wpAny_mono h4 (fun _ s5 h5=>wpAny_pure (wpAny_pure ⟨rfl,h5⟩)) fun _ _ h'=>h'.elim)) fun _ _ h'=>h'.elim))
noncomputable def F2(cells:List (Str×Addr)):List (Str×NameKind)->List (Str×Addr)->List (Str×Addr)
 | [],cs=>cs
 | (n,k)::r,cs=>if(k==NameKind.free)=true then F2 cells r ((n,(cells.lookup n).getD 0)::cs) else F2 cells r cs
theorem ab6:∀(names:List (Str×NameKind)) (cs:List (Str×Addr)),(∀y∈names,y.2=.free->∃c,env.cells.lookup y.1=some c) ->
  (forIn names cs fun(x:Str×NameKind) (r:List (Str×Addr))=>if(x.2==NameKind.free)=true then do let a ← cellOf env x.1;pure (ForInStep.yield ((x.1,a)::r)) else pure (ForInStep.yield r):Sem (List (Str×Addr)))=pure (F2 env.cells names cs)
 | [],cs,_=>rfl
 | (n,k)::r,cs,h=>by
  rw[List.forIn_cons]
  have hr:∀y∈r,y.2=.free->∃c,env.cells.lookup y.1=some c:=fun y hy=>h y (List.mem_cons_of_mem _ hy)
  by_cases hk:(k==NameKind.free)=true
  ·obtain⟨c,hc⟩:=h (n,k) List.mem_cons_self (by simpa using hk)
   have hc':env.cells.lookup n=some c:=hc
   simp only[hk,if_true]
   have e:cellOf env n=pure c:=by unfold cellOf;rw[hc']
   rw[e]
   show(forIn r ((n,c)::cs) _:Sem _)=_
   rw[ab6 r _ hr]
   simp only[F2,hk,if_true,hc',Option.getD_some]
  ·have hk':(k==NameKind.free)=false:=by simpa using hk
   simp only[hk',Bool.false_eq_true,if_false]
   show(forIn r cs _:Sem _)=_
   rw[ab6 r _ hr]
   simp only[F2,hk',Bool.false_eq_true,if_false]
theorem aH4(h:∀y∈scope.names,y.2=.free->∃c,env.cells.lookup y.1=some c):closureFor scope env=pure (F2 env.cells scope.names []):=by
 have:=ab6 (env:=env) scope.names [] h
 unfold closureFor
 exact congrArg (fun z=>z >>= fun cs=>pure cs) this
theorem S6:∀{names:List (Str×NameKind)}{cs:List (Str×Addr)}{x:Str}{c:Addr},(x,c)∈F2 cells names cs->(x,c)∈cs\/((x,NameKind.free)∈names/\c=(cells.lookup x).getD 0)
 | [],cs,x,c,h=>.inl h
 | (n,k)::r,cs,x,c,h=>by
  unfold F2 at h
  split at h
  ·rename_i hk
   rcases S6 h with q|⟨q1,q2⟩
   ·rcases List.mem_cons.mp q with q|q
    ·cases q
     have:k=.free:=by simpa using hk
     subst this
     exact .inr ⟨List.mem_cons_self,rfl⟩
    ·exact .inl q
   ·exact .inr ⟨List.mem_cons_of_mem _ q1,q2⟩
  ·rcases S6 h with q|⟨q1,q2⟩
   ·exact .inl q
   ·exact .inr ⟨List.mem_cons_of_mem _ q1,q2⟩
theorem M8:∀{names:List (Str×NameKind)}{cs:List (Str×Addr)}{x:Str},((x,NameKind.free)∈names\/∃c,(x,c)∈cs)->∃c,(x,c)∈F2 cells names cs
 | [],cs,x,h=>by
  rcases h with h|h
  ·cases h
  ·exact h
 | (n,k)::r,cs,x,h=>by
  unfold F2
  rcases h with h|⟨c,h⟩
  ·rcases List.mem_cons.mp h with q|q
   ·cases q
    rw[if_pos (by rfl)]
    exact M8 (.inr ⟨_,List.mem_cons_self⟩)
   ·split
    ·exact M8 (.inl q)
    ·exact M8 (.inl q)
  ·split
   ·exact M8 (.inr ⟨c,List.mem_cons_of_mem _ h⟩)
   ·exact M8 (.inr ⟨c,h⟩)
theorem M6{l:List (Str×Addr)}{x:Str}{c:Addr}(h:(x,c)∈l):∃c',l.lookup x=some c':=by
 induction l with
 | nil=>cases h
 | cons p r ih =>
  obtain⟨n,a⟩:=p
  rw[List.lookup_cons]
  cases e:x==n with
  | true=>exact⟨a,rfl⟩
  | false =>
   rcases List.mem_cons.mp h with q|q
   ·cases q;simp at e
   ·exact ih q
theorem M0:(relabel scope env).names.lookup x=some k->∃k0,scope.names.lookup x=some k0/\(k=k0\/k0=.free):=by
 unfold relabel
 simp only
 generalize scope.names=names
 induction names with
 | nil=>intro h;simp at h
 | cons p r ih =>
  obtain⟨n,k1⟩:=p
  intro h
  rw[List.map_cons]at h
  by_cases hc:(k1==NameKind.free&&env.scope.kind == .function&&env.kindOf n==some .cell)=true
  ·simp only[hc,if_true,List.lookup_cons]at h
   rw[List.lookup_cons]
   cases e:x==n with
   | true =>
    rw[e]at h
    rw[Bool.and_eq_true,Bool.and_eq_true]at hc
    exact⟨k1,rfl,.inr (by simpa using hc.1.1)⟩
   | false=>rw[e]at h;exact ih h
  ·have hc':(k1==NameKind.free&&env.scope.kind == .function&&env.kindOf n==some .cell)=false:=by simpa using hc
   simp only[hc',Bool.false_eq_true,if_false,List.lookup_cons]at h
   rw[List.lookup_cons]
   cases e:x==n with
   | true=>rw[e]at h;cases h;exact⟨_,rfl,.inl rfl⟩
   | false=>rw[e]at h;exact ih h
theorem W9:scope.names.lookup x=some .free->(relabel scope env).names.lookup x=some .cell\/(relabel scope env).names.lookup x=some .free:=by
 unfold relabel
 simp only
 generalize scope.names=names
 induction names with
 | nil=>intro h;simp at h
 | cons p r ih =>
  obtain⟨n,k1⟩:=p
  intro h
  rw[List.lookup_cons]at h
  rw[List.map_cons]
  cases e:x==n with
  | true =>
   rw[e]at h
   cases h
   have en:x=n:=by simpa using e
   subst en
   by_cases hc:(NameKind.free==NameKind.free&&env.scope.kind == .function&&env.kindOf x==some .cell)=true
   ·simp only[hc,if_true,List.lookup_cons,e];exact .inl trivial
   ·have hc':(NameKind.free==NameKind.free&&env.scope.kind == .function&&env.kindOf x==some .cell)=false:=by simpa using hc
    simp only[hc',Bool.false_eq_true,if_false,List.lookup_cons,e];exact .inr trivial
  | false =>
   rw[e]at h
   by_cases hc:(k1==NameKind.free&&env.scope.kind == .function&&env.kindOf n==some .cell)=true
   ·simp only[hc,if_true,List.lookup_cons,e];exact ih h
   ·have hc':(k1==NameKind.free&&env.scope.kind == .function&&env.kindOf n==some .cell)=false:=by simpa using hc
    simp only[hc',Bool.false_eq_true,if_false,List.lookup_cons,e];exact ih h
noncomputable def C7(X:Cx) (N':List Str) (scope:Scope) (C:Addr) (s₀:Shared) (H₀:Hp) (ex:List Addr):Cx where
 prog:=X.prog
 w:=X.w
 K:=X.K
 mg:=X.mg
 base:=X.base
 A:=X.A
 N:=N'
 s₀:=s₀
 H₀:=H₀
 env:=compEnvC scope (F2 X.env.cells scope.names []) C X.env
 outer:=X.stack
 stack:=X.stack
 ex:=ex
 fn:=fun _=>false
 calm:=X.calm
 pn:=[]
 xe:=fun _ _=>False
structure CompSc (X:Cx) (N':List Str) (n:Nat) (caps:List Nat) (scope:Scope):Prop where
 kind:scope.kind=.function
 cell:∀y∈scope.names,y.2≠.cell
 loc:∀y∈scope.names,y.2=.local->scope.names.lookup y.1=some .local
 free:∀y∈scope.names,y.2=.free->X.env.scope.names.lookup y.1=some .cell\/X.env.scope.names.lookup y.1=some .free
 len:N'.length=n+caps.length
 cap:∀(i j:Nat),caps[i]? = some j->∃x,X.N[j]? = some x/\N'[n+i]? = some x/\scope.names.lookup x=some .free
section
variable {X:Cx}{N':List Str}{n:Nat}{caps:List Nat}{scope:Scope}
theorem D4{l:List (Str×NameKind)}{x:Str}{k:NameKind}(h:l.lookup x=some k):(x,k)∈l:=PySem.mem_of_lookup h
noncomputable def U4(n:Nat) (caps:List Nat) (σ:L2.St):L2.St:=List.replicate n none++caps.map fun j=>(σ[j]?).join
theorem ax7(S:CompSc X N' n caps scope) (I:Inv X pins σ H s) (hf:∀b∈fp,L7 X pins H b) (hlt:∀b∈fp,b < s.heap.objs.size)
  (hns:h1.Ns s.heap.objs.size m) (hk:∀b o,s.heap.get? b=some o->h1.get? b=some o) :
  Inv (C7 X N' scope s.heap.objs.size s H fp) [] (U4 n caps σ) H { s with heap:=h1,toks:=tk }:=by
 have cl_of:∀x c,(F2 X.env.cells scope.names []).lookup x=some c->X.env.cells.lookup x=some c:=fun x c h=>by
  have hm:=PySem.mem_of_lookup h
  rcases S6 hm with q|⟨q1,q2⟩
  ·cases q
  ·obtain⟨c',hc'⟩:=I.ok.has x (S.free _ q1 rfl)
   rw[hc']at q2
   rw[hc',q2];rfl
 have cl_has:∀x,(x,NameKind.free)∈scope.names->∃c,(F2 X.env.cells scope.names []).lookup x=some c:=fun x h=>by
  obtain⟨c,hc⟩:=M8 (cells:=X.env.cells) (cs:=[]) (.inl h)
  exact M6 hc
 have kind_free:∀x,((relabel scope X.env).names.lookup x=some .cell\/(relabel scope X.env).names.lookup x=some .free)->(x,NameKind.free)∈scope.names:=fun x h=>by
  rcases h with h|h
  ·obtain⟨k0,e1,e2⟩:=M0 h
   rcases e2 with e2|e2
   ·subst e2;exact absurd rfl (S.cell _ (D4 e1))
   ·subst e2;exact D4 e1
  ·obtain⟨k0,e1,e2⟩:=M0 h
   rcases e2 with e2|e2
   ·subst e2;exact D4 e1
   ·subst e2;exact D4 e1
 have cell_lt:∀x c,X.env.cells.lookup x=some c->c < s.heap.objs.size:=fun x c e=>by
  obtain⟨v,q⟩:=I.cell x c e
  exact q.lt
 have ok:(C7 X N' scope s.heap.objs.size s H fp).Ok:=by
  refine⟨I.ok.mod,S.kind,I.ok.glob,I.ok.blt,Nat.le_refl _,fun x y c e1 e2=>I.ok.inj x y c (cl_of x c e1) (cl_of y c e2),fun x hx=>cl_has x (kind_free x hx),fun x c e _=>(Bool.false_ne_true e).elim,I.ok.hd,I.ok.frames,.inl rfl,fun b hb=>⟨Nat.ne_of_lt (hlt b hb),fun x c e=>(hf b hb).2.2.2.2.1 x c (cl_of x c e)⟩,
   I.bs,Nat.le_trans I.ok.bsz I.sz,fun b o e hb=>?_,fun b hb hb2=>?_,I.stack,I.stkFree⟩
  ·rcases(hf b hb).2.2.2.1 with z|z
   ·exact I.ok.noex b o e z
   ·exact absurd (Nat.lt_of_lt_of_le (Heap.lt_size e) (Nat.le_trans I.ok.bsz z)) (Nat.lt_irrefl _)
  ·rcases List.mem_cons.mp (I.stkSub b hb2) with z|z
   ·exact(hf b hb).2.1 z
   ·exact(hf b hb).2.2.1 z
 refine⟨ok,rfl,I.bare,Un.kept hk,⟨m,hns,fun i x v e1 e2 e3=>?_⟩,fun x c e=>?_,I.hok.fresh (Nat.le_refl _),fun x c e=>I.freeC x c (cl_of x c e),fun p hp=>absurd (show p∈([]:List (Addr×Obj)) from hp) (by simp),I.hok.kept hk,?_⟩
 ·have hi:n<=i:=by
   rcases Nat.lt_or_ge i n with h|h
   ·unfold U4 at e2
    rw[List.getElem?_append_left (by simpa using h),List.getElem?_replicate,if_pos h]at e2
    cases e2
   ·exact h
  unfold U4 at e2
  rw[List.getElem?_append_right (by simpa using hi),List.getElem?_map]at e2
  simp only[List.length_replicate]at e2
  cases hj:caps[i - n]? with
  | none=>rw[hj]at e2;cases e2
  | some j =>
   rw[hj]at e2
   have e2':(σ[j]?).join=some v:=by simpa using e2
   have e2'':σ[j]? = some (some v):=by
    cases q:σ[j]? with
    | none=>rw[q]at e2';cases e2'
    | some o=>rw[q]at e2';simp at e2';rw[e2']
   obtain⟨y,q1,q2,q3⟩:=S.cap _ _ hj
   have:y=x:=by
    have e1':N'[i]? = some x:=e1
    rw[show n+(i - n)=i by grind,e1']at q2
    cases q2;rfl
   subst this
   obtain⟨m0,hn0,hl0⟩:=I.loc
   have hv:Vis X.env.scope y:=by
    rcases S.free _ (D4 q3) rfl with z|z
    ·exact .inr (.inl z)
    ·exact .inr (.inr z)
   obtain⟨u,ru,lk⟩:=hl0 j y v q1 e2'' hv
   refine⟨u,ru,.inr ⟨W9 q3,?_⟩⟩
   rcases lk with⟨lk,_⟩|⟨_,c,hc,hcell⟩
   ·rcases S.free _ (D4 q3) rfl with z|z
    ·have:X.env.scope.names.lookup y=some .local:=lk
     rw[z]at this;cases this
    ·have:X.env.scope.names.lookup y=some .local:=lk
     rw[z]at this;cases this
   ·obtain⟨c',hc'⟩:=cl_has y (D4 q3)
    have:=cl_of y c' hc'
    rw[hc]at this;cases this
    obtain⟨o,ho,hd⟩:=hcell
    exact⟨c,hc',o,hk c o ho,hd⟩
 ·obtain⟨v,o,ho,hd⟩:=I.cell x c (cl_of x c e)
  exact⟨v,o,hk c o ho,hd⟩
 ·show(U4 n caps σ).length=N'.length
  unfold U4
  rw[S.len];simp
theorem af3(I:Inv X pins σ H s) (hf:∀b∈fp,L7 X pins H b)
  (I':Inv (C7 X N' scope s.heap.objs.size s H fp) [] σ' H' s') (sb:Heap.SameBut s.heap.objs.size s'.heap h'):Inv X pins σ H' { s' with heap:=h' }:=by
 have ne:∀b o,s.heap.get? b=some o->b≠s.heap.objs.size:=fun b o e=>Nat.ne_of_lt (Heap.lt_size e)
 refine I.call' (s':={ s' with heap:=h' }) (ch:=fp) I'.os ?_ ?_ I'.bare fun b hb=>⟨(hf b hb).2.2.2.1,(hf b hb).2.1,(hf b hb).2.2.2.2.1,(hf b hb).2.2.2.2.2⟩
 ·refine⟨fun b o e n hb hx=>sb.extBut b o (ne b o e) (I'.base.keep b o e n hb hx),fun b o e n hb hx=>?_,I'.base.free,fun b o e hx=>?_,I'.base.tups,I'.base.frzs,I'.base.tbls⟩
  ·obtain⟨sl,q⟩:=I'.base.slot b o e n hb hx
   exact⟨sl,sb.extBut b _ (ne b o e) q⟩
  ·obtain⟨o',q⟩:=I'.base.there b o e hx
   exact⟨o',sb.extBut b _ (ne b o e) q⟩
 ·intro b u e
  have nC:∀c v,H' c=some v->c≠s.heap.objs.size:=fun c v q z=>by
   have:=I'.free
   have z':H' c=none:=by rw[z];exact this
   rw[z']at q;cases q
  refine(I'.hok b u e).stay (fun c v hc q=>sb.extBut c v ?_ q) (fun _ q=>q) fun _ _ q=>q
  rcases hc with z|z
  ·rw[z];exact nC b u e
  ·exact nC c _ z
noncomputable def PTs(X:Cx) (ifs:List Expr) (t:TT):Prop :=
 ∀(pins:List (Addr×Obj)) (s:Shared) (σ:L2.St) (H:Hp) (Q:Bool->Hp->Prop),Inv X pins σ H s->t σ H Q ->
  wpAny (model X.prog X.w) X.A (forIn ifs true fun c r=>if r=true then do let ok ← isTrue c X.env (eval c X.env);pure (ForInStep.yield ok) else pure (ForInStep.yield r)) (TP X pins σ Q) X.xe s
theorem bm0:PTs X [] (fun _ H Q=>Q true H):=fun pins s σ H Q I h=>wpAny_tests_nil ⟨H,I,h⟩
theorem bl9(h:PT X c t):PTs X [c] t:=fun pins s σ H Q I q=>wpAny_tests_one (h pins s σ H Q I q)
noncomputable def aA3(n:Nat) (caps:List Nat) (wi:TI) (g:TG) (tc:TT) (te:TE):TE:=fun σ H Q=>wi σ H fun J H1=>∀Dd,H1 Dd=none->∃W:Nat->Nat->List V->L2.St->Hp->Prop,
 (∃m,W 0 m [] (U4 n caps σ) (upd H1 Dd (.lst []))) /\
 ∀i m ys σ' H',W i m ys σ' H' ->
  (J.stop i H'/\Q (.ref Dd) H') \/
  (J.go i H'/\∀x H2,J.yld i H' x H2->g x σ' H2 fun σ3 H3=>tc σ3 H3 fun b H4 =>
   if b=true then te σ3 H4 fun y H5=>H5 Dd=some (.lst ys)/\ys.length < sizeLine/\∃m',m' < m/\W (i+1) m' (ys++[y]) σ3 (upd H5 Dd (.lst (ys++[y])))
   else ∃m',m' < m/\W (i+1) m' ys σ3 H4)
theorem as3{elt tgt iter:Expr}{ifs:List Expr}{pos:Pos}{wi:TI}{g:TG}{tc:TT}{te:TE}{RR:Value->Addr->Result->Shared->Prop}{E:Value->Shared->Prop}(S:CompSc X N' n caps scope) (hx:∀e s,X.xe e s->False) (hc:X.calm=true)
  (hi:PI X tgt iter wi) (hg:∀C s0 H0 ex,PG (C7 X N' scope C s0 H0 ex) tgt g) (ht:∀C s0 H0 ex,PTs (C7 X N' scope C s0 H0 ex) ifs tc) (he:∀C s0 H0 ex,PE (C7 X N' scope C s0 H0 ex) elt te)
  {pins:List (Addr×Obj)}{s:Shared}{σ:L2.St}{H:Hp}{Q:VK}(I:Inv X pins σ H s) (h:aA3 n caps wi g tc te σ H Q)
  (hRR:∀D C r s',r=.ok .next->(∃m,s'.heap.Ns C m/\∀h',Heap.SameBut C s'.heap h'->∃H',Inv X pins σ H' { s' with heap:=h' }/\Q (.ref D) H') ->
   (∃s2 fp σ' H2 H',s2.heap.objs.size=C/\Inv X pins σ H2 s2/\(∀b∈fp,L7 X pins H2 b)/\Inv (C7 X N' scope s2.heap.objs.size s2 H2 fp) [] σ' H' s'/\Q (.ref D) H')->RR (.ref D) C r s') :
  wpAny (model X.prog X.w) X.A (eval iter X.env) (fun x s₁=>wpAny (model X.prog X.w) X.A (pyIter x) (fun it s₂=>wpAny (model X.prog X.w) X.A (newList []) (fun acc s₃ =>
   wpAny (model X.prog X.w) X.A (newFunctionEnv scope X.env.globals (F2 X.env.cells scope.names []) [] X.env.qual none .none (some X.env)) (fun cenv s₄ =>
    codeAny (model X.prog X.w) X.A (.compStart (.ListComp elt [⟨tgt,iter,ifs,0⟩] scope pos) 0 it acc { cenv with scope:=relabel scope X.env }) (RR acc cenv.locals) s₄) E s₃) E s₂) E s₁) E s:=by
 refine wpAny_mono (hi pins s σ H _ I h) (fun v s1 h1=>wpAny_mono h1 (fun itv s2 h2=>?_) fun _ _ z=>(hx _ _ z).elim) fun _ _ z=>(hx _ _ z).elim
 obtain⟨it,fp,tn,J,H2,e,I2,T,st2,f2,R⟩:=h2
 subst e
 refine wpAny_newObj_type (wpAny_newFunctionEnv S.cell (by intro y hy;simp at hy) (fun h₁ hns₁ hsb₁=>?_) S.kind)
 dsimp only at hns₁ hsb₁ ⊢
 obtain⟨W,⟨m0,w0⟩,turn⟩:=R s2.heap.objs.size (I2.hok.fresh (Nat.le_refl _))
 have lt2:∀b∈fp,b < s2.heap.objs.size:=fun b hb=>by
  obtain⟨o,ho,_⟩:=T.obj _ _ st2 b hb
  exact Heap.lt_size ho
 have I3:Inv X pins σ (upd H2 s2.heap.objs.size (.lst [])) { s2 with heap:=s2.heap.push { cls:=.type "list", dict:=none,data:=.seq ([]:List Value).toArray } } :=
  I2.laid (t':=s2.toks) (fun b u e=>Heap.get?_push_of_some _ e) (Nat.le_refl _) ⟨Nat.zero_le _,[],0,.nil,Heap.get?_push_size _ rfl⟩
 generalize hs3:({ s2 with heap:=s2.heap.push { cls:=.type "list", dict:=none,data:=.seq ([]:List Value).toArray } }:Shared)=s3 at I3
 have es3:s3.heap=s2.heap.push { cls:=.type "list", dict:=none,data:=.seq ([]:List Value).toArray }:=by rw[← hs3]
 rw[← es3]at hns₁ hsb₁ ⊢
 have keep3:∀b o,s3.heap.get? b=some o->h₁.get? b=some o:=fun b o e=>hsb₁.extBut b o (Nat.ne_of_lt (Heap.lt_size e)) (Heap.get?_push_of_some _ e)
 have lt3:∀b∈fp,b < s3.heap.objs.size:=fun b hb=>by rw[es3,Heap.size_push];exact Nat.lt_succ_of_lt (lt2 b hb)
 have f3:∀b∈fp,L7 X pins (upd H2 s2.heap.objs.size (.lst [])) b:=fun b hb=>⟨by rw[A7 (Nat.ne_of_lt (lt2 b hb))];exact(f2 b hb).1,(f2 b hb).2⟩
 generalize hH3:upd H2 s2.heap.objs.size (HO.lst [])=H3 at I3 f3 w0
 have fin3:∀{σ':L2.St}{H':Hp}{pl:List (Addr×Obj)},(∀b∈fp,H' b=none)->(∀p∈pl,False)->∀b∈fp,L7 (C7 X N' scope s3.heap.objs.size s3 H3 fp) pl H' b:=fun{σ' H' pl} hn hp b hb=>by
  refine⟨hn b hb,Nat.ne_of_lt (lt3 b hb),fun z=>?_,.inl hb,fun x c e=>?_,fun p hp'=>?_⟩
  ·rcases List.mem_cons.mp (I3.stkSub b z) with z|z
   ·exact(f3 b hb).2.1 z
   ·exact(f3 b hb).2.2.1 z
  ·have hm:=PySem.mem_of_lookup e
   rcases S6 hm with q|⟨q1,q2⟩
   ·cases q
   ·obtain⟨c',hc'⟩:=I3.ok.has x (S.free _ q1 rfl)
    rw[hc']at q2
    have q2':c=c':=q2
    subst q2'
    exact(f3 b hb).2.2.2.2.1 x c hc'
  ·exact(hp p (by simpa [C7] using hp')).elim
 have toks:∃tk,({ s2 with heap:=h₁,toks:=s2.toks+([]:List (Str×Value)).length }:Shared)={ s3 with heap:=h₁,toks:=tk }:=⟨s2.toks,by rw[← hs3];rfl⟩
 obtain⟨tk,htk⟩:=toks
 have st4:tn 0 h₁:=T.keep 0 s2.heap h₁ st2 fun b hb o e=>keep3 b o (by rw[es3];exact Heap.get?_push_of_some _ e)
 have I4:Inv (C7 X N' scope s3.heap.objs.size s3 H3 fp) [] (U4 n caps σ) H3 { s3 with heap:=h₁,toks:=tk }:=ax7 S I3 f3 lt3 hns₁ keep3
 have loop:codeAny (model X.prog X.w) X.A (.compLoop (.ListComp elt [⟨tgt,iter,ifs,0⟩] scope pos) 0 (.ref it) (.ref s2.heap.objs.size) (compEnvC scope (F2 X.env.cells scope.names []) s3.heap.objs.size X.env)) (RR (.ref s2.heap.objs.size) s3.heap.objs.size) { s3 with heap:=h₁,toks:=tk }:=by
  refine af2 (fun k s'=>∃i ys σ' H',Inv (C7 X N' scope s3.heap.objs.size s3 H3 fp) [] σ' H' s'/\tn i s'.heap/\(∀b∈fp,H' b=none)/\W i k ys σ' H') ?_ m0 ⟨0,[],_,H3,I4,st4,fun b hb=>(f3 b hb).1,w0⟩
  rintro k s5 ⟨i,ys,σ5,H5,I5,st5,fr5,w5⟩
  have pz:∀p∈([]:List (Addr×Obj)),False:=fun p hp=>by cases hp
  rcases turn i k ys σ5 H5 w5 with⟨stop,qn⟩|⟨go,step⟩
  ·refine wpAny_mono (T.done (C7 X N' scope s3.heap.objs.size s3 H3 fp) rfl rfl rfl hc i [] s5 σ5 H5 (fun _ _=>False) I5 (fin3 (σ':=σ5) fr5 pz) st5 stop) (fun r s6 ⟨hr,I6⟩=>?_) fun _ _ z=>z
   subst hr
   obtain⟨m6,hn6,_⟩:=I6.loc
   refine hRR _ _ _ s6 rfl ⟨m6,hn6,fun h' sb=>⟨H5,af3 I3 f3 I6 sb,qn⟩⟩ ⟨s3,fp,σ5,H3,H5,rfl,I3,f3,I6,qn⟩
  ·refine wpAny_mono (T.item (C7 X N' scope s3.heap.objs.size s3 H3 fp) rfl rfl rfl hc i [] s5 σ5 H5 (fun _ _=>False) I5 (fin3 (σ':=σ5) fr5 pz) st5 go) (fun r s6 ⟨u,hr,h6⟩=>?_) fun _ _ z=>z
   subst hr
   refine wpAny_mono h6 (fun _ s7 ⟨x,H7,I7,r7,y7,st7,fr7⟩=>?_) fun _ _ z=>z
   have I7':=I7.pinned (fin3 (σ':=σ5) fr7 pz) (T.obj _ _ st7)
   refine wpAny_mono (hg _ _ _ _ _ s7 σ5 H7 x u _ I7' r7 (step x H7 y7)) (fun _ s8 ⟨σ8,H8,I8,q8⟩=>?_) fun _ _ z=>z
   refine wpAny_mono (ht _ _ _ _ _ s8 σ8 H8 _ I8 q8) (fun ok s9 ⟨H9,I9,q9⟩=>?_) fun _ _ z=>z
   have again:∀{σ':L2.St}{H':Hp}{s':Shared},Inv (C7 X N' scope s3.heap.objs.size s3 H3 fp) ([]++c6 fp s7.heap) σ' H' s'->Inv (C7 X N' scope s3.heap.objs.size s3 H3 fp) [] σ' H' s'/\tn (i+1) s'.heap/\∀b∈fp,H' b=none:=fun{σ' H' s'} I'=>by
    refine⟨I'.unpinned,T.keep _ _ _ st7 fun b hb o e=>(I'.pin (b,o) (List.mem_append_right _ (List.mem_append_right _ (K4 hb e)))).1,fun b hb=>?_⟩
    obtain⟨o,e,d⟩:=T.obj _ _ st7 b hb
    exact(I'.pin (b,o) (List.mem_append_right _ (List.mem_append_right _ (K4 hb e)))).2.1
   cases ok with
   | false =>
    rw[if_neg Bool.false_ne_true]at q9 ⊢
    obtain⟨m',hm,w'⟩:=q9
    obtain⟨a1,a2,a3⟩:=again I9
    exact⟨m',hm,i+1,ys,σ8,H9,a1,a2,a3,w'⟩
   | true =>
    rw[if_pos rfl]at q9 ⊢
    refine wpAny_mono (he _ _ _ _ _ s9 σ8 H9 _ I9 q9) (fun y s10 ⟨vy,H10,I10,r10,q10,z10,m',hm,w'⟩=>?_) fun _ _ z=>z
    refine wpAny_mono (c7 (X:=C7 X N' scope s3.heap.objs.size s3 H3 fp) _ s10 σ8 H10 (.ref s2.heap.objs.size) [vy] _ _ (fun v H'=>v=.non/\H'=upd H10 s2.heap.objs.size (.lst (ys++[vy]))) I10 rfl (.cons r10 .nil) ⟨_,ys,vy,rfl,rfl,q10,z10,rfl,rfl⟩) (fun _ s11 ⟨v11,H11,I11,r11,e11,e12⟩=>?_) fun _ _ z=>z
    subst e12
    obtain⟨a1,a2,a3⟩:=again I11
    exact⟨m',hm,i+1,ys++[vy],σ8,_,a1,a2,a3,w'⟩
 show codeAny (model X.prog X.w) X.A _ _ ({ s2 with heap:=h₁,toks:=s2.toks+([]:List (Str×Value)).length }:Shared)
 rw[htk]
 exact codeAny_compStart_list loop (T.self _ _ _ _ _ st4 loop)
end
end G
namespace G
open PySem PySem.Spec PyProof.Rows L2
section
variable {X:Cx}
noncomputable def tgJ(K:PySem.W.Frag) (f:D->Rho->Option Rho):TG:=fun v σ H Q=>∃d ρ ρ' H0 Hf,f d ρ=some ρ'/\B5 Hf H/\Slots K H0 ρ σ H Hf/\Rep K Hf d v/\∀σ',Slots K H0 ρ' σ' H Hf->Q σ' H
noncomputable def JG(X:Cx) (tg:Expr) (f:D->Rho->Option Rho):Prop:=PG X tg (tgJ X.K f)
noncomputable def cb0(K:PySem.W.Frag) (f:List D->Rho->Option Rho):TGs:=fun vs σ H Q=>∃ds ρ ρ' H0 Hf,f ds ρ=some ρ'/\B5 Hf H/\Slots K H0 ρ σ H Hf/\Reps K Hf ds vs/\∀σ',Slots K H0 ρ' σ' H Hf->Q σ' H
noncomputable def JGs(X:Cx) (tg:List Expr) (f:List D->Rho->Option Rho):Prop:=PGs X tg (cb0 X.K f)
noncomputable def B8(i:Nat):D->Rho->Option Rho:=fun d ρ=>some (ρ.set i (some (.val d)))
theorem aF3(i:Nat) (hN:X.N.Nodup) (hi:X.N[i]? = some x:=by rfl) (hx:Loc X.env.scope x:=by first|exact Or.inl rfl|exact Or.inr rfl) (hf:X.fn x=true\/X.env.scope.names.lookup x=some .local:=by first|exact .inl rfl|exact .inr rfl):JG X (.Name x pos) (B8 i):=by
 intro pins s σ H v u Q I r ⟨d,ρ,ρ',H0,Hf,e,ss,sl,rp,k⟩
 cases e
 exact aC9 hN hi hx hf pins s σ H v u Q I r (k _ (sl.set rp))
noncomputable def L4:List D->Rho->Option Rho:=fun ds ρ=>match ds with
 | []=>some ρ
 | _=>none
noncomputable def D6(f:D->Rho->Option Rho) (g:List D->Rho->Option Rho):List D->Rho->Option Rho:=fun ds ρ=>match ds with
 | d::r=>(f d ρ).bind fun ρ'=>g r ρ'
 | []=>none
theorem br9:JGs X [] L4:=by
 intro pins s σ H vs us Q I r ⟨ds,ρ,ρ',H0,Hf,e,ss,sl,rp,k⟩
 cases ds with
 | nil=>cases e;exact bm9 pins s σ H vs us Q I r ⟨rp,k _ sl⟩
 | cons d ds=>cases e
theorem aZ9(h1:JG X e f) (h2:JGs X es g) (hs:(assignEach (e::es) X.env).map (·.2)=assign e X.env::(assignEach es X.env).map (·.2):=by rfl):JGs X (e::es) (D6 f g):=by
 intro pins s σ H vs us Q I r ⟨ds,ρ,ρ',H0,Hf,e,ss,sl,rp,k⟩
 cases ds with
 | nil=>cases e
 | cons d ds =>
  obtain⟨ρ1,e1,e2⟩:=xbm e
  obtain⟨v,vr,rfl,q1,q2⟩:=rp
  exact aV1 h1 h2 hs pins s σ H _ us Q I r ⟨v,vr,rfl,d,ρ,ρ1,H0,Hf,e1,ss,sl,q1,fun σ' sl'=>⟨ds,ρ1,ρ',H0,Hf,e2,ss,sl',q2,k⟩⟩
noncomputable def K0(n:Nat) (g:List D->Rho->Option Rho):D->Rho->Option Rho:=fun d ρ=>match d with
 | .tuple ds=>if ds.length=n then g ds ρ else none
 | _=>none
theorem bK8(h:JGs X es g) (hc:X.calm=true:=by rfl) (hn:(assignEach es X.env).length=n:=by rfl) (hst:(assignEach es X.env).findIdx? (·.1)=none:=by rfl):JG X (.Tuple es k pos) (K0 n g):=by
 intro pins s σ H v u Q I r ⟨d,ρ,ρ',H0,Hf,e,ss,sl,rp,kk⟩
 cases d with
 | tuple ds =>
  simp only[K0]at e
  split at e
  ·rename_i hl
   obtain⟨a,vs,rfl,q1,q2⟩:=rp
   exact bF0 hc h hn hst pins s σ H _ u Q I r ⟨a,vs,rfl,B4 ss q1,by rw[q2.length,hl],ds,ρ,ρ',H0,Hf,e,ss,sl,q2,kk⟩
  ·cases e
 | _=>cases e
noncomputable def az2(K:PySem.W.Frag) (J:It) (ds:List D) (Hf1:Hp):Prop:=∀(i:Nat) (H Hf:Hp),B5 Hf1 Hf->B5 Hf H->(ds.length<=i->J.stop i H)/\∀d,ds[i]? = some d->J.go i H/\∀x H',J.yld i H x H'->∃Hf',Grow H Hf H' Hf'/\Rep K Hf' d x
noncomputable def tiJ(K:PySem.W.Frag) (ρ:Rho) (ds:List D):TI:=fun σ H R=>∃H0 Hf,B5 Hf H/\Slots K H0 ρ σ H Hf/\∀J H' Hf',Grow H Hf H' Hf'->az2 K J ds Hf'->R J H'
noncomputable def JI(X:Cx) (tg iter:Expr) (f:Rho->Option (List D)):Prop:=∀ρ ds,f ρ=some ds->PI X tg iter (tiJ X.K ρ ds)
theorem av5(h:PI X tg iter t) (i:∀σ H R,t' σ H R->t σ H R):PI X tg iter t':=fun pins s σ H R I q=>h pins s σ H R I (i σ H R q)
noncomputable def G4(f:DE):Rho->Option (List D):=fun ρ=>(f ρ).bind fun d=>match d with
 | .list ds=>some ds
 | .tuple ds=>some ds
 | _=>none
theorem aw4(h:JE X e f):JI X tg e (G4 f):=fun ρ ds q=>by
 obtain⟨d,e1,e2⟩:=xbm q
 cases d with
 | list xs =>
  cases e2
  refine av5 (bm8 (h ρ _ e1)) fun σ H R ⟨H0,Hf,s,sl,k⟩=>⟨H0,Hf,s,sl,fun v H1 Hf1 g1 ⟨a,vs,h1,h2,h3⟩=>⟨a,h1,⟨vs,C9 g1.sub h2⟩,k _ H1 Hf1 g1 ?_⟩⟩
  intro i H' Hf' sa sb
  have q':SqL X.K H' a vs:=C9 (sa.trans sb) h2
  refine⟨fun hi=>⟨vs,q',by rw[h3.length];exact hi⟩,fun d hd=>?_⟩
  obtain⟨v,w1,w2⟩:=h3.get hd
  refine⟨⟨vs,v,q',w1⟩,fun x H'' hy=>?_⟩
  obtain⟨rfl,hy⟩:=hy
  have:=hy vs q'
  rw[w1]at this;cases this
  exact⟨Hf',Grow.refl sb,w2.mono sa⟩
 | tuple xs =>
  cases e2
  refine av5 (aV0 (h ρ _ e1)) fun σ H R ⟨H0,Hf,s,sl,k⟩=>⟨H0,Hf,s,sl,fun v H1 Hf1 g1 ⟨a,vs,h1,h2,h3⟩=>⟨a,h1,⟨vs,B4 g1.sub h2⟩,k _ H1 Hf1 g1 ?_⟩⟩
  intro i H' Hf' sa sb
  have q':SqT X.K H' a vs:=B4 (sa.trans sb) h2
  refine⟨fun hi=>⟨vs,q',by rw[h3.length];exact hi⟩,fun d hd=>?_⟩
  obtain⟨v,w1,w2⟩:=h3.get hd
  refine⟨⟨vs,v,q',w1⟩,fun x H'' hy=>?_⟩
  obtain⟨rfl,hy⟩:=hy
  have:=hy vs q'
  rw[w1]at this;cases this
  exact⟨Hf',Grow.refl sb,w2.mono sa⟩
 | _=>cases e2
noncomputable def P9(lo hi:Int):List D:=(List.range (hi - lo).toNat).map fun(i:Nat)=>PyData.int (lo+i)
theorem ag4{K:PySem.W.Frag}{lo hi:Int}{Hf1:Hp}:az2 K (Itr lo (hi - lo).toNat) (P9 lo hi) Hf1:=by
 intro i H Hf sa sb
 have hl:(P9 lo hi).length=(hi - lo).toNat:=by simp[P9]
 refine⟨fun h=>by rw[hl]at h;exact h,fun d hd=>?_⟩
 have hi':i < (hi - lo).toNat:=by
  have:=(List.getElem?_eq_some_iff.mp hd).1
  rw[hl]at this;exact this
 refine⟨hi',fun x H' hy=>?_⟩
 obtain⟨e1,e2⟩:=hy
 subst e1 e2
 have:d=.int (lo+i):=by
  have:(P9 lo hi)[i]? = some (.int (lo+i)):=by simp[P9,hi']
  rw[hd]at this;cases this;rfl
 subst this
 exact⟨Hf,Grow.refl sb,rfl⟩
noncomputable def F9(f:DE):Rho->Option (List D):=fun ρ=>(f ρ).bind fun d=>match d with
 | .int j=>if -(2 ^ 62)<=j/\j < 2 ^ 62 then some (P9 0 j) else none
 | _=>none
theorem aM7{tg e:Expr}{f:DE}{p pos:Pos}(hg:Gl X "range") (hm:X.mg "range" = none) (h:JE X e f) (hs:starEach [e] X.env=[(false,eval e X.env)]:=by rfl):JI X tg (.Call (.Name "range" p) [e] [] pos) (F9 f):=fun ρ ds q=>by
 obtain⟨d,e1,e2⟩:=xbm q
 split at e2
 ·split at e2
  ·rename_i j c
   cases e2
   refine av5 (aL3 hg hm (C0 (h ρ _ e1) E3 hs) hs) fun σ H R ⟨H0,Hf,s,sl,k⟩=>⟨H0,Hf,s,sl,fun v H1 Hf1 g1 r=>⟨j,by rw[show v=_ from r],c.1,c.2,k _ H1 Hf1 g1 ?_⟩⟩
   have:=ag4 (K:=X.K) (lo:=0) (hi:=j) (Hf1:=Hf1)
   rw[Int.sub_zero]at this
   exact this
  ·cases e2
 ·cases e2
theorem Grow.nofr(g:Grow H Hf H' Hf') (h:H a=some o) (n:Hf a=none):Hf' a=none:=by
 cases q:Hf' a with
 | none=>rfl
 | some u =>
  rcases g.new a (by rw[q];simp) with z|z
  ·exact absurd n z
  ·rw[h]at z;cases z
noncomputable def Z1(n:Nat) (caps:List Nat) (ρ:Rho):Rho:=List.replicate n none++caps.map fun j=>match ρ[j]? with
 | some (some (.val d))=>some (.val d)
 | _=>none
noncomputable def G8(g:D->Rho->Option Rho) (c:Rho->Option Bool) (e:DE):List D->Rho->Option (List D)
 | [],_=>some []
 | d::ds,ρ=>(g d ρ).bind fun ρ1=>(c ρ1).bind fun b=>if b then(e ρ1).bind fun y=>(G8 g c e ds ρ1).map fun r=>y::r else G8 g c e ds ρ1
noncomputable def C2(n:Nat) (caps:List Nat) (src:Rho->Option (List D)) (g:D->Rho->Option Rho) (c:Rho->Option Bool) (e:DE):Rho->Option (List D):=fun ρ=>(src ρ).bind fun ds=>if ds.length<=16777216 then G8 g c e ds (Z1 n caps ρ) else none
noncomputable def u9(K:PySem.W.Frag) (c:Rho->Option Bool):TT:=fun σ H Q=>∃ρ b,c ρ=some b/\∃H0 Hf,B5 Hf H/\Slots K H0 ρ σ H Hf/\∀H' Hf',Grow H Hf H' Hf'->Q b H'
noncomputable def am2(K:PySem.W.Frag) (e:DE):TE:=fun σ H Q=>∃ρ d,e ρ=some d/\tJ K ρ (fun _ v _ Hf=>Rep K Hf d v) σ H Q
noncomputable def JTs(X:Cx) (ifs:List Expr) (c:Rho->Option Bool):Prop:=PTs X ifs (u9 X.K c)
noncomputable def F5:Rho->Option Bool:=fun _=>some true
theorem bq3:JTs X [] F5:=fun pins s σ H Q I ⟨ρ,b,e,H0,Hf,ss,sl,k⟩=>by
 cases e
 exact bm0 pins s σ H Q I (k H Hf (Grow.refl ss))
theorem bq2(h:JT X e c):JTs X [e] c:=fun pins s σ H Q I ⟨ρ,b,e,H0,Hf,ss,sl,k⟩=>bl9 (h ρ b e) pins s σ H Q I ⟨H0,Hf,ss,sl,k⟩
theorem ay1{K:PySem.W.Frag}{n:Nat}{caps:List Nat}{H0 H H1 H' Hf:Hp}{ρ:Rho}{σ:L2.St}(sl:Slots K H0 ρ σ H Hf):Slots K H1 (Z1 n caps ρ) (U4 n caps σ) H' Hf:=by
 have noown:∀(i:Nat) (ds:List D),(Z1 n caps ρ)[i]?≠some (some (.own ds)):=fun i ds h=>by
  unfold Z1 at h
  rcases Nat.lt_or_ge i n with q|q
  ·rw[List.getElem?_append_left (by simpa using q),List.getElem?_replicate,if_pos q]at h;cases h
  ·rw[List.getElem?_append_right (by simpa using q),List.getElem?_map]at h
   cases hj:caps[i - (List.replicate n (none:Option B)).length]? with
   | none=>rw[hj]at h;cases h
   | some j =>
    rw[hj]at h
    simp only[Option.map_some,Option.some.injEq]at h
    split at h<;>cases h
 refine⟨by simp[Z1,U4],fun i b e=>?_,fun i j ds es a h1=>(noown i ds h1).elim⟩
 unfold Z1 at e
 unfold U4
 rcases Nat.lt_or_ge i n with q|q
 ·rw[List.getElem?_append_left (by simpa using q),List.getElem?_replicate,if_pos q]at e;cases e
 ·rw[List.getElem?_append_right (by simpa using q),List.getElem?_map]at e
  rw[List.getElem?_append_right (by simpa using q),List.getElem?_map]
  simp only[List.length_replicate]at e ⊢
  cases hj:caps[i - n]? with
  | none=>rw[hj]at e;cases e
  | some j =>
   rw[hj]at e
   simp only[Option.map_some,Option.some.injEq]at e ⊢
   split at e
   ·rename_i d hd
    cases e
    obtain⟨v,h1,h2⟩:=sl.is j _ hd
    exact⟨v,by rw[h1];rfl,h2⟩
   ·cases e
theorem Q5{K:PySem.W.Frag}{n:Nat}{caps:List Nat}{ρ:Rho}{src:Rho->Option (List D)}{g:D->Rho->Option Rho}{c:Rho->Option Bool}{e:DE}{out:List D}(h:C2 n caps src g c e ρ=some out) :
  ∃ds,src ρ=some ds/\∀σ H Q,tJ K ρ (fun H v H' Hf'=>∃a vs,v=.ref a/\H a=none/\H' a=some (.lst vs)/\Hf' a=none/\Reps K Hf' out vs) σ H Q->aA3 n caps (tiJ K ρ ds) (tgJ K g) (u9 K c) (am2 K e) σ H Q:=by
 obtain⟨ds,e1,e2⟩:=xbm h
 split at e2
 ·rename_i hz
  refine⟨ds,e1,fun σ H Q ⟨H0,Hf,s,sl,k⟩=>⟨H0,Hf,s,sl,fun J H1 Hf1 g1 Y Dd hD=>?_⟩⟩
  refine⟨fun i m ys σ' H'=>m=ds.length - i/\i<=ds.length/\∃Hf' ρ' o1 o2,Grow H1 Hf1 H' Hf'/\H' Dd=some (.lst ys)/\Hf' Dd=none/\Slots K (upd H1 Dd (.lst [])) ρ' σ' H' Hf'/\Reps K Hf' o1 ys/\o1.length<=i/\G8 g c e (ds.drop i) ρ'=some o2/\o1++o2=out,
   ⟨ds.length,by simp,Nat.zero_le _,Hf1,Z1 n caps ρ,[],out,Grow.made g1.sub hD,A6,g1.sub.free hD,ay1 (sl.grow g1),rfl,Nat.le_refl _,by simpa using e2,rfl⟩,?_⟩
  rintro i m ys σ' H' ⟨rfl,hi,Hf',ρ',o1,o2,gr,hd1,hd2,sl',rp,ho,ec,eo⟩
  obtain⟨Ys,Yg⟩:=Y i H' Hf' gr.ext gr.sub
  rcases Nat.lt_or_ge i ds.length with hlt|hge
  ·right
   obtain⟨go,yl⟩:=Yg ds[i] (by simp[hlt])
   refine⟨go,fun x H2 hy=>?_⟩
   obtain⟨Hf2,g2,r2⟩:=yl x H2 hy
   rw[List.drop_eq_getElem_cons hlt]at ec
   obtain⟨ρ1,c1,ec⟩:=xbm ec
   obtain⟨b,c2,ec⟩:=xbm ec
   refine⟨ds[i],ρ',ρ1,_,Hf2,c1,g2.sub,sl'.grow g2,r2,fun σ3 sl3=>⟨ρ1,b,c2,_,Hf2,g2.sub,sl3,fun H4 Hf4 g4=>?_⟩⟩
   have gr4:=(gr.trans g2).trans g4
   have hd4:H4 Dd=some (.lst ys):=g4.big _ _ (g2.big _ _ hd1)
   have hf4:Hf4 Dd=none:=(g2.trans g4).nofr hd1 hd2
   have rp4:=rp.mono (g2.trans g4).ext
   cases b with
   | false =>
    rw[if_neg Bool.false_ne_true]at ec
    refine aa6 ?_
    exact⟨ds.length - (i+1),by grind,rfl,hlt,Hf4,ρ1,o1,o2,gr4,hd4,hf4,sl3.grow g4,rp4,by grind,ec,eo⟩
   | true =>
    rw[if_pos rfl]at ec
    refine aa5 ?_
    obtain⟨y,c3,ec⟩:=xbm ec
    obtain⟨o3,c4,rfl⟩:=Option.map_eq_some_iff.mp ec
    refine⟨ρ1,y,c3,_,Hf4,g4.sub,sl3.grow g4,fun v H5 Hf5 g5 r5=>⟨g5.big _ _ hd4,?_,?_⟩⟩
    ·rw[rp.length,sizeLine_eq];grind
    ·have hf5:Hf5 Dd=none:=g5.nofr hd4 hf4
     have gr5:=gr4.trans g5
     refine⟨ds.length - (i+1),by grind,rfl,hlt,Hf5,ρ1,o1++[y],o3,⟨fun b u q=>?_,fun b u q=>?_,gr5.ext,gr5.new⟩,A6,hf5,?_,(rp4.mono g5.ext).append ⟨v,[],rfl,r5,rfl⟩,by simp;grind,c4,by simp[← eo]⟩
     ·rw[A7 (A8 q hD)];exact gr5.big b u q
     ·rw[A7 (A8 q hf5)];exact gr5.sub b u q
     ·have sl5:=(sl3.grow g4).grow g5
      refine⟨sl5.len,fun j bb q=>?_,sl5.apart⟩
      obtain⟨w,q1,q2⟩:=sl5.is j bb q
      refine⟨w,q1,?_⟩
      cases bb with
      | val d=>exact q2
      | exc C=>exact q2
      | opq _=>exact q2
      | own dd =>
       obtain⟨a,vs,z1,z2,z3,z4,z5⟩:=q2
       have ne:a≠Dd:=fun z=>by rw[z,A6]at z4;cases z4
       exact⟨a,vs,z1,by rw[A7 ne];exact z2,z3,z4,z5⟩
  ·left
   have:i=ds.length:=by grind
   subst this
   rw[List.drop_length]at ec
   cases ec
   rw[List.append_nil]at eo
   subst eo
   exact⟨Ys (Nat.le_refl _),k _ H' Hf' (g1.trans gr) ⟨Dd,ys,rfl,g1.big.free hD,hd1,hd2,rp⟩⟩
 ·cases e2
end
end G
namespace G
open PySem PySem.Spec PyProof.Rows L2
section
variable {X:Cx}
noncomputable def t8(N N':List Str) (n:Nat) (caps:List Nat) (sc scope:Scope):Bool :=
 (match scope.kind with | .function=>true|_=>false) &&
 (scope.names.all fun y=>(match y.2 with | .cell=>false | .local=>scope.names.lookup y.1==some .local | .free=>sc.names.lookup y.1==some .cell || sc.names.lookup y.1==some .free|_=>true)) &&
 (N'.length==n+caps.length) &&
 ((List.range caps.length).all fun i=>match caps[i]? with
  | some j=>(match N[j]? with|some x=>N'[n+i]? == some x&&scope.names.lookup x==some .free|none=>false)
  | none=>true)
theorem aO6(h:t8 N N' n caps sc scope=true) (hN:X.N=N) (hS:X.env.scope=sc):CompSc X N' n caps scope:=by
 subst hN hS
 unfold t8 at h
 simp only[Bool.and_eq_true,List.all_eq_true]at h
 obtain⟨⟨⟨h1,h2⟩,h3⟩,h4⟩:=h
 refine⟨?_,fun y hy e=>?_,fun y hy e=>?_,fun y hy e=>?_,by simpa using h3,fun i j e=>?_⟩
 ·cases q:scope.kind<;>rw[q]at h1<;>first|rfl|cases h1
 ·have:=h2 y hy
  rw[e]at this;cases this
 ·have:=h2 y hy
  rw[e]at this;simpa using this
 ·have:=h2 y hy
  rw[e]at this;simpa using this
 ·have hi:i < caps.length:=(List.getElem?_eq_some_iff.mp e).1
  have:=h4 i (by simpa using hi)
  rw[e]at this
  simp only at this
  cases q:X.N[j]? with
  | none=>rw[q]at this;cases this
  | some x =>
   rw[q]at this
   simp only[Bool.and_eq_true]at this
   exact⟨x,rfl,by simpa using this.1,by simpa using this.2⟩
theorem aH3(S:CompSc X N' n caps scope) (I:Inv X pins σ H s):closureFor scope X.env=pure (F2 X.env.cells scope.names []) :=
 aH4 fun y hy e=>I.ok.has y.1 (S.free y hy e)
theorem br6(S:CompSc X N' n caps scope) (hx:∀e s,X.xe e s->False)
  (hi:JI X tgt iter src) (hg:∀C s0 H0 ex,JG (C7 X N' scope C s0 H0 ex) tgt g) (ht:∀C s0 H0 ex,JTs (C7 X N' scope C s0 H0 ex) ifs c) (he:∀C s0 H0 ex,JE (C7 X N' scope C s0 H0 ex) elt e)
  (hc:X.calm=true:=by rfl) (hs:∀x,foldedSetIterable iter X.env x=pure x:=by intro _;rfl):JN X (.ListComp elt [⟨tgt,iter,ifs,0⟩] scope pos) (C2 n caps src g c e):=by
 intro ρ out h
 obtain⟨ds,e1,k⟩:=Q5 (K:=X.K) h
 intro pins s σ H Q I t
 rw[eval_ListComp]
 refine wpAny_comprehension_free (use:=none) rfl hs (aH3 S I) S.kind S.loc (as3 (RR:=fun acc C=>compPost (model X.prog X.w) X.A X.xe none (EP X pins σ Q) acc C) S hx hc (hi ρ ds e1) (g:=tgJ X.K g) (tc:=u9 X.K c) (te:=am2 X.K e) hg ht (fun C s0 H0 ex pins s σ H Q I ⟨ρ,d,e,t⟩=>he C s0 H0 ex ρ d e pins s σ H Q I t) I (k σ H Q t) ?_)
 intro Dd C r s' hr ⟨m,hn,kk⟩ _
 subst hr
 exact⟨m,hn,fun h' sb=>let⟨H',I',q⟩:=kk h' sb;⟨.ref Dd,H',I',rfl,q⟩⟩
theorem x9(S:CompSc X N' n caps scope) (hx:∀e s,X.xe e s->False) (hc:X.calm=true)
  (hN:X.N.Nodup) (hi:X.N[i]? = some x) (hl:X.env.scope.names.lookup x=some .local) (hsrc:PI X tgt iter wi) (hg:∀C s0 H0 ex,PG (C7 X N' scope C s0 H0 ex) tgt g) (ht:∀C s0 H0 ex,PTs (C7 X N' scope C s0 H0 ex) ifs tc) (he:∀C s0 H0 ex,PE (C7 X N' scope C s0 H0 ex) elt te)
  (hsw:swapsWith (.ListComp elt [⟨tgt,iter,ifs,0⟩] scope pos) (some (.Name x pos')) spos.line X.env=pure true) (hs:∀x,foldedSetIterable iter X.env x=pure x) :
  PS X (.Assign [.Name x pos'] (.ListComp elt [⟨tgt,iter,ifs,0⟩] scope pos) spos) (fun En σ H=>aA3 n caps wi g tc te σ H fun v H'=>En.nx (σ.set i (some v)) H'):=by
 intro pins s σ H En I h
 rw[exec_Assign_Name_used _ _ _ _ hsw]
 refine wpAny_bind (wpAny_standAt (wpAny_bind ?_))
 show wpAny _ X.A (do let _ ← comprehension (.ListComp elt [⟨tgt,iter,ifs,0⟩] scope pos) scope X.env _ (newList []) false (eval iter X.env) (some (assign (.Name x pos') X.env))) _ _ s
 refine wpAny_bind (wpAny_mono (wpAny_comprehension_free (use:=some (assign (.Name x pos') X.env)) (Q:=fun _ s'=>SP X pins En .next s') rfl hs (aH3 S I) S.kind S.loc
  (as3 (RR:=fun acc C=>compPost (model X.prog X.w) X.A X.xe (some (assign (.Name x pos') X.env)) (fun _ s'=>SP X pins En .next s') acc C) S hx hc hsrc hg ht he I h ?_)) (fun _ s' hq=>wpAny_pure (wpAny_pure hq)) fun _ _ z=>z)
 intro Dd C r s' hr _ ⟨s2,fp,σ',H2,H',eC,I2,f2,I',q⟩
 subst hr eC
 have IX:Inv X pins σ H' s':=af3 (h':=s'.heap) I2 f2 I' (Heap.SameBut.refl ..)
 obtain⟨mC,hnC,_⟩:=I'.loc
 have hCL:s2.heap.objs.size≠X.env.locals:=fun z=>by
  have:=I2.lt
  rw[← z]at this
  exact Nat.lt_irrefl _ this
 show wpAny _ X.A (assign (.Name x pos') X.env (.ref Dd)) _ _ _
 refine wpAny_assign_Name (ad6 (v:=.ref Dd) IX hN hi (.inl hl) rfl (fun s3 I3 ⟨a,sb,ha⟩=>?_) (.inr hl))
 have hCa:s2.heap.objs.size≠a:=fun z=>by
  rcases ha with ha|ha
  ·exact hCL (z.trans ha)
  ·obtain⟨v,q'⟩:=I2.cell x a ha
   have:=q'.lt
   rw[← z]at this
   exact Nat.lt_irrefl _ this
 refine⟨mC,hnC.sameBut sb hCa,fun h' sb'=>?_⟩
 refine⟨_,H',I3.turned (t':=s3.toks) (it:=s2.heap.objs.size) (fun b o hb e=>sb'.extBut b o hb e) I'.free hCL (.inr I2.sz) (fun y c e z=>?_) (fun p hp z=>?_),q⟩
 ·obtain⟨v,q'⟩:=I2.cell y c e
  have:=q'.lt
  rw[z]at this
  exact Nat.lt_irrefl _ this
 ·have:=Heap.lt_size (I2.pin p hp).1
  rw[z]at this
  exact Nat.lt_irrefl _ this
noncomputable def w6(i:Nat) (f:Rho->Option (List D)):DS:=fun ρ=>(f ρ).map fun ds=>.nx (ρ.set i (some (.val (.list ds))))
theorem br0(i:Nat) (hN:X.N.Nodup) (S:CompSc X N' n caps scope) (hx:∀e s,X.xe e s->False)
  (hi:JI X tgt iter src) (hg:∀C s0 H0 ex,JG (C7 X N' scope C s0 H0 ex) tgt g) (ht:∀C s0 H0 ex,JTs (C7 X N' scope C s0 H0 ex) ifs c) (he:∀C s0 H0 ex,JE (C7 X N' scope C s0 H0 ex) elt e)
  (hi2:X.N[i]? = some x:=by rfl) (hl:X.env.scope.names.lookup x=some .local:=by rfl) (hsw:swapsWith (.ListComp elt [⟨tgt,iter,ifs,0⟩] scope pos) (some (.Name x pos')) spos.line X.env=pure true:=by rfl)
  (hc:X.calm=true:=by rfl) (hs:∀x,foldedSetIterable iter X.env x=pure x:=by intro _;rfl):JS X (.Assign [.Name x pos'] (.ListComp elt [⟨tgt,iter,ifs,0⟩] scope pos) spos) (w6 i (C2 n caps src g c e)):=fun ρ fl q H0 Hf0=>by
 obtain⟨out,e1,e2⟩:=Option.map_eq_some_iff.mp q
 subst e2
 obtain⟨ds,e3,k⟩:=Q5 (K:=X.K) e1
 refine F7 (x9 S hx hc hN hi2 hl (hi ρ ds e3) (g:=tgJ X.K g) (tc:=u9 X.K c) (te:=am2 X.K e) hg ht (fun C s0 H0 ex pins s σ H Q I ⟨ρ,d,e,t⟩=>he C s0 H0 ex ρ d e pins s σ H Q I t) hsw hs) fun En σ H ⟨Hf,a,ee⟩=>k σ H _ ⟨H0,Hf,a.gr.sub,a.sl,fun v H' Hf' gg ⟨p,vs,z1,z2,z3,z4,z5⟩=>?_⟩
 subst z1
 have g2:=gg.freeze z3 z4 z2
 exact ee _ H' _ ⟨a.gr.trans g2,(a.sl.grow g2).set ⟨p,vs,rfl,SqL.of A6,z5.mono (B9 z4)⟩⟩ g2.ext
theorem bJ3{kt k2 pt2} (hN:X.N.Nodup) (ha:JA X [a,b] f) (hw:swappedStores [.Tuple [.Name x px,.Name y py] kt pt] (.Tuple [a,b] k2 pt2) X.env=pure (some [x,y])) (hij:i≠j)
  (hi:X.N[i]? = some x:=by rfl) (hj:X.N[j]? = some y:=by rfl) (hx:X.env.scope.names.lookup x=some .local:=by rfl) (hy:X.env.scope.names.lookup y=some .local:=by rfl) (hc:X.calm=true:=by rfl)
  (hs:swapsWithSole [.Tuple [.Name x px,.Name y py] kt pt] (.Tuple [a,b] k2 pt2) pos.line X.env=pure false:=by rfl):JS X (.Assign [.Tuple [.Name x px,.Name y py] kt pt] (.Tuple [a,b] k2 pt2) pos) (ah5 i j f):=fun ρ fl q H0 Hf0=>by
 obtain⟨ds,e1,e2⟩:=xbm q
 split at e2
 ·cases e2
  refine F7 (bE6 hc hN hi hj hij hx hy (fun pos pins s σ H Q I t=>ha.run ρ _ e1 pos pins s σ H Q I t) hw hs) fun En σ H ⟨Hf,at',e⟩=>⟨H0,Hf,at'.gr.sub,at'.sl,fun vs H' Hf' gg rp=>?_⟩
  obtain⟨v,r,rfl,r1,w,r',rfl,r2,r3⟩:=rp
  cases r3
  exact⟨v,w,rfl,e _ H' Hf' ⟨at'.gr.trans gg,((at'.sl.grow gg).set r1).set r2⟩ gg.ext⟩
 ·cases e2
noncomputable def aK8(f:DE) (g:D->Rho->Option Rho):DS:=fun ρ=>(f ρ).bind fun d=>(g d ρ).map Fl.nx
theorem aY8(he:JE X e f) (hg:JG X tg g) (hs:swapsWithSole [tg] e pos.line X.env=pure false:=by rfl) (hw:swappedStores [tg] e X.env=pure none:=by rfl)
  (h1:(assignEach [tg] X.env).map (·.2)=[assign tg X.env]:=by rfl):JS X (.Assign [tg] e pos) (aK8 f g):=fun ρ fl q H0 Hf0=>by
 obtain⟨d,e1,e2⟩:=xbm q
 obtain⟨ρ',e3,e4⟩:=Option.map_eq_some_iff.mp e2
 subst e4
 exact F7 (bE8 (he ρ d e1) hg hs hw h1) fun En σ H ⟨Hf,a,ee⟩=>⟨H0,Hf,a.gr.sub,a.sl,fun v H' Hf' gg r=>⟨d,ρ,ρ',H0,Hf',e3,gg.sub,a.sl.grow gg,r,fun σ' sl'=>ee σ' H' Hf' ⟨a.gr.trans gg,sl'⟩ gg.ext⟩⟩
noncomputable def au6(i:Nat) (f:Rho->Option (List D)):DS:=fun ρ=>(f ρ).map fun ds=>.nx (ρ.set i (some (.own ds)))
theorem Slots.setOwn{K:PySem.W.Frag}{H0 H H' Hf Hf':Hp}{ρ:Rho}{σ:L2.St}{i:Nat}{ds:List D}{a:Addr}{vs:List V}(s:Slots K H0 ρ σ H Hf) (g:Grow H Hf H' Hf') (n0:H0 a=none) (n:H a=none) (h:H' a=some (.lst vs)) (nf:Hf' a=none) (r:Reps K Hf' ds vs) :
  Slots K H0 (ρ.set i (some (.own ds))) (σ.set i (some (.ref a))) H' Hf':=by
 have s':=s.grow g
 have old:∀(j:Nat) (es:List D),i≠j->ρ[j]? = some (some (.own es))->σ[j]?≠some (some (.ref a)):=fun j es hj e z=>by
  obtain⟨v,h1,b,us,e1,h2,_⟩:=s.is j _ e
  rw[z]at h1;cases h1;cases e1
  rw[n]at h2;cases h2
 refine⟨by simp[s.len],fun j b e=>?_,fun j k ds1 es b h1 h2 h3 h4=>?_⟩
 ·by_cases q:i=j
  ·subst q
   have hi:i < ρ.length:=by simpa using (List.getElem?_eq_some_iff.mp e).1
   have hi':i < σ.length:=by rw[← s.len];exact hi
   rw[List.getElem?_set_self hi]at e
   cases e
   exact⟨_,List.getElem?_set_self hi',a,vs,rfl,h,nf,n0,r⟩
  ·rw[List.getElem?_set_ne q]at e
   obtain⟨u,h1,h2⟩:=s'.is j b e
   exact⟨u,by rw[List.getElem?_set_ne q];exact h1,h2⟩
 ·by_cases qj:i=j
  ·by_cases qk:i=k
   ·rw[← qj,← qk]
   ·subst qj
    have hi:i < ρ.length:=by simpa using (List.getElem?_eq_some_iff.mp h1).1
    rw[List.getElem?_set_self (by rw[← s.len];exact hi)]at h3
    rw[List.getElem?_set_ne qk]at h2 h4
    cases h3
    exact(old k es qk h2 h4).elim
  ·rw[List.getElem?_set_ne qj]at h1 h3
   by_cases qk:i=k
   ·subst qk
    have hi:i < ρ.length:=by simpa using (List.getElem?_eq_some_iff.mp h2).1
    rw[List.getElem?_set_self (by rw[← s.len];exact hi)]at h4
    cases h4
    exact(old j ds1 qj h1 h3).elim
   ·rw[List.getElem?_set_ne qk]at h2 h4
    exact s.apart j k ds1 es b h1 h2 h3 h4
theorem bJ4(i:Nat) (hN:X.N.Nodup) (h:JN X e f) (hi:X.N[i]? = some x:=by rfl) (hx:Loc X.env.scope x:=by first|exact Or.inl rfl|exact Or.inr rfl)
  (hs:swapsWith e (some (.Name x pos')) pos.line X.env=pure false:=by rfl) (hf:X.fn x=true\/X.env.scope.names.lookup x=some .local:=by first|exact .inl rfl|exact .inr rfl):JS X (.Assign [.Name x pos'] e pos) (au6 i f):=fun ρ fl q H0 Hf0=>by
 obtain⟨ds,e1,e2⟩:=Option.map_eq_some_iff.mp q
 subst e2
 refine F7 (av2 hN hi hx (h ρ ds e1) hs hf) fun En σ H ⟨Hf,a,e⟩=>⟨H0,Hf,a.gr.sub,a.sl,fun v H' Hf' g ⟨p,vs,z1,z2,z3,z4,z5⟩=>?_⟩
 subst z1
 exact e _ H' Hf' ⟨a.gr.trans g,a.sl.setOwn g (a.gr.big.free z2) z2 z3 z4 z5⟩ g.ext
noncomputable def ah6(i:Nat) (f:DE):DS:=fun ρ=>match ρ[i]? with
 | some (some (.own ds))=>if ds.length < 16777216 then(f ρ).map fun d=>.nx (ρ.set i (some (.own (ds++[d])))) else none
 | _=>none
theorem bJ9(i:Nat) (h:JE X e f) (hN:X.N[i]? = some x:=by rfl) (hv:Vis X.env.scope x:=by first|exact Or.inl rfl|exact Or.inr (Or.inl rfl)|exact Or.inr (Or.inr rfl)) (hd:(x==("__debug__" : Str))=false:=by decide)
  (hcd:(x==("__classdict__" : Str))=false:=by decide) (hbase:attributeBase (.Name x p) "append" X.env (eval (.Name x p) X.env)=eval (.Name x p) X.env:=by rfl)
  (hfew:((backTo cpos (starEach [e] X.env)).all (fun x=>!x.1)&&(backToKw cpos (keywordEach [] X.env)).all (fun x=>x.1.isSome)
   && decide (([e]:List Expr).length+([]:List Keyword).length+(if([]:List Keyword).isEmpty then 0 else 1) < 30))=true:=by rfl)
  (hline:(apos.endLine==cpos.line)=true:=by rfl) (hs:starEach [e] X.env=[(false,eval e X.env)]:=by rfl) (hsw:swapsWith (.Call (.Attribute (.Name x p) "append" apos) [e] [] cpos) none pos.line X.env=pure false:=by rfl) :
  JS X (.Expr (.Call (.Attribute (.Name x p) "append" apos) [e] [] cpos) pos) (ah6 i f):=fun ρ fl q H0 Hf0=>by
 unfold ah6 at q
 split at q
 ·rename_i ds eo
  split at q
  ·rename_i hz
   obtain⟨d,e1,e2⟩:=Option.map_eq_some_iff.mp q
   subst e2
   refine F7 (ai6 (aV7 PySem.F.plainAttrs_list PySem.F.slot_list_append PySem.F.type_list_append c7 (J4 hN hv hd hcd) (C0 (h ρ d e1) E3 hs) hbase hfew hline hs) hsw) fun En σ H ⟨Hf,a,ee⟩=>?_
   obtain⟨v,h1,b,vs,rfl,h2,h3,h4,h5⟩:=a.sl.is i _ eo
   refine⟨_,h1,.inl ⟨rfl,vs,SqL.of h2⟩,H0,Hf,a.gr.sub,a.sl,fun w H' Hf' gg r=>?_⟩
   have hb:H' b=some (.lst vs):=gg.big _ _ h2
   have hfb:Hf' b=none:=gg.nofr h2 h3
   have g2:=a.gr.trans gg
   have sl2:=a.sl.grow gg
   refine⟨b,vs,w,rfl,rfl,hb,by rw[h5.length,sizeLine_eq];exact hz,ee _ _ Hf' ⟨⟨fun c u z=>?_,fun c u z=>?_,g2.ext,g2.new⟩,?_⟩ gg.ext⟩
   ·rw[A7 (A8 z h4)];exact g2.big c u z
   ·rw[A7 (A8 z hfb)];exact g2.sub c u z
   ·refine⟨by simpa using sl2.len,fun j bb z=>?_,fun j k ds1 es c q1 q2 q3 q4=>?_⟩
    ·by_cases qj:i=j
     ·subst qj
      have hi:i < ρ.length:=(List.getElem?_eq_some_iff.mp eo).1
      rw[List.getElem?_set_self hi]at z
      cases z
      exact⟨_,h1,b,vs++[w],rfl,A6,hfb,h4,(h5.mono gg.ext).append ⟨w,[],rfl,r,rfl⟩⟩
     ·rw[List.getElem?_set_ne qj]at z
      obtain⟨u,z1,z2⟩:=sl2.is j bb z
      refine⟨u,z1,?_⟩
      cases bb with
      | val d=>exact z2
      | exc C=>exact z2
      | opq _=>exact z2
      | own dd =>
       obtain⟨a',vs',y1,y2,y3,y4,y5⟩:=z2
       have ne:a'≠b:=fun zz=>by
        subst zz y1
        exact qj (a.sl.apart i j ds dd a' eo z h1 z1)
       exact⟨a',vs',y1,by rw[A7 ne];exact y2,y3,y4,y5⟩
    ·have q1':∃dd,ρ[j]? = some (some (.own dd)):=by
      by_cases qj:i=j
      ·subst qj;exact⟨ds,eo⟩
      ·rw[List.getElem?_set_ne qj]at q1;exact⟨_,q1⟩
     have q2':∃dd,ρ[k]? = some (some (.own dd)):=by
      by_cases qj:i=k
      ·subst qj;exact⟨ds,eo⟩
      ·rw[List.getElem?_set_ne qj]at q2;exact⟨_,q2⟩
     obtain⟨d1,q1'⟩:=q1'
     obtain⟨d2,q2'⟩:=q2'
     exact a.sl.apart j k d1 d2 c q1' q2' q3 q4
  ·cases q
 ·cases q
noncomputable def frz(i:Nat) (ρ:Rho):Rho:=match ρ[i]? with
 | some (some (.own ds))=>ρ.set i (some (.val (.list ds)))
 | _=>ρ
theorem bN3{K:PySem.W.Frag}{H0 Hf0 H Hf:Hp}{ρ:Rho}{σ:L2.St}(i:Nat) (a:At K H0 Hf0 ρ σ H Hf):∃Hf',B5 Hf Hf'/\At K H0 Hf0 (frz i ρ) σ H Hf':=by
 unfold frz
 split
 ·rename_i ds eo
  obtain⟨v,h1,b,vs,rfl,h2,h3,h4,h5⟩:=a.sl.is i _ eo
  have g:Grow H0 Hf0 H (upd Hf b (.lst vs)):=a.gr.freeze h2 h3 h4
  refine⟨upd Hf b (.lst vs),B9 h3,g,⟨by simpa using a.sl.len,fun j bb z=>?_,fun j k ds1 es c q1 q2 q3 q4=>?_⟩⟩
  ·have hi:i < ρ.length:=(List.getElem?_eq_some_iff.mp eo).1
   by_cases qj:i=j
   ·subst qj
    rw[List.getElem?_set_self hi]at z
    cases z
    exact⟨_,h1,b,vs,rfl,SqL.of A6,h5.mono (B9 h3)⟩
   ·rw[List.getElem?_set_ne qj]at z
    obtain⟨u,z1,z2⟩:=a.sl.is j bb z
    refine⟨u,z1,?_⟩
    cases bb with
    | val d=>exact Rep.mono (B9 h3) z2
    | opq _=>exact z2
    | exc C =>
     obtain⟨a',o',C',y1,y2,y3⟩:=z2
     exact⟨a',o',C',y1,B9 h3 _ _ y2,y3⟩
    | own dd =>
     obtain⟨a',vs',y1,y2,y3,y4,y5⟩:=z2
     have ne:a'≠b:=fun zz=>by
      subst zz y1
      exact qj (a.sl.apart i j ds dd a' eo z h1 z1)
     exact⟨a',vs',y1,y2,by rw[A7 ne];exact y3,y4,y5.mono (B9 h3)⟩
  ·have hi:i < ρ.length:=(List.getElem?_eq_some_iff.mp eo).1
   have qj:i≠j:=fun z=>by subst z;rw[List.getElem?_set_self hi]at q1;cases q1
   have qk:i≠k:=fun z=>by subst z;rw[List.getElem?_set_self hi]at q2;cases q2
   rw[List.getElem?_set_ne qj]at q1
   rw[List.getElem?_set_ne qk]at q2
   exact a.sl.apart j k ds1 es c q1 q2 q3 q4
 ·exact⟨Hf,B5.refl _,a⟩
noncomputable def bD5(i:Nat) (f:DS):DS:=fun ρ=>f (frz i ρ)
theorem bJ5(i:Nat) {st:Stmt}{f:DS}(h:JS X st f):JS X st (bD5 i f):=fun ρ fl q H0 Hf0=>F7 (h (frz i ρ) fl q H0 Hf0) fun En σ H ⟨Hf,a,e⟩=>by
 obtain⟨Hf',s,a'⟩:=bN3 i a
 exact⟨Hf',a',Fl.ends_mono e s⟩
noncomputable def bR8(K:PySem.W.Frag) (H0 Hf0:Hp) (f:DS):TS:=fun En σ H=>∃ρ fl,f ρ=some fl/\tJS K H0 Hf0 ρ fl En σ H
theorem aC4(h:JSs X sts f):PSs X sts (bR8 X.K H0 Hf0 f):=fun pins s σ H En I ⟨ρ,fl,e,t⟩=>h ρ fl e H0 Hf0 pins s σ H En I t
theorem bE5(h:JT X e c):PT X e (u9 X.K c):=fun pins s σ H Q I ⟨ρ,b,e,t⟩=>h ρ b e pins s σ H Q I t
noncomputable def L3(t:Rho->Option Bool) (f:DS):Nat->DS
 | 0=>fun _=>none
 | n+1=>fun ρ=>(t ρ).bind fun c=>if c then(f ρ).bind fun fl=>match fl with
   | .nx ρ'=>L3 t f n ρ'
   | .ct ρ'=>L3 t f n ρ'
   | .bk ρ'=>some (.nx ρ')
   | .rt d=>some (.rt d)
  else some (.nx ρ)
theorem V8:∀{n:Nat}{ρ:Rho}{fl:Fl},L3 t f n ρ=some fl->L3 t f (n+1) ρ=some fl
 | 0,_,_,h=>by cases h
 | n+1,ρ,fl,h=>by
  obtain⟨c,e1,h⟩:=xbm h
  show(t ρ).bind _=_
  rw[e1]
  cases c with
  | false=>exact h
  | true =>
   obtain⟨fl1,e2,h⟩:=xbm h
   show(f ρ).bind _=_
   rw[e2]
   cases fl1 with
   | nx ρ'=>exact V8 (n:=n) h
   | ct ρ'=>exact V8 (n:=n) h
   | bk ρ'=>exact h
   | rt d=>exact h
theorem ap9(h:L3 t f n ρ=some fl) (l:n<=m):L3 t f m ρ=some fl:=by
 induction l with
 | refl=>exact h
 | step _ ih=>exact V8 ih
open Classical in
noncomputable def P8(t:Rho->Option Bool) (f:DS):DS:=fun ρ=>if h:∃fl n,L3 t f n ρ=some fl then some h.choose else none
theorem ad8(h:L3 t f n ρ=some fl):P8 t f ρ=some fl:=by
 have hx:∃fl n,L3 t f n ρ=some fl:=⟨fl,n,h⟩
 unfold P8
 rw[dif_pos hx]
 obtain⟨m,hm⟩:=hx.choose_spec
 have h1:=ap9 h (Nat.le_max_left n m)
 have h2:=ap9 hm (Nat.le_max_right n m)
 rw[h1]at h2
 exact h2.symm
theorem aL6(h:P8 t f ρ=some fl):∃n,L3 t f n ρ=some fl:=by
 unfold P8 at h
 split at h
 ·rename_i hx
  cases h
  exact hx.choose_spec
 ·cases h
theorem aY7(hc:JT X c t) (hb:JSs X body f) (hp:PassesOwn (model X.prog X.w) X.A X.env X.xe:=by exact PassesOwn.never):JS X (.While c body [] pos) (P8 t f):=fun ρ fl q H0 Hf0=>by
 obtain⟨n,hn⟩:=aL6 q
 refine F7 (aU1 hp (bE5 hc) (aC4 (H0:=H0) (Hf0:=Hf0) hb)) fun En σ H ⟨Hf,a,e⟩=>?_
 refine⟨fun m σ H=>∃Hf' ρ',At X.K H0 Hf0 ρ' σ H Hf'/\B5 Hf Hf'/\L3 t f m ρ'=some fl,⟨n,Hf,ρ,a,B5.refl _,hn⟩,?_⟩
 rintro m σ' H' ⟨Hf',ρ',a',s',hm⟩
 cases m with
 | zero=>cases hm
 | succ m =>
  obtain⟨b,e1,hm⟩:=xbm hm
  refine⟨ρ',b,e1,H0,Hf',a'.gr.sub,a'.sl,fun H2 Hf2 g2=>?_⟩
  have a2:=a'.grow g2
  have s2:=s'.trans g2.ext
  cases b with
  | false =>
   have:fl=.nx ρ':=by simpa using hm.symm
   subst this
   exact aa6 (e σ' H2 Hf2 a2 s2)
  | true =>
   obtain⟨fl1,e2,hm⟩:=xbm (show(f ρ').bind _=some fl from hm)
   refine aa5 ⟨fun σ3 H3=>∃m',m' < m+1/\∃Hf' ρ',At X.K H0 Hf0 ρ' σ3 H3 Hf'/\B5 Hf Hf'/\L3 t f m' ρ'=some fl,fun σ3 H3 z=>z,ρ',fl1,e2,Hf2,a2,?_⟩
   cases fl1 with
   | nx ρ3=>exact fun σ3 H3 Hf3 a3 s3=>⟨m,Nat.lt_succ_self _,Hf3,ρ3,a3,s2.trans s3,hm⟩
   | ct ρ3=>exact fun σ3 H3 Hf3 a3 s3=>⟨m,Nat.lt_succ_self _,Hf3,ρ3,a3,s2.trans s3,hm⟩
   | bk ρ3 =>
    cases hm
    exact fun σ3 H3 Hf3 a3 s3=>e σ3 H3 Hf3 a3 (s2.trans s3)
   | rt d =>
    cases hm
    exact e
noncomputable def Y2(g:D->Rho->Option Rho) (f:DS):List D->DS
 | []=>fun ρ=>some (.nx ρ)
 | d::ds=>fun ρ=>(g d ρ).bind fun ρ1=>(f ρ1).bind fun fl=>match fl with
   | .nx ρ'=>Y2 g f ds ρ'
   | .ct ρ'=>Y2 g f ds ρ'
   | .bk ρ'=>some (.nx ρ')
   | .rt d=>some (.rt d)
noncomputable def W6(src:Rho->Option (List D)) (g:D->Rho->Option Rho) (f:DS):DS:=fun ρ=>(src ρ).bind fun ds=>Y2 g f ds ρ
theorem bJ6(hi:JI X tg iter src) (hg:JG X tg g) (hb:JSs X body f) (hp:PassesOwn (model X.prog X.w) X.A X.env X.xe:=by exact PassesOwn.never) (hc:X.calm=true:=by rfl)
  (hs:∀x,foldedSetIterable iter X.env x=pure x:=by intro _;rfl):JS X (.For tg iter body [] pos) (W6 src g f):=fun ρ fl q H0 Hf0=>by
 obtain⟨ds,e1,e2⟩:=xbm q
 refine F7 (aU3 hp hc (hi ρ ds e1) hg (aC4 (H0:=H0) (Hf0:=Hf0) hb) hs) fun En σ H ⟨Hf,a,e⟩=>⟨H0,Hf,a.gr.sub,a.sl,fun J H1 Hf1 g1 Y=>?_⟩
 refine⟨fun i m σ H=>m=ds.length - i/\i<=ds.length/\∃Hf' ρ',At X.K H0 Hf0 ρ' σ H Hf'/\B5 Hf1 Hf'/\Y2 g f (ds.drop i) ρ'=some fl,⟨ds.length,by simp,Nat.zero_le _,Hf1,ρ,a.grow g1,B5.refl _,by simpa using e2⟩,?_⟩
 rintro i m σ' H' ⟨rfl,hi,Hf',ρ',a',s',hm⟩
 obtain⟨Ys,Yg⟩:=Y i H' Hf' s' a'.gr.sub
 rcases Nat.lt_or_ge i ds.length with hlt|hge
 ·right
  obtain⟨go,yl⟩:=Yg ds[i] (by simp[hlt])
  rw[List.drop_eq_getElem_cons hlt]at hm
  obtain⟨ρ1,c1,hm⟩:=xbm hm
  obtain⟨fl1,c2,hm⟩:=xbm hm
  refine⟨go,fun σ3 H3=>∃m',m' < ds.length - i/\m'=ds.length - (i+1)/\i+1<=ds.length/\∃Hf' ρ',At X.K H0 Hf0 ρ' σ3 H3 Hf'/\B5 Hf1 Hf'/\Y2 g f (ds.drop (i+1)) ρ'=some fl,fun σ3 H3 ⟨m',z1,z2⟩=>⟨m',z1,z2⟩,fun x H2 hy=>?_⟩
  obtain⟨Hf2,g2,r2⟩:=yl x H2 hy
  have a2:=a'.grow g2
  refine⟨ds[i],ρ',ρ1,H0,Hf2,c1,g2.sub,a2.sl,r2,fun σ3 sl3=>⟨ρ1,fl1,c2,Hf2,⟨a2.gr,sl3⟩,?_⟩⟩
  have s2:=s'.trans g2.ext
  cases fl1 with
  | nx ρ3=>exact fun σ3 H3 Hf3 a3 s3=>⟨_,by omega,rfl,hlt,Hf3,ρ3,a3,s2.trans s3,hm⟩
  | ct ρ3=>exact fun σ3 H3 Hf3 a3 s3=>⟨_,by omega,rfl,hlt,Hf3,ρ3,a3,s2.trans s3,hm⟩
  | bk ρ3 =>
   cases hm
   exact fun σ3 H3 Hf3 a3 s3=>e σ3 H3 Hf3 a3 (g1.ext.trans (s2.trans s3))
  | rt d =>
   cases hm
   exact e
 ·left
  have:i=ds.length:=by omega
  subst this
  rw[List.drop_length]at hm
  cases hm
  exact⟨Ys (Nat.le_refl _),e σ' H' Hf' a' (g1.ext.trans s')⟩
theorem bq7:JS X (.Pass pos) L9:=fun ρ fl q H0 Hf0=>by
 cases q
 exact F7 bm4 fun En σ H ⟨Hf,a,e⟩=>e σ H Hf a (B5.refl _)
theorem bJ8:JS X (.Break pos) (fun ρ=>some (.bk ρ)):=fun ρ fl q H0 Hf0=>by
 cases q
 exact F7 aU4 fun En σ H ⟨Hf,a,e⟩=>e σ H Hf a (B5.refl _)
end
noncomputable def N8(n:Nat) (ds:List D):Rho:=ds.map (fun d=>some (B.val d))++List.replicate (n - ds.length) none
noncomputable def F6(g:DS) (n:Nat):List D->Option D:=fun ds=>(g (N8 n ds)).bind fun fl=>match fl with
 | .rt d=>some d
 | .nx _=>some .none
 | _=>none
theorem i9{K:PySem.W.Frag}{H0 H Hf:Hp}{N:List Str}{ds:List D}{vs:List V}(r:Reps K Hf ds vs):Slots K H0 (N8 N.length ds) (L2.G3 N vs) H Hf:=by
 have hl:=r.length
 have noown:∀(i:Nat) (b:B),(N8 N.length ds)[i]? = some (some b)->∃d,ds[i]? = some d/\b=.val d:=fun i b h=>by
  unfold N8 at h
  rcases Nat.lt_or_ge i ds.length with q|q
  ·rw[List.getElem?_append_left (by simpa using q),List.getElem?_map]at h
   rw[List.getElem?_eq_getElem q]at h ⊢
   simp only[Option.map_some,Option.some.injEq]at h
   exact⟨ds[i],rfl,h.symm⟩
  ·rw[List.getElem?_append_right (by simpa using q),List.getElem?_replicate]at h
   split at h<;>cases h
 refine⟨by simp[N8,L2.G3,hl],fun i b e=>?_,fun i j d1 d2 a e1 _ _ _=>?_⟩
 ·obtain⟨d,h1,h2⟩:=noown i b e
  subst h2
  obtain⟨v,h3,h4⟩:=r.get h1
  refine⟨v,?_,h4⟩
  have hi:i < vs.length:=(List.getElem?_eq_some_iff.mp h3).1
  unfold L2.G3
  rw[List.getElem?_append_left (by simpa using hi),List.getElem?_map,h3];rfl
 ·obtain⟨d,_,h2⟩:=noown i _ e1
  cases h2
theorem ak4{P:Program}{w:World}{K:PySem.W.Frag}{mg:Str->Option Value}{base:Heap}{x qual:Str}{st:Stmt}{f:Addr}{fd:FuncData}{N ps:List Str}{k:Nat}{g:DS}(F:Fun K x qual st f fd) (S:FnScope N ps (B2 st))
  (hb:∀(cdv:Value) (A:Around) (outer:List Env) (s:Shared) (H:Hp) (E:XK),Room k (A.deeper (envOfC qual (B2 st) s.heap.objs.size f cdv))->JSs (ak9 CX0 P w K mg base N qual (B2 st) f cdv A outer s H E).nox (E2 st) g) :
  FnOk P w K mg base CX0 (k+1) f fd ps (spF K ps.length (F6 g N.length)):=by
 refine F.ok S (fun vs H Q E h=>h.1) fun cdv A outer s H vs Q E hr hsp=>?_
 obtain⟨hlen,Hf,ds,d,ss,rp,e,kk⟩:=hsp
 obtain⟨fl,e1,e2⟩:=xbm e
 refine⟨_,hb cdv A outer s H E hr _ fl e1 H Hf,Hf,⟨Grow.refl ss,i9 rp⟩,?_⟩
 cases fl with
 | rt d'=>cases e2;exact fun v H' Hf' g r=>kk v H' Hf' g r
 | nx ρ=>cases e2;exact fun σ' H' Hf' a _=>kk _ H' Hf' a.gr rfl
 | bk ρ=>cases e2
 | ct ρ=>cases e2
end G
namespace G
open PySem PySem.Spec PyProof.Rows L2
noncomputable def SIt:Bool->Heap->Addr->Addr->Nat->Prop
 | true=>Heap.IsTupleIter
 | false=>Heap.IsListIter
noncomputable def SSq:Bool->Heap->Addr->Array Value->Prop
 | true=>Heap.IsTuple
 | false=>Heap.IsList
section
variable {prog:Program}{w:World}{A:Around}{E:Value->Shared->Prop}{s:Shared}{t t1 t2:Bool}
theorem SIt.ext(x:SIt t h it l k) (e:∀o,h.get? it=some o->h'.get? it=some o):SIt t h' it l k:=by
 cases t with
 | true=>obtain⟨o,ho,r⟩:=x;exact⟨o,e o ho,r⟩
 | false=>obtain⟨o,ho,r⟩:=x;exact⟨o,e o ho,r⟩
theorem SSq.ext(x:SSq t h l xs) (e:∀o,h.get? l=some o->h'.get? l=some o):SSq t h' l xs:=by
 cases t with
 | true=>obtain⟨o,ho,r⟩:=x;exact⟨o,e o ho,r⟩
 | false=>obtain⟨o,ho,r⟩:=x;exact⟨o,e o ho,r⟩
theorem SIt.lt(x:SIt t h it l k):it < h.objs.size:=by
 cases t with
 | true=>obtain⟨o,ho,_⟩:=x;exact Heap.lt_size ho
 | false=>obtain⟨o,ho,_⟩:=x;exact Heap.lt_size ho
theorem au0(hit:s.heap.IsTupleIter it l k) (hl:s.heap.IsTuple l xs) (hx:xs[k]? = some x)
  (hQ:∀h',h'.IsTupleIter it l (k+1)->Heap.SameBut it s.heap h'->Q x { s with heap:=h' }):wpAny (model prog w) A (Builtin.SmallTypes.nextOf (.ref it)) Q E s:=by
 obtain⟨o,ho,hc,hd⟩:=id hit;obtain⟨ol,hol,_,nl,hdl⟩:=hl;unfold Builtin.SmallTypes.nextOf
 refine wpAny_bind (wpAny_callSpecial?_slot (name:=Str.ofString "__next__") hit.typeIs F.slot_tuple_iterator_next (wpAny_call_entry F.slot_tuple_iterator_next hit.typeIs F.entry_tuple_iterator_next ?_ (F.args_tuple_iterator_next_1 _)))
 show wpAny _ _ (field (.ref it) 0 >>= _) _ _ s;refine wpAny_bind (wpAny_field ho hd (x:=.ref l) rfl ?_);show wpAny _ _ (if(Value.ref l==Value.none)=true then _ else _) _ _ s
 rw[if_neg (show ¬((Value.ref l==Value.none)=true) from Bool.false_ne_true)];show wpAny _ _ (field (.ref it) 1 >>= _) _ _ s
 refine wpAny_bind (wpAny_field ho hd (x:=.int k 0) rfl ?_);show wpAny _ _ (seqItems? (.ref l) >>= _) _ _ s;refine wpAny_bind (wpAny_seqItems hol hdl ?_);simp only[Int.toNat_natCast,hx]
 refine wpAny_bind (wpAny_setField ho hd (by simp) (wpAny_pure ⟨x,rfl,wpAny_pure (hQ _ ⟨_,Heap.get?_update_self _ ho (Obj.isFreed_of_fields (Obj.data_mapFields hd _)),(Obj.cls_mapFields ..).trans hc,?_⟩ (Heap.SameBut.update ..))⟩))
 rw[Obj.data_mapFields hd];simp[rawInt]
theorem aJ9(hh:A.handled=none) (hit:s.heap.IsTupleIter it l k) (hl:s.heap.IsTuple l xs) (hx:xs[k]? = none)
  (hE:∀h' e,Heap.ExtBut it s.heap h'->(∃o,h'.get? e=some o/\o.cls=.type "StopIteration")->E (.ref e) { s with heap:=h' }):wpAny (model prog w) A (Builtin.SmallTypes.nextOf (.ref it)) Q E s:=by
 obtain⟨o,ho,hc,hd⟩:=id hit;obtain⟨ol,hol,_,nl,hdl⟩:=hl;unfold Builtin.SmallTypes.nextOf
 refine wpAny_bind (wpAny_callSpecial?_slot (name:=Str.ofString "__next__") hit.typeIs F.slot_tuple_iterator_next (wpAny_call_entry F.slot_tuple_iterator_next hit.typeIs F.entry_tuple_iterator_next ?_ (F.args_tuple_iterator_next_1 _)))
 show wpAny _ _ (field (.ref it) 0 >>= _) _ _ s;refine wpAny_bind (wpAny_field ho hd (x:=.ref l) rfl ?_);show wpAny _ _ (if(Value.ref l==Value.none)=true then _ else _) _ _ s
 rw[if_neg (show ¬((Value.ref l==Value.none)=true) from Bool.false_ne_true)];show wpAny _ _ (field (.ref it) 1 >>= _) _ _ s
 refine wpAny_bind (wpAny_field ho hd (x:=.int k 0) rfl ?_);show wpAny _ _ (seqItems? (.ref l) >>= _) _ _ s;refine wpAny_bind (wpAny_seqItems hol hdl ?_);simp only[Int.toNat_natCast,hx]
 refine wpAny_bind (wpAny_rule (wpAny_bind (wpAny_setField ho hd (by simp) ?_)));show wpAny _ _ (newExc (.type "StopIteration") [] >>= _) _ _ _;refine wpAny_bind ?_;simp only[newExc,newTuple]
 refine wpAny_bind (wpAny_newObj_type ?_ (by size_fits));refine wpAny_bind (m:=firstArgMember _ _) (wpAny_of_eq (a:=Value.none) (by first|rfl|(simp only[firstArgMember];rfl)) ?_);refine wpAny_newObj_type ?_ (by size_fits)
 simp only[raiseNew];refine wpAny_bind (wpAny_handled ?_);first|rw[show A.in1.handled=none from hh]|rw[hh]
 refine wpAny_bind (wpAny_pure (wpAny_throw ?_));exact hE _ _ (((Heap.SameBut.update ..).extBut.push _).push _) ⟨_,Heap.get?_push_size _ rfl,rfl⟩
theorem aS5(hit:SIt t s.heap it l k) (hl:SSq t s.heap l xs) (hx:xs[k]? = some x)
  (hQ:∀h',SIt t h' it l (k+1)->Heap.SameBut it s.heap h'->Q x { s with heap:=h' }):wpAny (model prog w) A (Builtin.SmallTypes.nextOf (.ref it)) Q E s:=by
 cases t with
 | true=>exact au0 hit hl hx hQ
 | false=>exact wpAny_nextOf_list_item hit hl hx hQ
theorem aB6(hh:A.handled=none) (hit:SIt t s.heap it l k) (hl:SSq t s.heap l xs) (hx:xs[k]? = none)
  (hE:∀h' e,Heap.ExtBut it s.heap h'->(∃o,h'.get? e=some o/\o.cls=.type "StopIteration")->E (.ref e) { s with heap:=h' }):wpAny (model prog w) A (Builtin.SmallTypes.nextOf (.ref it)) Q E s:=by
 cases t with
 | true=>exact aJ9 hh hit hl hx hE
 | false=>exact wpAny_nextOf_list_end hh hit hl hx hE
noncomputable def ae9(t:Bool) (l:Addr):Obj:={ cls:=.type (if t then "tuple_iterator" else "list_iterator"),data:=.fields #[.ref l,.int 0 0] }
theorem bk5{h:Heap}{l:Addr}(t:Bool):SIt t (h.push (ae9 t l)) h.objs.size l 0:=by
 cases t with
 | true=>exact⟨_,Heap.get?_push_size _ rfl,rfl,rfl⟩
 | false=>exact⟨_,Heap.get?_push_size _ rfl,rfl,rfl⟩
theorem v9(hl:SSq t s.heap l xs) (hQ:Q (.ref s.heap.objs.size) { s with heap:=s.heap.push (ae9 t l) }):wpAny (model prog w) A (pyIter (.ref l)) Q E s:=by
 cases t with
 | true=>exact wpAny_pyIter_tuple hl hQ
 | false=>exact wpAny_pyIter_list hl hQ
end
end G
namespace G
open PySem PySem.Spec PyProof.Rows L2
section
variable {prog:Program}{w:World}{A:Around}{E:Value->Shared->Prop}{s:Shared}{t1 t2:Bool}
end
theorem bC7(I:Inv X pins σ H s) (h:Sq X.K t H a xs) (h':Sq X.K t H a ys):xs=ys:=by
 cases t with
 | true=>exact I.tuple_inj h h'
 | false=>exact I.list_inj h h'
theorem ah1(I:Inv X pins σ H s) (h:Sq X.K t H a xs):∃its:List Value,B3 xs its/\SSq t s.heap a its.toArray/\a < s.heap.objs.size:=by
 cases t with
 | true =>
  obtain⟨its,r,p,_⟩:=I.tuple h
  exact⟨its,r,p,by obtain⟨o,ho,_⟩:=p;exact Heap.lt_size ho⟩
 | false =>
  obtain⟨its,r,p,_⟩:=I.list h
  exact⟨its,r,p.isList,by obtain⟨o,ho,_⟩:=p.isList;exact Heap.lt_size ho⟩
end G
namespace G
open PySem PySem.Spec PyProof.Rows L2
theorem R1{X:Cx}{pins:List (Addr×Obj)}{σ:L2.St}{H:Hp}{s:Shared}{h':Heap}{t':Nat}{ch:List Addr}{T:Addr}{o:HO}(I:Inv X pins σ H s) (hf:∀b∈ch,L7 X pins H b) (hT:s.heap.objs.size<=T)
  (k:∀b u,b∉ch->s.heap.get? b=some u->h'.get? b=some u) (new:E6 X.prog X.w (upd H T o) h' T o):Inv X pins σ (upd H T o) { s with heap:=h',toks:=t' }:=by
 have hn:H T=none:=I.hok.fresh hT
 have neT:∀b u,s.heap.get? b=some u->b≠T:=fun b u e=>Nat.ne_of_lt (Nat.lt_of_lt_of_le (Heap.lt_size e) hT)
 have nch:∀b u,H b=some u->b∉ch:=fun b u e z=>by rw[(hf b z).1]at e;cases e
 refine I.step (g':=s.gens) (d':=s.drawn) (ch:=ch) (fun b hb=>⟨(hf b hb).2.2.2.1,(hf b hb).2.1,(hf b hb).2.2.2.2.1,(hf b hb).2.2.2.2.2⟩) (fun b u _ _ hc e _=>k b u hc e) (fun b u _ _ hc e _=>⟨u.slots,k b u hc e⟩)
  (fun b u _ e n=>by rw[A7 (neT b u e)];exact n) (fun b u hc e=>⟨u,k b u hc e⟩) (fun b xs e=>by rw[A7 (A8 e hn)];exact e) (fun b ob u e=>by rw[A7 (A8 e hn)];exact e)
  (fun b ps e=>⟨#[],by rw[A7 (A8 e hn),e];simp⟩) (fun m hm=>?_) (fun b u e=>?_) I.bare
 ·obtain⟨ob,es,ep,ho,r⟩:=hm
  exact⟨ob,es,ep,k _ ob (fun z=>(hf _ z).2.1 rfl) ho,r⟩
 ·by_cases hb:b=T
  ·subst hb;rw[A6]at e;cases e;exact new
  ·rw[A7 hb]at e
   refine(I.hok b u e).stay (fun c v hc q=>k c v ?_ q) (fun c q=>by rw[A7 (A8 q hn)];exact q) fun c xs q=>by rw[A7 (A8 q hn)];exact q
   rcases hc with z|z
   ·rw[z];exact nch b u e
   ·exact nch c _ z
theorem K5{X:Cx}{pins:List (Addr×Obj)}{σ:L2.St}{H:Hp}{s:Shared}{h':Heap}{t':Nat}{ch:List Addr}(I:Inv X pins σ H s) (hf:∀b∈ch,L7 X pins H b)
  (k:∀b u,b∉ch->s.heap.get? b=some u->h'.get? b=some u):Inv X pins σ H { s with heap:=h',toks:=t' }:=by
 have nch:∀b u,H b=some u->b∉ch:=fun b u e z=>by rw[(hf b z).1]at e;cases e
 refine I.step (g':=s.gens) (d':=s.drawn) (ch:=ch) (fun b hb=>⟨(hf b hb).2.2.2.1,(hf b hb).2.1,(hf b hb).2.2.2.2.1,(hf b hb).2.2.2.2.2⟩) (fun b u _ _ hc e _=>k b u hc e) (fun b u _ _ hc e _=>⟨u.slots,k b u hc e⟩)
  (fun b u _ e n=>n) (fun b u hc e=>⟨u,k b u hc e⟩) (fun b xs e=>e) (fun b ob u e=>e) (fun b ps e=>⟨#[],by rw[e];simp⟩) (fun m hm=>?_) (fun b u e=>?_) I.bare
 ·obtain⟨ob,es,ep,ho,r⟩:=hm
  exact⟨ob,es,ep,k _ ob (fun z=>(hf _ z).2.1 rfl) ho,r⟩
 ·refine(I.hok b u e).stay (fun c v hc q=>k c v ?_ q) (fun c q=>q) fun c xs q=>q
  rcases hc with z|z
  ·rw[z];exact nch b u e
  ·exact nch c _ z
section
variable {X:Cx}
noncomputable def bt5(f g:Rho->Option (Bool×List D)):Rho->Option (List D):=fun ρ=>(f ρ).bind fun p=>(g ρ).bind fun q=>some ((p.2.zip q.2).map fun(x,y)=>PyData.tuple [x,y])
end
end G
namespace G
open PySem PySem.Spec PyProof.Rows L2
theorem k6:fillsNumberSlot (.type "tuple") "mul" = pure false:=PySem.fillsNumberSlot_seq (id := "tuple.__mul__") (r:=some (.builtin "tuple.__rmul__")) F.slot_tuple_mul.lookup (by decide +kernel) F.slot_tuple_rmul.lookup (by decide +kernel)
theorem ae0:seqRepeat? (.type "tuple")=pure (some (.builtin "tuple.__mul__")):=by
 unfold seqRepeat?
 rw[PySem.seqSlot_of (T := "tuple") (name := "__mul__") (id := "tuple.__mul__") F.slot_tuple_mul.lookup (by decide +kernel),PySem.seqSlot_of (T := "tuple") (name := "__rmul__") (id := "tuple.__rmul__") F.slot_tuple_rmul.lookup (by decide +kernel)];rfl
theorem W7(a:Int) (t:Tok) (l:Addr) (items:Array Value) (n:Nat) (dd:Option Addr) (sl:Array (Option Value)) :
  Meets (Builtin.«int.__rmul__» ⟨[.int a t,.ref l],[]⟩) (fun _ R s=>s.heap.get? l=some ⟨.type "tuple", dd,.seq items n,sl⟩/\R (.ok (.ret Value.notImplemented)) s) :=
 .of_wp fun prog w A R s h=>by obtain⟨hp,g,d,tk,os⟩:=s;obtain⟨hl,h⟩:=h;wp_walk;exact⟨_,rfl,h⟩
theorem au9(items:Array Value) (k:Nat):List.foldl (fun x1 x2=>x1++x2) #[] (List.replicate k items)=(List.replicate k items.toList).flatten.toArray:=by
 have:=af0 items.toList k []
 rw[List.nil_append]at this
 simpa using this
theorem ao6(l:Addr) (items:Array Value) (n:Nat) (dd:Option Addr) (sl:Array (Option Value)) (x:Int) (u:Tok) (h2:2<=x) (h3:x < 1000000) (he:items.isEmpty=false) (hz:items.size*x.toNat<=sizeLine) :
  Meets (Builtin.«tuple.__mul__» ⟨[.ref l,.int x u],[]⟩) (fun _ R s=>s.heap.get? l=some ⟨.type "tuple", dd,.seq items n,sl⟩/\R (.ok (.ret (Value.ref s.heap.objs.size))) { s with heap:=s.heap.push { cls:=Value.type "tuple", data:=Data.seq (List.foldl (fun x1 x2=>x1++x2) #[] (List.replicate x.toNat items)) } }) :=
 .of_wp fun prog w A R s h=>by
  obtain⟨hp,g,d,tk,os⟩:=s
  obtain⟨hl,h⟩:=h
  have hm:(items.size:Int)*x<=16777216:=by
   have e:((items.size*x.toNat:Nat):Int)=(items.size:Int)*x:=by rw[Int.natCast_mul,Int.toNat_of_nonneg (by omega)]
   have:items.size*x.toNat<=16777216:=by rw[← sizeLine_eq];exact hz
   omega
  wp_walk
  refine wpAny_ite_false (by simp;omega) ?_
  have ht:Heap.IsTuple (Shared.heap ⟨hp,g,d,tk,os⟩) l items:=⟨_,hl,rfl,n,rfl⟩
  refine wpAny_bind (tupleItemsOf_ ht ?_)
  refine wpAny_ite_false (by rw[he];simp;omega) ?_
  show wpAny _ _ (if(decide (x<=0) || items.isEmpty)=true then _ else _) _ _ _
  refine wpAny_ite_false (by rw[he];simp;omega) ?_
  show wpAny _ _ (if(items.size:Int)*x > (2 ^ 63 - 1) / 8 then _ else _) _ _ _
  rw[if_neg (by omega)]
  show wpAny _ _ (if Builtin.Tuple.tupleTooMany ((items.size:Int)*x)=true then _ else _) _ _ _
  rw[if_neg (by unfold Builtin.Tuple.tupleTooMany;rw[sizeLine_eq];simp;omega)]
  refine wpAny_bind (m:=Builtin.Tuple.tupleExact _) (wpAny_newObj_type (wpAny_pure ⟨_,rfl,h⟩) ?_)
  show(List.foldl (fun x1 x2=>x1++x2) #[] (List.replicate x.toNat items)).size<=sizeLine
  rw[au9 items x.toNat,List.size_toArray,aj6,Array.length_toList,Nat.mul_comm]
  exact hz
section
variable {X:Cx}
theorem bn4:OpR X (binaryOp .Mult) (fun x y H Q=>∃l k xs,x=.ref l/\y=.int k/\SqT X.K H l xs/\xs≠[]/\2<=k/\k < 1000000/\xs.length*k.toNat<=sizeLine/\∀p,H p=none->Q (.ref p) (upd H p (.tup (List.replicate k.toNat xs).flatten))):=by
 intro pins s σ H x y v u Q I rx ry h
 obtain⟨l,k,xs,rfl,rfl,hq,hx,h2,h3,hz,q⟩:=h
 cases rx
 obtain⟨t,rfl⟩:=ry
 obtain⟨its,r,p1,_⟩:=I.tuple hq
 obtain⟨⟨cls,dd,data,sl⟩,ho,hc,n,hd⟩:=id p1
 simp only at hc hd
 subst hc hd
 have hl:=r.length
 have he:its.toArray.isEmpty=false:=by
  cases its with
  | nil=>exact absurd (r.nil_iff.mp rfl) hx
  | cons a b=>rfl
 refine wpAny_binaryOp_repeat_ref (T := "tuple") (U := "int") (by decide) ⟨_,ho,rfl⟩ (fun s'=>typeIs_int s' k t) k6 F.fills_int_mul F.slot_int_rmul ae0 F.slot_int_index.lookup
  (call_meets F.slot_int_rmul (typeIs_int s k t) F.entry_int_rmul (F.args_int_rmul_2 _ _) (W7 k t l its.toArray n dd sl) ⟨ho,rfl,⟨_,ho,rfl⟩,
   call_meets F.slot_tuple_mul ⟨_,ho,rfl⟩ F.entry_tuple_mul (F.args_tuple_mul_2 _ _) (ao6 l its.toArray n dd sl k t h2 h3 he (by rw[List.size_toArray,← hl];exact hz)) ⟨ho,?_⟩⟩)
 rw[au9]
 refine⟨.ref _,_,I.laid (t':=s.toks) (o:=.tup (List.replicate k.toNat xs).flatten) (fun b ob q=>Heap.get?_push_of_some _ q) (Nat.le_refl _) ⟨?_,_,r.rep k.toNat,ac2.new _ _⟩,rfl,q _ (I.hok.fresh (Nat.le_refl _))⟩
 rw[aj6,Nat.mul_comm];exact hz
noncomputable def L6(x y:D):Option D:=match x,y with
 | .int i,.int j=>if C8 i/\C8 j then some (.int (i*j)) else none
 | .tuple xs,.int k=>if xs.isEmpty=false/\2<=k/\k < 1000000/\xs.length*k.toNat<=16777216 then some (.tuple (List.replicate k.toNat xs).flatten) else none
 | _,_=>none
theorem aj0:OpD X (binaryOp .Mult) L6:=fun x y z h=>by
 unfold L6 at h
 split at h
 ·exact bG4 _ _ z (by unfold bH3;exact h)
 ·split at h
  ·rename_i xs k c
   cases h
   refine OpR.imp bn4 fun vx vy H Q ⟨Hf,s,r1,r2,kk⟩=>?_
   obtain⟨a,vs,rfl,h2,h3⟩:=r1
   refine⟨a,k,vs,rfl,r2,B4 s h2,?_,c.2.1,c.2.2.1,by rw[h3.length,sizeLine_eq];exact c.2.2.2,fun p hp=>?_⟩
   ·intro e
    subst e
    have:=h3.length
    cases xs with
    | nil=>exact absurd c.1 (by simp)
    | cons a b=>simp at this
   ·exact kk _ _ _ (Grow.laid s hp) ⟨p,_,rfl,SqT.of A6,(h3.flatten k.toNat).mono (B9 (s.free hp))⟩
  ·cases h
 ·cases h
noncomputable def be7(f:DE):DE:=fun ρ=>(f ρ).bind fun d=>match d with
 | .int i=>some (.int (-i))
 | _=>none
theorem aw5(h:JE X a f):JE X (.UnaryOp .USub a pos) (be7 f):=fun ρ d q=>by
 obtain⟨x,e1,e2⟩:=xbm q
 cases x with
 | int i =>
  cases e2
  exact A9 (bU0 bB0 (h ρ _ e1)) fun σ H Q ⟨H0,Hf,s,sl,k⟩=>⟨H0,Hf,s,sl,fun v H1 Hf1 g1 r1=>⟨_,r1,k _ H1 Hf1 g1 rfl⟩⟩
 | _=>cases e2
noncomputable def isB(x y:D):Option D:=match y with
 | .bool b=>(match x with
  | .bool c=>some (.bool (c==b))
  | .dict _=>none
  | _=>some (.bool false))
 | .none=>isN x .none
 | _=>none
noncomputable def bW0(x y:D):Option D:=match y with
 | .bool b=>(match x with
  | .bool c=>some (.bool (!(c==b)))
  | .dict _=>none
  | _=>some (.bool true))
 | .none=>bG8 x .none
 | _=>none
theorem bV3:OpD X (compareOp .Is) isB:=fun x y z h=>by
 cases y with
 | none=>exact bG6 x .none z h
 | bool b =>
  intro pins s σ H vx vy v u Q I rx ry ⟨Hf,ss,r1,r2,k⟩
  cases r2
  cases ry
  have fin:∀c,z=.bool c->(v==Value.bool b)=c->EP X pins σ Q (.bool (v==Value.bool b)) s:=fun c e1 e2=>by
   rw[e2];subst e1;exact⟨.bl c,H,I,rfl,k _ H Hf (Grow.refl ss) rfl⟩
  cases x with
  | none=>cases r1;cases rx;cases h;exact wpAny_is_plain rfl (fin _ rfl rfl)
  | bool c=>cases r1;cases rx;cases h;exact wpAny_is_plain rfl (fin _ rfl (by cases c<;>cases b<;>rfl))
  | int i=>cases r1;obtain⟨t,rfl⟩:=rx;cases h;exact wpAny_is_plain rfl (fin _ rfl rfl)
  | str i=>cases r1;obtain⟨t,rfl⟩:=rx;cases h;exact wpAny_is_plain rfl (fin _ rfl rfl)
  | tuple ds=>obtain⟨a,vs,rfl,_⟩:=r1;cases rx;cases h;exact wpAny_is_plain rfl (fin _ rfl rfl)
  | list ds=>obtain⟨a,vs,rfl,_⟩:=r1;cases rx;cases h;exact wpAny_is_plain rfl (fin _ rfl rfl)
  | dict ds=>cases h
 | _=>cases h
theorem aW3:OpD X (compareOp .IsNot) bW0:=fun x y z h=>by
 cases y with
 | none=>exact bo4 x .none z h
 | bool b =>
  intro pins s σ H vx vy v u Q I rx ry ⟨Hf,ss,r1,r2,k⟩
  cases r2
  cases ry
  have fin:∀c,z=.bool c->(!(v==Value.bool b))=c->EP X pins σ Q (.bool (!(v==Value.bool b))) s:=fun c e1 e2=>by
   rw[e2];subst e1;exact⟨.bl c,H,I,rfl,k _ H Hf (Grow.refl ss) rfl⟩
  cases x with
  | none=>cases r1;cases rx;cases h;exact wpAny_isNot_plain rfl (fin _ rfl rfl)
  | bool c=>cases r1;cases rx;cases h;exact wpAny_isNot_plain rfl (fin _ rfl (by cases c<;>cases b<;>rfl))
  | int i=>cases r1;obtain⟨t,rfl⟩:=rx;cases h;exact wpAny_isNot_plain rfl (fin _ rfl rfl)
  | str i=>cases r1;obtain⟨t,rfl⟩:=rx;cases h;exact wpAny_isNot_plain rfl (fin _ rfl rfl)
  | tuple ds=>obtain⟨a,vs,rfl,_⟩:=r1;cases rx;cases h;exact wpAny_isNot_plain rfl (fin _ rfl rfl)
  | list ds=>obtain⟨a,vs,rfl,_⟩:=r1;cases rx;cases h;exact wpAny_isNot_plain rfl (fin _ rfl rfl)
  | dict ds=>cases h
 | _=>cases h
noncomputable def az6(K:PySem.W.Frag) (d:D) (u:Value):Prop:=∃v,D2 v u/\∀H:Hp,Rep K H d v
theorem bL9(r:az6 X.K d u) (hg:Gl X x) (hm:X.mg x=some u) (hd:(x==("__debug__" : Str))=false:=by decide):JE X (.Name x pos) (dC d):=fun ρ d' q=>by
 cases q
 obtain⟨v,rv,rp⟩:=r
 exact A9 (bn0 hg hm rv hd) fun σ H Q ⟨H0,Hf,s,sl,k⟩=>k _ H Hf (Grow.refl s) (rp Hf)
noncomputable def qN(f:Rho->Option (List D)):Rho->Option (Bool×List D):=fun ρ=>(f ρ).map fun ds=>(false,ds)
theorem bK3(h:JN X e f):JQ X e (qN f):=aZ2 h
noncomputable def P2(f:Rho->Option (Bool×List D)):DE:=fun ρ=>(f ρ).bind fun q=>if q.1=true then none else some (.tuple q.2)
theorem bs0(hg:Gl X "tuple") (hm:X.mg "tuple" = none) (h:JQ X e f) (he:starEach [e] X.env=[(false,eval e X.env)]:=by rfl):JE X (.Call (.Name "tuple" p) [e] [] pos) (P2 f):=ba1 hg hm h (he:=he)
end
end G
namespace G
open PySem PySem.Spec PyProof.Rows L2
theorem aP9(l b:Addr) (items items2:Array Value) (n n2:Nat) (dd dd2:Option Addr) (sl sl2:Array (Option Value)) (hz:items.size+items2.size<=sizeLine) :
  Meets (Builtin.«list.__add__» ⟨[.ref l,.ref b],[]⟩) (fun _ R s=>s.heap.get? l=some ⟨.type "list", dd,.seq items n,sl⟩/\s.heap.get? b=some ⟨.type "list", dd2,.seq items2 n2,sl2⟩/\R (.ok (.ret (Value.ref s.heap.objs.size))) { s with heap:=s.heap.push { cls:=Value.type "list", data:=Data.seq (items++items2) } }) :=
 .of_wp fun prog w A R s h=>by
  obtain⟨hp,g,d,tk,os⟩:=s
  obtain⟨hl,hb,h⟩:=h
  have hsub:isSubtype (.type "list") (.type "list")=pure true:=by rw[isSubtype_type];kernel_rfl
  have hsz:=hz
  wp_walk
  exact⟨_,rfl,h⟩
section
variable {X:Cx}
theorem aD3:OpR X (binaryOp .Add) (fun x y H Q=>∃a b xs ys,x=.ref a/\y=.ref b/\SqL X.K H a xs/\SqL X.K H b ys/\xs.length+ys.length<=sizeLine/\∀p,H p=none->Q (.ref p) (upd H p (.lst (xs++ys)))):=by
 intro pins s σ H x y v u Q I rx ry h
 obtain⟨a,b,xs,ys,rfl,rfl,ha,hb,hz,q⟩:=h
 cases rx
 cases ry
 obtain⟨its,r1,p1,_⟩:=I.list ha
 obtain⟨its2,r2,p2,_⟩:=I.list hb
 obtain⟨⟨cls,dd,data,sl⟩,ho,hc,n,hd⟩:=p1.isList
 obtain⟨⟨cls2,dd2,data2,sl2⟩,ho2,hc2,n2,hd2⟩:=p2.isList
 simp only at hc hd hc2 hd2
 subst hc hd hc2 hd2
 have l1:=r1.length
 have l2:=r2.length
 refine concat_meets ⟨_,ho,rfl⟩ ⟨_,ho2,rfl⟩ noFill_list_add seq_list_add PySem.F.slot_list_add PySem.F.entry_list_add (PySem.F.args_list_add_2 _ _) (aP9 a b its.toArray its2.toArray n n2 dd dd2 sl sl2 (by simp only[List.size_toArray];grind)) ⟨ho,ho2,?_⟩
 have ea:its.toArray++its2.toArray=(its++its2).toArray:=by simp
 rw[ea]
 exact⟨.ref _,_,I.lnew (t':=s.toks) (r1.append r2) (by rw[List.length_append];grind),rfl,q _ I.fresh⟩
noncomputable def J1(x y:D):Option D:=match x,y with
 | .list xs,.list ys=>if xs.length+ys.length<=16777216 then some (.list (xs++ys)) else none
 | x,y=>P3 x y
theorem aD5:OpD X (binaryOp .Add) J1:=fun x y z h=>by
 unfold J1 at h
 split at h
 ·split at h
  ·rename_i c
   cases h
   refine OpR.imp aD3 fun vx vy H Q ⟨Hf,s,r1,r2,k⟩=>?_
   obtain⟨a,vs,rfl,h2,h3⟩:=r1
   obtain⟨b,us,rfl,h5,h6⟩:=r2
   refine⟨a,b,vs,us,rfl,rfl,C9 s h2,C9 s h5,by rw[h3.length,h6.length,sizeLine_eq];exact c,fun p hp=>?_⟩
   exact k _ _ _ (Grow.laid s hp) ⟨p,vs++us,rfl,SqL.of A6,(h3.append h6).mono (B9 (s.free hp))⟩
  ·cases h
 ·exact aW4 _ _ z h
noncomputable def by6(f:DE):DE:=fun ρ=>(f ρ).bind fun d=>match d with
 | .tuple xs=>some (.tuple xs.reverse)
 | _=>none
end
end G
namespace G
open PySem PySem.Spec PyProof.Rows L2
section
variable {prog:Program}{w:World}{A:Around}{E:Value->Shared->Prop}{s:Shared}
theorem az0(n:Nat):Builtin.Slice.sliceAdjust none none (-1) (n:Int)=((n:Int) - 1,-1):=by
 unfold Builtin.Slice.sliceAdjust
 have h1:(-1:Int) < 0:=by omega
 simp only[h1,if_true]
theorem av3(n:Nat):Builtin.Slice.slicePlaces ((n:Int) - 1) (-1) (-1)=n:=by
 unfold Builtin.Slice.slicePlaces
 have h1:¬(-1:Int) > 0:=by grind
 have h2:-(-1:Int)=1:=by grind
 simp only[h1,if_false,h2,Int.ediv_one]
 split<;>grind
theorem b6{sl:Addr}{t:Tok}{n:Nat}{Q:Int×Int×Nat->Shared->Prop}(hs:s.heap.IsSliceOf sl .none .none (.int (-1) t))
  (h:Q ((n:Int) - 1,-1,n) s):wpAny (model prog w) A (Builtin.Slice.sliceApplied (.ref sl) (pure (n:Int))) Q E s:=by
 obtain⟨os,hos,hcs,hds⟩:=id hs
 unfold Builtin.Slice.sliceApplied Builtin.Slice.sliceFields
 refine wpAny_bind (wpAny_bind (wpAny_field hos hds (x:=.none) rfl (wpAny_bind (wpAny_field hos hds (x:=.none) rfl (wpAny_bind (wpAny_field hos hds (x:=.int (-1) t) rfl (wpAny_pure ?_)))))))
 refine wpAny_bind (slicePart_int ?_)
 show wpAny _ _ (if((-1:Int)==0)=true then _ else _) _ _ s
 rw[if_neg (by decide)]
 refine wpAny_bind (slicePart_none (wpAny_bind (slicePart_none (wpAny_bind (wpAny_pure ?_)))))
 show wpAny _ _ (match Builtin.Slice.sliceAdjust none none (-1) (n:Int) with|(lo,hi)=>pure (lo,(-1:Int),Builtin.Slice.slicePlaces lo hi (-1))) _ _ s
 rw[az0 n]
 show wpAny _ _ (pure ((n:Int) - 1,(-1:Int),Builtin.Slice.slicePlaces ((n:Int) - 1) (-1) (-1))) _ _ s
 rw[av3]
 exact wpAny_pure h
theorem ao0{α:Type}:∀l:List α,(List.range l.length).filterMap (fun k=>l[k]?)=l
 | []=>rfl
 | a::l=>by
  rw[List.length_cons,List.range_succ_eq_map,List.filterMap_cons,List.filterMap_map]
  simp only[List.getElem?_cons_zero]
  congr 1
  exact ao0 l
theorem aq3{α β:Type}{f g:α->Option β}:∀{l:List α},(∀x∈l,f x=g x)->l.filterMap f=l.filterMap g
 | [],_=>rfl
 | a::l,h=>by rw[List.filterMap_cons,List.filterMap_cons,h a (List.mem_cons_self ..),aq3 fun x hx=>h x (List.mem_cons_of_mem _ hx)]
theorem aU8(xs:Array Value):((List.range xs.size).filterMap fun(k:Nat)=>xs[(((xs.size:Int) - 1)+(k:Int) * -1).toNat]?).toArray=xs.toList.reverse.toArray:=by
 congr 1
 have e:∀k∈List.range xs.size,xs[(((xs.size:Int) - 1)+(k:Int) * -1).toNat]? = xs.toList.reverse[k]?:=by
  intro k hk
  have hk:=List.mem_range.mp hk
  have:(((xs.size:Int) - 1)+(k:Int) * -1).toNat=xs.size - 1 - k:=by grind
  rw[this,List.getElem?_reverse (by rw[Array.length_toList];exact hk),Array.length_toList,Array.getElem?_toList]
 rw[aq3 e]
 have:=ao0 xs.toList.reverse
 rw[List.length_reverse,Array.length_toList]at this
 exact this
theorem Y1(ht:IsTup s.heap t items) (hs:s.heap.IsSliceOf sl .none .none (.int (-1) k))
  (h:Q (.ref s.heap.objs.size) { s with heap:=s.heap.push { cls:=.type "tuple", data:=.seq items.toList.reverse.toArray } })
  (hsz:items.size<=sizeLine):wpAny (model prog w) A (getItem (.ref t) (.ref sl)) Q E s:=by
 have htake:sizeOk (.seq items.toList.reverse.toArray):=by
  show items.toList.reverse.toArray.size<=sizeLine
  rw[List.size_toArray,List.length_reverse,Array.length_toList]
  omega
 obtain⟨os,hos,hcs,hds⟩:=id hs
 have hTs:s.TypeIs (.ref sl) "slice" := ⟨os,hos,hcs⟩
 unfold getItem
 try with_reducible refine wpAny_holding ?_
 first|refine wpAny_bind (wpAny_pure ?_)|skip
 refine wpAny_bind (wpAny_sequenceKey ht.typeIs (by decide) ?_)
 refine wpAny_bind (wpAny_callSpecial?_slot (name:=Str.ofString "__getitem__") ht.typeIs PyProof.Rows.slot_tuple_getitem
  (wpAny_call_entry PyProof.Rows.slot_tuple_getitem ht.typeIs entry_tuple_getitem ?_ (args_tuple_getitem _ _)))
 show wpAny _ _ (Builtin.Tuple.tupleItemsOf (.ref t) >>= _) _ _ s
 refine wpAny_bind (tupleItemsOf_ ht ?_)
 refine wpAny_bind (wpAny_typeOf hTs ?_)
 rw[if_pos (by decide)]
 refine wpAny_bind (b6 hs ?_)
 have hno:¬((((items.size:Int) - 1)==0&&(-1:Int)==1&&items.size==items.size)=true):=by
  have:((-1:Int)==1)=false:=rfl
  rw[this];simp
 show wpAny _ _ (if(((items.size:Int) - 1)==0&&(-1:Int)==1&&items.size==items.size)=true then _ else _) _ _ s
 rw[if_neg hno,aU8]
 first
  | exact wpAny_bind (m:=Builtin.Tuple.tupleExact _) (wpAny_newObj_type (wpAny_pure ⟨_,rfl,wpAny_pure h⟩) htake)
  | exact wpAny_bind (m:=Builtin.Tuple.tupleExact _) (wpAny_newObj_type (wpAny_bind (wpAny_pure (wpAny_pure ⟨_,rfl,wpAny_pure h⟩))) htake)
  | exact wpAny_bind (wpAny_bind (m:=Builtin.Tuple.tupleExact _) (wpAny_newObj_type (wpAny_pure (wpAny_pure ⟨_,rfl,wpAny_pure h⟩)) htake))
  | exact wpAny_bind (wpAny_bind (m:=Builtin.Tuple.tupleExact _) (wpAny_newObj_type (wpAny_pure ⟨_,rfl,wpAny_pure h⟩) htake))
end
section
variable {X:Cx}{e st:Expr}{te ts:TE}{p2 pos:Pos}
theorem am1:∀{xs:List V}{us:List Value},B3 xs us->B3 xs.reverse us.reverse
 | [],[],h=>h
 | x::xs,u::us,h=>by
  cases h with
  | cons a b=>rw[List.reverse_cons,List.reverse_cons];exact(am1 b).append (.cons a .nil)
theorem bF3(he:PE X e te) (hs:PE X st ts):PE X (.Subscript e (.Slice none none (some st) p2) pos)
  (fun σ H Q=>te σ H fun x H1=>ts σ H1 fun y H2=>∃a xs,x=.ref a/\y=.int (-1)/\SqT X.K H2 a xs/\∀p,H2 p=none->Q (.ref p) (upd H2 p (.tup xs.reverse))):=by
 intro pins s σ H Q I h
 refine Subscript_ (thn (he pins s σ H _ I h) fun v s1 ⟨x,H1,I1,r1,q1⟩=>?_)
 refine wpAny_Slice ?_
 rw[evalPart_none]
 refine wpAny_pure (wpAny_pure ?_)
 rw[evalPart_some]
 refine thn (hs pins s1 σ H1 _ I1 q1) fun vs s3 ⟨y,H3,I3,r3,a,xs,e1,e2,hx,q⟩=>?_
 subst e1 e2
 cases r1
 obtain⟨tk,rfl⟩:=r3
 have I4:Inv X pins σ H3 { s3 with heap:=s3.heap.push { cls:=.type "slice", data:=.fields #[.none,.none,.int (-1) tk] } }:=I3.kept (t':=s3.toks) fun b ob q=>Heap.get?_push_of_some _ q
 obtain⟨its,r,ht,hz⟩:=I4.tuple hx
 have hlen:its.toArray.size=xs.length:=by rw[List.size_toArray];exact r.length.symm
 show wpAny (model X.prog X.w) X.A (subscriptTail e (.Slice none none (some st) p2) (.ref a) (.ref s3.heap.objs.size)) (EP X pins σ Q) X.xe { s3 with heap:=s3.heap.push { cls:=.type "slice", data:=.fields #[.none,.none,.int (-1) tk] } }
 refine tail_any (ops:=[.ref a,.ref s3.heap.objs.size]) ht.typeIs PyProof.Rows.slot_tuple_getitem.lookup ?_ (by with_unfolding_all rfl)
 refine Y1 ht (Heap.IsSliceOf.new ..) ?_ (by rw[hlen];exact hz)
 refine⟨.ref _,_,I4.laid (t':=s3.toks) (o:=.tup xs.reverse) (fun b ob q=>Heap.get?_push_of_some _ q) (Nat.le_refl _) ?_,rfl,q _ (I4.hok.fresh (Nat.le_refl _))⟩
 exact⟨by rw[List.length_reverse];exact hz,_,am1 r,ac2.new _ _⟩
theorem aT2{K:PySem.W.Frag}{H:Hp}{ds:List D}{vs:List V}(h:Reps K H ds vs):Reps K H ds.reverse vs.reverse:=by
 induction ds generalizing vs with
 | nil=>cases vs with
  | nil=>exact h
  | cons _ _=>exact absurd h.length (by simp)
 | cons d ds ih=>cases vs with
  | nil=>exact absurd h.length (by simp)
  | cons v vs =>
   obtain⟨v',r',e,h1,h2⟩:=h
   cases e
   rw[List.reverse_cons,List.reverse_cons]
   exact(ih h2).append ⟨_,_,rfl,h1,rfl⟩
theorem bs3(ha:JE X a f) (hs:JE X st (be7 (dC (.int 1)))):JE X (.Subscript a (.Slice none none (some st) p2) pos) (by6 f):=fun ρ d q=>by
 obtain⟨x,e1,q⟩:=xbm q
 cases x with
 | tuple xs =>
  cases q
  refine A9 (bF3 (ha ρ _ e1) (hs ρ (.int (-1)) rfl)) fun σ H Q ⟨H0,Hf,s,sl,k⟩=>?_
  refine⟨H0,Hf,s,sl,fun v H1 Hf1 g1 ⟨p,vs,q1,q2,q3⟩=>⟨H0,Hf1,g1.sub,sl.grow g1,fun u H2 Hf2 g2 r2=>?_⟩⟩
  subst q1
  cases r2
  have q2':=B4 g2.ext q2
  have q3':=q3.mono g2.ext
  refine⟨p,vs,rfl,rfl,B4 g2.sub q2',fun p' hp=>?_⟩
  exact k _ _ _ ((g1.trans g2).trans (Grow.laid g2.sub hp)) ⟨p',_,rfl,SqT.of A6,(aT2 q3').mono (B9 (g2.sub.free hp))⟩
 | _=>cases q
end
end G
namespace G
open PySem PySem.Spec PyProof.Rows L2
section
variable {X:Cx}
noncomputable def atS(x:Str) (i:Int):Option D:=if x.length<=16777216 then(atI x.cps.toList i).map fun c=>.str ⟨#[c]⟩ else none
noncomputable def bZ3(f g:DE):DE:=fun ρ=>(f ρ).bind fun x=>(g ρ).bind fun i=>match x,i with
 | .str x,.int i=>atS x i
 | _,_=>none
theorem bL6(ha:JE X a f) (hb:JE X b g) (hs:u3 b:=by intro _ _;rfl):JE X (.Subscript a b pos) (bZ3 f g):=fun ρ d q=>by
 obtain⟨x,h1,q⟩:=xbm q
 obtain⟨y,h2,h3⟩:=xbm q
 split at h3
 ·rename_i x i
  unfold atS at h3
  split at h3
  ·rename_i hz
   obtain⟨c,e1,e2⟩:=Option.map_eq_some_iff.mp h3
   subst e2
   refine A9 (bx0 bb4 (ha ρ _ h1) (hb ρ _ h2) hs) fun σ H Q ⟨H0,Hf,s,sl,k⟩=>?_
   refine⟨H0,Hf,s,sl,fun v H1 Hf1 g1 r1=>⟨H0,Hf1,g1.sub,sl.grow g1,fun u H2 Hf2 g2 r2=>?_⟩⟩
   exact .inr (.inr ⟨x,i,c,r1,r2,by rw[sizeLine_eq];exact hz,e1,k _ H2 Hf2 (g1.trans g2) rfl⟩)
  ·cases h3
 ·cases h3
noncomputable def Y8(f:DE) (lo hi:Rho->Option (Option Int)):DE:=fun ρ=>(f ρ).bind fun d=>(lo ρ).bind fun l=>(hi ρ).bind fun h=>match d with
 | .tuple xs=>some (.tuple (U3 xs l h))
 | .list xs=>some (.list (U3 xs l h))
 | _=>none
theorem bL3{a:Expr}{lo hi:Option Expr}{f:DE}{l h:Rho->Option (Option Int)}{pos p2:Pos}(ha:JE X a f) (hl:JO X lo l) (hh:JO X hi h):JE X (.Subscript a (.Slice lo hi none p2) pos) (Y8 f l h):=fun ρ d q=>by
 obtain⟨x,e1,q⟩:=xbm q
 obtain⟨y,e2,q⟩:=xbm q
 obtain⟨z,e3,q⟩:=xbm q
 cases x with
 | tuple xs =>
  cases q
  refine ba3 ha hl hh ρ _ ?_
  unfold ax5
  rw[e1,Option.bind_some,e2,Option.bind_some,e3,Option.bind_some]
 | list xs =>
  cases q
  refine A9 (X0 aB4 (ha ρ _ e1) (hl ρ y e2) (hh ρ z e3)) fun σ H Q ⟨H0,Hf,s,sl,k⟩=>?_
  refine⟨H0,Hf,s,sl,fun v H1 Hf1 g1 ⟨p,vs,q1,q2,q3⟩=>⟨H0,Hf1,g1.sub,sl.grow g1,fun H2 Hf2 g2=>⟨H0,Hf2,g2.sub,sl.grow (g1.trans g2),fun H3 Hf3 g3=>?_⟩⟩⟩
  subst q1
  have q2':=C9 (g2.trans g3).ext q2
  have q3':=q3.mono (g2.trans g3).ext
  refine⟨p,vs,rfl,C9 g3.sub q2',fun p' hp=>?_⟩
  exact k _ _ _ (((g1.trans g2).trans g3).trans (Grow.laid g3.sub hp)) ⟨p',_,rfl,SqL.of A6,(x3 q3' y z).mono (B9 (g3.sub.free hp))⟩
 | _=>cases q
end
end G
namespace G
open PySem PySem.Spec PyProof.Rows L2
section
variable {X:Cx}
end
end G
namespace G
open PySem PySem.Spec PyProof.Rows L2
section
open PySem.SeqAt PySem.MeetsSeq PySem.MeetsSeq2 PySem.MeetsSeq3 PySem.SeqRoads2
open PySem.AutoSeq1 (wpAny_loadPart')
theorem u8(l:Addr) (items:Array Value) (n:Nat) (dd:Option Addr) (sl:Array (Option Value)) (x:Value) (e:Nat->Bool) :
  Meets (Builtin.«tuple.__contains__» ⟨[.ref l,x],[]⟩)
   (fun A R s=>s.heap.get? l=some { cls:=.type "tuple", dict:=dd,data:=.seq items n,slots:=sl }/\(∀j (h:j < items.size),EqAt A.in1 s items[j] x (e j))/\R (.ok (.ret (.bool ((List.range items.size).any e)))) s) :=
 .of_wp fun prog w A R s h=>by
  obtain⟨hp,g,d,tk,os⟩:=s;obtain⟨hl,he,h⟩:=h
  wp_walk using wpAny_loadPart' hl,wpAny_forIn_array _ (fun D7 b s'=>b.1=none/\s'=⟨hp,g,d,tk,os⟩/\∃i,D7=items.toList.drop i/\R (.ok (.ret (.bool (((List.range items.size).drop i).any e)))) ⟨hp,g,d,tk,os⟩) _
  case turn =>
   rintro y D7 b s' ⟨hb,rfl,i,hz,hR⟩
   have hlt:i < items.toList.length:=by
    rcases Nat.lt_or_ge i items.toList.length with h'|h'
    ·exact h'
    ·rw[List.drop_of_length_le h']at hz;cases hz
   have hi:i < items.size:=by simpa using hlt
   rw[List.drop_eq_getElem_cons hlt]at hz
   injection hz with hy hrest
   have hy:y=items[i]:=by simpa using hy
   subst hy
   have hd:(List.range items.size).drop i=i::(List.range items.size).drop (i+1):=by simp[List.drop_eq_getElem_cons,hi]
   rw[hd,List.any_cons]at hR
   refine wpAny_bind (he i hi prog w _ _ ?_)
   cases hy:e i with
   | true =>
    rw[hy]at hR
    wp_walk
    exact⟨_,rfl,by simpa using hR⟩
   | false =>
    rw[hy]at hR
    wp_walk
    exact⟨rfl,rfl,i+1,hrest,by simpa using hR⟩
  case fin =>
   rintro⟨b1,b2⟩ s' ⟨hb,rfl,i,hz,hR⟩
   simp only at hb
   subst hb
   have hge:items.size<=i:=by
    rcases Nat.lt_or_ge i items.toList.length with h'|h'
    ·rw[List.drop_eq_getElem_cons h']at hz;cases hz
    ·simpa using h'
   rw[List.drop_of_length_le (by simpa using hge)]at hR
   wp_walk
   exact⟨_,rfl,by simpa using hR⟩
  case h =>
   exact⟨rfl,rfl,0,by simp,by simpa using h⟩
end
section
variable {X:Cx}
noncomputable def L8:D->Bool
 | .none=>true
 | .bool _=>true
 | .int _=>true
 | .str _=>true
 | _=>false
noncomputable def toV:D->V
 | .none=>.non
 | .bool b=>.bl b
 | .int i=>.int i
 | .str x=>.str x
 | _=>.non
theorem O4{K:PySem.W.Frag}{H:Hp}{d:D}{v:V}(f:L8 d=true) (r:Rep K H d v):v=toV d/\U6 v=true:=by
 cases d with
 | none=>cases r;exact⟨rfl,rfl⟩
 | bool b=>cases r;exact⟨rfl,rfl⟩
 | int i=>cases r;exact⟨rfl,rfl⟩
 | str x=>cases r;exact⟨rfl,rfl⟩
 | tuple _=>cases f
 | list _=>cases f
 | dict _=>cases f
theorem T0{K:PySem.W.Frag}{H:Hp}:∀{ds:List D}{vs:List V},ds.all L8=true->Reps K H ds vs->vs=ds.map toV/\vs.all U6=true
 | [],vs,_,r=>by cases(show vs=[] from r);exact⟨rfl,rfl⟩
 | d::ds,vs,f,r=>by
  rw[List.all_cons,Bool.and_eq_true]at f
  obtain⟨v,r',e,h1,h2⟩:=r
  subst e
  obtain⟨e1,e2⟩:=O4 f.1 h1
  obtain⟨e3,e4⟩:=T0 f.2 h2
  subst e1 e3
  exact⟨rfl,by rw[List.all_cons,e2,e4];rfl⟩
noncomputable def isS:D->Bool
 | .str _=>true
 | _=>false
noncomputable def inD(neg:Bool) (x y:D):Option D:=match y with
 | .list ds=>if L8 x=true/\ds.all L8=true then some (.bool (if neg then !inV (toV x) (ds.map toV) else inV (toV x) (ds.map toV))) else none
 | .tuple ds=>if L8 x=true/\ds.all L8=true then some (.bool (if neg then !inV (toV x) (ds.map toV) else inV (toV x) (ds.map toV))) else if L8 x=false/\SeqAt.shaped x=true/\ds.all isS=true then some (.bool neg) else if SeqAt.shaped x=true/\x.depth<=60/\ds.all SeqAt.shaped=true then some (.bool (if neg then !(ds.any fun y=>PyData.eqv y x) else ds.any fun y=>PyData.eqv y x)) else none
 | _=>none
theorem bt8(f:L8 x=false) (sh:SeqAt.shaped x=true) (r:Reads s.heap v x as) (hu:A.units < cLine) (a:Str) (t:Tok):SeqAt.EqAt A s (.str a t) v false:=by
 cases r with
 | none=>cases f
 | bool _=>cases f
 | int _ _=>cases f
 | str _ _=>cases f
 | list h1 h2 h3 _=>exact SeqAt.EqAt.str_list a t ⟨_,h1,h2,_,h3⟩ hu
 | tuple h1 h2 h3 _=>exact SeqAt.EqAt.str_tuple a t ⟨_,h1,h2,_,h3⟩ hu
 | dict _ _ _ _ _=>exact absurd (SeqAt.canLay_of_shaped sh) (by simp[PyData.canLay0])
theorem aq4{K:PySem.W.Frag}{H:Hp}:∀{ds:List D}{vs:List V}{us:List Value},ds.all isS=true->Reps K H ds vs->B3 vs us->∀y∈us,∃a t,y=Value.str a t
 | [],_,_,_,r,w=>by cases(show _=[] from r);cases w;intro y hy;cases hy
 | d::ds,_,_,f,r,w=>by
  rw[List.all_cons,Bool.and_eq_true]at f
  obtain⟨v,r',rfl,h1,h2⟩:=r
  cases w with
  | cons w1 w2 =>
   intro y hy
   rcases List.mem_cons.mp hy with rfl|hy
   ·cases d with
    | str a =>
     cases(show v=.str a from h1)
     obtain⟨t,e⟩:=w1
     exact⟨a,t,e⟩
    | _=>cases f.1
   ·exact aq4 f.2 h2 w2 y hy
theorem bb9{x:D}{ds:List D}{vx vy:V}{v u:Value}{pins:List (Addr×Obj)}{s:Shared}{σ:L2.St}{H Hf:Hp}{Q:Value->Shared->Prop}(hu:X.A.units+64 < cLine) (f:L8 x=false) (sh:SeqAt.shaped x=true) (a:ds.all isS=true) (I:L2.Inv X pins σ H s) (rx:D2 vx v) (ry:D2 vy u) (ss:B5 Hf H) (r1:Rep X.K Hf x vx) (r2:Rep X.K Hf (.tuple ds) vy) :
  (Q (.bool false) s->wpAny (model X.prog X.w) X.A (compareOp .In v u) Q X.xe s)/\(Q (.bool true) s->wpAny (model X.prog X.w) X.A (compareOp .NotIn v u) Q X.xe s):=by
 obtain⟨p,vs,rfl,h2,h3⟩:=r2
 obtain rfl:u=Value.ref p:=ry
 obtain⟨its,rv,pl,_⟩:=I.tuple (B4 ss h2)
 obtain⟨as,rd⟩:=Rep.reads I (r1.mono ss) rx
 have st:=aq4 a h3 rv
 have he:∀y,y∈its.toArray->SeqAt.EqAt X.A.in1 s y v ((fun _=>false) y):=fun y hy=>by
  obtain⟨b,t,rfl⟩:=st y (by simpa using hy)
  exact bt8 f sh rd (by show X.A.units+1 < _;grind) b t
 have no:its.toArray.any (fun _=>false)=false:=by simp
 refine⟨fun q=>SeqAt.in_tupleAt (fun _=>false) pl he (by rw[no];exact q),fun q=>SeqAt.notIn_tupleAt (fun _=>false) pl he (by rw[no];exact q)⟩
theorem bE0:∀{vs:List Value}{ds:List D}{as:List Addr},ReadsAll h vs ds as->vs.length=ds.length/\∀(j:Nat) (hj:j < vs.length),∃bs,Reads h vs[j] (ds.getD j .none) bs
 | [],_,_,r=>by cases r;exact⟨rfl,fun j hj=>absurd hj (Nat.not_lt_zero _)⟩
 | v::vs,_,_,r=>by
  cases r with
  | cons r1 r2 =>
   obtain⟨h1,h2⟩:=bE0 r2
   refine⟨by rw[List.length_cons,List.length_cons,h1],fun j hj=>?_⟩
   cases j with
   | zero=>exact⟨_,r1⟩
   | succ j=>exact h2 j (by simpa using hj)
theorem aP8{α:Type}(p:α->Bool) (z:α) (l:List α):(List.range l.length).any (fun j=>p (l.getD j z))=l.any p:=by
 rw[Bool.eq_iff_iff,List.any_eq_true,List.any_eq_true]
 constructor
 ·rintro⟨j,hj,h⟩
  have hj:=List.mem_range.mp hj
  exact⟨l[j],List.getElem_mem hj,by simpa [hj] using h⟩
 ·rintro⟨x,hx,h⟩
  obtain⟨j,hj,rfl⟩:=List.getElem_of_mem hx
  exact⟨j,List.mem_range.mpr hj,by simpa [hj] using h⟩
theorem bi6(hu:X.A.units+64 < cLine) (sx:SeqAt.shaped x=true) (dx:x.depth<=60) (sd:ds.all SeqAt.shaped=true) (I:L2.Inv X pins σ H s) (rx:D2 vx v) (ss:B5 Hf H) (r1:Rep X.K Hf x vx) (h2:SqT X.K Hf p vs) (h3:Reps X.K Hf ds vs) :
  ∃its:List Value,IsTup s.heap p its.toArray/\its.length=ds.length/\∀j (h:j < its.toArray.size),SeqAt.EqAt X.A.in1 s its.toArray[j] v (PyData.eqv (ds.getD j .none) x):=by
 obtain⟨its,rv,pl,_⟩:=I.tuple (B4 ss h2)
 obtain⟨as,rd⟩:=Rep.reads I (r1.mono ss) rx
 obtain⟨bs,ra⟩:=Reps.reads I (h3.mono ss) rv
 obtain⟨e1,e2⟩:=bE0 ra
 refine⟨its,pl,e1,fun j hj=>?_⟩
 have hj':j < its.length:=by simpa using hj
 obtain⟨cs,q⟩:=e2 j hj'
 have hd:j < ds.length:=by grind
 have sj:=List.all_eq_true.mp sd _ (List.getElem_mem hd)
 have ej:ds.getD j .none=ds[j]:=by simp[hd]
 rw[ej]at q ⊢
 have:=SeqAt.eqAt_reads ds[j] x X.A.in1 s _ _ _ _ q rd (SeqAt.canLay_of_shaped sj) (SeqAt.canLay_of_shaped sx) (by show X.A.units+1+_ < _;have:=Nat.min_le_right ds[j].depth x.depth;grind)
 simpa using this
theorem bb8(hu:X.A.units+64 < cLine) (sx:SeqAt.shaped x=true) (dx:x.depth<=60) (sd:ds.all SeqAt.shaped=true) (I:L2.Inv X pins σ H s) (rx:D2 vx v) (ry:D2 vy u) (ss:B5 Hf H) (r1:Rep X.K Hf x vx) (r2:Rep X.K Hf (.tuple ds) vy) :
  (Q (.bool (ds.any fun y=>PyData.eqv y x)) s->wpAny (model X.prog X.w) X.A (compareOp .In v u) Q X.xe s)/\(Q (.bool (!(ds.any fun y=>PyData.eqv y x))) s->wpAny (model X.prog X.w) X.A (compareOp .NotIn v u) Q X.xe s):=by
 obtain⟨p,vs,rfl,h2,h3⟩:=r2
 obtain rfl:u=Value.ref p:=ry
 obtain⟨its,pl,ln,he⟩:=bi6 hu sx dx sd I rx ss r1 h2 h3
 obtain⟨⟨cls,dd,data,sl⟩,ho,hc,n,hd⟩:=id pl
 simp only at hc hd
 subst hc hd
 have ea:(List.range its.toArray.size).any (fun j=>PyData.eqv (ds.getD j .none) x)=ds.any fun y=>PyData.eqv y x:=by
  rw[List.size_toArray,ln]
  exact aP8 (fun y=>PyData.eqv y x) .none ds
 refine⟨fun q=>SeqRoads2.in_meets ⟨_,ho,rfl⟩ F.slot_tuple_contains F.entry_tuple_contains (F.args_tuple_contains_2 _ _) (u8 p its.toArray n dd sl v _) ⟨ho,he,_,rfl,by rw[ea];exact q⟩,
  fun q=>SeqRoads2.notIn_meets ⟨_,ho,rfl⟩ F.slot_tuple_contains F.entry_tuple_contains (F.args_tuple_contains_2 _ _) (u8 p its.toArray n dd sl v _) ⟨ho,he,_,rfl,by rw[ea];exact q⟩⟩
theorem bc0{op:CmpOp}{neg:Bool}(o:OpR X (compareOp op) (rIn X.K neg)) (o2:∀x ds,L8 x=false->SeqAt.shaped x=true->ds.all isS=true->OpR X (compareOp op) (fun vx vy H Q=>∃Hf,B5 Hf H/\Rep X.K Hf x vx/\Rep X.K Hf (.tuple ds) vy/\∀v H' Hf',Grow H Hf H' Hf'->Rep X.K Hf' (.bool neg) v->Q v H'))
  (o3:∀x ds,SeqAt.shaped x=true->x.depth<=60->ds.all SeqAt.shaped=true->OpR X (compareOp op) (fun vx vy H Q=>∃Hf,B5 Hf H/\Rep X.K Hf x vx/\Rep X.K Hf (.tuple ds) vy/\∀v H' Hf',Grow H Hf H' Hf'->Rep X.K Hf' (.bool (if neg then !(ds.any fun y=>PyData.eqv y x) else ds.any fun y=>PyData.eqv y x)) v->Q v H')):OpD X (compareOp op) (inD neg):=fun x y z h=>by
 unfold inD at h
 split at h
 ·split at h
  ·rename_i c
   cases h
   refine OpR.imp o fun vx vy H Q ⟨Hf,s,r1,r2,k⟩=>?_
   obtain⟨p,vs,rfl,h2,h3⟩:=r2
   obtain⟨e1,e2⟩:=O4 c.1 r1
   obtain⟨e3,e4⟩:=T0 c.2 h3
   subst e1 e3
   exact⟨p,_,rfl,.inl (C9 s h2),e2,e4,k _ H Hf (Grow.refl s) rfl⟩
  ·cases h
 ·split at h
  ·rename_i c
   cases h
   refine OpR.imp o fun vx vy H Q ⟨Hf,s,r1,r2,k⟩=>?_
   obtain⟨p,vs,rfl,h2,h3⟩:=r2
   obtain⟨e1,e2⟩:=O4 c.1 r1
   obtain⟨e3,e4⟩:=T0 c.2 h3
   subst e1 e3
   exact⟨p,_,rfl,.inr (B4 s h2),e2,e4,k _ H Hf (Grow.refl s) rfl⟩
  ·split at h
   ·rename_i c
    cases h
    exact o2 _ _ c.1 c.2.1 c.2.2
   ·split at h
    ·rename_i c
     cases h
     exact o3 _ _ c.1 c.2.1 c.2.2
    ·cases h
 ·cases h
theorem bV4(hu:X.A.units+64 < cLine):OpD X (compareOp .In) (inD false):=bc0 aL4 (fun x ds f sh a pins s σ H vx vy v u Q I rx ry ⟨Hf,ss,r1,r2,k⟩=>(bb9 hu f sh a I rx ry ss r1 r2).1 ⟨.bl false,H,I,rfl,k _ H Hf (Grow.refl ss) rfl⟩)
 fun x ds sx dx sd pins s σ H vx vy v u Q I rx ry ⟨Hf,ss,r1,r2,k⟩=>(bb8 hu sx dx sd I rx ry ss r1 r2).1 ⟨.bl _,H,I,rfl,k _ H Hf (Grow.refl ss) rfl⟩
theorem aW2(hu:X.A.units+64 < cLine):OpD X (compareOp .NotIn) (inD true):=bc0 ai9 (fun x ds f sh a pins s σ H vx vy v u Q I rx ry ⟨Hf,ss,r1,r2,k⟩=>(bb9 hu f sh a I rx ry ss r1 r2).2 ⟨.bl true,H,I,rfl,k _ H Hf (Grow.refl ss) rfl⟩)
 fun x ds sx dx sd pins s σ H vx vy v u Q I rx ry ⟨Hf,ss,r1,r2,k⟩=>(bb8 hu sx dx sd I rx ry ss r1 r2).2 ⟨.bl _,H,I,rfl,k _ H Hf (Grow.refl ss) rfl⟩
end
end G
namespace G
open PySem PySem.Spec PyProof.Rows L2
section
variable {X:Cx}
theorem bg3:bootBuiltins "min" = some (.builtin "min"):=by decide +kernel
theorem ay4:bootBuiltins "max" = some (.builtin "max"):=by decide +kernel
noncomputable def ar8(f g:DE):DE:=fun ρ=>(f ρ).bind fun x=>(g ρ).bind fun y=>match x,y with
 | .int i,.int j=>some (.int (if j < i then j else i))
 | _,_=>none
noncomputable def as0(f g:DE):DE:=fun ρ=>(f ρ).bind fun x=>(g ρ).bind fun y=>match x,y with
 | .int i,.int j=>some (.int (if j > i then j else i))
 | _,_=>none
theorem bs5(hg:Gl X "min") (hm:X.mg "min" = none) (h:JE X e f) (h':JE X e' g) (hc:X.calm=true:=by rfl) (he:starEach [e,e'] X.env=(false,eval e X.env)::starEach [e'] X.env:=by rfl) (he':starEach [e'] X.env=[(false,eval e' X.env)]:=by rfl)
  (hpl:(backTo pos (starEach [e'] X.env)).any (·.1)=false:=by rfl):JE X (.Call (.Name "min" p) [e,e'] [] pos) (ar8 f g):=fun ρ d q=>by
 obtain⟨x,h1,q⟩:=xbm q
 obtain⟨y,h2,h3⟩:=xbm q
 split at h3
 ·cases h3
  exact A9 (F4 (aP3 hc) hg hm bg3 (C0 (h ρ _ h1) (C0 (h' ρ _ h2) E3 he') he) (he:=he) (hpl:=hpl)) fun σ H Q ⟨H0,Hf,s,sl,k⟩ =>
   ⟨H0,Hf,s,sl,fun v H1 Hf1 g1 r=>⟨H0,Hf1,g1.sub,sl.grow g1,fun w H2 Hf2 g2 r2=>⟨_,_,by rw[show v=_ from r,show w=_ from r2],k _ H2 Hf2 (g1.trans g2) rfl⟩⟩⟩
 ·cases h3
theorem bs7(hg:Gl X "max") (hm:X.mg "max" = none) (h:JE X e f) (h':JE X e' g) (hc:X.calm=true:=by rfl) (he:starEach [e,e'] X.env=(false,eval e X.env)::starEach [e'] X.env:=by rfl) (he':starEach [e'] X.env=[(false,eval e' X.env)]:=by rfl)
  (hpl:(backTo pos (starEach [e'] X.env)).any (·.1)=false:=by rfl):JE X (.Call (.Name "max" p) [e,e'] [] pos) (as0 f g):=fun ρ d q=>by
 obtain⟨x,h1,q⟩:=xbm q
 obtain⟨y,h2,h3⟩:=xbm q
 split at h3
 ·cases h3
  exact A9 (F4 (aP6 hc) hg hm ay4 (C0 (h ρ _ h1) (C0 (h' ρ _ h2) E3 he') he) (he:=he) (hpl:=hpl)) fun σ H Q ⟨H0,Hf,s,sl,k⟩ =>
   ⟨H0,Hf,s,sl,fun v H1 Hf1 g1 r=>⟨H0,Hf1,g1.sub,sl.grow g1,fun w H2 Hf2 g2 r2=>⟨_,_,by rw[show v=_ from r,show w=_ from r2],k _ H2 Hf2 (g1.trans g2) rfl⟩⟩⟩
 ·cases h3
theorem bb2(Fk:FnOk X.prog X.w X.K X.mg X.base CX0 k f fd ps (spF X.K 0 F)) (hr:Room k X.A) (hg:Gl X x) (hm:X.mg x=some (.ref f)) (hk:PySem.W.keepIn X.K (.ref f)=true) (hb:K1 X.K fd ps [])
  (hdb:(x==("__debug__" : Str))=false:=by decide):JE X (.Call (.Name x p) [] [] pos) (A3 F A2):=fun ρ d q=>by
 have h2:F []=some d:=q
 refine A9 (aV6 Fk hr hg hm hk hb .nil bx1 hdb) fun σ H Q ⟨H0,Hf,s,sl,kk⟩=>?_
 exact⟨rfl,Hf,[],d,s,rfl,h2,fun v H2 Hf2 g2 r2=>kk v H2 Hf2 g2 r2⟩
end
end G
namespace G
open PySem PySem.Spec PyProof.Rows L2
noncomputable def af8(K:PySem.W.Frag):List D->List Value->Prop
 | [],us=>us=[]
 | d::ds,us=>∃u r,us=u::r/\az6 K d u/\af8 K ds r
section
variable {K:PySem.W.Frag}
theorem O9:af8 K [] []:=rfl
theorem E4(h:az6 K d u) (t:af8 K ds us):af8 K (d::ds) (u::us):=⟨u,us,rfl,h,t⟩
theorem ae8:∀{ds:List D}{us:List Value},af8 K ds us->∃vs,B3 vs us/\∀H:Hp,Reps K H ds vs
 | [],_,h=>by cases h;exact⟨[],.nil,fun _=>rfl⟩
 | d::ds,_,⟨u,r,e,⟨v,h1,h2⟩,h3⟩=>by
  subst e
  obtain⟨vs,q1,q2⟩:=ae8 h3
  exact⟨v::vs,.cons h1 q1,fun H=>⟨v,vs,rfl,h2 H,q2 H⟩⟩
theorem K9(i:Int) (t:Tok):az6 K (.int i) (.int i t):=⟨.int i,⟨t,rfl⟩,fun _=>rfl⟩
theorem R9(h:K.lookup a=some o) (hc:o.cls=.type "tuple") (hn:o.dict=none) (hd:o.data=.seq its n) (hz:its.size<=1000) (hi:af8 K ds its.toList):az6 K (.tuple ds) (.ref a):=by
 obtain⟨vs,q1,q2⟩:=ae8 hi
 exact⟨.ref a,rfl,fun H=>⟨a,vs,rfl,.inr ⟨o,its,n,h,hc,hn,hd,Nat.le_of_lt (Z9 hz),q1⟩,q2 H⟩⟩
end
end G
namespace G
open PySem PySem.Spec PyProof.Rows L2
theorem ao5(l:Addr) (items:Array Value) (n:Nat) (dd:Option Addr) (sl:Array (Option Value)) (u:Tok) :
  Meets (Builtin.«tuple.__mul__» ⟨[.ref l,.int 1 u],[]⟩) (fun _ R s=>s.heap.get? l=some ⟨.type "tuple", dd,.seq items n,sl⟩/\R (.ok (.ret (Value.ref l))) s) :=
 .of_wp fun prog w A R s h=>by
  obtain⟨hp,g,d,tk,os⟩:=s
  obtain⟨hl,h⟩:=h
  wp_walk
  exact⟨_,rfl,h⟩
section
variable {X:Cx}
theorem aV9:OpR X (binaryOp .Mult) (fun x y H Q=>∃l xs,x=.ref l/\y=.int 1/\SqT X.K H l xs/\Q (.ref l) H):=by
 intro pins s σ H x y v u Q I rx ry h
 obtain⟨l,xs,rfl,rfl,hq,q⟩:=h
 cases rx
 obtain⟨t,rfl⟩:=ry
 obtain⟨its,r,p1,_⟩:=I.tuple hq
 obtain⟨⟨cls,dd,data,sl⟩,ho,hc,n,hd⟩:=id p1
 simp only at hc hd
 subst hc hd
 exact wpAny_binaryOp_repeat_ref (T := "tuple") (U := "int") (by decide) ⟨_,ho,rfl⟩ (fun s'=>typeIs_int s' 1 t) k6 F.fills_int_mul F.slot_int_rmul ae0 F.slot_int_index.lookup
  (call_meets F.slot_int_rmul (typeIs_int s 1 t) F.entry_int_rmul (F.args_int_rmul_2 _ _) (W7 1 t l its.toArray n dd sl) ⟨ho,rfl,⟨_,ho,rfl⟩,
   call_meets F.slot_tuple_mul ⟨_,ho,rfl⟩ F.entry_tuple_mul (F.args_tuple_mul_2 _ _) (ao5 l its.toArray n dd sl t) ⟨ho,⟨.ref l,H,I,rfl,q⟩⟩⟩)
theorem ah8(a:Int) (t:Tok) (l:Addr) (items:Array Value) (n:Nat) (dd:Option Addr) (sl:Array (Option Value)) :
  Meets (Builtin.«int.__rmul__» ⟨[.int a t,.ref l],[]⟩) (fun _ R s=>s.heap.get? l=some ⟨.type "list", dd,.seq items n,sl⟩/\R (.ok (.ret Value.notImplemented)) s):=Meets.of_wp fun prog w A R s h=>by
 obtain⟨hp,g,d,tk,os⟩:=s
 obtain⟨hl,h⟩:=h
 wp_walk
 exact⟨_,rfl,h⟩
theorem ao7(l:Addr) (items:Array Value) (n:Nat) (dd:Option Addr) (sl:Array (Option Value)) (x:Int) (u:Tok) (c0:¬(!Builtin.List.listFitsIndex x)=true) (c1:¬items.size*x.toNat > (2 ^ 63 - 1) / 8) (c2:¬Builtin.List.listTooLong (items.size*x.toNat)=true) :
  Meets (Builtin.«list.__mul__» ⟨[.ref l,.int x u],[]⟩) (fun _ R s=>s.heap.get? l=some ⟨.type "list", dd,.seq items n,sl⟩/\R (.ok (.ret (Value.ref s.heap.objs.size))) { s with heap:=s.heap.push { cls:=Value.type "list", data:=Data.seq (List.foldl (fun x1 x2=>x1++x2) #[] (List.replicate (if items.isEmpty=true then 0 else x.toNat) items)) } }):=Meets.of_wp fun prog w A R s h=>by
 obtain⟨hp,g,d,tk,os⟩:=s
 obtain⟨hl,h⟩:=h
 have hsz:=AutoListH.joined_fits c2
 wp_walk
 refine wpAny_ite_false (decide_eq_false (Nat.not_lt.mpr hsz)) ?_
 wp_walk
 exact⟨_,rfl,h⟩
theorem bn5:OpR X (binaryOp .Mult) (fun x y H Q=>∃l k xs,x=.ref l/\y=.int k/\SqL X.K H l xs/\0<=k/\k < 1000000/\xs.length*k.toNat<=sizeLine/\∀p,H p=none->Q (.ref p) (upd H p (.lst (List.replicate k.toNat xs).flatten))):=by
 intro pins s σ H x y v u Q I rx ry h
 obtain⟨l,k,xs,rfl,rfl,hq,h1,h2,hz,q⟩:=h
 cases rx
 obtain⟨t,rfl⟩:=ry
 obtain⟨its,r,p1,_⟩:=I.list hq
 obtain⟨⟨cls,dd,data,sl⟩,ho,hc,n,hd⟩:=p1.isList
 simp only at hc hd
 subst hc hd
 have hl:=r.length
 have hlen:its.toArray.size*k.toNat<=sizeLine:=by rw[List.size_toArray,← hl];exact hz
 have hcap:¬its.toArray.size*k.toNat > (2 ^ 63 - 1) / 8:=by
  have:(sizeLine:Nat)<=(2 ^ 63 - 1) / 8:=by decide
  grind
 have hfit:¬(!Builtin.List.listFitsIndex k)=true:=by
  rw[fitsIndex_both (by grind) (by grind)];exact Bool.false_ne_true
 have hlong:¬Builtin.List.listTooLong (its.toArray.size*k.toNat)=true:=by
  rw[R6 hlen];exact Bool.false_ne_true
 have hnew:List.foldl (fun x1 x2=>x1++x2) #[] (List.replicate (if its.toArray.isEmpty=true then 0 else k.toNat) its.toArray)=(List.replicate k.toNat its).flatten.toArray:=by
  rw[au9]
  cases its with
  | nil=>simp
  | cons a r'=>rw[if_neg (by simp)]
 refine wpAny_binaryOp_repeat_ref (T := "list") (U := "int") (by decide) ⟨_,ho,rfl⟩ (fun s'=>typeIs_int s' k t) noFill_list_mul F.fills_int_mul F.slot_int_rmul repeat_list F.slot_int_index.lookup
  (call_meets F.slot_int_rmul (typeIs_int s k t) F.entry_int_rmul (F.args_int_rmul_2 _ _) (ah8 k t l its.toArray n dd sl) ⟨ho,rfl,⟨_,ho,rfl⟩,
   call_meets F.slot_list_mul ⟨_,ho,rfl⟩ F.entry_list_mul (F.args_list_mul_2 _ _) (ao7 l its.toArray n dd sl k t hfit hcap hlong) ⟨ho,?_⟩⟩)
 rw[hnew]
 exact⟨.ref _,_,I.lnew (t':=s.toks) (r.rep k.toNat) (by rw[aj6,Nat.mul_comm];exact hz),rfl,q _ I.fresh⟩
noncomputable def G0(x y:D):Option D:=match x,y with
 | .tuple xs,.int k=>if k=1 then some (.tuple xs) else L6 (.tuple xs) (.int k)
 | .list xs,.int k=>if 0<=k/\k < 1000000/\xs.length*k.toNat<=16777216 then some (.list (List.replicate k.toNat xs).flatten) else none
 | x,y=>L6 x y
theorem aD4:OpD X (binaryOp .Mult) G0:=fun x y z h=>by
 unfold G0 at h
 split at h
 ·split at h
  ·rename_i xs k c
   subst c
   cases h
   refine OpR.imp aV9 fun vx vy H Q ⟨Hf,s,r1,r2,kk⟩=>?_
   obtain⟨a,vs,rfl,h2,h3⟩:=r1
   exact⟨a,vs,rfl,r2,B4 s h2,kk _ _ _ (Grow.refl s) ⟨a,vs,rfl,h2,h3⟩⟩
  ·exact aj0 _ _ z h
 ·split at h
  ·rename_i xs k c
   cases h
   refine OpR.imp bn5 fun vx vy H Q ⟨Hf,s,r1,r2,kk⟩=>?_
   obtain⟨a,vs,rfl,h2,h3⟩:=r1
   refine⟨a,k,vs,rfl,r2,C9 s h2,c.1,c.2.1,by rw[h3.length,sizeLine_eq];exact c.2.2,fun p hp=>?_⟩
   exact kk _ _ _ (Grow.laid s hp) ⟨p,_,rfl,SqL.of A6,(h3.flatten k.toNat).mono (B9 (s.free hp))⟩
  ·cases h
 ·exact aj0 _ _ z h
theorem d8(i j:Int):J1 (.int i) (.int j)=some (.int (i+j)):=rfl
noncomputable def bZ2(f:Rho->Option (Bool×List D)) (lo hi:Rho->Option (Option Int)):DE:=fun ρ=>(f ρ).bind fun q=>(lo ρ).bind fun l=>(hi ρ).bind fun h=>if q.1=true then none else some (.list (U3 q.2 l h))
theorem bL2{a:Expr}{lo hi:Option Expr}{f:Rho->Option (Bool×List D)}{l h:Rho->Option (Option Int)}{pos p2:Pos}(ha:JQ X a f) (hl:JO X lo l) (hh:JO X hi h):JE X (.Subscript a (.Slice lo hi none p2) pos) (bZ2 f l h):=fun ρ d q=>by
 obtain⟨⟨t,xs⟩,e1,q⟩:=xbm q
 obtain⟨y,e2,q⟩:=xbm q
 obtain⟨z,e3,q⟩:=xbm q
 cases t with
 | true=>simp at q
 | false =>
  simp only[Bool.false_eq_true,if_false]at q
  cases q
  refine A9 (X0 aB4 (ha ρ _ _ e1) (hl ρ y e2) (hh ρ z e3)) fun σ H Q ⟨H0,Hf,s,sl,k⟩=>?_
  refine⟨H0,Hf,s,sl,fun v H1 Hf1 g1 ⟨p,vs,q1,q2,q3⟩=>⟨H0,Hf1,g1.sub,sl.grow g1,fun H2 Hf2 g2=>⟨H0,Hf2,g2.sub,sl.grow (g1.trans g2),fun H3 Hf3 g3=>?_⟩⟩⟩
  subst q1
  have q3':=q3.mono (g2.trans g3).ext
  refine⟨p,vs,rfl,C9 (g2.trans g3).big q2,fun p' hp=>?_⟩
  exact k _ _ _ (((g1.trans g2).trans g3).trans (Grow.laid g3.sub hp)) ⟨p',_,rfl,SqL.of A6,(x3 q3' y z).mono (B9 (g3.sub.free hp))⟩
noncomputable def B0:DS:=fun _=>none
theorem A5{st:Stmt}:JS X st B0:=fun ρ fl q=>by cases q
noncomputable def au1(f:DE):Rho->Option Bool:=fun ρ=>(f ρ).bind O0
theorem aY5(o1:OpD X (compareOp op) h1) (o2:OpD X (compareOp op') h2) (ha:JE X a f) (hb:JE X b g) (hc:JE X c k)
  (hm:lastMarks [op,op'] [b,c]=false:=by with_unfolding_all rfl):JT X (.Compare a [op,op'] [b,c] pos) (au1 (S5 h1 h2 f g k)):=fun ρ d q=>by
 obtain⟨dd,q,ed⟩:=xbm q
 have ed:=aH9 ed
 subst ed
 obtain⟨x,e1,q⟩:=xbm q
 obtain⟨y,e2,q⟩:=xbm q
 obtain⟨z,e3,q⟩:=xbm q
 split at q
 ·obtain⟨w,e4,e5⟩:=xbm q
  refine ai4 (an6 (o1 x y _ e3) (o2 y w _ e5) (ha ρ x e1) (hb ρ y e2) (hc ρ w e4) hm) fun σ H Q ⟨H0,Hf,s,sl,kk⟩=>?_
  refine⟨H0,Hf,s,sl,fun v H1 Hf1 g1 r1=>⟨H0,Hf1,g1.sub,sl.grow g1,fun u H2 Hf2 g2 r2=>⟨Hf2,g2.sub,r1.mono g2.ext,r2,fun z' H3 Hf3 g3 r3=>?_⟩⟩⟩
  refine⟨true,r3,aa5 ⟨H0,Hf3,g3.sub,sl.grow ((g1.trans g2).trans g3),fun w' H4 Hf4 g4 r4=>⟨Hf4,g4.sub,r2.mono (g3.trans g4).ext,r4,fun z2 H5 Hf5 g5 r5=>?_⟩⟩⟩
  exact⟨d,r5,kk H5 Hf5 ((((g1.trans g2).trans g3).trans g4).trans g5)⟩
 ·cases q
  intro pins s σ H Q I ⟨H0,Hf,ss,sl,kk⟩
  refine an6 (tc:=fun _ _ _=>False) (r':=fun _ _ _ _=>False) (o1 x y _ e3) (fun _ _ _ _ _ _ _ _ _ _ _ _ h=>h.elim) (ha ρ x e1) (hb ρ y e2) (fun _ _ _ _ _ _ h=>h.elim) hm pins s σ H Q I ?_
  refine⟨H0,Hf,ss,sl,fun v H1 Hf1 g1 r1=>⟨H0,Hf1,g1.sub,sl.grow g1,fun u H2 Hf2 g2 r2=>⟨Hf2,g2.sub,r1.mono g2.ext,r2,fun z' H3 Hf3 g3 r3=>?_⟩⟩⟩
  exact⟨false,r3,aa6 ⟨false,rfl,kk H3 Hf3 ((g1.trans g2).trans g3)⟩⟩
 ·cases q
end
end G
namespace G
open PySem PySem.Spec PyProof.Rows L2
theorem aN5(hh:A.handled=none) (t:Bool) (it l:Addr) (hne:l≠it) (xs:Array Value):Draws prog w A it [it,l] xs.size (fun i x=>xs[i]? = some x) (fun i h=>SIt t h it l i/\SSq t h l xs):=by
 refine⟨fun i h ⟨a,_⟩=>?_,fun i h h' ⟨a,b⟩ k=>⟨a.ext fun o e=>k it (by simp) o e,b.ext fun o e=>k l (by simp) o e⟩,fun i s Q E hi ⟨a,b⟩ hQ=>?_,fun s Q E ⟨a,b⟩ hE=>aB6 hh a b (by simp) hE⟩
 ·cases t with
  | true=>obtain⟨o,ho,_⟩:=a;exact⟨o,ho⟩
  | false=>obtain⟨o,ho,_⟩:=a;exact⟨o,ho⟩
 ·have hx:xs[i]? = some xs[i]:=by simp[hi]
  exact aS5 a b hx fun h' c sb=>hQ _ h' s.toks hx ⟨c,b.ext fun o e=>sb.extBut l o hne e⟩ sb
theorem aK6(l:Addr) (items:Array Value) (n:Nat) (dd:Option Addr) (sl:Array (Option Value)) :
  Meets (Builtin.«enumerate.__new__» ⟨[.type "enumerate", .ref l],[]⟩) (fun _ R s=>s.heap.get? l=some ⟨.type "tuple", dd,.seq items n,sl⟩ /\
   R (.ok (.ret (.ref (s.heap.push (ae9 true l)).objs.size))) { s with heap:=(s.heap.push (ae9 true l)).push { cls:=.type "enumerate", data:=.fields #[.none,.bool false,.ref s.heap.objs.size,rawInt 0,.none,.none] } }):=Meets.of_wp fun prog w A R s h=>by
 obtain⟨hp,g,d,tk,os⟩:=s
 obtain⟨hl,h⟩:=h
 have hsub:=sub_enumerate
 have q1:SSq true (Shared.heap ⟨hp,g,d,tk,os⟩) l items:=⟨_,hl,rfl,n,rfl⟩
 wp_walk using AutoSeq1.wpAny_loadPart' hl
 refine wpAny_stack_any fun st=>wpAny_pure ?_
 split
 ·rename_i c _ _ _ _ _
  cases(c==Value.type "enumerate")
  ·wp_walk using AutoSeq1.wpAny_loadPart' hl,v9 q1
   exact⟨_,rfl,h⟩
  ·wp_walk using AutoSeq1.wpAny_loadPart' hl,v9 q1
   exact⟨_,rfl,h⟩
 ·wp_walk using AutoSeq1.wpAny_loadPart' hl,v9 q1
  exact⟨_,rfl,h⟩
section
variable {prog:Program}{w:World}{A:Around}{E:Value->Shared->Prop}{s:Shared}{t:Bool}
theorem au5(hl:SSq t s.heap l xs)
  (h:∀h',IsEnum h' (s.heap.objs.size+1) s.heap.objs.size 0 .none->SIt t h' s.heap.objs.size l 0->(∀c o,s.heap.get? c=some o->h'.get? c=some o)->Q (.ref (s.heap.objs.size+1)) { s with heap:=h' }) :
  wpAny (model prog w) A (call (.type "enumerate") [.ref l]) Q E s:=by
 cases t with
 | false=>exact call_enumerate_list hl fun h' a b _ d=>h h' a b d
 | true =>
  obtain⟨⟨cls,dd,data,sl⟩,ho,hc,n,hd⟩:=hl
  simp only at hc hd
  subst hc hd
  refine callType_new F.called_enumerate (by decide) (F.typeCall_enumerate_1 _) (F.newCall_enumerate_1 _) (fun obj=>F.args_object_init_2 obj _) F.entry_enumerate_new (aK6 l xs n dd sl) ⟨ho,?_⟩
  have z1:(s.heap.push (ae9 true l)).objs.size=s.heap.objs.size+1:=Heap.size_push ..
  show _/\_
  rw[z1]
  have he:=Heap.get?_push_size (s.heap.push (ae9 true l)) (o:={ cls:=.type "enumerate", data:=.fields #[.none,.bool false,.ref s.heap.objs.size,rawInt 0,.none,.none] }) rfl
  rw[z1]at he
  exact⟨⟨_,he,rfl⟩,h _ he ((bk5 (h:=s.heap) (l:=l) true).ext fun o e=>Heap.get?_push_of_some _ e) fun c o e=>Heap.get?_push_of_some _ (Heap.get?_push_of_some _ e)⟩
theorem aN4(hh:A.handled=none) (he:IsEnum s.heap e it i old) (hit:SIt t s.heap it l k) (hl:SSq t s.heap l xs) (hx:xs[k]? = none)
  (hQ:∀h',Heap.ExtBut it s.heap h'->Q none { s with heap:=h' }):wpAny (model prog w) A (pyNext (.ref e)) Q E s:=by
 have hT:s.TypeIs (.ref e) "enumerate" := ⟨_,he,rfl⟩
 unfold pyNext
 refine wpAny_bind (wpAny_attempt (wpAny_callSpecial?_slot (name:=Str.ofString "__next__") hT F.slot_enumerate_next (wpAny_call_entry F.slot_enumerate_next hT F.entry_enumerate_next ?_ (F.args_enumerate_next_1 _))))
 show wpAny _ _ (field (.ref e) 2 >>= _) _ _ _
 refine wpAny_bind (wpAny_field he rfl (x:=.ref it) rfl (wpAny_bind (aB6 hh hit hl hx fun h' x he' hx'=>?_)))
 obtain⟨o,ho,hc⟩:=hx'
 exact wpAny_bind (wpAny_isInstance (T := "StopIteration") (b:=true) ⟨o,ho,hc⟩ isSubtype_stop (wpAny_pure (hQ _ he')))
end
noncomputable def Ite(K:PySem.W.Frag) (t:Bool) (a:Addr):It :=
  ⟨fun i H=>∃xs x,Sq K t H a xs/\xs[i]? = some x,
   fun i H v H'=>∃T x,v=.ref T/\H T=none/\H'=upd H T (.tup [.int i,x])/\∀xs,Sq K t H a xs->xs[i]? = some x,
   fun i H=>∃xs,Sq K t H a xs/\xs.length<=i⟩
theorem aJ8{P:Program}{w:World}{K:PySem.W.Frag}{elts:List Expr}{k0:Nat}{pos:Pos}{t:Bool}{e it a:Addr}(h1:e≠it) (h2:a≠e) (h3:a≠it) :
  Turn P w K (.Tuple elts k0 pos) (Ite K t a) [e,it] e (fun i h=>(∃old,IsEnum h e it i old)/\SIt t h it a i) where
 mem:=by simp
 obj:=fun i h ⟨⟨old,he⟩,hi⟩ c hc=>by
  simp only[List.mem_cons,List.not_mem_nil,or_false]at hc
  rcases hc with rfl|rfl
  ·exact⟨_,he,fun v q=>by cases q⟩
  ·cases t with
   | true=>obtain⟨o,ho,_,hd⟩:=hi;exact⟨o,ho,fun v q=>by rw[hd]at q;cases q⟩
   | false=>obtain⟨o,ho,_,hd⟩:=hi;exact⟨o,ho,fun v q=>by rw[hd]at q;cases q⟩
 keep:=fun i h h' ⟨⟨old,he⟩,hi⟩ hk=>⟨⟨old,hk e (by simp) _ he⟩,hi.ext fun o q=>hk it (by simp) o q⟩
 item:=by
  intro X hP hw hK hc i pins s σ H E I hf ⟨⟨old,he⟩,hi⟩ hg
  subst hP hw hK
  obtain⟨xs,x,q1,ex⟩:=hg
  obtain⟨us,r1,p1,lt1⟩:=ah1 I q1
  obtain⟨ux,eux,rx⟩:=r1.get ex
  have hlt:i < us.toArray.size:=by rw[List.size_toArray];exact(List.getElem?_eq_some_iff.mp eux).1
  refine wpAny_pyNext_enum_itemD (aN5 (A:=X.A.in1) (I.ok.hd hc) t it a h3 us.toArray) he ⟨hi,p1⟩ hlt h1 (by simp only[List.mem_cons,List.not_mem_nil,or_false,not_or];exact⟨h1,fun z=>h2 z.symm⟩) fun y h' tk hy ho hst hT hsz hk=>⟨_,rfl,wpAny_letOwnedTupleGo_enum ho fun h'' c1 c2=>?_⟩
  have ey:y=ux:=by
   have:us[i]? = some y:=by simpa using hy
   rw[eux]at this
   exact(Option.some.inj this).symm
  subst ey
  have neT:∀c o,s.heap.get? c=some o->c≠s.heap.objs.size:=fun c o q=>Nat.ne_of_lt (Heap.lt_size q)
  have up:∀c o,c≠e->h'.get? c=some o->h''.get? c=some o:=fun c o n q=>c2.extBut c o n q
  refine⟨.ref s.heap.objs.size,upd H s.heap.objs.size (.tup [.int i,x]),R1 (s:=s) (h':=h'') (t':=tk+1) (ch:=[e,it]) I hf (Nat.le_refl _) (fun c u hc q=>?_) ?_,rfl,⟨_,x,rfl,I.hok.fresh (Nat.le_refl _),rfl,fun zs hz'=>by rw[bC7 I hz' q1];exact ex⟩,⟨⟨_,by simpa using c1⟩,hst.1.ext fun o q=>up it o h1.symm q⟩,fun c hc=>?_⟩
  ·simp only[List.mem_cons,List.not_mem_nil,or_false,not_or]at hc
   exact up c u hc.1 (hk c u hc.1 hc.2 q)
  ·refine⟨by show 2<=sizeLine;decide,[.int i tk,y],.cons ⟨tk,rfl⟩ (.cons rx .nil),_,up _ _ ?_ hT,rfl,⟨_,rfl⟩,rfl⟩
   exact fun q=>neT e _ he q.symm
  ·have lt:c < s.heap.objs.size:=by
    simp only[List.mem_cons,List.not_mem_nil,or_false]at hc
    rcases hc with rfl|rfl
    ·exact Heap.lt_size he
    ·exact hi.lt
   rw[A7 (Nat.ne_of_lt lt)]
   exact(hf c hc).1
 done:=by
  intro X hP hw hK hc i pins s σ H E I hf ⟨⟨old,he⟩,hi⟩ hg
  subst hP hw hK
  obtain⟨xs,q1,hl⟩:=hg
  obtain⟨us,r1,p1,lt1⟩:=ah1 I q1
  have l1:=r1.length
  refine aN4 (I.ok.hd hc) he hi p1 (by simp;grind) fun h' hk=>⟨rfl,K5 (t':=s.toks) (ch:=[e,it]) I hf fun c u hc q=>?_⟩
  simp only[List.mem_cons,List.not_mem_nil,or_false,not_or]at hc
  exact hk c u hc.2 q
 self:=fun _ _ _ _ _ st h=>by
  obtain⟨⟨old,he⟩,_⟩:=st
  exact wpAny_pyIter_enum he h
section
variable {X:Cx}
noncomputable def k9(ds:List D):List D:=(List.range ds.length).zip ds |>.map fun(k,d)=>PyData.tuple [.int (k:Nat),d]
noncomputable def aF9(f:Rho->Option (Bool×List D)):Rho->Option (List D):=fun ρ=>(f ρ).map fun q=>k9 q.2
theorem aq7(ds:List D) (i:Nat):(k9 ds)[i]? = (ds[i]?).map fun d=>.tuple [.int i,d]:=by
 unfold k9
 rw[List.getElem?_map]
 cases e:ds[i]? with
 | none =>
  have:ds.length<=i:=by simpa using e
  have z:((List.range ds.length).zip ds)[i]? = none:=by simp;omega
  rw[z];rfl
 | some d =>
  have hi:=(List.getElem?_eq_some_iff.mp e).1
  have z:((List.range ds.length).zip ds)[i]? = some (i,d):=List.getElem?_zip_eq_some.mpr ⟨by simp[hi],e⟩
  rw[z];rfl
theorem aq6(ds:List D):(k9 ds).length=ds.length:=by unfold k9;simp
theorem al9{K:PySem.W.Frag}{t:Bool}{a:Addr}{vs:List V}{ds:List D}{Hf1:Hp}(h1:Sq K t Hf1 a vs) (r1:Reps K Hf1 ds vs):az2 K (Ite K t a) (k9 ds) Hf1:=by
 have mono:∀{t:Bool}{a:Addr}{xs:List V}{H H':Hp},B5 H H'->Sq K t H a xs->Sq K t H' a xs:=fun{t a xs H H'} e h=>by
  cases t with
  | true=>exact B4 e h
  | false=>exact C9 e h
 intro i H Hf sa sb
 have m1:=mono (sa.trans sb) h1
 have l1:=r1.length
 refine⟨fun hi=>⟨vs,m1,by rw[aq6]at hi;grind⟩,fun d hd=>?_⟩
 rw[aq7]at hd
 obtain⟨x,q1,q2⟩:=Option.map_eq_some_iff.mp hd
 subst q2
 obtain⟨vx,e1,e2⟩:=r1.get q1
 refine⟨⟨vs,vx,m1,e1⟩,fun v H' ⟨T,x',z1,z2,z3,z4⟩=>?_⟩
 subst z1 z3
 have w1:=z4 vs m1
 rw[e1]at w1
 cases w1
 have nf:Hf T=none:=sb.free z2
 exact⟨upd Hf T (.tup [.int i,vx]),Grow.laid sb z2,T,[.int i,vx],rfl,SqT.of A6,.int i,[vx],rfl,rfl,vx,[],rfl,(e2.mono sa).mono (B9 nf),rfl⟩
theorem br8{elts:List Expr}{k0:Nat}{tpos:Pos}{a:Expr}{f:DE}{p pos:Pos}(hg:Gl X "enumerate") (hm:X.mg "enumerate" = none) (ha:JE X a f) (hs:starEach [a] X.env=[(false,eval a X.env)]:=by rfl) :
  JI X (.Tuple elts k0 tpos) (.Call (.Name "enumerate" p) [a] [] pos) (aF9 (qE f)):=fun ρ out q=>by
 obtain⟨⟨t1,ds⟩,e1,q⟩:=Option.map_eq_some_iff.mp q
 subst q
 obtain⟨d1,e1,e1'⟩:=xbm e1
 intro pins s σ H R I ⟨H0,Hf,ss,sl,k⟩
 refine Call_ (aa2 I hg hm rfl (PyProof.Rows.callWith_type1 (thn (C0 (ha ρ d1 e1) E3 (by rw[hs];rfl) pos pins s σ H
  (fun vs H'=>∃v Hf',vs=[v]/\Grow H Hf H' Hf'/\Rep X.K Hf' d1 v) I ⟨H0,Hf,ss,sl,fun v H1 Hf1 g1 r1=>⟨v,Hf1,rfl,g1,r1⟩⟩) fun us s1 ⟨vs,H1,I1,r1,v,Hf1,ev,gr,p1⟩=>?_) (by rw[hs];rfl) (by rfl)))
 subst ev
 obtain⟨uv,rfl,rv⟩:=r1.one
 obtain⟨a1,vs1,rfl,w1,w2⟩:=p1.seq (B5.refl Hf1) e1'
 cases rv
 have mono:∀{t:Bool}{a:Addr}{xs:List V}{H H':Hp},B5 H H'->Sq X.K t H a xs->Sq X.K t H' a xs:=fun{t a xs H H'} e h=>by
  cases t with
  | true=>exact B4 e h
  | false=>exact C9 e h
 obtain⟨us1,rr1,hp1,lt1⟩:=ah1 I1 (mono gr.sub w1)
 refine au5 hp1 fun h' b1 b2 b3=>?_
 have I2:Inv X pins σ H1 { s1 with heap:=h' }:=I1.kept (t':=s1.toks) b3
 refine wpAny_pyIter_enum b1 ⟨_,_,_,_,H1,rfl,I2,aJ8 (e:=s1.heap.objs.size+1) (it:=s1.heap.objs.size) (a:=a1) (Nat.succ_ne_self _) (Nat.ne_of_lt (Nat.lt_succ_of_lt lt1)) (Nat.ne_of_lt lt1),⟨⟨_,b1⟩,b2⟩,fun b hb=>?_,k _ H1 Hf1 gr (al9 w1 w2)⟩
 have hb':s1.heap.objs.size<=b:=by
  simp only[List.mem_cons,List.not_mem_nil,or_false]at hb
  rcases hb with rfl|rfl
  ·exact Nat.le_add_right _ _
  ·exact Nat.le_refl _
 exact I1.fpOk hb' (I1.hok.fresh hb')
end
end G
namespace G
open PySem PySem.Spec PyProof.Rows L2
section
variable {prog:Program}{w:World}{A:Around}{E:Value->Shared->Prop}{s:Shared}
theorem w4{l b sl:Addr}{items new:Array Value}{n n2:Nat}{vl vu:Value}{lo hi:Option Int}{Q:Unit->Shared->Prop}
    (e:s.heap.get? l=some { cls:=.type "list", data:=.seq items n }) (e2:s.heap.get? b=some { cls:=.type "list", data:=.seq new n2 }) (hne:l≠b)
    (hs:s.heap.IsSliceOf sl vl vu .none) (pl:IsPart vl lo) (pu:IsPart vu hi) (hsz:items.size+new.size<=sizeLine)
    (h:Q () { s with heap:=s.heap.update l (Obj.mapSeq fun xs=>xs.extract 0 (HT.sIx items.size 0 lo)++new++xs.extract (max (HT.sIx items.size 0 lo) (HT.sIx items.size items.size hi)) xs.size) }) :
    wpAny (model prog w) A (setItem (.ref l) (.ref sl) (.ref b)) Q E s:=by
  have hl:s.heap.IsList l items:=PySem.IsL.isList e
  have hb:s.heap.IsList b new:=PySem.IsL.isList e2
  obtain⟨os,hos,hcs,hds⟩:=id hs
  have hTs:s.TypeIs (.ref sl) "slice" := ⟨os,hos,hcs⟩
  have hstep:¬((rawPart none==rawInt 0)=true):=Bool.false_ne_true
  have hsame:Builtin.List.listSameRef (.ref l) (.ref b)=false:=by
    unfold Builtin.List.listSameRef
    exact beq_eq_false_iff_ne.mpr hne
  have hbd:sliceBounds lo hi none items.size=(((HT.sIx items.size 0 lo:Nat):Int),((HT.sIx items.size items.size hi:Nat):Int),1):=by
    obtain⟨h1,h2,h3⟩:=W4 lo hi items.size
    exact Prod.ext h1 (Prod.ext h2 h3)
  have hmax:(max ((HT.sIx items.size 0 lo:Nat):Int) ((HT.sIx items.size items.size hi:Nat):Int)).toNat=max (HT.sIx items.size 0 lo) (HT.sIx items.size items.size hi):=by grind
  have hz':((fun xs:Array Value=>xs.extract 0 (HT.sIx items.size 0 lo)++new++xs.extract (max (HT.sIx items.size 0 lo) (HT.sIx items.size items.size hi)) xs.size) items).size<=sizeLine+1:=by
    simp only[Array.size_append,Array.size_extract]
    grind
  unfold setItem
  try with_reducible refine wpAny_holding ?_
  first|refine wpAny_bind (wpAny_pure ?_)|skip
  refine wpAny_bind (wpAny_sequenceKey hl.typeIs (by decide) ?_)
  refine wpAny_bind (wpAny_callSpecial?_slot (name:=Str.ofString "__setitem__") hl.typeIs slot_list_setitem (wpAny_call_entry slot_list_setitem hl.typeIs entry_list_setitem ?_ (args_list_setitem _ _ _)))
  show wpAny _ _ (Builtin.List.listSubscript? (.ref sl) >>= _) _ _ s
  refine wpAny_bind ?_
  unfold Builtin.List.listSubscript?
  refine wpAny_bind (wpAny_specialOf hTs slice_no_index ?_)
  simp only[Option.isNone_none,if_true]
  refine wpAny_pure ?_
  show wpAny _ _ (typeOf (.ref sl) >>= _) _ _ s
  refine wpAny_bind (wpAny_typeOf hTs ?_)
  first
    | rw[if_neg (by decide)]
    | refine PySem.W.KFB.if_not (by decide) ?_
  rw[listSliceParts_eq]
  refine wpAny_bind (wpAny_bind (wpAny_field hos hds (x:=.none) rfl (wpAny_bind (wpAny_listPart .none ?_))))
  rw[if_neg hstep]
  refine wpAny_bind (wpAny_field hos hds (x:=vl) rfl (wpAny_bind (wpAny_listPart pl ?_)))
  refine wpAny_bind (wpAny_field hos hds (x:=vu) rfl (wpAny_bind (wpAny_listPart pu (wpAny_pure ?_))))
  first
    | simp only[hsame,Bool.false_eq_true,if_false]
    | refine PySem.W.KFB.if_not hsame ?_
    | (dsimp only
       rw[if_neg (by rw[hsame];exact Bool.false_ne_true)])
  refine wpAny_bind (m:=Builtin.List.listAllItems (.ref b) "must assign iterable to extended slice") ?_
  unfold Builtin.List.listAllItems
  refine wpAny_bind (wpAny_typeOf hb.typeIs ?_)
  first
    | refine PySem.W.KFB.if_so (by decide) ?_
    | rw[if_pos (by decide)]
    | simp only[beq_self_eq_true,Bool.true_or,if_true]
  unfold Builtin.List.listItems
  refine wpAny_bind (wpAny_seqItems e2 rfl (wpAny_pure ?_))
  refine wpAny_bind (wpAny_bind (wpAny_seqItems e rfl (wpAny_pure ?_)))
  refine wpAny_bind (wpAny_of_eq ((sliceIndices_raw lo hi none items.size (by simp)).trans (congrArg (pure:Int×Int×Int->Sem (Int×Int×Int)) hbd)) ?_)
  show wpAny _ _ (if((1:Int)==1)=true then _ else _) _ _ s
  rw[if_pos (by decide)]
  refine wpAny_bind (wpAny_rule ?_)
  first
    | simp only[R6 hsz,Bool.false_eq_true,if_false]
    | refine PySem.W.KFB.if_not (R6 hsz) ?_
  first|refine wpAny_bind (wpAny_pure ?_)|skip
  show wpAny _ _ (updateSeq l (fun xs=>xs.extract 0 (((HT.sIx items.size 0 lo:Nat):Int)).toNat++new++xs.extract (max ((HT.sIx items.size 0 lo:Nat):Int) ((HT.sIx items.size items.size hi:Nat):Int)).toNat xs.size) >>= _) _ _ s
  rw[hmax,Int.toNat_natCast]
  refine wpAny_bind (wpAny_updateSeq (hz:=Nat.le_trans (Nat.le_add_right _ _) hsz) (_hz':=hz') e rfl ?_)
  refine wpAny_bind (wpAny_letGo ?_)
  first
    | exact wpAny_bind (wpAny_pure (wpAny_pure ⟨.none,rfl,wpAny_pure h⟩))
    | exact wpAny_pure ⟨.none,rfl,wpAny_pure h⟩
end
section
variable {X:Cx}
noncomputable def an1{α:Type}(xs:List α) (lo hi:Option Int) (ys:List α):List α:=xs.take (HT.sIx xs.length 0 lo)++ys++xs.drop (max (HT.sIx xs.length 0 lo) (HT.sIx xs.length xs.length hi))
theorem au4{pins:List (Addr×Obj)}{s:Shared}{σ:L2.St}{H:Hp}{l b sl:Addr}{xs ys:List V}{lo hi:Option Int}{vl vu:Value}{Q:Unit->Shared->Prop}(I:Inv X pins σ H s)
  (hH:H l=some (.lst xs)) (hB:H b=some (.lst ys)) (hne:l≠b) (hs:s.heap.IsSliceOf sl vl vu .none) (pl:IsPart vl lo) (pu:IsPart vu hi)
  (hz:xs.length+ys.length<=sizeLine) (h:∀s',Inv X pins σ (upd H l (.lst (an1 xs lo hi ys))) s'->Q () s') :
  wpAny (model X.prog X.w) X.A (setItem (.ref l) (.ref sl) (.ref b)) Q X.xe s:=by
 obtain⟨z,its,n,r,hl,e⟩:=I.lstM hH
 obtain⟨z2,its2,n2,r2,hl2,e2⟩:=I.lstM hB
 refine w4 e e2 hne hs pl pu (by rw[List.size_toArray,List.size_toArray];grind) (h _ ?_)
 have hz0:its.toArray.size=xs.length:=by rw[List.size_toArray];exact hl.symm
 refine I.lset (its':=its.take (HT.sIx xs.length 0 lo)++its2++its.drop (max (HT.sIx xs.length 0 lo) (HT.sIx xs.length xs.length hi))) (t':=s.toks) hH e ?_ (B3.append (B3.append (r.take _) r2) (r.drop _)) ?_
 ·have e0:=aK4 its its2 (HT.sIx xs.length 0 lo) (max (HT.sIx xs.length 0 lo) (HT.sIx xs.length xs.length hi))
  rw[hz0]at e0 ⊢
  exact e0
 ·unfold an1
  rw[List.length_append,List.length_append,List.length_take,List.length_drop]
  grind
theorem aT1{K:PySem.W.Frag}{H:Hp}{ds es:List D}{vs us:List V}(h:Reps K H ds vs) (g:Reps K H es us) (lo hi:Option Int):Reps K H (an1 ds lo hi es) (an1 vs lo hi us):=by
 unfold an1
 rw[h.length]
 exact((h.take _).append g).append (h.drop _)
theorem Slots.reOwn{K:PySem.W.Frag}{H0 H Hf:Hp}{ρ:Rho}{σ:L2.St}{i:Nat}{ds ds':List D}{b:Addr}{vs':List V}(sl:Slots K H0 ρ σ H Hf) (eo:ρ[i]? = some (some (.own ds))) (h1:σ[i]? = some (some (.ref b))) (hf:Hf b=none) (h0:H0 b=none) (r:Reps K Hf ds' vs') :
  Slots K H0 (ρ.set i (some (.own ds'))) σ (upd H b (.lst vs')) Hf:=by
 refine⟨by simpa using sl.len,fun j bb z=>?_,fun j k ds1 es c q1 q2 q3 q4=>?_⟩
 ·by_cases qj:i=j
  ·subst qj
   have hi:i < ρ.length:=(List.getElem?_eq_some_iff.mp eo).1
   rw[List.getElem?_set_self hi]at z
   cases z
   exact⟨_,h1,b,vs',rfl,A6,hf,h0,r⟩
  ·rw[List.getElem?_set_ne qj]at z
   obtain⟨u,z1,z2⟩:=sl.is j bb z
   refine⟨u,z1,?_⟩
   cases bb with
   | val d=>exact z2
   | exc C=>exact z2
   | opq _=>exact z2
   | own dd =>
    obtain⟨a',us',y1,y2,y3,y4,y5⟩:=z2
    have ne:a'≠b:=fun zz=>by
     subst zz y1
     exact qj (sl.apart i j ds dd a' eo z h1 z1)
    exact⟨a',us',y1,by rw[A7 ne];exact y2,y3,y4,y5⟩
 ·have f:∀(j:Nat) (es:List D),(ρ.set i (some (B.own ds')))[j]? = some (some (B.own es))->∃dd:List D,ρ[j]? = some (some (B.own dd)):=fun j es q=>by
   by_cases qj:i=j
   ·subst qj;exact⟨ds,eo⟩
   ·rw[List.getElem?_set_ne qj]at q;exact⟨_,q⟩
  obtain⟨d1,q1'⟩:=f j _ q1
  obtain⟨d2,q2'⟩:=f k _ q2
  exact sl.apart j k d1 d2 c q1' q2' q3 q4
noncomputable def bT1(i:Nat) (lo hi:Rho->Option (Option Int)) (f:Rho->Option (List D)):DS:=fun ρ=>(f ρ).bind fun es=>(lo ρ).bind fun l=>(hi ρ).bind fun h=>match ρ[i]? with
 | some (some (.own ds))=>if ds.length+es.length<=16777216 then some (.nx (ρ.set i (some (.own (an1 ds l h es))))) else none
 | _=>none
theorem bJ2(i:Nat) {x:Str}{e:Expr}{lo hi:Option Expr}{f:Rho->Option (List D)}{l h:Rho->Option (Option Int)}{p p2 pos' pos:Pos}(he:JN X e f) (hl:JO X lo l) (hh:JO X hi h) (hN:X.N[i]? = some x:=by rfl)
  (hv:Vis X.env.scope x:=by first|exact Or.inl rfl|exact Or.inr (Or.inl rfl)|exact Or.inr (Or.inr rfl)) (hd:(x==("__debug__" : Str))=false:=by decide) (hcd:(x==("__classdict__" : Str))=false:=by decide)
  (hsw:swapsWith e (some (.Subscript (.Name x p) (.Slice lo hi none p2) pos')) pos.line X.env=pure false:=by rfl):JS X (.Assign [.Subscript (.Name x p) (.Slice lo hi none p2) pos'] e pos) (bT1 i l h f):=fun ρ fl q H0 Hf0=>by
 obtain⟨es,e1,q⟩:=xbm q
 obtain⟨y,e2,q⟩:=xbm q
 obtain⟨z,e3,q⟩:=xbm q
 split at q
 ·rename_i ds eo
  split at q
  ·rename_i hz
   cases q
   intro pins s σ H En I ⟨Hf,a,ee⟩
   refine wpAny_Assign_Subscript (thn (he ρ es e1 pins s σ H (fun v H'=>∃Hf',Grow H Hf H' Hf'/\∃b us,v=.ref b/\H b=none/\H' b=some (.lst us)/\Hf' b=none/\Reps X.K Hf' es us) I ⟨H0,Hf,a.gr.sub,a.sl,fun v H' Hf' g r=>⟨Hf',g,r⟩⟩) fun v s1 ⟨x1,H1,I1,r1,Hf1,g1,b,us,ev,b1,b2,b3,b4⟩=>?_) hsw
   subst ev
   cases r1
   obtain⟨vl0,h1,c,vs,ev,h2,h3,h4,h5⟩:=a.sl.is i _ eo
   subst ev
   refine thn (J4 hN hv hd hcd pins s1 σ H1 (fun v H'=>v=.ref c/\H'=H1) I1 ⟨_,h1,rfl,rfl⟩) fun ov s2 ⟨x2,H2,I2,r2,ex,eH⟩=>?_
   subst ex eH
   cases r2
   have sl1:=a.sl.grow g1
   refine wpAny_Slice (thn (hl ρ y e2 pins s2 σ H2 (fun o H'=>o=y/\∃Hf',Grow H2 Hf1 H' Hf') I2 ⟨H0,Hf1,g1.sub,sl1,fun H' Hf' g=>⟨rfl,Hf',g⟩⟩) fun wl s3 ⟨o3,H3,I3,pl,eo3,Hf3,g3⟩=>?_)
   subst eo3
   have sl3:=sl1.grow g3
   refine thn (hh ρ z e3 pins s3 σ H3 (fun o H'=>o=z/\∃Hf',Grow H3 Hf3 H' Hf') I3 ⟨H0,Hf3,g3.sub,sl3,fun H' Hf' g=>⟨rfl,Hf',g⟩⟩) fun wu s4 ⟨o4,H4,I4,pu,eo4,Hf4,g4⟩=>?_
   subst eo4
   have sl4:=sl3.grow g4
   have gg:Grow H Hf H4 Hf4:=(g1.trans g3).trans g4
   rw[evalPart_none]
   refine wpAny_pure ?_
   have I5:Inv X pins σ H4 { s4 with heap:=s4.heap.push { cls:=.type "slice", data:=.fields #[wl,wu,.none] } }:=I4.kept (t':=s4.toks) fun b ob q=>Heap.get?_push_of_some _ q
   have hc:H4 c=some (.lst vs):=gg.big _ _ h2
   have hb:H4 b=some (.lst us):=(g3.trans g4).big _ _ b2
   have hcb:c≠b:=fun zz=>by subst zz;rw[h2]at b1;cases b1
   have hfc:Hf4 c=none:=gg.nofr h2 h3
   have rd:Reps X.K Hf4 (an1 ds o3 o4 es) (an1 vs o3 o4 us):=aT1 (h5.mono gg.ext) (b4.mono (g3.trans g4).ext) _ _
   refine au4 I5 hc hb hcb (Heap.IsSliceOf.new ..) pl pu (by rw[h5.length,b4.length,sizeLine_eq];exact hz) fun s' I'=>?_
   have ga:=a.gr.trans gg
   refine⟨σ,_,I',ee σ _ Hf4 ⟨⟨fun d u zz=>?_,fun d u zz=>?_,ga.ext,ga.new⟩,sl4.reOwn eo h1 hfc h4 rd⟩ gg.ext⟩
   ·rw[A7 (A8 zz h4)];exact ga.big d u zz
   ·rw[A7 (A8 zz hfc)];exact ga.sub d u zz
  ·cases q
 ·cases q
theorem bq8(i:Nat) (hN:X.N.Nodup) (S:CompSc X N' n caps scope) (hx:∀e s,X.xe e s->False)
  (hi:JI X tgt iter src) (hg:∀C s0 H0 ex,JG (C7 X N' scope C s0 H0 ex) tgt g) (ht:∀C s0 H0 ex,JTs (C7 X N' scope C s0 H0 ex) ifs c) (he:∀C s0 H0 ex,JE (C7 X N' scope C s0 H0 ex) elt e)
  (hi2:X.N[i]? = some x:=by rfl) (hl:X.env.scope.names.lookup x=some .local:=by rfl) (hsw:swapsWith (.ListComp elt [⟨tgt,iter,ifs,0⟩] scope pos) (some (.Name x pos')) spos.line X.env=pure true:=by rfl)
  (hc:X.calm=true:=by rfl) (hs:∀x,foldedSetIterable iter X.env x=pure x:=by intro _;rfl):JS X (.Assign [.Name x pos'] (.ListComp elt [⟨tgt,iter,ifs,0⟩] scope pos) spos) (au6 i (C2 n caps src g c e)):=fun ρ fl q H0 Hf0=>by
 obtain⟨out,e1,e2⟩:=Option.map_eq_some_iff.mp q
 subst e2
 obtain⟨ds,e3,k⟩:=Q5 (K:=X.K) e1
 refine F7 (x9 S hx hc hN hi2 hl (hi ρ ds e3) (g:=tgJ X.K g) (tc:=u9 X.K c) (te:=am2 X.K e) hg ht (fun C s0 H0 ex pins s σ H Q I ⟨ρ,d,e,t⟩=>he C s0 H0 ex ρ d e pins s σ H Q I t) hsw hs) fun En σ H ⟨Hf,a,ee⟩=>k σ H _ ⟨H0,Hf,a.gr.sub,a.sl,fun v H' Hf' gg ⟨p,vs,z1,z2,z3,z4,z5⟩=>?_⟩
 subst z1
 exact ee _ H' Hf' ⟨a.gr.trans gg,a.sl.setOwn gg (a.gr.big.free z2) z2 z3 z4 z5⟩ gg.ext
noncomputable def bw3:DS:=fun ρ=>some (.ct ρ)
theorem bq9:JS X (.Continue pos) bw3:=fun ρ fl q H0 Hf0=>by
 cases q
 exact F7 an7 fun En σ H ⟨Hf,a,e⟩=>e σ H Hf a (B5.refl _)
end
end G
namespace G
open PySem PySem.Spec PyProof.Rows L2
section
variable {X:Cx}
noncomputable def bl2(x:Str) (k:Int):Str:=if(k==1 || x.length==0)=true then x else⟨(List.replicate k.toNat x.cps).foldl (·++·) #[]⟩
noncomputable def bH2(x y:D):Option D:=match x,y with
 | .str x,.int k=>if 1<=k/\k<=2/\x.length<=1000/\(bl2 x k).length<=16777216 then some (.str (bl2 x k)) else none
 | _,_=>none
theorem bo5:OpD X (binaryOp .Mult) bH2:=fun x y z h=>by
 unfold bH2 at h
 split at h
 ·split at h
  ·rename_i x k c
   cases h
   intro pins s σ H vx vy v u Q I rx ry ⟨Hf,ss,r1,r2,kk⟩
   cases r1
   cases r2
   obtain⟨t,rfl⟩:=rx
   obtain⟨t2,rfl⟩:=ry
   have w:=kk (.str (bl2 x k)) H Hf (Grow.refl ss) rfl
   have k12:k=1\/k=2:=by grind
   refine P.mul_str (by rw[decide_eq_false (by grind),decide_eq_false (by grind)];rfl) (fun _ _=>by rcases k12 with rfl|rfl<;>grind) (fun _ _=>?_) ?_
   ·unfold Builtin.Str.tooLong
    rw[sizeLine_eq]
    refine decide_eq_false ?_
    rcases k12 with rfl|rfl<;>simp<;>grind
   ·rw[if_neg (by grind)]
    unfold bl2 at w c
    split
    ·rename_i e
     rw[if_pos e]at w
     exact⟨.str x,H,I,⟨_,rfl⟩,w⟩
    ·rename_i e
     rw[if_neg e]at w c
     exact⟨by rw[sizeLine_eq];exact c.2.2.2,.str _,H,I.tok _,⟨_,rfl⟩,w⟩
  ·cases h
 ·cases h
noncomputable def slS(x:Str) (lo hi:Option Int):Str:=if((1:Int)==1&&(Builtin.Str.strSliceIndices lo hi 1 x.length).length==x.length)=true then x else⟨((Builtin.Str.strSliceIndices lo hi 1 x.length).filterMap (x.cps[·]?)).toArray⟩
noncomputable def bZ1(f:DE) (lo hi:Rho->Option (Option Int)):DE:=fun ρ=>(f ρ).bind fun d=>(lo ρ).bind fun l=>(hi ρ).bind fun h=>match d with
 | .str x=>if x.length<=1000/\(slS x l h).length<=16777216 then some (.str (slS x l h)) else none
 | _=>none
theorem aD2(h:IsPart u o):∃p:Option (Int×Tok),u=partValue p/\p.map (·.1)=o:=by
 cases h with
 | none=>exact⟨none,rfl,rfl⟩
 | int i t=>exact⟨some (i,t),rfl,rfl⟩
theorem bk4:SlR X (fun x lo hi H Q=>∃z,x=.str z/\(slS z lo hi).length<=16777216/\Q (.str (slS z lo hi)) H):=by
 intro pins s σ H x v vl vu lo hi sl Q I rx hs pl pu h
 obtain⟨z,rfl,hz,q⟩:=h
 obtain⟨t,rfl⟩:=rx
 obtain⟨pl',rfl,rfl⟩:=aD2 pl
 obtain⟨pu',rfl,rfl⟩:=aD2 pu
 refine⟨"str", _,F.slot_str_getitem.lookup,typeIs_str s z t,wpAny_getItem_str_slice (l:=pl') (u:=pu') (st:=none) hs rfl ?_⟩
 show(if((1:Int)==1&&(Builtin.Str.strSliceIndices (pl'.map (·.1)) (pu'.map (·.1)) 1 z.length).length==z.length)=true then Made.val (.str z t) else Made.str ⟨((Builtin.Str.strSliceIndices (pl'.map (·.1)) (pu'.map (·.1)) 1 z.length).filterMap (z.cps[·]?)).toArray⟩).post _ _
 unfold slS at q hz
 by_cases e:((1:Int)==1&&(Builtin.Str.strSliceIndices (pl'.map (·.1)) (pu'.map (·.1)) 1 z.length).length==z.length)=true
 ·rw[if_pos e]at q ⊢
  exact⟨.str z,H,I,⟨_,rfl⟩,q⟩
 ·rw[if_neg e]at q hz ⊢
  exact⟨by rw[sizeLine_eq];exact hz,.str _,H,I.tok _,⟨_,rfl⟩,q⟩
theorem bL1{a:Expr}{lo hi:Option Expr}{f:DE}{l h:Rho->Option (Option Int)}{pos p2:Pos}(ha:JE X a f) (hl:JO X lo l) (hh:JO X hi h):JE X (.Subscript a (.Slice lo hi none p2) pos) (bZ1 f l h):=fun ρ d q=>by
 obtain⟨x,e1,q⟩:=xbm q
 obtain⟨y,e2,q⟩:=xbm q
 obtain⟨z,e3,q⟩:=xbm q
 cases x with
 | str x =>
  simp only at q
  split at q
  ·rename_i c
   cases q
   refine A9 (X0 bk4 (ha ρ _ e1) (hl ρ y e2) (hh ρ z e3)) fun σ H Q ⟨H0,Hf,s,sl,k⟩=>?_
   refine⟨H0,Hf,s,sl,fun v H1 Hf1 g1 r1=>⟨H0,Hf1,g1.sub,sl.grow g1,fun H2 Hf2 g2=>⟨H0,Hf2,g2.sub,sl.grow (g1.trans g2),fun H3 Hf3 g3=>?_⟩⟩⟩
   exact⟨x,r1,c.2,k _ H3 Hf3 ((g1.trans g2).trans g3) rfl⟩
  ·cases q
 | _=>cases q
noncomputable def bD6(i:Nat) (f:DE):DS:=fun ρ=>match ρ[i]? with
 | some (some (.own ds))=>(f ρ).bind fun d=>match d with
  | .list es=>if ds.length+es.length<=16777216 then some (.nx (ρ.set i (some (.own (ds++es))))) else none
  | .tuple es=>if ds.length+es.length<=16777216 then some (.nx (ρ.set i (some (.own (ds++es))))) else none
  | _=>none
 | _=>none
end
end G
namespace G
open PySem PySem.Spec PyProof.Rows L2
section
variable {X:Cx}
noncomputable def bW1(f g:Rho->Option (Bool×List D)):Rho->Option (List D):=fun ρ=>(f ρ).bind fun p=>(g ρ).bind fun q=>if p.1=false/\q.1=false/\p.2.length+q.2.length<=16777216 then some (p.2++q.2) else none
theorem bK6(ha:JQ X a f) (hb:JQ X b g):JN X (.BinOp a .Add b pos) (bW1 f g):=fun ρ out q=>by
 obtain⟨⟨t1,xs⟩,e1,q⟩:=xbm q
 obtain⟨⟨t2,ys⟩,e2,q⟩:=xbm q
 split at q
 ·rename_i c
  obtain⟨c1,c2,c3⟩:=c
  simp only at c1 c2 c3
  subst c1 c2
  cases q
  refine A9 (aV3 aD3 (ha ρ _ _ e1) (hb ρ _ _ e2)) fun σ H Q ⟨H0,Hf,s,sl,k⟩=>?_
  refine⟨H0,Hf,s,sl,fun v H1 Hf1 g1 ⟨p,vs,z1,z2,z3⟩=>⟨H0,Hf1,g1.sub,sl.grow g1,fun u H2 Hf2 g2 ⟨p',us,z1',z2',z3'⟩=>?_⟩⟩
  subst z1 z1'
  refine⟨p,p',vs,us,rfl,rfl,C9 g2.big z2,z2',by rw[z3.length,z3'.length,sizeLine_eq];exact c3,fun n hn=>?_⟩
  exact k _ _ _ ((g1.trans g2).trans (Grow.made g2.sub hn)) ⟨n,vs++us,rfl,(g1.trans g2).big.free hn,A6,g2.sub.free hn,(z3.mono g2.ext).append z3'⟩
 ·cases q
end
end G
namespace G
open PySem PySem.Spec PyProof.Rows L2
section
variable {X:Cx}
theorem bu0(l b:Addr) (xs ys:Array Value) (n m:Nat) (dd:Option Addr) (sl:Array (Option Value)) (h0:¬(!xs.isEmpty&&Builtin.List.listTooLong (xs.size+ys.size))=true) (h1:xs.size<=sizeLine) (h2:xs.size+ys.size<=sizeLine+1) :
  Meets (Builtin.«list.extend» ⟨[.ref l,.ref b],[]⟩) (fun _ R s=>s.heap.get? l=some { cls:=.type "list", data:=.seq xs n }/\s.heap.get? b=some ⟨.type "list", dd,.seq ys m,sl⟩ /\
   R (.ok (.ret Value.none)) { s with heap:=s.heap.update l (Obj.mapSeq fun x=>x++ys),toks:=s.toks }) :=
 .of_wp fun prog w A R s h=>by
  obtain⟨hp,g,d,tk,os⟩:=s
  obtain⟨hl,hb,h⟩:=h
  have f1:=AutoSeq1.idx_int
  have f2:=AutoSeq1.sub_tuple_tuple
  have f3:=AutoSeq1.sub_list_list
  have f4:=AutoSeq1.sub_tuple_list
  have f5:=AutoSeq1.sub_list_tuple
  have hz':(xs++ys).size<=sizeLine+1:=by rw[Array.size_append];exact h2
  wp_walk using (wpAny_updateSeq hl rfl (hz:=h1) (_hz':=hz')),AutoSeq1.wpAny_loadPart' hl,AutoSeq1.wpAny_loadPart' hb
  exact⟨_,rfl,h⟩
theorem bt9(l b:Addr) (xs ys:Array Value) (n m:Nat) (dd:Option Addr) (sl:Array (Option Value)) (h0:¬(!xs.isEmpty&&Builtin.List.listTooLong (xs.size+ys.size))=true) (h1:xs.size<=sizeLine) (h2:xs.size+ys.size<=sizeLine+1) :
  Meets (Builtin.«list.extend» ⟨[.ref l,.ref b],[]⟩) (fun _ R s=>s.heap.get? l=some { cls:=.type "list", data:=.seq xs n }/\s.heap.get? b=some ⟨.type "tuple", dd,.seq ys m,sl⟩ /\
   R (.ok (.ret Value.none)) { s with heap:=s.heap.update l (Obj.mapSeq fun x=>x++ys),toks:=s.toks }) :=
 .of_wp fun prog w A R s h=>by
  obtain⟨hp,g,d,tk,os⟩:=s
  obtain⟨hl,hb,h⟩:=h
  have f1:=AutoSeq1.idx_int
  have f2:=AutoSeq1.sub_tuple_tuple
  have f3:=AutoSeq1.sub_list_list
  have f4:=AutoSeq1.sub_tuple_list
  have f5:=AutoSeq1.sub_list_tuple
  have hz':(xs++ys).size<=sizeLine+1:=by rw[Array.size_append];exact h2
  wp_walk using (wpAny_updateSeq hl rfl (hz:=h1) (_hz':=hz')),AutoSeq1.wpAny_loadPart' hl,AutoSeq1.wpAny_loadPart' hb
  exact⟨_,rfl,h⟩
noncomputable def cc5(K:PySem.W.Frag):V->List V->Hp->VK->Prop:=fun x vs H Q=>∃l b xs zs,x=.ref l/\vs=[.ref b]/\H l=some (.lst xs)/\(SqL K H b zs\/SqT K H b zs)/\xs.length+zs.length<=sizeLine/\Q .non (upd H l (.lst (xs++zs)))
theorem aW8:MtM X "list.extend" (cc5 X.K):=by
 intro pins s σ H x vs v us Q I rx rv h
 obtain⟨l,b,xs,zs,rfl,rfl,hH,hB,hz,q⟩:=h
 cases rx
 obtain⟨u,rfl,ru⟩:=rv.one
 cases ru
 obtain⟨z,its,n,r,hl,e⟩:=I.lstM hH
 rcases hB with hB|hB
 ·obtain⟨its2,r2,pl,_⟩:=I.list hB
  obtain⟨⟨cls,dd,data,sl⟩,ho,hc,m,hd⟩:=pl.isList
  simp only at hc hd
  subst hc hd
  have hl2:=r2.length
  have hsz:its.toArray.size+its2.toArray.size<=sizeLine:=by rw[List.size_toArray,List.size_toArray];grind
  have hlong:¬(!its.toArray.isEmpty&&Builtin.List.listTooLong (its.toArray.size+its2.toArray.size))=true:=by
   rw[R6 hsz,Bool.and_false];exact Bool.false_ne_true
  refine call_meets F.slot_list_extend ⟨_,e,rfl⟩ F.entry_list_extend (F.args_list_extend_2 _ _) (bu0 l b its.toArray its2.toArray n m dd sl hlong (by rw[List.size_toArray];grind) (by grind)) ⟨e,ho,?_⟩
  refine⟨.non,_,I.lset (its':=its++its2) hH e (by simp) (r.append r2) ?_,rfl,q⟩
  rw[List.length_append];grind
 ·obtain⟨its2,r2,pl,_⟩:=I.tuple hB
  obtain⟨⟨cls,dd,data,sl⟩,ho,hc,m,hd⟩:=pl
  simp only at hc hd
  subst hc hd
  have hl2:=r2.length
  have hsz:its.toArray.size+its2.toArray.size<=sizeLine:=by rw[List.size_toArray,List.size_toArray];grind
  have hlong:¬(!its.toArray.isEmpty&&Builtin.List.listTooLong (its.toArray.size+its2.toArray.size))=true:=by
   rw[R6 hsz,Bool.and_false];exact Bool.false_ne_true
  refine call_meets F.slot_list_extend ⟨_,e,rfl⟩ F.entry_list_extend (F.args_list_extend_2 _ _) (bt9 l b its.toArray its2.toArray n m dd sl hlong (by rw[List.size_toArray];grind) (by grind)) ⟨e,ho,?_⟩
  refine⟨.non,_,I.lset (its':=its++its2) hH e (by simp) (r.append r2) ?_,rfl,q⟩
  rw[List.length_append];grind
theorem bJ7(i:Nat) (h:JE X e f) (hN:X.N[i]? = some x) (hv:Vis X.env.scope x) (hd:(x==("__debug__" : Str))=false)
  (hcd:(x==("__classdict__" : Str))=false) (hline:(apos.endLine==cpos.line)=true) (hs:starEach [e] X.env=[(false,eval e X.env)]) :
  JS X (.Expr (.Call (.Attribute (.Name x p) "extend" apos) [e] [] cpos) pos) (bD6 i f):=fun ρ fl q H0 Hf0=>by
 unfold bD6 at q
 split at q
 ·rename_i ds eo
  obtain⟨d,e1,q⟩:=xbm q
  split at q
  ·rename_i es
   split at q
   ·rename_i hz
    cases q
    refine F7 (ai6 (aV7 PySem.F.plainAttrs_list PySem.F.slot_list_extend PySem.F.type_list_extend aW8 (J4 hN hv hd hcd) (C0 (h ρ _ e1) E3 hs) rfl (by rw[hs];rfl) hline hs) rfl) fun En σ H ⟨Hf,a,ee⟩=>?_
    obtain⟨v,h1,b,vs,rfl,h2,h3,h4,h5⟩:=a.sl.is i _ eo
    refine⟨_,h1,.inl ⟨rfl,vs,SqL.of h2⟩,H0,Hf,a.gr.sub,a.sl,fun w H' Hf' gg r=>?_⟩
    obtain⟨b2,us,rfl,r1,r2⟩:=r
    have hb:H' b=some (.lst vs):=gg.big _ _ h2
    have hfb:Hf' b=none:=gg.nofr h2 h3
    have g2:=a.gr.trans gg
    have sl2:=a.sl.grow gg
    refine⟨b,b2,vs,us,rfl,rfl,hb,.inl (C9 gg.sub r1),by rw[h5.length,r2.length,sizeLine_eq];exact hz,ee _ _ Hf' ⟨⟨fun c u z=>?_,fun c u z=>?_,g2.ext,g2.new⟩,?_⟩ gg.ext⟩
    ·rw[A7 (A8 z h4)];exact g2.big c u z
    ·rw[A7 (A8 z hfb)];exact g2.sub c u z
    ·exact sl2.reOwn eo h1 hfb h4 ((h5.mono gg.ext).append r2)
   ·cases q
  ·rename_i es
   split at q
   ·rename_i hz
    cases q
    refine F7 (ai6 (aV7 PySem.F.plainAttrs_list PySem.F.slot_list_extend PySem.F.type_list_extend aW8 (J4 hN hv hd hcd) (C0 (h ρ _ e1) E3 hs) rfl (by rw[hs];rfl) hline hs) rfl) fun En σ H ⟨Hf,a,ee⟩=>?_
    obtain⟨v,h1,b,vs,rfl,h2,h3,h4,h5⟩:=a.sl.is i _ eo
    refine⟨_,h1,.inl ⟨rfl,vs,SqL.of h2⟩,H0,Hf,a.gr.sub,a.sl,fun w H' Hf' gg r=>?_⟩
    obtain⟨b2,us,rfl,r1,r2⟩:=r
    have hb:H' b=some (.lst vs):=gg.big _ _ h2
    have hfb:Hf' b=none:=gg.nofr h2 h3
    have g2:=a.gr.trans gg
    have sl2:=a.sl.grow gg
    refine⟨b,b2,vs,us,rfl,rfl,hb,.inr (B4 gg.sub r1),by rw[h5.length,r2.length,sizeLine_eq];exact hz,ee _ _ Hf' ⟨⟨fun c u z=>?_,fun c u z=>?_,g2.ext,g2.new⟩,?_⟩ gg.ext⟩
    ·rw[A7 (A8 z h4)];exact g2.big c u z
    ·rw[A7 (A8 z hfb)];exact g2.sub c u z
    ·exact sl2.reOwn eo h1 hfb h4 ((h5.mono gg.ext).append r2)
   ·cases q
  ·cases q
 ·cases q
end
end G
namespace G
open PySem PySem.Spec PyProof.Rows L2
section
variable {prog:Program}{w:World}{A:Around}{R:Result->Shared->Prop}{J:Addr}{fp wr:List Addr}{Gn:Array GenState->Array GenState->Prop}{n:Nat}{P:Nat->Value->Prop}{St:Nat->Shared->Prop}
end
section
variable {prog:Program}{w:World}{A:Around}{E:Value->Shared->Prop}{s:Shared}
noncomputable abbrev bo6(b:Bool):Obj:={ cls:=.type "set", dict:=none,data:=.set #[] 0 (.fresh 0 0 b) }
end
end G
namespace G
open PySem PySem.Spec PyProof.Rows L2
section
variable {X:Cx}
theorem bP1:bootBuiltins "set" = some (.type "set"):=by decide +kernel
end
end G
namespace G
open PySem PySem.Spec PyProof.Rows L2
section
variable {X:Cx}
end
end G
namespace G
open PySem PySem.Spec PyProof PyProof.Rows L2
section
variable {X:Cx}
noncomputable def mnF(m x:Int):Int:=if x < m then x else m
noncomputable def mxF(m x:Int):Int:=if x > m then x else m
noncomputable def mnL:List Int->Int
 | []=>0
 | a::r=>r.foldl mnF a
noncomputable def mxL:List Int->Int
 | []=>0
 | a::r=>r.foldl mxF a
theorem aE1:∀(l:List Int) (z:Int),(l.foldl mnF z=z\/l.foldl mnF z∈l)/\l.foldl mnF z<=z/\∀a∈l,l.foldl mnF z<=a
 | [],z=>⟨.inl rfl,Int.le_refl _,fun a h=>by simp at h⟩
 | x::l,z=>by
  obtain⟨h1,h2,h3⟩:=aE1 l (mnF z x)
  rw[List.foldl_cons]
  have k:(mnF z x=z\/mnF z x=x)/\mnF z x<=z/\mnF z x<=x:=by unfold mnF;split<;>omega
  refine⟨?_,by omega,fun a ha=>?_⟩
  ·rcases h1 with h|h
   ·rcases k.1 with q|q
    ·left;rw[h,q]
    ·right;rw[h,q];exact List.mem_cons_self ..
   ·right;exact List.mem_cons_of_mem _ h
  ·rcases List.mem_cons.mp ha with rfl|ha
   ·omega
   ·exact h3 a ha
theorem aD8:∀(l:List Int) (z:Int),(l.foldl mxF z=z\/l.foldl mxF z∈l)/\z<=l.foldl mxF z/\∀a∈l,a<=l.foldl mxF z
 | [],z=>⟨.inl rfl,Int.le_refl _,fun a h=>by simp at h⟩
 | x::l,z=>by
  obtain⟨h1,h2,h3⟩:=aD8 l (mxF z x)
  rw[List.foldl_cons]
  have k:(mxF z x=z\/mxF z x=x)/\z<=mxF z x/\x<=mxF z x:=by unfold mxF;split<;>omega
  refine⟨?_,by omega,fun a ha=>?_⟩
  ·rcases h1 with h|h
   ·rcases k.1 with q|q
    ·left;rw[h,q]
    ·right;rw[h,q];exact List.mem_cons_self ..
   ·right;exact List.mem_cons_of_mem _ h
  ·rcases List.mem_cons.mp ha with rfl|ha
   ·omega
   ·exact h3 a ha
theorem aa0(h:l≠[]):mnL l∈l/\∀a∈l,mnL l<=a:=by
 cases l with
 | nil=>exact absurd rfl h
 | cons x l =>
  obtain⟨h1,h2,h3⟩:=aE1 l x
  refine⟨?_,fun a ha=>?_⟩
  ·rcases h1 with h|h
   ·show l.foldl mnF x∈_;rw[h];exact List.mem_cons_self ..
   ·exact List.mem_cons_of_mem _ h
  ·rcases List.mem_cons.mp ha with rfl|ha
   ·exact h2
   ·exact h3 a ha
theorem X3(h:l≠[]):mxL l∈l/\∀a∈l,a<=mxL l:=by
 cases l with
 | nil=>exact absurd rfl h
 | cons x l =>
  obtain⟨h1,h2,h3⟩:=aD8 l x
  refine⟨?_,fun a ha=>?_⟩
  ·rcases h1 with h|h
   ·show l.foldl mxF x∈_;rw[h];exact List.mem_cons_self ..
   ·exact List.mem_cons_of_mem _ h
  ·rcases List.mem_cons.mp ha with rfl|ha
   ·exact h2
   ·exact h3 a ha
noncomputable def X9:List D->Option (List Int)
 | []=>some []
 | .int i::r=>(X9 r).map fun ys=>i::ys
 | _::_=>none
theorem O3{K:PySem.W.Frag}{H:Hp}:∀{ds:List D}{ys:List Int}{vs:List V},X9 ds=some ys->Reps K H ds vs->vs=ys.map V.int
 | [],ys,vs,h,r=>by cases h;exact r
 | .int x::ds,ys,vs,h,r=>by
  obtain⟨zs,h1,h2⟩:=Option.map_eq_some_iff.mp h
  subst h2
  obtain⟨v,t,e1,e2,e3⟩:=r
  subst e1
  rw[show v=_ from e2,O3 h1 e3];rfl
theorem G7:∀{ys:List Int}{us:List Value},B3 (ys.map V.int) us->∃xs:List (Int×Tok),us=xs.map (fun p=>.int p.1 p.2)/\xs.map (·.1)=ys
 | [],[],_=>⟨[],rfl,rfl⟩
 | y::ys,u::us,h=>by
  cases h with
  | cons a b =>
   obtain⟨xs,e1,e2⟩:=G7 b
   obtain⟨t,rfl⟩:=a
   exact⟨(y,t)::xs,by rw[e1];rfl,by rw[List.map_cons,e2]⟩
theorem aP2(hc:X.calm=true):G6 X (.builtin "min") (fun xs H Q=>∃p ns,xs=[.ref p]/\SqL X.K H p (ns.map V.int)/\ns≠[]/\Q (.int (mnL ns)) H):=by
 intro pins s σ H xs us Q I r h
 obtain⟨p,ns,rfl,hq,hz,q⟩:=h
 obtain⟨u,rfl,rx⟩:=K8 r
 cases rx
 obtain⟨its,rv,pl,_⟩:=I.list hq
 obtain⟨zs,e1,e2⟩:=G7 rv
 have hl:s.heap.IsList p (intItems zs.toArray):=by
  have:=pl.isList
  rw[e1]at this
  simpa [intItems] using this
 have hzs:zs.toArray.toList.map (·.1)=ns:=by simpa using e2
 have hn:0 < zs.toArray.size:=by
  cases zs with
  | nil=>exact absurd e2.symm hz
  | cons=>simp
 refine min_intList (I.ok.hd hc) hl hn fun v h' tk hv hk=>?_
 obtain⟨t,rfl⟩:=intItems_at hv
 obtain⟨b1,b2⟩:=argBest_lt (numAt zs.toArray) (zs.toArray.size - 1)
 have key:numAt zs.toArray (argBest (fun i j=>decide (numAt zs.toArray i < numAt zs.toArray j)) (zs.toArray.size - 1))=mnL ns:=by
  obtain⟨m1,m2⟩:=aa0 hz
  have g:∀j,j < zs.toArray.size->numAt zs.toArray j∈ns:=fun j hj=>by
   rw[numAt_eq,hzs];exact getD_mem (by rw[← hzs,List.length_map,Array.length_toList];omega)
  refine Int.le_antisymm ?_ (m2 _ (g _ (by omega)))
  rw[← hzs]at m1
  obtain⟨j,hj,e⟩:=mem_getD m1
  rw[List.length_map,Array.length_toList]at hj
  have:=b2 j (by omega)
  rw[numAt_eq zs.toArray j,e,hzs]at this
  exact this
 rw[key]
 exact⟨.int _,H,I.kept (t':=tk) hk,⟨_,rfl⟩,q⟩
theorem bv1{zs:List (Int×Tok)}{ns:List Int}(hzs:zs.toArray.toList.map (·.1)=ns) (hz:ns≠[]) (hn:0 < zs.toArray.size):numAt zs.toArray (argBest (fun i j=>decide (numAt zs.toArray i > numAt zs.toArray j)) (zs.toArray.size - 1))=mxL ns:=by
 obtain⟨b1,b2⟩:=argBest_gt (numAt zs.toArray) (zs.toArray.size - 1)
 obtain⟨m1,m2⟩:=X3 hz
 have g:∀j,j < zs.toArray.size->numAt zs.toArray j∈ns:=fun j hj=>by
  rw[numAt_eq,hzs];exact getD_mem (by rw[← hzs,List.length_map,Array.length_toList];omega)
 refine Int.le_antisymm (m2 _ (g _ (by omega))) ?_
 rw[← hzs]at m1
 obtain⟨j,hj,e⟩:=mem_getD m1
 rw[List.length_map,Array.length_toList]at hj
 have:=b2 j (by omega)
 rw[numAt_eq zs.toArray j,e,hzs]at this
 exact this
theorem aP4(hc:X.calm=true):G6 X (.builtin "max") (fun xs H Q=>∃p ns,xs=[.ref p]/\SqT X.K H p (ns.map V.int)/\ns≠[]/\Q (.int (mxL ns)) H):=by
 intro pins s σ H xs us Q I r h
 obtain⟨p,ns,rfl,hq,hz,q⟩:=h
 obtain⟨u,rfl,rx⟩:=K8 r
 cases rx
 obtain⟨its,rv,pl,_⟩:=I.tuple hq
 obtain⟨zs,e1,e2⟩:=G7 rv
 have hl:s.heap.IsTuple p (intItems zs.toArray):=by
  have:s.heap.IsTuple p its.toArray:=pl
  rw[e1]at this
  simpa [intItems] using this
 have hzs:zs.toArray.toList.map (·.1)=ns:=by simpa using e2
 have hn:0 < zs.toArray.size:=by
  cases zs with
  | nil=>exact absurd e2.symm hz
  | cons=>simp
 have hA:X.A.in1.handled=none:=I.ok.hd hc
 obtain⟨o,ho,hcl,n,hd⟩:=hl
 have lt:=Heap.lt_size ho
 refine call_max_walk (wpAny_pyIter_tuple ⟨o,ho,hcl,n,hd⟩ ?_)
 refine⟨s.heap.objs.size,_,_,_,_,_,_,rfl,Walks.tuple hA s.heap.objs.size p (Nat.ne_of_lt lt) (intItems zs.toArray),⟨?_,⟨o,Heap.get?_push_of_some _ ho,hcl,n,hd⟩⟩,?_,by simpa [intItems] using hn,CmpOf.ints_gt (numAt zs.toArray) (fun i v hv=>intItems_at hv),fun v h' tk hv hk=>?_⟩
 ·exact⟨_,Heap.get?_push_size _ rfl,rfl,rfl⟩
 ·intro b hb
  simp only[List.mem_cons,List.not_mem_nil,or_false]at hb
  rw[Heap.size_push]
  rcases hb with rfl|rfl
  ·exact Nat.lt_succ_self _
  ·exact Nat.lt_succ_of_lt lt
 ·obtain⟨t,rfl⟩:=intItems_at hv
  have sz:(intItems zs.toArray).size=zs.toArray.size:=by simp[intItems]
  rw[sz,bv1 hzs hz hn]
  exact⟨.int _,H,I.kept (t':=tk) (fun b o e=>hk b o (by
   simp only[List.mem_cons,List.not_mem_nil,or_false]
   exact Nat.ne_of_lt (Heap.lt_size e)) (Heap.get?_push_of_some _ e)),⟨_,rfl⟩,q⟩
theorem aP5(hc:X.calm=true):G6 X (.builtin "max") (fun xs H Q=>∃p ns,xs=[.ref p]/\SqL X.K H p (ns.map V.int)/\ns≠[]/\Q (.int (mxL ns)) H):=by
 intro pins s σ H xs us Q I r h
 obtain⟨p,ns,rfl,hq,hz,q⟩:=h
 obtain⟨u,rfl,rx⟩:=K8 r
 cases rx
 obtain⟨its,rv,pl,_⟩:=I.list hq
 obtain⟨zs,e1,e2⟩:=G7 rv
 have hl:s.heap.IsList p (intItems zs.toArray):=by
  have:=pl.isList
  rw[e1]at this
  simpa [intItems] using this
 have hzs:zs.toArray.toList.map (·.1)=ns:=by simpa using e2
 have hn:0 < zs.toArray.size:=by
  cases zs with
  | nil=>exact absurd e2.symm hz
  | cons=>simp
 refine max_intList (I.ok.hd hc) hl hn fun v h' tk hv hk=>?_
 obtain⟨t,rfl⟩:=intItems_at hv
 obtain⟨b1,b2⟩:=argBest_gt (numAt zs.toArray) (zs.toArray.size - 1)
 have key:numAt zs.toArray (argBest (fun i j=>decide (numAt zs.toArray i > numAt zs.toArray j)) (zs.toArray.size - 1))=mxL ns:=by
  obtain⟨m1,m2⟩:=X3 hz
  have g:∀j,j < zs.toArray.size->numAt zs.toArray j∈ns:=fun j hj=>by
   rw[numAt_eq,hzs];exact getD_mem (by rw[← hzs,List.length_map,Array.length_toList];omega)
  refine Int.le_antisymm (m2 _ (g _ (by omega))) ?_
  rw[← hzs]at m1
  obtain⟨j,hj,e⟩:=mem_getD m1
  rw[List.length_map,Array.length_toList]at hj
  have:=b2 j (by omega)
  rw[numAt_eq zs.toArray j,e,hzs]at this
  exact this
 rw[key]
 exact⟨.int _,H,I.kept (t':=tk) hk,⟨_,rfl⟩,q⟩
noncomputable def ar7(f:Rho->Option (Bool×List D)):DE:=fun ρ=>(f ρ).bind fun q=>if q.1=true then none else(X9 q.2).bind fun ns=>if ns=[] then none else some (.int (mnL ns))
noncomputable def ar9(f:Rho->Option (Bool×List D)):DE:=fun ρ=>(f ρ).bind fun q=>(X9 q.2).bind fun ns=>if ns=[] then none else some (.int (mxL ns))
theorem bs4(hg:Gl X "min") (hm:X.mg "min" = none) (h:JQ X e f) (hc:X.calm=true) (he:starEach [e] X.env=[(false,eval e X.env)]):JE X (.Call (.Name "min" p) [e] [] pos) (ar7 f):=fun ρ d q=>by
 obtain⟨⟨t,ds⟩,h1,q⟩:=xbm q
 split at q
 ·cases q
 ·rename_i ht
  have ht:t=false:=by simpa using ht
  subst ht
  obtain⟨ys,h2,q⟩:=xbm q
  split at q
  ·cases q
  ·rename_i hz
   cases q
   refine A9 (F4 (aP2 hc) hg hm bg3 (C0 (h ρ false ds h1) E3 he) (he:=he)) fun σ H Q ⟨H0,Hf,s,sl,k⟩=>?_
   refine⟨H0,Hf,s,sl,fun v H1 Hf1 g1 ⟨a,vs,e1,e2,e3⟩=>⟨a,ys,by rw[e1],?_,hz,?_⟩⟩
   ·rw[← O3 h2 e3];exact e2
   ·exact k _ _ _ g1 rfl
theorem bs6(hg:Gl X "max") (hm:X.mg "max" = none) (h:JQ X e f) (hc:X.calm=true) (he:starEach [e] X.env=[(false,eval e X.env)]):JE X (.Call (.Name "max" p) [e] [] pos) (ar9 f):=fun ρ d q=>by
 obtain⟨⟨t,ds⟩,h1,q⟩:=xbm q
 obtain⟨ys,h2,q⟩:=xbm q
 split at q
 ·cases q
 ·rename_i hz
  cases q
  cases t with
  | false =>
   refine A9 (F4 (aP5 hc) hg hm ay4 (C0 (h ρ false ds h1) E3 he) (he:=he)) fun σ H Q ⟨H0,Hf,s,sl,k⟩=>?_
   refine⟨H0,Hf,s,sl,fun v H1 Hf1 g1 ⟨a,vs,e1,e2,e3⟩=>⟨a,ys,by rw[e1],?_,hz,?_⟩⟩
   ·rw[← O3 h2 e3];exact e2
   ·exact k _ _ _ g1 rfl
  | true =>
   refine A9 (F4 (aP4 hc) hg hm ay4 (C0 (h ρ true ds h1) E3 he) (he:=he)) fun σ H Q ⟨H0,Hf,s,sl,k⟩=>?_
   refine⟨H0,Hf,s,sl,fun v H1 Hf1 g1 ⟨a,vs,e1,e2,e3⟩=>⟨a,ys,by rw[e1],?_,hz,?_⟩⟩
   ·rw[← O3 h2 e3];exact e2
   ·exact k _ _ _ g1 rfl
end
end G
namespace G
open PySem PySem.Spec PyProof.Rows L2
section
variable {prog:Program}{w:World}{A:Around}{E:Value->Shared->Prop}{s:Shared}{t:Bool}
theorem am0(h:Q (s.heap.get? a) s):wpAny M A (loadIfAlive a) Q E s:=fun Γ p _=>by
 show Sem.wp M Γ (.loadIfAlive a .pure) _ _ p s
 rw[Sem.wp_loadIfAlive]
 exact(Sem.wp_pure ..).mpr h
end
noncomputable abbrev ae7(Ts:List Addr) (c:Nat):Obj:={ cls:=.type "list", dict:=none,data:=.seq (Ts.map Value.ref).toArray c,slots:=#[] }
section
variable {X:Cx}{pins:List (Addr×Obj)}{σ:L2.St}{A:Around}{t:Bool}{S e it a:Addr}{ws:List V}
theorem bd1(h:L7 X pins H b) (n:b≠T):L7 X pins (upd H T o) b:=⟨by rw[A7 n];exact h.1,h.2⟩
end
section
variable {X:Cx}
end
end G
namespace G
open PySem PySem.Spec PyProof.Rows L2 PySem.SeqAt PySem.MeetsSeq PySem.MeetsSeq2 PySem.MeetsSeq3 PySem.SeqRoads2
open PySem.AutoSeq1 (wpAny_loadPart')
noncomputable def az5(A:Around) (s:Shared) (y x:Value) (b:Bool):Prop :=
 ∀(prog:Program) (w:World) (E:Value->Shared->Prop) (Q:Value->Shared->Prop),Q (.bool b) s->wpAny (model prog w) A (richCompare .Lt y x) Q E s
noncomputable def Lx(e:Nat->Bool) (P:Nat->Prop) (m:Nat) (fin:Prop):Prop:=(∃j,j < m/\(∀i,i < j->e i=true)/\e j=false/\P j)\/((∀i,i < m->e i=true)/\fin)
theorem at9(l b:Addr) (items items2:Array Value) (n n2:Nat) (dd dd2:Option Addr) (sl sl2:Array (Option Value)) (e:Nat->Bool) (c:Bool) :
  Meets (Builtin.«tuple.__lt__» ⟨[.ref l,.ref b],[]⟩)
   (fun A R s=>s.heap.get? l=some { cls:=.type "tuple", dict:=dd,data:=.seq items n,slots:=sl }/\s.heap.get? b=some { cls:=.type "tuple", dict:=dd2,data:=.seq items2 n2,slots:=sl2 } /\
    (∀j (h1:j < items.size) (h2:j < items2.size),EqAt A.in1 s items[j] items2[j] (e j)) /\
    Lx e (fun j=>∀(h1:j < items.size) (h2:j < items2.size),az5 A.in1 s items[j] items2[j] c) (min items.size items2.size) (c=decide (items.size < items2.size)) /\
    R (.ok (.ret (.bool c))) s) :=
 .of_wp fun prog w A R s h=>by
  obtain⟨hp,g,d,tk,os⟩:=s;obtain⟨hl,hb,he,hx,h⟩:=h
  have f2:=AutoSeq1.sub_tuple_tuple
  have hZ:(items.toList.zip items2.toList).length=min items.size items2.size:=by simp
  wp_walk using wpAny_loadPart' hl,wpAny_loadPart' hb,wpAny_forIn_list _ (fun D7 b s'=>b.1=none/\s'=⟨hp,g,d,tk,os⟩/\∃i,D7=(items.toList.zip items2.toList).drop i/\∀k,k < i->e k=true) _
  case turn =>
   rintro⟨y,x⟩ D7 b s' ⟨hb',rfl,i,hz,hR⟩
   have hlt:i < (items.toList.zip items2.toList).length:=by
    rcases Nat.lt_or_ge i (items.toList.zip items2.toList).length with h'|h'
    ·exact h'
    ·rw[List.drop_of_length_le h']at hz;cases hz
   have hm:i < min items.size items2.size:=hZ ▸ hlt
   have h1:i < items.size:=Nat.lt_of_lt_of_le hm (Nat.min_le_left _ _)
   have h2:i < items2.size:=Nat.lt_of_lt_of_le hm (Nat.min_le_right _ _)
   rw[List.drop_eq_getElem_cons hlt]at hz
   injection hz with hyx hrest
   have hy:y=items[i]:=by have:=congrArg Prod.fst hyx;simpa using this
   have hx':x=items2[i]:=by have:=congrArg Prod.snd hyx;simpa using this
   subst hy hx'
   refine wpAny_bind (he i h1 h2 prog w _ _ ?_)
   cases hy:e i with
   | true =>
    wp_walk
    refine⟨rfl,rfl,i+1,hrest,fun k hk=>?_⟩
    rcases Nat.lt_or_ge k i with q|q
    ·exact hR k q
    ·rw[show k=i by omega];exact hy
   | false =>
    have hc:az5 A.in1 ⟨hp,g,d,tk,os⟩ items[i] items2[i] c:=by
     rcases hx with⟨j,j1,j2,j3,j4⟩|⟨j1,_⟩
     ·have:j=i:=by
       rcases Nat.lt_trichotomy j i with q|q|q
       ·rw[hR j q]at j3;cases j3
       ·exact q
       ·rw[j2 i q]at hy;cases hy
      subst this
      exact j4 h1 h2
     ·rw[j1 i hm]at hy;cases hy
    simp only[Bool.not_false,if_true]
    refine wpAny_bind (wpAny_rule ?_)
    refine wpAny_bind (hc prog w _ _ ?_)
    wp_walk
    exact⟨_,rfl,h⟩
  case fin =>
   rintro⟨b1,b2⟩ s' ⟨hb',rfl,i,hz,hR⟩
   simp only at hb'
   subst hb'
   have hge:min items.size items2.size<=i:=by
    rcases Nat.lt_or_ge i (items.toList.zip items2.toList).length with h'|h'
    ·rw[List.drop_eq_getElem_cons h']at hz;cases hz
    ·exact hZ ▸ h'
   have hc:c=decide (items.size < items2.size):=by
    rcases hx with⟨j,j1,j2,j3,j4⟩|⟨_,q⟩
    ·rw[hR j (by omega)]at j3;cases j3
    ·exact q
   wp_walk
   refine⟨_,rfl,?_⟩
   rw[hc]at h
   simpa [Builtin.Tuple.tupleCompareSizes] using h
  case h =>
   exact⟨rfl,rfl,0,rfl,fun k hk=>absurd hk (Nat.not_lt_zero _)⟩
theorem az5.tuples(hl:s.heap.IsTuple l items) (hb:s.heap.IsTuple b items2) (hu:A.units < cLine)
  (he:∀j (h1:j < items.size) (h2:j < items2.size),EqAt A.in1 s items[j] items2[j] (e j))
  (hx:Lx e (fun j=>∀(h1:j < items.size) (h2:j < items2.size),az5 A.in1 s items[j] items2[j] c) (min items.size items2.size) (c=decide (items.size < items2.size))):az5 A s (.ref l) (.ref b) c:=fun prog w E Q h=>by
 obtain⟨⟨cls,dd,data,sl⟩,ho,hc,n,hd⟩:=id hl
 obtain⟨⟨cls2,dd2,data2,sl2⟩,ho2,hc2,n2,hd2⟩:=id hb
 simp only at hc hd hc2 hd2
 subst hc hd hc2 hd2
 exact richCompare_meets_room (op:=.Lt) ⟨_,ho,rfl⟩ ⟨_,ho2,rfl⟩ F.slot_tuple_lt F.entry_tuple_lt (F.args_tuple_lt_2 _ _) (at9 l b items items2 n n2 dd dd2 sl sl2 e c)
  ⟨ho,ho2,he,hx,show Value.bool c≠Value.notImplemented/\Q (.bool c) s from⟨(fun x=>nomatch x),h⟩⟩ hu
mutual
noncomputable def ltD:D->D->Option Bool
 | .int i,.int j=>some (decide (i < j))
 | .tuple xs,.tuple ys=>ltDs xs ys
 | _,_=>none
noncomputable def ltDs:List D->List D->Option Bool
 | [],[]=>some false
 | [],_::_=>some true
 | _::_,[]=>some false
 | x::xs,y::ys=>if PyData.eqv x y=true then ltDs xs ys else ltD x y
end
theorem aE4:∀{xs ys:List D}{c:Bool},ltDs xs ys=some c->Lx (pairEq xs ys) (fun j=>ltD (xs.getD j .none) (ys.getD j .none)=some c) (min xs.length ys.length) (c=decide (xs.length < ys.length))
 | [],[],c,h=>.inr ⟨fun i hi=>by simp at hi,by rw[ltDs]at h;cases h;rfl⟩
 | [],y::ys,c,h=>.inr ⟨fun i hi=>by simp at hi,by rw[ltDs]at h;cases h;simp⟩
 | x::xs,[],c,h=>.inr ⟨fun i hi=>by simp at hi,by rw[ltDs]at h;cases h;simp⟩
 | x::xs,y::ys,c,h=>by
  rw[ltDs]at h
  split at h
  ·rename_i e
   rcases aE4 h with⟨j,j1,j2,j3,j4⟩|⟨j1,j2⟩
   ·refine .inl ⟨j+1,by simp only[List.length_cons];omega,fun i hi=>?_,j3,j4⟩
    cases i with
    | zero=>exact e
    | succ i=>exact j2 i (by omega)
   ·refine .inr ⟨fun i hi=>?_,by rw[j2];simp⟩
    cases i with
    | zero=>exact e
    | succ i=>exact j1 i (by simp only[List.length_cons]at hi;omega)
  ·rename_i e
   exact .inl ⟨0,by simp only[List.length_cons];omega,fun i hi=>absurd hi (Nat.not_lt_zero _),by simpa [pairEq] using e,h⟩
theorem ReadsAll.len:∀{vs:List Value}{ds:List D}{as:List Addr},ReadsAll h vs ds as->vs.length=ds.length
 | [],_,_,r=>by cases r;rfl
 | v::vs,_,_,r=>by cases r with|cons r1 r2=>rw[List.length_cons,List.length_cons,ReadsAll.len r2]
theorem ReadsAll.at:∀{vs:List Value}{ds:List D}{as:List Addr},ReadsAll h vs ds as->∀(j:Nat) (hj:j < vs.length),∃bs,Reads h vs[j] (ds.getD j .none) bs
 | [],_,_,r,j,hj=>absurd hj (Nat.not_lt_zero _)
 | v::vs,_,_,r,j,hj=>by
  cases r with
  | cons r1 r2 =>
   cases j with
   | zero=>exact⟨_,r1⟩
   | succ j=>exact ReadsAll.at r2 j (by simpa using hj)
theorem af1:∀{xs:List D}{j:Nat},j < xs.length->(xs.getD j .none).depth<=PyData.depthAll xs
 | [],j,h=>absurd h (Nat.not_lt_zero _)
 | x::xs,0,h=>by simp only[List.getD_cons_zero,PyData.depthAll];omega
 | x::xs,j+1,h=>by
  have:=af1 (xs:=xs) (j:=j) (by simpa using h)
  simp only[List.getD_cons_succ,PyData.depthAll];omega
theorem aj7:∀{xs:List D}{j:Nat},PyData.canLayAll0 xs=true->(xs.getD j .none).canLay0=true
 | [],j,h=>by simp[PyData.canLay0]
 | x::xs,0,h=>by simp[PyData.canLayAll0]at h;exact h.1
 | x::xs,j+1,h=>by simp[PyData.canLayAll0]at h;simpa using aj7 (j:=j) h.2
theorem V5:∀(n:Nat) (da db:D) (A:Around) (s:Shared) (a b:Value) (as bs:List Addr) (c:Bool),da.depth<=n->Reads s.heap a da as->Reads s.heap b db bs->da.canLay0=true->db.canLay0=true->A.units+n < cLine->ltD da db=some c->az5 A s a b c
 | n,.int i,.int j,A,s,_,_,_,_,c,hn,ra,rb,_,_,hu,h=>by
  rw[ltD]at h;cases h
  cases ra;cases rb
  exact fun prog w E Q q=>lt_int q
 | 0,.tuple xs,.tuple ys,A,s,_,_,_,_,c,hn,ra,rb,ha,hb,hu,h=>by simp[PyData.depth]at hn
 | n+1,.tuple xs,.tuple ys,A,s,_,_,_,_,c,hn,ra,rb,ha,hb,hu,h=>by
  rw[ltD]at h
  have hd:PyData.depthAll xs<=n:=by simp[PyData.depth]at hn;omega
  cases ra with
  | tuple h1 h2 h3 h4 =>
   cases rb with
   | tuple k1 k2 k3 k4 =>
    rename_i vs m1 a' o' vs' m2
    have n1:=ReadsAll.len h4
    have n2:=ReadsAll.len k4
    have z1:vs.size=xs.length:=by simpa using n1
    have z2:vs'.size=ys.length:=by simpa using n2
    refine az5.tuples (e:=pairEq xs ys) ⟨_,h1,h2,_,h3⟩ ⟨_,k1,k2,_,k3⟩ (by omega) (fun j j1 j2=>?_) ?_
    ·have:=eqAt_readsAll xs ys A.in1 s vs.toList vs'.toList _ _ h4 k4 ha hb (by show A.units+1+_ < _;have:=Nat.min_le_left (PyData.depthAll xs) (PyData.depthAll ys);omega) j (by simpa using j1) (by simpa using j2)
     simpa using this
    ·rcases aE4 h with⟨j,j1,j2,j3,j4⟩|q
     ·refine .inl ⟨j,by rw[z1,z2];exact j1,j2,j3,fun i1 i2=>?_⟩
      obtain⟨as',r1⟩:=ReadsAll.at h4 j (by simpa using i1)
      obtain⟨bs',r2⟩:=ReadsAll.at k4 j (by simpa using i2)
      have:=V5 n (xs.getD j .none) (ys.getD j .none) A.in1 s _ _ _ _ c (Nat.le_trans (af1 (by omega)) hd) r1 r2 (aj7 ha) (aj7 hb) (by show A.units+1+n < _;omega) j4
      simpa using this
     ·exact .inr ⟨fun i hi=>q.1 i (by rw[z1,z2]at hi;exact hi),by rw[q.2,z1,z2]⟩
 | _,.none,_,_,_,_,_,_,_,_,_,_,_,_,_,_,h=>by simp[ltD]at h
 | _,.bool _,_,_,_,_,_,_,_,_,_,_,_,_,_,_,h=>by simp[ltD]at h
 | _,.str _,_,_,_,_,_,_,_,_,_,_,_,_,_,_,h=>by simp[ltD]at h
 | _,.list _,_,_,_,_,_,_,_,_,_,_,_,_,_,_,h=>by simp[ltD]at h
 | _,.dict _,_,_,_,_,_,_,_,_,_,_,_,_,_,_,h=>by simp[ltD]at h
 | _,.int _,.none,_,_,_,_,_,_,_,_,_,_,_,_,_,h=>by simp[ltD]at h
 | _,.int _,.bool _,_,_,_,_,_,_,_,_,_,_,_,_,_,h=>by simp[ltD]at h
 | _,.int _,.str _,_,_,_,_,_,_,_,_,_,_,_,_,_,h=>by simp[ltD]at h
 | _,.int _,.list _,_,_,_,_,_,_,_,_,_,_,_,_,_,h=>by simp[ltD]at h
 | _,.int _,.tuple _,_,_,_,_,_,_,_,_,_,_,_,_,_,h=>by simp[ltD]at h
 | _,.int _,.dict _,_,_,_,_,_,_,_,_,_,_,_,_,_,h=>by simp[ltD]at h
 | _,.tuple _,.none,_,_,_,_,_,_,_,_,_,_,_,_,_,h=>by simp[ltD]at h
 | _,.tuple _,.bool _,_,_,_,_,_,_,_,_,_,_,_,_,_,h=>by simp[ltD]at h
 | _,.tuple _,.int _,_,_,_,_,_,_,_,_,_,_,_,_,_,h=>by simp[ltD]at h
 | _,.tuple _,.str _,_,_,_,_,_,_,_,_,_,_,_,_,_,h=>by simp[ltD]at h
 | _,.tuple _,.list _,_,_,_,_,_,_,_,_,_,_,_,_,_,h=>by simp[ltD]at h
 | _,.tuple _,.dict _,_,_,_,_,_,_,_,_,_,_,_,_,_,h=>by simp[ltD]at h
end G
namespace G
open PySem PySem.Spec PyProof.Rows L2
section
open PySem.SeqAt PySem.MeetsSeq PySem.MeetsSeq2 PySem.MeetsSeq3 PySem.SeqRoads2
open PySem.AutoSeq1 (wpAny_loadPart')
end
section
variable {X:Cx}
end
end G
namespace G
open PySem PySem.Spec PyProof.Rows L2
section
variable {X:Cx}
noncomputable def flV:Value->D
 | .bool b=>.bool b
 | .int i _=>.int i
 | .str x _=>.str x
 | _=>.none
theorem bN9(f:L8 d=true) (r:D2 (toV d) y):flV y=d:=by
 cases d with
 | none=>cases r;rfl
 | bool b=>cases r;rfl
 | int i=>obtain⟨t,rfl⟩:=r;rfl
 | str x=>obtain⟨t,rfl⟩:=r;rfl
 | tuple _=>cases f
 | list _=>cases f
 | dict _=>cases f
theorem aG3:∀{ds:List D}{its:List Value},ds.all L8=true->B3 (ds.map toV) its->its.map flV=ds
 | [],its,_,r=>by cases r;rfl
 | d::ds,its,f,r=>by
  rw[List.all_cons,Bool.and_eq_true]at f
  cases r with
  | cons r1 r2=>rw[List.map_cons,bN9 f.1 r1,aG3 f.2 r2]
theorem aE5(hu:X.A.units+64 < cLine) (sx:SeqAt.shaped x=true) (dx:x.depth<=60) (sd:ds.all SeqAt.shaped=true) (fd:ds.all L8=true) (I:L2.Inv X pins σ H s) (rx:D2 vx v) (ss:B5 Hf H) (r1:Rep X.K Hf x vx) (h2:SqL X.K Hf p vs) (h3:Reps X.K Hf ds vs) :
  ∃its:List Value,PlainL s.heap p its.toArray/\its.map flV=ds/\its.length<=sizeLine/\∀y∈its.toArray,SeqAt.EqAt X.A.in1 s y v (PyData.eqv (flV y) x):=by
 obtain⟨its,rv,pl,hz⟩:=I.list (C9 ss h2)
 have hz':its.length<=sizeLine:=by rw[← rv.length];exact hz
 obtain⟨as,rd⟩:=Rep.reads I (r1.mono ss) rx
 obtain⟨bs,ra⟩:=Reps.reads I (h3.mono ss) rv
 obtain⟨e1,e2⟩:=bE0 ra
 have fm:its.map flV=ds:=by
  obtain⟨e,_⟩:=T0 fd h3
  subst e
  exact aG3 fd rv
 refine⟨its,pl,fm,hz',fun y hy=>?_⟩
 obtain⟨j,hj,rfl⟩:=List.getElem_of_mem (List.mem_toArray.mp hy)
 obtain⟨cs,q⟩:=e2 j hj
 have hd:j < ds.length:=by grind
 have sj:=List.all_eq_true.mp sd _ (List.getElem_mem hd)
 have ej:flV its[j]=ds[j]:=by
  have:(its.map flV)[j]'(by simpa using hj)=ds[j]:=by simp only[fm]
  rwa [List.getElem_map]at this
 have eg:ds.getD j .none=ds[j]:=by simp[hd]
 rw[eg]at q
 rw[ej]
 have:=SeqAt.eqAt_reads ds[j] x X.A.in1 s _ _ _ _ q rd (SeqAt.canLay_of_shaped sj) (SeqAt.canLay_of_shaped sx) (by show X.A.units+1+_ < _;have:=Nat.min_le_right ds[j].depth x.depth;grind)
 simpa using this
noncomputable def bE1(X:Cx) (ds:List D) (x z:D):V->List V->Hp->VK->Prop:=fun vt vs H Q=>∃Hf vx,vs=[vx]/\B5 Hf H/\Rep X.K Hf (.list ds) vt/\Rep X.K Hf x vx/\∀v,Rep X.K Hf z v->Q v H
theorem aM1(hu:X.A.units+64 < cLine) (sx:SeqAt.shaped x=true) (dx:x.depth<=60) (sd:ds.all SeqAt.shaped=true) (fd:ds.all L8=true):MtR X "list.count" (bE1 X ds x (.int (ds.countP fun y=>PyData.eqv y x))):=by
 intro pins s σ H vt vs v us Q I rt rv ⟨Hf,vx,e,ss,r1,r2,q⟩
 subst e
 obtain⟨u,rfl,rx⟩:=K8 rv
 obtain⟨p,ws,rfl,h2,h3⟩:=r1
 obtain rfl:v=Value.ref p:=rt
 obtain⟨its,pl,fm,_,he⟩:=aE5 hu sx dx sd fd I rx ss r2 h2 h3
 obtain⟨⟨cls,dd,data,sl⟩,n,ho,hc,hd0,hd⟩:=pl
 simp only at hc hd hd0
 subst hc hd hd0
 refine call_meets F.slot_list_count ⟨_,ho,rfl⟩ F.entry_list_count (F.args_list_count_2 _ _) (SeqAt.list_countAt p its.toArray n none sl u fun y=>PyData.eqv (flV y) x) ⟨ho,he,.int (ds.countP fun y=>PyData.eqv y x),H,I.tok _,⟨s.toks,?_⟩,q _ rfl⟩
 have:(its.countP fun y=>PyData.eqv (flV y) x)=ds.countP fun y=>PyData.eqv y x:=by
  rw[← fm,List.countP_map];rfl
 rw[← this]
theorem aM0(hu:X.A.units+64 < cLine) {ds:List D}{x:D}{j:Nat}(sx:SeqAt.shaped x=true) (dx:x.depth<=60) (sd:ds.all SeqAt.shaped=true) (fd:ds.all L8=true) (hj:ds.findIdx? (fun y=>PyData.eqv y x)=some j):MtR X "list.index" (bE1 X ds x (.int j)):=by
 intro pins s σ H vt vs v us Q I rt rv ⟨Hf,vx,e,ss,r1,r2,q⟩
 subst e
 obtain⟨u,rfl,rx⟩:=K8 rv
 obtain⟨p,ws,rfl,h2,h3⟩:=r1
 obtain rfl:v=Value.ref p:=rt
 obtain⟨its,pl,fm,hz,he⟩:=aE5 hu sx dx sd fd I rx ss r2 h2 h3
 obtain⟨⟨cls,dd,data,sl⟩,n,ho,hc,hd0,hd⟩:=pl
 simp only at hc hd hd0
 subst hc hd hd0
 obtain⟨h1,h4,h5⟩:=List.findIdx?_eq_some_iff_getElem.mp hj
 have ln:its.length=ds.length:=by rw[← fm,List.length_map]
 have ej:∀(m:Nat) (hm:m < its.length),flV its[m]=ds[m]'(by grind):=fun m hm=>by
  have:(its.map flV)[m]'(by simpa using hm)=ds[m]'(by grind):=by simp only[fm]
  rwa [List.getElem_map]at this
 have hn:=c8
 refine call_meets F.slot_list_index ⟨_,ho,rfl⟩ F.entry_list_index (F.args_list_index_2 _ _) (SeqAt.list_indexAt p its.toArray n none sl u (fun y=>PyData.eqv (flV y) x) j (by rw[List.size_toArray];grind) (by grind) (by simpa [ej j (by grind)] using h4) fun m hm hmj=>?_) ⟨ho,he,.int j,H,I.tok _,⟨_,rfl⟩,q _ rfl⟩
 have hm':m < its.length:=by simpa using hm
 have:=h5 m hmj
 simpa [ej m hm'] using this
theorem bF8{o e:Expr}{to:TE}{t:TA}{name:Str}{apos cpos:Pos}{id:String}{r:V->List V->Hp->VK->Prop}(slot:Slot "list" name id) (hty:typeOf (.builtin id)=pure (.type "method_descriptor")) (hm:MtR X id r) (ho:PE X o to) (ha:PA X [e] t)
  (hbase:attributeBase o name X.env (eval o X.env)=eval o X.env)
  (hfew:((backTo cpos (starEach [e] X.env)).all (fun x=>!x.1)&&(backToKw cpos (keywordEach [] X.env)).all (fun x=>x.1.isSome)&&decide (([e]:List Expr).length+([]:List Keyword).length+(if([]:List Keyword).isEmpty then 0 else 1) < 30))=true)
  (hline:(apos.endLine==cpos.line)=true) (hs:starEach [e] X.env=[(false,eval e X.env)]) :
  PE X (.Call (.Attribute o name apos) [e] [] cpos) (fun σ H Q=>to σ H fun x H1=>(∃p xs,x=.ref p/\SqL X.K H1 p xs)/\t σ H1 fun xs H2=>r x xs H2 Q):=by
 intro pins s σ H Q I h
 refine wpAny_Call_method_late hbase hfew hline rfl (thn (ho pins s σ H _ I h) fun v s1 ⟨x,H1,I1,r1,⟨p,xs,e1,e2⟩,q1⟩=>?_)
 subst e1
 obtain rfl:v=Value.ref p:=r1
 obtain⟨its,_,⟨ob,n,g1,g2,g4,_⟩,_⟩:=I1.list e2
 refine⟨"list", id,F.plainAttrs_list,slot,hty,⟨ob,g1,g2⟩,fun a ea=>?_,?_⟩
 ·cases ea;exact⟨ob,g1,g4⟩
 have hA:=ha cpos pins s1 σ H1 _ I1 q1
 rw[hs]at hA ⊢
 refine Calls.callWith_builtin (by rfl) (Calls.evalArgs_plain ?_)
 exact thn hA fun us s2 ⟨vs,H2,I2,r2,q2⟩=>hm pins s2 σ H2 (.ref p) vs (.ref p) us Q I2 rfl r2 q2
noncomputable def lsB(x:D) (ds:List D):Prop:=SeqAt.shaped x=true/\x.depth<=60/\ds.all SeqAt.shaped=true/\ds.all L8=true
instance (x:D) (ds:List D):Decidable (lsB x ds):=by unfold lsB;exact inferInstance
noncomputable def ax6(f g:DE):DE:=fun ρ=>(f ρ).bind fun t=>(g ρ).bind fun x=>match t with
 | .list ds=>if lsB x ds then some (.int (ds.countP fun y=>PyData.eqv y x)) else none
 | _=>none
noncomputable def ak8(f g:DE):DE:=fun ρ=>(f ρ).bind fun t=>(g ρ).bind fun x=>match t with
 | .list ds=>if lsB x ds then(ds.findIdx? fun y=>PyData.eqv y x).map (fun(j:Nat)=>PyData.int (j:Int)) else none
 | _=>none
theorem aF5{o e:Expr}{f g:DE}{name:Str}{id:String}{apos cpos:Pos}{ρ:Rho}{ds:List D}{x z:D}(slot:Slot "list" name id) (hty:typeOf (.builtin id)=pure (.type "method_descriptor")) (hm:MtR X id (bE1 X ds x z)) (ho:JE X o f) (h:JE X e g) (hz:∀Hf Hf' v,Rep X.K Hf z v->Rep X.K Hf' z v) (e1:f ρ=some (.list ds)) (e2:g ρ=some x) (hbase:attributeBase o name X.env (eval o X.env)=eval o X.env)
  (hfew:((backTo cpos (starEach [e] X.env)).all (fun x=>!x.1)&&(backToKw cpos (keywordEach [] X.env)).all (fun x=>x.1.isSome)&&decide (([e]:List Expr).length+([]:List Keyword).length+(if([]:List Keyword).isEmpty then 0 else 1) < 30))=true)
  (hline:(apos.endLine==cpos.line)=true) (hs:starEach [e] X.env=[(false,eval e X.env)]):PE X (.Call (.Attribute o name apos) [e] [] cpos) (tJ X.K ρ fun _ v _ Hf=>Rep X.K Hf z v):=by
 refine A9 (bF8 slot hty hm (ho ρ _ e1) (C0 (h ρ _ e2) E3 hs) hbase hfew hline hs) fun σ H Q ⟨H0,Hf,s,sl,k⟩=>?_
 refine⟨H0,Hf,s,sl,fun v H1 Hf1 g1 r1=>?_⟩
 have r1':=r1
 obtain⟨p,vs,rfl,h2,h3⟩:=r1
 refine⟨⟨p,vs,rfl,C9 g1.sub h2⟩,H0,Hf1,g1.sub,sl.grow g1,fun w H2 Hf2 g2 r2=>?_⟩
 exact⟨Hf2,w,rfl,g2.sub,r1'.mono g2.ext,r2,fun v rv=>k _ H2 Hf2 (g1.trans g2) rv⟩
theorem ba8(hu:X.A.units+64 < cLine) (ho:JE X o f) (h:JE X e g) (hbase:attributeBase o "count" X.env (eval o X.env)=eval o X.env)
  (hfew:((backTo cpos (starEach [e] X.env)).all (fun x=>!x.1)&&(backToKw cpos (keywordEach [] X.env)).all (fun x=>x.1.isSome)&&decide (([e]:List Expr).length+([]:List Keyword).length+(if([]:List Keyword).isEmpty then 0 else 1) < 30))=true)
  (hline:(apos.endLine==cpos.line)=true) (hs:starEach [e] X.env=[(false,eval e X.env)]):JE X (.Call (.Attribute o "count" apos) [e] [] cpos) (ax6 f g):=fun ρ d q=>by
 obtain⟨t,e1,q⟩:=xbm q
 obtain⟨x,e2,q⟩:=xbm q
 cases t with
 | list ds =>
  simp only at q
  split at q
  ·rename_i c
   cases q
   exact aF5 F.slot_list_count F.type_list_count (aM1 hu c.1 c.2.1 c.2.2.1 c.2.2.2) ho h (fun _ _ _ r=>r) e1 e2 hbase hfew hline hs
  ·cases q
 | _=>cases q
theorem aM9{o e:Expr}{f g:DE}{apos cpos:Pos}(hu:X.A.units+64 < cLine) (ho:JE X o f) (h:JE X e g) (hbase:attributeBase o "index" X.env (eval o X.env)=eval o X.env)
  (hfew:((backTo cpos (starEach [e] X.env)).all (fun x=>!x.1)&&(backToKw cpos (keywordEach [] X.env)).all (fun x=>x.1.isSome)&&decide (([e]:List Expr).length+([]:List Keyword).length+(if([]:List Keyword).isEmpty then 0 else 1) < 30))=true)
  (hline:(apos.endLine==cpos.line)=true) (hs:starEach [e] X.env=[(false,eval e X.env)]):JE X (.Call (.Attribute o "index" apos) [e] [] cpos) (ak8 f g):=fun ρ d q=>by
 obtain⟨t,e1,q⟩:=xbm q
 obtain⟨x,e2,q⟩:=xbm q
 cases t with
 | list ds =>
  simp only at q
  split at q
  ·rename_i c
   obtain⟨j,hj,rfl⟩:=Option.map_eq_some_iff.mp q
   exact aF5 F.slot_list_index F.type_list_index (aM0 hu c.1 c.2.1 c.2.2.1 c.2.2.2 hj) ho h (fun _ _ _ r=>r) e1 e2 hbase hfew hline hs
  ·cases q
 | _=>cases q
end
end G
namespace L2
open PySem PySem.Spec PyProof.Rows
section
variable {κ:Type} [DecidableEq κ]
end
section
variable {P:Program}{w:World}{H:Hp}{h:Heap}{a:Addr}
end
section
variable {X:Cx}{pins:List (Addr×Obj)}{σ:St}{H:Hp}{s:Shared}{a:Addr}{y v:V}{u r:Value}{o:Option V}{A:Around}{E:Value->Shared->Prop}
theorem Inv.big(I:Inv X pins σ H s):sysModules < s.heap.objs.size:=by
 have h:mainGlobals < s.heap.objs.size:=(I.mod.glob.keeps I.bk).lt
 exact Nat.lt_trans (by decide) h
theorem bu2{h':Heap}{t':Nat}{ob:HO}(I:Inv X pins σ H s) (mu:Mut (H a)) (hs:Heap.SameBut a s.heap h') (he:∃q,h'.get? a=some q) (new:E6 X.prog X.w (upd H a ob) h' a ob) :
  Inv X pins σ (upd H a ob) { s with heap:=h',toks:=t' } :=
 I.write (x:=a) (e:=a) mu (.inl rfl) (fun b q hb z=>(hs.2 b hb).trans z) he new
end
section
variable {X:Cx}{pins:List (Addr×Obj)}{σ:St}{H:Hp}{s:Shared}{a:Addr}{kvs:List (Key×V)}{k:Key}{u:Value}{A:Around}{E:Value->Shared->Prop}
end
section
variable {X:Cx}{o i e value:Expr}{pos pos' tpos:Pos}{td ty tv:TE}
end
section
variable {X:Cx}{pos:Pos}
end
structure M2 (X:Cx) (o:Expr) (m:Str) (apos:Pos) (e f:Expr) (cpos:Pos):Prop where
 base:attributeBase o m X.env (eval o X.env)=eval o X.env
 few:((backTo cpos (starEach [e,f] X.env)).all (fun x=>!x.1)&&(backToKw cpos (keywordEach [] X.env)).all (fun x=>x.1.isSome)
  && decide (([e,f]:List Expr).length+([]:List Keyword).length+(if([]:List Keyword).isEmpty then 0 else 1) < 30))=true
 line:(apos.endLine==cpos.line)=true
 trees:backTo cpos (starEach [e,f] X.env)=[(false,eval e X.env),(false,eval f X.env)]
section
variable {X:Cx}{pins:List (Addr×Obj)}{σ:St}{H:Hp}{s:Shared}{a:Addr}{y d:V}{u r:Value}{o:Option V}{A:Around}{E:Value->Shared->Prop}
end
section
variable {X:Cx}{o e f:Expr}{apos cpos:Pos}{td ty tx:TE}
end
section
variable {X:Cx}{pins:List (Addr×Obj)}{σ:St}{H:Hp}{s:Shared}{a:Addr}{kvs:List (Key×V)}{A:Around}{E:Value->Shared->Prop}
end
section
variable {X:Cx}{pins:List (Addr×Obj)}{σ:St}{H:Hp}{s:Shared}{a:Addr}{y:V}{u:Value}{A:Around}{E:Value->Shared->Prop}
end
end L2
namespace G
open PySem PySem.Spec PyProof.Rows L2
section
variable {prog:Program}{w:World}{A:Around}{E:Value->Shared->Prop}{s:Shared}
variable {R:Result->Shared->Prop}{J S:Addr}{fp wr:List Addr}{Gn:Array GenState->Array GenState->Prop}{P:Nat->Value->Prop}{St:Nat->Shared->Prop}{ps:List (Str×Value)}
end
section
variable {K:PySem.W.Frag}{H:Hp}
end
section
variable {X:Cx}
end
end G
namespace G
open PySem PySem.Spec PyProof.Rows L2
section
variable {X:Cx}
end
end G
namespace G
open PySem PySem.Spec PyProof.Rows L2
section
variable {M:Model}{A:Around}{E:Value->Shared->Prop}{s:Shared}
noncomputable def aq1(y:Str×NameKind):Bool:=y.2 == .cell
noncomputable abbrev dcO:Obj:={ cls:=.type "dict", data:=.dict #[] }
noncomputable abbrev clO:Obj:={ cls:=.type "cell", data:=.cell none }
theorem bd8{scope:Scope}{globals:Addr}{closure:List (Str×Addr)}{qual:Str}{func:Option Addr}{code:Value}{outer:Env}{Q:Env->Shared->Prop}{x:Str}(hs:scope.names.filter aq1=[(x,.cell)])
  (hQ:Q { scope,locals:=s.heap.objs.size,globals,cells:=(x,s.heap.objs.size+1)::closure,qual,func,code:=outer.code,frame:=outer.frame,builtins:=outer.builtins } { s with heap:=(s.heap.push dcO).push clO }) :
  wpAny M A (newFunctionEnv scope globals closure [] qual func code (some outer)) Q E s:=by
 simp only[newFunctionEnv,Option.isSome_some,if_true]
 refine wpAny_bind (wpAny_alloc ?_)
 refine wpAny_bind (wpAny_forIn_list _ (fun D7 cells s'=>(D7.filter aq1=[(x,NameKind.cell)]/\cells=closure/\s'={ s with heap:=s.heap.push dcO })\/(D7.filter aq1=[]/\cells=(x,s.heap.objs.size+1)::closure/\s'={ s with heap:=(s.heap.push dcO).push clO })) _ ?_ ?_ _ _ (.inl ⟨hs,rfl,rfl⟩))
 ·rintro⟨n,k⟩ D7 cells s' h
  by_cases hk:(k==NameKind.cell)=true
  ·have ic:aq1 (n,k)=true:=hk
   simp only[hk,if_true]
   rcases h with⟨h1,rfl,rfl⟩|⟨h1,_⟩
   ·rw[List.filter_cons_of_pos ic,List.cons.injEq]at h1
    obtain⟨h1,h2⟩:=h1
    cases h1
    refine wpAny_bind (wpAny_alloc (wpAny_pure (.inr ⟨h2,?_,rfl⟩)))
    show(x,(s.heap.push dcO).objs.size)::cells=_
    rw[Heap.size_push]
   ·rw[List.filter_cons_of_pos ic]at h1;cases h1
  ·have ic:¬aq1 (n,k)=true:=hk
   simp only[hk,if_false]
   rw[List.filter_cons_of_neg ic]at h
   exact wpAny_pure h
 ·rintro cells s' (⟨h1,_⟩|⟨_,rfl,rfl⟩)
  ·cases h1
  ·rw[List.forIn_nil]
   exact wpAny_bind (wpAny_pure (wpAny_pure hQ))
end
noncomputable def cpX(X:Cx) (N':List Str) (scope:Scope) (x:Str) (C:Addr) (s₀:Shared) (H₀:Hp) (ex:List Addr):Cx where
 prog:=X.prog
 w:=X.w
 K:=X.K
 mg:=X.mg
 base:=X.base
 A:=X.A
 N:=N'
 s₀:=s₀
 H₀:=H₀
 env:=compEnvC scope ((x,C+1)::F2 X.env.cells scope.names []) C X.env
 outer:=X.stack
 stack:=X.stack
 ex:=ex
 fn:=fun y=>y==x
 calm:=X.calm
 pn:=[]
 xe:=fun _ _=>False
structure CompScC (X:Cx) (N':List Str) (n:Nat) (caps:List Nat) (scope:Scope) (x:Str):Prop where
 kind:scope.kind=.function
 one:scope.names.filter aq1=[(x,.cell)]
 lk:scope.names.lookup x=some .cell
 loc:∀y∈scope.names,y.2=.local->scope.names.lookup y.1=some .local
 free:∀y∈scope.names,y.2=.free->X.env.scope.names.lookup y.1=some .cell\/X.env.scope.names.lookup y.1=some .free
 len:N'.length=n+caps.length
 cap:∀(i j:Nat),caps[i]? = some j->∃x,X.N[j]? = some x/\N'[n+i]? = some x/\scope.names.lookup x=some .free
section
variable {X:Cx}{N':List Str}{n:Nat}{caps:List Nat}{scope:Scope}{x:Str}
theorem CompScC.cl_of(S:CompScC X N' n caps scope x) (ok:X.Ok) (h:((x,C)::F2 X.env.cells scope.names []).lookup y=some c):(y=x/\c=C)\/(y≠x/\X.env.cells.lookup y=some c):=by
 rw[List.lookup_cons]at h
 cases e:y==x with
 | true =>
  rw[e]at h
  cases h
  exact .inl ⟨by simpa using e,rfl⟩
 | false =>
  rw[e]at h
  have hm:=PySem.mem_of_lookup h
  rcases S6 hm with q|⟨q1,q2⟩
  ·cases q
  ·obtain⟨c',hc'⟩:=ok.has y (S.free _ q1 rfl)
   rw[hc']at q2
   exact .inr ⟨by simpa using e,by rw[hc',q2];rfl⟩
theorem CompScC.cl_has(S:CompScC X N' n caps scope x) (h:(y,NameKind.free)∈scope.names) (ne:y≠x):∃c,((x,C)::F2 X.env.cells scope.names []).lookup y=some c:=by
 obtain⟨c,hc⟩:=M8 (cells:=X.env.cells) (cs:=[]) (.inl h)
 obtain⟨d,hd⟩:=M6 hc
 exact⟨d,by rw[List.lookup_cons,show(y==x)=false by simpa using ne];exact hd⟩
theorem be9(S:CompScC X N' n caps scope x) (I:Inv X pins σ H s) (hf:∀b∈fp,L7 X pins H b) (hlt:∀b∈fp,b < s.heap.objs.size)
  (hns:h1.Ns s.heap.objs.size m) (hcl:h1.IsCell (s.heap.objs.size+1) none) (hk:∀b o,s.heap.get? b=some o->h1.get? b=some o) :
  Inv (cpX X N' scope x s.heap.objs.size s H fp) [] (U4 n caps σ) H { s with heap:=h1,toks:=tk }:=by
 have kind_free:∀y,((relabel scope X.env).names.lookup y=some .cell\/(relabel scope X.env).names.lookup y=some .free)->y=x\/(y,NameKind.free)∈scope.names:=fun y h=>by
  have one:(y,NameKind.cell)∈scope.names->y=x:=fun q=>by
   have:(y,NameKind.cell)∈scope.names.filter aq1:=List.mem_filter.mpr ⟨q,rfl⟩
   rw[S.one]at this
   cases List.mem_singleton.mp this;rfl
  rcases h with h|h
  ·obtain⟨k0,e1,e2⟩:=M0 h
   rcases e2 with e2|e2
   ·subst e2;exact .inl (one (D4 e1))
   ·subst e2;exact .inr (D4 e1)
  ·obtain⟨k0,e1,e2⟩:=M0 h
   rcases e2 with e2|e2
   ·subst e2;exact .inr (D4 e1)
   ·subst e2;exact .inr (D4 e1)
 have cell_lt:∀x c,X.env.cells.lookup x=some c->c < s.heap.objs.size:=fun x c e=>by
  obtain⟨v,q⟩:=I.cell x c e
  exact q.lt
 have ok:(cpX X N' scope x s.heap.objs.size s H fp).Ok:=by
  refine⟨I.ok.mod,S.kind,I.ok.glob,I.ok.blt,Nat.le_refl _,fun y z c e1 e2=>?inj,fun y hy=>?has,fun y c e1 e2=>?cab,I.ok.hd,I.ok.frames,.inl rfl,fun b hb=>⟨Nat.ne_of_lt (hlt b hb),fun y c e=>?exf⟩,
   I.bs,Nat.le_trans I.ok.bsz I.sz,fun b o e hb=>?_,fun b hb hb2=>?_,I.stack,I.stkFree⟩
  case inj =>
   rcases S.cl_of I.ok e1 with⟨p1,p2⟩|⟨p1,p2⟩<;>rcases S.cl_of I.ok e2 with⟨q1,q2⟩|⟨q1,q2⟩
   ·rw[p1,q1]
   ·have:=cell_lt _ _ q2;rw[p2]at this;exact absurd this (Nat.not_lt_of_ge (Nat.le_succ _))
   ·have:=cell_lt _ _ p2;rw[q2]at this;exact absurd this (Nat.not_lt_of_ge (Nat.le_succ _))
   ·exact I.ok.inj y z c p2 q2
  case has =>
   by_cases e:y=x
   ·subst e
    exact⟨s.heap.objs.size+1,by show((y,s.heap.objs.size+1)::_).lookup y=_;rw[List.lookup_cons,beq_self_eq_true]⟩
   ·exact S.cl_has ((kind_free y hy).resolve_left e) e
  case cab =>
   have e1:(y==x)=true:=e1
   rcases S.cl_of I.ok e2 with⟨p1,p2⟩|⟨p1,p2⟩
   ·rw[p2];exact Nat.le_succ _
   ·exact absurd (by simpa using e1) p1
  case exf =>
   rcases S.cl_of I.ok e with⟨p1,p2⟩|⟨p1,p2⟩
   ·rw[p2];exact Nat.ne_of_gt (Nat.lt_succ_of_lt (hlt b hb))
   ·exact(hf b hb).2.2.2.2.1 y c p2
  ·rcases(hf b hb).2.2.2.1 with z|z
   ·exact I.ok.noex b o e z
   ·exact absurd (Nat.lt_of_lt_of_le (Heap.lt_size e) (Nat.le_trans I.ok.bsz z)) (Nat.lt_irrefl _)
  ·rcases List.mem_cons.mp (I.stkSub b hb2) with z|z
   ·exact(hf b hb).2.1 z
   ·exact(hf b hb).2.2.1 z
 refine⟨ok,rfl,I.bare,Un.kept hk,⟨m,hns,fun i x' v e1 e2 e3=>?_⟩,fun y c e=>?_,I.hok.fresh (Nat.le_refl _),fun y c e=>?frc,fun p hp=>absurd (show p∈([]:List (Addr×Obj)) from hp) (by simp),I.hok.kept hk,?_⟩
 ·have hi:n<=i:=by
   rcases Nat.lt_or_ge i n with h|h
   ·unfold U4 at e2
    rw[List.getElem?_append_left (by simpa using h),List.getElem?_replicate,if_pos h]at e2
    cases e2
   ·exact h
  unfold U4 at e2
  rw[List.getElem?_append_right (by simpa using hi),List.getElem?_map]at e2
  simp only[List.length_replicate]at e2
  cases hj:caps[i - n]? with
  | none=>rw[hj]at e2;cases e2
  | some j =>
   rw[hj]at e2
   have e2':(σ[j]?).join=some v:=by simpa using e2
   have e2'':σ[j]? = some (some v):=by
    cases q:σ[j]? with
    | none=>rw[q]at e2';cases e2'
    | some o=>rw[q]at e2';simp at e2';rw[e2']
   obtain⟨y,q1,q2,q3⟩:=S.cap _ _ hj
   have:y=x':=by
    have e1':N'[i]? = some x':=e1
    rw[show n+(i - n)=i by grind,e1']at q2
    cases q2;rfl
   subst this
   obtain⟨m0,hn0,hl0⟩:=I.loc
   have hv:Vis X.env.scope y:=by
    rcases S.free _ (D4 q3) rfl with z|z
    ·exact .inr (.inl z)
    ·exact .inr (.inr z)
   obtain⟨u,ru,lk⟩:=hl0 j y v q1 e2'' hv
   refine⟨u,ru,.inr ⟨W9 q3,?_⟩⟩
   rcases lk with⟨lk,_⟩|⟨_,c,hc,hcell⟩
   ·rcases S.free _ (D4 q3) rfl with z|z
    ·have:X.env.scope.names.lookup y=some .local:=lk
     rw[z]at this;cases this
    ·have:X.env.scope.names.lookup y=some .local:=lk
     rw[z]at this;cases this
   ·have ny:y≠x:=by rintro rfl;rw[S.lk]at q3;cases q3
    obtain⟨c',hc'⟩:=S.cl_has (C:=s.heap.objs.size+1) (D4 q3) ny
    have:=((S.cl_of I.ok hc').resolve_left fun z=>ny z.1).2
    rw[hc]at this;cases this
    obtain⟨o,ho,hd⟩:=hcell
    exact⟨c,hc',o,hk c o ho,hd⟩
 ·rcases S.cl_of I.ok e with⟨p1,p2⟩|⟨p1,p2⟩
  ·rw[p2];exact⟨none,hcl⟩
  ·obtain⟨v,o,ho,hd⟩:=I.cell y c p2
   exact⟨v,o,hk c o ho,hd⟩
 case frc =>
  rcases S.cl_of I.ok e with⟨p1,p2⟩|⟨p1,p2⟩
  ·rw[p2];exact I.hok.fresh (Nat.le_succ _)
  ·exact I.freeC y c p2
 ·show(U4 n caps σ).length=N'.length
  unfold U4
  rw[S.len];simp
theorem bu9(I:Inv X pins σ H s) (hf:∀b∈fp,L7 X pins H b)
  (I':Inv (cpX X N' scope x s.heap.objs.size s H fp) [] σ' H' s') (sb:Heap.SameBut s.heap.objs.size s'.heap h'):Inv X pins σ H' { s' with heap:=h' }:=by
 have ne:∀b o,s.heap.get? b=some o->b≠s.heap.objs.size:=fun b o e=>Nat.ne_of_lt (Heap.lt_size e)
 refine I.call' (s':={ s' with heap:=h' }) (ch:=fp) I'.os ?_ ?_ I'.bare fun b hb=>⟨(hf b hb).2.2.2.1,(hf b hb).2.1,(hf b hb).2.2.2.2.1,(hf b hb).2.2.2.2.2⟩
 ·refine⟨fun b o e n hb hx=>sb.extBut b o (ne b o e) (I'.base.keep b o e n hb hx),fun b o e n hb hx=>?_,I'.base.free,fun b o e hx=>?_,I'.base.tups,I'.base.frzs,I'.base.tbls⟩
  ·obtain⟨sl,q⟩:=I'.base.slot b o e n hb hx
   exact⟨sl,sb.extBut b _ (ne b o e) q⟩
  ·obtain⟨o',q⟩:=I'.base.there b o e hx
   exact⟨o',sb.extBut b _ (ne b o e) q⟩
 ·intro b u e
  have nC:∀c v,H' c=some v->c≠s.heap.objs.size:=fun c v q z=>by
   have:=I'.free
   have z':H' c=none:=by rw[z];exact this
   rw[z']at q;cases q
  refine(I'.hok b u e).stay (fun c v hc q=>sb.extBut c v ?_ q) (fun _ q=>q) fun _ _ q=>q
  rcases hc with z|z
  ·rw[z];exact nC b u e
  ·exact nC c _ z
theorem bO5{elt tgt iter:Expr}{ifs:List Expr}{pos:Pos}{wi:TI}{g:TG}{tc:TT}{te:TE}{RR:Value->Addr->Result->Shared->Prop}{E:Value->Shared->Prop}(S:CompScC X N' n caps scope zc) (hx:∀e s,X.xe e s->False) (hc:X.calm=true)
  (hi:PI X tgt iter wi) (hg:∀C s0 H0 ex,PG (cpX X N' scope zc C s0 H0 ex) tgt g) (ht:∀C s0 H0 ex,PTs (cpX X N' scope zc C s0 H0 ex) ifs tc) (he:∀C s0 H0 ex,PE (cpX X N' scope zc C s0 H0 ex) elt te)
  {pins:List (Addr×Obj)}{s:Shared}{σ:L2.St}{H:Hp}{Q:VK}(I:Inv X pins σ H s) (h:aA3 n caps wi g tc te σ H Q)
  (hRR:∀D C r s',r=.ok .next->(∃m,s'.heap.Ns C m/\∀h',Heap.SameBut C s'.heap h'->∃H',Inv X pins σ H' { s' with heap:=h' }/\Q (.ref D) H') ->
   (∃s2 fp σ' H2 H',s2.heap.objs.size=C/\Inv X pins σ H2 s2/\(∀b∈fp,L7 X pins H2 b)/\Inv (cpX X N' scope zc s2.heap.objs.size s2 H2 fp) [] σ' H' s'/\Q (.ref D) H')->RR (.ref D) C r s') :
  wpAny (model X.prog X.w) X.A (eval iter X.env) (fun x s₁=>wpAny (model X.prog X.w) X.A (pyIter x) (fun it s₂=>wpAny (model X.prog X.w) X.A (newList []) (fun acc s₃ =>
   wpAny (model X.prog X.w) X.A (newFunctionEnv scope X.env.globals (F2 X.env.cells scope.names []) [] X.env.qual none .none (some X.env)) (fun cenv s₄ =>
    codeAny (model X.prog X.w) X.A (.compStart (.ListComp elt [⟨tgt,iter,ifs,0⟩] scope pos) 0 it acc { cenv with scope:=relabel scope X.env }) (RR acc cenv.locals) s₄) E s₃) E s₂) E s₁) E s:=by
 refine wpAny_mono (hi pins s σ H _ I h) (fun v s1 h1=>wpAny_mono h1 (fun itv s2 h2=>?_) fun _ _ z=>(hx _ _ z).elim) fun _ _ z=>(hx _ _ z).elim
 obtain⟨it,fp,tn,J,H2,e,I2,T,st2,f2,R⟩:=h2
 subst e
 refine wpAny_newObj_type (bd8 S.one ?_)
 dsimp only
 obtain⟨W,⟨m0,w0⟩,turn⟩:=R s2.heap.objs.size (I2.hok.fresh (Nat.le_refl _))
 have lt2:∀b∈fp,b < s2.heap.objs.size:=fun b hb=>by
  obtain⟨o,ho,_⟩:=T.obj _ _ st2 b hb
  exact Heap.lt_size ho
 have I3:Inv X pins σ (upd H2 s2.heap.objs.size (.lst [])) { s2 with heap:=s2.heap.push { cls:=.type "list", dict:=none,data:=.seq ([]:List Value).toArray } } :=
  I2.laid (t':=s2.toks) (fun b u e=>Heap.get?_push_of_some _ e) (Nat.le_refl _) ⟨Nat.zero_le _,[],0,.nil,Heap.get?_push_size _ rfl⟩
 generalize hs3:({ s2 with heap:=s2.heap.push { cls:=.type "list", dict:=none,data:=.seq ([]:List Value).toArray } }:Shared)=s3 at I3
 have es3:s3.heap=s2.heap.push { cls:=.type "list", dict:=none,data:=.seq ([]:List Value).toArray }:=by rw[← hs3]
 rw[← es3]
 have hns₁:((s3.heap.push dcO).push clO).Ns s3.heap.objs.size (fun _=>none):=(Heap.Ns.new s3.heap (.type "dict")).keeps fun b o e=>Heap.get?_push_of_some _ e
 have hcl₁:((s3.heap.push dcO).push clO).IsCell (s3.heap.objs.size+1) none:=⟨_,by rw[← Heap.size_push s3.heap dcO];exact Heap.get?_push_size _ rfl,rfl⟩
 have keep3:∀b o,s3.heap.get? b=some o->((s3.heap.push dcO).push clO).get? b=some o:=fun b o e=>Heap.get?_push_of_some _ (Heap.get?_push_of_some _ e)
 generalize (s3.heap.push dcO).push clO=h₁ at hns₁ hcl₁ keep3
 have lt3:∀b∈fp,b < s3.heap.objs.size:=fun b hb=>by rw[es3,Heap.size_push];exact Nat.lt_succ_of_lt (lt2 b hb)
 have f3:∀b∈fp,L7 X pins (upd H2 s2.heap.objs.size (.lst [])) b:=fun b hb=>⟨by rw[A7 (Nat.ne_of_lt (lt2 b hb))];exact(f2 b hb).1,(f2 b hb).2⟩
 generalize hH3:upd H2 s2.heap.objs.size (HO.lst [])=H3 at I3 f3 w0
 have fin3:∀{σ':L2.St}{H':Hp}{pl:List (Addr×Obj)},(∀b∈fp,H' b=none)->(∀p∈pl,False)->∀b∈fp,L7 (cpX X N' scope zc s3.heap.objs.size s3 H3 fp) pl H' b:=fun{σ' H' pl} hn hp b hb=>by
  refine⟨hn b hb,Nat.ne_of_lt (lt3 b hb),fun z=>?_,.inl hb,fun x c e=>?_,fun p hp'=>?_⟩
  ·rcases List.mem_cons.mp (I3.stkSub b z) with z|z
   ·exact(f3 b hb).2.1 z
   ·exact(f3 b hb).2.2.1 z
  ·rcases S.cl_of I3.ok e with⟨p1,p2⟩|⟨p1,p2⟩
   ·rw[p2];exact Nat.ne_of_gt (Nat.lt_succ_of_lt (lt3 b hb))
   ·exact(f3 b hb).2.2.2.2.1 x c p2
  ·exact(hp p (by simpa [cpX] using hp')).elim
 have toks:∃tk,({ s2 with heap:=h₁,toks:=s2.toks+([]:List (Str×Value)).length }:Shared)={ s3 with heap:=h₁,toks:=tk }:=⟨s2.toks,by rw[← hs3];rfl⟩
 obtain⟨tk,htk⟩:=toks
 have st4:tn 0 h₁:=T.keep 0 s2.heap h₁ st2 fun b hb o e=>keep3 b o (by rw[es3];exact Heap.get?_push_of_some _ e)
 have I4:Inv (cpX X N' scope zc s3.heap.objs.size s3 H3 fp) [] (U4 n caps σ) H3 { s3 with heap:=h₁,toks:=tk }:=be9 S I3 f3 lt3 hns₁ hcl₁ keep3
 have loop:codeAny (model X.prog X.w) X.A (.compLoop (.ListComp elt [⟨tgt,iter,ifs,0⟩] scope pos) 0 (.ref it) (.ref s2.heap.objs.size) (compEnvC scope ((zc,s3.heap.objs.size+1)::F2 X.env.cells scope.names []) s3.heap.objs.size X.env)) (RR (.ref s2.heap.objs.size) s3.heap.objs.size) { s3 with heap:=h₁,toks:=tk }:=by
  refine af2 (fun k s'=>∃i ys σ' H',Inv (cpX X N' scope zc s3.heap.objs.size s3 H3 fp) [] σ' H' s'/\tn i s'.heap/\(∀b∈fp,H' b=none)/\W i k ys σ' H') ?_ m0 ⟨0,[],_,H3,I4,st4,fun b hb=>(f3 b hb).1,w0⟩
  rintro k s5 ⟨i,ys,σ5,H5,I5,st5,fr5,w5⟩
  have pz:∀p∈([]:List (Addr×Obj)),False:=fun p hp=>by cases hp
  rcases turn i k ys σ5 H5 w5 with⟨stop,qn⟩|⟨go,step⟩
  ·refine wpAny_mono (T.done (cpX X N' scope zc s3.heap.objs.size s3 H3 fp) rfl rfl rfl hc i [] s5 σ5 H5 (fun _ _=>False) I5 (fin3 (σ':=σ5) fr5 pz) st5 stop) (fun r s6 ⟨hr,I6⟩=>?_) fun _ _ z=>z
   subst hr
   obtain⟨m6,hn6,_⟩:=I6.loc
   refine hRR _ _ _ s6 rfl ⟨m6,hn6,fun h' sb=>⟨H5,bu9 I3 f3 I6 sb,qn⟩⟩ ⟨s3,fp,σ5,H3,H5,rfl,I3,f3,I6,qn⟩
  ·refine wpAny_mono (T.item (cpX X N' scope zc s3.heap.objs.size s3 H3 fp) rfl rfl rfl hc i [] s5 σ5 H5 (fun _ _=>False) I5 (fin3 (σ':=σ5) fr5 pz) st5 go) (fun r s6 ⟨u,hr,h6⟩=>?_) fun _ _ z=>z
   subst hr
   refine wpAny_mono h6 (fun _ s7 ⟨x,H7,I7,r7,y7,st7,fr7⟩=>?_) fun _ _ z=>z
   have I7':=I7.pinned (fin3 (σ':=σ5) fr7 pz) (T.obj _ _ st7)
   refine wpAny_mono (hg _ _ _ _ _ s7 σ5 H7 x u _ I7' r7 (step x H7 y7)) (fun _ s8 ⟨σ8,H8,I8,q8⟩=>?_) fun _ _ z=>z
   refine wpAny_mono (ht _ _ _ _ _ s8 σ8 H8 _ I8 q8) (fun ok s9 ⟨H9,I9,q9⟩=>?_) fun _ _ z=>z
   have again:∀{σ':L2.St}{H':Hp}{s':Shared},Inv (cpX X N' scope zc s3.heap.objs.size s3 H3 fp) ([]++c6 fp s7.heap) σ' H' s'->Inv (cpX X N' scope zc s3.heap.objs.size s3 H3 fp) [] σ' H' s'/\tn (i+1) s'.heap/\∀b∈fp,H' b=none:=fun{σ' H' s'} I'=>by
    refine⟨I'.unpinned,T.keep _ _ _ st7 fun b hb o e=>(I'.pin (b,o) (List.mem_append_right _ (List.mem_append_right _ (K4 hb e)))).1,fun b hb=>?_⟩
    obtain⟨o,e,d⟩:=T.obj _ _ st7 b hb
    exact(I'.pin (b,o) (List.mem_append_right _ (List.mem_append_right _ (K4 hb e)))).2.1
   cases ok with
   | false =>
    rw[if_neg Bool.false_ne_true]at q9 ⊢
    obtain⟨m',hm,w'⟩:=q9
    obtain⟨a1,a2,a3⟩:=again I9
    exact⟨m',hm,i+1,ys,σ8,H9,a1,a2,a3,w'⟩
   | true =>
    rw[if_pos rfl]at q9 ⊢
    refine wpAny_mono (he _ _ _ _ _ s9 σ8 H9 _ I9 q9) (fun y s10 ⟨vy,H10,I10,r10,q10,z10,m',hm,w'⟩=>?_) fun _ _ z=>z
    refine wpAny_mono (c7 (X:=cpX X N' scope zc s3.heap.objs.size s3 H3 fp) _ s10 σ8 H10 (.ref s2.heap.objs.size) [vy] _ _ (fun v H'=>v=.non/\H'=upd H10 s2.heap.objs.size (.lst (ys++[vy]))) I10 rfl (.cons r10 .nil) ⟨_,ys,vy,rfl,rfl,q10,z10,rfl,rfl⟩) (fun _ s11 ⟨v11,H11,I11,r11,e11,e12⟩=>?_) fun _ _ z=>z
    subst e12
    obtain⟨a1,a2,a3⟩:=again I11
    exact⟨m',hm,i+1,ys++[vy],σ8,_,a1,a2,a3,w'⟩
 show codeAny (model X.prog X.w) X.A _ _ ({ s2 with heap:=h₁,toks:=s2.toks+([]:List (Str×Value)).length }:Shared)
 rw[htk]
 exact codeAny_compStart_list loop (T.self _ _ _ _ _ st4 loop)
end
end G
namespace G
open PySem PySem.Spec PyProof.Rows L2
theorem ah9:scope.names.lookup x=some .cell->(relabel scope env).names.lookup x=some .cell:=by
 unfold relabel
 simp only
 generalize scope.names=names
 induction names with
 | nil=>intro h;simp at h
 | cons p r ih =>
  obtain⟨n,k1⟩:=p
  intro h
  rw[List.lookup_cons]at h
  rw[List.map_cons]
  cases e:x==n with
  | true =>
   rw[e]at h
   cases h
   simp[List.lookup_cons,e]
  | false =>
   rw[e]at h
   by_cases hc:(k1==NameKind.free&&env.scope.kind == .function&&env.kindOf n==some .cell)=true
   ·simp only[hc,if_true,List.lookup_cons,e];exact ih h
   ·simp only[hc,Bool.false_eq_true,if_false,List.lookup_cons,e];exact ih h
noncomputable def ab3(N N':List Str) (caps:List Nat) (sc scope:Scope) (x:Str):Bool :=
 (match scope.kind with | .function=>true|_=>false)&&(scope.names.filter aq1 == [(x,.cell)])&&(scope.names.lookup x==some .cell) &&
 (scope.names.all fun y=>(match y.2 with | .local=>scope.names.lookup y.1==some .local | .free=>sc.names.lookup y.1==some .cell || sc.names.lookup y.1==some .free|_=>true)) &&
 (N'.length==1+caps.length)&&(N'[0]? == some x) &&
 ((List.range caps.length).all fun i=>match caps[i]? with
  | some j=>(match N[j]? with|some x=>N'[1+i]? == some x&&scope.names.lookup x==some .free|none=>false)
  | none=>true)
section
variable {X:Cx}
theorem ax8(h:ab3 N N' caps sc scope x=true) (hN:X.N=N) (hS:X.env.scope=sc):CompScC X N' 1 caps scope x/\N'[0]? = some x:=by
 subst hN hS
 unfold ab3 at h
 simp only[Bool.and_eq_true,List.all_eq_true]at h
 obtain⟨⟨⟨⟨⟨⟨h1,h2⟩,h3⟩,h4⟩,h5⟩,h6⟩,h7⟩:=h
 refine⟨⟨?_,by simpa using h2,by simpa using h3,fun y hy e=>?_,fun y hy e=>?_,by simpa using h5,fun i j e=>?_⟩,by simpa using h6⟩
 ·cases q:scope.kind<;>rw[q]at h1<;>first|rfl|cases h1
 ·have:=h4 y hy
  rw[e]at this;simpa using this
 ·have:=h4 y hy
  rw[e]at this;simpa using this
 ·have hi:i < caps.length:=(List.getElem?_eq_some_iff.mp e).1
  have:=h7 i (by simpa using hi)
  rw[e]at this
  simp only at this
  cases q:X.N[j]? with
  | none=>rw[q]at this;cases this
  | some x =>
   rw[q]at this
   simp only[Bool.and_eq_true]at this
   exact⟨x,rfl,by simpa using this.1,by simpa using this.2⟩
theorem aZ6(S:CompScC X N' 1 caps scope x) (h0:N'[0]? = some x) (hn:N'.Nodup) (hx:∀e s,X.xe e s->False)
  (hi:JI X (.Name x px) iter src) (ht:∀C s0 H0 ex,JTs (cpX X N' scope x C s0 H0 ex) ifs c) (he:∀C s0 H0 ex,JE (cpX X N' scope x C s0 H0 ex) elt e)
  (hc:X.calm=true) (hs:∀x,foldedSetIterable iter X.env x=pure x):JN X (.ListComp elt [⟨.Name x px,iter,ifs,0⟩] scope pos) (C2 1 caps src (B8 0) c e):=by
 intro ρ out h
 obtain⟨ds,e1,k⟩:=Q5 (K:=X.K) h
 intro pins s σ H Q I t
 rw[eval_ListComp]
 have hg:∀C s0 H0 ex,JG (cpX X N' scope x C s0 H0 ex) (.Name x px) (B8 0):=fun C s0 H0 ex=>aF3 0 hn h0 (.inr (ah9 S.lk)) (.inl (by show(x==x)=true;simp))
 refine wpAny_comprehension_free (use:=none) rfl hs (aH4 fun y hy e=>I.ok.has y.1 (S.free y hy e)) S.kind S.loc (bO5 (RR:=fun acc C=>compPost (model X.prog X.w) X.A X.xe none (EP X pins σ Q) acc C) S hx hc (hi ρ ds e1) (g:=tgJ X.K (B8 0)) (tc:=u9 X.K c) (te:=am2 X.K e) hg ht (fun C s0 H0 ex pins s σ H Q I ⟨ρ,d,e,t⟩=>he C s0 H0 ex ρ d e pins s σ H Q I t) I (k σ H Q t) ?_)
 intro Dd C r s' hr ⟨m,hn,kk⟩ _
 subst hr
 exact⟨m,hn,fun h' sb=>let⟨H',I',q⟩:=kk h' sb;⟨.ref Dd,H',I',rfl,q⟩⟩
end
end G
namespace G
open PySem
noncomputable def stp(m i:Nat):List Nat:=(List.range (SetTable.runEnd m i+1 - i)).map (i+·)
noncomputable def sqn(m:Nat):Nat->Nat->Nat->List Nat
 | 0,_,_=>[]
 | n+1,i,p=>stp m i++sqn m n ((i*5+1+p / 32) % (m+1)) (p / 32)
noncomputable def sqH(m:Nat) (h:Int):List Nat:=sqn m (SetTable.turns m) (SetTable.bits h % (m+1)) (SetTable.bits h)
theorem am7(m i:Nat):stp m i=(List.range (SetTable.runEnd m i - i+1)).map (i+·):=by
 unfold stp
 congr 2
 unfold SetTable.runEnd
 split<;>omega
noncomputable def AtP(t:SetTable):SetTable.Probe->List Nat->Prop
 | _,[]=>True
 | p,e::l=>e=p.j/\AtP t (t.advance p) l
theorem ay7(t:SetTable) (n:Nat):∀(k j i q:Nat) (d:Option Nat) (l:List Nat),(∀p:SetTable.Probe,p.i=i->p.perturb=q->p.more=0->AtP t (t.advance p) l)->AtP t ⟨j,k,i,q,d⟩ ((List.range (k+1)).map (j+·)++l)
 | 0,j,i,q,d,l,h=>by
  refine⟨rfl,?_⟩
  exact h _ rfl rfl rfl
 | k+1,j,i,q,d,l,h=>by
  have e:(List.range (k+1+1)).map (j+·)=j::(List.range (k+1)).map (j+1+·):=by
   rw[List.range_succ_eq_map,List.map_cons,List.map_map]
   congr 1
   refine List.map_congr_left fun x _=>?_
   simp only[Function.comp]
   omega
  rw[e]
  refine⟨rfl,?_⟩
  have e2:t.advance ⟨j,k+1,i,q,d⟩=⟨j+1,k,i,q,d⟩:=by unfold SetTable.advance;simp
  show AtP t (t.advance ⟨j,k+1,i,q,d⟩) _
  rw[e2]
  exact ay7 t n k (j+1) i q d l h
theorem bg6(t:SetTable):∀(n i q:Nat) (p:SetTable.Probe),p.more=0->AtP t (t.advance p) (sqn t.mask n ((p.i*5+1+p.perturb / 32) % (t.mask+1)) (p.perturb / 32))
 | 0,_,_,_,_=>trivial
 | n+1,i,q,p,h=>by
  have e:t.advance p=⟨(p.i*5+1+p.perturb / 32) % (t.mask+1),SetTable.runEnd t.mask ((p.i*5+1+p.perturb / 32) % (t.mask+1)) - (p.i*5+1+p.perturb / 32) % (t.mask+1),(p.i*5+1+p.perturb / 32) % (t.mask+1),p.perturb / 32,p.dummy⟩:=by
   unfold SetTable.advance SetTable.leap
   rw[if_neg (by omega)]
  rw[sqn,e,am7]
  refine ay7 t n _ _ _ _ _ _ fun p' h1 h2 h3=>?_
  rw[← h1,← h2]
  exact bg6 t n i q p' h3
theorem bg5(t:SetTable) (h:Int):AtP t (t.probeStart h) (sqH t.mask h):=by
 unfold sqH SetTable.probeStart
 have:SetTable.turns t.mask=(t.mask+14)+1:=rfl
 rw[this,sqn,am7]
 refine ay7 t 0 _ _ _ _ _ _ fun p h1 h2 h3=>?_
 rw[← h1,← h2]
 exact bg6 t _ 0 0 p h3
theorem e8(t:SetTable) (p:SetTable.Probe):(t.advance p).dummy=p.dummy:=by
 unfold SetTable.advance
 split<;>rfl
theorem aq2:∀(pre:List Nat) (p:SetTable.Probe) (f:Nat),AtP t p (pre++e::post)->(∀q∈pre,∃i,t.slot q=.live i/\hA i≠h)->t.slot e=.empty->pre.length < f->SetTable.probe.go t hA h f p=some (.empty e p.dummy)
 | [],p,f+1,ha,hp,he,hf=>by
  obtain⟨rfl,_⟩:=ha
  unfold SetTable.probe.go
  rw[he]
 | q::pre,p,f+1,ha,hp,he,hf=>by
  obtain⟨rfl,ha⟩:=ha
  obtain⟨i,h1,h2⟩:=hp _ (.head _)
  unfold SetTable.probe.go
  rw[h1]
  dsimp only
  rw[if_neg (by simpa using h2),aq2 pre _ f ha (fun q hq=>hp q (.tail _ hq)) he (by simp at hf;omega),e8]
 | [],p,0,ha,hp,he,hf=>by simp at hf
 | q::pre,p,0,ha,hp,he,hf=>by simp at hf
theorem aG0:∀(pre:List Nat) (p:SetTable.Probe) (f:Nat),AtP t p (pre++e::post)->(∀q∈pre,∃i,t.slot q=.live i/\hA i≠h)->t.slot e=.live i->hA i=h->pre.length < f->∃nx,SetTable.probe.go t hA h f p=some (.candidate e i nx)/\AtP t nx post/\nx.dummy=p.dummy
 | [],p,f+1,ha,hp,he,hh,hf=>by
  obtain⟨rfl,ha⟩:=ha
  unfold SetTable.probe.go
  rw[he]
  dsimp only
  rw[if_pos (by simpa using hh)]
  exact⟨_,rfl,ha,e8 t p⟩
 | q::pre,p,f+1,ha,hp,he,hh,hf=>by
  obtain⟨rfl,ha⟩:=ha
  obtain⟨i',h1,h2⟩:=hp _ (.head _)
  unfold SetTable.probe.go
  rw[h1]
  dsimp only
  rw[if_neg (by simpa using h2)]
  obtain⟨nx,e1,e2,e3⟩:=aG0 pre _ f ha (fun q hq=>hp q (.tail _ hq)) he hh (by simp at hf;omega)
  exact⟨nx,e1,e2,e3.trans (e8 t p)⟩
 | [],p,0,ha,hp,he,hh,hf=>by simp at hf
 | q::pre,p,0,ha,hp,he,hh,hf=>by simp at hf
theorem aB2(m:Nat):∀n i p,(sqn m n i p).length<=10*n
 | 0,_,_=>by simp[sqn]
 | n+1,i,p=>by
  have:=aB2 m n ((i*5+1+p / 32) % (m+1)) (p / 32)
  rw[sqn,List.length_append]
  have:(stp m i).length<=10:=by
   unfold stp SetTable.runEnd
   rw[List.length_map,List.length_range]
   split<;>omega
  omega
theorem ao9(a m:Nat):a % (m+1)<=m:=Nat.lt_succ_iff.mp (Nat.mod_lt a (Nat.succ_pos m))
theorem aS2(m:Nat):∀n i p,i<=m->∀e∈sqn m n i p,e<=m
 | 0,_,_,_,e,h=>by simp[sqn]at h
 | n+1,i,p,hi,e,h=>by
  rw[sqn,List.mem_append]at h
  rcases h with h|h
  ·unfold stp SetTable.runEnd at h
   obtain⟨k,hk,rfl⟩:=List.mem_map.mp h
   rw[List.mem_range]at hk
   split at hk<;>omega
  ·exact aS2 m n _ _ (ao9 _ _) e h
theorem bC8(m:Nat) (h:Int):∀e∈sqH m h,e<=m:=aS2 m _ _ _ (ao9 _ _)
theorem v6(m e:Nat) (n0:Nat) (hc:∀i,i<=m->e∈sqn m n0 i 0):∀(k n i p:Nat),i<=m->p < 32 ^ k->k+n0<=n->e∈sqn m n i p
 | 0,n,i,p,hi,hp,hn=>by
  obtain rfl:p=0:=by simpa using hp
  have mono:∀(a b:Nat) (i:Nat),a<=b->e∈sqn m a i 0->e∈sqn m b i 0:=by
   intro a
   induction a with
   | zero=>intro b i _ h;simp[sqn]at h
   | succ a ih =>
    intro b i hb h
    obtain⟨b,rfl⟩:∃c,b=c+1:=⟨b - 1,by omega⟩
    rw[sqn,List.mem_append]at h ⊢
    exact h.imp id (ih b _ (by omega))
  exact mono n0 n i (by omega) (hc i hi)
 | k+1,n,i,p,hi,hp,hn=>by
  obtain⟨n,rfl⟩:∃c,n=c+1:=⟨n - 1,by omega⟩
  rw[sqn,List.mem_append]
  refine .inr (v6 m e n0 hc k n _ _ (ao9 _ _) ?_ (by omega))
  rw[Nat.div_lt_iff_lt_mul (by omega)]
  rw[Nat.pow_succ]at hp
  exact hp
theorem cd6:∀i,i < 8->∀e,e < 8->e∈sqn 7 9 i 0:=by decide +kernel
theorem bZ4:∀i,i < 32->∀e,e < 32->e∈sqn 31 33 i 0:=by decide +kernel
theorem aI0(h:Int):SetTable.bits h < 32 ^ 13:=by
 unfold SetTable.bits
 have h1:h % (2 ^ 64:Int) < 2 ^ 64:=Int.emod_lt_of_pos _ (by decide)
 have h2:0<=h % (2 ^ 64:Int):=Int.emod_nonneg _ (by decide)
 have:(32:Nat) ^ 13=2 ^ 65:=by decide
 omega
theorem bg8(hm:m=7\/m=31) (h:Int) (he:e<=m):e∈sqH m h:=by
 rcases hm with rfl|rfl
 ·exact v6 7 e 9 (fun i hi=>cd6 i (by omega) e (by omega)) 13 _ _ _ (ao9 _ _) (aI0 h) (by decide)
 ·exact v6 31 e 33 (fun i hi=>bZ4 i (by omega) e (by omega)) 13 _ _ _ (ao9 _ _) (aI0 h) (by decide)
end G
namespace G
open PySem
theorem ab8(xs:Array Nat) (j:Nat) (hs:xs.toList.Pairwise (· < ·)):∀(f lo hi:Nat),hi - lo<=f->lo<=hi->hi<=xs.size->(∀k,k < lo->xs.getD k j < j)->(∀k,hi<=k->k < xs.size->j<=xs.getD k j) ->
  SetTable.below.go xs j f lo hi<=xs.size/\(∀k,k < SetTable.below.go xs j f lo hi->xs.getD k j < j)/\∀k,SetTable.below.go xs j f lo hi<=k->k < xs.size->j<=xs.getD k j
 | 0,lo,hi,h1,h2,h3,h4,h5=>by
  have:lo=hi:=by omega
  subst this
  exact⟨h3,h4,h5⟩
 | f+1,lo,hi,h1,h2,h3,h4,h5=>by
  have mono:∀a b,a < b->b < xs.size->xs.getD a j < xs.getD b j:=fun a b h q=>by
   have:=List.pairwise_iff_getElem.mp hs a b (by simpa using Nat.lt_trans h q) (by simpa using q) h
   simpa [Array.getD,q,Nat.lt_trans h q] using this
  unfold SetTable.below.go
  split
  ·rename_i hl
   dsimp only
   split
   ·rename_i hm
    refine ab8 xs j hs f _ _ (by omega) (by omega) h3 (fun k hk=>?_) h5
    rcases Nat.lt_or_ge k ((lo+hi) / 2) with q|q
    ·exact Nat.lt_trans (mono k _ q (by omega)) hm
    ·have:k=(lo+hi) / 2:=by omega
     rw[this];exact hm
   ·rename_i hm
    refine ab8 xs j hs f _ _ (by omega) (by omega) (by omega) h4 (fun k hk hz=>?_)
    rcases Nat.lt_or_ge ((lo+hi) / 2) k with q|q
    ·exact Nat.le_of_lt (Nat.lt_of_le_of_lt (Nat.le_of_not_lt hm) (mono _ k q hz))
    ·have:k=(lo+hi) / 2:=by omega
     rw[this];exact Nat.le_of_not_lt hm
  ·have:lo=hi:=by omega
   subst this
   exact⟨h3,h4,h5⟩
theorem Z2(j:Nat) (hs:xs.toList.Pairwise (· < ·)):SetTable.below xs j<=xs.size/\(∀k,k < SetTable.below xs j->xs.getD k j < j)/\∀k,SetTable.below xs j<=k->k < xs.size->j<=xs.getD k j :=
 ab8 xs j hs xs.size 0 xs.size (by omega) (by omega) (Nat.le_refl _) (fun k h=>absurd h (Nat.not_lt_zero _)) (fun k h q=>by omega)
theorem bg1(hs:xs.toList.Pairwise (· < ·)) (h:xs[i]? = some j):SetTable.below xs j=i:=by
 obtain⟨h1,h2,h3⟩:=Z2 j hs
 obtain⟨hi,e⟩:=Array.getElem?_eq_some_iff.mp h
 have e':xs.getD i j=j:=by simp[Array.getD,hi,e]
 have mono:∀a b,a < b->b < xs.size->xs.getD a j < xs.getD b j:=fun a b h q=>by
  have:=List.pairwise_iff_getElem.mp hs a b (by simpa using Nat.lt_trans h q) (by simpa using q) h
  simpa [Array.getD,q,Nat.lt_trans h q] using this
 rcases Nat.lt_trichotomy (SetTable.below xs j) i with q|q|q
 ·have a:=h3 _ (Nat.le_refl _) (by omega)
  have b:=mono _ _ q hi
  omega
 ·exact q
 ·have:=h2 _ q
  omega
theorem ay3(hs:xs.toList.Pairwise (· < ·)) (h:xs[i]? = some j):SetTable.below xs (j+1)=i+1:=by
 obtain⟨h1,h2,h3⟩:=Z2 (j+1) hs
 obtain⟨hi,e⟩:=Array.getElem?_eq_some_iff.mp h
 have e':xs.getD i (j+1)=j:=by simp[Array.getD,hi,e]
 have mono:∀a b,a < b->b < xs.size->xs.getD a (j+1) < xs.getD b (j+1):=fun a b h q=>by
  have:=List.pairwise_iff_getElem.mp hs a b (by simpa using Nat.lt_trans h q) (by simpa using q) h
  simpa [Array.getD,q,Nat.lt_trans h q] using this
 rcases Nat.lt_trichotomy (SetTable.below xs (j+1)) (i+1) with q|q|q
 ·have a:=h3 i (by omega) hi
  omega
 ·exact q
 ·have a:=h2 (i+1) q
  have b:=mono i (i+1) (by omega) (by omega)
  omega
theorem ay2(hs:xs.toList.Pairwise (· < ·)):SetTable.below xs 0=0:=by
 obtain⟨h1,h2,h3⟩:=Z2 0 hs
 rcases Nat.eq_zero_or_pos (SetTable.below xs 0) with q|q
 ·exact q
 ·exact absurd (h2 0 q) (Nat.not_lt_zero _)
theorem pig:∀(n:Nat) (l:List Nat),(∀e,e < n->e∈l)->n<=l.length
 | 0,_,_=>Nat.zero_le _
 | n+1,l,h=>by
  have m:=h n (Nat.lt_succ_self n)
  have:=pig n (l.erase n) fun e he=>(List.mem_erase_of_ne (Nat.ne_of_lt he)).mpr (h e (Nat.lt_succ_of_lt he))
  rw[List.length_erase_of_mem m]at this
  have:=List.length_pos_of_mem m
  omega
section
variable {α:Type}(hf:α->Int)
structure TOkS (t:SetTable) (zs:List (Nat×α)):Prop where
 pl:t.place.toList=zs.map (·.1)
 du:t.dummies = #[]
 up:(zs.map (·.1)).Pairwise (· < ·)
 rc:∀z∈zs,∃pre post,sqH t.mask (hf z.2)=pre++z.1::post/\∀q∈pre,q∈zs.map (·.1)
 sz:(t.mask=7/\zs.length<=5)\/(t.mask=31/\zs.length<=18)
variable {hf} {t:SetTable}{zs:List (Nat×α)}
theorem TOkS.live(T:TOkS hf t zs) (h:zs[i]? = some z):t.slot z.1=.live i:=by
 have e:t.place[i]? = some z.1:=by rw[← Array.getElem?_toList,T.pl,List.getElem?_map,h];rfl
 unfold SetTable.slot
 dsimp only
 rw[bg1 (by rw[T.pl];exact T.up) e,e]
 simp
theorem TOkS.free(T:TOkS hf t zs) {j:Nat}(h:j∉zs.map (·.1)):t.slot j=.empty:=by
 unfold SetTable.slot
 dsimp only
 have e:(t.place[SetTable.below t.place j]? == some j)=false:=by
  rw[beq_eq_false_iff_ne]
  intro q
  refine h ?_
  rw[← T.pl]
  exact List.mem_of_getElem? (by rw[Array.getElem?_toList];exact q)
 rw[e,T.du]
 simp[SetTable.has]
theorem TOkS.fits(T:TOkS hf t zs):t.fits zs.length=true:=by
 have:t.place.size=zs.length:=by rw[← Array.length_toList,T.pl,List.length_map]
 have:=T.sz
 simp only[SetTable.fits,SetTable.fill,T.du,Bool.and_eq_true,beq_iff_eq,decide_eq_true_eq,List.size_toArray,List.length_nil]
 omega
theorem TOkS.room(T:TOkS hf t zs) (h:Int):∃e∈sqH t.mask h,e∉zs.map (·.1):=by
 have hm:t.mask=7\/t.mask=31:=T.sz.imp And.left And.left
 have hl:zs.length < t.mask+1:=by have:=T.sz;omega
 apply Classical.byContradiction
 intro q
 have all:∀e,e < t.mask+1->e∈zs.map (·.1):=fun e he=>by
  apply Classical.byContradiction
  intro z
  exact q ⟨e,bg8 hm h (by omega),z⟩
 have:=pig _ _ all
 rw[List.length_map]at this
 omega
end
theorem aa9{P:Nat->Prop}:∀(l:List Nat),(∃e∈l,¬P e)->∃pre e post,l=pre++e::post/\(∀q∈pre,P q)/\¬P e
 | [],h=>by simp at h
 | a::l,h=>by
  by_cases p:P a
  ·have:∃e∈l,¬P e:=by
    obtain⟨e,he,q⟩:=h
    rcases List.mem_cons.mp he with rfl|he
    ·exact absurd p q
    ·exact⟨e,he,q⟩
   obtain⟨pre,e,post,rfl,h1,h2⟩:=aa9 l this
   exact⟨a::pre,e,post,rfl,fun q hq=>by
    rcases List.mem_cons.mp hq with rfl|hq
    ·exact p
    ·exact h1 q hq,h2⟩
  ·exact⟨[],a,l,rfl,fun _ q=>by simp at q,p⟩
section
variable {α:Type}{hf:α->Int}{t:SetTable}{zs:List (Nat×α)}
theorem TOkS.put(T:TOkS hf t zs) (hs:sqH t.mask (hf x)=pre++e::post) (hp:∀q∈pre,q∈zs.map (·.1)) (he:e∉zs.map (·.1)) (hz:(t.mask=7/\zs.length < 5)\/(t.mask=31/\zs.length < 18)) :
  ∃p,(t.put e)=((t.put e).1,p)/\TOkS hf (t.put e).1 (zs.take p++(e,x)::zs.drop p)/\(t.put e).1.mask=t.mask/\(t.put e).1.led=t.led/\(t.put e).1.plain=t.plain/\(t.put e).1.moves=t.moves:=by
 have up:t.place.toList.Pairwise (· < ·):=by rw[T.pl];exact T.up
 obtain⟨b1,b2,b3⟩:=Z2 e up
 have sz:t.place.size=zs.length:=by rw[← Array.length_toList,T.pl,List.length_map]
 have hd:SetTable.has t.dummies e=false:=by rw[T.du];simp[SetTable.has]
 refine⟨SetTable.below t.place e,rfl,?_,rfl,rfl,rfl,rfl⟩
 have gD:∀k (h:k < zs.length),t.place.getD k e=zs[k].1:=fun k h=>by
  have:t.place.toList[k]? = some zs[k].1:=by rw[T.pl,List.getElem?_map,List.getElem?_eq_getElem h];rfl
  rw[Array.getElem?_toList]at this
  simp[this]
 have mem:∀q,q∈(zs.take (SetTable.below t.place e)++(e,x)::zs.drop (SetTable.below t.place e)).map (·.1)↔q=e\/q∈zs.map (·.1):=fun q=>by
  conv=>rhs;rw[← List.take_append_drop (SetTable.below t.place e) zs]
  simp only[List.map_append,List.map_cons,List.mem_append,List.mem_cons]
  constructor
  ·rintro(h|h|h)
   ·exact .inr (.inl h)
   ·exact .inl h
   ·exact .inr (.inr h)
  ·rintro(h|h|h)
   ·exact .inr (.inl h)
   ·exact .inl h
   ·exact .inr (.inr h)
 refine⟨?_,?_,?_,?_,?_⟩
 ·show(SetTable.insertAt t.place _ e).toList=_
  rw[SetTable.toList_insertAt,T.pl,List.map_append,List.map_cons,List.map_take,List.map_drop]
 ·show(if SetTable.has t.dummies e then _ else t.dummies)=_
  rw[hd];exact T.du
 ·rw[List.map_append,List.map_cons,List.pairwise_append,List.pairwise_cons]
  have tk:∀a∈(zs.take (SetTable.below t.place e)).map (·.1),a < e:=fun a ha=>by
   obtain⟨z,hz,rfl⟩:=List.mem_map.mp ha
   obtain⟨k,hk,rfl⟩:=List.mem_take_iff_getElem.mp hz
   have:=b2 k (by omega)
   rw[gD k (by omega)]at this
   exact this
  have dr:∀a∈(zs.drop (SetTable.below t.place e)).map (·.1),e < a:=fun a ha=>by
   obtain⟨z,hz,rfl⟩:=List.mem_map.mp ha
   obtain⟨k,hk,rfl⟩:=List.mem_drop_iff_getElem.mp hz
   have:=b3 (SetTable.below t.place e+k) (by omega) (by omega)
   rw[gD _ (by omega)]at this
   refine Nat.lt_of_le_of_ne this fun q=>he ?_
   rw[q]
   exact List.mem_map.mpr ⟨_,List.getElem_mem _,rfl⟩
  refine⟨?_,⟨dr,?_⟩,fun a ha b hb=>?_⟩
  ·rw[List.map_take];exact T.up.sublist (List.take_sublist _ _)
  ·rw[List.map_drop];exact T.up.sublist (List.drop_sublist _ _)
  ·rcases List.mem_cons.mp hb with rfl|hb
   ·exact tk a ha
   ·exact Nat.lt_trans (tk a ha) (dr b hb)
 ·intro z hz
  have:z=(e,x)\/z∈zs:=by
   rcases List.mem_append.mp hz with h|h
   ·exact .inr (List.mem_of_mem_take h)
   ·rcases List.mem_cons.mp h with h|h
    ·exact .inl h
    ·exact .inr (List.mem_of_mem_drop h)
  rcases this with rfl|h
  ·exact⟨pre,post,hs,fun q hq=>(mem q).mpr (.inr (hp q hq))⟩
  ·obtain⟨a,b,h1,h2⟩:=T.rc z h
   exact⟨a,b,h1,fun q hq=>(mem q).mpr (.inr (h2 q hq))⟩
 ·show(t.mask=7/\_)\/(t.mask=31/\_)
  rw[List.length_append,List.length_cons,List.length_take,List.length_drop]
  omega
end
end G
namespace G
open PySem
noncomputable def aL9(ow:Array (Option Nat)) (j:Nat):Bool:=(ow.getD j (some 0)).isNone
theorem aG2(m:Nat) (ow:Array (Option Nat)):∀n i p,SetTable.layClean.free m ow n i p=(sqn m n i p).find? (aL9 ow)
 | 0,_,_=>rfl
 | n+1,i,p=>by
  rw[sqn,List.find?_append,← aG2 m ow n,SetTable.layClean.free]
  unfold stp
  rw[List.find?_map]
  show(match List.find? (aL9 ow ∘ (i+·)) (List.range (SetTable.runEnd m i+1 - i)) with|some k=>_|none=>_)=_
  cases List.find? (aL9 ow ∘ (i+·)) (List.range (SetTable.runEnd m i+1 - i))<;>rfl
section
variable {α:Type}(hf:α->Int)
structure LayI (m:Nat) (ow:Array (Option Nat)) (pl:List Nat) (xs:List α):Prop where
 sz:ow.size=m+1
 ln:pl.length=xs.length
 nd:pl.Nodup
 on:∀(i e:Nat),pl[i]? = some e->e<=m/\ow[e]? = some (some i)
 off:∀e,e<=m->e∉pl->ow[e]? = some none
 rc:∀(i:Nat) (x:α) (e:Nat),xs[i]? = some x->pl[i]? = some e->∃pre post,sqH m (hf x)=pre++e::post/\∀q∈pre,q∈pl
variable {hf} {m:Nat}
theorem LayI.step(L:LayI hf m ow pl xs) (hm:m=7\/m=31) (hl:xs.length<=m) (x:α) :
  ∃e,SetTable.layClean.free m ow (SetTable.turns m) (SetTable.bits (hf x) % (m+1)) (SetTable.bits (hf x))=some e/\LayI hf m (ow.setIfInBounds e (some xs.length)) (pl++[e]) (xs++[x]):=by
 have nw:∀e,e<=m->(aL9 ow e=true↔e∉pl):=fun e he=>by
  unfold aL9
  constructor
  ·intro h q
   obtain⟨i,hi⟩:=List.mem_iff_getElem?.mp q
   have:=(L.on i e hi).2
   have hs:e < ow.size:=by rw[L.sz];omega
   simp[this]at h
  ·intro q
   have:=L.off e he q
   simp[this]
 have ex:∃e∈sqH m (hf x),¬(e∈pl):=by
  apply Classical.byContradiction
  intro q
  have all:∀e,e < m+1->e∈pl:=fun e he=>by
   apply Classical.byContradiction
   intro z
   exact q ⟨e,bg8 hm _ (by omega),z⟩
  have:=pig _ _ all
  have:=L.ln
  omega
 obtain⟨pre,e,post,h1,h2,h3⟩:=aa9 _ ex
 have le:=bC8 m (hf x)
 have he:e<=m:=le e (by rw[h1];simp)
 refine⟨e,?_,?_⟩
 ·rw[aG2]
  show(sqH m (hf x)).find? _=_
  rw[List.find?_eq_some_iff_append]
  refine⟨(nw e he).mpr h3,pre,post,h1,fun a ha=>?_⟩
  have:¬aL9 ow a=true:=fun z=>(nw a (le a (by rw[h1];simp[ha]))).mp z (h2 a ha)
  simpa using this
 ·have up:∀q∈pl,q∈pl++[e]:=fun q h=>List.mem_append_left _ h
  refine⟨by simpa using L.sz,by simp[L.ln],?_,fun i a h=>?_,fun a ha q=>?_,fun i y a h1' h2'=>?_⟩
  ·rw[List.nodup_append]
   exact⟨L.nd,by simp,fun a ha b hb=>by simp at hb;subst hb;exact fun z=>h3 (z ▸ ha)⟩
  ·rcases Nat.lt_or_ge i pl.length with z|z
   ·rw[List.getElem?_append_left z]at h
    have:=L.on i a h
    refine⟨this.1,?_⟩
    have ne:e≠a:=fun y=>h3 (y ▸ List.mem_of_getElem? h)
    rw[Array.getElem?_setIfInBounds_ne ne]
    exact this.2
   ·rw[List.getElem?_append_right z]at h
    have z0:i - pl.length=0:=by
     rcases Nat.eq_zero_or_pos (i - pl.length) with y|y
     ·exact y
     ·rw[List.getElem?_eq_none (by simp;omega)]at h;cases h
    rw[z0]at h
    cases h
    have:i=xs.length:=by have:=L.ln;omega
    subst this
    exact⟨he,by rw[Array.getElem?_setIfInBounds_self_of_lt (by rw[L.sz];omega)]⟩
  ·have ne:e≠a:=fun y=>q (by simp[y])
   rw[Array.getElem?_setIfInBounds_ne ne]
   exact L.off a ha fun z=>q (up _ z)
  ·rcases Nat.lt_or_ge i pl.length with z|z
   ·rw[List.getElem?_append_left z]at h2'
    rw[List.getElem?_append_left (by have:=L.ln;omega)]at h1'
    obtain⟨p1,p2,g1,g2⟩:=L.rc i y a h1' h2'
    exact⟨p1,p2,g1,fun q hq=>up _ (g2 q hq)⟩
   ·have z':xs.length<=i:=by have:=L.ln;omega
    rw[List.getElem?_append_right z]at h2'
    rw[List.getElem?_append_right z']at h1'
    have z0:i - pl.length=0:=by
     rcases Nat.eq_zero_or_pos (i - pl.length) with y|y
     ·exact y
     ·rw[List.getElem?_eq_none (by simp;omega)]at h2';cases h2'
    have z1:i - xs.length=0:=by have:=L.ln;omega
    rw[z0]at h2'
    rw[z1]at h1'
    cases h2';cases h1'
    exact⟨pre,post,h1,fun q hq=>up _ (h2 q hq)⟩
theorem ap4(hm:m=7\/m=31):∀(ys:List α) (ow:Array (Option Nat)) (pl:List Nat) (xs:List α),LayI hf m ow pl xs->xs.length+ys.length<=m ->
  ∃ow' pl',(ys.map hf).foldl (fun acc h=>do
   let(owner,k) ← acc
   let j ← SetTable.layClean.free m owner (SetTable.turns m) (SetTable.bits h % (m+1)) (SetTable.bits h)
   pure (owner.setIfInBounds j (some k),k+1)) (some (ow,xs.length))=some (ow',xs.length+ys.length)/\LayI hf m ow' pl' (xs++ys)
 | [],ow,pl,xs,L,h=>⟨ow,pl,rfl,by rw[List.append_nil];exact L⟩
 | y::ys,ow,pl,xs,L,h=>by
  obtain⟨e,e1,L1⟩:=L.step hm (by simp at h;omega) y
  obtain⟨ow',pl',e2,L2⟩:=ap4 hm ys _ _ _ L1 (by simp at h ⊢;omega)
  refine⟨ow',pl',?_,by simpa using L2⟩
  rw[List.map_cons,List.foldl_cons]
  simp only[Option.bind_eq_bind,Option.bind_some,e1]
  rw[List.length_append]at e2
  rw[show xs.length+(y::ys).length=xs.length+[y].length+ys.length by simp;omega]
  exact e2
theorem aC8{xs:List α}:∀l:List (Nat×Nat),(∀p∈l,∃x,xs[p.2]? = some x)->∃zs:List (Nat×α),zs.map (·.1)=l.map (·.1)/\(l.map (·.2)).filterMap (xs[·]?)=zs.map (·.2)/\∀z∈zs,∃k,(z.1,k)∈l/\xs[k]? = some z.2
 | [],_=>⟨[],rfl,rfl,fun _ h=>by simp at h⟩
 | p::l,h=>by
  obtain⟨x,hx⟩:=h p (.head _)
  obtain⟨zs,h1,h2,h3⟩:=aC8 l fun q hq=>h q (.tail _ hq)
  refine⟨(p.1,x)::zs,by simp[h1],by rw[List.map_cons,List.filterMap_cons,hx,List.map_cons,← h2],fun z hz=>?_⟩
  rcases List.mem_cons.mp hz with rfl|hz
  ·exact⟨p.2,.head _,hx⟩
  ·obtain⟨k,g1,g2⟩:=h3 z hz
   exact⟨k,.tail _ g1,g2⟩
theorem bp4(hm:m=7\/m=31) (xs:List α) (hz:(m=7/\xs.length<=4)\/(m=31/\xs.length<=18)) (fi mo:Nat) (le pn:Bool):∃(t:SetTable) (od:Array Nat) (zs:List (Nat×α)),SetTable.laid m fi mo le pn (xs.map hf).toArray=some (t,od)/\TOkS hf t zs/\(zs.map (·.2)).Perm xs /\
  od.toList.filterMap (xs[·]?)=zs.map (·.2)/\t.led=le/\t.plain=pn/\t.mask=m:=by
 have L0:LayI hf m (Array.replicate (m+1) none) [] ([]:List α):=⟨by simp,rfl,List.nodup_nil,fun i e h=>by simp at h,fun e he _=>by rw[Array.getElem?_replicate,if_pos (by omega)],fun i x e h=>by simp at h⟩
 obtain⟨ow,pl,e1,L⟩:=ap4 hm xs _ _ _ L0 (by simp;omega)
 rw[List.nil_append]at L
 have e2:SetTable.layClean m (xs.map hf).toArray=some ow:=by
  unfold SetTable.layClean
  rw[List.foldl_toArray']
  ·have e1':=congrArg (Option.map Prod.fst) e1
   exact e1'
  ·simp
 unfold SetTable.laid
 rw[e2]
 simp only[Option.bind_eq_bind,Option.bind_some]
 have lm:∀p:Nat×Nat,p∈(List.range (m+1)).filterMap (fun j=>(ow.getD j none).map (j,·))↔pl[p.2]? = some p.1:=fun p=>by
  rw[List.mem_filterMap]
  constructor
  ·rintro⟨j,hj,e⟩
   obtain⟨k,hk,rfl⟩:=Option.map_eq_some_iff.mp e
   rw[List.mem_range]at hj
   have hs:j < ow.size:=by rw[L.sz];exact hj
   by_cases q:j∈pl
   ·obtain⟨i,hi⟩:=List.mem_iff_getElem?.mp q
    have:=(L.on i j hi).2
    simp[this]at hk
    subst hk
    exact hi
   ·have:=L.off j (by omega) q
    simp[this]at hk
  ·intro h
   obtain⟨h1,h2⟩:=L.on p.2 p.1 h
   exact⟨p.1,List.mem_range.mpr (by omega),by simp[h2]⟩
 have up:((List.range (m+1)).filterMap (fun j=>(ow.getD j none).map (j,·))).Pairwise (fun a b=>a.1 < b.1):=by
  refine List.Pairwise.filterMap _ (fun a b hab c hc d hd=>?_) List.pairwise_lt_range
  obtain⟨_,_,rfl⟩:=Option.map_eq_some_iff.mp hc
  obtain⟨_,_,rfl⟩:=Option.map_eq_some_iff.mp hd
  exact hab
 generalize (List.range (m+1)).filterMap (fun j=>(ow.getD j none).map (j,·))=lv at lm up
 have lt:∀p∈lv,∃x,xs[p.2]? = some x:=fun p hp=>by
  have:=(List.getElem?_eq_some_iff.mp ((lm p).mp hp)).1
  exact⟨_,List.getElem?_eq_getElem (by rw[← L.ln];exact this)⟩
 obtain⟨zs,z1,z2,z3⟩:=aC8 lv lt
 have od:(lv.map (·.2)).Perm (List.range xs.length):=by
  refine(List.perm_ext_iff_of_nodup ?_ List.nodup_range).mpr fun k=>?_
  ·rw[List.Nodup,List.pairwise_map]
   refine up.imp_of_mem fun{a b} ha hb hab q=>?_
   have h1:=(lm a).mp ha
   have h2:=(lm b).mp hb
   rw[q,h2]at h1
   have:=Option.some.inj h1
   omega
  ·rw[List.mem_range,List.mem_map]
   constructor
   ·rintro⟨p,hp,rfl⟩
    obtain⟨x,hx⟩:=lt p hp
    exact(List.getElem?_eq_some_iff.mp hx).1
   ·intro hk
    exact⟨(pl[k]'(by rw[L.ln];exact hk),k),(lm _).mpr (List.getElem?_eq_getElem _),rfl⟩
 have pm:(zs.map (·.2)).Perm xs:=by
  rw[← z2]
  refine(od.filterMap _).trans ?_
  rw[List.filterMap_getElem?_range_length]
 refine⟨_,_,zs,rfl,⟨?_,rfl,?_,fun z hz=>?_,?_⟩,pm,z2,rfl,rfl,rfl⟩
 ·exact z1.symm
 ·rw[z1,List.pairwise_map];exact up
 ·obtain⟨k,g1,g2⟩:=z3 z hz
  obtain⟨pre,post,h1,h2⟩:=L.rc k z.2 z.1 g2 ((lm _).mp g1)
  refine⟨pre,post,h1,fun q hq=>?_⟩
  obtain⟨i,hi⟩:=List.mem_iff_getElem?.mp (h2 q hq)
  rw[z1]
  exact List.mem_map.mpr ⟨(q,i),(lm _).mpr hi,rfl⟩
 ·have:=pm.length_eq
  rw[List.length_map]at this
  show(m=7/\_)\/(m=31/\_)
  omega
end
end G
namespace G
open PySem PySem.Spec PySem.W PyProof.Rows L2 PySem.SeqAt
noncomputable def e1(x:List Int):D:=.tuple (x.map .int)
noncomputable def e2(k:List (List Int)):D:=.tuple (k.map e1)
theorem J3{h:Heap}{v:Value}{ds:List D}{as:List Addr}(r:Reads h v (.tuple ds) as):∃a o vs n,v=.ref a/\h.get? a=some o/\o.cls=.type "tuple" /\ o.data=.seq vs n/\ReadsAll h vs.toList ds as:=by
 cases r with
 | tuple k1 k2 k3 k4=>exact⟨_,_,_,_,rfl,k1,k2,k3,k4⟩
section
variable {P:Program}{w:World}{A:Around}{E:Value->Shared->Prop}{s:Shared}
theorem aC3{h:Heap}:∀{x:List Int}{vs:List Value}{as:List Addr},ReadsAll h vs (x.map .int) as->ItemsAre (intKind P w) x vs
 | [],_,_,r=>by cases r;exact .nil
 | i::x,_,_,r=>by
  cases r with
  | cons r1 r2=>cases r1;exact .cons (by simp[intKind,Value.isInt]) (aC3 r2)
theorem bD9{h:Heap}{x:List Int}{v:Value}{as:List Addr}(r:Reads h v (e1 x) as):∃b,v=.ref b/\(tupleKind (intKind P w)).is h x b:=by
 obtain⟨a,o,vs,n,e,h1,h2,h3,h4⟩:=J3 r
 exact⟨a,e,o,vs,n,h1,h2,h3,aC3 h4⟩
noncomputable def hs2(P:Program) (w:World) (k:List (List Int)):Int:=reduceHash (Builtin.Tuple.tupleHashOf (k.map (tupleKeyHash (intKind P w))))
noncomputable def dr2:List (List Int)->Nat
 | []=>0
 | x::k=>x.length+1+dr2 k
theorem bc2{Q:Array Int->Shared->Prop}(hu:A.units < cLine):∀(k:List (List Int)) (vs:List Value) (as:List Addr) (b:Array Int) (s:Shared),ReadsAll s.heap vs (k.map e1) as ->
  (∀b',b'.toList=b.toList++k.map (tupleKeyHash (intKind P w))->Q b' { s with toks:=s.toks+dr2 k }) ->
  wpAny (model P w) A (forIn vs b fun x r=>do let h ← pyHash x;pure PUnit.unit;pure (ForInStep.yield (r.push h))) Q E s
 | [],_,_,b,s,r,h=>by cases r;exact wpAny_pure (h b (by simp))
 | x::k,_,_,b,s,r,h=>by
  cases r with
  | cons r1 r2 =>
   obtain⟨c,rfl,q⟩:=bD9 (P:=P) (w:=w) r1
   rw[List.forIn_cons]
   refine wpAny_bind (wpAny_bind (wpAny_pyHash_tuple hu q ?_))
   refine wpAny_bind (wpAny_pure (wpAny_pure ?_))
   refine bc2 hu k _ _ _ _ r2 fun b' e=>?_
   have:=h b' (by simp[e])
   simpa [dr2,Nat.add_assoc] using this
theorem bY5{k:List (List Int)}{a:Addr}{as:List Addr}{Q:Int->Shared->Prop}(hu:A.units+2 < cLine) (r:Reads s.heap (.ref a) (e2 k) as) (h:Q (hs2 P w k) { s with toks:=s.toks+(dr2 k+1) }):wpAny (model P w) A (pyHash (.ref a)) Q E s:=by
 obtain⟨a',o,vs,n,e,h1,h2,h3,h4⟩:=J3 r
 cases e
 refine pyHash_slot (T := "tuple") ⟨o,h1,h2⟩ F.slot_tuple_hash F.entry_tuple_hash (F.args_tuple_hash_1 _) (beq_builtin_none _) (.inr (by omega)) ?_
 show wpAny _ _ (Builtin.Tuple.tupleItemsOf (.ref a) >>= _) _ _ s
 refine wpAny_bind (wpAny_tupleItemsOf h1 h3 (wpAny_bind ?_))
 rw[← Array.forIn_toList]
 refine bc2 (by simp only[Around.in1_units];omega) k _ _ _ _ h4 fun b e=>?_
 show wpAny _ _ (retInt (Builtin.Tuple.tupleHashOf b.toList)) _ _ _
 rw[e,List.nil_append]
 exact wpAny_bind (wpAny_mkInt (wpAny_pure ⟨_,_,rfl,h⟩))
theorem aT4{n:Nat}{a:Addr}{o:Obj}{vs:Array Value}{m:Nat}{Q:Bool->Shared->Prop}(h1:s.heap.get? a=some o) (h2:o.cls=.type "tuple") (h3:o.data=.seq vs m)
  (hv:∀v∈vs.toList,∀{A:Around}{E:Value->Shared->Prop}{Q:Bool->Shared->Prop},Q true s->wpAny (model P w) A (eqIsQuiet n v) Q E s) (h:Q true s):wpAny (model P w) A (eqIsQuiet (n+1) (.ref a)) Q E s:=by
 have hT:s.TypeIs (.ref a) "tuple" := ⟨o,h1,h2⟩
 unfold eqIsQuiet
 refine wpAny_bind (wpAny_specialOf hT F.slot_tuple_eq.lookup ?_)
 show wpAny _ _ (isInstance (.ref a) (.type "tuple") >>= _) _ _ s
 refine wpAny_bind (wpAny_isInstance hT isSubtype_tuple_tuple ?_)
 simp only[Bool.not_true,Bool.false_eq_true,if_false]
 refine wpAny_bind (wpAny_seqItems h1 h3 (wpAny_bind ?_))
 show wpAny _ _ (forIn vs _ _) _ _ s
 rw[← Array.forIn_toList]
 refine wpAny_forIn_list _ (fun D7 r s'=>r.1=none/\s'=s/\∀v∈D7,v∈vs.toList) _ ?_ ?_ _ _ ⟨rfl,rfl,fun _ q=>q⟩
 ·rintro v D7 r s' ⟨hr,rfl,q⟩
  refine wpAny_bind (hv v (q v (.head _)) ?_)
  simp only[Bool.not_true,Bool.false_eq_true,if_false]
  exact wpAny_pure ⟨rfl,rfl,fun u z=>q u (.tail _ z)⟩
 ·rintro⟨r1,r2⟩ s' ⟨hr,rfl,_⟩
  cases hr
  exact wpAny_pure h
theorem V1{h:Heap}:∀{ds:List D}{vs:List Value}{as:List Addr},ReadsAll h vs ds as->∀v∈vs,∃d∈ds,∃bs,Reads h v d bs
 | _,_,_,.nil,v,q=>nomatch q
 | _,_,_,.cons r1 r2,v,q=>by
  rcases List.mem_cons.mp q with rfl|q
  ·exact⟨_,.head _,_,r1⟩
  ·obtain⟨d,m,bs,r⟩:=V1 r2 v q
   exact⟨d,.tail _ m,bs,r⟩
theorem bE2{k:List (List Int)}{a:Addr}{as:List Addr}{Q:Bool->Shared->Prop}(r:Reads s.heap (.ref a) (e2 k) as) (h:Q true s):wpAny (model P w) A (eqIsQuiet 8 (.ref a)) Q E s:=by
 obtain⟨a',o,vs,n,e,h1,h2,h3,h4⟩:=J3 r
 cases e
 refine aT4 h1 h2 h3 (fun v hv A E Q q=>?_) h
 obtain⟨d,hd,bs,r'⟩:=V1 h4 v hv
 obtain⟨x,_,rfl⟩:=List.mem_map.mp hd
 obtain⟨b,o',us,m,rfl,g1,g2,g3,g4⟩:=J3 r'
 refine aT4 g1 g2 g3 (fun u hu A E Q q=>?_) q
 obtain⟨d',hd',bs',r''⟩:=V1 g4 u hu
 obtain⟨i,_,rfl⟩:=List.mem_map.mp hd'
 cases r''
 rw[eqIsQuiet_byValue _ rfl]
 exact wpAny_pure q
theorem j8{h:Heap}:∀{x y:List Int}{vs:List Value}{as bs:List Addr},ReadsAll h vs (x.map .int) as->ReadsAll h vs (y.map .int) bs->x=y
 | [],[],_,_,_,_,_=>rfl
 | [],_::_,_,_,_,r,q=>by cases r;cases q
 | _::_,[],_,_,_,r,q=>by cases q;cases r
 | i::x,j::y,_,_,_,r,q=>by
  cases r with
  | cons r1 r2 =>
   cases q with
   | cons q1 q2=>cases r1;cases q1;rw[j8 r2 q2]
theorem aL0{h:Heap}{x y:List Int}{v:Value}{as bs:List Addr}(r:Reads h v (e1 x) as) (q:Reads h v (e1 y) bs):x=y:=by
 obtain⟨a,o,vs,n,e,h1,h2,h3,h4⟩:=J3 r
 obtain⟨a',o',vs',n',e',g1,g2,g3,g4⟩:=J3 q
 cases e.symm.trans e';cases h1.symm.trans g1;cases h3.symm.trans g3
 exact j8 h4 g4
theorem x6{h:Heap}:∀{x y:List (List Int)}{vs:List Value}{as bs:List Addr},ReadsAll h vs (x.map e1) as->ReadsAll h vs (y.map e1) bs->x=y
 | [],[],_,_,_,_,_=>rfl
 | [],_::_,_,_,_,r,q=>by cases r;cases q
 | _::_,[],_,_,_,r,q=>by cases q;cases r
 | i::x,j::y,_,_,_,r,q=>by
  cases r with
  | cons r1 r2 =>
   cases q with
   | cons q1 q2=>rw[aL0 r1 q1,x6 r2 q2]
theorem aK9{h:Heap}{x y:List (List Int)}{v:Value}{as bs:List Addr}(r:Reads h v (e2 x) as) (q:Reads h v (e2 y) bs):x=y:=by
 obtain⟨a,o,vs,n,e,h1,h2,h3,h4⟩:=J3 r
 obtain⟨a',o',vs',n',e',g1,g2,g3,g4⟩:=J3 q
 cases e.symm.trans e';cases h1.symm.trans g1;cases h3.symm.trans g3
 exact x6 h4 g4
theorem av0{h h':Heap}{f:α->D}(hf:∀x v as,Reads h v (f x) as->Reads h' v (f x) as):∀{x:List α}{vs:List Value}{as:List Addr},ReadsAll h vs (x.map f) as->ReadsAll h' vs (x.map f) as
 | [],_,_,r=>by cases r;exact .nil
 | i::x,_,_,r=>by
  cases r with
  | cons r1 r2=>exact .cons (hf _ _ _ r1) (av0 hf r2)
theorem aC2{h h':Heap}{f:α->D}{d:Addr}{o:Obj}{es:Array DictEntry}{ep:Nat}(ho:h.get? d=some o) (hd:o.data=.dict es ep) (hs:Heap.SameBut d h h') (hf:∀x v as,Reads h v (f x) as->Reads h' v (f x) as)
  {x:List α}{v:Value}{as:List Addr}(r:Reads h v (.tuple (x.map f)) as):Reads h' v (.tuple (x.map f)) as:=by
 obtain⟨a,o',vs,n,rfl,h1,h2,h3,h4⟩:=J3 r
 have ne:a≠d:=by rintro rfl;cases ho.symm.trans h1;rw[hd]at h3;cases h3
 exact .tuple ((hs.2 a ne).trans h1) h2 h3 (av0 hf h4)
theorem aq5:∀x y:List Int,PyData.eqvAll (x.map .int) (y.map .int)=decide (x=y)
 | [],[]=>by rfl
 | [],_::_=>by rfl
 | _::_,[]=>by rfl
 | i::x,j::y=>by simp only[List.map_cons,PyData.eqvAll,aq5 x y,PyData.eqv];by_cases h:i=j<;>by_cases g:x=y<;>simp[h,g]
theorem bd5(x y:List Int):PyData.eqv (e1 x) (e1 y)=decide (x=y):=by simp only[e1,PyData.eqv];exact aq5 x y
theorem aG6:∀x y:List (List Int),PyData.eqvAll (x.map e1) (y.map e1)=decide (x=y)
 | [],[]=>by rfl
 | [],_::_=>by rfl
 | _::_,[]=>by rfl
 | i::x,j::y=>by simp only[List.map_cons,PyData.eqvAll,aG6 x y,bd5];by_cases h:i=j<;>by_cases g:x=y<;>simp[h,g]
theorem ak5(x y:List (List Int)):PyData.eqv (e2 x) (e2 y)=decide (x=y):=by simp only[e2,PyData.eqv];exact aG6 x y
theorem X5:∀x:List Int,PyData.canLayAll0 (x.map .int)=true/\PyData.depthAll (x.map .int)<=1
 | []=>⟨rfl,by simp[PyData.depthAll]⟩
 | i::x=>⟨by simp[PyData.canLayAll0,PyData.canLay0,(X5 x).1],by have:=(X5 x).2;simp only[List.map_cons,PyData.depthAll,PyData.depth];omega⟩
theorem r6:∀x:List (List Int),PyData.canLayAll0 (x.map e1)=true/\PyData.depthAll (x.map e1)<=2
 | []=>⟨rfl,by simp[PyData.depthAll]⟩
 | i::x=>⟨by simp[PyData.canLayAll0,e1,PyData.canLay0,(X5 i).1];exact(r6 x).1,by have:=(r6 x).2;have:=(X5 i).2;simp only[List.map_cons,PyData.depthAll,PyData.depth,e1]at *;omega⟩
theorem V6(x:List (List Int)):(e2 x).canLay0=true/\(e2 x).depth<=3:=⟨by simp[e2,PyData.canLay0];exact(r6 x).1,by have:=(r6 x).2;simp only[e2,PyData.depth];omega⟩
end
noncomputable def k2(P:Program) (w:World):HeapKind P w (List (List Int)) where
 is h k a:=∃as,Reads h (.ref a) (e2 k) as
 hash:=hs2 P w
 draws k:=dr2 k+1
 room A:=A.units+9 < cLine
 inj:=fun⟨_,r⟩ ⟨_,q⟩=>aK9 r q
 keeps:=fun⟨_,r⟩ ho hd hs=>⟨_,aC2 ho hd hs (fun x v as r=>aC2 ho hd hs (fun i v as r=>by cases r;exact .int _ _) r) r⟩
 pyHash:=fun hu ⟨_,r⟩ h=>bY5 (by omega) r h
 eqBool:=fun{A E s x y a b Q} hu ⟨_,r⟩ ⟨_,q⟩ h=>eqAt_reads (e2 x) (e2 y) A s _ _ _ _ r q (V6 x).1 (V6 y).1 (by have:=(V6 x).2;have:=Nat.min_le_left (e2 x).depth (e2 y).depth;omega) _ _ _ _ (by rw[ak5];exact h)
 quiet:=fun⟨_,r⟩ h=>bE2 r h
end G
namespace G
open PySem PySem.Spec PySem.W PyProof.Rows L2 PySem.SeqAt
section
variable {P:Program}{w:World}{A:Around}{E:Value->Shared->Prop}{s:Shared}
theorem bY4(h1:s.heap.get? a=some o) (h2:o.cls=.type "tuple") (h3:o.data=.seq vs m)
  (hv:∀v∈vs.toList,∀{A:Around}{E:Value->Shared->Prop}{Q:Bool->Shared->Prop},Q true s->wpAny (model P w) A (hashByValue n v) Q E s) (h:Q true s):wpAny (model P w) A (hashByValue (n+1) (.ref a)) Q E s:=by
 have hT:s.TypeIs (.ref a) "tuple" := ⟨o,h1,h2⟩
 unfold hashByValue
 refine wpAny_bind (wpAny_specialOf hT F.slot_tuple_hash.lookup ?_)
 dsimp only
 refine wpAny_bind (wpAny_seqItems h1 h3 (wpAny_bind ?_))
 show wpAny _ _ (forIn vs _ _) _ _ s
 rw[← Array.forIn_toList]
 refine wpAny_forIn_list _ (fun D7 r s'=>r.1=none/\s'=s/\∀v∈D7,v∈vs.toList) _ ?_ ?_ _ _ ⟨rfl,rfl,fun _ q=>q⟩
 ·rintro v D7 r s' ⟨hr,rfl,q⟩
  refine wpAny_bind (hv v (q v (.head _)) ?_)
  simp only[Bool.not_true,Bool.false_eq_true,if_false]
  exact wpAny_pure ⟨rfl,rfl,fun u z=>q u (.tail _ z)⟩
 ·rintro⟨r1,r2⟩ s' ⟨hr,rfl,_⟩
  cases hr
  exact wpAny_pure h
theorem cd2(r:Reads s.heap (.ref a) (e2 k) as) (h:Q true s):wpAny (model P w) A (hashByValue 8 (.ref a)) Q E s:=by
 obtain⟨a',o,vs,n,e,h1,h2,h3,h4⟩:=J3 r
 cases e
 refine bY4 h1 h2 h3 (fun v hv A E Q q=>?_) h
 obtain⟨d,hd,bs,r'⟩:=V1 h4 v hv
 obtain⟨x,_,rfl⟩:=List.mem_map.mp hd
 obtain⟨b,o',us,m,rfl,g1,g2,g3,g4⟩:=J3 r'
 refine bY4 g1 g2 g3 (fun u hu A E Q q=>?_) q
 obtain⟨d',hd',bs',r''⟩:=V1 g4 u hu
 obtain⟨i,_,rfl⟩:=List.mem_map.mp hd'
 cases r''
 exact wpAny_pure q
theorem bV9(h1:s.heap.get? a=some o) (h2:o.cls=.type "tuple") (h3:o.data=.seq vs m)
  (hv:∀v∈vs.toList,∀{A:Around}{E:Value->Shared->Prop}{Q:Bool->Shared->Prop},Q false s->wpAny (model P w) A (ofAClassStatement n v) Q E s) (h:Q false s):wpAny (model P w) A (ofAClassStatement (n+1) (.ref a)) Q E s:=by
 have hT:s.TypeIs (.ref a) "tuple" := ⟨o,h1,h2⟩
 unfold ofAClassStatement
 refine wpAny_bind (wpAny_typeOf hT ?_)
 dsimp only
 rw[if_pos (by decide)]
 refine wpAny_bind (wpAny_pure ?_)
 simp only[Bool.not_true,Bool.false_eq_true,if_false]
 refine wpAny_bind (wpAny_seqItems h1 h3 ?_)
 show wpAny _ _ (forIn vs _ _ >>= _) _ _ s
 rw[← Array.forIn_toList]
 refine wpAny_bind (wpAny_forIn_list _ (fun D7 r s'=>r.1=none/\s'=s/\∀v∈D7,v∈vs.toList) _ ?_ ?_ _ _ ⟨rfl,rfl,fun _ q=>q⟩)
 ·rintro v D7 r s' ⟨hr,rfl,q⟩
  refine wpAny_bind (hv v (q v (.head _)) ?_)
  simp only[Bool.false_eq_true,if_false]
  exact wpAny_pure ⟨rfl,rfl,fun u z=>q u (.tail _ z)⟩
 ·rintro⟨r1,r2⟩ s' ⟨hr,rfl,_⟩
  cases hr
  exact wpAny_pure h
theorem bV8(r:Reads s.heap (.ref a) (e2 k) as) (h:Q false s):wpAny (model P w) A (ofAClassStatement 8 (.ref a)) Q E s:=by
 obtain⟨a',o,vs,n,e,h1,h2,h3,h4⟩:=J3 r
 cases e
 refine bV9 h1 h2 h3 (fun v hv A E Q q=>?_) h
 obtain⟨d,hd,bs,r'⟩:=V1 h4 v hv
 obtain⟨x,_,rfl⟩:=List.mem_map.mp hd
 obtain⟨b,o',us,m,rfl,g1,g2,g3,g4⟩:=J3 r'
 refine bV9 g1 g2 g3 (fun u hu A E Q q=>?_) q
 obtain⟨d',hd',bs',r''⟩:=V1 g4 u hu
 obtain⟨i,_,rfl⟩:=List.mem_map.mp hd'
 cases r''
 unfold ofAClassStatement
 exact wpAny_pure q
theorem bA8(hx:(k2 P w).is s.heap k x) (hy:∀y∈ys,∃k' b,y=.ref b/\(k2 P w).is s.heap k' b) (h:Q false s):wpAny (model P w) A (searchCouldBeSeen (.ref x) ys) Q E s:=by
 unfold searchCouldBeSeen
 refine wpAny_bind (wpAny_forIn_list _ (fun D7 r s'=>r.1=none/\s'=s/\∀v∈D7,v∈ys) _ ?_ ?_ _ _ ⟨rfl,rfl,fun _ q=>q⟩)
 ·rintro v D7 r s' ⟨hr,rfl,q⟩
  obtain⟨k',b,rfl,hb⟩:=hy v (q v (.head _))
  dsimp only
  refine wpAny_ite_split (fun _=>wpAny_pure ⟨rfl,rfl,fun u z=>q u (.tail _ z)⟩) fun _=>?_
  refine wpAny_bind ((k2 P w).quiet hx ?_)
  simp only[Bool.not_true,Bool.false_eq_true,if_false]
  refine wpAny_bind ((k2 P w).quiet hb ?_)
  simp only[Bool.not_true,Bool.false_eq_true,if_false]
  refine wpAny_bind (let⟨_,r⟩:=hx;bV8 r ?_)
  simp only[Bool.false_eq_true,if_false]
  refine wpAny_bind (let⟨_,r⟩:=hb;bV8 r ?_)
  simp only[Bool.false_eq_true,if_false]
  exact wpAny_pure ⟨rfl,rfl,fun u z=>q u (.tail _ z)⟩
 ·rintro⟨r1,r2⟩ s' ⟨hr,rfl,_⟩
  cases hr
  exact wpAny_pure h
noncomputable abbrev Sp2:=List (List Int)
noncomputable abbrev Zs:=List (Nat×Sp2×Addr)
noncomputable abbrev hsA(P:Program) (w:World) (y:Sp2×Addr):Int:=hs2 P w y.1
theorem cc1(hu:A.units+9 < cLine) (hx:(k2 P w).is s.heap k x) (ho:s.heap.get? a=some o) (hd:o.data=.set es ep t)
  (hes:es.toList=zs.map fun z=>(hs2 P w z.2.1,Value.ref z.2.2)) (hk:∀z∈zs,(k2 P w).is s.heap z.2.1 z.2.2) (T:TOkS (hsA P w) t zs)
  (q1:∀z∈zs,z.2.1=k->Q (.there none) s) :
  ∀(n:Nat) (L:List Nat) (st:Option SetTable.Probe) (f:Nat),L.length<=n->AtP t (st.getD (t.probeStart (hs2 P w k))) L->(st.getD (t.probeStart (hs2 P w k))).dummy=none->L.length<=10*SetTable.turns t.mask->L.length < f->(∃e∈L,e∉zs.map (·.1)) ->
   (∀pre e post,L=pre++e::post->(∀q∈pre,∃z∈zs,z.1=q/\z.2.1≠k)->e∉zs.map (·.1)->Q (.free e false) s) ->
   wpAny (model P w) A (setSearchFrom a (.ref x) (hs2 P w k) true f st) Q E s:=by
 have hz:es.size=zs.length:=by rw[← Array.length_toList,hes,List.length_map]
 have hf:t.fits es.size=true:=by rw[hz];exact T.fits
 have gv:t.gaveWay=false:=by
  unfold SetTable.gaveWay
  rcases T.sz with⟨h,_⟩|⟨h,_⟩<;>rw[h]<;>rfl
 have at_:∀(i:Nat) (z:Nat×Sp2×Addr),zs[i]? = some z->es[i]? = some (hs2 P w z.2.1,Value.ref z.2.2):=fun i z h=>by
  rw[← Array.getElem?_toList,hes,List.getElem?_map,h];rfl
 intro n
 induction n with
 | zero =>
  intro L st f hn _ _ _ _ ⟨e,he,_⟩
  have:=List.length_pos_of_mem he
  omega
 | succ n ih =>
  intro L st f hn hp hdm hlt hfl hex q2
  obtain⟨f,rfl⟩:∃g,f=g+1:=⟨f - 1,by omega⟩
  have hex':∃e∈L,¬∃z∈zs,z.1=e/\hs2 P w z.2.1≠hs2 P w k:=by
   obtain⟨e,he,hn⟩:=hex
   exact⟨e,he,fun⟨z,hz,e1,_⟩=>hn (List.mem_map.mpr ⟨z,hz,e1⟩)⟩
  obtain⟨pre,e,post,rfl,hpre,hne⟩:=aa9 L hex'
  have lv:∀q∈pre,∃i,t.slot q=.live i/\(es[i]?.map (·.1)).getD 0≠hs2 P w k:=fun q hq=>by
   obtain⟨z,hz,rfl,h⟩:=hpre q hq
   obtain⟨i,hi⟩:=List.mem_iff_getElem?.mp hz
   exact⟨i,T.live hi,by rw[at_ i z hi];exact h⟩
  have pl:pre.length < 10*SetTable.turns t.mask:=by rw[List.length_append,List.length_cons]at hlt;omega
  unfold setSearchFrom
  refine wpAny_bind (wpAny_setState_of ho hd hf ?_)
  dsimp only
  rw[gv]
  simp only[Bool.false_eq_true,if_false]
  generalize hq:t.probe _ (hs2 P w k) (st.getD (t.probeStart (hs2 P w k)))=r
  by_cases hfree:e∈zs.map (·.1)
  ·obtain⟨z,hz,rfl⟩:=List.mem_map.mp hfree
   have hh:hs2 P w z.2.1=hs2 P w k:=Classical.byContradiction fun q=>hne ⟨z,hz,rfl,q⟩
   obtain⟨i,hi⟩:=List.mem_iff_getElem?.mp hz
   obtain⟨nx,g1,g2,g3⟩:=aG0 (hA:=fun i=>(es[i]?.map (·.1)).getD 0) (h:=hs2 P w k) pre _ (10*SetTable.turns t.mask) hp lv (T.live hi) (by show(es[i]?.map (·.1)).getD 0=_;rw[at_ i z hi];exact hh) pl
   have e:r=some (.candidate z.1 i nx):=hq.symm.trans g1
   subst e
   dsimp only
   have D7:wpAny (model P w) A (do
     let some (_,y):=es[i]?|unsupported "internal:set-entry"
     let equal ← holding [y] (eqBool y (.ref x))
     let(es',_,t') ← setState a
     if true&&equal then return .there none
     let some sme:=t'.sameMemory t.moves t.mask|unsupported "set.changed-during-lookup:is-the-new-block-at-the-old-address"
     let still ← match (if sme then t'.slot z.1 else .empty) with
      | .live i'=>match es'[i']? with
       | some (_,y')=>do pure (if ← isSame y' y then some i' else none)
       | none=>pure none
      | _=>pure none
     match still with
     | none=>rule "set.search.anew";setSearchFrom a (.ref x) (hs2 P w k) true f none
     | some i'=>if equal then return .there (some i') else setSearchFrom a (.ref x) (hs2 P w k) true f (some nx)) Q E s:=by
    rw[at_ i z hi]
    dsimp only
    refine wpAny_bind (wpAny_holding ((k2 P w).eqBool hu (hk z hz) hx ?_))
    refine wpAny_bind (wpAny_setState_of ho hd hf ?_)
    dsimp only
    by_cases hkk:z.2.1=k
    ·rw[decide_eq_true hkk]
     simp only[Bool.and_self,if_true]
     exact wpAny_pure (q1 z hz hkk)
    ·rw[decide_eq_false hkk]
     simp only[Bool.and_false,Bool.false_eq_true,if_false]
     have sm:t.sameMemory t.moves t.mask=some true:=by unfold SetTable.sameMemory;simp
     rw[sm]
     dsimp only
     simp only[if_true]
     rw[T.live hi]
     dsimp only
     rw[at_ i z hi]
     dsimp only
     refine wpAny_bind (wpAny_isSame_ref_self (wpAny_bind (wpAny_pure ?_)))
     simp only[if_true]
     rw[List.length_append,List.length_cons]at hn hfl hlt
     have hex2:∃e∈post,e∉zs.map (·.1):=by
      obtain⟨e',he',hn'⟩:=hex
      rcases List.mem_append.mp he' with y|y
      ·obtain⟨z',hz',e1,_⟩:=hpre e' y
       exact absurd (List.mem_map.mpr ⟨z',hz',e1⟩) hn'
      ·rcases List.mem_cons.mp y with y|y
       ·subst y;exact absurd hfree hn'
       ·exact⟨e',y,hn'⟩
     refine ih post (some nx) f (by omega) g2 (g3.trans hdm) (by omega) (by omega) hex2 fun pre' e' post' e1 h1 h2=>?_
     refine q2 (pre++z.1::pre') e' post' (by rw[e1];simp) (fun q hq=>?_) h2
     rcases List.mem_append.mp hq with y|y
     ·obtain⟨z',hz',e1,hh'⟩:=hpre q y
      exact⟨z',hz',e1,fun c=>hh' (by rw[c])⟩
     ·rcases List.mem_cons.mp y with y|y
      ·subst y;exact⟨z,hz,rfl,hkk⟩
      ·exact h1 q y
   by_cases hl:t.led=true
   ·rw[hl]
    simp only[Bool.not_true,Bool.false_eq_true,if_false]
    exact D7
   ·rw[Bool.not_eq_true]at hl
    rw[hl]
    simp only[Bool.not_false,if_true]
    refine wpAny_bind (bA8 hx (fun y hy=>?_) ?_)
    ·obtain⟨p,hp',rfl⟩:=List.mem_map.mp hy
     have hp'':p∈es.toList:=by
      have:p∈es/\p.fst=hs2 P w k:=by simpa using hp'
      simpa using this.1
     rw[hes]at hp''
     obtain⟨z',hz',rfl⟩:=List.mem_map.mp hp''
     exact⟨_,_,rfl,hk z' hz'⟩
    ·simp only[Bool.false_eq_true,if_false]
     exact D7
  ·have g1:=aq2 (hA:=fun i=>(es[i]?.map (·.1)).getD 0) (h:=hs2 P w k) pre _ (10*SetTable.turns t.mask) hp lv (T.free hfree) pl
   have e':r=some (.empty e none):=by rw[hdm]at g1;exact hq.symm.trans g1
   subst e'
   dsimp only
   refine wpAny_pure (q2 pre e post rfl (fun q hq=>?_) hfree)
   obtain⟨z',hz',e1,hh'⟩:=hpre q hq
   exact⟨z',hz',e1,fun c=>hh' (by rw[c])⟩
end
end G
namespace G
open PySem PySem.Spec PySem.W PyProof.Rows L2 PySem.SeqAt
section
variable {P:Program}{w:World}{A:Around}{E:Value->Shared->Prop}{s:Shared}
theorem aC1{h h':Heap}{f:α->D}(hs:∀b o vs n,h.get? b=some o->o.data=.seq vs n->h'.get? b=some o) (hf:∀x v as,Reads h v (f x) as->Reads h' v (f x) as)
  {x:List α}{v:Value}{as:List Addr}(r:Reads h v (.tuple (x.map f)) as):Reads h' v (.tuple (x.map f)) as:=by
 obtain⟨a,o',vs,n,rfl,h1,h2,h3,h4⟩:=J3 r
 exact .tuple (hs a _ _ _ h1 h3) h2 h3 (av0 hf h4)
theorem aa4(hs:∀b o vs n,h.get? b=some o->o.data=.seq vs n->h'.get? b=some o) (q:(k2 P w).is h k b):(k2 P w).is h' k b:=by
 obtain⟨as,r⟩:=q
 exact⟨as,aC1 hs (fun x v as r=>aC1 hs (fun i v as r=>by cases r;exact .int _ _) r) r⟩
noncomputable abbrev Kz(P:Program) (w:World) (h:Heap) (zs:Zs):Prop:=∀z∈zs,(k2 P w).is h z.2.1 z.2.2
noncomputable def eOf(P:Program) (w:World) (y:Sp2×Addr):Int×Value:=(hs2 P w y.1,Value.ref y.2)
structure StO (P:Program) (w:World) (o:Obj) (zs:Zs):Prop where
 ex:o.ExactSet
 dt:∃es ep t,o.data=.set es ep t/\es.toList=(zs.map (·.2)).map (eOf P w)/\TOkS (hsA P w) t zs/\(t.mask=7->zs.length<=4)/\t.led = !(w.params.followText "set-order")/\t.plain=true
 nd:(zs.map (·.2.1)).Nodup
noncomputable def StS(P:Program) (w:World) (h:Heap) (a:Addr) (zs:Zs):Prop:=∃o,h.get? a=some o/\StO P w o zs
theorem bo7{zs zs':Zs}(h:(zs'.map (·.2)).Perm (zs.map (·.2))) (n:(zs.map (·.2.1)).Nodup):(zs'.map (·.2.1)).Nodup:=by
 have:=(h.map (·.1)).nodup_iff
 rw[List.map_map,List.map_map]at this
 exact this.mpr n
theorem bk7(hu:A.units+9 < cLine) (hx:(k2 P w).is s.heap k x) (hS:StS P w s.heap a zs) (hK:Kz P w s.heap zs) (hz:zs.length < 18)
  (h:∀b h' zs',(∀c,c≠a->h'.get? c=s.heap.get? c)->StS P w h' a zs'->(zs'.map (·.2)).Perm (if k∈zs.map (·.2.1) then zs.map (·.2) else(k,x)::zs.map (·.2))->Q b { s with heap:=h' }):wpAny (model P w) A (setAddHashed a (.ref x) (hs2 P w k)) Q E s:=by
 obtain⟨o,ho,⟨hex,⟨es,ep,t,hd,hes,T,h4,hle,hpl⟩,hnd⟩⟩:=hS
 have hsz:es.size=zs.length:=by rw[← Array.length_toList,hes];simp
 have hf:t.fits es.size=true:=by rw[hsz];exact T.fits
 have hes':es.toList=zs.map fun z=>(hs2 P w z.2.1,Value.ref z.2.2):=by rw[hes,List.map_map];rfl
 unfold setAddHashed
 refine wpAny_holding ?_
 unfold setAddHashedIn
 refine wpAny_bind (wpAny_setState_of ho hd hf ?_)
 dsimp only
 have bs:byScan (.ref x) es=false:=by simp[byScan,Value.scannable]
 rw[bs]
 simp only[Bool.false_eq_true,if_false]
 unfold setSearch
 have sl:(sqH t.mask (hs2 P w k)).length<=10*SetTable.turns t.mask:=aB2 _ _ _ _
 have tl:10*SetTable.turns t.mask < 100000:=by
  unfold SetTable.turns
  have:=T.sz
  omega
 refine wpAny_bind (cc1 hu hx ho hd hes' hK T (fun z hz hzk=>?_) _ (sqH t.mask (hs2 P w k)) none 100000 (Nat.le_refl _) (bg5 t _) rfl sl (by omega) (T.room _) fun pre e post hL hpre hfree=>?_)
 ·dsimp only
  refine wpAny_pure ?_
  have hm:k∈zs.map (·.2.1):=List.mem_map.mpr ⟨z,hz,hzk⟩
  have:=h false s.heap zs (fun _ _=>rfl) ⟨o,ho,⟨hex,⟨es,ep,t,hd,hes,T,h4,hle,hpl⟩,hnd⟩⟩ (by rw[if_pos hm])
  exact this
 ·dsimp only
  have hnk:k∉zs.map (·.2.1):=fun q=>by
   obtain⟨z,hz,rfl⟩:=List.mem_map.mp q
   obtain⟨pre',post',h1,h2⟩:=T.rc z hz
   have h1':sqH t.mask (hs2 P w z.2.1)=pre'++z.1::post':=h1
   rw[hL]at h1'
   rcases List.append_eq_append_iff.mp h1' with⟨c,c1,c2⟩|⟨c,c1,c2⟩
   ·cases c with
    | nil =>
     simp at c2
     exact hfree (List.mem_map.mpr ⟨z,hz,c2.1.symm⟩)
    | cons d c =>
     simp at c2
     exact hfree (h2 e (by rw[c1,← c2.1];simp))
   ·cases c with
    | nil =>
     simp at c2
     exact hfree (List.mem_map.mpr ⟨z,hz,c2.1⟩)
    | cons d c =>
     simp at c2
     obtain⟨z',hz',e1,e2⟩:=hpre z.1 (by rw[c1,c2.1];simp)
     have:z'=z:=by
      obtain⟨i,hi⟩:=List.mem_iff_getElem?.mp hz
      obtain⟨j,hj⟩:=List.mem_iff_getElem?.mp hz'
      have a:=T.live hi
      have b:=T.live hj
      rw[e1,a]at b
      cases b
      rw[hi]at hj
      exact(Option.some.inj hj).symm
     exact e2 (by rw[this])
  obtain⟨p,hp1,T',m1,m2,m3,m4⟩:=T.put (x:=((k,x):Sp2×Addr)) (pre:=pre) (post:=post) (e:=e) hL (fun q hq=>let⟨z,hz,e1,_⟩:=hpre q hq;List.mem_map.mpr ⟨z,hz,e1⟩) hfree (by have:=T.sz;omega)
  refine wpAny_bind (wpAny_setState_of ho hd hf ?_)
  dsimp only
  generalize t.put e=tp at *
  obtain⟨t1,p1⟩:=tp
  have hp2:p1=p:=congrArg Prod.snd hp1
  subst hp2
  dsimp only at T' m1 m2 m3 m4 ⊢
  rw[m3.trans hpl]
  simp only[if_true]
  refine wpAny_bind (let⟨_,r⟩:=hx;cd2 r ?_)
  simp only[if_true]
  have hes1:(SetTable.insertAt es p1 (hs2 P w k,.ref x)).toList=((zs.take p1++(e,k,x)::zs.drop p1).map (·.2)).map (eOf P w):=by
   rw[SetTable.toList_insertAt,hes]
   simp[List.map_take,List.map_drop,eOf]
  have pm:((zs.take p1++(e,k,x)::zs.drop p1).map (·.2)).Perm ((k,x)::zs.map (·.2)):=by
   have:(zs.take p1++(e,k,x)::zs.drop p1).Perm ((e,k,x)::zs):=by
    refine List.perm_middle.trans ?_
    rw[List.take_append_drop]
   exact this.map _
  have len:(zs.take p1++(e,k,x)::zs.drop p1).length=zs.length+1:=by simpa using pm.length_eq
  generalize hes2:SetTable.insertAt es p1 (hs2 P w k,Value.ref x)=es1 at hes1
  generalize hzs1:zs.take p1++(e,k,x)::zs.drop p1=zs1 at hes1 pm len T'
  have nd1:(zs1.map (·.2.1)).Nodup:=by
   have:=(pm.map (·.1)).nodup_iff
   rw[List.map_map]at this
   refine this.mpr ?_
   rw[List.map_cons,List.nodup_cons,List.map_map]
   exact⟨hnk,hnd⟩
  have sz1:es1.size=zs1.length:=by rw[← Array.length_toList,hes1];simp
  have b1:es1.size<=sizeLine:=by rw[sizeLine_eq];omega
  refine wpAny_bind (wpAny_storeSet_of ho hd ?_ b1)
  have hg:(s.heap.update a (Obj.putSet es1 t1)).get? a=some { o with data:=.set es1 (ep+1) t1 }:=by
   have:=Heap.get?_update_self (Obj.putSet es1 t1) ho (by rw[putSet_of es1 t1 hd];rfl)
   rw[putSet_of es1 t1 hd]at this;exact this
  have sb1:=Heap.SameBut.update s.heap a (Obj.putSet es1 t1)
  have tf:t1.tooFull=decide (t1.mask=7/\zs.length=4):=by
   have e1:t1.fill=zs.length+1:=by
    have:=T'.fits
    simp only[SetTable.fits,Bool.and_eq_true,beq_iff_eq,decide_eq_true_eq]at this
    unfold SetTable.fill
    rw[T'.du,this.1,len];rfl
   unfold SetTable.tooFull
   rw[e1]
   have:=T.sz
   have:=h4
   rw[m1]
   by_cases hc:t.mask=7/\zs.length=4
   ·rw[decide_eq_true hc,hc.1,hc.2];rfl
   ·rw[decide_eq_false hc]
    simp only[ge_iff_le,decide_eq_false_iff_not]
    omega
  rw[tf]
  by_cases hc:t1.mask=7/\zs.length=4
  ·rw[decide_eq_true hc]
   simp only[Bool.not_false,Bool.and_self,if_true]
   refine wpAny_bind ?_
   unfold setRelay
   have hf1:t1.fits es1.size=true:=by rw[sz1];exact T'.fits
   refine wpAny_bind (wpAny_setState_of hg rfl hf1 ?_)
   dsimp only
   have gw:SetTable.grown (es.size+1)=20:=by rw[hsz,hc.2];rfl
   rw[gw]
   have sa:SetTable.sizeAbove 20=32:=by decide
   rw[if_neg (by rw[sa,sizeLine_eq];omega)]
   obtain⟨t2,od,zs2,l1,T2,pm2,l2,l3,l4,l5⟩:=bp4 (hf:=hsA P w) (m:=31) (.inr rfl) (zs1.map (·.2)) (.inr ⟨rfl,by simp;omega⟩) t1.finger (t1.movedTo 31) t1.led t1.plain
   have hh:es1.map (·.1)=((zs1.map (·.2)).map (hsA P w)).toArray:=by
    apply Array.toList_inj.mp
    rw[Array.toList_map,hes1]
    simp only[List.map_map,List.toList_toArray]
    rfl
   have rl:t1.relaid (es1.map (·.1)) 20=some (t2,od):=by
    unfold SetTable.relaid
    rw[sa,hh]
    exact l1
   show wpAny _ _ ((do
    let some (t,order):=t1.relaid (es1.map (·.1)) 20|unsupported "internal:set-table-without-room"
    let es':=order.filterMap (es1[·]?)
    if es'.size != es1.size then unsupported "internal:set-table-lost-an-element"
    pure (es',t)) >>= fun p=>storeSet a p.1 p.2) _ _ _
   rw[rl]
   dsimp only
   have f2:(od.filterMap (es1[·]?)).toList=(zs2.map (·.2)).map (eOf P w):=by
    rw[Array.toList_filterMap,← l2,List.map_filterMap]
    congr 1
    funext i
    rw[← Array.getElem?_toList,hes1,List.getElem?_map]
   have z2:(od.filterMap (es1[·]?)).size=es1.size:=by
    rw[← Array.length_toList,f2,List.length_map,pm2.length_eq,List.length_map,sz1]
   rw[show((od.filterMap (es1[·]?)).size != es1.size)=false by rw[z2];simp]
   simp only[Bool.false_eq_true,if_false]
   refine wpAny_bind (wpAny_pure ?_)
   dsimp only
   refine wpAny_storeSet_of hg rfl ?_ (by rw[z2];exact b1)
   generalize od.filterMap (es1[·]?)=es2 at f2 z2
   have hg2:((s.heap.update a (Obj.putSet es1 t1)).update a (Obj.putSet es2 t2)).get? a=some { o with data:=.set es2 (ep+1+1) t2 }:=by
    have:=Heap.get?_update_self (Obj.putSet es2 t2) hg (by rw[putSet_of es2 t2 rfl];rfl)
    rw[putSet_of es2 t2 rfl]at this;exact this
   refine wpAny_pure (h true _ zs2 (fun c hc=>?_) ⟨_,hg2,⟨hex,⟨es2,_,t2,rfl,f2,T2,fun q=>?_,by rw[l3,m2,hle],by rw[l4,m3,hpl]⟩,bo7 pm2 nd1⟩⟩ ?_)
   ·rw[(Heap.SameBut.update (s.heap.update a (Obj.putSet es1 t1)) a (Obj.putSet es2 t2)).2 c hc,sb1.2 c hc]
   ·rw[l5]at q;cases q
   ·rw[if_neg hnk];exact pm2.trans pm
  ·rw[decide_eq_false hc]
   simp only[Bool.and_false,Bool.false_eq_true,if_false]
   refine wpAny_pure (h true _ zs1 (fun c hc=>sb1.2 c hc) ⟨_,hg,⟨hex,⟨es1,_,t1,rfl,hes1,T',fun q=>?_,by rw[m2,hle],by rw[m3,hpl]⟩,nd1⟩⟩ (by rw[if_neg hnk];exact pm))
   have:t.mask=7:=m1 ▸ q
   have:=h4 this
   omega
end
end G
namespace G
open PySem PySem.Spec PySem.W PyProof.Rows L2 PySem.SeqAt
section
variable {P:Program}{w:World}{A:Around}{E:Value->Shared->Prop}{s:Shared}
noncomputable abbrev y9(w:World):Obj:=bo6 (!(w.params.followText "set-order"))
theorem bD2(v:Value) {Q1:Value->Shared->Prop}(h:Q1 (.ref s.heap.objs.size) { s with heap:=s.heap.push (y9 w) }) :
  codeAny (model P w) A (.call (.builtin "set.__new__") ⟨[.type "set", v],[]⟩) (wants Q1 E) s:=by
 refine codeAny_of_tree ?_
 show wpAny _ A.in1 (checkBuiltinCall "set.__new__" ⟨[.type "set", v],[]⟩ >>= fun _=>again (.builtin "set.__new__" ⟨[.type "set", v],[]⟩)) _ _ s
 refine wpAny_bind (wpAny_of_eq (F.newCall_set_1 v) (wpAny_pure ⟨plainId_quiet F.plain_set_new _,codeAny_builtin F.entry_set_new ?_⟩))
 rw[Around.under_plainId F.plain_set_new _]
 unfold Builtin.«set.__new__» Builtin.Frozenset.newClass
 have ss:=sub_set_self
 obtain⟨g1,g2,g3,g4,g5⟩:=s
 dsimp only
 wp_walk
 refine wpAny_askSetting (wpAny_pure ?_)
 dsimp only
 simp only[newObj]
 exact wpAny_bind (wpAny_alloc (wpAny_pure (wpAny_pure h)))
theorem bj2(h:Heap):StS P w (h.push (y9 w)) h.objs.size []:=by
 refine⟨_,Heap.get?_push_size _ rfl,⟨⟨rfl,rfl,rfl⟩,⟨#[],0,_,rfl,rfl,⟨rfl,rfl,List.Pairwise.nil,fun z hz=>by simp at hz,.inl ⟨rfl,by simp⟩⟩,fun _=>by simp,rfl,rfl⟩,List.nodup_nil⟩⟩
theorem StS.keep{h h':Heap}{a:Addr}{zs:Zs}(q:StS P w h a zs) (k:∀o,h.get? a=some o->h'.get? a=some o):StS P w h' a zs:=let⟨o,e,r⟩:=q;⟨o,k _ e,r⟩
theorem bk2{J S l:Addr}{its:Array Value}{ys:List (Sp2×Addr)}{R:Result->Shared->Prop}(hh:A.in1.handled=none) (hJ:l≠J) (hSJ:S≠J) (hSl:S≠l) (hu:A.units+10 < cLine) (hits:its.toList=ys.map fun y=>Value.ref y.2) (hn:ys.length<=18) :
  ∀(k i:Nat) (s:Shared) (zs:Zs),ys.length - i=k->i<=ys.length->s.heap.IsTupleIter J l i/\s.heap.IsTuple l its->StS P w s.heap S zs->(∀y∈ys,(k2 P w).is s.heap y.1 y.2)->(∀z∈zs,z.2∈ys)->(∀p,p∈zs.map (·.2.1)↔p∈(ys.take i).map (·.1))->zs.length<=i ->
   (∀h' tk zs',StS P w h' S zs'->(∀c o,c≠S->c≠J->s.heap.get? c=some o->h'.get? c=some o)->(∀z∈zs',z.2∈ys)->(∀p,p∈zs'.map (·.2.1)↔p∈ys.map (·.1))->R (.ok (.ret .none)) { s with heap:=h',toks:=tk }) ->
   codeAny (model P w) A (.builtin "set.update.loop" ⟨[.ref S,.ref J],[]⟩) R s:=by
 have W:=Walks.tuple (prog:=P) (w:=w) (A:=A.in1) hh J l hJ its
 have nz:its.size=ys.length:=by rw[← Array.length_toList,hits,List.length_map]
 intro k
 induction k with
 | zero =>
  intro i s zs e1 e2 st hS hk hy hp hl hR
  obtain rfl:i=ys.length:=by omega
  refine codeAny_builtin PyProof.Rows.F.entry_set_update_loop ?_
  rw[Around.under_plainId PyProof.Rows.F.plain_set_update_loop _]
  show wpAny _ _ (pyNext (.ref J) >>= _) _ _ _
  refine wpAny_bind (W.done s _ _ (by rw[nz];exact st) fun h' tk mv=>?_)
  refine wpAny_pure (hR h' tk zs (hS.keep fun o e=>mv S o (by simpa using hSJ) e) (fun c o _ h2 e=>mv c o (by simpa using h2) e) hy fun p=>?_)
  rw[hp,List.take_length]
 | succ k ih =>
  intro i s zs e1 e2 st hS hk hy hp hl hR
  have lt:i < ys.length:=by omega
  refine codeAny_builtin PyProof.Rows.F.entry_set_update_loop ?_
  rw[Around.under_plainId PyProof.Rows.F.plain_set_update_loop _]
  show wpAny _ _ (pyNext (.ref J) >>= _) _ _ _
  refine wpAny_bind (W.item i s _ _ (by rw[nz];exact lt) st fun u h' tk hu' st' mv=>?_)
  have eu:u=.ref ys[i].2:=by
   rw[← Array.getElem?_toList,hits,List.getElem?_map,List.getElem?_eq_getElem lt]at hu'
   exact(Option.some.inj hu').symm
  subst eu
  obtain⟨oJ,gJ,_,dJ⟩:=id st.1
  have sq:∀b o vs n,s.heap.get? b=some o->o.data=.seq vs n->h'.get? b=some o:=fun b o vs n g1 g2=>mv b o (by
   simp only[List.mem_singleton]
   rintro rfl
   rw[gJ]at g1
   cases g1
   rw[dJ]at g2;cases g2) g1
  have hk':∀y∈ys,(k2 P w).is h' y.1 y.2:=fun y q=>aa4 sq (hk y q)
  have hS':StS P w h' S zs:=hS.keep fun o e=>mv S o (by simpa using hSJ) e
  show wpAny _ _ (holding [Value.ref ys[i].2] (setAdd S (.ref ys[i].2)) >>= _) _ _ _
  refine wpAny_bind (wpAny_holding ?_)
  unfold setAdd
  have mi:ys[i]∈ys:=List.getElem_mem lt
  refine wpAny_holding (wpAny_bind ((k2 P w).pyHash (k:=ys[i].1) (by show A.in1.units+9 < _;simp only[Around.in1_units];omega) (hk' _ mi) ?_))
  refine bk7 (s:={ s with heap:=h',toks:=tk+_ }) (by simp only[Around.in1_units];omega) (hk' _ mi) hS' (fun z hz=>hk' z.2 (hy z hz)) (by omega) fun b h2 zs2 sb hS2 pm=>?_
  obtain⟨oS,gS,qS⟩:=id hS'
  obtain⟨es,ep,t,dS,_⟩:=qS.dt
  have sq2:∀b o vs n,h'.get? b=some o->o.data=.seq vs n->h2.get? b=some o:=fun b o vs n g1 g2=>by
   have ne:b≠S:=by rintro rfl;rw[gS]at g1;cases g1;rw[dS]at g2;cases g2
   exact(sb b ne).trans g1
  have mem2:∀p,p∈zs2.map (·.2)->p∈zs.map (·.2)\/p=(ys[i].1,ys[i].2):=fun p hp'=>by
   have:=pm.mem_iff.mp hp'
   split at this
   ·exact .inl this
   ·rcases List.mem_cons.mp this with q|q
    ·exact .inr q
    ·exact .inl q
  refine wpAny_pure ⟨plainId_quiet PyProof.Rows.F.plain_set_update_loop _,ih (i+1) _ zs2 (by omega) lt ⟨st'.1.at fun o e=>(sb J hSJ.symm).trans e,st'.2.at fun o e=>(sb l hSl.symm).trans e⟩ hS2 (fun y q=>aa4 sq2 (hk' y q)) (fun z hz=>?_) (fun p=>?_) ?_ fun h3 tk3 zs3 q1 q2 q3 q4=>?_⟩
  ·rcases mem2 z.2 (List.mem_map.mpr ⟨z,hz,rfl⟩) with q|q
   ·obtain⟨z',hz',e⟩:=List.mem_map.mp q
    rw[← e];exact hy z' hz'
   ·rw[q];exact mi
  ·have pm1:=(pm.map (·.1)).mem_iff (a:=p)
   rw[List.map_map]at pm1
   rw[List.take_succ_eq_append_getElem lt,List.map_append,List.mem_append,← hp p]
   refine pm1.trans ?_
   split
   ·rename_i q
    rw[List.map_map]
    show p∈zs.map (·.2.1)↔_
    constructor
    ·exact .inl
    ·rintro(h|h)
     ·exact h
     ·simp at h;rw[h];exact q
   ·rw[List.map_cons,List.mem_cons,List.map_map]
    show p=_\/p∈zs.map (·.2.1)↔_
    simp only[List.map_cons,List.map_nil,List.mem_singleton]
    exact Or.comm
  ·have:=pm.length_eq
   rw[List.length_map]at this
   split at this<;>simp at this<;>omega
  ·exact hR h3 tk3 zs3 q1 (fun c o n1 n2 e=>q2 c o n1 n2 ((sb c n1).trans (mv c o (by simpa using n2) e))) q3 q4
theorem aK5{l:Addr}{its:Array Value}{ys:List (Sp2×Addr)}{Q:Value->Shared->Prop}(hh:A.handled=none) (hu:A.units+30 < cLine) (hl:s.heap.IsTuple l its) (hits:its.toList=ys.map fun y=>Value.ref y.2) (hn:ys.length<=18) (hk:∀y∈ys,(k2 P w).is s.heap y.1 y.2)
  (h:∀(h':Heap) (tk:Nat) (zs:Zs),StS P w h' s.heap.objs.size zs->(∀b o,s.heap.get? b=some o->h'.get? b=some o)->(∀z∈zs,z.2∈ys)->(∀p,p∈zs.map (·.2.1)↔p∈ys.map (·.1))->Q (.ref s.heap.objs.size) { s with heap:=h',toks:=tk }) :
  wpAny (model P w) A (call (.type "set") [.ref l]) Q E s:=by
 obtain⟨m1,m2,m3⟩:=F.called_set.mro
 have m4:=F.called_set.made
 have m5:=F.called_set.sub
 refine wpAny_call (codeAny_of_tree ?_)
 show wpAny _ _ (callAny (.type "set") _) _ _ _
 refine wpAny_pure ⟨Code.quiet_builtin _ (by decide +kernel),codeAny_builtin F.entry_type_call ?_⟩
 rw[Around.under_plain (weight_type_call_type "set" [.ref l] []) rfl]
 have m6:=F.called_set.notType
 have m7:=F.called_set.canCreate
 have m8:=F.typeCall_set_1 (.ref l)
 repeat (any_goals (first|assumption|wp_step))
 refine codeAny_mono (bD2 (.ref l) (E:=E) (Q1:=fun ob s1=>ob=.ref s.heap.objs.size/\s1={ s with heap:=s.heap.push (y9 w) }) ⟨rfl,rfl⟩) fun r s1 hr=>?_
 cases r with
 | error e=>exact hr
 | ok fl =>
  cases fl with
  | ret ob =>
   obtain⟨rfl,rfl⟩:=hr
   have g0:(s.heap.push (y9 w)).get? s.heap.objs.size=some (y9 w):=Heap.get?_push_size _ rfl
   have hT:Shared.TypeIs { s with heap:=s.heap.push (y9 w) } (.ref s.heap.objs.size) "set" := ⟨_,g0,rfl⟩
   have m9:=F.called_set.init.lookup
   have m0:=F.called_set.init.bind (.ref s.heap.objs.size)
   repeat (any_goals (first|assumption|wp_step))
   refine codeAny_mono (codeAny_call_builtin (R:=wants (fun r s2=>r=.none/\∃h' tk zs,s2={ s with heap:=h',toks:=tk }/\StS P w h' s.heap.objs.size zs/\(∀b o,s.heap.get? b=some o->h'.get? b=some o)/\(∀z∈zs,z.2∈ys)/\∀p,p∈zs.map (·.2.1)↔p∈ys.map (·.1)) E) F.called_set.init.plain F.entry_set_init (check_set_init_1 hT ?_)) fun r2 s2 hr2=>?_
   ·obtain⟨⟨c0,d0,dt0,sl0⟩,hol,hcl,nl,hdl⟩:=hl
    simp only at hcl hdl
    subst hcl hdl
    have lS:l < s.heap.objs.size:=Heap.lt_size hol
    have hol':(s.heap.push (y9 w)).get? l=some { cls:=.type "tuple", dict:=d0,data:=.seq its nl,slots:=sl0 }:=Heap.get?_push_of_some _ hol
    have f1:=F.sub_tuple_set
    have f2:=F.sub_tuple_frozenset
    have f3:(Value.type "tuple" == Value.type "dict")=false:=by decide
    have hl1:(s.heap.push (y9 w)).IsTuple l its:=⟨_,hol',rfl,nl,rfl⟩
    unfold Builtin.«set.__init__» noKeywords Builtin.Frozenset.updateFrom
    generalize hPI:pyIter=PI
    wp_walk
    subst hPI
    refine wpAny_pyIter_tuple hl1 (wpAny_bind (wpAny_runValue ?_))
    have h3:A.in1.in1.in1.handled=none:=by simp[hh]
    have z1:(s.heap.push (y9 w)).objs.size=s.heap.objs.size+1:=Heap.size_push ..
    have nI:l≠(s.heap.push (y9 w)).objs.size:=by rw[z1];exact Nat.ne_of_lt (Nat.lt_succ_of_lt lS)
    have k1:∀b o,s.heap.get? b=some o->((s.heap.push (y9 w)).push { cls:=.type "tuple_iterator", data:=.fields #[.ref l,.int 0 0] }).get? b=some o:=fun b o e=>Heap.get?_push_of_some _ (Heap.get?_push_of_some _ e)
    refine bk2 (ys:=ys) h3 nI (by rw[z1];exact Nat.ne_of_lt (Nat.lt_succ_self _)) (Nat.ne_of_gt lS) (by simp only[Around.in1_units];omega) hits hn (ys.length - 0) 0 _ [] rfl (Nat.zero_le _) ⟨⟨_,Heap.get?_push_size _ rfl,rfl,rfl⟩,⟨_,Heap.get?_push_of_some _ hol',rfl,nl,rfl⟩⟩ ((bj2 s.heap).keep fun o e=>Heap.get?_push_of_some _ e) (fun y q=>aa4 (fun b o vs n e _=>k1 b o e) (hk y q)) (fun z hz=>by simp at hz) (fun p=>by simp) (Nat.le_refl _) ?_
    intro h' tk zs q1 q2 q3 q4
    refine wpAny_pure ?_
    show wpAny _ _ (ret Value.none) _ _ _
    refine wpAny_pure ⟨rfl,h',tk,zs,rfl,q1,fun c o e=>?_,q3,q4⟩
    have:=Heap.lt_size e
    exact q2 c o (Nat.ne_of_lt this) (by rw[z1];exact Nat.ne_of_lt (Nat.lt_succ_of_lt this)) (k1 c o e)
   ·cases r2 with
    | error e=>exact hr2
    | ok fl2 =>
     cases fl2 with
     | ret r =>
      obtain⟨rfl,h',tk,zs,rfl,q1,q2,q3,q4⟩:=hr2
      repeat (any_goals (first|assumption|wp_step))
      exact h _ _ zs q1 q2 q3 q4
     | _=>exact hr2.elim
  | _=>exact hr.elim
end
end G
namespace G
open PySem PySem.Spec PySem.W PyProof.Rows L2 PySem.SeqAt
noncomputable abbrev itO(x0:Value) (b:Bool) (d:Addr) (i:Int) (n ep:Nat) (y z:Value):Obj:={ cls:=.type "dict_itemiterator", dict:=none,data:=.fields #[x0,.bool b,.ref d,.int i 0,.int n 0,.int ep 0,y,z],slots:=#[] }
noncomputable def ItR(h:Heap) (it d:Addr) (i n ep:Nat):Prop:=∃x0 b y z,h.get? it=some (itO x0 b d i n ep y z)/\(x0=.none\/∃(a:Addr) (o:Obj),x0=rawInt a/\a≠it/\h.get? a=some o)
section
variable {prog:Program}{w:World}{A:Around}{E:Value->Shared->Prop}{s:Shared}
theorem aq0{it d:Addr}{i ep n:Nat}{es:Array DictEntry}{od:Obj}{x0 y z:Value}{b:Bool}{P:PySem.Fin->Shared->Prop}{id:String}(hit:s.heap.get? it=some (itO x0 b d i n ep y z)) (ho:s.heap.get? d=some od) (hd:od.data=.dict es ep) (hn:es.size=n)
  {f:Option (Array DictEntry×Int)->Sem PySem.Fin}(h:wpAny (model prog w) A (f (some (es,(i:Int)))) P E s) :
  wpAny (model prog w) A ((do
   let b ← (do return if Builtin.Dict_items.ownsTuple (← typeNameOfWhole (.ref it)) then 2 else 0)
   let [d,.int i _,.int size _,.int epoch _]:=((← fieldsOf (.ref it)).toList.drop b).take 4|unsupported "internal:dict-iterator"
   if d == .none then rule s!"{id}.exhausted-before";return none
   let es ← dictEntries (← Builtin.Dict_items.addrOf d)
   if(es.size:Int) != size then
    rule s!"{id}.size-changed"
    if true then setField (.ref it) (b+2) (rawInt (-1))
    raiseError "RuntimeError" "dictionary changed size during iteration"
   if((← dictEpoch (← Builtin.Dict_items.addrOf d):Nat):Int) != epoch then unsupported s!"{id}:keys-changed"
   return some (es,i)) >>= f) P E s:=by
 have hT:s.TypeIs (.ref it) "dict_itemiterator" := ⟨_,hit,rfl⟩
 refine wpAny_bind (wpAny_bind (wpAny_bind (wpAny_typeNameOfWhole_itemiter hT (wpAny_pure ?_))))
 refine wpAny_bind (wpAny_fieldsOf hit rfl ?_)
 have ow:Builtin.Dict_items.ownsTuple "dict_itemiterator" = true:=by decide
 simp only[ow,if_true]
 show wpAny _ _ (if(Value.ref d==Value.none)=true then _ else _) _ _ _
 rw[if_neg (show ¬((Value.ref d==Value.none)=true) from Bool.false_ne_true)]
 refine wpAny_bind (wpAny_pure (wpAny_bind (wpAny_dictEntries ho hd ?_)))
 rw[if_neg (by rw[hn];simp)]
 refine wpAny_bind (wpAny_pure (wpAny_bind (wpAny_dictEpoch ho hd ?_)))
 rw[if_neg (by simp)]
 exact wpAny_pure h
theorem bt1{it d:Addr}{i ep:Nat}{es:Array DictEntry}{e:DictEntry}{od:Obj}{Q:Option Value->Shared->Prop}(hit:ItR s.heap it d i es.size ep) (ho:s.heap.get? d=some od) (hd:od.data=.dict es ep) (hx:es[i]? = some e)
  (hQ:∀h',ItR h' it d (i+1) es.size ep->h'.get? s.heap.objs.size=some { cls:=.type "tuple", data:=.seq #[e.key,e.val] }->h'.objs.size=s.heap.objs.size+1->(∀b o,b≠it->s.heap.get? b=some o->h'.get? b=some o)->Q (some (.ref s.heap.objs.size)) { s with heap:=h' }) :
  wpAny (model prog w) A (pyNext (.ref it)) Q E s:=by
 obtain⟨hp,g,dr,tk,os⟩:=s
 obtain⟨x0,b,y,z,hit,own⟩:=hit
 have il:it < hp.objs.size:=Heap.lt_size hit
 have hT:Shared.TypeIs ⟨hp,g,dr,tk,os⟩ (.ref it) "dict_itemiterator" := ⟨_,hit,rfl⟩
 unfold pyNext
 refine wpAny_bind (wpAny_attempt (wpAny_callSpecial?_slot (name:=Str.ofString "__next__") hT PySem.F.slot_dict_itemiterator_next (wpAny_call_entry PySem.F.slot_dict_itemiterator_next hT PySem.F.entry_dict_itemiterator_next (wpAny_bind (wpAny_pure (aq0 (id := "dict_itemiterator.__next__") hit ho hd rfl ?_))) (PySem.F.args_dict_itemiterator_next_1 _))))
 dsimp only
 rw[if_neg (show ¬((i:Int) < 0) by omega),Int.toNat_natCast,hx]
 refine wpAny_bind (wpAny_bind (wpAny_typeNameOfWhole_itemiter hT (wpAny_pure ?_)))
 refine wpAny_bind (wpAny_isOneOf_itemiter hT ?_)
 show wpAny _ _ (setField (.ref it) 3 (rawInt ((i:Int)+1)) >>= _) _ _ ⟨hp,g,dr,tk,os⟩
 refine wpAny_bind (wpAny_setField_rec hit (by simp) fun h1 it1 s1=>?_)
 replace s1:Heap.SameBut it hp h1:=s1
 replace it1:h1.get? it=some (itO x0 b d ((i+1:Nat):Int) es.size ep y z):=by
  rw[show((i+1:Nat):Int)=(i:Int)+1 by omega];simpa [rawInt] using it1
 have hT1:Shared.TypeIs ⟨h1,g,dr,tk,os⟩ (.ref it) "dict_itemiterator" := ⟨_,it1,rfl⟩
 refine wpAny_bind (wpAny_holding (wpAny_bind (wpAny_isOneOf_itemiter hT1 (wpAny_bind (wpAny_isOneOf_itemiter hT1 ?_)))))
 show wpAny _ _ (Builtin.Dict_items.pairFromOwner (.ref it) 6 e.key e.val) _ _ ⟨h1,g,dr,tk,os⟩
 unfold Builtin.Dict_items.pairFromOwner
 refine wpAny_bind (wpAny_newTuple ?_)
 have z1:h1.objs.size=hp.objs.size:=s1.1
 have it2:=Heap.get?_push_of_some { cls:=.type "tuple", data:=.seq #[e.key,e.val] } it1
 have t2:(h1.push { cls:=.type "tuple", data:=.seq #[e.key,e.val] }).get? hp.objs.size=some { cls:=.type "tuple", data:=.seq #[e.key,e.val] }:=by rw[← z1];exact Heap.get?_push_size _ rfl
 have z2:(h1.push { cls:=.type "tuple", data:=.seq #[e.key,e.val] }).objs.size=hp.objs.size+1:=by rw[Heap.size_push,z1]
 have k2:∀b o,b≠it->hp.get? b=some o->(h1.push { cls:=.type "tuple", data:=.seq #[e.key,e.val] }).get? b=some o:=fun b o hb q=>Heap.get?_push_of_some _ (s1.extBut b o hb q)
 show wpAny _ _ (Builtin.Dict_items.ownedTupleIsFree (.ref it) >>= _) _ _ ⟨h1.push { cls:=.type "tuple", data:=.seq #[e.key,e.val] },g,dr,tk,os⟩
 rw[z1]
 generalize h1.push { cls:=.type "tuple", data:=.seq #[e.key,e.val] }=h2 at it2 t2 z2 k2
 have fin:∀(h3:Heap) (x0:Value) (b:Bool) (y z:Value),h3.get? it=some (itO x0 b d ((i+1:Nat):Int) es.size ep y z)->Heap.SameBut it h2 h3->(x0=.none\/∃(a:Addr) (o:Obj),x0=rawInt a/\a≠it/\h2.get? a=some o)->Q (some (.ref hp.objs.size)) ⟨h3,g,dr,tk,os⟩:=fun h3 x0 b y z e3 s3 w3 =>
  hQ h3 ⟨x0,b,y,z,e3,w3.imp id fun⟨a,o,q1,q2,q3⟩=>⟨a,o,q1,q2,s3.extBut a o q2 q3⟩⟩ (s3.extBut _ _ (Nat.ne_of_gt il) t2) (by show h3.objs.size=hp.objs.size+1;rw[s3.1,z2]) fun c o hc q=>s3.extBut c o hc (k2 c o hc q)
 unfold Builtin.Dict_items.ownedTupleIsFree
 rcases own with rfl|⟨a,o,rfl,ne,ha⟩
 ·refine wpAny_bind (wpAny_bind (wpAny_field it2 rfl (x:=.none) rfl (wpAny_pure ?_)))
  simp only[if_true]
  refine wpAny_bind (wpAny_field it2 rfl (x:=y) rfl (wpAny_bind (wpAny_field it2 rfl (x:=z) rfl ?_)))
  refine wpAny_bind (wpAny_setField_rec it2 (by simp) fun h3 it3 s3=>?_)
  refine wpAny_bind (wpAny_setField_rec it3 (by simp) fun h4 it4 s4=>?_)
  refine wpAny_bind (wpAny_setField_rec it4 (by simp) fun h5 it5 s5=>?_)
  refine wpAny_bind (wpAny_setField_rec it5 (by simp) fun h6 it6 s6=>?_)
  replace s3:Heap.SameBut it h2 h3:=s3
  replace s4:Heap.SameBut it h3 h4:=s4
  replace s5:Heap.SameBut it h4 h5:=s5
  replace s6:Heap.SameBut it h5 h6:=s6
  refine wpAny_bind (wpAny_letGo (wpAny_pure (wpAny_pure ⟨_,rfl,wpAny_pure (fin h6 _ _ _ _ it6 (s3.trans (s4.trans (s5.trans s6))) (.inr ⟨_,_,rfl,Nat.ne_of_gt il,t2⟩))⟩)))
 ·refine wpAny_bind (wpAny_bind (wpAny_field it2 rfl (x:=rawInt a) rfl ?_))
  show wpAny _ _ (loadIfAlive ((a:Int).toNat) >>= _) _ _ _
  rw[Int.toNat_natCast]
  refine wpAny_bind (am0 ?_)
  rw[show(Shared.heap ⟨h2,g,dr,tk,os⟩).get? a=some o from k2 a o ne ha]
  simp only[Option.isNone_some,Bool.false_eq_true,if_false]
  refine wpAny_bind (wpAny_field it2 rfl (x:=.bool b) rfl ?_)
  have w2:rawInt (a:Int)=.none\/∃(c:Addr) (o:Obj),rawInt (a:Int)=rawInt c/\c≠it/\h2.get? c=some o:=.inr ⟨a,o,rfl,ne,k2 a o ne ha⟩
  cases b with
  | true=>exact wpAny_pure (wpAny_pure (wpAny_pure ⟨_,rfl,wpAny_pure (fin h2 _ _ _ _ it2 (Heap.SameBut.refl _ _) w2)⟩))
  | false =>
   rw[if_pos (show(Value.bool false != Value.bool true)=true from rfl)]
   refine wpAny_bind (wpAny_setField_rec it2 (by simp) fun h3 it3 s3=>?_)
   exact wpAny_pure (wpAny_pure (wpAny_pure ⟨_,rfl,wpAny_pure (fin h3 _ _ _ _ it3 s3 w2)⟩))
theorem bM5{it d:Addr}{i ep:Nat}{es:Array DictEntry}{od:Obj}{Q:Option Value->Shared->Prop}(hh:A.handled=none) (hit:ItR s.heap it d i es.size ep) (ho:s.heap.get? d=some od) (hd:od.data=.dict es ep) (hx:es[i]? = none)
  (hQ:∀h',Heap.ExtBut it s.heap h'->Q none { s with heap:=h' }):wpAny (model prog w) A (pyNext (.ref it)) Q E s:=by
 obtain⟨x0,b,y,z,hit,_⟩:=hit
 have hT:s.TypeIs (.ref it) "dict_itemiterator" := ⟨_,hit,rfl⟩
 unfold pyNext
 refine wpAny_bind (wpAny_attempt (wpAny_callSpecial?_slot (name:=Str.ofString "__next__") hT PySem.F.slot_dict_itemiterator_next (wpAny_call_entry PySem.F.slot_dict_itemiterator_next hT PySem.F.entry_dict_itemiterator_next (wpAny_bind (wpAny_pure (aq0 (id := "dict_itemiterator.__next__") hit ho hd rfl ?_))) (PySem.F.args_dict_itemiterator_next_1 _))))
 dsimp only
 rw[if_neg (show ¬((i:Int) < 0) by omega),Int.toNat_natCast,hx]
 refine wpAny_bind (wpAny_bind (wpAny_typeNameOfWhole_itemiter hT (wpAny_pure ?_)))
 show wpAny _ _ (setField (.ref it) 2 .none >>= _) _ _ s
 refine wpAny_bind (wpAny_setField hit rfl (by simp) ?_)
 show wpAny _ _ (newExc (.type "StopIteration") [] >>= _) _ _ _
 refine wpAny_bind ?_
 simp only[newExc,newTuple]
 refine wpAny_bind (wpAny_newObj_type ?_ (by size_fits))
 refine wpAny_bind (m:=firstArgMember _ _) (wpAny_of_eq (a:=Value.none) (by first|rfl|(simp only[firstArgMember];rfl)) ?_)
 refine wpAny_newObj_type ?_ (by size_fits)
 simp only[raiseNew]
 refine wpAny_bind (wpAny_handled ?_)
 rw[show A.in1.handled=none from hh]
 refine wpAny_bind (wpAny_pure (wpAny_throw ?_))
 refine wpAny_bind (wpAny_isInstance (T := "StopIteration") (b:=true) ⟨_,Heap.get?_push_size _ rfl,rfl⟩ isSubtype_stop ?_)
 exact wpAny_pure (hQ _ (((Heap.SameBut.update ..).extBut.push _).push _))
end
end G
namespace G
open PySem PySem.Spec PySem.W PyProof.Rows L2 PySem.SeqAt
theorem ItR.ext(x:ItR h it d i n ep) (hS:h.get? S=some o) (hS':∃o',h'.get? S=some o') (hne:S≠it) (k:∀b o,b≠S->h.get? b=some o->h'.get? b=some o):ItR h' it d i n ep:=by
 obtain⟨x0,b,y,z,q,w⟩:=x
 refine⟨x0,b,y,z,k _ _ hne.symm q,w.imp id fun⟨a,u,r1,r2,r3⟩=>?_⟩
 by_cases e:a=S
 ·subst e;obtain⟨o',q'⟩:=hS';exact⟨a,o',r1,r2,q'⟩
 ·exact⟨a,u,r1,r2,k _ _ e r3⟩
noncomputable abbrev Ent:List (Addr×Int)->List DictEntry->Prop:=Paired fun p e=>e.key=.ref p.1/\∃t,e.val=.int p.2 t
theorem Ent.get:∀{ws:List (Addr×Int)}{es:List DictEntry}{i:Nat}{p:Addr×Int},Ent ws es->ws[i]? = some p->∃e,es[i]? = some e/\e.key=.ref p.1/\∃t,e.val=.int p.2 t
 | _,_,_,_,.nil,e=>by simp at e
 | _,_,0,_,.cons r _,e=>by simp at e;subst e;exact⟨_,rfl,r⟩
 | _,_,i+1,_,.cons _ t,e=>by simpa using Ent.get (i:=i) t (by simpa using e)
noncomputable def TsI(Hf:Hp) (ws:List (Addr×Int)) (Ts:List Addr) (i:Nat):Prop:=Ts.length=i/\∀(j:Nat) (T:Addr),Ts[j]? = some T->∃p,ws[j]? = some p/\Hf T=some (.tup [.ref p.1,.int p.2])
theorem aI1:(1000:Nat) < sizeLine:=by decide
section
variable {X:Cx}{pins:List (Addr×Obj)}{σ:L2.St}{A:Around}{S it d:Addr}{ws:List (Addr×Int)}{es:Array DictEntry}{ep:Nat}{od:Obj}
theorem aw2{R:Result->Shared->Prop}{res:Value}(hc:A.handled=none) (h2:d≠it) (h4:S≠it) (h5:S≠d) (hz:ws.length<=1000) (pr:Ent ws es.toList) (hd:od.data=.dict es ep) {H0 Hf0:Hp} :
  ∀(k i:Nat) (s:Shared) (H Hf:Hp) (Ts:List Addr) (c:Nat),ws.length - i=k->i<=ws.length->Inv X pins σ H s->(∀b∈[it,S],L7 X pins H b)->ItR s.heap it d i es.size ep->s.heap.get? d=some od->Grow H0 Hf0 H Hf->s.heap.get? S=some (ae7 Ts c)->TsI Hf ws Ts i ->
  (∀s' H' Hf' Ts' c',Inv X pins σ H' s'->(∀b∈[it,S],L7 X pins H' b)->Grow H0 Hf0 H' Hf'->s'.heap.get? S=some (ae7 Ts' c')->TsI Hf' ws Ts' ws.length->R (.ok (.ret res)) s') ->
  codeAny (model X.prog X.w) A (.builtin "list.extend.loop" ⟨[.ref S,.ref it,res],[]⟩) R s:=by
 have lz:es.size=ws.length:=by rw[← Array.length_toList,Paired.length pr]
 intro k
 induction k with
 | zero =>
  intro i s H Hf Ts c hk hi I hf hit hod g hS ht hR
  have hin:i=ws.length:=by omega
  refine codeAny_builtin F.entry_extend_loop ?_
  rw[Around.under_plainId F.plain_extend_loop _]
  show wpAny _ A.in1 (pyNext (.ref it) >>= _) _ _ s
  refine wpAny_bind (bM5 hc hit hod hd (Array.getElem?_eq_none (by omega)) fun h' hk'=>?_)
  have I':Inv X pins σ H { s with heap:=h',toks:=s.toks }:=K5 (ch:=[it]) I (fun b hb=>hf b (by simp at hb;simp[hb])) fun b u hb q=>hk' b u (fun z=>hb (by simp[z])) q
  exact wpAny_pure (hR _ H Hf Ts c I' hf g (hk' S _ h4 hS) (by rw[← hin];exact ht))
 | succ k ih =>
  intro i s H Hf Ts c hk hi I hf hit hod g hS ht hR
  have hlt:i < ws.length:=by omega
  obtain⟨e,ee,ek,tv,ev⟩:=Ent.get pr (List.getElem?_eq_getElem hlt)
  refine codeAny_builtin F.entry_extend_loop ?_
  rw[Around.under_plainId F.plain_extend_loop _]
  show wpAny _ A.in1 (pyNext (.ref it) >>= _) _ _ s
  refine wpAny_bind (bt1 hit hod hd (by rw[← Array.getElem?_toList];exact ee) fun h' hit' hT hsz hkp=>?_)
  rw[ek,ev]at hT
  have hn:H s.heap.objs.size=none:=I.hok.fresh (Nat.le_refl _)
  have neT:∀c o,s.heap.get? c=some o->c≠s.heap.objs.size:=fun c o q=>Nat.ne_of_lt (Heap.lt_size q)
  have hio:∃o,s.heap.get? it=some o:=let⟨_,_,_,_,q,_⟩:=hit;⟨_,q⟩
  obtain⟨oi,hio⟩:=hio
  have I1:Inv X pins σ (upd H s.heap.objs.size (.tup [.ref ws[i].1,.int ws[i].2])) { s with heap:=h',toks:=s.toks }:=R1 (s:=s) (h':=h') (t':=s.toks) (ch:=[it]) I (fun b hb=>hf b (by simp at hb;simp[hb])) (Nat.le_refl _) (fun b u hb q=>hkp b u (fun z=>hb (by simp[z])) q)
   ⟨by show 2<=sizeLine;decide,[.ref ws[i].1,.int ws[i].2 tv],.cons rfl (.cons ⟨tv,rfl⟩ .nil),_,hT,rfl,⟨_,rfl⟩,rfl⟩
  have hS':=hkp S _ h4 hS
  show wpAny _ A.in1 (updateSeq S (·.push (.ref s.heap.objs.size)) >>= _) _ _ _
  have b0:=aI1
  refine wpAny_bind (wpAny_updateSeq hS' rfl ?_ (by simp[ht.1];omega) (by simp[ht.1];omega))
  have hf1:∀b∈[it,S],L7 X pins (upd H s.heap.objs.size (.tup [.ref ws[i].1,.int ws[i].2])) b:=fun b hb=>bd1 (hf b hb) (by
   simp at hb
   rcases hb with rfl|rfl
   ·exact neT _ _ hio
   ·exact neT _ _ hS)
  have oth:∀b o,b≠S->h'.get? b=some o->(h'.update S (Obj.mapSeq (·.push (.ref s.heap.objs.size)))).get? b=some o:=fun b o hb q=>(Heap.get?_update_other _ _ (Ne.symm hb)).trans q
  have hSn:=Heap.get?_update_self (Obj.mapSeq (·.push (Value.ref s.heap.objs.size))) hS' rfl
  have I2:=K5 (t':=s.toks) (h':=h'.update S (Obj.mapSeq (·.push (.ref s.heap.objs.size)))) (ch:=[S]) I1 (fun b hb=>hf1 b (by simp at hb;simp[hb])) fun b u hb q=>oth b u (fun z=>hb (by simp[z])) q
  have hnf:Hf s.heap.objs.size=none:=g.sub.free hn
  refine wpAny_pure ⟨plainId_quiet F.plain_extend_loop _,ih (i+1) _ _ (upd Hf s.heap.objs.size (.tup [.ref ws[i].1,.int ws[i].2])) (Ts++[s.heap.objs.size]) (c+1) (by omega) (by omega) I2 hf1 (hit'.ext hS' ⟨_,hSn⟩ h4 oth) (oth d _ h5.symm (hkp d _ h2 hod)) (g.trans (Grow.laid g.sub hn)) ?_ ?_ hR⟩
  ·simpa [ae7,Obj.mapSeq] using hSn
  ·refine⟨by rw[List.length_append,ht.1];rfl,fun j T hj=>?_⟩
   rcases Nat.lt_or_ge j Ts.length with q|q
   ·rw[List.getElem?_append_left q]at hj
    obtain⟨x,ex,hx⟩:=ht.2 j T hj
    exact⟨x,ex,by rw[A7 (A8 hx hnf)];exact hx⟩
   ·rw[List.getElem?_append_right q]at hj
    have hj0:j - Ts.length=0:=by
     rcases Nat.eq_zero_or_pos (j - Ts.length) with z|z
     ·exact z
     ·rw[List.getElem?_eq_none (by simp;omega)]at hj;cases hj
    rw[hj0]at hj
    cases hj
    have:j=i:=by have:=ht.1;omega
    subst this
    exact⟨_,List.getElem?_eq_getElem hlt,A6⟩
theorem aJ4{prog:Program}{w:World}{E:Value->Shared->Prop}{s:Shared}{r:Addr}{Q:Value->Shared->Prop}(hv:s.heap.IsItemsView r d) (ho:s.heap.get? d=some od) (hd:od.data=.dict es ep)
  (hQ:Q (.ref s.heap.objs.size) { s with heap:=s.heap.push (itO .none false d 0 es.size ep .none .none) }):wpAny (model prog w) A (pyIter (.ref r)) Q E s:=by
 obtain⟨ov,hov,hcv,hdv⟩:=id hv
 refine wpAny_pyIter_slot hv.typeIs F.slot_dict_items_iter (wpAny_call_entry F.slot_dict_items_iter hv.typeIs F.entry_dict_items_iter (wpAny_bind (wpAny_pure (wpAny_bind ?_))) (F.args_dict_items_iter_1 _))
 unfold Builtin.Dict_items.dictOf
 refine wpAny_bind (wpAny_field hov hdv (x:=.ref d) rfl (wpAny_pure (wpAny_bind ?_)))
 unfold Builtin.Dict_items.newIterator
 refine wpAny_bind (wpAny_dictEntries ho hd (wpAny_bind (wpAny_dictEpoch ho hd ?_)))
 have ow:Builtin.Dict_items.ownsTuple "dict_itemiterator" = true:=by decide
 simp only[ow,if_true]
 refine wpAny_newObj_type (wpAny_pure ⟨_,rfl, "dict_itemiterator", _,⟨_,Heap.get?_push_size _ rfl,rfl⟩,F.slot_dict_itemiterator_next.lookup,?_⟩)
  (by simp only[sizeOk,Builtin.Dict_items.ownedTupleFields,List.size_toArray,List.length_append,List.length_cons,List.length_nil,sizeLine_eq];omega)
 simpa [rawInt,Builtin.Dict_items.ownedTupleFields] using hQ
theorem ad2{E:Value->Shared->Prop}{s:Shared}{H Hf:Hp}{r:Addr}{Q:List Value->Shared->Prop}(hc:A.handled=none) (hz:ws.length<=1000) (pr:Ent ws es.toList) (hd:od.data=.dict es ep) (I:Inv X pins σ H s) (ss:B5 Hf H) (hv:s.heap.IsItemsView r d) (ho:s.heap.get? d=some od)
  (h:∀s' H' Hf' Ts,Inv X pins σ H' s'->Grow H Hf H' Hf'->TsI Hf' ws Ts ws.length->Q (Ts.map Value.ref) s'):wpAny (model X.prog X.w) A (collect (.ref r)) Q E s:=by
 have hr:r < s.heap.objs.size:=let⟨_,q,_⟩:=hv;Heap.lt_size q
 have dl:d < s.heap.objs.size:=Heap.lt_size ho
 obtain⟨S,eS⟩:∃S,S=s.heap.objs.size:=⟨_,rfl⟩
 have fS:L7 X pins H S:=I.fpOk (by omega) (I.hok.fresh (by omega))
 have n1:S≠r:=by rw[eS];exact Nat.ne_of_gt hr
 have n2:S≠d:=by rw[eS];exact Nat.ne_of_gt dl
 have n3:S+1≠S:=Nat.succ_ne_self S
 have n4:d≠S+1:=by rw[eS];exact Nat.ne_of_lt (Nat.lt_succ_of_lt dl)
 unfold collect
 refine wpAny_bind (wpAny_runValue (codeAny_builtin entry_proto_collect' ?_))
 rw[Around.under_plainId PySem.F.plain_proto_collect _]
 show wpAny _ A.in1 (newList [] >>= fun l=>again (.builtin "list.__iadd__" ⟨[l,.ref r],[]⟩)) _ _ s
 refine wpAny_bind (wpAny_newObj_type (wpAny_pure ⟨plainId_quiet PySem.F.plain_list_iadd _,codeAny_builtin entry_list_iadd' ?_⟩))
 rw[Around.under_plainId PySem.F.plain_list_iadd _,← eS]
 show wpAny _ A.in1 (Builtin.List.listExtendWith (.ref S) (.ref r) (.ref S)) _ _ { s with heap:=s.heap.push { cls:=.type "list", data:=.seq #[] } }
 have hS:(s.heap.push { cls:=.type "list", data:=.seq #[] }).get? S=some { cls:=.type "list", data:=.seq #[] }:=by rw[eS];exact Heap.get?_push_size _ rfl
 have k1:∀b o,s.heap.get? b=some o->(s.heap.push { cls:=.type "list", data:=.seq #[] }).get? b=some o:=fun b o q=>Heap.get?_push_of_some _ q
 have z1:(s.heap.push { cls:=.type "list", data:=.seq #[] }).objs.size=S+1:=by rw[Heap.size_push,eS]
 generalize s.heap.push { cls:=.type "list", data:=.seq #[] }=h1 at hS k1 z1
 have hv1:h1.IsItemsView r d:=let⟨o,q,x⟩:=hv;⟨o,k1 _ _ q,x⟩
 unfold Builtin.List.listExtendWith
 refine wpAny_bind (wpAny_typeOf (T := "dict_items") hv1.typeIs ?_)
 have q1:Builtin.List.listSameRef (.ref S) (.ref r)=false:=by simp[Builtin.List.listSameRef,n1]
 have q2:(Value.type "dict_items" == Value.type "list")=false:=by decide
 have q3:(Value.type "dict_items" == Value.type "tuple")=false:=by decide
 simp only[q1,q2,q3,Bool.or_false,Bool.false_eq_true,if_false]
 refine wpAny_bind (aJ4 hv1 (k1 _ _ ho) hd ?_)
 have hI:(h1.push (itO .none false d 0 es.size ep .none .none)).get? (S+1)=some (itO .none false d 0 es.size ep .none .none):=by rw[← z1];exact Heap.get?_push_size _ rfl
 have k2:∀b o,h1.get? b=some o->(h1.push (itO .none false d 0 es.size ep .none .none)).get? b=some o:=fun b o q=>Heap.get?_push_of_some _ q
 show wpAny _ _ _ _ _ { s with heap:=h1.push (itO .none false d 0 es.size ep .none .none) }
 rw[z1]
 generalize h1.push (itO .none false d 0 es.size ep .none .none)=h2 at hI k2
 have hS2:=k2 _ _ hS
 have loop:∀(h3:Heap) (c:Nat),(∀b o,b≠S->h2.get? b=some o->h3.get? b=some o)->h3.get? S=some (ae7 [] c)->codeAny (model X.prog X.w) A (.builtin "list.extend.loop" ⟨[.ref S,.ref (S+1),.ref S],[]⟩) (fun q s'=>∃H' Hf' Ts c,q=.ok (.ret (.ref S))/\Inv X pins σ H' s'/\Grow H Hf H' Hf'/\s'.heap.get? S=some (ae7 Ts c)/\TsI Hf' ws Ts ws.length) { s with heap:=h3 }:=fun h3 c k3 hS3=>by
  have fI:L7 X pins H (S+1):=I.fpOk (by omega) (I.hok.fresh (by omega))
  have I3:Inv X pins σ H { s with heap:=h3,toks:=s.toks }:=K5 (ch:=[S]) I (fun b hb=>by simp at hb;rw[hb];exact fS) fun b u hb q=>k3 b u (by simpa using hb) (k2 _ _ (k1 _ _ q))
  exact aw2 (ws:=ws) (es:=es) (ep:=ep) (od:=od) hc n4 n3.symm n2 hz pr hd ws.length 0 _ H Hf [] c (by omega) (by omega) I3 (fun b hb=>by
   simp at hb
   rcases hb with rfl|rfl
   ·exact fI
   ·exact fS) ⟨_,_,_,_,k3 _ _ n3 hI,.inl rfl⟩ (k3 _ _ n2.symm (k2 _ _ (k1 _ _ ho))) (Grow.refl ss) hS3 ⟨rfl,fun j T hj=>by simp at hj⟩ fun s' H' Hf' Ts c I' f' g' hS' t'=>⟨H',Hf',Ts,c,rfl,I',g',hS',t'⟩
 have done:∀{q:Result}{s':Shared},(∃H' Hf' Ts c,q=.ok (.ret (.ref S))/\Inv X pins σ H' s'/\Grow H Hf H' Hf'/\s'.heap.get? S=some (ae7 Ts c)/\TsI Hf' ws Ts ws.length)->wpAny (model X.prog X.w) A (load S >>= fun o=>match o.data with | .seq xs _=>pure xs.toList|_=>unsupported "internal:collect") Q E s':=fun⟨H',Hf',Ts,c,_,I',g',hS',t'⟩=>by
  refine wpAny_bind (wpAny_load hS' (wpAny_pure ?_))
  show Q (Ts.map Value.ref).toArray.toList _
  rw[List.toList_toArray]
  exact h _ H' Hf' Ts I' g' t'
 refine wpAny_bind (wpAny_holding (kdx_hint (let⟨o,q,x,_⟩:=hv1;⟨o,k2 _ _ q,x⟩) ?_))
 refine wpAny_ite_split (fun _=>?_) (fun _=>wpAny_pure ⟨plainId_quiet PySem.F.plain_extend_loop _,codeAny_mono (loop h2 _ (fun _ _ _ q=>q) hS2) fun q s' x=>?_⟩)
 ·refine wpAny_bind (wpAny_rule (wpAny_bind ?_))
  show wpAny _ _ (updateSeq S (·.push .none) >>= fun _=>updateSeq S (·.pop)) _ _ _
  refine wpAny_bind (wpAny_updateSeq hS2 rfl ?_)
  have hS3:=Heap.get?_update_self (Obj.mapSeq (·.push Value.none)) hS2 rfl
  refine wpAny_updateSeq (hz:=by seq_fits) hS3 rfl ?_
  have hS4:=Heap.get?_update_self (Obj.mapSeq (·.pop)) hS3 rfl
  refine wpAny_pure ⟨plainId_quiet PySem.F.plain_extend_loop _,codeAny_mono (loop _ _ (fun b o hb q=>?_) hS4) fun q s' x=>?_⟩
  ·exact(Heap.get?_update_other _ _ (Ne.symm hb)).trans ((Heap.get?_update_other _ _ (Ne.symm hb)).trans q)
  ·obtain⟨_,_,_,_,e,_⟩:=id x;subst e;exact done x
 ·obtain⟨_,_,_,_,e,_⟩:=id x;subst e;exact done x
end
end G
namespace G
open PySem PySem.Spec PyProof.Rows L2
theorem ab0{K:PySem.W.Frag}{h:Heap}{C:Addr}{bb:List Value}{nid:String}(kin:K.In h) (q:PySem.W.excIn K C bb nid=true) :
  ∃nm qn N bs bm hd sn sub ab col dd k0 k1 k2 k3 k5 mN,h.get? C=some (excClassObj nm qn C N bs bm hd sn sub ab col dd k0 k1 k2 k3 k5 nid)/\h.Ns N mN/\mN "__init__" = none/\OwnTail h bb bm:=by
 unfold PySem.W.excIn at q
 split at q
 case h_2=>cases q
 rename_i d0 c0 sl0 lk
 split at q
 case h_2=>cases q
 rename_i C1 tl p0 p1 p2 p3 n1 p5 e1 e2
 simp only[Bool.and_eq_true,beq_iff_eq,Bool.not_eq_true']at q
 obtain⟨⟨⟨⟨⟨q1,q2⟩,q3⟩,q4⟩,q5⟩,q6⟩:=q
 subst q1 q2
 obtain⟨f1,f2,f3,f4,f5,f6,f7,f8,f9,f10,f11⟩:=c0
 dsimp only at e1 q3 q5 q6
 subst e1 q3
 obtain⟨sll⟩:=sl0
 dsimp only at e2
 subst e2
 exact⟨f1,f5,f4,f2,tl,f6,f7,f8,f9,f10,d0,p0,p1,p2,p3,p5,_,kin _ _ lk,.of_isNs (PySem.W.isNs_of_in kin q5),PySem.W.nsMap_none_of_in kin q5 q6,PySem.W.tail_of_in kin q4⟩
structure Fly (R:Addr->Prop) (l:List Env) (g B:Heap) (C a:Addr) (h:Heap):Prop where
 keep:∀b o,R b->g.get? b=some o->b∉frs l->B.get? b=some o
 fly:∃t,Heap.FlyingW B l a (.ref C) (.ref t) h
 sl:∀b o,g.get? b=some o->b∈frs l->∃z,h.get? b=some { o with slots:=z }
noncomputable def Rl(s:Shared) (H':Hp) (b:Addr):Prop:=s.heap.get? b≠none\/H' b≠none
noncomputable def CX1(P:Program) (w:World):CXT:=fun outer H s E e s'=>∃a C g B H',e=.ref a/\s'.os=s.os/\AllBare s'.gens/\Un (frs outer) [] H H' s.heap g/\HOk P w H' g/\Fly (Rl s H') outer g B C a s'.heap/\E (.ref C) none H'
section
variable {X:Cx}{pins:List (Addr×Obj)}{σ:L2.St}{H H':Hp}{s s':Shared}{g B:Heap}
theorem bt7(I:Inv X pins σ H s) (os:s'.os=s.os) (bare:AllBare s'.gens) (un:Un (frs X.stack) [] H H' s.heap g) (hok:HOk X.prog X.w H' g) (keep:∀b o,Rl s H' b->g.get? b=some o->b∉frs X.stack->B.get? b=some o)
  (hB:B.StaysIn s'.heap) (sl:∀b o,g.get? b=some o->b∈frs X.stack->∃z,s'.heap.get? b=some { o with slots:=z }):Inv X pins σ H' s':=by
 have nx:∀b:Addr,b∉([]:List Addr):=fun b z=>absurd z (by simp)
 refine I.call' (ch:=[]) os ⟨fun b o e n m z=>hB b o (keep b o (.inl (by rw[e];simp)) (un.keep b o e n m z) m),fun b o e n m z=>?_,un.free,fun b o e z=>?_,un.tups,un.frzs,un.tbls⟩ ?_ bare (fun b z=>absurd z (nx b))
 ·obtain⟨z1,q⟩:=un.slot b o e n m z
  obtain⟨z2,q2⟩:=sl b _ q m
  exact⟨z2,q2⟩
 ·obtain⟨o',q⟩:=un.there b o e z
  by_cases m:b∈frs X.stack
  ·obtain⟨z2,q2⟩:=sl b _ q m;exact⟨_,q2⟩
  ·exact⟨o',hB b o' (keep b o' (.inl (by rw[e];simp)) q m)⟩
 ·intro a o e
  have fr0:∀b,b∈frs X.stack->H' b=none:=fun b m=>by
   obtain⟨_,o1,h1,_⟩:=I.stack.mem m
   exact un.free b o1 h1 (I.stkFree b m) (nx b)
  refine(hok a o e).stay (fun b u hb q=>?_) (fun _ q=>q) fun _ _ q=>q
  have hn:H' b≠none:=by
   rcases hb with rfl|hb
   ·rw[e];simp
   ·rw[hb];simp
  exact hB b u (keep b u (.inr hn) q fun m=>hn (fr0 b m))
end
section
variable {P:Program}{w:World}{K:PySem.W.Frag}{mg:Str->Option Value}{base:Heap}{N:List Str}{qual:Str}{scope:Scope}{f:Addr}{cd:Value}{A:Around}{outer:List Env}{s:Shared}{H H1:Hp}{E:XK}
 {pins:List (Addr×Obj)}{σ:L2.St}{s1 s':Shared}{h2:Heap}{a C:Addr}{vs:List Value}
noncomputable abbrev cx1(P:Program) (w:World) (K:PySem.W.Frag) (mg:Str->Option Value) (base:Heap) (N:List Str) (qual:Str) (scope:Scope) (f:Addr) (cd:Value) (A:Around) (outer:List Env) (s:Shared) (H:Hp) (E:XK):Cx:=ak9 (CX1 P w) P w K mg base N qual scope f cd A outer s H E
theorem bw4(I:Inv (cx1 P w K mg base N qual scope f cd A outer s H E) pins σ H1 s1) (r:Rl s H1 b):b≠s.heap.objs.size:=by
 rintro rfl
 rcases r with r|r
 ·exact r (Heap.get?_none_of_le (Nat.le_refl _))
 ·exact r I.free
theorem ae4(h1:b∉frs outer) (h2:b≠s.heap.objs.size):b∉frs (cx1 P w K mg base N qual scope f cd A outer s H E).stack:=fun m=>by
 have m:b∈s.heap.objs.size::frs outer:=m
 rcases List.mem_cons.mp m with z|z
 ·exact h2 z
 ·exact h1 z
theorem ap0(I:Inv (cx1 P w K mg base N qual scope f cd A outer s H E) pins σ H1 s1) (hm:Heap.MadeExcOf s1.heap h2 a (.ref C) vs) (hE:E (.ref C) none H1):(cx1 P w K mg base N qual scope f cd A outer s H E).xe (.ref a) { s1 with heap:=h2 }:=by
 have hin:∀env∈(cx1 P w K mg base N qual scope f cd A outer s H E).stack,∀b,env.frame=some b->b∈frs (cx1 P w K mg base N qual scope f cd A outer s H E).stack:=fun env he b hb=>List.mem_filterMap.mpr ⟨env,he,hb⟩
 refine wpAny_leaves_madeW (base:=PySem.W.hideAll s1.heap (frs (cx1 P w K mg base N qual scope f cd A outer s H E).stack)) (h:=s1.heap) (outer:=outer) I.ok.frames rfl (fun b o q=>PySem.W.of_hideAll _ q) (PySem.W.funFrames_hide I.stack hin) hm fun h' t x1 _ _ x4=>?_
 refine⟨a,C,s1.heap,_,H1,rfl,I.os,I.bare,I.base,I.hok,⟨fun b o r e m=>PySem.W.hideAll_get _ e (ae4 m (bw4 I r)),⟨t,x1⟩,fun b o e m=>?_⟩,hE⟩
 obtain⟨_,o',e',hd⟩:=I.stack.mem (List.mem_cons_of_mem _ m)
 rw[e]at e';cases e'
 exact x4 b o (hm.keeps b o e) hd
theorem aD1(I:Inv (cx1 P w K mg base N qual scope f cd A outer s H E) pins σ H1 s1) (hx:CX1 P w (cx1 P w K mg base N qual scope f cd A outer s H E).stack H1 s1 E e s'):(cx1 P w K mg base N qual scope f cd A outer s H E).xe e s':=by
 obtain⟨a,C,g,B,H',rfl,os,bare,un,hok,F,hE⟩:=hx
 have J:Inv (cx1 P w K mg base N qual scope f cd A outer s H E) pins σ H' { s' with heap:=g }:=I.call' (s':={ s' with heap:=g }) (ch:=[]) os un hok bare (fun b z=>absurd z (by simp))
 obtain⟨t,fl⟩:=F.fly
 refine wpAny_leaves_onW (outer:=outer) I.ok.frames rfl fl fun h' x1 x2=>?_
 have up:∀b,Rl s H' b->Rl s1 H' b:=fun b r=>r.imp (fun z q=>by
  cases e:s.heap.get? b with
  | none=>exact z e
  | some o =>
   obtain⟨o',q'⟩:=I.base.there b o e (fun z=>absurd (show b∈([]:List Addr) from z) (by simp))
   rw[q]at q';cases q') id
 refine⟨a,C,g,B,H',rfl,J.os,bare,J.base,J.hok,⟨fun b o r e m=>F.keep b o (up b r) e (ae4 m (bw4 J r)),⟨t,x1⟩,fun b o e m=>?_⟩,hE⟩
 obtain⟨z,e2⟩:=F.sl b o e (List.mem_cons_of_mem _ m)
 obtain⟨_,o',e',hd⟩:=J.stack.mem (List.mem_cons_of_mem _ m)
 have e':g.get? b=some o':=e'
 rw[e]at e';cases e'
 obtain⟨z2,q⟩:=x2 b _ e2 hd
 exact⟨z2,q⟩
end
end G
namespace G
open PySem PySem.Spec PyProof.Rows L2
noncomputable abbrev veB:List Value:=[.type "ValueError", .type "Exception", .type "BaseException", .type "object"]
noncomputable def P6(K:PySem.W.Frag) (x:Str):Bool:=match clA K x with
 | some C=>PySem.W.excIn K C veB "ValueError.__new__"
 | none=>false
noncomputable abbrev RD:=Rho->Option (Str×Rho)
noncomputable def EC(C:Addr) (H1:Hp):XK:=fun cls _ H'=>cls=.ref C/\B5 H1 H'
noncomputable def Ou(X:Cx) (m:Bool) (pins:List (Addr×Obj)) (ρ1:Rho) (C:Addr) (H0 Hf0:Hp) (e:Value) (s':Shared):Prop:=∃σ1 H1 Hf1 s1,Inv X pins σ1 H1 s1/\At X.K H0 Hf0 ρ1 σ1 H1 Hf1 /\
 ((m=true/\∃h' a vs,s'={ s1 with heap:=h' }/\e=.ref a/\Heap.MadeExcOf s1.heap h' a (.ref C) vs)\/CX1 X.prog X.w X.stack H1 s1 (EC C H1) e s')
noncomputable def Lo(X:Cx) (C:Addr) (H0:Hp) (e:Value) (s':Shared):Prop:=wpAny (model X.prog X.w) X.A (leaving X.env e) (fun _ s''=>CX1 X.prog X.w X.outer X.H₀ X.s₀ (EC C H0) e s'') (fun e' s''=>CX1 X.prog X.w X.outer X.H₀ X.s₀ (EC C H0) e' s'') s'
noncomputable def Ot(X:Cx) (m:Bool) (pins:List (Addr×Obj)) (ρ1:Rho) (C:Addr) (H0 Hf0:Hp) (e:Value) (s':Shared):Prop:=Ou X m pins ρ1 C H0 Hf0 e s'\/(m=true/\Lo X C H0 e s')
noncomputable def JR(X:Cx) (m:Bool) (st:Stmt) (r:RD):Prop:=∀ρ x ρ1 C,r ρ=some (x,ρ1)->clA X.K x=some C->∀H0 Hf0 pins s σ H Hf,Inv X pins σ H s->At X.K H0 Hf0 ρ σ H Hf ->
 wpAny (model X.prog X.w) X.A (exec st X.env) (fun _ _=>False) (Ot X m pins ρ1 C H0 Hf0) s
noncomputable def JRs(X:Cx) (m:Bool) (sts:List Stmt) (r:RD):Prop:=∀ρ x ρ1 C,r ρ=some (x,ρ1)->clA X.K x=some C->∀H0 Hf0 pins s σ H Hf,Inv X pins σ H s->At X.K H0 Hf0 ρ σ H Hf ->
 wpAny (model X.prog X.w) X.A (execs sts X.env) (fun _ _=>False) (Ot X m pins ρ1 C H0 Hf0) s
noncomputable def PX(X:Cx) (m:Bool) (e:Expr) (r:RD):Prop:=∀ρ x ρ1 C,r ρ=some (x,ρ1)->clA X.K x=some C->∀H0 Hf0 pins s σ H Hf,Inv X pins σ H s->At X.K H0 Hf0 ρ σ H Hf ->
 wpAny (model X.prog X.w) X.A (eval e X.env) (fun _ _=>False) (Ot X m pins ρ1 C H0 Hf0) s
theorem noX{α:Type}{t:Sem α}{Q Q':α->Shared->Prop}{M:Model}{A:Around}{E E':Value->Shared->Prop}{s:Shared}(hx:∀e s,E e s->False) (h:wpAny M A t Q E s) (hQ:∀a s,Q a s->Q' a s):wpAny M A t Q' E' s:=wpAny_mono h hQ fun e s z=>(hx e s z).elim
section
variable {X:Cx}{m:Bool}(hx:∀e s,X.xe e s->False)
include hx
noncomputable def ai2(x:Str) (f:DE):RD:=fun ρ=>(f ρ).map fun _=>(x,ρ)
theorem aZ0{x:Str}{e:Expr}{f:DE}{np cpos pos:Pos}(hq:P6 X.K x=true) (hg:Gl X x) (hm:∀C,clA X.K x=some C->X.mg x=some (.ref C)) (hc:X.calm=true) (he:JE X e f) (hd:(x==("__debug__" : Str))=false)
  (hs:starEach [e] X.env=[(false,eval e X.env)]):JR X true (.Raise (some (.Call (.Name x np) [e] [] cpos)) none pos) (ai2 x f):=by
 intro ρ y ρ1 C q hC H0 Hf0 pins s σ H Hf I at_
 obtain⟨d,q1,q2⟩:=Option.map_eq_some_iff.mp q
 cases q2
 have hq:PySem.W.excIn X.K C veB "ValueError.__new__" = true:=by unfold P6 at hq;rw[hC]at hq;exact hq
 obtain⟨nm,qn,N,bs,bm,hd',sn,sub,ab,col,dd,k0,k1,k2,k3,k5,mN,g1,g2,g3,g4⟩:=ab0 I.mod.kin hq
 refine wpAny_Raise_call_subT (C:=C) (bm:=bm) (nm:=nm) (q:=qn) (N:=N) (bs:=bs) (hdct:=hd') (sn:=sn) (sub:=sub) (ab:=ab) (col:=col) (dd:=dd) (k0:=k0) (k1:=k1) (k2:=k2) (k3:=k3) (k5:=k5) F.excBase_ValueError (g4.hasType (by decide)) (I.ok.hd hc) (by rw[hs];rfl) g3 ?_
 refine N4 I hg (hm C hC) ⟨rfl,?_⟩ hd
 have hA:=(aF6 he bb3 (by rw[hs];rfl)).run ρ [d] (by simp only[A0,A2,q1,Option.bind_some,Option.map_some]) cpos pins s σ H (fun vs H'=>(∃Hf',At X.K H0 Hf0 ρ σ H' Hf')/\vs.length=1) I ⟨H0,Hf,at_.gr.sub,at_.sl,fun vs H' Hf' gr rs=>⟨⟨Hf',at_.grow gr⟩,rs.length⟩⟩
 rw[hs]at hA ⊢
 refine Calls.evalArgs_plain (noX hx hA fun us s2 ⟨vs,H2,I2,r2,⟨Hf2,a2⟩,l1⟩=>?_)
 have ln:us.length=1:=by rw[← r2.length];exact l1
 exact⟨rfl,by show us.length<=_;rw[ln];decide,I2.bk _ _ g1,g2.keeps I2.bk,g4.keeps I2.bk,fun h' a hm'=>.inl ⟨σ,H2,Hf2,s2,I2,a2,.inl ⟨rfl,h',a,us,rfl,rfl,hm'⟩⟩⟩
noncomputable def rNo:RD:=fun _=>none
omit hx in
theorem R0{st:Stmt}:JR X m st rNo:=fun ρ x ρ1 C q=>by cases q
omit hx in
theorem bK0:JRs X m sts rNo:=fun ρ x ρ1 C q=>by cases q
noncomputable def rIf(t:Rho->Option Bool) (a b:RD):RD:=fun ρ=>(t ρ).bind fun c=>if c=true then a ρ else b ρ
theorem bX2{c:Expr}{a b:List Stmt}{t:Rho->Option Bool}{f g:RD}{pos:Pos}(hc:JT X c t) (ha:JRs X m a f) (hb:JRs X m b g):JR X m (.If c a b pos) (rIf t f g):=by
 intro ρ x ρ1 C q hC H0 Hf0 pins s σ H Hf I at_
 obtain⟨d,q1,q2⟩:=xbm q
 refine wpAny_If (noX hx (hc ρ d q1 pins s σ H (fun d' H'=>d'=d/\∃Hf',Grow H Hf H' Hf') I ⟨H0,Hf,at_.gr.sub,at_.sl,fun H' Hf' gr=>⟨rfl,Hf',gr⟩⟩) fun d' s1 ⟨H1,I1,e,Hf1,gr⟩=>?_)
 subst e
 cases d' with
 | true=>exact ha ρ x ρ1 C q2 hC H0 Hf0 pins s1 σ H1 Hf1 I1 (at_.grow gr)
 | false=>exact hb ρ x ρ1 C q2 hC H0 Hf0 pins s1 σ H1 Hf1 I1 (at_.grow gr)
noncomputable def av1(r:RD) (f:DS) (r2:RD):RD:=fun ρ=>match r ρ with
 | some x=>some x
 | none=>match f ρ with
  | some (.nx ρ')=>r2 ρ'
  | _=>none
theorem aY9{st:Stmt}{sts:List Stmt}{r r2:RD}{f:DS}(h1:JR X m st r) (h2:JS X st f) (h3:JRs X m sts r2):JRs X m (st::sts) (av1 r f r2):=by
 intro ρ x ρ1 C q hC H0 Hf0 pins s σ H Hf I at_
 unfold av1 at q
 split at q
 ·rename_i y e
  cases q
  exact wpAny_execs_cons (thn (h1 ρ x ρ1 C e hC H0 Hf0 pins s σ H Hf I at_) fun _ _ z=>z.elim)
 ·split at q
  ·rename_i ρ' e
   refine wpAny_execs_cons (noX hx (h2 ρ _ e H0 Hf0 pins s σ H { nx:=fun σ' H'=>∃Hf',At X.K H0 Hf0 ρ' σ' H' Hf',rt:=fun _ _=>False } I ⟨Hf,at_,fun σ' H' Hf' a _=>⟨Hf',a⟩⟩) fun fl s1 z=>?_)
   cases fl with
   | next =>
    obtain⟨σ1,H1,I1,Hf1,a1⟩:=z
    exact h3 ρ' x ρ1 C q hC H0 Hf0 pins s1 σ1 H1 Hf1 I1 a1
   | ret v=>obtain⟨_,_,_,_,_,z⟩:=z;exact z.elim
   | brk=>obtain⟨_,_,_,z⟩:=z;exact z.elim
   | cont=>obtain⟨_,_,_,z⟩:=z;exact z.elim
  ·cases q
omit hx in
theorem br1{st:Stmt}{r:RD}(h1:JR X m st r):JRs X m [st] r:=fun ρ x ρ1 C q hC H0 Hf0 pins s σ H Hf I at_ =>
 wpAny_execs_cons (thn (h1 ρ x ρ1 C q hC H0 Hf0 pins s σ H Hf I at_) fun _ _ z=>z.elim)
noncomputable def spR(K:PySem.W.Frag) (n:Nat) (R:List D->Option Str):Sp:=fun vs H _ E=>vs.length=n/\∃Hf ds x C,B5 Hf H/\Reps K Hf ds vs/\R ds=some x/\clA K x=some C/\∀H',B5 H H'->E (.ref C) none H'
noncomputable def an4(R:List D->Option Str) (g:Rho->Option (List D)):RD:=fun ρ=>(g ρ).bind fun ds=>(R ds).map fun x=>(x,ρ)
theorem bl7{k:Nat}{f:Addr}{fd:FuncData}{ps:List Str}{n:Nat}{R:List D->Option Str}{x:Str}{e:Expr}{es:List Expr}{g:Rho->Option (List D)}{p pos:Pos}(Fk:FnOk X.prog X.w X.K X.mg X.base (CX1 X.prog X.w) k f fd ps (spR X.K n R)) (hr:Room k X.A) (hg:Gl X x) (hm:X.mg x=some (.ref f)) (hk:PySem.W.keepIn X.K (.ref f)=true) (hb:K1 X.K fd ps [])
  (ha:JA X (e::es) g) (hn:(e::es).length=n) (hdb:(x==("__debug__" : Str))=false) (he:starEach (e::es) X.env=(false,eval e X.env)::starEach es X.env) (hpl:(backTo pos (starEach es X.env)).any (·.1)=false) :
  PX X m (.Call (.Name x p) (e::es) [] pos) (an4 R g):=by
 intro ρ y ρ1 C q hC H0 Hf0 pins s σ H Hf I at_
 obtain⟨ds,h1,h2⟩:=xbm q
 obtain⟨y',h4,h3⟩:=Option.map_eq_some_iff.mp h2
 cases h3
 refine wpAny_Call_Name_kw (N4 I hg hm ?_ hdb)
 refine PySem.W.callWith_K (h₀:=X.base) I.ok.mod.kin hk (noX hx (ha.run ρ ds h1 pos pins s σ H (fun vs H'=>∃Hf',At X.K H0 Hf0 ρ σ H' Hf'/\Reps X.K Hf' ds vs) I ⟨H0,Hf,at_.gr.sub,at_.sl,fun vs H1 Hf1 g1 r1=>⟨Hf1,at_.grow g1,r1⟩⟩) fun us s1 ⟨vs,H1,I1,r,Hf1,a1,rp⟩=>⟨I1.kIn,?_⟩) he hpl
 have hl:vs.length=n:=by rw[rp.length,ha.len ρ ds h1,hn]
 have sp:spR X.K n R vs H1 (fun _ _=>False) (EC C H1):=⟨hl,Hf1,ds,y,C,a1.gr.sub,rp,h4,hC,fun H' sm=>⟨rfl,sm⟩⟩
 have hl2:us.length=ps.length:=by rw[← r.length];exact Fk.len vs H1 (fun _ _=>False) (EC C H1) sp
 have bd:BindsTo s1 fd ⟨us,[]⟩ (ps.zip us):=by
  have:=hb s1 us I1.kIn (by rw[List.append_nil];exact hl2)
  rwa [List.append_nil]at this
 refine wpAny_call (codeAny_mono (Fk.run X.A X.stack s1 H1 ⟨us,[]⟩ us vs (fun _ _=>False) (EC C H1) hr I1.env0 bd r sp) fun rs s' hq=>?_)
 cases rs with
 | error e=>exact .inl ⟨σ,H1,Hf1,s1,I1,a1,.inr hq⟩
 | ok fl =>
  cases fl with
  | ret u=>obtain⟨_,_,_,_,_,_,_,z⟩:=hq;exact z.elim
  | next=>exact False.elim hq
  | brk=>exact False.elim hq
  | cont=>exact False.elim hq
omit hx in
theorem br2(h:PX X m e r) (hs:swapsWith e none pos.line X.env=pure false):JR X m (.Expr e pos) r:=fun ρ x ρ1 C q hC H0 Hf0 pins s σ H Hf I at_ =>
 wpAny_Expr_any (thn (h ρ x ρ1 C q hC H0 Hf0 pins s σ H Hf I at_) fun _ _ z=>z.elim) I.quiet hs
omit hx in
theorem bK2(h:PX X m e r):JR X m (.Return (some e) pos) r:=fun ρ x ρ1 C q hC H0 Hf0 pins s σ H Hf I at_ =>
 wpAny_Return_some (thn (h ρ x ρ1 C q hC H0 Hf0 pins s σ H Hf I at_) fun _ _ z=>z.elim)
omit hx in
theorem bK1(h:PX X m e r) (hs:swapsWith e (some (.Name x pos')) pos.line X.env=pure false):JR X m (.Assign [.Name x pos'] e pos) r:=fun ρ y ρ1 C q hC H0 Hf0 pins s σ H Hf I at_ =>
 wpAny_Assign_Name (thn (h ρ y ρ1 C q hC H0 Hf0 pins s σ H Hf I at_) fun _ _ z=>z.elim) hs
end
theorem CX1.mono(h:CX1 P w outer H s E e s') (m:∀cls H',E cls none H'->E' cls none H'):CX1 P w outer H s E' e s':=by
 obtain⟨a,C,g,B,H',q1,q2,q3,q4,q5,q6,q7⟩:=h
 exact⟨a,C,g,B,H',q1,q2,q3,q4,q5,q6,m _ _ q7⟩
noncomputable def aS9(r:RD) (n:Nat):List D->Option Str:=fun ds=>(r (N8 n ds)).map (·.1)
theorem bd3{P:Program}{w:World}{K:PySem.W.Frag}{mg:Str->Option Value}{base:Heap}{x qual:Str}{st:Stmt}{f:Addr}{fd:FuncData}{N ps:List Str}{k:Nat}{r:RD}(F:Fun K x qual st f fd) (S:FnScope N ps (B2 st))
  (hb:∀(cdv:Value) (A:Around) (outer:List Env) (s:Shared) (H:Hp) (E:XK),Room k (A.deeper (envOfC qual (B2 st) s.heap.objs.size f cdv))->JRs (cx1 P w K mg base N qual (B2 st) f cdv A outer s H E).nox true (E2 st) r) :
  FnOk P w K mg base (CX1 P w) (k+1) f fd ps (spR K ps.length (aS9 r N.length)):=by
 obtain⟨oc,od,kV,doc,pm,an,cdv,ct,osl,rfl,lk,hcd⟩:=F.ex
 refine by2 lk hcd S (fun vs H Q E h=>h.1) fun A outer s H vs Q E hr hsp=>?_
 obtain⟨hlen,Hf,ds,y,C,ss,rp,e,hC,hE⟩:=hsp
 obtain⟨⟨y',ρ1⟩,e1,e2⟩:=Option.map_eq_some_iff.mp e
 cases e2
 refine⟨fun _ σ H'=>σ=L2.G3 N vs/\H'=H,fun pins s1 σ H1 D I z=>?_,rfl,rfl⟩
 obtain⟨rfl,rfl⟩:=z
 refine wpAny_mono (hb cdv A outer s H1 E hr (N8 N.length ds) y' ρ1 C e1 hC H1 Hf pins s1 _ H1 Hf (I.wish _) ⟨Grow.refl ss,i9 rp⟩) (fun _ _ z=>z.elim) fun ex s' ho=>?_
 rcases ho with ho|⟨_,lo⟩
 case inr =>
  exact wpAny_mono lo (fun _ s'' z=>CX1.mono z fun cls H' q=>by obtain⟨rfl,sm⟩:=q;exact hE H' sm) fun e' s'' z=>CX1.mono z fun cls H' q=>by obtain⟨rfl,sm⟩:=q;exact hE H' sm
 obtain⟨σ1,H2,Hf2,s2,I2,a2,o⟩:=ho
 have I2:=I2.unwish
 rcases o with⟨_,h',a,vs',rfl,rfl,hm⟩|hc
 ·exact ap0 I2 hm (hE H2 a2.gr.big)
 ·refine aD1 I2 ?_
  obtain⟨a,C',g,B,H',q1,q2,q3,q4,q5,q6,q7,q8⟩:=hc
  cases q7
  exact⟨a,C,g,B,H',q1,q2,q3,q4,q5,q6,hE H' (a2.gr.big.trans q8)⟩
end G
namespace G
open PySem PySem.Spec PyProof.Rows L2
section
variable {M:Model}{A:Around}{E:Value->Shared->Prop}{h:Heap}{g:Array GenState}{d:Drawn}{t:Nat}{os:OsState}
variable {nm qn nm2 qn2:Str}{C N D N2:Addr}{bs bm bs2 bm2:List Value}{hd hd2:Bool}{sn sn2:List Str}{sub sub2:List Value}{ab ab2:Bool}{col col2:Option Bool}{dd dd2:Option Addr}{k0 k1 k2 k3 k5 j0 j1 j2 j3 j5:Option Value}{nid nid2:String}
theorem cd5(hC:h.get? C=some (excClassObj nm qn C N bs bm hd sn sub ab col dd k0 k1 k2 k3 k5 nid)) (hD:h.get? D=some (excClassObj nm2 qn2 D N2 bs2 bm2 hd2 sn2 sub2 ab2 col2 dd2 j0 j1 j2 j3 j5 nid2))
  (he:h.get? e=some oe) (hcls:oe.cls=.ref C) (hb:bm2.contains (.type "BaseException")=true) (hq:Q ((Value.ref C::bm).contains (.ref D)) ⟨h,g,d,t,os⟩):wpAny M A (excMatches (.ref e) (.ref D)) Q E ⟨h,g,d,t,os⟩:=by
 have cB:(Value.ref D::bm2).contains (.type "BaseException")=true:=by rw[List.contains_cons,hb,Bool.or_true]
 have f:=tc_notTuple
 generalize hb:(Value.ref C::bm).contains (.ref D)=b at hq
 unfold excMatches
 repeat (first|(with_reducible refine wpAny_loadPart_at he ?_;rw[hcls])|with_reducible refine wpAny_loadPart_at hD ?_|(with_reducible refine wpAny_isSubtype_exc hD ?_;rw[cB])|(with_reducible refine wpAny_isSubtype_exc hC ?_;rw[hb])|wp_step)
 cases b<;>(wp_walk;exact hq)
end
noncomputable abbrev Cx.held(X:Cx) (e:Value):Cx:={ X with A:=X.A.mark (some e),calm:=false }
section
variable {X:Cx}{pins:List (Addr×Obj)}{σ:L2.St}{H:Hp}{s:Shared}
theorem Inv.held(I:Inv X pins σ H s) (e:Value):Inv (Cx.held X e) pins σ H s :=
 ⟨⟨I.ok.mod,I.ok.kind,I.ok.glob,I.ok.blt,I.ok.above,I.ok.inj,I.ok.has,I.ok.cab,(fun z=>by cases z),I.ok.frames,I.ok.stk,I.ok.exf,I.ok.bs,I.ok.bsz,I.ok.noex,I.ok.exfs,I.ok.funs,I.ok.frf⟩,I.os,I.bare,I.base,I.loc,I.cell,I.free,I.freeC,I.pin,I.hok,I.len⟩
theorem Inv.unheld(I:Inv (Cx.held X e) pins σ H s) (ok:X.Ok):Inv X pins σ H s:=⟨ok,I.os,I.bare,I.base,I.loc,I.cell,I.free,I.freeC,I.pin,I.hok,I.len⟩
theorem Inv.wipe(I:Inv X pins σ H s) (hn:h'.Ns X.env.locals m') (hs:Heap.SameBut X.env.locals s.heap h'):Inv X pins (List.replicate σ.length none) H { s with heap:=h',toks:=tk }:=by
 have ne0:∀b o,X.s₀.heap.get? b=some o->b≠X.env.locals:=fun b o e z=>by
  have:=Heap.lt_size e
  rw[z]at this
  exact absurd (Nat.lt_of_lt_of_le this I.ok.above) (Nat.lt_irrefl _)
 have eq:∀b,b≠X.env.locals->h'.get? b=s.heap.get? b:=fun b hb=>hs.2 b hb
 refine⟨I.ok,I.os,I.bare,⟨fun b o e n hb hx=>?_,fun b o e n hb hx=>?_,I.base.free,fun b o e hx=>?_,I.base.tups,I.base.frzs,I.base.tbls⟩,⟨m',hn,fun i x v _ e _=>?_⟩,fun x c e=>?_,I.free,I.freeC,fun p hp=>?_,fun a o e=>?_,by rw[List.length_replicate];exact I.len⟩
 ·show h'.get? b=_
  rw[eq b (ne0 b o e)];exact I.base.keep b o e n hb hx
 ·obtain⟨sl,q⟩:=I.base.slot b o e n hb hx
  exact⟨sl,by show h'.get? b=_;rw[eq b (ne0 b o e)];exact q⟩
 ·obtain⟨o',q⟩:=I.base.there b o e hx
  exact⟨o',by show h'.get? b=_;rw[eq b (ne0 b o e)];exact q⟩
 ·rw[List.getElem?_replicate]at e
  split at e<;>cases e
 ·obtain⟨v,o,q1,q2⟩:=I.cell x c e
  exact⟨v,o,by show h'.get? c=_;rw[eq c (I.cne x c e)];exact q1,q2⟩
 ·obtain⟨q1,q2,q3,q4,q5⟩:=I.pin p hp
  exact⟨by show h'.get? p.1=_;rw[eq p.1 q3];exact q1,q2,q3,q4,q5⟩
 ·refine(I.hok a o e).stay (fun b u hb q=>?_) (fun _ q=>q) fun _ _ q=>q
  show h'.get? b=_
  rw[eq b fun z=>?_]
  ·exact q
  ·have f:=I.free
   rcases hb with rfl|hb
   ·rw[z,f]at e;cases e
   ·rw[z,f]at hb;cases hb
end
theorem E6.is(x:E6 P w H h a o):∃u,h.get? a=some u:=by
 cases o with
 | lst xs=>obtain⟨_,_,_,_,e⟩:=x;exact⟨_,e⟩
 | tup xs=>obtain⟨_,_,_,ob,e,_⟩:=x;exact⟨_,e⟩
 | dK kvs=>obtain⟨_,_,_,_,ob,_,_,e,_⟩:=x;exact⟨_,e⟩
 | dT kvs=>obtain⟨_,_,_,_,ob,_,_,e,_⟩:=x;exact⟨_,e⟩
 | set S n=>obtain⟨ob,_,_,_,e,_⟩:=x;exact⟨_,e⟩
 | ins C dx fs=>obtain⟨_,_,_,e,_⟩:=x;exact⟨_,e⟩
 | own y=>exact x
 | xd fs=>obtain⟨_,⟨ob,_,_,e,_⟩,_⟩:=x;exact⟨_,e⟩
 | rng lo hi=>obtain⟨_,_,_,e⟩:=x;exact⟨_,e⟩
 | frz ob u=>obtain⟨e,_⟩:=x;exact⟨_,e⟩
 | tbl ps=>exact⟨_,x⟩
 | met f y=>exact⟨_,x⟩
 | ext φ=>obtain⟨_,e,_⟩:=x;exact e
section
variable {X:Cx}{pins:List (Addr×Obj)}{σ:L2.St}{H:Hp}{s:Shared}{a:Addr}{oe:Obj}
noncomputable abbrev fz(oe:Obj) (a:Addr):HO:=.frz oe (.own a)
theorem Inv.track(I:Inv X pins σ H s) (ha:H a=none) (e:s.heap.get? a=some oe) (n0:X.s₀.heap.get? a=none) (np:∀p∈X.pn++pins,p.1≠a) (nl:X.env.locals≠a) (nc:∀x c,X.env.cells.lookup x=some c->c≠a):Inv X pins σ (upd H a (fz oe a)) s:=by
 have nb:∀b o,X.s₀.heap.get? b=some o->b≠a:=fun b o q z=>by rw[z,n0]at q;cases q
 have up:∀b o,H b=some o->upd H a (fz oe a) b=some o:=fun b o q=>by rw[A7 (fun z=>by rw[z,ha]at q;cases q)];exact q
 refine⟨I.ok,I.os,I.bare,⟨I.base.keep,I.base.slot,fun b o q n hx=>?_,I.base.there,fun b xs q=>up b _ (I.base.tups b xs q),fun b o u q=>up b _ (I.base.frzs b o u q),fun b ps q=>?_⟩,I.loc,I.cell,?_,fun x c q=>?_,fun p hp=>?_,fun b o q=>?_,I.len⟩
 ·rw[A7 (nb b o q)];exact I.base.free b o q n hx
 ·obtain⟨more,z⟩:=I.base.tbls b ps q
  exact⟨more,up b _ z⟩
 ·rw[A7 nl];exact I.free
 ·rw[A7 (nc x c q)];exact I.freeC x c q
 ·obtain⟨q1,q2,q3⟩:=I.pin p hp
  exact⟨q1,by rw[A7 (np p hp)];exact q2,q3⟩
 ·by_cases hb:b=a
  ·subst hb
   rw[A6]at q;cases q
   exact⟨e,oe,e⟩
  ·rw[A7 hb]at q
   exact(I.hok b o q).stay (fun _ _ _ z=>z) (fun c z=>up c _ z) fun c xs z=>up c _ z
theorem Slots.hide{K:PySem.W.Frag}{H0 H Hf:Hp}{ρ:Rho}{σ:L2.St}(s:Slots K H0 ρ σ H Hf) (i:Nat) (v:Option V):Slots K H0 (ρ.set i none) (σ.set i v) H Hf:=by
 have ne:∀(j:Nat) (b:B),(ρ.set i none)[j]? = some (some b)->i≠j/\ρ[j]? = some (some b):=fun j b h=>by
  rw[List.getElem?_set]at h
  split at h
  ·split at h<;>cases h
  ·rename_i n;exact⟨n,h⟩
 have gt:∀j,i≠j->(σ.set i v)[j]? = σ[j]?:=fun j n=>by rw[List.getElem?_set,if_neg n]
 refine⟨by rw[List.length_set,List.length_set];exact s.len,fun j b h=>?_,fun j k ds es c h1 h2 h3 h4=>?_⟩
 ·obtain⟨n,h⟩:=ne j b h
  rw[gt j n];exact s.is j b h
 ·obtain⟨n1,h1⟩:=ne j _ h1
  obtain⟨n2,h2⟩:=ne k _ h2
  rw[gt j n1]at h3
  rw[gt k n2]at h4
  exact s.apart j k ds es c h1 h2 h3 h4
theorem ax1(sm:B5 H1 H') (sb:B5 Hf1 H1) (ha:H' a=none):Grow H1 Hf1 (upd H' a (fz oe a)) (upd Hf1 a (fz oe a)):=by
 have h1:H1 a=none:=sm.free ha
 have h2:Hf1 a=none:=sb.free h1
 refine⟨fun b o q=>?_,fun b o q=>?_,fun b o q=>?_,fun b q=>?_⟩
 ·rw[A7 (A8 q h1)];exact sm b o q
 ·by_cases hb:b=a
  ·subst hb;rw[A6]at q ⊢;exact q
  ·rw[A7 hb]at q ⊢;exact sm b o (sb b o q)
 ·rw[A7 (A8 q h2)];exact q
 ·by_cases hb:b=a
  ·subst hb;exact .inr h1
  ·rw[A7 hb]at q;exact .inl q
end
end G
namespace G
open PySem PySem.Spec PyProof.Rows L2
noncomputable def smZ(ns:List Int):Bool:=decide (ns.length<=1000)&&ns.all fun n=>decide (0<=n/\n<=1000000)
theorem aR0:∀{ns:List Int},(∀n∈ns,0<=n/\n<=1000000)->0<=ns.sum/\ns.sum<=1000000*ns.length
 | [],_=>by simp
 | n::ns,h=>by
  have:=aR0 fun m hm=>h m (.tail _ hm)
  have:=h n (.head _)
  rw[List.sum_cons,List.length_cons]
  omega
theorem ai7(zs:Array (Int×Tok)):∀j,j<=zs.size->preSum (numAt zs) j=((zs.toList.map (·.1)).take j).sum
 | 0,_=>by simp[preSum]
 | j+1,h=>by
  have hl:j < (zs.toList.map (·.1)).length:=by simp;omega
  rw[preSum,ai7 zs j (by omega),List.take_succ_eq_append_getElem hl,List.sum_append]
  have:numAt zs j=(zs.toList.map (·.1))[j]:=by
   have hj:j < zs.size:=by omega
   simp[numAt,hj]
  rw[this]
  simp
theorem aO8(hc:X.calm=true):G6 X (.builtin "sum") (fun xs H Q=>∃p ns,xs=[.ref p]/\SqL X.K H p (ns.map V.int)/\smZ ns=true/\Q (.int ns.sum) H):=by
 intro pins s σ H xs us Q I r h
 obtain⟨p,ns,rfl,hq,hz,q⟩:=h
 obtain⟨u,rfl,rx⟩:=K8 r
 cases rx
 obtain⟨its,rv,pl,_⟩:=I.list hq
 obtain⟨zs,e1,e2⟩:=G7 rv
 have hl:s.heap.IsList p (intItems zs.toArray):=by
  have:=pl.isList
  rw[e1]at this
  simpa [intItems] using this
 have hzs:zs.toArray.toList.map (·.1)=ns:=by simpa using e2
 have sz:zs.toArray.size=ns.length:=by rw[← hzs,List.length_map,Array.length_toList]
 unfold smZ at hz
 simp only[Bool.and_eq_true,decide_eq_true_eq,List.all_eq_true]at hz
 have bd:∀j,j<=ns.length->InLong (ns.take j).sum:=fun j hj=>by
  have:=aR0 (ns:=ns.take j) fun n hn=>hz.2 n (List.mem_of_mem_take hn)
  rw[List.length_take]at this
  unfold InLong
  have:=Nat.min_le_left j ns.length
  omega
 refine sum_intList (I.ok.hd hc) hl (fun j hj=>⟨?_,?_⟩) fun h' tk t' hk=>?_
 ·have hj':j < ns.length:=by omega
  have e:numAt zs.toArray j=ns[j]:=by
   have:ns[j]? = some (numAt zs.toArray j):=by
    rw[← hzs,List.getElem?_map,Array.getElem?_toList]
    unfold numAt
    rw[Array.getElem?_eq_getElem hj]
    rfl
   rw[List.getElem?_eq_getElem hj']at this
   exact(Option.some.inj this).symm
  have:=hz.2 _ (List.getElem_mem hj')
  rw[e]
  unfold InLong
  omega
 ·rw[ai7 _ _ (by omega),hzs];exact bd _ (by omega)
 ·rw[ai7 _ _ (Nat.le_refl _),hzs,sz,List.take_length]
  exact⟨.int _,H,I.kept (t':=tk) hk,⟨_,rfl⟩,q⟩
noncomputable def bZ0(f:Rho->Option (Bool×List D)):DE:=fun ρ=>(f ρ).bind fun q=>if q.1=true then none else(X9 q.2).bind fun ys=>if smZ ys=true then some (.int ys.sum) else none
theorem bK9(hg:Gl X "sum") (hm:X.mg "sum" = none) (h:JQ X e f) (hc:X.calm=true) (he:starEach [e] X.env=[(false,eval e X.env)]):JE X (.Call (.Name "sum" p) [e] [] pos) (bZ0 f):=fun ρ d q=>by
 obtain⟨⟨t,ds⟩,h1,q⟩:=xbm q
 split at q
 ·cases q
 ·rename_i ht
  have ht:t=false:=by simpa using ht
  subst ht
  obtain⟨ys,h2,q⟩:=xbm q
  split at q
  ·rename_i hz
   cases q
   refine A9 (F4 (aO8 hc) hg hm (by decide +kernel) (C0 (h ρ false ds h1) E3 he) (he:=he)) fun σ H Q ⟨H0,Hf,s,sl,k⟩=>?_
   refine⟨H0,Hf,s,sl,fun v H1 Hf1 g1 ⟨a,vs,e1,e2,e3⟩=>⟨a,ys,by rw[e1],?_,hz,?_⟩⟩
   ·rw[← O3 h2 e3];exact e2
   ·exact k _ _ _ g1 rfl
  ·cases q
end G
namespace G
open PySem PySem.Spec PyProof.Rows L2
noncomputable def aR1(K:PySem.W.Frag) (x c:Str):Bool:=match clA K x,clA K c with
 | some C,some D=>(match K.lookup C with
  | some ⟨_,_,.cls cd,_⟩=>cd.mro.contains (.ref D)
  | _=>false)
 | _,_=>false
noncomputable def ad9(r:RD) (f:DS) (i:Nat) (g:DS):DS:=fun ρ=>match r ρ with
 | some (x,ρ1)=>(match g (ρ1.set i (some (.exc x))) with
  | some (.rt d)=>some (.rt d)
  | _=>none)
 | none=>f ρ
theorem Slots.setExc{K:PySem.W.Frag}{H0 H Hf:Hp}{ρ:Rho}{σ:L2.St}(s:Slots K H0 ρ σ H Hf) {i:Nat}{x:Str}{v:V}(hb:SB K H0 H Hf (.exc x) v):Slots K H0 (ρ.set i (some (.exc x))) (σ.set i (some v)) H Hf:=by
 have own:∀(j:Nat) (ds:List D),(ρ.set i (some (B.exc x)))[j]? = some (some (.own ds))->i≠j/\ρ[j]? = some (some (.own ds)):=fun j ds h=>by
  rw[List.getElem?_set]at h
  split at h
  ·split at h<;>cases h
  ·rename_i n;exact⟨n,h⟩
 have gt:∀j,i≠j->(σ.set i (some v))[j]? = σ[j]?:=fun j n=>by rw[List.getElem?_set,if_neg n]
 refine⟨by rw[List.length_set,List.length_set];exact s.len,fun j b h=>?_,fun j k ds es c h1 h2 h3 h4=>?_⟩
 ·by_cases q:i=j
  ·subst q
   rw[List.getElem?_set,if_pos rfl]at h
   split at h
   ·rename_i l
    cases h
    exact⟨v,by rw[List.getElem?_set,if_pos rfl,if_pos (by rw[← s.len];exact l)],hb⟩
   ·cases h
  ·rw[List.getElem?_set,if_neg q]at h
   rw[gt j q];exact s.is j b h
 ·obtain⟨n1,h1⟩:=own j _ h1
  obtain⟨n2,h2⟩:=own k _ h2
  rw[gt j n1]at h3
  rw[gt k n2]at h4
  exact s.apart j k ds es c h1 h2 h3 h4
section
variable {X:Cx}
theorem bq6(hx:∀e s,X.xe e s->False) (hex:X.ex=[]) (hst:X.stack=X.env::X.outer) (hfr:X.env.frame=some X.env.locals)
  (hb:JSs X body f) (hr:JRs X false body r) (hgc:Gl X c) (hmc:∀D,clA X.K c=some D->X.mg c=some (.ref D)) (hdc:(c==("__debug__" : Str))=false) (hcb:P6 X.K c=true)
  (hsub:∀ρ x ρ1,r ρ=some (x,ρ1)->P6 X.K x=true/\aR1 X.K x c=true)
  (hN:X.N.Nodup) (hi:X.N[i]? = some n) (hl:X.env.scope.names.lookup n=some .local) (hh:∀a:Addr,JSs (Cx.held X (.ref a)) (b₀::suite) gd) :
  JS X (.Try body [.ExceptHandler (some (.Name c np)) (some n) (b₀::suite) hpos] [] [] pos) (ad9 r f i gd):=by
 intro ρ fl q H0 Hf0 pins s σ H En I hw
 obtain⟨Hf,at_,ends⟩:=hw
 unfold ad9 at q
 split at q
 case h_2 =>
  refine wpAny_Try_except (noX hx (hb ρ fl q H0 Hf0 pins s σ H En I ⟨Hf,at_,ends⟩) fun f' s1 z=>?_)
  cases f' with
  | next=>exact wpAny_execs_nil z
  | ret v=>exact z
  | brk=>exact z
  | cont=>exact z
 rename_i x ρ1 er
 obtain⟨d,hd,rfl⟩:∃d,gd (ρ1.set i (some (.exc x)))=some (.rt d)/\fl=.rt d:=by
  split at q
  ·rename_i d e;cases q;exact⟨d,e,rfl⟩
  ·cases q
 obtain⟨hxb,hsb⟩:=hsub ρ x ρ1 er
 obtain⟨C,hC⟩:∃C,clA X.K x=some C:=by
  unfold P6 at hxb
  cases e:clA X.K x with
  | none=>rw[e]at hxb;cases hxb
  | some C=>exact⟨C,rfl⟩
 obtain⟨D,hD⟩:∃D,clA X.K c=some D:=by
  unfold P6 at hcb
  cases e:clA X.K c with
  | none=>rw[e]at hcb;cases hcb
  | some C=>exact⟨C,rfl⟩
 have qC:PySem.W.excIn X.K C veB "ValueError.__new__" = true:=by unfold P6 at hxb;rw[hC]at hxb;exact hxb
 have qD:PySem.W.excIn X.K D veB "ValueError.__new__" = true:=by unfold P6 at hcb;rw[hD]at hcb;exact hcb
 obtain⟨nm,qn,N,bs,bm,hd',sn,sub,ab,col,dd,k0,k1,k2,k3,k5,mN,c1,c2,c3,c4⟩:=ab0 I.mod.kin qC
 obtain⟨nm',qn',N',bs',bm',hd'',sn',sub',ab',col',dd',j0,j1,j2,j3,j5,mN',d1,d2,d3,d4⟩:=ab0 I.mod.kin qD
 have hin:(Value.ref C::bm).contains (.ref D)=true:=by
  unfold aR1 at hsb
  rw[hC,hD]at hsb
  dsimp only at hsb
  split at hsb
  ·rename_i lk
   have z:=I.mod.kin _ _ lk
   rw[c1]at z
   cases z
   exact hsb
  ·cases hsb
 refine wpAny_Try_except (wpAny_mono (hr ρ x ρ1 C er hC H0 Hf0 pins s σ H Hf I at_) (fun _ _ z=>z.elim) fun ex s1 ho=>?_)
 rcases ho with ho|⟨z,_⟩
 case inr=>cases z
 obtain⟨σ1,H1,Hf1,s0,I1,a1,o⟩:=ho
 rcases o with⟨z,_⟩|hc
 ·cases z
 obtain⟨a,C',g,B,H',rfl,os,bare,un,hok,F,cE,sm⟩:=hc
 cases cE
 obtain⟨t,fl0⟩:=F.fly
 have nx:∀b:Addr,b∉([]:List Addr):=fun b z=>absurd z (by simp)
 have J:Inv X pins σ1 H' { s1 with heap:=g }:=I1.call' (s':={ s1 with heap:=g }) (ch:=[]) os un hok bare (fun b z=>absurd z (nx b))
 have key:∀h'':Heap,B.StaysIn h''->s1.heap.UpToSlots h''->Inv X pins σ1 H' { s1 with heap:=h'' }:=fun h'' k1 k2=>by
  refine bt7 (s':={ s1 with heap:=h'' }) I1 os bare un hok F.keep k1 fun b o e m=>?_
  obtain⟨z,e2⟩:=F.sl b o e m
  obtain⟨_,o',e',hd⟩:=J.stack.mem m
  have e':g.get? b=some o':=e'
  rw[e]at e';cases e'
  obtain⟨z2,q⟩:=k2 b _ e2 hd
  exact⟨z2,q⟩
 rw[hst]at fl0
 refine wpAny_looks_onW (outer:=X.outer) (by rw[← hst];exact I.ok.frames) hfr fl0 fun h4 held4 up4=>?_
 refine wpAny_landsW held4 fun h5 fl5 up5=>?_
 have I5:=key h5 fl5.1 (up4.trans up5)
 obtain⟨ob,hob,hobc⟩:=fl5.there
 refine wpAny_handleBy_cons (codeAny_handlers_test (N4 (Inv.held I5 (.ref a)) hgc (hmc D hD) ?_ hdc)) (by intro q;cases q)
 refine cd5 (I5.bk _ _ c1) (I5.bk _ _ d1) hob hobc (d4.hasType (by decide)) ?_
 rw[hin]
 refine codeAny_handlers_suite_as (lands_againW fl5 fun h6 fl6 up6=>?_)
 have I6:=key h6 fl6.1 ((up4.trans up5).trans up6)
 obtain⟨oe,ws,e6,ec6,ed6,_⟩:=fl6.first
 have nB:B.get? a=none:=fl6.2.1
 have nf:a∉frs X.stack:=fun m=>by
  obtain⟨_,o',e',hd⟩:=I6.stack.mem m
  have e':h6.get? a=some o':=e'
  rw[e6]at e';cases e'
  exact hd ws ed6
 have ng:∀o,Rl s0 H' a->g.get? a=some o->False:=fun o rr e=>by
  have:=F.keep a o rr e nf
  rw[nB]at this;cases this
 have ha:H' a=none:=by
  cases e:H' a with
  | none=>rfl
  | some o =>
   obtain⟨u,e'⟩:=E6.is (hok a o e)
   exact(ng u (.inr (by rw[e];simp)) e').elim
 have n0:s0.heap.get? a=none:=by
  cases e:s0.heap.get? a with
  | none=>rfl
  | some o =>
   obtain⟨u,e'⟩:=un.there a o e (nx a)
   exact(ng u (.inl (by rw[e];simp)) e').elim
 have n00:X.s₀.heap.get? a=none:=by
  cases e:X.s₀.heap.get? a with
  | none=>rfl
  | some o =>
   obtain⟨u,e'⟩:=I1.base.there a o e (by rw[hex];exact nx a)
   rw[n0]at e';cases e'
 have I7:Inv X pins σ1 (upd H' a (fz oe a)) { s1 with heap:=h6 }:=by
  refine Inv.track I6 ha e6 n00 (fun p hp z=>?_) (fun z=>?_) fun y cc e z=>?_
  ·have:=(I1.pin p hp).1
   rw[z,n0]at this;cases this
  ·obtain⟨m,⟨o',_,_,e',_⟩,_⟩:=I1.loc
   rw[z,n0]at e';cases e'
  ·obtain⟨v,o',e',_⟩:=I1.cell y cc e
   rw[z,n0]at e';cases e'
 have gr:Grow H1 Hf1 (upd H' a (fz oe a)) (upd Hf1 a (fz oe a)):=ax1 sm a1.gr.sub ha
 have a7:=a1.grow gr
 refine R5 (X:=Cx.held X (.ref a)) (v:=.ref a) (Inv.held I7 (.ref a)) hN hi (.inl hl) rfl (fun s8 I8=>?_) (.inr hl)
 refine wpAny_mono (hh a _ _ hd H0 Hf0 pins s8 _ _ { nx:=fun _ _=>False,rt:=fun v H'=>∃Hf',Grow H0 Hf0 H' Hf'/\Rep X.K Hf' d v } I8 ⟨_,⟨a7.gr,Slots.setExc a7.sl ⟨a,oe,C,rfl,A6,hC,ec6⟩⟩,fun v H' Hf' g r=>⟨Hf',g,r⟩⟩) (fun fl' s9 z=>?_) fun e s z=>(hx e s z).elim
 cases fl' with
 | next=>obtain⟨_,_,_,z⟩:=z;exact z.elim
 | brk=>obtain⟨_,_,_,z⟩:=z;exact z.elim
 | cont=>obtain⟨_,_,_,z⟩:=z;exact z.elim
 | ret u =>
 obtain⟨v,σ9,H9,I9,rv,Hf9,g9,rp⟩:=z
 have I9:=Inv.unheld I9 I.ok
 obtain⟨m9,hn9,_⟩:=I9.loc
 refine wpAny_nameGoes (m:=m9) (by show X.env.scope.names.lookup n=_;exact hl) hn9 (by rw[I.ok.kind];rfl) fun h' m' hn' hs'=>?_
 exact⟨v,_,H9,Inv.wipe I9 hn' hs',rv,ends v H9 Hf9 g9 rp⟩
end
end G
namespace G
open PySem PySem.Spec PyProof.Rows L2
section
variable {prog:Program}{w:World}{A:Around}{E:Value->Shared->Prop}{h:Heap}{g:Array GenState}{d:Drawn}{t:Nat}{os:OsState}{a C:Addr}{o:Obj}{K:PySem.W.Frag}
noncomputable def xcB(K:PySem.W.Frag) (C:Addr):Bool:=PySem.W.findIn K (.ref C) "__class__" == some (some (.builtin "object.__class__"))&&PySem.W.findIn K (.ref C) "__getattribute__" == some (some (.builtin "BaseException.__getattribute__")) &&
 PySem.W.findIn K (.ref C) "__getattr__" == some none&&PySem.W.mroIn K C (.type "object")==some true&&PySem.W.mroIn K C (.type "BaseException")==some true
theorem bz6(kin:K.In h) (hx:h.get? a=some o) (hc:o.cls=.ref C) (hm:PySem.W.mroIn K C (.type "object")=some true) (hq:R (.ok (.ret (.ref C))) ⟨h,g,d,t,os⟩) :
  codeAny (model prog w) A (.call (.builtin "getset_descriptor.__get__") ⟨[.builtin "object.__class__", .ref a,.ref C],[]⟩) R ⟨h,g,d,t,os⟩:=by
 have hT5:(⟨h,g,d,t,os⟩:Shared).TypeIs (.builtin "object.__class__") "getset_descriptor" := F.typeOf_object_class
 have L:PySem.W.Looks (model prog w) h (isSubtype (.ref C) (.type (".".intercalate ("object.__class__".cutAt '.').dropLast))) true:=by
  rw[F.owner_object_class];exact PySem.W.looks_mroIn kin hm
 refine codeAny_call_builtin F.slot_gs_get.plain F.entry_gs_get (F.slot_gs_get.check _ _ _ _ _ _ _ _ hT5 (F.args_gs_get _ _ _) ?_)
 repeat (any_goals (first|assumption|(with_reducible refine wpAny_loadPart_at hx ?_;rw[hc])|with_reducible refine L.at ?_|wp_step))
 refine⟨Code.quiet_builtin _ (by decide +kernel),codeAny_builtin F.entry_object_class ?_⟩
 repeat (any_goals (first|assumption|(with_reducible refine wpAny_loadPart_at hx ?_;rw[hc])|wp_step))
theorem aQ2(kin:K.In h) (hx:h.get? a=some o) (hc:o.cls=.ref C) (hf:PySem.W.findIn K (.ref C) "__class__" = some (some (.builtin "object.__class__"))) (hm:PySem.W.mroIn K C (.type "object")=some true) (hq:Q (.done (.ret (.ref C))) ⟨h,g,d,t,os⟩) :
  wpAny (model prog w) A (Builtin.«object.__getattribute__» ⟨[.ref a,.str "__class__" tk],[]⟩) Q E ⟨h,g,d,t,os⟩:=by
 have hT5:(⟨h,g,d,t,os⟩:Shared).TypeIs (.builtin "object.__class__") "getset_descriptor" := F.typeOf_object_class
 have f5:=F.typeOf_object_class
 have f6:=F.slot_gs_get.lookup
 have f7:=F.slot_gs_set.lookup
 have L:=PySem.W.looks_findIn (M:=model prog w) kin hf
 repeat (any_goals (first|assumption|(with_reducible refine wpAny_loadPart_at hx ?_;rw[hc])|with_reducible refine L.at ?_|wp_step))
 refine bz6 kin hx hc hm ?_
 repeat (any_goals (first|assumption|wp_step))
theorem aQ3(kin:K.In h) (hx:h.get? a=some o) (hc:o.cls=.ref C) (hm:PySem.W.mroIn K C (.type "BaseException")=some true) (hq:Q () ⟨h,g,d,t,os⟩):wpAny M A (checkBuiltinCall "BaseException.__getattribute__" ⟨[.ref a,nameV],[]⟩) Q E ⟨h,g,d,t,os⟩:=by
 have hk:builtinKind "BaseException.__getattribute__" = some .slot:=by decide +kernel
 have hsplit:splitId "BaseException.__getattribute__" = some ("BaseException", "__getattribute__"):=by decide +kernel
 have ha:=F.args_bexc_ga (.ref a) nameV
 have L:=PySem.W.looks_mroIn (M:=M) kin hm
 simp only[checkBuiltinCall,hk,hsplit]
 refine wpAny_bind ?_
 unfold isInstance
 repeat (first|(with_reducible refine wpAny_loadPart_at hx ?_;rw[hc])|with_reducible refine L.at ?_|wp_step)
 exact hq
theorem bh2(kin:K.In h) (hx:h.get? a=some o) (hc:o.cls=.ref C) (hb:xcB K C=true) (hq:R (.ok (.ret (.ref C))) ⟨h,g,d,t,os⟩) :
  codeAny (model prog w) A (.call (.builtin "BaseException.__getattribute__") ⟨[.ref a,.str "__class__" tk],[]⟩) R ⟨h,g,d,t,os⟩:=by
 simp only[xcB,Bool.and_eq_true,beq_iff_eq]at hb
 exact codeAny_call_builtin F.attr_ValueError.ga.plain F.entry_bexc_ga (aQ3 kin hx hc hb.2 (aQ2 kin hx hc hb.1.1.1.1 hb.1.2 hq))
theorem bQ7{tk:Tok}{fill expr:Bool}{Q:Value->Shared->Prop}(kin:K.In h) (hx:h.get? a=some o) (hc:o.cls=.ref C) (hb:xcB K C=true) (hq:Q (.ref C) ⟨h,g,d,t,os⟩):wpAny (model prog w) A (getAttrBy (.ref a) (.str "__class__" tk) fill expr) Q E ⟨h,g,d,t,os⟩:=by
 have hb':=hb
 simp only[xcB,Bool.and_eq_true,beq_iff_eq]at hb'
 have L1:=PySem.W.looks_findIn (M:=model prog w) kin hb'.1.1.1.2
 have L2:=PySem.W.looks_findIn (M:=model prog w) kin hb'.1.1.2
 have f3:=F.attr_ValueError.ga.bind (.ref a)
 have z0:(expr&&onTheHeap (Value.builtin "BaseException.__getattribute__"))=false:=by cases expr<;>rfl
 have z2:(Value.builtin "BaseException.__getattribute__" == Value.builtin "object.__getattribute__")=false:=by decide +kernel
 have z1:(onTheHeap (Value.ref C)&&Value.builtin "BaseException.__getattribute__" == Value.builtin "object.__getattribute__")=false:=by rw[z2];rfl
 repeat (any_goals (first|assumption|(with_reducible refine wpAny_loadPart_at hx ?_;rw[hc])|with_reducible refine L1.at ?_|with_reducible refine L2.at ?_|wp_step))
 refine bh2 kin hx hc hb ?_
 repeat (any_goals (first|assumption|wp_step))
theorem bh3{Q:Option Value->Shared->Prop}(kin:K.In h) (hx:h.get? a=some o) (hc:o.cls=.ref C) (hb:xcB K C=true) (hq:Q (some (.ref C)) ⟨h,g,d,t+1,os⟩):wpAny (model prog w) A (getAttr? (.ref a) "__class__") Q E ⟨h,g,d,t,os⟩:=by
 unfold getAttr? getAttrBy?
 repeat (any_goals (first|assumption|with_reducible apply bQ7 kin hx hc hb|wp_step))
theorem aX8(hb:xcB K C=true) (hq:PySem.W.excIn K C bb nid=true):PySem.W.KitX K (.ref a) (.ref C) (fun h=>∃o,h.get? a=some o/\o.cls=.ref C) where
 ty:=fun _ _ _ ⟨o,h1,h2⟩=>h2 ▸ (PySem.W.Looks.ld h1).andThen .now
 it:=fun _ _ kin _=>by
  obtain⟨nm,qn,N,bs,bm,hd,sn,sub,ab,col,dd,k0,k1,k2,k3,k5,mN,g1,_⟩:=ab0 kin hq
  intro A' Q' E' s' k q
  unfold isType loadHead
  exact wpAny_bind (wpAny_loadPart (k _ _ g1) (wpAny_pure q))
 ne:=fun h tp dd its n sl kin htp=>by
  obtain⟨nm,qn,N,bs,bm,hd,sn,sub,ab,col,dd',k0,k1,k2,k3,k5,mN,g1,_⟩:=ab0 kin hq
  refine Bool.eq_false_iff.mpr fun q=>?_
  have e:C=tp:=Value.ref.inj (beq_iff_eq.mp q)
  subst e
  rw[g1]at htp
  have z:=congrArg Obj.data (Option.some.inj htp)
  cases z
 ca:=fun{_ _ _ _ _ s} kin ⟨o,h1,h2⟩ k=>by
  obtain⟨h,g,d,t,os⟩:=s
  exact bh3 kin h1 h2 hb k
end
section
variable {X:Cx}
noncomputable def aO4(i:Nat) (tb:Str->Option Bool):DE:=fun ρ=>match ρ[i]? with
 | some (some (.exc x))=>(tb x).map PyData.bool
 | _=>none
noncomputable def Z5(K:PySem.W.Frag) (cv:Value) (tb:Str->Option Bool):Prop:=∀x b,tb x=some b->∃C,clA K x=some C/\xcB K C=true/\PySem.W.excIn K C veB "ValueError.__new__" = true/\PySem.W.kitOne K (.ref C) cv=some b
theorem bf6(hv:D2 v cv) (hv':∀u,D2 v u->u=cv) (ok:Z5 X.K cv tb):G6 X (.builtin "isinstance") (fun xs H Q=>∃x y b H0 Hf,xs=[y,v]/\B5 Hf H/\SB X.K H0 H Hf (.exc x) y/\tb x=some b/\Q (.bl b) H):=by
 intro pins s σ H xs us Q I r h
 obtain⟨x,y,b,H0,Hf,rfl,sm,⟨a,o,C,rfl,e1,e2,e3⟩,hb,q⟩:=h
 obtain⟨u,c,rfl,rx,rc⟩:=aA2 r
 cases rx
 obtain rfl:=hv' c rc
 obtain⟨C',f1,f2,f3,f4⟩:=ok x b hb
 rw[e2]at f1;cases f1
 obtain⟨z,_⟩:=(show E6 X.prog X.w H s.heap a (.frz o (.own a)) from I.hok a _ (sm _ _ e1))
 exact PySem.W.kia_one (aX8 f2 f3) I.kIn ⟨o,z,e3⟩ f4 (fun z=>nomatch z) fun tk=>⟨.bl b,H,I.tok tk,rfl,q⟩
end
end G
namespace G
open PySem PySem.Spec PyProof.Rows L2
section
variable {X:Cx}
theorem bn2{y:Str}{D:Addr}{pos:Pos}(hg:Gl X y) (hm:X.mg y=some (.ref D)) (hd:(y==("__debug__" : Str))=false):PE X (.Name y pos) (tC (.ref D)):=fun pins s σ H Q I h=>N4 I hg hm ⟨.ref D,H,I,rfl,h⟩ hd
theorem ba6(hg:Gl X "isinstance") (hm:X.mg "isinstance" = none) (hN:X.N[i]? = some n) (hv:Vis X.env.scope n) (hd:(n==("__debug__" : Str))=false) (hcd:(n==("__classdict__" : Str))=false)
  (hc:PE X (.Name y p2) (tC v)) (r1:D2 v cv) (r2:∀u,D2 v u->u=cv) (ok:Z5 X.K cv tb)
  (he:starEach [.Name n p1,.Name y p2] X.env=(false,eval (.Name n p1) X.env)::starEach [.Name y p2] X.env:=by rfl) (he2:starEach [.Name y p2] X.env=[(false,eval (.Name y p2) X.env)]:=by rfl) (hpl:(backTo pos (starEach [.Name y p2] X.env)).any (·.1)=false:=by rfl) :
  JE X (.Call (.Name "isinstance" p) [.Name n p1,.Name y p2] [] pos) (aO4 i tb):=fun ρ d q=>by
 unfold aO4 at q
 split at q
 case h_2=>cases q
 rename_i x e
 obtain⟨b,hb,rfl⟩:=Option.map_eq_some_iff.mp q
 refine A9 (F4 (bf6 r1 r2 ok) hg hm bg4 (C0 (J4 hN hv hd hcd) (C0 hc E3 he2) he) (he:=he) (hpl:=hpl)) fun σ H Q ⟨H0,Hf,s,sl,k⟩=>?_
 obtain⟨v0,h1,sb⟩:=sl.is i _ e
 exact⟨v0,h1,x,v0,b,H0,Hf,rfl,s,sb,hb,k _ H Hf (Grow.refl s) rfl⟩
noncomputable def dRp(f:DE):DE:=fun ρ=>(f ρ).bind fun d=>match d with
 | .str x=>if x.length<=1000/\x.cps.all (· < 1114112)=true then some (.str (reprText x)) else none
 | _=>none
theorem bX6(h:JE X e f):JE X (.FormattedValue e 114 none pos) (dRp f):=fun ρ d q=>by
 obtain⟨y,h1,h2⟩:=xbm q
 cases y with
 | str x =>
  dsimp only at h2
  split at h2
  case isFalse=>cases h2
  rename_i c
  cases h2
  have ln:(reprText x).length<=sizeLine:=by
   refine Nat.le_trans (PySem.StrLaws.reprText_len x fun z hz=>?_) ?_
   ·have:=c.2
    rw[← Array.all_toList,List.all_eq_true]at this
    have:=of_decide_eq_true (this z hz)
    omega
   ·have:=c.1
    exact Nat.le_trans (show 10*x.length+2<=10002 by omega) (by decide)
  intro pins s σ H Q I hw
  obtain⟨H0,Hf,sm,sl,k⟩:=hw
  refine wpAny_FormattedValue_repr (thn (h ρ _ h1 pins s σ H (fun v H'=>v=.str x/\∃Hf',Grow H Hf H' Hf') I ⟨H0,Hf,sm,sl,fun v H' Hf' g r=>⟨r,Hf',g⟩⟩) fun v s1 ⟨v',H1,I1,r1,e1,Hf1,g1⟩=>?_)
  subst e1
  obtain⟨t,rfl⟩:=(show ∃t,v=Value.str x t from r1)
  refine wpAny_pyReprObj_str ?_ ln
  exact wpAny_formatField_str ⟨.str (reprText x),H1,I1.tok _,⟨_,rfl⟩,k _ H1 Hf1 g1 rfl⟩ ⟨.str (reprText x),H1,(I1.tok _).tok _,⟨_,rfl⟩,k _ H1 Hf1 g1 rfl⟩ ln
 | none=>cases h2
 | bool b=>cases h2
 | int i=>cases h2
 | tuple xs=>cases h2
 | list xs=>cases h2
 | dict xs=>cases h2
noncomputable def be8:Str->List DE->DE
 | acc,[]=>fun _=>some (.str acc)
 | acc,f::fs=>fun ρ=>(f ρ).bind fun d=>match d with
  | .str y=>if(acc++y).length<=16777216 then be8 (acc++y) fs ρ else none
  | _=>none
inductive JEs (X:Cx):List Expr->List DE->Prop
 | nil:JEs X [] []
 | cons {e:Expr}{es:List Expr}{f:DE}{fs:List DE}:JE X e f->JEs X es fs->JEs X (e::es) (f::fs)
theorem V7:∀(ps:List (Sem Value)) (a:Str) (Q Q':Str->Shared->Prop) (s:Shared),(∀o s,Q o s->Q' o s)->Joins (model X.prog X.w) X.A X.xe ps a Q s->Joins (model X.prog X.w) X.A X.xe ps a Q' s
 | [],_,_,_,_,hq,z=>hq _ _ z
 | _::ps,_,Q,Q',_,hq,z=>thn z fun _ s1 ⟨y,t,e,c,z⟩=>⟨y,t,e,c,V7 ps _ Q Q' s1 hq z⟩
theorem aG1:∀(fs:List DE) (acc:Str) (ρ:Rho) (d:D),be8 acc fs ρ=some d->acc.length<=16777216->∃x:Str,d=.str x/\x.length<=16777216
 | [],acc,ρ,d,q,l=>by cases q;exact⟨acc,rfl,l⟩
 | f::fs,acc,ρ,d,q,l=>by
  obtain⟨y,h1,h2⟩:=xbm q
  cases y<;>dsimp only at h2
  case str x =>
   split at h2
   ·rename_i c;exact aG1 fs (acc++x) ρ d h2 c
   ·cases h2
  all_goals cases h2
theorem bX3(h:JEs X es fs):∀(acc:Str) (ρ:Rho) (d:D),be8 acc fs ρ=some d->∀(pins:List (Addr×Obj)) (s:Shared) (σ:L2.St) (H0 H Hf:Hp),Inv X pins σ H s->B5 Hf H->Slots X.K H0 ρ σ H Hf ->
  Joins (model X.prog X.w) X.A X.xe (evalEach es X.env) acc (fun out s1=>d=.str out/\∃H1 Hf1,Inv X pins σ H1 s1/\Grow H Hf H1 Hf1) s:=by
 induction h with
 | nil =>
  intro acc ρ d q pins s σ H0 H Hf I sm sl
  cases q
  exact⟨rfl,H,Hf,I,Grow.refl sm⟩
 | @cons e es f fs he hs ih =>
  intro acc ρ d q pins s σ H0 H Hf I sm sl
  obtain⟨y,h1,h2⟩:=xbm q
  cases y with
  | str x =>
   dsimp only at h2
   split at h2
   case isFalse=>cases h2
   rename_i c
   refine thn (he ρ _ h1 pins s σ H (fun v H'=>v=.str x/\∃Hf',Grow H Hf H' Hf') I ⟨H0,Hf,sm,sl,fun v H' Hf' g r=>⟨r,Hf',g⟩⟩) fun v s1 ⟨v',H1,I1,r1,e1,Hf1,g1⟩=>?_
   subst e1
   obtain⟨t,rfl⟩:=(show ∃t,v=Value.str x t from r1)
   refine⟨x,t,rfl,c,?_⟩
   have z:=ih (acc++x) ρ d h2 pins s1 σ H0 H1 Hf1 I1 g1.sub (sl.grow g1)
   exact V7 _ _ _ _ _ (fun o s ⟨z1,H2,Hf2,I2,g2⟩=>⟨z1,H2,Hf2,I2,g1.trans g2⟩) z
  | none=>cases h2
  | bool b=>cases h2
  | int i=>cases h2
  | tuple xs=>cases h2
  | list xs=>cases h2
  | dict xs=>cases h2
theorem bX8(h:JEs X (ea::eb::es) fs):JE X (.JoinedStr (ea::eb::es) pos) (be8 Str.empty fs):=fun ρ d q=>by
 intro pins s σ H Q I hw
 obtain⟨H0,Hf,sm,sl,k⟩:=hw
 obtain⟨x,rfl,lx⟩:=aG1 fs _ ρ d q (by decide)
 refine wpAny_JoinedStr (V7 _ _ _ _ _ (fun o s1 z=>?_) (bX3 h Str.empty ρ _ q pins s σ H0 H Hf I sm sl))
 obtain⟨e,H1,Hf1,I1,g1⟩:=z
 cases e
 exact⟨lx,.str x,H1,I1.tok _,⟨_,rfl⟩,k _ H1 Hf1 g1 rfl⟩
end
end G
namespace G
open PySem PySem.Spec PyProof.Rows L2
noncomputable def bQ2(X:Cx):Prop:=∀pins ρ1 C H0 Hf0 e s',Ou X true pins ρ1 C H0 Hf0 e s'->Lo X C H0 e s'
section
variable {X:Cx}
theorem bI0{P:Program}{w:World}{K:PySem.W.Frag}{mg:Str->Option Value}{base:Heap}{N:List Str}{qual:Str}{scope:Scope}{f:Addr}{cd:Value}{A:Around}{outer:List Env}{s:Shared}{H:Hp}{E:XK}:bQ2 (cx1 P w K mg base N qual scope f cd A outer s H E).nox:=by
 intro pins ρ1 C H0 Hf0 e s' h
 obtain⟨σ1,H2,Hf2,s2,I2,a2,o⟩:=h
 have I3:Inv (cx1 P w K mg base N qual scope f cd A outer s H (EC C H0)) pins σ1 H2 s2:=(I2.unwish).wish (cx1 P w K mg base N qual scope f cd A outer s H (EC C H0)).xe
 rcases o with⟨_,h',a,vs',rfl,rfl,hm⟩|hc
 ·exact ap0 I3 hm ⟨rfl,a2.gr.big⟩
 ·exact aD1 I3 (CX1.mono hc fun cls H' q=>⟨q.1,a2.gr.big.trans q.2⟩)
end
end G
namespace G
open PySem PySem.Spec PyProof.Rows L2
noncomputable def bC0(K:PySem.W.Frag) (x c:Str):Bool:=match clA K x,clA K c with
 | some C,some D=>(match K.lookup C with
  | some ⟨_,_,.cls cd,_⟩=>!cd.mro.contains (.ref D)
  | _=>false)
 | _,_=>false
section
variable {X:Cx}
end
section
variable {X:Cx}
end
end G
namespace G
open PySem PySem.Spec PyProof.Rows L2
structure RoomQ (k:Nat) (A:Around):Prop where
 dp:A.depth+3*k+5 < recursionLimit
 un:A.units+16*k+200 < cLine
noncomputable abbrev cxQ(P:Program) (w:World) (K:PySem.W.Frag) (mg:Str->Option Value) (base:Heap) (N:List Str) (qual:Str) (scope:Scope) (f:Addr) (cd:Value) (A:Around) (outer:List Env) (s:Shared) (H:Hp):Cx:={ (ak9 CX0 P w K mg base N qual scope f cd A outer s H E0).nox with calm:=false }
structure FnQ (P:Program) (w:World) (K:PySem.W.Frag) (mg:Str->Option Value) (base:Heap) (k:Nat) (f:Addr) (fd:FuncData) (ps:List Str) (sp:Sp):Prop where
 len:∀vs H Q E,sp vs H Q E->vs.length=ps.length
 run:∀(A:Around) (outer:List Env) (s:Shared) (H:Hp) (args:Args) (us:List Value) (vs:List V) (Q:VK),RoomQ k A->Env0 P w K mg base A outer s H->BindsTo s fd args (ps.zip us)->B3 vs us->sp vs H Q E0->codeAny (model P w) A (.call (.ref f) args) (CR CX0 outer P w H s Q E0) s
theorem FnQ.mono{P:Program}{w:World}{K:PySem.W.Frag}{mg:Str->Option Value}{base:Heap}{j k:Nat}{f:Addr}{fd:FuncData}{ps:List Str}{sp:Sp}(F:FnQ P w K mg base j f fd ps sp) (h:j<=k):FnQ P w K mg base k f fd ps sp :=
 ⟨F.len,fun A outer s H args us vs Q hr=>F.run A outer s H args us vs Q ⟨by have:=hr.dp;omega,by have:=hr.un;omega⟩⟩
theorem aw9{P:Program}{w:World}{K:PySem.W.Frag}{mg:Str->Option Value}{base:Heap}{N ps:List Str}{qual:Str}{scope:Scope}{f:Addr}{cd:Value}{A:Around}{outer:List Env}{s s1:Shared}{H:Hp}{us:List Value}{vs:List V}
  (S:FnScope N ps scope) (e0:Env0 P w K mg base A outer s H) (hl:vs.length=ps.length) (r:B3 vs us)
  (x:InCallC s s.heap.objs.size (bindL (envOfC qual scope s.heap.objs.size f cd).kindOf (ps.zip us) fun _=>none) (cellsFrom (s.heap.objs.size+1) scope.names []) (bindC (envOfC qual scope s.heap.objs.size f cd).kindOf (ps.zip us) fun _=>none) s1) :
  Inv (cxQ P w K mg base N qual scope f cd A outer s H) [] (G3 N vs) H s1:=by
 have hpl:ps.length<=N.length:=by have:=congrArg List.length S.pre;rw[List.length_take]at this;omega
 obtain⟨h1,tk,rfl,hk⟩:=x.done
 have noA:∀b:Addr,b∉(cxQ P w K mg base N qual scope f cd A outer s H).ex:=fun b z=>absurd (show b∈([]:List Addr) from z) (by simp)
 refine⟨⟨e0.mod,S.kind,rfl,rfl,Nat.le_refl _,fun y z c h1 h2=>?_,fun y hy=>?_,fun y c _ h=>?_,(fun z=>nomatch z),Around.frames_deeper e0.frames,.inr ⟨rfl,rfl⟩,fun b z=>absurd z (noA b),e0.bs,e0.bsz,fun b _ _=>noA b,fun b z=>absurd z (noA b),e0.funs,e0.frf⟩,
  rfl,e0.bare,Un.kept hk,⟨_,x.toInCall.ns,fun i y v h1 h2 h3=>?_⟩,fun y c h=>⟨_,x.cell y c h⟩,e0.hok.fresh (Nat.le_refl _),fun y c h=>?_,fun p hp=>absurd (show p∈([]:List (Addr×Obj)) from hp) (by simp),e0.hok.kept hk,?_⟩
 ·exact name_of_addr x.apart (PySem.mem_of_lookup h1) (PySem.mem_of_lookup h2)
 ·have hy:scope.names.lookup y=some .cell\/scope.names.lookup y=some .free:=hy
  rcases hy with hy|hy
  ·exact Z0 hy
  ·exact absurd rfl (S.nofree _ (PySem.mem_of_lookup hy))
 ·exact Nat.le_of_lt (x.above y c (PySem.mem_of_lookup h))
 ·have hi:i < vs.length:=by
   unfold L2.G3 at h2
   by_cases hi:i < vs.length
   ·exact hi
   ·rw[List.getElem?_append_right (by simpa using hi)]at h2
    rw[List.getElem?_replicate]at h2
    split at h2<;>cases h2
  have ha:vs[i]? = some v:=by
   unfold L2.G3 at h2
   rw[List.getElem?_append_left (by simpa using hi),List.getElem?_map]at h2
   cases e:vs[i]? with
   | none=>rw[e]at h2;cases h2
   | some a=>rw[e]at h2;cases h2;rfl
  obtain⟨u,hu,rv⟩:=r.get ha
  have hp:ps[i]? = some y:=by
   rw[← S.pre,List.getElem?_take_of_lt (by omega)];exact h1
  have ndP:ps.Nodup:=by rw[← S.pre];exact S.nd.sublist (List.take_sublist _ _)
  refine⟨u,rv,?_⟩
  rcases S.par y (List.mem_of_getElem? hp) with k|k
  ·exact .inl ⟨k,d9 ndP hp hu k⟩
  ·obtain⟨c,e⟩:=Z0 (n:=s.heap.objs.size+1) k
   refine .inr ⟨.inl k,c,e,?_⟩
   have q:=x.cell y c e
   rw[e7 ndP hp hu (by show scope.names.lookup y≠_;rw[k];decide)]at q
   exact q
 ·exact e0.hok.fresh (Nat.le_of_lt (x.above y c (PySem.mem_of_lookup h)))
 ·unfold L2.G3
  show _=N.length
  rw[List.length_append,List.length_map,List.length_replicate]
  omega
theorem bN8{P:Program}{w:World}{K:PySem.W.Frag}{mg:Str->Option Value}{base:Heap}{k:Nat}{x qual:Str}{st:Stmt}{f:Addr}{fd:FuncData}{N ps:List Str}{sp:Sp}(F:Fun K x qual st f fd) (S:FnScope N ps (B2 st)) (len:∀vs H Q E,sp vs H Q E->vs.length=ps.length)
  (hbody:∀(cdv:Value) (A:Around) (outer:List Env) (s:Shared) (H:Hp) (vs:List V) (Q:VK),RoomQ k (A.deeper (envOfC qual (B2 st) s.heap.objs.size f cdv))->sp vs H Q E0->∃t,PSs (cxQ P w K mg base N qual (B2 st) f cdv A outer s H) (E2 st) t/\t { nx:=fun _ H'=>Q .non H',rt:=Q } (G3 N vs) H):FnQ P w K mg base (k+1) f fd ps sp:=by
 obtain⟨oc,od,kV,doc,pm,an,cdv,ct,osl,rfl,lk,hcd⟩:=F.ex
 refine⟨len,fun A outer s H args us vs Q hr e0 hb r hsp=>?_⟩
 have hl:=len _ _ _ _ hsp
 have KX:K.In s.heap:=e0.mod.kin.keeps fun b o e=>(e0.bs b o e).1
 have lim:s.heap.NoLimit:=e0.mod.nolimit.keeps fun b o e=>(e0.bs b o e).1
 have hkind:∀y∈ps.zip us,(B2 st).names.lookup y.1=some .local\/((B2 st).names.lookup y.1=some .cell/\((cellsFrom (s.heap.objs.size+1) (B2 st).names []).lookup y.1).isSome=true):=fun⟨n,v⟩ hy=>by
  rcases S.par n (List.of_mem_zip hy).1 with q|q
  ·exact .inl q
  ·exact .inr ⟨q,PySem.W.cellsFrom_some _ _ _ (.inl q)⟩
 have dpt:A.depth < recursionLimit:=by have:=hr.dp;omega
 refine codeAny_call_function (by first|exact dpt|(have:=hr.dp;omega)) (KX _ _ lk) rfl S.co S.gen rfl (PySem.W.codeRec_of KX hcd) (hb _ _ _ _ ?_)
 refine wpAny_newFunctionEnv_cells S.kind hkind fun env he s1 x=>?_
 subst he
 refine⟨lim.keeps x.toInCall.keep,codeAny_func ?_⟩
 obtain⟨t,ht,hq⟩:=hbody cdv A outer s H vs Q ⟨by have:=hr.dp;show A.depth+1+3*k+5 < _;omega,by have:=hr.un;show A.units+3+16*k+200 < _;omega⟩ hsp
 have I:L2.Inv (cxQ P w K mg base N qual (B2 st) f cdv A outer s H) [] (G3 N vs) H s1:=aw9 S e0 hl r x
 refine wpAny_mono (ht [] s1 (G3 N vs) H _ I hq) (fun fl s' hs=>?_) fun e s' hs=>False.elim hs
 have fin:∀{σ':L2.St}{H':Hp}{v:V}{u:Value},L2.Inv (cxQ P w K mg base N qual (B2 st) f cdv A outer s H) [] σ' H' s'->D2 v u->Q v H'->CE outer P w H s Q u s' :=
  fun{σ' H' v u} J rv q=>⟨v,H',J.os,J.bare,J.base,J.hok,rv,q⟩
 cases fl with
 | ret u =>
  obtain⟨v,σ',H',J,rv,q⟩:=hs
  exact fin J rv q
 | next =>
  obtain⟨σ',H',J,q⟩:=hs
  exact fin (v:=V.non) (u:=Value.none) J rfl q
 | brk =>
  obtain⟨_,_,_,q⟩:=hs
  exact False.elim q
 | cont =>
  obtain⟨_,_,_,q⟩:=hs
  exact False.elim q
noncomputable def v5(n:Nat) (x:Str):Rho:=some (.exc x)::List.replicate (n - 1) none
noncomputable def bD8(g:DS) (n:Nat):Str->Option D:=fun x=>(g (v5 n x)).bind fun fl=>match fl with
 | .rt d=>some d
 | _=>none
noncomputable def spX(K:PySem.W.Frag) (F:Str->Option D):Sp:=fun vs H Q _=>∃Hf x v d,vs=[v]/\B5 Hf H/\SB K H H Hf (.exc x) v/\F x=some d/\∀u H' Hf',Grow H Hf H' Hf'->Rep K Hf' d u->Q u H'
theorem ag9{K:PySem.W.Frag}{H0 H Hf:Hp}{N:List Str}{x:Str}{v:V}(hN:1<=N.length) (r:SB K H0 H Hf (.exc x) v):Slots K H0 (v5 N.length x) (L2.G3 N [v]) H Hf:=by
 have only:∀(i:Nat) (b:B),(v5 N.length x)[i]? = some (some b)->i=0/\b=.exc x:=fun i b h=>by
  unfold v5 at h
  cases i with
  | zero=>rw[List.getElem?_cons_zero]at h;cases h;exact⟨rfl,rfl⟩
  | succ i =>
   rw[List.getElem?_cons_succ,List.getElem?_replicate]at h
   split at h<;>cases h
 refine⟨by simp[v5,L2.G3],fun i b e=>?_,fun i j d1 d2 a e1 _ _ _=>?_⟩
 ·obtain⟨rfl,rfl⟩:=only i b e
  exact⟨v,rfl,r⟩
 ·obtain⟨_,z⟩:=only i _ e1
  cases z
theorem bd2{P:Program}{w:World}{K:PySem.W.Frag}{mg:Str->Option Value}{base:Heap}{x qual:Str}{st:Stmt}{f:Addr}{fd:FuncData}{N ps:List Str}{k:Nat}{g:DS}(F:Fun K x qual st f fd) (S:FnScope N ps (B2 st)) (hp:ps.length=1)
  (hb:∀(cdv:Value) (A:Around) (outer:List Env) (s:Shared) (H:Hp),RoomQ k (A.deeper (envOfC qual (B2 st) s.heap.objs.size f cdv))->JSs (cxQ P w K mg base N qual (B2 st) f cdv A outer s H) (E2 st) g) :
  FnQ P w K mg base (k+1) f fd ps (spX K (bD8 g N.length)):=by
 have hN:1<=N.length:=by have:=congrArg List.length S.pre;rw[List.length_take,hp]at this;omega
 refine bN8 F S (fun vs H Q E h=>by obtain⟨_,_,_,_,rfl,_⟩:=h;rw[hp];rfl) fun cdv A outer s H vs Q hr hsp=>?_
 obtain⟨Hf,y,v,d,rfl,ss,sb,e,kk⟩:=hsp
 obtain⟨fl,e1,e2⟩:=xbm e
 refine⟨_,hb cdv A outer s H hr _ fl e1 H Hf,Hf,⟨Grow.refl ss,ag9 hN sb⟩,?_⟩
 cases fl with
 | rt d'=>cases e2;exact fun v H' Hf' g r=>kk v H' Hf' g r
 | nx ρ=>cases e2
 | bk ρ=>cases e2
 | ct ρ=>cases e2
section
variable {X:Cx}
noncomputable def d7(i:Nat) (F:Str->Option D):DE:=fun ρ=>match ρ[i]? with
 | some (some (.exc x))=>F x
 | _=>none
theorem bb1(Fk:FnQ X.prog X.w X.K X.mg X.base k f fd ps (spX X.K F)) (hr:RoomQ k X.A) (hg:Gl X x) (hm:X.mg x=some (.ref f)) (hk:PySem.W.keepIn X.K (.ref f)=true) (hb:K1 X.K fd ps [])
  (hN:X.N[i]? = some n) (hv:Vis X.env.scope n) (hd:(n==("__debug__" : Str))=false) (hcd:(n==("__classdict__" : Str))=false) (hdb:(x==("__debug__" : Str))=false) :
  JE X (.Call (.Name x p) [.Name n p1] [] pos) (d7 i F):=fun ρ d q=>by
 unfold d7 at q
 split at q
 case h_2=>cases q
 rename_i y e
 intro pins s σ H Q I ⟨H0,Hf,ss,sl,kk⟩
 obtain⟨v0,h1,sb⟩:=sl.is i _ e
 refine wpAny_Call_Name_kw (N4 I hg hm ?_ hdb)
 refine PySem.W.callWith_K (h₀:=X.base) I.ok.mod.kin hk (thn (C0 (J4 hN hv hd hcd) E3 rfl pos pins s σ H (fun vs H'=>vs=[v0]/\H'=H) I ⟨v0,h1,rfl,rfl⟩) fun us s1 ⟨vs,H1,I1,r,e1,e2⟩=>⟨I1.kIn,?_⟩) rfl rfl
 subst e1 e2
 have sp:spX X.K F [v0] H1 Q E0:=⟨Hf,y,v0,d,rfl,ss,sb,q,fun u H' Hf' g r=>kk u H' Hf' g r⟩
 have hl2:us.length=ps.length:=by rw[← r.length];exact Fk.len _ _ _ _ sp
 have bd:BindsTo s1 fd ⟨us,[]⟩ (ps.zip us):=by
  have:=hb s1 us I1.kIn (by rw[List.append_nil];exact hl2)
  rwa [List.append_nil]at this
 refine wpAny_call (codeAny_mono (Fk.run X.A X.stack s1 H1 ⟨us,[]⟩ us [v0] Q hr I1.env0 bd r sp) fun rs s' hq=>?_)
 cases rs with
 | error e=>exact False.elim hq
 | ok fl =>
  cases fl with
  | ret u=>exact I1.after hq
  | next=>exact False.elim hq
  | brk=>exact False.elim hq
  | cont=>exact False.elim hq
end
end G
namespace G
theorem xg0{α:Type}{a:α}{l:List α}:(a::l)[0]? = some a:=rfl
theorem xg1{α:Type}{a:α}{i:Nat}{l:List α}:(a::l)[i+1]? = l[i]?:=rfl
theorem xw0{α:Type}{a b:α}{l:List α}:(a::l).set 0 b=b::l:=rfl
theorem xw1{α:Type}{a b:α}{i:Nat}{l:List α}:(a::l).set (i+1) b=a::l.set i b:=rfl
theorem xbs{α β:Type}{a:α}{f:α->Option β}:(some a).bind f=f a:=rfl
theorem xms{α β:Type}{a:α}{f:α->β}:(some a).map f=some (f a):=rfl
theorem xca{α:Type}{a:α}{l m:List α}:(a::l)++m=a::(l++m):=rfl
theorem xna{α:Type}{l:List α}:[]++l=l:=rfl
theorem xmc{α β:Type}{f:α->β}{a:α}{l:List α}:(a::l).map f=f a::l.map f:=rfl
theorem xmn{α β:Type}{f:α->β}:[].map f=[]:=rfl
theorem xnf:(!false)=true:=rfl
theorem xnt:(!true)=false:=rfl
theorem xft:(false=true)=False:=by simp
end G
local macro_rules
  | `(‹$x›) => `(some (G.B.val $x))
local macro_rules
  | `(⇑$x) => `(G.dC (PySem.PyData.int $x))
noncomputable section
namespace Sh
open PySem PySem.Spec PyProof.Rows L2 G
def g8:DS:=(C3 (P8 (tB2 neD (A1 1) ⇑0) (C3 (D0 2 (A4 N1 (A1 0) (A1 1))) (C3 (D0 0 (A1 1)) (D0 1 (A1 2))))) (C4 (A1 0)))
def K6:List D->Option D:=F6 g8 3
def M3:DS:=(C3 (D0 2 (A3 K6 (A0 (A1 0) (A0 (A1 1) A2)))) (C4 (D8 (A0 (A4 W0 (A1 0) (A1 2)) (A0 (A4 W0 (A1 1) (A1 2)) A2)))))
def J7:List D->Option D:=F6 M3 3
def u5:DS:=(C4 (A3 J7 (A0 (A4 P3 (A4 L6 (dIx (B1 0) ⇑0) (dIx (B1 1) ⇑1)) (A4 L6 (dIx (B1 1) ⇑0) (dIx (B1 0) ⇑1))) (A0 (A4 L6 (dIx (B1 0) ⇑1) (dIx (B1 1) ⇑1)) A2))))
def T9:List D->Option D:=F6 u5 2
def u4:DS:=(C4 (A3 J7 (A0 (A4 L6 (dIx (B1 0) ⇑0) (dIx (B1 1) ⇑0)) (A0 (A4 L6 (dIx (B1 0) ⇑1) (dIx (B1 1) ⇑1)) A2))))
def bv7:List D->Option D:=F6 u4 2
def ac5:DS:=(C3 (sIf (tB2 eqD (A1 0) (G5 A2)) (C4 (A4 L6 ⇑7 (A1 1))) L9) (C4 (A4 P3 (dIx (B1 0) (A4 N1 (A1 1) (Y9 (B1 0)))) (A4 L6 ⇑6553 (A4 W0 (A1 1) (Y9 (B1 0)))))))
def ac7:List D->Option D:=F6 ac5 2
def ag2:DS:=(C3 (D0 3 (A4 N1 (A4 P3 (A4 L6 (A4 N1 (A3 ac7 (A0 (A1 0) (A0 (A1 1) A2))) ⇑2147483563) ⇑69069) (A4 L6 ⇑104723 (A4 P3 (A1 1) ⇑1))) ⇑2147483563)) (C3 (D0 3 (A4 N1 (A4 P3 (A4 L6 (A1 3) (A1 3)) (A4 W0 (A1 3) ⇑3)) ⇑2147483399)) (C4 (A4 N1 (A4 W0 (A4 N1 (A4 P3 (A4 L6 (A1 3) (A1 3)) (A4 W0 (A1 3) ⇑7)) ⇑2147483647) ⇑11) (A1 2)))))
def D5:List D->Option D:=F6 ag2 4
def Z6:DS:=(C3 (D0 2 (A1 0)) (C3 (D0 3 (A1 1)) (C3 (P8 (tB2 gtI (A1 2) ⇑0) (ah5 2 3 (A0 (A4 N1 (A1 3) (A1 2)) (A0 (A1 2) A2)))) (C4 (D8 (A0 (A4 W0 (A1 0) (A1 3)) (A0 (A4 W0 (A1 1) (A1 3)) A2)))))))
def S8:List D->Option D:=F6 Z6 4
def as9:DS:=(C4 (A3 S8 (A0 (A4 P3 (A4 L6 (dIx (B1 0) ⇑0) (dIx (B1 1) ⇑1)) (A4 L6 (dIx (B1 1) ⇑0) (dIx (B1 0) ⇑1))) (A0 (A4 L6 (dIx (B1 0) ⇑1) (dIx (B1 1) ⇑1)) A2))))
def Z7:List D->Option D:=F6 as9 2
def ag0:DS:=(C4 (A3 S8 (A0 (A4 L6 (dIx (B1 0) ⇑0) (dIx (B1 1) ⇑0)) (A0 (A4 L6 (dIx (B1 0) ⇑1) (dIx (B1 1) ⇑1)) A2))))
def P4:List D->Option D:=F6 ag0 2
def ag1:DS:=(C3 (D0 2 (A4 P3 ⇑1 (A3 D5 (A0 (A1 0) (A0 (A1 1) (A0 ⇑12 A2)))))) (C3 (D0 3 (A3 S8 (A0 (A3 D5 (A0 (A1 0) (A0 (A4 P3 (A1 1) ⇑1) (A0 (A4 P3 (A1 2) ⇑1) A2)))) (A0 (A1 2) A2)))) (C4 (dIx (qN (A0 (A1 3) (A0 (A1 3) (A0 (A1 3) (A0 (D8 (A0 ⇑0 (A0 ⇑1 A2))) (A0 (D8 (A0 ⇑1 (A0 ⇑1 A2))) A2)))))) (A3 D5 (A0 (A1 0) (A0 (A4 P3 (A1 1) ⇑2) (A0 ⇑5 A2))))))))
def T6:List D->Option D:=F6 ag1 4
def as8:DS:=(C3 (D0 2 (A3 T6 (A0 (A1 0) (A0 (A1 1) A2)))) (C4 (A4 P3 (D8 (A0 (A1 2) A2)) (P2 (qN (C2 1 [2,0,1] (F9 ⇑3) (B8 0) F5 (A3 P4 (A0 (A1 1) (A0 (A3 T6 (A0 (A1 2) (A0 (A4 P3 (A4 P3 (A1 3) ⇑3) (A4 L6 ⇑3 (A1 0))) A2))) A2)))))))))
def P5:List D->Option D:=F6 as8 3
def ag3:DS:=(C4 (A3 J7 (A0 (A4 L6 (dIx (B1 0) ⇑0) (dIx (B1 1) ⇑1)) (A0 (A4 L6 (dIx (B1 0) ⇑1) (dIx (B1 1) ⇑0)) A2))))
def T8:List D->Option D:=F6 ag3 2
end Sh
namespace Sh
open PySem G
theorem bH0(i j:Int):neD (.int i) (.int j)=some (.bool (!(i==j))):=rfl
theorem bu1(i j:Int):eqD (.int i) (.int j)=some (.bool (i==j)):=rfl
theorem aF7{t:Rho->Option Bool}{f:DS}{n:Nat}{ρ ρ':Rho}(h1:t ρ=some true) (h2:f ρ=some (.nx ρ')):L3 t f (n+1) ρ=L3 t f n ρ':=by
 simp only[L3,h1,h2,xbs,if_true]
theorem bc6:∀(b a:Nat) (x:Option B),∃n x',L3 (tB2 neD (A1 1) ⇑0) (C3 (D0 2 (A4 N1 (A1 0) (A1 1))) (C3 (D0 0 (A1 1)) (D0 1 (A1 2)))) n [‹.int a›,‹.int b›,x]
  = some (.nx [‹.int (Nat.gcd a b)›,‹.int 0›,x']):=by
 intro b
 induction b using Nat.strongRecOn with
 | _ b ih =>
  intro a x
  by_cases hb:b=0
  ·subst hb
   refine⟨1,x,?_⟩
   rw[Nat.gcd_zero_right]
   rfl
  ·obtain⟨n,x',h⟩:=ih (a % b) (Nat.mod_lt _ (Nat.pos_of_ne_zero hb)) b (‹.int ((a % b:Nat):Int)›)
   refine⟨n+1,x',?_⟩
   have e1:tB2 neD (A1 1) ⇑0 [‹.int a›,‹.int b›,x]=some true:=by
    show(neD (.int b) (.int 0)).bind O0=some true
    rw[bH0]
    have:((b:Int)==0)=false:=by simp;omega
    rw[this];rfl
   have e2:N1 (.int a) (.int b)=some (.int ((a % b:Nat):Int)):=by
    show(if(0:Int) < (b:Int) then some (PyData.int ((a:Int) % (b:Int))) else none)=_
    rw[if_pos (by omega)]
    simp
   have e3:C3 (D0 2 (A4 N1 (A1 0) (A1 1))) (C3 (D0 0 (A1 1)) (D0 1 (A1 2))) [‹.int a›,‹.int b›,x]=some (.nx [‹.int b›,‹.int ((a % b:Nat):Int)›,‹.int ((a % b:Nat):Int)›]):=by
    show((((N1 (.int a) (.int b))).map fun d=>Fl.nx [‹.int a›,‹.int b›,‹d›]).bind _)=_
    rw[e2]
    rfl
   rw[aF7 e1 e3,h,Nat.gcd_comm b,Nat.gcd_comm a b,← Nat.gcd_rec]
theorem ca6(a b:Nat):K6 [.int a,.int b]=some (.int (Nat.gcd a b)):=by
 obtain⟨n,x',h⟩:=bc6 b a none
 show((P8 _ _ [‹.int a›,‹.int b›,none]).bind _).bind _=_
 rw[ad8 h]
 rfl
theorem aM3:∀(a b:Nat) (t u:D),∃n,L3 (tB2 gtI (A1 2) ⇑0) (ah5 2 3 (A0 (A4 N1 (A1 3) (A1 2)) (A0 (A1 2) A2))) n [‹t›,‹u›,‹.int a›,‹.int b›]
  = some (.nx [‹t›,‹u›,‹.int 0›,‹.int (Nat.gcd a b)›]):=by
 intro a
 induction a using Nat.strongRecOn with
 | _ a ih =>
  intro b t u
  by_cases ha:a=0
  ·subst ha
   refine⟨1,?_⟩
   rw[Nat.gcd_zero_left]
   rfl
  ·obtain⟨n,h⟩:=ih (b % a) (Nat.mod_lt _ (Nat.pos_of_ne_zero ha)) a t u
   refine⟨n+1,?_⟩
   have e1:tB2 gtI (A1 2) ⇑0 [‹t›,‹u›,‹.int a›,‹.int b›]=some true:=by
    show some (decide ((0:Int) < (a:Int)))=some true
    rw[decide_eq_true (by omega)]
   have e2:N1 (.int b) (.int a)=some (.int ((b % a:Nat):Int)):=by
    show(if(0:Int) < (a:Int) then some (PyData.int ((b:Int) % (a:Int))) else none)=_
    rw[if_pos (by omega)]
    simp
   have e3:ah5 2 3 (A0 (A4 N1 (A1 3) (A1 2)) (A0 (A1 2) A2)) [‹t›,‹u›,‹.int a›,‹.int b›]=some (.nx [‹t›,‹u›,‹.int ((b % a:Nat):Int)›,‹.int a›]):=by
    show((N1 (.int b) (.int a)).bind fun d=>(some [PyData.int (a:Int)]).map fun ds=>d::ds).bind _=_
    rw[e2]
    rfl
   rw[aF7 e1 e3,h,← Nat.gcd_rec]
def fr(r:Rat):D:=.tuple [.int r.num,.int r.den]
theorem D9{i:Int}{k:Nat}(h:i.natAbs < 2 ^ k) (hk:k<=8000):C8 i:=Nat.lt_of_lt_of_le h (Nat.pow_le_pow_right (by decide) hk)
theorem aa1(a b:Nat) (hb:0 < b):fr (mkRat a b)=.tuple [.int ((a / Nat.gcd a b:Nat):Int),.int ((b / Nat.gcd a b:Nat):Int)]:=by
 unfold fr
 rw[Rat.num_mkRat,Rat.den_mkRat,if_neg (by omega),if_neg (by omega)]
 have e:b.gcd (a:Int).natAbs=Nat.gcd a b:=by rw[Int.natAbs_natCast,Nat.gcd_comm]
 rw[e]
 simp
theorem aG7(a b x k:Nat) (hb:0 < b) (hk:b < 2 ^ k) (hk8:k<=8000):W0 (.int x) (.int (Nat.gcd a b))=some (.int ((x / Nat.gcd a b:Nat):Int)):=by
 have g0:0 < Nat.gcd a b:=Nat.gcd_pos_of_pos_right _ hb
 have gs:C8 (Nat.gcd a b:Nat):=D9 (k:=k) (by rw[Int.natAbs_natCast];exact Nat.lt_of_le_of_lt (Nat.le_of_dvd hb (Nat.gcd_dvd_right a b)) hk) hk8
 show(if(0:Int) < ((Nat.gcd a b:Nat):Int)/\C8 (Nat.gcd a b:Nat) then some (PyData.int ((x:Int) / ((Nat.gcd a b:Nat):Int))) else none)=_
 rw[if_pos ⟨by omega,gs⟩]
 simp
theorem al7(a b k:Nat) (hb:0 < b) (hk:b < 2 ^ k) (hk8:k<=8000):J7 [.int a,.int b]=some (fr (mkRat a b)):=by
 have d:=fun x=>aG7 a b x k hb hk hk8
 have e:M3 [‹.int a›,‹.int b›,none]=some (.rt (fr (mkRat a b))):=by
  rw[aa1 a b hb]
  simp only[M3,C3,D0,A3,A0,A2,A1,xg0,xg1,xbs,xms,ca6,xw1,xw0,C4,D8,A4,d]
 show(M3 [‹.int a›,‹.int b›,none]).bind _=_
 rw[e];rfl
theorem az8(a b k:Nat) (hb:0 < b) (hk:b < 2 ^ k) (hk8:k<=8000):S8 [.int a,.int b]=some (fr (mkRat a b)):=by
 have d:=fun x=>aG7 a b x k hb hk hk8
 obtain⟨n,h⟩:=aM3 a b (.int a) (.int b)
 have e:Z6 [‹.int a›,‹.int b›,none,none]=some (.rt (fr (mkRat a b))):=by
  rw[aa1 a b hb]
  simp only[Z6,C3,D0,A3,A0,A2,A1,xg0,xg1,xbs,xms,xw1,xw0,C4,D8,A4,d,ad8 h]
 show(Z6 [‹.int a›,‹.int b›,none,none]).bind _=_
 rw[e];rfl
structure Bd (k:Nat) (r:Rat):Prop where
 nn:0<=r
 num:r.num.natAbs < 2 ^ k
 den:r.den < 2 ^ k
theorem Bd.mono{j k:Nat}{r:Rat}(h:Bd j r) (l:j<=k):Bd k r:=⟨h.nn,Nat.lt_of_lt_of_le h.num (Nat.pow_le_pow_right (by decide) l),Nat.lt_of_lt_of_le h.den (Nat.pow_le_pow_right (by decide) l)⟩
theorem Bd.nat{k:Nat}{r:Rat}(h:Bd k r):r.num=(r.num.natAbs:Int):=by
 have:=Rat.num_nonneg.mpr h.nn
 omega
theorem aX0(a b:Nat):0<=mkRat (a:Int) b:=by
 rw[← Rat.num_nonneg,Rat.num_mkRat]
 split
 ·exact Int.le_refl _
 ·exact Int.ediv_nonneg (by omega) (by omega)
theorem Bd.of{a b k:Nat}(hb:0 < b) (h1:a < 2 ^ k) (h2:b < 2 ^ k):Bd k (mkRat a b):=by
 refine⟨aX0 a b,?_,?_⟩
 ·rw[Rat.num_mkRat,if_neg (by omega)]
  rw[show((a:Int) / ((b.gcd (a:Int).natAbs:Nat):Int))=((a / b.gcd (a:Int).natAbs:Nat):Int) by simp,Int.natAbs_natCast]
  exact Nat.lt_of_le_of_lt (Nat.div_le_self _ _) h1
 ·rw[Rat.den_mkRat,if_neg (by omega)]
  exact Nat.lt_of_le_of_lt (Nat.div_le_self _ _) h2
theorem D3{a b j k:Nat}(h1:a < 2 ^ j) (h2:b < 2 ^ k):a*b < 2 ^ (j+k):=by
 rw[Nat.pow_add]
 exact Nat.mul_lt_mul'' h1 h2
theorem ai0{j k:Nat}{r s:Rat}(hr:Bd j r) (hs:Bd k s):r*s=mkRat ((r.num.natAbs*s.num.natAbs:Nat):Int) (r.den*s.den):=by
 rw[Rat.mul_def,Rat.normalize_eq_mkRat,Int.natCast_mul,← hr.nat,← hs.nat]
theorem ai1{j k:Nat}{r s:Rat}(hr:Bd j r) (hs:Bd k s):r+s=mkRat ((r.num.natAbs*s.den+s.num.natAbs*r.den:Nat):Int) (r.den*s.den):=by
 rw[Rat.add_def,Rat.normalize_eq_mkRat,Int.natCast_add,Int.natCast_mul,Int.natCast_mul,← hr.nat,← hs.nat]
theorem E8(r:Rat):0 < r.den:=Nat.pos_of_ne_zero r.den_nz
theorem Bd.mul{j k:Nat}{r s:Rat}(hr:Bd j r) (hs:Bd k s):Bd (j+k) (r*s):=by
 rw[ai0 hr hs]
 exact Bd.of (Nat.mul_pos (E8 r) (E8 s)) (D3 hr.num hs.num) (D3 hr.den hs.den)
theorem Bd.add{j k:Nat}{r s:Rat}(hr:Bd j r) (hs:Bd k s):Bd (j+k+1) (r+s):=by
 rw[ai1 hr hs]
 have h1:=D3 hr.num hs.den
 have h2:=D3 hs.num hr.den
 have h3:=D3 hr.den hs.den
 rw[Nat.add_comm k j]at h2
 exact Bd.of (Nat.mul_pos (E8 r) (E8 s)) (by rw[Nat.pow_succ];omega) (by rw[Nat.pow_succ];omega)
theorem Bd.one:Bd 1 1:=⟨by decide,by decide,by decide⟩
theorem Bd.zero:Bd 1 0:=⟨by decide,by decide,by decide⟩
theorem Bd.sn{k:Nat}{r:Rat}(h:Bd k r) (hk:k<=8000):C8 r.num:=D9 h.num hk
theorem Bd.sd{k:Nat}{r:Rat}(h:Bd k r) (hk:k<=8000):C8 r.den:=D9 (k:=k) (by rw[Int.natAbs_natCast];exact h.den) hk
theorem G1{i j:Int}(h1:C8 i) (h2:C8 j):L6 (.int i) (.int j)=some (.int (i*j)):=by
 show(if C8 i/\C8 j then some (PyData.int (i*j)) else none)=_
 rw[if_pos ⟨h1,h2⟩]
theorem aH6(i j:Int):P3 (.int i) (.int j)=some (.int (i+j)):=rfl
theorem bw2(i j:Int):am6 (.int i) (.int j)=some (.int (i - j)):=rfl
theorem bW7(i j:Int):leI (.int i) (.int j)=some (.bool (decide (i<=j))):=rfl
theorem bP8(a b:D):L2.atI [a,b] 0=some a:=rfl
theorem bP7(a b:D):L2.atI [a,b] 1=some b:=rfl
theorem ix0{ρ:Rho}{i:Nat}{r:Rat}(h:ρ[i]? = some (‹fr r›)):dIx (B1 i) ⇑0 ρ=some (.int r.num):=by
 simp only[dIx,B1,h,fr,dC,xbs,bP8]
theorem ix1{ρ:Rho}{i:Nat}{r:Rat}(h:ρ[i]? = some (‹fr r›)):dIx (B1 i) ⇑1 ρ=some (.int r.den):=by
 simp only[dIx,B1,h,fr,dC,xbs,bP7]
theorem v0(x:Option B) (l:Rho):(x::l)[0]? = some x:=rfl
theorem v1(y x:Option B) (l:Rho):(y::x::l)[1]? = some x:=rfl
theorem bQ3{j k:Nat}{r s:Rat}(hr:Bd j r) (hs:Bd k s) (l:j+k<=8000):bv7 [fr r,fr s]=some (fr (r*s)):=by
 have e:u4 [‹fr r›,‹fr s›]=some (.rt (fr (r*s))):=by
  simp only[u4,C4,A3,A0,A2,A4,ix0 (v0 _ _),ix1 (v0 _ _),ix0 (v1 _ _ _),ix1 (v1 _ _ _),xbs,xms,G1 (hr.sn (by omega)) (hs.sn (by omega)),G1 (hr.sd (by omega)) (hs.sd (by omega))]
  have:=al7 (r.num.natAbs*s.num.natAbs) (r.den*s.den) (j+k) (Nat.mul_pos (E8 r) (E8 s)) (D3 hr.den hs.den) l
  rw[← ai0 hr hs,Int.natCast_mul,Int.natCast_mul,← hr.nat,← hs.nat]at this
  rw[this];rfl
 show(u4 [‹fr r›,‹fr s›]).bind _=_
 rw[e];rfl
theorem az9{j k:Nat}{r s:Rat}(hr:Bd j r) (hs:Bd k s) (l:j+k<=8000):T9 [fr r,fr s]=some (fr (r+s)):=by
 have e:u5 [‹fr r›,‹fr s›]=some (.rt (fr (r+s))):=by
  simp only[u5,C4,A3,A0,A2,A4,ix0 (v0 _ _),ix1 (v0 _ _),ix0 (v1 _ _ _),ix1 (v1 _ _ _),xbs,xms,G1 (hr.sn (by omega)) (hs.sd (by omega)),G1 (hs.sn (by omega)) (hr.sd (by omega)),G1 (hr.sd (by omega)) (hs.sd (by omega)),aH6]
  have:=al7 (r.num.natAbs*s.den+s.num.natAbs*r.den) (r.den*s.den) (j+k) (Nat.mul_pos (E8 r) (E8 s)) (D3 hr.den hs.den) l
  rw[← ai1 hr hs,Int.natCast_add,Int.natCast_mul,Int.natCast_mul,Int.natCast_mul,← hr.nat,← hs.nat]at this
  rw[this];rfl
 show(u5 [‹fr r›,‹fr s›]).bind _=_
 rw[e];rfl
end Sh
set_option exponentiation.threshold 9000
namespace Sh
open PySem G L2
theorem bW4(i j:Int):ltI (.int i) (.int j)=some (.bool (decide (i < j))):=rfl
theorem bY6(i j:Int):gtI (.int i) (.int j)=some (.bool (decide (j < i))):=rfl
theorem bl5{α:Type}(x:α):List.replicate 0 x=[]:=rfl
theorem bl4{α:Type}(x:α):List.replicate 1 x=[x]:=rfl
theorem bl3{α:Type}(x:α):List.replicate 2 x=[x,x]:=rfl
theorem aG9(a b c d:D):U3 [a,b,c,d] (some 1) none=[b,c,d]:=rfl
theorem ca0(a b c d:D):L2.atI [a,b,c,d] 0=some a:=rfl
theorem bZ9(a b c d:D):L2.atI [a,b,c,d] 1=some b:=rfl
theorem bZ8(a b c d:D):L2.atI [a,b,c,d] 2=some c:=rfl
theorem bZ7(a b c d:D):L2.atI [a,b,c,d] 3=some d:=rfl
theorem ca3(a b c:D):L2.atI [a,b,c] 0=some a:=rfl
theorem ca2(a b c:D):L2.atI [a,b,c] 1=some b:=rfl
theorem ca1(a b c:D):L2.atI [a,b,c] 2=some c:=rfl
theorem O2{n k:Nat}(h:n < 2 ^ k) (hk:k<=8000):C8 (n:Int):=D9 (k:=k) (by rw[Int.natAbs_natCast];exact h) hk
theorem ae5{i j:Int}(h:0 < j):N1 (.int i) (.int j)=some (.int (i % j)):=by
 show(if(0:Int) < j then some (PyData.int (i % j)) else none)=_
 rw[if_pos h]
theorem aq8{i j:Int}(h:0 < j) (s:C8 j):W0 (.int i) (.int j)=some (.int (i / j)):=by
 show(if(0:Int) < j/\C8 j then some (PyData.int (i / j)) else none)=_
 rw[if_pos ⟨h,s⟩]
theorem D1{g:DS}{n:Nat}{ds:List D}{ρ:Rho}{d:D}(h:N8 n ds=ρ) (e:g ρ=some (.rt d)):F6 g n ds=some d:=by
 unfold F6
 rw[h,e];rfl
theorem Q6{j k:Nat}{r s:Rat}(hr:Bd j r) (hs:Bd k s) (l:j+k<=8000):P4 [fr r,fr s]=some (fr (r*s)):=by
 refine D1 (ρ:=[‹fr r›,‹fr s›]) rfl ?_
 simp only[ag0,C4,A3,A0,A2,A4,ix0 (v0 _ _),ix1 (v0 _ _),ix0 (v1 _ _ _),ix1 (v1 _ _ _),xbs,xms,G1 (hr.sn (by grind)) (hs.sn (by grind)),G1 (hr.sd (by grind)) (hs.sd (by grind))]
 have:=az8 (r.num.natAbs*s.num.natAbs) (r.den*s.den) (j+k) (Nat.mul_pos (E8 r) (E8 s)) (D3 hr.den hs.den) l
 rw[← ai0 hr hs,Int.natCast_mul,Int.natCast_mul,← hr.nat,← hs.nat]at this
 rw[this];rfl
theorem aQ0{j k:Nat}{r s:Rat}(hr:Bd j r) (hs:Bd k s) (l:j+k<=8000):Z7 [fr r,fr s]=some (fr (r+s)):=by
 refine D1 (ρ:=[‹fr r›,‹fr s›]) rfl ?_
 simp only[as9,C4,A3,A0,A2,A4,ix0 (v0 _ _),ix1 (v0 _ _),ix0 (v1 _ _ _),ix1 (v1 _ _ _),xbs,xms,G1 (hr.sn (by omega)) (hs.sd (by omega)),G1 (hs.sn (by omega)) (hr.sd (by omega)),G1 (hr.sd (by omega)) (hs.sd (by omega)),aH6]
 have:=az8 (r.num.natAbs*s.den+s.num.natAbs*r.den) (r.den*s.den) (j+k) (Nat.mul_pos (E8 r) (E8 s)) (D3 hr.den hs.den) l
 rw[← ai1 hr hs,Int.natCast_add,Int.natCast_mul,Int.natCast_mul,Int.natCast_mul,← hr.nat,← hs.nat]at this
 rw[this];rfl
def af4(ns:List Int) (k:Nat):Int:=if ns.length=0 then 7*(k:Int) else ns.getD (k % ns.length) 0+6553*((k / ns.length:Nat):Int)
theorem bd6(ns:List Int):eqD (.list (ns.map PyData.int)) (.list [])=some (.bool (decide (ns.length=0))):=by
 have h1:SeqAt.shaped (.list (ns.map PyData.int))=true:=by
  have c:∀l:List Int,PyData.canLayAll0 (l.map PyData.int)=true:=fun l=>by
   induction l with
   | nil=>rfl
   | cons a r ih=>simp only[xmc,PyData.canLayAll0,PyData.canLay0,ih];rfl
  have d:∀l:List Int,PyData.depthAll (l.map PyData.int)=0:=fun l=>by
   induction l with
   | nil=>rfl
   | cons a r ih=>simp only[xmc,PyData.depthAll,PyData.depth,ih];rfl
  unfold SeqAt.shaped
  simp only[PyData.canLay0,c,PyData.depth,d]
  rfl
 unfold eqD
 rw[if_pos ⟨h1,rfl⟩]
 cases ns with
 | nil=>rfl
 | cons a r=>simp[PyData.eqv,PyData.eqvAll]
end Sh
local macro_rules
  | `(tactic| wp_walk using evP, $ts,*) => `(tactic| simp only [G.C3, G.D0, G.C4, G.sIf, G.L9, G.w6, G.aK8, G.A1, G.dC, G.D8, G.G5, G.A4, G.A3, G.aO5, G.dOr, G.be6, G.S5, G.P2, G.bu7, G.bu6, G.bu5, G.Q9, G.Q8, G.aF8, G.A2, G.A0, G.W3, G.tB2, G.aA4, G.au2, G.Q7, G.bi7, G.O0, G.F5, G.B8, G.K0, G.D6, G.L4, G.G4, G.aw7, G.xg0, G.xg1, G.xw0, G.xw1, G.xbs, G.xms, G.xmc, G.xmn, G.xna, G.xca, Sh.aH6, Sh.bw2, Sh.bW7, Sh.bH0, Sh.bu1, Sh.bW4, Sh.bY6, Sh.ca0, Sh.bZ9, Sh.bZ8, Sh.bZ7, Sh.ca3, Sh.ca2, Sh.ca1, Sh.bP8, Sh.bP7, G.xnt, G.xnf, G.xft, if_true, if_false, $[$ts:term],*])
local macro_rules
  | `(tactic| wp_walk using evB) => `(tactic| wp_walk using evP, G.dIx, G.Y9, G.B1, G.qE, G.qN, G.an3)
  | `(tactic| wp_walk using evB, $ts,*) => `(tactic| wp_walk using evP, G.dIx, G.Y9, G.B1, G.qE, G.qN, G.an3, $ts,*)
local macro_rules
  | `(tactic| wp_walk using evA) => `(tactic| wp_walk using evB, G.aO3, G.ax5, G.C2, G.G8, G.Z1, G.F9, G.bt5, Sh.bl5, Sh.bl4, Sh.bl3, Sh.aG9, ite_true, ite_false)
  | `(tactic| wp_walk using evA, $ts,*) => `(tactic| wp_walk using evB, G.aO3, G.ax5, G.C2, G.G8, G.Z1, G.F9, G.bt5, Sh.bl5, Sh.bl4, Sh.bl3, Sh.aG9, ite_true, ite_false, $ts,*)
local macro_rules
  | `(tactic| wp_walk using evD) => `(tactic| wp_walk using evB, G.d8, G.au1)
  | `(tactic| wp_walk using evD, $ts,*) => `(tactic| wp_walk using evB, G.d8, G.au1, $ts,*)
local macro_rules
  | `(tactic| wp_walk using evC) => `(tactic| wp_walk using evD, G.aO3, G.ax5, G.C2, G.G8, G.Z1, G.F9, G.bt5, Sh.bl5, Sh.bl4, Sh.bl3, Sh.aG9, ite_true, ite_false)
  | `(tactic| wp_walk using evC, $ts,*) => `(tactic| wp_walk using evD, G.aO3, G.ax5, G.C2, G.G8, G.Z1, G.F9, G.bt5, Sh.bl5, Sh.bl4, Sh.bl3, Sh.aG9, ite_true, ite_false, $ts,*)
local macro_rules
  | `(tactic| wp_walk using evQ) => `(tactic| wp_walk using evP, G.d8, G.au1)
  | `(tactic| wp_walk using evQ, $ts,*) => `(tactic| wp_walk using evP, G.d8, G.au1, $ts,*)
namespace Sh
open PySem G L2
theorem bQ5(ns:List Int) (k:Nat) (hn:ns.length<=63) (hk:k < 2 ^ 60):ac7 [.list (ns.map PyData.int),.int k]=some (.int (af4 ns k)):=by
 refine D1 (ρ:=[‹.list (ns.map PyData.int)›,‹.int k›]) rfl ?_
 have sk:C8 (k:Int):=O2 hk (by decide)
 by_cases h:ns.length=0
 ·have e:af4 ns k=7*(k:Int):=by unfold af4;rw[if_pos h]
  wp_walk using evA,ac5,bd6,h,decide_true,G1 (i:=7) (D9 (k:=3) (by decide) (by decide)) sk,e
 ·have e:af4 ns k=ns.getD (k % ns.length) 0+6553*((k / ns.length:Nat):Int):=by unfold af4;rw[if_neg h]
  have hl:(List.map PyData.int ns).length=ns.length:=List.length_map ..
  have hp:0 < ns.length:=Nat.pos_of_ne_zero h
  have m1:N1 (.int k) (.int ns.length)=some (.int ((k % ns.length:Nat):Int)):=by rw[ae5 (by grind)];simp
  have m2:W0 (.int k) (.int ns.length)=some (.int ((k / ns.length:Nat):Int)):=by rw[aq8 (by grind) (O2 (k:=6) (by grind) (by decide))];simp
  have m3:L2.atI (List.map PyData.int ns) ((k % ns.length:Nat):Int)=some (.int (ns.getD (k % ns.length) 0)):=by
   refine L2.bv4 ?_
   have hlt:k % ns.length < ns.length:=Nat.mod_lt _ hp
   rw[List.getElem?_map,List.getElem?_eq_getElem hlt]
   simp[List.getD,hlt]
  have sq:C8 ((k / ns.length:Nat):Int):=O2 (k:=60) (Nat.lt_of_le_of_lt (Nat.div_le_self _ _) hk) (by decide)
  wp_walk using evA,ac5,bd6,h,decide_false,hl,m1,m2,m3,G1 (i:=6553) (D9 (k:=13) (by decide) (by decide)) sq,e
def Y4(ns:List Int) (k:Nat) (m:Int):Int :=
 let c:=(af4 ns k % 2147483563*69069+104723*((k:Int)+1)) % 2147483563
 let c:=(c*c+c / 3) % 2147483399
 (c*c+c / 7) % 2147483647 / 11 % m
theorem v7{i:Int}(h0:0<=i) (h:i < 4294967296):C8 i:=D9 (k:=32) (by omega) (by decide)
theorem u7(ns:List Int) (k:Nat) (m:Int) (hn:ns.length<=63) (hk:k < 2 ^ 60) (hm:0 < m):D5 [.list (ns.map PyData.int),.int k,.int m]=some (.int (Y4 ns k m)):=by
 refine D1 (ρ:=[‹.list (ns.map PyData.int)›,‹.int k›,‹.int m›,none]) rfl ?_
 have c0:∀x:Int,C8 (x % 2147483563):=fun x=>v7 (by grind) (by grind)
 have c1:∀x:Int,C8 (x % 2147483399):=fun x=>v7 (by grind) (by grind)
 have sk:C8 ((k:Int)+1):=D9 (k:=61) (by grind) (by decide)
 have s1:C8 69069:=D9 (k:=17) (by decide) (by decide)
 have s2:C8 104723:=D9 (k:=17) (by decide) (by decide)
 have s3:C8 3:=D9 (k:=2) (by decide) (by decide)
 have s7:C8 7:=D9 (k:=3) (by decide) (by decide)
 have s11:C8 11:=D9 (k:=4) (by decide) (by decide)
 wp_walk using evA,ag2,bQ5 ns k hn hk,ae5 (show(0:Int) < 2147483563 by decide),ae5 (show(0:Int) < 2147483399 by decide),ae5 (show(0:Int) < 2147483647 by decide),ae5 hm,G1 (c0 _) s1,G1 s2 sk,G1 (c0 _) (c0 _),G1 (c1 _) (c1 _),aq8 (show(0:Int) < 3 by decide) s3,aq8 (show(0:Int) < 7 by decide) s7,aq8 (show(0:Int) < 11 by decide) s11
 rfl
theorem t5(ns:List Int) (k:Nat) (m:Int) (hm:0 < m):0<=Y4 ns k m/\Y4 ns k m < m:=by
 unfold Y4
 exact⟨Int.emod_nonneg _ (by omega),Int.emod_lt_of_pos _ hm⟩
structure IsSh (k:Nat) (r:Rat):Prop where
 bd:Bd k r
 le:r<=1
theorem aM6{a b:Nat}(hb:0 < b) (h:a<=b):mkRat (a:Int) b<=1:=by
 rw[Rat.le_iff,Rat.num_mkRat,Rat.den_mkRat,if_neg (by omega),if_neg (by omega)]
 have e0:(1:Rat).num=1:=rfl
 have e1:(1:Rat).den=1:=rfl
 rw[e0,e1]
 have:a / b.gcd a<=b / b.gcd a:=Nat.div_le_div_right h
 simp
 exact_mod_cast this
theorem u6(ns:List Int) (at':Nat) (hn:ns.length<=63) (hk:at' < 2 ^ 40):∃r,T6 [.list (ns.map PyData.int),.int at']=some (fr r)/\IsSh 4 r:=by
 obtain⟨u0,u1⟩:=t5 ns at' 12 (by decide)
 obtain⟨u,hu⟩:∃u:Nat,(1:Int)+Y4 ns at' 12=u/\0 < u/\u<=12:=⟨(1+Y4 ns at' 12).toNat,by grind,by grind,by grind⟩
 obtain⟨t0,t1⟩:=t5 ns (at'+1) ((u:Int)+1) (by grind)
 obtain⟨t,ht⟩:∃t:Nat,Y4 ns (at'+1) ((u:Int)+1)=t/\t<=u:=⟨(Y4 ns (at'+1) ((u:Int)+1)).toNat,by grind,by grind⟩
 obtain⟨p0,p1⟩:=t5 ns (at'+2) 5 (by decide)
 have hs:IsSh 4 (mkRat (t:Int) u):=⟨Bd.of (by grind) (by grind) (by grind),aM6 (by grind) (by grind)⟩
 have e1:=u7 ns at' 12 hn (by grind) (by decide)
 have e2:=u7 ns (at'+1) ((u:Int)+1) hn (by grind) (by grind)
 have e3:=u7 ns (at'+2) 5 hn (by grind) (by decide)
 have e4:=az8 t u 4 (by grind) (by grind) (by decide)
 have c1:((at':Int)+1)=((at'+1:Nat):Int):=by grind
 have c2:((at':Int)+2)=((at'+2:Nat):Int):=by grind
 rw[ht.1]at e2
 have pick:∀(j:Int),0<=j->j < 5->∃r,L2.atI [fr (mkRat (t:Int) u),fr (mkRat (t:Int) u),fr (mkRat (t:Int) u),.tuple [.int 0,.int 1],.tuple [.int 1,.int 1]] j=some (fr r)/\IsSh 4 r:=fun j h0 h5=>by
  have:j=0\/j=1\/j=2\/j=3\/j=4:=by grind
  rcases this with rfl|rfl|rfl|rfl|rfl
  ·exact⟨_,rfl,hs⟩
  ·exact⟨_,rfl,hs⟩
  ·exact⟨_,rfl,hs⟩
  ·exact⟨0,rfl,Bd.zero.mono (by decide),by decide⟩
  ·exact⟨1,rfl,Bd.one.mono (by decide),by decide⟩
 obtain⟨r,hr1,hr2⟩:=pick _ p0 p1
 refine⟨r,D1 (ρ:=[‹.list (ns.map PyData.int)›,‹.int at'›,none,none]) rfl ?_,hr2⟩
 wp_walk using evA,ag1,e1,hu.1,c1,c2,e2,e3,e4,hr1
end Sh
namespace Sh
open PySem G L2
def sp(c x y z:Rat):D:=.tuple [fr c,fr x,fr y,fr z]
structure Spot (k:Nat) (c x y z:Rat):Prop where
 hc:IsSh k c
 hx:Bd k x
 hy:Bd k y
 hz:Bd k z
 xc:x<=c
 yc:y<=c
 zc:z<=c
theorem IsSh.mono{j k:Nat}{r:Rat}(h:IsSh j r) (l:j<=k):IsSh k r:=⟨h.bd.mono l,h.le⟩
theorem R7{c r:Rat}(hc:0<=c) (hr:r<=1):c*r<=c:=by
 have:=Rat.mul_le_mul_of_nonneg_right hr hc
 grind
theorem cc2:P9 0 3=[.int 0,.int 1,.int 2]:=rfl
theorem bQ4(ns:List Int) (k:Nat) (hn:ns.length<=63) (hk:k < 2 ^ 30):∃c x y z,P5 [.list (ns.map PyData.int),.int k]=some (sp c x y z)/\Spot 8 c x y z:=by
 obtain⟨c,ec,hc⟩:=u6 ns k hn (by grind)
 obtain⟨a0,e0,h0⟩:=u6 ns (k+3) hn (by grind)
 obtain⟨a1,e1,h1⟩:=u6 ns (k+6) hn (by grind)
 obtain⟨a2,e2,h2⟩:=u6 ns (k+9) hn (by grind)
 refine⟨c,c*a0,c*a1,c*a2,?_,⟨hc.mono (by decide),hc.bd.mul h0.bd,hc.bd.mul h1.bd,hc.bd.mul h2.bd,R7 hc.bd.nn h0.le,R7 hc.bd.nn h1.le,R7 hc.bd.nn h2.le⟩⟩
 refine D1 (ρ:=[‹.list (ns.map PyData.int)›,‹.int k›,none]) rfl ?_
 have i0:(k:Int)+3+3*0=((k+3:Nat):Int):=by grind
 have i1:(k:Int)+3+3*1=((k+6:Nat):Int):=by grind
 have i2:(k:Int)+3+3*2=((k+9:Nat):Int):=by grind
 have s0:C8 0:=D9 (k:=2) (by decide) (by decide)
 have s1:C8 1:=D9 (k:=2) (by decide) (by decide)
 have s2:C8 2:=D9 (k:=2) (by decide) (by decide)
 have s3:C8 3:=D9 (k:=2) (by decide) (by decide)
 have m0:=G1 s3 s0
 have m1:=G1 s3 s1
 have m2:=G1 s3 s2
 have r3:((-(2 ^ 62):Int)<=3/\(3:Int) < 2 ^ 62):=by decide
 have l3:([PyData.int 0,.int 1,.int 2]:List D).length<=16777216:=by decide
 have ct:∀a b c d:D,P3 (.tuple [a]) (.tuple [b,c,d])=some (.tuple [a,b,c,d]):=fun a b c d=>rfl
 wp_walk using evA,as8,ec,r3,and_self,cc2,l3,m0,m1,m2,i0,i1,i2,e0,e1,e2,Q6 hc.bd h0.bd (by decide),Q6 hc.bd h1.bd (by decide),Q6 hc.bd h2.bd (by decide),ct,sp
end Sh
namespace Sh
open PySem G L2
inductive Man where
 | over|mult|screen|plus|atop|cut
end Sh
namespace Sh
open PySem G L2
inductive Rul where
 | turn|grey|round
end Sh
namespace Sh
open PySem PySem.Spec PyProof.Rows L2 G
end Sh
namespace Sh
open PySem G L2
end Sh
namespace Sh
open PySem G L2
theorem z3(a b c d e f:D):(List.zip [a,b,c] [d,e,f]).map (fun(x,y)=>PyData.tuple [x,y])=[.tuple [a,d],.tuple [b,e],.tuple [c,f]]:=rfl
end Sh
namespace Sh
open PySem PySem.Spec PyProof.Rows L2 G
def l9:DS:=(C4 (G5 (C2 1 [0] (F9 (A4 G0 (A1 0) (A1 1))) (B8 0) F5 (D8 (A0 (A4 N1 (A1 0) (A1 1)) (A0 (A4 W0 (A1 0) (A1 1)) A2))))))
def F1:List D->Option D:=F6 l9 2
def n9:DS:=(C4 (aO5 (S5 leI ltI ⇑0 (A1 1) (dIx (B1 0) ⇑0)) (S5 leI ltI ⇑0 (A1 2) (dIx (B1 0) ⇑1))))
def S9:List D->Option D:=F6 n9 3
def N7:DS:=(C4 (A4 J1 (A4 G0 (A1 2) (dIx (B1 0) ⇑0)) (A1 1)))
def J6:List D->Option D:=F6 N7 3
def e9:DS:=(C3 (sIf (Q7 (W3 (A3 S9 (A0 (A1 0) (A0 (A1 1) (A0 (A1 2) A2)))))) (C4 (dC (.tuple [(.tuple [(.int 0),(.int 1)]),(.tuple [(.int 0),(.int 1)]),(.tuple [(.int 0),(.int 1)]),(.tuple [(.int 0),(.int 1)])]))) L9) (C4 (dIx (qE (dIx (B1 0) ⇑2)) (A3 J6 (A0 (A1 0) (A0 (A1 1) (A0 (A1 2) A2)))))))
def G9:List D->Option D:=F6 e9 3
def g7:DS:=(C3 (w6 4 (C2 1 [0,1] (F9 (A4 G0 (A1 2) (A1 3))) (B8 0) F5 (A3 P5 (A0 (A1 1) (A0 (A4 J1 (A1 2) (A4 G0 ⇑12 (A1 0))) A2))))) (C3 (sIf (tB2 eqD (A3 D5 (A0 (A1 0) (A0 (A4 J1 (A1 1) ⇑7) (A0 ⇑3 A2)))) ⇑0) (D0 4 (A4 G0 (Y8 (A1 4) Q9 (Q8 ⇑1)) (A4 G0 (A1 2) (A1 3)))) L9) (C4 (D8 (A0 (A1 2) (A0 (A1 3) (A0 (P2 (B1 4)) A2)))))))
def i8:List D->Option D:=F6 g7 5
end Sh
namespace Sh
open PySem G L2
structure Q4 where
 c:Rat
 x:Rat
 y:Rat
 z:Rat
def Q4.d(q:Q4):D:=sp q.c q.x q.y q.z
def Q4.ok(k:Nat) (q:Q4):Prop:=Spot k q.c q.x q.y q.z
def q0:Q4:=⟨0,0,0,0⟩
theorem cc6:q0.d=.tuple [.tuple [.int 0,.int 1],.tuple [.int 0,.int 1],.tuple [.int 0,.int 1],.tuple [.int 0,.int 1]]:=rfl
theorem bT9{k:Nat}(hk:1<=k):q0.ok k:=by
 have z:IsSh k 0:=⟨Bd.zero.mono hk,by decide⟩
 exact⟨z,z.bd,z.bd,z.bd,Rat.le_refl,Rat.le_refl,Rat.le_refl⟩
def Ly(n:Nat) (d:D):Prop:=PyData.canLay0 d=true/\PyData.depth d<=n
theorem ac1{n:Nat}:∀xs:List D,(∀x∈xs,Ly n x)->PyData.canLayAll0 xs=true/\PyData.depthAll xs<=n
 | [],_=>⟨rfl,Nat.zero_le _⟩
 | x::xs,g=>by
  have a:=g x (List.mem_cons_self ..)
  have b:=ac1 xs fun y hy=>g y (List.mem_cons_of_mem _ hy)
  refine⟨?_,?_⟩
  ·show(PyData.canLay0 x&&PyData.canLayAll0 xs)=true
   rw[a.1,b.1];rfl
  ·show max (PyData.depth x) (PyData.depthAll xs)<=n
   have:=a.2;have:=b.2;grind
theorem Ly.tup{n:Nat}{xs:List D}(h:∀x∈xs,Ly n x):Ly (n+1) (.tuple xs):=⟨(ac1 xs h).1,Nat.succ_le_succ (ac1 xs h).2⟩
theorem Ly.lst{n:Nat}{xs:List D}(h:∀x∈xs,Ly n x):Ly (n+1) (.list xs):=⟨(ac1 xs h).1,Nat.succ_le_succ (ac1 xs h).2⟩
theorem Ly.int(n:Nat) (i:Int):Ly n (.int i):=⟨rfl,Nat.zero_le _⟩
theorem Ly.shaped{n:Nat}{d:D}(g:Ly n d) (hn:n<=64):SeqAt.shaped d=true:=by
 unfold SeqAt.shaped
 rw[g.1,Bool.true_and]
 exact decide_eq_true (by have:=g.2;grind)
theorem Ly.q4(q:Q4) (n:Nat):Ly (n+2) q.d:=⟨rfl,by show 2<=n+2;grind⟩
theorem X2{n:Nat}{d:D}(g:Ly n d) (hn:n<=64):neD d d=some (.bool false):=by
 unfold neD
 rw[if_pos ⟨g.shaped hn,g.shaped hn⟩,SeqAt.eqv_refl d g.1];rfl
def shD(w h:Nat) (l:List Q4):D:=.tuple [.int w,.int h,.tuple (l.map Q4.d)]
def atQ(w h:Nat) (l:List Q4) (x y:Int):Q4:=if 0<=x/\x < w/\0<=y/\y < h then l.getD (y*w+x).toNat q0 else q0
structure ShOk (k:Nat) (w h:Nat) (l:List Q4):Prop where
 w1:1<=w
 w8:w<=8
 h1:1<=h
 h8:h<=8
 len:l.length=w*h
 ok:∀q∈l,q.ok k
theorem bz0{α:Type}{e:DE}{r:Rho}{h f:α->D}:∀(l:List α) (x:Option B),(∀a∈l,e (‹h a›::r)=some (f a))->G8 (B8 0) F5 e (l.map h) (x::r)=some (l.map f)
 | [],_,_=>rfl
 | a::l,x,H=>by
  simp only[xmc,G8,B8,xw0,xbs,F5,if_true,H a (List.mem_cons_self ..),bz0 l _ (fun b hb=>H b (List.mem_cons_of_mem _ hb)),xms]
theorem by9{α:Type}{e:DE}{r:Rho}{h1 h2 f:α->D}:∀(l:List α) (x y:Option B),(∀a∈l,e (‹h1 a›::‹h2 a›::r)=some (f a))->G8 (K0 2 (D6 (B8 0) (D6 (B8 1) L4))) F5 e (l.map fun a=>.tuple [h1 a,h2 a]) (x::y::r)=some (l.map f)
 | [],_,_,_=>rfl
 | a::l,x,y,H=>by
  have hl:([h1 a,h2 a]:List D).length=2:=rfl
  simp only[xmc,G8,K0,D6,L4,B8,hl,if_true,xw0,xw1,xbs,F5,if_true,H a (List.mem_cons_self ..),by9 l _ _ (fun b hb=>H b (List.mem_cons_of_mem _ hb)),xms]
theorem bf2{α:Type}{c:Rho->Option Bool}{e:DE}{r:Rho}{h f:α->D}{p:α->Bool}:∀(l:List α) (x:Option B),(∀a∈l,c (‹h a›::r)=some (p a))->(∀a∈l,e (‹h a›::r)=some (f a))->G8 (B8 0) c e (l.map h) (x::r)=some ((l.filter p).map f)
 | [],_,_,_=>rfl
 | a::l,x,C,H=>by
  have ih:=bf2 l (‹h a›) (fun b hb=>C b (List.mem_cons_of_mem _ hb)) (fun b hb=>H b (List.mem_cons_of_mem _ hb))
  cases q:p a with
  | true =>
   simp only[xmc,G8,B8,xw0,xbs,C a (List.mem_cons_self ..),q,if_true,H a (List.mem_cons_self ..),ih,xms,List.filter_cons_of_pos q]
  | false =>
   have q':¬p a=true:=by rw[q];exact Bool.false_ne_true
   simp only[xmc,G8,B8,xw0,xbs,C a (List.mem_cons_self ..),q,xft,if_false,ih,List.filter_cons_of_neg q']
theorem V4{α:Type}{caps:List Nat}{src:Rho->Option (List D)}{e:DE}{ρ r:Rho}{l:List α}{h f:α->D}(hr:Z1 1 caps ρ=none::r) (hs:src ρ=some (l.map h)) (hl:l.length<=1000) (H:∀a∈l,e (‹h a›::r)=some (f a)) :
  C2 1 caps src (B8 0) F5 e ρ=some (l.map f):=by
 unfold C2
 rw[hs,xbs,if_pos (by rw[List.length_map];grind),hr,bz0 l _ H]
theorem cc8{α:Type}{caps:List Nat}{src:Rho->Option (List D)}{e:DE}{ρ r:Rho}{l:List α}{h1 h2 f:α->D}(hr:Z1 2 caps ρ=none::none::r) (hs:src ρ=some (l.map fun a=>.tuple [h1 a,h2 a])) (hl:l.length<=1000) (H:∀a∈l,e (‹h1 a›::‹h2 a›::r)=some (f a)) :
  C2 2 caps src (K0 2 (D6 (B8 0) (D6 (B8 1) L4))) F5 e ρ=some (l.map f):=by
 unfold C2
 rw[hs,xbs,if_pos (by rw[List.length_map];omega),hr,by9 l _ _ H]
theorem aj2{α:Type}{caps:List Nat}{src:Rho->Option (List D)}{c:Rho->Option Bool}{e:DE}{ρ r:Rho}{l:List α}{h f:α->D}{p:α->Bool}(hr:Z1 1 caps ρ=none::r) (hs:src ρ=some (l.map h)) (hl:l.length<=1000) (C:∀a∈l,c (‹h a›::r)=some (p a)) (H:∀a∈l,e (‹h a›::r)=some (f a)) :
  C2 1 caps src (B8 0) c e ρ=some ((l.filter p).map f):=by
 unfold C2
 rw[hs,xbs,if_pos (by rw[List.length_map];omega),hr,bf2 l _ C H]
theorem T1{f:DE}{ρ:Rho}{n:Nat}(h:f ρ=some (.int n)) (hn:n<=1000):F9 f ρ=some ((List.range n).map fun k:Nat=>PyData.int k):=by
 unfold F9
 rw[h,xbs]
 show(if -(2 ^ 62)<=(n:Int)/\(n:Int) < 2 ^ 62 then some (P9 0 n) else none)=_
 rw[if_pos ⟨by grind,by grind⟩]
 unfold P9
 congr 1
 have e:((n:Int) - 0).toNat=n:=by grind
 rw[e]
 apply List.map_congr_left
 intro k _
 congr 1
 grind
theorem aW6{i j:Int}(h1:C8 i) (h2:C8 j):G0 (.int i) (.int j)=some (.int (i*j)):=G1 h1 h2
theorem O8{i j:Nat}(h1:i<=1000) (h2:j<=1000):G0 (.int i) (.int j)=some (.int ((i*j:Nat):Int)):=by
 rw[aW6 (O2 (k:=10) (by grind) (by decide)) (O2 (k:=10) (by grind) (by decide)),Int.natCast_mul]
theorem sm8{i:Int}(h0:0<=i) (h:i<=1000):C8 i:=v7 h0 (by omega)
def plc(w n:Nat):List (Int×Int):=(List.range n).map fun k=>(((k % w:Nat):Int),((k / w:Nat):Int))
theorem c5{w h:Nat}(w1:1<=w) (w8:w<=8) (h8:h<=8):F1 [.int w,.int h]=some (.list ((plc w (w*h)).map fun p=>.tuple [.int p.1,.int p.2])):=by
 refine D1 (ρ:=[‹.int w›,‹.int h›]) rfl ?_
 have hm:(A4 G0 (A1 0) (A1 1)) [‹.int w›,‹.int h›]=some (.int ((w*h:Nat):Int)):=O8 (by grind) (by grind)
 have wh:w*h<=64:=Nat.mul_le_mul w8 h8
 unfold l9 C4 G5
 rw[V4 (l:=List.range (w*h)) (h:=fun k:Nat=>PyData.int k) (f:=fun k=>.tuple [.int ((k % w:Nat):Int),.int ((k / w:Nat):Int)]) (r:=[‹.int w›]) rfl (T1 hm (by grind)) (by rw[List.length_range];grind) ?_]
 ·unfold plc
  rw[List.map_map];rfl
 ·intro k _
  have wp:(0:Int) < (w:Int):=by grind
  simp only[D8,A0,A2,A4,A1,xg0,xg1,xbs,xms,ae5 wp,aq8 wp (sm8 (by grind) (by grind))]
  rfl
theorem aC5{w h:Nat}{p:Int×Int}(hp:p∈plc w (w*h)) (w1:1<=w):0<=p.1/\p.1 < w/\0<=p.2/\p.2 < h:=by
 obtain⟨k,hk,rfl⟩:=List.mem_map.mp hp
 have hk:=List.mem_range.mp hk
 have a:=Nat.mod_lt k (show w > 0 by omega)
 have b:=Nat.div_lt_of_lt_mul hk
 exact⟨Int.natCast_nonneg _,Int.ofNat_lt.mpr a,Int.natCast_nonneg _,Int.ofNat_lt.mpr b⟩
theorem o6(w n:Nat):(plc w n).length=n:=by unfold plc;rw[List.length_map,List.length_range]
theorem ak1(w h:Int) (s:D) (x y:Int):S9 [.tuple [.int w,.int h,s],.int x,.int y]=some (.bool (decide (0<=x/\x < w/\0<=y/\y < h))):=by
 refine D1 (ρ:=[‹.tuple [.int w,.int h,s]›,‹.int x›,‹.int y›]) rfl ?_
 by_cases a:0<=x<;>by_cases b:x < w<;>by_cases c:0<=y<;>by_cases e:y < h<;>simp[n9,C3,D0,C4,sIf,L9,w6,aK8,A1,dC,D8,G5,A4,A3,aO5,dOr,be6,S5,dIx,Y9,P2,bu7,bu6,bu5,B1,qE,qN,an3,Q9,Q8,aF8,A2,A0,W3,tB2,aA4,au2,Q7,bi7,O0,F5,B8,K0,D6,L4,G4,aw7,xg0,xg1,xw0,xw1,xbs,xms,xmc,xmn,xna,xca,aH6,bw2,bW7,bH0,bu1,bW4,bY6,ca0,bZ9,bZ8,bZ7,ca3,ca2,ca1,bP8,bP7,xnt,xnf,xft,if_true,if_false,d8,au1,a,b,c,e]
theorem bM4{n:Nat}{i:Int}(h0:0<=i) (h1:i < n):ixN n i=some i.toNat:=by unfold ixN;rw[if_pos h0,if_pos h1]
theorem atD(l:List Q4) {i:Int}(h0:0<=i) (h1:i < l.length):L2.atI (l.map Q4.d) i=some (l.getD i.toNat q0).d:=by
 unfold L2.atI
 rw[List.length_map,bM4 h0 h1,xbs,List.getElem?_map,List.getD_eq_getElem?_getD]
 have:i.toNat < l.length:=by omega
 rw[List.getElem?_eq_getElem this];rfl
theorem ae2{w h:Nat}{x y:Int}(b:0<=x/\x < w/\0<=y/\y < h):0<=y*w+x/\y*w+x < ((w*h:Nat):Int):=by
 obtain⟨a,b,c,e⟩:=b
 have p:0<=y*(w:Int):=Int.mul_nonneg c (by grind)
 refine⟨by grind,?_⟩
 have:(y+1)*(w:Int)<=h*(w:Int):=Int.mul_le_mul_of_nonneg_right (by grind) (by grind)
 have e2:(y+1)*(w:Int)=y*w+w:=by rw[Int.add_mul,Int.one_mul]
 have e3:((w*h:Nat):Int)=h*w:=by rw[Int.natCast_mul,Int.mul_comm]
 grind
theorem aL8{w h:Nat}{x y:Int}(s:D) (w8:w<=8) (h8:h<=8) (b:0<=x/\x < w/\0<=y/\y < h):J6 [.tuple [.int w,.int h,s],.int x,.int y]=some (.int (y*w+x)):=by
 refine D1 (ρ:=[‹.tuple [.int w,.int h,s]›,‹.int x›,‹.int y›]) rfl ?_
 wp_walk using evD,N7,aW6 (sm8 b.2.2.1 (by grind)) (sm8 (show(0:Int)<=w by grind) (by grind))
theorem U9{k w h:Nat}{l:List Q4}(S:ShOk k w h l) (x y:Int):G9 [shD w h l,.int x,.int y]=some (atQ w h l x y).d:=by
 refine D1 (ρ:=[‹shD w h l›,‹.int x›,‹.int y›]) rfl ?_
 have hp:=ak1 w h (.tuple (l.map Q4.d)) x y
 unfold atQ
 by_cases b:0<=x/\x < w/\0<=y/\y < h
 ·rw[if_pos b]
  rw[decide_eq_true b]at hp
  have nm:=aL8 (.tuple (l.map Q4.d)) S.w8 S.h8 b
  have pn:=ae2 b
  have e:=atD l pn.1 (by rw[S.len];exact pn.2)
  wp_walk using evD,e9,shD,hp,nm,e
 ·rw[if_neg b]
  rw[decide_eq_false b]at hp
  wp_walk using evD,e9,shD,hp
  rfl
theorem bT3:G0 (.tuple [.tuple [.int 0,.int 1]]) (.int 4)=some q0.d:=rfl
end Sh
namespace G
open PySem PySem.Spec PySem.W PyProof.Rows L2
def evT(lt:Nat->Nat->Bool) {α:Type}:KasT α->α
 | .ret a=>a
 | .ask i j k=>evT lt (k (lt i j))
theorem P1(lt:Nat->Nat->Bool) {α β:Type}(f:α->KasT β):∀t:KasT α,evT lt (t.bind f)=evT lt (f (evT lt t))
 | .ret _=>rfl
 | .ask i j k=>P1 lt f (k (lt i j))
structure SW (lt:Nat->Nat->Bool):Prop where
 irr:∀a,lt a a=false
 asy:∀a b,lt a b=true->lt b a=false
 nt:∀a b c,lt a b=false->lt b c=false->lt a c=false
section
variable {lt:Nat->Nat->Bool}
def Up(lt:Nat->Nat->Bool) (p:Array Nat) (m:Nat):Prop:=∀i j,i<=j->j < m->lt (p.getD j 0) (p.getD i 0)=false
def Dw(lt:Nat->Nat->Bool) (p:Array Nat) (m:Nat):Prop:=∀i j,i<=j->j < m->lt (p.getD i 0) (p.getD j 0)=false
theorem ay8(S:SW lt) {p:Array Nat}:∀(f n:Nat),1<=n->Up lt p n->n<=evT lt (kas_asc p f n)/\evT lt (kas_asc p f n)<=n+f/\Up lt p (evT lt (kas_asc p f n))/\(evT lt (kas_asc p f n) < n+f->lt (p.getD (evT lt (kas_asc p f n)) 0) (p.getD (evT lt (kas_asc p f n) - 1) 0)=true)
 | 0,n,h1,hu=>⟨Nat.le_refl _,Nat.le_refl _,hu,fun h=>absurd h (Nat.lt_irrefl _)⟩
 | f+1,n,h1,hu=>by
  show n<=evT lt (if lt (p.getD n 0) (p.getD (n - 1) 0)=true then .ret n else kas_asc p f (n+1))/\_
  show _/\evT lt (if lt (p.getD n 0) (p.getD (n - 1) 0)=true then .ret n else kas_asc p f (n+1))<=_/\Up lt p (evT lt (if lt (p.getD n 0) (p.getD (n - 1) 0)=true then .ret n else kas_asc p f (n+1)))/\(evT lt (if lt (p.getD n 0) (p.getD (n - 1) 0)=true then .ret n else kas_asc p f (n+1)) < _->lt (p.getD (evT lt (if lt (p.getD n 0) (p.getD (n - 1) 0)=true then .ret n else kas_asc p f (n+1))) 0) (p.getD (evT lt (if lt (p.getD n 0) (p.getD (n - 1) 0)=true then .ret n else kas_asc p f (n+1)) - 1) 0)=true)
  cases c:lt (p.getD n 0) (p.getD (n - 1) 0) with
  | true=>exact⟨Nat.le_refl _,Nat.le_add_right _ _,hu,fun _=>c⟩
  | false =>
   have hu':Up lt p (n+1):=fun i j hij hj=>by
    rcases Nat.lt_or_ge j n with q|q
    ·exact hu i j hij q
    ·have:j=n:=by omega
     subst this
     rcases Nat.lt_or_ge i j with z|z
     ·exact S.nt _ _ _ c (hu i (j - 1) (by omega) (by omega))
     ·rw[show i=j by omega];exact S.irr _
   obtain⟨a,b,c',d⟩:=ay8 S f (n+1) (by omega) hu'
   simp only[xft,if_false]
   exact⟨by omega,by omega,c',fun h=>d (by omega)⟩
theorem N3{p:Array Nat}{s e:Nat}(he:e<=p.size) (k:Nat):(kas_rev p s e).getD k 0=if s<=k/\k < e then p.getD (s+e - 1 - k) 0 else p.getD k 0:=by
 unfold kas_rev
 rw[Array.getD_eq_getD_getElem?,getElem?_mirror_all he]
 split
 ·rw[Array.getD_eq_getD_getElem?]
 ·rw[Array.getD_eq_getD_getElem?]
theorem W8(p:Array Nat) (s e:Nat):(kas_rev p s e).size=p.size:=mirror_size ..
theorem J2(p:Array Nat) (s e:Nat):(kas_rev p s e).Perm p:=mirror_perm ..
theorem aT0{p:Array Nat}{s e m:Nat}(he:e<=p.size) (hm:e<=m) (h:Dw lt p m) (eqv:∀i j,s<=i->i < e->s<=j->j < e->lt (p.getD i 0) (p.getD j 0)=false):Dw lt (kas_rev p s e) m:=fun i j hij hj=>by
 rw[N3 he,N3 he]
 split
 ·split
  ·exact eqv _ _ (by omega) (by omega) (by omega) (by omega)
  ·exact h _ _ (by omega) hj
 ·split
  ·exact h _ _ (by omega) (by omega)
  ·exact h _ _ hij hj
structure DOk (lt:Nat->Nat->Bool) (p0 p:Array Nat) (n q:Nat):Prop where
 sz:p.size=p0.size
 pm:p.Perm p0
 n1:1<=n
 nz:n<=p0.size
 qn:q+1<=n
 dw:Dw lt p n
 eq:∀i j,n - (q+1)<=i->i < n->n - (q+1)<=j->j < n->lt (p.getD i 0) (p.getD j 0)=false
theorem t6(S:SW lt) {p0:Array Nat}:∀(f:Nat) (p:Array Nat) (n q:Nat),n+f<=p0.size->DOk lt p0 p n q->DOk lt p0 (evT lt (kas_desc f p n q)).1 (evT lt (kas_desc f p n q)).2.1 (evT lt (kas_desc f p n q)).2.2/\n<=(evT lt (kas_desc f p n q)).2.1/\(evT lt (kas_desc f p n q)).2.1<=n+f
 | 0,p,n,q,_,h=>⟨h,Nat.le_refl _,Nat.le_refl _⟩
 | f+1,p,n,q,hf,h=>by
  have one:∀(p1:Array Nat),p1.size=p0.size->p1.Perm p0->Dw lt p1 (n+1)->DOk lt p0 p1 (n+1) 0:=fun p1 a b c=>⟨a,b,by omega,by omega,by omega,c,fun i j h1 h2 h3 h4=>by rw[show i=j by omega];exact S.irr _⟩
  have ext:lt (p.getD (n - 1) 0) (p.getD n 0)=false->Dw lt p (n+1):=fun c i j hij hj=>by
   rcases Nat.lt_or_ge j n with z|z
   ·exact h.dw i j hij z
   ·have:j=n:=by omega
    subst this
    rcases Nat.lt_or_ge i j with z|z
    ·exact S.nt _ _ _ (h.dw i (j - 1) (by omega) (by omega)) c
    ·rw[show i=j by omega];exact S.irr _
  have n1:=h.n1
  have qn:=h.qn
  unfold kas_desc
  simp only[evT]
  cases c:lt (p.getD n 0) (p.getD (n - 1) 0) with
  | true =>
   have dw1:=ext (S.asy _ _ c)
   simp only[if_true]
   by_cases hq:q > 0
   ·simp only[if_pos hq]
    have r:=one (kas_rev p (n - (q+1)) n) ((W8 ..).trans h.sz) ((J2 ..).trans h.pm) (aT0 (by rw[h.sz];exact h.nz) (by omega) dw1 h.eq)
    obtain⟨a,b,d⟩:=t6 S f _ (n+1) 0 (by omega) r
    exact⟨a,by omega,by omega⟩
   ·simp only[if_neg hq]
    obtain⟨a,b,d⟩:=t6 S f p (n+1) 0 (by omega) (one p h.sz h.pm dw1)
    exact⟨a,by omega,by omega⟩
  | false =>
   simp only[xft,if_false,evT]
   cases d:lt (p.getD (n - 1) 0) (p.getD n 0) with
   | true=>simp only[if_true,evT];exact⟨h,Nat.le_refl _,by omega⟩
   | false =>
    simp only[xft,if_false]
    have r:DOk lt p0 p (n+1) (q+1):=⟨h.sz,h.pm,by omega,by omega,by omega,ext d,fun i j h1 h2 h3 h4=>by
     have up:∀i,n - (q+1)<=i->i < n->lt (p.getD i 0) (p.getD n 0)=false/\lt (p.getD n 0) (p.getD i 0)=false:=fun i a b=>⟨S.nt _ _ _ (h.eq i (n - 1) a b (by omega) (by omega)) d,S.nt _ _ _ c (h.eq (n - 1) i (by omega) (by omega) a b)⟩
     rcases Nat.lt_or_ge i n with z|z
     ·rcases Nat.lt_or_ge j n with y|y
      ·exact h.eq i j (by omega) z (by omega) y
      ·rw[show j=n by omega];exact(up i (by omega) z).1
     ·rcases Nat.lt_or_ge j n with y|y
      ·rw[show i=n by omega];exact(up j (by omega) y).2
      ·rw[show i=n by omega,show j=n by omega];exact S.irr _⟩
    obtain⟨a,b,e⟩:=t6 S f p (n+1) (q+1) (by omega) r
    exact⟨a,by omega,by omega⟩
structure COk (lt:Nat->Nat->Bool) (p0:Array Nat) (nrem:Nat) (r:Nat×Array Nat):Prop where
 sz:r.2.size=p0.size
 pm:r.2.Perm p0
 m1:1<=r.1
 mn:r.1<=nrem
 up:Up lt r.2 r.1
theorem am3(S:SW lt) {p0 p:Array Nat}{n nrem:Nat}(h1:1<=n) (hn:n<=nrem) (hz:nrem<=p0.size) (sz:p.size=p0.size) (pm:p.Perm p0) (dw:Dw lt p n):COk lt p0 nrem (evT lt (kas_tail3 n nrem p)):=by
 unfold kas_tail3
 rw[P1]
 have up:Up lt (kas_rev p 0 n) n:=fun i j hij hj=>by
  rw[N3 (by omega),N3 (by omega),if_pos ⟨by omega,hj⟩,if_pos ⟨by omega,by omega⟩]
  exact dw _ _ (by omega) (by omega)
 obtain⟨a,b,c,_⟩:=ay8 S (nrem - n) n h1 up
 exact⟨(W8 ..).trans sz,(J2 ..).trans pm,by show 1<=evT lt (kas_asc _ _ _);omega,by show evT lt (kas_asc _ _ _)<=nrem;omega,c⟩
theorem aq9(S:SW lt) {p0 p:Array Nat}{n nrem:Nat}(h1:1<=n) (hn:n+1<=nrem) (hz:nrem<=p0.size) (sz:p.size=p0.size) (pm:p.Perm p0) (dw:Dw lt p (n+1)):COk lt p0 nrem (evT lt (kas_descPart n nrem p)):=by
 unfold kas_descPart
 rw[P1]
 obtain⟨d,a,b⟩:=t6 S (p0:=p0) (nrem - (n+1)) p (n+1) 0 (by omega) ⟨sz,pm,by omega,by omega,by omega,dw,fun i j _ _ _ _=>by rw[show i=j by omega];exact S.irr _⟩
 generalize evT lt (kas_desc (nrem - (n+1)) p (n+1) 0)=r at d a b
 obtain⟨p1,n1,q1⟩:=r
 simp only at d a b ⊢
 split
 ·exact am3 S d.n1 (by omega) hz ((W8 ..).trans d.sz) ((J2 ..).trans d.pm) (aT0 (by rw[d.sz];exact d.nz) (Nat.le_refl _) d.dw d.eq)
 ·exact am3 S d.n1 (by omega) hz d.sz d.pm d.dw
theorem bf0(S:SW lt) {p:Array Nat}{nrem:Nat}(h1:1<=nrem) (hz:nrem<=p.size):COk lt p nrem (evT lt (kas_count nrem p)):=by
 unfold kas_count
 rw[P1]
 obtain⟨a,b,c,d⟩:=ay8 S (p:=p) (nrem - 1) 1 (Nat.le_refl _) (fun i j h1 h2=>by rw[show i=j by omega];exact S.irr _)
 generalize evT lt (kas_asc p (nrem - 1) 1)=n at a b c d
 by_cases e:n=nrem
 ·rw[if_pos (by rw[e];exact beq_self_eq_true _)]
  exact⟨rfl,Array.Perm.refl _,a,by show n<=nrem;omega,c⟩
 ·rw[if_neg (by intro z;exact e (eq_of_beq z))]
  have dn:=d (by omega)
  have key:∀q:Array Nat,q.size=p.size->q.Perm p->Dw lt q n->(∀i,i < n->lt (q.getD i 0) (p.getD (n - 1) 0)=false/\q.getD n 0=p.getD n 0)->COk lt p nrem (evT lt (kas_descPart n nrem q)):=fun q sz pm dw h=>aq9 S a (by omega) hz sz pm fun i j hij hj=>by
   rcases Nat.lt_or_ge j n with z|z
   ·exact dw i j hij z
   ·have:j=n:=by omega
    subst this
    rcases Nat.lt_or_ge i j with z|z
    ·rw[(h i z).2]
     exact S.nt _ _ _ (h i z).1 (S.asy _ _ dn)
    ·rw[show i=j by omega];exact S.irr _
  by_cases g:n > 1
  ·rw[if_pos g]
   show COk lt p nrem (evT lt (if lt (p.getD 0 0) (p.getD (n - 1) 0)=true then .ret (n,p) else kas_descPart n nrem (kas_rev p 0 n)))
   cases z:lt (p.getD 0 0) (p.getD (n - 1) 0) with
   | true =>
    rw[if_pos rfl]
    exact⟨rfl,Array.Perm.refl _,a,by show n<=nrem;omega,c⟩
   | false =>
    rw[if_neg (by simp)]
    have all:∀i j,i < n->j < n->lt (p.getD i 0) (p.getD j 0)=false:=fun i j hi hj=>S.nt _ _ _ (c 0 i (by omega) hi) (S.nt _ _ _ z (c j (n - 1) (by omega) (by omega)))
    refine key _ (W8 ..) (J2 ..) (fun i j hij hj=>?_) fun i hi=>⟨?_,?_⟩
    ·rw[N3 (by omega),N3 (by omega),if_pos ⟨by omega,by omega⟩,if_pos ⟨by omega,hj⟩]
     exact all _ _ (by omega) (by omega)
    ·rw[N3 (by omega),if_pos ⟨by omega,by omega⟩]
     exact all _ _ (by omega) (by omega)
    ·rw[N3 (by omega),if_neg (by omega)]
  ·rw[if_neg g]
   have:n=1:=by omega
   subst this
   exact key p rfl (Array.Perm.refl _) (fun i j hij hj=>by rw[show i=j by omega];exact S.irr _) fun i hi=>⟨by rw[show i=0 by omega];exact S.irr _,rfl⟩
theorem y6(S:SW lt) {p:Array Nat}{k:Nat}(up:Up lt p k):∀(f l r:Nat),r - l<=f->l<=r->r<=k->(∀i,i < l->lt (p.getD k 0) (p.getD i 0)=false)->(∀i,r<=i->i < k->lt (p.getD k 0) (p.getD i 0)=true)->evT lt (kas_place p k f l r)<=k/\(∀i,i < evT lt (kas_place p k f l r)->lt (p.getD k 0) (p.getD i 0)=false)/\∀i,evT lt (kas_place p k f l r)<=i->i < k->lt (p.getD k 0) (p.getD i 0)=true
 | 0,l,r,hf,hl,hr,h1,h2=>⟨by show l<=k;omega,h1,fun i a b=>h2 i (by have:l<=i:=a;omega) b⟩
 | f+1,l,r,hf,hl,hr,h1,h2=>by
  unfold kas_place
  by_cases g:l ≥ r
  ·rw[if_pos g]
   exact⟨by show l<=k;omega,h1,fun i a b=>h2 i (by have:l<=i:=a;omega) b⟩
  ·rw[if_neg g]
   simp only[evT]
   cases c:lt (p.getD k 0) (p.getD ((l+r) / 2) 0) with
   | true =>
    simp only[if_true]
    refine y6 S up f l ((l+r) / 2) (by omega) (by omega) (by omega) h1 fun i a b=>?_
    rcases Nat.lt_or_ge i r with z|z
    ·cases d:lt (p.getD k 0) (p.getD i 0) with
     | true=>rfl
     | false =>
      have:=S.nt _ _ _ d (up ((l+r) / 2) i a b)
      rw[c]at this;cases this
    ·exact h2 i z b
   | false =>
    simp only[xft,if_false]
    refine y6 S up f ((l+r) / 2+1) r (by omega) (by omega) hr (fun i a=>?_) h2
    exact S.nt _ _ _ c (up i ((l+r) / 2) (by omega) (by omega))
theorem aH8{p:Array Nat}{k d:Nat}(hk:k < p.size) (hd:d<=k) (i:Nat):(bubble p k d).getD i 0=if i=k - d then p.getD k 0 else if k - d < i/\i<=k then p.getD (i - 1) 0 else p.getD i 0:=by
 rw[Array.getD_eq_getD_getElem?,Array.getD_eq_getD_getElem?,Array.getD_eq_getD_getElem?,Array.getD_eq_getD_getElem?,getElem?_bubble hk d hd]
 split
 ·rfl
 ·split<;>rfl
theorem bf9(S:SW lt) {p0:Array Nat}:∀(f:Nat) (p:Array Nat) (k:Nat),k+f<=p0.size->p.size=p0.size->p.Perm p0->Up lt p k->(evT lt (kas_bin f p k)).size=p0.size/\(evT lt (kas_bin f p k)).Perm p0/\Up lt (evT lt (kas_bin f p k)) (k+f)
 | 0,p,k,_,sz,pm,up=>⟨sz,pm,up⟩
 | f+1,p,k,hk,sz,pm,up=>by
  unfold kas_bin
  rw[P1]
  obtain⟨a,b,c⟩:=y6 S up k 0 k (by omega) (by omega) (Nat.le_refl _) (fun i h=>by omega) (fun i h1 h2=>by omega)
  generalize evT lt (kas_place p k k 0 k)=x at a b c
  have up':Up lt (bubble p k (k - x)) (k+1):=fun i j hij hj=>by
   rw[aH8 (by omega) (by omega),aH8 (by omega) (by omega),show k - (k - x)=x by omega]
   rcases Nat.lt_trichotomy j x with z|z|z
   ·rw[if_neg (by omega),if_neg (by omega),if_neg (by omega),if_neg (by omega)]
    exact up i j hij (by omega)
   ·rw[if_pos z]
    rcases Nat.lt_or_ge i x with y|y
    ·rw[if_neg (by omega),if_neg (by omega)];exact b i y
    ·rw[if_pos (by omega)];exact S.irr _
   ·rw[if_neg (by omega),if_pos ⟨z,by omega⟩]
    rcases Nat.lt_trichotomy i x with y|y|y
    ·rw[if_neg (by omega),if_neg (by omega)];exact up i (j - 1) (by omega) (by omega)
    ·rw[if_pos y];exact S.asy _ _ (c (j - 1) (by omega) (by omega))
    ·rw[if_neg (by omega),if_pos ⟨y,by omega⟩];exact up (i - 1) (j - 1) (by omega) (by omega)
  have:=bf9 S f (bubble p k (k - x)) (k+1) (by omega) ((bubble_size ..).trans sz) ((bubble_perm ..).trans pm) up'
  rw[show k+(f+1)=k+1+f by omega]
  exact this
theorem ah2(S:SW lt) {n:Nat}(hn:1<=n):(evT lt (kas_sort n)).size=n/\(evT lt (kas_sort n)).Perm (List.toArray (List.range n))/\Up lt (evT lt (kas_sort n)) n:=by
 unfold kas_sort
 rw[P1]
 have hz:(List.toArray (List.range n)).size=n:=by simp
 have c:=bf0 S (p:=List.toArray (List.range n)) hn (by rw[hz];exact Nat.le_refl _)
 generalize evT lt (kas_count n (List.toArray (List.range n)))=r at c
 obtain⟨m,p⟩:=r
 obtain⟨sz,pm,m1,mn,up⟩:=c
 simp only at sz pm m1 mn up ⊢
 rw[Nat.max_eq_left m1]
 split
 ·obtain⟨a,b,d⟩:=bf9 S (n - m) p m (by rw[hz];omega) sz pm up
  rw[show m+(n - m)=n by omega]at d
  exact⟨a.trans hz,b,d⟩
 ·have:m=n:=by omega
  subst this
  exact⟨sz.trans hz,pm,up⟩
end
end G
namespace G
open PySem PySem.Spec PyProof.Rows L2
abbrev FnD:=List D->Option D
structure Sg where
 fn:List (Str×FnD×Nat)
 cs:List (Str×D)
 bl:List Str
structure Kx where
 N:List Str
 sc:Scope
 df:Bool
 own:List Nat
 cpt:List Nat
 tx:List Nat
 dx:List Nat
 old:Bool
 fz:List (Nat×List Nat)
 hc:List ((Nat×Nat)×List Nat)
def biS(K:PySem.W.Frag) (n:Nat) (F:List D->Option D):List V->Hp->VK->Prop:=fun vs H Q=>vs.length=n/\∃Hf ds d,B5 Hf H/\Reps K Hf ds vs/\F ds=some d/\∀v H' Hf',Grow H Hf H' Hf'->Rep K Hf' d v->Q v H'
def bh1(x:Str) (F:FnD) (n:Nat):Prop:=0 < n/\x ≠ "__name__" /\ ∃nm,bootBuiltins x=some (.builtin nm)/\∀X:Cx,X.A.units+64 < cLine->G6 X (.builtin nm) (biS X.K n F)
theorem bY0(hb:bh1 x F n) (hu:X.A.units+64 < cLine) (hg:Gl X x) (hm:X.mg x=none) (ha:JA X (e::es) g) (hn:(e::es).length=n) (hdb:(x==("__debug__" : Str))=false)
  (he:starEach (e::es) X.env=(false,eval e X.env)::starEach es X.env) (hpl:(backTo pos (starEach es X.env)).any (·.1)=false):JE X (.Call (.Name x p) (e::es) [] pos) (A3 F g):=fun ρ d q=>by
 obtain⟨ds,h1,h2⟩:=Option.bind_eq_some_iff.mp q
 obtain⟨_,hnn,nm,hv,hc⟩:=hb
 refine A9 (F4 (hc X hu) hg hm hv (ha.run ρ ds h1) hnn hdb he hpl) fun σ H Q ⟨H0,Hf,s,sl,kk⟩=>?_
 exact⟨H0,Hf,s,sl,fun vs H1 Hf1 g1 r1=>⟨by rw[r1.length,ha.len ρ ds h1,hn],Hf1,ds,d,g1.sub,r1,h2,fun v H2 Hf2 g2 r2=>kk v H2 Hf2 (g1.trans g2) r2⟩⟩
def ce1(X:Cx) (x:Str) (F:FnD) (n:Nat):Prop:=(∃(k:Nat) (f:Addr) (fd:FuncData) (ps:List Str),FnOk X.prog X.w X.K X.mg X.base CX0 k f fd ps (spF X.K n F)/\Room k X.A/\X.mg x=some (.ref f)/\PySem.W.keepIn X.K (.ref f)=true/\K1 X.K fd ps [])\/(X.mg x=none/\bh1 x F n)
structure Fit (S:Sg) (c:Kx) (X:Cx):Prop where
 N:X.N=c.N
 sc:X.env.scope=c.sc
 nd:c.N.Nodup
 calm:X.calm=true
 xe:X.xe=fun _ _=>False
 units:X.A.units+64 < cLine
 df:c.df=true->(∀x,X.fn x=true)/\c.sc.kind=.function
 fns:∀x F n,S.fn.lookup x=some (F,n)->ce1 X x F n
 css:∀x d,S.cs.lookup x=some d->∃u,az6 X.K d u/\X.mg x=some u
 bls:∀x,S.bl.contains x=true->X.mg x=none
def pl:Expr->Bool
 | .Starred ..=>false
 | .Slice ..=>false
 | .Set ..=>false
 | _=>true
def av9:Expr->Bool
 | .Call ..=>false
 | _=>true
def isC:Expr->Bool
 | .ListComp ..=>true
 | .SetComp ..=>true
 | .DictComp ..=>true
 | _=>false
def plT:Expr->Bool
 | .UnaryOp ..=>false
 | .BoolOp ..=>false
 | .IfExp ..=>false
 | .Compare ..=>false
 | _=>true
def Q3(x:Str):List Str->Option Nat
 | []=>none
 | y::r=>if y==x then some 0 else(Q3 x r).map (·+1)
theorem ap8:∀{l:List Str}{i:Nat},Q3 x l=some i->l[i]? = some x
 | [],i,h=>by cases h
 | y::r,i,h=>by
  unfold Q3 at h
  split at h
  ·rename_i e
   cases h
   simp only[beq_iff_eq]at e
   subst e;rfl
  ·obtain⟨j,h1,h2⟩:=Option.map_eq_some_iff.mp h
   subst h2
   simpa using ap8 h1
def V2:List Str->Bool
 | []=>true
 | x::r=>!(r.contains x)&&V2 r
theorem T5:∀{l:List Str},V2 l=true->l.Nodup
 | [],_=>List.nodup_nil
 | x::r,h=>by
  unfold V2 at h
  simp only[Bool.and_eq_true,Bool.not_eq_true']at h
  refine List.nodup_cons.mpr ⟨fun z=>?_,T5 h.2⟩
  have:=h.1
  rw[List.contains_iff_mem.mpr z]at this
  cases this
def ag5(sc:Scope) (x:Str):Bool:=(match sc.names.lookup x with|some .local=>true|some .cell=>true|some .free=>true|_=>false) && !(x==("__debug__" : Str)) && !(x==("__classdict__" : Str))
def aM4(c:Kx) (x:Str):Bool:=(match c.sc.names.lookup x with|some .local=>true|some .cell=>c.df|_=>false)
def V9(sc:Scope) (x:Str):Bool:=(match sc.names.lookup x with|some .globalImplicit=>true|_=>false) && !(x==("__debug__" : Str))
def biB(S:Sg) (c:Kx) (w x:Str):Bool:=x==w&&S.bl.contains w&&V9 c.sc w
section
variable {X:Cx}{S:Sg}{c:Kx}
theorem P7(F:Fit S c X) (h:ag5 c.sc x=true):Vis X.env.scope x/\(x==("__debug__" : Str))=false/\(x==("__classdict__" : Str))=false:=by
 unfold ag5 at h
 simp only[Bool.and_eq_true,Bool.not_eq_true']at h
 obtain⟨⟨h1,h2⟩,h3⟩:=h
 refine⟨?_,h2,h3⟩
 rw[F.sc]
 unfold Vis
 split at h1
 ·rename_i e;exact .inl e
 ·rename_i e;exact .inr (.inl e)
 ·rename_i e;exact .inr (.inr e)
 ·cases h1
theorem aj5(F:Fit S c X) (h:aM4 c x=true):L2.Loc X.env.scope x/\(X.fn x=true\/X.env.scope.names.lookup x=some .local):=by
 unfold aM4 at h
 rw[F.sc]
 unfold L2.Loc
 split at h
 ·rename_i e;exact⟨.inl e,.inr e⟩
 ·rename_i e;exact⟨.inr e,.inl ((F.df h).1 x)⟩
 ·cases h
theorem N5(F:Fit S c X) (h:V9 c.sc x=true):Gl X x/\(x==("__debug__" : Str))=false:=by
 unfold V9 at h
 simp only[Bool.and_eq_true,Bool.not_eq_true']at h
 refine⟨?_,h.2⟩
 unfold Gl Env.kindOf
 rw[F.sc]
 have h1:=h.1
 split at h1
 ·rename_i e;exact e
 ·cases h1
theorem E5(F:Fit S c X) (h:biB S c w x=true):x=w/\Gl X w/\X.mg w=none:=by
 unfold biB at h
 simp only[Bool.and_eq_true,beq_iff_eq]at h
 exact⟨h.1.1,(N5 F h.2).1,F.bls _ h.1.2⟩
theorem E1(h:pl e=true) (es:List Expr) (env:Env):starEach (e::es) env=(false,eval e env)::starEach es env:=by
 cases e<;>first|rfl|cases h
theorem bw8(h:pl e=true):u3 e:=by
 intro o i
 cases e<;>first|rfl|cases h
theorem T4(h:pl e=true) (op:CmpOp):behindInMarks op e=false:=by
 cases e<;>first|rfl|cases h
theorem ai8(h:pl e=true) (env:Env) (x:Value):foldedSetIterable e env x=pure x:=by
 cases e<;>first|rfl|cases h
theorem k7(h:av9 o=true) (attr:Str) (env:Env) (t:Sem Value):attributeBase o attr env t=t:=by
 cases o<;>first|rfl|cases h
theorem X1(h:isC e=false) (t:Option Expr) (l:Nat) (env:Env):swapsWith e t l env=pure false:=by
 cases e<;>first|rfl|cases h
theorem an9(h:plT e=true) (env:Env) (whole:Sem Value):isTrue e env whole=(do let v ← whole;standAt e.pos;holding [v] (truthy v)):=by
 cases e<;>first|rfl|cases h
end
end G
namespace G
open PySem PySem.Spec PySem.W PyProof.Rows L2 PySem.SeqAt
def Ask(n:Nat) {α:Type}(P:α->Prop):KasT α->Prop
 | .ret a=>P a
 | .ask i j k=>i < n/\j < n/\∀b,Ask n P (k b)
theorem Ask.bind{n:Nat}{α β:Type}{P:α->Prop}{P':β->Prop}{f:α->KasT β}(hf:∀a,P a->Ask n P' (f a)):∀{t:KasT α},Ask n P t->Ask n P' (t.bind f)
 | .ret a,h=>hf a h
 | .ask i j k,h=>⟨h.1,h.2.1,fun b=>Ask.bind hf (h.2.2 b)⟩
theorem Ask.ite{n:Nat}{α:Type}{P:α->Prop}{c:Prop} [Decidable c] {s t:KasT α}(h1:Ask n P s) (h2:Ask n P t):Ask n P (if c then s else t):=by split<;>assumption
def LoP(n:Nat) (p:Array Nat):Prop:=p.size=n/\∀x∈p,x < n
section
variable {n:Nat}(hn:0 < n)
include hn
theorem LoP.get{p:Array Nat}(h:LoP n p) (k:Nat):p.getD k 0 < n:=by
 rw[Array.getD_eq_getD_getElem?]
 rcases Nat.lt_or_ge k p.size with q|q
 ·rw[Array.getElem?_eq_getElem q];exact h.2 _ (Array.getElem_mem q)
 ·rw[Array.getElem?_eq_none q];exact hn
omit hn in
theorem LoP.perm{p q:Array Nat}(h:LoP n p) (e:q.Perm p):LoP n q:=⟨e.size_eq.trans h.1,fun x hx=>h.2 x (e.mem_iff.mp hx)⟩
theorem ay9{p:Array Nat}(h:LoP n p):∀(f m:Nat),Ask n (fun _=>True) (kas_asc p f m)
 | 0,_=>trivial
 | f+1,m=>⟨h.get hn _,h.get hn _,fun b=>.ite (c:=b=true) trivial (ay9 h f (m+1))⟩
theorem t7:∀(f:Nat) (p:Array Nat) (m q:Nat),LoP n p->Ask n (fun r:Array Nat×Nat×Nat=>LoP n r.1) (kas_desc f p m q)
 | 0,_,_,_,h=>h
 | f+1,p,m,q,h=>⟨h.get hn _,h.get hn _,fun b=>.ite (c:=b=true) (.ite (t7 f _ _ _ (h.perm (J2 ..))) (t7 f _ _ _ h)) ⟨h.get hn _,h.get hn _,fun d=>.ite (c:=d=true) h (t7 f _ _ _ h)⟩⟩
theorem am4{p:Array Nat}(m r:Nat) (h:LoP n p):Ask n (fun r:Nat×Array Nat=>LoP n r.2) (kas_tail3 m r p):=by
 unfold kas_tail3
 refine Ask.bind (P:=fun _=>True) (fun m _=>?_) (ay9 hn (h.perm (J2 ..)) _ _)
 exact h.perm (J2 ..)
theorem l6{p:Array Nat}(m r:Nat) (h:LoP n p):Ask n (fun r:Nat×Array Nat=>LoP n r.2) (kas_descPart m r p):=by
 unfold kas_descPart
 exact Ask.bind (fun x hx=>Ask.ite (am4 hn _ _ (LoP.perm hx (J2 ..))) (am4 hn _ _ hx)) (t7 hn _ _ _ _ h)
theorem bf1{p:Array Nat}(r:Nat) (h:LoP n p):Ask n (fun r:Nat×Array Nat=>LoP n r.2) (kas_count r p):=by
 unfold kas_count
 refine Ask.bind (fun m _=>?_) (ay9 hn h _ _)
 refine Ask.ite h (Ask.ite ⟨h.get hn _,h.get hn _,fun b=>?_⟩ (l6 hn _ _ h))
 exact Ask.ite (c:=b=true) h (l6 hn _ _ (h.perm (J2 ..)))
theorem y8{p:Array Nat}(h:LoP n p) (k:Nat):∀(f l r:Nat),Ask n (fun _=>True) (kas_place p k f l r)
 | 0,_,_=>trivial
 | f+1,l,r=>.ite (c:=l ≥ r) trivial ⟨h.get hn _,h.get hn _,fun b=>.ite (c:=b=true) (y8 h k f _ _) (y8 h k f _ _)⟩
theorem bg0:∀(f:Nat) (p:Array Nat) (k:Nat),LoP n p->Ask n (LoP n) (kas_bin f p k)
 | 0,_,_,h=>h
 | f+1,p,k,h=>by
  unfold kas_bin
  exact Ask.bind (fun l _=>bg0 f _ _ (h.perm (bubble_perm ..))) (y8 hn h k _ _ _)
theorem ah3:Ask n (LoP n) (kas_sort n):=by
 unfold kas_sort
 refine Ask.bind (fun r hr=>?_) (bf1 hn n (show LoP n (List.toArray (List.range n)) from⟨by simp,fun x hx=>by simpa using hx⟩))
 exact Ask.ite (bg0 hn _ _ _ hr) hr
end
theorem t9{n:Nat}{α:Type}{P:α->Prop}{cmp:Nat->Nat->(Bool->Shared->Prop)->Shared->Prop}{lt:Nat->Nat->Bool}{Q:α->Shared->Prop}{s:Shared}(hc:∀i j C,i < n->j < n->C (lt i j) s->cmp i j C s):∀{t:KasT α},Ask n P t->(P (evT lt t)->Q (evT lt t) s)->t.kasWp cmp Q s
 | .ret a,h,q=>q h
 | .ask i j k,h,q=>hc i j _ h.1 h.2.1 (t9 hc (h.2.2 _) q)
section
variable {prog:Program}{w:World}{A:Around}{E:Value->Shared->Prop}{s:Shared}
theorem l8{T:String}{l:Addr}{o:Obj}{vs:List Value}{n:Nat}{Q:List Value->Shared->Prop}(hT:T = "list" \/ T = "tuple") (ho:s.heap.get? l=some o) (hc:o.cls=.type T) (hd:o.data=.seq vs.toArray n)
  (h:Q vs { s with heap:=(s.heap.push (seqObj "list" #[] 0)).update s.heap.objs.size (Obj.mapSeq (·++vs.toArray)) }) (hsz:vs.length<=sizeLine) :
  wpAny (model prog w) A (collect (.ref l)) Q E s:=by
 unfold collect
 refine wpAny_bind (wpAny_runValue (codeAny_builtin entry_proto_collect' ?_))
 show wpAny _ _ (do again (.builtin "list.__iadd__" ⟨[← newList [],.ref l],[]⟩)) _ _ s
 refine wpAny_bind (wpAny_newList (wpAny_pure ⟨Code.quiet_builtin _ (by decide +kernel),codeAny_builtin entry_list_iadd' ?_⟩))
 show wpAny _ _ (Builtin.List.listExtendWith (.ref s.heap.objs.size) (.ref l) (.ref s.heap.objs.size)) _ _ { s with heap:=s.heap.push (seqObj "list" #[] 0) }
 unfold Builtin.List.listExtendWith
 have ho':(s.heap.push (seqObj "list" #[] 0)).get? l=some o:=Heap.get?_push_of_some _ ho
 refine wpAny_bind (wpAny_typeOf (T:=T) ⟨o,ho',hc⟩ ?_)
 rw[if_pos (by
  have t1:(Value.type "list" == Value.type "list")=true:=by rfl
  have t2:(Value.type "tuple" == Value.type "tuple")=true:=by rfl
  rcases hT with rfl|rfl
  ·rw[t1];simp
  ·rw[t2];simp)]
 refine wpAny_bind (listItems_at ho' hd ?_)
 refine wpAny_bind (listItems_at (xs:=#[]) (n:=0) (Heap.get?_push_size _ rfl) rfl ?_)
 rw[if_neg (by simp)]
 refine wpAny_bind (listUpdate_at (xs:=#[]) (n:=0) (Heap.get?_push_size _ rfl) rfl ?_ (Nat.zero_le _) (by show(#[]++vs.toArray).size<=sizeLine+1;simp only[Array.size_append,List.size_toArray,List.length_nil];omega))
 refine wpAny_pure ?_
 show wpAny (model prog w) A (do
   let o ← load s.heap.objs.size
   match o.data with
   | .seq xs _=>pure xs.toList
   | _=>unsupported "internal:collect") Q E { s with heap:=(s.heap.push (seqObj "list" #[] 0)).update s.heap.objs.size (Obj.mapSeq (·++vs.toArray)) }
 refine wpAny_bind (wpAny_load (get?_update_seq (Heap.get?_push_size _ rfl) _) ?_)
 show wpAny _ _ (pure ((#[]:Array Value)++vs.toArray).toList) Q E _
 rw[show((#[]:Array Value)++vs.toArray).toList=vs by simp]
 exact wpAny_pure h
theorem ap1{a:Addr}{vs out:List Value}{n:Nat}{P:PySem.Fin->Shared->Prop}(ho:s.heap.get? a=some (seqObj "list" vs.toArray n)) (h64:vs.length < 64) (h1:vs.length < 2->out=vs)
  (hk:2<=vs.length->∀h':Heap,(∀b o,b≠a->s.heap.get? b=some o->h'.get? b=some o) ->
   wpAny (model prog w) A (keyKind' vs.toArray) (fun κ s'=>(kas_sort vs.length).kasWp (kas_ask prog w A κ vs) (fun p s''=>s''={ s with heap:=h' }/\(p.toList.map fun i=>vs.getD i Value.none)=out) s') (fun _ _=>False) { s with heap:=h' })
  (h:∀h' c,(∀b o,b≠a->s.heap.get? b=some o->h'.get? b=some o)->h'.get? a=some (seqObj "list" out.toArray c)->P (.done (.ret .none)) { s with heap:=h' }) :
  wpAny (model prog w) A (Builtin.«list.sort» ⟨[.ref a],[]⟩) P E s:=by
 have ha:a < s.heap.objs.size:=Heap.lt_size ho
 have hsz:vs.toArray.size=vs.length:=by simp
 obtain⟨e1,ho1⟩:∃e1,(s.heap.update a (Obj.mapSeq fun _=>(#[]:Array Value))).get? a=some (seqObj "list" #[] e1):=⟨_,get?_update_seq ho fun _=>#[]⟩
 have s1:=Heap.SameBut.update s.heap a (Obj.mapSeq fun _=>(#[]:Array Value))
 rw[list_sort_plain]
 refine wpAny_bind (listItems_at ho rfl ?_)
 refine wpAny_bind (listUpdate_at ho rfl ?_ (by rw[List.size_toArray,sizeLine_eq];omega) (Nat.zero_le _))
 refine wpAny_bind (seqEpoch_at ho1 rfl ?_)
 refine wpAny_bind (wpAny_newTuple ?_ (by show vs.length<=_;rw[sizeLine_eq];omega))
 refine wpAny_bind (wpAny_newList ?_ (Nat.zero_le _))
 refine wpAny_holding ?_
 have keep:∀b o,b≠a->s.heap.get? b=some o->(((s.heap.update a (Obj.mapSeq fun _=>(#[]:Array Value))).push (seqObj "tuple" vs.toArray 0)).push (seqObj "list" #[] 0)).get? b=some o:=fun b o hb q =>
  Heap.get?_push_of_some _ (Heap.get?_push_of_some _ (s1.extBut b o hb q))
 have ho3:(((s.heap.update a (Obj.mapSeq fun _=>(#[]:Array Value))).push (seqObj "tuple" vs.toArray 0)).push (seqObj "list" #[] 0)).get? a=some (seqObj "list" #[] e1):=Heap.get?_push_of_some _ (Heap.get?_push_of_some _ ho1)
 show wpAny _ _ _ _ _ { s with heap:=((s.heap.update a (Obj.mapSeq fun _=>(#[]:Array Value))).push (seqObj "tuple" vs.toArray 0)).push (seqObj "list" #[] 0) }
 generalize ((s.heap.update a (Obj.mapSeq fun _=>(#[]:Array Value))).push (seqObj "tuple" vs.toArray 0)).push (seqObj "list" #[] 0)=h3 at keep ho3
 have fin:∃c,(h3.update a (Obj.mapSeq fun _=>out.toArray)).get? a=some (seqObj "list" out.toArray c):=⟨_,get?_update_seq ho3 fun _=>out.toArray⟩
 obtain⟨c,hc⟩:=fin
 have keep':∀b o,b≠a->s.heap.get? b=some o->(h3.update a (Obj.mapSeq fun _=>out.toArray)).get? b=some o:=fun b o hb q=>(Heap.SameBut.update h3 a _).extBut b o hb (keep b o hb q)
 by_cases h2:vs.toArray.size < 2
 ·rw[if_pos h2,if_pos h2]
  refine wpAny_bind (wpAny_pure ?_)
  dsimp only
  rw[StateT.run_pure]
  refine wpAny_bind (wpAny_pure ?_)
  dsimp only
  have ez:(arrOf (SortSt.mk' general' (vs.toArray.zip vs.toArray) #[] 7 none)).map (·.2)=out.toArray:=by
   rw[h1 (by omega)]
   show(vs.toArray.zip vs.toArray).map (·.2)=vs.toArray
   apply Array.toList_inj.mp
   simp[List.map_snd_zip]
  rw[ez]
  refine wpAny_bind (seqEpoch_at ho3 rfl ?_)
  refine wpAny_bind (listUpdate_at ho3 rfl ?_ (Nat.zero_le _) (by rw[List.size_toArray,sizeLine_eq,h1 (by omega)];omega))
  show wpAny _ _ _ _ _ _
  simp only[bne_self_eq_false,xft,if_false]
  exact wpAny_pure (h _ c keep' hc)
 ·rw[if_neg h2,if_neg h2]
  refine wpAny_bind (wpAny_mono (hk (by omega) h3 keep) (fun κ s' hκ=>?_) fun _ _ x=>x.elim)
  refine wpAny_bind (wpAny_mono (kat_run (E:=E) (Q:=fun st' s''=>∃p:Array Nat,p.size=vs.length/\arrOf st'=p.map (kas_item (vs.toArray.zip vs.toArray))/\failedOf st'=none/\s''={ s with heap:=h3 }/\(p.toList.map fun i=>vs.getD i Value.none)=out) rfl (by omega) h64
   (fun p st' s'' a1 a2 a3 a4=>⟨p,a1,a2,a3,a4⟩) hκ) ?_ fun _ _ e=>e)
  rintro⟨⟨⟩,st'⟩ s'' ⟨p,hp,har,hf,rfl,e⟩
  dsimp only
  have ez:=kat_snds rfl har
  have hol:out.length=vs.length:=by rw[← e,List.length_map,Array.length_toList,hp]
  rw[e]at ez
  rw[ez]
  refine wpAny_bind (seqEpoch_at ho3 rfl ?_)
  refine wpAny_bind (listUpdate_at ho3 rfl ?_ (Nat.zero_le _) (by rw[List.size_toArray,sizeLine_eq];omega))
  rw[hf]
  simp only[bne_self_eq_false,xft,if_false]
  exact wpAny_pure (h _ c keep' hc)
theorem ad7{T:String}{l:Addr}{o:Obj}{vs out:List Value}{n:Nat}{Q:Value->Shared->Prop}(hT:T = "list" \/ T = "tuple") (ho:s.heap.get? l=some o) (hc:o.cls=.type T) (hd:o.data=.seq vs.toArray n) (h64:vs.length < 64) (h1:vs.length < 2->out=vs)
  (hk:2<=vs.length->∀h':Heap,(∀b o,s.heap.get? b=some o->h'.get? b=some o) ->
   wpAny (model prog w) A.in1.in1 (keyKind' vs.toArray) (fun κ s'=>(kas_sort vs.length).kasWp (kas_ask prog w A.in1.in1 κ vs) (fun p s''=>s''={ s with heap:=h' }/\(p.toList.map fun i=>vs.getD i Value.none)=out) s') (fun _ _=>False) { s with heap:=h' })
  (h:∀h' c,(∀b o,s.heap.get? b=some o->h'.get? b=some o)->h'.get? (s.heap.objs.size+1)=some (seqObj "list" out.toArray c)->Q (.ref (s.heap.objs.size+1)) { s with heap:=h' }) :
  wpAny (model prog w) A (call (.builtin "sorted") [.ref l]) Q E s:=by
 refine Calls.call_function_entry kind_sorted plain_sorted entry_sorted (args_sorted1 _) ?_
 unfold Builtin.«sorted»
 refine wpAny_bind (m:=checkCount "sorted" 1 1 _) (wpAny_pure ?_)
 refine wpAny_bind (l8 hT ho hc hd ?_ (by rw[sizeLine_eq];omega))
 refine wpAny_bind (wpAny_newList ?_ (by rw[sizeLine_eq];omega))
 have hsz:((s.heap.push (seqObj "list" #[] 0)).update s.heap.objs.size (Obj.mapSeq (·++vs.toArray))).objs.size=s.heap.objs.size+1:=by
  rw[Heap.size_update,size_push']
 have hoL:(((s.heap.push (seqObj "list" #[] 0)).update s.heap.objs.size (Obj.mapSeq (·++vs.toArray))).push (seqObj "list" vs.toArray 0)).get? (s.heap.objs.size+1)=some (seqObj "list" vs.toArray 0):=by
  rw[← hsz];exact Heap.get?_push_size _ rfl
 have keep:∀b o,s.heap.get? b=some o->(((s.heap.push (seqObj "list" #[] 0)).update s.heap.objs.size (Obj.mapSeq (·++vs.toArray))).push (seqObj "list" vs.toArray 0)).get? b=some o:=fun b o q=>by
  have hlt:b < s.heap.objs.size:=Heap.lt_size q
  rw[Heap.get?_push_ne _ _ _ (by rw[hsz];exact Nat.ne_of_lt (Nat.lt_succ_of_lt hlt)),Heap.get?_update_ne _ _ _ _ (Nat.ne_of_lt hlt),Heap.get?_push_ne _ _ _ (Nat.ne_of_lt hlt)]
  exact q
 show wpAny _ _ _ _ _ { s with heap:=((s.heap.push (seqObj "list" #[] 0)).update s.heap.objs.size (Obj.mapSeq (·++vs.toArray))).push (seqObj "list" vs.toArray 0) }
 rw[hsz]
 generalize ((s.heap.push (seqObj "list" #[] 0)).update s.heap.objs.size (Obj.mapSeq (·++vs.toArray))).push (seqObj "list" vs.toArray 0)=h3 at hoL keep
 have ne:∀b o,s.heap.get? b=some o->b≠s.heap.objs.size+1:=fun b o q=>Nat.ne_of_lt (Nat.lt_succ_of_lt (Heap.lt_size q))
 refine wpAny_bind (wpAny_holding (wpAny_call_entry slot_list_sort ⟨_,hoL,rfl⟩ entry_list_sort ?body (args_list_sort _)))
 case body =>
  refine ap1 (s:={ s with heap:=h3 }) (out:=out) hoL h64 h1 (fun h2 h' kp=>hk h2 h' fun b o q=>kp b o (ne b o q) (keep b o q)) fun h' c kp e=>⟨_,rfl,wpAny_pure ⟨_,rfl,h h' c (fun b o q=>kp b o (ne b o q) (keep b o q)) e⟩⟩
end
def tt:D->Bool
 | .tuple (.tuple _::_)=>true
 | _=>false
def ltN(ds:List D) (i j:Nat):Bool:=(ltD (ds.getD i (ds.headD .none)) (ds.getD j (ds.headD .none))).getD false
def J9(ds:List D):Option (List D) :=
 if ds.length < 2 then some ds
 else if ds.length < 64/\(ds.all fun d=>tt d&&(d.canLay0&&decide (d.depth<=60)))=true/\(ds.all fun x=>ds.all fun y=>(ltD x y).isSome)=true then
  some ((evT (ltN ds) (kas_sort ds.length)).toList.map fun i=>ds.getD i .none)
 else none
def bk1:List D->Option D:=fun l=>match l with
 | [d]=>(an3 d).bind fun q=>(J9 q.2).map PyData.list
 | _=>none
theorem al5{n:Nat}{α:Type}{P:α->Prop}(lt:Nat->Nat->Bool):∀{t:KasT α},Ask n P t->P (evT lt t)
 | .ret _,h=>h
 | .ask i j k,h=>al5 (n:=n) (P:=P) lt (t:=k (lt i j)) (h.2.2 (lt i j))
theorem aa3{prog:Program}{w:World}{A:Around}{s:Shared}{Q:Bool->Shared->Prop}{m:Nat}{fin:Bool}(hu:A.units+m < cLine):∀(xs ys:List D) (vs ws:List Value) (as bs:List Addr) (i:Nat) (c:Bool),ReadsAll s.heap vs xs as->ReadsAll s.heap ws ys bs->PyData.canLayAll0 xs=true->PyData.canLayAll0 ys=true->PyData.depthAll xs<=m ->
  ltDs xs ys=some c->fin=decide (xs.length < ys.length)->Q c s->KatLex prog w A false fin Q (vs.zip ws) i s
 | [],[],_,_,_,_,i,c,ra,rb,_,_,_,h,hf,q=>by
  cases ra;cases rb;rw[ltDs]at h;cases h;rw[hf];exact q
 | [],y::ys,_,_,_,_,i,c,ra,rb,_,_,_,h,hf,q=>by
  cases ra;rw[ltDs]at h;cases h;rw[hf];simpa using kat_nil (by simpa using q)
 | x::xs,[],_,_,_,_,i,c,ra,rb,_,_,_,h,hf,q=>by
  cases rb;rw[ltDs]at h;cases h;rw[hf];simpa using kat_nil (by simpa using q)
 | x::xs,y::ys,_,_,_,_,i,c,ra,rb,ha,hb,hd,h,hf,q=>by
  have ha':x.canLay0=true/\PyData.canLayAll0 xs=true:=by simpa [PyData.canLayAll0] using ha
  have hb':y.canLay0=true/\PyData.canLayAll0 ys=true:=by simpa [PyData.canLayAll0] using hb
  have hd':x.depth<=m/\PyData.depthAll xs<=m:=by simp only[PyData.depthAll]at hd;omega
  rw[ltDs]at h
  cases ra with
  | cons r rs =>
   cases rb with
   | cons r' rs' =>
    rw[List.zip_cons_cons]
    refine kat_cons (eqAt_reads x y A s _ _ _ _ r r' ha'.1 hb'.1 (by have:=Nat.min_le_left x.depth y.depth;omega) prog w _ _ ?_)
    cases e:PyData.eqv x y with
    | true =>
     rw[if_pos e]at h
     exact kat_yes (aa3 hu xs ys _ _ _ _ (i+1) c rs rs' ha'.2 hb'.2 hd'.2 h (by rw[hf];simp) q)
    | false =>
     rw[if_neg (by rw[e];exact Bool.false_ne_true)]at h
     refine kat_no ?_
     rw[Bool.false_and]
     exact kat_one _ _ (V5 m x y A s _ _ _ _ c hd'.1 r r' ha'.1 hb'.1 hu h prog w _ _ q)
theorem ag6{M:Model}{h:Heap}:∀{vs:List Value}{ds:List D}{as:List Addr},ReadsAll h vs ds as->(ds.all fun d=>tt d&&(d.canLay0&&decide (d.depth<=60)))=true->∃fs,KatTups h vs fs/\fs.length=vs.length/\∀v∈fs,Looks M h (typeOf v) (.type "tuple")
 | [],_,_,r,_=>⟨[],.nil,rfl,fun v hv=>nomatch hv⟩
 | v::vs,_,_,r,ha=>by
  cases r with
  | cons r1 r2 =>
   rename_i d ds _ _
   rw[List.all_cons,Bool.and_eq_true,Bool.and_eq_true]at ha
   obtain⟨fs,h1,h2,h3⟩:=ag6 (M:=M) r2 ha.2
   have h0:=ha.1.1
   unfold tt at h0
   split at h0
   ·cases r1 with
    | tuple k1 k2 k3 k4 =>
     rename_i its _
     obtain⟨f,fr,e⟩:∃f fr,its.toList=f::fr:=by
      cases e:its.toList with
      | nil=>rw[e]at k4;cases k4
      | cons f fr=>exact⟨f,fr,rfl⟩
     rw[e]at k4
     cases k4 with
     | cons q1 q2 =>
      cases q1 with
      | tuple j1 j2 j3 j4 =>
       refine⟨_::fs,.cons k1 k2 k3 (by rw[← Array.getElem?_toList,e];rfl) h1,by rw[List.length_cons,List.length_cons,h2],fun v hv=>?_⟩
       rcases List.mem_cons.mp hv with rfl|hv
       ·rw[← j2];exact(Looks.ld j1).andThen .now
       ·exact h3 v hv
   ·cases h0
theorem Reps.pick{K:PySem.W.Frag}{H:Hp}{ds:List D}{vs:List V}(h:Reps K H ds vs):∀{p:List Nat},(∀i∈p,i < ds.length)->Reps K H (p.map fun i=>ds.getD i .none) (p.map fun i=>vs.getD i .non)
 | [],_=>rfl
 | i::p,hp=>by
  have hi:=hp i (.head _)
  obtain⟨v,e,r⟩:=h.get (i:=i) (List.getElem?_eq_getElem hi)
  refine⟨_,_,rfl,?_,Reps.pick h fun j hj=>hp j (.tail _ hj)⟩
  show Rep K H (ds.getD i .none) (vs.getD i .non)
  rw[List.getD_eq_getElem?_getD,List.getD_eq_getElem?_getD,e,List.getElem?_eq_getElem hi]
  exact r
theorem B3.at{vs:List V}{us:List Value}(h:B3 vs us):∀{i:Nat},i < vs.length->D2 (vs.getD i .non) (us.getD i .none):=by
 induction h with
 | nil=>exact fun hi=>absurd hi (Nat.not_lt_zero _)
 | cons r _ ih =>
  intro i hi
  cases i with
  | zero=>exact r
  | succ i=>simpa using ih (by simpa using hi)
theorem B3.pick{vs:List V}{us:List Value}(h:B3 vs us):∀{p:List Nat},(∀i∈p,i < vs.length)->B3 (p.map fun i=>vs.getD i .non) (p.map fun i=>us.getD i .none)
 | [],_=>.nil
 | i::p,hp=>.cons (B3.at h (hp i (.head _))) (B3.pick h fun j hj=>hp j (.tail _ hj))
theorem aS0{X:Cx}(hu:X.A.units+64 < cLine):G6 X (.builtin "sorted") (biS X.K 1 bk1):=by
 intro pins s σ H xs us Q I rv ⟨hl,Hf,ds0,d,ss,rp,e,k⟩
 unfold bk1 at e
 split at e
 ·rename_i d0
  obtain⟨⟨t,ds⟩,e1,e2⟩:=Option.bind_eq_some_iff.mp e
  obtain⟨out,e3,rfl⟩:=Option.map_eq_some_iff.mp e2
  replace e3:J9 ds=some out:=e3
  clear e2
  obtain⟨x,xr,rfl,r0,rn⟩:=rp
  cases rn
  obtain⟨u,rfl,rx⟩:=K8 rv
  obtain⟨a,vs,rfl,sq,rs⟩:=Rep.seq r0 ss e1
  cases rx
  have core:∀(T:String) (its:List Value) (o:Obj) (n:Nat),(T = "list" \/ T = "tuple")->s.heap.get? a=some o->o.cls=.type T->o.data=.seq its.toArray n->B3 vs its ->
    wpAny (model X.prog X.w) X.A (call (.builtin "sorted") [.ref a]) (EP X pins σ Q) X.xe s:=fun T its o n hT ho hc hd r'=>by
   have n1:=rs.length
   have n2:=r'.length
   have fin:∀(p:List Nat),(∀i∈p,i < ds.length)->p.length < 64->(p.map fun i=>ds.getD i .none)=out->∀(h':Heap) (c:Nat),(∀b o,s.heap.get? b=some o->h'.get? b=some o)->h'.get? (s.heap.objs.size+1)=some (seqObj "list" (p.map fun i=>its.getD i Value.none).toArray c) ->
     EP X pins σ Q (.ref (s.heap.objs.size+1)) { s with heap:=h' }:=fun p hp hz ho h' c kp eo=>by
    have fr:=I.hok.fresh (Nat.le_succ s.heap.objs.size)
    refine⟨.ref (s.heap.objs.size+1),_,I.laid (t':=s.toks) kp (Nat.le_succ _) (show E6 X.prog X.w _ h' _ (.lst (p.map fun i=>vs.getD i .non)) from⟨by rw[List.length_map,sizeLine_eq];omega,_,c,B3.pick r' (fun i hi=>by rw[n1];exact hp i hi),eo⟩),rfl,k _ _ _ (Grow.laid ss fr) ?_⟩
    refine⟨_,_,rfl,SqL.of A6,?_⟩
    rw[← ho]
    exact(rs.pick hp).mono (B9 (ss.free fr))
   obtain⟨as,rd⟩:=Reps.reads I (rs.mono ss) r'
   unfold J9 at e3
   split at e3
   ·rename_i h2
    cases e3
    have idp:∀{α:Type}(z:α) (l:List α),(List.range l.length).map (fun i=>l.getD i z)=l:=fun z l=>by
     apply List.ext_getElem
     ·simp
     ·intro i i1 i2;simp[i2]
    have lz:its.length=ds.length:=by omega
    refine ad7 (out:=its) hT ho hc hd (by omega) (fun _=>rfl) (fun h3=>absurd h3 (by omega)) fun h' c kp eo=>?_
    refine fin (List.range ds.length) (fun i hi=>by simpa using hi) (by rw[List.length_range];omega) (idp _ _) h' c kp ?_
    rw[← lz,idp];exact eo
   ·split at e3
    ·rename_i h2 h3
     cases e3
     obtain⟨h64,hall,hlt⟩:=h3
     have lz:its.length=ds.length:=by omega
     have pin:=ah3 (n:=ds.length) (by omega)
     have lo:=al5 (ltN ds) pin
     refine ad7 (out:=(evT (ltN ds) (kas_sort ds.length)).toList.map fun i=>its.getD i Value.none) hT ho hc hd (by omega) (fun h3=>absurd h3 (by omega)) (fun _ h' kp=>?_) fun h' c kp eo=>fin _ (fun i hi=>lo.2 i (by simpa using hi)) (by rw[Array.length_toList,lo.1];exact h64) rfl h' c kp eo
     have rd':ReadsAll h' its ds as:=ReadsAll.keeps kp rd
     obtain⟨fs,t1,t2,t3⟩:=ag6 (M:=model X.prog X.w) rd' hall
     refine kat_kind (s:={ s with heap:=h' }) t1 (by omega) t3 (by rfl) ?_
     have hb:(Value.type "tuple" != Value.type "tuple")=false:=by rfl
     rw[hb,lz]
     refine t9 (P:=LoP ds.length) (lt:=ltN ds) (fun i j C hi hj hC=>?_) pin fun _=>⟨rfl,rfl⟩
     unfold kas_ask
     have hat:∀m,m < ds.length->∃(a:Addr) (o:Obj) (ws:Array Value) (n:Nat) (ys:List D) (bs:List Addr),its.getD m Value.none=.ref a/\h'.get? a=some o/\o.data=.seq ws n/\ReadsAll h' ws.toList ys bs/\ds.getD m (ds.headD .none)=.tuple ys/\PyData.canLayAll0 ys=true/\PyData.depthAll ys<=60:=fun m hm=>by
      obtain⟨bs,r1⟩:=ReadsAll.at rd' m (by omega)
      have hmem:=List.all_eq_true.mp hall _ (List.getElem_mem hm)
      simp only[Bool.and_eq_true,decide_eq_true_eq]at hmem
      obtain⟨q1,q2,q3⟩:=hmem
      have ed:ds.getD m .none=ds[m]:=by simp[hm]
      have ed':ds.getD m (ds.headD .none)=ds[m]:=by simp[hm]
      have ei:its.getD m Value.none=its[m]'(by omega):=by simp[show m < its.length by omega]
      rw[ed]at r1
      rw[ei,ed']
      generalize ds[m]=dm at q1 q2 q3 r1
      generalize its[m]'(by omega)=vm at r1
      unfold tt at q1
      split at q1
      ·cases r1 with
       | tuple k1 k2 k3 k4=>exact⟨_,_,_,_,_,_,rfl,k1,k3,k4,rfl,by simpa [PyData.canLay0] using q2,by simp only[PyData.depth]at q3;omega⟩
      ·cases q1
     obtain⟨a1,o1,ws1,m1,ys1,bs1,i1,i2,i3,i4,i5,i6,i7⟩:=hat i hi
     obtain⟨a2,o2,ws2,m2,ys2,bs2,j1,j2,j3,j4,j5,j6,j7⟩:=hat j hj
     rw[i1,j1]
     have z1:=ReadsAll.len i4
     have z2:=ReadsAll.len j4
     have hs:(ltDs ys1 ys2).isSome=true:=by
      have q1:=List.all_eq_true.mp hlt _ (List.getElem_mem hi)
      have q2:=List.all_eq_true.mp q1 _ (List.getElem_mem hj)
      have e1:ds[i]=.tuple ys1:=by rw[← i5];simp[hi]
      have e2:ds[j]=.tuple ys2:=by rw[← j5];simp[hj]
      rw[e1,e2,ltD]at q2
      exact q2
     obtain⟨c,hc'⟩:=Option.isSome_iff_exists.mp hs
     have hC':C c { s with heap:=h' }:=by
      have:ltN ds i j=c:=by unfold ltN;rw[i5,j5,ltD,hc'];rfl
      rw[← this];exact hC
     refine kat_lt (s:={ s with heap:=h' }) i2 i3 j2 j3 ?_
     exact aa3 (m:=60) (by show X.A.units+1+1+60 < _;omega) ys1 ys2 _ _ _ _ 0 c i4 j4 i6 j6 i7 hc' (by
      have w1:ws1.size=ys1.length:=by simpa using z1
      have w2:ws2.size=ys2.length:=by simpa using z2
      rw[w1,w2]) hC'
    ·cases e3
  cases t with
  | true =>
   obtain⟨its,r',⟨o,ho,hc,n,hd⟩,_⟩:=I.tuple sq
   exact core "tuple" its o n (.inr rfl) ho hc hd r'
  | false =>
   obtain⟨its,r',pl,_⟩:=I.list sq
   obtain⟨o,ho,hc,n,hd⟩:=pl.isList
   exact core "list" its o n (.inl rfl) ho hc hd r'
 ·cases e
end G
namespace Sh
open PySem PySem.W G L2
end Sh
namespace Sh
open PySem PySem.Spec PyProof.Rows L2 G
end Sh
namespace Sh
open PySem PySem.Spec PyProof.Rows L2 G
end Sh
namespace G
open PySem PySem.Spec PySem.W PyProof.Rows L2 PySem.SeqAt
theorem V0{prog:Program}{w:World}{A:Around}{E:Value->Shared->Prop}{s:Shared}{l:Addr}{Q:Value->Shared->Prop}
  (hcol:∀{E:Value->Shared->Prop}{R:List Value->Shared->Prop},(∀(vs out:List Value) (s1:Shared),vs.length < 64->(vs.length < 2->out=vs) ->
   (2<=vs.length->∀h':Heap,(∀b o,s1.heap.get? b=some o->h'.get? b=some o)->wpAny (model prog w) A.in1.in1 (keyKind' vs.toArray) (fun κ s'=>(kas_sort vs.length).kasWp (kas_ask prog w A.in1.in1 κ vs) (fun p s''=>s''={ s1 with heap:=h' }/\(p.toList.map fun i=>vs.getD i Value.none)=out) s') (fun _ _=>False) { s1 with heap:=h' }) ->
   (∀h' c,(∀b o,s1.heap.get? b=some o->h'.get? b=some o)->h'.get? s1.heap.objs.size=some (seqObj "list" out.toArray c)->Q (.ref s1.heap.objs.size) { s1 with heap:=h' })->R vs s1)->wpAny (model prog w) A.in1 (collect (.ref l)) R E s) :
  wpAny (model prog w) A (call (.builtin "sorted") [.ref l]) Q E s:=by
 refine Calls.call_function_entry kind_sorted plain_sorted entry_sorted (args_sorted1 _) ?_
 unfold Builtin.«sorted»
 refine wpAny_bind (m:=checkCount "sorted" 1 1 _) (wpAny_pure ?_)
 refine wpAny_bind (hcol fun vs out s1 h64 h1 hk h=>?_)
 refine wpAny_bind (wpAny_newList ?_ (by rw[sizeLine_eq];omega))
 have hoL:(s1.heap.push (seqObj "list" vs.toArray 0)).get? s1.heap.objs.size=some (seqObj "list" vs.toArray 0):=Heap.get?_push_size _ rfl
 have keep:∀b o,s1.heap.get? b=some o->(s1.heap.push (seqObj "list" vs.toArray 0)).get? b=some o:=fun b o q=>Heap.get?_push_of_some _ q
 show wpAny _ _ _ _ _ { s1 with heap:=s1.heap.push (seqObj "list" vs.toArray 0) }
 generalize s1.heap.push (seqObj "list" vs.toArray 0)=h3 at hoL keep
 have ne:∀b o,s1.heap.get? b=some o->b≠s1.heap.objs.size:=fun b o q=>Nat.ne_of_lt (Heap.lt_size q)
 refine wpAny_bind (wpAny_holding (wpAny_call_entry slot_list_sort ⟨_,hoL,rfl⟩ entry_list_sort ?body (args_list_sort _)))
 case body =>
  refine ap1 (s:={ s1 with heap:=h3 }) (out:=out) hoL h64 h1 (fun h2 h' kp=>hk h2 h' fun b o q=>kp b o (ne b o q) (keep b o q)) fun h' c kp e=>⟨_,rfl,wpAny_pure ⟨_,rfl,h h' c (fun b o q=>kp b o (ne b o q) (keep b o q)) e⟩⟩
section
variable {X:Cx}{pins:List (Addr×Obj)}{σ:L2.St}{H Hf:Hp}{s:Shared}
theorem am8{Q:VK}{ds out:List D}{vs:List V}{its:List Value}(hu:X.A.units+64 < cLine) (I:Inv X pins σ H s) (ss:B5 Hf H) (rs:Reps X.K Hf ds vs) (r':B3 vs its) (e3:J9 ds=some out)
  (k:∀v H' Hf',Grow H Hf H' Hf'->Rep X.K Hf' (.list out) v->Q v H'):∃outv:List Value,its.length < 64/\(its.length < 2->outv=its) /\
   (2<=its.length->∀h':Heap,(∀b o,s.heap.get? b=some o->h'.get? b=some o)->wpAny (model X.prog X.w) X.A.in1.in1 (keyKind' its.toArray) (fun κ s'=>(kas_sort its.length).kasWp (kas_ask X.prog X.w X.A.in1.in1 κ its) (fun p s''=>s''={ s with heap:=h' }/\(p.toList.map fun i=>its.getD i Value.none)=outv) s') (fun _ _=>False) { s with heap:=h' }) /\
   ∀h' c,(∀b o,s.heap.get? b=some o->h'.get? b=some o)->h'.get? s.heap.objs.size=some (seqObj "list" outv.toArray c)->EP X pins σ Q (.ref s.heap.objs.size) { s with heap:=h' }:=by
 have n1:=rs.length
 have n2:=r'.length
 have fin:∀(p:List Nat),(∀i∈p,i < ds.length)->p.length < 64->(p.map fun i=>ds.getD i .none)=out->∀(h':Heap) (c:Nat),(∀b o,s.heap.get? b=some o->h'.get? b=some o)->h'.get? s.heap.objs.size=some (seqObj "list" (p.map fun i=>its.getD i Value.none).toArray c) ->
   EP X pins σ Q (.ref s.heap.objs.size) { s with heap:=h' }:=fun p hp hz ho h' c kp eo=>by
  have fr:=I.hok.fresh (Nat.le_refl s.heap.objs.size)
  refine⟨.ref s.heap.objs.size,_,I.laid (t':=s.toks) kp (Nat.le_refl _) (show E6 X.prog X.w _ h' _ (.lst (p.map fun i=>vs.getD i .non)) from⟨by rw[List.length_map,sizeLine_eq];omega,_,c,B3.pick r' (fun i hi=>by rw[n1];exact hp i hi),eo⟩),rfl,k _ _ _ (Grow.laid ss fr) ?_⟩
  refine⟨_,_,rfl,SqL.of A6,?_⟩
  rw[← ho]
  exact(rs.pick hp).mono (B9 (ss.free fr))
 obtain⟨as,rd⟩:=Reps.reads I (rs.mono ss) r'
 have lz:its.length=ds.length:=by omega
 unfold J9 at e3
 split at e3
 ·rename_i h2
  cases e3
  have idp:∀{α:Type}(z:α) (l:List α),(List.range l.length).map (fun i=>l.getD i z)=l:=fun z l=>by
   apply List.ext_getElem
   ·simp
   ·intro i i1 i2;simp[i2]
  refine⟨its,by omega,fun _=>rfl,fun h3=>absurd h3 (by omega),fun h' c kp eo=>?_⟩
  refine fin (List.range ds.length) (fun i hi=>by simpa using hi) (by rw[List.length_range];omega) (idp _ _) h' c kp ?_
  rw[← lz,idp];exact eo
 ·split at e3
  ·rename_i h2 h3
   cases e3
   obtain⟨h64,hall,hlt⟩:=h3
   have pin:=ah3 (n:=ds.length) (by omega)
   have lo:=al5 (ltN ds) pin
   refine⟨(evT (ltN ds) (kas_sort ds.length)).toList.map fun i=>its.getD i Value.none,by omega,fun h3=>absurd h3 (by omega),fun _ h' kp=>?_,fun h' c kp eo=>fin _ (fun i hi=>lo.2 i (by simpa using hi)) (by rw[Array.length_toList,lo.1];exact h64) rfl h' c kp eo⟩
   have rd':ReadsAll h' its ds as:=ReadsAll.keeps kp rd
   obtain⟨fs,t1,t2,t3⟩:=ag6 (M:=model X.prog X.w) rd' hall
   refine kat_kind (s:={ s with heap:=h' }) t1 (by omega) t3 (by rfl) ?_
   have hb:(Value.type "tuple" != Value.type "tuple")=false:=by rfl
   rw[hb,lz]
   refine t9 (P:=LoP ds.length) (lt:=ltN ds) (fun i j C hi hj hC=>?_) pin fun _=>⟨rfl,rfl⟩
   unfold kas_ask
   have hat:∀m,m < ds.length->∃(a:Addr) (o:Obj) (ws:Array Value) (n:Nat) (ys:List D) (bs:List Addr),its.getD m Value.none=.ref a/\h'.get? a=some o/\o.data=.seq ws n/\ReadsAll h' ws.toList ys bs/\ds.getD m (ds.headD .none)=.tuple ys/\PyData.canLayAll0 ys=true/\PyData.depthAll ys<=60:=fun m hm=>by
    obtain⟨bs,r1⟩:=ReadsAll.at rd' m (by omega)
    have hmem:=List.all_eq_true.mp hall _ (List.getElem_mem hm)
    simp only[Bool.and_eq_true,decide_eq_true_eq]at hmem
    obtain⟨q1,q2,q3⟩:=hmem
    have ed:ds.getD m .none=ds[m]:=by simp[hm]
    have ed':ds.getD m (ds.headD .none)=ds[m]:=by simp[hm]
    have ei:its.getD m Value.none=its[m]'(by omega):=by simp[show m < its.length by omega]
    rw[ed]at r1
    rw[ei,ed']
    generalize ds[m]=dm at q1 q2 q3 r1
    generalize its[m]'(by omega)=vm at r1
    unfold tt at q1
    split at q1
    ·cases r1 with
     | tuple k1 k2 k3 k4=>exact⟨_,_,_,_,_,_,rfl,k1,k3,k4,rfl,by simpa [PyData.canLay0] using q2,by simp only[PyData.depth]at q3;omega⟩
    ·cases q1
   obtain⟨a1,o1,ws1,m1,ys1,bs1,i1,i2,i3,i4,i5,i6,i7⟩:=hat i hi
   obtain⟨a2,o2,ws2,m2,ys2,bs2,j1,j2,j3,j4,j5,j6,j7⟩:=hat j hj
   rw[i1,j1]
   have z1:=ReadsAll.len i4
   have z2:=ReadsAll.len j4
   have hs:(ltDs ys1 ys2).isSome=true:=by
    have q1:=List.all_eq_true.mp hlt _ (List.getElem_mem hi)
    have q2:=List.all_eq_true.mp q1 _ (List.getElem_mem hj)
    have e1:ds[i]=.tuple ys1:=by rw[← i5];simp[hi]
    have e2:ds[j]=.tuple ys2:=by rw[← j5];simp[hj]
    rw[e1,e2,ltD]at q2
    exact q2
   obtain⟨c,hc'⟩:=Option.isSome_iff_exists.mp hs
   have hC':C c { s with heap:=h' }:=by
    have:ltN ds i j=c:=by unfold ltN;rw[i5,j5,ltD,hc'];rfl
    rw[← this];exact hC
   refine kat_lt (s:={ s with heap:=h' }) i2 i3 j2 j3 ?_
   exact aa3 (m:=60) (by show X.A.units+1+1+60 < _;omega) ys1 ys2 _ _ _ _ 0 c i4 j4 i6 j6 i7 hc' (by
    have w1:ws1.size=ys1.length:=by simpa using z1
    have w2:ws2.size=ys2.length:=by simpa using z2
    rw[w1,w2]) hC'
  ·cases e3
def prs:List D->List (Addr×Int)->List D
 | k::ks,p::ws=>.tuple [k,.int p.2]::prs ks ws
 | _,_=>[]
theorem Z8:∀Ts:List Addr,B3 (Ts.map V.ref) (Ts.map Value.ref)
 | []=>.nil
 | _::Ts=>.cons rfl (Z8 Ts)
theorem an8{K:PySem.W.Frag}{Hf:Hp}:∀{ks:List D}{ws:List (Addr×Int)}{Ts:List Addr},Reps K Hf ks (ws.map fun p=>V.ref p.1)->TsI Hf ws Ts ws.length->Reps K Hf (prs ks ws) (Ts.map V.ref)
 | [],_,Ts,h,t=>by
  have e:=h.length
  rw[List.length_map]at e
  cases List.length_eq_zero_iff.mp (e.trans rfl)
  cases List.length_eq_zero_iff.mp t.1
  rfl
 | k::ks,[],_,h,t=>by obtain⟨_,_,e,_⟩:=h;cases e
 | k::ks,p::ws,[],h,t=>by cases t.1
 | k::ks,p::ws,T::Ts,⟨v,r,e,h1,h2⟩,t=>by
  rw[xmc]at e
  cases e
  obtain⟨q,e1,e2⟩:=t.2 0 T rfl
  cases e1
  refine⟨_,_,rfl,⟨T,_,rfl,SqT.of e2,_,_,rfl,h1,_,_,rfl,rfl,rfl⟩,an8 h2 ⟨by have:=t.1;simpa using this,fun j U hj=>?_⟩⟩
  exact t.2 (j+1) U (by simpa using hj)
theorem aK1{Q:VK}{ws:List (Addr×Int)}{es:Array DictEntry}{ep:Nat}{od:Obj}{d r:Addr}{ks out:List D}(hu:X.A.units+64 < cLine) (hc:X.A.handled=none) (hz:ws.length<=1000) (pr:Ent ws es.toList) (hd:od.data=.dict es ep) (I:Inv X pins σ H s) (ss:B5 Hf H) (hv:s.heap.IsItemsView r d) (ho:s.heap.get? d=some od)
  (rk:Reps X.K Hf ks (ws.map fun p=>V.ref p.1)) (e3:J9 (prs ks ws)=some out) (k:∀v H' Hf',Grow H Hf H' Hf'->Rep X.K Hf' (.list out) v->Q v H') :
  wpAny (model X.prog X.w) X.A (call (.builtin "sorted") [.ref r]) (EP X pins σ Q) X.xe s:=by
 refine V0 fun{E R} hR=>ad2 (A:=X.A.in1) hc hz pr hd I ss hv ho fun s' H' Hf' Ts I' g t=>?_
 obtain⟨outv,a1,a2,a3,a4⟩:=am8 hu I' g.sub (an8 (rk.mono g.ext) t) (Z8 Ts) e3 fun v H2 Hf2 g2 r2=>k v H2 Hf2 (g.trans g2) r2
 exact hR _ outv s' a1 a2 a3 a4
end
end G
namespace G
open PySem PySem.Spec PySem.W PyProof.Rows L2 PySem.SeqAt
theorem W5:Slot "set_iterator" "__next__" "set_iterator.__next__" := .of (owner := "set_iterator") (n := "__next__") (by rw[typeLookup_type,builtinLookup_eq_fast];kernel_rfl) (by decide +kernel) (by decide +kernel) (by decide +kernel) (by first|exact .inl (by decide +kernel)|exact .inr (by decide +kernel)) (by rw[isSubtype_type];kernel_rfl)
theorem an2:entryFor table "set_iterator.__next__" = some Builtin.«set_iterator.__next__»:=entryFor_of_tree (by kernel_rfl)
theorem aR8:entryFor table "set.__iter__" = some Builtin.«frozenset.__iter__»:=entryFor_alias (id' := "frozenset.__iter__") (by kernel_rfl) rfl (by decide +kernel) (by kernel_rfl)
theorem aS6:Manifest.owners.lookup (String.ofList "rotareti_tes".toList.reverse)=some Manifest.sig_set_iterator:=by kernel_rfl
theorem aB8(v:Value):argsOk "set_iterator.__next__" ⟨[v],[]⟩:=by
 unfold argsOk
 rw[signature?_of (id := "set_iterator.__next__") (n := "__txen__".toList) (o := "rotareti_tes".toList) (by kernel_rfl) aS6];kernel_rfl
theorem aG5{α:Type}:∀(l:List α) (i:Nat) (h:i < l.length),(l[i]::l.eraseIdx i).Perm l
 | a::l,0,h=>.refl _
 | a::l,i+1,h=>(List.Perm.swap a _ _).trans ((aG5 l i (by simpa using h)).cons a)
theorem ae3{α:Type}(nx:Nat->Nat):∀(f k:Nat) (l:List α) (out:Array α),f=l.length->(pickOrder.go nx f k l out).toList.Perm (out.toList++l)
 | 0,k,l,out,h=>by
  have:l=[]:=List.length_eq_zero_iff.mp h.symm
  subst this
  unfold pickOrder.go
  simp
 | f+1,k,l,out,h=>by
  have hl:nx k % l.length < l.length:=Nat.mod_lt _ (by omega)
  unfold pickOrder.go
  rw[List.getElem?_eq_getElem hl]
  dsimp only
  refine(ae3 nx f (k+1) _ _ (by rw[List.length_eraseIdx_of_lt hl];omega)).trans ?_
  rw[Array.toList_push,List.append_assoc]
  refine List.Perm.append_left _ ?_
  rw[List.singleton_append]
  exact aG5 l _ hl
def wkO(w:World) (a:Addr) (ep:Nat) (es:Array (Int×Value)):List (Int×Value):=if w.params.followText "set-order" = true then(pickOrder (w.params.setOrder a ep) es).toList else es.toList
theorem aA1(w:World) (a:Addr) (ep:Nat) (es:Array (Int×Value)):(wkO w a ep es).Perm es.toList:=by
 unfold wkO
 split
 ·unfold pickOrder
  have:=ae3 (w.params.setOrder a ep) es.size 0 es.toList #[] (by simp)
  simpa using this
 ·exact .refl _
abbrev siO(sl:Nat) (i:Int) (a:Addr) (n ep:Nat):Obj:={ cls:=.type "set_iterator", dict:=none,data:=.fields #[.int sl 0,.int i 0,.ref a,.int n 0,.int ep 0],slots:=#[] }
def SiR(w:World) (t:SetTable) (h:Heap) (it a:Addr) (i n ep:Nat):Prop:=∃sl,h.get? it=some (siO sl i a n ep)/\(w.params.followText "set-order" = false->SetTable.below t.place sl=i)
section
variable {P:Program}{w:World}{A:Around}{E:Value->Shared->Prop}{s:Shared}
theorem bT0(ho:s.heap.get? a=some o) (hd:o.data=.set es ep t) (hz:es.size=zs.length) (T:TOkS (hsA P w) t zs) (hl:t.led = !(w.params.followText "set-order")) (hp:t.plain=true)
  (hs:w.params.followText "set-order" = false->SetTable.below t.place sl=i) (h1:∀e,(wkO w a ep es)[i]? = some e->∀sl',(w.params.followText "set-order" = false->SetTable.below t.place sl'=i+1)->Q (some (e.2,sl')) s) (h2:(wkO w a ep es)[i]? = none->Q none s):wpAny (model P w) A (setNext a sl i ep) Q E s:=by
 have hf:t.fits es.size=true:=by rw[hz];exact T.fits
 unfold setNext
 refine wpAny_bind (wpAny_setState_of ho hd hf ?_)
 dsimp only
 unfold setsByText
 refine wpAny_bind (wpAny_bind (wpAny_askSetting (wpAny_pure ?_)))
 dsimp only
 show wpAny _ _ (if w.params.followText "set-order" = true then _ else _) _ _ _
 cases hb:w.params.followText "set-order" with
 | true =>
  rw[if_pos rfl]
  rw[show(ep != ep)=false by simp]
  simp only[xft,if_false]
  unfold setWalk setsByText
  refine wpAny_bind (wpAny_bind (wpAny_setState_of ho hd hf ?_))
  dsimp only
  refine wpAny_bind (wpAny_bind (wpAny_askSetting (wpAny_pure ?_)))
  show wpAny _ _ (if w.params.followText "set-order" = true then _ else _) _ _ _
  rw[if_pos hb]
  refine wpAny_bind (wpAny_askSetting (wpAny_pure (wpAny_pure ?_)))
  have ew:wkO w a ep es=(pickOrder (w.params.setOrder a ep) es).toList:=by unfold wkO;rw[if_pos hb]
  show Q (((pickOrder (w.params.setOrder a ep) es)[i]?).map fun e=>(e.2,sl)) s
  rw[ew,Array.getElem?_toList]at h1 h2
  cases q:(pickOrder (w.params.setOrder a ep) es)[i]? with
  | none=>exact h2 q
  | some e=>exact h1 e q sl fun z=>by rw[hb]at z;cases z
 | false =>
  rw[if_neg Bool.false_ne_true]
  show wpAny _ _ (if(!t.plain&&decide (es.size > 1))=true then _ else _) _ _ _
  rw[hp]
  simp only[xnt,Bool.false_and,xft,if_false]
  show wpAny _ _ ((if(!t.led && !es.isEmpty)=true then _ else _) >>= _) _ _ _
  rw[hl,hb]
  simp only[xnf,xnt,Bool.false_and,xft,if_false]
  refine wpAny_bind (wpAny_pure ?_)
  rw[hs hb]
  have ew:wkO w a ep es=es.toList:=by unfold wkO;rw[hb,if_neg Bool.false_ne_true]
  rw[ew,Array.getElem?_toList]at h1 h2
  have pz:t.place.size=es.size:=by rw[hz,← Array.length_toList,T.pl,List.length_map]
  rcases Nat.lt_or_ge i es.size with q|q
  ·have e1:=Array.getElem?_eq_getElem q
   have e2:=Array.getElem?_eq_getElem (xs:=t.place) (i:=i) (by omega)
   rw[e1,e2]
   dsimp only
   exact wpAny_pure (h1 _ e1 _ fun _=>ay3 (by rw[T.pl];exact T.up) e2)
  ·rw[Array.getElem?_eq_none q]
   dsimp only
   exact wpAny_pure (h2 (Array.getElem?_eq_none q))
theorem aB7(ho:s.heap.get? a=some o) (hd:o.data=.set es ep t) (hz:es.size=zs.length) (T:TOkS (hsA P w) t zs) (hl:t.led = !(w.params.followText "set-order")) (hp:t.plain=true)
  (hi:SiR w t s.heap it a i es.size ep) (h1:∀e,(wkO w a ep es)[i]? = some e->∀h',Heap.SameBut it s.heap h'->SiR w t h' it a (i+1) es.size ep->R (.done (.ret e.2)) { s with heap:=h' })
  (h2:(wkO w a ep es)[i]? = none->wpAny (model P w) A (do setField (.ref it) 2 .none;raiseNew (← newExc (.type "StopIteration") [])) R E s):wpAny (model P w) A (Builtin.«set_iterator.__next__» ⟨[.ref it],[]⟩) R E s:=by
 have hf:t.fits es.size=true:=by rw[hz];exact T.fits
 obtain⟨sl,hit,hs⟩:=hi
 unfold Builtin.«set_iterator.__next__»
 refine wpAny_bind (wpAny_pure ?_)
 refine wpAny_bind (wpAny_fieldsOf hit rfl ?_)
 dsimp only
 refine wpAny_bind (wpAny_setEntries_of ho hd hf ?_)
 rw[show(((es.size:Nat):Int) != ((es.size:Nat):Int))=false by simp]
 simp only[xft,if_false]
 show wpAny _ _ (setNext a (sl:Int).toNat (i:Int).toNat (ep:Int).toNat >>= _) _ _ _
 rw[Int.toNat_natCast,Int.toNat_natCast,Int.toNat_natCast]
 refine wpAny_bind (bT0 ho hd hz T hl hp hs (fun e he sl' hs'=>?_) fun he=>?_)
 ·dsimp only
  refine wpAny_bind (wpAny_setField_rec hit (by simp) fun h3 it3 s3=>?_)
  refine wpAny_bind (wpAny_setField_rec it3 (by simp) fun h4 it4 s4=>?_)
  refine wpAny_pure (h1 e he h4 (Heap.SameBut.trans s3 s4) ⟨sl',?_,hs'⟩)
  rw[it4]
  simp[rawInt]
 ·dsimp only
  exact h2 he
end
end G
namespace G
open PySem PySem.Spec PySem.W PyProof.Rows L2 PySem.SeqAt
section
variable {P:Program}{w:World}{A:Around}{E:Value->Shared->Prop}{s:Shared}
theorem bk6(ho:s.heap.get? a=some o) (hd:o.data=.set es ep t) (hz:es.size=zs.length) (T:TOkS (hsA P w) t zs) (hl:t.led = !(w.params.followText "set-order")) (hp:t.plain=true)
  (hi:SiR w t s.heap it a i es.size ep) (he:(wkO w a ep es)[i]? = some e) (h:∀h',Heap.SameBut it s.heap h'->SiR w t h' it a (i+1) es.size ep->Q (some e.2) { s with heap:=h' }):wpAny (model P w) A (pyNext (.ref it)) Q E s:=by
 have hT:s.TypeIs (.ref it) "set_iterator" := let⟨_,q,_⟩:=hi;⟨_,q,rfl⟩
 unfold pyNext
 refine wpAny_bind (wpAny_attempt (wpAny_callSpecial?_slot (name:=Str.ofString "__next__") hT W5 (wpAny_call_entry W5 hT an2 (aB7 ho hd hz T hl hp hi (fun e' he' h' sb hi'=>⟨_,rfl,?_⟩) fun q=>?_) (aB8 _))))
 ·rw[he]at he'
  cases he'
  exact wpAny_pure (h h' sb hi')
 ·rw[he]at q;cases q
theorem bD1(hh:A.handled=none) (ho:s.heap.get? a=some o) (hd:o.data=.set es ep t) (hz:es.size=zs.length) (T:TOkS (hsA P w) t zs) (hl:t.led = !(w.params.followText "set-order")) (hp:t.plain=true)
  (hi:SiR w t s.heap it a i es.size ep) (he:(wkO w a ep es)[i]? = none) (h:∀h',Heap.ExtBut it s.heap h'->Q none { s with heap:=h' }):wpAny (model P w) A (pyNext (.ref it)) Q E s:=by
 have hT:s.TypeIs (.ref it) "set_iterator" := let⟨_,q,_⟩:=hi;⟨_,q,rfl⟩
 unfold pyNext
 refine wpAny_bind (wpAny_attempt (wpAny_callSpecial?_slot (name:=Str.ofString "__next__") hT W5 (wpAny_call_entry W5 hT an2 (aB7 ho hd hz T hl hp hi (fun e' he' h' sb hi'=>?_) fun q=>?_) (aB8 _))))
 ·rw[he]at he';cases he'
 ·obtain⟨sl,hit,_⟩:=hi
  refine wpAny_bind (wpAny_setField hit rfl (by simp) ?_)
  show wpAny _ _ (newExc (.type "StopIteration") [] >>= _) _ _ _
  refine wpAny_bind ?_
  simp only[newExc,newTuple]
  refine wpAny_bind (wpAny_newObj_type ?_ (by size_fits))
  refine wpAny_bind (m:=firstArgMember _ _) (wpAny_of_eq (a:=Value.none) (by first|rfl|(simp only[firstArgMember];rfl)) ?_)
  refine wpAny_newObj_type ?_ (by size_fits)
  simp only[raiseNew]
  refine wpAny_bind (wpAny_handled ?_)
  rw[show A.in1.handled=none from hh]
  refine wpAny_bind (wpAny_pure (wpAny_throw ?_))
  refine wpAny_bind (wpAny_isInstance (T := "StopIteration") (b:=true) ⟨_,Heap.get?_push_size _ rfl,rfl⟩ isSubtype_stop ?_)
  exact wpAny_pure (h _ (((Heap.SameBut.update ..).extBut.push _).push _))
theorem aX5(hc:A.handled=none) (n1:a≠it) (n2:S≠it) (n3:S≠a) (hd:o.data=.set es ep t) (hz:es.size=zs.length) (hz1:zs.length<=18) (T:TOkS (hsA P w) t zs) (hl:t.led = !(w.params.followText "set-order")) (hp:t.plain=true) :
  ∀(k i:Nat) (s:Shared) (c:Nat),zs.length - i=k->i<=zs.length->s.heap.get? a=some o->SiR w t s.heap it a i es.size ep->s.heap.get? S=some (seqObj "list" (((wkO w a ep es).take i).map (·.2)).toArray c) ->
  (∀h' c',(∀b u,b≠it->b≠S->s.heap.get? b=some u->h'.get? b=some u)->h'.get? S=some (seqObj "list" ((wkO w a ep es).map (·.2)).toArray c')->R (.ok (.ret res)) { s with heap:=h' }) ->
  codeAny (model P w) A (.builtin "list.extend.loop" ⟨[.ref S,.ref it,res],[]⟩) R s:=by
 have wl:(wkO w a ep es).length=zs.length:=by rw[(aA1 w a ep es).length_eq,Array.length_toList,hz]
 intro k
 induction k with
 | zero =>
  intro i s c hk hi ho hit hS hR
  have hin:i=zs.length:=by omega
  refine codeAny_builtin F.entry_extend_loop ?_
  rw[Around.under_plainId F.plain_extend_loop _]
  show wpAny _ A.in1 (pyNext (.ref it) >>= _) _ _ s
  refine wpAny_bind (bD1 (by simp[hc]) ho hd hz T hl hp hit (List.getElem?_eq_none (by omega)) fun h' ex=>?_)
  rw[hin,← wl,List.take_length]at hS
  exact wpAny_pure (hR h' c (fun b u q1 _ e=>ex b u q1 e) (ex S _ n2 hS))
 | succ k ih =>
  intro i s c hk hi ho hit hS hR
  have hlt:i < (wkO w a ep es).length:=by omega
  refine codeAny_builtin F.entry_extend_loop ?_
  rw[Around.under_plainId F.plain_extend_loop _]
  show wpAny _ A.in1 (pyNext (.ref it) >>= _) _ _ s
  refine wpAny_bind (bk6 ho hd hz T hl hp hit (List.getElem?_eq_getElem hlt) fun h' sb hit'=>?_)
  have hS':h'.get? S=_:=(sb.2 S n2).trans hS
  show wpAny _ A.in1 (updateSeq S (·.push ((wkO w a ep es)[i]).2) >>= _) _ _ _
  have b0:(18:Nat) < sizeLine:=by rw[sizeLine_eq];omega
  refine wpAny_bind (wpAny_updateSeq hS' rfl ?_ (by simp;omega) (by simp;omega))
  have oth:∀b u,b≠S->h'.get? b=some u->(h'.update S (Obj.mapSeq (·.push ((wkO w a ep es)[i]).2))).get? b=some u:=fun b u hb q=>(Heap.get?_update_other _ _ (Ne.symm hb)).trans q
  have hSn:=Heap.get?_update_self (Obj.mapSeq (·.push ((wkO w a ep es)[i]).2)) hS' rfl
  refine wpAny_pure ⟨plainId_quiet F.plain_extend_loop _,ih (i+1) _ (c+1) (by omega) (by omega) (oth a _ n3.symm ((sb.2 a n1).trans ho)) ?_ ?_ fun h2 c2 q1 q2=>?_⟩
  ·obtain⟨sl,z1,z2⟩:=hit'
   exact⟨sl,oth it _ n2.symm z1,z2⟩
  ·rw[List.take_succ_eq_append_getElem hlt,List.map_append]
   simpa [Obj.mapSeq] using hSn
  ·exact hR h2 c2 (fun b u y1 y2 e=>q1 b u y1 y2 (oth b u y2 ((sb.2 b y1).trans e))) q2
theorem bC1:typeLookup (.type "set") "__len__" = pure (some (.builtin "set.__len__")):=by rw[typeLookup_type,builtinLookup_eq_fast];kernel_rfl
theorem bj6(hT:s.TypeIs (.ref r) "set") (h:Q false s):wpAny (model P w) A (Builtin.List.listLengthHint (.ref r)) Q E s:=by
 unfold Builtin.List.listLengthHint
 refine wpAny_bind (wpAny_specialOf hT bC1 ?_)
 generalize hid:("set.__len__" : String)=id1
 wp_delta
 rw[show splitId id1=some ("set", "__len__") from by subst hid;decide +kernel]
 subst hid
 refine wpAny_bind (wpAny_isInstance (T := "set") (b:=true) hT (by rw[isSubtype_type];kernel_rfl) ?_)
 refine wpAny_ite_split (fun q=>absurd q (by decide)) (fun _=>?_)
 refine wpAny_ite_split (fun _=>?_) (fun q=>absurd (by decide +kernel) q)
 refine wpAny_bind (wpAny_typeOf hT ?_)
 exact wpAny_pure h
theorem bj5(ho:s.heap.get? a=some o) (hx:o.ExactSet) (hd:o.data=.set es ep t) (hf:t.fits es.size=true) (hp:t.plain=true)
  (h:Q (.ref s.heap.objs.size) { s with heap:=s.heap.push (siO 0 0 a es.size ep) }):wpAny (model P w) A (pyIter (.ref a)) Q E s:=by
 have hT:s.TypeIs (.ref a) "set" := ⟨o,ho,hx.1⟩
 refine wpAny_pyIter_slot hT F.slot_set_iter (wpAny_call_entry F.slot_set_iter hT aR8 ?_ (F.args_set_iter_1 _))
 unfold Builtin.«frozenset.__iter__» Builtin.Frozenset.slot0 slotArgs
 simp only[List.isEmpty_nil,xnt,xft,↓reduceIte,bind_assoc,List.length_nil,bne_self_eq_false]
 unfold Builtin.Frozenset.addrOf Builtin.Frozenset.sizeOf
 refine wpAny_bind (wpAny_pure ?_)
 try dsimp only
 refine wpAny_bind (wpAny_pure ?_)
 refine wpAny_bind (wpAny_bind (wpAny_setEntries_of ho hd hf (wpAny_pure ?_)))
 unfold setDrawn setsByText
 refine wpAny_bind (wpAny_bind (wpAny_setState_of ho hd hf ?_))
 dsimp only
 refine wpAny_bind (wpAny_bind (wpAny_askSetting (wpAny_pure (wpAny_pure ?_))))
 show wpAny _ _ (if(_&&(!t.plain&&decide (es.size > 1)))=true then _ else _) _ _ _
 rw[hp]
 simp only[xnt,Bool.false_and,Bool.and_false,xft,if_false]
 refine wpAny_bind (wpAny_pure ?_)
 refine wpAny_bind (wpAny_setEpoch_of ho hd hf ?_)
 refine wpAny_bind (wpAny_newObj_type (wpAny_pure ⟨_,rfl, "set_iterator", _,⟨_,Heap.get?_push_size _ rfl,rfl⟩,W5.lookup,?_⟩) (by size_fits))
 exact h
end
end G
namespace G
open PySem PySem.Spec PySem.W PyProof.Rows L2 PySem.SeqAt
section
variable {P:Program}{w:World}{A:Around}{E:Value->Shared->Prop}{s:Shared}
theorem as4(hc:A.handled=none) (hz1:zs.length<=18) (hS:StS P w s.heap r zs)
  (h:∀h' (us:List (Sp2×Addr)),us.Perm (zs.map (·.2))->(∀b o,s.heap.get? b=some o->h'.get? b=some o)->Q (us.map fun y=>Value.ref y.2) { s with heap:=h' }):wpAny (model P w) A (collect (.ref r)) Q E s:=by
 obtain⟨o,ho,hx,⟨es,ep,t,hd,hes,T,_,hl,hp⟩,_⟩:=hS
 have hz:es.size=zs.length:=by rw[← Array.length_toList,hes];simp
 have hf:t.fits es.size=true:=by rw[hz];exact T.fits
 have hr:r < s.heap.objs.size:=Heap.lt_size ho
 obtain⟨S,eS⟩:∃S,S=s.heap.objs.size:=⟨_,rfl⟩
 have n1:S≠r:=by rw[eS];exact Nat.ne_of_gt hr
 have n3:S≠S+1:=(Nat.succ_ne_self S).symm
 have n4:r≠S+1:=by rw[eS];exact Nat.ne_of_lt (Nat.lt_succ_of_lt hr)
 unfold collect
 refine wpAny_bind (wpAny_runValue (codeAny_builtin entry_proto_collect' ?_))
 rw[Around.under_plainId PySem.F.plain_proto_collect _]
 show wpAny _ A.in1 (newList [] >>= fun l=>again (.builtin "list.__iadd__" ⟨[l,.ref r],[]⟩)) _ _ s
 refine wpAny_bind (wpAny_newObj_type (wpAny_pure ⟨plainId_quiet PySem.F.plain_list_iadd _,codeAny_builtin entry_list_iadd' ?_⟩))
 rw[Around.under_plainId PySem.F.plain_list_iadd _,← eS]
 show wpAny _ A.in1 (Builtin.List.listExtendWith (.ref S) (.ref r) (.ref S)) _ _ { s with heap:=s.heap.push { cls:=.type "list", data:=.seq #[] } }
 have hS:(s.heap.push { cls:=.type "list", data:=.seq #[] }).get? S=some { cls:=.type "list", data:=.seq #[] }:=by rw[eS];exact Heap.get?_push_size _ rfl
 have k1:∀b o,s.heap.get? b=some o->(s.heap.push { cls:=.type "list", data:=.seq #[] }).get? b=some o:=fun b o q=>Heap.get?_push_of_some _ q
 have z1:(s.heap.push { cls:=.type "list", data:=.seq #[] }).objs.size=S+1:=by rw[Heap.size_push,eS]
 generalize s.heap.push { cls:=.type "list", data:=.seq #[] }=h1 at hS k1 z1
 have hT1:Shared.TypeIs { s with heap:=h1 } (.ref r) "set" := ⟨o,k1 _ _ ho,hx.1⟩
 unfold Builtin.List.listExtendWith
 refine wpAny_bind (wpAny_typeOf (T := "set") hT1 ?_)
 have q1:Builtin.List.listSameRef (.ref S) (.ref r)=false:=by simp[Builtin.List.listSameRef,n1]
 have q2:(Value.type "set" == Value.type "list")=false:=by decide
 have q3:(Value.type "set" == Value.type "tuple")=false:=by decide
 simp only[q1,q2,q3,Bool.or_false,xft,if_false]
 refine wpAny_bind (bj5 (k1 _ _ ho) hx hd hf hp ?_)
 have hI:(h1.push (siO 0 0 r es.size ep)).get? (S+1)=some (siO 0 0 r es.size ep):=by rw[← z1];exact Heap.get?_push_size _ rfl
 have k2:∀b o,h1.get? b=some o->(h1.push (siO 0 0 r es.size ep)).get? b=some o:=fun b o q=>Heap.get?_push_of_some _ q
 show wpAny _ _ _ _ _ { s with heap:=h1.push (siO 0 0 r es.size ep) }
 rw[z1]
 generalize h1.push (siO 0 0 r es.size ep)=h2 at hI k2
 have hS2:=k2 _ _ hS
 have pf:((wkO w r ep es).map (·.2))=(wkO w r ep es).map (·.2):=rfl
 have pm:=aA1 w r ep es
 rw[hes]at pm
 obtain⟨us,p1,p2⟩:∃us:List (Sp2×Addr),us.Perm (zs.map (·.2))/\wkO w r ep es=us.map (eOf P w):=by
  generalize wkO w r ep es=l at pm
  generalize zs.map (·.2)=m at pm
  have:∀{l l':List (Int×Value)},l.Perm l'->∀m:List (Sp2×Addr),l'=m.map (eOf P w)->∃us:List (Sp2×Addr),us.Perm m/\l=us.map (eOf P w):=by
   intro l l' q
   induction q with
   | nil=>intro m e;exact⟨m,.refl _,e⟩
   | cons x _ ih =>
    intro m e
    cases m with
    | nil=>cases e
    | cons y m =>
     rw[xmc,List.cons.injEq]at e
     obtain⟨us,u1,u2⟩:=ih m e.2
     exact⟨y::us,u1.cons y,by rw[u2,xmc,e.1]⟩
   | swap x y l =>
    intro m e
    cases m with
    | nil=>cases e
    | cons a m =>
     cases m with
     | nil=>cases e
     | cons b m =>
      rw[xmc,xmc,List.cons.injEq,List.cons.injEq]at e
      exact⟨b::a::m,.swap ..,by rw[xmc,xmc,e.1,e.2.1,e.2.2]⟩
   | trans _ _ ih1 ih2 =>
    intro m e
    obtain⟨us,u1,u2⟩:=ih2 m e
    obtain⟨vs,v1,v2⟩:=ih1 us u2
    exact⟨vs,v1.trans u1,v2⟩
  exact this pm m rfl
 have ev:(wkO w r ep es).map (·.2)=us.map fun y=>Value.ref y.2:=by rw[p2,List.map_map];rfl
 have loop:∀(h3:Heap) (c:Nat),(∀b o,b≠S->h2.get? b=some o->h3.get? b=some o)->h3.get? S=some (seqObj "list" #[] c)->codeAny (model P w) A (.builtin "list.extend.loop" ⟨[.ref S,.ref (S+1),.ref S],[]⟩) (fun q s'=>∃h' c,q=.ok (.ret (.ref S))/\s'={ s with heap:=h' }/\(∀b o,s.heap.get? b=some o->h'.get? b=some o)/\h'.get? S=some (seqObj "list" (us.map fun y=>Value.ref y.2).toArray c)) { s with heap:=h3 }:=fun h3 c k3 hS3=>by
  refine aX5 (P:=P) (o:=o) (es:=es) (ep:=ep) (t:=t) (zs:=zs) hc n4 n3 n1 hd hz hz1 T hl hp (zs.length - 0) 0 _ c rfl (Nat.zero_le _) (k3 _ _ n1.symm (k2 _ _ (k1 _ _ ho))) ⟨0,k3 _ _ n3.symm hI,fun _=>ay2 (by rw[T.pl];exact T.up)⟩ hS3 fun h' c' e1 e2=>⟨h',c',rfl,rfl,fun b u e=>?_,by rw[← ev];exact e2⟩
  have:=Heap.lt_size e
  exact e1 b u (Nat.ne_of_lt (by rw[eS];exact Nat.lt_succ_of_lt this)) (Nat.ne_of_lt (by rw[eS];exact this)) (k3 _ _ (Nat.ne_of_lt (by rw[eS];exact this)) (k2 _ _ (k1 _ _ e)))
 have done:∀{q:Result}{s':Shared},(∃h' c,q=.ok (.ret (.ref S))/\s'={ s with heap:=h' }/\(∀b o,s.heap.get? b=some o->h'.get? b=some o)/\h'.get? S=some (seqObj "list" (us.map fun y=>Value.ref y.2).toArray c))->wpAny (model P w) A (load S >>= fun o=>match o.data with | .seq xs _=>pure xs.toList|_=>unsupported "internal:collect") Q E s':=fun⟨h',c,_,e,g,hS'⟩=>by
  subst e
  refine wpAny_bind (wpAny_load hS' (wpAny_pure ?_))
  show Q (us.map fun y=>Value.ref y.2).toArray.toList _
  rw[List.toList_toArray]
  exact h h' us p1 g
 refine wpAny_bind (wpAny_holding (bj6 ⟨o,k2 _ _ (k1 _ _ ho),hx.1⟩ ?_))
 refine wpAny_ite_split (fun _=>?_) (fun _=>wpAny_pure ⟨plainId_quiet PySem.F.plain_extend_loop _,codeAny_mono (loop h2 _ (fun _ _ _ q=>q) hS2) fun q s' x=>?_⟩)
 ·refine wpAny_bind (wpAny_rule (wpAny_bind ?_))
  show wpAny _ _ (updateSeq S (·.push .none) >>= fun _=>updateSeq S (·.pop)) _ _ _
  refine wpAny_bind (wpAny_updateSeq hS2 rfl ?_)
  have hS3:=Heap.get?_update_self (Obj.mapSeq (·.push Value.none)) hS2 rfl
  refine wpAny_updateSeq (hz:=by seq_fits) hS3 rfl ?_
  have hS4:=Heap.get?_update_self (Obj.mapSeq (·.pop)) hS3 rfl
  refine wpAny_pure ⟨plainId_quiet PySem.F.plain_extend_loop _,codeAny_mono (loop _ _ (fun b o hb q=>?_) hS4) fun q s' x=>?_⟩
  ·exact(Heap.get?_update_other _ _ (Ne.symm hb)).trans ((Heap.get?_update_other _ _ (Ne.symm hb)).trans q)
  ·obtain⟨_,_,e,_⟩:=id x;subst e;exact done x
 ·obtain⟨_,_,e,_⟩:=id x;subst e;exact done x
end
end G
namespace G
open PySem PySem.Spec PySem.W PyProof.Rows L2 PySem.SeqAt
structure LO {α:Type}(lt:α->α->Bool):Prop where
 irr:∀a,lt a a=false
 tr:∀a b c,lt a b=true->lt b c=true->lt a c=true
 tot:∀a b,a≠b->lt a b=true\/lt b a=true
def U1{α:Type} [DecidableEq α] (lt:α->α->Bool):List α->List α->Bool
 | [],[]=>false
 | [],_::_=>true
 | _::_,[]=>false
 | a::x,b::y=>if a=b then U1 lt x y else lt a b
section
variable {α:Type} [DecidableEq α] {lt:α->α->Bool}
theorem LO.asy(L:LO lt) (h:lt a b=true):lt b a=false:=by
 cases q:lt b a with
 | false=>rfl
 | true=>have:=L.tr a b a h q;rw[L.irr]at this;cases this
theorem ap3(L:LO lt):∀a:List α,U1 lt a a=false
 | []=>rfl
 | a::x=>by rw[U1,if_pos rfl];exact ap3 L x
theorem aE6(L:LO lt):∀a b c:List α,U1 lt a b=true->U1 lt b c=true->U1 lt a c=true
 | [],[],c,h,_=>by cases h
 | [],_::_,[],_,h=>by cases h
 | [],_::_,_::_,_,_=>rfl
 | _::_,[],_,h,_=>by cases h
 | _::_,_::_,[],_,h=>by cases h
 | a::x,b::y,c::z,h1,h2=>by
  rw[U1]at h1 h2 ⊢
  by_cases e1:a=b
  ·subst e1
   rw[if_pos rfl]at h1
   by_cases e2:a=c
   ·rw[if_pos e2]at h2 ⊢;exact aE6 L x y z h1 h2
   ·rw[if_neg e2]at h2 ⊢;exact h2
  ·rw[if_neg e1]at h1
   by_cases e2:b=c
   ·subst e2;rw[if_neg e1];exact h1
   ·rw[if_neg e2]at h2
    have e3:a≠c:=by rintro rfl;rw[L.asy h1]at h2;cases h2
    rw[if_neg e3];exact L.tr a b c h1 h2
theorem ap2(L:LO lt):∀a b:List α,a≠b->U1 lt a b=true\/U1 lt b a=true
 | [],[],h=>absurd rfl h
 | [],_::_,_=>.inl rfl
 | _::_,[],_=>.inr rfl
 | a::x,b::y,h=>by
  rw[U1,U1]
  by_cases e:a=b
  ·subst e
   rw[if_pos rfl,if_pos rfl]
   exact ap2 L x y fun q=>h (by rw[q])
  ·rw[if_neg e,if_neg (Ne.symm e)];exact L.tot a b e
theorem aE7(L:LO lt):LO (U1 lt):=⟨ap3 L,aE6 L,ap2 L⟩
end
def ltZ(i j:Int):Bool:=decide (i < j)
theorem bH9:LO ltZ:=⟨fun a=>by simp[ltZ],fun a b c h1 h2=>by simp[ltZ]at *;omega,fun a b h=>by simp[ltZ];omega⟩
def X4:Sp2->Sp2->Bool:=U1 (U1 ltZ)
theorem M1:LO X4:=aE7 (aE7 bH9)
theorem aw1{α:Type} [DecidableEq α] {lt:α->α->Bool}{f:α->D}(he:∀a b,PyData.eqv (f a) (f b)=decide (a=b)) (hl:∀a b,a≠b->ltD (f a) (f b)=some (lt a b)):∀x y:List α,ltDs (x.map f) (y.map f)=some (U1 lt x y)
 | [],[]=>rfl
 | [],_::_=>rfl
 | _::_,[]=>rfl
 | a::x,b::y=>by
  rw[xmc,xmc,ltDs,he,U1]
  by_cases e:a=b
  ·rw[if_pos e,if_pos (decide_eq_true e)];exact aw1 he hl x y
  ·rw[if_neg e,if_neg (by simp[e])];exact hl a b e
theorem aX2(a b:Sp2):ltD (e2 a) (e2 b)=some (X4 a b):=by
 unfold e2
 rw[ltD]
 refine aw1 bd5 (fun x y _=>?_) a b
 unfold e1
 rw[ltD]
 exact aw1 (fun i j=>by simp only[PyData.eqv];by_cases e:i=j<;>simp[e]) (fun i j _=>by rw[ltD];rfl) x y
theorem swS{l:List Sp2}(q:Sp2) (lt:Nat->Nat->Bool) (N:∀i j,lt i j=X4 (l.getD i q) (l.getD j q)):SW lt :=
 ⟨fun a=>by rw[N];exact M1.irr _,fun a b h=>by rw[N]at h ⊢;exact M1.asy h,fun a b c h1 h2=>by
  rw[N]at h1 h2 ⊢
  generalize l.getD a q=x at *
  generalize l.getD b q=y at *
  generalize l.getD c q=z at *
  by_cases e:x=y
  ·rw[e];exact h2
  ·by_cases e':y=z
   ·rw[← e'];exact h1
   ·have g1:X4 y x=true:=(M1.tot x y e).resolve_left (by rw[h1];exact Bool.false_ne_true)
    have g2:X4 z y=true:=(M1.tot y z e').resolve_left (by rw[h2];exact Bool.false_ne_true)
    exact M1.asy (M1.tr z y x g2 g1)⟩
def neS(k:Sp2):Bool:=!k.isEmpty
theorem aR9(h2:2<=l.length) (h64:l.length < 64) (hn:l.all neS=true):∃r:List Sp2,J9 (l.map e2)=some (r.map e2)/\r.Perm l/\r.Pairwise (fun a b=>X4 b a=false):=by
 obtain⟨q,s,rfl⟩:∃q s,l=q::s:=by
  cases l with
  | nil=>cases h2
  | cons q s=>exact⟨q,s,rfl⟩
 generalize hl:q::s=l at h2 h64 hn
 have gd:∀i,(l.map e2).getD i (e2 q)=e2 (l.getD i q):=fun i=>by
  rw[List.getD_eq_getElem?_getD,List.getD_eq_getElem?_getD,List.getElem?_map]
  cases l[i]?<;>rfl
 have N:∀i j,ltN (l.map e2) i j=X4 (l.getD i q) (l.getD j q):=fun i j=>by
  unfold ltN
  have hd:(l.map e2).headD .none=e2 q:=by rw[← hl];rfl
  rw[hd,gd,gd,aX2];rfl
 obtain⟨p1,p2,p3⟩:=ah2 (swS q _ N) (n:=l.length) (by omega)
 have e:J9 (l.map e2)=some ((evT (ltN (l.map e2)) (kas_sort l.length)).toList.map fun i=>(l.map e2).getD i .none):=by
  unfold J9
  rw[List.length_map,if_neg (by omega),if_pos]
  refine⟨h64,?_,?_⟩
  ·rw[List.all_map,List.all_eq_true]
   intro x hx
   have a:=V6 x
   have b:neS x=true:=List.all_eq_true.mp hn x hx
   have t:tt (e2 x)=true:=by
    cases x with
    | nil=>cases b
    | cons y x=>rfl
   show(tt (e2 x)&&((e2 x).canLay0&&decide ((e2 x).depth<=60)))=true
   rw[t,a.1,decide_eq_true (by omega)];rfl
  ·rw[List.all_map,List.all_eq_true];intro x _
   show((l.map e2).all fun y=>(ltD (e2 x) y).isSome)=true
   rw[List.all_map,List.all_eq_true];intro y _
   show(ltD (e2 x) (e2 y)).isSome=true
   rw[aX2];rfl
 generalize evT (ltN (l.map e2)) (kas_sort l.length)=p at e p1 p2 p3
 have p2':p.toList.Perm (List.range l.length):=by
  have:=Array.perm_iff_toList_perm.mp p2
  simpa using this
 refine⟨p.toList.map fun i=>l.getD i q,?_,?_,?_⟩
 ·rw[e,List.map_map]
  congr 1
  apply List.map_congr_left
  intro i hi
  have hi:i < l.length:=by simpa using p2'.mem_iff.mp hi
  show(l.map e2).getD i .none=e2 (l.getD i q)
  rw[List.getD_eq_getElem?_getD,List.getD_eq_getElem?_getD,List.getElem?_map,List.getElem?_eq_getElem hi];rfl
 ·have:=p2'.map (fun i=>l.getD i q)
  refine this.trans (List.Perm.of_eq ?_)
  apply List.ext_getElem
  ·simp
  ·intro i i1 i2;simp[i2]
 ·rw[List.pairwise_map,List.pairwise_iff_getElem]
  intro i j hi hj hij
  have hz:p.toList.length=l.length:=by rw[Array.length_toList,p1]
  have:=p3 i j (by omega) (by omega)
  rw[N]at this
  have g:∀m (hm:m < p.toList.length),p.getD m 0=p.toList[m]:=fun m hm=>by
   rw[Array.getD_eq_getD_getElem?,← Array.getElem?_toList,List.getElem?_eq_getElem hm];rfl
  rw[g j hj,g i hi]at this
  exact this
theorem am9{l l':List Sp2}(h:l'.Perm l) (h64:l.length < 64) (hn:l.all neS=true):∃r:List Sp2,J9 (l.map e2)=some (r.map e2)/\J9 (l'.map e2)=some (r.map e2)/\r.Perm l/\r.Pairwise (fun a b=>X4 b a=false):=by
 have hl:=h.length_eq
 rcases Nat.lt_or_ge l.length 2 with q|q
 ·have e:l'=l:=by
   match l,l',h,q with
   | [],[],_,_=>rfl
   | [a],[b],h,_=>rw[List.singleton_perm_singleton.mp h]
   | [],_::_,h,_=>exact absurd h.length_eq (by simp)
   | [_],[],h,_=>exact absurd h.length_eq (by simp)
   | [_],_::_::_,h,_=>exact absurd h.length_eq (by simp)
   | _::_::_,_,_,q=>exact absurd q (by simp)
  subst e
  have:J9 (l'.map e2)=some (l'.map e2):=by unfold J9;rw[List.length_map,if_pos q]
  refine⟨l',this,this,.refl _,?_⟩
  match l',q with
  | [],_=>exact .nil
  | [a],_=>exact List.pairwise_singleton _ _
  | _::_::_,q=>exact absurd q (by simp)
 ·obtain⟨r,e1,p1,s1⟩:=aR9 q h64 hn
  have hn':l'.all neS=true:=by rw[List.all_eq_true]at hn ⊢;exact fun x hx=>hn x (h.mem_iff.mp hx)
  obtain⟨r',e2',p2,s2⟩:=aR9 (l:=l') (by omega) (by omega) hn'
  have ek:r=r':=List.Perm.eq_of_pairwise (le:=fun a b=>X4 b a=false) (fun a b _ _ h1 h2=>by
   apply Classical.byContradiction
   intro ne
   rcases M1.tot a b ne with z|z
   ·rw[h2]at z;cases z
   ·rw[h1]at z;cases z) s1 s2 (p1.trans (h.symm.trans p2.symm))
  rw[← ek]at e2'
  exact⟨r,e1,e2',p1,s1⟩
end G
namespace G
open PySem PySem.Spec PySem.W PyProof.Rows L2 PySem.SeqAt
abbrev Sp:=List (List Int)
abbrev Cn:=List (Sp×Addr×Int)
abbrev CnR:Cn->List (Sp×Addr×Value)->Prop:=Paired fun p q=>p.1=q.1/\p.2.1=q.2.1/\∃t,q.2.2=.int p.2.2 t
def dSφ (P:Program) (w:World) (a:Addr) (xs:Cn) (h:Heap):Prop:=(a==sysModules)=false/\∃ys o es ep,CnR xs ys/\h.get? a=some o/\o.ExactDict/\o.data=.dict es ep/\es.toList=ys.map (entryOfKey (k2 P w))/\(ys.map (·.1)).Nodup
def dS(P:Program) (w:World) (a:Addr) (xs:Cn):HO:=.ext (dSφ P w a xs)
def vw(a d:Addr):HO:=.ext fun h=>h.IsItemsView a d
theorem by5{P:Program}{w:World}{H:Hp}{h:Heap}{a:Addr}{xs:Cn}(p:dSφ P w a xs h):E6 P w H h a (dS P w a xs) :=
 ⟨p,let⟨_,_,o,_,_,_,e,_⟩:=p;⟨o,e⟩,fun h1 h2 ⟨z,ys,o,es,ep,r,e,c⟩ k=>⟨z,ys,o,es,ep,r,k _ e,c⟩⟩
theorem bR5{P:Program}{w:World}{H:Hp}{h:Heap}{a d:Addr}(p:h.IsItemsView a d):E6 P w H h a (vw a d) :=
 ⟨p,let⟨o,e,_⟩:=p;⟨o,e⟩,fun h1 h2 ⟨o,e,c⟩ k=>⟨o,k _ e,c⟩⟩
def atX(xs:Cn) (k:Sp):Option Int:=(xs.find? fun p=>decide (p.1=k)).map (·.2.2)
def x8(xs:Cn) (k:Sp) (b:Addr) (n:Int):Cn:=if(atX xs k).isSome then xs.map fun p=>if p.1=k then(p.1,p.2.1,n) else p else xs++[(k,b,n)]
theorem CnR.at{k:Sp}:∀{xs:Cn}{ys:List (Sp×Addr×Value)},CnR xs ys->(atX xs k=none/\atKey ys k=none)\/∃n b t,atX xs k=some n/\atKey ys k=some (b,.int n t)
 | _,_,.nil=>.inl ⟨rfl,rfl⟩
 | p::xs,q::ys,.cons ⟨e1,e2,t,e3⟩ r=>by
  by_cases h:p.1=k
  ·exact .inr ⟨p.2.2,q.2.1,t,by simp[atX,h],by simp[atKey,← e1,h,← e3]⟩
  ·have h':¬q.1=k:=by rw[← e1];exact h
   rcases CnR.at (k:=k) r with⟨a,b⟩|⟨n,b,t,a,c⟩
   ·exact .inl ⟨by simpa [atX,h] using a,by simpa [atKey,h'] using b⟩
   ·exact .inr ⟨n,b,t,by simpa [atX,h] using a,by simpa [atKey,h'] using c⟩
theorem CnR.map{k:Sp}{n:Int}{t:Tok}:∀{xs:Cn}{ys:List (Sp×Addr×Value)},CnR xs ys->CnR (xs.map fun p=>if p.1=k then(p.1,p.2.1,n) else p) (ys.map (putAt k (.int n t)))
 | _,_,.nil=>.nil
 | p::xs,q::ys,.cons ⟨e1,e2,u,e3⟩ r=>by
  refine .cons ?_ (CnR.map r)
  unfold putAt
  dsimp only
  by_cases h:p.1=k
  ·rw[if_pos h,if_pos (e1 ▸ h)];exact⟨e1,e2,t,rfl⟩
  ·rw[if_neg h,if_neg (e1 ▸ h)];exact⟨e1,e2,u,e3⟩
theorem CnR.put{k:Sp}{n:Int}{t:Tok}{b:Addr}(r:CnR xs ys):CnR (x8 xs k b n) (storedH ys k b (.int n t)):=by
 unfold x8 storedH
 rcases CnR.at (k:=k) r with⟨a,c⟩|⟨m,b',u,a,c⟩
 ·rw[a,c];exact Paired.snoc r ⟨rfl,rfl,t,rfl⟩
 ·rw[a,c];exact CnR.map r
theorem aT8:(x8 xs k b n).length<=xs.length+1:=by
 unfold x8
 split<;>simp
theorem aT7{p:Sp×Addr×Int}(h:p∈x8 xs k b n):(∃q∈xs,p.1=q.1/\p.2.1=q.2.1)\/(p.1=k/\p.2.1=b):=by
 unfold x8 at h
 split at h
 ·obtain⟨q,hq,rfl⟩:=List.mem_map.mp h
  refine .inl ⟨q,hq,?_⟩
  split<;>exact⟨rfl,rfl⟩
 ·rcases List.mem_append.mp h with h|h
  ·exact .inl ⟨p,h,rfl,rfl⟩
  ·cases List.mem_singleton.mp h;exact .inr ⟨rfl,rfl⟩
section
variable {X:Cx}{pins:List (Addr×Obj)}{σ:L2.St}{H Hf:Hp}{s:Shared}
abbrev Kys(K:PySem.W.Frag) (Hf:Hp) (xs:Cn):Prop:=∀p∈xs,Rep K Hf (e2 p.1) (.ref p.2.1)
theorem bq0(I:Inv X pins σ H s) (h:Rep X.K H (e2 k) (.ref b)):(k2 X.prog X.w).is s.heap k b:=Rep.reads I h rfl
theorem ar6(I:Inv X pins σ H s) (h:H a=some (dS X.prog X.w a xs)) (ks:Kys X.K H xs):(a==sysModules)=false/\∃ys,CnR xs ys/\s.heap.DictOfH (k2 X.prog X.w) a ys:=by
 obtain⟨⟨z,ys,o,es,ep,r,e,c,d,f,n⟩,_⟩:=(show E6 X.prog X.w H s.heap a (dS X.prog X.w a xs) from I.hok a _ h)
 refine⟨z,ys,r,o,es,ep,e,c,d,f,fun q hq=>?_,n⟩
 have:∀{xs:Cn}{ys:List (Sp×Addr×Value)},CnR xs ys->Kys X.K H xs->∀q∈ys,(k2 X.prog X.w).is s.heap q.1 q.2.1:=by
  intro xs ys r
  induction r with
  | nil=>exact fun _ _ hq=>nomatch hq
  | cons h t ih =>
   intro ks q hq
   rcases List.mem_cons.mp hq with rfl|hq
   ·rw[← h.1,← h.2.1];exact bq0 I (ks _ (.head _))
   ·exact ih (fun p hp=>ks p (.tail _ hp)) q hq
 exact this r ks q hq
theorem bU1:PE X (.Dict [] [] pos) (fun σ H Q=>∀l,H l=none->Q (.ref l) (upd H l (dS X.prog X.w l []))):=fun pins s σ H Q I h =>
 wpAny_Dict_empty ⟨.ref s.heap.objs.size,_,I.laid (a:=s.heap.objs.size) (o:=dS X.prog X.w s.heap.objs.size []) (t':=s.toks) (fun _ _ q=>Heap.get?_push_of_some _ q) (Nat.le_refl _)
  (by5 ⟨beq_eq_false_iff_ne.mpr (Ne.symm (Nat.ne_of_lt I.big)),[],_,#[],0,.nil,Heap.get?_push_size _ rfl,⟨rfl,rfl,rfl⟩,rfl,rfl,List.nodup_nil⟩),rfl,h _ (I.hok.fresh (Nat.le_refl _))⟩
def bS5(X:Cx) (i j:Nat):L2.St->Hp->(Addr->Addr->Sp->Cn->Prop)->Prop:=fun σ H Q=>∃l b k xs Hf,σ[i]? = some (some (.ref l))/\σ[j]? = some (some (.ref b))/\H l=some (dS X.prog X.w l xs)/\B5 Hf H/\Rep X.K Hf (e2 k) (.ref b)/\Kys X.K Hf xs/\xs.length < 1000/\Q l b k xs
theorem aV5{o e:Expr}(hu:X.A.units+64 < cLine) (ho:PE X o (ag8 i)) (he:PE X e (ag8 j)) (m:M2 X o "get" apos e (.Constant (.int n0) c0 p0) cpos) :
  PE X (.Call (.Attribute o "get" apos) [e,.Constant (.int n0) c0 p0] [] cpos) (fun σ H Q=>bS5 X i j σ H fun l b k xs=>Q (.int ((atX xs k).getD n0)) H):=by
 intro pins s σ H Q I ⟨l,b,k,xs,Hf,e1,e2,e3,ss,rk,ks,hz,q⟩
 obtain⟨z,ys,r,dd⟩:=ar6 I e3 fun p hp=>(ks p hp).mono ss
 refine wpAny_Call_method m.base m.few m.line PySem.F.plainAttrs_dict PySem.F.slot_dict_get PySem.F.type_dict_get (thn (ho pins s σ H (fun v H'=>v=.ref l/\H'=H) I ⟨_,e1,rfl,rfl⟩) fun u s1 ⟨x,H1,I1,rx,h1,h2⟩=>?_)
 subst h1 h2
 cases rx
 obtain⟨z1,ys1,r1,dd1⟩:=ar6 I1 e3 fun p hp=>(ks p hp).mono ss
 obtain⟨od,es,ep,o1,o2,_⟩:=id dd1
 refine⟨⟨od,o1,o2.1⟩,fun a e=>by cases e;exact⟨od,o1,o2.2.1⟩,?_⟩
 rw[m.trees]
 refine Calls.callWith_builtin rfl (Calls.evalArgs_plain (Calls.spliced_cons (thn (he pins s1 σ H1 (fun v H'=>v=.ref b/\H'=H1) I1 ⟨_,e2,rfl,rfl⟩) fun iv s2 ⟨y,H2,I2,ry,h3,h4⟩ =>
  Calls.spliced_cons (thn (av6 pins s2 σ H2 (fun v H'=>v=.int n0/\H'=H2) I2 ⟨rfl,rfl⟩) fun fv s3 ⟨c,H3,I3,rz,h5,h6⟩=>Calls.spliced_nil ?_))))
 subst h3 h4 h5 h6
 cases ry
 obtain⟨t,rfl⟩:=rz
 obtain⟨z3,ys3,r3,dd3⟩:=ar6 I3 e3 fun p hp=>(ks p hp).mono ss
 refine call_meetsIn PySem.F.slot_dict_get dd3.typeIs PySem.F.entry_dict_get (PySem.F.args_dict_get_3 _ _ _) (meetsH_dict_get_default (k2 X.prog X.w) l b z3 (.int n0 t)) ⟨by show X.A.units+1+9 < _;omega,k,ys3,bq0 I3 (rk.mono ss),dd3,_,H3,I3.tok _,?_,q⟩
 rcases CnR.at (k:=k) r3 with⟨a,c⟩|⟨n,b',u,a,c⟩
 ·rw[a,c];exact⟨t,rfl⟩
 ·rw[a,c];exact⟨u,rfl⟩
def bT2(X:Cx) (i j:Nat) (n0 n1:Int):TS:=fun D σ H=>bS5 X i j σ H fun l b k xs=>D.nx σ (upd H l (dS X.prog X.w l (x8 xs k b ((atX xs k).getD n0+n1))))
theorem bE7{o e o' e':Expr}(hu:X.A.units+64 < cLine) (ho:PE X o (ag8 i)) (he:PE X e (ag8 j)) (ho':PE X o' (ag8 i)) (he':PE X e' (ag8 j)) (m:M2 X o "get" apos e (.Constant (.int n0) c0 p0) cpos)
  (hs:swapsWith (.BinOp (.Call (.Attribute o "get" apos) [e,.Constant (.int n0) c0 p0] [] cpos) .Add (.Constant (.int n1) c1 p1) bpos) (some (.Subscript o' e' pos')) pos.line X.env=pure false) :
  PS X (.Assign [.Subscript o' e' pos'] (.BinOp (.Call (.Attribute o "get" apos) [e,.Constant (.int n0) c0 p0] [] cpos) .Add (.Constant (.int n1) c1 p1) bpos) pos) (bT2 X i j n0 n1):=by
 intro pins s σ H D I ⟨l,b,k,xs,Hf,e1,e2,e3,ss,rk,ks,hz,q⟩
 refine wpAny_Assign_Subscript (thn (aV3 av8 (aV5 hu ho he m) av6 pins s σ H (fun v H'=>v=.int ((atX xs k).getD n0+n1)/\H'=H) I ⟨l,b,k,xs,Hf,e1,e2,e3,ss,rk,ks,hz,_,_,rfl,rfl,rfl,rfl⟩) fun r s1 ⟨v,H1,I1,rv,h1,h2⟩=>?_) hs
 subst h1 h2
 refine thn (ho' pins s1 σ H1 (fun v H'=>v=.ref l/\H'=H1) I1 ⟨_,e1,rfl,rfl⟩) fun u s2 ⟨x,H2,I2,rx,h1,h2⟩=>thn (he' pins s2 σ H2 (fun v H'=>v=.ref b/\H'=H2) I2 ⟨_,e2,rfl,rfl⟩) fun iv s3 ⟨y,H3,I3,ry,h3,h4⟩=>?_
 subst h1 h2 h3 h4
 cases rx;cases ry
 obtain⟨t,rfl⟩:=rv
 obtain⟨z,ys,r,dd⟩:=ar6 I3 e3 fun p hp=>(ks p hp).mono ss
 have b0:=aI1
 have yl:ys.length=xs.length:=(Paired.length r).symm
 refine wpAny_setItem_heap (hsz:=by omega) (by show X.A.units+1+9 < _;omega) (bq0 I3 (rk.mono ss)) dd fun h' dd' hs=>⟨σ,_,bu2 I3 (by rw[e3];exact True.intro) hs (let⟨o,_,_,w,_⟩:=dd';⟨o,w⟩) (by5 ?_),q⟩
 obtain⟨o,es,ep,g1,g2,g3,g4,_,g6⟩:=dd'
 exact⟨z,_,o,es,ep,r.put,g1,g2,g3,g4,g6⟩
end
end G
namespace G
open PySem PySem.Spec PySem.W PyProof.Rows L2 PySem.SeqAt
def dI:List D->Option (List Int)
 | []=>some []
 | .int i::r=>(dI r).map (i::·)
 | _=>none
def dP:List D->Option Sp
 | []=>some []
 | .tuple ds::r=>(dI ds).bind fun x=>(dP r).map (x::·)
 | _=>none
def dQ:List D->Option (List Sp)
 | []=>some []
 | .tuple ds::r=>(dP ds).bind fun x=>(dQ r).map (x::·)
 | _=>none
theorem by8:∀{ds:List D}{x:List Int},dI ds=some x->ds=x.map .int
 | [],_,h=>by cases h;rfl
 | .int i::r,_,h=>by
  obtain⟨y,e,rfl⟩:=Option.map_eq_some_iff.mp h
  rw[by8 e];rfl
 | .none::_,_,h | .bool _::_,_,h | .str _::_,_,h | .tuple _::_,_,h | .list _::_,_,h | .dict _::_,_,h=>by cases h
theorem by7:∀{ds:List D}{x:Sp},dP ds=some x->ds=x.map e1
 | [],_,h=>by cases h;rfl
 | .tuple i::r,_,h=>by
  obtain⟨y,e,h⟩:=Option.bind_eq_some_iff.mp h
  obtain⟨z,f,rfl⟩:=Option.map_eq_some_iff.mp h
  rw[by7 f,by8 e];rfl
 | .none::_,_,h | .bool _::_,_,h | .str _::_,_,h | .int _::_,_,h | .list _::_,_,h | .dict _::_,_,h=>by cases h
theorem be5:∀{ds:List D}{x:List Sp},dQ ds=some x->ds=x.map e2
 | [],_,h=>by cases h;rfl
 | .tuple i::r,_,h=>by
  obtain⟨y,e,h⟩:=Option.bind_eq_some_iff.mp h
  obtain⟨z,f,rfl⟩:=Option.map_eq_some_iff.mp h
  rw[be5 f,by7 e];rfl
 | .none::_,_,h | .bool _::_,_,h | .str _::_,_,h | .int _::_,_,h | .list _::_,_,h | .dict _::_,_,h=>by cases h
def aO7(m:List (Sp×Int)) (k:Sp):List (Sp×Int):=if(m.any fun p=>decide (p.1=k))=true then m.map fun p=>if p.1=k then(p.1,p.2+1) else p else m++[(k,1)]
def bf5(ks:List Sp):List (Sp×Int):=ks.foldl aO7 []
def prD(p:Sp×Int):D:=.tuple [e2 p.1,.int p.2]
def bp9(ds:List D):Option (List D):=(dQ ds).bind fun ks=>if ks.length < 1000 then J9 ((bf5 ks).map prD) else none
def prX(p:Sp×Addr×Int):Sp×Int:=(p.1,p.2.2)
theorem bP6(k:Sp):∀xs:Cn,atX xs k=((xs.map prX).find? fun p=>decide (p.1=k)).map (·.2)
 | []=>rfl
 | p::xs=>by
  have:=bP6 k xs
  unfold atX at this ⊢
  by_cases h:p.1=k
  ·simp[prX,h]
  ·simpa [prX,h] using this
theorem aI7(k:Sp):∀xs:Cn,(atX xs k).isSome=(xs.map prX).any fun p=>decide (p.1=k)
 | []=>rfl
 | p::xs=>by
  have:=aI7 k xs
  unfold atX at this ⊢
  by_cases h:p.1=k
  ·simp[prX,h]
  ·simpa [prX,h] using this
theorem aE2(k:Sp) (n:Int):∀xs:Cn,(∀p∈xs,p.1=k->p.2.2=n)->(xs.map fun p=>if p.1=k then(p.1,p.2.1,n+1) else p).map prX=(xs.map prX).map fun p=>if p.1=k then(p.1,p.2+1) else p
 | [],_=>rfl
 | p::xs,h=>by
  have ih:=aE2 k n xs fun q hq=>h q (.tail _ hq)
  rw[xmc,xmc,xmc,xmc,ih]
  congr 1
  by_cases e:p.1=k
  ·have:=h p (.head _) e
   simp[prX,e,this]
  ·simp[prX,e]
theorem aI6{k:Sp}{n:Int}:∀{xs:Cn},(xs.map (·.1)).Nodup->atX xs k=some n->∀p∈xs,p.1=k->p.2.2=n
 | q::xs,hn,e,p,hp,hk=>by
  rw[xmc,List.nodup_cons]at hn
  by_cases h:q.1=k
  ·have e':q.2.2=n:=by simpa [atX,h] using e
   rcases List.mem_cons.mp hp with rfl|hp
   ·exact e'
   ·exact absurd (List.mem_map.mpr ⟨p,hp,hk.trans h.symm⟩) hn.1
  ·have e':atX xs k=some n:=by simpa [atX,h] using e
   rcases List.mem_cons.mp hp with rfl|hp
   ·exact absurd hk h
   ·exact aI6 hn.2 e' p hp hk
theorem aT9{xs:Cn}(hn:(xs.map (·.1)).Nodup):(x8 xs k b ((atX xs k).getD 0+1)).map prX=aO7 (xs.map prX) k:=by
 unfold x8 aO7
 rw[← aI7]
 cases e:atX xs k with
 | none=>simp[prX]
 | some n=>simp only[Option.isSome_some,if_true,Option.getD_some];exact aE2 k n xs (aI6 hn e)
theorem aL1{xs:Cn}(hn:(xs.map (·.1)).Nodup):((x8 xs k b n).map (·.1)).Nodup:=by
 unfold x8
 split
 ·rw[List.map_map]
  have:((fun p:Sp×Addr×Int=>p.1) ∘ fun p=>if p.1=k then(p.1,p.2.1,n) else p)=fun p=>p.1:=by funext p;simp only[Function.comp];split<;>rfl
  rw[this];exact hn
 ·rename_i h
  rw[List.map_append,List.nodup_append]
  refine⟨hn,by simp,fun x hx y hy z=>?_⟩
  obtain⟨p,hp,rfl⟩:=List.mem_map.mp hx
  simp at hy
  refine h ?_
  unfold atX
  rw[Option.isSome_map,List.find?_isSome]
  exact⟨p,hp,by simp[z,hy]⟩
section
variable {X:Cx}{pins:List (Addr×Obj)}{σ:L2.St}{H Hf:Hp}{s:Shared}
theorem ao8{prog:Program}{w:World}(d:Addr) (hd:(d==sysModules)=false) :
  MeetsIn prog w (Builtin.«dict.items» ⟨[.ref d],[]⟩) (fun _ R s=>s.TypeIs (.ref d) "dict" /\ R (.ok (.ret (.ref s.heap.objs.size))) { s with heap:=s.heap.push { cls:=.type "dict_items", data:=.fields #[.ref d] } }) :=
 .of_wp fun A R s ⟨hT,h⟩=>by
  unfold Builtin.«dict.items» Builtin.Dict.noArgs
  refine wpAny_bind (wpAny_bind (wpAny_notOrdered_dict hT ?_))
  show wpAny _ _ (pure d) _ _ s
  refine wpAny_pure ?_
  show wpAny _ _ (Builtin.Dict.showsAll d >>= _) _ _ s
  unfold Builtin.Dict.showsAll
  rw[if_neg (by rw[hd];exact Bool.false_ne_true)]
  exact wpAny_bind (wpAny_pure (wpAny_bind (wpAny_newObj_type (wpAny_pure ⟨_,rfl,h⟩))))
theorem aV4{o:Expr}(ho:PE X o (ag8 i)) (hb:attributeBase o "items" X.env (eval o X.env)=eval o X.env) (hl:(apos.endLine==cpos.line)=true) :
  PE X (.Call (.Attribute o "items" apos) [] [] cpos) (fun σ H Q=>∃l xs,σ[i]? = some (some (.ref l))/\H l=some (dS X.prog X.w l xs)/\Kys X.K H xs/\∀r,H r=none->Q (.ref r) (upd H r (vw r l))):=by
 intro pins s σ H Q I ⟨l,xs,e1,e3,ks,q⟩
 refine wpAny_Call_method hb (by rfl) hl PySem.F.plainAttrs_dict PySem.F.slot_dict_items PySem.F.type_dict_items (thn (ho pins s σ H (fun v H'=>v=.ref l/\H'=H) I ⟨_,e1,rfl,rfl⟩) fun u s1 ⟨x,H1,I1,rx,h1,h2⟩=>?_)
 subst h1 h2
 cases rx
 obtain⟨z,ys,r,dd⟩:=ar6 I1 e3 ks
 obtain⟨od,es,ep,o1,o2,_⟩:=id dd
 refine⟨⟨od,o1,o2.1⟩,fun a e=>by cases e;exact⟨od,o1,o2.2.1⟩,?_⟩
 refine Calls.callWith_builtin rfl (PySem.evalArgs_none ?_)
 refine call_meetsIn PySem.F.slot_dict_items dd.typeIs PySem.F.entry_dict_items (PySem.F.args_dict_items_1 _) (ao8 l z) ⟨dd.typeIs,.ref s1.heap.objs.size,_,I1.laid (a:=s1.heap.objs.size) (o:=vw s1.heap.objs.size l) (t':=s1.toks) (fun _ _ q=>Heap.get?_push_of_some _ q) (Nat.le_refl _) (bR5 ⟨_,Heap.get?_push_size _ rfl,rfl,rfl⟩),rfl,q _ (I1.hok.fresh (Nat.le_refl _))⟩
theorem ap5{K:PySem.W.Frag}:∀{xs:Cn},Kys K Hf xs->Reps K Hf (xs.map fun p=>e2 p.1) ((xs.map (·.2)).map fun p=>V.ref p.1)
 | [],_=>rfl
 | p::xs,h=>⟨_,_,rfl,h p (.head _),ap5 fun q hq=>h q (.tail _ hq)⟩
theorem aU5:∀xs:Cn,prs (xs.map fun p=>e2 p.1) (xs.map (·.2))=(xs.map prX).map prD
 | []=>rfl
 | p::xs=>by rw[xmc,xmc,prs,aU5 xs];rfl
theorem bd9{P:Program}{w:World}:∀{xs:Cn}{ys:List (Sp×Addr×Value)},CnR xs ys->Ent (xs.map (·.2)) (ys.map (entryOfKey (k2 P w)))
 | _,_,.nil=>.nil
 | _,_,.cons ⟨e1,e2,t,e3⟩ r=>.cons ⟨by rw[entryOfKey,e2],t,by rw[entryOfKey,e3]⟩ (bd9 r)
theorem aP0(hu:X.A.units+64 < cLine) (hc:X.calm=true):G6 X (.builtin "sorted") (fun vs H Q=>∃r l xs Hf out,vs=[.ref r]/\H r=some (vw r l)/\H l=some (dS X.prog X.w l xs)/\B5 Hf H/\Kys X.K Hf xs/\xs.length<=1000/\J9 ((xs.map prX).map prD)=some out/\∀v H' Hf',Grow H Hf H' Hf'->Rep X.K Hf' (.list out) v->Q v H'):=by
 intro pins s σ H vs us Q I rv ⟨r,l,xs,Hf,out,e0,e1,e2,ss,ks,hz,e3,k⟩
 subst e0
 obtain⟨u,rfl,rx⟩:=K8 rv
 cases rx
 obtain⟨hv,_⟩:=(show E6 X.prog X.w H s.heap r (vw r l) from I.hok r _ e1)
 obtain⟨⟨z,ys,o,es,ep,rr,g1,g2,g3,g4,g5⟩,_⟩:=(show E6 X.prog X.w H s.heap l (dS X.prog X.w l xs) from I.hok l _ e2)
 exact aK1 (ws:=xs.map (·.2)) hu (I.ok.hd hc) (by simpa using hz) (by rw[g4];exact bd9 rr) g3 I ss hv g1 (ap5 ks) (by rw[aU5];exact e3) k
end
theorem Grow.own{H0 Hf0 H Hf:Hp}(g:Grow H0 Hf0 H Hf) (h0:H0 l=none) (hf:Hf l=none):Grow H0 Hf0 (upd H l o) Hf :=
 ⟨fun b u e=>by rw[A7 (A8 e h0)];exact g.big b u e,fun b u e=>by rw[A7 (A8 e hf)];exact g.sub b u e,g.ext,g.new⟩
def bI4:FnD:=fun l=>match l with
 | [.tuple sh]=>(atI sh 2).bind fun d=>match d with
  | .tuple ds=>(bp9 ds).map PyData.list
  | _=>none
 | _=>none
def aX9:DS:=fun ρ=>if ρ.length=3 then(A1 0 ρ).bind fun d=>(bI4 [d]).map Fl.rt else none
theorem bI3{X:Cx}(hN:X.N=[("sheet" : Str), "places_by_spot", "spot"]) (lc:∀x∈X.N,X.env.scope.names.lookup x=some .local) (hg:Gl X "sorted") (hm:X.mg "sorted" = none) (hc:X.calm=true) (hu:X.A.units+64 < cLine) (hx:X.xe=fun _ _=>False) (hf:∀x,X.fn x=true)
  (h1:(p5.endLine==p8.line)=true) (h2:(q5.endLine==q6.line)=true) :
  JSs X [.Assign [.Name "places_by_spot" a1] (.Dict [] [] a2) a3,.For (.Name "spot" b1) (.Subscript (.Name "sheet" b2) (.Constant (.int 2) 0 b3) b4) [.Assign [.Subscript (.Name "places_by_spot" p1) (.Name "spot" p2) p3] (.BinOp (.Call (.Attribute (.Name "places_by_spot" p4) "get" p5) [.Name "spot" p6,.Constant (.int 0) 0 p7] [] p8) .Add (.Constant (.int 1) 0 p9) p10) p11] [] b5,
   .Return (some (.Call (.Name "sorted" q1) [.Call (.Attribute (.Name "places_by_spot" q4) "items" q5) [] [] q6] [] q7)) q8] aX9:=fun ρ fl e H0 Hf0=>by
 have nd:X.N.Nodup:=by rw[hN];decide
 have n0:X.N[0]? = some ("sheet" : Str):=by rw[hN];rfl
 have n1:X.N[1]? = some ("places_by_spot" : Str):=by rw[hN];rfl
 have n2:X.N[2]? = some ("spot" : Str):=by rw[hN];rfl
 have v0:Vis X.env.scope "sheet" := .inl (lc _ (by rw[hN];simp))
 have v1:Vis X.env.scope "places_by_spot" := .inl (lc _ (by rw[hN];simp))
 have v2:Vis X.env.scope "spot" := .inl (lc _ (by rw[hN];simp))
 have jx:JE X (.Subscript (.Name "sheet" b2) (.Constant (.int 2) 0 b3) b4) (dIx (B1 0) ⇑2):=by0 (aZ1 0 n0 v0) aw6
 unfold aX9 at e
 split at e
 ·rename_i l3
  obtain⟨d,ed0,e⟩:=Option.bind_eq_some_iff.mp e
  unfold A1 at ed0
  split at ed0
  ·rename_i d0 ed
   cases ed0
   obtain⟨r,ek,rfl⟩:=Option.map_eq_some_iff.mp e
   unfold bI4 at ek
   split at ek
   ·rename_i sh es
    cases es
    obtain⟨t2,e2',ek⟩:=Option.bind_eq_some_iff.mp ek
    split at ek
    ·rename_i ds
     obtain⟨out,eo,rfl⟩:=Option.map_eq_some_iff.mp ek
     obtain⟨ks,eq,ez⟩:=Option.bind_eq_some_iff.mp eo
     split at ez
     ·rename_i hz
      cases be5 eq
      refine T3 (O6 (av2 nd n1 (.inl (lc _ (by rw[hN];simp))) bU1 (hf:=.inl (hf _))) (O6 (aU3 (by rw[hx];exact PassesOwn.never) hc (aV0 (jx (ρ.set 1 none) (.tuple (ks.map e2)) ?_)) (aC9 nd n2 (.inl (lc _ (by rw[hN];simp))) (.inl (hf _)))
       (ai5 (bE7 hu (J4 n1 v1) (J4 n2 v2) (J4 n1 v1) (J4 n2 v2) ⟨rfl,rfl,h1,rfl⟩ (by rfl))) (by intro _;rfl)) (ai5 (aU2 (F4 (aP0 hu hc) hg hm (by decide +kernel) (C0 (aV4 (J4 n1 v1) rfl h2) E3 rfl)))))) fun En σ H ⟨Hf,at0,en⟩=>?_
      ·show(B1 0 (ρ.set 1 none)).bind _=_
       have:(ρ.set 1 none)[0]? = some (‹.tuple sh›):=by rw[List.getElem?_set,if_neg (by decide)];exact ed
       simp only[B1,this,xbs,dC]
       exact e2'
      ·intro l hl
       have l0:H0 l=none:=at0.gr.big.free hl
       have lf:Hf l=none:=at0.gr.sub.free hl
       have g1:Grow H0 Hf0 (upd H l (dS X.prog X.w l [])) Hf:=at0.gr.trans (Grow.made at0.gr.sub hl)
       refine⟨H0,Hf,g1.sub,(at0.sl.grow (Grow.made at0.gr.sub hl)).hide 1 _,fun v H1 Hf1 gr1 rp=>?_⟩
       obtain⟨a,vs,rfl,sq,rs⟩:=rp
       have hl1:H1 l=some (dS X.prog X.w l []):=gr1.big _ _ A6
       have lf1:Hf1 l=none:=by
        cases q:Hf1 l with
        | none=>rfl
        | some o =>
         rcases gr1.new l (by rw[q];simp) with z|z
         ·exact absurd lf z
         ·rw[A6]at z;cases z
       have s3:σ.length=3:=at0.sl.len ▸ l3
       refine⟨a,rfl,⟨vs,B4 gr1.sub sq⟩,?_⟩
       refine bt6 (K:=X.K) (a:=a) (g:=bc7 2) (tb:=bT2 X 1 2 0 1) (H:=H1) (σ:=σ.set 1 (some (.ref l))) (xs:=vs) (fun i σ' H'=>∃cn Hf',σ'.length=3/\σ'[1]? = some (some (.ref l))/\Grow H0 Hf0 H' Hf'/\B5 Hf1 Hf'/\H' l=some (dS X.prog X.w l cn)/\Hf' l=none/\Kys X.K Hf' cn/\(cn.map (·.1)).Nodup/\cn.map prX=bf5 (ks.take i)/\cn.length<=i)
        ⟨[],Hf1,by simpa using s3,by simp[s3],g1.trans gr1,B5.refl _,hl1,lf1,(fun _ h=>nomatch h),List.nodup_nil,rfl,Nat.le_refl _⟩ ?_ ?_ ?_
       ·rintro i σ' H' _ ⟨cn,Hf',_,_,g',s',_⟩
        exact B4 (s'.trans g'.sub) sq
       ·rintro i x σ' H' hxi ⟨cn,Hf',sz,sl',g',s',hl',lf',ky,nd',ec,lc'⟩
        obtain⟨d,ed',rd⟩:=rs.get' hxi
        have hi:i < ks.length:=by
         rcases Nat.lt_or_ge i ks.length with q|q
         ·exact q
         ·rw[List.getElem?_eq_none (by simpa using q)]at ed';cases ed'
        rw[List.getElem?_map,List.getElem?_eq_getElem hi]at ed'
        cases ed'
        obtain⟨b,ws,rfl,_⟩:=id rd
        refine⟨l,b,ks[i],cn,Hf',by rw[List.getElem?_set,if_neg (by decide)];exact sl',by rw[List.getElem?_set,if_pos rfl,if_pos (by rw[sz];decide)],hl',g'.sub,rd.mono s',ky,by omega,?_⟩
        refine⟨_,Hf',by simpa using sz,by rw[List.getElem?_set,if_neg (by decide)];exact sl',g'.own l0 lf',s',A6,lf',fun p hp=>?_,aL1 nd',?_,Nat.le_trans aT8 (Nat.succ_le_succ lc')⟩
        ·rcases aT7 hp with⟨q,hq,z1,z2⟩|⟨z1,z2⟩
         ·rw[z1,z2];exact ky q hq
         ·rw[z1,z2];exact rd.mono s'
        ·rw[aT9 nd',ec,List.take_succ_eq_append_getElem hi]
         unfold bf5
         rw[List.foldl_append];rfl
       ·rintro σ' H' ⟨cn,Hf',sz,sl',g',s',hl',lf',ky,nd',ec,lc'⟩
        have lv:vs.length=ks.length:=by rw[rs.length,List.length_map]
        rw[lv,List.take_length]at ec
        refine⟨l,cn,sl',hl',fun p hp=>(ky p hp).mono g'.sub,fun r hr=>?_⟩
        have g2:Grow H' Hf' (upd H' r (vw r l)) Hf':=Grow.made g'.sub hr
        refine⟨r,l,cn,Hf',out,rfl,A6,by rw[A7 (A8 hl' hr)];exact hl',g2.sub,ky,by omega,by rw[ec];exact ez,fun v H2 Hf2 g3 r3=>?_⟩
        exact en v H2 Hf2 ((g'.trans g2).trans g3) r3
     ·cases ez
    ·cases ek
   ·cases ek
  ·cases ed0
 ·cases e
end G
namespace G
open PySem PySem.Spec PySem.W PyProof.Rows L2 PySem.SeqAt
def stH(P:Program) (w:World) (a:Addr) (zs:Zs):HO:=.ext fun h=>StS P w h a zs
theorem bC6(p:StS P w h a zs):E6 P w H h a (stH P w a zs) :=
 ⟨p,let⟨o,e,_⟩:=p;⟨o,e⟩,fun h1 h2 ⟨o,e,c⟩ k=>⟨o,k _ e,c⟩⟩
theorem an0{K:PySem.W.Frag}{Hf:Hp}:∀{ks:List Sp2}{vs:List V}{us:List Value},Reps K Hf (ks.map e2) vs->B3 vs us->∃ys:List (Sp2×Addr),ys.map (·.1)=ks/\us=ys.map (fun y=>Value.ref y.2)/\∀y∈ys,Rep K Hf (e2 y.1) (.ref y.2)
 | [],_,_,h,r=>by cases h;cases r;exact⟨[],rfl,rfl,fun _ q=>by simp at q⟩
 | k::ks,_,_,⟨v,vr,e,h1,h2⟩,r=>by
  subst e
  cases r with
  | cons r1 r2 =>
   obtain⟨ys,e1,e2',e3⟩:=an0 h2 r2
   obtain⟨b,ws,rfl,_⟩:=id h1
   cases r1
   refine⟨(k,b)::ys,by rw[xmc,e1],by rw[xmc,e2'],fun y hy=>?_⟩
   rcases List.mem_cons.mp hy with rfl|hy
   ·exact h1
   ·exact e3 y hy
section
variable {X:Cx}
abbrev RpZ(X:Cx) (Hf:Hp) (zs:Zs):Prop:=∀z∈zs,Rep X.K Hf (e2 z.2.1) (.ref z.2.2)
theorem aP1(hu:X.A.units+64 < cLine) (hc:X.calm=true):G6 X (.type "set") (fun xs H Q=>∃p vs,∃ks:List Sp2,∃Hf,xs=[.ref p]/\SqT X.K H p vs/\B5 Hf H/\Reps X.K Hf (ks.map e2) vs/\ks.length<=18 /\
  ∀l zs,H l=none->RpZ X Hf zs->(∀k,k∈zs.map (·.2.1)↔k∈ks)->(zs.map (·.2.1)).Nodup->Q (.ref l) (upd H l (stH X.prog X.w l zs))):=by
 intro pins s σ H xs us Q I r ⟨p,vs,ks,Hf,e,sq,ss,rs,hz,q⟩
 subst e
 obtain⟨u,rfl,rx⟩:=K8 r
 cases rx
 obtain⟨its,rv,pl,_⟩:=I.tuple sq
 obtain⟨ys,y1,y2,y3⟩:=an0 rs rv
 have kk:∀y∈ys,(k2 X.prog X.w).is s.heap y.1 y.2:=fun y hy=>bq0 I ((y3 y hy).mono ss)
 refine aK5 (ys:=ys) (I.ok.hd hc) (by omega) (let⟨o,a,b,c⟩:=pl;⟨o,a,b,c⟩) (by rw[List.toList_toArray];exact y2) (by rw[← List.length_map (f:=(·.1)),y1];exact hz) kk fun h' tk zs q1 q2 q3 q4=>?_
 refine⟨.ref _,_,I.laid (a:=s.heap.objs.size) (o:=stH X.prog X.w s.heap.objs.size zs) (h':=h') (t':=tk) q2 (Nat.le_refl _) (bC6 q1),rfl,q _ zs I.fresh (fun z hz=>y3 z.2 (q3 z hz)) (fun k=>by rw[q4,y1]) ?_⟩
 obtain⟨_,_,q⟩:=q1
 exact q.nd
theorem aO9(hu:X.A.units+64 < cLine) (hc:X.calm=true):G6 X (.builtin "sorted") (fun vs H Q=>∃r zs Hf out,vs=[.ref r]/\H r=some (stH X.prog X.w r zs)/\B5 Hf H/\RpZ X Hf zs/\zs.length<=18/\(∀us:List Sp2,us.Perm (zs.map (·.2.1))->J9 (us.map e2)=some out) /\
  ∀v H' Hf',Grow H Hf H' Hf'->Rep X.K Hf' (.list out) v->Q v H'):=by
 intro pins s σ H vs us Q I rv ⟨r,zs,Hf,out,e0,e1,ss,ks,hz,e3,k⟩
 subst e0
 obtain⟨u,rfl,rx⟩:=K8 rv
 cases rx
 obtain⟨hS,_⟩:=(show E6 X.prog X.w H s.heap r (stH X.prog X.w r zs) from I.hok r _ e1)
 refine V0 fun{E R} hR=>as4 (A:=X.A.in1) (by simpa using I.ok.hd hc) hz hS fun h' us pm kp=>?_
 have I':Inv X pins σ H { s with heap:=h',toks:=s.toks }:=K5 (ch:=[]) I (fun b hb=>by simp at hb) fun b u _ q=>kp b u q
 have rs:Reps X.K Hf ((us.map (·.1)).map e2) (us.map fun y=>V.ref y.2):=by
  have:∀l:List (Sp2×Addr),(∀y∈l,y∈us)->Reps X.K Hf ((l.map (·.1)).map e2) (l.map fun y=>V.ref y.2):=by
   intro l
   induction l with
   | nil=>intro _;rfl
   | cons y l ih =>
    intro hy
    refine⟨_,_,rfl,?_,ih fun z hz=>hy z (.tail _ hz)⟩
    obtain⟨z,hz,e⟩:=List.mem_map.mp (pm.mem_iff.mp (hy y (.head _)))
    rw[← e];exact ks z hz
  exact this us fun _ q=>q
 have rv':B3 (us.map fun y=>V.ref y.2) (us.map fun y=>Value.ref y.2):=by
  have:=Z8 (us.map (·.2))
  rw[List.map_map,List.map_map]at this
  exact this
 have pm1:(us.map (·.1)).Perm (zs.map (·.2.1)):=by
  have:=pm.map (·.1)
  rw[List.map_map]at this
  exact this
 obtain⟨outv,a1,a2,a3,a4⟩:=am8 (Q:=Q) hu I' ss rs rv' (e3 _ pm1) k
 exact hR _ outv _ a1 a2 a3 a4
def ad0(a:List Sp2) (k:Sp2):List Sp2:=if k∈a then a else a++[k]
def fsK(ks:List Sp2):List Sp2:=ks.foldl ad0 []
theorem bb7(a:List Sp2) (k j:Sp2):j∈ad0 a k↔j∈a\/j=k:=by
 unfold ad0
 split
 ·rename_i h
  exact⟨.inl,fun z=>z.elim id fun e=>e ▸ h⟩
 ·simp
theorem t4(j:Sp2):∀(ks a:List Sp2),j∈ks.foldl ad0 a↔j∈a\/j∈ks
 | [],a=>by simp
 | k::ks,a=>by rw[List.foldl_cons,t4 j ks,bb7,List.mem_cons];grind
theorem bd0:∀(ks a:List Sp2),a.Nodup->(ks.foldl ad0 a).Nodup
 | [],_,h=>h
 | k::ks,a,h=>by
  refine bd0 ks _ ?_
  unfold ad0
  split
  ·exact h
  ·rename_i n
   rw[List.nodup_append]
   exact⟨h,by simp,fun x hx y hy e=>by simp at hy;subst hy;subst e;exact n hx⟩
theorem ak3:∀(ks a:List Sp2),(ks.foldl ad0 a).length<=a.length+ks.length
 | [],_=>by simp
 | k::ks,a=>by
  have:=ak3 ks (ad0 a k)
  have h:(ad0 a k).length<=a.length+1:=by unfold ad0;split<;>simp
  rw[List.foldl_cons,List.length_cons]
  omega
def Y7(f:Rho->Option (Bool×List D)):DE:=fun ρ=>(f ρ).bind fun q=>if q.1=false then none else(dQ q.2).bind fun ks=>if ks.length<=18/\ks.all neS=true then(J9 ((fsK ks).map e2)).map PyData.list else none
theorem aM8(hu:X.A.units+64 < cLine) (hg:Gl X "sorted") (hm:X.mg "sorted" = none) (hg2:Gl X "set") (hm2:X.mg "set" = none) (h:JQ X e f) (hc:X.calm=true) (he:starEach [e] X.env=[(false,eval e X.env)]) :
  JE X (.Call (.Name "sorted" p) [.Call (.Name "set" p2) [e] [] pos2] [] pos) (Y7 f):=fun ρ d q=>by
 obtain⟨⟨t,ds⟩,h1,q⟩:=Option.bind_eq_some_iff.mp q
 split at q
 ·cases q
 ·rename_i ht
  have ht:t=true:=by simpa using ht
  subst ht
  obtain⟨ks,h2,q⟩:=Option.bind_eq_some_iff.mp q
  split at q
  ·rename_i hz
   obtain⟨out,e3,rfl⟩:=Option.map_eq_some_iff.mp q
   have ed:ds=ks.map e2:=be5 h2
   subst ed
   refine A9 (F4 (aO9 hu hc) hg hm (by decide +kernel) (C0 (O7 (aP1 hu hc) hg2 hm2 bP1 (C0 (h ρ true _ h1) E3 he) (he:=he)) E3 rfl)) fun σ H Q ⟨H0,Hf,s,sl,k⟩=>?_
   refine⟨H0,Hf,s,sl,fun v H1 Hf1 g1 ⟨a,vs,e1,e2',e4⟩=>⟨a,vs,ks,Hf1,by rw[e1],?_,g1.sub,e4,hz.1,fun l zs hl rz kz nz=>?_⟩⟩
   ·exact e2'
   ·have pmz:(zs.map (·.2.1)).Perm (fsK ks):=(List.perm_ext_iff_of_nodup nz (bd0 ks [] List.nodup_nil)).mpr fun j=>by
     rw[kz]
     have:=t4 j ks []
     simp only[List.not_mem_nil,false_or]at this
     exact this.symm
    have len:(fsK ks).length<=18:=by have:=ak3 ks [];simp at this;unfold fsK;omega
    have hn:(fsK ks).all neS=true:=by
     rw[List.all_eq_true]
     intro x hx
     have:=(t4 x ks []).mp hx
     simp at this
     exact List.all_eq_true.mp hz.2 x this
    refine⟨l,zs,Hf1,out,rfl,A6,?_,rz,by have:=pmz.length_eq;rw[List.length_map]at this;omega,fun us pu=>?_,fun v2 H2 Hf2 g2 r2=>?_⟩
    ·exact(Grow.made (o:=stH X.prog X.w l zs) g1.sub hl).sub
    ·obtain⟨r,r1,r2,_⟩:=am9 (pu.trans pmz) (by omega) hn
     rw[r2,← r1];exact e3
    ·exact k _ _ _ ((g1.trans (Grow.made g1.sub hl)).trans g2) r2
  ·cases q
end
end G
namespace G
open PySem PySem.Spec PyProof.Rows L2
abbrev DA:=Rho->Option (List D)
abbrev DQ:=Rho->Option (Bool×List D)
abbrev DT:=Rho->Option Bool
abbrev DG:=D->Rho->Option Rho
def dNo:DE:=fun _=>none
def aNo:DA:=fun _=>none
def qNo:DQ:=fun _=>none
def tNo:DT:=fun _=>none
def gNo:DG:=fun _ _=>none
structure Ev where
 e:Kx->Expr->DE
 q:Kx->Expr->DQ
 n:Kx->Expr->DA
 t:Kx->Expr->DT
 g:Kx->Expr->DG
 b:Kx->List Stmt->DS
def as5:CmpOp->D->D->Option D
 | .Lt=>ltI | .LtE=>leI | .Gt=>gtI | .GtE=>geI | .Eq=>eqD | .NotEq=>neD | .Is=>isB | .IsNot=>bW0 | .In=>inD false | .NotIn=>inD true
def evA(f:Expr->DE):List Expr->DA
 | []=>A2
 | e::es=>if pl e then A0 (f e) (evA f es) else aNo
def aN3(f:Expr->DE) (op:BoolOp):List Expr->DE
 | []=>dNo
 | [a]=>f a
 | a::b::r=>match op with
  | .And=>aO5 (f a) (aN3 f op (b::r))
  | .Or=>dOr (f a) (aN3 f op (b::r))
def aN2(f:Expr->DT) (op:BoolOp):List Expr->DT
 | []=>tNo
 | [a]=>f a
 | a::b::r=>match op with
  | .And=>aA4 (f a) (aN2 f op (b::r))
  | .Or=>au2 (f a) (aN2 f op (b::r))
def evO(f:Expr->DE):Option Expr->Rho->Option (Option Int)
 | none=>Q9
 | some e=>Q8 (f e)
def bO0(f:Expr->DG):List Expr->List D->Rho->Option Rho
 | []=>L4
 | e::es=>D6 (f e) (bO0 f es)
def aG4(f:Expr->DT):List Expr->DT
 | []=>F5
 | [t]=>f t
 | _=>tNo
def K2:Expr->List Str
 | .Name x _=>[x]
 | .Tuple es _ _=>es.filterMap fun | .Name x _=>some x|_=>none
 | _=>[]
def rl(scope sc:Scope):Scope:={ scope with names:=scope.names.map fun(n,k)=>if(k == .free&&sc.kind == .function&&sc.names.lookup n==some .cell) then(n,.cell) else(n,k) }
def ax0(n:Nat) (caps l:List Nat):List Nat:=(List.range caps.length).filterMap fun i=>match caps[i]? with|some j=>if l.contains j then some (n+i) else none|none=>none
def bS9(c:Kx) (j:Nat):Str:=(c.N[j]?).getD ""
def inner(c:Kx) (tn:List Str) (caps:List Nat) (scope:Scope):Kx :=
 { N:=tn++caps.map (bS9 c),sc:=rl scope c.sc,df:=false,own:=ax0 tn.length caps c.own,cpt:=[],tx:=ax0 tn.length caps c.tx,dx:=ax0 tn.length caps c.dx,old:=c.old,fz:=[],hc:=c.hc }
def isList:Expr->Bool
 | .List ..=>true
 | .ListComp ..=>true
 | _=>false
def Y0(c:Kx) (l:List Nat):Expr->Bool
 | .Name x _=>(match Q3 x c.N with|some i=>l.contains i|none=>false)
 | _=>false
def bM6:Expr->Bool
 | .Constant (.str _) _ _=>true
 | _=>false
def opW(S:Sg) (c:Kx) (op:CmpOp) (b:Expr):D->D->Option D:=as5 op
def k8:Expr->Bool
 | .Tuple ..=>true
 | _=>false
def bB3(x:Str):Option String:=if x == "int" then some "int" else if x == "bool" then some "bool" else if x == "str" then some "str" else if x == "tuple" then some "tuple" else if x == "list" then some "list" else none
section
variable (S:Sg) (r:Ev)
def evR(c:Kx) (tg:Expr) (a:Expr):DA:=match a with
 | .Call f as kw _=>(match f,as,kw with
  | .Name y _,[e],[]=>(match e with
   | .Call f2 as2 kw2 _=>(match f2,as2,kw2 with
    | .Name z _,[b],[]=>if biB S c "list" y&&biB S c "enumerate" z&&k8 tg&&pl b then fun _=>none else fun _=>none
    | _,_,_=>fun _=>none)
   | _=>fun _=>none)
  | _,_,_=>fun _=>none)
 | _=>fun _=>none
def evI(c:Kx) (tg it:Expr):DA:=match it with
 | .Call (.Name x _) [a] [] _=>if biB S c "reversed" x then evR S c tg a else if biB S c "range" x&&pl a then F9 (r.e c a) else if biB S c "enumerate" x&&k8 tg&&pl a then aF9 (qE (r.e c a)) else G4 (r.e c it)
 | .Call (.Name x _) [a,b] [] _=>if biB S c "range" x&&pl a&&pl b then(fun _=>none) else if biB S c "zip" x&&k8 tg&&pl a&&pl b then(fun _=>none) else G4 (r.e c it)
 | _=>if Y0 c c.tx it then(fun _=>none) else G4 (r.e c it)
def evC(c:Kx) (ex:Expr):DA:=match ex with
 | .ListComp elt [⟨tgt,iter,ifs,0⟩] scope pos =>
  let tn:=K2 tgt
  let caps:=(c.hc.lookup (pos.line,pos.col)).getD []
  let c':=inner c tn caps scope
  if t8 c.N c'.N tn.length caps c.sc scope&&V2 c'.N&&pl iter then C2 tn.length caps (evI S r c tgt iter) (r.g c' tgt) (aG4 (r.t c') ifs) (r.e c' elt) else aNo
 | _=>aNo
def bz1(c:Kx) (tgt:Expr) (caps:List Nat) (scope:Scope):Bool:=match tgt with
 | .Name x _=>ab3 c.N (inner c [x] caps scope).N caps c.sc scope x&&V2 (inner c [x] caps scope).N
 | _=>false
def bO1(c:Kx) (ex:Expr):DA:=match ex with
 | .ListComp elt [⟨tgt,iter,ifs,0⟩] scope pos =>
  let caps:=(c.hc.lookup (pos.line,pos.col)).getD []
  let c':=inner c (K2 tgt) caps scope
  if bz1 c tgt caps scope&&pl iter then C2 1 caps (evI S r c tgt iter) (B8 0) (aG4 (r.t c') ifs) (r.e c' elt) else evC S r c ex
 | _=>evC S r c ex
def at6(c:Kx) (x:Str) (a:Expr):DE :=
 if !(pl a) then dNo
 else if biB S c "len" x then(match a with
  | .Call (.Name y _) [e] [] _=>if biB S c "set" y&&pl e then dNo else Y9 (r.q c a)
  | _=>if Y0 c c.tx a then dNo else Y9 (r.q c a))
 else if biB S c "tuple" x then P2 (r.q c a)
 else if biB S c "all" x then bu7 (r.q c a)
 else if biB S c "int" x then bu6 (r.e c a)
 else if biB S c "str" x then dNo
 else if biB S c "sum" x then bZ0 (r.q c a)
 else if biB S c "min" x then ar7 (r.q c a)
 else if biB S c "max" x then ar9 (r.q c a)
 else dNo
def at5(c:Kx) (x:Str) (a b:Expr):DE :=
 if !(pl a) then dNo
 else if biB S c "isinstance" x then(match b with
  | .Name y _=>(match bB3 y with
   | some T=>if biB S c y y then bu5 T (r.e c a) else dNo
   | none=>dNo)
  | _=>dNo)
 else if !(pl b) then dNo
 else if biB S c "min" x then ar8 (r.e c a) (r.e c b)
 else if biB S c "max" x then as0 (r.e c a) (r.e c b)
 else dNo
def bD3:Expr->Option (Str×Expr)
 | .Call (.Name y _) [e] [] _=>some (y,e)
 | _=>none
def aQ6(c:Kx) (x:Str) (args:List Expr) (ex:Expr):DE:=match S.fn.lookup x with
 | some (F,n)=>(match args with
  | [a]=>(match bD3 a with
   | some (y,e)=>if biB S c "sorted" x&&biB S c "set" y then(if pl e then Y7 (r.q c e) else dNo) else if V9 c.sc x&&args.length==n&&args.all pl then A3 F (evA (r.e c) args) else dNo
   | none=>if V9 c.sc x&&args.length==n&&args.all pl then A3 F (evA (r.e c) args) else dNo)
  | _=>if V9 c.sc x&&args.length==n&&args.all pl then A3 F (evA (r.e c) args) else dNo)
 | none=>match args with
  | [a]=>if biB S c "list" x then G5 (r.n c ex) else at6 S r c x a
  | [a,b]=>at5 S r c x a b
  | _=>dNo
def bC9:Expr->Option (Option Expr×Option Expr×Option Expr)
 | .Slice lo hi st _=>some (lo,hi,st)
 | _=>none
def unE:Expr->Option (UnaryOp×Expr)
 | .UnaryOp o a _=>some (o,a)
 | _=>none
def cd7:Const->Bool
 | .int i=>decide (i=1)
 | _=>false
def bU9:Expr->Bool
 | .Constant k _ _=>cd7 k
 | _=>false
def m1E(e:Expr):Bool:=match unE e with
 | some t=>(match t.1 with
  | .USub=>bU9 t.2
  | _=>false)
 | none=>false
def nmP:Expr->Option (Str×Pos)
 | .Name x p=>some (x,p)
 | _=>none
def bR7:List Expr->Option ((Str×Pos)×Str×Pos)
 | [a,b]=>(nmP a).bind fun x=>(nmP b).map fun y=>(x,y)
 | _=>none
def bR6:Expr->Option (Expr×Expr)
 | .Tuple es _ _=>(match es with
  | [a,b]=>some (a,b)
  | _=>none)
 | _=>none
def bz8(c:Kx) (a i:Expr):DE:=match bC9 i with
 | some t=>(match t.2.2 with
  | none =>
   if c.old then ax5 (r.e c a) (evO (r.e c) t.1) (evO (r.e c) t.2.1)
   else if Y0 c c.tx a then bZ1 (r.e c a) (evO (r.e c) t.1) (evO (r.e c) t.2.1)
   else if Y0 c c.own a then bZ2 (r.q c a) (evO (r.e c) t.1) (evO (r.e c) t.2.1)
   else Y8 (r.e c a) (evO (r.e c) t.1) (evO (r.e c) t.2.1)
  | some e=>if t.1.isNone&&t.2.1.isNone&&m1E e then by6 (r.e c a) else dNo)
 | none=>if pl i then(if bM6 a then bZ3 (r.e c a) (r.e c i) else dIx (r.q c a) (r.e c i)) else dNo
def xCn(k:Const):DE:=match k with
 | .none=>dC .none
 | .bool b=>dC (.bool b)
 | .int i=>dC (.int i)
 | .str x=>dC (.str x)
 | _=>dNo
def bA4(c:Kx) (a:Expr) (op:Operator) (b:Expr):DE:=match op with
 | .Add=>if c.old && !(isList a || isList b) then A4 P3 (r.e c a) (r.e c b) else A4 J1 (r.e c a) (r.e c b)
 | .Sub=>A4 am6 (r.e c a) (r.e c b)
 | .Mult=>if c.old then A4 L6 (r.e c a) (r.e c b) else(match a with
  | .Subscript v _ _=>if Y0 c c.tx v then A4 bH2 (r.e c a) (r.e c b) else A4 G0 (r.e c a) (r.e c b)
  | _=>A4 G0 (r.e c a) (r.e c b))
 | .FloorDiv=>A4 W0 (r.e c a) (r.e c b)
 | .Mod=>A4 N1 (r.e c a) (r.e c b)
 | .Pow=>dNo
 | _=>dNo
def xUn(c:Kx) (op:UnaryOp) (a:Expr):DE:=match op with
 | .USub=>be7 (r.e c a)
 | .Not=>be6 (r.e c a)
 | _=>dNo
def bA2(c:Kx) (a:Expr) (ops:List CmpOp) (bs:List Expr):DE:=match ops,bs with
 | [op],[b]=>if pl b then A4 (opW S c op b) (r.e c a) (r.e c b) else dNo
 | [op,op'],[b,d]=>if pl d then S5 (as5 op) (as5 op') (r.e c a) (r.e c b) (r.e c d) else dNo
 | _,_=>dNo
def bR1(c:Kx) (o:Expr) (m:Str) (apos cpos:Pos) (args:List Expr):DE:=(fun(_:Ev)=>dNo) r
def xCl(c:Kx) (f:Expr) (args:List Expr) (kw:List Keyword) (pos:Pos):DE:=match kw with
 | []=>(match f with
  | .Name x p=>aQ6 S r c x args (.Call (.Name x p) args [] pos)
  | .Attribute o m apos=>bR1 r c o m apos pos args
  | _=>dNo)
 | _=>dNo
def xDs(ks:List (Option Expr)) (vs:List Expr):DE:=dNo
def xE(c:Kx) (ex:Expr):DE:=match ex with
 | .Constant k _ _=>xCn k
 | .Name x _=>(match Q3 x c.N with
  | some i=>if ag5 c.sc x then A1 i else dNo
  | none=>(match S.cs.lookup x with
   | some d=>if V9 c.sc x then dC d else dNo
   | none=>dNo))
 | .Tuple es _ _=>if es.length<=1000 then D8 (evA (r.e c) es) else dNo
 | .List _ _=>G5 (r.n c ex)
 | .ListComp _ _ _ _=>G5 (r.n c ex)
 | .BinOp a op b _=>bA4 r c a op b
 | .UnaryOp op a _=>xUn r c op a
 | .Compare a ops bs _=>bA2 S r c a ops bs
 | .BoolOp op vs _=>aN3 (r.e c) op vs
 | .IfExp t a b _=>aO3 (r.t c t) (r.e c a) (r.e c b)
 | .Subscript a i _=>bz8 r c a i
 | .Call f args kw pos=>xCl S r c f args kw pos
 | .Dict ks vs _=>xDs ks vs
 | _=>dNo
def cd0(c:Kx) (f:Expr) (as:List Expr) (kw:List Keyword):Bool:=match f with
 | .Name x _=>as.length==1&&kw.isEmpty&&biB S c "list" x
 | _=>false
def xQ(c:Kx) (ex:Expr):DQ:=match ex with
 | .Name x _=>(match Q3 x c.N with
  | some i=>if ag5 c.sc x then B1 i else qNo
  | none=>qE (r.e c ex))
 | .List _ _=>qN (r.n c ex)
 | .ListComp _ _ _ _=>qN (r.n c ex)
 | .Call f as kw _=>if cd0 S c f as kw then qN (r.n c ex) else qE (r.e c ex)
 | _=>qE (r.e c ex)
def xNl(c:Kx) (f:Expr) (as:List Expr) (kw:List Keyword):DA:=match f with
 | .Name x _=>(match as,kw with
  | [a],[]=>if biB S c "list" x&&pl a then(fun ρ=>(r.q c a ρ).map fun q=>q.2) else aNo
  | _,_=>aNo)
 | _=>aNo
def xN(c:Kx) (ex:Expr):DA:=match ex with
 | .List es _=>if es.length<=1000 then evA (r.e c) es else aNo
 | .ListComp _ _ _ _=>bO1 S r c ex
 | .Call f as kw _=>xNl S r c f as kw
 | .BinOp a op b _=>(match op with
  | .Add=>bW1 (r.q c a) (r.q c b)
  | _=>aNo)
 | _=>aNo
def bv8(c:Kx) (a:Expr) (ops:List CmpOp) (bs:List Expr):DT:=match ops,bs with
 | [op],[b]=>if pl b then tB2 (opW S c op b) (r.e c a) (r.e c b) else tNo
 | [op,op'],[b,d]=>if pl d then au1 (S5 (as5 op) (as5 op') (r.e c a) (r.e c b) (r.e c d)) else tNo
 | _,_=>tNo
def ca8(c:Kx) (op:UnaryOp) (a:Expr):DT:=match op with
 | .Not=>Q7 (r.t c a)
 | _=>tNo
def xT(c:Kx) (ex:Expr):DT:=match ex with
 | .Compare a ops bs _=>bv8 S r c a ops bs
 | .BoolOp op vs _=>aN2 (r.t c) op vs
 | .UnaryOp op a _=>ca8 r c op a
 | _=>if plT ex then W3 (r.e c ex) else tNo
def xG(c:Kx) (ex:Expr):DG:=match ex with
 | .Name x _=>(match Q3 x c.N with
  | some i=>if aM4 c x then B8 i else gNo
  | none=>gNo)
 | .Tuple es _ _=>if es.all pl then K0 es.length (bO0 (r.g c) es) else gNo
 | _=>gNo
def bU3(c:Kx) (x y:Str) (px py:Pos) (a b:Expr):Bool :=
 c.df&&pl a&&pl b && !(x==y)&&px.line==py.line&&c.sc.names.lookup x==some .local&&c.sc.names.lookup y==some .local && !(([a,b]:List Expr).all (foldedForSure 8)) && !(([a,b]:List Expr).all (constantsAlone 8))
def bA5(c:Kx) (tg v:Expr) (es:List Expr):DS:=match bR7 es with
 | some ((x,px),(y,py))=>if k8 v then(match bR6 v with
  | some (a,b)=>(match Q3 x c.N with
   | some i=>(match Q3 y c.N with
    | some j=>if bU3 c x y px py a b then ah5 i j (evA (r.e c) [a,b]) else B0
    | none=>B0)
   | none=>B0)
  | none=>B0) else aK8 (r.e c v) (r.g c tg)
 | none=>if k8 v&&(es.length==2 || es.length==3) then B0 else aK8 (r.e c v) (r.g c tg)
def bA7(c:Kx) (x:Str) (p':Pos) (v:Expr):DS:=match Q3 x c.N with
 | none=>B0
 | some i=>if !(aM4 c x) then B0 else(match v with
  | .ListComp _ _ sc pv=>if c.sc.names.lookup x==some .local then
    (if c.df&&p'.line==pv.line && !(sc.names.any fun(n,k)=>n==x&&(k == .local || k == .cell)) then(if c.own.contains i then au6 i (evC S r c v) else w6 i (evC S r c v)) else B0)
   else D0 i (r.e c v)
  | _=>if isC v then B0 else if c.own.contains i then au6 i (r.n c v) else D0 i (r.e c v))
def bA6(c:Kx) (a i v:Expr):DS:=match nmP a with
 | none=>B0
 | some x=>(match bC9 i with
  | none=>B0
  | some t=>if t.2.2.isSome then B0 else(match Q3 x.1 c.N with
   | none=>B0
   | some i=>if ag5 c.sc x.1 && !(isC v) then bT1 i (evO (r.e c) t.1) (evO (r.e c) t.2.1) (r.n c v) else B0))
def bR4(c:Kx) (tg v:Expr) (p:Pos):DS:=match tg with
 | .Name x p'=>bA7 S r c x p' v
 | .Subscript a i _=>bA6 r c a i v
 | .Tuple es _ _=>bA5 r c tg v es
 | _=>B0
def bz9(c:Kx) (x m:Str) (e:Expr):DS:=match Q3 x c.N with
 | none=>B0
 | some i=>if ag5 c.sc x&&pl e then(if m == "append" then ah6 i (r.e c e) else if m == "extend" then bD6 i (r.e c e) else B0) else B0
def xEx(c:Kx) (e:Expr):DS:=match e with
 | .Call f args kw cpos=>(match f with
  | .Attribute o m apos=>(match o with
   | .Name x _=>(match args,kw with
    | [e],[]=>if apos.endLine==cpos.line then bz9 r c x m e else B0
    | _,_=>B0)
   | _=>B0)
  | _=>B0)
 | _=>B0
def ca9(c:Kx):Option Expr->DS
 | some e=>C4 (r.e c e)
 | none=>B0
def xWh(c:Kx) (t:Expr) (a:List Stmt):List Stmt->DS
 | []=>P8 (r.t c t) (r.b c a)
 | _=>B0
def xFo(c:Kx) (tg it:Expr) (a:List Stmt):List Stmt->DS
 | []=>if pl it then W6 (evI S r c tg it) (r.g c tg) (r.b c a) else B0
 | _=>B0
def xAs(c:Kx) (v:Expr) (p:Pos):List Expr->DS
 | [tg]=>bR4 S r c tg v p
 | _=>B0
def xS0(c:Kx) (st:Stmt):DS:=match st with
 | .Return o _=>ca9 r c o
 | .If t a b _=>sIf (r.t c t) (r.b c a) (r.b c b)
 | .While t a o _=>xWh r c t a o
 | .For tg it a o _=>xFo S r c tg it a o
 | .Assign ts v p=>xAs S r c v p ts
 | .Expr e _=>xEx r c e
 | .Continue _=>bw3
 | .Break _=>fun ρ=>some (.bk ρ)
 | .Pass _=>L9
 | _=>B0
def bI1:Stmt->Nat
 | .Return _ p=>p.line
 | .If _ _ _ p=>p.line
 | .While _ _ _ p=>p.line
 | .For _ _ _ _ p=>p.line
 | .Assign _ _ p=>p.line
 | .Expr _ p=>p.line
 | _=>0
def fzW(g:DS):Option (List Nat)->DS
 | none=>g
 | some l=>l.foldl (fun g i=>bD5 i g) g
def xS(c:Kx) (st:Stmt):DS:=fzW (xS0 S r c st) (c.fz.lookup (bI1 st))
def evB(f:Stmt->DS):List Stmt->DS
 | []=>L9
 | [s]=>f s
 | s::t::D7=>C3 (f s) (evB f (t::D7))
def step:Ev:=⟨xE S r,xQ S r,xN S r,xT S r,xG r,fun c=>evB (xS S r c)⟩
end
def ev(S:Sg):Nat->Ev
 | 0=>⟨fun _ _=>dNo,fun _ _=>qNo,fun _ _=>aNo,fun _ _=>tNo,fun _ _=>gNo,fun _ _=>B0⟩
 | n+1=>step S (ev S n)
end G
namespace Sh
open PySem PySem.Spec PyProof.Rows L2 G
end Sh
namespace Sh
open PySem PySem.Spec PyProof.Rows L2 G
end Sh
namespace Sh
open PySem PySem.Spec PyProof.Rows L2 G
def K7:DS:=(C3 (sIf (au2 (tB2 leI (A1 2) (A1 0)) (tB2 leI (A1 3) (A1 1))) (C4 (dC .none)) L9) (C4 (D8 (A0 (A1 0) (A0 (A1 1) (A0 (A4 am6 (A1 2) (A1 0)) (A0 (A4 am6 (A1 3) (A1 1)) A2)))))))
def O1:List D->Option D:=F6 K7 4
def M4:DS:=(C3 (sIf (tB2 isB (A1 0) (dC .none)) (C4 (A1 1)) L9) (C3 (sIf (tB2 isB (A1 1) (dC .none)) (C4 (A1 0)) L9) (C3 (D0 2 (as0 (A4 J1 (dIx (B1 0) ⇑0) (dIx (B1 0) ⇑2)) (A4 J1 (dIx (B1 1) ⇑0) (dIx (B1 1) ⇑2)))) (C3 (D0 3 (as0 (A4 J1 (dIx (B1 0) ⇑1) (dIx (B1 0) ⇑3)) (A4 J1 (dIx (B1 1) ⇑1) (dIx (B1 1) ⇑3)))) (C4 (A3 O1 (A0 (ar8 (dIx (B1 0) ⇑0) (dIx (B1 1) ⇑0)) (A0 (ar8 (dIx (B1 0) ⇑1) (dIx (B1 1) ⇑1)) (A0 (A1 2) (A0 (A1 3) A2))))))))))
def J8:List D->Option D:=F6 M4 4
def ac6:DS:=(C3 (D0 1 (dC .none)) (C3 (W6 (G4 (A1 0)) (B8 2) (D0 1 (A3 J8 (A0 (A1 1) (A0 (A1 2) A2))))) (C4 (A1 1))))
def N0:List D->Option D:=F6 ac6 3
end Sh
namespace Sh
open PySem PySem.Spec PyProof.Rows L2 G
end Sh
namespace Sh
open PySem PySem.Spec PyProof.Rows L2 G
end Sh
namespace Sh
open PySem PySem.Spec PyProof.Rows L2 G
end Sh
namespace Sh
open PySem PySem.Spec PyProof.Rows L2 G
end Sh
namespace G
open PySem PySem.Spec PyProof.Rows L2
section
variable {X:Cx}{S:Sg}{c:Kx}
theorem B6{e:Expr}:JE X e dNo:=fun ρ d h=>by cases h
theorem bx8{e:Expr}:JQ X e qNo:=fun ρ t d h=>by cases h
theorem X6{e:Expr}:JN X e aNo:=fun ρ d h=>by cases h
theorem S1{e:Expr}:JT X e tNo:=fun ρ d h=>by cases h
theorem bX1{e:Expr}:JW X e tNo:=fun ρ d h=>by cases h
theorem ap7{e:Expr}:JG X e gNo:=by
 unfold JG PG
 intros
 rename_i h
 obtain⟨d,ρ,ρ',H0,Hf,z,_⟩:=h
 cases z
theorem bY1{es:List Expr}:JA X es aNo:=⟨fun ρ d h=>(nomatch h),fun ρ d h=>(nomatch h)⟩
theorem bJ1{es:List Expr}:JTs X es tNo:=fun pins s σ H Q I ⟨ρ,b,h,_⟩=>by cases h
theorem Q2(hu:X.A.units+64 < cLine):∀op:CmpOp,OpD X (compareOp op) (as5 op)
 | .Lt=>bV1 | .LtE=>bV2 | .Gt=>bV5 | .GtE=>bV6 | .Eq=>bV7 hu | .NotEq=>bV0 hu | .Is=>bV3 | .IsNot=>aW3 | .In=>bV4 hu | .NotIn=>aW2 hu
theorem aW1(hu:X.A.units+64 < cLine) (S:Sg) (c:Kx) (op:CmpOp) (b:Expr):OpD X (compareOp op) (opW S c op b):=Q2 hu op
theorem X8{f:Expr->DE}(h:∀e,JE X e (f e)):∀es,JA X es (evA f es)
 | []=>bb3
 | e::es=>by
  unfold evA
  split
  ·rename_i p;exact aF6 (h e) (X8 h es) (E1 p es _)
  ·exact bY1
theorem r9{f:Expr->DE}(h:∀e,JE X e (f e)) (op:BoolOp) (pos:Pos):∀vs,JE X (.BoolOp op vs pos) (aN3 f op vs)
 | []=>B6
 | [a]=>bL4 (h a)
 | a::b::r=>by
  unfold aN3
  cases op
  ·exact bM0 (h a) (r9 h .And pos (b::r))
  ·exact bX7 (h a) (r9 h .Or pos (b::r))
theorem r8{f:Expr->DT}(h:∀e,JT X e (f e)) (op:BoolOp) (pos:Pos):∀vs,JW X (.BoolOp op vs pos) (aN2 f op vs)
 | []=>bX1
 | [a]=>by cases op;exact bq1 (h a);exact bI9 (h a)
 | a::b::r=>by
  unfold aN2
  cases op
  ·exact bJ0 (h a) (r8 h .And pos (b::r))
  ·exact bX0 (h a) (r8 h .Or pos (b::r))
theorem U5{f:Expr->DE}(h:∀e,JE X e (f e)):∀o,JO X o (evO f o)
 | none=>br4
 | some e=>br3 (h e)
theorem aY1{f:Expr->DT}(h:∀e,JT X e (f e)):∀l,JTs X l (aG4 f l)
 | []=>bq3
 | [t]=>bq2 (h t)
 | _::_::_=>bJ1
theorem aZ8{f:Expr->DG}(h:∀e,JG X e (f e)):∀es,es.all pl=true->JGs X es (bO0 f es)
 | [],_=>br9
 | e::es,p=>by
  simp only[List.all_cons,Bool.and_eq_true]at p
  refine aZ9 (h e) (aZ8 h es p.2) ?_
  have p1:=p.1
  cases e<;>first|rfl|cases p1
theorem aI8{env:Env}:∀{es:List Expr},es.all pl=true->(assignEach es env).length=es.length/\(assignEach es env).findIdx? (·.1)=none
 | [],_=>⟨rfl,rfl⟩
 | e::es,p=>by
  simp only[List.all_cons,Bool.and_eq_true]at p
  obtain⟨h1,h2⟩:=aI8 (env:=env) p.2
  have p1:=p.1
  have q:assignEach (e::es) env=(false,assign e env)::assignEach es env:=by cases e<;>first|rfl|cases p1
  rw[q]
  refine⟨by simp[h1],?_⟩
  simp[List.findIdx?_cons,h2]
structure Sound (S:Sg) (r:Ev):Prop where
 e:∀{c X},Fit S c X->∀ex,JE X ex (r.e c ex)
 q:∀{c X},Fit S c X->∀ex,JQ X ex (r.q c ex)
 n:∀{c X},Fit S c X->∀ex,JN X ex (r.n c ex)
 t:∀{c X},Fit S c X->∀ex,JT X ex (r.t c ex)
 g:∀{c X},Fit S c X->∀ex,JG X ex (r.g c ex)
 b:∀{c X},Fit S c X->∀sts,JSs X sts (r.b c sts)
theorem Fit.hx(F:Fit S c X):∀e s,X.xe e s->False:=fun e s h=>by rw[F.xe]at h;exact h
theorem Fit.po(F:Fit S c X):PassesOwn (model X.prog X.w) X.A X.env X.xe:=by rw[F.xe];exact PassesOwn.never
theorem Fit.slot(F:Fit S c X) {x:Str}{i:Nat}(h:Q3 x c.N=some i):X.N[i]? = some x:=by rw[F.N];exact ap8 h
theorem Fit.inner{tn:List Str}{caps:List Nat}{scope:Scope}{C:Addr}{s0:Shared}{H0:Hp}{ex:List Addr}(F:Fit S c X) (hn:(G.inner c tn caps scope).N.Nodup):Fit S (G.inner c tn caps scope) (C7 X (G.inner c tn caps scope).N scope C s0 H0 ex) :=
 ⟨rfl,by show relabel scope X.env=rl scope c.sc;rw[← F.sc];rfl,hn,F.calm,rfl,F.units,(fun h=>by cases h),F.fns,F.css,F.bls⟩
variable {r:Ev}
theorem bK7(R:Sound S r) (F:Fit S c X) (tg a:Expr) {p pos:Pos}(hg:Gl X "reversed") (hm:X.mg "reversed" = none):JI X tg (.Call (.Name "reversed" p) [a] [] pos) (evR S c tg a):=by
 have no:∀e:Expr,JI X tg e fun _=>none:=fun e ρ ds q=>nomatch q
 unfold evR
 split
 ·split
  ·split
   ·split
    ·split
     ·rename_i h
      simp only[Bool.and_eq_true]at h
      obtain⟨rfl,h1,h2⟩:=E5 F h.1.1.1
      obtain⟨rfl,h3,h4⟩:=E5 F h.1.1.2
      have ht:=h.1.2
      exact no _
     ·exact no _
    ·exact no _
   ·exact no _
  ·exact no _
 ·exact no _
theorem aZ7(R:Sound S r) (F:Fit S c X) (tg it:Expr):JI X tg it (evI S r c tg it):=by
 unfold evI
 split
 ·rename_i x p a pos
  split
  ·rename_i h
   obtain⟨rfl,h1,h2⟩:=E5 F h
   exact bK7 R F tg a h1 h2
  ·split
   ·rename_i h
    simp only[Bool.and_eq_true]at h
    obtain⟨rfl,h1,h2⟩:=E5 F h.1
    exact aM7 h1 h2 (R.e F a) (E1 h.2 _ _)
   ·split
    ·rename_i h
     simp only[Bool.and_eq_true]at h
     obtain⟨rfl,h1,h2⟩:=E5 F h.1.1
     have ht:=h.1.2
     cases tg<;>first|(exact br8 h1 h2 (R.e F a) (E1 h.2 _ _))|(exact nomatch ht)
    ·exact aw4 (R.e F _)
 ·rename_i x p a b pos
  split
  ·rename_i h
   simp only[Bool.and_eq_true]at h
   obtain⟨rfl,h1,h2⟩:=E5 F h.1.1
   exact fun ρ ds q=>nomatch q
  ·split
   ·rename_i h
    simp only[Bool.and_eq_true]at h
    obtain⟨rfl,h1,h2⟩:=E5 F h.1.1.1
    have ht:=h.1.1.2
    exact fun ρ ds q=>nomatch q
   ·exact aw4 (R.e F _)
 ·split
  ·exact fun ρ ds q=>nomatch q
  ·exact aw4 (R.e F _)
theorem aH0(R:Sound S r) (F:Fit S c X) {elt tgt iter:Expr}{ifs:List Expr}{scope:Scope}{caps:List Nat}
  (h:(t8 c.N (G.inner c (K2 tgt) caps scope).N (K2 tgt).length caps c.sc scope&&V2 (G.inner c (K2 tgt) caps scope).N&&pl iter)=true) :
  CompSc X (G.inner c (K2 tgt) caps scope).N (K2 tgt).length caps scope/\JI X tgt iter (evI S r c tgt iter)/\(∀C s0 H0 ex,JG (C7 X (G.inner c (K2 tgt) caps scope).N scope C s0 H0 ex) tgt (r.g (G.inner c (K2 tgt) caps scope) tgt)) /\
  (∀C s0 H0 ex,JTs (C7 X (G.inner c (K2 tgt) caps scope).N scope C s0 H0 ex) ifs (aG4 (r.t (G.inner c (K2 tgt) caps scope)) ifs))/\(∀C s0 H0 ex,JE (C7 X (G.inner c (K2 tgt) caps scope).N scope C s0 H0 ex) elt (r.e (G.inner c (K2 tgt) caps scope) elt)) /\
  ∀x,foldedSetIterable iter X.env x=pure x:=by
 simp only[Bool.and_eq_true]at h
 obtain⟨⟨h1,h2⟩,h3⟩:=h
 have hn:=T5 h2
 exact⟨aO6 h1 F.N F.sc,aZ7 R F tgt iter,fun C s0 H0 ex=>R.g (F.inner hn) tgt,fun C s0 H0 ex=>aY1 (R.t (F.inner hn)) ifs,fun C s0 H0 ex=>R.e (F.inner hn) elt,ai8 h3 _⟩
theorem bx9(R:Sound S r) (F:Fit S c X) (ex:Expr):JN X ex (evC S r c ex):=by
 unfold evC
 split
 ·rename_i elt tgt iter ifs scope pos
  dsimp only
  split
  ·rename_i h
   obtain⟨h1,h2,h3,h4,h5,h6⟩:=aH0 (ifs:=ifs) (elt:=elt) R F h
   exact br6 h1 F.hx h2 h3 h4 h5 F.calm h6
  ·exact X6
 ·exact X6
theorem Fit.innerC{tn:List Str}{caps:List Nat}{scope:Scope}{x:Str}{C:Addr}{s0:Shared}{H0:Hp}{ex:List Addr}(F:Fit S c X) (hn:(G.inner c tn caps scope).N.Nodup):Fit S (G.inner c tn caps scope) (cpX X (G.inner c tn caps scope).N scope x C s0 H0 ex) :=
 ⟨rfl,by show relabel scope X.env=rl scope c.sc;rw[← F.sc];rfl,hn,F.calm,rfl,F.units,(fun h=>by cases h),F.fns,F.css,F.bls⟩
theorem bK5(R:Sound S r) (F:Fit S c X) (ex:Expr):JN X ex (bO1 S r c ex):=by
 unfold bO1
 split
 ·rename_i elt tgt iter ifs scope pos
  dsimp only
  split
  ·rename_i h
   simp only[Bool.and_eq_true]at h
   obtain⟨h1,h2⟩:=h
   unfold bz1 at h1
   split at h1
   ·rename_i x px
    simp only[Bool.and_eq_true]at h1
    have hn:=T5 h1.2
    obtain⟨h3,h4⟩:=ax8 h1.1 F.N F.sc
    exact aZ6 h3 h4 hn F.hx (aZ7 R F _ iter) (fun C s0 H0 ex=>aY1 (R.t (F.innerC hn)) ifs) (fun C s0 H0 ex=>R.e (F.innerC hn) elt) F.calm (ai8 h2 _)
   ·cases h1
  ·exact bx9 R F _
 ·exact bx9 R F _
theorem aJ6{x:Str}{T:String}(h:bB3 x=some T):bootBuiltins x=some (.type T)/\x ≠ "__name__" /\ (x==("__debug__" : Str))=false:=by
 unfold bB3 at h
 split at h
 ·rename_i e;cases h;simp only[beq_iff_eq]at e;subst e;exact⟨ay5,by decide,by decide⟩
 ·split at h
  ·rename_i e;cases h;simp only[beq_iff_eq]at e;subst e;exact⟨bv3,by decide,by decide⟩
  ·split at h
   ·rename_i e;cases h;simp only[beq_iff_eq]at e;subst e;exact⟨bP0,by decide,by decide⟩
   ·split at h
    ·rename_i e;cases h;simp only[beq_iff_eq]at e;subst e;exact⟨as6,by decide,by decide⟩
    ·split at h
     ·rename_i e;cases h;simp only[beq_iff_eq]at e;subst e;exact⟨aI4,by decide,by decide⟩
     ·cases h
theorem aC7{e:Expr}(h:pl e=true) (pos:Pos) (env:Env):(backTo pos (starEach [e] env)).any (·.1)=false:=by
 rw[E1 h];rfl
theorem Q0(pos:Pos) (env:Env):∀{es:List Expr},es.all pl=true->(starEach es env).any (·.1)=false
 | [],_=>rfl
 | e::es,h=>by
  simp only[List.all_cons,Bool.and_eq_true]at h
  rw[E1 h.1,List.any_cons,Q0 pos env h.2];rfl
end
end G
namespace G
open PySem PySem.Spec PyProof.Rows L2
section
variable {X:Cx}{S:Sg}{c:Kx}{r:Ev}
theorem aB3(h:bC9 e=some t):∃p,e=.Slice t.1 t.2.1 t.2.2 p:=by
 cases e<;>first|(cases h;exact⟨_,rfl⟩)|cases h
theorem aw0(h:nmP e=some t):e=.Name t.1 t.2:=by
 cases e<;>first|(cases h;rfl)|cases h
theorem bB1(h:unE e=some t):∃p,e=.UnaryOp t.1 t.2 p:=by
 cases e<;>first|(cases h;exact⟨_,rfl⟩)|cases h
theorem bo2(h:bU9 e=true):∃p q,e=.Constant (.int 1) p q:=by
 cases e with
 | Constant k p q =>
  cases k with
  | int i=>cases(show i=1 from of_decide_eq_true h);exact⟨p,q,rfl⟩
  | _=>cases h
 | _=>cases h
theorem bH7(h:m1E e=true):∃p q s,e=.UnaryOp .USub (.Constant (.int 1) p q) s:=by
 unfold m1E at h
 split at h
 ·rename_i t ht
  obtain⟨s,rfl⟩:=bB1 ht
  obtain⟨op,a⟩:=t
  cases op with
  | USub=>obtain⟨p,q,rfl⟩:=bo2 h;exact⟨p,q,s,rfl⟩
  | _=>cases h
 ·cases h
theorem bh4(R:Sound S r) (F:Fit S c X) (a i:Expr) (pos:Pos):JE X (.Subscript a i pos) (bz8 r c a i):=by
 unfold bz8
 split
 ·rename_i t ht
  obtain⟨p,rfl⟩:=aB3 ht
  obtain⟨lo,hi,st⟩:=t
  cases st with
  | none =>
   dsimp only
   split
   ·exact ba3 (R.e F _) (U5 (R.e F) _) (U5 (R.e F) _)
   ·split
    ·exact bL1 (R.e F _) (U5 (R.e F) _) (U5 (R.e F) _)
    ·split
     ·exact bL2 (R.q F _) (U5 (R.e F) _) (U5 (R.e F) _)
     ·exact bL3 (R.e F _) (U5 (R.e F) _) (U5 (R.e F) _)
  | some e =>
   dsimp only
   split
   ·rename_i h
    simp only[Bool.and_eq_true,Option.isNone_iff_eq_none]at h
    obtain⟨⟨h1,h2⟩,h3⟩:=h
    subst h1 h2
    obtain⟨_,_,_,rfl⟩:=bH7 h3
    exact bs3 (R.e F _) (aw5 aw6)
   ·exact B6
 ·split
  ·rename_i h
   split
   ·exact bL6 (R.e F _) (R.e F _) (bw8 h)
   ·exact by0 (R.q F _) (R.e F _) (bw8 h)
  ·exact B6
theorem aJ3(R:Sound S r) (F:Fit S c X) (x:Str) (a:Expr) (p pos:Pos):JE X (.Call (.Name x p) [a] [] pos) (at6 S r c x a):=by
 unfold at6
 split
 ·exact B6
 rename_i hp
 have hp:pl a=true:=by simpa using hp
 have hs:=E1 hp [] X.env
 split
 ·rename_i h
  obtain⟨rfl,h1,h2⟩:=E5 F h
  split
  ·rename_i y py e ppos
   split
   ·rename_i hy
    simp only[Bool.and_eq_true]at hy
    obtain⟨rfl,g1,g2⟩:=E5 F hy.1
    exact B6
   ·exact ba5 h1 h2 (R.q F _) hs
  ·split
   ·exact B6
   ·exact ba5 h1 h2 (R.q F a) hs
 split
 ·rename_i h;obtain⟨rfl,h1,h2⟩:=E5 F h;exact bs0 h1 h2 (R.q F a) hs
 split
 ·rename_i h;obtain⟨rfl,h1,h2⟩:=E5 F h;exact bM1 h1 h2 (R.q F a) F.calm hs
 split
 ·rename_i h;obtain⟨rfl,h1,h2⟩:=E5 F h;exact ba7 h1 h2 (R.e F a) hs
 split
 ·rename_i h;obtain⟨rfl,h1,h2⟩:=E5 F h;exact B6
 split
 ·rename_i h;obtain⟨rfl,h1,h2⟩:=E5 F h;exact bK9 h1 h2 (R.q F a) F.calm hs
 split
 ·rename_i h;obtain⟨rfl,h1,h2⟩:=E5 F h;exact bs4 h1 h2 (R.q F a) F.calm hs
 split
 ·rename_i h;obtain⟨rfl,h1,h2⟩:=E5 F h;exact bs6 h1 h2 (R.q F a) F.calm hs
 exact B6
theorem aJ2(R:Sound S r) (F:Fit S c X) (x:Str) (a b:Expr) (p pos:Pos):JE X (.Call (.Name x p) [a,b] [] pos) (at5 S r c x a b):=by
 unfold at5
 split
 ·exact B6
 rename_i hp
 have hp:pl a=true:=by simpa using hp
 split
 ·rename_i h
  obtain⟨rfl,h1,h2⟩:=E5 F h
  split
  ·rename_i y py
   split
   ·rename_i T hT
    split
    ·rename_i hy
     obtain⟨_,g1,g2⟩:=E5 F hy
     obtain⟨t1,t2,t3⟩:=aJ6 hT
     exact bL7 h1 h2 g1 g2 t1 (R.e F a) t2 t3 (E1 hp _ _) rfl rfl
    ·exact B6
   ·exact B6
  ·exact B6
 split
 ·exact B6
 rename_i hb
 have hb:pl b=true:=by simpa using hb
 split
 ·rename_i h;obtain⟨rfl,h1,h2⟩:=E5 F h;exact bs5 h1 h2 (R.e F a) (R.e F b) F.calm (E1 hp _ _) (E1 hb _ _) (aC7 hb pos _)
 split
 ·rename_i h;obtain⟨rfl,h1,h2⟩:=E5 F h;exact bs7 h1 h2 (R.e F a) (R.e F b) F.calm (E1 hp _ _) (E1 hb _ _) (aC7 hb pos _)
 exact B6
theorem Z4(pos:Pos):∀l:List (Bool×Sem Value),(backTo pos l).any (·.1)=l.any (·.1)
 | []=>rfl
 | (b,t)::r=>by
  have ih:=Z4 pos r
  unfold backTo at ih ⊢
  rw[xmc,List.any_cons,List.any_cons,ih]
theorem bk8{a e:Expr}{y:Str}(h:bD3 a=some (y,e)):∃p q,a=.Call (.Name y p) [e] [] q:=by
 unfold bD3 at h
 split at h
 ·cases h;exact⟨_,_,rfl⟩
 ·cases h
theorem at3(R:Sound S r) (F:Fit S c X) (x:Str) (args:List Expr) (p pos:Pos) (Fn:FnD) (n:Nat) (hl:S.fn.lookup x=some (Fn,n)):JE X (.Call (.Name x p) args [] pos) (if V9 c.sc x&&args.length==n&&args.all pl then A3 Fn (evA (r.e c) args) else dNo):=by
 split
 ·rename_i h
  simp only[Bool.and_eq_true,beq_iff_eq]at h
  obtain⟨⟨hg,hn⟩,hp⟩:=h
  obtain⟨g1,g2⟩:=N5 F hg
  rcases F.fns _ _ _ hl with⟨k,f,fd,ps,hk,hr,hm,hkp,hb⟩|⟨hm,hb⟩
  case inr =>
   cases args with
   | nil=>cases hn;exact absurd hb.1 (Nat.lt_irrefl _)
   | cons e es =>
    simp only[List.all_cons,Bool.and_eq_true]at hp
    exact bY0 hb F.units g1 hm (X8 (R.e F) (e::es)) hn g2 (E1 hp.1 _ _) ((Z4 pos _).trans (Q0 pos _ hp.2))
  cases args with
  | nil=>cases hn;exact bb2 hk hr g1 hm hkp hb g2
  | cons e es =>
   simp only[List.all_cons,Bool.and_eq_true]at hp
   exact bs8 hk hr g1 hm hkp hb (X8 (R.e F) (e::es)) hn g2 (E1 hp.1 _ _) ((Z4 pos _).trans (Q0 pos _ hp.2))
 ·exact B6
theorem aQ5(R:Sound S r) (F:Fit S c X) (x:Str) (args:List Expr) (p pos:Pos):JE X (.Call (.Name x p) args [] pos) (aQ6 S r c x args (.Call (.Name x p) args [] pos)):=by
 unfold aQ6
 split
 ·rename_i Fn n hl
  split
  ·rename_i a
   split
   ·rename_i y e hs
    split
    ·rename_i h
     simp only[Bool.and_eq_true]at h
     obtain⟨rfl,h1,h2⟩:=E5 F h.1
     obtain⟨rfl,g1,g2⟩:=E5 F h.2
     obtain⟨p2,q2,rfl⟩:=bk8 hs
     split
     ·rename_i hp
      exact aM8 F.units h1 h2 g1 g2 (R.q F _) F.calm (E1 hp _ _)
     ·exact B6
    ·exact at3 R F _ _ _ _ _ _ hl
   ·exact at3 R F _ _ _ _ _ _ hl
  ·exact at3 R F _ _ _ _ _ _ hl
 ·split
  ·split
   ·exact X7 (R.n F _)
   ·exact aJ3 R F _ _ _ _
  ·exact aJ2 R F _ _ _ _ _
  ·exact B6
theorem at4(k:Const) (u:Nat) (pos:Pos):JE X (.Constant k u pos) (xCn k):=by
 unfold xCn
 split
 ·exact bL5
 ·exact bX9
 ·exact aw6
 ·exact bL0
 ·exact B6
theorem bh8(R:Sound S r) (F:Fit S c X) (a:Expr) (op:Operator) (b:Expr) (pos:Pos):JE X (.BinOp a op b pos) (bA4 r c a op b):=by
 unfold bA4
 split
 ·split
  ·exact N9 aW4 (R.e F _) (R.e F _)
  ·exact N9 aD5 (R.e F _) (R.e F _)
 ·exact N9 bG3 (R.e F _) (R.e F _)
 ·split
  ·exact N9 aj0 (R.e F _) (R.e F _)
  ·split
   ·split
    ·exact N9 bo5 (R.e F _) (R.e F _)
    ·exact N9 aD4 (R.e F _) (R.e F _)
   ·exact N9 aD4 (R.e F _) (R.e F _)
 ·exact N9 bG7 (R.e F _) (R.e F _)
 ·exact N9 bG5 (R.e F _) (R.e F _)
 ·exact B6
 ·exact B6
theorem bz7(R:Sound S r) (F:Fit S c X) (op:UnaryOp) (a:Expr) (pos:Pos):JE X (.UnaryOp op a pos) (xUn r c op a):=by
 unfold xUn
 split
 ·exact aw5 (R.e F _)
 ·exact ba4 (R.e F _)
 ·exact B6
theorem bh7(R:Sound S r) (F:Fit S c X) (a:Expr) (ops:List CmpOp) (bs:List Expr) (pos:Pos):JE X (.Compare a ops bs pos) (bA2 S r c a ops bs):=by
 have hu:=F.units
 unfold bA2
 split
 ·split
  ·rename_i h;exact ba9 (aW1 hu S c _ _) (R.e F _) (R.e F _) (T4 h _)
  ·exact B6
 ·split
  ·rename_i h;exact bb0 (Q2 hu _) (Q2 hu _) (R.e F _) (R.e F _) (R.e F _) (T4 h _)
  ·exact B6
 ·exact B6
theorem bh6(R:Sound S r) (F:Fit S c X) (o:Expr) (m:Str) (apos cpos:Pos) (args:List Expr):JE X (.Call (.Attribute o m apos) args [] cpos) (bR1 r c o m apos cpos args):=B6
theorem bA3(R:Sound S r) (F:Fit S c X) (f:Expr) (args:List Expr) (kw:List Keyword) (pos:Pos):JE X (.Call f args kw pos) (xCl S r c f args kw pos):=by
 unfold xCl
 split
 ·split
  ·exact aQ5 R F _ _ _ _
  ·exact bh6 R F _ _ _ _ _
  ·exact B6
 ·exact B6
theorem bA1(ks:List (Option Expr)) (vs:List Expr) (pos:Pos):JE X (.Dict ks vs pos) (xDs ks vs):=B6
theorem bR3(R:Sound S r) (F:Fit S c X) (ex:Expr):JE X ex (xE S r c ex):=by
 cases ex
 case Constant=>exact at4 _ _ _
 case Dict ks vs p=>exact bA1 ks vs p
 case Name x p =>
  unfold xE
  dsimp only
  split
  ·rename_i i h
   split
   ·rename_i v;obtain⟨h1,h2,h3⟩:=P7 F v;exact ba0 i (F.slot h) h1 h2 h3
   ·exact B6
  ·split
   ·rename_i d hd
    split
    ·rename_i g;obtain⟨u,k1,k2⟩:=F.css _ _ hd;obtain⟨g1,g2⟩:=N5 F g;exact bL9 k1 g1 k2 g2
    ·exact B6
   ·exact B6
 case Tuple es _ _ =>
  unfold xE
  dsimp only
  split
  ·rename_i h;exact ba2 (X8 (R.e F) _) h
  ·exact B6
 case List=>exact X7 (R.n F _)
 case ListComp=>exact X7 (R.n F _)
 case BinOp=>exact bh8 R F _ _ _ _
 case UnaryOp=>exact bz7 R F _ _ _
 case Compare=>exact bh7 R F _ _ _ _
 case BoolOp=>exact r9 (R.e F) _ _ _
 case IfExp=>exact bL8 (R.t F _) (R.e F _) (R.e F _)
 case Subscript=>exact bh4 R F _ _ _
 case Call=>exact bA3 R F _ _ _ _
 all_goals exact B6
theorem bQ9(R:Sound S r) (F:Fit S c X) (ex:Expr):JQ X ex (xQ S r c ex):=by
 cases ex
 case Name x p =>
  unfold xQ
  dsimp only
  split
  ·rename_i i h
   split
   ·rename_i v;obtain⟨h1,h2,h3⟩:=P7 F v;exact aZ1 i (F.slot h) h1 h2 h3
   ·exact bx8
  ·exact aZ3 (R.e F _)
 case List=>exact bK3 (R.n F _)
 case ListComp=>exact bK3 (R.n F _)
 case Call f as kw p =>
  unfold xQ
  dsimp only
  split
  ·exact bK3 (R.n F _)
  ·exact aZ3 (R.e F _)
 all_goals exact aZ3 (R.e F _)
theorem bR0(R:Sound S r) (F:Fit S c X) (ex:Expr):JN X ex (xN S r c ex):=by
 cases ex
 case List es p =>
  unfold xN
  dsimp only
  split
  ·rename_i h;exact aZ4 (X8 (R.e F) _) h
  ·exact X6
 case ListComp=>exact bK5 R F _
 case Call f as kw p =>
  unfold xN
  dsimp only
  unfold xNl
  split
  ·split
   ·split
    ·rename_i h
     simp only[Bool.and_eq_true]at h
     obtain⟨rfl,h1,h2⟩:=E5 F h.1
     exact br5 h1 h2 (R.q F _) (E1 h.2 _ _)
    ·exact X6
   ·exact X6
  ·exact X6
 case BinOp a op b p =>
  cases op
  case Add=>exact bK6 (R.q F _) (R.q F _)
  all_goals exact X6
 all_goals exact X6
theorem bQ8(R:Sound S r) (F:Fit S c X) (ex:Expr):JT X ex (xT S r c ex):=by
 have hu:=F.units
 have oth:∀e:Expr,JT X e (if plT e then W3 (r.e c e) else tNo):=fun e=>by
  split
  ·rename_i h;exact aY2 (R.e F _) (an9 h _)
  ·exact S1
 cases ex
 case Compare a ops bs p =>
  unfold xT bv8
  dsimp only
  split
  ·split
   ·rename_i h;exact aY4 (aW1 hu S c _ _) (R.e F _) (R.e F _) (T4 h _)
   ·exact S1
  ·split
   ·rename_i h;exact aY5 (Q2 hu _) (Q2 hu _) (R.e F _) (R.e F _) (R.e F _) (T4 h _)
   ·exact S1
  ·exact S1
 case BoolOp=>exact ap6 (r8 (R.t F) _ _ _)
 case UnaryOp op a p =>
  cases op
  case Not=>exact aY3 (R.t F _)
  all_goals exact S1
 all_goals exact oth _
theorem bR2(R:Sound S r) (F:Fit S c X) (ex:Expr):JG X ex (xG r c ex):=by
 unfold xG
 split
 ·split
  ·rename_i i h
   split
   ·rename_i v;obtain⟨h1,h2⟩:=aj5 F v;exact aF3 i (by rw[F.N];exact F.nd) (F.slot h) h1 h2
   ·exact ap7
  ·exact ap7
 ·split
  ·rename_i h
   obtain⟨h1,h2⟩:=aI8 (env:=X.env) h
   exact bK8 (aZ8 (R.g F) _ h) F.calm h1 h2
  ·exact ap7
 ·exact ap7
theorem aF0{st:Stmt}{f:DS}(h:∀ρ,f ρ=none):JS X st f:=fun ρ fl q=>by rw[h ρ]at q;cases q
theorem bf8(F:Fit S c X) (h:c.df=true):X.env.blockKind=.function:=by
 unfold Env.blockKind
 rw[F.sc,(F.df h).2];rfl
theorem ad5(elt:Expr) (gens:List Comprehension) (sc:Scope) (pv p':Pos) (x:Str) (l:Nat) (env:Env):swapsWith (.ListComp elt gens sc pv) (some (.Name x p')) l env =
  pure (env.blockKind == .function&&env.kindOf x==some .local&&p'.line==pv.line && !(sc.names.any fun(n,k)=>n==x&&(k == .local || k == .cell))):=rfl
theorem aF1(R:Sound S r) (F:Fit S c X) {x:Str}{p' pv p:Pos}{elt:Expr}{gens:List Comprehension}{sc:Scope}{i:Nat}(hi:Q3 x c.N=some i) (hl:(c.sc.names.lookup x==some .local)=true)
  (h:(c.df&&p'.line==pv.line && !(sc.names.any fun(n,k)=>n==x&&(k == .local || k == .cell)))=true) :
  JS X (.Assign [.Name x p'] (.ListComp elt gens sc pv) p) (au6 i (evC S r c (.ListComp elt gens sc pv)))/\JS X (.Assign [.Name x p'] (.ListComp elt gens sc pv) p) (w6 i (evC S r c (.ListComp elt gens sc pv))):=by
 unfold evC
 simp only[Bool.and_eq_true]at h
 have hl':X.env.scope.names.lookup x=some .local:=by rw[F.sc];simpa using hl
 have hsw:swapsWith (.ListComp elt gens sc pv) (some (.Name x p')) p.line X.env=pure true:=by
  rw[ad5,bf8 F h.1.1,h.1.2,h.2]
  unfold Env.kindOf
  rw[hl'];rfl
 split
 ·rename_i elt tgt iter ifs scope pos he
  cases he
  dsimp only
  split
  ·rename_i hc
   obtain⟨h1,h2,h3,h4,h5,h6⟩:=aH0 (ifs:=ifs) (elt:=elt) R F hc
   exact⟨bq8 i (by rw[F.N];exact F.nd) h1 F.hx h2 h3 h4 h5 (F.slot hi) hl' hsw F.calm h6,br0 i (by rw[F.N];exact F.nd) h1 F.hx h2 h3 h4 h5 (F.slot hi) hl' hsw F.calm h6⟩
  ·exact⟨aF0 fun ρ=>rfl,aF0 fun ρ=>rfl⟩
 ·exact⟨aF0 fun ρ=>rfl,aF0 fun ρ=>rfl⟩
theorem bi2(R:Sound S r) (F:Fit S c X) (x:Str) (p':Pos) (v:Expr) (p:Pos):JS X (.Assign [.Name x p'] v p) (bA7 S r c x p' v):=by
 have nd:X.N.Nodup:=by rw[F.N];exact F.nd
 unfold bA7
 split
 ·exact A5
 ·rename_i i hi
  split
  ·exact A5
  ·rename_i hlo
   have hlo:aM4 c x=true:=by simpa using hlo
   obtain⟨l1,l2⟩:=aj5 F hlo
   split
   ·rename_i elt gens sc pv
    split
    ·rename_i hl
     split
     ·rename_i h
      split
      ·exact(aF1 R F hi hl h).1
      ·exact(aF1 R F hi hl h).2
     ·exact A5
    ·rename_i hl
     refine aw3 i nd (R.e F _) (F.slot hi) l1 ?_ l2
     rw[ad5]
     have:(X.env.kindOf x==some .local)=false:=by
      unfold Env.kindOf
      rw[F.sc];simpa using hl
     rw[this,Bool.and_false];rfl
   ·split
    ·exact A5
    ·rename_i hc
     have hc:isC v=false:=by simpa using hc
     split
     ·exact bJ4 i nd (R.n F _) (F.slot hi) l1 (X1 hc _ _ _) l2
     ·exact aw3 i nd (R.e F _) (F.slot hi) l1 (X1 hc _ _ _) l2
theorem bi1(R:Sound S r) (F:Fit S c X) (a i v:Expr) (q p:Pos):JS X (.Assign [.Subscript a i q] v p) (bA6 r c a i v):=by
 unfold bA6
 split
 ·exact A5
 ·rename_i x hx
  cases aw0 hx
  split
  ·exact A5
  ·rename_i t ht
   obtain⟨p',rfl⟩:=aB3 ht
   obtain⟨lo,hi,st⟩:=t
   cases st with
   | some e=>exact A5
   | none =>
    dsimp only[Option.isSome]
    rw[if_neg Bool.false_ne_true]
    split
    ·exact A5
    ·rename_i i hi
     split
     ·rename_i h
      simp only[Bool.and_eq_true,Bool.not_eq_true']at h
      obtain⟨h1,h2,h3⟩:=P7 F h.1
      exact bJ2 i (R.n F _) (U5 (R.e F) _) (U5 (R.e F) _) (F.slot hi) h1 h2 h3 (X1 h.2 _ _ _)
     ·exact A5
theorem bi5(h:bR7 es=some t):es=[.Name t.1.1 t.1.2,.Name t.2.1 t.2.2]:=by
 match es,h with
 | [a,b],h =>
  obtain⟨x,h1,h⟩:=Option.bind_eq_some_iff.mp h
  obtain⟨y,h2,h⟩:=Option.map_eq_some_iff.mp h
  cases h
  rw[aw0 h1,aw0 h2]
theorem bi4(h:bR6 e=some t):∃k p,e=.Tuple [t.1,t.2] k p:=by
 cases e with
 | Tuple es k p =>
  match es,h with
  | [a,b],h=>cases h;exact⟨k,p,rfl⟩
  | [],h=>cases h
  | [_],h=>cases h
  | _::_::_::_,h=>cases h
 | _=>cases h
theorem bG9{v:Expr}(h:k8 v=false) (es:List Expr) (k:Nat) (p:Pos) (env:Env):swappedStores [.Tuple es k p] v env=pure none:=by
 cases v<;>first|rfl|cases h
def stB:Expr->Bool
 | .Starred ..=>true
 | _=>false
def swN(env:Env) (x y:Str) (px py:Pos):List Str:=[(x,px),(y,py)].filterMap fun t=>if env.kindOf t.1==some .local&&t.2.line==px.line then some t.1 else none
theorem bS8(env:Env) (x y:Str) (px py pt p2:Pos) (kt k2:Nat) (a b:Expr):swappedStores [.Tuple [.Name x px,.Name y py] kt pt] (.Tuple [a,b] k2 p2) env =
  (if(env.blockKind != .function)=true then pure none else if([a,b].any stB)=true then pure none else if((swN env x y px py).length != 2 || (swN env x y px py).eraseDups.length != (swN env x y px py).length)=true then pure none
   else if([a,b].all (foldedForSure 8))=true then pure none else if([a,b].all (constantsAlone 8))=true then unsupported "assign.tuple-of-constant-expressions:order-of-the-stores" else pure (some (swN env x y px py))):=by rfl
theorem aU7(h:pl e=true):stB e=false:=by cases e<;>first|rfl|cases h
theorem bB9{env:Env}{x y:Str}{px py pt p2:Pos}{kt k2:Nat}{a b:Expr}(hk:env.blockKind=.function) (ha:pl a=true) (hb:pl b=true) (kx:env.kindOf x=some .local) (ky:env.kindOf y=some .local) (hl:px.line=py.line) (hxy:(x==y)=false)
  (hf:([a,b].all (foldedForSure 8))=false) (hc:([a,b].all (constantsAlone 8))=false):swappedStores [.Tuple [.Name x px,.Name y py] kt pt] (.Tuple [a,b] k2 p2) env=pure (some [x,y]):=by
 have hn:swN env x y px py=[x,y]:=by simp[swN,kx,ky,hl]
 have hyx:(y==x)=false:=by
  cases q:(y==x) with
  | false=>rfl
  | true=>simp only[beq_iff_eq]at q;subst q;simp at hxy
 have hd:([x,y]:List Str).eraseDups=[x,y]:=by simp[List.eraseDups,List.eraseDupsBy,List.eraseDupsBy.loop,hxy,hyx]
 rw[bS8,hk,hn,hd,hf,hc]
 simp[aU7 ha,aU7 hb]
theorem bj1{es vs:List Expr}(h:(es.length==2 || es.length==3)=false) (k k3:Nat) (p p3:Pos) (env:Env):swappedStores [.Tuple es k p] (.Tuple vs k3 p3) env=pure none:=by
 show(if(!(es.length==2 || es.length==3) || vs.length != es.length || env.blockKind != .function)=true then _ else _)=_
 rw[if_pos (by rw[h];rfl)]
theorem bi0(R:Sound S r) (F:Fit S c X) (es:List Expr) (kt:Nat) (pt:Pos) (v:Expr) (p:Pos):JS X (.Assign [.Tuple es kt pt] v p) (bA5 r c (.Tuple es kt pt) v es):=by
 have nd:X.N.Nodup:=by rw[F.N];exact F.nd
 unfold bA5
 split
 ·rename_i x px y py ht
  cases bi5 ht
  split
  ·split
   ·rename_i a b hab
    obtain⟨k2,p2,rfl⟩:=bi4 hab
    split
    ·rename_i i hi
     split
     ·rename_i j hj
      split
      ·rename_i h
       unfold bU3 at h
       simp only[Bool.and_eq_true,Bool.not_eq_true',beq_iff_eq]at h
       obtain⟨⟨⟨⟨⟨⟨⟨⟨hd,ha⟩,hb⟩,hxy⟩,hl⟩,hx⟩,hy⟩,hf⟩,hcs⟩:=h
       have hx':X.env.scope.names.lookup x=some .local:=by rw[F.sc];exact hx
       have hy':X.env.scope.names.lookup y=some .local:=by rw[F.sc];exact hy
       have hne:i≠j:=fun z=>by
        subst z
        have:=(F.slot hi).symm.trans (F.slot hj)
        cases this
        simp at hxy
       refine bJ3 nd (X8 (R.e F) [a,b]) ?_ hne (F.slot hi) (F.slot hj) hx' hy' F.calm rfl
       exact bB9 (bf8 F hd) ha hb hx' hy' hl hxy hf hcs
      ·exact A5
     ·exact A5
    ·exact A5
   ·exact A5
  ·rename_i h
   have h:k8 v=false:=by simpa using h
   refine aY8 (R.e F _) (R.g F _) ?_ (bG9 h _ _ _ _) rfl
   cases v<;>rfl
 ·split
  ·exact A5
  ·rename_i h
   refine aY8 (R.e F _) (R.g F _) ?_ ?_ rfl
   ·cases v<;>rfl
   ·cases v<;>first|rfl|skip
    rename_i vs k3 p3
    have h:(es.length==2 || es.length==3)=false:=by simpa [k8] using h
    exact bj1 h _ _ _ _ _
theorem bh9(R:Sound S r) (F:Fit S c X) (tg v:Expr) (p:Pos):JS X (.Assign [tg] v p) (bR4 S r c tg v p):=by
 cases tg with
 | Name x p'=>exact bi2 R F x p' v p
 | Subscript a i q=>exact bi1 R F a i v q p
 | Tuple es k q=>exact bi0 R F es k q v p
 | _=>exact A5
end
end G
namespace G
open PySem PySem.Spec PyProof.Rows L2
section
variable {X:Cx}{S:Sg}{c:Kx}{r:Ev}
theorem bh5(R:Sound S r) (F:Fit S c X) (x m:Str) (e:Expr) (p apos cpos pos:Pos) (hl:(apos.endLine==cpos.line)=true):JS X (.Expr (.Call (.Attribute (.Name x p) m apos) [e] [] cpos) pos) (bz9 r c x m e):=by
 unfold bz9
 split
 ·exact A5
 ·rename_i i hi
  split
  ·rename_i h
   simp only[Bool.and_eq_true]at h
   obtain⟨h1,h2,h3⟩:=P7 F h.1
   have hs:=E1 h.2 [] X.env
   split
   ·rename_i hm
    simp only[beq_iff_eq]at hm
    subst hm
    exact bJ9 i (R.e F e) (F.slot hi) h1 h2 h3 rfl (by rw[hs];rfl) hl hs rfl
   ·split
    ·rename_i hm
     simp only[beq_iff_eq]at hm
     subst hm
     exact bJ7 i (R.e F e) (F.slot hi) h1 h2 h3 hl hs
    ·exact A5
  ·exact A5
theorem bA0(R:Sound S r) (F:Fit S c X) (e:Expr) (pos:Pos):JS X (.Expr e pos) (xEx r c e):=by
 unfold xEx
 split
 ·split
  ·split
   ·split
    ·split
     ·rename_i h;exact bh5 R F _ _ _ _ _ _ _ h
     ·exact A5
    ·exact A5
   ·exact A5
  ·exact A5
 ·exact A5
theorem aQ4(R:Sound S r) (F:Fit S c X) (st:Stmt):JS X st (xS0 S r c st):=by
 cases st
 case Return o p =>
  cases o
  ·exact A5
  ·exact aj9 (R.e F _)
 case If=>exact bx7 (R.t F _) (R.b F _) (R.b F _)
 case While t a o p =>
  cases o
  ·exact aY7 (R.t F _) (R.b F _) F.po
  ·exact A5
 case For tg it a o p =>
  cases o
  ·unfold xS0 xFo
   dsimp only
   split
   ·rename_i h;exact bJ6 (aZ7 R F _ _) (R.g F _) (R.b F _) F.po F.calm (ai8 h _)
   ·exact A5
  ·exact A5
 case Assign ts v p =>
  unfold xS0 xAs
  dsimp only
  split
  ·exact bh9 R F _ _ _
  ·exact A5
 case Expr=>exact bA0 R F _ _
 case Continue=>exact bq9
 case Break=>exact bJ8
 case Pass=>exact bq7
 all_goals exact A5
theorem bc8{st:Stmt}:∀(l:List Nat) {g:DS},JS X st g->JS X st (l.foldl (fun g i=>bD5 i g) g)
 | [],_,h=>h
 | i::l,_,h=>bc8 l (bJ5 i h)
theorem aA0(R:Sound S r) (F:Fit S c X) (st:Stmt):JS X st (xS S r c st):=by
 unfold xS fzW
 split
 ·exact aQ4 R F st
 ·exact bc8 _ (aQ4 R F st)
theorem S4(h:∀st,JS X st (f st)):∀sts,JSs X sts (evB f sts)
 | []=>bq5
 | [s]=>bq4 (h s)
 | s::t::D7=>aY6 (h s) (S4 h (t::D7))
theorem bj3(R:Sound S r):Sound S (step S r) :=
 ⟨fun F=>bR3 R F,fun F=>bQ9 R F,fun F=>bR0 R F,fun F=>bQ8 R F,fun F=>bR2 R F,fun F=>S4 (aA0 R F)⟩
theorem U7(S:Sg):∀n,Sound S (ev S n)
 | 0=>⟨fun _ _=>B6,fun _ _=>bx8,fun _ _=>X6,fun _ _=>S1,fun _ _=>ap7,fun _ _ ρ fl q=>by cases q⟩
 | n+1=>bj3 (U7 S n)
end
structure Fd where
 x:Str
 st:Stmt
 ps:List Str
 N:List Str
 own:List Nat:=[]
 tx:List Nat:=[]
 dx:List Nat:=[]
 old:Bool:=false
 fz:List (Nat×List Nat):=[]
 hc:List ((Nat×Nat)×List Nat):=[]
def fdm(x:Str) (st:Stmt) (n:Nat) (N:List Str) (old:Bool:=false):Fd:={ x,st,ps:=N.take n,N,old }
def Fd.c(d:Fd):Kx:={ N:=d.N,sc:=B2 d.st,df:=true,own:=d.own,cpt:=[],tx:=d.tx,dx:=d.dx,old:=d.old,fz:=d.fz,hc:=d.hc }
def Fd.okB(d:Fd):Bool:=let sc:=B2 d.st
 sc.kind == .function && !sc.isCoroutine && !sc.isGenerator&&V2 d.N&&d.N.take d.ps.length==d.ps&&(d.ps.all fun x=>match sc.names.lookup x with|some .local=>true|some .cell=>true|_=>false)&&sc.names.all fun y=>match y.2 with | .free=>false|_=>true
theorem Fd.sc{d:Fd}(h:d.okB=true):FnScope d.N d.ps (B2 d.st):=by
 unfold Fd.okB at h
 simp only[Bool.and_eq_true,Bool.not_eq_true',beq_iff_eq,List.all_eq_true]at h
 obtain⟨⟨⟨⟨⟨⟨h1,h2⟩,h3⟩,h4⟩,h5⟩,h6⟩,h7⟩:=h
 refine⟨h1,h2,h3,T5 h4,h5,fun x hx=>?_,fun y hy e=>?_⟩
 ·have:=h6 x hx
  split at this
  ·rename_i q;exact .inl q
  ·rename_i q;exact .inr q
  ·cases this
 ·have:=h7 y hy
  rw[e]at this
  cases this
def KF(K:PySem.W.Frag) (x:Str) (st:Stmt):Prop:=∃(f:Addr) (oc:Value) (od:Option Addr) (sl:Array (Option Value)) (kV dc pm:Value) (an:Option Addr) (cd ct:Value),
 PySem.W.nsIn K mainGlobals x=some (some (.ref f))/\K.lookup f=some ⟨oc,od,.func (PySem.W.fnOf x x (N6 st) (E2 st) (B2 st) .none kV dc pm an cd ct),sl⟩/\PySem.W.codeIn K cd x=true/\PySem.W.keepIn K (.ref f)=true
theorem bW8{K:PySem.W.Frag}{x:Str}{st:Stmt}{f:Addr}{oc:Value}{od:Option Addr}{sl:Array (Option Value)}{kV dc pm:Value}{an:Option Addr}{cd ct:Value}(a:PySem.W.nsIn K mainGlobals x=some (some (.ref f)))
  (l:K.lookup f=some ⟨oc,od,.func (PySem.W.fnOf x x (N6 st) (E2 st) (B2 st) .none kV dc pm an cd ct),sl⟩) (c:PySem.W.codeIn K cd x=true) (k:PySem.W.keepIn K (.ref f)=true):KF K x st:=⟨f,oc,od,sl,kV,dc,pm,an,cd,ct,a,l,c,k⟩
abbrev Tab:=List (Str×FnD×Nat)
section
variable {P:Program}{w:World}{K:PySem.W.Frag}{mg:Str->Option Value}{base:Heap}{cs:List (Str×D)}{bl:List Str}
structure Md (K:PySem.W.Frag) (mg:Str->Option Value) (cs:List (Str×D)) (bl:List Str):Prop where
 ns:∀x v,PySem.W.nsIn K mainGlobals x=some (some v)->mg x=some v
 css:∀x d,cs.lookup x=some d->∃u,az6 K d u/\mg x=some u
 bls:∀x,bl.contains x=true->mg x=none
def TOk(P:Program) (w:World) (K:PySem.W.Frag) (mg:Str->Option Value) (base:Heap) (k:Nat) (tab:Tab):Prop:=∀x F n,tab.lookup x=some (F,n)->(∃(f:Addr) (fd:FuncData) (ps:List Str),
 FnOk P w K mg base CX0 k f fd ps (spF K n F)/\mg x=some (.ref f)/\PySem.W.keepIn K (.ref f)=true/\K1 K fd ps [])\/(mg x=none/\bh1 x F n)
theorem TOk.nil:TOk P w K mg base 0 []:=fun x F n h=>by cases h
theorem TOk.mono(T:TOk P w K mg base j tab) (h:j<=k):TOk P w K mg base k tab:=fun x F n e =>
 (T x F n e).imp (fun⟨f,fd,ps,h1,h2,h3,h4⟩=>⟨f,fd,ps,h1.mono h,h2,h3,h4⟩) id
def UA:Nat->(List Value->Prop)->Prop
 | 0,P=>P []
 | n+1,P=>∀a,UA n fun us=>P (a::us)
theorem ua:∀{n:Nat}{P:List Value->Prop},UA n P->∀us:List Value,us.length=n->P us
 | 0,_,h,[],_=>h
 | _+1,P,h,a::us,e=>ua (P:=fun us=>P (a::us)) (h a) us (Nat.succ.inj e)
def Bd(d:Fd):Prop:=∀(kV doc pm:Value) (an:Option Addr) (cdv ct:Value),UA d.ps.length fun us=>bindArgs (PySem.W.fnOf d.x d.x (N6 d.st) (E2 d.st) (B2 d.st) .none kV doc pm an cdv ct) ⟨us,[]⟩=pure (d.ps.zip us)
def rd(tab:Tab) (cs:List (Str×D)) (bl:List Str) (d:Fd):FnD:=F6 ((ev ⟨tab,cs,bl⟩ 99).b d.c (E2 d.st)) d.N.length
theorem by3(M:Md K mg cs bl) (T:TOk P w K mg base k tab) (ok:d.okB=true) (Fn:Fun K d.x d.x d.st f fd):FnOk P w K mg base CX0 (k+1) f fd d.ps (spF K d.ps.length (rd tab cs bl d)):=by
 have Sc:=Fd.sc ok
 refine ak4 (N:=d.N) Fn Sc fun cdv A outer s H E hr=>(U7 ⟨tab,cs,bl⟩ 99).b (c:=d.c) ?_ _
 refine⟨rfl,rfl,Sc.nd,rfl,rfl,hr.units,fun _=>⟨fun _=>rfl,Sc.kind⟩,fun x F n h=>?_,M.css,M.bls⟩
 exact(T x F n h).imp (fun⟨f',fd',ps,h1,h2,h3,h4⟩=>⟨k,f',fd',ps,h1,hr,h2,h3,h4⟩) id
theorem d5{x:Str}{st:Stmt}(h:KF K x st) (M:Md K mg cs bl):∃(f:Addr) (kV dc pm:Value) (an:Option Addr) (cd ct:Value),Fun K x x st f (PySem.W.fnOf x x (N6 st) (E2 st) (B2 st) .none kV dc pm an cd ct)/\mg x=some (.ref f):=by
 obtain⟨f,oc,od,sl,kV,dc,pm,an,cd,ct,a,l,cc,kk⟩:=h
 exact⟨f,kV,dc,pm,an,cd,ct,bN1 l cc kk,M.ns _ _ a⟩
theorem TOk.cons{k:Nat}{tab:Tab}{x:Str}{F:FnD}{n:Nat}(T:TOk P w K mg base k tab) (h:∃(f:Addr) (fd:FuncData) (ps:List Str),FnOk P w K mg base CX0 k f fd ps (spF K n F)/\mg x=some (.ref f)/\PySem.W.keepIn K (.ref f)=true/\K1 K fd ps []) :
  TOk P w K mg base k ((x,F,n)::tab):=fun y G m e=>by
 rw[List.lookup_cons]at e
 split at e
 ·rename_i q
  cases e
  simp only[beq_iff_eq]at q
  subst q
  exact .inl h
 ·exact T y G m e
theorem TOk.bi(T:TOk P w K mg base k tab) (M:Md K mg cs bl) (hb:bl.contains x=true) (h:bh1 x F n):TOk P w K mg base k ((x,F,n)::tab):=fun y G m e=>by
 rw[List.lookup_cons]at e
 split at e
 ·rename_i q
  cases e
  simp only[beq_iff_eq]at q
  subst q
  exact .inr ⟨M.bls _ hb,h⟩
 ·exact T y G m e
theorem TOk.add(T:TOk P w K mg base k tab) (M:Md K mg cs bl) (d:Fd) (h:KF K d.x d.st) (F:FnD) (e:rd tab cs bl d=F:=by kernel_rfl) (ok:d.okB=true:=by kernel_rfl) (bd:Bd d:=by repeat (first|exact rfl|intro _)):TOk P w K mg base (k+1) ((d.x,F,d.ps.length)::tab):=by
 subst e
 obtain⟨f,kV,dc,pm,an,cd,ct,Fn,hm⟩:=d5 h M
 exact(T.mono (Nat.le_succ k)).cons ⟨f,_,d.ps,by3 M T ok Fn,hm,Fn.kp,.all (ua (bd kV dc pm an cd ct))⟩
theorem bp3(M:Md K mg cs bl) (T:∀base:Heap,TOk P w K mg base k tab) (d:Fd) (h:KF K d.x d.st) (e:rd tab cs bl d=F) (hm:mg d.x=some (.ref fa)) (hp:d.ps=[x]:=by rfl) (ok:d.okB=true:=by kernel_rfl) (bd:Bd d:=by repeat (first|exact rfl|intro _)) :
  ∃fd:FuncData,(∀(s:Shared) (u:Value),BindsTo s fd ⟨[u],[]⟩ [(x,u)])/\∀base:Heap,FnOk P w K mg base CX0 (k+1) fa fd [x] (spF K 1 F):=by
 subst e
 obtain⟨f,kV,dc,pm,an,cd,ct,Fn,hm'⟩:=d5 h M
 cases hm.symm.trans hm'
 refine⟨PySem.W.fnOf d.x d.x (N6 d.st) (E2 d.st) (B2 d.st) .none kV dc pm an cd ct,fun s u=>.of_eq ?_,fun base=>?_⟩
 ·have:=ua (bd kV dc pm an cd ct) [u] (by rw[hp];rfl)
  rw[hp]at this
  exact this
 ·have:=by3 M (T base) ok Fn
  rw[hp]at this
  exact this
end
end G
namespace G
open PySem PySem.Spec PyProof.Rows L2
abbrev az3:=List (Str×(Str->Option D))
abbrev az4:=List (Str×(List D->Option Str)×Nat)
structure Rg where
 rf:az4
 cl:List Str
 tb:List (Str×List (Str×Bool))
 sb:List (Str×List Str)
 nb:List (Str×List Str)
 xf:az3
structure FitR (S:Sg) (T:Rg) (c:Kx) (X:Cx):Prop where
 fit:Fit S c X
 ns:∀x C,clA X.K x=some C->X.mg x=some (.ref C)
 rfs:∀x R n,T.rf.lookup x=some (R,n)->∃(k:Nat) (f:Addr) (fd:FuncData) (ps:List Str),FnOk X.prog X.w X.K X.mg X.base (CX1 X.prog X.w) k f fd ps (spR X.K n R)/\Room k X.A/\X.mg x=some (.ref f)/\PySem.W.keepIn X.K (.ref f)=true/\K1 X.K fd ps []
 cls:∀x,T.cl.contains x=true->P6 X.K x=true
 tbs:∀y l,T.tb.lookup y=some l->(∃D,clA X.K y=some D/\Z5 X.K (.ref D) fun x=>l.lookup x)\/(y = "ValueError" /\ X.mg y=none/\Z5 X.K (.type "ValueError") fun x=>l.lookup x)
 sbs:∀y l,T.sb.lookup y=some l->P6 X.K y=true/\∀x∈l,P6 X.K x=true/\aR1 X.K x y=true
 nbs:∀y l,T.nb.lookup y=some l->∀x∈l,P6 X.K x=true/\bC0 X.K x y=true
 xfs:∀x F,T.xf.lookup x=some F->∃(k:Nat) (f:Addr) (fd:FuncData) (ps:List Str),FnQ X.prog X.w X.K X.mg X.base k f fd ps (spX X.K F)/\RoomQ k X.A/\X.mg x=some (.ref f)/\PySem.W.keepIn X.K (.ref f)=true/\K1 X.K fd ps []
section
variable (S:Sg) (T:Rg)
def fsP(c:Kx) (e:Expr):DE:=match e with
 | .FormattedValue v k sp _=>if k==114 then(match sp with
  | none=>dRp ((ev S 99).e c v)
  | some _=>dNo) else dNo
 | .Constant k _ _=>xCn k
 | _=>dNo
def msE(c:Kx) (e:Expr):DE:=match e with
 | .JoinedStr (e1::e2::es) _=>be8 Str.empty ((e1::e2::es).map (fsP S c))
 | _=>(ev S 99).e c e
def fnL(c:Kx) (n:Nat):List Expr->Option (List (FnD×(List D->Option Str)))
 | []=>some []
 | .Name x _::es=>(match S.fn.lookup x,T.rf.lookup x with
  | some (F,m),some (R,m')=>if V9 c.sc x&&m==n&&m'==n then(fnL c n es).map fun r=>(F,R)::r else none
  | _,_=>none)
 | _::_=>none
def xvE(c:Kx) (e:Expr):DE:=(fun _:Rg=>(ev S 99).e c e) T
def xvS(c:Kx) (st:Stmt):DS:=match st with
 | .Return o _=>(match o with
  | some e=>C4 (xvE S T c e)
  | none=>B0)
 | _=>xS S (ev S 99) c st
def rvN(c:Kx) (f a:Expr) (args:List Expr):RD:=match f with
 | .Name x _=>(match T.rf.lookup x with
  | some (R,n)=>if V9 c.sc x&&(a::args).length==n&&(a::args).all pl then an4 R (evA ((ev S 99).e c) (a::args)) else rNo
  | none=>rNo)
 | _=>rNo
def rvE(c:Kx) (e:Expr):RD:=match e with
 | .Call f as kw _=>(match as,kw with
  | a::args,[]=>rvN S T c f a args
  | _,_=>rNo)
 | _=>rNo
def rvL(f:Stmt->RD) (c:Kx):List Stmt->RD
 | []=>rNo
 | [s]=>f s
 | s::t::r=>av1 (f s) (xS S (ev S 99) c s) (rvL f c (t::r))
def rvR(mk:Bool) (c:Kx) (a b:Option Expr):RD:=match a,b with
 | some e,none=>(match e with
  | .Call f as kw _=>(match f with
   | .Name x _=>(match as,kw with
    | [e],[]=>if mk&&T.cl.contains x&&V9 c.sc x&&pl e then ai2 x (msE S c e) else rNo
    | _,_=>rNo)
   | _=>rNo)
  | _=>rNo)
 | _,_=>rNo
def rvX(c:Kx) (e:Expr):RD:=match e with
 | .Call f as kw q=>rvE S T c (.Call f as kw q)
 | _=>rNo
def rvA(c:Kx) (v:Expr):List Expr->RD
 | [t]=>(match t with
  | .Name _ _=>rvX S T c v
  | _=>rNo)
 | _=>rNo
def rvS(mk:Bool):Nat->Kx->Stmt->RD
 | 0,_,_=>rNo
 | n+1,c,st=>match st with
  | .Raise a b _=>rvR S T mk c a b
  | .If t a b _=>rIf ((ev S 99).t c t) (rvL S (rvS mk n c) c a) (rvL S (rvS mk n c) c b)
  | .Expr e _=>rvX S T c e
  | .Return o _=>(match o with
   | some e=>rvE S T c e
   | none=>rNo)
  | .Assign ts v _=>rvA S T c v ts
  | _=>rNo
def rvB(mk:Bool) (c:Kx) (sts:List Stmt):RD:=rvL S (rvS S T mk 9 c) c sts
def zvI(c:Kx) (w:Str) (a b:Expr):DE:=match a with
 | .Name x _=>(match b with
  | .Name y _=>if biB S c "isinstance" w&&ag5 c.sc x&&V9 c.sc y then(match Q3 x c.N,T.tb.lookup y with
   | some i,some l=>aO4 i fun x=>l.lookup x
   | _,_=>dNo) else dNo
  | _=>dNo)
 | _=>dNo
def zvE(c:Kx):Nat->Expr->DE
 | 0,_=>dNo
 | n+1,ex=>match ex with
  | .Call f as kw cpos=>(match kw with
   | []=>(match f with
    | .Name w _=>(match as with
     | [a,b]=>zvI S T c w a b
     | _=>dNo)
    | .Attribute o m apos=>(match as with
     | [a]=>if m == "count" && av9 o&&apos.endLine==cpos.line&&pl a then ax6 (zvE c n o) (zvE c n a) else if m == "index" && av9 o&&apos.endLine==cpos.line&&pl a then ak8 (zvE c n o) (zvE c n a) else dNo
     | _=>dNo)
    | _=>dNo)
   | _=>dNo)
  | .Constant k _ _=>xCn k
  | .Name x _=>(match Q3 x c.N with
   | some i=>if ag5 c.sc x then A1 i else dNo
   | none=>dNo)
  | .Tuple es _ _=>if es.length<=1000 then D8 (evA (zvE c n) es) else dNo
  | .List es _=>if es.length<=1000 then G5 (evA (zvE c n) es) else dNo
  | .UnaryOp op a _=>(match op with
   | .USub=>be7 (zvE c n a)
   | .Not=>be6 (zvE c n a)
   | _=>dNo)
  | .BinOp a op b _=>(match op with
   | .Add=>A4 J1 (zvE c n a) (zvE c n b)
   | _=>dNo)
  | .Compare a ops bs _=>(match ops,bs with
   | [op],[b]=>if pl b then A4 (as5 op) (zvE c n a) (zvE c n b) else dNo
   | _,_=>dNo)
  | .BoolOp op vs _=>aN3 (zvE c n) op vs
  | _=>dNo
def zvT(c:Kx):Nat->Expr->DT
 | 0,_=>tNo
 | n+1,ex=>match ex with
  | .Compare a ops bs _=>(match ops,bs with
   | [op],[b]=>if pl b then tB2 (as5 op) (zvE S T c 9 a) (zvE S T c 9 b) else tNo
   | _,_=>tNo)
  | .BoolOp op vs _=>aN2 (zvT c n) op vs
  | .UnaryOp op a _=>(match op with
   | .Not=>Q7 (zvT c n a)
   | _=>tNo)
  | _=>if plT ex then W3 (zvE S T c 9 ex) else tNo
def zvA(c:Kx) (d:DE) (v:Expr):List Expr->DS
 | [t]=>(match t with
  | .Name x _=>(match Q3 x c.N with
   | some i=>if aM4 c x && !(isC v) then D0 i d else B0
   | none=>B0)
  | _=>B0)
 | _=>B0
def zvS(c:Kx):Nat->Stmt->DS
 | 0,_=>B0
 | n+1,st=>match st with
  | .Assign ts v _=>zvA c (zvE S T c 9 v) v ts
  | .If t a b _=>sIf (zvT S T c 9 t) (evB (zvS c n) a) (evB (zvS c n) b)
  | .Return o _=>(match o with
   | some e=>C4 (zvE S T c 9 e)
   | none=>B0)
  | _=>B0
def hvX(c:Kx) (e:Expr):Option DE:=match e with
 | .Call f as kw _=>(match f with
  | .Name f _=>(match as,kw with
   | [a],[]=>(match a with
    | .Name x _=>(match T.xf.lookup f,Q3 x c.N with
     | some F,some i=>if V9 c.sc f&&ag5 c.sc x then some (d7 i F) else none
     | _,_=>none)
    | _=>none)
   | _,_=>none)
  | _=>none)
 | _=>none
def hvE(c:Kx) (ex:Expr):DE:=match hvX T c ex with
 | some d=>d
 | none=>zvE ⟨[],[],S.bl⟩ T c 9 ex
def hvS(c:Kx) (st:Stmt):DS:=match st with
 | .Assign ts v _=>zvA c (hvE S T c v) v ts
 | .Return o _=>(match o with
  | some e=>C4 (hvE S T c e)
  | none=>B0)
 | _=>B0
def j9(l:List Str) (r:RD):RD:=fun ρ=>match r ρ with
 | some (x,ρ1)=>if l.contains x then some (x,ρ1) else none
 | none=>none
def hnd:ExceptHandler->Option (Str×Option Str×Stmt×List Stmt)
 | .ExceptHandler t nm su _=>(match t with
  | some e=>(match e with
   | .Name y _=>(match su with
    | b0::suite=>some (y,nm,b0,suite)
    | []=>none)
   | _=>none)
  | none=>none)
def hc1(c:Kx) (h:ExceptHandler):Option (List Str×List Str×DS):=match hnd h with
 | some (y,none,b0,suite)=>(match T.sb.lookup y,T.nb.lookup y with
  | some l,some nl=>if V9 c.sc y then some (l,nl,evB (hvS S T c) (b0::suite)) else none
  | _,_=>none)
 | _=>none
def hcL(c:Kx):List ExceptHandler->Option (List (List Str×List Str×DS))
 | []=>some []
 | h::hs=>(hc1 S T c h).bind fun x=>(hcL c hs).map fun r=>x::r
def tvA(c:Kx) (body:List Stmt) (h:ExceptHandler):DS:=match hnd h with
 | some (y,some n,b0,suite)=>(match T.sb.lookup y,Q3 n c.N with
  | some l,some i=>if V9 c.sc y&&c.sc.names.lookup n==some .local then ad9 (j9 l (rvB S T false c body)) (evB (xvS S T c) body) i (evB (hvS S T c) (b0::suite)) else B0
  | _,_=>B0)
 | _=>B0
def tvH(c:Kx) (body:List Stmt):List ExceptHandler->DS
 | []=>B0
 | h0::hs=>(match hs with
  | []=>tvA S T c body h0
  | _=>B0)
def tvS(c:Kx) (st:Stmt):DS:=match st with
 | .Try body hs oe fi _=>(match oe,fi with
  | [],[]=>tvH S T c body hs
  | _,_=>B0)
 | _=>xS S (ev S 99) c st
def rdT(tab:Tab) (cs:List (Str×D)) (bl:List Str) (T:Rg) (d:Fd):FnD:=F6 (evB (tvS ⟨tab,cs,bl⟩ T d.c) (E2 d.st)) d.N.length
def rdX(bl:List Str) (T:Rg) (d:Fd):Str->Option D:=bD8 (evB (zvS ⟨[],[],bl⟩ T d.c 9) (E2 d.st)) d.N.length
def rdR(tab:Tab) (cs:List (Str×D)) (bl:List Str) (T:Rg) (d:Fd):List D->Option Str:=aS9 (rvB ⟨tab,cs,bl⟩ T true d.c (E2 d.st)) d.N.length
end
end G
namespace G
open PySem PySem.Spec PyProof.Rows L2
section
variable {S:Sg}{T:Rg}{c:Kx}{X:Cx}
theorem bN2(F:Fit S c X) (e:Expr):JE X e (fsP S c e):=by
 unfold fsP
 split
 ·split
  ·rename_i h
   simp only[beq_iff_eq]at h
   subst h
   split
   ·exact bX6 ((U7 S 99).e F _)
   ·exact B6
  ·exact B6
 ·exact at4 _ _ _
 ·exact B6
theorem aF4(F:Fit S c X):∀es:List Expr,JEs X es (es.map (fsP S c))
 | []=>.nil
 | e::es=>.cons (bN2 F e) (aF4 F es)
theorem bH4(F:Fit S c X) (e:Expr):JE X e (msE S c e):=by
 unfold msE
 split
 ·exact bX8 (aF4 F _)
 ·exact(U7 S 99).e F e
theorem bz5(F:FitR S T c X) (e:Expr):JE X e (xvE S T c e):=(U7 S 99).e F.fit e
theorem bz4(F:FitR S T c X) (st:Stmt):JS X st (xvS S T c st):=by
 unfold xvS
 split
 ·split
  ·exact aj9 (bz5 F _)
  ·exact A5
 ·exact aA0 (U7 S 99) F.fit st
theorem an5{m:Bool}{e:Expr}:PX X m e rNo:=fun ρ x ρ1 C q=>by cases q
theorem au8{m:Bool}(F:FitR S T c X) (e:Expr):PX X m e (rvE S T c e):=by
 unfold rvE
 split
 ·rename_i f as kw pos
  split
  ·rename_i a args
   unfold rvN
   split
   ·rename_i x p
    split
    ·rename_i R n hl
     split
     ·rename_i h
      simp only[Bool.and_eq_true,beq_iff_eq]at h
      obtain⟨⟨hg,hn⟩,hp⟩:=h
      obtain⟨g1,g2⟩:=N5 F.fit hg
      obtain⟨k,f,fd,ps,hk,hr,hm,hkp,hb⟩:=F.rfs _ _ _ hl
      simp only[List.all_cons,Bool.and_eq_true]at hp
      exact bl7 F.fit.hx hk hr g1 hm hkp hb (X8 ((U7 S 99).e F.fit) (a::args)) hn g2 (E1 hp.1 _ _) ((Z4 pos _).trans (Q0 pos _ hp.2))
     ·exact an5
    ·exact an5
   ·exact an5
  ·exact an5
 ·exact an5
theorem ah7{m:Bool}{f:Stmt->RD}(F:FitR S T c X) (h:∀st,JR X m st (f st)):∀sts,JRs X m sts (rvL S f c sts)
 | []=>bK0
 | [s]=>br1 (h s)
 | s::t::r=>aY9 F.fit.hx (h s) (aA0 (U7 S 99) F.fit s) (ah7 F h (t::r))
theorem bD7(F:FitR S T c X) (mk:Bool) (a b:Option Expr) (pos:Pos):JR X mk (.Raise a b pos) (rvR S T mk c a b):=by
 unfold rvR
 split
 ·split
  ·split
   ·rename_i x p
    split
    ·split
     ·rename_i h
      simp only[Bool.and_eq_true]at h
      obtain⟨⟨⟨rfl,hc⟩,hg⟩,hp⟩:=h
      obtain⟨g1,g2⟩:=N5 F.fit hg
      exact aZ0 F.fit.hx (F.cls x hc) g1 (fun C=>F.ns x C) F.fit.calm (bH4 F.fit _) g2 (E1 hp [] _)
     ·exact R0
    ·exact R0
   ·exact R0
  ·exact R0
 ·exact R0
theorem au7(F:FitR S T c X) (mk:Bool) (hlo:mk=true->bQ2 X):∀(n:Nat) (st:Stmt),JR X mk st (rvS S T mk n c st)
 | 0,st=>R0
 | n+1,st=>by
  cases st
  case Raise=>exact bD7 F mk _ _ _
  case If=>exact bX2 F.fit.hx ((U7 S 99).t F.fit _) (ah7 F (au7 F mk hlo n) _) (ah7 F (au7 F mk hlo n) _)
  case Expr e p =>
   cases e
   case Call=>exact br2 (au8 F _) rfl
   all_goals exact R0
  case Return o p =>
   cases o
   ·exact R0
   ·exact bK2 (au8 F _)
  case Assign ts v p =>
   unfold rvS rvA
   dsimp only
   split
   ·split
    ·cases v
     case Call=>exact bK1 (au8 F _) rfl
     all_goals exact R0
    ·exact R0
   ·exact R0
  all_goals exact R0
theorem aS7(F:FitR S T c X) (mk:Bool) (hlo:mk=true->bQ2 X) (sts:List Stmt):JRs X mk sts (rvB S T mk c sts):=ah7 F (au7 F mk hlo 9) sts
abbrev Cx.quiet(X:Cx):Cx:={ X with calm:=true }
abbrev bv6(T:Rg) (X:Cx):Prop:=(∀x C,clA X.K x=some C->X.mg x=some (.ref C))/\∀y l,T.tb.lookup y=some l->(∃D,clA X.K y=some D/\Z5 X.K (.ref D) fun x=>l.lookup x)\/(y = "ValueError" /\ X.mg y=none/\Z5 X.K (.type "ValueError") fun x=>l.lookup x)
theorem bz3(F:Fit S c (Cx.quiet X)) (tb:bv6 T X) (w:Str) (a b:Expr) (p pos:Pos):JE X (.Call (.Name w p) [a,b] [] pos) (zvI S T c w a b):=by
 unfold zvI
 split
 ·split
  ·rename_i x p1 y p2
   split
   ·rename_i h
    simp only[Bool.and_eq_true]at h
    obtain⟨rfl,h1,h2⟩:=E5 F h.1.1
    obtain⟨v1,v2,v3⟩:=P7 F h.1.2
    obtain⟨g1,g2⟩:=N5 F h.2
    split
    ·rename_i i l hi hl
     rcases tb.2 y l hl with⟨D,hD,ok⟩|⟨rfl,hm,ok⟩
     ·exact ba6 (X:=X) (v:=.ref D) h1 h2 (F.slot hi) v1 v2 v3 (bn2 g1 (tb.1 y D hD) g2) rfl (fun u r=>r) ok
     ·exact ba6 (X:=X) (v:=.ty "ValueError") h1 h2 (F.slot hi) v1 v2 v3 (aD0 (v:=.ty "ValueError") g1 hm (by decide +kernel) rfl (by decide) g2) rfl (fun u r=>r) ok
    ·exact B6
   ·exact B6
  ·exact B6
 ·exact B6
theorem U8(F:Fit S c (Cx.quiet X)) (tb:bv6 T X):∀(n:Nat) (ex:Expr),JE X ex (zvE S T c n ex)
 | 0,ex=>B6
 | n+1,ex=>by
  have hu:X.A.units+64 < cLine:=F.units
  have R:=U8 F tb n
  cases ex
  case Call f as kw cpos =>
   cases kw
   ·cases f
    case Name w p =>
     unfold zvE
     dsimp only
     split
     ·exact bz3 F tb _ _ _ _ _
     ·exact B6
    case Attribute o m apos =>
     unfold zvE
     dsimp only
     split
     ·split
      ·rename_i h
       simp only[Bool.and_eq_true,beq_iff_eq]at h
       obtain⟨⟨⟨hm,hn⟩,hl⟩,hp⟩:=h
       subst hm
       have hs:=E1 hp [] X.env
       exact ba8 hu (R _) (R _) (k7 hn _ _ _) (by rw[hs];rfl) (by simpa using hl) hs
      ·split
       ·rename_i h
        simp only[Bool.and_eq_true,beq_iff_eq]at h
        obtain⟨⟨⟨hm,hn⟩,hl⟩,hp⟩:=h
        subst hm
        have hs:=E1 hp [] X.env
        exact aM9 hu (R _) (R _) (k7 hn _ _ _) (by rw[hs];rfl) (by simpa using hl) hs
       ·exact B6
     ·exact B6
    all_goals exact B6
   ·exact B6
  case Constant=>exact at4 _ _ _
  case Name x p =>
   unfold zvE
   dsimp only
   split
   ·rename_i i hi
    split
    ·rename_i v;obtain⟨h1,h2,h3⟩:=P7 F v;exact ba0 (X:=X) i (F.slot hi) h1 h2 h3
    ·exact B6
   ·exact B6
  case Tuple es _ _ =>
   unfold zvE
   dsimp only
   split
   ·rename_i h;exact ba2 (X8 R _) h
   ·exact B6
  case List es _ =>
   unfold zvE
   dsimp only
   split
   ·rename_i h;exact X7 (aZ4 (X8 R _) h)
   ·exact B6
  case UnaryOp op a p =>
   cases op
   case USub=>exact aw5 (R _)
   case Not=>exact ba4 (R _)
   all_goals exact B6
  case BinOp a op b p =>
   cases op
   case Add=>exact N9 aD5 (R _) (R _)
   all_goals exact B6
  case Compare a ops bs p =>
   unfold zvE
   dsimp only
   split
   ·split
    ·rename_i h;exact ba9 (Q2 hu _) (R _) (R _) (T4 h _)
    ·exact B6
   ·exact B6
  case BoolOp=>exact r9 R _ _ _
  all_goals exact B6
theorem at1(F:Fit S c (Cx.quiet X)) (tb:bv6 T X):∀(n:Nat) (ex:Expr),JT X ex (zvT S T c n ex)
 | 0,ex=>S1
 | n+1,ex=>by
  have hu:X.A.units+64 < cLine:=F.units
  have oth:∀e:Expr,JT X e (if plT e then W3 (zvE S T c 9 e) else tNo):=fun e=>by
   split
   ·rename_i h;exact aY2 (U8 F tb 9 _) (an9 h _)
   ·exact S1
  cases ex
  case Compare a ops bs p =>
   unfold zvT
   dsimp only
   split
   ·split
    ·rename_i h;exact aY4 (Q2 hu _) (U8 F tb 9 _) (U8 F tb 9 _) (T4 h _)
    ·exact S1
   ·exact S1
  case BoolOp=>exact ap6 (r8 (at1 F tb n) _ _ _)
  case UnaryOp op a p =>
   cases op
   case Not=>exact aY3 (at1 F tb n _)
   all_goals exact S1
  all_goals exact oth _
theorem aQ1(F:Fit S c (Cx.quiet X)) {d:DE}{v:Expr}(h:JE X v d) (ts:List Expr) (pos:Pos):JS X (.Assign ts v pos) (zvA c d v ts):=by
 have nd:X.N.Nodup:=by have:X.N=c.N:=F.N;rw[this];exact F.nd
 unfold zvA
 split
 ·split
  ·split
   ·rename_i i hi
    split
    ·rename_i hc
     simp only[Bool.and_eq_true,Bool.not_eq_true']at hc
     obtain⟨l1,l2⟩:=aj5 F hc.1
     exact aw3 (X:=X) i nd h (F.slot hi) l1 (X1 hc.2 _ _ _) l2
    ·exact A5
   ·exact A5
  ·exact A5
 ·exact A5
theorem at2(F:Fit S c (Cx.quiet X)) (tb:bv6 T X):∀(n:Nat) (st:Stmt),JS X st (zvS S T c n st)
 | 0,st=>A5
 | n+1,st=>by
  cases st
  case Assign=>exact aQ1 F (U8 F tb 9 _) _ _
  case If=>exact bx7 (at1 F tb 9 _) (S4 (at2 F tb n) _) (S4 (at2 F tb n) _)
  case Return o p =>
   cases o
   ·exact A5
   ·exact aj9 (U8 F tb 9 _)
  all_goals exact A5
theorem FitR.hf(F:FitR S T c X) (a:Addr):Fit ⟨[],[],S.bl⟩ c (Cx.quiet (Cx.held X (.ref a))) :=
 ⟨F.fit.N,F.fit.sc,F.fit.nd,rfl,F.fit.xe,F.fit.units,F.fit.df,(fun x F n h=>nomatch h),(fun x d h=>nomatch h),F.fit.bls⟩
theorem bM8(F:FitR S T c X) (a:Addr) (ex:Expr) {d:DE}(h:hvX T c ex=some d):JE (Cx.held X (.ref a)) ex d:=by
 unfold hvX at h
 split at h
 ·split at h
  ·split at h
   ·split at h
    ·split at h
     ·rename_i G i hl hi
      split at h
      ·rename_i hc
       cases h
       simp only[Bool.and_eq_true]at hc
       obtain⟨g1,g2⟩:=N5 F.fit hc.1
       obtain⟨v1,v2,v3⟩:=P7 F.fit hc.2
       obtain⟨k,fa,fd,ps,hk,hr,hm,hkp,hb⟩:=F.xfs _ _ hl
       exact bb1 (X:=Cx.held X (.ref a)) hk ⟨hr.dp,hr.un⟩ g1 hm hkp hb (F.fit.slot hi) v1 v2 v3 g2
      ·cases h
     ·cases h
    ·cases h
   ·cases h
  ·cases h
 ·cases h
theorem bc1(F:FitR S T c X) (a:Addr) (ex:Expr):JE (Cx.held X (.ref a)) ex (hvE S T c ex):=by
 unfold hvE
 split
 ·rename_i h;exact bM8 F a ex h
 ·exact U8 (F.hf a) ⟨F.ns,F.tbs⟩ 9 ex
theorem bM9(F:FitR S T c X) (a:Addr) (st:Stmt):JS (Cx.held X (.ref a)) st (hvS S T c st):=by
 unfold hvS
 split
 ·exact aQ1 (F.hf a) (bc1 F a _) _ _
 ·split
  ·exact aj9 (bc1 F a _)
  ·exact A5
 ·exact A5
theorem bo0{m:Bool}{sts:List Stmt}{r:RD}{l:List Str}(h:JRs X m sts r):JRs X m sts (j9 l r):=fun ρ x ρ1 C q=>by
 unfold j9 at q
 split at q
 ·rename_i x' ρ' e
  split at q
  ·cases q;exact h ρ x ρ1 C e
  ·cases q
 ·cases q
theorem bo1{r:RD}{l:List Str}{ρ ρ1:Rho}{x:Str}(h:j9 l r ρ=some (x,ρ1)):x∈l:=by
 unfold j9 at h
 split at h
 ·split at h
  ·rename_i c;cases h;exact List.contains_iff_mem.mp c
  ·cases h
 ·cases h
theorem bN0{h:ExceptHandler}{y:Str}{nm:Option Str}{b0:Stmt}{suite:List Stmt}(e:hnd h=some (y,nm,b0,suite)):∃np hp,h=.ExceptHandler (some (.Name y np)) nm (b0::suite) hp:=by
 unfold hnd at e
 split at e
 split at e
 ·split at e
  ·split at e
   ·cases e;exact⟨_,_,rfl⟩
   ·cases e
  ·cases e
 ·cases e
theorem bB5(F:FitR S T c X) (hex:X.ex=[]) (hst:X.stack=X.env::X.outer) (hfr:X.env.frame=some X.env.locals) (body:List Stmt) (h:ExceptHandler) (pos:Pos):JS X (.Try body [h] [] [] pos) (tvA S T c body h):=by
 unfold tvA
 split
 ·rename_i y n b0 suite e
  obtain⟨np,hp,rfl⟩:=bN0 e
  split
  ·rename_i l i hl hi
   split
   ·rename_i h
    simp only[Bool.and_eq_true,beq_iff_eq]at h
    obtain⟨g1,g2⟩:=N5 F.fit h.1
    obtain⟨c1,c2⟩:=F.sbs y l hl
    exact bq6 F.fit.hx hex hst hfr (S4 (bz4 F) body) (bo0 (aS7 F false (fun z=>by cases z) body)) g1 (fun D hD=>F.ns y D hD) g2 c1 (fun ρ x ρ1 e=>c2 x (bo1 e)) (by rw[F.fit.N];exact F.fit.nd) (F.fit.slot hi) (by rw[F.fit.sc];exact h.2) fun a=>S4 (bM9 F a) (b0::suite)
   ·exact A5
  ·exact A5
 ·exact A5
theorem bB4(F:FitR S T c X) (hex:X.ex=[]) (hst:X.stack=X.env::X.outer) (hfr:X.env.frame=some X.env.locals) (st:Stmt):JS X st (tvS S T c st):=by
 unfold tvS
 split
 ·split
  ·unfold tvH
   split
   ·exact A5
   ·split
    ·exact bB5 F hex hst hfr _ _ _
    ·exact A5
  ·exact A5
 ·exact aA0 (U7 S 99) F.fit st
end
section
variable {P:Program}{w:World}{K:PySem.W.Frag}{mg:Str->Option Value}{base:Heap}{cs:List (Str×D)}{bl:List Str}
def TRk(P:Program) (w:World) (K:PySem.W.Frag) (mg:Str->Option Value) (base:Heap) (k:Nat) (rt:az4):Prop:=∀x R n,rt.lookup x=some (R,n)->∃(f:Addr) (fd:FuncData) (ps:List Str),
 FnOk P w K mg base (CX1 P w) k f fd ps (spR K n R)/\mg x=some (.ref f)/\PySem.W.keepIn K (.ref f)=true/\K1 K fd ps []
theorem TRk.nil:TRk P w K mg base 0 []:=fun x R n h=>by cases h
theorem TRk.mono{j k:Nat}{rt:az4}(T:TRk P w K mg base j rt) (h:j<=k):TRk P w K mg base k rt:=fun x R n e =>
 let⟨f,fd,ps,h1,h2,h3,h4⟩:=T x R n e
 ⟨f,fd,ps,h1.mono h,h2,h3,h4⟩
theorem TRk.cons{k:Nat}{rt:az4}{x:Str}{R:List D->Option Str}{n:Nat}(T:TRk P w K mg base k rt) (h:∃(f:Addr) (fd:FuncData) (ps:List Str),FnOk P w K mg base (CX1 P w) k f fd ps (spR K n R)/\mg x=some (.ref f)/\PySem.W.keepIn K (.ref f)=true/\K1 K fd ps []) :
  TRk P w K mg base k ((x,R,n)::rt):=fun y G m e=>by
 rw[List.lookup_cons]at e
 split at e
 ·rename_i q
  cases e
  simp only[beq_iff_eq]at q
  subst q
  exact h
 ·exact T y G m e
structure Cl (K:PySem.W.Frag) (mg:Str->Option Value) (T:Rg):Prop where
 cls:∀x,T.cl.contains x=true->P6 K x=true
 tbs:∀y l,T.tb.lookup y=some l->(∃D,clA K y=some D/\Z5 K (.ref D) fun x=>l.lookup x)\/(y = "ValueError" /\ mg y=none/\Z5 K (.type "ValueError") fun x=>l.lookup x)
 sbs:∀y l,T.sb.lookup y=some l->P6 K y=true/\∀x∈l,P6 K x=true/\aR1 K x y=true
 nbs:∀y l,T.nb.lookup y=some l->∀x∈l,P6 K x=true/\bC0 K x y=true
theorem ay0{x:Str}{C:Addr}(M:Md K mg cs bl) (h:clA K x=some C):mg x=some (.ref C):=by
 unfold clA at h
 split at h
 ·rename_i C' e;cases h;exact M.ns _ _ e
 ·cases h
def TXk(P:Program) (w:World) (K:PySem.W.Frag) (mg:Str->Option Value) (base:Heap) (k:Nat) (xt:az3):Prop:=∀x F,xt.lookup x=some F->∃(f:Addr) (fd:FuncData) (ps:List Str),
 FnQ P w K mg base k f fd ps (spX K F)/\mg x=some (.ref f)/\PySem.W.keepIn K (.ref f)=true/\K1 K fd ps []
theorem TXk.nil:TXk P w K mg base 0 []:=fun x R h=>by cases h
theorem TXk.mono{j k:Nat}{xt:az3}(T:TXk P w K mg base j xt) (h:j<=k):TXk P w K mg base k xt:=fun x F e =>
 let⟨f,fd,ps,h1,h2,h3,h4⟩:=T x F e
 ⟨f,fd,ps,h1.mono h,h2,h3,h4⟩
theorem TXk.cons{k:Nat}{xt:az3}{x:Str}{F:Str->Option D}(T:TXk P w K mg base k xt) (h:∃(f:Addr) (fd:FuncData) (ps:List Str),FnQ P w K mg base k f fd ps (spX K F)/\mg x=some (.ref f)/\PySem.W.keepIn K (.ref f)=true/\K1 K fd ps []) :
  TXk P w K mg base k ((x,F)::xt):=fun y G e=>by
 rw[List.lookup_cons]at e
 split at e
 ·rename_i q
  cases e
  simp only[beq_iff_eq]at q
  subst q
  exact h
 ·exact T y G e
theorem bN5{k:Nat}{T:Rg}{d:Fd}{f:Addr}{fd:FuncData}(M:Md K mg cs bl) (Ck:Cl K mg T) (ok:d.okB=true) (hp:d.ps.length=1) (Fn:Fun K d.x d.x d.st f fd):FnQ P w K mg base (k+1) f fd d.ps (spX K (rdX bl T d)):=by
 have Sc:=Fd.sc ok
 refine bd2 (N:=d.N) Fn Sc hp fun cdv A outer s H hr=>S4 (at2 (S:=⟨[],[],bl⟩) (c:=d.c) ?_ ⟨fun x C h=>ay0 M h,Ck.tbs⟩ 9) _
 exact⟨rfl,rfl,Sc.nd,rfl,rfl,by have:=hr.un;show(A.deeper _).units+64 < _;omega,fun _=>⟨fun _=>rfl,Sc.kind⟩,(fun x F n h=>nomatch h),(fun x d h=>nomatch h),M.bls⟩
theorem bN7{k:Nat}{tab:Tab}{T:Rg}{d:Fd}{f:Addr}{fd:FuncData}(M:Md K mg cs bl) (Tk:TOk P w K mg base k tab) (Rk:TRk P w K mg base k T.rf) (Xk:TXk P w K mg base k T.xf) (Ck:Cl K mg T) (ok:d.okB=true) (Fn:Fun K d.x d.x d.st f fd):FnOk P w K mg base (CX1 P w) (k+1) f fd d.ps (spR K d.ps.length (rdR tab cs bl T d)):=by
 have Sc:=Fd.sc ok
 refine bd3 (N:=d.N) Fn Sc fun cdv A outer s H E hr=>aS7 (c:=d.c) ⟨?_,fun x C h=>ay0 M h,fun x R n h=>?_,Ck.cls,Ck.tbs,Ck.sbs,Ck.nbs,fun x F h=>?_⟩ true (fun _=>bI0) _
 ·refine⟨rfl,rfl,Sc.nd,rfl,rfl,hr.units,fun _=>⟨fun _=>rfl,Sc.kind⟩,fun x F n h=>?_,M.css,M.bls⟩
  exact(Tk x F n h).imp (fun⟨f',fd',ps,h1,h2,h3,h4⟩=>⟨k,f',fd',ps,h1,hr,h2,h3,h4⟩) id
 ·obtain⟨f',fd',ps,h1,h2,h3,h4⟩:=Rk x R n h
  exact⟨k,f',fd',ps,h1,hr,h2,h3,h4⟩
 ·obtain⟨f',fd',ps,h1,h2,h3,h4⟩:=Xk x F h
  exact⟨k,f',fd',ps,h1,⟨hr.dp,hr.un⟩,h2,h3,h4⟩
theorem bN6{k:Nat}{tab:Tab}{T:Rg}{d:Fd}{f:Addr}{fd:FuncData}(M:Md K mg cs bl) (Tk:TOk P w K mg base k tab) (Rk:TRk P w K mg base k T.rf) (Xk:TXk P w K mg base k T.xf) (Ck:Cl K mg T) (ok:d.okB=true) (Fn:Fun K d.x d.x d.st f fd):FnOk P w K mg base CX0 (k+1) f fd d.ps (spF K d.ps.length (rdT tab cs bl T d)):=by
 have Sc:=Fd.sc ok
 refine ak4 (N:=d.N) Fn Sc fun cdv A outer s H E hr=>S4 (fun st=>bB4 (c:=d.c) ⟨?_,fun x C h=>ay0 M h,fun x R n h=>?_,Ck.cls,Ck.tbs,Ck.sbs,Ck.nbs,fun x F h=>?_⟩ rfl rfl rfl st) _
 ·refine⟨rfl,rfl,Sc.nd,rfl,rfl,hr.units,fun _=>⟨fun _=>rfl,Sc.kind⟩,fun x F n h=>?_,M.css,M.bls⟩
  exact(Tk x F n h).imp (fun⟨f',fd',ps,h1,h2,h3,h4⟩=>⟨k,f',fd',ps,h1,hr,h2,h3,h4⟩) id
 ·obtain⟨f',fd',ps,h1,h2,h3,h4⟩:=Rk x R n h
  exact⟨k,f',fd',ps,h1,hr,h2,h3,h4⟩
 ·obtain⟨f',fd',ps,h1,h2,h3,h4⟩:=Xk x F h
  exact⟨k,f',fd',ps,h1,⟨hr.dp,hr.un⟩,h2,h3,h4⟩
end
end G
namespace G
open PySem PySem.Spec PyProof.Rows L2
def bt2(K:PySem.W.Frag) (cv:Value) (p:Str×Bool):Bool:=match clA K p.1 with
 | some C=>xcB K C&&PySem.W.excIn K C veB "ValueError.__new__" && PySem.W.kitOne K (.ref C) cv==some p.2
 | none=>false
def clB(K:PySem.W.Frag) (cl:List Str) (tb:List (Str×List (Str×Bool))) (sb nb:List (Str×List Str)):Bool :=
 cl.all (P6 K)&&tb.all (fun p=>match clA K p.1 with
  | some D=>p.2.all (bt2 K (.ref D))
  | none=>p.1 == "ValueError" && p.2.all (bt2 K (.type "ValueError")))&&(sb.all fun p=>P6 K p.1&&p.2.all fun x=>P6 K x&&aR1 K x p.1)&&nb.all fun p=>p.2.all fun x=>P6 K x&&bC0 K x p.1
theorem M7{α:Type}{x:Str}{a:α}:∀{l:List (Str×α)},l.lookup x=some a->(x,a)∈l
 | [],h=>by cases h
 | (y,b)::l,h=>by
  rw[List.lookup_cons]at h
  split at h
  ·rename_i q
   simp only[beq_iff_eq]at q
   cases h;subst q;exact List.mem_cons_self ..
  ·exact List.mem_cons_of_mem _ (M7 h)
theorem bb5{K:PySem.W.Frag}{cv:Value}{l:List (Str×Bool)}(h:l.all (bt2 K cv)=true):Z5 K cv fun x=>l.lookup x:=fun x b e=>by
 have:=List.all_eq_true.mp h _ (M7 e)
 unfold bt2 at this
 split at this
 ·rename_i C hC
  simp only[Bool.and_eq_true,beq_iff_eq]at this
  exact⟨C,hC,this.1.1,this.1.2,this.2⟩
 ·cases this
section
variable {P:Program}{w:World}{K:PySem.W.Frag}{mg:Str->Option Value}{base:Heap}{cs:List (Str×D)}{bl:List Str}
theorem Cl.of(M:Md K mg cs bl) (hv:bl.contains "ValueError" = true) (h:clB K T.cl T.tb T.sb T.nb=true):Cl K mg T:=by
 simp only[clB,Bool.and_eq_true]at h
 obtain⟨⟨⟨h1,h2⟩,h3⟩,h4⟩:=h
 refine⟨fun x hx=>List.all_eq_true.mp h1 x (List.contains_iff_mem.mp hx),fun y l e=>?_,fun y l e=>?_,fun y l e=>?_⟩
 ·have:=List.all_eq_true.mp h2 _ (M7 e)
  dsimp only at this
  split at this
  ·rename_i D hD;exact .inl ⟨D,hD,bb5 this⟩
  ·simp only[Bool.and_eq_true,beq_iff_eq]at this
   exact .inr ⟨this.1,by rw[this.1];exact M.bls _ hv,bb5 this.2⟩
 ·have:=List.all_eq_true.mp h3 _ (M7 e)
  simp only[Bool.and_eq_true,List.all_eq_true]at this
  exact this
 ·have:=List.all_eq_true.mp h4 _ (M7 e)
  simp only[Bool.and_eq_true,List.all_eq_true]at this
  exact this
theorem TRk.add(Rk:TRk P w K mg base k T.rf) (Tk:TOk P w K mg base k tab) (Xk:TXk P w K mg base k T.xf) (M:Md K mg cs bl) (Ck:Cl K mg T) (d:Fd) (h:KF K d.x d.st) (R:List D->Option Str) (e:rdR tab cs bl T d=R:=by kernel_rfl) (ok:d.okB=true:=by kernel_rfl) (bd:Bd d:=by repeat (first|exact rfl|intro _)):TRk P w K mg base (k+1) ((d.x,R,d.ps.length)::T.rf):=by
 subst e
 obtain⟨f,kV,dc,pm,an,cd,ct,Fn,hm⟩:=d5 h M
 exact(Rk.mono (Nat.le_succ k)).cons ⟨f,_,d.ps,bN7 M Tk Rk Xk Ck ok Fn,hm,Fn.kp,.all (ua (bd kV dc pm an cd ct))⟩
theorem TOk.addT(Tk:TOk P w K mg base k tab) (Rk:TRk P w K mg base k T.rf) (Xk:TXk P w K mg base k T.xf) (M:Md K mg cs bl) (Ck:Cl K mg T) (d:Fd) (h:KF K d.x d.st) (F:FnD) (e:rdT tab cs bl T d=F:=by kernel_rfl) (ok:d.okB=true:=by kernel_rfl) (bd:Bd d:=by repeat (first|exact rfl|intro _)):TOk P w K mg base (k+1) ((d.x,F,d.ps.length)::tab):=by
 subst e
 obtain⟨f,kV,dc,pm,an,cd,ct,Fn,hm⟩:=d5 h M
 exact(Tk.mono (Nat.le_succ k)).cons ⟨f,_,d.ps,bN6 M Tk Rk Xk Ck ok Fn,hm,Fn.kp,.all (ua (bd kV dc pm an cd ct))⟩
theorem TXk.add(Xk:TXk P w K mg base k xt) (M:Md K mg cs bl) (Ck:Cl K mg T) (d:Fd) (h:KF K d.x d.st) (F:Str->Option D) (e:rdX bl T d=F:=by kernel_rfl) (hp:d.ps.length=1:=by rfl) (ok:d.okB=true:=by kernel_rfl) (bd:Bd d:=by repeat (first|exact rfl|intro _)):TXk P w K mg base (k+1) ((d.x,F)::xt):=by
 subst e
 obtain⟨f,kV,dc,pm,an,cd,ct,Fn,hm⟩:=d5 h M
 exact(Xk.mono (Nat.le_succ k)).cons ⟨f,_,d.ps,bN5 M Ck ok hp Fn,hm,Fn.kp,.all (ua (bd kV dc pm an cd ct))⟩
end
end G
namespace Sh
open PySem PySem.Spec PyProof.Rows L2 G
end Sh
namespace Sh
open PySem PySem.Spec PyProof.Rows L2 G
end Sh
namespace G
open PySem PySem.Spec PyProof.Rows L2
section
variable {P:Program}{w:World}{K:PySem.W.Frag}{mg:Str->Option Value}{base:Heap}{cs:List (Str×D)}{bl:List Str}
theorem TOk.addK(T:TOk P w K mg base k tab) (M:Md K mg cs bl) (d:Fd) (h:KF K d.x d.st) (g:DS) (js:∀X:Cx,Fit ⟨tab,cs,bl⟩ d.c X->JSs X (E2 d.st) g) (ok:d.okB=true:=by kernel_rfl) (bd:Bd d:=by repeat (first|exact rfl|intro _)):TOk P w K mg base (k+1) ((d.x,F6 g d.N.length,d.ps.length)::tab):=by
 obtain⟨f,kV,dc,pm,an,cd,ct,Fn,hm⟩:=d5 h M
 have Sc:=Fd.sc ok
 refine(T.mono (Nat.le_succ k)).cons ⟨f,_,d.ps,?_,hm,Fn.kp,.all (ua (bd kV dc pm an cd ct))⟩
 refine ak4 (N:=d.N) Fn Sc fun cdv A outer s H E hr=>js _ ?_
 refine⟨rfl,rfl,Sc.nd,rfl,rfl,hr.units,fun _=>⟨fun _=>rfl,Sc.kind⟩,fun x F n h=>?_,M.css,M.bls⟩
 exact(T x F n h).imp (fun⟨f',fd',ps,h1,h2,h3,h4⟩=>⟨k,f',fd',ps,h1,hr,h2,h3,h4⟩) id
end
theorem bp8{X:Cx}{S:Sg}{c:Kx}(F:Fit S c X) (hN:c.N=[("sheet" : Str), "places_by_spot", "spot"]) (hl:(c.N.all fun x=>match c.sc.names.lookup x with|some .local=>true|_=>false)=true) (hb:biB S c "sorted" "sorted" = true) (hd:c.df=true)
  (h1:(p5.endLine==p8.line)=true) (h2:(q5.endLine==q6.line)=true) :
  JSs X [.Assign [.Name "places_by_spot" a1] (.Dict [] [] a2) a3,.For (.Name "spot" b1) (.Subscript (.Name "sheet" b2) (.Constant (.int 2) 0 b3) b4) [.Assign [.Subscript (.Name "places_by_spot" p1) (.Name "spot" p2) p3] (.BinOp (.Call (.Attribute (.Name "places_by_spot" p4) "get" p5) [.Name "spot" p6,.Constant (.int 0) 0 p7] [] p8) .Add (.Constant (.int 1) 0 p9) p10) p11] [] b5,
   .Return (some (.Call (.Name "sorted" q1) [.Call (.Attribute (.Name "places_by_spot" q4) "items" q5) [] [] q6] [] q7)) q8] aX9:=by
 obtain⟨_,g1,g2⟩:=E5 F hb
 refine bI3 (F.N.trans hN) (fun x hx=>?_) g1 g2 F.calm F.units F.xe (F.df hd).1 h1 h2
 rw[F.N]at hx
 rw[F.sc]
 have:=List.all_eq_true.mp hl x hx
 split at this
 ·assumption
 ·cases this
end G
namespace Sh
open PySem PySem.Spec PyProof.Rows L2 G
def az7:DS:=aX9
def W2:List D->Option D:=F6 az7 3
def af9:DS:=(C3 (D0 1 (D8 (A0 ⇑0 (A0 ⇑1 A2)))) (C3 (W6 (G4 (A1 0)) (B8 2) (D0 1 (A3 T9 (A0 (A1 1) (A0 (A1 2) A2))))) (C4 (A3 T8 (A0 (A1 1) (A0 (D8 (A0 (Y9 (B1 0)) (A0 ⇑1 A2))) A2))))))
def h9:List D->Option D:=F6 af9 3
def n6:DS:=(C4 (A3 h9 (A0 (G5 (C2 1 [1] (G4 (dIx (B1 0) ⇑2)) (B8 0) F5 (dIx (B1 0) (A1 1)))) A2)))
def L5:List D->Option D:=F6 n6 2
def n5:DS:=(C4 (P2 (qN (C2 1 [0] (F9 ⇑4) (B8 0) F5 (A3 L5 (A0 (A1 1) (A0 (A1 0) A2)))))))
def S7:List D->Option D:=F6 n5 1
def aI9:DS:=(C4 (A3 i8 (A0 (A1 0) (A0 (A4 J1 (A1 1) ⇑2) (A0 (A4 J1 ⇑1 (A3 D5 (A0 (A1 0) (A0 (A1 1) (A0 ⇑3 A2))))) (A0 (A4 J1 ⇑1 (A3 D5 (A0 (A1 0) (A0 (A4 J1 (A1 1) ⇑1) (A0 ⇑3 A2))))) A2))))))
def T7:List D->Option D:=F6 aI9 2
end Sh
namespace Sh
open PySem G L2
def spK(q:Q4):G.Sp:=[[q.c.num,q.c.den],[q.x.num,q.x.den],[q.y.num,q.y.den],[q.z.num,q.z.den]]
theorem aS4(q:Q4):e2 (spK q)=q.d:=rfl
theorem bO4:∀l:List Q4,dQ (l.map Q4.d)=some (l.map spK)
 | []=>rfl
 | q::l=>by
  have h:dQ ((q::l).map Q4.d)=(dP [fr q.c,fr q.x,fr q.y,fr q.z]).bind fun x=>(dQ (l.map Q4.d)).map (x::·):=rfl
  rw[h,bO4 l]
  rfl
def ins(a:List G.Sp) (k:G.Sp):List G.Sp:=if k∈a then a else a++[k]
def fsL(ks:List G.Sp):List G.Sp:=ks.foldl ins []
theorem bt4(a:List G.Sp) (k j:G.Sp):j∈ins a k↔j∈a\/j=k:=by
 unfold ins
 split
 ·rename_i h
  exact⟨.inl,fun z=>z.elim id fun e=>e ▸ h⟩
 ·simp
theorem bc9(j:G.Sp):∀(ks a:List G.Sp),j∈ks.foldl ins a↔j∈a\/j∈ks
 | [],a=>by simp
 | k::ks,a=>by rw[List.foldl_cons,bc9 j ks,bt4,List.mem_cons];grind
theorem bM7{a:List G.Sp}(k:G.Sp) (h:a.Nodup):(ins a k).Nodup:=by
 unfold ins
 split
 ·exact h
 ·rename_i n
  rw[List.nodup_append]
  exact⟨h,by simp,fun x hx y hy e=>by simp at hy;subst hy;subst e;exact n hx⟩
theorem by1:∀(ks a:List G.Sp),a.Nodup->(ks.foldl ins a).Nodup
 | [],_,h=>h
 | k::ks,a,h=>by1 ks _ (bM7 k h)
def ctK(ks:List G.Sp) (k:G.Sp):G.Sp×Int:=(k,((ks.count k:Nat):Int))
theorem bf4(ds:List G.Sp) (k:G.Sp):aO7 ((fsL ds).map (ctK ds)) k=(fsL (ds++[k])).map (ctK (ds++[k])):=by
 have f1:fsL (ds++[k])=ins (fsL ds) k:=by unfold fsL;rw[List.foldl_append];rfl
 have hm:k∈fsL ds↔k∈ds:=by unfold fsL;rw[bc9];simp
 have ha:(((fsL ds).map (ctK ds)).any fun p=>decide (p.1=k))=decide (k∈fsL ds):=by
  rw[List.any_map,Bool.eq_iff_iff,List.any_eq_true,decide_eq_true_eq]
  exact⟨fun⟨j,hj,e⟩=>by have e:j=k:=of_decide_eq_true e;exact e ▸ hj,fun h=>⟨k,h,by simp[ctK]⟩⟩
 have c1:∀j,(ds++[k]).count j=ds.count j+if j=k then 1 else 0:=fun j=>by
  rw[List.count_append,List.count_singleton]
  congr 1
  by_cases e:j=k
  ·simp[e]
  ·simp[e,Ne.symm e]
 unfold aO7
 rw[ha,f1]
 unfold ins
 by_cases h:k∈fsL ds
 ·rw[if_pos (decide_eq_true h),if_pos h,List.map_map]
  refine List.map_congr_left fun j _=>?_
  simp only[Function.comp,ctK,c1]
  by_cases e:j=k
  ·simp[e]
  ·simp[e]
 ·rw[if_neg (by simp[h]),if_neg h,List.map_append]
  congr 1
  ·refine List.map_congr_left fun j hj=>?_
   have e:j≠k:=fun z=>h (z ▸ hj)
   simp[ctK,c1,e]
  ·have:ds.count k=0:=List.count_eq_zero.mpr fun z=>h (hm.mpr z)
   simp[ctK,c1,this]
theorem aH2:∀(ks ds:List G.Sp),ks.foldl aO7 ((fsL ds).map (ctK ds))=(fsL (ds++ks)).map (ctK (ds++ks))
 | [],ds=>by rw[List.append_nil];rfl
 | k::ks,ds=>by
  rw[List.foldl_cons,bf4,aH2 ks (ds++[k]),List.append_assoc];rfl
theorem bv0(ks:List G.Sp):bf5 ks=(fsL ks).map (ctK ks):=aH2 ks []
theorem bx4:∀x y:List Int,(ltDs (x.map .int) (y.map .int)).isSome=true
 | [],[]=>rfl
 | [],_::_=>rfl
 | _::_,[]=>rfl
 | i::x,j::y=>by
  rw[xmc,xmc,ltDs]
  split
  ·exact bx4 x y
  ·rfl
theorem bW6(x y:List Int):(ltD (e1 x) (e1 y)).isSome=true:=by unfold e1;rw[ltD];exact bx4 x y
theorem aX3:∀x y:G.Sp,(ltDs (x.map e1) (y.map e1)).isSome=true
 | [],[]=>rfl
 | [],_::_=>rfl
 | _::_,[]=>rfl
 | i::x,j::y=>by
  rw[xmc,xmc,ltDs]
  split
  ·exact aX3 x y
  ·exact bW6 i j
theorem bW5(x y:G.Sp):(ltD (e2 x) (e2 y)).isSome=true:=by unfold e2;rw[ltD];exact aX3 x y
theorem bH8(n m:Int):ltDs [.int n] [.int m]=some (decide (n < m)):=by
 rw[ltDs]
 split
 ·rename_i e
  have e:n=m:=by simpa [PyData.eqv] using e
  subst e
  simp[ltDs]
 ·rw[ltD]
theorem bx5(p q:G.Sp×Int):ltD (prD p) (prD q)=if p.1=q.1 then some (decide (p.2 < q.2)) else ltD (e2 p.1) (e2 q.1):=by
 unfold prD
 rw[ltD,ltDs,ak5,bH8]
 by_cases e:p.1=q.1<;>simp[e]
theorem ak2(f:G.Sp×Int->D) (p0:G.Sp×Int):∀(P:List (G.Sp×Int)) (i:Nat),(P.map f).getD i (f p0)=f (P.getD i p0)
 | [],_=>rfl
 | _::_,0=>rfl
 | _::P,i+1=>by simpa using ak2 f p0 P i
theorem getD_mem{α:Type}(p0:α):∀(P:List α) (i:Nat),p0∈P->P.getD i p0∈P
 | p::P,0,_=>by simp
 | p::P,i+1,h=>by
  rw[List.getD_cons_succ,List.getD_eq_getElem?_getD]
  cases e:P[i]? with
  | none=>exact h
  | some q=>exact .tail _ (List.mem_of_getElem? e)
theorem bH1{P:List (G.Sp×Int)}(h:(P.map (·.1)).Nodup) {p q:G.Sp×Int}(hp:p∈P) (hq:q∈P) (e:p.1=q.1):p=q:=by
 obtain⟨i,h1⟩:=List.mem_iff_getElem?.mp hp
 obtain⟨j,h2⟩:=List.mem_iff_getElem?.mp hq
 have a:(P.map (·.1))[i]? = some p.1:=by rw[List.getElem?_map,h1];rfl
 have b:(P.map (·.1))[j]? = some p.1:=by rw[List.getElem?_map,h2,e];rfl
 have:i=j:=(List.getElem?_inj (List.getElem?_eq_some_iff.mp a).1 h).mp (a.trans b.symm)
 subst this
 rw[h1]at h2
 exact Option.some.inj h2
theorem bI2(p:G.Sp×Int):(tt (prD p)&&((prD p).canLay0&&decide ((prD p).depth<=60)))=true:=by
 have h:=V6 p.1
 have t:tt (prD p)=true:=rfl
 have l:(prD p).canLay0=true:=by simp[prD,PyData.canLay0,PyData.canLayAll0,h.1]
 have d:(prD p).depth<=60:=by simp only[prD,PyData.depth,PyData.depthAll];omega
 rw[t,l,decide_eq_true d];rfl
theorem bk3(p q:G.Sp×Int):(ltD (prD p) (prD q)).isSome=true:=by
 rw[bx5]
 split
 ·rfl
 ·exact bW5 _ _
end Sh
namespace Sh
open PySem G L2
abbrev scr(ns:List Int):D:=.list (ns.map PyData.int)
theorem Y3(ns:List Int) (k m:Nat) (hn:ns.length<=63) (hk:k < 2 ^ 60) (hm:0 < m):∃n:Nat,D5 [scr ns,.int k,.int m]=some (.int n)/\n < m:=by
 have a:=u7 ns k m hn hk (by grind)
 have b:=t5 ns k m (by grind)
 refine⟨(Y4 ns k m).toNat,?_,by grind⟩
 rw[a]
 congr 2
 grind
theorem aG8{h:D->D->Option D}{f g:DE}{ρ:Rho}{x y:D}(h1:f ρ=some x) (h2:g ρ=some y):A4 h f g ρ=h x y:=by unfold A4;rw[h1,xbs,h2,xbs]
theorem O4{α:Type}(a:α):∀n:Nat,(List.replicate n [a]).flatten=List.replicate n a
 | 0=>rfl
 | n+1=>by rw[List.replicate_succ,List.flatten_cons,O4 a n];rfl
theorem aW7{xs:List D}{n:Nat}(hn:n<=1000) (hx:xs.length<=1000):G0 (.list xs) (.int n)=some (.list (List.replicate n xs).flatten):=by
 show(if 0<=(n:Int)/\(n:Int) < 1000000/\xs.length*((n:Int)).toNat<=16777216 then some (PyData.list (List.replicate ((n:Int)).toNat xs).flatten) else none)=_
 rw[Int.toNat_natCast,if_pos ⟨by omega,by omega,Nat.le_trans (Nat.mul_le_mul hx hn) (by decide)⟩]
theorem bZ5(a:D) (r:List D):U3 (a::r) none (some 1)=[a]:=by
 unfold U3
 have h1:HT.sIx (a::r).length 0 none=0:=by simp[HT.sIx]
 have h2:HT.sIx (a::r).length (a::r).length (some 1)=1:=by simp only[HT.sIx,List.length_cons];first|omega|(simp;omega)|simp
 rw[h1,h2];rfl
theorem aJ0(ns:List Int) (k:Nat) (hn:ns.length<=63) (hk:k < 2 ^ 30):∃q:Q4,P5 [scr ns,.int k]=some q.d/\q.ok 8:=by
 obtain⟨c,x,y,z,e,S⟩:=bQ4 ns k hn hk
 exact⟨⟨c,x,y,z⟩,e,S⟩
theorem aS3(ns:List Int) (at':Nat) (hn:ns.length<=63) (ha:at' < 2 ^ 20):∃f:Nat->Q4,∀k,k < 1000->P5 [scr ns,.int ((at'+12*k:Nat):Int)]=some (f k).d/\(f k).ok 8:=by
 refine⟨fun k=>if h:k < 1000 then Classical.choose (aJ0 ns (at'+12*k) hn (by grind)) else q0,fun k hk=>?_⟩
 simp only[dif_pos hk]
 exact Classical.choose_spec (aJ0 ns (at'+12*k) hn (by grind))
theorem aj8(ns:List Int) (at' w h:Nat) (hn:ns.length<=63) (ha:at' < 2 ^ 20) (w1:1<=w) (w8:w<=8) (h1:1<=h) (h8:h<=8):∃l:List Q4,i8 [scr ns,.int at',.int w,.int h]=some (shD w h l)/\ShOk 8 w h l:=by
 obtain⟨f,hf⟩:=aS3 ns at' hn ha
 have wh:w*h<=64:=Nat.mul_le_mul w8 h8
 have wh1:1<=w*h:=Nat.mul_le_mul w1 h1
 obtain⟨t,et,ht⟩:=Y3 ns (at'+7) 3 hn (by grind) (by decide)
 have et':D5 [scr ns,.int ((at':Int)+7),.int 3]=some (.int t):=by rw[← et];simp
 have c:C2 1 [0,1] (F9 (A4 G0 (A1 2) (A1 3))) (B8 0) F5 (A3 P5 (A0 (A1 1) (A0 (A4 J1 (A1 2) (A4 G0 ⇑12 (A1 0))) A2))) [‹scr ns›,‹.int at'›,‹.int w›,‹.int h›,none]=some ((List.range (w*h)).map fun k=>(f k).d):=by
  refine V4 (l:=List.range (w*h)) (h:=fun k:Nat=>PyData.int k) (r:=[‹scr ns›,‹.int at'›]) rfl (T1 ?_ (by grind)) (by rw[List.length_range];grind) ?_
  ·exact O8 (by grind) (by grind)
  ·intro k hk
   have hk:=List.mem_range.mp hk
   have m12:G0 (.int 12) (.int k)=some (.int ((12*k:Nat):Int)):=O8 (i:=12) (by decide) (by grind)
   have e1:((at':Int)+((12*k:Nat):Int))=((at'+12*k:Nat):Int):=by grind
   wp_walk using evD,m12,e1,(hf k (by grind)).1
 have mwh:G0 (.int w) (.int h)=some (.int ((w*h:Nat):Int)):=O8 (by grind) (by grind)
 have cv:((t:Int)==0)=decide (t=0):=by cases t with
  | zero=>rfl
  | succ n=>rw[decide_eq_false (by grind)];exact beq_eq_false_iff_ne.mpr (by grind)
 obtain⟨n,en⟩:∃n,w*h=n+1:=⟨w*h - 1,by grind⟩
 by_cases t0:t=0
 ·refine⟨List.replicate (w*h) (f 0),?_,w1,w8,h1,h8,List.length_replicate ..,fun q hq=>by rw[(List.mem_replicate.mp hq).2];exact(hf 0 (by decide)).2⟩
  refine D1 (ρ:=[‹scr ns›,‹.int at'›,‹.int w›,‹.int h›,none]) rfl ?_
  have hd:(List.range (w*h)).map (fun k=>(f k).d)=(f 0).d::(List.range n).map (fun k=>(f (k+1)).d):=by
   rw[en,List.range_succ_eq_map,xmc,List.map_map];rfl
  rw[hd]at c
  have v:A4 G0 (Y8 (A1 4) Q9 (Q8 ⇑1)) (A4 G0 (A1 2) (A1 3)) [‹scr ns›,‹.int at'›,‹.int w›,‹.int h›,‹.list ((f 0).d::(List.range n).map (fun k=>(f (k+1)).d))›]=some (.list (List.replicate (w*h) (f 0).d)):=by
   have a1:Y8 (A1 4) Q9 (Q8 ⇑1) [‹scr ns›,‹.int at'›,‹.int w›,‹.int h›,‹.list ((f 0).d::(List.range n).map (fun k=>(f (k+1)).d))›]=some (.list (U3 ((f 0).d::(List.range n).map (fun k=>(f (k+1)).d)) none (some 1))):=rfl
   have a2:A4 G0 (A1 2) (A1 3) [‹scr ns›,‹.int at'›,‹.int w›,‹.int h›,‹.list ((f 0).d::(List.range n).map (fun k=>(f (k+1)).d))›]=some (.int ((w*h:Nat):Int)):=(aG8 rfl rfl).trans mwh
   rw[bZ5]at a1
   have a3:=aW7 (xs:=[(f 0).d]) (show w*h<=1000 by grind) (show 1<=1000 by decide)
   rw[O4]at a3
   exact(aG8 a1 a2).trans a3
  have t1:tB2 eqD (A3 D5 (A0 (A1 0) (A0 (A4 J1 (A1 1) ⇑7) (A0 ⇑3 A2)))) ⇑0 [‹scr ns›,‹.int at'›,‹.int w›,‹.int h›,‹.list ((f 0).d::(List.range n).map (fun k=>(f (k+1)).d))›]=some true:=by
   simp only[tB2,A4,A3,A0,A2,A1,dC,xms,xbs,xg0,xg1,d8,et',bu1,cv,decide_eq_true t0,O0]
  simp only[g7,C3,w6,c,sIf,t1,D0,v,C4,D8,A0,A2,P2,B1,A1,xms,xbs,xw0,xw1,xg0,xg1,if_true,xft,if_false,shD,List.map_replicate]
 ·refine⟨(List.range (w*h)).map f,?_,w1,w8,h1,h8,by rw[List.length_map,List.length_range],fun q hq=>by
   obtain⟨k,hk,rfl⟩:=List.mem_map.mp hq
   exact(hf k (by have:=List.mem_range.mp hk;grind)).2⟩
  refine D1 (ρ:=[‹scr ns›,‹.int at'›,‹.int w›,‹.int h›,none]) rfl ?_
  wp_walk using evD,g7,c,et',cv,decide_eq_false t0,shD,List.map_map
  rfl
end Sh
namespace Sh
open PySem G L2
theorem q4:(4:Nat)<=16777216:=by decide
theorem q3:(3:Nat)<=16777216:=by decide
end Sh
namespace Sh
open PySem G L2
end Sh
namespace Sh
open PySem G L2
inductive Nd where
 | layer (nm:D) (m:Man) (s:Rat) (sh:Bool) (lf tp:Int) (mk:Option (List Rat)) (w h:Nat) (l:List Q4) (kb:Nat)
 | tone (nm:D) (r:Rul) (s:Rat) (sh:Bool)
 | group (nm:D) (m:Man) (s:Rat) (sh:Bool) (ns:List Nd)
section
variable {nm:D}{m:Man}{r:Rul}{s:Rat}{sh:Bool}{lf tp:Int}{mk:Option (List Rat)}{w h:Nat}{l:List Q4}{kb:Nat}{ns:List Nd}
end
theorem bb6(ds:List D):isB (.tuple ds) .none=some (.bool false):=rfl
end Sh
namespace Sh
open PySem G L2
end Sh
namespace Sh
open PySem G L2
theorem C6{f g:DS}{ρ ρ':Rho}(h:f ρ=some (.nx ρ')):C3 f g ρ=g ρ':=by unfold C3;rw[h];rfl
theorem P0{α:Type}{g:D->Rho->Option Rho}{f:DS}{h:α->D}{I:Nat->Rho->Prop}:∀(l:List α) (i:Nat) (ρ:Rho),I i ρ->(∀(j:Nat) (a:α),l[j]? = some a->∀ρ,I (i+j) ρ->∃ρ1,g (h a) ρ=some ρ1/\∃ρ',f ρ1=some (.nx ρ')/\I (i+j+1) ρ')->∃ρ',Y2 g f (l.map h) ρ=some (.nx ρ')/\I (i+l.length) ρ'
 | [],i,ρ,h0,_=>⟨ρ,rfl,h0⟩
 | a::l,i,ρ,h0,H=>by
  obtain⟨ρ1,e1,ρ2,e2,h2⟩:=H 0 a rfl ρ h0
  obtain⟨ρ',e3,h3⟩:=P0 l (i+1) ρ2 (by simpa using h2) (fun j b hb ρ hρ=>by
   have:=H (j+1) b (by simpa using hb) ρ (by rwa [show i+(j+1)=i+1+j by grind])
   rwa [show i+(j+1)+1=i+1+j+1 by grind]at this)
  refine⟨ρ',?_,by rw[List.length_cons,show i+(l.length+1)=i+1+l.length by grind];exact h3⟩
  simp only[xmc,Y2,e1,xbs,e2,e3]
end Sh
namespace Sh
open PySem G L2
end Sh
namespace Sh
open PySem G L2
end Sh
namespace Sh
open PySem G L2
theorem bp7{w h:Nat}{l:List Q4}{out:List D}(hl:l.length < 64) (e:J9 ((bf5 (l.map spK)).map prD)=some out):W2 [shD w h l]=some (.list out):=by
 refine D1 (ρ:=[‹shD w h l›,none,none]) rfl ?_
 have k:bp9 (l.map Q4.d)=some out:=by
  unfold bp9
  rw[bO4,xbs,if_pos (by rw[List.length_map];omega)]
  exact e
 show(bI4 [shD w h l]).map Fl.rt=_
 show(((bp9 (l.map Q4.d)).map PyData.list).map Fl.rt)=_
 rw[k];rfl
theorem ax2:∀(ks a:List G.Sp),(ks.foldl ins a).length<=a.length+ks.length
 | [],a=>Nat.le_refl _
 | k::ks,a=>by
  have h1:=ax2 ks (ins a k)
  have h2:(ins a k).length<=a.length+1:=by unfold ins;split<;>simp
  rw[List.foldl_cons,List.length_cons];omega
def qo(x c:Rat):Rat:=mkRat ((x.num.natAbs*c.den:Nat):Int) (x.den*c.num.natAbs)
theorem o7{k:Nat}{c:Rat}(h:Bd k c) (n:c≠0):0 < c.num.natAbs:=by
 have:=Rat.num_nonneg.mpr h.nn
 have:c.num≠0:=fun e=>n (Rat.num_eq_zero.mp e)
 omega
theorem aT5{j k:Nat}{x c:Rat}(hx:Bd j x) (hc:Bd k c) (n:c≠0):qo x c*c=x:=by
 have h1:0 < x.den*c.num.natAbs:=Nat.mul_pos (E8 x) (o7 hc n)
 have h2:0 < x.den*c.num.natAbs*c.den:=Nat.mul_pos h1 (E8 c)
 have e:qo x c*mkRat c.num c.den=mkRat x.num x.den:=by
  unfold qo
  rw[Rat.mkRat_mul_mkRat,Rat.mkRat_eq_iff (by omega) (by have:=E8 x;omega)]
  rw[hx.nat,hc.nat]
  simp only[Int.natAbs_natCast]
  rw[← Int.natCast_mul,← Int.natCast_mul,← Int.natCast_mul]
  congr 1
  grind
 rw[Rat.mkRat_self,Rat.mkRat_self]at e
 exact e
theorem al8{j k:Nat}{x c:Rat}(hx:Bd j x) (hc:Bd k c) (l:j+k<=8000) (n:c≠0):T8 [fr x,fr c]=some (fr (qo x c)):=by
 refine D1 (ρ:=[‹fr x›,‹fr c›]) rfl ?_
 simp only[ag3,C4,A3,A0,A2,A4,ix0 (v0 _ _),ix1 (v0 _ _),ix0 (v1 _ _ _),ix1 (v1 _ _ _),xbs,xms,G1 (hx.sn (by omega)) (hc.sd (by omega)),G1 (hx.sd (by omega)) (hc.sn (by omega))]
 have:=al7 (x.num.natAbs*c.den) (x.den*c.num.natAbs) (j+k) (Nat.mul_pos (E8 x) (o7 hc n)) (D3 hx.den hc.num) l
 rw[Int.natCast_mul,Int.natCast_mul,← hx.nat,← hc.nat]at this
 rw[this]
 unfold qo
 rw[Int.natCast_mul,← hx.nat];rfl
def G2(rs:List Rat):Rat:=rs.foldr (·+·) 0
theorem K3(r:Rat) (rs:List Rat):G2 (r::rs)=r+G2 rs:=rfl
theorem am5:∀a b:List Rat,G2 (a++b)=G2 a+G2 b
 | [],b=>by show G2 b=0+G2 b;grind
 | r::a,b=>by rw[xca,K3,am5 a b,K3];grind
theorem ae6{k:Nat}:∀(rs:List Rat) (acc:Rat) (j:Nat) (a0 a2:Option B),(∀r∈rs,Bd k r)->Bd j acc->j+rs.length*(k+1)<=8000 ->
  ∃a2',Y2 (B8 2) (D0 1 (A3 T9 (A0 (A1 1) (A0 (A1 2) A2)))) (rs.map fr) [a0,‹fr acc›,a2]=some (.nx [a0,‹fr (acc+G2 rs)›,a2'])/\Bd (j+rs.length*(k+1)) (acc+G2 rs)
 | [],acc,j,a0,a2,_,hb,_=>by
  have e:acc+G2 []=acc:=by show acc+0=acc;grind
  rw[e]
  exact⟨a2,rfl,hb.mono (by omega)⟩
 | r::rs,acc,j,a0,a2,hr,hb,hl=>by
  rw[List.length_cons,Nat.succ_mul]at hl
  have b1:=hr r (.head _)
  obtain⟨a2',e,b⟩:=ae6 rs (acc+r) (j+k+1) a0 (‹fr r›) (fun x hx=>hr x (.tail _ hx)) (hb.add b1) (by omega)
  have es:acc+G2 (r::rs)=acc+r+G2 rs:=by rw[K3];grind
  rw[es,List.length_cons,Nat.succ_mul]
  refine⟨a2',?_,b.mono (by omega)⟩
  have s:=az9 hb b1 (by omega)
  have g:B8 2 (fr r) [a0,‹fr acc›,a2]=some [a0,‹fr acc›,‹fr r›]:=rfl
  have st:(D0 1 (A3 T9 (A0 (A1 1) (A0 (A1 2) A2)))) [a0,‹fr acc›,‹fr r›]=some (.nx [a0,‹fr (acc+r)›,‹fr r›]):=by
   show((T9 [fr acc,fr r]).map _)=_
   rw[s];rfl
  rw[xmc]
  simp only[Y2,g,xbs,st]
  exact e
theorem bN4(n:Nat):fr (n:Rat)=.tuple [.int n,.int 1]:=by unfold fr;rw[Rat.num_natCast,Rat.den_natCast];rfl
theorem ac0{n:Nat}(h:n<=64):Bd 7 (n:Rat):=⟨by rw[← Rat.num_nonneg,Rat.num_natCast];omega,by rw[Rat.num_natCast];omega,by rw[Rat.den_natCast];decide⟩
theorem V3{n:Nat}(h:0 < n):(n:Rat)≠0:=fun q=>by
 have:=congrArg Rat.num q
 rw[Rat.num_natCast,show(0:Rat).num=0 from rfl]at this
 omega
def men(rs:List Rat):Rat:=qo (G2 rs) (rs.length:Rat)
theorem bo8{k:Nat}{rs:List Rat}(hr:∀r∈rs,Bd k r) (h0:0 < rs.length) (h1:rs.length<=64) (hl:8+64*(k+1)<=8000):h9 [.list (rs.map fr)]=some (fr (men rs)):=by
 refine D1 (ρ:=[‹.list (rs.map fr)›,none,none]) rfl ?_
 have hk:rs.length*(k+1)<=64*(k+1):=Nat.mul_le_mul_right _ h1
 obtain⟨a2,e,b⟩:=ae6 rs 0 1 (‹.list (rs.map fr)›) none hr Bd.zero (by omega)
 have z:0+G2 rs=G2 rs:=by grind
 rw[z]at e b
 have d:=al8 b (ac0 h1) (by omega) (V3 h0)
 have l:Y9 (B1 0) [‹.list (rs.map fr)›,‹fr (G2 rs)›,a2]=some (.int (rs.length:Nat)):=by
  show some (PyData.int (((rs.map fr).length:Nat):Int))=_
  rw[List.length_map]
 unfold af9
 refine(C6 (show _=some (Fl.nx [‹.list (rs.map fr)›,‹fr 0›,none]) from rfl)).trans ?_
 refine(C6 (show _=some (Fl.nx [‹.list (rs.map fr)›,‹fr (G2 rs)›,a2]) from e)).trans ?_
 show((A3 T8 (A0 (A1 1) (A0 (D8 (A0 (Y9 (B1 0)) (A0 ⇑1 A2))) A2))) [‹.list (rs.map fr)›,‹fr (G2 rs)›,a2]).map Fl.rt=_
 simp only[A3,A0,A2,A1,D8,dC,l,xg0,xg1,xbs,xms]
 rw[← bN4,d];rfl
def Q4.pt(q:Q4):Nat->Rat
 | 0=>q.c
 | 1=>q.x
 | 2=>q.y
 | _=>q.z
theorem ae1{k:Nat}{q:Q4}(h:q.ok k) (p:Nat):Bd k (q.pt p):=by
 match p with
 | 0=>exact h.hc.bd
 | 1=>exact h.hx
 | 2=>exact h.hy
 | _+3=>exact h.hz
theorem aW9{k w h:Nat}{l:List Q4}(S:ShOk k w h l) (hl:8+64*(k+1)<=8000) {p:Nat}(hp:p < 4):L5 [shD w h l,.int p]=some (fr (men (l.map fun q=>q.pt p))):=by
 refine D1 (ρ:=[‹shD w h l›,‹.int p›]) rfl ?_
 have wh:w*h<=64:=Nat.mul_le_mul S.w8 S.h8
 have w1:1<=w*h:=Nat.mul_le_mul S.w1 S.h1
 have c:C2 1 [1] (G4 (dIx (B1 0) ⇑2)) (B8 0) F5 (dIx (B1 0) (A1 1)) [‹shD w h l›,‹.int p›]=some (l.map fun q=>fr (q.pt p)) :=
  V4 (l:=l) (h:=Q4.d) (r:=[‹.int p›]) rfl rfl (by rw[S.len];omega) fun q _=>by
   match p,hp with
   | 0,_=>rfl
   | 1,_=>rfl
   | 2,_=>rfl
   | 3,_=>rfl
 have m:=bo8 (rs:=l.map fun q=>q.pt p) (fun r hr=>by obtain⟨q,hq,rfl⟩:=List.mem_map.mp hr;exact ae1 (S.ok q hq) p) (by rw[List.length_map,S.len];omega) (by rw[List.length_map,S.len];omega) hl
 rw[List.map_map]at m
 simp only[n6,C4,A3,A0,A2,G5,c,xms,xbs]
 rw[show(fun q:Q4=>fr (q.pt p))=fr ∘ fun q=>q.pt p from rfl,m];rfl
def mnQ(l:List Q4):Q4:=⟨men (l.map (·.c)),men (l.map (·.x)),men (l.map (·.y)),men (l.map (·.z))⟩
theorem aj4{k w h:Nat}{l:List Q4}(S:ShOk k w h l) (hl:8+64*(k+1)<=8000):S7 [shD w h l]=some (mnQ l).d:=by
 refine D1 (ρ:=[‹shD w h l›]) rfl ?_
 have c:C2 1 [0] (F9 ⇑4) (B8 0) F5 (A3 L5 (A0 (A1 1) (A0 (A1 0) A2))) [‹shD w h l›]=some ((List.range 4).map fun p=>fr (men (l.map fun q=>q.pt p))) :=
  V4 (l:=List.range 4) (h:=fun k:Nat=>PyData.int k) (r:=[‹shD w h l›]) rfl rfl (by decide) fun p hp=>by
   show L5 [shD w h l,.int p]=_
   exact aW9 S hl (List.mem_range.mp hp)
 simp only[n5,C4,P2,qN,c,xms]
 rfl
theorem ab9{k:Nat}:∀{rs:List Rat},(∀r∈rs,Bd k r)->Bd (1+rs.length*(k+1)) (G2 rs)
 | [],_=>Bd.zero.mono (by omega)
 | r::rs,h=>by
  rw[K3,List.length_cons,Nat.succ_mul]
  exact((h r (.head _)).add (ab9 fun x hx=>h x (.tail _ hx))).mono (by omega)
end Sh
namespace Sh
open PySem G L2
end Sh
namespace Sh
open PySem G L2
end Sh
namespace Sh
open PySem G L2
end Sh
namespace Sh
open PySem G L2
end Sh
namespace Sh
open PySem G L2
def mn(i j:Int):Int:=if j < i then j else i
def mx(i j:Int):Int:=if j > i then j else i
abbrev Bx:=Option (Int×Int×Int×Int)
def bxD:Bx->D
 | none=>.none
 | some (l,t,r,b)=>.tuple [.int l,.int t,.int (r - l),.int (b - t)]
def btw(l t r b:Int):Bx:=if r<=l\/b<=t then none else some (l,t,r,b)
def jn:Bx->Bx->Bx
 | none,o=>o
 | some a,none=>some a
 | some (l,t,r,b),some (l',t',r',b')=>btw (mn l l') (mn t t') (mx r r') (mx b b')
def Bx.wf:Bx->Prop
 | none=>True
 | some (l,t,r,b)=>l < r/\t < b
def Bx.has(B:Bx) (x y:Int):Prop:=match B with
 | none=>False
 | some (l,t,r,b)=>l<=x/\x < r/\t<=y/\y < b
def Bx.le(A B:Bx):Prop:=match A,B with
 | none,_=>True
 | some _,none=>False
 | some (l,t,r,b),some (l',t',r',b')=>l'<=l/\t'<=t/\r<=r'/\b<=b'
theorem aD9(i j:Int):mn i j<=i/\mn i j<=j:=by unfold mn;split<;>grind
theorem aD6(i j:Int):i<=mx i j/\j<=mx i j:=by unfold mx;split<;>grind
theorem aE0(i j:Int):mn i j=mn j i:=by unfold mn;split<;>split<;>grind
theorem aD7(i j:Int):mx i j=mx j i:=by unfold mx;split<;>split<;>grind
theorem bx3{i j k:Int}(h1:k<=i) (h2:k<=j):k<=mn i j:=by unfold mn;split<;>omega
theorem bx2{i j k:Int}(h1:i<=k) (h2:j<=k):mx i j<=k:=by unfold mx;split<;>omega
theorem bO6(l t r b:Int):Bx.wf (btw l t r b):=by
 unfold btw
 split
 ·exact trivial
 ·show l < r/\t < b;omega
theorem aF2{l t r b l' t' r' b':Int}(h1:l < r) (h2:t < b):jn (some (l,t,r,b)) (some (l',t',r',b'))=some (mn l l',mn t t',mx r r',mx b b'):=by
 have a1:=aD9 l l'
 have a2:=aD9 t t'
 have a3:=aD6 r r'
 have a4:=aD6 b b'
 show btw _ _ _ _=_
 unfold btw
 rw[if_neg (by omega)]
theorem bX4{A B:Bx}(ha:Bx.wf A) (hb:Bx.wf B):Bx.wf (jn A B):=by
 cases A with
 | none=>cases B<;>exact hb
 | some a =>
  cases B with
  | none=>exact ha
  | some b=>exact bO6 ..
theorem le_refl(A:Bx):Bx.le A A:=by
 cases A with
 | none=>exact trivial
 | some a=>show _/\_/\_/\_;grind
theorem aE8{A B:Bx}(ha:Bx.wf A):Bx.le A (jn A B):=by
 cases A with
 | none=>exact trivial
 | some a =>
  cases B with
  | none=>exact le_refl _
  | some b =>
   obtain⟨l,t,r,b1⟩:=a
   obtain⟨l',t',r',b'⟩:=b
   rw[aF2 ha.1 ha.2]
   have a1:=aD9 l l'
   have a2:=aD9 t t'
   have a3:=aD6 r r'
   have a4:=aD6 b1 b'
   show _/\_/\_/\_
   omega
theorem br7(A B:Bx):jn A B=jn B A:=by
 cases A with
 | none=>cases B<;>rfl
 | some a =>
  cases B with
  | none=>rfl
  | some b=>show btw _ _ _ _=btw _ _ _ _;rw[aE0,aE0 a.2.1,aD7,aD7 a.2.2.2]
theorem aX6{A B:Bx}(hb:Bx.wf B):Bx.le B (jn A B):=by rw[br7];exact aE8 hb
theorem aZ5{A B C:Bx}(wa:Bx.wf A) (ha:Bx.le A C) (hb:Bx.le B C):Bx.le (jn A B) C:=by
 cases A with
 | none=>exact hb
 | some a =>
  cases B with
  | none=>exact ha
  | some b =>
   cases C with
   | none=>exact ha.elim
   | some c =>
    obtain⟨l,t,r,b1⟩:=a
    obtain⟨l',t',r',b'⟩:=b
    obtain⟨p,q,u,v⟩:=c
    rw[aF2 wa.1 wa.2]
    exact⟨bx3 ha.1 hb.1,bx3 ha.2.1 hb.2.1,bx2 ha.2.2.1 hb.2.2.1,bx2 ha.2.2.2 hb.2.2.2⟩
theorem le_trans{A B C:Bx}(h1:Bx.le A B) (h2:Bx.le B C):Bx.le A C:=by
 cases A with
 | none=>exact trivial
 | some a =>
  cases B with
  | none=>exact h1.elim
  | some b =>
   cases C with
   | none=>exact h2.elim
   | some c =>
    obtain⟨a1,a2,a3,a4⟩:=h1
    obtain⟨b1,b2,b3,b4⟩:=h2
    exact⟨Int.le_trans b1 a1,Int.le_trans b2 a2,Int.le_trans a3 b3,Int.le_trans a4 b4⟩
theorem bc4{A B:Bx}{x y:Int}(h:Bx.le A B) (hx:Bx.has A x y):Bx.has B x y:=by
 cases A with
 | none=>exact hx.elim
 | some a =>
  cases B with
  | none=>exact h.elim
  | some b =>
   obtain⟨a1,a2,a3,a4⟩:=h
   obtain⟨b1,b2,b3,b4⟩:=hx
   exact⟨Int.le_trans a1 b1,Int.lt_of_lt_of_le b2 a3,Int.le_trans a2 b3,Int.lt_of_lt_of_le b4 a4⟩
theorem bG2{B:Bx}{x y:Int}(h:Bx.has B x y):Bx.le (some (x,y,x+1,y+1)) B:=by
 cases B with
 | none=>exact h.elim
 | some b=>obtain⟨b1,b2,b3,b4⟩:=h;exact⟨b1,b3,by grind,by grind⟩
theorem bO7(l t r b:Int):O1 [.int l,.int t,.int r,.int b]=some (bxD (btw l t r b)):=by
 refine D1 (ρ:=[‹.int l›,‹.int t›,‹.int r›,‹.int b›]) rfl ?_
 unfold btw
 by_cases h1:r<=l
 ·rw[if_pos (.inl h1)]
  wp_walk using evD,K7,decide_eq_true h1,bxD
 ·by_cases h2:b<=t
  ·rw[if_pos (.inr h2)]
   wp_walk using evD,K7,decide_eq_false h1,decide_eq_true h2,bxD
  ·rw[if_neg (by grind)]
   wp_walk using evD,K7,decide_eq_false h1,decide_eq_false h2,bxD
theorem bX5(A B:Bx):J8 [bxD A,bxD B]=some (bxD (jn A B)):=by
 refine D1 (ρ:=[‹bxD A›,‹bxD B›,none,none]) rfl ?_
 have i0:isB .none .none=some (.bool true):=rfl
 cases A with
 | none=>wp_walk using evD,M4,bxD,i0;rfl
 | some a =>
  obtain⟨l,t,r,b⟩:=a
  cases B with
  | none=>wp_walk using evD,M4,bxD,i0,bb6;rfl
  | some c =>
   obtain⟨l',t',r',b'⟩:=c
   have e1:l+(r - l)=r:=by grind
   have e2:t+(b - t)=b:=by grind
   have e3:l'+(r' - l')=r':=by grind
   have e4:t'+(b' - t')=b':=by grind
   have bo:=bO7 (mn l l') (mn t t') (mx r r') (mx b b')
   unfold mn mx at bo
   wp_walk using evD,M4,bxD,bb6,as0,ar8,e1,e2,e3,e4,bo
   rfl
def jns:Bx->List Bx->Bx
 | A,[]=>A
 | A,B::r=>jns (jn A B) r
theorem bK4(L:List Bx):N0 [.list (L.map bxD)]=some (bxD (jns none L)):=by
 have lp:∀(L:List Bx) (A:Bx) (a0 a2:Option B),∃a2',Y2 (B8 2) (D0 1 (A3 J8 (A0 (A1 1) (A0 (A1 2) A2)))) (L.map bxD) [a0,‹bxD A›,a2]=some (.nx [a0,‹bxD (jns A L)›,a2']):=by
  intro L
  induction L with
  | nil=>intro A a0 a2;exact⟨a2,rfl⟩
  | cons X r ih =>
   intro A a0 a2
   obtain⟨a2',e⟩:=ih (jn A X) a0 (‹bxD X›)
   refine⟨a2',?_⟩
   wp_walk using evD,xmc,Y2,bX5
   exact e
 obtain⟨a2',e⟩:=lp L none (‹.list (L.map bxD)›) none
 refine D1 (ρ:=[‹.list (L.map bxD)›,none,none]) rfl ?_
 have s1:(W6 (G4 (A1 0)) (B8 2) (D0 1 (A3 J8 (A0 (A1 1) (A0 (A1 2) A2))))) [‹.list (L.map bxD)›,some (.val .none),none]=some (.nx [‹.list (L.map bxD)›,‹bxD (jns none L)›,a2']):=e
 exact(C6 (ρ':=[‹.list (L.map bxD)›,some (.val .none),none]) rfl).trans ((C6 s1).trans rfl)
theorem ax9{α:Type}{c:Rho->Option Bool}{e:DE}{r:Rho}{h1 h2 f:α->D}{p:α->Bool}:∀(l:List α) (x y:Option B),(∀a∈l,c (‹h1 a›::‹h2 a›::r)=some (p a))->(∀a∈l,e (‹h1 a›::‹h2 a›::r)=some (f a))->G8 (K0 2 (D6 (B8 0) (D6 (B8 1) L4))) c e (l.map fun a=>.tuple [h1 a,h2 a]) (x::y::r)=some ((l.filter p).map f)
 | [],_,_,_,_=>rfl
 | a::l,x,y,C,H=>by
  have ih:=ax9 l (‹h1 a›) (‹h2 a›) (fun b hb=>C b (List.mem_cons_of_mem _ hb)) (fun b hb=>H b (List.mem_cons_of_mem _ hb))
  have hl:([h1 a,h2 a]:List D).length=2:=rfl
  cases q:p a with
  | true =>
   simp only[xmc,G8,K0,D6,L4,B8,hl,if_true,xw0,xw1,xbs,C a (List.mem_cons_self ..),q,H a (List.mem_cons_self ..),ih,xms,List.filter_cons_of_pos q]
  | false =>
   have q':¬p a=true:=by rw[q];exact Bool.false_ne_true
   simp only[xmc,G8,K0,D6,L4,B8,hl,if_true,xw0,xw1,xbs,C a (List.mem_cons_self ..),q,xft,if_false,ih,List.filter_cons_of_neg q']
end Sh
namespace Sh
open PySem G L2
abbrev Pt:=Int×Int
def ac9(A:Bx) (L:List Pt):Prop:=(∀p∈L,Bx.has A p.1 p.2)/\∀C:Bx,(∀p∈L,Bx.has C p.1 p.2)->Bx.le A C
theorem bp2{A B:Bx}(h1:Bx.le A B) (h2:Bx.le B A):A=B:=by
 cases A with
 | none =>
  cases B with
  | none=>rfl
  | some b=>exact h2.elim
 | some a =>
  cases B with
  | none=>exact h1.elim
  | some b =>
   obtain⟨l,t,r,c⟩:=a
   obtain⟨l',t',r',c'⟩:=b
   obtain⟨a1,a2,a3,a4⟩:=h1
   obtain⟨b1,b2,b3,b4⟩:=h2
   rw[Int.le_antisymm b1 a1,Int.le_antisymm b2 a2,Int.le_antisymm a3 b3,Int.le_antisymm a4 b4]
theorem aI2{A B:Bx}{L:List Pt}(h1:ac9 A L) (h2:ac9 B L):A=B:=bp2 (h1.2 B h2.1) (h2.2 A h1.1)
theorem bg2:ac9 none []:=⟨fun p h=>by simp at h,fun C _=>trivial⟩
theorem bP4{A B:Bx}{L M:List Pt}(wa:Bx.wf A) (wb:Bx.wf B) (h1:ac9 A L) (h2:ac9 B M):ac9 (jn A B) (L++M):=by
 refine⟨fun p hp=>?_,fun C hC=>aZ5 wa (h1.2 C fun p hp=>hC p (List.mem_append_left _ hp)) (h2.2 C fun p hp=>hC p (List.mem_append_right _ hp))⟩
 rcases List.mem_append.mp hp with q|q
 ·exact bc4 (aE8 wa) (h1.1 p q)
 ·exact bc4 (aX6 wb) (h2.1 p q)
theorem bP2(x y:Int):ac9 (some (x,y,x+1,y+1)) [(x,y)]:=by
 refine⟨fun p hp=>?_,fun C hC=>bG2 (hC (x,y) (List.mem_singleton.mpr rfl))⟩
 rw[List.mem_singleton.mp hp]
 show x<=x/\x < x+1/\y<=y/\y < y+1
 grind
theorem aI3:∀(L:List Pt) (A:Bx) (M:List Pt),Bx.wf A->ac9 A M->ac9 (jns A (L.map fun a=>some (a.1,a.2,a.1+1,a.2+1))) (M++L)
 | [],A,M,_,h=>by rw[List.append_nil];exact h
 | p::L,A,M,wa,h=>by
  have wp:Bx.wf (some (p.1,p.2,p.1+1,p.2+1)):=⟨by grind,by grind⟩
  have:=aI3 L (jn A (some (p.1,p.2,p.1+1,p.2+1))) (M++[p]) (bX4 wa wp) (bP4 wa wp h (bP2 p.1 p.2))
  rwa [List.append_assoc]at this
def bb:List Pt->Bx
 | []=>none
 | p::L=>some (mnL ((p::L).map (·.1)),mnL ((p::L).map (·.2)),mxL ((p::L).map (·.1))+1,mxL ((p::L).map (·.2))+1)
theorem aI5:∀L:List Pt,ac9 (bb L) L
 | []=>bg2
 | p::L=>by
  have n1:(p::L).map (·.1)≠[]:=by simp
  have n2:(p::L).map (·.2)≠[]:=by simp
  obtain⟨a1,a2⟩:=aa0 n1
  obtain⟨b1,b2⟩:=aa0 n2
  obtain⟨c1,c2⟩:=X3 n1
  obtain⟨d1,d2⟩:=X3 n2
  refine⟨fun q hq=>?_,fun C hC=>?_⟩
  ·have e1:=a2 _ (List.mem_map_of_mem (f:=(·.1)) hq)
   have e2:=b2 _ (List.mem_map_of_mem (f:=(·.2)) hq)
   have e3:=c2 _ (List.mem_map_of_mem (f:=(·.1)) hq)
   have e4:=d2 _ (List.mem_map_of_mem (f:=(·.2)) hq)
   exact⟨e1,Int.lt_add_one_of_le e3,e2,Int.lt_add_one_of_le e4⟩
  ·obtain⟨q1,h1,e1⟩:=List.mem_map.mp a1
   obtain⟨q2,h2,e2⟩:=List.mem_map.mp b1
   obtain⟨q3,h3,e3⟩:=List.mem_map.mp c1
   obtain⟨q4,h4,e4⟩:=List.mem_map.mp d1
   have k1:=hC q1 h1
   have k2:=hC q2 h2
   have k3:=hC q3 h3
   have k4:=hC q4 h4
   cases C with
   | none=>exact k1.elim
   | some c =>
    obtain⟨l,t,r,b⟩:=c
    obtain⟨k1,_⟩:=k1
    obtain⟨_,_,k2,_⟩:=k2
    obtain⟨_,k3,_⟩:=k3
    obtain⟨_,_,_,k4⟩:=k4
    show l<=mnL _/\t<=mnL _/\mxL _+1<=r/\mxL _+1<=b
    rw[← e1,← e2,← e3,← e4]
    exact⟨k1,k2,k3,k4⟩
theorem aC6{w h:Nat}{x y:Int}(b:0<=x/\x < w/\0<=y/\y < h):(x,y)∈plc w (w*h):=by
 obtain⟨b1,b2,b3,b4⟩:=id b
 have pn:=ae2 b
 obtain⟨X,rfl⟩:=Int.eq_ofNat_of_zero_le b1
 obtain⟨Y,rfl⟩:=Int.eq_ofNat_of_zero_le b3
 have e:((Y:Int)*w+X)=((Y*w+X:Nat):Int):=by rw[Int.natCast_add,Int.natCast_mul]
 rw[e]at pn
 have hk:Y*w+X < w*h:=by omega
 have hX:X < w:=by omega
 have m:(Y*w+X) % w=X:=by rw[Nat.mul_comm,Nat.mul_add_mod,Nat.mod_eq_of_lt hX]
 have d:(Y*w+X) / w=Y:=by rw[Nat.mul_comm,Nat.mul_add_div (by omega),Nat.div_eq_of_lt hX,Nat.add_zero]
 refine List.mem_map.mpr ⟨Y*w+X,List.mem_range.mpr hk,?_⟩
 rw[m,d]
theorem aa8{α:Type}(f:α->Int):∀L:List α,X9 (L.map fun a=>PyData.int (f a))=some (L.map f)
 | []=>rfl
 | a::L=>by
  rw[xmc,X9,aa8 f L];rfl
theorem aH7{xs ys:List D}(h:xs.length+ys.length<=16777216):J1 (.list xs) (.list ys)=some (.list (xs++ys)):=if_pos h
end Sh
namespace Sh
open PySem G L2
end Sh
namespace G
open PySem PySem.Spec PySem.W PyProof.Rows L2 PySem.SeqAt
def bE9:D->Option (Int×Int)
 | .tuple [.int a,.int b]=>some (a,b)
 | _=>none
def prI:List D->Option (List (Int×Int))
 | []=>some []
 | d::r=>(bE9 d).bind fun p=>(prI r).map (p::·)
def pI(p:Int×Int):D:=.tuple [.int p.1,.int p.2]
theorem bm5(h:bE9 d=some p):d=pI p:=by
 unfold bE9 at h
 split at h
 ·cases h;rfl
 ·cases h
theorem aU6:∀{ds:List D}{ps:List (Int×Int)},prI ds=some ps->ds=ps.map pI
 | [],_,h=>by cases h;rfl
 | d::r,ps,h=>by
  obtain⟨p,e1,h⟩:=Option.bind_eq_some_iff.mp h
  obtain⟨y,e,rfl⟩:=Option.map_eq_some_iff.mp h
  rw[aU6 e,bm5 e1];rfl
def ltP(p q:Int×Int):Bool:=if p.1=q.1 then decide (p.2 < q.2) else decide (p.1 < q.1)
def nP(ps:List (Int×Int)) (i j:Nat):Bool:=ltP (ps.getD i (0,0)) (ps.getD j (0,0))
def U0(ps:List (Int×Int)):List (Int×Int):=if ps.length < 2 then ps else(evT (nP ps) (kas_sort ps.length)).toList.map fun i=>ps.getD i (0,0)
theorem bw5(r:Reads h v (pI p) as):∃a o vs n t u,v=.ref a/\h.get? a=some o/\o.cls=.type "tuple" /\ o.data=.seq vs n/\vs.toList=[.int p.1 t,.int p.2 u]:=by
 cases r with
 | tuple k1 k2 k3 k4 =>
  rename_i its _
  generalize hl:its.toList=l at k4
  cases k4 with
  | cons q1 q2 =>
   cases q2 with
   | cons q3 q4 =>
    cases q4
    cases q1
    cases q3
    exact⟨_,_,_,_,_,_,rfl,k1,k2,k3,hl⟩
section
variable {X:Cx}{pins:List (Addr×Obj)}{σ:L2.St}{H Hf:Hp}{s:Shared}
theorem ao3:∀{ps:List (Int×Int)}{vs:List Value}{as:List Addr},ReadsAll h vs (ps.map pI) as->∃fs,KatTups h vs fs/\fs.length=vs.length/\∀v∈fs,∃i t,v=.int i t
 | [],_,_,r=>by cases r;exact⟨[],.nil,rfl,fun v hv=>nomatch hv⟩
 | p::ps,_,_,r=>by
  cases r with
  | cons r1 r2 =>
   obtain⟨fs,h1,h2,h3⟩:=ao3 r2
   obtain⟨a,o,vs,n,t,u,rfl,g1,g2,g3,g4⟩:=bw5 r1
   refine⟨.int p.1 t::fs,.cons g1 g2 g3 (by rw[← Array.getElem?_toList,g4];rfl) h1,by rw[List.length_cons,List.length_cons,h2],fun v hv=>?_⟩
   rcases List.mem_cons.mp hv with rfl|hv
   ·exact⟨_,_,rfl⟩
   ·exact h3 v hv
theorem aK0(hu:X.A.units+64 < cLine) (h64:ps.length < 64) (I:Inv X pins σ H s) (ss:B5 Hf H) (rs:Reps X.K Hf (ps.map pI) vs) (r':B3 vs its)
  (k:∀v H' Hf',Grow H Hf H' Hf'->Rep X.K Hf' (.list ((U0 ps).map pI)) v->Q v H'):∃outv:List Value,its.length < 64/\(its.length < 2->outv=its) /\
   (2<=its.length->∀h':Heap,(∀b o,s.heap.get? b=some o->h'.get? b=some o)->wpAny (model X.prog X.w) X.A.in1.in1 (keyKind' its.toArray) (fun κ s'=>(kas_sort its.length).kasWp (kas_ask X.prog X.w X.A.in1.in1 κ its) (fun p s''=>s''={ s with heap:=h' }/\(p.toList.map fun i=>its.getD i Value.none)=outv) s') (fun _ _=>False) { s with heap:=h' }) /\
   ∀h' c,(∀b o,s.heap.get? b=some o->h'.get? b=some o)->h'.get? s.heap.objs.size=some (seqObj "list" outv.toArray c)->EP X pins σ Q (.ref s.heap.objs.size) { s with heap:=h' }:=by
 have n1:=rs.length
 have n2:=r'.length
 rw[List.length_map]at n1
 have fin:∀(p:List Nat),(∀i∈p,i < ps.length)->p.length < 64->(p.map fun i=>ps.getD i (0,0))=U0 ps->∀(h':Heap) (c:Nat),(∀b o,s.heap.get? b=some o->h'.get? b=some o)->h'.get? s.heap.objs.size=some (seqObj "list" (p.map fun i=>its.getD i Value.none).toArray c) ->
   EP X pins σ Q (.ref s.heap.objs.size) { s with heap:=h' }:=fun p hp hz ho h' c kp eo=>by
  have fr:=I.hok.fresh (Nat.le_refl s.heap.objs.size)
  refine⟨.ref s.heap.objs.size,_,I.laid (t':=s.toks) kp (Nat.le_refl _) (show E6 X.prog X.w _ h' _ (.lst (p.map fun i=>vs.getD i .non)) from⟨by rw[List.length_map,sizeLine_eq];omega,_,c,B3.pick r' (fun i hi=>by rw[n1];exact hp i hi),eo⟩),rfl,k _ _ _ (Grow.laid ss fr) ?_⟩
  refine⟨_,_,rfl,SqL.of A6,?_⟩
  have pk:=(rs.pick (p:=p) fun i hi=>by rw[List.length_map];exact hp i hi).mono (B9 (o:=.lst (p.map fun i=>vs.getD i .non)) (ss.free fr))
  have e:(p.map fun i=>(ps.map pI).getD i .none)=(U0 ps).map pI:=by
   rw[← ho,List.map_map]
   refine List.map_congr_left fun i hi=>?_
   have:=hp i hi
   simp[this]
  rw[e]at pk
  exact pk
 obtain⟨as,rd⟩:=Reps.reads I (rs.mono ss) r'
 have lz:its.length=ps.length:=by omega
 by_cases h2:ps.length < 2
 ·have es:U0 ps=ps:=if_pos h2
  have idp:∀{α:Type}(z:α) (l:List α),(List.range l.length).map (fun i=>l.getD i z)=l:=fun z l=>by
   apply List.ext_getElem
   ·simp
   ·intro i i1 i2;simp[i2]
  refine⟨its,by omega,fun _=>rfl,fun h3=>absurd h3 (by omega),fun h' c kp eo=>?_⟩
  refine fin (List.range ps.length) (fun i hi=>by simpa using hi) (by rw[List.length_range];omega) (by rw[es];exact idp _ _) h' c kp ?_
  rw[← lz,idp];exact eo
 ·have es:U0 ps=(evT (nP ps) (kas_sort ps.length)).toList.map fun i=>ps.getD i (0,0):=if_neg h2
  have pin:=ah3 (n:=ps.length) (by omega)
  have lo:=al5 (nP ps) pin
  refine⟨(evT (nP ps) (kas_sort ps.length)).toList.map fun i=>its.getD i Value.none,by omega,fun h3=>absurd h3 (by omega),fun _ h' kp=>?_,fun h' c kp eo=>fin _ (fun i hi=>lo.2 i (by simpa using hi)) (by rw[Array.length_toList,lo.1];exact h64) es.symm h' c kp eo⟩
  have rd':ReadsAll h' its (ps.map pI) as:=ReadsAll.keeps kp rd
  obtain⟨fs,t1,t2,t3⟩:=ao3 rd'
  refine kat_kind (T:=.type "int") (s:={ s with heap:=h' }) t1 (by omega) (fun v hv=>?_) (by rfl) ?_
  ·obtain⟨i,t,rfl⟩:=t3 v hv
   exact .now
  have hb:(Value.type "int" != Value.type "tuple")=true:=by rfl
  rw[hb,lz]
  refine t9 (P:=LoP ps.length) (lt:=nP ps) (fun i j C hi hj hC=>?_) pin fun _=>⟨rfl,rfl⟩
  unfold kas_ask
  have hat:∀m,m < ps.length->∃(a:Addr) (o:Obj) (ws:Array Value) (n:Nat) (t u:Tok),its.getD m Value.none=.ref a/\h'.get? a=some o/\o.data=.seq ws n/\ws.toList=[.int (ps.getD m (0,0)).1 t,.int (ps.getD m (0,0)).2 u]:=fun m hm=>by
   obtain⟨bs,r1⟩:=ReadsAll.at rd' m (by omega)
   have ed:(ps.map pI).getD m .none=pI (ps.getD m (0,0)):=by simp[hm]
   rw[ed]at r1
   obtain⟨a,o,vs,n,t,u,e0,g1,g2,g3,g4⟩:=bw5 r1
   have ei:its.getD m Value.none=its[m]'(by omega):=by simp[show m < its.length by omega]
   exact⟨a,o,vs,n,t,u,by rw[ei];exact e0,g1,g3,g4⟩
  obtain⟨a1,o1,ws1,m1,t1',u1,i1,i2,i3,i4⟩:=hat i hi
  obtain⟨a2,o2,ws2,m2,t2',u2,j1,j2,j3,j4⟩:=hat j hj
  rw[i1,j1]
  refine kat_lt (s:={ s with heap:=h' }) i2 i3 j2 j3 ?_
  rw[i4,j4]
  have eqi:∀{x y:Int}{t u:Tok}{Q:Bool->Shared->Prop}{s:Shared},Q (decide (x=y)) s->wpAny (model X.prog X.w) X.A.in1.in1 (eqBool (.int x t) (.int y u)) Q (fun _ _=>False) s:=fun{x y t u Q s} h =>
   eqAt_reads (.int x) (.int y) X.A.in1.in1 s _ _ _ _ (.int _ _) (.int _ _) rfl rfl (by have:=Nat.min_le_left (PyData.int x).depth (PyData.int y).depth;have e:(PyData.int x).depth=0:=rfl;simp only[Around.in1_units];omega) _ _ _ _ (by rw[show PyData.eqv (.int x) (.int y)=decide (x=y) by by_cases e:x=y<;>simp[PyData.eqv,e]];exact h)
  have hn:nP ps i j=ltP (ps.getD i (0,0)) (ps.getD j (0,0)):=rfl
  rw[hn]at hC
  generalize ps.getD i (0,0)=x at *
  generalize ps.getD j (0,0)=y at *
  refine kat_cons (eqi ?_)
  unfold ltP at hC
  by_cases e:x.1=y.1
  ·rw[decide_eq_true e]
   rw[if_pos e]at hC
   refine kat_yes (kat_cons (eqi ?_))
   by_cases e':x.2=y.2
   ·rw[decide_eq_true e']
    refine kat_yes (kat_nil ?_)
    have f1:ws1.size=2:=by rw[← Array.length_toList,i4];rfl
    have f2:ws2.size=2:=by rw[← Array.length_toList,j4];rfl
    rw[f1,f2]
    rw[e']at hC
    simpa using hC
   ·rw[decide_eq_false e']
    refine kat_no (kat_one _ _ ?_)
    exact V5 0 (.int x.2) (.int y.2) X.A.in1.in1 _ _ _ _ _ (decide (x.2 < y.2)) (by simp[PyData.depth]) (.int _ _) (.int _ _) rfl rfl (by simp only[Around.in1_units];omega) (by rw[ltD]) _ _ _ _ hC
  ·rw[decide_eq_false e]
   rw[if_neg e]at hC
   exact kat_no (oneLt_int hC)
theorem aK2(hu:X.A.units+64 < cLine) (I:Inv X pins σ H s) (rx:D2 x u) (ss:B5 Hf H) (r0:Rep X.K Hf d0 x) (e1:an3 d0=some (t,ps.map pI)) (h64:ps.length < 64)
  (k:∀v H' Hf',Grow H Hf H' Hf'->Rep X.K Hf' (.list ((U0 ps).map pI)) v->Q v H'):wpAny (model X.prog X.w) X.A (call (.builtin "sorted") [u]) (EP X pins σ Q) X.xe s:=by
 obtain⟨a,vs,rfl,sq,rs⟩:=Rep.seq r0 ss e1
 cases rx
 have core:∀(T:String) (its:List Value) (o:Obj) (n:Nat),(T = "list" \/ T = "tuple")->s.heap.get? a=some o->o.cls=.type T->o.data=.seq its.toArray n->B3 vs its ->
   wpAny (model X.prog X.w) X.A (call (.builtin "sorted") [.ref a]) (EP X pins σ Q) X.xe s:=fun T its o n hT ho hc hd r'=>by
  have n1:=rs.length
  have n2:=r'.length
  rw[List.length_map]at n1
  refine V0 fun{E R} hR=>l8 hT ho hc hd ?_ (by rw[sizeLine_eq];omega)
  have kp:∀b o,s.heap.get? b=some o->((s.heap.push (seqObj "list" #[] 0)).update s.heap.objs.size (Obj.mapSeq (·++its.toArray))).get? b=some o:=fun b o e=>(Heap.get?_update_other _ _ (Nat.ne_of_gt (Heap.lt_size e))).trans (Heap.get?_push_of_some _ e)
  have I':Inv X pins σ H { s with heap:=(s.heap.push (seqObj "list" #[] 0)).update s.heap.objs.size (Obj.mapSeq (·++its.toArray)),toks:=s.toks }:=K5 (ch:=[]) I (fun b hb=>by simp at hb) fun b u _ q=>kp b u q
  obtain⟨outv,a1,a2,a3,a4⟩:=aK0 (Q:=Q) hu h64 I' ss rs r' k
  exact hR _ outv _ a1 a2 a3 a4
 cases t with
 | true =>
  obtain⟨its,r',pl,_⟩:=I.tuple sq
  obtain⟨o,g1,g2,n,g3⟩:=pl
  exact core "tuple" its o n (.inr rfl) g1 g2 g3 r'
 | false =>
  obtain⟨its,r',pl,_⟩:=I.list sq
  obtain⟨o,g1,g2,n,g3⟩:=pl.isList
  exact core "list" its o n (.inl rfl) g1 g2 g3 r'
def au3:List D->Option D:=fun l=>match bk1 l with
 | some d=>some d
 | none=>match l with
  | [d]=>(an3 d).bind fun q=>(prI q.2).bind fun ps=>if ps.length < 64 then some (.list ((U0 ps).map pI)) else none
  | _=>none
theorem aK3(hu:X.A.units+64 < cLine):G6 X (.builtin "sorted") (biS X.K 1 au3):=by
 intro pins s σ H xs us Q I rv ⟨hl,Hf,ds0,d,ss,rp,e,k⟩
 unfold au3 at e
 split at e
 ·rename_i d' h
  cases e
  exact aS0 hu pins s σ H xs us Q I rv ⟨hl,Hf,ds0,_,ss,rp,h,k⟩
 ·split at e
  ·rename_i d0
   obtain⟨⟨t,ds⟩,e1,e2⟩:=Option.bind_eq_some_iff.mp e
   obtain⟨ps,e3,e4⟩:=Option.bind_eq_some_iff.mp e2
   split at e4
   ·rename_i h64
    cases e4
    cases aU6 e3
    obtain⟨x,xr,rfl,r0,rn⟩:=rp
    cases rn
    obtain⟨u,rfl,rx⟩:=K8 rv
    exact aK2 hu I rx ss r0 e1 h64 k
   ·cases e4
  ·cases e
theorem bj8:bh1 "sorted" au3 1:=⟨by decide,by decide, "sorted", by decide +kernel,fun X hu=>aK3 hu⟩
end
end G
namespace Sh
open PySem PySem.Spec PyProof.Rows L2 G
def J5:DS:=(C4 (aO5 (A4 eqD (dIx (B1 0) ⇑0) (dIx (B1 1) ⇑0)) (A4 eqD (dIx (B1 0) ⇑1) (dIx (B1 1) ⇑1))))
def C5:List D->Option D:=F6 J5 2
def R4:DS:=(C3 (sIf (Q7 (W3 (A3 C5 (A0 (A1 0) (A0 (A1 1) A2))))) B0 L9) (C3 (D0 2 (A3 F1 (A0 (dIx (B1 0) ⇑0) (A0 (dIx (B1 0) ⇑1) A2)))) (C4 (A3 au3 (A0 (G5 (C2 2 [0,1] (G4 (A1 2)) (K0 2 (D6 (B8 0) (D6 (B8 1) L4))) (tB2 neD (A3 G9 (A0 (A1 2) (A0 (A1 0) (A0 (A1 1) A2)))) (A3 G9 (A0 (A1 3) (A0 (A1 0) (A0 (A1 1) A2))))) (D8 (A0 (A1 0) (A0 (A1 1) A2))))) A2)))))
def E9:List D->Option D:=F6 R4 3
def ac3:DS:=(C3 (D0 1 (A3 F1 (A0 (dIx (B1 0) ⇑0) (A0 (dIx (B1 0) ⇑1) A2)))) (C4 (A3 N0 (A0 (G5 (C2 2 [0] (G4 (A1 1)) (K0 2 (D6 (B8 0) (D6 (B8 1) L4))) (tB2 neD (A3 G9 (A0 (A1 2) (A0 (A1 0) (A0 (A1 1) A2)))) (dC (.tuple [(.tuple [(.int 0),(.int 1)]),(.tuple [(.int 0),(.int 1)]),(.tuple [(.int 0),(.int 1)]),(.tuple [(.int 0),(.int 1)])]))) (D8 (A0 (A1 0) (A0 (A1 1) (A0 ⇑1 (A0 ⇑1 A2))))))) A2))))
def W1:List D->Option D:=F6 ac3 2
end Sh
namespace Sh
open PySem G L2
theorem aM5(h1:X4 b a=false) (h2:X4 a b=false):a=b:=by
 apply Classical.byContradiction
 intro ne
 rcases M1.tot a b ne with z|z
 ·rw[h2]at z;cases z
 ·rw[h1]at z;cases z
abbrev bg9(r:List Sp2):Prop:=r.Pairwise (fun a b=>X4 b a=false)
theorem aS1(h:r.length < 2):bg9 r:=by
 match r,h with
 | [],_=>exact .nil
 | [a],_=>exact List.pairwise_singleton _ _
 | _::_::_,q=>exact absurd q (by simp)
theorem bj7(P:List (G.Sp×Int)) (h:(P.map (·.1)).Nodup) (h64:P.length < 64):∃r:List (G.Sp×Int),J9 (P.map prD)=some (r.map prD)/\r.Perm P/\bg9 (r.map (·.1)):=by
 by_cases h2:P.length < 2
 ·exact⟨P,by unfold J9;rw[if_pos (by simpa using h2)],.refl _,aS1 (by simpa using h2)⟩
 ·have hP:P≠[]:=by rintro rfl;simp at h2
  obtain⟨p0,s,e⟩:=List.exists_cons_of_ne_nil hP
  have hm:p0∈P:=by rw[e];exact .head _
  have hd:(P.map prD).headD .none=prD p0:=by rw[e];rfl
  have gk:∀i,(P.map (·.1)).getD i p0.1=(P.getD i p0).1:=fun i=>by
   rw[List.getD_eq_getElem?_getD,List.getD_eq_getElem?_getD,List.getElem?_map]
   cases P[i]?<;>rfl
  have N:∀i j,G.ltN (P.map prD) i j=X4 ((P.map (·.1)).getD i p0.1) ((P.map (·.1)).getD j p0.1):=fun i j=>by
   unfold G.ltN
   rw[hd,ak2,ak2,gk,gk]
   have m1:=getD_mem p0 P i hm
   have m2:=getD_mem p0 P j hm
   generalize P.getD i p0=a at m1
   generalize P.getD j p0=b at m2
   rw[bx5]
   by_cases q:a.1=b.1
   ·cases bH1 h m1 m2 q
    rw[if_pos rfl,M1.irr]
    simp
   ·rw[if_neg q,aX2];rfl
  obtain⟨p1,p2,p3⟩:=ah2 (swS p0.1 _ N) (n:=P.length) (by omega)
  have es:J9 (P.map prD)=some ((evT (G.ltN (P.map prD)) (PySem.W.kas_sort P.length)).toList.map fun i=>(P.map prD).getD i .none):=by
   unfold J9
   rw[List.length_map,if_neg h2,if_pos ⟨h64,by simp only[List.all_map,List.all_eq_true];exact fun p _=>bI2 _,by simp only[List.all_map,List.all_eq_true];exact fun p _=>by simp only[Function.comp,List.all_map,List.all_eq_true];exact fun q _=>bk3 _ _⟩]
  generalize evT (G.ltN (P.map prD)) (PySem.W.kas_sort P.length)=p at es p1 p2 p3
  have p2':p.toList.Perm (List.range P.length):=by
   have:=Array.perm_iff_toList_perm.mp p2
   simpa using this
  refine⟨p.toList.map fun i=>P.getD i p0,?_,?_,?_⟩
  ·rw[es,List.map_map]
   congr 1
   refine List.map_congr_left fun i hi=>?_
   have hi:i < P.length:=by simpa using p2'.mem_iff.mp hi
   simp[hi]
  ·refine(p2'.map (fun i=>P.getD i p0)).trans (List.Perm.of_eq ?_)
   apply List.ext_getElem
   ·simp
   ·intro i i1 i2;simp[i2]
  ·rw[List.map_map,bg9,List.pairwise_map,List.pairwise_iff_getElem]
   intro i j hi hj hij
   have hz:p.toList.length=P.length:=by rw[Array.length_toList,p1]
   have:=p3 i j (by omega) (by omega)
   rw[N,gk,gk]at this
   have g:∀m (hm:m < p.toList.length),p.getD m 0=p.toList[m]:=fun m hm=>by
    rw[Array.getD_eq_getD_getElem?,← Array.getElem?_toList,List.getElem?_eq_getElem hm];rfl
   rw[g j hj,g i hi]at this
   exact this
abbrev kdL(l:List Q4):List (G.Sp×Int):=(fsL (l.map spK)).map (ctK (l.map spK))
theorem aE9(l:List Q4):(kdL l).map (·.1)=fsL (l.map spK):=by rw[List.map_map];exact List.map_id _
theorem bW9(l:List Q4):((kdL l).map (·.1)).Nodup:=by rw[aE9];exact by1 _ [] List.nodup_nil
theorem bp6(w h:Nat) (hl:l.length < 64):∃r:List (G.Sp×Int),W2 [shD w h l]=some (.list (r.map prD))/\r.Perm (kdL l)/\bg9 (r.map (·.1)):=by
 have fl:=ax2 (l.map spK) []
 rw[List.length_map,List.length_nil]at fl
 have fl:(fsL (l.map spK)).length<=0+l.length:=fl
 obtain⟨r,r1,r2,r3⟩:=bj7 (kdL l) (bW9 l) (by rw[List.length_map];omega)
 exact⟨r,bp7 hl (by rw[bv0];exact r1),r2,r3⟩
def neK(a b:Q4):Bool:=!decide (spK a=spK b)
theorem aj1(a b:Q4):neD a.d b.d=some (.bool (neK a b)):=by
 unfold neD
 rw[if_pos ⟨(Ly.q4 a 0).shaped (by decide),(Ly.q4 b 0).shaped (by decide)⟩,← aS4,← aS4,ak5];rfl
def unQ(w h:Nat) (l l':List Q4):List Pt:=(plc w (w*h)).filter fun a=>neK (atQ w h l a.1 a.2) (atQ w h l' a.1 a.2)
theorem bk0(h:ps.length < 64):au3 [.list (ps.map pI)]=some (.list ((U0 ps).map pI)):=by
 have pe:∀qs:List Pt,prI (qs.map pI)=some qs:=fun qs=>by
  induction qs with
  | nil=>rfl
  | cons q qs ih=>rw[xmc,prI,ih];rfl
 have e1:bk1 [.list (ps.map pI)]=(J9 (ps.map pI)).map PyData.list:=rfl
 unfold au3
 rw[e1]
 by_cases h2:ps.length < 2
 ·have e2:J9 (ps.map pI)=some (ps.map pI):=by unfold J9;rw[if_pos (by simpa using h2)]
  rw[e2]
  show some (PyData.list (ps.map pI))=_
  unfold U0
  rw[if_pos h2]
 ·have e2:J9 (ps.map pI)=none:=by
   unfold J9
   rw[if_neg (by simpa using h2),if_neg]
   rintro⟨_,h,_⟩
   obtain⟨p,qs,rfl⟩:∃p qs,ps=p::qs:=by
    cases ps with
    | nil=>simp at h2
    | cons p qs=>exact⟨p,qs,rfl⟩
   rw[xmc,List.all_cons,Bool.and_eq_true]at h
   exact absurd h.1 (by simp[tt,pI])
  rw[e2]
  show((prI (ps.map pI)).bind fun qs=>if qs.length < 64 then some (PyData.list ((U0 qs).map pI)) else none)=_
  rw[pe,xbs,if_pos h]
theorem aJ5(S:ShOk k w h l) (S':ShOk k' w h l') (wh:w*h < 64):E9 [shD w h l,shD w h l']=some (.list ((U0 (unQ w h l l')).map pI)):=by
 have c:C2 2 [0,1] (G4 (A1 2)) (K0 2 (D6 (B8 0) (D6 (B8 1) L4))) (tB2 neD (A3 G9 (A0 (A1 2) (A0 (A1 0) (A0 (A1 1) A2)))) (A3 G9 (A0 (A1 3) (A0 (A1 0) (A0 (A1 1) A2))))) (D8 (A0 (A1 0) (A0 (A1 1) A2))) [‹shD w h l›,‹shD w h l'›,‹.list ((plc w (w*h)).map fun a=>.tuple [.int a.1,.int a.2])›]=some ((unQ w h l l').map pI):=by
  unfold C2
  rw[show G4 (A1 2) [‹shD w h l›,‹shD w h l'›,‹.list ((plc w (w*h)).map fun a=>.tuple [.int a.1,.int a.2])›]=some ((plc w (w*h)).map fun a=>.tuple [.int a.1,.int a.2]) from rfl,xbs,if_pos (by rw[List.length_map,o6];omega)]
  show G8 _ _ _ _ (none::none::[‹shD w h l›,‹shD w h l'›])=_
  rw[ax9 (h1:=fun a=>.int a.1) (h2:=fun a=>.int a.2) (f:=pI) (p:=fun a=>neK (atQ w h l a.1 a.2) (atQ w h l' a.1 a.2)) (plc w (w*h)) none none ?_ ?_]
  ·rfl
  ·intro a _
   wp_walk using evD,U9 S,U9 S',aj1
  ·intro a _
   wp_walk using evD
   rfl
 have one:C5 [shD w h l,shD w h l']=some (.bool true):=by
  refine D1 (ρ:=[‹shD w h l›,‹shD w h l'›]) rfl ?_
  wp_walk using evD,J5,shD,bu1,beq_self_eq_true
 have pl:=c5 S.w1 S.w8 S.h8
 have a0:∀l:List Q4,atI [PyData.int (w:Int),.int (h:Int),.tuple (l.map Q4.d)] 0=some (.int w):=fun _=>rfl
 have ln:(unQ w h l l').length < 64:=Nat.lt_of_le_of_lt (List.length_filter_le ..) (by rw[o6];exact wh)
 refine D1 (ρ:=[‹shD w h l›,‹shD w h l'›,none]) rfl ?_
 unfold R4
 refine(C6 (show _=some (Fl.nx [‹shD w h l›,‹shD w h l'›,none]) from by wp_walk using evD,one)).trans ?_
 refine(C6 (show _=some (Fl.nx [‹shD w h l›,‹shD w h l'›,‹.list ((plc w (w*h)).map fun a=>.tuple [.int a.1,.int a.2])›]) from by
  show((F1 [.int w,.int h]).map _)=_
  rw[pl];rfl)).trans ?_
 simp only[C4,A3,A0,A2,G5,c,xms,xbs,bk0 ln]
theorem aQ7(w h:Nat) (l:List Q4):unQ w h l l=[]:=List.filter_eq_nil_iff.mpr fun a _=>by simp[neK]
def ncl(w h:Nat) (l:List Q4):List Pt:=(plc w (w*h)).filter fun a=>neK (atQ w h l a.1 a.2) q0
theorem bk9(S:ShOk k w h l):W1 [shD w h l]=some (bxD (bb (ncl w h l))):=by
 have wh:w*h<=64:=Nat.mul_le_mul S.w8 S.h8
 have b:=aI3 (ncl w h l) none [] trivial bg2
 rw[xna]at b
 rw[aI2 (aI5 _) b]
 have c:C2 2 [0] (G4 (A1 1)) (K0 2 (D6 (B8 0) (D6 (B8 1) L4))) (tB2 neD (A3 G9 (A0 (A1 2) (A0 (A1 0) (A0 (A1 1) A2)))) (dC q0.d)) (D8 (A0 (A1 0) (A0 (A1 1) (A0 ⇑1 (A0 ⇑1 A2))))) [‹shD w h l›,‹.list ((plc w (w*h)).map fun a=>.tuple [.int a.1,.int a.2])›]=some (((ncl w h l).map fun a=>(some (a.1,a.2,a.1+1,a.2+1):Bx)).map bxD):=by
  unfold C2
  rw[show G4 (A1 1) [‹shD w h l›,‹.list ((plc w (w*h)).map fun a=>.tuple [.int a.1,.int a.2])›]=some ((plc w (w*h)).map fun a=>.tuple [.int a.1,.int a.2]) from rfl,xbs,if_pos (by rw[List.length_map,o6];omega)]
  show G8 _ _ _ _ (none::none::[‹shD w h l›])=_
  rw[ax9 (h1:=fun a=>.int a.1) (h2:=fun a=>.int a.2) (f:=fun a=>.tuple [.int a.1,.int a.2,.int 1,.int 1]) (p:=fun a=>neK (atQ w h l a.1 a.2) q0) (plc w (w*h)) none none ?_ ?_]
  ·rw[List.map_map]
   congr 1
   refine List.map_congr_left fun a _=>?_
   show _=PyData.tuple [.int a.1,.int a.2,.int (a.1+1 - a.1),.int (a.2+1 - a.2)]
   rw[show a.1+1 - a.1=1 by omega,show a.2+1 - a.2=1 by omega]
  ·intro a _
   wp_walk using evD,U9 S,aj1
  ·intro a _
   wp_walk using evD
 have pl:=c5 S.w1 S.w8 S.h8
 refine D1 (ρ:=[‹shD w h l›,none]) rfl ?_
 unfold ac3
 refine(C6 (show _=some (Fl.nx [‹shD w h l›,‹.list ((plc w (w*h)).map fun a=>.tuple [.int a.1,.int a.2])›]) from by
  show((F1 [.int w,.int h]).map _)=_
  rw[pl];rfl)).trans ?_
 rw[cc6]at c
 simp only[C4,A3,A0,A2,G5,c,xms,xbs,bK4]
end Sh
namespace Sh
open PySem G L2
end Sh
namespace Sh
open PySem G L2
theorem o9(hr:∀r∈rs,Bd k r) (h0:0 < rs.length) (h1:rs.length<=64):men rs*(rs.length:Rat)=G2 rs:=aT5 (ab9 hr) (ac0 h1) (V3 h0)
theorem bH6(hr:∀r∈rs,Bd k r) (h0:0 < rs.length) (h1:rs.length<=64):Bd (1+rs.length*(k+1)+7) (men rs):=by
 have b:=ab9 hr
 have c:=ac0 h1
 unfold men qo
 exact Bd.of (Nat.mul_pos (E8 _) (o7 c (V3 h0))) (D3 b.num c.den) (D3 b.den c.num)
theorem aA5:∀l:List Q4,(∀q∈l,f q<=g q)->G2 (l.map f)<=G2 (l.map g)
 | [],_=>Rat.le_refl
 | q::l,h=>by
  have a:=h q (.head _)
  have b:=aA5 l fun r hr=>h r (.tail _ hr)
  rw[xmc,xmc,K3,K3]
  grind
theorem v4(r:Rat) {α:Type}:∀l:List α,G2 (l.map fun _=>r)=r*(l.length:Rat)
 | []=>by simp[G2]
 | q::l=>by
  rw[xmc,K3,v4 r l,List.length_cons,Rat.natCast_add]
  have:((1:Nat):Rat)=1:=rfl
  rw[this]
  grind
theorem aj3{k:Nat}{l:List Q4}{f g:Q4->Rat}(hf:∀q∈l,Bd k (f q)) (hg:∀q∈l,Bd k (g q)) (h0:0 < l.length) (h1:l.length<=64) (h:∀q∈l,f q<=g q):men (l.map f)<=men (l.map g):=by
 have a:=o9 (rs:=l.map f) (k:=k) (fun r hr=>by obtain⟨q,hq,rfl⟩:=List.mem_map.mp hr;exact hf q hq) (by simpa using h0) (by simpa using h1)
 have b:=o9 (rs:=l.map g) (k:=k) (fun r hr=>by obtain⟨q,hq,rfl⟩:=List.mem_map.mp hr;exact hg q hq) (by simpa using h0) (by simpa using h1)
 rw[List.length_map]at a b
 refine Rat.le_of_mul_le_mul_right (c:=(l.length:Rat)) ?_ (Rat.natCast_pos.mpr h0)
 rw[a,b]
 exact aA5 l h
theorem aM2(hb:Bd k r) (h0:0 < n) (h1:n<=64):men ((List.replicate n ()).map fun _=>r)=r:=by
 have a:=o9 (rs:=(List.replicate n ()).map fun _=>r) (k:=k) (fun x hx=>by obtain⟨q,_,rfl⟩:=List.mem_map.mp hx;exact hb) (by simpa using h0) (by simpa using h1)
 rw[v4,List.length_map,List.length_replicate]at a
 have z:=V3 h0
 generalize (n:Rat)=m at *
 generalize men _=b at *
 grind
theorem mean_spot(S:ShOk 8 w h l) (w3:w<=3) (h3:h<=3):(mnQ l).ok 90:=by
 have w9:w*h<=9:=Nat.mul_le_mul w3 h3
 have w1:1<=w*h:=Nat.mul_le_mul S.w1 S.h1
 have h0:0 < l.length:=by rw[S.len];omega
 have h1:l.length<=64:=by rw[S.len];omega
 have bd:∀p,Bd 90 (men (l.map fun q=>q.pt p)):=fun p=>by
  have:=bH6 (rs:=l.map fun q=>q.pt p) (k:=8) (fun r hr=>by obtain⟨q,hq,rfl⟩:=List.mem_map.mp hr;exact ae1 (S.ok q hq) p) (by simpa using h0) (by simpa using h1)
  rw[List.length_map,S.len]at this
  exact this.mono (by omega)
 have one:men (l.map fun _=>(1:Rat))=1:=by
  have:=aM2 Bd.one h0 h1
  rwa [show((List.replicate l.length ()).map fun _=>(1:Rat))=l.map fun _=>(1:Rat) by simp[List.map_const']]at this
 have B:=fun p=>fun q (hq:q∈l)=>ae1 (S.ok q hq) p
 refine⟨⟨bd 0,?_⟩,bd 1,bd 2,bd 3,?_,?_,?_⟩
 ·have:=aj3 (l:=l) (f:=fun q=>q.c) (g:=fun _=>1) (k:=8) (B 0) (fun _ _=>Bd.one.mono (by decide)) h0 h1 fun q hq=>(S.ok q hq).hc.le
  rw[one]at this
  exact this
 ·exact aj3 (l:=l) (f:=fun q=>q.x) (g:=fun q=>q.c) (k:=8) (B 1) (B 0) h0 h1 fun q hq=>(S.ok q hq).xc
 ·exact aj3 (l:=l) (f:=fun q=>q.y) (g:=fun q=>q.c) (k:=8) (B 2) (B 0) h0 h1 fun q hq=>(S.ok q hq).yc
 ·exact aj3 (l:=l) (f:=fun q=>q.z) (g:=fun q=>q.c) (k:=8) (B 3) (B 0) h0 h1 fun q hq=>(S.ok q hq).zc
end Sh
namespace Lk12
open PySem PySem.Spec PyProof.Rows L2 G Sh
def top(i:Nat):Stmt:=PySem.Challenge.pw_glazework_k12_counts.main.body.getD i (.Pass ⟨0,0,0,0⟩)
def B7:List D->Option Str:=aS9 (av1 (rIf (Q7 (W3 (A3 C5 (A0 (A1 0) (A0 (A1 1) A2))))) (ai2 "NoMerge" (dC (.str "the sheets are of unlike sizes"))) rNo) (sIf (Q7 (W3 (A3 C5 (A0 (A1 0) (A0 (A1 1) A2))))) B0 L9) (av1 rNo (D0 2 (A3 F1 (A0 (dIx (B1 0) ⇑0) (A0 (dIx (B1 0) ⇑1) A2)))) rNo)) 3
def bh0:DS:=(C4 (dIx (qE (dIx (B1 0) ⇑2)) (A4 J1 (A4 G0 (A1 2) (dIx (B1 0) ⇑0)) (A1 1))))
def M9:List D->Option D:=F6 bh0 3
def F3:Str->Option D:=bD8 (C3 (D0 1 (G5 (A0 (aO4 0 fun x=>([("NoMerge", true)]:List (Str×Bool)).lookup x) (A0 (aO4 0 fun x=>([("NoMerge", false)]:List (Str×Bool)).lookup x) A2)))) (C3 (sIf (au2 (tB2 neD (ax6 (A1 1) (dC (.bool true))) ⇑1) (Q7 (W3 (aO4 0 fun x=>([("NoMerge", true)]:List (Str×Bool)).lookup x)))) (C4 (D8 (A0 (dC (.str "refused")) (A0 (be7 ⇑1) A2)))) L9) (C4 (D8 (A0 (dC (.str "refused")) (A0 (ak8 (A1 1) (dC (.bool true))) A2)))))) 2
def ac4:DS:=(ad9 (j9 ["NoMerge"] (an4 B7 (A0 (A1 0) (A0 (A1 1) A2)))) (C4 (A3 E9 (A0 (A1 0) (A0 (A1 1) A2)))) 2 (C4 (d7 2 F3)))
def E7:List D->Option D:=F6 ac4 3
def n8:DS:=(C3 (D0 3 (A4 G0 (D8 (A0 (D8 (A0 ⇑0 (A0 ⇑1 A2))) A2)) ⇑4)) (C3 (au6 4 A2) (C3 (W6 (aF9 (qE (dIx (B1 2) ⇑2))) (K0 2 (D6 (B8 5) (D6 (B8 6) L4))) (ah6 4 (dIx (qN (A0 (A1 6) (A0 (A1 6) (A0 (A1 3) (A0 (dIx (qE (dIx (B1 2) ⇑2)) ⇑0) A2))))) (A3 D5 (A0 (A1 0) (A0 (A4 J1 (A1 1) (A1 5)) (A0 ⇑4 A2))))))) (C4 (A4 J1 (Y8 (A1 2) Q9 (Q8 ⇑2)) (D8 (A0 (P2 (B1 4)) A2)))))))
def J0:List D->Option D:=F6 n8 7
def aR7:DS:=(D0 1 (A3 J0 (A0 (A1 0) (A0 ⇑150 (A0 (A3 T7 (A0 (A1 0) (A0 ⇑0 A2))) A2)))))
def bC5:DS:=(aK8 (A1 1) (K0 3 (D6 (B8 2) (D6 (B8 3) (D6 (B8 4) L4)))))
def aR6:DS:=(D0 5 (Y7 (B1 4)))
def aR5:DS:=(sIf (tB2 neD (A3 W2 (A0 (A1 1) A2)) (G5 (C2 1 [4] (G4 (A1 5)) (B8 0) F5 (D8 (A0 (A1 0) (A0 (Y9 (qN (C2 1 [0] (G4 (A1 1)) (B8 0) (tB2 eqD (A1 0) (A1 1)) (A1 0)))) A2)))))) (C4 (dC (.bool false))) L9)
def bC4:DS:=(au6 6 A2)
def aR4:DS:=(W6 (F9 ⇑4) (B8 7) (C3 (D0 8 (D8 (A0 ⇑0 (A0 ⇑1 A2)))) (C3 (W6 (G4 (A1 4)) (B8 9) (D0 8 (A3 Z7 (A0 (A1 8) (A0 (dIx (B1 9) (A1 7)) A2))))) (ah6 6 (A3 P4 (A0 (A1 8) (A0 (D8 (A0 ⇑1 (A0 (A4 G0 (A1 2) (A1 3)) A2))) A2)))))))
def aR3:DS:=(sIf (tB2 neD (A3 S7 (A0 (A1 1) A2)) (P2 (B1 6))) (C4 (dC (.bool false))) L9)
def bC3:DS:=(D0 10 (G5 A2))
def aR2:DS:=(W6 (F9 (A1 2)) (B8 11) (D0 10 (A4 J1 (A1 10) (G5 (C2 1 [11,1] (F9 (A1 3)) (B8 0) (tB2 neD (A3 M9 (A0 (A1 2) (A0 (A1 1) (A0 (A1 0) A2)))) (A4 G0 (D8 (A0 (D8 (A0 ⇑0 (A0 ⇑1 A2))) A2)) ⇑4)) (D8 (A0 (A1 1) (A0 (A1 0) A2))))))))
def bC2:DS:=(D0 12 (dC .none))
def o5:DS:=(sIf (tB2 neD (A1 10) (G5 A2)) (C3 (ah5 13 14 (A0 (ar7 (qN (C2 1 [] (G4 (A1 10)) (B8 0) F5 (dIx (B1 0) ⇑0)))) (A0 (ar7 (qN (C2 1 [] (G4 (A1 10)) (B8 0) F5 (dIx (B1 0) ⇑1)))) A2))) (C3 (ah5 15 16 (A0 (ar9 (qN (C2 1 [] (G4 (A1 10)) (B8 0) F5 (dIx (B1 0) ⇑0)))) (A0 (ar9 (qN (C2 1 [] (G4 (A1 10)) (B8 0) F5 (dIx (B1 0) ⇑1)))) A2))) (D0 12 (D8 (A0 (A1 13) (A0 (A1 14) (A0 (A4 J1 (A4 am6 (A1 15) (A1 13)) ⇑1) (A0 (A4 J1 (A4 am6 (A1 16) (A1 14)) ⇑1) A2)))))))) L9)
def aB1:DS:=(sIf (tB2 neD (A3 W1 (A0 (A1 1) A2)) (A1 12)) (C4 (dC (.bool false))) L9)
def aB0:DS:=(D0 17 (A3 J0 (A0 (A1 0) (A0 ⇑170 (A0 (A1 1) A2)))))
def bj4:DS:=(D0 18 (G5 A2))
def aA9:DS:=(W6 (F9 (A1 2)) (B8 11) (D0 18 (A4 J1 (A1 18) (G5 (C2 1 [11,1,17] (F9 (A1 3)) (B8 0) (tB2 neD (A3 M9 (A0 (A1 2) (A0 (A1 1) (A0 (A1 0) A2)))) (A3 M9 (A0 (A1 3) (A0 (A1 1) (A0 (A1 0) A2))))) (D8 (A0 (A1 1) (A0 (A1 0) A2))))))))
def aA8:DS:=(sIf (au2 (tB2 neD (A3 E7 (A0 (A1 1) (A0 (A1 17) A2))) (A1 18)) (tB2 neD (A3 E7 (A0 (A1 1) (A0 (A1 1) A2))) (G5 A2))) (C4 (dC (.bool false))) L9)
def aA7:DS:=(D0 19 (A3 T7 (A0 (A1 0) (A0 ⇑200 A2))))
def ah0:DS:=(sIf (tB2 neD (Y8 (A1 19) Q9 (Q8 ⇑2)) (Y8 (A1 1) Q9 (Q8 ⇑2))) (sIf (tB2 neD (G5 (A0 (A3 E7 (A0 (A1 1) (A0 (A1 19) A2))) (A0 (A3 E7 (A0 (A1 19) (A0 (A1 1) A2))) A2))) (A4 G0 (G5 (A0 (D8 (A0 (dC (.str "refused")) (A0 ⇑0 A2))) A2)) ⇑2)) (C4 (dC (.bool false))) L9) L9)
def aA6:DS:=(C4 (A4 eqD (A3 E7 (A0 (D8 (A0 ⇑1 (A0 ⇑2 (A0 (A4 G0 (Y8 (A1 4) Q9 (Q8 ⇑1)) ⇑2) A2)))) (A0 (D8 (A0 ⇑2 (A0 ⇑1 (A0 (A4 G0 (Y8 (A1 4) Q9 (Q8 ⇑1)) ⇑2) A2)))) A2))) (D8 (A0 (dC (.str "refused")) (A0 ⇑0 A2)))))
def bz2:DS:=(C3 aR7 (C3 bC5 (C3 aR6 (C3 aR5 (C3 bC4 (C3 aR4 (C3 aR3 (C3 bC3 (C3 aR2 (C3 bC2 (C3 o5 (C3 aB1 (C3 aB0 (C3 bj4 (C3 aA9 (C3 aA8 (C3 aA7 (C3 ah0 aA6))))))))))))))))))
def aJ1:List D->Option D:=F6 bz2 20
end Lk12
namespace Lk12
open PySem G L2 Sh
theorem bg7(hn:ns.length<=63) (k:Nat) (hk:k<=1000):∃(w h:Nat) (l:List Q4),T7 [scr ns,.int k]=some (shD w h l)/\ShOk 8 w h l/\w<=3/\h<=3:=by
 obtain⟨d0,e0,l0⟩:=Y3 ns k 3 hn (by omega) (by decide)
 have e0:D5 [scr ns,.int k,.int 3]=some (.int d0):=e0
 obtain⟨d1,e1,l1⟩:=Y3 ns (k+1) 3 hn (by omega) (by decide)
 have e1:D5 [scr ns,.int ((k+1:Nat):Int),.int 3]=some (.int d1):=e1
 obtain⟨l,el,S⟩:=aj8 ns (k+2) (1+d0) (1+d1) hn (by omega) (by omega) (by omega) (by omega) (by omega)
 have k0:(1+(d0:Int))=((1+d0:Nat):Int):=by omega
 have k1:(1+(d1:Int))=((1+d1:Nat):Int):=by omega
 refine⟨1+d0,1+d1,l,D1 (ρ:=[‹scr ns›,‹.int k›]) rfl ?_,S,by omega,by omega⟩
 have z1:(k:Int)+1=((k+1:Nat):Int):=by omega
 have z2:(k:Int)+2=((k+2:Nat):Int):=by omega
 wp_walk using evD,aI9,z1,z2,e0,e1,k0,k1,el
abbrev rf:D:=.tuple [.str "refused", .int 0]
theorem hx:F3 "NoMerge" = some rf:=by kernel_rfl
theorem bi8(h1:B7 [p,d]=none) (h2:E9 [p,d]=some q):E7 [p,d]=some q:=by
 refine D1 (ρ:=[‹p›,‹d›,none]) rfl ?_
 unfold ac4 ad9 j9
 rw[show an4 B7 (A0 (A1 0) (A0 (A1 1) A2)) [‹p›,‹d›,none]=(B7 [p,d]).map fun x=>(x,[‹p›,‹d›,none]) from rfl,h1]
 show C4 _ _=_
 unfold C4
 rw[show A3 E9 (A0 (A1 0) (A0 (A1 1) A2)) [‹p›,‹d›,none]=E9 [p,d] from rfl,h2];rfl
theorem bi9(h1:B7 [p,d]=some ("NoMerge" : Str)):E7 [p,d]=some rf:=by
 refine D1 (ρ:=[‹p›,‹d›,none]) rfl ?_
 unfold ac4 ad9 j9
 rw[show an4 B7 (A0 (A1 0) (A0 (A1 1) A2)) [‹p›,‹d›,none]=(B7 [p,d]).map fun x=>(x,[‹p›,‹d›,none]) from rfl,h1]
 show(match (C4 (d7 2 F3)) [‹p›,‹d›,some (.exc "NoMerge")] with|some (.rt d)=>some (Fl.rt d)|_=>none)=_
 rw[show C4 (d7 2 F3) [‹p›,‹d›,some (.exc "NoMerge")]=(F3 "NoMerge").map Fl.rt from rfl,hx];rfl
theorem aB5(w h w' h':Nat) (l l':List Q4):C5 [shD w h l,shD w' h' l']=some (.bool (decide (w=w')&&decide (h=h'))):=by
 refine D1 (ρ:=[‹shD w h l›,‹shD w' h' l'›]) rfl ?_
 have e:∀a b:Nat,(((a:Int))==((b:Int)))=decide (a=b):=fun a b=>by
  by_cases q:a=b
  ·subst q;simp
  ·rw[decide_eq_false q,beq_eq_false_iff_ne];omega
 have a0:∀(x y:Nat) (l:List Q4),atI [PyData.int (x:Int),.int (y:Int),.tuple (l.map Q4.d)] 0=some (.int x):=fun _ _ _=>rfl
 have a1:∀(x y:Nat) (l:List Q4),atI [PyData.int (x:Int),.int (y:Int),.tuple (l.map Q4.d)] 1=some (.int y):=fun _ _ _=>rfl
 by_cases q:w=w'<;>wp_walk using evD,J5,shD,a0,a1,e,q,decide_true,decide_false,Bool.true_and,Bool.false_and
theorem ad4(S:ShOk k w h l) (S':ShOk k' w h l') (wh:w*h < 64):E7 [shD w h l,shD w h l']=some (.list ((U0 (unQ w h l l')).map pI)):=by
 refine bi8 ?_ (aJ5 S S' wh)
 have one:=aB5 w h w h l l'
 simp only[decide_true,Bool.and_self]at one
 show(B7 [shD w h l,shD w h l'])=none
 unfold B7 aS9
 rw[show N8 3 [shD w h l,shD w h l']=[‹shD w h l›,‹shD w h l'›,none] from rfl]
 have pl:=c5 S.w1 S.w8 S.h8
 have s2:(D0 2 (A3 F1 (A0 (dIx (B1 0) ⇑0) (A0 (dIx (B1 0) ⇑1) A2)))) [‹shD w h l›,‹shD w h l'›,none]=some (.nx [‹shD w h l›,‹shD w h l'›,‹.list ((plc w (w*h)).map fun a=>.tuple [.int a.1,.int a.2])›]):=by
  show((F1 [.int w,.int h]).map _)=_
  rw[pl];rfl
 have c:Q7 (W3 (A3 C5 (A0 (A1 0) (A0 (A1 1) A2)))) [‹shD w h l›,‹shD w h l'›,none]=some false:=by wp_walk using evD,one
 simp only[av1,rNo,rIf,sIf,c,s2,xbs,xft,if_false,L9,Option.map_none]
theorem ag7(ne:¬(w=w'/\h=h')):E7 [shD w h l,shD w' h' l']=some rf:=by
 refine bi9 ?_
 have one:=aB5 w h w' h' l l'
 have z:(decide (w=w')&&decide (h=h'))=false:=by
  rw[Bool.and_eq_false_iff]
  simp only[decide_eq_false_iff_not]
  omega
 rw[z]at one
 unfold B7 aS9
 rw[show N8 3 [shD w h l,shD w' h' l']=[‹shD w h l›,‹shD w' h' l'›,none] from rfl]
 have c:Q7 (W3 (A3 C5 (A0 (A1 0) (A0 (A1 1) A2)))) [‹shD w h l›,‹shD w' h' l'›,none]=some true:=by wp_walk using evD,one
 simp only[av1,rIf,c,xbs,if_true,ai2,dC,xms]
def cbd:DS:=(ah6 4 (dIx (qN (A0 (A1 6) (A0 (A1 6) (A0 (A1 3) (A0 (dIx (qE (dIx (B1 2) ⇑2)) ⇑0) A2))))) (A3 D5 (A0 (A1 0) (A0 (A4 J1 (A1 1) (A1 5)) (A0 ⇑4 A2))))))
theorem ab7(hn:ns.length<=63) (k:Nat) (hk:k<=1000) (S:ShOk 8 w h l):∃l2,J0 [scr ns,.int k,shD w h l]=some (shD w h l2)/\ShOk 8 w h l2:=by
 have wh:w*h<=64:=Nat.mul_le_mul S.w8 S.h8
 have wh1:1<=w*h:=Nat.mul_le_mul S.w1 S.h1
 have src:aF9 (qE (dIx (B1 2) ⇑2)) [‹scr ns›,‹.int k›,‹shD w h l›,‹q0.d›,some (.own []),none,none]=some ((k9 (l.map Q4.d)).map id):=by
  rw[List.map_id];rfl
 have at0:atI (l.map Q4.d) 0=some (l.getD 0 q0).d:=atD l (by decide) (by rw[S.len];omega)
 have ok0:(l.getD 0 q0).ok 8:=by
  have h0:0 < l.length:=by rw[S.len];omega
  rw[List.getD_eq_getElem?_getD,List.getElem?_eq_getElem h0]
  exact S.ok _ (List.getElem_mem h0)
 obtain⟨ρ',e,L,a5,a6,hL,hok,hρ⟩:=P0 (g:=K0 2 (D6 (B8 5) (D6 (B8 6) L4))) (f:=cbd) (h:=id) (I:=fun i ρ=>∃(L:List Q4) (a5 a6:Option B),L.length=i/\(∀q∈L,q.ok 8)/\ρ=[‹scr ns›,‹.int k›,‹shD w h l›,‹q0.d›,some (.own (L.map Q4.d)),a5,a6]) (k9 (l.map Q4.d)) 0 [‹scr ns›,‹.int k›,‹shD w h l›,‹q0.d›,some (.own []),none,none] ⟨[],none,none,rfl,(fun q hq=>by simp at hq),rfl⟩ (fun j x hj ρ ⟨L,a5,a6,hL,hok,hρ⟩=>by
  subst hρ
  rw[aq7,List.getElem?_map]at hj
  obtain⟨q,hq,rfl⟩:∃q,l[j]? = some q/\x=.tuple [.int j,q.d]:=by
   cases z:l[j]? with
   | none=>rw[z]at hj;cases hj
   | some q=>rw[z]at hj;exact⟨q,rfl,(Option.some.inj hj).symm⟩
  have okq:=S.ok q (List.mem_of_getElem? hq)
  have jl:j < w*h:=by rw[← S.len];exact(List.getElem?_eq_some_iff.mp hq).1
  obtain⟨d,ed,ld⟩:=Y3 ns (k+j) 4 hn (by omega) (by decide)
  have ed:D5 [scr ns,.int ((k+j:Nat):Int),.int 4]=some (.int d):=ed
  obtain⟨x,ex,okx⟩:∃x:Q4,atI [q.d,q.d,q0.d,(l.getD 0 q0).d] (d:Int)=some x.d/\x.ok 8:=by
   match d,ld with
   | 0,_=>exact⟨q,rfl,okq⟩
   | 1,_=>exact⟨q,rfl,okq⟩
   | 2,_=>exact⟨q0,rfl,bT9 (by decide)⟩
   | 3,_=>exact⟨_,rfl,ok0⟩
  refine⟨_,rfl,[‹scr ns›,‹.int k›,‹shD w h l›,‹q0.d›,some (.own ((L++[x]).map Q4.d)),‹.int j›,‹q.d›],?_,L++[x],_,_,by rw[List.length_append,hL];simp,?_,rfl⟩
  ·show cbd [‹scr ns›,‹.int k›,‹shD w h l›,‹q0.d›,some (.own (L.map Q4.d)),‹.int j›,‹q.d›]=_
   have kj:(k:Int)+(j:Int)=((k+j:Nat):Int):=by omega
   have len:(L.map Q4.d).length < 16777216:=by rw[List.length_map];omega
   have ix2:atI [PyData.int (w:Int),.int (h:Int),.tuple (l.map Q4.d)] 2=some (.tuple (l.map Q4.d)):=rfl
   wp_walk using evD,cbd,ah6,shD,if_pos len,kj,ed,ix2,at0,ex,List.map_append
  ·intro y hy
   rcases List.mem_append.mp hy with z|z
   ·exact hok y z
   ·rw[List.mem_singleton.mp z];exact okx)
 subst hρ
 rw[Nat.zero_add,aq6,List.length_map,S.len]at hL
 refine⟨L,?_,S.w1,S.w8,S.h1,S.h8,hL,hok⟩
 refine D1 (ρ:=[‹scr ns›,‹.int k›,‹shD w h l›,none,none,none,none]) rfl ?_
 unfold n8
 refine(C6 (show _=some (Fl.nx [‹scr ns›,‹.int k›,‹shD w h l›,‹q0.d›,none,none,none]) from by wp_walk using evD,bT3)).trans ?_
 refine(C6 (show _=some (Fl.nx [‹scr ns›,‹.int k›,‹shD w h l›,‹q0.d›,some (.own []),none,none]) from rfl)).trans ?_
 refine(C6 (show _=some (Fl.nx [‹scr ns›,‹.int k›,‹shD w h l›,‹q0.d›,some (.own (L.map Q4.d)),a5,a6]) from by
  unfold W6
  rw[src,xbs]
  exact e)).trans ?_
 have c2:U3 [PyData.int (w:Int),.int (h:Int),.tuple (l.map Q4.d)] none (some 2)=[.int w,.int h]:=rfl
 have ct:J1 (.tuple [.int w,.int h]) (.tuple [.tuple (L.map Q4.d)])=some (shD w h L):=rfl
 wp_walk using evD,Y8,shD,c2,P2
 exact congrArg (fun z=>Option.map Fl.rt z) ct
end Lk12
namespace Lk12
open PySem G L2 Sh
theorem aE3(a:Pt):ltP a a=false:=by simp[ltP]
theorem aX4(h1:ltP b a=false) (h2:ltP a b=false):a=b:=by
 unfold ltP at h1 h2
 obtain⟨a1,a2⟩:=a
 obtain⟨b1,b2⟩:=b
 dsimp only at *
 by_cases e:a1=b1
 ·subst e
  simp at h1 h2
  rw[Int.le_antisymm h1 h2]
 ·rw[if_neg e]at h2
  rw[if_neg (Ne.symm e)]at h1
  simp at h1 h2
  omega
theorem swP(ps:List Pt):SW (nP ps):=by
 refine⟨fun a=>aE3 _,fun a b h=>?_,fun a b c h1 h2=>?_⟩
 ·unfold nP ltP at *
  generalize ps.getD a (0,0)=x at *
  generalize ps.getD b (0,0)=y at *
  split at h<;>split<;>simp at *<;>omega
 ·unfold nP ltP at *
  generalize ps.getD a (0,0)=x at *
  generalize ps.getD b (0,0)=y at *
  generalize ps.getD c (0,0)=z at *
  split at h1<;>split at h2<;>split<;>simp at *<;>omega
theorem bj9(h64:ps.length < 64):(U0 ps).Perm ps/\(U0 ps).Pairwise (fun a b=>ltP b a=false):=by
 unfold U0
 split
 ·rename_i h
  refine⟨.refl _,?_⟩
  match ps,h with
  | [],_=>exact .nil
  | [a],_=>exact List.pairwise_singleton _ _
  | _::_::_,q=>exact absurd q (by simp)
 ·rename_i h2
  obtain⟨p1,p2,p3⟩:=ah2 (swP ps) (n:=ps.length) (by omega)
  generalize evT (nP ps) (PySem.W.kas_sort ps.length)=p at p1 p2 p3
  have p2':p.toList.Perm (List.range ps.length):=by
   have:=Array.perm_iff_toList_perm.mp p2
   simpa using this
  refine⟨(p2'.map (fun i=>ps.getD i (0,0))).trans (List.Perm.of_eq ?_),?_⟩
  ·apply List.ext_getElem
   ·simp
   ·intro i i1 i2;simp[i2]
  ·rw[List.pairwise_map,List.pairwise_iff_getElem]
   intro i j hi hj hij
   have hz:p.toList.length=ps.length:=by rw[Array.length_toList,p1]
   have:=p3 i j (by omega) (by omega)
   have g:∀m (hm:m < p.toList.length),p.getD m 0=p.toList[m]:=fun m hm=>by
    rw[Array.getD_eq_getD_getElem?,← Array.getElem?_toList,List.getElem?_eq_getElem hm];rfl
   rw[g j hj,g i hi]at this
   exact this
def col(h:Nat) (p:Pt->Bool) (x:Nat):List Pt:=((List.range h).filter fun y:Nat=>p ((x:Int),((y:Nat):Int))).map fun y:Nat=>((x:Int),((y:Nat):Int))
def F8(w h:Nat) (p:Pt->Bool):List Pt:=(List.range w).flatMap (col h p)
theorem M5(w h:Nat) (p:Pt->Bool):F8 (w+1) h p=F8 w h p++col h p w:=by
 unfold F8
 rw[List.range_succ,List.flatMap_append]
 simp
theorem al0:a∈col h p x↔a.1=x/\0<=a.2/\a.2 < h/\p a=true:=by
 unfold col
 rw[List.mem_map]
 constructor
 ·rintro⟨y,hy,rfl⟩
  rw[List.mem_filter,List.mem_range]at hy
  exact⟨rfl,by dsimp only;omega,by dsimp only;omega,hy.2⟩
 ·rintro⟨h1,h2,h3,h4⟩
  obtain⟨a1,a2⟩:=a
  dsimp only at *
  subst h1
  refine⟨a2.toNat,?_,by rw[show((a2.toNat:Nat):Int)=a2 by omega]⟩
  rw[List.mem_filter,List.mem_range,show((a2.toNat:Nat):Int)=a2 by omega]
  exact⟨by omega,h4⟩
theorem ab4:a∈F8 w h p↔(0<=a.1/\a.1 < w/\0<=a.2/\a.2 < h)/\p a=true:=by
 unfold F8
 rw[List.mem_flatMap]
 constructor
 ·rintro⟨x,hx,ha⟩
  rw[List.mem_range]at hx
  obtain⟨h1,h2,h3,h4⟩:=al0.mp ha
  exact⟨⟨by omega,by omega,h2,h3⟩,h4⟩
 ·rintro⟨⟨h1,h2,h3,h4⟩,h5⟩
  exact⟨a.1.toNat,List.mem_range.mpr (by omega),al0.mpr ⟨by omega,h3,h4,h5⟩⟩
theorem aH1(h:Nat) (p:Pt->Bool):∀w,(F8 w h p).Pairwise (fun a b=>ltP a b=true)
 | 0=>.nil
 | w+1=>by
  rw[M5,List.pairwise_append]
  refine⟨aH1 h p w,?_,fun a ha b hb=>?_⟩
  ·unfold col
   rw[List.pairwise_map]
   refine(List.Pairwise.filter _ List.pairwise_lt_range).imp fun{a b} hab=>?_
   simp[ltP];omega
  ·have:=ab4.mp ha
   obtain⟨h1,_⟩:=al0.mp hb
   unfold ltP
   rw[if_neg (by omega)]
   simp;omega
theorem bf3(w1:1<=w) (p:Pt->Bool) (wh:w*h < 64):U0 ((plc w (w*h)).filter p)=F8 w h p:=by
 have hl:((plc w (w*h)).filter p).length < 64:=Nat.lt_of_le_of_lt (List.length_filter_le ..) (by rw[o6];exact wh)
 obtain⟨s1,s2⟩:=bj9 hl
 have cl:=aH1 h p w
 have nd2:(F8 w h p).Nodup:=cl.imp fun{a b} hab e=>by subst e;rw[aE3]at hab;cases hab
 have nd1:((plc w (w*h)).filter p).Nodup:=by
  refine List.Pairwise.filter _ ?_
  unfold plc
  rw[List.pairwise_map]
  refine List.nodup_range.imp fun{a b} hab e=>hab ?_
  simp only[Prod.mk.injEq,Int.natCast_inj]at e
  rw[← Nat.mod_add_div a w,← Nat.mod_add_div b w,e.1,e.2]
 have pm:((plc w (w*h)).filter p).Perm (F8 w h p):=(List.perm_ext_iff_of_nodup nd1 nd2).mpr fun a=>by
  rw[ab4,List.mem_filter]
  exact⟨fun⟨q1,q2⟩=>⟨aC5 q1 w1,q2⟩,fun⟨q1,q2⟩=>⟨aC6 q1,q2⟩⟩
 refine List.Perm.eq_of_pairwise (le:=fun a b=>ltP b a=false) (fun a b _ _ h1 h2=>aX4 h1 h2) s2 (cl.imp fun{a b} hab=>?_) (s1.trans pm)
 unfold ltP at *
 split at hab<;>split<;>simp at *<;>omega
theorem c9(S:ShOk k w h l) (hx:x < w) (hy:y < h):M9 [shD w h l,.int x,.int y]=some (atQ w h l x y).d:=by
 refine D1 (ρ:=[‹shD w h l›,‹.int x›,‹.int y›]) rfl ?_
 have w8:=S.w8
 have h8:=S.h8
 have yw:y*w+x < w*h:=by
  have:y*w<=(h - 1)*w:=Nat.mul_le_mul_right w (by omega)
  have e:(h - 1)*w+w=w*h:=by
   obtain⟨n,rfl⟩:∃n,h=n+1:=⟨h - 1,by omega⟩
   rw[Nat.add_sub_cancel,Nat.mul_succ,Nat.mul_comm]
  omega
 have m:=O8 (show y<=1000 by omega) (show w<=1000 by omega)
 have c:((y*w:Nat):Int)+(x:Int)=((y*w+x:Nat):Int):=by omega
 have a:=atD l (i:=((y*w+x:Nat):Int)) (by omega) (by rw[S.len];omega)
 have a2:atI [PyData.int (w:Int),.int (h:Int),.tuple (l.map Q4.d)] 2=some (.tuple (l.map Q4.d)):=rfl
 have a0:atI [PyData.int (w:Int),.int (h:Int),.tuple (l.map Q4.d)] 0=some (.int w):=rfl
 have q:atQ w h l x y=l.getD (((y*w+x:Nat):Int)).toNat q0:=by
  unfold atQ
  rw[if_pos (by omega),← Int.natCast_mul,c]
 wp_walk using evD,bh0,shD,a0,a2,m,c,a
 rw[q]
end Lk12
namespace Lk12
open PySem G L2 Sh
abbrev en(ns:List Int) (w h:Nat) (l:List Q4) (r:List (Option B)):Rho:=‹scr ns›::‹shD w h l›::‹.int w›::‹.int h›::‹.tuple (l.map Q4.d)›::r
theorem bW2(p:G.Sp×Int):Ly 4 (prD p):=Ly.tup fun x hx=>by
 simp only[List.mem_cons,List.not_mem_nil,or_false]at hx
 rcases hx with rfl|rfl
 ·exact V6 _
 ·exact Ly.int _ _
theorem bp1(r:List (G.Sp×Int)):Ly 5 (.list (r.map prD)):=Ly.lst fun x hx=>by obtain⟨p,_,rfl⟩:=List.mem_map.mp hx;exact bW2 _
theorem aX1(L:List Pt):Ly 2 (.list (L.map pI)):=Ly.lst fun x hx=>by
 obtain⟨p,_,rfl⟩:=List.mem_map.mp hx
 exact Ly.tup fun y hy=>by
  simp only[List.mem_cons,List.not_mem_nil,or_false]at hy
  rcases hy with rfl|rfl<;>exact Ly.int _ _
theorem aY0{l:List Q4}{r:List (G.Sp×Int)}(hl:l.length < 64) (r2:r.Perm (kdL l)) (r3:bg9 (r.map (·.1))):J9 ((fsK (l.map spK)).map e2)=some ((r.map (·.1)).map e2):=by
 have pf:(r.map (·.1)).Perm (fsK (l.map spK)):=by
  have:=r2.map (·.1)
  rw[aE9]at this
  exact this
 have ln:(fsK (l.map spK)).length < 64:=by
  have:=ak3 (l.map spK) []
  rw[List.length_map,List.length_nil]at this
  exact Nat.lt_of_le_of_lt this (by omega)
 have ne:(fsK (l.map spK)).all neS=true:=by
  rw[List.all_eq_true]
  intro x hx
  have:=(t4 x (l.map spK) []).mp hx
  simp only[List.not_mem_nil,false_or]at this
  obtain⟨q,_,rfl⟩:=List.mem_map.mp this
  rfl
 obtain⟨s,s1,_,s3,s4⟩:=am9 pf ln ne
 rw[s1,List.Perm.eq_of_pairwise (le:=fun a b=>X4 b a=false) (fun a b _ _ h1 h2=>aM5 h1 h2) s4 r3 (s3.trans pf.symm)]
theorem al1(k:G.Sp):∀l:List Q4,(l.filter fun q=>decide (spK q=k)).length=(l.map spK).count k
 | []=>rfl
 | q::l=>by
  rw[xmc,List.count_cons]
  by_cases e:spK q=k
  ·rw[List.filter_cons_of_pos (by simp[e]),List.length_cons,al1 k l];simp[e]
  ·rw[List.filter_cons_of_neg (by simp[e]),al1 k l];simp[e]
theorem bp5{ns:List Int}{w h:Nat}{l:List Q4}(S:ShOk 8 w h l) (w9:w*h<=9) {r:List (G.Sp×Int)}(r2:r.Perm (kdL l)) (R:List (Option B)):C2 1 [4] (G4 (A1 5)) (B8 0) F5 (D8 (A0 (A1 0) (A0 (Y9 (qN (C2 1 [0] (G4 (A1 1)) (B8 0) (tB2 eqD (A1 0) (A1 1)) (A1 0)))) A2))) (en ns w h l (‹.list ((r.map (·.1)).map e2)›::R))=some (r.map prD):=by
 have lr:r.length<=9:=by
  have:=r2.length_eq
  have fl:=ax2 (l.map spK) []
  rw[List.length_map,List.length_nil,S.len]at fl
  have fl:(fsL (l.map spK)).length<=0+w*h:=fl
  rw[List.length_map]at this
  omega
 refine V4 (l:=r) (h:=fun p=>e2 p.1) (f:=prD) (r:=[‹.tuple (l.map Q4.d)›]) rfl (by rw[show(r.map fun p=>e2 p.1)=(r.map (·.1)).map e2 by rw[List.map_map];rfl];rfl) (by omega) fun p hp=>?_
 have c:C2 1 [0] (G4 (A1 1)) (B8 0) (tB2 eqD (A1 0) (A1 1)) (A1 0) [‹e2 p.1›,‹.tuple (l.map Q4.d)›]=some ((l.filter fun q=>decide (spK q=p.1)).map Q4.d):=by
  refine aj2 (l:=l) (h:=Q4.d) (f:=Q4.d) (p:=fun q=>decide (spK q=p.1)) (r:=[‹e2 p.1›]) rfl rfl (by rw[S.len];omega) (fun q _=>?_) (fun q _=>rfl)
  show((eqD q.d (e2 p.1)).bind O0)=_
  unfold eqD
  rw[if_pos ⟨(Ly.q4 q 0).shaped (by decide),Ly.shaped (n:=3) (V6 p.1) (by decide)⟩,← aS4,ak5];rfl
 obtain⟨k,_,e⟩:=List.mem_map.mp (r2.mem_iff.mp hp)
 have ln:(((l.filter fun q=>decide (spK q=p.1)).map Q4.d).length:Int)=p.2:=by
  rw[List.length_map,al1,← e];rfl
 simp only[D8,A0,A2,A1,Y9,qN,c,xg0,xms,xbs,ln]
 rfl
theorem bY8{n:Nat}(h0:0 < n):fr (qo 1 (n:Rat))=.tuple [.int 1,.int n]:=by
 unfold qo
 rw[Rat.den_natCast,Rat.num_natCast,show((1:Rat).num.natAbs*1:Nat)=1 from rfl,show(1:Rat).den=1 from rfl,Nat.one_mul,Int.natAbs_natCast,aa1 1 n h0]
 simp
theorem bH5(hr:∀r∈rs,Bd k r) (h0:0 < rs.length) (h1:rs.length<=64):G2 rs*qo 1 (rs.length:Rat)=men rs:=by
 have a:=o9 hr h0 h1
 have b:=aT5 Bd.one (ac0 h1) (V3 h0)
 have z:=V3 h0
 rw[← a]
 generalize men rs=x at *
 generalize qo 1 (rs.length:Rat)=y at *
 generalize (rs.length:Rat)=m at *
 grind
theorem bT8{n:Nat}(h0:0 < n) (h1:n<=64):Bd 8 (qo 1 (n:Rat)):=by
 have c:=ac0 h1
 unfold qo
 exact(Bd.of (Nat.mul_pos (E8 _) (o7 c (V3 h0))) (D3 Bd.one.num c.den) (D3 Bd.one.den c.num)).mono (by decide)
def mi:DS:=(D0 8 (A3 Z7 (A0 (A1 8) (A0 (dIx (B1 9) (A1 7)) A2))))
def mb:DS:=(C3 (D0 8 (D8 (A0 ⇑0 (A0 ⇑1 A2)))) (C3 (W6 (G4 (A1 4)) (B8 9) mi) (ah6 6 (A3 P4 (A0 (A1 8) (A0 (D8 (A0 ⇑1 (A0 (A4 G0 (A1 2) (A1 3)) A2))) A2))))))
theorem bZ6(q:Q4) {p:Nat}(hp:p < 4):atI [fr q.c,fr q.x,fr q.y,fr q.z] (p:Int)=some (fr (q.pt p)):=by
 match p,hp with
 | 0,_=>rfl
 | 1,_=>rfl
 | 2,_=>rfl
 | 3,_=>rfl
abbrev z11:List (Option B):=[none,none,none,none,none,none,none,none,none,none]
theorem bp0{ns:List Int}{w h:Nat}{l:List Q4}(S:ShOk 8 w h l) (w9:w*h<=9) (a5 a6:Option B) {p:Nat}(hp:p < 4) (a9:Option B):∃a9',Y2 (B8 9) mi (l.map Q4.d) (en ns w h l (a5::a6::‹.int p›::‹fr 0›::a9::z11))=some (.nx (en ns w h l (a5::a6::‹.int p›::‹fr (G2 (l.map fun q=>q.pt p))›::a9'::z11))):=by
 obtain⟨ρ',e,a9',hρ⟩:=P0 (g:=B8 9) (f:=mi) (h:=Q4.d) (I:=fun j ρ=>∃a9,ρ=en ns w h l (a5::a6::‹.int p›::‹fr (G2 ((l.take j).map fun q=>q.pt p))›::a9::z11)) l 0 (en ns w h l (a5::a6::‹.int p›::‹fr 0›::a9::z11)) ⟨a9,rfl⟩ (fun j q hj ρ ⟨a9,hρ⟩=>by
  subst hρ
  rw[Nat.zero_add]at *
  have jl:j < l.length:=(List.getElem?_eq_some_iff.mp hj).1
  have eq:l[j]=q:=by rw[List.getElem?_eq_getElem jl]at hj;exact Option.some.inj hj
  have bq:=ae1 (S.ok q (List.mem_of_getElem? hj)) p
  have bs:=ab9 (rs:=(l.take j).map fun q=>q.pt p) (k:=8) fun r hr=>by
   obtain⟨x,hx,rfl⟩:=List.mem_map.mp hr
   exact ae1 (S.ok x (List.mem_of_mem_take hx)) p
  rw[List.length_map,List.length_take]at bs
  have ml:=Nat.min_le_right j l.length
  have jn:=S.len
  have pl:=aQ0 bs bq (by have:min j l.length*(8+1)<=l.length*9:=Nat.mul_le_mul_right 9 ml;omega)
  have sm:G2 ((l.take (j+1)).map fun q=>q.pt p)=G2 ((l.take j).map fun q=>q.pt p)+q.pt p:=by
   rw[List.take_succ_eq_append_getElem jl,List.map_append,am5,eq]
   show _+(q.pt p+0)=_
   grind
  refine⟨_,rfl,en ns w h l (a5::a6::‹.int p›::‹fr (G2 ((l.take (j+1)).map fun q=>q.pt p))›::‹q.d›::z11),?_,_,rfl⟩
  show mi (en ns w h l (a5::a6::‹.int p›::‹fr (G2 ((l.take j).map fun q=>q.pt p))›::‹q.d›::z11))=_
  have ap:atI [fr q.c,fr q.x,fr q.y,fr q.z] (p:Int)=some (fr (q.pt p)):=bZ6 q hp
  rw[sm]
  wp_walk using evD,mi,en,Q4.d,sp,ap,pl)
 subst hρ
 rw[Nat.zero_add,List.take_length]at e
 exact⟨a9',e⟩
theorem bo9{ns:List Int}{w h:Nat}{l:List Q4}(S:ShOk 8 w h l) (w9:w*h<=9) (a5:Option B):∃b7 b8 b9,aR4 (en ns w h l (a5::some (.own [])::none::none::none::z11))=some (.nx (en ns w h l (a5::some (.own ((List.range 4).map fun p=>fr (men (l.map fun q=>q.pt p))))::b7::b8::b9::z11))):=by
 have wh1:1<=w*h:=Nat.mul_le_mul S.w1 S.h1
 obtain⟨ρ',e,b7,b8,b9,hρ⟩:=P0 (g:=B8 7) (f:=mb) (h:=fun k:Nat=>PyData.int k) (I:=fun i ρ=>∃b7 b8 b9,ρ=en ns w h l (a5::some (.own ((List.range i).map fun p=>fr (men (l.map fun q=>q.pt p))))::b7::b8::b9::z11)) (List.range 4) 0 (en ns w h l (a5::some (.own [])::none::none::none::z11)) ⟨none,none,none,rfl⟩ (fun j p hj ρ ⟨b7,b8,b9,hρ⟩=>by
  subst hρ
  rw[Nat.zero_add]at *
  have hp:j < 4:=by
   have:=(List.getElem?_eq_some_iff.mp hj).1
   simpa using this
  have ep:p=j:=by rw[List.getElem?_range hp]at hj;exact(Option.some.inj hj).symm
  subst ep
  obtain⟨a9',ei⟩:=bp0 (ns:=ns) S w9 a5 (some (.own ((List.range p).map fun p=>fr (men (l.map fun q=>q.pt p))))) hp b9
  have hb:∀r∈l.map (fun q=>q.pt p),Bd 8 r:=fun r hr=>by
   obtain⟨x,hx,rfl⟩:=List.mem_map.mp hr
   exact ae1 (S.ok x hx) p
  have l0:0 < (l.map fun q=>q.pt p).length:=by rw[List.length_map,S.len];omega
  have l1:(l.map fun q=>q.pt p).length<=64:=by rw[List.length_map,S.len];omega
  have bs:=ab9 hb
  have tm:=Q6 bs (bT8 l0 l1) (by rw[List.length_map,S.len];omega)
  rw[bH5 hb l0 l1,bY8 l0,List.length_map,S.len]at tm
  refine⟨_,rfl,en ns w h l (a5::some (.own ((List.range (p+1)).map fun p=>fr (men (l.map fun q=>q.pt p))))::‹.int p›::‹fr (G2 (l.map fun q=>q.pt p))›::a9'::z11),?_,_,_,_,rfl⟩
  show mb (en ns w h l (a5::some (.own ((List.range p).map fun p=>fr (men (l.map fun q=>q.pt p))))::‹.int p›::b8::b9::z11))=_
  unfold mb
  refine(C6 (show _=some (Fl.nx (en ns w h l (a5::some (.own ((List.range p).map fun p=>fr (men (l.map fun q=>q.pt p))))::‹.int p›::‹fr 0›::b9::z11))) from rfl)).trans ?_
  refine(C6 (show _=some (Fl.nx (en ns w h l (a5::some (.own ((List.range p).map fun p=>fr (men (l.map fun q=>q.pt p))))::‹.int p›::‹fr (G2 (l.map fun q=>q.pt p))›::a9'::z11))) from ei)).trans ?_
  have mw:=O8 (show w<=1000 by have:=S.w8;omega) (show h<=1000 by have:=S.h8;omega)
  have len:((List.range p).map fun p=>fr (men (l.map fun q=>q.pt p))).length < 16777216:=by simp;omega
  rw[List.range_succ,List.map_append]
  wp_walk using evD,ah6,en,if_pos len,mw,tm)
 subst hρ
 exact⟨b7,b8,b9,e⟩
end Lk12
namespace Lk12
open PySem G L2 Sh
def sb:DS:=(D0 10 (A4 J1 (A1 10) (G5 (C2 1 [11,1] (F9 (A1 3)) (B8 0) (tB2 neD (A3 M9 (A0 (A1 2) (A0 (A1 1) (A0 (A1 0) A2)))) (A4 G0 (D8 (A0 (D8 (A0 ⇑0 (A0 ⇑1 A2))) A2)) ⇑4)) (D8 (A0 (A1 1) (A0 (A1 0) A2)))))))
def ub:DS:=(D0 18 (A4 J1 (A1 18) (G5 (C2 1 [11,1,17] (F9 (A1 3)) (B8 0) (tB2 neD (A3 M9 (A0 (A1 2) (A0 (A1 1) (A0 (A1 0) A2)))) (A3 M9 (A0 (A1 3) (A0 (A1 1) (A0 (A1 0) A2))))) (D8 (A0 (A1 1) (A0 (A1 0) A2)))))))
theorem ab5(w h:Nat) (p:Pt->Bool):(F8 w h p).length<=w*h:=by
 induction w with
 | zero=>simp[F8]
 | succ w ih =>
  rw[M5,List.length_append,Nat.succ_mul]
  have:(col h p w).length<=h:=by
   unfold col
   rw[List.length_map]
   exact Nat.le_trans (List.length_filter_le ..) (by rw[List.length_range];exact Nat.le_refl _)
  omega
abbrev p1(w h:Nat) (l:List Q4):Pt->Bool:=fun a=>neK (atQ w h l a.1 a.2) q0
abbrev p2(w h:Nat) (l l2:List Q4):Pt->Bool:=fun a=>neK (atQ w h l a.1 a.2) (atQ w h l2 a.1 a.2)
theorem bl0(S:ShOk 8 w h l) (w9:w*h<=9) (a5 a6 a7 a8 a9:Option B) (R:List (Option B)):∃a11,Y2 (B8 11) sb ((List.range w).map fun k:Nat=>PyData.int k) (en ns w h l (a5::a6::a7::a8::a9::‹.list []›::none::R))=some (.nx (en ns w h l (a5::a6::a7::a8::a9::‹.list ((F8 w h (p1 w h l)).map pI)›::a11::R))):=by
 have w8:=S.w8
 have h8:=S.h8
 obtain⟨ρ',e,a11,hρ⟩:=P0 (g:=B8 11) (f:=sb) (h:=fun k:Nat=>PyData.int k) (I:=fun i ρ=>∃a11,ρ=en ns w h l (a5::a6::a7::a8::a9::‹.list ((F8 i h (p1 w h l)).map pI)›::a11::R)) (List.range w) 0 (en ns w h l (a5::a6::a7::a8::a9::‹.list []›::none::R)) ⟨none,rfl⟩ (fun j x hj ρ ⟨a11,hρ⟩=>by
  subst hρ
  rw[Nat.zero_add]at *
  have hp:j < w:=by
   have:=(List.getElem?_eq_some_iff.mp hj).1
   simpa using this
  have ep:x=j:=by rw[List.getElem?_range hp]at hj;exact(Option.some.inj hj).symm
  subst ep
  refine⟨_,rfl,en ns w h l (a5::a6::a7::a8::a9::‹.list ((F8 (x+1) h (p1 w h l)).map pI)›::‹.int x›::R),?_,_,rfl⟩
  show sb (en ns w h l (a5::a6::a7::a8::a9::‹.list ((F8 x h (p1 w h l)).map pI)›::‹.int x›::R))=_
  have c:C2 1 [11,1] (F9 (A1 3)) (B8 0) (tB2 neD (A3 M9 (A0 (A1 2) (A0 (A1 1) (A0 (A1 0) A2)))) (A4 G0 (D8 (A0 (D8 (A0 ⇑0 (A0 ⇑1 A2))) A2)) ⇑4)) (D8 (A0 (A1 1) (A0 (A1 0) A2))) (en ns w h l (a5::a6::a7::a8::a9::‹.list ((F8 x h (p1 w h l)).map pI)›::‹.int x›::R))=some ((col h (p1 w h l) x).map pI):=by
   rw[aj2 (l:=List.range h) (h:=fun k:Nat=>PyData.int k) (f:=fun y:Nat=>.tuple [.int x,.int y]) (p:=fun y:Nat=>p1 w h l ((x:Int),(y:Int))) (r:=[‹.int x›,‹shD w h l›]) rfl (T1 rfl (by omega)) (by rw[List.length_range];omega) ?_ ?_]
   ·unfold col
    rw[List.map_map];rfl
   ·intro y hy
    have hy:y < h:=List.mem_range.mp hy
    wp_walk using evD,c9 S hp hy,bT3,aj1
   ·intro y _
    wp_walk using evD
  have ct:=aH7 (xs:=(F8 x h (p1 w h l)).map pI) (ys:=(col h (p1 w h l) x).map pI) (by
   have:=ab5 (x+1) h (p1 w h l)
   rw[M5,List.length_append]at this
   rw[List.length_map,List.length_map]
   have:(x+1)*h<=w*h:=Nat.mul_le_mul_right h hp
   omega)
  rw[← List.map_append,← M5]at ct
  simp only[en]at c
  simp only[sb,en,D0,A4,G5,c,A1,xg0,xg1,xms,xbs,ct,xw0,xw1])
 subst hρ
 rw[Nat.zero_add,List.length_range]at e
 exact⟨a11,e⟩
theorem bA9(S:ShOk 8 w h l) (S2:ShOk 8 w h l2) (w9:w*h<=9) (a5 a6 a7 a8 a9 a10 a11 a12 a13 a14 a15 a16:Option B) (R:List (Option B)):∃b11,Y2 (B8 11) ub ((List.range w).map fun k:Nat=>PyData.int k) (en ns w h l (a5::a6::a7::a8::a9::a10::a11::a12::a13::a14::a15::a16::‹shD w h l2›::‹.list []›::R))=some (.nx (en ns w h l (a5::a6::a7::a8::a9::a10::b11::a12::a13::a14::a15::a16::‹shD w h l2›::‹.list ((F8 w h (p2 w h l l2)).map pI)›::R))):=by
 have w8:=S.w8
 have h8:=S.h8
 obtain⟨ρ',e,b11,hρ⟩:=P0 (g:=B8 11) (f:=ub) (h:=fun k:Nat=>PyData.int k) (I:=fun i ρ=>∃a11,ρ=en ns w h l (a5::a6::a7::a8::a9::a10::a11::a12::a13::a14::a15::a16::‹shD w h l2›::‹.list ((F8 i h (p2 w h l l2)).map pI)›::R)) (List.range w) 0 (en ns w h l (a5::a6::a7::a8::a9::a10::a11::a12::a13::a14::a15::a16::‹shD w h l2›::‹.list []›::R)) ⟨a11,rfl⟩ (fun j x hj ρ ⟨a11,hρ⟩=>by
  subst hρ
  rw[Nat.zero_add]at *
  have hp:j < w:=by
   have:=(List.getElem?_eq_some_iff.mp hj).1
   simpa using this
  have ep:x=j:=by rw[List.getElem?_range hp]at hj;exact(Option.some.inj hj).symm
  subst ep
  refine⟨_,rfl,en ns w h l (a5::a6::a7::a8::a9::a10::‹.int x›::a12::a13::a14::a15::a16::‹shD w h l2›::‹.list ((F8 (x+1) h (p2 w h l l2)).map pI)›::R),?_,_,rfl⟩
  show ub (en ns w h l (a5::a6::a7::a8::a9::a10::‹.int x›::a12::a13::a14::a15::a16::‹shD w h l2›::‹.list ((F8 x h (p2 w h l l2)).map pI)›::R))=_
  have c:C2 1 [11,1,17] (F9 (A1 3)) (B8 0) (tB2 neD (A3 M9 (A0 (A1 2) (A0 (A1 1) (A0 (A1 0) A2)))) (A3 M9 (A0 (A1 3) (A0 (A1 1) (A0 (A1 0) A2))))) (D8 (A0 (A1 1) (A0 (A1 0) A2))) (en ns w h l (a5::a6::a7::a8::a9::a10::‹.int x›::a12::a13::a14::a15::a16::‹shD w h l2›::‹.list ((F8 x h (p2 w h l l2)).map pI)›::R))=some ((col h (p2 w h l l2) x).map pI):=by
   rw[aj2 (l:=List.range h) (h:=fun k:Nat=>PyData.int k) (f:=fun y:Nat=>.tuple [.int x,.int y]) (p:=fun y:Nat=>p2 w h l l2 ((x:Int),(y:Int))) (r:=[‹.int x›,‹shD w h l›,‹shD w h l2›]) rfl (T1 rfl (by omega)) (by rw[List.length_range];omega) ?_ ?_]
   ·unfold col
    rw[List.map_map];rfl
   ·intro y hy
    have hy:y < h:=List.mem_range.mp hy
    wp_walk using evD,c9 S hp hy,c9 S2 hp hy,aj1
   ·intro y _
    wp_walk using evD
  have ct:=aH7 (xs:=(F8 x h (p2 w h l l2)).map pI) (ys:=(col h (p2 w h l l2) x).map pI) (by
   have:=ab5 (x+1) h (p2 w h l l2)
   rw[M5,List.length_append]at this
   rw[List.length_map,List.length_map]
   have:(x+1)*h<=w*h:=Nat.mul_le_mul_right h hp
   omega)
  rw[← List.map_append,← M5]at ct
  simp only[en]at c
  simp only[ub,en,D0,A4,G5,c,A1,xg0,xg1,xms,xbs,ct,xw0,xw1])
 subst hρ
 rw[Nat.zero_add,List.length_range]at e
 exact⟨b11,e⟩
theorem bv2(h:∀a,a∈L↔a∈M):bb L=bb M :=
 aI2 (aI5 L) ⟨fun p hp=>(aI5 M).1 p ((h p).mp hp),fun C hC=>(aI5 M).2 C fun p hp=>hC p ((h p).mpr hp)⟩
theorem bW3(B:Bx):Ly 1 (bxD B):=by
 cases B with
 | none=>exact⟨rfl,Nat.zero_le _⟩
 | some b =>
  obtain⟨l,t,r,c⟩:=b
  exact Ly.tup fun x hx=>by
   simp only[List.mem_cons,List.not_mem_nil,or_false]at hx
   rcases hx with rfl|rfl|rfl|rfl<;>exact Ly.int _ _
theorem bO8(a5 a6 a7 a8 a9 a11:Option B) (L:List Pt) (hL:L.length<=100):∃b13 b14 b15 b16,o5 (en ns w h l [a5,a6,a7,a8,a9,‹.list (L.map pI)›,a11,some (.val .none),none,none,none,none,none,none,none])=some (.nx (en ns w h l [a5,a6,a7,a8,a9,‹.list (L.map pI)›,a11,‹bxD (bb L)›,b13,b14,b15,b16,none,none,none])):=by
 cases L with
 | nil =>
  refine⟨none,none,none,none,?_⟩
  have n0:neD (.list []) (.list [])=some (.bool false):=rfl
  wp_walk using evD,o5,en,n0
  rfl
 | cons p M =>
  have n0:neD (.list ((p::M).map pI)) (.list [])=some (.bool true):=by
   unfold neD
   rw[if_pos ⟨(aX1 (p::M)).shaped (by decide),(aX1 []).shaped (by decide)⟩];rfl
  refine⟨‹.int (mnL ((p::M).map (·.1)))›,‹.int (mnL ((p::M).map (·.2)))›,‹.int (mxL ((p::M).map (·.1)))›,‹.int (mxL ((p::M).map (·.2)))›,?_⟩
  have c0:∀ρ:Rho,A1 10 ρ=some (.list ((p::M).map pI))->C2 1 [] (G4 (A1 10)) (B8 0) F5 (dIx (B1 0) ⇑0) ρ=some ((p::M).map fun a=>PyData.int a.1):=fun ρ e=>by
   refine V4 (l:=p::M) (h:=pI) (r:=[]) rfl ?_ (by omega) fun a _=>rfl
   simp only[G4,e,xbs]
  have c1:∀ρ:Rho,A1 10 ρ=some (.list ((p::M).map pI))->C2 1 [] (G4 (A1 10)) (B8 0) F5 (dIx (B1 0) ⇑1) ρ=some ((p::M).map fun a=>PyData.int a.2):=fun ρ e=>by
   refine V4 (l:=p::M) (h:=pI) (r:=[]) rfl ?_ (by omega) fun a _=>rfl
   simp only[G4,e,xbs]
  have i0:X9 ((p::M).map fun a=>PyData.int a.1)=some ((p::M).map (·.1)):=aa8 _ _
  have i1:X9 ((p::M).map fun a=>PyData.int a.2)=some ((p::M).map (·.2)):=aa8 _ _
  have k0:¬((p::M).map (·.1))=[]:=by simp
  have k1:¬((p::M).map (·.2))=[]:=by simp
  have bx:bxD (bb (p::M))=.tuple [.int (mnL ((p::M).map (·.1))),.int (mnL ((p::M).map (·.2))),.int (mxL ((p::M).map (·.1)) - mnL ((p::M).map (·.1))+1),.int (mxL ((p::M).map (·.2)) - mnL ((p::M).map (·.2))+1)]:=by
   show PyData.tuple [.int (mnL ((p::M).map (·.1))),.int (mnL ((p::M).map (·.2))),.int (mxL ((p::M).map (·.1))+1 - mnL ((p::M).map (·.1))),.int (mxL ((p::M).map (·.2))+1 - mnL ((p::M).map (·.2)))]=_
   rw[show mxL ((p::M).map (·.1))+1 - mnL ((p::M).map (·.1))=mxL ((p::M).map (·.1)) - mnL ((p::M).map (·.1))+1 by omega,show mxL ((p::M).map (·.2))+1 - mnL ((p::M).map (·.2))=mxL ((p::M).map (·.2)) - mnL ((p::M).map (·.2))+1 by omega]
  rw[bx]
  generalize hL':p::M=L' at *
  have t0:(tB2 neD (A1 10) (G5 A2)) (en ns w h l [a5,a6,a7,a8,a9,‹.list (L'.map pI)›,a11,some (.val .none),none,none,none,none,none,none,none])=some true:=by wp_walk using evD,en,n0
  unfold o5 sIf
  rw[t0,xbs,if_pos rfl]
  refine(C6 (show _=some (Fl.nx (en ns w h l [a5,a6,a7,a8,a9,‹.list (L'.map pI)›,a11,some (.val .none),‹.int (mnL (L'.map (·.1)))›,‹.int (mnL (L'.map (·.2)))›,none,none,none,none,none])) from by
   simp only[ah5,A0,A2,ar7,qN,c0 (en ns w h l [a5,a6,a7,a8,a9,‹.list (L'.map pI)›,a11,some (.val .none),none,none,none,none,none,none,none]) rfl,c1 (en ns w h l [a5,a6,a7,a8,a9,‹.list (L'.map pI)›,a11,some (.val .none),none,none,none,none,none,none,none]) rfl,xms,xbs,xft,if_false,i0,i1,if_neg k0,if_neg k1]
   rfl)).trans ?_
  refine(C6 (show _=some (Fl.nx (en ns w h l [a5,a6,a7,a8,a9,‹.list (L'.map pI)›,a11,some (.val .none),‹.int (mnL (L'.map (·.1)))›,‹.int (mnL (L'.map (·.2)))›,‹.int (mxL (L'.map (·.1)))›,‹.int (mxL (L'.map (·.2)))›,none,none,none])) from by
   simp only[ah5,A0,A2,ar9,qN,c0 (en ns w h l [a5,a6,a7,a8,a9,‹.list (L'.map pI)›,a11,some (.val .none),‹.int (mnL (L'.map (·.1)))›,‹.int (mnL (L'.map (·.2)))›,none,none,none,none,none]) rfl,c1 (en ns w h l [a5,a6,a7,a8,a9,‹.list (L'.map pI)›,a11,some (.val .none),‹.int (mnL (L'.map (·.1)))›,‹.int (mnL (L'.map (·.2)))›,none,none,none,none,none]) rfl,xms,xbs,i0,i1,if_neg k0,if_neg k1]
   rfl)).trans ?_
  wp_walk using evD,en
theorem bu8{l:List Q4}(h:1<=l.length):U3 (l.map Q4.d) none (some 1)=[(l.getD 0 q0).d]:=by
 cases l with
 | nil=>exact absurd h (by decide)
 | cons a r=>rw[xmc,bZ5];rfl
abbrev mO(l:List Q4):Option B:=some (.own ((List.range 4).map fun p=>fr (men (l.map fun q=>q.pt p))))
abbrev kO(r:List (G.Sp×Int)):Option B:=‹.list ((r.map (·.1)).map e2)›
abbrev cO(w h:Nat) (l:List Q4):Option B:=‹.list ((F8 w h (p1 w h l)).map pI)›
abbrev xO(w h:Nat) (l:List Q4):Option B:=‹bxD (bb (F8 w h (p1 w h l)))›
theorem main:∀ns:List Int,ns.length<=63->aJ1 [.list (ns.map PyData.int)]=some (.bool true):=by
 intro ns hn
 obtain⟨w,h,l0,el,S0,w3,h3⟩:=bg7 hn 0 (by decide)
 have el:T7 [scr ns,.int 0]=some (shD w h l0):=el
 obtain⟨l,ec,S⟩:=ab7 hn 150 (by decide) S0
 have ec:J0 [scr ns,.int 150,shD w h l0]=some (shD w h l):=ec
 obtain⟨l2,ec2,S2⟩:=ab7 hn 170 (by decide) S
 have ec2:J0 [scr ns,.int 170,shD w h l]=some (shD w h l2):=ec2
 obtain⟨w',h',l3,e3,S3,_,_⟩:=bg7 hn 200 (by decide)
 have e3:T7 [scr ns,.int 200]=some (shD w' h' l3):=e3
 have w1:=S.w1
 have h1:=S.h1
 have w9:w*h<=9:=Nat.mul_le_mul w3 h3
 have wh1:1<=w*h:=Nat.mul_le_mul w1 h1
 obtain⟨r,r1,r2,r3⟩:=bp6 (l:=l) w h (by rw[S.len];omega)
 have ks:=aY0 (by rw[S.len];omega) r2 r3
 have s2:Y7 (B1 4) (en ns w h l [none,none,none,none,none,none,none,none,none,none,none,none,none,none,none])=some (.list ((r.map (·.1)).map e2)):=by
  have q:B1 4 (en ns w h l [none,none,none,none,none,none,none,none,none,none,none,none,none,none,none])=some (true,l.map Q4.d):=rfl
  have ne:(l.map spK).all neS=true:=by
   rw[List.all_map,List.all_eq_true];intro x _;rfl
  simp only[Y7,q,xbs,bO4,List.length_map,S.len,ne,and_true,if_pos (show w*h<=18 by omega),ks,xms]
  rfl
 have c3:=bp5 (ns:=ns) S w9 r2 [none,none,none,none,none,none,none,none,none,none,none,none,none,none]
 have ne3:neD (.list (r.map prD)) (.list (r.map prD))=some (.bool false):=X2 (bp1 r) (by decide)
 obtain⟨b7,b8,b9,s5⟩:=bo9 (ns:=ns) S w9 (kO r)
 have m1:=aj4 S (by decide)
 have mt:PyData.tuple ((List.range 4).map fun p=>fr (men (l.map fun q=>q.pt p)))=(mnQ l).d:=rfl
 have ne6:neD (mnQ l).d (mnQ l).d=some (.bool false):=X2 (Ly.q4 _ 0) (by decide)
 obtain⟨a11,s8⟩:=bl0 (ns:=ns) S w9 (kO r) (mO l) b7 b8 b9 [none,none,none,none,none,none,none,none]
 have cl:=ab5 w h (p1 w h l)
 obtain⟨b13,b14,b15,b16,s10⟩:=bO8 (ns:=ns) (w:=w) (h:=h) (l:=l) (kO r) (mO l) b7 b8 b9 a11 (F8 w h (p1 w h l)) (by omega)
 have sn:=bk9 S
 rw[bv2 (L:=ncl w h l) (M:=F8 w h (p1 w h l)) fun a=>by
  rw[ab4]
  unfold ncl
  rw[List.mem_filter]
  exact⟨fun⟨q1,q2⟩=>⟨aC5 q1 w1,q2⟩,fun⟨q1,q2⟩=>⟨aC6 q1,q2⟩⟩]at sn
 have neb:neD (bxD (bb (F8 w h (p1 w h l)))) (bxD (bb (F8 w h (p1 w h l))))=some (.bool false):=X2 (bW3 _) (by decide)
 obtain⟨b11,s14⟩:=bA9 (ns:=ns) S S2 w9 (kO r) (mO l) b7 b8 b9 (cO w h l) a11 (xO w h l) b13 b14 b15 b16 [none]
 have t1:=ad4 S S2 (by omega)
 have t1:E7 [shD w h l,shD w h l2]=some (.list ((F8 w h (p2 w h l l2)).map pI)):=by rw[← bf3 w1 (p2 w h l l2) (by omega)];exact t1
 have t2:=ad4 S S (by omega)
 rw[aQ7]at t2
 have t2:E7 [shD w h l,shD w h l]=some (.list []):=t2
 have ne15:neD (.list ((F8 w h (p2 w h l l2)).map pI)) (.list ((F8 w h (p2 w h l l2)).map pI))=some (.bool false):=X2 (aX1 _) (by decide)
 have ne15b:neD (.list []) (.list [])=some (.bool false):=rfl
 have mul2:G0 (.list [rf]) (.int 2)=some (.list [rf,rf]):=rfl
 have nrf:neD (.list [rf,rf]) (.list [rf,rf])=some (.bool false):=by kernel_rfl
 have erf:eqD rf rf=some (.bool true):=by kernel_rfl
 have cu:∀(x y:Nat) (l:List Q4),U3 [PyData.int (x:Int),.int (y:Int),.tuple (l.map Q4.d)] none (some 2)=[.int x,.int y]:=fun _ _ _=>rfl
 have c1:U3 (l.map Q4.d) none (some 1)=[(l.getD 0 q0).d]:=bu8 (by rw[S.len];exact wh1)
 have m2:G0 (.tuple [(l.getD 0 q0).d]) (.int 2)=some (.tuple [(l.getD 0 q0).d,(l.getD 0 q0).d]):=rfl
 have t3:E7 [.tuple [.int 1,.int 2,.tuple [(l.getD 0 q0).d,(l.getD 0 q0).d]],.tuple [.int 2,.int 1,.tuple [(l.getD 0 q0).d,(l.getD 0 q0).d]]]=some rf:=ag7 (w:=1) (h:=2) (w':=2) (h':=1) (l:=[l.getD 0 q0,l.getD 0 q0]) (l':=[l.getD 0 q0,l.getD 0 q0]) (by omega)
 refine D1 (ρ:=[‹scr ns›,none,none,none,none,none,none,none,none,none,none,none,none,none,none,none,none,none,none,none]) rfl ?_
 unfold bz2
 refine(C6 (by wp_walk using evD,aR7,el,ec;rfl)).trans ?_
 refine(C6 (show _=some (Fl.nx (en ns w h l [none,none,none,none,none,none,none,none,none,none,none,none,none,none,none])) from rfl)).trans ?_
 refine(C6 (show _=some (Fl.nx (en ns w h l [kO r,none,none,none,none,none,none,none,none,none,none,none,none,none,none])) from by
  unfold aR6 D0
  rw[s2];rfl)).trans ?_
 refine(C6 (show _=some (Fl.nx (en ns w h l [kO r,none,none,none,none,none,none,none,none,none,none,none,none,none,none])) from by
  simp only[en]at c3
  simp only[aR5,en,sIf,tB2,A4,G5,c3,A3,A0,A2,A1,xg0,xg1,xms,xbs,r1,ne3,O0,xft,if_false,L9])).trans ?_
 refine(C6 (show _=some (Fl.nx (en ns w h l [kO r,some (.own []),none,none,none,none,none,none,none,none,none,none,none,none,none])) from rfl)).trans ?_
 refine(C6 s5).trans ?_
 refine(C6 (show _=some (Fl.nx (en ns w h l [kO r,mO l,b7,b8,b9,none,none,none,none,none,none,none,none,none,none])) from by
  wp_walk using evD,aR3,en,mO,P2,m1,mt,ne6)).trans ?_
 refine(C6 (show _=some (Fl.nx (en ns w h l [kO r,mO l,b7,b8,b9,‹.list []›,none,none,none,none,none,none,none,none,none])) from rfl)).trans ?_
 refine(C6 (show _=some (Fl.nx (en ns w h l [kO r,mO l,b7,b8,b9,cO w h l,a11,none,none,none,none,none,none,none,none])) from by
  unfold aR2 W6
  rw[T1 (n:=w) rfl (by omega),xbs]
  exact s8)).trans ?_
 refine(C6 (show _=some (Fl.nx (en ns w h l [kO r,mO l,b7,b8,b9,cO w h l,a11,some (.val .none),none,none,none,none,none,none,none])) from rfl)).trans ?_
 refine(C6 s10).trans ?_
 refine(C6 (show _=some (Fl.nx (en ns w h l [kO r,mO l,b7,b8,b9,cO w h l,a11,xO w h l,b13,b14,b15,b16,none,none,none])) from by wp_walk using evD,aB1,en,xO,sn,neb)).trans ?_
 refine(C6 (show _=some (Fl.nx (en ns w h l [kO r,mO l,b7,b8,b9,cO w h l,a11,xO w h l,b13,b14,b15,b16,‹shD w h l2›,none,none])) from by wp_walk using evD,aB0,en,ec2)).trans ?_
 refine(C6 (show _=some (Fl.nx (en ns w h l [kO r,mO l,b7,b8,b9,cO w h l,a11,xO w h l,b13,b14,b15,b16,‹shD w h l2›,‹.list []›,none])) from rfl)).trans ?_
 refine(C6 (show _=some (Fl.nx (en ns w h l [kO r,mO l,b7,b8,b9,cO w h l,b11,xO w h l,b13,b14,b15,b16,‹shD w h l2›,‹.list ((F8 w h (p2 w h l l2)).map pI)›,none])) from by
  unfold aA9 W6
  rw[T1 (n:=w) rfl (by omega),xbs]
  exact s14)).trans ?_
 refine(C6 (show _=some (Fl.nx (en ns w h l [kO r,mO l,b7,b8,b9,cO w h l,b11,xO w h l,b13,b14,b15,b16,‹shD w h l2›,‹.list ((F8 w h (p2 w h l l2)).map pI)›,none])) from by wp_walk using evD,aA8,en,t1,t2,ne15,ne15b)).trans ?_
 refine(C6 (show _=some (Fl.nx (en ns w h l [kO r,mO l,b7,b8,b9,cO w h l,b11,xO w h l,b13,b14,b15,b16,‹shD w h l2›,‹.list ((F8 w h (p2 w h l l2)).map pI)›,‹shD w' h' l3›])) from by wp_walk using evD,aA7,en,e3)).trans ?_
 refine(C6 (show _=some (Fl.nx (en ns w h l [kO r,mO l,b7,b8,b9,cO w h l,b11,xO w h l,b13,b14,b15,b16,‹shD w h l2›,‹.list ((F8 w h (p2 w h l l2)).map pI)›,‹shD w' h' l3›])) from by
  have n17:∃t,neD (.tuple [.int (w':Int),.int (h':Int)]) (.tuple [.int (w:Int),.int (h:Int)])=some (.bool t)/\(t=true->¬(w=w'/\h=h')):=by
   have ly:∀a b:Nat,Ly 1 (.tuple [.int (a:Int),.int (b:Int)]):=fun a b=>Ly.tup fun x hx=>by
    simp only[List.mem_cons,List.not_mem_nil,or_false]at hx
    rcases hx with rfl|rfl<;>exact Ly.int _ _
   by_cases q:w=w'/\h=h'
   ·obtain⟨rfl,rfl⟩:=q
    exact⟨false,X2 (ly _ _) (by decide),fun z=>by cases z⟩
   ·refine⟨!PyData.eqv (.tuple [.int (w':Int),.int (h':Int)]) (.tuple [.int (w:Int),.int (h:Int)]),?_,fun _=>q⟩
    unfold neD
    rw[if_pos ⟨(ly _ _).shaped (by decide),(ly _ _).shaped (by decide)⟩]
  obtain⟨t,n17,ht⟩:=n17
  cases t with
  | false=>wp_walk using evD,ah0,en,Y8,shD,cu,n17
  | true =>
   have q:=ht rfl
   have x1:E7 [.tuple [.int (w:Int),.int (h:Int),.tuple (l.map Q4.d)],.tuple [.int (w':Int),.int (h':Int),.tuple (l3.map Q4.d)]]=some rf:=ag7 q
   have x2:E7 [.tuple [.int (w':Int),.int (h':Int),.tuple (l3.map Q4.d)],.tuple [.int (w:Int),.int (h:Int),.tuple (l.map Q4.d)]]=some rf:=ag7 fun z=>q ⟨z.1.symm,z.2.symm⟩
   wp_walk using evD,ah0,en,Y8,shD,cu,n17,x1,x2,mul2,nrf)).trans ?_
 wp_walk using evD,aA6,en,Y8,c1,m2,t3,erf
end Lk12
namespace Lk12
open PySem PySem.Spec PyProof.Rows L2 G Sh
def zcs:List (Str×D):=[("CLEAR", (.tuple [(.tuple [(.int 0),(.int 1)]),(.tuple [(.int 0),(.int 1)]),(.tuple [(.int 0),(.int 1)]),(.tuple [(.int 0),(.int 1)])]))]
def zbl:List Str:=["ValueError", "enumerate", "isinstance", "len", "max", "min", "range", "set", "sorted", "tuple"]
def tb0:Tab:=[("sorted", au3,1)]
def zcl:List Str:=["NoMerge"]
def ztb:List (Str×List (Str×Bool)):=[("NoMerge", [("NoMerge", true)]),("NoText", [("NoMerge", false)]),("ValueError", [("NoMerge", true)])]
def zsb:List (Str×List Str):=[("GlazeError", ["NoMerge"])]
def znb:List (Str×List Str):=[("GlazeError", [])]
def zT(rt:az4) (xt:az3):Rg:=⟨rt,zcl,ztb,zsb,znb,xt⟩
def rt0:az4:=[]
def xt0:az3:=[]
def d6:Fd:=fdm "common_divisor" (top 1) 2 ["one", "other", "left_over"] true
def ak6:Fd:=fdm "least_form" (top 2) 2 ["top", "under", "divisor"] true
def bu4:Fd:=fdm "added" (top 3) 2 ["one", "other"] true
def aO2:Fd:=fdm "divided" (top 4) 2 ["one", "other"] true
def Y6:Fd:=fdm "are_of_one_size" (top 7) 2 ["one", "other"]
def ar0:Fd:={ fdm "places_of" (top 8) 2 ["wide", "high"] with hc:=[((20,11),[0])] }
def ar5:Fd:=fdm "has_place" (top 9) 3 ["sheet", "x", "y"]
def Y5:Fd:=fdm "number_of_place" (top 10) 3 ["sheet", "x", "y"]
def aN6:Fd:=fdm "spot_at" (top 11) 3 ["sheet", "x", "y"]
def ad1:Fd:=fdm "box_between" (top 13) 4 ["left", "top", "right", "bottom"]
def ak7:Fd:=fdm "joined_box" (top 14) 2 ["one", "other", "right", "bottom"]
def ab1:Fd:=fdm "joined_boxes" (top 15) 1 ["boxes", "joined", "box"]
def ax4:Fd:={ fdm "kinds_in" (top 21) 1 ["sheet", "places_by_spot", "spot"] with own:=[1] }
theorem ay6:E2 (top 21)=[.Assign [(.Name "places_by_spot" ⟨56,4,56,18⟩)] (.Dict [] [] ⟨56,21,56,23⟩) ⟨56,4,56,23⟩,.For (.Name "spot" ⟨57,8,57,12⟩) (.Subscript (.Name "sheet" ⟨57,16,57,21⟩) (.Constant (.int 2) 0 ⟨57,22,57,23⟩) ⟨57,16,57,24⟩) [.Assign [(.Subscript (.Name "places_by_spot" ⟨58,8,58,22⟩) (.Name "spot" ⟨58,23,58,27⟩) ⟨58,8,58,28⟩)] (.BinOp (.Call (.Attribute (.Name "places_by_spot" ⟨58,31,58,45⟩) "get" ⟨58,31,58,49⟩) [(.Name "spot" ⟨58,50,58,54⟩),(.Constant (.int 0) 0 ⟨58,56,58,57⟩)] [] ⟨58,31,58,58⟩) .Add (.Constant (.int 1) 0 ⟨58,61,58,62⟩) ⟨58,31,58,62⟩) ⟨58,8,58,62⟩] [] ⟨57,4,58,62⟩,.Return (some (.Call (.Name "sorted" ⟨59,11,59,17⟩) [(.Call (.Attribute (.Name "places_by_spot" ⟨59,18,59,32⟩) "items" ⟨59,18,59,38⟩) [] [] ⟨59,18,59,40⟩)] [] ⟨59,11,59,41⟩)) ⟨59,4,59,41⟩]:=by kernel_rfl
def R3:Fd:={ fdm "unlike_places" (top 22) 2 ["one", "other", "places"] with hc:=[((64,18),[0,1])] }
def rt1:az4:=("unlike_places", B7,2)::rt0
def aN7:Fd:=fdm "mean_of" (top 23) 1 ["shares", "total", "share"]
def ar2:Fd:={ fdm "mean_part" (top 24) 2 ["sheet", "part"] with hc:=[((71,19),[1])] }
def ar1:Fd:={ fdm "mean_spot" (top 25) 1 ["sheet"] with hc:=[((73,17),[0])] }
def ax3:Fd:={ fdm "seen_box" (top 26) 1 ["sheet", "places"] with hc:=[((76,24),[0])] }
def be4:Fd:=fdm "_law_cell" (top 28) 2 ["_law_script", "_law_k"] true
def aO1:Fd:=fdm "_law_drawn" (top 29) 3 ["_law_script", "_law_k", "_law_many", "_law_cell_here"] true
def be3:Fd:=fdm "_law_made" (top 30) 2 ["_law_top", "_law_under", "_law_one", "_law_by"] true
def be2:Fd:=fdm "_law_plus" (top 31) 2 ["_law_one", "_law_other"] true
def aN8:Fd:=fdm "_law_times" (top 32) 2 ["_law_one", "_law_other"] true
def aO0:Fd:=fdm "_law_share" (top 33) 2 ["_law_script", "_law_at_here", "_law_under", "_law_drawn_here"] true
def be1:Fd:={ fdm "_law_spot" (top 34) 2 ["_law_script", "_law_at_here", "_law_cover"] true with hc:=[((102,33),[2,0,1])] }
def aN9:Fd:={ fdm "_law_sheet" (top 35) 4 ["_law_script", "_law_at_here", "_law_wide", "_law_high", "_law_spots"] with hc:=[((104,17),[0,1])] }
def bu3:Fd:=fdm "_law_any" (top 36) 2 ["_law_script", "_law_at_here"]
def bO3:Fd:=fdm "_law_at" (top 37) 3 ["_law_sheet_here", "_law_x", "_law_y"]
def ar3:Fd:=fdm "_law_refused" (top 38) 1 ["_law_e", "_law_flags"]
def xt1:az3:=("_law_refused", F3)::xt0
def be0:Fd:=fdm "_law_told" (top 39) 2 ["_law_one", "_law_other", "_law_e"]
def ar4:Fd:={ fdm "_law_cleared" (top 40) 3 ["_law_script", "_law_at_here", "_law_sheet_here", "_law_clear", "_law_spots", "_law_k", "_law_spot_here"] with own:=[4] }
def by4:Fd:={ fdm "law" (top 41) 1 ["_law_script", "_law_sheet_here", "_law_wide", "_law_high", "_law_spots", "_law_some", "_law_mean", "_law_part", "_law_whole", "_law_spot_here", "_law_seen", "_law_x", "_law_due", "_law_left", "_law_top", "_law_right", "_law_low", "_law_other", "_law_unlike", "_law_third"] with own:=[6],hc:=[((132,58),[0]),((132,36),[4]),((144,32),[11,1]),((155,36),[11,1,17])] }
structure Qs (K:PySem.W.Frag):Prop where
 h_common_divisor:KF K "common_divisor" (top 1)
 h_least_form:KF K "least_form" (top 2)
 h_added:KF K "added" (top 3)
 h_divided:KF K "divided" (top 4)
 h_are_of_one_size:KF K "are_of_one_size" (top 7)
 h_places_of:KF K "places_of" (top 8)
 h_has_place:KF K "has_place" (top 9)
 h_number_of_place:KF K "number_of_place" (top 10)
 h_spot_at:KF K "spot_at" (top 11)
 h_box_between:KF K "box_between" (top 13)
 h_joined_box:KF K "joined_box" (top 14)
 h_joined_boxes:KF K "joined_boxes" (top 15)
 h_kinds_in:KF K "kinds_in" (top 21)
 h_unlike_places:KF K "unlike_places" (top 22)
 h_mean_of:KF K "mean_of" (top 23)
 h_mean_part:KF K "mean_part" (top 24)
 h_mean_spot:KF K "mean_spot" (top 25)
 h_seen_box:KF K "seen_box" (top 26)
 h_l_cell:KF K "_law_cell" (top 28)
 h_l_drawn:KF K "_law_drawn" (top 29)
 h_l_made:KF K "_law_made" (top 30)
 h_l_plus:KF K "_law_plus" (top 31)
 h_l_times:KF K "_law_times" (top 32)
 h_l_share:KF K "_law_share" (top 33)
 h_l_spot:KF K "_law_spot" (top 34)
 h_l_sheet:KF K "_law_sheet" (top 35)
 h_l_any:KF K "_law_any" (top 36)
 h_l_at:KF K "_law_at" (top 37)
 h_l_refused:KF K "_law_refused" (top 38)
 h_l_told:KF K "_law_told" (top 39)
 h_l_cleared:KF K "_law_cleared" (top 40)
 h_law:KF K "law" (top 41)
theorem ca7{P:Program}{w:World}{K:PySem.W.Frag}{mg:Str->Option Value}(M:Md K mg zcs zbl) (C:∀rt xt,Cl K mg (zT rt xt)) (q:Qs K):∃tab,rd tab zcs zbl by4=aJ1/\∀base:Heap,TOk P w K mg base 30 tab:=by
 refine⟨?tab,?e,fun base=>?t⟩
 case t =>
  have t:TOk P w K mg base 0 tb0:=(TOk.bi TOk.nil M (by decide +kernel) bj8)
  have r:TRk P w K mg base 0 rt0:=TRk.nil
  have x:TXk P w K mg base 0 xt0:=TXk.nil
  have t:=t.add M d6 q.h_common_divisor K6
  have t:=t.add M ak6 q.h_least_form J7
  have t:=t.add M bu4 q.h_added T9
  have t:=t.add M aO2 q.h_divided T8
  have t:=t.add M Y6 q.h_are_of_one_size C5
  have t:=t.add M ar0 q.h_places_of F1
  have t:=t.add M ar5 q.h_has_place S9
  have t:=t.add M Y5 q.h_number_of_place J6
  have t:=t.add M aN6 q.h_spot_at G9
  have t:=t.add M ad1 q.h_box_between O1
  have t:=t.add M ak7 q.h_joined_box J8
  have t:=t.add M ab1 q.h_joined_boxes N0
  have t:TOk P w K mg base 12 _:=t
  have t:=t.addK M ax4 q.h_kinds_in aX9 fun X F=>(show JSs X (E2 (top 21)) _ by rw[ay6];exact bp8 F rfl (by kernel_rfl) (by kernel_rfl) rfl rfl rfl)
  have t:TOk P w K mg base 13 _:=t
  have r:TRk P w K mg base 14 rt1:=TRk.add (T:=zT rt0 xt0) (r.mono (by decide)) t (x.mono (by decide)) M (C _ _) R3 q.h_unlike_places B7
  have t:=t.add M R3 q.h_unlike_places E9
  have t:=t.add M aN7 q.h_mean_of h9
  have t:=t.add M ar2 q.h_mean_part L5
  have t:=t.add M ar1 q.h_mean_spot S7
  have t:=t.add M ax3 q.h_seen_box W1
  have t:=t.add M be4 q.h_l_cell ac7
  have t:=t.add M aO1 q.h_l_drawn D5
  have t:=t.add M be3 q.h_l_made S8
  have t:=t.add M be2 q.h_l_plus Z7
  have t:=t.add M aN8 q.h_l_times P4
  have t:=t.add M aO0 q.h_l_share T6
  have t:=t.add M be1 q.h_l_spot P5
  have t:=t.add M aN9 q.h_l_sheet i8
  have t:=t.add M bu3 q.h_l_any T7
  have t:=t.add M bO3 q.h_l_at M9
  have x:TXk P w K mg base 1 xt1:=x.add (T:=zT rt1 xt0) M (C _ _) ar3 q.h_l_refused F3
  have t:TOk P w K mg base 28 _:=t
  have t:=t.addT (T:=zT rt1 xt1) (r.mono (by decide)) (x.mono (by decide)) M (C _ _) be0 q.h_l_told E7
  have t:=t.add M ar4 q.h_l_cleared J0
  exact t
 case e=>kernel_rfl
theorem zmd{K:PySem.W.Frag}{h:Heap}{mg:Str->Option Value}{q0t0 q0t1 q0t2 q0t3 q0:Addr}{y0t0 y0t1 y0t2 y0t3 y0:Array (Option Value)}{g0t0t0 g0t0t1 g0t1t0 g0t1t1 g0t2t0 g0t2t1 g0t3t0 g0t3t1:Tok}{n0t0 n0t1 n0t2 n0t3 n0:Nat}(X:K.In h) (G:h.Ns mainGlobals mg) (p0:PySem.W.nsIn K mainGlobals "CLEAR" = some (some (.ref q0))) (r0:K.lookup q0=some ⟨.type "tuple", none,.seq #[.ref q0t0,.ref q0t1,.ref q0t2,.ref q0t3] n0,y0⟩) (r0t3:K.lookup q0t3=some ⟨.type "tuple", none,.seq #[.int 0 g0t3t0,.int 1 g0t3t1] n0t3,y0t3⟩) (r0t2:K.lookup q0t2=some ⟨.type "tuple", none,.seq #[.int 0 g0t2t0,.int 1 g0t2t1] n0t2,y0t2⟩) (r0t1:K.lookup q0t1=some ⟨.type "tuple", none,.seq #[.int 0 g0t1t0,.int 1 g0t1t1] n0t1,y0t1⟩) (r0t0:K.lookup q0t0=some ⟨.type "tuple", none,.seq #[.int 0 g0t0t0,.int 1 g0t0t1] n0t0,y0t0⟩) (z0:PySem.W.nsIn K mainGlobals "ValueError" = some none) (z1:PySem.W.nsIn K mainGlobals "enumerate" = some none) (z2:PySem.W.nsIn K mainGlobals "isinstance" = some none) (z3:PySem.W.nsIn K mainGlobals "len" = some none) (z4:PySem.W.nsIn K mainGlobals "max" = some none) (z5:PySem.W.nsIn K mainGlobals "min" = some none) (z6:PySem.W.nsIn K mainGlobals "range" = some none) (z7:PySem.W.nsIn K mainGlobals "set" = some none) (z8:PySem.W.nsIn K mainGlobals "sorted" = some none) (z9:PySem.W.nsIn K mainGlobals "tuple" = some none):Md K mg zcs zbl:=by
 refine⟨fun x v e=>PySem.W.mg_of X G e,fun x d e=>?_,fun x e=>?_⟩
 ·unfold zcs at e
  rw[List.lookup_cons]at e
  split at e
  ·rename_i q;cases e;simp only[beq_iff_eq]at q;subst q;exact⟨_,(R9 r0 rfl rfl rfl (by show 4<=1000;decide) (E4 (R9 r0t0 rfl rfl rfl (by show 2<=1000;decide) (E4 (K9 0 g0t0t0) (E4 (K9 1 g0t0t1) O9))) (E4 (R9 r0t1 rfl rfl rfl (by show 2<=1000;decide) (E4 (K9 0 g0t1t0) (E4 (K9 1 g0t1t1) O9))) (E4 (R9 r0t2 rfl rfl rfl (by show 2<=1000;decide) (E4 (K9 0 g0t2t0) (E4 (K9 1 g0t2t1) O9))) (E4 (R9 r0t3 rfl rfl rfl (by show 2<=1000;decide) (E4 (K9 0 g0t3t0) (E4 (K9 1 g0t3t1) O9))) O9))))),PySem.W.mg_of X G p0⟩
  cases e
 ·unfold zbl at e
  simp only[List.contains_cons,List.contains_nil,Bool.or_false,Bool.or_eq_true,beq_iff_eq]at e
  rcases e with e|e|e|e|e|e|e|e|e|e
  ·subst e;exact PySem.W.mg_none_of X G z0
  ·subst e;exact PySem.W.mg_none_of X G z1
  ·subst e;exact PySem.W.mg_none_of X G z2
  ·subst e;exact PySem.W.mg_none_of X G z3
  ·subst e;exact PySem.W.mg_none_of X G z4
  ·subst e;exact PySem.W.mg_none_of X G z5
  ·subst e;exact PySem.W.mg_none_of X G z6
  ·subst e;exact PySem.W.mg_none_of X G z7
  ·subst e;exact PySem.W.mg_none_of X G z8
  ·subst e;exact PySem.W.mg_none_of X G z9
theorem bQ6{l:PySem.W.OpenLaw}{q:Program}{loose:List Str}{XP:(Str->Option Value)->Heap->Prop}{YP:World->Heap->Prop}{d:DefRec}{K:Params->PySem.W.Frag}(hn:l.most=some 63) (hdf:d.params.defaults=[])
  (hY:∀(w:World) (h:Heap),YP w h->(K w.params).In h) (hd:d.name = "law")
  (F:∀(w:World) (mg:Str->Option Value) (h:Heap),(K w.params).In h->h.Ns mainGlobals mg->Md (K w.params) mg zcs zbl)
  (Q:∀w:World,Qs (K w.params)) (B:∀w:World,clB (K w.params) zcl ztb zsb znb=true)
  (M:∀ns:List Int,ns.length<=63->aJ1 [.list (ns.map PyData.int)]=some (.bool true)) :
  PySem.W.WalkO q loose XP YP l.row.toRowW d [] (fun f vs=>PySem.call f vs) :=
 L2.bi3 (n:=63) (k:=31) (x := "_law_script") (CX:=fun _=>CX0) (sp:=fun w=>spF (K w.params) 1 aJ1) hn (by decide) hdf ⟨rfl,by decide,by decide⟩ hY
  (fun w mg fa h hk hg hm=>by
   have N:=F w mg h hk hg
   have q:=Q w
   rw[hd]at hm
   obtain⟨_,e,t⟩:=ca7 N (fun rt xt=>Cl.of N (by decide +kernel) (B w)) q
   obtain⟨fd,b1,b2⟩:=bp3 N t by4 q.h_law e hm
   exact⟨fd,b1,fun base _ _=>b2 base⟩)
  (fun w H a ns hl _ hS=>⟨rfl,H,[.list (ns.map PyData.int)],.bool true,B5.refl _,⟨.ref a,[],rfl,⟨a,_,rfl,hS,Reps.ints ns⟩,rfl⟩,M ns hl,fun v H' Hf' g r=>r⟩) fun _ _ _ _ _ z=>z
end Lk12
def PySem.W.Fast.tw17418363938078927014:Unit:=()
def PySem.W.Fast.tw13414638656885503920:Unit:=()
def PySem.W.Fast.tw11114225100208499679:Unit:=()
def PySem.W.Fast.tw4031132297298961093:Unit:=()
def PySem.W.Fast.tw10391219176498165758:Unit:=()
def PySem.W.Fast.tw3676228538027622153:Unit:=()
def PySem.W.Fast.tw2748192230492378086:Unit:=()
def PySem.W.Fast.tw15916820557807079414:Unit:=()
def PySem.W.Fast.tw16755708515427562648:Unit:=()
def PySem.W.Fast.tw2777397075017677589:Unit:=()
def PySem.W.Fast.tw4446890132681443659:Unit:=()
def PySem.W.Fast.tw12026168446114015779:Unit:=()
def PySem.W.Fast.tw14947199302487430786:Unit:=()
def PySem.W.Fast.tw16305829982571220926:Unit:=()
def PySem.W.Fast.tw5735986703918475399:Unit:=()
def PySem.W.Fast.tw6823972331278085609:Unit:=()
def PySem.W.Fast.tw16286193062091015280:Unit:=()
def PySem.W.Fast.tw17771176959637572515:Unit:=()
def PySem.W.Fast.tw10961292744561371909:Unit:=()
def PySem.W.Fast.tw3679509693849392464:Unit:=()
def PySem.W.Fast.tw5208962426505595311:Unit:=()
def PySem.W.Fast.tw3943676766403288872:Unit:=()
def PySem.W.Fast.tw4995318962921311264:Unit:=()
def PySem.W.Fast.tw1711990194017502441:Unit:=()
def PySem.W.Fast.tw3246266267278882811:Unit:=()
def PySem.W.Fast.tw114129542339400611:Unit:=()
def PySem.W.Fast.tw3292728234488585166:Unit:=()
def PySem.W.Fast.tw11676891315867428220:Unit:=()
def PySem.W.Fast.tw17815952472072156804:Unit:=()
def PySem.W.Fast.tw11137617177890236377:Unit:=()
def PySem.W.Fast.tw10365843758849174894:Unit:=()
def PySem.W.Fast.tw526213622953730125:Unit:=()
def PySem.W.Fast.tw17934067551664880080:Unit:=()
def PySem.W.Fast.tw9812234335614925909:Unit:=()
def PySem.W.Fast.tw407645172092614994:Unit:=()
def PySem.W.Fast.tw10351512294765925411:Unit:=()
def PySem.W.Fast.tw4783644783000410724:Unit:=()
def PySem.W.Fast.tw8985844370484657198:Unit:=()
def PySem.W.Fast.tw5300166578807695664:Unit:=()
def PySem.W.Fast.tw3402567790371986601:Unit:=()
def PySem.W.Fast.tw2831647870893211438:Unit:=()
def PySem.W.Fast.tw1893490450275900116:Unit:=()
def PySem.W.Fast.tw10611016795985668823:Unit:=()
def PySem.W.Fast.tw17183154875710356811:Unit:=()
def PySem.W.Fast.tw9808823107289649720:Unit:=()
def PySem.W.Fast.tw16016869678317808151:Unit:=()
def PySem.W.Fast.tw5720612337475111030:Unit:=()
def PySem.W.Fast.tw1072041105916637638:Unit:=()
def PySem.W.Fast.tw5985870160593068261:Unit:=()
def PySem.W.Fast.tw15152478963945500641:Unit:=()
def PySem.W.Fast.tw2113675083240077092:Unit:=()
def PySem.W.Fast.tw2717403900113461423:Unit:=()
def PySem.W.Fast.tw739189395474792354:Unit:=()
def PySem.W.Fast.tw5419060279654052987:Unit:=()
def PySem.W.Fast.tw15186371980646099152:Unit:=()
def PySem.W.Fast.tw3105161787095224677:Unit:=()
def PySem.W.Fast.tw6686848687772882997:Unit:=()
def PySem.W.Fast.tw8314869723285322757:Unit:=()
def PySem.W.Fast.tw8180779921631947905:Unit:=()
def PySem.W.Fast.tw16431173121680063823:Unit:=()
def PySem.W.Fast.tw3371206875604807999:Unit:=()
def PySem.W.Fast.tw9051202706415046017:Unit:=()
def PySem.W.Fast.tw3669238579470837997:Unit:=()
def PySem.W.Fast.tw3274495796556597527:Unit:=()
def PySem.W.Fast.tw8652338025147549975:Unit:=()
def PySem.W.Fast.tw7466585188836532229:Unit:=()
def PySem.W.Fast.tw14773731683017759465:Unit:=()
def PySem.W.Fast.tw14689705093165684687:Unit:=()
def PySem.W.Fast.tw2544456728626119024:Unit:=()
def PySem.W.Fast.tw11369385100792950450:Unit:=()
def PySem.W.Fast.tw16009822784282874329:Unit:=()
def PySem.W.Fast.tw15610570944675415703:Unit:=()
def PySem.W.Fast.tw7161165712156601023:Unit:=()
def PySem.W.Fast.tw8062166652155000892:Unit:=()
def PySem.W.Fast.tw10711231645255600467:Unit:=()
def PySem.W.Fast.tw15354511680082744164:Unit:=()
def PySem.W.Fast.tw11430611650636636569:Unit:=()
def PySem.W.Fast.tw12139775256014834237:Unit:=()
def PySem.W.Fast.tw12674617808889866945:Unit:=()
def PySem.W.Fast.tw9444031016287728262:Unit:=()
def PySem.W.Fast.tw9750573233336901105:Unit:=()
def PySem.W.Fast.tw12988581419852858832:Unit:=()
def PySem.W.Fast.tw7166531455026269672:Unit:=()
namespace Lk12
open PySem PySem.W PyProof.Rows
set_option maxHeartbeats 0 in
open_top head for PySem.Challenge.rw_glazework_k12_counts
end Lk12
open PySem PySem.W PyProof.Rows
set_option maxRecDepth 100000 in
set_option maxHeartbeats 0 in
theorem PySem.Challenge.cw_glazework_k12_counts_holds : PySem.Challenge.rw_glazework_k12_counts.Holds := by
 refine Lk12.head ?_
 k_fill
 refine Lk12.bQ6 (l:=PySem.Challenge.rw_glazework_k12_counts) rfl rfl (fun w h Y=>PySem.W.kIn_of Y) rfl ?F ?Q ?B Lk12.main
 case F =>
  intro w mg h KX G
  refine' Lk12.zmd KX G ?p0 ?r0 ?r0t3 ?r0t2 ?r0t1 ?r0t0 ?z0 ?z1 ?z2 ?z3 ?z4 ?z5 ?z6 ?z7 ?z8 ?z9
  (case p0=>k_is);(case r0=>k_is);(case r0t3=>k_is);(case r0t2=>k_is);(case r0t1=>k_is);(case r0t0=>k_is);(case z0=>k_is);(case z1=>k_is);(case z2=>k_is);(case z3=>k_is);(case z4=>k_is);(case z5=>k_is);(case z6=>k_is);(case z7=>k_is);(case z8=>k_is);(case z9=>k_is)
 case Q =>
  intro w
  constructor
  all_goals (refine' G.bW8 ?a ?l ?c ?k;(case a=>k_is);(case l=>k_is);(case c=>k_is);(case k=>k_is))
 case B=>intro w;kernel_rfl
