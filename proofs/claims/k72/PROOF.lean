import PyProof.Rows.All
import Wide.All
import OpenK.AllK
import Wide.FinOn
import Lean
import PyProof.EqAt
import PyProof.EqKinds
import PyProof.TupleCall
import PySem.Challenge.RW_glazework_k72_whole_folios
set_option compiler.extract_closed false
noncomputable section
set_option autoImplicit true
set_option Elab.async false
set_option linter.all false
set_option maxRecDepth 100000
namespace L2
open PySem PySem.Spec PyProof.Rows
noncomputable abbrev Key:=Sum Int Str
noncomputable def ah6:Key->Value->Bool
 | .inl k,v=>Value.isInt k v
 | .inr x,v=>Value.isStrOf x v
noncomputable def cl1(w:World):Key->Int
 | .inl k=>hashInt k
 | .inr x=>hashStr w x
theorem K9:∀{k:Key}{v:Value},ah6 k v=true->(∃i t,k=Sum.inl i/\v=Value.int i t)\/(∃x t,k=Sum.inr x/\v=Value.str x t)
 | .inl i,v,h=>by
  obtain⟨t,e⟩:=Value.isInt_shape (k:=i) (v:=v) h
  exact .inl ⟨i,t,rfl,e⟩
 | .inr x,v,h=>by
  obtain⟨t,e⟩:=Value.isStrOf_shape (x:=x) (v:=v) h
  exact .inr ⟨x,t,rfl,e⟩
theorem aS1(i:Int) (t:Tok):ah6 (.inl i) (.int i t)=true:=by simp[ah6,Value.isInt]
theorem aS0(x:Str) (t:Tok):ah6 (.inr x) (.str x t)=true:=by simp[ah6,Value.isStrOf]
theorem bP3(a b:Int):decide ((Sum.inl a:Key)=Sum.inl b)=(a==b):=by
 by_cases e:a=b
 ·subst e;simp
 ·have h:¬(Sum.inl a:Key)=Sum.inl b:=fun q=>e (Sum.inl.inj q)
  rw[decide_eq_false h]
  exact(beq_eq_false_iff_ne.mpr e).symm
theorem bf3(a b:Str):decide ((Sum.inr a:Key)=Sum.inr b)=decide (a=b):=by
 by_cases e:a=b
 ·subst e;simp
 ·have h:¬(Sum.inr a:Key)=Sum.inr b:=fun q=>e (Sum.inr.inj q)
  rw[decide_eq_false h,decide_eq_false e]
theorem bP2(a:Int) (b:Str):decide ((Sum.inl a:Key)=Sum.inr b)=false:=decide_eq_false (fun q=>nomatch q)
theorem bP1(a:Str) (b:Int):decide ((Sum.inr a:Key)=Sum.inl b)=false:=decide_eq_false (fun q=>nomatch q)
noncomputable def C8(prog:Program) (w:World):PySem.KeyKind prog w Key where
 is:=ah6
 hash:=cl1 w
 inj:=fun v a b ha hb=>by
  rcases K9 ha with⟨i,t,rfl,rfl⟩|⟨x,t,rfl,rfl⟩
  ·rcases K9 hb with⟨j,u,rfl,e⟩|⟨y,u,rfl,e⟩
   ·injection e with e1 _;rw[e1]
   ·exact nomatch e
  ·rcases K9 hb with⟨j,u,rfl,e⟩|⟨y,u,rfl,e⟩
   ·exact nomatch e
   ·injection e with e1 _;rw[e1]
 byValue:=fun k v h=>by
  rcases K9 h with⟨i,t,rfl,rfl⟩|⟨x,t,rfl,rfl⟩<;>rfl
 pyHash:=fun hv h=>by
  rcases K9 hv with⟨i,t,rfl,rfl⟩|⟨x,t,rfl,rfl⟩
  ·exact wpAny_pyHash_int h
  ·exact wpAny_pyHash_str h
 eqBool:=fun hu hv h=>by
  rcases K9 hu with⟨i,t,rfl,rfl⟩|⟨x,t,rfl,rfl⟩
  ·rcases K9 hv with⟨j,u,rfl,rfl⟩|⟨y,u,rfl,rfl⟩
   ·rw[bP3]at h;exact wpAny_eqBool_int h
   ·rw[bP2]at h;exact SeqAt.EqAt.int_str i t y u _ _ _ _ h
  ·rcases K9 hv with⟨j,u,rfl,rfl⟩|⟨y,u,rfl,rfl⟩
   ·rw[bP1]at h;exact SeqAt.EqAt.str_int x t j u _ _ _ _ h
   ·rw[bf3]at h;exact wpAny_eqBool_str h
 «strs»:=fun k x t v h=>by
  rcases K9 h with⟨i,u,rfl,e⟩|⟨y,u,rfl,e⟩
  ·exact nomatch e
  ·injection e with e1 _
   subst e1
   cases v<;>rfl
theorem aw7(prog:Program) (w:World) (i:Int) (t:Tok):(C8 prog w).is (.inl i) (.int i t)=true:=aS1 i t
theorem ac6(prog:Program) (w:World) (x:Str) (t:Tok):(C8 prog w).is (.inr x) (.str x t)=true:=aS0 x t
end L2
namespace L2
open PySem PySem.Spec PyProof.Rows
inductive V where
 | non|bl (b:Bool)|int (i:Int)|str (x:Str)|byt (b:Array UInt8)|flt (b:UInt64)|ref (a:Addr)|ty (n:String)
 deriving DecidableEq
noncomputable def C1:V->Value->Prop
 | .non,u=>u=Value.none
 | .bl b,u=>u=Value.bool b
 | .int i,u=>∃t,u=Value.int i t
 | .str x,u=>∃t,u=Value.str x t
 | .byt b,u=>∃t,u=Value.bytes b t
 | .flt b,u=>∃t,u=Value.float b t
 | .ref a,u=>u=Value.ref a
 | .ty n,u=>u=Value.type n
noncomputable abbrev C5:List V->List Value->Prop:=Paired C1
theorem C5.length(r:C5 xs us):xs.length=us.length:=Paired.length r
theorem C5.get:∀{xs:List V}{us:List Value}{i:Nat}{x:V},C5 xs us->xs[i]? = some x->∃u,us[i]? = some u/\C1 x u
 | _,_,_,_,.nil,e=>by simp at e
 | _,_,0,_,.cons r _,e=>by simp at e;subst e;exact⟨_,rfl,r⟩
 | _,_,i+1,x,.cons _ t,e=>by
  obtain⟨u,h1,h2⟩:=C5.get (i:=i) (x:=x) t (by simpa using e)
  exact⟨u,by simpa using h1,h2⟩
theorem C5.append:∀{xs ys:List V}{us ws:List Value},C5 xs us->C5 ys ws->C5 (xs++ys) (us++ws)
 | _,_,_,_,.nil,s=>s
 | _,_,_,_,.cons r t,s=>.cons r (C5.append t s)
theorem C5.take:∀{xs:List V}{us:List Value}(n:Nat),C5 xs us->C5 (xs.take n) (us.take n)
 | _,_,0,_=>.nil
 | _,_,_+1,.nil=>.nil
 | _,_,n+1,.cons r t=>.cons r (C5.take n t)
theorem C5.drop:∀{xs:List V}{us:List Value}(n:Nat),C5 xs us->C5 (xs.drop n) (us.drop n)
 | _,_,0,r=>r
 | _,_,_+1,.nil=>.nil
 | _,_,n+1,.cons _ t=>C5.drop n t
noncomputable def Y9:Option V->Option Value->Prop
 | some v,some u=>C1 v u
 | none,none=>True
 | _,_=>False
noncomputable def KV{κ:Type}:List (κ×V)->List (κ×Value)->Prop:=Paired fun(p:κ×V) (q:κ×Value)=>p.1=q.1/\C1 p.2 q.2
noncomputable def kV:Key->V
 | .inl i=>.int i
 | .inr x=>.str x
inductive HO where
 /-- a list -/
 | lst (xs:List V)
 /-- a tuple (never changes) -/
 | tup (xs:List V)
 /-- a dict whose keys are ints and texts;one whose keys are tuples of ints and texts (the empty one is both) -/
 | dK (kvs:List (Key×V))|dT (kvs:List (List Key×V))
 /-- a set of ints: its members,its size -/
 | set (S:Int->Bool) (n:Nat)
 /-- an instance of the class at C,its dict at dx,its attributes -/
 | ins (C dx:Addr) (fs:List (Str×V))
 /-- the dict of the instance at x -/
 | own (x:Addr)
 /-- the dict of an exception -/
 | xd (fs:List (Str×V))
 /-- a bound method,f of x -/
 | met (f x:Addr)
 /-- a range object lo,lo+1,.. below hi -/
 | rng (lo hi:Int)
 /-- a thing that is known to the object (the script;a dict while a loop walks it): read,never written while it is so -/
 | frz (o:Obj) (u:HO)
 /-- a code object's table -/
 | tbl (ps:Array Value)
 /-- any other thing,by what is true of its one object (a def of one's own: SetO a S n:=HO.ext fun h=>..) -/
 | ext (φ:Heap->Prop)
noncomputable abbrev Hp:=Addr->Option HO
noncomputable def upd(H:Hp) (a:Addr) (o:HO):Hp:=fun b=>if b=a then some o else H b
theorem A5:upd H a o a=some o:=by unfold upd;rw[if_pos rfl]
theorem A6(h:b≠a):upd H a o b=H b:=by unfold upd;rw[if_neg h]
theorem bo1:upd (upd H a o) a u=upd H a u:=by
 funext b;unfold upd;split<;>rfl
theorem al1{H:Hp}{a b:Addr}{o u:HO}(h:H a=some o) (h':H b=some u) (d:o≠u):a≠b:=by
 intro e;subst e;rw[h]at h';exact d (Option.some.inj h')
theorem A8{H:Hp}{a b:Addr}{o:HO}(h:H a=some o) (h':H b=none):a≠b:=by
 intro e;subst e;rw[h]at h';cases h'
noncomputable def ai9(h:Heap) (a:Addr) (items:Array Value):Prop:=∃o,h.get? a=some o/\o.cls=.type "tuple" /\ (∃n,o.data=.seq items n)/\o.dict=none
theorem ai9.tup{h:Heap}{a:Addr}{items:Array Value}(p:ai9 h a items):IsTup h a items:=let⟨o,e,c,d,_⟩:=p;⟨o,e,c,d⟩
theorem ai9.new(h:Heap) (items:Array Value) (n:Nat:=0):ai9 (h.push { cls:=.type "tuple", data:=.seq items n }) h.objs.size items:=⟨_,Heap.get?_push_size _ rfl,rfl,⟨_,rfl⟩,rfl⟩
section
variable (P:Program) (w:World)
noncomputable def N3(H:Hp) (h:Heap) (a:Addr):HO->Prop
 | .lst xs=>xs.length<=sizeLine/\∃(its:List Value) (n:Nat),C5 xs its/\h.get? a=some { cls:=.type "list", data:=.seq its.toArray n }
 | .tup xs=>xs.length<=sizeLine/\∃its:List Value,C5 xs its/\ai9 h a its.toArray
 | .dK kvs=>kvs.length<=sizeLine/\(a==sysModules)=false/\∃vs,KV kvs vs/\h.DictOf (C8 P w) a vs
 | .dT kvs=>kvs.length<=sizeLine/\(a==sysModules)=false/\∃xs:List (List Key×Addr×Value),
   Paired (fun(p:List Key×V) (q:List Key×Addr×Value)=>p.1=q.1/\H q.2.1=some (.tup (p.1.map kV))/\C1 p.2 q.2.2) kvs xs /\
   ∃o es ep,h.get? a=some o/\o.ExactDict/\o.data=.dict es ep/\es.toList=xs.map (entryOfKey (tupleKind (C8 P w)))/\(xs.map (·.1)).Nodup
 | .set S n=>h.SetOf (intKind P w) a S n
 | .ins C dx fs=>H dx=some (.own a)/\fs.length<=1000/\dx≠a/\h.get? a=some (PySem.W.instObj C dx) /\
   ∃mA,h.Ns1 dx mA/\(∀f,Y9 (fs.lookup f) (mA f))/\PySem.Within mA (fs.map (·.1))
 | .own _=>∃o,h.get? a=some o
 | .xd fs=>∃mA,h.Ns1 a mA/\∀f,Y9 (fs.lookup f) (mA f)
 | .rng lo hi=>∃t u v,h.get? a=some { cls:=.type "range", data:=.fields #[.int lo t,.int hi u,.int 1 v] }
 | .frz o u=>h.get? a=some o/\N3 H h a u
 | .tbl ps=>h.get? a=some { cls:=.none,data:=.fields ps }
 | .met f x=>h.get? a=some (PySem.W.methodObj (.ref f) (.ref x))
 | .ext φ=>φ h/\(∃o,h.get? a=some o)/\∀h1 h2:Heap,φ h1->(∀o,h1.get? a=some o->h2.get? a=some o)->φ h2
noncomputable def HOk(H:Hp) (h:Heap):Prop:=∀a o,H a=some o->N3 P w H h a o
end
section
variable {P:Program}{w:World}{H H':Hp}{h h':Heap}{a:Addr}{o:HO}
theorem N3.lt(x:N3 P w H h a o):a < h.objs.size:=by
 cases o with
 | lst xs=>obtain⟨_,_,_,_,e⟩:=x;exact Heap.lt_size e
 | tup xs=>obtain⟨_,_,_,p⟩:=x;exact p.tup.lt
 | dK kvs=>obtain⟨_,_,_,_,o,_,_,e,_⟩:=x;exact Heap.lt_size e
 | dT kvs=>obtain⟨_,_,_,_,o,_,_,e,_⟩:=x;exact Heap.lt_size e
 | set S n=>obtain⟨o,_,_,_,e,_⟩:=x;exact Heap.lt_size e
 | ins C dx fs=>obtain⟨_,_,_,e,_⟩:=x;exact Heap.lt_size e
 | own y=>obtain⟨_,e⟩:=x;exact Heap.lt_size e
 | xd fs=>obtain⟨_,⟨_,_,_,e,_⟩,_⟩:=x;exact Heap.lt_size e
 | rng lo hi=>obtain⟨_,_,_,e⟩:=x;exact Heap.lt_size e
 | frz ob u=>obtain⟨e,_⟩:=x;exact Heap.lt_size e
 | tbl ps=>exact Heap.lt_size (show h.get? a=some _ from x)
 | met f y=>exact Heap.lt_size (show h.get? a=some _ from x)
 | ext φ=>obtain⟨_,⟨_,e⟩,_⟩:=x;exact Heap.lt_size e
theorem Paired.mapP{α β:Type}{F G:α->β->Prop}:∀{l₁:List α}{l₂:List β},Paired F l₁ l₂->(∀a b,F a b->G a b)->Paired G l₁ l₂
 | _,_,.nil,_=>.nil
 | _,_,.cons r t,f=>.cons (f _ _ r) (Paired.mapP t f)
theorem N3.stay(x:N3 P w H h a o) (k:∀b u,(b=a\/H b=some (.own a))->h.get? b=some u->h'.get? b=some u)
  (ho:∀b,H b=some (.own a)->H' b=some (.own a)) (ht:∀b xs,H b=some (.tup xs)->H' b=some (.tup xs)):N3 P w H' h' a o:=by
 induction o with
 | lst xs=>obtain⟨z,its,n,r,e⟩:=x;exact⟨z,its,n,r,k _ _ (.inl rfl) e⟩
 | tup xs=>obtain⟨z,its,r,ob,e,c⟩:=x;exact⟨z,its,r,ob,k _ _ (.inl rfl) e,c⟩
 | dK kvs=>obtain⟨z,y,vs,r,ob,es,ep,e,c⟩:=x;exact⟨z,y,vs,r,ob,es,ep,k _ _ (.inl rfl) e,c⟩
 | dT kvs =>
  obtain⟨z,y,xs,r,ob,es,ep,e,c⟩:=x
  exact⟨z,y,xs,Paired.mapP r fun p q z=>⟨z.1,ht _ _ z.2.1,z.2.2⟩,ob,es,ep,k _ _ (.inl rfl) e,c⟩
 | set S n=>obtain⟨ob,es,ep,t,e,c⟩:=x;exact⟨ob,es,ep,t,k _ _ (.inl rfl) e,c⟩
 | ins C dx fs =>
  obtain⟨d,z,ne,e,mA,⟨od,es,ep,e2,c⟩,r⟩:=x
  exact⟨ho _ d,z,ne,k _ _ (.inl rfl) e,mA,⟨od,es,ep,k _ _ (.inr d) e2,c⟩,r⟩
 | own y=>obtain⟨ob,e⟩:=x;exact⟨ob,k _ _ (.inl rfl) e⟩
 | xd fs=>obtain⟨mA,⟨od,es,ep,e,c⟩,r⟩:=x;exact⟨mA,⟨od,es,ep,k _ _ (.inl rfl) e,c⟩,r⟩
 | rng lo hi=>obtain⟨t,u,v,e⟩:=x;exact⟨t,u,v,k _ _ (.inl rfl) e⟩
 | frz ob u ih=>obtain⟨e,q⟩:=x;exact⟨k _ _ (.inl rfl) e,ih q⟩
 | tbl ps =>
  have e:h.get? a=some { cls:=.none,data:=.fields ps }:=x
  show h'.get? a=some { cls:=.none,data:=.fields ps }
  exact k a _ (.inl rfl) e
 | met f y =>
  have e:h.get? a=some (PySem.W.methodObj (.ref f) (.ref y)):=x
  show h'.get? a=some (PySem.W.methodObj (.ref f) (.ref y))
  exact k a _ (.inl rfl) e
 | ext φ=>obtain⟨p,⟨o,e⟩,st⟩:=x;exact⟨st _ _ p fun o q=>k _ _ (.inl rfl) q,⟨o,k _ _ (.inl rfl) e⟩,st⟩
theorem HOk.lt(x:HOk P w H h) (e:H a=some o):a < h.objs.size:=(x a o e).lt
theorem HOk.fresh(x:HOk P w H h) (e:h.objs.size<=a):H a=none:=by
 cases q:H a with
 | none=>rfl
 | some u=>exact absurd (Nat.lt_of_lt_of_le (x.lt q) e) (Nat.lt_irrefl _)
theorem HOk.kept(x:HOk P w H h) (k:∀b u,h.get? b=some u->h'.get? b=some u):HOk P w H h':=fun a o e =>
 (x a o e).stay (fun b u _ q=>k b u q) (fun _ q=>q) fun _ _ q=>q
theorem HOk.laid(x:HOk P w H h) (k:∀b u,h.get? b=some u->h'.get? b=some u) (hp:h.objs.size<=a) (new:N3 P w (upd H a o) h' a o):HOk P w (upd H a o) h':=fun b u e=>by
 have hn:=x.fresh hp
 by_cases hb:b=a
 ·subst hb;rw[A5]at e;cases e;exact new
 ·rw[A6 hb]at e
  exact(x b u e).stay (fun c v _ q=>k c v q) (fun c q=>by rw[A6 (A8 q hn)];exact q) fun c xs q=>by rw[A6 (A8 q hn)];exact q
end
noncomputable def Rd(H:Hp) (a:Addr) (u:HO):Prop:=H a=some u\/∃o,H a=some (.frz o u)
theorem Rd.ok(r:Rd H a u) (x:HOk P w H h):N3 P w H h a u:=by
 rcases r with r|⟨o,r⟩
 ·exact x a u r
 ·obtain⟨_,q⟩:=x a _ r
  exact q
noncomputable def Mut:Option HO->Prop
 | some (.lst _)=>True
 | some (.dK _)=>True
 | some (.dT _)=>True
 | some (.set _ _)=>True
 | some (.ins _ _ _)=>True
 | some (.ext _)=>True
 | _=>False
section
variable {P:Program}{w:World}{H:Hp}{h h':Heap}{x e:Addr}{o':HO}
theorem HOk.write(ok:HOk P w H h) (mu:Mut (H x)) (he:e=x\/H e=some (.own x)) (k:∀b u,b≠e->h.get? b=some u->h'.get? b=some u) (heo:∃u,h'.get? e=some u)
  (new:N3 P w (upd H x o') h' x o'):HOk P w (upd H x o') h':=fun b u q=>by
 have nown:∀c y,H c=some (.own y)->c≠x:=fun c y r z=>by subst z;rw[r]at mu;exact mu
 have ntup:∀c xs,H c=some (.tup xs)->c≠x:=fun c xs r z=>by subst z;rw[r]at mu;exact mu
 by_cases hb:b=x
 ·subst hb;rw[A5]at q;cases q;exact new
 ·rw[A6 hb]at q
  by_cases hbe:b=e
  ·have q':H b=some (.own x):=by
    rcases he with z|z
    ·exact absurd (hbe.trans z) hb
    ·rw[hbe];exact z
   rw[q]at q';cases q'
   obtain⟨v,hv⟩:=heo
   exact⟨v,by rw[hbe];exact hv⟩
  ·refine(ok b u q).stay (fun c v hc r=>k c v ?_ r) (fun c r=>by rw[A6 (nown c b r)];exact r) fun c xs r=>by rw[A6 (ntup c xs r)];exact r
   rcases hc with rfl|hc
   ·exact hbe
   ·rintro rfl
    rcases he with z|z
    ·exact nown c b hc z
    ·rw[hc]at z;cases z;exact hb rfl
end
structure Un (fs ex:List Addr) (H H':Hp) (h h':Heap):Prop where
 keep:∀b o,h.get? b=some o->H b=none->b∉fs->b∉ex->h'.get? b=some o
 slot:∀b o,h.get? b=some o->H b=none->b∈fs->b∉ex->∃sl,h'.get? b=some { o with slots:=sl }
 free:∀b o,h.get? b=some o->H b=none->b∉ex->H' b=none
 there:∀b o,h.get? b=some o->b∉ex->∃o',h'.get? b=some o'
 tups:∀b xs,H b=some (.tup xs)->H' b=some (.tup xs)
 frzs:∀b o u,H b=some (.frz o u)->H' b=some (.frz o u)
 tbls:∀b ps,H b=some (.tbl ps)->∃more,H' b=some (.tbl (ps++more))
section
variable {fs fs' ex ex':List Addr}{H H1 H2:Hp}{h h1 h2 h':Heap}{a x e:Addr}{o:HO}
theorem Un.any(u:Un fs ex H H1 h h1) (q:h.get? b=some ob) (n:H b=none) (hx:b∉ex):∃sl,h1.get? b=some { ob with slots:=sl }:=by
 by_cases hb:b∈fs
 ·exact u.slot b ob q n hb hx
 ·exact⟨ob.slots,u.keep b ob q n hb hx⟩
theorem Un.kept(k:∀b u,h.get? b=some u->h'.get? b=some u):Un fs ex H H h h' :=
 ⟨fun b ob q _ _ _=>k b ob q,fun b ob q _ _ _=>⟨ob.slots,k b ob q⟩,fun _ _ _ n _=>n,fun b ob q _=>⟨ob,k b ob q⟩,fun _ _ q=>q,fun _ _ _ q=>q,fun _ ps q=>⟨#[],by rw[q];simp⟩⟩
theorem Un.refl:Un fs ex H H h h:=Un.kept fun _ _ q=>q
theorem Un.laid(k:∀b u,h.get? b=some u->h'.get? b=some u) (hp:h.objs.size<=a) (hn:H a=none):Un fs ex H (upd H a o) h h' where
 keep:=fun b u q _ _ _=>k b u q
 slot:=fun b u q _ _ _=>⟨u.slots,k b u q⟩
 free:=fun b u q n _=>by rw[A6 (Nat.ne_of_lt (Nat.lt_of_lt_of_le (Heap.lt_size q) hp))];exact n
 there:=fun b u q _=>⟨u,k b u q⟩
 tups:=fun b xs q=>by rw[A6 (A8 q hn)];exact q
 frzs:=fun b u xs q=>by rw[A6 (A8 q hn)];exact q
 tbls:=fun b ps q=>⟨#[],by rw[A6 (A8 q hn),q];simp⟩
theorem Un.write(mu:Mut (H x)) (he:e=x\/H e=some (.own x)) (k:∀b u,b≠e->h.get? b=some u->h'.get? b=some u) (heo:∃u,h'.get? e=some u):Un fs ex H (upd H x o) h h':=by
 have hx:∀b,H b=none->b≠x:=fun b n z=>by subst z;rw[n]at mu;exact mu
 have hb:∀b,H b=none->b≠e:=fun b n z=>by
  subst z
  rcases he with r|r
  ·exact hx b n r
  ·rw[n]at r;cases r
 have hm:∀b u,H b=some u->¬Mut (some u)->b≠x:=fun b u q nm z=>by subst z;rw[q]at mu;exact nm mu
 refine⟨fun b u q n _ _=>k b u (hb b n) q,fun b u q n _ _=>⟨u.slots,k b u (hb b n) q⟩,fun b u q n _=>by rw[A6 (hx b n)];exact n,fun b u q _=>?_,
  fun b xs q=>by rw[A6 (hm b _ q fun z=>z)];exact q,fun b u xs q=>by rw[A6 (hm b _ q fun z=>z)];exact q,fun b ps q=>⟨#[],by rw[A6 (hm b _ q fun z=>z),q];simp⟩⟩
 by_cases hbe:b=e
 ·subst hbe;exact heo
 ·exact⟨u,k b u hbe q⟩
end
noncomputable def trk(h:Heap) (H:Hp):List Addr:=(List.range h.objs.size).filter fun a=>(H a).isSome
noncomputable def aq9(h:Heap) (H:Hp):Heap:=PySem.W.hideAll h (trk h H)
theorem aS9(h:Heap) (H:Hp):(aq9 h H).objs.size=h.objs.size:=PySem.W.hideAll_size _ _
theorem bi4(e:h.get? b=some o) (n:H b=none):(aq9 h H).get? b=some o :=
 PySem.W.hideAll_get _ e fun hm=>by
  have q:(H b).isSome=true:=(List.mem_filter.mp hm).2
  rw[n]at q;simp at q
theorem bu0(e:(aq9 h H).get? b=some o):h.get? b=some o/\H b=none:=by
 have e':h.get? b=some o:=PySem.W.of_hideAll (trk h H) e
 refine⟨e',?_⟩
 cases q:H b with
 | none=>rfl
 | some x =>
  have hm:b∈trk h H:=List.mem_filter.mpr ⟨List.mem_range.mpr (Heap.lt_size e'),by simp[q]⟩
  have z:(aq9 h H).get? b=none:=PySem.W.hideAll_none (trk h H) hm
  rw[z]at e;cases e
noncomputable def bB1(g h:Heap) (L:Addr):List (Addr×Obj):=(List.range h.objs.size).filterMap fun a=>if a=L\/(g.get? a).isSome=true then none else(h.get? a).map fun o=>(a,o)
noncomputable def M6(g h:Heap) (L d:Addr):List (Addr×Obj):=(bB1 g h L).filter fun p=>decide (p.1≠d)
end L2
namespace L2
open PySem PySem.Spec PyProof.Rows
structure Mod (K:PySem.W.Frag) (mg:Str->Option Value) (base:Heap):Prop where
 kin:K.In base
 glob:base.Ns mainGlobals mg
 blt:∃mb,base.Ns builtinsNs mb/\∀x:Str,x ≠ "__name__" -> mb x=bootBuiltins x
 nolimit:base.NoLimit
structure Cx where
 prog:Program
 w:World
 K:PySem.W.Frag
 mg:Str->Option Value
 base:Heap
 A:Around
 N:List Str
 s₀:Shared
 H₀:Hp
 env:Env
 outer:List Env
 stack:List Env
 ex:List Addr
 fn:Str->Bool
 calm:Bool
 pn:List (Addr×Obj)
 xe:Value->Shared->Prop
noncomputable def frs(l:List Env):List Addr:=l.filterMap (·.frame)
noncomputable abbrev Cx.fs(X:Cx):List Addr:=frs X.outer
noncomputable def Vis(sc:Scope) (x:Str):Prop:=sc.names.lookup x=some .local\/sc.names.lookup x=some .cell\/sc.names.lookup x=some .free
noncomputable def Loc(sc:Scope) (x:Str):Prop:=sc.names.lookup x=some .local\/sc.names.lookup x=some .cell
noncomputable def cn4(env:Env) (h:Heap) (m:Str->Option Value) (x:Str) (u:Value):Prop :=
 (env.kindOf x=some .local/\m x=some u)\/((env.kindOf x=some .cell\/env.kindOf x=some .free)/\∃c,env.cells.lookup x=some c/\h.IsCell c (some u))
structure Cx.Ok (X:Cx):Prop where
 mod:Mod X.K X.mg X.base
 kind:X.env.scope.kind=.function
 glob:X.env.globals=mainGlobals
 blt:X.env.builtins=builtinsNs
 above:X.s₀.heap.objs.size<=X.env.locals
 inj:∀x y c,X.env.cells.lookup x=some c->X.env.cells.lookup y=some c->x=y
 has:∀x,(X.env.kindOf x=some .cell\/X.env.kindOf x=some .free)->∃c,X.env.cells.lookup x=some c
 cab:∀x c,X.fn x=true->X.env.cells.lookup x=some c->X.s₀.heap.objs.size<=c
 hd:X.calm=true->X.A.handled=none
 frames:X.A.frames=some X.stack
 stk:X.stack=X.outer\/(X.stack=X.env::X.outer/\X.env.frame=some X.env.locals)
 exf:∀b∈X.ex,b≠X.env.locals/\∀x c,X.env.cells.lookup x=some c->c≠b
 bs:∀b o,X.base.get? b=some o->X.s₀.heap.get? b=some o/\X.H₀ b=none
 bsz:X.base.objs.size<=X.s₀.heap.objs.size
 noex:∀b o,X.base.get? b=some o->b∉X.ex
 exfs:∀b∈X.ex,b∉X.fs
 funs:X.s₀.heap.FunFrames X.base X.outer
 frf:∀b∈X.fs,X.H₀ b=none
structure Inv (X:Cx) (pins:List (Addr×Obj)) (σ:List (Option V)) (H:Hp) (s:Shared):Prop where
 ok:X.Ok
 os:s.os=X.s₀.os
 bare:AllBare s.gens
 base:Un X.fs X.ex X.H₀ H X.s₀.heap s.heap
 loc:∃m,s.heap.Ns X.env.locals m/\∀(i:Nat) (x:Str) (v:V),X.N[i]? = some x->σ[i]? = some (some v)->Vis X.env.scope x->∃u,C1 v u/\cn4 X.env s.heap m x u
 cell:∀x c,X.env.cells.lookup x=some c->∃v,s.heap.IsCell c v
 free:H X.env.locals=none
 freeC:∀x c,X.env.cells.lookup x=some c->H c=none
 pin:∀p∈X.pn++pins,s.heap.get? p.1=some p.2/\H p.1=none/\p.1≠X.env.locals/\p.1∉X.fs/\∀v,p.2.data≠.cell v
 hok:HOk X.prog X.w H s.heap
 len:σ.length=X.N.length
section
variable {X:Cx}{pins:List (Addr×Obj)}{σ:List (Option V)}{H H':Hp}{s:Shared}{h':Heap}
theorem Cx.Ok.nofr(ok:X.Ok) (e:X.base.get? b=some o):b∉X.fs:=fun hb=>by
 have:=(ok.funs.mem hb).1
 rw[e]at this;cases this
theorem Inv.bs(I:Inv X pins σ H s):∀b o,X.base.get? b=some o->s.heap.get? b=some o/\H b=none:=fun b o e =>
 ⟨I.base.keep b o (I.ok.bs b o e).1 (I.ok.bs b o e).2 (I.ok.nofr e) (I.ok.noex b o e),I.base.free b o (I.ok.bs b o e).1 (I.ok.bs b o e).2 (I.ok.noex b o e)⟩
theorem Inv.bk(I:Inv X pins σ H s):∀b o,X.base.get? b=some o->s.heap.get? b=some o:=fun b o e=>(I.bs b o e).1
theorem Inv.mod(I:Inv X pins σ H s):Mod X.K X.mg X.base:=I.ok.mod
theorem Inv.kIn(I:Inv X pins σ H s):X.K.In s.heap:=I.ok.mod.kin.keeps I.bk
theorem Inv.lt(I:Inv X pins σ H s):X.env.locals < s.heap.objs.size:=let⟨_,hn,_⟩:=I.loc;hn.lt
theorem Inv.sz(I:Inv X pins σ H s):X.s₀.heap.objs.size<=s.heap.objs.size:=Nat.le_trans I.ok.above (Nat.le_of_lt I.lt)
theorem Inv.nofs(I:Inv X pins σ H s) (h:s.heap.objs.size<=a):a∉X.fs:=fun hb=>by
 obtain⟨_,o,ho,_⟩:=I.ok.funs.mem hb
 exact absurd (Nat.lt_of_lt_of_le (Heap.lt_size ho) (Nat.le_trans I.sz h)) (Nat.lt_irrefl _)
theorem Inv.cne(I:Inv X pins σ H s):∀x c,X.env.cells.lookup x=some c->c≠X.env.locals:=fun x c e z=>by
 obtain⟨v,o,ho,hd⟩:=I.cell x c e
 obtain⟨m,⟨o',es,ep,ho',hd',_⟩,_⟩:=I.loc
 rw[z,ho']at ho;cases ho;rw[hd']at hd;cases hd
theorem Inv.funs(I:Inv X pins σ H s):s.heap.FunFrames X.base X.outer:=by
 have all:∀(l:List Env),(∀b∈frs l,b∈X.fs)->X.s₀.heap.FunFrames X.base l->s.heap.FunFrames X.base l:=by
  intro l
  induction l with
  | nil=>intro _ _;trivial
  | cons env r ih =>
   intro hs hl
   obtain⟨hk,⟨L,o,hf,hn,ho,hd⟩,hr⟩:=hl
   have hL:L∈X.fs:=hs L (by unfold frs;rw[List.filterMap_cons,hf];exact List.mem_cons_self)
   obtain⟨sl,e⟩:=I.base.slot L o ho (I.ok.frf L hL) hL fun z=>I.ok.exfs L z hL
   exact⟨hk,⟨L,_,hf,hn,e,hd⟩,ih (fun b hb=>hs b (by unfold frs;rw[List.filterMap_cons,hf];exact List.mem_cons_of_mem _ hb)) hr⟩
 exact all X.outer (fun _ hb=>hb) I.ok.funs
theorem Inv.stack(I:Inv X pins σ H s):s.heap.FunFrames X.base X.stack:=by
 rcases I.ok.stk with e|⟨e,hf⟩
 ·rw[e];exact I.funs
 ·rw[e]
  obtain⟨m,hn,_⟩:=I.loc
  refine .cons (by rw[I.ok.kind];decide) hf hn ?_ I.funs
  exact Heap.get?_none_of_le (Nat.le_trans I.ok.bsz I.ok.above)
theorem Inv.stkSub(I:Inv X pins σ H s):∀b∈frs X.stack,b∈X.env.locals::X.fs:=fun b hb=>by
 rcases I.ok.stk with e|⟨e,hf⟩
 ·rw[e]at hb;exact List.mem_cons_of_mem _ hb
 ·rw[e]at hb
  unfold frs at hb
  rw[List.filterMap_cons,hf]at hb
  exact hb
theorem Inv.stkFree(I:Inv X pins σ H s):∀b∈frs X.stack,H b=none:=fun b hb=>by
 rcases List.mem_cons.mp (I.stkSub b hb) with e|hb
 ·rw[e];exact I.free
 ·obtain⟨_,o,ho,_⟩:=I.ok.funs.mem hb
  exact I.base.free b o ho (I.ok.frf b hb) fun z=>I.ok.exfs b z hb
theorem Inv.step{g':Array GenState}{t':Nat}{d':Drawn}{ch:List Addr}(I:Inv X pins σ H s)
  (hch:∀b∈ch,(b∈X.ex\/X.s₀.heap.objs.size<=b)/\b≠X.env.locals/\(∀x c,X.env.cells.lookup x=some c->c≠b)/\∀p∈X.pn++pins,p.1≠b)
  (keep:∀b o,b≠X.env.locals->b∉X.fs->b∉ch->s.heap.get? b=some o->H b=none->h'.get? b=some o)
  (slot:∀b o,b≠X.env.locals->b∈X.fs->b∉ch->s.heap.get? b=some o->H b=none->∃sl,h'.get? b=some { o with slots:=sl }) (free:∀b o,b∉ch->s.heap.get? b=some o->H b=none->H' b=none)
  (there:∀b o,b∉ch->s.heap.get? b=some o->∃o',h'.get? b=some o')
  (tups:∀b xs,H b=some (.tup xs)->H' b=some (.tup xs)) (frzs:∀b o u,H b=some (.frz o u)->H' b=some (.frz o u)) (tbls:∀b ps,H b=some (.tbl ps)->∃more,H' b=some (.tbl (ps++more)))
  (ns:∀m,s.heap.Ns X.env.locals m->h'.Ns X.env.locals m) (hok:HOk X.prog X.w H' h') (hg:AllBare g') :
  Inv X pins σ H' { s with heap:=h',gens:=g',drawn:=d',toks:=t' }:=by
 have neL:∀b o,X.s₀.heap.get? b=some o->b≠X.env.locals:=fun b o e=>Nat.ne_of_lt (Nat.lt_of_lt_of_le (Heap.lt_size e) I.ok.above)
 have neC:∀b o,X.s₀.heap.get? b=some o->b∉X.ex->b∉ch:=fun b o e hx hb=>by
  rcases(hch b hb).1 with z|z
  ·exact hx z
  ·exact absurd (Nat.lt_of_lt_of_le (Heap.lt_size e) z) (Nat.lt_irrefl _)
 have cellK:∀x c,X.env.cells.lookup x=some c->∀v,s.heap.IsCell c v->h'.IsCell c v:=fun x c e v ⟨o,ho,hd⟩=>by
  have nch:c∉ch:=fun z=>(hch c z).2.2.1 x c e rfl
  by_cases hc:c∈X.fs
  ·obtain⟨sl,q⟩:=slot c o (I.cne x c e) hc nch ho (I.freeC x c e)
   exact⟨_,q,hd⟩
  ·exact⟨o,keep c o (I.cne x c e) hc nch ho (I.freeC x c e),hd⟩
 refine⟨I.ok,I.os,hg,⟨fun b o e n hb hx=>?_,fun b o e n hb hx=>?_,fun b o e n hx=>?_,fun b o e hx=>?_,fun b xs e=>tups b xs (I.base.tups b xs e),fun b o xs e=>frzs b o xs (I.base.frzs b o xs e),fun b ps e=>?_⟩,?_,fun x c e=>?_,?_,fun x c e=>?_,fun p hp=>?_,hok,I.len⟩
 ·exact keep b o (neL b o e) hb (neC b o e hx) (I.base.keep b o e n hb hx) (I.base.free b o e n hx)
 ·obtain⟨sl,e1⟩:=I.base.slot b o e n hb hx
  obtain⟨sl',e2⟩:=slot b _ (neL b o e) hb (neC b o e hx) e1 (I.base.free b o e n hx)
  exact⟨sl',e2⟩
 ·obtain⟨o',e1⟩:=I.base.there b o e hx
  exact free b o' (neC b o e hx) e1 (I.base.free b o e n hx)
 ·obtain⟨o',e1⟩:=I.base.there b o e hx
  exact there b o' (neC b o e hx) e1
 ·obtain⟨m1,e1⟩:=I.base.tbls b ps e
  obtain⟨m2,e2⟩:=tbls b _ e1
  exact⟨m1++m2,by rw[e2,Array.append_assoc]⟩
 ·obtain⟨m,hn,hl⟩:=I.loc
  refine⟨m,ns m hn,fun i x v e1 e2 e3=>?_⟩
  obtain⟨u,r,l⟩:=hl i x v e1 e2 e3
  refine⟨u,r,?_⟩
  rcases l with l|⟨k,c,e,z⟩
  ·exact .inl l
  ·exact .inr ⟨k,c,e,cellK x c e _ z⟩
 ·obtain⟨v,z⟩:=I.cell x c e
  exact⟨v,cellK x c e v z⟩
 ·obtain⟨m,⟨o,_,_,ho,_⟩,_⟩:=I.loc
  exact free _ o (fun z=>(hch _ z).2.1 rfl) ho I.free
 ·obtain⟨v,o,ho,hd⟩:=I.cell x c e
  exact free c o (fun z=>(hch c z).2.2.1 x c e rfl) ho (I.freeC x c e)
 ·obtain⟨e,n,ne,nf,d⟩:=I.pin p hp
  have nch:p.1∉ch:=fun z=>(hch p.1 z).2.2.2 p hp rfl
  exact⟨keep p.1 p.2 ne nf nch e n,free p.1 p.2 nch e n,ne,nf,d⟩
theorem Inv.un{t':Nat}(I:Inv X pins σ H s) (u:Un X.fs [] H H' s.heap h') (hok:HOk X.prog X.w H' h'):Inv X pins σ H' { s with heap:=h',toks:=t' }:=by
 obtain⟨m,⟨o,es,ep,ho,r⟩,_⟩:=id I.loc
 obtain⟨sl,hL⟩:=u.any ho I.free (by simp)
 exact I.step (g':=s.gens) (d':=s.drawn) (ch:=[]) (fun _ z=>nomatch z) (fun b o _ hb _ e n=>u.keep b o e n hb (by simp)) (fun b o _ hb _ e n=>u.slot b o e n hb (by simp)) (fun b o _ e n=>u.free b o e n (by simp)) (fun b o _ e=>u.there b o e (by simp)) u.tups u.frzs u.tbls (fun m' hm=>by
  obtain⟨o',es',ep',ho',r'⟩:=hm
  rw[ho]at ho';cases ho'
  exact⟨_,es',ep',hL,r'⟩) hok I.bare
theorem Inv.call{g':Array GenState}{t':Nat}{d':Drawn}{ch:List Addr}(I:Inv X pins σ H s) (u:Un (frs X.stack) ch H H' s.heap h') (hok:HOk X.prog X.w H' h') (hg:AllBare g')
  (hch:∀b∈ch,(b∈X.ex\/X.s₀.heap.objs.size<=b)/\b≠X.env.locals/\(∀x c,X.env.cells.lookup x=some c->c≠b)/\∀p∈X.pn++pins,p.1≠b) :
  Inv X pins σ H' { s with heap:=h',gens:=g',drawn:=d',toks:=t' }:=by
 obtain⟨m,⟨o,es,ep,ho,r⟩,_⟩:=id I.loc
 obtain⟨sl,hL⟩:=u.any ho I.free fun z=>(hch _ z).2.1 rfl
 exact I.step (ch:=ch) hch (fun b o hL hb hc e n=>u.keep b o e n (fun z=>(List.mem_cons.mp (I.stkSub b z)).elim hL hb) hc) (fun b o _ _ hc e n=>u.any e n hc) (fun b o hc e n=>u.free b o e n hc) (fun b o hc e=>u.there b o e hc) u.tups u.frzs u.tbls (fun m' hm=>by
  obtain⟨o',es',ep',ho',r'⟩:=hm
  rw[ho]at ho';cases ho'
  exact⟨_,es',ep',hL,r'⟩) hok hg
theorem Inv.turned{t':Nat}{it:Addr}(I:Inv X pins σ H s) (k:∀b o,b≠it->s.heap.get? b=some o->h'.get? b=some o) (hn:H it=none) (hL:it≠X.env.locals)
  (h1:it∈X.ex\/X.s₀.heap.objs.size<=it) (h2:∀x c,X.env.cells.lookup x=some c->c≠it) (h3:∀p∈X.pn++pins,p.1≠it):Inv X pins σ H { s with heap:=h',toks:=t' }:=by
 have nit:∀b u,H b=some u->b≠it:=fun b u e z=>by rw[z,hn]at e;cases e
 refine I.step (g':=s.gens) (d':=s.drawn) (ch:=[it]) (fun b hb=>?_) (fun b o _ _ hc e _=>k b o (fun z=>hc (by simp[z])) e) (fun b o _ _ hc e _=>⟨o.slots,k b o (fun z=>hc (by simp[z])) e⟩) (fun _ _ _ _ n=>n)
  (fun b o hc e=>⟨o,k b o (fun z=>hc (by simp[z])) e⟩) (fun _ _ e=>e) (fun _ _ _ e=>e) (fun b ps e=>⟨#[],by rw[e];simp⟩) (fun m hm=>?_) (fun b u e=>?_) I.bare
 ·have e:b=it:=by simpa using hb
  subst e
  exact⟨h1,hL,h2,h3⟩
 ·obtain⟨o,es,ep,ho,r⟩:=hm
  exact⟨o,es,ep,k _ o (Ne.symm hL) ho,r⟩
 ·refine(I.hok b u e).stay (fun c v hc q=>k c v ?_ q) (fun _ q=>q) fun _ _ q=>q
  rcases hc with z|z
  ·rw[z];exact nit b u e
  ·exact nit c _ z
theorem Inv.tok(I:Inv X pins σ H s) (t:Nat):Inv X pins σ H { s with toks:=t }:=I.un (h':=s.heap) (t':=t) Un.refl I.hok
theorem Inv.kept(I:Inv X pins σ H s) (k:∀b u,s.heap.get? b=some u->h'.get? b=some u):Inv X pins σ H { s with heap:=h',toks:=t' }:=I.un (Un.kept k) (I.hok.kept k)
theorem Inv.laid(I:Inv X pins σ H s) (k:∀b u,s.heap.get? b=some u->h'.get? b=some u) (hp:s.heap.objs.size<=a) (new:N3 X.prog X.w (upd H a o) h' a o) :
  Inv X pins σ (upd H a o) { s with heap:=h',toks:=t' }:=I.un (Un.laid k hp (I.hok.fresh hp)) (I.hok.laid k hp new)
theorem Inv.write(I:Inv X pins σ H s) (mu:Mut (H x)) (he:e=x\/H e=some (.own x)) (k:∀b u,b≠e->s.heap.get? b=some u->h'.get? b=some u) (heo:∃u,h'.get? e=some u)
  (new:N3 X.prog X.w (upd H x o) h' x o):Inv X pins σ (upd H x o) { s with heap:=h',toks:=t' }:=I.un (Un.write mu he k heo) (I.hok.write mu he k heo new)
theorem Inv.pins_of(I:Inv X pins σ H s) (h:∀p∈pins',s.heap.get? p.1=some p.2/\H p.1=none/\p.1≠X.env.locals/\p.1∉X.fs/\∀v,p.2.data≠.cell v):Inv X pins' σ H s :=
 ⟨I.ok,I.os,I.bare,I.base,I.loc,I.cell,I.free,I.freeC,fun p hp=>(List.mem_append.mp hp).elim (fun z=>I.pin p (List.mem_append_left _ z)) (h p),I.hok,I.len⟩
theorem av8{N:List Str}(hN:N.Nodup) {i j:Nat}{x:Str}(a:N[i]? = some x) (b:N[j]? = some x):i=j:=by
 obtain⟨h1,e1⟩:=List.getElem?_eq_some_iff.mp a
 obtain⟨h2,e2⟩:=List.getElem?_eq_some_iff.mp b
 exact(List.getElem_inj hN).mp (e1.trans e2.symm)
theorem ak5(I:Inv X pins σ H s) (hN:X.N.Nodup) (hi:X.N[i]? = some x) (hx:Loc X.env.scope x) (r:C1 v u)
  (h:∀s',Inv X pins (σ.set i (some v)) H s'->(∃a,Heap.SameBut a s.heap s'.heap/\(a=X.env.locals\/X.env.cells.lookup x=some a))->Q () s') (hf:X.fn x=true\/X.env.scope.names.lookup x=some .local:=by first|exact .inl rfl|exact .inr rfl|assumption):wpAny M A (storeName X.env x u) Q E s:=by
 obtain⟨m,hn,hl⟩:=id I.loc
 have hcls:(X.env.scope.kind == .class || (X.env.scope.kind == .module&&X.env.locals != X.env.globals))=false:=by rw[I.ok.kind];rfl
 have hiσ:i < σ.length:=by rw[I.len];exact(List.getElem?_eq_some_iff.mp hi).1
 have cne:=I.cne
 have tracked:∀{a:Addr}{h':Heap},(∃o,s.heap.get? a=some o/\H a=none)->Heap.SameBut a s.heap h'->HOk X.prog X.w H h':=fun{a h'} ha hs b ob e=>by
  obtain⟨_,_,hfree⟩:=ha
  refine(I.hok b ob e).stay (fun c w' hc q=>(hs.2 c ?_).trans q) (fun _ q=>q) fun _ _ q=>q
  rintro rfl
  rcases hc with rfl|hc
  ·rw[hfree]at e;cases e
  ·rw[hfree]at hc;cases hc
 rcases hx with hk|hk
 ·refine wpAny_storeName_local hk hn (fun h' hn' hs=>?_) hcls
  obtain⟨oL,_,_,hoL,_⟩:=id hn
  refine h _ ⟨I.ok,I.os,I.bare,⟨fun b o e n hb hx=>?_,fun b o e n hb hx=>?_,I.base.free,fun b o e hx=>?_,I.base.tups,I.base.frzs,I.base.tbls⟩,⟨_,hn',fun j y v' e1 e2 e3=>?_⟩,fun y c e=>?_,I.free,I.freeC,fun p hp=>?_,tracked ⟨oL,hoL,I.free⟩ hs,by simpa using I.len⟩ ⟨_,hs,.inl rfl⟩
  ·exact(hs.2 b (Nat.ne_of_lt (Nat.lt_of_lt_of_le (Heap.lt_size e) I.ok.above))).trans (I.base.keep b o e n hb hx)
  ·obtain⟨sl,e1⟩:=I.base.slot b o e n hb hx
   exact⟨sl,(hs.2 b (Nat.ne_of_lt (Nat.lt_of_lt_of_le (Heap.lt_size e) I.ok.above))).trans e1⟩
  ·obtain⟨o',e1⟩:=I.base.there b o e hx
   exact⟨o',(hs.2 b (Nat.ne_of_lt (Nat.lt_of_lt_of_le (Heap.lt_size e) I.ok.above))).trans e1⟩
  ·by_cases hj:j=i
   ·subst hj
    rw[hi]at e1;cases e1
    rw[List.getElem?_set_self hiσ]at e2
    cases e2
    exact⟨u,r,.inl ⟨hk,by simp⟩⟩
   ·rw[List.getElem?_set_ne (Ne.symm hj)]at e2
    obtain⟨u',r',q⟩:=hl j y v' e1 e2 e3
    refine⟨u',r',?_⟩
    rcases q with⟨k,e⟩|⟨k,c,e,z⟩
    ·refine .inl ⟨k,?_⟩
     have:y≠x:=fun e=>hj (av8 hN e1 (e ▸ hi))
     simp[this,e]
    ·exact .inr ⟨k,c,e,z.sameBut hs (cne y c e)⟩
  ·obtain⟨w',z⟩:=I.cell y c e
   exact⟨w',z.sameBut hs (cne y c e)⟩
  ·obtain⟨e,n,ne,nf,d⟩:=I.pin p hp
   exact⟨(hs.2 p.1 ne).trans e,n,ne,nf,d⟩
 ·have hfn:X.fn x=true:=by
   rcases hf with z|z
   ·exact z
   ·rw[z]at hk;cases hk
  obtain⟨c,hc⟩:=I.ok.has x (.inl hk)
  obtain⟨w',z⟩:=I.cell x c hc
  refine wpAny_storeName_cell I.ok.kind hk hc z (fun h' hc' hs=>?_)
  obtain⟨oc,hoc,hocd⟩:=id z
  refine h { s with heap:=h' } ⟨I.ok,I.os,I.bare,⟨fun b o e n hb hx=>?_,fun b o e n hb hx=>?_,I.base.free,fun b o e hx=>?_,I.base.tups,I.base.frzs,I.base.tbls⟩,⟨m,hn.sameBut hs (Ne.symm (cne x c hc)),fun j y v' e1 e2 e3=>?_⟩,fun y c' e=>?_,I.free,I.freeC,fun p hp=>?_,tracked ⟨oc,hoc,I.freeC x c hc⟩ hs,by simpa using I.len⟩ ⟨c,hs,.inr hc⟩
  ·exact(hs.2 b (Nat.ne_of_lt (Nat.lt_of_lt_of_le (Heap.lt_size e) (I.ok.cab x c hfn hc)))).trans (I.base.keep b o e n hb hx)
  ·obtain⟨sl,e1⟩:=I.base.slot b o e n hb hx
   exact⟨sl,(hs.2 b (Nat.ne_of_lt (Nat.lt_of_lt_of_le (Heap.lt_size e) (I.ok.cab x c hfn hc)))).trans e1⟩
  ·obtain⟨o',e1⟩:=I.base.there b o e hx
   exact⟨o',(hs.2 b (Nat.ne_of_lt (Nat.lt_of_lt_of_le (Heap.lt_size e) (I.ok.cab x c hfn hc)))).trans e1⟩
  ·by_cases hj:j=i
   ·subst hj
    rw[hi]at e1;cases e1
    rw[List.getElem?_set_self hiσ]at e2
    cases e2
    exact⟨u,r,.inr ⟨.inl hk,c,hc,hc'⟩⟩
   ·rw[List.getElem?_set_ne (Ne.symm hj)]at e2
    obtain⟨u',r',q⟩:=hl j y v' e1 e2 e3
    refine⟨u',r',?_⟩
    rcases q with q|⟨k,c',e,z'⟩
    ·exact .inl q
    ·refine .inr ⟨k,c',e,z'.sameBut hs ?_⟩
     rintro rfl
     exact hj (av8 hN e1 (I.ok.inj _ _ _ e hc ▸ hi))
  ·by_cases hcc:c'=c
   ·subst hcc;exact⟨_,hc'⟩
   ·obtain⟨w2,z2⟩:=I.cell y c' e
    exact⟨w2,z2.sameBut hs hcc⟩
  ·obtain⟨e,n,ne,nf,d⟩:=I.pin p hp
   refine⟨(hs.2 p.1 ?_).trans e,n,ne,nf,d⟩
   intro q
   rw[q,hoc]at e
   have q':oc=p.2:=Option.some.inj e
   exact d w' (by rw[← q'];exact hocd)
theorem m8(I:Inv X pins σ H s) (hN:X.N.Nodup) (hi:X.N[i]? = some x) (hx:Loc X.env.scope x) (r:C1 v u)
  (h:∀s',Inv X pins (σ.set i (some v)) H s'->Q () s') (hf:X.fn x=true\/X.env.scope.names.lookup x=some .local:=by first|exact .inl rfl|exact .inr rfl|assumption):wpAny M A (storeName X.env x u) Q E s :=
 ak5 I hN hi hx r (fun s' I' _=>h s' I') hf
theorem Inv.call'(I:Inv X pins σ H s) (ho:s'.os=s.os) (u:Un (frs X.stack) ch H H' s.heap s'.heap) (hok:HOk X.prog X.w H' s'.heap) (hg:AllBare s'.gens)
  (hch:∀b∈ch,(b∈X.ex\/X.s₀.heap.objs.size<=b)/\b≠X.env.locals/\(∀x c,X.env.cells.lookup x=some c->c≠b)/\∀p∈X.pn++pins,p.1≠b):Inv X pins σ H' s':=by
 obtain⟨h',g',d',t',o'⟩:=s'
 have e:o'=s.os:=ho
 subst e
 exact I.call (g':=g') (t':=t') (d':=d') u hok hg hch
end
noncomputable abbrev XK:=Value->Option Addr->Hp->Prop
noncomputable abbrev St:=List (Option V)
noncomputable abbrev VK:=V->Hp->Prop
noncomputable abbrev TE:=St->Hp->VK->Prop
noncomputable abbrev TT:=St->Hp->(Bool->Hp->Prop)->Prop
noncomputable abbrev TA:=St->Hp->(List V->Hp->Prop)->Prop
structure Ends where
 nx:St->Hp->Prop
 rt:VK
 bk:St->Hp->Prop:=fun _ _=>False
 ct:St->Hp->Prop:=fun _ _=>False
noncomputable abbrev TS:=Ends->St->Hp->Prop
noncomputable def EP(X:Cx) (pins:List (Addr×Obj)) (σ:St) (Q:VK) (u:Value) (s':Shared):Prop:=∃v H',Inv X pins σ H' s'/\C1 v u/\Q v H'
noncomputable def TP(X:Cx) (pins:List (Addr×Obj)) (σ:St) (Q:Bool->Hp->Prop) (b:Bool) (s':Shared):Prop:=∃H',Inv X pins σ H' s'/\Q b H'
noncomputable def AP(X:Cx) (pins:List (Addr×Obj)) (σ:St) (Q:List V->Hp->Prop) (us:List Value) (s':Shared):Prop:=∃vs H',Inv X pins σ H' s'/\C5 vs us/\Q vs H'
noncomputable def SP(X:Cx) (pins:List (Addr×Obj)) (D:Ends) (f:Flow) (s':Shared):Prop :=
 match f with
 | .next=>∃σ' H',Inv X pins σ' H' s'/\D.nx σ' H'
 | .brk=>∃σ' H',Inv X pins σ' H' s'/\D.bk σ' H'
 | .cont=>∃σ' H',Inv X pins σ' H' s'/\D.ct σ' H'
 | .ret u=>∃v σ' H',Inv X pins σ' H' s'/\C1 v u/\D.rt v H'
noncomputable def PE(X:Cx) (e:Expr) (t:TE):Prop :=
 ∀(pins:List (Addr×Obj)) (s:Shared) (σ:St) (H:Hp) (Q:VK),Inv X pins σ H s->t σ H Q->wpAny (model X.prog X.w) X.A (eval e X.env) (EP X pins σ Q) X.xe s
noncomputable def PT(X:Cx) (e:Expr) (t:TT):Prop :=
 ∀(pins:List (Addr×Obj)) (s:Shared) (σ:St) (H:Hp) (Q:Bool->Hp->Prop),Inv X pins σ H s->t σ H Q->wpAny (model X.prog X.w) X.A (isTrue e X.env (eval e X.env)) (TP X pins σ Q) X.xe s
noncomputable def PW(X:Cx) (e:Expr) (t:TT):Prop :=
 ∀(whole:Sem Value) (pins:List (Addr×Obj)) (s:Shared) (σ:St) (H:Hp) (Q:Bool->Hp->Prop),Inv X pins σ H s->t σ H Q->wpAny (model X.prog X.w) X.A (isTrue e X.env whole) (TP X pins σ Q) X.xe s
theorem PW.pt(h:PW X e t):PT X e t:=h _
noncomputable def PA(X:Cx) (es:List Expr) (t:TA):Prop :=
 ∀(pos:Pos) (pins:List (Addr×Obj)) (s:Shared) (σ:St) (H:Hp) (Q:List V->Hp->Prop),Inv X pins σ H s->t σ H Q->wpAny (model X.prog X.w) X.A (spliced (backTo pos (starEach es X.env))) (AP X pins σ Q) X.xe s
noncomputable def PS(X:Cx) (st:Stmt) (t:TS):Prop :=
 ∀(pins:List (Addr×Obj)) (s:Shared) (σ:St) (H:Hp) (D:Ends),Inv X pins σ H s->t D σ H->wpAny (model X.prog X.w) X.A (exec st X.env) (SP X pins D) X.xe s
noncomputable def PSs(X:Cx) (st:List Stmt) (t:TS):Prop :=
 ∀(pins:List (Addr×Obj)) (s:Shared) (σ:St) (H:Hp) (D:Ends),Inv X pins σ H s->t D σ H->wpAny (model X.prog X.w) X.A (execs st X.env) (SP X pins D) X.xe s
theorem thn{α:Type}{t:Sem α}{Q Q':α->Shared->Prop}{M:Model}{A:Around}{E:Value->Shared->Prop}{s:Shared}(h:wpAny M A t Q E s) (hQ:∀a s,Q a s->Q' a s):wpAny M A t Q' E s:=wpAny_mono h hQ fun _ _ x=>x
end L2
namespace L2
open PySem PySem.Spec PyProof.Rows
section
variable {X:Cx}
theorem bin{a b:Expr}{ta tb:TE}(ha:PE X a ta) (hb:PE X b tb) {pins:List (Addr×Obj)}{s:Shared}{σ:St}{H:Hp}{R:V->V->Hp->Prop}(I:Inv X pins σ H s) (h:ta σ H fun x H1=>tb σ H1 fun y H2=>R x y H2)
  {α:Type}{Q:α->Shared->Prop}{f:Value->Value->Sem α}
  (hf:∀v u s2 x y H2,Inv X pins σ H2 s2->C1 x v->C1 y u->R x y H2->wpAny (model X.prog X.w) X.A (f v u) Q X.xe s2) :
  wpAny (model X.prog X.w) X.A (eval a X.env) (fun v s₁=>wpAny (model X.prog X.w) X.A (eval b X.env) (fun u s₂=>wpAny (model X.prog X.w) X.A (f v u) Q X.xe s₂) X.xe s₁) X.xe s:=by
 refine thn (ha pins s σ H _ I h) fun v s1 ⟨x,H1,I1,r1,q1⟩=>?_
 refine thn (hb pins s1 σ H1 _ I1 q1) fun u s2 ⟨y,H2,I2,r2,q2⟩=>?_
 exact hf v u s2 x y H2 I2 r1 r2 q2
noncomputable def bI1(i:Nat):TE:=fun σ H Q=>∃v,σ[i]? = some (some v)/\Q v H
noncomputable def tC(v:V):TE:=fun _ H Q=>Q v H
theorem Q9(hN:X.N[i]? = some x) (hv:Vis X.env.scope x) (hd:(x==("__debug__" : Str))=false:=by decide) (hcd:(x==("__classdict__" : Str))=false:=by decide):PE X (.Name x pos) (bI1 i):=by
 intro pins s σ H Q I h
 obtain⟨v,e,h⟩:=h
 obtain⟨m,hn,hl⟩:=I.loc
 obtain⟨u,r,l⟩:=hl i x v hN e hv
 have fin:EP X pins σ Q u s:=⟨v,H,I,r,h⟩
 rcases l with⟨hk,hm⟩|⟨hk,c,hc,hcell⟩
 ·exact wpAny_Name (wpAny_loadName_local I.ok.kind hk hn hm fin) hd
 ·rcases hk with hk|hk
  ·exact wpAny_Name (wpAny_loadName_cell I.ok.kind hk hc hcell fin) hd
  ·exact wpAny_Name (wpAny_loadName_free I.ok.kind hk hc hcell fin hcd) hd
theorem bb9{i j pos}:PE X (.Constant (.int i) j pos) (tC (.int i)):=fun _ _ _ H _ I h=>wpAny_Constant_int ⟨.int i,H,I.tok _,⟨_,rfl⟩,h⟩
theorem cb9{b j pos}:PE X (.Constant (.bool b) j pos) (tC (.bl b)):=fun _ _ _ H _ I h=>Constant_bool ⟨.bl b,H,I,rfl,h⟩
theorem bL0{j pos}:PE X (.Constant .none j pos) (tC .non):=fun _ _ _ H _ I h=>Constant_none ⟨.non,H,I,rfl,h⟩
theorem bb5{x j pos}:PE X (.Constant (.str x) j pos) (tC (.str x)):=fun _ _ _ H _ I h=>Calls.Constant_str ⟨.str x,H,I.tok _,⟨_,rfl⟩,h⟩
noncomputable def Gl(X:Cx) (x:Str):Prop:=X.env.kindOf x=some .globalImplicit
theorem af0(I:Inv X pins σ H s) (hg:Gl X x) (hm:X.mg x=some u) (h:Q u s)
  (hd:(x==("__debug__" : Str))=false:=by decide):wpAny (model X.prog X.w) X.A (eval (.Name x pos) X.env) Q E s :=
 Calls.Name_function_global I.ok.kind hg (Calls.loadGlobal_global (by rw[I.ok.glob];exact I.mod.glob.keeps I.bk) hm h) hd
theorem d5(I:Inv X pins σ H s) (hg:Gl X x) (hm:X.mg x=none) (hv:bootBuiltins x=some u) (h:Q u s)
  (hn:x ≠ "__name__" := by decide) (hd:(x==("__debug__" : Str))=false:=by decide):wpAny (model X.prog X.w) X.A (eval (.Name x pos) X.env) Q E s:=by
 obtain⟨mb,h1,h2⟩:=I.mod.blt
 exact Calls.Name_function_global I.ok.kind hg (Calls.loadGlobal_builtin (by rw[I.ok.glob];exact I.mod.glob.keeps I.bk) hm (by rw[I.ok.blt];exact h1.keeps I.bk) ((h2 x hn).trans hv) h) hd
theorem bs5(hg:Gl X x) (hm:X.mg x=some u) (r:C1 v u) (hd:(x==("__debug__" : Str))=false:=by decide):PE X (.Name x pos) (tC v) :=
 fun _ _ _ H _ I h=>af0 I hg hm ⟨v,H,I,r,h⟩ hd
theorem bs7(hg:Gl X x) (hm:X.mg x=none) (hv:bootBuiltins x=some u) (r:C1 v u) (hn:x ≠ "__name__" := by decide) (hd:(x==("__debug__" : Str))=false:=by decide):PE X (.Name x pos) (tC v) :=
 fun _ _ _ H _ I h=>d5 I hg hm hv ⟨v,H,I,r,h⟩ hn hd
variable {a b:Expr}{ta tb:TE}{pos:Pos}
noncomputable def PC(X:Cx) (op:CmpOp) (a b:Expr) (t:TE):Prop :=
 ∀(pins:List (Addr×Obj)) (s:Shared) (σ:St) (H:Hp) (Q:VK),Inv X pins σ H s->t σ H Q ->
  wpAny (model X.prog X.w) X.A (eval a X.env) (fun v s₁=>wpAny (model X.prog X.w) X.A (eval b X.env) (fun u s₂=>wpAny (model X.prog X.w) X.A (compareOp op v u) (EP X pins σ Q) X.xe s₂) X.xe s₁) X.xe s
theorem av9(b:Expr) (h:op≠.In) (h2:op≠.NotIn):behindInMarks op b=false:=by
 have e1:(op==CmpOp.In)=false:=by cases op<;>first|rfl|exact absurd rfl h
 have e2:(op==CmpOp.NotIn)=false:=by cases op<;>first|rfl|exact absurd rfl h2
 cases b<;>simp[behindInMarks,e1,e2]
noncomputable def tB(t:TE):TT:=fun σ H Q=>t σ H fun x H1=>∃c,x=.bl c/\Q c H1
theorem bL2(h:PC X op a b t) (h1:behindInMarks op b=false:=by first|exact av9 _ (by decide) (by decide)|rfl):PE X (.Compare a [op] [b] pos) t:=fun pins s σ H Q I hw=>wpAny_Compare1 (h pins s σ H Q I hw) h1
theorem bK1(h:PC X op a b t) (h1:behindInMarks op b=false:=by first|exact av9 _ (by decide) (by decide)|rfl):PT X (.Compare a [op] [b] pos) (tB t):=by
 intro pins s σ H Q I hw
 refine wpAny_isTrue_Compare1 (thn (h pins s σ H _ I hw) fun v s1 h1=>thn h1 fun u s2 h2=>thn h2 fun c s3 ⟨x,H1,I1,r1,q1⟩=>?_) h1
 obtain⟨d,rfl,q⟩:=q1
 cases r1
 exact wpAny_truthy_bool ⟨H1,I1,q⟩
variable {tA tB':TT}{M6:List Expr}
noncomputable def cj7(t u:TT):TT:=fun σ H Q=>t σ H fun c H1=>if c=true then u σ H1 Q else Q false H1
noncomputable def tOr(t u:TT):TT:=fun σ H Q=>t σ H fun c H1=>if c=true then Q true H1 else u σ H1 Q
noncomputable def cj1(t:TT):TT:=fun σ H Q=>t σ H fun c H1=>Q (!c) H1
theorem aI9(ha:PT X a tA):PW X (.BoolOp .And [a] pos) tA:=by
 intro wh pins s σ H Q I h
 refine isTrue_and (thn (ha pins s σ H Q I h) fun c s1 e=>?_)
 cases c with
 | true=>exact isTrue_and_nil e
 | false=>exact e
theorem aC0(ha:PT X a tA):PW X (.BoolOp .Or [a] pos) tA:=by
 intro wh pins s σ H Q I h
 refine isTrue_or (thn (ha pins s σ H Q I h) fun c s1 e=>?_)
 cases c with
 | false=>exact isTrue_or_nil e
 | true=>exact e
theorem ao3(ha:PT X a tA) (hb:PW X (.BoolOp .And (b::M6) pos) tB'):PW X (.BoolOp .And (a::b::M6) pos) (cj7 tA tB'):=by
 intro wh pins s σ H Q I h
 refine isTrue_and (thn (ha pins s σ H _ I h) fun c s1 ⟨H1,I1,q1⟩=>?_)
 cases c with
 | true=>exact hb wh pins s1 σ H1 Q I1 q1
 | false=>exact⟨H1,I1,q1⟩
theorem t5(ha:PT X a tA) (hb:PW X (.BoolOp .Or (b::M6) pos) tB'):PW X (.BoolOp .Or (a::b::M6) pos) (tOr tA tB'):=by
 intro wh pins s σ H Q I h
 refine isTrue_or (thn (ha pins s σ H _ I h) fun c s1 ⟨H1,I1,q1⟩=>?_)
 cases c with
 | true=>exact⟨H1,I1,q1⟩
 | false=>exact hb wh pins s1 σ H1 Q I1 q1
theorem bK0(ha:PT X a tA):PT X (.UnaryOp .Not a pos) (cj1 tA):=by
 intro pins s σ H Q I h
 exact isTrue_not (ha pins s σ H (fun c H1=>Q (!c) H1) I h)
noncomputable def ca4(ta tb:TE):TE:=fun σ H Q=>ta σ H fun x H1=>∃c,x=.bl c/\if c=true then tb σ H1 Q else Q (.bl false) H1
noncomputable def cj0(ta tb:TE):TE:=fun σ H Q=>ta σ H fun x H1=>∃c,x=.bl c/\if c=true then Q (.bl true) H1 else tb σ H1 Q
noncomputable def bZ6(ta:TE):TE:=fun σ H Q=>ta σ H fun x H1=>∃c,x=.bl c/\Q (.bl (!c)) H1
theorem bb7{op} (h:PE X a t):PE X (.BoolOp op [a] pos) t:=fun pins s σ H Q I hw=>BoolOp_one (h pins s σ H Q I hw)
theorem ao9(ha:PE X a ta) (hb:PE X (.BoolOp .And (b::M6) pos) tb):PE X (.BoolOp .And (a::b::M6) pos) (ca4 ta tb):=by
 intro pins s σ H Q I h
 refine BoolOp_and (thn (ha pins s σ H _ I h) fun v s1 ⟨x,H1,I1,r1,q1⟩=>?_)
 obtain⟨c,rfl,q1⟩:=q1
 cases r1
 refine wpAny_truthy_bool ?_
 cases c with
 | true=>exact hb pins s1 σ H1 Q I1 q1
 | false=>exact⟨.bl false,H1,I1,rfl,q1⟩
theorem bC1(ha:PE X a ta) (hb:PE X (.BoolOp .Or (b::M6) pos) tb):PE X (.BoolOp .Or (a::b::M6) pos) (cj0 ta tb):=by
 intro pins s σ H Q I h
 refine BoolOp_or (thn (ha pins s σ H _ I h) fun v s1 ⟨x,H1,I1,r1,q1⟩=>?_)
 obtain⟨c,rfl,q1⟩:=q1
 cases r1
 refine wpAny_truthy_bool ?_
 cases c with
 | false=>exact hb pins s1 σ H1 Q I1 q1
 | true=>exact⟨.bl true,H1,I1,rfl,q1⟩
theorem bK9(ha:PE X a ta):PE X (.UnaryOp .Not a pos) (bZ6 ta):=by
 intro pins s σ H Q I h
 refine UnaryOp_ (thn (ha pins s σ H _ I h) fun v s1 ⟨x,H1,I1,r1,q1⟩=>?_)
 obtain⟨c,rfl,q1⟩:=q1
 cases r1
 exact not_of (wpAny_truthy_bool ⟨.bl (!c),H1,I1,rfl,q1⟩)
noncomputable def tIf(t:TT) (ta tb:TE):TE:=fun σ H Q=>t σ H fun c H1=>if c=true then ta σ H1 Q else tb σ H1 Q
theorem av4(hc:PT X c tA) (ha:PE X a ta) (hb:PE X b tb):PE X (.IfExp c a b pos) (tIf tA ta tb):=by
 intro pins s σ H Q I h
 refine wpAny_IfExp (thn (hc pins s σ H _ I h) fun d s1 ⟨H1,I1,q1⟩=>?_)
 cases d with
 | true=>exact ha pins s1 σ H1 Q I1 q1
 | false=>exact hb pins s1 σ H1 Q I1 q1
end
end L2
namespace L2
open PySem PySem.Spec PyProof.Rows
noncomputable def SqL(K:PySem.W.Frag) (H:Hp) (a:Addr) (xs:List V):Prop :=
 Rd H a (.lst xs) \/
  ∃(o:Obj) (its:Array Value) (n:Nat),K.lookup a=some o/\o.cls=.type "list" /\ o.dict=none/\o.data=.seq its n/\its.size<=sizeLine/\C5 xs its.toList
noncomputable def SqT(K:PySem.W.Frag) (H:Hp) (a:Addr) (xs:List V):Prop :=
 Rd H a (.tup xs) \/
  ∃(o:Obj) (its:Array Value) (n:Nat),K.lookup a=some o/\o.cls=.type "tuple" /\ o.dict=none/\o.data=.seq its n/\its.size<=sizeLine/\C5 xs its.toList
noncomputable def cn0:Value->Option V
 | .none=>some .non
 | .bool b=>some (.bl b)
 | .int i _=>some (.int i)
 | .str x _=>some (.str x)
 | .bytes b _=>some (.byt b)
 | .float b _=>some (.flt b)
 | .ref a=>some (.ref a)
 | .type n=>some (.ty n)
 | _=>none
theorem C1.abs(r:C1 x u):cn0 u=some x:=by
 cases x with
 | non=>cases r;rfl
 | bl _=>cases r;rfl
 | int _=>obtain⟨t,rfl⟩:=r;rfl
 | str _=>obtain⟨t,rfl⟩:=r;rfl
 | byt _=>obtain⟨t,rfl⟩:=r;rfl
 | flt _=>obtain⟨t,rfl⟩:=r;rfl
 | ref _=>cases r;rfl
 | ty _=>cases r;rfl
theorem C1.inj(r:C1 x u) (q:C1 y u):x=y:=Option.some.inj (r.abs.symm.trans q.abs)
theorem C5.inj:∀{xs ys:List V}{us:List Value},C5 xs us->C5 ys us->xs=ys
 | _,_,_,.nil,.nil=>rfl
 | _,_,_,.cons r t,.cons r' t'=>by rw[r.inj r',C5.inj t t']
section
variable {X:Cx}{pins:List (Addr×Obj)}{σ:St}{H:Hp}{s:Shared}{a:Addr}{xs ys:List V}
theorem SqL.of{K:PySem.W.Frag}(h:H a=some (.lst xs)):SqL K H a xs:=.inl (.inl h)
theorem SqT.of{K:PySem.W.Frag}(h:H a=some (.tup xs)):SqT K H a xs:=.inl (.inl h)
theorem Inv.list(I:Inv X pins σ H s) (h:SqL X.K H a xs):∃its:List Value,C5 xs its/\PlainL s.heap a its.toArray/\xs.length<=sizeLine:=by
 rcases h with h|⟨o,its,n,hk,hc,hd,hs,hz,r⟩
 ·obtain⟨z,its,n,r,e⟩:=h.ok I.hok
  exact⟨its,r,⟨_,n,e,rfl,rfl,rfl⟩,z⟩
 ·refine⟨its.toList,r,⟨o,n,I.kIn a o hk,hc,hd,by simpa using hs⟩,?_⟩
  have e:=r.length
  simp only[Array.length_toList]at e
  omega
theorem Inv.tupN(I:Inv X pins σ H s) (h:SqT X.K H a xs):∃its:List Value,C5 xs its/\ai9 s.heap a its.toArray/\xs.length<=sizeLine:=by
 rcases h with h|⟨o,its,n,hk,hc,hd,hs,hz,r⟩
 ·obtain⟨z,its,r,p⟩:=h.ok I.hok
  exact⟨its,r,p,z⟩
 ·refine⟨its.toList,r,⟨o,I.kIn a o hk,hc,⟨n,by simpa using hs⟩,hd⟩,?_⟩
  have e:=r.length
  simp only[Array.length_toList]at e
  omega
theorem Inv.tuple(I:Inv X pins σ H s) (h:SqT X.K H a xs):∃its:List Value,C5 xs its/\IsTup s.heap a its.toArray/\xs.length<=sizeLine :=
 let⟨its,r,p,z⟩:=I.tupN h;⟨its,r,p.tup,z⟩
theorem Inv.list_inj(I:Inv X pins σ H s) (h:SqL X.K H a xs) (h':SqL X.K H a ys):xs=ys:=by
 obtain⟨its,r,⟨o,n,e,_,_,d⟩,_⟩:=I.list h
 obtain⟨its',r',⟨o',n',e',_,_,d'⟩,_⟩:=I.list h'
 rw[e]at e';cases e'
 rw[d]at d'
 injection d' with d1 _
 have:its=its':=by simpa using congrArg Array.toList d1
 subst this
 exact r.inj r'
theorem Inv.tuple_inj(I:Inv X pins σ H s) (h:SqT X.K H a xs) (h':SqT X.K H a ys):xs=ys:=by
 obtain⟨its,r,⟨o,e,_,n,d⟩,_⟩:=I.tuple h
 obtain⟨its',r',⟨o',e',_,n',d'⟩,_⟩:=I.tuple h'
 rw[e]at e';cases e'
 rw[d]at d'
 injection d' with d1 _
 have:its=its':=by simpa using congrArg Array.toList d1
 subst this
 exact r.inj r'
end
noncomputable abbrev Cx.wish(X:Cx) (E:Value->Shared->Prop):Cx:={ X with xe:=E }
noncomputable abbrev Cx.nox(X:Cx):Cx:=X.wish fun _ _=>False
theorem Cx.Ok.wish{X:Cx}(ok:X.Ok) (E:Value->Shared->Prop):(X.wish E).Ok :=
 ⟨ok.mod,ok.kind,ok.glob,ok.blt,ok.above,ok.inj,ok.has,ok.cab,ok.hd,ok.frames,ok.stk,ok.exf,ok.bs,ok.bsz,ok.noex,ok.exfs,ok.funs,ok.frf⟩
theorem Cx.Ok.unwish{X:Cx}{E:Value->Shared->Prop}(ok:(X.wish E).Ok):X.Ok :=
 ⟨ok.mod,ok.kind,ok.glob,ok.blt,ok.above,ok.inj,ok.has,ok.cab,ok.hd,ok.frames,ok.stk,ok.exf,ok.bs,ok.bsz,ok.noex,ok.exfs,ok.funs,ok.frf⟩
section
variable {X:Cx}{pins:List (Addr×Obj)}{σ:St}{H:Hp}{s:Shared}{E:Value->Shared->Prop}
theorem Inv.wish(I:Inv X pins σ H s) (E:Value->Shared->Prop):Inv (X.wish E) pins σ H s:=⟨I.ok.wish E,I.os,I.bare,I.base,I.loc,I.cell,I.free,I.freeC,I.pin,I.hok,I.len⟩
theorem Inv.unwish(I:Inv (X.wish E) pins σ H s):Inv X pins σ H s:=⟨I.ok.unwish,I.os,I.bare,I.base,I.loc,I.cell,I.free,I.freeC,I.pin,I.hok,I.len⟩
theorem SP.unwish(h:SP (X.wish E) pins D f s'):SP X pins D f s':=by
 cases f with
 | next=>obtain⟨σ',H',I,q⟩:=h;exact⟨σ',H',I.unwish,q⟩
 | brk=>obtain⟨σ',H',I,q⟩:=h;exact⟨σ',H',I.unwish,q⟩
 | cont=>obtain⟨σ',H',I,q⟩:=h;exact⟨σ',H',I.unwish,q⟩
 | ret u=>obtain⟨v,σ',H',I,r,q⟩:=h;exact⟨v,σ',H',I.unwish,r,q⟩
theorem PSs.nox{st:List Stmt}{t:TS}(h:PSs X.nox st t):PSs X st t:=fun pins s σ H D I hw =>
 wpAny_mono (h pins s σ H D (I.wish _) hw) (fun _ _ q=>q.unwish) fun _ _ z=>False.elim z
end
section
variable {X:Cx}{st:Stmt}{M6:List Stmt}{t u:TS}{e:Expr}{te:TE}{pos:Pos}
noncomputable def bB5:TS:=fun D σ H=>D.nx σ H
noncomputable def ci7(t u:TS):TS:=fun D σ H=>t { D with nx:=u D } σ H
theorem ao4:PSs X [] bB5:=fun _ _ σ H _ I h=>wpAny_execs_nil ⟨σ,H,I,h⟩
theorem N8(h1:PS X st t) (h2:PSs X M6 u):PSs X (st::M6) (ci7 t u):=by
 intro pins s σ H D I h
 refine wpAny_execs_cons (thn (h1 pins s σ H { D with nx:=u D } I h) fun f s1 q=>?_)
 cases f with
 | next =>
  obtain⟨σ',H',I',q⟩:=q
  exact h2 pins s1 σ' H' D I' q
 | ret v=>exact q
 | brk=>exact q
 | cont=>exact q
theorem t6(h1:PS X st t):PSs X [st] t:=by
 intro pins s σ H D I h
 refine wpAny_execs_cons (thn (h1 pins s σ H D I h) fun f s1 q=>?_)
 cases f with
 | next=>exact wpAny_execs_nil q
 | ret v=>exact q
 | brk=>exact q
 | cont=>exact q
noncomputable def bI8:TS:=fun D σ H=>D.bk σ H
noncomputable def ca1:TS:=fun D σ H=>D.ct σ H
theorem br3:PS X (.Pass pos) bB5:=fun _ _ σ H _ I h=>wpAny_Pass ⟨σ,H,I,h⟩
theorem ba5:PS X (.Break pos) bI8:=fun _ _ σ H _ I h=>wpAny_Break ⟨σ,H,I,h⟩
theorem au9:PS X (.Continue pos) ca1:=fun _ _ σ H _ I h=>wpAny_Continue ⟨σ,H,I,h⟩
theorem Inv.quiet(I:Inv X pins σ H s):interactive X.env=false:=by simp[interactive,I.ok.kind]
noncomputable def bZ8(te:TE):TS:=fun D σ H=>te σ H fun _ H1=>D.nx σ H1
theorem V3(he:PE X e te) (hs:swapsWith e none pos.line X.env=pure false:=by rfl):PS X (.Expr e pos) (bZ8 te):=by
 intro pins s σ H D I h
 exact wpAny_Expr_any (thn (he pins s σ H _ I h) fun v s1 ⟨x,H1,I1,r1,q1⟩=>⟨σ,H1,I1,q1⟩) I.quiet hs
noncomputable def ci8(te:TE):TS:=fun D σ H=>te σ H D.rt
theorem ag8(he:PE X e te):PS X (.Return (some e) pos) (ci8 te):=by
 intro pins s σ H D I h
 exact wpAny_Return_some (thn (he pins s σ H _ I h) fun v s1 ⟨x,H1,I1,r1,q1⟩=>⟨x,σ,H1,I1,r1,q1⟩)
noncomputable def cj3(c:TT) (t u:TS):TS:=fun D σ H=>c σ H fun b H1=>if b=true then t D σ H1 else u D σ H1
theorem ak9(hc:PT X c tc) (ha:PSs X a t) (hb:PSs X b u):PS X (.If c a b pos) (cj3 tc t u):=by
 intro pins s σ H D I h
 refine wpAny_If (thn (hc pins s σ H _ I h) fun d s1 ⟨H1,I1,q1⟩=>?_)
 cases d with
 | true=>exact ha pins s1 σ H1 D I1 q1
 | false=>exact hb pins s1 σ H1 D I1 q1
noncomputable def bI3:TS:=fun _ _ _=>False
theorem L4:PSs X sts bI3:=fun _ _ _ _ _ _ h=>h.elim
end
noncomputable abbrev TG:=V->St->Hp->(St->Hp->Prop)->Prop
noncomputable abbrev TGs:=List V->St->Hp->(St->Hp->Prop)->Prop
noncomputable def PG(X:Cx) (target:Expr) (t:TG):Prop :=
 ∀(pins:List (Addr×Obj)) (s:Shared) (σ:St) (H:Hp) (v:V) (u:Value) (Q:St->Hp->Prop),Inv X pins σ H s->C1 v u->t v σ H Q ->
  wpAny (model X.prog X.w) X.A (assign target X.env u) (fun _ s'=>∃σ' H',Inv X pins σ' H' s'/\Q σ' H') X.xe s
noncomputable def PGs(X:Cx) (ts:List Expr) (t:TGs):Prop :=
 ∀(pins:List (Addr×Obj)) (s:Shared) (σ:St) (H:Hp) (vs:List V) (us:List Value) (Q:St->Hp->Prop),Inv X pins σ H s->C5 vs us->t vs σ H Q ->
  wpAny (model X.prog X.w) X.A (assignInOrder ((assignEach ts X.env).map (·.2)) us) (fun _ s'=>∃σ' H',Inv X pins σ' H' s'/\Q σ' H') X.xe s
section
variable {X:Cx}{pos:Pos}
noncomputable def bD4(i:Nat):TG:=fun v σ H Q=>Q (σ.set i (some v)) H
theorem bs3(hN:X.N.Nodup) (hi:X.N[i]? = some x) (hx:Loc X.env.scope x) (hf:X.fn x=true\/X.env.scope.names.lookup x=some .local:=by first|exact .inl rfl|exact .inr rfl|assumption):PG X (.Name x pos) (bD4 i):=by
 intro pins s σ H v u Q I r h
 exact wpAny_assign_Name (m8 I hN hi hx r (fun s' I'=>⟨_,H,I',h⟩) hf)
noncomputable def cl6:TGs:=fun vs σ H Q=>vs=[]/\Q σ H
noncomputable def cg0(t:TG) (u:TGs):TGs:=fun vs σ H Q=>∃v r,vs=v::r/\t v σ H fun σ' H'=>u r σ' H' Q
theorem bs1:PGs X [] cl6:=by
 intro pins s σ H vs us Q I r h
 obtain⟨e,h⟩:=h
 subst e
 cases r
 exact assignInOrder_nil ⟨σ,H,I,h⟩
theorem bb3(h1:PG X e t) (h2:PGs X es u)
  (hs:(assignEach (e::es) X.env).map (·.2)=assign e X.env::(assignEach es X.env).map (·.2):=by rfl):PGs X (e::es) (cg0 t u):=by
 intro pins s σ H vs us Q I r h
 obtain⟨v,vr,e1,h⟩:=h
 subst e1
 cases r with
 | cons r rr =>
  rw[hs]
  refine assignInOrder_cons (thn (h1 pins s σ H _ _ _ I r h) fun _ s1 ⟨σ1,H1,I1,q1⟩=>?_)
  exact h2 pins s1 σ1 H1 _ _ Q I1 rr q1
noncomputable def cl5(K:PySem.W.Frag) (n:Nat) (t:TGs):TG:=fun v σ H Q=>∃a xs,v=.ref a/\SqT K H a xs/\xs.length=n/\t xs σ H Q
theorem bK7(hc:X.calm=true) (h:PGs X es t)
  (hn:(assignEach es X.env).length=n:=by rfl) (hst:(assignEach es X.env).findIdx? (·.1)=none:=by rfl):PG X (.Tuple es k pos) (cl5 X.K n t):=by
 intro pins s σ H v u Q I r hw
 obtain⟨a,xs,e1,hq,hl,hw⟩:=hw
 subst e1
 cases r
 obtain⟨its,rv,ht,hz⟩:=I.tuple hq
 refine assign_Tuple_tuple (I.ok.hd hc) ht (by simp[hn,← hl,rv.length]) hst fun h' hx=>?_
 have I1:Inv X pins σ H { s with heap:=h' }:=I.kept (t':=s.toks) fun b o e=>hx b o (Nat.ne_of_lt (Heap.lt_size e)) e
 exact h pins _ σ H xs _ Q I1 (by simpa using rv) hw
noncomputable def ca3(te:TE) (g:TG):TS:=fun D σ H=>te σ H fun x H1=>g x σ H1 D.nx
theorem bK4(he:PE X e te) (hg:PG X tg g) (hs:swapsWithSole [tg] e pos.line X.env=pure false:=by rfl) (hw:swappedStores [tg] e X.env=pure none:=by rfl)
  (h1:(assignEach [tg] X.env).map (·.2)=[assign tg X.env]:=by rfl):PS X (.Assign [tg] e pos) (ca3 te g):=by
 intro pins s σ H D I h
 refine wpAny_Assign_stores (thn (he pins s σ H _ I h) fun v s1 ⟨x,H1,I1,r1,q1⟩=>?_) hs hw
 rw[h1]
 exact thn (hg pins s1 σ H1 x v _ I1 r1 q1) fun _ s2 q=>q
theorem ag7(hN:X.N.Nodup) (hi:X.N[i]? = some x) (hx:Loc X.env.scope x) (he:PE X e te) (hs:swapsWith e (some (.Name x pos')) pos.line X.env=pure false:=by rfl) (hf:X.fn x=true\/X.env.scope.names.lookup x=some .local:=by first|exact .inl rfl|exact .inr rfl|assumption) :
  PS X (.Assign [.Name x pos'] e pos) (ca3 te (bD4 i)):=by
 intro pins s σ H D I h
 refine wpAny_Assign_Name (thn (he pins s σ H _ I h) fun v s1 ⟨y,H1,I1,r1,q1⟩=>?_) hs
 exact m8 I1 hN hi hx r1 (fun s2 I2=>⟨_,H1,I2,q1⟩) hf
noncomputable def ci9(i j:Nat) (ta:TA):TS:=fun D σ H=>ta σ H fun vs H1=>∃v w,vs=[v,w]/\D.nx ((σ.set i (some v)).set j (some w)) H1
theorem ba3{kt k2 pt2} (hc:X.calm=true) (hN:X.N.Nodup) (hi:X.N[i]? = some x) (hj:X.N[j]? = some y) (hij:i≠j)
  (hx:X.env.scope.names.lookup x=some .local) (hy:X.env.scope.names.lookup y=some .local) (ha:PA X [a,b] ta)
  (hw:swappedStores [.Tuple [.Name x px,.Name y py] kt pt] (.Tuple [a,b] k2 pt2) X.env=pure (some [x,y]))
  (hs:swapsWithSole [.Tuple [.Name x px,.Name y py] kt pt] (.Tuple [a,b] k2 pt2) pos.line X.env=pure false:=by rfl) :
  PS X (.Assign [.Tuple [.Name x px,.Name y py] kt pt] (.Tuple [a,b] k2 pt2) pos) (ci9 i j ta):=by
 intro pins s σ H D I h
 rw[exec_Assign_arm]
 refine wpAny_bind (wpAny_standAt ?_)
 rw[hs]
 refine wpAny_bind (wpAny_pure ?_)
 rw[if_neg (by decide)]
 refine wpAny_bind (Tuple_ (thn (ha _ pins s σ H _ I h) fun us s1 ⟨vs,H1,I1,r1,q1⟩=>?_))
 obtain⟨v,w,e1,q1⟩:=q1
 subst e1
 obtain⟨u1,u2,rfl,rv,rw'⟩:∃u1 u2,us=[u1,u2]/\C1 v u1/\C1 w u2:=by
  cases r1 with
  | cons p q =>
   cases q with
   | cons p' q' =>
    cases q'
    exact⟨_,_,rfl,p,p'⟩
 refine wpAny_newObj_type ?_ (by show 2<=sizeLine;decide)
 have I2:Inv X pins σ H1 { s1 with heap:=s1.heap.push { cls:=.type "tuple", data:=.seq [u1,u2].toArray } }:=I1.kept (t':=s1.toks) fun b o e=>Heap.get?_push_of_some _ e
 rw[hw]
 refine wpAny_bind (wpAny_pure ?_)
 show wpAny (model X.prog X.w) X.A (do rule "assign.swapped-stores";let items ← unpackItems (.ref s1.heap.objs.size) 2 none;assignInOrder [fun v=>bindName X.env y v,fun v=>bindName X.env x v] items.reverse;pure Flow.next) _ _ _
 refine wpAny_bind (wpAny_rule (wpAny_bind (unpackItems_tuple (items:=#[u1,u2]) (I.ok.hd hc) (IsTup.new s1.heap _) fun h' hx'=>?_)))
 have I3:=I2.kept (h':=h') (t':=s1.toks) fun b o e=>hx' b o (Nat.ne_of_lt (Heap.lt_size e)) e
 show wpAny _ _ (assignInOrder [fun v=>bindName X.env y v,fun v=>bindName X.env x v] [u2,u1] >>= fun _=>pure Flow.next) _ _ _
 refine wpAny_bind (assignInOrder_cons (wpAny_bindName (m8 I3 hN hj (.inl hy) rw' (fun s2 I4=>?_) (.inr hy))))
 refine assignInOrder_cons (wpAny_bindName (m8 I4 hN hi (.inl hx) rv (fun s3 I5=>assignInOrder_nil (wpAny_pure ?_)) (.inr hx)))
 rw[List.set_comm _ _ (Ne.symm hij)]at I5
 exact⟨_,H1,I5,q1⟩
end
section
variable {X:Cx}{pos:Pos}
noncomputable def bI0(c:TT) (tb:TS):TS:=fun D σ H=>∃W:Nat->St->Hp->Prop,(∃m,W m σ H)/\∀m σ H,W m σ H ->
 c σ H fun b H1=>if b=true then ∃N:St->Hp->Prop,(∀σ' H',N σ' H'->∃m',m' < m/\W m' σ' H')/\tb { D with nx:=N,ct:=N,bk:=D.nx } σ H1 else D.nx σ H1
theorem ba2(hp:PassesOwn (model X.prog X.w) X.A X.env X.xe) (hc:PT X c tc) (hb:PSs X body tb):PS X (.While c body [] pos) (bI0 tc tb):=by
 intro pins s σ H D I h
 obtain⟨W,⟨m0,w0⟩,turn⟩:=h
 refine wpAny_While (codeAny_whileLoop (fun n s'=>∃σ' H',Inv X pins σ' H' s'/\W n σ' H') ?_ m0 ⟨σ,H,I,w0⟩)
 rintro n s1 ⟨σ1,H1,I1,w1⟩
 refine wpAny_passesOwn hp (thn (hc pins s1 σ1 H1 _ I1 (turn n σ1 H1 w1)) fun b s2 ⟨H2,I2,q2⟩=>?_)
 cases b with
 | true =>
  obtain⟨N,hN,q2⟩:=q2
  rw[if_pos rfl]
  refine wpAny_passesOwn hp (thn (hb pins s2 σ1 H2 _ I2 q2) fun f s3 q3=>?_)
  cases f with
  | next =>
   obtain⟨σ3,H3,I3,n3⟩:=q3
   obtain⟨m',hm,w3⟩:=hN σ3 H3 n3
   exact⟨m',hm,σ3,H3,I3,w3⟩
  | cont =>
   obtain⟨σ3,H3,I3,n3⟩:=q3
   obtain⟨m',hm,w3⟩:=hN σ3 H3 n3
   exact⟨m',hm,σ3,H3,I3,w3⟩
  | brk=>exact q3
  | ret v=>exact q3
 | false =>
  rw[if_neg Bool.false_ne_true]
  exact wpAny_execs_nil ⟨σ1,H2,I2,q2⟩
end
structure It where
 go:Nat->Hp->Prop
 yld:Nat->Hp->V->Hp->Prop
 stop:Nat->Hp->Prop
noncomputable def W5(X:Cx) (pins:List (Addr×Obj)) (H:Hp) (b:Addr):Prop :=
 H b=none/\b≠X.env.locals/\b∉X.fs/\(b∈X.ex\/X.s₀.heap.objs.size<=b)/\(∀x c,X.env.cells.lookup x=some c->c≠b)/\∀p∈X.pn++pins,p.1≠b
theorem Inv.fpOk(I:Inv X pins σ H s) (hb:s.heap.objs.size<=b) (hn:H' b=none):W5 X pins H' b:=by
 refine⟨hn,Nat.ne_of_gt (Nat.lt_of_lt_of_le I.lt hb),I.nofs hb,.inr (Nat.le_trans I.sz hb),fun x c e z=>?_,fun p hp z=>?_⟩
 ·obtain⟨v,q⟩:=I.cell x c e
  exact absurd (Nat.lt_of_lt_of_le q.lt (by rw[z];exact hb)) (Nat.lt_irrefl _)
 ·exact absurd (Nat.lt_of_lt_of_le (Heap.lt_size (I.pin p hp).1) (by rw[z];exact hb)) (Nat.lt_irrefl _)
structure Turn (P:Program) (w:World) (K:PySem.W.Frag) (tg:Expr) (J:It) (fp:List Addr) (it:Addr) (tn:Nat->Heap->Prop):Prop where
 mem:it∈fp
 obj:∀i h,tn i h->∀b∈fp,∃o,h.get? b=some o/\∀v,o.data≠.cell v
 keep:∀i h h',tn i h->(∀b∈fp,∀o,h.get? b=some o->h'.get? b=some o)->tn i h'
 item:∀(X:Cx),X.prog=P->X.w=w->X.K=K->X.calm=true->∀(i:Nat) (pins:List (Addr×Obj)) (s:Shared) (σ:St) (H:Hp) (E:Value->Shared->Prop),Inv X pins σ H s->(∀b∈fp,W5 X pins H b)->tn i s.heap->J.go i H ->
  wpAny (model P w) X.A (pyNext (.ref it)) (fun r s1=>∃u,r=some u /\
   wpAny (model P w) X.A (letOwnedTupleGo tg (.ref it) u) (fun _ s2=>∃x H',Inv X pins σ H' s2/\C1 x u/\J.yld i H x H'/\tn (i+1) s2.heap/\∀b∈fp,H' b=none) E s1) E s
 done:∀(X:Cx),X.prog=P->X.w=w->X.K=K->X.calm=true->∀(i:Nat) (pins:List (Addr×Obj)) (s:Shared) (σ:St) (H:Hp) (E:Value->Shared->Prop),Inv X pins σ H s->(∀b∈fp,W5 X pins H b)->tn i s.heap->J.stop i H ->
  wpAny (model P w) X.A (pyNext (.ref it)) (fun r s1=>r=none/\Inv X pins σ H s1) E s
 self:∀(A:Around) (i:Nat) (s:Shared) (Q:Value->Shared->Prop) (E:Value->Shared->Prop),tn i s.heap->Q (.ref it) s->wpAny (model P w) A (pyIter (.ref it)) Q E s
noncomputable abbrev TI:=St->Hp->(It->Hp->Prop)->Prop
noncomputable def PIE(X:Cx) (pins:List (Addr×Obj)) (σ:St) (tg:Expr) (R:It->Hp->Prop) (itv:Value) (s2:Shared):Prop :=
 ∃(it:Addr) (fp:List Addr) (tn:Nat->Heap->Prop) (J:It) (H':Hp),itv=.ref it/\Inv X pins σ H' s2/\Turn X.prog X.w X.K tg J fp it tn/\tn 0 s2.heap/\(∀b∈fp,W5 X pins H' b)/\R J H'
noncomputable def PI(X:Cx) (tg iter:Expr) (wi:TI):Prop :=
 ∀(pins:List (Addr×Obj)) (s:Shared) (σ:St) (H:Hp) (R:It->Hp->Prop),Inv X pins σ H s->wi σ H R ->
  wpAny (model X.prog X.w) X.A (eval iter X.env) (fun v s1=>wpAny (model X.prog X.w) X.A (pyIter v) (PIE X pins σ tg R) X.xe s1) X.xe s
theorem ax5(ho:s.heap.get? it=some o) (hc:o.cls=.type n) (hd:o.data=.fields vs)
    (hn:["enumerate", "zip", "dict_itemiterator", "dict_reverseitemiterator", "odict_iterator", "itertools.zip_longest", "itertools.pairwise"].contains n=false) (hQ:Q () s):wpAny M A (letOwnedTupleGo tg (.ref it) u) Q E s:=by
  unfold letOwnedTupleGo
  cases tg<;>first
    | exact wpAny_pure hQ
    | (cases u<;>first
        | exact wpAny_pure hQ
        | (refine wpAny_bind (wpAny_load ho ?_)
           rw[hc,hd]
           show wpAny M A (if(["enumerate", "zip", "dict_itemiterator", "dict_reverseitemiterator", "odict_iterator", "itertools.zip_longest", "itertools.pairwise"].contains n&&vs[0]? == some (rawInt _))=true then _ else _) Q E s
           rw[if_neg (by intro h;rw[hn,Bool.false_and]at h;cases h)]
           exact wpAny_pure hQ))
noncomputable def Itl(K:PySem.W.Frag) (a:Addr):It :=
 ⟨fun i H=>∃xs x,SqL K H a xs/\xs[i]? = some x,fun i H x H'=>H'=H/\∀xs,SqL K H a xs->xs[i]? = some x,fun i H=>∃xs,SqL K H a xs/\xs.length<=i⟩
noncomputable def Itt(K:PySem.W.Frag) (a:Addr):It :=
 ⟨fun i H=>∃xs x,SqT K H a xs/\xs[i]? = some x,fun i H x H'=>H'=H/\∀xs,SqT K H a xs->xs[i]? = some x,fun i H=>∃xs,SqT K H a xs/\xs.length<=i⟩
noncomputable def Itr(lo:Int) (n:Nat):It:=⟨fun i _=>i < n,fun i H x H'=>H'=H/\x=.int (lo+i),fun i _=>n<=i⟩
theorem aO1{P:Program}{w:World}{K:PySem.W.Frag}{tg:Expr}(a it:Addr):Turn P w K tg (Itl K a) [it] it (fun i h=>h.IsListIter it a i) where
 mem:=by simp
 obj:=fun i h st b hb=>by
  have e:b=it:=by simpa using hb
  subst e
  obtain⟨o,e,c,d⟩:=st
  exact⟨o,e,fun v z=>by rw[d]at z;cases z⟩
 keep:=fun i h h' st k=>st.at fun o e=>k it (by simp) o e
 item:=by
  intro X hP hw hK hc i pins s σ H E I hf st hg
  subst hP hw hK
  obtain⟨xs,x,hq,hx⟩:=hg
  obtain⟨its,rv,p,hz⟩:=I.list hq
  obtain⟨u,hu,ru⟩:=rv.get hx
  obtain⟨f0,f1,f2,f3,f4,f5⟩:=hf it (by simp)
  refine wpAny_pyNext_list_item st p.isList (x:=u) (by simpa using hu) fun h' st' sb=>?_
  have I1:Inv X pins σ H { s with heap:=h' }:=I.turned (t':=s.toks) (fun b o hb e=>(sb.2 b hb).trans e) f0 f1 f3 f4 f5
  obtain⟨o,e,c,d⟩:=id st'
  exact⟨u,rfl,ax5 (s:={ s with heap:=h' }) e c d (by decide) ⟨x,H,I1,ru,⟨rfl,fun ys hy=>by rw[I.list_inj hy hq];exact hx⟩,st',fun b hb=>(hf b hb).1⟩⟩
 done:=by
  intro X hP hw hK hc i pins s σ H E I hf st hg
  subst hP hw hK
  obtain⟨xs,hq,hx⟩:=hg
  obtain⟨its,rv,p,hz⟩:=I.list hq
  obtain⟨f0,f1,f2,f3,f4,f5⟩:=hf it (by simp)
  have hl:=rv.length
  exact wpAny_pyNext_list_end (I.ok.hd hc) st p.isList (by simp;omega) fun h' eb=>⟨rfl,I.turned (t':=s.toks) (fun b o hb e=>eb b o hb e) f0 f1 f3 f4 f5⟩
 self:=fun _ _ _ _ _ st h=>wpAny_pyIter_listiter st h
theorem aA7{P:Program}{w:World}{K:PySem.W.Frag}{tg:Expr}(a it:Addr):Turn P w K tg (Itt K a) [it] it (fun i h=>h.IsTupleIter it a i) where
 mem:=by simp
 obj:=fun i h st b hb=>by
  have e:b=it:=by simpa using hb
  subst e
  obtain⟨o,e,c,d⟩:=st
  exact⟨o,e,fun v z=>by rw[d]at z;cases z⟩
 keep:=fun i h h' st k=>st.at fun o e=>k it (by simp) o e
 item:=by
  intro X hP hw hK hc i pins s σ H E I hf st hg
  subst hP hw hK
  obtain⟨xs,x,hq,hx⟩:=hg
  obtain⟨its,rv,p,hz⟩:=I.tuple hq
  obtain⟨u,hu,ru⟩:=rv.get hx
  obtain⟨f0,f1,f2,f3,f4,f5⟩:=hf it (by simp)
  refine wpAny_pyNext_tuple_item st (show s.heap.IsTuple a its.toArray from p) (x:=u) (by simpa using hu) fun h' st' sb=>?_
  have I1:Inv X pins σ H { s with heap:=h' }:=I.turned (t':=s.toks) (fun b o hb e=>(sb.2 b hb).trans e) f0 f1 f3 f4 f5
  obtain⟨o,e,c,d⟩:=id st'
  exact⟨u,rfl,ax5 (s:={ s with heap:=h' }) e c d (by decide) ⟨x,H,I1,ru,⟨rfl,fun ys hy=>by rw[I.tuple_inj hy hq];exact hx⟩,st',fun b hb=>(hf b hb).1⟩⟩
 done:=by
  intro X hP hw hK hc i pins s σ H E I hf st hg
  subst hP hw hK
  obtain⟨xs,hq,hx⟩:=hg
  obtain⟨its,rv,p,hz⟩:=I.tuple hq
  obtain⟨f0,f1,f2,f3,f4,f5⟩:=hf it (by simp)
  have hl:=rv.length
  exact wpAny_pyNext_tuple_end (I.ok.hd hc) st (show s.heap.IsTuple a its.toArray from p) (by simp;omega) fun h' eb=>⟨rfl,I.turned (t':=s.toks) (fun b o hb e=>eb b o hb e) f0 f1 f3 f4 f5⟩
 self:=fun _ _ _ _ _ st h=>wpAny_pyIter_tupleiter st h
theorem aA8{P:Program}{w:World}{K:PySem.W.Frag}{tg:Expr}(it:Addr) (lo:Int) (n:Nat):Turn P w K tg (Itr lo n) [it] it (fun i h=>IsRangeIter h it (lo+(i:Nat)*1) ((n:Int) - (i:Nat)) 1) where
 mem:=by simp
 obj:=fun i h st b hb=>by
  have e:b=it:=by simpa using hb
  subst e
  exact⟨_,st,fun v z=>by
   have z':Data.fields _=Data.cell v:=z
   cases z'⟩
 keep:=fun i h h' st k=>k it (by simp) _ st
 item:=by
  intro X hP hw hK hc i pins s σ H E I hf st hg
  subst hP hw hK
  obtain⟨f0,f1,f2,f3,f4,f5⟩:=hf it (by simp)
  have W:=Walks.range (prog:=X.prog) (w:=X.w) (I.ok.hd hc) it lo 1 n
  refine W.item i s _ _ hg st fun v h' tk hv st' kk=>?_
  obtain⟨t,rfl⟩:=hv
  have I1:Inv X pins σ H { s with heap:=h',toks:=tk }:=I.turned (fun b o hb e=>kk b o (by simpa using hb) e) f0 f1 f3 f4 f5
  refine⟨_,rfl,ax5 (s:={ s with heap:=h',toks:=tk }) (n := "range_iterator") st' rfl rfl (by decide) ⟨.int (lo+i),H,I1,⟨t,?_⟩,⟨rfl,rfl⟩,st',fun b hb=>(hf b hb).1⟩⟩
  rw[Int.mul_one]
 done:=by
  intro X hP hw hK hc i pins s σ H E I hf st hg
  subst hP hw hK
  obtain⟨f0,f1,f2,f3,f4,f5⟩:=hf it (by simp)
  exact wpAny_pyNext_range_end (I.ok.hd hc) st (by have:n<=i:=hg;omega) fun h' eb=>⟨rfl,I.turned (t':=s.toks) (fun b o hb e=>eb b o hb e) f0 f1 f3 f4 f5⟩
 self:=fun _ _ _ _ _ st h=>wpAny_pyIter_rangeiter st h
end L2
namespace L2
open PySem PySem.Spec PyProof.Rows
section
variable {X:Cx}{tg:Expr}
noncomputable def cf7(K:PySem.W.Frag) (tl:TE):TI:=fun σ H R=>tl σ H fun x H1=>∃a,x=.ref a/\(∃xs,SqL K H1 a xs)/\R (Itl K a) H1
noncomputable def cl3(K:PySem.W.Frag) (tl:TE):TI:=fun σ H R=>tl σ H fun x H1=>∃a,x=.ref a/\(∃xs,SqT K H1 a xs)/\R (Itt K a) H1
theorem bs0{l:Expr}{tl:TE}(hl:PE X l tl):PI X tg l (cf7 X.K tl):=by
 intro pins s σ H R I h
 refine thn (hl pins s σ H _ I h) fun v s1 ⟨x,H1,I1,r1,q1⟩=>?_
 obtain⟨a,e,⟨xs,hq⟩,q⟩:=q1
 subst e
 cases r1
 obtain⟨its,rv,p,hz⟩:=I1.list hq
 refine wpAny_pyIter_list p.isList ?_
 refine⟨s1.heap.objs.size,[s1.heap.objs.size],_,_,H1,rfl,I1.kept (t':=s1.toks) fun b o e=>Heap.get?_push_of_some _ e,aO1 a _,⟨_,Heap.get?_push_size _ rfl,rfl,rfl⟩,fun b hb=>?_,q⟩
 have e:b=s1.heap.objs.size:=by simpa using hb
 subst e
 exact I1.fpOk (Nat.le_refl _) (I1.hok.fresh (Nat.le_refl _))
theorem bK6{l:Expr}{tl:TE}(hl:PE X l tl):PI X tg l (cl3 X.K tl):=by
 intro pins s σ H R I h
 refine thn (hl pins s σ H _ I h) fun v s1 ⟨x,H1,I1,r1,q1⟩=>?_
 obtain⟨a,e,⟨xs,hq⟩,q⟩:=q1
 subst e
 cases r1
 obtain⟨its,rv,p,hz⟩:=I1.tuple hq
 refine wpAny_pyIter_tuple (show s1.heap.IsTuple a its.toArray from p) ?_
 refine⟨s1.heap.objs.size,[s1.heap.objs.size],_,_,H1,rfl,I1.kept (t':=s1.toks) fun b o e=>Heap.get?_push_of_some _ e,aA7 a _,⟨_,Heap.get?_push_size _ rfl,rfl,rfl⟩,fun b hb=>?_,q⟩
 have e:b=s1.heap.objs.size:=by simpa using hb
 subst e
 exact I1.fpOk (Nat.le_refl _) (I1.hok.fresh (Nat.le_refl _))
theorem au6{pins:List (Addr×Obj)}{σ:St}{H:Hp}{s:Shared}{R:It->Hp->Prop}{E:Value->Shared->Prop}{lo hi:Int}{t u v:Tok}{tk:Nat}(I:Inv X pins σ H s) (h1:-(2 ^ 62)<=lo) (h2:lo < 2 ^ 62) (h3:-(2 ^ 62)<=hi) (h4:hi < 2 ^ 62)
  (q:R (Itr lo (hi - lo).toNat) H):wpAny (model X.prog X.w) X.A (pyIter (.ref s.heap.objs.size)) (PIE X pins σ tg R) E { s with heap:=s.heap.push { cls:=.type "range", data:=.fields #[.int lo t,.int hi u,.int 1 v] },toks:=tk }:=by
 refine wpAny_pyIter_range (IsRange.new ..) (small_one h1 h2 h3 h4) ?_
 have I1:Inv X pins σ H { s with heap:=s.heap.push { cls:=.type "range", data:=.fields #[.int lo t,.int hi u,.int 1 v] },toks:=tk }:=I.kept fun b o e=>Heap.get?_push_of_some _ e
 refine⟨(s.heap.push { cls:=.type "range", data:=.fields #[.int lo t,.int hi u,.int 1 v] }).objs.size,[(s.heap.push { cls:=.type "range", data:=.fields #[.int lo t,.int hi u,.int 1 v] }).objs.size],_,_,H,rfl,
  I1.kept (t':=tk) fun b o e=>Heap.get?_push_of_some _ e,aA8 _ lo (hi - lo).toNat,?_,fun b hb=>?_,q⟩
 ·have e1:lo+((0:Nat):Int)*1=lo:=by simp
  have e2:(((hi - lo).toNat:Nat):Int) - ((0:Nat):Int)=Builtin.Range.rangeSize lo hi 1:=by rw[rangeSize_one];split<;>omega
  show IsRangeIter _ _ (lo+((0:Nat):Int)*1) ((((hi - lo).toNat:Nat):Int) - ((0:Nat):Int)) 1
  rw[e1,e2]
  exact Heap.get?_push_size _ rfl
 ·have e:b=(s.heap.push { cls:=.type "range", data:=.fields #[.int lo t,.int hi u,.int 1 v] }).objs.size:=by simpa using hb
  subst e
  exact I1.fpOk (Nat.le_refl _) (I1.hok.fresh (Nat.le_refl _))
noncomputable def cf6(ta:TA):TI:=fun σ H R=>ta σ H fun vs H1=>∃j:Int,vs=[.int j]/\-(2 ^ 62)<=j/\j < 2 ^ 62/\R (Itr 0 j.toNat) H1
noncomputable def cf5(ta:TA):TI:=fun σ H R=>ta σ H fun vs H1=>∃i j:Int,vs=[.int i,.int j]/\(-(2 ^ 62)<=i/\i < 2 ^ 62/\-(2 ^ 62)<=j/\j < 2 ^ 62)/\R (Itr i (j - i).toNat) H1
theorem aQ0{a:Expr}{ta:TA}{p pos:Pos}(hg:Gl X "range") (hm:X.mg "range" = none) (ha:PA X [a] ta) (hs:starEach [a] X.env=[(false,eval a X.env)]:=by rfl):PI X tg (.Call (.Name "range" p) [a] [] pos) (cf6 ta):=by
 intro pins s σ H R I h
 refine Call_ (d5 I hg hm boot_range (PyProof.Rows.callWith_type1 (thn (ha pos pins s σ H _ I h) fun us s1 ⟨vs,H1,I1,r1,q1⟩=>?_) hs rfl))
 obtain⟨j,e,q1,q2,q⟩:=q1
 subst e
 cases r1 with
 | cons r rr =>
  cases rr
  obtain⟨t,rfl⟩:=r
  exact call_range_1 (au6 I1 (by omega) (by omega) q1 q2 (by simpa using q))
theorem aP9(hg:Gl X "range") (hm:X.mg "range" = none) (ha:PA X [a,b] ta) (hs:starEach [a,b] X.env=[(false,eval a X.env),(false,eval b X.env)]:=by rfl) (hs2:starEach [b] X.env=[(false,eval b X.env)]:=by rfl) :
  PI X tg (.Call (.Name "range" p) [a,b] [] pos) (cf5 ta):=by
 intro pins s σ H R I h
 refine Call_ (d5 I hg hm boot_range (PyProof.Rows.callWith_type1 (thn (ha pos pins s σ H _ I h) fun us s1 ⟨vs,H1,I1,r1,q1⟩=>?_) (by rw[hs,hs2]) (by rw[hs2];rfl)))
 obtain⟨i,j,e,⟨q1,q2,q3,q4⟩,q⟩:=q1
 subst e
 cases r1 with
 | cons r rr =>
  cases rr with
  | cons r' rr =>
   cases rr
   obtain⟨t,rfl⟩:=r
   obtain⟨t',rfl⟩:=r'
   exact call_range_2 (au6 I1 q1 q2 q3 q4 q)
noncomputable def cj4(wi:TI) (g:TG) (tb:TS):TS:=fun D σ H=>wi σ H fun J H1=>∃W:Nat->Nat->St->Hp->Prop,(∃m,W 0 m σ H1)/\∀i m σ H,W i m σ H ->
 (J.stop i H/\D.nx σ H)\/(J.go i H/\∃N:St->Hp->Prop,(∀σ' H',N σ' H'->∃m',m' < m/\W (i+1) m' σ' H')/\∀x H',J.yld i H x H'->g x σ H' fun σ2 H2=>tb { D with nx:=N,ct:=N,bk:=D.nx } σ2 H2)
noncomputable def ah1(fp:List Addr) (h:Heap):List (Addr×Obj):=fp.filterMap fun b=>(h.get? b).map fun o=>(b,o)
theorem Y3(hb:b∈fp) (e:h.get? b=some o):(b,o)∈ah1 fp h:=List.mem_filterMap.mpr ⟨b,hb,by rw[e];rfl⟩
theorem aQ6(hp:p∈ah1 fp h):p.1∈fp/\h.get? p.1=some p.2:=by
 obtain⟨b,hb,e⟩:=List.mem_filterMap.mp hp
 cases q:h.get? b with
 | none=>rw[q]at e;cases e
 | some o =>
  rw[q]at e
  have e':(b,o)=p:=Option.some.inj e
  subst e'
  exact⟨hb,q⟩
theorem Inv.pinned(I:Inv X pins σ H s) (hf:∀b∈fp,W5 X pins H b) (ho:∀b∈fp,∃o,s.heap.get? b=some o/\∀v,o.data≠.cell v):Inv X (pins++ah1 fp s.heap) σ H s :=
 I.pins_of fun p hp=>(List.mem_append.mp hp).elim (fun z=>I.pin p (List.mem_append_right _ z)) fun z=>by
  obtain⟨hb,e⟩:=aQ6 z
  obtain⟨f0,f1,f2,_⟩:=hf p.1 hb
  obtain⟨o,e',d⟩:=ho p.1 hb
  rw[e]at e';cases e'
  exact⟨e,f0,f1,f2,d⟩
theorem Inv.unpinned(I:Inv X (pins++pl) σ H s):Inv X pins σ H s:=I.pins_of fun p hp=>I.pin p (List.mem_append_right _ (List.mem_append_left _ hp))
theorem ba4(hp:PassesOwn (model X.prog X.w) X.A X.env X.xe) (hc:X.calm=true) (hi:PI X tg iter wi) (hg:PG X tg g) (hb:PSs X body tb)
  (hs:∀x,foldedSetIterable iter X.env x=pure x:=by intro _;rfl):PS X (.For tg iter body [] pos) (cj4 wi g tb):=by
 intro pins s σ H D I h
 refine wpAny_For (thn (hi pins s σ H _ I h) fun v s1 h1=>thn h1 fun itv s2 h2=>?_) hs
 obtain⟨it,fp,tn,J,H2,e,I2,T,st2,f2,W,⟨m0,w0⟩,turn⟩:=h2
 subst e
 have stat:∀{H':Hp},(∀b∈fp,H' b=none)->∀b∈fp,W5 X pins H' b:=fun hn b hb=>⟨hn b hb,(f2 b hb).2⟩
 refine codeAny_forLoop_any (fun n s'=>∃i σ' H',Inv X pins σ' H' s'/\tn i s'.heap/\(∀b∈fp,H' b=none)/\W i n σ' H') ?_ m0 ⟨0,σ,H2,I2,st2,fun b hb=>(f2 b hb).1,w0⟩
 rintro n s3 ⟨i,σ3,H3,I3,st3,fr3,w3⟩
 rcases turn i n σ3 H3 w3 with⟨stop,qn⟩|⟨go,N,hN,step⟩
 ·refine wpAny_passesOwn hp (thn (T.done X rfl rfl rfl hc i pins s3 σ3 H3 X.xe I3 (stat fr3) st3 stop) fun r s4 ⟨hr,I4⟩=>?_)
  subst hr
  exact wpAny_execs_nil ⟨σ3,H3,I4,qn⟩
 ·refine wpAny_passesOwn hp (thn (T.item X rfl rfl rfl hc i pins s3 σ3 H3 X.xe I3 (stat fr3) st3 go) fun r s4 ⟨u,hr,h4⟩=>?_)
  subst hr
  refine wpAny_passesOwn hp (thn h4 fun _ s5 ⟨x,H5,I5,r5,y5,st5,fr5⟩=>?_)
  have I5':=I5.pinned (stat fr5) (T.obj _ _ st5)
  refine wpAny_passesOwn hp (thn (hg _ s5 σ3 H5 x u _ I5' r5 (step x H5 y5)) fun _ s6 ⟨σ6,H6,I6,q6⟩=>?_)
  refine wpAny_passesOwn hp (thn (hb _ s6 σ6 H6 _ I6 q6) fun f s7 q7=>?_)
  have again:∀{σ7:St}{H7:Hp},Inv X (pins++ah1 fp s5.heap) σ7 H7 s7->N σ7 H7->∃m,m < n/\∃i σ' H',Inv X pins σ' H' s7/\tn i s7.heap/\(∀b∈fp,H' b=none)/\W i m σ' H':=fun{σ7 H7} I7 n7=>by
   obtain⟨m',hm,w7⟩:=hN σ7 H7 n7
   refine⟨m',hm,i+1,σ7,H7,I7.unpinned,T.keep _ _ _ st5 fun b hb o e=>(I7.pin (b,o) (List.mem_append_right _ (List.mem_append_right _ (Y3 hb e)))).1,fun b hb=>?_,w7⟩
   obtain⟨o,e,d⟩:=T.obj _ _ st5 b hb
   exact(I7.pin (b,o) (List.mem_append_right _ (List.mem_append_right _ (Y3 hb e)))).2.1
  cases f with
  | next=>obtain⟨σ7,H7,I7,n7⟩:=q7;exact again I7 n7
  | cont=>obtain⟨σ7,H7,I7,n7⟩:=q7;exact again I7 n7
  | brk=>obtain⟨σ7,H7,I7,q7⟩:=q7;exact⟨σ7,H7,I7.unpinned,q7⟩
  | ret v=>obtain⟨x7,σ7,H7,I7,r7,q7⟩:=q7;exact⟨x7,σ7,H7,I7.unpinned,r7,q7⟩
end
end L2
namespace L2
open PySem PySem.Spec PyProof.Rows
noncomputable abbrev R2:=V->V->Hp->VK->Prop
noncomputable def OpR(X:Cx) (f:Value->Value->Sem Value) (r:R2):Prop :=
 ∀(pins:List (Addr×Obj)) (s:Shared) (σ:St) (H:Hp) (x y:V) (v u:Value) (Q:VK),Inv X pins σ H s->C1 x v->C1 y u->r x y H Q ->
  wpAny (model X.prog X.w) X.A (f v u) (EP X pins σ Q) X.xe s
noncomputable def UnR(X:Cx) (f:Value->Sem Value) (r:V->Hp->VK->Prop):Prop :=
 ∀(pins:List (Addr×Obj)) (s:Shared) (σ:St) (H:Hp) (x:V) (v:Value) (Q:VK),Inv X pins σ H s->C1 x v->r x H Q ->
  wpAny (model X.prog X.w) X.A (f v) (EP X pins σ Q) X.xe s
noncomputable def O0(X:Cx) (f:Value) (r:List V->Hp->VK->Prop):Prop :=
 ∀(pins:List (Addr×Obj)) (s:Shared) (σ:St) (H:Hp) (xs:List V) (us:List Value) (Q:VK),Inv X pins σ H s->C5 xs us->r xs H Q ->
  wpAny (model X.prog X.w) X.A (call f us) (EP X pins σ Q) X.xe s
noncomputable def cn2(X:Cx) (r:V->Hp->(Bool->Hp->Prop)->Prop):Prop :=
 ∀(pins:List (Addr×Obj)) (s:Shared) (σ:St) (H:Hp) (x:V) (v:Value) (Q:Bool->Hp->Prop),Inv X pins σ H s->C1 x v->r x H Q ->
  wpAny (model X.prog X.w) X.A (truthy v) (TP X pins σ Q) X.xe s
noncomputable def tOp(r:R2) (ta tb:TE):TE:=fun σ H Q=>ta σ H fun x H1=>tb σ H1 fun y H2=>r x y H2 Q
noncomputable def tUn(r:V->Hp->VK->Prop) (ta:TE):TE:=fun σ H Q=>ta σ H fun x H1=>r x H1 Q
noncomputable def rI(C:Int->Int->Prop) (g:Int->Int->V):R2:=fun x y H Q=>∃i j,x=.int i/\y=.int j/\C i j/\Q (g i j) H
noncomputable def rI0(g:Int->Int->V):R2:=fun x y H Q=>∃i j,x=.int i/\y=.int j/\Q (g i j) H
noncomputable def rU(g:Int->V):V->Hp->VK->Prop:=fun x H Q=>∃i,x=.int i/\Q (g i) H
section
variable {X:Cx}{a b c:Expr}{ta tb tc:TE}{pos:Pos}
theorem bV9(ha:PE X a ta) (hb:PE X b tb) {pins:List (Addr×Obj)}{s:Shared}{σ:St}{H:Hp}{R:V->V->Hp->Prop}(I:Inv X pins σ H s)
  (h:ta σ H fun x H1=>tb σ H1 fun y H2=>R x y H2) {Q:Value->Shared->Prop}{f:Value->Value->Sem Value}
  (hf:∀v u s2 x y H2,Inv X pins σ H2 s2->C1 x v->C1 y u->R x y H2->wpAny (model X.prog X.w) X.A (f v u) Q X.xe s2) :
  wpAny (model X.prog X.w) X.A (eval a X.env) (fun v s₁=>wpAny (model X.prog X.w) X.A (eval b X.env) (fun u s₂=>wpAny (model X.prog X.w) X.A (f v u) Q X.xe s₂) X.xe s₁) X.xe s:=by
 refine thn (ha pins s σ H _ I h) fun v s1 ⟨x,H1,I1,r1,q1⟩=>?_
 refine thn (hb pins s1 σ H1 _ I1 q1) fun u s2 ⟨y,H2,I2,r2,q2⟩=>?_
 exact hf v u s2 x y H2 I2 r1 r2 q2
theorem bC2(ho:OpR X (binaryOp op) r) (ha:PE X a ta) (hb:PE X b tb):PE X (.BinOp a op b pos) (tOp r ta tb):=by
 intro pins s σ H Q I h
 exact wpAny_BinOp (bV9 ha hb I h fun v u s2 x y H2 I2 rx ry q=>ho pins s2 σ H2 x y v u Q I2 rx ry q)
theorem cb8(ho:UnR X (unaryOp op) r) (ha:PE X a ta):PE X (.UnaryOp op a pos) (tUn r ta):=by
 intro pins s σ H Q I h
 exact UnaryOp_ (thn (ha pins s σ H _ I h) fun v s1 ⟨x,H1,I1,r1,q1⟩=>ho pins s1 σ H1 x v Q I1 r1 q1)
theorem opI{f:Value->Value->Sem Value}{C:Int->Int->Prop}{g:Int->Int->Int}
  (rule:∀(i j:Int) (t u:Tok) (s:Shared) (Q:Value->Shared->Prop) (E:Value->Shared->Prop),C i j->Q (.int (g i j) s.toks) { s with toks:=s.toks+1 }->wpAny (model X.prog X.w) X.A (f (.int i t) (.int j u)) Q E s) :
  OpR X f (rI C fun i j=>.int (g i j)):=by
 intro pins s σ H x y v u Q I rx ry h
 obtain⟨i,j,rfl,rfl,hc,q⟩:=h
 obtain⟨t,rfl⟩:=rx
 obtain⟨t',rfl⟩:=ry
 exact rule i j t t' s _ _ hc ⟨.int (g i j),H,I.tok _,⟨_,rfl⟩,q⟩
theorem cc6{f:Value->Value->Sem Value}{g:Int->Int->Int}
  (rule:∀(i j:Int) (t u:Tok) (s:Shared) (Q:Value->Shared->Prop) (E:Value->Shared->Prop),Q (.int (g i j) s.toks) { s with toks:=s.toks+1 }->wpAny (model X.prog X.w) X.A (f (.int i t) (.int j u)) Q E s) :
  OpR X f (rI0 fun i j=>.int (g i j)):=by
 intro pins s σ H x y v u Q I rx ry h
 obtain⟨i,j,rfl,rfl,q⟩:=h
 obtain⟨t,rfl⟩:=rx
 obtain⟨t',rfl⟩:=ry
 exact rule i j t t' s _ _ ⟨.int (g i j),H,I.tok _,⟨_,rfl⟩,q⟩
theorem bt8{f:Value->Value->Sem Value}{g:Int->Int->Bool}
  (rule:∀(i j:Int) (t u:Tok) (s:Shared) (Q:Value->Shared->Prop) (E:Value->Shared->Prop),Q (.bool (g i j)) s->wpAny (model X.prog X.w) X.A (f (.int i t) (.int j u)) Q E s) :
  OpR X f (rI0 fun i j=>.bl (g i j)):=by
 intro pins s σ H x y v u Q I rx ry h
 obtain⟨i,j,rfl,rfl,q⟩:=h
 obtain⟨t,rfl⟩:=rx
 obtain⟨t',rfl⟩:=ry
 exact rule i j t t' s _ _ ⟨.bl (g i j),H,I,rfl,q⟩
noncomputable def cn7(i j:Int):Prop:=0<=j/\j<=1000000/\i.natAbs < 2 ^ 64
theorem bd0:OpR X (binaryOp .Add) (rI0 fun i j=>.int (i+j)):=cc6 fun _ _ _ _ _ _ _ q=>add_int q
theorem bM3:OpR X (binaryOp .Sub) (rI0 fun i j=>.int (i - j)):=cc6 fun _ _ _ _ _ _ _ q=>sub_int q
theorem bM5:OpR X (binaryOp .Mod) (rI (fun _ j=>0 < j) fun i j=>.int (i % j)):=opI fun i j _ _ _ _ _ hc q=>by
 have h1:(0:Int) < j:=hc
 exact mod_int' (by omega) (by rw[Int.fmod_eq_emod_of_nonneg i (by omega)];exact q)
theorem bM4:OpR X (binaryOp .Pow) (rI cn7 fun i j=>.int (i ^ j.toNat)):=opI fun _ _ _ _ _ _ _ hc q=>pow_int_small hc.1 hc.2.1 hc.2.2 q
theorem unI{f:Value->Sem Value}{g:Int->Int}
  (rule:∀(i:Int) (t:Tok) (s:Shared) (Q:Value->Shared->Prop) (E:Value->Shared->Prop),Q (.int (g i) s.toks) { s with toks:=s.toks+1 }->wpAny (model X.prog X.w) X.A (f (.int i t)) Q E s) :
  UnR X f (rU fun i=>.int (g i)):=by
 intro pins s σ H x v Q I rx h
 obtain⟨i,rfl,q⟩:=h
 obtain⟨t,rfl⟩:=rx
 exact rule i t s _ _ ⟨.int (g i),H,I.tok _,⟨_,rfl⟩,q⟩
theorem bH1:UnR X (unaryOp .USub) (rU fun i=>.int (-i)):=unI fun _ _ _ _ _ q=>neg_int q
end
section
variable {X:Cx}{a b c:Expr}{ta tb tc:TE}{pos:Pos}
theorem ar3(I:Inv X pins σ H s) (q:Q (.bl k) H) (e:k=k'):EP X pins σ Q (.bool k') s:=by
 subst e
 exact⟨.bl k,H,I,rfl,q⟩
theorem cc1:OpR X (compareOp .Lt) (rI0 fun i j=>.bl (decide (i < j))):=bt8 fun _ _ _ _ _ _ _ q=>lt_int q
theorem cc2:OpR X (compareOp .LtE) (rI0 fun i j=>.bl (decide (i<=j))):=bt8 fun _ _ _ _ _ _ _ q=>le_int q
theorem cc4:OpR X (compareOp .Gt) (rI0 fun i j=>.bl (decide (j < i))):=bt8 fun _ _ _ _ _ _ _ q=>gt_int q
theorem cc5:OpR X (compareOp .GtE) (rI0 fun i j=>.bl (decide (j<=i))):=bt8 fun _ _ _ _ _ _ _ q=>ge_int q
theorem aQ2:OpR X (compareOp .In) (fun x y H Q=>∃i j,x=.str i/\y=.str j/\Q (.bl (!(Builtin.Str.occurrences j i 0 j.length 1).isEmpty)) H):=by
 intro pins s σ H x y v u Q I rx ry h
 obtain⟨i,j,rfl,rfl,q⟩:=h
 obtain⟨t,rfl⟩:=rx
 obtain⟨t',rfl⟩:=ry
 exact in_str (ar3 I q rfl)
theorem bM6:OpR X (compareOp .Is) (fun x y H Q=>y=.non/\Q (.bl (decide (x=.non))) H):=by
 intro pins s σ H x y v u Q I rx ry h
 obtain⟨rfl,q⟩:=h
 cases ry
 refine is_none_gen (ar3 I q ?_)
 cases x<;>first
  | (cases rx;rfl)
  | (obtain⟨t,rfl⟩:=rx;rfl)
theorem bt4:OpR X (compareOp .IsNot) (fun x y H Q=>y=.non/\Q (.bl (!decide (x=.non))) H):=by
 intro pins s σ H x y v u Q I rx ry h
 obtain⟨rfl,q⟩:=h
 cases ry
 refine isnot_none_gen (ar3 I q ?_)
 cases x<;>first
  | (cases rx;rfl)
  | (obtain⟨t,rfl⟩:=rx;rfl)
theorem ap2:OpR X (compareOp .NotIn) (fun x y H Q=>∃i j,x=.str i/\y=.str j/\Q (.bl (!(!(Builtin.Str.occurrences j i 0 j.length 1).isEmpty))) H):=by
 intro pins s σ H x y v u Q I rx ry h
 obtain⟨i,j,rfl,rfl,q⟩:=h
 obtain⟨t,rfl⟩:=rx
 obtain⟨t',rfl⟩:=ry
 exact notIn_str (ar3 I q rfl)
theorem ap8(b:Expr) (h:op≠.In:=by decide) (h2:op≠.NotIn:=by decide):behindInMarks op b=false:=by
 have e1:(op==CmpOp.In)=false:=by cases op<;>first|rfl|exact absurd rfl h
 have e2:(op==CmpOp.NotIn)=false:=by cases op<;>first|rfl|exact absurd rfl h2
 cases b<;>simp[behindInMarks,e1,e2]
theorem aJ4(ho:OpR X (compareOp op) r) (ha:PE X a ta) (hb:PE X b tb) (hm:behindInMarks op b=false):PE X (.Compare a [op] [b] pos) (tOp r ta tb):=by
 intro pins s σ H Q I h
 exact wpAny_Compare1 (bV9 ha hb I h fun v u s2 x y H2 I2 rx ry q=>ho pins s2 σ H2 x y v u Q I2 rx ry q) hm
noncomputable def bB4(t:TE):TT:=fun σ H Q=>t σ H fun x H'=>∃k,x=.bl k/\Q k H'
theorem aJ0(ho:OpR X (compareOp op) r) (ha:PE X a ta) (hb:PE X b tb) (hm:behindInMarks op b=false):PT X (.Compare a [op] [b] pos) (bB4 (tOp r ta tb)):=by
 intro pins s σ H Q I h
 refine wpAny_isTrue_Compare1 (thn (ha pins s σ H _ I h) fun v s1 ⟨x,H1,I1,r1,q1⟩=>thn (hb pins s1 σ H1 _ I1 q1) fun u s2 ⟨y,H2,I2,r2,q2⟩ =>
  thn (ho pins s2 σ H2 x y v u _ I2 r1 r2 q2) fun c s3 ⟨z,H3,I3,r3,k,e,q3⟩=>?_) hm
 subst e
 cases r3
 exact wpAny_truthy_bool ⟨H3,I3,q3⟩
noncomputable def aX3(r r':R2) (ta tb tc:TE):TE:=fun σ H Q=>ta σ H fun x H1=>tb σ H1 fun y H2=>r x y H2 fun z H3=>∃k,z=.bl k /\
 (if k=true then tc σ H3 fun w' H4=>r' y w' H4 Q else Q (.bl false) H3)
theorem av5(ho:OpR X (compareOp op) r) (ho':OpR X (compareOp op') r') (ha:PE X a ta) (hb:PE X b tb) (hc:PE X c tc)
  (hm:lastMarks [op,op'] [b,c]=false:=by with_unfolding_all rfl):PE X (.Compare a [op,op'] [b,c] pos) (aX3 r r' ta tb tc):=by
 intro pins s σ H Q I h
 refine Compare_chain (thn (ha pins s σ H _ I h) fun v s1 ⟨x,H1,I1,r1,q1⟩=>chain_link (thn (hb pins s1 σ H1 _ I1 q1) fun u s2 ⟨y,H2,I2,r2,q2⟩ =>
  thn (ho pins s2 σ H2 x y v u _ I2 r1 r2 q2) fun d s3 ⟨z,H3,I3,r3,k,e,q3⟩=>?_)) hm
 subst e
 cases r3
 refine wpAny_truthy_bool ?_
 cases k with
 | false=>exact ite_ff ⟨.bl false,H3,I3,rfl,q3⟩
 | true=>exact ite_tt (chain_last (thn (hc pins s3 σ H3 _ I3 q3) fun w' s4 ⟨z',H4,I4,r4,q4⟩=>ho' pins s4 σ H4 y z' u w' Q I4 r2 r4 q4))
theorem au8(ho:OpR X (compareOp op) r) (ho':OpR X (compareOp op') r') (ha:PE X a ta) (hb:PE X b tb) (hc:PE X c tc)
  (hm:lastMarks [op,op'] [b,c]=false:=by with_unfolding_all rfl):PT X (.Compare a [op,op'] [b,c] pos) (bB4 (aX3 r r' ta tb tc)):=by
 intro pins s σ H Q I h
 refine isTrue_chain (thn (ha pins s σ H _ I h) fun v s1 ⟨x,H1,I1,r1,q1⟩=>test_link (thn (hb pins s1 σ H1 _ I1 q1) fun u s2 ⟨y,H2,I2,r2,q2⟩ =>
  thn (ho pins s2 σ H2 x y v u _ I2 r1 r2 q2) fun d s3 ⟨z,H3,I3,r3,k,e,q3⟩=>?_)) hm
 subst e
 cases r3
 refine wpAny_truthy_bool ?_
 cases k with
 | false =>
  obtain⟨k',e',q'⟩:=q3
  cases e'
  exact ite_ff ⟨H3,I3,q'⟩
 | true =>
  refine ite_tt (test_last (thn (hc pins s3 σ H3 _ I3 q3) fun w' s4 ⟨z',H4,I4,r4,q4⟩=>thn (ho' pins s4 σ H4 y z' u w' _ I4 r2 r4 q4) fun d' s5 ⟨z2,H5,I5,r5,k2,e2,q5⟩=>?_))
  subst e2
  cases r5
  exact wpAny_truthy_bool ⟨H5,I5,q5⟩
noncomputable def bX1(K:PySem.W.Frag) (x:V) (H:Hp) (k:Bool):Prop :=
 match x with
 | .non=>k=false
 | .bl b=>k=b
 | .int i=>k=(i != 0)
 | .str y=>y.length<=sizeLine/\k=((y.length:Int) != 0)
 | .byt y=>y.size<=sizeLine/\k=((y.size:Int) != 0)
 | .ref p=>(∃xs,SqL K H p xs/\k = !xs.isEmpty)\/(∃xs,SqT K H p xs/\k = !xs.isEmpty)\/∃kvs,H p=some (.dK kvs)/\k = !kvs.isEmpty
 | _=>False
theorem aD2{κ:Type}{kvs:List (κ×V)}{vs:List (κ×Value)}(r:KV kvs vs):(!vs.isEmpty) = !kvs.isEmpty:=by
 cases r<;>rfl
theorem ah8(r:C5 xs its):(!its.toArray.isEmpty) = !xs.isEmpty:=by
 cases r<;>simp
theorem k7:(sizeLine:Nat) < 2 ^ 63:=by rw[sizeLine_eq];decide
theorem aW9:cn2 X (fun x H Q=>∃k,bX1 X.K x H k/\Q k H):=by
 intro pins s σ H x v Q I rx h
 obtain⟨k,e,q⟩:=h
 have hl:=k7
 have hs:sizeLine=16777216:=sizeLine_eq
 cases x with
 | non =>
  cases rx
  have e':k=false:=e
  subst e'
  exact truthy_none ⟨H,I,q⟩
 | bl b =>
  cases rx
  have e':k=b:=e
  subst e'
  exact wpAny_truthy_bool ⟨H,I,q⟩
 | int i =>
  obtain⟨t,rfl⟩:=rx
  have e':k=(i != 0):=e
  subst e'
  exact PySem.P.truthy_int ⟨H,I,q⟩
 | str y =>
  obtain⟨t,rfl⟩:=rx
  obtain⟨hy,e'⟩:y.length<=sizeLine/\k=((y.length:Int) != 0):=e
  subst e'
  exact PySem.P.truthy_str (by omega) ⟨H,I.tok _,q⟩
 | byt y =>
  obtain⟨t,rfl⟩:=rx
  obtain⟨hy,e'⟩:y.size<=sizeLine/\k=((y.size:Int) != 0):=e
  subst e'
  exact PySem.W.truthy_bytes (by omega) ⟨H,I.tok _,q⟩
 | ref p =>
  cases rx
  have e':(∃xs,SqL X.K H p xs/\k = !xs.isEmpty)\/(∃xs,SqT X.K H p xs/\k = !xs.isEmpty)\/∃kvs,H p=some (.dK kvs)/\k = !kvs.isEmpty:=e
  rcases e' with⟨xs,hx,e'⟩|⟨xs,hx,e'⟩|⟨kvs,hx,e'⟩
  ·subst e'
   obtain⟨its,r,pl,hz⟩:=I.list hx
   have hlen:=r.length
   exact wpAny_truthy_list pl.isList (by simp only[List.size_toArray];omega) ⟨H,I.tok _,by rw[ah8 r];exact q⟩
  ·subst e'
   obtain⟨its,r,pl,hz⟩:=I.tuple hx
   have hlen:=r.length
   exact truthy_tuple pl (by simp only[List.size_toArray];omega) ⟨H,I.tok _,by rw[ah8 r];exact q⟩
  ·subst e'
   obtain⟨hz,hS,vs,r,m⟩:kvs.length<=sizeLine/\(p==sysModules)=false/\∃vs,KV kvs vs/\s.heap.DictOf (C8 X.prog X.w) p vs:=I.hok p _ hx
   have hlen:kvs.length=vs.length:=Paired.length r
   exact wpAny_truthy_dict hS m (by omega) ⟨H,I.tok _,by rw[aD2 r];exact q⟩
 | _=>exact(show False from e).elim
theorem au7(ha:PE X a ta) (he:∀whole,isTrue a X.env whole=(do let v ← whole;standAt a.pos;holding [v] (truthy v))) :
  PT X a (fun σ H Q=>ta σ H fun x H'=>∃k,bX1 X.K x H' k/\Q k H'):=by
 intro pins s σ H Q I h
 exact isTrue_plain (thn (ha pins s σ H _ I h) fun v s1 ⟨x,H1,I1,r1,q1⟩=>aW9 pins s1 σ H1 x v Q I1 r1 q1) (he _)
theorem aC4:OpR X (binaryOp .Add) (fun x y H Q=>∃i j,x=.str i/\y=.str j/\i.length+j.length<=sizeLine/\Q (.str (i++j)) H):=by
 intro pins s σ H x y v u Q I rx ry h
 obtain⟨i,j,rfl,rfl,hz,q⟩:=h
 obtain⟨t,rfl⟩:=rx
 obtain⟨t',rfl⟩:=ry
 exact add_str (fun t' tk=>⟨.str (i++j),H,I.tok _,⟨_,rfl⟩,q⟩) hz
theorem Q5(r:C5 [x] us):∃u,us=[u]/\C1 x u:=by
 cases r with
 | cons r1 r2=>cases r2;exact⟨_,rfl,r1⟩
theorem aG0(r:C5 [x,y] us):∃u w',us=[u,w']/\C1 x u/\C1 y w':=by
 cases r with
 | cons r1 r2 =>
  cases r2 with
  | cons r3 r4=>cases r4;exact⟨_,_,rfl,r1,r3⟩
theorem bl4:O0 X (.builtin "abs") (fun xs H Q=>∃i,xs=[.int i]/\Q (.int (if i < 0 then -i else i)) H):=by
 intro pins s σ H xs us Q I r h
 obtain⟨i,rfl,q⟩:=h
 obtain⟨u,rfl,t,rfl⟩:=Q5 r
 exact call_abs_int fun u tk=>⟨.int (if i < 0 then -i else i),H,I.tok _,⟨_,rfl⟩,q⟩
theorem aV2(hc:X.calm=true):O0 X (.builtin "max") (fun xs H Q=>∃i j,xs=[.int i,.int j]/\Q (.int (if j > i then j else i)) H):=by
 intro pins s σ H xs us Q I r h
 obtain⟨i,j,rfl,q⟩:=h
 obtain⟨u,w',rfl,⟨t,rfl⟩,⟨t',rfl⟩⟩:=aG0 r
 refine max_two_ints (I.ok.hd hc) fun h' tk k=>⟨_,H,I.kept k,?_,q⟩
 by_cases hj:j > i
 ·rw[if_pos hj,if_pos hj];exact⟨_,rfl⟩
 ·rw[if_neg hj,if_neg hj];exact⟨_,rfl⟩
theorem aU9(hc:X.calm=true):O0 X (.builtin "min") (fun xs H Q=>∃i j,xs=[.int i,.int j]/\Q (.int (if j < i then j else i)) H):=by
 intro pins s σ H xs us Q I r h
 obtain⟨i,j,rfl,q⟩:=h
 obtain⟨u,w',rfl,⟨t,rfl⟩,⟨t',rfl⟩⟩:=aG0 r
 refine min_two_ints (I.ok.hd hc) fun h' tk k=>⟨_,H,I.kept k,?_,q⟩
 by_cases hj:j < i
 ·rw[if_pos hj,if_pos hj];exact⟨_,rfl⟩
 ·rw[if_neg hj,if_neg hj];exact⟨_,rfl⟩
theorem am2:O0 X (.type "int") (fun xs H Q=>(∃i,xs=[.int i]/\Q (.int i) H)\/∃k,xs=[.bl k]/\Q (.int (if k then 1 else 0)) H):=by
 intro pins s σ H xs us Q I r h
 rcases h with⟨i,rfl,q⟩|⟨k,rfl,q⟩
 ·obtain⟨u,rfl,t,rfl⟩:=Q5 r
  exact call_int_int ⟨.int i,H,I,⟨_,rfl⟩,q⟩
 ·obtain⟨u,rfl,r1⟩:=Q5 r
  cases r1
  exact call_int_bool ⟨.int (if k then 1 else 0),H,I.tok _,⟨_,rfl⟩,q⟩
theorem as3:O0 X (.type "str") (fun xs H Q=>∃i,xs=[.int i]/\i.natAbs.log2 < 1920/\Q (.str (toString i)) H):=by
 intro pins s σ H xs us Q I r h
 obtain⟨i,rfl,hz,q⟩:=h
 obtain⟨u,rfl,t,rfl⟩:=Q5 r
 exact PySem.P.str_of_int hz ⟨.str _,H,I.tok _,⟨_,rfl⟩,q⟩
end
end L2
namespace L2
open PySem PySem.Spec PyProof.Rows
structure ObjM (h:Heap) (x dx C:Addr) (mA:Str->Option Value):Prop where
 obj:h.get? x=some (PySem.W.instObj C dx)
 ns:h.Ns1 dx mA
 ne:dx≠x
theorem aR5{h:Heap}{dx:Addr}{mA:Str->Option Value}(n:h.Ns1 dx mA):∃od,h.get? dx=some od/\∀name,PySem.W.lookIn name od=some (mA name):=by
 obtain⟨o,es,ep,ho,hd,hk,_,hm⟩:=n
 refine⟨o,ho,fun name=>?_⟩
 have e:=hm name
 unfold nsFind findBy at e
 rw[← Array.find?_toList]at e
 unfold PySem.W.lookIn
 rw[hd]
 dsimp only
 split
 ·rename_i y q
  rw[q]at e
  exact congrArg some e
 ·rename_i q
  rw[q]at e
  have a:es.toList.any (·.refKey)=false:=by
   rw[List.any_eq_false]
   intro y hy
   obtain⟨z,t,hkey⟩:=hk y (Array.mem_toList_iff.mp hy)
   simp[DictEntry.refKey,hkey]
  have a':¬es.toList.any (·.refKey)=true:=by rw[a];exact Bool.false_ne_true
  rw[if_neg a']
  exact congrArg some e
theorem ObjM.look(I:ObjM h x dx C mA):∃od,PySem.W.InstAt h x (PySem.W.instObj C dx) C (some od)/\∀name,PySem.W.lookIn name od=some (mA name) :=
 let⟨od,ho,hl⟩:=aR5 I.ns
 ⟨od,⟨I.obj,rfl,rfl,ho⟩,hl⟩
section
variable {prog:Program}{w:World}{A:Around}{E:Value->Shared->Prop}{s:Shared}{K:PySem.W.Frag}{x dx C f:Addr}{mA:Str->Option Value}{name:Str}{v:Value}
theorem by6(X:K.In s.heap) (I:ObjM s.heap x dx C mA) (hg:PySem.W.plainGet K C name=true) (hh:PySem.W.hasDictIn K C=true)
  (ha:PySem.W.findIn K (.ref C) name=some none) (hv:mA name=some v) (hv':PySem.W.handedIn v=true) (h:Q v { s with toks:=s.toks+1 }) :
  wpAny (model prog w) A (getAttr (.ref x) name expr) Q E s:=by
 obtain⟨od,J,hl⟩:=I.look
 exact PySem.W.get_value X J (PySem.W.plainGet_of hg).1 (PySem.W.findObj_own hh ha rfl (by rw[hl,hv])) hv' h
theorem bi5(X:K.In s.heap) (I:ObjM s.heap x dx C mA) (hg:PySem.W.plainGet K C name=true)
  (hf:PySem.W.findIn K (.ref C) name=some (some (.ref f))) (ht:PySem.W.isFn K (.ref f)=true) (hv:mA name=none) (h:Q (.ref f,[.ref x]) s) :
  wpAny (model prog w) A (getMethod (.ref x) name pl) Q E s:=by
 obtain⟨od,J,hl⟩:=I.look
 exact PySem.W.method_fn X J (PySem.W.plainGet_of hg).1 (PySem.W.plainGet_of hg).2 hf (beq_iff_eq.mp ht) (by show(PySem.W.lookIn name od).map (·.isSome)=some false;rw[hl,hv];rfl) h
theorem bp8(X:K.In s.heap) (I:ObjM s.heap x dx C mA)
  (hs:PySem.W.findIn K (.ref C) "__setattr__" = some (some (.builtin "object.__setattr__"))) (hp:PySem.W.plainOver K C=true) (ht:PySem.W.takerIn K C name=some none) (hh:PySem.W.hasDictIn K C=true)
  (hw:PySem.Within mA ns) (hsz:ns.length<=sizeLine)
  (h:∀h',ObjM h' x dx C (fun y=>if y=name then some v else mA y)->Heap.SameBut dx s.heap h'->Q () { s with heap:=h',toks:=s.toks+2 }) :
  wpAny (model prog w) A (setAttr (.ref x) name v) Q E s:=by
 obtain⟨od,J,hl⟩:=I.look
 refine PySem.W.set_plain X J hs (PySem.W.osa_open (s:={ s with toks:=s.toks+1 }) (r:=none) X J hp ht fun b=>?_)
 obtain⟨cd,hc,hd'⟩:=PySem.W.any_some hh
 have hx:s.heap.get? x=some ⟨.ref C,some dx,.plain,#[]⟩:=I.obj
 refine wpAny_bind (wpAny_pure (wpAny_bind (wpAny_bind (wpAny_loadPart hx (wpAny_bind (PySem.W.Looks.here (s:={ s with toks:=s.toks+1 }) (PySem.W.looks_clsIn X hc) ?_))))))
 rw[hd']
 refine wpAny_pure (a:=some dx) (wpAny_bind (wpAny_pure (wpAny_bind ?_)))
 refine wpAny_nsSet1 (s:={ s with toks:=s.toks+1 }) I.ns fun h' hn2 hs2=>?_
 obtain⟨oD,esD,epD,hoD,hdD,hcD⟩:=hn2.count (PySem.Within.cons name v hw)
 refine wpAny_bind (wpAny_lookBehind hoD (by rw[hdD];exact pastItsLine_dict (Nat.le_trans hcD (by rw[List.length_cons];omega))) ?_)
 exact wpAny_pure (h _ ⟨(hs2.2 _ (Ne.symm I.ne)).trans I.obj,hn2,I.ne⟩ hs2)
theorem be7(X:K.In s.heap) (hm:PySem.W.makesIn K C=true)
  (hi:PySem.W.findIn K (.ref C) "__init__" = some (some (.ref f))) (hf:PySem.W.typeIn K (.ref f)=some (.type "function"))
  (h:codeAny (model prog w) (A.under (.builtin "type.__call__" ⟨.ref C::vs,kw⟩)) (.call (.ref f) ⟨.ref (s.heap.objs.size+1)::vs,kw⟩) (PySem.W.InitBack (s.heap.objs.size+1) R)
   { s with heap:=(s.heap.push PySem.W.emptyDict).push (PySem.W.instObj C s.heap.objs.size) }) :
  codeAny (model prog w) A (.call (.ref C) ⟨vs,kw⟩) R s:=by
 obtain⟨hh,g,d,t,os⟩:=s
 exact PySem.W.make_core (PySem.W.makes_of X hm) (PySem.W.looks_findIn X hi) (fun self=>PySem.W.bind_fn X self hf) (.inl rfl) h
end
noncomputable def i3(f:Str) (v:V):List (Str×V)->List (Str×V)
 | []=>[(f,v)]
 | (g,x)::r=>if g=f then(g,v)::r else(g,x)::i3 f v r
theorem ac7(f g:Str) (v:V):∀fs:List (Str×V),(i3 f v fs).lookup g=if g=f then some v else fs.lookup g
 | []=>by
  show List.lookup g [(f,v)]=_
  by_cases h:g=f
  ·have hb:(g==f)=true:=beq_iff_eq.mpr h
   simp only[List.lookup,hb,if_pos h]
  ·have hb:(g==f)=false:=beq_eq_false_iff_ne.mpr h
   simp only[List.lookup,hb,if_neg h]
 | (k,x)::r=>by
  have ih:=ac7 f g v r
  rw[show i3 f v ((k,x)::r)=(if k=f then(k,v)::r else(k,x)::i3 f v r) from rfl]
  by_cases hk:k=f
  ·rw[if_pos hk]
   by_cases h:g=k
   ·have hb:(g==k)=true:=beq_iff_eq.mpr h
    simp only[List.lookup,hb,if_pos (h.trans hk)]
   ·have hb:(g==k)=false:=beq_eq_false_iff_ne.mpr h
    simp only[List.lookup,hb,if_neg (fun e:g=f=>h (e.trans hk.symm))]
  ·rw[if_neg hk]
   by_cases h:g=k
   ·have hb:(g==k)=true:=beq_iff_eq.mpr h
    simp only[List.lookup,hb,if_neg (fun e:g=f=>hk (h.symm.trans e))]
   ·have hb:(g==k)=false:=beq_eq_false_iff_ne.mpr h
    simp only[List.lookup,hb]
    exact ih
theorem aa6(f:Str) (v:V):∀fs:List (Str×V),f∈(i3 f v fs).map (·.1)/\∀g,g∈fs.map (·.1)->g∈(i3 f v fs).map (·.1)
 | []=>⟨by simp[i3],fun g h=>by simp at h⟩
 | (k,x)::r=>by
  obtain⟨i1,i2⟩:=aa6 f v r
  rw[show i3 f v ((k,x)::r)=(if k=f then(k,v)::r else(k,x)::i3 f v r) from rfl]
  by_cases hk:k=f
  ·rw[if_pos hk]
   subst hk
   exact⟨by simp,fun g h=>by simpa using h⟩
  ·rw[if_neg hk]
   refine⟨?_,fun g h=>?_⟩
   ·rw[List.map_cons]
    exact List.mem_cons_of_mem _ i1
   ·rw[List.map_cons]at h ⊢
    rcases List.mem_cons.mp h with e|e
    ·exact List.mem_cons.mpr (.inl e)
    ·exact List.mem_cons_of_mem _ (i2 g e)
theorem ac8(f:Str) (v:V):∀fs:List (Str×V),(i3 f v fs).length<=fs.length+1
 | []=>by simp[i3]
 | (k,x)::r=>by
  have ih:=ac8 f v r
  rw[show i3 f v ((k,x)::r)=(if k=f then(k,v)::r else(k,x)::i3 f v r) from rfl]
  by_cases hk:k=f
  ·rw[if_pos hk,List.length_cons,List.length_cons];omega
  ·rw[if_neg hk,List.length_cons,List.length_cons];omega
theorem Y9.some_of(r:Y9 (some v) o):∃u,o=some u/\C1 v u:=by
 cases o with
 | none=>exact(show False from r).elim
 | some u=>exact⟨u,rfl,r⟩
theorem Y9.none_of(r:Y9 none o):o=none:=by
 cases o with
 | none=>rfl
 | some u=>exact(show False from r).elim
theorem aT0(r:C1 v u):PySem.W.handedIn u=true:=by
 cases v with
 | non=>cases(show u=Value.none from r);rfl
 | bl b=>cases(show u=Value.bool b from r);rfl
 | int i=>obtain⟨t,e⟩:=(show ∃t,u=Value.int i t from r);cases e;rfl
 | str x=>obtain⟨t,e⟩:=(show ∃t,u=Value.str x t from r);cases e;rfl
 | byt b=>obtain⟨t,e⟩:=(show ∃t,u=Value.bytes b t from r);cases e;rfl
 | flt b=>obtain⟨t,e⟩:=(show ∃t,u=Value.float b t from r);cases e;rfl
 | ref a=>cases(show u=Value.ref a from r);rfl
 | ty n=>cases(show u=Value.type n from r);rfl
section
variable {P:Program}{w:World}{H H':Hp}{h h':Heap}{a C dx:Addr}{fs fs':List (Str×V)}
theorem aq8(hok:HOk P w H h) (e:H a=some (.ins C dx fs)):∃mA,ObjM h a dx C mA/\(∀f,Y9 (fs.lookup f) (mA f))/\PySem.Within mA (fs.map (·.1))/\fs.length<=1000/\H dx=some (.own a):=by
 obtain⟨d,z,ne,ob,mA,n,r,q⟩:=(show N3 P w H h a (.ins C dx fs) from hok a _ e)
 exact⟨mA,⟨ob,n,ne⟩,r,q,z,d⟩
end
structure Cls (K:PySem.W.Frag) (C:Addr):Prop where
 pg:PySem.W.plainGet K C Str.empty=true
 hd:PySem.W.hasDictIn K C=true
 po:PySem.W.plainOver K C=true
 sa:PySem.W.findIn K (.ref C) "__setattr__" = some (some (.builtin "object.__setattr__"))
theorem Cls.get{K:PySem.W.Frag}{C:Addr}(c:Cls K C) (f:Str):PySem.W.plainGet K C f=true:=c.pg
noncomputable def Z0(K:PySem.W.Frag) (C:Addr) (f:Str):Prop:=PySem.W.findIn K (.ref C) f=some none
theorem Z0.taker{K:PySem.W.Frag}{C:Addr}{f:Str}(n:Z0 K C f):PySem.W.takerIn K C f=some none:=by
 unfold PySem.W.takerIn
 rw[show PySem.W.findIn K (.ref C) f=some none from n]
 rfl
structure Meth (K:PySem.W.Frag) (C:Addr) (m:Str) (f:Addr):Prop where
 at_:PySem.W.findIn K (.ref C) m=some (some (.ref f))
 fn:PySem.W.isFn K (.ref f)=true
 kp:PySem.W.keepIn K (.ref f)=true
section
variable {X:Cx}{pins:List (Addr×Obj)}{σ:St}{H:Hp}{s:Shared}{a C dx:Addr}{fs:List (Str×V)}{f:Str}{v:V}{A:Around}{E:Value->Shared->Prop}
theorem aD6(I:Inv X pins σ H s) (e:H a=some (.ins C dx fs)) (c:Cls X.K C) (n:Z0 X.K C f) (l:fs.lookup f=some v)
  (h:∀u s',Inv X pins σ H s'->C1 v u->Q u s'):wpAny (model X.prog X.w) A (getAttr (.ref a) f b) Q E s:=by
 obtain⟨mA,O,r,_,_,_⟩:=aq8 I.hok e
 obtain⟨u,hu,ru⟩:=Y9.some_of (v:=v) (o:=mA f) (by rw[← l];exact r f)
 exact by6 I.kIn O (c.get f) c.hd n hu (aT0 ru) (h u _ (I.tok _) ru)
theorem l4(I:Inv X pins σ H s) (e:H a=some (.ins C dx fs)) (c:Cls X.K C) (k:Meth X.K C m g) (l:fs.lookup m=none)
  (h:Q (.ref g,[.ref a]) s):wpAny (model X.prog X.w) A (getMethod (.ref a) m pl) Q E s:=by
 obtain⟨mA,O,r,_,_,_⟩:=aq8 I.hok e
 have hn:mA m=none:=Y9.none_of (by rw[← l];exact r m)
 exact bi5 I.kIn O (c.get m) k.at_ k.fn hn h
theorem aB6(I:Inv X pins σ H s) (e:H a=some (.ins C dx fs)) (c:Cls X.K C) (n:Z0 X.K C f) (hl:fs.length < 1000) (ry:C1 y u)
  (h:∀s',Inv X pins σ (upd H a (.ins C dx (i3 f y fs))) s'->Q () s'):wpAny (model X.prog X.w) A (setAttr (.ref a) f u) Q E s:=by
 obtain⟨mA,O,r,wi,_,ho⟩:=aq8 I.hok e
 have hz:(fs.map (·.1)).length<=sizeLine:=by rw[List.length_map,sizeLine_eq];omega
 refine bp8 I.kIn O c.sa c.po n.taker c.hd wi hz fun h' O' sb=>h _ ?_
 have hd:∃o,h'.get? dx=some o:=let⟨o,_,_,e',_⟩:=O'.ns;⟨o,e'⟩
 refine I.write (x:=a) (e:=dx) (by rw[e];exact True.intro) (.inr ho) (fun b q hb z=>(sb.2 b hb).trans z) hd ?_
 refine⟨by rw[A6 O.ne];exact ho,?_,O.ne,O'.obj,_,O'.ns,fun g=>?_,fun g hg=>?_⟩
 ·have:=ac8 f y fs;omega
 ·show Y9 ((i3 f y fs).lookup g) (if g=f then some u else mA g)
  rw[ac7]
  by_cases q:g=f
  ·rw[if_pos q,if_pos q];exact ry
  ·rw[if_neg q,if_neg q];exact r g
 ·by_cases q:g=f
  ·rw[q];exact(aa6 f y fs).1
  ·refine(aa6 f y fs).2 g (wi g fun z=>hg ?_)
   show(if g=f then some u else mA g)=none
   rw[if_neg q];exact z
theorem Inv.made(I:Inv X pins σ H s):Inv X pins σ (upd (upd H s.heap.objs.size (.own (s.heap.objs.size+1))) (s.heap.objs.size+1) (.ins C s.heap.objs.size []))
  { s with heap:=(s.heap.push PySem.W.emptyDict).push (PySem.W.instObj C s.heap.objs.size) }:=by
 have e1:(s.heap.push PySem.W.emptyDict).get? s.heap.objs.size=some PySem.W.emptyDict:=Heap.get?_push_size s.heap rfl
 have e2:((s.heap.push PySem.W.emptyDict).push (PySem.W.instObj C s.heap.objs.size)).get? (s.heap.objs.size+1)=some (PySem.W.instObj C s.heap.objs.size):=by
  have:=Heap.get?_push_size (s.heap.push PySem.W.emptyDict) (o:=PySem.W.instObj C s.heap.objs.size) rfl
  rwa [Heap.size_push]at this
 have e3:(s.heap.push PySem.W.emptyDict).Ns s.heap.objs.size (fun _=>none):=⟨PySem.W.emptyDict,#[],_,e1,rfl,(fun e he=>absurd he (by simp)),fun _=>rfl⟩
 have I1:=I.laid (a:=s.heap.objs.size) (o:=.own (s.heap.objs.size+1)) (h':=s.heap.push PySem.W.emptyDict) (t':=s.toks) (fun b u q=>Heap.get?_push_of_some _ q) (Nat.le_refl _) ⟨_,e1⟩
 refine I1.laid (a:=s.heap.objs.size+1) (o:=.ins C s.heap.objs.size []) (t':=s.toks) (fun b u q=>Heap.get?_push_of_some _ q) (Nat.le_of_eq (Heap.size_push _ _)) ?_
 have ne:s.heap.objs.size≠s.heap.objs.size+1:=Nat.ne_of_lt (Nat.lt_succ_self _)
 refine⟨by rw[A6 ne,A5],Nat.zero_le _,ne,e2,fun _=>none,(Heap.Ns1.of_empty e3).at fun o q=>Heap.get?_push_of_some _ q,fun _=>True.intro,fun y hy=>absurd rfl hy⟩
theorem bA9(hb:attributeBase e f env (eval e env)=eval e env)
  (h:wpAny (model prog w) A (eval e env) (fun o s₁=>wpAny (model prog w) A (getAttr o f true) Q E s₁) E s):wpAny (model prog w) A (eval (.Attribute e f pos) env) Q E s :=
 Attribute_any_ h (by rw[arm_eval_Attribute,hb])
end
noncomputable def cj5(K:PySem.W.Frag) (ta:TE) (f:Str):TE:=fun σ H Q=>ta σ H fun x H1=>∃a C dx fs v,x=.ref a/\H1 a=some (.ins C dx fs)/\Cls K C/\Z0 K C f/\fs.lookup f=some v/\Q v H1
noncomputable def ck1(K:PySem.W.Frag) (ta tv:TE) (f:Str):TS:=fun D σ H=>tv σ H fun y H1=>ta σ H1 fun x H2=>∃a C dx fs,x=.ref a/\H2 a=some (.ins C dx fs)/\Cls K C/\Z0 K C f/\fs.length < 1000 /\
 D.nx σ (upd H2 a (.ins C dx (i3 f y fs)))
section
variable {X:Cx}{o e value:Expr}{f:Str}{pos pos' tpos:Pos}{ta tv:TE}
theorem bL1(he:PE X e ta) (hb:attributeBase e f X.env (eval e X.env)=eval e X.env):PE X (.Attribute e f pos) (cj5 X.K ta f):=by
 intro pins s σ H Q I h
 refine bA9 hb (thn (he pins s σ H _ I h) fun u s1 ⟨x,H1,I1,rx,a,C,dx,fs,v,ex,ea,c,n,l,q⟩=>?_)
 subst ex
 obtain rfl:u=Value.ref a:=rx
 exact aD6 I1 ea c n l fun u' s2 I2 ru=>⟨v,H1,I2,ru,q⟩
theorem ao5(ha:PE X o ta) (hv:PE X value tv) (hs:swapsWith value (some (.Attribute o f pos')) pos.line X.env=pure false):PS X (.Assign [.Attribute o f pos'] value pos) (ck1 X.K ta tv f):=by
 intro pins s σ H D I h
 refine plainObj_wpAny_Assign_Attribute (thn (hv pins s σ H _ I h) fun u s1 ⟨y,H1,I1,ry,q⟩=>thn (ha pins s1 σ H1 _ I1 q) fun ov s2 ⟨x,H2,I2,rx,a,C,dx,fs,ex,ea,c,n,l,q2⟩=>?_) hs
 subst ex
 obtain rfl:ov=Value.ref a:=rx
 exact aB6 I2 ea c n l ry fun s3 I3=>⟨σ,_,I3,q2⟩
theorem bC9(he:PE X e te) (I:Inv X pins σ H s)
  (h:te σ H fun x H1=>∃a C dx fs g,x=.ref a/\H1 a=some (.ins C dx fs)/\Cls X.K C/\Meth X.K C m g/\fs.lookup m=none /\
   ∀s1,Inv X pins σ H1 s1->wpAny (model X.prog X.w) X.A (callWith pos (.ref g) [.ref a] (backTo pos (starEach args X.env)) (backToKw pos (keywordEach [] X.env))) Q X.xe s1)
  (ht:eval (.Call (.Attribute e m apos) args [] pos) X.env=(do
   let ov ← eval e X.env
   standAt apos.atName
   let(f,first) ← holding [ov] (getMethod ov m pl)
   callWith pos f first (backTo pos (starEach args X.env)) (backToKw pos (keywordEach [] X.env)))) :
  wpAny (model X.prog X.w) X.A (eval (.Call (.Attribute e m apos) args [] pos) X.env) Q X.xe s:=by
 refine PySem.W.methodCall_KW (pl:=pl) (thn (he pins s σ H _ I h) fun u s1 ⟨x,H1,I1,rx,a,C,dx,fs,g,ex,ea,c,k,l,q⟩=>?_) ht
 subst ex
 obtain rfl:u=Value.ref a:=rx
 exact l4 I1 ea c k l (q s1 I1)
end
section
variable {X:Cx}{pins:List (Addr×Obj)}{σ:St}{H:Hp}{s:Shared}{A:Around}{E:Value->Shared->Prop}{Q:Value->Shared->Prop}{c:Value}{b:Bool}
end
end L2
namespace L2
open PySem PySem.Spec PyProof.Rows
structure Room (k:Nat) (A:Around):Prop where
 hd:A.handled=none
 dp:A.depth+3*k+5 < recursionLimit
 un:A.units+16*k+200 < cLine
theorem Room.mono(r:Room k A) (h:j<=k):Room j A:=⟨r.hd,by have:=r.dp;omega,by have:=r.un;omega⟩
theorem Room.deeper(r:Room (k+1) A) (env:Env):Room k (A.deeper env) :=
 ⟨r.hd,by have:=r.dp;show A.depth+1+3*k+5 < _;omega,by have:=r.un;show A.units+3+16*k+200 < _;omega⟩
theorem aC7{A:Around}{C:Addr}{us:List Value}{kw:List (Str×Value)}:(A.under (.builtin "type.__call__" ⟨.ref C::us,kw⟩)).depth=A.depth+1:=by
 first|rfl|simp[Around.under,Code.weight,Code.isCreation,Code.isGuard,Code.isCaller,Code.frames,Code.isFrame,guardIds]
theorem aC6{A:Around}{C:Addr}{us:List Value}{kw:List (Str×Value)}:(A.under (.builtin "type.__call__" ⟨.ref C::us,kw⟩)).units=A.units+1:=by
 first|rfl|simp[Around.under,Code.cUnits,Code.frames,Code.isFrame]
theorem Room.make(r:Room (k+1) A) (C:Addr) (us:List Value) (kw:List (Str×Value)):Room k (A.under (.builtin "type.__call__" ⟨.ref C::us,kw⟩)) :=
 ⟨r.hd,by have:=r.dp;rw[aC7];omega,by have:=r.un;rw[aC6];omega⟩
theorem Room.depth(r:Room k A):A.depth < recursionLimit:=by have:=r.dp;omega
theorem Room.units(r:Room k A):A.units+64 < cLine:=by have:=r.un;omega
noncomputable def bo9:TA:=fun _ H Q=>Q [] H
noncomputable def ca2(ta:TE) (tr:TA):TA:=fun σ H Q=>ta σ H fun x H1=>tr σ H1 fun xs H2=>Q (x::xs) H2
section
variable {X:Cx}{e:Expr}{es:List Expr}{te:TE}{t:TA}{pos:Pos}
theorem C6:PA X [] bo9:=fun _ _ _ _ H Q I h=>Calls.spliced_nil ⟨[],H,I,.nil,h⟩
theorem B2(ha:PE X e te) (hr:PA X es t) (hs:starEach (e::es) X.env=(false,eval e X.env)::starEach es X.env:=by rfl):PA X (e::es) (ca2 te t):=by
 intro pos pins s σ H Q I h
 rw[hs]
 show wpAny _ _ (spliced ((false,eval e X.env)::backTo pos (starEach es X.env))) _ _ s
 refine Calls.spliced_cons (thn (ha pins s σ H _ I h) fun u s1 ⟨x,H1,I1,r1,q1⟩=>?_)
 exact thn (hr pos pins s1 σ H1 _ I1 q1) fun us s2 ⟨xs,H2,I2,r2,q2⟩=>⟨x::xs,H2,I2,.cons r1 r2,q2⟩
noncomputable def ci6(t:TA):TE:=fun σ H Q=>t σ H fun xs H1=>xs.length<=sizeLine/\∀p,H1 p=none->Q (.ref p) (upd H1 p (.tup xs))
noncomputable def cj2(t:TA):TE:=fun σ H Q=>t σ H fun xs H1=>xs.length<=sizeLine/\∀p,H1 p=none->Q (.ref p) (upd H1 p (.lst xs))
theorem bb4{x1} (h:PA X es t):PE X (.Tuple es x1 pos) (ci6 t):=by
 intro pins s σ H Q I hq
 refine wpAny_Tuple_spliced (thn (h pos pins s σ H _ I hq) fun us s1 ⟨xs,H1,I1,r,z,q⟩=>⟨by rw[← r.length];exact z,?_⟩)
 have hf:H1 s1.heap.objs.size=none:=I1.hok.fresh (Nat.le_refl _)
 refine⟨.ref s1.heap.objs.size,upd H1 s1.heap.objs.size (.tup xs),I1.laid (t':=s1.toks) (fun b u e=>Heap.get?_push_of_some _ e) (Nat.le_refl _) ?_,rfl,q _ hf⟩
 exact⟨z,us,r,⟨_,Heap.get?_push_size _ rfl,rfl,⟨_,rfl⟩,rfl⟩⟩
theorem ao8(h:PA X es t):PE X (.List es pos) (cj2 t):=by
 intro pins s σ H Q I hq
 refine wpAny_List_spliced (thn (h pos pins s σ H _ I hq) fun us s1 ⟨xs,H1,I1,r,z,q⟩=>⟨by rw[← r.length];exact z,?_⟩)
 have hf:H1 s1.heap.objs.size=none:=I1.hok.fresh (Nat.le_refl _)
 refine⟨.ref s1.heap.objs.size,upd H1 s1.heap.objs.size (.lst xs),I1.laid (t':=s1.toks) (fun b u e=>Heap.get?_push_of_some _ e) (Nat.le_refl _) ?_,rfl,q _ hf⟩
 exact⟨z,us,0,r,Heap.get?_push_size _ rfl⟩
end
noncomputable abbrev Sp:=List V->Hp->VK->XK->Prop
noncomputable abbrev CXT:=List Env->Hp->Shared->XK->Value->Shared->Prop
structure Env0 (P:Program) (w:World) (K:PySem.W.Frag) (mg:Str->Option Value) (base:Heap) (A:Around) (outer:List Env) (s:Shared) (H:Hp):Prop where
 frames:A.frames=some outer
 mod:Mod K mg base
 bs:∀b o,base.get? b=some o->s.heap.get? b=some o/\H b=none
 bsz:base.objs.size<=s.heap.objs.size
 funs:s.heap.FunFrames base outer
 frf:∀b∈frs outer,H b=none
 hok:HOk P w H s.heap
 bare:AllBare s.gens
noncomputable def CE(outer:List Env) (P:Program) (w:World) (H:Hp) (s:Shared) (Q:VK) (u:Value) (s':Shared):Prop :=
 ∃v H',s'.os=s.os/\AllBare s'.gens/\Un (frs outer) [] H H' s.heap s'.heap/\HOk P w H' s'.heap/\C1 v u/\Q v H'
noncomputable def CR(CX:CXT) (outer:List Env) (P:Program) (w:World) (H:Hp) (s:Shared) (Q:VK) (E:XK) (r:Result) (s':Shared):Prop :=
 match r with
 | .ok (.ret u)=>CE outer P w H s Q u s'
 | .ok _=>False
 | .error e=>CX outer H s E e s'
structure FnOk (P:Program) (w:World) (K:PySem.W.Frag) (mg:Str->Option Value) (base:Heap) (CX:CXT) (k:Nat) (f:Addr) (fd:FuncData) (ps:List Str) (sp:Sp):Prop where
 len:∀vs H Q E,sp vs H Q E->vs.length=ps.length
 run:∀(A:Around) (outer:List Env) (s:Shared) (H:Hp) (args:Args) (us:List Value) (vs:List V) (Q:VK) (E:XK),Room k A->Env0 P w K mg base A outer s H->BindsTo s fd args (ps.zip us)->C5 vs us->sp vs H Q E ->
  codeAny (model P w) A (.call (.ref f) args) (CR CX outer P w H s Q E) s
theorem FnOk.mono{P:Program}{w:World}{K:PySem.W.Frag}{mg:Str->Option Value}{base:Heap}{CX:CXT}{j k:Nat}{f:Addr}{fd:FuncData}{ps:List Str}{sp:Sp}(F:FnOk P w K mg base CX j f fd ps sp) (h:j<=k) :
  FnOk P w K mg base CX k f fd ps sp:=⟨F.len,fun A outer s H args us vs Q E hr=>F.run A outer s H args us vs Q E (hr.mono h)⟩
theorem FnOk.imp{P:Program}{w:World}{K:PySem.W.Frag}{mg:Str->Option Value}{base:Heap}{CX:CXT}{k:Nat}{f:Addr}{fd:FuncData}{ps:List Str}{sp sp':Sp}(F:FnOk P w K mg base CX k f fd ps sp)
  (h:∀vs H Q E,sp' vs H Q E->sp vs H Q E):FnOk P w K mg base CX k f fd ps sp' :=
 ⟨fun vs H Q E q=>F.len vs H Q E (h _ _ _ _ q),fun A outer s H args us vs Q E hr he hb hv hs=>F.run A outer s H args us vs Q E hr he hb hv (h _ _ _ _ hs)⟩
theorem Env0.make{P:Program}{w:World}{K:PySem.W.Frag}{mg:Str->Option Value}{base:Heap}{A:Around}{outer:List Env}{s:Shared}{H:Hp}(e:Env0 P w K mg base A outer s H) (C:Addr) (us:List Value) (kw:List (Str×Value)) :
  Env0 P w K mg base (A.under (.builtin "type.__call__" ⟨.ref C::us,kw⟩)) outer s H:=⟨by first|exact e.frames|(simpa [Around.under,Code.envs,Code.isFrame,pushEnvs] using e.frames),e.mod,e.bs,e.bsz,e.funs,e.frf,e.hok,e.bare⟩
section
variable {X:Cx}{pins:List (Addr×Obj)}{σ:St}{H:Hp}{s s':Shared}
theorem Inv.env0(I:Inv X pins σ H s):Env0 X.prog X.w X.K X.mg X.base X.A X.stack s H :=
 ⟨I.ok.frames,I.ok.mod,I.bs,Nat.le_trans I.ok.bsz I.sz,I.stack,I.stkFree,I.hok,I.bare⟩
theorem Inv.after(I:Inv X pins σ H s) (h:CE X.stack X.prog X.w H s Q u s'):EP X pins σ Q u s':=by
 obtain⟨v,H',os,bare,un,hok,r,q⟩:=h
 obtain⟨hh,g,d,t,os'⟩:=s'
 obtain rfl:os'=s.os:=os
 exact⟨v,H',I.call (h':=hh) (g':=g) (d':=d) (t':=t) (ch:=[]) un hok bare (fun b z=>absurd z (by simp)),r,q⟩
end
noncomputable def bB7(sp:Sp) (dvs:List V) (E:XK) (t:TA):TE:=fun σ H Q=>t σ H fun vs H1=>sp (vs++dvs) H1 Q E
noncomputable def bB6(C:Addr) (m:Str) (sp:Sp) (dvs:List V) (E:XK) (ta:TE) (t:TA):TE:=fun σ H Q=>ta σ H fun x H1=>∃a dx fs,x=.ref a/\H1 a=some (.ins C dx fs)/\fs.lookup m=none /\
 t σ H1 fun vs H2=>sp (x::(vs++dvs)) H2 Q E
noncomputable def bZ7(C:Addr) (sp:Sp) (dvs:List V) (E:XK) (t:TA):TE:=fun σ H Q=>t σ H fun vs H1=>∀x dx,H1 x=none->H1 dx=none->dx≠x ->
 sp (.ref x::(vs++dvs)) (upd (upd H1 dx (.own x)) x (.ins C dx [])) (fun v H2=>v=.non/\Q (.ref x) H2) E
noncomputable def O9(K:PySem.W.Frag) (fd:FuncData) (ps:List Str) (ds:List Value):Prop :=
 ∀(s:Shared) (us:List Value),K.In s.heap->(us++ds).length=ps.length->BindsTo s fd ⟨us,[]⟩ (ps.zip (us++ds))
theorem O9.all{K:PySem.W.Frag}{fd:FuncData}{ps:List Str}(h:∀us:List Value,us.length=ps.length->bindArgs fd ⟨us,[]⟩=pure (ps.zip us)):O9 K fd ps []:=fun s us _ hl=>by
 rw[List.append_nil]at hl ⊢
 exact .of_eq (h us hl)
noncomputable def d8(CX:CXT) (X:Cx) (E:XK):Prop:=∀(pins:List (Addr×Obj)) (σ:St) (H:Hp) (s:Shared) (e:Value) (s':Shared),Inv X pins σ H s->CX X.stack H s E e s'->X.xe e s'
section
variable {X:Cx}{CX:CXT}{k:Nat}{f C:Addr}{fd:FuncData}{ps:List Str}{sp:Sp}{dvs:List V}{ds:List Value}{E:XK}{x m:Str}{p pos apos:Pos}{e o:Expr}{es:List Expr}{ta:TE}{t:TA}
theorem an8(F:FnOk X.prog X.w X.K X.mg X.base CX k f fd ps sp) (hr:Room k X.A) (hb:O9 X.K fd ps ds) (hd:C5 dvs ds) (hx:d8 CX X E)
  (I:Inv X pins σ H s) (r:C5 vs us) (h:sp (vs++dvs) H Q E):wpAny (model X.prog X.w) X.A (call (.ref f) us) (EP X pins σ Q) X.xe s:=by
 have r2:C5 (vs++dvs) (us++ds):=r.append hd
 have hl:(us++ds).length=ps.length:=by rw[← r2.length];exact F.len _ _ _ _ h
 refine wpAny_call (codeAny_mono (F.run X.A X.stack s H ⟨us,[]⟩ (us++ds) (vs++dvs) Q E hr I.env0 (hb s us I.kIn hl) r2 h) fun r s' hq=>?_)
 cases r with
 | error e=>exact hx pins σ H s e s' I hq
 | ok fl =>
  cases fl with
  | ret u=>exact I.after hq
  | next=>exact False.elim hq
  | brk=>exact False.elim hq
  | cont=>exact False.elim hq
theorem aJ5(F:FnOk X.prog X.w X.K X.mg X.base CX k f fd ps sp) (hr:Room k X.A) (hg:Gl X x) (hm:X.mg x=some (.ref f)) (hk:PySem.W.keepIn X.K (.ref f)=true) (hb:O9 X.K fd ps ds) (hd:C5 dvs ds) (hx:d8 CX X E)
  (ha:PA X (e::es) t) (hdb:(x==("__debug__" : Str))=false:=by decide) (he:starEach (e::es) X.env=(false,eval e X.env)::starEach es X.env:=by rfl) (hpl:(backTo pos (starEach es X.env)).any (·.1)=false:=by rfl) :
  PE X (.Call (.Name x p) (e::es) [] pos) (bB7 sp dvs E t):=by
 intro pins s σ H Q I h
 refine wpAny_Call_Name_kw (af0 I hg hm ?_ hdb)
 refine PySem.W.callWith_K (h₀:=X.base) I.ok.mod.kin hk (thn (ha pos pins s σ H _ I h) fun us s1 ⟨vs,H1,I1,r,q⟩=>⟨I1.kIn,?_⟩) he hpl
 exact an8 F hr hb hd hx I1 r q
theorem bc4(F:FnOk X.prog X.w X.K X.mg X.base CX k f fd ps sp) (hr:Room k X.A) (hg:Gl X x) (hm:X.mg x=some (.ref f)) (hk:PySem.W.keepIn X.K (.ref f)=true) (hb:O9 X.K fd ps ds) (hd:C5 dvs ds) (hx:d8 CX X E)
  (hdb:(x==("__debug__" : Str))=false:=by decide):PE X (.Call (.Name x p) [] [] pos) (bB7 sp dvs E bo9):=by
 intro pins s σ H Q I h
 refine wpAny_Call_Name_kw (af0 I hg hm ?_ hdb)
 exact PySem.W.callWith_K0 I.kIn hk (an8 (us:=[]) F hr hb hd hx I .nil h)
theorem bs4(he:PE X o ta) (c:Cls X.K C) (hm:Meth X.K C m f) (F:FnOk X.prog X.w X.K X.mg X.base CX k f fd ps sp) (hr:Room k X.A) (hb:O9 X.K fd ps ds) (hd:C5 dvs ds) (hx:d8 CX X E) (ha:PA X (e::es) t)
  (hst:starEach (e::es) X.env=(false,eval e X.env)::starEach es X.env:=by rfl) (hpl:(backTo pos (starEach es X.env)).any (·.1)=false:=by rfl)
  (ht:eval (.Call (.Attribute o m apos) (e::es) [] pos) X.env=(do
   let ov ← eval o X.env
   standAt apos.atName
   let(f,first) ← holding [ov] (getMethod ov m pl)
   callWith pos f first (backTo pos (starEach (e::es) X.env)) (backToKw pos (keywordEach [] X.env))):=by rfl) :
  PE X (.Call (.Attribute o m apos) (e::es) [] pos) (bB6 C m sp dvs E ta t):=by
 intro pins s σ H Q I h
 refine PySem.W.methodCall_KW (pl:=pl) (thn (he pins s σ H _ I h) fun u s1 ⟨x,H1,I1,rx,a,dx,fs,ex,ea,l,q⟩=>?_) ht
 subst ex
 obtain rfl:u=Value.ref a:=rx
 refine l4 I1 ea c hm l ?_
 refine PySem.W.callWith_K (first:=[.ref a]) (h₀:=X.base) I.ok.mod.kin hm.kp (thn (ha pos pins s1 σ H1 _ I1 q) fun us s2 ⟨vs,H2,I2,r,q2⟩=>⟨I2.kIn,?_⟩) hst hpl
 exact an8 (us:=.ref a::us) (vs:=.ref a::vs) F hr hb hd hx I2 (.cons rfl r) q2
theorem av3(he:PE X o ta) (c:Cls X.K C) (hm:Meth X.K C m f) (F:FnOk X.prog X.w X.K X.mg X.base CX k f fd ps sp) (hr:Room k X.A) (hb:O9 X.K fd ps ds) (hd:C5 dvs ds) (hx:d8 CX X E)
  (ht:eval (.Call (.Attribute o m apos) [] [] pos) X.env=(do
   let ov ← eval o X.env
   standAt apos.atName
   let(f,first) ← holding [ov] (getMethod ov m pl)
   callWith pos f first (backTo pos (starEach [] X.env)) (backToKw pos (keywordEach [] X.env))):=by rfl) :
  PE X (.Call (.Attribute o m apos) [] [] pos) (bB6 C m sp dvs E ta bo9):=by
 intro pins s σ H Q I h
 refine PySem.W.methodCall_KW (pl:=pl) (thn (he pins s σ H _ I h) fun u s1 ⟨x,H1,I1,rx,a,dx,fs,ex,ea,l,q⟩=>?_) ht
 subst ex
 obtain rfl:u=Value.ref a:=rx
 refine l4 I1 ea c hm l ?_
 exact PySem.W.callWith_K0 (first:=[.ref a]) I1.kIn hm.kp (an8 (us:=[.ref a]) (vs:=[.ref a]) F hr hb hd hx I1 (.cons rfl .nil) q)
structure Mk (K:PySem.W.Frag) (C f:Addr):Prop where
 makes:PySem.W.makesIn K C=true
 init:PySem.W.findIn K (.ref C) "__init__" = some (some (.ref f))
 fn:PySem.W.isFn K (.ref f)=true
 kp:PySem.W.keepIn K (.ref C)=true
theorem aZ6(M:Mk X.K C f) (F:FnOk X.prog X.w X.K X.mg X.base CX k f fd ps sp) (hr:Room (k+1) X.A) (hb:O9 X.K fd ps ds) (hd:C5 dvs ds)
  (hx:d8 CX X E) (I:Inv X pins σ H s) (r:C5 vs us)
  (h:∀x dx,H x=none->H dx=none->dx≠x->sp (.ref x::(vs++dvs)) (upd (upd H dx (.own x)) x (.ins C dx [])) (fun v H2=>v=.non/\Q (.ref x) H2) E) :
  wpAny (model X.prog X.w) X.A (call (.ref C) us) (EP X pins σ Q) X.xe s:=by
 have hq:=h (s.heap.objs.size+1) s.heap.objs.size (I.hok.fresh (Nat.le_succ _)) (I.hok.fresh (Nat.le_refl _)) (Nat.ne_of_lt (Nat.lt_succ_self _))
 have I2:=Inv.made (C:=C) I
 have r2:C5 (V.ref (s.heap.objs.size+1)::(vs++dvs)) (Value.ref (s.heap.objs.size+1)::(us++ds)):=.cons rfl (r.append hd)
 have hl:(Value.ref (s.heap.objs.size+1)::us++ds).length=ps.length:=by
  have e:=r2.length
  rw[F.len _ _ _ _ hq]at e
  exact e.symm
 refine wpAny_call (be7 (f:=f) I.kIn M.makes M.init (beq_iff_eq.mp M.fn) (codeAny_mono (F.run _ X.stack _ _ ⟨Value.ref (s.heap.objs.size+1)::us,[]⟩ (Value.ref (s.heap.objs.size+1)::(us++ds)) _ _ E (hr.make C us [])
  (I2.env0.make C us []) (hb _ (Value.ref (s.heap.objs.size+1)::us) I2.kIn hl) r2 hq) fun r s' hq'=>?_))
 cases r with
 | error e=>exact hx pins σ _ _ e s' I2 hq'
 | ok fl =>
  cases fl with
  | ret u =>
   obtain⟨v,H',I3,rv,ev,q3⟩:=I2.after hq'
   subst ev
   exact⟨rv,⟨V.ref (s.heap.objs.size+1),H',I3,rfl,q3⟩⟩
  | next=>exact False.elim hq'
  | brk=>exact False.elim hq'
  | cont=>exact False.elim hq'
theorem bb8(M:Mk X.K C f) (F:FnOk X.prog X.w X.K X.mg X.base CX k f fd ps sp) (hr:Room (k+1) X.A) (hg:Gl X x) (hm:X.mg x=some (.ref C)) (hb:O9 X.K fd ps ds) (hd:C5 dvs ds) (hx:d8 CX X E)
  (hdb:(x==("__debug__" : Str))=false:=by decide):PE X (.Call (.Name x p) [] [] pos) (bZ7 C sp dvs E bo9):=by
 intro pins s σ H Q I h
 refine wpAny_Call_Name_kw (af0 I hg hm ?_ hdb)
 exact PySem.W.callWith_K0 I.kIn M.kp (aZ6 (us:=[]) M F hr hb hd hx I .nil h)
end
section
variable {X:Cx}{CX:CXT}{k:Nat}{f C:Addr}{fd:FuncData}{ps ks:List Str}{sp:Sp}{E:XK}{x m:Str}{p pos apos kpos:Pos}{e o:Expr}{es:List Expr}{kws:List Keyword}{te ta:TE}{t tk:TA}{nm:Option Str}
variable {g:List Value->List Value->List Value}{gV:List V->List V->List V}
end
structure FnScope (N P:List Str) (sc:Scope):Prop where
 kind:sc.kind=.function
 co:sc.isCoroutine=false
 gen:sc.isGenerator=false
 nd:N.Nodup
 pre:N.take P.length=P
 par:∀x∈P,sc.names.lookup x=some .local\/sc.names.lookup x=some .cell
 nofree:∀y∈sc.names,y.2≠.free
theorem am3{kindOf:Str->Option NameKind}{x:Str}:∀{binds:List (Str×Value)}{m:Str->Option Value},(∀v,(x,v)∉binds)->bindL kindOf binds m x=m x
 | [],_,_=>rfl
 | (n,v)::r,m,h=>by
  unfold bindL
  rw[am3 fun w hw=>h w (List.mem_cons_of_mem _ hw)]
  split
  ·have:x≠n:=by rintro rfl;exact h v List.mem_cons_self
   simp[this]
  ·rfl
theorem am5{kindOf:Str->Option NameKind}{x:Str}:∀{binds:List (Str×Value)}{m:Str->Option Value},(∀v,(x,v)∉binds)->bindC kindOf binds m x=m x
 | [],_,_=>rfl
 | (n,v)::r,m,h=>by
  unfold bindC
  rw[am5 fun w hw=>h w (List.mem_cons_of_mem _ hw)]
  split
  ·rfl
  ·have:x≠n:=by rintro rfl;exact h v List.mem_cons_self
   simp[this]
theorem am4{kindOf:Str->Option NameKind}{x:Str}{v:Value}:∀{P:List Str}{vs:List Value}{i:Nat}{m:Str->Option Value},P.Nodup->P[i]? = some x->vs[i]? = some v->kindOf x=some .local ->
  bindL kindOf (P.zip vs) m x=some v
 | [],_,_,_,_,h,_,_=>by simp at h
 | _::_,[],_,_,_,_,h,_=>by simp at h
 | p::P,w::vs,0,m,nd,h1,h2,hk=>by
  simp at h1 h2;subst h1;subst h2
  show bindL kindOf ((p,w)::P.zip vs) m p=_
  unfold bindL
  rw[am3 fun v hv=>(List.nodup_cons.mp nd).1 (List.of_mem_zip hv).1,if_pos hk]
  simp
 | p::P,w::vs,i+1,m,nd,h1,h2,hk=>by
  show bindL kindOf ((p,w)::P.zip vs) m x=_
  unfold bindL
  exact am4 (i:=i) (List.nodup_cons.mp nd).2 (by simpa using h1) (by simpa using h2) hk
theorem am6{kindOf:Str->Option NameKind}{x:Str}{v:Value}:∀{P:List Str}{vs:List Value}{i:Nat}{m:Str->Option Value},P.Nodup->P[i]? = some x->vs[i]? = some v->kindOf x≠some .local ->
  bindC kindOf (P.zip vs) m x=some v
 | [],_,_,_,_,h,_,_=>by simp at h
 | _::_,[],_,_,_,_,h,_=>by simp at h
 | p::P,w::vs,0,m,nd,h1,h2,hk=>by
  simp at h1 h2;subst h1;subst h2
  show bindC kindOf ((p,w)::P.zip vs) m p=_
  unfold bindC
  rw[am5 fun v hv=>(List.nodup_cons.mp nd).1 (List.of_mem_zip hv).1,if_neg hk]
  simp
 | p::P,w::vs,i+1,m,nd,h1,h2,hk=>by
  show bindC kindOf ((p,w)::P.zip vs) m x=_
  unfold bindC
  exact am6 (i:=i) (List.nodup_cons.mp nd).2 (by simpa using h1) (by simpa using h2) hk
noncomputable def start(N:List Str) (vs:List V):St:=vs.map some++List.replicate (N.length - vs.length) none
noncomputable def ab0(CX:CXT) (P:Program) (w:World) (K:PySem.W.Frag) (mg:Str->Option Value) (base:Heap) (N:List Str) (qual:Str) (scope:Scope) (f:Addr) (cd:Value) (A:Around) (outer:List Env) (s:Shared) (H:Hp) (E:XK):Cx where
 prog:=P
 w:=w
 K:=K
 mg:=mg
 base:=base
 A:=A.deeper (envOfC qual scope s.heap.objs.size f cd)
 N:=N
 s₀:=s
 H₀:=H
 env:=envOfC qual scope s.heap.objs.size f cd
 outer:=outer
 stack:=envOfC qual scope s.heap.objs.size f cd::outer
 ex:=[]
 calm:=true
 fn:=fun _=>true
 pn:=[]
 xe:=fun e s'=>wpAny (model P w) (A.deeper (envOfC qual scope s.heap.objs.size f cd)) (leaving (envOfC qual scope s.heap.objs.size f cd) e) (fun _ s''=>CX outer H s E e s'') (fun e' s''=>CX outer H s E e' s'') s'
theorem az4{sc:Scope}{n:Nat}{x:Str}(h:sc.names.lookup x=some .cell):∃c,(cellsFrom n sc.names []).lookup x=some c:=by
 have q:=PySem.W.cellsFrom_some sc.names n [] (.inl h)
 exact Option.isSome_iff_exists.mp q
theorem aS8{CX:CXT}{P:Program}{w:World}{K:PySem.W.Frag}{mg:Str->Option Value}{base:Heap}{N ps:List Str}{qual:Str}{scope:Scope}{f:Addr}{cd:Value}{A:Around}{outer:List Env}{s s1:Shared}{H:Hp}{E:XK}{us:List Value}{vs:List V}
  (S:FnScope N ps scope) (hd:A.handled=none) (e0:Env0 P w K mg base A outer s H) (hl:vs.length=ps.length) (r:C5 vs us)
  (x:InCallC s s.heap.objs.size (bindL (envOfC qual scope s.heap.objs.size f cd).kindOf (ps.zip us) fun _=>none) (cellsFrom (s.heap.objs.size+1) scope.names []) (bindC (envOfC qual scope s.heap.objs.size f cd).kindOf (ps.zip us) fun _=>none) s1) :
  Inv (ab0 CX P w K mg base N qual scope f cd A outer s H E) [] (start N vs) H s1:=by
 have hpl:ps.length<=N.length:=by have:=congrArg List.length S.pre;rw[List.length_take]at this;omega
 obtain⟨h1,tk,rfl,hk⟩:=x.done
 have noA:∀b:Addr,b∉(ab0 CX P w K mg base N qual scope f cd A outer s H E).ex:=fun b z=>absurd (show b∈([]:List Addr) from z) (by simp)
 refine⟨⟨e0.mod,S.kind,rfl,rfl,Nat.le_refl _,fun y z c h1 h2=>?_,fun y hy=>?_,fun y c _ h=>?_,fun _=>hd,Around.frames_deeper e0.frames,.inr ⟨rfl,rfl⟩,fun b z=>absurd z (noA b),e0.bs,e0.bsz,fun b _ _=>noA b,fun b z=>absurd z (noA b),e0.funs,e0.frf⟩,
  rfl,e0.bare,Un.kept hk,⟨_,x.toInCall.ns,fun i y v h1 h2 h3=>?_⟩,fun y c h=>⟨_,x.cell y c h⟩,e0.hok.fresh (Nat.le_refl _),fun y c h=>?_,fun p hp=>absurd (show p∈([]:List (Addr×Obj)) from hp) (by simp),e0.hok.kept hk,?_⟩
 ·exact name_of_addr x.apart (PySem.mem_of_lookup h1) (PySem.mem_of_lookup h2)
 ·have hy:scope.names.lookup y=some .cell\/scope.names.lookup y=some .free:=hy
  rcases hy with hy|hy
  ·exact az4 hy
  ·exact absurd rfl (S.nofree _ (PySem.mem_of_lookup hy))
 ·exact Nat.le_of_lt (x.above y c (PySem.mem_of_lookup h))
 ·have hi:i < vs.length:=by
   unfold start at h2
   by_cases hi:i < vs.length
   ·exact hi
   ·rw[List.getElem?_append_right (by simpa using hi)]at h2
    rw[List.getElem?_replicate]at h2
    split at h2<;>cases h2
  have ha:vs[i]? = some v:=by
   unfold start at h2
   rw[List.getElem?_append_left (by simpa using hi),List.getElem?_map]at h2
   cases e:vs[i]? with
   | none=>rw[e]at h2;cases h2
   | some a=>rw[e]at h2;cases h2;rfl
  obtain⟨u,hu,rv⟩:=r.get ha
  have hp:ps[i]? = some y:=by
   rw[← S.pre,List.getElem?_take_of_lt (by omega)];exact h1
  have ndP:ps.Nodup:=by rw[← S.pre];exact S.nd.sublist (List.take_sublist _ _)
  refine⟨u,rv,?_⟩
  rcases S.par y (List.mem_of_getElem? hp) with k|k
  ·exact .inl ⟨k,am4 ndP hp hu k⟩
  ·obtain⟨c,e⟩:=az4 (n:=s.heap.objs.size+1) k
   refine .inr ⟨.inl k,c,e,?_⟩
   have q:=x.cell y c e
   rw[am6 ndP hp hu (by show scope.names.lookup y≠_;rw[k];decide)]at q
   exact q
 ·exact e0.hok.fresh (Nat.le_of_lt (x.above y c (PySem.mem_of_lookup h)))
 ·unfold start
  show _=N.length
  rw[List.length_append,List.length_map,List.length_replicate]
  omega
theorem cg1{CX:CXT}{P:Program}{w:World}{K:PySem.W.Frag}{mg:Str->Option Value}{base:Heap}{k:Nat}{f:Addr}{name qual:Str}{params:Arguments}{body:List Stmt}{scope:Scope}{dV kV doc pm cdv ct oc:Value}{an od:Option Addr}
  {osl:Array (Option Value)}{N ps:List Str}{sp:Sp}(lk:K.lookup f=some ⟨oc,od,.func (PySem.W.fnOf name qual params body scope dV kV doc pm an cdv ct),osl⟩) (hcd:PySem.W.codeIn K cdv qual=true) (S:FnScope N ps scope)
  (len:∀vs H Q E,sp vs H Q E->vs.length=ps.length)
  (hbody:∀(A:Around) (outer:List Env) (s:Shared) (H:Hp) (vs:List V) (Q:VK) (E:XK),Room k (A.deeper (envOfC qual scope s.heap.objs.size f cdv))->sp vs H Q E ->
   ∃t,PSs (ab0 CX P w K mg base N qual scope f cdv A outer s H E) body t/\t { nx:=fun _ H'=>Q .non H',rt:=Q } (start N vs) H) :
  FnOk P w K mg base CX (k+1) f (PySem.W.fnOf name qual params body scope dV kV doc pm an cdv ct) ps sp:=by
 refine⟨len,fun A outer s H args us vs Q E hr e0 hb r hsp=>?_⟩
 have hl:=len _ _ _ _ hsp
 have KX:K.In s.heap:=e0.mod.kin.keeps fun b o e=>(e0.bs b o e).1
 have lim:s.heap.NoLimit:=e0.mod.nolimit.keeps fun b o e=>(e0.bs b o e).1
 have hkind:∀y∈ps.zip us,scope.names.lookup y.1=some .local\/(scope.names.lookup y.1=some .cell/\((cellsFrom (s.heap.objs.size+1) scope.names []).lookup y.1).isSome=true):=fun⟨n,v⟩ hy=>by
  rcases S.par n (List.of_mem_zip hy).1 with q|q
  ·exact .inl q
  ·exact .inr ⟨q,PySem.W.cellsFrom_some _ _ _ (.inl q)⟩
 refine codeAny_call_function hr.depth (KX _ _ lk) rfl S.co S.gen rfl (PySem.W.codeRec_of KX hcd) (hb _ _ _ _ ?_)
 refine wpAny_newFunctionEnv_cells S.kind hkind fun env he s1 x=>?_
 subst he
 refine⟨lim.keeps x.toInCall.keep,codeAny_func ?_⟩
 obtain⟨t,ht,hq⟩:=hbody A outer s H vs Q E (hr.deeper _) hsp
 have I:Inv (ab0 CX P w K mg base N qual scope f cdv A outer s H E) [] (start N vs) H s1:=aS8 S hr.hd e0 hl r x
 refine wpAny_mono (ht [] s1 (start N vs) H _ I hq) (fun fl s' hs=>?_) fun e s' hs=>hs
 have fin:∀{σ':St}{H':Hp}{v:V}{u:Value},Inv (ab0 CX P w K mg base N qual scope f cdv A outer s H E) [] σ' H' s'->C1 v u->Q v H'->CE outer P w H s Q u s' :=
  fun{σ' H' v u} J rv q=>⟨v,H',J.os,J.bare,J.base,J.hok,rv,q⟩
 cases fl with
 | ret u =>
  obtain⟨v,σ',H',J,rv,q⟩:=hs
  exact fin J rv q
 | next =>
  obtain⟨σ',H',J,q⟩:=hs
  exact fin (v:=V.non) (u:=Value.none) J rfl q
 | brk =>
  obtain⟨_,_,_,q⟩:=hs
  exact False.elim q
 | cont =>
  obtain⟨_,_,_,q⟩:=hs
  exact False.elim q
end L2
namespace L2
open PySem PySem.Spec PyProof.Rows
section
variable {X:Cx}{x:Str}{p pos:Pos}{e:Expr}{es:List Expr}{t:TA}{id T:String}{r:List V->Hp->VK->Prop}
noncomputable def tCB(r:List V->Hp->VK->Prop) (t:TA):TE:=fun σ H Q=>t σ H fun vs H1=>r vs H1 Q
theorem M4(hc:O0 X (.builtin id) r) (hg:Gl X x) (hm:X.mg x=none) (hv:bootBuiltins x=some (.builtin id)) (ha:PA X (e::es) t) (hn:x ≠ "__name__" := by decide) (hdb:(x==("__debug__" : Str))=false:=by decide)
  (he:starEach (e::es) X.env=(false,eval e X.env)::starEach es X.env:=by rfl) (hpl:(backTo pos (starEach es X.env)).any (·.1)=false:=by rfl):PE X (.Call (.Name x p) (e::es) [] pos) (tCB r t):=by
 intro pins s σ H Q I h
 refine wpAny_Call_Name_kw (d5 I hg hm hv ?_ hn hdb)
 exact PyProof.Rows.callWith_builtin1 (thn (ha pos pins s σ H _ I h) fun us s1 ⟨vs,H1,I1,r1,q1⟩=>hc pins s1 σ H1 vs us Q I1 r1 q1) he hpl
theorem Q6(hc:O0 X (.type T) r) (hg:Gl X x) (hm:X.mg x=none) (hv:bootBuiltins x=some (.type T)) (ha:PA X (e::es) t) (hn:x ≠ "__name__" := by decide) (hdb:(x==("__debug__" : Str))=false:=by decide)
  (he:starEach (e::es) X.env=(false,eval e X.env)::starEach es X.env:=by rfl) (hpl:(backTo pos (starEach es X.env)).any (·.1)=false:=by rfl):PE X (.Call (.Name x p) (e::es) [] pos) (tCB r t):=by
 intro pins s σ H Q I h
 refine wpAny_Call_Name_kw (d5 I hg hm hv ?_ hn hdb)
 exact PyProof.Rows.callWith_type1 (thn (ha pos pins s σ H _ I h) fun us s1 ⟨vs,H1,I1,r1,q1⟩=>hc pins s1 σ H1 vs us Q I1 r1 q1) he hpl
end
end L2
namespace HT
open PySem PyProof.Rows
section
open PySem.SeqAt
open PySem.AutoSeq1 (wpAny_loadPart')
open PySem.MeetsSeq PySem.MeetsSeq2 PySem.MeetsSeq3
end
section
variable {prog:Program}{w:World}{A:Around}{E:Value->Shared->Prop}{s:Shared}
theorem cat_tup(ht:IsTup s.heap t vs.toArray) (hb:IsTup s.heap b ws.toArray) (hv:vs≠[])
  (h1:ws=[]->Q (.ref t) s) (h2:ws≠[]->Q (.ref s.heap.objs.size) { s with heap:=s.heap.push { cls:=.type "tuple", data:=.seq (vs++ws).toArray } })
  (hsz:vs.length+ws.length<=sizeLine):wpAny (model prog w) A (binaryOp .Add (.ref t) (.ref b)) Q E s:=by
 obtain⟨⟨cls,dd,data,sl⟩,ho,hc,n,hd⟩:=id ht
 obtain⟨⟨cls2,dd2,data2,sl2⟩,ho2,hc2,n2,hd2⟩:=id hb
 simp only at hc hd hc2 hd2
 subst hc hd hc2 hd2
 have e:vs.toArray++ws.toArray=(vs++ws).toArray:=by simp
 by_cases hw:ws=[]
 ·exact concat_meets ⟨_,ho,rfl⟩ ⟨_,ho2,rfl⟩ noFill_tuple_add seq_tuple_add PySem.F.slot_tuple_add PySem.F.entry_tuple_add (PySem.F.args_tuple_add_2 _ _)
   (tuple_addW1 t b vs.toArray ws.toArray n n2 dd dd2 sl sl2 (by simpa using hv) (by simp[hw])) ⟨ho,ho2,h1 hw⟩
 ·refine concat_meets ⟨_,ho,rfl⟩ ⟨_,ho2,rfl⟩ noFill_tuple_add seq_tuple_add PySem.F.slot_tuple_add PySem.F.entry_tuple_add (PySem.F.args_tuple_add_2 _ _)
   (tuple_addW2 t b vs.toArray ws.toArray n n2 dd dd2 sl sl2 (by simpa using hv) (by simpa using hw) (by rw[List.size_toArray,List.size_toArray];exact hsz)) ⟨ho,ho2,?_⟩
  rw[e]
  exact h2 hw
noncomputable def sIx(n d:Nat):Option Int->Nat
 | none=>d
 | some v=>if v < 0 then(v+(n:Int)).toNat else min v.toNat n
theorem bJ3(n d:Nat) (hd:d<=n) (o:Option Int):sIx n d o<=n:=by
 cases o with
 | none=>exact hd
 | some v =>
  show(if v < 0 then(v+(n:Int)).toNat else min v.toNat n)<=n
  by_cases hv:v < 0
  ·rw[if_pos hv];omega
  ·rw[if_neg hv];exact Nat.min_le_right _ _
theorem aM8(v:Int) (n d:Nat):(if v < 0 then max (v+(n:Int)) 0 else min v (n:Int))=((sIx n d (some v):Nat):Int):=by
 show(if v < 0 then max (v+(n:Int)) 0 else min v (n:Int))=(((if v < 0 then(v+(n:Int)).toNat else min v.toNat n):Nat):Int)
 by_cases hv:v < 0
 ·simp only[if_pos hv];omega
 ·simp only[if_neg hv];omega
theorem aF6(lo hi:Option Int) (n:Nat):Builtin.Slice.sliceAdjust lo hi 1 (n:Int)=(((sIx n 0 lo:Nat):Int),((sIx n n hi:Nat):Int)):=by
 have h1:¬((1:Int) < 0):=by omega
 unfold Builtin.Slice.sliceAdjust
 simp only[h1,if_false]
 refine Prod.ext ?_ ?_
 ·cases lo with
  | none=>rfl
  | some v=>exact aM8 v n 0
 ·cases hi with
  | none=>rfl
  | some v=>exact aM8 v n n
theorem aC2(i j:Nat):Builtin.Slice.slicePlaces (i:Int) (j:Int) 1=j - i:=by
 unfold Builtin.Slice.slicePlaces
 have h1:(1:Int) > 0:=by omega
 simp only[h1,if_true,Int.ediv_one]
 split<;>omega
theorem ag1(p:IsPart v o) (h:Q o s):wpAny (model prog w) A (Builtin.Slice.slicePartIndex v) Q E s:=by
 cases p with
 | none=>exact slicePart_none h
 | int i t=>exact slicePart_int h
theorem sliceApplied_gen{sl:Addr}{vl vu:Value}{lo hi:Option Int}{n:Nat}{Q:Int×Int×Nat->Shared->Prop}(hs:s.heap.IsSliceOf sl vl vu .none) (pl:IsPart vl lo) (pu:IsPart vu hi)
  (h:Q (((sIx n 0 lo:Nat):Int),1,sIx n n hi - sIx n 0 lo) s):wpAny (model prog w) A (Builtin.Slice.sliceApplied (.ref sl) (pure (n:Int))) Q E s:=by
 obtain⟨os,hos,hcs,hds⟩:=id hs
 unfold Builtin.Slice.sliceApplied Builtin.Slice.sliceFields
 refine wpAny_bind (wpAny_bind (wpAny_field hos hds (x:=vl) rfl (wpAny_bind (wpAny_field hos hds (x:=vu) rfl (wpAny_bind (wpAny_field hos hds (x:=.none) rfl (wpAny_pure ?_)))))))
 refine wpAny_bind (slicePart_none ?_)
 show wpAny _ _ (if((1:Int)==0)=true then _ else _) _ _ s
 rw[if_neg (by decide)]
 refine wpAny_bind (ag1 pl (wpAny_bind (ag1 pu (wpAny_bind (wpAny_pure ?_)))))
 show wpAny _ _ (match Builtin.Slice.sliceAdjust lo hi 1 (n:Int) with|(lo,hi)=>pure (lo,(1:Int),Builtin.Slice.slicePlaces lo hi 1)) _ _ s
 rw[aF6 lo hi n]
 show wpAny _ _ (pure (((sIx n 0 lo:Nat):Int),(1:Int),Builtin.Slice.slicePlaces ((sIx n 0 lo:Nat):Int) ((sIx n n hi:Nat):Int) 1)) _ _ s
 rw[aC2]
 exact wpAny_pure h
theorem bb2(xs:Array Value) (i k:Nat):((List.range k).filterMap fun(m:Nat)=>xs[((i:Int)+(m:Int)*1).toNat]?).toArray=((xs.toList.drop i).take k).toArray:=by
 have e:(fun(m:Nat)=>xs[((i:Int)+(m:Int)*1).toNat]?)=fun m=>xs[i+m]?:=by
  funext m
  have:((i:Int)+(m:Int)*1).toNat=i+m:=by omega
  rw[this]
 rw[e]
 have:=pick_run xs i k
 rw[List.filterMap_map]at this
 have e2:((fun x=>xs[x]?) ∘ fun x=>i+x)=fun m=>xs[i+m]?:=rfl
 rw[e2]at this
 rw[this]
theorem getItem_tuple_cut{t sl:Addr}{items:Array Value}{vl vu:Value}{lo hi:Option Int}{Q:Value->Shared->Prop}(ht:IsTup s.heap t items) (hs:s.heap.IsSliceOf sl vl vu .none) (pl:IsPart vl lo) (pu:IsPart vu hi)
  (hw:¬(sIx items.size 0 lo=0/\sIx items.size items.size hi=items.size))
  (h:Q (.ref s.heap.objs.size) { s with heap:=s.heap.push { cls:=.type "tuple", data:=.seq ((items.toList.drop (sIx items.size 0 lo)).take (sIx items.size items.size hi - sIx items.size 0 lo)).toArray } })
  (hsz:items.size<=sizeLine):wpAny (model prog w) A (getItem (.ref t) (.ref sl)) Q E s:=by
 have htake:sizeOk (.seq ((items.toList.drop (sIx items.size 0 lo)).take (sIx items.size items.size hi - sIx items.size 0 lo)).toArray):=by
  show((items.toList.drop (sIx items.size 0 lo)).take (sIx items.size items.size hi - sIx items.size 0 lo)).toArray.size<=sizeLine
  rw[List.size_toArray,List.length_take,List.length_drop,Array.length_toList]
  omega
 have hj:sIx items.size items.size hi<=items.size:=bJ3 _ _ (Nat.le_refl _) hi
 obtain⟨os,hos,hcs,hds⟩:=id hs
 have hTs:s.TypeIs (.ref sl) "slice" := ⟨os,hos,hcs⟩
 unfold getItem
 try with_reducible refine wpAny_holding ?_
 first|refine wpAny_bind (wpAny_pure ?_)|skip
 refine wpAny_bind (wpAny_sequenceKey ht.typeIs (by decide) ?_)
 refine wpAny_bind (wpAny_callSpecial?_slot (name:=Str.ofString "__getitem__") ht.typeIs PyProof.Rows.slot_tuple_getitem
  (wpAny_call_entry PyProof.Rows.slot_tuple_getitem ht.typeIs entry_tuple_getitem ?_ (args_tuple_getitem _ _)))
 show wpAny _ _ (Builtin.Tuple.tupleItemsOf (.ref t) >>= _) _ _ s
 refine wpAny_bind (tupleItemsOf_ ht ?_)
 refine wpAny_bind (wpAny_typeOf hTs ?_)
 rw[if_pos (by decide)]
 refine wpAny_bind (sliceApplied_gen hs pl pu ?_)
 have hno:¬((((sIx items.size 0 lo:Nat):Int)==0&&(1:Int)==1&&(sIx items.size items.size hi - sIx items.size 0 lo)==items.size)=true):=by
  intro q
  rw[Bool.and_eq_true,Bool.and_eq_true]at q
  have q1:((sIx items.size 0 lo:Nat):Int)=0:=eq_of_beq q.1.1
  have q2:sIx items.size items.size hi - sIx items.size 0 lo=items.size:=eq_of_beq q.2
  exact hw ⟨by omega,by omega⟩
 show wpAny _ _ (if(((sIx items.size 0 lo:Nat):Int)==0&&(1:Int)==1&&(sIx items.size items.size hi - sIx items.size 0 lo)==items.size)=true then _ else _) _ _ s
 rw[if_neg hno,bb2]
 first
  | exact wpAny_bind (m:=Builtin.Tuple.tupleExact _) (wpAny_newObj_type (wpAny_pure ⟨_,rfl,wpAny_pure h⟩) htake)
  | exact wpAny_bind (m:=Builtin.Tuple.tupleExact _) (wpAny_newObj_type (wpAny_bind (wpAny_pure (wpAny_pure ⟨_,rfl,wpAny_pure h⟩))) htake)
  | exact wpAny_bind (wpAny_bind (m:=Builtin.Tuple.tupleExact _) (wpAny_newObj_type (wpAny_pure (wpAny_pure ⟨_,rfl,wpAny_pure h⟩)) htake))
  | exact wpAny_bind (wpAny_bind (m:=Builtin.Tuple.tupleExact _) (wpAny_newObj_type (wpAny_pure ⟨_,rfl,wpAny_pure h⟩) htake))
end
end HT
namespace L2
open PySem PySem.Spec PyProof.Rows
noncomputable abbrev TO:=St->Hp->(Option Int->Hp->Prop)->Prop
noncomputable def PO(X:Cx) (e:Option Expr) (t:TO):Prop :=
 ∀(pins:List (Addr×Obj)) (s:Shared) (σ:St) (H:Hp) (Q:Option Int->Hp->Prop),Inv X pins σ H s->t σ H Q ->
  wpAny (model X.prog X.w) X.A (evalPart e X.env) (fun u s'=>∃o H',Inv X pins σ H' s'/\IsPart u o/\Q o H') X.xe s
noncomputable def bo8:TO:=fun _ H Q=>Q none H
noncomputable def bZ5(t:TE):TO:=fun σ H Q=>t σ H fun x H1=>∃i,x=.int i/\Q (some i) H1
section
variable {X:Cx}{e:Expr}{te:TE}{lo hi:Option Expr}{tl th:TO}{pos p2:Pos}
theorem br7:PO X none bo8:=by
 intro pins s σ H Q I h
 rw[evalPart_none]
 exact wpAny_pure ⟨none,H,I,.none,h⟩
theorem br6(h:PE X e te):PO X (some e) (bZ5 te):=by
 intro pins s σ H Q I hw
 rw[evalPart_some]
 refine thn (h pins s σ H _ I hw) fun u s1 ⟨x,H1,I1,r1,q1⟩=>?_
 obtain⟨i,rfl,q⟩:=q1
 obtain⟨t,rfl⟩:=r1
 exact⟨some i,H1,I1,.int i t,q⟩
noncomputable def SlR(X:Cx) (r:V->Option Int->Option Int->Hp->VK->Prop):Prop :=
 ∀(pins:List (Addr×Obj)) (s:Shared) (σ:St) (H:Hp) (x:V) (v vl vu:Value) (lo hi:Option Int) (sl:Addr) (Q:VK),Inv X pins σ H s->C1 x v->s.heap.IsSliceOf sl vl vu .none->IsPart vl lo->IsPart vu hi->r x lo hi H Q ->
  ∃T id,typeLookup (.type T) "__getitem__" = pure (some (.builtin id))/\s.TypeIs v T/\wpAny (model X.prog X.w) X.A (getItem v (.ref sl)) (EP X pins σ Q) X.xe s
theorem SlR.or(h:SlR X r) (h':SlR X r'):SlR X (fun x lo hi H Q=>r x lo hi H Q\/r' x lo hi H Q):=by
 intro pins s σ H x v vl vu lo hi sl Q I rx hs pl pu q
 rcases q with q|q
 ·exact h pins s σ H x v vl vu lo hi sl Q I rx hs pl pu q
 ·exact h' pins s σ H x v vl vu lo hi sl Q I rx hs pl pu q
noncomputable def tSl(r:V->Option Int->Option Int->Hp->VK->Prop) (te:TE) (tl th:TO):TE:=fun σ H Q=>te σ H fun x H1=>tl σ H1 fun l H2=>th σ H2 fun u H3=>r x l u H3 Q
theorem t7(hr:SlR X r) (he:PE X e te) (hl:PO X lo tl) (hu:PO X hi th):PE X (.Subscript e (.Slice lo hi none p2) pos) (tSl r te tl th):=by
 intro pins s σ H Q I h
 refine Subscript_ (thn (he pins s σ H _ I h) fun v s1 ⟨x,H1,I1,r1,q1⟩=>?_)
 refine wpAny_Slice (thn (hl pins s1 σ H1 _ I1 q1) fun vl s2 ⟨l,H2,I2,pl,q2⟩=>thn (hu pins s2 σ H2 _ I2 q2) fun vu s3 ⟨u,H3,I3,pu,q3⟩=>?_)
 rw[evalPart_none]
 refine wpAny_pure ?_
 have I4:Inv X pins σ H3 { s3 with heap:=s3.heap.push { cls:=.type "slice", data:=.fields #[vl,vu,.none] } }:=I3.kept (t':=s3.toks) fun b ob q=>Heap.get?_push_of_some _ q
 obtain⟨T,id,hT,ht,hg⟩:=hr pins { s3 with heap:=s3.heap.push { cls:=.type "slice", data:=.fields #[vl,vu,.none] } } σ H3 x v vl vu l u s3.heap.objs.size Q I4 r1 (Heap.IsSliceOf.new ..) pl pu q3
 show wpAny (model X.prog X.w) X.A (subscriptTail e (.Slice lo hi none p2) v (.ref s3.heap.objs.size)) (EP X pins σ Q) X.xe { s3 with heap:=s3.heap.push { cls:=.type "slice", data:=.fields #[vl,vu,.none] } }
 exact tail_any (ops:=[.ref s3.heap.objs.size,v]) ht hT hg (by with_unfolding_all rfl)
noncomputable def ay9(xs:List V) (lo hi:Option Int):List V:=(xs.drop (HT.sIx xs.length 0 lo)).take (HT.sIx xs.length xs.length hi - HT.sIx xs.length 0 lo)
theorem ad7(xs:List V) (lo hi:Option Int):(ay9 xs lo hi).length<=xs.length:=by
 unfold ay9
 rw[List.length_take,List.length_drop]
 omega
noncomputable def ck3(K:PySem.W.Frag):V->Option Int->Option Int->Hp->VK->Prop:=fun x lo hi H Q=>∃a xs,x=.ref a/\SqT K H a xs /\
 ¬(HT.sIx xs.length 0 lo=0/\HT.sIx xs.length xs.length hi=xs.length)/\∀p,H p=none->Q (.ref p) (upd H p (.tup (ay9 xs lo hi)))
theorem bJ2:SlR X (ck3 X.K):=by
 intro pins s σ H x v vl vu lo hi sl Q I rx hs pl pu h
 obtain⟨a,xs,rfl,hx,hw,q⟩:=h
 cases rx
 obtain⟨its,r,ht,hz⟩:=I.tuple hx
 have hlen:its.toArray.size=xs.length:=by rw[List.size_toArray];exact r.length.symm
 refine⟨"tuple", _,PyProof.Rows.slot_tuple_getitem.lookup,ht.typeIs,?_⟩
 refine HT.getItem_tuple_cut ht hs pl pu (by rw[hlen];exact hw) ?_ (by rw[hlen];exact hz)
 rw[hlen]
 refine⟨.ref s.heap.objs.size,_,I.laid (t':=s.toks) (o:=.tup (ay9 xs lo hi)) (fun b ob q=>Heap.get?_push_of_some _ q) (Nat.le_refl _) ?_,rfl,q _ (I.hok.fresh (Nat.le_refl _))⟩
 exact⟨Nat.le_trans (ad7 xs lo hi) hz,_,(r.drop (HT.sIx xs.length 0 lo)).take (HT.sIx xs.length xs.length hi - HT.sIx xs.length 0 lo),ai9.new _ _⟩
noncomputable def cb6(K:PySem.W.Frag):R2:=fun x y H Q=>∃a b xs ys,x=.ref a/\y=.ref b/\SqT K H a xs/\SqT K H b ys/\xs≠[]/\xs.length+ys.length<=sizeLine /\
 (ys=[]->Q (.ref a) H)/\(ys≠[]->∀p,H p=none->Q (.ref p) (upd H p (.tup (xs++ys))))
theorem C5.nil_iff(r:C5 xs us):us=[]↔xs=[]:=by
 cases r with
 | nil=>simp
 | cons _ _=>simp
theorem bt7:OpR X (binaryOp .Add) (cb6 X.K):=by
 intro pins s σ H x y v u Q I rx ry h
 obtain⟨a,b,xs,ys,rfl,rfl,ha,hb,hx,hz,q1,q2⟩:=h
 cases rx
 cases ry
 obtain⟨its,r1,p1,_⟩:=I.tuple ha
 obtain⟨its2,r2,p2,_⟩:=I.tuple hb
 refine HT.cat_tup p1 p2 (fun z=>hx (r1.nil_iff.mp z)) (fun z=>⟨.ref a,H,I,rfl,q1 (r2.nil_iff.mp z)⟩) (fun z=>?_) (by rw[← r1.length,← r2.length];exact hz)
 refine⟨.ref s.heap.objs.size,_,I.laid (t':=s.toks) (o:=.tup (xs++ys)) (fun b ob q=>Heap.get?_push_of_some _ q) (Nat.le_refl _) ?_,rfl,q2 (fun w=>z (r2.nil_iff.mpr w)) _ (I.hok.fresh (Nat.le_refl _))⟩
 exact⟨by rw[List.length_append];exact hz,_,r1.append r2,ai9.new _ _⟩
end
end L2
namespace L2
open PySem PySem.Spec PyProof.Rows
noncomputable def ixN(n:Nat) (i:Int):Option Nat:=if 0<=i then(if i < n then some i.toNat else none) else if -(n:Int)<=i then some (i+n).toNat else none
noncomputable def atI{α:Type}(xs:List α) (i:Int):Option α:=(ixN xs.length i).bind fun j=>xs[j]?
theorem by0(h:ixN n i=some j):seqIndex? i n=some j/\j < n/\-(n:Int)<=i/\i < n:=by
 unfold ixN at h
 by_cases h0:0<=i
 ·rw[if_pos h0]at h
  by_cases h1:i < n
  ·rw[if_pos h1]at h
   have e:i.toNat=j:=Option.some.inj h
   exact⟨by rw[seqIndex_of h0 h1,e],by omega,by omega,h1⟩
  ·rw[if_neg h1]at h;cases h
 ·rw[if_neg h0]at h
  by_cases h1:-(n:Int)<=i
  ·rw[if_pos h1]at h
   have e:(i+n).toNat=j:=Option.some.inj h
   exact⟨by rw[seqIndex_neg (by omega) h1,e],by omega,h1,by omega⟩
  ·rw[if_neg h1]at h;cases h
theorem at1{α:Type}{xs:List α}{i:Int}{v:α}(h:atI xs i=some v):∃j,seqIndex? i xs.length=some j/\xs[j]? = some v/\j < xs.length/\-(xs.length:Int)<=i/\i < xs.length:=by
 unfold atI at h
 cases e:ixN xs.length i with
 | none=>rw[e]at h;cases h
 | some j =>
  rw[e]at h
  obtain⟨h1,h2,h3,h4⟩:=by0 e
  exact⟨j,h1,h,h2,h3,h4⟩
theorem bB0{α:Type}{xs:List α}{j:Nat}{v:α}(h:xs[j]? = some v):atI xs (j:Int)=some v:=by
 have hj:j < xs.length:=(List.getElem?_eq_some_iff.mp h).1
 have e:ixN xs.length (j:Int)=some j:=by
  unfold ixN
  rw[if_pos (by omega),if_pos (by omega)];simp
 unfold atI;rw[e];exact h
noncomputable def z7(b:Expr):Prop:=∀o i,subscripted b false o i=operate [o,i] (getItem o i)
noncomputable def IxR(X:Cx) (r:R2):Prop :=
 ∀(value slice:Expr) (pins:List (Addr×Obj)) (s:Shared) (σ:St) (H:Hp) (x y:V) (v u:Value) (Q:VK),Inv X pins σ H s->C1 x v->C1 y u->r x y H Q ->
  subscripted slice false v u=operate [v,u] (getItem v u)->wpAny (model X.prog X.w) X.A (subscriptTail value slice v u) (EP X pins σ Q) X.xe s
noncomputable def MtR(X:Cx) (id:String) (r:V->List V->Hp->VK->Prop):Prop :=
 ∀(pins:List (Addr×Obj)) (s:Shared) (σ:St) (H:Hp) (x:V) (xs:List V) (v:Value) (us:List Value) (Q:VK),Inv X pins σ H s->C1 x v->C5 xs us->r x xs H Q ->
  wpAny (model X.prog X.w) X.A (call (.builtin id) (v::us)) (EP X pins σ Q) X.xe s
section
variable {X:Cx}{a b:Expr}{ta tb:TE}{pos:Pos}
theorem IxR.or(h:IxR X r) (h':IxR X r'):IxR X (fun x y H Q=>r x y H Q\/r' x y H Q):=by
 intro value slice pins s σ H x y v u Q I rx ry q hs
 rcases q with q|q
 ·exact h value slice pins s σ H x y v u Q I rx ry q hs
 ·exact h' value slice pins s σ H x y v u Q I rx ry q hs
theorem bC3(hr:IxR X r) (ha:PE X a ta) (hb:PE X b tb) (hs:z7 b):PE X (.Subscript a b pos) (tOp r ta tb):=by
 intro pins s σ H Q I h
 exact Subscript_ (bV9 ha hb I h fun v u s2 x y H2 I2 rx ry q=>hr a b pins s2 σ H2 x y v u Q I2 rx ry q (hs _ _))
noncomputable def cb5(K:PySem.W.Frag):R2:=fun x y H Q=>∃p xs i v,x=.ref p/\y=.int i/\SqL K H p xs/\atI xs i=some v/\Q v H
noncomputable def cb3(K:PySem.W.Frag):R2:=fun x y H Q=>∃p xs i v,x=.ref p/\y=.int i/\SqT K H p xs/\atI xs i=some v/\Q v H
noncomputable def cb4:R2:=fun x y H Q=>∃z i c,x=.str z/\y=.int i/\z.length<=sizeLine/\atI z.cps.toList i=some c/\Q (.str ⟨#[c]⟩) H
theorem bx9:IxR X (cb5 X.K):=by
 intro value slice pins s σ H x y v u Q I rx ry h hs
 obtain⟨p,xs,i,z,rfl,rfl,hq,he,q⟩:=h
 cases rx
 obtain⟨t,rfl⟩:=ry
 obtain⟨its,r,pl,hz⟩:=I.list hq
 obtain⟨j,h1,h2,h3,h4,h5⟩:=at1 he
 obtain⟨w,ew,rw'⟩:=r.get h2
 have hl:=r.length
 have hn:=k7
 have fin:EP X pins σ Q w s:=⟨z,H,I,rw',q⟩
 by_cases h0:0<=i
 ·have hj:i.toNat=j:=by
   rw[seqIndex_of h0 h5]at h1
   exact Option.some.inj h1
  exact item_listR pl.isList h0 (by omega) (by rw[hj];simpa using ew) fin hs
 ·have hj:(i+(its.toArray.size:Int)).toNat=j:=by
   rw[seqIndex_neg (by omega) h4]at h1
   rw[List.size_toArray,← hl]
   exact Option.some.inj h1
  exact subscriptTail_builtinR (x:=w) pl.isList.typeIs slot_list_getitem.lookup
   (wpAny_getItem_list_neg (Q:=fun r s'=>r=w/\EP X pins σ Q r s') pl.isList (by omega) (by rw[List.size_toArray]<;>omega) (by omega) (by rw[hj];simpa using ew) ⟨rfl,fin⟩) hs
theorem bT3:IxR X (cb3 X.K):=by
 intro value slice pins s σ H x y v u Q I rx ry h hs
 obtain⟨p,xs,i,z,rfl,rfl,hq,he,q⟩:=h
 cases rx
 obtain⟨t,rfl⟩:=ry
 obtain⟨its,r,pl,hz⟩:=I.tuple hq
 obtain⟨j,h1,h2,h3,h4,h5⟩:=at1 he
 obtain⟨w,ew,rw'⟩:=r.get h2
 have hl:=r.length
 have hn:=k7
 have fin:EP X pins σ Q w s:=⟨z,H,I,rw',q⟩
 exact subscriptTail_builtinR (x:=w) pl.typeIs slot_tuple_getitem.lookup
  (getItem_tuple (j:=j) (Q:=fun r s'=>r=w/\EP X pins σ Q r s') pl (by omega) (by omega) (by rw[List.size_toArray,← hl];exact h1) (by simpa using ew) ⟨rfl,fin⟩) hs
theorem bT4:IxR X cb4:=by
 intro value slice pins s σ H x y v u Q I rx ry h hs
 obtain⟨z,i,c,rfl,rfl,hz,he,q⟩:=h
 obtain⟨t,rfl⟩:=rx
 obtain⟨t',rfl⟩:=ry
 obtain⟨j,h1,h2,h3,h4,h5⟩:=at1 he
 have hl:z.cps.toList.length=z.length:=by simp[Str.length]
 rw[hl]at h1 h4 h5
 have hn:=k7
 exact tail_any (typeIs_str s z t) slot_str_getitem.lookup (getItem_str (c:=c) (by
  have e1:decide (i < -(2 ^ 63:Int))=false:=decide_eq_false (by omega)
  have e2:decide (i ≥ 2 ^ 63)=false:=decide_eq_false (by omega)
  rw[e1,e2,Bool.or_false]) (by rw[h1];simpa using h2) ⟨.str ⟨#[c]⟩,H,I.tok _,⟨_,rfl⟩,q⟩) hs
noncomputable def rIx(K:PySem.W.Frag):R2:=fun x y H Q=>cb5 K x y H Q\/cb3 K x y H Q\/cb4 x y H Q
theorem bh8:IxR X (rIx X.K):=bx9.or (bT3.or bT4)
theorem n9(lo hi:Option Int) (n:Nat):(sliceBounds lo hi none n).1=((HT.sIx n 0 lo:Nat):Int)/\(sliceBounds lo hi none n).2.1=((HT.sIx n n hi:Nat):Int)/\(sliceBounds lo hi none n).2.2=1:=by
 refine⟨?_,?_,rfl⟩
 ·cases lo with
  | none=>simp[sliceBounds,HT.sIx]
  | some i =>
   simp only[sliceBounds,HT.sIx,Option.getD_none,show(1:Int) > 0 by decide,if_true]
   by_cases h:i < 0
   ·simp only[h,if_true]<;>omega
   ·simp only[h,if_false]<;>omega
 ·cases hi with
  | none=>simp[sliceBounds,HT.sIx]
  | some i =>
   simp only[sliceBounds,HT.sIx,Option.getD_none,show(1:Int) > 0 by decide,if_true]
   by_cases h:i < 0
   ·simp only[h,if_true]<;>omega
   ·simp only[h,if_false]<;>omega
theorem aj5(its:List Value) (lo hi:Option Int):slicePick its.toArray lo hi none=((its.drop (HT.sIx its.length 0 lo)).take (HT.sIx its.length its.length hi - HT.sIx its.length 0 lo)).toArray:=by
 obtain⟨h1,h2,h3⟩:=n9 lo hi its.toArray.size
 unfold slicePick
 rw[h1,h2,h3]
 simp only[sliceRange_one,pick_run,List.size_toArray]<;>rfl
noncomputable def ck4(K:PySem.W.Frag):V->Option Int->Option Int->Hp->VK->Prop:=fun x lo hi H Q=>∃a xs,x=.ref a/\SqL K H a xs/\∀p,H p=none->Q (.ref p) (upd H p (.lst (ay9 xs lo hi)))
theorem aI0:SlR X (ck4 X.K):=by
 intro pins s σ H x v vl vu lo hi sl Q I rx hs pl pu h
 obtain⟨a,xs,rfl,hx,q⟩:=h
 cases rx
 obtain⟨its,r,ht,hz⟩:=I.list hx
 have hlen:=r.length
 refine⟨"list", _,slot_list_getitem.lookup,ht.isList.typeIs,?_⟩
 refine wpAny_getItem_list_slice ht.isList hs pl pu .none (by simp) ?_ (by rw[List.size_toArray]<;>omega)
 rw[aj5,← hlen]
 refine⟨.ref s.heap.objs.size,_,I.laid (t':=s.toks) (o:=.lst (ay9 xs lo hi)) (fun b ob q=>Heap.get?_push_of_some _ q) (Nat.le_refl _) ?_,rfl,q _ (I.hok.fresh (Nat.le_refl _))⟩
 exact⟨Nat.le_trans (ad7 xs lo hi) hz,_,0,(r.drop (HT.sIx xs.length 0 lo)).take (HT.sIx xs.length xs.length hi - HT.sIx xs.length 0 lo),Heap.get?_push_size _ rfl⟩
noncomputable def i8:V->Bool
 | .non=>true
 | .bl _=>true
 | .int _=>true
 | .str _=>true
 | _=>false
noncomputable def eqV:V->V->Bool
 | .non,.non=>true
 | .bl a,.bl b=>a==b
 | .bl a,.int b=>(if a then 1 else 0)==b
 | .int a,.bl b=>a==(if b then 1 else 0)
 | .int a,.int b=>a==b
 | .str a,.str b=>a==b
 | _,_=>false
theorem bU2(ry:C1 y u) (rx:C1 x v) (fy:i8 y=true) (fx:i8 x=true):SeqAt.EqAt A s u v (eqV y x):=by
 cases y with
 | non =>
  cases ry
  cases x with
  | non=>cases rx;exact SeqAt.EqAt.same _
  | bl b=>cases rx;exact SeqAt.EqAt.none_bool b
  | int b=>obtain⟨t,rfl⟩:=rx;exact SeqAt.EqAt.none_int b t
  | str b=>obtain⟨t,rfl⟩:=rx;exact SeqAt.EqAt.none_str b t
  | _=>exact absurd (show false=true from fx) Bool.false_ne_true
 | bl a =>
  cases ry
  cases x with
  | non=>cases rx;exact SeqAt.EqAt.bool_none a
  | bl b=>cases rx;exact SeqAt.EqAt.bool_bool a b
  | int b=>obtain⟨t,rfl⟩:=rx;exact SeqAt.EqAt.bool_int a b t
  | str b=>obtain⟨t,rfl⟩:=rx;exact SeqAt.EqAt.bool_str a b t
  | _=>exact absurd (show false=true from fx) Bool.false_ne_true
 | int a =>
  obtain⟨t',rfl⟩:=ry
  cases x with
  | non=>cases rx;exact SeqAt.EqAt.int_none a t'
  | bl b=>cases rx;exact SeqAt.EqAt.int_bool a t' b
  | int b=>obtain⟨t,rfl⟩:=rx;exact SeqAt.EqAt.int_int a t' b t
  | str b=>obtain⟨t,rfl⟩:=rx;exact SeqAt.EqAt.int_str a t' b t
  | _=>exact absurd (show false=true from fx) Bool.false_ne_true
 | str a =>
  obtain⟨t',rfl⟩:=ry
  cases x with
  | non=>cases rx;exact SeqAt.EqAt.str_none a t'
  | bl b=>cases rx;exact SeqAt.EqAt.str_bool a t' b
  | int b=>obtain⟨t,rfl⟩:=rx;exact SeqAt.EqAt.str_int a t' b t
  | str b=>obtain⟨t,rfl⟩:=rx;exact SeqAt.EqAt.str_str a t' b t
  | _=>exact absurd (show false=true from fx) Bool.false_ne_true
 | _=>exact absurd (show false=true from fy) Bool.false_ne_true
noncomputable def eqU(x:V) (u:Value):Bool:=match u with
 | .none=>eqV .non x
 | .bool b=>eqV (.bl b) x
 | .int i _=>eqV (.int i) x
 | .str z _=>eqV (.str z) x
 | _=>false
theorem bj9(r:C1 y u) (f:i8 y=true):eqU x u=eqV y x:=by
 cases y with
 | non=>cases r;rfl
 | bl b=>cases r;rfl
 | int i=>obtain⟨t,rfl⟩:=r;rfl
 | str z=>obtain⟨t,rfl⟩:=r;rfl
 | _=>exact absurd (show false=true from f) Bool.false_ne_true
theorem y9:∀{xs:List V}{us:List Value},C5 xs us->xs.all i8=true->us.any (eqU x)=xs.any fun y=>eqV y x
 | _,_,.nil,_=>rfl
 | y::xs,u::us,.cons r t,f=>by
  rw[List.all_cons,Bool.and_eq_true]at f
  rw[List.any_cons,List.any_cons,bj9 r f.1,y9 t f.2]
theorem c9(rx:C1 x v) (fx:i8 x=true):∀{xs:List V}{us:List Value},C5 xs us->xs.all i8=true->∀u∈us,SeqAt.EqAt A s u v (eqU x u)
 | _,_,.nil,_=>fun u hu=>by cases hu
 | y::xs,u::us,.cons r t,f=>fun u' hu=>by
  rw[List.all_cons,Bool.and_eq_true]at f
  rcases List.mem_cons.mp hu with rfl|hu
  ·rw[bj9 r f.1];exact bU2 r rx f.1 fx
  ·exact c9 rx fx t f.2 u' hu
noncomputable def inV(x:V) (xs:List V):Bool:=xs.any fun y=>eqV y x
noncomputable def rIn(K:PySem.W.Frag) (neg:Bool):R2:=fun x y H Q=>∃p xs,y=.ref p/\(SqL K H p xs\/SqT K H p xs)/\i8 x=true/\xs.all i8=true/\Q (.bl (if neg then !inV x xs else inV x xs)) H
theorem aQ3:OpR X (compareOp .In) (rIn X.K false):=by
 intro pins s σ H x y v u Q I rx ry h
 obtain⟨p,xs,rfl,hq,fx,fs,q⟩:=h
 cases ry
 rcases hq with hq|hq
 ·obtain⟨its,r,pl,hz⟩:=I.list hq
  refine SeqAt.in_listAt (eqU x) pl.isList (fun w hw=>c9 rx fx r fs w (by simpa using hw)) ⟨.bl _,H,I,rfl,?_⟩
  rw[show its.toArray.any (eqU x)=its.any (eqU x) by simp,y9 r fs]
  exact q
 ·obtain⟨its,r,pl,hz⟩:=I.tuple hq
  refine SeqAt.in_tupleAt (eqU x) pl (fun w hw=>c9 rx fx r fs w (by simpa using hw)) ⟨.bl _,H,I,rfl,?_⟩
  rw[show its.toArray.any (eqU x)=its.any (eqU x) by simp,y9 r fs]
  exact q
theorem ap3:OpR X (compareOp .NotIn) (rIn X.K true):=by
 intro pins s σ H x y v u Q I rx ry h
 obtain⟨p,xs,rfl,hq,fx,fs,q⟩:=h
 cases ry
 rcases hq with hq|hq
 ·obtain⟨its,r,pl,hz⟩:=I.list hq
  refine SeqAt.notIn_listAt (eqU x) pl.isList (fun w hw=>c9 rx fx r fs w (by simpa using hw)) ⟨.bl _,H,I,rfl,?_⟩
  rw[show its.toArray.any (eqU x)=its.any (eqU x) by simp,y9 r fs]
  exact q
 ·obtain⟨its,r,pl,hz⟩:=I.tuple hq
  refine SeqAt.notIn_tupleAt (eqU x) pl (fun w hw=>c9 rx fx r fs w (by simpa using hw)) ⟨.bl _,H,I,rfl,?_⟩
  rw[show its.toArray.any (eqU x)=its.any (eqU x) by simp,y9 r fs]
  exact q
theorem as6:O0 X (.builtin "len") (fun xs H Q=>∃p ys,xs=[.ref p]/\(SqL X.K H p ys\/SqT X.K H p ys)/\Q (.int ys.length) H):=by
 intro pins s σ H xs us Q I r h
 obtain⟨p,ys,rfl,hq,q⟩:=h
 obtain⟨u,rfl,rx⟩:=Q5 r
 cases rx
 have hn:=k7
 rcases hq with hq|hq
 ·obtain⟨its,r',pl,hz⟩:=I.list hq
  have hlen:=r'.length
  exact Calls.call_len_list pl.isList (by simp only[List.size_toArray]<;>omega) ⟨.int ys.length,H,I.tok _,⟨s.toks+1,by rw[List.size_toArray,hlen]⟩,q⟩
 ·obtain⟨its,r',pl,hz⟩:=I.tuple hq
  have hlen:=r'.length
  exact len_tuple pl (by simp only[List.size_toArray]<;>omega) ⟨.int ys.length,H,I.tok _,⟨s.toks+1,by rw[List.size_toArray,hlen]⟩,q⟩
theorem as5:O0 X (.builtin "len") (fun xs H Q=>∃z,xs=[.str z]/\z.length<=sizeLine/\Q (.int z.length) H):=by
 intro pins s σ H xs us Q I r h
 obtain⟨z,rfl,hz,q⟩:=h
 obtain⟨u,rfl,t,rfl⟩:=Q5 r
 have hn:=k7
 exact len_str (by omega) ⟨.int z.length,H,I.tok _,⟨_,rfl⟩,q⟩
theorem as4:O0 X (.type "list") (fun xs H Q=>∃p ys,xs=[.ref p]/\(SqL X.K H p ys\/SqT X.K H p ys)/\∀l,H l=none->Q (.ref l) (upd H l (.lst ys))):=by
 intro pins s σ H xs us Q I r h
 obtain⟨p,ys,rfl,hq,q⟩:=h
 obtain⟨u,rfl,rx⟩:=Q5 r
 cases rx
 have fin:∀(its:List Value),C5 ys its->ys.length<=sizeLine->∀(h':Heap) (c':Nat),(∀b o',s.heap.get? b=some o'->h'.get? b=some o') ->
   h'.get? s.heap.objs.size=some { cls:=.type "list", dict:=none,data:=.seq its.toArray c',slots:=#[] }->EP X pins σ Q (.ref s.heap.objs.size) { s with heap:=h' }:=fun its r' hz h' c' kp e =>
  ⟨.ref s.heap.objs.size,_,I.laid (t':=s.toks) kp (Nat.le_refl _) (show N3 X.prog X.w _ h' _ (.lst ys) from⟨hz,its,c',r',e⟩),rfl,q _ (I.hok.fresh (Nat.le_refl _))⟩
 rcases hq with hq|hq
 ·obtain⟨its,r',pl,hz⟩:=I.list hq
  have hlen:=r'.length
  obtain⟨o,ho,hc,n,hd⟩:=pl.isList
  exact call_list_seq p (.inl rfl) ho hc hd (fun h' c' kp e=>fin its r' hz h' c' kp e) (by simp only[List.size_toArray]<;>omega)
 ·obtain⟨its,r',pl,hz⟩:=I.tuple hq
  have hlen:=r'.length
  obtain⟨o,ho,hc,n,hd⟩:=pl
  exact call_list_seq p (.inr rfl) ho hc hd (fun h' c' kp e=>fin its r' hz h' c' kp e) (by simp only[List.size_toArray]<;>omega)
theorem ak1:O0 X (.type "tuple") (fun xs H Q=>∃p ys,xs=[.ref p]/\((SqL X.K H p ys/\∀l,H l=none->Q (.ref l) (upd H l (.tup ys)))\/(SqT X.K H p ys/\Q (.ref p) H))):=by
 intro pins s σ H xs us Q I r h
 obtain⟨p,ys,rfl,h⟩:=h
 obtain⟨u,rfl,rx⟩:=Q5 r
 cases rx
 rcases h with⟨hq,q⟩|⟨hq,q⟩
 ·obtain⟨its,r',pl,hz⟩:=I.list hq
  have hlen:=r'.length
  refine call_tuple_list pl.isList (fun h' kp=>?_) (by simp only[List.size_toArray]<;>omega)
  have I1:Inv X pins σ H { s with heap:=h' }:=I.kept (t':=s.toks) kp
  have I2:Inv X pins σ (upd H h'.objs.size (.tup ys)) { s with heap:=h'.push { cls:=.type "tuple", data:=.seq its.toArray } } :=
   I1.laid (t':=s.toks) (fun b o e=>Heap.get?_push_of_some _ e) (Nat.le_refl _) (show N3 X.prog X.w _ _ _ (.tup ys) from⟨hz,its,r',ai9.new _ _⟩)
  exact⟨.ref h'.objs.size,_,I2,rfl,q _ (I1.hok.fresh (Nat.le_refl _))⟩
 ·obtain⟨its,r',pl,hz⟩:=I.tuple hq
  exact call_tuple_same pl ⟨.ref p,H,I,rfl,q⟩
noncomputable def tyV(K:PySem.W.Frag) (T:String) (x:V) (H:Hp):Prop:=match x with
 | .str _=>T = "str"
 | .int _=>T = "int"
 | .ref p=>(T = "list" /\ ∃xs,SqL K H p xs)\/(T = "tuple" /\ ∃o,K.lookup p=some o/\o.cls=.type "tuple" /\ o.dict=none) \/
   (T = "dict" /\ ((∃kvs,H p=some (.dK kvs))\/∃kvs,H p=some (.dT kvs)))\/(T = "set" /\ ∃S n,H p=some (.set S n))
 | _=>False
theorem bH5(I:Inv X pins σ H s) (r:C1 x v) (ty:tyV X.K T x H) :
  s.TypeIs v T/\∀a,v=.ref a->∃ob,s.heap.get? a=some ob/\ob.dict=none:=by
 cases x with
 | str z =>
  obtain⟨t,rfl⟩:=r
  cases(show T = "str" from ty)
  exact⟨typeIs_str s z t,fun _ e=>nomatch e⟩
 | int i =>
  obtain⟨t,rfl⟩:=r
  cases(show T = "int" from ty)
  exact⟨typeIs_int s i t,fun _ e=>nomatch e⟩
 | ref p =>
  cases r
  rcases ty with⟨rfl,xs,hq⟩|⟨rfl,o,hk,hc,hd⟩|⟨rfl,hk⟩|⟨rfl,S,n,hk⟩
  ·obtain⟨its,_,pl,_⟩:=I.list hq
   refine⟨pl.isList.typeIs,fun a e=>?_⟩
   cases e
   obtain⟨o,n,e,c,hd,_⟩:=pl
   exact⟨o,e,hd⟩
  ·refine⟨⟨o,I.kIn p o hk,hc⟩,fun a e=>?_⟩
   cases e
   exact⟨o,I.kIn _ o hk,hd⟩
  ·have z:∃o,s.heap.get? p=some o/\o.ExactDict:=by
    rcases hk with⟨kvs,hk⟩|⟨kvs,hk⟩
    ·obtain⟨_,_,_,_,o,_,_,e,ex,_⟩:=I.hok p _ hk
     exact⟨o,e,ex⟩
    ·obtain⟨_,_,_,_,o,_,_,e,ex,_⟩:=I.hok p _ hk
     exact⟨o,e,ex⟩
   obtain⟨o,e,ex⟩:=z
   refine⟨⟨o,e,ex.1⟩,fun a e2=>?_⟩
   cases e2
   exact⟨o,e,ex.2.1⟩
  ·obtain⟨o,_,_,_,e,ex,_⟩:=I.hok p _ hk
   refine⟨⟨o,e,ex.1⟩,fun a e2=>?_⟩
   cases e2
   exact⟨o,e,ex.2.1⟩
 | _=>exact False.elim ty
noncomputable def tBM(K:PySem.W.Frag) (T:String) (r:V->List V->Hp->VK->Prop) (to:TE) (t:TA):TE:=fun σ H Q=>to σ H fun x H1=>tyV K T x H1/\t σ H1 fun xs H2=>r x xs H2 Q
variable {o e:Expr}{es:List Expr}{to:TE}{t:TA}{name:Str}{apos cpos:Pos}{T id:String}{r:V->List V->Hp->VK->Prop}
theorem al0(pa:PlainAttrs T) (slot:Slot T name id) (hty:typeOf (.builtin id)=pure (.type "method_descriptor")) (hm:MtR X id r) (ho:PE X o to) (ha:PA X (e::es) t)
  (hbase:attributeBase o name X.env (eval o X.env)=eval o X.env:=by rfl)
  (hfew:((backTo cpos (starEach (e::es) X.env)).all (fun x=>!x.1)&&(backToKw cpos (keywordEach [] X.env)).all (fun x=>x.1.isSome)
   && decide ((e::es).length+([]:List Keyword).length+(if([]:List Keyword).isEmpty then 0 else 1) < 30))=true:=by rfl)
  (hline:(apos.endLine==cpos.line)=true:=by rfl) (hs:starEach (e::es) X.env=(false,eval e X.env)::starEach es X.env:=by rfl) (hplain:(backTo cpos (starEach es X.env)).any (·.1)=false:=by rfl) :
  PE X (.Call (.Attribute o name apos) (e::es) [] cpos) (tBM X.K T r to t):=by
 intro pins s σ H Q I h
 refine wpAny_Call_method_late hbase hfew hline rfl (thn (ho pins s σ H _ I h) fun v s1 ⟨x,H1,I1,r1,ty,q1⟩=>?_)
 obtain⟨h1,h2⟩:=bH5 I1 r1 ty
 refine⟨T,id,pa,slot,hty,h1,h2,?_⟩
 have hA:=ha cpos pins s1 σ H1 _ I1 q1
 rw[hs]at hA ⊢
 refine Calls.callWith_builtin (by show(false || (backTo cpos (starEach es X.env)).any (·.1))=false;rw[hplain]<;>rfl) (Calls.evalArgs_plain ?_)
 exact thn hA fun us s2 ⟨vs,H2,I2,r2,q2⟩=>hm pins s2 σ H2 x vs v us Q I2 r1 r2 q2
end
end L2
namespace L2
open PySem PySem.Spec PyProof.Rows
noncomputable def MtM(X:Cx) (id:String) (r:V->List V->Hp->VK->Prop):Prop :=
 ∀(pins:List (Addr×Obj)) (s:Shared) (σ:St) (H:Hp) (x:V) (xs:List V) (v:Value) (us:List Value) (Q:VK),Inv X pins σ H s->C1 x v->C5 xs us->r x xs H Q ->
  wpAny (model X.prog X.w) X.A (call (.builtin id) (v::us)) (EP X pins σ Q) X.xe s
theorem C5.one:∀{x:V}{us:List Value},C5 [x] us->∃u,us=[u]/\C1 x u
 | _,_,.cons r .nil=>⟨_,rfl,r⟩
theorem C5.rep(h:C5 xs us):∀k:Nat,C5 (List.replicate k xs).flatten (List.replicate k us).flatten
 | 0=>.nil
 | k+1=>by
  rw[List.replicate_succ,List.replicate_succ,List.flatten_cons,List.flatten_cons]
  exact C5.append h (C5.rep h k)
theorem al6(its:List Value):∀(k:Nat) (acc:List Value),
  List.foldl (fun x1 x2=>x1++x2) acc.toArray (List.replicate k its.toArray)=(acc++(List.replicate k its).flatten).toArray
 | 0,acc=>by simp
 | k+1,acc=>by
  have e:acc.toArray++its.toArray=(acc++its).toArray:=by simp
  have e2:(acc++its)++(List.replicate k its).flatten=acc++(List.replicate (k+1) its).flatten:=by
   rw[List.replicate_succ,List.flatten_cons,List.append_assoc]
  rw[← e2,← al6 its k (acc++its),← e,List.replicate_succ,List.foldl_cons]
section
variable {X:Cx}{pins:List (Addr×Obj)}{σ:St}{H:Hp}{s:Shared}{l b:Addr}{xs ys zs:List V}
theorem Inv.lset{its its':List Value}{n:Nat}{f:Array Value->Array Value}{t':Nat}(I:Inv X pins σ H s) (hH:H l=some (.lst xs))
  (e:s.heap.get? l=some { cls:=.type "list", data:=.seq its.toArray n }) (hf:f its.toArray=its'.toArray) (hv:C5 ys its') (hz:ys.length<=sizeLine) :
  Inv X pins σ (upd H l (.lst ys)) { s with heap:=s.heap.update l (Obj.mapSeq f),toks:=t' }:=by
 have q:=PySem.IsL.update e f
 rw[hf]at q
 refine I.write (x:=l) (e:=l) (by rw[hH];exact trivial) (.inl rfl) (fun b' u hb hu=>(Heap.get?_update_other s.heap (Obj.mapSeq f) (Ne.symm hb)).trans hu) ⟨_,q⟩ ?_
 exact⟨hz,its',_,hv,q⟩
theorem Inv.lnew(I:Inv X pins σ H s) (hv:C5 ys its) (hz:ys.length<=sizeLine) :
  Inv X pins σ (upd H s.heap.objs.size (.lst ys)) { s with heap:=s.heap.push { cls:=.type "list", data:=.seq its.toArray },toks:=t' } :=
 I.laid (fun _ _ q=>Heap.get?_push_of_some _ q) (Nat.le_refl _) ⟨hz,its,0,hv,Heap.get?_push_size _ rfl⟩
theorem Inv.fresh(I:Inv X pins σ H s):H s.heap.objs.size=none:=I.hok.fresh (Nat.le_refl _)
theorem Inv.lstM(I:Inv X pins σ H s) (hH:H l=some (.lst xs)):xs.length<=sizeLine/\∃(its:List Value) (n:Nat),C5 xs its/\xs.length=its.length/\s.heap.get? l=some { cls:=.type "list", data:=.seq its.toArray n }:=by
 obtain⟨z,its,n,r,e⟩:=I.hok l _ hH
 exact⟨z,its,n,r,r.length,e⟩
theorem c6(h:n<=sizeLine):Builtin.List.listTooLong n=false:=by
 unfold Builtin.List.listTooLong
 exact decide_eq_false (by omega)
end
section
variable {X:Cx}
noncomputable def bq9:V->List V->Hp->VK->Prop:=fun x vs H Q=>∃l xs y,x=.ref l/\vs=[y]/\H l=some (.lst xs)/\xs.length < sizeLine/\Q .non (upd H l (.lst (xs++[y])))
theorem f9:MtM X "list.append" bq9:=by
 intro pins s σ H x vs v us Q I rx rv h
 obtain⟨l,xs,y,rfl,rfl,hH,hz,q⟩:=h
 cases rx
 obtain⟨u,rfl,ru⟩:=rv.one
 obtain⟨z,its,n,r,hl,e⟩:=I.lstM hH
 refine call_meets F.slot_list_append ⟨_,e,rfl⟩ F.entry_list_append (F.args_list_append_2 _ _) (PySem.list_append l its.toArray n u (by rw[List.size_toArray];omega)) ⟨e,?_⟩
 refine⟨.non,_,I.lset (its':=its++[u]) hH e (by simp) (r.append (.cons ru .nil)) ?_,rfl,q⟩
 rw[List.length_append,List.length_singleton]
 omega
theorem aq3{α:Type}(xs:List α) (k:Nat):(List.replicate k xs).flatten.length=k*xs.length:=by
 induction k with
 | zero=>simp
 | succ k ih=>rw[List.replicate_succ,List.flatten_cons,List.length_append,ih,Nat.succ_mul,Nat.add_comm]
end
section
variable {prog:Program}{w:World}{A:Around}{E:Value->Shared->Prop}{s:Shared}
theorem aP1(its its2:List Value) (a c:Nat):its.toArray.extract 0 a++its2.toArray++its.toArray.extract c its.toArray.size=(its.take a++its2++its.drop c).toArray:=by
  apply Array.toList_inj.mp
  first
    | (simp
       exact List.take_of_length_le (by simp))
    | simp[List.take_of_length_le]
    | simp
set_option maxRecDepth 100000 in
end
section
variable {X:Cx}
end
end L2
namespace Att
open PySem PySem.W PySem.Calls PyProof.Rows
theorem ad9:∀(ns:List Int) (vs:List Value),WellAll P h vs (ns.map WData.int)->IntsAre vs ns:=by
 intro ns
 induction ns with
 | nil =>
  intro vs w
  rw[List.map_nil]at w
  cases w
  exact .nil
 | cons n ns ih =>
  intro vs w
  rw[List.map_cons]at w
  cases w with
  | cons a b =>
   cases a
   exact .cons _ _ (ih _ b)
theorem aP4{l:OpenLaw}{n:Nat}(hn:l.most=some n) {P:Params}{h:Heap}{args:List WData}{vals:List Value}
  (hpre:l.row.toRowW.claim.pre args=true) (hwl:WellAll P h vals args) :
  ∃a vs ns,vals=[Value.ref a]/\args=[WData.list (ns.map WData.int)]/\h.get? a=some { cls:=.type "list", data:=.seq vs.toArray }/\IntsAre vs ns/\ns.length<=n:=by
 have hsh:WShape.hasAll [] args [.list .int]=true:=(pre_splitW hpre).1
 have hc:l.pre.holds [] { args:=args }=true:=(pre_splitW hpre).2
 obtain⟨d,r,rfl,h1,h2⟩:=hasAllW_cons hsh
 obtain rfl:=hasAllW_nil h2
 obtain⟨xs,rfl,h3⟩:=hasW_list h1
 obtain⟨ns,rfl⟩:=items_int h3
 have hlen:ns.length<=n:=by
  unfold OpenLaw.pre at hc
  have h4:(WTm.not (.lt (.lit (.int (n:Int))) (.len (.arg 0)))).holds [] { args:=[.list (ns.map .int)] }=true:=by
   have h4:=(holds_andW hc).1
   rw[hn]at h4
   exact h4
  have h5:=condW_of h4 (w_not (w_lt w_lit (w_len_list (w_arg rfl))))
  rw[List.length_map]at h5
  refine Nat.le_of_not_lt fun q=>?_
  have q':(n:Int) < ((ns.length:Nat):Int):=by omega
  first
   | (rw[decide_eq_true q']at h5;exact absurd h5 (by decide))
   | (simp at h5;omega)
 cases hwl with
 | cons w1 w2 =>
  cases w2
  cases w1 with
  | list ho hall=>exact⟨_,_,ns,rfl,rfl,ho,ad9 ns _ hall,hlen⟩
theorem aP7(l:OpenLaw) (args:List WData):l.row.toRowW.claim.post args (.bool true) args=true :=
 postW_of (r:=l.row.toRowW) (X:=(true==true))
  (show WShape.has [] (.bool true) .bool=true by first|rfl|decide|simp[WShape.has,WShape.arms,WShape.armsAll])
  (show(WTm.eq .res (.lit (.bool true))).value [] { args:=args,res:=some (.bool true),after:=args }=some (.bool (true==true)) from w_eq_bool (w_res rfl) w_lit) rfl
theorem attach_call{l:OpenLaw}{n:Nat}{q:Program}{loose:List Str}{XP:(Str->Option Value)->Heap->Prop}{YP:World->Heap->Prop}{d:DefRec}
  (hn:l.most=some n) (hdf:d.params.defaults=[])
  (call:∀(w:World) (s₀ s₁:Shared) (mg mb:Str->Option Value) (fa:Addr) (o:Obj) (pm cd doc:Value) (a:Addr) (vs:List Value) (ns:List Int),
   Ground q loose [] XP w s₀ mg mb s₁.heap->YP w s₁.heap ->
   s₁.heap.get? fa=some o->o.data=.func (docDef d.name d.params d.body d.scope pm cd doc)->s₁.heap.CodeRec cd d.name->mg d.name=some (.ref fa) ->
   s₁.heap.get? a=some { cls:=.type "list", data:=.seq vs.toArray }->IntsAre vs ns->ns.length<=n->s₁.gens = #[] ->
   codeAny (model l.prog w) callerA (.call (.ref fa) ⟨[.ref a],[]⟩) (fun r s'=>r=.ok (.ret (.bool true))/\OldK s₁.heap s'.heap/\s'.os=s₁.os/\AllBare s'.gens) s₁) :
  WalkO q loose XP YP l.row.toRowW d [] (fun f vs=>PySem.call f vs):=by
 intro w s₀ s₁ mg mb G Y fa o pm cd doc dV kV ho hd hcd hD hmg hg args vals as hpre hlay hrd hwl hlo
 obtain rfl:dV=.none:=Dflts.none hD hdf
 obtain rfl:kV=.none:=Dflts.noKw hD
 obtain⟨a,vs,ns,rfl,rfl,hobj,hints,hlen⟩:=aP4 hn hpre hwl
 refine enter_call (codeAny_mono (call w s₀ s₁ mg mb fa o pm cd doc a vs ns G Y ho (fd_plain hd) hcd hmg hobj hints hlen hg) fun r s' hq=>?_)
 obtain⟨rfl,h2,h3,h4⟩:=hq
 exact⟨.inl ⟨.bool true,.bool true,[],rfl,fun _=>rfl,.bool true,aP7 l _,fun _=>⟨List.Pairwise.nil,fun _ hm=>(nomatch hm)⟩⟩,h2,h3,h4⟩
section
variable {prog:Program}{w:World}{A:Around}{E:Value->Shared->Prop}{s:Shared}{K:Frag}
end
end Att
namespace L2
open PySem PySem.Spec PyProof.Rows
theorem R8:∀{vs:List Value}{ns:List Int},IntsAre vs ns->C5 (ns.map V.int) vs
 | _,_,.nil=>.nil
 | _,_,.cons n t h=>.cons ⟨t,rfl⟩ (R8 h)
noncomputable def bX2(H:Hp):Prop:=∀b,H b=none\/∃o xs,H b=some (.frz o (.lst xs))
theorem bf1{P:Program}{w:World}{K:PySem.W.Frag}{mg mb:Str->Option Value}{CX:CXT}{k:Nat}{fa a:Addr}{fd:FuncData}{x:Str}{sp:Sp}{s₁:Shared}{vs:List Value}{ns:List Int}
  (KX:K.In s₁.heap) (hns:s₁.heap.Ns mainGlobals mg) (hb:s₁.heap.Ns builtinsNs mb) (hbb:∀x:Str,x ≠ "__name__" -> mb x=bootBuiltins x) (hlim:s₁.heap.NoLimit) (hg:s₁.gens = #[])
  (ha:s₁.heap.get? a=some { cls:=.type "list", data:=.seq vs.toArray }) (hi:IntsAre vs ns) (hl:ns.length<=sizeLine) (hr:Room k callerA)
  (F:∀base:Heap,K.In base->base.Ns mainGlobals mg->FnOk P w K mg base CX k fa fd [x] sp) (hbind:∀(s:Shared) (u:Value),BindsTo s fd ⟨[u],[]⟩ [(x,u)])
  (hsp:∀H:Hp,bX2 H->SqL K H a (ns.map V.int)->sp [.ref a] H (fun v _=>v=.bl true) fun _ _ _=>False)
  (hCX:∀H e s',CX [] H s₁ (fun _ _ _=>False) e s'->False) :
  codeAny (model P w) callerA (.call (.ref fa) ⟨[.ref a],[]⟩) (fun r s'=>r=.ok (.ret (.bool true))/\OldK s₁.heap s'.heap/\s'.os=s₁.os/\AllBare s'.gens) s₁:=by
 have rv:=R8 hi
 have lenV:=hi.length
 have core:∀H:Hp,bX2 H->SqL K H a (ns.map V.int)->HOk P w H s₁.heap->(∀b,H b≠none->b=a)->(H a≠none->K.lookup a=none) ->
   codeAny (model P w) callerA (.call (.ref fa) ⟨[.ref a],[]⟩) (fun r s'=>r=.ok (.ret (.bool true))/\OldK s₁.heap s'.heap/\s'.os=s₁.os/\AllBare s'.gens) s₁:=by
  intro H hO hS hok hA hK
  have base_of:∀{b:Addr}{o:Obj},s₁.heap.get? b=some o->H b=none->(aq9 s₁.heap H).get? b=some o:=fun e n=>bi4 e n
  have noA:∀{b:Addr}{o:Obj}{es:Array DictEntry}{ep:Nat},s₁.heap.get? b=some o->o.data=.dict es ep->H b=none:=fun{b o es ep} e d=>by
   cases q:H b with
   | none=>rfl
   | some u =>
    have e':b=a:=hA b (by rw[q];simp)
    subst e'
    rw[ha]at e;cases e
    have d':Data.seq vs.toArray _=Data.dict es ep:=d
    cases d'
  have nsK:∀{b:Addr}{m:Str->Option Value},s₁.heap.Ns b m->(aq9 s₁.heap H).Ns b m:=fun{b m} ⟨o,es,ep,e,d,r⟩=>⟨o,es,ep,base_of e (noA e d),d,r⟩
  have hKb:K.In (aq9 s₁.heap H):=fun b o e=>base_of (KX b o e) (by
   cases q:H b with
   | none=>rfl
   | some u =>
    have e':b=a:=hA b (by rw[q];simp)
    subst e'
    rw[hK (by rw[q];simp)]at e;cases e)
  have hM:Mod K mg (aq9 s₁.heap H):=⟨hKb,nsK hns,⟨mb,nsK hb,hbb⟩,let⟨mc,h1,h2⟩:=hlim;⟨mc,nsK h1,h2⟩⟩
  have e0:Env0 P w K mg (aq9 s₁.heap H) callerA [] s₁ H:=⟨rfl,hM,fun b o e=>bu0 e,Nat.le_of_eq (aS9 _ _),trivial,fun b hb=>absurd (show b∈([]:List Addr) from hb) (by simp),hok,.of_eq hg⟩
  refine codeAny_mono ((F _ hKb (nsK hns)).run callerA [] s₁ H ⟨[.ref a],[]⟩ [.ref a] [.ref a] _ _ hr e0 (hbind s₁ (.ref a)) (.cons rfl .nil) (hsp H hO hS)) fun r s' h=>?_
  cases r with
  | error e=>exact(hCX H e s' h).elim
  | ok fl =>
   cases fl with
   | next=>exact False.elim h
   | brk=>exact False.elim h
   | cont=>exact False.elim h
   | ret u =>
    obtain⟨v,H',os,bare,un,hok',r',q⟩:=h
    have q':v=.bl true:=q
    subst q'
    obtain rfl:u=Value.bool true:=r'
    refine⟨rfl,OldK.of_keep fun b o e=>?_,os,bare⟩
    cases q:H b with
    | none=>exact un.keep b o e q (by intro z;exact absurd (show b∈([]:List Addr) from z) (by simp)) (by simp)
    | some u =>
     rcases hO b with z|⟨ob,xs,z⟩
     ·rw[q]at z;cases z
     ·have z2:=un.frzs b ob _ z
      obtain⟨e1,_⟩:=hok b _ z
      obtain⟨e2,_⟩:=hok' b _ z2
      rw[e]at e1;cases e1
      exact e2
 cases hk:K.lookup a with
 | some o =>
  have e:=KX a o hk
  rw[ha]at e
  cases e
  refine core (fun _=>none) (fun _=>.inl rfl) (.inr ⟨_,vs.toArray,_,hk,rfl,rfl,rfl,by rw[List.size_toArray,lenV];exact hl,by simpa using rv⟩) (fun b u z=>by have z':(none:Option HO)=some u:=z;cases z') (fun b z=>absurd rfl z) fun z=>absurd rfl z
 | none =>
  refine core (fun b=>if b=a then some (.frz { cls:=.type "list", data:=.seq vs.toArray } (.lst (ns.map V.int))) else none) (fun b=>?_) (.inl (.inr ⟨{ cls:=.type "list", data:=.seq vs.toArray },if_pos rfl⟩)) (fun b u z=>?_) (fun b z=>?_) fun _=>hk
  ·by_cases hb:b=a
   ·exact .inr ⟨_,_,if_pos hb⟩
   ·exact .inl (if_neg hb)
  ·by_cases hb:b=a
   ·have z':=(if_pos hb).symm.trans z
    cases z'
    subst hb
    exact⟨ha,by rw[List.length_map];exact hl,vs,_,rv,ha⟩
   ·have z':=(if_neg hb).symm.trans z
    cases z'
  ·by_cases hb:b=a
   ·exact hb
   ·exact absurd (if_neg hb) z
end L2
namespace L2
open PySem PySem.Spec PyProof.Rows
theorem bn6{l:PySem.W.OpenLaw}{n k:Nat}{q:Program}{loose:List Str}{XP:(Str->Option Value)->Heap->Prop}{YP:World->Heap->Prop}{d:DefRec}{K:Params->PySem.W.Frag}{CX:World->CXT}{sp:World->Sp}{x:Str}
  (hn:l.most=some n) (hn2:n<=sizeLine) (hdf:d.params.defaults=[]) (hr:Room k callerA)
  (hY:∀(w:World) (h:Heap),YP w h->(K w.params).In h)
  (F:∀(w:World) (mg:Str->Option Value) (fa:Addr) (h:Heap),(K w.params).In h->h.Ns mainGlobals mg->mg d.name=some (.ref fa) ->
   ∃fd:FuncData,(∀(s:Shared) (u:Value),BindsTo s fd ⟨[u],[]⟩ [(x,u)]) /\
    ∀base:Heap,(K w.params).In base->base.Ns mainGlobals mg->FnOk l.prog w (K w.params) mg base (CX w) k fa fd [x] (sp w))
  (hsp:∀(w:World) (H:Hp) (a:Addr) (ns:List Int),ns.length<=n->bX2 H->SqL (K w.params) H a (ns.map V.int)->sp w [.ref a] H (fun v _=>v=.bl true) fun _ _ _=>False)
  (hCX:∀(w:World) (H:Hp) (s:Shared) (e:Value) (s':Shared),CX w [] H s (fun _ _ _=>False) e s'->False) :
  PySem.W.WalkO q loose XP YP l.row.toRowW d [] (fun f vs=>PySem.call f vs):=by
 refine Att.attach_call hn hdf fun w s₀ s₁ mg mb fa o pm cd doc a vs ns G Y ho hd hcd hmg hobj hints hlen hg=>?_
 have KX:=hY w _ Y
 obtain⟨fd,hb,hF⟩:=F w mg fa _ KX G.T.g hmg
 exact bf1 KX G.T.g G.T.b G.T.builtins G.T.nolimit hg hobj hints (Nat.le_trans hlen hn2) hr hF hb (fun H hO hS=>hsp w H a ns hlen hO hS) fun H e s'=>hCX w H s₁ e s'
end L2
namespace L2
open PySem PySem.Spec PyProof.Rows
noncomputable def R3(s:Stmt):Arguments:=match s with
 | .FunctionDef _ a _ _ _ _ _ _ _ _=>a
 | _=>{ posonlyargs:=[],args:=[],vararg:=none,kwonlyargs:=[],kw_defaults:=[],kwarg:=none,defaults:=[] }
noncomputable def B3(s:Stmt):List Stmt:=match s with
 | .FunctionDef _ _ b _ _ _ _ _ _ _=>b
 | _=>[]
noncomputable def B8(s:Stmt):Scope:=match s with
 | .FunctionDef _ _ _ _ _ _ sc _ _ _=>sc
 | _=>{ kind:=.function,names:=[],isGenerator:=false,isCoroutine:=false }
noncomputable abbrev CX0:CXT:=fun _ _ _ _ _ _=>False
noncomputable abbrev E0:XK:=fun _ _ _=>False
theorem ah2:d8 CX0 X E0:=fun _ _ _ _ _ _ _ h=>h.elim
structure Fun (K:PySem.W.Frag) (x qual:Str) (st:Stmt) (f:Addr) (fd:FuncData):Prop where
 ex:∃(oc:Value) (od:Option Addr) (kV doc pm:Value) (an:Option Addr) (cdv ct:Value) (osl:Array (Option Value)),
  fd=PySem.W.fnOf x qual (R3 st) (B3 st) (B8 st) .none kV doc pm an cdv ct/\K.lookup f=some ⟨oc,od,.func fd,osl⟩/\PySem.W.codeIn K cdv qual=true
 kp:PySem.W.keepIn K (.ref f)=true
section
variable {P:Program}{w:World}{K:PySem.W.Frag}{mg:Str->Option Value}{base:Heap}
theorem Fun.ok{x qual:Str}{st:Stmt}{f:Addr}{fd:FuncData}{N ps:List Str}{k:Nat}{sp:Sp}(F:Fun K x qual st f fd) (S:FnScope N ps (B8 st)) (len:∀vs H Q E,sp vs H Q E->vs.length=ps.length)
  (hbody:∀(cdv:Value) (A:Around) (outer:List Env) (s:Shared) (H:Hp) (vs:List V) (Q:VK) (E:XK),Room k (A.deeper (envOfC qual (B8 st) s.heap.objs.size f cdv))->sp vs H Q E ->
   ∃t,PSs (ab0 CX0 P w K mg base N qual (B8 st) f cdv A outer s H E).nox (B3 st) t/\t { nx:=fun _ H'=>Q .non H',rt:=Q } (start N vs) H):FnOk P w K mg base CX0 (k+1) f fd ps sp:=by
 obtain⟨oc,od,kV,doc,pm,an,cdv,ct,osl,rfl,lk,hcd⟩:=F.ex
 refine cg1 lk hcd S len fun A outer s H vs Q E hr hsp=>?_
 obtain⟨t,h,q⟩:=hbody cdv A outer s H vs Q E hr hsp
 exact⟨t,h.nox,q⟩
theorem ar1{x qual:Str}{st:Stmt}{f:Addr}{oc:Value}{od an:Option Addr}{osl:Array (Option Value)}{kV doc pm cdv ct:Value}(l:K.lookup f=some ⟨oc,od,.func (PySem.W.fnOf x qual (R3 st) (B3 st) (B8 st) .none kV doc pm an cdv ct),osl⟩)
  (c:PySem.W.codeIn K cdv qual=true) (k:PySem.W.keepIn K (.ref f)=true):Fun K x qual st f (PySem.W.fnOf x qual (R3 st) (B3 st) (B8 st) .none kV doc pm an cdv ct):=⟨⟨oc,od,kV,doc,pm,an,cdv,ct,osl,rfl,l,c⟩,k⟩
end
theorem R9(h:n<=1000):n < sizeLine:=Nat.lt_of_le_of_lt h (by decide)
section
variable {X:Cx}
theorem pv(i:Nat) (hN:X.N[i]? = some x:=by rfl) (hv:Vis X.env.scope x:=by first|exact Or.inl rfl|exact Or.inr (Or.inl rfl)|exact Or.inr (Or.inr rfl)) (hd:(x==("__debug__" : Str))=false:=by decide)
  (hcd:(x==("__classdict__" : Str))=false:=by decide):PE X (.Name x pos) (bI1 i):=Q9 hN hv hd hcd
end
theorem Y6{A B:Prop}(h:B):if false=true then A else B:=by
 rw[if_neg Bool.false_ne_true]
 exact h
theorem Z8{A B:Prop}(h:A):if true=true then A else B:=by
 rw[if_pos rfl]
 exact h
noncomputable def B6(H H':Hp):Prop:=∀b o,H b=some o->H' b=some o
theorem B6.refl(H:Hp):B6 H H:=fun _ _ h=>h
theorem B6.trans(a:B6 H H1) (b:B6 H1 H2):B6 H H2:=fun c o h=>b c o (a c o h)
theorem B6.free(e:B6 H H') (h:H' l=Option.none):H l=Option.none:=by
 cases q:H l with
 | none=>rfl
 | some o =>
  rw[e l o q]at h
  cases h
end L2
set_option maxHeartbeats 4000000
namespace G
theorem xbm{α β:Type}{o:Option α}{f:α->Option β}{b:β}(h:o.bind f=some b):∃a,o=some a/\f a=some b:=Option.bind_eq_some_iff.mp h
open PySem PySem.Spec PyProof.Rows L2
noncomputable abbrev D:=PyData
mutual
noncomputable def Rep(K:PySem.W.Frag) (H:Hp):D->V->Prop
 | .none,v=>v=.non
 | .bool b,v=>v=.bl b
 | .int i,v=>v=.int i
 | .str x,v=>v=.str x
 | .tuple ds,v=>∃a vs,v=.ref a/\SqT K H a vs/\Reps K H ds vs
 | .list ds,v=>∃a vs,v=.ref a/\SqL K H a vs/\Reps K H ds vs
 | .dict kvs,v=>∃a m,v=.ref a/\H a=some (.dK m)/\RepKs K H kvs m
noncomputable def Reps(K:PySem.W.Frag) (H:Hp):List D->List V->Prop
 | [],vs=>vs=[]
 | d::ds,vs=>∃v r,vs=v::r/\Rep K H d v/\Reps K H ds r
/-- a dict by texts -/
noncomputable def RepKs(K:PySem.W.Frag) (H:Hp):List (D×D)->List (Key×V)->Prop
 | [],m=>m=[]
 | (k,d)::r,m=>∃x v t,k=.str x/\m=(.inr x,v)::t/\Rep K H d v/\RepKs K H r t
end
section
variable {K:PySem.W.Frag}{H H' H0 H1 H2 Hf Hf' Hf1 Hf2:Hp}
theorem aI3(e:B6 H H') (h:Rd H a u):Rd H' a u:=by
 rcases h with h|⟨o,h⟩
 ·exact .inl (e _ _ h)
 ·exact .inr ⟨o,e _ _ h⟩
theorem B7(e:B6 H H') (h:SqT K H a xs):SqT K H' a xs:=h.imp (aI3 e) id
theorem D0(e:B6 H H') (h:SqL K H a xs):SqL K H' a xs:=h.imp (aI3 e) id
mutual
theorem Rep.mono(e:B6 H H'):∀{d:D}{v:V},Rep K H d v->Rep K H' d v
 | .none,_,h=>h
 | .bool _,_,h=>h
 | .int _,_,h=>h
 | .str _,_,h=>h
 | .tuple _,_,⟨a,vs,h1,h2,h3⟩=>⟨a,vs,h1,B7 e h2,Reps.mono e h3⟩
 | .list _,_,⟨a,vs,h1,h2,h3⟩=>⟨a,vs,h1,D0 e h2,Reps.mono e h3⟩
 | .dict _,_,⟨a,m,h1,h2,h3⟩=>⟨a,m,h1,e _ _ h2,RepKs.mono e h3⟩
theorem Reps.mono(e:B6 H H'):∀{ds:List D}{vs:List V},Reps K H ds vs->Reps K H' ds vs
 | [],_,h=>h
 | _::_,_,⟨v,r,h1,h2,h3⟩=>⟨v,r,h1,Rep.mono e h2,Reps.mono e h3⟩
theorem RepKs.mono(e:B6 H H'):∀{ds:List (D×D)}{vs:List (Key×V)},RepKs K H ds vs->RepKs K H' ds vs
 | [],_,h=>h
 | (_,_)::_,_,⟨x,v,t,h1,h2,h3,h4⟩=>⟨x,v,t,h1,h2,Rep.mono e h3,RepKs.mono e h4⟩
end
theorem Reps.length:∀{ds:List D}{vs:List V},Reps K H ds vs->vs.length=ds.length
 | [],_,h=>by cases h;rfl
 | _::_,_,⟨v,r,h1,h2,h3⟩=>by subst h1;simp[Reps.length h3]
theorem Reps.get:∀{ds:List D}{vs:List V}{i:Nat}{d:D},Reps K H ds vs->ds[i]? = some d->∃v,vs[i]? = some v/\Rep K H d v
 | [],_,_,_,_,e=>by simp at e
 | x::_,_,0,_,⟨v,r,h1,h2,h3⟩,e=>by subst h1;simp at e;subst e;exact⟨v,rfl,h2⟩
 | x::_,_,i+1,_,⟨v,r,h1,h2,h3⟩,e=>by
  subst h1
  obtain⟨u,q1,q2⟩:=Reps.get (i:=i) h3 (by simpa using e)
  exact⟨u,by simpa using q1,q2⟩
theorem Reps.append:∀{ds es:List D}{vs us:List V},Reps K H ds vs->Reps K H es us->Reps K H (ds++es) (vs++us)
 | [],_,_,_,h,q=>by cases h;exact q
 | _::_,_,_,_,⟨v,r,h1,h2,h3⟩,q=>by subst h1;exact⟨v,r++_,rfl,h2,Reps.append h3 q⟩
theorem Reps.take:∀{ds:List D}{vs:List V}(n:Nat),Reps K H ds vs->Reps K H (ds.take n) (vs.take n)
 | [],_,n,h=>by cases h;simp[Reps]
 | _::_,_,0,h=>by simp[Reps]
 | _::_,_,n+1,⟨v,r,h1,h2,h3⟩=>by subst h1;exact⟨v,r.take n,rfl,h2,Reps.take n h3⟩
theorem Reps.drop:∀{ds:List D}{vs:List V}(n:Nat),Reps K H ds vs->Reps K H (ds.drop n) (vs.drop n)
 | [],_,n,h=>by cases h;simp[Reps]
 | _::_,_,0,h=>h
 | _::_,_,n+1,⟨v,r,h1,h2,h3⟩=>by subst h1;exact Reps.drop n h3
theorem Reps.ints:∀(ns:List Int),Reps K H (ns.map PyData.int) (ns.map V.int)
 | []=>rfl
 | n::r=>⟨.int n,r.map V.int,rfl,rfl,Reps.ints r⟩
theorem Reps.flatten(h:Reps K H ds vs):∀k:Nat,Reps K H (List.replicate k ds).flatten (List.replicate k vs).flatten
 | 0=>rfl
 | k+1=>by simp only[List.replicate_succ,List.flatten_cons];exact h.append (Reps.flatten h k)
structure Grow (H Hf H' Hf':Hp):Prop where
 big:B6 H H'
 sub:B6 Hf' H'
 ext:B6 Hf Hf'
 new:∀b,Hf' b≠none->Hf b≠none\/H b=none
theorem Grow.refl(h:B6 Hf H):Grow H Hf H Hf:=⟨B6.refl _,h,B6.refl _,fun _ h=>.inl h⟩
theorem Grow.trans(a:Grow H Hf H1 Hf1) (b:Grow H1 Hf1 H2 Hf2):Grow H Hf H2 Hf2 :=
 ⟨a.big.trans b.big,b.sub,a.ext.trans b.ext,fun x h=>(b.new x h).elim (a.new x) fun z=>.inr (a.big.free z)⟩
theorem C3(h:H p=none):B6 H (upd H p o):=fun b u e=>by rw[A6 (A8 e h)];exact e
theorem Grow.laid(s:B6 Hf H) (h:H p=none):Grow H Hf (upd H p o) (upd Hf p o):=by
 refine⟨C3 h,fun b u e=>?_,C3 (s.free h),fun b e=>?_⟩
 ·by_cases q:b=p
  ·subst q;rw[A5]at e;rw[A5];exact e
  ·rw[A6 q]at e;rw[A6 q];exact s b u e
 ·by_cases q:b=p
  ·subst q;exact .inr h
  ·rw[A6 q]at e;exact .inl e
theorem Grow.made(s:B6 Hf H) (h:H p=none):Grow H Hf (upd H p o) Hf :=
 ⟨C3 h,s.trans (C3 h),B6.refl _,fun _ e=>.inl e⟩
theorem Grow.freeze(g:Grow H Hf H1 Hf1) (h:H1 p=some o) (n:Hf1 p=none) (f:H p=none):Grow H Hf H1 (upd Hf1 p o):=by
 refine⟨g.big,fun b u e=>?_,g.ext.trans (C3 n),fun b e=>?_⟩
 ·by_cases q:b=p
  ·subst q;rw[A5]at e;rw[h];exact e
  ·rw[A6 q]at e;exact g.sub b u e
 ·by_cases q:b=p
  ·subst q;exact .inr f
  ·rw[A6 q]at e;exact g.new b e
end
inductive B where
 | val (d:D)
 | own (ds:List D)
 | exc (x:Str)
 | opq (a:Addr)
noncomputable abbrev Rho:=List (Option B)
noncomputable def clA(K:PySem.W.Frag) (x:Str):Option Addr:=match PySem.W.nsIn K mainGlobals x with
 | some (some (.ref C))=>some C
 | _=>none
noncomputable def SB(K:PySem.W.Frag) (H0 H Hf:Hp):B->V->Prop
 | .val d,v=>Rep K Hf d v
 | .own ds,v=>∃a vs,v=.ref a/\H a=some (.lst vs)/\Hf a=none/\H0 a=none/\Reps K Hf ds vs
 | .exc x,v=>∃a o C,v=.ref a/\Hf a=some (.frz o (.own a))/\clA K x=some C/\o.cls=.ref C
 | .opq a,v=>v=.ref a
structure Slots (K:PySem.W.Frag) (H0:Hp) (ρ:Rho) (σ:L2.St) (H Hf:Hp):Prop where
 len:ρ.length=σ.length
 is:∀(i:Nat) (b:B),ρ[i]? = some (some b)->∃v,σ[i]? = some (some v)/\SB K H0 H Hf b v
 apart:∀(i j:Nat) (ds es:List D) (a:Addr),ρ[i]? = some (some (.own ds))->ρ[j]? = some (some (.own es))->σ[i]? = some (some (V.ref a))->σ[j]? = some (some (V.ref a))->i=j
section
variable {K:PySem.W.Frag}{H H' H0 H1 H2 Hf Hf' Hf1 Hf2:Hp}{ρ:Rho}{σ:L2.St}
theorem SB.grow(h:SB K H0 H Hf b v) (g:Grow H Hf H' Hf'):SB K H0 H' Hf' b v:=by
 cases b with
 | val d=>exact Rep.mono g.ext h
 | opq a=>exact h
 | exc C =>
  obtain⟨a,o,C,e,h1,h2⟩:=h
  exact⟨a,o,C,e,g.ext _ _ h1,h2⟩
 | own ds =>
  obtain⟨a,vs,e,h1,h2,h3,h4⟩:=h
  refine⟨a,vs,e,g.big _ _ h1,?_,h3,h4.mono g.ext⟩
  cases q:Hf' a with
  | none=>rfl
  | some u =>
   rcases g.new a (by rw[q];simp) with z|z
   ·exact absurd h2 z
   ·rw[h1]at z;cases z
theorem Slots.grow(s:Slots K H0 ρ σ H Hf) (g:Grow H Hf H' Hf'):Slots K H0 ρ σ H' Hf' :=
 ⟨s.len,fun i b e=>let⟨v,h1,h2⟩:=s.is i b e;⟨v,h1,h2.grow g⟩,s.apart⟩
end
noncomputable abbrev DE:=Rho->Option D
noncomputable def tJ(K:PySem.W.Frag) (ρ:Rho) (R:Hp->V->Hp->Hp->Prop):TE:=fun σ H Q=>∃H0 Hf,B6 Hf H/\Slots K H0 ρ σ H Hf/\∀v H' Hf',Grow H Hf H' Hf'->R H v H' Hf'->Q v H'
noncomputable def JE(X:Cx) (e:Expr) (f:DE):Prop:=∀ρ d,f ρ=some d->PE X e (tJ X.K ρ fun _ v _ Hf=>Rep X.K Hf d v)
noncomputable def Sq(K:PySem.W.Frag):Bool->Hp->Addr->List V->Prop
 | true=>SqT K
 | false=>SqL K
noncomputable def RQ(K:PySem.W.Frag) (t:Bool) (ds:List D) (v:V) (H Hf:Hp):Prop:=∃a vs,v=.ref a/\Sq K t H a vs/\Reps K Hf ds vs
noncomputable def JQ(X:Cx) (e:Expr) (f:Rho->Option (Bool×List D)):Prop:=∀ρ t ds,f ρ=some (t,ds)->PE X e (tJ X.K ρ fun _ v H Hf=>RQ X.K t ds v H Hf)
noncomputable def JN(X:Cx) (e:Expr) (f:Rho->Option (List D)):Prop:=∀ρ ds,f ρ=some ds->PE X e (tJ X.K ρ fun H v H' Hf'=>∃a vs,v=.ref a/\H a=none/\H' a=some (.lst vs)/\Hf' a=none/\Reps X.K Hf' ds vs)
noncomputable def tJA(K:PySem.W.Frag) (ρ:Rho) (ds:List D):TA:=fun σ H Q=>∃H0 Hf,B6 Hf H/\Slots K H0 ρ σ H Hf/\∀vs H' Hf',Grow H Hf H' Hf'->Reps K Hf' ds vs->Q vs H'
structure JA (X:Cx) (es:List Expr) (f:Rho->Option (List D)):Prop where
 len:∀ρ ds,f ρ=some ds->ds.length=es.length
 run:∀ρ ds,f ρ=some ds->PA X es (tJA X.K ρ ds)
noncomputable def JT(X:Cx) (e:Expr) (f:Rho->Option Bool):Prop:=∀ρ c,f ρ=some c->PT X e (fun σ H Q=>∃H0 Hf,B6 Hf H/\Slots X.K H0 ρ σ H Hf/\∀H' Hf',Grow H Hf H' Hf'->Q c H')
noncomputable def JW(X:Cx) (e:Expr) (f:Rho->Option Bool):Prop:=∀ρ c,f ρ=some c->PW X e (fun σ H Q=>∃H0 Hf,B6 Hf H/\Slots X.K H0 ρ σ H Hf/\∀H' Hf',Grow H Hf H' Hf'->Q c H')
section
variable {X:Cx}
theorem A7(h:PE X e t) (i:∀σ H Q,t' σ H Q->t σ H Q):PE X e t':=fun pins s σ H Q I q=>h pins s σ H Q I (i σ H Q q)
theorem P6(h:PT X e t) (i:∀σ H Q,t' σ H Q->t σ H Q):PT X e t':=fun pins s σ H Q I q=>h pins s σ H Q I (i σ H Q q)
noncomputable def dC(d:D):DE:=fun _=>some d
noncomputable def A4(i:Nat):DE:=fun ρ=>match ρ[i]? with
 | some (some (.val d))=>some d
 | _=>none
noncomputable def C9(i:Nat):Rho->Option (Bool×List D):=fun ρ=>match ρ[i]? with
 | some (some (.own ds))=>some (false,ds)
 | some (some (.val (.list ds)))=>some (false,ds)
 | some (some (.val (.tuple ds)))=>some (true,ds)
 | _=>none
noncomputable def bp9:D->Option (Bool×List D)
 | .list ds=>some (false,ds)
 | .tuple ds=>some (true,ds)
 | _=>none
theorem bh4:JE X (.Constant (.int i) j pos) (dC (.int i)):=fun ρ d h=>by
 cases h
 exact A7 bb9 fun σ H Q ⟨H0,Hf,s,sl,k⟩=>k _ H Hf (Grow.refl s) rfl
theorem cf0:JE X (.Constant (.bool b) j pos) (dC (.bool b)):=fun ρ d h=>by
 cases h
 exact A7 cb9 fun σ H Q ⟨H0,Hf,s,sl,k⟩=>k _ H Hf (Grow.refl s) rfl
theorem aD1:JE X (.Constant .none j pos) (dC .none):=fun ρ d h=>by
 cases h
 exact A7 bL0 fun σ H Q ⟨H0,Hf,s,sl,k⟩=>k _ H Hf (Grow.refl s) rfl
theorem aq6:JE X (.Constant (.str x) j pos) (dC (.str x)):=fun ρ d h=>by
 cases h
 exact A7 bb5 fun σ H Q ⟨H0,Hf,s,sl,k⟩=>k _ H Hf (Grow.refl s) rfl
theorem bg7(i:Nat) (hN:X.N[i]? = some x:=by rfl) (hv:Vis X.env.scope x:=by first|exact Or.inl rfl|exact Or.inr (Or.inl rfl)|exact Or.inr (Or.inr rfl)) (hd:(x==("__debug__" : Str))=false:=by decide)
  (hcd:(x==("__classdict__" : Str))=false:=by decide):JE X (.Name x pos) (A4 i):=fun ρ d h=>by
 refine A7 (Q9 hN hv hd hcd) fun σ H Q ⟨H0,Hf,s,sl,k⟩=>?_
 unfold A4 at h
 split at h
 ·rename_i d' e
  cases h
  obtain⟨v,h1,h2⟩:=sl.is i _ e
  exact⟨v,h1,k v H Hf (Grow.refl s) h2⟩
 ·cases h
theorem bQ9(i:Nat) (hN:X.N[i]? = some x:=by rfl) (hv:Vis X.env.scope x:=by first|exact Or.inl rfl|exact Or.inr (Or.inl rfl)|exact Or.inr (Or.inr rfl)) (hd:(x==("__debug__" : Str))=false:=by decide)
  (hcd:(x==("__classdict__" : Str))=false:=by decide):JQ X (.Name x pos) (C9 i):=fun ρ t ds h=>by
 refine A7 (Q9 hN hv hd hcd) fun σ H Q ⟨H0,Hf,s,sl,k⟩=>?_
 unfold C9 at h
 split at h
 ·rename_i d' e
  cases h
  obtain⟨v,h1,a,vs,rfl,h2,h3,h4,h5⟩:=sl.is i _ e
  exact⟨_,h1,k _ H Hf (Grow.refl s) ⟨a,vs,rfl,SqL.of h2,h5⟩⟩
 ·rename_i d' e
  cases h
  obtain⟨v,h1,a,vs,rfl,h2,h3⟩:=sl.is i _ e
  exact⟨_,h1,k _ H Hf (Grow.refl s) ⟨a,vs,rfl,D0 s h2,h3⟩⟩
 ·rename_i d' e
  cases h
  obtain⟨v,h1,a,vs,rfl,h2,h3⟩:=sl.is i _ e
  exact⟨_,h1,k _ H Hf (Grow.refl s) ⟨a,vs,rfl,B7 s h2,h3⟩⟩
 ·cases h
theorem Rep.seq{K:PySem.W.Frag}{H Hf:Hp}{d:D}{v:V}{t:Bool}{ds:List D}(h:Rep K Hf d v) (s:B6 Hf H) (e:bp9 d=some (t,ds)):RQ K t ds v H Hf:=by
 cases d with
 | list xs=>cases e;obtain⟨a,vs,e1,e2,e3⟩:=h;exact⟨a,vs,e1,D0 s e2,e3⟩
 | tuple xs=>cases e;obtain⟨a,vs,e1,e2,e3⟩:=h;exact⟨a,vs,e1,B7 s e2,e3⟩
 | _=>cases e
noncomputable def qE(f:DE):Rho->Option (Bool×List D):=fun ρ=>(f ρ).bind bp9
theorem bg3(h:JE X e f):JQ X e (qE f):=fun ρ t ds q=>by
 obtain⟨d,h1,h2⟩:=xbm q
 exact A7 (h ρ d h1) fun σ H Q ⟨H0,Hf,s,sl,k⟩=>⟨H0,Hf,s,sl,fun v H' Hf' g r=>k v H' Hf' g (r.seq g.sub h2)⟩
noncomputable def A9:Rho->Option (List D):=fun _=>some []
noncomputable def A0(f:DE) (g:Rho->Option (List D)):Rho->Option (List D):=fun ρ=>(f ρ).bind fun d=>(g ρ).map fun ds=>d::ds
theorem W2:JA X [] A9:=⟨fun ρ ds h=>by cases h;rfl,fun ρ ds h pos pins s σ H Q I ⟨H0,Hf,ss,sl,k⟩=>by
 cases h
 exact C6 pos pins s σ H Q I (k [] H Hf (Grow.refl ss) rfl)⟩
theorem J7(h:JE X e f) (r:JA X es g) (hs:starEach (e::es) X.env=(false,eval e X.env)::starEach es X.env:=by rfl):JA X (e::es) (A0 f g):=by
 refine⟨fun ρ ds q=>?_,fun ρ ds q=>?_⟩
 ·obtain⟨d,h1,h2⟩:=xbm q
  obtain⟨es',h3,h4⟩:=Option.map_eq_some_iff.mp h2
  subst h4
  simp[r.len ρ es' h3]
 ·obtain⟨d,h1,h2⟩:=xbm q
  obtain⟨es',h3,h4⟩:=Option.map_eq_some_iff.mp h2
  subst h4
  intro pos pins s σ H Q I ⟨H0,Hf,ss,sl,k⟩
  refine B2 (h ρ d h1) (r.run ρ es' h3) hs pos pins s σ H Q I ⟨H0,Hf,ss,sl,fun v H1 Hf1 g1 r1=>⟨H0,Hf1,g1.sub,sl.grow g1,fun vs H2 Hf2 g2 r2=>?_⟩⟩
  exact k (v::vs) H2 Hf2 (g1.trans g2) ⟨v,vs,rfl,r1.mono g2.ext,r2⟩
noncomputable def W4(f:Rho->Option (List D)):DE:=fun ρ=>(f ρ).map PyData.tuple
theorem bR7(h:JA X es f) (hn:es.length<=1000:=by decide):JE X (.Tuple es k pos) (W4 f):=fun ρ d q=>by
 obtain⟨ds,h1,h2⟩:=Option.map_eq_some_iff.mp q
 subst h2
 refine A7 (bb4 fun pos pins s σ H Q I t=>h.run ρ ds h1 pos pins s σ H Q I t) fun σ H Q ⟨H0,Hf,s,sl,k⟩=>?_
 refine⟨H0,Hf,s,sl,fun vs H1 Hf1 g r=>⟨?_,fun p hp=>?_⟩⟩
 ·rw[r.length,h.len ρ ds h1];exact Nat.le_of_lt (R9 hn)
 ·exact k _ _ _ (g.trans (Grow.laid g.sub hp)) ⟨p,vs,rfl,SqT.of A5,r.mono (Grow.laid (o:=.tup vs) g.sub hp).ext⟩
theorem bR1(h:JA X es f) (hn:es.length<=1000:=by decide):JN X (.List es pos) f:=fun ρ ds h1=>by
 refine A7 (ao8 fun pos pins s σ H Q I t=>h.run ρ ds h1 pos pins s σ H Q I t) fun σ H Q ⟨H0,Hf,s,sl,k⟩=>?_
 refine⟨H0,Hf,s,sl,fun vs H1 Hf1 g r=>⟨?_,fun p hp=>?_⟩⟩
 ·rw[r.length,h.len ρ ds h1];exact Nat.le_of_lt (R9 hn)
 ·exact k _ _ _ (g.trans (Grow.made g.sub hp)) ⟨p,vs,rfl,g.big.free hp,A5,g.sub.free hp,r⟩
noncomputable def as0(f:Rho->Option (List D)):DE:=fun ρ=>(f ρ).map PyData.list
theorem ah7(h:JN X e f):JE X e (as0 f):=fun ρ d q=>by
 obtain⟨ds,h1,h2⟩:=Option.map_eq_some_iff.mp q
 subst h2
 refine A7 (h ρ ds h1) fun σ H Q ⟨H0,Hf,s,sl,k⟩=>⟨H0,Hf,s,sl,fun v H' Hf' g ⟨a,vs,e1,e2,e3,e4,e5⟩=>?_⟩
 subst e1
 exact k _ _ _ (g.freeze e3 e4 e2) ⟨a,vs,rfl,SqL.of A5,e5.mono (C3 e4)⟩
theorem bg2(h:JN X e f):JQ X e (fun ρ=>(f ρ).map fun ds=>(false,ds)):=fun ρ t ds q=>by
 obtain⟨ds',h1,h2⟩:=Option.map_eq_some_iff.mp q
 cases h2
 refine A7 (h ρ ds h1) fun σ H Q ⟨H0,Hf,s,sl,k⟩=>⟨H0,Hf,s,sl,fun v H' Hf' g ⟨a,vs,e1,e2,e3,e4,e5⟩=>?_⟩
 subst e1
 exact k _ _ _ g ⟨a,vs,rfl,SqL.of e3,e5⟩
noncomputable def OpD(X:Cx) (F:Value->Value->Sem Value) (h:D->D->Option D):Prop:=∀x y z,h x y=some z ->
 OpR X F fun vx vy H Q=>∃Hf,B6 Hf H/\Rep X.K Hf x vx/\Rep X.K Hf y vy/\∀v H' Hf',Grow H Hf H' Hf'->Rep X.K Hf' z v->Q v H'
noncomputable def B4(h:D->D->Option D) (f g:DE):DE:=fun ρ=>(f ρ).bind fun x=>(g ρ).bind fun y=>h x y
theorem W1(o:OpD X (binaryOp op) h) (ha:JE X a f) (hb:JE X b g):JE X (.BinOp a op b pos) (B4 h f g):=fun ρ d q=>by
 obtain⟨x,h1,q⟩:=xbm q
 obtain⟨y,h2,h3⟩:=xbm q
 refine A7 (bC2 (o x y d h3) (ha ρ x h1) (hb ρ y h2)) fun σ H Q ⟨H0,Hf,s,sl,k⟩=>?_
 refine⟨H0,Hf,s,sl,fun v H1 Hf1 g1 r1=>⟨H0,Hf1,g1.sub,sl.grow g1,fun u H2 Hf2 g2 r2=>?_⟩⟩
 exact⟨Hf2,g2.sub,r1.mono g2.ext,r2,fun w H3 Hf3 g3 r3=>k w H3 Hf3 ((g1.trans g2).trans g3) r3⟩
theorem bS8(o:OpD X (compareOp op) h) (ha:JE X a f) (hb:JE X b g) (hm:behindInMarks op b=false:=by first|exact ap8 _|rfl):JE X (.Compare a [op] [b] pos) (B4 h f g):=fun ρ d q=>by
 obtain⟨x,h1,q⟩:=xbm q
 obtain⟨y,h2,h3⟩:=xbm q
 refine A7 (aJ4 (o x y d h3) (ha ρ x h1) (hb ρ y h2) hm) fun σ H Q ⟨H0,Hf,s,sl,k⟩=>?_
 refine⟨H0,Hf,s,sl,fun v H1 Hf1 g1 r1=>⟨H0,Hf1,g1.sub,sl.grow g1,fun u H2 Hf2 g2 r2=>?_⟩⟩
 exact⟨Hf2,g2.sub,r1.mono g2.ext,r2,fun w H3 Hf3 g3 r3=>k w H3 Hf3 ((g1.trans g2).trans g3) r3⟩
theorem OpR.imp(h:OpR X F r) (i:∀x y H Q,r' x y H Q->r x y H Q):OpR X F r':=fun pins s σ H x y v u Q I rx ry q=>h pins s σ H x y v u Q I rx ry (i x y H Q q)
end
end G
namespace G
open PySem PySem.Spec PyProof.Rows L2
section
variable {X:Cx}
noncomputable def F3(i:Int):Prop:=i.natAbs < 2 ^ 8000
instance:DecidablePred F3:=fun i=>inferInstanceAs (Decidable (i.natAbs < 2 ^ 8000))
theorem F3.log(h:F3 i) (h0:i.natAbs≠0):i.natAbs.log2 < 8000:=(Nat.log2_lt h0).mpr h
theorem F3.bits(h:F3 i):Builtin.Int.intBits i<=2 ^ 20:=by
 unfold Builtin.Int.intBits
 split
 ·exact Nat.zero_le _
 ·rename_i h0
  have:=h.log (by simpa using h0)
  grind
theorem bt5:OpR X (binaryOp .Mult) (rI (fun i j=>F3 i/\F3 j) fun i j=>.int (i*j)):=opI fun _ _ _ _ _ _ _ hc q=>mul_int q (PySem.IntMulOk.of_bits hc.1.bits hc.2.bits)
noncomputable def ch7(x y:D):Option D:=match x,y with
 | .int i,.int j=>some (.int (i+j))
 | _,_=>none
noncomputable def aX9(x y:D):Option D:=match x,y with
 | .int i,.int j=>some (.int (i - j))
 | .int i,.bool b=>some (.int (i - if b=true then 1 else 0))
 | .bool a,.int j=>some (.int ((if a=true then 1 else 0) - j))
 | _,_=>none
noncomputable def bO7(x y:D):Option D:=match x,y with
 | .int i,.int j=>if F3 i/\F3 j then some (.int (i*j)) else none
 | _,_=>none
noncomputable def x5(x y:D):Option D:=match x,y with
 | .int i,.int j=>if 0 < j/\F3 j then some (.int (i / j)) else none
 | _,_=>none
noncomputable def W0(x y:D):Option D:=match x,y with
 | .int i,.int j=>if 0 < j then some (.int (i % j)) else none
 | _,_=>none
noncomputable def bK5(x y:D):Option D:=match x,y with
 | .int i,.int j=>if 0<=j/\j<=1000000/\i.natAbs < 2 ^ 64 then some (.int (i ^ j.toNat)) else none
 | _,_=>none
theorem ck7:OpD X (binaryOp .Add) ch7:=fun x y z h=>by
 unfold ch7 at h
 split at h
 ·cases h
  exact OpR.imp bd0 fun vx vy H Q ⟨Hf,s,r1,r2,k⟩=>⟨_,_,r1,r2,k _ H Hf (Grow.refl s) rfl⟩
 ·cases h
theorem bN0:OpD X (binaryOp .Sub) aX9:=fun x y z h=>by
 unfold aX9 at h
 split at h
 ·cases h
  exact OpR.imp bM3 fun vx vy H Q ⟨Hf,s,r1,r2,k⟩=>⟨_,_,r1,r2,k _ H Hf (Grow.refl s) rfl⟩
 ·cases h
  intro pins s σ H vx vy v u Q I rx ry ⟨Hf,ss,r1,r2,k⟩
  cases r1;cases r2
  obtain⟨t,rfl⟩:=rx
  obtain rfl:u=Value.bool _:=ry
  exact PySem.IntBool.sub_int_bool ⟨.int _,H,I.tok _,⟨_,rfl⟩,k _ H Hf (Grow.refl ss) rfl⟩
 ·cases h
  intro pins s σ H vx vy v u Q I rx ry ⟨Hf,ss,r1,r2,k⟩
  cases r1;cases r2
  obtain⟨t,rfl⟩:=ry
  obtain rfl:v=Value.bool _:=rx
  exact PySem.IntBool.sub_bool_int ⟨.int _,H,I.tok _,⟨_,rfl⟩,k _ H Hf (Grow.refl ss) rfl⟩
 ·cases h
theorem bN2:OpD X (binaryOp .Mult) bO7:=fun x y z h=>by
 unfold bO7 at h
 split at h
 ·split at h
  ·rename_i c
   cases h
   exact OpR.imp bt5 fun vx vy H Q ⟨Hf,s,r1,r2,k⟩=>⟨_,_,r1,r2,c,k _ H Hf (Grow.refl s) rfl⟩
  ·cases h
 ·cases h
theorem aQ4:OpR X (binaryOp .FloorDiv) (rI (fun _ j=>0 < j/\F3 j) fun i j=>.int (i / j)):=opI fun i j _ _ s Q E hc q=>by
 have e:i.fdiv j=i / j:=Int.fdiv_eq_ediv_of_nonneg i (Int.le_of_lt hc.1)
 refine floordiv_int (by grind) (by rw[e];exact q) (.inl (PyProof.noPylong_of_log2 ?_))
 have h2:=hc.2.log (by grind)
 grind
theorem bN6:OpD X (binaryOp .FloorDiv) x5:=fun x y z h=>by
 unfold x5 at h
 split at h
 ·split at h
  ·rename_i c
   cases h
   exact OpR.imp aQ4 fun vx vy H Q ⟨Hf,s,r1,r2,k⟩=>⟨_,_,r1,r2,c,k _ H Hf (Grow.refl s) rfl⟩
  ·cases h
 ·cases h
theorem bN3:OpD X (binaryOp .Mod) W0:=fun x y z h=>by
 unfold W0 at h
 split at h
 ·split at h
  ·rename_i c
   cases h
   exact OpR.imp bM5 fun vx vy H Q ⟨Hf,s,r1,r2,k⟩=>⟨_,_,r1,r2,c,k _ H Hf (Grow.refl s) rfl⟩
  ·cases h
 ·cases h
theorem bN1:OpD X (binaryOp .Pow) bK5:=fun x y z h=>by
 unfold bK5 at h
 split at h
 ·split at h
  ·rename_i c
   cases h
   exact OpR.imp bM4 fun vx vy H Q ⟨Hf,s,r1,r2,k⟩=>⟨_,_,r1,r2,c,k _ H Hf (Grow.refl s) rfl⟩
  ·cases h
 ·cases h
theorem bc9:OpR X (binaryOp .Add) (fun x y H Q=>∃a b ys,x=.ref a/\y=.ref b/\SqT X.K H a []/\SqT X.K H b ys/\Q (.ref b) H):=by
 intro pins s σ H x y v u Q I rx ry h
 obtain⟨a,b,ys,rfl,rfl,ha,hb,q⟩:=h
 cases rx
 cases ry
 obtain⟨its,r1,p1,_⟩:=I.tuple ha
 obtain⟨its2,r2,p2,_⟩:=I.tuple hb
 cases r1
 obtain⟨⟨cls,dd,data,sl⟩,ho,hc,n,hd⟩:=id p1
 obtain⟨⟨cls2,dd2,data2,sl2⟩,ho2,hc2,n2,hd2⟩:=id p2
 simp only at hc hd hc2 hd2
 subst hc hd hc2 hd2
 exact concat_meets ⟨_,ho,rfl⟩ ⟨_,ho2,rfl⟩ noFill_tuple_add seq_tuple_add PySem.F.slot_tuple_add PySem.F.entry_tuple_add (PySem.F.args_tuple_add_2 _ _)
   (tuple_addW0 a b _ its2.toArray n n2 dd dd2 sl sl2 (by rfl)) ⟨ho,ho2,⟨.ref b,H,I,rfl,q⟩⟩
noncomputable def Y8(x y:D):Option D:=match x,y with
 | .tuple xs,.tuple ys=>if xs.length+ys.length<=16777216 then some (.tuple (xs++ys)) else none
 | .str a,.str b=>if a.length+b.length<=16777216 then some (.str (a++b)) else none
 | .int i,.int j=>some (.int (i+j))
 | .bool a,.int j=>some (.int ((if a=true then 1 else 0)+j))
 | _,_=>none
theorem bd8:OpD X (binaryOp .Add) Y8:=fun x y z h=>by
 unfold Y8 at h
 split at h
 ·split at h
  ·rename_i xs ys c
   cases h
   cases xs with
   | nil =>
    refine OpR.imp bc9 fun vx vy H Q ⟨Hf,s,r1,r2,k⟩=>?_
    obtain⟨a,vs,rfl,h2,h3⟩:=r1
    obtain⟨b,us,rfl,h5,h6⟩:=r2
    cases h3
    exact⟨a,b,us,rfl,rfl,B7 s h2,B7 s h5,k _ H Hf (Grow.refl s) ⟨b,us,rfl,h5,h6⟩⟩
   | cons d0 ds0 =>
    refine OpR.imp bt7 fun vx vy H Q ⟨Hf,s,r1,r2,k⟩=>?_
    obtain⟨a,vs,rfl,h2,h3⟩:=r1
    obtain⟨b,us,rfl,h5,h6⟩:=r2
    have l1:=h3.length
    have l2:=h6.length
    refine⟨a,b,vs,us,rfl,rfl,B7 s h2,B7 s h5,?_,by rw[sizeLine_eq];grind,fun e=>?_,fun e p hp=>?_⟩
    ·intro e;subst e;simp at l1
    ·subst e
     have:ys=[]:=by cases ys<;>simp_all
     subst this
     exact k _ H Hf (Grow.refl s) ⟨a,vs,rfl,h2,by rw[List.append_nil];exact h3⟩
    ·exact k _ _ _ (Grow.laid s hp) ⟨p,vs++us,rfl,SqT.of A5,(h3.append h6).mono (C3 (s.free hp))⟩
  ·cases h
 ·split at h
  ·rename_i c
   cases h
   exact OpR.imp aC4 fun vx vy H Q ⟨Hf,s,r1,r2,k⟩=>⟨_,_,r1,r2,by rw[sizeLine_eq];exact c,k _ H Hf (Grow.refl s) rfl⟩
  ·cases h
 ·cases h
  exact OpR.imp bd0 fun vx vy H Q ⟨Hf,s,r1,r2,k⟩=>⟨_,_,r1,r2,k _ H Hf (Grow.refl s) rfl⟩
 ·cases h
  intro pins s σ H vx vy v u Q I rx ry ⟨Hf,ss,r1,r2,k⟩
  cases r1;cases r2
  obtain⟨t,rfl⟩:=ry
  obtain rfl:v=Value.bool _:=rx
  exact PySem.IntBool.add_bool_int ⟨.int _,H,I.tok _,⟨_,rfl⟩,k _ H Hf (Grow.refl ss) rfl⟩
 ·cases h
noncomputable def ltI(x y:D):Option D:=match x,y with
 | .int i,.int j=>some (.bool (decide (i < j)))
 | _,_=>none
noncomputable def leI(x y:D):Option D:=match x,y with
 | .int i,.int j=>some (.bool (decide (i<=j)))
 | _,_=>none
noncomputable def gtI(x y:D):Option D:=match x,y with
 | .int i,.int j=>some (.bool (decide (j < i)))
 | _,_=>none
noncomputable def geI(x y:D):Option D:=match x,y with
 | .int i,.int j=>some (.bool (decide (j<=i)))
 | _,_=>none
theorem cc9:OpD X (compareOp .Lt) ltI:=fun x y z h=>by
 unfold ltI at h
 split at h
 ·cases h
  exact OpR.imp cc1 fun vx vy H Q ⟨Hf,s,r1,r2,k⟩=>⟨_,_,r1,r2,k _ H Hf (Grow.refl s) rfl⟩
 ·cases h
theorem cd0:OpD X (compareOp .LtE) leI:=fun x y z h=>by
 unfold leI at h
 split at h
 ·cases h
  exact OpR.imp cc2 fun vx vy H Q ⟨Hf,s,r1,r2,k⟩=>⟨_,_,r1,r2,k _ H Hf (Grow.refl s) rfl⟩
 ·cases h
theorem cd2:OpD X (compareOp .Gt) gtI:=fun x y z h=>by
 unfold gtI at h
 split at h
 ·cases h
  exact OpR.imp cc4 fun vx vy H Q ⟨Hf,s,r1,r2,k⟩=>⟨_,_,r1,r2,k _ H Hf (Grow.refl s) rfl⟩
 ·cases h
theorem cd3:OpD X (compareOp .GtE) geI:=fun x y z h=>by
 unfold geI at h
 split at h
 ·cases h
  exact OpR.imp cc5 fun vx vy H Q ⟨Hf,s,r1,r2,k⟩=>⟨_,_,r1,r2,k _ H Hf (Grow.refl s) rfl⟩
 ·cases h
mutual
theorem Rep.reads(I:Inv X pins σ H s):∀{d:D}{v:V}{u:Value},Rep X.K H d v->C1 v u->∃as,Reads s.heap u d as
 | .none,_,_,h,r=>by cases h;cases r;exact⟨_,.none⟩
 | .bool b,_,_,h,r=>by cases h;cases r;exact⟨_,.bool b⟩
 | .int i,_,_,h,r=>by cases h;obtain⟨t,rfl⟩:=r;exact⟨_,.int i t⟩
 | .str x,_,_,h,r=>by cases h;obtain⟨t,rfl⟩:=r;exact⟨_,.str x t⟩
 | .tuple ds,_,_,⟨a,vs,h1,h2,h3⟩,r=>by
  subst h1;cases r
  obtain⟨its,rv,⟨o,ho,hc,n,hd⟩,_⟩:=I.tuple h2
  obtain⟨as,q⟩:=Reps.reads I h3 rv
  exact⟨_,.tuple ho hc hd (by simpa using q)⟩
 | .list ds,_,_,⟨a,vs,h1,h2,h3⟩,r=>by
  subst h1;cases r
  obtain⟨its,rv,pl,_⟩:=I.list h2
  obtain⟨o,ho,hc,n,hd⟩:=pl.isList
  obtain⟨as,q⟩:=Reps.reads I h3 rv
  exact⟨_,.list ho hc hd (by simpa using q)⟩
 | .dict kvs,_,_,⟨a,m,h1,h2,h3⟩,r=>by
  subst h1;cases r
  obtain⟨_,_,vs,rk,o,es,ep,ho,hx,hd,_,hp,_⟩:=(show N3 X.prog X.w H s.heap a (.dK m) from I.hok a _ h2)
  obtain⟨as,bs,q1,q2⟩:=RepKs.reads I h3 rk hp
  exact⟨_,.dict ho hx.1 hd q1 q2⟩
theorem RepKs.reads(I:Inv X pins σ H s):∀{kvs:List (D×D)}{m:List (Key×V)}{vs:List (Key×Value)}{es:List DictEntry},RepKs X.K H kvs m->KV m vs->Pairs (C8 X.prog X.w) es vs ->
  ∃as bs,ReadsAll s.heap (es.map (·.key)) (kvs.map (·.1)) as/\ReadsAll s.heap (es.map (·.val)) (kvs.map (·.2)) bs
 | [],_,_,_,h,r,p=>by cases h;cases r;cases p;exact⟨_,_,.nil,.nil⟩
 | (k,d)::kvs,_,_,_,⟨x,v,t,h1,h2,h3,h4⟩,r,p=>by
  subst h1 h2
  cases r with
  | @cons _ b _ bs r1 r2 =>
   cases p with
   | @cons e kv es _ p1 p2 p3 =>
    obtain⟨as,cs,q1,q2⟩:=RepKs.reads I h4 r2 p3
    obtain⟨r1,r3⟩:=r1
    rw[← p2]at r3
    obtain⟨ds,q3⟩:=Rep.reads I h3 r3
    rw[← r1]at p1
    have hk:∃t,e.key=.str x t:=Value.isStrOf_shape (x:=x) (v:=e.key) p1
    obtain⟨t,hk⟩:=hk
    refine⟨_,_,.cons (as:=[]) ?_ q1,.cons q3 q2⟩
    show Reads s.heap e.key (.str x) []
    rw[hk];exact .str x t
theorem Reps.reads(I:Inv X pins σ H s):∀{ds:List D}{vs:List V}{us:List Value},Reps X.K H ds vs->C5 vs us->∃as,ReadsAll s.heap us ds as
 | [],_,_,h,r=>by cases h;cases r;exact⟨_,.nil⟩
 | d::ds,_,_,⟨v,vr,h1,h2,h3⟩,r=>by
  subst h1
  cases r with
  | cons r1 r2 =>
   obtain⟨as,q1⟩:=Rep.reads I h2 r1
   obtain⟨bs,q2⟩:=Reps.reads I h3 r2
   exact⟨_,.cons q1 q2⟩
end
noncomputable def eqD(x y:D):Option D:=if SeqAt.shaped x=true/\SeqAt.shaped y=true then some (.bool (PyData.eqv x y)) else none
noncomputable def neD(x y:D):Option D:=if SeqAt.shaped x=true/\SeqAt.shaped y=true then some (.bool (!PyData.eqv x y)) else none
theorem bC7(hu:X.A.units+64 < cLine):OpD X (compareOp .Eq) eqD:=fun x y z h=>by
 unfold eqD at h
 split at h
 ·rename_i c
  cases h
  intro pins s σ H vx vy v u Q I rx ry ⟨Hf,ss,r1,r2,k⟩
  obtain⟨as,q1⟩:=Rep.reads I (r1.mono ss) rx
  obtain⟨bs,q2⟩:=Rep.reads I (r2.mono ss) ry
  exact eq_dataH q1 q2 c.1 c.2 hu ⟨.bl _,H,I,rfl,k _ H Hf (Grow.refl ss) rfl⟩
 ·cases h
theorem bC5(hu:X.A.units+64 < cLine):OpD X (compareOp .NotEq) neD:=fun x y z h=>by
 unfold neD at h
 split at h
 ·rename_i c
  cases h
  intro pins s σ H vx vy v u Q I rx ry ⟨Hf,ss,r1,r2,k⟩
  obtain⟨as,q1⟩:=Rep.reads I (r1.mono ss) rx
  obtain⟨bs,q2⟩:=Rep.reads I (r2.mono ss) ry
  exact ne_dataH q1 q2 c.1 c.2 hu ⟨.bl _,H,I,rfl,k _ H Hf (Grow.refl ss) rfl⟩
 ·cases h
noncomputable def isN(x y:D):Option D:=match x,y with
 | .none,.none=>some (.bool true)
 | .dict _,_=>none
 | _,.none=>some (.bool false)
 | _,_=>none
theorem aI4{K:PySem.W.Frag}{H:Hp}{d:D}{v:V}(h:Rep K H d v):(decide (v=.non))=(match d with | .none=>true|_=>false):=by
 cases d with
 | none=>cases h;rfl
 | bool b=>cases h;rfl
 | int b=>cases h;rfl
 | str b=>cases h;rfl
 | tuple ds=>obtain⟨a,vs,rfl,_⟩:=h;rfl
 | list ds=>obtain⟨a,vs,rfl,_⟩:=h;rfl
 | dict ds=>obtain⟨a,m,rfl,_⟩:=h;rfl
theorem bd7:OpD X (compareOp .Is) isN:=fun x y z h=>by
 refine OpR.imp bM6 fun vx vy H Q ⟨Hf,s,r1,r2,k⟩=>?_
 have e:=aI4 r1
 cases y<;>cases x<;>simp only[isN,Option.some.injEq,reduceCtorEq]at h <;>
  (subst h;simp only at e;rw[e];exact⟨r2,k _ H Hf (Grow.refl s) rfl⟩)
noncomputable def bO2(x y:D):Option D:=match x,y with
 | .none,.none=>some (.bool false)
 | .dict _,_=>none
 | _,.none=>some (.bool true)
 | _,_=>none
theorem bu1:OpD X (compareOp .IsNot) bO2:=fun x y z h=>by
 refine OpR.imp bt4 fun vx vy H Q ⟨Hf,s,r1,r2,k⟩=>?_
 have e:=aI4 r1
 cases y<;>cases x<;>simp only[bO2,Option.some.injEq,reduceCtorEq]at h <;>
  (subst h;simp only at e;rw[e];exact⟨r2,k _ H Hf (Grow.refl s) rfl⟩)
noncomputable def ai3(h1 h2:D->D->Option D) (f g k:DE):DE:=fun ρ=>(f ρ).bind fun x=>(g ρ).bind fun y=>(h1 x y).bind fun z=>match z with
 | .bool true=>(k ρ).bind fun w=>h2 y w
 | .bool false=>some (.bool false)
 | _=>none
theorem bh6(o1:OpD X (compareOp op) h1) (o2:OpD X (compareOp op') h2) (ha:JE X a f) (hb:JE X b g) (hc:JE X c k)
  (hm:lastMarks [op,op'] [b,c]=false:=by with_unfolding_all rfl):JE X (.Compare a [op,op'] [b,c] pos) (ai3 h1 h2 f g k):=fun ρ d q=>by
 obtain⟨x,e1,q⟩:=xbm q
 obtain⟨y,e2,q⟩:=xbm q
 obtain⟨z,e3,q⟩:=xbm q
 split at q
 ·obtain⟨w,e4,e5⟩:=xbm q
  refine A7 (av5 (o1 x y _ e3) (o2 y w d e5) (ha ρ x e1) (hb ρ y e2) (hc ρ w e4) hm) fun σ H Q ⟨H0,Hf,s,sl,kk⟩=>?_
  refine⟨H0,Hf,s,sl,fun v H1 Hf1 g1 r1=>⟨H0,Hf1,g1.sub,sl.grow g1,fun u H2 Hf2 g2 r2=>⟨Hf2,g2.sub,r1.mono g2.ext,r2,fun z' H3 Hf3 g3 r3=>?_⟩⟩⟩
  refine⟨true,r3,Z8 ⟨H0,Hf3,g3.sub,sl.grow ((g1.trans g2).trans g3),fun w' H4 Hf4 g4 r4=>⟨Hf4,g4.sub,r2.mono (g3.trans g4).ext,r4,fun z2 H5 Hf5 g5 r5=>?_⟩⟩⟩
  exact kk z2 H5 Hf5 ((((g1.trans g2).trans g3).trans g4).trans g5) r5
 ·cases q
  intro pins s σ H Q I ⟨H0,Hf,ss,sl,kk⟩
  refine av5 (tc:=fun _ _ _=>False) (r':=fun _ _ _ _=>False) (o1 x y _ e3) (fun _ _ _ _ _ _ _ _ _ _ _ _ h=>h.elim) (ha ρ x e1) (hb ρ y e2) (fun _ _ _ _ _ _ h=>h.elim) hm pins s σ H Q I ?_
  refine⟨H0,Hf,ss,sl,fun v H1 Hf1 g1 r1=>⟨H0,Hf1,g1.sub,sl.grow g1,fun u H2 Hf2 g2 r2=>⟨Hf2,g2.sub,r1.mono g2.ext,r2,fun z' H3 Hf3 g3 r3=>?_⟩⟩⟩
  exact⟨false,r3,Y6 (kk _ H3 Hf3 ((g1.trans g2).trans g3) rfl)⟩
 ·cases q
theorem bS1(h:JE X a f):JE X (.BoolOp op [a] pos) f:=fun ρ d q=>bb7 (h ρ d q)
noncomputable def bz8(f g:DE):DE:=fun ρ=>(f ρ).bind fun x=>match x with
 | .bool true=>g ρ
 | .bool false=>some (.bool false)
 | _=>none
noncomputable def dOr(f g:DE):DE:=fun ρ=>(f ρ).bind fun x=>match x with
 | .bool true=>some (.bool true)
 | .bool false=>g ρ
 | .none=>g ρ
 | .tuple (y::r)=>some (.tuple (y::r))
 | _=>none
theorem bb6{a b:Expr}{M6:List Expr}{pos:Pos}{ta tb:TE}(ha:PE X a ta) (hb:PE X (.BoolOp .Or (b::M6) pos) tb):PE X (.BoolOp .Or (a::b::M6) pos) (fun σ H Q=>ta σ H fun x H1=>∃k,bX1 X.K x H1 k/\if k=true then Q x H1 else tb σ H1 Q):=by
 intro pins s σ H Q I h
 refine BoolOp_or (thn (ha pins s σ H _ I h) fun v s1 ⟨x,H1,I1,r1,k,tk,q1⟩=>?_)
 refine thn (aW9 pins s1 σ H1 x v (fun c H2=>c=k/\H2=H1) I1 r1 ⟨k,tk,rfl,rfl⟩) fun c s2 ⟨H2,I2,e1,e2⟩=>?_
 subst e1 e2
 cases c with
 | false=>exact hb pins s2 σ _ Q I2 q1
 | true=>exact⟨x,_,I2,r1,q1⟩
noncomputable def bU9(f:DE):DE:=fun ρ=>(f ρ).bind fun x=>match x with
 | .bool c=>some (.bool (!c))
 | _=>none
theorem bT0{a b:Expr}{M6:List Expr}{f g:DE}{pos:Pos}(ha:JE X a f) (hb:JE X (.BoolOp .And (b::M6) pos) g):JE X (.BoolOp .And (a::b::M6) pos) (bz8 f g):=fun ρ d q=>by
 obtain⟨x,e1,q⟩:=xbm q
 split at q
 ·refine A7 (ao9 (ha ρ _ e1) (hb ρ d q)) fun σ H Q ⟨H0,Hf,s,sl,k⟩=>⟨H0,Hf,s,sl,fun v H1 Hf1 g1 r1=>⟨true,r1,Z8 ⟨H0,Hf1,g1.sub,sl.grow g1,fun u H2 Hf2 g2 r2=>k u H2 Hf2 (g1.trans g2) r2⟩⟩⟩
 ·cases q
  refine A7 (ao9 (tb:=fun _ _ _=>False) (ha ρ _ e1) (fun _ _ _ _ _ _ h=>h.elim)) fun σ H Q ⟨H0,Hf,s,sl,k⟩=>⟨H0,Hf,s,sl,fun v H1 Hf1 g1 r1=>⟨false,r1,Y6 (k _ H1 Hf1 g1 rfl)⟩⟩
 ·cases q
theorem ce8{a b:Expr}{M6:List Expr}{f g:DE}{pos:Pos}(ha:JE X a f) (hb:JE X (.BoolOp .Or (b::M6) pos) g):JE X (.BoolOp .Or (a::b::M6) pos) (dOr f g):=fun ρ d q=>by
 obtain⟨x,e1,q⟩:=xbm q
 split at q
 ·cases q
  refine A7 (bC1 (tb:=fun _ _ _=>False) (ha ρ _ e1) (fun _ _ _ _ _ _ h=>h.elim)) fun σ H Q ⟨H0,Hf,s,sl,k⟩=>⟨H0,Hf,s,sl,fun v H1 Hf1 g1 r1=>⟨true,r1,Z8 (k _ H1 Hf1 g1 rfl)⟩⟩
 ·refine A7 (bC1 (ha ρ _ e1) (hb ρ d q)) fun σ H Q ⟨H0,Hf,s,sl,k⟩=>⟨H0,Hf,s,sl,fun v H1 Hf1 g1 r1=>⟨false,r1,Y6 ⟨H0,Hf1,g1.sub,sl.grow g1,fun u H2 Hf2 g2 r2=>k u H2 Hf2 (g1.trans g2) r2⟩⟩⟩
 ·refine A7 (bb6 (ha ρ _ e1) (hb ρ d q)) fun σ H Q ⟨H0,Hf,s,sl,k⟩=>⟨H0,Hf,s,sl,fun v H1 Hf1 g1 r1=>?_⟩
  cases r1
  exact⟨false,rfl,Y6 ⟨H0,Hf1,g1.sub,sl.grow g1,fun u H2 Hf2 g2 r2=>k u H2 Hf2 (g1.trans g2) r2⟩⟩
 ·cases q
  refine A7 (bb6 (tb:=fun _ _ _=>False) (ha ρ _ e1) (fun _ _ _ _ _ _ h=>h.elim)) fun σ H Q ⟨H0,Hf,s,sl,k⟩=>⟨H0,Hf,s,sl,fun v H1 Hf1 g1 r1=>?_⟩
  obtain⟨p,vs,e,h2,h3⟩:=id r1
  subst e
  refine⟨true,.inr (.inl ⟨vs,B7 g1.sub h2,?_⟩),Z8 (k _ H1 Hf1 g1 r1)⟩
  obtain⟨_,_,e,_⟩:=h3
  subst e;rfl
 ·cases q
theorem bS2(ha:JE X a f):JE X (.UnaryOp .Not a pos) (bU9 f):=fun ρ d q=>by
 obtain⟨x,e1,q⟩:=xbm q
 split at q
 ·cases q
  exact A7 (bK9 (ha ρ _ e1)) fun σ H Q ⟨H0,Hf,s,sl,k⟩=>⟨H0,Hf,s,sl,fun v H1 Hf1 g1 r1=>⟨_,r1,k _ H1 Hf1 g1 rfl⟩⟩
 ·cases q
noncomputable def aO4:D->Option Bool
 | .none=>some false
 | .bool b=>some b
 | .int i=>some (i != 0)
 | .str x=>if x.length<=16777216 then some ((x.length:Int) != 0) else none
 | .list ds=>some (!ds.isEmpty)
 | .tuple ds=>some (!ds.isEmpty)
 | .dict _=>none
noncomputable def aO6(f:DE):Rho->Option Bool:=fun ρ=>(f ρ).bind aO4
theorem bf4(ha:JE X a f) (he:∀whole,isTrue a X.env whole=(do let v ← whole;standAt a.pos;holding [v] (truthy v)):=by intro _;rfl):JT X a (aO6 f):=fun ρ c q=>by
 obtain⟨d,e1,e2⟩:=xbm q
 refine P6 (au7 (ha ρ d e1) he) fun σ H Q ⟨H0,Hf,s,sl,k⟩=>⟨H0,Hf,s,sl,fun v H1 Hf1 g1 r1=>⟨c,?_,k H1 Hf1 g1⟩⟩
 cases d with
 | none=>cases e2;cases r1;rfl
 | bool b=>cases e2;cases r1;rfl
 | int i=>cases e2;cases r1;rfl
 | str x =>
  simp only[aO4]at e2
  split at e2
  ·rename_i hx;cases e2;cases r1;exact⟨by rw[sizeLine_eq];exact hx,rfl⟩
  ·cases e2
 | list ds =>
  cases e2
  obtain⟨a,vs,rfl,h2,h3⟩:=r1
  refine .inl ⟨vs,D0 g1.sub h2,?_⟩
  have:=h3.length
  cases ds<;>cases vs<;>simp_all
 | tuple ds =>
  cases e2
  obtain⟨a,vs,rfl,h2,h3⟩:=r1
  refine .inr (.inl ⟨vs,B7 g1.sub h2,?_⟩)
  have:=h3.length
  cases ds<;>cases vs<;>simp_all
 | dict _=>cases e2
noncomputable def l6:D->Option Bool
 | .bool b=>some b
 | _=>none
noncomputable def tB2(h:D->D->Option D) (f g:DE):Rho->Option Bool:=fun ρ=>(B4 h f g ρ).bind l6
theorem aM9(h:l6 d=some c):d=.bool c:=by
 cases d<;>simp[l6]at h
 subst h;rfl
theorem bP9(o:OpD X (compareOp op) h) (ha:JE X a f) (hb:JE X b g) (hm:behindInMarks op b=false:=by first|exact ap8 _|rfl):JT X (.Compare a [op] [b] pos) (tB2 h f g):=fun ρ c q=>by
 obtain⟨d,q,e⟩:=xbm q
 obtain⟨x,h1,q⟩:=xbm q
 obtain⟨y,h2,h3⟩:=xbm q
 have:=aM9 e
 subst this
 refine P6 (aJ0 (o x y _ h3) (ha ρ x h1) (hb ρ y h2) hm) fun σ H Q ⟨H0,Hf,s,sl,k⟩=>?_
 refine⟨H0,Hf,s,sl,fun v H1 Hf1 g1 r1=>⟨H0,Hf1,g1.sub,sl.grow g1,fun u H2 Hf2 g2 r2=>?_⟩⟩
 exact⟨Hf2,g2.sub,r1.mono g2.ext,r2,fun w H3 Hf3 g3 r3=>⟨c,r3,k H3 Hf3 ((g1.trans g2).trans g3)⟩⟩
noncomputable def aX4(f g:Rho->Option Bool):Rho->Option Bool:=fun ρ=>(f ρ).bind fun c=>if c then g ρ else some false
noncomputable def bI2(f g:Rho->Option Bool):Rho->Option Bool:=fun ρ=>(f ρ).bind fun c=>if c then some true else g ρ
noncomputable def aX1(f:Rho->Option Bool):Rho->Option Bool:=fun ρ=>(f ρ).map fun c=>!c
theorem ao2(h:PW X e t) (i:∀σ H Q,t' σ H Q->t σ H Q):PW X e t':=fun whole pins s σ H Q I q=>h whole pins s σ H Q I (i σ H Q q)
theorem bf5(h:JW X e f):JT X e f:=fun ρ c q=>(h ρ c q).pt
theorem bv0(h:JT X a f):JW X (.BoolOp .And [a] pos) f:=fun ρ c q=>aI9 (h ρ c q)
theorem bP5(h:JT X a f):JW X (.BoolOp .Or [a] pos) f:=fun ρ c q=>aC0 (h ρ c q)
theorem bP6{a b:Expr}{M6:List Expr}{f g:Rho->Option Bool}{pos:Pos}(ha:JT X a f) (hb:JW X (.BoolOp .And (b::M6) pos) g):JW X (.BoolOp .And (a::b::M6) pos) (aX4 f g):=fun ρ c q=>by
 obtain⟨x,e1,q⟩:=xbm q
 cases x with
 | true=>exact ao2 (ao3 (ha ρ _ e1) (hb ρ c (by simpa using q))) fun σ H Q ⟨H0,Hf,s,sl,k⟩=>⟨H0,Hf,s,sl,fun H1 Hf1 g1=>Z8 ⟨H0,Hf1,g1.sub,sl.grow g1,fun H2 Hf2 g2=>k H2 Hf2 (g1.trans g2)⟩⟩
 | false =>
  have:c=false:=by simpa using q.symm
  subst this
  exact ao2 (ao3 (tB':=fun _ _ _=>False) (ha ρ _ e1) (fun _ _ _ _ _ _ _ h=>h.elim)) fun σ H Q ⟨H0,Hf,s,sl,k⟩=>⟨H0,Hf,s,sl,fun H1 Hf1 g1=>Y6 (k H1 Hf1 g1)⟩
theorem ce4{a b:Expr}{M6:List Expr}{f g:Rho->Option Bool}{pos:Pos}(ha:JT X a f) (hb:JW X (.BoolOp .Or (b::M6) pos) g):JW X (.BoolOp .Or (a::b::M6) pos) (bI2 f g):=fun ρ c q=>by
 obtain⟨x,e1,q⟩:=xbm q
 cases x with
 | false=>exact ao2 (t5 (ha ρ _ e1) (hb ρ c (by simpa using q))) fun σ H Q ⟨H0,Hf,s,sl,k⟩=>⟨H0,Hf,s,sl,fun H1 Hf1 g1=>Y6 ⟨H0,Hf1,g1.sub,sl.grow g1,fun H2 Hf2 g2=>k H2 Hf2 (g1.trans g2)⟩⟩
 | true =>
  have:c=true:=by simpa using q.symm
  subst this
  exact ao2 (t5 (tB':=fun _ _ _=>False) (ha ρ _ e1) (fun _ _ _ _ _ _ _ h=>h.elim)) fun σ H Q ⟨H0,Hf,s,sl,k⟩=>⟨H0,Hf,s,sl,fun H1 Hf1 g1=>Z8 (k H1 Hf1 g1)⟩
theorem bf6(ha:JT X a f):JT X (.UnaryOp .Not a pos) (aX1 f):=fun ρ c q=>by
 obtain⟨x,e1,e2⟩:=Option.map_eq_some_iff.mp q
 subst e2
 exact P6 (bK0 (ha ρ x e1)) fun σ H Q ⟨H0,Hf,s,sl,k⟩=>⟨H0,Hf,s,sl,fun H1 Hf1 g1=>k H1 Hf1 g1⟩
noncomputable def ay8(t:Rho->Option Bool) (f g:DE):DE:=fun ρ=>(t ρ).bind fun c=>if c then f ρ else g ρ
theorem bS6(hc:JT X c t) (ha:JE X a f) (hb:JE X b g):JE X (.IfExp c a b pos) (ay8 t f g):=fun ρ d q=>by
 obtain⟨x,e1,q⟩:=xbm q
 cases x with
 | true=>exact A7 (av4 (tb:=fun _ _ _=>False) (hc ρ _ e1) (ha ρ d (by simpa using q)) (fun _ _ _ _ _ _ h=>h.elim)) fun σ H Q ⟨H0,Hf,s,sl,k⟩=>⟨H0,Hf,s,sl,fun H1 Hf1 g1=>Z8 ⟨H0,Hf1,g1.sub,sl.grow g1,fun u H2 Hf2 g2 r2=>k u H2 Hf2 (g1.trans g2) r2⟩⟩
 | false=>exact A7 (av4 (ta:=fun _ _ _=>False) (hc ρ _ e1) (fun _ _ _ _ _ _ h=>h.elim) (hb ρ d (by simpa using q))) fun σ H Q ⟨H0,Hf,s,sl,k⟩=>⟨H0,Hf,s,sl,fun H1 Hf1 g1=>Y6 ⟨H0,Hf1,g1.sub,sl.grow g1,fun u H2 Hf2 g2 r2=>k u H2 Hf2 (g1.trans g2) r2⟩⟩
noncomputable def dIx(f:Rho->Option (Bool×List D)) (g:DE):DE:=fun ρ=>(f ρ).bind fun q=>(g ρ).bind fun i=>match i with
 | .int i=>atI q.2 i
 | _=>none
theorem bq3{K:PySem.W.Frag}{H:Hp}{ds:List D}{vs:List V}{i:Int}{d:D}(h:Reps K H ds vs) (e:atI ds i=some d):∃v,atI vs i=some v/\Rep K H d v:=by
 unfold atI at e ⊢
 rw[h.length]
 obtain⟨j,h1,h2⟩:=xbm e
 obtain⟨v,h3,h4⟩:=h.get h2
 exact⟨v,by rw[h1];exact h3,h4⟩
theorem ce9{a b:Expr}{f:Rho->Option (Bool×List D)}{g:DE}{pos:Pos}(ha:JQ X a f) (hb:JE X b g) (hs:z7 b:=by intro _ _;rfl):JE X (.Subscript a b pos) (dIx f g):=fun ρ d q=>by
 obtain⟨⟨t,ds⟩,h1,q⟩:=xbm q
 obtain⟨y,h2,h3⟩:=xbm q
 split at h3
 ·refine A7 (bC3 bh8 (ha ρ t ds h1) (hb ρ _ h2) hs) fun σ H Q ⟨H0,Hf,s,sl,k⟩=>?_
  refine⟨H0,Hf,s,sl,fun v H1 Hf1 g1 ⟨p,vs,e1,e2,e3⟩=>⟨H0,Hf1,g1.sub,sl.grow g1,fun u H2 Hf2 g2 r2=>?_⟩⟩
  obtain⟨w,q1,q2⟩:=bq3 (e3.mono g2.ext) h3
  cases t with
  | true=>exact .inr (.inl ⟨p,vs,_,w,e1,r2,B7 g2.big e2,q1,k w H2 Hf2 (g1.trans g2) q2⟩)
  | false=>exact .inl ⟨p,vs,_,w,e1,r2,D0 g2.big e2,q1,k w H2 Hf2 (g1.trans g2) q2⟩
 ·cases h3
noncomputable def ae2(xs:List D) (lo hi:Option Int):List D:=(xs.drop (HT.sIx xs.length 0 lo)).take (HT.sIx xs.length xs.length hi - HT.sIx xs.length 0 lo)
theorem ag4{K:PySem.W.Frag}{H:Hp}{ds:List D}{vs:List V}(h:Reps K H ds vs) (lo hi:Option Int):Reps K H (ae2 ds lo hi) (ay9 vs lo hi):=by
 unfold ae2 ay9
 rw[h.length]
 exact(h.drop _).take _
noncomputable def JO(X:Cx) (e:Option Expr) (f:Rho->Option (Option Int)):Prop:=∀ρ o,f ρ=some o->PO X e (fun σ H Q=>∃H0 Hf,B6 Hf H/\Slots X.K H0 ρ σ H Hf/\∀H' Hf',Grow H Hf H' Hf'->Q o H')
noncomputable def ac4:Rho->Option (Option Int):=fun _=>some none
noncomputable def bh9:D->Option Int
 | .int i=>some i
 | _=>none
noncomputable def ac3(f:DE):Rho->Option (Option Int):=fun ρ=>(f ρ).bind fun d=>(bh9 d).map some
theorem bw0:JO X none ac4:=fun ρ o q=>by
 cases q
 intro pins s σ H Q I ⟨H0,Hf,ss,sl,k⟩
 exact br7 pins s σ H Q I (k H Hf (Grow.refl ss))
theorem bv9(h:JE X e f):JO X (some e) (ac3 f):=fun ρ o q=>by
 obtain⟨d,e1,e2⟩:=xbm q
 obtain⟨i,e3,e4⟩:=Option.map_eq_some_iff.mp e2
 subst e4
 cases d<;>simp[bh9]at e3
 subst e3
 intro pins s σ H Q I ⟨H0,Hf,ss,sl,k⟩
 exact br6 (h ρ _ e1) pins s σ H Q I ⟨H0,Hf,ss,sl,fun v H1 Hf1 g1 r1=>⟨_,r1,k H1 Hf1 g1⟩⟩
noncomputable def ar9(f:DE) (lo hi:Rho->Option (Option Int)):DE:=fun ρ=>(f ρ).bind fun d=>(lo ρ).bind fun l=>(hi ρ).bind fun h=>match d with
 | .tuple xs=>some (.tuple (ae2 xs l h))
 | _=>none
theorem i4{prog:Program}{w:World}{A:Around}{E:Value->Shared->Prop}{s:Shared}{t sl:Addr}{items:Array Value}{vl vu:Value}{lo hi:Option Int}{Q:Value->Shared->Prop}(ht:IsTup s.heap t items) (hs:s.heap.IsSliceOf sl vl vu .none) (pl:IsPart vl lo) (pu:IsPart vu hi)
  (hw:HT.sIx items.size 0 lo=0/\HT.sIx items.size items.size hi=items.size) (h:Q (.ref t) s):wpAny (model prog w) A (getItem (.ref t) (.ref sl)) Q E s:=by
 obtain⟨os,hos,hcs,hds⟩:=id hs
 have hTs:s.TypeIs (.ref sl) "slice" := ⟨os,hos,hcs⟩
 unfold getItem
 try with_reducible refine wpAny_holding ?_
 first|refine wpAny_bind (wpAny_pure ?_)|skip
 refine wpAny_bind (wpAny_sequenceKey ht.typeIs (by decide) ?_)
 refine wpAny_bind (wpAny_callSpecial?_slot (name:=Str.ofString "__getitem__") ht.typeIs PyProof.Rows.slot_tuple_getitem
  (wpAny_call_entry PyProof.Rows.slot_tuple_getitem ht.typeIs entry_tuple_getitem ?_ (args_tuple_getitem _ _)))
 show wpAny _ _ (Builtin.Tuple.tupleItemsOf (.ref t) >>= _) _ _ s
 refine wpAny_bind (tupleItemsOf_ ht ?_)
 refine wpAny_bind (wpAny_typeOf hTs ?_)
 rw[if_pos (by decide)]
 refine wpAny_bind (HT.sliceApplied_gen hs pl pu ?_)
 have hyes:((((HT.sIx items.size 0 lo:Nat):Int)==0&&(1:Int)==1&&(HT.sIx items.size items.size hi - HT.sIx items.size 0 lo)==items.size)=true):=by
  rw[hw.1,hw.2];simp
 show wpAny _ _ (if(((HT.sIx items.size 0 lo:Nat):Int)==0&&(1:Int)==1&&(HT.sIx items.size items.size hi - HT.sIx items.size 0 lo)==items.size)=true then _ else _) _ _ s
 rw[if_pos hyes]
 unfold Builtin.Tuple.tupleIsExact
 refine wpAny_bind (wpAny_bind (wpAny_typeOf ht.typeIs (wpAny_pure ?_)))
 rw[if_pos (by decide +kernel)]
 exact wpAny_bind (wpAny_rule (wpAny_pure ⟨_,rfl,wpAny_pure h⟩))
theorem an6:SlR X (fun x lo hi H Q=>∃a xs,x=.ref a/\SqT X.K H a xs/\(HT.sIx xs.length 0 lo=0/\HT.sIx xs.length xs.length hi=xs.length)/\Q (.ref a) H):=by
 intro pins s σ H x v vl vu lo hi sl Q I rx hs pl pu h
 obtain⟨a,xs,rfl,hx,hw,q⟩:=h
 cases rx
 obtain⟨its,r,ht,hz⟩:=I.tuple hx
 have hlen:its.toArray.size=xs.length:=by rw[List.size_toArray];exact r.length.symm
 refine⟨"tuple", _,PyProof.Rows.slot_tuple_getitem.lookup,ht.typeIs,?_⟩
 exact i4 ht hs pl pu (by rw[hlen];exact hw) ⟨.ref a,H,I,rfl,q⟩
theorem bh0{a:Expr}{lo hi:Option Expr}{f:DE}{l h:Rho->Option (Option Int)}{pos p2:Pos}(ha:JE X a f) (hl:JO X lo l) (hh:JO X hi h):JE X (.Subscript a (.Slice lo hi none p2) pos) (ar9 f l h):=fun ρ d q=>by
 obtain⟨x,e1,q⟩:=xbm q
 obtain⟨y,e2,q⟩:=xbm q
 obtain⟨z,e3,q⟩:=xbm q
 cases x with
 | tuple xs =>
  cases q
  refine A7 (t7 (bJ2.or an6) (ha ρ _ e1) (hl ρ y e2) (hh ρ z e3)) fun σ H Q ⟨H0,Hf,s,sl,k⟩=>?_
  refine⟨H0,Hf,s,sl,fun v H1 Hf1 g1 ⟨p,vs,q1,q2,q3⟩=>⟨H0,Hf1,g1.sub,sl.grow g1,fun H2 Hf2 g2=>⟨H0,Hf2,g2.sub,sl.grow (g1.trans g2),fun H3 Hf3 g3=>?_⟩⟩⟩
  subst q1
  have q2':=B7 (g2.trans g3).ext q2
  have q3':=q3.mono (g2.trans g3).ext
  by_cases c:HT.sIx vs.length 0 y=0/\HT.sIx vs.length vs.length z=vs.length
  ·refine .inr ⟨p,vs,rfl,B7 g3.sub q2',c,k _ H3 Hf3 ((g1.trans g2).trans g3) ⟨p,vs,rfl,q2',?_⟩⟩
   have:ae2 xs y z=xs:=by
    unfold ae2
    rw[← q3.length,c.1,c.2]
    simp[q3.length]
   rw[this];exact q3'
  ·refine .inl ⟨p,vs,rfl,B7 g3.sub q2',c,fun p' hp=>?_⟩
   exact k _ _ _ (((g1.trans g2).trans g3).trans (Grow.laid g3.sub hp)) ⟨p',_,rfl,SqT.of A5,(ag4 q3' y z).mono (C3 (g3.sub.free hp))⟩
 | _=>cases q
end
end G
namespace G
open PySem PySem.Spec PyProof.Rows L2
section
variable {X:Cx}
theorem aF1:bootBuiltins "len" = some (.builtin "len"):=PySem.boot_len
theorem bW3:bootBuiltins "all" = some (.builtin "all"):=by decide +kernel
theorem bW2:bootBuiltins "isinstance" = some (.builtin "isinstance"):=by decide +kernel
theorem aF2:bootBuiltins "int" = some (.type "int"):=by decide +kernel
theorem bA8:bootBuiltins "bool" = some (.type "bool"):=by decide +kernel
theorem aE9:bootBuiltins "str" = some (.type "str"):=by decide +kernel
theorem aN0:bootBuiltins "list" = some (.type "list"):=by decide +kernel
theorem az6:bootBuiltins "tuple" = some (.type "tuple"):=by decide +kernel
theorem bW0:bootBuiltins "zip" = some (.type "zip"):=by decide +kernel
noncomputable def aE1(f:Rho->Option (Bool×List D)):DE:=fun ρ=>(f ρ).map fun q=>.int q.2.length
theorem bh2(hg:Gl X "len") (hm:X.mg "len" = none) (h:JQ X e f) (he:starEach [e] X.env=[(false,eval e X.env)]:=by rfl):JE X (.Call (.Name "len" p) [e] [] pos) (aE1 f):=fun ρ d q=>by
 obtain⟨⟨t,ds⟩,h1,h2⟩:=Option.map_eq_some_iff.mp q
 subst h2
 refine A7 (M4 as6 hg hm aF1 (B2 (h ρ t ds h1) C6 he) (he:=he)) fun σ H Q ⟨H0,Hf,s,sl,k⟩=>?_
 refine⟨H0,Hf,s,sl,fun v H1 Hf1 g1 ⟨a,vs,e1,e2,e3⟩=>⟨a,vs,by rw[e1],?_,?_⟩⟩
 ·cases t with
  | true=>exact .inr e2
  | false=>exact .inl e2
 ·exact k _ H1 Hf1 g1 (by rw[e3.length];rfl)
theorem bg8(hg:Gl X "tuple") (hm:X.mg "tuple" = none) (h:JQ X e f) (hz:∀ρ ds,f ρ≠some (true,ds)\/True:=by intros;exact .inr trivial) (he:starEach [e] X.env=[(false,eval e X.env)]:=by rfl) :
  JE X (.Call (.Name "tuple" p) [e] [] pos) (fun ρ=>(f ρ).bind fun q=>if q.1=true then none else some (.tuple q.2)):=fun ρ d q=>by
 obtain⟨⟨t,ds⟩,h1,h2⟩:=xbm q
 cases t with
 | true=>simp at h2
 | false =>
  simp only[Bool.false_eq_true,if_false,Option.some.injEq]at h2
  subst h2
  refine A7 (Q6 ak1 hg hm az6 (B2 (h ρ false ds h1) C6 he) (he:=he)) fun σ H Q ⟨H0,Hf,s,sl,k⟩=>?_
  refine⟨H0,Hf,s,sl,fun v H1 Hf1 g1 ⟨a,vs,e1,e2,e3⟩=>⟨a,vs,by rw[e1],.inl ⟨e2,fun l hl=>?_⟩⟩⟩
  exact k _ _ _ (g1.trans (Grow.laid g1.sub hl)) ⟨l,vs,rfl,SqT.of A5,e3.mono (C3 (g1.sub.free hl))⟩
theorem bw1(hg:Gl X "list") (hm:X.mg "list" = none) (h:JQ X e f) (he:starEach [e] X.env=[(false,eval e X.env)]:=by rfl):JN X (.Call (.Name "list" p) [e] [] pos) (fun ρ=>(f ρ).map fun q=>q.2):=fun ρ ds' q=>by
 obtain⟨⟨t,ds⟩,h1,h2⟩:=Option.map_eq_some_iff.mp q
 subst h2
 refine A7 (Q6 as4 hg hm aN0 (B2 (h ρ t ds h1) C6 he) (he:=he)) fun σ H Q ⟨H0,Hf,s,sl,k⟩=>?_
 refine⟨H0,Hf,s,sl,fun v H1 Hf1 g1 ⟨a,vs,e1,e2,e3⟩=>⟨a,vs,by rw[e1],?_,fun l hl=>?_⟩⟩
 ·cases t with
  | true=>exact .inr e2
  | false=>exact .inl e2
 ·exact k _ _ _ (g1.trans (Grow.made g1.sub hl)) ⟨l,vs,rfl,g1.big.free hl,A5,g1.sub.free hl,e3⟩
noncomputable def bV2(f:DE):DE:=fun ρ=>(f ρ).bind fun d=>match d with
 | .int i=>some (.int i)
 | .bool b=>some (.int (if b then 1 else 0))
 | _=>none
theorem bh3(hg:Gl X "int") (hm:X.mg "int" = none) (h:JE X e f) (he:starEach [e] X.env=[(false,eval e X.env)]:=by rfl):JE X (.Call (.Name "int" p) [e] [] pos) (bV2 f):=fun ρ d q=>by
 obtain⟨x,h1,h2⟩:=xbm q
 split at h2
 ·cases h2
  exact A7 (Q6 am2 hg hm aF2 (B2 (h ρ _ h1) C6 he) (he:=he)) fun σ H Q ⟨H0,Hf,s,sl,k⟩ =>
   ⟨H0,Hf,s,sl,fun v H1 Hf1 g1 r=>.inl ⟨_,by rw[show v=_ from r],k _ H1 Hf1 g1 rfl⟩⟩
 ·cases h2
  exact A7 (Q6 am2 hg hm aF2 (B2 (h ρ _ h1) C6 he) (he:=he)) fun σ H Q ⟨H0,Hf,s,sl,k⟩ =>
   ⟨H0,Hf,s,sl,fun v H1 Hf1 g1 r=>.inr ⟨_,by rw[show v=_ from r],k _ H1 Hf1 g1 rfl⟩⟩
 ·cases h2
noncomputable def cg7(f:DE):DE:=fun ρ=>(f ρ).bind fun d=>match d with
 | .int i=>if i.natAbs.log2 < 1920 then some (.str (toString i)) else none
 | .bool b=>some (.str (if b=true then "True" else "False"))
 | _=>none
theorem ak2:O0 X (.type "str") (fun xs H Q=>∃b,xs=[.bl b]/\Q (.str (if b=true then "True" else "False")) H):=by
 intro pins s σ H xs us Q I r h
 obtain⟨b,rfl,q⟩:=h
 obtain⟨u,rfl,e⟩:=Q5 r
 obtain rfl:u=Value.bool b:=e
 exact PySem.P.str_of_bool ⟨.str _,H,I.tok _,⟨_,rfl⟩,q⟩
theorem bg9(hg:Gl X "str") (hm:X.mg "str" = none) (h:JE X e f) (he:starEach [e] X.env=[(false,eval e X.env)]:=by rfl):JE X (.Call (.Name "str" p) [e] [] pos) (cg7 f):=fun ρ d q=>by
 obtain⟨x,h1,h2⟩:=xbm q
 split at h2
 ·split at h2
  ·rename_i c
   cases h2
   exact A7 (Q6 as3 hg hm aE9 (B2 (h ρ _ h1) C6 he) (he:=he)) fun σ H Q ⟨H0,Hf,s,sl,k⟩ =>
    ⟨H0,Hf,s,sl,fun v H1 Hf1 g1 r=>⟨_,by rw[show v=_ from r],c,k _ H1 Hf1 g1 rfl⟩⟩
  ·cases h2
 ·cases h2
  exact A7 (Q6 ak2 hg hm aE9 (B2 (h ρ _ h1) C6 he) (he:=he)) fun σ H Q ⟨H0,Hf,s,sl,k⟩ =>
   ⟨H0,Hf,s,sl,fun v H1 Hf1 g1 r=>⟨_,by rw[show v=_ from r],k _ H1 Hf1 g1 rfl⟩⟩
 ·cases h2
noncomputable def bW9:List D->Option Bool
 | []=>some true
 | .bool b::r=>(bW9 r).map fun c=>b&&c
 | _::_=>none
theorem az8:∀{ds:List D}{c:Bool},bW9 ds=some c->∃bs:List Bool,ds=bs.map PyData.bool/\c=bs.all id
 | [],c,h=>by cases h;exact⟨[],rfl,rfl⟩
 | .bool b::r,c,h=>by
  obtain⟨c',h1,h2⟩:=Option.map_eq_some_iff.mp h
  obtain⟨bs,h3,h4⟩:=az8 h1
  exact⟨b::bs,by simp[h3],by simp[← h2,h4]⟩
theorem j6{K:PySem.W.Frag}{H:Hp}:∀{bs:List Bool}{vs:List V},Reps K H (bs.map PyData.bool) vs->vs=bs.map V.bl
 | [],_,h=>h
 | _::_,_,⟨v,r,h1,h2,h3⟩=>by subst h1;rw[show v=_ from h2,j6 h3];rfl
theorem aV5:O0 X (.builtin "all") (fun xs H Q=>X.calm=true/\∃(p:Addr) (bs:List Bool),xs=[.ref p]/\SqL X.K H p (bs.map V.bl)/\Q (.bl (bs.all id)) H):=by
 intro pins s σ H xs us Q I r h
 obtain⟨hc,p,bs,rfl,hq,q⟩:=h
 obtain⟨u,rfl,rx⟩:=Q5 r
 cases rx
 obtain⟨its,rv,pl,hz⟩:=I.list hq
 have hlen:=rv.length
 have hh:X.A.in1.handled=none:=I.ok.hd hc
 have hlt:p < s.heap.objs.size:=by obtain⟨_,e,_⟩:=pl.isList;exact Heap.lt_size e
 refine call_all_walk (wpAny_pyIter_list pl.isList ?_)
 refine⟨s.heap.objs.size,_,_,_,_,_,fun i=>(bs[i]?).getD false,rfl,Walks.list hh _ p (Nat.ne_of_lt hlt) its.toArray,⟨⟨_,Heap.get?_push_size _ rfl,rfl,rfl⟩,pl.isList.at fun o e=>Heap.get?_push_of_some _ e⟩,?_,?_⟩
 ·intro i v s' Q' E' hv hQ
  have hv':its[i]? = some v:=by simpa using hv
  have:∃b,bs[i]? = some b:=by
   have:i < its.length:=(List.getElem?_eq_some_iff.mp hv').1
   have:i < bs.length:=by simpa using (by grind:i < (bs.map V.bl).length)
   exact⟨bs[i],by simp[this]⟩
  obtain⟨b,hb⟩:=this
  obtain⟨u,hu,ru⟩:=rv.get (i:=i) (x:=.bl b) (by simp[hb])
  rw[hv']at hu;cases hu
  cases ru
  exact wpAny_truthy_bool (by simpa [hb] using hQ)
 ·intro h' tk hk
  have e:((List.range its.toArray.size).all fun i=>(bs[i]?).getD false)=bs.all id:=by
   have hn:its.toArray.size=bs.length:=by simpa using hlen.symm
   rw[hn,Bool.eq_iff_iff]
   simp only[List.all_eq_true,List.mem_range,id]
   constructor
   ·intro h x hx
    obtain⟨i,hi,rfl⟩:=List.mem_iff_getElem.mp hx
    simpa [hi] using h i hi
   ·intro h i hi
    simpa [hi] using h bs[i] (List.getElem_mem hi)
  rw[e]
  have I1:Inv X pins σ H { s with heap:=h',toks:=tk }:=by
   have I0:Inv X pins σ H { s with heap:=s.heap.push { cls:=.type "list_iterator", data:=.fields #[.ref p,rawInt 0] } }:=I.kept (t':=s.toks) fun b o e=>Heap.get?_push_of_some _ e
   refine I.kept (t':=tk) fun b o e=>hk b o ?_ (Heap.get?_push_of_some _ e)
   intro hb
   have:b=s.heap.objs.size:=by simpa using hb
   subst this
   exact absurd (Heap.lt_size e) (Nat.lt_irrefl _)
  exact⟨.bl (bs.all id),H,I1,rfl,q⟩
noncomputable def bV3(f:Rho->Option (Bool×List D)):DE:=fun ρ=>(f ρ).bind fun q=>if q.1=true then none else(bW9 q.2).map PyData.bool
theorem bT1(hg:Gl X "all") (hm:X.mg "all" = none) (h:JQ X e f) (hc:X.calm=true:=by rfl) (he:starEach [e] X.env=[(false,eval e X.env)]:=by rfl):JE X (.Call (.Name "all" p) [e] [] pos) (bV3 f):=fun ρ d q=>by
 obtain⟨⟨t,ds⟩,h1,h2⟩:=xbm q
 cases t with
 | true=>simp at h2
 | false =>
  simp only[Bool.false_eq_true,if_false]at h2
  obtain⟨c,h3,h4⟩:=Option.map_eq_some_iff.mp h2
  subst h4
  obtain⟨bs,h5,h6⟩:=az8 h3
  subst h5 h6
  refine A7 (M4 aV5 hg hm bW3 (B2 (h ρ false _ h1) C6 he) (he:=he)) fun σ H Q ⟨H0,Hf,s,sl,k⟩=>?_
  refine⟨H0,Hf,s,sl,fun v H1 Hf1 g1 ⟨a,vs,e1,e2,e3⟩=>⟨hc,a,bs,by rw[e1],?_,k _ H1 Hf1 g1 rfl⟩⟩
  rw[j6 e3]at e2
  exact e2
noncomputable def aS7(T:String) (d:D):Option Bool:=match d with
 | .int _=>(match T with | "int" => some true | "bool" => some false | "str" => some false | "tuple" => some false | "list" => some false|_=>none)
 | .bool _=>(match T with | "int" => some true | "bool" => some true | "str" => some false | "tuple" => some false | "list" => some false|_=>none)
 | .none=>(match T with | "int" => some false | "bool" => some false | "str" => some false | "tuple" => some false | "list" => some false|_=>none)
 | .str _=>(match T with | "int" => some false | "bool" => some false | "str" => some true | "tuple" => some false | "list" => some false|_=>none)
 | .tuple _=>(match T with | "int" => some false | "bool" => some false | "str" => some false | "tuple" => some true | "list" => some false|_=>none)
 | .list _=>(match T with | "int" => some false | "bool" => some false | "str" => some false | "tuple" => some false | "list" => some true|_=>none)
 | _=>none
noncomputable def tyD:D->String
 | .int _ => "int"
 | .bool _ => "bool"
 | .none => "NoneType"
 | .str _ => "str"
 | .tuple _ => "tuple"
 | .list _ => "list"
 | .dict _ => "dict"
theorem by1{K:PySem.W.Frag}{T:String}{d:D}{b:Bool}(h:aS7 T d=some b):PySem.W.kitOne K (.type (tyD d)) (.type T)=some b:=by
 unfold aS7 at h
 cases d<;>first
  | (dsimp only at h;split at h<;>first
   | (cases h;rfl)
   | cases h)
  | cases h
theorem bl3{T:String}:O0 X (.builtin "isinstance") (fun xs H Q=>∃d x b,xs=[x,.ty T]/\Rep X.K H d x/\aS7 T d=some b/\Q (.bl b) H):=by
 intro pins s σ H xs us Q I r h
 obtain⟨d,x,b,rfl,hd,hb,q⟩:=h
 obtain⟨u,c,rfl,rx,rc⟩:=aG0 r
 cases rc
 have e:=by1 (K:=X.K) hb
 have fin:∀tk,EP X pins σ Q (.bool b) { s with toks:=tk }:=fun tk=>⟨.bl b,H,I.tok tk,rfl,q⟩
 cases d with
 | none=>cases hd;cases rx;exact PySem.W.kia_one PySem.W.kitx_none I.kIn True.intro e (fun z=>nomatch z) fin
 | bool y=>cases hd;cases rx;exact PySem.W.kia_one PySem.W.kitx_bool I.kIn True.intro e (fun z=>nomatch z) fin
 | int i=>cases hd;obtain⟨t,rfl⟩:=rx;exact PySem.W.kia_one PySem.W.kitx_int I.kIn True.intro e (fun z=>nomatch z) fin
 | str i=>cases hd;obtain⟨t,rfl⟩:=rx;exact PySem.W.kia_one PySem.W.kitx_str I.kIn True.intro e (fun z=>nomatch z) fin
 | tuple ds =>
  obtain⟨a,vs,rfl,h2,h3⟩:=hd
  cases rx
  obtain⟨its,rv,⟨o,ho,hc,_⟩,_⟩:=I.tuple h2
  exact PySem.W.kia_one PySem.W.kitx_tuple I.kIn ⟨o,ho,hc⟩ e (fun z=>nomatch z) fin
 | list ds =>
  obtain⟨a,vs,rfl,h2,h3⟩:=hd
  cases rx
  obtain⟨its,rv,pl,_⟩:=I.list h2
  obtain⟨o,ho,hc,_⟩:=pl.isList
  exact PySem.W.kia_one PySem.W.kitx_list I.kIn ⟨o,ho,hc⟩ e (fun z=>nomatch z) fin
 | dict ds=>simp[aS7]at hb
noncomputable def bV1(T:String) (f:DE):DE:=fun ρ=>(f ρ).bind fun d=>(aS7 T d).map PyData.bool
theorem bS5(hg:Gl X "isinstance") (hm:X.mg "isinstance" = none) (hgT:Gl X x) (hmT:X.mg x=none) (hvT:bootBuiltins x=some (.type T)) (h:JE X e f)
  (hn:x ≠ "__name__" := by decide) (hd:(x==("__debug__" : Str))=false:=by decide)
  (he:starEach [e,.Name x p2] X.env=(false,eval e X.env)::starEach [.Name x p2] X.env:=by rfl) (he2:starEach [.Name x p2] X.env=[(false,eval (.Name x p2) X.env)]:=by rfl) (hpl:(backTo pos (starEach [.Name x p2] X.env)).any (·.1)=false:=by rfl) :
  JE X (.Call (.Name "isinstance" p) [e,.Name x p2] [] pos) (bV1 T f):=fun ρ d q=>by
 obtain⟨y,h1,h2⟩:=xbm q
 obtain⟨b,h3,h4⟩:=Option.map_eq_some_iff.mp h2
 subst h4
 refine A7 (M4 (bl3 (T:=T)) hg hm bW2 (B2 (h ρ y h1) (B2 (bs7 (v:=.ty T) hgT hmT hvT rfl hn hd) C6 he2) he) (he:=he) (hpl:=hpl)) fun σ H Q ⟨H0,Hf,s,sl,k⟩=>?_
 exact⟨H0,Hf,s,sl,fun v H1 Hf1 g1 r=>⟨y,v,b,rfl,r.mono g1.sub,h3,k _ H1 Hf1 g1 rfl⟩⟩
noncomputable def spF(K:PySem.W.Frag) (n:Nat) (F:List D->Option D):Sp:=fun vs H Q _=>vs.length=n/\∃Hf ds d,B6 Hf H/\Reps K Hf ds vs/\F ds=some d/\∀v H' Hf',Grow H Hf H' Hf'->Rep K Hf' d v->Q v H'
noncomputable def B1(F:List D->Option D) (f:Rho->Option (List D)):DE:=fun ρ=>(f ρ).bind F
theorem aL2(Fk:FnOk X.prog X.w X.K X.mg X.base CX0 k f fd ps (spF X.K n F)) (hr:Room k X.A) (hg:Gl X x) (hm:X.mg x=some (.ref f)) (hk:PySem.W.keepIn X.K (.ref f)=true) (hb:O9 X.K fd ps [])
  (ha:JA X (e::es) g) (hn:(e::es).length=n:=by rfl) (hdb:(x==("__debug__" : Str))=false:=by decide) (he:starEach (e::es) X.env=(false,eval e X.env)::starEach es X.env:=by rfl) (hpl:(backTo pos (starEach es X.env)).any (·.1)=false:=by rfl) :
  JE X (.Call (.Name x p) (e::es) [] pos) (B1 F g):=fun ρ d q=>by
 obtain⟨ds,h1,h2⟩:=xbm q
 refine A7 (aJ5 Fk hr hg hm hk hb .nil ah2 (fun pos pins s σ H Q I t=>ha.run ρ ds h1 pos pins s σ H Q I t) hdb he hpl) fun σ H Q ⟨H0,Hf,s,sl,kk⟩=>?_
 refine⟨H0,Hf,s,sl,fun vs H1 Hf1 g1 r1=>⟨?_,Hf1,ds,d,g1.sub,by rw[List.append_nil];exact r1,h2,fun v H2 Hf2 g2 r2=>kk v H2 Hf2 (g1.trans g2) r2⟩⟩
 rw[List.append_nil,r1.length,ha.len ρ ds h1,hn]
inductive Fl where
 | nx (ρ:Rho)
 | rt (d:D)
 | bk (ρ:Rho)
 | ct (ρ:Rho)
noncomputable abbrev DS:=Rho->Option Fl
structure At (K:PySem.W.Frag) (H0 Hf0:Hp) (ρ:Rho) (σ:L2.St) (H Hf:Hp):Prop where
 gr:Grow H0 Hf0 H Hf
 sl:Slots K H0 ρ σ H Hf
noncomputable def Fl.ends(K:PySem.W.Frag) (H0 Hf0 Hf:Hp) (En:Ends):Fl->Prop
 | .nx ρ=>∀σ' H' Hf',At K H0 Hf0 ρ σ' H' Hf'->B6 Hf Hf'->En.nx σ' H'
 | .bk ρ=>∀σ' H' Hf',At K H0 Hf0 ρ σ' H' Hf'->B6 Hf Hf'->En.bk σ' H'
 | .ct ρ=>∀σ' H' Hf',At K H0 Hf0 ρ σ' H' Hf'->B6 Hf Hf'->En.ct σ' H'
 | .rt d=>∀v H' Hf',Grow H0 Hf0 H' Hf'->Rep K Hf' d v->En.rt v H'
noncomputable def tJS(K:PySem.W.Frag) (H0 Hf0:Hp) (ρ:Rho) (fl:Fl):TS:=fun En σ H=>∃Hf,At K H0 Hf0 ρ σ H Hf/\fl.ends K H0 Hf0 Hf En
noncomputable def JS(X:Cx) (st:Stmt) (f:DS):Prop:=∀ρ fl,f ρ=some fl->∀H0 Hf0,PS X st (tJS X.K H0 Hf0 ρ fl)
noncomputable def JSs(X:Cx) (sts:List Stmt) (f:DS):Prop:=∀ρ fl,f ρ=some fl->∀H0 Hf0,PSs X sts (tJS X.K H0 Hf0 ρ fl)
theorem C7{st:Stmt}{t t':TS}(h:PS X st t) (i:∀En σ H,t' En σ H->t En σ H):PS X st t':=fun pins s σ H En I q=>h pins s σ H En I (i En σ H q)
theorem Q1{st:List Stmt}{t t':TS}(h:PSs X st t) (i:∀En σ H,t' En σ H->t En σ H):PSs X st t':=fun pins s σ H En I q=>h pins s σ H En I (i En σ H q)
theorem At.grow{K:PySem.W.Frag}{H0 Hf0 H Hf H' Hf':Hp}{ρ:Rho}{σ:L2.St}(a:At K H0 Hf0 ρ σ H Hf) (g:Grow H Hf H' Hf'):At K H0 Hf0 ρ σ H' Hf':=⟨a.gr.trans g,a.sl.grow g⟩
theorem Fl.ends_mono{K:PySem.W.Frag}{H0 Hf0 Hf Hf':Hp}{En:Ends}{fl:Fl}(h:fl.ends K H0 Hf0 Hf En) (e:B6 Hf Hf'):fl.ends K H0 Hf0 Hf' En:=by
 cases fl with
 | nx ρ=>exact fun σ' H' Hf'' a s=>h σ' H' Hf'' a (e.trans s)
 | bk ρ=>exact fun σ' H' Hf'' a s=>h σ' H' Hf'' a (e.trans s)
 | ct ρ=>exact fun σ' H' Hf'' a s=>h σ' H' Hf'' a (e.trans s)
 | rt d=>exact h
noncomputable def j4:DS:=fun ρ=>some (.nx ρ)
noncomputable def M7(f g:DS):DS:=fun ρ=>(f ρ).bind fun fl=>match fl with
 | .nx ρ'=>g ρ'
 | fl=>some fl
theorem bv4:JSs X [] j4:=fun ρ fl q H0 Hf0=>by
 cases q
 exact Q1 ao4 fun En σ H ⟨Hf,a,e⟩=>e σ H Hf a (B6.refl _)
theorem bf8{st:Stmt}{sts:List Stmt}{f g:DS}(h1:JS X st f) (h2:JSs X sts g):JSs X (st::sts) (M7 f g):=fun ρ fl q H0 Hf0=>by
 obtain⟨fl1,e1,q⟩:=xbm q
 cases fl1 with
 | nx ρ' =>
  refine Q1 (N8 (h1 ρ _ e1 H0 Hf0) (h2 ρ' fl q H0 Hf0)) fun En σ H ⟨Hf,a,e⟩=>⟨Hf,a,fun σ' H' Hf' a' s'=>⟨Hf',a',Fl.ends_mono e s'⟩⟩
 | rt d=>cases q;exact Q1 (N8 (h1 ρ _ e1 H0 Hf0) L4) fun En σ H ⟨Hf,a,e⟩=>⟨Hf,a,e⟩
 | bk ρ'=>cases q;exact Q1 (N8 (h1 ρ _ e1 H0 Hf0) L4) fun En σ H ⟨Hf,a,e⟩=>⟨Hf,a,e⟩
 | ct ρ'=>cases q;exact Q1 (N8 (h1 ρ _ e1 H0 Hf0) L4) fun En σ H ⟨Hf,a,e⟩=>⟨Hf,a,e⟩
theorem bv3{st:Stmt}{f:DS}(h1:JS X st f):JSs X [st] f:=fun ρ fl q H0 Hf0=>t6 (h1 ρ fl q H0 Hf0)
noncomputable def L3(f:DE):DS:=fun ρ=>(f ρ).map Fl.rt
theorem bQ1{e:Expr}{f:DE}{pos:Pos}(h:JE X e f):JS X (.Return (some e) pos) (L3 f):=fun ρ fl q H0 Hf0=>by
 obtain⟨d,e1,e2⟩:=Option.map_eq_some_iff.mp q
 subst e2
 exact C7 (ag8 (h ρ d e1)) fun En σ H ⟨Hf,a,e⟩=>⟨H0,Hf,a.gr.sub,a.sl,fun v H' Hf' g r=>e v H' Hf' (a.gr.trans g) r⟩
noncomputable def sIf(t:Rho->Option Bool) (f g:DS):DS:=fun ρ=>(t ρ).bind fun c=>if c then f ρ else g ρ
theorem ce6{c:Expr}{a b:List Stmt}{t:Rho->Option Bool}{f g:DS}{pos:Pos}(hc:JT X c t) (ha:JSs X a f) (hb:JSs X b g):JS X (.If c a b pos) (sIf t f g):=fun ρ fl q H0 Hf0=>by
 obtain⟨x,e1,q⟩:=xbm q
 cases x with
 | true =>
  refine C7 (ak9 (hc ρ _ e1) (ha ρ fl (by simpa using q) H0 Hf0) L4) fun En σ H ⟨Hf,a,e⟩=>⟨H0,Hf,a.gr.sub,a.sl,fun H' Hf' g=>Z8 ⟨Hf',a.grow g,Fl.ends_mono e g.ext⟩⟩
 | false =>
  refine C7 (ak9 (hc ρ _ e1) L4 (hb ρ fl (by simpa using q) H0 Hf0)) fun En σ H ⟨Hf,a,e⟩=>⟨H0,Hf,a.gr.sub,a.sl,fun H' Hf' g=>Y6 ⟨Hf',a.grow g,Fl.ends_mono e g.ext⟩⟩
theorem Slots.set{K:PySem.W.Frag}{H0 H Hf:Hp}{ρ:Rho}{σ:L2.St}{i:Nat}{d:D}{v:V}(s:Slots K H0 ρ σ H Hf) (r:Rep K Hf d v):Slots K H0 (ρ.set i (some (.val d))) (σ.set i (some v)) H Hf:=by
 refine⟨by simp[s.len],fun j b e=>?_,fun j k ds es a h1 h2 h3 h4=>?_⟩
 ·by_cases q:i=j
  ·subst q
   have hi:i < ρ.length:=by
    have:=(List.getElem?_eq_some_iff.mp e).1
    simpa using this
   have hi':i < σ.length:=by rw[← s.len];exact hi
   rw[List.getElem?_set_self hi]at e
   cases e
   exact⟨v,List.getElem?_set_self hi',r⟩
  ·rw[List.getElem?_set_ne q]at e
   obtain⟨u,h1,h2⟩:=s.is j b e
   exact⟨u,by rw[List.getElem?_set_ne q];exact h1,h2⟩
 ·have hj:i≠j:=by
   intro q;subst q
   have hi:i < ρ.length:=by
    have:=(List.getElem?_eq_some_iff.mp h1).1
    simpa using this
   rw[List.getElem?_set_self hi]at h1
   cases h1
  have hk:i≠k:=by
   intro q;subst q
   have hi:i < ρ.length:=by
    have:=(List.getElem?_eq_some_iff.mp h2).1
    simpa using this
   rw[List.getElem?_set_self hi]at h2
   cases h2
  rw[List.getElem?_set_ne hj]at h1 h3
  rw[List.getElem?_set_ne hk]at h2 h4
  exact s.apart j k ds es a h1 h2 h3 h4
noncomputable def R6(i:Nat) (f:DE):DS:=fun ρ=>(f ρ).map fun d=>.nx (ρ.set i (some (.val d)))
theorem bg0(i:Nat) {x:Str}{e:Expr}{f:DE}{pos pos':Pos}(hN:X.N.Nodup) (h:JE X e f) (hi:X.N[i]? = some x:=by rfl) (hx:Loc X.env.scope x:=by first|exact Or.inl rfl|exact Or.inr rfl)
  (hs:swapsWith e (some (.Name x pos')) pos.line X.env=pure false:=by rfl) (hf:X.fn x=true\/X.env.scope.names.lookup x=some .local:=by first|exact .inl rfl|exact .inr rfl):JS X (.Assign [.Name x pos'] e pos) (R6 i f):=fun ρ fl q H0 Hf0=>by
 obtain⟨d,e1,e2⟩:=Option.map_eq_some_iff.mp q
 subst e2
 exact C7 (ag7 hN hi hx (h ρ d e1) hs hf) fun En σ H ⟨Hf,a,e⟩=>⟨H0,Hf,a.gr.sub,a.sl,fun v H' Hf' g r=>e _ H' Hf' ⟨a.gr.trans g,(a.sl.grow g).set r⟩ g.ext⟩
noncomputable def aZ4(i j:Nat) (f:Rho->Option (List D)):DS:=fun ρ=>(f ρ).bind fun ds=>match ds with
 | [a,b]=>some (.nx ((ρ.set i (some (.val a))).set j (some (.val b))))
 | _=>none
end
end G
namespace G
open PySem PySem.Spec PyProof.Rows L2
theorem aU4(I:Nat->Shared->Prop)
  (turn:∀n s,I n s->wpAny (model prog w) A (pyNext it) (fun r s1=>match r with
   | none=>R (.ok .next) s1
   | some v=>wpAny (model prog w) A (letOwnedTupleGo target it v) (fun _ s1'=>wpAny (model prog w) A (assign target env v) (fun _ s2 =>
     wpAny (model prog w) A (forIn ifs true fun c r=>if r=true then do let ok ← isTrue c env (eval c env);pure (ForInStep.yield ok) else pure (ForInStep.yield r)) (fun ok s3 =>
      if ok=true then wpAny (model prog w) A (eval elt env) (fun x s4 =>
       wpAny (model prog w) A (call (.builtin "list.append") [acc,x]) (fun _ s5=>∃m,m < n/\I m s5) (fun _ _=>False) s4) (fun _ _=>False) s3
      else ∃m,m < n/\I m s3) (fun _ _=>False) s2) (fun _ _=>False) s1') (fun _ _=>False) s1) (fun _ _=>False) s)
  (n:Nat) (h:I n s) :
  codeAny (model prog w) A (.compLoop (.ListComp elt [⟨target,iter,ifs,0⟩] scope pos) 0 it acc env) R s:=by
 refine codeAny_loop rfl I (fun n s hI=>?_) n h
 show wpAny _ A ((compTurn (.ListComp elt [⟨target,iter,ifs,0⟩] scope pos) 0 it acc env).onRaise (fun x=>do noteFrame x env;theTreesLotGoes x)) _ _ s
 refine wpAny_noted ?_
 rw[compTurn_list]
 refine wpAny_bind (wpAny_standAt (wpAny_bind (wpAny_mono (turn n s hI) (fun r s1 h1=>?_) fun _ _ h'=>h'.elim)))
 cases r with
 | none=>exact wpAny_pure h1
 | some v =>
  refine wpAny_bind (wpAny_mono h1 (fun _ s1' h1'=>?_) fun _ _ h'=>h'.elim)
  refine wpAny_bind (wpAny_mono h1' (fun _ s2 h2=>wpAny_bind (wpAny_mono h2 (fun ok s3 h3=>?_) fun _ _ h'=>h'.elim)) fun _ _ h'=>h'.elim)
  cases ok with
  | false=>exact wpAny_pure ⟨rfl,h3⟩
  | true =>
   exact wpAny_bind (wpAny_bind (wpAny_mono h3 (fun x s4 h4=>wpAny_bind (wpAny_mono h4 (fun _ s5 h5=>wpAny_pure (wpAny_pure ⟨rfl,h5⟩)) fun _ _ h'=>h'.elim)) fun _ _ h'=>h'.elim))
noncomputable def P7(cells:List (Str×Addr)):List (Str×NameKind)->List (Str×Addr)->List (Str×Addr)
 | [],cs=>cs
 | (n,k)::r,cs=>if(k==NameKind.free)=true then P7 cells r ((n,(cells.lookup n).getD 0)::cs) else P7 cells r cs
theorem ai4:∀(names:List (Str×NameKind)) (cs:List (Str×Addr)),(∀y∈names,y.2=.free->∃c,env.cells.lookup y.1=some c) ->
  (forIn names cs fun(x:Str×NameKind) (r:List (Str×Addr))=>if(x.2==NameKind.free)=true then do let a ← cellOf env x.1;pure (ForInStep.yield ((x.1,a)::r)) else pure (ForInStep.yield r):Sem (List (Str×Addr)))=pure (P7 env.cells names cs)
 | [],cs,_=>rfl
 | (n,k)::r,cs,h=>by
  rw[List.forIn_cons]
  have hr:∀y∈r,y.2=.free->∃c,env.cells.lookup y.1=some c:=fun y hy=>h y (List.mem_cons_of_mem _ hy)
  by_cases hk:(k==NameKind.free)=true
  ·obtain⟨c,hc⟩:=h (n,k) List.mem_cons_self (by simpa using hk)
   have hc':env.cells.lookup n=some c:=hc
   simp only[hk,if_true]
   have e:cellOf env n=pure c:=by unfold cellOf;rw[hc']
   rw[e]
   show(forIn r ((n,c)::cs) _:Sem _)=_
   rw[ai4 r _ hr]
   simp only[P7,hk,if_true,hc',Option.getD_some]
  ·have hk':(k==NameKind.free)=false:=by simpa using hk
   simp only[hk',Bool.false_eq_true,if_false]
   show(forIn r cs _:Sem _)=_
   rw[ai4 r _ hr]
   simp only[P7,hk',Bool.false_eq_true,if_false]
theorem bA1(h:∀y∈scope.names,y.2=.free->∃c,env.cells.lookup y.1=some c):closureFor scope env=pure (P7 env.cells scope.names []):=by
 have:=ai4 (env:=env) scope.names [] h
 unfold closureFor
 exact congrArg (fun z=>z >>= fun cs=>pure cs) this
theorem x9:∀{names:List (Str×NameKind)}{cs:List (Str×Addr)}{x:Str}{c:Addr},(x,c)∈P7 cells names cs->(x,c)∈cs\/((x,NameKind.free)∈names/\c=(cells.lookup x).getD 0)
 | [],cs,x,c,h=>.inl h
 | (n,k)::r,cs,x,c,h=>by
  unfold P7 at h
  split at h
  ·rename_i hk
   rcases x9 h with q|⟨q1,q2⟩
   ·rcases List.mem_cons.mp q with q|q
    ·cases q
     have:k=.free:=by simpa using hk
     subst this
     exact .inr ⟨List.mem_cons_self,rfl⟩
    ·exact .inl q
   ·exact .inr ⟨List.mem_cons_of_mem _ q1,q2⟩
  ·rcases x9 h with q|⟨q1,q2⟩
   ·exact .inl q
   ·exact .inr ⟨List.mem_cons_of_mem _ q1,q2⟩
theorem X3:∀{names:List (Str×NameKind)}{cs:List (Str×Addr)}{x:Str},((x,NameKind.free)∈names\/∃c,(x,c)∈cs)->∃c,(x,c)∈P7 cells names cs
 | [],cs,x,h=>by
  rcases h with h|h
  ·cases h
  ·exact h
 | (n,k)::r,cs,x,h=>by
  unfold P7
  rcases h with h|⟨c,h⟩
  ·rcases List.mem_cons.mp h with q|q
   ·cases q
    rw[if_pos (by rfl)]
    exact X3 (.inr ⟨_,List.mem_cons_self⟩)
   ·split
    ·exact X3 (.inl q)
    ·exact X3 (.inl q)
  ·split
   ·exact X3 (.inr ⟨c,List.mem_cons_of_mem _ h⟩)
   ·exact X3 (.inr ⟨c,h⟩)
theorem k6{l:List (Str×Addr)}{x:Str}{c:Addr}(h:(x,c)∈l):∃c',l.lookup x=some c':=by
 induction l with
 | nil=>cases h
 | cons p r ih =>
  obtain⟨n,a⟩:=p
  rw[List.lookup_cons]
  cases e:x==n with
  | true=>exact⟨a,rfl⟩
  | false =>
   rcases List.mem_cons.mp h with q|q
   ·cases q;simp at e
   ·exact ih q
theorem t4:(relabel scope env).names.lookup x=some k->∃k0,scope.names.lookup x=some k0/\(k=k0\/k0=.free):=by
 unfold relabel
 simp only
 generalize scope.names=names
 induction names with
 | nil=>intro h;simp at h
 | cons p r ih =>
  obtain⟨n,k1⟩:=p
  intro h
  rw[List.map_cons]at h
  by_cases hc:(k1==NameKind.free&&env.scope.kind == .function&&env.kindOf n==some .cell)=true
  ·simp only[hc,if_true,List.lookup_cons]at h
   rw[List.lookup_cons]
   cases e:x==n with
   | true =>
    rw[e]at h
    rw[Bool.and_eq_true,Bool.and_eq_true]at hc
    exact⟨k1,rfl,.inr (by simpa using hc.1.1)⟩
   | false=>rw[e]at h;exact ih h
  ·have hc':(k1==NameKind.free&&env.scope.kind == .function&&env.kindOf n==some .cell)=false:=by simpa using hc
   simp only[hc',Bool.false_eq_true,if_false,List.lookup_cons]at h
   rw[List.lookup_cons]
   cases e:x==n with
   | true=>rw[e]at h;cases h;exact⟨_,rfl,.inl rfl⟩
   | false=>rw[e]at h;exact ih h
theorem ao0:scope.names.lookup x=some .free->(relabel scope env).names.lookup x=some .cell\/(relabel scope env).names.lookup x=some .free:=by
 unfold relabel
 simp only
 generalize scope.names=names
 induction names with
 | nil=>intro h;simp at h
 | cons p r ih =>
  obtain⟨n,k1⟩:=p
  intro h
  rw[List.lookup_cons]at h
  rw[List.map_cons]
  cases e:x==n with
  | true =>
   rw[e]at h
   cases h
   have en:x=n:=by simpa using e
   subst en
   by_cases hc:(NameKind.free==NameKind.free&&env.scope.kind == .function&&env.kindOf x==some .cell)=true
   ·simp only[hc,if_true,List.lookup_cons,e];exact .inl trivial
   ·have hc':(NameKind.free==NameKind.free&&env.scope.kind == .function&&env.kindOf x==some .cell)=false:=by simpa using hc
    simp only[hc',Bool.false_eq_true,if_false,List.lookup_cons,e];exact .inr trivial
  | false =>
   rw[e]at h
   by_cases hc:(k1==NameKind.free&&env.scope.kind == .function&&env.kindOf n==some .cell)=true
   ·simp only[hc,if_true,List.lookup_cons,e];exact ih h
   ·have hc':(k1==NameKind.free&&env.scope.kind == .function&&env.kindOf n==some .cell)=false:=by simpa using hc
    simp only[hc',Bool.false_eq_true,if_false,List.lookup_cons,e];exact ih h
noncomputable def D9(X:Cx) (N':List Str) (scope:Scope) (C:Addr) (s₀:Shared) (H₀:Hp) (ex:List Addr):Cx where
 prog:=X.prog
 w:=X.w
 K:=X.K
 mg:=X.mg
 base:=X.base
 A:=X.A
 N:=N'
 s₀:=s₀
 H₀:=H₀
 env:=compEnvC scope (P7 X.env.cells scope.names []) C X.env
 outer:=X.stack
 stack:=X.stack
 ex:=ex
 fn:=fun _=>false
 calm:=X.calm
 pn:=[]
 xe:=fun _ _=>False
structure CompSc (X:Cx) (N':List Str) (n:Nat) (caps:List Nat) (scope:Scope):Prop where
 kind:scope.kind=.function
 cell:∀y∈scope.names,y.2≠.cell
 loc:∀y∈scope.names,y.2=.local->scope.names.lookup y.1=some .local
 free:∀y∈scope.names,y.2=.free->X.env.scope.names.lookup y.1=some .cell\/X.env.scope.names.lookup y.1=some .free
 len:N'.length=n+caps.length
 cap:∀(i j:Nat),caps[i]? = some j->∃x,X.N[j]? = some x/\N'[n+i]? = some x/\scope.names.lookup x=some .free
section
variable {X:Cx}{N':List Str}{n:Nat}{caps:List Nat}{scope:Scope}
theorem Q3{l:List (Str×NameKind)}{x:Str}{k:NameKind}(h:l.lookup x=some k):(x,k)∈l:=PySem.mem_of_lookup h
noncomputable def ak0(n:Nat) (caps:List Nat) (σ:L2.St):L2.St:=List.replicate n none++caps.map fun j=>(σ[j]?).join
theorem aE2(S:CompSc X N' n caps scope) (I:Inv X pins σ H s) (hf:∀b∈fp,W5 X pins H b) (hlt:∀b∈fp,b < s.heap.objs.size)
  (hns:h1.Ns s.heap.objs.size m) (hk:∀b o,s.heap.get? b=some o->h1.get? b=some o) :
  Inv (D9 X N' scope s.heap.objs.size s H fp) [] (ak0 n caps σ) H { s with heap:=h1,toks:=tk }:=by
 have cl_of:∀x c,(P7 X.env.cells scope.names []).lookup x=some c->X.env.cells.lookup x=some c:=fun x c h=>by
  have hm:=PySem.mem_of_lookup h
  rcases x9 hm with q|⟨q1,q2⟩
  ·cases q
  ·obtain⟨c',hc'⟩:=I.ok.has x (S.free _ q1 rfl)
   rw[hc']at q2
   rw[hc',q2];rfl
 have cl_has:∀x,(x,NameKind.free)∈scope.names->∃c,(P7 X.env.cells scope.names []).lookup x=some c:=fun x h=>by
  obtain⟨c,hc⟩:=X3 (cells:=X.env.cells) (cs:=[]) (.inl h)
  exact k6 hc
 have kind_free:∀x,((relabel scope X.env).names.lookup x=some .cell\/(relabel scope X.env).names.lookup x=some .free)->(x,NameKind.free)∈scope.names:=fun x h=>by
  rcases h with h|h
  ·obtain⟨k0,e1,e2⟩:=t4 h
   rcases e2 with e2|e2
   ·subst e2;exact absurd rfl (S.cell _ (Q3 e1))
   ·subst e2;exact Q3 e1
  ·obtain⟨k0,e1,e2⟩:=t4 h
   rcases e2 with e2|e2
   ·subst e2;exact Q3 e1
   ·subst e2;exact Q3 e1
 have cell_lt:∀x c,X.env.cells.lookup x=some c->c < s.heap.objs.size:=fun x c e=>by
  obtain⟨v,q⟩:=I.cell x c e
  exact q.lt
 have ok:(D9 X N' scope s.heap.objs.size s H fp).Ok:=by
  refine⟨I.ok.mod,S.kind,I.ok.glob,I.ok.blt,Nat.le_refl _,fun x y c e1 e2=>I.ok.inj x y c (cl_of x c e1) (cl_of y c e2),fun x hx=>cl_has x (kind_free x hx),fun x c e _=>(Bool.false_ne_true e).elim,I.ok.hd,I.ok.frames,.inl rfl,fun b hb=>⟨Nat.ne_of_lt (hlt b hb),fun x c e=>(hf b hb).2.2.2.2.1 x c (cl_of x c e)⟩,
   I.bs,Nat.le_trans I.ok.bsz I.sz,fun b o e hb=>?_,fun b hb hb2=>?_,I.stack,I.stkFree⟩
  ·rcases(hf b hb).2.2.2.1 with z|z
   ·exact I.ok.noex b o e z
   ·exact absurd (Nat.lt_of_lt_of_le (Heap.lt_size e) (Nat.le_trans I.ok.bsz z)) (Nat.lt_irrefl _)
  ·rcases List.mem_cons.mp (I.stkSub b hb2) with z|z
   ·exact(hf b hb).2.1 z
   ·exact(hf b hb).2.2.1 z
 refine⟨ok,rfl,I.bare,Un.kept hk,⟨m,hns,fun i x v e1 e2 e3=>?_⟩,fun x c e=>?_,I.hok.fresh (Nat.le_refl _),fun x c e=>I.freeC x c (cl_of x c e),fun p hp=>absurd (show p∈([]:List (Addr×Obj)) from hp) (by simp),I.hok.kept hk,?_⟩
 ·have hi:n<=i:=by
   rcases Nat.lt_or_ge i n with h|h
   ·unfold ak0 at e2
    rw[List.getElem?_append_left (by simpa using h),List.getElem?_replicate,if_pos h]at e2
    cases e2
   ·exact h
  unfold ak0 at e2
  rw[List.getElem?_append_right (by simpa using hi),List.getElem?_map]at e2
  simp only[List.length_replicate]at e2
  cases hj:caps[i - n]? with
  | none=>rw[hj]at e2;cases e2
  | some j =>
   rw[hj]at e2
   have e2':(σ[j]?).join=some v:=by simpa using e2
   have e2'':σ[j]? = some (some v):=by
    cases q:σ[j]? with
    | none=>rw[q]at e2';cases e2'
    | some o=>rw[q]at e2';simp at e2';rw[e2']
   obtain⟨y,q1,q2,q3⟩:=S.cap _ _ hj
   have:y=x:=by
    have e1':N'[i]? = some x:=e1
    rw[show n+(i - n)=i by grind,e1']at q2
    cases q2;rfl
   subst this
   obtain⟨m0,hn0,hl0⟩:=I.loc
   have hv:Vis X.env.scope y:=by
    rcases S.free _ (Q3 q3) rfl with z|z
    ·exact .inr (.inl z)
    ·exact .inr (.inr z)
   obtain⟨u,ru,lk⟩:=hl0 j y v q1 e2'' hv
   refine⟨u,ru,.inr ⟨ao0 q3,?_⟩⟩
   rcases lk with⟨lk,_⟩|⟨_,c,hc,hcell⟩
   ·rcases S.free _ (Q3 q3) rfl with z|z
    ·have:X.env.scope.names.lookup y=some .local:=lk
     rw[z]at this;cases this
    ·have:X.env.scope.names.lookup y=some .local:=lk
     rw[z]at this;cases this
   ·obtain⟨c',hc'⟩:=cl_has y (Q3 q3)
    have:=cl_of y c' hc'
    rw[hc]at this;cases this
    obtain⟨o,ho,hd⟩:=hcell
    exact⟨c,hc',o,hk c o ho,hd⟩
 ·obtain⟨v,o,ho,hd⟩:=I.cell x c (cl_of x c e)
  exact⟨v,o,hk c o ho,hd⟩
 ·show(ak0 n caps σ).length=N'.length
  unfold ak0
  rw[S.len];simp
theorem am0(I:Inv X pins σ H s) (hf:∀b∈fp,W5 X pins H b)
  (I':Inv (D9 X N' scope s.heap.objs.size s H fp) [] σ' H' s') (sb:Heap.SameBut s.heap.objs.size s'.heap h'):Inv X pins σ H' { s' with heap:=h' }:=by
 have ne:∀b o,s.heap.get? b=some o->b≠s.heap.objs.size:=fun b o e=>Nat.ne_of_lt (Heap.lt_size e)
 refine I.call' (s':={ s' with heap:=h' }) (ch:=fp) I'.os ?_ ?_ I'.bare fun b hb=>⟨(hf b hb).2.2.2.1,(hf b hb).2.1,(hf b hb).2.2.2.2.1,(hf b hb).2.2.2.2.2⟩
 ·refine⟨fun b o e n hb hx=>sb.extBut b o (ne b o e) (I'.base.keep b o e n hb hx),fun b o e n hb hx=>?_,I'.base.free,fun b o e hx=>?_,I'.base.tups,I'.base.frzs,I'.base.tbls⟩
  ·obtain⟨sl,q⟩:=I'.base.slot b o e n hb hx
   exact⟨sl,sb.extBut b _ (ne b o e) q⟩
  ·obtain⟨o',q⟩:=I'.base.there b o e hx
   exact⟨o',sb.extBut b _ (ne b o e) q⟩
 ·intro b u e
  have nC:∀c v,H' c=some v->c≠s.heap.objs.size:=fun c v q z=>by
   have:=I'.free
   have z':H' c=none:=by rw[z];exact this
   rw[z']at q;cases q
  refine(I'.hok b u e).stay (fun c v hc q=>sb.extBut c v ?_ q) (fun _ q=>q) fun _ _ q=>q
  rcases hc with z|z
  ·rw[z];exact nC b u e
  ·exact nC c _ z
noncomputable def PTs(X:Cx) (ifs:List Expr) (t:TT):Prop :=
 ∀(pins:List (Addr×Obj)) (s:Shared) (σ:L2.St) (H:Hp) (Q:Bool->Hp->Prop),Inv X pins σ H s->t σ H Q ->
  wpAny (model X.prog X.w) X.A (forIn ifs true fun c r=>if r=true then do let ok ← isTrue c X.env (eval c X.env);pure (ForInStep.yield ok) else pure (ForInStep.yield r)) (TP X pins σ Q) X.xe s
theorem br1:PTs X [] (fun _ H Q=>Q true H):=fun pins s σ H Q I h=>wpAny_tests_nil ⟨H,I,h⟩
theorem br0(h:PT X c t):PTs X [c] t:=fun pins s σ H Q I q=>wpAny_tests_one (h pins s σ H Q I q)
noncomputable def aX2(n:Nat) (caps:List Nat) (wi:TI) (g:TG) (tc:TT) (te:TE):TE:=fun σ H Q=>wi σ H fun J H1=>∀Dd,H1 Dd=none->∃W:Nat->Nat->List V->L2.St->Hp->Prop,
 (∃m,W 0 m [] (ak0 n caps σ) (upd H1 Dd (.lst []))) /\
 ∀i m ys σ' H',W i m ys σ' H' ->
  (J.stop i H'/\Q (.ref Dd) H') \/
  (J.go i H'/\∀x H2,J.yld i H' x H2->g x σ' H2 fun σ3 H3=>tc σ3 H3 fun b H4 =>
   if b=true then te σ3 H4 fun y H5=>H5 Dd=some (.lst ys)/\ys.length < sizeLine/\∃m',m' < m/\W (i+1) m' (ys++[y]) σ3 (upd H5 Dd (.lst (ys++[y])))
   else ∃m',m' < m/\W (i+1) m' ys σ3 H4)
theorem az0{elt tgt iter:Expr}{ifs:List Expr}{pos:Pos}{wi:TI}{g:TG}{tc:TT}{te:TE}{RR:Value->Addr->Result->Shared->Prop}{E:Value->Shared->Prop}(S:CompSc X N' n caps scope) (hx:∀e s,X.xe e s->False) (hc:X.calm=true)
  (hi:PI X tgt iter wi) (hg:∀C s0 H0 ex,PG (D9 X N' scope C s0 H0 ex) tgt g) (ht:∀C s0 H0 ex,PTs (D9 X N' scope C s0 H0 ex) ifs tc) (he:∀C s0 H0 ex,PE (D9 X N' scope C s0 H0 ex) elt te)
  {pins:List (Addr×Obj)}{s:Shared}{σ:L2.St}{H:Hp}{Q:VK}(I:Inv X pins σ H s) (h:aX2 n caps wi g tc te σ H Q)
  (hRR:∀D C r s',r=.ok .next->(∃m,s'.heap.Ns C m/\∀h',Heap.SameBut C s'.heap h'->∃H',Inv X pins σ H' { s' with heap:=h' }/\Q (.ref D) H') ->
   (∃s2 fp σ' H2 H',s2.heap.objs.size=C/\Inv X pins σ H2 s2/\(∀b∈fp,W5 X pins H2 b)/\Inv (D9 X N' scope s2.heap.objs.size s2 H2 fp) [] σ' H' s'/\Q (.ref D) H')->RR (.ref D) C r s') :
  wpAny (model X.prog X.w) X.A (eval iter X.env) (fun x s₁=>wpAny (model X.prog X.w) X.A (pyIter x) (fun it s₂=>wpAny (model X.prog X.w) X.A (newList []) (fun acc s₃ =>
   wpAny (model X.prog X.w) X.A (newFunctionEnv scope X.env.globals (P7 X.env.cells scope.names []) [] X.env.qual none .none (some X.env)) (fun cenv s₄ =>
    codeAny (model X.prog X.w) X.A (.compStart (.ListComp elt [⟨tgt,iter,ifs,0⟩] scope pos) 0 it acc { cenv with scope:=relabel scope X.env }) (RR acc cenv.locals) s₄) E s₃) E s₂) E s₁) E s:=by
 refine wpAny_mono (hi pins s σ H _ I h) (fun v s1 h1=>wpAny_mono h1 (fun itv s2 h2=>?_) fun _ _ z=>(hx _ _ z).elim) fun _ _ z=>(hx _ _ z).elim
 obtain⟨it,fp,tn,J,H2,e,I2,T,st2,f2,R⟩:=h2
 subst e
 refine wpAny_newObj_type (wpAny_newFunctionEnv S.cell (by intro y hy;simp at hy) (fun h₁ hns₁ hsb₁=>?_) S.kind)
 dsimp only at hns₁ hsb₁ ⊢
 obtain⟨W,⟨m0,w0⟩,turn⟩:=R s2.heap.objs.size (I2.hok.fresh (Nat.le_refl _))
 have lt2:∀b∈fp,b < s2.heap.objs.size:=fun b hb=>by
  obtain⟨o,ho,_⟩:=T.obj _ _ st2 b hb
  exact Heap.lt_size ho
 have I3:Inv X pins σ (upd H2 s2.heap.objs.size (.lst [])) { s2 with heap:=s2.heap.push { cls:=.type "list", dict:=none,data:=.seq ([]:List Value).toArray } } :=
  I2.laid (t':=s2.toks) (fun b u e=>Heap.get?_push_of_some _ e) (Nat.le_refl _) ⟨Nat.zero_le _,[],0,.nil,Heap.get?_push_size _ rfl⟩
 generalize hs3:({ s2 with heap:=s2.heap.push { cls:=.type "list", dict:=none,data:=.seq ([]:List Value).toArray } }:Shared)=s3 at I3
 have es3:s3.heap=s2.heap.push { cls:=.type "list", dict:=none,data:=.seq ([]:List Value).toArray }:=by rw[← hs3]
 rw[← es3]at hns₁ hsb₁ ⊢
 have keep3:∀b o,s3.heap.get? b=some o->h₁.get? b=some o:=fun b o e=>hsb₁.extBut b o (Nat.ne_of_lt (Heap.lt_size e)) (Heap.get?_push_of_some _ e)
 have lt3:∀b∈fp,b < s3.heap.objs.size:=fun b hb=>by rw[es3,Heap.size_push];exact Nat.lt_succ_of_lt (lt2 b hb)
 have f3:∀b∈fp,W5 X pins (upd H2 s2.heap.objs.size (.lst [])) b:=fun b hb=>⟨by rw[A6 (Nat.ne_of_lt (lt2 b hb))];exact(f2 b hb).1,(f2 b hb).2⟩
 generalize hH3:upd H2 s2.heap.objs.size (HO.lst [])=H3 at I3 f3 w0
 have fin3:∀{σ':L2.St}{H':Hp}{pl:List (Addr×Obj)},(∀b∈fp,H' b=none)->(∀p∈pl,False)->∀b∈fp,W5 (D9 X N' scope s3.heap.objs.size s3 H3 fp) pl H' b:=fun{σ' H' pl} hn hp b hb=>by
  refine⟨hn b hb,Nat.ne_of_lt (lt3 b hb),fun z=>?_,.inl hb,fun x c e=>?_,fun p hp'=>?_⟩
  ·rcases List.mem_cons.mp (I3.stkSub b z) with z|z
   ·exact(f3 b hb).2.1 z
   ·exact(f3 b hb).2.2.1 z
  ·have hm:=PySem.mem_of_lookup e
   rcases x9 hm with q|⟨q1,q2⟩
   ·cases q
   ·obtain⟨c',hc'⟩:=I3.ok.has x (S.free _ q1 rfl)
    rw[hc']at q2
    have q2':c=c':=q2
    subst q2'
    exact(f3 b hb).2.2.2.2.1 x c hc'
  ·exact(hp p (by simpa [D9] using hp')).elim
 have toks:∃tk,({ s2 with heap:=h₁,toks:=s2.toks+([]:List (Str×Value)).length }:Shared)={ s3 with heap:=h₁,toks:=tk }:=⟨s2.toks,by rw[← hs3];rfl⟩
 obtain⟨tk,htk⟩:=toks
 have st4:tn 0 h₁:=T.keep 0 s2.heap h₁ st2 fun b hb o e=>keep3 b o (by rw[es3];exact Heap.get?_push_of_some _ e)
 have I4:Inv (D9 X N' scope s3.heap.objs.size s3 H3 fp) [] (ak0 n caps σ) H3 { s3 with heap:=h₁,toks:=tk }:=aE2 S I3 f3 lt3 hns₁ keep3
 have loop:codeAny (model X.prog X.w) X.A (.compLoop (.ListComp elt [⟨tgt,iter,ifs,0⟩] scope pos) 0 (.ref it) (.ref s2.heap.objs.size) (compEnvC scope (P7 X.env.cells scope.names []) s3.heap.objs.size X.env)) (RR (.ref s2.heap.objs.size) s3.heap.objs.size) { s3 with heap:=h₁,toks:=tk }:=by
  refine aU4 (fun k s'=>∃i ys σ' H',Inv (D9 X N' scope s3.heap.objs.size s3 H3 fp) [] σ' H' s'/\tn i s'.heap/\(∀b∈fp,H' b=none)/\W i k ys σ' H') ?_ m0 ⟨0,[],_,H3,I4,st4,fun b hb=>(f3 b hb).1,w0⟩
  rintro k s5 ⟨i,ys,σ5,H5,I5,st5,fr5,w5⟩
  have pz:∀p∈([]:List (Addr×Obj)),False:=fun p hp=>by cases hp
  rcases turn i k ys σ5 H5 w5 with⟨stop,qn⟩|⟨go,step⟩
  ·refine wpAny_mono (T.done (D9 X N' scope s3.heap.objs.size s3 H3 fp) rfl rfl rfl hc i [] s5 σ5 H5 (fun _ _=>False) I5 (fin3 (σ':=σ5) fr5 pz) st5 stop) (fun r s6 ⟨hr,I6⟩=>?_) fun _ _ z=>z
   subst hr
   obtain⟨m6,hn6,_⟩:=I6.loc
   refine hRR _ _ _ s6 rfl ⟨m6,hn6,fun h' sb=>⟨H5,am0 I3 f3 I6 sb,qn⟩⟩ ⟨s3,fp,σ5,H3,H5,rfl,I3,f3,I6,qn⟩
  ·refine wpAny_mono (T.item (D9 X N' scope s3.heap.objs.size s3 H3 fp) rfl rfl rfl hc i [] s5 σ5 H5 (fun _ _=>False) I5 (fin3 (σ':=σ5) fr5 pz) st5 go) (fun r s6 ⟨u,hr,h6⟩=>?_) fun _ _ z=>z
   subst hr
   refine wpAny_mono h6 (fun _ s7 ⟨x,H7,I7,r7,y7,st7,fr7⟩=>?_) fun _ _ z=>z
   have I7':=I7.pinned (fin3 (σ':=σ5) fr7 pz) (T.obj _ _ st7)
   refine wpAny_mono (hg _ _ _ _ _ s7 σ5 H7 x u _ I7' r7 (step x H7 y7)) (fun _ s8 ⟨σ8,H8,I8,q8⟩=>?_) fun _ _ z=>z
   refine wpAny_mono (ht _ _ _ _ _ s8 σ8 H8 _ I8 q8) (fun ok s9 ⟨H9,I9,q9⟩=>?_) fun _ _ z=>z
   have again:∀{σ':L2.St}{H':Hp}{s':Shared},Inv (D9 X N' scope s3.heap.objs.size s3 H3 fp) ([]++ah1 fp s7.heap) σ' H' s'->Inv (D9 X N' scope s3.heap.objs.size s3 H3 fp) [] σ' H' s'/\tn (i+1) s'.heap/\∀b∈fp,H' b=none:=fun{σ' H' s'} I'=>by
    refine⟨I'.unpinned,T.keep _ _ _ st7 fun b hb o e=>(I'.pin (b,o) (List.mem_append_right _ (List.mem_append_right _ (Y3 hb e)))).1,fun b hb=>?_⟩
    obtain⟨o,e,d⟩:=T.obj _ _ st7 b hb
    exact(I'.pin (b,o) (List.mem_append_right _ (List.mem_append_right _ (Y3 hb e)))).2.1
   cases ok with
   | false =>
    rw[if_neg Bool.false_ne_true]at q9 ⊢
    obtain⟨m',hm,w'⟩:=q9
    obtain⟨a1,a2,a3⟩:=again I9
    exact⟨m',hm,i+1,ys,σ8,H9,a1,a2,a3,w'⟩
   | true =>
    rw[if_pos rfl]at q9 ⊢
    refine wpAny_mono (he _ _ _ _ _ s9 σ8 H9 _ I9 q9) (fun y s10 ⟨vy,H10,I10,r10,q10,z10,m',hm,w'⟩=>?_) fun _ _ z=>z
    refine wpAny_mono (f9 (X:=D9 X N' scope s3.heap.objs.size s3 H3 fp) _ s10 σ8 H10 (.ref s2.heap.objs.size) [vy] _ _ (fun v H'=>v=.non/\H'=upd H10 s2.heap.objs.size (.lst (ys++[vy]))) I10 rfl (.cons r10 .nil) ⟨_,ys,vy,rfl,rfl,q10,z10,rfl,rfl⟩) (fun _ s11 ⟨v11,H11,I11,r11,e11,e12⟩=>?_) fun _ _ z=>z
    subst e12
    obtain⟨a1,a2,a3⟩:=again I11
    exact⟨m',hm,i+1,ys++[vy],σ8,_,a1,a2,a3,w'⟩
 show codeAny (model X.prog X.w) X.A _ _ ({ s2 with heap:=h₁,toks:=s2.toks+([]:List (Str×Value)).length }:Shared)
 rw[htk]
 exact codeAny_compStart_list loop (T.self _ _ _ _ _ st4 loop)
end
end G
namespace G
open PySem PySem.Spec PyProof.Rows L2
section
variable {X:Cx}
noncomputable def tgJ(K:PySem.W.Frag) (f:D->Rho->Option Rho):TG:=fun v σ H Q=>∃d ρ ρ' H0 Hf,f d ρ=some ρ'/\B6 Hf H/\Slots K H0 ρ σ H Hf/\Rep K Hf d v/\∀σ',Slots K H0 ρ' σ' H Hf->Q σ' H
noncomputable def JG(X:Cx) (tg:Expr) (f:D->Rho->Option Rho):Prop:=PG X tg (tgJ X.K f)
noncomputable def ci5(K:PySem.W.Frag) (f:List D->Rho->Option Rho):TGs:=fun vs σ H Q=>∃ds ρ ρ' H0 Hf,f ds ρ=some ρ'/\B6 Hf H/\Slots K H0 ρ σ H Hf/\Reps K Hf ds vs/\∀σ',Slots K H0 ρ' σ' H Hf->Q σ' H
noncomputable def JGs(X:Cx) (tg:List Expr) (f:List D->Rho->Option Rho):Prop:=PGs X tg (ci5 X.K f)
noncomputable def S1(i:Nat):D->Rho->Option Rho:=fun d ρ=>some (ρ.set i (some (.val d)))
theorem bw6(i:Nat) (hN:X.N.Nodup) (hi:X.N[i]? = some x:=by rfl) (hx:Loc X.env.scope x:=by first|exact Or.inl rfl|exact Or.inr rfl) (hf:X.fn x=true\/X.env.scope.names.lookup x=some .local:=by first|exact .inl rfl|exact .inr rfl):JG X (.Name x pos) (S1 i):=by
 intro pins s σ H v u Q I r ⟨d,ρ,ρ',H0,Hf,e,ss,sl,rp,k⟩
 cases e
 exact bs3 hN hi hx hf pins s σ H v u Q I r (k _ (sl.set rp))
noncomputable def Z5:List D->Rho->Option Rho:=fun ds ρ=>match ds with
 | []=>some ρ
 | _=>none
noncomputable def M8(f:D->Rho->Option Rho) (g:List D->Rho->Option Rho):List D->Rho->Option Rho:=fun ds ρ=>match ds with
 | d::r=>(f d ρ).bind fun ρ'=>g r ρ'
 | []=>none
theorem bw5:JGs X [] Z5:=by
 intro pins s σ H vs us Q I r ⟨ds,ρ,ρ',H0,Hf,e,ss,sl,rp,k⟩
 cases ds with
 | nil=>cases e;exact bs1 pins s σ H vs us Q I r ⟨rp,k _ sl⟩
 | cons d ds=>cases e
theorem bg6(h1:JG X e f) (h2:JGs X es g) (hs:(assignEach (e::es) X.env).map (·.2)=assign e X.env::(assignEach es X.env).map (·.2):=by rfl):JGs X (e::es) (M8 f g):=by
 intro pins s σ H vs us Q I r ⟨ds,ρ,ρ',H0,Hf,e,ss,sl,rp,k⟩
 cases ds with
 | nil=>cases e
 | cons d ds =>
  obtain⟨ρ1,e1,e2⟩:=xbm e
  obtain⟨v,vr,rfl,q1,q2⟩:=rp
  exact bb3 h1 h2 hs pins s σ H _ us Q I r ⟨v,vr,rfl,d,ρ,ρ1,H0,Hf,e1,ss,sl,q1,fun σ' sl'=>⟨ds,ρ1,ρ',H0,Hf,e2,ss,sl',q2,k⟩⟩
noncomputable def V7(n:Nat) (g:List D->Rho->Option Rho):D->Rho->Option Rho:=fun d ρ=>match d with
 | .tuple ds=>if ds.length=n then g ds ρ else none
 | _=>none
theorem bR6(h:JGs X es g) (hc:X.calm=true:=by rfl) (hn:(assignEach es X.env).length=n:=by rfl) (hst:(assignEach es X.env).findIdx? (·.1)=none:=by rfl):JG X (.Tuple es k pos) (V7 n g):=by
 intro pins s σ H v u Q I r ⟨d,ρ,ρ',H0,Hf,e,ss,sl,rp,kk⟩
 cases d with
 | tuple ds =>
  simp only[V7]at e
  split at e
  ·rename_i hl
   obtain⟨a,vs,rfl,q1,q2⟩:=rp
   exact bK7 hc h hn hst pins s σ H _ u Q I r ⟨a,vs,rfl,B7 ss q1,by rw[q2.length,hl],ds,ρ,ρ',H0,Hf,e,ss,sl,q2,kk⟩
  ·cases e
 | _=>cases e
noncomputable def at2(K:PySem.W.Frag) (J:It) (ds:List D) (Hf1:Hp):Prop:=∀(i:Nat) (H Hf:Hp),B6 Hf1 Hf->B6 Hf H->(ds.length<=i->J.stop i H)/\∀d,ds[i]? = some d->J.go i H/\∀x H',J.yld i H x H'->∃Hf',Grow H Hf H' Hf'/\Rep K Hf' d x
noncomputable def tiJ(K:PySem.W.Frag) (ρ:Rho) (ds:List D):TI:=fun σ H R=>∃H0 Hf,B6 Hf H/\Slots K H0 ρ σ H Hf/\∀J H' Hf',Grow H Hf H' Hf'->at2 K J ds Hf'->R J H'
noncomputable def JI(X:Cx) (tg iter:Expr) (f:Rho->Option (List D)):Prop:=∀ρ ds,f ρ=some ds->PI X tg iter (tiJ X.K ρ ds)
theorem ao7(h:PI X tg iter t) (i:∀σ H R,t' σ H R->t σ H R):PI X tg iter t':=fun pins s σ H R I q=>h pins s σ H R I (i σ H R q)
noncomputable def aD4(f:DE):Rho->Option (List D):=fun ρ=>(f ρ).bind fun d=>match d with
 | .list ds=>some ds
 | .tuple ds=>some ds
 | _=>none
theorem aD0(h:JE X e f):JI X tg e (aD4 f):=fun ρ ds q=>by
 obtain⟨d,e1,e2⟩:=xbm q
 cases d with
 | list xs =>
  cases e2
  refine ao7 (bs0 (h ρ _ e1)) fun σ H R ⟨H0,Hf,s,sl,k⟩=>⟨H0,Hf,s,sl,fun v H1 Hf1 g1 ⟨a,vs,h1,h2,h3⟩=>⟨a,h1,⟨vs,D0 g1.sub h2⟩,k _ H1 Hf1 g1 ?_⟩⟩
  intro i H' Hf' sa sb
  have q':SqL X.K H' a vs:=D0 (sa.trans sb) h2
  refine⟨fun hi=>⟨vs,q',by rw[h3.length];exact hi⟩,fun d hd=>?_⟩
  obtain⟨v,w1,w2⟩:=h3.get hd
  refine⟨⟨vs,v,q',w1⟩,fun x H'' hy=>?_⟩
  obtain⟨rfl,hy⟩:=hy
  have:=hy vs q'
  rw[w1]at this;cases this
  exact⟨Hf',Grow.refl sb,w2.mono sa⟩
 | tuple xs =>
  cases e2
  refine ao7 (bK6 (h ρ _ e1)) fun σ H R ⟨H0,Hf,s,sl,k⟩=>⟨H0,Hf,s,sl,fun v H1 Hf1 g1 ⟨a,vs,h1,h2,h3⟩=>⟨a,h1,⟨vs,B7 g1.sub h2⟩,k _ H1 Hf1 g1 ?_⟩⟩
  intro i H' Hf' sa sb
  have q':SqT X.K H' a vs:=B7 (sa.trans sb) h2
  refine⟨fun hi=>⟨vs,q',by rw[h3.length];exact hi⟩,fun d hd=>?_⟩
  obtain⟨v,w1,w2⟩:=h3.get hd
  refine⟨⟨vs,v,q',w1⟩,fun x H'' hy=>?_⟩
  obtain⟨rfl,hy⟩:=hy
  have:=hy vs q'
  rw[w1]at this;cases this
  exact⟨Hf',Grow.refl sb,w2.mono sa⟩
 | _=>cases e2
noncomputable def V9(lo hi:Int):List D:=(List.range (hi - lo).toNat).map fun(i:Nat)=>PyData.int (lo+i)
theorem l8{K:PySem.W.Frag}{lo hi:Int}{Hf1:Hp}:at2 K (Itr lo (hi - lo).toNat) (V9 lo hi) Hf1:=by
 intro i H Hf sa sb
 have hl:(V9 lo hi).length=(hi - lo).toNat:=by simp[V9]
 refine⟨fun h=>by rw[hl]at h;exact h,fun d hd=>?_⟩
 have hi':i < (hi - lo).toNat:=by
  have:=(List.getElem?_eq_some_iff.mp hd).1
  rw[hl]at this;exact this
 refine⟨hi',fun x H' hy=>?_⟩
 obtain⟨e1,e2⟩:=hy
 subst e1 e2
 have:d=.int (lo+i):=by
  have:(V9 lo hi)[i]? = some (.int (lo+i)):=by simp[V9,hi']
  rw[hd]at this;cases this;rfl
 subst this
 exact⟨Hf,Grow.refl sb,rfl⟩
noncomputable def d6(f:DE):Rho->Option (List D):=fun ρ=>(f ρ).bind fun d=>match d with
 | .int j=>if -(2 ^ 62)<=j/\j < 2 ^ 62 then some (V9 0 j) else none
 | _=>none
theorem aS3{tg e:Expr}{f:DE}{p pos:Pos}(hg:Gl X "range") (hm:X.mg "range" = none) (h:JE X e f) (hs:starEach [e] X.env=[(false,eval e X.env)]:=by rfl):JI X tg (.Call (.Name "range" p) [e] [] pos) (d6 f):=fun ρ ds q=>by
 obtain⟨d,e1,e2⟩:=xbm q
 split at e2
 ·split at e2
  ·rename_i j c
   cases e2
   refine ao7 (aQ0 hg hm (B2 (h ρ _ e1) C6 hs) hs) fun σ H R ⟨H0,Hf,s,sl,k⟩=>⟨H0,Hf,s,sl,fun v H1 Hf1 g1 r=>⟨j,by rw[show v=_ from r],c.1,c.2,k _ H1 Hf1 g1 ?_⟩⟩
   have:=l8 (K:=X.K) (lo:=0) (hi:=j) (Hf1:=Hf1)
   rw[Int.sub_zero]at this
   exact this
  ·cases e2
 ·cases e2
noncomputable def bD2(f g:DE):Rho->Option (List D):=fun ρ=>(f ρ).bind fun d=>(g ρ).bind fun e=>match d,e with
 | .int i,.int j=>if(-(2 ^ 62)<=i/\i < 2 ^ 62)/\-(2 ^ 62)<=j/\j < 2 ^ 62 then some (V9 i j) else none
 | _,_=>none
theorem aS2(hg:Gl X "range") (hm:X.mg "range" = none) (ha:JE X a f) (hb:JE X b g) (hs:starEach [a,b] X.env=[(false,eval a X.env),(false,eval b X.env)]:=by rfl) (hs2:starEach [b] X.env=[(false,eval b X.env)]:=by rfl) :
  JI X tg (.Call (.Name "range" p) [a,b] [] pos) (bD2 f g):=fun ρ ds q=>by
 obtain⟨d,e1,q⟩:=xbm q
 obtain⟨e,e2,q⟩:=xbm q
 split at q
 ·split at q
  ·rename_i c
   cases q
   refine ao7 (aP9 hg hm (B2 (ha ρ _ e1) (B2 (hb ρ _ e2) C6 hs2) (by rw[hs,hs2])) hs hs2) fun σ H R ⟨H0,Hf,s,sl,k⟩=>⟨H0,Hf,s,sl,fun v H1 Hf1 g1 r=>⟨H0,Hf1,g1.sub,sl.grow g1,fun u H2 Hf2 g2 r2=>⟨_,_,by rw[show v=_ from r,show u=_ from r2],⟨c.1.1,c.1.2,c.2.1,c.2.2⟩,k _ H2 Hf2 (g1.trans g2) l8⟩⟩⟩
  ·cases q
 ·cases q
theorem Grow.nofr(g:Grow H Hf H' Hf') (h:H a=some o) (n:Hf a=none):Hf' a=none:=by
 cases q:Hf' a with
 | none=>rfl
 | some u =>
  rcases g.new a (by rw[q];simp) with z|z
  ·exact absurd n z
  ·rw[h]at z;cases z
noncomputable def ab3(n:Nat) (caps:List Nat) (ρ:Rho):Rho:=List.replicate n none++caps.map fun j=>match ρ[j]? with
 | some (some (.val d))=>some (.val d)
 | _=>none
noncomputable def Z6(g:D->Rho->Option Rho) (c:Rho->Option Bool) (e:DE):List D->Rho->Option (List D)
 | [],_=>some []
 | d::ds,ρ=>(g d ρ).bind fun ρ1=>(c ρ1).bind fun b=>if b then(e ρ1).bind fun y=>(Z6 g c e ds ρ1).map fun r=>y::r else Z6 g c e ds ρ1
noncomputable def P9(n:Nat) (caps:List Nat) (src:Rho->Option (List D)) (g:D->Rho->Option Rho) (c:Rho->Option Bool) (e:DE):Rho->Option (List D):=fun ρ=>(src ρ).bind fun ds=>if ds.length<=16777216 then Z6 g c e ds (ab3 n caps ρ) else none
noncomputable def ak3(K:PySem.W.Frag) (c:Rho->Option Bool):TT:=fun σ H Q=>∃ρ b,c ρ=some b/\∃H0 Hf,B6 Hf H/\Slots K H0 ρ σ H Hf/\∀H' Hf',Grow H Hf H' Hf'->Q b H'
noncomputable def aG4(K:PySem.W.Frag) (e:DE):TE:=fun σ H Q=>∃ρ d,e ρ=some d/\tJ K ρ (fun _ v _ Hf=>Rep K Hf d v) σ H Q
noncomputable def JTs(X:Cx) (ifs:List Expr) (c:Rho->Option Bool):Prop:=PTs X ifs (ak3 X.K c)
noncomputable def T3:Rho->Option Bool:=fun _=>some true
theorem bv2:JTs X [] T3:=fun pins s σ H Q I ⟨ρ,b,e,H0,Hf,ss,sl,k⟩=>by
 cases e
 exact br1 pins s σ H Q I (k H Hf (Grow.refl ss))
theorem bv1(h:JT X e c):JTs X [e] c:=fun pins s σ H Q I ⟨ρ,b,e,H0,Hf,ss,sl,k⟩=>br0 (h ρ b e) pins s σ H Q I ⟨H0,Hf,ss,sl,k⟩
theorem aE4{K:PySem.W.Frag}{n:Nat}{caps:List Nat}{H0 H H1 H' Hf:Hp}{ρ:Rho}{σ:L2.St}(sl:Slots K H0 ρ σ H Hf):Slots K H1 (ab3 n caps ρ) (ak0 n caps σ) H' Hf:=by
 have noown:∀(i:Nat) (ds:List D),(ab3 n caps ρ)[i]?≠some (some (.own ds)):=fun i ds h=>by
  unfold ab3 at h
  rcases Nat.lt_or_ge i n with q|q
  ·rw[List.getElem?_append_left (by simpa using q),List.getElem?_replicate,if_pos q]at h;cases h
  ·rw[List.getElem?_append_right (by simpa using q),List.getElem?_map]at h
   cases hj:caps[i - (List.replicate n (none:Option B)).length]? with
   | none=>rw[hj]at h;cases h
   | some j =>
    rw[hj]at h
    simp only[Option.map_some,Option.some.injEq]at h
    split at h<;>cases h
 refine⟨by simp[ab3,ak0],fun i b e=>?_,fun i j ds es a h1=>(noown i ds h1).elim⟩
 unfold ab3 at e
 unfold ak0
 rcases Nat.lt_or_ge i n with q|q
 ·rw[List.getElem?_append_left (by simpa using q),List.getElem?_replicate,if_pos q]at e;cases e
 ·rw[List.getElem?_append_right (by simpa using q),List.getElem?_map]at e
  rw[List.getElem?_append_right (by simpa using q),List.getElem?_map]
  simp only[List.length_replicate]at e ⊢
  cases hj:caps[i - n]? with
  | none=>rw[hj]at e;cases e
  | some j =>
   rw[hj]at e
   simp only[Option.map_some,Option.some.injEq]at e ⊢
   split at e
   ·rename_i d hd
    cases e
    obtain⟨v,h1,h2⟩:=sl.is j _ hd
    exact⟨v,by rw[h1];rfl,h2⟩
   ·cases e
theorem l5{K:PySem.W.Frag}{n:Nat}{caps:List Nat}{ρ:Rho}{src:Rho->Option (List D)}{g:D->Rho->Option Rho}{c:Rho->Option Bool}{e:DE}{out:List D}(h:P9 n caps src g c e ρ=some out) :
  ∃ds,src ρ=some ds/\∀σ H Q,tJ K ρ (fun H v H' Hf'=>∃a vs,v=.ref a/\H a=none/\H' a=some (.lst vs)/\Hf' a=none/\Reps K Hf' out vs) σ H Q->aX2 n caps (tiJ K ρ ds) (tgJ K g) (ak3 K c) (aG4 K e) σ H Q:=by
 obtain⟨ds,e1,e2⟩:=xbm h
 split at e2
 ·rename_i hz
  refine⟨ds,e1,fun σ H Q ⟨H0,Hf,s,sl,k⟩=>⟨H0,Hf,s,sl,fun J H1 Hf1 g1 Y Dd hD=>?_⟩⟩
  refine⟨fun i m ys σ' H'=>m=ds.length - i/\i<=ds.length/\∃Hf' ρ' o1 o2,Grow H1 Hf1 H' Hf'/\H' Dd=some (.lst ys)/\Hf' Dd=none/\Slots K (upd H1 Dd (.lst [])) ρ' σ' H' Hf'/\Reps K Hf' o1 ys/\o1.length<=i/\Z6 g c e (ds.drop i) ρ'=some o2/\o1++o2=out,
   ⟨ds.length,by simp,Nat.zero_le _,Hf1,ab3 n caps ρ,[],out,Grow.made g1.sub hD,A5,g1.sub.free hD,aE4 (sl.grow g1),rfl,Nat.le_refl _,by simpa using e2,rfl⟩,?_⟩
  rintro i m ys σ' H' ⟨rfl,hi,Hf',ρ',o1,o2,gr,hd1,hd2,sl',rp,ho,ec,eo⟩
  obtain⟨Ys,Yg⟩:=Y i H' Hf' gr.ext gr.sub
  rcases Nat.lt_or_ge i ds.length with hlt|hge
  ·right
   obtain⟨go,yl⟩:=Yg ds[i] (by simp[hlt])
   refine⟨go,fun x H2 hy=>?_⟩
   obtain⟨Hf2,g2,r2⟩:=yl x H2 hy
   rw[List.drop_eq_getElem_cons hlt]at ec
   obtain⟨ρ1,c1,ec⟩:=xbm ec
   obtain⟨b,c2,ec⟩:=xbm ec
   refine⟨ds[i],ρ',ρ1,_,Hf2,c1,g2.sub,sl'.grow g2,r2,fun σ3 sl3=>⟨ρ1,b,c2,_,Hf2,g2.sub,sl3,fun H4 Hf4 g4=>?_⟩⟩
   have gr4:=(gr.trans g2).trans g4
   have hd4:H4 Dd=some (.lst ys):=g4.big _ _ (g2.big _ _ hd1)
   have hf4:Hf4 Dd=none:=(g2.trans g4).nofr hd1 hd2
   have rp4:=rp.mono (g2.trans g4).ext
   cases b with
   | false =>
    rw[if_neg Bool.false_ne_true]at ec
    refine Y6 ?_
    exact⟨ds.length - (i+1),by grind,rfl,hlt,Hf4,ρ1,o1,o2,gr4,hd4,hf4,sl3.grow g4,rp4,by grind,ec,eo⟩
   | true =>
    rw[if_pos rfl]at ec
    refine Z8 ?_
    obtain⟨y,c3,ec⟩:=xbm ec
    obtain⟨o3,c4,rfl⟩:=Option.map_eq_some_iff.mp ec
    refine⟨ρ1,y,c3,_,Hf4,g4.sub,sl3.grow g4,fun v H5 Hf5 g5 r5=>⟨g5.big _ _ hd4,?_,?_⟩⟩
    ·rw[rp.length,sizeLine_eq];grind
    ·have hf5:Hf5 Dd=none:=g5.nofr hd4 hf4
     have gr5:=gr4.trans g5
     refine⟨ds.length - (i+1),by grind,rfl,hlt,Hf5,ρ1,o1++[y],o3,⟨fun b u q=>?_,fun b u q=>?_,gr5.ext,gr5.new⟩,A5,hf5,?_,(rp4.mono g5.ext).append ⟨v,[],rfl,r5,rfl⟩,by simp;grind,c4,by simp[← eo]⟩
     ·rw[A6 (A8 q hD)];exact gr5.big b u q
     ·rw[A6 (A8 q hf5)];exact gr5.sub b u q
     ·have sl5:=(sl3.grow g4).grow g5
      refine⟨sl5.len,fun j bb q=>?_,sl5.apart⟩
      obtain⟨w,q1,q2⟩:=sl5.is j bb q
      refine⟨w,q1,?_⟩
      cases bb with
      | val d=>exact q2
      | exc C=>exact q2
      | opq _=>exact q2
      | own dd =>
       obtain⟨a,vs,z1,z2,z3,z4,z5⟩:=q2
       have ne:a≠Dd:=fun z=>by rw[z,A5]at z4;cases z4
       exact⟨a,vs,z1,by rw[A6 ne];exact z2,z3,z4,z5⟩
  ·left
   have:i=ds.length:=by grind
   subst this
   rw[List.drop_length]at ec
   cases ec
   rw[List.append_nil]at eo
   subst eo
   exact⟨Ys (Nat.le_refl _),k _ H' Hf' (g1.trans gr) ⟨Dd,ys,rfl,g1.big.free hD,hd1,hd2,rp⟩⟩
 ·cases e2
end
end G
namespace G
open PySem PySem.Spec PyProof.Rows L2
section
variable {X:Cx}
noncomputable def af4(N N':List Str) (n:Nat) (caps:List Nat) (sc scope:Scope):Bool :=
 (match scope.kind with | .function=>true|_=>false) &&
 (scope.names.all fun y=>(match y.2 with | .cell=>false | .local=>scope.names.lookup y.1==some .local | .free=>sc.names.lookup y.1==some .cell || sc.names.lookup y.1==some .free|_=>true)) &&
 (N'.length==n+caps.length) &&
 ((List.range caps.length).all fun i=>match caps[i]? with
  | some j=>(match N[j]? with|some x=>N'[n+i]? == some x&&scope.names.lookup x==some .free|none=>false)
  | none=>true)
theorem aU5(h:af4 N N' n caps sc scope=true) (hN:X.N=N) (hS:X.env.scope=sc):CompSc X N' n caps scope:=by
 subst hN hS
 unfold af4 at h
 simp only[Bool.and_eq_true,List.all_eq_true]at h
 obtain⟨⟨⟨h1,h2⟩,h3⟩,h4⟩:=h
 refine⟨?_,fun y hy e=>?_,fun y hy e=>?_,fun y hy e=>?_,by simpa using h3,fun i j e=>?_⟩
 ·cases q:scope.kind<;>rw[q]at h1<;>first|rfl|cases h1
 ·have:=h2 y hy
  rw[e]at this;cases this
 ·have:=h2 y hy
  rw[e]at this;simpa using this
 ·have:=h2 y hy
  rw[e]at this;simpa using this
 ·have hi:i < caps.length:=(List.getElem?_eq_some_iff.mp e).1
  have:=h4 i (by simpa using hi)
  rw[e]at this
  simp only at this
  cases q:X.N[j]? with
  | none=>rw[q]at this;cases this
  | some x =>
   rw[q]at this
   simp only[Bool.and_eq_true]at this
   exact⟨x,rfl,by simpa using this.1,by simpa using this.2⟩
theorem aM7(S:CompSc X N' n caps scope) (I:Inv X pins σ H s):closureFor scope X.env=pure (P7 X.env.cells scope.names []) :=
 bA1 fun y hy e=>I.ok.has y.1 (S.free y hy e)
theorem bw2(S:CompSc X N' n caps scope) (hx:∀e s,X.xe e s->False)
  (hi:JI X tgt iter src) (hg:∀C s0 H0 ex,JG (D9 X N' scope C s0 H0 ex) tgt g) (ht:∀C s0 H0 ex,JTs (D9 X N' scope C s0 H0 ex) ifs c) (he:∀C s0 H0 ex,JE (D9 X N' scope C s0 H0 ex) elt e)
  (hc:X.calm=true:=by rfl) (hs:∀x,foldedSetIterable iter X.env x=pure x:=by intro _;rfl):JN X (.ListComp elt [⟨tgt,iter,ifs,0⟩] scope pos) (P9 n caps src g c e):=by
 intro ρ out h
 obtain⟨ds,e1,k⟩:=l5 (K:=X.K) h
 intro pins s σ H Q I t
 rw[eval_ListComp]
 refine wpAny_comprehension_free (use:=none) rfl hs (aM7 S I) S.kind S.loc (az0 (RR:=fun acc C=>compPost (model X.prog X.w) X.A X.xe none (EP X pins σ Q) acc C) S hx hc (hi ρ ds e1) (g:=tgJ X.K g) (tc:=ak3 X.K c) (te:=aG4 X.K e) hg ht (fun C s0 H0 ex pins s σ H Q I ⟨ρ,d,e,t⟩=>he C s0 H0 ex ρ d e pins s σ H Q I t) I (k σ H Q t) ?_)
 intro Dd C r s' hr ⟨m,hn,kk⟩ _
 subst hr
 exact⟨m,hn,fun h' sb=>let⟨H',I',q⟩:=kk h' sb;⟨.ref Dd,H',I',rfl,q⟩⟩
theorem ag9(S:CompSc X N' n caps scope) (hx:∀e s,X.xe e s->False) (hc:X.calm=true)
  (hN:X.N.Nodup) (hi:X.N[i]? = some x) (hl:X.env.scope.names.lookup x=some .local) (hsrc:PI X tgt iter wi) (hg:∀C s0 H0 ex,PG (D9 X N' scope C s0 H0 ex) tgt g) (ht:∀C s0 H0 ex,PTs (D9 X N' scope C s0 H0 ex) ifs tc) (he:∀C s0 H0 ex,PE (D9 X N' scope C s0 H0 ex) elt te)
  (hsw:swapsWith (.ListComp elt [⟨tgt,iter,ifs,0⟩] scope pos) (some (.Name x pos')) spos.line X.env=pure true) (hs:∀x,foldedSetIterable iter X.env x=pure x) :
  PS X (.Assign [.Name x pos'] (.ListComp elt [⟨tgt,iter,ifs,0⟩] scope pos) spos) (fun En σ H=>aX2 n caps wi g tc te σ H fun v H'=>En.nx (σ.set i (some v)) H'):=by
 intro pins s σ H En I h
 rw[exec_Assign_Name_used _ _ _ _ hsw]
 refine wpAny_bind (wpAny_standAt (wpAny_bind ?_))
 show wpAny _ X.A (do let _ ← comprehension (.ListComp elt [⟨tgt,iter,ifs,0⟩] scope pos) scope X.env _ (newList []) false (eval iter X.env) (some (assign (.Name x pos') X.env))) _ _ s
 refine wpAny_bind (wpAny_mono (wpAny_comprehension_free (use:=some (assign (.Name x pos') X.env)) (Q:=fun _ s'=>SP X pins En .next s') rfl hs (aM7 S I) S.kind S.loc
  (az0 (RR:=fun acc C=>compPost (model X.prog X.w) X.A X.xe (some (assign (.Name x pos') X.env)) (fun _ s'=>SP X pins En .next s') acc C) S hx hc hsrc hg ht he I h ?_)) (fun _ s' hq=>wpAny_pure (wpAny_pure hq)) fun _ _ z=>z)
 intro Dd C r s' hr _ ⟨s2,fp,σ',H2,H',eC,I2,f2,I',q⟩
 subst hr eC
 have IX:Inv X pins σ H' s':=am0 (h':=s'.heap) I2 f2 I' (Heap.SameBut.refl ..)
 obtain⟨mC,hnC,_⟩:=I'.loc
 have hCL:s2.heap.objs.size≠X.env.locals:=fun z=>by
  have:=I2.lt
  rw[← z]at this
  exact Nat.lt_irrefl _ this
 show wpAny _ X.A (assign (.Name x pos') X.env (.ref Dd)) _ _ _
 refine wpAny_assign_Name (ak5 (v:=.ref Dd) IX hN hi (.inl hl) rfl (fun s3 I3 ⟨a,sb,ha⟩=>?_) (.inr hl))
 have hCa:s2.heap.objs.size≠a:=fun z=>by
  rcases ha with ha|ha
  ·exact hCL (z.trans ha)
  ·obtain⟨v,q'⟩:=I2.cell x a ha
   have:=q'.lt
   rw[← z]at this
   exact Nat.lt_irrefl _ this
 refine⟨mC,hnC.sameBut sb hCa,fun h' sb'=>?_⟩
 refine⟨_,H',I3.turned (t':=s3.toks) (it:=s2.heap.objs.size) (fun b o hb e=>sb'.extBut b o hb e) I'.free hCL (.inr I2.sz) (fun y c e z=>?_) (fun p hp z=>?_),q⟩
 ·obtain⟨v,q'⟩:=I2.cell y c e
  have:=q'.lt
  rw[z]at this
  exact Nat.lt_irrefl _ this
 ·have:=Heap.lt_size (I2.pin p hp).1
  rw[z]at this
  exact Nat.lt_irrefl _ this
noncomputable def r8(i:Nat) (f:Rho->Option (List D)):DS:=fun ρ=>(f ρ).map fun ds=>.nx (ρ.set i (some (.val (.list ds))))
theorem bv8(i:Nat) (hN:X.N.Nodup) (S:CompSc X N' n caps scope) (hx:∀e s,X.xe e s->False)
  (hi:JI X tgt iter src) (hg:∀C s0 H0 ex,JG (D9 X N' scope C s0 H0 ex) tgt g) (ht:∀C s0 H0 ex,JTs (D9 X N' scope C s0 H0 ex) ifs c) (he:∀C s0 H0 ex,JE (D9 X N' scope C s0 H0 ex) elt e)
  (hi2:X.N[i]? = some x:=by rfl) (hl:X.env.scope.names.lookup x=some .local:=by rfl) (hsw:swapsWith (.ListComp elt [⟨tgt,iter,ifs,0⟩] scope pos) (some (.Name x pos')) spos.line X.env=pure true:=by rfl)
  (hc:X.calm=true:=by rfl) (hs:∀x,foldedSetIterable iter X.env x=pure x:=by intro _;rfl):JS X (.Assign [.Name x pos'] (.ListComp elt [⟨tgt,iter,ifs,0⟩] scope pos) spos) (r8 i (P9 n caps src g c e)):=fun ρ fl q H0 Hf0=>by
 obtain⟨out,e1,e2⟩:=Option.map_eq_some_iff.mp q
 subst e2
 obtain⟨ds,e3,k⟩:=l5 (K:=X.K) e1
 refine C7 (ag9 S hx hc hN hi2 hl (hi ρ ds e3) (g:=tgJ X.K g) (tc:=ak3 X.K c) (te:=aG4 X.K e) hg ht (fun C s0 H0 ex pins s σ H Q I ⟨ρ,d,e,t⟩=>he C s0 H0 ex ρ d e pins s σ H Q I t) hsw hs) fun En σ H ⟨Hf,a,ee⟩=>k σ H _ ⟨H0,Hf,a.gr.sub,a.sl,fun v H' Hf' gg ⟨p,vs,z1,z2,z3,z4,z5⟩=>?_⟩
 subst z1
 have g2:=gg.freeze z3 z4 z2
 exact ee _ H' _ ⟨a.gr.trans g2,(a.sl.grow g2).set ⟨p,vs,rfl,SqL.of A5,z5.mono (C3 z4)⟩⟩ g2.ext
theorem bQ2{kt k2 pt2} (hN:X.N.Nodup) (ha:JA X [a,b] f) (hw:swappedStores [.Tuple [.Name x px,.Name y py] kt pt] (.Tuple [a,b] k2 pt2) X.env=pure (some [x,y])) (hij:i≠j)
  (hi:X.N[i]? = some x:=by rfl) (hj:X.N[j]? = some y:=by rfl) (hx:X.env.scope.names.lookup x=some .local:=by rfl) (hy:X.env.scope.names.lookup y=some .local:=by rfl) (hc:X.calm=true:=by rfl)
  (hs:swapsWithSole [.Tuple [.Name x px,.Name y py] kt pt] (.Tuple [a,b] k2 pt2) pos.line X.env=pure false:=by rfl):JS X (.Assign [.Tuple [.Name x px,.Name y py] kt pt] (.Tuple [a,b] k2 pt2) pos) (aZ4 i j f):=fun ρ fl q H0 Hf0=>by
 obtain⟨ds,e1,e2⟩:=xbm q
 split at e2
 ·cases e2
  refine C7 (ba3 hc hN hi hj hij hx hy (fun pos pins s σ H Q I t=>ha.run ρ _ e1 pos pins s σ H Q I t) hw hs) fun En σ H ⟨Hf,at',e⟩=>⟨H0,Hf,at'.gr.sub,at'.sl,fun vs H' Hf' gg rp=>?_⟩
  obtain⟨v,r,rfl,r1,w,r',rfl,r2,r3⟩:=rp
  cases r3
  exact⟨v,w,rfl,e _ H' Hf' ⟨at'.gr.trans gg,((at'.sl.grow gg).set r1).set r2⟩ gg.ext⟩
 ·cases e2
noncomputable def bq0(f:DE) (g:D->Rho->Option Rho):DS:=fun ρ=>(f ρ).bind fun d=>(g d ρ).map Fl.nx
theorem bg1(he:JE X e f) (hg:JG X tg g) (hs:swapsWithSole [tg] e pos.line X.env=pure false:=by rfl) (hw:swappedStores [tg] e X.env=pure none:=by rfl)
  (h1:(assignEach [tg] X.env).map (·.2)=[assign tg X.env]:=by rfl):JS X (.Assign [tg] e pos) (bq0 f g):=fun ρ fl q H0 Hf0=>by
 obtain⟨d,e1,e2⟩:=xbm q
 obtain⟨ρ',e3,e4⟩:=Option.map_eq_some_iff.mp e2
 subst e4
 exact C7 (bK4 (he ρ d e1) hg hs hw h1) fun En σ H ⟨Hf,a,ee⟩=>⟨H0,Hf,a.gr.sub,a.sl,fun v H' Hf' gg r=>⟨d,ρ,ρ',H0,Hf',e3,gg.sub,a.sl.grow gg,r,fun σ' sl'=>ee σ' H' Hf' ⟨a.gr.trans gg,sl'⟩ gg.ext⟩⟩
noncomputable def aZ5(i:Nat) (f:Rho->Option (List D)):DS:=fun ρ=>(f ρ).map fun ds=>.nx (ρ.set i (some (.own ds)))
theorem Slots.setOwn{K:PySem.W.Frag}{H0 H H' Hf Hf':Hp}{ρ:Rho}{σ:L2.St}{i:Nat}{ds:List D}{a:Addr}{vs:List V}(s:Slots K H0 ρ σ H Hf) (g:Grow H Hf H' Hf') (n0:H0 a=none) (n:H a=none) (h:H' a=some (.lst vs)) (nf:Hf' a=none) (r:Reps K Hf' ds vs) :
  Slots K H0 (ρ.set i (some (.own ds))) (σ.set i (some (.ref a))) H' Hf':=by
 have s':=s.grow g
 have old:∀(j:Nat) (es:List D),i≠j->ρ[j]? = some (some (.own es))->σ[j]?≠some (some (.ref a)):=fun j es hj e z=>by
  obtain⟨v,h1,b,us,e1,h2,_⟩:=s.is j _ e
  rw[z]at h1;cases h1;cases e1
  rw[n]at h2;cases h2
 refine⟨by simp[s.len],fun j b e=>?_,fun j k ds1 es b h1 h2 h3 h4=>?_⟩
 ·by_cases q:i=j
  ·subst q
   have hi:i < ρ.length:=by simpa using (List.getElem?_eq_some_iff.mp e).1
   have hi':i < σ.length:=by rw[← s.len];exact hi
   rw[List.getElem?_set_self hi]at e
   cases e
   exact⟨_,List.getElem?_set_self hi',a,vs,rfl,h,nf,n0,r⟩
  ·rw[List.getElem?_set_ne q]at e
   obtain⟨u,h1,h2⟩:=s'.is j b e
   exact⟨u,by rw[List.getElem?_set_ne q];exact h1,h2⟩
 ·by_cases qj:i=j
  ·by_cases qk:i=k
   ·rw[← qj,← qk]
   ·subst qj
    have hi:i < ρ.length:=by simpa using (List.getElem?_eq_some_iff.mp h1).1
    rw[List.getElem?_set_self (by rw[← s.len];exact hi)]at h3
    rw[List.getElem?_set_ne qk]at h2 h4
    cases h3
    exact(old k es qk h2 h4).elim
  ·rw[List.getElem?_set_ne qj]at h1 h3
   by_cases qk:i=k
   ·subst qk
    have hi:i < ρ.length:=by simpa using (List.getElem?_eq_some_iff.mp h2).1
    rw[List.getElem?_set_self (by rw[← s.len];exact hi)]at h4
    cases h4
    exact(old j ds1 qj h1 h3).elim
   ·rw[List.getElem?_set_ne qk]at h2 h4
    exact s.apart j k ds1 es b h1 h2 h3 h4
theorem bQ3(i:Nat) (hN:X.N.Nodup) (h:JN X e f) (hi:X.N[i]? = some x:=by rfl) (hx:Loc X.env.scope x:=by first|exact Or.inl rfl|exact Or.inr rfl)
  (hs:swapsWith e (some (.Name x pos')) pos.line X.env=pure false:=by rfl) (hf:X.fn x=true\/X.env.scope.names.lookup x=some .local:=by first|exact .inl rfl|exact .inr rfl):JS X (.Assign [.Name x pos'] e pos) (aZ5 i f):=fun ρ fl q H0 Hf0=>by
 obtain⟨ds,e1,e2⟩:=Option.map_eq_some_iff.mp q
 subst e2
 refine C7 (ag7 hN hi hx (h ρ ds e1) hs hf) fun En σ H ⟨Hf,a,e⟩=>⟨H0,Hf,a.gr.sub,a.sl,fun v H' Hf' g ⟨p,vs,z1,z2,z3,z4,z5⟩=>?_⟩
 subst z1
 exact e _ H' Hf' ⟨a.gr.trans g,a.sl.setOwn g (a.gr.big.free z2) z2 z3 z4 z5⟩ g.ext
noncomputable def bJ6(i:Nat) (f:DE):DS:=fun ρ=>match ρ[i]? with
 | some (some (.own ds))=>if ds.length < 16777216 then(f ρ).map fun d=>.nx (ρ.set i (some (.own (ds++[d])))) else none
 | _=>none
theorem bQ8(i:Nat) (h:JE X e f) (hN:X.N[i]? = some x:=by rfl) (hv:Vis X.env.scope x:=by first|exact Or.inl rfl|exact Or.inr (Or.inl rfl)|exact Or.inr (Or.inr rfl)) (hd:(x==("__debug__" : Str))=false:=by decide)
  (hcd:(x==("__classdict__" : Str))=false:=by decide) (hbase:attributeBase (.Name x p) "append" X.env (eval (.Name x p) X.env)=eval (.Name x p) X.env:=by rfl)
  (hfew:((backTo cpos (starEach [e] X.env)).all (fun x=>!x.1)&&(backToKw cpos (keywordEach [] X.env)).all (fun x=>x.1.isSome)
   && decide (([e]:List Expr).length+([]:List Keyword).length+(if([]:List Keyword).isEmpty then 0 else 1) < 30))=true:=by rfl)
  (hline:(apos.endLine==cpos.line)=true:=by rfl) (hs:starEach [e] X.env=[(false,eval e X.env)]:=by rfl) (hsw:swapsWith (.Call (.Attribute (.Name x p) "append" apos) [e] [] cpos) none pos.line X.env=pure false:=by rfl) :
  JS X (.Expr (.Call (.Attribute (.Name x p) "append" apos) [e] [] cpos) pos) (bJ6 i f):=fun ρ fl q H0 Hf0=>by
 unfold bJ6 at q
 split at q
 ·rename_i ds eo
  split at q
  ·rename_i hz
   obtain⟨d,e1,e2⟩:=Option.map_eq_some_iff.mp q
   subst e2
   refine C7 (V3 (al0 PySem.F.plainAttrs_list PySem.F.slot_list_append PySem.F.type_list_append f9 (Q9 hN hv hd hcd) (B2 (h ρ d e1) C6 hs) hbase hfew hline hs) hsw) fun En σ H ⟨Hf,a,ee⟩=>?_
   obtain⟨v,h1,b,vs,rfl,h2,h3,h4,h5⟩:=a.sl.is i _ eo
   refine⟨_,h1,.inl ⟨rfl,vs,SqL.of h2⟩,H0,Hf,a.gr.sub,a.sl,fun w H' Hf' gg r=>?_⟩
   have hb:H' b=some (.lst vs):=gg.big _ _ h2
   have hfb:Hf' b=none:=gg.nofr h2 h3
   have g2:=a.gr.trans gg
   have sl2:=a.sl.grow gg
   refine⟨b,vs,w,rfl,rfl,hb,by rw[h5.length,sizeLine_eq];exact hz,ee _ _ Hf' ⟨⟨fun c u z=>?_,fun c u z=>?_,g2.ext,g2.new⟩,?_⟩ gg.ext⟩
   ·rw[A6 (A8 z h4)];exact g2.big c u z
   ·rw[A6 (A8 z hfb)];exact g2.sub c u z
   ·refine⟨by simpa using sl2.len,fun j bb z=>?_,fun j k ds1 es c q1 q2 q3 q4=>?_⟩
    ·by_cases qj:i=j
     ·subst qj
      have hi:i < ρ.length:=(List.getElem?_eq_some_iff.mp eo).1
      rw[List.getElem?_set_self hi]at z
      cases z
      exact⟨_,h1,b,vs++[w],rfl,A5,hfb,h4,(h5.mono gg.ext).append ⟨w,[],rfl,r,rfl⟩⟩
     ·rw[List.getElem?_set_ne qj]at z
      obtain⟨u,z1,z2⟩:=sl2.is j bb z
      refine⟨u,z1,?_⟩
      cases bb with
      | val d=>exact z2
      | exc C=>exact z2
      | opq _=>exact z2
      | own dd =>
       obtain⟨a',vs',y1,y2,y3,y4,y5⟩:=z2
       have ne:a'≠b:=fun zz=>by
        subst zz y1
        exact qj (a.sl.apart i j ds dd a' eo z h1 z1)
       exact⟨a',vs',y1,by rw[A6 ne];exact y2,y3,y4,y5⟩
    ·have q1':∃dd,ρ[j]? = some (some (.own dd)):=by
      by_cases qj:i=j
      ·subst qj;exact⟨ds,eo⟩
      ·rw[List.getElem?_set_ne qj]at q1;exact⟨_,q1⟩
     have q2':∃dd,ρ[k]? = some (some (.own dd)):=by
      by_cases qj:i=k
      ·subst qj;exact⟨ds,eo⟩
      ·rw[List.getElem?_set_ne qj]at q2;exact⟨_,q2⟩
     obtain⟨d1,q1'⟩:=q1'
     obtain⟨d2,q2'⟩:=q2'
     exact a.sl.apart j k d1 d2 c q1' q2' q3 q4
  ·cases q
 ·cases q
noncomputable def frz(i:Nat) (ρ:Rho):Rho:=match ρ[i]? with
 | some (some (.own ds))=>ρ.set i (some (.val (.list ds)))
 | _=>ρ
theorem bT7{K:PySem.W.Frag}{H0 Hf0 H Hf:Hp}{ρ:Rho}{σ:L2.St}(i:Nat) (a:At K H0 Hf0 ρ σ H Hf):∃Hf',B6 Hf Hf'/\At K H0 Hf0 (frz i ρ) σ H Hf':=by
 unfold frz
 split
 ·rename_i ds eo
  obtain⟨v,h1,b,vs,rfl,h2,h3,h4,h5⟩:=a.sl.is i _ eo
  have g:Grow H0 Hf0 H (upd Hf b (.lst vs)):=a.gr.freeze h2 h3 h4
  refine⟨upd Hf b (.lst vs),C3 h3,g,⟨by simpa using a.sl.len,fun j bb z=>?_,fun j k ds1 es c q1 q2 q3 q4=>?_⟩⟩
  ·have hi:i < ρ.length:=(List.getElem?_eq_some_iff.mp eo).1
   by_cases qj:i=j
   ·subst qj
    rw[List.getElem?_set_self hi]at z
    cases z
    exact⟨_,h1,b,vs,rfl,SqL.of A5,h5.mono (C3 h3)⟩
   ·rw[List.getElem?_set_ne qj]at z
    obtain⟨u,z1,z2⟩:=a.sl.is j bb z
    refine⟨u,z1,?_⟩
    cases bb with
    | val d=>exact Rep.mono (C3 h3) z2
    | opq _=>exact z2
    | exc C =>
     obtain⟨a',o',C',y1,y2,y3⟩:=z2
     exact⟨a',o',C',y1,C3 h3 _ _ y2,y3⟩
    | own dd =>
     obtain⟨a',vs',y1,y2,y3,y4,y5⟩:=z2
     have ne:a'≠b:=fun zz=>by
      subst zz y1
      exact qj (a.sl.apart i j ds dd a' eo z h1 z1)
     exact⟨a',vs',y1,y2,by rw[A6 ne];exact y3,y4,y5.mono (C3 h3)⟩
  ·have hi:i < ρ.length:=(List.getElem?_eq_some_iff.mp eo).1
   have qj:i≠j:=fun z=>by subst z;rw[List.getElem?_set_self hi]at q1;cases q1
   have qk:i≠k:=fun z=>by subst z;rw[List.getElem?_set_self hi]at q2;cases q2
   rw[List.getElem?_set_ne qj]at q1
   rw[List.getElem?_set_ne qk]at q2
   exact a.sl.apart j k ds1 es c q1 q2 q3 q4
 ·exact⟨Hf,B6.refl _,a⟩
noncomputable def bJ4(i:Nat) (f:DS):DS:=fun ρ=>f (frz i ρ)
theorem bQ4(i:Nat) {st:Stmt}{f:DS}(h:JS X st f):JS X st (bJ4 i f):=fun ρ fl q H0 Hf0=>C7 (h (frz i ρ) fl q H0 Hf0) fun En σ H ⟨Hf,a,e⟩=>by
 obtain⟨Hf',s,a'⟩:=bT7 i a
 exact⟨Hf',a',Fl.ends_mono e s⟩
noncomputable def bZ3(K:PySem.W.Frag) (H0 Hf0:Hp) (f:DS):TS:=fun En σ H=>∃ρ fl,f ρ=some fl/\tJS K H0 Hf0 ρ fl En σ H
theorem aJ1(h:JSs X sts f):PSs X sts (bZ3 X.K H0 Hf0 f):=fun pins s σ H En I ⟨ρ,fl,e,t⟩=>h ρ fl e H0 Hf0 pins s σ H En I t
theorem bK2(h:JT X e c):PT X e (ak3 X.K c):=fun pins s σ H Q I ⟨ρ,b,e,t⟩=>h ρ b e pins s σ H Q I t
noncomputable def T2(t:Rho->Option Bool) (f:DS):Nat->DS
 | 0=>fun _=>none
 | n+1=>fun ρ=>(t ρ).bind fun c=>if c then(f ρ).bind fun fl=>match fl with
   | .nx ρ'=>T2 t f n ρ'
   | .ct ρ'=>T2 t f n ρ'
   | .bk ρ'=>some (.nx ρ')
   | .rt d=>some (.rt d)
  else some (.nx ρ)
theorem k9:∀{n:Nat}{ρ:Rho}{fl:Fl},T2 t f n ρ=some fl->T2 t f (n+1) ρ=some fl
 | 0,_,_,h=>by cases h
 | n+1,ρ,fl,h=>by
  obtain⟨c,e1,h⟩:=xbm h
  show(t ρ).bind _=_
  rw[e1]
  cases c with
  | false=>exact h
  | true =>
   obtain⟨fl1,e2,h⟩:=xbm h
   show(f ρ).bind _=_
   rw[e2]
   cases fl1 with
   | nx ρ'=>exact k9 (n:=n) h
   | ct ρ'=>exact k9 (n:=n) h
   | bk ρ'=>exact h
   | rt d=>exact h
theorem ax4(h:T2 t f n ρ=some fl) (l:n<=m):T2 t f m ρ=some fl:=by
 induction l with
 | refl=>exact h
 | step _ ih=>exact k9 ih
open Classical in
noncomputable def X9(t:Rho->Option Bool) (f:DS):DS:=fun ρ=>if h:∃fl n,T2 t f n ρ=some fl then some h.choose else none
theorem ak7(h:T2 t f n ρ=some fl):X9 t f ρ=some fl:=by
 have hx:∃fl n,T2 t f n ρ=some fl:=⟨fl,n,h⟩
 unfold X9
 rw[dif_pos hx]
 obtain⟨m,hm⟩:=hx.choose_spec
 have h1:=ax4 h (Nat.le_max_left n m)
 have h2:=ax4 hm (Nat.le_max_right n m)
 rw[h1]at h2
 exact h2.symm
theorem aQ5(h:X9 t f ρ=some fl):∃n,T2 t f n ρ=some fl:=by
 unfold X9 at h
 split at h
 ·rename_i hx
  cases h
  exact hx.choose_spec
 ·cases h
theorem bf9(hc:JT X c t) (hb:JSs X body f) (hp:PassesOwn (model X.prog X.w) X.A X.env X.xe:=by exact PassesOwn.never):JS X (.While c body [] pos) (X9 t f):=fun ρ fl q H0 Hf0=>by
 obtain⟨n,hn⟩:=aQ5 q
 refine C7 (ba2 hp (bK2 hc) (aJ1 (H0:=H0) (Hf0:=Hf0) hb)) fun En σ H ⟨Hf,a,e⟩=>?_
 refine⟨fun m σ H=>∃Hf' ρ',At X.K H0 Hf0 ρ' σ H Hf'/\B6 Hf Hf'/\T2 t f m ρ'=some fl,⟨n,Hf,ρ,a,B6.refl _,hn⟩,?_⟩
 rintro m σ' H' ⟨Hf',ρ',a',s',hm⟩
 cases m with
 | zero=>cases hm
 | succ m =>
  obtain⟨b,e1,hm⟩:=xbm hm
  refine⟨ρ',b,e1,H0,Hf',a'.gr.sub,a'.sl,fun H2 Hf2 g2=>?_⟩
  have a2:=a'.grow g2
  have s2:=s'.trans g2.ext
  cases b with
  | false =>
   have:fl=.nx ρ':=by simpa using hm.symm
   subst this
   exact Y6 (e σ' H2 Hf2 a2 s2)
  | true =>
   obtain⟨fl1,e2,hm⟩:=xbm (show(f ρ').bind _=some fl from hm)
   refine Z8 ⟨fun σ3 H3=>∃m',m' < m+1/\∃Hf' ρ',At X.K H0 Hf0 ρ' σ3 H3 Hf'/\B6 Hf Hf'/\T2 t f m' ρ'=some fl,fun σ3 H3 z=>z,ρ',fl1,e2,Hf2,a2,?_⟩
   cases fl1 with
   | nx ρ3=>exact fun σ3 H3 Hf3 a3 s3=>⟨m,Nat.lt_succ_self _,Hf3,ρ3,a3,s2.trans s3,hm⟩
   | ct ρ3=>exact fun σ3 H3 Hf3 a3 s3=>⟨m,Nat.lt_succ_self _,Hf3,ρ3,a3,s2.trans s3,hm⟩
   | bk ρ3 =>
    cases hm
    exact fun σ3 H3 Hf3 a3 s3=>e σ3 H3 Hf3 a3 (s2.trans s3)
   | rt d =>
    cases hm
    exact e
noncomputable def bj0(g:D->Rho->Option Rho) (f:DS):List D->DS
 | []=>fun ρ=>some (.nx ρ)
 | d::ds=>fun ρ=>(g d ρ).bind fun ρ1=>(f ρ1).bind fun fl=>match fl with
   | .nx ρ'=>bj0 g f ds ρ'
   | .ct ρ'=>bj0 g f ds ρ'
   | .bk ρ'=>some (.nx ρ')
   | .rt d=>some (.rt d)
noncomputable def ca9(src:Rho->Option (List D)) (g:D->Rho->Option Rho) (f:DS):DS:=fun ρ=>(src ρ).bind fun ds=>bj0 g f ds ρ
theorem bQ5(hi:JI X tg iter src) (hg:JG X tg g) (hb:JSs X body f) (hp:PassesOwn (model X.prog X.w) X.A X.env X.xe:=by exact PassesOwn.never) (hc:X.calm=true:=by rfl)
  (hs:∀x,foldedSetIterable iter X.env x=pure x:=by intro _;rfl):JS X (.For tg iter body [] pos) (ca9 src g f):=fun ρ fl q H0 Hf0=>by
 obtain⟨ds,e1,e2⟩:=xbm q
 refine C7 (ba4 hp hc (hi ρ ds e1) hg (aJ1 (H0:=H0) (Hf0:=Hf0) hb) hs) fun En σ H ⟨Hf,a,e⟩=>⟨H0,Hf,a.gr.sub,a.sl,fun J H1 Hf1 g1 Y=>?_⟩
 refine⟨fun i m σ H=>m=ds.length - i/\i<=ds.length/\∃Hf' ρ',At X.K H0 Hf0 ρ' σ H Hf'/\B6 Hf1 Hf'/\bj0 g f (ds.drop i) ρ'=some fl,⟨ds.length,by simp,Nat.zero_le _,Hf1,ρ,a.grow g1,B6.refl _,by simpa using e2⟩,?_⟩
 rintro i m σ' H' ⟨rfl,hi,Hf',ρ',a',s',hm⟩
 obtain⟨Ys,Yg⟩:=Y i H' Hf' s' a'.gr.sub
 rcases Nat.lt_or_ge i ds.length with hlt|hge
 ·right
  obtain⟨go,yl⟩:=Yg ds[i] (by simp[hlt])
  rw[List.drop_eq_getElem_cons hlt]at hm
  obtain⟨ρ1,c1,hm⟩:=xbm hm
  obtain⟨fl1,c2,hm⟩:=xbm hm
  refine⟨go,fun σ3 H3=>∃m',m' < ds.length - i/\m'=ds.length - (i+1)/\i+1<=ds.length/\∃Hf' ρ',At X.K H0 Hf0 ρ' σ3 H3 Hf'/\B6 Hf1 Hf'/\bj0 g f (ds.drop (i+1)) ρ'=some fl,fun σ3 H3 ⟨m',z1,z2⟩=>⟨m',z1,z2⟩,fun x H2 hy=>?_⟩
  obtain⟨Hf2,g2,r2⟩:=yl x H2 hy
  have a2:=a'.grow g2
  refine⟨ds[i],ρ',ρ1,H0,Hf2,c1,g2.sub,a2.sl,r2,fun σ3 sl3=>⟨ρ1,fl1,c2,Hf2,⟨a2.gr,sl3⟩,?_⟩⟩
  have s2:=s'.trans g2.ext
  cases fl1 with
  | nx ρ3=>exact fun σ3 H3 Hf3 a3 s3=>⟨_,by omega,rfl,hlt,Hf3,ρ3,a3,s2.trans s3,hm⟩
  | ct ρ3=>exact fun σ3 H3 Hf3 a3 s3=>⟨_,by omega,rfl,hlt,Hf3,ρ3,a3,s2.trans s3,hm⟩
  | bk ρ3 =>
   cases hm
   exact fun σ3 H3 Hf3 a3 s3=>e σ3 H3 Hf3 a3 (g1.ext.trans (s2.trans s3))
  | rt d =>
   cases hm
   exact e
 ·left
  have:i=ds.length:=by omega
  subst this
  rw[List.drop_length]at hm
  cases hm
  exact⟨Ys (Nat.le_refl _),e σ' H' Hf' a' (g1.ext.trans s')⟩
theorem bv5:JS X (.Pass pos) j4:=fun ρ fl q H0 Hf0=>by
 cases q
 exact C7 br3 fun En σ H ⟨Hf,a,e⟩=>e σ H Hf a (B6.refl _)
theorem bQ7:JS X (.Break pos) (fun ρ=>some (.bk ρ)):=fun ρ fl q H0 Hf0=>by
 cases q
 exact C7 ba5 fun En σ H ⟨Hf,a,e⟩=>e σ H Hf a (B6.refl _)
end
noncomputable def N7(n:Nat) (ds:List D):Rho:=ds.map (fun d=>some (B.val d))++List.replicate (n - ds.length) none
noncomputable def T0(g:DS) (n:Nat):List D->Option D:=fun ds=>(g (N7 n ds)).bind fun fl=>match fl with
 | .rt d=>some d
 | .nx _=>some .none
 | _=>none
theorem a8{K:PySem.W.Frag}{H0 H Hf:Hp}{N:List Str}{ds:List D}{vs:List V}(r:Reps K Hf ds vs):Slots K H0 (N7 N.length ds) (L2.start N vs) H Hf:=by
 have hl:=r.length
 have noown:∀(i:Nat) (b:B),(N7 N.length ds)[i]? = some (some b)->∃d,ds[i]? = some d/\b=.val d:=fun i b h=>by
  unfold N7 at h
  rcases Nat.lt_or_ge i ds.length with q|q
  ·rw[List.getElem?_append_left (by simpa using q),List.getElem?_map]at h
   rw[List.getElem?_eq_getElem q]at h ⊢
   simp only[Option.map_some,Option.some.injEq]at h
   exact⟨ds[i],rfl,h.symm⟩
  ·rw[List.getElem?_append_right (by simpa using q),List.getElem?_replicate]at h
   split at h<;>cases h
 refine⟨by simp[N7,L2.start,hl],fun i b e=>?_,fun i j d1 d2 a e1 _ _ _=>?_⟩
 ·obtain⟨d,h1,h2⟩:=noown i b e
  subst h2
  obtain⟨v,h3,h4⟩:=r.get h1
  refine⟨v,?_,h4⟩
  have hi:i < vs.length:=(List.getElem?_eq_some_iff.mp h3).1
  unfold L2.start
  rw[List.getElem?_append_left (by simpa using hi),List.getElem?_map,h3];rfl
 ·obtain⟨d,_,h2⟩:=noown i _ e1
  cases h2
theorem by8{P:Program}{w:World}{K:PySem.W.Frag}{mg:Str->Option Value}{base:Heap}{x qual:Str}{st:Stmt}{f:Addr}{fd:FuncData}{N ps:List Str}{k:Nat}{g:DS}(F:Fun K x qual st f fd) (S:FnScope N ps (B8 st))
  (hb:∀(cdv:Value) (A:Around) (outer:List Env) (s:Shared) (H:Hp) (E:XK),Room k (A.deeper (envOfC qual (B8 st) s.heap.objs.size f cdv))->JSs (ab0 CX0 P w K mg base N qual (B8 st) f cdv A outer s H E).nox (B3 st) g) :
  FnOk P w K mg base CX0 (k+1) f fd ps (spF K ps.length (T0 g N.length)):=by
 refine F.ok S (fun vs H Q E h=>h.1) fun cdv A outer s H vs Q E hr hsp=>?_
 obtain⟨hlen,Hf,ds,d,ss,rp,e,kk⟩:=hsp
 obtain⟨fl,e1,e2⟩:=xbm e
 refine⟨_,hb cdv A outer s H E hr _ fl e1 H Hf,Hf,⟨Grow.refl ss,a8 rp⟩,?_⟩
 cases fl with
 | rt d'=>cases e2;exact fun v H' Hf' g r=>kk v H' Hf' g r
 | nx ρ=>cases e2;exact fun σ' H' Hf' a _=>kk _ H' Hf' a.gr rfl
 | bk ρ=>cases e2
 | ct ρ=>cases e2
end G
namespace G
open PySem PySem.Spec PyProof.Rows L2
noncomputable def SIt:Bool->Heap->Addr->Addr->Nat->Prop
 | true=>Heap.IsTupleIter
 | false=>Heap.IsListIter
noncomputable def SSq:Bool->Heap->Addr->Array Value->Prop
 | true=>Heap.IsTuple
 | false=>Heap.IsList
section
variable {prog:Program}{w:World}{A:Around}{E:Value->Shared->Prop}{s:Shared}{t t1 t2:Bool}
theorem SIt.ext(x:SIt t h it l k) (e:∀o,h.get? it=some o->h'.get? it=some o):SIt t h' it l k:=by
 cases t with
 | true=>obtain⟨o,ho,r⟩:=x;exact⟨o,e o ho,r⟩
 | false=>obtain⟨o,ho,r⟩:=x;exact⟨o,e o ho,r⟩
theorem SSq.ext(x:SSq t h l xs) (e:∀o,h.get? l=some o->h'.get? l=some o):SSq t h' l xs:=by
 cases t with
 | true=>obtain⟨o,ho,r⟩:=x;exact⟨o,e o ho,r⟩
 | false=>obtain⟨o,ho,r⟩:=x;exact⟨o,e o ho,r⟩
theorem SIt.lt(x:SIt t h it l k):it < h.objs.size:=by
 cases t with
 | true=>obtain⟨o,ho,_⟩:=x;exact Heap.lt_size ho
 | false=>obtain⟨o,ho,_⟩:=x;exact Heap.lt_size ho
theorem aB0(hit:s.heap.IsTupleIter it l k) (hl:s.heap.IsTuple l xs) (hx:xs[k]? = some x)
  (hQ:∀h',h'.IsTupleIter it l (k+1)->Heap.SameBut it s.heap h'->Q x { s with heap:=h' }):wpAny (model prog w) A (Builtin.SmallTypes.nextOf (.ref it)) Q E s:=by
 obtain⟨o,ho,hc,hd⟩:=id hit;obtain⟨ol,hol,_,nl,hdl⟩:=hl;unfold Builtin.SmallTypes.nextOf
 refine wpAny_bind (wpAny_callSpecial?_slot (name:=Str.ofString "__next__") hit.typeIs F.slot_tuple_iterator_next (wpAny_call_entry F.slot_tuple_iterator_next hit.typeIs F.entry_tuple_iterator_next ?_ (F.args_tuple_iterator_next_1 _)))
 show wpAny _ _ (field (.ref it) 0 >>= _) _ _ s;refine wpAny_bind (wpAny_field ho hd (x:=.ref l) rfl ?_);show wpAny _ _ (if(Value.ref l==Value.none)=true then _ else _) _ _ s
 rw[if_neg (show ¬((Value.ref l==Value.none)=true) from Bool.false_ne_true)];show wpAny _ _ (field (.ref it) 1 >>= _) _ _ s
 refine wpAny_bind (wpAny_field ho hd (x:=.int k 0) rfl ?_);show wpAny _ _ (seqItems? (.ref l) >>= _) _ _ s;refine wpAny_bind (wpAny_seqItems hol hdl ?_);simp only[Int.toNat_natCast,hx]
 refine wpAny_bind (wpAny_setField ho hd (by simp) (wpAny_pure ⟨x,rfl,wpAny_pure (hQ _ ⟨_,Heap.get?_update_self _ ho (Obj.isFreed_of_fields (Obj.data_mapFields hd _)),(Obj.cls_mapFields ..).trans hc,?_⟩ (Heap.SameBut.update ..))⟩))
 rw[Obj.data_mapFields hd];simp[rawInt]
theorem aO3(hh:A.handled=none) (hit:s.heap.IsTupleIter it l k) (hl:s.heap.IsTuple l xs) (hx:xs[k]? = none)
  (hE:∀h' e,Heap.ExtBut it s.heap h'->(∃o,h'.get? e=some o/\o.cls=.type "StopIteration")->E (.ref e) { s with heap:=h' }):wpAny (model prog w) A (Builtin.SmallTypes.nextOf (.ref it)) Q E s:=by
 obtain⟨o,ho,hc,hd⟩:=id hit;obtain⟨ol,hol,_,nl,hdl⟩:=hl;unfold Builtin.SmallTypes.nextOf
 refine wpAny_bind (wpAny_callSpecial?_slot (name:=Str.ofString "__next__") hit.typeIs F.slot_tuple_iterator_next (wpAny_call_entry F.slot_tuple_iterator_next hit.typeIs F.entry_tuple_iterator_next ?_ (F.args_tuple_iterator_next_1 _)))
 show wpAny _ _ (field (.ref it) 0 >>= _) _ _ s;refine wpAny_bind (wpAny_field ho hd (x:=.ref l) rfl ?_);show wpAny _ _ (if(Value.ref l==Value.none)=true then _ else _) _ _ s
 rw[if_neg (show ¬((Value.ref l==Value.none)=true) from Bool.false_ne_true)];show wpAny _ _ (field (.ref it) 1 >>= _) _ _ s
 refine wpAny_bind (wpAny_field ho hd (x:=.int k 0) rfl ?_);show wpAny _ _ (seqItems? (.ref l) >>= _) _ _ s;refine wpAny_bind (wpAny_seqItems hol hdl ?_);simp only[Int.toNat_natCast,hx]
 refine wpAny_bind (wpAny_rule (wpAny_bind (wpAny_setField ho hd (by simp) ?_)));show wpAny _ _ (newExc (.type "StopIteration") [] >>= _) _ _ _;refine wpAny_bind ?_;simp only[newExc,newTuple]
 refine wpAny_bind (wpAny_newObj_type ?_ (by size_fits));refine wpAny_bind (m:=firstArgMember _ _) (wpAny_of_eq (a:=Value.none) (by first|rfl|(simp only[firstArgMember];rfl)) ?_);refine wpAny_newObj_type ?_ (by size_fits)
 simp only[raiseNew];refine wpAny_bind (wpAny_handled ?_);first|rw[show A.in1.handled=none from hh]|rw[hh]
 refine wpAny_bind (wpAny_pure (wpAny_throw ?_));exact hE _ _ (((Heap.SameBut.update ..).extBut.push _).push _) ⟨_,Heap.get?_push_size _ rfl,rfl⟩
theorem a9(hit:SIt t s.heap it l k) (hl:SSq t s.heap l xs) (hx:xs[k]? = some x)
  (hQ:∀h',SIt t h' it l (k+1)->Heap.SameBut it s.heap h'->Q x { s with heap:=h' }):wpAny (model prog w) A (Builtin.SmallTypes.nextOf (.ref it)) Q E s:=by
 cases t with
 | true=>exact aB0 hit hl hx hQ
 | false=>exact wpAny_nextOf_list_item hit hl hx hQ
theorem o9(hh:A.handled=none) (hit:SIt t s.heap it l k) (hl:SSq t s.heap l xs) (hx:xs[k]? = none)
  (hE:∀h' e,Heap.ExtBut it s.heap h'->(∃o,h'.get? e=some o/\o.cls=.type "StopIteration")->E (.ref e) { s with heap:=h' }):wpAny (model prog w) A (Builtin.SmallTypes.nextOf (.ref it)) Q E s:=by
 cases t with
 | true=>exact aO3 hh hit hl hx hE
 | false=>exact wpAny_nextOf_list_end hh hit hl hx hE
theorem aO7{z TI TO i1 i2 l1 l2:Addr}{k1 k2:Nat}{xs ys:Array Value}{x y a b:Value}{Q:Value->Shared->Prop}(Z:ZipApart z TI TO i1 i2 l1 l2)
  (hz:IsZip s.heap z TI TO .none) (hTI:IsPair s.heap TI (.ref i1) (.ref i2)) (hTO:IsPair s.heap TO a b) (h1:SIt t1 s.heap i1 l1 k1) (h2:SIt t2 s.heap i2 l2 k2) (hl1:SSq t1 s.heap l1 xs) (hl2:SSq t2 s.heap l2 ys) (hx:xs[k1]? = some x) (hy:ys[k2]? = some y)
  (hQ:∀h',IsZip h' z TI TO (rawInt s.heap.objs.size)->IsPair h' TO x y->SIt t1 h' i1 l1 (k1+1)->SIt t2 h' i2 l2 (k2+1)->IsPair h' s.heap.objs.size x y->h'.objs.size=s.heap.objs.size+1 ->
   (∀c o,c≠z->c≠TO->c≠i1->c≠i2->s.heap.get? c=some o->h'.get? c=some o)->Q (.ref s.heap.objs.size) { s with heap:=h' }) :
  wpAny (model prog w) A (Builtin.«zip.__next__» ⟨[.ref z],[]⟩) (fun fin s'=>∃v,fin=.done (.ret v)/\Q v s') E s:=by
 show wpAny _ _ (field (.ref z) 2 >>= _) _ _ _;refine wpAny_bind (wpAny_field hz rfl (x:=.bool false) rfl ?_);show wpAny _ _ (field (.ref z) 3 >>= _) _ _ _;refine wpAny_bind (wpAny_field hz rfl (x:=.ref TI) rfl ?_)
 refine wpAny_bind (wpAny_seqItems hTI rfl ?_);show wpAny _ _ (Builtin.SmallTypes.ownedTupleIsFree (.ref z) >>= _) _ _ _;refine wpAny_bind ?_;unfold Builtin.SmallTypes.ownedTupleIsFree
 refine wpAny_bind (wpAny_field hz rfl (x:=.none) rfl (wpAny_pure ?_));simp only[if_true];refine wpAny_bind (wpAny_rule ?_);refine wpAny_bind (wpAny_field hz rfl (x:=.ref TO) rfl ?_)
 refine wpAny_bind (wpAny_setField_rec hz (by simp) fun ha za sa=>?_);have za':IsZip ha z TI TO .ellipsis:=za
 refine wpAny_bind ?_;simp only[List.zipIdx_cons,List.zipIdx_nil,List.forIn_cons,List.forIn_nil];refine wpAny_bind (wpAny_bind (wpAny_onRaise ?_));show wpAny _ _ (Builtin.SmallTypes.nextOf (.ref i1) >>= _) _ _ _
 refine wpAny_bind (a9 (h1.ext fun o e=>sa.extBut _ _ Z.i1z e) (hl1.ext fun o e=>sa.extBut _ _ Z.l1z e) hx fun hb h1b sb=>wpAny_pure ?_)
 have hTOb:IsPair hb TO a b:=sb.extBut _ _ Z.TOi1 (sa.extBut _ _ Z.TOz hTO)
 refine wpAny_bind (wpAny_seqItems hTOb rfl ?_);refine wpAny_bind (wpAny_updateSeq_pair hTOb fun hcc TOc sc=>?_);have TOc':IsPair hcc TO x b:=TOc
 refine wpAny_bind (wpAny_letGo (wpAny_pure ?_));refine wpAny_bind (wpAny_bind (wpAny_onRaise ?_));show wpAny _ _ (Builtin.SmallTypes.nextOf (.ref i2) >>= _) _ _ _
 refine wpAny_bind (a9 (((h2.ext fun o e=>sa.extBut _ _ Z.i2z e).ext fun o e=>sb.extBut _ _ Z.i12.symm e).ext fun o e=>sc.extBut _ _ Z.TOi2.symm e) (((hl2.ext fun o e=>sa.extBut _ _ Z.l2z e).ext fun o e=>sb.extBut _ _ Z.l2i1 e).ext fun o e=>sc.extBut _ _ Z.l2TO e) hy fun hd h2d sd=>wpAny_pure ?_)
 have hTOd:IsPair hd TO x b:=sd.extBut _ _ Z.TOi2 TOc'
 refine wpAny_bind (wpAny_seqItems hTOd rfl ?_);refine wpAny_bind (wpAny_updateSeq_pair hTOd fun he TOe se=>?_);have TOe':IsPair he TO x y:=TOe
 refine wpAny_bind (wpAny_letGo (wpAny_pure (wpAny_pure ?_)));refine wpAny_bind (wpAny_seqItems TOe' rfl ?_);refine wpAny_bind (wpAny_newTuple ?_)
 have sz:he.objs.size=s.heap.objs.size:=by rw[se.1,sd.1,sc.1,sb.1,sa.1]
 have ze:IsZip he z TI TO .ellipsis:=se.extBut _ _ Z.TOz.symm (sd.extBut _ _ Z.i2z.symm (sc.extBut _ _ Z.TOz.symm (sb.extBut _ _ Z.i1z.symm za')))
 have ke:∀c o,c≠z->c≠TO->c≠i1->c≠i2->s.heap.get? c=some o->he.get? c=some o:=fun c o c1 c2 c3 c4 e=>se.extBut _ _ c2 (sd.extBut _ _ c4 (sc.extBut _ _ c2 (sb.extBut _ _ c3 (sa.extBut _ _ c1 e))))
 have h1e:SIt t1 he i1 l1 (k1+1):=((h1b.ext fun o e=>sc.extBut _ _ Z.TOi1.symm e).ext fun o e=>sd.extBut _ _ Z.i12 e).ext fun o e=>se.extBut _ _ Z.TOi1.symm e
 have h2e:SIt t2 he i2 l2 (k2+1):=h2d.ext fun o e=>se.extBut _ _ Z.TOi2.symm e
 have zlt:z < he.objs.size:=Heap.lt_size ze
 show wpAny _ _ (Builtin.SmallTypes.ownedTupleHandOut (.ref z) (.ref he.objs.size) >>= _) _ _ _;refine wpAny_bind ?_;unfold Builtin.SmallTypes.ownedTupleHandOut
 have zf:IsZip (he.push { cls:=.type "tuple", data:=.seq #[x,y] }) z TI TO .ellipsis:=Heap.get?_push_of_some _ ze
 refine wpAny_bind (wpAny_setField_rec zf (by simp) fun hg zg sg=>?_);have zg':IsZip hg z TI TO (rawInt he.objs.size):=zg
 refine wpAny_setField_rec zg' (by simp) fun hi zi si=>?_;have zi':IsZip hi z TI TO (rawInt he.objs.size):=zi
 have up:∀c o,c≠z->he.get? c=some o->hi.get? c=some o:=fun c o c1 e=>si.extBut _ _ c1 (sg.extBut _ _ c1 (Heap.get?_push_of_some _ e))
 have hT:IsPair hi he.objs.size x y:=si.extBut _ _ (Nat.ne_of_gt zlt) (sg.extBut _ _ (Nat.ne_of_gt zlt) (Heap.get?_push_size _ rfl))
 have szi:hi.objs.size=he.objs.size+1:=by rw[si.1,sg.1,Heap.size_push]
 rw[sz]at zi' hT szi
 refine wpAny_pure ⟨_,rfl,?_⟩;show Q (.ref he.objs.size) _;rw[sz]
 exact hQ hi zi' (up _ _ Z.TOz TOe') (h1e.ext fun o e=>up _ o Z.i1z e) (h2e.ext fun o e=>up _ o Z.i2z e) hT szi fun c o c1 c2 c3 c4 e=>up c o c1 (ke c o c1 c2 c3 c4 e)
theorem aX6{z TI TO i1 i2 l1 l2:Addr}{k1 k2:Nat}{xs ys:Array Value}{a b:Value}{Q:Fin->Shared->Prop}(hh:A.handled=none) (Z:ZipApart z TI TO i1 i2 l1 l2)
  (hz:IsZip s.heap z TI TO .none) (hTI:IsPair s.heap TI (.ref i1) (.ref i2)) (hTO:IsPair s.heap TO a b) (h1:SIt t1 s.heap i1 l1 k1) (h2:SIt t2 s.heap i2 l2 k2) (hl1:SSq t1 s.heap l1 xs) (hl2:SSq t2 s.heap l2 ys) (hend:xs[k1]? = none\/ys[k2]? = none)
  (hE:∀h' e,(∀c o,c≠z->c≠TO->c≠i1->c≠i2->s.heap.get? c=some o->h'.get? c=some o)->(∃o,h'.get? e=some o/\o.cls=.type "StopIteration")->E (.ref e) { s with heap:=h' }) :
  wpAny (model prog w) A (Builtin.«zip.__next__» ⟨[.ref z],[]⟩) Q E s:=by
 show wpAny _ _ (field (.ref z) 2 >>= _) _ _ _;refine wpAny_bind (wpAny_field hz rfl (x:=.bool false) rfl ?_);show wpAny _ _ (field (.ref z) 3 >>= _) _ _ _;refine wpAny_bind (wpAny_field hz rfl (x:=.ref TI) rfl ?_)
 refine wpAny_bind (wpAny_seqItems hTI rfl ?_);show wpAny _ _ (Builtin.SmallTypes.ownedTupleIsFree (.ref z) >>= _) _ _ _;refine wpAny_bind ?_;unfold Builtin.SmallTypes.ownedTupleIsFree
 refine wpAny_bind (wpAny_field hz rfl (x:=.none) rfl (wpAny_pure ?_));simp only[if_true];refine wpAny_bind (wpAny_rule ?_);refine wpAny_bind (wpAny_field hz rfl (x:=.ref TO) rfl ?_)
 refine wpAny_bind (wpAny_setField_rec hz (by simp) fun ha za sa=>?_);have za':IsZip ha z TI TO .ellipsis:=za
 refine wpAny_bind ?_;simp only[List.zipIdx_cons,List.zipIdx_nil,List.forIn_cons,List.forIn_nil];refine wpAny_bind (wpAny_bind (wpAny_onRaise ?_));show wpAny _ _ (Builtin.SmallTypes.nextOf (.ref i1) >>= _) _ _ _
 cases hx:xs[k1]? with
 | none =>
  refine wpAny_bind (o9 hh (h1.ext fun o e=>sa.extBut _ _ Z.i1z e) (hl1.ext fun o e=>sa.extBut _ _ Z.l1z e) hx fun hb e sb he=>?_)
  obtain⟨oe,hoe,hce⟩:=he;have zb:IsZip hb z TI TO .ellipsis:=sb _ _ Z.i1z.symm za';have hez:e≠z:=fun q=>by subst q;rw[zb]at hoe;cases hoe;simp at hce
  exact wpAny_setField_rec zb (by simp) fun hcc _ sc=>hE hcc e (fun c o c1 _ c3 _ q=>sc.extBut _ _ c1 (sb _ _ c3 (sa.extBut _ _ c1 q))) ⟨oe,sc.extBut _ _ hez hoe,hce⟩
 | some x =>
  have hy:ys[k2]? = none:=by rcases hend with h|h;rw[hx]at h;cases h;exact h
  refine wpAny_bind (a9 (h1.ext fun o e=>sa.extBut _ _ Z.i1z e) (hl1.ext fun o e=>sa.extBut _ _ Z.l1z e) hx fun hb h1b sb=>wpAny_pure ?_)
  have hTOb:IsPair hb TO a b:=sb.extBut _ _ Z.TOi1 (sa.extBut _ _ Z.TOz hTO)
  refine wpAny_bind (wpAny_seqItems hTOb rfl ?_);refine wpAny_bind (wpAny_updateSeq_pair hTOb fun hcc TOc sc=>?_)
  refine wpAny_bind (wpAny_letGo (wpAny_pure ?_));refine wpAny_bind (wpAny_bind (wpAny_onRaise ?_));show wpAny _ _ (Builtin.SmallTypes.nextOf (.ref i2) >>= _) _ _ _
  refine wpAny_bind (o9 hh (((h2.ext fun o e=>sa.extBut _ _ Z.i2z e).ext fun o e=>sb.extBut _ _ Z.i12.symm e).ext fun o e=>sc.extBut _ _ Z.TOi2.symm e) (((hl2.ext fun o e=>sa.extBut _ _ Z.l2z e).ext fun o e=>sb.extBut _ _ Z.l2i1 e).ext fun o e=>sc.extBut _ _ Z.l2TO e) hy fun hd e sd he=>?_)
  obtain⟨oe,hoe,hce⟩:=he;have zd:IsZip hd z TI TO .ellipsis:=sd _ _ Z.i2z.symm (sc.extBut _ _ Z.TOz.symm (sb.extBut _ _ Z.i1z.symm za'));have hez:e≠z:=fun q=>by subst q;rw[zd]at hoe;cases hoe;simp at hce
  exact wpAny_setField_rec zd (by simp) fun hf _ sf=>hE hf e (fun c o c1 c2 c3 c4 q=>sf.extBut _ _ c1 (sd _ _ c4 (sc.extBut _ _ c2 (sb.extBut _ _ c3 (sa.extBut _ _ c1 q))))) ⟨oe,sf.extBut _ _ hez hoe,hce⟩
theorem aB4{z TI TO i1 i2 l1 l2:Addr}{k1 k2:Nat}{xs ys:Array Value}{x y a b:Value}{Q:Option Value->Shared->Prop}(Z:ZipApart z TI TO i1 i2 l1 l2)
  (hz:IsZip s.heap z TI TO .none) (hTI:IsPair s.heap TI (.ref i1) (.ref i2)) (hTO:IsPair s.heap TO a b) (h1:SIt t1 s.heap i1 l1 k1) (h2:SIt t2 s.heap i2 l2 k2) (hl1:SSq t1 s.heap l1 xs) (hl2:SSq t2 s.heap l2 ys) (hx:xs[k1]? = some x) (hy:ys[k2]? = some y)
  (hQ:∀h',IsZip h' z TI TO (rawInt s.heap.objs.size)->IsPair h' TO x y->SIt t1 h' i1 l1 (k1+1)->SIt t2 h' i2 l2 (k2+1)->IsPair h' s.heap.objs.size x y->h'.objs.size=s.heap.objs.size+1 ->
   (∀c o,c≠z->c≠TO->c≠i1->c≠i2->s.heap.get? c=some o->h'.get? c=some o)->Q (some (.ref s.heap.objs.size)) { s with heap:=h' }):wpAny (model prog w) A (pyNext (.ref z)) Q E s:=by
 have hT:s.TypeIs (.ref z) "zip" := ⟨_,hz,rfl⟩
 unfold pyNext
 refine wpAny_bind (wpAny_attempt (wpAny_callSpecial?_slot (name:=Str.ofString "__next__") hT F.slot_zip_next (wpAny_call_entry F.slot_zip_next hT F.entry_zip_next (aO7 Z hz hTI hTO h1 h2 hl1 hl2 hx hy ?_) (F.args_zip_next_1 _))))
 exact fun h' a1 a2 a3 a4 a5 a6 a7=>wpAny_pure (hQ h' a1 a2 a3 a4 a5 a6 a7)
theorem aP2{z TI TO i1 i2 l1 l2:Addr}{k1 k2:Nat}{xs ys:Array Value}{a b:Value}{Q:Option Value->Shared->Prop}(hh:A.handled=none) (Z:ZipApart z TI TO i1 i2 l1 l2)
  (hz:IsZip s.heap z TI TO .none) (hTI:IsPair s.heap TI (.ref i1) (.ref i2)) (hTO:IsPair s.heap TO a b) (h1:SIt t1 s.heap i1 l1 k1) (h2:SIt t2 s.heap i2 l2 k2) (hl1:SSq t1 s.heap l1 xs) (hl2:SSq t2 s.heap l2 ys) (hend:xs[k1]? = none\/ys[k2]? = none)
  (hQ:∀h',(∀c o,c≠z->c≠TO->c≠i1->c≠i2->s.heap.get? c=some o->h'.get? c=some o)->Q none { s with heap:=h' }):wpAny (model prog w) A (pyNext (.ref z)) Q E s:=by
 have hT:s.TypeIs (.ref z) "zip" := ⟨_,hz,rfl⟩
 unfold pyNext
 refine wpAny_bind (wpAny_attempt (wpAny_callSpecial?_slot (name:=Str.ofString "__next__") hT F.slot_zip_next (wpAny_call_entry F.slot_zip_next hT F.entry_zip_next (aX6 hh Z hz hTI hTO h1 h2 hl1 hl2 hend fun h' e hk he=>?_) (F.args_zip_next_1 _))))
 obtain⟨o,ho,hc⟩:=he
 exact wpAny_bind (wpAny_isInstance (T := "StopIteration") (b:=true) ⟨o,ho,hc⟩ isSubtype_stop (wpAny_pure (hQ _ hk)))
noncomputable def u8(t:Bool) (l:Addr):Obj:={ cls:=.type (if t then "tuple_iterator" else "list_iterator"),data:=.fields #[.ref l,.int 0 0] }
theorem an7{h:Heap}{l:Addr}(t:Bool):SIt t (h.push (u8 t l)) h.objs.size l 0:=by
 cases t with
 | true=>exact⟨_,Heap.get?_push_size _ rfl,rfl,rfl⟩
 | false=>exact⟨_,Heap.get?_push_size _ rfl,rfl,rfl⟩
theorem b0(hl:SSq t s.heap l xs) (hQ:Q (.ref s.heap.objs.size) { s with heap:=s.heap.push (u8 t l) }):wpAny (model prog w) A (pyIter (.ref l)) Q E s:=by
 cases t with
 | true=>exact wpAny_pyIter_tuple hl hQ
 | false=>exact wpAny_pyIter_list hl hQ
end
end G
namespace G
open PySem PySem.Spec PyProof.Rows L2
noncomputable abbrev zp1(h:Heap) (t1:Bool) (l1:Addr):Heap:=h.push (u8 t1 l1)
noncomputable abbrev zp2(h:Heap) (t1 t2:Bool) (l1 l2:Addr):Heap:=(zp1 h t1 l1).push (u8 t2 l2)
noncomputable abbrev zp3(h:Heap) (t1 t2:Bool) (l1 l2:Addr):Heap:=(zp2 h t1 t2 l1 l2).push { cls:=.type "tuple", data:=.seq #[.ref h.objs.size,.ref (zp1 h t1 l1).objs.size] }
noncomputable abbrev zp4(h:Heap) (t1 t2:Bool) (l1 l2:Addr):Heap:=(zp3 h t1 t2 l1 l2).push { cls:=.type "tuple", data:=.seq #[.none,.none] }
noncomputable abbrev zp5(h:Heap) (t1 t2:Bool) (l1 l2:Addr):Heap:=(zp4 h t1 t2 l1 l2).push { cls:=.type "zip", data:=.fields #[.none,.bool false,.bool false,.ref (zp2 h t1 t2 l1 l2).objs.size,.ref (zp3 h t1 t2 l1 l2).objs.size] }
theorem aX5(l1 l2:Addr) (xs ys:Array Value) (t1 t2:Bool) :
  Meets (Builtin.«zip.__new__» ⟨[.type "zip", .ref l1,.ref l2],[]⟩) (fun _ R s=>SSq t1 s.heap l1 xs/\SSq t2 s.heap l2 ys/\∀h',IsZip h' (s.heap.objs.size+4) (s.heap.objs.size+2) (s.heap.objs.size+3) .none->IsPair h' (s.heap.objs.size+2) (.ref s.heap.objs.size) (.ref (s.heap.objs.size+1)) ->
   IsPair h' (s.heap.objs.size+3) .none .none->SIt t1 h' s.heap.objs.size l1 0->SIt t2 h' (s.heap.objs.size+1) l2 0->(∀c o,s.heap.get? c=some o->h'.get? c=some o)->R (.ok (.ret (.ref (s.heap.objs.size+4)))) { s with heap:=h' }) :=
 .of_wp fun prog w A R s h=>by
  obtain⟨hp,g,d,tk,os⟩:=s
  obtain⟨hl1,hl2,h⟩:=h
  have hsub:=sub_zip
  have q1:SSq t1 (Shared.heap ⟨hp,g,d,tk,os⟩) l1 xs:=hl1
  have q2:SSq t2 (Shared.heap ⟨hp.push (u8 t1 l1),g,d,tk,os⟩) l2 ys:=SSq.ext hl2 fun o e=>Heap.get?_push_of_some _ e
  wp_walk using b0 q1,b0 q2
  refine⟨_,rfl,?_⟩
  have z1:(zp1 hp t1 l1).objs.size=hp.objs.size+1:=Heap.size_push ..
  have z2:(zp2 hp t1 t2 l1 l2).objs.size=hp.objs.size+2:=by rw[Heap.size_push,z1]
  have z3:(zp3 hp t1 t2 l1 l2).objs.size=hp.objs.size+3:=by rw[Heap.size_push,z2]
  have z4:(zp4 hp t1 t2 l1 l2).objs.size=hp.objs.size+4:=by rw[Heap.size_push,z3]
  show R (.ok (.ret (.ref (zp4 hp t1 t2 l1 l2).objs.size))) ⟨zp5 hp t1 t2 l1 l2,g,d,tk,os⟩
  rw[z4]
  have g5:(zp5 hp t1 t2 l1 l2).get? (zp4 hp t1 t2 l1 l2).objs.size=some _:=Heap.get?_push_size _ rfl
  have g4:(zp5 hp t1 t2 l1 l2).get? (zp3 hp t1 t2 l1 l2).objs.size=some _:=Heap.get?_push_of_some _ (Heap.get?_push_size _ rfl)
  have g3:(zp5 hp t1 t2 l1 l2).get? (zp2 hp t1 t2 l1 l2).objs.size=some _:=Heap.get?_push_of_some _ (Heap.get?_push_of_some _ (Heap.get?_push_size _ rfl))
  rw[z4,z2,z3]at g5
  rw[z3]at g4
  rw[z2,z1]at g3
  have k1:∀c o,hp.get? c=some o->(zp5 hp t1 t2 l1 l2).get? c=some o:=fun c o e=>Heap.get?_push_of_some _ (Heap.get?_push_of_some _ (Heap.get?_push_of_some _ (Heap.get?_push_of_some _ (Heap.get?_push_of_some _ e))))
  have s1:SIt t1 (zp5 hp t1 t2 l1 l2) hp.objs.size l1 0:=(an7 (h:=hp) (l:=l1) t1).ext fun o e=>Heap.get?_push_of_some _ (Heap.get?_push_of_some _ (Heap.get?_push_of_some _ (Heap.get?_push_of_some _ e)))
  have s2:SIt t2 (zp5 hp t1 t2 l1 l2) (zp1 hp t1 l1).objs.size l2 0:=(an7 (h:=zp1 hp t1 l1) (l:=l2) t2).ext fun o e=>Heap.get?_push_of_some _ (Heap.get?_push_of_some _ (Heap.get?_push_of_some _ e))
  rw[z1]at s2
  exact h _ g5 g3 g4 s1 s2 k1
section
variable {prog:Program}{w:World}{A:Around}{E:Value->Shared->Prop}{s:Shared}{t1 t2:Bool}
theorem aO8(hl1:SSq t1 s.heap l1 xs) (hl2:SSq t2 s.heap l2 ys)
  (h:∀h',IsZip h' (s.heap.objs.size+4) (s.heap.objs.size+2) (s.heap.objs.size+3) .none->IsPair h' (s.heap.objs.size+2) (.ref s.heap.objs.size) (.ref (s.heap.objs.size+1)) ->
   IsPair h' (s.heap.objs.size+3) .none .none->SIt t1 h' s.heap.objs.size l1 0->SIt t2 h' (s.heap.objs.size+1) l2 0->(∀c o,s.heap.get? c=some o->h'.get? c=some o)->Q (.ref (s.heap.objs.size+4)) { s with heap:=h' }) :
  wpAny (model prog w) A (call (.type "zip") [.ref l1,.ref l2]) Q E s:=by
 refine callType_new F.called_zip (by decide) (F.typeCall_zip_2 _ _) (F.newCall_zip_2 _ _) (fun obj=>F.args_object_init_3 obj _ _) F.entry_zip_new (aX5 l1 l2 xs ys t1 t2) ⟨hl1,hl2,fun h' a1 a2 a3 a4 a5 a6=>?_⟩
 exact⟨⟨_,a1,rfl⟩,h h' a1 a2 a3 a4 a5 a6⟩
end
noncomputable def Itz(K:PySem.W.Frag) (t1 t2:Bool) (a1 a2:Addr):It :=
  ⟨fun i H=>∃xs ys x y,Sq K t1 H a1 xs/\Sq K t2 H a2 ys/\xs[i]? = some x/\ys[i]? = some y,
   fun i H v H'=>∃T x y,v=.ref T/\H T=none/\H'=upd H T (.tup [x,y])/\(∀xs,Sq K t1 H a1 xs->xs[i]? = some x)/\∀ys,Sq K t2 H a2 ys->ys[i]? = some y,
   fun i H=>∃xs ys,Sq K t1 H a1 xs/\Sq K t2 H a2 ys/\(xs.length<=i\/ys.length<=i)⟩
theorem aB2(I:Inv X pins σ H s) (h:Sq X.K t H a xs) (h':Sq X.K t H a ys):xs=ys:=by
 cases t with
 | true=>exact I.tuple_inj h h'
 | false=>exact I.list_inj h h'
theorem Q0(I:Inv X pins σ H s) (h:Sq X.K t H a xs):∃its:List Value,C5 xs its/\SSq t s.heap a its.toArray/\a < s.heap.objs.size:=by
 cases t with
 | true =>
  obtain⟨its,r,p,_⟩:=I.tuple h
  exact⟨its,r,p,by obtain⟨o,ho,_⟩:=p;exact Heap.lt_size ho⟩
 | false =>
  obtain⟨its,r,p,_⟩:=I.list h
  exact⟨its,r,p.isList,by obtain⟨o,ho,_⟩:=p.isList;exact Heap.lt_size ho⟩
end G
namespace G
open PySem PySem.Spec PyProof.Rows L2
theorem T7{X:Cx}{pins:List (Addr×Obj)}{σ:L2.St}{H:Hp}{s:Shared}{h':Heap}{t':Nat}{ch:List Addr}{T:Addr}{o:HO}(I:Inv X pins σ H s) (hf:∀b∈ch,W5 X pins H b) (hT:s.heap.objs.size<=T)
  (k:∀b u,b∉ch->s.heap.get? b=some u->h'.get? b=some u) (new:N3 X.prog X.w (upd H T o) h' T o):Inv X pins σ (upd H T o) { s with heap:=h',toks:=t' }:=by
 have hn:H T=none:=I.hok.fresh hT
 have neT:∀b u,s.heap.get? b=some u->b≠T:=fun b u e=>Nat.ne_of_lt (Nat.lt_of_lt_of_le (Heap.lt_size e) hT)
 have nch:∀b u,H b=some u->b∉ch:=fun b u e z=>by rw[(hf b z).1]at e;cases e
 refine I.step (g':=s.gens) (d':=s.drawn) (ch:=ch) (fun b hb=>⟨(hf b hb).2.2.2.1,(hf b hb).2.1,(hf b hb).2.2.2.2.1,(hf b hb).2.2.2.2.2⟩) (fun b u _ _ hc e _=>k b u hc e) (fun b u _ _ hc e _=>⟨u.slots,k b u hc e⟩)
  (fun b u _ e n=>by rw[A6 (neT b u e)];exact n) (fun b u hc e=>⟨u,k b u hc e⟩) (fun b xs e=>by rw[A6 (A8 e hn)];exact e) (fun b ob u e=>by rw[A6 (A8 e hn)];exact e)
  (fun b ps e=>⟨#[],by rw[A6 (A8 e hn),e];simp⟩) (fun m hm=>?_) (fun b u e=>?_) I.bare
 ·obtain⟨ob,es,ep,ho,r⟩:=hm
  exact⟨ob,es,ep,k _ ob (fun z=>(hf _ z).2.1 rfl) ho,r⟩
 ·by_cases hb:b=T
  ·subst hb;rw[A5]at e;cases e;exact new
  ·rw[A6 hb]at e
   refine(I.hok b u e).stay (fun c v hc q=>k c v ?_ q) (fun c q=>by rw[A6 (A8 q hn)];exact q) fun c xs q=>by rw[A6 (A8 q hn)];exact q
   rcases hc with z|z
   ·rw[z];exact nch b u e
   ·exact nch c _ z
theorem N9{X:Cx}{pins:List (Addr×Obj)}{σ:L2.St}{H:Hp}{s:Shared}{h':Heap}{t':Nat}{ch:List Addr}(I:Inv X pins σ H s) (hf:∀b∈ch,W5 X pins H b)
  (k:∀b u,b∉ch->s.heap.get? b=some u->h'.get? b=some u):Inv X pins σ H { s with heap:=h',toks:=t' }:=by
 have nch:∀b u,H b=some u->b∉ch:=fun b u e z=>by rw[(hf b z).1]at e;cases e
 refine I.step (g':=s.gens) (d':=s.drawn) (ch:=ch) (fun b hb=>⟨(hf b hb).2.2.2.1,(hf b hb).2.1,(hf b hb).2.2.2.2.1,(hf b hb).2.2.2.2.2⟩) (fun b u _ _ hc e _=>k b u hc e) (fun b u _ _ hc e _=>⟨u.slots,k b u hc e⟩)
  (fun b u _ e n=>n) (fun b u hc e=>⟨u,k b u hc e⟩) (fun b xs e=>e) (fun b ob u e=>e) (fun b ps e=>⟨#[],by rw[e];simp⟩) (fun m hm=>?_) (fun b u e=>?_) I.bare
 ·obtain⟨ob,es,ep,ho,r⟩:=hm
  exact⟨ob,es,ep,k _ ob (fun z=>(hf _ z).2.1 rfl) ho,r⟩
 ·refine(I.hok b u e).stay (fun c v hc q=>k c v ?_ q) (fun c q=>q) fun c xs q=>q
  rcases hc with z|z
  ·rw[z];exact nch b u e
  ·exact nch c _ z
theorem aW6{P:Program}{w:World}{K:PySem.W.Frag}{elts:List Expr}{k0:Nat}{pos:Pos}{t1 t2:Bool}{z TI TO i1 i2 a1 a2:Addr}(Z:ZipApart z TI TO i1 i2 a1 a2) :
  Turn P w K (.Tuple elts k0 pos) (Itz K t1 t2 a1 a2) [z,TI,TO,i1,i2] z (fun i h=>IsZip h z TI TO .none/\IsPair h TI (.ref i1) (.ref i2)/\(∃a b,IsPair h TO a b)/\SIt t1 h i1 a1 i/\SIt t2 h i2 a2 i) where
 mem:=by simp
 obj:=fun i h ⟨hz,hTI,⟨a,b,hTO⟩,h1,h2⟩ c hc=>by
  simp only[List.mem_cons,List.not_mem_nil,or_false]at hc
  rcases hc with rfl|rfl|rfl|rfl|rfl
  ·exact⟨_,hz,fun v q=>by cases q⟩
  ·exact⟨_,hTI,fun v q=>by cases q⟩
  ·exact⟨_,hTO,fun v q=>by cases q⟩
  ·cases t1 with
   | true=>obtain⟨o,ho,_,hd⟩:=h1;exact⟨o,ho,fun v q=>by rw[hd]at q;cases q⟩
   | false=>obtain⟨o,ho,_,hd⟩:=h1;exact⟨o,ho,fun v q=>by rw[hd]at q;cases q⟩
  ·cases t2 with
   | true=>obtain⟨o,ho,_,hd⟩:=h2;exact⟨o,ho,fun v q=>by rw[hd]at q;cases q⟩
   | false=>obtain⟨o,ho,_,hd⟩:=h2;exact⟨o,ho,fun v q=>by rw[hd]at q;cases q⟩
 keep:=fun i h h' ⟨hz,hTI,⟨a,b,hTO⟩,h1,h2⟩ hk=>⟨hk z (by simp) _ hz,hk TI (by simp) _ hTI,⟨a,b,hk TO (by simp) _ hTO⟩,h1.ext fun o e=>hk i1 (by simp) o e,h2.ext fun o e=>hk i2 (by simp) o e⟩
 item:=by
  intro X hP hw hK hc i pins s σ H E I hf ⟨hz,hTI,⟨a,b,hTO⟩,h1,h2⟩ hg
  subst hP hw hK
  obtain⟨xs,ys,x,y,q1,q2,ex,ey⟩:=hg
  obtain⟨us,r1,p1,lt1⟩:=Q0 I q1
  obtain⟨ws,r2,p2,lt2⟩:=Q0 I q2
  obtain⟨ux,eux,rx⟩:=r1.get ex
  obtain⟨uy,euy,ry⟩:=r2.get ey
  refine aB4 Z hz hTI hTO h1 h2 p1 p2 (x:=ux) (y:=uy) (by simpa using eux) (by simpa using euy) fun h' b1 b2 b3 b4 b5 b6 b7=>⟨_,rfl,wpAny_letOwnedTupleGo_zip b1 fun h'' c1 c2=>?_⟩
  have neT:∀c o,s.heap.get? c=some o->c≠s.heap.objs.size:=fun c o e=>Nat.ne_of_lt (Heap.lt_size e)
  have up:∀c o,c≠z->h'.get? c=some o->h''.get? c=some o:=fun c o n e=>c2.extBut c o n e
  refine⟨.ref s.heap.objs.size,upd H s.heap.objs.size (.tup [x,y]),T7 (s:=s) (h':=h'') (t':=s.toks) (ch:=[z,TI,TO,i1,i2]) I hf (Nat.le_refl _) (fun c u hc e=>?_) ?_,rfl,⟨_,x,y,rfl,I.hok.fresh (Nat.le_refl _),rfl,fun zs hz'=>by rw[aB2 I hz' q1];exact ex,fun zs hz'=>by rw[aB2 I hz' q2];exact ey⟩,⟨c1,?_,⟨_,_,up TO _ Z.TOz b2⟩,b3.ext fun o e=>up i1 o Z.i1z e,b4.ext fun o e=>up i2 o Z.i2z e⟩,fun c hc=>?_⟩
  ·simp only[List.mem_cons,List.not_mem_nil,or_false,not_or]at hc
   exact up c u hc.1 (b7 c u hc.1 hc.2.2.1 hc.2.2.2.1 hc.2.2.2.2 e)
  ·refine⟨by show 2<=sizeLine;decide,[ux,uy],.cons rx (.cons ry .nil),_,up _ _ ?_ b5,rfl,⟨_,rfl⟩,rfl⟩
   exact fun q=>neT z _ hz q.symm
  ·exact up TI _ Z.TIz (b7 TI _ Z.TIz Z.TITO Z.TIi1 Z.TIi2 hTI)
  ·have e:c < s.heap.objs.size:=by
    simp only[List.mem_cons,List.not_mem_nil,or_false]at hc
    rcases hc with rfl|rfl|rfl|rfl|rfl
    ·exact Heap.lt_size hz
    ·exact Heap.lt_size hTI
    ·exact Heap.lt_size hTO
    ·exact h1.lt
    ·exact h2.lt
   rw[A6 (Nat.ne_of_lt e)]
   exact(hf c hc).1
 done:=by
  intro X hP hw hK hc i pins s σ H E I hf ⟨hz,hTI,⟨a,b,hTO⟩,h1,h2⟩ hg
  subst hP hw hK
  obtain⟨xs,ys,q1,q2,hl⟩:=hg
  obtain⟨us,r1,p1,lt1⟩:=Q0 I q1
  obtain⟨ws,r2,p2,lt2⟩:=Q0 I q2
  have l1:=r1.length
  have l2:=r2.length
  refine aP2 (I.ok.hd hc) Z hz hTI hTO h1 h2 p1 p2 ?_ fun h' hk=>⟨rfl,N9 (t':=s.toks) (ch:=[z,TI,TO,i1,i2]) I hf fun c u hc e=>?_⟩
  ·rcases hl with h|h
   ·left;simp;grind
   ·right;simp;grind
  ·simp only[List.mem_cons,List.not_mem_nil,or_false,not_or]at hc
   exact hk c u hc.1 hc.2.2.1 hc.2.2.2.1 hc.2.2.2.2 e
 self:=fun _ _ _ _ _ st h=>wpAny_pyIter_zip st.1 h
section
variable {X:Cx}
noncomputable def ah9(f g:Rho->Option (Bool×List D)):Rho->Option (List D):=fun ρ=>(f ρ).bind fun p=>(g ρ).bind fun q=>some ((p.2.zip q.2).map fun(x,y)=>PyData.tuple [x,y])
theorem aA3{K:PySem.W.Frag}{t1 t2:Bool}{a1 a2:Addr}{vs us:List V}{ds es:List D}{Hf1:Hp}(h1:Sq K t1 Hf1 a1 vs) (h2:Sq K t2 Hf1 a2 us) (r1:Reps K Hf1 ds vs) (r2:Reps K Hf1 es us) :
  at2 K (Itz K t1 t2 a1 a2) ((ds.zip es).map fun(x,y)=>PyData.tuple [x,y]) Hf1:=by
 have mono:∀{t:Bool}{a:Addr}{xs:List V}{H H':Hp},B6 H H'->Sq K t H a xs->Sq K t H' a xs:=fun{t a xs H H'} e h=>by
  cases t with
  | true=>exact B7 e h
  | false=>exact D0 e h
 intro i H Hf sa sb
 have m1:=mono (sa.trans sb) h1
 have m2:=mono (sa.trans sb) h2
 have l1:=r1.length
 have l2:=r2.length
 refine⟨fun hi=>⟨vs,us,m1,m2,?_⟩,fun d hd=>?_⟩
 ·simp at hi;grind
 ·rw[List.getElem?_map]at hd
  obtain⟨⟨x,y⟩,q1,q2⟩:=Option.map_eq_some_iff.mp hd
  subst q2
  obtain⟨q1,q2⟩:=List.getElem?_zip_eq_some.mp q1
  obtain⟨vx,e1,e2⟩:=r1.get q1
  obtain⟨vy,e3,e4⟩:=r2.get q2
  refine⟨⟨vs,us,vx,vy,m1,m2,e1,e3⟩,fun v H' ⟨T,x',y',z1,z2,z3,z4,z5⟩=>?_⟩
  subst z1 z3
  have w1:=z4 vs m1
  have w2:=z5 us m2
  rw[e1]at w1
  rw[e3]at w2
  cases w1
  cases w2
  have nf:Hf T=none:=sb.free z2
  refine⟨upd Hf T (.tup [vx,vy]),Grow.laid sb z2,T,[vx,vy],rfl,SqT.of A5,vx,[vy],rfl,(e2.mono sa).mono (C3 nf),vy,[],rfl,(e4.mono sa).mono (C3 nf),rfl⟩
theorem bR3{elts:List Expr}{k0:Nat}{tpos:Pos}{a b:Expr}{f g:DE}{p pos:Pos}(hg:Gl X "zip") (hm:X.mg "zip" = none) (ha:JE X a f) (hb:JE X b g) (hs:starEach [a,b] X.env=[(false,eval a X.env),(false,eval b X.env)]:=by rfl) (hs2:starEach [b] X.env=[(false,eval b X.env)]:=by rfl) :
  JI X (.Tuple elts k0 tpos) (.Call (.Name "zip" p) [a,b] [] pos) (ah9 (qE f) (qE g)):=fun ρ out q=>by
 obtain⟨⟨t1,ds⟩,e1,q⟩:=xbm q
 obtain⟨⟨t2,es⟩,e2,q⟩:=xbm q
 cases q
 obtain⟨d1,e1,e1'⟩:=xbm e1
 obtain⟨d2,e2,e2'⟩:=xbm e2
 intro pins s σ H R I ⟨H0,Hf,ss,sl,k⟩
 refine Call_ (d5 I hg hm bW0 (PyProof.Rows.callWith_type1 (thn (B2 (ha ρ d1 e1) (B2 (hb ρ d2 e2) C6 hs2) (by rw[hs,hs2]) pos pins s σ H
  (fun vs H'=>∃v u Hf',vs=[v,u]/\Grow H Hf H' Hf'/\Rep X.K Hf' d1 v/\Rep X.K Hf' d2 u) I ⟨H0,Hf,ss,sl,fun v H1 Hf1 g1 r1=>⟨H0,Hf1,g1.sub,sl.grow g1,fun u H2 Hf2 g2 r2=>⟨v,u,Hf2,rfl,g1.trans g2,r1.mono g2.ext,r2⟩⟩⟩) fun us s1 ⟨vs,H1,I1,r1,v,u,Hf1,ev,gr,p1,p2⟩=>?_) (by rw[hs,hs2]) (by rw[hs2];rfl)))
 subst ev
 obtain⟨uv,uu,rfl,rv,ru⟩:=aG0 r1
 obtain⟨a1,vs1,rfl,w1,w2⟩:=p1.seq (B6.refl Hf1) e1'
 obtain⟨a2,vs2,rfl,w3,w4⟩:=p2.seq (B6.refl Hf1) e2'
 cases rv
 cases ru
 have mono:∀{t:Bool}{a:Addr}{xs:List V}{H H':Hp},B6 H H'->Sq X.K t H a xs->Sq X.K t H' a xs:=fun{t a xs H H'} e h=>by
  cases t with
  | true=>exact B7 e h
  | false=>exact D0 e h
 obtain⟨us1,rr1,hp1,lt1⟩:=Q0 I1 (mono gr.sub w1)
 obtain⟨us2,rr2,hp2,lt2⟩:=Q0 I1 (mono gr.sub w3)
 refine aO8 hp1 hp2 fun h' b1 b2 b3 b4 b5 b6=>?_
 have I2:Inv X pins σ H1 { s1 with heap:=h' }:=I1.kept (t':=s1.toks) b6
 refine wpAny_pyIter_zip b1 ⟨_,_,_,_,H1,rfl,I2,aW6 (zipApart_new lt1 lt2),⟨b1,b2,⟨_,_,b3⟩,b4,b5⟩,fun b hb=>?_,k _ H1 Hf1 gr (aA3 w1 w3 w2 w4)⟩
 have hb':s1.heap.objs.size<=b:=by
  simp only[List.mem_cons,List.not_mem_nil,or_false]at hb
  rcases hb with rfl|rfl|rfl|rfl|rfl
  ·exact Nat.le_add_right _ _
  ·exact Nat.le_add_right _ _
  ·exact Nat.le_add_right _ _
  ·exact Nat.le_refl _
  ·exact Nat.le_add_right _ _
 exact I1.fpOk hb' (I1.hok.fresh hb')
end
end G
namespace G
open PySem PySem.Spec PyProof.Rows L2
theorem ac5:fillsNumberSlot (.type "tuple") "mul" = pure false:=PySem.fillsNumberSlot_seq (id := "tuple.__mul__") (r:=some (.builtin "tuple.__rmul__")) F.slot_tuple_mul.lookup (by decide +kernel) F.slot_tuple_rmul.lookup (by decide +kernel)
theorem ak8:seqRepeat? (.type "tuple")=pure (some (.builtin "tuple.__mul__")):=by
 unfold seqRepeat?
 rw[PySem.seqSlot_of (T := "tuple") (name := "__mul__") (id := "tuple.__mul__") F.slot_tuple_mul.lookup (by decide +kernel),PySem.seqSlot_of (T := "tuple") (name := "__rmul__") (id := "tuple.__rmul__") F.slot_tuple_rmul.lookup (by decide +kernel)];rfl
theorem r9(a:Int) (t:Tok) (l:Addr) (items:Array Value) (n:Nat) (dd:Option Addr) (sl:Array (Option Value)) :
  Meets (Builtin.«int.__rmul__» ⟨[.int a t,.ref l],[]⟩) (fun _ R s=>s.heap.get? l=some ⟨.type "tuple", dd,.seq items n,sl⟩/\R (.ok (.ret Value.notImplemented)) s) :=
 .of_wp fun prog w A R s h=>by obtain⟨hp,g,d,tk,os⟩:=s;obtain⟨hl,h⟩:=h;wp_walk;exact⟨_,rfl,h⟩
theorem aB8(items:Array Value) (k:Nat):List.foldl (fun x1 x2=>x1++x2) #[] (List.replicate k items)=(List.replicate k items.toList).flatten.toArray:=by
 have:=al6 items.toList k []
 rw[List.nil_append]at this
 simpa using this
theorem aw3(l:Addr) (items:Array Value) (n:Nat) (dd:Option Addr) (sl:Array (Option Value)) (x:Int) (u:Tok) (h2:2<=x) (h3:x < 1000000) (he:items.isEmpty=false) (hz:items.size*x.toNat<=sizeLine) :
  Meets (Builtin.«tuple.__mul__» ⟨[.ref l,.int x u],[]⟩) (fun _ R s=>s.heap.get? l=some ⟨.type "tuple", dd,.seq items n,sl⟩/\R (.ok (.ret (Value.ref s.heap.objs.size))) { s with heap:=s.heap.push { cls:=Value.type "tuple", data:=Data.seq (List.foldl (fun x1 x2=>x1++x2) #[] (List.replicate x.toNat items)) } }) :=
 .of_wp fun prog w A R s h=>by
  obtain⟨hp,g,d,tk,os⟩:=s
  obtain⟨hl,h⟩:=h
  have hm:(items.size:Int)*x<=16777216:=by
   have e:((items.size*x.toNat:Nat):Int)=(items.size:Int)*x:=by rw[Int.natCast_mul,Int.toNat_of_nonneg (by omega)]
   have:items.size*x.toNat<=16777216:=by rw[← sizeLine_eq];exact hz
   omega
  wp_walk
  refine wpAny_ite_false (by simp;omega) ?_
  have ht:Heap.IsTuple (Shared.heap ⟨hp,g,d,tk,os⟩) l items:=⟨_,hl,rfl,n,rfl⟩
  refine wpAny_bind (tupleItemsOf_ ht ?_)
  refine wpAny_ite_false (by rw[he];simp;omega) ?_
  show wpAny _ _ (if(decide (x<=0) || items.isEmpty)=true then _ else _) _ _ _
  refine wpAny_ite_false (by rw[he];simp;omega) ?_
  show wpAny _ _ (if(items.size:Int)*x > (2 ^ 63 - 1) / 8 then _ else _) _ _ _
  rw[if_neg (by omega)]
  show wpAny _ _ (if Builtin.Tuple.tupleTooMany ((items.size:Int)*x)=true then _ else _) _ _ _
  rw[if_neg (by unfold Builtin.Tuple.tupleTooMany;rw[sizeLine_eq];simp;omega)]
  refine wpAny_bind (m:=Builtin.Tuple.tupleExact _) (wpAny_newObj_type (wpAny_pure ⟨_,rfl,h⟩) ?_)
  show(List.foldl (fun x1 x2=>x1++x2) #[] (List.replicate x.toNat items)).size<=sizeLine
  rw[aB8 items x.toNat,List.size_toArray,aq3,Array.length_toList,Nat.mul_comm]
  exact hz
section
variable {X:Cx}
theorem bt2:OpR X (binaryOp .Mult) (fun x y H Q=>∃l k xs,x=.ref l/\y=.int k/\SqT X.K H l xs/\xs≠[]/\2<=k/\k < 1000000/\xs.length*k.toNat<=sizeLine/\∀p,H p=none->Q (.ref p) (upd H p (.tup (List.replicate k.toNat xs).flatten))):=by
 intro pins s σ H x y v u Q I rx ry h
 obtain⟨l,k,xs,rfl,rfl,hq,hx,h2,h3,hz,q⟩:=h
 cases rx
 obtain⟨t,rfl⟩:=ry
 obtain⟨its,r,p1,_⟩:=I.tuple hq
 obtain⟨⟨cls,dd,data,sl⟩,ho,hc,n,hd⟩:=id p1
 simp only at hc hd
 subst hc hd
 have hl:=r.length
 have he:its.toArray.isEmpty=false:=by
  cases its with
  | nil=>exact absurd (r.nil_iff.mp rfl) hx
  | cons a b=>rfl
 refine wpAny_binaryOp_repeat_ref (T := "tuple") (U := "int") (by decide) ⟨_,ho,rfl⟩ (fun s'=>typeIs_int s' k t) ac5 F.fills_int_mul F.slot_int_rmul ak8 F.slot_int_index.lookup
  (call_meets F.slot_int_rmul (typeIs_int s k t) F.entry_int_rmul (F.args_int_rmul_2 _ _) (r9 k t l its.toArray n dd sl) ⟨ho,rfl,⟨_,ho,rfl⟩,
   call_meets F.slot_tuple_mul ⟨_,ho,rfl⟩ F.entry_tuple_mul (F.args_tuple_mul_2 _ _) (aw3 l its.toArray n dd sl k t h2 h3 he (by rw[List.size_toArray,← hl];exact hz)) ⟨ho,?_⟩⟩)
 rw[aB8]
 refine⟨.ref _,_,I.laid (t':=s.toks) (o:=.tup (List.replicate k.toNat xs).flatten) (fun b ob q=>Heap.get?_push_of_some _ q) (Nat.le_refl _) ⟨?_,_,r.rep k.toNat,ai9.new _ _⟩,rfl,q _ (I.hok.fresh (Nat.le_refl _))⟩
 rw[aq3,Nat.mul_comm];exact hz
noncomputable def T1(x y:D):Option D:=match x,y with
 | .int i,.int j=>if F3 i/\F3 j then some (.int (i*j)) else none
 | .tuple xs,.int k=>if xs.isEmpty=false/\2<=k/\k < 1000000/\xs.length*k.toNat<=16777216 then some (.tuple (List.replicate k.toNat xs).flatten) else none
 | _,_=>none
theorem ap7:OpD X (binaryOp .Mult) T1:=fun x y z h=>by
 unfold T1 at h
 split at h
 ·exact bN2 _ _ z (by unfold bO7;exact h)
 ·split at h
  ·rename_i xs k c
   cases h
   refine OpR.imp bt2 fun vx vy H Q ⟨Hf,s,r1,r2,kk⟩=>?_
   obtain⟨a,vs,rfl,h2,h3⟩:=r1
   refine⟨a,k,vs,rfl,r2,B7 s h2,?_,c.2.1,c.2.2.1,by rw[h3.length,sizeLine_eq];exact c.2.2.2,fun p hp=>?_⟩
   ·intro e
    subst e
    have:=h3.length
    cases xs with
    | nil=>exact absurd c.1 (by simp)
    | cons a b=>simp at this
   ·exact kk _ _ _ (Grow.laid s hp) ⟨p,_,rfl,SqT.of A5,(h3.flatten k.toNat).mono (C3 (s.free hp))⟩
  ·cases h
 ·cases h
noncomputable def bV0(f:DE):DE:=fun ρ=>(f ρ).bind fun d=>match d with
 | .int i=>some (.int (-i))
 | _=>none
theorem bh1(h:JE X a f):JE X (.UnaryOp .USub a pos) (bV0 f):=fun ρ d q=>by
 obtain⟨x,e1,e2⟩:=xbm q
 cases x with
 | int i =>
  cases e2
  exact A7 (cb8 bH1 (h ρ _ e1)) fun σ H Q ⟨H0,Hf,s,sl,k⟩=>⟨H0,Hf,s,sl,fun v H1 Hf1 g1 r1=>⟨_,r1,k _ H1 Hf1 g1 rfl⟩⟩
 | _=>cases e2
noncomputable def isB(x y:D):Option D:=match y with
 | .bool b=>(match x with
  | .bool c=>some (.bool (c==b))
  | .dict _=>none
  | _=>some (.bool false))
 | .none=>isN x .none
 | _=>none
noncomputable def aj6(x y:D):Option D:=match y with
 | .bool b=>(match x with
  | .bool c=>some (.bool (!(c==b)))
  | .dict _=>none
  | _=>some (.bool true))
 | .none=>bO2 x .none
 | _=>none
theorem bC6:OpD X (compareOp .Is) isB:=fun x y z h=>by
 cases y with
 | none=>exact bd7 x .none z h
 | bool b =>
  intro pins s σ H vx vy v u Q I rx ry ⟨Hf,ss,r1,r2,k⟩
  cases r2
  cases ry
  have fin:∀c,z=.bool c->(v==Value.bool b)=c->EP X pins σ Q (.bool (v==Value.bool b)) s:=fun c e1 e2=>by
   rw[e2];subst e1;exact⟨.bl c,H,I,rfl,k _ H Hf (Grow.refl ss) rfl⟩
  cases x with
  | none=>cases r1;cases rx;cases h;exact wpAny_is_plain rfl (fin _ rfl rfl)
  | bool c=>cases r1;cases rx;cases h;exact wpAny_is_plain rfl (fin _ rfl (by cases c<;>cases b<;>rfl))
  | int i=>cases r1;obtain⟨t,rfl⟩:=rx;cases h;exact wpAny_is_plain rfl (fin _ rfl rfl)
  | str i=>cases r1;obtain⟨t,rfl⟩:=rx;cases h;exact wpAny_is_plain rfl (fin _ rfl rfl)
  | tuple ds=>obtain⟨a,vs,rfl,_⟩:=r1;cases rx;cases h;exact wpAny_is_plain rfl (fin _ rfl rfl)
  | list ds=>obtain⟨a,vs,rfl,_⟩:=r1;cases rx;cases h;exact wpAny_is_plain rfl (fin _ rfl rfl)
  | dict ds=>cases h
 | _=>cases h
theorem av7:OpD X (compareOp .IsNot) aj6:=fun x y z h=>by
 cases y with
 | none=>exact bu1 x .none z h
 | bool b =>
  intro pins s σ H vx vy v u Q I rx ry ⟨Hf,ss,r1,r2,k⟩
  cases r2
  cases ry
  have fin:∀c,z=.bool c->(!(v==Value.bool b))=c->EP X pins σ Q (.bool (!(v==Value.bool b))) s:=fun c e1 e2=>by
   rw[e2];subst e1;exact⟨.bl c,H,I,rfl,k _ H Hf (Grow.refl ss) rfl⟩
  cases x with
  | none=>cases r1;cases rx;cases h;exact wpAny_isNot_plain rfl (fin _ rfl rfl)
  | bool c=>cases r1;cases rx;cases h;exact wpAny_isNot_plain rfl (fin _ rfl (by cases c<;>cases b<;>rfl))
  | int i=>cases r1;obtain⟨t,rfl⟩:=rx;cases h;exact wpAny_isNot_plain rfl (fin _ rfl rfl)
  | str i=>cases r1;obtain⟨t,rfl⟩:=rx;cases h;exact wpAny_isNot_plain rfl (fin _ rfl rfl)
  | tuple ds=>obtain⟨a,vs,rfl,_⟩:=r1;cases rx;cases h;exact wpAny_isNot_plain rfl (fin _ rfl rfl)
  | list ds=>obtain⟨a,vs,rfl,_⟩:=r1;cases rx;cases h;exact wpAny_isNot_plain rfl (fin _ rfl rfl)
  | dict ds=>cases h
 | _=>cases h
noncomputable def aF8(K:PySem.W.Frag) (d:D) (u:Value):Prop:=∃v,C1 v u/\∀H:Hp,Rep K H d v
theorem bS7(r:aF8 X.K d u) (hg:Gl X x) (hm:X.mg x=some u) (hd:(x==("__debug__" : Str))=false:=by decide):JE X (.Name x pos) (dC d):=fun ρ d' q=>by
 cases q
 obtain⟨v,rv,rp⟩:=r
 exact A7 (bs5 hg hm rv hd) fun σ H Q ⟨H0,Hf,s,sl,k⟩=>k _ H Hf (Grow.refl s) (rp Hf)
noncomputable def qN(f:Rho->Option (List D)):Rho->Option (Bool×List D):=fun ρ=>(f ρ).map fun ds=>(false,ds)
theorem bR0(h:JN X e f):JQ X e (qN f):=bg2 h
noncomputable def ad6(f:Rho->Option (Bool×List D)):DE:=fun ρ=>(f ρ).bind fun q=>if q.1=true then none else some (.tuple q.2)
theorem bw7(hg:Gl X "tuple") (hm:X.mg "tuple" = none) (h:JQ X e f) (he:starEach [e] X.env=[(false,eval e X.env)]:=by rfl):JE X (.Call (.Name "tuple" p) [e] [] pos) (ad6 f):=bg8 hg hm h (he:=he)
end
end G
namespace G
open PySem PySem.Spec PyProof.Rows L2
theorem aV8(l b:Addr) (items items2:Array Value) (n n2:Nat) (dd dd2:Option Addr) (sl sl2:Array (Option Value)) (hz:items.size+items2.size<=sizeLine) :
  Meets (Builtin.«list.__add__» ⟨[.ref l,.ref b],[]⟩) (fun _ R s=>s.heap.get? l=some ⟨.type "list", dd,.seq items n,sl⟩/\s.heap.get? b=some ⟨.type "list", dd2,.seq items2 n2,sl2⟩/\R (.ok (.ret (Value.ref s.heap.objs.size))) { s with heap:=s.heap.push { cls:=Value.type "list", data:=Data.seq (items++items2) } }) :=
 .of_wp fun prog w A R s h=>by
  obtain⟨hp,g,d,tk,os⟩:=s
  obtain⟨hl,hb,h⟩:=h
  have hsub:isSubtype (.type "list") (.type "list")=pure true:=by rw[isSubtype_type];kernel_rfl
  have hsz:=hz
  wp_walk
  exact⟨_,rfl,h⟩
section
variable {X:Cx}
theorem aJ9:OpR X (binaryOp .Add) (fun x y H Q=>∃a b xs ys,x=.ref a/\y=.ref b/\SqL X.K H a xs/\SqL X.K H b ys/\xs.length+ys.length<=sizeLine/\∀p,H p=none->Q (.ref p) (upd H p (.lst (xs++ys)))):=by
 intro pins s σ H x y v u Q I rx ry h
 obtain⟨a,b,xs,ys,rfl,rfl,ha,hb,hz,q⟩:=h
 cases rx
 cases ry
 obtain⟨its,r1,p1,_⟩:=I.list ha
 obtain⟨its2,r2,p2,_⟩:=I.list hb
 obtain⟨⟨cls,dd,data,sl⟩,ho,hc,n,hd⟩:=p1.isList
 obtain⟨⟨cls2,dd2,data2,sl2⟩,ho2,hc2,n2,hd2⟩:=p2.isList
 simp only at hc hd hc2 hd2
 subst hc hd hc2 hd2
 have l1:=r1.length
 have l2:=r2.length
 refine concat_meets ⟨_,ho,rfl⟩ ⟨_,ho2,rfl⟩ noFill_list_add seq_list_add PySem.F.slot_list_add PySem.F.entry_list_add (PySem.F.args_list_add_2 _ _) (aV8 a b its.toArray its2.toArray n n2 dd dd2 sl sl2 (by simp only[List.size_toArray];grind)) ⟨ho,ho2,?_⟩
 have ea:its.toArray++its2.toArray=(its++its2).toArray:=by simp
 rw[ea]
 exact⟨.ref _,_,I.lnew (t':=s.toks) (r1.append r2) (by rw[List.length_append];grind),rfl,q _ I.fresh⟩
noncomputable def y6(x y:D):Option D:=match x,y with
 | .list xs,.list ys=>if xs.length+ys.length<=16777216 then some (.list (xs++ys)) else none
 | x,y=>Y8 x y
theorem bu3:OpD X (binaryOp .Add) y6:=fun x y z h=>by
 unfold y6 at h
 split at h
 ·split at h
  ·rename_i c
   cases h
   refine OpR.imp aJ9 fun vx vy H Q ⟨Hf,s,r1,r2,k⟩=>?_
   obtain⟨a,vs,rfl,h2,h3⟩:=r1
   obtain⟨b,us,rfl,h5,h6⟩:=r2
   refine⟨a,b,vs,us,rfl,rfl,D0 s h2,D0 s h5,by rw[h3.length,h6.length,sizeLine_eq];exact c,fun p hp=>?_⟩
   exact k _ _ _ (Grow.laid s hp) ⟨p,vs++us,rfl,SqL.of A5,(h3.append h6).mono (C3 (s.free hp))⟩
  ·cases h
 ·exact bd8 _ _ z h
noncomputable def bD6(f:DE):DE:=fun ρ=>(f ρ).bind fun d=>match d with
 | .tuple xs=>some (.tuple xs.reverse)
 | _=>none
end
end G
namespace G
open PySem PySem.Spec PyProof.Rows L2
section
variable {prog:Program}{w:World}{A:Around}{E:Value->Shared->Prop}{s:Shared}
theorem aF5(n:Nat):Builtin.Slice.sliceAdjust none none (-1) (n:Int)=((n:Int) - 1,-1):=by
 unfold Builtin.Slice.sliceAdjust
 have h1:(-1:Int) < 0:=by omega
 simp only[h1,if_true]
theorem aC1(n:Nat):Builtin.Slice.slicePlaces ((n:Int) - 1) (-1) (-1)=n:=by
 unfold Builtin.Slice.slicePlaces
 have h1:¬(-1:Int) > 0:=by grind
 have h2:-(-1:Int)=1:=by grind
 simp only[h1,if_false,h2,Int.ediv_one]
 split<;>grind
theorem aa1{sl:Addr}{t:Tok}{n:Nat}{Q:Int×Int×Nat->Shared->Prop}(hs:s.heap.IsSliceOf sl .none .none (.int (-1) t))
  (h:Q ((n:Int) - 1,-1,n) s):wpAny (model prog w) A (Builtin.Slice.sliceApplied (.ref sl) (pure (n:Int))) Q E s:=by
 obtain⟨os,hos,hcs,hds⟩:=id hs
 unfold Builtin.Slice.sliceApplied Builtin.Slice.sliceFields
 refine wpAny_bind (wpAny_bind (wpAny_field hos hds (x:=.none) rfl (wpAny_bind (wpAny_field hos hds (x:=.none) rfl (wpAny_bind (wpAny_field hos hds (x:=.int (-1) t) rfl (wpAny_pure ?_)))))))
 refine wpAny_bind (slicePart_int ?_)
 show wpAny _ _ (if((-1:Int)==0)=true then _ else _) _ _ s
 rw[if_neg (by decide)]
 refine wpAny_bind (slicePart_none (wpAny_bind (slicePart_none (wpAny_bind (wpAny_pure ?_)))))
 show wpAny _ _ (match Builtin.Slice.sliceAdjust none none (-1) (n:Int) with|(lo,hi)=>pure (lo,(-1:Int),Builtin.Slice.slicePlaces lo hi (-1))) _ _ s
 rw[aF5 n]
 show wpAny _ _ (pure ((n:Int) - 1,(-1:Int),Builtin.Slice.slicePlaces ((n:Int) - 1) (-1) (-1))) _ _ s
 rw[aC1]
 exact wpAny_pure h
theorem av2{α:Type}:∀l:List α,(List.range l.length).filterMap (fun k=>l[k]?)=l
 | []=>rfl
 | a::l=>by
  rw[List.length_cons,List.range_succ_eq_map,List.filterMap_cons,List.filterMap_map]
  simp only[List.getElem?_cons_zero]
  congr 1
  exact av2 l
theorem ax6{α β:Type}{f g:α->Option β}:∀{l:List α},(∀x∈l,f x=g x)->l.filterMap f=l.filterMap g
 | [],_=>rfl
 | a::l,h=>by rw[List.filterMap_cons,List.filterMap_cons,h a (List.mem_cons_self ..),ax6 fun x hx=>h x (List.mem_cons_of_mem _ hx)]
theorem bb1(xs:Array Value):((List.range xs.size).filterMap fun(k:Nat)=>xs[(((xs.size:Int) - 1)+(k:Int) * -1).toNat]?).toArray=xs.toList.reverse.toArray:=by
 congr 1
 have e:∀k∈List.range xs.size,xs[(((xs.size:Int) - 1)+(k:Int) * -1).toNat]? = xs.toList.reverse[k]?:=by
  intro k hk
  have hk:=List.mem_range.mp hk
  have:(((xs.size:Int) - 1)+(k:Int) * -1).toNat=xs.size - 1 - k:=by grind
  rw[this,List.getElem?_reverse (by rw[Array.length_toList];exact hk),Array.length_toList,Array.getElem?_toList]
 rw[ax6 e]
 have:=av2 xs.toList.reverse
 rw[List.length_reverse,Array.length_toList]at this
 exact this
theorem v7(ht:IsTup s.heap t items) (hs:s.heap.IsSliceOf sl .none .none (.int (-1) k))
  (h:Q (.ref s.heap.objs.size) { s with heap:=s.heap.push { cls:=.type "tuple", data:=.seq items.toList.reverse.toArray } })
  (hsz:items.size<=sizeLine):wpAny (model prog w) A (getItem (.ref t) (.ref sl)) Q E s:=by
 have htake:sizeOk (.seq items.toList.reverse.toArray):=by
  show items.toList.reverse.toArray.size<=sizeLine
  rw[List.size_toArray,List.length_reverse,Array.length_toList]
  omega
 obtain⟨os,hos,hcs,hds⟩:=id hs
 have hTs:s.TypeIs (.ref sl) "slice" := ⟨os,hos,hcs⟩
 unfold getItem
 try with_reducible refine wpAny_holding ?_
 first|refine wpAny_bind (wpAny_pure ?_)|skip
 refine wpAny_bind (wpAny_sequenceKey ht.typeIs (by decide) ?_)
 refine wpAny_bind (wpAny_callSpecial?_slot (name:=Str.ofString "__getitem__") ht.typeIs PyProof.Rows.slot_tuple_getitem
  (wpAny_call_entry PyProof.Rows.slot_tuple_getitem ht.typeIs entry_tuple_getitem ?_ (args_tuple_getitem _ _)))
 show wpAny _ _ (Builtin.Tuple.tupleItemsOf (.ref t) >>= _) _ _ s
 refine wpAny_bind (tupleItemsOf_ ht ?_)
 refine wpAny_bind (wpAny_typeOf hTs ?_)
 rw[if_pos (by decide)]
 refine wpAny_bind (aa1 hs ?_)
 have hno:¬((((items.size:Int) - 1)==0&&(-1:Int)==1&&items.size==items.size)=true):=by
  have:((-1:Int)==1)=false:=rfl
  rw[this];simp
 show wpAny _ _ (if(((items.size:Int) - 1)==0&&(-1:Int)==1&&items.size==items.size)=true then _ else _) _ _ s
 rw[if_neg hno,bb1]
 first
  | exact wpAny_bind (m:=Builtin.Tuple.tupleExact _) (wpAny_newObj_type (wpAny_pure ⟨_,rfl,wpAny_pure h⟩) htake)
  | exact wpAny_bind (m:=Builtin.Tuple.tupleExact _) (wpAny_newObj_type (wpAny_bind (wpAny_pure (wpAny_pure ⟨_,rfl,wpAny_pure h⟩))) htake)
  | exact wpAny_bind (wpAny_bind (m:=Builtin.Tuple.tupleExact _) (wpAny_newObj_type (wpAny_pure (wpAny_pure ⟨_,rfl,wpAny_pure h⟩)) htake))
  | exact wpAny_bind (wpAny_bind (m:=Builtin.Tuple.tupleExact _) (wpAny_newObj_type (wpAny_pure ⟨_,rfl,wpAny_pure h⟩) htake))
end
section
variable {X:Cx}{e st:Expr}{te ts:TE}{p2 pos:Pos}
theorem at8:∀{xs:List V}{us:List Value},C5 xs us->C5 xs.reverse us.reverse
 | [],[],h=>h
 | x::xs,u::us,h=>by
  cases h with
  | cons a b=>rw[List.reverse_cons,List.reverse_cons];exact(at8 b).append (.cons a .nil)
theorem bK8(he:PE X e te) (hs:PE X st ts):PE X (.Subscript e (.Slice none none (some st) p2) pos)
  (fun σ H Q=>te σ H fun x H1=>ts σ H1 fun y H2=>∃a xs,x=.ref a/\y=.int (-1)/\SqT X.K H2 a xs/\∀p,H2 p=none->Q (.ref p) (upd H2 p (.tup xs.reverse))):=by
 intro pins s σ H Q I h
 refine Subscript_ (thn (he pins s σ H _ I h) fun v s1 ⟨x,H1,I1,r1,q1⟩=>?_)
 refine wpAny_Slice ?_
 rw[evalPart_none]
 refine wpAny_pure (wpAny_pure ?_)
 rw[evalPart_some]
 refine thn (hs pins s1 σ H1 _ I1 q1) fun vs s3 ⟨y,H3,I3,r3,a,xs,e1,e2,hx,q⟩=>?_
 subst e1 e2
 cases r1
 obtain⟨tk,rfl⟩:=r3
 have I4:Inv X pins σ H3 { s3 with heap:=s3.heap.push { cls:=.type "slice", data:=.fields #[.none,.none,.int (-1) tk] } }:=I3.kept (t':=s3.toks) fun b ob q=>Heap.get?_push_of_some _ q
 obtain⟨its,r,ht,hz⟩:=I4.tuple hx
 have hlen:its.toArray.size=xs.length:=by rw[List.size_toArray];exact r.length.symm
 show wpAny (model X.prog X.w) X.A (subscriptTail e (.Slice none none (some st) p2) (.ref a) (.ref s3.heap.objs.size)) (EP X pins σ Q) X.xe { s3 with heap:=s3.heap.push { cls:=.type "slice", data:=.fields #[.none,.none,.int (-1) tk] } }
 refine tail_any (ops:=[.ref a,.ref s3.heap.objs.size]) ht.typeIs PyProof.Rows.slot_tuple_getitem.lookup ?_ (by with_unfolding_all rfl)
 refine v7 ht (Heap.IsSliceOf.new ..) ?_ (by rw[hlen];exact hz)
 refine⟨.ref _,_,I4.laid (t':=s3.toks) (o:=.tup xs.reverse) (fun b ob q=>Heap.get?_push_of_some _ q) (Nat.le_refl _) ?_,rfl,q _ (I4.hok.fresh (Nat.le_refl _))⟩
 exact⟨by rw[List.length_reverse];exact hz,_,at8 r,ai9.new _ _⟩
theorem aZ8{K:PySem.W.Frag}{H:Hp}{ds:List D}{vs:List V}(h:Reps K H ds vs):Reps K H ds.reverse vs.reverse:=by
 induction ds generalizing vs with
 | nil=>cases vs with
  | nil=>exact h
  | cons _ _=>exact absurd h.length (by simp)
 | cons d ds ih=>cases vs with
  | nil=>exact absurd h.length (by simp)
  | cons v vs =>
   obtain⟨v',r',e,h1,h2⟩:=h
   cases e
   rw[List.reverse_cons,List.reverse_cons]
   exact(ih h2).append ⟨_,_,rfl,h1,rfl⟩
theorem bw8(ha:JE X a f) (hs:JE X st (bV0 (dC (.int 1)))):JE X (.Subscript a (.Slice none none (some st) p2) pos) (bD6 f):=fun ρ d q=>by
 obtain⟨x,e1,q⟩:=xbm q
 cases x with
 | tuple xs =>
  cases q
  refine A7 (bK8 (ha ρ _ e1) (hs ρ (.int (-1)) rfl)) fun σ H Q ⟨H0,Hf,s,sl,k⟩=>?_
  refine⟨H0,Hf,s,sl,fun v H1 Hf1 g1 ⟨p,vs,q1,q2,q3⟩=>⟨H0,Hf1,g1.sub,sl.grow g1,fun u H2 Hf2 g2 r2=>?_⟩⟩
  subst q1
  cases r2
  have q2':=B7 g2.ext q2
  have q3':=q3.mono g2.ext
  refine⟨p,vs,rfl,rfl,B7 g2.sub q2',fun p' hp=>?_⟩
  exact k _ _ _ ((g1.trans g2).trans (Grow.laid g2.sub hp)) ⟨p',_,rfl,SqT.of A5,(aZ8 q3').mono (C3 (g2.sub.free hp))⟩
 | _=>cases q
end
end G
namespace G
open PySem PySem.Spec PyProof.Rows L2
section
variable {X:Cx}
noncomputable def atS(x:Str) (i:Int):Option D:=if x.length<=16777216 then(atI x.cps.toList i).map fun c=>.str ⟨#[c]⟩ else none
noncomputable def ch0(f g:DE):DE:=fun ρ=>(f ρ).bind fun x=>(g ρ).bind fun i=>match x,i with
 | .str x,.int i=>atS x i
 | _,_=>none
theorem bS3(ha:JE X a f) (hb:JE X b g) (hs:z7 b:=by intro _ _;rfl):JE X (.Subscript a b pos) (ch0 f g):=fun ρ d q=>by
 obtain⟨x,h1,q⟩:=xbm q
 obtain⟨y,h2,h3⟩:=xbm q
 split at h3
 ·rename_i x i
  unfold atS at h3
  split at h3
  ·rename_i hz
   obtain⟨c,e1,e2⟩:=Option.map_eq_some_iff.mp h3
   subst e2
   refine A7 (bC3 bh8 (ha ρ _ h1) (hb ρ _ h2) hs) fun σ H Q ⟨H0,Hf,s,sl,k⟩=>?_
   refine⟨H0,Hf,s,sl,fun v H1 Hf1 g1 r1=>⟨H0,Hf1,g1.sub,sl.grow g1,fun u H2 Hf2 g2 r2=>?_⟩⟩
   exact .inr (.inr ⟨x,i,c,r1,r2,by rw[sizeLine_eq];exact hz,e1,k _ H2 Hf2 (g1.trans g2) rfl⟩)
  ·cases h3
 ·cases h3
noncomputable def bk7(f:DE) (lo hi:Rho->Option (Option Int)):DE:=fun ρ=>(f ρ).bind fun d=>(lo ρ).bind fun l=>(hi ρ).bind fun h=>match d with
 | .tuple xs=>some (.tuple (ae2 xs l h))
 | .list xs=>some (.list (ae2 xs l h))
 | _=>none
theorem bS0{a:Expr}{lo hi:Option Expr}{f:DE}{l h:Rho->Option (Option Int)}{pos p2:Pos}(ha:JE X a f) (hl:JO X lo l) (hh:JO X hi h):JE X (.Subscript a (.Slice lo hi none p2) pos) (bk7 f l h):=fun ρ d q=>by
 obtain⟨x,e1,q⟩:=xbm q
 obtain⟨y,e2,q⟩:=xbm q
 obtain⟨z,e3,q⟩:=xbm q
 cases x with
 | tuple xs =>
  cases q
  refine bh0 ha hl hh ρ _ ?_
  unfold ar9
  rw[e1,Option.bind_some,e2,Option.bind_some,e3,Option.bind_some]
 | list xs =>
  cases q
  refine A7 (t7 aI0 (ha ρ _ e1) (hl ρ y e2) (hh ρ z e3)) fun σ H Q ⟨H0,Hf,s,sl,k⟩=>?_
  refine⟨H0,Hf,s,sl,fun v H1 Hf1 g1 ⟨p,vs,q1,q2,q3⟩=>⟨H0,Hf1,g1.sub,sl.grow g1,fun H2 Hf2 g2=>⟨H0,Hf2,g2.sub,sl.grow (g1.trans g2),fun H3 Hf3 g3=>?_⟩⟩⟩
  subst q1
  have q2':=D0 (g2.trans g3).ext q2
  have q3':=q3.mono (g2.trans g3).ext
  refine⟨p,vs,rfl,D0 g3.sub q2',fun p' hp=>?_⟩
  exact k _ _ _ (((g1.trans g2).trans g3).trans (Grow.laid g3.sub hp)) ⟨p',_,rfl,SqL.of A5,(ag4 q3' y z).mono (C3 (g3.sub.free hp))⟩
 | _=>cases q
end
end G
namespace G
open PySem PySem.Spec PyProof.Rows L2
section
variable {X:Cx}
theorem aG6:∀{ys:List Str}{us:List Value},C5 (ys.map V.str) us->∃l:List (Str×Tok),us=strValues l/\l.map (·.1)=ys
 | [],[],_=>⟨[],rfl,rfl⟩
 | y::ys,u::us,h=>by
  cases h with
  | cons a b =>
   obtain⟨t,rfl⟩:=a
   obtain⟨l,rfl,rfl⟩:=aG6 b
   exact⟨(y,t)::l,rfl,rfl⟩
noncomputable def aq5(sep:Str) (ys:List Str):Nat:=ys.toArray.foldl (fun n y=>n+y.length+sep.length) 0
noncomputable def cb2(K:PySem.W.Frag):V->List V->Hp->VK->Prop:=fun x vs H Q=>∃sep p ys,x=.str sep/\vs=[.ref p]/\SqL K H p (ys.map V.str)/\aq5 sep ys<=sizeLine/\(Builtin.Str.glued sep ys).length<=sizeLine/\Q (.str (Builtin.Str.glued sep ys)) H
theorem bu7:MtR X "str.join" (cb2 X.K):=by
 intro pins s σ H x vs v us Q I rx rv h
 obtain⟨sep,p,ys,rfl,rfl,hq,hz,hg,q⟩:=h
 obtain⟨t,rfl⟩:=rx
 obtain⟨u,rfl,ru⟩:=rv.one
 cases ru
 obtain⟨its,r,pl,_⟩:=I.list hq
 obtain⟨l,rfl,rfl⟩:=aG6 r
 refine call_meets F.slot_str_join (typeIs_str s sep t) F.entry_str_join (F.args_str_join_2 _ _) (meets_str_join_list sep t p l ?_) ⟨pl.isList,?_⟩
 ·show decide (aq5 sep (l.map (·.1)) > sizeLine)=false
  exact decide_eq_false (by grind)
 ·match l,q,hg with
  | [],q,hg=>exact⟨hg,.str _,H,I.tok _,⟨_,rfl⟩,q⟩
  | [a],q,_=>exact⟨.str _,H,I,⟨_,rfl⟩,q⟩
  | a::b::r,q,hg=>exact⟨hg,.str _,H,I.tok _,⟨_,rfl⟩,q⟩
noncomputable def aG7:List D->Option (List Str)
 | []=>some []
 | .str x::r=>(aG7 r).map fun ys=>x::ys
 | _::_=>none
theorem aa2{K:PySem.W.Frag}{H:Hp}:∀{ds:List D}{ys:List Str}{vs:List V},aG7 ds=some ys->Reps K H ds vs->vs=ys.map V.str
 | [],ys,vs,h,r=>by cases h;exact r
 | .str x::ds,ys,vs,h,r=>by
  obtain⟨zs,e1,e2⟩:=Option.map_eq_some_iff.mp h
  subst e2
  obtain⟨v,r',e,h1,h2⟩:=r
  subst e
  rw[aa2 e1 h2]
  cases h1
  rfl
noncomputable def bE2(f:DE) (g:Rho->Option (Bool×List D)):DE:=fun ρ=>(f ρ).bind fun s=>(g ρ).bind fun q=>match s with
 | .str sep=>if q.1=true then none else(aG7 q.2).bind fun ys=>if aq5 sep ys<=16777216/\(Builtin.Str.glued sep ys).length<=16777216 then some (.str (Builtin.Str.glued sep ys)) else none
 | _=>none
theorem bx5(ho:JE X o f) (h:JQ X e g)
  (hbase:attributeBase o "join" X.env (eval o X.env)=eval o X.env:=by rfl)
  (hfew:((backTo cpos (starEach [e] X.env)).all (fun x=>!x.1)&&(backToKw cpos (keywordEach [] X.env)).all (fun x=>x.1.isSome)
   && decide (([e]:List Expr).length+([]:List Keyword).length+(if([]:List Keyword).isEmpty then 0 else 1) < 30))=true:=by rfl)
  (hline:(apos.endLine==cpos.line)=true:=by rfl) (hs:starEach [e] X.env=[(false,eval e X.env)]:=by rfl) :
  JE X (.Call (.Attribute o "join" apos) [e] [] cpos) (bE2 f g):=fun ρ d q=>by
 obtain⟨s,e1,q⟩:=xbm q
 obtain⟨⟨t,ds⟩,e2,q⟩:=xbm q
 cases s with
 | str sep =>
  cases t with
  | true=>simp at q
  | false =>
   simp only[Bool.false_eq_true,if_false]at q
   obtain⟨ys,e3,q⟩:=xbm q
   split at q
   ·rename_i hz
    cases q
    refine A7 (al0 F.plainAttrs_str F.slot_str_join F.type_str_join bu7 (ho ρ _ e1) (B2 (h ρ false ds e2) C6 hs) hbase hfew hline hs) fun σ H Q ⟨H0,Hf,s,sl,k⟩=>?_
    refine⟨H0,Hf,s,sl,fun v H1 Hf1 g1 r1=>?_⟩
    cases r1
    refine⟨rfl,H0,Hf1,g1.sub,sl.grow g1,fun w H2 Hf2 g2 ⟨p,vs,z1,z2,z3⟩=>?_⟩
    subst z1
    rw[aa2 e3 z3]at z2
    exact⟨sep,p,ys,rfl,rfl,z2,by rw[sizeLine_eq];exact hz.1,by rw[sizeLine_eq];exact hz.2,k _ H2 Hf2 (g1.trans g2) rfl⟩
   ·cases q
 | _=>cases q
end
end G
namespace G
open PySem PySem.Spec PyProof.Rows L2
section
open PySem.SeqAt PySem.MeetsSeq PySem.MeetsSeq2 PySem.MeetsSeq3 PySem.SeqRoads2
open PySem.AutoSeq1 (wpAny_loadPart')
theorem ag0(l:Addr) (items:Array Value) (n:Nat) (dd:Option Addr) (sl:Array (Option Value)) (x:Value) (e:Nat->Bool) :
  Meets (Builtin.«tuple.__contains__» ⟨[.ref l,x],[]⟩)
   (fun A R s=>s.heap.get? l=some { cls:=.type "tuple", dict:=dd,data:=.seq items n,slots:=sl }/\(∀j (h:j < items.size),EqAt A.in1 s items[j] x (e j))/\R (.ok (.ret (.bool ((List.range items.size).any e)))) s) :=
 .of_wp fun prog w A R s h=>by
  obtain⟨hp,g,d,tk,os⟩:=s;obtain⟨hl,he,h⟩:=h
  wp_walk using wpAny_loadPart' hl,wpAny_forIn_array _ (fun M6 b s'=>b.1=none/\s'=⟨hp,g,d,tk,os⟩/\∃i,M6=items.toList.drop i/\R (.ok (.ret (.bool (((List.range items.size).drop i).any e)))) ⟨hp,g,d,tk,os⟩) _
  case turn =>
   rintro y M6 b s' ⟨hb,rfl,i,hz,hR⟩
   have hlt:i < items.toList.length:=by
    rcases Nat.lt_or_ge i items.toList.length with h'|h'
    ·exact h'
    ·rw[List.drop_of_length_le h']at hz;cases hz
   have hi:i < items.size:=by simpa using hlt
   rw[List.drop_eq_getElem_cons hlt]at hz
   injection hz with hy hrest
   have hy:y=items[i]:=by simpa using hy
   subst hy
   have hd:(List.range items.size).drop i=i::(List.range items.size).drop (i+1):=by simp[List.drop_eq_getElem_cons,hi]
   rw[hd,List.any_cons]at hR
   refine wpAny_bind (he i hi prog w _ _ ?_)
   cases hy:e i with
   | true =>
    rw[hy]at hR
    wp_walk
    exact⟨_,rfl,by simpa using hR⟩
   | false =>
    rw[hy]at hR
    wp_walk
    exact⟨rfl,rfl,i+1,hrest,by simpa using hR⟩
  case fin =>
   rintro⟨b1,b2⟩ s' ⟨hb,rfl,i,hz,hR⟩
   simp only at hb
   subst hb
   have hge:items.size<=i:=by
    rcases Nat.lt_or_ge i items.toList.length with h'|h'
    ·rw[List.drop_eq_getElem_cons h']at hz;cases hz
    ·simpa using h'
   rw[List.drop_of_length_le (by simpa using hge)]at hR
   wp_walk
   exact⟨_,rfl,by simpa using hR⟩
  case h =>
   exact⟨rfl,rfl,0,by simp,by simpa using h⟩
end
section
variable {X:Cx}
noncomputable def U7:D->Bool
 | .none=>true
 | .bool _=>true
 | .int _=>true
 | .str _=>true
 | _=>false
noncomputable def toV:D->V
 | .none=>.non
 | .bool b=>.bl b
 | .int i=>.int i
 | .str x=>.str x
 | _=>.non
theorem U5{K:PySem.W.Frag}{H:Hp}{d:D}{v:V}(f:U7 d=true) (r:Rep K H d v):v=toV d/\i8 v=true:=by
 cases d with
 | none=>cases r;exact⟨rfl,rfl⟩
 | bool b=>cases r;exact⟨rfl,rfl⟩
 | int i=>cases r;exact⟨rfl,rfl⟩
 | str x=>cases r;exact⟨rfl,rfl⟩
 | tuple _=>cases f
 | list _=>cases f
 | dict _=>cases f
theorem f7{K:PySem.W.Frag}{H:Hp}:∀{ds:List D}{vs:List V},ds.all U7=true->Reps K H ds vs->vs=ds.map toV/\vs.all i8=true
 | [],vs,_,r=>by cases(show vs=[] from r);exact⟨rfl,rfl⟩
 | d::ds,vs,f,r=>by
  rw[List.all_cons,Bool.and_eq_true]at f
  obtain⟨v,r',e,h1,h2⟩:=r
  subst e
  obtain⟨e1,e2⟩:=U5 f.1 h1
  obtain⟨e3,e4⟩:=f7 f.2 h2
  subst e1 e3
  exact⟨rfl,by rw[List.all_cons,e2,e4];rfl⟩
noncomputable def isS:D->Bool
 | .str _=>true
 | _=>false
noncomputable def inD(neg:Bool) (x y:D):Option D:=match y with
 | .list ds=>if U7 x=true/\ds.all U7=true then some (.bool (if neg then !inV (toV x) (ds.map toV) else inV (toV x) (ds.map toV))) else none
 | .tuple ds=>if U7 x=true/\ds.all U7=true then some (.bool (if neg then !inV (toV x) (ds.map toV) else inV (toV x) (ds.map toV))) else if U7 x=false/\SeqAt.shaped x=true/\ds.all isS=true then some (.bool neg) else if SeqAt.shaped x=true/\x.depth<=60/\ds.all SeqAt.shaped=true then some (.bool (if neg then !(ds.any fun y=>PyData.eqv y x) else ds.any fun y=>PyData.eqv y x)) else none
 | _=>none
theorem by9(f:U7 x=false) (sh:SeqAt.shaped x=true) (r:Reads s.heap v x as) (hu:A.units < cLine) (a:Str) (t:Tok):SeqAt.EqAt A s (.str a t) v false:=by
 cases r with
 | none=>cases f
 | bool _=>cases f
 | int _ _=>cases f
 | str _ _=>cases f
 | list h1 h2 h3 _=>exact SeqAt.EqAt.str_list a t ⟨_,h1,h2,_,h3⟩ hu
 | tuple h1 h2 h3 _=>exact SeqAt.EqAt.str_tuple a t ⟨_,h1,h2,_,h3⟩ hu
 | dict _ _ _ _ _=>exact absurd (SeqAt.canLay_of_shaped sh) (by simp[PyData.canLay0])
theorem ax7{K:PySem.W.Frag}{H:Hp}:∀{ds:List D}{vs:List V}{us:List Value},ds.all isS=true->Reps K H ds vs->C5 vs us->∀y∈us,∃a t,y=Value.str a t
 | [],_,_,_,r,w=>by cases(show _=[] from r);cases w;intro y hy;cases hy
 | d::ds,_,_,f,r,w=>by
  rw[List.all_cons,Bool.and_eq_true]at f
  obtain⟨v,r',rfl,h1,h2⟩:=r
  cases w with
  | cons w1 w2 =>
   intro y hy
   rcases List.mem_cons.mp hy with rfl|hy
   ·cases d with
    | str a =>
     cases(show v=.str a from h1)
     obtain⟨t,e⟩:=w1
     exact⟨a,t,e⟩
    | _=>cases f.1
   ·exact ax7 f.2 h2 w2 y hy
theorem bi1{x:D}{ds:List D}{vx vy:V}{v u:Value}{pins:List (Addr×Obj)}{s:Shared}{σ:L2.St}{H Hf:Hp}{Q:Value->Shared->Prop}(hu:X.A.units+64 < cLine) (f:U7 x=false) (sh:SeqAt.shaped x=true) (a:ds.all isS=true) (I:L2.Inv X pins σ H s) (rx:C1 vx v) (ry:C1 vy u) (ss:B6 Hf H) (r1:Rep X.K Hf x vx) (r2:Rep X.K Hf (.tuple ds) vy) :
  (Q (.bool false) s->wpAny (model X.prog X.w) X.A (compareOp .In v u) Q X.xe s)/\(Q (.bool true) s->wpAny (model X.prog X.w) X.A (compareOp .NotIn v u) Q X.xe s):=by
 obtain⟨p,vs,rfl,h2,h3⟩:=r2
 obtain rfl:u=Value.ref p:=ry
 obtain⟨its,rv,pl,_⟩:=I.tuple (B7 ss h2)
 obtain⟨as,rd⟩:=Rep.reads I (r1.mono ss) rx
 have st:=ax7 a h3 rv
 have he:∀y,y∈its.toArray->SeqAt.EqAt X.A.in1 s y v ((fun _=>false) y):=fun y hy=>by
  obtain⟨b,t,rfl⟩:=st y (by simpa using hy)
  exact by9 f sh rd (by show X.A.units+1 < _;grind) b t
 have no:its.toArray.any (fun _=>false)=false:=by simp
 refine⟨fun q=>SeqAt.in_tupleAt (fun _=>false) pl he (by rw[no];exact q),fun q=>SeqAt.notIn_tupleAt (fun _=>false) pl he (by rw[no];exact q)⟩
theorem bJ8:∀{vs:List Value}{ds:List D}{as:List Addr},ReadsAll h vs ds as->vs.length=ds.length/\∀(j:Nat) (hj:j < vs.length),∃bs,Reads h vs[j] (ds.getD j .none) bs
 | [],_,_,r=>by cases r;exact⟨rfl,fun j hj=>absurd hj (Nat.not_lt_zero _)⟩
 | v::vs,_,_,r=>by
  cases r with
  | cons r1 r2 =>
   obtain⟨h1,h2⟩:=bJ8 r2
   refine⟨by rw[List.length_cons,List.length_cons,h1],fun j hj=>?_⟩
   cases j with
   | zero=>exact⟨_,r1⟩
   | succ j=>exact h2 j (by simpa using hj)
theorem aV7{α:Type}(p:α->Bool) (z:α) (l:List α):(List.range l.length).any (fun j=>p (l.getD j z))=l.any p:=by
 rw[Bool.eq_iff_iff,List.any_eq_true,List.any_eq_true]
 constructor
 ·rintro⟨j,hj,h⟩
  have hj:=List.mem_range.mp hj
  exact⟨l[j],List.getElem_mem hj,by simpa [hj] using h⟩
 ·rintro⟨x,hx,h⟩
  obtain⟨j,hj,rfl⟩:=List.getElem_of_mem hx
  exact⟨j,List.mem_range.mpr hj,by simpa [hj] using h⟩
theorem aG3(hu:X.A.units+64 < cLine) (sx:SeqAt.shaped x=true) (dx:x.depth<=60) (sd:ds.all SeqAt.shaped=true) (I:L2.Inv X pins σ H s) (rx:C1 vx v) (ss:B6 Hf H) (r1:Rep X.K Hf x vx) (h2:SqT X.K Hf p vs) (h3:Reps X.K Hf ds vs) :
  ∃its:List Value,IsTup s.heap p its.toArray/\its.length=ds.length/\∀j (h:j < its.toArray.size),SeqAt.EqAt X.A.in1 s its.toArray[j] v (PyData.eqv (ds.getD j .none) x):=by
 obtain⟨its,rv,pl,_⟩:=I.tuple (B7 ss h2)
 obtain⟨as,rd⟩:=Rep.reads I (r1.mono ss) rx
 obtain⟨bs,ra⟩:=Reps.reads I (h3.mono ss) rv
 obtain⟨e1,e2⟩:=bJ8 ra
 refine⟨its,pl,e1,fun j hj=>?_⟩
 have hj':j < its.length:=by simpa using hj
 obtain⟨cs,q⟩:=e2 j hj'
 have hd:j < ds.length:=by grind
 have sj:=List.all_eq_true.mp sd _ (List.getElem_mem hd)
 have ej:ds.getD j .none=ds[j]:=by simp[hd]
 rw[ej]at q ⊢
 have:=SeqAt.eqAt_reads ds[j] x X.A.in1 s _ _ _ _ q rd (SeqAt.canLay_of_shaped sj) (SeqAt.canLay_of_shaped sx) (by show X.A.units+1+_ < _;have:=Nat.min_le_right ds[j].depth x.depth;grind)
 simpa using this
theorem bi0(hu:X.A.units+64 < cLine) (sx:SeqAt.shaped x=true) (dx:x.depth<=60) (sd:ds.all SeqAt.shaped=true) (I:L2.Inv X pins σ H s) (rx:C1 vx v) (ry:C1 vy u) (ss:B6 Hf H) (r1:Rep X.K Hf x vx) (r2:Rep X.K Hf (.tuple ds) vy) :
  (Q (.bool (ds.any fun y=>PyData.eqv y x)) s->wpAny (model X.prog X.w) X.A (compareOp .In v u) Q X.xe s)/\(Q (.bool (!(ds.any fun y=>PyData.eqv y x))) s->wpAny (model X.prog X.w) X.A (compareOp .NotIn v u) Q X.xe s):=by
 obtain⟨p,vs,rfl,h2,h3⟩:=r2
 obtain rfl:u=Value.ref p:=ry
 obtain⟨its,pl,ln,he⟩:=aG3 hu sx dx sd I rx ss r1 h2 h3
 obtain⟨⟨cls,dd,data,sl⟩,ho,hc,n,hd⟩:=id pl
 simp only at hc hd
 subst hc hd
 have ea:(List.range its.toArray.size).any (fun j=>PyData.eqv (ds.getD j .none) x)=ds.any fun y=>PyData.eqv y x:=by
  rw[List.size_toArray,ln]
  exact aV7 (fun y=>PyData.eqv y x) .none ds
 refine⟨fun q=>SeqRoads2.in_meets ⟨_,ho,rfl⟩ F.slot_tuple_contains F.entry_tuple_contains (F.args_tuple_contains_2 _ _) (ag0 p its.toArray n dd sl v _) ⟨ho,he,_,rfl,by rw[ea];exact q⟩,
  fun q=>SeqRoads2.notIn_meets ⟨_,ho,rfl⟩ F.slot_tuple_contains F.entry_tuple_contains (F.args_tuple_contains_2 _ _) (ag0 p its.toArray n dd sl v _) ⟨ho,he,_,rfl,by rw[ea];exact q⟩⟩
theorem bi2{op:CmpOp}{neg:Bool}(o:OpR X (compareOp op) (rIn X.K neg)) (o2:∀x ds,U7 x=false->SeqAt.shaped x=true->ds.all isS=true->OpR X (compareOp op) (fun vx vy H Q=>∃Hf,B6 Hf H/\Rep X.K Hf x vx/\Rep X.K Hf (.tuple ds) vy/\∀v H' Hf',Grow H Hf H' Hf'->Rep X.K Hf' (.bool neg) v->Q v H'))
  (o3:∀x ds,SeqAt.shaped x=true->x.depth<=60->ds.all SeqAt.shaped=true->OpR X (compareOp op) (fun vx vy H Q=>∃Hf,B6 Hf H/\Rep X.K Hf x vx/\Rep X.K Hf (.tuple ds) vy/\∀v H' Hf',Grow H Hf H' Hf'->Rep X.K Hf' (.bool (if neg then !(ds.any fun y=>PyData.eqv y x) else ds.any fun y=>PyData.eqv y x)) v->Q v H')):OpD X (compareOp op) (inD neg):=fun x y z h=>by
 unfold inD at h
 split at h
 ·split at h
  ·rename_i c
   cases h
   refine OpR.imp o fun vx vy H Q ⟨Hf,s,r1,r2,k⟩=>?_
   obtain⟨p,vs,rfl,h2,h3⟩:=r2
   obtain⟨e1,e2⟩:=U5 c.1 r1
   obtain⟨e3,e4⟩:=f7 c.2 h3
   subst e1 e3
   exact⟨p,_,rfl,.inl (D0 s h2),e2,e4,k _ H Hf (Grow.refl s) rfl⟩
  ·cases h
 ·split at h
  ·rename_i c
   cases h
   refine OpR.imp o fun vx vy H Q ⟨Hf,s,r1,r2,k⟩=>?_
   obtain⟨p,vs,rfl,h2,h3⟩:=r2
   obtain⟨e1,e2⟩:=U5 c.1 r1
   obtain⟨e3,e4⟩:=f7 c.2 h3
   subst e1 e3
   exact⟨p,_,rfl,.inr (B7 s h2),e2,e4,k _ H Hf (Grow.refl s) rfl⟩
  ·split at h
   ·rename_i c
    cases h
    exact o2 _ _ c.1 c.2.1 c.2.2
   ·split at h
    ·rename_i c
     cases h
     exact o3 _ _ c.1 c.2.1 c.2.2
    ·cases h
 ·cases h
theorem cd1(hu:X.A.units+64 < cLine):OpD X (compareOp .In) (inD false):=bi2 aQ3 (fun x ds f sh a pins s σ H vx vy v u Q I rx ry ⟨Hf,ss,r1,r2,k⟩=>(bi1 hu f sh a I rx ry ss r1 r2).1 ⟨.bl false,H,I,rfl,k _ H Hf (Grow.refl ss) rfl⟩)
 fun x ds sx dx sd pins s σ H vx vy v u Q I rx ry ⟨Hf,ss,r1,r2,k⟩=>(bi0 hu sx dx sd I rx ry ss r1 r2).1 ⟨.bl _,H,I,rfl,k _ H Hf (Grow.refl ss) rfl⟩
theorem bd6(hu:X.A.units+64 < cLine):OpD X (compareOp .NotIn) (inD true):=bi2 ap3 (fun x ds f sh a pins s σ H vx vy v u Q I rx ry ⟨Hf,ss,r1,r2,k⟩=>(bi1 hu f sh a I rx ry ss r1 r2).2 ⟨.bl true,H,I,rfl,k _ H Hf (Grow.refl ss) rfl⟩)
 fun x ds sx dx sd pins s σ H vx vy v u Q I rx ry ⟨Hf,ss,r1,r2,k⟩=>(bi0 hu sx dx sd I rx ry ss r1 r2).2 ⟨.bl _,H,I,rfl,k _ H Hf (Grow.refl ss) rfl⟩
end
end G
namespace G
open PySem PySem.Spec PyProof.Rows L2
section
variable {X:Cx}
theorem bm1:bootBuiltins "min" = some (.builtin "min"):=by decide +kernel
theorem aF0:bootBuiltins "max" = some (.builtin "max"):=by decide +kernel
theorem bW4:bootBuiltins "abs" = some (.builtin "abs"):=by decide +kernel
noncomputable def bD8(f g:DE):DE:=fun ρ=>(f ρ).bind fun x=>(g ρ).bind fun y=>match x,y with
 | .int i,.int j=>some (.int (if j < i then j else i))
 | _,_=>none
noncomputable def bE0(f g:DE):DE:=fun ρ=>(f ρ).bind fun x=>(g ρ).bind fun y=>match x,y with
 | .int i,.int j=>some (.int (if j > i then j else i))
 | _,_=>none
noncomputable def ch3(f:DE):DE:=fun ρ=>(f ρ).bind fun x=>match x with
 | .int i=>some (.int (if i < 0 then -i else i))
 | _=>none
theorem bT2(hg:Gl X "abs") (hm:X.mg "abs" = none) (h:JE X e f) (he:starEach [e] X.env=[(false,eval e X.env)]:=by rfl):JE X (.Call (.Name "abs" p) [e] [] pos) (ch3 f):=fun ρ d q=>by
 obtain⟨x,h1,h2⟩:=xbm q
 split at h2
 ·cases h2
  exact A7 (M4 bl4 hg hm bW4 (B2 (h ρ _ h1) C6 he) (he:=he)) fun σ H Q ⟨H0,Hf,s,sl,k⟩ =>
   ⟨H0,Hf,s,sl,fun v H1 Hf1 g1 r=>⟨_,by rw[show v=_ from r],k _ H1 Hf1 g1 rfl⟩⟩
 ·cases h2
theorem bx0(hg:Gl X "min") (hm:X.mg "min" = none) (h:JE X e f) (h':JE X e' g) (hc:X.calm=true:=by rfl) (he:starEach [e,e'] X.env=(false,eval e X.env)::starEach [e'] X.env:=by rfl) (he':starEach [e'] X.env=[(false,eval e' X.env)]:=by rfl)
  (hpl:(backTo pos (starEach [e'] X.env)).any (·.1)=false:=by rfl):JE X (.Call (.Name "min" p) [e,e'] [] pos) (bD8 f g):=fun ρ d q=>by
 obtain⟨x,h1,q⟩:=xbm q
 obtain⟨y,h2,h3⟩:=xbm q
 split at h3
 ·cases h3
  exact A7 (M4 (aU9 hc) hg hm bm1 (B2 (h ρ _ h1) (B2 (h' ρ _ h2) C6 he') he) (he:=he) (hpl:=hpl)) fun σ H Q ⟨H0,Hf,s,sl,k⟩ =>
   ⟨H0,Hf,s,sl,fun v H1 Hf1 g1 r=>⟨H0,Hf1,g1.sub,sl.grow g1,fun w H2 Hf2 g2 r2=>⟨_,_,by rw[show v=_ from r,show w=_ from r2],k _ H2 Hf2 (g1.trans g2) rfl⟩⟩⟩
 ·cases h3
theorem bx2(hg:Gl X "max") (hm:X.mg "max" = none) (h:JE X e f) (h':JE X e' g) (hc:X.calm=true:=by rfl) (he:starEach [e,e'] X.env=(false,eval e X.env)::starEach [e'] X.env:=by rfl) (he':starEach [e'] X.env=[(false,eval e' X.env)]:=by rfl)
  (hpl:(backTo pos (starEach [e'] X.env)).any (·.1)=false:=by rfl):JE X (.Call (.Name "max" p) [e,e'] [] pos) (bE0 f g):=fun ρ d q=>by
 obtain⟨x,h1,q⟩:=xbm q
 obtain⟨y,h2,h3⟩:=xbm q
 split at h3
 ·cases h3
  exact A7 (M4 (aV2 hc) hg hm aF0 (B2 (h ρ _ h1) (B2 (h' ρ _ h2) C6 he') he) (he:=he) (hpl:=hpl)) fun σ H Q ⟨H0,Hf,s,sl,k⟩ =>
   ⟨H0,Hf,s,sl,fun v H1 Hf1 g1 r=>⟨H0,Hf1,g1.sub,sl.grow g1,fun w H2 Hf2 g2 r2=>⟨_,_,by rw[show v=_ from r,show w=_ from r2],k _ H2 Hf2 (g1.trans g2) rfl⟩⟩⟩
 ·cases h3
theorem bh7(Fk:FnOk X.prog X.w X.K X.mg X.base CX0 k f fd ps (spF X.K 0 F)) (hr:Room k X.A) (hg:Gl X x) (hm:X.mg x=some (.ref f)) (hk:PySem.W.keepIn X.K (.ref f)=true) (hb:O9 X.K fd ps [])
  (hdb:(x==("__debug__" : Str))=false:=by decide):JE X (.Call (.Name x p) [] [] pos) (B1 F A9):=fun ρ d q=>by
 have h2:F []=some d:=q
 refine A7 (bc4 Fk hr hg hm hk hb .nil ah2 hdb) fun σ H Q ⟨H0,Hf,s,sl,kk⟩=>?_
 exact⟨rfl,Hf,[],d,s,rfl,h2,fun v H2 Hf2 g2 r2=>kk v H2 Hf2 g2 r2⟩
end
end G
namespace G
open PySem PySem.Spec PyProof.Rows L2
noncomputable def am8(K:PySem.W.Frag):List D->List Value->Prop
 | [],us=>us=[]
 | d::ds,us=>∃u r,us=u::r/\aF8 K d u/\am8 K ds r
section
variable {K:PySem.W.Frag}
theorem aR8:am8 K [] []:=rfl
theorem ah5(h:aF8 K d u) (t:am8 K ds us):am8 K (d::ds) (u::us):=⟨u,us,rfl,h,t⟩
theorem al3:∀{ds:List D}{us:List Value},am8 K ds us->∃vs,C5 vs us/\∀H:Hp,Reps K H ds vs
 | [],_,h=>by cases h;exact⟨[],.nil,fun _=>rfl⟩
 | d::ds,_,⟨u,r,e,⟨v,h1,h2⟩,h3⟩=>by
  subst e
  obtain⟨vs,q1,q2⟩:=al3 h3
  exact⟨v::vs,.cons h1 q1,fun H=>⟨v,vs,rfl,h2 H,q2 H⟩⟩
theorem ax1(i:Int) (t:Tok):aF8 K (.int i) (.int i t):=⟨.int i,⟨t,rfl⟩,fun _=>rfl⟩
theorem bf2(h:K.lookup a=some o) (hc:o.cls=.type "tuple") (hn:o.dict=none) (hd:o.data=.seq its n) (hz:its.size<=1000) (hi:am8 K ds its.toList):aF8 K (.tuple ds) (.ref a):=by
 obtain⟨vs,q1,q2⟩:=al3 hi
 exact⟨.ref a,rfl,fun H=>⟨a,vs,rfl,.inr ⟨o,its,n,h,hc,hn,hd,Nat.le_of_lt (R9 hz),q1⟩,q2 H⟩⟩
end
end G
namespace G
open PySem PySem.Spec PyProof.Rows L2
theorem aw2(l:Addr) (items:Array Value) (n:Nat) (dd:Option Addr) (sl:Array (Option Value)) (u:Tok) :
  Meets (Builtin.«tuple.__mul__» ⟨[.ref l,.int 1 u],[]⟩) (fun _ R s=>s.heap.get? l=some ⟨.type "tuple", dd,.seq items n,sl⟩/\R (.ok (.ret (Value.ref l))) s) :=
 .of_wp fun prog w A R s h=>by
  obtain⟨hp,g,d,tk,os⟩:=s
  obtain⟨hl,h⟩:=h
  wp_walk
  exact⟨_,rfl,h⟩
section
variable {X:Cx}
theorem bc8:OpR X (binaryOp .Mult) (fun x y H Q=>∃l xs,x=.ref l/\y=.int 1/\SqT X.K H l xs/\Q (.ref l) H):=by
 intro pins s σ H x y v u Q I rx ry h
 obtain⟨l,xs,rfl,rfl,hq,q⟩:=h
 cases rx
 obtain⟨t,rfl⟩:=ry
 obtain⟨its,r,p1,_⟩:=I.tuple hq
 obtain⟨⟨cls,dd,data,sl⟩,ho,hc,n,hd⟩:=id p1
 simp only at hc hd
 subst hc hd
 exact wpAny_binaryOp_repeat_ref (T := "tuple") (U := "int") (by decide) ⟨_,ho,rfl⟩ (fun s'=>typeIs_int s' 1 t) ac5 F.fills_int_mul F.slot_int_rmul ak8 F.slot_int_index.lookup
  (call_meets F.slot_int_rmul (typeIs_int s 1 t) F.entry_int_rmul (F.args_int_rmul_2 _ _) (r9 1 t l its.toArray n dd sl) ⟨ho,rfl,⟨_,ho,rfl⟩,
   call_meets F.slot_tuple_mul ⟨_,ho,rfl⟩ F.entry_tuple_mul (F.args_tuple_mul_2 _ _) (aw2 l its.toArray n dd sl t) ⟨ho,⟨.ref l,H,I,rfl,q⟩⟩⟩)
theorem an9(a:Int) (t:Tok) (l:Addr) (items:Array Value) (n:Nat) (dd:Option Addr) (sl:Array (Option Value)) :
  Meets (Builtin.«int.__rmul__» ⟨[.int a t,.ref l],[]⟩) (fun _ R s=>s.heap.get? l=some ⟨.type "list", dd,.seq items n,sl⟩/\R (.ok (.ret Value.notImplemented)) s):=Meets.of_wp fun prog w A R s h=>by
 obtain⟨hp,g,d,tk,os⟩:=s
 obtain⟨hl,h⟩:=h
 wp_walk
 exact⟨_,rfl,h⟩
theorem aw4(l:Addr) (items:Array Value) (n:Nat) (dd:Option Addr) (sl:Array (Option Value)) (x:Int) (u:Tok) (c0:¬(!Builtin.List.listFitsIndex x)=true) (c1:¬items.size*x.toNat > (2 ^ 63 - 1) / 8) (c2:¬Builtin.List.listTooLong (items.size*x.toNat)=true) :
  Meets (Builtin.«list.__mul__» ⟨[.ref l,.int x u],[]⟩) (fun _ R s=>s.heap.get? l=some ⟨.type "list", dd,.seq items n,sl⟩/\R (.ok (.ret (Value.ref s.heap.objs.size))) { s with heap:=s.heap.push { cls:=Value.type "list", data:=Data.seq (List.foldl (fun x1 x2=>x1++x2) #[] (List.replicate (if items.isEmpty=true then 0 else x.toNat) items)) } }):=Meets.of_wp fun prog w A R s h=>by
 obtain⟨hp,g,d,tk,os⟩:=s
 obtain⟨hl,h⟩:=h
 have hsz:=AutoListH.joined_fits c2
 wp_walk
 refine wpAny_ite_false (decide_eq_false (Nat.not_lt.mpr hsz)) ?_
 wp_walk
 exact⟨_,rfl,h⟩
theorem bt3:OpR X (binaryOp .Mult) (fun x y H Q=>∃l k xs,x=.ref l/\y=.int k/\SqL X.K H l xs/\0<=k/\k < 1000000/\xs.length*k.toNat<=sizeLine/\∀p,H p=none->Q (.ref p) (upd H p (.lst (List.replicate k.toNat xs).flatten))):=by
 intro pins s σ H x y v u Q I rx ry h
 obtain⟨l,k,xs,rfl,rfl,hq,h1,h2,hz,q⟩:=h
 cases rx
 obtain⟨t,rfl⟩:=ry
 obtain⟨its,r,p1,_⟩:=I.list hq
 obtain⟨⟨cls,dd,data,sl⟩,ho,hc,n,hd⟩:=p1.isList
 simp only at hc hd
 subst hc hd
 have hl:=r.length
 have hlen:its.toArray.size*k.toNat<=sizeLine:=by rw[List.size_toArray,← hl];exact hz
 have hcap:¬its.toArray.size*k.toNat > (2 ^ 63 - 1) / 8:=by
  have:(sizeLine:Nat)<=(2 ^ 63 - 1) / 8:=by decide
  grind
 have hfit:¬(!Builtin.List.listFitsIndex k)=true:=by
  rw[fitsIndex_both (by grind) (by grind)];exact Bool.false_ne_true
 have hlong:¬Builtin.List.listTooLong (its.toArray.size*k.toNat)=true:=by
  rw[c6 hlen];exact Bool.false_ne_true
 have hnew:List.foldl (fun x1 x2=>x1++x2) #[] (List.replicate (if its.toArray.isEmpty=true then 0 else k.toNat) its.toArray)=(List.replicate k.toNat its).flatten.toArray:=by
  rw[aB8]
  cases its with
  | nil=>simp
  | cons a r'=>rw[if_neg (by simp)]
 refine wpAny_binaryOp_repeat_ref (T := "list") (U := "int") (by decide) ⟨_,ho,rfl⟩ (fun s'=>typeIs_int s' k t) noFill_list_mul F.fills_int_mul F.slot_int_rmul repeat_list F.slot_int_index.lookup
  (call_meets F.slot_int_rmul (typeIs_int s k t) F.entry_int_rmul (F.args_int_rmul_2 _ _) (an9 k t l its.toArray n dd sl) ⟨ho,rfl,⟨_,ho,rfl⟩,
   call_meets F.slot_list_mul ⟨_,ho,rfl⟩ F.entry_list_mul (F.args_list_mul_2 _ _) (aw4 l its.toArray n dd sl k t hfit hcap hlong) ⟨ho,?_⟩⟩)
 rw[hnew]
 exact⟨.ref _,_,I.lnew (t':=s.toks) (r.rep k.toNat) (by rw[aq3,Nat.mul_comm];exact hz),rfl,q _ I.fresh⟩
noncomputable def R7(x y:D):Option D:=match x,y with
 | .tuple xs,.int k=>if k=1 then some (.tuple xs) else T1 (.tuple xs) (.int k)
 | .list xs,.int k=>if 0<=k/\k < 1000000/\xs.length*k.toNat<=16777216 then some (.list (List.replicate k.toNat xs).flatten) else none
 | x,y=>T1 x y
theorem aK2:OpD X (binaryOp .Mult) R7:=fun x y z h=>by
 unfold R7 at h
 split at h
 ·split at h
  ·rename_i xs k c
   subst c
   cases h
   refine OpR.imp bc8 fun vx vy H Q ⟨Hf,s,r1,r2,kk⟩=>?_
   obtain⟨a,vs,rfl,h2,h3⟩:=r1
   exact⟨a,vs,rfl,r2,B7 s h2,kk _ _ _ (Grow.refl s) ⟨a,vs,rfl,h2,h3⟩⟩
  ·exact ap7 _ _ z h
 ·split at h
  ·rename_i xs k c
   cases h
   refine OpR.imp bt3 fun vx vy H Q ⟨Hf,s,r1,r2,kk⟩=>?_
   obtain⟨a,vs,rfl,h2,h3⟩:=r1
   refine⟨a,k,vs,rfl,r2,D0 s h2,c.1,c.2.1,by rw[h3.length,sizeLine_eq];exact c.2.2,fun p hp=>?_⟩
   exact kk _ _ _ (Grow.laid s hp) ⟨p,_,rfl,SqL.of A5,(h3.flatten k.toNat).mono (C3 (s.free hp))⟩
  ·cases h
 ·exact ap7 _ _ z h
theorem ai5(i j:Int):y6 (.int i) (.int j)=some (.int (i+j)):=rfl
noncomputable def cg9(f:Rho->Option (Bool×List D)) (lo hi:Rho->Option (Option Int)):DE:=fun ρ=>(f ρ).bind fun q=>(lo ρ).bind fun l=>(hi ρ).bind fun h=>if q.1=true then none else some (.list (ae2 q.2 l h))
theorem bR9{a:Expr}{lo hi:Option Expr}{f:Rho->Option (Bool×List D)}{l h:Rho->Option (Option Int)}{pos p2:Pos}(ha:JQ X a f) (hl:JO X lo l) (hh:JO X hi h):JE X (.Subscript a (.Slice lo hi none p2) pos) (cg9 f l h):=fun ρ d q=>by
 obtain⟨⟨t,xs⟩,e1,q⟩:=xbm q
 obtain⟨y,e2,q⟩:=xbm q
 obtain⟨z,e3,q⟩:=xbm q
 cases t with
 | true=>simp at q
 | false =>
  simp only[Bool.false_eq_true,if_false]at q
  cases q
  refine A7 (t7 aI0 (ha ρ _ _ e1) (hl ρ y e2) (hh ρ z e3)) fun σ H Q ⟨H0,Hf,s,sl,k⟩=>?_
  refine⟨H0,Hf,s,sl,fun v H1 Hf1 g1 ⟨p,vs,q1,q2,q3⟩=>⟨H0,Hf1,g1.sub,sl.grow g1,fun H2 Hf2 g2=>⟨H0,Hf2,g2.sub,sl.grow (g1.trans g2),fun H3 Hf3 g3=>?_⟩⟩⟩
  subst q1
  have q3':=q3.mono (g2.trans g3).ext
  refine⟨p,vs,rfl,D0 (g2.trans g3).big q2,fun p' hp=>?_⟩
  exact k _ _ _ (((g1.trans g2).trans g3).trans (Grow.laid g3.sub hp)) ⟨p',_,rfl,SqL.of A5,(ag4 q3' y z).mono (C3 (g3.sub.free hp))⟩
noncomputable def F4:DS:=fun _=>none
theorem B9{st:Stmt}:JS X st F4:=fun ρ fl q=>by cases q
noncomputable def aO5(f:DE):Rho->Option Bool:=fun ρ=>(f ρ).bind l6
theorem bf7(o1:OpD X (compareOp op) h1) (o2:OpD X (compareOp op') h2) (ha:JE X a f) (hb:JE X b g) (hc:JE X c k)
  (hm:lastMarks [op,op'] [b,c]=false:=by with_unfolding_all rfl):JT X (.Compare a [op,op'] [b,c] pos) (aO5 (ai3 h1 h2 f g k)):=fun ρ d q=>by
 obtain⟨dd,q,ed⟩:=xbm q
 have ed:=aM9 ed
 subst ed
 obtain⟨x,e1,q⟩:=xbm q
 obtain⟨y,e2,q⟩:=xbm q
 obtain⟨z,e3,q⟩:=xbm q
 split at q
 ·obtain⟨w,e4,e5⟩:=xbm q
  refine P6 (au8 (o1 x y _ e3) (o2 y w _ e5) (ha ρ x e1) (hb ρ y e2) (hc ρ w e4) hm) fun σ H Q ⟨H0,Hf,s,sl,kk⟩=>?_
  refine⟨H0,Hf,s,sl,fun v H1 Hf1 g1 r1=>⟨H0,Hf1,g1.sub,sl.grow g1,fun u H2 Hf2 g2 r2=>⟨Hf2,g2.sub,r1.mono g2.ext,r2,fun z' H3 Hf3 g3 r3=>?_⟩⟩⟩
  refine⟨true,r3,Z8 ⟨H0,Hf3,g3.sub,sl.grow ((g1.trans g2).trans g3),fun w' H4 Hf4 g4 r4=>⟨Hf4,g4.sub,r2.mono (g3.trans g4).ext,r4,fun z2 H5 Hf5 g5 r5=>?_⟩⟩⟩
  exact⟨d,r5,kk H5 Hf5 ((((g1.trans g2).trans g3).trans g4).trans g5)⟩
 ·cases q
  intro pins s σ H Q I ⟨H0,Hf,ss,sl,kk⟩
  refine au8 (tc:=fun _ _ _=>False) (r':=fun _ _ _ _=>False) (o1 x y _ e3) (fun _ _ _ _ _ _ _ _ _ _ _ _ h=>h.elim) (ha ρ x e1) (hb ρ y e2) (fun _ _ _ _ _ _ h=>h.elim) hm pins s σ H Q I ?_
  refine⟨H0,Hf,ss,sl,fun v H1 Hf1 g1 r1=>⟨H0,Hf1,g1.sub,sl.grow g1,fun u H2 Hf2 g2 r2=>⟨Hf2,g2.sub,r1.mono g2.ext,r2,fun z' H3 Hf3 g3 r3=>?_⟩⟩⟩
  exact⟨false,r3,Y6 ⟨false,rfl,kk H3 Hf3 ((g1.trans g2).trans g3)⟩⟩
 ·cases q
end
end G
namespace G
open PySem PySem.Spec PyProof.Rows L2
theorem al9(hh:A.handled=none) (t:Bool) (it l:Addr) (hne:l≠it) (xs:Array Value):Draws prog w A it [it,l] xs.size (fun i x=>xs[i]? = some x) (fun i h=>SIt t h it l i/\SSq t h l xs):=by
 refine⟨fun i h ⟨a,_⟩=>?_,fun i h h' ⟨a,b⟩ k=>⟨a.ext fun o e=>k it (by simp) o e,b.ext fun o e=>k l (by simp) o e⟩,fun i s Q E hi ⟨a,b⟩ hQ=>?_,fun s Q E ⟨a,b⟩ hE=>o9 hh a b (by simp) hE⟩
 ·cases t with
  | true=>obtain⟨o,ho,_⟩:=a;exact⟨o,ho⟩
  | false=>obtain⟨o,ho,_⟩:=a;exact⟨o,ho⟩
 ·have hx:xs[i]? = some xs[i]:=by simp[hi]
  exact a9 a b hx fun h' c sb=>hQ _ h' s.toks hx ⟨c,b.ext fun o e=>sb.extBut l o hne e⟩ sb
theorem aP3(l:Addr) (items:Array Value) (n:Nat) (dd:Option Addr) (sl:Array (Option Value)) :
  Meets (Builtin.«enumerate.__new__» ⟨[.type "enumerate", .ref l],[]⟩) (fun _ R s=>s.heap.get? l=some ⟨.type "tuple", dd,.seq items n,sl⟩ /\
   R (.ok (.ret (.ref (s.heap.push (u8 true l)).objs.size))) { s with heap:=(s.heap.push (u8 true l)).push { cls:=.type "enumerate", data:=.fields #[.none,.bool false,.ref s.heap.objs.size,rawInt 0,.none,.none] } }):=Meets.of_wp fun prog w A R s h=>by
 obtain⟨hp,g,d,tk,os⟩:=s
 obtain⟨hl,h⟩:=h
 have hsub:=sub_enumerate
 have q1:SSq true (Shared.heap ⟨hp,g,d,tk,os⟩) l items:=⟨_,hl,rfl,n,rfl⟩
 wp_walk using AutoSeq1.wpAny_loadPart' hl
 refine wpAny_stack_any fun st=>wpAny_pure ?_
 split
 ·rename_i c _ _ _ _ _
  cases(c==Value.type "enumerate")
  ·wp_walk using AutoSeq1.wpAny_loadPart' hl,b0 q1
   exact⟨_,rfl,h⟩
  ·wp_walk using AutoSeq1.wpAny_loadPart' hl,b0 q1
   exact⟨_,rfl,h⟩
 ·wp_walk using AutoSeq1.wpAny_loadPart' hl,b0 q1
  exact⟨_,rfl,h⟩
section
variable {prog:Program}{w:World}{A:Around}{E:Value->Shared->Prop}{s:Shared}{t:Bool}
theorem ag3(hl:SSq t s.heap l xs)
  (h:∀h',IsEnum h' (s.heap.objs.size+1) s.heap.objs.size 0 .none->SIt t h' s.heap.objs.size l 0->(∀c o,s.heap.get? c=some o->h'.get? c=some o)->Q (.ref (s.heap.objs.size+1)) { s with heap:=h' }) :
  wpAny (model prog w) A (call (.type "enumerate") [.ref l]) Q E s:=by
 cases t with
 | false=>exact call_enumerate_list hl fun h' a b _ d=>h h' a b d
 | true =>
  obtain⟨⟨cls,dd,data,sl⟩,ho,hc,n,hd⟩:=hl
  simp only at hc hd
  subst hc hd
  refine callType_new F.called_enumerate (by decide) (F.typeCall_enumerate_1 _) (F.newCall_enumerate_1 _) (fun obj=>F.args_object_init_2 obj _) F.entry_enumerate_new (aP3 l xs n dd sl) ⟨ho,?_⟩
  have z1:(s.heap.push (u8 true l)).objs.size=s.heap.objs.size+1:=Heap.size_push ..
  show _/\_
  rw[z1]
  have he:=Heap.get?_push_size (s.heap.push (u8 true l)) (o:={ cls:=.type "enumerate", data:=.fields #[.none,.bool false,.ref s.heap.objs.size,rawInt 0,.none,.none] }) rfl
  rw[z1]at he
  exact⟨⟨_,he,rfl⟩,h _ he ((an7 (h:=s.heap) (l:=l) true).ext fun o e=>Heap.get?_push_of_some _ e) fun c o e=>Heap.get?_push_of_some _ (Heap.get?_push_of_some _ e)⟩
theorem al7(hh:A.handled=none) (he:IsEnum s.heap e it i old) (hit:SIt t s.heap it l k) (hl:SSq t s.heap l xs) (hx:xs[k]? = none)
  (hQ:∀h',Heap.ExtBut it s.heap h'->Q none { s with heap:=h' }):wpAny (model prog w) A (pyNext (.ref e)) Q E s:=by
 have hT:s.TypeIs (.ref e) "enumerate" := ⟨_,he,rfl⟩
 unfold pyNext
 refine wpAny_bind (wpAny_attempt (wpAny_callSpecial?_slot (name:=Str.ofString "__next__") hT F.slot_enumerate_next (wpAny_call_entry F.slot_enumerate_next hT F.entry_enumerate_next ?_ (F.args_enumerate_next_1 _))))
 show wpAny _ _ (field (.ref e) 2 >>= _) _ _ _
 refine wpAny_bind (wpAny_field he rfl (x:=.ref it) rfl (wpAny_bind (o9 hh hit hl hx fun h' x he' hx'=>?_)))
 obtain⟨o,ho,hc⟩:=hx'
 exact wpAny_bind (wpAny_isInstance (T := "StopIteration") (b:=true) ⟨o,ho,hc⟩ isSubtype_stop (wpAny_pure (hQ _ he')))
end
noncomputable def Ite(K:PySem.W.Frag) (t:Bool) (a:Addr):It :=
  ⟨fun i H=>∃xs x,Sq K t H a xs/\xs[i]? = some x,
   fun i H v H'=>∃T x,v=.ref T/\H T=none/\H'=upd H T (.tup [.int i,x])/\∀xs,Sq K t H a xs->xs[i]? = some x,
   fun i H=>∃xs,Sq K t H a xs/\xs.length<=i⟩
theorem aO2{P:Program}{w:World}{K:PySem.W.Frag}{elts:List Expr}{k0:Nat}{pos:Pos}{t:Bool}{e it a:Addr}(h1:e≠it) (h2:a≠e) (h3:a≠it) :
  Turn P w K (.Tuple elts k0 pos) (Ite K t a) [e,it] e (fun i h=>(∃old,IsEnum h e it i old)/\SIt t h it a i) where
 mem:=by simp
 obj:=fun i h ⟨⟨old,he⟩,hi⟩ c hc=>by
  simp only[List.mem_cons,List.not_mem_nil,or_false]at hc
  rcases hc with rfl|rfl
  ·exact⟨_,he,fun v q=>by cases q⟩
  ·cases t with
   | true=>obtain⟨o,ho,_,hd⟩:=hi;exact⟨o,ho,fun v q=>by rw[hd]at q;cases q⟩
   | false=>obtain⟨o,ho,_,hd⟩:=hi;exact⟨o,ho,fun v q=>by rw[hd]at q;cases q⟩
 keep:=fun i h h' ⟨⟨old,he⟩,hi⟩ hk=>⟨⟨old,hk e (by simp) _ he⟩,hi.ext fun o q=>hk it (by simp) o q⟩
 item:=by
  intro X hP hw hK hc i pins s σ H E I hf ⟨⟨old,he⟩,hi⟩ hg
  subst hP hw hK
  obtain⟨xs,x,q1,ex⟩:=hg
  obtain⟨us,r1,p1,lt1⟩:=Q0 I q1
  obtain⟨ux,eux,rx⟩:=r1.get ex
  have hlt:i < us.toArray.size:=by rw[List.size_toArray];exact(List.getElem?_eq_some_iff.mp eux).1
  refine wpAny_pyNext_enum_itemD (al9 (A:=X.A.in1) (I.ok.hd hc) t it a h3 us.toArray) he ⟨hi,p1⟩ hlt h1 (by simp only[List.mem_cons,List.not_mem_nil,or_false,not_or];exact⟨h1,fun z=>h2 z.symm⟩) fun y h' tk hy ho hst hT hsz hk=>⟨_,rfl,wpAny_letOwnedTupleGo_enum ho fun h'' c1 c2=>?_⟩
  have ey:y=ux:=by
   have:us[i]? = some y:=by simpa using hy
   rw[eux]at this
   exact(Option.some.inj this).symm
  subst ey
  have neT:∀c o,s.heap.get? c=some o->c≠s.heap.objs.size:=fun c o q=>Nat.ne_of_lt (Heap.lt_size q)
  have up:∀c o,c≠e->h'.get? c=some o->h''.get? c=some o:=fun c o n q=>c2.extBut c o n q
  refine⟨.ref s.heap.objs.size,upd H s.heap.objs.size (.tup [.int i,x]),T7 (s:=s) (h':=h'') (t':=tk+1) (ch:=[e,it]) I hf (Nat.le_refl _) (fun c u hc q=>?_) ?_,rfl,⟨_,x,rfl,I.hok.fresh (Nat.le_refl _),rfl,fun zs hz'=>by rw[aB2 I hz' q1];exact ex⟩,⟨⟨_,by simpa using c1⟩,hst.1.ext fun o q=>up it o h1.symm q⟩,fun c hc=>?_⟩
  ·simp only[List.mem_cons,List.not_mem_nil,or_false,not_or]at hc
   exact up c u hc.1 (hk c u hc.1 hc.2 q)
  ·refine⟨by show 2<=sizeLine;decide,[.int i tk,y],.cons ⟨tk,rfl⟩ (.cons rx .nil),_,up _ _ ?_ hT,rfl,⟨_,rfl⟩,rfl⟩
   exact fun q=>neT e _ he q.symm
  ·have lt:c < s.heap.objs.size:=by
    simp only[List.mem_cons,List.not_mem_nil,or_false]at hc
    rcases hc with rfl|rfl
    ·exact Heap.lt_size he
    ·exact hi.lt
   rw[A6 (Nat.ne_of_lt lt)]
   exact(hf c hc).1
 done:=by
  intro X hP hw hK hc i pins s σ H E I hf ⟨⟨old,he⟩,hi⟩ hg
  subst hP hw hK
  obtain⟨xs,q1,hl⟩:=hg
  obtain⟨us,r1,p1,lt1⟩:=Q0 I q1
  have l1:=r1.length
  refine al7 (I.ok.hd hc) he hi p1 (by simp;grind) fun h' hk=>⟨rfl,N9 (t':=s.toks) (ch:=[e,it]) I hf fun c u hc q=>?_⟩
  simp only[List.mem_cons,List.not_mem_nil,or_false,not_or]at hc
  exact hk c u hc.2 q
 self:=fun _ _ _ _ _ st h=>by
  obtain⟨⟨old,he⟩,_⟩:=st
  exact wpAny_pyIter_enum he h
section
variable {X:Cx}
noncomputable def ai0(ds:List D):List D:=(List.range ds.length).zip ds |>.map fun(k,d)=>PyData.tuple [.int (k:Nat),d]
noncomputable def bD3(f:Rho->Option (Bool×List D)):Rho->Option (List D):=fun ρ=>(f ρ).map fun q=>ai0 q.2
theorem ay0(ds:List D) (i:Nat):(ai0 ds)[i]? = (ds[i]?).map fun d=>.tuple [.int i,d]:=by
 unfold ai0
 rw[List.getElem?_map]
 cases e:ds[i]? with
 | none =>
  have:ds.length<=i:=by simpa using e
  have z:((List.range ds.length).zip ds)[i]? = none:=by simp;omega
  rw[z];rfl
 | some d =>
  have hi:=(List.getElem?_eq_some_iff.mp e).1
  have z:((List.range ds.length).zip ds)[i]? = some (i,d):=List.getElem?_zip_eq_some.mpr ⟨by simp[hi],e⟩
  rw[z];rfl
theorem d7(ds:List D):(ai0 ds).length=ds.length:=by unfold ai0;simp
theorem at5{K:PySem.W.Frag}{t:Bool}{a:Addr}{vs:List V}{ds:List D}{Hf1:Hp}(h1:Sq K t Hf1 a vs) (r1:Reps K Hf1 ds vs):at2 K (Ite K t a) (ai0 ds) Hf1:=by
 have mono:∀{t:Bool}{a:Addr}{xs:List V}{H H':Hp},B6 H H'->Sq K t H a xs->Sq K t H' a xs:=fun{t a xs H H'} e h=>by
  cases t with
  | true=>exact B7 e h
  | false=>exact D0 e h
 intro i H Hf sa sb
 have m1:=mono (sa.trans sb) h1
 have l1:=r1.length
 refine⟨fun hi=>⟨vs,m1,by rw[d7]at hi;grind⟩,fun d hd=>?_⟩
 rw[ay0]at hd
 obtain⟨x,q1,q2⟩:=Option.map_eq_some_iff.mp hd
 subst q2
 obtain⟨vx,e1,e2⟩:=r1.get q1
 refine⟨⟨vs,vx,m1,e1⟩,fun v H' ⟨T,x',z1,z2,z3,z4⟩=>?_⟩
 subst z1 z3
 have w1:=z4 vs m1
 rw[e1]at w1
 cases w1
 have nf:Hf T=none:=sb.free z2
 exact⟨upd Hf T (.tup [.int i,vx]),Grow.laid sb z2,T,[.int i,vx],rfl,SqT.of A5,.int i,[vx],rfl,rfl,vx,[],rfl,(e2.mono sa).mono (C3 nf),rfl⟩
theorem bw4{elts:List Expr}{k0:Nat}{tpos:Pos}{a:Expr}{f:DE}{p pos:Pos}(hg:Gl X "enumerate") (hm:X.mg "enumerate" = none) (ha:JE X a f) (hs:starEach [a] X.env=[(false,eval a X.env)]:=by rfl) :
  JI X (.Tuple elts k0 tpos) (.Call (.Name "enumerate" p) [a] [] pos) (bD3 (qE f)):=fun ρ out q=>by
 obtain⟨⟨t1,ds⟩,e1,q⟩:=Option.map_eq_some_iff.mp q
 subst q
 obtain⟨d1,e1,e1'⟩:=xbm e1
 intro pins s σ H R I ⟨H0,Hf,ss,sl,k⟩
 refine Call_ (d5 I hg hm rfl (PyProof.Rows.callWith_type1 (thn (B2 (ha ρ d1 e1) C6 (by rw[hs];rfl) pos pins s σ H
  (fun vs H'=>∃v Hf',vs=[v]/\Grow H Hf H' Hf'/\Rep X.K Hf' d1 v) I ⟨H0,Hf,ss,sl,fun v H1 Hf1 g1 r1=>⟨v,Hf1,rfl,g1,r1⟩⟩) fun us s1 ⟨vs,H1,I1,r1,v,Hf1,ev,gr,p1⟩=>?_) (by rw[hs];rfl) (by rfl)))
 subst ev
 obtain⟨uv,rfl,rv⟩:=r1.one
 obtain⟨a1,vs1,rfl,w1,w2⟩:=p1.seq (B6.refl Hf1) e1'
 cases rv
 have mono:∀{t:Bool}{a:Addr}{xs:List V}{H H':Hp},B6 H H'->Sq X.K t H a xs->Sq X.K t H' a xs:=fun{t a xs H H'} e h=>by
  cases t with
  | true=>exact B7 e h
  | false=>exact D0 e h
 obtain⟨us1,rr1,hp1,lt1⟩:=Q0 I1 (mono gr.sub w1)
 refine ag3 hp1 fun h' b1 b2 b3=>?_
 have I2:Inv X pins σ H1 { s1 with heap:=h' }:=I1.kept (t':=s1.toks) b3
 refine wpAny_pyIter_enum b1 ⟨_,_,_,_,H1,rfl,I2,aO2 (e:=s1.heap.objs.size+1) (it:=s1.heap.objs.size) (a:=a1) (Nat.succ_ne_self _) (Nat.ne_of_lt (Nat.lt_succ_of_lt lt1)) (Nat.ne_of_lt lt1),⟨⟨_,b1⟩,b2⟩,fun b hb=>?_,k _ H1 Hf1 gr (at5 w1 w2)⟩
 have hb':s1.heap.objs.size<=b:=by
  simp only[List.mem_cons,List.not_mem_nil,or_false]at hb
  rcases hb with rfl|rfl
  ·exact Nat.le_add_right _ _
  ·exact Nat.le_refl _
 exact I1.fpOk hb' (I1.hok.fresh hb')
end
end G
namespace G
open PySem PySem.Spec PyProof.Rows L2
section
variable {prog:Program}{w:World}{A:Around}{E:Value->Shared->Prop}{s:Shared}
theorem ag2{l b sl:Addr}{items new:Array Value}{n n2:Nat}{vl vu:Value}{lo hi:Option Int}{Q:Unit->Shared->Prop}
    (e:s.heap.get? l=some { cls:=.type "list", data:=.seq items n }) (e2:s.heap.get? b=some { cls:=.type "list", data:=.seq new n2 }) (hne:l≠b)
    (hs:s.heap.IsSliceOf sl vl vu .none) (pl:IsPart vl lo) (pu:IsPart vu hi) (hsz:items.size+new.size<=sizeLine)
    (h:Q () { s with heap:=s.heap.update l (Obj.mapSeq fun xs=>xs.extract 0 (HT.sIx items.size 0 lo)++new++xs.extract (max (HT.sIx items.size 0 lo) (HT.sIx items.size items.size hi)) xs.size) }) :
    wpAny (model prog w) A (setItem (.ref l) (.ref sl) (.ref b)) Q E s:=by
  have hl:s.heap.IsList l items:=PySem.IsL.isList e
  have hb:s.heap.IsList b new:=PySem.IsL.isList e2
  obtain⟨os,hos,hcs,hds⟩:=id hs
  have hTs:s.TypeIs (.ref sl) "slice" := ⟨os,hos,hcs⟩
  have hstep:¬((rawPart none==rawInt 0)=true):=Bool.false_ne_true
  have hsame:Builtin.List.listSameRef (.ref l) (.ref b)=false:=by
    unfold Builtin.List.listSameRef
    exact beq_eq_false_iff_ne.mpr hne
  have hbd:sliceBounds lo hi none items.size=(((HT.sIx items.size 0 lo:Nat):Int),((HT.sIx items.size items.size hi:Nat):Int),1):=by
    obtain⟨h1,h2,h3⟩:=n9 lo hi items.size
    exact Prod.ext h1 (Prod.ext h2 h3)
  have hmax:(max ((HT.sIx items.size 0 lo:Nat):Int) ((HT.sIx items.size items.size hi:Nat):Int)).toNat=max (HT.sIx items.size 0 lo) (HT.sIx items.size items.size hi):=by grind
  have hz':((fun xs:Array Value=>xs.extract 0 (HT.sIx items.size 0 lo)++new++xs.extract (max (HT.sIx items.size 0 lo) (HT.sIx items.size items.size hi)) xs.size) items).size<=sizeLine+1:=by
    simp only[Array.size_append,Array.size_extract]
    grind
  unfold setItem
  try with_reducible refine wpAny_holding ?_
  first|refine wpAny_bind (wpAny_pure ?_)|skip
  refine wpAny_bind (wpAny_sequenceKey hl.typeIs (by decide) ?_)
  refine wpAny_bind (wpAny_callSpecial?_slot (name:=Str.ofString "__setitem__") hl.typeIs slot_list_setitem (wpAny_call_entry slot_list_setitem hl.typeIs entry_list_setitem ?_ (args_list_setitem _ _ _)))
  show wpAny _ _ (Builtin.List.listSubscript? (.ref sl) >>= _) _ _ s
  refine wpAny_bind ?_
  unfold Builtin.List.listSubscript?
  refine wpAny_bind (wpAny_specialOf hTs slice_no_index ?_)
  simp only[Option.isNone_none,if_true]
  refine wpAny_pure ?_
  show wpAny _ _ (typeOf (.ref sl) >>= _) _ _ s
  refine wpAny_bind (wpAny_typeOf hTs ?_)
  first
    | rw[if_neg (by decide)]
    | refine PySem.W.KFB.if_not (by decide) ?_
  rw[listSliceParts_eq]
  refine wpAny_bind (wpAny_bind (wpAny_field hos hds (x:=.none) rfl (wpAny_bind (wpAny_listPart .none ?_))))
  rw[if_neg hstep]
  refine wpAny_bind (wpAny_field hos hds (x:=vl) rfl (wpAny_bind (wpAny_listPart pl ?_)))
  refine wpAny_bind (wpAny_field hos hds (x:=vu) rfl (wpAny_bind (wpAny_listPart pu (wpAny_pure ?_))))
  first
    | simp only[hsame,Bool.false_eq_true,if_false]
    | refine PySem.W.KFB.if_not hsame ?_
    | (dsimp only
       rw[if_neg (by rw[hsame];exact Bool.false_ne_true)])
  refine wpAny_bind (m:=Builtin.List.listAllItems (.ref b) "must assign iterable to extended slice") ?_
  unfold Builtin.List.listAllItems
  refine wpAny_bind (wpAny_typeOf hb.typeIs ?_)
  first
    | refine PySem.W.KFB.if_so (by decide) ?_
    | rw[if_pos (by decide)]
    | simp only[beq_self_eq_true,Bool.true_or,if_true]
  unfold Builtin.List.listItems
  refine wpAny_bind (wpAny_seqItems e2 rfl (wpAny_pure ?_))
  refine wpAny_bind (wpAny_bind (wpAny_seqItems e rfl (wpAny_pure ?_)))
  refine wpAny_bind (wpAny_of_eq ((sliceIndices_raw lo hi none items.size (by simp)).trans (congrArg (pure:Int×Int×Int->Sem (Int×Int×Int)) hbd)) ?_)
  show wpAny _ _ (if((1:Int)==1)=true then _ else _) _ _ s
  rw[if_pos (by decide)]
  refine wpAny_bind (wpAny_rule ?_)
  first
    | simp only[c6 hsz,Bool.false_eq_true,if_false]
    | refine PySem.W.KFB.if_not (c6 hsz) ?_
  first|refine wpAny_bind (wpAny_pure ?_)|skip
  show wpAny _ _ (updateSeq l (fun xs=>xs.extract 0 (((HT.sIx items.size 0 lo:Nat):Int)).toNat++new++xs.extract (max ((HT.sIx items.size 0 lo:Nat):Int) ((HT.sIx items.size items.size hi:Nat):Int)).toNat xs.size) >>= _) _ _ s
  rw[hmax,Int.toNat_natCast]
  refine wpAny_bind (wpAny_updateSeq (hz:=Nat.le_trans (Nat.le_add_right _ _) hsz) (_hz':=hz') e rfl ?_)
  refine wpAny_bind (wpAny_letGo ?_)
  first
    | exact wpAny_bind (wpAny_pure (wpAny_pure ⟨.none,rfl,wpAny_pure h⟩))
    | exact wpAny_pure ⟨.none,rfl,wpAny_pure h⟩
end
section
variable {X:Cx}
noncomputable def au3{α:Type}(xs:List α) (lo hi:Option Int) (ys:List α):List α:=xs.take (HT.sIx xs.length 0 lo)++ys++xs.drop (max (HT.sIx xs.length 0 lo) (HT.sIx xs.length xs.length hi))
theorem aB7{pins:List (Addr×Obj)}{s:Shared}{σ:L2.St}{H:Hp}{l b sl:Addr}{xs ys:List V}{lo hi:Option Int}{vl vu:Value}{Q:Unit->Shared->Prop}(I:Inv X pins σ H s)
  (hH:H l=some (.lst xs)) (hB:H b=some (.lst ys)) (hne:l≠b) (hs:s.heap.IsSliceOf sl vl vu .none) (pl:IsPart vl lo) (pu:IsPart vu hi)
  (hz:xs.length+ys.length<=sizeLine) (h:∀s',Inv X pins σ (upd H l (.lst (au3 xs lo hi ys))) s'->Q () s') :
  wpAny (model X.prog X.w) X.A (setItem (.ref l) (.ref sl) (.ref b)) Q X.xe s:=by
 obtain⟨z,its,n,r,hl,e⟩:=I.lstM hH
 obtain⟨z2,its2,n2,r2,hl2,e2⟩:=I.lstM hB
 refine ag2 e e2 hne hs pl pu (by rw[List.size_toArray,List.size_toArray];grind) (h _ ?_)
 have hz0:its.toArray.size=xs.length:=by rw[List.size_toArray];exact hl.symm
 refine I.lset (its':=its.take (HT.sIx xs.length 0 lo)++its2++its.drop (max (HT.sIx xs.length 0 lo) (HT.sIx xs.length xs.length hi))) (t':=s.toks) hH e ?_ (C5.append (C5.append (r.take _) r2) (r.drop _)) ?_
 ·have e0:=aP1 its its2 (HT.sIx xs.length 0 lo) (max (HT.sIx xs.length 0 lo) (HT.sIx xs.length xs.length hi))
  rw[hz0]at e0 ⊢
  exact e0
 ·unfold au3
  rw[List.length_append,List.length_append,List.length_take,List.length_drop]
  grind
theorem aZ7{K:PySem.W.Frag}{H:Hp}{ds es:List D}{vs us:List V}(h:Reps K H ds vs) (g:Reps K H es us) (lo hi:Option Int):Reps K H (au3 ds lo hi es) (au3 vs lo hi us):=by
 unfold au3
 rw[h.length]
 exact((h.take _).append g).append (h.drop _)
theorem Slots.reOwn{K:PySem.W.Frag}{H0 H Hf:Hp}{ρ:Rho}{σ:L2.St}{i:Nat}{ds ds':List D}{b:Addr}{vs':List V}(sl:Slots K H0 ρ σ H Hf) (eo:ρ[i]? = some (some (.own ds))) (h1:σ[i]? = some (some (.ref b))) (hf:Hf b=none) (h0:H0 b=none) (r:Reps K Hf ds' vs') :
  Slots K H0 (ρ.set i (some (.own ds'))) σ (upd H b (.lst vs')) Hf:=by
 refine⟨by simpa using sl.len,fun j bb z=>?_,fun j k ds1 es c q1 q2 q3 q4=>?_⟩
 ·by_cases qj:i=j
  ·subst qj
   have hi:i < ρ.length:=(List.getElem?_eq_some_iff.mp eo).1
   rw[List.getElem?_set_self hi]at z
   cases z
   exact⟨_,h1,b,vs',rfl,A5,hf,h0,r⟩
  ·rw[List.getElem?_set_ne qj]at z
   obtain⟨u,z1,z2⟩:=sl.is j bb z
   refine⟨u,z1,?_⟩
   cases bb with
   | val d=>exact z2
   | exc C=>exact z2
   | opq _=>exact z2
   | own dd =>
    obtain⟨a',us',y1,y2,y3,y4,y5⟩:=z2
    have ne:a'≠b:=fun zz=>by
     subst zz y1
     exact qj (sl.apart i j ds dd a' eo z h1 z1)
    exact⟨a',us',y1,by rw[A6 ne];exact y2,y3,y4,y5⟩
 ·have f:∀(j:Nat) (es:List D),(ρ.set i (some (B.own ds')))[j]? = some (some (B.own es))->∃dd:List D,ρ[j]? = some (some (B.own dd)):=fun j es q=>by
   by_cases qj:i=j
   ·subst qj;exact⟨ds,eo⟩
   ·rw[List.getElem?_set_ne qj]at q;exact⟨_,q⟩
  obtain⟨d1,q1'⟩:=f j _ q1
  obtain⟨d2,q2'⟩:=f k _ q2
  exact sl.apart j k d1 d2 c q1' q2' q3 q4
noncomputable def ca8(i:Nat) (lo hi:Rho->Option (Option Int)) (f:Rho->Option (List D)):DS:=fun ρ=>(f ρ).bind fun es=>(lo ρ).bind fun l=>(hi ρ).bind fun h=>match ρ[i]? with
 | some (some (.own ds))=>if ds.length+es.length<=16777216 then some (.nx (ρ.set i (some (.own (au3 ds l h es))))) else none
 | _=>none
theorem bQ0(i:Nat) {x:Str}{e:Expr}{lo hi:Option Expr}{f:Rho->Option (List D)}{l h:Rho->Option (Option Int)}{p p2 pos' pos:Pos}(he:JN X e f) (hl:JO X lo l) (hh:JO X hi h) (hN:X.N[i]? = some x:=by rfl)
  (hv:Vis X.env.scope x:=by first|exact Or.inl rfl|exact Or.inr (Or.inl rfl)|exact Or.inr (Or.inr rfl)) (hd:(x==("__debug__" : Str))=false:=by decide) (hcd:(x==("__classdict__" : Str))=false:=by decide)
  (hsw:swapsWith e (some (.Subscript (.Name x p) (.Slice lo hi none p2) pos')) pos.line X.env=pure false:=by rfl):JS X (.Assign [.Subscript (.Name x p) (.Slice lo hi none p2) pos'] e pos) (ca8 i l h f):=fun ρ fl q H0 Hf0=>by
 obtain⟨es,e1,q⟩:=xbm q
 obtain⟨y,e2,q⟩:=xbm q
 obtain⟨z,e3,q⟩:=xbm q
 split at q
 ·rename_i ds eo
  split at q
  ·rename_i hz
   cases q
   intro pins s σ H En I ⟨Hf,a,ee⟩
   refine wpAny_Assign_Subscript (thn (he ρ es e1 pins s σ H (fun v H'=>∃Hf',Grow H Hf H' Hf'/\∃b us,v=.ref b/\H b=none/\H' b=some (.lst us)/\Hf' b=none/\Reps X.K Hf' es us) I ⟨H0,Hf,a.gr.sub,a.sl,fun v H' Hf' g r=>⟨Hf',g,r⟩⟩) fun v s1 ⟨x1,H1,I1,r1,Hf1,g1,b,us,ev,b1,b2,b3,b4⟩=>?_) hsw
   subst ev
   cases r1
   obtain⟨vl0,h1,c,vs,ev,h2,h3,h4,h5⟩:=a.sl.is i _ eo
   subst ev
   refine thn (Q9 hN hv hd hcd pins s1 σ H1 (fun v H'=>v=.ref c/\H'=H1) I1 ⟨_,h1,rfl,rfl⟩) fun ov s2 ⟨x2,H2,I2,r2,ex,eH⟩=>?_
   subst ex eH
   cases r2
   have sl1:=a.sl.grow g1
   refine wpAny_Slice (thn (hl ρ y e2 pins s2 σ H2 (fun o H'=>o=y/\∃Hf',Grow H2 Hf1 H' Hf') I2 ⟨H0,Hf1,g1.sub,sl1,fun H' Hf' g=>⟨rfl,Hf',g⟩⟩) fun wl s3 ⟨o3,H3,I3,pl,eo3,Hf3,g3⟩=>?_)
   subst eo3
   have sl3:=sl1.grow g3
   refine thn (hh ρ z e3 pins s3 σ H3 (fun o H'=>o=z/\∃Hf',Grow H3 Hf3 H' Hf') I3 ⟨H0,Hf3,g3.sub,sl3,fun H' Hf' g=>⟨rfl,Hf',g⟩⟩) fun wu s4 ⟨o4,H4,I4,pu,eo4,Hf4,g4⟩=>?_
   subst eo4
   have sl4:=sl3.grow g4
   have gg:Grow H Hf H4 Hf4:=(g1.trans g3).trans g4
   rw[evalPart_none]
   refine wpAny_pure ?_
   have I5:Inv X pins σ H4 { s4 with heap:=s4.heap.push { cls:=.type "slice", data:=.fields #[wl,wu,.none] } }:=I4.kept (t':=s4.toks) fun b ob q=>Heap.get?_push_of_some _ q
   have hc:H4 c=some (.lst vs):=gg.big _ _ h2
   have hb:H4 b=some (.lst us):=(g3.trans g4).big _ _ b2
   have hcb:c≠b:=fun zz=>by subst zz;rw[h2]at b1;cases b1
   have hfc:Hf4 c=none:=gg.nofr h2 h3
   have rd:Reps X.K Hf4 (au3 ds o3 o4 es) (au3 vs o3 o4 us):=aZ7 (h5.mono gg.ext) (b4.mono (g3.trans g4).ext) _ _
   refine aB7 I5 hc hb hcb (Heap.IsSliceOf.new ..) pl pu (by rw[h5.length,b4.length,sizeLine_eq];exact hz) fun s' I'=>?_
   have ga:=a.gr.trans gg
   refine⟨σ,_,I',ee σ _ Hf4 ⟨⟨fun d u zz=>?_,fun d u zz=>?_,ga.ext,ga.new⟩,sl4.reOwn eo h1 hfc h4 rd⟩ gg.ext⟩
   ·rw[A6 (A8 zz h4)];exact ga.big d u zz
   ·rw[A6 (A8 zz hfc)];exact ga.sub d u zz
  ·cases q
 ·cases q
theorem bv6(i:Nat) (hN:X.N.Nodup) (S:CompSc X N' n caps scope) (hx:∀e s,X.xe e s->False)
  (hi:JI X tgt iter src) (hg:∀C s0 H0 ex,JG (D9 X N' scope C s0 H0 ex) tgt g) (ht:∀C s0 H0 ex,JTs (D9 X N' scope C s0 H0 ex) ifs c) (he:∀C s0 H0 ex,JE (D9 X N' scope C s0 H0 ex) elt e)
  (hi2:X.N[i]? = some x:=by rfl) (hl:X.env.scope.names.lookup x=some .local:=by rfl) (hsw:swapsWith (.ListComp elt [⟨tgt,iter,ifs,0⟩] scope pos) (some (.Name x pos')) spos.line X.env=pure true:=by rfl)
  (hc:X.calm=true:=by rfl) (hs:∀x,foldedSetIterable iter X.env x=pure x:=by intro _;rfl):JS X (.Assign [.Name x pos'] (.ListComp elt [⟨tgt,iter,ifs,0⟩] scope pos) spos) (aZ5 i (P9 n caps src g c e)):=fun ρ fl q H0 Hf0=>by
 obtain⟨out,e1,e2⟩:=Option.map_eq_some_iff.mp q
 subst e2
 obtain⟨ds,e3,k⟩:=l5 (K:=X.K) e1
 refine C7 (ag9 S hx hc hN hi2 hl (hi ρ ds e3) (g:=tgJ X.K g) (tc:=ak3 X.K c) (te:=aG4 X.K e) hg ht (fun C s0 H0 ex pins s σ H Q I ⟨ρ,d,e,t⟩=>he C s0 H0 ex ρ d e pins s σ H Q I t) hsw hs) fun En σ H ⟨Hf,a,ee⟩=>k σ H _ ⟨H0,Hf,a.gr.sub,a.sl,fun v H' Hf' gg ⟨p,vs,z1,z2,z3,z4,z5⟩=>?_⟩
 subst z1
 exact ee _ H' Hf' ⟨a.gr.trans gg,a.sl.setOwn gg (a.gr.big.free z2) z2 z3 z4 z5⟩ gg.ext
noncomputable def bB9:DS:=fun ρ=>some (.ct ρ)
theorem bv7:JS X (.Continue pos) bB9:=fun ρ fl q H0 Hf0=>by
 cases q
 exact C7 au9 fun En σ H ⟨Hf,a,e⟩=>e σ H Hf a (B6.refl _)
end
end G
namespace G
open PySem PySem.Spec PyProof.Rows L2
section
variable {X:Cx}
noncomputable def bq4(x:Str) (k:Int):Str:=if(k==1 || x.length==0)=true then x else⟨(List.replicate k.toNat x.cps).foldl (·++·) #[]⟩
noncomputable def bO6(x y:D):Option D:=match x,y with
 | .str x,.int k=>if 1<=k/\k<=2/\x.length<=1000/\(bq4 x k).length<=16777216 then some (.str (bq4 x k)) else none
 | _,_=>none
theorem bu2:OpD X (binaryOp .Mult) bO6:=fun x y z h=>by
 unfold bO6 at h
 split at h
 ·split at h
  ·rename_i x k c
   cases h
   intro pins s σ H vx vy v u Q I rx ry ⟨Hf,ss,r1,r2,kk⟩
   cases r1
   cases r2
   obtain⟨t,rfl⟩:=rx
   obtain⟨t2,rfl⟩:=ry
   have w:=kk (.str (bq4 x k)) H Hf (Grow.refl ss) rfl
   have k12:k=1\/k=2:=by grind
   refine P.mul_str (by rw[decide_eq_false (by grind),decide_eq_false (by grind)];rfl) (fun _ _=>by rcases k12 with rfl|rfl<;>grind) (fun _ _=>?_) ?_
   ·unfold Builtin.Str.tooLong
    rw[sizeLine_eq]
    refine decide_eq_false ?_
    rcases k12 with rfl|rfl<;>simp<;>grind
   ·rw[if_neg (by grind)]
    unfold bq4 at w c
    split
    ·rename_i e
     rw[if_pos e]at w
     exact⟨.str x,H,I,⟨_,rfl⟩,w⟩
    ·rename_i e
     rw[if_neg e]at w c
     exact⟨by rw[sizeLine_eq];exact c.2.2.2,.str _,H,I.tok _,⟨_,rfl⟩,w⟩
  ·cases h
 ·cases h
noncomputable def slS(x:Str) (lo hi:Option Int):Str:=if((1:Int)==1&&(Builtin.Str.strSliceIndices lo hi 1 x.length).length==x.length)=true then x else⟨((Builtin.Str.strSliceIndices lo hi 1 x.length).filterMap (x.cps[·]?)).toArray⟩
noncomputable def cg8(f:DE) (lo hi:Rho->Option (Option Int)):DE:=fun ρ=>(f ρ).bind fun d=>(lo ρ).bind fun l=>(hi ρ).bind fun h=>match d with
 | .str x=>if x.length<=1000/\(slS x l h).length<=16777216 then some (.str (slS x l h)) else none
 | _=>none
theorem aJ6(h:IsPart u o):∃p:Option (Int×Tok),u=partValue p/\p.map (·.1)=o:=by
 cases h with
 | none=>exact⟨none,rfl,rfl⟩
 | int i t=>exact⟨some (i,t),rfl,rfl⟩
theorem bp7:SlR X (fun x lo hi H Q=>∃z,x=.str z/\(slS z lo hi).length<=16777216/\Q (.str (slS z lo hi)) H):=by
 intro pins s σ H x v vl vu lo hi sl Q I rx hs pl pu h
 obtain⟨z,rfl,hz,q⟩:=h
 obtain⟨t,rfl⟩:=rx
 obtain⟨pl',rfl,rfl⟩:=aJ6 pl
 obtain⟨pu',rfl,rfl⟩:=aJ6 pu
 refine⟨"str", _,F.slot_str_getitem.lookup,typeIs_str s z t,wpAny_getItem_str_slice (l:=pl') (u:=pu') (st:=none) hs rfl ?_⟩
 show(if((1:Int)==1&&(Builtin.Str.strSliceIndices (pl'.map (·.1)) (pu'.map (·.1)) 1 z.length).length==z.length)=true then Made.val (.str z t) else Made.str ⟨((Builtin.Str.strSliceIndices (pl'.map (·.1)) (pu'.map (·.1)) 1 z.length).filterMap (z.cps[·]?)).toArray⟩).post _ _
 unfold slS at q hz
 by_cases e:((1:Int)==1&&(Builtin.Str.strSliceIndices (pl'.map (·.1)) (pu'.map (·.1)) 1 z.length).length==z.length)=true
 ·rw[if_pos e]at q ⊢
  exact⟨.str z,H,I,⟨_,rfl⟩,q⟩
 ·rw[if_neg e]at q hz ⊢
  exact⟨by rw[sizeLine_eq];exact hz,.str _,H,I.tok _,⟨_,rfl⟩,q⟩
theorem bR8{a:Expr}{lo hi:Option Expr}{f:DE}{l h:Rho->Option (Option Int)}{pos p2:Pos}(ha:JE X a f) (hl:JO X lo l) (hh:JO X hi h):JE X (.Subscript a (.Slice lo hi none p2) pos) (cg8 f l h):=fun ρ d q=>by
 obtain⟨x,e1,q⟩:=xbm q
 obtain⟨y,e2,q⟩:=xbm q
 obtain⟨z,e3,q⟩:=xbm q
 cases x with
 | str x =>
  simp only at q
  split at q
  ·rename_i c
   cases q
   refine A7 (t7 bp7 (ha ρ _ e1) (hl ρ y e2) (hh ρ z e3)) fun σ H Q ⟨H0,Hf,s,sl,k⟩=>?_
   refine⟨H0,Hf,s,sl,fun v H1 Hf1 g1 r1=>⟨H0,Hf1,g1.sub,sl.grow g1,fun H2 Hf2 g2=>⟨H0,Hf2,g2.sub,sl.grow (g1.trans g2),fun H3 Hf3 g3=>?_⟩⟩⟩
   exact⟨x,r1,c.2,k _ H3 Hf3 ((g1.trans g2).trans g3) rfl⟩
  ·cases q
 | _=>cases q
noncomputable def bJ5(i:Nat) (f:DE):DS:=fun ρ=>match ρ[i]? with
 | some (some (.own ds))=>(f ρ).bind fun d=>match d with
  | .list es=>if ds.length+es.length<=16777216 then some (.nx (ρ.set i (some (.own (ds++es))))) else none
  | .tuple es=>if ds.length+es.length<=16777216 then some (.nx (ρ.set i (some (.own (ds++es))))) else none
  | _=>none
 | _=>none
end
end G
namespace G
open PySem PySem.Spec PyProof.Rows L2
section
variable {X:Cx}
noncomputable def ce0(f g:Rho->Option (Bool×List D)):Rho->Option (List D):=fun ρ=>(f ρ).bind fun p=>(g ρ).bind fun q=>if p.1=false/\q.1=false/\p.2.length+q.2.length<=16777216 then some (p.2++q.2) else none
theorem bR2(ha:JQ X a f) (hb:JQ X b g):JN X (.BinOp a .Add b pos) (ce0 f g):=fun ρ out q=>by
 obtain⟨⟨t1,xs⟩,e1,q⟩:=xbm q
 obtain⟨⟨t2,ys⟩,e2,q⟩:=xbm q
 split at q
 ·rename_i c
  obtain⟨c1,c2,c3⟩:=c
  simp only at c1 c2 c3
  subst c1 c2
  cases q
  refine A7 (bC2 aJ9 (ha ρ _ _ e1) (hb ρ _ _ e2)) fun σ H Q ⟨H0,Hf,s,sl,k⟩=>?_
  refine⟨H0,Hf,s,sl,fun v H1 Hf1 g1 ⟨p,vs,z1,z2,z3⟩=>⟨H0,Hf1,g1.sub,sl.grow g1,fun u H2 Hf2 g2 ⟨p',us,z1',z2',z3'⟩=>?_⟩⟩
  subst z1 z1'
  refine⟨p,p',vs,us,rfl,rfl,D0 g2.big z2,z2',by rw[z3.length,z3'.length,sizeLine_eq];exact c3,fun n hn=>?_⟩
  exact k _ _ _ ((g1.trans g2).trans (Grow.made g2.sub hn)) ⟨n,vs++us,rfl,(g1.trans g2).big.free hn,A5,g2.sub.free hn,(z3.mono g2.ext).append z3'⟩
 ·cases q
end
end G
namespace G
open PySem PySem.Spec PyProof.Rows L2
section
variable {X:Cx}
theorem bz1(l b:Addr) (xs ys:Array Value) (n m:Nat) (dd:Option Addr) (sl:Array (Option Value)) (h0:¬(!xs.isEmpty&&Builtin.List.listTooLong (xs.size+ys.size))=true) (h1:xs.size<=sizeLine) (h2:xs.size+ys.size<=sizeLine+1) :
  Meets (Builtin.«list.extend» ⟨[.ref l,.ref b],[]⟩) (fun _ R s=>s.heap.get? l=some { cls:=.type "list", data:=.seq xs n }/\s.heap.get? b=some ⟨.type "list", dd,.seq ys m,sl⟩ /\
   R (.ok (.ret Value.none)) { s with heap:=s.heap.update l (Obj.mapSeq fun x=>x++ys),toks:=s.toks }) :=
 .of_wp fun prog w A R s h=>by
  obtain⟨hp,g,d,tk,os⟩:=s
  obtain⟨hl,hb,h⟩:=h
  have f1:=AutoSeq1.idx_int
  have f2:=AutoSeq1.sub_tuple_tuple
  have f3:=AutoSeq1.sub_list_list
  have f4:=AutoSeq1.sub_tuple_list
  have f5:=AutoSeq1.sub_list_tuple
  have hz':(xs++ys).size<=sizeLine+1:=by rw[Array.size_append];exact h2
  wp_walk using (wpAny_updateSeq hl rfl (hz:=h1) (_hz':=hz')),AutoSeq1.wpAny_loadPart' hl,AutoSeq1.wpAny_loadPart' hb
  exact⟨_,rfl,h⟩
theorem bz0(l b:Addr) (xs ys:Array Value) (n m:Nat) (dd:Option Addr) (sl:Array (Option Value)) (h0:¬(!xs.isEmpty&&Builtin.List.listTooLong (xs.size+ys.size))=true) (h1:xs.size<=sizeLine) (h2:xs.size+ys.size<=sizeLine+1) :
  Meets (Builtin.«list.extend» ⟨[.ref l,.ref b],[]⟩) (fun _ R s=>s.heap.get? l=some { cls:=.type "list", data:=.seq xs n }/\s.heap.get? b=some ⟨.type "tuple", dd,.seq ys m,sl⟩ /\
   R (.ok (.ret Value.none)) { s with heap:=s.heap.update l (Obj.mapSeq fun x=>x++ys),toks:=s.toks }) :=
 .of_wp fun prog w A R s h=>by
  obtain⟨hp,g,d,tk,os⟩:=s
  obtain⟨hl,hb,h⟩:=h
  have f1:=AutoSeq1.idx_int
  have f2:=AutoSeq1.sub_tuple_tuple
  have f3:=AutoSeq1.sub_list_list
  have f4:=AutoSeq1.sub_tuple_list
  have f5:=AutoSeq1.sub_list_tuple
  have hz':(xs++ys).size<=sizeLine+1:=by rw[Array.size_append];exact h2
  wp_walk using (wpAny_updateSeq hl rfl (hz:=h1) (_hz':=hz')),AutoSeq1.wpAny_loadPart' hl,AutoSeq1.wpAny_loadPart' hb
  exact⟨_,rfl,h⟩
noncomputable def ck6(K:PySem.W.Frag):V->List V->Hp->VK->Prop:=fun x vs H Q=>∃l b xs zs,x=.ref l/\vs=[.ref b]/\H l=some (.lst xs)/\(SqL K H b zs\/SqT K H b zs)/\xs.length+zs.length<=sizeLine/\Q .non (upd H l (.lst (xs++zs)))
theorem be4:MtM X "list.extend" (ck6 X.K):=by
 intro pins s σ H x vs v us Q I rx rv h
 obtain⟨l,b,xs,zs,rfl,rfl,hH,hB,hz,q⟩:=h
 cases rx
 obtain⟨u,rfl,ru⟩:=rv.one
 cases ru
 obtain⟨z,its,n,r,hl,e⟩:=I.lstM hH
 rcases hB with hB|hB
 ·obtain⟨its2,r2,pl,_⟩:=I.list hB
  obtain⟨⟨cls,dd,data,sl⟩,ho,hc,m,hd⟩:=pl.isList
  simp only at hc hd
  subst hc hd
  have hl2:=r2.length
  have hsz:its.toArray.size+its2.toArray.size<=sizeLine:=by rw[List.size_toArray,List.size_toArray];grind
  have hlong:¬(!its.toArray.isEmpty&&Builtin.List.listTooLong (its.toArray.size+its2.toArray.size))=true:=by
   rw[c6 hsz,Bool.and_false];exact Bool.false_ne_true
  refine call_meets F.slot_list_extend ⟨_,e,rfl⟩ F.entry_list_extend (F.args_list_extend_2 _ _) (bz1 l b its.toArray its2.toArray n m dd sl hlong (by rw[List.size_toArray];grind) (by grind)) ⟨e,ho,?_⟩
  refine⟨.non,_,I.lset (its':=its++its2) hH e (by simp) (r.append r2) ?_,rfl,q⟩
  rw[List.length_append];grind
 ·obtain⟨its2,r2,pl,_⟩:=I.tuple hB
  obtain⟨⟨cls,dd,data,sl⟩,ho,hc,m,hd⟩:=pl
  simp only at hc hd
  subst hc hd
  have hl2:=r2.length
  have hsz:its.toArray.size+its2.toArray.size<=sizeLine:=by rw[List.size_toArray,List.size_toArray];grind
  have hlong:¬(!its.toArray.isEmpty&&Builtin.List.listTooLong (its.toArray.size+its2.toArray.size))=true:=by
   rw[c6 hsz,Bool.and_false];exact Bool.false_ne_true
  refine call_meets F.slot_list_extend ⟨_,e,rfl⟩ F.entry_list_extend (F.args_list_extend_2 _ _) (bz0 l b its.toArray its2.toArray n m dd sl hlong (by rw[List.size_toArray];grind) (by grind)) ⟨e,ho,?_⟩
  refine⟨.non,_,I.lset (its':=its++its2) hH e (by simp) (r.append r2) ?_,rfl,q⟩
  rw[List.length_append];grind
theorem bQ6(i:Nat) (h:JE X e f) (hN:X.N[i]? = some x) (hv:Vis X.env.scope x) (hd:(x==("__debug__" : Str))=false)
  (hcd:(x==("__classdict__" : Str))=false) (hline:(apos.endLine==cpos.line)=true) (hs:starEach [e] X.env=[(false,eval e X.env)]) :
  JS X (.Expr (.Call (.Attribute (.Name x p) "extend" apos) [e] [] cpos) pos) (bJ5 i f):=fun ρ fl q H0 Hf0=>by
 unfold bJ5 at q
 split at q
 ·rename_i ds eo
  obtain⟨d,e1,q⟩:=xbm q
  split at q
  ·rename_i es
   split at q
   ·rename_i hz
    cases q
    refine C7 (V3 (al0 PySem.F.plainAttrs_list PySem.F.slot_list_extend PySem.F.type_list_extend be4 (Q9 hN hv hd hcd) (B2 (h ρ _ e1) C6 hs) rfl (by rw[hs];rfl) hline hs) rfl) fun En σ H ⟨Hf,a,ee⟩=>?_
    obtain⟨v,h1,b,vs,rfl,h2,h3,h4,h5⟩:=a.sl.is i _ eo
    refine⟨_,h1,.inl ⟨rfl,vs,SqL.of h2⟩,H0,Hf,a.gr.sub,a.sl,fun w H' Hf' gg r=>?_⟩
    obtain⟨b2,us,rfl,r1,r2⟩:=r
    have hb:H' b=some (.lst vs):=gg.big _ _ h2
    have hfb:Hf' b=none:=gg.nofr h2 h3
    have g2:=a.gr.trans gg
    have sl2:=a.sl.grow gg
    refine⟨b,b2,vs,us,rfl,rfl,hb,.inl (D0 gg.sub r1),by rw[h5.length,r2.length,sizeLine_eq];exact hz,ee _ _ Hf' ⟨⟨fun c u z=>?_,fun c u z=>?_,g2.ext,g2.new⟩,?_⟩ gg.ext⟩
    ·rw[A6 (A8 z h4)];exact g2.big c u z
    ·rw[A6 (A8 z hfb)];exact g2.sub c u z
    ·exact sl2.reOwn eo h1 hfb h4 ((h5.mono gg.ext).append r2)
   ·cases q
  ·rename_i es
   split at q
   ·rename_i hz
    cases q
    refine C7 (V3 (al0 PySem.F.plainAttrs_list PySem.F.slot_list_extend PySem.F.type_list_extend be4 (Q9 hN hv hd hcd) (B2 (h ρ _ e1) C6 hs) rfl (by rw[hs];rfl) hline hs) rfl) fun En σ H ⟨Hf,a,ee⟩=>?_
    obtain⟨v,h1,b,vs,rfl,h2,h3,h4,h5⟩:=a.sl.is i _ eo
    refine⟨_,h1,.inl ⟨rfl,vs,SqL.of h2⟩,H0,Hf,a.gr.sub,a.sl,fun w H' Hf' gg r=>?_⟩
    obtain⟨b2,us,rfl,r1,r2⟩:=r
    have hb:H' b=some (.lst vs):=gg.big _ _ h2
    have hfb:Hf' b=none:=gg.nofr h2 h3
    have g2:=a.gr.trans gg
    have sl2:=a.sl.grow gg
    refine⟨b,b2,vs,us,rfl,rfl,hb,.inr (B7 gg.sub r1),by rw[h5.length,r2.length,sizeLine_eq];exact hz,ee _ _ Hf' ⟨⟨fun c u z=>?_,fun c u z=>?_,g2.ext,g2.new⟩,?_⟩ gg.ext⟩
    ·rw[A6 (A8 z h4)];exact g2.big c u z
    ·rw[A6 (A8 z hfb)];exact g2.sub c u z
    ·exact sl2.reOwn eo h1 hfb h4 ((h5.mono gg.ext).append r2)
   ·cases q
  ·cases q
 ·cases q
end
end G
namespace G
open PySem PySem.Spec PyProof.Rows L2
noncomputable def ay7(a:List Str) (x:Str):List Str:=if a.any (· == x) then a else a++[x]
noncomputable def ddN(v:Nat->Str) (i:Nat):List Str:=((List.range i).map v).foldl ay7 []
noncomputable def ddS(l:List Str):List Str:=l.foldl ay7 []
theorem ai2(v:Nat->Str) (i:Nat):ddN v (i+1)=ay7 (ddN v i) (v i):=by
 unfold ddN
 rw[List.range_succ,List.map_append,List.foldl_append]
 rfl
theorem bk3(v:Nat->Str):∀i,(ddN v i).length<=i
 | 0=>Nat.le_refl 0
 | i+1=>by
  have ih:=bk3 v i
  rw[ai2]
  unfold ay7
  split
  ·grind
  ·rw[List.length_append,List.length_singleton]
   grind
theorem bU5(a:List Str) (x y:Str):(ay7 a x).any (· == y)=(a.any (· == y) || decide (y=x)):=by
 unfold ay7
 by_cases q:a.any (· == x)=true
 ·rw[if_pos q]
  by_cases e:y=x
  ·subst e;rw[q];simp
  ·simp[e]
 ·rw[if_neg q,List.any_append]
  by_cases e:y=x
  ·subst e;simp
  ·have:(x==y)=false:=by simpa [beq_iff_eq] using fun z:x=y=>e z.symm
   simp[this,e]
theorem bU4(a:List Str) (x:Str):(ay7 a x).length=if a.any (· == x) then a.length else a.length+1:=by
 unfold ay7
 split<;>simp
theorem bU6(l:List Str) (d:Str):ddN (fun i=>l.getD i d) l.length=ddS l:=by
 unfold ddN ddS
 congr 1
 refine List.ext_getElem? fun i=>?_
 rw[List.getElem?_map]
 by_cases hi:i < l.length
 ·rw[List.getElem?_range hi,List.getElem?_eq_getElem hi]
  simp[List.getD,List.getElem?_eq_getElem hi]
 ·rw[List.getElem?_eq_none (by simpa using hi),List.getElem?_eq_none (by simpa using hi)]
  rfl
section
variable {prog:Program}{w:World}{A:Around}{R:Result->Shared->Prop}{J:Addr}{fp wr:List Addr}{Gn:Array GenState->Array GenState->Prop}{n:Nat}{P:Nat->Value->Prop}{St:Nat->Shared->Prop}
theorem aZ2(W:WalksS prog w A.in1 J fp wr Gn n P St) (S:Addr) (hS1:S∉fp) (v:Nat->Str) (hv:∀i u,P i u->∃t,u=.str (v i) t) (hb:n+1 < scanBound) :
  ∀(k i:Nat) (s:Shared),n - i=k->i<=n->St i s->s.heap.SetOf (strKind prog w) S (fun y=>(ddN v i).any (· == y)) (ddN v i).length ->
   (∀s',Moved (S::wr) Gn s s'->s'.heap.SetOf (strKind prog w) S (fun y=>(ddN v n).any (· == y)) (ddN v n).length->R (.ok (.ret .none)) s') ->
   codeAny (model prog w) A (.builtin "set.update.loop" ⟨[.ref S,.ref J],[]⟩) R s:=by
 have hS2:S∉wr:=fun z=>hS1 (W.sub _ z)
 have more:∀b∈wr,b∈S::wr:=fun b z=>List.mem_cons_of_mem _ z
 intro k
 induction k with
 | zero =>
  intro i s e1 e2 q1 q2 q3
  obtain rfl:i=n:=by grind
  refine codeAny_builtin PyProof.Rows.F.entry_set_update_loop ?_
  rw[Around.under_plainId PyProof.Rows.F.plain_set_update_loop _]
  show wpAny _ _ (pyNext (.ref J) >>= _) _ _ _
  refine wpAny_bind (W.done s _ _ q1 fun s' mv=>?_)
  show wpAny _ _ (ret Value.none) _ _ _
  refine wpAny_pure (q3 s' (mv.mono more) ?_)
  obtain⟨o,es,ep,tb,ho,more'⟩:=q2
  exact⟨o,es,ep,tb,mv.heap S _ hS2 ho,more'⟩
 | succ k ih =>
  intro i s e1 e2 q1 q2 q3
  have lt:i < n:=by grind
  refine codeAny_builtin PyProof.Rows.F.entry_set_update_loop ?_
  rw[Around.under_plainId PyProof.Rows.F.plain_set_update_loop _]
  show wpAny _ _ (pyNext (.ref J) >>= _) _ _ _
  refine wpAny_bind (W.item i s _ _ lt q1 fun u s' hP q1' mv=>?_)
  obtain⟨t,rfl⟩:=hv i u hP
  have q2':s'.heap.SetOf (strKind prog w) S (fun y=>(ddN v i).any (· == y)) (ddN v i).length:=by
   obtain⟨o,es,ep,tb,ho,more'⟩:=q2
   exact⟨o,es,ep,tb,mv.heap S _ hS2 ho,more'⟩
  show wpAny _ _ (holding [Value.str (v i) t] (setAdd S (.str (v i) t)) >>= _) _ _ _
  refine wpAny_bind (wpAny_holding ?_)
  unfold setAdd
  refine wpAny_holding (wpAny_bind ((strKind prog w).pyHash (k:=v i) (strKind_is _ _ _ _) ?_))
  have room:(ddN v i).length+1 < scanBound:=by have:=bk3 v i;grind
  refine wpAny_setAddHashed_of (knd:=strKind prog w) (s:={ s' with toks:=s'.toks+1 }) (strKind_is _ _ _ _) rfl q2' room fun h' sb q4=>?_
  have q5:h'.SetOf (strKind prog w) S (fun y=>(ddN v (i+1)).any (· == y)) (ddN v (i+1)).length:=SetOf_congr q4 (fun y=>by rw[ai2,bU5]) (by rw[ai2,bU4])
  refine wpAny_pure ⟨plainId_quiet PyProof.Rows.F.plain_set_update_loop _,ih (i+1) _ (by grind) lt (W.frame _ s' _ _ q1' (Nat.le_succ _) fun b z o e=>?_) q5 fun s2 mv2 q6=>?_⟩
  ·rw[sb.2 b (fun y:b=S=>hS1 (by rw[← y];exact z))];exact e
  ·refine q3 s2 (Moved.trans W.gtrans ((mv.mono more).then_heap (Nat.le_succ _) fun b o z e=>?_) mv2) q6
   rw[sb.2 b (fun y:b=S=>z (by rw[y];exact List.mem_cons_self))];exact e
end
section
variable {prog:Program}{w:World}{A:Around}{E:Value->Shared->Prop}{s:Shared}
noncomputable abbrev R1(b:Bool):Obj:={ cls:=.type "set", dict:=none,data:=.set #[] 0 (.fresh 0 0 b) }
theorem au5{l:Addr}{its:Array Value}{xs:List Str}{Q:Value->Shared->Prop}(hh:A.handled=none) (hl:s.heap.IsList l its) (hi:∀(i:Nat) (u:Value),its[i]? = some u->∃t,u=.str (xs.getD i "") t) (hb:its.size+1 < scanBound)
  (h:∀(h':Heap) (tk:Nat),h'.SetOf (strKind prog w) s.heap.objs.size (fun y=>(ddN (fun i=>xs.getD i "") its.size).any (· == y)) (ddN (fun i=>xs.getD i "") its.size).length ->
   (∀b o,b < s.heap.objs.size->s.heap.get? b=some o->h'.get? b=some o)->Q (.ref s.heap.objs.size) { s with heap:=h',toks:=tk }) :
  wpAny (model prog w) A (call (.type "set") [.ref l]) Q E s:=by
 obtain⟨c,tl,hmro⟩:=F.called_set.mro
 have hmade:=F.called_set.made
 have hsub:=F.called_set.sub
 refine wpAny_call (codeAny_of_tree ?_)
 show wpAny _ _ (callAny (.type "set") _) _ _ _
 refine wpAny_pure ⟨Code.quiet_builtin _ (by decide +kernel),codeAny_builtin F.entry_type_call ?_⟩
 rw[Around.under_plain (weight_type_call_type "set" [.ref l] []) rfl]
 have n1:=F.called_set.notType
 have n2:=F.called_set.canCreate
 have n3:=F.typeCall_set_1 (.ref l)
 repeat (any_goals (first|assumption|wp_step))
 refine codeAny_mono (code_set_new_1 (.ref l) (E:=E) (Q₁:=fun ob s1=>∃b:Bool,ob=.ref s.heap.objs.size/\s1={ s with heap:=s.heap.push (R1 b) }) fun b=>⟨b,rfl,rfl⟩) fun r s1 hr=>?_
 cases r with
 | error e=>exact hr
 | ok fl =>
  cases fl with
  | ret ob =>
   obtain⟨b,rfl,rfl⟩:=hr
   have g0:(s.heap.push (R1 b)).get? s.heap.objs.size=some (R1 b):=Heap.get?_push_size _ rfl
   have hT:Shared.TypeIs { s with heap:=s.heap.push (R1 b) } (.ref s.heap.objs.size) "set" := ⟨_,g0,rfl⟩
   have li:=F.called_set.init.lookup
   have bi:=F.called_set.init.bind (.ref s.heap.objs.size)
   repeat (any_goals (first|assumption|wp_step))
   refine codeAny_mono (codeAny_call_builtin (R:=wants (fun r s2=>r=.none/\∃h' tk,s2={ s with heap:=h',toks:=tk }/\h'.SetOf (strKind prog w) s.heap.objs.size (fun y=>(ddN (fun i=>xs.getD i "") its.size).any (· == y)) (ddN (fun i=>xs.getD i "") its.size).length /\
     (∀b o,b < s.heap.objs.size->s.heap.get? b=some o->h'.get? b=some o)) E) F.called_set.init.plain F.entry_set_init (check_set_init_1 hT ?_)) fun r2 s2 hr2=>?_
   ·obtain⟨⟨c0,d0,dt0,sl0⟩,hol,hcl,nl,hdl⟩:=hl
    simp only at hcl hdl
    subst hcl hdl
    have hol':(s.heap.push (R1 b)).get? l=some { cls:=.type "list", dict:=d0,data:=.seq its nl,slots:=sl0 }:=Heap.get?_push_of_some _ hol
    have f1:=F.sub_list_set
    have f2:=F.sub_list_frozenset
    have f3:(Value.type "list" == Value.type "dict")=false:=by decide
    have hl1:(s.heap.push (R1 b)).IsList l its:=⟨_,hol',rfl,nl,rfl⟩
    unfold Builtin.«set.__init__» noKeywords Builtin.Frozenset.updateFrom
    generalize hPI:pyIter=PI
    wp_walk
    subst hPI
    refine wpAny_pyIter_list hl1 (wpAny_bind (wpAny_runValue ?_))
    have lS:l < s.heap.objs.size:=Heap.lt_size hol
    have h3:A.in1.in1.in1.handled=none:=by simp[hh]
    have nI:l≠(s.heap.push (R1 b)).objs.size:=by
     rw[Heap.size_push]
     exact Nat.ne_of_lt (Nat.lt_succ_of_lt lS)
    have nf:s.heap.objs.size∉[(s.heap.push (R1 b)).objs.size,l]:=by
     rw[Heap.size_push]
     simp only[List.mem_cons,List.mem_singleton,List.not_mem_nil,or_false,not_or]
     exact⟨Nat.ne_of_lt (Nat.lt_succ_self _),Nat.ne_of_gt lS⟩
    refine aZ2 ((Walks.list h3 _ l nI its).toS) s.heap.objs.size nf (fun i=>xs.getD i "") hi hb (its.size - 0) 0 _ (by grind) (Nat.zero_le _) ⟨⟨_,Heap.get?_push_size _ rfl,rfl,rfl⟩,(hl1.push _)⟩ ?hS0 ?hR
    case hS0 =>
     have gt:((s.heap.push (R1 b)).push { cls:=.type "list_iterator", data:=.fields #[.ref l,.int 0 0] }).get? s.heap.objs.size=some (R1 b):=Heap.get?_push_of_some _ g0
     exact SetOf_congr ((setObjOf_fresh (knd:=strKind prog w) b).setOf gt (by unfold scanBound;grind)) (fun _=>rfl) rfl
    case hR =>
     intro s' mv q
     obtain⟨h',g',d',tk',os'⟩:=s'
     have eg:g'=s.gens:=mv.gens
     have ed:d'=s.drawn:=mv.drawn
     have eo:os'=s.os:=mv.os
     subst eg ed eo
     show wpAny _ _ _ _ _ _
     refine wpAny_pure ?_
     show wpAny _ _ (ret Value.none) _ _ _
     refine wpAny_pure ⟨rfl,h',tk',rfl,q,fun c o hc e=>?_⟩
     have c1:c≠s.heap.objs.size:=Nat.ne_of_lt hc
     have c2:c≠(s.heap.push (R1 b)).objs.size:=by
      rw[Heap.size_push]
      exact Nat.ne_of_lt (Nat.lt_succ_of_lt hc)
     exact mv.heap c o (by simp only[List.mem_cons,List.mem_singleton,List.not_mem_nil,or_false,not_or];exact⟨c1,c2⟩) (Heap.get?_push_of_some _ (Heap.get?_push_of_some _ e))
   ·cases r2 with
    | error e=>exact hr2
    | ok fl2 =>
     cases fl2 with
     | ret r =>
      obtain⟨rfl,h',tk,rfl,q1,q2⟩:=hr2
      repeat (any_goals (first|assumption|wp_step))
      exact h _ _ q1 q2
     | _=>exact hr2.elim
  | _=>exact hr.elim
end
end G
namespace G
open PySem PySem.Spec PyProof.Rows L2
section
variable {X:Cx}
noncomputable def SetO(X:Cx) (a:Addr) (n:Nat):HO:=.ext fun h=>∃S,h.SetOf (strKind X.prog X.w) a S n
theorem bW1:bootBuiltins "set" = some (.type "set"):=by decide +kernel
theorem at7:∀{ys:List Str}{us:List Value},C5 (ys.map V.str) us->∀(i:Nat) (u:Value),us[i]? = some u->∃t,u=.str (ys.getD i "") t
 | [],[],_,i,u,h=>by simp at h
 | y::ys,u::us,h,i,v,e=>by
  cases h with
  | cons a b =>
   cases i with
   | zero =>
    simp only[List.getElem?_cons_zero,Option.some.injEq]at e
    subst e
    obtain⟨t,e⟩:=a
    exact⟨t,e⟩
   | succ i =>
    simp only[List.getElem?_cons_succ]at e
    obtain⟨t,e'⟩:=at7 b i v e
    exact⟨t,e'⟩
theorem aU7(hc:X.calm=true):O0 X (.type "set") (fun xs H Q=>∃p ys,xs=[.ref p]/\SqL X.K H p (ys.map V.str)/\ys.length<=4000/\∀l,H l=none->Q (.ref l) (upd H l (SetO X l (ddS ys).length))):=by
 intro pins s σ H xs us Q I r h
 obtain⟨p,ys,rfl,hq,hz,q⟩:=h
 obtain⟨u,rfl,rx⟩:=Q5 r
 cases rx
 obtain⟨its,rv,pl,_⟩:=I.list hq
 have hl:its.length=ys.length:=by have:=rv.length;rw[List.length_map]at this;exact this.symm
 have hs:its.toArray.size=ys.length:=by rw[List.size_toArray];exact hl
 refine au5 (xs:=ys) (I.ok.hd hc) pl.isList (fun i u e=>at7 rv i u (by rw[List.getElem?_toArray]at e;exact e)) (by rw[hs];unfold scanBound;grind) fun h' tk q1 q2=>?_
 rw[hs,bU6]at q1
 refine⟨.ref _,_,I.laid (a:=s.heap.objs.size) (o:=SetO X s.heap.objs.size (ddS ys).length) (h':=h') (t':=tk) (fun b o e=>q2 b o (Heap.lt_size e) e) (Nat.le_refl _) ⟨⟨_,q1⟩,?_,?_⟩,rfl,q _ I.fresh⟩
 ·obtain⟨o,es,ep,t,ho,_⟩:=q1
  exact⟨o,ho⟩
 ·intro h1 h2 ⟨S,o,es,ep,t,ho,M6⟩ k
  exact⟨S,o,es,ep,t,k o ho,M6⟩
theorem aV3:O0 X (.builtin "len") (fun xs H Q=>∃p n,xs=[.ref p]/\H p=some (SetO X p n)/\Q (.int n) H):=by
 intro pins s σ H xs us Q I r h
 obtain⟨p,n,rfl,hp,q⟩:=h
 obtain⟨u,rfl,rx⟩:=Q5 r
 cases rx
 obtain⟨⟨S,o,es,ep,t,ho,hex,hd,_,_,hb,hf,hn⟩,_,_⟩:=I.hok p _ hp
 have:es.size < 4096:=hb
 exact call_len_set ho hex hd hf (by grind) ⟨.int n,H,I.tok _,⟨_,by rw[hn]⟩,q⟩
noncomputable def aM1(f:Rho->Option (Bool×List D)):DE:=fun ρ=>(f ρ).bind fun q=>if q.1=true then none else(aG7 q.2).bind fun ys=>if ys.length<=4000 then some (.int (ddS ys).length) else none
theorem aS4(hg:Gl X "len") (hm:X.mg "len" = none) (hg2:Gl X "set") (hm2:X.mg "set" = none) (h:JQ X e f) (hc:X.calm=true) (he:starEach [e] X.env=[(false,eval e X.env)]) :
  JE X (.Call (.Name "len" p) [.Call (.Name "set" p2) [e] [] pos2] [] pos) (aM1 f):=fun ρ d q=>by
 obtain⟨⟨t,ds⟩,h1,q⟩:=xbm q
 split at q
 ·cases q
 ·rename_i ht
  have ht:t=false:=by simpa using ht
  subst ht
  obtain⟨ys,h2,q⟩:=xbm q
  split at q
  ·rename_i hz
   cases q
   refine A7 (M4 aV3 hg hm aF1 (B2 (Q6 (aU7 hc) hg2 hm2 bW1 (B2 (h ρ false ds h1) C6 he) (he:=he)) C6 rfl)) fun σ H Q ⟨H0,Hf,s,sl,k⟩=>?_
   refine⟨H0,Hf,s,sl,fun v H1 Hf1 g1 ⟨a,vs,e1,e2,e3⟩=>⟨a,ys,by rw[e1],?_,hz,fun l hl=>⟨l,_,rfl,A5,?_⟩⟩⟩
   ·rw[← aa2 h2 e3];exact e2
   ·exact k _ _ _ (g1.trans (Grow.made g1.sub hl)) rfl
  ·cases q
end
end G
namespace G
open PySem PySem.Spec PyProof.Rows L2
section
variable {X:Cx}
noncomputable def cf9(x y:Str):Bool:=!(Builtin.Str.occurrences y x 0 y.length 1).isEmpty
noncomputable def inS(neg:Bool) (x y:D):Option D:=match x,y with
 | .str i,.str j=>some (.bool (if neg then !cf9 i j else cf9 i j))
 | _,_=>none
theorem bN4:OpD X (compareOp .In) (inS false):=fun x y z h=>by
 cases x<;>cases y<;>first|(cases h;done)|skip
 rename_i i j
 cases h
 refine OpR.imp aQ2 fun vx vy H Q ⟨Hf,s,rx,ry,k⟩=>?_
 cases rx
 cases ry
 exact⟨i,j,rfl,rfl,k _ H Hf (Grow.refl s) rfl⟩
theorem aQ7:OpD X (compareOp .NotIn) (inS true):=fun x y z h=>by
 cases x<;>cases y<;>first|(cases h;done)|skip
 rename_i i j
 cases h
 refine OpR.imp ap2 fun vx vy H Q ⟨Hf,s,rx,ry,k⟩=>?_
 cases rx
 cases ry
 exact⟨i,j,rfl,rfl,k _ H Hf (Grow.refl s) rfl⟩
noncomputable def bE1(f:DE):DE:=fun ρ=>(f ρ).bind fun d=>match d with
 | .str x=>if x.length<=16777216 then some (.int x.length) else none
 | _=>none
theorem bx4(hg:Gl X "len") (hm:X.mg "len" = none) (h:JE X e f) (he:starEach [e] X.env=[(false,eval e X.env)]):JE X (.Call (.Name "len" p) [e] [] pos) (bE1 f):=fun ρ d q=>by
 obtain⟨y,h1,h2⟩:=xbm q
 obtain⟨x,rfl⟩:∃x,y=.str x:=by
  cases y with
  | str x=>exact⟨x,rfl⟩
  | _=>cases h2
 have h2:(if x.length<=16777216 then some (PyData.int x.length) else none)=some d:=h2
 split at h2
 ·rename_i hz
  cases h2
  refine A7 (M4 as5 hg hm aF1 (B2 (h ρ _ h1) C6 he) (he:=he)) fun σ H Q ⟨H0,Hf,s,sl,k⟩=>?_
  refine⟨H0,Hf,s,sl,fun v H1 Hf1 g1 r=>⟨x,?_,by rw[sizeLine_eq];exact hz,k _ H1 Hf1 g1 rfl⟩⟩
  cases r;rfl
 ·cases h2
noncomputable def Its(x:Str):It:=⟨fun i _=>i < x.cps.size,fun i H v H'=>H'=H/\∃c,x.cps[i]? = some c/\v=.str ⟨#[c]⟩,fun i _=>x.cps.size<=i⟩
theorem aW7{P:Program}{w:World}{K:PySem.W.Frag}{tg:Expr}(x:Str) (t:Tok) (it:Addr):Turn P w K tg (Its x) [it] it (fun i h=>h.IsStrIter it "str_ascii_iterator" x t i) where
 mem:=by simp
 obj:=fun i h st b hb=>by
  have e:b=it:=by simpa using hb
  subst e
  obtain⟨o,e,c,d⟩:=st
  exact⟨o,e,fun v z=>by rw[d]at z;cases z⟩
 keep:=fun i h h' st k=>by
  obtain⟨o,e,r⟩:=st
  exact⟨o,k it (by simp) o e,r⟩
 item:=by
  intro X hP hw hK hc i pins s σ H E I hf st hg
  subst hP hw hK
  obtain⟨f0,f1,f2,f3,f4,f5⟩:=hf it (by simp)
  have hi:i < x.cps.size:=hg
  refine wpAny_pyNext_ascii_item st (c:=x.cps[i]) (by simp[hi]) fun h' st' sb=>?_
  have I1:Inv X pins σ H { s with heap:=h',toks:=s.toks+1 }:=I.turned (t':=s.toks+1) (fun b o hb e=>(sb.2 b hb).trans e) f0 f1 f3 f4 f5
  obtain⟨o,e,c,d⟩:=id st'
  exact⟨_,rfl,ax5 (s:={ s with heap:=h',toks:=s.toks+1 }) e c d (by decide) ⟨.str ⟨#[x.cps[i]]⟩,H,I1,⟨_,rfl⟩,⟨rfl,_,by simp[hi],rfl⟩,st',fun b hb=>(hf b hb).1⟩⟩
 done:=by
  intro X hP hw hK hc i pins s σ H E I hf st hg
  subst hP hw hK
  obtain⟨f0,f1,f2,f3,f4,f5⟩:=hf it (by simp)
  have hi:x.cps.size<=i:=hg
  exact wpAny_pyNext_ascii_end (I.ok.hd hc) st (by simp[hi]) fun h' eb=>⟨rfl,I.turned (t':=s.toks) (fun b o hb e=>eb b o hb e) f0 f1 f3 f4 f5⟩
 self:=fun _ _ _ _ _ st h=>wpAny_pyIter_striter_ascii st h
noncomputable def aI1(x:Str):List D:=x.cps.toList.map fun c=>.str ⟨#[c]⟩
noncomputable def cf3(f:DE):Rho->Option (List D):=fun ρ=>(f ρ).bind fun d=>match d with
 | .str x=>if x.cps.all (· < 128)=true then some (aI1 x) else none
 | _=>none
theorem bR4{tg e:Expr}{f:DE}(h:JE X e f):JI X tg e (cf3 f):=fun ρ ds q=>by
 obtain⟨d,e1,e2⟩:=xbm q
 obtain⟨x,rfl⟩:∃x,d=.str x:=by
  cases d with
  | str x=>exact⟨x,rfl⟩
  | _=>cases e2
 have e2:(if x.cps.all (· < 128)=true then some (aI1 x) else none)=some ds:=e2
 split at e2
 ·rename_i ha
  cases e2
  intro pins s σ H R I ⟨H0,Hf,ss,sl,k⟩
  refine thn (h ρ _ e1 pins s σ H (fun v H'=>∃Hf',Grow H Hf H' Hf'/\v=.str x) I ⟨H0,Hf,ss,sl,fun v H' Hf' g r=>⟨Hf',g,r⟩⟩) fun v s1 ⟨y,H1,I1,r1,Hf1,g1,ey⟩=>?_
  subst ey
  obtain⟨t,rfl⟩:=r1
  refine wpAny_pyIter_ascii ha ?_
  have I2:Inv X pins σ H1 { s1 with heap:=s1.heap.push { cls:=.type "str_ascii_iterator", data:=.fields #[.str x t,.int 0 0] } }:=I1.kept (t':=s1.toks) fun b u e=>Heap.get?_push_of_some _ e
  refine⟨_,_,_,Its x,H1,rfl,I2,aW7 x t s1.heap.objs.size,⟨_,Heap.get?_push_size _ rfl,rfl,rfl⟩,fun b hb=>?_,k _ H1 Hf1 g1 fun i H' Hf' sa sb=>⟨fun hi=>?_,fun d hd=>?_⟩⟩
  ·have hb':s1.heap.objs.size<=b:=by rw[List.mem_singleton]at hb;rw[hb];exact Nat.le_refl _
   exact I1.fpOk hb' (I1.hok.fresh hb')
  ·show x.cps.size<=i
   simpa [aI1] using hi
  ·unfold aI1 at hd
   rw[List.getElem?_map]at hd
   obtain⟨c,c1,c2⟩:=Option.map_eq_some_iff.mp hd
   have c1':x.cps[i]? = some c:=by rw[← Array.getElem?_toList];exact c1
   refine⟨(Array.getElem?_eq_some_iff.mp c1').1,fun v H'' ⟨h1,c',h2,h3⟩=>?_⟩
   subst h1 h3 c2
   rw[c1']at h2
   cases h2
   exact⟨Hf',Grow.refl sb,rfl⟩
 ·cases e2
end
end G
namespace G
open PySem PySem.Spec PyProof PyProof.Rows L2
section
variable {X:Cx}
noncomputable def mnF(m x:Int):Int:=if x < m then x else m
noncomputable def mxF(m x:Int):Int:=if x > m then x else m
noncomputable def mnL:List Int->Int
 | []=>0
 | a::r=>r.foldl mnF a
noncomputable def mxL:List Int->Int
 | []=>0
 | a::r=>r.foldl mxF a
theorem aK6:∀(l:List Int) (z:Int),(l.foldl mnF z=z\/l.foldl mnF z∈l)/\l.foldl mnF z<=z/\∀a∈l,l.foldl mnF z<=a
 | [],z=>⟨.inl rfl,Int.le_refl _,fun a h=>by simp at h⟩
 | x::l,z=>by
  obtain⟨h1,h2,h3⟩:=aK6 l (mnF z x)
  rw[List.foldl_cons]
  have k:(mnF z x=z\/mnF z x=x)/\mnF z x<=z/\mnF z x<=x:=by unfold mnF;split<;>omega
  refine⟨?_,by omega,fun a ha=>?_⟩
  ·rcases h1 with h|h
   ·rcases k.1 with q|q
    ·left;rw[h,q]
    ·right;rw[h,q];exact List.mem_cons_self ..
   ·right;exact List.mem_cons_of_mem _ h
  ·rcases List.mem_cons.mp ha with rfl|ha
   ·omega
   ·exact h3 a ha
theorem aK5:∀(l:List Int) (z:Int),(l.foldl mxF z=z\/l.foldl mxF z∈l)/\z<=l.foldl mxF z/\∀a∈l,a<=l.foldl mxF z
 | [],z=>⟨.inl rfl,Int.le_refl _,fun a h=>by simp at h⟩
 | x::l,z=>by
  obtain⟨h1,h2,h3⟩:=aK5 l (mxF z x)
  rw[List.foldl_cons]
  have k:(mxF z x=z\/mxF z x=x)/\z<=mxF z x/\x<=mxF z x:=by unfold mxF;split<;>omega
  refine⟨?_,by omega,fun a ha=>?_⟩
  ·rcases h1 with h|h
   ·rcases k.1 with q|q
    ·left;rw[h,q]
    ·right;rw[h,q];exact List.mem_cons_self ..
   ·right;exact List.mem_cons_of_mem _ h
  ·rcases List.mem_cons.mp ha with rfl|ha
   ·omega
   ·exact h3 a ha
theorem be5(h:l≠[]):mnL l∈l/\∀a∈l,mnL l<=a:=by
 cases l with
 | nil=>exact absurd rfl h
 | cons x l =>
  obtain⟨h1,h2,h3⟩:=aK6 l x
  refine⟨?_,fun a ha=>?_⟩
  ·rcases h1 with h|h
   ·show l.foldl mnF x∈_;rw[h];exact List.mem_cons_self ..
   ·exact List.mem_cons_of_mem _ h
  ·rcases List.mem_cons.mp ha with rfl|ha
   ·exact h2
   ·exact h3 a ha
theorem aw1(h:l≠[]):mxL l∈l/\∀a∈l,a<=mxL l:=by
 cases l with
 | nil=>exact absurd rfl h
 | cons x l =>
  obtain⟨h1,h2,h3⟩:=aK5 l x
  refine⟨?_,fun a ha=>?_⟩
  ·rcases h1 with h|h
   ·show l.foldl mxF x∈_;rw[h];exact List.mem_cons_self ..
   ·exact List.mem_cons_of_mem _ h
  ·rcases List.mem_cons.mp ha with rfl|ha
   ·exact h2
   ·exact h3 a ha
noncomputable def aL4:List D->Option (List Int)
 | []=>some []
 | .int i::r=>(aL4 r).map fun ys=>i::ys
 | _::_=>none
theorem f6{K:PySem.W.Frag}{H:Hp}:∀{ds:List D}{ys:List Int}{vs:List V},aL4 ds=some ys->Reps K H ds vs->vs=ys.map V.int
 | [],ys,vs,h,r=>by cases h;exact r
 | .int x::ds,ys,vs,h,r=>by
  obtain⟨zs,h1,h2⟩:=Option.map_eq_some_iff.mp h
  subst h2
  obtain⟨v,t,e1,e2,e3⟩:=r
  subst e1
  rw[show v=_ from e2,f6 h1 e3];rfl
theorem R8:∀{ys:List Int}{us:List Value},C5 (ys.map V.int) us->∃xs:List (Int×Tok),us=xs.map (fun p=>.int p.1 p.2)/\xs.map (·.1)=ys
 | [],[],_=>⟨[],rfl,rfl⟩
 | y::ys,u::us,h=>by
  cases h with
  | cons a b =>
   obtain⟨xs,e1,e2⟩:=R8 b
   obtain⟨t,rfl⟩:=a
   exact⟨(y,t)::xs,by rw[e1];rfl,by rw[List.map_cons,e2]⟩
theorem aU8(hc:X.calm=true):O0 X (.builtin "min") (fun xs H Q=>∃p ns,xs=[.ref p]/\SqL X.K H p (ns.map V.int)/\ns≠[]/\Q (.int (mnL ns)) H):=by
 intro pins s σ H xs us Q I r h
 obtain⟨p,ns,rfl,hq,hz,q⟩:=h
 obtain⟨u,rfl,rx⟩:=Q5 r
 cases rx
 obtain⟨its,rv,pl,_⟩:=I.list hq
 obtain⟨zs,e1,e2⟩:=R8 rv
 have hl:s.heap.IsList p (intItems zs.toArray):=by
  have:=pl.isList
  rw[e1]at this
  simpa [intItems] using this
 have hzs:zs.toArray.toList.map (·.1)=ns:=by simpa using e2
 have hn:0 < zs.toArray.size:=by
  cases zs with
  | nil=>exact absurd e2.symm hz
  | cons=>simp
 refine min_intList (I.ok.hd hc) hl hn fun v h' tk hv hk=>?_
 obtain⟨t,rfl⟩:=intItems_at hv
 obtain⟨b1,b2⟩:=argBest_lt (numAt zs.toArray) (zs.toArray.size - 1)
 have key:numAt zs.toArray (argBest (fun i j=>decide (numAt zs.toArray i < numAt zs.toArray j)) (zs.toArray.size - 1))=mnL ns:=by
  obtain⟨m1,m2⟩:=be5 hz
  have g:∀j,j < zs.toArray.size->numAt zs.toArray j∈ns:=fun j hj=>by
   rw[numAt_eq,hzs];exact getD_mem (by rw[← hzs,List.length_map,Array.length_toList];omega)
  refine Int.le_antisymm ?_ (m2 _ (g _ (by omega)))
  rw[← hzs]at m1
  obtain⟨j,hj,e⟩:=mem_getD m1
  rw[List.length_map,Array.length_toList]at hj
  have:=b2 j (by omega)
  rw[numAt_eq zs.toArray j,e,hzs]at this
  exact this
 rw[key]
 exact⟨.int _,H,I.kept (t':=tk) hk,⟨_,rfl⟩,q⟩
theorem bA6{zs:List (Int×Tok)}{ns:List Int}(hzs:zs.toArray.toList.map (·.1)=ns) (hz:ns≠[]) (hn:0 < zs.toArray.size):numAt zs.toArray (argBest (fun i j=>decide (numAt zs.toArray i > numAt zs.toArray j)) (zs.toArray.size - 1))=mxL ns:=by
 obtain⟨b1,b2⟩:=argBest_gt (numAt zs.toArray) (zs.toArray.size - 1)
 obtain⟨m1,m2⟩:=aw1 hz
 have g:∀j,j < zs.toArray.size->numAt zs.toArray j∈ns:=fun j hj=>by
  rw[numAt_eq,hzs];exact getD_mem (by rw[← hzs,List.length_map,Array.length_toList];omega)
 refine Int.le_antisymm (m2 _ (g _ (by omega))) ?_
 rw[← hzs]at m1
 obtain⟨j,hj,e⟩:=mem_getD m1
 rw[List.length_map,Array.length_toList]at hj
 have:=b2 j (by omega)
 rw[numAt_eq zs.toArray j,e,hzs]at this
 exact this
theorem aV0(hc:X.calm=true):O0 X (.builtin "max") (fun xs H Q=>∃p ns,xs=[.ref p]/\SqT X.K H p (ns.map V.int)/\ns≠[]/\Q (.int (mxL ns)) H):=by
 intro pins s σ H xs us Q I r h
 obtain⟨p,ns,rfl,hq,hz,q⟩:=h
 obtain⟨u,rfl,rx⟩:=Q5 r
 cases rx
 obtain⟨its,rv,pl,_⟩:=I.tuple hq
 obtain⟨zs,e1,e2⟩:=R8 rv
 have hl:s.heap.IsTuple p (intItems zs.toArray):=by
  have:s.heap.IsTuple p its.toArray:=pl
  rw[e1]at this
  simpa [intItems] using this
 have hzs:zs.toArray.toList.map (·.1)=ns:=by simpa using e2
 have hn:0 < zs.toArray.size:=by
  cases zs with
  | nil=>exact absurd e2.symm hz
  | cons=>simp
 have hA:X.A.in1.handled=none:=I.ok.hd hc
 obtain⟨o,ho,hcl,n,hd⟩:=hl
 have lt:=Heap.lt_size ho
 refine call_max_walk (wpAny_pyIter_tuple ⟨o,ho,hcl,n,hd⟩ ?_)
 refine⟨s.heap.objs.size,_,_,_,_,_,_,rfl,Walks.tuple hA s.heap.objs.size p (Nat.ne_of_lt lt) (intItems zs.toArray),⟨?_,⟨o,Heap.get?_push_of_some _ ho,hcl,n,hd⟩⟩,?_,by simpa [intItems] using hn,CmpOf.ints_gt (numAt zs.toArray) (fun i v hv=>intItems_at hv),fun v h' tk hv hk=>?_⟩
 ·exact⟨_,Heap.get?_push_size _ rfl,rfl,rfl⟩
 ·intro b hb
  simp only[List.mem_cons,List.not_mem_nil,or_false]at hb
  rw[Heap.size_push]
  rcases hb with rfl|rfl
  ·exact Nat.lt_succ_self _
  ·exact Nat.lt_succ_of_lt lt
 ·obtain⟨t,rfl⟩:=intItems_at hv
  have sz:(intItems zs.toArray).size=zs.toArray.size:=by simp[intItems]
  rw[sz,bA6 hzs hz hn]
  exact⟨.int _,H,I.kept (t':=tk) (fun b o e=>hk b o (by
   simp only[List.mem_cons,List.not_mem_nil,or_false]
   exact Nat.ne_of_lt (Heap.lt_size e)) (Heap.get?_push_of_some _ e)),⟨_,rfl⟩,q⟩
theorem aV1(hc:X.calm=true):O0 X (.builtin "max") (fun xs H Q=>∃p ns,xs=[.ref p]/\SqL X.K H p (ns.map V.int)/\ns≠[]/\Q (.int (mxL ns)) H):=by
 intro pins s σ H xs us Q I r h
 obtain⟨p,ns,rfl,hq,hz,q⟩:=h
 obtain⟨u,rfl,rx⟩:=Q5 r
 cases rx
 obtain⟨its,rv,pl,_⟩:=I.list hq
 obtain⟨zs,e1,e2⟩:=R8 rv
 have hl:s.heap.IsList p (intItems zs.toArray):=by
  have:=pl.isList
  rw[e1]at this
  simpa [intItems] using this
 have hzs:zs.toArray.toList.map (·.1)=ns:=by simpa using e2
 have hn:0 < zs.toArray.size:=by
  cases zs with
  | nil=>exact absurd e2.symm hz
  | cons=>simp
 refine max_intList (I.ok.hd hc) hl hn fun v h' tk hv hk=>?_
 obtain⟨t,rfl⟩:=intItems_at hv
 obtain⟨b1,b2⟩:=argBest_gt (numAt zs.toArray) (zs.toArray.size - 1)
 have key:numAt zs.toArray (argBest (fun i j=>decide (numAt zs.toArray i > numAt zs.toArray j)) (zs.toArray.size - 1))=mxL ns:=by
  obtain⟨m1,m2⟩:=aw1 hz
  have g:∀j,j < zs.toArray.size->numAt zs.toArray j∈ns:=fun j hj=>by
   rw[numAt_eq,hzs];exact getD_mem (by rw[← hzs,List.length_map,Array.length_toList];omega)
  refine Int.le_antisymm (m2 _ (g _ (by omega))) ?_
  rw[← hzs]at m1
  obtain⟨j,hj,e⟩:=mem_getD m1
  rw[List.length_map,Array.length_toList]at hj
  have:=b2 j (by omega)
  rw[numAt_eq zs.toArray j,e,hzs]at this
  exact this
 rw[key]
 exact⟨.int _,H,I.kept (t':=tk) hk,⟨_,rfl⟩,q⟩
noncomputable def bD7(f:Rho->Option (Bool×List D)):DE:=fun ρ=>(f ρ).bind fun q=>if q.1=true then none else(aL4 q.2).bind fun ns=>if ns=[] then none else some (.int (mnL ns))
noncomputable def bD9(f:Rho->Option (Bool×List D)):DE:=fun ρ=>(f ρ).bind fun q=>(aL4 q.2).bind fun ns=>if ns=[] then none else some (.int (mxL ns))
theorem bw9(hg:Gl X "min") (hm:X.mg "min" = none) (h:JQ X e f) (hc:X.calm=true) (he:starEach [e] X.env=[(false,eval e X.env)]):JE X (.Call (.Name "min" p) [e] [] pos) (bD7 f):=fun ρ d q=>by
 obtain⟨⟨t,ds⟩,h1,q⟩:=xbm q
 split at q
 ·cases q
 ·rename_i ht
  have ht:t=false:=by simpa using ht
  subst ht
  obtain⟨ys,h2,q⟩:=xbm q
  split at q
  ·cases q
  ·rename_i hz
   cases q
   refine A7 (M4 (aU8 hc) hg hm bm1 (B2 (h ρ false ds h1) C6 he) (he:=he)) fun σ H Q ⟨H0,Hf,s,sl,k⟩=>?_
   refine⟨H0,Hf,s,sl,fun v H1 Hf1 g1 ⟨a,vs,e1,e2,e3⟩=>⟨a,ys,by rw[e1],?_,hz,?_⟩⟩
   ·rw[← f6 h2 e3];exact e2
   ·exact k _ _ _ g1 rfl
theorem bx1(hg:Gl X "max") (hm:X.mg "max" = none) (h:JQ X e f) (hc:X.calm=true) (he:starEach [e] X.env=[(false,eval e X.env)]):JE X (.Call (.Name "max" p) [e] [] pos) (bD9 f):=fun ρ d q=>by
 obtain⟨⟨t,ds⟩,h1,q⟩:=xbm q
 obtain⟨ys,h2,q⟩:=xbm q
 split at q
 ·cases q
 ·rename_i hz
  cases q
  cases t with
  | false =>
   refine A7 (M4 (aV1 hc) hg hm aF0 (B2 (h ρ false ds h1) C6 he) (he:=he)) fun σ H Q ⟨H0,Hf,s,sl,k⟩=>?_
   refine⟨H0,Hf,s,sl,fun v H1 Hf1 g1 ⟨a,vs,e1,e2,e3⟩=>⟨a,ys,by rw[e1],?_,hz,?_⟩⟩
   ·rw[← f6 h2 e3];exact e2
   ·exact k _ _ _ g1 rfl
  | true =>
   refine A7 (M4 (aV0 hc) hg hm aF0 (B2 (h ρ true ds h1) C6 he) (he:=he)) fun σ H Q ⟨H0,Hf,s,sl,k⟩=>?_
   refine⟨H0,Hf,s,sl,fun v H1 Hf1 g1 ⟨a,vs,e1,e2,e3⟩=>⟨a,ys,by rw[e1],?_,hz,?_⟩⟩
   ·rw[← f6 h2 e3];exact e2
   ·exact k _ _ _ g1 rfl
end
end G
namespace G
open PySem PySem.Spec PyProof.Rows L2
section
variable {prog:Program}{w:World}{A:Around}{E:Value->Shared->Prop}{s:Shared}{t:Bool}
theorem at6(h:Q (s.heap.get? a) s):wpAny M A (loadIfAlive a) Q E s:=fun Γ p _=>by
 show Sem.wp M Γ (.loadIfAlive a .pure) _ _ p s
 rw[Sem.wp_loadIfAlive]
 exact(Sem.wp_pure ..).mpr h
noncomputable def aN7(h:Heap) (e it:Addr) (i:Int):Prop:=∃(a:Addr) (b:Bool) (x:Value) (u:Obj),
 h.get? e=some { cls:=.type "enumerate", dict:=none,data:=.fields #[rawInt a,.bool b,.ref it,rawInt i,.none,x],slots:=#[] }/\a≠e/\a≠it/\h.get? a=some u
theorem aT1{e it l:Addr}{i:Nat}{xs:Array Value}{x:Value}{Q:Option Value->Shared->Prop}(he:aN7 s.heap e it i) (hit:SIt t s.heap it l i) (hl:SSq t s.heap l xs) (hx:xs[i]? = some x) (hne:e≠it)
  (hQ:∀h' tk,aN7 h' e it ((i:Int)+1)->SIt t h' it l (i+1)->h'.get? s.heap.objs.size=some { cls:=.type "tuple", data:=.seq #[.int i tk,x] }->h'.objs.size=s.heap.objs.size+1 ->
   (∀b o,b≠e->b≠it->s.heap.get? b=some o->h'.get? b=some o)->Q (some (.ref s.heap.objs.size)) { s with heap:=h',toks:=tk+1 }) :
  wpAny (model prog w) A (pyNext (.ref e)) Q E s:=by
 obtain⟨a,b,x0,u,he,ae,ai,ha⟩:=he
 have hT:s.TypeIs (.ref e) "enumerate" := ⟨_,he,rfl⟩
 unfold pyNext
 refine wpAny_bind (wpAny_attempt (wpAny_callSpecial?_slot (name:=Str.ofString "__next__") hT F.slot_enumerate_next (wpAny_call_entry F.slot_enumerate_next hT F.entry_enumerate_next ?_ (F.args_enumerate_next_1 _))))
 obtain⟨hp,g,d,tk,os⟩:=s
 show wpAny _ _ (field (.ref e) 2 >>= _) _ _ _
 refine wpAny_bind (wpAny_field he rfl (x:=.ref it) rfl ?_)
 refine wpAny_bind (a9 hit hl hx fun h₁ hit₁ hs₁=>?_)
 replace hs₁:Heap.SameBut it hp h₁:=hs₁
 have he₁:=(hs₁.2 e hne).trans he
 show wpAny _ _ (field (.ref e) 3 >>= _) _ _ ⟨h₁,g,d,tk,os⟩
 refine wpAny_bind (wpAny_field he₁ rfl (x:=rawInt i) rfl ?_)
 show wpAny _ _ (field (.ref e) 4 >>= _) _ _ ⟨h₁,g,d,tk,os⟩
 refine wpAny_bind (wpAny_field he₁ rfl (x:=.none) rfl ?_)
 show wpAny _ _ (mkInt i >>= _) _ _ ⟨h₁,g,d,tk,os⟩
 refine wpAny_bind (wpAny_mkInt ?_)
 show wpAny _ _ (setField (.ref e) 3 (rawInt ((i:Int)+1)) >>= _) _ _ ⟨h₁,g,d,tk+1,os⟩
 refine wpAny_bind (wpAny_setField_rec he₁ (by simp) fun h₂ he₂ hs₂=>?_)
 replace hs₂:Heap.SameBut e h₁ h₂:=hs₂
 replace he₂:h₂.get? e=some { cls:=.type "enumerate", dict:=none,data:=.fields #[rawInt a,.bool b,.ref it,rawInt ((i:Int)+1),.none,x0],slots:=#[] }:=he₂
 show wpAny _ _ (setField (.ref e) 4 .none >>= _) _ _ ⟨h₂,g,d,tk+1,os⟩
 refine wpAny_bind (wpAny_setField_rec he₂ (by simp) fun h₃ he₃ hs₃=>?_)
 replace hs₃:Heap.SameBut e h₂ h₃:=hs₃
 replace he₃:h₃.get? e=some { cls:=.type "enumerate", dict:=none,data:=.fields #[rawInt a,.bool b,.ref it,rawInt ((i:Int)+1),.none,x0],slots:=#[] }:=he₃
 show wpAny _ _ (newTuple [.int i tk,x] >>= _) _ _ ⟨h₃,g,d,tk+1,os⟩
 refine wpAny_bind (wpAny_newTuple ?_)
 have he₄:=Heap.get?_push_of_some { cls:=.type "tuple", data:=.seq #[.int i tk,x] } he₃
 generalize hh₄:h₃.push { cls:=.type "tuple", data:=.seq #[.int i tk,x] }=h₄ at he₄
 have hsz:h₃.objs.size=hp.objs.size:=by rw[hs₃.1,hs₂.1,hs₁.1]
 have hel:e < hp.objs.size:=Heap.lt_size he
 have ht₄:h₄.get? hp.objs.size=some { cls:=.type "tuple", data:=.seq #[.int i tk,x] }:=by rw[← hh₄,← hsz];exact Heap.get?_push_size _ rfl
 have hz₄:h₄.objs.size=hp.objs.size+1:=by rw[← hh₄,Heap.size_push,hsz]
 have hk₄:∀b o,b≠e->b≠it->hp.get? b=some o->h₄.get? b=some o:=fun b o hbe hbi hb=>by
  rw[← hh₄];exact Heap.get?_push_of_some _ (hs₃.extBut b o hbe (hs₂.extBut b o hbe (hs₁.extBut b o hbi hb)))
 have hit₄:SIt t h₄ it l (i+1):=hit₁.ext fun o y=>by
  rw[← hh₄];exact Heap.get?_push_of_some _ (hs₃.extBut it o hne.symm (hs₂.extBut it o hne.symm y))
 have ha₄:=hk₄ a u ae ai ha
 show wpAny _ _ (Builtin.SmallTypes.ownedTupleIsFree (.ref e) >>= _) _ _ ⟨h₄,g,d,tk+1,os⟩
 rw[hsz]
 clear hh₄ he₃ hs₃ he₂ hs₂ he₁ hs₁ hit₁ hsz h₃ h₂ h₁
 refine wpAny_bind ?_
 unfold Builtin.SmallTypes.ownedTupleIsFree
 refine wpAny_bind (wpAny_field he₄ rfl (x:=rawInt a) rfl ?_)
 show wpAny _ _ (loadIfAlive ((a:Int)).toNat >>= _) _ _ _
 refine wpAny_bind (at6 ?_)
 rw[Int.toNat_natCast]
 rw[show(Shared.heap ⟨h₄,g,d,tk+1,os⟩).get? a=some u from ha₄]
 show wpAny _ _ (field (.ref e) 1 >>= _) _ _ ⟨h₄,g,d,tk+1,os⟩
 refine wpAny_bind (wpAny_field he₄ rfl (x:=.bool b) rfl ?_)
 cases b with
 | false =>
  show wpAny _ _ (setField (.ref e) 1 (.bool true) >>= _) _ _ ⟨h₄,g,d,tk+1,os⟩
  refine wpAny_bind (wpAny_setField_rec he₄ (by simp) fun h₅ he₅ hs₅=>?_)
  replace hs₅:Heap.SameBut e h₄ h₅:=hs₅
  refine wpAny_pure (wpAny_pure ⟨_,rfl,wpAny_pure (hQ h₅ tk ⟨a,true,x0,u,he₅,ae,ai,hs₅.extBut a u ae ha₄⟩ (hit₄.ext fun o y=>hs₅.extBut it o hne.symm y) (hs₅.extBut _ _ (Nat.ne_of_gt hel) ht₄) (by rw[hs₅.1,hz₄]) fun b o hbe hbi hb=>hs₅.extBut b o hbe (hk₄ b o hbe hbi hb))⟩)
 | true =>
  exact wpAny_pure (wpAny_pure ⟨_,rfl,wpAny_pure (hQ h₄ tk ⟨a,true,x0,u,he₄,ae,ai,ha₄⟩ hit₄ ht₄ hz₄ hk₄)⟩)
theorem aD8(hh:A.handled=none) (he:aN7 s.heap e it i) (hit:SIt t s.heap it l k) (hl:SSq t s.heap l xs) (hx:xs[k]? = none)
  (hQ:∀h',Heap.ExtBut it s.heap h'->Q none { s with heap:=h' }):wpAny (model prog w) A (pyNext (.ref e)) Q E s:=by
 obtain⟨a,b,x0,u,he,_⟩:=he
 have hT:s.TypeIs (.ref e) "enumerate" := ⟨_,he,rfl⟩
 unfold pyNext
 refine wpAny_bind (wpAny_attempt (wpAny_callSpecial?_slot (name:=Str.ofString "__next__") hT F.slot_enumerate_next (wpAny_call_entry F.slot_enumerate_next hT F.entry_enumerate_next ?_ (F.args_enumerate_next_1 _))))
 show wpAny _ _ (field (.ref e) 2 >>= _) _ _ _
 refine wpAny_bind (wpAny_field he rfl (x:=.ref it) rfl (wpAny_bind (o9 hh hit hl hx fun h' x he' hx'=>?_)))
 obtain⟨o,ho,hc⟩:=hx'
 exact wpAny_bind (wpAny_isInstance (T := "StopIteration") (b:=true) ⟨o,ho,hc⟩ isSubtype_stop (wpAny_pure (hQ _ he')))
noncomputable def aa0(h:Heap) (e it:Addr) (i:Int):Prop:=(∃old,IsEnum h e it i old)\/aN7 h e it i
theorem aa0.obj(x:aa0 h e it i):∃fs,h.get? e=some { cls:=.type "enumerate", dict:=none,data:=.fields fs,slots:=#[] }:=by
 rcases x with⟨old,x⟩|⟨a,b,x0,u,x,_⟩
 ·exact⟨_,x⟩
 ·exact⟨_,x⟩
theorem aa0.ext(x:aa0 h e it i) (hS:h.get? S=some o) (hS':∃o',h'.get? S=some o') (hne:S≠e) (k:∀b o,b≠S->h.get? b=some o->h'.get? b=some o):aa0 h' e it i:=by
 rcases x with⟨old,x⟩|⟨a,b,x0,u,x,ae,ai,ha⟩
 ·exact .inl ⟨old,k _ _ hne.symm x⟩
 ·by_cases q:a=S
  ·subst q
   obtain⟨o',hS'⟩:=hS'
   exact .inr ⟨a,b,x0,o',k _ _ hne.symm x,ae,ai,hS'⟩
  ·exact .inr ⟨a,b,x0,u,k _ _ hne.symm x,ae,ai,k _ _ q ha⟩
theorem aT2{e it l:Addr}{i:Nat}{xs:Array Value}{x:Value}{Q:Option Value->Shared->Prop}(hh:A.handled=none) (he:aa0 s.heap e it i) (hit:SIt t s.heap it l i) (hl:SSq t s.heap l xs) (hx:xs[i]? = some x) (hne:e≠it) (hle:l≠e) (hli:l≠it)
  (hQ:∀h' tk,aa0 h' e it ((i+1:Nat):Int)->SIt t h' it l (i+1)->h'.get? s.heap.objs.size=some { cls:=.type "tuple", data:=.seq #[.int i tk,x] }->h'.objs.size=s.heap.objs.size+1 ->
   (∀b o,b≠e->b≠it->s.heap.get? b=some o->h'.get? b=some o)->Q (some (.ref s.heap.objs.size)) { s with heap:=h',toks:=tk+1 }) :
  wpAny (model prog w) A (pyNext (.ref e)) Q E s:=by
 have ei:(((i+1:Nat)):Int)=(i:Int)+1:=by grind
 rcases he with⟨old,he⟩|he
 ·have hlt:i < xs.size:=by
   rcases Nat.lt_or_ge i xs.size with h|h
   ·exact h
   ·rw[Array.getElem?_eq_none h]at hx;cases hx
  have el:=Heap.lt_size he
  have il:=hit.lt
  refine wpAny_pyNext_enum_itemD (al9 (A:=A.in1) hh t it l hli xs) he ⟨hit,hl⟩ hlt hne (by simp only[List.mem_cons,List.not_mem_nil,or_false,not_or];exact⟨hne,hle.symm⟩) fun y h' tk hy ho hst hT hsz hk=>?_
  rw[hx]at hy
  cases hy
  exact hQ h' tk (.inr ⟨_,false,x,_,by rw[ei];exact ho,Nat.ne_of_gt el,Nat.ne_of_gt il,hT⟩) hst.1 hT hsz hk
 ·exact aT1 he hit hl hx hne fun h' tk a b c d k=>hQ h' tk (.inr (by rw[ei];exact a)) b c d k
theorem aD9(hh:A.handled=none) (he:aa0 s.heap e it i) (hit:SIt t s.heap it l k) (hl:SSq t s.heap l xs) (hx:xs[k]? = none)
  (hQ:∀h',Heap.ExtBut it s.heap h'->Q none { s with heap:=h' }):wpAny (model prog w) A (pyNext (.ref e)) Q E s:=by
 rcases he with⟨old,he⟩|he
 ·exact al7 hh he hit hl hx hQ
 ·exact aD8 hh he hit hl hx hQ
theorem ax9:typeLookup (.type "enumerate") "__len__" = pure none:=by rw[typeLookup_type,builtinLookup_eq_fast];kernel_rfl
theorem ar4:typeLookup (.type "enumerate") "__length_hint__" = pure none:=by rw[typeLookup_type,builtinLookup_eq_fast];kernel_rfl
end
noncomputable def bX0(Hf:Hp) (ws:List V) (Ts:List Addr) (i:Nat):Prop:=Ts.length=i/\∀(j:Nat) (T:Addr),Ts[j]? = some T->∃x,ws[j]? = some x/\Hf T=some (.tup [.int j,x])
noncomputable abbrev ax0(Ts:List Addr) (c:Nat):Obj:={ cls:=.type "list", dict:=none,data:=.seq (Ts.map Value.ref).toArray c,slots:=#[] }
section
variable {X:Cx}{pins:List (Addr×Obj)}{σ:L2.St}{A:Around}{t:Bool}{S e it a:Addr}{ws:List V}
theorem ae6{K:PySem.W.Frag}{t:Bool}{a:Addr}{xs:List V}{H H':Hp}(e:B6 H H') (h:Sq K t H a xs):Sq K t H' a xs:=by
 cases t with
 | true=>exact B7 e h
 | false=>exact D0 e h
theorem bi9(h:W5 X pins H b) (n:b≠T):W5 X pins (upd H T o) b:=⟨by rw[A6 n];exact h.1,h.2⟩
theorem aR4{R:Result->Shared->Prop}{res:Value}(hc:A.handled=none) (h1:e≠it) (h2:a≠e) (h3:a≠it) (h4:S≠e) (h5:S≠it) (hz:ws.length<=1000) {H0 Hf0:Hp} :
    ∀(k i:Nat) (s:Shared) (H Hf:Hp) (Ts:List Addr) (c:Nat),ws.length - i=k->i<=ws.length->Inv X pins σ H s->(∀b∈[e,it,S],W5 X pins H b)->aa0 s.heap e it i->SIt t s.heap it a i->Sq X.K t Hf a ws->Grow H0 Hf0 H Hf->s.heap.get? S=some (ax0 Ts c)->bX0 Hf ws Ts i ->
    (∀s' H' Hf' Ts' c',Inv X pins σ H' s'->(∀b∈[e,it,S],W5 X pins H' b)->Grow H0 Hf0 H' Hf'->s'.heap.get? S=some (ax0 Ts' c')->bX0 Hf' ws Ts' ws.length->R (.ok (.ret res)) s') ->
    codeAny (model X.prog X.w) A (.builtin "list.extend.loop" ⟨[.ref S,.ref e,res],[]⟩) R s:=by
  intro k
  induction k with
  | zero =>
    intro i s H Hf Ts c hk hi I hf he hit sq g hS ht hR
    have hin:i=ws.length:=by grind
    obtain⟨us,r1,p1,lt1⟩:=Q0 I (ae6 g.sub sq)
    have l1:=r1.length
    refine codeAny_builtin F.entry_extend_loop ?_
    rw[Around.under_plainId F.plain_extend_loop _]
    show wpAny _ A.in1 (pyNext (.ref e) >>= _) _ _ s
    refine wpAny_bind (aD9 hc he hit p1 (by simp;grind) fun h' hk'=>?_)
    have I':Inv X pins σ H { s with heap:=h',toks:=s.toks }:=N9 (ch:=[e,it]) I (fun b hb=>hf b (by simp at hb;rcases hb with rfl|rfl<;>simp)) fun b u hb q=>hk' b u (fun z=>hb (by simp[z])) q
    exact wpAny_pure (hR _ H Hf Ts c I' hf g (hk' S _ h5 hS) (by rw[← hin];exact ht))
  | succ k ih =>
    intro i s H Hf Ts c hk hi I hf he hit sq g hS ht hR
    have hlt:i < ws.length:=by grind
    obtain⟨us,r1,p1,lt1⟩:=Q0 I (ae6 g.sub sq)
    obtain⟨ux,eux,rx⟩:=r1.get (List.getElem?_eq_getElem hlt)
    refine codeAny_builtin F.entry_extend_loop ?_
    rw[Around.under_plainId F.plain_extend_loop _]
    show wpAny _ A.in1 (pyNext (.ref e) >>= _) _ _ s
    refine wpAny_bind (aT2 hc he hit p1 (by simpa using eux) h1 h2 h3 fun h' tk he' hit' hT hsz hkp=>?_)
    have hn:H s.heap.objs.size=none:=I.hok.fresh (Nat.le_refl _)
    have neT:∀c o,s.heap.get? c=some o->c≠s.heap.objs.size:=fun c o q=>Nat.ne_of_lt (Heap.lt_size q)
    obtain⟨fs,eo⟩:=he.obj
    have I1:Inv X pins σ (upd H s.heap.objs.size (.tup [.int i,ws[i]])) { s with heap:=h',toks:=tk+1 }:=T7 (s:=s) (h':=h') (t':=tk+1) (ch:=[e,it]) I (fun b hb=>hf b (by simp at hb;rcases hb with rfl|rfl<;>simp)) (Nat.le_refl _) (fun b u hb q=>hkp b u (fun z=>hb (by simp[z])) (fun z=>hb (by simp[z])) q)
      ⟨by show 2<=sizeLine;decide,[.int i tk,ux],.cons ⟨tk,rfl⟩ (.cons rx .nil),_,hT,rfl,⟨_,rfl⟩,rfl⟩
    have hS':=hkp S _ h4 h5 hS
    show wpAny _ A.in1 (updateSeq S (·.push (.ref s.heap.objs.size)) >>= _) _ _ _
    refine wpAny_bind (wpAny_updateSeq hS' rfl ?_ (by
                                                      simp[ht.1];have:(1000:Nat) < sizeLine:=by decide
                                                      grind) (by
                                                                 simp[ht.1];have:(1000:Nat) < sizeLine:=by decide
                                                                 grind))
    have hf1:∀b∈[e,it,S],W5 X pins (upd H s.heap.objs.size (.tup [.int i,ws[i]])) b:=fun b hb=>bi9 (hf b hb) (by
      simp at hb
      rcases hb with rfl|rfl|rfl
      · exact neT _ _ eo
      · exact Nat.ne_of_lt hit.lt
      · exact neT _ _ hS)
    have oth:∀b o,b≠S->h'.get? b=some o->(h'.update S (Obj.mapSeq (·.push (.ref s.heap.objs.size)))).get? b=some o:=fun b o hb q=>(Heap.get?_update_other _ _ (Ne.symm hb)).trans q
    have hSn:=Heap.get?_update_self (Obj.mapSeq (·.push (Value.ref s.heap.objs.size))) hS' rfl
    have I2:=N9 (t':=tk+1) (h':=h'.update S (Obj.mapSeq (·.push (.ref s.heap.objs.size)))) (ch:=[S]) I1 (fun b hb=>hf1 b (by simp at hb;simp[hb])) fun b u hb q=>oth b u (fun z=>hb (by simp[z])) q
    have hnf:Hf s.heap.objs.size=none:=g.sub.free hn
    refine wpAny_pure ⟨plainId_quiet F.plain_extend_loop _,ih (i+1) _ _ (upd Hf s.heap.objs.size (.tup [.int i,ws[i]])) (Ts++[s.heap.objs.size]) (c+1) (by grind) (by grind) I2 hf1 (he'.ext hS' ⟨_,hSn⟩ h4 oth) (hit'.ext fun o q=>oth it o h5.symm q) (ae6 (C3 hnf) sq) (g.trans (Grow.laid g.sub hn)) ?_ ?_ hR⟩
    · simpa [ax0,Obj.mapSeq] using hSn
    · refine⟨by rw[List.length_append,ht.1];rfl,fun j T hj=>?_⟩
      rcases Nat.lt_or_ge j Ts.length with q|q
      · rw[List.getElem?_append_left q]at hj
        obtain⟨x,ex,hx⟩:=ht.2 j T hj
        exact⟨x,ex,by rw[A6 (A8 hx hnf)];exact hx⟩
      · rw[List.getElem?_append_right q]at hj
        have hj0:j - Ts.length=0:=by
          rcases Nat.eq_zero_or_pos (j - Ts.length) with z|z
          · exact z
          · rw[List.getElem?_eq_none (by simp;grind)]at hj;cases hj
        rw[hj0]at hj
        cases hj
        have:j=i:=by have:=ht.1;grind
        subst this
        exact⟨_,List.getElem?_eq_getElem hlt,A5⟩
theorem ai7(hc:A.handled=none) (h1:e≠it) (h2:a≠e) (h3:a≠it) (hz:ws.length<=1000) (I:Inv X pins σ H s) (hf:∀b∈[e,it],W5 X pins H b) (he:IsEnum s.heap e it 0 .none) (hit:SIt t s.heap it a 0) (sq:Sq X.K t Hf a ws) (g:B6 Hf H)
  (hQ:∀s' H' Hf' Ts c,Inv X pins σ H' s'->(∀b∈[e,it,s.heap.objs.size],W5 X pins H' b)->Grow H Hf H' Hf'->s'.heap.get? s.heap.objs.size=some (ax0 Ts c)->bX0 Hf' ws Ts ws.length->Q (.ref s.heap.objs.size) s') :
  wpAny (model X.prog X.w) A (call (.type "list") [.ref e]) Q E s:=by
 have el:=Heap.lt_size he
 have il:=hit.lt
 obtain⟨S,eS⟩:∃S,S=s.heap.objs.size:=⟨_,rfl⟩
 have fS:W5 X pins H S:=I.fpOk (by grind) (I.hok.fresh (by grind))
 have h4:S≠e:=by rw[eS];exact Nat.ne_of_gt el
 have h5:S≠it:=by rw[eS];exact Nat.ne_of_gt il
 rw[← eS]at hQ
 refine callType_codes (Q₁:=fun obj s₁=>obj=.ref S/\s₁={ s with heap:=s.heap.push { cls:=.type "list", data:=.seq #[] } }) F.called_list (F.typeCall_list_1 _) F.entry_list_init (code_list_new _ ⟨by rw[eS],rfl⟩) fun obj s₁ hh=>?_
 obtain⟨rfl,rfl⟩:=hh
 have hS:(s.heap.push { cls:=.type "list", data:=.seq #[] }).get? S=some { cls:=.type "list", data:=.seq #[] }:=by rw[eS];exact Heap.get?_push_size _ rfl
 refine⟨⟨_,hS,rfl⟩,F.args_list_init_2 _ _,?_⟩
 show wpAny _ _ (do let old ← Builtin.List.listItems (.ref S);Builtin.List.listUpdate (.ref S) (fun _=>#[]);letGo old.toList.reverse;Builtin.List.listExtendWith (.ref S) (.ref e) .none) _ _ _
 refine wpAny_bind ?_
 unfold Builtin.List.listItems
 refine wpAny_bind (wpAny_seqItems hS rfl (wpAny_pure ?_))
 show wpAny _ _ (updateSeq S (fun _=>#[]) >>= fun _=>letGo (#[]:Array Value).toList.reverse >>= fun _=>Builtin.List.listExtendWith (.ref S) (.ref e) .none) _ _ _
 refine wpAny_bind (wpAny_updateSeq hS rfl ?_)
 have hS₂:=Heap.get?_update_self (Obj.mapSeq (fun _=>(#[]:Array Value))) hS rfl
 refine wpAny_bind (wpAny_letGo ?_)
 have k2:∀b o,b≠S->s.heap.get? b=some o->((s.heap.push { cls:=.type "list", data:=.seq #[] }).update S (Obj.mapSeq (fun _=>(#[]:Array Value)))).get? b=some o:=fun b o hb q=>(Heap.get?_update_other _ _ (Ne.symm hb)).trans (Heap.get?_push_of_some _ q)
 generalize (s.heap.push { cls:=.type "list", data:=.seq #[] }).update S (Obj.mapSeq (fun _=>(#[]:Array Value)))=h₂ at hS₂ k2
 have he₂:IsEnum h₂ e it 0 .none:=k2 e _ h4.symm he
 unfold Builtin.List.listExtendWith
 refine wpAny_bind (wpAny_typeOf ⟨_,he₂,rfl⟩ ?_)
 have q1:Builtin.List.listSameRef (.ref S) (.ref e)=false:=by simp[Builtin.List.listSameRef,h4]
 have q2:(Value.type "enumerate" == Value.type "list")=false:=by decide
 have q3:(Value.type "enumerate" == Value.type "tuple")=false:=by decide
 simp only[q1,q2,q3,Bool.or_false,Bool.false_eq_true,if_false]
 refine wpAny_bind (wpAny_pyIter_enum he₂ ?_)
 refine wpAny_bind (wpAny_holding ?_)
 unfold Builtin.List.listLengthHint
 refine wpAny_bind (wpAny_specialOf ⟨_,he₂,rfl⟩ ax9 ?_)
 show wpAny _ _ (specialOf (Value.ref e) (Str.ofString "__length_hint__") >>= _) _ _ _
 refine wpAny_bind (wpAny_specialOf ⟨_,he₂,rfl⟩ ar4 ?_)
 refine wpAny_pure ?_
 show wpAny _ _ (rule "list.extend.makes-room" >>= fun _=>Builtin.List.listTouch (.ref S) >>= fun _=>again (.builtin "list.extend.loop" ⟨[.ref S,.ref e,.none],[]⟩)) _ _ _
 refine wpAny_bind (wpAny_rule ?_)
 refine wpAny_bind ?_
 show wpAny _ _ (updateSeq S (·.push .none) >>= fun _=>updateSeq S (·.pop)) _ _ _
 refine wpAny_bind (wpAny_updateSeq hS₂ rfl ?_)
 have hS₃:=Heap.get?_update_self (Obj.mapSeq (·.push Value.none)) hS₂ rfl
 refine wpAny_updateSeq (hz:=by seq_fits) hS₃ rfl ?_
 have hS₄:=Heap.get?_update_self (Obj.mapSeq (·.pop)) hS₃ rfl
 have k4:∀b o,b≠S->s.heap.get? b=some o->((h₂.update S (Obj.mapSeq (·.push Value.none))).update S (Obj.mapSeq (·.pop))).get? b=some o :=
  fun b o hb q=>(Heap.get?_update_other _ _ (Ne.symm hb)).trans ((Heap.get?_update_other _ _ (Ne.symm hb)).trans (k2 b o hb q))
 generalize (h₂.update S (Obj.mapSeq (·.push Value.none))).update S (Obj.mapSeq (·.pop))=h₄ at hS₄ k4
 have I4:Inv X pins σ H { s with heap:=h₄,toks:=s.toks }:=N9 (ch:=[S]) I (fun b hb=>by simp at hb;rw[hb];exact fS) fun b u hb q=>k4 b u (fun z=>hb (by simp[z])) q
 refine wpAny_pure ⟨plainId_quiet F.plain_extend_loop _,aR4 (S:=S) (A:=A.in1) hc h1 h2 h3 h4 h5 hz ws.length 0 _ H Hf [] _ (by grind) (by grind) I4 (fun b hb=>by
  simp at hb
  rcases hb with rfl|rfl|rfl
  ·exact hf _ (by simp)
  ·exact hf _ (by simp)
  ·exact fS) (.inl ⟨_,k4 e _ h4.symm he⟩) (hit.ext fun o q=>k4 it o h5.symm q) sq (Grow.refl g) hS₄ ⟨rfl,fun j T hj=>by simp at hj⟩ fun s' H' Hf' Ts c I' f' g' hS' t'=>?_⟩
 exact⟨rfl,hQ s' H' Hf' Ts c I' f' g' hS' t'⟩
noncomputable def cn5(vs:List V):It:=⟨fun i _=>i < vs.length,fun i H x H'=>H'=H/\vs[vs.length - 1 - i]? = some x,fun i _=>vs.length<=i⟩
theorem aW8{P:Program}{w:World}{K:PySem.W.Frag}{tg:Expr}(R S:Addr) (hne:S≠R) (Ts:List Addr) (c:Nat) :
  Turn P w K tg (cn5 (Ts.map V.ref)) [R,S] R (fun i h=>i<=Ts.length/\h.IsRevIter R S ((Ts.length:Int) - 1 - (i:Int))/\h.get? S=some (ax0 Ts c)) where
 mem:=by simp
 obj:=fun i h ⟨_,hr,hl⟩ b hb=>by
  simp only[List.mem_cons,List.not_mem_nil,or_false]at hb
  rcases hb with rfl|rfl
  ·obtain⟨o,ho,_,hd⟩:=hr;exact⟨o,ho,fun v q=>by rw[hd]at q;cases q⟩
  ·exact⟨_,hl,fun v q=>by cases q⟩
 keep:=fun i h h' ⟨hi,hr,hl⟩ k=>⟨hi,hr.at fun o q=>k R (by simp) o q,k S (by simp) _ hl⟩
 item:=by
  intro X hP hw hK hc i pins s σ H E I hf ⟨hi,hr,hl⟩ hg
  subst hP hw hK
  have hg:i < Ts.length:=by
   have:i < (Ts.map V.ref).length:=hg
   rwa [List.length_map]at this
  have e:(Ts.length:Int) - 1 - (i:Int)=((Ts.length - 1 - i:Nat):Int):=by omega
  rw[e]at hr
  have hx:(Ts.map Value.ref).toArray[Ts.length - 1 - i]? = some (.ref (Ts[Ts.length - 1 - i]'(by omega))):=by
   simp
  refine wpAny_pyNext_rev_item hr (items:=(Ts.map Value.ref).toArray) ⟨_,hl,rfl,_,rfl⟩ hx fun h' hr' sb=>?_
  have I1:Inv X pins σ H { s with heap:=h',toks:=s.toks }:=N9 (ch:=[R,S]) I hf fun b u hb q=>sb.extBut b u (fun z=>hb (by simp[z])) q
  obtain⟨o,ho,hc',hd⟩:=id hr'
  refine⟨_,rfl,ax5 (s:={ s with heap:=h' }) ho hc' hd (by decide) ⟨.ref (Ts[Ts.length - 1 - i]'(by omega)),H,I1,rfl,⟨rfl,?_⟩,⟨by omega,?_,sb.extBut S _ hne hl⟩,fun b hb=>(hf b hb).1⟩⟩
  ·rw[List.length_map,List.getElem?_map,List.getElem?_eq_getElem (by omega)];rfl
  ·have e2:((Ts.length - 1 - i:Nat):Int) - 1=(Ts.length:Int) - 1 - ((i+1:Nat):Int):=by omega
   rw[← e2];exact hr'
 done:=by
  intro X hP hw hK hc i pins s σ H E I hf ⟨hi,hr,hl⟩ hg
  subst hP hw hK
  have hg:Ts.length<=i:=by
   have:(Ts.map V.ref).length<=i:=hg
   rwa [List.length_map]at this
  have e:(Ts.length:Int) - 1 - (i:Int) = -1:=by omega
  rw[e]at hr
  exact wpAny_pyNext_rev_end (I.ok.hd hc) hr fun h' eb=>⟨rfl,N9 (t':=s.toks) (ch:=[R,S]) I hf fun b u hb q=>eb b u (fun z=>hb (by simp[z])) q⟩
 self:=fun _ _ _ _ _ ⟨_,hr,_⟩ h=>wpAny_pyIter_revIter hr h
end
section
variable {X:Cx}
theorem ty1(I:Inv X pins σ H s) (hg:Gl X x) (hm:X.mg x=none) (hv:bootBuiltins x=some (.type T)) (hn:x ≠ "__name__") (hd:(x==("__debug__" : Str))=false)
  (hs:starEach [a] X.env=[(false,eval a X.env)]) (h:wpAny (model X.prog X.w) X.A (eval a X.env) (fun v s1=>wpAny (model X.prog X.w) X.A (call (.type T) [v]) Q E s1) E s):wpAny (model X.prog X.w) X.A (eval (.Call (.Name x p) [a] [] pos) X.env) Q E s:=by
 refine Call_ (d5 I hg hm hv (PyProof.Rows.callWith_type1 ?_ (by rw[hs];rfl) (by rfl)) hn hd)
 rw[hs]
 exact Calls.spliced_cons (thn h fun v s1 q=>Calls.spliced_nil q)
noncomputable def cf4(f:Rho->Option (Bool×List D)):Rho->Option (List D):=fun ρ=>(f ρ).bind fun q=>if q.2.length<=1000 then some (ai0 q.2).reverse else none
theorem bw3{elts:List Expr}{k0:Nat}{tpos:Pos}{a:Expr}{f:DE}{p1 p2 p3 q1 q2 q3:Pos}(ge:Gl X "enumerate") (me:X.mg "enumerate" = none) (gl:Gl X "list") (ml:X.mg "list" = none) (gr:Gl X "reversed") (mr:X.mg "reversed" = none) (hc:X.calm=true) (ha:JE X a f) (hs:starEach [a] X.env=[(false,eval a X.env)]:=by rfl) :
  JI X (.Tuple elts k0 tpos) (.Call (.Name "reversed" p1) [.Call (.Name "list" p2) [.Call (.Name "enumerate" p3) [a] [] q3] [] q2] [] q1) (cf4 (qE f)):=fun ρ out q=>by
 obtain⟨⟨t1,ds⟩,e1,q⟩:=xbm q
 simp only at q
 split at q
 ·rename_i hz
  cases q
  obtain⟨d1,e1,e1'⟩:=xbm e1
  intro pins s σ H R I ⟨H0,Hf,ss,sl,k⟩
  refine ty1 I gr mr rfl (by decide) (by decide) rfl (ty1 I gl ml rfl (by decide) (by decide) rfl (ty1 I ge me rfl (by decide) (by decide) hs ?_))
  refine thn (ha ρ d1 e1 pins s σ H (fun v H'=>∃Hf',Grow H Hf H' Hf'/\Rep X.K Hf' d1 v) I ⟨H0,Hf,ss,sl,fun v H1 Hf1 g1 r1=>⟨Hf1,g1,r1⟩⟩) fun u s1 ⟨v,H1,I1,rv,Hf1,gr1,p1⟩=>?_
  obtain⟨a1,vs1,rfl,w1,w2⟩:=p1.seq (B6.refl Hf1) e1'
  cases rv
  obtain⟨us1,rr1,hp1,lt1⟩:=Q0 I1 (ae6 gr1.sub w1)
  have hz':vs1.length<=1000:=by have:=w2.length;grind
  refine ag3 hp1 fun h' b1 b2 b3=>?_
  have I2:Inv X pins σ H1 { s1 with heap:=h' }:=I1.kept (t':=s1.toks) b3
  refine ai7 (e:=s1.heap.objs.size+1) (it:=s1.heap.objs.size) (a:=a1) (I.ok.hd hc) (Nat.succ_ne_self _) (Nat.ne_of_lt (Nat.lt_succ_of_lt lt1)) (Nat.ne_of_lt lt1) hz' I2 (fun b hb=>?_) b1 b2 w1 gr1.sub fun s3 H3 Hf3 Ts c I3 f3 g3 hS3 t3=>?_
  ·have hb':s1.heap.objs.size<=b:=by
    simp only[List.mem_cons,List.not_mem_nil,or_false]at hb
    rcases hb with rfl|rfl
    ·exact Nat.le_add_right _ _
    ·exact Nat.le_refl _
   exact I1.fpOk hb' (I1.hok.fresh hb')
  obtain⟨S,eS⟩:∃S,S=h'.objs.size:=⟨_,rfl⟩
  rw[show(Shared.heap { s1 with heap:=h' }).objs.size=S from eS.symm]at hS3 f3 ⊢
  refine call_reversed_list (items:=(Ts.map Value.ref).toArray) ⟨_,hS3,rfl,_,rfl⟩ ?_
  have kp:∀b o,s3.heap.get? b=some o->(s3.heap.push (revObj S (((Ts.map Value.ref).toArray.size:Int) - 1))).get? b=some o:=fun b o q=>Heap.get?_push_of_some _ q
  have I4:Inv X pins σ H3 { s3 with heap:=s3.heap.push (revObj S (((Ts.map Value.ref).toArray.size:Int) - 1)),toks:=s3.toks }:=I3.kept kp
  have lS:=Heap.lt_size hS3
  have rv:(s3.heap.push (revObj S (((Ts.map Value.ref).toArray.size:Int) - 1))).IsRevIter s3.heap.objs.size S ((Ts.length:Int) - 1 - ((0:Nat):Int)):=⟨_,Heap.get?_push_size _ rfl,rfl,by simp[revObj]⟩
  refine wpAny_pyIter_revIter rv ⟨_,_,_,_,H3,rfl,I4,aW8 s3.heap.objs.size S (Nat.ne_of_lt lS) Ts c,⟨Nat.zero_le _,rv,kp _ _ hS3⟩,fun b hb=>?_,k _ H3 Hf3 (gr1.trans g3) ?_⟩
  ·simp only[List.mem_cons,List.not_mem_nil,or_false]at hb
   rcases hb with rfl|rfl
   ·exact I3.fpOk (Nat.le_refl _) (I3.hok.fresh (Nat.le_refl _))
   ·exact f3 _ (by simp)
  ·intro i H4 Hf4 sa sb
   have l1:=w2.length
   have tl:=t3.1
   have el:(Ts.map V.ref).length=ds.length:=by rw[List.length_map,tl,l1]
   refine⟨fun hi=>?_,fun d hd=>?_⟩
   ·rw[List.length_reverse,d7]at hi
    show(Ts.map V.ref).length<=i
    grind
   ·have hlt:i < ds.length:=by
     have:=(List.getElem?_eq_some_iff.mp hd).1
     rwa [List.length_reverse,d7]at this
    refine⟨show i < (Ts.map V.ref).length by grind,fun x H' ⟨z1,z2⟩=>?_⟩
    subst z1
    rw[List.getElem?_reverse (by rw[d7];exact hlt),d7,ay0]at hd
    obtain⟨d0,ed,rfl⟩:=Option.map_eq_some_iff.mp hd
    rw[el,List.getElem?_map]at z2
    obtain⟨T,eT,rfl⟩:=Option.map_eq_some_iff.mp z2
    obtain⟨x0,ex0,hT⟩:=t3.2 _ T eT
    obtain⟨v0,ev0,rv0⟩:=w2.get ed
    rw[ev0]at ex0
    obtain rfl:=Option.some.inj ex0
    exact⟨Hf4,Grow.refl sb,T,_,rfl,SqT.of (sa _ _ hT),.int _,[v0],rfl,rfl,v0,[],rfl,(rv0.mono g3.ext).mono sa,rfl⟩
 ·cases q
end
end G
namespace G
open PySem PySem.Spec PyProof.Rows L2
section
open PySem.SeqAt PySem.MeetsSeq PySem.MeetsSeq2 PySem.MeetsSeq3 PySem.SeqRoads2
open PySem.AutoSeq1 (wpAny_loadPart')
theorem aA9(l:Addr) (items:Array Value) (n:Nat) (dd:Option Addr) (sl:Array (Option Value)) (x:Value) (e:Nat->Bool) (j:Nat) (hj:j < items.size) (hit:e j=true) (hno:∀m,m < j->e m=false) :
  Meets (Builtin.«tuple.index» ⟨[.ref l,x],[]⟩)
   (fun A R s=>s.heap.get? l=some { cls:=.type "tuple", dict:=dd,data:=.seq items n,slots:=sl }/\(∀j (h:j < items.size),EqAt A.in1 s items[j] x (e j))/\R (.ok (.ret (.int j s.toks))) { s with toks:=s.toks+1 }) :=
 .of_wp fun prog w A R s h=>by
  obtain⟨hp,g,d,tk,os⟩:=s;obtain⟨hl,he,h⟩:=h
  unfold Builtin.«tuple.index»
  simp only[Std.Legacy.Range.forIn_eq_forIn_range']
  wp_walk using wpAny_loadPart' hl,wpAny_forIn_list _ (fun M6 b s'=>b.1=none/\s'=⟨hp,g,d,tk,os⟩/\∃i,i<=j/\M6=List.range' i (items.size - i)) _
  case turn =>
   rintro y M6 b s' ⟨hb,rfl,i,hij,hz⟩
   obtain⟨m,hm⟩:∃m,items.size - i=m+1:=⟨items.size - i - 1,by grind⟩
   rw[hm,List.range'_succ]at hz
   injection hz with hy hrest
   subst hy
   have hi:y < items.size:=by grind
   have e1:items[y]? = some items[y]:=by simp[hi]
   rw[e1]
   refine wpAny_bind (he y hi prog w _ _ ?_)
   rcases Nat.lt_or_ge y j with q|q
   ·rw[hno y q]
    wp_walk
    exact⟨rfl,rfl,y+1,q,by rw[hrest];congr 1;grind⟩
   ·have:y=j:=by grind
    subst this
    rw[hit]
    wp_walk
    exact⟨_,rfl,h⟩
  case fin =>
   rintro⟨b1,b2⟩ s' ⟨hb,rfl,i,hij,hz⟩
   exfalso
   have:items.size - i=0:=by
    cases q:items.size - i with
    | zero=>rfl
    | succ m=>rw[q,List.range'_succ]at hz;cases hz
   grind
  case h =>
   refine⟨rfl,rfl,0,Nat.zero_le _,?_⟩
   simp[Std.Legacy.Range.size]
end
section
variable {X:Cx}
noncomputable def ck5(X:Cx) (ds:List D) (x:D) (j:Nat):V->List V->Hp->VK->Prop:=fun vt vs H Q=>∃Hf vx,vs=[vx]/\B6 Hf H/\Rep X.K Hf (.tuple ds) vt/\Rep X.K Hf x vx/\Q (.int j) H
theorem be3(hu:X.A.units+64 < cLine) (sx:SeqAt.shaped x=true) (dx:x.depth<=60) (sd:ds.all SeqAt.shaped=true) (hj:ds.findIdx? (fun y=>PyData.eqv y x)=some j):MtR X "tuple.index" (ck5 X ds x j):=by
 intro pins s σ H vt vs v us Q I rt rv ⟨Hf,vx,e,ss,r1,r2,q⟩
 subst e
 obtain⟨u,rfl,rx⟩:=Q5 rv
 obtain⟨p,ws,rfl,h2,h3⟩:=r1
 obtain rfl:v=Value.ref p:=rt
 obtain⟨its,pl,ln,he⟩:=aG3 hu sx dx sd I rx ss r2 h2 h3
 obtain⟨⟨cls,dd,data,sl⟩,ho,hc,n,hd⟩:=id pl
 simp only at hc hd
 subst hc hd
 obtain⟨h1,h4,h5⟩:=List.findIdx?_eq_some_iff_getElem.mp hj
 refine call_meets F.slot_tuple_index ⟨_,ho,rfl⟩ F.entry_tuple_index (F.args_tuple_index_2 _ _) (aA9 p its.toArray n dd sl u (fun m=>PyData.eqv (ds.getD m .none) x) j (by rw[List.size_toArray,ln];exact h1) (by simpa [h1] using h4) (fun m hm=>?_)) ⟨ho,he,.int j,H,I.tok _,⟨_,rfl⟩,q⟩
 have hm':m < ds.length:=by omega
 have:=h5 m hm
 simpa [hm'] using this
theorem bL3{o e:Expr}{to:TE}{t:TA}{name:Str}{apos cpos:Pos}{id:String}{r:V->List V->Hp->VK->Prop}(slot:Slot "tuple" name id) (hty:typeOf (.builtin id)=pure (.type "method_descriptor")) (hm:MtR X id r) (ho:PE X o to) (ha:PA X [e] t)
  (hbase:attributeBase o name X.env (eval o X.env)=eval o X.env)
  (hfew:((backTo cpos (starEach [e] X.env)).all (fun x=>!x.1)&&(backToKw cpos (keywordEach [] X.env)).all (fun x=>x.1.isSome)&&decide (([e]:List Expr).length+([]:List Keyword).length+(if([]:List Keyword).isEmpty then 0 else 1) < 30))=true)
  (hline:(apos.endLine==cpos.line)=true) (hs:starEach [e] X.env=[(false,eval e X.env)]) :
  PE X (.Call (.Attribute o name apos) [e] [] cpos) (fun σ H Q=>to σ H fun x H1=>(∃p xs,x=.ref p/\SqT X.K H1 p xs)/\t σ H1 fun xs H2=>r x xs H2 Q):=by
 intro pins s σ H Q I h
 refine wpAny_Call_method_late hbase hfew hline rfl (thn (ho pins s σ H _ I h) fun v s1 ⟨x,H1,I1,r1,⟨p,xs,e1,e2⟩,q1⟩=>?_)
 subst e1
 obtain rfl:v=Value.ref p:=r1
 obtain⟨its,_,⟨ob,g1,g2,_,g4⟩,_⟩:=I1.tupN e2
 refine⟨"tuple", id,F.plainAttrs_tuple,slot,hty,⟨ob,g1,g2⟩,fun a ea=>?_,?_⟩
 ·cases ea;exact⟨ob,g1,g4⟩
 have hA:=ha cpos pins s1 σ H1 _ I1 q1
 rw[hs]at hA ⊢
 refine Calls.callWith_builtin (by rfl) (Calls.evalArgs_plain ?_)
 exact thn hA fun us s2 ⟨vs,H2,I2,r2,q2⟩=>hm pins s2 σ H2 (.ref p) vs (.ref p) us Q I2 rfl r2 q2
noncomputable def bk8(f g:DE):DE:=fun ρ=>(f ρ).bind fun t=>(g ρ).bind fun x=>match t with
 | .tuple ds=>if SeqAt.shaped x=true/\x.depth<=60/\ds.all SeqAt.shaped=true then(ds.findIdx? fun y=>PyData.eqv y x).map (fun(j:Nat)=>PyData.int (j:Int)) else none
 | _=>none
theorem bh5(hu:X.A.units+64 < cLine) (ho:JE X o f) (h:JE X e g) (hbase:attributeBase o "index" X.env (eval o X.env)=eval o X.env)
  (hfew:((backTo cpos (starEach [e] X.env)).all (fun x=>!x.1)&&(backToKw cpos (keywordEach [] X.env)).all (fun x=>x.1.isSome)&&decide (([e]:List Expr).length+([]:List Keyword).length+(if([]:List Keyword).isEmpty then 0 else 1) < 30))=true)
  (hline:(apos.endLine==cpos.line)=true) (hs:starEach [e] X.env=[(false,eval e X.env)]):JE X (.Call (.Attribute o "index" apos) [e] [] cpos) (bk8 f g):=fun ρ d q=>by
 obtain⟨t,e1,q⟩:=xbm q
 obtain⟨x,e2,q⟩:=xbm q
 cases t with
 | tuple ds =>
  simp only at q
  split at q
  ·rename_i c
   obtain⟨j,hj,rfl⟩:=Option.map_eq_some_iff.mp q
   refine A7 (bL3 F.slot_tuple_index F.type_tuple_index (be3 hu c.1 c.2.1 c.2.2 hj) (ho ρ _ e1) (B2 (h ρ _ e2) C6 hs) hbase hfew hline hs) fun σ H Q ⟨H0,Hf,s,sl,k⟩=>?_
   refine⟨H0,Hf,s,sl,fun v H1 Hf1 g1 r1=>?_⟩
   have r1':=r1
   obtain⟨p,vs,rfl,h2,h3⟩:=r1
   refine⟨⟨p,vs,rfl,B7 g1.sub h2⟩,H0,Hf1,g1.sub,sl.grow g1,fun w H2 Hf2 g2 r2=>?_⟩
   exact⟨Hf2,w,rfl,g2.sub,r1'.mono g2.ext,r2,k _ H2 Hf2 (g1.trans g2) rfl⟩
  ·cases q
 | _=>cases q
end
end G
namespace G
open PySem PySem.Spec PyProof.Rows L2
section
variable {X:Cx}
noncomputable def flV:Value->D
 | .bool b=>.bool b
 | .int i _=>.int i
 | .str x _=>.str x
 | _=>.none
theorem bT8(f:U7 d=true) (r:C1 (toV d) y):flV y=d:=by
 cases d with
 | none=>cases r;rfl
 | bool b=>cases r;rfl
 | int i=>obtain⟨t,rfl⟩:=r;rfl
 | str x=>obtain⟨t,rfl⟩:=r;rfl
 | tuple _=>cases f
 | list _=>cases f
 | dict _=>cases f
theorem aL5:∀{ds:List D}{its:List Value},ds.all U7=true->C5 (ds.map toV) its->its.map flV=ds
 | [],its,_,r=>by cases r;rfl
 | d::ds,its,f,r=>by
  rw[List.all_cons,Bool.and_eq_true]at f
  cases r with
  | cons r1 r2=>rw[List.map_cons,bT8 f.1 r1,aL5 f.2 r2]
theorem bu8(hu:X.A.units+64 < cLine) (sx:SeqAt.shaped x=true) (dx:x.depth<=60) (sd:ds.all SeqAt.shaped=true) (fd:ds.all U7=true) (I:L2.Inv X pins σ H s) (rx:C1 vx v) (ss:B6 Hf H) (r1:Rep X.K Hf x vx) (h2:SqL X.K Hf p vs) (h3:Reps X.K Hf ds vs) :
  ∃its:List Value,PlainL s.heap p its.toArray/\its.map flV=ds/\its.length<=sizeLine/\∀y∈its.toArray,SeqAt.EqAt X.A.in1 s y v (PyData.eqv (flV y) x):=by
 obtain⟨its,rv,pl,hz⟩:=I.list (D0 ss h2)
 have hz':its.length<=sizeLine:=by rw[← rv.length];exact hz
 obtain⟨as,rd⟩:=Rep.reads I (r1.mono ss) rx
 obtain⟨bs,ra⟩:=Reps.reads I (h3.mono ss) rv
 obtain⟨e1,e2⟩:=bJ8 ra
 have fm:its.map flV=ds:=by
  obtain⟨e,_⟩:=f7 fd h3
  subst e
  exact aL5 fd rv
 refine⟨its,pl,fm,hz',fun y hy=>?_⟩
 obtain⟨j,hj,rfl⟩:=List.getElem_of_mem (List.mem_toArray.mp hy)
 obtain⟨cs,q⟩:=e2 j hj
 have hd:j < ds.length:=by grind
 have sj:=List.all_eq_true.mp sd _ (List.getElem_mem hd)
 have ej:flV its[j]=ds[j]:=by
  have:(its.map flV)[j]'(by simpa using hj)=ds[j]:=by simp only[fm]
  rwa [List.getElem_map]at this
 have eg:ds.getD j .none=ds[j]:=by simp[hd]
 rw[eg]at q
 rw[ej]
 have:=SeqAt.eqAt_reads ds[j] x X.A.in1 s _ _ _ _ q rd (SeqAt.canLay_of_shaped sj) (SeqAt.canLay_of_shaped sx) (by show X.A.units+1+_ < _;have:=Nat.min_le_right ds[j].depth x.depth;grind)
 simpa using this
noncomputable def cb1(X:Cx) (ds:List D) (x z:D):V->List V->Hp->VK->Prop:=fun vt vs H Q=>∃Hf vx,vs=[vx]/\B6 Hf H/\Rep X.K Hf (.list ds) vt/\Rep X.K Hf x vx/\∀v,Rep X.K Hf z v->Q v H
theorem aR1(hu:X.A.units+64 < cLine) {ds:List D}{x:D}{j:Nat}(sx:SeqAt.shaped x=true) (dx:x.depth<=60) (sd:ds.all SeqAt.shaped=true) (fd:ds.all U7=true) (hj:ds.findIdx? (fun y=>PyData.eqv y x)=some j):MtR X "list.index" (cb1 X ds x (.int j)):=by
 intro pins s σ H vt vs v us Q I rt rv ⟨Hf,vx,e,ss,r1,r2,q⟩
 subst e
 obtain⟨u,rfl,rx⟩:=Q5 rv
 obtain⟨p,ws,rfl,h2,h3⟩:=r1
 obtain rfl:v=Value.ref p:=rt
 obtain⟨its,pl,fm,hz,he⟩:=bu8 hu sx dx sd fd I rx ss r2 h2 h3
 obtain⟨⟨cls,dd,data,sl⟩,n,ho,hc,hd0,hd⟩:=pl
 simp only at hc hd hd0
 subst hc hd hd0
 obtain⟨h1,h4,h5⟩:=List.findIdx?_eq_some_iff_getElem.mp hj
 have ln:its.length=ds.length:=by rw[← fm,List.length_map]
 have ej:∀(m:Nat) (hm:m < its.length),flV its[m]=ds[m]'(by grind):=fun m hm=>by
  have:(its.map flV)[m]'(by simpa using hm)=ds[m]'(by grind):=by simp only[fm]
  rwa [List.getElem_map]at this
 have hn:=k7
 refine call_meets F.slot_list_index ⟨_,ho,rfl⟩ F.entry_list_index (F.args_list_index_2 _ _) (SeqAt.list_indexAt p its.toArray n none sl u (fun y=>PyData.eqv (flV y) x) j (by rw[List.size_toArray];grind) (by grind) (by simpa [ej j (by grind)] using h4) fun m hm hmj=>?_) ⟨ho,he,.int j,H,I.tok _,⟨_,rfl⟩,q _ rfl⟩
 have hm':m < its.length:=by simpa using hm
 have:=h5 m hmj
 simpa [ej m hm'] using this
theorem bL4{o e:Expr}{to:TE}{t:TA}{name:Str}{apos cpos:Pos}{id:String}{r:V->List V->Hp->VK->Prop}(slot:Slot "list" name id) (hty:typeOf (.builtin id)=pure (.type "method_descriptor")) (hm:MtR X id r) (ho:PE X o to) (ha:PA X [e] t)
  (hbase:attributeBase o name X.env (eval o X.env)=eval o X.env)
  (hfew:((backTo cpos (starEach [e] X.env)).all (fun x=>!x.1)&&(backToKw cpos (keywordEach [] X.env)).all (fun x=>x.1.isSome)&&decide (([e]:List Expr).length+([]:List Keyword).length+(if([]:List Keyword).isEmpty then 0 else 1) < 30))=true)
  (hline:(apos.endLine==cpos.line)=true) (hs:starEach [e] X.env=[(false,eval e X.env)]) :
  PE X (.Call (.Attribute o name apos) [e] [] cpos) (fun σ H Q=>to σ H fun x H1=>(∃p xs,x=.ref p/\SqL X.K H1 p xs)/\t σ H1 fun xs H2=>r x xs H2 Q):=by
 intro pins s σ H Q I h
 refine wpAny_Call_method_late hbase hfew hline rfl (thn (ho pins s σ H _ I h) fun v s1 ⟨x,H1,I1,r1,⟨p,xs,e1,e2⟩,q1⟩=>?_)
 subst e1
 obtain rfl:v=Value.ref p:=r1
 obtain⟨its,_,⟨ob,n,g1,g2,g4,_⟩,_⟩:=I1.list e2
 refine⟨"list", id,F.plainAttrs_list,slot,hty,⟨ob,g1,g2⟩,fun a ea=>?_,?_⟩
 ·cases ea;exact⟨ob,g1,g4⟩
 have hA:=ha cpos pins s1 σ H1 _ I1 q1
 rw[hs]at hA ⊢
 refine Calls.callWith_builtin (by rfl) (Calls.evalArgs_plain ?_)
 exact thn hA fun us s2 ⟨vs,H2,I2,r2,q2⟩=>hm pins s2 σ H2 (.ref p) vs (.ref p) us Q I2 rfl r2 q2
noncomputable def lsB(x:D) (ds:List D):Prop:=SeqAt.shaped x=true/\x.depth<=60/\ds.all SeqAt.shaped=true/\ds.all U7=true
instance (x:D) (ds:List D):Decidable (lsB x ds):=by unfold lsB;exact inferInstance
noncomputable def cl7(f g:DE):DE:=fun ρ=>(f ρ).bind fun t=>(g ρ).bind fun x=>match t with
 | .list ds=>if lsB x ds then some (.int (ds.countP fun y=>PyData.eqv y x)) else none
 | _=>none
noncomputable def aM2(f g:DE):DE:=fun ρ=>(f ρ).bind fun t=>(g ρ).bind fun x=>match t with
 | .list ds=>if lsB x ds then(ds.findIdx? fun y=>PyData.eqv y x).map (fun(j:Nat)=>PyData.int (j:Int)) else none
 | _=>none
theorem bx3{o e:Expr}{f g:DE}{name:Str}{id:String}{apos cpos:Pos}{ρ:Rho}{ds:List D}{x z:D}(slot:Slot "list" name id) (hty:typeOf (.builtin id)=pure (.type "method_descriptor")) (hm:MtR X id (cb1 X ds x z)) (ho:JE X o f) (h:JE X e g) (hz:∀Hf Hf' v,Rep X.K Hf z v->Rep X.K Hf' z v) (e1:f ρ=some (.list ds)) (e2:g ρ=some x) (hbase:attributeBase o name X.env (eval o X.env)=eval o X.env)
  (hfew:((backTo cpos (starEach [e] X.env)).all (fun x=>!x.1)&&(backToKw cpos (keywordEach [] X.env)).all (fun x=>x.1.isSome)&&decide (([e]:List Expr).length+([]:List Keyword).length+(if([]:List Keyword).isEmpty then 0 else 1) < 30))=true)
  (hline:(apos.endLine==cpos.line)=true) (hs:starEach [e] X.env=[(false,eval e X.env)]):PE X (.Call (.Attribute o name apos) [e] [] cpos) (tJ X.K ρ fun _ v _ Hf=>Rep X.K Hf z v):=by
 refine A7 (bL4 slot hty hm (ho ρ _ e1) (B2 (h ρ _ e2) C6 hs) hbase hfew hline hs) fun σ H Q ⟨H0,Hf,s,sl,k⟩=>?_
 refine⟨H0,Hf,s,sl,fun v H1 Hf1 g1 r1=>?_⟩
 have r1':=r1
 obtain⟨p,vs,rfl,h2,h3⟩:=r1
 refine⟨⟨p,vs,rfl,D0 g1.sub h2⟩,H0,Hf1,g1.sub,sl.grow g1,fun w H2 Hf2 g2 r2=>?_⟩
 exact⟨Hf2,w,rfl,g2.sub,r1'.mono g2.ext,r2,fun v rv=>k _ H2 Hf2 (g1.trans g2) rv⟩
theorem aS5{o e:Expr}{f g:DE}{apos cpos:Pos}(hu:X.A.units+64 < cLine) (ho:JE X o f) (h:JE X e g) (hbase:attributeBase o "index" X.env (eval o X.env)=eval o X.env)
  (hfew:((backTo cpos (starEach [e] X.env)).all (fun x=>!x.1)&&(backToKw cpos (keywordEach [] X.env)).all (fun x=>x.1.isSome)&&decide (([e]:List Expr).length+([]:List Keyword).length+(if([]:List Keyword).isEmpty then 0 else 1) < 30))=true)
  (hline:(apos.endLine==cpos.line)=true) (hs:starEach [e] X.env=[(false,eval e X.env)]):JE X (.Call (.Attribute o "index" apos) [e] [] cpos) (aM2 f g):=fun ρ d q=>by
 obtain⟨t,e1,q⟩:=xbm q
 obtain⟨x,e2,q⟩:=xbm q
 cases t with
 | list ds =>
  simp only at q
  split at q
  ·rename_i c
   obtain⟨j,hj,rfl⟩:=Option.map_eq_some_iff.mp q
   exact bx3 F.slot_list_index F.type_list_index (aR1 hu c.1 c.2.1 c.2.2.1 c.2.2.2 hj) ho h (fun _ _ _ r=>r) e1 e2 hbase hfew hline hs
  ·cases q
 | _=>cases q
noncomputable def as1(f g:DE):DE:=fun ρ=>match f ρ with
 | some (.list _)=>aM2 f g ρ
 | _=>bk8 f g ρ
theorem aS6(hu:X.A.units+64 < cLine) (ho:JE X o f) (h:JE X e g) (hbase:attributeBase o "index" X.env (eval o X.env)=eval o X.env)
  (hfew:((backTo cpos (starEach [e] X.env)).all (fun x=>!x.1)&&(backToKw cpos (keywordEach [] X.env)).all (fun x=>x.1.isSome)&&decide (([e]:List Expr).length+([]:List Keyword).length+(if([]:List Keyword).isEmpty then 0 else 1) < 30))=true)
  (hline:(apos.endLine==cpos.line)=true) (hs:starEach [e] X.env=[(false,eval e X.env)]):JE X (.Call (.Attribute o "index" apos) [e] [] cpos) (as1 f g):=fun ρ d q=>by
 unfold as1 at q
 split at q
 ·exact aS5 hu ho h hbase hfew hline hs ρ d q
 ·exact bh5 hu ho h hbase hfew hline hs ρ d q
end
end G
namespace L2
open PySem PySem.Spec PyProof.Rows
section
variable {κ:Type} [DecidableEq κ]
noncomputable def Z7(kvs:List (κ×V)) (k:κ):Option V:=(kvs.find? fun kv=>decide (kv.1=k)).map (·.2)
noncomputable def U6(kvs:List (κ×V)) (k:κ) (v:V):List (κ×V) :=
 if(kvs.any fun kv=>decide (kv.1=k))=true then kvs.map (fun kv=>if kv.1=k then(kv.1,v) else kv) else kvs++[(k,v)]
noncomputable def ad3(kvs:List (κ×V)) (k:κ):List (κ×V):=kvs.filter fun kv=>decide (kv.1≠k)
theorem l9{p:κ×V}{r:List (κ×V)}{k:κ}(e:p.1=k):Z7 (p::r) k=some p.2:=by simp[Z7,List.find?_cons,e]
theorem m5{p:κ×V}{r:List (κ×V)}{k:κ}(e:¬p.1=k):Z7 (p::r) k=Z7 r k:=by simp[Z7,List.find?_cons,e]
theorem at9(k:κ):∀kvs:List (κ×V),(kvs.any fun kv=>decide (kv.1=k))=(Z7 kvs k).isSome
 | []=>rfl
 | p::r=>by
  rw[List.any_cons]
  by_cases e:p.1=k
  ·simp only[l9 e,decide_eq_true e,Bool.true_or,Option.isSome_some]
  ·rw[m5 e,decide_eq_false e,Bool.false_or];exact at9 k r
theorem V5(kvs:List (κ×V)) (k:κ) (v:V):(U6 kvs k v).length<=kvs.length+1:=by
 unfold U6
 split
 ·rw[List.length_map];omega
 ·rw[List.length_append,List.length_cons,List.length_nil];omega
theorem Y9.isSome_eq{o:Option V}{u:Option Value}(r:Y9 o u):o.isSome=u.isSome:=by
 cases o with
 | none=>cases u with
  | none=>rfl
  | some _=>exact(show False from r).elim
 | some _=>cases u with
  | none=>exact(show False from r).elim
  | some _=>rfl
theorem Y9.getD{o:Option V}{u:Option Value}{d:V}{d':Value}(r:Y9 o u) (rd:C1 d d'):C1 (o.getD d) (u.getD d'):=by
 cases o with
 | none=>cases u with
  | none=>exact rd
  | some _=>exact(show False from r).elim
 | some _=>cases u with
  | none=>exact(show False from r).elim
  | some _=>exact r
theorem KV.val{kvs:List (κ×V)}{vs:List (κ×Value)}(r:KV kvs vs) (k:κ):Y9 (Z7 kvs k) (valueAt vs k):=by
 unfold KV at r
 induction r with
 | nil=>exact True.intro
 | @cons p q ps qs h t ih =>
  obtain⟨h1,h2⟩:=h
  by_cases e:p.1=k
  ·have e':q.1=k:=h1.symm.trans e
   have b:valueAt (q::qs) k=some q.2:=by simp[valueAt,List.find?_cons,e']
   rw[l9 e,b];exact h2
  ·have e':¬q.1=k:=fun z=>e (h1.trans z)
   have b:valueAt (q::qs) k=valueAt qs k:=by simp[valueAt,List.find?_cons,e']
   rw[m5 e,b];exact ih
theorem KV.any{kvs:List (κ×V)}{vs:List (κ×Value)}(r:KV kvs vs) (k:κ):(kvs.any fun kv=>decide (kv.1=k))=vs.any fun kv=>decide (kv.1=k):=by
 unfold KV at r
 induction r with
 | nil=>rfl
 | cons h t ih=>rw[List.any_cons,List.any_cons,ih,h.1]
theorem KV.repl{kvs:List (κ×V)}{vs:List (κ×Value)}(r:KV kvs vs) (k:κ) {y:V}{u:Value}(ry:C1 y u) :
  KV (kvs.map fun kv=>if kv.1=k then(kv.1,y) else kv) (vs.map fun kv=>if kv.1=k then(kv.1,u) else kv):=by
 unfold KV at r ⊢
 induction r with
 | nil=>exact .nil
 | @cons p q ps qs h t ih =>
  rw[List.map_cons,List.map_cons]
  refine .cons ?_ ih
  obtain⟨h1,h2⟩:=h
  by_cases e:p.1=k
  ·rw[if_pos e,if_pos (h1.symm.trans e)];exact⟨h1,ry⟩
  ·rw[if_neg e,if_neg (fun z=>e (h1.trans z))];exact⟨h1,h2⟩
theorem KV.put{kvs:List (κ×V)}{vs:List (κ×Value)}(r:KV kvs vs) (k:κ) {y:V}{u:Value}(ry:C1 y u):KV (U6 kvs k y) (stored vs k u):=by
 unfold U6 stored
 rw[r.any k]
 by_cases e:(vs.any fun kv=>decide (kv.1=k))=true
 ·rw[if_pos e,if_pos e];exact r.repl k ry
 ·rw[if_neg e,if_neg e];exact Paired.snoc r ⟨rfl,ry⟩
theorem KV.drop{kvs:List (κ×V)}{vs:List (κ×Value)}(r:KV kvs vs) (k:κ):KV (ad3 kvs k) (without vs k):=by
 unfold KV at r ⊢
 unfold ad3 without
 induction r with
 | nil=>exact .nil
 | @cons p q ps qs h t ih =>
  obtain⟨h1,h2⟩:=h
  rw[List.filter_cons,List.filter_cons]
  by_cases e:p.1=k
  ·have a:¬decide (p.1≠k)=true:=by simp[e]
   have b:¬decide (q.1≠k)=true:=by simp[h1.symm.trans e]
   rw[if_neg a,if_neg b];exact ih
  ·have e':¬q.1=k:=fun z=>e (h1.trans z)
   have a:decide (p.1≠k)=true:=by simp[e]
   have b:decide (q.1≠k)=true:=by simp[e']
   rw[if_pos a,if_pos b];exact .cons ⟨h1,h2⟩ ih
theorem KV.length{kvs:List (κ×V)}{vs:List (κ×Value)}(r:KV kvs vs):kvs.length=vs.length:=Paired.length r
theorem ay1(kvs:List (κ×V)) (k:κ):(ad3 kvs k).length<=kvs.length:=List.length_filter_le _ _
end
theorem i6{P:Program}{w:World}{k:Key}{u:Value}(r:C1 (kV k) u):(C8 P w).is k u=true:=by
 cases k with
 | inl i=>obtain⟨t,e⟩:=(show ∃t,u=Value.int i t from r);subst e;exact aw7 P w i t
 | inr x=>obtain⟨t,e⟩:=(show ∃t,u=Value.str x t from r);subst e;exact ac6 P w x t
theorem al5{P:Program}{w:World}:∀{ks:List Key}{us:List Value},C5 (ks.map kV) us->ItemsAre (C8 P w) ks us
 | [],_,r=>by rw[List.map_nil]at r;cases r;exact .nil
 | k::ks,_,r=>by
  rw[List.map_cons]at r
  cases r with
  | cons h t=>exact .cons (i6 h) (al5 t)
noncomputable abbrev KT(H:Hp):List (List Key×V)->List (List Key×Addr×Value)->Prop:=Paired fun p q=>p.1=q.1/\H q.2.1=some (.tup (p.1.map kV))/\C1 p.2 q.2.2
theorem KT.val{H:Hp}{kvs:List (List Key×V)}{xs:List (List Key×Addr×Value)}(r:KT H kvs xs) (k:List Key):Y9 (Z7 kvs k) ((atKey xs k).map (·.2)):=by
 induction r with
 | nil=>exact True.intro
 | @cons p q ps qs h t ih =>
  obtain⟨h1,_,h2⟩:=h
  by_cases e:p.1=k
  ·have e':q.1=k:=h1.symm.trans e
   have b:atKey (q::qs) k=some q.2:=by simp[atKey,List.find?_cons,e']
   rw[l9 e,b];exact h2
  ·have e':¬q.1=k:=fun z=>e (h1.trans z)
   have b:atKey (q::qs) k=atKey qs k:=by simp[atKey,List.find?_cons,e']
   rw[m5 e,b];exact ih
theorem KT.repl{H:Hp}{kvs:List (List Key×V)}{xs:List (List Key×Addr×Value)}(r:KT H kvs xs) (k:List Key) {y:V}{u:Value}(ry:C1 y u) :
  KT H (kvs.map fun kv=>if kv.1=k then(kv.1,y) else kv) (xs.map (putAt k u)):=by
 induction r with
 | nil=>exact .nil
 | @cons p q ps qs h t ih =>
  rw[List.map_cons,List.map_cons]
  refine .cons ?_ ih
  obtain⟨h1,h2,h3⟩:=h
  unfold putAt
  by_cases e:p.1=k
  ·rw[if_pos e,if_pos (h1.symm.trans e)];exact⟨h1,h2,ry⟩
  ·rw[if_neg e,if_neg (fun z=>e (h1.trans z))];exact⟨h1,h2,h3⟩
theorem KT.put{H:Hp}{kvs:List (List Key×V)}{xs:List (List Key×Addr×Value)}(r:KT H kvs xs) (k:List Key) {b:Addr}{y:V}{u:Value}(hb:H b=some (.tup (k.map kV))) (ry:C1 y u) :
  KT H (U6 kvs k y) (storedH xs k b u):=by
 have e:(kvs.any fun kv=>decide (kv.1=k))=(atKey xs k).isSome:=by
  rw[at9,(r.val k).isSome_eq,Option.isSome_map]
 unfold U6 storedH
 rw[e]
 by_cases q:(atKey xs k).isSome=true
 ·rw[if_pos q,if_pos q];exact r.repl k ry
 ·rw[if_neg q,if_neg q];exact Paired.snoc r ⟨rfl,hb,ry⟩
theorem KT.keeps{H H':Hp}{kvs:List (List Key×V)}{xs:List (List Key×Addr×Value)}(r:KT H kvs xs) (ht:∀b ys,H b=some (.tup ys)->H' b=some (.tup ys)):KT H' kvs xs :=
 Paired.mapP r fun _ _ z=>⟨z.1,ht _ _ z.2.1,z.2.2⟩
section
variable {P:Program}{w:World}{H:Hp}{h:Heap}{a:Addr}
theorem bC0{u:HO}(ok:HOk P w H h) (e:Rd H a u):N3 P w H h a u:=e.ok ok
theorem ad4{kvs:List (Key×V)}(ok:HOk P w H h) (e:Rd H a (.dK kvs)):kvs.length<=sizeLine/\(a==sysModules)=false/\∃vs,KV kvs vs/\h.DictOf (C8 P w) a vs :=
 show N3 P w H h a (.dK kvs) from bC0 ok e
theorem ay3{kvs:List (Key×V)}(ok:HOk P w H h) (e:H a=some (.dK kvs)):kvs.length<=sizeLine/\(a==sysModules)=false/\∃vs,KV kvs vs/\h.DictOf (C8 P w) a vs:=ad4 ok (.inl e)
theorem k8{ks:List Key}(ok:HOk P w H h) (e:H a=some (.tup (ks.map kV))):(tupleKind (C8 P w)).is h ks a:=by
 obtain⟨_,its,r,o,h1,h2,⟨n,h3⟩,_⟩:=(show N3 P w H h a (.tup (ks.map kV)) from ok a _ e)
 exact⟨o,its.toArray,n,h1,h2,h3,by simpa using al5 r⟩
theorem ad2{kvs:List (List Key×V)}(ok:HOk P w H h) (e:Rd H a (.dT kvs)):kvs.length<=sizeLine/\(a==sysModules)=false /\
  ∃xs,KT H kvs xs/\h.DictOfH (tupleKind (C8 P w)) a xs:=by
 obtain⟨z,y,xs,r,o,es,ep,h1,h2,h3,h4,h5⟩:=(show N3 P w H h a (.dT kvs) from bC0 ok e)
 refine⟨z,y,xs,r,o,es,ep,h1,h2,h3,h4,fun x hx=>?_,h5⟩
 have all:∀{l:List (List Key×V)}{m:List (List Key×Addr×Value)},KT H l m->∀x∈m,(tupleKind (C8 P w)).is h x.1 x.2.1:=by
  intro l m q
  induction q with
  | nil=>intro x hx;exact nomatch hx
  | @cons p q ps qs hq t ih =>
   intro x hx
   rcases List.mem_cons.mp hx with e|hx
   ·subst e
    exact k8 ok (by rw[← hq.1];exact hq.2.1)
   ·exact ih x hx
 exact all r x hx
theorem cg4{kvs:List (List Key×V)}(ok:HOk P w H h) (e:H a=some (.dT kvs)):kvs.length<=sizeLine/\(a==sysModules)=false /\
  ∃xs,KT H kvs xs/\h.DictOfH (tupleKind (C8 P w)) a xs:=ad2 ok (.inl e)
end
noncomputable def Z3(H:Hp) (a:Addr) (y:V) (r:Option V):Prop :=
 (∃kvs k,Rd H a (.dK kvs)/\y=kV k/\r=Z7 kvs k)\/∃kvs k b,Rd H a (.dT kvs)/\y=.ref b/\H b=some (.tup (k.map kV))/\r=Z7 kvs k
noncomputable def bm6(H:Hp) (a:Addr) (y v:V) (H':Hp):Prop :=
 (∃kvs k,H a=some (.dK kvs)/\y=kV k/\kvs.length < sizeLine/\H'=upd H a (.dK (U6 kvs k v))) \/
 ∃kvs k b,H a=some (.dT kvs)/\y=.ref b/\H b=some (.tup (k.map kV))/\kvs.length < sizeLine/\H'=upd H a (.dT (U6 kvs k v))
theorem Z3.k{H:Hp}{a:Addr}{kvs:List (Key×V)}{k:Key}(e:H a=some (.dK kvs)):Z3 H a (kV k) (Z7 kvs k):=.inl ⟨kvs,k,.inl e,rfl,rfl⟩
theorem bm6.k{H:Hp}{a:Addr}{kvs:List (Key×V)}{k:Key}{v:V}(e:H a=some (.dK kvs)) (hl:kvs.length < sizeLine):bm6 H a (kV k) v (upd H a (.dK (U6 kvs k v))):=.inl ⟨kvs,k,e,rfl,hl,rfl⟩
section
variable {X:Cx}{pins:List (Addr×Obj)}{σ:St}{H:Hp}{s:Shared}{a:Addr}{y v:V}{u r:Value}{o:Option V}{A:Around}{E:Value->Shared->Prop}
theorem Inv.big(I:Inv X pins σ H s):sysModules < s.heap.objs.size:=by
 have h:mainGlobals < s.heap.objs.size:=(I.mod.glob.keeps I.bk).lt
 exact Nat.lt_trans (by decide) h
theorem aU2{Q:Value->Shared->Prop}(hu:A.units+1 < cLine) (I:Inv X pins σ H s) (g:Z3 H a y (some v)) (ry:C1 y u) (h:∀w' s',Inv X pins σ H s'->C1 v w'->Q w' s') :
  wpAny (model X.prog X.w) A (getItem (.ref a) u) Q E s:=by
 rcases g with⟨kvs,k,e,ey,l⟩|⟨kvs,k,b,e,ey,eb,l⟩
 ·subst ey
  obtain⟨z,hd,vs,rel,dd⟩:=ad4 I.hok e
  obtain⟨w',hw,rw'⟩:=Y9.some_of (v:=v) (o:=valueAt vs k) (by rw[l];exact rel.val k)
  exact wpAny_getItem_of (i6 ry) dd.mapOf hw (h w' _ (I.tok _) rw')
 ·subst ey
  cases(show u=Value.ref b from ry)
  obtain⟨z,hd,xs,rel,dd⟩:=ad2 I.hok e
  obtain⟨w',hw,rw'⟩:=Y9.some_of (v:=v) (o:=(atKey xs k).map (·.2)) (by rw[l];exact rel.val k)
  obtain⟨p,hp,hp2⟩:=Option.map_eq_some_iff.mp hw
  refine wpAny_getItem_heap (tupleKind_room_in1 hu) (k8 I.hok eb) dd hp ?_
  rw[hp2]
  exact h w' _ (I.tok _) rw'
theorem cg6{Q:Value->Shared->Prop}(hu:A.units+1 < cLine) (I:Inv X pins σ H s) (g:Z3 H a y o) (ry:C1 y u) (h:∀s',Inv X pins σ H s'->Q (.bool o.isSome) s') :
  wpAny (model X.prog X.w) A (compareOp .In u (.ref a)) Q E s:=by
 rcases g with⟨kvs,k,e,ey,l⟩|⟨kvs,k,b,e,ey,eb,l⟩
 ·subst ey
  obtain⟨z,hd,vs,rel,dd⟩:=ad4 I.hok e
  refine wpAny_in_of (i6 ry) hd dd.mapOf ?_
  rw[← (rel.val k).isSome_eq,← l]
  exact h _ (I.tok _)
 ·subst ey
  cases(show u=Value.ref b from ry)
  obtain⟨z,hd,xs,rel,dd⟩:=ad2 I.hok e
  refine wpAny_in_heap (tupleKind_room_in1 hu) (k8 I.hok eb) hd dd ?_
  have q:=(rel.val k).isSome_eq
  rw[Option.isSome_map]at q
  rw[← q,← l]
  exact h _ (I.tok _)
theorem aM0{Q:Value->Shared->Prop}(hu:A.units+1 < cLine) (I:Inv X pins σ H s) (g:Z3 H a y o) (ry:C1 y u) (h:∀s',Inv X pins σ H s'->Q (.bool (!o.isSome)) s') :
  wpAny (model X.prog X.w) A (compareOp .NotIn u (.ref a)) Q E s:=by
 rcases g with⟨kvs,k,e,ey,l⟩|⟨kvs,k,b,e,ey,eb,l⟩
 ·subst ey
  obtain⟨z,hd,vs,rel,dd⟩:=ad4 I.hok e
  refine wpAny_notIn_of (i6 ry) hd dd.mapOf ?_
  rw[← (rel.val k).isSome_eq,← l]
  exact h _ (I.tok _)
 ·subst ey
  cases(show u=Value.ref b from ry)
  obtain⟨z,hd,xs,rel,dd⟩:=ad2 I.hok e
  refine wpAny_notIn_heap (tupleKind_room_in1 hu) (k8 I.hok eb) hd dd ?_
  have q:=(rel.val k).isSome_eq
  rw[Option.isSome_map]at q
  rw[← q,← l]
  exact h _ (I.tok _)
theorem x6{h':Heap}{t':Nat}{ob:HO}(I:Inv X pins σ H s) (mu:Mut (H a)) (hs:Heap.SameBut a s.heap h') (he:∃q,h'.get? a=some q) (new:N3 X.prog X.w (upd H a ob) h' a ob) :
  Inv X pins σ (upd H a ob) { s with heap:=h',toks:=t' } :=
 I.write (x:=a) (e:=a) mu (.inl rfl) (fun b q hb z=>(hs.2 b hb).trans z) he new
theorem ai1{P:Program}{w:World}{H':Hp}{h':Heap}{kvs:List (Key×V)}{vs:List (Key×Value)}(z:kvs.length<=sizeLine) (hd:(a==sysModules)=false) (rel:KV kvs vs) (dd:h'.DictOf (C8 P w) a vs) :
  N3 P w H' h' a (.dK kvs):=⟨z,hd,vs,rel,dd⟩
theorem aT5{H':Hp}{Q:Unit->Shared->Prop}(hu:A.units+1 < cLine) (I:Inv X pins σ H s) (g:bm6 H a y v H') (ry:C1 y u) (rv:C1 v r) (h:∀s',Inv X pins σ H' s'->Q () s') :
  wpAny (model X.prog X.w) A (setItem (.ref a) u r) Q E s:=by
 rcases g with⟨kvs,k,e,ey,l,eH⟩|⟨kvs,k,b,e,ey,eb,l,eH⟩
 ·subst ey eH
  obtain⟨z,hd,vs,rel,dd⟩:=ay3 I.hok e
  have hz:vs.length<=sizeLine:=by rw[← rel.length];exact z
  have hl:(U6 kvs k v).length<=sizeLine:=by have:=V5 kvs k v;omega
  refine wpAny_setItem_pairs (hsz:=hz) (i6 ry) dd fun h' dd' hs=>h _ ?_
  have he:∃q,h'.get? a=some q:=let⟨q,_,_,hq,_⟩:=dd';⟨q,hq⟩
  exact x6 I (by rw[e];exact True.intro) hs he (ai1 hl hd (rel.put k rv) dd')
 ·subst ey eH
  cases(show u=Value.ref b from ry)
  obtain⟨z,hd,xs,rel,dd⟩:=cg4 I.hok e
  have hz:xs.length<=sizeLine:=by rw[← Paired.length rel];exact z
  have hl:(U6 kvs k v).length<=sizeLine:=by have:=V5 kvs k v;omega
  refine wpAny_setItem_heap (hsz:=hz) (tupleKind_room_in1 hu) (k8 I.hok eb) dd fun h' dd' hs=>h _ ?_
  obtain⟨q,es,ep,hq,h2,h3,h4,_,h5⟩:=dd'
  refine x6 I (by rw[e];exact True.intro) hs ⟨q,hq⟩ ⟨hl,hd,_,(rel.put k eb rv).keeps fun c ys ec=>?_,q,es,ep,hq,h2,h3,h4,h5⟩
  rw[A6 (al1 ec e (fun z=>nomatch z))]
  exact ec
end
section
variable {X:Cx}{pins:List (Addr×Obj)}{σ:St}{H:Hp}{s:Shared}{a:Addr}{kvs:List (Key×V)}{k:Key}{u:Value}{A:Around}{E:Value->Shared->Prop}
theorem bX8{Q:Unit->Shared->Prop}(I:Inv X pins σ H s) (e:H a=some (.dK kvs)) (ry:C1 (kV k) u) (l:(Z7 kvs k).isSome=true) (h:∀s',Inv X pins σ (upd H a (.dK (ad3 kvs k))) s'->Q () s') :
  wpAny (model X.prog X.w) A (delItem (.ref a) u) Q E s:=by
 obtain⟨z,hd,vs,rel,dd⟩:=ay3 I.hok e
 refine wpAny_delItem_slot dd.typeIs (by decide) PySem.F.slot_dict_delitem
  (call_meetsIn PySem.F.slot_dict_delitem dd.typeIs PySem.F.entry_dict_delitem (PySem.F.args_dict_delitem_2 _ _) (meets_dict_delitem_pairs (C8 X.prog X.w) a (i6 ry)) ⟨vs,dd,by rw[← rel.length];exact z,by rw[← (rel.val k).isSome_eq];exact l,fun h' dd' hs=>h _ ?_⟩)
 have he:∃q,h'.get? a=some q:=let⟨q,_,_,hq,_⟩:=dd';⟨q,hq⟩
 exact x6 I (by rw[e];exact True.intro) hs he (ai1 (Nat.le_trans (ay1 kvs k) z) hd (rel.drop k) dd')
theorem cg5{v:V}{more:List Value}{Q:Value->Shared->Prop}(I:Inv X pins σ H s) (e:H a=some (.dK kvs)) (ry:C1 (kV k) u) (l:Z7 kvs k=some v) (hm:more=[]\/∃x,more=[x])
  (h:∀w' s',Inv X pins σ (upd H a (.dK (ad3 kvs k))) s'->C1 v w'->Q w' s'):wpAny (model X.prog X.w) A (call (.builtin "dict.pop") (.ref a::u::more)) Q E s:=by
 obtain⟨z,hd,vs,rel,dd⟩:=ay3 I.hok e
 obtain⟨w',hw,rw'⟩:=Y9.some_of (v:=v) (o:=valueAt vs k) (by rw[← l];exact rel.val k)
 have hp:(keyPart u).isSome=true:=by
  cases k with
  | inl i=>obtain⟨t,q⟩:=(show ∃t,u=Value.int i t from ry);subst q;rfl
  | inr x=>obtain⟨t,q⟩:=(show ∃t,u=Value.str x t from ry);subst q;rfl
 have ha:argsOk "dict.pop" ⟨.ref a::u::more,[]⟩:=by
  rcases hm with q|⟨x,q⟩
  ·subst q;exact PySem.F.args_dict_pop_2 _ _
  ·subst q;exact PySem.F.args_dict_pop_3 _ _ _
 refine call_meetsIn PySem.F.slot_dict_pop dd.typeIs PySem.F.entry_dict_pop ha (meets_dict_pop_there (C8 X.prog X.w) a (i6 ry) more hm hp)
  ⟨vs,w',dd,by rw[← rel.length];exact z,hw,fun h' dd' hs=>h w' _ ?_ rw'⟩
 have he:∃q,h'.get? a=some q:=let⟨q,_,_,hq,_⟩:=dd';⟨q,hq⟩
 exact x6 I (by rw[e];exact True.intro) hs he (ai1 (Nat.le_trans (ay1 kvs k) z) hd (rel.drop k) dd')
end
noncomputable def bX3(i:Expr):Prop:=∀ov iv,subscripted i false ov iv=operate [ov,iv] (getItem ov iv)
theorem bp2{prog:Program}{w:World}{A:Around}{E:Value->Shared->Prop}{s:Shared}{env:Env}{value slice:Expr}{pos:Pos}{T id:String}{Q:Value->Shared->Prop}
  (hl:typeLookup (.type T) "__getitem__" = pure (some (.builtin id))) (hs:bX3 slice)
  (h:wpAny (model prog w) A (eval value env) (fun o s₁=>wpAny (model prog w) A (eval slice env) (fun i s₂=>s₂.TypeIs o T/\wpAny (model prog w) A (getItem o i) Q E s₂) E s₁) E s) :
  wpAny (model prog w) A (eval (.Subscript value slice pos) env) Q E s:=by
 refine Subscript_ (wpAny_mono h (fun o s₁ h₁=>wpAny_mono h₁ (fun i s₂ h₂=>?_) fun _ _ x=>x) fun _ _ x=>x)
 obtain⟨hT,h₂⟩:=h₂
 unfold subscriptTail
 refine wpAny_bind ?_
 rw[getitemInPython_of_ne hT.not_modules]
 refine wpAny_bind (wpAny_specialOf hT hl ?_)
 have fin:wpAny (model prog w) A (subscripted slice false o i) (fun r s₃=>wpAny (model prog w) A (letTemporaryGo value o r >>= fun _=>pure r) Q E s₃) E s₂:=by
  rw[hs o i]
  exact wpAny_operating (wpAny_mono h₂ (fun r s₃ h₃=>wpAny_bind (wpAny_letTemporaryGo (wpAny_pure h₃))) fun _ _ x=>x)
 first
  | exact wpAny_pure (wpAny_bind fin)
  | exact wpAny_bind (wpAny_pure (wpAny_bind fin))
  | exact wpAny_bind fin
theorem ay6{X:Cx}{pins:List (Addr×Obj)}{σ:St}{H:Hp}{s:Shared}{a:Addr}{y:V}{o:Option V}(I:Inv X pins σ H s) (g:Z3 H a y o):s.TypeIs (.ref a) "dict" := by
 rcases g with⟨kvs,k,e,_,_⟩|⟨kvs,k,b,e,_,_,_⟩
 ·obtain⟨_,_,vs,_,dd⟩:=ad4 I.hok e
  exact dd.typeIs
 ·obtain⟨_,_,xs,_,dd⟩:=ad2 I.hok e
  exact dd.typeIs
noncomputable def ca0(td ty:TE):TE:=fun σ H Q=>td σ H fun x H1=>ty σ H1 fun y H2=>∃a v,x=.ref a/\Z3 H2 a y (some v)/\Q v H2
noncomputable def cj6(ty td:TE):TE:=fun σ H Q=>ty σ H fun y H1=>td σ H1 fun x H2=>∃a o,x=.ref a/\Z3 H2 a y o/\Q (.bl o.isSome) H2
noncomputable def bp0(ty td:TE):TE:=fun σ H Q=>ty σ H fun y H1=>td σ H1 fun x H2=>∃a o,x=.ref a/\Z3 H2 a y o/\Q (.bl (!o.isSome)) H2
noncomputable def cb0(td ty tv:TE):TS:=fun D σ H=>tv σ H fun v H1=>td σ H1 fun x H2=>ty σ H2 fun y H3=>∃a H4,x=.ref a/\bm6 H3 a y v H4/\D.nx σ H4
section
variable {X:Cx}{o i e value:Expr}{pos pos' tpos:Pos}{td ty tv:TE}
theorem aJ3(hu:X.A.units+1 < cLine) (ho:PE X o td) (hi:PE X i ty) (hs:bX3 i):PE X (.Subscript o i pos) (ca0 td ty):=by
 intro pins s σ H Q I h
 refine bp2 PySem.F.slot_dict_getitem.lookup hs (thn (ho pins s σ H _ I h) fun u s1 ⟨x,H1,I1,rx,q1⟩=>thn (hi pins s1 σ H1 _ I1 q1) fun iv s2 ⟨y,H2,I2,ry,a,v,ex,g,q2⟩=>?_)
 subst ex
 obtain rfl:u=Value.ref a:=rx
 exact⟨ay6 I2 g,aU2 hu I2 g ry fun w' s3 I3 rw'=>⟨v,H2,I3,rw',q2⟩⟩
theorem bL5(hu:X.A.units+1 < cLine) (hi:PE X i ty) (ho:PE X o td):PC X .In i o (cj6 ty td):=by
 intro pins s σ H Q I h
 refine thn (hi pins s σ H _ I h) fun iv s1 ⟨y,H1,I1,ry,q1⟩=>thn (ho pins s1 σ H1 _ I1 q1) fun u s2 ⟨x,H2,I2,rx,a,ov,ex,g,q2⟩=>?_
 subst ex
 obtain rfl:u=Value.ref a:=rx
 exact cg6 hu I2 g ry fun s3 I3=>⟨.bl ov.isSome,H2,I3,rfl,q2⟩
theorem aQ1(hu:X.A.units+1 < cLine) (hi:PE X i ty) (ho:PE X o td):PC X .NotIn i o (bp0 ty td):=by
 intro pins s σ H Q I h
 refine thn (hi pins s σ H _ I h) fun iv s1 ⟨y,H1,I1,ry,q1⟩=>thn (ho pins s1 σ H1 _ I1 q1) fun u s2 ⟨x,H2,I2,rx,a,ov,ex,g,q2⟩=>?_
 subst ex
 obtain rfl:u=Value.ref a:=rx
 exact aM0 hu I2 g ry fun s3 I3=>⟨.bl (!ov.isSome),H2,I3,rfl,q2⟩
theorem br4(hu:X.A.units+1 < cLine) (ho:PE X o td) (hi:PE X i ty) (hv:PE X value tv) (hs:swapsWith value (some (.Subscript o i pos')) pos.line X.env=pure false) :
  PS X (.Assign [.Subscript o i pos'] value pos) (cb0 td ty tv):=by
 intro pins s σ H D I h
 refine wpAny_Assign_Subscript (thn (hv pins s σ H _ I h) fun r s1 ⟨v,H1,I1,rv,q1⟩=>thn (ho pins s1 σ H1 _ I1 q1) fun u s2 ⟨x,H2,I2,rx,q2⟩=>thn (hi pins s2 σ H2 _ I2 q2) fun iv s3 ⟨y,H3,I3,ry,a,H4,ex,g,q3⟩=>?_) hs
 subst ex
 obtain rfl:u=Value.ref a:=rx
 exact aT5 hu I3 g ry rv fun s4 I4=>⟨σ,H4,I4,q3⟩
end
theorem ay4{P:Program}{w:World}{H:Hp}(h:Heap) (hb:sysModules < h.objs.size):N3 P w H (h.push { cls:=.type "dict", data:=.dict #[] }) h.objs.size (.dK []) :=
 ⟨Nat.zero_le _,beq_eq_false_iff_ne.mpr (Ne.symm (Nat.ne_of_lt hb)),[],.nil,Heap.DictOf.new h⟩
noncomputable def bI5:TE:=fun _ H Q=>∀p,H p=none->Q (.ref p) (upd H p (.dK []))
section
variable {X:Cx}{pos:Pos}
theorem bc1:PE X (.Dict [] [] pos) bI5:=fun pins s σ H Q I h =>
 wpAny_Dict_empty ⟨.ref s.heap.objs.size,_,I.laid (a:=s.heap.objs.size) (o:=.dK []) (t':=s.toks) (fun _ _ q=>Heap.get?_push_of_some _ q) (Nat.le_refl _) (ay4 s.heap I.big),rfl,h _ (I.hok.fresh (Nat.le_refl _))⟩
end
noncomputable def an4:List (TE×TE)->St->Hp->(List (V×V)->Hp->Prop)->Prop
 | [],_,H,Q=>Q [] H
 | (tk,tv)::r,σ,H,Q=>tk σ H fun x H1=>tv σ H1 fun y H2=>an4 r σ H2 fun ps H3=>Q ((x,y)::ps) H3
noncomputable abbrev VV:List (V×V)->List (Value×Value)->Prop:=Paired fun p q=>C1 p.1 q.1/\C1 p.2 q.2
noncomputable def PPs(X:Cx) (pos:Pos) (keys:List (Option Expr)) (values:List Expr) (trs:List (TE×TE)):Prop :=
 ∀(pins:List (Addr×Obj)) (s:Shared) (σ:St) (H:Hp) (Q:List (V×V)->Hp->Prop),Inv X pins σ H s->an4 trs σ H Q ->
  wpAny (model X.prog X.w) X.A (evalPairs (pairTrees keys values X.env pos)) (fun vs s'=>∃ps H',Inv X pins σ H' s'/\VV ps vs/\Q ps H') X.xe s
theorem br5{X:Cx}{pos:Pos}:PPs X pos [] [] []:=fun pins s σ H Q I h=>pairTrees_nil_walk ⟨[],H,I,.nil,h⟩
theorem ba7{X:Cx}{pos:Pos}{k v:Expr}{ks:List (Option Expr)}{vs:List Expr}{tk tv:TE}{trs:List (TE×TE)}(hk:PE X k tk) (hv:PE X v tv) (hr:PPs X pos ks vs trs) :
  PPs X pos (some k::ks) (v::vs) ((tk,tv)::trs):=fun pins s σ H Q I h =>
 pairTrees_cons_walk (thn (hk pins s σ H _ I h) fun u s1 ⟨x,H1,I1,rx,q1⟩=>thn (hv pins s1 σ H1 _ I1 q1) fun w2 s2 ⟨y,H2,I2,ry,q2⟩ =>
  thn (hr pins s2 σ H2 _ I2 q2) fun ws s3 ⟨ps,H3,I3,rel,q3⟩=>⟨(x,y)::ps,H3,I3,.cons ⟨rx,ry⟩ rel,q3⟩)
noncomputable def j9(kvs more:List (Key×V)):List (Key×V):=more.foldl (fun acc kv=>U6 acc kv.1 kv.2) kvs
theorem KV.merge:∀{more:List (Key×V)}{rs:List (Key×Value)}{kvs:List (Key×V)}{vs:List (Key×Value)},KV more rs->KV kvs vs->KV (j9 kvs more) (merged vs rs):=by
 intro more rs kvs vs r
 unfold KV at r
 induction r generalizing kvs vs with
 | nil=>intro q;exact q
 | @cons p q ps qs h t ih =>
  intro r0
  have e:KV (U6 kvs p.1 p.2) (stored vs q.1 q.2):=by
   have:=r0.put p.1 h.2
   rw[← h.1];exact this
  exact ih e
theorem i5:∀(more kvs:List (Key×V)),(j9 kvs more).length<=kvs.length+more.length
 | [],kvs=>by show kvs.length<=kvs.length+0;omega
 | p::r,kvs=>by
  have h1:=i5 r (U6 kvs p.1 p.2)
  have h2:=V5 kvs p.1 p.2
  show(j9 (U6 kvs p.1 p.2) r).length<=_
  rw[List.length_cons];omega
theorem ai6{P:Program}{w:World}:∀{kvs:List (Key×V)}{ws:List (Value×Value)},VV (kvs.map fun kv=>(kV kv.1,kv.2)) ws->∃rs,Carries (C8 P w) ws rs/\KV kvs rs
 | [],_,r=>by rw[List.map_nil]at r;cases r;exact⟨[],True.intro,.nil⟩
 | p::kvs,_,r=>by
  rw[List.map_cons]at r
  cases r with
  | @cons a b as bs h t =>
   obtain⟨rs,c,q⟩:=ai6 (P:=P) (w:=w) t
   obtain⟨b1,b2⟩:=b
   exact⟨(p.1,b2)::rs,⟨i6 h.1,rfl,c⟩,.cons ⟨rfl,h.2⟩ q⟩
noncomputable def bZ9(trs:List (TE×TE)):TE:=fun σ H Q=>∀p,H p=none->an4 trs σ (upd H p (.dK [])) fun ps H2=>H2 p=some (.dK [])/\∃kvs:List (Key×V),ps=kvs.map (fun kv=>(kV kv.1,kv.2))/\kvs.length<=15/\Q (.ref p) (upd H2 p (.dK (j9 [] kvs)))
theorem bs6{X:Cx}{pos:Pos}{keys:List (Option Expr)}{values:List Expr}{trs:List (TE×TE)}(h:PPs X pos keys values trs) (hall:keys.all (·.isSome)=true) (hl:keys.length=values.length) (h0:keys≠[])
  (h15:keys.length<=15):PE X (.Dict keys values pos) (bZ9 trs):=by
 intro pins s σ H Q I q
 have hn:=I.hok.fresh (Nat.le_refl s.heap.objs.size)
 have I1:=I.laid (a:=s.heap.objs.size) (o:=.dK []) (h':=s.heap.push { cls:=.type "dict", data:=.dict #[] }) (t':=s.toks) (fun _ _ q=>Heap.get?_push_of_some _ q) (Nat.le_refl _) (ay4 s.heap I.big)
 refine wpAny_Dict_walk (knd:=C8 X.prog X.w) hall hl h0 h15 (thn (h pins _ σ _ _ I1 (q _ hn)) fun ws s2 ⟨ps,H2,I2,rel,e,kvs,ep,lk,q2⟩=>?_)
 subst ep
 obtain⟨rs,c,rk⟩:=ai6 (P:=X.prog) (w:=X.w) rel
 obtain⟨z,hd,vs0,r0,dd⟩:=ay3 I2.hok e
 cases r0
 refine⟨rs,c,dd,fun h' dd' hs=>⟨.ref s.heap.objs.size,_,?_,rfl,q2⟩⟩
 have hz:(j9 [] kvs).length<=sizeLine:=by
  have h1:=i5 kvs []
  rw[List.length_nil]at h1
  rw[sizeLine_eq];omega
 have he:∃q,h'.get? s.heap.objs.size=some q:=let⟨q,_,_,hq,_⟩:=dd';⟨q,hq⟩
 exact x6 I2 (by rw[e];exact True.intro) hs he (ai1 hz hd (rk.merge .nil) dd')
structure M1 (X:Cx) (o:Expr) (m:Str) (apos:Pos) (e:Expr) (cpos:Pos):Prop where
 base:attributeBase o m X.env (eval o X.env)=eval o X.env
 few:((backTo cpos (starEach [e] X.env)).all (fun x=>!x.1)&&(backToKw cpos (keywordEach [] X.env)).all (fun x=>x.1.isSome)
  && decide (([e]:List Expr).length+([]:List Keyword).length+(if([]:List Keyword).isEmpty then 0 else 1) < 30))=true
 line:(apos.endLine==cpos.line)=true
 trees:backTo cpos (starEach [e] X.env)=[(false,eval e X.env)]
structure M2 (X:Cx) (o:Expr) (m:Str) (apos:Pos) (e f:Expr) (cpos:Pos):Prop where
 base:attributeBase o m X.env (eval o X.env)=eval o X.env
 few:((backTo cpos (starEach [e,f] X.env)).all (fun x=>!x.1)&&(backToKw cpos (keywordEach [] X.env)).all (fun x=>x.1.isSome)
  && decide (([e,f]:List Expr).length+([]:List Keyword).length+(if([]:List Keyword).isEmpty then 0 else 1) < 30))=true
 line:(apos.endLine==cpos.line)=true
 trees:backTo cpos (starEach [e,f] X.env)=[(false,eval e X.env),(false,eval f X.env)]
noncomputable def IsD(H:Hp) (a:Addr):Prop:=(∃kvs,Rd H a (.dK kvs))\/∃kvs,Rd H a (.dT kvs)
theorem aD3{X:Cx}{pins:List (Addr×Obj)}{σ:St}{H:Hp}{s:Shared}{a:Addr}(I:Inv X pins σ H s) (d:IsD H a) :
  s.TypeIs (.ref a) "dict" /\ (∀b,Value.ref a=.ref b->∃ob,s.heap.get? b=some ob/\ob.dict=none)/\(a==sysModules)=false:=by
 rcases d with⟨kvs,e⟩|⟨kvs,e⟩
 ·obtain⟨_,hd,vs,_,dd⟩:=ad4 I.hok e
  refine⟨dd.typeIs,fun b q=>?_,hd⟩
  cases q
  obtain⟨ob,_,_,h1,h2,_⟩:=dd
  exact⟨ob,h1,h2.2.1⟩
 ·obtain⟨_,hd,xs,_,dd⟩:=ad2 I.hok e
  refine⟨dd.typeIs,fun b q=>?_,hd⟩
  cases q
  obtain⟨ob,_,_,h1,h2,_⟩:=dd
  exact⟨ob,h1,h2.2.1⟩
section
variable {X:Cx}{pins:List (Addr×Obj)}{σ:St}{H:Hp}{s:Shared}{a:Addr}{y d:V}{u r:Value}{o:Option V}{A:Around}{E:Value->Shared->Prop}
theorem bU8{Q:Value->Shared->Prop}(hu:A.units+1 < cLine) (I:Inv X pins σ H s) (g:Z3 H a y o) (ry:C1 y u) (h:∀w' s',Inv X pins σ H s'->C1 (o.getD .non) w'->Q w' s') :
  wpAny (model X.prog X.w) A (call (.builtin "dict.get") [.ref a,u]) Q E s:=by
 rcases g with⟨kvs,k,e,ey,l⟩|⟨kvs,k,b,e,ey,eb,l⟩
 ·subst ey
  obtain⟨z,hd,vs,rel,dd⟩:=ad4 I.hok e
  refine call_meetsIn PySem.F.slot_dict_get dd.typeIs PySem.F.entry_dict_get (PySem.F.args_dict_get_2 _ _) (meets_dict_get (C8 X.prog X.w) a (i6 ry) hd) ⟨_,dd.mapOf,h _ _ (I.tok _) ?_⟩
  rw[l]
  exact(rel.val k).getD rfl
 ·subst ey
  cases(show u=Value.ref b from ry)
  obtain⟨z,hd,xs,rel,dd⟩:=ad2 I.hok e
  refine call_meetsIn PySem.F.slot_dict_get dd.typeIs PySem.F.entry_dict_get (PySem.F.args_dict_get_2 _ _) (meetsH_dict_get (tupleKind (C8 X.prog X.w)) a b hd) ⟨tupleKind_room_in1 hu,k,xs,k8 I.hok eb,dd,h _ _ (I.tok _) ?_⟩
  rw[l]
  exact(rel.val k).getD rfl
theorem bU7{Q:Value->Shared->Prop}(hu:A.units+1 < cLine) (I:Inv X pins σ H s) (g:Z3 H a y o) (ry:C1 y u) (rd:C1 d r) (h:∀w' s',Inv X pins σ H s'->C1 (o.getD d) w'->Q w' s') :
  wpAny (model X.prog X.w) A (call (.builtin "dict.get") [.ref a,u,r]) Q E s:=by
 rcases g with⟨kvs,k,e,ey,l⟩|⟨kvs,k,b,e,ey,eb,l⟩
 ·subst ey
  obtain⟨z,hd,vs,rel,dd⟩:=ad4 I.hok e
  refine call_meetsIn PySem.F.slot_dict_get dd.typeIs PySem.F.entry_dict_get (PySem.F.args_dict_get_3 _ _ _) (meets_dict_get_default (C8 X.prog X.w) a (i6 ry) hd r) ⟨_,dd.mapOf,h _ _ (I.tok _) ?_⟩
  rw[l]
  exact(rel.val k).getD rd
 ·subst ey
  cases(show u=Value.ref b from ry)
  obtain⟨z,hd,xs,rel,dd⟩:=ad2 I.hok e
  refine call_meetsIn PySem.F.slot_dict_get dd.typeIs PySem.F.entry_dict_get (PySem.F.args_dict_get_3 _ _ _) (meetsH_dict_get_default (tupleKind (C8 X.prog X.w)) a b hd r) ⟨tupleKind_room_in1 hu,k,xs,k8 I.hok eb,dd,h _ _ (I.tok _) ?_⟩
  rw[l]
  exact(rel.val k).getD rd
end
noncomputable def bI7(td ty:TE):TE:=fun σ H Q=>td σ H fun x H1=>∃a,x=.ref a/\IsD H1 a/\ty σ H1 fun y H2=>∃o,Z3 H2 a y o/\Q (o.getD .non) H2
noncomputable def bI6(td ty tx:TE):TE:=fun σ H Q=>td σ H fun x H1=>∃a,x=.ref a/\IsD H1 a/\ty σ H1 fun y H2=>tx σ H2 fun z H3=>∃o,Z3 H3 a y o/\Q (o.getD z) H3
noncomputable def bI4(td ty:TE):TE:=fun σ H Q=>td σ H fun x H1=>∃a,x=.ref a/\IsD H1 a/\ty σ H1 fun y H2=>∃kvs k v,H2 a=some (.dK kvs)/\y=kV k/\Z7 kvs k=some v/\Q v (upd H2 a (.dK (ad3 kvs k)))
section
variable {X:Cx}{o e f:Expr}{apos cpos:Pos}{td ty tx:TE}
theorem bc3(hu:X.A.units+1 < cLine) (ho:PE X o td) (he:PE X e ty) (m:M1 X o "get" apos e cpos):PE X (.Call (.Attribute o "get" apos) [e] [] cpos) (bI7 td ty):=by
 intro pins s σ H Q I h
 refine wpAny_Call_method m.base m.few m.line PySem.F.plainAttrs_dict PySem.F.slot_dict_get PySem.F.type_dict_get (thn (ho pins s σ H _ I h) fun u s1 ⟨x,H1,I1,rx,a,ex,d,q1⟩=>?_)
 subst ex
 obtain rfl:u=Value.ref a:=rx
 obtain⟨t1,t2,_⟩:=aD3 I1 d
 refine⟨t1,t2,?_⟩
 rw[m.trees]
 refine Calls.callWith_builtin rfl (Calls.evalArgs_plain (Calls.spliced_cons (thn (he pins s1 σ H1 _ I1 q1) fun iv s2 ⟨y,H2,I2,ry,ov,g,q2⟩=>Calls.spliced_nil ?_)))
 exact bU8 hu I2 g ry fun w' s3 I3 rw'=>⟨_,H2,I3,rw',q2⟩
theorem bc2(hu:X.A.units+1 < cLine) (ho:PE X o td) (he:PE X e ty) (hf:PE X f tx) (m:M2 X o "get" apos e f cpos):PE X (.Call (.Attribute o "get" apos) [e,f] [] cpos) (bI6 td ty tx):=by
 intro pins s σ H Q I h
 refine wpAny_Call_method m.base m.few m.line PySem.F.plainAttrs_dict PySem.F.slot_dict_get PySem.F.type_dict_get (thn (ho pins s σ H _ I h) fun u s1 ⟨x,H1,I1,rx,a,ex,d,q1⟩=>?_)
 subst ex
 obtain rfl:u=Value.ref a:=rx
 obtain⟨t1,t2,_⟩:=aD3 I1 d
 refine⟨t1,t2,?_⟩
 rw[m.trees]
 refine Calls.callWith_builtin rfl (Calls.evalArgs_plain (Calls.spliced_cons (thn (he pins s1 σ H1 _ I1 q1) fun iv s2 ⟨y,H2,I2,ry,q2⟩ =>
  Calls.spliced_cons (thn (hf pins s2 σ H2 _ I2 q2) fun fv s3 ⟨z,H3,I3,rz,ov,g,q3⟩=>Calls.spliced_nil ?_))))
 exact bU7 hu I3 g ry rz fun w' s4 I4 rw'=>⟨_,H3,I4,rw',q3⟩
theorem bc0(ho:PE X o td) (he:PE X e ty) (m:M1 X o "pop" apos e cpos):PE X (.Call (.Attribute o "pop" apos) [e] [] cpos) (bI4 td ty):=by
 intro pins s σ H Q I h
 refine wpAny_Call_method m.base m.few m.line PySem.F.plainAttrs_dict PySem.F.slot_dict_pop PySem.F.type_dict_pop (thn (ho pins s σ H _ I h) fun u s1 ⟨x,H1,I1,rx,a,ex,d,q1⟩=>?_)
 subst ex
 obtain rfl:u=Value.ref a:=rx
 obtain⟨t1,t2,_⟩:=aD3 I1 d
 refine⟨t1,t2,?_⟩
 rw[m.trees]
 refine Calls.callWith_builtin rfl (Calls.evalArgs_plain (Calls.spliced_cons (thn (he pins s1 σ H1 _ I1 q1) fun iv s2 ⟨y,H2,I2,ry,kvs,k,v,ea,ey,l,q2⟩=>Calls.spliced_nil ?_)))
 subst ey
 exact cg5 I2 ea ry l (.inl rfl) fun w' s3 I3 rw'=>⟨v,_,I3,rw',q2⟩
end
section
variable {X:Cx}{pins:List (Addr×Obj)}{σ:St}{H:Hp}{s:Shared}{a:Addr}{kvs:List (Key×V)}{A:Around}{E:Value->Shared->Prop}
end
section
variable {X:Cx}{pins:List (Addr×Obj)}{σ:St}{H:Hp}{s:Shared}{a:Addr}{y:V}{u:Value}{A:Around}{E:Value->Shared->Prop}
end
end L2
namespace G
open PySem PySem.Spec PyProof.Rows L2
theorem ad1:entryFor table "dict.update.loop" = some Builtin.«dict.update.loop»:=entryFor_of_tree (by kernel_rfl)
theorem V4:plainId "dict.update.loop" = true:=by decide +kernel
theorem aq2:typeLookup (.type "list") "keys" = pure none:=by rw[typeLookup_type,builtinLookup_eq_fast];kernel_rfl
noncomputable def mgL(l:List (Str×Value)):List (Key×Value):=l.foldl (fun a p=>stored a (Sum.inr p.1) p.2) []
theorem aO9(a:List (Key×Value)) (k:Key) (v:Value):(stored a k v).length<=a.length+1:=by
 unfold stored
 split
 ·rw[List.length_map];grind
 ·rw[List.length_append,List.length_singleton];grind
theorem aw8(l:List (Str×Value)) (p:Str×Value):mgL (l++[p])=stored (mgL l) (Sum.inr p.1) p.2:=by
 unfold mgL;rw[List.foldl_append];rfl
theorem aK8:∀(l:List (Str×Value)) (n:Nat),l.length=n->(mgL l).length<=n
 | l,0,h=>by rw[List.length_eq_zero_iff]at h;subst h;exact Nat.le_refl 0
 | l,n+1,h=>by
  obtain⟨a,p,rfl⟩:∃a p,l=a++[p]:=by
   rcases List.eq_nil_or_concat l with e|⟨a,p,e⟩
   ·subst e;cases h
   ·exact⟨a,p,by rw[e,List.concat_eq_append]⟩
  rw[List.length_append,List.length_singleton]at h
  rw[aw8]
  have:=aK8 a n (by grind)
  have:=aO9 (mgL a) (Sum.inr p.1) p.2
  grind
section
variable {prog:Program}{w:World}{A:Around}{E:Value->Shared->Prop}{s:Shared}
theorem aR9(hx:s.heap.get? a=some o) (hc:o.cls=.type "list") (hdat:o.data=.seq xs k) (hd:o.dict=none) (hA:A.handled=none)
  (h:∀h' tk,(∀b o,s.heap.get? b=some o->h'.get? b=some o)->Q none { s with heap:=h',toks:=tk }):wpAny (model prog w) A (getAttr? (.ref a) "keys") Q E s:=by
 obtain⟨c,dct,dat,sl⟩:=o
 simp only at hc hdat hd
 subst hc hdat hd
 obtain⟨hp,g,d,tk,os⟩:=s
 have hT:∀tk',(⟨hp,g,d,tk',os⟩:Shared).TypeIs (.ref a) "list" := fun _=>⟨_,hx,rfl⟩
 have f1:=sub_AttributeError
 have f3:=F.slot_list_getattribute.lookup
 have f4:=F.slot_list_getattribute.bind (.ref a)
 have f5:=am_list_getattr_none
 unfold getAttr? getAttrBy? getAttrBy
 repeat (any_goals (first|assumption|exact hT _|((with_reducible show wpAny _ _ (call (Value.builtin "list.__getattribute__") _ _) _ _ _);refine call_meets F.slot_list_getattribute (hT _) am_entry_list_getattribute (F.args_list_getattribute_2 _ _) (meets_getattribute_miss_list a xs k sl "keys" _ aq2 (by decide) (by size_fits)) ⟨hx,hA,fun h' tk' e hx'=>?_⟩)|wp_step))
 obtain⟨t',u',he⟩:=hx'.there
 show wpAny _ _ (getattributeRaised _ _ _ _ _ _ _) _ _ _
 unfold getattributeRaised
 repeat (any_goals (first|assumption|wp_step))
 exact h _ _ hx'.keeps
variable {R:Result->Shared->Prop}{J S:Addr}{fp wr:List Addr}{Gn:Array GenState->Array GenState->Prop}{P:Nat->Value->Prop}{St:Nat->Shared->Prop}{ps:List (Str×Value)}
theorem aT4(W:WalksS prog w A.in1 J fp wr Gn ps.length P St) (hS1:S∉fp) (T:Nat->Addr) (hT:∀j,j < ps.length->T j∉S::wr) (hP:∀i u,P i u->u=.ref (T i)) (hb:ps.length<=1000) :
  ∀(k i:Nat) (s:Shared) (ii:Int),ps.length - i=k->i<=ps.length->St i s->(∀j p,ps[j]? = some p->∃t,IsTup s.heap (T j) #[.str p.1 t,p.2])->s.heap.DictOf (C8 prog w) S (mgL (ps.take i)) ->
   (∀s',Moved (S::wr) Gn s s'->s'.heap.DictOf (C8 prog w) S (mgL ps)->R (.ok (.ret .none)) s') ->
   codeAny (model prog w) A (.builtin "dict.update.loop" ⟨[.ref S,.ref J,rawInt ii,.none],[]⟩) R s:=by
 have hS2:S∉wr:=fun z=>hS1 (W.sub _ z)
 have more:∀b∈wr,b∈S::wr:=fun b z=>List.mem_cons_of_mem _ z
 intro k
 induction k with
 | zero =>
  intro i s ii e1 e2 q1 q0 q2 q3
  obtain rfl:i=ps.length:=by grind
  refine codeAny_builtin ad1 ?_
  rw[Around.under_plainId V4 _]
  show wpAny _ _ (pyNext (.ref J) >>= _) _ _ _
  refine wpAny_bind (W.done s _ _ q1 fun s' mv=>?_)
  show wpAny _ _ (Builtin.Dict.addKeywords S [] >>= fun _=>ret Value.none) _ _ _
  refine wpAny_bind (wpAny_pure (wpAny_pure (q3 s' (mv.mono more) ?_)))
  rw[List.take_length]at q2
  obtain⟨o,es,ep,ho,more'⟩:=q2
  exact⟨o,es,ep,mv.heap S _ hS2 ho,more'⟩
 | succ k ih =>
  intro i s ii e1 e2 q1 q0 q2 q3
  have lt:i < ps.length:=by grind
  refine codeAny_builtin ad1 ?_
  rw[Around.under_plainId V4 _]
  show wpAny _ _ (pyNext (.ref J) >>= _) _ _ _
  refine wpAny_bind (W.item i s _ _ lt q1 fun u s' hP' q1' mv=>?_)
  obtain rfl:=hP i u hP'
  have q2':s'.heap.DictOf (C8 prog w) S (mgL (ps.take i)):=by
   obtain⟨o,es,ep,ho,more'⟩:=q2
   exact⟨o,es,ep,mv.heap S _ hS2 ho,more'⟩
  have q0':∀j p,ps[j]? = some p->∃t,IsTup s'.heap (T j) #[.str p.1 t,p.2]:=fun j p e=>by
   obtain⟨t,o,ho,r⟩:=q0 j p e
   have hj:j < ps.length:=by
    rcases Nat.lt_or_ge j ps.length with z|z
    ·exact z
    ·rw[List.getElem?_eq_none z]at e;cases e
   exact⟨t,o,mv.heap (T j) _ (fun z=>hT j hj (List.mem_cons_of_mem _ z)) ho,r⟩
  obtain⟨t,⟨c0,d0,dt0,sl0⟩,ho,hc,n,hd⟩:=q0' i ps[i] (List.getElem?_eq_getElem lt)
  simp only at hc hd
  subst hc hd
  obtain⟨hp,g,d,tk,os⟩:=s'
  simp only at ho
  have hTy:(⟨hp,g,d,tk,os⟩:Shared).TypeIs (.ref (T i)) "tuple" := ⟨_,ho,rfl⟩
  show wpAny _ _ (holding [Value.ref (T i)] _ >>= _) _ _ _
  refine wpAny_bind (wpAny_holding (wpAny_bind (wpAny_tryCatch ?_)))
  unfold Builtin.Dict.pairItems
  refine wpAny_bind (wpAny_typeOf hTy ?_)
  rw[if_pos (by decide)]
  generalize hDS:dictSet=DS
  repeat (any_goals (first|assumption|wp_step))
  subst hDS
  refine wpAny_dictSet_pairs (knd:=C8 prog w) (k:=Sum.inr ps[i].1) (ac6 _ _ _ _) q2' (fun h' dd hs=>?_) (by
   have:=aK8 (ps.take i) i (by rw[List.length_take];grind)
   have:(1000:Nat) < sizeLine:=by decide
   grind)
  have tk1:ps.take (i+1)=ps.take i++[ps[i]]:=by rw[List.take_succ_eq_append_getElem lt]
  rw[← aw8,← tk1]at dd
  refine wpAny_pure ⟨plainId_quiet V4 _,ih (i+1) _ (ii+1) (by grind) lt (W.frame _ _ _ _ q1' (Nat.le_succ _) fun b z o e=>?_) (fun j p e=>?_) dd fun s2 mv2 q6=>?_⟩
  ·rw[hs.2 b (fun y:b=S=>hS1 (by rw[← y];exact z))];exact e
  ·obtain⟨t,o,ho,r⟩:=q0' j p e
   have hj:j < ps.length:=by
    rcases Nat.lt_or_ge j ps.length with z|z
    ·exact z
    ·rw[List.getElem?_eq_none z]at e;cases e
   exact⟨t,o,(hs.2 (T j) (fun z=>hT j hj (by rw[z];exact List.mem_cons_self))).trans ho,r⟩
  ·refine q3 s2 (Moved.trans W.gtrans ((mv.mono more).then_heap (Nat.le_succ _) fun b o z e=>?_) mv2) q6
   rw[hs.2 b (fun y:b=S=>z (by rw[y];exact List.mem_cons_self))];exact e
theorem aj7(hh:A.handled=none) (hl:PlainL s.heap l its) (T:Nat->Addr) (hn:its.size=ps.length) (hi:∀(i:Nat) (u:Value),its[i]? = some u->u=.ref (T i)) (ht:∀j p,ps[j]? = some p->∃t,IsTup s.heap (T j) #[.str p.1 t,p.2]) (hb:ps.length<=1000)
  (h:∀(h':Heap) (tk:Nat),h'.DictOf (C8 prog w) s.heap.objs.size (mgL ps)->(∀b o,b < s.heap.objs.size->s.heap.get? b=some o->h'.get? b=some o)->Q (.ref s.heap.objs.size) { s with heap:=h',toks:=tk }) :
  wpAny (model prog w) A (call (.type "dict") [.ref l]) Q E s:=by
 have hT:∀j,j < ps.length->T j < s.heap.objs.size:=fun j hj=>by
  obtain⟨t,o,ho,_⟩:=ht j _ (List.getElem?_eq_getElem hj)
  exact Heap.lt_size ho
 refine callType_codes (Q₁:=fun obj s₁=>obj=.ref s.heap.objs.size/\s₁={ s with heap:=s.heap.push { cls:=.type "dict", data:=.dict #[] } }) F.kt_called_dict (F.kt_typeCall_dict_1 _) F.entry_dict_init (kt_code_dict_new _ ⟨rfl,rfl⟩) ?_
 rintro obj s₁ ⟨rfl,rfl⟩
 have hnew:(s.heap.push { cls:=.type "dict", data:=.dict #[] }).DictOf (C8 prog w) s.heap.objs.size []:=Heap.DictOf.new s.heap
 refine⟨hnew.typeIs,F.args_dict_init_2 _ _,?_⟩
 unfold Builtin.«dict.__init__»
 refine wpAny_bind ?_
 unfold Builtin.Dict.selfAndRest
 refine wpAny_bind (wpAny_notOrdered_dict hnew.typeIs ?_)
 show wpAny _ _ (pure (s.heap.objs.size,[Value.ref l])) _ _ _
 refine wpAny_pure ?_
 show wpAny _ _ (Builtin.Dict.updateFrom "dict.__init__" s.heap.objs.size (.ref l) [] .none) _ _ _
 unfold Builtin.Dict.updateFrom
 obtain⟨o,n,ho,hc,hdd,hd⟩:=hl
 have ho1:=Heap.get?_push_of_some { cls:=.type "dict", data:=.dict #[] } ho
 refine wpAny_bind (wpAny_typeOf ⟨_,ho1,hc⟩ ?_)
 rw[if_pos (by decide)]
 refine wpAny_bind (aR9 ho1 hc hd hdd (by simpa using hh) fun h₁ tk₁ kp=>?_)
 rw[if_pos (by rfl)]
 refine wpAny_bind (wpAny_rule ?_)
 have hl1:h₁.IsList l its:=⟨o,kp _ _ ho1,hc,n,hd⟩
 refine wpAny_bind (wpAny_pyIter_list hl1 ?_)
 have sz:s.heap.objs.size < h₁.objs.size:=Heap.lt_size (kp _ _ (Heap.get?_push_size s.heap (o:={ cls:=.type "dict", data:=.dict #[] }) rfl))
 have lS:l < s.heap.objs.size:=Heap.lt_size ho
 have keep:∀b o,s.heap.get? b=some o->(h₁.push { cls:=.type "list_iterator", data:=.fields #[.ref l,.int 0 0] }).get? b=some o:=fun b o e=>Heap.get?_push_of_some _ (kp _ _ (Heap.get?_push_of_some _ e))
 have nf:s.heap.objs.size∉[h₁.objs.size,l]:=by
  simp only[List.mem_cons,List.not_mem_nil,or_false,not_or]
  exact⟨Nat.ne_of_lt sz,Nat.ne_of_gt lS⟩
 refine wpAny_pure ⟨plainId_quiet V4 _,aT4 (A:=A.in1) (ps:=ps) (S:=s.heap.objs.size) (hn ▸ (Walks.list (by simpa using hh) _ l (Nat.ne_of_lt (Nat.lt_trans lS sz)) its).toS) nf T (fun j hj=>?_) hi hb ps.length 0 _ 0 (by grind) (Nat.zero_le _) ⟨⟨_,Heap.get?_push_size _ rfl,rfl,rfl⟩,(hl1.push _)⟩ (fun j p e=>?_) ?_ fun s' mv dd=>?_⟩
 ·have hj':=hT j hj
  simp only[List.mem_cons,List.not_mem_nil,or_false,not_or]
  exact⟨Nat.ne_of_lt hj',Nat.ne_of_lt (Nat.lt_trans hj' sz)⟩
 ·obtain⟨t,o,ho,r⟩:=ht j p e
  exact⟨t,o,keep _ _ ho,r⟩
 ·obtain⟨o,es,ep,ho,r⟩:=hnew
  exact⟨o,es,ep,Heap.get?_push_of_some _ (kp _ _ ho),r⟩
 ·obtain⟨h',g',d',tk',os'⟩:=s'
  have eg:g'=s.gens:=mv.gens
  have ed:d'=s.drawn:=mv.drawn
  have eo:os'=s.os:=mv.os
  subst eg ed eo
  refine⟨rfl,h h' tk' dd fun b o hb e=>mv.heap b o ?_ (keep b o e)⟩
  simp only[List.mem_cons,List.not_mem_nil,or_false,not_or]
  exact⟨Nat.ne_of_lt hb,Nat.ne_of_lt (Nat.lt_trans hb sz)⟩
end
noncomputable def V6(x:Str) (kv:D×D):Bool:=match kv.1 with
 | .str y=>y==x
 | _=>false
noncomputable def K8(kvs:List (D×D)) (x:Str):Option D:=(kvs.find? (V6 x)).map (·.2)
noncomputable def ag6(kvs:List (D×D)) (x:Str) (d:D):List (D×D):=if kvs.any (V6 x) then kvs.map (fun kv=>if V6 x kv then(kv.1,d) else kv) else kvs++[(.str x,d)]
noncomputable def mgD(ps:List (Str×D)):List (D×D):=ps.foldl (fun a p=>ag6 a p.1 p.2) []
noncomputable def bC4:D->Option (Str×D)
 | .tuple [.str x,d]=>some (x,d)
 | _=>none
noncomputable def aC3:List D->Option (List (Str×D))
 | []=>some []
 | d::r=>(bC4 d).bind fun p=>(aC3 r).map fun q=>p::q
section
variable {K:PySem.W.Frag}{H:Hp}
theorem bu9(x y:Str):decide ((Sum.inr y:Key)=Sum.inr x)=(y==x):=by rw[bf3];rfl
theorem RepKs.look:∀{kvs:List (D×D)}{m:List (Key×V)}(x:Str),RepKs K H kvs m->(K8 kvs x=none/\Z7 m (.inr x)=none)\/∃d v,K8 kvs x=some d/\Z7 m (.inr x)=some v/\Rep K H d v
 | [],_,x,h=>by cases h;exact .inl ⟨rfl,rfl⟩
 | (k,d)::r,_,x,⟨y,v,t,h1,h2,h3,h4⟩=>by
  subst h1 h2
  by_cases e:y=x
  ·subst e
   exact .inr ⟨d,v,by simp[K8,V6],by rw[l9 rfl],h3⟩
  ·have e1:K8 ((.str y,d)::r) x=K8 r x:=by simp[K8,V6,e]
   have e2:Z7 ((Sum.inr y,v)::t) (Sum.inr x)=Z7 t (.inr x):=m5 (by intro z;exact e (Sum.inr.inj z))
   rw[e1,e2]
   exact RepKs.look x h4
theorem RepKs.any(x:Str):∀{kvs:List (D×D)}{m:List (Key×V)},RepKs K H kvs m->kvs.any (V6 x)=m.any fun kv=>decide (kv.1=Sum.inr x)
 | [],_,h=>by cases h;rfl
 | (k,d)::r,_,⟨y,v,t,h1,h2,h3,h4⟩=>by
  subst h1 h2
  rw[List.any_cons,List.any_cons,RepKs.any x h4,bu9];rfl
theorem RepKs.snoc(q:Rep K H d v):∀{kvs:List (D×D)}{m:List (Key×V)},RepKs K H kvs m->RepKs K H (kvs++[(.str x,d)]) (m++[(.inr x,v)])
 | [],_,h=>by cases h;exact⟨x,v,[],rfl,rfl,q,rfl⟩
 | (k,_)::r,_,⟨y,w,t,h1,h2,h3,h4⟩=>by subst h2;exact⟨y,w,_,h1,rfl,h3,RepKs.snoc q h4⟩
theorem RepKs.repl(q:Rep K H d v):∀{kvs:List (D×D)}{m:List (Key×V)},RepKs K H kvs m->RepKs K H (kvs.map fun kv=>if V6 x kv then(kv.1,d) else kv) (m.map fun kv=>if kv.1=Sum.inr x then(kv.1,v) else kv)
 | [],_,h=>by cases h;rfl
 | (k,e)::r,_,⟨y,w,t,h1,h2,h3,h4⟩=>by
  subst h1 h2
  rw[List.map_cons,List.map_cons]
  by_cases e:y=x
  ·subst e
   rw[if_pos (show V6 y (.str y,_)=true by simp[V6]),if_pos rfl]
   exact⟨y,v,_,rfl,rfl,q,RepKs.repl q h4⟩
  ·rw[if_neg (show ¬V6 x (.str y,_)=true by simp[V6,e]),if_neg (by intro z;exact e (Sum.inr.inj z))]
   exact⟨y,w,_,rfl,rfl,h3,RepKs.repl q h4⟩
theorem RepKs.put(q:Rep K H d v) (h:RepKs K H kvs m):RepKs K H (ag6 kvs x d) (U6 m (.inr x) v):=by
 unfold ag6 U6
 rw[h.any x]
 split
 ·exact h.repl q
 ·exact h.snoc q
noncomputable abbrev mgV(a:List (Str×V)):List (Key×V):=a.foldl (fun acc p=>U6 acc (.inr p.1) p.2) []
theorem j7:∀{ps:List (Str×D)}{a:List (Str×V)}{kvs:List (D×D)}{m:List (Key×V)},Paired (fun(p:Str×D) (q:Str×V)=>p.1=q.1/\Rep K H p.2 q.2) ps a->RepKs K H kvs m->RepKs K H (ps.foldl (fun a p=>ag6 a p.1 p.2) kvs) (a.foldl (fun acc p=>U6 acc (.inr p.1) p.2) m)
 | _,_,_,_,.nil,h=>h
 | _,_,_,_,.cons ⟨e,r⟩ t,h=>by
  rw[List.foldl_cons,List.foldl_cons]
  refine j7 t ?_
  rw[← e]
  exact h.put r
theorem aK9:∀{a:List (Str×V)}{b:List (Str×Value)}{k1:List (Key×V)}{k2:List (Key×Value)},Paired (fun(p:Str×V) (q:Str×Value)=>p.1=q.1/\C1 p.2 q.2) a b->KV k1 k2->KV (a.foldl (fun acc p=>U6 acc (.inr p.1) p.2) k1) (b.foldl (fun acc p=>stored acc (.inr p.1) p.2) k2)
 | _,_,_,_,.nil,h=>h
 | _,_,_,_,.cons ⟨e,r⟩ t,h=>by
  rw[List.foldl_cons,List.foldl_cons]
  refine aK9 t ?_
  rw[← e]
  exact h.put _ r
theorem aK7:∀(a:List (Str×V)) (m:List (Key×V)),(a.foldl (fun acc p=>U6 acc (Sum.inr p.1) p.2) m).length<=m.length+a.length
 | [],m=>Nat.le_refl _
 | p::r,m=>by
  have h1:=aK7 r (U6 m (.inr p.1) p.2)
  have h2:=V5 m (Sum.inr p.1:Key) p.2
  rw[List.foldl_cons,List.length_cons]
  grind
end
section
variable {X:Cx}
theorem bA7:bootBuiltins "dict" = some (.type "dict"):=by decide +kernel
noncomputable def PrV(K:PySem.W.Frag) (H:Hp):List V->List (Str×V)->Prop:=Paired fun v p=>∃b,v=.ref b/\SqT K H b [.str p.1,p.2]
theorem PrV.length{K:PySem.W.Frag}{H:Hp}{vs:List V}{a:List (Str×V)}(h:PrV K H vs a):vs.length=a.length:=Paired.length h
theorem ba6{K:PySem.W.Frag}{H:Hp}:∀{ds:List D}{vs:List V}{ps:List (Str×D)},aC3 ds=some ps->Reps K H ds vs->∃a,PrV K H vs a/\Paired (fun(p:Str×D) (q:Str×V)=>p.1=q.1/\Rep K H p.2 q.2) ps a
 | [],_,_,e,h=>by cases e;cases h;exact⟨[],.nil,.nil⟩
 | d::ds,_,_,e,⟨v,r,h1,h2,h3⟩=>by
  subst h1
  obtain⟨p,e1,e⟩:=xbm e
  obtain⟨q,e2,e⟩:=Option.map_eq_some_iff.mp e
  subst e
  obtain⟨a,q1,q2⟩:=ba6 e2 h3
  unfold bC4 at e1
  split at e1
  ·cases e1
   obtain⟨b,us,z1,z2,z3⟩:=h2
   obtain⟨u1,r1,y1,y2,y3⟩:=z3
   obtain⟨u2,r2,x1,x2,x3⟩:=y3
   cases y2;cases x3;subst x1 y1
   exact⟨(_,u2)::a,.cons ⟨b,z1,z2⟩ q1,.cons ⟨rfl,x2⟩ q2⟩
  ·cases e1
theorem av0(I:Inv X pins σ H s):∀{vs:List V}{a:List (Str×V)}{us:List Value},PrV X.K H vs a->C5 vs us ->
  ∃(T:List Addr) (b:List (Str×Value)),us=T.map Value.ref/\b.length=us.length/\Paired (fun(p:Str×V) (q:Str×Value)=>p.1=q.1/\C1 p.2 q.2) a b/\∀(j:Nat) (p:Str×Value),b[j]? = some p->∃t,IsTup s.heap (T.getD j 0) #[.str p.1 t,p.2]
 | _,_,_,.nil,.nil=>⟨[],[],rfl,rfl,.nil,fun j p e=>by simp at e⟩
 | _,_,_,.cons (b:=p) ⟨b,e,h⟩ t,.cons r rs=>by
  subst e;cases r
  obtain⟨T,c,e1,e2,e3,e4⟩:=av0 I t rs
  obtain⟨its,rv,tp,_⟩:=I.tuple h
  cases rv with
  | cons r1 rv =>
   cases rv with
   | cons r2 rv =>
    cases rv
    rename_i u2
    obtain⟨t1,rfl⟩:=r1
    refine⟨b::T,(p.1,u2)::c,by rw[e1];rfl,by simp[e2],.cons ⟨rfl,r2⟩ e3,fun j q e=>?_⟩
    cases j with
    | zero=>simp at e;subst e;exact⟨t1,tp⟩
    | succ j=>exact e4 j q (by simpa using e)
theorem aE5:O0 X (.type "dict") (fun xs H Q=>X.calm=true/\∃p vs a,xs=[.ref p]/\SqL X.K H p vs/\PrV X.K H vs a/\vs.length<=1000/\∀l,H l=none->Q (.ref l) (upd H l (.dK (mgV a)))):=by
 intro pins s σ H xs us Q I r h
 obtain⟨hc,p,vs,a,rfl,hs,hp,hz,q⟩:=h
 obtain⟨u,rfl,rx⟩:=Q5 r
 cases rx
 obtain⟨its,rv,pl,_⟩:=I.list hs
 obtain⟨T,b,e1,e2,e3,e4⟩:=av0 I hp rv
 have ln:b.length=vs.length:=by rw[e2,rv.length]
 refine aj7 (ps:=b) (I.ok.hd hc) pl (fun j=>T.getD j 0) (by simp[e2]) (fun i u hu=>?_) e4 (by grind) fun h' tk dd kp=>?_
 ·subst e1
  simp only[List.getElem?_toArray,List.getElem?_map,Option.map_eq_some_iff]at hu
  obtain⟨t,ht,rfl⟩:=hu
  simp[List.getD,ht]
 ·have hn:=I.hok.fresh (Nat.le_refl s.heap.objs.size)
  have z:(mgV a).length<=sizeLine:=by
   have h1:=aK7 a []
   have h2:=hp.length
   have:(1000:Nat) < sizeLine:=by decide
   simp only[List.length_nil]at h1
   show(List.foldl (fun acc p=>U6 acc (Sum.inr p.1) p.2) [] a).length<=sizeLine
   grind
  exact⟨.ref s.heap.objs.size,_,I.laid (a:=s.heap.objs.size) (o:=.dK (mgV a)) (h':=h') (t':=tk) (fun b u e=>kp b u (Heap.lt_size e) e) (Nat.le_refl _) (ai1 z (beq_eq_false_iff_ne.mpr (Ne.symm (Nat.ne_of_lt I.big))) (aK9 e3 .nil) dd),rfl,q _ hn⟩
noncomputable def bE4(f:Rho->Option (Bool×List D)):DE:=fun ρ=>(f ρ).bind fun q=>if q.1=false/\q.2.length<=1000 then(aC3 q.2).map fun ps=>.dict (mgD ps) else none
theorem bx8(hc:X.calm=true) (hg:Gl X "dict") (hm:X.mg "dict" = none) (h:JQ X e f) (he:starEach [e] X.env=[(false,eval e X.env)]:=by rfl) :
  JE X (.Call (.Name "dict" p) [e] [] pos) (bE4 f):=fun ρ d q=>by
 obtain⟨⟨t,ds⟩,h1,h2⟩:=xbm q
 simp only at h2
 split at h2
 ·rename_i c
  obtain⟨rfl,c2⟩:=c
  obtain⟨ps,e1,e2⟩:=Option.map_eq_some_iff.mp h2
  subst e2
  refine A7 (Q6 aE5 hg hm bA7 (B2 (h ρ false ds h1) C6 he) (he:=he)) fun σ H Q ⟨H0,Hf,s,sl,k⟩=>?_
  refine⟨H0,Hf,s,sl,fun v H1 Hf1 g1 ⟨a,vs,z1,z2,z3⟩=>?_⟩
  obtain⟨m,m1,m2⟩:=ba6 e1 z3
  refine⟨hc,a,vs,m,by rw[z1],z2,Paired.mapP m1 (fun _ _ z=>let⟨b,y1,y2⟩:=z;⟨b,y1,B7 g1.sub y2⟩),by rw[z3.length];exact c2,fun l hl=>?_⟩
  have hs:=C3 (o:=.dK (mgV m)) (g1.sub.free hl)
  refine k _ _ _ (g1.trans (Grow.laid g1.sub hl)) ⟨l,_,rfl,A5,(j7 (Paired.mapP m2 fun _ _ z=>⟨z.1,z.2.mono hs⟩) (show RepKs X.K _ [] [] from rfl))⟩
 ·cases h2
noncomputable def ch1(f g:DE):DE:=fun ρ=>(f ρ).bind fun d=>(g ρ).bind fun k=>match d,k with
 | .dict kvs,.str x=>K8 kvs x
 | _,_=>none
theorem bS4(hu:X.A.units+64 < cLine) (ha:JE X a f) (hb:JE X b g) (hs:z7 b:=by intro _ _;rfl):JE X (.Subscript a b pos) (ch1 f g):=fun ρ d q=>by
 obtain⟨x,e1,q⟩:=xbm q
 obtain⟨y,e2,q⟩:=xbm q
 split at q
 ·rename_i kvs x _
  refine A7 (aJ3 (by omega) (ha ρ _ e1) (hb ρ _ e2) hs) fun σ H Q ⟨H0,Hf,s,sl,k⟩=>?_
  refine⟨H0,Hf,s,sl,fun v H1 Hf1 g1 ⟨p,m,z1,z2,z3⟩=>⟨H0,Hf1,g1.sub,sl.grow g1,fun u H2 Hf2 g2 r2=>?_⟩⟩
  subst z1;cases r2
  rcases(z3.mono g2.ext).look x with⟨l1,_⟩|⟨d',w,l1,l2,l3⟩
  ·rw[l1]at q;cases q
  ·rw[l1]at q;cases q
   refine⟨p,w,rfl,?_,k w H2 Hf2 (g1.trans g2) l3⟩
   have:=Z3.k (k:=Sum.inr x) (g2.sub _ _ (g2.ext _ _ z2))
   rw[l2]at this
   exact this
 ·cases q
noncomputable def inK(neg:Bool) (x y:D):Option D:=match x,y with
 | .str x,.dict kvs=>some (.bool (if neg then !(K8 kvs x).isSome else(K8 kvs x).isSome))
 | _,_=>none
theorem bN5(hu:X.A.units+64 < cLine):OpD X (compareOp .In) (inK false):=fun x y z h=>by
 unfold inK at h
 split at h
 ·rename_i x kvs
  cases h
  intro pins s σ H vx vy v u Q I rx ry ⟨Hf,ss,r1,r2,k⟩
  cases r1
  obtain⟨p,m,z1,z2,z3⟩:=r2
  subst z1;cases ry
  refine cg6 (by omega) I (Z3.k (k:=Sum.inr x) (ss _ _ z2)) rx fun s' I'=>⟨.bl _,H,I',rfl,k _ H Hf (Grow.refl ss) ?_⟩
  rcases z3.look x with⟨l1,l2⟩|⟨d',w,l1,l2,l3⟩<;>rw[l1,l2]<;>rfl
 ·cases h
theorem aQ8(hu:X.A.units+64 < cLine):OpD X (compareOp .NotIn) (inK true):=fun x y z h=>by
 unfold inK at h
 split at h
 ·rename_i x kvs
  cases h
  intro pins s σ H vx vy v u Q I rx ry ⟨Hf,ss,r1,r2,k⟩
  cases r1
  obtain⟨p,m,z1,z2,z3⟩:=r2
  subst z1;cases ry
  refine aM0 (by omega) I (Z3.k (k:=Sum.inr x) (ss _ _ z2)) rx fun s' I'=>⟨.bl _,H,I',rfl,k _ H Hf (Grow.refl ss) ?_⟩
  rcases z3.look x with⟨l1,l2⟩|⟨d',w,l1,l2,l3⟩<;>rw[l1,l2]<;>rfl
 ·cases h
noncomputable def bE3(f g h:DE):DE:=fun ρ=>(f ρ).bind fun d=>(g ρ).bind fun k=>(h ρ).bind fun e=>match d,k with
 | .dict kvs,.str x=>some ((K8 kvs x).getD e)
 | _,_=>none
theorem bx6(hu:X.A.units+64 < cLine) (ho:JE X o f) (he:JE X e g) (hf:JE X e2 h) (m:M2 X o "get" apos e e2 cpos):JE X (.Call (.Attribute o "get" apos) [e,e2] [] cpos) (bE3 f g h):=fun ρ d q=>by
 obtain⟨x,e1,q⟩:=xbm q
 obtain⟨y,e2,q⟩:=xbm q
 obtain⟨z,e3,q⟩:=xbm q
 split at q
 ·cases q
  refine A7 (bc2 (by omega) (ho ρ _ e1) (he ρ _ e2) (hf ρ _ e3) m) fun σ H Q ⟨H0,Hf,s,sl,k⟩=>?_
  refine⟨H0,Hf,s,sl,fun v H1 Hf1 g1 ⟨p,m,z1,z2,z3⟩=>⟨p,z1,.inl ⟨m,.inl (g1.sub _ _ z2)⟩,H0,Hf1,g1.sub,sl.grow g1,fun u H2 Hf2 g2 r2=>⟨H0,Hf2,g2.sub,sl.grow (g1.trans g2),fun u3 H3 Hf3 g3 r3=>?_⟩⟩⟩
  cases r2
  refine⟨_,Z3.k (k:=Sum.inr _) (g3.sub _ _ (g3.ext _ _ (g2.ext _ _ z2))),k _ H3 Hf3 ((g1.trans g2).trans g3) ?_⟩
  rcases(z3.mono (g2.trans g3).ext).look _ with⟨l1,l2⟩|⟨d',w,l1,l2,l3⟩
  ·rw[l1,l2];exact r3
  ·rw[l1,l2];exact l3
 ·cases q
theorem ac1{K:PySem.W.Frag}{H:Hp}:∀(ps:List (Str×Int)),Paired (fun(p:Str×D) (q:Str×V)=>p.1=q.1/\Rep K H p.2 q.2) (ps.map fun p=>(p.1,.int p.2)) (ps.map fun p=>(p.1,V.int p.2))
 | []=>.nil
 | p::r=>.cons ⟨rfl,rfl⟩ (ac1 r)
noncomputable def ca6:Expr->Option Str
 | .Constant (.str x) _ _=>some x
 | _=>none
noncomputable def cf2:Expr->Option Int
 | .Constant (.int i) _ _=>some i
 | _=>none
theorem bp3(h:ca6 e=some x):∃p q,e=.Constant (.str x) p q:=by
 cases e with
 | Constant c p q =>
  cases c with
  | str y=>cases h;exact⟨p,q,rfl⟩
  | _=>cases h
 | _=>cases h
theorem by2(h:cf2 e=some i):∃p q,e=.Constant (.int i) p q:=by
 cases e with
 | Constant c p q =>
  cases c with
  | int y=>cases h;exact⟨p,q,rfl⟩
  | _=>cases h
 | _=>cases h
noncomputable def ay5:List (Option Expr)->List Expr->Option (List (Str×Int))
 | [],[]=>some []
 | k::ks,v::vs=>k.bind fun k=>(ca6 k).bind fun x=>(cf2 v).bind fun i=>(ay5 ks vs).map fun r=>(x,i)::r
 | [],_::_=>none
 | _::_,[]=>none
theorem av1:∀{ks:List (Option Expr)}{vs:List Expr}{ps:List (Str×Int)},ay5 ks vs=some ps->PPs X pos ks vs (ps.map fun p=>((fun σ H Q=>Q (.str p.1) H:TE),(fun σ H Q=>Q (.int p.2) H:TE)))/\ks.length=ps.length/\vs.length=ps.length/\ks.all (·.isSome)=true
 | [],[],ps,h=>by cases h;exact⟨br5,rfl,rfl,rfl⟩
 | [],_::_,ps,h=>by cases h
 | _::_,[],ps,h=>by cases h
 | k::ks,v::vs,ps,h=>by
  rw[ay5]at h
  obtain⟨k',e0,h1⟩:=xbm h
  obtain⟨x,e1,h2⟩:=xbm h1
  obtain⟨i,e2,h3⟩:=xbm h2
  obtain⟨r,e3,e4⟩:=Option.map_eq_some_iff.mp h3
  subst e0
  obtain⟨p1,p2,rfl⟩:=bp3 e1
  obtain⟨p3,p4,rfl⟩:=by2 e2
  subst e4
  obtain⟨q1,q2,q3,q4⟩:=av1 (pos:=pos) e3
  exact⟨ba7 bb5 bb9 q1,by simp[q2],by simp[q3],by simpa using q4⟩
theorem ab8:∀{ps:List (Str×Int)}{Q:List (V×V)->Hp->Prop},Q (ps.map fun p=>(.str p.1,.int p.2)) H->an4 (ps.map fun p=>((fun σ H Q=>Q (.str p.1) H:TE),(fun σ H Q=>Q (.int p.2) H:TE))) σ H Q
 | [],Q,h=>h
 | p::r,Q,h=>ab8 (ps:=r) (Q:=fun ps H3=>Q ((.str p.1,.int p.2)::ps) H3) h
theorem bx7(h:ay5 ks vs=some ps) (h0:ps≠[]) (h15:ps.length<=15):JE X (.Dict ks vs pos) (dC (.dict (mgD (ps.map fun p=>(p.1,.int p.2))))):=fun ρ d q=>by
 cases q
 obtain⟨q1,q2,q3,q4⟩:=av1 (X:=X) (pos:=pos) h
 refine A7 (bs6 q1 q4 (q2.trans q3.symm) (by intro z;rw[z]at q2;exact h0 (List.length_eq_zero_iff.mp q2.symm)) (by grind)) fun σ H Q ⟨H0,Hf,s,sl,k⟩ p hp=>ab8 ?_
 refine⟨A5,ps.map fun p=>(Sum.inr p.1,.int p.2),by rw[List.map_map];rfl,by simpa using h15,?_⟩
 rw[bo1]
 refine k _ _ (upd Hf p _) (Grow.laid s hp) ⟨p,_,rfl,A5,?_⟩
 have e:j9 [] (ps.map fun p=>((Sum.inr p.1:Key),V.int p.2))=mgV (ps.map fun p=>(p.1,V.int p.2)):=by
  unfold j9 mgV
  rw[List.foldl_map,List.foldl_map]
 rw[e]
 exact j7 (ac1 ps) (show RepKs X.K _ [] [] from rfl)
end
end G
namespace G
open PySem PySem.Spec PyProof.Rows L2
section
variable {X:Cx}
noncomputable def bW8:List D->Option Bool
 | []=>some false
 | .bool b::r=>(bW8 r).map fun c=>b || c
 | _::_=>none
theorem az7:∀{ds:List D}{c:Bool},bW8 ds=some c->∃bs:List Bool,ds=bs.map PyData.bool/\c=bs.any id
 | [],c,h=>by cases h;exact⟨[],rfl,rfl⟩
 | .bool b::r,c,h=>by
  obtain⟨c',h1,h2⟩:=Option.map_eq_some_iff.mp h
  obtain⟨bs,h3,h4⟩:=az7 h1
  exact⟨b::bs,by simp[h3],by simp[← h2,h4]⟩
theorem aV4:O0 X (.builtin "any") (fun xs H Q=>X.calm=true/\∃(p:Addr) (bs:List Bool),xs=[.ref p]/\SqL X.K H p (bs.map V.bl)/\Q (.bl (bs.any id)) H):=by
 intro pins s σ H xs us Q I r h
 obtain⟨hc,p,bs,rfl,hq,q⟩:=h
 obtain⟨u,rfl,rx⟩:=Q5 r
 cases rx
 obtain⟨its,rv,pl,hz⟩:=I.list hq
 have hlen:=rv.length
 have hh:X.A.in1.handled=none:=I.ok.hd hc
 have hlt:p < s.heap.objs.size:=by obtain⟨_,e,_⟩:=pl.isList;exact Heap.lt_size e
 refine call_any_walk (wpAny_pyIter_list pl.isList ?_)
 refine⟨s.heap.objs.size,_,_,_,_,_,fun i=>(bs[i]?).getD false,rfl,Walks.list hh _ p (Nat.ne_of_lt hlt) its.toArray,⟨⟨_,Heap.get?_push_size _ rfl,rfl,rfl⟩,pl.isList.at fun o e=>Heap.get?_push_of_some _ e⟩,?_,?_⟩
 ·intro i v s' Q' E' hv hQ
  have hv':its[i]? = some v:=by simpa using hv
  have:∃b,bs[i]? = some b:=by
   have:i < its.length:=(List.getElem?_eq_some_iff.mp hv').1
   have:i < bs.length:=by simpa using (by grind:i < (bs.map V.bl).length)
   exact⟨bs[i],by simp[this]⟩
  obtain⟨b,hb⟩:=this
  obtain⟨u,hu,ru⟩:=rv.get (i:=i) (x:=.bl b) (by simp[hb])
  rw[hv']at hu;cases hu
  cases ru
  exact wpAny_truthy_bool (by simpa [hb] using hQ)
 ·intro h' tk hk
  have e:((List.range its.toArray.size).any fun i=>(bs[i]?).getD false)=bs.any id:=by
   have hn:its.toArray.size=bs.length:=by simpa using hlen.symm
   rw[hn,Bool.eq_iff_iff]
   simp only[List.any_eq_true,List.mem_range,id]
   constructor
   ·rintro⟨i,hi,h⟩
    exact⟨bs[i],List.getElem_mem hi,by simpa [hi] using h⟩
   ·rintro⟨x,hx,h⟩
    obtain⟨i,hi,rfl⟩:=List.mem_iff_getElem.mp hx
    exact⟨i,hi,by simpa [hi] using h⟩
  rw[e]
  have I1:Inv X pins σ H { s with heap:=h',toks:=tk }:=by
   have I0:Inv X pins σ H { s with heap:=s.heap.push { cls:=.type "list_iterator", data:=.fields #[.ref p,rawInt 0] } }:=I.kept (t':=s.toks) fun b o e=>Heap.get?_push_of_some _ e
   refine I.kept (t':=tk) fun b o e=>hk b o ?_ (Heap.get?_push_of_some _ e)
   intro hb
   have:b=s.heap.objs.size:=by simpa using hb
   subst this
   exact absurd (Heap.lt_size e) (Nat.lt_irrefl _)
  exact⟨.bl (bs.any id),H,I1,rfl,q⟩
noncomputable def ch2(f:Rho->Option (Bool×List D)):DE:=fun ρ=>(f ρ).bind fun q=>if q.1=true then none else(bW8 q.2).map PyData.bool
theorem bS9(hg:Gl X "any") (hm:X.mg "any" = none) (h:JQ X e f) (hc:X.calm=true:=by rfl) (he:starEach [e] X.env=[(false,eval e X.env)]:=by rfl):JE X (.Call (.Name "any" p) [e] [] pos) (ch2 f):=fun ρ d q=>by
 obtain⟨⟨t,ds⟩,h1,h2⟩:=xbm q
 cases t with
 | true=>simp at h2
 | false =>
  simp only[Bool.false_eq_true,if_false]at h2
  obtain⟨c,h3,h4⟩:=Option.map_eq_some_iff.mp h2
  subst h4
  obtain⟨bs,h5,h6⟩:=az7 h3
  subst h5 h6
  refine A7 (M4 aV4 hg hm boot_any (B2 (h ρ false _ h1) C6 he) (he:=he)) fun σ H Q ⟨H0,Hf,s,sl,k⟩=>?_
  refine⟨H0,Hf,s,sl,fun v H1 Hf1 g1 ⟨a,vs,e1,e2,e3⟩=>⟨hc,a,bs,by rw[e1],?_,k _ H1 Hf1 g1 rfl⟩⟩
  rw[j6 e3]at e2
  exact e2
end
end G
namespace G
open PySem PySem.Spec PyProof.Rows L2 PySem.SeqAt PySem.MeetsSeq PySem.MeetsSeq2 PySem.MeetsSeq3 PySem.SeqRoads2
open PySem.AutoSeq1 (wpAny_loadPart')
end G
namespace G
open PySem PySem.Spec PyProof.Rows L2
section
variable {X:Cx}{pins:List (Addr×Obj)}{σ:L2.St}{H H':Hp}{s s':Shared}{g B:Heap}
end
section
variable {P:Program}{w:World}{K:PySem.W.Frag}{mg:Str->Option Value}{base:Heap}{N:List Str}{qual:Str}{scope:Scope}{f:Addr}{cd:Value}{A:Around}{outer:List Env}{s:Shared}{H H1:Hp}{E:XK}
 {pins:List (Addr×Obj)}{σ:L2.St}{s1 s':Shared}{h2:Heap}{a C:Addr}{vs:List Value}
end
end G
namespace G
open PySem PySem.Spec PyProof.Rows L2
section
variable {X:Cx}{m:Bool}(hx:∀e s,X.xe e s->False)
include hx
end
end G
namespace G
open PySem PySem.Spec PyProof.Rows L2
section
variable {M:Model}{A:Around}{E:Value->Shared->Prop}{h:Heap}{g:Array GenState}{d:Drawn}{t:Nat}{os:OsState}
variable {nm qn nm2 qn2:Str}{C N D N2:Addr}{bs bm bs2 bm2:List Value}{hd hd2:Bool}{sn sn2:List Str}{sub sub2:List Value}{ab ab2:Bool}{col col2:Option Bool}{dd dd2:Option Addr}{k0 k1 k2 k3 k5 j0 j1 j2 j3 j5:Option Value}{nid nid2:String}
end
section
variable {X:Cx}{pins:List (Addr×Obj)}{σ:L2.St}{H:Hp}{s:Shared}
end
section
variable {X:Cx}{pins:List (Addr×Obj)}{σ:L2.St}{H:Hp}{s:Shared}{a:Addr}{oe:Obj}
noncomputable abbrev fz(oe:Obj) (a:Addr):HO:=.frz oe (.own a)
end
end G
namespace G
open PySem PySem.Spec PyProof.Rows L2
section
variable {X:Cx}
end
end G
namespace G
open PySem PySem.Spec PyProof.Rows L2
section
variable {prog:Program}{w:World}{A:Around}{E:Value->Shared->Prop}{h:Heap}{g:Array GenState}{d:Drawn}{t:Nat}{os:OsState}{a C:Addr}{o:Obj}{K:PySem.W.Frag}
end
section
variable {X:Cx}
end
end G
namespace G
open PySem PySem.Spec PyProof.Rows L2
section
variable {X:Cx}
end
end G
namespace G
open PySem PySem.Spec PyProof.Rows L2
section
variable {X:Cx}
end
end G
namespace G
open PySem PySem.Spec PyProof.Rows L2
section
variable {X:Cx}
end
section
variable {X:Cx}
end
end G
namespace G
open PySem PySem.Spec PyProof.Rows L2
section
variable {X:Cx}
end
end G
namespace G
open PySem PySem.Spec PySem.W PyProof.Rows L2 PySem.SeqAt
noncomputable def e1(x:List Int):D:=.tuple (x.map .int)
noncomputable def e2(k:List (List Int)):D:=.tuple (k.map e1)
theorem Y0{h:Heap}{v:Value}{ds:List D}{as:List Addr}(r:Reads h v (.tuple ds) as):∃a o vs n,v=.ref a/\h.get? a=some o/\o.cls=.type "tuple" /\ o.data=.seq vs n/\ReadsAll h vs.toList ds as:=by
 cases r with
 | tuple k1 k2 k3 k4=>exact⟨_,_,_,_,rfl,k1,k2,k3,k4⟩
section
variable {P:Program}{w:World}{A:Around}{E:Value->Shared->Prop}{s:Shared}
theorem aI6{h:Heap}:∀{x:List Int}{vs:List Value}{as:List Addr},ReadsAll h vs (x.map .int) as->ItemsAre (intKind P w) x vs
 | [],_,_,r=>by cases r;exact .nil
 | i::x,_,_,r=>by
  cases r with
  | cons r1 r2=>cases r1;exact .cons (by simp[intKind,Value.isInt]) (aI6 r2)
theorem bJ7{h:Heap}{x:List Int}{v:Value}{as:List Addr}(r:Reads h v (e1 x) as):∃b,v=.ref b/\(tupleKind (intKind P w)).is h x b:=by
 obtain⟨a,o,vs,n,e,h1,h2,h3,h4⟩:=Y0 r
 exact⟨a,e,o,vs,n,h1,h2,h3,aI6 h4⟩
noncomputable def hs2(P:Program) (w:World) (k:List (List Int)):Int:=reduceHash (Builtin.Tuple.tupleHashOf (k.map (tupleKeyHash (intKind P w))))
noncomputable def dr2:List (List Int)->Nat
 | []=>0
 | x::k=>x.length+1+dr2 k
theorem bi3{Q:Array Int->Shared->Prop}(hu:A.units < cLine):∀(k:List (List Int)) (vs:List Value) (as:List Addr) (b:Array Int) (s:Shared),ReadsAll s.heap vs (k.map e1) as ->
  (∀b',b'.toList=b.toList++k.map (tupleKeyHash (intKind P w))->Q b' { s with toks:=s.toks+dr2 k }) ->
  wpAny (model P w) A (forIn vs b fun x r=>do let h ← pyHash x;pure PUnit.unit;pure (ForInStep.yield (r.push h))) Q E s
 | [],_,_,b,s,r,h=>by cases r;exact wpAny_pure (h b (by simp))
 | x::k,_,_,b,s,r,h=>by
  cases r with
  | cons r1 r2 =>
   obtain⟨c,rfl,q⟩:=bJ7 (P:=P) (w:=w) r1
   rw[List.forIn_cons]
   refine wpAny_bind (wpAny_bind (wpAny_pyHash_tuple hu q ?_))
   refine wpAny_bind (wpAny_pure (wpAny_pure ?_))
   refine bi3 hu k _ _ _ _ r2 fun b' e=>?_
   have:=h b' (by simp[e])
   simpa [dr2,Nat.add_assoc] using this
theorem cf8{k:List (List Int)}{a:Addr}{as:List Addr}{Q:Int->Shared->Prop}(hu:A.units+2 < cLine) (r:Reads s.heap (.ref a) (e2 k) as) (h:Q (hs2 P w k) { s with toks:=s.toks+(dr2 k+1) }):wpAny (model P w) A (pyHash (.ref a)) Q E s:=by
 obtain⟨a',o,vs,n,e,h1,h2,h3,h4⟩:=Y0 r
 cases e
 refine pyHash_slot (T := "tuple") ⟨o,h1,h2⟩ F.slot_tuple_hash F.entry_tuple_hash (F.args_tuple_hash_1 _) (beq_builtin_none _) (.inr (by omega)) ?_
 show wpAny _ _ (Builtin.Tuple.tupleItemsOf (.ref a) >>= _) _ _ s
 refine wpAny_bind (wpAny_tupleItemsOf h1 h3 (wpAny_bind ?_))
 rw[← Array.forIn_toList]
 refine bi3 (by simp only[Around.in1_units];omega) k _ _ _ _ h4 fun b e=>?_
 show wpAny _ _ (retInt (Builtin.Tuple.tupleHashOf b.toList)) _ _ _
 rw[e,List.nil_append]
 exact wpAny_bind (wpAny_mkInt (wpAny_pure ⟨_,_,rfl,h⟩))
theorem ba0{n:Nat}{a:Addr}{o:Obj}{vs:Array Value}{m:Nat}{Q:Bool->Shared->Prop}(h1:s.heap.get? a=some o) (h2:o.cls=.type "tuple") (h3:o.data=.seq vs m)
  (hv:∀v∈vs.toList,∀{A:Around}{E:Value->Shared->Prop}{Q:Bool->Shared->Prop},Q true s->wpAny (model P w) A (eqIsQuiet n v) Q E s) (h:Q true s):wpAny (model P w) A (eqIsQuiet (n+1) (.ref a)) Q E s:=by
 have hT:s.TypeIs (.ref a) "tuple" := ⟨o,h1,h2⟩
 unfold eqIsQuiet
 refine wpAny_bind (wpAny_specialOf hT F.slot_tuple_eq.lookup ?_)
 show wpAny _ _ (isInstance (.ref a) (.type "tuple") >>= _) _ _ s
 refine wpAny_bind (wpAny_isInstance hT isSubtype_tuple_tuple ?_)
 simp only[Bool.not_true,Bool.false_eq_true,if_false]
 refine wpAny_bind (wpAny_seqItems h1 h3 (wpAny_bind ?_))
 show wpAny _ _ (forIn vs _ _) _ _ s
 rw[← Array.forIn_toList]
 refine wpAny_forIn_list _ (fun M6 r s'=>r.1=none/\s'=s/\∀v∈M6,v∈vs.toList) _ ?_ ?_ _ _ ⟨rfl,rfl,fun _ q=>q⟩
 ·rintro v M6 r s' ⟨hr,rfl,q⟩
  refine wpAny_bind (hv v (q v (.head _)) ?_)
  simp only[Bool.not_true,Bool.false_eq_true,if_false]
  exact wpAny_pure ⟨rfl,rfl,fun u z=>q u (.tail _ z)⟩
 ·rintro⟨r1,r2⟩ s' ⟨hr,rfl,_⟩
  cases hr
  exact wpAny_pure h
theorem aB9{h:Heap}:∀{ds:List D}{vs:List Value}{as:List Addr},ReadsAll h vs ds as->∀v∈vs,∃d∈ds,∃bs,Reads h v d bs
 | _,_,_,.nil,v,q=>nomatch q
 | _,_,_,.cons r1 r2,v,q=>by
  rcases List.mem_cons.mp q with rfl|q
  ·exact⟨_,.head _,_,r1⟩
  ·obtain⟨d,m,bs,r⟩:=aB9 r2 v q
   exact⟨d,.tail _ m,bs,r⟩
theorem bJ9{k:List (List Int)}{a:Addr}{as:List Addr}{Q:Bool->Shared->Prop}(r:Reads s.heap (.ref a) (e2 k) as) (h:Q true s):wpAny (model P w) A (eqIsQuiet 8 (.ref a)) Q E s:=by
 obtain⟨a',o,vs,n,e,h1,h2,h3,h4⟩:=Y0 r
 cases e
 refine ba0 h1 h2 h3 (fun v hv A E Q q=>?_) h
 obtain⟨d,hd,bs,r'⟩:=aB9 h4 v hv
 obtain⟨x,_,rfl⟩:=List.mem_map.mp hd
 obtain⟨b,o',us,m,rfl,g1,g2,g3,g4⟩:=Y0 r'
 refine ba0 g1 g2 g3 (fun u hu A E Q q=>?_) q
 obtain⟨d',hd',bs',r''⟩:=aB9 g4 u hu
 obtain⟨i,_,rfl⟩:=List.mem_map.mp hd'
 cases r''
 rw[eqIsQuiet_byValue _ rfl]
 exact wpAny_pure q
theorem ab9{h:Heap}:∀{x y:List Int}{vs:List Value}{as bs:List Addr},ReadsAll h vs (x.map .int) as->ReadsAll h vs (y.map .int) bs->x=y
 | [],[],_,_,_,_,_=>rfl
 | [],_::_,_,_,_,r,q=>by cases r;cases q
 | _::_,[],_,_,_,r,q=>by cases q;cases r
 | i::x,j::y,_,_,_,r,q=>by
  cases r with
  | cons r1 r2 =>
   cases q with
   | cons q1 q2=>cases r1;cases q1;rw[ab9 r2 q2]
theorem aP6{h:Heap}{x y:List Int}{v:Value}{as bs:List Addr}(r:Reads h v (e1 x) as) (q:Reads h v (e1 y) bs):x=y:=by
 obtain⟨a,o,vs,n,e,h1,h2,h3,h4⟩:=Y0 r
 obtain⟨a',o',vs',n',e',g1,g2,g3,g4⟩:=Y0 q
 cases e.symm.trans e';cases h1.symm.trans g1;cases h3.symm.trans g3
 exact ab9 h4 g4
theorem ag5{h:Heap}:∀{x y:List (List Int)}{vs:List Value}{as bs:List Addr},ReadsAll h vs (x.map e1) as->ReadsAll h vs (y.map e1) bs->x=y
 | [],[],_,_,_,_,_=>rfl
 | [],_::_,_,_,_,r,q=>by cases r;cases q
 | _::_,[],_,_,_,r,q=>by cases q;cases r
 | i::x,j::y,_,_,_,r,q=>by
  cases r with
  | cons r1 r2 =>
   cases q with
   | cons q1 q2=>rw[aP6 r1 q1,ag5 r2 q2]
theorem aP5{h:Heap}{x y:List (List Int)}{v:Value}{as bs:List Addr}(r:Reads h v (e2 x) as) (q:Reads h v (e2 y) bs):x=y:=by
 obtain⟨a,o,vs,n,e,h1,h2,h3,h4⟩:=Y0 r
 obtain⟨a',o',vs',n',e',g1,g2,g3,g4⟩:=Y0 q
 cases e.symm.trans e';cases h1.symm.trans g1;cases h3.symm.trans g3
 exact ag5 h4 g4
theorem aZ9{h h':Heap}{f:α->D}(hf:∀x v as,Reads h v (f x) as->Reads h' v (f x) as):∀{x:List α}{vs:List Value}{as:List Addr},ReadsAll h vs (x.map f) as->ReadsAll h' vs (x.map f) as
 | [],_,_,r=>by cases r;exact .nil
 | i::x,_,_,r=>by
  cases r with
  | cons r1 r2=>exact .cons (hf _ _ _ r1) (aZ9 hf r2)
theorem aI5{h h':Heap}{f:α->D}{d:Addr}{o:Obj}{es:Array DictEntry}{ep:Nat}(ho:h.get? d=some o) (hd:o.data=.dict es ep) (hs:Heap.SameBut d h h') (hf:∀x v as,Reads h v (f x) as->Reads h' v (f x) as)
  {x:List α}{v:Value}{as:List Addr}(r:Reads h v (.tuple (x.map f)) as):Reads h' v (.tuple (x.map f)) as:=by
 obtain⟨a,o',vs,n,rfl,h1,h2,h3,h4⟩:=Y0 r
 have ne:a≠d:=by rintro rfl;cases ho.symm.trans h1;rw[hd]at h3;cases h3
 exact .tuple ((hs.2 a ne).trans h1) h2 h3 (aZ9 hf h4)
theorem ax8:∀x y:List Int,PyData.eqvAll (x.map .int) (y.map .int)=decide (x=y)
 | [],[]=>by rfl
 | [],_::_=>by rfl
 | _::_,[]=>by rfl
 | i::x,j::y=>by simp only[List.map_cons,PyData.eqvAll,ax8 x y,PyData.eqv];by_cases h:i=j<;>by_cases g:x=y<;>simp[h,g]
theorem bU1(x y:List Int):PyData.eqv (e1 x) (e1 y)=decide (x=y):=by simp only[e1,PyData.eqv];exact ax8 x y
theorem aL6:∀x y:List (List Int),PyData.eqvAll (x.map e1) (y.map e1)=decide (x=y)
 | [],[]=>by rfl
 | [],_::_=>by rfl
 | _::_,[]=>by rfl
 | i::x,j::y=>by simp only[List.map_cons,PyData.eqvAll,aL6 x y,bU1];by_cases h:i=j<;>by_cases g:x=y<;>simp[h,g]
theorem bU0(x y:List (List Int)):PyData.eqv (e2 x) (e2 y)=decide (x=y):=by simp only[e2,PyData.eqv];exact aL6 x y
theorem u6:∀x:List Int,PyData.canLayAll0 (x.map .int)=true/\PyData.depthAll (x.map .int)<=1
 | []=>⟨rfl,by simp[PyData.depthAll]⟩
 | i::x=>⟨by simp[PyData.canLayAll0,PyData.canLay0,(u6 x).1],by have:=(u6 x).2;simp only[List.map_cons,PyData.depthAll,PyData.depth];omega⟩
theorem af1:∀x:List (List Int),PyData.canLayAll0 (x.map e1)=true/\PyData.depthAll (x.map e1)<=2
 | []=>⟨rfl,by simp[PyData.depthAll]⟩
 | i::x=>⟨by simp[PyData.canLayAll0,e1,PyData.canLay0,(u6 i).1];exact(af1 x).1,by have:=(af1 x).2;have:=(u6 i).2;simp only[List.map_cons,PyData.depthAll,PyData.depth,e1]at *;omega⟩
theorem aC8(x:List (List Int)):(e2 x).canLay0=true/\(e2 x).depth<=3:=⟨by simp[e2,PyData.canLay0];exact(af1 x).1,by have:=(af1 x).2;simp only[e2,PyData.depth];omega⟩
end
noncomputable def k2(P:Program) (w:World):HeapKind P w (List (List Int)) where
 is h k a:=∃as,Reads h (.ref a) (e2 k) as
 hash:=hs2 P w
 draws k:=dr2 k+1
 room A:=A.units+9 < cLine
 inj:=fun⟨_,r⟩ ⟨_,q⟩=>aP5 r q
 keeps:=fun⟨_,r⟩ ho hd hs=>⟨_,aI5 ho hd hs (fun x v as r=>aI5 ho hd hs (fun i v as r=>by cases r;exact .int _ _) r) r⟩
 pyHash:=fun hu ⟨_,r⟩ h=>cf8 (by omega) r h
 eqBool:=fun{A E s x y a b Q} hu ⟨_,r⟩ ⟨_,q⟩ h=>eqAt_reads (e2 x) (e2 y) A s _ _ _ _ r q (aC8 x).1 (aC8 y).1 (by have:=(aC8 x).2;have:=Nat.min_le_left (e2 x).depth (e2 y).depth;omega) _ _ _ _ (by rw[bU0];exact h)
 quiet:=fun⟨_,r⟩ h=>bJ9 r h
end G
namespace G
open PySem PySem.Spec PySem.W PyProof.Rows L2 PySem.SeqAt
section
variable {prog:Program}{w:World}{A:Around}{E:Value->Shared->Prop}{s:Shared}
end
end G
namespace G
open PySem PySem.Spec PySem.W PyProof.Rows L2 PySem.SeqAt
section
variable {X:Cx}{pins:List (Addr×Obj)}{σ:L2.St}{A:Around}{S it d:Addr}{ws:List (Addr×Int)}{es:Array DictEntry}{ep:Nat}{od:Obj}
end
end G
namespace G
theorem xg0{α:Type}{a:α}{l:List α}:(a::l)[0]? = some a:=rfl
theorem xg1{α:Type}{a:α}{i:Nat}{l:List α}:(a::l)[i+1]? = l[i]?:=rfl
theorem xw0{α:Type}{a b:α}{l:List α}:(a::l).set 0 b=b::l:=rfl
theorem xw1{α:Type}{a b:α}{i:Nat}{l:List α}:(a::l).set (i+1) b=a::l.set i b:=rfl
theorem xbs{α β:Type}{a:α}{f:α->Option β}:(some a).bind f=f a:=rfl
theorem xms{α β:Type}{a:α}{f:α->β}:(some a).map f=some (f a):=rfl
theorem xca{α:Type}{a:α}{l m:List α}:(a::l)++m=a::(l++m):=rfl
theorem xna{α:Type}{l:List α}:[]++l=l:=rfl
theorem xmc{α β:Type}{f:α->β}{a:α}{l:List α}:(a::l).map f=f a::l.map f:=rfl
theorem xmn{α β:Type}{f:α->β}:[].map f=[]:=rfl
theorem xnf:(!false)=true:=rfl
theorem xnt:(!true)=false:=rfl
theorem xft:(false=true)=False:=by simp
end G
local macro_rules
  | `(‹$x›) => `(some (G.B.val $x))
local macro_rules
  | `(⇑$x) => `(G.dC (PySem.PyData.int $x))
noncomputable section
namespace Sh
open PySem PySem.Spec PyProof.Rows L2 G
def ab5:DS:=(M7 (X9 (tB2 neD (A4 1) ⇑0) (M7 (R6 2 (B4 W0 (A4 0) (A4 1))) (M7 (R6 0 (A4 1)) (R6 1 (A4 2))))) (L3 (A4 0)))
def S3:List D->Option D:=T0 ab5 3
def U1:DS:=(M7 (R6 2 (B1 S3 (A0 (A4 0) (A0 (A4 1) A9)))) (L3 (W4 (A0 (B4 x5 (A4 0) (A4 2)) (A0 (B4 x5 (A4 1) (A4 2)) A9)))))
def R4:List D->Option D:=T0 U1 3
def U2:DS:=(L3 (B4 leI (B4 T1 (dIx (C9 0) ⇑0) (dIx (C9 1) ⇑1)) (B4 T1 (dIx (C9 1) ⇑0) (dIx (C9 0) ⇑1))))
def Z2:List D->Option D:=T0 U2 2
def af6:DS:=(L3 (B1 R4 (A0 (B4 Y8 (B4 T1 (dIx (C9 0) ⇑0) (dIx (C9 1) ⇑1)) (B4 T1 (dIx (C9 1) ⇑0) (dIx (C9 0) ⇑1))) (A0 (B4 T1 (dIx (C9 0) ⇑1) (dIx (C9 1) ⇑1)) A9))))
def S8:List D->Option D:=T0 af6 2
def Z1:DS:=(L3 (B1 R4 (A0 (B4 aX9 (B4 T1 (dIx (C9 0) ⇑0) (dIx (C9 1) ⇑1)) (B4 T1 (dIx (C9 1) ⇑0) (dIx (C9 0) ⇑1))) (A0 (B4 T1 (dIx (C9 0) ⇑1) (dIx (C9 1) ⇑1)) A9))))
def V0:List D->Option D:=T0 Z1 2
def af5:DS:=(L3 (B1 R4 (A0 (B4 T1 (dIx (C9 0) ⇑0) (dIx (C9 1) ⇑0)) (A0 (B4 T1 (dIx (C9 0) ⇑1) (dIx (C9 1) ⇑1)) A9))))
def U3:List D->Option D:=T0 af5 2
def g9:DS:=(L3 (B1 V0 (A0 (dC (.tuple [(.int 1),(.int 1)])) (A0 (A4 0) A9))))
def X6:List D->Option D:=T0 g9 1
def S6:DS:=(L3 (ay8 (aO6 (B1 Z2 (A0 (A4 0) (A0 (dC (.tuple [(.int 1),(.int 1)])) A9)))) (A4 0) (dC (.tuple [(.int 1),(.int 1)]))))
def S7:List D->Option D:=T0 S6 1
def K5:DS:=(M7 (sIf (tB2 eqD (A4 0) (dC (.str "plus"))) (L3 (B1 S7 (A0 (B1 S8 (A0 (A4 1) (A0 (A4 2) A9))) A9))) j4) (M7 (sIf (tB2 eqD (A4 0) (dC (.str "atop"))) (L3 (A4 2)) j4) (M7 (sIf (tB2 eqD (A4 0) (dC (.str "cut"))) (L3 (B1 U3 (A0 (A4 2) (A0 (B1 X6 (A0 (A4 1) A9)) A9)))) j4) (L3 (B1 V0 (A0 (B1 S8 (A0 (A4 1) (A0 (A4 2) A9))) (A0 (B1 U3 (A0 (A4 1) (A0 (A4 2) A9))) A9)))))))
def T9:List D->Option D:=T0 K5 3
def J4:DS:=(M7 (sIf (tB2 eqD (A4 0) (dC (.str "plus"))) (L3 (B1 S7 (A0 (B1 S8 (A0 (A4 3) (A0 (A4 4) A9))) A9))) j4) (M7 (sIf (tB2 eqD (A4 0) (dC (.str "screen"))) (L3 (B1 V0 (A0 (B1 S8 (A0 (A4 3) (A0 (A4 4) A9))) (A0 (B1 U3 (A0 (A4 3) (A0 (A4 4) A9))) A9)))) j4) (M7 (R6 5 (B1 U3 (A0 (A4 4) (A0 (B1 X6 (A0 (A4 1) A9)) A9)))) (M7 (sIf (tB2 eqD (A4 0) (dC (.str "over"))) (L3 (B1 S8 (A0 (A4 3) (A0 (A4 5) A9)))) j4) (M7 (sIf (tB2 eqD (A4 0) (dC (.str "multiply"))) (L3 (B1 S8 (A0 (B1 S8 (A0 (B1 U3 (A0 (A4 3) (A0 (A4 4) A9))) (A0 (B1 U3 (A0 (A4 3) (A0 (B1 X6 (A0 (A4 2) A9)) A9))) A9))) (A0 (A4 5) A9)))) j4) (M7 (sIf (tB2 eqD (A4 0) (dC (.str "atop"))) (L3 (B1 S8 (A0 (B1 U3 (A0 (A4 3) (A0 (A4 2) A9))) (A0 (A4 5) A9)))) j4) (L3 (A4 5))))))))
def S4:List D->Option D:=T0 J4 6
def an3:DS:=(M7 (R6 3 (dIx (C9 1) ⇑0)) (M7 (R6 4 (dIx (C9 2) ⇑0)) (M7 (r8 5 (P9 2 [0,3,4] (ah9 (qE (ar9 (A4 1) (ac3 ⇑1) ac4)) (qE (ar9 (A4 2) (ac3 ⇑1) ac4))) (V7 2 (M8 (S1 0) (M8 (S1 1) Z5))) T3 (B1 S4 (A0 (A4 2) (A0 (A4 3) (A0 (A4 4) (A0 (A4 0) (A0 (A4 1) A9)))))))) (L3 (W4 (A0 (B1 T9 (A0 (A4 0) (A0 (A4 3) (A0 (A4 4) A9)))) (A0 (dIx (C9 5) ⇑0) (A0 (dIx (C9 5) ⇑1) (A0 (dIx (C9 5) ⇑2) A9)))))))))
def X8:List D->Option D:=T0 an3 6
def aj0:DS:=(M7 (sIf (tB2 eqD (A4 0) (as0 A9)) (L3 (B4 T1 ⇑7 (A4 1))) j4) (L3 (B4 Y8 (dIx (C9 0) (B4 W0 (A4 1) (aE1 (C9 0)))) (B4 T1 ⇑6553 (B4 x5 (A4 1) (aE1 (C9 0)))))))
def aj1:List D->Option D:=T0 aj0 2
def an2:DS:=(M7 (R6 3 (B4 W0 (B4 Y8 (B4 T1 (B4 W0 (B1 aj1 (A0 (A4 0) (A0 (A4 1) A9))) ⇑2147483563) ⇑69069) (B4 T1 ⇑104723 (B4 Y8 (A4 1) ⇑1))) ⇑2147483563)) (M7 (R6 3 (B4 W0 (B4 Y8 (B4 T1 (A4 3) (A4 3)) (B4 x5 (A4 3) ⇑3)) ⇑2147483399)) (L3 (B4 W0 (B4 x5 (B4 W0 (B4 Y8 (B4 T1 (A4 3) (A4 3)) (B4 x5 (A4 3) ⇑7)) ⇑2147483647) ⇑11) (A4 2)))))
def J5:List D->Option D:=T0 an2 4
def z8:DS:=(M7 (R6 2 (A4 0)) (M7 (R6 3 (A4 1)) (M7 (X9 (tB2 gtI (A4 2) ⇑0) (aZ4 2 3 (A0 (B4 W0 (A4 3) (A4 2)) (A0 (A4 2) A9)))) (L3 (W4 (A0 (B4 x5 (A4 0) (A4 3)) (A0 (B4 x5 (A4 1) (A4 3)) A9)))))))
def z9:List D->Option D:=T0 z8 4
def am9:DS:=(L3 (B1 z9 (A0 (B4 T1 (dIx (C9 0) ⇑0) (dIx (C9 1) ⇑0)) (A0 (B4 T1 (dIx (C9 0) ⇑1) (dIx (C9 1) ⇑1)) A9))))
def ab7:List D->Option D:=T0 am9 2
def an0:DS:=(M7 (R6 2 (B4 Y8 ⇑1 (B1 J5 (A0 (A4 0) (A0 (A4 1) (A0 ⇑12 A9)))))) (M7 (R6 3 (B1 z9 (A0 (B1 J5 (A0 (A4 0) (A0 (B4 Y8 (A4 1) ⇑1) (A0 (B4 Y8 (A4 2) ⇑1) A9)))) (A0 (A4 2) A9)))) (L3 (dIx (qN (A0 (A4 3) (A0 (A4 3) (A0 (A4 3) (A0 (W4 (A0 ⇑0 (A0 ⇑1 A9))) (A0 (W4 (A0 ⇑1 (A0 ⇑1 A9))) A9)))))) (B1 J5 (A0 (A4 0) (A0 (B4 Y8 (A4 1) ⇑2) (A0 ⇑5 A9))))))))
def h9:List D->Option D:=T0 an0 4
def az9:DS:=(M7 (R6 2 (B1 h9 (A0 (A4 0) (A0 (A4 1) A9)))) (L3 (B4 Y8 (W4 (A0 (A4 2) A9)) (ad6 (qN (P9 1 [2,0,1] (d6 ⇑3) (S1 0) T3 (B1 ab7 (A0 (A4 1) (A0 (B1 h9 (A0 (A4 2) (A0 (B4 Y8 (B4 Y8 (A4 3) ⇑3) (B4 T1 ⇑3 (A4 0))) A9))) A9)))))))))
def X7:List D->Option D:=T0 az9 3
end Sh
namespace Sh
open PySem PySem.Spec PyProof.Rows L2 G
end Sh
namespace Sh
open PySem PySem.Spec PyProof.Rows L2 G
def i9:DS:=(L3 (W4 (A0 (A4 0) (A0 (A4 1) (A0 (B4 R7 (W4 (A0 (A4 2) A9)) (B4 R7 (A4 0) (A4 1))) A9)))))
def W6:List D->Option D:=T0 i9 3
def X5:DS:=(M7 (r8 3 (P9 2 [0] (ah9 (qE (dIx (C9 1) ⇑2)) (qE (dIx (C9 2) ⇑2))) (V7 2 (M8 (S1 0) (M8 (S1 1) Z5))) T3 (B1 X8 (A0 (A4 2) (A0 (A4 0) (A0 (A4 1) A9)))))) (L3 (W4 (A0 (dIx (C9 1) ⇑0) (A0 (dIx (C9 1) ⇑1) (A0 (ad6 (C9 3)) A9))))))
def B5:List D->Option D:=T0 X5 4
def ab4:DS:=(M7 (r8 4 (P9 1 [0,1] (d6 (B4 R7 (A4 2) (A4 3))) (S1 0) T3 (B1 X7 (A0 (A4 1) (A0 (B4 y6 (A4 2) (B4 R7 ⇑12 (A4 0))) A9))))) (M7 (sIf (tB2 eqD (B1 J5 (A0 (A4 0) (A0 (B4 y6 (A4 1) ⇑7) (A0 ⇑3 A9)))) ⇑0) (R6 4 (B4 R7 (bk7 (A4 4) ac4 (ac3 ⇑1)) (B4 R7 (A4 2) (A4 3)))) j4) (L3 (W4 (A0 (A4 2) (A0 (A4 3) (A0 (ad6 (C9 4)) A9)))))))
def Q7:List D->Option D:=T0 ab4 5
end Sh
namespace Sh
open PySem PySem.Spec PyProof.Rows L2 G
end Sh
namespace Sh
open PySem PySem.Spec PyProof.Rows L2 G
end Sh
namespace G
open PySem PySem.Spec PyProof.Rows L2
abbrev FnD:=List D->Option D
structure Sg where
 fn:List (Str×FnD×Nat)
 cs:List (Str×D)
 bl:List Str
structure Kx where
 N:List Str
 sc:Scope
 df:Bool
 own:List Nat
 cpt:List Nat
 tx:List Nat
 dx:List Nat
 old:Bool
 fz:List (Nat×List Nat)
 hc:List ((Nat×Nat)×List Nat)
def biS(K:PySem.W.Frag) (n:Nat) (F:List D->Option D):List V->Hp->VK->Prop:=fun vs H Q=>vs.length=n/\∃Hf ds d,B6 Hf H/\Reps K Hf ds vs/\F ds=some d/\∀v H' Hf',Grow H Hf H' Hf'->Rep K Hf' d v->Q v H'
def bX7(x:Str) (F:FnD) (n:Nat):Prop:=0 < n/\x ≠ "__name__" /\ ∃nm,bootBuiltins x=some (.builtin nm)/\∀X:Cx,X.A.units+64 < cLine->O0 X (.builtin nm) (biS X.K n F)
theorem bD1(hb:bX7 x F n) (hu:X.A.units+64 < cLine) (hg:Gl X x) (hm:X.mg x=none) (ha:JA X (e::es) g) (hn:(e::es).length=n) (hdb:(x==("__debug__" : Str))=false)
  (he:starEach (e::es) X.env=(false,eval e X.env)::starEach es X.env) (hpl:(backTo pos (starEach es X.env)).any (·.1)=false):JE X (.Call (.Name x p) (e::es) [] pos) (B1 F g):=fun ρ d q=>by
 obtain⟨ds,h1,h2⟩:=Option.bind_eq_some_iff.mp q
 obtain⟨_,hnn,nm,hv,hc⟩:=hb
 refine A7 (M4 (hc X hu) hg hm hv (ha.run ρ ds h1) hnn hdb he hpl) fun σ H Q ⟨H0,Hf,s,sl,kk⟩=>?_
 exact⟨H0,Hf,s,sl,fun vs H1 Hf1 g1 r1=>⟨by rw[r1.length,ha.len ρ ds h1,hn],Hf1,ds,d,g1.sub,r1,h2,fun v H2 Hf2 g2 r2=>kk v H2 Hf2 (g1.trans g2) r2⟩⟩
def cn6(X:Cx) (x:Str) (F:FnD) (n:Nat):Prop:=(∃(k:Nat) (f:Addr) (fd:FuncData) (ps:List Str),FnOk X.prog X.w X.K X.mg X.base CX0 k f fd ps (spF X.K n F)/\Room k X.A/\X.mg x=some (.ref f)/\PySem.W.keepIn X.K (.ref f)=true/\O9 X.K fd ps [])\/(X.mg x=none/\bX7 x F n)
structure Fit (S:Sg) (c:Kx) (X:Cx):Prop where
 N:X.N=c.N
 sc:X.env.scope=c.sc
 nd:c.N.Nodup
 calm:X.calm=true
 xe:X.xe=fun _ _=>False
 units:X.A.units+64 < cLine
 df:c.df=true->(∀x,X.fn x=true)/\c.sc.kind=.function
 fns:∀x F n,S.fn.lookup x=some (F,n)->cn6 X x F n
 css:∀x d,S.cs.lookup x=some d->∃u,aF8 X.K d u/\X.mg x=some u
 bls:∀x,S.bl.contains x=true->X.mg x=none
def pl:Expr->Bool
 | .Starred ..=>false
 | .Slice ..=>false
 | .Set ..=>false
 | _=>true
def ap9:Expr->Bool
 | .Call ..=>false
 | _=>true
def isC:Expr->Bool
 | .ListComp ..=>true
 | .SetComp ..=>true
 | .DictComp ..=>true
 | _=>false
def plT:Expr->Bool
 | .UnaryOp ..=>false
 | .BoolOp ..=>false
 | .IfExp ..=>false
 | .Compare ..=>false
 | _=>true
def W3(x:Str):List Str->Option Nat
 | []=>none
 | y::r=>if y==x then some 0 else(W3 x r).map (·+1)
theorem ax3:∀{l:List Str}{i:Nat},W3 x l=some i->l[i]? = some x
 | [],i,h=>by cases h
 | y::r,i,h=>by
  unfold W3 at h
  split at h
  ·rename_i e
   cases h
   simp only[beq_iff_eq]at e
   subst e;rfl
  ·obtain⟨j,h1,h2⟩:=Option.map_eq_some_iff.mp h
   subst h2
   simpa using ax3 h1
def aa4:List Str->Bool
 | []=>true
 | x::r=>!(r.contains x)&&aa4 r
theorem aa3:∀{l:List Str},aa4 l=true->l.Nodup
 | [],_=>List.nodup_nil
 | x::r,h=>by
  unfold aa4 at h
  simp only[Bool.and_eq_true,Bool.not_eq_true']at h
  refine List.nodup_cons.mpr ⟨fun z=>?_,aa3 h.2⟩
  have:=h.1
  rw[List.contains_iff_mem.mpr z]at this
  cases this
def aj3(sc:Scope) (x:Str):Bool:=(match sc.names.lookup x with|some .local=>true|some .cell=>true|some .free=>true|_=>false) && !(x==("__debug__" : Str)) && !(x==("__classdict__" : Str))
def aR6(c:Kx) (x:Str):Bool:=(match c.sc.names.lookup x with|some .local=>true|some .cell=>c.df|_=>false)
def ar0(sc:Scope) (x:Str):Bool:=(match sc.names.lookup x with|some .globalImplicit=>true|_=>false) && !(x==("__debug__" : Str))
def biB(S:Sg) (c:Kx) (w x:Str):Bool:=x==w&&S.bl.contains w&&ar0 c.sc w
section
variable {X:Cx}{S:Sg}{c:Kx}
theorem V2(F:Fit S c X) (h:aj3 c.sc x=true):Vis X.env.scope x/\(x==("__debug__" : Str))=false/\(x==("__classdict__" : Str))=false:=by
 unfold aj3 at h
 simp only[Bool.and_eq_true,Bool.not_eq_true']at h
 obtain⟨⟨h1,h2⟩,h3⟩:=h
 refine⟨?_,h2,h3⟩
 rw[F.sc]
 unfold Vis
 split at h1
 ·rename_i e;exact .inl e
 ·rename_i e;exact .inr (.inl e)
 ·rename_i e;exact .inr (.inr e)
 ·cases h1
theorem aq1(F:Fit S c X) (h:aR6 c x=true):L2.Loc X.env.scope x/\(X.fn x=true\/X.env.scope.names.lookup x=some .local):=by
 unfold aR6 at h
 rw[F.sc]
 unfold L2.Loc
 split at h
 ·rename_i e;exact⟨.inl e,.inr e⟩
 ·rename_i e;exact⟨.inr e,.inl ((F.df h).1 x)⟩
 ·cases h
theorem u9(F:Fit S c X) (h:ar0 c.sc x=true):Gl X x/\(x==("__debug__" : Str))=false:=by
 unfold ar0 at h
 simp only[Bool.and_eq_true,Bool.not_eq_true']at h
 refine⟨?_,h.2⟩
 unfold Gl Env.kindOf
 rw[F.sc]
 have h1:=h.1
 split at h1
 ·rename_i e;exact e
 ·cases h1
theorem K7(F:Fit S c X) (h:biB S c w x=true):x=w/\Gl X w/\X.mg w=none:=by
 unfold biB at h
 simp only[Bool.and_eq_true,beq_iff_eq]at h
 exact⟨h.1.1,(u9 F h.2).1,F.bls _ h.1.2⟩
theorem C4(h:pl e=true) (es:List Expr) (env:Env):starEach (e::es) env=(false,eval e env)::starEach es env:=by
 cases e<;>first|rfl|cases h
theorem ba9(h:pl e=true):z7 e:=by
 intro o i
 cases e<;>first|rfl|cases h
theorem ae7(h:pl e=true) (op:CmpOp):behindInMarks op e=false:=by
 cases e<;>first|rfl|cases h
theorem ao6(h:pl e=true) (env:Env) (x:Value):foldedSetIterable e env x=pure x:=by
 cases e<;>first|rfl|cases h
theorem c7(h:ap9 o=true) (attr:Str) (env:Env) (t:Sem Value):attributeBase o attr env t=t:=by
 cases o<;>first|rfl|cases h
theorem X1(h:isC e=false) (t:Option Expr) (l:Nat) (env:Env):swapsWith e t l env=pure false:=by
 cases e<;>first|rfl|cases h
theorem bb0(h:plT e=true) (env:Env) (whole:Sem Value):isTrue e env whole=(do let v ← whole;standAt e.pos;holding [v] (truthy v)):=by
 cases e<;>first|rfl|cases h
end
end G
namespace G
open PySem PySem.Spec PyProof.Rows L2
abbrev DA:=Rho->Option (List D)
abbrev DQ:=Rho->Option (Bool×List D)
abbrev DT:=Rho->Option Bool
abbrev DG:=D->Rho->Option Rho
def dNo:DE:=fun _=>none
def aNo:DA:=fun _=>none
def qNo:DQ:=fun _=>none
def tNo:DT:=fun _=>none
def gNo:DG:=fun _ _=>none
structure Ev where
 e:Kx->Expr->DE
 q:Kx->Expr->DQ
 n:Kx->Expr->DA
 t:Kx->Expr->DT
 g:Kx->Expr->DG
 b:Kx->List Stmt->DS
def az2:CmpOp->D->D->Option D
 | .Lt=>ltI | .LtE=>leI | .Gt=>gtI | .GtE=>geI | .Eq=>eqD | .NotEq=>neD | .Is=>isB | .IsNot=>aj6 | .In=>inD false | .NotIn=>inD true
def evA(f:Expr->DE):List Expr->DA
 | []=>A9
 | e::es=>if pl e then A0 (f e) (evA f es) else aNo
def bj7(f:Expr->DE) (op:BoolOp):List Expr->DE
 | []=>dNo
 | [a]=>f a
 | a::b::r=>match op with
  | .And=>bz8 (f a) (bj7 f op (b::r))
  | .Or=>dOr (f a) (bj7 f op (b::r))
def bj6(f:Expr->DT) (op:BoolOp):List Expr->DT
 | []=>tNo
 | [a]=>f a
 | a::b::r=>match op with
  | .And=>aX4 (f a) (bj6 f op (b::r))
  | .Or=>bI2 (f a) (bj6 f op (b::r))
def evO(f:Expr->DE):Option Expr->Rho->Option (Option Int)
 | none=>ac4
 | some e=>ac3 (f e)
def bz2(f:Expr->DG):List Expr->List D->Rho->Option Rho
 | []=>Z5
 | e::es=>M8 (f e) (bz2 f es)
def bj4(f:Expr->DT):List Expr->DT
 | []=>T3
 | [t]=>f t
 | _=>tNo
def T5:Expr->List Str
 | .Name x _=>[x]
 | .Tuple es _ _=>es.filterMap fun | .Name x _=>some x|_=>none
 | _=>[]
def rl(scope sc:Scope):Scope:={ scope with names:=scope.names.map fun(n,k)=>if(k == .free&&sc.kind == .function&&sc.names.lookup n==some .cell) then(n,.cell) else(n,k) }
def aD5(n:Nat) (caps l:List Nat):List Nat:=(List.range caps.length).filterMap fun i=>match caps[i]? with|some j=>if l.contains j then some (n+i) else none|none=>none
def ca7(c:Kx) (j:Nat):Str:=(c.N[j]?).getD ""
def inner(c:Kx) (tn:List Str) (caps:List Nat) (scope:Scope):Kx :=
 { N:=tn++caps.map (ca7 c),sc:=rl scope c.sc,df:=false,own:=aD5 tn.length caps c.own,cpt:=[],tx:=aD5 tn.length caps c.tx,dx:=aD5 tn.length caps c.dx,old:=c.old,fz:=[],hc:=c.hc }
def isList:Expr->Bool
 | .List ..=>true
 | .ListComp ..=>true
 | _=>false
def Y7(c:Kx) (l:List Nat):Expr->Bool
 | .Name x _=>(match W3 x c.N with|some i=>l.contains i|none=>false)
 | _=>false
def bT5:Expr->Bool
 | .Constant (.str _) _ _=>true
 | _=>false
def bZ4(S:Sg) (c:Kx):Expr->Bool
 | .Constant (.str _) _ _=>true
 | .Name x _=>(match W3 x c.N with|some _=>false|none=>(match S.cs.lookup x with|some (.str _)=>true|_=>false))
 | _=>false
def opW(S:Sg) (c:Kx) (op:CmpOp) (b:Expr):D->D->Option D:=if bZ4 S c b then(match op with
 | .In=>inS false
 | .NotIn=>inS true
 | _=>az2 op) else if Y7 c c.dx b then(match op with
 | .In=>inK false
 | .NotIn=>inK true
 | _=>az2 op) else az2 op
def ad0:Expr->Bool
 | .Tuple ..=>true
 | _=>false
def bH6(x:Str):Option String:=if x == "int" then some "int" else if x == "bool" then some "bool" else if x == "str" then some "str" else if x == "tuple" then some "tuple" else if x == "list" then some "list" else none
section
variable (S:Sg) (r:Ev)
def evR(c:Kx) (tg:Expr) (a:Expr):DA:=match a with
 | .Call f as kw _=>(match f,as,kw with
  | .Name y _,[e],[]=>(match e with
   | .Call f2 as2 kw2 _=>(match f2,as2,kw2 with
    | .Name z _,[b],[]=>if biB S c "list" y&&biB S c "enumerate" z&&ad0 tg&&pl b then cf4 (qE (r.e c b)) else fun _=>none
    | _,_,_=>fun _=>none)
   | _=>fun _=>none)
  | _,_,_=>fun _=>none)
 | _=>fun _=>none
def evI(c:Kx) (tg it:Expr):DA:=match it with
 | .Call (.Name x _) [a] [] _=>if biB S c "reversed" x then evR S r c tg a else if biB S c "range" x&&pl a then d6 (r.e c a) else if biB S c "enumerate" x&&ad0 tg&&pl a then bD3 (qE (r.e c a)) else aD4 (r.e c it)
 | .Call (.Name x _) [a,b] [] _=>if biB S c "range" x&&pl a&&pl b then bD2 (r.e c a) (r.e c b) else if biB S c "zip" x&&ad0 tg&&pl a&&pl b then ah9 (qE (r.e c a)) (qE (r.e c b)) else aD4 (r.e c it)
 | _=>if Y7 c c.tx it then cf3 (r.e c it) else aD4 (r.e c it)
def evC(c:Kx) (ex:Expr):DA:=match ex with
 | .ListComp elt [⟨tgt,iter,ifs,0⟩] scope pos =>
  let tn:=T5 tgt
  let caps:=(c.hc.lookup (pos.line,pos.col)).getD []
  let c':=inner c tn caps scope
  if af4 c.N c'.N tn.length caps c.sc scope&&aa4 c'.N&&pl iter then P9 tn.length caps (evI S r c tgt iter) (r.g c' tgt) (bj4 (r.t c') ifs) (r.e c' elt) else aNo
 | _=>aNo
def aA5(c:Kx) (x:Str) (a:Expr):DE :=
 if !(pl a) then dNo
 else if biB S c "len" x then(match a with
  | .Call (.Name y _) [e] [] _=>if biB S c "set" y&&pl e then aM1 (r.q c e) else aE1 (r.q c a)
  | _=>if Y7 c c.tx a then bE1 (r.e c a) else aE1 (r.q c a))
 else if biB S c "tuple" x then ad6 (r.q c a)
 else if biB S c "all" x then bV3 (r.q c a)
 else if biB S c "any" x then ch2 (r.q c a)
 else if biB S c "dict" x then bE4 (r.q c a)
 else if biB S c "int" x then bV2 (r.e c a)
 else if biB S c "str" x then cg7 (r.e c a)
 else if biB S c "abs" x then ch3 (r.e c a)
 else if biB S c "min" x then bD7 (r.q c a)
 else if biB S c "max" x then bD9 (r.q c a)
 else dNo
def aA4(c:Kx) (x:Str) (a b:Expr):DE :=
 if !(pl a) then dNo
 else if biB S c "isinstance" x then(match b with
  | .Name y _=>(match bH6 y with
   | some T=>if biB S c y y then bV1 T (r.e c a) else dNo
   | none=>dNo)
  | _=>dNo)
 else if !(pl b) then dNo
 else if biB S c "min" x then bD8 (r.e c a) (r.e c b)
 else if biB S c "max" x then bE0 (r.e c a) (r.e c b)
 else dNo
def aW1(c:Kx) (x:Str) (args:List Expr) (ex:Expr):DE:=match S.fn.lookup x with
 | some (F,n)=>if ar0 c.sc x&&args.length==n&&args.all pl then B1 F (evA (r.e c) args) else dNo
 | none=>match args with
  | [a]=>if biB S c "list" x then as0 (r.n c ex) else aA5 S r c x a
  | [a,b]=>aA4 S r c x a b
  | _=>dNo
def bJ1:Expr->Option (Option Expr×Option Expr×Option Expr)
 | .Slice lo hi st _=>some (lo,hi,st)
 | _=>none
def unE:Expr->Option (UnaryOp×Expr)
 | .UnaryOp o a _=>some (o,a)
 | _=>none
def cm1:Const->Bool
 | .int i=>decide (i=1)
 | _=>false
def cc7:Expr->Bool
 | .Constant k _ _=>cm1 k
 | _=>false
def m1E(e:Expr):Bool:=match unE e with
 | some t=>(match t.1 with
  | .USub=>cc7 t.2
  | _=>false)
 | none=>false
def nmP:Expr->Option (Str×Pos)
 | .Name x p=>some (x,p)
 | _=>none
def bH8:List Expr->Option ((Str×Pos)×Str×Pos)
 | [a,b]=>(nmP a).bind fun x=>(nmP b).map fun y=>(x,y)
 | _=>none
def bH7:Expr->Option (Expr×Expr)
 | .Tuple es _ _=>(match es with
  | [a,b]=>some (a,b)
  | _=>none)
 | _=>none
def bF1(c:Kx) (a i:Expr):DE:=match bJ1 i with
 | some t=>(match t.2.2 with
  | none =>
   if c.old then ar9 (r.e c a) (evO (r.e c) t.1) (evO (r.e c) t.2.1)
   else if Y7 c c.tx a then cg8 (r.e c a) (evO (r.e c) t.1) (evO (r.e c) t.2.1)
   else if Y7 c c.own a then cg9 (r.q c a) (evO (r.e c) t.1) (evO (r.e c) t.2.1)
   else bk7 (r.e c a) (evO (r.e c) t.1) (evO (r.e c) t.2.1)
  | some e=>if t.1.isNone&&t.2.1.isNone&&m1E e then bD6 (r.e c a) else dNo)
 | none=>if pl i then(if bT5 a then ch0 (r.e c a) (r.e c i) else if Y7 c c.dx a then ch1 (r.e c a) (r.e c i) else dIx (r.q c a) (r.e c i)) else dNo
def xCn(k:Const):DE:=match k with
 | .none=>dC .none
 | .bool b=>dC (.bool b)
 | .int i=>dC (.int i)
 | .str x=>dC (.str x)
 | _=>dNo
def bF9(c:Kx) (a:Expr) (op:Operator) (b:Expr):DE:=match op with
 | .Add=>if c.old && !(isList a || isList b) then B4 Y8 (r.e c a) (r.e c b) else B4 y6 (r.e c a) (r.e c b)
 | .Sub=>B4 aX9 (r.e c a) (r.e c b)
 | .Mult=>if c.old then B4 T1 (r.e c a) (r.e c b) else(match a with
  | .Subscript v _ _=>if Y7 c c.tx v then B4 bO6 (r.e c a) (r.e c b) else B4 R7 (r.e c a) (r.e c b)
  | _=>B4 R7 (r.e c a) (r.e c b))
 | .FloorDiv=>B4 x5 (r.e c a) (r.e c b)
 | .Mod=>B4 W0 (r.e c a) (r.e c b)
 | .Pow=>B4 bK5 (r.e c a) (r.e c b)
 | _=>dNo
def xUn(c:Kx) (op:UnaryOp) (a:Expr):DE:=match op with
 | .USub=>bV0 (r.e c a)
 | .Not=>bU9 (r.e c a)
 | _=>dNo
def bF7(c:Kx) (a:Expr) (ops:List CmpOp) (bs:List Expr):DE:=match ops,bs with
 | [op],[b]=>if pl b then B4 (opW S c op b) (r.e c a) (r.e c b) else dNo
 | [op,op'],[b,d]=>if pl d then ai3 (az2 op) (az2 op') (r.e c a) (r.e c b) (r.e c d) else dNo
 | _,_=>dNo
def bF3(c:Kx) (o:Expr) (m:Str) (apos cpos:Pos) (args:List Expr):DE:=match args with
 | [a]=>if m == "join" && ap9 o&&apos.endLine==cpos.line&&pl a then bE2 (r.e c o) (r.q c a) else if m == "index" && ap9 o&&apos.endLine==cpos.line&&pl a then as1 (r.e c o) (r.e c a) else dNo
 | [a,b]=>if m == "get" && ap9 o&&apos.endLine==cpos.line&&pl a&&pl b then bE3 (r.e c o) (r.e c a) (r.e c b) else dNo
 | _=>dNo
def xCl(c:Kx) (f:Expr) (args:List Expr) (kw:List Keyword) (pos:Pos):DE:=match kw with
 | []=>(match f with
  | .Name x p=>aW1 S r c x args (.Call (.Name x p) args [] pos)
  | .Attribute o m apos=>bF3 r c o m apos pos args
  | _=>dNo)
 | _=>dNo
def xDs(ks:List (Option Expr)) (vs:List Expr):DE:=match ay5 ks vs with
 | some ps=>if !ps.isEmpty&&ps.length<=15 then dC (.dict (mgD (ps.map fun p=>(p.1,.int p.2)))) else dNo
 | none=>dNo
def xE(c:Kx) (ex:Expr):DE:=match ex with
 | .Constant k _ _=>xCn k
 | .Name x _=>(match W3 x c.N with
  | some i=>if aj3 c.sc x then A4 i else dNo
  | none=>(match S.cs.lookup x with
   | some d=>if ar0 c.sc x then dC d else dNo
   | none=>dNo))
 | .Tuple es _ _=>if es.length<=1000 then W4 (evA (r.e c) es) else dNo
 | .List _ _=>as0 (r.n c ex)
 | .ListComp _ _ _ _=>as0 (r.n c ex)
 | .BinOp a op b _=>bF9 r c a op b
 | .UnaryOp op a _=>xUn r c op a
 | .Compare a ops bs _=>bF7 S r c a ops bs
 | .BoolOp op vs _=>bj7 (r.e c) op vs
 | .IfExp t a b _=>ay8 (r.t c t) (r.e c a) (r.e c b)
 | .Subscript a i _=>bF1 r c a i
 | .Call f args kw pos=>xCl S r c f args kw pos
 | .Dict ks vs _=>xDs ks vs
 | _=>dNo
def cl2(c:Kx) (f:Expr) (as:List Expr) (kw:List Keyword):Bool:=match f with
 | .Name x _=>as.length==1&&kw.isEmpty&&biB S c "list" x
 | _=>false
def xQ(c:Kx) (ex:Expr):DQ:=match ex with
 | .Name x _=>(match W3 x c.N with
  | some i=>if aj3 c.sc x then C9 i else qNo
  | none=>qE (r.e c ex))
 | .List _ _=>qN (r.n c ex)
 | .ListComp _ _ _ _=>qN (r.n c ex)
 | .Call f as kw _=>if cl2 S c f as kw then qN (r.n c ex) else qE (r.e c ex)
 | _=>qE (r.e c ex)
def xNl(c:Kx) (f:Expr) (as:List Expr) (kw:List Keyword):DA:=match f with
 | .Name x _=>(match as,kw with
  | [a],[]=>if biB S c "list" x&&pl a then(fun ρ=>(r.q c a ρ).map fun q=>q.2) else aNo
  | _,_=>aNo)
 | _=>aNo
def xN(c:Kx) (ex:Expr):DA:=match ex with
 | .List es _=>if es.length<=1000 then evA (r.e c) es else aNo
 | .ListComp _ _ _ _=>evC S r c ex
 | .Call f as kw _=>xNl S r c f as kw
 | .BinOp a op b _=>(match op with
  | .Add=>ce0 (r.q c a) (r.q c b)
  | _=>aNo)
 | _=>aNo
def bB2(c:Kx) (a:Expr) (ops:List CmpOp) (bs:List Expr):DT:=match ops,bs with
 | [op],[b]=>if pl b then tB2 (opW S c op b) (r.e c a) (r.e c b) else tNo
 | [op,op'],[b,d]=>if pl d then aO5 (ai3 (az2 op) (az2 op') (r.e c a) (r.e c b) (r.e c d)) else tNo
 | _,_=>tNo
def ci3(c:Kx) (op:UnaryOp) (a:Expr):DT:=match op with
 | .Not=>aX1 (r.t c a)
 | _=>tNo
def xT(c:Kx) (ex:Expr):DT:=match ex with
 | .Compare a ops bs _=>bB2 S r c a ops bs
 | .BoolOp op vs _=>bj6 (r.t c) op vs
 | .UnaryOp op a _=>ci3 r c op a
 | _=>if plT ex then aO6 (r.e c ex) else tNo
def xG(c:Kx) (ex:Expr):DG:=match ex with
 | .Name x _=>(match W3 x c.N with
  | some i=>if aR6 c x then S1 i else gNo
  | none=>gNo)
 | .Tuple es _ _=>if es.all pl then V7 es.length (bz2 (r.g c) es) else gNo
 | _=>gNo
def bs8(c:Kx) (x y:Str) (px py:Pos) (a b:Expr):Bool :=
 c.df&&pl a&&pl b && !(x==y)&&px.line==py.line&&c.sc.names.lookup x==some .local&&c.sc.names.lookup y==some .local && !(([a,b]:List Expr).all (foldedForSure 8)) && !(([a,b]:List Expr).all (constantsAlone 8))
def bG0(c:Kx) (tg v:Expr) (es:List Expr):DS:=match bH8 es with
 | some ((x,px),(y,py))=>if ad0 v then(match bH7 v with
  | some (a,b)=>(match W3 x c.N with
   | some i=>(match W3 y c.N with
    | some j=>if bs8 c x y px py a b then aZ4 i j (evA (r.e c) [a,b]) else F4
    | none=>F4)
   | none=>F4)
  | none=>F4) else bq0 (r.e c v) (r.g c tg)
 | none=>if ad0 v&&(es.length==2 || es.length==3) then F4 else bq0 (r.e c v) (r.g c tg)
def bG2(c:Kx) (x:Str) (p':Pos) (v:Expr):DS:=match W3 x c.N with
 | none=>F4
 | some i=>if !(aR6 c x) then F4 else(match v with
  | .ListComp _ _ sc pv=>if c.sc.names.lookup x==some .local then
    (if c.df&&p'.line==pv.line && !(sc.names.any fun(n,k)=>n==x&&(k == .local || k == .cell)) then(if c.own.contains i then aZ5 i (evC S r c v) else r8 i (evC S r c v)) else F4)
   else R6 i (r.e c v)
  | _=>if isC v then F4 else if c.own.contains i then aZ5 i (r.n c v) else R6 i (r.e c v))
def bG1(c:Kx) (a i v:Expr):DS:=match nmP a with
 | none=>F4
 | some x=>(match bJ1 i with
  | none=>F4
  | some t=>if t.2.2.isSome then F4 else(match W3 x.1 c.N with
   | none=>F4
   | some i=>if aj3 c.sc x.1 && !(isC v) then ca8 i (evO (r.e c) t.1) (evO (r.e c) t.2.1) (r.n c v) else F4))
def bY7(c:Kx) (tg v:Expr) (p:Pos):DS:=match tg with
 | .Name x p'=>bG2 S r c x p' v
 | .Subscript a i _=>bG1 r c a i v
 | .Tuple es _ _=>bG0 r c tg v es
 | _=>F4
def bF2(c:Kx) (x m:Str) (e:Expr):DS:=match W3 x c.N with
 | none=>F4
 | some i=>if aj3 c.sc x&&pl e then(if m == "append" then bJ6 i (r.e c e) else if m == "extend" then bJ5 i (r.e c e) else F4) else F4
def xEx(c:Kx) (e:Expr):DS:=match e with
 | .Call f args kw cpos=>(match f with
  | .Attribute o m apos=>(match o with
   | .Name x _=>(match args,kw with
    | [e],[]=>if apos.endLine==cpos.line then bF2 r c x m e else F4
    | _,_=>F4)
   | _=>F4)
  | _=>F4)
 | _=>F4
def ci4(c:Kx):Option Expr->DS
 | some e=>L3 (r.e c e)
 | none=>F4
def xWh(c:Kx) (t:Expr) (a:List Stmt):List Stmt->DS
 | []=>X9 (r.t c t) (r.b c a)
 | _=>F4
def xFo(c:Kx) (tg it:Expr) (a:List Stmt):List Stmt->DS
 | []=>if pl it then ca9 (evI S r c tg it) (r.g c tg) (r.b c a) else F4
 | _=>F4
def xAs(c:Kx) (v:Expr) (p:Pos):List Expr->DS
 | [tg]=>bY7 S r c tg v p
 | _=>F4
def xS0(c:Kx) (st:Stmt):DS:=match st with
 | .Return o _=>ci4 r c o
 | .If t a b _=>sIf (r.t c t) (r.b c a) (r.b c b)
 | .While t a o _=>xWh r c t a o
 | .For tg it a o _=>xFo S r c tg it a o
 | .Assign ts v p=>xAs S r c v p ts
 | .Expr e _=>xEx r c e
 | .Continue _=>bB9
 | .Break _=>fun ρ=>some (.bk ρ)
 | .Pass _=>j4
 | _=>F4
def bP0:Stmt->Nat
 | .Return _ p=>p.line
 | .If _ _ _ p=>p.line
 | .While _ _ _ p=>p.line
 | .For _ _ _ _ p=>p.line
 | .Assign _ _ p=>p.line
 | .Expr _ p=>p.line
 | _=>0
def fzW(g:DS):Option (List Nat)->DS
 | none=>g
 | some l=>l.foldl (fun g i=>bJ4 i g) g
def xS(c:Kx) (st:Stmt):DS:=fzW (xS0 S r c st) (c.fz.lookup (bP0 st))
def evB(f:Stmt->DS):List Stmt->DS
 | []=>j4
 | [s]=>f s
 | s::t::M6=>M7 (f s) (evB f (t::M6))
def step:Ev:=⟨xE S r,xQ S r,xN S r,xT S r,xG r,fun c=>evB (xS S r c)⟩
end
def ev(S:Sg):Nat->Ev
 | 0=>⟨fun _ _=>dNo,fun _ _=>qNo,fun _ _=>aNo,fun _ _=>tNo,fun _ _=>gNo,fun _ _=>F4⟩
 | n+1=>step S (ev S n)
end G
namespace Sh
open PySem PySem.Spec PyProof.Rows L2 G
end Sh
namespace Sh
open PySem PySem.Spec PyProof.Rows L2 G
end Sh
namespace Sh
open PySem PySem.Spec PyProof.Rows L2 G
end Sh
namespace Sh
open PySem G
theorem cd9(i j:Int):neD (.int i) (.int j)=some (.bool (!(i==j))):=rfl
theorem bz3(i j:Int):eqD (.int i) (.int j)=some (.bool (i==j)):=rfl
theorem aL3{t:Rho->Option Bool}{f:DS}{n:Nat}{ρ ρ':Rho}(h1:t ρ=some true) (h2:f ρ=some (.nx ρ')):T2 t f (n+1) ρ=T2 t f n ρ':=by
 simp only[T2,h1,h2,xbs,if_true]
theorem bi6:∀(b a:Nat) (x:Option B),∃n x',T2 (tB2 neD (A4 1) ⇑0) (M7 (R6 2 (B4 W0 (A4 0) (A4 1))) (M7 (R6 0 (A4 1)) (R6 1 (A4 2)))) n [‹.int a›,‹.int b›,x]
  = some (.nx [‹.int (Nat.gcd a b)›,‹.int 0›,x']):=by
 intro b
 induction b using Nat.strongRecOn with
 | _ b ih =>
  intro a x
  by_cases hb:b=0
  ·subst hb
   refine⟨1,x,?_⟩
   rw[Nat.gcd_zero_right]
   rfl
  ·obtain⟨n,x',h⟩:=ih (a % b) (Nat.mod_lt _ (Nat.pos_of_ne_zero hb)) b (‹.int ((a % b:Nat):Int)›)
   refine⟨n+1,x',?_⟩
   have e1:tB2 neD (A4 1) ⇑0 [‹.int a›,‹.int b›,x]=some true:=by
    show(neD (.int b) (.int 0)).bind l6=some true
    rw[cd9]
    have:((b:Int)==0)=false:=by simp;omega
    rw[this];rfl
   have e2:W0 (.int a) (.int b)=some (.int ((a % b:Nat):Int)):=by
    show(if(0:Int) < (b:Int) then some (PyData.int ((a:Int) % (b:Int))) else none)=_
    rw[if_pos (by omega)]
    simp
   have e3:M7 (R6 2 (B4 W0 (A4 0) (A4 1))) (M7 (R6 0 (A4 1)) (R6 1 (A4 2))) [‹.int a›,‹.int b›,x]=some (.nx [‹.int b›,‹.int ((a % b:Nat):Int)›,‹.int ((a % b:Nat):Int)›]):=by
    show((((W0 (.int a) (.int b))).map fun d=>Fl.nx [‹.int a›,‹.int b›,‹d›]).bind _)=_
    rw[e2]
    rfl
   rw[aL3 e1 e3,h,Nat.gcd_comm b,Nat.gcd_comm a b,← Nat.gcd_rec]
theorem ci0(a b:Nat):S3 [.int a,.int b]=some (.int (Nat.gcd a b)):=by
 obtain⟨n,x',h⟩:=bi6 b a none
 show((X9 _ _ [‹.int a›,‹.int b›,none]).bind _).bind _=_
 rw[ak7 h]
 rfl
theorem aR2:∀(a b:Nat) (t u:D),∃n,T2 (tB2 gtI (A4 2) ⇑0) (aZ4 2 3 (A0 (B4 W0 (A4 3) (A4 2)) (A0 (A4 2) A9))) n [‹t›,‹u›,‹.int a›,‹.int b›]
  = some (.nx [‹t›,‹u›,‹.int 0›,‹.int (Nat.gcd a b)›]):=by
 intro a
 induction a using Nat.strongRecOn with
 | _ a ih =>
  intro b t u
  by_cases ha:a=0
  ·subst ha
   refine⟨1,?_⟩
   rw[Nat.gcd_zero_left]
   rfl
  ·obtain⟨n,h⟩:=ih (b % a) (Nat.mod_lt _ (Nat.pos_of_ne_zero ha)) a t u
   refine⟨n+1,?_⟩
   have e1:tB2 gtI (A4 2) ⇑0 [‹t›,‹u›,‹.int a›,‹.int b›]=some true:=by
    show some (decide ((0:Int) < (a:Int)))=some true
    rw[decide_eq_true (by omega)]
   have e2:W0 (.int b) (.int a)=some (.int ((b % a:Nat):Int)):=by
    show(if(0:Int) < (a:Int) then some (PyData.int ((b:Int) % (a:Int))) else none)=_
    rw[if_pos (by omega)]
    simp
   have e3:aZ4 2 3 (A0 (B4 W0 (A4 3) (A4 2)) (A0 (A4 2) A9)) [‹t›,‹u›,‹.int a›,‹.int b›]=some (.nx [‹t›,‹u›,‹.int ((b % a:Nat):Int)›,‹.int a›]):=by
    show((W0 (.int b) (.int a)).bind fun d=>(some [PyData.int (a:Int)]).map fun ds=>d::ds).bind _=_
    rw[e2]
    rfl
   rw[aL3 e1 e3,h,← Nat.gcd_rec]
def fr(r:Rat):D:=.tuple [.int r.num,.int r.den]
theorem J6{i:Int}{k:Nat}(h:i.natAbs < 2 ^ k) (hk:k<=8000):F3 i:=Nat.lt_of_lt_of_le h (Nat.pow_le_pow_right (by decide) hk)
theorem aw6(a b:Nat) (hb:0 < b):fr (mkRat a b)=.tuple [.int ((a / Nat.gcd a b:Nat):Int),.int ((b / Nat.gcd a b:Nat):Int)]:=by
 unfold fr
 rw[Rat.num_mkRat,Rat.den_mkRat,if_neg (by omega),if_neg (by omega)]
 have e:b.gcd (a:Int).natAbs=Nat.gcd a b:=by rw[Int.natAbs_natCast,Nat.gcd_comm]
 rw[e]
 simp
theorem aL9(a b x k:Nat) (hb:0 < b) (hk:b < 2 ^ k) (hk8:k<=8000):x5 (.int x) (.int (Nat.gcd a b))=some (.int ((x / Nat.gcd a b:Nat):Int)):=by
 have g0:0 < Nat.gcd a b:=Nat.gcd_pos_of_pos_right _ hb
 have gs:F3 (Nat.gcd a b:Nat):=J6 (k:=k) (by rw[Int.natAbs_natCast];exact Nat.lt_of_le_of_lt (Nat.le_of_dvd hb (Nat.gcd_dvd_right a b)) hk) hk8
 show(if(0:Int) < ((Nat.gcd a b:Nat):Int)/\F3 (Nat.gcd a b:Nat) then some (PyData.int ((x:Int) / ((Nat.gcd a b:Nat):Int))) else none)=_
 rw[if_pos ⟨by omega,gs⟩]
 simp
theorem at3(a b k:Nat) (hb:0 < b) (hk:b < 2 ^ k) (hk8:k<=8000):R4 [.int a,.int b]=some (fr (mkRat a b)):=by
 have d:=fun x=>aL9 a b x k hb hk hk8
 have e:U1 [‹.int a›,‹.int b›,none]=some (.rt (fr (mkRat a b))):=by
  rw[aw6 a b hb]
  simp only[U1,M7,R6,B1,A0,A9,A4,xg0,xg1,xbs,xms,ci0,xw1,xw0,L3,W4,B4,d]
 show(U1 [‹.int a›,‹.int b›,none]).bind _=_
 rw[e];rfl
theorem bm4(a b k:Nat) (hb:0 < b) (hk:b < 2 ^ k) (hk8:k<=8000):z9 [.int a,.int b]=some (fr (mkRat a b)):=by
 have d:=fun x=>aL9 a b x k hb hk hk8
 obtain⟨n,h⟩:=aR2 a b (.int a) (.int b)
 have e:z8 [‹.int a›,‹.int b›,none,none]=some (.rt (fr (mkRat a b))):=by
  rw[aw6 a b hb]
  simp only[z8,M7,R6,B1,A0,A9,A4,xg0,xg1,xbs,xms,xw1,xw0,L3,W4,B4,d,ak7 h]
 show(z8 [‹.int a›,‹.int b›,none,none]).bind _=_
 rw[e];rfl
structure Bd (k:Nat) (r:Rat):Prop where
 nn:0<=r
 num:r.num.natAbs < 2 ^ k
 den:r.den < 2 ^ k
theorem Bd.mono{j k:Nat}{r:Rat}(h:Bd j r) (l:j<=k):Bd k r:=⟨h.nn,Nat.lt_of_lt_of_le h.num (Nat.pow_le_pow_right (by decide) l),Nat.lt_of_lt_of_le h.den (Nat.pow_le_pow_right (by decide) l)⟩
theorem Bd.nat{k:Nat}{r:Rat}(h:Bd k r):r.num=(r.num.natAbs:Int):=by
 have:=Rat.num_nonneg.mpr h.nn
 omega
theorem be6(a b:Nat):0<=mkRat (a:Int) b:=by
 rw[← Rat.num_nonneg,Rat.num_mkRat]
 split
 ·exact Int.le_refl _
 ·exact Int.ediv_nonneg (by omega) (by omega)
theorem Bd.of{a b k:Nat}(hb:0 < b) (h1:a < 2 ^ k) (h2:b < 2 ^ k):Bd k (mkRat a b):=by
 refine⟨be6 a b,?_,?_⟩
 ·rw[Rat.num_mkRat,if_neg (by omega)]
  rw[show((a:Int) / ((b.gcd (a:Int).natAbs:Nat):Int))=((a / b.gcd (a:Int).natAbs:Nat):Int) by simp,Int.natAbs_natCast]
  exact Nat.lt_of_le_of_lt (Nat.div_le_self _ _) h1
 ·rw[Rat.den_mkRat,if_neg (by omega)]
  exact Nat.lt_of_le_of_lt (Nat.div_le_self _ _) h2
theorem L1{a b j k:Nat}(h1:a < 2 ^ j) (h2:b < 2 ^ k):a*b < 2 ^ (j+k):=by
 rw[Nat.pow_add]
 exact Nat.mul_lt_mul'' h1 h2
theorem ao1{j k:Nat}{r s:Rat}(hr:Bd j r) (hs:Bd k s):r*s=mkRat ((r.num.natAbs*s.num.natAbs:Nat):Int) (r.den*s.den):=by
 rw[Rat.mul_def,Rat.normalize_eq_mkRat,Int.natCast_mul,← hr.nat,← hs.nat]
theorem aI8{j k:Nat}{r s:Rat}(hr:Bd j r) (hs:Bd k s):r+s=mkRat ((r.num.natAbs*s.den+s.num.natAbs*r.den:Nat):Int) (r.den*s.den):=by
 rw[Rat.add_def,Rat.normalize_eq_mkRat,Int.natCast_add,Int.natCast_mul,Int.natCast_mul,← hr.nat,← hs.nat]
theorem aX8{j k:Nat}{r s:Rat}(hr:Bd j r) (hs:Bd k s) (l:s<=r):s.num.natAbs*r.den<=r.num.natAbs*s.den:=by
 have:=(Rat.le_iff s r).mp l
 rw[hr.nat,hs.nat]at this
 exact_mod_cast this
theorem aI7{j k:Nat}{r s:Rat}(hr:Bd j r) (hs:Bd k s) (l:s<=r):r - s=mkRat ((r.num.natAbs*s.den - s.num.natAbs*r.den:Nat):Int) (r.den*s.den):=by
 rw[Rat.sub_def,Rat.normalize_eq_mkRat,Int.ofNat_sub (aX8 hr hs l),Int.natCast_mul,Int.natCast_mul,← hr.nat,← hs.nat]
theorem N4(r:Rat):0 < r.den:=Nat.pos_of_ne_zero r.den_nz
theorem Bd.mul{j k:Nat}{r s:Rat}(hr:Bd j r) (hs:Bd k s):Bd (j+k) (r*s):=by
 rw[ao1 hr hs]
 exact Bd.of (Nat.mul_pos (N4 r) (N4 s)) (L1 hr.num hs.num) (L1 hr.den hs.den)
theorem Bd.add{j k:Nat}{r s:Rat}(hr:Bd j r) (hs:Bd k s):Bd (j+k+1) (r+s):=by
 rw[aI8 hr hs]
 have h1:=L1 hr.num hs.den
 have h2:=L1 hs.num hr.den
 have h3:=L1 hr.den hs.den
 rw[Nat.add_comm k j]at h2
 exact Bd.of (Nat.mul_pos (N4 r) (N4 s)) (by rw[Nat.pow_succ];omega) (by rw[Nat.pow_succ];omega)
theorem Bd.sub{j k:Nat}{r s:Rat}(hr:Bd j r) (hs:Bd k s) (l:s<=r):Bd (j+k) (r - s):=by
 rw[aI7 hr hs l]
 have h1:=L1 hr.num hs.den
 have h3:=L1 hr.den hs.den
 exact Bd.of (Nat.mul_pos (N4 r) (N4 s)) (by omega) (by omega)
theorem Bd.one:Bd 1 1:=⟨by decide,by decide,by decide⟩
theorem Bd.zero:Bd 1 0:=⟨by decide,by decide,by decide⟩
theorem bi8:fr 1=.tuple [.int 1,.int 1]:=rfl
theorem Bd.sn{k:Nat}{r:Rat}(h:Bd k r) (hk:k<=8000):F3 r.num:=J6 h.num hk
theorem Bd.sd{k:Nat}{r:Rat}(h:Bd k r) (hk:k<=8000):F3 r.den:=J6 (k:=k) (by rw[Int.natAbs_natCast];exact h.den) hk
theorem P4{i j:Int}(h1:F3 i) (h2:F3 j):T1 (.int i) (.int j)=some (.int (i*j)):=by
 show(if F3 i/\F3 j then some (PyData.int (i*j)) else none)=_
 rw[if_pos ⟨h1,h2⟩]
theorem bE8(i j:Int):Y8 (.int i) (.int j)=some (.int (i+j)):=rfl
theorem bB8(i j:Int):aX9 (.int i) (.int j)=some (.int (i - j)):=rfl
theorem ce1(i j:Int):leI (.int i) (.int j)=some (.bool (decide (i<=j))):=rfl
theorem ch6(a b:D):L2.atI [a,b] 0=some a:=rfl
theorem ch5(a b:D):L2.atI [a,b] 1=some b:=rfl
theorem ix0{ρ:Rho}{i:Nat}{r:Rat}(h:ρ[i]? = some (‹fr r›)):dIx (C9 i) ⇑0 ρ=some (.int r.num):=by
 simp only[dIx,C9,h,fr,dC,xbs,ch6]
theorem ix1{ρ:Rho}{i:Nat}{r:Rat}(h:ρ[i]? = some (‹fr r›)):dIx (C9 i) ⇑1 ρ=some (.int r.den):=by
 simp only[dIx,C9,h,fr,dC,xbs,ch5]
theorem v0(x:Option B) (l:Rho):(x::l)[0]? = some x:=rfl
theorem v1(y x:Option B) (l:Rho):(y::x::l)[1]? = some x:=rfl
theorem S2{j k:Nat}{r s:Rat}(hr:Bd j r) (hs:Bd k s) (l:j+k<=8000):U3 [fr r,fr s]=some (fr (r*s)):=by
 have e:af5 [‹fr r›,‹fr s›]=some (.rt (fr (r*s))):=by
  simp only[af5,L3,B1,A0,A9,B4,ix0 (v0 _ _),ix1 (v0 _ _),ix0 (v1 _ _ _),ix1 (v1 _ _ _),xbs,xms,P4 (hr.sn (by omega)) (hs.sn (by omega)),P4 (hr.sd (by omega)) (hs.sd (by omega))]
  have:=at3 (r.num.natAbs*s.num.natAbs) (r.den*s.den) (j+k) (Nat.mul_pos (N4 r) (N4 s)) (L1 hr.den hs.den) l
  rw[← ao1 hr hs,Int.natCast_mul,Int.natCast_mul,← hr.nat,← hs.nat]at this
  rw[this];rfl
 show(af5 [‹fr r›,‹fr s›]).bind _=_
 rw[e];rfl
theorem S5{j k:Nat}{r s:Rat}(hr:Bd j r) (hs:Bd k s) (l:j+k<=8000):S8 [fr r,fr s]=some (fr (r+s)):=by
 have e:af6 [‹fr r›,‹fr s›]=some (.rt (fr (r+s))):=by
  simp only[af6,L3,B1,A0,A9,B4,ix0 (v0 _ _),ix1 (v0 _ _),ix0 (v1 _ _ _),ix1 (v1 _ _ _),xbs,xms,P4 (hr.sn (by omega)) (hs.sd (by omega)),P4 (hs.sn (by omega)) (hr.sd (by omega)),P4 (hr.sd (by omega)) (hs.sd (by omega)),bE8]
  have:=at3 (r.num.natAbs*s.den+s.num.natAbs*r.den) (r.den*s.den) (j+k) (Nat.mul_pos (N4 r) (N4 s)) (L1 hr.den hs.den) l
  rw[← aI8 hr hs,Int.natCast_add,Int.natCast_mul,Int.natCast_mul,Int.natCast_mul,← hr.nat,← hs.nat]at this
  rw[this];rfl
 show(af6 [‹fr r›,‹fr s›]).bind _=_
 rw[e];rfl
theorem W7{j k:Nat}{r s:Rat}(hr:Bd j r) (hs:Bd k s) (l:j+k<=8000) (hl:s<=r):V0 [fr r,fr s]=some (fr (r - s)):=by
 have e:Z1 [‹fr r›,‹fr s›]=some (.rt (fr (r - s))):=by
  simp only[Z1,L3,B1,A0,A9,B4,ix0 (v0 _ _),ix1 (v0 _ _),ix0 (v1 _ _ _),ix1 (v1 _ _ _),xbs,xms,P4 (hr.sn (by omega)) (hs.sd (by omega)),P4 (hs.sn (by omega)) (hr.sd (by omega)),P4 (hr.sd (by omega)) (hs.sd (by omega)),bB8]
  have:=at3 (r.num.natAbs*s.den - s.num.natAbs*r.den) (r.den*s.den) (j+k) (Nat.mul_pos (N4 r) (N4 s)) (L1 hr.den hs.den) l
  rw[← aI7 hr hs hl,Int.ofNat_sub (aX8 hr hs hl),Int.natCast_mul,Int.natCast_mul,Int.natCast_mul,← hr.nat,← hs.nat]at this
  rw[this];rfl
 show(Z1 [‹fr r›,‹fr s›]).bind _=_
 rw[e];rfl
theorem ab6{k:Nat}{s:Rat}(hs:Bd k s) (l:k+1<=8000) (hl:s<=1):X6 [fr s]=some (fr (1 - s)):=by
 have e:g9 [‹fr s›]=some (.rt (fr (1 - s))):=by
  simp only[g9,L3,B1,A0,A9,dC,A4,xg0,xbs,xms]
  rw[← bi8,W7 Bd.one hs (by omega) hl];rfl
 show(g9 [‹fr s›]).bind _=_
 rw[e];rfl
theorem aA1{j k:Nat}{r s:Rat}(hr:Bd j r) (hs:Bd k s) (l:j+k<=8000):Z2 [fr r,fr s]=some (.bool (decide (r<=s))):=by
 have e:U2 [‹fr r›,‹fr s›]=some (.rt (.bool (decide (r<=s)))):=by
  simp only[U2,L3,B1,A0,A9,B4,ix0 (v0 _ _),ix1 (v0 _ _),ix0 (v1 _ _ _),ix1 (v1 _ _ _),xbs,xms,P4 (hr.sn (by omega)) (hs.sd (by omega)),P4 (hs.sn (by omega)) (hr.sd (by omega)),ce1]
  simp only[← Rat.le_iff]
 show(U2 [‹fr r›,‹fr s›]).bind _=_
 rw[e];rfl
theorem aA2{k:Nat}{r:Rat}(hr:Bd k r) (l:k+1<=8000):S7 [fr r]=some (fr (if r<=1 then r else 1)):=by
 have e:S6 [‹fr r›]=some (.rt (fr (if r<=1 then r else 1))):=by
  simp only[S6,L3,ay8,aO6,B1,A0,A9,dC,A4,xg0,xbs,xms]
  rw[← bi8,aA1 hr Bd.one l]
  by_cases h:r<=1
  ·simp[h,aO4]
  ·simp[h,aO4]
 show(S6 [‹fr r›]).bind _=_
 rw[e];rfl
end Sh
set_option exponentiation.threshold 9000
namespace Sh
open PySem G L2
theorem cl0(i j:Int):ltI (.int i) (.int j)=some (.bool (decide (i < j))):=rfl
theorem cl4(i j:Int):gtI (.int i) (.int j)=some (.bool (decide (j < i))):=rfl
theorem bq7{α:Type}(x:α):List.replicate 0 x=[]:=rfl
theorem bq6{α:Type}(x:α):List.replicate 1 x=[x]:=rfl
theorem bq5{α:Type}(x:α):List.replicate 2 x=[x,x]:=rfl
theorem aM4(a b c d:D):ae2 [a,b,c,d] (some 1) none=[b,c,d]:=rfl
theorem cm5(a b c d:D):L2.atI [a,b,c,d] 0=some a:=rfl
theorem cm4(a b c d:D):L2.atI [a,b,c,d] 1=some b:=rfl
theorem cm3(a b c d:D):L2.atI [a,b,c,d] 2=some c:=rfl
theorem cm2(a b c d:D):L2.atI [a,b,c,d] 3=some d:=rfl
theorem cm8(a b c:D):L2.atI [a,b,c] 0=some a:=rfl
theorem cm7(a b c:D):L2.atI [a,b,c] 1=some b:=rfl
theorem cm6(a b c:D):L2.atI [a,b,c] 2=some c:=rfl
theorem W8{n k:Nat}(h:n < 2 ^ k) (hk:k<=8000):F3 (n:Int):=J6 (k:=k) (by rw[Int.natAbs_natCast];exact h) hk
theorem aw5{i j:Int}(h:0 < j):W0 (.int i) (.int j)=some (.int (i % j)):=by
 show(if(0:Int) < j then some (PyData.int (i % j)) else none)=_
 rw[if_pos h]
theorem aL8{i j:Int}(h:0 < j) (s:F3 j):x5 (.int i) (.int j)=some (.int (i / j)):=by
 show(if(0:Int) < j/\F3 j then some (PyData.int (i / j)) else none)=_
 rw[if_pos ⟨h,s⟩]
theorem K6{g:DS}{n:Nat}{ds:List D}{ρ:Rho}{d:D}(h:N7 n ds=ρ) (e:g ρ=some (.rt d)):T0 g n ds=some d:=by
 unfold T0
 rw[h,e];rfl
theorem l7{j k:Nat}{r s:Rat}(hr:Bd j r) (hs:Bd k s) (l:j+k<=8000):ab7 [fr r,fr s]=some (fr (r*s)):=by
 refine K6 (ρ:=[‹fr r›,‹fr s›]) rfl ?_
 simp only[am9,L3,B1,A0,A9,B4,ix0 (v0 _ _),ix1 (v0 _ _),ix0 (v1 _ _ _),ix1 (v1 _ _ _),xbs,xms,P4 (hr.sn (by grind)) (hs.sn (by grind)),P4 (hr.sd (by grind)) (hs.sd (by grind))]
 have:=bm4 (r.num.natAbs*s.num.natAbs) (r.den*s.den) (j+k) (Nat.mul_pos (N4 r) (N4 s)) (L1 hr.den hs.den) l
 rw[← ao1 hr hs,Int.natCast_mul,Int.natCast_mul,← hr.nat,← hs.nat]at this
 rw[this];rfl
def am1(ns:List Int) (k:Nat):Int:=if ns.length=0 then 7*(k:Int) else ns.getD (k % ns.length) 0+6553*((k / ns.length:Nat):Int)
theorem bj8(ns:List Int):eqD (.list (ns.map PyData.int)) (.list [])=some (.bool (decide (ns.length=0))):=by
 have h1:SeqAt.shaped (.list (ns.map PyData.int))=true:=by
  have c:∀l:List Int,PyData.canLayAll0 (l.map PyData.int)=true:=fun l=>by
   induction l with
   | nil=>rfl
   | cons a r ih=>simp only[xmc,PyData.canLayAll0,PyData.canLay0,ih];rfl
  have d:∀l:List Int,PyData.depthAll (l.map PyData.int)=0:=fun l=>by
   induction l with
   | nil=>rfl
   | cons a r ih=>simp only[xmc,PyData.depthAll,PyData.depth,ih];rfl
  unfold SeqAt.shaped
  simp only[PyData.canLay0,c,PyData.depth,d]
  rfl
 unfold eqD
 rw[if_pos ⟨h1,rfl⟩]
 cases ns with
 | nil=>rfl
 | cons a r=>simp[PyData.eqv,PyData.eqvAll]
end Sh
local macro_rules
  | `(tactic| wp_walk using evP, $ts,*) => `(tactic| simp only [G.M7, G.R6, G.L3, G.sIf, G.j4, G.r8, G.bq0, G.A4, G.dC, G.W4, G.as0, G.B4, G.B1, G.bz8, G.dOr, G.bU9, G.ai3, G.ad6, G.bV3, G.bV2, G.bV1, G.ac4, G.ac3, G.bh9, G.A9, G.A0, G.aO6, G.tB2, G.aX4, G.bI2, G.aX1, G.aO4, G.l6, G.T3, G.S1, G.V7, G.M8, G.Z5, G.aD4, G.aS7, G.xg0, G.xg1, G.xw0, G.xw1, G.xbs, G.xms, G.xmc, G.xmn, G.xna, G.xca, Sh.bE8, Sh.bB8, Sh.ce1, Sh.cd9, Sh.bz3, Sh.cl0, Sh.cl4, Sh.cm5, Sh.cm4, Sh.cm3, Sh.cm2, Sh.cm8, Sh.cm7, Sh.cm6, Sh.ch6, Sh.ch5, G.xnt, G.xnf, G.xft, if_true, if_false, $[$ts:term],*])
local macro_rules
  | `(tactic| wp_walk using evB) => `(tactic| wp_walk using evP, G.dIx, G.aE1, G.C9, G.qE, G.qN, G.bp9)
  | `(tactic| wp_walk using evB, $ts,*) => `(tactic| wp_walk using evP, G.dIx, G.aE1, G.C9, G.qE, G.qN, G.bp9, $ts,*)
local macro_rules
  | `(tactic| wp_walk using evA) => `(tactic| wp_walk using evB, G.ay8, G.ar9, G.P9, G.Z6, G.ab3, G.d6, G.ah9, Sh.bq7, Sh.bq6, Sh.bq5, Sh.aM4, ite_true, ite_false)
  | `(tactic| wp_walk using evA, $ts,*) => `(tactic| wp_walk using evB, G.ay8, G.ar9, G.P9, G.Z6, G.ab3, G.d6, G.ah9, Sh.bq7, Sh.bq6, Sh.bq5, Sh.aM4, ite_true, ite_false, $ts,*)
local macro_rules
  | `(tactic| wp_walk using evD) => `(tactic| wp_walk using evB, G.ai5, G.aO5)
  | `(tactic| wp_walk using evD, $ts,*) => `(tactic| wp_walk using evB, G.ai5, G.aO5, $ts,*)
local macro_rules
  | `(tactic| wp_walk using evC) => `(tactic| wp_walk using evD, G.ay8, G.ar9, G.P9, G.Z6, G.ab3, G.d6, G.ah9, Sh.bq7, Sh.bq6, Sh.bq5, Sh.aM4, ite_true, ite_false)
  | `(tactic| wp_walk using evC, $ts,*) => `(tactic| wp_walk using evD, G.ay8, G.ar9, G.P9, G.Z6, G.ab3, G.d6, G.ah9, Sh.bq7, Sh.bq6, Sh.bq5, Sh.aM4, ite_true, ite_false, $ts,*)
local macro_rules
  | `(tactic| wp_walk using evQ) => `(tactic| wp_walk using evP, G.ai5, G.aO5)
  | `(tactic| wp_walk using evQ, $ts,*) => `(tactic| wp_walk using evP, G.ai5, G.aO5, $ts,*)
namespace Sh
open PySem G L2
theorem bX6(ns:List Int) (k:Nat) (hn:ns.length<=63) (hk:k < 2 ^ 60):aj1 [.list (ns.map PyData.int),.int k]=some (.int (am1 ns k)):=by
 refine K6 (ρ:=[‹.list (ns.map PyData.int)›,‹.int k›]) rfl ?_
 have sk:F3 (k:Int):=W8 hk (by decide)
 by_cases h:ns.length=0
 ·have e:am1 ns k=7*(k:Int):=by unfold am1;rw[if_pos h]
  wp_walk using evA,aj0,bj8,h,decide_true,P4 (i:=7) (J6 (k:=3) (by decide) (by decide)) sk,e
 ·have e:am1 ns k=ns.getD (k % ns.length) 0+6553*((k / ns.length:Nat):Int):=by unfold am1;rw[if_neg h]
  have hl:(List.map PyData.int ns).length=ns.length:=List.length_map ..
  have hp:0 < ns.length:=Nat.pos_of_ne_zero h
  have m1:W0 (.int k) (.int ns.length)=some (.int ((k % ns.length:Nat):Int)):=by rw[aw5 (by grind)];simp
  have m2:x5 (.int k) (.int ns.length)=some (.int ((k / ns.length:Nat):Int)):=by rw[aL8 (by grind) (W8 (k:=6) (by grind) (by decide))];simp
  have m3:L2.atI (List.map PyData.int ns) ((k % ns.length:Nat):Int)=some (.int (ns.getD (k % ns.length) 0)):=by
   refine L2.bB0 ?_
   have hlt:k % ns.length < ns.length:=Nat.mod_lt _ hp
   rw[List.getElem?_map,List.getElem?_eq_getElem hlt]
   simp[List.getD,hlt]
  have sq:F3 ((k / ns.length:Nat):Int):=W8 (k:=60) (Nat.lt_of_le_of_lt (Nat.div_le_self _ _) hk) (by decide)
  wp_walk using evA,aj0,bj8,h,decide_false,hl,m1,m2,m3,P4 (i:=6553) (J6 (k:=13) (by decide) (by decide)) sq,e
def w9(ns:List Int) (k:Nat) (m:Int):Int :=
 let c:=(am1 ns k % 2147483563*69069+104723*((k:Int)+1)) % 2147483563
 let c:=(c*c+c / 3) % 2147483399
 (c*c+c / 7) % 2147483647 / 11 % m
theorem au4{i:Int}(h0:0<=i) (h:i < 4294967296):F3 i:=J6 (k:=32) (by omega) (by decide)
theorem af8(ns:List Int) (k:Nat) (m:Int) (hn:ns.length<=63) (hk:k < 2 ^ 60) (hm:0 < m):J5 [.list (ns.map PyData.int),.int k,.int m]=some (.int (w9 ns k m)):=by
 refine K6 (ρ:=[‹.list (ns.map PyData.int)›,‹.int k›,‹.int m›,none]) rfl ?_
 have c0:∀x:Int,F3 (x % 2147483563):=fun x=>au4 (by grind) (by grind)
 have c1:∀x:Int,F3 (x % 2147483399):=fun x=>au4 (by grind) (by grind)
 have sk:F3 ((k:Int)+1):=J6 (k:=61) (by grind) (by decide)
 have s1:F3 69069:=J6 (k:=17) (by decide) (by decide)
 have s2:F3 104723:=J6 (k:=17) (by decide) (by decide)
 have s3:F3 3:=J6 (k:=2) (by decide) (by decide)
 have s7:F3 7:=J6 (k:=3) (by decide) (by decide)
 have s11:F3 11:=J6 (k:=4) (by decide) (by decide)
 wp_walk using evA,an2,bX6 ns k hn hk,aw5 (show(0:Int) < 2147483563 by decide),aw5 (show(0:Int) < 2147483399 by decide),aw5 (show(0:Int) < 2147483647 by decide),aw5 hm,P4 (c0 _) s1,P4 s2 sk,P4 (c0 _) (c0 _),P4 (c1 _) (c1 _),aL8 (show(0:Int) < 3 by decide) s3,aL8 (show(0:Int) < 7 by decide) s7,aL8 (show(0:Int) < 11 by decide) s11
 rfl
theorem af2(ns:List Int) (k:Nat) (m:Int) (hm:0 < m):0<=w9 ns k m/\w9 ns k m < m:=by
 unfold w9
 exact⟨Int.emod_nonneg _ (by omega),Int.emod_lt_of_pos _ hm⟩
structure IsSh (k:Nat) (r:Rat):Prop where
 bd:Bd k r
 le:r<=1
theorem aR7{a b:Nat}(hb:0 < b) (h:a<=b):mkRat (a:Int) b<=1:=by
 rw[Rat.le_iff,Rat.num_mkRat,Rat.den_mkRat,if_neg (by omega),if_neg (by omega)]
 have e0:(1:Rat).num=1:=rfl
 have e1:(1:Rat).den=1:=rfl
 rw[e0,e1]
 have:a / b.gcd a<=b / b.gcd a:=Nat.div_le_div_right h
 simp
 exact_mod_cast this
theorem af7(ns:List Int) (at':Nat) (hn:ns.length<=63) (hk:at' < 2 ^ 40):∃r,h9 [.list (ns.map PyData.int),.int at']=some (fr r)/\IsSh 4 r:=by
 obtain⟨u0,u1⟩:=af2 ns at' 12 (by decide)
 obtain⟨u,hu⟩:∃u:Nat,(1:Int)+w9 ns at' 12=u/\0 < u/\u<=12:=⟨(1+w9 ns at' 12).toNat,by grind,by grind,by grind⟩
 obtain⟨t0,t1⟩:=af2 ns (at'+1) ((u:Int)+1) (by grind)
 obtain⟨t,ht⟩:∃t:Nat,w9 ns (at'+1) ((u:Int)+1)=t/\t<=u:=⟨(w9 ns (at'+1) ((u:Int)+1)).toNat,by grind,by grind⟩
 obtain⟨p0,p1⟩:=af2 ns (at'+2) 5 (by decide)
 have hs:IsSh 4 (mkRat (t:Int) u):=⟨Bd.of (by grind) (by grind) (by grind),aR7 (by grind) (by grind)⟩
 have e1:=af8 ns at' 12 hn (by grind) (by decide)
 have e2:=af8 ns (at'+1) ((u:Int)+1) hn (by grind) (by grind)
 have e3:=af8 ns (at'+2) 5 hn (by grind) (by decide)
 have e4:=bm4 t u 4 (by grind) (by grind) (by decide)
 have c1:((at':Int)+1)=((at'+1:Nat):Int):=by grind
 have c2:((at':Int)+2)=((at'+2:Nat):Int):=by grind
 rw[ht.1]at e2
 have pick:∀(j:Int),0<=j->j < 5->∃r,L2.atI [fr (mkRat (t:Int) u),fr (mkRat (t:Int) u),fr (mkRat (t:Int) u),.tuple [.int 0,.int 1],.tuple [.int 1,.int 1]] j=some (fr r)/\IsSh 4 r:=fun j h0 h5=>by
  have:j=0\/j=1\/j=2\/j=3\/j=4:=by grind
  rcases this with rfl|rfl|rfl|rfl|rfl
  ·exact⟨_,rfl,hs⟩
  ·exact⟨_,rfl,hs⟩
  ·exact⟨_,rfl,hs⟩
  ·exact⟨0,rfl,Bd.zero.mono (by decide),by decide⟩
  ·exact⟨1,rfl,Bd.one.mono (by decide),by decide⟩
 obtain⟨r,hr1,hr2⟩:=pick _ p0 p1
 refine⟨r,K6 (ρ:=[‹.list (ns.map PyData.int)›,‹.int at'›,none,none]) rfl ?_,hr2⟩
 wp_walk using evA,an0,e1,hu.1,c1,c2,e2,e3,e4,hr1
end Sh
namespace Sh
open PySem G L2
def sp(c x y z:Rat):D:=.tuple [fr c,fr x,fr y,fr z]
structure Spot (k:Nat) (c x y z:Rat):Prop where
 hc:IsSh k c
 hx:Bd k x
 hy:Bd k y
 hz:Bd k z
 xc:x<=c
 yc:y<=c
 zc:z<=c
theorem IsSh.mono{j k:Nat}{r:Rat}(h:IsSh j r) (l:j<=k):IsSh k r:=⟨h.bd.mono l,h.le⟩
theorem Spot.mono{j k:Nat}{c x y z:Rat}(h:Spot j c x y z) (l:j<=k):Spot k c x y z:=⟨h.hc.mono l,h.hx.mono l,h.hy.mono l,h.hz.mono l,h.xc,h.yc,h.zc⟩
theorem c8{c r:Rat}(hc:0<=c) (hr:r<=1):c*r<=c:=by
 have:=Rat.mul_le_mul_of_nonneg_right hr hc
 grind
theorem ck2:V9 0 3=[.int 0,.int 1,.int 2]:=rfl
theorem bX5(ns:List Int) (k:Nat) (hn:ns.length<=63) (hk:k < 2 ^ 30):∃c x y z,X7 [.list (ns.map PyData.int),.int k]=some (sp c x y z)/\Spot 8 c x y z:=by
 obtain⟨c,ec,hc⟩:=af7 ns k hn (by grind)
 obtain⟨a0,e0,h0⟩:=af7 ns (k+3) hn (by grind)
 obtain⟨a1,e1,h1⟩:=af7 ns (k+6) hn (by grind)
 obtain⟨a2,e2,h2⟩:=af7 ns (k+9) hn (by grind)
 refine⟨c,c*a0,c*a1,c*a2,?_,⟨hc.mono (by decide),hc.bd.mul h0.bd,hc.bd.mul h1.bd,hc.bd.mul h2.bd,c8 hc.bd.nn h0.le,c8 hc.bd.nn h1.le,c8 hc.bd.nn h2.le⟩⟩
 refine K6 (ρ:=[‹.list (ns.map PyData.int)›,‹.int k›,none]) rfl ?_
 have i0:(k:Int)+3+3*0=((k+3:Nat):Int):=by grind
 have i1:(k:Int)+3+3*1=((k+6:Nat):Int):=by grind
 have i2:(k:Int)+3+3*2=((k+9:Nat):Int):=by grind
 have s0:F3 0:=J6 (k:=2) (by decide) (by decide)
 have s1:F3 1:=J6 (k:=2) (by decide) (by decide)
 have s2:F3 2:=J6 (k:=2) (by decide) (by decide)
 have s3:F3 3:=J6 (k:=2) (by decide) (by decide)
 have m0:=P4 s3 s0
 have m1:=P4 s3 s1
 have m2:=P4 s3 s2
 have r3:((-(2 ^ 62):Int)<=3/\(3:Int) < 2 ^ 62):=by decide
 have l3:([PyData.int 0,.int 1,.int 2]:List D).length<=16777216:=by decide
 have ct:∀a b c d:D,Y8 (.tuple [a]) (.tuple [b,c,d])=some (.tuple [a,b,c,d]):=fun a b c d=>rfl
 wp_walk using evA,az9,ec,r3,and_self,ck2,l3,m0,m1,m2,i0,i1,i2,e0,e1,e2,l7 hc.bd h0.bd (by decide),l7 hc.bd h1.bd (by decide),l7 hc.bd h2.bd (by decide),ct,sp
end Sh
namespace Sh
open PySem G L2
theorem B0{x y:Str}{b:Bool}(hx:PyData.canLay0 (.str x)=true) (hy:PyData.canLay0 (.str y)=true) (e:(x==y)=b):eqD (.str x) (.str y)=some (.bool b):=by
 unfold eqD
 have s:∀z:Str,PyData.canLay0 (.str z)=true->SeqAt.shaped (.str z)=true:=fun z h=>by unfold SeqAt.shaped;rw[h];rfl
 rw[if_pos ⟨s x hx,s y hy⟩]
 show some (PyData.bool (x==y))=_
 rw[e]
theorem U0{x y:Str}{b:Bool}(hx:PyData.canLay0 (.str x)=true) (hy:PyData.canLay0 (.str y)=true) (e:(!(x==y))=b):neD (.str x) (.str y)=some (.bool b):=by
 unfold neD
 have s:∀z:Str,PyData.canLay0 (.str z)=true->SeqAt.shaped (.str z)=true:=fun z h=>by unfold SeqAt.shaped;rw[h];rfl
 rw[if_pos ⟨s x hx,s y hy⟩]
 show some (PyData.bool (!(x==y)))=_
 rw[e]
theorem G6:eqD (.str "over") (.str "over")=some (.bool true):=B0 (by decide +kernel) (by decide +kernel) (by decide +kernel)
theorem L6:eqD (.str "over") (.str "multiply")=some (.bool false):=B0 (by decide +kernel) (by decide +kernel) (by decide +kernel)
theorem D7:eqD (.str "over") (.str "screen")=some (.bool false):=B0 (by decide +kernel) (by decide +kernel) (by decide +kernel)
theorem G5:eqD (.str "over") (.str "plus")=some (.bool false):=B0 (by decide +kernel) (by decide +kernel) (by decide +kernel)
theorem G7:eqD (.str "over") (.str "atop")=some (.bool false):=B0 (by decide +kernel) (by decide +kernel) (by decide +kernel)
theorem K0:eqD (.str "over") (.str "cut")=some (.bool false):=B0 (by decide +kernel) (by decide +kernel) (by decide +kernel)
theorem L8:eqD (.str "multiply") (.str "over")=some (.bool false):=B0 (by decide +kernel) (by decide +kernel) (by decide +kernel)
theorem Q2:eqD (.str "multiply") (.str "multiply")=some (.bool true):=B0 (by decide +kernel) (by decide +kernel) (by decide +kernel)
theorem G8:eqD (.str "multiply") (.str "screen")=some (.bool false):=B0 (by decide +kernel) (by decide +kernel) (by decide +kernel)
theorem L7:eqD (.str "multiply") (.str "plus")=some (.bool false):=B0 (by decide +kernel) (by decide +kernel) (by decide +kernel)
theorem L9:eqD (.str "multiply") (.str "atop")=some (.bool false):=B0 (by decide +kernel) (by decide +kernel) (by decide +kernel)
theorem N0:eqD (.str "multiply") (.str "cut")=some (.bool false):=B0 (by decide +kernel) (by decide +kernel) (by decide +kernel)
theorem D3:eqD (.str "screen") (.str "over")=some (.bool false):=B0 (by decide +kernel) (by decide +kernel) (by decide +kernel)
theorem G1:eqD (.str "screen") (.str "multiply")=some (.bool false):=B0 (by decide +kernel) (by decide +kernel) (by decide +kernel)
theorem C2:eqD (.str "screen") (.str "screen")=some (.bool true):=B0 (by decide +kernel) (by decide +kernel) (by decide +kernel)
theorem D2:eqD (.str "screen") (.str "plus")=some (.bool false):=B0 (by decide +kernel) (by decide +kernel) (by decide +kernel)
theorem D4:eqD (.str "screen") (.str "atop")=some (.bool false):=B0 (by decide +kernel) (by decide +kernel) (by decide +kernel)
theorem E6:eqD (.str "screen") (.str "cut")=some (.bool false):=B0 (by decide +kernel) (by decide +kernel) (by decide +kernel)
theorem G3:eqD (.str "plus") (.str "over")=some (.bool false):=B0 (by decide +kernel) (by decide +kernel) (by decide +kernel)
theorem L5:eqD (.str "plus") (.str "multiply")=some (.bool false):=B0 (by decide +kernel) (by decide +kernel) (by decide +kernel)
theorem D6:eqD (.str "plus") (.str "screen")=some (.bool false):=B0 (by decide +kernel) (by decide +kernel) (by decide +kernel)
theorem G2:eqD (.str "plus") (.str "plus")=some (.bool true):=B0 (by decide +kernel) (by decide +kernel) (by decide +kernel)
theorem G4:eqD (.str "plus") (.str "atop")=some (.bool false):=B0 (by decide +kernel) (by decide +kernel) (by decide +kernel)
theorem J9:eqD (.str "plus") (.str "cut")=some (.bool false):=B0 (by decide +kernel) (by decide +kernel) (by decide +kernel)
theorem J2:eqD (.str "atop") (.str "over")=some (.bool false):=B0 (by decide +kernel) (by decide +kernel) (by decide +kernel)
theorem M3:eqD (.str "atop") (.str "multiply")=some (.bool false):=B0 (by decide +kernel) (by decide +kernel) (by decide +kernel)
theorem D8:eqD (.str "atop") (.str "screen")=some (.bool false):=B0 (by decide +kernel) (by decide +kernel) (by decide +kernel)
theorem J1:eqD (.str "atop") (.str "plus")=some (.bool false):=B0 (by decide +kernel) (by decide +kernel) (by decide +kernel)
theorem J3:eqD (.str "atop") (.str "atop")=some (.bool true):=B0 (by decide +kernel) (by decide +kernel) (by decide +kernel)
theorem K4:eqD (.str "atop") (.str "cut")=some (.bool false):=B0 (by decide +kernel) (by decide +kernel) (by decide +kernel)
theorem K2:eqD (.str "cut") (.str "over")=some (.bool false):=B0 (by decide +kernel) (by decide +kernel) (by decide +kernel)
theorem N1:eqD (.str "cut") (.str "multiply")=some (.bool false):=B0 (by decide +kernel) (by decide +kernel) (by decide +kernel)
theorem F0:eqD (.str "cut") (.str "screen")=some (.bool false):=B0 (by decide +kernel) (by decide +kernel) (by decide +kernel)
theorem K1:eqD (.str "cut") (.str "plus")=some (.bool false):=B0 (by decide +kernel) (by decide +kernel) (by decide +kernel)
theorem K3:eqD (.str "cut") (.str "atop")=some (.bool false):=B0 (by decide +kernel) (by decide +kernel) (by decide +kernel)
theorem M0:eqD (.str "cut") (.str "cut")=some (.bool true):=B0 (by decide +kernel) (by decide +kernel) (by decide +kernel)
theorem F9:eqD (.str "turn") (.str "turn")=some (.bool true):=B0 (by decide +kernel) (by decide +kernel) (by decide +kernel)
theorem G0:eqD (.str "turn") (.str "grey")=some (.bool false):=B0 (by decide +kernel) (by decide +kernel) (by decide +kernel)
theorem E5:eqD (.str "turn") (.str "round")=some (.bool false):=B0 (by decide +kernel) (by decide +kernel) (by decide +kernel)
theorem G9:eqD (.str "grey") (.str "turn")=some (.bool false):=B0 (by decide +kernel) (by decide +kernel) (by decide +kernel)
theorem J0:eqD (.str "grey") (.str "grey")=some (.bool true):=B0 (by decide +kernel) (by decide +kernel) (by decide +kernel)
theorem E9:eqD (.str "grey") (.str "round")=some (.bool false):=B0 (by decide +kernel) (by decide +kernel) (by decide +kernel)
theorem E7:eqD (.str "round") (.str "turn")=some (.bool false):=B0 (by decide +kernel) (by decide +kernel) (by decide +kernel)
theorem E8:eqD (.str "round") (.str "grey")=some (.bool false):=B0 (by decide +kernel) (by decide +kernel) (by decide +kernel)
theorem D5:eqD (.str "round") (.str "round")=some (.bool true):=B0 (by decide +kernel) (by decide +kernel) (by decide +kernel)
theorem F5:neD (.str "turn") (.str "turn")=some (.bool false):=U0 (by decide +kernel) (by decide +kernel) (by decide +kernel)
theorem F6:neD (.str "turn") (.str "grey")=some (.bool true):=U0 (by decide +kernel) (by decide +kernel) (by decide +kernel)
theorem E1:neD (.str "turn") (.str "round")=some (.bool true):=U0 (by decide +kernel) (by decide +kernel) (by decide +kernel)
theorem F7:neD (.str "grey") (.str "turn")=some (.bool true):=U0 (by decide +kernel) (by decide +kernel) (by decide +kernel)
theorem F8:neD (.str "grey") (.str "grey")=some (.bool false):=U0 (by decide +kernel) (by decide +kernel) (by decide +kernel)
theorem E4:neD (.str "grey") (.str "round")=some (.bool true):=U0 (by decide +kernel) (by decide +kernel) (by decide +kernel)
theorem E2:neD (.str "round") (.str "turn")=some (.bool true):=U0 (by decide +kernel) (by decide +kernel) (by decide +kernel)
theorem E3:neD (.str "round") (.str "grey")=some (.bool true):=U0 (by decide +kernel) (by decide +kernel) (by decide +kernel)
theorem D1:neD (.str "round") (.str "round")=some (.bool false):=U0 (by decide +kernel) (by decide +kernel) (by decide +kernel)
inductive Man where
 | over|mult|screen|plus|atop|cut
def Man.s:Man->Str
 | .over => "over"
 | .mult => "multiply"
 | .screen => "screen"
 | .plus => "plus"
 | .atop => "atop"
 | .cut => "cut"
def y8(r:Rat):Rat:=if r<=1 then r else 1
def Man.cov:Man->Rat->Rat->Rat
 | .plus,c,d=>y8 (c+d)
 | .atop,c,d=>d
 | .cut,c,d=>d*(1 - c)
 | _,c,d=>c+d - c*d
def Man.col:Man->Rat->Rat->Rat->Rat->Rat
 | .over,c,d,x,y=>x+y*(1 - c)
 | .mult,c,d,x,y=>x*y+x*(1 - d)+y*(1 - c)
 | .screen,c,d,x,y=>x+y - x*y
 | .plus,c,d,x,y=>y8 (x+y)
 | .atop,c,d,x,y=>x*d+y*(1 - c)
 | .cut,c,d,x,y=>y*(1 - c)
theorem ap4{k:Nat}{c:Rat}(h:IsSh k c):IsSh (k+1) (1 - c):=by
 have b:=Bd.one.sub h.bd h.le
 rw[Nat.add_comm]at b
 exact⟨b,by have:=h.bd.nn;grind⟩
theorem ah4{a b:Rat}(ha:0<=a) (hb:0<=b) (ha1:a<=1) (hb1:b<=1):a*b<=a+b:=by
 have:=Rat.mul_le_mul_of_nonneg_right ha1 hb
 grind
theorem bl2{k:Nat}{r:Rat}(h:Bd k r) (hk:1<=k):IsSh k (y8 r):=by
 unfold y8
 split
 ·rename_i l;exact⟨h,l⟩
 ·exact⟨Bd.one.mono hk,Rat.le_refl⟩
theorem bm5(m:Man) {k:Nat}{c d:Rat}(hc:IsSh k c) (hd:IsSh k d) (l:6*k+4<=8000):T9 [.str m.s,fr c,fr d]=some (fr (m.cov c d))/\Bd (6*k+4) (m.cov c d):=by
 have r1:=ab6 hc.bd (by grind) hc.le
 have h1:=(ap4 hc)
 have ml:=ah4 hc.bd.nn hd.bd.nn hc.le hd.le
 have e1:=S5 hc.bd hd.bd (by grind)
 have e2:=S2 hc.bd hd.bd (by grind)
 have b1:=hc.bd.add hd.bd
 have b2:=hc.bd.mul hd.bd
 have e3:=W7 b1 b2 (by grind) ml
 have e4:=aA2 b1 (by grind)
 have e5:=S2 hd.bd h1.bd (by grind)
 cases m with
 | plus=>exact⟨K6 (ρ:=[‹.str "plus"›,‹fr c›,‹fr d›]) rfl (by wp_walk using evA,K5,G6,L6,D7,G5,G7,K0,L8,Q2,G8,L7,L9,N0,D3,G1,C2,D2,D4,E6,G3,L5,D6,G2,G4,J9,J2,M3,D8,J1,J3,K4,K2,N1,F0,K1,K3,M0,F9,G0,E5,G9,J0,E9,E7,E8,D5,F5,F6,E1,F7,F8,E4,E2,E3,D1,e1,e4;rfl),(bl2 b1 (by grind)).bd.mono (by grind)⟩
 | atop=>exact⟨K6 (ρ:=[‹.str "atop"›,‹fr c›,‹fr d›]) rfl (by wp_walk using evA,K5,G6,L6,D7,G5,G7,K0,L8,Q2,G8,L7,L9,N0,D3,G1,C2,D2,D4,E6,G3,L5,D6,G2,G4,J9,J2,M3,D8,J1,J3,K4,K2,N1,F0,K1,K3,M0,F9,G0,E5,G9,J0,E9,E7,E8,D5,F5,F6,E1,F7,F8,E4,E2,E3,D1;rfl),hd.bd.mono (by grind)⟩
 | cut=>exact⟨K6 (ρ:=[‹.str "cut"›,‹fr c›,‹fr d›]) rfl (by wp_walk using evA,K5,G6,L6,D7,G5,G7,K0,L8,Q2,G8,L7,L9,N0,D3,G1,C2,D2,D4,E6,G3,L5,D6,G2,G4,J9,J2,M3,D8,J1,J3,K4,K2,N1,F0,K1,K3,M0,F9,G0,E5,G9,J0,E9,E7,E8,D5,F5,F6,E1,F7,F8,E4,E2,E3,D1,r1,e5;rfl),(hd.bd.mul h1.bd).mono (by grind)⟩
 | over=>exact⟨K6 (ρ:=[‹.str "over"›,‹fr c›,‹fr d›]) rfl (by wp_walk using evA,K5,G6,L6,D7,G5,G7,K0,L8,Q2,G8,L7,L9,N0,D3,G1,C2,D2,D4,E6,G3,L5,D6,G2,G4,J9,J2,M3,D8,J1,J3,K4,K2,N1,F0,K1,K3,M0,F9,G0,E5,G9,J0,E9,E7,E8,D5,F5,F6,E1,F7,F8,E4,E2,E3,D1,e1,e2,e3;rfl),(b1.sub b2 ml).mono (by grind)⟩
 | mult=>exact⟨K6 (ρ:=[‹.str "multiply"›,‹fr c›,‹fr d›]) rfl (by wp_walk using evA,K5,G6,L6,D7,G5,G7,K0,L8,Q2,G8,L7,L9,N0,D3,G1,C2,D2,D4,E6,G3,L5,D6,G2,G4,J9,J2,M3,D8,J1,J3,K4,K2,N1,F0,K1,K3,M0,F9,G0,E5,G9,J0,E9,E7,E8,D5,F5,F6,E1,F7,F8,E4,E2,E3,D1,e1,e2,e3;rfl),(b1.sub b2 ml).mono (by grind)⟩
 | screen=>exact⟨K6 (ρ:=[‹.str "screen"›,‹fr c›,‹fr d›]) rfl (by wp_walk using evA,K5,G6,L6,D7,G5,G7,K0,L8,Q2,G8,L7,L9,N0,D3,G1,C2,D2,D4,E6,G3,L5,D6,G2,G4,J9,J2,M3,D8,J1,J3,K4,K2,N1,F0,K1,K3,M0,F9,G0,E5,G9,J0,E9,E7,E8,D5,F5,F6,E1,F7,F8,E4,E2,E3,D1,e1,e2,e3;rfl),(b1.sub b2 ml).mono (by grind)⟩
theorem aj2(m:Man) {k:Nat}{c d x y:Rat}(hc:IsSh k c) (hd:IsSh k d) (hx:IsSh k x) (hy:IsSh k y) (l:6*k+4<=8000):S4 [.str m.s,fr c,fr d,fr x,fr y]=some (fr (m.col c d x y))/\Bd (6*k+4) (m.col c d x y):=by
 have r1:=ab6 hc.bd (by grind) hc.le
 have r2:=ab6 hd.bd (by grind) hd.le
 have h1:=ap4 hc
 have h2:=ap4 hd
 have ml:=ah4 hx.bd.nn hy.bd.nn hx.le hy.le
 have e1:=S5 hx.bd hy.bd (by grind)
 have e2:=S2 hx.bd hy.bd (by grind)
 have b1:=hx.bd.add hy.bd
 have b2:=hx.bd.mul hy.bd
 have e3:=W7 b1 b2 (by grind) ml
 have e4:=aA2 b1 (by grind)
 have bt:=hy.bd.mul h1.bd
 have et:=S2 hy.bd h1.bd (by grind)
 have e6:=S5 hx.bd bt (by grind)
 have bd:=hx.bd.mul h2.bd
 have e7:=S2 hx.bd h2.bd (by grind)
 have b8:=b2.add bd
 have e8:=S5 b2 bd (by grind)
 have e9:=S5 b8 bt (by grind)
 have b10:=hx.bd.mul hd.bd
 have e10:=S2 hx.bd hd.bd (by grind)
 have e11:=S5 b10 bt (by grind)
 cases m with
 | plus=>exact⟨K6 (ρ:=[‹.str "plus"›,‹fr c›,‹fr d›,‹fr x›,‹fr y›,none]) rfl (by wp_walk using evA,J4,G6,L6,D7,G5,G7,K0,L8,Q2,G8,L7,L9,N0,D3,G1,C2,D2,D4,E6,G3,L5,D6,G2,G4,J9,J2,M3,D8,J1,J3,K4,K2,N1,F0,K1,K3,M0,F9,G0,E5,G9,J0,E9,E7,E8,D5,F5,F6,E1,F7,F8,E4,E2,E3,D1,e1,e4;rfl),(bl2 b1 (by grind)).bd.mono (by grind)⟩
 | screen=>exact⟨K6 (ρ:=[‹.str "screen"›,‹fr c›,‹fr d›,‹fr x›,‹fr y›,none]) rfl (by wp_walk using evA,J4,G6,L6,D7,G5,G7,K0,L8,Q2,G8,L7,L9,N0,D3,G1,C2,D2,D4,E6,G3,L5,D6,G2,G4,J9,J2,M3,D8,J1,J3,K4,K2,N1,F0,K1,K3,M0,F9,G0,E5,G9,J0,E9,E7,E8,D5,F5,F6,E1,F7,F8,E4,E2,E3,D1,e1,e2,e3;rfl),(b1.sub b2 ml).mono (by grind)⟩
 | over=>exact⟨K6 (ρ:=[‹.str "over"›,‹fr c›,‹fr d›,‹fr x›,‹fr y›,none]) rfl (by wp_walk using evA,J4,G6,L6,D7,G5,G7,K0,L8,Q2,G8,L7,L9,N0,D3,G1,C2,D2,D4,E6,G3,L5,D6,G2,G4,J9,J2,M3,D8,J1,J3,K4,K2,N1,F0,K1,K3,M0,F9,G0,E5,G9,J0,E9,E7,E8,D5,F5,F6,E1,F7,F8,E4,E2,E3,D1,r1,et,e6;rfl),(hx.bd.add bt).mono (by grind)⟩
 | mult=>exact⟨K6 (ρ:=[‹.str "multiply"›,‹fr c›,‹fr d›,‹fr x›,‹fr y›,none]) rfl (by wp_walk using evA,J4,G6,L6,D7,G5,G7,K0,L8,Q2,G8,L7,L9,N0,D3,G1,C2,D2,D4,E6,G3,L5,D6,G2,G4,J9,J2,M3,D8,J1,J3,K4,K2,N1,F0,K1,K3,M0,F9,G0,E5,G9,J0,E9,E7,E8,D5,F5,F6,E1,F7,F8,E4,E2,E3,D1,r1,r2,et,e2,e7,e8,e9;rfl),(b8.add bt).mono (by grind)⟩
 | atop=>exact⟨K6 (ρ:=[‹.str "atop"›,‹fr c›,‹fr d›,‹fr x›,‹fr y›,none]) rfl (by wp_walk using evA,J4,G6,L6,D7,G5,G7,K0,L8,Q2,G8,L7,L9,N0,D3,G1,C2,D2,D4,E6,G3,L5,D6,G2,G4,J9,J2,M3,D8,J1,J3,K4,K2,N1,F0,K1,K3,M0,F9,G0,E5,G9,J0,E9,E7,E8,D5,F5,F6,E1,F7,F8,E4,E2,E3,D1,r1,et,e10,e11;rfl),(b10.add bt).mono (by grind)⟩
 | cut=>exact⟨K6 (ρ:=[‹.str "cut"›,‹fr c›,‹fr d›,‹fr x›,‹fr y›,none]) rfl (by wp_walk using evA,J4,G6,L6,D7,G5,G7,K0,L8,Q2,G8,L7,L9,N0,D3,G1,C2,D2,D4,E6,G3,L5,D6,G2,G4,J9,J2,M3,D8,J1,J3,K4,K2,N1,F0,K1,K3,M0,F9,G0,E5,G9,J0,E9,E7,E8,D5,F5,F6,E1,F7,F8,E4,E2,E3,D1,r1,et;rfl),bt.mono (by grind)⟩
theorem bV4(m:Man) {c d:Rat}(hc:0<=c) (hd:0<=d) (hc1:c<=1) (hd1:d<=1):m.cov c d<=1:=by
 have p:0<=(1 - c)*(1 - d):=Rat.mul_nonneg (by grind) (by grind)
 have q:d*(1 - c)<=1*(1 - c):=Rat.mul_le_mul_of_nonneg_right hd1 (by grind)
 cases m<;>simp only[Man.cov,y8]<;>grind
theorem aE3(m:Man) {c d x y:Rat}(hc:0<=c) (hd:0<=d) (hc1:c<=1) (hd1:d<=1) (hx:0<=x) (hy:0<=y) (xc:x<=c) (yd:y<=d):m.col c d x y<=m.cov c d:=by
 have q1:y*(1 - c)<=d*(1 - c):=Rat.mul_le_mul_of_nonneg_right yd (by grind)
 have q2:x*(y+1 - d)<=c*(y+1 - d):=Rat.mul_le_mul_of_nonneg_right xc (by grind)
 have q3:x*d<=c*d:=Rat.mul_le_mul_of_nonneg_right xc hd
 have q4:(1 - c)*(1 - d)<=(1 - x)*(1 - d):=Rat.mul_le_mul_of_nonneg_right (by grind) (by grind)
 have q5:(1 - d)*(1 - x)<=(1 - y)*(1 - x):=Rat.mul_le_mul_of_nonneg_right (by grind) (by grind)
 cases m<;>simp only[Man.cov,Man.col,y8]<;>grind
theorem ci1(a b c d e f:D):(List.zip [a,b,c] [d,e,f])=[(a,d),(b,e),(c,f)]:=rfl
theorem ln2(a b:D):([a,b]:List D).length=2:=rfl
theorem aE6(m:Man) {k:Nat}{c x1 x2 x3 d y1 y2 y3:Rat}(S:Spot k c x1 x2 x3) (T:Spot k d y1 y2 y3) (l:6*k+4<=8000) :
  X8 [.str m.s,sp c x1 x2 x3,sp d y1 y2 y3]=some (sp (m.cov c d) (m.col c d x1 y1) (m.col c d x2 y2) (m.col c d x3 y3))/\Spot (6*k+4) (m.cov c d) (m.col c d x1 y1) (m.col c d x2 y2) (m.col c d x3 y3):=by
 have s1:IsSh k x1:=⟨S.hx,Rat.le_trans S.xc S.hc.le⟩
 have s2:IsSh k x2:=⟨S.hy,Rat.le_trans S.yc S.hc.le⟩
 have s3:IsSh k x3:=⟨S.hz,Rat.le_trans S.zc S.hc.le⟩
 have t1:IsSh k y1:=⟨T.hx,Rat.le_trans T.xc T.hc.le⟩
 have t2:IsSh k y2:=⟨T.hy,Rat.le_trans T.yc T.hc.le⟩
 have t3:IsSh k y3:=⟨T.hz,Rat.le_trans T.zc T.hc.le⟩
 have a0:=bm5 m S.hc T.hc l
 have a1:=aj2 m S.hc T.hc s1 t1 l
 have a2:=aj2 m S.hc T.hc s2 t2 l
 have a3:=aj2 m S.hc T.hc s3 t3 l
 refine⟨?_,⟨⟨a0.2,bV4 m S.hc.bd.nn T.hc.bd.nn S.hc.le T.hc.le⟩,a1.2,a2.2,a3.2,aE3 m S.hc.bd.nn T.hc.bd.nn S.hc.le T.hc.le S.hx.nn T.hx.nn S.xc T.xc,aE3 m S.hc.bd.nn T.hc.bd.nn S.hc.le T.hc.le S.hy.nn T.hy.nn S.yc T.yc,aE3 m S.hc.bd.nn T.hc.bd.nn S.hc.le T.hc.le S.hz.nn T.hz.nn S.zc T.zc⟩⟩
 refine K6 (ρ:=[‹.str m.s›,‹sp c x1 x2 x3›,‹sp d y1 y2 y3›,none,none,none]) rfl ?_
 have f3:∀a b c:D,([a,b,c]:List D).length<=16777216:=fun a b c=>by show 3<=16777216;decide
 wp_walk using evA,an3,sp,ci1,f3,ln2,a0.1,a1.1,a2.1,a3.1
end Sh
namespace Sh
open PySem G L2
inductive Rul where
 | turn|grey|round
end Sh
namespace Sh
open PySem G L2
end Sh
namespace Sh
open PySem G L2
theorem z3(a b c d e f:D):(List.zip [a,b,c] [d,e,f]).map (fun(x,y)=>PyData.tuple [x,y])=[.tuple [a,d],.tuple [b,e],.tuple [c,f]]:=rfl
end Sh
namespace Sh
open PySem G L2
structure Q4 where
 c:Rat
 x:Rat
 y:Rat
 z:Rat
def Q4.d(q:Q4):D:=sp q.c q.x q.y q.z
def Q4.ok(k:Nat) (q:Q4):Prop:=Spot k q.c q.x q.y q.z
def q0:Q4:=⟨0,0,0,0⟩
theorem ba1{k:Nat}(hk:1<=k):q0.ok k:=by
 have z:IsSh k 0:=⟨Bd.zero.mono hk,by decide⟩
 exact⟨z,z.bd,z.bd,z.bd,Rat.le_refl,Rat.le_refl,Rat.le_refl⟩
theorem Q4.ok.mono{j k:Nat}{q:Q4}(h:q.ok j) (l:j<=k):q.ok k:=Spot.mono h l
def Ly(n:Nat) (d:D):Prop:=PyData.canLay0 d=true/\PyData.depth d<=n
theorem aF4{n:Nat}:∀xs:List D,(∀x∈xs,Ly n x)->PyData.canLayAll0 xs=true/\PyData.depthAll xs<=n
 | [],_=>⟨rfl,Nat.zero_le _⟩
 | x::xs,g=>by
  have a:=g x (List.mem_cons_self ..)
  have b:=aF4 xs fun y hy=>g y (List.mem_cons_of_mem _ hy)
  refine⟨?_,?_⟩
  ·show(PyData.canLay0 x&&PyData.canLayAll0 xs)=true
   rw[a.1,b.1];rfl
  ·show max (PyData.depth x) (PyData.depthAll xs)<=n
   have:=a.2;have:=b.2;grind
theorem Ly.tup{n:Nat}{xs:List D}(h:∀x∈xs,Ly n x):Ly (n+1) (.tuple xs):=⟨(aF4 xs h).1,Nat.succ_le_succ (aF4 xs h).2⟩
theorem Ly.int(n:Nat) (i:Int):Ly n (.int i):=⟨rfl,Nat.zero_le _⟩
theorem Ly.shaped{n:Nat}{d:D}(g:Ly n d) (hn:n<=64):SeqAt.shaped d=true:=by
 unfold SeqAt.shaped
 rw[g.1,Bool.true_and]
 exact decide_eq_true (by have:=g.2;grind)
theorem Ly.q4(q:Q4) (n:Nat):Ly (n+2) q.d:=⟨rfl,by show 2<=n+2;grind⟩
theorem Ly.spots(l:List Q4) (n:Nat):Ly (n+3) (.tuple (l.map Q4.d)):=Ly.tup fun x hx=>by
 obtain⟨q,_,rfl⟩:=List.mem_map.mp hx
 exact Ly.q4 q n
theorem bu6{n:Nat}{d:D}(g:Ly n d) (hn:n<=64):neD d d=some (.bool false):=by
 unfold neD
 rw[if_pos ⟨g.shaped hn,g.shaped hn⟩,SeqAt.eqv_refl d g.1];rfl
theorem bz4{n:Nat}{d:D}(g:Ly n d) (hn:n<=64):eqD d d=some (.bool true):=by
 unfold eqD
 rw[if_pos ⟨g.shaped hn,g.shaped hn⟩,SeqAt.eqv_refl d g.1]
def shD(w h:Nat) (l:List Q4):D:=.tuple [.int w,.int h,.tuple (l.map Q4.d)]
theorem Ly.sheet(w h:Nat) (l:List Q4):Ly 4 (shD w h l):=Ly.tup fun x hx=>by
 simp only[List.mem_cons,List.not_mem_nil,or_false]at hx
 rcases hx with rfl|rfl|rfl
 ·exact Ly.int _ _
 ·exact Ly.int _ _
 ·exact Ly.spots l 0
def atQ(w h:Nat) (l:List Q4) (x y:Int):Q4:=if 0<=x/\x < w/\0<=y/\y < h then l.getD (y*w+x).toNat q0 else q0
structure ShOk (k:Nat) (w h:Nat) (l:List Q4):Prop where
 w1:1<=w
 w8:w<=8
 h1:1<=h
 h8:h<=8
 len:l.length=w*h
 ok:∀q∈l,q.ok k
theorem by7{k:Nat}{l:List Q4}(h:∀q∈l,q.ok k) (hk:1<=k) (i:Nat):(l.getD i q0).ok k:=by
 rw[List.getD_eq_getElem?_getD]
 cases e:l[i]? with
 | none=>exact ba1 hk
 | some q=>exact h q (List.mem_of_getElem? e)
theorem bW6{k w h:Nat}{l:List Q4}(S:ShOk k w h l) (hk:1<=k) (x y:Int):(atQ w h l x y).ok k:=by
 unfold atQ
 split
 ·exact by7 S.ok hk _
 ·exact ba1 hk
theorem bE6{α:Type}{e:DE}{r:Rho}{h f:α->D}:∀(l:List α) (x:Option B),(∀a∈l,e (‹h a›::r)=some (f a))->Z6 (S1 0) T3 e (l.map h) (x::r)=some (l.map f)
 | [],_,_=>rfl
 | a::l,x,H=>by
  simp only[xmc,Z6,S1,xw0,xbs,T3,if_true,H a (List.mem_cons_self ..),bE6 l _ (fun b hb=>H b (List.mem_cons_of_mem _ hb)),xms]
theorem bE5{α:Type}{e:DE}{r:Rho}{h1 h2 f:α->D}:∀(l:List α) (x y:Option B),(∀a∈l,e (‹h1 a›::‹h2 a›::r)=some (f a))->Z6 (V7 2 (M8 (S1 0) (M8 (S1 1) Z5))) T3 e (l.map fun a=>.tuple [h1 a,h2 a]) (x::y::r)=some (l.map f)
 | [],_,_,_=>rfl
 | a::l,x,y,H=>by
  have hl:([h1 a,h2 a]:List D).length=2:=rfl
  simp only[xmc,Z6,V7,M8,Z5,S1,hl,if_true,xw0,xw1,xbs,T3,if_true,H a (List.mem_cons_self ..),bE5 l _ _ (fun b hb=>H b (List.mem_cons_of_mem _ hb)),xms]
theorem bO5{α:Type}{caps:List Nat}{src:Rho->Option (List D)}{e:DE}{ρ r:Rho}{l:List α}{h f:α->D}(hr:ab3 1 caps ρ=none::r) (hs:src ρ=some (l.map h)) (hl:l.length<=1000) (H:∀a∈l,e (‹h a›::r)=some (f a)) :
  P9 1 caps src (S1 0) T3 e ρ=some (l.map f):=by
 unfold P9
 rw[hs,xbs,if_pos (by rw[List.length_map];grind),hr,bE6 l _ H]
theorem bO4{α:Type}{caps:List Nat}{src:Rho->Option (List D)}{e:DE}{ρ r:Rho}{l:List α}{h1 h2 f:α->D}(hr:ab3 2 caps ρ=none::none::r) (hs:src ρ=some (l.map fun a=>.tuple [h1 a,h2 a])) (hl:l.length<=1000) (H:∀a∈l,e (‹h1 a›::‹h2 a›::r)=some (f a)) :
  P9 2 caps src (V7 2 (M8 (S1 0) (M8 (S1 1) Z5))) T3 e ρ=some (l.map f):=by
 unfold P9
 rw[hs,xbs,if_pos (by rw[List.length_map];omega),hr,bE5 l _ _ H]
theorem bq8{f:DE}{ρ:Rho}{n:Nat}(h:f ρ=some (.int n)) (hn:n<=1000):d6 f ρ=some ((List.range n).map fun k:Nat=>PyData.int k):=by
 unfold d6
 rw[h,xbs]
 show(if -(2 ^ 62)<=(n:Int)/\(n:Int) < 2 ^ 62 then some (V9 0 n) else none)=_
 rw[if_pos ⟨by grind,by grind⟩]
 unfold V9
 congr 1
 have e:((n:Int) - 0).toNat=n:=by grind
 rw[e]
 apply List.map_congr_left
 intro k _
 congr 1
 grind
theorem bO8{i j:Int}(h1:F3 i) (h2:F3 j):R7 (.int i) (.int j)=some (.int (i*j)):=P4 h1 h2
theorem u5{i j:Nat}(h1:i<=1000) (h2:j<=1000):R7 (.int i) (.int j)=some (.int ((i*j:Nat):Int)):=by
 rw[bO8 (W8 (k:=10) (by grind) (by decide)) (W8 (k:=10) (by grind) (by decide)),Int.natCast_mul]
def plc(w n:Nat):List (Int×Int):=(List.range n).map fun k=>(((k % w:Nat):Int),((k / w:Nat):Int))
theorem br8{w h:Nat}{p:Int×Int}(hp:p∈plc w (w*h)) (w1:1<=w):0<=p.1/\p.1 < w/\0<=p.2/\p.2 < h:=by
 obtain⟨k,hk,rfl⟩:=List.mem_map.mp hp
 have hk:=List.mem_range.mp hk
 have a:=Nat.mod_lt k (show w > 0 by omega)
 have b:=Nat.div_lt_of_lt_mul hk
 exact⟨Int.natCast_nonneg _,Int.ofNat_lt.mpr a,Int.natCast_nonneg _,Int.ofNat_lt.mpr b⟩
theorem br9(w n:Nat):(plc w n).length=n:=by unfold plc;rw[List.length_map,List.length_range]
theorem aP8{w h:Nat}{x y:Int}(b:0<=x/\x < w/\0<=y/\y < h):0<=y*w+x/\y*w+x < ((w*h:Nat):Int):=by
 obtain⟨a,b,c,e⟩:=b
 have p:0<=y*(w:Int):=Int.mul_nonneg c (by grind)
 refine⟨by grind,?_⟩
 have:(y+1)*(w:Int)<=h*(w:Int):=Int.mul_le_mul_of_nonneg_right (by grind) (by grind)
 have e2:(y+1)*(w:Int)=y*w+w:=by rw[Int.add_mul,Int.one_mul]
 have e3:((w*h:Nat):Int)=h*w:=by rw[Int.natCast_mul,Int.mul_comm]
 grind
def Man.bl(m:Man) (a b:Q4):Q4:=⟨m.cov a.c b.c,m.col a.c b.c a.x b.x,m.col a.c b.c a.y b.y,m.col a.c b.c a.z b.z⟩
theorem bE9(m:Man) {k:Nat}{a b:Q4}(S:a.ok k) (T:b.ok k) (l:6*k+4<=8000):X8 [.str m.s,a.d,b.d]=some (m.bl a b).d/\(m.bl a b).ok (6*k+4):=aE6 m S T l
def blL(m:Man) (a b:List Q4):List Q4:=(a.zip b).map fun p=>m.bl p.1 p.2
theorem bY0(a b:List Q4):((a.map Q4.d).zip (b.map Q4.d)).map (fun(x,y)=>PyData.tuple [x,y])=(a.zip b).map fun p=>.tuple [p.1.d,p.2.d]:=by
 rw[List.zip_map,List.map_map];rfl
theorem T8(m:Man) {k w h:Nat}{a b:List Q4}(S:ShOk k w h a) (T:ShOk k w h b) (l:6*k+4<=8000):B5 [.str m.s,shD w h a,shD w h b]=some (shD w h (blL m a b))/\ShOk (6*k+4) w h (blL m a b):=by
 have wh:w*h<=64:=Nat.mul_le_mul S.w8 S.h8
 have hz:(a.zip b).length=w*h:=by rw[List.length_zip,S.len,T.len,Nat.min_self]
 refine⟨?_,S.w1,S.w8,S.h1,S.h8,by unfold blL;rw[List.length_map,hz],fun q hq=>?_⟩
 ·refine K6 (ρ:=[‹.str m.s›,‹shD w h a›,‹shD w h b›,none]) rfl ?_
  have g:ah9 (qE (dIx (C9 1) ⇑2)) (qE (dIx (C9 2) ⇑2)) [‹.str m.s›,‹shD w h a›,‹shD w h b›,none]=some (((a.map Q4.d).zip (b.map Q4.d)).map (fun(x,y)=>PyData.tuple [x,y])):=rfl
  have c:P9 2 [0] (ah9 (qE (dIx (C9 1) ⇑2)) (qE (dIx (C9 2) ⇑2))) (V7 2 (M8 (S1 0) (M8 (S1 1) Z5))) T3 (B1 X8 (A0 (A4 2) (A0 (A4 0) (A0 (A4 1) A9)))) [‹.str m.s›,‹shD w h a›,‹shD w h b›,none]=some ((blL m a b).map Q4.d):=by
   rw[bO4 (l:=a.zip b) (h1:=fun p=>p.1.d) (h2:=fun p=>p.2.d) (f:=fun p=>(m.bl p.1 p.2).d) (r:=[‹.str m.s›]) rfl (by rw[g,bY0]) (by omega) ?_]
   ·unfold blL;rw[List.map_map];rfl
   ·intro p hp
    have pa:=S.ok p.1 (List.of_mem_zip hp).1
    have pb:=T.ok p.2 (List.of_mem_zip hp).2
    wp_walk using evD,(bE9 m pa pb l).1
  have g0:∀v:Option B,dIx (C9 1) ⇑0 [‹.str m.s›,‹shD w h a›,‹shD w h b›,v]=some (.int w):=fun _=>rfl
  have g1:∀v:Option B,dIx (C9 1) ⇑1 [‹.str m.s›,‹shD w h a›,‹shD w h b›,v]=some (.int h):=fun _=>rfl
  simp only[X5,M7,r8,c,g0,g1,L3,W4,A0,A9,ad6,C9,xw0,xw1,xms,xbs,xg0,xg1]
  rfl
 ·obtain⟨p,hp,rfl⟩:=List.mem_map.mp hq
  exact(bE9 m (S.ok p.1 (List.of_mem_zip hp).1) (T.ok p.2 (List.of_mem_zip hp).2) l).2
end Sh
namespace Sh
open PySem G L2
abbrev scr(ns:List Int):D:=.list (ns.map PyData.int)
theorem v9(ns:List Int) (k m:Nat) (hn:ns.length<=63) (hk:k < 2 ^ 60) (hm:0 < m):∃n:Nat,J5 [scr ns,.int k,.int m]=some (.int n)/\n < m:=by
 have a:=af8 ns k m hn hk (by grind)
 have b:=af2 ns k m (by grind)
 refine⟨(w9 ns k m).toNat,?_,by grind⟩
 rw[a]
 congr 2
 grind
theorem aM3{h:D->D->Option D}{f g:DE}{ρ:Rho}{x y:D}(h1:f ρ=some x) (h2:g ρ=some y):B4 h f g ρ=h x y:=by unfold B4;rw[h1,xbs,h2,xbs]
theorem U5{α:Type}(a:α):∀n:Nat,(List.replicate n [a]).flatten=List.replicate n a
 | 0=>rfl
 | n+1=>by rw[List.replicate_succ,List.flatten_cons,U5 a n];rfl
theorem be2{xs:List D}{n:Nat}(hn:n<=1000) (hx:xs.length<=1000):R7 (.list xs) (.int n)=some (.list (List.replicate n xs).flatten):=by
 show(if 0<=(n:Int)/\(n:Int) < 1000000/\xs.length*((n:Int)).toNat<=16777216 then some (PyData.list (List.replicate ((n:Int)).toNat xs).flatten) else none)=_
 rw[Int.toNat_natCast,if_pos ⟨by omega,by omega,Nat.le_trans (Nat.mul_le_mul hx hn) (by decide)⟩]
theorem cl8(a:D) (r:List D):ae2 (a::r) none (some 1)=[a]:=by
 unfold ae2
 have h1:HT.sIx (a::r).length 0 none=0:=by simp[HT.sIx]
 have h2:HT.sIx (a::r).length (a::r).length (some 1)=1:=by simp only[HT.sIx,List.length_cons];first|omega|(simp;omega)|simp
 rw[h1,h2];rfl
theorem aN6(ns:List Int) (k:Nat) (hn:ns.length<=63) (hk:k < 2 ^ 30):∃q:Q4,X7 [scr ns,.int k]=some q.d/\q.ok 8:=by
 obtain⟨c,x,y,z,e,S⟩:=bX5 ns k hn hk
 exact⟨⟨c,x,y,z⟩,e,S⟩
theorem aZ1(ns:List Int) (at':Nat) (hn:ns.length<=63) (ha:at' < 2 ^ 20):∃f:Nat->Q4,∀k,k < 1000->X7 [scr ns,.int ((at'+12*k:Nat):Int)]=some (f k).d/\(f k).ok 8:=by
 refine⟨fun k=>if h:k < 1000 then Classical.choose (aN6 ns (at'+12*k) hn (by grind)) else q0,fun k hk=>?_⟩
 simp only[dif_pos hk]
 exact Classical.choose_spec (aN6 ns (at'+12*k) hn (by grind))
theorem Y5(ns:List Int) (at' w h:Nat) (hn:ns.length<=63) (ha:at' < 2 ^ 20) (w1:1<=w) (w8:w<=8) (h1:1<=h) (h8:h<=8):∃l:List Q4,Q7 [scr ns,.int at',.int w,.int h]=some (shD w h l)/\ShOk 8 w h l:=by
 obtain⟨f,hf⟩:=aZ1 ns at' hn ha
 have wh:w*h<=64:=Nat.mul_le_mul w8 h8
 have wh1:1<=w*h:=Nat.mul_le_mul w1 h1
 obtain⟨t,et,ht⟩:=v9 ns (at'+7) 3 hn (by grind) (by decide)
 have et':J5 [scr ns,.int ((at':Int)+7),.int 3]=some (.int t):=by rw[← et];simp
 have c:P9 1 [0,1] (d6 (B4 R7 (A4 2) (A4 3))) (S1 0) T3 (B1 X7 (A0 (A4 1) (A0 (B4 y6 (A4 2) (B4 R7 ⇑12 (A4 0))) A9))) [‹scr ns›,‹.int at'›,‹.int w›,‹.int h›,none]=some ((List.range (w*h)).map fun k=>(f k).d):=by
  refine bO5 (l:=List.range (w*h)) (h:=fun k:Nat=>PyData.int k) (r:=[‹scr ns›,‹.int at'›]) rfl (bq8 ?_ (by grind)) (by rw[List.length_range];grind) ?_
  ·exact u5 (by grind) (by grind)
  ·intro k hk
   have hk:=List.mem_range.mp hk
   have m12:R7 (.int 12) (.int k)=some (.int ((12*k:Nat):Int)):=u5 (i:=12) (by decide) (by grind)
   have e1:((at':Int)+((12*k:Nat):Int))=((at'+12*k:Nat):Int):=by grind
   wp_walk using evD,m12,e1,(hf k (by grind)).1
 have mwh:R7 (.int w) (.int h)=some (.int ((w*h:Nat):Int)):=u5 (by grind) (by grind)
 have cv:((t:Int)==0)=decide (t=0):=by cases t with
  | zero=>rfl
  | succ n=>rw[decide_eq_false (by grind)];exact beq_eq_false_iff_ne.mpr (by grind)
 obtain⟨n,en⟩:∃n,w*h=n+1:=⟨w*h - 1,by grind⟩
 by_cases t0:t=0
 ·refine⟨List.replicate (w*h) (f 0),?_,w1,w8,h1,h8,List.length_replicate ..,fun q hq=>by rw[(List.mem_replicate.mp hq).2];exact(hf 0 (by decide)).2⟩
  refine K6 (ρ:=[‹scr ns›,‹.int at'›,‹.int w›,‹.int h›,none]) rfl ?_
  have hd:(List.range (w*h)).map (fun k=>(f k).d)=(f 0).d::(List.range n).map (fun k=>(f (k+1)).d):=by
   rw[en,List.range_succ_eq_map,xmc,List.map_map];rfl
  rw[hd]at c
  have v:B4 R7 (bk7 (A4 4) ac4 (ac3 ⇑1)) (B4 R7 (A4 2) (A4 3)) [‹scr ns›,‹.int at'›,‹.int w›,‹.int h›,‹.list ((f 0).d::(List.range n).map (fun k=>(f (k+1)).d))›]=some (.list (List.replicate (w*h) (f 0).d)):=by
   have a1:bk7 (A4 4) ac4 (ac3 ⇑1) [‹scr ns›,‹.int at'›,‹.int w›,‹.int h›,‹.list ((f 0).d::(List.range n).map (fun k=>(f (k+1)).d))›]=some (.list (ae2 ((f 0).d::(List.range n).map (fun k=>(f (k+1)).d)) none (some 1))):=rfl
   have a2:B4 R7 (A4 2) (A4 3) [‹scr ns›,‹.int at'›,‹.int w›,‹.int h›,‹.list ((f 0).d::(List.range n).map (fun k=>(f (k+1)).d))›]=some (.int ((w*h:Nat):Int)):=(aM3 rfl rfl).trans mwh
   rw[cl8]at a1
   have a3:=be2 (xs:=[(f 0).d]) (show w*h<=1000 by grind) (show 1<=1000 by decide)
   rw[U5]at a3
   exact(aM3 a1 a2).trans a3
  have t1:tB2 eqD (B1 J5 (A0 (A4 0) (A0 (B4 y6 (A4 1) ⇑7) (A0 ⇑3 A9)))) ⇑0 [‹scr ns›,‹.int at'›,‹.int w›,‹.int h›,‹.list ((f 0).d::(List.range n).map (fun k=>(f (k+1)).d))›]=some true:=by
   simp only[tB2,B4,B1,A0,A9,A4,dC,xms,xbs,xg0,xg1,ai5,et',bz3,cv,decide_eq_true t0,l6]
  simp only[ab4,M7,r8,c,sIf,t1,R6,v,L3,W4,A0,A9,ad6,C9,A4,xms,xbs,xw0,xw1,xg0,xg1,if_true,xft,if_false,shD,List.map_replicate]
 ·refine⟨(List.range (w*h)).map f,?_,w1,w8,h1,h8,by rw[List.length_map,List.length_range],fun q hq=>by
   obtain⟨k,hk,rfl⟩:=List.mem_map.mp hq
   exact(hf k (by have:=List.mem_range.mp hk;grind)).2⟩
  refine K6 (ρ:=[‹scr ns›,‹.int at'›,‹.int w›,‹.int h›,none]) rfl ?_
  wp_walk using evD,ab4,c,et',cv,decide_eq_false t0,shD,List.map_map
  rfl
end Sh
namespace Sh
open PySem G L2
theorem q4:(4:Nat)<=16777216:=by decide
theorem q3:(3:Nat)<=16777216:=by decide
end Sh
namespace Sh
open PySem G L2
def Q4.or(q:Q4):Prop:=0<=q.x/\0<=q.y/\0<=q.z/\q.x<=q.c/\q.y<=q.c/\q.z<=q.c/\q.c<=1
theorem Q4.ok.or{k:Nat}{q:Q4}(h:q.ok k):q.or:=⟨h.hx.nn,h.hy.nn,h.hz.nn,h.xc,h.yc,h.zc,h.hc.le⟩
end Sh
namespace Sh
open PySem G L2
inductive Nd where
 | layer (nm:D) (m:Man) (s:Rat) (sh:Bool) (lf tp:Int) (mk:Option (List Rat)) (w h:Nat) (l:List Q4) (kb:Nat)
 | tone (nm:D) (r:Rul) (s:Rat) (sh:Bool)
 | group (nm:D) (m:Man) (s:Rat) (sh:Bool) (ns:List Nd)
section
variable {nm:D}{m:Man}{r:Rul}{s:Rat}{sh:Bool}{lf tp:Int}{mk:Option (List Rat)}{w h:Nat}{l:List Q4}{kb:Nat}{ns:List Nd}
end
end Sh
namespace Sh
open PySem G L2
end Sh
namespace Sh
open PySem G L2
end Sh
namespace Sh
open PySem G L2
end Sh
namespace Sh
open PySem G L2
def same(a b:D):Bool:=@decide (a=b) (Classical.propDecidable _)
end Sh
namespace Sh
open PySem G L2
end Sh
namespace Sh
open PySem G L2
def Man.four(m:Man):Prop:=m=.over\/m=.mult\/m=.screen\/m=.plus
end Sh
namespace Sh
open PySem G L2
end Sh
namespace Sh
open PySem G L2
theorem bl9{m:Man}(f:m.four) {a b c:Q4}(ha:a.or) (hb:b.or) (hc:c.or):m.bl (m.bl a b) c=m.bl a (m.bl b c):=by
 obtain⟨x0,y0,z0,xc,yc,zc,c1⟩:=ha
 obtain⟨x0',y0',z0',xc',yc',zc',c1'⟩:=hb
 obtain⟨x0'',y0'',z0'',xc'',yc'',zc'',c1''⟩:=hc
 have k1:=Rat.le_trans x0 xc
 have k2:=Rat.le_trans x0' xc'
 have k3:=Rat.le_trans x0'' xc''
 have cov:∀{c d e:Rat},0<=c->0<=d->0<=e->m.cov (m.cov c d) e=m.cov c (m.cov d e):=fun{c d e} _ _ _=>by
  rcases f with rfl|rfl|rfl|rfl<;>simp only[Man.cov,y8]<;>grind
 have col:∀{c d e x y z:Rat},0<=x->0<=y->0<=z->m.col (m.cov c d) e (m.col c d x y) z=m.col c (m.cov d e) x (m.col d e y z):=fun{c d e x y z} _ _ _=>by
  rcases f with rfl|rfl|rfl|rfl<;>simp only[Man.cov,Man.col,y8]<;>grind
 unfold Man.bl
 simp only[Q4.mk.injEq]
 exact⟨cov k1 k2 k3,col x0 x0' x0'',col y0 y0' y0'',col z0 z0' z0''⟩
end Sh
namespace Sh
open PySem G L2
abbrev Bx:=Option (Int×Int×Int×Int)
def Bx.le(A B:Bx):Prop:=match A,B with
 | none,_=>True
 | some _,none=>False
 | some (l,t,r,b),some (l',t',r',b')=>l'<=l/\t'<=t/\r<=r'/\b<=b'
theorem le_refl(A:Bx):Bx.le A A:=by
 cases A with
 | none=>exact trivial
 | some a=>show _/\_/\_/\_;grind
theorem le_trans{A B C:Bx}(h1:Bx.le A B) (h2:Bx.le B C):Bx.le A C:=by
 cases A with
 | none=>exact trivial
 | some a =>
  cases B with
  | none=>exact h1.elim
  | some b =>
   cases C with
   | none=>exact h2.elim
   | some c =>
    obtain⟨a1,a2,a3,a4⟩:=h1
    obtain⟨b1,b2,b3,b4⟩:=h2
    exact⟨Int.le_trans b1 a1,Int.le_trans b2 a2,Int.le_trans a3 b3,Int.le_trans a4 b4⟩
theorem cb7(m:Man) {q:Q4}(o:q.or):m.bl q0 q=q:=by
 obtain⟨x0,y0,z0,xc,yc,zc,c1⟩:=o
 have cov:∀{d:Rat},0<=d->d<=1->m.cov 0 d=d:=fun{d} _ _=>by cases m<;>simp only[Man.cov,y8]<;>grind
 have col:∀{d y:Rat},0<=y->y<=1->m.col 0 d 0 y=y:=fun{d y} _ _=>by cases m<;>simp only[Man.col,y8]<;>grind
 unfold Man.bl q0
 simp only
 rw[cov (Rat.le_trans x0 xc) c1,col x0 (Rat.le_trans xc c1),col y0 (Rat.le_trans yc c1),col z0 (Rat.le_trans zc c1)]
end Sh
namespace G
open PySem PySem.Spec PySem.W PyProof.Rows L2
def evT(lt:Nat->Nat->Bool) {α:Type}:KasT α->α
 | .ret a=>a
 | .ask i j k=>evT lt (k (lt i j))
section
variable {lt:Nat->Nat->Bool}
theorem b9(p:Array Nat) (s e:Nat):(kas_rev p s e).Perm p:=mirror_perm ..
end
end G
namespace G
open PySem PySem.Spec PySem.W PyProof.Rows L2 PySem.SeqAt
def Ask(n:Nat) {α:Type}(P:α->Prop):KasT α->Prop
 | .ret a=>P a
 | .ask i j k=>i < n/\j < n/\∀b,Ask n P (k b)
theorem Ask.bind{n:Nat}{α β:Type}{P:α->Prop}{P':β->Prop}{f:α->KasT β}(hf:∀a,P a->Ask n P' (f a)):∀{t:KasT α},Ask n P t->Ask n P' (t.bind f)
 | .ret a,h=>hf a h
 | .ask i j k,h=>⟨h.1,h.2.1,fun b=>Ask.bind hf (h.2.2 b)⟩
theorem Ask.ite{n:Nat}{α:Type}{P:α->Prop}{c:Prop} [Decidable c] {s t:KasT α}(h1:Ask n P s) (h2:Ask n P t):Ask n P (if c then s else t):=by split<;>assumption
def LoP(n:Nat) (p:Array Nat):Prop:=p.size=n/\∀x∈p,x < n
section
variable {n:Nat}(hn:0 < n)
include hn
theorem LoP.get{p:Array Nat}(h:LoP n p) (k:Nat):p.getD k 0 < n:=by
 rw[Array.getD_eq_getD_getElem?]
 rcases Nat.lt_or_ge k p.size with q|q
 ·rw[Array.getElem?_eq_getElem q];exact h.2 _ (Array.getElem_mem q)
 ·rw[Array.getElem?_eq_none q];exact hn
omit hn in
theorem LoP.perm{p q:Array Nat}(h:LoP n p) (e:q.Perm p):LoP n q:=⟨e.size_eq.trans h.1,fun x hx=>h.2 x (e.mem_iff.mp hx)⟩
theorem aF3{p:Array Nat}(h:LoP n p):∀(f m:Nat),Ask n (fun _=>True) (kas_asc p f m)
 | 0,_=>trivial
 | f+1,m=>⟨h.get hn _,h.get hn _,fun b=>.ite (c:=b=true) trivial (aF3 h f (m+1))⟩
theorem af3:∀(f:Nat) (p:Array Nat) (m q:Nat),LoP n p->Ask n (fun r:Array Nat×Nat×Nat=>LoP n r.1) (kas_desc f p m q)
 | 0,_,_,_,h=>h
 | f+1,p,m,q,h=>⟨h.get hn _,h.get hn _,fun b=>.ite (c:=b=true) (.ite (af3 f _ _ _ (h.perm (b9 ..))) (af3 f _ _ _ h)) ⟨h.get hn _,h.get hn _,fun d=>.ite (c:=d=true) h (af3 f _ _ _ h)⟩⟩
theorem au1{p:Array Nat}(m r:Nat) (h:LoP n p):Ask n (fun r:Nat×Array Nat=>LoP n r.2) (kas_tail3 m r p):=by
 unfold kas_tail3
 refine Ask.bind (P:=fun _=>True) (fun m _=>?_) (aF3 hn (h.perm (b9 ..)) _ _)
 exact h.perm (b9 ..)
theorem ad5{p:Array Nat}(m r:Nat) (h:LoP n p):Ask n (fun r:Nat×Array Nat=>LoP n r.2) (kas_descPart m r p):=by
 unfold kas_descPart
 exact Ask.bind (fun x hx=>Ask.ite (au1 hn _ _ (LoP.perm hx (b9 ..))) (au1 hn _ _ hx)) (af3 hn _ _ _ _ h)
theorem bk9{p:Array Nat}(r:Nat) (h:LoP n p):Ask n (fun r:Nat×Array Nat=>LoP n r.2) (kas_count r p):=by
 unfold kas_count
 refine Ask.bind (fun m _=>?_) (aF3 hn h _ _)
 refine Ask.ite h (Ask.ite ⟨h.get hn _,h.get hn _,fun b=>?_⟩ (ad5 hn _ _ h))
 exact Ask.ite (c:=b=true) h (ad5 hn _ _ (h.perm (b9 ..)))
theorem ah0{p:Array Nat}(h:LoP n p) (k:Nat):∀(f l r:Nat),Ask n (fun _=>True) (kas_place p k f l r)
 | 0,_,_=>trivial
 | f+1,l,r=>.ite (c:=l ≥ r) trivial ⟨h.get hn _,h.get hn _,fun b=>.ite (c:=b=true) (ah0 h k f _ _) (ah0 h k f _ _)⟩
theorem bm0:∀(f:Nat) (p:Array Nat) (k:Nat),LoP n p->Ask n (LoP n) (kas_bin f p k)
 | 0,_,_,h=>h
 | f+1,p,k,h=>by
  unfold kas_bin
  exact Ask.bind (fun l _=>bm0 f _ _ (h.perm (bubble_perm ..))) (ah0 hn h k _ _ _)
theorem bp6:Ask n (LoP n) (kas_sort n):=by
 unfold kas_sort
 refine Ask.bind (fun r hr=>?_) (bk9 hn n (show LoP n (List.toArray (List.range n)) from⟨by simp,fun x hx=>by simpa using hx⟩))
 exact Ask.ite (bm0 hn _ _ _ hr) hr
end
theorem aN2{n:Nat}{α:Type}{P:α->Prop}{cmp:Nat->Nat->(Bool->Shared->Prop)->Shared->Prop}{lt:Nat->Nat->Bool}{Q:α->Shared->Prop}{s:Shared}(hc:∀i j C,i < n->j < n->C (lt i j) s->cmp i j C s):∀{t:KasT α},Ask n P t->(P (evT lt t)->Q (evT lt t) s)->t.kasWp cmp Q s
 | .ret a,h,q=>q h
 | .ask i j k,h,q=>hc i j _ h.1 h.2.1 (aN2 hc (h.2.2 _) q)
section
variable {prog:Program}{w:World}{A:Around}{E:Value->Shared->Prop}{s:Shared}
theorem be8{a:Addr}{vs out:List Value}{n:Nat}{P:PySem.Fin->Shared->Prop}(ho:s.heap.get? a=some (seqObj "list" vs.toArray n)) (h64:vs.length < 64) (h1:vs.length < 2->out=vs)
  (hk:2<=vs.length->∀h':Heap,(∀b o,b≠a->s.heap.get? b=some o->h'.get? b=some o) ->
   wpAny (model prog w) A (keyKind' vs.toArray) (fun κ s'=>(kas_sort vs.length).kasWp (kas_ask prog w A κ vs) (fun p s''=>s''={ s with heap:=h' }/\(p.toList.map fun i=>vs.getD i Value.none)=out) s') (fun _ _=>False) { s with heap:=h' })
  (h:∀h' c,(∀b o,b≠a->s.heap.get? b=some o->h'.get? b=some o)->h'.get? a=some (seqObj "list" out.toArray c)->P (.done (.ret .none)) { s with heap:=h' }) :
  wpAny (model prog w) A (Builtin.«list.sort» ⟨[.ref a],[]⟩) P E s:=by
 have ha:a < s.heap.objs.size:=Heap.lt_size ho
 have hsz:vs.toArray.size=vs.length:=by simp
 obtain⟨e1,ho1⟩:∃e1,(s.heap.update a (Obj.mapSeq fun _=>(#[]:Array Value))).get? a=some (seqObj "list" #[] e1):=⟨_,get?_update_seq ho fun _=>#[]⟩
 have s1:=Heap.SameBut.update s.heap a (Obj.mapSeq fun _=>(#[]:Array Value))
 rw[list_sort_plain]
 refine wpAny_bind (listItems_at ho rfl ?_)
 refine wpAny_bind (listUpdate_at ho rfl ?_ (by rw[List.size_toArray,sizeLine_eq];omega) (Nat.zero_le _))
 refine wpAny_bind (seqEpoch_at ho1 rfl ?_)
 refine wpAny_bind (wpAny_newTuple ?_ (by show vs.length<=_;rw[sizeLine_eq];omega))
 refine wpAny_bind (wpAny_newList ?_ (Nat.zero_le _))
 refine wpAny_holding ?_
 have keep:∀b o,b≠a->s.heap.get? b=some o->(((s.heap.update a (Obj.mapSeq fun _=>(#[]:Array Value))).push (seqObj "tuple" vs.toArray 0)).push (seqObj "list" #[] 0)).get? b=some o:=fun b o hb q =>
  Heap.get?_push_of_some _ (Heap.get?_push_of_some _ (s1.extBut b o hb q))
 have ho3:(((s.heap.update a (Obj.mapSeq fun _=>(#[]:Array Value))).push (seqObj "tuple" vs.toArray 0)).push (seqObj "list" #[] 0)).get? a=some (seqObj "list" #[] e1):=Heap.get?_push_of_some _ (Heap.get?_push_of_some _ ho1)
 show wpAny _ _ _ _ _ { s with heap:=((s.heap.update a (Obj.mapSeq fun _=>(#[]:Array Value))).push (seqObj "tuple" vs.toArray 0)).push (seqObj "list" #[] 0) }
 generalize ((s.heap.update a (Obj.mapSeq fun _=>(#[]:Array Value))).push (seqObj "tuple" vs.toArray 0)).push (seqObj "list" #[] 0)=h3 at keep ho3
 have fin:∃c,(h3.update a (Obj.mapSeq fun _=>out.toArray)).get? a=some (seqObj "list" out.toArray c):=⟨_,get?_update_seq ho3 fun _=>out.toArray⟩
 obtain⟨c,hc⟩:=fin
 have keep':∀b o,b≠a->s.heap.get? b=some o->(h3.update a (Obj.mapSeq fun _=>out.toArray)).get? b=some o:=fun b o hb q=>(Heap.SameBut.update h3 a _).extBut b o hb (keep b o hb q)
 by_cases h2:vs.toArray.size < 2
 ·rw[if_pos h2,if_pos h2]
  refine wpAny_bind (wpAny_pure ?_)
  dsimp only
  rw[StateT.run_pure]
  refine wpAny_bind (wpAny_pure ?_)
  dsimp only
  have ez:(arrOf (SortSt.mk' general' (vs.toArray.zip vs.toArray) #[] 7 none)).map (·.2)=out.toArray:=by
   rw[h1 (by omega)]
   show(vs.toArray.zip vs.toArray).map (·.2)=vs.toArray
   apply Array.toList_inj.mp
   simp[List.map_snd_zip]
  rw[ez]
  refine wpAny_bind (seqEpoch_at ho3 rfl ?_)
  refine wpAny_bind (listUpdate_at ho3 rfl ?_ (Nat.zero_le _) (by rw[List.size_toArray,sizeLine_eq,h1 (by omega)];omega))
  show wpAny _ _ _ _ _ _
  simp only[bne_self_eq_false,xft,if_false]
  exact wpAny_pure (h _ c keep' hc)
 ·rw[if_neg h2,if_neg h2]
  refine wpAny_bind (wpAny_mono (hk (by omega) h3 keep) (fun κ s' hκ=>?_) fun _ _ x=>x.elim)
  refine wpAny_bind (wpAny_mono (kat_run (E:=E) (Q:=fun st' s''=>∃p:Array Nat,p.size=vs.length/\arrOf st'=p.map (kas_item (vs.toArray.zip vs.toArray))/\failedOf st'=none/\s''={ s with heap:=h3 }/\(p.toList.map fun i=>vs.getD i Value.none)=out) rfl (by omega) h64
   (fun p st' s'' a1 a2 a3 a4=>⟨p,a1,a2,a3,a4⟩) hκ) ?_ fun _ _ e=>e)
  rintro⟨⟨⟩,st'⟩ s'' ⟨p,hp,har,hf,rfl,e⟩
  dsimp only
  have ez:=kat_snds rfl har
  have hol:out.length=vs.length:=by rw[← e,List.length_map,Array.length_toList,hp]
  rw[e]at ez
  rw[ez]
  refine wpAny_bind (seqEpoch_at ho3 rfl ?_)
  refine wpAny_bind (listUpdate_at ho3 rfl ?_ (Nat.zero_le _) (by rw[List.size_toArray,sizeLine_eq];omega))
  rw[hf]
  simp only[bne_self_eq_false,xft,if_false]
  exact wpAny_pure (h _ c keep' hc)
end
theorem bm3{n:Nat}{α:Type}{P:α->Prop}(lt:Nat->Nat->Bool):∀{t:KasT α},Ask n P t->P (evT lt t)
 | .ret _,h=>h
 | .ask i j k,h=>bm3 (n:=n) (P:=P) lt (t:=k (lt i j)) (h.2.2 (lt i j))
end G
namespace Sh
open PySem PySem.W G L2
theorem aI2{k w h:Nat}{l:List Q4}(S:ShOk k w h l):l=(plc w (w*h)).map fun p=>atQ w h l p.1 p.2:=by
 apply List.ext_getElem
 ·rw[List.length_map,br9,S.len]
 ·intro i i1 i2
  have hi:i < w*h:=by rw[← S.len];exact i1
  have wp:0 < w:=S.w1
  have hy:=Nat.div_lt_of_lt_mul hi
  have hx:=Nat.mod_lt i wp
  rw[List.getElem_map]
  unfold plc
  rw[List.getElem_map,List.getElem_range]
  unfold atQ
  rw[if_pos ⟨Int.natCast_nonneg _,Int.ofNat_lt.mpr hx,Int.natCast_nonneg _,Int.ofNat_lt.mpr hy⟩]
  have e:(((i / w:Nat):Int)*w+((i % w:Nat):Int)).toNat=i:=by
   rw[← Int.natCast_mul,← Int.natCast_add,Int.toNat_natCast,Nat.mul_comm];exact Nat.div_add_mod i w
  rw[e]
  simp[i1]
theorem aB5{k k' w h:Nat}{l l':List Q4}(S:ShOk k w h l) (S':ShOk k' w h l') (H:∀x y:Int,0<=x/\x < w/\0<=y/\y < h->atQ w h l x y=atQ w h l' x y):l=l':=by
 rw[aI2 S,aI2 S']
 apply List.map_congr_left
 intro p hp
 exact H _ _ (br8 hp S.w1)
theorem bl8(m:Man):m.bl q0 q0=q0:=by
 have z1:(0:Rat)+0=0:=Rat.add_zero 0
 have z2:(0:Rat) - 0=0:=by rw[Rat.sub_eq_add_neg,Rat.add_neg_cancel]
 have z3:(0:Rat)<=1:=by decide
 have e:∀m:Man,m.cov 0 0=0/\m.col 0 0 0 0=0:=fun m=>by cases m<;>exact⟨by simp[Man.cov,y8,z1,z2,z3],by simp[Man.col,y8,z1,z2,z3]⟩
 show Q4.mk (m.cov 0 0) (m.col 0 0 0 0) (m.col 0 0 0 0) (m.col 0 0 0 0)=Q4.mk 0 0 0 0
 rw[(e m).1,(e m).2]
theorem ai8(m:Man) {k k' w h:Nat}{a b:List Q4}(S:ShOk k w h a) (T:ShOk k' w h b) (x y:Int):atQ w h (blL m a b) x y=m.bl (atQ w h a x y) (atQ w h b x y):=by
 unfold atQ
 split
 ·rename_i c
  obtain⟨n1,n2⟩:=aP8 c
  unfold blL
  have i1:(y*w+x).toNat < a.length:=by rw[S.len];omega
  have i2:(y*w+x).toNat < b.length:=by rw[T.len];omega
  rw[List.getD_eq_getElem?_getD,List.getD_eq_getElem?_getD,List.getD_eq_getElem?_getD,List.getElem?_map,(List.getElem?_zip_eq_some (z:=(a[(y*w+x).toNat],b[(y*w+x).toNat]))).mpr ⟨List.getElem?_eq_getElem i1,List.getElem?_eq_getElem i2⟩,List.getElem?_eq_getElem i1,List.getElem?_eq_getElem i2]
  rfl
 ·exact(bl8 m).symm
end Sh
namespace Sh
open PySem PySem.Spec PyProof.Rows L2 G
end Sh
namespace Sh
open PySem PySem.Spec PyProof.Rows L2 G
end Sh
namespace Sh
open PySem PySem.Spec PyProof.Rows L2 G
end Sh
namespace Sh
open PySem PySem.Spec PyProof.Rows L2 G
end Sh
namespace G
open PySem PySem.Spec PyProof.Rows L2
section
variable {X:Cx}{S:Sg}{c:Kx}
theorem L0{e:Expr}:JE X e dNo:=fun ρ d h=>by cases h
theorem bD0{e:Expr}:JQ X e qNo:=fun ρ t d h=>by cases h
theorem u7{e:Expr}:JN X e aNo:=fun ρ d h=>by cases h
theorem al4{e:Expr}:JT X e tNo:=fun ρ d h=>by cases h
theorem ce5{e:Expr}:JW X e tNo:=fun ρ d h=>by cases h
theorem ax2{e:Expr}:JG X e gNo:=by
 unfold JG PG
 intros
 rename_i h
 obtain⟨d,ρ,ρ',H0,Hf,z,_⟩:=h
 cases z
theorem cf1{es:List Expr}:JA X es aNo:=⟨fun ρ d h=>(nomatch h),fun ρ d h=>(nomatch h)⟩
theorem bP7{es:List Expr}:JTs X es tNo:=fun pins s σ H Q I ⟨ρ,b,h,_⟩=>by cases h
theorem Y2(hu:X.A.units+64 < cLine):∀op:CmpOp,OpD X (compareOp op) (az2 op)
 | .Lt=>cc9 | .LtE=>cd0 | .Gt=>cd2 | .GtE=>cd3 | .Eq=>bC7 hu | .NotEq=>bC5 hu | .Is=>bC6 | .IsNot=>av7 | .In=>cd1 hu | .NotIn=>bd6 hu
theorem bd5(hu:X.A.units+64 < cLine) (S:Sg) (c:Kx) (op:CmpOp) (b:Expr):OpD X (compareOp op) (opW S c op b):=by
 unfold opW
 split
 ·split
  ·exact bN4
  ·exact aQ7
  ·exact Y2 hu _
 ·split
  ·split
   ·exact bN5 hu
   ·exact aQ8 hu
   ·exact Y2 hu _
  ·exact Y2 hu op
theorem ac9{f:Expr->DE}(h:∀e,JE X e (f e)):∀es,JA X es (evA f es)
 | []=>W2
 | e::es=>by
  unfold evA
  split
  ·rename_i p;exact J7 (h e) (ac9 h es) (C4 p es _)
  ·exact cf1
theorem aq7{f:Expr->DE}(h:∀e,JE X e (f e)) (op:BoolOp) (pos:Pos):∀vs,JE X (.BoolOp op vs pos) (bj7 f op vs)
 | []=>L0
 | [a]=>bS1 (h a)
 | a::b::r=>by
  unfold bj7
  cases op
  ·exact bT0 (h a) (aq7 h .And pos (b::r))
  ·exact ce8 (h a) (aq7 h .Or pos (b::r))
theorem aq4{f:Expr->DT}(h:∀e,JT X e (f e)) (op:BoolOp) (pos:Pos):∀vs,JW X (.BoolOp op vs pos) (bj6 f op vs)
 | []=>ce5
 | [a]=>by cases op;exact bv0 (h a);exact bP5 (h a)
 | a::b::r=>by
  unfold bj6
  cases op
  ·exact bP6 (h a) (aq4 h .And pos (b::r))
  ·exact ce4 (h a) (aq4 h .Or pos (b::r))
theorem i7{f:Expr->DE}(h:∀e,JE X e (f e)):∀o,JO X o (evO f o)
 | none=>bw0
 | some e=>bv9 (h e)
theorem bP8{f:Expr->DT}(h:∀e,JT X e (f e)):∀l,JTs X l (bj4 f l)
 | []=>bv2
 | [t]=>bv1 (h t)
 | _::_::_=>bP7
theorem bg5{f:Expr->DG}(h:∀e,JG X e (f e)):∀es,es.all pl=true->JGs X es (bz2 f es)
 | [],_=>bw5
 | e::es,p=>by
  simp only[List.all_cons,Bool.and_eq_true]at p
  refine bg6 (h e) (bg5 h es p.2) ?_
  have p1:=p.1
  cases e<;>first|rfl|cases p1
theorem aN3{env:Env}:∀{es:List Expr},es.all pl=true->(assignEach es env).length=es.length/\(assignEach es env).findIdx? (·.1)=none
 | [],_=>⟨rfl,rfl⟩
 | e::es,p=>by
  simp only[List.all_cons,Bool.and_eq_true]at p
  obtain⟨h1,h2⟩:=aN3 (env:=env) p.2
  have p1:=p.1
  have q:assignEach (e::es) env=(false,assign e env)::assignEach es env:=by cases e<;>first|rfl|cases p1
  rw[q]
  refine⟨by simp[h1],?_⟩
  simp[List.findIdx?_cons,h2]
structure Sound (S:Sg) (r:Ev):Prop where
 e:∀{c X},Fit S c X->∀ex,JE X ex (r.e c ex)
 q:∀{c X},Fit S c X->∀ex,JQ X ex (r.q c ex)
 n:∀{c X},Fit S c X->∀ex,JN X ex (r.n c ex)
 t:∀{c X},Fit S c X->∀ex,JT X ex (r.t c ex)
 g:∀{c X},Fit S c X->∀ex,JG X ex (r.g c ex)
 b:∀{c X},Fit S c X->∀sts,JSs X sts (r.b c sts)
theorem Fit.hx(F:Fit S c X):∀e s,X.xe e s->False:=fun e s h=>by rw[F.xe]at h;exact h
theorem Fit.po(F:Fit S c X):PassesOwn (model X.prog X.w) X.A X.env X.xe:=by rw[F.xe];exact PassesOwn.never
theorem Fit.slot(F:Fit S c X) {x:Str}{i:Nat}(h:W3 x c.N=some i):X.N[i]? = some x:=by rw[F.N];exact ax3 h
theorem Fit.inner{tn:List Str}{caps:List Nat}{scope:Scope}{C:Addr}{s0:Shared}{H0:Hp}{ex:List Addr}(F:Fit S c X) (hn:(G.inner c tn caps scope).N.Nodup):Fit S (G.inner c tn caps scope) (D9 X (G.inner c tn caps scope).N scope C s0 H0 ex) :=
 ⟨rfl,by show relabel scope X.env=rl scope c.sc;rw[← F.sc];rfl,hn,F.calm,rfl,F.units,(fun h=>by cases h),F.fns,F.css,F.bls⟩
variable {r:Ev}
theorem bR5(R:Sound S r) (F:Fit S c X) (tg a:Expr) {p pos:Pos}(hg:Gl X "reversed") (hm:X.mg "reversed" = none):JI X tg (.Call (.Name "reversed" p) [a] [] pos) (evR S r c tg a):=by
 have no:∀e:Expr,JI X tg e fun _=>none:=fun e ρ ds q=>nomatch q
 unfold evR
 split
 ·split
  ·split
   ·split
    ·split
     ·rename_i h
      simp only[Bool.and_eq_true]at h
      obtain⟨rfl,h1,h2⟩:=K7 F h.1.1.1
      obtain⟨rfl,h3,h4⟩:=K7 F h.1.1.2
      have ht:=h.1.2
      cases tg<;>first|(exact bw3 h3 h4 h1 h2 hg hm F.calm (R.e F _) (C4 h.2 _ _))|(exact nomatch ht)
     ·exact no _
    ·exact no _
   ·exact no _
  ·exact no _
 ·exact no _
theorem bg4(R:Sound S r) (F:Fit S c X) (tg it:Expr):JI X tg it (evI S r c tg it):=by
 unfold evI
 split
 ·rename_i x p a pos
  split
  ·rename_i h
   obtain⟨rfl,h1,h2⟩:=K7 F h
   exact bR5 R F tg a h1 h2
  ·split
   ·rename_i h
    simp only[Bool.and_eq_true]at h
    obtain⟨rfl,h1,h2⟩:=K7 F h.1
    exact aS3 h1 h2 (R.e F a) (C4 h.2 _ _)
   ·split
    ·rename_i h
     simp only[Bool.and_eq_true]at h
     obtain⟨rfl,h1,h2⟩:=K7 F h.1.1
     have ht:=h.1.2
     cases tg<;>first|(exact bw4 h1 h2 (R.e F a) (C4 h.2 _ _))|(exact nomatch ht)
    ·exact aD0 (R.e F _)
 ·rename_i x p a b pos
  split
  ·rename_i h
   simp only[Bool.and_eq_true]at h
   obtain⟨rfl,h1,h2⟩:=K7 F h.1.1
   exact aS2 h1 h2 (R.e F a) (R.e F b) (by rw[C4 h.1.2,C4 h.2];rfl) (C4 h.2 _ _)
  ·split
   ·rename_i h
    simp only[Bool.and_eq_true]at h
    obtain⟨rfl,h1,h2⟩:=K7 F h.1.1.1
    have ht:=h.1.1.2
    cases tg<;>first|(exact bR3 h1 h2 (R.e F a) (R.e F b) (by rw[C4 h.1.2,C4 h.2];rfl) (C4 h.2 _ _))|(exact nomatch ht)
   ·exact aD0 (R.e F _)
 ·split
  ·exact bR4 (R.e F _)
  ·exact aD0 (R.e F _)
theorem aM5(R:Sound S r) (F:Fit S c X) {elt tgt iter:Expr}{ifs:List Expr}{scope:Scope}{caps:List Nat}
  (h:(af4 c.N (G.inner c (T5 tgt) caps scope).N (T5 tgt).length caps c.sc scope&&aa4 (G.inner c (T5 tgt) caps scope).N&&pl iter)=true) :
  CompSc X (G.inner c (T5 tgt) caps scope).N (T5 tgt).length caps scope/\JI X tgt iter (evI S r c tgt iter)/\(∀C s0 H0 ex,JG (D9 X (G.inner c (T5 tgt) caps scope).N scope C s0 H0 ex) tgt (r.g (G.inner c (T5 tgt) caps scope) tgt)) /\
  (∀C s0 H0 ex,JTs (D9 X (G.inner c (T5 tgt) caps scope).N scope C s0 H0 ex) ifs (bj4 (r.t (G.inner c (T5 tgt) caps scope)) ifs))/\(∀C s0 H0 ex,JE (D9 X (G.inner c (T5 tgt) caps scope).N scope C s0 H0 ex) elt (r.e (G.inner c (T5 tgt) caps scope) elt)) /\
  ∀x,foldedSetIterable iter X.env x=pure x:=by
 simp only[Bool.and_eq_true]at h
 obtain⟨⟨h1,h2⟩,h3⟩:=h
 have hn:=aa3 h2
 exact⟨aU5 h1 F.N F.sc,bg4 R F tgt iter,fun C s0 H0 ex=>R.g (F.inner hn) tgt,fun C s0 H0 ex=>bP8 (R.t (F.inner hn)) ifs,fun C s0 H0 ex=>R.e (F.inner hn) elt,ao6 h3 _⟩
theorem ce7(R:Sound S r) (F:Fit S c X) (ex:Expr):JN X ex (evC S r c ex):=by
 unfold evC
 split
 ·rename_i elt tgt iter ifs scope pos
  dsimp only
  split
  ·rename_i h
   obtain⟨h1,h2,h3,h4,h5,h6⟩:=aM5 (ifs:=ifs) (elt:=elt) R F h
   exact bw2 h1 F.hx h2 h3 h4 h5 F.calm h6
  ·exact u7
 ·exact u7
theorem aO0{x:Str}{T:String}(h:bH6 x=some T):bootBuiltins x=some (.type T)/\x ≠ "__name__" /\ (x==("__debug__" : Str))=false:=by
 unfold bH6 at h
 split at h
 ·rename_i e;cases h;simp only[beq_iff_eq]at e;subst e;exact⟨aF2,by decide,by decide⟩
 ·split at h
  ·rename_i e;cases h;simp only[beq_iff_eq]at e;subst e;exact⟨bA8,by decide,by decide⟩
  ·split at h
   ·rename_i e;cases h;simp only[beq_iff_eq]at e;subst e;exact⟨aE9,by decide,by decide⟩
   ·split at h
    ·rename_i e;cases h;simp only[beq_iff_eq]at e;subst e;exact⟨az6,by decide,by decide⟩
    ·split at h
     ·rename_i e;cases h;simp only[beq_iff_eq]at e;subst e;exact⟨aN0,by decide,by decide⟩
     ·cases h
theorem aJ2{e:Expr}(h:pl e=true) (pos:Pos) (env:Env):(backTo pos (starEach [e] env)).any (·.1)=false:=by
 rw[C4 h];rfl
theorem S0(pos:Pos) (env:Env):∀{es:List Expr},es.all pl=true->(starEach es env).any (·.1)=false
 | [],_=>rfl
 | e::es,h=>by
  simp only[List.all_cons,Bool.and_eq_true]at h
  rw[C4 h.1,List.any_cons,S0 pos env h.2];rfl
end
end G
namespace G
open PySem PySem.Spec PyProof.Rows L2
section
variable {X:Cx}{S:Sg}{c:Kx}{r:Ev}
theorem aH9(h:bJ1 e=some t):∃p,e=.Slice t.1 t.2.1 t.2.2 p:=by
 cases e<;>first|(cases h;exact⟨_,rfl⟩)|cases h
theorem j8(h:nmP e=some t):e=.Name t.1 t.2:=by
 cases e<;>first|(cases h;rfl)|cases h
theorem bH2(h:unE e=some t):∃p,e=.UnaryOp t.1 t.2 p:=by
 cases e<;>first|(cases h;exact⟨_,rfl⟩)|cases h
theorem bt9(h:cc7 e=true):∃p q,e=.Constant (.int 1) p q:=by
 cases e with
 | Constant k p q =>
  cases k with
  | int i=>cases(show i=1 from of_decide_eq_true h);exact⟨p,q,rfl⟩
  | _=>cases h
 | _=>cases h
theorem bO9(h:m1E e=true):∃p q s,e=.UnaryOp .USub (.Constant (.int 1) p q) s:=by
 unfold m1E at h
 split at h
 ·rename_i t ht
  obtain⟨s,rfl⟩:=bH2 ht
  obtain⟨op,a⟩:=t
  cases op with
  | USub=>obtain⟨p,q,rfl⟩:=bt9 h;exact⟨p,q,s,rfl⟩
  | _=>cases h
 ·cases h
theorem bm7(R:Sound S r) (F:Fit S c X) (a i:Expr) (pos:Pos):JE X (.Subscript a i pos) (bF1 r c a i):=by
 unfold bF1
 split
 ·rename_i t ht
  obtain⟨p,rfl⟩:=aH9 ht
  obtain⟨lo,hi,st⟩:=t
  cases st with
  | none =>
   dsimp only
   split
   ·exact bh0 (R.e F _) (i7 (R.e F) _) (i7 (R.e F) _)
   ·split
    ·exact bR8 (R.e F _) (i7 (R.e F) _) (i7 (R.e F) _)
    ·split
     ·exact bR9 (R.q F _) (i7 (R.e F) _) (i7 (R.e F) _)
     ·exact bS0 (R.e F _) (i7 (R.e F) _) (i7 (R.e F) _)
  | some e =>
   dsimp only
   split
   ·rename_i h
    simp only[Bool.and_eq_true,Option.isNone_iff_eq_none]at h
    obtain⟨⟨h1,h2⟩,h3⟩:=h
    subst h1 h2
    obtain⟨_,_,_,rfl⟩:=bO9 h3
    exact bw8 (R.e F _) (bh1 bh4)
   ·exact L0
 ·split
  ·rename_i h
   split
   ·exact bS3 (R.e F _) (R.e F _) (ba9 h)
   ·split
    ·exact bS4 F.units (R.e F _) (R.e F _) (ba9 h)
    ·exact ce9 (R.q F _) (R.e F _) (ba9 h)
  ·exact L0
theorem aN9(R:Sound S r) (F:Fit S c X) (x:Str) (a:Expr) (p pos:Pos):JE X (.Call (.Name x p) [a] [] pos) (aA5 S r c x a):=by
 unfold aA5
 split
 ·exact L0
 rename_i hp
 have hp:pl a=true:=by simpa using hp
 have hs:=C4 hp [] X.env
 split
 ·rename_i h
  obtain⟨rfl,h1,h2⟩:=K7 F h
  split
  ·rename_i y py e ppos
   split
   ·rename_i hy
    simp only[Bool.and_eq_true]at hy
    obtain⟨rfl,g1,g2⟩:=K7 F hy.1
    exact aS4 h1 h2 g1 g2 (R.q F _) F.calm (C4 hy.2 _ _)
   ·exact bh2 h1 h2 (R.q F _) hs
  ·split
   ·exact bx4 h1 h2 (R.e F a) hs
   ·exact bh2 h1 h2 (R.q F a) hs
 split
 ·rename_i h;obtain⟨rfl,h1,h2⟩:=K7 F h;exact bw7 h1 h2 (R.q F a) hs
 split
 ·rename_i h;obtain⟨rfl,h1,h2⟩:=K7 F h;exact bT1 h1 h2 (R.q F a) F.calm hs
 split
 ·rename_i h;obtain⟨rfl,h1,h2⟩:=K7 F h;exact bS9 h1 h2 (R.q F a) F.calm hs
 split
 ·rename_i h;obtain⟨rfl,h1,h2⟩:=K7 F h;exact bx8 F.calm h1 h2 (R.q F a) hs
 split
 ·rename_i h;obtain⟨rfl,h1,h2⟩:=K7 F h;exact bh3 h1 h2 (R.e F a) hs
 split
 ·rename_i h;obtain⟨rfl,h1,h2⟩:=K7 F h;exact bg9 h1 h2 (R.e F a) hs
 split
 ·rename_i h;obtain⟨rfl,h1,h2⟩:=K7 F h;exact bT2 h1 h2 (R.e F a) hs
 split
 ·rename_i h;obtain⟨rfl,h1,h2⟩:=K7 F h;exact bw9 h1 h2 (R.q F a) F.calm hs
 split
 ·rename_i h;obtain⟨rfl,h1,h2⟩:=K7 F h;exact bx1 h1 h2 (R.q F a) F.calm hs
 exact L0
theorem aN8(R:Sound S r) (F:Fit S c X) (x:Str) (a b:Expr) (p pos:Pos):JE X (.Call (.Name x p) [a,b] [] pos) (aA4 S r c x a b):=by
 unfold aA4
 split
 ·exact L0
 rename_i hp
 have hp:pl a=true:=by simpa using hp
 split
 ·rename_i h
  obtain⟨rfl,h1,h2⟩:=K7 F h
  split
  ·rename_i y py
   split
   ·rename_i T hT
    split
    ·rename_i hy
     obtain⟨_,g1,g2⟩:=K7 F hy
     obtain⟨t1,t2,t3⟩:=aO0 hT
     exact bS5 h1 h2 g1 g2 t1 (R.e F a) t2 t3 (C4 hp _ _) rfl rfl
    ·exact L0
   ·exact L0
  ·exact L0
 split
 ·exact L0
 rename_i hb
 have hb:pl b=true:=by simpa using hb
 split
 ·rename_i h;obtain⟨rfl,h1,h2⟩:=K7 F h;exact bx0 h1 h2 (R.e F a) (R.e F b) F.calm (C4 hp _ _) (C4 hb _ _) (aJ2 hb pos _)
 split
 ·rename_i h;obtain⟨rfl,h1,h2⟩:=K7 F h;exact bx2 h1 h2 (R.e F a) (R.e F b) F.calm (C4 hp _ _) (C4 hb _ _) (aJ2 hb pos _)
 exact L0
theorem X4(pos:Pos):∀l:List (Bool×Sem Value),(backTo pos l).any (·.1)=l.any (·.1)
 | []=>rfl
 | (b,t)::r=>by
  have ih:=X4 pos r
  unfold backTo at ih ⊢
  rw[xmc,List.any_cons,List.any_cons,ih]
theorem aW0(R:Sound S r) (F:Fit S c X) (x:Str) (args:List Expr) (p pos:Pos):JE X (.Call (.Name x p) args [] pos) (aW1 S r c x args (.Call (.Name x p) args [] pos)):=by
 unfold aW1
 split
 ·rename_i Fn n hl
  split
  ·rename_i h
   simp only[Bool.and_eq_true,beq_iff_eq]at h
   obtain⟨⟨hg,hn⟩,hp⟩:=h
   obtain⟨g1,g2⟩:=u9 F hg
   rcases F.fns _ _ _ hl with⟨k,f,fd,ps,hk,hr,hm,hkp,hb⟩|⟨hm,hb⟩
   case inr =>
    cases args with
    | nil=>cases hn;exact absurd hb.1 (Nat.lt_irrefl _)
    | cons e es =>
     simp only[List.all_cons,Bool.and_eq_true]at hp
     exact bD1 hb F.units g1 hm (ac9 (R.e F) (e::es)) hn g2 (C4 hp.1 _ _) ((X4 pos _).trans (S0 pos _ hp.2))
   cases args with
   | nil=>cases hn;exact bh7 hk hr g1 hm hkp hb g2
   | cons e es =>
    simp only[List.all_cons,Bool.and_eq_true]at hp
    exact aL2 hk hr g1 hm hkp hb (ac9 (R.e F) (e::es)) hn g2 (C4 hp.1 _ _) ((X4 pos _).trans (S0 pos _ hp.2))
  ·exact L0
 ·split
  ·split
   ·exact ah7 (R.n F _)
   ·exact aN9 R F _ _ _ _
  ·exact aN8 R F _ _ _ _ _
  ·exact L0
theorem bF6(k:Const) (u:Nat) (pos:Pos):JE X (.Constant k u pos) (xCn k):=by
 unfold xCn
 split
 ·exact aD1
 ·exact cf0
 ·exact bh4
 ·exact aq6
 ·exact L0
theorem bn1(R:Sound S r) (F:Fit S c X) (a:Expr) (op:Operator) (b:Expr) (pos:Pos):JE X (.BinOp a op b pos) (bF9 r c a op b):=by
 unfold bF9
 split
 ·split
  ·exact W1 bd8 (R.e F _) (R.e F _)
  ·exact W1 bu3 (R.e F _) (R.e F _)
 ·exact W1 bN0 (R.e F _) (R.e F _)
 ·split
  ·exact W1 ap7 (R.e F _) (R.e F _)
  ·split
   ·split
    ·exact W1 bu2 (R.e F _) (R.e F _)
    ·exact W1 aK2 (R.e F _) (R.e F _)
   ·exact W1 aK2 (R.e F _) (R.e F _)
 ·exact W1 bN6 (R.e F _) (R.e F _)
 ·exact W1 bN3 (R.e F _) (R.e F _)
 ·exact W1 bN1 (R.e F _) (R.e F _)
 ·exact L0
theorem bF0(R:Sound S r) (F:Fit S c X) (op:UnaryOp) (a:Expr) (pos:Pos):JE X (.UnaryOp op a pos) (xUn r c op a):=by
 unfold xUn
 split
 ·exact bh1 (R.e F _)
 ·exact bS2 (R.e F _)
 ·exact L0
theorem bn0(R:Sound S r) (F:Fit S c X) (a:Expr) (ops:List CmpOp) (bs:List Expr) (pos:Pos):JE X (.Compare a ops bs pos) (bF7 S r c a ops bs):=by
 have hu:=F.units
 unfold bF7
 split
 ·split
  ·rename_i h;exact bS8 (bd5 hu S c _ _) (R.e F _) (R.e F _) (ae7 h _)
  ·exact L0
 ·split
  ·rename_i h;exact bh6 (Y2 hu _) (Y2 hu _) (R.e F _) (R.e F _) (R.e F _) (ae7 h _)
  ·exact L0
 ·exact L0
theorem bm9(R:Sound S r) (F:Fit S c X) (o:Expr) (m:Str) (apos cpos:Pos) (args:List Expr):JE X (.Call (.Attribute o m apos) args [] cpos) (bF3 r c o m apos cpos args):=by
 have hu:=F.units
 unfold bF3
 split
 ·split
  ·rename_i h
   simp only[Bool.and_eq_true,beq_iff_eq]at h
   obtain⟨⟨⟨hm,hn⟩,hl⟩,hp⟩:=h
   subst hm
   have hs:=C4 hp [] X.env
   exact bx5 (R.e F _) (R.q F _) (c7 hn _ _ _) (by rw[hs];rfl) (by simpa using hl) hs
  ·split
   ·rename_i h
    simp only[Bool.and_eq_true,beq_iff_eq]at h
    obtain⟨⟨⟨hm,hn⟩,hl⟩,hp⟩:=h
    subst hm
    have hs:=C4 hp [] X.env
    exact aS6 hu (R.e F _) (R.e F _) (c7 hn _ _ _) (by rw[hs];rfl) (by simpa using hl) hs
   ·exact L0
 ·rename_i a1 b1
  split
  ·rename_i h
   simp only[Bool.and_eq_true,beq_iff_eq]at h
   obtain⟨⟨⟨⟨hm,hn⟩,hl⟩,hp⟩,hq⟩:=h
   subst hm
   have hs:=C4 hp [b1] X.env
   rw[C4 hq [] X.env]at hs
   exact bx6 hu (R.e F _) (R.e F _) (R.e F _) ⟨c7 hn _ _ _,by rw[hs];rfl,by simpa using hl,by rw[hs];rfl⟩
  ·exact L0
 ·exact L0
theorem bF8(R:Sound S r) (F:Fit S c X) (f:Expr) (args:List Expr) (kw:List Keyword) (pos:Pos):JE X (.Call f args kw pos) (xCl S r c f args kw pos):=by
 unfold xCl
 split
 ·split
  ·exact aW0 R F _ _ _ _
  ·exact bm9 R F _ _ _ _ _
  ·exact L0
 ·exact L0
theorem bF5(ks:List (Option Expr)) (vs:List Expr) (pos:Pos):JE X (.Dict ks vs pos) (xDs ks vs):=by
 unfold xDs
 split
 ·rename_i ps h
  split
  ·rename_i q
   simp only[Bool.and_eq_true,decide_eq_true_eq]at q
   exact bx7 h (by intro z;rw[z]at q;exact absurd q.1 (by decide)) q.2
  ·exact L0
 ·exact L0
theorem bY6(R:Sound S r) (F:Fit S c X) (ex:Expr):JE X ex (xE S r c ex):=by
 cases ex
 case Constant=>exact bF6 _ _ _
 case Dict ks vs p=>exact bF5 ks vs p
 case Name x p =>
  unfold xE
  dsimp only
  split
  ·rename_i i h
   split
   ·rename_i v;obtain⟨h1,h2,h3⟩:=V2 F v;exact bg7 i (F.slot h) h1 h2 h3
   ·exact L0
  ·split
   ·rename_i d hd
    split
    ·rename_i g;obtain⟨u,k1,k2⟩:=F.css _ _ hd;obtain⟨g1,g2⟩:=u9 F g;exact bS7 k1 g1 k2 g2
    ·exact L0
   ·exact L0
 case Tuple es _ _ =>
  unfold xE
  dsimp only
  split
  ·rename_i h;exact bR7 (ac9 (R.e F) _) h
  ·exact L0
 case List=>exact ah7 (R.n F _)
 case ListComp=>exact ah7 (R.n F _)
 case BinOp=>exact bn1 R F _ _ _ _
 case UnaryOp=>exact bF0 R F _ _ _
 case Compare=>exact bn0 R F _ _ _ _
 case BoolOp=>exact aq7 (R.e F) _ _ _
 case IfExp=>exact bS6 (R.t F _) (R.e F _) (R.e F _)
 case Subscript=>exact bm7 R F _ _ _
 case Call=>exact bF8 R F _ _ _ _
 all_goals exact L0
theorem bY3(R:Sound S r) (F:Fit S c X) (ex:Expr):JQ X ex (xQ S r c ex):=by
 cases ex
 case Name x p =>
  unfold xQ
  dsimp only
  split
  ·rename_i i h
   split
   ·rename_i v;obtain⟨h1,h2,h3⟩:=V2 F v;exact bQ9 i (F.slot h) h1 h2 h3
   ·exact bD0
  ·exact bg3 (R.e F _)
 case List=>exact bR0 (R.n F _)
 case ListComp=>exact bR0 (R.n F _)
 case Call f as kw p =>
  unfold xQ
  dsimp only
  split
  ·exact bR0 (R.n F _)
  ·exact bg3 (R.e F _)
 all_goals exact bg3 (R.e F _)
theorem bY4(R:Sound S r) (F:Fit S c X) (ex:Expr):JN X ex (xN S r c ex):=by
 cases ex
 case List es p =>
  unfold xN
  dsimp only
  split
  ·rename_i h;exact bR1 (ac9 (R.e F) _) h
  ·exact u7
 case ListComp=>exact ce7 R F _
 case Call f as kw p =>
  unfold xN
  dsimp only
  unfold xNl
  split
  ·split
   ·split
    ·rename_i h
     simp only[Bool.and_eq_true]at h
     obtain⟨rfl,h1,h2⟩:=K7 F h.1
     exact bw1 h1 h2 (R.q F _) (C4 h.2 _ _)
    ·exact u7
   ·exact u7
  ·exact u7
 case BinOp a op b p =>
  cases op
  case Add=>exact bR2 (R.q F _) (R.q F _)
  all_goals exact u7
 all_goals exact u7
theorem bY1(R:Sound S r) (F:Fit S c X) (ex:Expr):JT X ex (xT S r c ex):=by
 have hu:=F.units
 have oth:∀e:Expr,JT X e (if plT e then aO6 (r.e c e) else tNo):=fun e=>by
  split
  ·rename_i h;exact bf4 (R.e F _) (bb0 h _)
  ·exact al4
 cases ex
 case Compare a ops bs p =>
  unfold xT bB2
  dsimp only
  split
  ·split
   ·rename_i h;exact bP9 (bd5 hu S c _ _) (R.e F _) (R.e F _) (ae7 h _)
   ·exact al4
  ·split
   ·rename_i h;exact bf7 (Y2 hu _) (Y2 hu _) (R.e F _) (R.e F _) (R.e F _) (ae7 h _)
   ·exact al4
  ·exact al4
 case BoolOp=>exact bf5 (aq4 (R.t F) _ _ _)
 case UnaryOp op a p =>
  cases op
  case Not=>exact bf6 (R.t F _)
  all_goals exact al4
 all_goals exact oth _
theorem bY5(R:Sound S r) (F:Fit S c X) (ex:Expr):JG X ex (xG r c ex):=by
 unfold xG
 split
 ·split
  ·rename_i i h
   split
   ·rename_i v;obtain⟨h1,h2⟩:=aq1 F v;exact bw6 i (by rw[F.N];exact F.nd) (F.slot h) h1 h2
   ·exact ax2
  ·exact ax2
 ·split
  ·rename_i h
   obtain⟨h1,h2⟩:=aN3 (env:=X.env) h
   exact bR6 (bg5 (R.g F) _ h) F.calm h1 h2
  ·exact ax2
 ·exact ax2
theorem aL0{st:Stmt}{f:DS}(h:∀ρ,f ρ=none):JS X st f:=fun ρ fl q=>by rw[h ρ]at q;cases q
theorem aE8(F:Fit S c X) (h:c.df=true):X.env.blockKind=.function:=by
 unfold Env.blockKind
 rw[F.sc,(F.df h).2];rfl
theorem ak4(elt:Expr) (gens:List Comprehension) (sc:Scope) (pv p':Pos) (x:Str) (l:Nat) (env:Env):swapsWith (.ListComp elt gens sc pv) (some (.Name x p')) l env =
  pure (env.blockKind == .function&&env.kindOf x==some .local&&p'.line==pv.line && !(sc.names.any fun(n,k)=>n==x&&(k == .local || k == .cell))):=rfl
theorem aL1(R:Sound S r) (F:Fit S c X) {x:Str}{p' pv p:Pos}{elt:Expr}{gens:List Comprehension}{sc:Scope}{i:Nat}(hi:W3 x c.N=some i) (hl:(c.sc.names.lookup x==some .local)=true)
  (h:(c.df&&p'.line==pv.line && !(sc.names.any fun(n,k)=>n==x&&(k == .local || k == .cell)))=true) :
  JS X (.Assign [.Name x p'] (.ListComp elt gens sc pv) p) (aZ5 i (evC S r c (.ListComp elt gens sc pv)))/\JS X (.Assign [.Name x p'] (.ListComp elt gens sc pv) p) (r8 i (evC S r c (.ListComp elt gens sc pv))):=by
 unfold evC
 simp only[Bool.and_eq_true]at h
 have hl':X.env.scope.names.lookup x=some .local:=by rw[F.sc];simpa using hl
 have hsw:swapsWith (.ListComp elt gens sc pv) (some (.Name x p')) p.line X.env=pure true:=by
  rw[ak4,aE8 F h.1.1,h.1.2,h.2]
  unfold Env.kindOf
  rw[hl'];rfl
 split
 ·rename_i elt tgt iter ifs scope pos he
  cases he
  dsimp only
  split
  ·rename_i hc
   obtain⟨h1,h2,h3,h4,h5,h6⟩:=aM5 (ifs:=ifs) (elt:=elt) R F hc
   exact⟨bv6 i (by rw[F.N];exact F.nd) h1 F.hx h2 h3 h4 h5 (F.slot hi) hl' hsw F.calm h6,bv8 i (by rw[F.N];exact F.nd) h1 F.hx h2 h3 h4 h5 (F.slot hi) hl' hsw F.calm h6⟩
  ·exact⟨aL0 fun ρ=>rfl,aL0 fun ρ=>rfl⟩
 ·exact⟨aL0 fun ρ=>rfl,aL0 fun ρ=>rfl⟩
theorem bn5(R:Sound S r) (F:Fit S c X) (x:Str) (p':Pos) (v:Expr) (p:Pos):JS X (.Assign [.Name x p'] v p) (bG2 S r c x p' v):=by
 have nd:X.N.Nodup:=by rw[F.N];exact F.nd
 unfold bG2
 split
 ·exact B9
 ·rename_i i hi
  split
  ·exact B9
  ·rename_i hlo
   have hlo:aR6 c x=true:=by simpa using hlo
   obtain⟨l1,l2⟩:=aq1 F hlo
   split
   ·rename_i elt gens sc pv
    split
    ·rename_i hl
     split
     ·rename_i h
      split
      ·exact(aL1 R F hi hl h).1
      ·exact(aL1 R F hi hl h).2
     ·exact B9
    ·rename_i hl
     refine bg0 i nd (R.e F _) (F.slot hi) l1 ?_ l2
     rw[ak4]
     have:(X.env.kindOf x==some .local)=false:=by
      unfold Env.kindOf
      rw[F.sc];simpa using hl
     rw[this,Bool.and_false];rfl
   ·split
    ·exact B9
    ·rename_i hc
     have hc:isC v=false:=by simpa using hc
     split
     ·exact bQ3 i nd (R.n F _) (F.slot hi) l1 (X1 hc _ _ _) l2
     ·exact bg0 i nd (R.e F _) (F.slot hi) l1 (X1 hc _ _ _) l2
theorem bn4(R:Sound S r) (F:Fit S c X) (a i v:Expr) (q p:Pos):JS X (.Assign [.Subscript a i q] v p) (bG1 r c a i v):=by
 unfold bG1
 split
 ·exact B9
 ·rename_i x hx
  cases j8 hx
  split
  ·exact B9
  ·rename_i t ht
   obtain⟨p',rfl⟩:=aH9 ht
   obtain⟨lo,hi,st⟩:=t
   cases st with
   | some e=>exact B9
   | none =>
    dsimp only[Option.isSome]
    rw[if_neg Bool.false_ne_true]
    split
    ·exact B9
    ·rename_i i hi
     split
     ·rename_i h
      simp only[Bool.and_eq_true,Bool.not_eq_true']at h
      obtain⟨h1,h2,h3⟩:=V2 F h.1
      exact bQ0 i (R.n F _) (i7 (R.e F) _) (i7 (R.e F) _) (F.slot hi) h1 h2 h3 (X1 h.2 _ _ _)
     ·exact B9
theorem aG2(h:bH8 es=some t):es=[.Name t.1.1 t.1.2,.Name t.2.1 t.2.2]:=by
 match es,h with
 | [a,b],h =>
  obtain⟨x,h1,h⟩:=Option.bind_eq_some_iff.mp h
  obtain⟨y,h2,h⟩:=Option.map_eq_some_iff.mp h
  cases h
  rw[j8 h1,j8 h2]
theorem aG1(h:bH7 e=some t):∃k p,e=.Tuple [t.1,t.2] k p:=by
 cases e with
 | Tuple es k p =>
  match es,h with
  | [a,b],h=>cases h;exact⟨k,p,rfl⟩
  | [],h=>cases h
  | [_],h=>cases h
  | _::_::_::_,h=>cases h
 | _=>cases h
theorem bO3{v:Expr}(h:ad0 v=false) (es:List Expr) (k:Nat) (p:Pos) (env:Env):swappedStores [.Tuple es k p] v env=pure none:=by
 cases v<;>first|rfl|cases h
def stB:Expr->Bool
 | .Starred ..=>true
 | _=>false
def swN(env:Env) (x y:Str) (px py:Pos):List Str:=[(x,px),(y,py)].filterMap fun t=>if env.kindOf t.1==some .local&&t.2.line==px.line then some t.1 else none
theorem ca5(env:Env) (x y:Str) (px py pt p2:Pos) (kt k2:Nat) (a b:Expr):swappedStores [.Tuple [.Name x px,.Name y py] kt pt] (.Tuple [a,b] k2 p2) env =
  (if(env.blockKind != .function)=true then pure none else if([a,b].any stB)=true then pure none else if((swN env x y px py).length != 2 || (swN env x y px py).eraseDups.length != (swN env x y px py).length)=true then pure none
   else if([a,b].all (foldedForSure 8))=true then pure none else if([a,b].all (constantsAlone 8))=true then unsupported "assign.tuple-of-constant-expressions:order-of-the-stores" else pure (some (swN env x y px py))):=by rfl
theorem ba8(h:pl e=true):stB e=false:=by cases e<;>first|rfl|cases h
theorem aX7{env:Env}{x y:Str}{px py pt p2:Pos}{kt k2:Nat}{a b:Expr}(hk:env.blockKind=.function) (ha:pl a=true) (hb:pl b=true) (kx:env.kindOf x=some .local) (ky:env.kindOf y=some .local) (hl:px.line=py.line) (hxy:(x==y)=false)
  (hf:([a,b].all (foldedForSure 8))=false) (hc:([a,b].all (constantsAlone 8))=false):swappedStores [.Tuple [.Name x px,.Name y py] kt pt] (.Tuple [a,b] k2 p2) env=pure (some [x,y]):=by
 have hn:swN env x y px py=[x,y]:=by simp[swN,kx,ky,hl]
 have hyx:(y==x)=false:=by
  cases q:(y==x) with
  | false=>rfl
  | true=>simp only[beq_iff_eq]at q;subst q;simp at hxy
 have hd:([x,y]:List Str).eraseDups=[x,y]:=by simp[List.eraseDups,List.eraseDupsBy,List.eraseDupsBy.loop,hxy,hyx]
 rw[ca5,hk,hn,hd,hf,hc]
 simp[ba8 ha,ba8 hb]
theorem bp1{es vs:List Expr}(h:(es.length==2 || es.length==3)=false) (k k3:Nat) (p p3:Pos) (env:Env):swappedStores [.Tuple es k p] (.Tuple vs k3 p3) env=pure none:=by
 show(if(!(es.length==2 || es.length==3) || vs.length != es.length || env.blockKind != .function)=true then _ else _)=_
 rw[if_pos (by rw[h];rfl)]
theorem bn3(R:Sound S r) (F:Fit S c X) (es:List Expr) (kt:Nat) (pt:Pos) (v:Expr) (p:Pos):JS X (.Assign [.Tuple es kt pt] v p) (bG0 r c (.Tuple es kt pt) v es):=by
 have nd:X.N.Nodup:=by rw[F.N];exact F.nd
 unfold bG0
 split
 ·rename_i x px y py ht
  cases aG2 ht
  split
  ·split
   ·rename_i a b hab
    obtain⟨k2,p2,rfl⟩:=aG1 hab
    split
    ·rename_i i hi
     split
     ·rename_i j hj
      split
      ·rename_i h
       unfold bs8 at h
       simp only[Bool.and_eq_true,Bool.not_eq_true',beq_iff_eq]at h
       obtain⟨⟨⟨⟨⟨⟨⟨⟨hd,ha⟩,hb⟩,hxy⟩,hl⟩,hx⟩,hy⟩,hf⟩,hcs⟩:=h
       have hx':X.env.scope.names.lookup x=some .local:=by rw[F.sc];exact hx
       have hy':X.env.scope.names.lookup y=some .local:=by rw[F.sc];exact hy
       have hne:i≠j:=fun z=>by
        subst z
        have:=(F.slot hi).symm.trans (F.slot hj)
        cases this
        simp at hxy
       refine bQ2 nd (ac9 (R.e F) [a,b]) ?_ hne (F.slot hi) (F.slot hj) hx' hy' F.calm rfl
       exact aX7 (aE8 F hd) ha hb hx' hy' hl hxy hf hcs
      ·exact B9
     ·exact B9
    ·exact B9
   ·exact B9
  ·rename_i h
   have h:ad0 v=false:=by simpa using h
   refine bg1 (R.e F _) (R.g F _) ?_ (bO3 h _ _ _ _) rfl
   cases v<;>rfl
 ·split
  ·exact B9
  ·rename_i h
   refine bg1 (R.e F _) (R.g F _) ?_ ?_ rfl
   ·cases v<;>rfl
   ·cases v<;>first|rfl|skip
    rename_i vs k3 p3
    have h:(es.length==2 || es.length==3)=false:=by simpa [ad0] using h
    exact bp1 h _ _ _ _ _
theorem bn2(R:Sound S r) (F:Fit S c X) (tg v:Expr) (p:Pos):JS X (.Assign [tg] v p) (bY7 S r c tg v p):=by
 cases tg with
 | Name x p'=>exact bn5 R F x p' v p
 | Subscript a i q=>exact bn4 R F a i v q p
 | Tuple es k q=>exact bn3 R F es k q v p
 | _=>exact B9
end
end G
namespace G
open PySem PySem.Spec PyProof.Rows L2
section
variable {X:Cx}{S:Sg}{c:Kx}{r:Ev}
theorem bm8(R:Sound S r) (F:Fit S c X) (x m:Str) (e:Expr) (p apos cpos pos:Pos) (hl:(apos.endLine==cpos.line)=true):JS X (.Expr (.Call (.Attribute (.Name x p) m apos) [e] [] cpos) pos) (bF2 r c x m e):=by
 unfold bF2
 split
 ·exact B9
 ·rename_i i hi
  split
  ·rename_i h
   simp only[Bool.and_eq_true]at h
   obtain⟨h1,h2,h3⟩:=V2 F h.1
   have hs:=C4 h.2 [] X.env
   split
   ·rename_i hm
    simp only[beq_iff_eq]at hm
    subst hm
    exact bQ8 i (R.e F e) (F.slot hi) h1 h2 h3 rfl (by rw[hs];rfl) hl hs rfl
   ·split
    ·rename_i hm
     simp only[beq_iff_eq]at hm
     subst hm
     exact bQ6 i (R.e F e) (F.slot hi) h1 h2 h3 hl hs
    ·exact B9
  ·exact B9
theorem bF4(R:Sound S r) (F:Fit S c X) (e:Expr) (pos:Pos):JS X (.Expr e pos) (xEx r c e):=by
 unfold xEx
 split
 ·split
  ·split
   ·split
    ·split
     ·rename_i h;exact bm8 R F _ _ _ _ _ _ _ h
     ·exact B9
    ·exact B9
   ·exact B9
  ·exact B9
 ·exact B9
theorem aV9(R:Sound S r) (F:Fit S c X) (st:Stmt):JS X st (xS0 S r c st):=by
 cases st
 case Return o p =>
  cases o
  ·exact B9
  ·exact bQ1 (R.e F _)
 case If=>exact ce6 (R.t F _) (R.b F _) (R.b F _)
 case While t a o p =>
  cases o
  ·exact bf9 (R.t F _) (R.b F _) F.po
  ·exact B9
 case For tg it a o p =>
  cases o
  ·unfold xS0 xFo
   dsimp only
   split
   ·rename_i h;exact bQ5 (bg4 R F _ _) (R.g F _) (R.b F _) F.po F.calm (ao6 h _)
   ·exact B9
  ·exact B9
 case Assign ts v p =>
  unfold xS0 xAs
  dsimp only
  split
  ·exact bn2 R F _ _ _
  ·exact B9
 case Expr=>exact bF4 R F _ _
 case Continue=>exact bv7
 case Break=>exact bQ7
 case Pass=>exact bv5
 all_goals exact B9
theorem bi7{st:Stmt}:∀(l:List Nat) {g:DS},JS X st g->JS X st (l.foldl (fun g i=>bJ4 i g) g)
 | [],_,h=>h
 | i::l,_,h=>bi7 l (bQ4 i h)
theorem bY2(R:Sound S r) (F:Fit S c X) (st:Stmt):JS X st (xS S r c st):=by
 unfold xS fzW
 split
 ·exact aV9 R F st
 ·exact bi7 _ (aV9 R F st)
theorem bj5(h:∀st,JS X st (f st)):∀sts,JSs X sts (evB f sts)
 | []=>bv4
 | [s]=>bv3 (h s)
 | s::t::M6=>bf8 (h s) (bj5 h (t::M6))
theorem bp4(R:Sound S r):Sound S (step S r) :=
 ⟨fun F=>bY6 R F,fun F=>bY3 R F,fun F=>bY4 R F,fun F=>bY1 R F,fun F=>bY5 R F,fun F=>bj5 (bY2 R F)⟩
theorem v8(S:Sg):∀n,Sound S (ev S n)
 | 0=>⟨fun _ _=>L0,fun _ _=>bD0,fun _ _=>u7,fun _ _=>al4,fun _ _=>ax2,fun _ _ ρ fl q=>by cases q⟩
 | n+1=>bp4 (v8 S n)
end
structure Fd where
 x:Str
 st:Stmt
 ps:List Str
 N:List Str
 own:List Nat:=[]
 tx:List Nat:=[]
 dx:List Nat:=[]
 old:Bool:=false
 fz:List (Nat×List Nat):=[]
 hc:List ((Nat×Nat)×List Nat):=[]
def fdm(x:Str) (st:Stmt) (n:Nat) (N:List Str) (old:Bool:=false):Fd:={ x,st,ps:=N.take n,N,old }
def Fd.c(d:Fd):Kx:={ N:=d.N,sc:=B8 d.st,df:=true,own:=d.own,cpt:=[],tx:=d.tx,dx:=d.dx,old:=d.old,fz:=d.fz,hc:=d.hc }
def Fd.okB(d:Fd):Bool:=let sc:=B8 d.st
 sc.kind == .function && !sc.isCoroutine && !sc.isGenerator&&aa4 d.N&&d.N.take d.ps.length==d.ps&&(d.ps.all fun x=>match sc.names.lookup x with|some .local=>true|some .cell=>true|_=>false)&&sc.names.all fun y=>match y.2 with | .free=>false|_=>true
theorem Fd.sc{d:Fd}(h:d.okB=true):FnScope d.N d.ps (B8 d.st):=by
 unfold Fd.okB at h
 simp only[Bool.and_eq_true,Bool.not_eq_true',beq_iff_eq,List.all_eq_true]at h
 obtain⟨⟨⟨⟨⟨⟨h1,h2⟩,h3⟩,h4⟩,h5⟩,h6⟩,h7⟩:=h
 refine⟨h1,h2,h3,aa3 h4,h5,fun x hx=>?_,fun y hy e=>?_⟩
 ·have:=h6 x hx
  split at this
  ·rename_i q;exact .inl q
  ·rename_i q;exact .inr q
  ·cases this
 ·have:=h7 y hy
  rw[e]at this
  cases this
def KF(K:PySem.W.Frag) (x:Str) (st:Stmt):Prop:=∃(f:Addr) (oc:Value) (od:Option Addr) (sl:Array (Option Value)) (kV dc pm:Value) (an:Option Addr) (cd ct:Value),
 PySem.W.nsIn K mainGlobals x=some (some (.ref f))/\K.lookup f=some ⟨oc,od,.func (PySem.W.fnOf x x (R3 st) (B3 st) (B8 st) .none kV dc pm an cd ct),sl⟩/\PySem.W.codeIn K cd x=true/\PySem.W.keepIn K (.ref f)=true
theorem ce3{K:PySem.W.Frag}{x:Str}{st:Stmt}{f:Addr}{oc:Value}{od:Option Addr}{sl:Array (Option Value)}{kV dc pm:Value}{an:Option Addr}{cd ct:Value}(a:PySem.W.nsIn K mainGlobals x=some (some (.ref f)))
  (l:K.lookup f=some ⟨oc,od,.func (PySem.W.fnOf x x (R3 st) (B3 st) (B8 st) .none kV dc pm an cd ct),sl⟩) (c:PySem.W.codeIn K cd x=true) (k:PySem.W.keepIn K (.ref f)=true):KF K x st:=⟨f,oc,od,sl,kV,dc,pm,an,cd,ct,a,l,c,k⟩
abbrev Tab:=List (Str×FnD×Nat)
section
variable {P:Program}{w:World}{K:PySem.W.Frag}{mg:Str->Option Value}{base:Heap}{cs:List (Str×D)}{bl:List Str}
structure Md (K:PySem.W.Frag) (mg:Str->Option Value) (cs:List (Str×D)) (bl:List Str):Prop where
 ns:∀x v,PySem.W.nsIn K mainGlobals x=some (some v)->mg x=some v
 css:∀x d,cs.lookup x=some d->∃u,aF8 K d u/\mg x=some u
 bls:∀x,bl.contains x=true->mg x=none
def TOk(P:Program) (w:World) (K:PySem.W.Frag) (mg:Str->Option Value) (base:Heap) (k:Nat) (tab:Tab):Prop:=∀x F n,tab.lookup x=some (F,n)->(∃(f:Addr) (fd:FuncData) (ps:List Str),
 FnOk P w K mg base CX0 k f fd ps (spF K n F)/\mg x=some (.ref f)/\PySem.W.keepIn K (.ref f)=true/\O9 K fd ps [])\/(mg x=none/\bX7 x F n)
theorem TOk.nil:TOk P w K mg base 0 []:=fun x F n h=>by cases h
theorem TOk.mono(T:TOk P w K mg base j tab) (h:j<=k):TOk P w K mg base k tab:=fun x F n e =>
 (T x F n e).imp (fun⟨f,fd,ps,h1,h2,h3,h4⟩=>⟨f,fd,ps,h1.mono h,h2,h3,h4⟩) id
def UA:Nat->(List Value->Prop)->Prop
 | 0,P=>P []
 | n+1,P=>∀a,UA n fun us=>P (a::us)
theorem ua:∀{n:Nat}{P:List Value->Prop},UA n P->∀us:List Value,us.length=n->P us
 | 0,_,h,[],_=>h
 | _+1,P,h,a::us,e=>ua (P:=fun us=>P (a::us)) (h a) us (Nat.succ.inj e)
def Bd(d:Fd):Prop:=∀(kV doc pm:Value) (an:Option Addr) (cdv ct:Value),UA d.ps.length fun us=>bindArgs (PySem.W.fnOf d.x d.x (R3 d.st) (B3 d.st) (B8 d.st) .none kV doc pm an cdv ct) ⟨us,[]⟩=pure (d.ps.zip us)
def rd(tab:Tab) (cs:List (Str×D)) (bl:List Str) (d:Fd):FnD:=T0 ((ev ⟨tab,cs,bl⟩ 99).b d.c (B3 d.st)) d.N.length
theorem cg2(M:Md K mg cs bl) (T:TOk P w K mg base k tab) (ok:d.okB=true) (Fn:Fun K d.x d.x d.st f fd):FnOk P w K mg base CX0 (k+1) f fd d.ps (spF K d.ps.length (rd tab cs bl d)):=by
 have Sc:=Fd.sc ok
 refine by8 (N:=d.N) Fn Sc fun cdv A outer s H E hr=>(v8 ⟨tab,cs,bl⟩ 99).b (c:=d.c) ?_ _
 refine⟨rfl,rfl,Sc.nd,rfl,rfl,hr.units,fun _=>⟨fun _=>rfl,Sc.kind⟩,fun x F n h=>?_,M.css,M.bls⟩
 exact(T x F n h).imp (fun⟨f',fd',ps,h1,h2,h3,h4⟩=>⟨k,f',fd',ps,h1,hr,h2,h3,h4⟩) id
theorem aC9{x:Str}{st:Stmt}(h:KF K x st) (M:Md K mg cs bl):∃(f:Addr) (kV dc pm:Value) (an:Option Addr) (cd ct:Value),Fun K x x st f (PySem.W.fnOf x x (R3 st) (B3 st) (B8 st) .none kV dc pm an cd ct)/\mg x=some (.ref f):=by
 obtain⟨f,oc,od,sl,kV,dc,pm,an,cd,ct,a,l,cc,kk⟩:=h
 exact⟨f,kV,dc,pm,an,cd,ct,ar1 l cc kk,M.ns _ _ a⟩
theorem TOk.cons{k:Nat}{tab:Tab}{x:Str}{F:FnD}{n:Nat}(T:TOk P w K mg base k tab) (h:∃(f:Addr) (fd:FuncData) (ps:List Str),FnOk P w K mg base CX0 k f fd ps (spF K n F)/\mg x=some (.ref f)/\PySem.W.keepIn K (.ref f)=true/\O9 K fd ps []) :
  TOk P w K mg base k ((x,F,n)::tab):=fun y G m e=>by
 rw[List.lookup_cons]at e
 split at e
 ·rename_i q
  cases e
  simp only[beq_iff_eq]at q
  subst q
  exact .inl h
 ·exact T y G m e
theorem TOk.add(T:TOk P w K mg base k tab) (M:Md K mg cs bl) (d:Fd) (h:KF K d.x d.st) (F:FnD) (e:rd tab cs bl d=F:=by kernel_rfl) (ok:d.okB=true:=by kernel_rfl) (bd:Bd d:=by repeat (first|exact rfl|intro _)):TOk P w K mg base (k+1) ((d.x,F,d.ps.length)::tab):=by
 subst e
 obtain⟨f,kV,dc,pm,an,cd,ct,Fn,hm⟩:=aC9 h M
 exact(T.mono (Nat.le_succ k)).cons ⟨f,_,d.ps,cg2 M T ok Fn,hm,Fn.kp,.all (ua (bd kV dc pm an cd ct))⟩
end
end G
namespace G
open PySem PySem.Spec PyProof.Rows L2
abbrev cn1:=List (Str×(Str->Option D))
abbrev cn3:=List (Str×(List D->Option Str)×Nat)
structure Rg where
 rf:cn3
 cl:List Str
 tb:List (Str×List (Str×Bool))
 sb:List (Str×List Str)
 nb:List (Str×List Str)
 xf:cn1
section
variable (S:Sg) (T:Rg)
end
end G
namespace G
open PySem PySem.Spec PyProof.Rows L2
section
variable {S:Sg}{T:Rg}{c:Kx}{X:Cx}
end
section
variable {P:Program}{w:World}{K:PySem.W.Frag}{mg:Str->Option Value}{base:Heap}{cs:List (Str×D)}{bl:List Str}
end
end G
namespace G
open PySem PySem.Spec PyProof.Rows L2
section
variable {P:Program}{w:World}{K:PySem.W.Frag}{mg:Str->Option Value}{base:Heap}{cs:List (Str×D)}{bl:List Str}
end
end G
namespace Sh
open PySem PySem.Spec PyProof.Rows L2 G
end Sh
namespace Sh
open PySem PySem.Spec PyProof.Rows L2 G
end Sh
namespace G
open PySem PySem.Spec PyProof.Rows L2
structure Fo where
 m:List (D×D)
 b:List D
 f:List D
structure Chg (S:List Addr) (H Hf H' Hf':Hp):Prop where
 big:∀b o,b∉S->H b=some o->H' b=some o
 kp:∀b,H b≠none->H' b≠none
 sub:B6 Hf' H'
 ext:B6 Hf Hf'
 new:∀b,Hf' b≠none->Hf b≠none\/H b=none
theorem d9{α:Type}{o:Option α}{x:α}(h:o=some x):o≠none:=by rw[h];exact fun z=>by cases z
theorem aK4{α:Type}{o:Option α}(h:o≠none):∃x,o=some x:=by cases o with
 | none=>exact absurd rfl h
 | some x=>exact⟨x,rfl⟩
section
variable {K:PySem.W.Frag}{H H' H0 H1 H2 Hf Hf' Hf0 Hf1 Hf2:Hp}{S S' R:List Addr}{C:Addr}{os:List (Addr×Fo)}
theorem Chg.of(g:Grow H Hf H' Hf'):Chg S H Hf H' Hf':=⟨fun b o _ e=>g.big b o e,fun b h=>by obtain⟨x,e⟩:=aK4 h;exact d9 (g.big b x e),g.sub,g.ext,g.new⟩
theorem Chg.trans(a:Chg S H Hf H1 Hf1) (b:Chg S' H1 Hf1 H2 Hf2) (h:∀x∈S',x∈S\/H x=none):Chg S H Hf H2 Hf2 where
 big c o hc e:=b.big c o (fun z=>(h c z).elim hc fun n=>by rw[n]at e;cases e) (a.big c o hc e)
 kp c h:=b.kp c (a.kp c h)
 sub:=b.sub
 ext:=a.ext.trans b.ext
 new c h:=(b.new c h).elim (a.new c) fun n=>.inr (Classical.byContradiction fun z=>a.kp c z n)
theorem Chg.grow(a:Chg [] H Hf H' Hf'):Grow H Hf H' Hf':=⟨fun b o e=>a.big b o (by simp) e,a.sub,a.ext,a.new⟩
theorem Chg.wr(ss:B6 Hf H) (hx:x∈S) (hf:Hf x=none):Chg S H Hf (upd H x o) Hf where
 big b u hb e:=by rw[A6 (fun z=>hb (by rw[z];exact hx))];exact e
 kp b h:=by
  by_cases q:b=x
  ·subst q;rw[A5];exact fun z=>by cases z
  ·rw[A6 q];exact h
 sub b u e:=by rw[A6 (A8 e hf)];exact ss b u e
 ext:=B6.refl _
 new b h:=.inl h
structure Cel where
 dx:Addr
 d:Addr
 lb:Addr
 lf:Addr
abbrev cells(a:Addr) (c:Cel):List Addr:=[a,c.d,c.lb,c.lf]
abbrev ar2(c:Cel):List (Str×V):=[(("sheets" : Str),.ref c.d),("steps_back", .ref c.lb),("steps_forth", .ref c.lf)]
structure FoAt (K:PySem.W.Frag) (C:Addr) (H Hf:Hp) (a:Addr) (c:Cel) (o:Fo):Prop where
 ins:H a=some (.ins C c.dx (ar2 c))
 dic:∃kvs,H c.d=some (.dK kvs)/\RepKs K Hf o.m kvs
 bk:∃vs,H c.lb=some (.lst vs)/\Reps K Hf o.b vs
 fo:∃vs,H c.lf=some (.lst vs)/\Reps K Hf o.f vs
 ne:c.lb≠c.lf
 fr:∀x∈cells a c,Hf x=none
theorem FoAt.there(h:FoAt K C H Hf a c o):∀x∈cells a c,H x≠none:=fun x hx=>by
 obtain⟨_,e1,_⟩:=h.dic
 obtain⟨_,e2,_⟩:=h.bk
 obtain⟨_,e3,_⟩:=h.fo
 simp only[List.mem_cons,List.not_mem_nil,or_false]at hx
 rcases hx with rfl|rfl|rfl|rfl
 ·exact d9 h.ins
 ·exact d9 e1
 ·exact d9 e2
 ·exact d9 e3
theorem FoAt.chg(h:FoAt K C H Hf a c o) (g:Chg S H Hf H' Hf') (hs:∀x∈cells a c,x∉S):FoAt K C H' Hf' a c o:=by
 have th:=h.there
 obtain⟨kvs,e1,r1⟩:=h.dic
 obtain⟨vb,e2,r2⟩:=h.bk
 obtain⟨vf,e3,r3⟩:=h.fo
 refine⟨g.big _ _ (hs _ (by simp)) h.ins,⟨kvs,g.big _ _ (hs _ (by simp)) e1,r1.mono g.ext⟩,⟨vb,g.big _ _ (hs _ (by simp)) e2,r2.mono g.ext⟩,⟨vf,g.big _ _ (hs _ (by simp)) e3,r3.mono g.ext⟩,h.ne,fun x hx=>?_⟩
 exact Classical.byContradiction fun z=>(g.new x z).elim (fun q=>q (h.fr x hx)) (th x hx)
theorem FoAt.grow(h:FoAt K C H Hf a c o) (g:Grow H Hf H' Hf'):FoAt K C H' Hf' a c o:=h.chg (S:=[]) (Chg.of g) fun _ _=>by simp
inductive Objs (K:PySem.W.Frag) (C:Addr) (H Hf:Hp):List (Addr×Fo)->List Addr->Prop
 | nil:Objs K C H Hf [] []
 | cons {a:Addr}{c:Cel}{o:Fo}{os:List (Addr×Fo)}{R:List Addr}:FoAt K C H Hf a c o->(∀x∈cells a c,x∉R)->Objs K C H Hf os R->Objs K C H Hf ((a,o)::os) (cells a c++R)
theorem Objs.there(h:Objs K C H Hf os R):∀x∈R,H x≠none:=by
 induction h with
 | nil=>exact fun _ h=>nomatch h
 | cons f d t ih =>
  intro x hx
  rcases List.mem_append.mp hx with hx|hx
  ·exact f.there x hx
  ·exact ih x hx
theorem Objs.chg(h:Objs K C H Hf os R) (g:Chg S H Hf H' Hf') (hs:∀x∈R,x∉S):Objs K C H' Hf' os R:=by
 induction h with
 | nil=>exact .nil
 | cons f d t ih=>exact .cons (f.chg g fun x hx=>hs x (List.mem_append_left _ hx)) d (ih fun x hx=>hs x (List.mem_append_right _ hx))
theorem Objs.focus(h:Objs K C H Hf os R):∀{j:Nat}{a:Addr}{o:Fo},os[j]? = some (a,o)->∃c,FoAt K C H Hf a c o/\(∀x∈cells a c,x∈R) /\
  ∀{H' Hf':Hp}{c':Cel}{o':Fo},Chg (cells a c) H Hf H' Hf'->FoAt K C H' Hf' a c' o'->(∀x∈cells a c',x∈cells a c\/H x=none)->∃R',Objs K C H' Hf' (os.set j (a,o')) R'/\∀x∈R',x∈R\/H x=none:=by
 induction h with
 | nil=>intro j a o e;simp at e
 | @cons a0 c0 o0 os0 R0 f d t ih =>
  intro j a o e
  cases j with
  | zero =>
   simp at e
   obtain⟨rfl,rfl⟩:=e
   refine⟨c0,f,fun x hx=>List.mem_append_left _ hx,fun{H' Hf' c' o'} g f' n=>⟨cells a0 c'++R0,.cons f' (fun x hx hr=>?_) (t.chg g fun x hx z=>d x z hx),fun x hx=>?_⟩⟩
   ·rcases n x hx with z|z
    ·exact d x z hr
    ·exact t.there x hr z
   ·rcases List.mem_append.mp hx with hx|hx
    ·exact(n x hx).imp (List.mem_append_left _) id
    ·exact .inl (List.mem_append_right _ hx)
  | succ j =>
   obtain⟨c,f1,f2,f3⟩:=ih (j:=j) (a:=a) (o:=o) (by simpa using e)
   refine⟨c,f1,fun x hx=>List.mem_append_right _ (f2 x hx),fun{H' Hf' c' o'} g f' n=>?_⟩
   obtain⟨R',r1,r2⟩:=f3 g f' n
   have dis:∀x∈cells a0 c0,x∉cells a c:=fun x hx z=>d x hx (f2 x z)
   refine⟨cells a0 c0++R',.cons (f.chg g dis) (fun x hx hr=>?_) r1,fun x hx=>?_⟩
   ·rcases r2 x hr with z|z
    ·exact d x hx z
    ·exact f.there x hx z
   ·rcases List.mem_append.mp hx with hx|hx
    ·exact .inl (List.mem_append_left _ hx)
    ·exact(r2 x hx).imp (List.mem_append_right _) id
theorem Objs.snoc(h:Objs K C H Hf os R) (f:FoAt K C H Hf a c o) (d:∀x∈cells a c,x∉R):∃R',Objs K C H Hf (os++[(a,o)]) R'/\∀x∈R',x∈R\/x∈cells a c:=by
 induction h with
 | nil=>exact⟨cells a c++[],.cons f (by simp) .nil,fun x hx=>.inr (by simpa using hx)⟩
 | @cons a0 c0 o0 os0 R0 f0 d0 t ih =>
  obtain⟨R',r1,r2⟩:=ih fun x hx=>fun z=>d x hx (List.mem_append_right _ z)
  refine⟨cells a0 c0++R',.cons f0 (fun x hx hr=>?_) r1,fun x hx=>?_⟩
  ·rcases r2 x hr with z|z
   ·exact d0 x hx z
   ·exact d x z (List.mem_append_left _ hx)
  ·rcases List.mem_append.mp hx with hx|hx
   ·exact .inl (List.mem_append_left _ hx)
   ·exact(r2 x hx).imp (List.mem_append_right _) id
end
structure Bs where
 S:List Addr
 H:Hp
 Hf:Hp
structure OSt (K:PySem.W.Frag) (C:Addr) (b:Bs) (ρ:Rho) (os:List (Addr×Fo)) (σ:L2.St) (H Hf:Hp):Prop where
 gr:Chg b.S b.H b.Hf H Hf
 sl:Slots K (fun _=>none) ρ σ H Hf
 ob:∃R,Objs K C H Hf os R/\∀x∈R,x∈b.S\/b.H x=none
section
variable {K:PySem.W.Frag}{C:Addr}{b:Bs}{ρ:Rho}{os:List (Addr×Fo)}{σ:L2.St}{H Hf H' Hf':Hp}
def W9(ρ:Rho):Bool:=ρ.all fun x=>match x with|some (.own _)=>false|_=>true
theorem Slots.chg{H0:Hp}(s:Slots K H0 ρ σ H Hf) (n:W9 ρ=true) (g:Chg S H Hf H' Hf'):Slots K H0 ρ σ H' Hf':=by
 have no:∀(i:Nat) (ds:List D),ρ[i]?≠some (some (.own ds)):=fun i ds e=>by
  have:=List.all_eq_true.mp n _ (List.mem_of_getElem? e)
  simp at this
 refine⟨s.len,fun i b e=>?_,s.apart⟩
 obtain⟨v,h1,h2⟩:=s.is i b e
 refine⟨v,h1,?_⟩
 cases b with
 | val d=>exact Rep.mono g.ext h2
 | exc C =>
  obtain⟨a,o,C,e,h1,h2⟩:=h2
  exact⟨a,o,C,e,g.ext _ _ h1,h2⟩
 | opq _=>exact h2
 | own ds=>exact(no i ds e).elim
theorem OSt.same(s:OSt K C b ρ os σ H Hf):B6 Hf H:=s.gr.sub
theorem OSt.grow(s:OSt K C b ρ os σ H Hf) (g:Grow H Hf H' Hf'):OSt K C b ρ os σ H' Hf':=by
 obtain⟨R,r1,r2⟩:=s.ob
 exact⟨s.gr.trans (S':=[]) (Chg.of g) (by simp),s.sl.grow g,R,r1.chg (S:=[]) (Chg.of g) (by simp),r2⟩
theorem OSt.focus(s:OSt K C b ρ os σ H Hf) (n:W9 ρ=true) (e:os[j]? = some (a,o)):∃c,FoAt K C H Hf a c o /\
  ∀{H' Hf':Hp}{c':Cel}{o':Fo},Chg (cells a c) H Hf H' Hf'->FoAt K C H' Hf' a c' o'->(∀x∈cells a c',x∈cells a c\/H x=none)->OSt K C b ρ (os.set j (a,o')) σ H' Hf':=by
 obtain⟨R,r1,r2⟩:=s.ob
 obtain⟨c,f1,f2,f3⟩:=r1.focus e
 have old:∀x,x∈R\/H x=none->x∈b.S\/b.H x=none:=fun x h=>h.elim (r2 x) fun z=>.inr (Classical.byContradiction fun q=>s.gr.kp x q z)
 refine⟨c,f1,fun{H' Hf' c' o'} g f' nn=>?_⟩
 obtain⟨R',q1,q2⟩:=f3 g f' nn
 exact⟨s.gr.trans g fun x hx=>r2 x (f2 x hx),s.sl.chg n g,R',q1,fun x hx=>old x (q2 x hx)⟩
end
end G
namespace G
open PySem PySem.Spec PyProof.Rows L2
abbrev Os:=List (Addr×Fo)
def OE(X:Cx) (C:Addr) (b:Bs) (ρ:Rho) (q:Os) (e:Expr) (d:D) (q':Os):Prop:=PE X e (fun σ H Q=>∃Hf,OSt X.K C b ρ q σ H Hf/\∀v H' Hf',OSt X.K C b ρ q' σ H' Hf'->B6 Hf Hf'->Rep X.K Hf' d v->Q v H')
def OT(X:Cx) (C:Addr) (b:Bs) (ρ:Rho) (q:Os) (e:Expr) (c:Bool) (q':Os):Prop:=PT X e (fun σ H Q=>∃Hf,OSt X.K C b ρ q σ H Hf/\∀H' Hf',OSt X.K C b ρ q' σ H' Hf'->B6 Hf Hf'->Q c H')
inductive OF where
 | nx (ρ:Rho) (q:Os)
 | rt (d:D) (q:Os)
def OF.ends(X:Cx) (C:Addr) (b:Bs) (Hf:Hp) (En:Ends):OF->Prop
 | .nx ρ q=>∀σ' H' Hf',OSt X.K C b ρ q σ' H' Hf'->B6 Hf Hf'->En.nx σ' H'
 | .rt d q=>∀ρ' σ' v H' Hf',OSt X.K C b ρ' q σ' H' Hf'->Rep X.K Hf' d v->En.rt v H'
def OS(X:Cx) (C:Addr) (b:Bs) (ρ:Rho) (q:Os) (st:Stmt) (fl:OF):Prop:=PS X st (fun En σ H=>∃Hf,OSt X.K C b ρ q σ H Hf/\fl.ends X C b Hf En)
def OSs(X:Cx) (C:Addr) (b:Bs) (ρ:Rho) (q:Os) (sts:List Stmt) (fl:OF):Prop:=PSs X sts (fun En σ H=>∃Hf,OSt X.K C b ρ q σ H Hf/\fl.ends X C b Hf En)
section
variable {X:Cx}{C:Addr}{b:Bs}{ρ ρ':Rho}{q q' q1 q2:Os}{st:Stmt}{sts:List Stmt}
theorem OF.ends_mono{Hf Hf':Hp}{En:Ends}{fl:OF}(h:fl.ends X C b Hf En) (e:B6 Hf Hf'):fl.ends X C b Hf' En:=by
 cases fl with
 | nx ρ q=>exact fun σ' H' Hf'' o s=>h σ' H' Hf'' o (e.trans s)
 | rt d q=>exact h
theorem f8(h:JE X e f) (w:f ρ=some d):OE X C b ρ q e d q :=
 A7 (h ρ d w) fun σ H Q ⟨Hf,st,k⟩=>⟨_,Hf,st.same,st.sl,fun v H' Hf' g r=>k v H' Hf' (st.grow g) g.ext r⟩
theorem bs9(h:JT X e f) (w:f ρ=some c):OT X C b ρ q e c q :=
 P6 (h ρ c w) fun σ H Q ⟨Hf,st,k⟩=>⟨_,Hf,st.same,st.sl,fun H' Hf' g=>k H' Hf' (st.grow g) g.ext⟩
theorem bc7(o:OpD X (compareOp op) h) (ha:OE X C b ρ q ea x q1) (hb:OE X C b ρ q1 eb y q2) (w:h x y=some (.bool c)) (hm:behindInMarks op eb=false:=by first|exact ap8 _|rfl):OT X C b ρ q (.Compare ea [op] [eb] pos) c q2:=by
 refine P6 (aJ0 (o x y _ w) ha hb hm) fun σ H Q ⟨Hf,st,k⟩=>⟨Hf,st,fun v H1 Hf1 s1 e1 r1=>⟨Hf1,s1,fun u H2 Hf2 s2 e2 r2=>⟨Hf2,s2.same,r1.mono e2,r2,fun z H3 Hf3 g r3=>⟨c,r3,k H3 Hf3 (s2.grow g) ((e1.trans e2).trans g.ext)⟩⟩⟩⟩
theorem bM9(o:OpD X (compareOp op) h) (ha:OE X C b ρ q ea x q1) (hb:OE X C b ρ q1 eb y q2) (w:h x y=some z) (hm:behindInMarks op eb=false:=by first|exact ap8 _|rfl):OE X C b ρ q (.Compare ea [op] [eb] pos) z q2:=by
 refine A7 (aJ4 (o x y _ w) ha hb hm) fun σ H Q ⟨Hf,st,k⟩=>⟨Hf,st,fun v H1 Hf1 s1 e1 r1=>⟨Hf1,s1,fun u H2 Hf2 s2 e2 r2=>⟨Hf2,s2.same,r1.mono e2,r2,fun z H3 Hf3 g r3=>k z H3 Hf3 (s2.grow g) ((e1.trans e2).trans g.ext) r3⟩⟩⟩
theorem bL6(ha:OE X C b ρ q e (.bool c) q1) (he:∀whole,isTrue e X.env whole=(do let v ← whole;standAt e.pos;holding [v] (truthy v)):=by intro _;rfl):OT X C b ρ q e c q1 :=
 P6 (au7 ha he) fun σ H Q ⟨Hf,st,k⟩=>⟨Hf,st,fun v H1 Hf1 s1 e1 r1=>⟨c,by cases r1;rfl,k H1 Hf1 s1 e1⟩⟩
theorem ae8(h:OE X C b ρ q e d q') (hs:swapsWith e none pos.line X.env=pure false):OS X C b ρ q (.Expr e pos) (.nx ρ q') :=
 C7 (V3 h hs) fun En σ H ⟨Hf,st,k⟩=>⟨Hf,st,fun v H' Hf' s' e' _=>k σ H' Hf' s' e'⟩
theorem OSt.set(s:OSt X.K C b ρ q σ H Hf) (r:Rep X.K Hf d v):OSt X.K C b (ρ.set i (‹d›)) q (σ.set i (some v)) H Hf:=⟨s.gr,s.sl.set r,s.ob⟩
theorem bL7(i:Nat) (hN:X.N.Nodup) (h:OE X C b ρ q e d q') (hi:X.N[i]? = some x) (hx:Loc X.env.scope x) (hs:swapsWith e (some (.Name x pos')) pos.line X.env=pure false) (hf:X.fn x=true):OS X C b ρ q (.Assign [.Name x pos'] e pos) (.nx (ρ.set i (‹d›)) q') :=
 C7 (ag7 hN hi hx h hs (.inl hf)) fun En σ H ⟨Hf,st,k⟩=>⟨Hf,st,fun v H' Hf' s' e' r=>k _ H' Hf' (s'.set r) e'⟩
theorem ap1(h:OE X C b ρ q e d q'):OS X C b ρ q (.Return (some e) pos) (.rt d q') :=
 C7 (ag8 h) fun En σ H ⟨Hf,st,k⟩=>⟨Hf,st,fun v H' Hf' s' e' r=>k ρ σ v H' Hf' s' r⟩
theorem aJ8(t:OT X C b ρ q e c q1) (h1:c=true->OSs X C b ρ q1 s1 fl) (h2:c=false->OSs X C b ρ q1 s2 fl):OS X C b ρ q (.If e s1 s2 pos) fl:=by
 cases c with
 | true=>exact C7 (ak9 t (h1 rfl) L4) fun En σ H ⟨Hf,st,k⟩=>⟨Hf,st,fun H' Hf' s' e'=>Z8 ⟨Hf',s',OF.ends_mono k e'⟩⟩
 | false=>exact C7 (ak9 t L4 (h2 rfl)) fun En σ H ⟨Hf,st,k⟩=>⟨Hf,st,fun H' Hf' s' e'=>Y6 ⟨Hf',s',OF.ends_mono k e'⟩⟩
theorem cc0(ha:OT X C b ρ q x1 false q1) (hb:OT X C b ρ q1 x2 c q2):OT X C b ρ q (.BoolOp .Or [x1,x2] pos) c q2 :=
 P6 (t5 ha (aC0 hb)).pt fun σ H Q ⟨Hf,st,k⟩=>⟨Hf,st,fun H1 Hf1 s1 e1=>Y6 ⟨Hf1,s1,fun H2 Hf2 s2 e2=>k H2 Hf2 s2 (e1.trans e2)⟩⟩
theorem aJ7:OSs X C b ρ q [] (.nx ρ q):=Q1 ao4 fun En σ H ⟨Hf,st,k⟩=>k σ H Hf st (B6.refl _)
theorem t8(h:OS X C b ρ q st fl):OSs X C b ρ q [st] fl:=t6 h
theorem M9(h:OS X C b ρ q st (.nx ρ' q')) (r:OSs X C b ρ' q' sts fl):OSs X C b ρ q (st::sts) fl :=
 Q1 (N8 h r) fun En σ H ⟨Hf,s,k⟩=>⟨Hf,s,fun σ' H' Hf' s' e'=>⟨Hf',s',OF.ends_mono k e'⟩⟩
theorem ap0(h:OS X C b ρ q st (.rt d q')):OSs X C b ρ q (st::sts) (.rt d q') :=
 Q1 (N8 h L4) fun En σ H ⟨Hf,s,k⟩=>⟨Hf,s,k⟩
end
end G
namespace G
open PySem PySem.Spec PyProof.Rows L2
abbrev MF:=Fo->List D->Option (D×Fo)
def spM(K:PySem.W.Frag) (C:Addr) (n:Nat) (F:MF):Sp:=fun vs H Q _=>∃a us Hf c o ds r o',vs=.ref a::us/\us.length=n/\B6 Hf H/\FoAt K C H Hf a c o/\Reps K Hf ds us/\F o ds=some (r,o') /\
 ∀v H' Hf' c',Chg (cells a c) H Hf H' Hf'->FoAt K C H' Hf' a c' o'->(∀x∈cells a c',x∈cells a c\/H x=none)->Rep K Hf' r v->Q v H'
def am7(X:Cx) (C:Addr) (m:Str) (n:Nat) (F:MF):Prop:=∃k f fd ps,FnOk X.prog X.w X.K X.mg X.base CX0 k f fd ps (spM X.K C n F)/\Room k X.A/\Meth X.K C m f/\O9 X.K fd ps []
structure FoC (K:PySem.W.Frag) (C:Addr):Prop where
 cl:Cls K C
 n1:Z0 K C "sheets"
 n2:Z0 K C "steps_back"
 n3:Z0 K C "steps_forth"
def u4(m:Str):Bool:=!(m==("sheets" : Str)) && !(m==("steps_back" : Str)) && !(m==("steps_forth" : Str))
theorem aw0(h:u4 m=true) (c:Cel):(ar2 c).lookup m=none:=by
 unfold u4 at h
 simp only[Bool.and_eq_true,Bool.not_eq_true']at h
 simp only[ar2,List.lookup_cons,h.1.1,h.1.2,h.2,List.lookup_nil]
section
variable {X:Cx}{C:Addr}{b:Bs}{ρ ρ':Rho}{q q' q1 q2:Os}{o o':Fo}{K:PySem.W.Frag}{σ:L2.St}{H Hf:Hp}
structure At1 (X:Cx) (ρ:Rho) (q:Os) (x:Str) (i j:Nat) (a:Addr) (o:Fo):Prop where
 n:X.N[i]? = some x
 v:Vis X.env.scope x
 d1:(x==("__debug__" : Str))=false
 d2:(x==("__classdict__" : Str))=false
 s:ρ[i]? = some (some (.opq a))
 o:q[j]? = some (a,o)
 w:W9 ρ=true
theorem n6{i:Nat}{a:Addr}(s:OSt K C b ρ q σ H Hf) (e:ρ[i]? = some (some (B.opq a))):σ[i]? = some (some (V.ref a)):=by
 obtain⟨v,h1,h2⟩:=s.sl.is i _ e
 cases h2;exact h1
theorem al2{ds:List D}{d:D}{F:MF}{E:XK}{Q:VK}(st:OSt X.K C b ρ q σ H Hf) (A:At1 X ρ q x i j a o) (nf:u4 m=true) (r:F o ds=some (d,o')) (hn:ds.length=n)
  (k:∀v H' Hf',OSt X.K C b ρ (q.set j (a,o')) σ H' Hf'->B6 Hf Hf'->Rep X.K Hf' d v->Q v H') :
  ∃v,σ[i]? = some (some v)/\∃a dx fs,v=.ref a/\H a=some (.ins C dx fs)/\fs.lookup m=none/\∀vs H1 Hf1,Grow H Hf H1 Hf1->Reps X.K Hf1 ds vs->spM X.K C n F (v::(vs++[])) H1 Q E:=by
 obtain⟨c,f1,f3⟩:=st.focus A.w A.o
 refine⟨_,n6 st A.s,a,c.dx,ar2 c,rfl,f1.ins,aw0 nf c,fun vs H1 Hf1 g1 r1=>⟨a,vs++[],Hf1,c,o,ds,d,o',rfl,by rw[List.append_nil,r1.length,hn],g1.sub,f1.grow g1,by rw[List.append_nil];exact r1,r,fun v H2 Hf2 c' g2 f2 n2 rv=>k v H2 Hf2 (f3 ((Chg.of g1).trans g2 fun _ h=>.inl h) f2 fun y hy=>(n2 y hy).imp id fun z=>Classical.byContradiction fun w=>(Chg.of (S:=[]) g1).kp y w z) (g1.ext.trans g2.ext) rv⟩⟩
theorem aq0{x m:Str}{p apos pos:Pos}{es:List Expr}(hl:(apos.endLine==pos.line)=true) (hf:methodCallForm (es.length+([]:List Keyword).length) (backTo pos (starEach es X.env)) (backToKw pos (keywordEach [] X.env))=true) :
  eval (.Call (.Attribute (.Name x p) m apos) es [] pos) X.env=(do
   let ov ← eval (.Name x p) X.env
   standAt apos.atName
   let(f,first) ← holding [ov] (getMethod ov m (do return (← importBound (.Name x p) X.env).getD true))
   callWith pos f first (backTo pos (starEach es X.env)) (backToKw pos (keywordEach [] X.env))):=by
 show(do let ov ← eval (.Name x p) X.env;standAt apos.atName;methodCall (.Name x p) m apos pos X.env ov (es.length+([]:List Keyword).length) (backTo pos (starEach es X.env)) (backToKw pos (keywordEach [] X.env)))=_
 unfold methodCall
 rw[hf]
 unfold methodCallPos calleeOf
 rw[hl]
 rfl
theorem av6{ρa:Rho}{x m:Str}{e:Expr}{es:List Expr}{p apos pos:Pos}{ds:List D}{d:D}{F:MF}{f:Rho->Option (List D)}(M:am7 X C m n F) (c:FoC X.K C) (A:At1 X ρ q x i j a o) (nf:u4 m=true) (ha:JA X (e::es) f) (w:f ρa=some ds) (sb:∀{H0 H Hf:Hp}{σ:L2.St},Slots X.K H0 ρ σ H Hf->Slots X.K H0 ρa σ H Hf) (r:F o ds=some (d,o')) (hn:(e::es).length=n:=by rfl)
  (hst:starEach (e::es) X.env=(false,eval e X.env)::starEach es X.env:=by rfl) (hpl:(backTo pos (starEach es X.env)).any (·.1)=false:=by rfl)
  (hl:(apos.endLine==pos.line)=true:=by first|assumption|rfl) (hfm:methodCallForm ((e::es).length+([]:List Keyword).length) (backTo pos (starEach (e::es) X.env)) (backToKw pos (keywordEach [] X.env))=true:=by rfl) :
  OE X C b ρ q (.Call (.Attribute (.Name x p) m apos) (e::es) [] pos) d (q.set j (a,o')):=by
 obtain⟨k,fa,fd,ps,Fk,hr,hm,hb⟩:=M
 refine A7 (bs4 (Q9 A.n A.v A.d1 A.d2) c.cl hm Fk hr hb .nil ah2 (fun pos pins s σ H Q I t=>ha.run ρa ds w pos pins s σ H Q I t) hst hpl (aq0 hl hfm)) fun σ H Q ⟨Hf,st,kk⟩=>?_
 obtain⟨v,h1,a',dx,fs,h2,h3,h4,h5⟩:=al2 (n:=n) (E:=E0) st A nf r (by rw[ha.len ρa ds w,hn]) kk
 exact⟨v,h1,a',dx,fs,h2,h3,h4,_,Hf,st.same,sb st.sl,fun vs H1 Hf1 g1 r1=>h5 vs H1 Hf1 g1 r1⟩
theorem Y1{x m:Str}{e:Expr}{es:List Expr}{p apos pos:Pos}{ds:List D}{d:D}{F:MF}{f:Rho->Option (List D)}(M:am7 X C m n F) (c:FoC X.K C) (A:At1 X ρ q x i j a o) (nf:u4 m=true) (ha:JA X (e::es) f) (w:f ρ=some ds) (r:F o ds=some (d,o')) (hn:(e::es).length=n:=by rfl)
  (hst:starEach (e::es) X.env=(false,eval e X.env)::starEach es X.env:=by rfl) (hpl:(backTo pos (starEach es X.env)).any (·.1)=false:=by rfl)
  (hl:(apos.endLine==pos.line)=true:=by first|assumption|rfl) (hfm:methodCallForm ((e::es).length+([]:List Keyword).length) (backTo pos (starEach (e::es) X.env)) (backToKw pos (keywordEach [] X.env))=true:=by rfl) :
  OE X C b ρ q (.Call (.Attribute (.Name x p) m apos) (e::es) [] pos) d (q.set j (a,o')) :=
 av6 M c A nf ha w (fun s=>s) r hn hst hpl hl hfm
theorem bd4{x m:Str}{p apos pos:Pos}{d:D}{F:MF}(M:am7 X C m 0 F) (c:FoC X.K C) (A:At1 X ρ q x i j a o) (nf:u4 m=true) (r:F o []=some (d,o'))
  (hl:(apos.endLine==pos.line)=true:=by first|assumption|rfl) :
  OE X C b ρ q (.Call (.Attribute (.Name x p) m apos) [] [] pos) d (q.set j (a,o')):=by
 obtain⟨k,fa,fd,ps,Fk,hr,hm,hb⟩:=M
 refine A7 (av3 (Q9 A.n A.v A.d1 A.d2) c.cl hm Fk hr hb .nil ah2 (aq0 hl rfl)) fun σ H Q ⟨Hf,st,kk⟩=>?_
 obtain⟨v,h1,a',dx,fs,h2,h3,h4,h5⟩:=al2 (n:=0) (E:=E0) st A nf r rfl kk
 exact⟨v,h1,a',dx,fs,h2,h3,h4,h5 [] H Hf (Grow.refl st.same) rfl⟩
def OP(X:Cx) (C:Addr) (b:Bs) (ρ:Rho) (q:Os) (e:Expr) (d:D):Prop:=PE X e (fun σ H Q=>∃Hf,OSt X.K C b ρ q σ H Hf/\∀v H' Hf',Grow H Hf H' Hf'->Rep X.K Hf' d v->Q v H')
theorem OP.oe(h:OP X C b ρ q e d):OE X C b ρ q e d q:=A7 h fun σ H Q ⟨Hf,st,k⟩=>⟨Hf,st,fun v H' Hf' g r=>k v H' Hf' (st.grow g) g.ext r⟩
theorem ae9(h:JE X e f) (w:f ρ=some d):OP X C b ρ q e d:=A7 (h ρ d w) fun σ H Q ⟨Hf,st,k⟩=>⟨_,Hf,st.same,st.sl,k⟩
structure OPA (X:Cx) (C:Addr) (b:Bs) (ρ:Rho) (q:Os) (es:List Expr) (ds:List D):Prop where
 len:ds.length=es.length
 run:PA X es (fun σ H Q=>∃Hf,OSt X.K C b ρ q σ H Hf/\∀vs H' Hf',Grow H Hf H' Hf'->Reps X.K Hf' ds vs->Q vs H')
theorem bt1:OPA X C b ρ q [] []:=⟨rfl,fun pos pins s σ H Q I ⟨Hf,st,k⟩=>C6 pos pins s σ H Q I (k [] H Hf (Grow.refl st.same) rfl)⟩
theorem t9(h:OP X C b ρ q e d) (r:OPA X C b ρ q es ds) (hs:starEach (e::es) X.env=(false,eval e X.env)::starEach es X.env:=by rfl):OPA X C b ρ q (e::es) (d::ds) :=
 ⟨by simp[r.len],fun pos pins s σ H Q I ⟨Hf,st,k⟩=>B2 h r.run hs pos pins s σ H Q I ⟨Hf,st,fun v H1 Hf1 g1 r1=>⟨Hf1,st.grow g1,fun vs H2 Hf2 g2 r2=>k (v::vs) H2 Hf2 (g1.trans g2) ⟨v,vs,rfl,r1.mono g2.ext,r2⟩⟩⟩⟩
theorem bM2(h:OPA X C b ρ q es ds) (hn:es.length<=1000:=by decide):OP X C b ρ q (.Tuple es k pos) (.tuple ds) :=
 A7 (bb4 h.run) fun σ H Q ⟨Hf,st,k⟩=>⟨Hf,st,fun vs H1 Hf1 g r=>⟨by rw[r.length,h.len];exact Nat.le_of_lt (R9 hn),fun p hp=>k _ _ _ (g.trans (Grow.laid g.sub hp)) ⟨p,vs,rfl,SqT.of A5,r.mono (Grow.laid (o:=.tup vs) g.sub hp).ext⟩⟩⟩
theorem ac0(A:At1 X ρ q x i j a o) (c:FoC X.K C) (hf:f=("sheets" : Str)\/f=("steps_back" : Str)\/f=("steps_forth" : Str)) (hb:attributeBase (.Name x p) f X.env (eval (.Name x p) X.env)=eval (.Name x p) X.env) :
  PE X (.Attribute (.Name x p) f pos) (fun σ H Q=>∃Hf,OSt X.K C b ρ q σ H Hf/\∀cl v,FoAt X.K C H Hf a cl o->(ar2 cl).lookup f=some v->Q v H) :=
 A7 (bL1 (Q9 A.n A.v A.d1 A.d2) hb) fun σ H Q ⟨Hf,st,k⟩=>by
  obtain⟨cl,f1,_⟩:=st.focus A.w A.o
  have hl:∃v,(ar2 cl).lookup f=some v:=by
   rcases hf with rfl|rfl|rfl
   ·exact⟨.ref cl.d,rfl⟩
   ·exact⟨.ref cl.lb,rfl⟩
   ·exact⟨.ref cl.lf,rfl⟩
  obtain⟨v,hl⟩:=hl
  exact⟨_,n6 st A.s,a,C,cl.dx,ar2 cl,v,rfl,f1.ins,c.cl,by rcases hf with rfl|rfl|rfl;exact c.n1;exact c.n2;exact c.n3,hl,k cl v f1 hl⟩
theorem g7(f:FoAt K C H Hf a cl o) (x:Str):∃r:Option V,Z3 H cl.d (.str x) r/\((K8 o.m x=none/\r=none)\/∃d v,K8 o.m x=some d/\r=some v/\Rep K Hf d v):=by
 obtain⟨kvs,e1,r1⟩:=f.dic
 refine⟨_,Z3.k (k:=Sum.inr x) e1,?_⟩
 rcases r1.look x with⟨l1,l2⟩|⟨d,v,l1,l2,l3⟩
 ·exact .inl ⟨l1,l2⟩
 ·exact .inr ⟨d,v,l1,l2,l3⟩
theorem bM7(hu:X.A.units+64 < cLine) (A:At1 X ρ q x i j a o) (c:FoC X.K C) (he:JE X e f) (w:f ρ=some (.str k)) (m:M1 X (.Attribute (.Name x p) "sheets" pos) "get" apos e cpos) (hb:attributeBase (.Name x p) "sheets" X.env (eval (.Name x p) X.env)=eval (.Name x p) X.env:=by rfl) :
  OP X C b ρ q (.Call (.Attribute (.Attribute (.Name x p) "sheets" pos) "get" apos) [e] [] cpos) ((K8 o.m k).getD .none) :=
 A7 (bc3 (by omega) (ac0 A c (.inl rfl) hb) (he ρ _ w) m) fun σ H Q ⟨Hf,st,kk⟩=>⟨Hf,st,fun cl v f1 hl=>by
  cases hl
  obtain⟨kvs,e1,_⟩:=f1.dic
  refine⟨cl.d,rfl,.inl ⟨kvs,.inl e1⟩,_,Hf,st.same,st.sl,fun u H1 Hf1 g1 r1=>?_⟩
  cases r1
  obtain⟨r,d1,d2⟩:=g7 (f1.grow g1) k
  refine⟨r,d1,?_⟩
  rcases d2 with⟨l1,rfl⟩|⟨d,v,l1,rfl,l3⟩
  ·rw[l1]at kk;exact kk _ _ _ g1 rfl
  ·rw[l1]at kk;exact kk _ _ _ g1 l3⟩
theorem cc3(hu:X.A.units+64 < cLine) (A:At1 X ρ q x i j a o) (c:FoC X.K C) (he:JE X e f) (w:f ρ=some (.str k)) (hb:attributeBase (.Name x p) "sheets" X.env (eval (.Name x p) X.env)=eval (.Name x p) X.env:=by rfl) (h1:behindInMarks .In (.Attribute (.Name x p) "sheets" pos)=false:=by rfl) :
  OP X C b ρ q (.Compare e [.In] [.Attribute (.Name x p) "sheets" pos] cpos) (.bool (K8 o.m k).isSome) :=
 A7 (bL2 (bL5 (by omega) (he ρ _ w) (ac0 A c (.inl rfl) hb)) h1) fun σ H Q ⟨Hf,st,kk⟩=>⟨_,Hf,st.same,st.sl,fun u H1 Hf1 g1 r1=>⟨Hf1,st.grow g1,fun cl v f1 hl=>by
  cases hl;cases r1
  obtain⟨r,d1,d2⟩:=g7 f1 k
  refine⟨cl.d,r,rfl,d1,?_⟩
  rcases d2 with⟨l1,rfl⟩|⟨d,v,l1,rfl,l3⟩
  ·rw[l1]at kk;exact kk _ _ _ g1 rfl
  ·rw[l1]at kk;exact kk _ _ _ g1 rfl⟩⟩
theorem bc5(hu:X.A.units+64 < cLine) (A:At1 X ρ q x i j a o) (c:FoC X.K C) (he:JE X e f) (w:f ρ=some (.str k)) (hb:attributeBase (.Name x p) "sheets" X.env (eval (.Name x p) X.env)=eval (.Name x p) X.env:=by rfl) (h1:behindInMarks .NotIn (.Attribute (.Name x p) "sheets" pos)=false:=by rfl) :
  OT X C b ρ q (.Compare e [.NotIn] [.Attribute (.Name x p) "sheets" pos] cpos) (!(K8 o.m k).isSome) q :=
 P6 (bK1 (aQ1 (by omega) (he ρ _ w) (ac0 A c (.inl rfl) hb)) h1) fun σ H Q ⟨Hf,st,kk⟩=>⟨_,Hf,st.same,st.sl,fun u H1 Hf1 g1 r1=>⟨Hf1,st.grow g1,fun cl v f1 hl=>by
  cases hl;cases r1
  obtain⟨r,d1,d2⟩:=g7 f1 k
  refine⟨cl.d,r,rfl,d1,?_⟩
  rcases d2 with⟨l1,rfl⟩|⟨d,v,l1,rfl,l3⟩
  ·rw[l1]at kk;exact⟨_,rfl,kk _ _ (st.grow g1) g1.ext⟩
  ·rw[l1]at kk;exact⟨_,rfl,kk _ _ (st.grow g1) g1.ext⟩⟩⟩
theorem bt6(hu:X.A.units+64 < cLine) (A:At1 X ρ q x i j a o) (c:FoC X.K C) (he:JE X e f) (w:f ρ=some (.str k)) (l:K8 o.m k=some d) (hs:bX3 e) (hb:attributeBase (.Name x p) "sheets" X.env (eval (.Name x p) X.env)=eval (.Name x p) X.env:=by rfl) :
  OP X C b ρ q (.Subscript (.Attribute (.Name x p) "sheets" pos) e cpos) d :=
 A7 (aJ3 (by omega) (ac0 A c (.inl rfl) hb) (he ρ _ w) hs) fun σ H Q ⟨Hf,st,kk⟩=>⟨Hf,st,fun cl v f1 hl=>by
  cases hl
  refine⟨_,Hf,st.same,st.sl,fun u H1 Hf1 g1 r1=>?_⟩
  cases r1
  obtain⟨r,d1,d2⟩:=g7 (f1.grow g1) k
  rcases d2 with⟨l1,rfl⟩|⟨d',v,l1,rfl,l3⟩
  ·rw[l]at l1;cases l1
  ·rw[l]at l1;cases l1
   exact⟨cl.d,v,rfl,d1,kk _ _ _ g1 l3⟩⟩
end
end G
namespace G
open PySem PySem.Spec PyProof.Rows L2
def al8(kvs:List (D×D)) (x:Str):List (D×D):=kvs.filter fun kv=>!V6 x kv
theorem RepKs.drop{K:PySem.W.Frag}{H:Hp}{x:Str}:∀{kvs:List (D×D)}{m:List (Key×V)},RepKs K H kvs m->RepKs K H (al8 kvs x) (ad3 m (.inr x))
 | [],_,h=>by cases h;rfl
 | (k,e)::r,_,⟨y,w,t,h1,h2,h3,h4⟩=>by
  subst h1 h2
  have ih:=RepKs.drop (x:=x) h4
  unfold al8 ad3 at ih ⊢
  rw[List.filter_cons,List.filter_cons]
  by_cases e:y=x
  ·rw[if_neg (by simp[V6,e]),if_neg (by simp[e])];exact ih
  ·rw[if_pos (by simp[V6,e]),if_pos (by simp[e])];exact⟨y,w,_,rfl,rfl,h3,ih⟩
section
variable {X:Cx}{C:Addr}{b:Bs}{ρ ρ':Rho}{q q' q1 q2:Os}{o o':Fo}{K:PySem.W.Frag}{σ:L2.St}{H Hf:Hp}{a:Addr}{c:Cel}
theorem FoAt.same{c c':Cel}{Hf':Hp}(f:FoAt K C H Hf a c o) (g:FoAt K C H Hf' a c' o'):c=c':=by
 have e:=f.ins.symm.trans g.ins
 obtain⟨d1,d2,d3,d4⟩:=c
 obtain⟨x1,x2,x3,x4⟩:=c'
 cases e;rfl
theorem RepKs.length:∀{kvs:List (D×D)}{m:List (Key×V)},RepKs K H kvs m->m.length=kvs.length
 | [],_,h=>by cases h;rfl
 | (k,e)::r,_,⟨y,w,t,h1,h2,h3,h4⟩=>by subst h2;simp[RepKs.length h4]
theorem FoAt.wrD(f:FoAt K C H Hf a c o) (r:RepKs K Hf m kvs):FoAt K C (upd H c.d (.dK kvs)) Hf a c { o with m:=m }:=by
 obtain⟨k0,e1,_⟩:=f.dic
 obtain⟨vb,e2,r2⟩:=f.bk
 obtain⟨vf,e3,r3⟩:=f.fo
 have n:∀{x u},H x=some u->(∀k,u≠HO.dK k)->upd H c.d (.dK kvs) x=some u:=fun{x u} e z=>by rw[A6 (al1 e e1 (z _))];exact e
 exact⟨n f.ins (by intro _ z;cases z),⟨kvs,A5,r⟩,⟨vb,n e2 (by intro _ z;cases z),r2⟩,⟨vf,n e3 (by intro _ z;cases z),r3⟩,f.ne,f.fr⟩
theorem FoAt.wrB(f:FoAt K C H Hf a c o) (r:Reps K Hf ds vs):FoAt K C (upd H c.lb (.lst vs)) Hf a c { o with b:=ds }:=by
 obtain⟨k0,e1,r1⟩:=f.dic
 obtain⟨vb,e2,_⟩:=f.bk
 obtain⟨vf,e3,r3⟩:=f.fo
 have n:∀{x u},H x=some u->x≠c.lb->upd H c.lb (.lst vs) x=some u:=fun{x u} e z=>by rw[A6 z];exact e
 exact⟨n f.ins (al1 f.ins e2 (by intro z;cases z)),⟨k0,n e1 (al1 e1 e2 (by intro z;cases z)),r1⟩,⟨vs,A5,r⟩,⟨vf,n e3 f.ne.symm,r3⟩,f.ne,f.fr⟩
theorem bL8(hu:X.A.units+64 < cLine) (A:At1 X ρ q x i j a o) (cc:FoC X.K C) (he:JE X e f) (w:f ρ=some (.str k)) (hv:OP X C b ρ q v d) (hz:o.m.length < 1000) (hb:attributeBase (.Name x p) "sheets" X.env (eval (.Name x p) X.env)=eval (.Name x p) X.env:=by rfl)
  (hs:swapsWith v (some (.Subscript (.Attribute (.Name x p) "sheets" pos) e pos')) pos2.line X.env=pure false:=by rfl) :
  OS X C b ρ q (.Assign [.Subscript (.Attribute (.Name x p) "sheets" pos) e pos'] v pos2) (.nx ρ (q.set j (a,{ o with m:=ag6 o.m k d }))) :=
 C7 (br4 (by omega) (ac0 A cc (.inl rfl) hb) (he ρ _ w) hv hs) fun En σ H ⟨Hf,st,kk⟩=>⟨Hf,st,fun u H1 Hf1 g1 r1=>⟨Hf1,st.grow g1,fun cl y f1 hl=>by
  cases hl
  refine⟨_,Hf1,g1.sub,(st.grow g1).sl,fun y H2 Hf2 g2 r2=>?_⟩
  cases r2
  have st2:=(st.grow g1).grow g2
  have f2:=f1.grow g2
  obtain⟨kvs,e1,r3⟩:=f2.dic
  have lz:kvs.length=o.m.length:=RepKs.length r3
  refine⟨cl.d,_,rfl,bm6.k (k:=Sum.inr k) e1 (by rw[lz];exact R9 (Nat.le_of_lt hz)),?_⟩
  obtain⟨c',f3,k3⟩:=st2.focus A.w A.o
  have:c'=cl:=FoAt.same f3 f2
  subst this
  exact kk σ _ Hf2 (k3 (Chg.wr g2.sub (by simp) (f2.fr _ (by simp))) (f2.wrD (r3.put (r1.mono g2.ext))) fun z hz=>.inl hz) (g1.ext.trans g2.ext)⟩⟩
theorem bL9(hu:X.A.units+64 < cLine) (A:At1 X ρ q x i j a o) (cc:FoC X.K C) (he:JE X e f) (w:f ρ=some (.str k)) (hl:(K8 o.m k).isSome=true) (m:M1 X (.Attribute (.Name x p) "sheets" pos) "pop" apos e cpos) (hb:attributeBase (.Name x p) "sheets" X.env (eval (.Name x p) X.env)=eval (.Name x p) X.env:=by rfl)
  (hs:swapsWith (.Call (.Attribute (.Attribute (.Name x p) "sheets" pos) "pop" apos) [e] [] cpos) none pos2.line X.env=pure false:=by rfl) :
  OS X C b ρ q (.Expr (.Call (.Attribute (.Attribute (.Name x p) "sheets" pos) "pop" apos) [e] [] cpos) pos2) (.nx ρ (q.set j (a,{ o with m:=al8 o.m k }))) :=
 C7 (V3 (bc0 (ac0 A cc (.inl rfl) hb) (he ρ _ w) m) hs) fun En σ H ⟨Hf,st,kk⟩=>⟨Hf,st,fun cl y f1 hl'=>by
  cases hl'
  obtain⟨k0,e0,_⟩:=f1.dic
  refine⟨cl.d,rfl,.inl ⟨k0,.inl e0⟩,_,Hf,st.same,st.sl,fun y H2 Hf2 g2 r2=>?_⟩
  cases r2
  have st2:=st.grow g2
  have f2:=f1.grow g2
  obtain⟨kvs,e1,r3⟩:=f2.dic
  rcases r3.look k with⟨l1,_⟩|⟨d,v,l1,l2,l3⟩
  ·rw[l1]at hl;cases hl
  refine⟨kvs,Sum.inr k,v,e1,rfl,l2,?_⟩
  obtain⟨c',f3,k3⟩:=st2.focus A.w A.o
  have:c'=cl:=FoAt.same f3 f2
  subst this
  exact kk σ _ Hf2 (k3 (Chg.wr g2.sub (by simp) (f2.fr _ (by simp))) (f2.wrD r3.drop) fun z hz=>.inl hz) g2.ext⟩
theorem bM1(A:At1 X ρ q x i j a o) (cc:FoC X.K C) (hv:OP X C b ρ q e d) (hz:o.b.length < 1000) (hb:attributeBase (.Name x p) "steps_back" X.env (eval (.Name x p) X.env)=eval (.Name x p) X.env:=by rfl)
  (hbase:attributeBase (.Attribute (.Name x p) "steps_back" pos) "append" X.env (eval (.Attribute (.Name x p) "steps_back" pos) X.env)=eval (.Attribute (.Name x p) "steps_back" pos) X.env:=by rfl)
  (hfew:((backTo cpos (starEach [e] X.env)).all (fun x=>!x.1)&&(backToKw cpos (keywordEach [] X.env)).all (fun x=>x.1.isSome)
   && decide (([e]:List Expr).length+([]:List Keyword).length+(if([]:List Keyword).isEmpty then 0 else 1) < 30))=true:=by rfl)
  (hline:(apos.endLine==cpos.line)=true:=by rfl) (hst:starEach [e] X.env=[(false,eval e X.env)]:=by rfl)
  (hs:swapsWith (.Call (.Attribute (.Attribute (.Name x p) "steps_back" pos) "append" apos) [e] [] cpos) none pos2.line X.env=pure false:=by rfl) :
  OS X C b ρ q (.Expr (.Call (.Attribute (.Attribute (.Name x p) "steps_back" pos) "append" apos) [e] [] cpos) pos2) (.nx ρ (q.set j (a,{ o with b:=o.b++[d] }))) :=
 C7 (V3 (al0 PySem.F.plainAttrs_list PySem.F.slot_list_append PySem.F.type_list_append f9 (ac0 A cc (.inr (.inl rfl)) hb) (B2 hv C6 hst) hbase hfew hline hst (by rfl)) hs) fun En σ H ⟨Hf,st,kk⟩=>⟨Hf,st,fun cl y f1 hl=>by
  cases hl
  obtain⟨vb,e0,_⟩:=f1.bk
  refine⟨.inl ⟨rfl,vb,SqL.of e0⟩,Hf,st,fun v H2 Hf2 g2 r2=>?_⟩
  have st2:=st.grow g2
  have f2:=f1.grow g2
  obtain⟨vs,e1,r3⟩:=f2.bk
  refine⟨cl.lb,vs,v,rfl,rfl,e1,by rw[r3.length];exact R9 (Nat.le_of_lt hz),?_⟩
  obtain⟨c',f3,k3⟩:=st2.focus A.w A.o
  have:c'=cl:=FoAt.same f3 f2
  subst this
  exact kk σ _ Hf2 (k3 (Chg.wr g2.sub (by simp) (f2.fr _ (by simp))) (f2.wrB (r3.append ⟨v,[],rfl,r2,rfl⟩)) fun z hz=>.inl hz) g2.ext⟩
theorem bM0(A:At1 X ρ q x i j a o) (cc:FoC X.K C) (hs:swapsWith (.List [] lp) (some (.Attribute (.Name x p) "steps_forth" pos')) pos.line X.env=pure false:=by rfl) :
  OS X C b ρ q (.Assign [.Attribute (.Name x p) "steps_forth" pos'] (.List [] lp) pos) (.nx ρ (q.set j (a,{ o with f:=[] }))) :=
 C7 (ao5 (Q9 A.n A.v A.d1 A.d2) (ao8 C6) hs) fun En σ H ⟨Hf,st,kk⟩=>⟨by show 0<=sizeLine;decide,fun l hl=>by
  have g:Grow H Hf (upd H l (.lst [])) Hf:=Grow.made st.same hl
  obtain⟨c',f0,k3⟩:=st.focus A.w A.o
  have f3:=f0.grow g
  obtain⟨k0,e1,r1⟩:=f3.dic
  obtain⟨vb,e2,r2⟩:=f3.bk
  have ne:∀y∈cells a c',l≠y:=fun y hy z=>f0.there y hy (by rw[← z];exact hl)
  refine⟨_,n6 st A.s,a,C,c'.dx,ar2 c',rfl,f3.ins,cc.cl,cc.n3,by show 3 < 1000;decide,?_⟩
  refine kk σ _ Hf (k3 (c':={ c' with lf:=l }) ((Chg.of g).trans (Chg.wr (S:=cells a c') g.sub (by simp) (f3.fr _ (by simp))) fun _ h=>.inl h) ?_ fun z hz=>?_) (B6.refl _)
  ·refine⟨by rw[A5];rfl,⟨k0,by rw[A6 (al1 e1 f3.ins (by intro z;cases z))];exact e1,r1⟩,⟨vb,by rw[A6 (al1 e2 f3.ins (by intro z;cases z))];exact e2,r2⟩,⟨[],by rw[A6 (ne a (by simp)),A5],rfl⟩,(ne c'.lb (by simp)).symm,fun z hz=>?_⟩
   simp only[List.mem_cons,List.not_mem_nil,or_false]at hz
   rcases hz with rfl|rfl|rfl|rfl
   ·exact f3.fr _ (by simp)
   ·exact f3.fr _ (by simp)
   ·exact f3.fr _ (by simp)
   ·exact st.same.free hl
  ·simp only[List.mem_cons,List.not_mem_nil,or_false]at hz
   rcases hz with rfl|rfl|rfl|rfl
   ·exact .inl (by simp)
   ·exact .inl (by simp)
   ·exact .inl (by simp)
   ·exact .inr hl⟩
end
end G
namespace G
open PySem PySem.Spec PyProof.Rows L2
abbrev aF7:=List (Str×MF×Nat)
def KM(K:PySem.W.Frag) (C:Addr) (m qual:Str) (st:Stmt):Prop:=∃(f:Addr) (oc:Value) (od:Option Addr) (sl:Array (Option Value)) (kV dc pm:Value) (an:Option Addr) (cd ct:Value),
 PySem.W.findIn K (.ref C) m=some (some (.ref f))/\PySem.W.isFn K (.ref f)=true/\K.lookup f=some ⟨oc,od,.func (PySem.W.fnOf m qual (R3 st) (B3 st) (B8 st) .none kV dc pm an cd ct),sl⟩/\PySem.W.codeIn K cd qual=true/\PySem.W.keepIn K (.ref f)=true
structure FitO (S:Sg) (ms:aF7) (C:Addr) (c:Kx) (X:Cx):Prop where
 fit:Fit S c X
 foc:FoC X.K C
 mts:∀m F n,ms.lookup m=some (F,n)->am7 X C m n F
def OM(X:Cx) (C:Addr) (b:Bs) (ρ:Rho) (q:Os) (sts:List Stmt) (r:D) (q':Os):Prop:=OSs X C b ρ q sts (.rt r q')\/(r=.none/\∃ρ',OSs X C b ρ q sts (.nx ρ' q'))
def P5(n:Nat) (a:Addr) (ds:List D):Rho:=some (.opq a)::N7 n ds
theorem m9{K:PySem.W.Frag}{H0 H Hf:Hp}{x:Str}{N:List Str}{ds:List D}{vs:List V}(r:Reps K Hf ds vs):Slots K H0 (P5 N.length a ds) (L2.start (x::N) (.ref a::vs)) H Hf:=by
 have s:=a8 (H0:=H0) (H:=H) (N:=N) r
 have e:L2.start (x::N) (.ref a::vs)=some (.ref a)::L2.start N vs:=by unfold L2.start;simp
 rw[e]
 refine⟨by unfold P5;simp[s.len],fun i b h=>?_,fun i j d1 d2 a h1 h2 h3 h4=>?_⟩
 ·cases i with
  | zero=>cases h;exact⟨_,rfl,rfl⟩
  | succ i=>exact s.is i b h
 ·cases i with
  | zero=>cases h1
  | succ i=>cases j with
   | zero=>cases h2
   | succ j=>exact congrArg _ (s.apart i j d1 d2 a h1 h2 h3 h4)
section
variable {P:Program}{w:World}{K:PySem.W.Frag}{mg:Str->Option Value}{base:Heap}{cs:List (Str×D)}{bl:List Str}{C:Addr}{ms:aF7}
def MOk(P:Program) (w:World) (K:PySem.W.Frag) (mg:Str->Option Value) (base:Heap) (C:Addr) (k:Nat) (ms:aF7):Prop:=∀m F n,ms.lookup m=some (F,n)->∃(f:Addr) (fd:FuncData) (ps:List Str),
 FnOk P w K mg base CX0 k f fd ps (spM K C n F)/\Meth K C m f/\O9 K fd ps []
theorem MOk.nil:MOk P w K mg base C 0 []:=fun x F n h=>by cases h
theorem MOk.mono(T:MOk P w K mg base C j ms) (h:j<=k):MOk P w K mg base C k ms:=fun x F n e=>by
 obtain⟨f,fd,ps,h1,h2⟩:=T x F n e
 exact⟨f,fd,ps,h1.mono h,h2⟩
theorem MOk.cons(T:MOk P w K mg base C k ms) (h:∃(f:Addr) (fd:FuncData) (ps:List Str),FnOk P w K mg base CX0 k f fd ps (spM K C n F)/\Meth K C m f/\O9 K fd ps []):MOk P w K mg base C k ((m,F,n)::ms):=fun y G j e=>by
 rw[List.lookup_cons]at e
 split at e
 ·rename_i q
  cases e
  simp only[beq_iff_eq]at q
  subst q
  exact h
 ·exact T y G j e
def BdM(d:Fd) (qual:Str):Prop:=∀(kV doc pm:Value) (an:Option Addr) (cdv ct:Value),UA d.ps.length fun us=>bindArgs (PySem.W.fnOf d.x qual (R3 d.st) (B3 d.st) (B8 d.st) .none kV doc pm an cdv ct) ⟨us,[]⟩=pure (d.ps.zip us)
theorem cc8(M:Md K mg cs bl) (T:TOk P w K mg base k tab) (Mk:MOk P w K mg base C k ms) (Fc:FoC K C) (d:Fd) (hN:d.N=s0::N) (hp:d.ps.length=n+1) (ok:d.okB=true) (Fn:Fun K d.x qual d.st f fd)
  (js:∀X:Cx,FitO ⟨tab,cs,bl⟩ ms C d.c X->∀b a o ds r o',ds.length=n->F o ds=some (r,o')->OM X C b (P5 N.length a ds) [(a,o)] (B3 d.st) r [(a,o')]):FnOk P w K mg base CX0 (k+1) f fd d.ps (spM K C n F):=by
 have Sc:=Fd.sc ok
 refine Fn.ok Sc (fun vs H Q E h=>?_) fun cdv A outer s H vs Q E hr hsp=>?_
 ·obtain⟨a,us,Hf,c,o,ds,r,o',rfl,h2,_⟩:=h
  simp[h2,hp]
 obtain⟨a,us,Hf,c,o,ds,r,o',rfl,h2,ss,fo,rp,e,kk⟩:=hsp
 have X0:FitO ⟨tab,cs,bl⟩ ms C d.c (ab0 CX0 P w K mg base d.N qual (B8 d.st) f cdv A outer s H E).nox:=by
  refine⟨⟨rfl,rfl,Sc.nd,rfl,rfl,hr.units,fun _=>⟨fun _=>rfl,Sc.kind⟩,fun x F n h=>?_,M.css,M.bls⟩,Fc,fun m F n h=>?_⟩
  ·exact(T x F n h).imp (fun⟨f',fd',ps,h1,h2,h3,h4⟩=>⟨k,f',fd',ps,h1,hr,h2,h3,h4⟩) id
  ·obtain⟨f',fd',ps,h1,h2,h3⟩:=Mk m F n h
   exact⟨k,f',fd',ps,h1,hr,h2,h3⟩
 have hl:ds.length=n:=by rw[← h2,rp.length]
 have st:OSt K C ⟨cells a c,H,Hf⟩ (P5 N.length a ds) [(a,o)] (start d.N (.ref a::us)) H Hf:=⟨Chg.of (Grow.refl ss),by rw[hN];exact m9 rp,cells a c++[],.cons fo (by simp) .nil,fun x hx=>.inl (by simpa using hx)⟩
 have fin:∀ρ' σ' v H' Hf',OSt K C ⟨cells a c,H,Hf⟩ ρ' [(a,o')] σ' H' Hf'->Rep K Hf' r v->Q v H':=fun ρ' σ' v H' Hf' s' rv=>by
  obtain⟨R,ob,hR⟩:=s'.ob
  cases ob with
  | @cons _ c' _ _ R0 fo' _ _=>exact kk v H' Hf' c' s'.gr fo' (fun x hx=>hR x (List.mem_append_left _ hx)) rv
 rcases js _ X0 ⟨cells a c,H,Hf⟩ a o ds r o' hl e with j|⟨rfl,ρ',j⟩
 ·exact⟨_,j,Hf,st,fin⟩
 ·exact⟨_,j,Hf,st,fun σ' H' Hf' s' _=>fin _ _ _ _ _ s' rfl⟩
theorem MOk.add(Mk:MOk P w K mg base C k ms) (M:Md K mg cs bl) (T:TOk P w K mg base k tab) (Fc:FoC K C) (d:Fd) (h:KM K C d.x qual d.st) (F:MF) (n:Nat) (s0:Str) (N:List Str)
  (js:∀X:Cx,FitO ⟨tab,cs,bl⟩ ms C d.c X->∀b a o ds r o',ds.length=n->F o ds=some (r,o')->OM X C b (P5 N.length a ds) [(a,o)] (B3 d.st) r [(a,o')])
  (hN:d.N=s0::N:=by rfl) (hp:d.ps.length=n+1:=by rfl) (ok:d.okB=true:=by kernel_rfl) (bd:BdM d qual:=by repeat (first|exact rfl|intro _)):MOk P w K mg base C (k+1) ((d.x,F,n)::ms):=by
 obtain⟨f,oc,od,sl,kV,dc,pm,an,cd,ct,a,i,l,cc,kk⟩:=h
 have Fn:=ar1 l cc kk
 exact(Mk.mono (Nat.le_succ k)).cons ⟨f,_,d.ps,cc8 M T Mk Fc d hN hp ok Fn js,⟨a,i,kk⟩,.all (ua (bd kV dc pm an cd ct))⟩
end
def aw9:MF:=fun o ds=>match ds with
 | [.str k,d]=>(isN d .none).bind fun t=>match t with
  | .bool true=>if(K8 o.m k).isSome then some (.none,{ o with m:=al8 o.m k }) else none
  | _=>if o.m.length < 1000 then some (.none,{ o with m:=ag6 o.m k d }) else none
 | _=>none
def Z4:MF:=fun o ds=>match ds with
 | [w,.str k,d]=>if o.b.length < 1000 then aw9 { o with b:=o.b++[.tuple [w,.str k,(K8 o.m k).getD .none,d]],f:=[] } [.str k,d] else none
 | _=>none
def ad8:MF:=fun o ds=>match ds with
 | [.str k,d]=>(Z4 o [.str "lay", .str k,d]).map fun r=>(.bool (K8 o.m k).isSome,r.2)
 | _=>none
def J8:MF:=fun o ds=>match ds with
 | [.str k]=>(K8 o.m k).map fun d=>(d,o)
 | _=>none
def aR3:MF:=fun o ds=>match ds with
 | [.str k]=>(K8 o.m k).bind fun d=>(Z4 o [.str "take", .str k,.none]).map fun r=>(d,r.2)
 | _=>none
def T6(F1 F2:FnD):MF:=fun o ds=>match ds with
 | [m,.str k,.str j]=>(K8 o.m k).bind fun u=>(K8 o.m j).bind fun l=>(F1 [u,l]).bind fun t=>match t with
  | .bool true=>(F2 [m,u,l]).bind fun s=>(Z4 o [.str "blend", .str j,s]).map fun r=>(s,r.2)
  | _=>none
 | _=>none
end G
namespace G
open PySem PySem.Spec PyProof.Rows L2
def z6(c:Kx):Bool:=c.N.all fun x=>aj3 c.sc x&&match c.sc.names.lookup x with|some .local=>true|_=>false
section
variable {X:Cx}{S:Sg}{ms:aF7}{C:Addr}{c:Kx}{b:Bs}{a:Addr}{o o':Fo}{ds:List D}{r:D}{ρ:Rho}{q q':Os}
theorem FitO.nm{i:Nat}{x:Str}(F:FitO S ms C c X) (hl:z6 c=true) (h:c.N[i]? = some x):X.N[i]? = some x/\Vis X.env.scope x/\(x==("__debug__" : Str))=false/\(x==("__classdict__" : Str))=false/\Loc X.env.scope x:=by
 have:=List.all_eq_true.mp hl x (List.mem_of_getElem? h)
 simp only[Bool.and_eq_true]at this
 obtain⟨h1,h2,h3⟩:=V2 F.fit this.1
 refine⟨by rw[F.fit.N];exact h,h1,h2,h3,?_⟩
 have h4:=this.2
 split at h4
 ·rename_i e;rw[← F.fit.sc]at e;exact .inl e
 ·cases h4
theorem FitO.var(F:FitO S ms C c X) (hl:z6 c=true) (i:Nat) (h:c.N[i]? = some x):JE X (.Name x pos) (A4 i):=by
 obtain⟨h1,h2,h3,h4,_⟩:=F.nm hl h
 exact bg7 i h1 h2 h3 h4
theorem FitO.slf(F:FitO S ms C c X) (hl:z6 c=true) (h:c.N[0]? = some x) (s:ρ[0]? = some (some (.opq a))) (w:W9 ρ=true):At1 X ρ [(a,o)] x 0 0 a o:=by
 obtain⟨h1,h2,h3,h4,_⟩:=F.nm hl h
 exact⟨h1,h2,h3,h4,s,rfl,w⟩
theorem bc6(h:JE X e f) (w:f ρ=some d) (n:isN d .none=some (.bool t)):OT X C b ρ q (.Compare e [.Is] [.Constant .none j p] pos) t q:=bc7 bd7 (f8 h w) (f8 aD1 rfl) n
theorem aZ3(F:FitO S ms C c X) (hN:c.N=[("self" : Str), "name", "sheet"]) (hl:z6 c=true) (h1:(p9.endLine==p11.line)=true) (e:aw9 o ds=some (r,o')) :
  OM X C b (P5 2 a ds) [(a,o)] [.If (.Compare (.Name "sheet" p1) [.Is] [.Constant .none p2 p3] p4)
   [.Expr (.Call (.Attribute (.Attribute (.Name "self" p6) "sheets" p7) "pop" p9) [.Name "name" p10] [] p11) p12]
   [.Assign [.Subscript (.Attribute (.Name "self" p13) "sheets" p14) (.Name "name" p15) p16] (.Name "sheet" p17) p18] p19] r [(a,o')]:=by
 unfold aw9 at e
 split at e
 ·rename_i ds k d
  obtain⟨t,e1,e2⟩:=Option.bind_eq_some_iff.mp e
  have A:At1 X (P5 2 a [.str k,d]) [(a,o)] "self" 0 0 a o:=F.slf hl (by rw[hN];rfl) rfl rfl
  have v1:∀{pos},JE X (.Name "name" pos) (A4 1):=fun{pos}=>F.var hl 1 (by rw[hN];rfl)
  have v2:∀{pos},JE X (.Name "sheet" pos) (A4 2):=fun{pos}=>F.var hl 2 (by rw[hN];rfl)
  have hu:=F.fit.units
  right
  cases t with
  | bool t =>
   cases t with
   | true =>
    dsimp only at e2
    split at e2
    ·rename_i hk
     cases e2
     exact⟨rfl,_,t8 (aJ8 (bc6 v2 rfl e1) (fun _=>t8 (bL9 hu A F.foc v1 rfl hk ⟨rfl,rfl,h1,rfl⟩)) fun z=>by cases z)⟩
    ·cases e2
   | false =>
    dsimp only at e2
    split at e2
    ·rename_i hk
     cases e2
     exact⟨rfl,_,t8 (aJ8 (bc6 v2 rfl e1) (fun z=>by cases z) fun _=>t8 (bL8 hu A F.foc v1 rfl (ae9 v2 rfl) hk))⟩
    ·cases e2
  | _=>cases d<;>cases e1
 ·cases e
theorem FitO.call{e:Expr}{es:List Expr}(F:FitO S ms C c X) (h:S.fn.lookup x=some (Fx,n)) (hg:ar0 c.sc x=true) (ha:JA X (e::es) g) (hn:(e::es).length=n:=by rfl)
  (he:starEach (e::es) X.env=(false,eval e X.env)::starEach es X.env:=by rfl) (hpl:(backTo pos (starEach es X.env)).any (·.1)=false:=by rfl):JE X (.Call (.Name x p) (e::es) [] pos) (B1 Fx g):=by
 obtain⟨g1,g2⟩:=u9 F.fit hg
 rcases F.fit.fns _ _ _ h with⟨k,f,fd,ps,hk,hr,hm,hkp,hb⟩|⟨hm,hb⟩
 ·exact aL2 hk hr g1 hm hkp hb ha hn g2 he hpl
 ·exact bD1 hb F.fit.units g1 hm ha hn g2 he hpl
theorem FitO.set(F:FitO S ms C c X) (hd:c.df=true) (hl:z6 c=true) (i:Nat) (h:c.N[i]? = some x) (he:OE X C b ρ q e d q') (hs:swapsWith e (some (.Name x pos')) pos.line X.env=pure false:=by rfl):OS X C b ρ q (.Assign [.Name x pos'] e pos) (.nx (ρ.set i (‹d›)) q'):=by
 obtain⟨h1,h2,h3,h4,h5⟩:=F.nm hl h
 exact bL7 i (by rw[F.fit.N];exact F.fit.nd) he h1 h5 hs ((F.fit.df hd).1 _)
theorem aP0(F:FitO S ms C c X) (hN:c.N=[("self" : Str), "word", "name", "sheet"]) (hl:z6 c=true) (hm:ms.lookup ("set_sheet" : Str)=some (aw9,2)) (h1:(p3.endLine==p14.line)=true) (h2:(p8.endLine==p10.line)=true) (h3:(p22.endLine==p25.line)=true) (e:Z4 o ds=some (r,o')) :
  OM X C b (P5 3 a ds) [(a,o)] [.Expr (.Call (.Attribute (.Attribute (.Name "self" p1) "steps_back" p2) "append" p3) [.Tuple [.Name "word" p4,.Name "name" p5,.Call (.Attribute (.Attribute (.Name "self" p6) "sheets" p7) "get" p8) [.Name "name" p9] [] p10,.Name "sheet" p11] p12 p13] [] p14) p15,
   .Assign [.Attribute (.Name "self" p16) "steps_forth" p17] (.List [] p18) p20,
   .Expr (.Call (.Attribute (.Name "self" p21) "set_sheet" p22) [.Name "name" p23,.Name "sheet" p24] [] p25) p26] r [(a,o')]:=by
 unfold Z4 at e
 split at e
 ·rename_i ds w k d
  split at e
  ·rename_i hb
   have A:∀{o1:Fo},At1 X (P5 3 a [w,.str k,d]) [(a,o1)] "self" 0 0 a o1:=fun{o1}=>F.slf hl (by rw[hN];rfl) rfl rfl
   have v1:∀{pos},JE X (.Name "word" pos) (A4 1):=fun{pos}=>F.var hl 1 (by rw[hN];rfl)
   have v2:∀{pos},JE X (.Name "name" pos) (A4 2):=fun{pos}=>F.var hl 2 (by rw[hN];rfl)
   have v3:∀{pos},JE X (.Name "sheet" pos) (A4 3):=fun{pos}=>F.var hl 3 (by rw[hN];rfl)
   have r0:r=.none:=by
    unfold aw9 at e
    dsimp only at e
    obtain⟨t,e1,e2⟩:=Option.bind_eq_some_iff.mp e
    split at e2<;>(split at e2<;>cases e2;rfl)
   refine .inr ⟨r0,_,M9 (bM1 A F.foc (bM2 (t9 (ae9 v1 rfl) (t9 (ae9 v2 rfl) (t9 (bM7 F.fit.units A F.foc v2 rfl ⟨rfl,rfl,h2,rfl⟩) (t9 (ae9 v3 rfl) bt1)))) (by show 4<=1000;decide)) hb (hline:=h1)) (M9 (bM0 A F.foc) (t8 (ae8 (Y1 (F.mts _ _ _ hm) F.foc A (by decide) (J7 v2 (J7 v3 W2)) rfl e) rfl)))⟩
  ·cases e
 ·cases e
theorem be9(F:FitO S ms C c X) (hN:c.N=[("self" : Str), "name", "sheet", "was_there"]) (hd:c.df=true) (hl:z6 c=true) (hm:ms.lookup ("take_step" : Str)=some (Z4,3)) (h3:(p22.endLine==p25.line)=true) (e:ad8 o ds=some (r,o')) :
  OM X C b (P5 3 a ds) [(a,o)] [.Assign [.Name "was_there" p1] (.Compare (.Name "name" p2) [.In] [.Attribute (.Name "self" p3) "sheets" p4] p5) p6,
   .Expr (.Call (.Attribute (.Name "self" p21) "take_step" p22) [.Constant (.str "lay") p7 p8,.Name "name" p23,.Name "sheet" p24] [] p25) p26,.Return (some (.Name "was_there" p9)) p10] r [(a,o')]:=by
 unfold ad8 at e
 split at e
 ·rename_i ds k d
  obtain⟨⟨r1,o1⟩,e1,e2⟩:=Option.map_eq_some_iff.mp e
  cases e2
  have A:∀{ρ:Rho},W9 ρ=true->ρ[0]? = some (some (.opq a))->At1 X ρ [(a,o)] "self" 0 0 a o:=fun{ρ} z1 z2=>F.slf hl (by rw[hN];rfl) z2 z1
  have v1:∀{pos},JE X (.Name "name" pos) (A4 1):=fun{pos}=>F.var hl 1 (by rw[hN];rfl)
  have v2:∀{pos},JE X (.Name "sheet" pos) (A4 2):=fun{pos}=>F.var hl 2 (by rw[hN];rfl)
  have v3:∀{pos},JE X (.Name "was_there" pos) (A4 3):=fun{pos}=>F.var hl 3 (by rw[hN];rfl)
  exact .inl (M9 (F.set hd hl 3 (by rw[hN];rfl) (cc3 F.fit.units (A rfl rfl) F.foc v1 rfl).oe) (M9 (ae8 (Y1 (F.mts _ _ _ hm) F.foc (A rfl rfl) (by decide) (J7 aq6 (J7 v1 (J7 v2 W2))) rfl e1) rfl) (ap0 (ap1 (f8 v3 rfl)))))
 ·cases e
theorem aD7{rs:List Stmt}(F:FitO S ms C c X) (hN:c.N=[("self" : Str), "name"]) (hl:z6 c=true) (e:J8 o ds=some (r,o')) :
  OM X C b (P5 1 a ds) [(a,o)] [.If (.Compare (.Name "name" p1) [.NotIn] [.Attribute (.Name "self" p2) "sheets" p3] p4) rs [] p5,.Return (some (.Subscript (.Attribute (.Name "self" p6) "sheets" p7) (.Name "name" p8) p9)) p10] r [(a,o')]:=by
 unfold J8 at e
 split at e
 ·rename_i ds k
  obtain⟨d,e1,e2⟩:=Option.map_eq_some_iff.mp e
  cases e2
  have A:At1 X (P5 1 a [.str k]) [(a,o)] "self" 0 0 a o:=F.slf hl (by rw[hN];rfl) rfl rfl
  have v1:∀{pos},JE X (.Name "name" pos) (A4 1):=fun{pos}=>F.var hl 1 (by rw[hN];rfl)
  exact .inl (M9 (aJ8 (bc5 F.fit.units A F.foc v1 rfl) (fun z=>by rw[e1]at z;cases z) fun _=>aJ7) (ap0 (ap1 (bt6 F.fit.units A F.foc v1 rfl e1 fun _ _=>rfl).oe)))
 ·cases e
theorem bd3(F:FitO S ms C c X) (hN:c.N=[("self" : Str), "name", "sheet"]) (hd:c.df=true) (hl:z6 c=true) (hm:ms.lookup ("take_step" : Str)=some (Z4,3)) (hf:ms.lookup ("fetch" : Str)=some (J8,1)) (h3:(p22.endLine==p25.line)=true) (h4:(p3.endLine==p5.line)=true) (e:aR3 o ds=some (r,o')) :
  OM X C b (P5 2 a ds) [(a,o)] [.Assign [.Name "sheet" p1] (.Call (.Attribute (.Name "self" p2) "fetch" p3) [.Name "name" p4] [] p5) p6,
   .Expr (.Call (.Attribute (.Name "self" p21) "take_step" p22) [.Constant (.str "take") p7 p8,.Name "name" p23,.Constant .none p24 p27] [] p25) p26,.Return (some (.Name "sheet" p9)) p10] r [(a,o')]:=by
 unfold aR3 at e
 split at e
 ·rename_i ds k
  obtain⟨d,e0,e⟩:=Option.bind_eq_some_iff.mp e
  obtain⟨⟨r1,o1⟩,e1,e2⟩:=Option.map_eq_some_iff.mp e
  cases e2
  have A:∀{ρ:Rho},W9 ρ=true->ρ[0]? = some (some (.opq a))->At1 X ρ [(a,o)] "self" 0 0 a o:=fun{ρ} z1 z2=>F.slf hl (by rw[hN];rfl) z2 z1
  have v1:∀{pos},JE X (.Name "name" pos) (A4 1):=fun{pos}=>F.var hl 1 (by rw[hN];rfl)
  have v2:∀{pos},JE X (.Name "sheet" pos) (A4 2):=fun{pos}=>F.var hl 2 (by rw[hN];rfl)
  have f1:J8 o [.str k]=some (r,o):=by unfold J8;simp only[e0,xms]
  exact .inl (M9 (F.set hd hl 2 (by rw[hN];rfl) (Y1 (F.mts _ _ _ hf) F.foc (A rfl rfl) (by decide) (J7 v1 W2) rfl f1)) (M9 (ae8 (Y1 (F.mts _ _ _ hm) F.foc (A rfl rfl) (by decide) (J7 aq6 (J7 v1 (J7 aD1 W2))) rfl e1) rfl) (ap0 (ap1 (f8 v2 rfl)))))
 ·cases e
theorem aE7{rs:List Stmt}{F1 F2:FnD}(F:FitO S ms C c X) (hN:c.N=[("self" : Str), "manner", "above", "below", "upper", "lower", "sheet"]) (hd:c.df=true) (hl:z6 c=true) (hm:ms.lookup ("take_step" : Str)=some (Z4,3)) (hf:ms.lookup ("fetch" : Str)=some (J8,1))
  (h1:S.fn.lookup ("are_of_one_size" : Str)=some (F1,2)) (g1:ar0 c.sc "are_of_one_size" = true) (h2:S.fn.lookup ("blended_sheets" : Str)=some (F2,3)) (g2:ar0 c.sc "blended_sheets" = true) (h3:(p22.endLine==p25.line)=true) (h4:(p3.endLine==p5.line)=true) (h5:(q3.endLine==q5.line)=true) (e:T6 F1 F2 o ds=some (r,o')) :
  OM X C b (P5 6 a ds) [(a,o)] [.Assign [.Name "upper" p1] (.Call (.Attribute (.Name "self" p2) "fetch" p3) [.Name "above" p4] [] p5) p6,.Assign [.Name "lower" q1] (.Call (.Attribute (.Name "self" q2) "fetch" q3) [.Name "below" q4] [] q5) q6,
   .If (.UnaryOp .Not (.Call (.Name "are_of_one_size" r1) [.Name "upper" r2,.Name "lower" r3] [] r4) r5) rs [] r6,
   .Assign [.Name "sheet" s1] (.Call (.Name "blended_sheets" s2) [.Name "manner" s3,.Name "upper" s4,.Name "lower" s5] [] s6) s7,
   .Expr (.Call (.Attribute (.Name "self" p21) "take_step" p22) [.Constant (.str "blend") p7 p8,.Name "below" p23,.Name "sheet" p24] [] p25) p26,.Return (some (.Name "sheet" p9)) p10] r [(a,o')]:=by
 unfold T6 at e
 split at e
 ·rename_i ds m k j
  obtain⟨u,e0,e⟩:=Option.bind_eq_some_iff.mp e
  obtain⟨l,e1,e⟩:=Option.bind_eq_some_iff.mp e
  obtain⟨t,e2,e⟩:=Option.bind_eq_some_iff.mp e
  split at e
  ·obtain⟨s,e3,e⟩:=Option.bind_eq_some_iff.mp e
   obtain⟨⟨r1,o1⟩,e4,e5⟩:=Option.map_eq_some_iff.mp e
   cases e5
   have A:∀{ρ:Rho},W9 ρ=true->ρ[0]? = some (some (.opq a))->At1 X ρ [(a,o)] "self" 0 0 a o:=fun{ρ} z1 z2=>F.slf hl (by rw[hN];rfl) z2 z1
   have v1:∀{pos},JE X (.Name "manner" pos) (A4 1):=fun{pos}=>F.var hl 1 (by rw[hN];rfl)
   have v2:∀{pos},JE X (.Name "above" pos) (A4 2):=fun{pos}=>F.var hl 2 (by rw[hN];rfl)
   have v3:∀{pos},JE X (.Name "below" pos) (A4 3):=fun{pos}=>F.var hl 3 (by rw[hN];rfl)
   have v4:∀{pos},JE X (.Name "upper" pos) (A4 4):=fun{pos}=>F.var hl 4 (by rw[hN];rfl)
   have v5:∀{pos},JE X (.Name "lower" pos) (A4 5):=fun{pos}=>F.var hl 5 (by rw[hN];rfl)
   have v6:∀{pos},JE X (.Name "sheet" pos) (A4 6):=fun{pos}=>F.var hl 6 (by rw[hN];rfl)
   have f1:J8 o [.str k]=some (u,o):=by unfold J8;simp only[e0,xms]
   have f2:J8 o [.str j]=some (l,o):=by unfold J8;simp only[e1,xms]
   refine .inl (M9 (F.set hd hl 4 (by rw[hN];rfl) (Y1 (F.mts _ _ _ hf) F.foc (A rfl rfl) (by decide) (J7 v2 W2) rfl f1)) (M9 (F.set hd hl 5 (by rw[hN];rfl) (Y1 (F.mts _ _ _ hf) F.foc (A rfl rfl) (by decide) (J7 v3 W2) rfl f2))
    (M9 (aJ8 (c:=false) (bs9 (bf6 (bf4 (F.call h1 g1 (J7 v4 (J7 v5 W2))))) ?_) (fun z=>by cases z) fun _=>aJ7) (M9 (F.set hd hl 6 (by rw[hN];rfl) (f8 (F.call h2 g2 (J7 v1 (J7 v4 (J7 v5 W2)))) e3))
     (M9 (ae8 (Y1 (F.mts _ _ _ hm) F.foc (A rfl rfl) (by decide) (J7 aq6 (J7 v3 (J7 v6 W2))) rfl e4) rfl) (ap0 (ap1 (f8 v6 rfl))))))))
   show Option.map _ (((F1 [u,l])).bind aO4)=_
   rw[e2];rfl
  ·cases e
 ·cases e
end
end G
namespace G
open PySem PySem.Spec PySem.W PyProof.Rows L2 PySem.SeqAt
theorem aB3{prog:Program}{w:World}{A:Around}{E:Value->Shared->Prop}{s:Shared}{l:Addr}{Q:Value->Shared->Prop}
  (hcol:∀{E:Value->Shared->Prop}{R:List Value->Shared->Prop},(∀(vs out:List Value) (s1:Shared),vs.length < 64->(vs.length < 2->out=vs) ->
   (2<=vs.length->∀h':Heap,(∀b o,s1.heap.get? b=some o->h'.get? b=some o)->wpAny (model prog w) A.in1.in1 (keyKind' vs.toArray) (fun κ s'=>(kas_sort vs.length).kasWp (kas_ask prog w A.in1.in1 κ vs) (fun p s''=>s''={ s1 with heap:=h' }/\(p.toList.map fun i=>vs.getD i Value.none)=out) s') (fun _ _=>False) { s1 with heap:=h' }) ->
   (∀h' c,(∀b o,s1.heap.get? b=some o->h'.get? b=some o)->h'.get? s1.heap.objs.size=some (seqObj "list" out.toArray c)->Q (.ref s1.heap.objs.size) { s1 with heap:=h' })->R vs s1)->wpAny (model prog w) A.in1 (collect (.ref l)) R E s) :
  wpAny (model prog w) A (call (.builtin "sorted") [.ref l]) Q E s:=by
 refine Calls.call_function_entry kind_sorted plain_sorted entry_sorted (args_sorted1 _) ?_
 unfold Builtin.«sorted»
 refine wpAny_bind (m:=checkCount "sorted" 1 1 _) (wpAny_pure ?_)
 refine wpAny_bind (hcol fun vs out s1 h64 h1 hk h=>?_)
 refine wpAny_bind (wpAny_newList ?_ (by rw[sizeLine_eq];omega))
 have hoL:(s1.heap.push (seqObj "list" vs.toArray 0)).get? s1.heap.objs.size=some (seqObj "list" vs.toArray 0):=Heap.get?_push_size _ rfl
 have keep:∀b o,s1.heap.get? b=some o->(s1.heap.push (seqObj "list" vs.toArray 0)).get? b=some o:=fun b o q=>Heap.get?_push_of_some _ q
 show wpAny _ _ _ _ _ { s1 with heap:=s1.heap.push (seqObj "list" vs.toArray 0) }
 generalize s1.heap.push (seqObj "list" vs.toArray 0)=h3 at hoL keep
 have ne:∀b o,s1.heap.get? b=some o->b≠s1.heap.objs.size:=fun b o q=>Nat.ne_of_lt (Heap.lt_size q)
 refine wpAny_bind (wpAny_holding (wpAny_call_entry slot_list_sort ⟨_,hoL,rfl⟩ entry_list_sort ?body (args_list_sort _)))
 case body =>
  refine be8 (s:={ s1 with heap:=h3 }) (out:=out) hoL h64 h1 (fun h2 h' kp=>hk h2 h' fun b o q=>kp b o (ne b o q) (keep b o q)) fun h' c kp e=>⟨_,rfl,wpAny_pure ⟨_,rfl,h h' c (fun b o q=>kp b o (ne b o q) (keep b o q)) e⟩⟩
section
variable {X:Cx}{pins:List (Addr×Obj)}{σ:L2.St}{H Hf:Hp}{s:Shared}
end
end G
namespace G
open PySem PySem.Spec PySem.W PyProof.Rows L2
theorem az1{prog:Program}{w:World}{A:Around}{E:Value->Shared->Prop}{s:Shared}{T:String}{r d:Addr}{n:Nat}{P:Nat->Value->Prop}{OK:Heap->Prop}{Q:List Value->Shared->Prop}(K:KdlSrc prog w T r d n P OK) (hh:A.handled=none) (hok:OK s.heap) (hn:n<=sizeLine)
  (h:∀h' tk (vs:List Value),(∀b o,s.heap.get? b=some o->h'.get? b=some o)->vs.length=n->(∀j v,vs[j]? = some v->P j v)->Q vs { s with heap:=h',toks:=tk }):wpAny (model prog w) A (collect (.ref r)) Q E s:=by
 have lt:=K.there _ hok
 unfold collect
 refine wpAny_bind (wpAny_runValue (codeAny_builtin entry_proto_collect' ?_))
 rw[Around.under_plainId PySem.F.plain_proto_collect _]
 show wpAny _ A.in1 (newList [] >>= fun l=>again (.builtin "list.__iadd__" ⟨[l,.ref r],[]⟩)) _ _ s
 refine wpAny_bind (wpAny_newObj_type (wpAny_pure ⟨plainId_quiet PySem.F.plain_list_iadd _,codeAny_builtin entry_list_iadd' ?_⟩))
 rw[Around.under_plainId PySem.F.plain_list_iadd _]
 show wpAny _ A.in1 (Builtin.List.listExtendWith (.ref s.heap.objs.size) (.ref r) (.ref s.heap.objs.size)) _ _ { s with heap:=s.heap.push { cls:=.type "list", data:=.seq #[] } }
 have k1:∀b o,s.heap.get? b=some o->(s.heap.push { cls:=.type "list", data:=.seq #[] }).get? b=some o:=fun b o q=>Heap.get?_push_of_some _ q
 refine kdl_extend (R:=fun r s'=>match r with | .ok (.ret v)=>wpAny (model prog w) A (match v with | .ref a=>(do let o ← load a;match o.data with | .seq xs _=>pure xs.toList|_=>unsupported "internal:collect")|_=>unsupported "internal:collect") Q E s' | .ok _=>False | .error e=>E e s') (s:={ s with heap:=s.heap.push { cls:=.type "list", data:=.seq #[] } }) K hh (K.keep _ _ hok fun b _ o e=>k1 b o e) s.heap.objs.size (Nat.ne_of_gt lt.1) (Nat.ne_of_gt lt.2) (.ref s.heap.objs.size) 0 (Heap.get?_push_size _ rfl) (fun h' tk acc' c' hk hS' hacc=>?_) hn
 refine wpAny_bind (wpAny_load hS' (wpAny_pure ?_))
 exact h h' tk acc'.toList (fun b o e=>hk b o (Nat.ne_of_lt (Heap.lt_size e)) (k1 b o e)) (by rw[Array.length_toList];exact hacc.1) fun j v e=>hacc.2 j v (by rw[← Array.getElem?_toList];exact e)
def ltS(ks:List D) (i j:Nat):Bool:=match ks.getD i .none,ks.getD j .none with
 | .str a,.str b=>decide (a.cps.toList < b.cps.toList)
 | _,_=>false
def aj4(ks:List D):Option (List D):=if ks.length < 2 then some ks else if ks.length < 64 then some ((evT (ltS ks) (kas_sort ks.length)).toList.map fun i=>ks.getD i .none) else none
section
variable {X:Cx}{pins:List (Addr×Obj)}{σ:L2.St}{H Hf:Hp}{s:Shared}{K:PySem.W.Frag}
theorem RepKs.key:∀{m:List (D×D)}{kvs:List (Key×V)},RepKs K Hf m kvs->∀(j:Nat) (k:Key) (v:V),kvs[j]? = some (k,v)->∃(x:Str) (e:D),k=Sum.inr x/\m[j]? = some (PyData.str x,e)
 | [],_,h,j,k,v,e=>by cases h;cases e
 | (d,e0)::r,_,⟨y,w,t,h1,h2,h3,h4⟩,j,k,v,e=>by
  subst h1 h2
  cases j with
  | zero=>cases e;exact⟨_,_,rfl,rfl⟩
  | succ j=>exact RepKs.key h4 j k v e
inductive TxA:List D->List Value->Prop
 | nil:TxA [] []
 | cons {x:Str}{t:Tok}{ds:List D}{vs:List Value}:TxA ds vs->TxA (.str x::ds) (.str x t::vs)
theorem TxA.of:∀{ds:List D}{vs:List Value},vs.length=ds.length->(∀(j:Nat) (v:Value),vs[j]? = some v->∃(x:Str) (t:Tok),v=Value.str x t/\ds[j]? = some (PyData.str x))->TxA ds vs
 | [],[],_,_=>.nil
 | [],_::_,h,_=>by cases h
 | _::_,[],h,_=>by cases h
 | d::ds,v::vs,h,a=>by
  obtain⟨x,t,e1,e2⟩:=a 0 v rfl
  cases e1;cases e2
  exact .cons (TxA.of (by simpa using h) fun j v e=>a (j+1) v (by simpa using e))
theorem TxA.len(h:TxA ds vs):vs.length=ds.length:=by
 induction h with
 | nil=>rfl
 | cons _ ih=>simp[ih]
theorem TxA.at(h:TxA ds vs):∀i,i < ds.length->∃(x:Str) (t:Tok),ds.getD i .none=PyData.str x/\vs.getD i .none=Value.str x t:=by
 induction h with
 | nil=>intro i hi;simp at hi
 | @cons x t ds vs h ih =>
  intro i hi
  cases i with
  | zero=>exact⟨x,t,rfl,rfl⟩
  | succ i=>obtain⟨y,u,e1,e2⟩:=ih i (by simpa using hi);exact⟨y,u,by simpa using e1,by simpa using e2⟩
theorem TxA.pick(h:TxA ds vs):∀{p:List Nat},(∀i∈p,i < ds.length)->TxA (p.map fun i=>ds.getD i .none) (p.map fun i=>vs.getD i Value.none)
 | [],_=>.nil
 | i::p,hp=>by
  obtain⟨x,t,e1,e2⟩:=h.at i (hp i (.head _))
  rw[xmc,xmc,e1,e2]
  exact .cons (TxA.pick h fun j hj=>hp j (.tail _ hj))
def bI9:D->V
 | .str x=>.str x
 | _=>.non
theorem TxA.vals(h:TxA ds vs):C5 (ds.map bI9) vs:=by
 induction h with
 | nil=>exact .nil
 | @cons x t ds vs h ih=>exact .cons ⟨t,rfl⟩ ih
theorem TxA.reps(h:TxA ds vs):Reps K Hf ds (ds.map bI9):=by
 induction h with
 | nil=>rfl
 | @cons x t ds vs h ih=>exact⟨_,_,rfl,rfl,ih⟩
theorem kvg{κ:Type}{p:List (κ×V)}{q:List (κ×Value)}(h:KV p q):∀{j:Nat}{y:κ×Value},q[j]? = some y->∃x,p[j]? = some x/\x.1=y.1/\C1 x.2 y.2:=by
 induction h with
 | nil=>intro j y e;cases e
 | cons a _ ih =>
  intro j y e
  cases j with
  | zero=>cases e;exact⟨_,rfl,a⟩
  | succ j=>exact ih e
theorem aZ0{Q:VK}{d:Addr}{kvs:List (Key×V)}{m:List (D×D)}{out:List D}(hc:X.A.handled=none) (I:Inv X pins σ H s) (e:H d=some (.dK kvs)) (rk:RepKs X.K Hf m kvs) (e3:aj4 (m.map (·.1))=some out)
  (k:∀l us,H l=none->Reps X.K Hf out us->us.length < 64->Q (.ref l) (upd H l (.lst us))):wpAny (model X.prog X.w) X.A (call (.builtin "sorted") [.ref d]) (EP X pins σ Q) X.xe s:=by
 obtain⟨z1,z2,vs,kv,o,es,ep,hd⟩:=ay3 I.hok e
 have nk:=kv.length
 have nm:=rk.length
 refine aB3 fun{E R} hR=>az1 (A:=X.A.in1) (kdl_dict (knd:=C8 X.prog X.w) (kvs:=vs) (ep:=ep) z2) hc ⟨o,es,hd⟩ (by rw[← nk];exact z1) fun h' tk its kp hl hP=>?_
 have T:TxA (m.map (·.1)) its:=TxA.of (by simp;omega) fun j v hj=>by
  obtain⟨k,x,hk,hi⟩:=hP j v hj
  obtain⟨⟨k1,y1⟩,hk',r1,r2⟩:=kvg kv hk
  cases r1
  obtain⟨y,ed,h1,h2⟩:=RepKs.key rk j _ _ hk'
  cases h1
  obtain⟨t,rfl⟩:∃t,v=Value.str y t:=by
   rcases L2.K9 (show L2.ah6 (Sum.inr y) v=true from hi) with⟨_,_,z,_⟩|⟨_,t,z,z2⟩
   ·cases z
   ·cases z;exact⟨t,z2⟩
  exact⟨y,t,rfl,by rw[List.getElem?_map,h2];rfl⟩
 have I':Inv X pins σ H { s with heap:=h',toks:=tk }:=N9 (ch:=[]) I (fun _ h=>nomatch h) fun b u _ q=>kp b u q
 have tl:=T.len
 have fin:∀(ds:List D) (ws:List Value),TxA ds ws->ds.length < 64->ds=out->∀(h2:Heap) (c:Nat),(∀b o,h'.get? b=some o->h2.get? b=some o)->h2.get? h'.objs.size=some (seqObj "list" ws.toArray c)->EP X pins σ Q (.ref h'.objs.size) { s with heap:=h2,toks:=tk }:=fun ds ws t hz ho h2 c kp2 eo=>by
  subst ho
  have fr:=I'.hok.fresh (Nat.le_refl h'.objs.size)
  exact⟨.ref h'.objs.size,_,I'.laid (t':=tk) kp2 (Nat.le_refl _) (show N3 X.prog X.w _ h2 _ (.lst (ds.map bI9)) from⟨by rw[List.length_map,sizeLine_eq];omega,_,c,t.vals,eo⟩),rfl,k _ _ fr t.reps (by rw[List.length_map];exact hz)⟩
 unfold aj4 at e3
 split at e3
 ·rename_i h2
  cases e3
  exact hR its its _ (by omega) (fun _=>rfl) (fun h3=>absurd h3 (by omega)) fun h2' c kp2 eo=>fin _ its T (by omega) rfl h2' c kp2 eo
 ·split at e3
  ·rename_i h2 h3
   cases e3
   have pin:=bp6 (n:=(m.map (·.1)).length) (by omega)
   have lo:=bm3 (ltS (m.map (·.1))) pin
   have plo:∀i∈(evT (ltS (m.map (·.1))) (kas_sort (m.map (·.1)).length)).toList,i < (m.map (·.1)).length:=fun i hi=>lo.2 i (by simpa using hi)
   refine hR its ((evT (ltS (m.map (·.1))) (kas_sort (m.map (·.1)).length)).toList.map fun i=>its.getD i Value.none) _ (by omega) (fun h3=>absurd h3 (by omega)) (fun _ h4 kp4=>?_) fun h2' c kp2 eo=>fin _ _ (T.pick plo) (by rw[List.length_map,Array.length_toList,lo.1];exact h3) rfl h2' c kp2 eo
   refine kas_kind (T:=.type "str") (by omega) (fun v hv=>?_) (by rfl) (by rfl) ?_
   ·obtain⟨j,hj,rfl⟩:=List.getElem_of_mem hv
    obtain⟨x,t,e1,e2⟩:=T.at j (by omega)
    have:its[j]=.str x t:=by rw[← e2];simp[hj]
    rw[this]
    exact Looks.of_pure rfl
   ·rw[tl]
    refine aN2 (P:=LoP (m.map (·.1)).length) (lt:=ltS (m.map (·.1))) (fun i j C hi hj hC=>?_) pin fun _=>⟨rfl,rfl⟩
    unfold kas_ask
    obtain⟨x,t,e1,e2⟩:=T.at i hi
    obtain⟨y,u,f1,f2⟩:=T.at j hj
    rw[e2,f2]
    refine kas_lt_str ?_
    unfold ltS at hC
    rw[e1,f1]at hC
    exact hC
  ·cases e3
end
end G
namespace G
open PySem PySem.Spec PyProof.Rows L2
def Y4:MF:=fun o ds=>match ds with
 | []=>(aj4 (o.m.map (·.1))).map fun out=>(.list out,o)
 | _=>none
def bp5(K:PySem.W.Frag) (C:Addr):Sp:=fun vs H Q _=>∃a Hf c o out,vs=[.ref a]/\B6 Hf H/\FoAt K C H Hf a c o/\aj4 (o.m.map (·.1))=some out/\∀l us,H l=none->Reps K Hf out us->us.length < 64->Q (.ref l) (upd H l (.lst us))
def bX4(X:Cx) (C:Addr):Prop:=∃k f fd ps,FnOk X.prog X.w X.K X.mg X.base CX0 k f fd ps (bp5 X.K C)/\Room k X.A/\Meth X.K C "names" f/\O9 X.K fd ps []
theorem cd7{K:PySem.W.Frag}{C:Addr}:∀vs H Q E,spM K C 0 Y4 vs H Q E->bp5 K C vs H Q E:=fun vs H Q E ⟨a,us,Hf,c,o,ds,r,o',h1,h2,ss,fo,rp,e,kk⟩=>by
 cases List.length_eq_zero_iff.mp h2
 cases ds with
 | cons d ds=>obtain⟨_,_,z,_⟩:=rp;cases z
 | nil =>
  obtain⟨out,e1,e2⟩:=Option.map_eq_some_iff.mp e
  cases e2
  exact⟨a,Hf,c,o,out,h1,ss,fo,e1,fun l us hl rs hz=>kk (.ref l) (upd H l (.lst us)) (upd Hf l (.lst us)) c (Chg.of (Grow.laid ss hl)) (fo.grow (Grow.laid ss hl)) (fun x hx=>.inl hx) ⟨l,us,rfl,SqL.of A5,rs.mono (C3 (ss.free hl))⟩⟩
section
variable {X:Cx}
theorem aU6(hc:X.calm=true):O0 X (.builtin "sorted") (fun vs H Q=>∃d kvs Hf m out,vs=[.ref d]/\H d=some (.dK kvs)/\RepKs X.K Hf m kvs/\aj4 (m.map (·.1))=some out/\∀l us,H l=none->Reps X.K Hf out us->us.length < 64->Q (.ref l) (upd H l (.lst us))):=by
 intro pins s σ H vs us Q I rv ⟨d,kvs,Hf,m,out,e0,e1,rk,e3,k⟩
 subst e0
 obtain⟨u,rfl,rx⟩:=Q5 rv
 cases rx
 exact aZ0 (I.ok.hd hc) I e1 rk e3 k
end
section
variable {P:Program}{w:World}{K:PySem.W.Frag}{mg:Str->Option Value}{base:Heap}{cs:List (Str×D)}{bl:List Str}{C:Addr}{tab:Tab}{ms:aF7}
theorem cd8(M:Md K mg cs bl) (T:TOk P w K mg base k tab) (Fc:FoC K C) (d:Fd) (hN:d.N=[("self" : Str)]) (hp:d.ps.length=1) (ok:d.okB=true) (hl:z6 d.c=true) (hs:biB ⟨tab,cs,bl⟩ d.c "sorted" "sorted" = true) (Fn:Fun K d.x qual d.st f fd)
  (hb:B3 d.st=[.Return (some (.Call (.Name "sorted" p1) [.Attribute (.Name "self" p2) "sheets" p3] [] p4)) p5]):FnOk P w K mg base CX0 (k+1) f fd d.ps (bp5 K C):=by
 have Sc:=Fd.sc ok
 refine Fn.ok Sc (fun vs H Q E h=>?_) fun cdv A outer s H vs Q E hr hsp=>?_
 ·obtain⟨a,Hf,c,o,out,rfl,_⟩:=h
  simp[hp]
 obtain⟨a,Hf,c,o,out,rfl,ss,fo,e,kk⟩:=hsp
 have F:FitO ⟨tab,cs,bl⟩ [] C d.c (ab0 CX0 P w K mg base d.N qual (B8 d.st) f cdv A outer s H E).nox:=by
  refine⟨⟨rfl,rfl,Sc.nd,rfl,rfl,hr.units,fun _=>⟨fun _=>rfl,Sc.kind⟩,fun x F n h=>?_,M.css,M.bls⟩,Fc,fun m F n h=>by cases h⟩
  exact(T x F n h).imp (fun⟨f',fd',ps,h1,h2,h3,h4⟩=>⟨k,f',fd',ps,h1,hr,h2,h3,h4⟩) id
 obtain⟨_,g1,g2⟩:=K7 F.fit hs
 have st:OSt K C ⟨cells a c,H,Hf⟩ (P5 0 a []) [(a,o)] (start d.N [.ref a]) H Hf:=⟨Chg.of (Grow.refl ss),by rw[hN];exact m9 (N:=[]) (vs:=[]) rfl,cells a c++[],.cons fo (by simp) .nil,fun x hx=>.inl (by simpa using hx)⟩
 have A1:At1 _ (P5 0 a []) [(a,o)] "self" 0 0 a o:=F.slf hl (show d.N[0]? = _ by rw[hN];rfl) rfl rfl
 rw[hb]
 refine⟨_,t6 (ag8 (M4 (aU6 F.fit.calm) g1 g2 (by rfl) (B2 (ac0 (b:=⟨cells a c,H,Hf⟩) A1 Fc (.inl rfl) rfl) C6))),Hf,st,fun cl v fa hv=>?_⟩
 cases hv
 obtain⟨kvs,e1,r1⟩:=fa.dic
 exact⟨cl.d,kvs,Hf,o.m,out,rfl,e1,r1,e,kk⟩
end
theorem by5{H0 Hf0 H Hf:Hp}(g:Grow H0 Hf0 H Hf) (h0:H0 l=none) (hf:Hf l=none):Grow H0 Hf0 (upd H l o) Hf :=
 ⟨fun b u e=>by rw[A6 (A8 e h0)];exact g.big b u e,fun b u e=>by rw[A6 (A8 e hf)];exact g.sub b u e,g.ext,g.new⟩
section
variable {X:Cx}{C:Addr}{b:Bs}{ρ:Rho}{q:Os}{o:Fo}{a:Addr}
theorem bt0{ρa:Rho}(N:bX4 X C) (cc:FoC X.K C) (A:At1 X ρ q x i j a o) (ho:aj4 (o.m.map (·.1))=some out) (he:JE X e f) (w:f ρa=some d) (sb:∀{H0 H Hf:Hp}{σ:L2.St},Slots X.K H0 ρ σ H Hf->Slots X.K H0 ρa σ H Hf) (hl:(p2.endLine==p3.line)=true:=by rfl) (hl2:(p4.endLine==p5.line)=true:=by rfl) (hst:starEach [e] X.env=[(false,eval e X.env)]:=by rfl)
  (hbase:attributeBase (.Call (.Attribute (.Name x p) "names" p2) [] [] p3) "append" X.env (eval (.Call (.Attribute (.Name x p) "names" p2) [] [] p3) X.env)=eval (.Call (.Attribute (.Name x p) "names" p2) [] [] p3) X.env:=by rfl)
  (hfew:((backTo p5 (starEach [e] X.env)).all (fun x=>!x.1)&&(backToKw p5 (keywordEach [] X.env)).all (fun x=>x.1.isSome)
   && decide (([e]:List Expr).length+([]:List Keyword).length+(if([]:List Keyword).isEmpty then 0 else 1) < 30))=true:=by rfl)
  (hs:swapsWith (.Call (.Attribute (.Call (.Attribute (.Name x p) "names" p2) [] [] p3) "append" p4) [e] [] p5) none p6.line X.env=pure false:=by rfl) :
  OS X C b ρ q (.Expr (.Call (.Attribute (.Call (.Attribute (.Name x p) "names" p2) [] [] p3) "append" p4) [e] [] p5) p6) (.nx ρ q):=by
 obtain⟨k,fa,fd,ps,Fk,hr,hm,hb⟩:=N
 refine C7 (V3 (al0 PySem.F.plainAttrs_list PySem.F.slot_list_append PySem.F.type_list_append f9 (av3 (E:=E0) (Q9 A.n A.v A.d1 A.d2) cc.cl hm Fk hr hb .nil ah2 (aq0 hl rfl)) (B2 (he ρa _ w) C6 hst) hbase hfew hl2 hst (by rfl)) hs) fun En σ H ⟨Hf,st,kk⟩=>?_
 obtain⟨c,f1,f3⟩:=st.focus A.w A.o
 refine⟨_,n6 st A.s,a,c.dx,ar2 c,rfl,f1.ins,aw0 (by decide) c,a,Hf,c,o,out,rfl,st.same,f1,ho,fun l us hl rs hz=>?_⟩
 have g:Grow H Hf (upd H l (.lst us)) Hf:=Grow.made st.same hl
 refine⟨.inl ⟨rfl,us,SqL.of A5⟩,_,Hf,g.sub,sb (st.grow g).sl,fun v H2 Hf2 g2 r2=>?_⟩
 have e2:H2 l=some (.lst us):=g2.big _ _ A5
 have n2:Hf2 l=none:=Classical.byContradiction fun z=>(g2.new l z).elim (fun y=>y (st.same.free hl)) fun y=>by rw[A5]at y;cases y
 refine⟨l,us,v,rfl,rfl,e2,Nat.lt_trans hz (R9 (by decide)),?_⟩
 have g3:=by5 (o:=.lst (us++[v])) (g.trans g2) hl n2
 exact kk σ _ Hf2 (st.grow g3) g3.ext
end
end G
namespace G
open PySem PySem.Spec PyProof.Rows L2
def cj8(as:List Addr):Option B->Option B
 | some (.opq j)=>some (.opq (as.getD j 0))
 | b=>b
abbrev sub(as:List Addr) (ρ:Rho):Rho:=ρ.map (cj8 as)
def U8:Option B->Option B
 | some (.opq _)=>none
 | b=>b
abbrev era(ρ:Rho):Rho:=ρ.map U8
theorem g8(as:List Addr) (ρ:Rho):era (sub as ρ)=era ρ:=by
 unfold era sub
 rw[List.map_map]
 refine List.map_congr_left fun b _=>?_
 cases b with
 | none=>rfl
 | some b=>cases b<;>rfl
theorem aQ9(as:List Addr) (ρ:Rho):W9 (sub as ρ)=W9 ρ:=by
 unfold W9 sub
 rw[List.all_map]
 congr 1
 funext b
 cases b with
 | none=>rfl
 | some b=>cases b<;>rfl
def okR(n:Nat) (ρ:Rho):Bool:=ρ.all fun x=>match x with
 | some (.own _)=>false
 | some (.opq j)=>decide (j < n)
 | _=>true
theorem ap5(h:okR n ρ=true):W9 ρ=true:=by
 unfold okR at h
 unfold W9
 rw[List.all_eq_true]at h ⊢
 intro x hx
 have:=h x hx
 split
 ·cases this
 ·rfl
theorem bd2(h:okR n ρ=true) (l:n<=m):okR m ρ=true:=by
 unfold okR at h ⊢
 rw[List.all_eq_true]at h ⊢
 intro x hx
 have:=h x hx
 split
 ·cases this
 ·exact decide_eq_true (Nat.lt_of_lt_of_le (of_decide_eq_true this) l)
 ·rfl
theorem aK1{ρ:Rho}{i n:Nat}{x:Option B}(h:okR n ρ=true) (h1:∀ds,x≠some (.own ds)) (h2:∀j,x=some (.opq j)->j < n):okR n (ρ.set i x)=true:=by
 unfold okR at h ⊢
 rw[List.all_eq_true]at h ⊢
 intro y hy
 rcases List.mem_or_eq_of_mem_set hy with q|rfl
 ·exact h y q
 ·split
  ·exact(h1 _ rfl).elim
  ·exact decide_eq_true (h2 _ rfl)
  ·rfl
theorem aK0{ρ:Rho}{i n:Nat}{d:D}(h:okR n ρ=true):okR n (ρ.set i (‹d›))=true:=aK1 h (by intro _ z;cases z) (by intro _ z;cases z)
theorem au2(h:okR as.length ρ=true) (ex:List Addr):sub (as++ex) ρ=sub as ρ:=by
 unfold sub
 refine List.map_congr_left fun x hx=>?_
 have:=List.all_eq_true.mp h x hx
 cases x with
 | none=>rfl
 | some x =>
  cases x with
  | opq j =>
   have hj:j < as.length:=of_decide_eq_true this
   show some (B.opq _)=some (B.opq _)
   rw[List.getD_eq_getElem?_getD,List.getD_eq_getElem?_getD,List.getElem?_append_left hj]
  | _=>rfl
theorem aG5(as:List Addr) (ρ:Rho) (i:Nat) (d:D):sub as (ρ.set i (‹d›))=(sub as ρ).set i (‹d›):=by unfold sub;rw[List.map_set];rfl
section
variable {K:PySem.W.Frag}{C:Addr}{b:Bs}{ρ:Rho}{q:Os}{σ:L2.St}{H Hf H0:Hp}
theorem Slots.era(s:Slots K H0 ρ σ H Hf):Slots K H0 (era ρ) σ H Hf:=by
 have at_:∀(i:Nat) (b:B),(G.era ρ)[i]? = some (some b)->ρ[i]? = some (some b):=fun i b e=>by
  unfold G.era at e
  rw[List.getElem?_map]at e
  obtain⟨x,e1,e2⟩:=Option.map_eq_some_iff.mp e
  rw[e1]
  cases x with
  | none=>cases e2
  | some x=>cases x<;>first|exact congrArg some e2|cases e2
 exact⟨by rw[List.length_map];exact s.len,fun i b e=>s.is i b (at_ i b e),fun i j d1 d2 a h1 h2=>s.apart i j d1 d2 a (at_ i _ h1) (at_ j _ h2)⟩
end
abbrev Fs:=List Fo
abbrev UD:=Rho->Fs->Option (D×Fs)
abbrev UB:=Rho->Fs->Option (Bool×Fs)
inductive UF where
 | nx (ρ:Rho) (q:Fs)
 | rt (d:D) (q:Fs)
 | ro (j:Nat) (q:Fs)
def UF.own:UF->Bool
 | .nx ρ q=>okR q.length ρ
 | _=>true
def UF.ends(X:Cx) (C:Addr) (b:Bs) (as:List Addr) (Hf:Hp) (En:Ends):UF->Prop
 | .nx ρ q=>∀ex σ H' Hf',(as++ex).length=q.length->OSt X.K C b (sub (as++ex) ρ) ((as++ex).zip q) σ H' Hf'->B6 Hf Hf'->En.nx σ H'
 | .rt d q=>∀ex ρ σ v H' Hf',(as++ex).length=q.length->OSt X.K C b ρ ((as++ex).zip q) σ H' Hf'->Rep X.K Hf' d v->En.rt v H'
 | .ro j q=>∀ex ρ σ a H' Hf',(as++ex).length=q.length->OSt X.K C b ρ ((as++ex).zip q) σ H' Hf'->(as++ex)[j]? = some a->En.rt (.ref a) H'
theorem UF.mono{X:Cx}{fl:UF}(h:fl.ends X C b as Hf En) (e:B6 Hf Hf'):fl.ends X C b as Hf' En:=by
 cases fl with
 | nx ρ q=>exact fun ex σ H' Hf'' l o s=>h ex σ H' Hf'' l o (e.trans s)
 | rt d q=>exact h
 | ro j q=>exact h
theorem UF.more{X:Cx}{fl:UF}(h:fl.ends X C b as Hf En) (ex:List Addr):fl.ends X C b (as++ex) Hf En:=by
 cases fl with
 | nx ρ q=>exact fun ex2 σ H' Hf' l o s=>h (ex++ex2) σ H' Hf' (by rw[← List.append_assoc];exact l) (by rw[← List.append_assoc];exact o) s
 | rt d q=>exact fun ex2 ρ σ v H' Hf' l o=>h (ex++ex2) ρ σ v H' Hf' (by rw[← List.append_assoc];exact l) (by rw[← List.append_assoc];exact o)
 | ro j q=>exact fun ex2 ρ σ a H' Hf' l o z=>h (ex++ex2) ρ σ a H' Hf' (by rw[← List.append_assoc];exact l) (by rw[← List.append_assoc];exact o) (by rw[← List.append_assoc];exact z)
def UE(X:Cx) (C:Addr) (e:Expr) (g:UD):Prop:=∀ρ q d q',g ρ q=some (d,q')->okR q.length ρ=true->q'.length=q.length/\∀b (as:List Addr),as.length=q.length->OE X C b (sub as ρ) (as.zip q) e d (as.zip q')
def UT(X:Cx) (C:Addr) (e:Expr) (g:UB):Prop:=∀ρ q c q',g ρ q=some (c,q')->okR q.length ρ=true->q'.length=q.length/\∀b (as:List Addr),as.length=q.length->OT X C b (sub as ρ) (as.zip q) e c (as.zip q')
def tU(X:Cx) (C:Addr) (b:Bs) (as:List Addr) (ρ:Rho) (q:Fs) (fl:UF):TS:=fun En σ H=>∃Hf,OSt X.K C b (sub as ρ) (as.zip q) σ H Hf/\fl.ends X C b as Hf En
abbrev UX:=Rho->Fs->Option UF
def US(X:Cx) (C:Addr) (st:Stmt) (g:UX):Prop:=∀ρ q fl,g ρ q=some fl->okR q.length ρ=true->fl.own=true/\∀b (as:List Addr),as.length=q.length->PS X st (tU X C b as ρ q fl)
def USs(X:Cx) (C:Addr) (sts:List Stmt) (g:UX):Prop:=∀ρ q fl,g ρ q=some fl->okR q.length ρ=true->fl.own=true/\∀b (as:List Addr),as.length=q.length->PSs X sts (tU X C b as ρ q fl)
section
variable {X:Cx}{C:Addr}{st:Stmt}{sts:List Stmt}
def uP(f:DE):UD:=fun ρ q=>(f (era ρ)).map fun d=>(d,q)
theorem m7(h:JE X e f):UE X C e (uP f):=fun ρ q d q' w _=>by
 obtain⟨d',e1,e2⟩:=Option.map_eq_some_iff.mp w
 cases e2
 exact⟨rfl,fun b as _=>A7 (h (era ρ) d e1) fun σ H Q ⟨Hf,st,k⟩=>⟨_,Hf,st.same,by rw[← g8 as ρ];exact st.sl.era,fun v H' Hf' g r=>k v H' Hf' (st.grow g) g.ext r⟩⟩
def uTP(f:Rho->Option Bool):UB:=fun ρ q=>(f (era ρ)).map fun d=>(d,q)
theorem ae4(h:JT X e f):UT X C e (uTP f):=fun ρ q d q' w _=>by
 obtain⟨d',e1,e2⟩:=Option.map_eq_some_iff.mp w
 cases e2
 exact⟨rfl,fun b as _=>P6 (h (era ρ) d e1) fun σ H Q ⟨Hf,st,k⟩=>⟨_,Hf,st.same,by rw[← g8 as ρ];exact st.sl.era,fun H' Hf' g=>k H' Hf' (st.grow g) g.ext⟩⟩
def M5(i:Nat) (ρ:Rho) (q:Fs):Option (Nat×Fo):=match ρ[i]? with
 | some (some (.opq j))=>(q[j]?).map fun o=>(j,o)
 | _=>none
theorem n8{as:List Addr}(h:M5 i ρ q=some (j,o)) (n:W9 ρ=true) (l:as.length=q.length) (hn:X.N[i]? = some x) (hv:Vis X.env.scope x) (h1:(x==("__debug__" : Str))=false) (h2:(x==("__classdict__" : Str))=false) :
  ∃a,as[j]? = some a/\At1 X (sub as ρ) (as.zip q) x i j a o:=by
 unfold M5 at h
 split at h
 ·rename_i j' e
  obtain⟨o',e1,e2⟩:=Option.map_eq_some_iff.mp h
  cases e2
  have hj:j < as.length:=by rw[l];exact(List.getElem?_eq_some_iff.mp e1).1
  refine⟨as[j],List.getElem?_eq_getElem hj,hn,hv,h1,h2,?_,?_,by rw[aQ9];exact n⟩
  ·unfold sub;rw[List.getElem?_map,e];show some (some (B.opq (as.getD j 0)))=_;rw[List.getD_eq_getElem?_getD,List.getElem?_eq_getElem hj];rfl
  ·rw[List.getElem?_zip_eq_some];exact⟨List.getElem?_eq_getElem hj,e1⟩
 ·cases h
theorem aF9{as:List Addr}{q:Fs}{j:Nat}{o:Fo}(h:as[j]? = some a):as.zip (q.set j o)=(as.zip q).set j (a,o):=by
 apply List.ext_getElem?
 intro i
 rw[List.getElem?_set]
 by_cases e:j=i
 ·subst e
  rw[if_pos rfl]
  by_cases hl:j < (as.zip q).length
  ·rw[if_pos hl]
   have:j < q.length:=by simp at hl;omega
   rw[List.getElem?_zip_eq_some]
   exact⟨h,by rw[List.getElem?_set_self this]⟩
  ·rw[if_neg hl]
   have h1:j < as.length:=(List.getElem?_eq_some_iff.mp h).1
   have:¬j < q.length:=fun z=>hl (by simp;omega)
   rw[List.getElem?_eq_none]
   simp;omega
 ·rw[if_neg e]
  have:(q.set j o)[i]? = q[i]?:=List.getElem?_set_ne e
  rw[List.zip_eq_zipWith,List.zip_eq_zipWith,List.getElem?_zipWith,List.getElem?_zipWith,this]
def uM(i:Nat) (F:MF) (f:Rho->Option (List D)):UD:=fun ρ q=>(M5 i ρ q).bind fun p=>(f (era ρ)).bind fun ds=>(F p.2 ds).map fun r=>(r.1,q.set p.1 r.2)
theorem bo4{e:Expr}{es:List Expr}{f:Rho->Option (List D)}(i:Nat) (M:am7 X C m n F) (c:FoC X.K C) (hn:X.N[i]? = some x) (hv:Vis X.env.scope x) (h1:(x==("__debug__" : Str))=false) (h2:(x==("__classdict__" : Str))=false) (nf:u4 m=true) (ha:JA X (e::es) f) (hl:(apos.endLine==pos.line)=true) (hz:(e::es).length=n)
  (hst:starEach (e::es) X.env=(false,eval e X.env)::starEach es X.env) (hpl:(backTo pos (starEach es X.env)).any (·.1)=false) (hfm:methodCallForm ((e::es).length+([]:List Keyword).length) (backTo pos (starEach (e::es) X.env)) (backToKw pos (keywordEach [] X.env))=true) :
  UE X C (.Call (.Attribute (.Name x p) m apos) (e::es) [] pos) (uM i F f):=fun ρ q d q' w no=>by
 obtain⟨⟨j,o⟩,e1,w⟩:=Option.bind_eq_some_iff.mp w
 obtain⟨ds,e2,w⟩:=Option.bind_eq_some_iff.mp w
 obtain⟨⟨r,o'⟩,e3,e4⟩:=Option.map_eq_some_iff.mp w
 cases e4
 refine⟨by simp,fun b as l=>?_⟩
 obtain⟨a,ea,A⟩:=n8 e1 (ap5 no) l hn hv h1 h2
 rw[aF9 ea]
 exact av6 M c A nf ha e2 (fun s=>by rw[← g8 as ρ];exact s.era) e3 hz hst hpl hl hfm
def uM0(i:Nat) (F:MF):UD:=fun ρ q=>(M5 i ρ q).bind fun p=>(F p.2 []).map fun r=>(r.1,q.set p.1 r.2)
theorem aW4(i:Nat) (M:am7 X C m 0 F) (c:FoC X.K C) (hn:X.N[i]? = some x) (hv:Vis X.env.scope x) (h1:(x==("__debug__" : Str))=false) (h2:(x==("__classdict__" : Str))=false) (nf:u4 m=true) (hl:(apos.endLine==pos.line)=true) :
  UE X C (.Call (.Attribute (.Name x p) m apos) [] [] pos) (uM0 i F):=fun ρ q d q' w no=>by
 obtain⟨⟨j,o⟩,e1,w⟩:=Option.bind_eq_some_iff.mp w
 obtain⟨⟨r,o'⟩,e3,e4⟩:=Option.map_eq_some_iff.mp w
 cases e4
 refine⟨by simp,fun b as l=>?_⟩
 obtain⟨a,ea,A⟩:=n8 e1 (ap5 no) l hn hv h1 h2
 rw[aF9 ea]
 exact bd4 M c A nf e3 hl
def uB2(h:D->D->Option D) (f g:UD):UD:=fun ρ q=>(f ρ q).bind fun x=>(g ρ x.2).bind fun y=>(h x.1 y.1).map fun z=>(z,y.2)
theorem bH3(o:OpD X (compareOp op) h) (ha:UE X C ea f) (hb:UE X C eb g) (hm:behindInMarks op eb=false):UE X C (.Compare ea [op] [eb] pos) (uB2 h f g):=fun ρ q d q' w no=>by
 obtain⟨⟨x,q1⟩,w1,w⟩:=Option.bind_eq_some_iff.mp w
 obtain⟨⟨y,q2⟩,w2,w⟩:=Option.bind_eq_some_iff.mp w
 obtain⟨z,w3,w4⟩:=Option.map_eq_some_iff.mp w
 cases w4
 obtain⟨l1,a1⟩:=ha ρ q x q1 w1 no
 obtain⟨l2,a2⟩:=hb ρ q1 y q2 w2 (by rw[l1];exact no)
 exact⟨l2.trans l1,fun b as l=>bM9 o (a1 b as l) (a2 b as (l.trans l1.symm)) w3 hm⟩
def V1:D->Option Bool
 | .bool c=>some c
 | _=>none
def uTB(f:UD):UB:=fun ρ q=>(f ρ q).bind fun x=>(V1 x.1).map fun c=>(c,x.2)
theorem bG5(o:OpD X (compareOp op) h) (ha:UE X C ea f) (hb:UE X C eb g) (hm:behindInMarks op eb=false):UT X C (.Compare ea [op] [eb] pos) (uTB (uB2 h f g)):=fun ρ q d q' w no=>by
 obtain⟨⟨z,q2⟩,w0,w⟩:=Option.bind_eq_some_iff.mp w
 obtain⟨c,w4,w5⟩:=Option.map_eq_some_iff.mp w
 cases w5
 obtain⟨⟨x,q1⟩,w1,w0⟩:=Option.bind_eq_some_iff.mp w0
 obtain⟨⟨y,q2⟩,w2,w0⟩:=Option.bind_eq_some_iff.mp w0
 obtain⟨z,w3,w6⟩:=Option.map_eq_some_iff.mp w0
 cases w6
 obtain⟨l1,a1⟩:=ha ρ q x q1 w1 no
 obtain⟨l2,a2⟩:=hb ρ q1 y q2 w2 (by rw[l1];exact no)
 have:z=.bool d:=by cases z<;>cases w4;rfl
 subst this
 exact⟨l2.trans l1,fun b as l=>bc7 o (a1 b as l) (a2 b as (l.trans l1.symm)) w3 hm⟩
theorem bG3(ha:UE X C e f) (he:∀whole,isTrue e X.env whole=(do let v ← whole;standAt e.pos;holding [v] (truthy v))):UT X C e (uTB f):=fun ρ q d q' w no=>by
 obtain⟨⟨z,q2⟩,w0,w⟩:=Option.bind_eq_some_iff.mp w
 obtain⟨c,w4,w5⟩:=Option.map_eq_some_iff.mp w
 cases w5
 have:z=.bool d:=by cases z<;>cases w4;rfl
 subst this
 obtain⟨l1,a1⟩:=ha ρ q _ _ w0 no
 exact⟨l1,fun b as l=>bL6 (a1 b as l) he⟩
def uOr(f g:UB):UB:=fun ρ q=>(f ρ q).bind fun x=>if x.1 then some (true,x.2) else g ρ x.2
def bZ2(f g:UB):UB:=fun ρ q=>(f ρ q).bind fun x=>if x.1 then g ρ x.2 else some (false,x.2)
end
end G
namespace G
open PySem PySem.Spec PyProof.Rows L2
section
variable {X:Cx}{C:Addr}{st:Stmt}{sts:List Stmt}
theorem bY8(ha:UT X C ea f) (hb:UT X C eb g):UT X C (.BoolOp .Or [ea,eb] pos) (uOr f g):=fun ρ q c q' w no=>by
 obtain⟨⟨x,q1⟩,w1,w⟩:=Option.bind_eq_some_iff.mp w
 obtain⟨l1,a1⟩:=ha ρ q x q1 w1 no
 cases x with
 | true =>
  cases w
  exact⟨l1,fun b as l=>P6 (t5 (tB':=fun _ _ _=>False) (a1 b as l) (fun _ _ _ _ _ _ _ h=>h.elim)).pt fun σ H Q ⟨Hf,st,k⟩=>⟨Hf,st,fun H1 Hf1 s1 e1=>Z8 (k H1 Hf1 s1 e1)⟩⟩
 | false =>
  obtain⟨l2,a2⟩:=hb ρ q1 c q' w (by rw[l1];exact no)
  exact⟨l2.trans l1,fun b as l=>cc0 (a1 b as l) (a2 b as (l.trans l1.symm))⟩
theorem bG4(ha:UT X C ea f) (hb:UT X C eb g) (hc:UT X C ec h):UT X C (.BoolOp .Or [ea,eb,ec] pos) (uOr f (uOr g h)):=fun ρ q c q' w no=>by
 obtain⟨⟨x,q1⟩,w1,w⟩:=Option.bind_eq_some_iff.mp w
 obtain⟨l1,a1⟩:=ha ρ q x q1 w1 no
 cases x with
 | true =>
  cases w
  exact⟨l1,fun b as l=>P6 (t5 (tB':=fun _ _ _=>False) (a1 b as l) (fun _ _ _ _ _ _ _ h=>h.elim)).pt fun σ H Q ⟨Hf,st,k⟩=>⟨Hf,st,fun H1 Hf1 s1 e1=>Z8 (k H1 Hf1 s1 e1)⟩⟩
 | false =>
  have no1:okR q1.length ρ=true:=by rw[l1];exact no
  obtain⟨⟨y,q2⟩,w2,w⟩:=Option.bind_eq_some_iff.mp (show(uOr g h ρ q1)=_ from w)
  obtain⟨l2,a2⟩:=hb ρ q1 y q2 w2 no1
  cases y with
  | true =>
   cases w
   exact⟨l2.trans l1,fun b as l=>P6 (t5 (a1 b as l) (t5 (tB':=fun _ _ _=>False) (a2 b as (l.trans l1.symm)) (fun _ _ _ _ _ _ _ h=>h.elim))).pt fun σ H Q ⟨Hf,st,k⟩=>⟨Hf,st,fun H1 Hf1 s1 e1=>Y6 ⟨Hf1,s1,fun H2 Hf2 s2 e2=>Z8 (k H2 Hf2 s2 (e1.trans e2))⟩⟩⟩
  | false =>
   obtain⟨l3,a3⟩:=hc ρ q2 c q' w (by rw[l2];exact no1)
   exact⟨l3.trans (l2.trans l1),fun b as l=>P6 (t5 (a1 b as l) (t5 (a2 b as (l.trans l1.symm)) (aC0 (a3 b as ((l.trans l1.symm).trans l2.symm))))).pt fun σ H Q ⟨Hf,st,k⟩=>⟨Hf,st,fun H1 Hf1 s1 e1=>Y6 ⟨Hf1,s1,fun H2 Hf2 s2 e2=>Y6 ⟨Hf2,s2,fun H3 Hf3 s3 e3=>k H3 Hf3 s3 ((e1.trans e2).trans e3)⟩⟩⟩⟩
theorem bG6(ha:UT X C ea f) (hb:UT X C eb g):UT X C (.BoolOp .And [ea,eb] pos) (bZ2 f g):=fun ρ q c q' w no=>by
 obtain⟨⟨x,q1⟩,w1,w⟩:=Option.bind_eq_some_iff.mp w
 obtain⟨l1,a1⟩:=ha ρ q x q1 w1 no
 cases x with
 | true =>
  obtain⟨l2,a2⟩:=hb ρ q1 c q' w (by rw[l1];exact no)
  exact⟨l2.trans l1,fun b as l=>P6 (ao3 (a1 b as l) (aI9 (a2 b as (l.trans l1.symm)))).pt fun σ H Q ⟨Hf,st,k⟩=>⟨Hf,st,fun H1 Hf1 s1 e1=>Z8 ⟨Hf1,s1,fun H2 Hf2 s2 e2=>k H2 Hf2 s2 (e1.trans e2)⟩⟩⟩
 | false =>
  cases w
  exact⟨l1,fun b as l=>P6 (ao3 (tB':=fun _ _ _=>False) (a1 b as l) (fun _ _ _ _ _ _ _ h=>h.elim)).pt fun σ H Q ⟨Hf,st,k⟩=>⟨Hf,st,fun H1 Hf1 s1 e1=>Y6 (k H1 Hf1 s1 e1)⟩⟩
def P0(f g:UD):UD:=fun ρ q=>(f ρ q).bind fun x=>(V1 x.1).bind fun c=>if c then g ρ x.2 else some (.bool false,x.2)
theorem bH4(ha:UE X C ea f) (hb:UE X C eb g):UE X C (.BoolOp .And [ea,eb] pos) (P0 f g):=fun ρ q d q' w no=>by
 obtain⟨⟨x,q1⟩,w1,w⟩:=Option.bind_eq_some_iff.mp w
 obtain⟨c,w2,w⟩:=Option.bind_eq_some_iff.mp w
 have:x=.bool c:=by cases x<;>cases w2;rfl
 subst this
 obtain⟨l1,a1⟩:=ha ρ q _ q1 w1 no
 cases c with
 | true =>
  obtain⟨l2,a2⟩:=hb ρ q1 d q' w (by rw[l1];exact no)
  exact⟨l2.trans l1,fun b as l=>A7 (ao9 (a1 b as l) (bb7 (a2 b as (l.trans l1.symm)))) fun σ H Q ⟨Hf,st,k⟩=>⟨Hf,st,fun v H1 Hf1 s1 e1 r1=>⟨true,r1,Z8 ⟨Hf1,s1,fun u H2 Hf2 s2 e2 r2=>k u H2 Hf2 s2 (e1.trans e2) r2⟩⟩⟩⟩
 | false =>
  cases w
  exact⟨l1,fun b as l=>A7 (ao9 (tb:=fun _ _ _=>False) (a1 b as l) (fun _ _ _ _ _ _ h=>h.elim)) fun σ H Q ⟨Hf,st,k⟩=>⟨Hf,st,fun v H1 Hf1 s1 e1 r1=>⟨false,r1,Y6 (k _ H1 Hf1 s1 e1 rfl)⟩⟩⟩
theorem aL7{as:List Addr}{q':Fs}(h:UF.ends X C b as Hf En (.nx ρ q')) (l:as.length=q'.length):∀σ H' Hf',OSt X.K C b (sub as ρ) (as.zip q') σ H' Hf'->B6 Hf Hf'->En.nx σ H':=fun σ H' Hf' s e=>h [] σ H' Hf' (by rw[List.append_nil];exact l) (by rw[List.append_nil];exact s) e
def uEx(f:UD):UX:=fun ρ q=>(f ρ q).map fun x=>.nx ρ x.2
theorem bo0(h:UE X C e f) (hs:swapsWith e none pos.line X.env=pure false):US X C (.Expr e pos) (uEx f):=fun ρ q fl w no=>by
 obtain⟨⟨d,q1⟩,w1,w2⟩:=Option.map_eq_some_iff.mp w
 cases w2
 obtain⟨l1,a1⟩:=h ρ q d q1 w1 no
 exact⟨by show okR q1.length ρ=true;rw[l1];exact no,fun b as l=>C7 (V3 (a1 b as l) hs) fun En σ H ⟨Hf,st,k⟩=>⟨Hf,st,fun v H' Hf' s' e' _=>aL7 k (l.trans l1.symm) σ H' Hf' s' e'⟩⟩
def R5(i:Nat) (f:UD):UX:=fun ρ q=>(f ρ q).map fun x=>.nx (ρ.set i (‹x.1›)) x.2
theorem bG7(i:Nat) (hN:X.N.Nodup) (h:UE X C e f) (hi:X.N[i]? = some x) (hx:Loc X.env.scope x) (hs:swapsWith e (some (.Name x pos')) pos.line X.env=pure false) (hf:X.fn x=true\/X.env.scope.names.lookup x=some .local):US X C (.Assign [.Name x pos'] e pos) (R5 i f):=fun ρ q fl w no=>by
 obtain⟨⟨d,q1⟩,w1,w2⟩:=Option.map_eq_some_iff.mp w
 cases w2
 obtain⟨l1,a1⟩:=h ρ q d q1 w1 no
 exact⟨aK0 (by rw[l1];exact no),fun b as l=>C7 (ag7 hN hi hx (a1 b as l) hs hf) fun En σ H ⟨Hf,st,k⟩=>⟨Hf,st,fun v H' Hf' s' e' r=>aL7 k (l.trans l1.symm) _ H' Hf' (by rw[aG5];exact s'.set r) e'⟩⟩
def N5(f:UD):UX:=fun ρ q=>(f ρ q).map fun x=>.rt x.1 x.2
theorem aA6(h:UE X C e f):US X C (.Return (some e) pos) (N5 f):=fun ρ q fl w no=>by
 obtain⟨⟨d,q1⟩,w1,w2⟩:=Option.map_eq_some_iff.mp w
 cases w2
 obtain⟨l1,a1⟩:=h ρ q d q1 w1 no
 exact⟨rfl,fun b as l=>C7 (ag8 (a1 b as l)) fun En σ H ⟨Hf,st,k⟩=>⟨Hf,st,fun v H' Hf' s' e' r=>k [] _ σ v H' Hf' (by rw[List.append_nil];exact l.trans l1.symm) (by rw[List.append_nil];exact s') r⟩⟩
def uRo(i:Nat):UX:=fun ρ q=>(M5 i ρ q).map fun p=>.ro p.1 q
theorem bY9(i:Nat) (hn:X.N[i]? = some x) (hv:Vis X.env.scope x) (h1:(x==("__debug__" : Str))=false) (h2:(x==("__classdict__" : Str))=false):US X C (.Return (some (.Name x p)) pos) (uRo i):=fun ρ q fl w no=>by
 obtain⟨⟨j,o⟩,w1,w2⟩:=Option.map_eq_some_iff.mp w
 cases w2
 refine⟨rfl,fun b as l=>?_⟩
 obtain⟨a,ea,A⟩:=n8 w1 (ap5 no) l hn hv h1 h2
 exact C7 (ag8 (Q9 hn hv h1 h2)) fun En σ H ⟨Hf,st,k⟩=>⟨_,n6 st A.s,k [] _ σ a H Hf (by rw[List.append_nil];exact l) (by rw[List.append_nil];exact st) (by rw[List.append_nil];exact ea)⟩
def uIf(t:UB) (f g:UX):UX:=fun ρ q=>(t ρ q).bind fun x=>if x.1 then f ρ x.2 else g ρ x.2
theorem bZ1{s1 s2:List Stmt}(t:UT X C e c) (h1:USs X C s1 f) (h2:USs X C s2 g):US X C (.If e s1 s2 pos) (uIf c f g):=fun ρ q fl w no=>by
 obtain⟨⟨x,q1⟩,w1,w⟩:=Option.bind_eq_some_iff.mp w
 obtain⟨l1,a1⟩:=t ρ q x q1 w1 no
 cases x with
 | true =>
  obtain⟨o1,b1⟩:=h1 ρ q1 fl w (by rw[l1];exact no)
  exact⟨o1,fun b as l=>C7 (ak9 (a1 b as l) (b1 b as (l.trans l1.symm)) L4) fun En σ H ⟨Hf,st,k⟩=>⟨Hf,st,fun H' Hf' s' e'=>Z8 ⟨Hf',s',UF.mono (fl:=fl) k e'⟩⟩⟩
 | false =>
  obtain⟨o1,b1⟩:=h2 ρ q1 fl w (by rw[l1];exact no)
  exact⟨o1,fun b as l=>C7 (ak9 (a1 b as l) L4 (b1 b as (l.trans l1.symm))) fun En σ H ⟨Hf,st,k⟩=>⟨Hf,st,fun H' Hf' s' e'=>Y6 ⟨Hf',s',UF.mono (fl:=fl) k e'⟩⟩⟩
def N6:UX:=fun ρ q=>some (.nx ρ q)
theorem bn8:USs X C [] N6:=fun ρ q fl w no=>by
 cases w
 exact⟨no,fun b as l=>Q1 ao4 fun En σ H ⟨Hf,st,k⟩=>aL7 k l σ H Hf st (B6.refl _)⟩
theorem bn7(h:US X C st g):USs X C [st] g:=fun ρ q fl w no=>by
 obtain⟨h1,h2⟩:=h ρ q fl w no
 exact⟨h1,fun b as l=>t6 (h2 b as l)⟩
def Q8(f g:UX):UX:=fun ρ q=>(f ρ q).bind fun fl=>match fl with
 | .nx ρ' q'=>g ρ' q'
 | r=>some r
theorem bK3{α:Type}{t:α->TS}(h:∀a,PSs X sts (t a)):PSs X sts (fun En σ H=>∃a,t a En σ H):=fun pins s σ H D I ⟨a,q⟩=>h a pins s σ H D I q
theorem br2{P:Prop}{t:TS}(h:P->PSs X sts t):PSs X sts (fun En σ H=>P/\t En σ H):=fun pins s σ H D I ⟨a,q⟩=>h a pins s σ H D I q
theorem aW2(h1:US X C st f) (h2:USs X C sts g):USs X C (st::sts) (Q8 f g):=fun ρ q fl w no=>by
 obtain⟨fl1,w1,w⟩:=Option.bind_eq_some_iff.mp w
 obtain⟨o1,a1⟩:=h1 ρ q fl1 w1 no
 cases fl1 with
 | nx ρ' q' =>
  obtain⟨o2,a2⟩:=h2 ρ' q' fl w o1
  exact⟨o2,fun b as l=>Q1 (N8 (a1 b as l) (bK3 fun ex=>br2 fun(l2:(as++ex).length=q'.length)=>a2 b (as++ex) l2)) fun En σ H ⟨Hf,s,k⟩=>⟨Hf,s,fun ex σ' H' Hf' l' s' e'=>⟨ex,l',Hf',s',UF.more (UF.mono (fl:=fl) k e') ex⟩⟩⟩
 | rt d q' =>
  cases w
  exact⟨rfl,fun b as l=>Q1 (N8 (a1 b as l) L4) fun En σ H ⟨Hf,s,k⟩=>⟨Hf,s,k⟩⟩
 | ro j q' =>
  cases w
  exact⟨rfl,fun b as l=>Q1 (N8 (a1 b as l) L4) fun En σ H ⟨Hf,s,k⟩=>⟨Hf,s,k⟩⟩
def Cm(g:D->Rho->Option Rho):Prop:=∀as d ρ ρ1,g d ρ=some ρ1->g d (sub as ρ)=some (sub as ρ1)/\∀n,okR n ρ=true->okR n ρ1=true
def Cms(g:List D->Rho->Option Rho):Prop:=∀as d ρ ρ1,g d ρ=some ρ1->g d (sub as ρ)=some (sub as ρ1)/\∀n,okR n ρ=true->okR n ρ1=true
theorem bV6(i:Nat):Cm (S1 i):=fun as d ρ ρ1 h=>by
 cases h
 exact⟨by rw[aG5];rfl,fun n h=>aK0 h⟩
theorem bz9:Cms Z5:=fun as d ρ ρ1 h=>by
 cases d with
 | nil=>cases h;exact⟨rfl,fun _ h=>h⟩
 | cons=>cases h
theorem bl1(h1:Cm f) (h2:Cms g):Cms (M8 f g):=fun as d ρ ρ1 h=>by
 cases d with
 | nil=>cases h
 | cons d ds =>
  obtain⟨ρ2,e1,e2⟩:=Option.bind_eq_some_iff.mp h
  obtain⟨a1,a2⟩:=h1 as d ρ ρ2 e1
  obtain⟨b1,b2⟩:=h2 as ds ρ2 ρ1 e2
  exact⟨by show(f d (sub as ρ)).bind _=_;rw[a1];exact b1,fun n h=>b2 n (a2 n h)⟩
theorem bV5(h:Cms g):Cm (V7 n g):=fun as d ρ ρ1 e=>by
 unfold V7 at e ⊢
 split at e
 ·split at e
  ·rename_i hl;rw[if_pos hl];exact h as _ ρ ρ1 e
  ·cases e
 ·cases e
def af9(g:D->Rho->Option Rho) (f:UX):List D->UX
 | [],ρ,q=>some (.nx ρ q)
 | d::ds,ρ,q=>(g d ρ).bind fun ρ1=>(f ρ1 q).bind fun fl=>match fl with
  | .nx ρ' q'=>af9 g f ds ρ' q'
  | r=>some r
def aW5(src:Rho->Option (List D)) (g:D->Rho->Option Rho) (f:UX):UX:=fun ρ q=>(src (era ρ)).bind fun ds=>af9 g f ds ρ q
theorem au0{body:List Stmt}(cm:Cm g) (hb:USs X C body f):∀(ds:List D) (ρ:Rho) (q:Fs) (fl:UF),af9 g f ds ρ q=some fl->okR q.length ρ=true->fl.own=true
 | [],ρ,q,fl,h,n=>by cases h;exact n
 | d::ds,ρ,q,fl,h,n=>by
  obtain⟨ρ1,e1,h⟩:=Option.bind_eq_some_iff.mp h
  obtain⟨fl1,e2,h⟩:=Option.bind_eq_some_iff.mp h
  have n1:=(cm [] d ρ ρ1 e1).2 _ n
  have o:=(hb ρ1 q fl1 e2 n1).1
  cases fl1 with
  | nx ρ' q'=>exact au0 cm hb ds ρ' q' fl h o
  | rt d q'=>cases h;rfl
  | ro j q'=>cases h;rfl
theorem bH0{body:List Stmt}(hi:JI X tg iter src) (hg:JG X tg g) (cm:Cm g) (hb:USs X C body f) (hp:PassesOwn (model X.prog X.w) X.A X.env X.xe) (hc:X.calm=true) (hs:∀x,foldedSetIterable iter X.env x=pure x):US X C (.For tg iter body [] pos) (aW5 src g f):=fun ρ q fl w no=>by
 obtain⟨ds,e1,e2⟩:=Option.bind_eq_some_iff.mp w
 refine⟨au0 cm hb ds ρ q fl e2 no,fun b as l=>?_⟩
 have body':PSs X body (fun En σ H=>∃(as':List Addr) (ρ':Rho) (q':Fs) (fl':UF),f ρ' q'=some fl'/\okR q'.length ρ'=true/\as'.length=q'.length/\tU X C b as' ρ' q' fl' En σ H):=fun pins s σ H D I ⟨as',ρ',q',fl',z1,z2,z3,z4⟩=>(hb ρ' q' fl' z1 z2).2 b as' z3 pins s σ H D I z4
 refine C7 (ba4 hp hc (hi (era ρ) ds e1) hg body' hs) fun En σ H ⟨Hf,st,e⟩=>⟨_,Hf,st.same,by rw[← g8 as ρ];exact st.sl.era,fun J H1 Hf1 g1 Y=>?_⟩
 refine⟨fun i m σ H=>m=ds.length - i/\i<=ds.length/\∃Hf' ex ρ' q',(as++ex).length=q'.length/\okR q'.length ρ'=true/\OSt X.K C b (sub (as++ex) ρ') ((as++ex).zip q') σ H Hf'/\B6 Hf1 Hf'/\af9 g f (ds.drop i) ρ' q'=some fl,
  ⟨ds.length,by simp,Nat.zero_le _,Hf1,[],ρ,q,by rw[List.append_nil];exact l,no,by rw[List.append_nil];exact st.grow g1,B6.refl _,by simpa using e2⟩,?_⟩
 rintro i m σ' H' ⟨rfl,hi,Hf',ex,ρ',q',l',no',a',s',hm⟩
 obtain⟨Ys,Yg⟩:=Y i H' Hf' s' a'.same
 rcases Nat.lt_or_ge i ds.length with hlt|hge
 ·right
  obtain⟨go,yl⟩:=Yg ds[i] (by simp[hlt])
  rw[List.drop_eq_getElem_cons hlt]at hm
  obtain⟨ρ1,c1,hm⟩:=Option.bind_eq_some_iff.mp hm
  obtain⟨fl1,c2,hm⟩:=Option.bind_eq_some_iff.mp hm
  obtain⟨c3,c4⟩:=cm (as++ex) _ _ _ c1
  have no1:=c4 _ no'
  have o1:=(hb ρ1 q' fl1 c2 no1).1
  refine⟨go,fun σ3 H3=>∃m',m' < ds.length - i/\m'=ds.length - (i+1)/\i+1<=ds.length/\∃Hf' ex ρ' q',(as++ex).length=q'.length/\okR q'.length ρ'=true/\OSt X.K C b (sub (as++ex) ρ') ((as++ex).zip q') σ3 H3 Hf'/\B6 Hf1 Hf'/\af9 g f (ds.drop (i+1)) ρ' q'=some fl,fun σ3 H3 ⟨m',z1,z2⟩=>⟨m',z1,z2⟩,fun x H2 hy=>?_⟩
  obtain⟨Hf2,g2,r2⟩:=yl x H2 hy
  have a2:=a'.grow g2
  have s2:=s'.trans g2.ext
  refine⟨ds[i],sub (as++ex) ρ',sub (as++ex) ρ1,_,Hf2,c3,g2.sub,a2.sl,r2,fun σ3 sl3=>⟨as++ex,ρ1,q',fl1,c2,no1,l',Hf2,⟨a2.gr,sl3,a2.ob⟩,?_⟩⟩
  cases fl1 with
  | nx ρ3 q3=>exact fun ex2 σ3 H3 Hf3 l3 a3 s3=>⟨_,by omega,rfl,hlt,Hf3,ex++ex2,ρ3,q3,by rw[← List.append_assoc];exact l3,o1,by rw[← List.append_assoc];exact a3,s2.trans s3,hm⟩
  | rt d q3 =>
   cases hm
   exact UF.more (fl:=.rt d q3) e ex
  | ro j q3 =>
   cases hm
   exact UF.more (fl:=.ro j q3) e ex
 ·left
  have:i=ds.length:=by omega
  subst this
  rw[List.drop_length]at hm
  cases hm
  exact⟨Ys (Nat.le_refl _),e ex σ' H' Hf' l' a' (g1.ext.trans s')⟩
end
end G
namespace G
open PySem PySem.Spec PyProof.Rows L2
abbrev fo0:Fo:=⟨[],[],[]⟩
def spI(K:PySem.W.Frag) (C:Addr):Sp:=fun vs H Q _=>∃x dx Hf,vs=[.ref x]/\H x=some (.ins C dx [])/\B6 Hf H/\Hf x=none/\∀H' c,Chg [x] H Hf H' Hf->FoAt K C H' Hf x c fo0->(∀y∈cells x c,y=x\/H y=none)->Q .non H'
theorem S9{H:Hp}{a b:Addr}{o:HO}(h:upd H a o b=none):b≠a/\H b=none:=by
 by_cases e:b=a
 ·subst e;rw[A5]at h;cases h
 ·rw[A6 e]at h;exact⟨e,h⟩
theorem by4{K:PySem.W.Frag}{C x dx d lb lf:Addr}{H Hf:Hp}(hx:H x=some (.ins C dx [])) (ss:B6 Hf H) (fx:Hf x=none) (h1:H d=none) (h2:upd (upd H d (.dK [])) x (.ins C dx [("sheets", .ref d)]) lb=none)
  (h3:upd (upd (upd (upd H d (.dK [])) x (.ins C dx [("sheets", .ref d)])) lb (.lst [])) x (.ins C dx [("sheets", .ref d),("steps_back", .ref lb)]) lf=none) :
  ∃c,Chg [x] H Hf (upd (upd (upd (upd (upd (upd H d (.dK [])) x (.ins C dx [("sheets", .ref d)])) lb (.lst [])) x (.ins C dx [("sheets", .ref d),("steps_back", .ref lb)])) lf (.lst [])) x (.ins C dx [("sheets", .ref d),("steps_back", .ref lb),("steps_forth", .ref lf)])) Hf
   /\ FoAt K C (upd (upd (upd (upd (upd (upd H d (.dK [])) x (.ins C dx [("sheets", .ref d)])) lb (.lst [])) x (.ins C dx [("sheets", .ref d),("steps_back", .ref lb)])) lf (.lst [])) x (.ins C dx [("sheets", .ref d),("steps_back", .ref lb),("steps_forth", .ref lf)])) Hf x c fo0/\∀y∈cells x c,y=x\/H y=none:=by
 obtain⟨n1,h2⟩:=S9 h2
 obtain⟨n2,h2⟩:=S9 h2
 obtain⟨n3,h3⟩:=S9 h3
 obtain⟨n4,h3⟩:=S9 h3
 obtain⟨_,h3⟩:=S9 h3
 obtain⟨n5,h3⟩:=S9 h3
 have nd:d≠x:=fun z=>by rw[z,hx]at h1;cases h1
 have fr:∀y,H y=none->Hf y=none:=fun y h=>ss.free h
 have keep:∀b o,b≠x->H b=some o->upd (upd (upd (upd (upd (upd H d (.dK [])) x (.ins C dx [("sheets", .ref d)])) lb (.lst [])) x (.ins C dx [("sheets", .ref d),("steps_back", .ref lb)])) lf (.lst [])) x (.ins C dx [("sheets", .ref d),("steps_back", .ref lb),("steps_forth", .ref lf)]) b=some o:=fun b o hb e=>by
  rw[A6 hb,A6 (A8 e h3),A6 hb,A6 (A8 e h2),A6 hb,A6 (A8 e h1)];exact e
 refine⟨⟨dx,d,lb,lf⟩,⟨fun b o hb e=>keep b o (by simpa using hb) e,fun b h=>?_,fun b o e=>keep b o (A8 e fx) (ss b o e),B6.refl _,fun b h=>.inl h⟩,⟨A5,⟨[],?_,rfl⟩,⟨[],?_,rfl⟩,⟨[],?_,rfl⟩,n4.symm,fun y hy=>?_⟩,fun y hy=>?_⟩
 ·by_cases e:b=x
  ·rw[e,A5];exact fun z=>by cases z
  ·obtain⟨o,ho⟩:=aK4 h;exact d9 (keep b o e ho)
 ·rw[A6 nd,A6 n5.symm,A6 nd,A6 n2.symm,A6 nd,A5]
 ·rw[A6 n1,A6 n4.symm,A6 n1,A5]
 ·rw[A6 n3,A5]
 ·simp only[List.mem_cons,List.not_mem_nil,or_false]at hy
  rcases hy with rfl|rfl|rfl|rfl
  ·exact fx
  ·exact fr _ h1
  ·exact fr _ h2
  ·exact fr _ h3
 ·simp only[List.mem_cons,List.not_mem_nil,or_false]at hy
  rcases hy with rfl|rfl|rfl|rfl
  ·exact .inl rfl
  ·exact .inr h1
  ·exact .inr h2
  ·exact .inr h3
section
variable {P:Program}{w:World}{K:PySem.W.Frag}{mg:Str->Option Value}{base:Heap}{C:Addr}
theorem by3(Fc:FoC K C) (d:Fd) (hN:d.N=[("self" : Str)]) (hp:d.ps.length=1) (ok:d.okB=true) (hl:z6 d.c=true) (Fn:Fun K d.x qual d.st f fd)
  (hb:B3 d.st=[.Assign [.Attribute (.Name "self" p1) "sheets" p2] (.Dict [] [] p3) p4,.Assign [.Attribute (.Name "self" p5) "steps_back" p6] (.List [] p7) p8,.Assign [.Attribute (.Name "self" p9) "steps_forth" p10] (.List [] p11) p12]):FnOk P w K mg base CX0 (k+1) f fd d.ps (spI K C):=by
 have Sc:=Fd.sc ok
 refine Fn.ok Sc (fun vs H Q E h=>?_) fun cdv A outer s H vs Q E hr hsp=>?_
 ·obtain⟨x,dx,Hf,rfl,_⟩:=h
  simp[hp]
 obtain⟨x,dx,Hf,rfl,hx,ss,fx,kk⟩:=hsp
 rw[hb]
 have v:∀{p},PE (ab0 CX0 P w K mg base d.N qual (B8 d.st) f cdv A outer s H E).nox (.Name "self" p) (bI1 0):=fun{p}=>by
  have:=List.all_eq_true.mp hl "self" (by show _∈d.N;rw[hN];simp)
  simp only[Bool.and_eq_true]at this
  have h4:=this.2
  refine Q9 (show d.N[0]? = _ by rw[hN];rfl) ?_ (by decide) (by decide)
  split at h4
  ·rename_i e;exact .inl e
  ·cases h4
 have s0:(start d.N [V.ref x])[0]? = some (some (.ref x)):=by rw[hN];rfl
 refine⟨_,N8 (ao5 v bc1 rfl) (N8 (ao5 v (ao8 C6) rfl) (t6 (ao5 v (ao8 C6) rfl))),fun d h1=>⟨_,s0,x,C,dx,[],rfl,?_,Fc.cl,Fc.n1,by show 0 < 1000;decide,by show 0<=sizeLine;decide,fun lb h2=>⟨_,s0,x,C,dx,[("sheets", .ref d)],rfl,?_,Fc.cl,Fc.n2,by show 1 < 1000;decide,by show 0<=sizeLine;decide,fun lf h3=>⟨_,s0,x,C,dx,[("sheets", .ref d),("steps_back", .ref lb)],rfl,?_,Fc.cl,Fc.n3,by show 2 < 1000;decide,?_⟩⟩⟩⟩
 ·rw[A6 (A8 hx h1)];exact hx
 ·rw[A6 (fun z=>by rw[← z]at h2;rw[A5]at h2;cases h2),A5];rfl
 ·rw[A6 (fun z=>by rw[← z]at h3;rw[A5]at h3;cases h3),A5];rfl
 ·obtain⟨c,c1,c2,c3⟩:=by4 (K:=K) hx ss fx h1 h2 h3
  exact kk _ c c1 c2 c3
end
section
variable {K:PySem.W.Frag}{C:Addr}{b:Bs}{ρ:Rho}{os:Os}{σ:L2.St}{H Hf H' Hf':Hp}
theorem OSt.add(st:OSt K C b ρ os σ H Hf) (g:Grow H Hf H' Hf') (f:FoAt K C H' Hf' x c o) (fr:∀y∈cells x c,H y=none):OSt K C b ρ (os++[(x,o)]) σ H' Hf':=by
 obtain⟨R,r1,r2⟩:=st.ob
 have st':=st.grow g
 have r1':=r1.chg (S:=[]) (Chg.of g) (by simp)
 obtain⟨R',q1,q2⟩:=r1'.snoc f fun y hy z=>r1.there y z (fr y hy)
 refine⟨st'.gr,st'.sl,R',q1,fun y hy=>(q2 y hy).elim (r2 y) fun z=>.inr ?_⟩
 exact Classical.byContradiction fun w=>st.gr.kp y w (fr y z)
end
end G
namespace G
open PySem PySem.Spec PyProof.Rows L2
theorem Slots.setO{K:PySem.W.Frag}{H0 H Hf:Hp}{ρ:Rho}{σ:L2.St}{i:Nat}{a:Addr}(s:Slots K H0 ρ σ H Hf):Slots K H0 (ρ.set i (some (.opq a))) (σ.set i (some (.ref a))) H Hf:=by
 have own:∀(j:Nat) (ds:List D),(ρ.set i (some (.opq a)))[j]? = some (some (.own ds))->i≠j/\ρ[j]? = some (some (.own ds)):=fun j ds e=>by
  rw[List.getElem?_set]at e
  split at e
  ·split at e<;>cases e
  ·rename_i h;exact⟨h,e⟩
 refine⟨by simp[s.len],fun j b e=>?_,fun j k d1 d2 c h1 h2 h3 h4=>?_⟩
 ·rw[List.getElem?_set]at e
  split at e
  ·rename_i h
   subst h
   split at e
   ·rename_i hl
    cases e
    exact⟨_,List.getElem?_set_self (by rw[← s.len];exact hl),rfl⟩
   ·cases e
  ·rename_i h
   obtain⟨v,v1,v2⟩:=s.is j b e
   exact⟨v,by rw[List.getElem?_set_ne h];exact v1,v2⟩
 ·obtain⟨n1,e1⟩:=own j d1 h1
  obtain⟨n2,e2⟩:=own k d2 h2
  rw[List.getElem?_set_ne n1]at h3
  rw[List.getElem?_set_ne n2]at h4
  exact s.apart j k d1 d2 c e1 e2 h3 h4
theorem an5{as:List Addr}{ρ:Rho}{n:Nat}(h:okR n ρ=true) (l:as.length=n) (a:Addr) (i:Nat):sub (as++[a]) (ρ.set i (some (.opq n)))=(sub as ρ).set i (some (.opq a)):=by
 subst l
 have:=au2 h [a]
 unfold sub at this ⊢
 rw[List.map_set,this]
 congr 1
 show some (B.opq _)=_
 rw[List.getD_eq_getElem?_getD,List.getElem?_append_right (Nat.le_refl _),Nat.sub_self]
 rfl
theorem ae3{as:List Addr}{q:Fs}(l:as.length=q.length) (a:Addr) (o:Fo):(as++[a]).zip (q++[o])=as.zip q++[(a,o)]:=by rw[List.zip_append l];rfl
def UN(X:Cx) (C:Addr) (e:Expr) (g:Rho->Option Fo):Prop:=∀ρ q o,g (era ρ)=some o->∀b (as:List Addr),as.length=q.length->PE X e (fun σ H Q=>∃Hf,OSt X.K C b (sub as ρ) (as.zip q) σ H Hf/\∀a c H' Hf',Grow H Hf H' Hf'->FoAt X.K C H' Hf' a c o->(∀y∈cells a c,H y=none)->Q (.ref a) H')
def bJ0(K:PySem.W.Frag) (C:Addr) (n:Nat) (F:List D->Option Fo):Sp:=fun vs H Q _=>vs.length=n/\∃Hf ds o,B6 Hf H/\Reps K Hf ds vs/\F ds=some o/\∀a c H' Hf',Grow H Hf H' Hf'->FoAt K C H' Hf' a c o->(∀y∈cells a c,H y=none)->Q (.ref a) H'
def ch9(X:Cx) (C:Addr) (x:Str):Prop:=∃k f fd ps,FnOk X.prog X.w X.K X.mg X.base CX0 k f fd ps (spI X.K C)/\Room (k+1) X.A/\Mk X.K C f/\O9 X.K fd ps []/\X.mg x=some (.ref C)
def ch8(X:Cx) (C:Addr) (x:Str) (F:List D->Option Fo) (n:Nat):Prop:=∃k f fd ps,FnOk X.prog X.w X.K X.mg X.base CX0 k f fd ps (bJ0 X.K C n F)/\Room k X.A/\X.mg x=some (.ref f)/\PySem.W.keepIn X.K (.ref f)=true/\O9 X.K fd ps []
section
variable {X:Cx}{C:Addr}
theorem bo2(M:ch9 X C x) (hg:Gl X x) (hdb:(x==("__debug__" : Str))=false):UN X C (.Call (.Name x p) [] [] pos) (fun _=>some fo0):=fun ρ q o w b as l=>by
 cases w
 obtain⟨k,f,fd,ps,F,hr,M,hb,hm⟩:=M
 refine A7 (bb8 M F hr hg hm hb .nil ah2 hdb) fun σ H Q ⟨Hf,st,kk⟩=>fun y dx h1 h2 h3=>?_
 have g1:Grow H Hf (upd H dx (.own y)) Hf:=Grow.made st.same h2
 have g2:Grow (upd H dx (.own y)) Hf (upd (upd H dx (.own y)) y (.ins C dx [])) Hf:=Grow.made g1.sub (by rw[A6 h3.symm];exact h1)
 have g:=g1.trans g2
 refine⟨y,dx,Hf,rfl,A5,g.sub,st.same.free h1,fun H' c ch fo cl=>⟨rfl,kk y c H' Hf ⟨fun z u e=>ch.big z u (by simp;exact A8 e h1) (g.big z u e),ch.sub,B6.refl _,fun _ h=>.inl h⟩ fo fun z hz=>?_⟩⟩
 rcases cl z hz with rfl|h
 ·exact h1
 ·exact(S9 (S9 h).2).2
theorem bo3{e:Expr}{es:List Expr}(N:ch8 X C x F n) (hg:Gl X x) (ha:JA X (e::es) g) (hn:(e::es).length=n) (hdb:(x==("__debug__" : Str))=false) (he:starEach (e::es) X.env=(false,eval e X.env)::starEach es X.env) (hpl:(backTo pos (starEach es X.env)).any (·.1)=false) :
  UN X C (.Call (.Name x p) (e::es) [] pos) (fun ρ=>(g ρ).bind F):=fun ρ q o w b as l=>by
 obtain⟨ds,h1,h2⟩:=Option.bind_eq_some_iff.mp w
 obtain⟨k,f,fd,ps,Fk,hr,hm,hk,hb⟩:=N
 refine A7 (aJ5 Fk hr hg hm hk hb .nil ah2 (fun pos pins s σ H Q I t=>ha.run (era ρ) ds h1 pos pins s σ H Q I t) hdb he hpl) fun σ H Q ⟨Hf,st,kk⟩=>?_
 refine⟨_,Hf,st.same,by rw[← g8 as ρ];exact st.sl.era,fun vs H1 Hf1 g1 r1=>⟨?_,Hf1,ds,o,g1.sub,by rw[List.append_nil];exact r1,h2,fun a c H2 Hf2 g2 fo fr=>kk a c H2 Hf2 (g1.trans g2) fo fun y hy=>g1.big.free (fr y hy)⟩⟩
 rw[List.append_nil,r1.length,ha.len _ ds h1,hn]
def bo6(i:Nat) (g:Rho->Option Fo):UX:=fun ρ q=>(g (era ρ)).map fun o=>.nx (ρ.set i (some (.opq q.length))) (q++[o])
theorem ap6{ρ:Rho}{q:Fs}(h:okR q.length ρ=true) (i:Nat) (o:Fo):okR (q++[o]).length (ρ.set i (some (.opq q.length)))=true:=aK1 (bd2 h (by simp)) (by intro _ z;cases z) (by intro j z;cases z;simp)
theorem bG9(i:Nat) (hN:X.N.Nodup) (h:UN X C e g) (hi:X.N[i]? = some x) (hx:Loc X.env.scope x) (hs:swapsWith e (some (.Name x pos')) pos.line X.env=pure false) (hf:X.fn x=true\/X.env.scope.names.lookup x=some .local):US X C (.Assign [.Name x pos'] e pos) (bo6 i g):=fun ρ q fl w no=>by
 obtain⟨o,w1,w2⟩:=Option.map_eq_some_iff.mp w
 cases w2
 refine⟨ap6 no i o,fun b as l=>C7 (ag7 hN hi hx (h ρ q o w1 b as l) hs hf) fun En σ H ⟨Hf,st,k⟩=>⟨Hf,st,fun a c H' Hf' g fo fr=>?_⟩⟩
 have st2:=st.add g fo fr
 exact k [a] _ H' Hf' (by simp[l]) (by rw[an5 no l,ae3 l];exact⟨st2.gr,st2.sl.setO,st2.ob⟩) g.ext
def bo5(i j:Nat) (f g:Rho->Option Fo):UX:=fun ρ q=>(f (era ρ)).bind fun o=>(g (era ρ)).map fun o'=>.nx ((ρ.set i (some (.opq q.length))).set j (some (.opq (q++[o]).length))) (q++[o]++[o'])
theorem bG8{kt k2 pt2} (hN:X.N.Nodup) (h1:UN X C ea f) (h2:UN X C eb g) (hw:swappedStores [.Tuple [.Name x px,.Name y py] kt pt] (.Tuple [ea,eb] k2 pt2) X.env=pure (some [x,y])) (hij:i≠j)
  (hi:X.N[i]? = some x) (hj:X.N[j]? = some y) (hx:X.env.scope.names.lookup x=some .local) (hy:X.env.scope.names.lookup y=some .local) (hc:X.calm=true) (he1:starEach [ea,eb] X.env=(false,eval ea X.env)::starEach [eb] X.env) (he2:starEach [eb] X.env=(false,eval eb X.env)::starEach [] X.env)
  (hs:swapsWithSole [.Tuple [.Name x px,.Name y py] kt pt] (.Tuple [ea,eb] k2 pt2) pos.line X.env=pure false):US X C (.Assign [.Tuple [.Name x px,.Name y py] kt pt] (.Tuple [ea,eb] k2 pt2) pos) (bo5 i j f g):=fun ρ q fl w no=>by
 obtain⟨o,w1,w⟩:=Option.bind_eq_some_iff.mp w
 obtain⟨o',w2,w3⟩:=Option.map_eq_some_iff.mp w
 cases w3
 have no2:=ap6 no i o
 refine⟨ap6 no2 j o',fun b as l=>?_⟩
 have second:PE X eb (fun σ H Q=>∃a,∃Hf,OSt X.K C b (sub (as++[a]) ρ) ((as++[a]).zip (q++[o])) σ H Hf/\∀a c H' Hf',Grow H Hf H' Hf'->FoAt X.K C H' Hf' a c o'->(∀y∈cells a c,H y=none)->Q (.ref a) H'):=fun pins s σ H Q I ⟨a,t⟩=>h2 ρ (q++[o]) o' w2 b (as++[a]) (by simp[l]) pins s σ H Q I t
 refine C7 (ba3 hc hN hi hj hij hx hy (B2 (h1 ρ q o w1 b as l) (B2 second C6 he2) he1) hw hs) fun En σ H ⟨Hf,st,k⟩=>⟨Hf,st,fun a c H1 Hf1 g1 fo1 fr1=>?_⟩
 have st1:=st.add g1 fo1 fr1
 refine⟨a,Hf1,by rw[ae3 l,au2 (by rw[l];exact no)];exact st1,fun a' c' H2 Hf2 g2 fo2 fr2=>⟨.ref a,.ref a',rfl,?_⟩⟩
 have st2:=st1.add g2 fo2 fr2
 have l1:(as++[a]).length=(q++[o]).length:=by simp[l]
 refine k [a,a'] _ H2 Hf2 (by simp[l]) ?_ (g1.ext.trans g2.ext)
 rw[show as++[a,a']=as++[a]++[a'] by simp,an5 no2 l1,an5 no l,ae3 l1,ae3 l]
 exact⟨st2.gr,st2.sl.setO.setO,st2.ob⟩
def U4(i:Nat) (f:DE):UX:=fun ρ q=>(M5 i ρ q).bind fun p=>(aj4 (p.2.m.map (·.1))).bind fun _=>(f (era ρ)).map fun _=>.nx ρ q
end
end G
namespace G
open PySem PySem.Spec PyProof.Rows L2
section
variable {X:Cx}{C:Addr}
theorem bn9(i:Nat) (N:bX4 X C) (cc:FoC X.K C) (hn:X.N[i]? = some x) (hv:Vis X.env.scope x) (h1:(x==("__debug__" : Str))=false) (h2:(x==("__classdict__" : Str))=false) (he:JE X e f) (hl:(p2.endLine==p3.line)=true) (hl2:(p4.endLine==p5.line)=true) (hst:starEach [e] X.env=[(false,eval e X.env)])
  (hfew:((backTo p5 (starEach [e] X.env)).all (fun x=>!x.1)&&(backToKw p5 (keywordEach [] X.env)).all (fun x=>x.1.isSome)
   && decide (([e]:List Expr).length+([]:List Keyword).length+(if([]:List Keyword).isEmpty then 0 else 1) < 30))=true)
  (hs:swapsWith (.Call (.Attribute (.Call (.Attribute (.Name x p) "names" p2) [] [] p3) "append" p4) [e] [] p5) none p6.line X.env=pure false) :
  US X C (.Expr (.Call (.Attribute (.Call (.Attribute (.Name x p) "names" p2) [] [] p3) "append" p4) [e] [] p5) p6) (U4 i f):=fun ρ q fl w no=>by
 obtain⟨⟨j,o⟩,w1,w⟩:=Option.bind_eq_some_iff.mp w
 obtain⟨out,w2,w⟩:=Option.bind_eq_some_iff.mp w
 obtain⟨d,w3,w4⟩:=Option.map_eq_some_iff.mp w
 cases w4
 refine⟨no,fun b as l=>?_⟩
 obtain⟨a,ea,A⟩:=n8 w1 (ap5 no) l hn hv h1 h2
 exact C7 (bt0 N cc A w2 he w3 (fun s=>by rw[← g8 as ρ];exact s.era) hl hl2 hst (by rfl) hfew hs) fun En σ H ⟨Hf,st,k⟩=>⟨Hf,st,fun σ' H' Hf' s' e'=>aL7 k l σ' H' Hf' s' e'⟩
end
def bq1(g:UX) (n:Nat):List D->Option D:=fun ds=>(g (N7 n ds) []).bind fun fl=>match fl with
 | .rt d _=>some d
 | .nx _ _=>some .none
 | _=>none
def bq2(g:UX) (n:Nat):List D->Option Fo:=fun ds=>(g (N7 n ds) []).bind fun fl=>match fl with
 | .ro j q=>q[j]?
 | _=>none
theorem ak6(n m:Nat) (ds:List D):okR m (N7 n ds)=true:=by
 unfold okR N7
 rw[List.all_eq_true]
 intro x hx
 rcases List.mem_append.mp hx with h|h
 ·obtain⟨d,_,rfl⟩:=List.mem_map.mp h;rfl
 ·rw[(List.mem_replicate.mp h).2]
theorem aB1(n:Nat) (ds:List D):sub [] (N7 n ds)=N7 n ds:=by
 unfold sub N7
 rw[List.map_append,List.map_map,List.map_replicate]
 rfl
section
variable {P:Program}{w:World}{K:PySem.W.Frag}{mg:Str->Option Value}{base:Heap}{x qual:Str}{st:Stmt}{f:Addr}{fd:FuncData}{N ps:List Str}{k:Nat}{g:UX}{C:Addr}
theorem aG9{H Hf:Hp}{ds:List D}{vs:List V}(ss:B6 Hf H) (rp:Reps K Hf ds vs):OSt K C ⟨[],H,Hf⟩ (sub [] (N7 N.length ds)) (([]:List Addr).zip ([]:Fs)) (start N vs) H Hf :=
 ⟨Chg.of (Grow.refl ss),by rw[aB1];exact a8 rp,[],.nil,by simp⟩
theorem bj2(F:Fun K x qual st f fd) (S:FnScope N ps (B8 st))
  (hb:∀(cdv:Value) (A:Around) (outer:List Env) (s:Shared) (H:Hp) (E:XK),Room k (A.deeper (envOfC qual (B8 st) s.heap.objs.size f cdv))->USs (ab0 CX0 P w K mg base N qual (B8 st) f cdv A outer s H E).nox C (B3 st) g) :
  FnOk P w K mg base CX0 (k+1) f fd ps (spF K ps.length (bq1 g N.length)):=by
 refine F.ok S (fun vs H Q E h=>h.1) fun cdv A outer s H vs Q E hr hsp=>?_
 obtain⟨hlen,Hf,ds,d,ss,rp,e,kk⟩:=hsp
 obtain⟨fl,e1,e2⟩:=Option.bind_eq_some_iff.mp e
 obtain⟨_,h⟩:=hb cdv A outer s H E hr _ [] fl e1 (ak6 _ _ _)
 refine⟨_,h ⟨[],H,Hf⟩ [] rfl,Hf,aG9 ss rp,?_⟩
 cases fl with
 | rt d' q=>cases e2;exact fun ex ρ σ v H' Hf' l s' r=>kk v H' Hf' s'.gr.grow r
 | nx ρ q=>cases e2;exact fun ex σ' H' Hf' l s' _=>kk _ H' Hf' s'.gr.grow rfl
 | ro j q=>cases e2
theorem bj3(F:Fun K x qual st f fd) (S:FnScope N ps (B8 st))
  (hb:∀(cdv:Value) (A:Around) (outer:List Env) (s:Shared) (H:Hp) (E:XK),Room k (A.deeper (envOfC qual (B8 st) s.heap.objs.size f cdv))->USs (ab0 CX0 P w K mg base N qual (B8 st) f cdv A outer s H E).nox C (B3 st) g) :
  FnOk P w K mg base CX0 (k+1) f fd ps (bJ0 K C ps.length (bq2 g N.length)):=by
 refine F.ok S (fun vs H Q E h=>h.1) fun cdv A outer s H vs Q E hr hsp=>?_
 obtain⟨hlen,Hf,ds,o,ss,rp,e,kk⟩:=hsp
 obtain⟨fl,e1,e2⟩:=Option.bind_eq_some_iff.mp e
 obtain⟨_,h⟩:=hb cdv A outer s H E hr _ [] fl e1 (ak6 _ _ _)
 refine⟨_,h ⟨[],H,Hf⟩ [] rfl,Hf,aG9 ss rp,?_⟩
 cases fl with
 | rt d' q=>cases e2
 | nx ρ q=>cases e2
 | ro j q =>
  intro ex ρ σ a H' Hf' l s' hj
  obtain⟨R,r1,r2⟩:=s'.ob
  obtain⟨c,f1,f2,_⟩:=r1.focus (List.getElem?_zip_eq_some.mpr ⟨hj,e2⟩)
  exact kk a c H' Hf' s'.gr.grow f1 fun y hy=>(r2 y (f2 y hy)).elim (fun z=>nomatch z) id
end
end G
namespace G
open PySem PySem.Spec PyProof.Rows L2
structure Og where
 ms:aF7
 nf:List (Str×(List D->Option Fo)×Nat)
 cl:Str
structure FitU (S:Sg) (O:Og) (C:Addr) (c:Kx) (X:Cx):Prop where
 o:FitO S O.ms C c X
 nf:∀x F n,O.nf.lookup x=some (F,n)->ch8 X C x F n
 make:ch9 X C O.cl
 nm:bX4 X C
def bA2:Expr->Option (Expr×List Expr×List Keyword×Pos)
 | .Call f a k p=>some (f,a,k,p)
 | _=>none
def bW5:Expr->Option (Expr×Str×Pos)
 | .Attribute o m p=>some (o,m,p)
 | _=>none
def bA0:Expr->Option (Expr×CmpOp×Expr×Pos)
 | .Compare l [op] [r] p=>some (l,op,r,p)
 | _=>none
def bA4:Expr->Option (BoolOp×Expr×Expr×Pos)
 | .BoolOp op [a,b] p=>some (op,a,b,p)
 | _=>none
def bV7:Expr->Option (Expr×Expr×Expr×Pos)
 | .BoolOp .Or [a,b,c] p=>some (a,b,c,p)
 | _=>none
theorem as7(h:bA2 e=some t):e=.Call t.1 t.2.1 t.2.2.1 t.2.2.2:=by cases e<;>first|(cases h;rfl)|cases h
theorem aN1(h:bW5 e=some t):e=.Attribute t.1 t.2.1 t.2.2:=by cases e<;>first|(cases h;rfl)|cases h
theorem aM6(h:bA0 e=some t):e=.Compare t.1 [t.2.1] [t.2.2.1] t.2.2.2:=by
 unfold bA0 at h
 split at h
 ·cases h;rfl
 ·cases h
theorem as8(h:bA4 e=some t):e=.BoolOp t.1 [t.2.1,t.2.2.1] t.2.2.2:=by
 unfold bA4 at h
 split at h
 ·cases h;rfl
 ·cases h
theorem bA3(h:bV7 e=some t):e=.BoolOp .Or [t.1,t.2.1,t.2.2.1] t.2.2.2:=by
 unfold bV7 at h
 split at h
 ·cases h;rfl
 ·cases h
structure Mc where
 x:Str
 p:Pos
 m:Str
 ap:Pos
 a:List Expr
 cp:Pos
def mcV(e:Expr):Option Mc:=(bA2 e).bind fun t=>match t.2.2.1 with
 | []=>(bW5 t.1).bind fun u=>(nmP u.1).map fun v=>⟨v.1,v.2,u.2.1,u.2.2,t.2.1,t.2.2.2⟩
 | _=>none
theorem aC5(h:mcV e=some t):e=.Call (.Attribute (.Name t.x t.p) t.m t.ap) t.a [] t.cp:=by
 obtain⟨⟨f,a,k,p⟩,h1,h⟩:=Option.bind_eq_some_iff.mp h
 cases k with
 | cons=>cases h
 | nil =>
  obtain⟨⟨o,m,ap⟩,h2,h⟩:=Option.bind_eq_some_iff.mp h
  obtain⟨⟨x,q⟩,h3,h⟩:=Option.map_eq_some_iff.mp h
  subst h
  rw[as7 h1,aN1 h2,j8 h3]
def uNo:UD:=fun _ _=>none
def uXo:UX:=fun _ _=>none
def opU:CmpOp->Option (D->D->Option D)
 | .Eq=>some eqD
 | .NotEq=>some neD
 | .Is=>some isB
 | .IsNot=>some aj6
 | _=>none
section
variable (S:Sg) (O:Og) (c:Kx)
def pE(e:Expr):DE:=(ev S 99).e c e
def oMb(t:Mc) (n:Nat):Bool:=aj3 c.sc t.x&&u4 t.m&&(t.ap.endLine==t.cp.line)&&t.a.all pl&&t.a.length==n&&decide (n < 20)
def oMc(t:Mc):Option UD:=(W3 t.x c.N).bind fun i=>(O.ms.lookup t.m).bind fun F=>if oMb c t F.2 then some (match t.a with|[]=>uM0 i F.1|_=>uM i F.1 (evA (pE S c) t.a)) else none
def oM(e:Expr):Option UD:=(mcV e).bind (oMc S O c)
def oE(e:Expr):UD:=(oM S O c e).getD (uP (pE S c e))
def bT6(e:Expr):Bool:=(oM S O c e).isSome
def oCc(t:Expr×CmpOp×Expr×Pos):UD:=match opU t.2.1 with
 | some h=>if behindInMarks t.2.1 t.2.2.1 then uNo else uB2 h (oE S O c t.1) (oE S O c t.2.2.1)
 | none=>uNo
def ae0(e:Expr):Bool:=match bA0 e with
 | some t=>bT6 S O c t.1 || bT6 S O c t.2.2.1
 | none=>bT6 S O c e
def oC(e:Expr):UD:=if ae0 S O c e then(match bA0 e with
 | some t=>oCc S O c t
 | none=>oE S O c e) else uP (pE S c e)
def oV(e:Expr):UD:=match bA4 e with
 | some (.And,a,b,_)=>if ae0 S O c a || ae0 S O c b then P0 (oC S O c a) (oC S O c b) else uP (pE S c e)
 | _=>oC S O c e
def oT1(e:Expr):UB:=if ae0 S O c e then uTB (oC S O c e) else uTP ((ev S 99).t c e)
def oT(e:Expr):UB:=match bA4 e with
 | some (.Or,a,b,_)=>if ae0 S O c a || ae0 S O c b then uOr (oT1 S O c a) (oT1 S O c b) else uTP ((ev S 99).t c e)
 | some (.And,a,b,_)=>if ae0 S O c a || ae0 S O c b then bZ2 (oT1 S O c a) (oT1 S O c b) else uTP ((ev S 99).t c e)
 | none=>(match bV7 e with
  | some (a,b,d,_)=>if ae0 S O c a || ae0 S O c b || ae0 S O c d then uOr (oT1 S O c a) (uOr (oT1 S O c b) (oT1 S O c d)) else uTP ((ev S 99).t c e)
  | none=>oT1 S O c e)
end
section
variable {X:Cx}{S:Sg}{O:Og}{C:Addr}{c:Kx}
theorem ac2(F:FitU S O C c X) (e:Expr):JE X e (pE S c e):=(v8 S 99).e F.o.fit e
theorem bT9{args:List Expr}{pos:Pos}(h:args.all pl=true) (n:args.length < 20):methodCallForm (args.length+([]:List Keyword).length) (backTo pos (starEach args X.env)) (backToKw pos (keywordEach [] X.env))=true:=by
 unfold methodCallForm
 have h1:(backTo pos (starEach args X.env)).all (!·.1)=true:=by
  have:=(X4 pos (starEach args X.env)).trans (S0 pos X.env h)
  rw[List.all_eq_not_any_not]
  simpa using this
 rw[h1]
 show(true&&true&&decide _)=true
 simp
 show args.length+0+0 < 30
 omega
theorem cd6(F:FitU S O C c X) (h:oM S O c e=some g):UE X C e g:=by
 obtain⟨t,h1,h0⟩:=Option.bind_eq_some_iff.mp h
 clear h
 rw[aC5 h1]
 obtain⟨i,h2,h⟩:=Option.bind_eq_some_iff.mp h0
 obtain⟨⟨Fm,n⟩,h3,h⟩:=Option.bind_eq_some_iff.mp h
 split at h
 ·rename_i hb
  unfold oMb at hb
  simp only[Bool.and_eq_true,beq_iff_eq,decide_eq_true_eq]at hb
  obtain⟨⟨⟨⟨⟨b1,b2⟩,b3⟩,b4⟩,b5⟩,b6⟩:=hb
  obtain⟨v1,v2,v3⟩:=V2 F.o.fit b1
  have M:=F.o.mts _ _ _ h3
  cases h
  obtain⟨x,p,m,ap,a,cp⟩:=t
  cases a with
  | nil =>
   cases b5
   exact aW4 i M F.o.foc (F.o.fit.slot h2) v1 v2 v3 b2 (by simpa using b3)
  | cons e es =>
   have b4':=b4
   simp only[List.all_cons,Bool.and_eq_true]at b4'
   exact bo4 i M F.o.foc (F.o.fit.slot h2) v1 v2 v3 b2 (ac9 (ac2 F) (e::es)) (by simpa using b3) b5 (C4 b4'.1 _ _) ((X4 cp _).trans (S0 cp _ b4'.2)) (bT9 b4 (by rw[b5];exact b6))
 ·cases h
theorem ah3(F:FitU S O C c X) (e:Expr):UE X C e (oE S O c e):=by
 unfold oE
 cases h:oM S O c e with
 | none=>exact m7 (ac2 F e)
 | some g=>exact cd6 F h
theorem bB3:UE X C e uNo:=fun _ _ _ _ h _=>nomatch h
theorem bd1(F:FitU S O C c X) (h:opU op=some k):OpD X (compareOp op) k:=by
 cases op<;>cases h
 ·exact bC7 F.o.fit.units
 ·exact bC5 F.o.fit.units
 ·exact bC6
 ·exact av7
theorem be1(F:FitU S O C c X) (e:Expr):UE X C e (oC S O c e):=by
 unfold oC
 split
 ·split
  ·rename_i t ht
   have:=aM6 ht
   subst this
   unfold oCc
   split
   ·rename_i k hk
    split
    ·exact bB3
    ·rename_i hm
     exact bH3 (bd1 F hk) (ah3 F _) (ah3 F _) (by simpa using hm)
   ·exact bB3
  ·exact ah3 F e
 ·exact m7 (ac2 F e)
theorem c5(F:FitU S O C c X) (e:Expr):UT X C e (oT1 S O c e):=by
 unfold oT1
 split
 ·rename_i hc
  unfold oC
  rw[if_pos hc]
  unfold ae0 at hc
  split
  ·rename_i t ht
   have:=aM6 ht
   subst this
   unfold oCc
   split
   ·rename_i k hk
    split
    ·exact fun _ _ _ _ h _=>nomatch h
    ·rename_i hm
     exact bG5 (bd1 F hk) (ah3 F _) (ah3 F _) (by simpa using hm)
   ·exact fun _ _ _ _ h _=>nomatch h
  ·rename_i ht
   rw[ht]at hc
   dsimp only at hc
   obtain⟨g,hg⟩:=Option.isSome_iff_exists.mp hc
   obtain⟨t,h1,_⟩:=Option.bind_eq_some_iff.mp hg
   refine bG3 (ah3 F e) ?_
   have:=aC5 h1
   subst this
   intro _;rfl
 ·exact ae4 ((v8 S 99).t F.o.fit e)
theorem bC8(F:FitU S O C c X) (e:Expr):UE X C e (oV S O c e):=by
 unfold oV
 split
 ·rename_i a b p h
  have:=as8 h
  subst this
  split
  ·exact bH4 (be1 F a) (be1 F b)
  ·exact m7 (ac2 F _)
 ·exact be1 F e
theorem cd4(F:FitU S O C c X) (e:Expr):UT X C e (oT S O c e):=by
 unfold oT
 split
 ·rename_i a b p h
  have:=as8 h
  subst this
  split
  ·exact bY8 (c5 F a) (c5 F b)
  ·exact ae4 ((v8 S 99).t F.o.fit _)
 ·rename_i a b p h
  have:=as8 h
  subst this
  split
  ·exact bG6 (c5 F a) (c5 F b)
  ·exact ae4 ((v8 S 99).t F.o.fit _)
 ·split
  ·rename_i a b d p h
   have:=bA3 h
   subst this
   split
   ·exact bG4 (c5 F a) (c5 F b) (c5 F d)
   ·exact ae4 ((v8 S 99).t F.o.fit _)
  ·exact c5 F e
end
end G
namespace G
open PySem PySem.Spec PyProof.Rows L2
def uRn(i:Nat) (f:DE):UX:=fun ρ q=>match M5 i ρ q with
 | some p=>some (.ro p.1 q)
 | none=>N5 (uP f) ρ q
def bH9:Expr->Option (List Expr×Nat×Pos)
 | .Tuple es k p=>some (es,k,p)
 | _=>none
theorem bo7(h:bH9 e=some t):e=.Tuple t.1 t.2.1 t.2.2:=by cases e<;>first|(cases h;rfl)|cases h
def oB(f:Stmt->UX):List Stmt->UX
 | []=>N6
 | [s]=>f s
 | s::t::r=>Q8 (f s) (oB f (t::r))
section
variable (S:Sg) (O:Og) (c:Kx)
def oNa(x:Str) (a:List Expr):Option (Rho->Option Fo):=if ar0 c.sc x then(match a with
 | []=>if x==O.cl then some (fun _=>some fo0) else none
 | e::es=>(O.nf.lookup x).bind fun F=>if(e::es).all pl&&(e::es).length==F.2 then some (fun ρ=>(evA (pE S c) (e::es) ρ).bind F.1) else none) else none
def oN(e:Expr):Option (Rho->Option Fo):=(bA2 e).bind fun t=>match t.2.2.1 with
 | []=>(nmP t.1).bind fun v=>oNa S O c v.1 t.2.1
 | _=>none
def bO1(x:Str) (v:Expr):UX:=match W3 x c.N with
 | some i=>if aR6 c x && !(isC v) then(match oN S O c v with
  | some g=>bo6 i g
  | none=>R5 i (oV S O c v)) else uXo
 | none=>uXo
def cd5(x y:Str) (px py:Pos) (a b:Expr):Option UX:=(W3 x c.N).bind fun i=>(W3 y c.N).bind fun j=>(oN S O c a).bind fun f=>(oN S O c b).bind fun g=>if bs8 c x y px py a b then some (bo5 i j f g) else none
def bO0(es:List Expr) (v:Expr):Option UX:=(bH8 es).bind fun t=>(bH7 v).bind fun u=>cd5 S O c t.1.1 t.2.1 t.1.2 t.2.2 u.1 u.2
def oAs(v:Expr):List Expr->UX
 | [tg]=>(match nmP tg with
  | some t=>bO1 S O c t.1 v
  | none=>((bH9 tg).bind fun t=>bO0 S O c t.1 v).getD uXo)
 | _=>uXo
def oRt:Option Expr->UX
 | some e=>(match nmP e with
  | some t=>(match W3 t.1 c.N with
   | some i=>if aj3 c.sc t.1 then uRn i (pE S c e) else uXo
   | none=>N5 (uP (pE S c e)))
  | none=>N5 (oV S O c e))
 | none=>uXo
def oNp(w:Mc) (a:Expr) (ap cp:Pos):Option UX:=if w.m == "names" && w.a.isEmpty&&aj3 c.sc w.x&&(w.ap.endLine==w.cp.line)&&(ap.endLine==cp.line)&&pl a then(W3 w.x c.N).map fun i=>U4 i (pE S c a) else none
def ck8(e:Expr):Option UX:=(bA2 e).bind fun t=>match t.2.2.1 with
 | []=>(match t.2.1 with
  | [a]=>(bW5 t.1).bind fun u=>if u.2.1 == "append" then(mcV u.1).bind fun w=>oNp S c w a u.2.2 t.2.2.2 else none
  | _=>none)
 | _=>none
def oEx(e:Expr):UX:=match ck8 S c e with
 | some g=>g
 | none=>if isC e then uXo else uEx (oE S O c e)
def oFo(tg it:Expr) (f:UX):List Stmt->UX
 | []=>if pl it then aW5 (evI S (ev S 98) c tg it) ((ev S 98).g c tg) f else uXo
 | _=>uXo
def oS:Nat->Stmt->UX
 | 0,_=>uXo
 | n+1,st=>match st with
  | .Return o _=>oRt S O c o
  | .If t a b _=>uIf (oT S O c t) (oB (oS n) a) (oB (oS n) b)
  | .For tg it a o _=>oFo S c tg it (oB (oS n) a) o
  | .Assign ts v _=>oAs S O c v ts
  | .Expr e _=>oEx S O c e
  | _=>uXo
end
section
variable {X:Cx}{S:Sg}{O:Og}{C:Addr}{c:Kx}
theorem Z9{st:Stmt}:US X C st uXo:=fun _ _ _ h=>nomatch h
theorem be0(F:FitU S O C c X) (h:oN S O c e=some g):UN X C e g:=by
 obtain⟨⟨f,a,k,p⟩,h1,h0⟩:=Option.bind_eq_some_iff.mp h
 clear h
 rw[as7 h1]
 cases k with
 | cons=>cases h0
 | nil =>
  obtain⟨⟨x,q⟩,h2,h⟩:=Option.bind_eq_some_iff.mp h0
  rw[j8 h2]
  unfold oNa at h
  split at h
  ·rename_i hg
   obtain⟨g1,g2⟩:=u9 F.o.fit hg
   cases a with
   | nil =>
    dsimp only at h
    split at h
    ·rename_i hx
     cases h
     simp only[beq_iff_eq]at hx
     subst hx
     exact bo2 F.make g1 g2
    ·cases h
   | cons e es =>
    dsimp only at h
    obtain⟨⟨Fn,n⟩,h3,h⟩:=Option.bind_eq_some_iff.mp h
    split at h
    ·rename_i hb
     cases h
     simp only[Bool.and_eq_true,beq_iff_eq,List.all_cons]at hb
     exact bo3 (F.nf _ _ _ h3) g1 (ac9 (ac2 F) (e::es)) hb.2 g2 (C4 hb.1.1 _ _) ((X4 p _).trans (S0 p _ hb.1.2))
    ·cases h
  ·cases h
theorem bu5(F:FitU S O C c X) (x:Str) (p':Pos) (v:Expr) (p:Pos):US X C (.Assign [.Name x p'] v p) (bO1 S O c x v):=by
 have nd:X.N.Nodup:=by rw[F.o.fit.N];exact F.o.fit.nd
 unfold bO1
 split
 ·rename_i i hi
  split
  ·rename_i h
   simp only[Bool.and_eq_true,Bool.not_eq_true']at h
   obtain⟨l1,l2⟩:=aq1 F.o.fit h.1
   split
   ·rename_i g hg
    exact bG9 i nd (be0 F hg) (F.o.fit.slot hi) l1 (X1 h.2 _ _ _) l2
   ·exact bG7 i nd (bC8 F v) (F.o.fit.slot hi) l1 (X1 h.2 _ _ _) l2
  ·exact Z9
 ·exact Z9
theorem bu4(F:FitU S O C c X) {es:List Expr}{v:Expr}{kt:Nat}{pt p:Pos}(h:bO0 S O c es v=some g):US X C (.Assign [.Tuple es kt pt] v p) g:=by
 have nd:X.N.Nodup:=by rw[F.o.fit.N];exact F.o.fit.nd
 obtain⟨t,h1,h0⟩:=Option.bind_eq_some_iff.mp h
 clear h
 obtain⟨u,h2,h⟩:=Option.bind_eq_some_iff.mp h0
 clear h0
 rw[aG2 h1]
 obtain⟨k2,p2,e2⟩:=aG1 h2
 rw[e2]
 obtain⟨⟨x,px⟩,y,py⟩:=t
 obtain⟨a,b⟩:=u
 unfold cd5 at h
 obtain⟨i,hi,h⟩:=Option.bind_eq_some_iff.mp h
 obtain⟨j,hj,h⟩:=Option.bind_eq_some_iff.mp h
 obtain⟨f1,hf1,h⟩:=Option.bind_eq_some_iff.mp h
 obtain⟨f2,hf2,h⟩:=Option.bind_eq_some_iff.mp h
 split at h
 ·rename_i hb
  cases h
  unfold bs8 at hb
  simp only[Bool.and_eq_true,Bool.not_eq_true',beq_iff_eq]at hb
  obtain⟨⟨⟨⟨⟨⟨⟨⟨hd,ha⟩,hb⟩,hxy⟩,hl⟩,hx⟩,hy⟩,hf⟩,hcs⟩:=hb
  have hx':X.env.scope.names.lookup x=some .local:=by rw[F.o.fit.sc];exact hx
  have hy':X.env.scope.names.lookup y=some .local:=by rw[F.o.fit.sc];exact hy
  have hne:i≠j:=fun z=>by
   subst z
   have:=(F.o.fit.slot hi).symm.trans (F.o.fit.slot hj)
   cases this
   simp at hxy
  exact bG8 nd (be0 F hf1) (be0 F hf2) (aX7 (aE8 F.o.fit hd) ha hb hx' hy' hl hxy hf hcs) hne (F.o.fit.slot hi) (F.o.fit.slot hj) hx' hy' F.o.fit.calm (C4 ha _ _) (C4 hb _ _) rfl
 ·cases h
theorem bN9(F:FitU S O C c X) (v:Expr) (ts:List Expr) (p:Pos):US X C (.Assign ts v p) (oAs S O c v ts):=by
 unfold oAs
 split
 ·rename_i tg
  split
  ·rename_i t ht
   rw[j8 ht]
   exact bu5 F _ _ _ _
  ·cases h:(bH9 tg).bind fun t=>bO0 S O c t.1 v with
   | none=>exact Z9
   | some g =>
    obtain⟨t,h1,h2⟩:=Option.bind_eq_some_iff.mp h
    rw[bo7 h1]
    exact bu4 F h2
 ·exact Z9
theorem bZ0(i:Nat) (hn:X.N[i]? = some x) (hv:Vis X.env.scope x) (h1:(x==("__debug__" : Str))=false) (h2:(x==("__classdict__" : Str))=false) (h:JE X (.Name x p) f):US X C (.Return (some (.Name x p)) pos) (uRn i f):=fun ρ q fl w no=>by
 unfold uRn at w
 split at w
 ·rename_i t ht
  exact bY9 i hn hv h1 h2 ρ q fl (by unfold uRo;rw[ht];exact w) no
 ·exact aA6 (m7 h) ρ q fl w no
theorem bN7(F:FitU S O C c X) (o:Option Expr) (p:Pos):US X C (.Return o p) (oRt S O c o):=by
 unfold oRt
 split
 ·rename_i e
  split
  ·rename_i t ht
   split
   ·rename_i i hi
    split
    ·rename_i hv
     obtain⟨v1,v2,v3⟩:=V2 F.o.fit hv
     have:=ac2 F e
     rw[j8 ht]at this ⊢
     exact bZ0 i (F.o.fit.slot hi) v1 v2 v3 this
    ·exact Z9
   ·exact aA6 (m7 (ac2 F _))
  ·exact aA6 (bC8 F _)
 ·exact Z9
theorem bN8(F:FitU S O C c X) (e:Expr) (p:Pos):US X C (.Expr e p) (oEx S O c e):=by
 unfold oEx
 split
 ·rename_i g h
  obtain⟨⟨f,a,k,cp⟩,h1,h0⟩:=Option.bind_eq_some_iff.mp h
  clear h
  rw[as7 h1]
  cases k with
  | cons=>cases h0
  | nil =>
   dsimp only at h0 ⊢
   split at h0
   ·rename_i a1
    obtain⟨⟨o1,m1,ap⟩,h2,h⟩:=Option.bind_eq_some_iff.mp h0
    clear h0
    split at h
    ·rename_i hm
     simp only[beq_iff_eq]at hm
     subst hm
     obtain⟨w,h3,h⟩:=Option.bind_eq_some_iff.mp h
     rw[aN1 h2,aC5 h3]
     unfold oNp at h
     split at h
     ·rename_i hb
      simp only[Bool.and_eq_true,beq_iff_eq,List.isEmpty_iff]at hb
      obtain⟨⟨⟨⟨⟨b1,b2⟩,b3⟩,b4⟩,b5⟩,b6⟩:=hb
      obtain⟨i,hi,hg⟩:=Option.map_eq_some_iff.mp h
      subst hg
      obtain⟨v1,v2,v3⟩:=V2 F.o.fit b3
      rw[b1,b2]
      have hst:=C4 b6 [] X.env
      exact bn9 i F.nm F.o.foc (F.o.fit.slot hi) v1 v2 v3 (ac2 F _) (by simpa using b4) (by simpa using b5) hst (by rw[hst];rfl) rfl
     ·cases h
    ·cases h
   ·cases h0
 ·split
  ·exact Z9
  ·rename_i hc
   exact bo0 (ah3 F e) (X1 (by simpa using hc) _ _ _)
theorem az3:Cm gNo:=fun _ _ _ _ h=>nomatch h
theorem bl0{f:Expr->DG}(h:∀e,Cm (f e)):∀es:List Expr,Cms (bz2 f es)
 | []=>bz9
 | e::es=>bl1 (h e) (bl0 h es)
theorem bE7(S:Sg):∀n c ex,Cm ((ev S n).g c ex)
 | 0,c,ex=>az3
 | n+1,c,ex=>by
  show Cm (xG (ev S n) c ex)
  unfold xG
  split
  ·split
   ·split
    ·exact bV6 _
    ·exact az3
   ·exact az3
  ·split
   ·exact bV5 (bl0 (fun e=>bE7 S n c e) _)
   ·exact az3
  ·exact az3
theorem aK3{f:Stmt->UX}(h:∀st,US X C st (f st)):∀sts,USs X C sts (oB f sts)
 | []=>bn8
 | [s]=>bn7 (h s)
 | s::t::r=>aW2 (h s) (aK3 h (t::r))
theorem bd9(F:FitU S O C c X):∀n st,US X C st (oS S O c n st)
 | 0,st=>Z9
 | n+1,st=>by
  have ih:=aK3 (bd9 F n)
  cases st
  case Return=>exact bN7 F _ _
  case If=>exact bZ1 (cd4 F _) (ih _) (ih _)
  case For tg it a o p =>
   cases o
   ·show US X C _ (oFo S c tg it (oB (oS S O c n) a) [])
    unfold oFo
    dsimp only
    split
    ·rename_i h;exact bH0 (bg4 (v8 S 98) F.o.fit _ _) ((v8 S 98).g F.o.fit _) (bE7 S 98 c tg) (ih _) F.o.fit.po F.o.fit.calm (ao6 h _)
    ·exact Z9
   ·exact Z9
  case Assign=>exact bN9 F _ _ _
  case Expr=>exact bN8 F _ _
  all_goals exact Z9
end
end G
namespace G
open PySem PySem.Spec PyProof.Rows L2
def cm0:Stmt->List Stmt
 | .ClassDef _ _ _ b _ _ _ _ _ _ _=>b
 | _=>[]
def ifB(l:List Stmt) (i:Nat):List Stmt:=match l[i]? with
 | some (.If _ b _ _)=>b
 | _=>[]
structure KCl (K:PySem.W.Frag) (C:Addr) (cl:Str):Prop where
 ns:PySem.W.nsIn K mainGlobals cl=some (some (.ref C))
 make:PySem.W.makesIn K C=true
 kp:PySem.W.keepIn K (.ref C)=true
 foc:FoC K C
theorem bP4{K:PySem.W.Frag}{C:Addr}{cl:Str}(a:PySem.W.nsIn K mainGlobals cl=some (some (.ref C))) (b:PySem.W.makesIn K C=true) (c:PySem.W.keepIn K (.ref C)=true) (pg:PySem.W.plainGet K C Str.empty=true) (hd:PySem.W.hasDictIn K C=true) (po:PySem.W.plainOver K C=true)
  (sa:PySem.W.findIn K (.ref C) "__setattr__" = some (some (.builtin "object.__setattr__"))) (n1:PySem.W.findIn K (.ref C) "sheets" = some none) (n2:PySem.W.findIn K (.ref C) "steps_back" = some none) (n3:PySem.W.findIn K (.ref C) "steps_forth" = some none):KCl K C cl:=⟨a,b,c,⟨pg,hd,po,sa⟩,n1,n2,n3⟩
theorem ce2{K:PySem.W.Frag}{C:Addr}{m qual:Str}{st:Stmt}{f:Addr}{oc:Value}{od:Option Addr}{sl:Array (Option Value)}{kV dc pm:Value}{an:Option Addr}{cd ct:Value}(a:PySem.W.findIn K (.ref C) m=some (some (.ref f))) (i:PySem.W.isFn K (.ref f)=true)
  (l:K.lookup f=some ⟨oc,od,.func (PySem.W.fnOf m qual (R3 st) (B3 st) (B8 st) .none kV dc pm an cd ct),sl⟩) (c:PySem.W.codeIn K cd qual=true) (k:PySem.W.keepIn K (.ref f)=true):KM K C m qual st:=⟨f,oc,od,sl,kV,dc,pm,an,cd,ct,a,i,l,c,k⟩
section
variable {P:Program}{w:World}{K:PySem.W.Frag}{mg:Str->Option Value}{base:Heap}{cs:List (Str×D)}{bl:List Str}{C:Addr}{tab:Tab}{O:Og}
def IOk(P:Program) (w:World) (K:PySem.W.Frag) (mg:Str->Option Value) (base:Heap) (C:Addr) (k:Nat) (cl:Str):Prop:=∃j f fd ps,j+1<=k/\FnOk P w K mg base CX0 j f fd ps (spI K C)/\Mk K C f/\O9 K fd ps []/\mg cl=some (.ref C)
def NMk(P:Program) (w:World) (K:PySem.W.Frag) (mg:Str->Option Value) (base:Heap) (C:Addr) (k:Nat):Prop:=∃f fd ps,FnOk P w K mg base CX0 k f fd ps (bp5 K C)/\Meth K C "names" f/\O9 K fd ps []
def FOk(P:Program) (w:World) (K:PySem.W.Frag) (mg:Str->Option Value) (base:Heap) (C:Addr) (k:Nat) (nf:List (Str×(List D->Option Fo)×Nat)):Prop:=∀x F n,nf.lookup x=some (F,n)->∃(f:Addr) (fd:FuncData) (ps:List Str),
 FnOk P w K mg base CX0 k f fd ps (bJ0 K C n F)/\mg x=some (.ref f)/\PySem.W.keepIn K (.ref f)=true/\O9 K fd ps []
structure UOk (P:Program) (w:World) (K:PySem.W.Frag) (mg:Str->Option Value) (base:Heap) (C:Addr) (k:Nat) (tab:Tab) (O:Og):Prop where
 t:TOk P w K mg base k tab
 m:MOk P w K mg base C k O.ms
 f:FOk P w K mg base C k O.nf
 i:IOk P w K mg base C k O.cl
 n:NMk P w K mg base C k
theorem UOk.mono(U:UOk P w K mg base C j tab O) (h:j<=k):UOk P w K mg base C k tab O where
 t:=U.t.mono h
 m:=U.m.mono h
 f:=fun x F n e=>by obtain⟨f,fd,ps,h1,h2⟩:=U.f x F n e;exact⟨f,fd,ps,h1.mono h,h2⟩
 i:=by obtain⟨i,f,fd,ps,h1,h2⟩:=U.i;exact⟨i,f,fd,ps,Nat.le_trans h1 h,h2⟩
 n:=by obtain⟨f,fd,ps,h1,h2⟩:=U.n;exact⟨f,fd,ps,h1.mono h,h2⟩
theorem cg3{f:Addr}{cdv:Value}{A:Around}{outer:List Env}{s:Shared}{H:Hp}{E:XK}(M:Md K mg cs bl) (U:UOk P w K mg base C k tab O) (Fc:FoC K C) {d:Fd}(ok:d.okB=true) (hr:Room k (A.deeper (envOfC d.x (B8 d.st) s.heap.objs.size f cdv))) :
  FitU ⟨tab,cs,bl⟩ O C d.c (ab0 CX0 P w K mg base d.N d.x (B8 d.st) f cdv A outer s H E).nox:=by
 have Sc:=Fd.sc ok
 refine⟨⟨⟨rfl,rfl,Sc.nd,rfl,rfl,hr.units,fun _=>⟨fun _=>rfl,Sc.kind⟩,fun x F n h=>?_,M.css,M.bls⟩,Fc,fun m F n h=>?_⟩,fun x F n h=>?_,?_,?_⟩
 ·exact(U.t x F n h).imp (fun⟨f',fd',ps,h1,h2,h3,h4⟩=>⟨k,f',fd',ps,h1,hr,h2,h3,h4⟩) id
 ·obtain⟨f',fd',ps,h1,h2,h3⟩:=U.m m F n h
  exact⟨k,f',fd',ps,h1,hr,h2,h3⟩
 ·obtain⟨f',fd',ps,h1,h2,h3,h4⟩:=U.f x F n h
  exact⟨k,f',fd',ps,h1,hr,h2,h3,h4⟩
 ·obtain⟨j,f',fd',ps,h1,h2,h3,h4,h5⟩:=U.i
  exact⟨j,f',fd',ps,h2,hr.mono h1,h3,h4,h5⟩
 ·obtain⟨f',fd',ps,h1,h2,h3⟩:=U.n
  exact⟨k,f',fd',ps,h1,hr,h2,h3⟩
def rdO(tab:Tab) (cs:List (Str×D)) (bl:List Str) (O:Og) (d:Fd):List D->Option Fo:=bq2 (oB (oS ⟨tab,cs,bl⟩ O d.c 9) (B3 d.st)) d.N.length
def rdU(tab:Tab) (cs:List (Str×D)) (bl:List Str) (O:Og) (d:Fd):FnD:=bq1 (oB (oS ⟨tab,cs,bl⟩ O d.c 9) (B3 d.st)) d.N.length
theorem UOk.addO(U:UOk P w K mg base C k tab O) (M:Md K mg cs bl) (Fc:FoC K C) (d:Fd) (h:KF K d.x d.st) (F:List D->Option Fo) (e:rdO tab cs bl O d=F:=by kernel_rfl) (ok:d.okB=true:=by kernel_rfl) (bd:Bd d:=by repeat (first|exact rfl|intro _)):UOk P w K mg base C (k+1) tab { O with nf:=(d.x,F,d.ps.length)::O.nf }:=by
 subst e
 obtain⟨f,kV,dc,pm,an,cd,ct,Fn,hm⟩:=aC9 h M
 have Sc:=Fd.sc ok
 have V:=U.mono (Nat.le_succ k)
 refine⟨V.t,V.m,fun y G n e=>?_,V.i,V.n⟩
 rw[List.lookup_cons]at e
 split at e
 ·rename_i q
  cases e
  simp only[beq_iff_eq]at q
  subst q
  exact⟨f,_,d.ps,bj3 (N:=d.N) Fn Sc fun cdv A outer s H E hr=>aK3 (bd9 (cg3 M U Fc ok hr) 9) _,hm,Fn.kp,.all (ua (bd kV dc pm an cd ct))⟩
 ·exact V.f y G n e
theorem bf0(M:Md K mg cs bl) (Fc:FoC K C) (U:∀base:Heap,UOk P w K mg base C k tab O) (d:Fd) (h:KF K d.x d.st) (e:rdU tab cs bl O d=F) (hm:mg d.x=some (.ref fa)) (hp:d.ps=[x]:=by rfl) (ok:d.okB=true:=by kernel_rfl) (bd:Bd d:=by repeat (first|exact rfl|intro _)) :
  ∃fd:FuncData,(∀(s:Shared) (u:Value),BindsTo s fd ⟨[u],[]⟩ [(x,u)])/\∀base:Heap,FnOk P w K mg base CX0 (k+1) fa fd [x] (spF K 1 F):=by
 subst e
 obtain⟨f,kV,dc,pm,an,cd,ct,Fn,hm'⟩:=aC9 h M
 cases hm.symm.trans hm'
 have Sc:=Fd.sc ok
 refine⟨PySem.W.fnOf d.x d.x (R3 d.st) (B3 d.st) (B8 d.st) .none kV dc pm an cd ct,fun s u=>.of_eq ?_,fun base=>?_⟩
 ·have:=ua (bd kV dc pm an cd ct) [u] (by rw[hp];rfl)
  rw[hp]at this
  exact this
 ·have:=bj2 (N:=d.N) (ps:=d.ps) (g:=oB (oS ⟨tab,cs,bl⟩ O d.c 9) (B3 d.st)) Fn Sc fun cdv A outer s H E hr=>aK3 (bd9 (cg3 M (U base) Fc ok hr) 9) _
  rw[hp]at this
  exact this
theorem iok(M:Md K mg cs bl) (c:KCl K C cl) (d:Fd) (h:KM K C "__init__" qual d.st) (hx:d.x = "__init__") (hN:d.N=[("self" : Str)]) (hp:d.ps.length=1) (hl:z6 d.c=true)
  (hb:B3 d.st=[.Assign [.Attribute (.Name "self" p1) "sheets" p2] (.Dict [] [] p3) p4,.Assign [.Attribute (.Name "self" p5) "steps_back" p6] (.List [] p7) p8,.Assign [.Attribute (.Name "self" p9) "steps_forth" p10] (.List [] p11) p12])
  (ok:d.okB=true) (bd:BdM d qual):IOk P w K mg base C 2 cl:=by
 obtain⟨f,oc,od,sl,kV,dc,pm,an,cd,ct,a,i,l,cc,kk⟩:=h
 rw[← hx]at l
 have Fn:=ar1 l cc kk
 exact⟨1,f,_,d.ps,Nat.le_refl _,by3 c.foc d hN hp ok hl Fn hb,⟨c.make,a,i,c.kp⟩,.all (ua (bd kV dc pm an cd ct)),M.ns _ _ c.ns⟩
theorem nmk(M:Md K mg cs bl) (T:TOk P w K mg base k tab) (c:KCl K C cl) (d:Fd) (h:KM K C "names" qual d.st) (hx:d.x = "names") (hN:d.N=[("self" : Str)]) (hp:d.ps.length=1) (hl:z6 d.c=true) (hs:biB ⟨tab,cs,bl⟩ d.c "sorted" "sorted" = true)
  (hb:B3 d.st=[.Return (some (.Call (.Name "sorted" p1) [.Attribute (.Name "self" p2) "sheets" p3] [] p4)) p5])
  (ok:d.okB=true) (bd:BdM d qual):NMk P w K mg base C (k+1):=by
 obtain⟨f,oc,od,sl,kV,dc,pm,an,cd,ct,a,i,l,cc,kk⟩:=h
 rw[← hx]at l
 have Fn:=ar1 l cc kk
 exact⟨f,_,d.ps,cd8 M T c.foc d hN hp ok hl hs Fn hb,⟨a,i,kk⟩,.all (ua (bd kV dc pm an cd ct))⟩
theorem MOk.names(Mk:MOk P w K mg base C k ms) (N:NMk P w K mg base C k):MOk P w K mg base C k (("names", Y4,0)::ms):=by
 obtain⟨f,fd,ps,h1,h2,h3⟩:=N
 exact Mk.cons ⟨f,fd,ps,h1.imp cd7,h2,h3⟩
theorem UOk.start{ms:aF7}{cl:Str}(t:TOk P w K mg base j tab) (m:MOk P w K mg base C j ms) (n:NMk P w K mg base C i0) (c:IOk P w K mg base C 2 cl) (h1:i0<=k0) (h2:j<=k0) (h3:2<=k0):UOk P w K mg base C k0 tab ⟨("names", Y4,0)::ms,[],cl⟩:=by
 have n':NMk P w K mg base C k0:=by obtain⟨f,fd,ps,a,b⟩:=n;exact⟨f,fd,ps,a.mono h1,b⟩
 exact⟨t.mono h2,(m.mono h2).names n',(fun x F n e=>by cases e),(by obtain⟨i,f,fd,ps,a,b⟩:=c;exact⟨i,f,fd,ps,Nat.le_trans a h3,b⟩),n'⟩
end
end G
namespace Lk72
open PySem PySem.Spec PyProof.Rows L2 G Sh
def top(i:Nat):Stmt:=PySem.Challenge.pw_glazework_k72_whole_folios.main.body.getD i (.Pass ⟨0,0,0,0⟩)
def V8:DS:=(L3 (bz8 (B4 eqD (dIx (C9 0) ⇑0) (dIx (C9 1) ⇑0)) (B4 eqD (dIx (C9 0) ⇑1) (dIx (C9 1) ⇑1))))
def C0:List D->Option D:=T0 V8 2
def aN5:DS:=(L3 (B1 Q7 (A0 (A4 0) (A0 (B4 y6 (A4 1) ⇑2) (A0 (B4 y6 ⇑1 (B1 J5 (A0 (A4 0) (A0 (A4 1) (A0 ⇑3 A9))))) (A0 (B4 y6 ⇑1 (B1 J5 (A0 (A4 0) (A0 (B4 y6 (A4 1) ⇑1) (A0 ⇑3 A9))))) A9))))))
def at4:List D->Option D:=T0 aN5 2
def an1:UX:=(Q8 (bo6 1 (fun _=>some fo0)) (Q8 (aW5 (ah9 (qE (as0 (A0 (dC (.str "a")) (A0 (dC (.str "b")) (A0 (dC (.str "c")) A9))))) (qE (A4 0))) (V7 2 (M8 (S1 2) (M8 (S1 3) Z5))) (uIf (uTB (uB2 aj6 (uM 1 ad8 (A0 (A4 2) (A0 (A4 3) A9))) (uP (dC (.bool false))))) (N5 (uP (dC .none))) N6)) (uRn 1 (A4 1))))
def T4:List D->Option Fo:=bq2 an1 4
def aY9:UX:=(R5 1 (uP (B1 at4 (A0 (A4 0) (A0 ⇑0 A9)))))
def aY8:UX:=(R5 2 (uP (B4 y6 (as0 (A0 (A4 1) A9)) (as0 (P9 1 [0,1] (aD4 (W4 (A0 ⇑1 (A0 ⇑2 A9)))) (S1 0) T3 (B1 Q7 (A0 (A4 1) (A0 (B4 R7 ⇑150 (A4 0)) (A0 (dIx (C9 2) ⇑0) (A0 (dIx (C9 2) ⇑1) A9))))))))))
def aY7:UX:=(R5 3 (uP (dIx (qN (A0 (dC (.str "over")) (A0 (dC (.str "multiply")) (A0 (dC (.str "screen")) (A0 (dC (.str "plus")) A9))))) (B1 J5 (A0 (A4 0) (A0 ⇑500 (A0 ⇑4 A9)))))))
def aY6:UX:=(bo5 4 5 (fun ρ=>((A0 (A4 2) A9) ρ).bind T4) (fun ρ=>((A0 (A4 2) A9) ρ).bind T4))
def aY5:UX:=(uIf (uTB (uB2 neD (uM 4 (T6 C0 B5) (A0 (A4 3) (A0 (dC (.str "b")) (A0 (dC (.str "c")) A9)))) (uP (B1 B5 (A0 (A4 3) (A0 (dIx (C9 2) ⇑1) (A0 (dIx (C9 2) ⇑2) A9))))))) (N5 (uP (dC (.bool false)))) N6)
def aY4:UX:=(uIf (uTB (uB2 neD (uM 4 J8 (A0 (dC (.str "b")) A9)) (uP (dIx (C9 2) ⇑1)))) (N5 (uP (dC (.bool false)))) N6)
def aY3:UX:=(R5 6 (uM 4 (T6 C0 B5) (A0 (A4 3) (A0 (dC (.str "a")) (A0 (dC (.str "c")) A9)))))
def aY2:UX:=(uEx (uM 5 (T6 C0 B5) (A0 (A4 3) (A0 (dC (.str "a")) (A0 (dC (.str "b")) A9)))))
def aY1:UX:=(uIf (uOr (uTB (uB2 neD (uM 5 (T6 C0 B5) (A0 (A4 3) (A0 (dC (.str "b")) (A0 (dC (.str "c")) A9)))) (uP (A4 6)))) (uTB (uB2 neD (uM 4 J8 (A0 (dC (.str "c")) A9)) (uP (A4 6))))) (N5 (uP (dC (.bool false)))) N6)
def aY0:UX:=(uIf (uTB (uB2 neD (uM 5 J8 (A0 (dC (.str "c")) A9)) (uP (A4 6)))) (N5 (uP (dC (.bool false)))) N6)
def ae5:UX:=(uIf (uTP (tB2 neD (A4 3) (dC (.str "over")))) (Q8 (R5 7 (uP (B1 B5 (A0 (A4 3) (A0 (dIx (C9 2) ⇑0) (A0 (dIx (C9 2) ⇑1) A9)))))) (Q8 (uIf (uOr (uTB (uM 5 ad8 (A0 (dC (.str "x")) (A0 (dIx (C9 2) ⇑0) A9)))) (uTB (uM 5 ad8 (A0 (dC (.str "y")) (A0 (dIx (C9 2) ⇑1) A9))))) (N5 (uP (dC (.bool false)))) N6) (uIf (uTB (uB2 neD (uM 5 (T6 C0 B5) (A0 (A4 3) (A0 (dC (.str "y")) (A0 (dC (.str "x")) A9)))) (uP (A4 7)))) (N5 (uP (dC (.bool false)))) N6))) N6)
def aH8:UX:=(R5 8 (uP (B1 W6 (A0 (dIx (C9 1) ⇑0) (A0 (dIx (C9 1) ⇑1) (A0 (B4 R7 (W4 (A0 (W4 (A0 ⇑0 (A0 ⇑1 A9))) A9)) ⇑4) A9))))))
def aH7:UX:=(uEx (uM 4 ad8 (A0 (dC (.str "clear")) (A0 (A4 8) A9))))
def aH6:UX:=(uIf (uOr (uTB (uB2 neD (uM 4 (T6 C0 B5) (A0 (A4 3) (A0 (dC (.str "clear")) (A0 (dC (.str "a")) A9)))) (uP (dIx (C9 2) ⇑0)))) (uTB (uB2 neD (uM 4 J8 (A0 (dC (.str "clear")) A9)) (uP (A4 8))))) (N5 (uP (dC (.bool false)))) N6)
def aH5:UX:=(R5 9 (uM0 4 Y4))
def aH4:UX:=(U4 4 (dC (.str "zz")))
def aH3:UX:=(uIf (uOr (uTB (uB2 neD (uM0 4 Y4) (uP (A4 9)))) (uTB (uB2 aj6 (uM 4 ad8 (A0 (dC (.str "zz")) (A0 (A4 1) A9))) (uP (dC (.bool false)))))) (N5 (uP (dC (.bool false)))) N6)
def aH2:UX:=(uIf (uTB (uB2 aj6 (uM 4 ad8 (A0 (dC (.str "zz")) (A0 (A4 8) A9))) (uP (dC (.bool true))))) (N5 (uP (dC (.bool false)))) N6)
def aH1:UX:=(uIf (uOr (uTB (uB2 neD (uM 4 J8 (A0 (dC (.str "zz")) A9)) (uP (A4 8)))) (uOr (uTB (uB2 neD (uM 4 aR3 (A0 (dC (.str "zz")) A9)) (uP (A4 8)))) (uTB (uB2 neD (uM0 4 Y4) (uP (A4 9)))))) (N5 (uP (dC (.bool false)))) N6)
def aH0:UX:=(N5 (P0 (uB2 eqD (uM 4 J8 (A0 (dC (.str "b")) A9)) (uP (dIx (C9 2) ⇑1))) (uB2 eqD (uM 4 (T6 C0 B5) (A0 (A4 3) (A0 (dC (.str "b")) (A0 (dC (.str "b")) A9)))) (uP (B1 B5 (A0 (A4 3) (A0 (dIx (C9 2) ⇑1) (A0 (dIx (C9 2) ⇑1) A9))))))))
def aN4:UX:=(Q8 aY9 (Q8 aY8 (Q8 aY7 (Q8 aY6 (Q8 aY5 (Q8 aY4 (Q8 aY3 (Q8 aY2 (Q8 aY1 (Q8 aY0 (Q8 ae5 (Q8 aH8 (Q8 aH7 (Q8 aH6 (Q8 aH5 (Q8 aH4 (Q8 aH3 (Q8 aH2 (Q8 aH1 aH0)))))))))))))))))))
def aA0:List D->Option D:=bq1 aN4 10
end Lk72
namespace Lk72
open PySem G L2 Sh
structure FoIs (o:Fo) (m:List (D×D)) (n:Nat):Prop where
 m:o.m=m
 b:o.b.length=n
theorem aG8{o:Fo}(A:FoIs o m n) (hn:n < 50) (hm:m.length < 50) (w:D) (k:Str) (d:D) (hd:isN d .none=some (.bool false)):∃o',Z4 o [w,.str k,d]=some (.none,o')/\FoIs o' (ag6 m k d) (n+1):=by
 obtain⟨rfl,rfl⟩:=A
 refine⟨⟨ag6 o.m k d,o.b++[.tuple [w,.str k,(K8 o.m k).getD .none,d]],[]⟩,?_,rfl,by simp⟩
 simp only[Z4,aw9,if_pos (show o.b.length < 1000 by omega),hd,xbs,if_pos (show o.m.length < 1000 by omega)]
theorem aa5{o:Fo}(A:FoIs o m n) (hn:n < 50) (hm:m.length < 50) (k:Str) (w h:Nat) (l:List Q4) {t:Bool}(ht:(K8 m k).isSome=t):∃o',ad8 o [.str k,shD w h l]=some (.bool t,o')/\FoIs o' (ag6 m k (shD w h l)) (n+1):=by
 obtain⟨o',e,A'⟩:=aG8 A hn hm (.str "lay") k (shD w h l) rfl
 refine⟨o',?_,A'⟩
 simp only[ad8,e,xms,A.m,ht]
theorem X2{o:Fo}(A:FoIs o m n) (k:Str) (h:K8 m k=some d):J8 o [.str k]=some (d,o):=by simp only[J8,A.m,h,xms]
theorem bM8{o:Fo}(A:FoIs o m n) (hn:n < 50) (k:Str) (h:K8 m k=some d):∃o',aR3 o [.str k]=some (d,o')/\FoIs o' (al8 m k) (n+1):=by
 obtain⟨rfl,rfl⟩:=A
 refine⟨⟨al8 o.m k,o.b++[.tuple [.str "take", .str k,(K8 o.m k).getD .none,.none]],[]⟩,?_,rfl,by simp⟩
 have:isN .none .none=some (.bool true):=rfl
 simp only[aR3,Z4,aw9,h,xbs,if_pos (show o.b.length < 1000 by omega),this,Option.isSome_some,if_true,xms]
theorem U9{o:Fo}(A:FoIs o m n) (hn:n < 50) (hm:m.length < 50) (M:Man) (k j:Str) {K w h:Nat}{a b:List Q4}(S:ShOk K w h a) (T:ShOk K w h b) (hK:K<=1000) (h1:K8 m k=some (shD w h a)) (h2:K8 m j=some (shD w h b)) :
  ∃o',T6 C0 B5 o [.str M.s,.str k,.str j]=some (shD w h (blL M a b),o')/\FoIs o' (ag6 m j (shD w h (blL M a b))) (n+1):=by
 obtain⟨o',e,A'⟩:=aG8 A hn hm (.str "blend") j (shD w h (blL M a b)) rfl
 refine⟨o',?_,A'⟩
 have z:C0 [shD w h a,shD w h b]=some (.bool true):=by
  have i1:eqD (.int w) (.int w)=some (.bool true):=by rw[bz3];simp
  have i2:eqD (.int h) (.int h)=some (.bool true):=by rw[bz3];simp
  refine K6 (ρ:=[‹shD w h a›,‹shD w h b›]) rfl ?_
  wp_walk using evD,V8,shD,i1,i2
 simp only[T6,A.m,h1,h2,xbs,z,(T8 M S T (by omega)).1,e,xms]
theorem P8{f g:UX}(h:f ρ q=some (.nx ρ' q')):Q8 f g ρ q=g ρ' q':=by unfold Q8;rw[h];rfl
theorem aW3{src:Rho->Option (List D)}{g:D->Rho->Option Rho}{f:UX}{ds:List D}(h:src (era ρ)=some ds):aW5 src g f ρ q=af9 g f ds ρ q:=by unfold aW5;rw[h];rfl
theorem upS{j k w h:Nat}{l:List Q4}(S:ShOk j w h l) (e:j<=k):ShOk k w h l:=⟨S.w1,S.w8,S.h1,S.h8,S.len,fun q hq=>(S.ok q hq).mono e⟩
abbrev m3(a b c:D):List (D×D):=[(.str "a", a),(.str "b", b),(.str "c", c)]
theorem lp{m:List (D×D)}{o:Fo}(A:FoIs o m n) (hn:n < 50) (hm:m.length < 50) (S:D) (k:Str) (w h:Nat) (l:List Q4) (ht:K8 m k=none) (x y:Option B):∃o' x' y',FoIs o' (ag6 m k (shD w h l)) (n+1) /\
  ((V7 2 (M8 (S1 2) (M8 (S1 3) Z5))) (.tuple [.str k,shD w h l]) [‹S›,some (.opq 0),x,y]).bind (fun ρ1=>(uIf (uTB (uB2 aj6 (uM 1 ad8 (A0 (A4 2) (A0 (A4 3) A9))) (uP (dC (.bool false))))) (N5 (uP (dC .none))) N6) ρ1 [o])=some (.nx [‹S›,some (.opq 0),x',y'] [o']):=by
 obtain⟨o',e,A'⟩:=aa5 A hn hm k w h l (t:=false) (by rw[ht];rfl)
 refine⟨o',‹.str k›,‹shD w h l›,A',?_⟩
 have nb:aj6 (.bool false) (.bool false)=some (.bool false):=rfl
 wp_walk using evD,List.length_cons,List.length_nil,uIf,uTB,uB2,uM,M5,uP,era,U8,e,nb,V1,N6
theorem bj1{w h:Nat}{a b c:List Q4}:∃o,T4 [.list [shD w h a,shD w h b,shD w h c]]=some o/\FoIs o (m3 (shD w h a) (shD w h b) (shD w h c)) 3:=by
 obtain⟨o1,x1,y1,A1,e1⟩:=lp (o:=fo0) (m:=[]) (n:=0) ⟨rfl,rfl⟩ (by decide) (by decide) (.list [shD w h a,shD w h b,shD w h c]) "a" w h a rfl none none
 obtain⟨o2,x2,y2,A2,e2⟩:=lp A1 (by decide) (by show 1 < 50;decide) (.list [shD w h a,shD w h b,shD w h c]) "b" w h b rfl x1 y1
 obtain⟨o3,x3,y3,A3,e3⟩:=lp A2 (by decide) (by show 2 < 50;decide) (.list [shD w h a,shD w h b,shD w h c]) "c" w h c rfl x2 y2
 refine⟨o3,?_,A3⟩
 have go:an1 (N7 4 [.list [shD w h a,shD w h b,shD w h c]]) []=some (.ro 0 [o3]):=by
  show Q8 (bo6 1 (fun _=>some fo0)) _ [‹.list [shD w h a,shD w h b,shD w h c]›,none,none,none] []=_
  refine(P8 (ρ':=[‹.list [shD w h a,shD w h b,shD w h c]›,some (.opq 0),none,none]) (q':=[fo0]) rfl).trans ?_
  refine(P8 (ρ':=[‹.list [shD w h a,shD w h b,shD w h c]›,some (.opq 0),x3,y3]) (q':=[o3]) ?_).trans rfl
  refine(aW3 (ds:=[.tuple [.str "a", shD w h a],.tuple [.str "b", shD w h b],.tuple [.str "c", shD w h c]]) rfl).trans ?_
  obtain⟨r1,f1,g1⟩:=Option.bind_eq_some_iff.mp e1
  obtain⟨r2,f2,g2⟩:=Option.bind_eq_some_iff.mp e2
  obtain⟨r3,f3,g3⟩:=Option.bind_eq_some_iff.mp e3
  simp only[af9,f1,g1,f2,g2,f3,g3,xbs]
 unfold T4 bq2
 rw[go];rfl
theorem bW7{ns:List Int}(hn:ns.length<=63):∃(w h:Nat) (l:List Q4),at4 [scr ns,.int 0]=some (shD w h l)/\ShOk 8 w h l:=by
 obtain⟨d0,e0,l0⟩:=v9 ns 0 3 hn (by decide) (by decide)
 have e0:J5 [scr ns,.int 0,.int 3]=some (.int d0):=e0
 obtain⟨d1,e1,l1⟩:=v9 ns 1 3 hn (by decide) (by decide)
 have e1:J5 [scr ns,.int 1,.int 3]=some (.int d1):=e1
 obtain⟨l,el,S⟩:=Y5 ns 2 (1+d0) (1+d1) hn (by decide) (by omega) (by omega) (by omega) (by omega)
 have el:Q7 [scr ns,.int 2,.int ((1+d0:Nat):Int),.int ((1+d1:Nat):Int)]=some (shD (1+d0) (1+d1) l):=el
 have k0:(1+(d0:Int))=((1+d0:Nat):Int):=by omega
 have k1:(1+(d1:Int))=((1+d1:Nat):Int):=by omega
 refine⟨1+d0,1+d1,l,K6 (ρ:=[‹scr ns›,‹.int 0›]) rfl ?_,S⟩
 have z0:(0:Int)+1=1:=rfl
 have z2:(0:Int)+2=2:=rfl
 wp_walk using evD,aN5,z0,z2,e0,e1,k0,k1,el
theorem ck9:∀n:Nat,n < 4->∃m:Man,m.four/\atI ([.str "over", .str "multiply", .str "screen", .str "plus"]:List D) (n:Int)=some (.str m.s)
 | 0,_=>⟨.over,.inl rfl,rfl⟩
 | 1,_=>⟨.mult,.inr (.inl rfl),rfl⟩
 | 2,_=>⟨.screen,.inr (.inr (.inl rfl)),rfl⟩
 | 3,_=>⟨.plus,.inr (.inr (.inr rfl)),rfl⟩
def aX0(m:Man):Prop:=m=.mult\/m=.screen\/m=.plus
theorem bA5{m:Man}(f:aX0 m) {a b:Q4}:m.bl a b=m.bl b a:=by
 have cov:∀{c d:Rat},m.cov c d=m.cov d c:=fun{c d}=>by
  rcases f with rfl|rfl|rfl<;>simp only[Man.cov,y8]<;>grind
 have col:∀{c d x y:Rat},m.col c d x y=m.col d c y x:=fun{c d x y}=>by
  rcases f with rfl|rfl|rfl<;>simp only[Man.col,y8]<;>grind
 unfold Man.bl
 simp only[Q4.mk.injEq]
 exact⟨cov,col,col,col⟩
theorem ne3{m:Man}(f:m.four):∃t,neD (.str m.s) (.str "over")=some (.bool t)/\(t=true->aX0 m):=by
 rcases f with rfl|rfl|rfl|rfl
 ·exact⟨false,by kernel_rfl,fun z=>by cases z⟩
 ·exact⟨true,by kernel_rfl,fun _=>.inl rfl⟩
 ·exact⟨true,by kernel_rfl,fun _=>.inr (.inl rfl)⟩
 ·exact⟨true,by kernel_rfl,fun _=>.inr (.inr rfl)⟩
section
variable {w h:Nat}{a b c:List Q4}
theorem lor(S:ShOk k w h a) (x y:Int) (hk:1<=k):(atQ w h a x y).or:=(bW6 S hk x y).or
theorem cm9{M:Man}(f:M.four) (S:ShOk 8 w h a) (T:ShOk 8 w h b) (U:ShOk 8 w h c):blL M (blL M a b) c=blL M a (blL M b c):=by
 have s1:=(T8 M S T (by decide)).2
 have s2:=(T8 M T U (by decide)).2
 have s3:=(T8 M s1 (upS U (by decide)) (by decide)).2
 have s4:=(T8 M (upS S (by decide)) s2 (by decide)).2
 refine aB5 s3 s4 fun x y _=>?_
 rw[ai8 M s1 U,ai8 M S T,ai8 M S s2,ai8 M T U]
 exact bl9 f (lor S x y (by decide)) (lor T x y (by decide)) (lor U x y (by decide))
theorem cl9{M:Man}(f:aX0 M) (S:ShOk 8 w h a) (T:ShOk 8 w h b):blL M b a=blL M a b:=by
 refine aB5 (T8 M T S (by decide)).2 (T8 M S T (by decide)).2 fun x y _=>?_
 rw[ai8 M T S,ai8 M S T]
 exact bA5 f
abbrev clQ(w h:Nat):List Q4:=List.replicate (w*h) q0
theorem clr(S:ShOk 8 w h a):ShOk 8 w h (clQ w h):=⟨S.w1,S.w8,S.h1,S.h8,by simp,fun q hq=>by rw[(List.mem_replicate.mp hq).2];exact ba1 (by decide)⟩
theorem ch4(x y:Int):atQ w h (clQ w h) x y=q0:=by
 unfold atQ
 split
 ·rw[List.getD_eq_getElem?_getD,List.getElem?_replicate];split<;>rfl
 ·rfl
theorem clL(M:Man) (S:ShOk 8 w h a):blL M (clQ w h) a=a:=by
 refine aB5 (T8 M (clr S) S (by decide)).2 S fun x y _=>?_
 rw[ai8 M (clr S) S,ch4]
 exact cb7 M (lor S x y (by decide))
end
theorem aR0(x:D) {n:Nat}(h1:1<=n) (h2:n<=1000):R7 (.tuple [x]) (.int n)=some (.tuple (List.replicate n x)):=by
 show(if(n:Int)=1 then some (PyData.tuple [x]) else T1 (.tuple [x]) (.int n))=_
 by_cases e:n=1
 ·subst e;rfl
 ·rw[if_neg (by omega)]
  show(if([x]:List D).isEmpty=false/\2<=(n:Int)/\(n:Int) < 1000000/\([x]:List D).length*((n:Int)).toNat<=16777216 then some (PyData.tuple (List.replicate ((n:Int)).toNat [x]).flatten) else none)=_
  rw[Int.toNat_natCast,if_pos ⟨rfl,by omega,by omega,by show 1*n<=_;omega⟩,Sh.U5]
theorem nes(w h:Nat) (l:List Q4):neD (shD w h l) (shD w h l)=some (.bool false):=bu6 (Ly.sheet ..) (by decide)
theorem eqs(w h:Nat) (l:List Q4):eqD (shD w h l) (shD w h l)=some (.bool true):=bz4 (Ly.sheet ..) (by decide)
abbrev nm4:List D:=[.str "a", .str "b", .str "c", .str "clear"]
theorem ck0:aj4 nm4=some nm4:=by kernel_rfl
theorem ne4:neD (.list nm4) (.list nm4)=some (.bool false):=by kernel_rfl
abbrev enF(ns:List Int) (w h:Nat) (a b c:List Q4) (M:Man) (r:Rho):Rho:=‹scr ns›::‹shD w h a›::‹.list [shD w h a,shD w h b,shD w h c]›::‹.str M.s›::some (.opq 0)::some (.opq 1)::r
section
variable {ns:List Int}{w h:Nat}{a b c:List Q4}{M:Man}{o p:Fo}
theorem cj9(f:M.four) (S:ShOk 8 w h a) (T:ShOk 8 w h b) {t:List Q4}{u:D}(P:FoIs p (m3 (shD w h a) (shD w h u') (shD w h t)) 5):∃x p',ae5 (enF ns w h a b c M [‹u›,none,none,none]) [o,p]=some (.nx (enF ns w h a b c M [‹u›,x,none,none]) [o,p']):=by
 obtain⟨t,e,g⟩:=ne3 f
 cases t with
 | false =>
  refine⟨none,p,?_⟩
  wp_walk using evD,ae5,R5,uEx,N5,uIf,uTB,uTP,uOr,uB2,uM,uM0,uP,P0,N6,U4,M5,era,U8,V1,e
 | true =>
  have g:=g rfl
  obtain⟨p1,e1,P1⟩:=aa5 P (by decide) (by show 3 < 50;decide) "x" w h a (t:=false) rfl
  obtain⟨p2,e2,P2⟩:=aa5 P1 (by decide) (by show 4 < 50;decide) "y" w h b (t:=false) rfl
  obtain⟨p3,e3,P3⟩:=U9 P2 (by decide) (by show 5 < 50;decide) M "y" "x" T S (by decide) rfl rfl
  rw[cl9 g S T]at e3
  have e0:=(T8 M S T (by decide)).1
  have n1:=nes w h (blL M a b)
  refine⟨‹shD w h (blL M a b)›,p3,?_⟩
  wp_walk using evD,ae5,Q8,R5,uEx,N5,uIf,uTB,uTP,uOr,uB2,uM,uM0,uP,P0,N6,U4,M5,era,U8,V1,e,e0,e1,e2,e3,n1
theorem main(ns:List Int) (hn:ns.length<=63):aA0 [.list (ns.map PyData.int)]=some (.bool true):=by
 obtain⟨w,h,a,ea,S⟩:=bW7 hn
 have h1:=S.h1
 have w1:=S.w1
 obtain⟨b,eb,T⟩:=Y5 ns 150 w h hn (by decide) S.w1 S.w8 S.h1 S.h8
 have eb:Q7 [scr ns,.int 150,.int w,.int h]=some (shD w h b):=eb
 obtain⟨c,ec,U⟩:=Y5 ns 300 w h hn (by decide) S.w1 S.w8 S.h1 S.h8
 have ec:Q7 [scr ns,.int 300,.int w,.int h]=some (shD w h c):=ec
 obtain⟨d,ed,ld⟩:=v9 ns 500 4 hn (by decide) (by decide)
 have ed:J5 [scr ns,.int 500,.int 4]=some (.int d):=ed
 obtain⟨M,f,em⟩:=ck9 d ld
 obtain⟨o,eo,O⟩:=bj1 (w:=w) (h:=h) (a:=a) (b:=b) (c:=c)
 have b1:=T8 M T U (by decide)
 have b2:=T8 M S T (by decide)
 have b3:=T8 M T T (by decide)
 obtain⟨o1,e1,O1⟩:=U9 O (by decide) (by show 3 < 50;decide) M "b" "c" T U (by decide) rfl rfl
 have g1:J8 o1 [.str "b"]=some (shD w h b,o1):=X2 O1 "b" rfl
 obtain⟨o2,e2,O2⟩:=U9 O1 (by decide) (by show 3 < 50;decide) M "a" "c" (upS S (k:=52) (by decide)) b1.2 (by decide) rfl rfl
 obtain⟨p1,e3,P1⟩:=U9 O (by decide) (by show 3 < 50;decide) M "a" "b" S T (by decide) rfl rfl
 obtain⟨p2,e4,P2⟩:=U9 P1 (by decide) (by show 3 < 50;decide) M "b" "c" b2.2 (upS U (k:=52) (by decide)) (by decide) rfl rfl
 rw[cm9 f S T U]at e4 P2
 have g2:J8 o2 [.str "c"]=some (shD w h (blL M a (blL M b c)),o2):=X2 O2 "c" rfl
 have g3:J8 p2 [.str "c"]=some (shD w h (blL M a (blL M b c)),p2):=X2 P2 "c" rfl
 obtain⟨x,p3,s10⟩:=cj9 (ns:=ns) (c:=c) (o:=o2) (u:=shD w h (blL M a (blL M b c))) f S T P2
 have ecl:W6 [.int w,.int h,.tuple [.tuple [.int 0,.int 1],.tuple [.int 0,.int 1],.tuple [.int 0,.int 1],.tuple [.int 0,.int 1]]]=some (shD w h (clQ w h)):=by
  have wh:w*h<=64:=Nat.mul_le_mul S.w8 S.h8
  have ab1:1<=w*h:=Nat.mul_pos w1 h1
  have mab:R7 (.int w) (.int h)=some (.int ((w*h:Nat):Int)):=u5 (by have:=S.w8;omega) (by have:=S.h8;omega)
  refine K6 (ρ:=[‹.int w›,‹.int h›,‹q0.d›]) rfl ?_
  wp_walk using evD,i9,mab,aR0 _ ab1 (show w*h<=1000 by omega),shD,List.map_replicate
 obtain⟨o3,e5,O3⟩:=aa5 O2 (by decide) (by show 3 < 50;decide) "clear" w h (clQ w h) (t:=false) rfl
 obtain⟨o4,e6,O4⟩:=U9 O3 (by decide) (by show 4 < 50;decide) M "clear" "a" (clr S) S (by decide) rfl rfl
 rw[clL M S]at e6 O4
 have g4:J8 o4 [.str "clear"]=some (shD w h (clQ w h),o4):=X2 O4 "clear" rfl
 have nn:∀{o:Fo}{m:List (D×D)}{n:Nat},FoIs o m n->m.map (·.1)=nm4->aj4 (o.m.map (·.1))=some nm4/\Y4 o []=some (.list nm4,o):=fun{o m n} A e=>by
  have:aj4 (o.m.map (·.1))=some nm4:=by rw[A.m,e];exact ck0
  exact⟨this,by unfold Y4;dsimp only;rw[this];rfl⟩
 obtain⟨n1,n2⟩:=nn O4 rfl
 obtain⟨o5,e7,O5⟩:=aa5 O4 (by decide) (by show 4 < 50;decide) "zz" w h a (t:=false) rfl
 obtain⟨o6,e8,O6⟩:=aa5 O5 (by decide) (by show 5 < 50;decide) "zz" w h (clQ w h) (t:=true) rfl
 have g5:J8 o6 [.str "zz"]=some (shD w h (clQ w h),o6):=X2 O6 "zz" rfl
 obtain⟨o7,e9,O7⟩:=bM8 O6 (by decide) "zz" (d:=shD w h (clQ w h)) rfl
 obtain⟨n3,n4⟩:=nn O7 rfl
 have g6:J8 o7 [.str "b"]=some (shD w h b,o7):=X2 O7 "b" rfl
 obtain⟨o8,e10,O8⟩:=U9 O7 (by decide) (by show 4 < 50;decide) M "b" "b" T T (by decide) rfl rfl
 have i0:atI [shD w h a,shD w h b,shD w h c] 0=some (shD w h a):=rfl
 have i1:atI [shD w h a,shD w h b,shD w h c] 1=some (shD w h b):=rfl
 have i2:atI [shD w h a,shD w h b,shD w h c] 2=some (shD w h c):=rfl
 have j0:atI ([.int w,.int h,.tuple (a.map Q4.d)]:List D) 0=some (.int w):=rfl
 have j1:atI ([.int w,.int h,.tuple (a.map Q4.d)]:List D) 1=some (.int h):=rfl
 have m4:R7 (.tuple [.tuple [.int 0,.int 1]]) (.int 4)=some (.tuple [.tuple [.int 0,.int 1],.tuple [.int 0,.int 1],.tuple [.int 0,.int 1],.tuple [.int 0,.int 1]]):=by kernel_rfl
 have nb0:aj6 (.bool false) (.bool false)=some (.bool false):=rfl
 have nb1:aj6 (.bool true) (.bool true)=some (.bool false):=rfl
 have go:aN4 (N7 10 [scr ns]) []=some (.rt (.bool true) [o8,p3]):=by
  show aN4 [‹scr ns›,none,none,none,none,none,none,none,none,none] []=_
  unfold aN4
  refine(P8 (ρ':=[‹scr ns›,‹shD w h a›,none,none,none,none,none,none,none,none]) (q':=[]) (by wp_walk using evD,aY9,R5,uEx,N5,uIf,uTB,uTP,uOr,uB2,uM,uM0,uP,P0,N6,U4,M5,era,U8,V1,ea)).trans ?_
  refine(P8 (ρ':=[‹scr ns›,‹shD w h a›,‹.list [shD w h a,shD w h b,shD w h c]›,none,none,none,none,none,none,none]) (q':=[]) ?_).trans ?_
  ·have cc:P9 1 [0,1] (aD4 (W4 (A0 ⇑1 (A0 ⇑2 A9)))) (S1 0) T3 (B1 Q7 (A0 (A4 1) (A0 (B4 R7 ⇑150 (A4 0)) (A0 (dIx (C9 2) ⇑0) (A0 (dIx (C9 2) ⇑1) A9))))) [‹scr ns›,‹shD w h a›,none,none,none,none,none,none,none,none]=some [shD w h b,shD w h c]:=by
    have k1:R7 (.int 150) (.int 1)=some (.int 150):=by kernel_rfl
    have k2:R7 (.int 150) (.int 2)=some (.int 300):=by kernel_rfl
    simp only[shD]at eb ec ⊢
    wp_walk using evC,k1,k2,eb,ec
    rfl
   have ct:y6 (.list [shD w h a]) (.list [shD w h b,shD w h c])=some (.list [shD w h a,shD w h b,shD w h c]):=rfl
   wp_walk using evD,aY8,R5,uEx,N5,uIf,uTB,uTP,uOr,uB2,uM,uM0,uP,P0,N6,U4,M5,era,U8,V1,cc,ct
  refine(P8 (ρ':=[‹scr ns›,‹shD w h a›,‹.list [shD w h a,shD w h b,shD w h c]›,‹.str M.s›,none,none,none,none,none,none]) (q':=[]) (by wp_walk using evD,aY7,R5,uEx,N5,uIf,uTB,uTP,uOr,uB2,uM,uM0,uP,P0,N6,U4,M5,era,U8,V1,ed,em)).trans ?_
  refine(P8 (ρ':=enF ns w h a b c M [none,none,none,none]) (q':=[o,o]) ?_).trans ?_
  ·wp_walk using evD,aY6,bo5,era,U8,eo;rfl
  refine(P8 (ρ':=enF ns w h a b c M [none,none,none,none]) (q':=[o1,o]) (by wp_walk using evD,aY5,R5,uEx,N5,uIf,uTB,uTP,uOr,uB2,uM,uM0,uP,P0,N6,U4,M5,era,U8,V1,e1,b1.1,i1,i2,nes)).trans ?_
  refine(P8 (ρ':=enF ns w h a b c M [none,none,none,none]) (q':=[o1,o]) (by wp_walk using evD,aY4,R5,uEx,N5,uIf,uTB,uTP,uOr,uB2,uM,uM0,uP,P0,N6,U4,M5,era,U8,V1,g1,i1,nes)).trans ?_
  refine(P8 (ρ':=enF ns w h a b c M [‹shD w h (blL M a (blL M b c))›,none,none,none]) (q':=[o2,o]) (by wp_walk using evD,aY3,R5,uEx,N5,uIf,uTB,uTP,uOr,uB2,uM,uM0,uP,P0,N6,U4,M5,era,U8,V1,e2)).trans ?_
  refine(P8 (ρ':=enF ns w h a b c M [‹shD w h (blL M a (blL M b c))›,none,none,none]) (q':=[o2,p1]) (by wp_walk using evD,aY2,R5,uEx,N5,uIf,uTB,uTP,uOr,uB2,uM,uM0,uP,P0,N6,U4,M5,era,U8,V1,e3)).trans ?_
  refine(P8 (ρ':=enF ns w h a b c M [‹shD w h (blL M a (blL M b c))›,none,none,none]) (q':=[o2,p2]) (by wp_walk using evD,aY1,R5,uEx,N5,uIf,uTB,uTP,uOr,uB2,uM,uM0,uP,P0,N6,U4,M5,era,U8,V1,e4,g2,nes)).trans ?_
  refine(P8 (ρ':=enF ns w h a b c M [‹shD w h (blL M a (blL M b c))›,none,none,none]) (q':=[o2,p2]) (by wp_walk using evD,aY0,R5,uEx,N5,uIf,uTB,uTP,uOr,uB2,uM,uM0,uP,P0,N6,U4,M5,era,U8,V1,g3,nes)).trans ?_
  refine(P8 s10).trans ?_
  refine(P8 (ρ':=enF ns w h a b c M [‹shD w h (blL M a (blL M b c))›,x,‹shD w h (clQ w h)›,none]) (q':=[o2,p3]) (by wp_walk using evD,aH8,shD,R5,uEx,N5,uIf,uTB,uTP,uOr,uB2,uM,uM0,uP,P0,N6,U4,M5,era,U8,V1,j0,j1,m4,ecl;rfl)).trans ?_
  refine(P8 (ρ':=enF ns w h a b c M [‹shD w h (blL M a (blL M b c))›,x,‹shD w h (clQ w h)›,none]) (q':=[o3,p3]) (by wp_walk using evD,aH7,R5,uEx,N5,uIf,uTB,uTP,uOr,uB2,uM,uM0,uP,P0,N6,U4,M5,era,U8,V1,e5)).trans ?_
  refine(P8 (ρ':=enF ns w h a b c M [‹shD w h (blL M a (blL M b c))›,x,‹shD w h (clQ w h)›,none]) (q':=[o4,p3]) (by wp_walk using evD,aH6,R5,uEx,N5,uIf,uTB,uTP,uOr,uB2,uM,uM0,uP,P0,N6,U4,M5,era,U8,V1,e6,g4,i0,nes)).trans ?_
  refine(P8 (ρ':=enF ns w h a b c M [‹shD w h (blL M a (blL M b c))›,x,‹shD w h (clQ w h)›,‹.list nm4›]) (q':=[o4,p3]) (by wp_walk using evD,aH5,R5,uEx,N5,uIf,uTB,uTP,uOr,uB2,uM,uM0,uP,P0,N6,U4,M5,era,U8,V1,n2)).trans ?_
  refine(P8 (ρ':=enF ns w h a b c M [‹shD w h (blL M a (blL M b c))›,x,‹shD w h (clQ w h)›,‹.list nm4›]) (q':=[o4,p3]) (by simp only[aH4,U4,M5,era,U8,dC,xg0,xg1,xbs,xms,n1])).trans ?_
  refine(P8 (ρ':=enF ns w h a b c M [‹shD w h (blL M a (blL M b c))›,x,‹shD w h (clQ w h)›,‹.list nm4›]) (q':=[o5,p3]) (by wp_walk using evD,aH3,R5,uEx,N5,uIf,uTB,uTP,uOr,uB2,uM,uM0,uP,P0,N6,U4,M5,era,U8,V1,n2,e7,ne4,nb0)).trans ?_
  refine(P8 (ρ':=enF ns w h a b c M [‹shD w h (blL M a (blL M b c))›,x,‹shD w h (clQ w h)›,‹.list nm4›]) (q':=[o6,p3]) (by wp_walk using evD,aH2,R5,uEx,N5,uIf,uTB,uTP,uOr,uB2,uM,uM0,uP,P0,N6,U4,M5,era,U8,V1,e8,nb1)).trans ?_
  refine(P8 (ρ':=enF ns w h a b c M [‹shD w h (blL M a (blL M b c))›,x,‹shD w h (clQ w h)›,‹.list nm4›]) (q':=[o7,p3]) (by wp_walk using evD,aH1,R5,uEx,N5,uIf,uTB,uTP,uOr,uB2,uM,uM0,uP,P0,N6,U4,M5,era,U8,V1,g5,e9,n4,nes,ne4)).trans ?_
  wp_walk using evD,aH0,R5,uEx,N5,uIf,uTB,uTP,uOr,uB2,uM,uM0,uP,P0,N6,U4,M5,era,U8,V1,g6,e10,b3.1,i1,eqs
 unfold aA0 bq1
 rw[show(PyData.list (ns.map PyData.int))=scr ns from rfl,go]
 rfl
end
end Lk72
namespace Lk72
open PySem PySem.Spec PyProof.Rows L2 G Sh
def zcs:List (Str×D):=[("ONE", (.tuple [(.int 1),(.int 1)]))]
def zbl:List Str:=["len", "range", "sorted", "tuple", "zip"]
def tb0:Tab:=[]
def aa7:Fd:=fdm "common_divisor" (top 7) 2 ["one", "other", "left_over"] true
def ar7:Fd:=fdm "least_form" (top 8) 2 ["top", "under", "divisor"] true
def ar8:Fd:=fdm "is_at_most" (top 9) 2 ["one", "other"] true
def bz7:Fd:=fdm "added" (top 10) 2 ["one", "other"] true
def aE0:Fd:=fdm "lessened" (top 11) 2 ["one", "other"] true
def bz5:Fd:=fdm "times" (top 12) 2 ["one", "other"] true
def aT6:Fd:=fdm "rest_of" (top 13) 1 ["share"] true
def aj9:Fd:=fdm "at_most_one" (top 14) 1 ["fraction"] true
def ae1:Fd:=fdm "blended_cover" (top 16) 3 ["manner", "c", "d"] true
def aa9:Fd:=fdm "blended_colour" (top 17) 5 ["manner", "c", "d", "x", "y", "through"] true
def aU3:Fd:={ fdm "blended" (top 18) 3 ["manner", "above", "below", "c", "d", "colours"] true with hc:=[((59,14),[0,3,4])] }
def x8:Fd:=fdm "are_of_one_size" (top 20) 2 ["one", "other"]
def aj8:Fd:=fdm "plain_sheet" (top 21) 3 ["wide", "high", "spot"]
def aa8:Fd:={ fdm "blended_sheets" (top 22) 3 ["manner", "above", "below", "spots"] with hc:=[((67,12),[0])] }
def bk6:Fd:=fdm "_law_cell" (top 26) 2 ["_law_script", "_law_k"] true
def aU1:Fd:=fdm "_law_drawn" (top 27) 3 ["_law_script", "_law_k", "_law_many", "_law_cell_here"] true
def bk5:Fd:=fdm "_law_made" (top 28) 2 ["_law_top", "_law_under", "_law_one", "_law_by"] true
def aT7:Fd:=fdm "_law_times" (top 29) 2 ["_law_one", "_law_other"] true
def aT9:Fd:=fdm "_law_share" (top 30) 2 ["_law_script", "_law_at", "_law_under", "_law_drawn_here"] true
def bk4:Fd:={ fdm "_law_spot" (top 31) 2 ["_law_script", "_law_at", "_law_cover"] true with hc:=[((149,33),[2,0,1])] }
def aT8:Fd:={ fdm "_law_sheet" (top 32) 4 ["_law_script", "_law_at", "_law_wide", "_law_high", "_law_spots"] with hc:=[((151,17),[0,1])] }
def bz6:Fd:=fdm "_law_any" (top 33) 2 ["_law_script", "_law_at"]
def aU0:Fd:=fdm "_law_folio" (top 34) 1 ["_law_sheets", "_law_folio_here", "_law_name", "_law_sheet_here"]
def bD5:Fd:={ fdm "law" (top 35) 1 ["_law_script", "_law_first", "_law_sheets", "_law_manner", "_law_one", "_law_other", "_law_told", "_law_both", "_law_clear", "_law_some"] with hc:=[((165,33),[0,1])] }
def mth(j:Nat):Stmt:=(cm0 (top 24)).getD j (.Pass ⟨0,0,0,0⟩)
def aT3:Fd:=fdm "__init__" (mth 0) 1 ["self"]
theorem aV6:B3 (mth 0)=[.Assign [(.Attribute (.Name "self" ⟨73,8,73,12⟩) "sheets" ⟨73,8,73,19⟩)] (.Dict [] [] ⟨73,22,73,24⟩) ⟨73,8,73,24⟩,.Assign [(.Attribute (.Name "self" ⟨74,8,74,12⟩) "steps_back" ⟨74,8,74,23⟩)] (.List [] ⟨74,26,74,28⟩) ⟨74,8,74,28⟩,.Assign [(.Attribute (.Name "self" ⟨75,8,75,12⟩) "steps_forth" ⟨75,8,75,24⟩)] (.List [] ⟨75,27,75,29⟩) ⟨75,8,75,29⟩]:=by kernel_rfl
def ar6:Fd:=fdm "set_sheet" (mth 1) 3 ["self", "name", "sheet"]
theorem at0:B3 (mth 1)=[.If (.Compare (.Name "sheet" ⟨78,11,78,16⟩) [.Is] [(.Constant .none 0 ⟨78,20,78,24⟩)] ⟨78,11,78,24⟩) [.Expr (.Call (.Attribute (.Attribute (.Name "self" ⟨79,12,79,16⟩) "sheets" ⟨79,12,79,23⟩) "pop" ⟨79,12,79,27⟩) [(.Name "name" ⟨79,28,79,32⟩)] [] ⟨79,12,79,33⟩) ⟨79,12,79,33⟩] [.Assign [(.Subscript (.Attribute (.Name "self" ⟨81,12,81,16⟩) "sheets" ⟨81,12,81,23⟩) (.Name "name" ⟨81,24,81,28⟩) ⟨81,12,81,29⟩)] (.Name "sheet" ⟨81,32,81,37⟩) ⟨81,12,81,37⟩] ⟨78,8,81,37⟩]:=by kernel_rfl
def ar5:Fd:=fdm "take_step" (mth 2) 4 ["self", "word", "name", "sheet"]
theorem as9:B3 (mth 2)=[.Expr (.Call (.Attribute (.Attribute (.Name "self" ⟨84,8,84,12⟩) "steps_back" ⟨84,8,84,23⟩) "append" ⟨84,8,84,30⟩) [(.Tuple [(.Name "word" ⟨84,32,84,36⟩),(.Name "name" ⟨84,38,84,42⟩),(.Call (.Attribute (.Attribute (.Name "self" ⟨84,44,84,48⟩) "sheets" ⟨84,44,84,55⟩) "get" ⟨84,44,84,59⟩) [(.Name "name" ⟨84,60,84,64⟩)] [] ⟨84,44,84,65⟩),(.Name "sheet" ⟨84,67,84,72⟩)] 0 ⟨84,31,84,73⟩)] [] ⟨84,8,84,74⟩) ⟨84,8,84,74⟩,.Assign [(.Attribute (.Name "self" ⟨85,8,85,12⟩) "steps_forth" ⟨85,8,85,24⟩)] (.List [] ⟨85,27,85,29⟩) ⟨85,8,85,29⟩,.Expr (.Call (.Attribute (.Name "self" ⟨86,8,86,12⟩) "set_sheet" ⟨86,8,86,22⟩) [(.Name "name" ⟨86,23,86,27⟩),(.Name "sheet" ⟨86,29,86,34⟩)] [] ⟨86,8,86,35⟩) ⟨86,8,86,35⟩]:=by kernel_rfl
def bU3:Fd:=fdm "lay" (mth 3) 3 ["self", "name", "sheet", "was_there"]
theorem bV8:B3 (mth 3)=[.Assign [(.Name "was_there" ⟨89,8,89,17⟩)] (.Compare (.Name "name" ⟨89,20,89,24⟩) [.In] [(.Attribute (.Name "self" ⟨89,28,89,32⟩) "sheets" ⟨89,28,89,39⟩)] ⟨89,20,89,39⟩) ⟨89,8,89,39⟩,.Expr (.Call (.Attribute (.Name "self" ⟨90,8,90,12⟩) "take_step" ⟨90,8,90,22⟩) [(.Constant (.str "lay") 0 ⟨90,23,90,28⟩),(.Name "name" ⟨90,30,90,34⟩),(.Name "sheet" ⟨90,36,90,41⟩)] [] ⟨90,8,90,42⟩) ⟨90,8,90,42⟩,.Return (some (.Name "was_there" ⟨91,15,91,24⟩)) ⟨91,8,91,24⟩]:=by kernel_rfl
def bk1:Fd:=fdm "fetch" (mth 4) 2 ["self", "name"]
theorem bl6:B3 (mth 4)=[.If (.Compare (.Name "name" ⟨94,11,94,15⟩) [.NotIn] [(.Attribute (.Name "self" ⟨94,23,94,27⟩) "sheets" ⟨94,23,94,34⟩)] ⟨94,11,94,34⟩) (ifB (B3 (mth 4)) 0) [] ⟨94,8,95,61⟩,.Return (some (.Subscript (.Attribute (.Name "self" ⟨96,15,96,19⟩) "sheets" ⟨96,15,96,26⟩) (.Name "name" ⟨96,27,96,31⟩) ⟨96,15,96,32⟩)) ⟨96,8,96,32⟩]:=by kernel_rfl
def ay2:Fd:=fdm "take_off" (mth 5) 2 ["self", "name", "sheet"]
theorem az5:B3 (mth 5)=[.Assign [(.Name "sheet" ⟨99,8,99,13⟩)] (.Call (.Attribute (.Name "self" ⟨99,16,99,20⟩) "fetch" ⟨99,16,99,26⟩) [(.Name "name" ⟨99,27,99,31⟩)] [] ⟨99,16,99,32⟩) ⟨99,8,99,32⟩,.Expr (.Call (.Attribute (.Name "self" ⟨100,8,100,12⟩) "take_step" ⟨100,8,100,22⟩) [(.Constant (.str "take") 0 ⟨100,23,100,29⟩),(.Name "name" ⟨100,31,100,35⟩),(.Constant .none 0 ⟨100,37,100,41⟩)] [] ⟨100,8,100,42⟩) ⟨100,8,100,42⟩,.Return (some (.Name "sheet" ⟨101,15,101,20⟩)) ⟨101,8,101,20⟩]:=by kernel_rfl
def bk2:Fd:=fdm "blend" (mth 6) 4 ["self", "manner", "above", "below", "upper", "lower", "sheet"]
theorem bl7:B3 (mth 6)=[.Assign [(.Name "upper" ⟨104,8,104,13⟩)] (.Call (.Attribute (.Name "self" ⟨104,16,104,20⟩) "fetch" ⟨104,16,104,26⟩) [(.Name "above" ⟨104,27,104,32⟩)] [] ⟨104,16,104,33⟩) ⟨104,8,104,33⟩,.Assign [(.Name "lower" ⟨105,8,105,13⟩)] (.Call (.Attribute (.Name "self" ⟨105,16,105,20⟩) "fetch" ⟨105,16,105,26⟩) [(.Name "below" ⟨105,27,105,32⟩)] [] ⟨105,16,105,33⟩) ⟨105,8,105,33⟩,.If (.UnaryOp .Not (.Call (.Name "are_of_one_size" ⟨106,15,106,30⟩) [(.Name "upper" ⟨106,31,106,36⟩),(.Name "lower" ⟨106,38,106,43⟩)] [] ⟨106,15,106,44⟩) ⟨106,11,106,44⟩) (ifB (B3 (mth 6)) 2) [] ⟨106,8,107,59⟩,.Assign [(.Name "sheet" ⟨108,8,108,13⟩)] (.Call (.Name "blended_sheets" ⟨108,16,108,30⟩) [(.Name "manner" ⟨108,31,108,37⟩),(.Name "upper" ⟨108,39,108,44⟩),(.Name "lower" ⟨108,46,108,51⟩)] [] ⟨108,16,108,52⟩) ⟨108,8,108,52⟩,.Expr (.Call (.Attribute (.Name "self" ⟨109,8,109,12⟩) "take_step" ⟨109,8,109,22⟩) [(.Constant (.str "blend") 0 ⟨109,23,109,30⟩),(.Name "below" ⟨109,32,109,37⟩),(.Name "sheet" ⟨109,39,109,44⟩)] [] ⟨109,8,109,45⟩) ⟨109,8,109,45⟩,.Return (some (.Name "sheet" ⟨110,15,110,20⟩)) ⟨110,8,110,20⟩]:=by kernel_rfl
def bk0:Fd:=fdm "names" (mth 7) 1 ["self"]
theorem bl5:B3 (mth 7)=[.Return (some (.Call (.Name "sorted" ⟨113,15,113,21⟩) [(.Attribute (.Name "self" ⟨113,22,113,26⟩) "sheets" ⟨113,22,113,33⟩)] [] ⟨113,15,113,34⟩)) ⟨113,8,113,34⟩]:=by kernel_rfl
structure Ms (K:PySem.W.Frag) (C:Addr):Prop where
 m_init__:KM K C "__init__" "Folio.__init__" (mth 0)
 m_set_sheet:KM K C "set_sheet" "Folio.set_sheet" (mth 1)
 m_take_step:KM K C "take_step" "Folio.take_step" (mth 2)
 m_lay:KM K C "lay" "Folio.lay" (mth 3)
 m_fetch:KM K C "fetch" "Folio.fetch" (mth 4)
 m_take_off:KM K C "take_off" "Folio.take_off" (mth 5)
 m_blend:KM K C "blend" "Folio.blend" (mth 6)
 m_names:KM K C "names" "Folio.names" (mth 7)
structure Qs (K:PySem.W.Frag):Prop where
 h_common_divisor:KF K "common_divisor" (top 7)
 h_least_form:KF K "least_form" (top 8)
 h_is_at_most:KF K "is_at_most" (top 9)
 h_added:KF K "added" (top 10)
 h_lessened:KF K "lessened" (top 11)
 h_times:KF K "times" (top 12)
 h_rest_of:KF K "rest_of" (top 13)
 h_at_most_one:KF K "at_most_one" (top 14)
 h_blended_cover:KF K "blended_cover" (top 16)
 h_blended_colour:KF K "blended_colour" (top 17)
 h_blended:KF K "blended" (top 18)
 h_are_of_one_size:KF K "are_of_one_size" (top 20)
 h_plain_sheet:KF K "plain_sheet" (top 21)
 h_blended_sheets:KF K "blended_sheets" (top 22)
 h_l_cell:KF K "_law_cell" (top 26)
 h_l_drawn:KF K "_law_drawn" (top 27)
 h_l_made:KF K "_law_made" (top 28)
 h_l_times:KF K "_law_times" (top 29)
 h_l_share:KF K "_law_share" (top 30)
 h_l_spot:KF K "_law_spot" (top 31)
 h_l_sheet:KF K "_law_sheet" (top 32)
 h_l_any:KF K "_law_any" (top 33)
 h_l_folio:KF K "_law_folio" (top 34)
 h_law:KF K "law" (top 35)
 h_cls:∃C,KCl K C "Folio" /\ Ms K C
theorem ci2{P:Program}{w:World}{K:PySem.W.Frag}{mg:Str->Option Value}(M:Md K mg zcs zbl) (q:Qs K) {C:Addr}(c:KCl K C "Folio") (z:Ms K C):∃tab O,rdU tab zcs zbl O bD5=aA0/\∀base:Heap,UOk P w K mg base C 30 tab O:=by
 refine⟨?tab,?O,?e,fun base=>?t⟩
 case t =>
  have t:TOk P w K mg base 0 tb0:=TOk.nil
  have t:=t.add M aa7 q.h_common_divisor S3
  have t:=t.add M ar7 q.h_least_form R4
  have t:=t.add M ar8 q.h_is_at_most Z2
  have t:=t.add M bz7 q.h_added S8
  have t:=t.add M aE0 q.h_lessened V0
  have t:=t.add M bz5 q.h_times U3
  have t:=t.add M aT6 q.h_rest_of X6
  have t:=t.add M aj9 q.h_at_most_one S7
  have t:=t.add M ae1 q.h_blended_cover T9
  have t:=t.add M aa9 q.h_blended_colour S4
  have t:=t.add M aU3 q.h_blended X8
  have t:=t.add M x8 q.h_are_of_one_size C0
  have t:=t.add M aj8 q.h_plain_sheet W6
  have t:=t.add M aa8 q.h_blended_sheets B5
  have t:=t.add M bk6 q.h_l_cell aj1
  have t:=t.add M aU1 q.h_l_drawn J5
  have t:=t.add M bk5 q.h_l_made z9
  have t:=t.add M aT7 q.h_l_times ab7
  have t:=t.add M aT9 q.h_l_share h9
  have t:=t.add M bk4 q.h_l_spot X7
  have t:=t.add M aT8 q.h_l_sheet Q7
  have t:=t.add M bz6 q.h_l_any at4
  have t:TOk P w K mg base 22 _:=t
  have i:=iok (P:=P) (w:=w) (base:=base) M c aT3 z.m_init__ rfl rfl rfl (by kernel_rfl) aV6 (by kernel_rfl) (by repeat (first|exact rfl|intro _))
  have n:=nmk M t c bk0 z.m_names rfl rfl rfl (by kernel_rfl) (by kernel_rfl) bl5 (by kernel_rfl) (by repeat (first|exact rfl|intro _))
  have m:MOk P w K mg base C 22 []:=MOk.nil.mono (Nat.zero_le _)
  have m:MOk P w K mg base C 23 _:=m.add M t c.foc ar6 z.m_set_sheet aw9 2 "self" ["name", "sheet"] fun X F b a o ds r o' _ e=>(show OM X C b _ _ (B3 (mth 1)) _ _ by rw[at0];exact aZ3 F rfl (by kernel_rfl) rfl e)
  have t:TOk P w K mg base 23 _:=t.mono (Nat.le_succ _)
  have m:MOk P w K mg base C 24 _:=m.add M t c.foc ar5 z.m_take_step Z4 3 "self" ["word", "name", "sheet"] fun X F b a o ds r o' _ e=>(show OM X C b _ _ (B3 (mth 2)) _ _ by rw[as9];exact aP0 F rfl (by kernel_rfl) rfl rfl rfl rfl e)
  have t:TOk P w K mg base 24 _:=t.mono (Nat.le_succ _)
  have m:MOk P w K mg base C 25 _:=m.add M t c.foc bU3 z.m_lay ad8 2 "self" ["name", "sheet", "was_there"] fun X F b a o ds r o' _ e=>(show OM X C b _ _ (B3 (mth 3)) _ _ by rw[bV8];exact be9 F rfl rfl (by kernel_rfl) rfl rfl e)
  have t:TOk P w K mg base 25 _:=t.mono (Nat.le_succ _)
  have m:MOk P w K mg base C 26 _:=m.add M t c.foc bk1 z.m_fetch J8 1 "self" ["name"] fun X F b a o ds r o' _ e=>(show OM X C b _ _ (B3 (mth 4)) _ _ by rw[bl6];exact aD7 F rfl (by kernel_rfl) e)
  have t:TOk P w K mg base 26 _:=t.mono (Nat.le_succ _)
  have m:MOk P w K mg base C 27 _:=m.add M t c.foc ay2 z.m_take_off aR3 1 "self" ["name", "sheet"] fun X F b a o ds r o' _ e=>(show OM X C b _ _ (B3 (mth 5)) _ _ by rw[az5];exact bd3 F rfl rfl (by kernel_rfl) rfl rfl rfl rfl e)
  have t:TOk P w K mg base 27 _:=t.mono (Nat.le_succ _)
  have m:MOk P w K mg base C 28 _:=m.add M t c.foc bk2 z.m_blend (T6 C0 B5) 3 "self" ["manner", "above", "below", "upper", "lower", "sheet"] fun X F b a o ds r o' _ e=>(show OM X C b _ _ (B3 (mth 6)) _ _ by rw[bl7];exact aE7 F rfl rfl (by kernel_rfl) rfl rfl rfl (by kernel_rfl) rfl (by kernel_rfl) rfl rfl rfl e)
  have t:TOk P w K mg base 28 _:=t.mono (Nat.le_succ _)
  have u:UOk P w K mg base C 29 _ ⟨("names", Y4,0)::_,[], "Folio"⟩:=UOk.start t m n i (by decide) (by decide) (by decide)
  have u:UOk P w K mg base C 30 _ _:=u.addO M c.foc aU0 q.h_l_folio T4
  exact u
 case e=>kernel_rfl
theorem zmd{K:PySem.W.Frag}{h:Heap}{mg:Str->Option Value}{q0:Addr}{y0:Array (Option Value)}{g0t0 g0t1:Tok}{n0:Nat}(X:K.In h) (G:h.Ns mainGlobals mg) (p0:PySem.W.nsIn K mainGlobals "ONE" = some (some (.ref q0))) (r0:K.lookup q0=some ⟨.type "tuple", none,.seq #[.int 1 g0t0,.int 1 g0t1] n0,y0⟩) (z0:PySem.W.nsIn K mainGlobals "len" = some none) (z1:PySem.W.nsIn K mainGlobals "range" = some none) (z2:PySem.W.nsIn K mainGlobals "sorted" = some none) (z3:PySem.W.nsIn K mainGlobals "tuple" = some none) (z4:PySem.W.nsIn K mainGlobals "zip" = some none):Md K mg zcs zbl:=by
 refine⟨fun x v e=>PySem.W.mg_of X G e,fun x d e=>?_,fun x e=>?_⟩
 ·unfold zcs at e
  rw[List.lookup_cons]at e
  split at e
  ·rename_i q;cases e;simp only[beq_iff_eq]at q;subst q;exact⟨_,(bf2 r0 rfl rfl rfl (by show 2<=1000;decide) (ah5 (ax1 1 g0t0) (ah5 (ax1 1 g0t1) aR8))),PySem.W.mg_of X G p0⟩
  cases e
 ·unfold zbl at e
  simp only[List.contains_cons,List.contains_nil,Bool.or_false,Bool.or_eq_true,beq_iff_eq]at e
  rcases e with e|e|e|e|e
  ·subst e;exact PySem.W.mg_none_of X G z0
  ·subst e;exact PySem.W.mg_none_of X G z1
  ·subst e;exact PySem.W.mg_none_of X G z2
  ·subst e;exact PySem.W.mg_none_of X G z3
  ·subst e;exact PySem.W.mg_none_of X G z4
theorem bX9{l:PySem.W.OpenLaw}{q:Program}{loose:List Str}{XP:(Str->Option Value)->Heap->Prop}{YP:World->Heap->Prop}{d:DefRec}{K:Params->PySem.W.Frag}(hn:l.most=some 63) (hdf:d.params.defaults=[])
  (hY:∀(w:World) (h:Heap),YP w h->(K w.params).In h) (hd:d.name = "law")
  (F:∀(w:World) (mg:Str->Option Value) (h:Heap),(K w.params).In h->h.Ns mainGlobals mg->Md (K w.params) mg zcs zbl)
  (Q:∀w:World,Qs (K w.params))
  (M:∀ns:List Int,ns.length<=63->aA0 [.list (ns.map PyData.int)]=some (.bool true)) :
  PySem.W.WalkO q loose XP YP l.row.toRowW d [] (fun f vs=>PySem.call f vs) :=
 L2.bn6 (n:=63) (k:=31) (x := "_law_script") (CX:=fun _=>CX0) (sp:=fun w=>spF (K w.params) 1 aA0) hn (by decide) hdf ⟨rfl,by decide,by decide⟩ hY
  (fun w mg fa h hk hg hm=>by
   have N:=F w mg h hk hg
   have q:=Q w
   rw[hd]at hm
   obtain⟨C,c,z⟩:=q.h_cls
   obtain⟨_,_,e,t⟩:=ci2 N q c z
   obtain⟨fd,b1,b2⟩:=bf0 N c.foc t bD5 q.h_law e hm
   exact⟨fd,b1,fun base _ _=>b2 base⟩)
  (fun w H a ns hl _ hS=>⟨rfl,H,[.list (ns.map PyData.int)],.bool true,B6.refl _,⟨.ref a,[],rfl,⟨a,_,rfl,hS,Reps.ints ns⟩,rfl⟩,M ns hl,fun v H' Hf' g r=>r⟩) fun _ _ _ _ _ z=>z
end Lk72
def PySem.W.Fast.tw8654540536604643951:Unit:=()
def PySem.W.Fast.tw10278134930809286172:Unit:=()
def PySem.W.Fast.tw12070404910629268108:Unit:=()
def PySem.W.Fast.tw2695193891264141318:Unit:=()
def PySem.W.Fast.tw3601275176810717596:Unit:=()
def PySem.W.Fast.tw9904907384579026844:Unit:=()
def PySem.W.Fast.tw12405873429484085585:Unit:=()
def PySem.W.Fast.tw2395494916957176882:Unit:=()
def PySem.W.Fast.tw3092687601055070643:Unit:=()
def PySem.W.Fast.tw1909726802701025949:Unit:=()
def PySem.W.Fast.tw3585017622757550938:Unit:=()
def PySem.W.Fast.tw7610581976127236367:Unit:=()
def PySem.W.Fast.tw14636119645526101024:Unit:=()
def PySem.W.Fast.tw1232608001815701734:Unit:=()
def PySem.W.Fast.tw340418361749861155:Unit:=()
def PySem.W.Fast.tw7294460890620303149:Unit:=()
def PySem.W.Fast.tw8337624184777731899:Unit:=()
def PySem.W.Fast.tw16779599750090725063:Unit:=()
def PySem.W.Fast.tw1343419022329092508:Unit:=()
def PySem.W.Fast.tw10011688980392064475:Unit:=()
def PySem.W.Fast.tw9899652534816208311:Unit:=()
def PySem.W.Fast.tw12482408367685481081:Unit:=()
def PySem.W.Fast.tw4033926104758523309:Unit:=()
def PySem.W.Fast.tw7683973058077181026:Unit:=()
def PySem.W.Fast.tw12531833875650469864:Unit:=()
def PySem.W.Fast.tw5654308893479934406:Unit:=()
def PySem.W.Fast.tw10740518959544854966:Unit:=()
def PySem.W.Fast.tw6186448352012833572:Unit:=()
def PySem.W.Fast.tw17720783169797619175:Unit:=()
def PySem.W.Fast.tw16492042693508624679:Unit:=()
def PySem.W.Fast.tw6047138921139541394:Unit:=()
def PySem.W.Fast.tw5081782807469545822:Unit:=()
def PySem.W.Fast.tw4006407242700608281:Unit:=()
def PySem.W.Fast.tw10001009838303203926:Unit:=()
def PySem.W.Fast.tw9901274975995943839:Unit:=()
def PySem.W.Fast.tw14316783531695375735:Unit:=()
def PySem.W.Fast.tw2254950553266048434:Unit:=()
def PySem.W.Fast.tw9120693439945656551:Unit:=()
def PySem.W.Fast.tw15338638186175921680:Unit:=()
def PySem.W.Fast.tw6552778471708201241:Unit:=()
def PySem.W.Fast.tw14300246604796537805:Unit:=()
def PySem.W.Fast.tw17000573340714295019:Unit:=()
def PySem.W.Fast.tw4776138278575436663:Unit:=()
def PySem.W.Fast.tw148539686854442695:Unit:=()
def PySem.W.Fast.tw13773410922670105255:Unit:=()
def PySem.W.Fast.tw18169895730218207041:Unit:=()
def PySem.W.Fast.tw11212432707083057561:Unit:=()
def PySem.W.Fast.tw4224339339159590689:Unit:=()
def PySem.W.Fast.tw309387457458650310:Unit:=()
def PySem.W.Fast.tw16575266840939441637:Unit:=()
def PySem.W.Fast.tw18007122404788214786:Unit:=()
def PySem.W.Fast.tw3664766980790188789:Unit:=()
def PySem.W.Fast.tw11631732987101557262:Unit:=()
def PySem.W.Fast.tw12739193700680889473:Unit:=()
def PySem.W.Fast.tw4433522744798079749:Unit:=()
def PySem.W.Fast.tw12964526042534046651:Unit:=()
def PySem.W.Fast.tw11461186449677220886:Unit:=()
def PySem.W.Fast.tw2925229669199635029:Unit:=()
def PySem.W.Fast.tw3051349570568366891:Unit:=()
def PySem.W.Fast.tw11388384974094163238:Unit:=()
def PySem.W.Fast.tw18206927442302869530:Unit:=()
def PySem.W.Fast.tw8243464226833426087:Unit:=()
def PySem.W.Fast.tw6279449681828436372:Unit:=()
def PySem.W.Fast.tw11598594382688685239:Unit:=()
def PySem.W.Fast.tw10906718618873729492:Unit:=()
def PySem.W.Fast.tw1884476513153311345:Unit:=()
def PySem.W.Fast.tw4259245441488898457:Unit:=()
def PySem.W.Fast.tw8144430505409585084:Unit:=()
def PySem.W.Fast.tw12274265292754656712:Unit:=()
def PySem.W.Fast.tw16179570745967816310:Unit:=()
def PySem.W.Fast.tw14335838260893691014:Unit:=()
def PySem.W.Fast.tw9126008838559329116:Unit:=()
def PySem.W.Fast.tw12627178457427405950:Unit:=()
def PySem.W.Fast.tw18115036843712124002:Unit:=()
def PySem.W.Fast.tw6885951365243665043:Unit:=()
def PySem.W.Fast.tw4532753589727501398:Unit:=()
def PySem.W.Fast.tw1369887729092578406:Unit:=()
def PySem.W.Fast.tw1899410745902126682:Unit:=()
def PySem.W.Fast.tw18310228017319881942:Unit:=()
namespace Lk72
open PySem PySem.W PyProof.Rows
set_option maxHeartbeats 0 in
open_top head for PySem.Challenge.rw_glazework_k72_whole_folios
end Lk72
open PySem PySem.W PyProof.Rows
set_option maxRecDepth 100000 in
set_option maxHeartbeats 0 in
theorem PySem.Challenge.cw_glazework_k72_whole_folios_holds : PySem.Challenge.rw_glazework_k72_whole_folios.Holds := by
 refine Lk72.head ?_
 k_fill
 refine Lk72.bX9 (l:=PySem.Challenge.rw_glazework_k72_whole_folios) rfl rfl (fun w h Y=>PySem.W.kIn_of Y) rfl ?F ?Q Lk72.main
 case F =>
  intro w mg h KX G
  refine' Lk72.zmd KX G ?p0 ?r0 ?z0 ?z1 ?z2 ?z3 ?z4
  (case p0=>k_is);(case r0=>k_is);(case z0=>k_is);(case z1=>k_is);(case z2=>k_is);(case z3=>k_is);(case z4=>k_is)
 case Q =>
  intro w
  constructor
  case h_cls =>
   refine' ⟨_,G.bP4 ?a ?b ?c ?pg ?hd ?po ?sa ?n1 ?n2 ?n3,?ms⟩
   (case a=>k_is);(case b=>k_is);(case c=>k_is);(case pg=>k_is);(case hd=>k_is);(case po=>k_is);(case sa=>k_is);(case n1=>k_is);(case n2=>k_is);(case n3=>k_is)
   case ms =>
    constructor
    all_goals (refine' G.ce2 ?a ?i ?l ?c ?k;(case a=>k_is);(case i=>k_is);(case l=>k_is);(case c=>k_is);(case k=>k_is))
  all_goals (refine' G.ce3 ?a ?l ?c ?k;(case a=>k_is);(case l=>k_is);(case c=>k_is);(case k=>k_is))
