import PyProof.Rows.All
import Wide.All
import OpenK.AllK
import Wide.FinOn
import Lean
import PyProof.EqAt
import PyProof.EqKinds
import PyProof.TupleCall
import PySem.Challenge.RW_glazework_k71_folios
set_option compiler.extract_closed false
noncomputable section
set_option autoImplicit true
set_option Elab.async false
set_option linter.all false
set_option maxRecDepth 100000
namespace L2
open PySem PySem.Spec PyProof.Rows
noncomputable abbrev Key:=Sum Int Str
noncomputable def al9:Key->Value->Bool
 | .inl k,v=>Value.isInt k v
 | .inr x,v=>Value.isStrOf x v
noncomputable def cj0(w:World):Key->Int
 | .inl k=>hashInt k
 | .inr x=>hashStr w x
theorem L9:∀{k:Key}{v:Value},al9 k v=true->(∃i t,k=Sum.inl i/\v=Value.int i t)\/(∃x t,k=Sum.inr x/\v=Value.str x t)
 | .inl i,v,h=>by
  obtain⟨t,e⟩:=Value.isInt_shape (k:=i) (v:=v) h
  exact .inl ⟨i,t,rfl,e⟩
 | .inr x,v,h=>by
  obtain⟨t,e⟩:=Value.isStrOf_shape (x:=x) (v:=v) h
  exact .inr ⟨x,t,rfl,e⟩
theorem aU1(i:Int) (t:Tok):al9 (.inl i) (.int i t)=true:=by simp[al9,Value.isInt]
theorem aU0(x:Str) (t:Tok):al9 (.inr x) (.str x t)=true:=by simp[al9,Value.isStrOf]
theorem bP0(a b:Int):decide ((Sum.inl a:Key)=Sum.inl b)=(a==b):=by
 by_cases e:a=b
 ·subst e;simp
 ·have h:¬(Sum.inl a:Key)=Sum.inl b:=fun q=>e (Sum.inl.inj q)
  rw[decide_eq_false h]
  exact(beq_eq_false_iff_ne.mpr e).symm
theorem bg4(a b:Str):decide ((Sum.inr a:Key)=Sum.inr b)=decide (a=b):=by
 by_cases e:a=b
 ·subst e;simp
 ·have h:¬(Sum.inr a:Key)=Sum.inr b:=fun q=>e (Sum.inr.inj q)
  rw[decide_eq_false h,decide_eq_false e]
theorem bO9(a:Int) (b:Str):decide ((Sum.inl a:Key)=Sum.inr b)=false:=decide_eq_false (fun q=>nomatch q)
theorem bO8(a:Str) (b:Int):decide ((Sum.inr a:Key)=Sum.inl b)=false:=decide_eq_false (fun q=>nomatch q)
noncomputable def K1(prog:Program) (w:World):PySem.KeyKind prog w Key where
 is:=al9
 hash:=cj0 w
 inj:=fun v a b ha hb=>by
  rcases L9 ha with⟨i,t,rfl,rfl⟩|⟨x,t,rfl,rfl⟩
  ·rcases L9 hb with⟨j,u,rfl,e⟩|⟨y,u,rfl,e⟩
   ·injection e with e1 _;rw[e1]
   ·exact nomatch e
  ·rcases L9 hb with⟨j,u,rfl,e⟩|⟨y,u,rfl,e⟩
   ·exact nomatch e
   ·injection e with e1 _;rw[e1]
 byValue:=fun k v h=>by
  rcases L9 h with⟨i,t,rfl,rfl⟩|⟨x,t,rfl,rfl⟩<;>rfl
 pyHash:=fun hv h=>by
  rcases L9 hv with⟨i,t,rfl,rfl⟩|⟨x,t,rfl,rfl⟩
  ·exact wpAny_pyHash_int h
  ·exact wpAny_pyHash_str h
 eqBool:=fun hu hv h=>by
  rcases L9 hu with⟨i,t,rfl,rfl⟩|⟨x,t,rfl,rfl⟩
  ·rcases L9 hv with⟨j,u,rfl,rfl⟩|⟨y,u,rfl,rfl⟩
   ·rw[bP0]at h;exact wpAny_eqBool_int h
   ·rw[bO9]at h;exact SeqAt.EqAt.int_str i t y u _ _ _ _ h
  ·rcases L9 hv with⟨j,u,rfl,rfl⟩|⟨y,u,rfl,rfl⟩
   ·rw[bO8]at h;exact SeqAt.EqAt.str_int x t j u _ _ _ _ h
   ·rw[bg4]at h;exact wpAny_eqBool_str h
 «strs»:=fun k x t v h=>by
  rcases L9 h with⟨i,u,rfl,e⟩|⟨y,u,rfl,e⟩
  ·exact nomatch e
  ·injection e with e1 _
   subst e1
   cases v<;>rfl
theorem aA7(prog:Program) (w:World) (i:Int) (t:Tok):(K1 prog w).is (.inl i) (.int i t)=true:=aU1 i t
theorem aA6(prog:Program) (w:World) (x:Str) (t:Tok):(K1 prog w).is (.inr x) (.str x t)=true:=aU0 x t
end L2
namespace L2
open PySem PySem.Spec PyProof.Rows
inductive V where
 | non|bl (b:Bool)|int (i:Int)|str (x:Str)|byt (b:Array UInt8)|flt (b:UInt64)|ref (a:Addr)|ty (n:String)
 deriving DecidableEq
noncomputable def B6:V->Value->Prop
 | .non,u=>u=Value.none
 | .bl b,u=>u=Value.bool b
 | .int i,u=>∃t,u=Value.int i t
 | .str x,u=>∃t,u=Value.str x t
 | .byt b,u=>∃t,u=Value.bytes b t
 | .flt b,u=>∃t,u=Value.float b t
 | .ref a,u=>u=Value.ref a
 | .ty n,u=>u=Value.type n
noncomputable abbrev B9:List V->List Value->Prop:=Paired B6
theorem B9.length(r:B9 xs us):xs.length=us.length:=Paired.length r
theorem B9.get:∀{xs:List V}{us:List Value}{i:Nat}{x:V},B9 xs us->xs[i]? = some x->∃u,us[i]? = some u/\B6 x u
 | _,_,_,_,.nil,e=>by simp at e
 | _,_,0,_,.cons r _,e=>by simp at e;subst e;exact⟨_,rfl,r⟩
 | _,_,i+1,x,.cons _ t,e=>by
  obtain⟨u,h1,h2⟩:=B9.get (i:=i) (x:=x) t (by simpa using e)
  exact⟨u,by simpa using h1,h2⟩
theorem B9.append:∀{xs ys:List V}{us ws:List Value},B9 xs us->B9 ys ws->B9 (xs++ys) (us++ws)
 | _,_,_,_,.nil,s=>s
 | _,_,_,_,.cons r t,s=>.cons r (B9.append t s)
theorem B9.take:∀{xs:List V}{us:List Value}(n:Nat),B9 xs us->B9 (xs.take n) (us.take n)
 | _,_,0,_=>.nil
 | _,_,_+1,.nil=>.nil
 | _,_,n+1,.cons r t=>.cons r (B9.take n t)
theorem B9.drop:∀{xs:List V}{us:List Value}(n:Nat),B9 xs us->B9 (xs.drop n) (us.drop n)
 | _,_,0,r=>r
 | _,_,_+1,.nil=>.nil
 | _,_,n+1,.cons _ t=>B9.drop n t
noncomputable def c5:Option V->Option Value->Prop
 | some v,some u=>B6 v u
 | none,none=>True
 | _,_=>False
noncomputable def KV{κ:Type}:List (κ×V)->List (κ×Value)->Prop:=Paired fun(p:κ×V) (q:κ×Value)=>p.1=q.1/\B6 p.2 q.2
noncomputable def kV:Key->V
 | .inl i=>.int i
 | .inr x=>.str x
inductive HO where
 /-- a list -/
 | lst (xs:List V)
 /-- a tuple (never changes) -/
 | tup (xs:List V)
 /-- a dict whose keys are ints and texts;one whose keys are tuples of ints and texts (the empty one is both) -/
 | dK (kvs:List (Key×V))|dT (kvs:List (List Key×V))
 /-- a set of ints: its members,its size -/
 | set (S:Int->Bool) (n:Nat)
 /-- an instance of the class at C,its dict at dx,its attributes -/
 | ins (C dx:Addr) (fs:List (Str×V))
 /-- the dict of the instance at x -/
 | own (x:Addr)
 /-- the dict of an exception -/
 | xd (fs:List (Str×V))
 /-- a bound method,f of x -/
 | met (f x:Addr)
 /-- a range object lo,lo+1,.. below hi -/
 | rng (lo hi:Int)
 /-- a thing that is known to the object (the script;a dict while a loop walks it): read,never written while it is so -/
 | frz (o:Obj) (u:HO)
 /-- a code object's table -/
 | tbl (ps:Array Value)
 /-- any other thing,by what is true of its one object (a def of one's own: SetO a S n:=HO.ext fun h=>..) -/
 | ext (φ:Heap->Prop)
noncomputable abbrev Hp:=Addr->Option HO
noncomputable def upd(H:Hp) (a:Addr) (o:HO):Hp:=fun b=>if b=a then some o else H b
theorem A5:upd H a o a=some o:=by unfold upd;rw[if_pos rfl]
theorem A3(h:b≠a):upd H a o b=H b:=by unfold upd;rw[if_neg h]
theorem t7{H:Hp}{a b:Addr}{o u:HO}(h:H a=some o) (h':H b=some u) (d:o≠u):a≠b:=by
 intro e;subst e;rw[h]at h';exact d (Option.some.inj h')
theorem B4{H:Hp}{a b:Addr}{o:HO}(h:H a=some o) (h':H b=none):a≠b:=by
 intro e;subst e;rw[h]at h';cases h'
noncomputable def ao8(h:Heap) (a:Addr) (items:Array Value):Prop:=∃o,h.get? a=some o/\o.cls=.type "tuple" /\ (∃n,o.data=.seq items n)/\o.dict=none
theorem ao8.tup{h:Heap}{a:Addr}{items:Array Value}(p:ao8 h a items):IsTup h a items:=let⟨o,e,c,d,_⟩:=p;⟨o,e,c,d⟩
theorem ao8.new(h:Heap) (items:Array Value) (n:Nat:=0):ao8 (h.push { cls:=.type "tuple", data:=.seq items n }) h.objs.size items:=⟨_,Heap.get?_push_size _ rfl,rfl,⟨_,rfl⟩,rfl⟩
section
variable (P:Program) (w:World)
noncomputable def N8(H:Hp) (h:Heap) (a:Addr):HO->Prop
 | .lst xs=>xs.length<=sizeLine/\∃(its:List Value) (n:Nat),B9 xs its/\h.get? a=some { cls:=.type "list", data:=.seq its.toArray n }
 | .tup xs=>xs.length<=sizeLine/\∃its:List Value,B9 xs its/\ao8 h a its.toArray
 | .dK kvs=>kvs.length<=sizeLine/\(a==sysModules)=false/\∃vs,KV kvs vs/\h.DictOf (K1 P w) a vs
 | .dT kvs=>kvs.length<=sizeLine/\(a==sysModules)=false/\∃xs:List (List Key×Addr×Value),
   Paired (fun(p:List Key×V) (q:List Key×Addr×Value)=>p.1=q.1/\H q.2.1=some (.tup (p.1.map kV))/\B6 p.2 q.2.2) kvs xs /\
   ∃o es ep,h.get? a=some o/\o.ExactDict/\o.data=.dict es ep/\es.toList=xs.map (entryOfKey (tupleKind (K1 P w)))/\(xs.map (·.1)).Nodup
 | .set S n=>h.SetOf (intKind P w) a S n
 | .ins C dx fs=>H dx=some (.own a)/\fs.length<=1000/\dx≠a/\h.get? a=some (PySem.W.instObj C dx) /\
   ∃mA,h.Ns1 dx mA/\(∀f,c5 (fs.lookup f) (mA f))/\PySem.Within mA (fs.map (·.1))
 | .own _=>∃o,h.get? a=some o
 | .xd fs=>∃mA,h.Ns1 a mA/\∀f,c5 (fs.lookup f) (mA f)
 | .rng lo hi=>∃t u v,h.get? a=some { cls:=.type "range", data:=.fields #[.int lo t,.int hi u,.int 1 v] }
 | .frz o u=>h.get? a=some o/\N8 H h a u
 | .tbl ps=>h.get? a=some { cls:=.none,data:=.fields ps }
 | .met f x=>h.get? a=some (PySem.W.methodObj (.ref f) (.ref x))
 | .ext φ=>φ h/\(∃o,h.get? a=some o)/\∀h1 h2:Heap,φ h1->(∀o,h1.get? a=some o->h2.get? a=some o)->φ h2
noncomputable def HOk(H:Hp) (h:Heap):Prop:=∀a o,H a=some o->N8 P w H h a o
end
section
variable {P:Program}{w:World}{H H':Hp}{h h':Heap}{a:Addr}{o:HO}
theorem N8.lt(x:N8 P w H h a o):a < h.objs.size:=by
 cases o with
 | lst xs=>obtain⟨_,_,_,_,e⟩:=x;exact Heap.lt_size e
 | tup xs=>obtain⟨_,_,_,p⟩:=x;exact p.tup.lt
 | dK kvs=>obtain⟨_,_,_,_,o,_,_,e,_⟩:=x;exact Heap.lt_size e
 | dT kvs=>obtain⟨_,_,_,_,o,_,_,e,_⟩:=x;exact Heap.lt_size e
 | set S n=>obtain⟨o,_,_,_,e,_⟩:=x;exact Heap.lt_size e
 | ins C dx fs=>obtain⟨_,_,_,e,_⟩:=x;exact Heap.lt_size e
 | own y=>obtain⟨_,e⟩:=x;exact Heap.lt_size e
 | xd fs=>obtain⟨_,⟨_,_,_,e,_⟩,_⟩:=x;exact Heap.lt_size e
 | rng lo hi=>obtain⟨_,_,_,e⟩:=x;exact Heap.lt_size e
 | frz ob u=>obtain⟨e,_⟩:=x;exact Heap.lt_size e
 | tbl ps=>exact Heap.lt_size (show h.get? a=some _ from x)
 | met f y=>exact Heap.lt_size (show h.get? a=some _ from x)
 | ext φ=>obtain⟨_,⟨_,e⟩,_⟩:=x;exact Heap.lt_size e
theorem Paired.mapP{α β:Type}{F G:α->β->Prop}:∀{l₁:List α}{l₂:List β},Paired F l₁ l₂->(∀a b,F a b->G a b)->Paired G l₁ l₂
 | _,_,.nil,_=>.nil
 | _,_,.cons r t,f=>.cons (f _ _ r) (Paired.mapP t f)
theorem N8.stay(x:N8 P w H h a o) (k:∀b u,(b=a\/H b=some (.own a))->h.get? b=some u->h'.get? b=some u)
  (ho:∀b,H b=some (.own a)->H' b=some (.own a)) (ht:∀b xs,H b=some (.tup xs)->H' b=some (.tup xs)):N8 P w H' h' a o:=by
 induction o with
 | lst xs=>obtain⟨z,its,n,r,e⟩:=x;exact⟨z,its,n,r,k _ _ (.inl rfl) e⟩
 | tup xs=>obtain⟨z,its,r,ob,e,c⟩:=x;exact⟨z,its,r,ob,k _ _ (.inl rfl) e,c⟩
 | dK kvs=>obtain⟨z,y,vs,r,ob,es,ep,e,c⟩:=x;exact⟨z,y,vs,r,ob,es,ep,k _ _ (.inl rfl) e,c⟩
 | dT kvs =>
  obtain⟨z,y,xs,r,ob,es,ep,e,c⟩:=x
  exact⟨z,y,xs,Paired.mapP r fun p q z=>⟨z.1,ht _ _ z.2.1,z.2.2⟩,ob,es,ep,k _ _ (.inl rfl) e,c⟩
 | set S n=>obtain⟨ob,es,ep,t,e,c⟩:=x;exact⟨ob,es,ep,t,k _ _ (.inl rfl) e,c⟩
 | ins C dx fs =>
  obtain⟨d,z,ne,e,mA,⟨od,es,ep,e2,c⟩,r⟩:=x
  exact⟨ho _ d,z,ne,k _ _ (.inl rfl) e,mA,⟨od,es,ep,k _ _ (.inr d) e2,c⟩,r⟩
 | own y=>obtain⟨ob,e⟩:=x;exact⟨ob,k _ _ (.inl rfl) e⟩
 | xd fs=>obtain⟨mA,⟨od,es,ep,e,c⟩,r⟩:=x;exact⟨mA,⟨od,es,ep,k _ _ (.inl rfl) e,c⟩,r⟩
 | rng lo hi=>obtain⟨t,u,v,e⟩:=x;exact⟨t,u,v,k _ _ (.inl rfl) e⟩
 | frz ob u ih=>obtain⟨e,q⟩:=x;exact⟨k _ _ (.inl rfl) e,ih q⟩
 | tbl ps =>
  have e:h.get? a=some { cls:=.none,data:=.fields ps }:=x
  show h'.get? a=some { cls:=.none,data:=.fields ps }
  exact k a _ (.inl rfl) e
 | met f y =>
  have e:h.get? a=some (PySem.W.methodObj (.ref f) (.ref y)):=x
  show h'.get? a=some (PySem.W.methodObj (.ref f) (.ref y))
  exact k a _ (.inl rfl) e
 | ext φ=>obtain⟨p,⟨o,e⟩,st⟩:=x;exact⟨st _ _ p fun o q=>k _ _ (.inl rfl) q,⟨o,k _ _ (.inl rfl) e⟩,st⟩
theorem HOk.lt(x:HOk P w H h) (e:H a=some o):a < h.objs.size:=(x a o e).lt
theorem HOk.fresh(x:HOk P w H h) (e:h.objs.size<=a):H a=none:=by
 cases q:H a with
 | none=>rfl
 | some u=>exact absurd (Nat.lt_of_lt_of_le (x.lt q) e) (Nat.lt_irrefl _)
theorem HOk.kept(x:HOk P w H h) (k:∀b u,h.get? b=some u->h'.get? b=some u):HOk P w H h':=fun a o e =>
 (x a o e).stay (fun b u _ q=>k b u q) (fun _ q=>q) fun _ _ q=>q
theorem HOk.laid(x:HOk P w H h) (k:∀b u,h.get? b=some u->h'.get? b=some u) (hp:h.objs.size<=a) (new:N8 P w (upd H a o) h' a o):HOk P w (upd H a o) h':=fun b u e=>by
 have hn:=x.fresh hp
 by_cases hb:b=a
 ·subst hb;rw[A5]at e;cases e;exact new
 ·rw[A3 hb]at e
  exact(x b u e).stay (fun c v _ q=>k c v q) (fun c q=>by rw[A3 (B4 q hn)];exact q) fun c xs q=>by rw[A3 (B4 q hn)];exact q
end
noncomputable def Rd(H:Hp) (a:Addr) (u:HO):Prop:=H a=some u\/∃o,H a=some (.frz o u)
theorem Rd.ok(r:Rd H a u) (x:HOk P w H h):N8 P w H h a u:=by
 rcases r with r|⟨o,r⟩
 ·exact x a u r
 ·obtain⟨_,q⟩:=x a _ r
  exact q
noncomputable def Mut:Option HO->Prop
 | some (.lst _)=>True
 | some (.dK _)=>True
 | some (.dT _)=>True
 | some (.set _ _)=>True
 | some (.ins _ _ _)=>True
 | some (.ext _)=>True
 | _=>False
section
variable {P:Program}{w:World}{H:Hp}{h h':Heap}{x e:Addr}{o':HO}
theorem HOk.write(ok:HOk P w H h) (mu:Mut (H x)) (he:e=x\/H e=some (.own x)) (k:∀b u,b≠e->h.get? b=some u->h'.get? b=some u) (heo:∃u,h'.get? e=some u)
  (new:N8 P w (upd H x o') h' x o'):HOk P w (upd H x o') h':=fun b u q=>by
 have nown:∀c y,H c=some (.own y)->c≠x:=fun c y r z=>by subst z;rw[r]at mu;exact mu
 have ntup:∀c xs,H c=some (.tup xs)->c≠x:=fun c xs r z=>by subst z;rw[r]at mu;exact mu
 by_cases hb:b=x
 ·subst hb;rw[A5]at q;cases q;exact new
 ·rw[A3 hb]at q
  by_cases hbe:b=e
  ·have q':H b=some (.own x):=by
    rcases he with z|z
    ·exact absurd (hbe.trans z) hb
    ·rw[hbe];exact z
   rw[q]at q';cases q'
   obtain⟨v,hv⟩:=heo
   exact⟨v,by rw[hbe];exact hv⟩
  ·refine(ok b u q).stay (fun c v hc r=>k c v ?_ r) (fun c r=>by rw[A3 (nown c b r)];exact r) fun c xs r=>by rw[A3 (ntup c xs r)];exact r
   rcases hc with rfl|hc
   ·exact hbe
   ·rintro rfl
    rcases he with z|z
    ·exact nown c b hc z
    ·rw[hc]at z;cases z;exact hb rfl
end
structure Un (fs ex:List Addr) (H H':Hp) (h h':Heap):Prop where
 keep:∀b o,h.get? b=some o->H b=none->b∉fs->b∉ex->h'.get? b=some o
 slot:∀b o,h.get? b=some o->H b=none->b∈fs->b∉ex->∃sl,h'.get? b=some { o with slots:=sl }
 free:∀b o,h.get? b=some o->H b=none->b∉ex->H' b=none
 there:∀b o,h.get? b=some o->b∉ex->∃o',h'.get? b=some o'
 tups:∀b xs,H b=some (.tup xs)->H' b=some (.tup xs)
 frzs:∀b o u,H b=some (.frz o u)->H' b=some (.frz o u)
 tbls:∀b ps,H b=some (.tbl ps)->∃more,H' b=some (.tbl (ps++more))
section
variable {fs fs' ex ex':List Addr}{H H1 H2:Hp}{h h1 h2 h':Heap}{a x e:Addr}{o:HO}
theorem Un.any(u:Un fs ex H H1 h h1) (q:h.get? b=some ob) (n:H b=none) (hx:b∉ex):∃sl,h1.get? b=some { ob with slots:=sl }:=by
 by_cases hb:b∈fs
 ·exact u.slot b ob q n hb hx
 ·exact⟨ob.slots,u.keep b ob q n hb hx⟩
theorem Un.kept(k:∀b u,h.get? b=some u->h'.get? b=some u):Un fs ex H H h h' :=
 ⟨fun b ob q _ _ _=>k b ob q,fun b ob q _ _ _=>⟨ob.slots,k b ob q⟩,fun _ _ _ n _=>n,fun b ob q _=>⟨ob,k b ob q⟩,fun _ _ q=>q,fun _ _ _ q=>q,fun _ ps q=>⟨#[],by rw[q];simp⟩⟩
theorem Un.refl:Un fs ex H H h h:=Un.kept fun _ _ q=>q
theorem Un.laid(k:∀b u,h.get? b=some u->h'.get? b=some u) (hp:h.objs.size<=a) (hn:H a=none):Un fs ex H (upd H a o) h h' where
 keep:=fun b u q _ _ _=>k b u q
 slot:=fun b u q _ _ _=>⟨u.slots,k b u q⟩
 free:=fun b u q n _=>by rw[A3 (Nat.ne_of_lt (Nat.lt_of_lt_of_le (Heap.lt_size q) hp))];exact n
 there:=fun b u q _=>⟨u,k b u q⟩
 tups:=fun b xs q=>by rw[A3 (B4 q hn)];exact q
 frzs:=fun b u xs q=>by rw[A3 (B4 q hn)];exact q
 tbls:=fun b ps q=>⟨#[],by rw[A3 (B4 q hn),q];simp⟩
theorem Un.write(mu:Mut (H x)) (he:e=x\/H e=some (.own x)) (k:∀b u,b≠e->h.get? b=some u->h'.get? b=some u) (heo:∃u,h'.get? e=some u):Un fs ex H (upd H x o) h h':=by
 have hx:∀b,H b=none->b≠x:=fun b n z=>by subst z;rw[n]at mu;exact mu
 have hb:∀b,H b=none->b≠e:=fun b n z=>by
  subst z
  rcases he with r|r
  ·exact hx b n r
  ·rw[n]at r;cases r
 have hm:∀b u,H b=some u->¬Mut (some u)->b≠x:=fun b u q nm z=>by subst z;rw[q]at mu;exact nm mu
 refine⟨fun b u q n _ _=>k b u (hb b n) q,fun b u q n _ _=>⟨u.slots,k b u (hb b n) q⟩,fun b u q n _=>by rw[A3 (hx b n)];exact n,fun b u q _=>?_,
  fun b xs q=>by rw[A3 (hm b _ q fun z=>z)];exact q,fun b u xs q=>by rw[A3 (hm b _ q fun z=>z)];exact q,fun b ps q=>⟨#[],by rw[A3 (hm b _ q fun z=>z),q];simp⟩⟩
 by_cases hbe:b=e
 ·subst hbe;exact heo
 ·exact⟨u,k b u hbe q⟩
end
noncomputable def trk(h:Heap) (H:Hp):List Addr:=(List.range h.objs.size).filter fun a=>(H a).isSome
noncomputable def av3(h:Heap) (H:Hp):Heap:=PySem.W.hideAll h (trk h H)
theorem aU5(h:Heap) (H:Hp):(av3 h H).objs.size=h.objs.size:=PySem.W.hideAll_size _ _
theorem bj7(e:h.get? b=some o) (n:H b=none):(av3 h H).get? b=some o :=
 PySem.W.hideAll_get _ e fun hm=>by
  have q:(H b).isSome=true:=(List.mem_filter.mp hm).2
  rw[n]at q;simp at q
theorem bv9(e:(av3 h H).get? b=some o):h.get? b=some o/\H b=none:=by
 have e':h.get? b=some o:=PySem.W.of_hideAll (trk h H) e
 refine⟨e',?_⟩
 cases q:H b with
 | none=>rfl
 | some x =>
  have hm:b∈trk h H:=List.mem_filter.mpr ⟨List.mem_range.mpr (Heap.lt_size e'),by simp[q]⟩
  have z:(av3 h H).get? b=none:=PySem.W.hideAll_none (trk h H) hm
  rw[z]at e;cases e
noncomputable def bA8(g h:Heap) (L:Addr):List (Addr×Obj):=(List.range h.objs.size).filterMap fun a=>if a=L\/(g.get? a).isSome=true then none else(h.get? a).map fun o=>(a,o)
noncomputable def P4(g h:Heap) (L d:Addr):List (Addr×Obj):=(bA8 g h L).filter fun p=>decide (p.1≠d)
end L2
namespace L2
open PySem PySem.Spec PyProof.Rows
structure Mod (K:PySem.W.Frag) (mg:Str->Option Value) (base:Heap):Prop where
 kin:K.In base
 glob:base.Ns mainGlobals mg
 blt:∃mb,base.Ns builtinsNs mb/\∀x:Str,x ≠ "__name__" -> mb x=bootBuiltins x
 nolimit:base.NoLimit
structure Cx where
 prog:Program
 w:World
 K:PySem.W.Frag
 mg:Str->Option Value
 base:Heap
 A:Around
 N:List Str
 s₀:Shared
 H₀:Hp
 env:Env
 outer:List Env
 stack:List Env
 ex:List Addr
 fn:Str->Bool
 calm:Bool
 pn:List (Addr×Obj)
 xe:Value->Shared->Prop
noncomputable def frs(l:List Env):List Addr:=l.filterMap (·.frame)
noncomputable abbrev Cx.fs(X:Cx):List Addr:=frs X.outer
noncomputable def Vis(sc:Scope) (x:Str):Prop:=sc.names.lookup x=some .local\/sc.names.lookup x=some .cell\/sc.names.lookup x=some .free
noncomputable def Loc(sc:Scope) (x:Str):Prop:=sc.names.lookup x=some .local\/sc.names.lookup x=some .cell
noncomputable def cm5(env:Env) (h:Heap) (m:Str->Option Value) (x:Str) (u:Value):Prop :=
 (env.kindOf x=some .local/\m x=some u)\/((env.kindOf x=some .cell\/env.kindOf x=some .free)/\∃c,env.cells.lookup x=some c/\h.IsCell c (some u))
structure Cx.Ok (X:Cx):Prop where
 mod:Mod X.K X.mg X.base
 kind:X.env.scope.kind=.function
 glob:X.env.globals=mainGlobals
 blt:X.env.builtins=builtinsNs
 above:X.s₀.heap.objs.size<=X.env.locals
 inj:∀x y c,X.env.cells.lookup x=some c->X.env.cells.lookup y=some c->x=y
 has:∀x,(X.env.kindOf x=some .cell\/X.env.kindOf x=some .free)->∃c,X.env.cells.lookup x=some c
 cab:∀x c,X.fn x=true->X.env.cells.lookup x=some c->X.s₀.heap.objs.size<=c
 hd:X.calm=true->X.A.handled=none
 frames:X.A.frames=some X.stack
 stk:X.stack=X.outer\/(X.stack=X.env::X.outer/\X.env.frame=some X.env.locals)
 exf:∀b∈X.ex,b≠X.env.locals/\∀x c,X.env.cells.lookup x=some c->c≠b
 bs:∀b o,X.base.get? b=some o->X.s₀.heap.get? b=some o/\X.H₀ b=none
 bsz:X.base.objs.size<=X.s₀.heap.objs.size
 noex:∀b o,X.base.get? b=some o->b∉X.ex
 exfs:∀b∈X.ex,b∉X.fs
 funs:X.s₀.heap.FunFrames X.base X.outer
 frf:∀b∈X.fs,X.H₀ b=none
structure Inv (X:Cx) (pins:List (Addr×Obj)) (σ:List (Option V)) (H:Hp) (s:Shared):Prop where
 ok:X.Ok
 os:s.os=X.s₀.os
 bare:AllBare s.gens
 base:Un X.fs X.ex X.H₀ H X.s₀.heap s.heap
 loc:∃m,s.heap.Ns X.env.locals m/\∀(i:Nat) (x:Str) (v:V),X.N[i]? = some x->σ[i]? = some (some v)->Vis X.env.scope x->∃u,B6 v u/\cm5 X.env s.heap m x u
 cell:∀x c,X.env.cells.lookup x=some c->∃v,s.heap.IsCell c v
 free:H X.env.locals=none
 freeC:∀x c,X.env.cells.lookup x=some c->H c=none
 pin:∀p∈X.pn++pins,s.heap.get? p.1=some p.2/\H p.1=none/\p.1≠X.env.locals/\p.1∉X.fs/\∀v,p.2.data≠.cell v
 hok:HOk X.prog X.w H s.heap
 len:σ.length=X.N.length
section
variable {X:Cx}{pins:List (Addr×Obj)}{σ:List (Option V)}{H H':Hp}{s:Shared}{h':Heap}
theorem Cx.Ok.nofr(ok:X.Ok) (e:X.base.get? b=some o):b∉X.fs:=fun hb=>by
 have:=(ok.funs.mem hb).1
 rw[e]at this;cases this
theorem Inv.bs(I:Inv X pins σ H s):∀b o,X.base.get? b=some o->s.heap.get? b=some o/\H b=none:=fun b o e =>
 ⟨I.base.keep b o (I.ok.bs b o e).1 (I.ok.bs b o e).2 (I.ok.nofr e) (I.ok.noex b o e),I.base.free b o (I.ok.bs b o e).1 (I.ok.bs b o e).2 (I.ok.noex b o e)⟩
theorem Inv.bk(I:Inv X pins σ H s):∀b o,X.base.get? b=some o->s.heap.get? b=some o:=fun b o e=>(I.bs b o e).1
theorem Inv.mod(I:Inv X pins σ H s):Mod X.K X.mg X.base:=I.ok.mod
theorem Inv.kIn(I:Inv X pins σ H s):X.K.In s.heap:=I.ok.mod.kin.keeps I.bk
theorem Inv.lt(I:Inv X pins σ H s):X.env.locals < s.heap.objs.size:=let⟨_,hn,_⟩:=I.loc;hn.lt
theorem Inv.sz(I:Inv X pins σ H s):X.s₀.heap.objs.size<=s.heap.objs.size:=Nat.le_trans I.ok.above (Nat.le_of_lt I.lt)
theorem Inv.nofs(I:Inv X pins σ H s) (h:s.heap.objs.size<=a):a∉X.fs:=fun hb=>by
 obtain⟨_,o,ho,_⟩:=I.ok.funs.mem hb
 exact absurd (Nat.lt_of_lt_of_le (Heap.lt_size ho) (Nat.le_trans I.sz h)) (Nat.lt_irrefl _)
theorem Inv.cne(I:Inv X pins σ H s):∀x c,X.env.cells.lookup x=some c->c≠X.env.locals:=fun x c e z=>by
 obtain⟨v,o,ho,hd⟩:=I.cell x c e
 obtain⟨m,⟨o',es,ep,ho',hd',_⟩,_⟩:=I.loc
 rw[z,ho']at ho;cases ho;rw[hd']at hd;cases hd
theorem Inv.funs(I:Inv X pins σ H s):s.heap.FunFrames X.base X.outer:=by
 have all:∀(l:List Env),(∀b∈frs l,b∈X.fs)->X.s₀.heap.FunFrames X.base l->s.heap.FunFrames X.base l:=by
  intro l
  induction l with
  | nil=>intro _ _;trivial
  | cons env r ih =>
   intro hs hl
   obtain⟨hk,⟨L,o,hf,hn,ho,hd⟩,hr⟩:=hl
   have hL:L∈X.fs:=hs L (by unfold frs;rw[List.filterMap_cons,hf];exact List.mem_cons_self)
   obtain⟨sl,e⟩:=I.base.slot L o ho (I.ok.frf L hL) hL fun z=>I.ok.exfs L z hL
   exact⟨hk,⟨L,_,hf,hn,e,hd⟩,ih (fun b hb=>hs b (by unfold frs;rw[List.filterMap_cons,hf];exact List.mem_cons_of_mem _ hb)) hr⟩
 exact all X.outer (fun _ hb=>hb) I.ok.funs
theorem Inv.stack(I:Inv X pins σ H s):s.heap.FunFrames X.base X.stack:=by
 rcases I.ok.stk with e|⟨e,hf⟩
 ·rw[e];exact I.funs
 ·rw[e]
  obtain⟨m,hn,_⟩:=I.loc
  refine .cons (by rw[I.ok.kind];decide) hf hn ?_ I.funs
  exact Heap.get?_none_of_le (Nat.le_trans I.ok.bsz I.ok.above)
theorem Inv.stkSub(I:Inv X pins σ H s):∀b∈frs X.stack,b∈X.env.locals::X.fs:=fun b hb=>by
 rcases I.ok.stk with e|⟨e,hf⟩
 ·rw[e]at hb;exact List.mem_cons_of_mem _ hb
 ·rw[e]at hb
  unfold frs at hb
  rw[List.filterMap_cons,hf]at hb
  exact hb
theorem Inv.stkFree(I:Inv X pins σ H s):∀b∈frs X.stack,H b=none:=fun b hb=>by
 rcases List.mem_cons.mp (I.stkSub b hb) with e|hb
 ·rw[e];exact I.free
 ·obtain⟨_,o,ho,_⟩:=I.ok.funs.mem hb
  exact I.base.free b o ho (I.ok.frf b hb) fun z=>I.ok.exfs b z hb
theorem Inv.step{g':Array GenState}{t':Nat}{d':Drawn}{ch:List Addr}(I:Inv X pins σ H s)
  (hch:∀b∈ch,(b∈X.ex\/X.s₀.heap.objs.size<=b)/\b≠X.env.locals/\(∀x c,X.env.cells.lookup x=some c->c≠b)/\∀p∈X.pn++pins,p.1≠b)
  (keep:∀b o,b≠X.env.locals->b∉X.fs->b∉ch->s.heap.get? b=some o->H b=none->h'.get? b=some o)
  (slot:∀b o,b≠X.env.locals->b∈X.fs->b∉ch->s.heap.get? b=some o->H b=none->∃sl,h'.get? b=some { o with slots:=sl }) (free:∀b o,b∉ch->s.heap.get? b=some o->H b=none->H' b=none)
  (there:∀b o,b∉ch->s.heap.get? b=some o->∃o',h'.get? b=some o')
  (tups:∀b xs,H b=some (.tup xs)->H' b=some (.tup xs)) (frzs:∀b o u,H b=some (.frz o u)->H' b=some (.frz o u)) (tbls:∀b ps,H b=some (.tbl ps)->∃more,H' b=some (.tbl (ps++more)))
  (ns:∀m,s.heap.Ns X.env.locals m->h'.Ns X.env.locals m) (hok:HOk X.prog X.w H' h') (hg:AllBare g') :
  Inv X pins σ H' { s with heap:=h',gens:=g',drawn:=d',toks:=t' }:=by
 have neL:∀b o,X.s₀.heap.get? b=some o->b≠X.env.locals:=fun b o e=>Nat.ne_of_lt (Nat.lt_of_lt_of_le (Heap.lt_size e) I.ok.above)
 have neC:∀b o,X.s₀.heap.get? b=some o->b∉X.ex->b∉ch:=fun b o e hx hb=>by
  rcases(hch b hb).1 with z|z
  ·exact hx z
  ·exact absurd (Nat.lt_of_lt_of_le (Heap.lt_size e) z) (Nat.lt_irrefl _)
 have cellK:∀x c,X.env.cells.lookup x=some c->∀v,s.heap.IsCell c v->h'.IsCell c v:=fun x c e v ⟨o,ho,hd⟩=>by
  have nch:c∉ch:=fun z=>(hch c z).2.2.1 x c e rfl
  by_cases hc:c∈X.fs
  ·obtain⟨sl,q⟩:=slot c o (I.cne x c e) hc nch ho (I.freeC x c e)
   exact⟨_,q,hd⟩
  ·exact⟨o,keep c o (I.cne x c e) hc nch ho (I.freeC x c e),hd⟩
 refine⟨I.ok,I.os,hg,⟨fun b o e n hb hx=>?_,fun b o e n hb hx=>?_,fun b o e n hx=>?_,fun b o e hx=>?_,fun b xs e=>tups b xs (I.base.tups b xs e),fun b o xs e=>frzs b o xs (I.base.frzs b o xs e),fun b ps e=>?_⟩,?_,fun x c e=>?_,?_,fun x c e=>?_,fun p hp=>?_,hok,I.len⟩
 ·exact keep b o (neL b o e) hb (neC b o e hx) (I.base.keep b o e n hb hx) (I.base.free b o e n hx)
 ·obtain⟨sl,e1⟩:=I.base.slot b o e n hb hx
  obtain⟨sl',e2⟩:=slot b _ (neL b o e) hb (neC b o e hx) e1 (I.base.free b o e n hx)
  exact⟨sl',e2⟩
 ·obtain⟨o',e1⟩:=I.base.there b o e hx
  exact free b o' (neC b o e hx) e1 (I.base.free b o e n hx)
 ·obtain⟨o',e1⟩:=I.base.there b o e hx
  exact there b o' (neC b o e hx) e1
 ·obtain⟨m1,e1⟩:=I.base.tbls b ps e
  obtain⟨m2,e2⟩:=tbls b _ e1
  exact⟨m1++m2,by rw[e2,Array.append_assoc]⟩
 ·obtain⟨m,hn,hl⟩:=I.loc
  refine⟨m,ns m hn,fun i x v e1 e2 e3=>?_⟩
  obtain⟨u,r,l⟩:=hl i x v e1 e2 e3
  refine⟨u,r,?_⟩
  rcases l with l|⟨k,c,e,z⟩
  ·exact .inl l
  ·exact .inr ⟨k,c,e,cellK x c e _ z⟩
 ·obtain⟨v,z⟩:=I.cell x c e
  exact⟨v,cellK x c e v z⟩
 ·obtain⟨m,⟨o,_,_,ho,_⟩,_⟩:=I.loc
  exact free _ o (fun z=>(hch _ z).2.1 rfl) ho I.free
 ·obtain⟨v,o,ho,hd⟩:=I.cell x c e
  exact free c o (fun z=>(hch c z).2.2.1 x c e rfl) ho (I.freeC x c e)
 ·obtain⟨e,n,ne,nf,d⟩:=I.pin p hp
  have nch:p.1∉ch:=fun z=>(hch p.1 z).2.2.2 p hp rfl
  exact⟨keep p.1 p.2 ne nf nch e n,free p.1 p.2 nch e n,ne,nf,d⟩
theorem Inv.un{t':Nat}(I:Inv X pins σ H s) (u:Un X.fs [] H H' s.heap h') (hok:HOk X.prog X.w H' h'):Inv X pins σ H' { s with heap:=h',toks:=t' }:=by
 obtain⟨m,⟨o,es,ep,ho,r⟩,_⟩:=id I.loc
 obtain⟨sl,hL⟩:=u.any ho I.free (by simp)
 exact I.step (g':=s.gens) (d':=s.drawn) (ch:=[]) (fun _ z=>nomatch z) (fun b o _ hb _ e n=>u.keep b o e n hb (by simp)) (fun b o _ hb _ e n=>u.slot b o e n hb (by simp)) (fun b o _ e n=>u.free b o e n (by simp)) (fun b o _ e=>u.there b o e (by simp)) u.tups u.frzs u.tbls (fun m' hm=>by
  obtain⟨o',es',ep',ho',r'⟩:=hm
  rw[ho]at ho';cases ho'
  exact⟨_,es',ep',hL,r'⟩) hok I.bare
theorem Inv.call{g':Array GenState}{t':Nat}{d':Drawn}{ch:List Addr}(I:Inv X pins σ H s) (u:Un (frs X.stack) ch H H' s.heap h') (hok:HOk X.prog X.w H' h') (hg:AllBare g')
  (hch:∀b∈ch,(b∈X.ex\/X.s₀.heap.objs.size<=b)/\b≠X.env.locals/\(∀x c,X.env.cells.lookup x=some c->c≠b)/\∀p∈X.pn++pins,p.1≠b) :
  Inv X pins σ H' { s with heap:=h',gens:=g',drawn:=d',toks:=t' }:=by
 obtain⟨m,⟨o,es,ep,ho,r⟩,_⟩:=id I.loc
 obtain⟨sl,hL⟩:=u.any ho I.free fun z=>(hch _ z).2.1 rfl
 exact I.step (ch:=ch) hch (fun b o hL hb hc e n=>u.keep b o e n (fun z=>(List.mem_cons.mp (I.stkSub b z)).elim hL hb) hc) (fun b o _ _ hc e n=>u.any e n hc) (fun b o hc e n=>u.free b o e n hc) (fun b o hc e=>u.there b o e hc) u.tups u.frzs u.tbls (fun m' hm=>by
  obtain⟨o',es',ep',ho',r'⟩:=hm
  rw[ho]at ho';cases ho'
  exact⟨_,es',ep',hL,r'⟩) hok hg
theorem Inv.turned{t':Nat}{it:Addr}(I:Inv X pins σ H s) (k:∀b o,b≠it->s.heap.get? b=some o->h'.get? b=some o) (hn:H it=none) (hL:it≠X.env.locals)
  (h1:it∈X.ex\/X.s₀.heap.objs.size<=it) (h2:∀x c,X.env.cells.lookup x=some c->c≠it) (h3:∀p∈X.pn++pins,p.1≠it):Inv X pins σ H { s with heap:=h',toks:=t' }:=by
 have nit:∀b u,H b=some u->b≠it:=fun b u e z=>by rw[z,hn]at e;cases e
 refine I.step (g':=s.gens) (d':=s.drawn) (ch:=[it]) (fun b hb=>?_) (fun b o _ _ hc e _=>k b o (fun z=>hc (by simp[z])) e) (fun b o _ _ hc e _=>⟨o.slots,k b o (fun z=>hc (by simp[z])) e⟩) (fun _ _ _ _ n=>n)
  (fun b o hc e=>⟨o,k b o (fun z=>hc (by simp[z])) e⟩) (fun _ _ e=>e) (fun _ _ _ e=>e) (fun b ps e=>⟨#[],by rw[e];simp⟩) (fun m hm=>?_) (fun b u e=>?_) I.bare
 ·have e:b=it:=by simpa using hb
  subst e
  exact⟨h1,hL,h2,h3⟩
 ·obtain⟨o,es,ep,ho,r⟩:=hm
  exact⟨o,es,ep,k _ o (Ne.symm hL) ho,r⟩
 ·refine(I.hok b u e).stay (fun c v hc q=>k c v ?_ q) (fun _ q=>q) fun _ _ q=>q
  rcases hc with z|z
  ·rw[z];exact nit b u e
  ·exact nit c _ z
theorem Inv.tok(I:Inv X pins σ H s) (t:Nat):Inv X pins σ H { s with toks:=t }:=I.un (h':=s.heap) (t':=t) Un.refl I.hok
theorem Inv.kept(I:Inv X pins σ H s) (k:∀b u,s.heap.get? b=some u->h'.get? b=some u):Inv X pins σ H { s with heap:=h',toks:=t' }:=I.un (Un.kept k) (I.hok.kept k)
theorem Inv.laid(I:Inv X pins σ H s) (k:∀b u,s.heap.get? b=some u->h'.get? b=some u) (hp:s.heap.objs.size<=a) (new:N8 X.prog X.w (upd H a o) h' a o) :
  Inv X pins σ (upd H a o) { s with heap:=h',toks:=t' }:=I.un (Un.laid k hp (I.hok.fresh hp)) (I.hok.laid k hp new)
theorem Inv.write(I:Inv X pins σ H s) (mu:Mut (H x)) (he:e=x\/H e=some (.own x)) (k:∀b u,b≠e->s.heap.get? b=some u->h'.get? b=some u) (heo:∃u,h'.get? e=some u)
  (new:N8 X.prog X.w (upd H x o) h' x o):Inv X pins σ (upd H x o) { s with heap:=h',toks:=t' }:=I.un (Un.write mu he k heo) (I.hok.write mu he k heo new)
theorem Inv.pins_of(I:Inv X pins σ H s) (h:∀p∈pins',s.heap.get? p.1=some p.2/\H p.1=none/\p.1≠X.env.locals/\p.1∉X.fs/\∀v,p.2.data≠.cell v):Inv X pins' σ H s :=
 ⟨I.ok,I.os,I.bare,I.base,I.loc,I.cell,I.free,I.freeC,fun p hp=>(List.mem_append.mp hp).elim (fun z=>I.pin p (List.mem_append_left _ z)) (h p),I.hok,I.len⟩
theorem az9{N:List Str}(hN:N.Nodup) {i j:Nat}{x:Str}(a:N[i]? = some x) (b:N[j]? = some x):i=j:=by
 obtain⟨h1,e1⟩:=List.getElem?_eq_some_iff.mp a
 obtain⟨h2,e2⟩:=List.getElem?_eq_some_iff.mp b
 exact(List.getElem_inj hN).mp (e1.trans e2.symm)
theorem ap2(I:Inv X pins σ H s) (hN:X.N.Nodup) (hi:X.N[i]? = some x) (hx:Loc X.env.scope x) (r:B6 v u)
  (h:∀s',Inv X pins (σ.set i (some v)) H s'->(∃a,Heap.SameBut a s.heap s'.heap/\(a=X.env.locals\/X.env.cells.lookup x=some a))->Q () s') (hf:X.fn x=true\/X.env.scope.names.lookup x=some .local:=by first|exact .inl rfl|exact .inr rfl|assumption):wpAny M A (storeName X.env x u) Q E s:=by
 obtain⟨m,hn,hl⟩:=id I.loc
 have hcls:(X.env.scope.kind == .class || (X.env.scope.kind == .module&&X.env.locals != X.env.globals))=false:=by rw[I.ok.kind];rfl
 have hiσ:i < σ.length:=by rw[I.len];exact(List.getElem?_eq_some_iff.mp hi).1
 have cne:=I.cne
 have tracked:∀{a:Addr}{h':Heap},(∃o,s.heap.get? a=some o/\H a=none)->Heap.SameBut a s.heap h'->HOk X.prog X.w H h':=fun{a h'} ha hs b ob e=>by
  obtain⟨_,_,hfree⟩:=ha
  refine(I.hok b ob e).stay (fun c w' hc q=>(hs.2 c ?_).trans q) (fun _ q=>q) fun _ _ q=>q
  rintro rfl
  rcases hc with rfl|hc
  ·rw[hfree]at e;cases e
  ·rw[hfree]at hc;cases hc
 rcases hx with hk|hk
 ·refine wpAny_storeName_local hk hn (fun h' hn' hs=>?_) hcls
  obtain⟨oL,_,_,hoL,_⟩:=id hn
  refine h _ ⟨I.ok,I.os,I.bare,⟨fun b o e n hb hx=>?_,fun b o e n hb hx=>?_,I.base.free,fun b o e hx=>?_,I.base.tups,I.base.frzs,I.base.tbls⟩,⟨_,hn',fun j y v' e1 e2 e3=>?_⟩,fun y c e=>?_,I.free,I.freeC,fun p hp=>?_,tracked ⟨oL,hoL,I.free⟩ hs,by simpa using I.len⟩ ⟨_,hs,.inl rfl⟩
  ·exact(hs.2 b (Nat.ne_of_lt (Nat.lt_of_lt_of_le (Heap.lt_size e) I.ok.above))).trans (I.base.keep b o e n hb hx)
  ·obtain⟨sl,e1⟩:=I.base.slot b o e n hb hx
   exact⟨sl,(hs.2 b (Nat.ne_of_lt (Nat.lt_of_lt_of_le (Heap.lt_size e) I.ok.above))).trans e1⟩
  ·obtain⟨o',e1⟩:=I.base.there b o e hx
   exact⟨o',(hs.2 b (Nat.ne_of_lt (Nat.lt_of_lt_of_le (Heap.lt_size e) I.ok.above))).trans e1⟩
  ·by_cases hj:j=i
   ·subst hj
    rw[hi]at e1;cases e1
    rw[List.getElem?_set_self hiσ]at e2
    cases e2
    exact⟨u,r,.inl ⟨hk,by simp⟩⟩
   ·rw[List.getElem?_set_ne (Ne.symm hj)]at e2
    obtain⟨u',r',q⟩:=hl j y v' e1 e2 e3
    refine⟨u',r',?_⟩
    rcases q with⟨k,e⟩|⟨k,c,e,z⟩
    ·refine .inl ⟨k,?_⟩
     have:y≠x:=fun e=>hj (az9 hN e1 (e ▸ hi))
     simp[this,e]
    ·exact .inr ⟨k,c,e,z.sameBut hs (cne y c e)⟩
  ·obtain⟨w',z⟩:=I.cell y c e
   exact⟨w',z.sameBut hs (cne y c e)⟩
  ·obtain⟨e,n,ne,nf,d⟩:=I.pin p hp
   exact⟨(hs.2 p.1 ne).trans e,n,ne,nf,d⟩
 ·have hfn:X.fn x=true:=by
   rcases hf with z|z
   ·exact z
   ·rw[z]at hk;cases hk
  obtain⟨c,hc⟩:=I.ok.has x (.inl hk)
  obtain⟨w',z⟩:=I.cell x c hc
  refine wpAny_storeName_cell I.ok.kind hk hc z (fun h' hc' hs=>?_)
  obtain⟨oc,hoc,hocd⟩:=id z
  refine h { s with heap:=h' } ⟨I.ok,I.os,I.bare,⟨fun b o e n hb hx=>?_,fun b o e n hb hx=>?_,I.base.free,fun b o e hx=>?_,I.base.tups,I.base.frzs,I.base.tbls⟩,⟨m,hn.sameBut hs (Ne.symm (cne x c hc)),fun j y v' e1 e2 e3=>?_⟩,fun y c' e=>?_,I.free,I.freeC,fun p hp=>?_,tracked ⟨oc,hoc,I.freeC x c hc⟩ hs,by simpa using I.len⟩ ⟨c,hs,.inr hc⟩
  ·exact(hs.2 b (Nat.ne_of_lt (Nat.lt_of_lt_of_le (Heap.lt_size e) (I.ok.cab x c hfn hc)))).trans (I.base.keep b o e n hb hx)
  ·obtain⟨sl,e1⟩:=I.base.slot b o e n hb hx
   exact⟨sl,(hs.2 b (Nat.ne_of_lt (Nat.lt_of_lt_of_le (Heap.lt_size e) (I.ok.cab x c hfn hc)))).trans e1⟩
  ·obtain⟨o',e1⟩:=I.base.there b o e hx
   exact⟨o',(hs.2 b (Nat.ne_of_lt (Nat.lt_of_lt_of_le (Heap.lt_size e) (I.ok.cab x c hfn hc)))).trans e1⟩
  ·by_cases hj:j=i
   ·subst hj
    rw[hi]at e1;cases e1
    rw[List.getElem?_set_self hiσ]at e2
    cases e2
    exact⟨u,r,.inr ⟨.inl hk,c,hc,hc'⟩⟩
   ·rw[List.getElem?_set_ne (Ne.symm hj)]at e2
    obtain⟨u',r',q⟩:=hl j y v' e1 e2 e3
    refine⟨u',r',?_⟩
    rcases q with q|⟨k,c',e,z'⟩
    ·exact .inl q
    ·refine .inr ⟨k,c',e,z'.sameBut hs ?_⟩
     rintro rfl
     exact hj (az9 hN e1 (I.ok.inj _ _ _ e hc ▸ hi))
  ·by_cases hcc:c'=c
   ·subst hcc;exact⟨_,hc'⟩
   ·obtain⟨w2,z2⟩:=I.cell y c' e
    exact⟨w2,z2.sameBut hs hcc⟩
  ·obtain⟨e,n,ne,nf,d⟩:=I.pin p hp
   refine⟨(hs.2 p.1 ?_).trans e,n,ne,nf,d⟩
   intro q
   rw[q,hoc]at e
   have q':oc=p.2:=Option.some.inj e
   exact d w' (by rw[← q'];exact hocd)
theorem i4(I:Inv X pins σ H s) (hN:X.N.Nodup) (hi:X.N[i]? = some x) (hx:Loc X.env.scope x) (r:B6 v u)
  (h:∀s',Inv X pins (σ.set i (some v)) H s'->Q () s') (hf:X.fn x=true\/X.env.scope.names.lookup x=some .local:=by first|exact .inl rfl|exact .inr rfl|assumption):wpAny M A (storeName X.env x u) Q E s :=
 ap2 I hN hi hx r (fun s' I' _=>h s' I') hf
theorem Inv.call'(I:Inv X pins σ H s) (ho:s'.os=s.os) (u:Un (frs X.stack) ch H H' s.heap s'.heap) (hok:HOk X.prog X.w H' s'.heap) (hg:AllBare s'.gens)
  (hch:∀b∈ch,(b∈X.ex\/X.s₀.heap.objs.size<=b)/\b≠X.env.locals/\(∀x c,X.env.cells.lookup x=some c->c≠b)/\∀p∈X.pn++pins,p.1≠b):Inv X pins σ H' s':=by
 obtain⟨h',g',d',t',o'⟩:=s'
 have e:o'=s.os:=ho
 subst e
 exact I.call (g':=g') (t':=t') (d':=d') u hok hg hch
end
noncomputable abbrev XK:=Value->Option Addr->Hp->Prop
noncomputable abbrev St:=List (Option V)
noncomputable abbrev VK:=V->Hp->Prop
noncomputable abbrev TE:=St->Hp->VK->Prop
noncomputable abbrev TT:=St->Hp->(Bool->Hp->Prop)->Prop
noncomputable abbrev TA:=St->Hp->(List V->Hp->Prop)->Prop
structure Ends where
 nx:St->Hp->Prop
 rt:VK
 bk:St->Hp->Prop:=fun _ _=>False
 ct:St->Hp->Prop:=fun _ _=>False
noncomputable abbrev TS:=Ends->St->Hp->Prop
noncomputable def EP(X:Cx) (pins:List (Addr×Obj)) (σ:St) (Q:VK) (u:Value) (s':Shared):Prop:=∃v H',Inv X pins σ H' s'/\B6 v u/\Q v H'
noncomputable def TP(X:Cx) (pins:List (Addr×Obj)) (σ:St) (Q:Bool->Hp->Prop) (b:Bool) (s':Shared):Prop:=∃H',Inv X pins σ H' s'/\Q b H'
noncomputable def AP(X:Cx) (pins:List (Addr×Obj)) (σ:St) (Q:List V->Hp->Prop) (us:List Value) (s':Shared):Prop:=∃vs H',Inv X pins σ H' s'/\B9 vs us/\Q vs H'
noncomputable def SP(X:Cx) (pins:List (Addr×Obj)) (D:Ends) (f:Flow) (s':Shared):Prop :=
 match f with
 | .next=>∃σ' H',Inv X pins σ' H' s'/\D.nx σ' H'
 | .brk=>∃σ' H',Inv X pins σ' H' s'/\D.bk σ' H'
 | .cont=>∃σ' H',Inv X pins σ' H' s'/\D.ct σ' H'
 | .ret u=>∃v σ' H',Inv X pins σ' H' s'/\B6 v u/\D.rt v H'
noncomputable def PE(X:Cx) (e:Expr) (t:TE):Prop :=
 ∀(pins:List (Addr×Obj)) (s:Shared) (σ:St) (H:Hp) (Q:VK),Inv X pins σ H s->t σ H Q->wpAny (model X.prog X.w) X.A (eval e X.env) (EP X pins σ Q) X.xe s
noncomputable def PT(X:Cx) (e:Expr) (t:TT):Prop :=
 ∀(pins:List (Addr×Obj)) (s:Shared) (σ:St) (H:Hp) (Q:Bool->Hp->Prop),Inv X pins σ H s->t σ H Q->wpAny (model X.prog X.w) X.A (isTrue e X.env (eval e X.env)) (TP X pins σ Q) X.xe s
noncomputable def PW(X:Cx) (e:Expr) (t:TT):Prop :=
 ∀(whole:Sem Value) (pins:List (Addr×Obj)) (s:Shared) (σ:St) (H:Hp) (Q:Bool->Hp->Prop),Inv X pins σ H s->t σ H Q->wpAny (model X.prog X.w) X.A (isTrue e X.env whole) (TP X pins σ Q) X.xe s
theorem PW.pt(h:PW X e t):PT X e t:=h _
noncomputable def PA(X:Cx) (es:List Expr) (t:TA):Prop :=
 ∀(pos:Pos) (pins:List (Addr×Obj)) (s:Shared) (σ:St) (H:Hp) (Q:List V->Hp->Prop),Inv X pins σ H s->t σ H Q->wpAny (model X.prog X.w) X.A (spliced (backTo pos (starEach es X.env))) (AP X pins σ Q) X.xe s
noncomputable def PS(X:Cx) (st:Stmt) (t:TS):Prop :=
 ∀(pins:List (Addr×Obj)) (s:Shared) (σ:St) (H:Hp) (D:Ends),Inv X pins σ H s->t D σ H->wpAny (model X.prog X.w) X.A (exec st X.env) (SP X pins D) X.xe s
noncomputable def PSs(X:Cx) (st:List Stmt) (t:TS):Prop :=
 ∀(pins:List (Addr×Obj)) (s:Shared) (σ:St) (H:Hp) (D:Ends),Inv X pins σ H s->t D σ H->wpAny (model X.prog X.w) X.A (execs st X.env) (SP X pins D) X.xe s
theorem thn{α:Type}{t:Sem α}{Q Q':α->Shared->Prop}{M:Model}{A:Around}{E:Value->Shared->Prop}{s:Shared}(h:wpAny M A t Q E s) (hQ:∀a s,Q a s->Q' a s):wpAny M A t Q' E s:=wpAny_mono h hQ fun _ _ x=>x
end L2
namespace L2
open PySem PySem.Spec PyProof.Rows
section
variable {X:Cx}
theorem bin{a b:Expr}{ta tb:TE}(ha:PE X a ta) (hb:PE X b tb) {pins:List (Addr×Obj)}{s:Shared}{σ:St}{H:Hp}{R:V->V->Hp->Prop}(I:Inv X pins σ H s) (h:ta σ H fun x H1=>tb σ H1 fun y H2=>R x y H2)
  {α:Type}{Q:α->Shared->Prop}{f:Value->Value->Sem α}
  (hf:∀v u s2 x y H2,Inv X pins σ H2 s2->B6 x v->B6 y u->R x y H2->wpAny (model X.prog X.w) X.A (f v u) Q X.xe s2) :
  wpAny (model X.prog X.w) X.A (eval a X.env) (fun v s₁=>wpAny (model X.prog X.w) X.A (eval b X.env) (fun u s₂=>wpAny (model X.prog X.w) X.A (f v u) Q X.xe s₂) X.xe s₁) X.xe s:=by
 refine thn (ha pins s σ H _ I h) fun v s1 ⟨x,H1,I1,r1,q1⟩=>?_
 refine thn (hb pins s1 σ H1 _ I1 q1) fun u s2 ⟨y,H2,I2,r2,q2⟩=>?_
 exact hf v u s2 x y H2 I2 r1 r2 q2
noncomputable def bI3(i:Nat):TE:=fun σ H Q=>∃v,σ[i]? = some (some v)/\Q v H
noncomputable def tC(v:V):TE:=fun _ H Q=>Q v H
theorem P2(hN:X.N[i]? = some x) (hv:Vis X.env.scope x) (hd:(x==("__debug__" : Str))=false:=by decide) (hcd:(x==("__classdict__" : Str))=false:=by decide):PE X (.Name x pos) (bI3 i):=by
 intro pins s σ H Q I h
 obtain⟨v,e,h⟩:=h
 obtain⟨m,hn,hl⟩:=I.loc
 obtain⟨u,r,l⟩:=hl i x v hN e hv
 have fin:EP X pins σ Q u s:=⟨v,H,I,r,h⟩
 rcases l with⟨hk,hm⟩|⟨hk,c,hc,hcell⟩
 ·exact wpAny_Name (wpAny_loadName_local I.ok.kind hk hn hm fin) hd
 ·rcases hk with hk|hk
  ·exact wpAny_Name (wpAny_loadName_cell I.ok.kind hk hc hcell fin) hd
  ·exact wpAny_Name (wpAny_loadName_free I.ok.kind hk hc hcell fin hcd) hd
theorem bL7{i j pos}:PE X (.Constant (.int i) j pos) (tC (.int i)):=fun _ _ _ H _ I h=>wpAny_Constant_int ⟨.int i,H,I.tok _,⟨_,rfl⟩,h⟩
theorem bZ5{b j pos}:PE X (.Constant (.bool b) j pos) (tC (.bl b)):=fun _ _ _ H _ I h=>Constant_bool ⟨.bl b,H,I,rfl,h⟩
theorem bL5{j pos}:PE X (.Constant .none j pos) (tC .non):=fun _ _ _ H _ I h=>Constant_none ⟨.non,H,I,rfl,h⟩
theorem bL2{x j pos}:PE X (.Constant (.str x) j pos) (tC (.str x)):=fun _ _ _ H _ I h=>Calls.Constant_str ⟨.str x,H,I.tok _,⟨_,rfl⟩,h⟩
noncomputable def Gl(X:Cx) (x:Str):Prop:=X.env.kindOf x=some .globalImplicit
theorem W8(I:Inv X pins σ H s) (hg:Gl X x) (hm:X.mg x=some u) (h:Q u s)
  (hd:(x==("__debug__" : Str))=false:=by decide):wpAny (model X.prog X.w) X.A (eval (.Name x pos) X.env) Q E s :=
 Calls.Name_function_global I.ok.kind hg (Calls.loadGlobal_global (by rw[I.ok.glob];exact I.mod.glob.keeps I.bk) hm h) hd
theorem al5(I:Inv X pins σ H s) (hg:Gl X x) (hm:X.mg x=none) (hv:bootBuiltins x=some u) (h:Q u s)
  (hn:x ≠ "__name__" := by decide) (hd:(x==("__debug__" : Str))=false:=by decide):wpAny (model X.prog X.w) X.A (eval (.Name x pos) X.env) Q E s:=by
 obtain⟨mb,h1,h2⟩:=I.mod.blt
 exact Calls.Name_function_global I.ok.kind hg (Calls.loadGlobal_builtin (by rw[I.ok.glob];exact I.mod.glob.keeps I.bk) hm (by rw[I.ok.blt];exact h1.keeps I.bk) ((h2 x hn).trans hv) h) hd
theorem bu4(hg:Gl X x) (hm:X.mg x=some u) (r:B6 v u) (hd:(x==("__debug__" : Str))=false:=by decide):PE X (.Name x pos) (tC v) :=
 fun _ _ _ H _ I h=>W8 I hg hm ⟨v,H,I,r,h⟩ hd
theorem bu6(hg:Gl X x) (hm:X.mg x=none) (hv:bootBuiltins x=some u) (r:B6 v u) (hn:x ≠ "__name__" := by decide) (hd:(x==("__debug__" : Str))=false:=by decide):PE X (.Name x pos) (tC v) :=
 fun _ _ _ H _ I h=>al5 I hg hm hv ⟨v,H,I,r,h⟩ hn hd
variable {a b:Expr}{ta tb:TE}{pos:Pos}
noncomputable def PC(X:Cx) (op:CmpOp) (a b:Expr) (t:TE):Prop :=
 ∀(pins:List (Addr×Obj)) (s:Shared) (σ:St) (H:Hp) (Q:VK),Inv X pins σ H s->t σ H Q ->
  wpAny (model X.prog X.w) X.A (eval a X.env) (fun v s₁=>wpAny (model X.prog X.w) X.A (eval b X.env) (fun u s₂=>wpAny (model X.prog X.w) X.A (compareOp op v u) (EP X pins σ Q) X.xe s₂) X.xe s₁) X.xe s
theorem aA0(b:Expr) (h:op≠.In) (h2:op≠.NotIn):behindInMarks op b=false:=by
 have e1:(op==CmpOp.In)=false:=by cases op<;>first|rfl|exact absurd rfl h
 have e2:(op==CmpOp.NotIn)=false:=by cases op<;>first|rfl|exact absurd rfl h2
 cases b<;>simp[behindInMarks,e1,e2]
noncomputable def tB(t:TE):TT:=fun σ H Q=>t σ H fun x H1=>∃c,x=.bl c/\Q c H1
theorem bL9(h:PC X op a b t) (h1:behindInMarks op b=false:=by first|exact aA0 _ (by decide) (by decide)|rfl):PE X (.Compare a [op] [b] pos) t:=fun pins s σ H Q I hw=>wpAny_Compare1 (h pins s σ H Q I hw) h1
theorem bK6(h:PC X op a b t) (h1:behindInMarks op b=false:=by first|exact aA0 _ (by decide) (by decide)|rfl):PT X (.Compare a [op] [b] pos) (tB t):=by
 intro pins s σ H Q I hw
 refine wpAny_isTrue_Compare1 (thn (h pins s σ H _ I hw) fun v s1 h1=>thn h1 fun u s2 h2=>thn h2 fun c s3 ⟨x,H1,I1,r1,q1⟩=>?_) h1
 obtain⟨d,rfl,q⟩:=q1
 cases r1
 exact wpAny_truthy_bool ⟨H1,I1,q⟩
variable {tA tB':TT}{P4:List Expr}
noncomputable def ch5(t u:TT):TT:=fun σ H Q=>t σ H fun c H1=>if c=true then u σ H1 Q else Q false H1
noncomputable def tOr(t u:TT):TT:=fun σ H Q=>t σ H fun c H1=>if c=true then Q true H1 else u σ H1 Q
noncomputable def cg8(t:TT):TT:=fun σ H Q=>t σ H fun c H1=>Q (!c) H1
theorem bt2(ha:PT X a tA):PW X (.BoolOp .And [a] pos) tA:=by
 intro wh pins s σ H Q I h
 refine isTrue_and (thn (ha pins s σ H Q I h) fun c s1 e=>?_)
 cases c with
 | true=>exact isTrue_and_nil e
 | false=>exact e
theorem bK4(ha:PT X a tA):PW X (.BoolOp .Or [a] pos) tA:=by
 intro wh pins s σ H Q I h
 refine isTrue_or (thn (ha pins s σ H Q I h) fun c s1 e=>?_)
 cases c with
 | false=>exact isTrue_or_nil e
 | true=>exact e
theorem bb2(ha:PT X a tA) (hb:PW X (.BoolOp .And (b::P4) pos) tB'):PW X (.BoolOp .And (a::b::P4) pos) (ch5 tA tB'):=by
 intro wh pins s σ H Q I h
 refine isTrue_and (thn (ha pins s σ H _ I h) fun c s1 ⟨H1,I1,q1⟩=>?_)
 cases c with
 | true=>exact hb wh pins s1 σ H1 Q I1 q1
 | false=>exact⟨H1,I1,q1⟩
theorem bC9(ha:PT X a tA) (hb:PW X (.BoolOp .Or (b::P4) pos) tB'):PW X (.BoolOp .Or (a::b::P4) pos) (tOr tA tB'):=by
 intro wh pins s σ H Q I h
 refine isTrue_or (thn (ha pins s σ H _ I h) fun c s1 ⟨H1,I1,q1⟩=>?_)
 cases c with
 | true=>exact⟨H1,I1,q1⟩
 | false=>exact hb wh pins s1 σ H1 Q I1 q1
theorem bK5(ha:PT X a tA):PT X (.UnaryOp .Not a pos) (cg8 tA):=by
 intro pins s σ H Q I h
 exact isTrue_not (ha pins s σ H (fun c H1=>Q (!c) H1) I h)
noncomputable def bY0(ta tb:TE):TE:=fun σ H Q=>ta σ H fun x H1=>∃c,x=.bl c/\if c=true then tb σ H1 Q else Q (.bl false) H1
noncomputable def cg7(ta tb:TE):TE:=fun σ H Q=>ta σ H fun x H1=>∃c,x=.bl c/\if c=true then Q (.bl true) H1 else tb σ H1 Q
noncomputable def bX4(ta:TE):TE:=fun σ H Q=>ta σ H fun x H1=>∃c,x=.bl c/\Q (.bl (!c)) H1
theorem bL3{op} (h:PE X a t):PE X (.BoolOp op [a] pos) t:=fun pins s σ H Q I hw=>BoolOp_one (h pins s σ H Q I hw)
theorem bc8(ha:PE X a ta) (hb:PE X (.BoolOp .And (b::P4) pos) tb):PE X (.BoolOp .And (a::b::P4) pos) (bY0 ta tb):=by
 intro pins s σ H Q I h
 refine BoolOp_and (thn (ha pins s σ H _ I h) fun v s1 ⟨x,H1,I1,r1,q1⟩=>?_)
 obtain⟨c,rfl,q1⟩:=q1
 cases r1
 refine wpAny_truthy_bool ?_
 cases c with
 | true=>exact hb pins s1 σ H1 Q I1 q1
 | false=>exact⟨.bl false,H1,I1,rfl,q1⟩
theorem bD1(ha:PE X a ta) (hb:PE X (.BoolOp .Or (b::P4) pos) tb):PE X (.BoolOp .Or (a::b::P4) pos) (cg7 ta tb):=by
 intro pins s σ H Q I h
 refine BoolOp_or (thn (ha pins s σ H _ I h) fun v s1 ⟨x,H1,I1,r1,q1⟩=>?_)
 obtain⟨c,rfl,q1⟩:=q1
 cases r1
 refine wpAny_truthy_bool ?_
 cases c with
 | false=>exact hb pins s1 σ H1 Q I1 q1
 | true=>exact⟨.bl true,H1,I1,rfl,q1⟩
theorem bL4(ha:PE X a ta):PE X (.UnaryOp .Not a pos) (bX4 ta):=by
 intro pins s σ H Q I h
 refine UnaryOp_ (thn (ha pins s σ H _ I h) fun v s1 ⟨x,H1,I1,r1,q1⟩=>?_)
 obtain⟨c,rfl,q1⟩:=q1
 cases r1
 exact not_of (wpAny_truthy_bool ⟨.bl (!c),H1,I1,rfl,q1⟩)
noncomputable def tIf(t:TT) (ta tb:TE):TE:=fun σ H Q=>t σ H fun c H1=>if c=true then ta σ H1 Q else tb σ H1 Q
theorem ab5(hc:PT X c tA) (ha:PE X a ta) (hb:PE X b tb):PE X (.IfExp c a b pos) (tIf tA ta tb):=by
 intro pins s σ H Q I h
 refine wpAny_IfExp (thn (hc pins s σ H _ I h) fun d s1 ⟨H1,I1,q1⟩=>?_)
 cases d with
 | true=>exact ha pins s1 σ H1 Q I1 q1
 | false=>exact hb pins s1 σ H1 Q I1 q1
end
end L2
namespace L2
open PySem PySem.Spec PyProof.Rows
noncomputable def SqL(K:PySem.W.Frag) (H:Hp) (a:Addr) (xs:List V):Prop :=
 Rd H a (.lst xs) \/
  ∃(o:Obj) (its:Array Value) (n:Nat),K.lookup a=some o/\o.cls=.type "list" /\ o.dict=none/\o.data=.seq its n/\its.size<=sizeLine/\B9 xs its.toList
noncomputable def SqT(K:PySem.W.Frag) (H:Hp) (a:Addr) (xs:List V):Prop :=
 Rd H a (.tup xs) \/
  ∃(o:Obj) (its:Array Value) (n:Nat),K.lookup a=some o/\o.cls=.type "tuple" /\ o.dict=none/\o.data=.seq its n/\its.size<=sizeLine/\B9 xs its.toList
noncomputable def cm0:Value->Option V
 | .none=>some .non
 | .bool b=>some (.bl b)
 | .int i _=>some (.int i)
 | .str x _=>some (.str x)
 | .bytes b _=>some (.byt b)
 | .float b _=>some (.flt b)
 | .ref a=>some (.ref a)
 | .type n=>some (.ty n)
 | _=>none
theorem B6.abs(r:B6 x u):cm0 u=some x:=by
 cases x with
 | non=>cases r;rfl
 | bl _=>cases r;rfl
 | int _=>obtain⟨t,rfl⟩:=r;rfl
 | str _=>obtain⟨t,rfl⟩:=r;rfl
 | byt _=>obtain⟨t,rfl⟩:=r;rfl
 | flt _=>obtain⟨t,rfl⟩:=r;rfl
 | ref _=>cases r;rfl
 | ty _=>cases r;rfl
theorem B6.inj(r:B6 x u) (q:B6 y u):x=y:=Option.some.inj (r.abs.symm.trans q.abs)
theorem B9.inj:∀{xs ys:List V}{us:List Value},B9 xs us->B9 ys us->xs=ys
 | _,_,_,.nil,.nil=>rfl
 | _,_,_,.cons r t,.cons r' t'=>by rw[r.inj r',B9.inj t t']
section
variable {X:Cx}{pins:List (Addr×Obj)}{σ:St}{H:Hp}{s:Shared}{a:Addr}{xs ys:List V}
theorem SqL.of{K:PySem.W.Frag}(h:H a=some (.lst xs)):SqL K H a xs:=.inl (.inl h)
theorem SqT.of{K:PySem.W.Frag}(h:H a=some (.tup xs)):SqT K H a xs:=.inl (.inl h)
theorem Inv.list(I:Inv X pins σ H s) (h:SqL X.K H a xs):∃its:List Value,B9 xs its/\PlainL s.heap a its.toArray/\xs.length<=sizeLine:=by
 rcases h with h|⟨o,its,n,hk,hc,hd,hs,hz,r⟩
 ·obtain⟨z,its,n,r,e⟩:=h.ok I.hok
  exact⟨its,r,⟨_,n,e,rfl,rfl,rfl⟩,z⟩
 ·refine⟨its.toList,r,⟨o,n,I.kIn a o hk,hc,hd,by simpa using hs⟩,?_⟩
  have e:=r.length
  simp only[Array.length_toList]at e
  omega
theorem Inv.tupN(I:Inv X pins σ H s) (h:SqT X.K H a xs):∃its:List Value,B9 xs its/\ao8 s.heap a its.toArray/\xs.length<=sizeLine:=by
 rcases h with h|⟨o,its,n,hk,hc,hd,hs,hz,r⟩
 ·obtain⟨z,its,r,p⟩:=h.ok I.hok
  exact⟨its,r,p,z⟩
 ·refine⟨its.toList,r,⟨o,I.kIn a o hk,hc,⟨n,by simpa using hs⟩,hd⟩,?_⟩
  have e:=r.length
  simp only[Array.length_toList]at e
  omega
theorem Inv.tuple(I:Inv X pins σ H s) (h:SqT X.K H a xs):∃its:List Value,B9 xs its/\IsTup s.heap a its.toArray/\xs.length<=sizeLine :=
 let⟨its,r,p,z⟩:=I.tupN h;⟨its,r,p.tup,z⟩
theorem Inv.list_inj(I:Inv X pins σ H s) (h:SqL X.K H a xs) (h':SqL X.K H a ys):xs=ys:=by
 obtain⟨its,r,⟨o,n,e,_,_,d⟩,_⟩:=I.list h
 obtain⟨its',r',⟨o',n',e',_,_,d'⟩,_⟩:=I.list h'
 rw[e]at e';cases e'
 rw[d]at d'
 injection d' with d1 _
 have:its=its':=by simpa using congrArg Array.toList d1
 subst this
 exact r.inj r'
theorem Inv.tuple_inj(I:Inv X pins σ H s) (h:SqT X.K H a xs) (h':SqT X.K H a ys):xs=ys:=by
 obtain⟨its,r,⟨o,e,_,n,d⟩,_⟩:=I.tuple h
 obtain⟨its',r',⟨o',e',_,n',d'⟩,_⟩:=I.tuple h'
 rw[e]at e';cases e'
 rw[d]at d'
 injection d' with d1 _
 have:its=its':=by simpa using congrArg Array.toList d1
 subst this
 exact r.inj r'
end
noncomputable abbrev Cx.wish(X:Cx) (E:Value->Shared->Prop):Cx:={ X with xe:=E }
noncomputable abbrev Cx.nox(X:Cx):Cx:=X.wish fun _ _=>False
theorem Cx.Ok.wish{X:Cx}(ok:X.Ok) (E:Value->Shared->Prop):(X.wish E).Ok :=
 ⟨ok.mod,ok.kind,ok.glob,ok.blt,ok.above,ok.inj,ok.has,ok.cab,ok.hd,ok.frames,ok.stk,ok.exf,ok.bs,ok.bsz,ok.noex,ok.exfs,ok.funs,ok.frf⟩
theorem Cx.Ok.unwish{X:Cx}{E:Value->Shared->Prop}(ok:(X.wish E).Ok):X.Ok :=
 ⟨ok.mod,ok.kind,ok.glob,ok.blt,ok.above,ok.inj,ok.has,ok.cab,ok.hd,ok.frames,ok.stk,ok.exf,ok.bs,ok.bsz,ok.noex,ok.exfs,ok.funs,ok.frf⟩
section
variable {X:Cx}{pins:List (Addr×Obj)}{σ:St}{H:Hp}{s:Shared}{E:Value->Shared->Prop}
theorem Inv.wish(I:Inv X pins σ H s) (E:Value->Shared->Prop):Inv (X.wish E) pins σ H s:=⟨I.ok.wish E,I.os,I.bare,I.base,I.loc,I.cell,I.free,I.freeC,I.pin,I.hok,I.len⟩
theorem Inv.unwish(I:Inv (X.wish E) pins σ H s):Inv X pins σ H s:=⟨I.ok.unwish,I.os,I.bare,I.base,I.loc,I.cell,I.free,I.freeC,I.pin,I.hok,I.len⟩
theorem SP.unwish(h:SP (X.wish E) pins D f s'):SP X pins D f s':=by
 cases f with
 | next=>obtain⟨σ',H',I,q⟩:=h;exact⟨σ',H',I.unwish,q⟩
 | brk=>obtain⟨σ',H',I,q⟩:=h;exact⟨σ',H',I.unwish,q⟩
 | cont=>obtain⟨σ',H',I,q⟩:=h;exact⟨σ',H',I.unwish,q⟩
 | ret u=>obtain⟨v,σ',H',I,r,q⟩:=h;exact⟨v,σ',H',I.unwish,r,q⟩
theorem PSs.nox{st:List Stmt}{t:TS}(h:PSs X.nox st t):PSs X st t:=fun pins s σ H D I hw =>
 wpAny_mono (h pins s σ H D (I.wish _) hw) (fun _ _ q=>q.unwish) fun _ _ z=>False.elim z
end
section
variable {X:Cx}{st:Stmt}{P4:List Stmt}{t u:TS}{e:Expr}{te:TE}{pos:Pos}
noncomputable def bC1:TS:=fun D σ H=>D.nx σ H
noncomputable def cg4(t u:TS):TS:=fun D σ H=>t { D with nx:=u D } σ H
theorem ai2:PSs X [] bC1:=fun _ _ σ H _ I h=>wpAny_execs_nil ⟨σ,H,I,h⟩
theorem M0(h1:PS X st t) (h2:PSs X P4 u):PSs X (st::P4) (cg4 t u):=by
 intro pins s σ H D I h
 refine wpAny_execs_cons (thn (h1 pins s σ H { D with nx:=u D } I h) fun f s1 q=>?_)
 cases f with
 | next =>
  obtain⟨σ',H',I',q⟩:=q
  exact h2 pins s1 σ' H' D I' q
 | ret v=>exact q
 | brk=>exact q
 | cont=>exact q
theorem m8(h1:PS X st t):PSs X [st] t:=by
 intro pins s σ H D I h
 refine wpAny_execs_cons (thn (h1 pins s σ H D I h) fun f s1 q=>?_)
 cases f with
 | next=>exact wpAny_execs_nil q
 | ret v=>exact q
 | brk=>exact q
 | cont=>exact q
theorem bt7:PS X (.Pass pos) bC1:=fun _ _ σ H _ I h=>wpAny_Pass ⟨σ,H,I,h⟩
theorem Inv.quiet(I:Inv X pins σ H s):interactive X.env=false:=by simp[interactive,I.ok.kind]
noncomputable def bX6(te:TE):TS:=fun D σ H=>te σ H fun _ H1=>D.nx σ H1
theorem ai3(he:PE X e te) (hs:swapsWith e none pos.line X.env=pure false:=by rfl):PS X (.Expr e pos) (bX6 te):=by
 intro pins s σ H D I h
 exact wpAny_Expr_any (thn (he pins s σ H _ I h) fun v s1 ⟨x,H1,I1,r1,q1⟩=>⟨σ,H1,I1,q1⟩) I.quiet hs
noncomputable def cg5(te:TE):TS:=fun D σ H=>te σ H D.rt
theorem ad9(he:PE X e te):PS X (.Return (some e) pos) (cg5 te):=by
 intro pins s σ H D I h
 exact wpAny_Return_some (thn (he pins s σ H _ I h) fun v s1 ⟨x,H1,I1,r1,q1⟩=>⟨x,σ,H1,I1,r1,q1⟩)
noncomputable def ch0(c:TT) (t u:TS):TS:=fun D σ H=>c σ H fun b H1=>if b=true then t D σ H1 else u D σ H1
theorem ag1(hc:PT X c tc) (ha:PSs X a t) (hb:PSs X b u):PS X (.If c a b pos) (ch0 tc t u):=by
 intro pins s σ H D I h
 refine wpAny_If (thn (hc pins s σ H _ I h) fun d s1 ⟨H1,I1,q1⟩=>?_)
 cases d with
 | true=>exact ha pins s1 σ H1 D I1 q1
 | false=>exact hb pins s1 σ H1 D I1 q1
noncomputable def bI4:TS:=fun _ _ _=>False
theorem K3:PSs X sts bI4:=fun _ _ _ _ _ _ h=>h.elim
end
noncomputable abbrev TG:=V->St->Hp->(St->Hp->Prop)->Prop
noncomputable abbrev TGs:=List V->St->Hp->(St->Hp->Prop)->Prop
noncomputable def PG(X:Cx) (target:Expr) (t:TG):Prop :=
 ∀(pins:List (Addr×Obj)) (s:Shared) (σ:St) (H:Hp) (v:V) (u:Value) (Q:St->Hp->Prop),Inv X pins σ H s->B6 v u->t v σ H Q ->
  wpAny (model X.prog X.w) X.A (assign target X.env u) (fun _ s'=>∃σ' H',Inv X pins σ' H' s'/\Q σ' H') X.xe s
noncomputable def PGs(X:Cx) (ts:List Expr) (t:TGs):Prop :=
 ∀(pins:List (Addr×Obj)) (s:Shared) (σ:St) (H:Hp) (vs:List V) (us:List Value) (Q:St->Hp->Prop),Inv X pins σ H s->B9 vs us->t vs σ H Q ->
  wpAny (model X.prog X.w) X.A (assignInOrder ((assignEach ts X.env).map (·.2)) us) (fun _ s'=>∃σ' H',Inv X pins σ' H' s'/\Q σ' H') X.xe s
section
variable {X:Cx}{pos:Pos}
noncomputable def bE2(i:Nat):TG:=fun v σ H Q=>Q (σ.set i (some v)) H
theorem bu2(hN:X.N.Nodup) (hi:X.N[i]? = some x) (hx:Loc X.env.scope x) (hf:X.fn x=true\/X.env.scope.names.lookup x=some .local:=by first|exact .inl rfl|exact .inr rfl|assumption):PG X (.Name x pos) (bE2 i):=by
 intro pins s σ H v u Q I r h
 exact wpAny_assign_Name (i4 I hN hi hx r (fun s' I'=>⟨_,H,I',h⟩) hf)
noncomputable def cj5:TGs:=fun vs σ H Q=>vs=[]/\Q σ H
noncomputable def cd8(t:TG) (u:TGs):TGs:=fun vs σ H Q=>∃v r,vs=v::r/\t v σ H fun σ' H'=>u r σ' H' Q
theorem bu1:PGs X [] cj5:=by
 intro pins s σ H vs us Q I r h
 obtain⟨e,h⟩:=h
 subst e
 cases r
 exact assignInOrder_nil ⟨σ,H,I,h⟩
theorem bc0(h1:PG X e t) (h2:PGs X es u)
  (hs:(assignEach (e::es) X.env).map (·.2)=assign e X.env::(assignEach es X.env).map (·.2):=by rfl):PGs X (e::es) (cd8 t u):=by
 intro pins s σ H vs us Q I r h
 obtain⟨v,vr,e1,h⟩:=h
 subst e1
 cases r with
 | cons r rr =>
  rw[hs]
  refine assignInOrder_cons (thn (h1 pins s σ H _ _ _ I r h) fun _ s1 ⟨σ1,H1,I1,q1⟩=>?_)
  exact h2 pins s1 σ1 H1 _ _ Q I1 rr q1
noncomputable def cj4(K:PySem.W.Frag) (n:Nat) (t:TGs):TG:=fun v σ H Q=>∃a xs,v=.ref a/\SqT K H a xs/\xs.length=n/\t xs σ H Q
theorem bL1(hc:X.calm=true) (h:PGs X es t)
  (hn:(assignEach es X.env).length=n:=by rfl) (hst:(assignEach es X.env).findIdx? (·.1)=none:=by rfl):PG X (.Tuple es k pos) (cj4 X.K n t):=by
 intro pins s σ H v u Q I r hw
 obtain⟨a,xs,e1,hq,hl,hw⟩:=hw
 subst e1
 cases r
 obtain⟨its,rv,ht,hz⟩:=I.tuple hq
 refine assign_Tuple_tuple (I.ok.hd hc) ht (by simp[hn,← hl,rv.length]) hst fun h' hx=>?_
 have I1:Inv X pins σ H { s with heap:=h' }:=I.kept (t':=s.toks) fun b o e=>hx b o (Nat.ne_of_lt (Heap.lt_size e)) e
 exact h pins _ σ H xs _ Q I1 (by simpa using rv) hw
noncomputable def bX9(te:TE) (g:TG):TS:=fun D σ H=>te σ H fun x H1=>g x σ H1 D.nx
theorem bb7(he:PE X e te) (hg:PG X tg g) (hs:swapsWithSole [tg] e pos.line X.env=pure false:=by rfl) (hw:swappedStores [tg] e X.env=pure none:=by rfl)
  (h1:(assignEach [tg] X.env).map (·.2)=[assign tg X.env]:=by rfl):PS X (.Assign [tg] e pos) (bX9 te g):=by
 intro pins s σ H D I h
 refine wpAny_Assign_stores (thn (he pins s σ H _ I h) fun v s1 ⟨x,H1,I1,r1,q1⟩=>?_) hs hw
 rw[h1]
 exact thn (hg pins s1 σ H1 x v _ I1 r1 q1) fun _ s2 q=>q
theorem ak8(hN:X.N.Nodup) (hi:X.N[i]? = some x) (hx:Loc X.env.scope x) (he:PE X e te) (hs:swapsWith e (some (.Name x pos')) pos.line X.env=pure false:=by rfl) (hf:X.fn x=true\/X.env.scope.names.lookup x=some .local:=by first|exact .inl rfl|exact .inr rfl|assumption) :
  PS X (.Assign [.Name x pos'] e pos) (bX9 te (bE2 i)):=by
 intro pins s σ H D I h
 refine wpAny_Assign_Name (thn (he pins s σ H _ I h) fun v s1 ⟨y,H1,I1,r1,q1⟩=>?_) hs
 exact i4 I1 hN hi hx r1 (fun s2 I2=>⟨_,H1,I2,q1⟩) hf
noncomputable def cg6(i j:Nat) (ta:TA):TS:=fun D σ H=>ta σ H fun vs H1=>∃v w,vs=[v,w]/\D.nx ((σ.set i (some v)).set j (some w)) H1
theorem bK8{kt k2 pt2} (hc:X.calm=true) (hN:X.N.Nodup) (hi:X.N[i]? = some x) (hj:X.N[j]? = some y) (hij:i≠j)
  (hx:X.env.scope.names.lookup x=some .local) (hy:X.env.scope.names.lookup y=some .local) (ha:PA X [a,b] ta)
  (hw:swappedStores [.Tuple [.Name x px,.Name y py] kt pt] (.Tuple [a,b] k2 pt2) X.env=pure (some [x,y]))
  (hs:swapsWithSole [.Tuple [.Name x px,.Name y py] kt pt] (.Tuple [a,b] k2 pt2) pos.line X.env=pure false:=by rfl) :
  PS X (.Assign [.Tuple [.Name x px,.Name y py] kt pt] (.Tuple [a,b] k2 pt2) pos) (cg6 i j ta):=by
 intro pins s σ H D I h
 rw[exec_Assign_arm]
 refine wpAny_bind (wpAny_standAt ?_)
 rw[hs]
 refine wpAny_bind (wpAny_pure ?_)
 rw[if_neg (by decide)]
 refine wpAny_bind (Tuple_ (thn (ha _ pins s σ H _ I h) fun us s1 ⟨vs,H1,I1,r1,q1⟩=>?_))
 obtain⟨v,w,e1,q1⟩:=q1
 subst e1
 obtain⟨u1,u2,rfl,rv,rw'⟩:∃u1 u2,us=[u1,u2]/\B6 v u1/\B6 w u2:=by
  cases r1 with
  | cons p q =>
   cases q with
   | cons p' q' =>
    cases q'
    exact⟨_,_,rfl,p,p'⟩
 refine wpAny_newObj_type ?_ (by show 2<=sizeLine;decide)
 have I2:Inv X pins σ H1 { s1 with heap:=s1.heap.push { cls:=.type "tuple", data:=.seq [u1,u2].toArray } }:=I1.kept (t':=s1.toks) fun b o e=>Heap.get?_push_of_some _ e
 rw[hw]
 refine wpAny_bind (wpAny_pure ?_)
 show wpAny (model X.prog X.w) X.A (do rule "assign.swapped-stores";let items ← unpackItems (.ref s1.heap.objs.size) 2 none;assignInOrder [fun v=>bindName X.env y v,fun v=>bindName X.env x v] items.reverse;pure Flow.next) _ _ _
 refine wpAny_bind (wpAny_rule (wpAny_bind (unpackItems_tuple (items:=#[u1,u2]) (I.ok.hd hc) (IsTup.new s1.heap _) fun h' hx'=>?_)))
 have I3:=I2.kept (h':=h') (t':=s1.toks) fun b o e=>hx' b o (Nat.ne_of_lt (Heap.lt_size e)) e
 show wpAny _ _ (assignInOrder [fun v=>bindName X.env y v,fun v=>bindName X.env x v] [u2,u1] >>= fun _=>pure Flow.next) _ _ _
 refine wpAny_bind (assignInOrder_cons (wpAny_bindName (i4 I3 hN hj (.inl hy) rw' (fun s2 I4=>?_) (.inr hy))))
 refine assignInOrder_cons (wpAny_bindName (i4 I4 hN hi (.inl hx) rv (fun s3 I5=>assignInOrder_nil (wpAny_pure ?_)) (.inr hx)))
 rw[List.set_comm _ _ (Ne.symm hij)]at I5
 exact⟨_,H1,I5,q1⟩
end
section
variable {X:Cx}{pos:Pos}
noncomputable def bI2(c:TT) (tb:TS):TS:=fun D σ H=>∃W:Nat->St->Hp->Prop,(∃m,W m σ H)/\∀m σ H,W m σ H ->
 c σ H fun b H1=>if b=true then ∃N:St->Hp->Prop,(∀σ' H',N σ' H'->∃m',m' < m/\W m' σ' H')/\tb { D with nx:=N,ct:=N,bk:=D.nx } σ H1 else D.nx σ H1
theorem bb5(hp:PassesOwn (model X.prog X.w) X.A X.env X.xe) (hc:PT X c tc) (hb:PSs X body tb):PS X (.While c body [] pos) (bI2 tc tb):=by
 intro pins s σ H D I h
 obtain⟨W,⟨m0,w0⟩,turn⟩:=h
 refine wpAny_While (codeAny_whileLoop (fun n s'=>∃σ' H',Inv X pins σ' H' s'/\W n σ' H') ?_ m0 ⟨σ,H,I,w0⟩)
 rintro n s1 ⟨σ1,H1,I1,w1⟩
 refine wpAny_passesOwn hp (thn (hc pins s1 σ1 H1 _ I1 (turn n σ1 H1 w1)) fun b s2 ⟨H2,I2,q2⟩=>?_)
 cases b with
 | true =>
  obtain⟨N,hN,q2⟩:=q2
  rw[if_pos rfl]
  refine wpAny_passesOwn hp (thn (hb pins s2 σ1 H2 _ I2 q2) fun f s3 q3=>?_)
  cases f with
  | next =>
   obtain⟨σ3,H3,I3,n3⟩:=q3
   obtain⟨m',hm,w3⟩:=hN σ3 H3 n3
   exact⟨m',hm,σ3,H3,I3,w3⟩
  | cont =>
   obtain⟨σ3,H3,I3,n3⟩:=q3
   obtain⟨m',hm,w3⟩:=hN σ3 H3 n3
   exact⟨m',hm,σ3,H3,I3,w3⟩
  | brk=>exact q3
  | ret v=>exact q3
 | false =>
  rw[if_neg Bool.false_ne_true]
  exact wpAny_execs_nil ⟨σ1,H2,I2,q2⟩
end
structure It where
 go:Nat->Hp->Prop
 yld:Nat->Hp->V->Hp->Prop
 stop:Nat->Hp->Prop
noncomputable def af7(X:Cx) (pins:List (Addr×Obj)) (H:Hp) (b:Addr):Prop :=
 H b=none/\b≠X.env.locals/\b∉X.fs/\(b∈X.ex\/X.s₀.heap.objs.size<=b)/\(∀x c,X.env.cells.lookup x=some c->c≠b)/\∀p∈X.pn++pins,p.1≠b
theorem Inv.fpOk(I:Inv X pins σ H s) (hb:s.heap.objs.size<=b) (hn:H' b=none):af7 X pins H' b:=by
 refine⟨hn,Nat.ne_of_gt (Nat.lt_of_lt_of_le I.lt hb),I.nofs hb,.inr (Nat.le_trans I.sz hb),fun x c e z=>?_,fun p hp z=>?_⟩
 ·obtain⟨v,q⟩:=I.cell x c e
  exact absurd (Nat.lt_of_lt_of_le q.lt (by rw[z];exact hb)) (Nat.lt_irrefl _)
 ·exact absurd (Nat.lt_of_lt_of_le (Heap.lt_size (I.pin p hp).1) (by rw[z];exact hb)) (Nat.lt_irrefl _)
structure Turn (P:Program) (w:World) (K:PySem.W.Frag) (tg:Expr) (J:It) (fp:List Addr) (it:Addr) (tn:Nat->Heap->Prop):Prop where
 mem:it∈fp
 obj:∀i h,tn i h->∀b∈fp,∃o,h.get? b=some o/\∀v,o.data≠.cell v
 keep:∀i h h',tn i h->(∀b∈fp,∀o,h.get? b=some o->h'.get? b=some o)->tn i h'
 item:∀(X:Cx),X.prog=P->X.w=w->X.K=K->X.calm=true->∀(i:Nat) (pins:List (Addr×Obj)) (s:Shared) (σ:St) (H:Hp) (E:Value->Shared->Prop),Inv X pins σ H s->(∀b∈fp,af7 X pins H b)->tn i s.heap->J.go i H ->
  wpAny (model P w) X.A (pyNext (.ref it)) (fun r s1=>∃u,r=some u /\
   wpAny (model P w) X.A (letOwnedTupleGo tg (.ref it) u) (fun _ s2=>∃x H',Inv X pins σ H' s2/\B6 x u/\J.yld i H x H'/\tn (i+1) s2.heap/\∀b∈fp,H' b=none) E s1) E s
 done:∀(X:Cx),X.prog=P->X.w=w->X.K=K->X.calm=true->∀(i:Nat) (pins:List (Addr×Obj)) (s:Shared) (σ:St) (H:Hp) (E:Value->Shared->Prop),Inv X pins σ H s->(∀b∈fp,af7 X pins H b)->tn i s.heap->J.stop i H ->
  wpAny (model P w) X.A (pyNext (.ref it)) (fun r s1=>r=none/\Inv X pins σ H s1) E s
 self:∀(A:Around) (i:Nat) (s:Shared) (Q:Value->Shared->Prop) (E:Value->Shared->Prop),tn i s.heap->Q (.ref it) s->wpAny (model P w) A (pyIter (.ref it)) Q E s
noncomputable abbrev TI:=St->Hp->(It->Hp->Prop)->Prop
noncomputable def PIE(X:Cx) (pins:List (Addr×Obj)) (σ:St) (tg:Expr) (R:It->Hp->Prop) (itv:Value) (s2:Shared):Prop :=
 ∃(it:Addr) (fp:List Addr) (tn:Nat->Heap->Prop) (J:It) (H':Hp),itv=.ref it/\Inv X pins σ H' s2/\Turn X.prog X.w X.K tg J fp it tn/\tn 0 s2.heap/\(∀b∈fp,af7 X pins H' b)/\R J H'
noncomputable def PI(X:Cx) (tg iter:Expr) (wi:TI):Prop :=
 ∀(pins:List (Addr×Obj)) (s:Shared) (σ:St) (H:Hp) (R:It->Hp->Prop),Inv X pins σ H s->wi σ H R ->
  wpAny (model X.prog X.w) X.A (eval iter X.env) (fun v s1=>wpAny (model X.prog X.w) X.A (pyIter v) (PIE X pins σ tg R) X.xe s1) X.xe s
theorem bj8(ho:s.heap.get? it=some o) (hc:o.cls=.type n) (hd:o.data=.fields vs)
    (hn:["enumerate", "zip", "dict_itemiterator", "dict_reverseitemiterator", "odict_iterator", "itertools.zip_longest", "itertools.pairwise"].contains n=false) (hQ:Q () s):wpAny M A (letOwnedTupleGo tg (.ref it) u) Q E s:=by
  unfold letOwnedTupleGo
  cases tg<;>first
    | exact wpAny_pure hQ
    | (cases u<;>first
        | exact wpAny_pure hQ
        | (refine wpAny_bind (wpAny_load ho ?_)
           rw[hc,hd]
           show wpAny M A (if(["enumerate", "zip", "dict_itemiterator", "dict_reverseitemiterator", "odict_iterator", "itertools.zip_longest", "itertools.pairwise"].contains n&&vs[0]? == some (rawInt _))=true then _ else _) Q E s
           rw[if_neg (by intro h;rw[hn,Bool.false_and]at h;cases h)]
           exact wpAny_pure hQ))
noncomputable def Itl(K:PySem.W.Frag) (a:Addr):It :=
 ⟨fun i H=>∃xs x,SqL K H a xs/\xs[i]? = some x,fun i H x H'=>H'=H/\∀xs,SqL K H a xs->xs[i]? = some x,fun i H=>∃xs,SqL K H a xs/\xs.length<=i⟩
noncomputable def Itt(K:PySem.W.Frag) (a:Addr):It :=
 ⟨fun i H=>∃xs x,SqT K H a xs/\xs[i]? = some x,fun i H x H'=>H'=H/\∀xs,SqT K H a xs->xs[i]? = some x,fun i H=>∃xs,SqT K H a xs/\xs.length<=i⟩
noncomputable def Itr(lo:Int) (n:Nat):It:=⟨fun i _=>i < n,fun i H x H'=>H'=H/\x=.int (lo+i),fun i _=>n<=i⟩
theorem aR3{P:Program}{w:World}{K:PySem.W.Frag}{tg:Expr}(a it:Addr):Turn P w K tg (Itl K a) [it] it (fun i h=>h.IsListIter it a i) where
 mem:=by simp
 obj:=fun i h st b hb=>by
  have e:b=it:=by simpa using hb
  subst e
  obtain⟨o,e,c,d⟩:=st
  exact⟨o,e,fun v z=>by rw[d]at z;cases z⟩
 keep:=fun i h h' st k=>st.at fun o e=>k it (by simp) o e
 item:=by
  intro X hP hw hK hc i pins s σ H E I hf st hg
  subst hP hw hK
  obtain⟨xs,x,hq,hx⟩:=hg
  obtain⟨its,rv,p,hz⟩:=I.list hq
  obtain⟨u,hu,ru⟩:=rv.get hx
  obtain⟨f0,f1,f2,f3,f4,f5⟩:=hf it (by simp)
  refine wpAny_pyNext_list_item st p.isList (x:=u) (by simpa using hu) fun h' st' sb=>?_
  have I1:Inv X pins σ H { s with heap:=h' }:=I.turned (t':=s.toks) (fun b o hb e=>(sb.2 b hb).trans e) f0 f1 f3 f4 f5
  obtain⟨o,e,c,d⟩:=id st'
  exact⟨u,rfl,bj8 (s:={ s with heap:=h' }) e c d (by decide) ⟨x,H,I1,ru,⟨rfl,fun ys hy=>by rw[I.list_inj hy hq];exact hx⟩,st',fun b hb=>(hf b hb).1⟩⟩
 done:=by
  intro X hP hw hK hc i pins s σ H E I hf st hg
  subst hP hw hK
  obtain⟨xs,hq,hx⟩:=hg
  obtain⟨its,rv,p,hz⟩:=I.list hq
  obtain⟨f0,f1,f2,f3,f4,f5⟩:=hf it (by simp)
  have hl:=rv.length
  exact wpAny_pyNext_list_end (I.ok.hd hc) st p.isList (by simp;omega) fun h' eb=>⟨rfl,I.turned (t':=s.toks) (fun b o hb e=>eb b o hb e) f0 f1 f3 f4 f5⟩
 self:=fun _ _ _ _ _ st h=>wpAny_pyIter_listiter st h
theorem aF4{P:Program}{w:World}{K:PySem.W.Frag}{tg:Expr}(a it:Addr):Turn P w K tg (Itt K a) [it] it (fun i h=>h.IsTupleIter it a i) where
 mem:=by simp
 obj:=fun i h st b hb=>by
  have e:b=it:=by simpa using hb
  subst e
  obtain⟨o,e,c,d⟩:=st
  exact⟨o,e,fun v z=>by rw[d]at z;cases z⟩
 keep:=fun i h h' st k=>st.at fun o e=>k it (by simp) o e
 item:=by
  intro X hP hw hK hc i pins s σ H E I hf st hg
  subst hP hw hK
  obtain⟨xs,x,hq,hx⟩:=hg
  obtain⟨its,rv,p,hz⟩:=I.tuple hq
  obtain⟨u,hu,ru⟩:=rv.get hx
  obtain⟨f0,f1,f2,f3,f4,f5⟩:=hf it (by simp)
  refine wpAny_pyNext_tuple_item st (show s.heap.IsTuple a its.toArray from p) (x:=u) (by simpa using hu) fun h' st' sb=>?_
  have I1:Inv X pins σ H { s with heap:=h' }:=I.turned (t':=s.toks) (fun b o hb e=>(sb.2 b hb).trans e) f0 f1 f3 f4 f5
  obtain⟨o,e,c,d⟩:=id st'
  exact⟨u,rfl,bj8 (s:={ s with heap:=h' }) e c d (by decide) ⟨x,H,I1,ru,⟨rfl,fun ys hy=>by rw[I.tuple_inj hy hq];exact hx⟩,st',fun b hb=>(hf b hb).1⟩⟩
 done:=by
  intro X hP hw hK hc i pins s σ H E I hf st hg
  subst hP hw hK
  obtain⟨xs,hq,hx⟩:=hg
  obtain⟨its,rv,p,hz⟩:=I.tuple hq
  obtain⟨f0,f1,f2,f3,f4,f5⟩:=hf it (by simp)
  have hl:=rv.length
  exact wpAny_pyNext_tuple_end (I.ok.hd hc) st (show s.heap.IsTuple a its.toArray from p) (by simp;omega) fun h' eb=>⟨rfl,I.turned (t':=s.toks) (fun b o hb e=>eb b o hb e) f0 f1 f3 f4 f5⟩
 self:=fun _ _ _ _ _ st h=>wpAny_pyIter_tupleiter st h
theorem aF5{P:Program}{w:World}{K:PySem.W.Frag}{tg:Expr}(it:Addr) (lo:Int) (n:Nat):Turn P w K tg (Itr lo n) [it] it (fun i h=>IsRangeIter h it (lo+(i:Nat)*1) ((n:Int) - (i:Nat)) 1) where
 mem:=by simp
 obj:=fun i h st b hb=>by
  have e:b=it:=by simpa using hb
  subst e
  exact⟨_,st,fun v z=>by
   have z':Data.fields _=Data.cell v:=z
   cases z'⟩
 keep:=fun i h h' st k=>k it (by simp) _ st
 item:=by
  intro X hP hw hK hc i pins s σ H E I hf st hg
  subst hP hw hK
  obtain⟨f0,f1,f2,f3,f4,f5⟩:=hf it (by simp)
  have W:=Walks.range (prog:=X.prog) (w:=X.w) (I.ok.hd hc) it lo 1 n
  refine W.item i s _ _ hg st fun v h' tk hv st' kk=>?_
  obtain⟨t,rfl⟩:=hv
  have I1:Inv X pins σ H { s with heap:=h',toks:=tk }:=I.turned (fun b o hb e=>kk b o (by simpa using hb) e) f0 f1 f3 f4 f5
  refine⟨_,rfl,bj8 (s:={ s with heap:=h',toks:=tk }) (n := "range_iterator") st' rfl rfl (by decide) ⟨.int (lo+i),H,I1,⟨t,?_⟩,⟨rfl,rfl⟩,st',fun b hb=>(hf b hb).1⟩⟩
  rw[Int.mul_one]
 done:=by
  intro X hP hw hK hc i pins s σ H E I hf st hg
  subst hP hw hK
  obtain⟨f0,f1,f2,f3,f4,f5⟩:=hf it (by simp)
  exact wpAny_pyNext_range_end (I.ok.hd hc) st (by have:n<=i:=hg;omega) fun h' eb=>⟨rfl,I.turned (t':=s.toks) (fun b o hb e=>eb b o hb e) f0 f1 f3 f4 f5⟩
 self:=fun _ _ _ _ _ st h=>wpAny_pyIter_rangeiter st h
end L2
namespace L2
open PySem PySem.Spec PyProof.Rows
section
variable {X:Cx}{tg:Expr}
noncomputable def cd6(K:PySem.W.Frag) (tl:TE):TI:=fun σ H R=>tl σ H fun x H1=>∃a,x=.ref a/\(∃xs,SqL K H1 a xs)/\R (Itl K a) H1
noncomputable def cj2(K:PySem.W.Frag) (tl:TE):TI:=fun σ H R=>tl σ H fun x H1=>∃a,x=.ref a/\(∃xs,SqT K H1 a xs)/\R (Itt K a) H1
theorem bu0{l:Expr}{tl:TE}(hl:PE X l tl):PI X tg l (cd6 X.K tl):=by
 intro pins s σ H R I h
 refine thn (hl pins s σ H _ I h) fun v s1 ⟨x,H1,I1,r1,q1⟩=>?_
 obtain⟨a,e,⟨xs,hq⟩,q⟩:=q1
 subst e
 cases r1
 obtain⟨its,rv,p,hz⟩:=I1.list hq
 refine wpAny_pyIter_list p.isList ?_
 refine⟨s1.heap.objs.size,[s1.heap.objs.size],_,_,H1,rfl,I1.kept (t':=s1.toks) fun b o e=>Heap.get?_push_of_some _ e,aR3 a _,⟨_,Heap.get?_push_size _ rfl,rfl,rfl⟩,fun b hb=>?_,q⟩
 have e:b=s1.heap.objs.size:=by simpa using hb
 subst e
 exact I1.fpOk (Nat.le_refl _) (I1.hok.fresh (Nat.le_refl _))
theorem bL0{l:Expr}{tl:TE}(hl:PE X l tl):PI X tg l (cj2 X.K tl):=by
 intro pins s σ H R I h
 refine thn (hl pins s σ H _ I h) fun v s1 ⟨x,H1,I1,r1,q1⟩=>?_
 obtain⟨a,e,⟨xs,hq⟩,q⟩:=q1
 subst e
 cases r1
 obtain⟨its,rv,p,hz⟩:=I1.tuple hq
 refine wpAny_pyIter_tuple (show s1.heap.IsTuple a its.toArray from p) ?_
 refine⟨s1.heap.objs.size,[s1.heap.objs.size],_,_,H1,rfl,I1.kept (t':=s1.toks) fun b o e=>Heap.get?_push_of_some _ e,aF4 a _,⟨_,Heap.get?_push_size _ rfl,rfl,rfl⟩,fun b hb=>?_,q⟩
 have e:b=s1.heap.objs.size:=by simpa using hb
 subst e
 exact I1.fpOk (Nat.le_refl _) (I1.hok.fresh (Nat.le_refl _))
theorem bb0{pins:List (Addr×Obj)}{σ:St}{H:Hp}{s:Shared}{R:It->Hp->Prop}{E:Value->Shared->Prop}{lo hi:Int}{t u v:Tok}{tk:Nat}(I:Inv X pins σ H s) (h1:-(2 ^ 62)<=lo) (h2:lo < 2 ^ 62) (h3:-(2 ^ 62)<=hi) (h4:hi < 2 ^ 62)
  (q:R (Itr lo (hi - lo).toNat) H):wpAny (model X.prog X.w) X.A (pyIter (.ref s.heap.objs.size)) (PIE X pins σ tg R) E { s with heap:=s.heap.push { cls:=.type "range", data:=.fields #[.int lo t,.int hi u,.int 1 v] },toks:=tk }:=by
 refine wpAny_pyIter_range (IsRange.new ..) (small_one h1 h2 h3 h4) ?_
 have I1:Inv X pins σ H { s with heap:=s.heap.push { cls:=.type "range", data:=.fields #[.int lo t,.int hi u,.int 1 v] },toks:=tk }:=I.kept fun b o e=>Heap.get?_push_of_some _ e
 refine⟨(s.heap.push { cls:=.type "range", data:=.fields #[.int lo t,.int hi u,.int 1 v] }).objs.size,[(s.heap.push { cls:=.type "range", data:=.fields #[.int lo t,.int hi u,.int 1 v] }).objs.size],_,_,H,rfl,
  I1.kept (t':=tk) fun b o e=>Heap.get?_push_of_some _ e,aF5 _ lo (hi - lo).toNat,?_,fun b hb=>?_,q⟩
 ·have e1:lo+((0:Nat):Int)*1=lo:=by simp
  have e2:(((hi - lo).toNat:Nat):Int) - ((0:Nat):Int)=Builtin.Range.rangeSize lo hi 1:=by rw[rangeSize_one];split<;>omega
  show IsRangeIter _ _ (lo+((0:Nat):Int)*1) ((((hi - lo).toNat:Nat):Int) - ((0:Nat):Int)) 1
  rw[e1,e2]
  exact Heap.get?_push_size _ rfl
 ·have e:b=(s.heap.push { cls:=.type "range", data:=.fields #[.int lo t,.int hi u,.int 1 v] }).objs.size:=by simpa using hb
  subst e
  exact I1.fpOk (Nat.le_refl _) (I1.hok.fresh (Nat.le_refl _))
noncomputable def cd5(ta:TA):TI:=fun σ H R=>ta σ H fun vs H1=>∃j:Int,vs=[.int j]/\-(2 ^ 62)<=j/\j < 2 ^ 62/\R (Itr 0 j.toNat) H1
theorem aS3{a:Expr}{ta:TA}{p pos:Pos}(hg:Gl X "range") (hm:X.mg "range" = none) (ha:PA X [a] ta) (hs:starEach [a] X.env=[(false,eval a X.env)]:=by rfl):PI X tg (.Call (.Name "range" p) [a] [] pos) (cd5 ta):=by
 intro pins s σ H R I h
 refine Call_ (al5 I hg hm boot_range (PyProof.Rows.callWith_type1 (thn (ha pos pins s σ H _ I h) fun us s1 ⟨vs,H1,I1,r1,q1⟩=>?_) hs rfl))
 obtain⟨j,e,q1,q2,q⟩:=q1
 subst e
 cases r1 with
 | cons r rr =>
  cases rr
  obtain⟨t,rfl⟩:=r
  exact call_range_1 (bb0 I1 (by omega) (by omega) q1 q2 (by simpa using q))
noncomputable def ch1(wi:TI) (g:TG) (tb:TS):TS:=fun D σ H=>wi σ H fun J H1=>∃W:Nat->Nat->St->Hp->Prop,(∃m,W 0 m σ H1)/\∀i m σ H,W i m σ H ->
 (J.stop i H/\D.nx σ H)\/(J.go i H/\∃N:St->Hp->Prop,(∀σ' H',N σ' H'->∃m',m' < m/\W (i+1) m' σ' H')/\∀x H',J.yld i H x H'->g x σ H' fun σ2 H2=>tb { D with nx:=N,ct:=N,bk:=D.nx } σ2 H2)
noncomputable def al0(fp:List Addr) (h:Heap):List (Addr×Obj):=fp.filterMap fun b=>(h.get? b).map fun o=>(b,o)
theorem Z7(hb:b∈fp) (e:h.get? b=some o):(b,o)∈al0 fp h:=List.mem_filterMap.mpr ⟨b,hb,by rw[e];rfl⟩
theorem aS9(hp:p∈al0 fp h):p.1∈fp/\h.get? p.1=some p.2:=by
 obtain⟨b,hb,e⟩:=List.mem_filterMap.mp hp
 cases q:h.get? b with
 | none=>rw[q]at e;cases e
 | some o =>
  rw[q]at e
  have e':(b,o)=p:=Option.some.inj e
  subst e'
  exact⟨hb,q⟩
theorem Inv.pinned(I:Inv X pins σ H s) (hf:∀b∈fp,af7 X pins H b) (ho:∀b∈fp,∃o,s.heap.get? b=some o/\∀v,o.data≠.cell v):Inv X (pins++al0 fp s.heap) σ H s :=
 I.pins_of fun p hp=>(List.mem_append.mp hp).elim (fun z=>I.pin p (List.mem_append_right _ z)) fun z=>by
  obtain⟨hb,e⟩:=aS9 z
  obtain⟨f0,f1,f2,_⟩:=hf p.1 hb
  obtain⟨o,e',d⟩:=ho p.1 hb
  rw[e]at e';cases e'
  exact⟨e,f0,f1,f2,d⟩
theorem Inv.unpinned(I:Inv X (pins++pl) σ H s):Inv X pins σ H s:=I.pins_of fun p hp=>I.pin p (List.mem_append_right _ (List.mem_append_left _ hp))
theorem bK9(hp:PassesOwn (model X.prog X.w) X.A X.env X.xe) (hc:X.calm=true) (hi:PI X tg iter wi) (hg:PG X tg g) (hb:PSs X body tb)
  (hs:∀x,foldedSetIterable iter X.env x=pure x:=by intro _;rfl):PS X (.For tg iter body [] pos) (ch1 wi g tb):=by
 intro pins s σ H D I h
 refine wpAny_For (thn (hi pins s σ H _ I h) fun v s1 h1=>thn h1 fun itv s2 h2=>?_) hs
 obtain⟨it,fp,tn,J,H2,e,I2,T,st2,f2,W,⟨m0,w0⟩,turn⟩:=h2
 subst e
 have stat:∀{H':Hp},(∀b∈fp,H' b=none)->∀b∈fp,af7 X pins H' b:=fun hn b hb=>⟨hn b hb,(f2 b hb).2⟩
 refine codeAny_forLoop_any (fun n s'=>∃i σ' H',Inv X pins σ' H' s'/\tn i s'.heap/\(∀b∈fp,H' b=none)/\W i n σ' H') ?_ m0 ⟨0,σ,H2,I2,st2,fun b hb=>(f2 b hb).1,w0⟩
 rintro n s3 ⟨i,σ3,H3,I3,st3,fr3,w3⟩
 rcases turn i n σ3 H3 w3 with⟨stop,qn⟩|⟨go,N,hN,step⟩
 ·refine wpAny_passesOwn hp (thn (T.done X rfl rfl rfl hc i pins s3 σ3 H3 X.xe I3 (stat fr3) st3 stop) fun r s4 ⟨hr,I4⟩=>?_)
  subst hr
  exact wpAny_execs_nil ⟨σ3,H3,I4,qn⟩
 ·refine wpAny_passesOwn hp (thn (T.item X rfl rfl rfl hc i pins s3 σ3 H3 X.xe I3 (stat fr3) st3 go) fun r s4 ⟨u,hr,h4⟩=>?_)
  subst hr
  refine wpAny_passesOwn hp (thn h4 fun _ s5 ⟨x,H5,I5,r5,y5,st5,fr5⟩=>?_)
  have I5':=I5.pinned (stat fr5) (T.obj _ _ st5)
  refine wpAny_passesOwn hp (thn (hg _ s5 σ3 H5 x u _ I5' r5 (step x H5 y5)) fun _ s6 ⟨σ6,H6,I6,q6⟩=>?_)
  refine wpAny_passesOwn hp (thn (hb _ s6 σ6 H6 _ I6 q6) fun f s7 q7=>?_)
  have again:∀{σ7:St}{H7:Hp},Inv X (pins++al0 fp s5.heap) σ7 H7 s7->N σ7 H7->∃m,m < n/\∃i σ' H',Inv X pins σ' H' s7/\tn i s7.heap/\(∀b∈fp,H' b=none)/\W i m σ' H':=fun{σ7 H7} I7 n7=>by
   obtain⟨m',hm,w7⟩:=hN σ7 H7 n7
   refine⟨m',hm,i+1,σ7,H7,I7.unpinned,T.keep _ _ _ st5 fun b hb o e=>(I7.pin (b,o) (List.mem_append_right _ (List.mem_append_right _ (Z7 hb e)))).1,fun b hb=>?_,w7⟩
   obtain⟨o,e,d⟩:=T.obj _ _ st5 b hb
   exact(I7.pin (b,o) (List.mem_append_right _ (List.mem_append_right _ (Z7 hb e)))).2.1
  cases f with
  | next=>obtain⟨σ7,H7,I7,n7⟩:=q7;exact again I7 n7
  | cont=>obtain⟨σ7,H7,I7,n7⟩:=q7;exact again I7 n7
  | brk=>obtain⟨σ7,H7,I7,q7⟩:=q7;exact⟨σ7,H7,I7.unpinned,q7⟩
  | ret v=>obtain⟨x7,σ7,H7,I7,r7,q7⟩:=q7;exact⟨x7,σ7,H7,I7.unpinned,r7,q7⟩
end
end L2
namespace L2
open PySem PySem.Spec PyProof.Rows
noncomputable abbrev R2:=V->V->Hp->VK->Prop
noncomputable def OpR(X:Cx) (f:Value->Value->Sem Value) (r:R2):Prop :=
 ∀(pins:List (Addr×Obj)) (s:Shared) (σ:St) (H:Hp) (x y:V) (v u:Value) (Q:VK),Inv X pins σ H s->B6 x v->B6 y u->r x y H Q ->
  wpAny (model X.prog X.w) X.A (f v u) (EP X pins σ Q) X.xe s
noncomputable def UnR(X:Cx) (f:Value->Sem Value) (r:V->Hp->VK->Prop):Prop :=
 ∀(pins:List (Addr×Obj)) (s:Shared) (σ:St) (H:Hp) (x:V) (v:Value) (Q:VK),Inv X pins σ H s->B6 x v->r x H Q ->
  wpAny (model X.prog X.w) X.A (f v) (EP X pins σ Q) X.xe s
noncomputable def m4(X:Cx) (f:Value) (r:List V->Hp->VK->Prop):Prop :=
 ∀(pins:List (Addr×Obj)) (s:Shared) (σ:St) (H:Hp) (xs:List V) (us:List Value) (Q:VK),Inv X pins σ H s->B9 xs us->r xs H Q ->
  wpAny (model X.prog X.w) X.A (call f us) (EP X pins σ Q) X.xe s
noncomputable def cm2(X:Cx) (r:V->Hp->(Bool->Hp->Prop)->Prop):Prop :=
 ∀(pins:List (Addr×Obj)) (s:Shared) (σ:St) (H:Hp) (x:V) (v:Value) (Q:Bool->Hp->Prop),Inv X pins σ H s->B6 x v->r x H Q ->
  wpAny (model X.prog X.w) X.A (truthy v) (TP X pins σ Q) X.xe s
noncomputable def tOp(r:R2) (ta tb:TE):TE:=fun σ H Q=>ta σ H fun x H1=>tb σ H1 fun y H2=>r x y H2 Q
noncomputable def tUn(r:V->Hp->VK->Prop) (ta:TE):TE:=fun σ H Q=>ta σ H fun x H1=>r x H1 Q
noncomputable def rI(C:Int->Int->Prop) (g:Int->Int->V):R2:=fun x y H Q=>∃i j,x=.int i/\y=.int j/\C i j/\Q (g i j) H
noncomputable def rI0(g:Int->Int->V):R2:=fun x y H Q=>∃i j,x=.int i/\y=.int j/\Q (g i j) H
noncomputable def rU(g:Int->V):V->Hp->VK->Prop:=fun x H Q=>∃i,x=.int i/\Q (g i) H
section
variable {X:Cx}{a b c:Expr}{ta tb tc:TE}{pos:Pos}
theorem bT7(ha:PE X a ta) (hb:PE X b tb) {pins:List (Addr×Obj)}{s:Shared}{σ:St}{H:Hp}{R:V->V->Hp->Prop}(I:Inv X pins σ H s)
  (h:ta σ H fun x H1=>tb σ H1 fun y H2=>R x y H2) {Q:Value->Shared->Prop}{f:Value->Value->Sem Value}
  (hf:∀v u s2 x y H2,Inv X pins σ H2 s2->B6 x v->B6 y u->R x y H2->wpAny (model X.prog X.w) X.A (f v u) Q X.xe s2) :
  wpAny (model X.prog X.w) X.A (eval a X.env) (fun v s₁=>wpAny (model X.prog X.w) X.A (eval b X.env) (fun u s₂=>wpAny (model X.prog X.w) X.A (f v u) Q X.xe s₂) X.xe s₁) X.xe s:=by
 refine thn (ha pins s σ H _ I h) fun v s1 ⟨x,H1,I1,r1,q1⟩=>?_
 refine thn (hb pins s1 σ H1 _ I1 q1) fun u s2 ⟨y,H2,I2,r2,q2⟩=>?_
 exact hf v u s2 x y H2 I2 r1 r2 q2
theorem bZ3(ho:OpR X (binaryOp op) r) (ha:PE X a ta) (hb:PE X b tb):PE X (.BinOp a op b pos) (tOp r ta tb):=by
 intro pins s σ H Q I h
 exact wpAny_BinOp (bT7 ha hb I h fun v u s2 x y H2 I2 rx ry q=>ho pins s2 σ H2 x y v u Q I2 rx ry q)
theorem bZ2(ho:UnR X (unaryOp op) r) (ha:PE X a ta):PE X (.UnaryOp op a pos) (tUn r ta):=by
 intro pins s σ H Q I h
 exact UnaryOp_ (thn (ha pins s σ H _ I h) fun v s1 ⟨x,H1,I1,r1,q1⟩=>ho pins s1 σ H1 x v Q I1 r1 q1)
theorem opI{f:Value->Value->Sem Value}{C:Int->Int->Prop}{g:Int->Int->Int}
  (rule:∀(i j:Int) (t u:Tok) (s:Shared) (Q:Value->Shared->Prop) (E:Value->Shared->Prop),C i j->Q (.int (g i j) s.toks) { s with toks:=s.toks+1 }->wpAny (model X.prog X.w) X.A (f (.int i t) (.int j u)) Q E s) :
  OpR X f (rI C fun i j=>.int (g i j)):=by
 intro pins s σ H x y v u Q I rx ry h
 obtain⟨i,j,rfl,rfl,hc,q⟩:=h
 obtain⟨t,rfl⟩:=rx
 obtain⟨t',rfl⟩:=ry
 exact rule i j t t' s _ _ hc ⟨.int (g i j),H,I.tok _,⟨_,rfl⟩,q⟩
theorem ca2{f:Value->Value->Sem Value}{g:Int->Int->Int}
  (rule:∀(i j:Int) (t u:Tok) (s:Shared) (Q:Value->Shared->Prop) (E:Value->Shared->Prop),Q (.int (g i j) s.toks) { s with toks:=s.toks+1 }->wpAny (model X.prog X.w) X.A (f (.int i t) (.int j u)) Q E s) :
  OpR X f (rI0 fun i j=>.int (g i j)):=by
 intro pins s σ H x y v u Q I rx ry h
 obtain⟨i,j,rfl,rfl,q⟩:=h
 obtain⟨t,rfl⟩:=rx
 obtain⟨t',rfl⟩:=ry
 exact rule i j t t' s _ _ ⟨.int (g i j),H,I.tok _,⟨_,rfl⟩,q⟩
theorem bv6{f:Value->Value->Sem Value}{g:Int->Int->Bool}
  (rule:∀(i j:Int) (t u:Tok) (s:Shared) (Q:Value->Shared->Prop) (E:Value->Shared->Prop),Q (.bool (g i j)) s->wpAny (model X.prog X.w) X.A (f (.int i t) (.int j u)) Q E s) :
  OpR X f (rI0 fun i j=>.bl (g i j)):=by
 intro pins s σ H x y v u Q I rx ry h
 obtain⟨i,j,rfl,rfl,q⟩:=h
 obtain⟨t,rfl⟩:=rx
 obtain⟨t',rfl⟩:=ry
 exact rule i j t t' s _ _ ⟨.bl (g i j),H,I,rfl,q⟩
theorem bd6:OpR X (binaryOp .Add) (rI0 fun i j=>.int (i+j)):=ca2 fun _ _ _ _ _ _ _ q=>add_int q
theorem bM8:OpR X (binaryOp .Sub) (rI0 fun i j=>.int (i - j)):=ca2 fun _ _ _ _ _ _ _ q=>sub_int q
theorem bM9:OpR X (binaryOp .Mod) (rI (fun _ j=>0 < j) fun i j=>.int (i % j)):=opI fun i j _ _ _ _ _ hc q=>by
 have h1:(0:Int) < j:=hc
 exact mod_int' (by omega) (by rw[Int.fmod_eq_emod_of_nonneg i (by omega)];exact q)
theorem unI{f:Value->Sem Value}{g:Int->Int}
  (rule:∀(i:Int) (t:Tok) (s:Shared) (Q:Value->Shared->Prop) (E:Value->Shared->Prop),Q (.int (g i) s.toks) { s with toks:=s.toks+1 }->wpAny (model X.prog X.w) X.A (f (.int i t)) Q E s) :
  UnR X f (rU fun i=>.int (g i)):=by
 intro pins s σ H x v Q I rx h
 obtain⟨i,rfl,q⟩:=h
 obtain⟨t,rfl⟩:=rx
 exact rule i t s _ _ ⟨.int (g i),H,I.tok _,⟨_,rfl⟩,q⟩
theorem bH8:UnR X (unaryOp .USub) (rU fun i=>.int (-i)):=unI fun _ _ _ _ _ q=>neg_int q
end
section
variable {X:Cx}{a b c:Expr}{ta tb tc:TE}{pos:Pos}
theorem bk7(I:Inv X pins σ H s) (q:Q (.bl k) H) (e:k=k'):EP X pins σ Q (.bool k') s:=by
 subst e
 exact⟨.bl k,H,I,rfl,q⟩
theorem bZ7:OpR X (compareOp .Lt) (rI0 fun i j=>.bl (decide (i < j))):=bv6 fun _ _ _ _ _ _ _ q=>lt_int q
theorem bZ8:OpR X (compareOp .LtE) (rI0 fun i j=>.bl (decide (i<=j))):=bv6 fun _ _ _ _ _ _ _ q=>le_int q
theorem ca0:OpR X (compareOp .Gt) (rI0 fun i j=>.bl (decide (j < i))):=bv6 fun _ _ _ _ _ _ _ q=>gt_int q
theorem ca1:OpR X (compareOp .GtE) (rI0 fun i j=>.bl (decide (j<=i))):=bv6 fun _ _ _ _ _ _ _ q=>ge_int q
theorem bN0:OpR X (compareOp .Is) (fun x y H Q=>y=.non/\Q (.bl (decide (x=.non))) H):=by
 intro pins s σ H x y v u Q I rx ry h
 obtain⟨rfl,q⟩:=h
 cases ry
 refine is_none_gen (bk7 I q ?_)
 cases x<;>first
  | (cases rx;rfl)
  | (obtain⟨t,rfl⟩:=rx;rfl)
theorem bv1:OpR X (compareOp .IsNot) (fun x y H Q=>y=.non/\Q (.bl (!decide (x=.non))) H):=by
 intro pins s σ H x y v u Q I rx ry h
 obtain⟨rfl,q⟩:=h
 cases ry
 refine isnot_none_gen (bk7 I q ?_)
 cases x<;>first
  | (cases rx;rfl)
  | (obtain⟨t,rfl⟩:=rx;rfl)
theorem au6(b:Expr) (h:op≠.In:=by decide) (h2:op≠.NotIn:=by decide):behindInMarks op b=false:=by
 have e1:(op==CmpOp.In)=false:=by cases op<;>first|rfl|exact absurd rfl h
 have e2:(op==CmpOp.NotIn)=false:=by cases op<;>first|rfl|exact absurd rfl h2
 cases b<;>simp[behindInMarks,e1,e2]
theorem aM7(ho:OpR X (compareOp op) r) (ha:PE X a ta) (hb:PE X b tb) (hm:behindInMarks op b=false):PE X (.Compare a [op] [b] pos) (tOp r ta tb):=by
 intro pins s σ H Q I h
 exact wpAny_Compare1 (bT7 ha hb I h fun v u s2 x y H2 I2 rx ry q=>ho pins s2 σ H2 x y v u Q I2 rx ry q) hm
noncomputable def bC0(t:TE):TT:=fun σ H Q=>t σ H fun x H'=>∃k,x=.bl k/\Q k H'
theorem aM3(ho:OpR X (compareOp op) r) (ha:PE X a ta) (hb:PE X b tb) (hm:behindInMarks op b=false):PT X (.Compare a [op] [b] pos) (bC0 (tOp r ta tb)):=by
 intro pins s σ H Q I h
 refine wpAny_isTrue_Compare1 (thn (ha pins s σ H _ I h) fun v s1 ⟨x,H1,I1,r1,q1⟩=>thn (hb pins s1 σ H1 _ I1 q1) fun u s2 ⟨y,H2,I2,r2,q2⟩ =>
  thn (ho pins s2 σ H2 x y v u _ I2 r1 r2 q2) fun c s3 ⟨z,H3,I3,r3,k,e,q3⟩=>?_) hm
 subst e
 cases r3
 exact wpAny_truthy_bool ⟨H3,I3,q3⟩
noncomputable def aZ3(r r':R2) (ta tb tc:TE):TE:=fun σ H Q=>ta σ H fun x H1=>tb σ H1 fun y H2=>r x y H2 fun z H3=>∃k,z=.bl k /\
 (if k=true then tc σ H3 fun w' H4=>r' y w' H4 Q else Q (.bl false) H3)
theorem ay8(ho:OpR X (compareOp op) r) (ho':OpR X (compareOp op') r') (ha:PE X a ta) (hb:PE X b tb) (hc:PE X c tc)
  (hm:lastMarks [op,op'] [b,c]=false:=by with_unfolding_all rfl):PE X (.Compare a [op,op'] [b,c] pos) (aZ3 r r' ta tb tc):=by
 intro pins s σ H Q I h
 refine Compare_chain (thn (ha pins s σ H _ I h) fun v s1 ⟨x,H1,I1,r1,q1⟩=>chain_link (thn (hb pins s1 σ H1 _ I1 q1) fun u s2 ⟨y,H2,I2,r2,q2⟩ =>
  thn (ho pins s2 σ H2 x y v u _ I2 r1 r2 q2) fun d s3 ⟨z,H3,I3,r3,k,e,q3⟩=>?_)) hm
 subst e
 cases r3
 refine wpAny_truthy_bool ?_
 cases k with
 | false=>exact ite_ff ⟨.bl false,H3,I3,rfl,q3⟩
 | true=>exact ite_tt (chain_last (thn (hc pins s3 σ H3 _ I3 q3) fun w' s4 ⟨z',H4,I4,r4,q4⟩=>ho' pins s4 σ H4 y z' u w' Q I4 r2 r4 q4))
theorem ay3(ho:OpR X (compareOp op) r) (ho':OpR X (compareOp op') r') (ha:PE X a ta) (hb:PE X b tb) (hc:PE X c tc)
  (hm:lastMarks [op,op'] [b,c]=false:=by with_unfolding_all rfl):PT X (.Compare a [op,op'] [b,c] pos) (bC0 (aZ3 r r' ta tb tc)):=by
 intro pins s σ H Q I h
 refine isTrue_chain (thn (ha pins s σ H _ I h) fun v s1 ⟨x,H1,I1,r1,q1⟩=>test_link (thn (hb pins s1 σ H1 _ I1 q1) fun u s2 ⟨y,H2,I2,r2,q2⟩ =>
  thn (ho pins s2 σ H2 x y v u _ I2 r1 r2 q2) fun d s3 ⟨z,H3,I3,r3,k,e,q3⟩=>?_)) hm
 subst e
 cases r3
 refine wpAny_truthy_bool ?_
 cases k with
 | false =>
  obtain⟨k',e',q'⟩:=q3
  cases e'
  exact ite_ff ⟨H3,I3,q'⟩
 | true =>
  refine ite_tt (test_last (thn (hc pins s3 σ H3 _ I3 q3) fun w' s4 ⟨z',H4,I4,r4,q4⟩=>thn (ho' pins s4 σ H4 y z' u w' _ I4 r2 r4 q4) fun d' s5 ⟨z2,H5,I5,r5,k2,e2,q5⟩=>?_))
  subst e2
  cases r5
  exact wpAny_truthy_bool ⟨H5,I5,q5⟩
noncomputable def bU7(K:PySem.W.Frag) (x:V) (H:Hp) (k:Bool):Prop :=
 match x with
 | .non=>k=false
 | .bl b=>k=b
 | .int i=>k=(i != 0)
 | .str y=>y.length<=sizeLine/\k=((y.length:Int) != 0)
 | .byt y=>y.size<=sizeLine/\k=((y.size:Int) != 0)
 | .ref p=>(∃xs,SqL K H p xs/\k = !xs.isEmpty)\/(∃xs,SqT K H p xs/\k = !xs.isEmpty)\/∃kvs,H p=some (.dK kvs)/\k = !kvs.isEmpty
 | _=>False
theorem aI0{κ:Type}{kvs:List (κ×V)}{vs:List (κ×Value)}(r:KV kvs vs):(!vs.isEmpty) = !kvs.isEmpty:=by
 cases r<;>rfl
theorem am1(r:B9 xs its):(!its.toArray.isEmpty) = !xs.isEmpty:=by
 cases r<;>simp
theorem v9:(sizeLine:Nat) < 2 ^ 63:=by rw[sizeLine_eq];decide
theorem aZ0:cm2 X (fun x H Q=>∃k,bU7 X.K x H k/\Q k H):=by
 intro pins s σ H x v Q I rx h
 obtain⟨k,e,q⟩:=h
 have hl:=v9
 have hs:sizeLine=16777216:=sizeLine_eq
 cases x with
 | non =>
  cases rx
  have e':k=false:=e
  subst e'
  exact truthy_none ⟨H,I,q⟩
 | bl b =>
  cases rx
  have e':k=b:=e
  subst e'
  exact wpAny_truthy_bool ⟨H,I,q⟩
 | int i =>
  obtain⟨t,rfl⟩:=rx
  have e':k=(i != 0):=e
  subst e'
  exact PySem.P.truthy_int ⟨H,I,q⟩
 | str y =>
  obtain⟨t,rfl⟩:=rx
  obtain⟨hy,e'⟩:y.length<=sizeLine/\k=((y.length:Int) != 0):=e
  subst e'
  exact PySem.P.truthy_str (by omega) ⟨H,I.tok _,q⟩
 | byt y =>
  obtain⟨t,rfl⟩:=rx
  obtain⟨hy,e'⟩:y.size<=sizeLine/\k=((y.size:Int) != 0):=e
  subst e'
  exact PySem.W.truthy_bytes (by omega) ⟨H,I.tok _,q⟩
 | ref p =>
  cases rx
  have e':(∃xs,SqL X.K H p xs/\k = !xs.isEmpty)\/(∃xs,SqT X.K H p xs/\k = !xs.isEmpty)\/∃kvs,H p=some (.dK kvs)/\k = !kvs.isEmpty:=e
  rcases e' with⟨xs,hx,e'⟩|⟨xs,hx,e'⟩|⟨kvs,hx,e'⟩
  ·subst e'
   obtain⟨its,r,pl,hz⟩:=I.list hx
   have hlen:=r.length
   exact wpAny_truthy_list pl.isList (by simp only[List.size_toArray];omega) ⟨H,I.tok _,by rw[am1 r];exact q⟩
  ·subst e'
   obtain⟨its,r,pl,hz⟩:=I.tuple hx
   have hlen:=r.length
   exact truthy_tuple pl (by simp only[List.size_toArray];omega) ⟨H,I.tok _,by rw[am1 r];exact q⟩
  ·subst e'
   obtain⟨hz,hS,vs,r,m⟩:kvs.length<=sizeLine/\(p==sysModules)=false/\∃vs,KV kvs vs/\s.heap.DictOf (K1 X.prog X.w) p vs:=I.hok p _ hx
   have hlen:kvs.length=vs.length:=Paired.length r
   exact wpAny_truthy_dict hS m (by omega) ⟨H,I.tok _,by rw[aI0 r];exact q⟩
 | _=>exact(show False from e).elim
theorem bb3(ha:PE X a ta) (he:∀whole,isTrue a X.env whole=(do let v ← whole;standAt a.pos;holding [v] (truthy v))) :
  PT X a (fun σ H Q=>ta σ H fun x H'=>∃k,bU7 X.K x H' k/\Q k H'):=by
 intro pins s σ H Q I h
 exact isTrue_plain (thn (ha pins s σ H _ I h) fun v s1 ⟨x,H1,I1,r1,q1⟩=>aZ0 pins s1 σ H1 x v Q I1 r1 q1) (he _)
theorem aH1:OpR X (binaryOp .Add) (fun x y H Q=>∃i j,x=.str i/\y=.str j/\i.length+j.length<=sizeLine/\Q (.str (i++j)) H):=by
 intro pins s σ H x y v u Q I rx ry h
 obtain⟨i,j,rfl,rfl,hz,q⟩:=h
 obtain⟨t,rfl⟩:=rx
 obtain⟨t',rfl⟩:=ry
 exact add_str (fun t' tk=>⟨.str (i++j),H,I.tok _,⟨_,rfl⟩,q⟩) hz
theorem ak3(r:B9 [x] us):∃u,us=[u]/\B6 x u:=by
 cases r with
 | cons r1 r2=>cases r2;exact⟨_,rfl,r1⟩
theorem aK8(r:B9 [x,y] us):∃u w',us=[u,w']/\B6 x u/\B6 y w':=by
 cases r with
 | cons r1 r2 =>
  cases r2 with
  | cons r3 r4=>cases r4;exact⟨_,_,rfl,r1,r3⟩
theorem aW5(hc:X.calm=true):m4 X (.builtin "max") (fun xs H Q=>∃i j,xs=[.int i,.int j]/\Q (.int (if j > i then j else i)) H):=by
 intro pins s σ H xs us Q I r h
 obtain⟨i,j,rfl,q⟩:=h
 obtain⟨u,w',rfl,⟨t,rfl⟩,⟨t',rfl⟩⟩:=aK8 r
 refine max_two_ints (I.ok.hd hc) fun h' tk k=>⟨_,H,I.kept k,?_,q⟩
 by_cases hj:j > i
 ·rw[if_pos hj,if_pos hj];exact⟨_,rfl⟩
 ·rw[if_neg hj,if_neg hj];exact⟨_,rfl⟩
theorem aW4(hc:X.calm=true):m4 X (.builtin "min") (fun xs H Q=>∃i j,xs=[.int i,.int j]/\Q (.int (if j < i then j else i)) H):=by
 intro pins s σ H xs us Q I r h
 obtain⟨i,j,rfl,q⟩:=h
 obtain⟨u,w',rfl,⟨t,rfl⟩,⟨t',rfl⟩⟩:=aK8 r
 refine min_two_ints (I.ok.hd hc) fun h' tk k=>⟨_,H,I.kept k,?_,q⟩
 by_cases hj:j < i
 ·rw[if_pos hj,if_pos hj];exact⟨_,rfl⟩
 ·rw[if_neg hj,if_neg hj];exact⟨_,rfl⟩
noncomputable def cm6(K:PySem.W.Frag) (x:V) (H:Hp) (n:Nat):Prop :=
 match x with
 | .str y=>y.length<=sizeLine/\n=y.length
 | .byt y=>y.size<=sizeLine/\n=y.size
 | .ref p=>(∃xs,SqL K H p xs/\n=xs.length)\/∃xs,SqT K H p xs/\n=xs.length
 | _=>False
theorem aD6:m4 X (.builtin "len") (fun xs H Q=>∃x n,xs=[x]/\cm6 X.K x H n/\Q (.int n) H):=by
 intro pins s σ H xs us Q I r h
 obtain⟨x,n,rfl,e,q⟩:=h
 obtain⟨u,rfl,rx⟩:=ak3 r
 have hl:=v9
 have hs:sizeLine=16777216:=sizeLine_eq
 cases x with
 | str y =>
  obtain⟨t,rfl⟩:=rx
  obtain⟨hy,e'⟩:y.length<=sizeLine/\n=y.length:=e
  subst e'
  exact len_str (by omega) ⟨.int _,H,I.tok _,⟨_,rfl⟩,q⟩
 | byt y =>
  obtain⟨t,rfl⟩:=rx
  obtain⟨hy,e'⟩:y.size<=sizeLine/\n=y.size:=e
  subst e'
  exact PySem.W.len_bytes (by omega) ⟨.int _,H,I.tok _,⟨_,rfl⟩,q⟩
 | ref p =>
  cases rx
  have e':(∃xs,SqL X.K H p xs/\n=xs.length)\/∃xs,SqT X.K H p xs/\n=xs.length:=e
  rcases e' with⟨xs,hx,e'⟩|⟨xs,hx,e'⟩
  ·subst e'
   obtain⟨its,r',pl,hz⟩:=I.list hx
   have hlen:=r'.length
   exact Calls.call_len_list pl.isList (by simp only[List.size_toArray];omega) ⟨.int xs.length,H,I.tok _,⟨_,by simp only[List.size_toArray];rw[hlen]⟩,q⟩
  ·subst e'
   obtain⟨its,r',pl,hz⟩:=I.tuple hx
   have hlen:=r'.length
   exact len_tuple pl (by simp only[List.size_toArray];omega) ⟨.int xs.length,H,I.tok _,⟨_,by simp only[List.size_toArray];rw[hlen]⟩,q⟩
 | _=>exact(show False from e).elim
end
end L2
namespace L2
open PySem PySem.Spec PyProof.Rows
structure ObjM (h:Heap) (x dx C:Addr) (mA:Str->Option Value):Prop where
 obj:h.get? x=some (PySem.W.instObj C dx)
 ns:h.Ns1 dx mA
 ne:dx≠x
theorem aT7{h:Heap}{dx:Addr}{mA:Str->Option Value}(n:h.Ns1 dx mA):∃od,h.get? dx=some od/\∀name,PySem.W.lookIn name od=some (mA name):=by
 obtain⟨o,es,ep,ho,hd,hk,_,hm⟩:=n
 refine⟨o,ho,fun name=>?_⟩
 have e:=hm name
 unfold nsFind findBy at e
 rw[← Array.find?_toList]at e
 unfold PySem.W.lookIn
 rw[hd]
 dsimp only
 split
 ·rename_i y q
  rw[q]at e
  exact congrArg some e
 ·rename_i q
  rw[q]at e
  have a:es.toList.any (·.refKey)=false:=by
   rw[List.any_eq_false]
   intro y hy
   obtain⟨z,t,hkey⟩:=hk y (Array.mem_toList_iff.mp hy)
   simp[DictEntry.refKey,hkey]
  have a':¬es.toList.any (·.refKey)=true:=by rw[a];exact Bool.false_ne_true
  rw[if_neg a']
  exact congrArg some e
theorem ObjM.look(I:ObjM h x dx C mA):∃od,PySem.W.InstAt h x (PySem.W.instObj C dx) C (some od)/\∀name,PySem.W.lookIn name od=some (mA name) :=
 let⟨od,ho,hl⟩:=aT7 I.ns
 ⟨od,⟨I.obj,rfl,rfl,ho⟩,hl⟩
section
variable {prog:Program}{w:World}{A:Around}{E:Value->Shared->Prop}{s:Shared}{K:PySem.W.Frag}{x dx C f:Addr}{mA:Str->Option Value}{name:Str}{v:Value}
theorem by9(X:K.In s.heap) (I:ObjM s.heap x dx C mA) (hg:PySem.W.plainGet K C name=true) (hh:PySem.W.hasDictIn K C=true)
  (ha:PySem.W.findIn K (.ref C) name=some none) (hv:mA name=some v) (hv':PySem.W.handedIn v=true) (h:Q v { s with toks:=s.toks+1 }) :
  wpAny (model prog w) A (getAttr (.ref x) name expr) Q E s:=by
 obtain⟨od,J,hl⟩:=I.look
 exact PySem.W.get_value X J (PySem.W.plainGet_of hg).1 (PySem.W.findObj_own hh ha rfl (by rw[hl,hv])) hv' h
theorem bj9(X:K.In s.heap) (I:ObjM s.heap x dx C mA) (hg:PySem.W.plainGet K C name=true)
  (hf:PySem.W.findIn K (.ref C) name=some (some (.ref f))) (ht:PySem.W.isFn K (.ref f)=true) (hv:mA name=none) (h:Q (.ref f,[.ref x]) s) :
  wpAny (model prog w) A (getMethod (.ref x) name pl) Q E s:=by
 obtain⟨od,J,hl⟩:=I.look
 exact PySem.W.method_fn X J (PySem.W.plainGet_of hg).1 (PySem.W.plainGet_of hg).2 hf (beq_iff_eq.mp ht) (by show(PySem.W.lookIn name od).map (·.isSome)=some false;rw[hl,hv];rfl) h
theorem bs1(X:K.In s.heap) (I:ObjM s.heap x dx C mA)
  (hs:PySem.W.findIn K (.ref C) "__setattr__" = some (some (.builtin "object.__setattr__"))) (hp:PySem.W.plainOver K C=true) (ht:PySem.W.takerIn K C name=some none) (hh:PySem.W.hasDictIn K C=true)
  (hw:PySem.Within mA ns) (hsz:ns.length<=sizeLine)
  (h:∀h',ObjM h' x dx C (fun y=>if y=name then some v else mA y)->Heap.SameBut dx s.heap h'->Q () { s with heap:=h',toks:=s.toks+2 }) :
  wpAny (model prog w) A (setAttr (.ref x) name v) Q E s:=by
 obtain⟨od,J,hl⟩:=I.look
 refine PySem.W.set_plain X J hs (PySem.W.osa_open (s:={ s with toks:=s.toks+1 }) (r:=none) X J hp ht fun b=>?_)
 obtain⟨cd,hc,hd'⟩:=PySem.W.any_some hh
 have hx:s.heap.get? x=some ⟨.ref C,some dx,.plain,#[]⟩:=I.obj
 refine wpAny_bind (wpAny_pure (wpAny_bind (wpAny_bind (wpAny_loadPart hx (wpAny_bind (PySem.W.Looks.here (s:={ s with toks:=s.toks+1 }) (PySem.W.looks_clsIn X hc) ?_))))))
 rw[hd']
 refine wpAny_pure (a:=some dx) (wpAny_bind (wpAny_pure (wpAny_bind ?_)))
 refine wpAny_nsSet1 (s:={ s with toks:=s.toks+1 }) I.ns fun h' hn2 hs2=>?_
 obtain⟨oD,esD,epD,hoD,hdD,hcD⟩:=hn2.count (PySem.Within.cons name v hw)
 refine wpAny_bind (wpAny_lookBehind hoD (by rw[hdD];exact pastItsLine_dict (Nat.le_trans hcD (by rw[List.length_cons];omega))) ?_)
 exact wpAny_pure (h _ ⟨(hs2.2 _ (Ne.symm I.ne)).trans I.obj,hn2,I.ne⟩ hs2)
theorem bf6(X:K.In s.heap) (hm:PySem.W.makesIn K C=true)
  (hi:PySem.W.findIn K (.ref C) "__init__" = some (some (.ref f))) (hf:PySem.W.typeIn K (.ref f)=some (.type "function"))
  (h:codeAny (model prog w) (A.under (.builtin "type.__call__" ⟨.ref C::vs,kw⟩)) (.call (.ref f) ⟨.ref (s.heap.objs.size+1)::vs,kw⟩) (PySem.W.InitBack (s.heap.objs.size+1) R)
   { s with heap:=(s.heap.push PySem.W.emptyDict).push (PySem.W.instObj C s.heap.objs.size) }) :
  codeAny (model prog w) A (.call (.ref C) ⟨vs,kw⟩) R s:=by
 obtain⟨hh,g,d,t,os⟩:=s
 exact PySem.W.make_core (PySem.W.makes_of X hm) (PySem.W.looks_findIn X hi) (fun self=>PySem.W.bind_fn X self hf) (.inl rfl) h
end
noncomputable def o9(f:Str) (v:V):List (Str×V)->List (Str×V)
 | []=>[(f,v)]
 | (g,x)::r=>if g=f then(g,v)::r else(g,x)::o9 f v r
theorem ag3(f g:Str) (v:V):∀fs:List (Str×V),(o9 f v fs).lookup g=if g=f then some v else fs.lookup g
 | []=>by
  show List.lookup g [(f,v)]=_
  by_cases h:g=f
  ·have hb:(g==f)=true:=beq_iff_eq.mpr h
   simp only[List.lookup,hb,if_pos h]
  ·have hb:(g==f)=false:=beq_eq_false_iff_ne.mpr h
   simp only[List.lookup,hb,if_neg h]
 | (k,x)::r=>by
  have ih:=ag3 f g v r
  rw[show o9 f v ((k,x)::r)=(if k=f then(k,v)::r else(k,x)::o9 f v r) from rfl]
  by_cases hk:k=f
  ·rw[if_pos hk]
   by_cases h:g=k
   ·have hb:(g==k)=true:=beq_iff_eq.mpr h
    simp only[List.lookup,hb,if_pos (h.trans hk)]
   ·have hb:(g==k)=false:=beq_eq_false_iff_ne.mpr h
    simp only[List.lookup,hb,if_neg (fun e:g=f=>h (e.trans hk.symm))]
  ·rw[if_neg hk]
   by_cases h:g=k
   ·have hb:(g==k)=true:=beq_iff_eq.mpr h
    simp only[List.lookup,hb,if_neg (fun e:g=f=>hk (h.symm.trans e))]
   ·have hb:(g==k)=false:=beq_eq_false_iff_ne.mpr h
    simp only[List.lookup,hb]
    exact ih
theorem ae4(f:Str) (v:V):∀fs:List (Str×V),f∈(o9 f v fs).map (·.1)/\∀g,g∈fs.map (·.1)->g∈(o9 f v fs).map (·.1)
 | []=>⟨by simp[o9],fun g h=>by simp at h⟩
 | (k,x)::r=>by
  obtain⟨i1,i2⟩:=ae4 f v r
  rw[show o9 f v ((k,x)::r)=(if k=f then(k,v)::r else(k,x)::o9 f v r) from rfl]
  by_cases hk:k=f
  ·rw[if_pos hk]
   subst hk
   exact⟨by simp,fun g h=>by simpa using h⟩
  ·rw[if_neg hk]
   refine⟨?_,fun g h=>?_⟩
   ·rw[List.map_cons]
    exact List.mem_cons_of_mem _ i1
   ·rw[List.map_cons]at h ⊢
    rcases List.mem_cons.mp h with e|e
    ·exact List.mem_cons.mpr (.inl e)
    ·exact List.mem_cons_of_mem _ (i2 g e)
theorem ag5(f:Str) (v:V):∀fs:List (Str×V),(o9 f v fs).length<=fs.length+1
 | []=>by simp[o9]
 | (k,x)::r=>by
  have ih:=ag5 f v r
  rw[show o9 f v ((k,x)::r)=(if k=f then(k,v)::r else(k,x)::o9 f v r) from rfl]
  by_cases hk:k=f
  ·rw[if_pos hk,List.length_cons,List.length_cons];omega
  ·rw[if_neg hk,List.length_cons,List.length_cons];omega
theorem c5.some_of(r:c5 (some v) o):∃u,o=some u/\B6 v u:=by
 cases o with
 | none=>exact(show False from r).elim
 | some u=>exact⟨u,rfl,r⟩
theorem c5.none_of(r:c5 none o):o=none:=by
 cases o with
 | none=>rfl
 | some u=>exact(show False from r).elim
theorem aU6(r:B6 v u):PySem.W.handedIn u=true:=by
 cases v with
 | non=>cases(show u=Value.none from r);rfl
 | bl b=>cases(show u=Value.bool b from r);rfl
 | int i=>obtain⟨t,e⟩:=(show ∃t,u=Value.int i t from r);cases e;rfl
 | str x=>obtain⟨t,e⟩:=(show ∃t,u=Value.str x t from r);cases e;rfl
 | byt b=>obtain⟨t,e⟩:=(show ∃t,u=Value.bytes b t from r);cases e;rfl
 | flt b=>obtain⟨t,e⟩:=(show ∃t,u=Value.float b t from r);cases e;rfl
 | ref a=>cases(show u=Value.ref a from r);rfl
 | ty n=>cases(show u=Value.type n from r);rfl
section
variable {P:Program}{w:World}{H H':Hp}{h h':Heap}{a C dx:Addr}{fs fs':List (Str×V)}
theorem av2(hok:HOk P w H h) (e:H a=some (.ins C dx fs)):∃mA,ObjM h a dx C mA/\(∀f,c5 (fs.lookup f) (mA f))/\PySem.Within mA (fs.map (·.1))/\fs.length<=1000/\H dx=some (.own a):=by
 obtain⟨d,z,ne,ob,mA,n,r,q⟩:=(show N8 P w H h a (.ins C dx fs) from hok a _ e)
 exact⟨mA,⟨ob,n,ne⟩,r,q,z,d⟩
end
structure Cls (K:PySem.W.Frag) (C:Addr):Prop where
 pg:PySem.W.plainGet K C Str.empty=true
 hd:PySem.W.hasDictIn K C=true
 po:PySem.W.plainOver K C=true
 sa:PySem.W.findIn K (.ref C) "__setattr__" = some (some (.builtin "object.__setattr__"))
theorem Cls.get{K:PySem.W.Frag}{C:Addr}(c:Cls K C) (f:Str):PySem.W.plainGet K C f=true:=c.pg
noncomputable def c6(K:PySem.W.Frag) (C:Addr) (f:Str):Prop:=PySem.W.findIn K (.ref C) f=some none
theorem c6.taker{K:PySem.W.Frag}{C:Addr}{f:Str}(n:c6 K C f):PySem.W.takerIn K C f=some none:=by
 unfold PySem.W.takerIn
 rw[show PySem.W.findIn K (.ref C) f=some none from n]
 rfl
structure Meth (K:PySem.W.Frag) (C:Addr) (m:Str) (f:Addr):Prop where
 at_:PySem.W.findIn K (.ref C) m=some (some (.ref f))
 fn:PySem.W.isFn K (.ref f)=true
 kp:PySem.W.keepIn K (.ref f)=true
section
variable {X:Cx}{pins:List (Addr×Obj)}{σ:St}{H:Hp}{s:Shared}{a C dx:Addr}{fs:List (Str×V)}{f:Str}{v:V}{A:Around}{E:Value->Shared->Prop}
theorem aI6(I:Inv X pins σ H s) (e:H a=some (.ins C dx fs)) (c:Cls X.K C) (n:c6 X.K C f) (l:fs.lookup f=some v)
  (h:∀u s',Inv X pins σ H s'->B6 v u->Q u s'):wpAny (model X.prog X.w) A (getAttr (.ref a) f b) Q E s:=by
 obtain⟨mA,O,r,_,_,_⟩:=av2 I.hok e
 obtain⟨u,hu,ru⟩:=c5.some_of (v:=v) (o:=mA f) (by rw[← l];exact r f)
 exact by9 I.kIn O (c.get f) c.hd n hu (aU6 ru) (h u _ (I.tok _) ru)
theorem V6(I:Inv X pins σ H s) (e:H a=some (.ins C dx fs)) (c:Cls X.K C) (k:Meth X.K C m g) (l:fs.lookup m=none)
  (h:Q (.ref g,[.ref a]) s):wpAny (model X.prog X.w) A (getMethod (.ref a) m pl) Q E s:=by
 obtain⟨mA,O,r,_,_,_⟩:=av2 I.hok e
 have hn:mA m=none:=c5.none_of (by rw[← l];exact r m)
 exact bj9 I.kIn O (c.get m) k.at_ k.fn hn h
theorem aG3(I:Inv X pins σ H s) (e:H a=some (.ins C dx fs)) (c:Cls X.K C) (n:c6 X.K C f) (hl:fs.length < 1000) (ry:B6 y u)
  (h:∀s',Inv X pins σ (upd H a (.ins C dx (o9 f y fs))) s'->Q () s'):wpAny (model X.prog X.w) A (setAttr (.ref a) f u) Q E s:=by
 obtain⟨mA,O,r,wi,_,ho⟩:=av2 I.hok e
 have hz:(fs.map (·.1)).length<=sizeLine:=by rw[List.length_map,sizeLine_eq];omega
 refine bs1 I.kIn O c.sa c.po n.taker c.hd wi hz fun h' O' sb=>h _ ?_
 have hd:∃o,h'.get? dx=some o:=let⟨o,_,_,e',_⟩:=O'.ns;⟨o,e'⟩
 refine I.write (x:=a) (e:=dx) (by rw[e];exact True.intro) (.inr ho) (fun b q hb z=>(sb.2 b hb).trans z) hd ?_
 refine⟨by rw[A3 O.ne];exact ho,?_,O.ne,O'.obj,_,O'.ns,fun g=>?_,fun g hg=>?_⟩
 ·have:=ag5 f y fs;omega
 ·show c5 ((o9 f y fs).lookup g) (if g=f then some u else mA g)
  rw[ag3]
  by_cases q:g=f
  ·rw[if_pos q,if_pos q];exact ry
  ·rw[if_neg q,if_neg q];exact r g
 ·by_cases q:g=f
  ·rw[q];exact(ae4 f y fs).1
  ·refine(ae4 f y fs).2 g (wi g fun z=>hg ?_)
   show(if g=f then some u else mA g)=none
   rw[if_neg q];exact z
theorem Inv.made(I:Inv X pins σ H s):Inv X pins σ (upd (upd H s.heap.objs.size (.own (s.heap.objs.size+1))) (s.heap.objs.size+1) (.ins C s.heap.objs.size []))
  { s with heap:=(s.heap.push PySem.W.emptyDict).push (PySem.W.instObj C s.heap.objs.size) }:=by
 have e1:(s.heap.push PySem.W.emptyDict).get? s.heap.objs.size=some PySem.W.emptyDict:=Heap.get?_push_size s.heap rfl
 have e2:((s.heap.push PySem.W.emptyDict).push (PySem.W.instObj C s.heap.objs.size)).get? (s.heap.objs.size+1)=some (PySem.W.instObj C s.heap.objs.size):=by
  have:=Heap.get?_push_size (s.heap.push PySem.W.emptyDict) (o:=PySem.W.instObj C s.heap.objs.size) rfl
  rwa [Heap.size_push]at this
 have e3:(s.heap.push PySem.W.emptyDict).Ns s.heap.objs.size (fun _=>none):=⟨PySem.W.emptyDict,#[],_,e1,rfl,(fun e he=>absurd he (by simp)),fun _=>rfl⟩
 have I1:=I.laid (a:=s.heap.objs.size) (o:=.own (s.heap.objs.size+1)) (h':=s.heap.push PySem.W.emptyDict) (t':=s.toks) (fun b u q=>Heap.get?_push_of_some _ q) (Nat.le_refl _) ⟨_,e1⟩
 refine I1.laid (a:=s.heap.objs.size+1) (o:=.ins C s.heap.objs.size []) (t':=s.toks) (fun b u q=>Heap.get?_push_of_some _ q) (Nat.le_of_eq (Heap.size_push _ _)) ?_
 have ne:s.heap.objs.size≠s.heap.objs.size+1:=Nat.ne_of_lt (Nat.lt_succ_self _)
 refine⟨by rw[A3 ne,A5],Nat.zero_le _,ne,e2,fun _=>none,(Heap.Ns1.of_empty e3).at fun o q=>Heap.get?_push_of_some _ q,fun _=>True.intro,fun y hy=>absurd rfl hy⟩
theorem bA5(hb:attributeBase e f env (eval e env)=eval e env)
  (h:wpAny (model prog w) A (eval e env) (fun o s₁=>wpAny (model prog w) A (getAttr o f true) Q E s₁) E s):wpAny (model prog w) A (eval (.Attribute e f pos) env) Q E s :=
 Attribute_any_ h (by rw[arm_eval_Attribute,hb])
end
noncomputable def ch2(K:PySem.W.Frag) (ta:TE) (f:Str):TE:=fun σ H Q=>ta σ H fun x H1=>∃a C dx fs v,x=.ref a/\H1 a=some (.ins C dx fs)/\Cls K C/\c6 K C f/\fs.lookup f=some v/\Q v H1
noncomputable def ch8(K:PySem.W.Frag) (ta tv:TE) (f:Str):TS:=fun D σ H=>tv σ H fun y H1=>ta σ H1 fun x H2=>∃a C dx fs,x=.ref a/\H2 a=some (.ins C dx fs)/\Cls K C/\c6 K C f/\fs.length < 1000 /\
 D.nx σ (upd H2 a (.ins C dx (o9 f y fs)))
section
variable {X:Cx}{o e value:Expr}{f:Str}{pos pos' tpos:Pos}{ta tv:TE}
theorem bL8(he:PE X e ta) (hb:attributeBase e f X.env (eval e X.env)=eval e X.env):PE X (.Attribute e f pos) (ch2 X.K ta f):=by
 intro pins s σ H Q I h
 refine bA5 hb (thn (he pins s σ H _ I h) fun u s1 ⟨x,H1,I1,rx,a,C,dx,fs,v,ex,ea,c,n,l,q⟩=>?_)
 subst ex
 obtain rfl:u=Value.ref a:=rx
 exact aI6 I1 ea c n l fun u' s2 I2 ru=>⟨v,H1,I2,ru,q⟩
theorem at8(ha:PE X o ta) (hv:PE X value tv) (hs:swapsWith value (some (.Attribute o f pos')) pos.line X.env=pure false):PS X (.Assign [.Attribute o f pos'] value pos) (ch8 X.K ta tv f):=by
 intro pins s σ H D I h
 refine plainObj_wpAny_Assign_Attribute (thn (hv pins s σ H _ I h) fun u s1 ⟨y,H1,I1,ry,q⟩=>thn (ha pins s1 σ H1 _ I1 q) fun ov s2 ⟨x,H2,I2,rx,a,C,dx,fs,ex,ea,c,n,l,q2⟩=>?_) hs
 subst ex
 obtain rfl:ov=Value.ref a:=rx
 exact aG3 I2 ea c n l ry fun s3 I3=>⟨σ,_,I3,q2⟩
theorem bD6(he:PE X e te) (I:Inv X pins σ H s)
  (h:te σ H fun x H1=>∃a C dx fs g,x=.ref a/\H1 a=some (.ins C dx fs)/\Cls X.K C/\Meth X.K C m g/\fs.lookup m=none /\
   ∀s1,Inv X pins σ H1 s1->wpAny (model X.prog X.w) X.A (callWith pos (.ref g) [.ref a] (backTo pos (starEach args X.env)) (backToKw pos (keywordEach [] X.env))) Q X.xe s1)
  (ht:eval (.Call (.Attribute e m apos) args [] pos) X.env=(do
   let ov ← eval e X.env
   standAt apos.atName
   let(f,first) ← holding [ov] (getMethod ov m pl)
   callWith pos f first (backTo pos (starEach args X.env)) (backToKw pos (keywordEach [] X.env)))) :
  wpAny (model X.prog X.w) X.A (eval (.Call (.Attribute e m apos) args [] pos) X.env) Q X.xe s:=by
 refine PySem.W.methodCall_KW (pl:=pl) (thn (he pins s σ H _ I h) fun u s1 ⟨x,H1,I1,rx,a,C,dx,fs,g,ex,ea,c,k,l,q⟩=>?_) ht
 subst ex
 obtain rfl:u=Value.ref a:=rx
 exact V6 I1 ea c k l (q s1 I1)
end
section
variable {X:Cx}{pins:List (Addr×Obj)}{σ:St}{H:Hp}{s:Shared}{A:Around}{E:Value->Shared->Prop}{Q:Value->Shared->Prop}{c:Value}{b:Bool}
end
end L2
namespace L2
open PySem PySem.Spec PyProof.Rows
structure Room (k:Nat) (A:Around):Prop where
 hd:A.handled=none
 dp:A.depth+3*k+5 < recursionLimit
 un:A.units+16*k+200 < cLine
theorem Room.mono(r:Room k A) (h:j<=k):Room j A:=⟨r.hd,by have:=r.dp;omega,by have:=r.un;omega⟩
theorem Room.deeper(r:Room (k+1) A) (env:Env):Room k (A.deeper env) :=
 ⟨r.hd,by have:=r.dp;show A.depth+1+3*k+5 < _;omega,by have:=r.un;show A.units+3+16*k+200 < _;omega⟩
theorem aH5{A:Around}{C:Addr}{us:List Value}{kw:List (Str×Value)}:(A.under (.builtin "type.__call__" ⟨.ref C::us,kw⟩)).depth=A.depth+1:=by
 first|rfl|simp[Around.under,Code.weight,Code.isCreation,Code.isGuard,Code.isCaller,Code.frames,Code.isFrame,guardIds]
theorem aH4{A:Around}{C:Addr}{us:List Value}{kw:List (Str×Value)}:(A.under (.builtin "type.__call__" ⟨.ref C::us,kw⟩)).units=A.units+1:=by
 first|rfl|simp[Around.under,Code.cUnits,Code.frames,Code.isFrame]
theorem Room.make(r:Room (k+1) A) (C:Addr) (us:List Value) (kw:List (Str×Value)):Room k (A.under (.builtin "type.__call__" ⟨.ref C::us,kw⟩)) :=
 ⟨r.hd,by have:=r.dp;rw[aH5];omega,by have:=r.un;rw[aH4];omega⟩
theorem Room.depth(r:Room k A):A.depth < recursionLimit:=by have:=r.dp;omega
theorem Room.units(r:Room k A):A.units+64 < cLine:=by have:=r.un;omega
noncomputable def br0:TA:=fun _ H Q=>Q [] H
noncomputable def bX8(ta:TE) (tr:TA):TA:=fun σ H Q=>ta σ H fun x H1=>tr σ H1 fun xs H2=>Q (x::xs) H2
section
variable {X:Cx}{e:Expr}{es:List Expr}{te:TE}{t:TA}{pos:Pos}
theorem M3:PA X [] br0:=fun _ _ _ _ H Q I h=>Calls.spliced_nil ⟨[],H,I,.nil,h⟩
theorem E2(ha:PE X e te) (hr:PA X es t) (hs:starEach (e::es) X.env=(false,eval e X.env)::starEach es X.env:=by rfl):PA X (e::es) (bX8 te t):=by
 intro pos pins s σ H Q I h
 rw[hs]
 show wpAny _ _ (spliced ((false,eval e X.env)::backTo pos (starEach es X.env))) _ _ s
 refine Calls.spliced_cons (thn (ha pins s σ H _ I h) fun u s1 ⟨x,H1,I1,r1,q1⟩=>?_)
 exact thn (hr pos pins s1 σ H1 _ I1 q1) fun us s2 ⟨xs,H2,I2,r2,q2⟩=>⟨x::xs,H2,I2,.cons r1 r2,q2⟩
noncomputable def cg3(t:TA):TE:=fun σ H Q=>t σ H fun xs H1=>xs.length<=sizeLine/\∀p,H1 p=none->Q (.ref p) (upd H1 p (.tup xs))
noncomputable def cg9(t:TA):TE:=fun σ H Q=>t σ H fun xs H1=>xs.length<=sizeLine/\∀p,H1 p=none->Q (.ref p) (upd H1 p (.lst xs))
theorem aG9{x1} (h:PA X es t):PE X (.Tuple es x1 pos) (cg3 t):=by
 intro pins s σ H Q I hq
 refine wpAny_Tuple_spliced (thn (h pos pins s σ H _ I hq) fun us s1 ⟨xs,H1,I1,r,z,q⟩=>⟨by rw[← r.length];exact z,?_⟩)
 have hf:H1 s1.heap.objs.size=none:=I1.hok.fresh (Nat.le_refl _)
 refine⟨.ref s1.heap.objs.size,upd H1 s1.heap.objs.size (.tup xs),I1.laid (t':=s1.toks) (fun b u e=>Heap.get?_push_of_some _ e) (Nat.le_refl _) ?_,rfl,q _ hf⟩
 exact⟨z,us,r,⟨_,Heap.get?_push_size _ rfl,rfl,⟨_,rfl⟩,rfl⟩⟩
theorem at9(h:PA X es t):PE X (.List es pos) (cg9 t):=by
 intro pins s σ H Q I hq
 refine wpAny_List_spliced (thn (h pos pins s σ H _ I hq) fun us s1 ⟨xs,H1,I1,r,z,q⟩=>⟨by rw[← r.length];exact z,?_⟩)
 have hf:H1 s1.heap.objs.size=none:=I1.hok.fresh (Nat.le_refl _)
 refine⟨.ref s1.heap.objs.size,upd H1 s1.heap.objs.size (.lst xs),I1.laid (t':=s1.toks) (fun b u e=>Heap.get?_push_of_some _ e) (Nat.le_refl _) ?_,rfl,q _ hf⟩
 exact⟨z,us,0,r,Heap.get?_push_size _ rfl⟩
end
noncomputable abbrev Sp:=List V->Hp->VK->XK->Prop
noncomputable abbrev CXT:=List Env->Hp->Shared->XK->Value->Shared->Prop
structure Env0 (P:Program) (w:World) (K:PySem.W.Frag) (mg:Str->Option Value) (base:Heap) (A:Around) (outer:List Env) (s:Shared) (H:Hp):Prop where
 frames:A.frames=some outer
 mod:Mod K mg base
 bs:∀b o,base.get? b=some o->s.heap.get? b=some o/\H b=none
 bsz:base.objs.size<=s.heap.objs.size
 funs:s.heap.FunFrames base outer
 frf:∀b∈frs outer,H b=none
 hok:HOk P w H s.heap
 bare:AllBare s.gens
noncomputable def CE(outer:List Env) (P:Program) (w:World) (H:Hp) (s:Shared) (Q:VK) (u:Value) (s':Shared):Prop :=
 ∃v H',s'.os=s.os/\AllBare s'.gens/\Un (frs outer) [] H H' s.heap s'.heap/\HOk P w H' s'.heap/\B6 v u/\Q v H'
noncomputable def CR(CX:CXT) (outer:List Env) (P:Program) (w:World) (H:Hp) (s:Shared) (Q:VK) (E:XK) (r:Result) (s':Shared):Prop :=
 match r with
 | .ok (.ret u)=>CE outer P w H s Q u s'
 | .ok _=>False
 | .error e=>CX outer H s E e s'
structure FnOk (P:Program) (w:World) (K:PySem.W.Frag) (mg:Str->Option Value) (base:Heap) (CX:CXT) (k:Nat) (f:Addr) (fd:FuncData) (ps:List Str) (sp:Sp):Prop where
 len:∀vs H Q E,sp vs H Q E->vs.length=ps.length
 run:∀(A:Around) (outer:List Env) (s:Shared) (H:Hp) (args:Args) (us:List Value) (vs:List V) (Q:VK) (E:XK),Room k A->Env0 P w K mg base A outer s H->BindsTo s fd args (ps.zip us)->B9 vs us->sp vs H Q E ->
  codeAny (model P w) A (.call (.ref f) args) (CR CX outer P w H s Q E) s
theorem FnOk.mono{P:Program}{w:World}{K:PySem.W.Frag}{mg:Str->Option Value}{base:Heap}{CX:CXT}{j k:Nat}{f:Addr}{fd:FuncData}{ps:List Str}{sp:Sp}(F:FnOk P w K mg base CX j f fd ps sp) (h:j<=k) :
  FnOk P w K mg base CX k f fd ps sp:=⟨F.len,fun A outer s H args us vs Q E hr=>F.run A outer s H args us vs Q E (hr.mono h)⟩
theorem FnOk.imp{P:Program}{w:World}{K:PySem.W.Frag}{mg:Str->Option Value}{base:Heap}{CX:CXT}{k:Nat}{f:Addr}{fd:FuncData}{ps:List Str}{sp sp':Sp}(F:FnOk P w K mg base CX k f fd ps sp)
  (h:∀vs H Q E,sp' vs H Q E->sp vs H Q E):FnOk P w K mg base CX k f fd ps sp' :=
 ⟨fun vs H Q E q=>F.len vs H Q E (h _ _ _ _ q),fun A outer s H args us vs Q E hr he hb hv hs=>F.run A outer s H args us vs Q E hr he hb hv (h _ _ _ _ hs)⟩
theorem Env0.make{P:Program}{w:World}{K:PySem.W.Frag}{mg:Str->Option Value}{base:Heap}{A:Around}{outer:List Env}{s:Shared}{H:Hp}(e:Env0 P w K mg base A outer s H) (C:Addr) (us:List Value) (kw:List (Str×Value)) :
  Env0 P w K mg base (A.under (.builtin "type.__call__" ⟨.ref C::us,kw⟩)) outer s H:=⟨by first|exact e.frames|(simpa [Around.under,Code.envs,Code.isFrame,pushEnvs] using e.frames),e.mod,e.bs,e.bsz,e.funs,e.frf,e.hok,e.bare⟩
section
variable {X:Cx}{pins:List (Addr×Obj)}{σ:St}{H:Hp}{s s':Shared}
theorem Inv.env0(I:Inv X pins σ H s):Env0 X.prog X.w X.K X.mg X.base X.A X.stack s H :=
 ⟨I.ok.frames,I.ok.mod,I.bs,Nat.le_trans I.ok.bsz I.sz,I.stack,I.stkFree,I.hok,I.bare⟩
theorem Inv.after(I:Inv X pins σ H s) (h:CE X.stack X.prog X.w H s Q u s'):EP X pins σ Q u s':=by
 obtain⟨v,H',os,bare,un,hok,r,q⟩:=h
 obtain⟨hh,g,d,t,os'⟩:=s'
 obtain rfl:os'=s.os:=os
 exact⟨v,H',I.call (h':=hh) (g':=g) (d':=d) (t':=t) (ch:=[]) un hok bare (fun b z=>absurd z (by simp)),r,q⟩
end
noncomputable def bC3(sp:Sp) (dvs:List V) (E:XK) (t:TA):TE:=fun σ H Q=>t σ H fun vs H1=>sp (vs++dvs) H1 Q E
noncomputable def bC2(C:Addr) (m:Str) (sp:Sp) (dvs:List V) (E:XK) (ta:TE) (t:TA):TE:=fun σ H Q=>ta σ H fun x H1=>∃a dx fs,x=.ref a/\H1 a=some (.ins C dx fs)/\fs.lookup m=none /\
 t σ H1 fun vs H2=>sp (x::(vs++dvs)) H2 Q E
noncomputable def bX5(C:Addr) (sp:Sp) (dvs:List V) (E:XK) (t:TA):TE:=fun σ H Q=>t σ H fun vs H1=>∀x dx,H1 x=none->H1 dx=none->dx≠x ->
 sp (.ref x::(vs++dvs)) (upd (upd H1 dx (.own x)) x (.ins C dx [])) (fun v H2=>v=.non/\Q (.ref x) H2) E
noncomputable def K2(K:PySem.W.Frag) (fd:FuncData) (ps:List Str) (ds:List Value):Prop :=
 ∀(s:Shared) (us:List Value),K.In s.heap->(us++ds).length=ps.length->BindsTo s fd ⟨us,[]⟩ (ps.zip (us++ds))
theorem K2.all{K:PySem.W.Frag}{fd:FuncData}{ps:List Str}(h:∀us:List Value,us.length=ps.length->bindArgs fd ⟨us,[]⟩=pure (ps.zip us)):K2 K fd ps []:=fun s us _ hl=>by
 rw[List.append_nil]at hl ⊢
 exact .of_eq (h us hl)
noncomputable def l8(CX:CXT) (X:Cx) (E:XK):Prop:=∀(pins:List (Addr×Obj)) (σ:St) (H:Hp) (s:Shared) (e:Value) (s':Shared),Inv X pins σ H s->CX X.stack H s E e s'->X.xe e s'
section
variable {X:Cx}{CX:CXT}{k:Nat}{f C:Addr}{fd:FuncData}{ps:List Str}{sp:Sp}{dvs:List V}{ds:List Value}{E:XK}{x m:Str}{p pos apos:Pos}{e o:Expr}{es:List Expr}{ta:TE}{t:TA}
theorem at2(F:FnOk X.prog X.w X.K X.mg X.base CX k f fd ps sp) (hr:Room k X.A) (hb:K2 X.K fd ps ds) (hd:B9 dvs ds) (hx:l8 CX X E)
  (I:Inv X pins σ H s) (r:B9 vs us) (h:sp (vs++dvs) H Q E):wpAny (model X.prog X.w) X.A (call (.ref f) us) (EP X pins σ Q) X.xe s:=by
 have r2:B9 (vs++dvs) (us++ds):=r.append hd
 have hl:(us++ds).length=ps.length:=by rw[← r2.length];exact F.len _ _ _ _ h
 refine wpAny_call (codeAny_mono (F.run X.A X.stack s H ⟨us,[]⟩ (us++ds) (vs++dvs) Q E hr I.env0 (hb s us I.kIn hl) r2 h) fun r s' hq=>?_)
 cases r with
 | error e=>exact hx pins σ H s e s' I hq
 | ok fl =>
  cases fl with
  | ret u=>exact I.after hq
  | next=>exact False.elim hq
  | brk=>exact False.elim hq
  | cont=>exact False.elim hq
theorem aM8(F:FnOk X.prog X.w X.K X.mg X.base CX k f fd ps sp) (hr:Room k X.A) (hg:Gl X x) (hm:X.mg x=some (.ref f)) (hk:PySem.W.keepIn X.K (.ref f)=true) (hb:K2 X.K fd ps ds) (hd:B9 dvs ds) (hx:l8 CX X E)
  (ha:PA X (e::es) t) (hdb:(x==("__debug__" : Str))=false:=by decide) (he:starEach (e::es) X.env=(false,eval e X.env)::starEach es X.env:=by rfl) (hpl:(backTo pos (starEach es X.env)).any (·.1)=false:=by rfl) :
  PE X (.Call (.Name x p) (e::es) [] pos) (bC3 sp dvs E t):=by
 intro pins s σ H Q I h
 refine wpAny_Call_Name_kw (W8 I hg hm ?_ hdb)
 refine PySem.W.callWith_K (h₀:=X.base) I.ok.mod.kin hk (thn (ha pos pins s σ H _ I h) fun us s1 ⟨vs,H1,I1,r,q⟩=>⟨I1.kIn,?_⟩) he hpl
 exact at2 F hr hb hd hx I1 r q
theorem bc6(F:FnOk X.prog X.w X.K X.mg X.base CX k f fd ps sp) (hr:Room k X.A) (hg:Gl X x) (hm:X.mg x=some (.ref f)) (hk:PySem.W.keepIn X.K (.ref f)=true) (hb:K2 X.K fd ps ds) (hd:B9 dvs ds) (hx:l8 CX X E)
  (hdb:(x==("__debug__" : Str))=false:=by decide):PE X (.Call (.Name x p) [] [] pos) (bC3 sp dvs E br0):=by
 intro pins s σ H Q I h
 refine wpAny_Call_Name_kw (W8 I hg hm ?_ hdb)
 exact PySem.W.callWith_K0 I.kIn hk (at2 (us:=[]) F hr hb hd hx I .nil h)
theorem bu3(he:PE X o ta) (c:Cls X.K C) (hm:Meth X.K C m f) (F:FnOk X.prog X.w X.K X.mg X.base CX k f fd ps sp) (hr:Room k X.A) (hb:K2 X.K fd ps ds) (hd:B9 dvs ds) (hx:l8 CX X E) (ha:PA X (e::es) t)
  (hst:starEach (e::es) X.env=(false,eval e X.env)::starEach es X.env:=by rfl) (hpl:(backTo pos (starEach es X.env)).any (·.1)=false:=by rfl)
  (ht:eval (.Call (.Attribute o m apos) (e::es) [] pos) X.env=(do
   let ov ← eval o X.env
   standAt apos.atName
   let(f,first) ← holding [ov] (getMethod ov m pl)
   callWith pos f first (backTo pos (starEach (e::es) X.env)) (backToKw pos (keywordEach [] X.env))):=by rfl) :
  PE X (.Call (.Attribute o m apos) (e::es) [] pos) (bC2 C m sp dvs E ta t):=by
 intro pins s σ H Q I h
 refine PySem.W.methodCall_KW (pl:=pl) (thn (he pins s σ H _ I h) fun u s1 ⟨x,H1,I1,rx,a,dx,fs,ex,ea,l,q⟩=>?_) ht
 subst ex
 obtain rfl:u=Value.ref a:=rx
 refine V6 I1 ea c hm l ?_
 refine PySem.W.callWith_K (first:=[.ref a]) (h₀:=X.base) I.ok.mod.kin hm.kp (thn (ha pos pins s1 σ H1 _ I1 q) fun us s2 ⟨vs,H2,I2,r,q2⟩=>⟨I2.kIn,?_⟩) hst hpl
 exact at2 (us:=.ref a::us) (vs:=.ref a::vs) F hr hb hd hx I2 (.cons rfl r) q2
theorem bc2(he:PE X o ta) (c:Cls X.K C) (hm:Meth X.K C m f) (F:FnOk X.prog X.w X.K X.mg X.base CX k f fd ps sp) (hr:Room k X.A) (hb:K2 X.K fd ps ds) (hd:B9 dvs ds) (hx:l8 CX X E)
  (ht:eval (.Call (.Attribute o m apos) [] [] pos) X.env=(do
   let ov ← eval o X.env
   standAt apos.atName
   let(f,first) ← holding [ov] (getMethod ov m pl)
   callWith pos f first (backTo pos (starEach [] X.env)) (backToKw pos (keywordEach [] X.env))):=by rfl) :
  PE X (.Call (.Attribute o m apos) [] [] pos) (bC2 C m sp dvs E ta br0):=by
 intro pins s σ H Q I h
 refine PySem.W.methodCall_KW (pl:=pl) (thn (he pins s σ H _ I h) fun u s1 ⟨x,H1,I1,rx,a,dx,fs,ex,ea,l,q⟩=>?_) ht
 subst ex
 obtain rfl:u=Value.ref a:=rx
 refine V6 I1 ea c hm l ?_
 exact PySem.W.callWith_K0 (first:=[.ref a]) I1.kIn hm.kp (at2 (us:=[.ref a]) (vs:=[.ref a]) F hr hb hd hx I1 (.cons rfl .nil) q)
structure Mk (K:PySem.W.Frag) (C f:Addr):Prop where
 makes:PySem.W.makesIn K C=true
 init:PySem.W.findIn K (.ref C) "__init__" = some (some (.ref f))
 fn:PySem.W.isFn K (.ref f)=true
 kp:PySem.W.keepIn K (.ref C)=true
theorem ba7(M:Mk X.K C f) (F:FnOk X.prog X.w X.K X.mg X.base CX k f fd ps sp) (hr:Room (k+1) X.A) (hb:K2 X.K fd ps ds) (hd:B9 dvs ds)
  (hx:l8 CX X E) (I:Inv X pins σ H s) (r:B9 vs us)
  (h:∀x dx,H x=none->H dx=none->dx≠x->sp (.ref x::(vs++dvs)) (upd (upd H dx (.own x)) x (.ins C dx [])) (fun v H2=>v=.non/\Q (.ref x) H2) E) :
  wpAny (model X.prog X.w) X.A (call (.ref C) us) (EP X pins σ Q) X.xe s:=by
 have hq:=h (s.heap.objs.size+1) s.heap.objs.size (I.hok.fresh (Nat.le_succ _)) (I.hok.fresh (Nat.le_refl _)) (Nat.ne_of_lt (Nat.lt_succ_self _))
 have I2:=Inv.made (C:=C) I
 have r2:B9 (V.ref (s.heap.objs.size+1)::(vs++dvs)) (Value.ref (s.heap.objs.size+1)::(us++ds)):=.cons rfl (r.append hd)
 have hl:(Value.ref (s.heap.objs.size+1)::us++ds).length=ps.length:=by
  have e:=r2.length
  rw[F.len _ _ _ _ hq]at e
  exact e.symm
 refine wpAny_call (bf6 (f:=f) I.kIn M.makes M.init (beq_iff_eq.mp M.fn) (codeAny_mono (F.run _ X.stack _ _ ⟨Value.ref (s.heap.objs.size+1)::us,[]⟩ (Value.ref (s.heap.objs.size+1)::(us++ds)) _ _ E (hr.make C us [])
  (I2.env0.make C us []) (hb _ (Value.ref (s.heap.objs.size+1)::us) I2.kIn hl) r2 hq) fun r s' hq'=>?_))
 cases r with
 | error e=>exact hx pins σ _ _ e s' I2 hq'
 | ok fl =>
  cases fl with
  | ret u =>
   obtain⟨v,H',I3,rv,ev,q3⟩:=I2.after hq'
   subst ev
   exact⟨rv,⟨V.ref (s.heap.objs.size+1),H',I3,rfl,q3⟩⟩
  | next=>exact False.elim hq'
  | brk=>exact False.elim hq'
  | cont=>exact False.elim hq'
theorem bc3(M:Mk X.K C f) (F:FnOk X.prog X.w X.K X.mg X.base CX k f fd ps sp) (hr:Room (k+1) X.A) (hg:Gl X x) (hm:X.mg x=some (.ref C)) (hb:K2 X.K fd ps ds) (hd:B9 dvs ds) (hx:l8 CX X E)
  (hdb:(x==("__debug__" : Str))=false:=by decide):PE X (.Call (.Name x p) [] [] pos) (bX5 C sp dvs E br0):=by
 intro pins s σ H Q I h
 refine wpAny_Call_Name_kw (W8 I hg hm ?_ hdb)
 exact PySem.W.callWith_K0 I.kIn M.kp (ba7 (us:=[]) M F hr hb hd hx I .nil h)
end
section
variable {X:Cx}{CX:CXT}{k:Nat}{f C:Addr}{fd:FuncData}{ps ks:List Str}{sp:Sp}{E:XK}{x m:Str}{p pos apos kpos:Pos}{e o:Expr}{es:List Expr}{kws:List Keyword}{te ta:TE}{t tk:TA}{nm:Option Str}
variable {g:List Value->List Value->List Value}{gV:List V->List V->List V}
end
structure FnScope (N P:List Str) (sc:Scope):Prop where
 kind:sc.kind=.function
 co:sc.isCoroutine=false
 gen:sc.isGenerator=false
 nd:N.Nodup
 pre:N.take P.length=P
 par:∀x∈P,sc.names.lookup x=some .local\/sc.names.lookup x=some .cell
 nofree:∀y∈sc.names,y.2≠.free
theorem ar2{kindOf:Str->Option NameKind}{x:Str}:∀{binds:List (Str×Value)}{m:Str->Option Value},(∀v,(x,v)∉binds)->bindL kindOf binds m x=m x
 | [],_,_=>rfl
 | (n,v)::r,m,h=>by
  unfold bindL
  rw[ar2 fun w hw=>h w (List.mem_cons_of_mem _ hw)]
  split
  ·have:x≠n:=by rintro rfl;exact h v List.mem_cons_self
   simp[this]
  ·rfl
theorem ar3{kindOf:Str->Option NameKind}{x:Str}:∀{binds:List (Str×Value)}{m:Str->Option Value},(∀v,(x,v)∉binds)->bindC kindOf binds m x=m x
 | [],_,_=>rfl
 | (n,v)::r,m,h=>by
  unfold bindC
  rw[ar3 fun w hw=>h w (List.mem_cons_of_mem _ hw)]
  split
  ·rfl
  ·have:x≠n:=by rintro rfl;exact h v List.mem_cons_self
   simp[this]
theorem af2{kindOf:Str->Option NameKind}{x:Str}{v:Value}:∀{P:List Str}{vs:List Value}{i:Nat}{m:Str->Option Value},P.Nodup->P[i]? = some x->vs[i]? = some v->kindOf x=some .local ->
  bindL kindOf (P.zip vs) m x=some v
 | [],_,_,_,_,h,_,_=>by simp at h
 | _::_,[],_,_,_,_,h,_=>by simp at h
 | p::P,w::vs,0,m,nd,h1,h2,hk=>by
  simp at h1 h2;subst h1;subst h2
  show bindL kindOf ((p,w)::P.zip vs) m p=_
  unfold bindL
  rw[ar2 fun v hv=>(List.nodup_cons.mp nd).1 (List.of_mem_zip hv).1,if_pos hk]
  simp
 | p::P,w::vs,i+1,m,nd,h1,h2,hk=>by
  show bindL kindOf ((p,w)::P.zip vs) m x=_
  unfold bindL
  exact af2 (i:=i) (List.nodup_cons.mp nd).2 (by simpa using h1) (by simpa using h2) hk
theorem af3{kindOf:Str->Option NameKind}{x:Str}{v:Value}:∀{P:List Str}{vs:List Value}{i:Nat}{m:Str->Option Value},P.Nodup->P[i]? = some x->vs[i]? = some v->kindOf x≠some .local ->
  bindC kindOf (P.zip vs) m x=some v
 | [],_,_,_,_,h,_,_=>by simp at h
 | _::_,[],_,_,_,_,h,_=>by simp at h
 | p::P,w::vs,0,m,nd,h1,h2,hk=>by
  simp at h1 h2;subst h1;subst h2
  show bindC kindOf ((p,w)::P.zip vs) m p=_
  unfold bindC
  rw[ar3 fun v hv=>(List.nodup_cons.mp nd).1 (List.of_mem_zip hv).1,if_neg hk]
  simp
 | p::P,w::vs,i+1,m,nd,h1,h2,hk=>by
  show bindC kindOf ((p,w)::P.zip vs) m x=_
  unfold bindC
  exact af3 (i:=i) (List.nodup_cons.mp nd).2 (by simpa using h1) (by simpa using h2) hk
noncomputable def start(N:List Str) (vs:List V):St:=vs.map some++List.replicate (N.length - vs.length) none
noncomputable def l7(CX:CXT) (P:Program) (w:World) (K:PySem.W.Frag) (mg:Str->Option Value) (base:Heap) (N:List Str) (qual:Str) (scope:Scope) (f:Addr) (cd:Value) (A:Around) (outer:List Env) (s:Shared) (H:Hp) (E:XK):Cx where
 prog:=P
 w:=w
 K:=K
 mg:=mg
 base:=base
 A:=A.deeper (envOfC qual scope s.heap.objs.size f cd)
 N:=N
 s₀:=s
 H₀:=H
 env:=envOfC qual scope s.heap.objs.size f cd
 outer:=outer
 stack:=envOfC qual scope s.heap.objs.size f cd::outer
 ex:=[]
 calm:=true
 fn:=fun _=>true
 pn:=[]
 xe:=fun e s'=>wpAny (model P w) (A.deeper (envOfC qual scope s.heap.objs.size f cd)) (leaving (envOfC qual scope s.heap.objs.size f cd) e) (fun _ s''=>CX outer H s E e s'') (fun e' s''=>CX outer H s E e' s'') s'
theorem ac9{sc:Scope}{n:Nat}{x:Str}(h:sc.names.lookup x=some .cell):∃c,(cellsFrom n sc.names []).lookup x=some c:=by
 have q:=PySem.W.cellsFrom_some sc.names n [] (.inl h)
 exact Option.isSome_iff_exists.mp q
theorem aU4{CX:CXT}{P:Program}{w:World}{K:PySem.W.Frag}{mg:Str->Option Value}{base:Heap}{N ps:List Str}{qual:Str}{scope:Scope}{f:Addr}{cd:Value}{A:Around}{outer:List Env}{s s1:Shared}{H:Hp}{E:XK}{us:List Value}{vs:List V}
  (S:FnScope N ps scope) (hd:A.handled=none) (e0:Env0 P w K mg base A outer s H) (hl:vs.length=ps.length) (r:B9 vs us)
  (x:InCallC s s.heap.objs.size (bindL (envOfC qual scope s.heap.objs.size f cd).kindOf (ps.zip us) fun _=>none) (cellsFrom (s.heap.objs.size+1) scope.names []) (bindC (envOfC qual scope s.heap.objs.size f cd).kindOf (ps.zip us) fun _=>none) s1) :
  Inv (l7 CX P w K mg base N qual scope f cd A outer s H E) [] (start N vs) H s1:=by
 have hpl:ps.length<=N.length:=by have:=congrArg List.length S.pre;rw[List.length_take]at this;omega
 obtain⟨h1,tk,rfl,hk⟩:=x.done
 have noA:∀b:Addr,b∉(l7 CX P w K mg base N qual scope f cd A outer s H E).ex:=fun b z=>absurd (show b∈([]:List Addr) from z) (by simp)
 refine⟨⟨e0.mod,S.kind,rfl,rfl,Nat.le_refl _,fun y z c h1 h2=>?_,fun y hy=>?_,fun y c _ h=>?_,fun _=>hd,Around.frames_deeper e0.frames,.inr ⟨rfl,rfl⟩,fun b z=>absurd z (noA b),e0.bs,e0.bsz,fun b _ _=>noA b,fun b z=>absurd z (noA b),e0.funs,e0.frf⟩,
  rfl,e0.bare,Un.kept hk,⟨_,x.toInCall.ns,fun i y v h1 h2 h3=>?_⟩,fun y c h=>⟨_,x.cell y c h⟩,e0.hok.fresh (Nat.le_refl _),fun y c h=>?_,fun p hp=>absurd (show p∈([]:List (Addr×Obj)) from hp) (by simp),e0.hok.kept hk,?_⟩
 ·exact name_of_addr x.apart (PySem.mem_of_lookup h1) (PySem.mem_of_lookup h2)
 ·have hy:scope.names.lookup y=some .cell\/scope.names.lookup y=some .free:=hy
  rcases hy with hy|hy
  ·exact ac9 hy
  ·exact absurd rfl (S.nofree _ (PySem.mem_of_lookup hy))
 ·exact Nat.le_of_lt (x.above y c (PySem.mem_of_lookup h))
 ·have hi:i < vs.length:=by
   unfold start at h2
   by_cases hi:i < vs.length
   ·exact hi
   ·rw[List.getElem?_append_right (by simpa using hi)]at h2
    rw[List.getElem?_replicate]at h2
    split at h2<;>cases h2
  have ha:vs[i]? = some v:=by
   unfold start at h2
   rw[List.getElem?_append_left (by simpa using hi),List.getElem?_map]at h2
   cases e:vs[i]? with
   | none=>rw[e]at h2;cases h2
   | some a=>rw[e]at h2;cases h2;rfl
  obtain⟨u,hu,rv⟩:=r.get ha
  have hp:ps[i]? = some y:=by
   rw[← S.pre,List.getElem?_take_of_lt (by omega)];exact h1
  have ndP:ps.Nodup:=by rw[← S.pre];exact S.nd.sublist (List.take_sublist _ _)
  refine⟨u,rv,?_⟩
  rcases S.par y (List.mem_of_getElem? hp) with k|k
  ·exact .inl ⟨k,af2 ndP hp hu k⟩
  ·obtain⟨c,e⟩:=ac9 (n:=s.heap.objs.size+1) k
   refine .inr ⟨.inl k,c,e,?_⟩
   have q:=x.cell y c e
   rw[af3 ndP hp hu (by show scope.names.lookup y≠_;rw[k];decide)]at q
   exact q
 ·exact e0.hok.fresh (Nat.le_of_lt (x.above y c (PySem.mem_of_lookup h)))
 ·unfold start
  show _=N.length
  rw[List.length_append,List.length_map,List.length_replicate]
  omega
theorem bE4{CX:CXT}{P:Program}{w:World}{K:PySem.W.Frag}{mg:Str->Option Value}{base:Heap}{k:Nat}{f:Addr}{name qual:Str}{params:Arguments}{body:List Stmt}{scope:Scope}{dV kV doc pm cdv ct oc:Value}{an od:Option Addr}
  {osl:Array (Option Value)}{N ps:List Str}{sp:Sp}(lk:K.lookup f=some ⟨oc,od,.func (PySem.W.fnOf name qual params body scope dV kV doc pm an cdv ct),osl⟩) (hcd:PySem.W.codeIn K cdv qual=true) (S:FnScope N ps scope)
  (len:∀vs H Q E,sp vs H Q E->vs.length=ps.length)
  (hbody:∀(A:Around) (outer:List Env) (s:Shared) (H:Hp) (vs:List V) (Q:VK) (E:XK),Room k (A.deeper (envOfC qual scope s.heap.objs.size f cdv))->sp vs H Q E ->
   ∃t,PSs (l7 CX P w K mg base N qual scope f cdv A outer s H E) body t/\t { nx:=fun _ H'=>Q .non H',rt:=Q } (start N vs) H) :
  FnOk P w K mg base CX (k+1) f (PySem.W.fnOf name qual params body scope dV kV doc pm an cdv ct) ps sp:=by
 refine⟨len,fun A outer s H args us vs Q E hr e0 hb r hsp=>?_⟩
 have hl:=len _ _ _ _ hsp
 have KX:K.In s.heap:=e0.mod.kin.keeps fun b o e=>(e0.bs b o e).1
 have lim:s.heap.NoLimit:=e0.mod.nolimit.keeps fun b o e=>(e0.bs b o e).1
 have hkind:∀y∈ps.zip us,scope.names.lookup y.1=some .local\/(scope.names.lookup y.1=some .cell/\((cellsFrom (s.heap.objs.size+1) scope.names []).lookup y.1).isSome=true):=fun⟨n,v⟩ hy=>by
  rcases S.par n (List.of_mem_zip hy).1 with q|q
  ·exact .inl q
  ·exact .inr ⟨q,PySem.W.cellsFrom_some _ _ _ (.inl q)⟩
 refine codeAny_call_function hr.depth (KX _ _ lk) rfl S.co S.gen rfl (PySem.W.codeRec_of KX hcd) (hb _ _ _ _ ?_)
 refine wpAny_newFunctionEnv_cells S.kind hkind fun env he s1 x=>?_
 subst he
 refine⟨lim.keeps x.toInCall.keep,codeAny_func ?_⟩
 obtain⟨t,ht,hq⟩:=hbody A outer s H vs Q E (hr.deeper _) hsp
 have I:Inv (l7 CX P w K mg base N qual scope f cdv A outer s H E) [] (start N vs) H s1:=aU4 S hr.hd e0 hl r x
 refine wpAny_mono (ht [] s1 (start N vs) H _ I hq) (fun fl s' hs=>?_) fun e s' hs=>hs
 have fin:∀{σ':St}{H':Hp}{v:V}{u:Value},Inv (l7 CX P w K mg base N qual scope f cdv A outer s H E) [] σ' H' s'->B6 v u->Q v H'->CE outer P w H s Q u s' :=
  fun{σ' H' v u} J rv q=>⟨v,H',J.os,J.bare,J.base,J.hok,rv,q⟩
 cases fl with
 | ret u =>
  obtain⟨v,σ',H',J,rv,q⟩:=hs
  exact fin J rv q
 | next =>
  obtain⟨σ',H',J,q⟩:=hs
  exact fin (v:=V.non) (u:=Value.none) J rfl q
 | brk =>
  obtain⟨_,_,_,q⟩:=hs
  exact False.elim q
 | cont =>
  obtain⟨_,_,_,q⟩:=hs
  exact False.elim q
end L2
namespace L2
open PySem PySem.Spec PyProof.Rows
section
variable {X:Cx}{x:Str}{p pos:Pos}{e:Expr}{es:List Expr}{t:TA}{id T:String}{r:List V->Hp->VK->Prop}
noncomputable def tCB(r:List V->Hp->VK->Prop) (t:TA):TE:=fun σ H Q=>t σ H fun vs H1=>r vs H1 Q
theorem Q9(hc:m4 X (.builtin id) r) (hg:Gl X x) (hm:X.mg x=none) (hv:bootBuiltins x=some (.builtin id)) (ha:PA X (e::es) t) (hn:x ≠ "__name__" := by decide) (hdb:(x==("__debug__" : Str))=false:=by decide)
  (he:starEach (e::es) X.env=(false,eval e X.env)::starEach es X.env:=by rfl) (hpl:(backTo pos (starEach es X.env)).any (·.1)=false:=by rfl):PE X (.Call (.Name x p) (e::es) [] pos) (tCB r t):=by
 intro pins s σ H Q I h
 refine wpAny_Call_Name_kw (al5 I hg hm hv ?_ hn hdb)
 exact PyProof.Rows.callWith_builtin1 (thn (ha pos pins s σ H _ I h) fun us s1 ⟨vs,H1,I1,r1,q1⟩=>hc pins s1 σ H1 vs us Q I1 r1 q1) he hpl
theorem ap5(hc:m4 X (.type T) r) (hg:Gl X x) (hm:X.mg x=none) (hv:bootBuiltins x=some (.type T)) (ha:PA X (e::es) t) (hn:x ≠ "__name__" := by decide) (hdb:(x==("__debug__" : Str))=false:=by decide)
  (he:starEach (e::es) X.env=(false,eval e X.env)::starEach es X.env:=by rfl) (hpl:(backTo pos (starEach es X.env)).any (·.1)=false:=by rfl):PE X (.Call (.Name x p) (e::es) [] pos) (tCB r t):=by
 intro pins s σ H Q I h
 refine wpAny_Call_Name_kw (al5 I hg hm hv ?_ hn hdb)
 exact PyProof.Rows.callWith_type1 (thn (ha pos pins s σ H _ I h) fun us s1 ⟨vs,H1,I1,r1,q1⟩=>hc pins s1 σ H1 vs us Q I1 r1 q1) he hpl
end
end L2
namespace HT
open PySem PyProof.Rows
section
open PySem.SeqAt
open PySem.AutoSeq1 (wpAny_loadPart')
open PySem.MeetsSeq PySem.MeetsSeq2 PySem.MeetsSeq3
end
section
variable {prog:Program}{w:World}{A:Around}{E:Value->Shared->Prop}{s:Shared}
theorem cat_tup(ht:IsTup s.heap t vs.toArray) (hb:IsTup s.heap b ws.toArray) (hv:vs≠[])
  (h1:ws=[]->Q (.ref t) s) (h2:ws≠[]->Q (.ref s.heap.objs.size) { s with heap:=s.heap.push { cls:=.type "tuple", data:=.seq (vs++ws).toArray } })
  (hsz:vs.length+ws.length<=sizeLine):wpAny (model prog w) A (binaryOp .Add (.ref t) (.ref b)) Q E s:=by
 obtain⟨⟨cls,dd,data,sl⟩,ho,hc,n,hd⟩:=id ht
 obtain⟨⟨cls2,dd2,data2,sl2⟩,ho2,hc2,n2,hd2⟩:=id hb
 simp only at hc hd hc2 hd2
 subst hc hd hc2 hd2
 have e:vs.toArray++ws.toArray=(vs++ws).toArray:=by simp
 by_cases hw:ws=[]
 ·exact concat_meets ⟨_,ho,rfl⟩ ⟨_,ho2,rfl⟩ noFill_tuple_add seq_tuple_add PySem.F.slot_tuple_add PySem.F.entry_tuple_add (PySem.F.args_tuple_add_2 _ _)
   (tuple_addW1 t b vs.toArray ws.toArray n n2 dd dd2 sl sl2 (by simpa using hv) (by simp[hw])) ⟨ho,ho2,h1 hw⟩
 ·refine concat_meets ⟨_,ho,rfl⟩ ⟨_,ho2,rfl⟩ noFill_tuple_add seq_tuple_add PySem.F.slot_tuple_add PySem.F.entry_tuple_add (PySem.F.args_tuple_add_2 _ _)
   (tuple_addW2 t b vs.toArray ws.toArray n n2 dd dd2 sl sl2 (by simpa using hv) (by simpa using hw) (by rw[List.size_toArray,List.size_toArray];exact hsz)) ⟨ho,ho2,?_⟩
  rw[e]
  exact h2 hw
noncomputable def sIx(n d:Nat):Option Int->Nat
 | none=>d
 | some v=>if v < 0 then(v+(n:Int)).toNat else min v.toNat n
theorem sIx_none(n d:Nat):sIx n d none=d:=rfl
theorem sIx_nat(n d k:Nat):sIx n d (some (k:Int))=min k n:=by
 show(if(k:Int) < 0 then((k:Int)+(n:Int)).toNat else min (k:Int).toNat n)=min k n
 rw[if_neg (by omega),Int.toNat_natCast]
theorem bJ7(n d:Nat) (hd:d<=n) (o:Option Int):sIx n d o<=n:=by
 cases o with
 | none=>exact hd
 | some v =>
  show(if v < 0 then(v+(n:Int)).toNat else min v.toNat n)<=n
  by_cases hv:v < 0
  ·rw[if_pos hv];omega
  ·rw[if_neg hv];exact Nat.min_le_right _ _
theorem aQ3(v:Int) (n d:Nat):(if v < 0 then max (v+(n:Int)) 0 else min v (n:Int))=((sIx n d (some v):Nat):Int):=by
 show(if v < 0 then max (v+(n:Int)) 0 else min v (n:Int))=(((if v < 0 then(v+(n:Int)).toNat else min v.toNat n):Nat):Int)
 by_cases hv:v < 0
 ·simp only[if_pos hv];omega
 ·simp only[if_neg hv];omega
theorem aK2(lo hi:Option Int) (n:Nat):Builtin.Slice.sliceAdjust lo hi 1 (n:Int)=(((sIx n 0 lo:Nat):Int),((sIx n n hi:Nat):Int)):=by
 have h1:¬((1:Int) < 0):=by omega
 unfold Builtin.Slice.sliceAdjust
 simp only[h1,if_false]
 refine Prod.ext ?_ ?_
 ·cases lo with
  | none=>rfl
  | some v=>exact aQ3 v n 0
 ·cases hi with
  | none=>rfl
  | some v=>exact aQ3 v n n
theorem aG7(i j:Nat):Builtin.Slice.slicePlaces (i:Int) (j:Int) 1=j - i:=by
 unfold Builtin.Slice.slicePlaces
 have h1:(1:Int) > 0:=by omega
 simp only[h1,if_true,Int.ediv_one]
 split<;>omega
theorem ak6(p:IsPart v o) (h:Q o s):wpAny (model prog w) A (Builtin.Slice.slicePartIndex v) Q E s:=by
 cases p with
 | none=>exact slicePart_none h
 | int i t=>exact slicePart_int h
theorem sliceApplied_gen{sl:Addr}{vl vu:Value}{lo hi:Option Int}{n:Nat}{Q:Int×Int×Nat->Shared->Prop}(hs:s.heap.IsSliceOf sl vl vu .none) (pl:IsPart vl lo) (pu:IsPart vu hi)
  (h:Q (((sIx n 0 lo:Nat):Int),1,sIx n n hi - sIx n 0 lo) s):wpAny (model prog w) A (Builtin.Slice.sliceApplied (.ref sl) (pure (n:Int))) Q E s:=by
 obtain⟨os,hos,hcs,hds⟩:=id hs
 unfold Builtin.Slice.sliceApplied Builtin.Slice.sliceFields
 refine wpAny_bind (wpAny_bind (wpAny_field hos hds (x:=vl) rfl (wpAny_bind (wpAny_field hos hds (x:=vu) rfl (wpAny_bind (wpAny_field hos hds (x:=.none) rfl (wpAny_pure ?_)))))))
 refine wpAny_bind (slicePart_none ?_)
 show wpAny _ _ (if((1:Int)==0)=true then _ else _) _ _ s
 rw[if_neg (by decide)]
 refine wpAny_bind (ak6 pl (wpAny_bind (ak6 pu (wpAny_bind (wpAny_pure ?_)))))
 show wpAny _ _ (match Builtin.Slice.sliceAdjust lo hi 1 (n:Int) with|(lo,hi)=>pure (lo,(1:Int),Builtin.Slice.slicePlaces lo hi 1)) _ _ s
 rw[aK2 lo hi n]
 show wpAny _ _ (pure (((sIx n 0 lo:Nat):Int),(1:Int),Builtin.Slice.slicePlaces ((sIx n 0 lo:Nat):Int) ((sIx n n hi:Nat):Int) 1)) _ _ s
 rw[aG7]
 exact wpAny_pure h
theorem bb9(xs:Array Value) (i k:Nat):((List.range k).filterMap fun(m:Nat)=>xs[((i:Int)+(m:Int)*1).toNat]?).toArray=((xs.toList.drop i).take k).toArray:=by
 have e:(fun(m:Nat)=>xs[((i:Int)+(m:Int)*1).toNat]?)=fun m=>xs[i+m]?:=by
  funext m
  have:((i:Int)+(m:Int)*1).toNat=i+m:=by omega
  rw[this]
 rw[e]
 have:=pick_run xs i k
 rw[List.filterMap_map]at this
 have e2:((fun x=>xs[x]?) ∘ fun x=>i+x)=fun m=>xs[i+m]?:=rfl
 rw[e2]at this
 rw[this]
theorem getItem_tuple_cut{t sl:Addr}{items:Array Value}{vl vu:Value}{lo hi:Option Int}{Q:Value->Shared->Prop}(ht:IsTup s.heap t items) (hs:s.heap.IsSliceOf sl vl vu .none) (pl:IsPart vl lo) (pu:IsPart vu hi)
  (hw:¬(sIx items.size 0 lo=0/\sIx items.size items.size hi=items.size))
  (h:Q (.ref s.heap.objs.size) { s with heap:=s.heap.push { cls:=.type "tuple", data:=.seq ((items.toList.drop (sIx items.size 0 lo)).take (sIx items.size items.size hi - sIx items.size 0 lo)).toArray } })
  (hsz:items.size<=sizeLine):wpAny (model prog w) A (getItem (.ref t) (.ref sl)) Q E s:=by
 have htake:sizeOk (.seq ((items.toList.drop (sIx items.size 0 lo)).take (sIx items.size items.size hi - sIx items.size 0 lo)).toArray):=by
  show((items.toList.drop (sIx items.size 0 lo)).take (sIx items.size items.size hi - sIx items.size 0 lo)).toArray.size<=sizeLine
  rw[List.size_toArray,List.length_take,List.length_drop,Array.length_toList]
  omega
 have hj:sIx items.size items.size hi<=items.size:=bJ7 _ _ (Nat.le_refl _) hi
 obtain⟨os,hos,hcs,hds⟩:=id hs
 have hTs:s.TypeIs (.ref sl) "slice" := ⟨os,hos,hcs⟩
 unfold getItem
 try with_reducible refine wpAny_holding ?_
 first|refine wpAny_bind (wpAny_pure ?_)|skip
 refine wpAny_bind (wpAny_sequenceKey ht.typeIs (by decide) ?_)
 refine wpAny_bind (wpAny_callSpecial?_slot (name:=Str.ofString "__getitem__") ht.typeIs PyProof.Rows.slot_tuple_getitem
  (wpAny_call_entry PyProof.Rows.slot_tuple_getitem ht.typeIs entry_tuple_getitem ?_ (args_tuple_getitem _ _)))
 show wpAny _ _ (Builtin.Tuple.tupleItemsOf (.ref t) >>= _) _ _ s
 refine wpAny_bind (tupleItemsOf_ ht ?_)
 refine wpAny_bind (wpAny_typeOf hTs ?_)
 rw[if_pos (by decide)]
 refine wpAny_bind (sliceApplied_gen hs pl pu ?_)
 have hno:¬((((sIx items.size 0 lo:Nat):Int)==0&&(1:Int)==1&&(sIx items.size items.size hi - sIx items.size 0 lo)==items.size)=true):=by
  intro q
  rw[Bool.and_eq_true,Bool.and_eq_true]at q
  have q1:((sIx items.size 0 lo:Nat):Int)=0:=eq_of_beq q.1.1
  have q2:sIx items.size items.size hi - sIx items.size 0 lo=items.size:=eq_of_beq q.2
  exact hw ⟨by omega,by omega⟩
 show wpAny _ _ (if(((sIx items.size 0 lo:Nat):Int)==0&&(1:Int)==1&&(sIx items.size items.size hi - sIx items.size 0 lo)==items.size)=true then _ else _) _ _ s
 rw[if_neg hno,bb9]
 first
  | exact wpAny_bind (m:=Builtin.Tuple.tupleExact _) (wpAny_newObj_type (wpAny_pure ⟨_,rfl,wpAny_pure h⟩) htake)
  | exact wpAny_bind (m:=Builtin.Tuple.tupleExact _) (wpAny_newObj_type (wpAny_bind (wpAny_pure (wpAny_pure ⟨_,rfl,wpAny_pure h⟩))) htake)
  | exact wpAny_bind (wpAny_bind (m:=Builtin.Tuple.tupleExact _) (wpAny_newObj_type (wpAny_pure (wpAny_pure ⟨_,rfl,wpAny_pure h⟩)) htake))
  | exact wpAny_bind (wpAny_bind (m:=Builtin.Tuple.tupleExact _) (wpAny_newObj_type (wpAny_pure ⟨_,rfl,wpAny_pure h⟩) htake))
end
end HT
namespace L2
open PySem PySem.Spec PyProof.Rows
noncomputable abbrev TO:=St->Hp->(Option Int->Hp->Prop)->Prop
noncomputable def PO(X:Cx) (e:Option Expr) (t:TO):Prop :=
 ∀(pins:List (Addr×Obj)) (s:Shared) (σ:St) (H:Hp) (Q:Option Int->Hp->Prop),Inv X pins σ H s->t σ H Q ->
  wpAny (model X.prog X.w) X.A (evalPart e X.env) (fun u s'=>∃o H',Inv X pins σ H' s'/\IsPart u o/\Q o H') X.xe s
noncomputable def bq9:TO:=fun _ H Q=>Q none H
noncomputable def bX3(t:TE):TO:=fun σ H Q=>t σ H fun x H1=>∃i,x=.int i/\Q (some i) H1
section
variable {X:Cx}{e:Expr}{te:TE}{lo hi:Option Expr}{tl th:TO}{pos p2:Pos}
theorem bt9:PO X none bq9:=by
 intro pins s σ H Q I h
 rw[evalPart_none]
 exact wpAny_pure ⟨none,H,I,.none,h⟩
theorem bt8(h:PE X e te):PO X (some e) (bX3 te):=by
 intro pins s σ H Q I hw
 rw[evalPart_some]
 refine thn (h pins s σ H _ I hw) fun u s1 ⟨x,H1,I1,r1,q1⟩=>?_
 obtain⟨i,rfl,q⟩:=q1
 obtain⟨t,rfl⟩:=r1
 exact⟨some i,H1,I1,.int i t,q⟩
noncomputable def SlR(X:Cx) (r:V->Option Int->Option Int->Hp->VK->Prop):Prop :=
 ∀(pins:List (Addr×Obj)) (s:Shared) (σ:St) (H:Hp) (x:V) (v vl vu:Value) (lo hi:Option Int) (sl:Addr) (Q:VK),Inv X pins σ H s->B6 x v->s.heap.IsSliceOf sl vl vu .none->IsPart vl lo->IsPart vu hi->r x lo hi H Q ->
  ∃T id,typeLookup (.type T) "__getitem__" = pure (some (.builtin id))/\s.TypeIs v T/\wpAny (model X.prog X.w) X.A (getItem v (.ref sl)) (EP X pins σ Q) X.xe s
theorem SlR.or(h:SlR X r) (h':SlR X r'):SlR X (fun x lo hi H Q=>r x lo hi H Q\/r' x lo hi H Q):=by
 intro pins s σ H x v vl vu lo hi sl Q I rx hs pl pu q
 rcases q with q|q
 ·exact h pins s σ H x v vl vu lo hi sl Q I rx hs pl pu q
 ·exact h' pins s σ H x v vl vu lo hi sl Q I rx hs pl pu q
noncomputable def tSl(r:V->Option Int->Option Int->Hp->VK->Prop) (te:TE) (tl th:TO):TE:=fun σ H Q=>te σ H fun x H1=>tl σ H1 fun l H2=>th σ H2 fun u H3=>r x l u H3 Q
theorem ay5(hr:SlR X r) (he:PE X e te) (hl:PO X lo tl) (hu:PO X hi th):PE X (.Subscript e (.Slice lo hi none p2) pos) (tSl r te tl th):=by
 intro pins s σ H Q I h
 refine Subscript_ (thn (he pins s σ H _ I h) fun v s1 ⟨x,H1,I1,r1,q1⟩=>?_)
 refine wpAny_Slice (thn (hl pins s1 σ H1 _ I1 q1) fun vl s2 ⟨l,H2,I2,pl,q2⟩=>thn (hu pins s2 σ H2 _ I2 q2) fun vu s3 ⟨u,H3,I3,pu,q3⟩=>?_)
 rw[evalPart_none]
 refine wpAny_pure ?_
 have I4:Inv X pins σ H3 { s3 with heap:=s3.heap.push { cls:=.type "slice", data:=.fields #[vl,vu,.none] } }:=I3.kept (t':=s3.toks) fun b ob q=>Heap.get?_push_of_some _ q
 obtain⟨T,id,hT,ht,hg⟩:=hr pins { s3 with heap:=s3.heap.push { cls:=.type "slice", data:=.fields #[vl,vu,.none] } } σ H3 x v vl vu l u s3.heap.objs.size Q I4 r1 (Heap.IsSliceOf.new ..) pl pu q3
 show wpAny (model X.prog X.w) X.A (subscriptTail e (.Slice lo hi none p2) v (.ref s3.heap.objs.size)) (EP X pins σ Q) X.xe { s3 with heap:=s3.heap.push { cls:=.type "slice", data:=.fields #[vl,vu,.none] } }
 exact tail_any (ops:=[.ref s3.heap.objs.size,v]) ht hT hg (by with_unfolding_all rfl)
noncomputable def aD0(xs:List V) (lo hi:Option Int):List V:=(xs.drop (HT.sIx xs.length 0 lo)).take (HT.sIx xs.length xs.length hi - HT.sIx xs.length 0 lo)
theorem ah1(xs:List V) (lo hi:Option Int):(aD0 xs lo hi).length<=xs.length:=by
 unfold aD0
 rw[List.length_take,List.length_drop]
 omega
noncomputable def ci0(K:PySem.W.Frag):V->Option Int->Option Int->Hp->VK->Prop:=fun x lo hi H Q=>∃a xs,x=.ref a/\SqT K H a xs /\
 ¬(HT.sIx xs.length 0 lo=0/\HT.sIx xs.length xs.length hi=xs.length)/\∀p,H p=none->Q (.ref p) (upd H p (.tup (aD0 xs lo hi)))
theorem bJ4:SlR X (ci0 X.K):=by
 intro pins s σ H x v vl vu lo hi sl Q I rx hs pl pu h
 obtain⟨a,xs,rfl,hx,hw,q⟩:=h
 cases rx
 obtain⟨its,r,ht,hz⟩:=I.tuple hx
 have hlen:its.toArray.size=xs.length:=by rw[List.size_toArray];exact r.length.symm
 refine⟨"tuple", _,PyProof.Rows.slot_tuple_getitem.lookup,ht.typeIs,?_⟩
 refine HT.getItem_tuple_cut ht hs pl pu (by rw[hlen];exact hw) ?_ (by rw[hlen];exact hz)
 rw[hlen]
 refine⟨.ref s.heap.objs.size,_,I.laid (t':=s.toks) (o:=.tup (aD0 xs lo hi)) (fun b ob q=>Heap.get?_push_of_some _ q) (Nat.le_refl _) ?_,rfl,q _ (I.hok.fresh (Nat.le_refl _))⟩
 exact⟨Nat.le_trans (ah1 xs lo hi) hz,_,(r.drop (HT.sIx xs.length 0 lo)).take (HT.sIx xs.length xs.length hi - HT.sIx xs.length 0 lo),ao8.new _ _⟩
noncomputable def bZ1(K:PySem.W.Frag):R2:=fun x y H Q=>∃a b xs ys,x=.ref a/\y=.ref b/\SqT K H a xs/\SqT K H b ys/\xs≠[]/\xs.length+ys.length<=sizeLine /\
 (ys=[]->Q (.ref a) H)/\(ys≠[]->∀p,H p=none->Q (.ref p) (upd H p (.tup (xs++ys))))
theorem B9.nil_iff(r:B9 xs us):us=[]↔xs=[]:=by
 cases r with
 | nil=>simp
 | cons _ _=>simp
theorem bv4:OpR X (binaryOp .Add) (bZ1 X.K):=by
 intro pins s σ H x y v u Q I rx ry h
 obtain⟨a,b,xs,ys,rfl,rfl,ha,hb,hx,hz,q1,q2⟩:=h
 cases rx
 cases ry
 obtain⟨its,r1,p1,_⟩:=I.tuple ha
 obtain⟨its2,r2,p2,_⟩:=I.tuple hb
 refine HT.cat_tup p1 p2 (fun z=>hx (r1.nil_iff.mp z)) (fun z=>⟨.ref a,H,I,rfl,q1 (r2.nil_iff.mp z)⟩) (fun z=>?_) (by rw[← r1.length,← r2.length];exact hz)
 refine⟨.ref s.heap.objs.size,_,I.laid (t':=s.toks) (o:=.tup (xs++ys)) (fun b ob q=>Heap.get?_push_of_some _ q) (Nat.le_refl _) ?_,rfl,q2 (fun w=>z (r2.nil_iff.mpr w)) _ (I.hok.fresh (Nat.le_refl _))⟩
 exact⟨by rw[List.length_append];exact hz,_,r1.append r2,ao8.new _ _⟩
end
end L2
namespace L2
open PySem PySem.Spec PyProof.Rows
noncomputable def ixN(n:Nat) (i:Int):Option Nat:=if 0<=i then(if i < n then some i.toNat else none) else if -(n:Int)<=i then some (i+n).toNat else none
noncomputable def atI{α:Type}(xs:List α) (i:Int):Option α:=(ixN xs.length i).bind fun j=>xs[j]?
theorem by5(h:ixN n i=some j):seqIndex? i n=some j/\j < n/\-(n:Int)<=i/\i < n:=by
 unfold ixN at h
 by_cases h0:0<=i
 ·rw[if_pos h0]at h
  by_cases h1:i < n
  ·rw[if_pos h1]at h
   have e:i.toNat=j:=Option.some.inj h
   exact⟨by rw[seqIndex_of h0 h1,e],by omega,by omega,h1⟩
  ·rw[if_neg h1]at h;cases h
 ·rw[if_neg h0]at h
  by_cases h1:-(n:Int)<=i
  ·rw[if_pos h1]at h
   have e:(i+n).toNat=j:=Option.some.inj h
   exact⟨by rw[seqIndex_neg (by omega) h1,e],by omega,h1,by omega⟩
  ·rw[if_neg h1]at h;cases h
theorem aw6{α:Type}{xs:List α}{i:Int}{v:α}(h:atI xs i=some v):∃j,seqIndex? i xs.length=some j/\xs[j]? = some v/\j < xs.length/\-(xs.length:Int)<=i/\i < xs.length:=by
 unfold atI at h
 cases e:ixN xs.length i with
 | none=>rw[e]at h;cases h
 | some j =>
  rw[e]at h
  obtain⟨h1,h2,h3,h4⟩:=by5 e
  exact⟨j,h1,h,h2,h3,h4⟩
theorem bA7{α:Type}{xs:List α}{j:Nat}{v:α}(h:xs[j]? = some v):atI xs (j:Int)=some v:=by
 have hj:j < xs.length:=(List.getElem?_eq_some_iff.mp h).1
 have e:ixN xs.length (j:Int)=some j:=by
  unfold ixN
  rw[if_pos (by omega),if_pos (by omega)];simp
 unfold atI;rw[e];exact h
noncomputable def aj7(b:Expr):Prop:=∀o i,subscripted b false o i=operate [o,i] (getItem o i)
noncomputable def IxR(X:Cx) (r:R2):Prop :=
 ∀(value slice:Expr) (pins:List (Addr×Obj)) (s:Shared) (σ:St) (H:Hp) (x y:V) (v u:Value) (Q:VK),Inv X pins σ H s->B6 x v->B6 y u->r x y H Q ->
  subscripted slice false v u=operate [v,u] (getItem v u)->wpAny (model X.prog X.w) X.A (subscriptTail value slice v u) (EP X pins σ Q) X.xe s
noncomputable def MtR(X:Cx) (id:String) (r:V->List V->Hp->VK->Prop):Prop :=
 ∀(pins:List (Addr×Obj)) (s:Shared) (σ:St) (H:Hp) (x:V) (xs:List V) (v:Value) (us:List Value) (Q:VK),Inv X pins σ H s->B6 x v->B9 xs us->r x xs H Q ->
  wpAny (model X.prog X.w) X.A (call (.builtin id) (v::us)) (EP X pins σ Q) X.xe s
section
variable {X:Cx}{a b:Expr}{ta tb:TE}{pos:Pos}
theorem IxR.or(h:IxR X r) (h':IxR X r'):IxR X (fun x y H Q=>r x y H Q\/r' x y H Q):=by
 intro value slice pins s σ H x y v u Q I rx ry q hs
 rcases q with q|q
 ·exact h value slice pins s σ H x y v u Q I rx ry q hs
 ·exact h' value slice pins s σ H x y v u Q I rx ry q hs
theorem bZ4(hr:IxR X r) (ha:PE X a ta) (hb:PE X b tb) (hs:aj7 b):PE X (.Subscript a b pos) (tOp r ta tb):=by
 intro pins s σ H Q I h
 exact Subscript_ (bT7 ha hb I h fun v u s2 x y H2 I2 rx ry q=>hr a b pins s2 σ H2 x y v u Q I2 rx ry q (hs _ _))
noncomputable def bZ0(K:PySem.W.Frag):R2:=fun x y H Q=>∃p xs i v,x=.ref p/\y=.int i/\SqL K H p xs/\atI xs i=some v/\Q v H
noncomputable def bY8(K:PySem.W.Frag):R2:=fun x y H Q=>∃p xs i v,x=.ref p/\y=.int i/\SqT K H p xs/\atI xs i=some v/\Q v H
noncomputable def bY9:R2:=fun x y H Q=>∃z i c,x=.str z/\y=.int i/\z.length<=sizeLine/\atI z.cps.toList i=some c/\Q (.str ⟨#[c]⟩) H
theorem by4:IxR X (bZ0 X.K):=by
 intro value slice pins s σ H x y v u Q I rx ry h hs
 obtain⟨p,xs,i,z,rfl,rfl,hq,he,q⟩:=h
 cases rx
 obtain⟨t,rfl⟩:=ry
 obtain⟨its,r,pl,hz⟩:=I.list hq
 obtain⟨j,h1,h2,h3,h4,h5⟩:=aw6 he
 obtain⟨w,ew,rw'⟩:=r.get h2
 have hl:=r.length
 have hn:=v9
 have fin:EP X pins σ Q w s:=⟨z,H,I,rw',q⟩
 by_cases h0:0<=i
 ·have hj:i.toNat=j:=by
   rw[seqIndex_of h0 h5]at h1
   exact Option.some.inj h1
  exact item_listR pl.isList h0 (by omega) (by rw[hj];simpa using ew) fin hs
 ·have hj:(i+(its.toArray.size:Int)).toNat=j:=by
   rw[seqIndex_neg (by omega) h4]at h1
   rw[List.size_toArray,← hl]
   exact Option.some.inj h1
  exact subscriptTail_builtinR (x:=w) pl.isList.typeIs slot_list_getitem.lookup
   (wpAny_getItem_list_neg (Q:=fun r s'=>r=w/\EP X pins σ Q r s') pl.isList (by omega) (by rw[List.size_toArray]<;>omega) (by omega) (by rw[hj];simpa using ew) ⟨rfl,fin⟩) hs
theorem bR1:IxR X (bY8 X.K):=by
 intro value slice pins s σ H x y v u Q I rx ry h hs
 obtain⟨p,xs,i,z,rfl,rfl,hq,he,q⟩:=h
 cases rx
 obtain⟨t,rfl⟩:=ry
 obtain⟨its,r,pl,hz⟩:=I.tuple hq
 obtain⟨j,h1,h2,h3,h4,h5⟩:=aw6 he
 obtain⟨w,ew,rw'⟩:=r.get h2
 have hl:=r.length
 have hn:=v9
 have fin:EP X pins σ Q w s:=⟨z,H,I,rw',q⟩
 exact subscriptTail_builtinR (x:=w) pl.typeIs slot_tuple_getitem.lookup
  (getItem_tuple (j:=j) (Q:=fun r s'=>r=w/\EP X pins σ Q r s') pl (by omega) (by omega) (by rw[List.size_toArray,← hl];exact h1) (by simpa using ew) ⟨rfl,fin⟩) hs
theorem bR2:IxR X bY9:=by
 intro value slice pins s σ H x y v u Q I rx ry h hs
 obtain⟨z,i,c,rfl,rfl,hz,he,q⟩:=h
 obtain⟨t,rfl⟩:=rx
 obtain⟨t',rfl⟩:=ry
 obtain⟨j,h1,h2,h3,h4,h5⟩:=aw6 he
 have hl:z.cps.toList.length=z.length:=by simp[Str.length]
 rw[hl]at h1 h4 h5
 have hn:=v9
 exact tail_any (typeIs_str s z t) slot_str_getitem.lookup (getItem_str (c:=c) (by
  have e1:decide (i < -(2 ^ 63:Int))=false:=decide_eq_false (by omega)
  have e2:decide (i ≥ 2 ^ 63)=false:=decide_eq_false (by omega)
  rw[e1,e2,Bool.or_false]) (by rw[h1];simpa using h2) ⟨.str ⟨#[c]⟩,H,I.tok _,⟨_,rfl⟩,q⟩) hs
noncomputable def rIx(K:PySem.W.Frag):R2:=fun x y H Q=>bZ0 K x y H Q\/bY8 K x y H Q\/bY9 x y H Q
theorem bR3:IxR X (rIx X.K):=by4.or (bR1.or bR2)
theorem at0(lo hi:Option Int) (n:Nat):(sliceBounds lo hi none n).1=((HT.sIx n 0 lo:Nat):Int)/\(sliceBounds lo hi none n).2.1=((HT.sIx n n hi:Nat):Int)/\(sliceBounds lo hi none n).2.2=1:=by
 refine⟨?_,?_,rfl⟩
 ·cases lo with
  | none=>simp[sliceBounds,HT.sIx]
  | some i =>
   simp only[sliceBounds,HT.sIx,Option.getD_none,show(1:Int) > 0 by decide,if_true]
   by_cases h:i < 0
   ·simp only[h,if_true]<;>omega
   ·simp only[h,if_false]<;>omega
 ·cases hi with
  | none=>simp[sliceBounds,HT.sIx]
  | some i =>
   simp only[sliceBounds,HT.sIx,Option.getD_none,show(1:Int) > 0 by decide,if_true]
   by_cases h:i < 0
   ·simp only[h,if_true]<;>omega
   ·simp only[h,if_false]<;>omega
theorem ao0(its:List Value) (lo hi:Option Int):slicePick its.toArray lo hi none=((its.drop (HT.sIx its.length 0 lo)).take (HT.sIx its.length its.length hi - HT.sIx its.length 0 lo)).toArray:=by
 obtain⟨h1,h2,h3⟩:=at0 lo hi its.toArray.size
 unfold slicePick
 rw[h1,h2,h3]
 simp only[sliceRange_one,pick_run,List.size_toArray]<;>rfl
noncomputable def ci1(K:PySem.W.Frag):V->Option Int->Option Int->Hp->VK->Prop:=fun x lo hi H Q=>∃a xs,x=.ref a/\SqL K H a xs/\∀p,H p=none->Q (.ref p) (upd H p (.lst (aD0 xs lo hi)))
theorem bs0:SlR X (ci1 X.K):=by
 intro pins s σ H x v vl vu lo hi sl Q I rx hs pl pu h
 obtain⟨a,xs,rfl,hx,q⟩:=h
 cases rx
 obtain⟨its,r,ht,hz⟩:=I.list hx
 have hlen:=r.length
 refine⟨"list", _,slot_list_getitem.lookup,ht.isList.typeIs,?_⟩
 refine wpAny_getItem_list_slice ht.isList hs pl pu .none (by simp) ?_ (by rw[List.size_toArray]<;>omega)
 rw[ao0,← hlen]
 refine⟨.ref s.heap.objs.size,_,I.laid (t':=s.toks) (o:=.lst (aD0 xs lo hi)) (fun b ob q=>Heap.get?_push_of_some _ q) (Nat.le_refl _) ?_,rfl,q _ (I.hok.fresh (Nat.le_refl _))⟩
 exact⟨Nat.le_trans (ah1 xs lo hi) hz,_,0,(r.drop (HT.sIx xs.length 0 lo)).take (HT.sIx xs.length xs.length hi - HT.sIx xs.length 0 lo),Heap.get?_push_size _ rfl⟩
noncomputable def u5:V->Bool
 | .non=>true
 | .bl _=>true
 | .int _=>true
 | .str _=>true
 | _=>false
noncomputable def eqV:V->V->Bool
 | .non,.non=>true
 | .bl a,.bl b=>a==b
 | .bl a,.int b=>(if a then 1 else 0)==b
 | .int a,.bl b=>a==(if b then 1 else 0)
 | .int a,.int b=>a==b
 | .str a,.str b=>a==b
 | _,_=>false
theorem bS4(ry:B6 y u) (rx:B6 x v) (fy:u5 y=true) (fx:u5 x=true):SeqAt.EqAt A s u v (eqV y x):=by
 cases y with
 | non =>
  cases ry
  cases x with
  | non=>cases rx;exact SeqAt.EqAt.same _
  | bl b=>cases rx;exact SeqAt.EqAt.none_bool b
  | int b=>obtain⟨t,rfl⟩:=rx;exact SeqAt.EqAt.none_int b t
  | str b=>obtain⟨t,rfl⟩:=rx;exact SeqAt.EqAt.none_str b t
  | _=>exact absurd (show false=true from fx) Bool.false_ne_true
 | bl a =>
  cases ry
  cases x with
  | non=>cases rx;exact SeqAt.EqAt.bool_none a
  | bl b=>cases rx;exact SeqAt.EqAt.bool_bool a b
  | int b=>obtain⟨t,rfl⟩:=rx;exact SeqAt.EqAt.bool_int a b t
  | str b=>obtain⟨t,rfl⟩:=rx;exact SeqAt.EqAt.bool_str a b t
  | _=>exact absurd (show false=true from fx) Bool.false_ne_true
 | int a =>
  obtain⟨t',rfl⟩:=ry
  cases x with
  | non=>cases rx;exact SeqAt.EqAt.int_none a t'
  | bl b=>cases rx;exact SeqAt.EqAt.int_bool a t' b
  | int b=>obtain⟨t,rfl⟩:=rx;exact SeqAt.EqAt.int_int a t' b t
  | str b=>obtain⟨t,rfl⟩:=rx;exact SeqAt.EqAt.int_str a t' b t
  | _=>exact absurd (show false=true from fx) Bool.false_ne_true
 | str a =>
  obtain⟨t',rfl⟩:=ry
  cases x with
  | non=>cases rx;exact SeqAt.EqAt.str_none a t'
  | bl b=>cases rx;exact SeqAt.EqAt.str_bool a t' b
  | int b=>obtain⟨t,rfl⟩:=rx;exact SeqAt.EqAt.str_int a t' b t
  | str b=>obtain⟨t,rfl⟩:=rx;exact SeqAt.EqAt.str_str a t' b t
  | _=>exact absurd (show false=true from fx) Bool.false_ne_true
 | _=>exact absurd (show false=true from fy) Bool.false_ne_true
noncomputable def eqU(x:V) (u:Value):Bool:=match u with
 | .none=>eqV .non x
 | .bool b=>eqV (.bl b) x
 | .int i _=>eqV (.int i) x
 | .str z _=>eqV (.str z) x
 | _=>false
theorem bl4(r:B6 y u) (f:u5 y=true):eqU x u=eqV y x:=by
 cases y with
 | non=>cases r;rfl
 | bl b=>cases r;rfl
 | int i=>obtain⟨t,rfl⟩:=r;rfl
 | str z=>obtain⟨t,rfl⟩:=r;rfl
 | _=>exact absurd (show false=true from f) Bool.false_ne_true
theorem ad1:∀{xs:List V}{us:List Value},B9 xs us->xs.all u5=true->us.any (eqU x)=xs.any fun y=>eqV y x
 | _,_,.nil,_=>rfl
 | y::xs,u::us,.cons r t,f=>by
  rw[List.all_cons,Bool.and_eq_true]at f
  rw[List.any_cons,List.any_cons,bl4 r f.1,ad1 t f.2]
theorem j8(rx:B6 x v) (fx:u5 x=true):∀{xs:List V}{us:List Value},B9 xs us->xs.all u5=true->∀u∈us,SeqAt.EqAt A s u v (eqU x u)
 | _,_,.nil,_=>fun u hu=>by cases hu
 | y::xs,u::us,.cons r t,f=>fun u' hu=>by
  rw[List.all_cons,Bool.and_eq_true]at f
  rcases List.mem_cons.mp hu with rfl|hu
  ·rw[bl4 r f.1];exact bS4 r rx f.1 fx
  ·exact j8 rx fx t f.2 u' hu
noncomputable def inV(x:V) (xs:List V):Bool:=xs.any fun y=>eqV y x
noncomputable def rIn(K:PySem.W.Frag) (neg:Bool):R2:=fun x y H Q=>∃p xs,y=.ref p/\(SqL K H p xs\/SqT K H p xs)/\u5 x=true/\xs.all u5=true/\Q (.bl (if neg then !inV x xs else inV x xs)) H
theorem aS6:OpR X (compareOp .In) (rIn X.K false):=by
 intro pins s σ H x y v u Q I rx ry h
 obtain⟨p,xs,rfl,hq,fx,fs,q⟩:=h
 cases ry
 rcases hq with hq|hq
 ·obtain⟨its,r,pl,hz⟩:=I.list hq
  refine SeqAt.in_listAt (eqU x) pl.isList (fun w hw=>j8 rx fx r fs w (by simpa using hw)) ⟨.bl _,H,I,rfl,?_⟩
  rw[show its.toArray.any (eqU x)=its.any (eqU x) by simp,ad1 r fs]
  exact q
 ·obtain⟨its,r,pl,hz⟩:=I.tuple hq
  refine SeqAt.in_tupleAt (eqU x) pl (fun w hw=>j8 rx fx r fs w (by simpa using hw)) ⟨.bl _,H,I,rfl,?_⟩
  rw[show its.toArray.any (eqU x)=its.any (eqU x) by simp,ad1 r fs]
  exact q
theorem au1:OpR X (compareOp .NotIn) (rIn X.K true):=by
 intro pins s σ H x y v u Q I rx ry h
 obtain⟨p,xs,rfl,hq,fx,fs,q⟩:=h
 cases ry
 rcases hq with hq|hq
 ·obtain⟨its,r,pl,hz⟩:=I.list hq
  refine SeqAt.notIn_listAt (eqU x) pl.isList (fun w hw=>j8 rx fx r fs w (by simpa using hw)) ⟨.bl _,H,I,rfl,?_⟩
  rw[show its.toArray.any (eqU x)=its.any (eqU x) by simp,ad1 r fs]
  exact q
 ·obtain⟨its,r,pl,hz⟩:=I.tuple hq
  refine SeqAt.notIn_tupleAt (eqU x) pl (fun w hw=>j8 rx fx r fs w (by simpa using hw)) ⟨.bl _,H,I,rfl,?_⟩
  rw[show its.toArray.any (eqU x)=its.any (eqU x) by simp,ad1 r fs]
  exact q
theorem aw3:m4 X (.builtin "len") (fun xs H Q=>∃p ys,xs=[.ref p]/\(SqL X.K H p ys\/SqT X.K H p ys)/\Q (.int ys.length) H):=by
 intro pins s σ H xs us Q I r h
 obtain⟨p,ys,rfl,hq,q⟩:=h
 obtain⟨u,rfl,rx⟩:=ak3 r
 cases rx
 have hn:=v9
 rcases hq with hq|hq
 ·obtain⟨its,r',pl,hz⟩:=I.list hq
  have hlen:=r'.length
  exact Calls.call_len_list pl.isList (by simp only[List.size_toArray]<;>omega) ⟨.int ys.length,H,I.tok _,⟨s.toks+1,by rw[List.size_toArray,hlen]⟩,q⟩
 ·obtain⟨its,r',pl,hz⟩:=I.tuple hq
  have hlen:=r'.length
  exact len_tuple pl (by simp only[List.size_toArray]<;>omega) ⟨.int ys.length,H,I.tok _,⟨s.toks+1,by rw[List.size_toArray,hlen]⟩,q⟩
theorem ao7:m4 X (.type "tuple") (fun xs H Q=>∃p ys,xs=[.ref p]/\((SqL X.K H p ys/\∀l,H l=none->Q (.ref l) (upd H l (.tup ys)))\/(SqT X.K H p ys/\Q (.ref p) H))):=by
 intro pins s σ H xs us Q I r h
 obtain⟨p,ys,rfl,h⟩:=h
 obtain⟨u,rfl,rx⟩:=ak3 r
 cases rx
 rcases h with⟨hq,q⟩|⟨hq,q⟩
 ·obtain⟨its,r',pl,hz⟩:=I.list hq
  have hlen:=r'.length
  refine call_tuple_list pl.isList (fun h' kp=>?_) (by simp only[List.size_toArray]<;>omega)
  have I1:Inv X pins σ H { s with heap:=h' }:=I.kept (t':=s.toks) kp
  have I2:Inv X pins σ (upd H h'.objs.size (.tup ys)) { s with heap:=h'.push { cls:=.type "tuple", data:=.seq its.toArray } } :=
   I1.laid (t':=s.toks) (fun b o e=>Heap.get?_push_of_some _ e) (Nat.le_refl _) (show N8 X.prog X.w _ _ _ (.tup ys) from⟨hz,its,r',ao8.new _ _⟩)
  exact⟨.ref h'.objs.size,_,I2,rfl,q _ (I1.hok.fresh (Nat.le_refl _))⟩
 ·obtain⟨its,r',pl,hz⟩:=I.tuple hq
  exact call_tuple_same pl ⟨.ref p,H,I,rfl,q⟩
noncomputable def tyV(K:PySem.W.Frag) (T:String) (x:V) (H:Hp):Prop:=match x with
 | .str _=>T = "str"
 | .int _=>T = "int"
 | .ref p=>(T = "list" /\ ∃xs,SqL K H p xs)\/(T = "tuple" /\ ∃o,K.lookup p=some o/\o.cls=.type "tuple" /\ o.dict=none) \/
   (T = "dict" /\ ((∃kvs,H p=some (.dK kvs))\/∃kvs,H p=some (.dT kvs)))\/(T = "set" /\ ∃S n,H p=some (.set S n))
 | _=>False
theorem aY8(I:Inv X pins σ H s) (r:B6 x v) (ty:tyV X.K T x H) :
  s.TypeIs v T/\∀a,v=.ref a->∃ob,s.heap.get? a=some ob/\ob.dict=none:=by
 cases x with
 | str z =>
  obtain⟨t,rfl⟩:=r
  cases(show T = "str" from ty)
  exact⟨typeIs_str s z t,fun _ e=>nomatch e⟩
 | int i =>
  obtain⟨t,rfl⟩:=r
  cases(show T = "int" from ty)
  exact⟨typeIs_int s i t,fun _ e=>nomatch e⟩
 | ref p =>
  cases r
  rcases ty with⟨rfl,xs,hq⟩|⟨rfl,o,hk,hc,hd⟩|⟨rfl,hk⟩|⟨rfl,S,n,hk⟩
  ·obtain⟨its,_,pl,_⟩:=I.list hq
   refine⟨pl.isList.typeIs,fun a e=>?_⟩
   cases e
   obtain⟨o,n,e,c,hd,_⟩:=pl
   exact⟨o,e,hd⟩
  ·refine⟨⟨o,I.kIn p o hk,hc⟩,fun a e=>?_⟩
   cases e
   exact⟨o,I.kIn _ o hk,hd⟩
  ·have z:∃o,s.heap.get? p=some o/\o.ExactDict:=by
    rcases hk with⟨kvs,hk⟩|⟨kvs,hk⟩
    ·obtain⟨_,_,_,_,o,_,_,e,ex,_⟩:=I.hok p _ hk
     exact⟨o,e,ex⟩
    ·obtain⟨_,_,_,_,o,_,_,e,ex,_⟩:=I.hok p _ hk
     exact⟨o,e,ex⟩
   obtain⟨o,e,ex⟩:=z
   refine⟨⟨o,e,ex.1⟩,fun a e2=>?_⟩
   cases e2
   exact⟨o,e,ex.2.1⟩
  ·obtain⟨o,_,_,_,e,ex,_⟩:=I.hok p _ hk
   refine⟨⟨o,e,ex.1⟩,fun a e2=>?_⟩
   cases e2
   exact⟨o,e,ex.2.1⟩
 | _=>exact False.elim ty
noncomputable def ch4(K:PySem.W.Frag) (T:String) (r:V->List V->Hp->VK->Prop) (to:TE):TE:=fun σ H Q=>to σ H fun x H1=>tyV K T x H1/\r x [] H1 Q
noncomputable def tBM(K:PySem.W.Frag) (T:String) (r:V->List V->Hp->VK->Prop) (to:TE) (t:TA):TE:=fun σ H Q=>to σ H fun x H1=>tyV K T x H1/\t σ H1 fun xs H2=>r x xs H2 Q
variable {o e:Expr}{es:List Expr}{to:TE}{t:TA}{name:Str}{apos cpos:Pos}{T id:String}{r:V->List V->Hp->VK->Prop}
theorem bc7(pa:PlainAttrs T) (slot:Slot T name id) (hty:typeOf (.builtin id)=pure (.type "method_descriptor")) (hm:MtR X id r) (ho:PE X o to)
  (hbase:attributeBase o name X.env (eval o X.env)=eval o X.env:=by rfl) (hline:(apos.endLine==cpos.line)=true:=by rfl):PE X (.Call (.Attribute o name apos) [] [] cpos) (ch4 X.K T r to):=by
 intro pins s σ H Q I h
 refine wpAny_Call_method0_late hbase hline (thn (ho pins s σ H _ I h) fun v s1 ⟨x,H1,I1,r1,ty,q1⟩=>?_)
 obtain⟨h1,h2⟩:=aY8 I1 r1 ty
 exact⟨T,id,pa,slot,hty,h1,h2,Calls.callWith_builtin rfl (PySem.evalArgs_none (hm pins s1 σ H1 x [] v [] Q I1 r1 .nil q1))⟩
theorem bD2(pa:PlainAttrs T) (slot:Slot T name id) (hty:typeOf (.builtin id)=pure (.type "method_descriptor")) (hm:MtR X id r) (ho:PE X o to) (ha:PA X (e::es) t)
  (hbase:attributeBase o name X.env (eval o X.env)=eval o X.env:=by rfl)
  (hfew:((backTo cpos (starEach (e::es) X.env)).all (fun x=>!x.1)&&(backToKw cpos (keywordEach [] X.env)).all (fun x=>x.1.isSome)
   && decide ((e::es).length+([]:List Keyword).length+(if([]:List Keyword).isEmpty then 0 else 1) < 30))=true:=by rfl)
  (hline:(apos.endLine==cpos.line)=true:=by rfl) (hs:starEach (e::es) X.env=(false,eval e X.env)::starEach es X.env:=by rfl) (hplain:(backTo cpos (starEach es X.env)).any (·.1)=false:=by rfl) :
  PE X (.Call (.Attribute o name apos) (e::es) [] cpos) (tBM X.K T r to t):=by
 intro pins s σ H Q I h
 refine wpAny_Call_method_late hbase hfew hline rfl (thn (ho pins s σ H _ I h) fun v s1 ⟨x,H1,I1,r1,ty,q1⟩=>?_)
 obtain⟨h1,h2⟩:=aY8 I1 r1 ty
 refine⟨T,id,pa,slot,hty,h1,h2,?_⟩
 have hA:=ha cpos pins s1 σ H1 _ I1 q1
 rw[hs]at hA ⊢
 refine Calls.callWith_builtin (by show(false || (backTo cpos (starEach es X.env)).any (·.1))=false;rw[hplain]<;>rfl) (Calls.evalArgs_plain ?_)
 exact thn hA fun us s2 ⟨vs,H2,I2,r2,q2⟩=>hm pins s2 σ H2 x vs v us Q I2 r1 r2 q2
end
end L2
namespace L2
open PySem PySem.Spec PyProof.Rows
noncomputable def MtM(X:Cx) (id:String) (r:V->List V->Hp->VK->Prop):Prop :=
 ∀(pins:List (Addr×Obj)) (s:Shared) (σ:St) (H:Hp) (x:V) (xs:List V) (v:Value) (us:List Value) (Q:VK),Inv X pins σ H s->B6 x v->B9 xs us->r x xs H Q ->
  wpAny (model X.prog X.w) X.A (call (.builtin id) (v::us)) (EP X pins σ Q) X.xe s
theorem B9.one:∀{x:V}{us:List Value},B9 [x] us->∃u,us=[u]/\B6 x u
 | _,_,.cons r .nil=>⟨_,rfl,r⟩
theorem B9.zero:∀{us:List Value},B9 [] us->us=[]
 | _,.nil=>rfl
theorem B9.dropLast(h:B9 xs us):B9 xs.dropLast us.dropLast:=by
 induction h with
 | nil=>exact .nil
 | cons r t ih =>
  cases t with
  | nil=>exact .nil
  | cons q t'=>exact .cons r ih
theorem B9.rep(h:B9 xs us):∀k:Nat,B9 (List.replicate k xs).flatten (List.replicate k us).flatten
 | 0=>.nil
 | k+1=>by
  rw[List.replicate_succ,List.replicate_succ,List.flatten_cons,List.flatten_cons]
  exact B9.append h (B9.rep h k)
theorem aI9{α:Type}(l:List α):l.eraseIdx (l.length - 1)=l.dropLast:=by
 induction l with
 | nil=>rfl
 | cons a r ih =>
  cases r with
  | nil=>rfl
  | cons b r =>
   have e:(a::b::r).length - 1=((b::r).length - 1)+1:=by
    have h1:(a::b::r).length=r.length+2:=rfl
    have h2:(b::r).length=r.length+1:=rfl
    omega
   rw[e,List.eraseIdx_cons_succ,ih]
   all_goals rfl
theorem aq6(its:List Value):∀(k:Nat) (acc:List Value),
  List.foldl (fun x1 x2=>x1++x2) acc.toArray (List.replicate k its.toArray)=(acc++(List.replicate k its).flatten).toArray
 | 0,acc=>by simp
 | k+1,acc=>by
  have e:acc.toArray++its.toArray=(acc++its).toArray:=by simp
  have e2:(acc++its)++(List.replicate k its).flatten=acc++(List.replicate (k+1) its).flatten:=by
   rw[List.replicate_succ,List.flatten_cons,List.append_assoc]
  rw[← e2,← aq6 its k (acc++its),← e,List.replicate_succ,List.foldl_cons]
section
variable {X:Cx}{pins:List (Addr×Obj)}{σ:St}{H:Hp}{s:Shared}{l b:Addr}{xs ys zs:List V}
theorem Inv.lset{its its':List Value}{n:Nat}{f:Array Value->Array Value}{t':Nat}(I:Inv X pins σ H s) (hH:H l=some (.lst xs))
  (e:s.heap.get? l=some { cls:=.type "list", data:=.seq its.toArray n }) (hf:f its.toArray=its'.toArray) (hv:B9 ys its') (hz:ys.length<=sizeLine) :
  Inv X pins σ (upd H l (.lst ys)) { s with heap:=s.heap.update l (Obj.mapSeq f),toks:=t' }:=by
 have q:=PySem.IsL.update e f
 rw[hf]at q
 refine I.write (x:=l) (e:=l) (by rw[hH];exact trivial) (.inl rfl) (fun b' u hb hu=>(Heap.get?_update_other s.heap (Obj.mapSeq f) (Ne.symm hb)).trans hu) ⟨_,q⟩ ?_
 exact⟨hz,its',_,hv,q⟩
theorem Inv.lnew(I:Inv X pins σ H s) (hv:B9 ys its) (hz:ys.length<=sizeLine) :
  Inv X pins σ (upd H s.heap.objs.size (.lst ys)) { s with heap:=s.heap.push { cls:=.type "list", data:=.seq its.toArray },toks:=t' } :=
 I.laid (fun _ _ q=>Heap.get?_push_of_some _ q) (Nat.le_refl _) ⟨hz,its,0,hv,Heap.get?_push_size _ rfl⟩
theorem Inv.fresh(I:Inv X pins σ H s):H s.heap.objs.size=none:=I.hok.fresh (Nat.le_refl _)
theorem Inv.lstM(I:Inv X pins σ H s) (hH:H l=some (.lst xs)):xs.length<=sizeLine/\∃(its:List Value) (n:Nat),B9 xs its/\xs.length=its.length/\s.heap.get? l=some { cls:=.type "list", data:=.seq its.toArray n }:=by
 obtain⟨z,its,n,r,e⟩:=I.hok l _ hH
 exact⟨z,its,n,r,r.length,e⟩
theorem be6(h:n<=sizeLine):Builtin.List.listTooLong n=false:=by
 unfold Builtin.List.listTooLong
 exact decide_eq_false (by omega)
end
section
variable {X:Cx}
noncomputable def bt1:V->List V->Hp->VK->Prop:=fun x vs H Q=>∃l xs y,x=.ref l/\vs=[y]/\H l=some (.lst xs)/\xs.length < sizeLine/\Q .non (upd H l (.lst (xs++[y])))
theorem ae3:MtM X "list.append" bt1:=by
 intro pins s σ H x vs v us Q I rx rv h
 obtain⟨l,xs,y,rfl,rfl,hH,hz,q⟩:=h
 cases rx
 obtain⟨u,rfl,ru⟩:=rv.one
 obtain⟨z,its,n,r,hl,e⟩:=I.lstM hH
 refine call_meets F.slot_list_append ⟨_,e,rfl⟩ F.entry_list_append (F.args_list_append_2 _ _) (PySem.list_append l its.toArray n u (by rw[List.size_toArray];omega)) ⟨e,?_⟩
 refine⟨.non,_,I.lset (its':=its++[u]) hH e (by simp) (r.append (.cons ru .nil)) ?_,rfl,q⟩
 rw[List.length_append,List.length_singleton]
 omega
noncomputable def ci2:V->List V->Hp->VK->Prop:=fun x vs H Q=>∃l xs y,x=.ref l/\vs=[]/\H l=some (.lst xs)/\xs[xs.length - 1]? = some y/\Q y (upd H l (.lst xs.dropLast))
theorem bf3:MtM X "list.pop" ci2:=by
 intro pins s σ H x vs v us Q I rx rv h
 obtain⟨l,xs,y,rfl,rfl,hH,hy,q⟩:=h
 cases rx
 have hus:=rv.zero
 subst hus
 obtain⟨z,its,n,r,hl,e⟩:=I.lstM hH
 obtain⟨u,hu,ru⟩:=r.get hy
 have hy':its.toArray[its.toArray.size - 1]? = some u:=by
  show its.toArray[its.length - 1]? = some u
  rw[← Array.getElem?_toList,← hl]
  exact hu
 refine call_meets F.slot_list_pop ⟨_,e,rfl⟩ F.entry_list_pop (F.args_list_pop_1 _) (MeetsSeq.list_pop_last l its.toArray n u hy' (by rw[List.size_toArray];omega)) ⟨e,?_⟩
 refine⟨y,_,I.lset (its':=its.dropLast) hH e ?_ r.dropLast ?_,ru,q⟩
 ·show its.toArray.eraseIdxIfInBounds (its.toArray.size - 1)=its.dropLast.toArray
  rw[List.size_toArray,List.eraseIdxIfInBounds_toArray,aI9]
 ·rw[List.length_dropLast]
  omega
theorem au8{α:Type}(xs:List α) (k:Nat):(List.replicate k xs).flatten.length=k*xs.length:=by
 induction k with
 | zero=>simp
 | succ k ih=>rw[List.replicate_succ,List.flatten_cons,List.length_append,ih,Nat.succ_mul,Nat.add_comm]
end
section
variable {prog:Program}{w:World}{A:Around}{E:Value->Shared->Prop}{s:Shared}
set_option maxRecDepth 100000 in
end
section
variable {X:Cx}
end
end L2
namespace Att
open PySem PySem.W PySem.Calls PyProof.Rows
theorem ah6:∀(ns:List Int) (vs:List Value),WellAll P h vs (ns.map WData.int)->IntsAre vs ns:=by
 intro ns
 induction ns with
 | nil =>
  intro vs w
  rw[List.map_nil]at w
  cases w
  exact .nil
 | cons n ns ih =>
  intro vs w
  rw[List.map_cons]at w
  cases w with
  | cons a b =>
   cases a
   exact .cons _ _ (ih _ b)
theorem aS1{l:OpenLaw}{n:Nat}(hn:l.most=some n) {P:Params}{h:Heap}{args:List WData}{vals:List Value}
  (hpre:l.row.toRowW.claim.pre args=true) (hwl:WellAll P h vals args) :
  ∃a vs ns,vals=[Value.ref a]/\args=[WData.list (ns.map WData.int)]/\h.get? a=some { cls:=.type "list", data:=.seq vs.toArray }/\IntsAre vs ns/\ns.length<=n:=by
 have hsh:WShape.hasAll [] args [.list .int]=true:=(pre_splitW hpre).1
 have hc:l.pre.holds [] { args:=args }=true:=(pre_splitW hpre).2
 obtain⟨d,r,rfl,h1,h2⟩:=hasAllW_cons hsh
 obtain rfl:=hasAllW_nil h2
 obtain⟨xs,rfl,h3⟩:=hasW_list h1
 obtain⟨ns,rfl⟩:=items_int h3
 have hlen:ns.length<=n:=by
  unfold OpenLaw.pre at hc
  have h4:(WTm.not (.lt (.lit (.int (n:Int))) (.len (.arg 0)))).holds [] { args:=[.list (ns.map .int)] }=true:=by
   have h4:=(holds_andW hc).1
   rw[hn]at h4
   exact h4
  have h5:=condW_of h4 (w_not (w_lt w_lit (w_len_list (w_arg rfl))))
  rw[List.length_map]at h5
  refine Nat.le_of_not_lt fun q=>?_
  have q':(n:Int) < ((ns.length:Nat):Int):=by omega
  first
   | (rw[decide_eq_true q']at h5;exact absurd h5 (by decide))
   | (simp at h5;omega)
 cases hwl with
 | cons w1 w2 =>
  cases w2
  cases w1 with
  | list ho hall=>exact⟨_,_,ns,rfl,rfl,ho,ah6 ns _ hall,hlen⟩
theorem aS2(l:OpenLaw) (args:List WData):l.row.toRowW.claim.post args (.bool true) args=true :=
 postW_of (r:=l.row.toRowW) (X:=(true==true))
  (show WShape.has [] (.bool true) .bool=true by first|rfl|decide|simp[WShape.has,WShape.arms,WShape.armsAll])
  (show(WTm.eq .res (.lit (.bool true))).value [] { args:=args,res:=some (.bool true),after:=args }=some (.bool (true==true)) from w_eq_bool (w_res rfl) w_lit) rfl
theorem attach_call{l:OpenLaw}{n:Nat}{q:Program}{loose:List Str}{XP:(Str->Option Value)->Heap->Prop}{YP:World->Heap->Prop}{d:DefRec}
  (hn:l.most=some n) (hdf:d.params.defaults=[])
  (call:∀(w:World) (s₀ s₁:Shared) (mg mb:Str->Option Value) (fa:Addr) (o:Obj) (pm cd doc:Value) (a:Addr) (vs:List Value) (ns:List Int),
   Ground q loose [] XP w s₀ mg mb s₁.heap->YP w s₁.heap ->
   s₁.heap.get? fa=some o->o.data=.func (docDef d.name d.params d.body d.scope pm cd doc)->s₁.heap.CodeRec cd d.name->mg d.name=some (.ref fa) ->
   s₁.heap.get? a=some { cls:=.type "list", data:=.seq vs.toArray }->IntsAre vs ns->ns.length<=n->s₁.gens = #[] ->
   codeAny (model l.prog w) callerA (.call (.ref fa) ⟨[.ref a],[]⟩) (fun r s'=>r=.ok (.ret (.bool true))/\OldK s₁.heap s'.heap/\s'.os=s₁.os/\AllBare s'.gens) s₁) :
  WalkO q loose XP YP l.row.toRowW d [] (fun f vs=>PySem.call f vs):=by
 intro w s₀ s₁ mg mb G Y fa o pm cd doc dV kV ho hd hcd hD hmg hg args vals as hpre hlay hrd hwl hlo
 obtain rfl:dV=.none:=Dflts.none hD hdf
 obtain rfl:kV=.none:=Dflts.noKw hD
 obtain⟨a,vs,ns,rfl,rfl,hobj,hints,hlen⟩:=aS1 hn hpre hwl
 refine enter_call (codeAny_mono (call w s₀ s₁ mg mb fa o pm cd doc a vs ns G Y ho (fd_plain hd) hcd hmg hobj hints hlen hg) fun r s' hq=>?_)
 obtain⟨rfl,h2,h3,h4⟩:=hq
 exact⟨.inl ⟨.bool true,.bool true,[],rfl,fun _=>rfl,.bool true,aS2 l _,fun _=>⟨List.Pairwise.nil,fun _ hm=>(nomatch hm)⟩⟩,h2,h3,h4⟩
section
variable {prog:Program}{w:World}{A:Around}{E:Value->Shared->Prop}{s:Shared}{K:Frag}
end
end Att
namespace L2
open PySem PySem.Spec PyProof.Rows
theorem ao9:∀{vs:List Value}{ns:List Int},IntsAre vs ns->B9 (ns.map V.int) vs
 | _,_,.nil=>.nil
 | _,_,.cons n t h=>.cons ⟨t,rfl⟩ (ao9 h)
noncomputable def bU8(H:Hp):Prop:=∀b,H b=none\/∃o xs,H b=some (.frz o (.lst xs))
theorem bg1{P:Program}{w:World}{K:PySem.W.Frag}{mg mb:Str->Option Value}{CX:CXT}{k:Nat}{fa a:Addr}{fd:FuncData}{x:Str}{sp:Sp}{s₁:Shared}{vs:List Value}{ns:List Int}
  (KX:K.In s₁.heap) (hns:s₁.heap.Ns mainGlobals mg) (hb:s₁.heap.Ns builtinsNs mb) (hbb:∀x:Str,x ≠ "__name__" -> mb x=bootBuiltins x) (hlim:s₁.heap.NoLimit) (hg:s₁.gens = #[])
  (ha:s₁.heap.get? a=some { cls:=.type "list", data:=.seq vs.toArray }) (hi:IntsAre vs ns) (hl:ns.length<=sizeLine) (hr:Room k callerA)
  (F:∀base:Heap,K.In base->base.Ns mainGlobals mg->FnOk P w K mg base CX k fa fd [x] sp) (hbind:∀(s:Shared) (u:Value),BindsTo s fd ⟨[u],[]⟩ [(x,u)])
  (hsp:∀H:Hp,bU8 H->SqL K H a (ns.map V.int)->sp [.ref a] H (fun v _=>v=.bl true) fun _ _ _=>False)
  (hCX:∀H e s',CX [] H s₁ (fun _ _ _=>False) e s'->False) :
  codeAny (model P w) callerA (.call (.ref fa) ⟨[.ref a],[]⟩) (fun r s'=>r=.ok (.ret (.bool true))/\OldK s₁.heap s'.heap/\s'.os=s₁.os/\AllBare s'.gens) s₁:=by
 have rv:=ao9 hi
 have lenV:=hi.length
 have core:∀H:Hp,bU8 H->SqL K H a (ns.map V.int)->HOk P w H s₁.heap->(∀b,H b≠none->b=a)->(H a≠none->K.lookup a=none) ->
   codeAny (model P w) callerA (.call (.ref fa) ⟨[.ref a],[]⟩) (fun r s'=>r=.ok (.ret (.bool true))/\OldK s₁.heap s'.heap/\s'.os=s₁.os/\AllBare s'.gens) s₁:=by
  intro H hO hS hok hA hK
  have base_of:∀{b:Addr}{o:Obj},s₁.heap.get? b=some o->H b=none->(av3 s₁.heap H).get? b=some o:=fun e n=>bj7 e n
  have noA:∀{b:Addr}{o:Obj}{es:Array DictEntry}{ep:Nat},s₁.heap.get? b=some o->o.data=.dict es ep->H b=none:=fun{b o es ep} e d=>by
   cases q:H b with
   | none=>rfl
   | some u =>
    have e':b=a:=hA b (by rw[q];simp)
    subst e'
    rw[ha]at e;cases e
    have d':Data.seq vs.toArray _=Data.dict es ep:=d
    cases d'
  have nsK:∀{b:Addr}{m:Str->Option Value},s₁.heap.Ns b m->(av3 s₁.heap H).Ns b m:=fun{b m} ⟨o,es,ep,e,d,r⟩=>⟨o,es,ep,base_of e (noA e d),d,r⟩
  have hKb:K.In (av3 s₁.heap H):=fun b o e=>base_of (KX b o e) (by
   cases q:H b with
   | none=>rfl
   | some u =>
    have e':b=a:=hA b (by rw[q];simp)
    subst e'
    rw[hK (by rw[q];simp)]at e;cases e)
  have hM:Mod K mg (av3 s₁.heap H):=⟨hKb,nsK hns,⟨mb,nsK hb,hbb⟩,let⟨mc,h1,h2⟩:=hlim;⟨mc,nsK h1,h2⟩⟩
  have e0:Env0 P w K mg (av3 s₁.heap H) callerA [] s₁ H:=⟨rfl,hM,fun b o e=>bv9 e,Nat.le_of_eq (aU5 _ _),trivial,fun b hb=>absurd (show b∈([]:List Addr) from hb) (by simp),hok,.of_eq hg⟩
  refine codeAny_mono ((F _ hKb (nsK hns)).run callerA [] s₁ H ⟨[.ref a],[]⟩ [.ref a] [.ref a] _ _ hr e0 (hbind s₁ (.ref a)) (.cons rfl .nil) (hsp H hO hS)) fun r s' h=>?_
  cases r with
  | error e=>exact(hCX H e s' h).elim
  | ok fl =>
   cases fl with
   | next=>exact False.elim h
   | brk=>exact False.elim h
   | cont=>exact False.elim h
   | ret u =>
    obtain⟨v,H',os,bare,un,hok',r',q⟩:=h
    have q':v=.bl true:=q
    subst q'
    obtain rfl:u=Value.bool true:=r'
    refine⟨rfl,OldK.of_keep fun b o e=>?_,os,bare⟩
    cases q:H b with
    | none=>exact un.keep b o e q (by intro z;exact absurd (show b∈([]:List Addr) from z) (by simp)) (by simp)
    | some u =>
     rcases hO b with z|⟨ob,xs,z⟩
     ·rw[q]at z;cases z
     ·have z2:=un.frzs b ob _ z
      obtain⟨e1,_⟩:=hok b _ z
      obtain⟨e2,_⟩:=hok' b _ z2
      rw[e]at e1;cases e1
      exact e2
 cases hk:K.lookup a with
 | some o =>
  have e:=KX a o hk
  rw[ha]at e
  cases e
  refine core (fun _=>none) (fun _=>.inl rfl) (.inr ⟨_,vs.toArray,_,hk,rfl,rfl,rfl,by rw[List.size_toArray,lenV];exact hl,by simpa using rv⟩) (fun b u z=>by have z':(none:Option HO)=some u:=z;cases z') (fun b z=>absurd rfl z) fun z=>absurd rfl z
 | none =>
  refine core (fun b=>if b=a then some (.frz { cls:=.type "list", data:=.seq vs.toArray } (.lst (ns.map V.int))) else none) (fun b=>?_) (.inl (.inr ⟨{ cls:=.type "list", data:=.seq vs.toArray },if_pos rfl⟩)) (fun b u z=>?_) (fun b z=>?_) fun _=>hk
  ·by_cases hb:b=a
   ·exact .inr ⟨_,_,if_pos hb⟩
   ·exact .inl (if_neg hb)
  ·by_cases hb:b=a
   ·have z':=(if_pos hb).symm.trans z
    cases z'
    subst hb
    exact⟨ha,by rw[List.length_map];exact hl,vs,_,rv,ha⟩
   ·have z':=(if_neg hb).symm.trans z
    cases z'
  ·by_cases hb:b=a
   ·exact hb
   ·exact absurd (if_neg hb) z
end L2
namespace L2
open PySem PySem.Spec PyProof.Rows
theorem bp6{l:PySem.W.OpenLaw}{n k:Nat}{q:Program}{loose:List Str}{XP:(Str->Option Value)->Heap->Prop}{YP:World->Heap->Prop}{d:DefRec}{K:Params->PySem.W.Frag}{CX:World->CXT}{sp:World->Sp}{x:Str}
  (hn:l.most=some n) (hn2:n<=sizeLine) (hdf:d.params.defaults=[]) (hr:Room k callerA)
  (hY:∀(w:World) (h:Heap),YP w h->(K w.params).In h)
  (F:∀(w:World) (mg:Str->Option Value) (fa:Addr) (h:Heap),(K w.params).In h->h.Ns mainGlobals mg->mg d.name=some (.ref fa) ->
   ∃fd:FuncData,(∀(s:Shared) (u:Value),BindsTo s fd ⟨[u],[]⟩ [(x,u)]) /\
    ∀base:Heap,(K w.params).In base->base.Ns mainGlobals mg->FnOk l.prog w (K w.params) mg base (CX w) k fa fd [x] (sp w))
  (hsp:∀(w:World) (H:Hp) (a:Addr) (ns:List Int),ns.length<=n->bU8 H->SqL (K w.params) H a (ns.map V.int)->sp w [.ref a] H (fun v _=>v=.bl true) fun _ _ _=>False)
  (hCX:∀(w:World) (H:Hp) (s:Shared) (e:Value) (s':Shared),CX w [] H s (fun _ _ _=>False) e s'->False) :
  PySem.W.WalkO q loose XP YP l.row.toRowW d [] (fun f vs=>PySem.call f vs):=by
 refine Att.attach_call hn hdf fun w s₀ s₁ mg mb fa o pm cd doc a vs ns G Y ho hd hcd hmg hobj hints hlen hg=>?_
 have KX:=hY w _ Y
 obtain⟨fd,hb,hF⟩:=F w mg fa _ KX G.T.g hmg
 exact bg1 KX G.T.g G.T.b G.T.builtins G.T.nolimit hg hobj hints (Nat.le_trans hlen hn2) hr hF hb (fun H hO hS=>hsp w H a ns hlen hO hS) fun H e s'=>hCX w H s₁ e s'
end L2
namespace L2
open PySem PySem.Spec PyProof.Rows
noncomputable def R6(s:Stmt):Arguments:=match s with
 | .FunctionDef _ a _ _ _ _ _ _ _ _=>a
 | _=>{ posonlyargs:=[],args:=[],vararg:=none,kwonlyargs:=[],kw_defaults:=[],kwarg:=none,defaults:=[] }
noncomputable def A4(s:Stmt):List Stmt:=match s with
 | .FunctionDef _ _ b _ _ _ _ _ _ _=>b
 | _=>[]
noncomputable def A7(s:Stmt):Scope:=match s with
 | .FunctionDef _ _ _ _ _ _ sc _ _ _=>sc
 | _=>{ kind:=.function,names:=[],isGenerator:=false,isCoroutine:=false }
noncomputable abbrev CX0:CXT:=fun _ _ _ _ _ _=>False
noncomputable abbrev E0:XK:=fun _ _ _=>False
theorem ap6:l8 CX0 X E0:=fun _ _ _ _ _ _ _ h=>h.elim
structure Fun (K:PySem.W.Frag) (x qual:Str) (st:Stmt) (f:Addr) (fd:FuncData):Prop where
 ex:∃(oc:Value) (od:Option Addr) (kV doc pm:Value) (an:Option Addr) (cdv ct:Value) (osl:Array (Option Value)),
  fd=PySem.W.fnOf x qual (R6 st) (A4 st) (A7 st) .none kV doc pm an cdv ct/\K.lookup f=some ⟨oc,od,.func fd,osl⟩/\PySem.W.codeIn K cdv qual=true
 kp:PySem.W.keepIn K (.ref f)=true
section
variable {P:Program}{w:World}{K:PySem.W.Frag}{mg:Str->Option Value}{base:Heap}
theorem Fun.ok{x qual:Str}{st:Stmt}{f:Addr}{fd:FuncData}{N ps:List Str}{k:Nat}{sp:Sp}(F:Fun K x qual st f fd) (S:FnScope N ps (A7 st)) (len:∀vs H Q E,sp vs H Q E->vs.length=ps.length)
  (hbody:∀(cdv:Value) (A:Around) (outer:List Env) (s:Shared) (H:Hp) (vs:List V) (Q:VK) (E:XK),Room k (A.deeper (envOfC qual (A7 st) s.heap.objs.size f cdv))->sp vs H Q E ->
   ∃t,PSs (l7 CX0 P w K mg base N qual (A7 st) f cdv A outer s H E).nox (A4 st) t/\t { nx:=fun _ H'=>Q .non H',rt:=Q } (start N vs) H):FnOk P w K mg base CX0 (k+1) f fd ps sp:=by
 obtain⟨oc,od,kV,doc,pm,an,cdv,ct,osl,rfl,lk,hcd⟩:=F.ex
 refine bE4 lk hcd S len fun A outer s H vs Q E hr hsp=>?_
 obtain⟨t,h,q⟩:=hbody cdv A outer s H vs Q E hr hsp
 exact⟨t,h.nox,q⟩
theorem am4{x qual:Str}{st:Stmt}{f:Addr}{oc:Value}{od an:Option Addr}{osl:Array (Option Value)}{kV doc pm cdv ct:Value}(l:K.lookup f=some ⟨oc,od,.func (PySem.W.fnOf x qual (R6 st) (A4 st) (A7 st) .none kV doc pm an cdv ct),osl⟩)
  (c:PySem.W.codeIn K cdv qual=true) (k:PySem.W.keepIn K (.ref f)=true):Fun K x qual st f (PySem.W.fnOf x qual (R6 st) (A4 st) (A7 st) .none kV doc pm an cdv ct):=⟨⟨oc,od,kV,doc,pm,an,cdv,ct,osl,rfl,l,c⟩,k⟩
end
theorem Q5(h:n<=1000):n < sizeLine:=Nat.lt_of_le_of_lt h (by decide)
section
variable {X:Cx}
theorem pv(i:Nat) (hN:X.N[i]? = some x:=by rfl) (hv:Vis X.env.scope x:=by first|exact Or.inl rfl|exact Or.inr (Or.inl rfl)|exact Or.inr (Or.inr rfl)) (hd:(x==("__debug__" : Str))=false:=by decide)
  (hcd:(x==("__classdict__" : Str))=false:=by decide):PE X (.Name x pos) (bI3 i):=P2 hN hv hd hcd
end
theorem aa4{A B:Prop}(h:B):if false=true then A else B:=by
 rw[if_neg Bool.false_ne_true]
 exact h
theorem aa3{A B:Prop}(h:A):if true=true then A else B:=by
 rw[if_pos rfl]
 exact h
noncomputable def B3(H H':Hp):Prop:=∀b o,H b=some o->H' b=some o
theorem B3.refl(H:Hp):B3 H H:=fun _ _ h=>h
theorem B3.trans(a:B3 H H1) (b:B3 H1 H2):B3 H H2:=fun c o h=>b c o (a c o h)
theorem B3.free(e:B3 H H') (h:H' l=Option.none):H l=Option.none:=by
 cases q:H l with
 | none=>rfl
 | some o =>
  rw[e l o q]at h
  cases h
end L2
set_option maxHeartbeats 4000000
namespace G
theorem xbm{α β:Type}{o:Option α}{f:α->Option β}{b:β}(h:o.bind f=some b):∃a,o=some a/\f a=some b:=Option.bind_eq_some_iff.mp h
open PySem PySem.Spec PyProof.Rows L2
noncomputable abbrev D:=PyData
mutual
noncomputable def Rep(K:PySem.W.Frag) (H:Hp):D->V->Prop
 | .none,v=>v=.non
 | .bool b,v=>v=.bl b
 | .int i,v=>v=.int i
 | .str x,v=>v=.str x
 | .tuple ds,v=>∃a vs,v=.ref a/\SqT K H a vs/\Reps K H ds vs
 | .list ds,v=>∃a vs,v=.ref a/\SqL K H a vs/\Reps K H ds vs
 | .dict kvs,v=>∃a m,v=.ref a/\H a=some (.dK m)/\RepKs K H kvs m
noncomputable def Reps(K:PySem.W.Frag) (H:Hp):List D->List V->Prop
 | [],vs=>vs=[]
 | d::ds,vs=>∃v r,vs=v::r/\Rep K H d v/\Reps K H ds r
/-- a dict by texts -/
noncomputable def RepKs(K:PySem.W.Frag) (H:Hp):List (D×D)->List (Key×V)->Prop
 | [],m=>m=[]
 | (k,d)::r,m=>∃x v t,k=.str x/\m=(.inr x,v)::t/\Rep K H d v/\RepKs K H r t
end
section
variable {K:PySem.W.Frag}{H H' H0 H1 H2 Hf Hf' Hf1 Hf2:Hp}
theorem aL9(e:B3 H H') (h:Rd H a u):Rd H' a u:=by
 rcases h with h|⟨o,h⟩
 ·exact .inl (e _ _ h)
 ·exact .inr ⟨o,e _ _ h⟩
theorem C5(e:B3 H H') (h:SqT K H a xs):SqT K H' a xs:=h.imp (aL9 e) id
theorem K6(e:B3 H H') (h:SqL K H a xs):SqL K H' a xs:=h.imp (aL9 e) id
mutual
theorem Rep.mono(e:B3 H H'):∀{d:D}{v:V},Rep K H d v->Rep K H' d v
 | .none,_,h=>h
 | .bool _,_,h=>h
 | .int _,_,h=>h
 | .str _,_,h=>h
 | .tuple _,_,⟨a,vs,h1,h2,h3⟩=>⟨a,vs,h1,C5 e h2,Reps.mono e h3⟩
 | .list _,_,⟨a,vs,h1,h2,h3⟩=>⟨a,vs,h1,K6 e h2,Reps.mono e h3⟩
 | .dict _,_,⟨a,m,h1,h2,h3⟩=>⟨a,m,h1,e _ _ h2,RepKs.mono e h3⟩
theorem Reps.mono(e:B3 H H'):∀{ds:List D}{vs:List V},Reps K H ds vs->Reps K H' ds vs
 | [],_,h=>h
 | _::_,_,⟨v,r,h1,h2,h3⟩=>⟨v,r,h1,Rep.mono e h2,Reps.mono e h3⟩
theorem RepKs.mono(e:B3 H H'):∀{ds:List (D×D)}{vs:List (Key×V)},RepKs K H ds vs->RepKs K H' ds vs
 | [],_,h=>h
 | (_,_)::_,_,⟨x,v,t,h1,h2,h3,h4⟩=>⟨x,v,t,h1,h2,Rep.mono e h3,RepKs.mono e h4⟩
end
theorem Reps.length:∀{ds:List D}{vs:List V},Reps K H ds vs->vs.length=ds.length
 | [],_,h=>by cases h;rfl
 | _::_,_,⟨v,r,h1,h2,h3⟩=>by subst h1;simp[Reps.length h3]
theorem Reps.get:∀{ds:List D}{vs:List V}{i:Nat}{d:D},Reps K H ds vs->ds[i]? = some d->∃v,vs[i]? = some v/\Rep K H d v
 | [],_,_,_,_,e=>by simp at e
 | x::_,_,0,_,⟨v,r,h1,h2,h3⟩,e=>by subst h1;simp at e;subst e;exact⟨v,rfl,h2⟩
 | x::_,_,i+1,_,⟨v,r,h1,h2,h3⟩,e=>by
  subst h1
  obtain⟨u,q1,q2⟩:=Reps.get (i:=i) h3 (by simpa using e)
  exact⟨u,by simpa using q1,q2⟩
theorem Reps.append:∀{ds es:List D}{vs us:List V},Reps K H ds vs->Reps K H es us->Reps K H (ds++es) (vs++us)
 | [],_,_,_,h,q=>by cases h;exact q
 | _::_,_,_,_,⟨v,r,h1,h2,h3⟩,q=>by subst h1;exact⟨v,r++_,rfl,h2,Reps.append h3 q⟩
theorem Reps.take:∀{ds:List D}{vs:List V}(n:Nat),Reps K H ds vs->Reps K H (ds.take n) (vs.take n)
 | [],_,n,h=>by cases h;simp[Reps]
 | _::_,_,0,h=>by simp[Reps]
 | _::_,_,n+1,⟨v,r,h1,h2,h3⟩=>by subst h1;exact⟨v,r.take n,rfl,h2,Reps.take n h3⟩
theorem Reps.drop:∀{ds:List D}{vs:List V}(n:Nat),Reps K H ds vs->Reps K H (ds.drop n) (vs.drop n)
 | [],_,n,h=>by cases h;simp[Reps]
 | _::_,_,0,h=>h
 | _::_,_,n+1,⟨v,r,h1,h2,h3⟩=>by subst h1;exact Reps.drop n h3
theorem Reps.ints:∀(ns:List Int),Reps K H (ns.map PyData.int) (ns.map V.int)
 | []=>rfl
 | n::r=>⟨.int n,r.map V.int,rfl,rfl,Reps.ints r⟩
theorem Reps.flatten(h:Reps K H ds vs):∀k:Nat,Reps K H (List.replicate k ds).flatten (List.replicate k vs).flatten
 | 0=>rfl
 | k+1=>by simp only[List.replicate_succ,List.flatten_cons];exact h.append (Reps.flatten h k)
structure Grow (H Hf H' Hf':Hp):Prop where
 big:B3 H H'
 sub:B3 Hf' H'
 ext:B3 Hf Hf'
 new:∀b,Hf' b≠none->Hf b≠none\/H b=none
theorem Grow.refl(h:B3 Hf H):Grow H Hf H Hf:=⟨B3.refl _,h,B3.refl _,fun _ h=>.inl h⟩
theorem Grow.trans(a:Grow H Hf H1 Hf1) (b:Grow H1 Hf1 H2 Hf2):Grow H Hf H2 Hf2 :=
 ⟨a.big.trans b.big,b.sub,a.ext.trans b.ext,fun x h=>(b.new x h).elim (a.new x) fun z=>.inr (a.big.free z)⟩
theorem C6(h:H p=none):B3 H (upd H p o):=fun b u e=>by rw[A3 (B4 e h)];exact e
theorem Grow.laid(s:B3 Hf H) (h:H p=none):Grow H Hf (upd H p o) (upd Hf p o):=by
 refine⟨C6 h,fun b u e=>?_,C6 (s.free h),fun b e=>?_⟩
 ·by_cases q:b=p
  ·subst q;rw[A5]at e;rw[A5];exact e
  ·rw[A3 q]at e;rw[A3 q];exact s b u e
 ·by_cases q:b=p
  ·subst q;exact .inr h
  ·rw[A3 q]at e;exact .inl e
theorem Grow.made(s:B3 Hf H) (h:H p=none):Grow H Hf (upd H p o) Hf :=
 ⟨C6 h,s.trans (C6 h),B3.refl _,fun _ e=>.inl e⟩
theorem Grow.freeze(g:Grow H Hf H1 Hf1) (h:H1 p=some o) (n:Hf1 p=none) (f:H p=none):Grow H Hf H1 (upd Hf1 p o):=by
 refine⟨g.big,fun b u e=>?_,g.ext.trans (C6 n),fun b e=>?_⟩
 ·by_cases q:b=p
  ·subst q;rw[A5]at e;rw[h];exact e
  ·rw[A3 q]at e;exact g.sub b u e
 ·by_cases q:b=p
  ·subst q;exact .inr f
  ·rw[A3 q]at e;exact g.new b e
end
inductive B where
 | val (d:D)
 | own (ds:List D)
 | exc (x:Str)
 | opq (a:Addr)
noncomputable abbrev Rho:=List (Option B)
noncomputable def clA(K:PySem.W.Frag) (x:Str):Option Addr:=match PySem.W.nsIn K mainGlobals x with
 | some (some (.ref C))=>some C
 | _=>none
noncomputable def SB(K:PySem.W.Frag) (H0 H Hf:Hp):B->V->Prop
 | .val d,v=>Rep K Hf d v
 | .own ds,v=>∃a vs,v=.ref a/\H a=some (.lst vs)/\Hf a=none/\H0 a=none/\Reps K Hf ds vs
 | .exc x,v=>∃a o C,v=.ref a/\Hf a=some (.frz o (.own a))/\clA K x=some C/\o.cls=.ref C
 | .opq a,v=>v=.ref a
structure Slots (K:PySem.W.Frag) (H0:Hp) (ρ:Rho) (σ:L2.St) (H Hf:Hp):Prop where
 len:ρ.length=σ.length
 is:∀(i:Nat) (b:B),ρ[i]? = some (some b)->∃v,σ[i]? = some (some v)/\SB K H0 H Hf b v
 apart:∀(i j:Nat) (ds es:List D) (a:Addr),ρ[i]? = some (some (.own ds))->ρ[j]? = some (some (.own es))->σ[i]? = some (some (V.ref a))->σ[j]? = some (some (V.ref a))->i=j
section
variable {K:PySem.W.Frag}{H H' H0 H1 H2 Hf Hf' Hf1 Hf2:Hp}{ρ:Rho}{σ:L2.St}
theorem SB.grow(h:SB K H0 H Hf b v) (g:Grow H Hf H' Hf'):SB K H0 H' Hf' b v:=by
 cases b with
 | val d=>exact Rep.mono g.ext h
 | opq a=>exact h
 | exc C =>
  obtain⟨a,o,C,e,h1,h2⟩:=h
  exact⟨a,o,C,e,g.ext _ _ h1,h2⟩
 | own ds =>
  obtain⟨a,vs,e,h1,h2,h3,h4⟩:=h
  refine⟨a,vs,e,g.big _ _ h1,?_,h3,h4.mono g.ext⟩
  cases q:Hf' a with
  | none=>rfl
  | some u =>
   rcases g.new a (by rw[q];simp) with z|z
   ·exact absurd h2 z
   ·rw[h1]at z;cases z
theorem Slots.grow(s:Slots K H0 ρ σ H Hf) (g:Grow H Hf H' Hf'):Slots K H0 ρ σ H' Hf' :=
 ⟨s.len,fun i b e=>let⟨v,h1,h2⟩:=s.is i b e;⟨v,h1,h2.grow g⟩,s.apart⟩
end
noncomputable abbrev DE:=Rho->Option D
noncomputable def tJ(K:PySem.W.Frag) (ρ:Rho) (R:Hp->V->Hp->Hp->Prop):TE:=fun σ H Q=>∃H0 Hf,B3 Hf H/\Slots K H0 ρ σ H Hf/\∀v H' Hf',Grow H Hf H' Hf'->R H v H' Hf'->Q v H'
noncomputable def JE(X:Cx) (e:Expr) (f:DE):Prop:=∀ρ d,f ρ=some d->PE X e (tJ X.K ρ fun _ v _ Hf=>Rep X.K Hf d v)
noncomputable def Sq(K:PySem.W.Frag):Bool->Hp->Addr->List V->Prop
 | true=>SqT K
 | false=>SqL K
noncomputable def RQ(K:PySem.W.Frag) (t:Bool) (ds:List D) (v:V) (H Hf:Hp):Prop:=∃a vs,v=.ref a/\Sq K t H a vs/\Reps K Hf ds vs
noncomputable def JQ(X:Cx) (e:Expr) (f:Rho->Option (Bool×List D)):Prop:=∀ρ t ds,f ρ=some (t,ds)->PE X e (tJ X.K ρ fun _ v H Hf=>RQ X.K t ds v H Hf)
noncomputable def JN(X:Cx) (e:Expr) (f:Rho->Option (List D)):Prop:=∀ρ ds,f ρ=some ds->PE X e (tJ X.K ρ fun H v H' Hf'=>∃a vs,v=.ref a/\H a=none/\H' a=some (.lst vs)/\Hf' a=none/\Reps X.K Hf' ds vs)
noncomputable def tJA(K:PySem.W.Frag) (ρ:Rho) (ds:List D):TA:=fun σ H Q=>∃H0 Hf,B3 Hf H/\Slots K H0 ρ σ H Hf/\∀vs H' Hf',Grow H Hf H' Hf'->Reps K Hf' ds vs->Q vs H'
structure JA (X:Cx) (es:List Expr) (f:Rho->Option (List D)):Prop where
 len:∀ρ ds,f ρ=some ds->ds.length=es.length
 run:∀ρ ds,f ρ=some ds->PA X es (tJA X.K ρ ds)
noncomputable def JT(X:Cx) (e:Expr) (f:Rho->Option Bool):Prop:=∀ρ c,f ρ=some c->PT X e (fun σ H Q=>∃H0 Hf,B3 Hf H/\Slots X.K H0 ρ σ H Hf/\∀H' Hf',Grow H Hf H' Hf'->Q c H')
noncomputable def JW(X:Cx) (e:Expr) (f:Rho->Option Bool):Prop:=∀ρ c,f ρ=some c->PW X e (fun σ H Q=>∃H0 Hf,B3 Hf H/\Slots X.K H0 ρ σ H Hf/\∀H' Hf',Grow H Hf H' Hf'->Q c H')
section
variable {X:Cx}
theorem B0(h:PE X e t) (i:∀σ H Q,t' σ H Q->t σ H Q):PE X e t':=fun pins s σ H Q I q=>h pins s σ H Q I (i σ H Q q)
theorem Z6(h:PT X e t) (i:∀σ H Q,t' σ H Q->t σ H Q):PT X e t':=fun pins s σ H Q I q=>h pins s σ H Q I (i σ H Q q)
noncomputable def dC(d:D):DE:=fun _=>some d
noncomputable def A2(i:Nat):DE:=fun ρ=>match ρ[i]? with
 | some (some (.val d))=>some d
 | _=>none
noncomputable def C2(i:Nat):Rho->Option (Bool×List D):=fun ρ=>match ρ[i]? with
 | some (some (.own ds))=>some (false,ds)
 | some (some (.val (.list ds)))=>some (false,ds)
 | some (some (.val (.tuple ds)))=>some (true,ds)
 | _=>none
noncomputable def ao1:D->Option (Bool×List D)
 | .list ds=>some (false,ds)
 | .tuple ds=>some (true,ds)
 | _=>none
theorem aa1:JE X (.Constant (.int i) j pos) (dC (.int i)):=fun ρ d h=>by
 cases h
 exact B0 bL7 fun σ H Q ⟨H0,Hf,s,sl,k⟩=>k _ H Hf (Grow.refl s) rfl
theorem cd2:JE X (.Constant (.bool b) j pos) (dC (.bool b)):=fun ρ d h=>by
 cases h
 exact B0 bZ5 fun σ H Q ⟨H0,Hf,s,sl,k⟩=>k _ H Hf (Grow.refl s) rfl
theorem aH9:JE X (.Constant .none j pos) (dC .none):=fun ρ d h=>by
 cases h
 exact B0 bL5 fun σ H Q ⟨H0,Hf,s,sl,k⟩=>k _ H Hf (Grow.refl s) rfl
theorem k7:JE X (.Constant (.str x) j pos) (dC (.str x)):=fun ρ d h=>by
 cases h
 exact B0 bL2 fun σ H Q ⟨H0,Hf,s,sl,k⟩=>k _ H Hf (Grow.refl s) rfl
theorem av1(i:Nat) (hN:X.N[i]? = some x:=by rfl) (hv:Vis X.env.scope x:=by first|exact Or.inl rfl|exact Or.inr (Or.inl rfl)|exact Or.inr (Or.inr rfl)) (hd:(x==("__debug__" : Str))=false:=by decide)
  (hcd:(x==("__classdict__" : Str))=false:=by decide):JE X (.Name x pos) (A2 i):=fun ρ d h=>by
 refine B0 (P2 hN hv hd hcd) fun σ H Q ⟨H0,Hf,s,sl,k⟩=>?_
 unfold A2 at h
 split at h
 ·rename_i d' e
  cases h
  obtain⟨v,h1,h2⟩:=sl.is i _ e
  exact⟨v,h1,k v H Hf (Grow.refl s) h2⟩
 ·cases h
theorem bP7(i:Nat) (hN:X.N[i]? = some x:=by rfl) (hv:Vis X.env.scope x:=by first|exact Or.inl rfl|exact Or.inr (Or.inl rfl)|exact Or.inr (Or.inr rfl)) (hd:(x==("__debug__" : Str))=false:=by decide)
  (hcd:(x==("__classdict__" : Str))=false:=by decide):JQ X (.Name x pos) (C2 i):=fun ρ t ds h=>by
 refine B0 (P2 hN hv hd hcd) fun σ H Q ⟨H0,Hf,s,sl,k⟩=>?_
 unfold C2 at h
 split at h
 ·rename_i d' e
  cases h
  obtain⟨v,h1,a,vs,rfl,h2,h3,h4,h5⟩:=sl.is i _ e
  exact⟨_,h1,k _ H Hf (Grow.refl s) ⟨a,vs,rfl,SqL.of h2,h5⟩⟩
 ·rename_i d' e
  cases h
  obtain⟨v,h1,a,vs,rfl,h2,h3⟩:=sl.is i _ e
  exact⟨_,h1,k _ H Hf (Grow.refl s) ⟨a,vs,rfl,K6 s h2,h3⟩⟩
 ·rename_i d' e
  cases h
  obtain⟨v,h1,a,vs,rfl,h2,h3⟩:=sl.is i _ e
  exact⟨_,h1,k _ H Hf (Grow.refl s) ⟨a,vs,rfl,C5 s h2,h3⟩⟩
 ·cases h
theorem Rep.seq{K:PySem.W.Frag}{H Hf:Hp}{d:D}{v:V}{t:Bool}{ds:List D}(h:Rep K Hf d v) (s:B3 Hf H) (e:ao1 d=some (t,ds)):RQ K t ds v H Hf:=by
 cases d with
 | list xs=>cases e;obtain⟨a,vs,e1,e2,e3⟩:=h;exact⟨a,vs,e1,K6 s e2,e3⟩
 | tuple xs=>cases e;obtain⟨a,vs,e1,e2,e3⟩:=h;exact⟨a,vs,e1,C5 s e2,e3⟩
 | _=>cases e
noncomputable def qE(f:DE):Rho->Option (Bool×List D):=fun ρ=>(f ρ).bind ao1
theorem aO1(h:JE X e f):JQ X e (qE f):=fun ρ t ds q=>by
 obtain⟨d,h1,h2⟩:=xbm q
 exact B0 (h ρ d h1) fun σ H Q ⟨H0,Hf,s,sl,k⟩=>⟨H0,Hf,s,sl,fun v H' Hf' g r=>k v H' Hf' g (r.seq g.sub h2)⟩
noncomputable def A6:Rho->Option (List D):=fun _=>some []
noncomputable def A0(f:DE) (g:Rho->Option (List D)):Rho->Option (List D):=fun ρ=>(f ρ).bind fun d=>(g ρ).map fun ds=>d::ds
theorem O4:JA X [] A6:=⟨fun ρ ds h=>by cases h;rfl,fun ρ ds h pos pins s σ H Q I ⟨H0,Hf,ss,sl,k⟩=>by
 cases h
 exact M3 pos pins s σ H Q I (k [] H Hf (Grow.refl ss) rfl)⟩
theorem B8(h:JE X e f) (r:JA X es g) (hs:starEach (e::es) X.env=(false,eval e X.env)::starEach es X.env:=by rfl):JA X (e::es) (A0 f g):=by
 refine⟨fun ρ ds q=>?_,fun ρ ds q=>?_⟩
 ·obtain⟨d,h1,h2⟩:=xbm q
  obtain⟨es',h3,h4⟩:=Option.map_eq_some_iff.mp h2
  subst h4
  simp[r.len ρ es' h3]
 ·obtain⟨d,h1,h2⟩:=xbm q
  obtain⟨es',h3,h4⟩:=Option.map_eq_some_iff.mp h2
  subst h4
  intro pos pins s σ H Q I ⟨H0,Hf,ss,sl,k⟩
  refine E2 (h ρ d h1) (r.run ρ es' h3) hs pos pins s σ H Q I ⟨H0,Hf,ss,sl,fun v H1 Hf1 g1 r1=>⟨H0,Hf1,g1.sub,sl.grow g1,fun vs H2 Hf2 g2 r2=>?_⟩⟩
  exact k (v::vs) H2 Hf2 (g1.trans g2) ⟨v,vs,rfl,r1.mono g2.ext,r2⟩
noncomputable def O7(f:Rho->Option (List D)):DE:=fun ρ=>(f ρ).map PyData.tuple
theorem bh7(h:JA X es f) (hn:es.length<=1000:=by decide):JE X (.Tuple es k pos) (O7 f):=fun ρ d q=>by
 obtain⟨ds,h1,h2⟩:=Option.map_eq_some_iff.mp q
 subst h2
 refine B0 (aG9 fun pos pins s σ H Q I t=>h.run ρ ds h1 pos pins s σ H Q I t) fun σ H Q ⟨H0,Hf,s,sl,k⟩=>?_
 refine⟨H0,Hf,s,sl,fun vs H1 Hf1 g r=>⟨?_,fun p hp=>?_⟩⟩
 ·rw[r.length,h.len ρ ds h1];exact Nat.le_of_lt (Q5 hn)
 ·exact k _ _ _ (g.trans (Grow.laid g.sub hp)) ⟨p,vs,rfl,SqT.of A5,r.mono (Grow.laid (o:=.tup vs) g.sub hp).ext⟩
theorem bh2(h:JA X es f) (hn:es.length<=1000:=by decide):JN X (.List es pos) f:=fun ρ ds h1=>by
 refine B0 (at9 fun pos pins s σ H Q I t=>h.run ρ ds h1 pos pins s σ H Q I t) fun σ H Q ⟨H0,Hf,s,sl,k⟩=>?_
 refine⟨H0,Hf,s,sl,fun vs H1 Hf1 g r=>⟨?_,fun p hp=>?_⟩⟩
 ·rw[r.length,h.len ρ ds h1];exact Nat.le_of_lt (Q5 hn)
 ·exact k _ _ _ (g.trans (Grow.made g.sub hp)) ⟨p,vs,rfl,g.big.free hp,A5,g.sub.free hp,r⟩
noncomputable def ao5(f:Rho->Option (List D)):DE:=fun ρ=>(f ρ).map PyData.list
theorem am0(h:JN X e f):JE X e (ao5 f):=fun ρ d q=>by
 obtain⟨ds,h1,h2⟩:=Option.map_eq_some_iff.mp q
 subst h2
 refine B0 (h ρ ds h1) fun σ H Q ⟨H0,Hf,s,sl,k⟩=>⟨H0,Hf,s,sl,fun v H' Hf' g ⟨a,vs,e1,e2,e3,e4,e5⟩=>?_⟩
 subst e1
 exact k _ _ _ (g.freeze e3 e4 e2) ⟨a,vs,rfl,SqL.of A5,e5.mono (C6 e4)⟩
theorem bh1(h:JN X e f):JQ X e (fun ρ=>(f ρ).map fun ds=>(false,ds)):=fun ρ t ds q=>by
 obtain⟨ds',h1,h2⟩:=Option.map_eq_some_iff.mp q
 cases h2
 refine B0 (h ρ ds h1) fun σ H Q ⟨H0,Hf,s,sl,k⟩=>⟨H0,Hf,s,sl,fun v H' Hf' g ⟨a,vs,e1,e2,e3,e4,e5⟩=>?_⟩
 subst e1
 exact k _ _ _ g ⟨a,vs,rfl,SqL.of e3,e5⟩
noncomputable def OpD(X:Cx) (F:Value->Value->Sem Value) (h:D->D->Option D):Prop:=∀x y z,h x y=some z ->
 OpR X F fun vx vy H Q=>∃Hf,B3 Hf H/\Rep X.K Hf x vx/\Rep X.K Hf y vy/\∀v H' Hf',Grow H Hf H' Hf'->Rep X.K Hf' z v->Q v H'
noncomputable def A9(h:D->D->Option D) (f g:DE):DE:=fun ρ=>(f ρ).bind fun x=>(g ρ).bind fun y=>h x y
theorem X6(o:OpD X (binaryOp op) h) (ha:JE X a f) (hb:JE X b g):JE X (.BinOp a op b pos) (A9 h f g):=fun ρ d q=>by
 obtain⟨x,h1,q⟩:=xbm q
 obtain⟨y,h2,h3⟩:=xbm q
 refine B0 (bZ3 (o x y d h3) (ha ρ x h1) (hb ρ y h2)) fun σ H Q ⟨H0,Hf,s,sl,k⟩=>?_
 refine⟨H0,Hf,s,sl,fun v H1 Hf1 g1 r1=>⟨H0,Hf1,g1.sub,sl.grow g1,fun u H2 Hf2 g2 r2=>?_⟩⟩
 exact⟨Hf2,g2.sub,r1.mono g2.ext,r2,fun w H3 Hf3 g3 r3=>k w H3 Hf3 ((g1.trans g2).trans g3) r3⟩
theorem bi4(o:OpD X (compareOp op) h) (ha:JE X a f) (hb:JE X b g) (hm:behindInMarks op b=false:=by first|exact au6 _|rfl):JE X (.Compare a [op] [b] pos) (A9 h f g):=fun ρ d q=>by
 obtain⟨x,h1,q⟩:=xbm q
 obtain⟨y,h2,h3⟩:=xbm q
 refine B0 (aM7 (o x y d h3) (ha ρ x h1) (hb ρ y h2) hm) fun σ H Q ⟨H0,Hf,s,sl,k⟩=>?_
 refine⟨H0,Hf,s,sl,fun v H1 Hf1 g1 r1=>⟨H0,Hf1,g1.sub,sl.grow g1,fun u H2 Hf2 g2 r2=>?_⟩⟩
 exact⟨Hf2,g2.sub,r1.mono g2.ext,r2,fun w H3 Hf3 g3 r3=>k w H3 Hf3 ((g1.trans g2).trans g3) r3⟩
theorem OpR.imp(h:OpR X F r) (i:∀x y H Q,r' x y H Q->r x y H Q):OpR X F r':=fun pins s σ H x y v u Q I rx ry q=>h pins s σ H x y v u Q I rx ry (i x y H Q q)
end
end G
namespace G
open PySem PySem.Spec PyProof.Rows L2
section
variable {X:Cx}
noncomputable def F6(i:Int):Prop:=i.natAbs < 2 ^ 8000
instance:DecidablePred F6:=fun i=>inferInstanceAs (Decidable (i.natAbs < 2 ^ 8000))
theorem F6.log(h:F6 i) (h0:i.natAbs≠0):i.natAbs.log2 < 8000:=(Nat.log2_lt h0).mpr h
theorem F6.bits(h:F6 i):Builtin.Int.intBits i<=2 ^ 20:=by
 unfold Builtin.Int.intBits
 split
 ·exact Nat.zero_le _
 ·rename_i h0
  have:=h.log (by simpa using h0)
  grind
theorem bv2:OpR X (binaryOp .Mult) (rI (fun i j=>F6 i/\F6 j) fun i j=>.int (i*j)):=opI fun _ _ _ _ _ _ _ hc q=>mul_int q (PySem.IntMulOk.of_bits hc.1.bits hc.2.bits)
noncomputable def cf4(x y:D):Option D:=match x,y with
 | .int i,.int j=>some (.int (i+j))
 | _,_=>none
noncomputable def aa9(x y:D):Option D:=match x,y with
 | .int i,.int j=>some (.int (i - j))
 | .int i,.bool b=>some (.int (i - if b=true then 1 else 0))
 | .bool a,.int j=>some (.int ((if a=true then 1 else 0) - j))
 | _,_=>none
noncomputable def bO6(x y:D):Option D:=match x,y with
 | .int i,.int j=>if F6 i/\F6 j then some (.int (i*j)) else none
 | _,_=>none
noncomputable def ac4(x y:D):Option D:=match x,y with
 | .int i,.int j=>if 0 < j/\F6 j then some (.int (i / j)) else none
 | _,_=>none
noncomputable def X4(x y:D):Option D:=match x,y with
 | .int i,.int j=>if 0 < j then some (.int (i % j)) else none
 | _,_=>none
theorem ci4:OpD X (binaryOp .Add) cf4:=fun x y z h=>by
 unfold cf4 at h
 split at h
 ·cases h
  exact OpR.imp bd6 fun vx vy H Q ⟨Hf,s,r1,r2,k⟩=>⟨_,_,r1,r2,k _ H Hf (Grow.refl s) rfl⟩
 ·cases h
theorem bN4:OpD X (binaryOp .Sub) aa9:=fun x y z h=>by
 unfold aa9 at h
 split at h
 ·cases h
  exact OpR.imp bM8 fun vx vy H Q ⟨Hf,s,r1,r2,k⟩=>⟨_,_,r1,r2,k _ H Hf (Grow.refl s) rfl⟩
 ·cases h
  intro pins s σ H vx vy v u Q I rx ry ⟨Hf,ss,r1,r2,k⟩
  cases r1;cases r2
  obtain⟨t,rfl⟩:=rx
  obtain rfl:u=Value.bool _:=ry
  exact PySem.IntBool.sub_int_bool ⟨.int _,H,I.tok _,⟨_,rfl⟩,k _ H Hf (Grow.refl ss) rfl⟩
 ·cases h
  intro pins s σ H vx vy v u Q I rx ry ⟨Hf,ss,r1,r2,k⟩
  cases r1;cases r2
  obtain⟨t,rfl⟩:=ry
  obtain rfl:v=Value.bool _:=rx
  exact PySem.IntBool.sub_bool_int ⟨.int _,H,I.tok _,⟨_,rfl⟩,k _ H Hf (Grow.refl ss) rfl⟩
 ·cases h
theorem bN5:OpD X (binaryOp .Mult) bO6:=fun x y z h=>by
 unfold bO6 at h
 split at h
 ·split at h
  ·rename_i c
   cases h
   exact OpR.imp bv2 fun vx vy H Q ⟨Hf,s,r1,r2,k⟩=>⟨_,_,r1,r2,c,k _ H Hf (Grow.refl s) rfl⟩
  ·cases h
 ·cases h
theorem aS7:OpR X (binaryOp .FloorDiv) (rI (fun _ j=>0 < j/\F6 j) fun i j=>.int (i / j)):=opI fun i j _ _ s Q E hc q=>by
 have e:i.fdiv j=i / j:=Int.fdiv_eq_ediv_of_nonneg i (Int.le_of_lt hc.1)
 refine floordiv_int (by grind) (by rw[e];exact q) (.inl (PyProof.noPylong_of_log2 ?_))
 have h2:=hc.2.log (by grind)
 grind
theorem bN8:OpD X (binaryOp .FloorDiv) ac4:=fun x y z h=>by
 unfold ac4 at h
 split at h
 ·split at h
  ·rename_i c
   cases h
   exact OpR.imp aS7 fun vx vy H Q ⟨Hf,s,r1,r2,k⟩=>⟨_,_,r1,r2,c,k _ H Hf (Grow.refl s) rfl⟩
  ·cases h
 ·cases h
theorem bN6:OpD X (binaryOp .Mod) X4:=fun x y z h=>by
 unfold X4 at h
 split at h
 ·split at h
  ·rename_i c
   cases h
   exact OpR.imp bM9 fun vx vy H Q ⟨Hf,s,r1,r2,k⟩=>⟨_,_,r1,r2,c,k _ H Hf (Grow.refl s) rfl⟩
  ·cases h
 ·cases h
theorem bd5:OpR X (binaryOp .Add) (fun x y H Q=>∃a b ys,x=.ref a/\y=.ref b/\SqT X.K H a []/\SqT X.K H b ys/\Q (.ref b) H):=by
 intro pins s σ H x y v u Q I rx ry h
 obtain⟨a,b,ys,rfl,rfl,ha,hb,q⟩:=h
 cases rx
 cases ry
 obtain⟨its,r1,p1,_⟩:=I.tuple ha
 obtain⟨its2,r2,p2,_⟩:=I.tuple hb
 cases r1
 obtain⟨⟨cls,dd,data,sl⟩,ho,hc,n,hd⟩:=id p1
 obtain⟨⟨cls2,dd2,data2,sl2⟩,ho2,hc2,n2,hd2⟩:=id p2
 simp only at hc hd hc2 hd2
 subst hc hd hc2 hd2
 exact concat_meets ⟨_,ho,rfl⟩ ⟨_,ho2,rfl⟩ noFill_tuple_add seq_tuple_add PySem.F.slot_tuple_add PySem.F.entry_tuple_add (PySem.F.args_tuple_add_2 _ _)
   (tuple_addW0 a b _ its2.toArray n n2 dd dd2 sl sl2 (by rfl)) ⟨ho,ho2,⟨.ref b,H,I,rfl,q⟩⟩
noncomputable def a9(x y:D):Option D:=match x,y with
 | .tuple xs,.tuple ys=>if xs.length+ys.length<=16777216 then some (.tuple (xs++ys)) else none
 | .str a,.str b=>if a.length+b.length<=16777216 then some (.str (a++b)) else none
 | .int i,.int j=>some (.int (i+j))
 | .bool a,.int j=>some (.int ((if a=true then 1 else 0)+j))
 | _,_=>none
theorem be4:OpD X (binaryOp .Add) a9:=fun x y z h=>by
 unfold a9 at h
 split at h
 ·split at h
  ·rename_i xs ys c
   cases h
   cases xs with
   | nil =>
    refine OpR.imp bd5 fun vx vy H Q ⟨Hf,s,r1,r2,k⟩=>?_
    obtain⟨a,vs,rfl,h2,h3⟩:=r1
    obtain⟨b,us,rfl,h5,h6⟩:=r2
    cases h3
    exact⟨a,b,us,rfl,rfl,C5 s h2,C5 s h5,k _ H Hf (Grow.refl s) ⟨b,us,rfl,h5,h6⟩⟩
   | cons d0 ds0 =>
    refine OpR.imp bv4 fun vx vy H Q ⟨Hf,s,r1,r2,k⟩=>?_
    obtain⟨a,vs,rfl,h2,h3⟩:=r1
    obtain⟨b,us,rfl,h5,h6⟩:=r2
    have l1:=h3.length
    have l2:=h6.length
    refine⟨a,b,vs,us,rfl,rfl,C5 s h2,C5 s h5,?_,by rw[sizeLine_eq];grind,fun e=>?_,fun e p hp=>?_⟩
    ·intro e;subst e;simp at l1
    ·subst e
     have:ys=[]:=by cases ys<;>simp_all
     subst this
     exact k _ H Hf (Grow.refl s) ⟨a,vs,rfl,h2,by rw[List.append_nil];exact h3⟩
    ·exact k _ _ _ (Grow.laid s hp) ⟨p,vs++us,rfl,SqT.of A5,(h3.append h6).mono (C6 (s.free hp))⟩
  ·cases h
 ·split at h
  ·rename_i c
   cases h
   exact OpR.imp aH1 fun vx vy H Q ⟨Hf,s,r1,r2,k⟩=>⟨_,_,r1,r2,by rw[sizeLine_eq];exact c,k _ H Hf (Grow.refl s) rfl⟩
  ·cases h
 ·cases h
  exact OpR.imp bd6 fun vx vy H Q ⟨Hf,s,r1,r2,k⟩=>⟨_,_,r1,r2,k _ H Hf (Grow.refl s) rfl⟩
 ·cases h
  intro pins s σ H vx vy v u Q I rx ry ⟨Hf,ss,r1,r2,k⟩
  cases r1;cases r2
  obtain⟨t,rfl⟩:=ry
  obtain rfl:v=Value.bool _:=rx
  exact PySem.IntBool.add_bool_int ⟨.int _,H,I.tok _,⟨_,rfl⟩,k _ H Hf (Grow.refl ss) rfl⟩
 ·cases h
noncomputable def ltI(x y:D):Option D:=match x,y with
 | .int i,.int j=>some (.bool (decide (i < j)))
 | _,_=>none
noncomputable def leI(x y:D):Option D:=match x,y with
 | .int i,.int j=>some (.bool (decide (i<=j)))
 | _,_=>none
noncomputable def gtI(x y:D):Option D:=match x,y with
 | .int i,.int j=>some (.bool (decide (j < i)))
 | _,_=>none
noncomputable def geI(x y:D):Option D:=match x,y with
 | .int i,.int j=>some (.bool (decide (j<=i)))
 | _,_=>none
theorem ca4:OpD X (compareOp .Lt) ltI:=fun x y z h=>by
 unfold ltI at h
 split at h
 ·cases h
  exact OpR.imp bZ7 fun vx vy H Q ⟨Hf,s,r1,r2,k⟩=>⟨_,_,r1,r2,k _ H Hf (Grow.refl s) rfl⟩
 ·cases h
theorem ca5:OpD X (compareOp .LtE) leI:=fun x y z h=>by
 unfold leI at h
 split at h
 ·cases h
  exact OpR.imp bZ8 fun vx vy H Q ⟨Hf,s,r1,r2,k⟩=>⟨_,_,r1,r2,k _ H Hf (Grow.refl s) rfl⟩
 ·cases h
theorem ca7:OpD X (compareOp .Gt) gtI:=fun x y z h=>by
 unfold gtI at h
 split at h
 ·cases h
  exact OpR.imp ca0 fun vx vy H Q ⟨Hf,s,r1,r2,k⟩=>⟨_,_,r1,r2,k _ H Hf (Grow.refl s) rfl⟩
 ·cases h
theorem ca8:OpD X (compareOp .GtE) geI:=fun x y z h=>by
 unfold geI at h
 split at h
 ·cases h
  exact OpR.imp ca1 fun vx vy H Q ⟨Hf,s,r1,r2,k⟩=>⟨_,_,r1,r2,k _ H Hf (Grow.refl s) rfl⟩
 ·cases h
mutual
theorem Rep.reads(I:Inv X pins σ H s):∀{d:D}{v:V}{u:Value},Rep X.K H d v->B6 v u->∃as,Reads s.heap u d as
 | .none,_,_,h,r=>by cases h;cases r;exact⟨_,.none⟩
 | .bool b,_,_,h,r=>by cases h;cases r;exact⟨_,.bool b⟩
 | .int i,_,_,h,r=>by cases h;obtain⟨t,rfl⟩:=r;exact⟨_,.int i t⟩
 | .str x,_,_,h,r=>by cases h;obtain⟨t,rfl⟩:=r;exact⟨_,.str x t⟩
 | .tuple ds,_,_,⟨a,vs,h1,h2,h3⟩,r=>by
  subst h1;cases r
  obtain⟨its,rv,⟨o,ho,hc,n,hd⟩,_⟩:=I.tuple h2
  obtain⟨as,q⟩:=Reps.reads I h3 rv
  exact⟨_,.tuple ho hc hd (by simpa using q)⟩
 | .list ds,_,_,⟨a,vs,h1,h2,h3⟩,r=>by
  subst h1;cases r
  obtain⟨its,rv,pl,_⟩:=I.list h2
  obtain⟨o,ho,hc,n,hd⟩:=pl.isList
  obtain⟨as,q⟩:=Reps.reads I h3 rv
  exact⟨_,.list ho hc hd (by simpa using q)⟩
 | .dict kvs,_,_,⟨a,m,h1,h2,h3⟩,r=>by
  subst h1;cases r
  obtain⟨_,_,vs,rk,o,es,ep,ho,hx,hd,_,hp,_⟩:=(show N8 X.prog X.w H s.heap a (.dK m) from I.hok a _ h2)
  obtain⟨as,bs,q1,q2⟩:=RepKs.reads I h3 rk hp
  exact⟨_,.dict ho hx.1 hd q1 q2⟩
theorem RepKs.reads(I:Inv X pins σ H s):∀{kvs:List (D×D)}{m:List (Key×V)}{vs:List (Key×Value)}{es:List DictEntry},RepKs X.K H kvs m->KV m vs->Pairs (K1 X.prog X.w) es vs ->
  ∃as bs,ReadsAll s.heap (es.map (·.key)) (kvs.map (·.1)) as/\ReadsAll s.heap (es.map (·.val)) (kvs.map (·.2)) bs
 | [],_,_,_,h,r,p=>by cases h;cases r;cases p;exact⟨_,_,.nil,.nil⟩
 | (k,d)::kvs,_,_,_,⟨x,v,t,h1,h2,h3,h4⟩,r,p=>by
  subst h1 h2
  cases r with
  | @cons _ b _ bs r1 r2 =>
   cases p with
   | @cons e kv es _ p1 p2 p3 =>
    obtain⟨as,cs,q1,q2⟩:=RepKs.reads I h4 r2 p3
    obtain⟨r1,r3⟩:=r1
    rw[← p2]at r3
    obtain⟨ds,q3⟩:=Rep.reads I h3 r3
    rw[← r1]at p1
    have hk:∃t,e.key=.str x t:=Value.isStrOf_shape (x:=x) (v:=e.key) p1
    obtain⟨t,hk⟩:=hk
    refine⟨_,_,.cons (as:=[]) ?_ q1,.cons q3 q2⟩
    show Reads s.heap e.key (.str x) []
    rw[hk];exact .str x t
theorem Reps.reads(I:Inv X pins σ H s):∀{ds:List D}{vs:List V}{us:List Value},Reps X.K H ds vs->B9 vs us->∃as,ReadsAll s.heap us ds as
 | [],_,_,h,r=>by cases h;cases r;exact⟨_,.nil⟩
 | d::ds,_,_,⟨v,vr,h1,h2,h3⟩,r=>by
  subst h1
  cases r with
  | cons r1 r2 =>
   obtain⟨as,q1⟩:=Rep.reads I h2 r1
   obtain⟨bs,q2⟩:=Reps.reads I h3 r2
   exact⟨_,.cons q1 q2⟩
end
noncomputable def eqD(x y:D):Option D:=if SeqAt.shaped x=true/\SeqAt.shaped y=true then some (.bool (PyData.eqv x y)) else none
noncomputable def neD(x y:D):Option D:=if SeqAt.shaped x=true/\SeqAt.shaped y=true then some (.bool (!PyData.eqv x y)) else none
theorem ap9(hu:X.A.units+64 < cLine):OpD X (compareOp .Eq) eqD:=fun x y z h=>by
 unfold eqD at h
 split at h
 ·rename_i c
  cases h
  intro pins s σ H vx vy v u Q I rx ry ⟨Hf,ss,r1,r2,k⟩
  obtain⟨as,q1⟩:=Rep.reads I (r1.mono ss) rx
  obtain⟨bs,q2⟩:=Rep.reads I (r2.mono ss) ry
  exact eq_dataH q1 q2 c.1 c.2 hu ⟨.bl _,H,I,rfl,k _ H Hf (Grow.refl ss) rfl⟩
 ·cases h
theorem bD3(hu:X.A.units+64 < cLine):OpD X (compareOp .NotEq) neD:=fun x y z h=>by
 unfold neD at h
 split at h
 ·rename_i c
  cases h
  intro pins s σ H vx vy v u Q I rx ry ⟨Hf,ss,r1,r2,k⟩
  obtain⟨as,q1⟩:=Rep.reads I (r1.mono ss) rx
  obtain⟨bs,q2⟩:=Rep.reads I (r2.mono ss) ry
  exact ne_dataH q1 q2 c.1 c.2 hu ⟨.bl _,H,I,rfl,k _ H Hf (Grow.refl ss) rfl⟩
 ·cases h
noncomputable def isN(x y:D):Option D:=match x,y with
 | .none,.none=>some (.bool true)
 | _,.none=>some (.bool false)
 | _,_=>none
theorem aM0{K:PySem.W.Frag}{H:Hp}{d:D}{v:V}(h:Rep K H d v):(decide (v=.non))=(match d with | .none=>true|_=>false):=by
 cases d with
 | none=>cases h;rfl
 | bool b=>cases h;rfl
 | int b=>cases h;rfl
 | str b=>cases h;rfl
 | tuple ds=>obtain⟨a,vs,rfl,_⟩:=h;rfl
 | list ds=>obtain⟨a,vs,rfl,_⟩:=h;rfl
 | dict ds=>obtain⟨a,m,rfl,_⟩:=h;rfl
theorem be3:OpD X (compareOp .Is) isN:=fun x y z h=>by
 refine OpR.imp bN0 fun vx vy H Q ⟨Hf,s,r1,r2,k⟩=>?_
 have e:=aM0 r1
 cases y<;>cases x<;>simp only[isN,Option.some.injEq,reduceCtorEq]at h <;>
  (subst h;simp only at e;rw[e];exact⟨r2,k _ H Hf (Grow.refl s) rfl⟩)
noncomputable def bO2(x y:D):Option D:=match x,y with
 | .none,.none=>some (.bool false)
 | _,.none=>some (.bool true)
 | _,_=>none
theorem bw2:OpD X (compareOp .IsNot) bO2:=fun x y z h=>by
 refine OpR.imp bv1 fun vx vy H Q ⟨Hf,s,r1,r2,k⟩=>?_
 have e:=aM0 r1
 cases y<;>cases x<;>simp only[bO2,Option.some.injEq,reduceCtorEq]at h <;>
  (subst h;simp only at e;rw[e];exact⟨r2,k _ H Hf (Grow.refl s) rfl⟩)
noncomputable def X9(h1 h2:D->D->Option D) (f g k:DE):DE:=fun ρ=>(f ρ).bind fun x=>(g ρ).bind fun y=>(h1 x y).bind fun z=>match z with
 | .bool true=>(k ρ).bind fun w=>h2 y w
 | .bool false=>some (.bool false)
 | _=>none
theorem bi5(o1:OpD X (compareOp op) h1) (o2:OpD X (compareOp op') h2) (ha:JE X a f) (hb:JE X b g) (hc:JE X c k)
  (hm:lastMarks [op,op'] [b,c]=false:=by with_unfolding_all rfl):JE X (.Compare a [op,op'] [b,c] pos) (X9 h1 h2 f g k):=fun ρ d q=>by
 obtain⟨x,e1,q⟩:=xbm q
 obtain⟨y,e2,q⟩:=xbm q
 obtain⟨z,e3,q⟩:=xbm q
 split at q
 ·obtain⟨w,e4,e5⟩:=xbm q
  refine B0 (ay8 (o1 x y _ e3) (o2 y w d e5) (ha ρ x e1) (hb ρ y e2) (hc ρ w e4) hm) fun σ H Q ⟨H0,Hf,s,sl,kk⟩=>?_
  refine⟨H0,Hf,s,sl,fun v H1 Hf1 g1 r1=>⟨H0,Hf1,g1.sub,sl.grow g1,fun u H2 Hf2 g2 r2=>⟨Hf2,g2.sub,r1.mono g2.ext,r2,fun z' H3 Hf3 g3 r3=>?_⟩⟩⟩
  refine⟨true,r3,aa3 ⟨H0,Hf3,g3.sub,sl.grow ((g1.trans g2).trans g3),fun w' H4 Hf4 g4 r4=>⟨Hf4,g4.sub,r2.mono (g3.trans g4).ext,r4,fun z2 H5 Hf5 g5 r5=>?_⟩⟩⟩
  exact kk z2 H5 Hf5 ((((g1.trans g2).trans g3).trans g4).trans g5) r5
 ·cases q
  intro pins s σ H Q I ⟨H0,Hf,ss,sl,kk⟩
  refine ay8 (tc:=fun _ _ _=>False) (r':=fun _ _ _ _=>False) (o1 x y _ e3) (fun _ _ _ _ _ _ _ _ _ _ _ _ h=>h.elim) (ha ρ x e1) (hb ρ y e2) (fun _ _ _ _ _ _ h=>h.elim) hm pins s σ H Q I ?_
  refine⟨H0,Hf,ss,sl,fun v H1 Hf1 g1 r1=>⟨H0,Hf1,g1.sub,sl.grow g1,fun u H2 Hf2 g2 r2=>⟨Hf2,g2.sub,r1.mono g2.ext,r2,fun z' H3 Hf3 g3 r3=>?_⟩⟩⟩
  exact⟨false,r3,aa4 (kk _ H3 Hf3 ((g1.trans g2).trans g3) rfl)⟩
 ·cases q
theorem bQ4(h:JE X a f):JE X (.BoolOp op [a] pos) f:=fun ρ d q=>bL3 (h ρ d q)
noncomputable def bz7(f g:DE):DE:=fun ρ=>(f ρ).bind fun x=>match x with
 | .bool true=>g ρ
 | .bool false=>some (.bool false)
 | _=>none
noncomputable def dOr(f g:DE):DE:=fun ρ=>(f ρ).bind fun x=>match x with
 | .bool true=>some (.bool true)
 | .bool false=>g ρ
 | .none=>g ρ
 | .tuple (y::r)=>some (.tuple (y::r))
 | _=>none
theorem bc1{a b:Expr}{P4:List Expr}{pos:Pos}{ta tb:TE}(ha:PE X a ta) (hb:PE X (.BoolOp .Or (b::P4) pos) tb):PE X (.BoolOp .Or (a::b::P4) pos) (fun σ H Q=>ta σ H fun x H1=>∃k,bU7 X.K x H1 k/\if k=true then Q x H1 else tb σ H1 Q):=by
 intro pins s σ H Q I h
 refine BoolOp_or (thn (ha pins s σ H _ I h) fun v s1 ⟨x,H1,I1,r1,k,tk,q1⟩=>?_)
 refine thn (aZ0 pins s1 σ H1 x v (fun c H2=>c=k/\H2=H1) I1 r1 ⟨k,tk,rfl,rfl⟩) fun c s2 ⟨H2,I2,e1,e2⟩=>?_
 subst e1 e2
 cases c with
 | false=>exact hb pins s2 σ _ Q I2 q1
 | true=>exact⟨x,_,I2,r1,q1⟩
noncomputable def bT0(f:DE):DE:=fun ρ=>(f ρ).bind fun x=>match x with
 | .bool c=>some (.bool (!c))
 | _=>none
theorem bR0{a b:Expr}{P4:List Expr}{f g:DE}{pos:Pos}(ha:JE X a f) (hb:JE X (.BoolOp .And (b::P4) pos) g):JE X (.BoolOp .And (a::b::P4) pos) (bz7 f g):=fun ρ d q=>by
 obtain⟨x,e1,q⟩:=xbm q
 split at q
 ·refine B0 (bc8 (ha ρ _ e1) (hb ρ d q)) fun σ H Q ⟨H0,Hf,s,sl,k⟩=>⟨H0,Hf,s,sl,fun v H1 Hf1 g1 r1=>⟨true,r1,aa3 ⟨H0,Hf1,g1.sub,sl.grow g1,fun u H2 Hf2 g2 r2=>k u H2 Hf2 (g1.trans g2) r2⟩⟩⟩
 ·cases q
  refine B0 (bc8 (tb:=fun _ _ _=>False) (ha ρ _ e1) (fun _ _ _ _ _ _ h=>h.elim)) fun σ H Q ⟨H0,Hf,s,sl,k⟩=>⟨H0,Hf,s,sl,fun v H1 Hf1 g1 r1=>⟨false,r1,aa4 (k _ H1 Hf1 g1 rfl)⟩⟩
 ·cases q
theorem cd0{a b:Expr}{P4:List Expr}{f g:DE}{pos:Pos}(ha:JE X a f) (hb:JE X (.BoolOp .Or (b::P4) pos) g):JE X (.BoolOp .Or (a::b::P4) pos) (dOr f g):=fun ρ d q=>by
 obtain⟨x,e1,q⟩:=xbm q
 split at q
 ·cases q
  refine B0 (bD1 (tb:=fun _ _ _=>False) (ha ρ _ e1) (fun _ _ _ _ _ _ h=>h.elim)) fun σ H Q ⟨H0,Hf,s,sl,k⟩=>⟨H0,Hf,s,sl,fun v H1 Hf1 g1 r1=>⟨true,r1,aa3 (k _ H1 Hf1 g1 rfl)⟩⟩
 ·refine B0 (bD1 (ha ρ _ e1) (hb ρ d q)) fun σ H Q ⟨H0,Hf,s,sl,k⟩=>⟨H0,Hf,s,sl,fun v H1 Hf1 g1 r1=>⟨false,r1,aa4 ⟨H0,Hf1,g1.sub,sl.grow g1,fun u H2 Hf2 g2 r2=>k u H2 Hf2 (g1.trans g2) r2⟩⟩⟩
 ·refine B0 (bc1 (ha ρ _ e1) (hb ρ d q)) fun σ H Q ⟨H0,Hf,s,sl,k⟩=>⟨H0,Hf,s,sl,fun v H1 Hf1 g1 r1=>?_⟩
  cases r1
  exact⟨false,rfl,aa4 ⟨H0,Hf1,g1.sub,sl.grow g1,fun u H2 Hf2 g2 r2=>k u H2 Hf2 (g1.trans g2) r2⟩⟩
 ·cases q
  refine B0 (bc1 (tb:=fun _ _ _=>False) (ha ρ _ e1) (fun _ _ _ _ _ _ h=>h.elim)) fun σ H Q ⟨H0,Hf,s,sl,k⟩=>⟨H0,Hf,s,sl,fun v H1 Hf1 g1 r1=>?_⟩
  obtain⟨p,vs,e,h2,h3⟩:=id r1
  subst e
  refine⟨true,.inr (.inl ⟨vs,C5 g1.sub h2,?_⟩),aa3 (k _ H1 Hf1 g1 r1)⟩
  obtain⟨_,_,e,_⟩:=h3
  subst e;rfl
 ·cases q
theorem bQ5(ha:JE X a f):JE X (.UnaryOp .Not a pos) (bT0 f):=fun ρ d q=>by
 obtain⟨x,e1,q⟩:=xbm q
 split at q
 ·cases q
  exact B0 (bL4 (ha ρ _ e1)) fun σ H Q ⟨H0,Hf,s,sl,k⟩=>⟨H0,Hf,s,sl,fun v H1 Hf1 g1 r1=>⟨_,r1,k _ H1 Hf1 g1 rfl⟩⟩
 ·cases q
noncomputable def aF7:D->Option Bool
 | .none=>some false
 | .bool b=>some b
 | .int i=>some (i != 0)
 | .str x=>if x.length<=16777216 then some ((x.length:Int) != 0) else none
 | .list ds=>some (!ds.isEmpty)
 | .tuple ds=>some (!ds.isEmpty)
 | .dict _=>none
noncomputable def as4(f:DE):Rho->Option Bool:=fun ρ=>(f ρ).bind aF7
theorem au9(ha:JE X a f) (he:∀whole,isTrue a X.env whole=(do let v ← whole;standAt a.pos;holding [v] (truthy v)):=by intro _;rfl):JT X a (as4 f):=fun ρ c q=>by
 obtain⟨d,e1,e2⟩:=xbm q
 refine Z6 (bb3 (ha ρ d e1) he) fun σ H Q ⟨H0,Hf,s,sl,k⟩=>⟨H0,Hf,s,sl,fun v H1 Hf1 g1 r1=>⟨c,?_,k H1 Hf1 g1⟩⟩
 cases d with
 | none=>cases e2;cases r1;rfl
 | bool b=>cases e2;cases r1;rfl
 | int i=>cases e2;cases r1;rfl
 | str x =>
  simp only[aF7]at e2
  split at e2
  ·rename_i hx;cases e2;cases r1;exact⟨by rw[sizeLine_eq];exact hx,rfl⟩
  ·cases e2
 | list ds =>
  cases e2
  obtain⟨a,vs,rfl,h2,h3⟩:=r1
  refine .inl ⟨vs,K6 g1.sub h2,?_⟩
  have:=h3.length
  cases ds<;>cases vs<;>simp_all
 | tuple ds =>
  cases e2
  obtain⟨a,vs,rfl,h2,h3⟩:=r1
  refine .inr (.inl ⟨vs,C5 g1.sub h2,?_⟩)
  have:=h3.length
  cases ds<;>cases vs<;>simp_all
 | dict _=>cases e2
noncomputable def R7:D->Option Bool
 | .bool b=>some b
 | _=>none
noncomputable def tB2(h:D->D->Option D) (f g:DE):Rho->Option Bool:=fun ρ=>(A9 h f g ρ).bind R7
theorem aQ5(h:R7 d=some c):d=.bool c:=by
 cases d<;>simp[R7]at h
 subst h;rfl
theorem bg6(o:OpD X (compareOp op) h) (ha:JE X a f) (hb:JE X b g) (hm:behindInMarks op b=false:=by first|exact au6 _|rfl):JT X (.Compare a [op] [b] pos) (tB2 h f g):=fun ρ c q=>by
 obtain⟨d,q,e⟩:=xbm q
 obtain⟨x,h1,q⟩:=xbm q
 obtain⟨y,h2,h3⟩:=xbm q
 have:=aQ5 e
 subst this
 refine Z6 (aM3 (o x y _ h3) (ha ρ x h1) (hb ρ y h2) hm) fun σ H Q ⟨H0,Hf,s,sl,k⟩=>?_
 refine⟨H0,Hf,s,sl,fun v H1 Hf1 g1 r1=>⟨H0,Hf1,g1.sub,sl.grow g1,fun u H2 Hf2 g2 r2=>?_⟩⟩
 exact⟨Hf2,g2.sub,r1.mono g2.ext,r2,fun w H3 Hf3 g3 r3=>⟨c,r3,k H3 Hf3 ((g1.trans g2).trans g3)⟩⟩
noncomputable def ap0(f g:Rho->Option Bool):Rho->Option Bool:=fun ρ=>(f ρ).bind fun c=>if c then g ρ else some false
noncomputable def as5(f g:Rho->Option Bool):Rho->Option Bool:=fun ρ=>(f ρ).bind fun c=>if c then some true else g ρ
noncomputable def ax8(f:Rho->Option Bool):Rho->Option Bool:=fun ρ=>(f ρ).map fun c=>!c
theorem at7(h:PW X e t) (i:∀σ H Q,t' σ H Q->t σ H Q):PW X e t':=fun whole pins s σ H Q I q=>h whole pins s σ H Q I (i σ H Q q)
theorem aB4(h:JW X e f):JT X e f:=fun ρ c q=>(h ρ c q).pt
theorem bw6(h:JT X a f):JW X (.BoolOp .And [a] pos) f:=fun ρ c q=>bt2 (h ρ c q)
theorem bP2(h:JT X a f):JW X (.BoolOp .Or [a] pos) f:=fun ρ c q=>bK4 (h ρ c q)
theorem bP3{a b:Expr}{P4:List Expr}{f g:Rho->Option Bool}{pos:Pos}(ha:JT X a f) (hb:JW X (.BoolOp .And (b::P4) pos) g):JW X (.BoolOp .And (a::b::P4) pos) (ap0 f g):=fun ρ c q=>by
 obtain⟨x,e1,q⟩:=xbm q
 cases x with
 | true=>exact at7 (bb2 (ha ρ _ e1) (hb ρ c (by simpa using q))) fun σ H Q ⟨H0,Hf,s,sl,k⟩=>⟨H0,Hf,s,sl,fun H1 Hf1 g1=>aa3 ⟨H0,Hf1,g1.sub,sl.grow g1,fun H2 Hf2 g2=>k H2 Hf2 (g1.trans g2)⟩⟩
 | false =>
  have:c=false:=by simpa using q.symm
  subst this
  exact at7 (bb2 (tB':=fun _ _ _=>False) (ha ρ _ e1) (fun _ _ _ _ _ _ _ h=>h.elim)) fun σ H Q ⟨H0,Hf,s,sl,k⟩=>⟨H0,Hf,s,sl,fun H1 Hf1 g1=>aa4 (k H1 Hf1 g1)⟩
theorem cc4{a b:Expr}{P4:List Expr}{f g:Rho->Option Bool}{pos:Pos}(ha:JT X a f) (hb:JW X (.BoolOp .Or (b::P4) pos) g):JW X (.BoolOp .Or (a::b::P4) pos) (as5 f g):=fun ρ c q=>by
 obtain⟨x,e1,q⟩:=xbm q
 cases x with
 | false=>exact at7 (bC9 (ha ρ _ e1) (hb ρ c (by simpa using q))) fun σ H Q ⟨H0,Hf,s,sl,k⟩=>⟨H0,Hf,s,sl,fun H1 Hf1 g1=>aa4 ⟨H0,Hf1,g1.sub,sl.grow g1,fun H2 Hf2 g2=>k H2 Hf2 (g1.trans g2)⟩⟩
 | true =>
  have:c=true:=by simpa using q.symm
  subst this
  exact at7 (bC9 (tB':=fun _ _ _=>False) (ha ρ _ e1) (fun _ _ _ _ _ _ _ h=>h.elim)) fun σ H Q ⟨H0,Hf,s,sl,k⟩=>⟨H0,Hf,s,sl,fun H1 Hf1 g1=>aa3 (k H1 Hf1 g1)⟩
theorem av0(ha:JT X a f):JT X (.UnaryOp .Not a pos) (ax8 f):=fun ρ c q=>by
 obtain⟨x,e1,e2⟩:=Option.map_eq_some_iff.mp q
 subst e2
 exact Z6 (bK5 (ha ρ x e1)) fun σ H Q ⟨H0,Hf,s,sl,k⟩=>⟨H0,Hf,s,sl,fun H1 Hf1 g1=>k H1 Hf1 g1⟩
noncomputable def X8(t:Rho->Option Bool) (f g:DE):DE:=fun ρ=>(t ρ).bind fun c=>if c then f ρ else g ρ
theorem bQ8(hc:JT X c t) (ha:JE X a f) (hb:JE X b g):JE X (.IfExp c a b pos) (X8 t f g):=fun ρ d q=>by
 obtain⟨x,e1,q⟩:=xbm q
 cases x with
 | true=>exact B0 (ab5 (tb:=fun _ _ _=>False) (hc ρ _ e1) (ha ρ d (by simpa using q)) (fun _ _ _ _ _ _ h=>h.elim)) fun σ H Q ⟨H0,Hf,s,sl,k⟩=>⟨H0,Hf,s,sl,fun H1 Hf1 g1=>aa3 ⟨H0,Hf1,g1.sub,sl.grow g1,fun u H2 Hf2 g2 r2=>k u H2 Hf2 (g1.trans g2) r2⟩⟩
 | false=>exact B0 (ab5 (ta:=fun _ _ _=>False) (hc ρ _ e1) (fun _ _ _ _ _ _ h=>h.elim) (hb ρ d (by simpa using q))) fun σ H Q ⟨H0,Hf,s,sl,k⟩=>⟨H0,Hf,s,sl,fun H1 Hf1 g1=>aa4 ⟨H0,Hf1,g1.sub,sl.grow g1,fun u H2 Hf2 g2 r2=>k u H2 Hf2 (g1.trans g2) r2⟩⟩
noncomputable def dIx(f:Rho->Option (Bool×List D)) (g:DE):DE:=fun ρ=>(f ρ).bind fun q=>(g ρ).bind fun i=>match i with
 | .int i=>atI q.2 i
 | _=>none
theorem bs5{K:PySem.W.Frag}{H:Hp}{ds:List D}{vs:List V}{i:Int}{d:D}(h:Reps K H ds vs) (e:atI ds i=some d):∃v,atI vs i=some v/\Rep K H d v:=by
 unfold atI at e ⊢
 rw[h.length]
 obtain⟨j,h1,h2⟩:=xbm e
 obtain⟨v,h3,h4⟩:=h.get h2
 exact⟨v,by rw[h1];exact h3,h4⟩
theorem bi0{a b:Expr}{f:Rho->Option (Bool×List D)}{g:DE}{pos:Pos}(ha:JQ X a f) (hb:JE X b g) (hs:aj7 b:=by intro _ _;rfl):JE X (.Subscript a b pos) (dIx f g):=fun ρ d q=>by
 obtain⟨⟨t,ds⟩,h1,q⟩:=xbm q
 obtain⟨y,h2,h3⟩:=xbm q
 split at h3
 ·refine B0 (bZ4 bR3 (ha ρ t ds h1) (hb ρ _ h2) hs) fun σ H Q ⟨H0,Hf,s,sl,k⟩=>?_
  refine⟨H0,Hf,s,sl,fun v H1 Hf1 g1 ⟨p,vs,e1,e2,e3⟩=>⟨H0,Hf1,g1.sub,sl.grow g1,fun u H2 Hf2 g2 r2=>?_⟩⟩
  obtain⟨w,q1,q2⟩:=bs5 (e3.mono g2.ext) h3
  cases t with
  | true=>exact .inr (.inl ⟨p,vs,_,w,e1,r2,C5 g2.big e2,q1,k w H2 Hf2 (g1.trans g2) q2⟩)
  | false=>exact .inl ⟨p,vs,_,w,e1,r2,K6 g2.big e2,q1,k w H2 Hf2 (g1.trans g2) q2⟩
 ·cases h3
noncomputable def af0(xs:List D) (lo hi:Option Int):List D:=(xs.drop (HT.sIx xs.length 0 lo)).take (HT.sIx xs.length xs.length hi - HT.sIx xs.length 0 lo)
theorem ay2{K:PySem.W.Frag}{H:Hp}{ds:List D}{vs:List V}(h:Reps K H ds vs) (lo hi:Option Int):Reps K H (af0 ds lo hi) (aD0 vs lo hi):=by
 unfold af0 aD0
 rw[h.length]
 exact(h.drop _).take _
noncomputable def JO(X:Cx) (e:Option Expr) (f:Rho->Option (Option Int)):Prop:=∀ρ o,f ρ=some o->PO X e (fun σ H Q=>∃H0 Hf,B3 Hf H/\Slots X.K H0 ρ σ H Hf/\∀H' Hf',Grow H Hf H' Hf'->Q o H')
noncomputable def W6:Rho->Option (Option Int):=fun _=>some none
noncomputable def bi9:D->Option Int
 | .int i=>some i
 | _=>none
noncomputable def W5(f:DE):Rho->Option (Option Int):=fun ρ=>(f ρ).bind fun d=>(bi9 d).map some
theorem bx5:JO X none W6:=fun ρ o q=>by
 cases q
 intro pins s σ H Q I ⟨H0,Hf,ss,sl,k⟩
 exact bt9 pins s σ H Q I (k H Hf (Grow.refl ss))
theorem bx4(h:JE X e f):JO X (some e) (W5 f):=fun ρ o q=>by
 obtain⟨d,e1,e2⟩:=xbm q
 obtain⟨i,e3,e4⟩:=Option.map_eq_some_iff.mp e2
 subst e4
 cases d<;>simp[bi9]at e3
 subst e3
 intro pins s σ H Q I ⟨H0,Hf,ss,sl,k⟩
 exact bt8 (h ρ _ e1) pins s σ H Q I ⟨H0,Hf,ss,sl,fun v H1 Hf1 g1 r1=>⟨_,r1,k H1 Hf1 g1⟩⟩
noncomputable def av9(f:DE) (lo hi:Rho->Option (Option Int)):DE:=fun ρ=>(f ρ).bind fun d=>(lo ρ).bind fun l=>(hi ρ).bind fun h=>match d with
 | .tuple xs=>some (.tuple (af0 xs l h))
 | _=>none
theorem t4{prog:Program}{w:World}{A:Around}{E:Value->Shared->Prop}{s:Shared}{t sl:Addr}{items:Array Value}{vl vu:Value}{lo hi:Option Int}{Q:Value->Shared->Prop}(ht:IsTup s.heap t items) (hs:s.heap.IsSliceOf sl vl vu .none) (pl:IsPart vl lo) (pu:IsPart vu hi)
  (hw:HT.sIx items.size 0 lo=0/\HT.sIx items.size items.size hi=items.size) (h:Q (.ref t) s):wpAny (model prog w) A (getItem (.ref t) (.ref sl)) Q E s:=by
 obtain⟨os,hos,hcs,hds⟩:=id hs
 have hTs:s.TypeIs (.ref sl) "slice" := ⟨os,hos,hcs⟩
 unfold getItem
 try with_reducible refine wpAny_holding ?_
 first|refine wpAny_bind (wpAny_pure ?_)|skip
 refine wpAny_bind (wpAny_sequenceKey ht.typeIs (by decide) ?_)
 refine wpAny_bind (wpAny_callSpecial?_slot (name:=Str.ofString "__getitem__") ht.typeIs PyProof.Rows.slot_tuple_getitem
  (wpAny_call_entry PyProof.Rows.slot_tuple_getitem ht.typeIs entry_tuple_getitem ?_ (args_tuple_getitem _ _)))
 show wpAny _ _ (Builtin.Tuple.tupleItemsOf (.ref t) >>= _) _ _ s
 refine wpAny_bind (tupleItemsOf_ ht ?_)
 refine wpAny_bind (wpAny_typeOf hTs ?_)
 rw[if_pos (by decide)]
 refine wpAny_bind (HT.sliceApplied_gen hs pl pu ?_)
 have hyes:((((HT.sIx items.size 0 lo:Nat):Int)==0&&(1:Int)==1&&(HT.sIx items.size items.size hi - HT.sIx items.size 0 lo)==items.size)=true):=by
  rw[hw.1,hw.2];simp
 show wpAny _ _ (if(((HT.sIx items.size 0 lo:Nat):Int)==0&&(1:Int)==1&&(HT.sIx items.size items.size hi - HT.sIx items.size 0 lo)==items.size)=true then _ else _) _ _ s
 rw[if_pos hyes]
 unfold Builtin.Tuple.tupleIsExact
 refine wpAny_bind (wpAny_bind (wpAny_typeOf ht.typeIs (wpAny_pure ?_)))
 rw[if_pos (by decide +kernel)]
 exact wpAny_bind (wpAny_rule (wpAny_pure ⟨_,rfl,wpAny_pure h⟩))
theorem at1:SlR X (fun x lo hi H Q=>∃a xs,x=.ref a/\SqT X.K H a xs/\(HT.sIx xs.length 0 lo=0/\HT.sIx xs.length xs.length hi=xs.length)/\Q (.ref a) H):=by
 intro pins s σ H x v vl vu lo hi sl Q I rx hs pl pu h
 obtain⟨a,xs,rfl,hx,hw,q⟩:=h
 cases rx
 obtain⟨its,r,ht,hz⟩:=I.tuple hx
 have hlen:its.toArray.size=xs.length:=by rw[List.size_toArray];exact r.length.symm
 refine⟨"tuple", _,PyProof.Rows.slot_tuple_getitem.lookup,ht.typeIs,?_⟩
 exact t4 ht hs pl pu (by rw[hlen];exact hw) ⟨.ref a,H,I,rfl,q⟩
theorem bh8{a:Expr}{lo hi:Option Expr}{f:DE}{l h:Rho->Option (Option Int)}{pos p2:Pos}(ha:JE X a f) (hl:JO X lo l) (hh:JO X hi h):JE X (.Subscript a (.Slice lo hi none p2) pos) (av9 f l h):=fun ρ d q=>by
 obtain⟨x,e1,q⟩:=xbm q
 obtain⟨y,e2,q⟩:=xbm q
 obtain⟨z,e3,q⟩:=xbm q
 cases x with
 | tuple xs =>
  cases q
  refine B0 (ay5 (bJ4.or at1) (ha ρ _ e1) (hl ρ y e2) (hh ρ z e3)) fun σ H Q ⟨H0,Hf,s,sl,k⟩=>?_
  refine⟨H0,Hf,s,sl,fun v H1 Hf1 g1 ⟨p,vs,q1,q2,q3⟩=>⟨H0,Hf1,g1.sub,sl.grow g1,fun H2 Hf2 g2=>⟨H0,Hf2,g2.sub,sl.grow (g1.trans g2),fun H3 Hf3 g3=>?_⟩⟩⟩
  subst q1
  have q2':=C5 (g2.trans g3).ext q2
  have q3':=q3.mono (g2.trans g3).ext
  by_cases c:HT.sIx vs.length 0 y=0/\HT.sIx vs.length vs.length z=vs.length
  ·refine .inr ⟨p,vs,rfl,C5 g3.sub q2',c,k _ H3 Hf3 ((g1.trans g2).trans g3) ⟨p,vs,rfl,q2',?_⟩⟩
   have:af0 xs y z=xs:=by
    unfold af0
    rw[← q3.length,c.1,c.2]
    simp[q3.length]
   rw[this];exact q3'
  ·refine .inl ⟨p,vs,rfl,C5 g3.sub q2',c,fun p' hp=>?_⟩
   exact k _ _ _ (((g1.trans g2).trans g3).trans (Grow.laid g3.sub hp)) ⟨p',_,rfl,SqT.of A5,(ay2 q3' y z).mono (C6 (g3.sub.free hp))⟩
 | _=>cases q
end
end G
namespace G
open PySem PySem.Spec PyProof.Rows L2
section
variable {X:Cx}
theorem bU1:bootBuiltins "len" = some (.builtin "len"):=PySem.boot_len
theorem bU2:bootBuiltins "isinstance" = some (.builtin "isinstance"):=by decide +kernel
theorem bn8:bootBuiltins "tuple" = some (.type "tuple"):=by decide +kernel
theorem bT8:bootBuiltins "zip" = some (.type "zip"):=by decide +kernel
noncomputable def l5(f:Rho->Option (Bool×List D)):DE:=fun ρ=>(f ρ).map fun q=>.int q.2.length
theorem bQ6(hg:Gl X "len") (hm:X.mg "len" = none) (h:JQ X e f) (he:starEach [e] X.env=[(false,eval e X.env)]:=by rfl):JE X (.Call (.Name "len" p) [e] [] pos) (l5 f):=fun ρ d q=>by
 obtain⟨⟨t,ds⟩,h1,h2⟩:=Option.map_eq_some_iff.mp q
 subst h2
 refine B0 (Q9 aw3 hg hm bU1 (E2 (h ρ t ds h1) M3 he) (he:=he)) fun σ H Q ⟨H0,Hf,s,sl,k⟩=>?_
 refine⟨H0,Hf,s,sl,fun v H1 Hf1 g1 ⟨a,vs,e1,e2,e3⟩=>⟨a,vs,by rw[e1],?_,?_⟩⟩
 ·cases t with
  | true=>exact .inr e2
  | false=>exact .inl e2
 ·exact k _ H1 Hf1 g1 (by rw[e3.length];rfl)
theorem bh6(hg:Gl X "tuple") (hm:X.mg "tuple" = none) (h:JQ X e f) (hz:∀ρ ds,f ρ≠some (true,ds)\/True:=by intros;exact .inr trivial) (he:starEach [e] X.env=[(false,eval e X.env)]:=by rfl) :
  JE X (.Call (.Name "tuple" p) [e] [] pos) (fun ρ=>(f ρ).bind fun q=>if q.1=true then none else some (.tuple q.2)):=fun ρ d q=>by
 obtain⟨⟨t,ds⟩,h1,h2⟩:=xbm q
 cases t with
 | true=>simp at h2
 | false =>
  simp only[Bool.false_eq_true,if_false,Option.some.injEq]at h2
  subst h2
  refine B0 (ap5 ao7 hg hm bn8 (E2 (h ρ false ds h1) M3 he) (he:=he)) fun σ H Q ⟨H0,Hf,s,sl,k⟩=>?_
  refine⟨H0,Hf,s,sl,fun v H1 Hf1 g1 ⟨a,vs,e1,e2,e3⟩=>⟨a,vs,by rw[e1],.inl ⟨e2,fun l hl=>?_⟩⟩⟩
  exact k _ _ _ (g1.trans (Grow.laid g1.sub hl)) ⟨l,vs,rfl,SqT.of A5,e3.mono (C6 (g1.sub.free hl))⟩
noncomputable def ck0(f:DE):DE:=fun ρ=>(f ρ).bind fun d=>match d with
 | .int i=>some (.int i)
 | .bool b=>some (.int (if b then 1 else 0))
 | _=>none
noncomputable def cf3:List D->Option Bool
 | []=>some true
 | .bool b::r=>(cf3 r).map fun c=>b&&c
 | _::_=>none
noncomputable def ck1(f:Rho->Option (Bool×List D)):DE:=fun ρ=>(f ρ).bind fun q=>if q.1=true then none else(cf3 q.2).map PyData.bool
noncomputable def cd4(T:String) (d:D):Option Bool:=match d with
 | .int _=>(match T with | "int" => some true | "bool" => some false | "str" => some false | "tuple" => some false | "list" => some false|_=>none)
 | .bool _=>(match T with | "int" => some true | "bool" => some true | "str" => some false | "tuple" => some false | "list" => some false|_=>none)
 | .none=>(match T with | "int" => some false | "bool" => some false | "str" => some false | "tuple" => some false | "list" => some false|_=>none)
 | .str _=>(match T with | "int" => some false | "bool" => some false | "str" => some true | "tuple" => some false | "list" => some false|_=>none)
 | .tuple _=>(match T with | "int" => some false | "bool" => some false | "str" => some false | "tuple" => some true | "list" => some false|_=>none)
 | .list _=>(match T with | "int" => some false | "bool" => some false | "str" => some false | "tuple" => some false | "list" => some true|_=>none)
 | _=>none
noncomputable def cj9(T:String) (f:DE):DE:=fun ρ=>(f ρ).bind fun d=>(cd4 T d).map PyData.bool
noncomputable def spF(K:PySem.W.Frag) (n:Nat) (F:List D->Option D):Sp:=fun vs H Q _=>vs.length=n/\∃Hf ds d,B3 Hf H/\Reps K Hf ds vs/\F ds=some d/\∀v H' Hf',Grow H Hf H' Hf'->Rep K Hf' d v->Q v H'
noncomputable def B1(F:List D->Option D) (f:Rho->Option (List D)):DE:=fun ρ=>(f ρ).bind F
theorem aO6(Fk:FnOk X.prog X.w X.K X.mg X.base CX0 k f fd ps (spF X.K n F)) (hr:Room k X.A) (hg:Gl X x) (hm:X.mg x=some (.ref f)) (hk:PySem.W.keepIn X.K (.ref f)=true) (hb:K2 X.K fd ps [])
  (ha:JA X (e::es) g) (hn:(e::es).length=n:=by rfl) (hdb:(x==("__debug__" : Str))=false:=by decide) (he:starEach (e::es) X.env=(false,eval e X.env)::starEach es X.env:=by rfl) (hpl:(backTo pos (starEach es X.env)).any (·.1)=false:=by rfl) :
  JE X (.Call (.Name x p) (e::es) [] pos) (B1 F g):=fun ρ d q=>by
 obtain⟨ds,h1,h2⟩:=xbm q
 refine B0 (aM8 Fk hr hg hm hk hb .nil ap6 (fun pos pins s σ H Q I t=>ha.run ρ ds h1 pos pins s σ H Q I t) hdb he hpl) fun σ H Q ⟨H0,Hf,s,sl,kk⟩=>?_
 refine⟨H0,Hf,s,sl,fun vs H1 Hf1 g1 r1=>⟨?_,Hf1,ds,d,g1.sub,by rw[List.append_nil];exact r1,h2,fun v H2 Hf2 g2 r2=>kk v H2 Hf2 (g1.trans g2) r2⟩⟩
 rw[List.append_nil,r1.length,ha.len ρ ds h1,hn]
inductive Fl where
 | nx (ρ:Rho)
 | rt (d:D)
 | bk (ρ:Rho)
 | ct (ρ:Rho)
noncomputable abbrev DS:=Rho->Option Fl
structure At (K:PySem.W.Frag) (H0 Hf0:Hp) (ρ:Rho) (σ:L2.St) (H Hf:Hp):Prop where
 gr:Grow H0 Hf0 H Hf
 sl:Slots K H0 ρ σ H Hf
noncomputable def Fl.ends(K:PySem.W.Frag) (H0 Hf0 Hf:Hp) (En:Ends):Fl->Prop
 | .nx ρ=>∀σ' H' Hf',At K H0 Hf0 ρ σ' H' Hf'->B3 Hf Hf'->En.nx σ' H'
 | .bk ρ=>∀σ' H' Hf',At K H0 Hf0 ρ σ' H' Hf'->B3 Hf Hf'->En.bk σ' H'
 | .ct ρ=>∀σ' H' Hf',At K H0 Hf0 ρ σ' H' Hf'->B3 Hf Hf'->En.ct σ' H'
 | .rt d=>∀v H' Hf',Grow H0 Hf0 H' Hf'->Rep K Hf' d v->En.rt v H'
noncomputable def tJS(K:PySem.W.Frag) (H0 Hf0:Hp) (ρ:Rho) (fl:Fl):TS:=fun En σ H=>∃Hf,At K H0 Hf0 ρ σ H Hf/\fl.ends K H0 Hf0 Hf En
noncomputable def JS(X:Cx) (st:Stmt) (f:DS):Prop:=∀ρ fl,f ρ=some fl->∀H0 Hf0,PS X st (tJS X.K H0 Hf0 ρ fl)
noncomputable def JSs(X:Cx) (sts:List Stmt) (f:DS):Prop:=∀ρ fl,f ρ=some fl->∀H0 Hf0,PSs X sts (tJS X.K H0 Hf0 ρ fl)
theorem D9{st:Stmt}{t t':TS}(h:PS X st t) (i:∀En σ H,t' En σ H->t En σ H):PS X st t':=fun pins s σ H En I q=>h pins s σ H En I (i En σ H q)
theorem O3{st:List Stmt}{t t':TS}(h:PSs X st t) (i:∀En σ H,t' En σ H->t En σ H):PSs X st t':=fun pins s σ H En I q=>h pins s σ H En I (i En σ H q)
theorem At.grow{K:PySem.W.Frag}{H0 Hf0 H Hf H' Hf':Hp}{ρ:Rho}{σ:L2.St}(a:At K H0 Hf0 ρ σ H Hf) (g:Grow H Hf H' Hf'):At K H0 Hf0 ρ σ H' Hf':=⟨a.gr.trans g,a.sl.grow g⟩
theorem Fl.ends_mono{K:PySem.W.Frag}{H0 Hf0 Hf Hf':Hp}{En:Ends}{fl:Fl}(h:fl.ends K H0 Hf0 Hf En) (e:B3 Hf Hf'):fl.ends K H0 Hf0 Hf' En:=by
 cases fl with
 | nx ρ=>exact fun σ' H' Hf'' a s=>h σ' H' Hf'' a (e.trans s)
 | bk ρ=>exact fun σ' H' Hf'' a s=>h σ' H' Hf'' a (e.trans s)
 | ct ρ=>exact fun σ' H' Hf'' a s=>h σ' H' Hf'' a (e.trans s)
 | rt d=>exact h
noncomputable def o8:DS:=fun ρ=>some (.nx ρ)
noncomputable def O0(f g:DS):DS:=fun ρ=>(f ρ).bind fun fl=>match fl with
 | .nx ρ'=>g ρ'
 | fl=>some fl
theorem bx0:JSs X [] o8:=fun ρ fl q H0 Hf0=>by
 cases q
 exact O3 ai2 fun En σ H ⟨Hf,a,e⟩=>e σ H Hf a (B3.refl _)
theorem bg8{st:Stmt}{sts:List Stmt}{f g:DS}(h1:JS X st f) (h2:JSs X sts g):JSs X (st::sts) (O0 f g):=fun ρ fl q H0 Hf0=>by
 obtain⟨fl1,e1,q⟩:=xbm q
 cases fl1 with
 | nx ρ' =>
  refine O3 (M0 (h1 ρ _ e1 H0 Hf0) (h2 ρ' fl q H0 Hf0)) fun En σ H ⟨Hf,a,e⟩=>⟨Hf,a,fun σ' H' Hf' a' s'=>⟨Hf',a',Fl.ends_mono e s'⟩⟩
 | rt d=>cases q;exact O3 (M0 (h1 ρ _ e1 H0 Hf0) K3) fun En σ H ⟨Hf,a,e⟩=>⟨Hf,a,e⟩
 | bk ρ'=>cases q;exact O3 (M0 (h1 ρ _ e1 H0 Hf0) K3) fun En σ H ⟨Hf,a,e⟩=>⟨Hf,a,e⟩
 | ct ρ'=>cases q;exact O3 (M0 (h1 ρ _ e1 H0 Hf0) K3) fun En σ H ⟨Hf,a,e⟩=>⟨Hf,a,e⟩
theorem bw9{st:Stmt}{f:DS}(h1:JS X st f):JSs X [st] f:=fun ρ fl q H0 Hf0=>m8 (h1 ρ fl q H0 Hf0)
noncomputable def L8(f:DE):DS:=fun ρ=>(f ρ).map Fl.rt
theorem aH7{e:Expr}{f:DE}{pos:Pos}(h:JE X e f):JS X (.Return (some e) pos) (L8 f):=fun ρ fl q H0 Hf0=>by
 obtain⟨d,e1,e2⟩:=Option.map_eq_some_iff.mp q
 subst e2
 exact D9 (ad9 (h ρ d e1)) fun En σ H ⟨Hf,a,e⟩=>⟨H0,Hf,a.gr.sub,a.sl,fun v H' Hf' g r=>e v H' Hf' (a.gr.trans g) r⟩
noncomputable def sIf(t:Rho->Option Bool) (f g:DS):DS:=fun ρ=>(t ρ).bind fun c=>if c then f ρ else g ρ
theorem bD8{c:Expr}{a b:List Stmt}{t:Rho->Option Bool}{f g:DS}{pos:Pos}(hc:JT X c t) (ha:JSs X a f) (hb:JSs X b g):JS X (.If c a b pos) (sIf t f g):=fun ρ fl q H0 Hf0=>by
 obtain⟨x,e1,q⟩:=xbm q
 cases x with
 | true =>
  refine D9 (ag1 (hc ρ _ e1) (ha ρ fl (by simpa using q) H0 Hf0) K3) fun En σ H ⟨Hf,a,e⟩=>⟨H0,Hf,a.gr.sub,a.sl,fun H' Hf' g=>aa3 ⟨Hf',a.grow g,Fl.ends_mono e g.ext⟩⟩
 | false =>
  refine D9 (ag1 (hc ρ _ e1) K3 (hb ρ fl (by simpa using q) H0 Hf0)) fun En σ H ⟨Hf,a,e⟩=>⟨H0,Hf,a.gr.sub,a.sl,fun H' Hf' g=>aa4 ⟨Hf',a.grow g,Fl.ends_mono e g.ext⟩⟩
theorem Slots.set{K:PySem.W.Frag}{H0 H Hf:Hp}{ρ:Rho}{σ:L2.St}{i:Nat}{d:D}{v:V}(s:Slots K H0 ρ σ H Hf) (r:Rep K Hf d v):Slots K H0 (ρ.set i (some (.val d))) (σ.set i (some v)) H Hf:=by
 refine⟨by simp[s.len],fun j b e=>?_,fun j k ds es a h1 h2 h3 h4=>?_⟩
 ·by_cases q:i=j
  ·subst q
   have hi:i < ρ.length:=by
    have:=(List.getElem?_eq_some_iff.mp e).1
    simpa using this
   have hi':i < σ.length:=by rw[← s.len];exact hi
   rw[List.getElem?_set_self hi]at e
   cases e
   exact⟨v,List.getElem?_set_self hi',r⟩
  ·rw[List.getElem?_set_ne q]at e
   obtain⟨u,h1,h2⟩:=s.is j b e
   exact⟨u,by rw[List.getElem?_set_ne q];exact h1,h2⟩
 ·have hj:i≠j:=by
   intro q;subst q
   have hi:i < ρ.length:=by
    have:=(List.getElem?_eq_some_iff.mp h1).1
    simpa using this
   rw[List.getElem?_set_self hi]at h1
   cases h1
  have hk:i≠k:=by
   intro q;subst q
   have hi:i < ρ.length:=by
    have:=(List.getElem?_eq_some_iff.mp h2).1
    simpa using this
   rw[List.getElem?_set_self hi]at h2
   cases h2
  rw[List.getElem?_set_ne hj]at h1 h3
  rw[List.getElem?_set_ne hk]at h2 h4
  exact s.apart j k ds es a h1 h2 h3 h4
noncomputable def Q7(i:Nat) (f:DE):DS:=fun ρ=>(f ρ).map fun d=>.nx (ρ.set i (some (.val d)))
theorem aH6(i:Nat) {x:Str}{e:Expr}{f:DE}{pos pos':Pos}(hN:X.N.Nodup) (h:JE X e f) (hi:X.N[i]? = some x:=by rfl) (hx:Loc X.env.scope x:=by first|exact Or.inl rfl|exact Or.inr rfl)
  (hs:swapsWith e (some (.Name x pos')) pos.line X.env=pure false:=by rfl) (hf:X.fn x=true\/X.env.scope.names.lookup x=some .local:=by first|exact .inl rfl|exact .inr rfl):JS X (.Assign [.Name x pos'] e pos) (Q7 i f):=fun ρ fl q H0 Hf0=>by
 obtain⟨d,e1,e2⟩:=Option.map_eq_some_iff.mp q
 subst e2
 exact D9 (ak8 hN hi hx (h ρ d e1) hs hf) fun En σ H ⟨Hf,a,e⟩=>⟨H0,Hf,a.gr.sub,a.sl,fun v H' Hf' g r=>e _ H' Hf' ⟨a.gr.trans g,(a.sl.grow g).set r⟩ g.ext⟩
noncomputable def ba5(i j:Nat) (f:Rho->Option (List D)):DS:=fun ρ=>(f ρ).bind fun ds=>match ds with
 | [a,b]=>some (.nx ((ρ.set i (some (.val a))).set j (some (.val b))))
 | _=>none
end
end G
namespace G
open PySem PySem.Spec PyProof.Rows L2
theorem aW2(I:Nat->Shared->Prop)
  (turn:∀n s,I n s->wpAny (model prog w) A (pyNext it) (fun r s1=>match r with
   | none=>R (.ok .next) s1
   | some v=>wpAny (model prog w) A (letOwnedTupleGo target it v) (fun _ s1'=>wpAny (model prog w) A (assign target env v) (fun _ s2 =>
     wpAny (model prog w) A (forIn ifs true fun c r=>if r=true then do let ok ← isTrue c env (eval c env);pure (ForInStep.yield ok) else pure (ForInStep.yield r)) (fun ok s3 =>
      if ok=true then wpAny (model prog w) A (eval elt env) (fun x s4 =>
       wpAny (model prog w) A (call (.builtin "list.append") [acc,x]) (fun _ s5=>∃m,m < n/\I m s5) (fun _ _=>False) s4) (fun _ _=>False) s3
      else ∃m,m < n/\I m s3) (fun _ _=>False) s2) (fun _ _=>False) s1') (fun _ _=>False) s1) (fun _ _=>False) s)
  (n:Nat) (h:I n s) :
  codeAny (model prog w) A (.compLoop (.ListComp elt [⟨target,iter,ifs,0⟩] scope pos) 0 it acc env) R s:=by
 refine codeAny_loop rfl I (fun n s hI=>?_) n h
 show wpAny _ A ((compTurn (.ListComp elt [⟨target,iter,ifs,0⟩] scope pos) 0 it acc env).onRaise (fun x=>do noteFrame x env;theTreesLotGoes x)) _ _ s
 refine wpAny_noted ?_
 rw[compTurn_list]
 refine wpAny_bind (wpAny_standAt (wpAny_bind (wpAny_mono (turn n s hI) (fun r s1 h1=>?_) fun _ _ h'=>h'.elim)))
 cases r with
 | none=>exact wpAny_pure h1
 | some v =>
  refine wpAny_bind (wpAny_mono h1 (fun _ s1' h1'=>?_) fun _ _ h'=>h'.elim)
  refine wpAny_bind (wpAny_mono h1' (fun _ s2 h2=>wpAny_bind (wpAny_mono h2 (fun ok s3 h3=>?_) fun _ _ h'=>h'.elim)) fun _ _ h'=>h'.elim)
  cases ok with
  | false=>exact wpAny_pure ⟨rfl,h3⟩
  | true =>
   exact wpAny_bind (wpAny_bind (wpAny_mono h3 (fun x s4 h4=>wpAny_bind (wpAny_mono h4 (fun _ s5 h5=>wpAny_pure (wpAny_pure ⟨rfl,h5⟩)) fun _ _ h'=>h'.elim)) fun _ _ h'=>h'.elim))
noncomputable def P9(cells:List (Str×Addr)):List (Str×NameKind)->List (Str×Addr)->List (Str×Addr)
 | [],cs=>cs
 | (n,k)::r,cs=>if(k==NameKind.free)=true then P9 cells r ((n,(cells.lookup n).getD 0)::cs) else P9 cells r cs
theorem am9:∀(names:List (Str×NameKind)) (cs:List (Str×Addr)),(∀y∈names,y.2=.free->∃c,env.cells.lookup y.1=some c) ->
  (forIn names cs fun(x:Str×NameKind) (r:List (Str×Addr))=>if(x.2==NameKind.free)=true then do let a ← cellOf env x.1;pure (ForInStep.yield ((x.1,a)::r)) else pure (ForInStep.yield r):Sem (List (Str×Addr)))=pure (P9 env.cells names cs)
 | [],cs,_=>rfl
 | (n,k)::r,cs,h=>by
  rw[List.forIn_cons]
  have hr:∀y∈r,y.2=.free->∃c,env.cells.lookup y.1=some c:=fun y hy=>h y (List.mem_cons_of_mem _ hy)
  by_cases hk:(k==NameKind.free)=true
  ·obtain⟨c,hc⟩:=h (n,k) List.mem_cons_self (by simpa using hk)
   have hc':env.cells.lookup n=some c:=hc
   simp only[hk,if_true]
   have e:cellOf env n=pure c:=by unfold cellOf;rw[hc']
   rw[e]
   show(forIn r ((n,c)::cs) _:Sem _)=_
   rw[am9 r _ hr]
   simp only[P9,hk,if_true,hc',Option.getD_some]
  ·have hk':(k==NameKind.free)=false:=by simpa using hk
   simp only[hk',Bool.false_eq_true,if_false]
   show(forIn r cs _:Sem _)=_
   rw[am9 r _ hr]
   simp only[P9,hk',Bool.false_eq_true,if_false]
theorem bA0(h:∀y∈scope.names,y.2=.free->∃c,env.cells.lookup y.1=some c):closureFor scope env=pure (P9 env.cells scope.names []):=by
 have:=am9 (env:=env) scope.names [] h
 unfold closureFor
 exact congrArg (fun z=>z >>= fun cs=>pure cs) this
theorem ac8:∀{names:List (Str×NameKind)}{cs:List (Str×Addr)}{x:Str}{c:Addr},(x,c)∈P9 cells names cs->(x,c)∈cs\/((x,NameKind.free)∈names/\c=(cells.lookup x).getD 0)
 | [],cs,x,c,h=>.inl h
 | (n,k)::r,cs,x,c,h=>by
  unfold P9 at h
  split at h
  ·rename_i hk
   rcases ac8 h with q|⟨q1,q2⟩
   ·rcases List.mem_cons.mp q with q|q
    ·cases q
     have:k=.free:=by simpa using hk
     subst this
     exact .inr ⟨List.mem_cons_self,rfl⟩
    ·exact .inl q
   ·exact .inr ⟨List.mem_cons_of_mem _ q1,q2⟩
  ·rcases ac8 h with q|⟨q1,q2⟩
   ·exact .inl q
   ·exact .inr ⟨List.mem_cons_of_mem _ q1,q2⟩
theorem Y6:∀{names:List (Str×NameKind)}{cs:List (Str×Addr)}{x:Str},((x,NameKind.free)∈names\/∃c,(x,c)∈cs)->∃c,(x,c)∈P9 cells names cs
 | [],cs,x,h=>by
  rcases h with h|h
  ·cases h
  ·exact h
 | (n,k)::r,cs,x,h=>by
  unfold P9
  rcases h with h|⟨c,h⟩
  ·rcases List.mem_cons.mp h with q|q
   ·cases q
    rw[if_pos (by rfl)]
    exact Y6 (.inr ⟨_,List.mem_cons_self⟩)
   ·split
    ·exact Y6 (.inl q)
    ·exact Y6 (.inl q)
  ·split
   ·exact Y6 (.inr ⟨c,List.mem_cons_of_mem _ h⟩)
   ·exact Y6 (.inr ⟨c,h⟩)
theorem v8{l:List (Str×Addr)}{x:Str}{c:Addr}(h:(x,c)∈l):∃c',l.lookup x=some c':=by
 induction l with
 | nil=>cases h
 | cons p r ih =>
  obtain⟨n,a⟩:=p
  rw[List.lookup_cons]
  cases e:x==n with
  | true=>exact⟨a,rfl⟩
  | false =>
   rcases List.mem_cons.mp h with q|q
   ·cases q;simp at e
   ·exact ih q
theorem ab4:(relabel scope env).names.lookup x=some k->∃k0,scope.names.lookup x=some k0/\(k=k0\/k0=.free):=by
 unfold relabel
 simp only
 generalize scope.names=names
 induction names with
 | nil=>intro h;simp at h
 | cons p r ih =>
  obtain⟨n,k1⟩:=p
  intro h
  rw[List.map_cons]at h
  by_cases hc:(k1==NameKind.free&&env.scope.kind == .function&&env.kindOf n==some .cell)=true
  ·simp only[hc,if_true,List.lookup_cons]at h
   rw[List.lookup_cons]
   cases e:x==n with
   | true =>
    rw[e]at h
    rw[Bool.and_eq_true,Bool.and_eq_true]at hc
    exact⟨k1,rfl,.inr (by simpa using hc.1.1)⟩
   | false=>rw[e]at h;exact ih h
  ·have hc':(k1==NameKind.free&&env.scope.kind == .function&&env.kindOf n==some .cell)=false:=by simpa using hc
   simp only[hc',Bool.false_eq_true,if_false,List.lookup_cons]at h
   rw[List.lookup_cons]
   cases e:x==n with
   | true=>rw[e]at h;cases h;exact⟨_,rfl,.inl rfl⟩
   | false=>rw[e]at h;exact ih h
theorem at4:scope.names.lookup x=some .free->(relabel scope env).names.lookup x=some .cell\/(relabel scope env).names.lookup x=some .free:=by
 unfold relabel
 simp only
 generalize scope.names=names
 induction names with
 | nil=>intro h;simp at h
 | cons p r ih =>
  obtain⟨n,k1⟩:=p
  intro h
  rw[List.lookup_cons]at h
  rw[List.map_cons]
  cases e:x==n with
  | true =>
   rw[e]at h
   cases h
   have en:x=n:=by simpa using e
   subst en
   by_cases hc:(NameKind.free==NameKind.free&&env.scope.kind == .function&&env.kindOf x==some .cell)=true
   ·simp only[hc,if_true,List.lookup_cons,e];exact .inl trivial
   ·have hc':(NameKind.free==NameKind.free&&env.scope.kind == .function&&env.kindOf x==some .cell)=false:=by simpa using hc
    simp only[hc',Bool.false_eq_true,if_false,List.lookup_cons,e];exact .inr trivial
  | false =>
   rw[e]at h
   by_cases hc:(k1==NameKind.free&&env.scope.kind == .function&&env.kindOf n==some .cell)=true
   ·simp only[hc,if_true,List.lookup_cons,e];exact ih h
   ·have hc':(k1==NameKind.free&&env.scope.kind == .function&&env.kindOf n==some .cell)=false:=by simpa using hc
    simp only[hc',Bool.false_eq_true,if_false,List.lookup_cons,e];exact ih h
noncomputable def G2(X:Cx) (N':List Str) (scope:Scope) (C:Addr) (s₀:Shared) (H₀:Hp) (ex:List Addr):Cx where
 prog:=X.prog
 w:=X.w
 K:=X.K
 mg:=X.mg
 base:=X.base
 A:=X.A
 N:=N'
 s₀:=s₀
 H₀:=H₀
 env:=compEnvC scope (P9 X.env.cells scope.names []) C X.env
 outer:=X.stack
 stack:=X.stack
 ex:=ex
 fn:=fun _=>false
 calm:=X.calm
 pn:=[]
 xe:=fun _ _=>False
structure CompSc (X:Cx) (N':List Str) (n:Nat) (caps:List Nat) (scope:Scope):Prop where
 kind:scope.kind=.function
 cell:∀y∈scope.names,y.2≠.cell
 loc:∀y∈scope.names,y.2=.local->scope.names.lookup y.1=some .local
 free:∀y∈scope.names,y.2=.free->X.env.scope.names.lookup y.1=some .cell\/X.env.scope.names.lookup y.1=some .free
 len:N'.length=n+caps.length
 cap:∀(i j:Nat),caps[i]? = some j->∃x,X.N[j]? = some x/\N'[n+i]? = some x/\scope.names.lookup x=some .free
section
variable {X:Cx}{N':List Str}{n:Nat}{caps:List Nat}{scope:Scope}
theorem Q3{l:List (Str×NameKind)}{x:Str}{k:NameKind}(h:l.lookup x=some k):(x,k)∈l:=PySem.mem_of_lookup h
noncomputable def ao6(n:Nat) (caps:List Nat) (σ:L2.St):L2.St:=List.replicate n none++caps.map fun j=>(σ[j]?).join
theorem aJ4(S:CompSc X N' n caps scope) (I:Inv X pins σ H s) (hf:∀b∈fp,af7 X pins H b) (hlt:∀b∈fp,b < s.heap.objs.size)
  (hns:h1.Ns s.heap.objs.size m) (hk:∀b o,s.heap.get? b=some o->h1.get? b=some o) :
  Inv (G2 X N' scope s.heap.objs.size s H fp) [] (ao6 n caps σ) H { s with heap:=h1,toks:=tk }:=by
 have cl_of:∀x c,(P9 X.env.cells scope.names []).lookup x=some c->X.env.cells.lookup x=some c:=fun x c h=>by
  have hm:=PySem.mem_of_lookup h
  rcases ac8 hm with q|⟨q1,q2⟩
  ·cases q
  ·obtain⟨c',hc'⟩:=I.ok.has x (S.free _ q1 rfl)
   rw[hc']at q2
   rw[hc',q2];rfl
 have cl_has:∀x,(x,NameKind.free)∈scope.names->∃c,(P9 X.env.cells scope.names []).lookup x=some c:=fun x h=>by
  obtain⟨c,hc⟩:=Y6 (cells:=X.env.cells) (cs:=[]) (.inl h)
  exact v8 hc
 have kind_free:∀x,((relabel scope X.env).names.lookup x=some .cell\/(relabel scope X.env).names.lookup x=some .free)->(x,NameKind.free)∈scope.names:=fun x h=>by
  rcases h with h|h
  ·obtain⟨k0,e1,e2⟩:=ab4 h
   rcases e2 with e2|e2
   ·subst e2;exact absurd rfl (S.cell _ (Q3 e1))
   ·subst e2;exact Q3 e1
  ·obtain⟨k0,e1,e2⟩:=ab4 h
   rcases e2 with e2|e2
   ·subst e2;exact Q3 e1
   ·subst e2;exact Q3 e1
 have cell_lt:∀x c,X.env.cells.lookup x=some c->c < s.heap.objs.size:=fun x c e=>by
  obtain⟨v,q⟩:=I.cell x c e
  exact q.lt
 have ok:(G2 X N' scope s.heap.objs.size s H fp).Ok:=by
  refine⟨I.ok.mod,S.kind,I.ok.glob,I.ok.blt,Nat.le_refl _,fun x y c e1 e2=>I.ok.inj x y c (cl_of x c e1) (cl_of y c e2),fun x hx=>cl_has x (kind_free x hx),fun x c e _=>(Bool.false_ne_true e).elim,I.ok.hd,I.ok.frames,.inl rfl,fun b hb=>⟨Nat.ne_of_lt (hlt b hb),fun x c e=>(hf b hb).2.2.2.2.1 x c (cl_of x c e)⟩,
   I.bs,Nat.le_trans I.ok.bsz I.sz,fun b o e hb=>?_,fun b hb hb2=>?_,I.stack,I.stkFree⟩
  ·rcases(hf b hb).2.2.2.1 with z|z
   ·exact I.ok.noex b o e z
   ·exact absurd (Nat.lt_of_lt_of_le (Heap.lt_size e) (Nat.le_trans I.ok.bsz z)) (Nat.lt_irrefl _)
  ·rcases List.mem_cons.mp (I.stkSub b hb2) with z|z
   ·exact(hf b hb).2.1 z
   ·exact(hf b hb).2.2.1 z
 refine⟨ok,rfl,I.bare,Un.kept hk,⟨m,hns,fun i x v e1 e2 e3=>?_⟩,fun x c e=>?_,I.hok.fresh (Nat.le_refl _),fun x c e=>I.freeC x c (cl_of x c e),fun p hp=>absurd (show p∈([]:List (Addr×Obj)) from hp) (by simp),I.hok.kept hk,?_⟩
 ·have hi:n<=i:=by
   rcases Nat.lt_or_ge i n with h|h
   ·unfold ao6 at e2
    rw[List.getElem?_append_left (by simpa using h),List.getElem?_replicate,if_pos h]at e2
    cases e2
   ·exact h
  unfold ao6 at e2
  rw[List.getElem?_append_right (by simpa using hi),List.getElem?_map]at e2
  simp only[List.length_replicate]at e2
  cases hj:caps[i - n]? with
  | none=>rw[hj]at e2;cases e2
  | some j =>
   rw[hj]at e2
   have e2':(σ[j]?).join=some v:=by simpa using e2
   have e2'':σ[j]? = some (some v):=by
    cases q:σ[j]? with
    | none=>rw[q]at e2';cases e2'
    | some o=>rw[q]at e2';simp at e2';rw[e2']
   obtain⟨y,q1,q2,q3⟩:=S.cap _ _ hj
   have:y=x:=by
    have e1':N'[i]? = some x:=e1
    rw[show n+(i - n)=i by grind,e1']at q2
    cases q2;rfl
   subst this
   obtain⟨m0,hn0,hl0⟩:=I.loc
   have hv:Vis X.env.scope y:=by
    rcases S.free _ (Q3 q3) rfl with z|z
    ·exact .inr (.inl z)
    ·exact .inr (.inr z)
   obtain⟨u,ru,lk⟩:=hl0 j y v q1 e2'' hv
   refine⟨u,ru,.inr ⟨at4 q3,?_⟩⟩
   rcases lk with⟨lk,_⟩|⟨_,c,hc,hcell⟩
   ·rcases S.free _ (Q3 q3) rfl with z|z
    ·have:X.env.scope.names.lookup y=some .local:=lk
     rw[z]at this;cases this
    ·have:X.env.scope.names.lookup y=some .local:=lk
     rw[z]at this;cases this
   ·obtain⟨c',hc'⟩:=cl_has y (Q3 q3)
    have:=cl_of y c' hc'
    rw[hc]at this;cases this
    obtain⟨o,ho,hd⟩:=hcell
    exact⟨c,hc',o,hk c o ho,hd⟩
 ·obtain⟨v,o,ho,hd⟩:=I.cell x c (cl_of x c e)
  exact⟨v,o,hk c o ho,hd⟩
 ·show(ao6 n caps σ).length=N'.length
  unfold ao6
  rw[S.len];simp
theorem aq9(I:Inv X pins σ H s) (hf:∀b∈fp,af7 X pins H b)
  (I':Inv (G2 X N' scope s.heap.objs.size s H fp) [] σ' H' s') (sb:Heap.SameBut s.heap.objs.size s'.heap h'):Inv X pins σ H' { s' with heap:=h' }:=by
 have ne:∀b o,s.heap.get? b=some o->b≠s.heap.objs.size:=fun b o e=>Nat.ne_of_lt (Heap.lt_size e)
 refine I.call' (s':={ s' with heap:=h' }) (ch:=fp) I'.os ?_ ?_ I'.bare fun b hb=>⟨(hf b hb).2.2.2.1,(hf b hb).2.1,(hf b hb).2.2.2.2.1,(hf b hb).2.2.2.2.2⟩
 ·refine⟨fun b o e n hb hx=>sb.extBut b o (ne b o e) (I'.base.keep b o e n hb hx),fun b o e n hb hx=>?_,I'.base.free,fun b o e hx=>?_,I'.base.tups,I'.base.frzs,I'.base.tbls⟩
  ·obtain⟨sl,q⟩:=I'.base.slot b o e n hb hx
   exact⟨sl,sb.extBut b _ (ne b o e) q⟩
  ·obtain⟨o',q⟩:=I'.base.there b o e hx
   exact⟨o',sb.extBut b _ (ne b o e) q⟩
 ·intro b u e
  have nC:∀c v,H' c=some v->c≠s.heap.objs.size:=fun c v q z=>by
   have:=I'.free
   have z':H' c=none:=by rw[z];exact this
   rw[z']at q;cases q
  refine(I'.hok b u e).stay (fun c v hc q=>sb.extBut c v ?_ q) (fun _ q=>q) fun _ _ q=>q
  rcases hc with z|z
  ·rw[z];exact nC b u e
  ·exact nC c _ z
noncomputable def PTs(X:Cx) (ifs:List Expr) (t:TT):Prop :=
 ∀(pins:List (Addr×Obj)) (s:Shared) (σ:L2.St) (H:Hp) (Q:Bool->Hp->Prop),Inv X pins σ H s->t σ H Q ->
  wpAny (model X.prog X.w) X.A (forIn ifs true fun c r=>if r=true then do let ok ← isTrue c X.env (eval c X.env);pure (ForInStep.yield ok) else pure (ForInStep.yield r)) (TP X pins σ Q) X.xe s
theorem bt4:PTs X [] (fun _ H Q=>Q true H):=fun pins s σ H Q I h=>wpAny_tests_nil ⟨H,I,h⟩
theorem bt3(h:PT X c t):PTs X [c] t:=fun pins s σ H Q I q=>wpAny_tests_one (h pins s σ H Q I q)
noncomputable def aZ2(n:Nat) (caps:List Nat) (wi:TI) (g:TG) (tc:TT) (te:TE):TE:=fun σ H Q=>wi σ H fun J H1=>∀Dd,H1 Dd=none->∃W:Nat->Nat->List V->L2.St->Hp->Prop,
 (∃m,W 0 m [] (ao6 n caps σ) (upd H1 Dd (.lst []))) /\
 ∀i m ys σ' H',W i m ys σ' H' ->
  (J.stop i H'/\Q (.ref Dd) H') \/
  (J.go i H'/\∀x H2,J.yld i H' x H2->g x σ' H2 fun σ3 H3=>tc σ3 H3 fun b H4 =>
   if b=true then te σ3 H4 fun y H5=>H5 Dd=some (.lst ys)/\ys.length < sizeLine/\∃m',m' < m/\W (i+1) m' (ys++[y]) σ3 (upd H5 Dd (.lst (ys++[y])))
   else ∃m',m' < m/\W (i+1) m' ys σ3 H4)
theorem aD2{elt tgt iter:Expr}{ifs:List Expr}{pos:Pos}{wi:TI}{g:TG}{tc:TT}{te:TE}{RR:Value->Addr->Result->Shared->Prop}{E:Value->Shared->Prop}(S:CompSc X N' n caps scope) (hx:∀e s,X.xe e s->False) (hc:X.calm=true)
  (hi:PI X tgt iter wi) (hg:∀C s0 H0 ex,PG (G2 X N' scope C s0 H0 ex) tgt g) (ht:∀C s0 H0 ex,PTs (G2 X N' scope C s0 H0 ex) ifs tc) (he:∀C s0 H0 ex,PE (G2 X N' scope C s0 H0 ex) elt te)
  {pins:List (Addr×Obj)}{s:Shared}{σ:L2.St}{H:Hp}{Q:VK}(I:Inv X pins σ H s) (h:aZ2 n caps wi g tc te σ H Q)
  (hRR:∀D C r s',r=.ok .next->(∃m,s'.heap.Ns C m/\∀h',Heap.SameBut C s'.heap h'->∃H',Inv X pins σ H' { s' with heap:=h' }/\Q (.ref D) H') ->
   (∃s2 fp σ' H2 H',s2.heap.objs.size=C/\Inv X pins σ H2 s2/\(∀b∈fp,af7 X pins H2 b)/\Inv (G2 X N' scope s2.heap.objs.size s2 H2 fp) [] σ' H' s'/\Q (.ref D) H')->RR (.ref D) C r s') :
  wpAny (model X.prog X.w) X.A (eval iter X.env) (fun x s₁=>wpAny (model X.prog X.w) X.A (pyIter x) (fun it s₂=>wpAny (model X.prog X.w) X.A (newList []) (fun acc s₃ =>
   wpAny (model X.prog X.w) X.A (newFunctionEnv scope X.env.globals (P9 X.env.cells scope.names []) [] X.env.qual none .none (some X.env)) (fun cenv s₄ =>
    codeAny (model X.prog X.w) X.A (.compStart (.ListComp elt [⟨tgt,iter,ifs,0⟩] scope pos) 0 it acc { cenv with scope:=relabel scope X.env }) (RR acc cenv.locals) s₄) E s₃) E s₂) E s₁) E s:=by
 refine wpAny_mono (hi pins s σ H _ I h) (fun v s1 h1=>wpAny_mono h1 (fun itv s2 h2=>?_) fun _ _ z=>(hx _ _ z).elim) fun _ _ z=>(hx _ _ z).elim
 obtain⟨it,fp,tn,J,H2,e,I2,T,st2,f2,R⟩:=h2
 subst e
 refine wpAny_newObj_type (wpAny_newFunctionEnv S.cell (by intro y hy;simp at hy) (fun h₁ hns₁ hsb₁=>?_) S.kind)
 dsimp only at hns₁ hsb₁ ⊢
 obtain⟨W,⟨m0,w0⟩,turn⟩:=R s2.heap.objs.size (I2.hok.fresh (Nat.le_refl _))
 have lt2:∀b∈fp,b < s2.heap.objs.size:=fun b hb=>by
  obtain⟨o,ho,_⟩:=T.obj _ _ st2 b hb
  exact Heap.lt_size ho
 have I3:Inv X pins σ (upd H2 s2.heap.objs.size (.lst [])) { s2 with heap:=s2.heap.push { cls:=.type "list", dict:=none,data:=.seq ([]:List Value).toArray } } :=
  I2.laid (t':=s2.toks) (fun b u e=>Heap.get?_push_of_some _ e) (Nat.le_refl _) ⟨Nat.zero_le _,[],0,.nil,Heap.get?_push_size _ rfl⟩
 generalize hs3:({ s2 with heap:=s2.heap.push { cls:=.type "list", dict:=none,data:=.seq ([]:List Value).toArray } }:Shared)=s3 at I3
 have es3:s3.heap=s2.heap.push { cls:=.type "list", dict:=none,data:=.seq ([]:List Value).toArray }:=by rw[← hs3]
 rw[← es3]at hns₁ hsb₁ ⊢
 have keep3:∀b o,s3.heap.get? b=some o->h₁.get? b=some o:=fun b o e=>hsb₁.extBut b o (Nat.ne_of_lt (Heap.lt_size e)) (Heap.get?_push_of_some _ e)
 have lt3:∀b∈fp,b < s3.heap.objs.size:=fun b hb=>by rw[es3,Heap.size_push];exact Nat.lt_succ_of_lt (lt2 b hb)
 have f3:∀b∈fp,af7 X pins (upd H2 s2.heap.objs.size (.lst [])) b:=fun b hb=>⟨by rw[A3 (Nat.ne_of_lt (lt2 b hb))];exact(f2 b hb).1,(f2 b hb).2⟩
 generalize hH3:upd H2 s2.heap.objs.size (HO.lst [])=H3 at I3 f3 w0
 have fin3:∀{σ':L2.St}{H':Hp}{pl:List (Addr×Obj)},(∀b∈fp,H' b=none)->(∀p∈pl,False)->∀b∈fp,af7 (G2 X N' scope s3.heap.objs.size s3 H3 fp) pl H' b:=fun{σ' H' pl} hn hp b hb=>by
  refine⟨hn b hb,Nat.ne_of_lt (lt3 b hb),fun z=>?_,.inl hb,fun x c e=>?_,fun p hp'=>?_⟩
  ·rcases List.mem_cons.mp (I3.stkSub b z) with z|z
   ·exact(f3 b hb).2.1 z
   ·exact(f3 b hb).2.2.1 z
  ·have hm:=PySem.mem_of_lookup e
   rcases ac8 hm with q|⟨q1,q2⟩
   ·cases q
   ·obtain⟨c',hc'⟩:=I3.ok.has x (S.free _ q1 rfl)
    rw[hc']at q2
    have q2':c=c':=q2
    subst q2'
    exact(f3 b hb).2.2.2.2.1 x c hc'
  ·exact(hp p (by simpa [G2] using hp')).elim
 have toks:∃tk,({ s2 with heap:=h₁,toks:=s2.toks+([]:List (Str×Value)).length }:Shared)={ s3 with heap:=h₁,toks:=tk }:=⟨s2.toks,by rw[← hs3];rfl⟩
 obtain⟨tk,htk⟩:=toks
 have st4:tn 0 h₁:=T.keep 0 s2.heap h₁ st2 fun b hb o e=>keep3 b o (by rw[es3];exact Heap.get?_push_of_some _ e)
 have I4:Inv (G2 X N' scope s3.heap.objs.size s3 H3 fp) [] (ao6 n caps σ) H3 { s3 with heap:=h₁,toks:=tk }:=aJ4 S I3 f3 lt3 hns₁ keep3
 have loop:codeAny (model X.prog X.w) X.A (.compLoop (.ListComp elt [⟨tgt,iter,ifs,0⟩] scope pos) 0 (.ref it) (.ref s2.heap.objs.size) (compEnvC scope (P9 X.env.cells scope.names []) s3.heap.objs.size X.env)) (RR (.ref s2.heap.objs.size) s3.heap.objs.size) { s3 with heap:=h₁,toks:=tk }:=by
  refine aW2 (fun k s'=>∃i ys σ' H',Inv (G2 X N' scope s3.heap.objs.size s3 H3 fp) [] σ' H' s'/\tn i s'.heap/\(∀b∈fp,H' b=none)/\W i k ys σ' H') ?_ m0 ⟨0,[],_,H3,I4,st4,fun b hb=>(f3 b hb).1,w0⟩
  rintro k s5 ⟨i,ys,σ5,H5,I5,st5,fr5,w5⟩
  have pz:∀p∈([]:List (Addr×Obj)),False:=fun p hp=>by cases hp
  rcases turn i k ys σ5 H5 w5 with⟨stop,qn⟩|⟨go,step⟩
  ·refine wpAny_mono (T.done (G2 X N' scope s3.heap.objs.size s3 H3 fp) rfl rfl rfl hc i [] s5 σ5 H5 (fun _ _=>False) I5 (fin3 (σ':=σ5) fr5 pz) st5 stop) (fun r s6 ⟨hr,I6⟩=>?_) fun _ _ z=>z
   subst hr
   obtain⟨m6,hn6,_⟩:=I6.loc
   refine hRR _ _ _ s6 rfl ⟨m6,hn6,fun h' sb=>⟨H5,aq9 I3 f3 I6 sb,qn⟩⟩ ⟨s3,fp,σ5,H3,H5,rfl,I3,f3,I6,qn⟩
  ·refine wpAny_mono (T.item (G2 X N' scope s3.heap.objs.size s3 H3 fp) rfl rfl rfl hc i [] s5 σ5 H5 (fun _ _=>False) I5 (fin3 (σ':=σ5) fr5 pz) st5 go) (fun r s6 ⟨u,hr,h6⟩=>?_) fun _ _ z=>z
   subst hr
   refine wpAny_mono h6 (fun _ s7 ⟨x,H7,I7,r7,y7,st7,fr7⟩=>?_) fun _ _ z=>z
   have I7':=I7.pinned (fin3 (σ':=σ5) fr7 pz) (T.obj _ _ st7)
   refine wpAny_mono (hg _ _ _ _ _ s7 σ5 H7 x u _ I7' r7 (step x H7 y7)) (fun _ s8 ⟨σ8,H8,I8,q8⟩=>?_) fun _ _ z=>z
   refine wpAny_mono (ht _ _ _ _ _ s8 σ8 H8 _ I8 q8) (fun ok s9 ⟨H9,I9,q9⟩=>?_) fun _ _ z=>z
   have again:∀{σ':L2.St}{H':Hp}{s':Shared},Inv (G2 X N' scope s3.heap.objs.size s3 H3 fp) ([]++al0 fp s7.heap) σ' H' s'->Inv (G2 X N' scope s3.heap.objs.size s3 H3 fp) [] σ' H' s'/\tn (i+1) s'.heap/\∀b∈fp,H' b=none:=fun{σ' H' s'} I'=>by
    refine⟨I'.unpinned,T.keep _ _ _ st7 fun b hb o e=>(I'.pin (b,o) (List.mem_append_right _ (List.mem_append_right _ (Z7 hb e)))).1,fun b hb=>?_⟩
    obtain⟨o,e,d⟩:=T.obj _ _ st7 b hb
    exact(I'.pin (b,o) (List.mem_append_right _ (List.mem_append_right _ (Z7 hb e)))).2.1
   cases ok with
   | false =>
    rw[if_neg Bool.false_ne_true]at q9 ⊢
    obtain⟨m',hm,w'⟩:=q9
    obtain⟨a1,a2,a3⟩:=again I9
    exact⟨m',hm,i+1,ys,σ8,H9,a1,a2,a3,w'⟩
   | true =>
    rw[if_pos rfl]at q9 ⊢
    refine wpAny_mono (he _ _ _ _ _ s9 σ8 H9 _ I9 q9) (fun y s10 ⟨vy,H10,I10,r10,q10,z10,m',hm,w'⟩=>?_) fun _ _ z=>z
    refine wpAny_mono (ae3 (X:=G2 X N' scope s3.heap.objs.size s3 H3 fp) _ s10 σ8 H10 (.ref s2.heap.objs.size) [vy] _ _ (fun v H'=>v=.non/\H'=upd H10 s2.heap.objs.size (.lst (ys++[vy]))) I10 rfl (.cons r10 .nil) ⟨_,ys,vy,rfl,rfl,q10,z10,rfl,rfl⟩) (fun _ s11 ⟨v11,H11,I11,r11,e11,e12⟩=>?_) fun _ _ z=>z
    subst e12
    obtain⟨a1,a2,a3⟩:=again I11
    exact⟨m',hm,i+1,ys++[vy],σ8,_,a1,a2,a3,w'⟩
 show codeAny (model X.prog X.w) X.A _ _ ({ s2 with heap:=h₁,toks:=s2.toks+([]:List (Str×Value)).length }:Shared)
 rw[htk]
 exact codeAny_compStart_list loop (T.self _ _ _ _ _ st4 loop)
end
end G
namespace G
open PySem PySem.Spec PyProof.Rows L2
section
variable {X:Cx}
noncomputable def tgJ(K:PySem.W.Frag) (f:D->Rho->Option Rho):TG:=fun v σ H Q=>∃d ρ ρ' H0 Hf,f d ρ=some ρ'/\B3 Hf H/\Slots K H0 ρ σ H Hf/\Rep K Hf d v/\∀σ',Slots K H0 ρ' σ' H Hf->Q σ' H
noncomputable def JG(X:Cx) (tg:Expr) (f:D->Rho->Option Rho):Prop:=PG X tg (tgJ X.K f)
noncomputable def cg2(K:PySem.W.Frag) (f:List D->Rho->Option Rho):TGs:=fun vs σ H Q=>∃ds ρ ρ' H0 Hf,f ds ρ=some ρ'/\B3 Hf H/\Slots K H0 ρ σ H Hf/\Reps K Hf ds vs/\∀σ',Slots K H0 ρ' σ' H Hf->Q σ' H
noncomputable def JGs(X:Cx) (tg:List Expr) (f:List D->Rho->Option Rho):Prop:=PGs X tg (cg2 X.K f)
noncomputable def N9(i:Nat):D->Rho->Option Rho:=fun d ρ=>some (ρ.set i (some (.val d)))
theorem bx8(i:Nat) (hN:X.N.Nodup) (hi:X.N[i]? = some x:=by rfl) (hx:Loc X.env.scope x:=by first|exact Or.inl rfl|exact Or.inr rfl) (hf:X.fn x=true\/X.env.scope.names.lookup x=some .local:=by first|exact .inl rfl|exact .inr rfl):JG X (.Name x pos) (N9 i):=by
 intro pins s σ H v u Q I r ⟨d,ρ,ρ',H0,Hf,e,ss,sl,rp,k⟩
 cases e
 exact bu2 hN hi hx hf pins s σ H v u Q I r (k _ (sl.set rp))
noncomputable def V5:List D->Rho->Option Rho:=fun ds ρ=>match ds with
 | []=>some ρ
 | _=>none
noncomputable def G0(f:D->Rho->Option Rho) (g:List D->Rho->Option Rho):List D->Rho->Option Rho:=fun ds ρ=>match ds with
 | d::r=>(f d ρ).bind fun ρ'=>g r ρ'
 | []=>none
theorem bx7:JGs X [] V5:=by
 intro pins s σ H vs us Q I r ⟨ds,ρ,ρ',H0,Hf,e,ss,sl,rp,k⟩
 cases ds with
 | nil=>cases e;exact bu1 pins s σ H vs us Q I r ⟨rp,k _ sl⟩
 | cons d ds=>cases e
theorem bh5(h1:JG X e f) (h2:JGs X es g) (hs:(assignEach (e::es) X.env).map (·.2)=assign e X.env::(assignEach es X.env).map (·.2):=by rfl):JGs X (e::es) (G0 f g):=by
 intro pins s σ H vs us Q I r ⟨ds,ρ,ρ',H0,Hf,e,ss,sl,rp,k⟩
 cases ds with
 | nil=>cases e
 | cons d ds =>
  obtain⟨ρ1,e1,e2⟩:=xbm e
  obtain⟨v,vr,rfl,q1,q2⟩:=rp
  exact bc0 h1 h2 hs pins s σ H _ us Q I r ⟨v,vr,rfl,d,ρ,ρ1,H0,Hf,e1,ss,sl,q1,fun σ' sl'=>⟨ds,ρ1,ρ',H0,Hf,e2,ss,sl',q2,k⟩⟩
noncomputable def T7(n:Nat) (g:List D->Rho->Option Rho):D->Rho->Option Rho:=fun d ρ=>match d with
 | .tuple ds=>if ds.length=n then g ds ρ else none
 | _=>none
theorem bQ2(h:JGs X es g) (hc:X.calm=true:=by rfl) (hn:(assignEach es X.env).length=n:=by rfl) (hst:(assignEach es X.env).findIdx? (·.1)=none:=by rfl):JG X (.Tuple es k pos) (T7 n g):=by
 intro pins s σ H v u Q I r ⟨d,ρ,ρ',H0,Hf,e,ss,sl,rp,kk⟩
 cases d with
 | tuple ds =>
  simp only[T7]at e
  split at e
  ·rename_i hl
   obtain⟨a,vs,rfl,q1,q2⟩:=rp
   exact bL1 hc h hn hst pins s σ H _ u Q I r ⟨a,vs,rfl,C5 ss q1,by rw[q2.length,hl],ds,ρ,ρ',H0,Hf,e,ss,sl,q2,kk⟩
  ·cases e
 | _=>cases e
noncomputable def aK4(K:PySem.W.Frag) (J:It) (ds:List D) (Hf1:Hp):Prop:=∀(i:Nat) (H Hf:Hp),B3 Hf1 Hf->B3 Hf H->(ds.length<=i->J.stop i H)/\∀d,ds[i]? = some d->J.go i H/\∀x H',J.yld i H x H'->∃Hf',Grow H Hf H' Hf'/\Rep K Hf' d x
noncomputable def tiJ(K:PySem.W.Frag) (ρ:Rho) (ds:List D):TI:=fun σ H R=>∃H0 Hf,B3 Hf H/\Slots K H0 ρ σ H Hf/\∀J H' Hf',Grow H Hf H' Hf'->aK4 K J ds Hf'->R J H'
noncomputable def JI(X:Cx) (tg iter:Expr) (f:Rho->Option (List D)):Prop:=∀ρ ds,f ρ=some ds->PI X tg iter (tiJ X.K ρ ds)
theorem aG8(h:PI X tg iter t) (i:∀σ H R,t' σ H R->t σ H R):PI X tg iter t':=fun pins s σ H R I q=>h pins s σ H R I (i σ H R q)
noncomputable def aI3(f:DE):Rho->Option (List D):=fun ρ=>(f ρ).bind fun d=>match d with
 | .list ds=>some ds
 | .tuple ds=>some ds
 | _=>none
theorem aH8(h:JE X e f):JI X tg e (aI3 f):=fun ρ ds q=>by
 obtain⟨d,e1,e2⟩:=xbm q
 cases d with
 | list xs =>
  cases e2
  refine aG8 (bu0 (h ρ _ e1)) fun σ H R ⟨H0,Hf,s,sl,k⟩=>⟨H0,Hf,s,sl,fun v H1 Hf1 g1 ⟨a,vs,h1,h2,h3⟩=>⟨a,h1,⟨vs,K6 g1.sub h2⟩,k _ H1 Hf1 g1 ?_⟩⟩
  intro i H' Hf' sa sb
  have q':SqL X.K H' a vs:=K6 (sa.trans sb) h2
  refine⟨fun hi=>⟨vs,q',by rw[h3.length];exact hi⟩,fun d hd=>?_⟩
  obtain⟨v,w1,w2⟩:=h3.get hd
  refine⟨⟨vs,v,q',w1⟩,fun x H'' hy=>?_⟩
  obtain⟨rfl,hy⟩:=hy
  have:=hy vs q'
  rw[w1]at this;cases this
  exact⟨Hf',Grow.refl sb,w2.mono sa⟩
 | tuple xs =>
  cases e2
  refine aG8 (bL0 (h ρ _ e1)) fun σ H R ⟨H0,Hf,s,sl,k⟩=>⟨H0,Hf,s,sl,fun v H1 Hf1 g1 ⟨a,vs,h1,h2,h3⟩=>⟨a,h1,⟨vs,C5 g1.sub h2⟩,k _ H1 Hf1 g1 ?_⟩⟩
  intro i H' Hf' sa sb
  have q':SqT X.K H' a vs:=C5 (sa.trans sb) h2
  refine⟨fun hi=>⟨vs,q',by rw[h3.length];exact hi⟩,fun d hd=>?_⟩
  obtain⟨v,w1,w2⟩:=h3.get hd
  refine⟨⟨vs,v,q',w1⟩,fun x H'' hy=>?_⟩
  obtain⟨rfl,hy⟩:=hy
  have:=hy vs q'
  rw[w1]at this;cases this
  exact⟨Hf',Grow.refl sb,w2.mono sa⟩
 | _=>cases e2
noncomputable def V1(lo hi:Int):List D:=(List.range (hi - lo).toNat).map fun(i:Nat)=>PyData.int (lo+i)
theorem as0{K:PySem.W.Frag}{lo hi:Int}{Hf1:Hp}:aK4 K (Itr lo (hi - lo).toNat) (V1 lo hi) Hf1:=by
 intro i H Hf sa sb
 have hl:(V1 lo hi).length=(hi - lo).toNat:=by simp[V1]
 refine⟨fun h=>by rw[hl]at h;exact h,fun d hd=>?_⟩
 have hi':i < (hi - lo).toNat:=by
  have:=(List.getElem?_eq_some_iff.mp hd).1
  rw[hl]at this;exact this
 refine⟨hi',fun x H' hy=>?_⟩
 obtain⟨e1,e2⟩:=hy
 subst e1 e2
 have:d=.int (lo+i):=by
  have:(V1 lo hi)[i]? = some (.int (lo+i)):=by simp[V1,hi']
  rw[hd]at this;cases this;rfl
 subst this
 exact⟨Hf,Grow.refl sb,rfl⟩
noncomputable def V4(f:DE):Rho->Option (List D):=fun ρ=>(f ρ).bind fun d=>match d with
 | .int j=>if -(2 ^ 62)<=j/\j < 2 ^ 62 then some (V1 0 j) else none
 | _=>none
theorem aU2{tg e:Expr}{f:DE}{p pos:Pos}(hg:Gl X "range") (hm:X.mg "range" = none) (h:JE X e f) (hs:starEach [e] X.env=[(false,eval e X.env)]:=by rfl):JI X tg (.Call (.Name "range" p) [e] [] pos) (V4 f):=fun ρ ds q=>by
 obtain⟨d,e1,e2⟩:=xbm q
 split at e2
 ·split at e2
  ·rename_i j c
   cases e2
   refine aG8 (aS3 hg hm (E2 (h ρ _ e1) M3 hs) hs) fun σ H R ⟨H0,Hf,s,sl,k⟩=>⟨H0,Hf,s,sl,fun v H1 Hf1 g1 r=>⟨j,by rw[show v=_ from r],c.1,c.2,k _ H1 Hf1 g1 ?_⟩⟩
   have:=as0 (K:=X.K) (lo:=0) (hi:=j) (Hf1:=Hf1)
   rw[Int.sub_zero]at this
   exact this
  ·cases e2
 ·cases e2
theorem Grow.nofr(g:Grow H Hf H' Hf') (h:H a=some o) (n:Hf a=none):Hf' a=none:=by
 cases q:Hf' a with
 | none=>rfl
 | some u =>
  rcases g.new a (by rw[q];simp) with z|z
  ·exact absurd n z
  ·rw[h]at z;cases z
noncomputable def af1(n:Nat) (caps:List Nat) (ρ:Rho):Rho:=List.replicate n none++caps.map fun j=>match ρ[j]? with
 | some (some (.val d))=>some (.val d)
 | _=>none
noncomputable def g8(g:D->Rho->Option Rho) (c:Rho->Option Bool) (e:DE):List D->Rho->Option (List D)
 | [],_=>some []
 | d::ds,ρ=>(g d ρ).bind fun ρ1=>(c ρ1).bind fun b=>if b then(e ρ1).bind fun y=>(g8 g c e ds ρ1).map fun r=>y::r else g8 g c e ds ρ1
noncomputable def R5(n:Nat) (caps:List Nat) (src:Rho->Option (List D)) (g:D->Rho->Option Rho) (c:Rho->Option Bool) (e:DE):Rho->Option (List D):=fun ρ=>(src ρ).bind fun ds=>if ds.length<=16777216 then g8 g c e ds (af1 n caps ρ) else none
noncomputable def ax6(K:PySem.W.Frag) (c:Rho->Option Bool):TT:=fun σ H Q=>∃ρ b,c ρ=some b/\∃H0 Hf,B3 Hf H/\Slots K H0 ρ σ H Hf/\∀H' Hf',Grow H Hf H' Hf'->Q b H'
noncomputable def aZ1(K:PySem.W.Frag) (e:DE):TE:=fun σ H Q=>∃ρ d,e ρ=some d/\tJ K ρ (fun _ v _ Hf=>Rep K Hf d v) σ H Q
noncomputable def JTs(X:Cx) (ifs:List Expr) (c:Rho->Option Bool):Prop:=PTs X ifs (ax6 X.K c)
noncomputable def U2:Rho->Option Bool:=fun _=>some true
theorem bw8:JTs X [] U2:=fun pins s σ H Q I ⟨ρ,b,e,H0,Hf,ss,sl,k⟩=>by
 cases e
 exact bt4 pins s σ H Q I (k H Hf (Grow.refl ss))
theorem bw7(h:JT X e c):JTs X [e] c:=fun pins s σ H Q I ⟨ρ,b,e,H0,Hf,ss,sl,k⟩=>bt3 (h ρ b e) pins s σ H Q I ⟨H0,Hf,ss,sl,k⟩
theorem aJ7{K:PySem.W.Frag}{n:Nat}{caps:List Nat}{H0 H H1 H' Hf:Hp}{ρ:Rho}{σ:L2.St}(sl:Slots K H0 ρ σ H Hf):Slots K H1 (af1 n caps ρ) (ao6 n caps σ) H' Hf:=by
 have noown:∀(i:Nat) (ds:List D),(af1 n caps ρ)[i]?≠some (some (.own ds)):=fun i ds h=>by
  unfold af1 at h
  rcases Nat.lt_or_ge i n with q|q
  ·rw[List.getElem?_append_left (by simpa using q),List.getElem?_replicate,if_pos q]at h;cases h
  ·rw[List.getElem?_append_right (by simpa using q),List.getElem?_map]at h
   cases hj:caps[i - (List.replicate n (none:Option B)).length]? with
   | none=>rw[hj]at h;cases h
   | some j =>
    rw[hj]at h
    simp only[Option.map_some,Option.some.injEq]at h
    split at h<;>cases h
 refine⟨by simp[af1,ao6],fun i b e=>?_,fun i j ds es a h1=>(noown i ds h1).elim⟩
 unfold af1 at e
 unfold ao6
 rcases Nat.lt_or_ge i n with q|q
 ·rw[List.getElem?_append_left (by simpa using q),List.getElem?_replicate,if_pos q]at e;cases e
 ·rw[List.getElem?_append_right (by simpa using q),List.getElem?_map]at e
  rw[List.getElem?_append_right (by simpa using q),List.getElem?_map]
  simp only[List.length_replicate]at e ⊢
  cases hj:caps[i - n]? with
  | none=>rw[hj]at e;cases e
  | some j =>
   rw[hj]at e
   simp only[Option.map_some,Option.some.injEq]at e ⊢
   split at e
   ·rename_i d hd
    cases e
    obtain⟨v,h1,h2⟩:=sl.is j _ hd
    exact⟨v,by rw[h1];rfl,h2⟩
   ·cases e
theorem am8{K:PySem.W.Frag}{n:Nat}{caps:List Nat}{ρ:Rho}{src:Rho->Option (List D)}{g:D->Rho->Option Rho}{c:Rho->Option Bool}{e:DE}{out:List D}(h:R5 n caps src g c e ρ=some out) :
  ∃ds,src ρ=some ds/\∀σ H Q,tJ K ρ (fun H v H' Hf'=>∃a vs,v=.ref a/\H a=none/\H' a=some (.lst vs)/\Hf' a=none/\Reps K Hf' out vs) σ H Q->aZ2 n caps (tiJ K ρ ds) (tgJ K g) (ax6 K c) (aZ1 K e) σ H Q:=by
 obtain⟨ds,e1,e2⟩:=xbm h
 split at e2
 ·rename_i hz
  refine⟨ds,e1,fun σ H Q ⟨H0,Hf,s,sl,k⟩=>⟨H0,Hf,s,sl,fun J H1 Hf1 g1 Y Dd hD=>?_⟩⟩
  refine⟨fun i m ys σ' H'=>m=ds.length - i/\i<=ds.length/\∃Hf' ρ' o1 o2,Grow H1 Hf1 H' Hf'/\H' Dd=some (.lst ys)/\Hf' Dd=none/\Slots K (upd H1 Dd (.lst [])) ρ' σ' H' Hf'/\Reps K Hf' o1 ys/\o1.length<=i/\g8 g c e (ds.drop i) ρ'=some o2/\o1++o2=out,
   ⟨ds.length,by simp,Nat.zero_le _,Hf1,af1 n caps ρ,[],out,Grow.made g1.sub hD,A5,g1.sub.free hD,aJ7 (sl.grow g1),rfl,Nat.le_refl _,by simpa using e2,rfl⟩,?_⟩
  rintro i m ys σ' H' ⟨rfl,hi,Hf',ρ',o1,o2,gr,hd1,hd2,sl',rp,ho,ec,eo⟩
  obtain⟨Ys,Yg⟩:=Y i H' Hf' gr.ext gr.sub
  rcases Nat.lt_or_ge i ds.length with hlt|hge
  ·right
   obtain⟨go,yl⟩:=Yg ds[i] (by simp[hlt])
   refine⟨go,fun x H2 hy=>?_⟩
   obtain⟨Hf2,g2,r2⟩:=yl x H2 hy
   rw[List.drop_eq_getElem_cons hlt]at ec
   obtain⟨ρ1,c1,ec⟩:=xbm ec
   obtain⟨b,c2,ec⟩:=xbm ec
   refine⟨ds[i],ρ',ρ1,_,Hf2,c1,g2.sub,sl'.grow g2,r2,fun σ3 sl3=>⟨ρ1,b,c2,_,Hf2,g2.sub,sl3,fun H4 Hf4 g4=>?_⟩⟩
   have gr4:=(gr.trans g2).trans g4
   have hd4:H4 Dd=some (.lst ys):=g4.big _ _ (g2.big _ _ hd1)
   have hf4:Hf4 Dd=none:=(g2.trans g4).nofr hd1 hd2
   have rp4:=rp.mono (g2.trans g4).ext
   cases b with
   | false =>
    rw[if_neg Bool.false_ne_true]at ec
    refine aa4 ?_
    exact⟨ds.length - (i+1),by grind,rfl,hlt,Hf4,ρ1,o1,o2,gr4,hd4,hf4,sl3.grow g4,rp4,by grind,ec,eo⟩
   | true =>
    rw[if_pos rfl]at ec
    refine aa3 ?_
    obtain⟨y,c3,ec⟩:=xbm ec
    obtain⟨o3,c4,rfl⟩:=Option.map_eq_some_iff.mp ec
    refine⟨ρ1,y,c3,_,Hf4,g4.sub,sl3.grow g4,fun v H5 Hf5 g5 r5=>⟨g5.big _ _ hd4,?_,?_⟩⟩
    ·rw[rp.length,sizeLine_eq];grind
    ·have hf5:Hf5 Dd=none:=g5.nofr hd4 hf4
     have gr5:=gr4.trans g5
     refine⟨ds.length - (i+1),by grind,rfl,hlt,Hf5,ρ1,o1++[y],o3,⟨fun b u q=>?_,fun b u q=>?_,gr5.ext,gr5.new⟩,A5,hf5,?_,(rp4.mono g5.ext).append ⟨v,[],rfl,r5,rfl⟩,by simp;grind,c4,by simp[← eo]⟩
     ·rw[A3 (B4 q hD)];exact gr5.big b u q
     ·rw[A3 (B4 q hf5)];exact gr5.sub b u q
     ·have sl5:=(sl3.grow g4).grow g5
      refine⟨sl5.len,fun j bb q=>?_,sl5.apart⟩
      obtain⟨w,q1,q2⟩:=sl5.is j bb q
      refine⟨w,q1,?_⟩
      cases bb with
      | val d=>exact q2
      | exc C=>exact q2
      | opq _=>exact q2
      | own dd =>
       obtain⟨a,vs,z1,z2,z3,z4,z5⟩:=q2
       have ne:a≠Dd:=fun z=>by rw[z,A5]at z4;cases z4
       exact⟨a,vs,z1,by rw[A3 ne];exact z2,z3,z4,z5⟩
  ·left
   have:i=ds.length:=by grind
   subst this
   rw[List.drop_length]at ec
   cases ec
   rw[List.append_nil]at eo
   subst eo
   exact⟨Ys (Nat.le_refl _),k _ H' Hf' (g1.trans gr) ⟨Dd,ys,rfl,g1.big.free hD,hd1,hd2,rp⟩⟩
 ·cases e2
end
end G
namespace G
open PySem PySem.Spec PyProof.Rows L2
section
variable {X:Cx}
noncomputable def aj4(N N':List Str) (n:Nat) (caps:List Nat) (sc scope:Scope):Bool :=
 (match scope.kind with | .function=>true|_=>false) &&
 (scope.names.all fun y=>(match y.2 with | .cell=>false | .local=>scope.names.lookup y.1==some .local | .free=>sc.names.lookup y.1==some .cell || sc.names.lookup y.1==some .free|_=>true)) &&
 (N'.length==n+caps.length) &&
 ((List.range caps.length).all fun i=>match caps[i]? with
  | some j=>(match N[j]? with|some x=>N'[n+i]? == some x&&scope.names.lookup x==some .free|none=>false)
  | none=>true)
theorem aW3(h:aj4 N N' n caps sc scope=true) (hN:X.N=N) (hS:X.env.scope=sc):CompSc X N' n caps scope:=by
 subst hN hS
 unfold aj4 at h
 simp only[Bool.and_eq_true,List.all_eq_true]at h
 obtain⟨⟨⟨h1,h2⟩,h3⟩,h4⟩:=h
 refine⟨?_,fun y hy e=>?_,fun y hy e=>?_,fun y hy e=>?_,by simpa using h3,fun i j e=>?_⟩
 ·cases q:scope.kind<;>rw[q]at h1<;>first|rfl|cases h1
 ·have:=h2 y hy
  rw[e]at this;cases this
 ·have:=h2 y hy
  rw[e]at this;simpa using this
 ·have:=h2 y hy
  rw[e]at this;simpa using this
 ·have hi:i < caps.length:=(List.getElem?_eq_some_iff.mp e).1
  have:=h4 i (by simpa using hi)
  rw[e]at this
  simp only at this
  cases q:X.N[j]? with
  | none=>rw[q]at this;cases this
  | some x =>
   rw[q]at this
   simp only[Bool.and_eq_true]at this
   exact⟨x,rfl,by simpa using this.1,by simpa using this.2⟩
theorem aQ2(S:CompSc X N' n caps scope) (I:Inv X pins σ H s):closureFor scope X.env=pure (P9 X.env.cells scope.names []) :=
 bA0 fun y hy e=>I.ok.has y.1 (S.free y hy e)
theorem bx6(S:CompSc X N' n caps scope) (hx:∀e s,X.xe e s->False)
  (hi:JI X tgt iter src) (hg:∀C s0 H0 ex,JG (G2 X N' scope C s0 H0 ex) tgt g) (ht:∀C s0 H0 ex,JTs (G2 X N' scope C s0 H0 ex) ifs c) (he:∀C s0 H0 ex,JE (G2 X N' scope C s0 H0 ex) elt e)
  (hc:X.calm=true:=by rfl) (hs:∀x,foldedSetIterable iter X.env x=pure x:=by intro _;rfl):JN X (.ListComp elt [⟨tgt,iter,ifs,0⟩] scope pos) (R5 n caps src g c e):=by
 intro ρ out h
 obtain⟨ds,e1,k⟩:=am8 (K:=X.K) h
 intro pins s σ H Q I t
 rw[eval_ListComp]
 refine wpAny_comprehension_free (use:=none) rfl hs (aQ2 S I) S.kind S.loc (aD2 (RR:=fun acc C=>compPost (model X.prog X.w) X.A X.xe none (EP X pins σ Q) acc C) S hx hc (hi ρ ds e1) (g:=tgJ X.K g) (tc:=ax6 X.K c) (te:=aZ1 X.K e) hg ht (fun C s0 H0 ex pins s σ H Q I ⟨ρ,d,e,t⟩=>he C s0 H0 ex ρ d e pins s σ H Q I t) I (k σ H Q t) ?_)
 intro Dd C r s' hr ⟨m,hn,kk⟩ _
 subst hr
 exact⟨m,hn,fun h' sb=>let⟨H',I',q⟩:=kk h' sb;⟨.ref Dd,H',I',rfl,q⟩⟩
theorem aG6(S:CompSc X N' n caps scope) (hx:∀e s,X.xe e s->False) (hc:X.calm=true)
  (hN:X.N.Nodup) (hi:X.N[i]? = some x) (hl:X.env.scope.names.lookup x=some .local) (hsrc:PI X tgt iter wi) (hg:∀C s0 H0 ex,PG (G2 X N' scope C s0 H0 ex) tgt g) (ht:∀C s0 H0 ex,PTs (G2 X N' scope C s0 H0 ex) ifs tc) (he:∀C s0 H0 ex,PE (G2 X N' scope C s0 H0 ex) elt te)
  (hsw:swapsWith (.ListComp elt [⟨tgt,iter,ifs,0⟩] scope pos) (some (.Name x pos')) spos.line X.env=pure true) (hs:∀x,foldedSetIterable iter X.env x=pure x) :
  PS X (.Assign [.Name x pos'] (.ListComp elt [⟨tgt,iter,ifs,0⟩] scope pos) spos) (fun En σ H=>aZ2 n caps wi g tc te σ H fun v H'=>En.nx (σ.set i (some v)) H'):=by
 intro pins s σ H En I h
 rw[exec_Assign_Name_used _ _ _ _ hsw]
 refine wpAny_bind (wpAny_standAt (wpAny_bind ?_))
 show wpAny _ X.A (do let _ ← comprehension (.ListComp elt [⟨tgt,iter,ifs,0⟩] scope pos) scope X.env _ (newList []) false (eval iter X.env) (some (assign (.Name x pos') X.env))) _ _ s
 refine wpAny_bind (wpAny_mono (wpAny_comprehension_free (use:=some (assign (.Name x pos') X.env)) (Q:=fun _ s'=>SP X pins En .next s') rfl hs (aQ2 S I) S.kind S.loc
  (aD2 (RR:=fun acc C=>compPost (model X.prog X.w) X.A X.xe (some (assign (.Name x pos') X.env)) (fun _ s'=>SP X pins En .next s') acc C) S hx hc hsrc hg ht he I h ?_)) (fun _ s' hq=>wpAny_pure (wpAny_pure hq)) fun _ _ z=>z)
 intro Dd C r s' hr _ ⟨s2,fp,σ',H2,H',eC,I2,f2,I',q⟩
 subst hr eC
 have IX:Inv X pins σ H' s':=aq9 (h':=s'.heap) I2 f2 I' (Heap.SameBut.refl ..)
 obtain⟨mC,hnC,_⟩:=I'.loc
 have hCL:s2.heap.objs.size≠X.env.locals:=fun z=>by
  have:=I2.lt
  rw[← z]at this
  exact Nat.lt_irrefl _ this
 show wpAny _ X.A (assign (.Name x pos') X.env (.ref Dd)) _ _ _
 refine wpAny_assign_Name (ap2 (v:=.ref Dd) IX hN hi (.inl hl) rfl (fun s3 I3 ⟨a,sb,ha⟩=>?_) (.inr hl))
 have hCa:s2.heap.objs.size≠a:=fun z=>by
  rcases ha with ha|ha
  ·exact hCL (z.trans ha)
  ·obtain⟨v,q'⟩:=I2.cell x a ha
   have:=q'.lt
   rw[← z]at this
   exact Nat.lt_irrefl _ this
 refine⟨mC,hnC.sameBut sb hCa,fun h' sb'=>?_⟩
 refine⟨_,H',I3.turned (t':=s3.toks) (it:=s2.heap.objs.size) (fun b o hb e=>sb'.extBut b o hb e) I'.free hCL (.inr I2.sz) (fun y c e z=>?_) (fun p hp z=>?_),q⟩
 ·obtain⟨v,q'⟩:=I2.cell y c e
  have:=q'.lt
  rw[z]at this
  exact Nat.lt_irrefl _ this
 ·have:=Heap.lt_size (I2.pin p hp).1
  rw[z]at this
  exact Nat.lt_irrefl _ this
noncomputable def c9(i:Nat) (f:Rho->Option (List D)):DS:=fun ρ=>(f ρ).map fun ds=>.nx (ρ.set i (some (.val (.list ds))))
theorem bx2(i:Nat) (hN:X.N.Nodup) (S:CompSc X N' n caps scope) (hx:∀e s,X.xe e s->False)
  (hi:JI X tgt iter src) (hg:∀C s0 H0 ex,JG (G2 X N' scope C s0 H0 ex) tgt g) (ht:∀C s0 H0 ex,JTs (G2 X N' scope C s0 H0 ex) ifs c) (he:∀C s0 H0 ex,JE (G2 X N' scope C s0 H0 ex) elt e)
  (hi2:X.N[i]? = some x:=by rfl) (hl:X.env.scope.names.lookup x=some .local:=by rfl) (hsw:swapsWith (.ListComp elt [⟨tgt,iter,ifs,0⟩] scope pos) (some (.Name x pos')) spos.line X.env=pure true:=by rfl)
  (hc:X.calm=true:=by rfl) (hs:∀x,foldedSetIterable iter X.env x=pure x:=by intro _;rfl):JS X (.Assign [.Name x pos'] (.ListComp elt [⟨tgt,iter,ifs,0⟩] scope pos) spos) (c9 i (R5 n caps src g c e)):=fun ρ fl q H0 Hf0=>by
 obtain⟨out,e1,e2⟩:=Option.map_eq_some_iff.mp q
 subst e2
 obtain⟨ds,e3,k⟩:=am8 (K:=X.K) e1
 refine D9 (aG6 S hx hc hN hi2 hl (hi ρ ds e3) (g:=tgJ X.K g) (tc:=ax6 X.K c) (te:=aZ1 X.K e) hg ht (fun C s0 H0 ex pins s σ H Q I ⟨ρ,d,e,t⟩=>he C s0 H0 ex ρ d e pins s σ H Q I t) hsw hs) fun En σ H ⟨Hf,a,ee⟩=>k σ H _ ⟨H0,Hf,a.gr.sub,a.sl,fun v H' Hf' gg ⟨p,vs,z1,z2,z3,z4,z5⟩=>?_⟩
 subst z1
 have g2:=gg.freeze z3 z4 z2
 exact ee _ H' _ ⟨a.gr.trans g2,(a.sl.grow g2).set ⟨p,vs,rfl,SqL.of A5,z5.mono (C6 z4)⟩⟩ g2.ext
theorem bP6{kt k2 pt2} (hN:X.N.Nodup) (ha:JA X [a,b] f) (hw:swappedStores [.Tuple [.Name x px,.Name y py] kt pt] (.Tuple [a,b] k2 pt2) X.env=pure (some [x,y])) (hij:i≠j)
  (hi:X.N[i]? = some x:=by rfl) (hj:X.N[j]? = some y:=by rfl) (hx:X.env.scope.names.lookup x=some .local:=by rfl) (hy:X.env.scope.names.lookup y=some .local:=by rfl) (hc:X.calm=true:=by rfl)
  (hs:swapsWithSole [.Tuple [.Name x px,.Name y py] kt pt] (.Tuple [a,b] k2 pt2) pos.line X.env=pure false:=by rfl):JS X (.Assign [.Tuple [.Name x px,.Name y py] kt pt] (.Tuple [a,b] k2 pt2) pos) (ba5 i j f):=fun ρ fl q H0 Hf0=>by
 obtain⟨ds,e1,e2⟩:=xbm q
 split at e2
 ·cases e2
  refine D9 (bK8 hc hN hi hj hij hx hy (fun pos pins s σ H Q I t=>ha.run ρ _ e1 pos pins s σ H Q I t) hw hs) fun En σ H ⟨Hf,at',e⟩=>⟨H0,Hf,at'.gr.sub,at'.sl,fun vs H' Hf' gg rp=>?_⟩
  obtain⟨v,r,rfl,r1,w,r',rfl,r2,r3⟩:=rp
  cases r3
  exact⟨v,w,rfl,e _ H' Hf' ⟨at'.gr.trans gg,((at'.sl.grow gg).set r1).set r2⟩ gg.ext⟩
 ·cases e2
noncomputable def ba6(f:DE) (g:D->Rho->Option Rho):DS:=fun ρ=>(f ρ).bind fun d=>(g d ρ).map Fl.nx
theorem bh0(he:JE X e f) (hg:JG X tg g) (hs:swapsWithSole [tg] e pos.line X.env=pure false:=by rfl) (hw:swappedStores [tg] e X.env=pure none:=by rfl)
  (h1:(assignEach [tg] X.env).map (·.2)=[assign tg X.env]:=by rfl):JS X (.Assign [tg] e pos) (ba6 f g):=fun ρ fl q H0 Hf0=>by
 obtain⟨d,e1,e2⟩:=xbm q
 obtain⟨ρ',e3,e4⟩:=Option.map_eq_some_iff.mp e2
 subst e4
 exact D9 (bb7 (he ρ d e1) hg hs hw h1) fun En σ H ⟨Hf,a,ee⟩=>⟨H0,Hf,a.gr.sub,a.sl,fun v H' Hf' gg r=>⟨d,ρ,ρ',H0,Hf',e3,gg.sub,a.sl.grow gg,r,fun σ' sl'=>ee σ' H' Hf' ⟨a.gr.trans gg,sl'⟩ gg.ext⟩⟩
noncomputable def frz(i:Nat) (ρ:Rho):Rho:=match ρ[i]? with
 | some (some (.own ds))=>ρ.set i (some (.val (.list ds)))
 | _=>ρ
theorem bR9{K:PySem.W.Frag}{H0 Hf0 H Hf:Hp}{ρ:Rho}{σ:L2.St}(i:Nat) (a:At K H0 Hf0 ρ σ H Hf):∃Hf',B3 Hf Hf'/\At K H0 Hf0 (frz i ρ) σ H Hf':=by
 unfold frz
 split
 ·rename_i ds eo
  obtain⟨v,h1,b,vs,rfl,h2,h3,h4,h5⟩:=a.sl.is i _ eo
  have g:Grow H0 Hf0 H (upd Hf b (.lst vs)):=a.gr.freeze h2 h3 h4
  refine⟨upd Hf b (.lst vs),C6 h3,g,⟨by simpa using a.sl.len,fun j bb z=>?_,fun j k ds1 es c q1 q2 q3 q4=>?_⟩⟩
  ·have hi:i < ρ.length:=(List.getElem?_eq_some_iff.mp eo).1
   by_cases qj:i=j
   ·subst qj
    rw[List.getElem?_set_self hi]at z
    cases z
    exact⟨_,h1,b,vs,rfl,SqL.of A5,h5.mono (C6 h3)⟩
   ·rw[List.getElem?_set_ne qj]at z
    obtain⟨u,z1,z2⟩:=a.sl.is j bb z
    refine⟨u,z1,?_⟩
    cases bb with
    | val d=>exact Rep.mono (C6 h3) z2
    | opq _=>exact z2
    | exc C =>
     obtain⟨a',o',C',y1,y2,y3⟩:=z2
     exact⟨a',o',C',y1,C6 h3 _ _ y2,y3⟩
    | own dd =>
     obtain⟨a',vs',y1,y2,y3,y4,y5⟩:=z2
     have ne:a'≠b:=fun zz=>by
      subst zz y1
      exact qj (a.sl.apart i j ds dd a' eo z h1 z1)
     exact⟨a',vs',y1,y2,by rw[A3 ne];exact y3,y4,y5.mono (C6 h3)⟩
  ·have hi:i < ρ.length:=(List.getElem?_eq_some_iff.mp eo).1
   have qj:i≠j:=fun z=>by subst z;rw[List.getElem?_set_self hi]at q1;cases q1
   have qk:i≠k:=fun z=>by subst z;rw[List.getElem?_set_self hi]at q2;cases q2
   rw[List.getElem?_set_ne qj]at q1
   rw[List.getElem?_set_ne qk]at q2
   exact a.sl.apart j k ds1 es c q1 q2 q3 q4
 ·exact⟨Hf,B3.refl _,a⟩
noncomputable def ch7(i:Nat) (f:DS):DS:=fun ρ=>f (frz i ρ)
theorem cj1(i:Nat) {st:Stmt}{f:DS}(h:JS X st f):JS X st (ch7 i f):=fun ρ fl q H0 Hf0=>D9 (h (frz i ρ) fl q H0 Hf0) fun En σ H ⟨Hf,a,e⟩=>by
 obtain⟨Hf',s,a'⟩:=bR9 i a
 exact⟨Hf',a',Fl.ends_mono e s⟩
noncomputable def bX2(K:PySem.W.Frag) (H0 Hf0:Hp) (f:DS):TS:=fun En σ H=>∃ρ fl,f ρ=some fl/\tJS K H0 Hf0 ρ fl En σ H
theorem bt6(h:JSs X sts f):PSs X sts (bX2 X.K H0 Hf0 f):=fun pins s σ H En I ⟨ρ,fl,e,t⟩=>h ρ fl e H0 Hf0 pins s σ H En I t
theorem bK7(h:JT X e c):PT X e (ax6 X.K c):=fun pins s σ H Q I ⟨ρ,b,e,t⟩=>h ρ b e pins s σ H Q I t
noncomputable def T6(t:Rho->Option Bool) (f:DS):Nat->DS
 | 0=>fun _=>none
 | n+1=>fun ρ=>(t ρ).bind fun c=>if c then(f ρ).bind fun fl=>match fl with
   | .nx ρ'=>T6 t f n ρ'
   | .ct ρ'=>T6 t f n ρ'
   | .bk ρ'=>some (.nx ρ')
   | .rt d=>some (.rt d)
  else some (.nx ρ)
theorem aa2:∀{n:Nat}{ρ:Rho}{fl:Fl},T6 t f n ρ=some fl->T6 t f (n+1) ρ=some fl
 | 0,_,_,h=>by cases h
 | n+1,ρ,fl,h=>by
  obtain⟨c,e1,h⟩:=xbm h
  show(t ρ).bind _=_
  rw[e1]
  cases c with
  | false=>exact h
  | true =>
   obtain⟨fl1,e2,h⟩:=xbm h
   show(f ρ).bind _=_
   rw[e2]
   cases fl1 with
   | nx ρ'=>exact aa2 (n:=n) h
   | ct ρ'=>exact aa2 (n:=n) h
   | bk ρ'=>exact h
   | rt d=>exact h
theorem aB8(h:T6 t f n ρ=some fl) (l:n<=m):T6 t f m ρ=some fl:=by
 induction l with
 | refl=>exact h
 | step _ ih=>exact aa2 ih
open Classical in
noncomputable def Z5(t:Rho->Option Bool) (f:DS):DS:=fun ρ=>if h:∃fl n,T6 t f n ρ=some fl then some h.choose else none
theorem ap3(h:T6 t f n ρ=some fl):Z5 t f ρ=some fl:=by
 have hx:∃fl n,T6 t f n ρ=some fl:=⟨fl,n,h⟩
 unfold Z5
 rw[dif_pos hx]
 obtain⟨m,hm⟩:=hx.choose_spec
 have h1:=aB8 h (Nat.le_max_left n m)
 have h2:=aB8 hm (Nat.le_max_right n m)
 rw[h1]at h2
 exact h2.symm
theorem aS8(h:Z5 t f ρ=some fl):∃n,T6 t f n ρ=some fl:=by
 unfold Z5 at h
 split at h
 ·rename_i hx
  cases h
  exact hx.choose_spec
 ·cases h
theorem bg9(hc:JT X c t) (hb:JSs X body f) (hp:PassesOwn (model X.prog X.w) X.A X.env X.xe:=by exact PassesOwn.never):JS X (.While c body [] pos) (Z5 t f):=fun ρ fl q H0 Hf0=>by
 obtain⟨n,hn⟩:=aS8 q
 refine D9 (bb5 hp (bK7 hc) (bt6 (H0:=H0) (Hf0:=Hf0) hb)) fun En σ H ⟨Hf,a,e⟩=>?_
 refine⟨fun m σ H=>∃Hf' ρ',At X.K H0 Hf0 ρ' σ H Hf'/\B3 Hf Hf'/\T6 t f m ρ'=some fl,⟨n,Hf,ρ,a,B3.refl _,hn⟩,?_⟩
 rintro m σ' H' ⟨Hf',ρ',a',s',hm⟩
 cases m with
 | zero=>cases hm
 | succ m =>
  obtain⟨b,e1,hm⟩:=xbm hm
  refine⟨ρ',b,e1,H0,Hf',a'.gr.sub,a'.sl,fun H2 Hf2 g2=>?_⟩
  have a2:=a'.grow g2
  have s2:=s'.trans g2.ext
  cases b with
  | false =>
   have:fl=.nx ρ':=by simpa using hm.symm
   subst this
   exact aa4 (e σ' H2 Hf2 a2 s2)
  | true =>
   obtain⟨fl1,e2,hm⟩:=xbm (show(f ρ').bind _=some fl from hm)
   refine aa3 ⟨fun σ3 H3=>∃m',m' < m+1/\∃Hf' ρ',At X.K H0 Hf0 ρ' σ3 H3 Hf'/\B3 Hf Hf'/\T6 t f m' ρ'=some fl,fun σ3 H3 z=>z,ρ',fl1,e2,Hf2,a2,?_⟩
   cases fl1 with
   | nx ρ3=>exact fun σ3 H3 Hf3 a3 s3=>⟨m,Nat.lt_succ_self _,Hf3,ρ3,a3,s2.trans s3,hm⟩
   | ct ρ3=>exact fun σ3 H3 Hf3 a3 s3=>⟨m,Nat.lt_succ_self _,Hf3,ρ3,a3,s2.trans s3,hm⟩
   | bk ρ3 =>
    cases hm
    exact fun σ3 H3 Hf3 a3 s3=>e σ3 H3 Hf3 a3 (s2.trans s3)
   | rt d =>
    cases hm
    exact e
theorem bx1:JS X (.Pass pos) o8:=fun ρ fl q H0 Hf0=>by
 cases q
 exact D9 bt7 fun En σ H ⟨Hf,a,e⟩=>e σ H Hf a (B3.refl _)
end
noncomputable def P8(n:Nat) (ds:List D):Rho:=ds.map (fun d=>some (B.val d))++List.replicate (n - ds.length) none
noncomputable def U3(g:DS) (n:Nat):List D->Option D:=fun ds=>(g (P8 n ds)).bind fun fl=>match fl with
 | .rt d=>some d
 | .nx _=>some .none
 | _=>none
theorem W3{K:PySem.W.Frag}{H0 H Hf:Hp}{N:List Str}{ds:List D}{vs:List V}(r:Reps K Hf ds vs):Slots K H0 (P8 N.length ds) (L2.start N vs) H Hf:=by
 have hl:=r.length
 have noown:∀(i:Nat) (b:B),(P8 N.length ds)[i]? = some (some b)->∃d,ds[i]? = some d/\b=.val d:=fun i b h=>by
  unfold P8 at h
  rcases Nat.lt_or_ge i ds.length with q|q
  ·rw[List.getElem?_append_left (by simpa using q),List.getElem?_map]at h
   rw[List.getElem?_eq_getElem q]at h ⊢
   simp only[Option.map_some,Option.some.injEq]at h
   exact⟨ds[i],rfl,h.symm⟩
  ·rw[List.getElem?_append_right (by simpa using q),List.getElem?_replicate]at h
   split at h<;>cases h
 refine⟨by simp[P8,L2.start,hl],fun i b e=>?_,fun i j d1 d2 a e1 _ _ _=>?_⟩
 ·obtain⟨d,h1,h2⟩:=noown i b e
  subst h2
  obtain⟨v,h3,h4⟩:=r.get h1
  refine⟨v,?_,h4⟩
  have hi:i < vs.length:=(List.getElem?_eq_some_iff.mp h3).1
  unfold L2.start
  rw[List.getElem?_append_left (by simpa using hi),List.getElem?_map,h3];rfl
 ·obtain⟨d,_,h2⟩:=noown i _ e1
  cases h2
theorem bz0{P:Program}{w:World}{K:PySem.W.Frag}{mg:Str->Option Value}{base:Heap}{x qual:Str}{st:Stmt}{f:Addr}{fd:FuncData}{N ps:List Str}{k:Nat}{g:DS}(F:Fun K x qual st f fd) (S:FnScope N ps (A7 st))
  (hb:∀(cdv:Value) (A:Around) (outer:List Env) (s:Shared) (H:Hp) (E:XK),Room k (A.deeper (envOfC qual (A7 st) s.heap.objs.size f cdv))->JSs (l7 CX0 P w K mg base N qual (A7 st) f cdv A outer s H E).nox (A4 st) g) :
  FnOk P w K mg base CX0 (k+1) f fd ps (spF K ps.length (U3 g N.length)):=by
 refine F.ok S (fun vs H Q E h=>h.1) fun cdv A outer s H vs Q E hr hsp=>?_
 obtain⟨hlen,Hf,ds,d,ss,rp,e,kk⟩:=hsp
 obtain⟨fl,e1,e2⟩:=xbm e
 refine⟨_,hb cdv A outer s H E hr _ fl e1 H Hf,Hf,⟨Grow.refl ss,W3 rp⟩,?_⟩
 cases fl with
 | rt d'=>cases e2;exact fun v H' Hf' g r=>kk v H' Hf' g r
 | nx ρ=>cases e2;exact fun σ' H' Hf' a _=>kk _ H' Hf' a.gr rfl
 | bk ρ=>cases e2
 | ct ρ=>cases e2
end G
namespace G
open PySem PySem.Spec PyProof.Rows L2
noncomputable def SIt:Bool->Heap->Addr->Addr->Nat->Prop
 | true=>Heap.IsTupleIter
 | false=>Heap.IsListIter
noncomputable def SSq:Bool->Heap->Addr->Array Value->Prop
 | true=>Heap.IsTuple
 | false=>Heap.IsList
section
variable {prog:Program}{w:World}{A:Around}{E:Value->Shared->Prop}{s:Shared}{t t1 t2:Bool}
theorem SIt.ext(x:SIt t h it l k) (e:∀o,h.get? it=some o->h'.get? it=some o):SIt t h' it l k:=by
 cases t with
 | true=>obtain⟨o,ho,r⟩:=x;exact⟨o,e o ho,r⟩
 | false=>obtain⟨o,ho,r⟩:=x;exact⟨o,e o ho,r⟩
theorem SSq.ext(x:SSq t h l xs) (e:∀o,h.get? l=some o->h'.get? l=some o):SSq t h' l xs:=by
 cases t with
 | true=>obtain⟨o,ho,r⟩:=x;exact⟨o,e o ho,r⟩
 | false=>obtain⟨o,ho,r⟩:=x;exact⟨o,e o ho,r⟩
theorem SIt.lt(x:SIt t h it l k):it < h.objs.size:=by
 cases t with
 | true=>obtain⟨o,ho,_⟩:=x;exact Heap.lt_size ho
 | false=>obtain⟨o,ho,_⟩:=x;exact Heap.lt_size ho
theorem aF6(hit:s.heap.IsTupleIter it l k) (hl:s.heap.IsTuple l xs) (hx:xs[k]? = some x)
  (hQ:∀h',h'.IsTupleIter it l (k+1)->Heap.SameBut it s.heap h'->Q x { s with heap:=h' }):wpAny (model prog w) A (Builtin.SmallTypes.nextOf (.ref it)) Q E s:=by
 obtain⟨o,ho,hc,hd⟩:=id hit;obtain⟨ol,hol,_,nl,hdl⟩:=hl;unfold Builtin.SmallTypes.nextOf
 refine wpAny_bind (wpAny_callSpecial?_slot (name:=Str.ofString "__next__") hit.typeIs F.slot_tuple_iterator_next (wpAny_call_entry F.slot_tuple_iterator_next hit.typeIs F.entry_tuple_iterator_next ?_ (F.args_tuple_iterator_next_1 _)))
 show wpAny _ _ (field (.ref it) 0 >>= _) _ _ s;refine wpAny_bind (wpAny_field ho hd (x:=.ref l) rfl ?_);show wpAny _ _ (if(Value.ref l==Value.none)=true then _ else _) _ _ s
 rw[if_neg (show ¬((Value.ref l==Value.none)=true) from Bool.false_ne_true)];show wpAny _ _ (field (.ref it) 1 >>= _) _ _ s
 refine wpAny_bind (wpAny_field ho hd (x:=.int k 0) rfl ?_);show wpAny _ _ (seqItems? (.ref l) >>= _) _ _ s;refine wpAny_bind (wpAny_seqItems hol hdl ?_);simp only[Int.toNat_natCast,hx]
 refine wpAny_bind (wpAny_setField ho hd (by simp) (wpAny_pure ⟨x,rfl,wpAny_pure (hQ _ ⟨_,Heap.get?_update_self _ ho (Obj.isFreed_of_fields (Obj.data_mapFields hd _)),(Obj.cls_mapFields ..).trans hc,?_⟩ (Heap.SameBut.update ..))⟩))
 rw[Obj.data_mapFields hd];simp[rawInt]
theorem aR4(hh:A.handled=none) (hit:s.heap.IsTupleIter it l k) (hl:s.heap.IsTuple l xs) (hx:xs[k]? = none)
  (hE:∀h' e,Heap.ExtBut it s.heap h'->(∃o,h'.get? e=some o/\o.cls=.type "StopIteration")->E (.ref e) { s with heap:=h' }):wpAny (model prog w) A (Builtin.SmallTypes.nextOf (.ref it)) Q E s:=by
 obtain⟨o,ho,hc,hd⟩:=id hit;obtain⟨ol,hol,_,nl,hdl⟩:=hl;unfold Builtin.SmallTypes.nextOf
 refine wpAny_bind (wpAny_callSpecial?_slot (name:=Str.ofString "__next__") hit.typeIs F.slot_tuple_iterator_next (wpAny_call_entry F.slot_tuple_iterator_next hit.typeIs F.entry_tuple_iterator_next ?_ (F.args_tuple_iterator_next_1 _)))
 show wpAny _ _ (field (.ref it) 0 >>= _) _ _ s;refine wpAny_bind (wpAny_field ho hd (x:=.ref l) rfl ?_);show wpAny _ _ (if(Value.ref l==Value.none)=true then _ else _) _ _ s
 rw[if_neg (show ¬((Value.ref l==Value.none)=true) from Bool.false_ne_true)];show wpAny _ _ (field (.ref it) 1 >>= _) _ _ s
 refine wpAny_bind (wpAny_field ho hd (x:=.int k 0) rfl ?_);show wpAny _ _ (seqItems? (.ref l) >>= _) _ _ s;refine wpAny_bind (wpAny_seqItems hol hdl ?_);simp only[Int.toNat_natCast,hx]
 refine wpAny_bind (wpAny_rule (wpAny_bind (wpAny_setField ho hd (by simp) ?_)));show wpAny _ _ (newExc (.type "StopIteration") [] >>= _) _ _ _;refine wpAny_bind ?_;simp only[newExc,newTuple]
 refine wpAny_bind (wpAny_newObj_type ?_ (by size_fits));refine wpAny_bind (m:=firstArgMember _ _) (wpAny_of_eq (a:=Value.none) (by first|rfl|(simp only[firstArgMember];rfl)) ?_);refine wpAny_newObj_type ?_ (by size_fits)
 simp only[raiseNew];refine wpAny_bind (wpAny_handled ?_);first|rw[show A.in1.handled=none from hh]|rw[hh]
 refine wpAny_bind (wpAny_pure (wpAny_throw ?_));exact hE _ _ (((Heap.SameBut.update ..).extBut.push _).push _) ⟨_,Heap.get?_push_size _ rfl,rfl⟩
theorem ak7(hit:SIt t s.heap it l k) (hl:SSq t s.heap l xs) (hx:xs[k]? = some x)
  (hQ:∀h',SIt t h' it l (k+1)->Heap.SameBut it s.heap h'->Q x { s with heap:=h' }):wpAny (model prog w) A (Builtin.SmallTypes.nextOf (.ref it)) Q E s:=by
 cases t with
 | true=>exact aF6 hit hl hx hQ
 | false=>exact wpAny_nextOf_list_item hit hl hx hQ
theorem aL5(hh:A.handled=none) (hit:SIt t s.heap it l k) (hl:SSq t s.heap l xs) (hx:xs[k]? = none)
  (hE:∀h' e,Heap.ExtBut it s.heap h'->(∃o,h'.get? e=some o/\o.cls=.type "StopIteration")->E (.ref e) { s with heap:=h' }):wpAny (model prog w) A (Builtin.SmallTypes.nextOf (.ref it)) Q E s:=by
 cases t with
 | true=>exact aR4 hh hit hl hx hE
 | false=>exact wpAny_nextOf_list_end hh hit hl hx hE
theorem aR5{z TI TO i1 i2 l1 l2:Addr}{k1 k2:Nat}{xs ys:Array Value}{x y a b:Value}{Q:Value->Shared->Prop}(Z:ZipApart z TI TO i1 i2 l1 l2)
  (hz:IsZip s.heap z TI TO .none) (hTI:IsPair s.heap TI (.ref i1) (.ref i2)) (hTO:IsPair s.heap TO a b) (h1:SIt t1 s.heap i1 l1 k1) (h2:SIt t2 s.heap i2 l2 k2) (hl1:SSq t1 s.heap l1 xs) (hl2:SSq t2 s.heap l2 ys) (hx:xs[k1]? = some x) (hy:ys[k2]? = some y)
  (hQ:∀h',IsZip h' z TI TO (rawInt s.heap.objs.size)->IsPair h' TO x y->SIt t1 h' i1 l1 (k1+1)->SIt t2 h' i2 l2 (k2+1)->IsPair h' s.heap.objs.size x y->h'.objs.size=s.heap.objs.size+1 ->
   (∀c o,c≠z->c≠TO->c≠i1->c≠i2->s.heap.get? c=some o->h'.get? c=some o)->Q (.ref s.heap.objs.size) { s with heap:=h' }) :
  wpAny (model prog w) A (Builtin.«zip.__next__» ⟨[.ref z],[]⟩) (fun fin s'=>∃v,fin=.done (.ret v)/\Q v s') E s:=by
 show wpAny _ _ (field (.ref z) 2 >>= _) _ _ _;refine wpAny_bind (wpAny_field hz rfl (x:=.bool false) rfl ?_);show wpAny _ _ (field (.ref z) 3 >>= _) _ _ _;refine wpAny_bind (wpAny_field hz rfl (x:=.ref TI) rfl ?_)
 refine wpAny_bind (wpAny_seqItems hTI rfl ?_);show wpAny _ _ (Builtin.SmallTypes.ownedTupleIsFree (.ref z) >>= _) _ _ _;refine wpAny_bind ?_;unfold Builtin.SmallTypes.ownedTupleIsFree
 refine wpAny_bind (wpAny_field hz rfl (x:=.none) rfl (wpAny_pure ?_));simp only[if_true];refine wpAny_bind (wpAny_rule ?_);refine wpAny_bind (wpAny_field hz rfl (x:=.ref TO) rfl ?_)
 refine wpAny_bind (wpAny_setField_rec hz (by simp) fun ha za sa=>?_);have za':IsZip ha z TI TO .ellipsis:=za
 refine wpAny_bind ?_;simp only[List.zipIdx_cons,List.zipIdx_nil,List.forIn_cons,List.forIn_nil];refine wpAny_bind (wpAny_bind (wpAny_onRaise ?_));show wpAny _ _ (Builtin.SmallTypes.nextOf (.ref i1) >>= _) _ _ _
 refine wpAny_bind (ak7 (h1.ext fun o e=>sa.extBut _ _ Z.i1z e) (hl1.ext fun o e=>sa.extBut _ _ Z.l1z e) hx fun hb h1b sb=>wpAny_pure ?_)
 have hTOb:IsPair hb TO a b:=sb.extBut _ _ Z.TOi1 (sa.extBut _ _ Z.TOz hTO)
 refine wpAny_bind (wpAny_seqItems hTOb rfl ?_);refine wpAny_bind (wpAny_updateSeq_pair hTOb fun hcc TOc sc=>?_);have TOc':IsPair hcc TO x b:=TOc
 refine wpAny_bind (wpAny_letGo (wpAny_pure ?_));refine wpAny_bind (wpAny_bind (wpAny_onRaise ?_));show wpAny _ _ (Builtin.SmallTypes.nextOf (.ref i2) >>= _) _ _ _
 refine wpAny_bind (ak7 (((h2.ext fun o e=>sa.extBut _ _ Z.i2z e).ext fun o e=>sb.extBut _ _ Z.i12.symm e).ext fun o e=>sc.extBut _ _ Z.TOi2.symm e) (((hl2.ext fun o e=>sa.extBut _ _ Z.l2z e).ext fun o e=>sb.extBut _ _ Z.l2i1 e).ext fun o e=>sc.extBut _ _ Z.l2TO e) hy fun hd h2d sd=>wpAny_pure ?_)
 have hTOd:IsPair hd TO x b:=sd.extBut _ _ Z.TOi2 TOc'
 refine wpAny_bind (wpAny_seqItems hTOd rfl ?_);refine wpAny_bind (wpAny_updateSeq_pair hTOd fun he TOe se=>?_);have TOe':IsPair he TO x y:=TOe
 refine wpAny_bind (wpAny_letGo (wpAny_pure (wpAny_pure ?_)));refine wpAny_bind (wpAny_seqItems TOe' rfl ?_);refine wpAny_bind (wpAny_newTuple ?_)
 have sz:he.objs.size=s.heap.objs.size:=by rw[se.1,sd.1,sc.1,sb.1,sa.1]
 have ze:IsZip he z TI TO .ellipsis:=se.extBut _ _ Z.TOz.symm (sd.extBut _ _ Z.i2z.symm (sc.extBut _ _ Z.TOz.symm (sb.extBut _ _ Z.i1z.symm za')))
 have ke:∀c o,c≠z->c≠TO->c≠i1->c≠i2->s.heap.get? c=some o->he.get? c=some o:=fun c o c1 c2 c3 c4 e=>se.extBut _ _ c2 (sd.extBut _ _ c4 (sc.extBut _ _ c2 (sb.extBut _ _ c3 (sa.extBut _ _ c1 e))))
 have h1e:SIt t1 he i1 l1 (k1+1):=((h1b.ext fun o e=>sc.extBut _ _ Z.TOi1.symm e).ext fun o e=>sd.extBut _ _ Z.i12 e).ext fun o e=>se.extBut _ _ Z.TOi1.symm e
 have h2e:SIt t2 he i2 l2 (k2+1):=h2d.ext fun o e=>se.extBut _ _ Z.TOi2.symm e
 have zlt:z < he.objs.size:=Heap.lt_size ze
 show wpAny _ _ (Builtin.SmallTypes.ownedTupleHandOut (.ref z) (.ref he.objs.size) >>= _) _ _ _;refine wpAny_bind ?_;unfold Builtin.SmallTypes.ownedTupleHandOut
 have zf:IsZip (he.push { cls:=.type "tuple", data:=.seq #[x,y] }) z TI TO .ellipsis:=Heap.get?_push_of_some _ ze
 refine wpAny_bind (wpAny_setField_rec zf (by simp) fun hg zg sg=>?_);have zg':IsZip hg z TI TO (rawInt he.objs.size):=zg
 refine wpAny_setField_rec zg' (by simp) fun hi zi si=>?_;have zi':IsZip hi z TI TO (rawInt he.objs.size):=zi
 have up:∀c o,c≠z->he.get? c=some o->hi.get? c=some o:=fun c o c1 e=>si.extBut _ _ c1 (sg.extBut _ _ c1 (Heap.get?_push_of_some _ e))
 have hT:IsPair hi he.objs.size x y:=si.extBut _ _ (Nat.ne_of_gt zlt) (sg.extBut _ _ (Nat.ne_of_gt zlt) (Heap.get?_push_size _ rfl))
 have szi:hi.objs.size=he.objs.size+1:=by rw[si.1,sg.1,Heap.size_push]
 rw[sz]at zi' hT szi
 refine wpAny_pure ⟨_,rfl,?_⟩;show Q (.ref he.objs.size) _;rw[sz]
 exact hQ hi zi' (up _ _ Z.TOz TOe') (h1e.ext fun o e=>up _ o Z.i1z e) (h2e.ext fun o e=>up _ o Z.i2z e) hT szi fun c o c1 c2 c3 c4 e=>up c o c1 (ke c o c1 c2 c3 c4 e)
theorem aZ5{z TI TO i1 i2 l1 l2:Addr}{k1 k2:Nat}{xs ys:Array Value}{a b:Value}{Q:Fin->Shared->Prop}(hh:A.handled=none) (Z:ZipApart z TI TO i1 i2 l1 l2)
  (hz:IsZip s.heap z TI TO .none) (hTI:IsPair s.heap TI (.ref i1) (.ref i2)) (hTO:IsPair s.heap TO a b) (h1:SIt t1 s.heap i1 l1 k1) (h2:SIt t2 s.heap i2 l2 k2) (hl1:SSq t1 s.heap l1 xs) (hl2:SSq t2 s.heap l2 ys) (hend:xs[k1]? = none\/ys[k2]? = none)
  (hE:∀h' e,(∀c o,c≠z->c≠TO->c≠i1->c≠i2->s.heap.get? c=some o->h'.get? c=some o)->(∃o,h'.get? e=some o/\o.cls=.type "StopIteration")->E (.ref e) { s with heap:=h' }) :
  wpAny (model prog w) A (Builtin.«zip.__next__» ⟨[.ref z],[]⟩) Q E s:=by
 show wpAny _ _ (field (.ref z) 2 >>= _) _ _ _;refine wpAny_bind (wpAny_field hz rfl (x:=.bool false) rfl ?_);show wpAny _ _ (field (.ref z) 3 >>= _) _ _ _;refine wpAny_bind (wpAny_field hz rfl (x:=.ref TI) rfl ?_)
 refine wpAny_bind (wpAny_seqItems hTI rfl ?_);show wpAny _ _ (Builtin.SmallTypes.ownedTupleIsFree (.ref z) >>= _) _ _ _;refine wpAny_bind ?_;unfold Builtin.SmallTypes.ownedTupleIsFree
 refine wpAny_bind (wpAny_field hz rfl (x:=.none) rfl (wpAny_pure ?_));simp only[if_true];refine wpAny_bind (wpAny_rule ?_);refine wpAny_bind (wpAny_field hz rfl (x:=.ref TO) rfl ?_)
 refine wpAny_bind (wpAny_setField_rec hz (by simp) fun ha za sa=>?_);have za':IsZip ha z TI TO .ellipsis:=za
 refine wpAny_bind ?_;simp only[List.zipIdx_cons,List.zipIdx_nil,List.forIn_cons,List.forIn_nil];refine wpAny_bind (wpAny_bind (wpAny_onRaise ?_));show wpAny _ _ (Builtin.SmallTypes.nextOf (.ref i1) >>= _) _ _ _
 cases hx:xs[k1]? with
 | none =>
  refine wpAny_bind (aL5 hh (h1.ext fun o e=>sa.extBut _ _ Z.i1z e) (hl1.ext fun o e=>sa.extBut _ _ Z.l1z e) hx fun hb e sb he=>?_)
  obtain⟨oe,hoe,hce⟩:=he;have zb:IsZip hb z TI TO .ellipsis:=sb _ _ Z.i1z.symm za';have hez:e≠z:=fun q=>by subst q;rw[zb]at hoe;cases hoe;simp at hce
  exact wpAny_setField_rec zb (by simp) fun hcc _ sc=>hE hcc e (fun c o c1 _ c3 _ q=>sc.extBut _ _ c1 (sb _ _ c3 (sa.extBut _ _ c1 q))) ⟨oe,sc.extBut _ _ hez hoe,hce⟩
 | some x =>
  have hy:ys[k2]? = none:=by rcases hend with h|h;rw[hx]at h;cases h;exact h
  refine wpAny_bind (ak7 (h1.ext fun o e=>sa.extBut _ _ Z.i1z e) (hl1.ext fun o e=>sa.extBut _ _ Z.l1z e) hx fun hb h1b sb=>wpAny_pure ?_)
  have hTOb:IsPair hb TO a b:=sb.extBut _ _ Z.TOi1 (sa.extBut _ _ Z.TOz hTO)
  refine wpAny_bind (wpAny_seqItems hTOb rfl ?_);refine wpAny_bind (wpAny_updateSeq_pair hTOb fun hcc TOc sc=>?_)
  refine wpAny_bind (wpAny_letGo (wpAny_pure ?_));refine wpAny_bind (wpAny_bind (wpAny_onRaise ?_));show wpAny _ _ (Builtin.SmallTypes.nextOf (.ref i2) >>= _) _ _ _
  refine wpAny_bind (aL5 hh (((h2.ext fun o e=>sa.extBut _ _ Z.i2z e).ext fun o e=>sb.extBut _ _ Z.i12.symm e).ext fun o e=>sc.extBut _ _ Z.TOi2.symm e) (((hl2.ext fun o e=>sa.extBut _ _ Z.l2z e).ext fun o e=>sb.extBut _ _ Z.l2i1 e).ext fun o e=>sc.extBut _ _ Z.l2TO e) hy fun hd e sd he=>?_)
  obtain⟨oe,hoe,hce⟩:=he;have zd:IsZip hd z TI TO .ellipsis:=sd _ _ Z.i2z.symm (sc.extBut _ _ Z.TOz.symm (sb.extBut _ _ Z.i1z.symm za'));have hez:e≠z:=fun q=>by subst q;rw[zd]at hoe;cases hoe;simp at hce
  exact wpAny_setField_rec zd (by simp) fun hf _ sf=>hE hf e (fun c o c1 c2 c3 c4 q=>sf.extBut _ _ c1 (sd _ _ c4 (sc.extBut _ _ c2 (sb.extBut _ _ c3 (sa.extBut _ _ c1 q))))) ⟨oe,sf.extBut _ _ hez hoe,hce⟩
theorem aG1{z TI TO i1 i2 l1 l2:Addr}{k1 k2:Nat}{xs ys:Array Value}{x y a b:Value}{Q:Option Value->Shared->Prop}(Z:ZipApart z TI TO i1 i2 l1 l2)
  (hz:IsZip s.heap z TI TO .none) (hTI:IsPair s.heap TI (.ref i1) (.ref i2)) (hTO:IsPair s.heap TO a b) (h1:SIt t1 s.heap i1 l1 k1) (h2:SIt t2 s.heap i2 l2 k2) (hl1:SSq t1 s.heap l1 xs) (hl2:SSq t2 s.heap l2 ys) (hx:xs[k1]? = some x) (hy:ys[k2]? = some y)
  (hQ:∀h',IsZip h' z TI TO (rawInt s.heap.objs.size)->IsPair h' TO x y->SIt t1 h' i1 l1 (k1+1)->SIt t2 h' i2 l2 (k2+1)->IsPair h' s.heap.objs.size x y->h'.objs.size=s.heap.objs.size+1 ->
   (∀c o,c≠z->c≠TO->c≠i1->c≠i2->s.heap.get? c=some o->h'.get? c=some o)->Q (some (.ref s.heap.objs.size)) { s with heap:=h' }):wpAny (model prog w) A (pyNext (.ref z)) Q E s:=by
 have hT:s.TypeIs (.ref z) "zip" := ⟨_,hz,rfl⟩
 unfold pyNext
 refine wpAny_bind (wpAny_attempt (wpAny_callSpecial?_slot (name:=Str.ofString "__next__") hT F.slot_zip_next (wpAny_call_entry F.slot_zip_next hT F.entry_zip_next (aR5 Z hz hTI hTO h1 h2 hl1 hl2 hx hy ?_) (F.args_zip_next_1 _))))
 exact fun h' a1 a2 a3 a4 a5 a6 a7=>wpAny_pure (hQ h' a1 a2 a3 a4 a5 a6 a7)
theorem aS0{z TI TO i1 i2 l1 l2:Addr}{k1 k2:Nat}{xs ys:Array Value}{a b:Value}{Q:Option Value->Shared->Prop}(hh:A.handled=none) (Z:ZipApart z TI TO i1 i2 l1 l2)
  (hz:IsZip s.heap z TI TO .none) (hTI:IsPair s.heap TI (.ref i1) (.ref i2)) (hTO:IsPair s.heap TO a b) (h1:SIt t1 s.heap i1 l1 k1) (h2:SIt t2 s.heap i2 l2 k2) (hl1:SSq t1 s.heap l1 xs) (hl2:SSq t2 s.heap l2 ys) (hend:xs[k1]? = none\/ys[k2]? = none)
  (hQ:∀h',(∀c o,c≠z->c≠TO->c≠i1->c≠i2->s.heap.get? c=some o->h'.get? c=some o)->Q none { s with heap:=h' }):wpAny (model prog w) A (pyNext (.ref z)) Q E s:=by
 have hT:s.TypeIs (.ref z) "zip" := ⟨_,hz,rfl⟩
 unfold pyNext
 refine wpAny_bind (wpAny_attempt (wpAny_callSpecial?_slot (name:=Str.ofString "__next__") hT F.slot_zip_next (wpAny_call_entry F.slot_zip_next hT F.entry_zip_next (aZ5 hh Z hz hTI hTO h1 h2 hl1 hl2 hend fun h' e hk he=>?_) (F.args_zip_next_1 _))))
 obtain⟨o,ho,hc⟩:=he
 exact wpAny_bind (wpAny_isInstance (T := "StopIteration") (b:=true) ⟨o,ho,hc⟩ isSubtype_stop (wpAny_pure (hQ _ hk)))
noncomputable def aB9(t:Bool) (l:Addr):Obj:={ cls:=.type (if t then "tuple_iterator" else "list_iterator"),data:=.fields #[.ref l,.int 0 0] }
theorem aL4{h:Heap}{l:Addr}(t:Bool):SIt t (h.push (aB9 t l)) h.objs.size l 0:=by
 cases t with
 | true=>exact⟨_,Heap.get?_push_size _ rfl,rfl,rfl⟩
 | false=>exact⟨_,Heap.get?_push_size _ rfl,rfl,rfl⟩
theorem ay1(hl:SSq t s.heap l xs) (hQ:Q (.ref s.heap.objs.size) { s with heap:=s.heap.push (aB9 t l) }):wpAny (model prog w) A (pyIter (.ref l)) Q E s:=by
 cases t with
 | true=>exact wpAny_pyIter_tuple hl hQ
 | false=>exact wpAny_pyIter_list hl hQ
end
end G
namespace G
open PySem PySem.Spec PyProof.Rows L2
noncomputable abbrev zp1(h:Heap) (t1:Bool) (l1:Addr):Heap:=h.push (aB9 t1 l1)
noncomputable abbrev zp2(h:Heap) (t1 t2:Bool) (l1 l2:Addr):Heap:=(zp1 h t1 l1).push (aB9 t2 l2)
noncomputable abbrev zp3(h:Heap) (t1 t2:Bool) (l1 l2:Addr):Heap:=(zp2 h t1 t2 l1 l2).push { cls:=.type "tuple", data:=.seq #[.ref h.objs.size,.ref (zp1 h t1 l1).objs.size] }
noncomputable abbrev zp4(h:Heap) (t1 t2:Bool) (l1 l2:Addr):Heap:=(zp3 h t1 t2 l1 l2).push { cls:=.type "tuple", data:=.seq #[.none,.none] }
noncomputable abbrev zp5(h:Heap) (t1 t2:Bool) (l1 l2:Addr):Heap:=(zp4 h t1 t2 l1 l2).push { cls:=.type "zip", data:=.fields #[.none,.bool false,.bool false,.ref (zp2 h t1 t2 l1 l2).objs.size,.ref (zp3 h t1 t2 l1 l2).objs.size] }
theorem aZ4(l1 l2:Addr) (xs ys:Array Value) (t1 t2:Bool) :
  Meets (Builtin.«zip.__new__» ⟨[.type "zip", .ref l1,.ref l2],[]⟩) (fun _ R s=>SSq t1 s.heap l1 xs/\SSq t2 s.heap l2 ys/\∀h',IsZip h' (s.heap.objs.size+4) (s.heap.objs.size+2) (s.heap.objs.size+3) .none->IsPair h' (s.heap.objs.size+2) (.ref s.heap.objs.size) (.ref (s.heap.objs.size+1)) ->
   IsPair h' (s.heap.objs.size+3) .none .none->SIt t1 h' s.heap.objs.size l1 0->SIt t2 h' (s.heap.objs.size+1) l2 0->(∀c o,s.heap.get? c=some o->h'.get? c=some o)->R (.ok (.ret (.ref (s.heap.objs.size+4)))) { s with heap:=h' }) :=
 .of_wp fun prog w A R s h=>by
  obtain⟨hp,g,d,tk,os⟩:=s
  obtain⟨hl1,hl2,h⟩:=h
  have hsub:=sub_zip
  have q1:SSq t1 (Shared.heap ⟨hp,g,d,tk,os⟩) l1 xs:=hl1
  have q2:SSq t2 (Shared.heap ⟨hp.push (aB9 t1 l1),g,d,tk,os⟩) l2 ys:=SSq.ext hl2 fun o e=>Heap.get?_push_of_some _ e
  wp_walk using ay1 q1,ay1 q2
  refine⟨_,rfl,?_⟩
  have z1:(zp1 hp t1 l1).objs.size=hp.objs.size+1:=Heap.size_push ..
  have z2:(zp2 hp t1 t2 l1 l2).objs.size=hp.objs.size+2:=by rw[Heap.size_push,z1]
  have z3:(zp3 hp t1 t2 l1 l2).objs.size=hp.objs.size+3:=by rw[Heap.size_push,z2]
  have z4:(zp4 hp t1 t2 l1 l2).objs.size=hp.objs.size+4:=by rw[Heap.size_push,z3]
  show R (.ok (.ret (.ref (zp4 hp t1 t2 l1 l2).objs.size))) ⟨zp5 hp t1 t2 l1 l2,g,d,tk,os⟩
  rw[z4]
  have g5:(zp5 hp t1 t2 l1 l2).get? (zp4 hp t1 t2 l1 l2).objs.size=some _:=Heap.get?_push_size _ rfl
  have g4:(zp5 hp t1 t2 l1 l2).get? (zp3 hp t1 t2 l1 l2).objs.size=some _:=Heap.get?_push_of_some _ (Heap.get?_push_size _ rfl)
  have g3:(zp5 hp t1 t2 l1 l2).get? (zp2 hp t1 t2 l1 l2).objs.size=some _:=Heap.get?_push_of_some _ (Heap.get?_push_of_some _ (Heap.get?_push_size _ rfl))
  rw[z4,z2,z3]at g5
  rw[z3]at g4
  rw[z2,z1]at g3
  have k1:∀c o,hp.get? c=some o->(zp5 hp t1 t2 l1 l2).get? c=some o:=fun c o e=>Heap.get?_push_of_some _ (Heap.get?_push_of_some _ (Heap.get?_push_of_some _ (Heap.get?_push_of_some _ (Heap.get?_push_of_some _ e))))
  have s1:SIt t1 (zp5 hp t1 t2 l1 l2) hp.objs.size l1 0:=(aL4 (h:=hp) (l:=l1) t1).ext fun o e=>Heap.get?_push_of_some _ (Heap.get?_push_of_some _ (Heap.get?_push_of_some _ (Heap.get?_push_of_some _ e)))
  have s2:SIt t2 (zp5 hp t1 t2 l1 l2) (zp1 hp t1 l1).objs.size l2 0:=(aL4 (h:=zp1 hp t1 l1) (l:=l2) t2).ext fun o e=>Heap.get?_push_of_some _ (Heap.get?_push_of_some _ (Heap.get?_push_of_some _ e))
  rw[z1]at s2
  exact h _ g5 g3 g4 s1 s2 k1
section
variable {prog:Program}{w:World}{A:Around}{E:Value->Shared->Prop}{s:Shared}{t1 t2:Bool}
theorem aR6(hl1:SSq t1 s.heap l1 xs) (hl2:SSq t2 s.heap l2 ys)
  (h:∀h',IsZip h' (s.heap.objs.size+4) (s.heap.objs.size+2) (s.heap.objs.size+3) .none->IsPair h' (s.heap.objs.size+2) (.ref s.heap.objs.size) (.ref (s.heap.objs.size+1)) ->
   IsPair h' (s.heap.objs.size+3) .none .none->SIt t1 h' s.heap.objs.size l1 0->SIt t2 h' (s.heap.objs.size+1) l2 0->(∀c o,s.heap.get? c=some o->h'.get? c=some o)->Q (.ref (s.heap.objs.size+4)) { s with heap:=h' }) :
  wpAny (model prog w) A (call (.type "zip") [.ref l1,.ref l2]) Q E s:=by
 refine callType_new F.called_zip (by decide) (F.typeCall_zip_2 _ _) (F.newCall_zip_2 _ _) (fun obj=>F.args_object_init_3 obj _ _) F.entry_zip_new (aZ4 l1 l2 xs ys t1 t2) ⟨hl1,hl2,fun h' a1 a2 a3 a4 a5 a6=>?_⟩
 exact⟨⟨_,a1,rfl⟩,h h' a1 a2 a3 a4 a5 a6⟩
end
noncomputable def Itz(K:PySem.W.Frag) (t1 t2:Bool) (a1 a2:Addr):It :=
  ⟨fun i H=>∃xs ys x y,Sq K t1 H a1 xs/\Sq K t2 H a2 ys/\xs[i]? = some x/\ys[i]? = some y,
   fun i H v H'=>∃T x y,v=.ref T/\H T=none/\H'=upd H T (.tup [x,y])/\(∀xs,Sq K t1 H a1 xs->xs[i]? = some x)/\∀ys,Sq K t2 H a2 ys->ys[i]? = some y,
   fun i H=>∃xs ys,Sq K t1 H a1 xs/\Sq K t2 H a2 ys/\(xs.length<=i\/ys.length<=i)⟩
theorem ba1(I:Inv X pins σ H s) (h:Sq X.K t H a xs) (h':Sq X.K t H a ys):xs=ys:=by
 cases t with
 | true=>exact I.tuple_inj h h'
 | false=>exact I.list_inj h h'
theorem m5(I:Inv X pins σ H s) (h:Sq X.K t H a xs):∃its:List Value,B9 xs its/\SSq t s.heap a its.toArray/\a < s.heap.objs.size:=by
 cases t with
 | true =>
  obtain⟨its,r,p,_⟩:=I.tuple h
  exact⟨its,r,p,by obtain⟨o,ho,_⟩:=p;exact Heap.lt_size ho⟩
 | false =>
  obtain⟨its,r,p,_⟩:=I.list h
  exact⟨its,r,p.isList,by obtain⟨o,ho,_⟩:=p.isList;exact Heap.lt_size ho⟩
end G
namespace G
open PySem PySem.Spec PyProof.Rows L2
theorem ah5{X:Cx}{pins:List (Addr×Obj)}{σ:L2.St}{H:Hp}{s:Shared}{h':Heap}{t':Nat}{ch:List Addr}{T:Addr}{o:HO}(I:Inv X pins σ H s) (hf:∀b∈ch,af7 X pins H b) (hT:s.heap.objs.size<=T)
  (k:∀b u,b∉ch->s.heap.get? b=some u->h'.get? b=some u) (new:N8 X.prog X.w (upd H T o) h' T o):Inv X pins σ (upd H T o) { s with heap:=h',toks:=t' }:=by
 have hn:H T=none:=I.hok.fresh hT
 have neT:∀b u,s.heap.get? b=some u->b≠T:=fun b u e=>Nat.ne_of_lt (Nat.lt_of_lt_of_le (Heap.lt_size e) hT)
 have nch:∀b u,H b=some u->b∉ch:=fun b u e z=>by rw[(hf b z).1]at e;cases e
 refine I.step (g':=s.gens) (d':=s.drawn) (ch:=ch) (fun b hb=>⟨(hf b hb).2.2.2.1,(hf b hb).2.1,(hf b hb).2.2.2.2.1,(hf b hb).2.2.2.2.2⟩) (fun b u _ _ hc e _=>k b u hc e) (fun b u _ _ hc e _=>⟨u.slots,k b u hc e⟩)
  (fun b u _ e n=>by rw[A3 (neT b u e)];exact n) (fun b u hc e=>⟨u,k b u hc e⟩) (fun b xs e=>by rw[A3 (B4 e hn)];exact e) (fun b ob u e=>by rw[A3 (B4 e hn)];exact e)
  (fun b ps e=>⟨#[],by rw[A3 (B4 e hn),e];simp⟩) (fun m hm=>?_) (fun b u e=>?_) I.bare
 ·obtain⟨ob,es,ep,ho,r⟩:=hm
  exact⟨ob,es,ep,k _ ob (fun z=>(hf _ z).2.1 rfl) ho,r⟩
 ·by_cases hb:b=T
  ·subst hb;rw[A5]at e;cases e;exact new
  ·rw[A3 hb]at e
   refine(I.hok b u e).stay (fun c v hc q=>k c v ?_ q) (fun c q=>by rw[A3 (B4 q hn)];exact q) fun c xs q=>by rw[A3 (B4 q hn)];exact q
   rcases hc with z|z
   ·rw[z];exact nch b u e
   ·exact nch c _ z
theorem am2{X:Cx}{pins:List (Addr×Obj)}{σ:L2.St}{H:Hp}{s:Shared}{h':Heap}{t':Nat}{ch:List Addr}(I:Inv X pins σ H s) (hf:∀b∈ch,af7 X pins H b)
  (k:∀b u,b∉ch->s.heap.get? b=some u->h'.get? b=some u):Inv X pins σ H { s with heap:=h',toks:=t' }:=by
 have nch:∀b u,H b=some u->b∉ch:=fun b u e z=>by rw[(hf b z).1]at e;cases e
 refine I.step (g':=s.gens) (d':=s.drawn) (ch:=ch) (fun b hb=>⟨(hf b hb).2.2.2.1,(hf b hb).2.1,(hf b hb).2.2.2.2.1,(hf b hb).2.2.2.2.2⟩) (fun b u _ _ hc e _=>k b u hc e) (fun b u _ _ hc e _=>⟨u.slots,k b u hc e⟩)
  (fun b u _ e n=>n) (fun b u hc e=>⟨u,k b u hc e⟩) (fun b xs e=>e) (fun b ob u e=>e) (fun b ps e=>⟨#[],by rw[e];simp⟩) (fun m hm=>?_) (fun b u e=>?_) I.bare
 ·obtain⟨ob,es,ep,ho,r⟩:=hm
  exact⟨ob,es,ep,k _ ob (fun z=>(hf _ z).2.1 rfl) ho,r⟩
 ·refine(I.hok b u e).stay (fun c v hc q=>k c v ?_ q) (fun c q=>q) fun c xs q=>q
  rcases hc with z|z
  ·rw[z];exact nch b u e
  ·exact nch c _ z
theorem aY9{P:Program}{w:World}{K:PySem.W.Frag}{elts:List Expr}{k0:Nat}{pos:Pos}{t1 t2:Bool}{z TI TO i1 i2 a1 a2:Addr}(Z:ZipApart z TI TO i1 i2 a1 a2) :
  Turn P w K (.Tuple elts k0 pos) (Itz K t1 t2 a1 a2) [z,TI,TO,i1,i2] z (fun i h=>IsZip h z TI TO .none/\IsPair h TI (.ref i1) (.ref i2)/\(∃a b,IsPair h TO a b)/\SIt t1 h i1 a1 i/\SIt t2 h i2 a2 i) where
 mem:=by simp
 obj:=fun i h ⟨hz,hTI,⟨a,b,hTO⟩,h1,h2⟩ c hc=>by
  simp only[List.mem_cons,List.not_mem_nil,or_false]at hc
  rcases hc with rfl|rfl|rfl|rfl|rfl
  ·exact⟨_,hz,fun v q=>by cases q⟩
  ·exact⟨_,hTI,fun v q=>by cases q⟩
  ·exact⟨_,hTO,fun v q=>by cases q⟩
  ·cases t1 with
   | true=>obtain⟨o,ho,_,hd⟩:=h1;exact⟨o,ho,fun v q=>by rw[hd]at q;cases q⟩
   | false=>obtain⟨o,ho,_,hd⟩:=h1;exact⟨o,ho,fun v q=>by rw[hd]at q;cases q⟩
  ·cases t2 with
   | true=>obtain⟨o,ho,_,hd⟩:=h2;exact⟨o,ho,fun v q=>by rw[hd]at q;cases q⟩
   | false=>obtain⟨o,ho,_,hd⟩:=h2;exact⟨o,ho,fun v q=>by rw[hd]at q;cases q⟩
 keep:=fun i h h' ⟨hz,hTI,⟨a,b,hTO⟩,h1,h2⟩ hk=>⟨hk z (by simp) _ hz,hk TI (by simp) _ hTI,⟨a,b,hk TO (by simp) _ hTO⟩,h1.ext fun o e=>hk i1 (by simp) o e,h2.ext fun o e=>hk i2 (by simp) o e⟩
 item:=by
  intro X hP hw hK hc i pins s σ H E I hf ⟨hz,hTI,⟨a,b,hTO⟩,h1,h2⟩ hg
  subst hP hw hK
  obtain⟨xs,ys,x,y,q1,q2,ex,ey⟩:=hg
  obtain⟨us,r1,p1,lt1⟩:=m5 I q1
  obtain⟨ws,r2,p2,lt2⟩:=m5 I q2
  obtain⟨ux,eux,rx⟩:=r1.get ex
  obtain⟨uy,euy,ry⟩:=r2.get ey
  refine aG1 Z hz hTI hTO h1 h2 p1 p2 (x:=ux) (y:=uy) (by simpa using eux) (by simpa using euy) fun h' b1 b2 b3 b4 b5 b6 b7=>⟨_,rfl,wpAny_letOwnedTupleGo_zip b1 fun h'' c1 c2=>?_⟩
  have neT:∀c o,s.heap.get? c=some o->c≠s.heap.objs.size:=fun c o e=>Nat.ne_of_lt (Heap.lt_size e)
  have up:∀c o,c≠z->h'.get? c=some o->h''.get? c=some o:=fun c o n e=>c2.extBut c o n e
  refine⟨.ref s.heap.objs.size,upd H s.heap.objs.size (.tup [x,y]),ah5 (s:=s) (h':=h'') (t':=s.toks) (ch:=[z,TI,TO,i1,i2]) I hf (Nat.le_refl _) (fun c u hc e=>?_) ?_,rfl,⟨_,x,y,rfl,I.hok.fresh (Nat.le_refl _),rfl,fun zs hz'=>by rw[ba1 I hz' q1];exact ex,fun zs hz'=>by rw[ba1 I hz' q2];exact ey⟩,⟨c1,?_,⟨_,_,up TO _ Z.TOz b2⟩,b3.ext fun o e=>up i1 o Z.i1z e,b4.ext fun o e=>up i2 o Z.i2z e⟩,fun c hc=>?_⟩
  ·simp only[List.mem_cons,List.not_mem_nil,or_false,not_or]at hc
   exact up c u hc.1 (b7 c u hc.1 hc.2.2.1 hc.2.2.2.1 hc.2.2.2.2 e)
  ·refine⟨by show 2<=sizeLine;decide,[ux,uy],.cons rx (.cons ry .nil),_,up _ _ ?_ b5,rfl,⟨_,rfl⟩,rfl⟩
   exact fun q=>neT z _ hz q.symm
  ·exact up TI _ Z.TIz (b7 TI _ Z.TIz Z.TITO Z.TIi1 Z.TIi2 hTI)
  ·have e:c < s.heap.objs.size:=by
    simp only[List.mem_cons,List.not_mem_nil,or_false]at hc
    rcases hc with rfl|rfl|rfl|rfl|rfl
    ·exact Heap.lt_size hz
    ·exact Heap.lt_size hTI
    ·exact Heap.lt_size hTO
    ·exact h1.lt
    ·exact h2.lt
   rw[A3 (Nat.ne_of_lt e)]
   exact(hf c hc).1
 done:=by
  intro X hP hw hK hc i pins s σ H E I hf ⟨hz,hTI,⟨a,b,hTO⟩,h1,h2⟩ hg
  subst hP hw hK
  obtain⟨xs,ys,q1,q2,hl⟩:=hg
  obtain⟨us,r1,p1,lt1⟩:=m5 I q1
  obtain⟨ws,r2,p2,lt2⟩:=m5 I q2
  have l1:=r1.length
  have l2:=r2.length
  refine aS0 (I.ok.hd hc) Z hz hTI hTO h1 h2 p1 p2 ?_ fun h' hk=>⟨rfl,am2 (t':=s.toks) (ch:=[z,TI,TO,i1,i2]) I hf fun c u hc e=>?_⟩
  ·rcases hl with h|h
   ·left;simp;grind
   ·right;simp;grind
  ·simp only[List.mem_cons,List.not_mem_nil,or_false,not_or]at hc
   exact hk c u hc.1 hc.2.2.1 hc.2.2.2.1 hc.2.2.2.2 e
 self:=fun _ _ _ _ _ st h=>wpAny_pyIter_zip st.1 h
section
variable {X:Cx}
noncomputable def ah7(f g:Rho->Option (Bool×List D)):Rho->Option (List D):=fun ρ=>(f ρ).bind fun p=>(g ρ).bind fun q=>some ((p.2.zip q.2).map fun(x,y)=>PyData.tuple [x,y])
theorem aE7{K:PySem.W.Frag}{t1 t2:Bool}{a1 a2:Addr}{vs us:List V}{ds es:List D}{Hf1:Hp}(h1:Sq K t1 Hf1 a1 vs) (h2:Sq K t2 Hf1 a2 us) (r1:Reps K Hf1 ds vs) (r2:Reps K Hf1 es us) :
  aK4 K (Itz K t1 t2 a1 a2) ((ds.zip es).map fun(x,y)=>PyData.tuple [x,y]) Hf1:=by
 have mono:∀{t:Bool}{a:Addr}{xs:List V}{H H':Hp},B3 H H'->Sq K t H a xs->Sq K t H' a xs:=fun{t a xs H H'} e h=>by
  cases t with
  | true=>exact C5 e h
  | false=>exact K6 e h
 intro i H Hf sa sb
 have m1:=mono (sa.trans sb) h1
 have m2:=mono (sa.trans sb) h2
 have l1:=r1.length
 have l2:=r2.length
 refine⟨fun hi=>⟨vs,us,m1,m2,?_⟩,fun d hd=>?_⟩
 ·simp at hi;grind
 ·rw[List.getElem?_map]at hd
  obtain⟨⟨x,y⟩,q1,q2⟩:=Option.map_eq_some_iff.mp hd
  subst q2
  obtain⟨q1,q2⟩:=List.getElem?_zip_eq_some.mp q1
  obtain⟨vx,e1,e2⟩:=r1.get q1
  obtain⟨vy,e3,e4⟩:=r2.get q2
  refine⟨⟨vs,us,vx,vy,m1,m2,e1,e3⟩,fun v H' ⟨T,x',y',z1,z2,z3,z4,z5⟩=>?_⟩
  subst z1 z3
  have w1:=z4 vs m1
  have w2:=z5 us m2
  rw[e1]at w1
  rw[e3]at w2
  cases w1
  cases w2
  have nf:Hf T=none:=sb.free z2
  refine⟨upd Hf T (.tup [vx,vy]),Grow.laid sb z2,T,[vx,vy],rfl,SqT.of A5,vx,[vy],rfl,(e2.mono sa).mono (C6 nf),vy,[],rfl,(e4.mono sa).mono (C6 nf),rfl⟩
theorem bQ0{elts:List Expr}{k0:Nat}{tpos:Pos}{a b:Expr}{f g:DE}{p pos:Pos}(hg:Gl X "zip") (hm:X.mg "zip" = none) (ha:JE X a f) (hb:JE X b g) (hs:starEach [a,b] X.env=[(false,eval a X.env),(false,eval b X.env)]:=by rfl) (hs2:starEach [b] X.env=[(false,eval b X.env)]:=by rfl) :
  JI X (.Tuple elts k0 tpos) (.Call (.Name "zip" p) [a,b] [] pos) (ah7 (qE f) (qE g)):=fun ρ out q=>by
 obtain⟨⟨t1,ds⟩,e1,q⟩:=xbm q
 obtain⟨⟨t2,es⟩,e2,q⟩:=xbm q
 cases q
 obtain⟨d1,e1,e1'⟩:=xbm e1
 obtain⟨d2,e2,e2'⟩:=xbm e2
 intro pins s σ H R I ⟨H0,Hf,ss,sl,k⟩
 refine Call_ (al5 I hg hm bT8 (PyProof.Rows.callWith_type1 (thn (E2 (ha ρ d1 e1) (E2 (hb ρ d2 e2) M3 hs2) (by rw[hs,hs2]) pos pins s σ H
  (fun vs H'=>∃v u Hf',vs=[v,u]/\Grow H Hf H' Hf'/\Rep X.K Hf' d1 v/\Rep X.K Hf' d2 u) I ⟨H0,Hf,ss,sl,fun v H1 Hf1 g1 r1=>⟨H0,Hf1,g1.sub,sl.grow g1,fun u H2 Hf2 g2 r2=>⟨v,u,Hf2,rfl,g1.trans g2,r1.mono g2.ext,r2⟩⟩⟩) fun us s1 ⟨vs,H1,I1,r1,v,u,Hf1,ev,gr,p1,p2⟩=>?_) (by rw[hs,hs2]) (by rw[hs2];rfl)))
 subst ev
 obtain⟨uv,uu,rfl,rv,ru⟩:=aK8 r1
 obtain⟨a1,vs1,rfl,w1,w2⟩:=p1.seq (B3.refl Hf1) e1'
 obtain⟨a2,vs2,rfl,w3,w4⟩:=p2.seq (B3.refl Hf1) e2'
 cases rv
 cases ru
 have mono:∀{t:Bool}{a:Addr}{xs:List V}{H H':Hp},B3 H H'->Sq X.K t H a xs->Sq X.K t H' a xs:=fun{t a xs H H'} e h=>by
  cases t with
  | true=>exact C5 e h
  | false=>exact K6 e h
 obtain⟨us1,rr1,hp1,lt1⟩:=m5 I1 (mono gr.sub w1)
 obtain⟨us2,rr2,hp2,lt2⟩:=m5 I1 (mono gr.sub w3)
 refine aR6 hp1 hp2 fun h' b1 b2 b3 b4 b5 b6=>?_
 have I2:Inv X pins σ H1 { s1 with heap:=h' }:=I1.kept (t':=s1.toks) b6
 refine wpAny_pyIter_zip b1 ⟨_,_,_,_,H1,rfl,I2,aY9 (zipApart_new lt1 lt2),⟨b1,b2,⟨_,_,b3⟩,b4,b5⟩,fun b hb=>?_,k _ H1 Hf1 gr (aE7 w1 w3 w2 w4)⟩
 have hb':s1.heap.objs.size<=b:=by
  simp only[List.mem_cons,List.not_mem_nil,or_false]at hb
  rcases hb with rfl|rfl|rfl|rfl|rfl
  ·exact Nat.le_add_right _ _
  ·exact Nat.le_add_right _ _
  ·exact Nat.le_add_right _ _
  ·exact Nat.le_refl _
  ·exact Nat.le_add_right _ _
 exact I1.fpOk hb' (I1.hok.fresh hb')
end
end G
namespace G
open PySem PySem.Spec PyProof.Rows L2
theorem ag2:fillsNumberSlot (.type "tuple") "mul" = pure false:=PySem.fillsNumberSlot_seq (id := "tuple.__mul__") (r:=some (.builtin "tuple.__rmul__")) F.slot_tuple_mul.lookup (by decide +kernel) F.slot_tuple_rmul.lookup (by decide +kernel)
theorem ap4:seqRepeat? (.type "tuple")=pure (some (.builtin "tuple.__mul__")):=by
 unfold seqRepeat?
 rw[PySem.seqSlot_of (T := "tuple") (name := "__mul__") (id := "tuple.__mul__") F.slot_tuple_mul.lookup (by decide +kernel),PySem.seqSlot_of (T := "tuple") (name := "__rmul__") (id := "tuple.__rmul__") F.slot_tuple_rmul.lookup (by decide +kernel)];rfl
theorem ab3(a:Int) (t:Tok) (l:Addr) (items:Array Value) (n:Nat) (dd:Option Addr) (sl:Array (Option Value)) :
  Meets (Builtin.«int.__rmul__» ⟨[.int a t,.ref l],[]⟩) (fun _ R s=>s.heap.get? l=some ⟨.type "tuple", dd,.seq items n,sl⟩/\R (.ok (.ret Value.notImplemented)) s) :=
 .of_wp fun prog w A R s h=>by obtain⟨hp,g,d,tk,os⟩:=s;obtain⟨hl,h⟩:=h;wp_walk;exact⟨_,rfl,h⟩
theorem aG5(items:Array Value) (k:Nat):List.foldl (fun x1 x2=>x1++x2) #[] (List.replicate k items)=(List.replicate k items.toList).flatten.toArray:=by
 have:=aq6 items.toList k []
 rw[List.nil_append]at this
 simpa using this
theorem aA2(l:Addr) (items:Array Value) (n:Nat) (dd:Option Addr) (sl:Array (Option Value)) (x:Int) (u:Tok) (h2:2<=x) (h3:x < 1000000) (he:items.isEmpty=false) (hz:items.size*x.toNat<=sizeLine) :
  Meets (Builtin.«tuple.__mul__» ⟨[.ref l,.int x u],[]⟩) (fun _ R s=>s.heap.get? l=some ⟨.type "tuple", dd,.seq items n,sl⟩/\R (.ok (.ret (Value.ref s.heap.objs.size))) { s with heap:=s.heap.push { cls:=Value.type "tuple", data:=Data.seq (List.foldl (fun x1 x2=>x1++x2) #[] (List.replicate x.toNat items)) } }) :=
 .of_wp fun prog w A R s h=>by
  obtain⟨hp,g,d,tk,os⟩:=s
  obtain⟨hl,h⟩:=h
  have hm:(items.size:Int)*x<=16777216:=by
   have e:((items.size*x.toNat:Nat):Int)=(items.size:Int)*x:=by rw[Int.natCast_mul,Int.toNat_of_nonneg (by omega)]
   have:items.size*x.toNat<=16777216:=by rw[← sizeLine_eq];exact hz
   omega
  wp_walk
  refine wpAny_ite_false (by simp;omega) ?_
  have ht:Heap.IsTuple (Shared.heap ⟨hp,g,d,tk,os⟩) l items:=⟨_,hl,rfl,n,rfl⟩
  refine wpAny_bind (tupleItemsOf_ ht ?_)
  refine wpAny_ite_false (by rw[he];simp;omega) ?_
  show wpAny _ _ (if(decide (x<=0) || items.isEmpty)=true then _ else _) _ _ _
  refine wpAny_ite_false (by rw[he];simp;omega) ?_
  show wpAny _ _ (if(items.size:Int)*x > (2 ^ 63 - 1) / 8 then _ else _) _ _ _
  rw[if_neg (by omega)]
  show wpAny _ _ (if Builtin.Tuple.tupleTooMany ((items.size:Int)*x)=true then _ else _) _ _ _
  rw[if_neg (by unfold Builtin.Tuple.tupleTooMany;rw[sizeLine_eq];simp;omega)]
  refine wpAny_bind (m:=Builtin.Tuple.tupleExact _) (wpAny_newObj_type (wpAny_pure ⟨_,rfl,h⟩) ?_)
  show(List.foldl (fun x1 x2=>x1++x2) #[] (List.replicate x.toNat items)).size<=sizeLine
  rw[aG5 items x.toNat,List.size_toArray,au8,Array.length_toList,Nat.mul_comm]
  exact hz
section
variable {X:Cx}
theorem bu9:OpR X (binaryOp .Mult) (fun x y H Q=>∃l k xs,x=.ref l/\y=.int k/\SqT X.K H l xs/\xs≠[]/\2<=k/\k < 1000000/\xs.length*k.toNat<=sizeLine/\∀p,H p=none->Q (.ref p) (upd H p (.tup (List.replicate k.toNat xs).flatten))):=by
 intro pins s σ H x y v u Q I rx ry h
 obtain⟨l,k,xs,rfl,rfl,hq,hx,h2,h3,hz,q⟩:=h
 cases rx
 obtain⟨t,rfl⟩:=ry
 obtain⟨its,r,p1,_⟩:=I.tuple hq
 obtain⟨⟨cls,dd,data,sl⟩,ho,hc,n,hd⟩:=id p1
 simp only at hc hd
 subst hc hd
 have hl:=r.length
 have he:its.toArray.isEmpty=false:=by
  cases its with
  | nil=>exact absurd (r.nil_iff.mp rfl) hx
  | cons a b=>rfl
 refine wpAny_binaryOp_repeat_ref (T := "tuple") (U := "int") (by decide) ⟨_,ho,rfl⟩ (fun s'=>typeIs_int s' k t) ag2 F.fills_int_mul F.slot_int_rmul ap4 F.slot_int_index.lookup
  (call_meets F.slot_int_rmul (typeIs_int s k t) F.entry_int_rmul (F.args_int_rmul_2 _ _) (ab3 k t l its.toArray n dd sl) ⟨ho,rfl,⟨_,ho,rfl⟩,
   call_meets F.slot_tuple_mul ⟨_,ho,rfl⟩ F.entry_tuple_mul (F.args_tuple_mul_2 _ _) (aA2 l its.toArray n dd sl k t h2 h3 he (by rw[List.size_toArray,← hl];exact hz)) ⟨ho,?_⟩⟩)
 rw[aG5]
 refine⟨.ref _,_,I.laid (t':=s.toks) (o:=.tup (List.replicate k.toNat xs).flatten) (fun b ob q=>Heap.get?_push_of_some _ q) (Nat.le_refl _) ⟨?_,_,r.rep k.toNat,ao8.new _ _⟩,rfl,q _ (I.hok.fresh (Nat.le_refl _))⟩
 rw[au8,Nat.mul_comm];exact hz
noncomputable def T9(x y:D):Option D:=match x,y with
 | .int i,.int j=>if F6 i/\F6 j then some (.int (i*j)) else none
 | .tuple xs,.int k=>if xs.isEmpty=false/\2<=k/\k < 1000000/\xs.length*k.toNat<=16777216 then some (.tuple (List.replicate k.toNat xs).flatten) else none
 | _,_=>none
theorem au5:OpD X (binaryOp .Mult) T9:=fun x y z h=>by
 unfold T9 at h
 split at h
 ·exact bN5 _ _ z (by unfold bO6;exact h)
 ·split at h
  ·rename_i xs k c
   cases h
   refine OpR.imp bu9 fun vx vy H Q ⟨Hf,s,r1,r2,kk⟩=>?_
   obtain⟨a,vs,rfl,h2,h3⟩:=r1
   refine⟨a,k,vs,rfl,r2,C5 s h2,?_,c.2.1,c.2.2.1,by rw[h3.length,sizeLine_eq];exact c.2.2.2,fun p hp=>?_⟩
   ·intro e
    subst e
    have:=h3.length
    cases xs with
    | nil=>exact absurd c.1 (by simp)
    | cons a b=>simp at this
   ·exact kk _ _ _ (Grow.laid s hp) ⟨p,_,rfl,SqT.of A5,(h3.flatten k.toNat).mono (C6 (s.free hp))⟩
  ·cases h
 ·cases h
noncomputable def bz6(f:DE):DE:=fun ρ=>(f ρ).bind fun d=>match d with
 | .int i=>some (.int (-i))
 | _=>none
theorem bh9(h:JE X a f):JE X (.UnaryOp .USub a pos) (bz6 f):=fun ρ d q=>by
 obtain⟨x,e1,e2⟩:=xbm q
 cases x with
 | int i =>
  cases e2
  exact B0 (bZ2 bH8 (h ρ _ e1)) fun σ H Q ⟨H0,Hf,s,sl,k⟩=>⟨H0,Hf,s,sl,fun v H1 Hf1 g1 r1=>⟨_,r1,k _ H1 Hf1 g1 rfl⟩⟩
 | _=>cases e2
noncomputable def isB(x y:D):Option D:=match y with
 | .bool b=>(match x with
  | .bool c=>some (.bool (c==b))
  | .dict _=>none
  | _=>some (.bool false))
 | .none=>isN x .none
 | _=>none
noncomputable def aT1(x y:D):Option D:=match y with
 | .bool b=>(match x with
  | .bool c=>some (.bool (!(c==b)))
  | .dict _=>none
  | _=>some (.bool true))
 | .none=>bO2 x .none
 | _=>none
theorem bD4:OpD X (compareOp .Is) isB:=fun x y z h=>by
 cases y with
 | none=>exact be3 x .none z h
 | bool b =>
  intro pins s σ H vx vy v u Q I rx ry ⟨Hf,ss,r1,r2,k⟩
  cases r2
  cases ry
  have fin:∀c,z=.bool c->(v==Value.bool b)=c->EP X pins σ Q (.bool (v==Value.bool b)) s:=fun c e1 e2=>by
   rw[e2];subst e1;exact⟨.bl c,H,I,rfl,k _ H Hf (Grow.refl ss) rfl⟩
  cases x with
  | none=>cases r1;cases rx;cases h;exact wpAny_is_plain rfl (fin _ rfl rfl)
  | bool c=>cases r1;cases rx;cases h;exact wpAny_is_plain rfl (fin _ rfl (by cases c<;>cases b<;>rfl))
  | int i=>cases r1;obtain⟨t,rfl⟩:=rx;cases h;exact wpAny_is_plain rfl (fin _ rfl rfl)
  | str i=>cases r1;obtain⟨t,rfl⟩:=rx;cases h;exact wpAny_is_plain rfl (fin _ rfl rfl)
  | tuple ds=>obtain⟨a,vs,rfl,_⟩:=r1;cases rx;cases h;exact wpAny_is_plain rfl (fin _ rfl rfl)
  | list ds=>obtain⟨a,vs,rfl,_⟩:=r1;cases rx;cases h;exact wpAny_is_plain rfl (fin _ rfl rfl)
  | dict ds=>cases h
 | _=>cases h
theorem az3:OpD X (compareOp .IsNot) aT1:=fun x y z h=>by
 cases y with
 | none=>exact bw2 x .none z h
 | bool b =>
  intro pins s σ H vx vy v u Q I rx ry ⟨Hf,ss,r1,r2,k⟩
  cases r2
  cases ry
  have fin:∀c,z=.bool c->(!(v==Value.bool b))=c->EP X pins σ Q (.bool (!(v==Value.bool b))) s:=fun c e1 e2=>by
   rw[e2];subst e1;exact⟨.bl c,H,I,rfl,k _ H Hf (Grow.refl ss) rfl⟩
  cases x with
  | none=>cases r1;cases rx;cases h;exact wpAny_isNot_plain rfl (fin _ rfl rfl)
  | bool c=>cases r1;cases rx;cases h;exact wpAny_isNot_plain rfl (fin _ rfl (by cases c<;>cases b<;>rfl))
  | int i=>cases r1;obtain⟨t,rfl⟩:=rx;cases h;exact wpAny_isNot_plain rfl (fin _ rfl rfl)
  | str i=>cases r1;obtain⟨t,rfl⟩:=rx;cases h;exact wpAny_isNot_plain rfl (fin _ rfl rfl)
  | tuple ds=>obtain⟨a,vs,rfl,_⟩:=r1;cases rx;cases h;exact wpAny_isNot_plain rfl (fin _ rfl rfl)
  | list ds=>obtain⟨a,vs,rfl,_⟩:=r1;cases rx;cases h;exact wpAny_isNot_plain rfl (fin _ rfl rfl)
  | dict ds=>cases h
 | _=>cases h
noncomputable def aK6(K:PySem.W.Frag) (d:D) (u:Value):Prop:=∃v,B6 v u/\∀H:Hp,Rep K H d v
theorem bQ9(r:aK6 X.K d u) (hg:Gl X x) (hm:X.mg x=some u) (hd:(x==("__debug__" : Str))=false:=by decide):JE X (.Name x pos) (dC d):=fun ρ d' q=>by
 cases q
 obtain⟨v,rv,rp⟩:=r
 exact B0 (bu4 hg hm rv hd) fun σ H Q ⟨H0,Hf,s,sl,k⟩=>k _ H Hf (Grow.refl s) (rp Hf)
noncomputable def qN(f:Rho->Option (List D)):Rho->Option (Bool×List D):=fun ρ=>(f ρ).map fun ds=>(false,ds)
theorem cc6(h:JN X e f):JQ X e (qN f):=bh1 h
noncomputable def ac6(f:Rho->Option (Bool×List D)):DE:=fun ρ=>(f ρ).bind fun q=>if q.1=true then none else some (.tuple q.2)
theorem bx9(hg:Gl X "tuple") (hm:X.mg "tuple" = none) (h:JQ X e f) (he:starEach [e] X.env=[(false,eval e X.env)]:=by rfl):JE X (.Call (.Name "tuple" p) [e] [] pos) (ac6 f):=bh6 hg hm h (he:=he)
end
end G
namespace G
open PySem PySem.Spec PyProof.Rows L2
theorem aX1(l b:Addr) (items items2:Array Value) (n n2:Nat) (dd dd2:Option Addr) (sl sl2:Array (Option Value)) (hz:items.size+items2.size<=sizeLine) :
  Meets (Builtin.«list.__add__» ⟨[.ref l,.ref b],[]⟩) (fun _ R s=>s.heap.get? l=some ⟨.type "list", dd,.seq items n,sl⟩/\s.heap.get? b=some ⟨.type "list", dd2,.seq items2 n2,sl2⟩/\R (.ok (.ret (Value.ref s.heap.objs.size))) { s with heap:=s.heap.push { cls:=Value.type "list", data:=Data.seq (items++items2) } }) :=
 .of_wp fun prog w A R s h=>by
  obtain⟨hp,g,d,tk,os⟩:=s
  obtain⟨hl,hb,h⟩:=h
  have hsub:isSubtype (.type "list") (.type "list")=pure true:=by rw[isSubtype_type];kernel_rfl
  have hsz:=hz
  wp_walk
  exact⟨_,rfl,h⟩
section
variable {X:Cx}
theorem bv5:OpR X (binaryOp .Add) (fun x y H Q=>∃a b xs ys,x=.ref a/\y=.ref b/\SqL X.K H a xs/\SqL X.K H b ys/\xs.length+ys.length<=sizeLine/\∀p,H p=none->Q (.ref p) (upd H p (.lst (xs++ys)))):=by
 intro pins s σ H x y v u Q I rx ry h
 obtain⟨a,b,xs,ys,rfl,rfl,ha,hb,hz,q⟩:=h
 cases rx
 cases ry
 obtain⟨its,r1,p1,_⟩:=I.list ha
 obtain⟨its2,r2,p2,_⟩:=I.list hb
 obtain⟨⟨cls,dd,data,sl⟩,ho,hc,n,hd⟩:=p1.isList
 obtain⟨⟨cls2,dd2,data2,sl2⟩,ho2,hc2,n2,hd2⟩:=p2.isList
 simp only at hc hd hc2 hd2
 subst hc hd hc2 hd2
 have l1:=r1.length
 have l2:=r2.length
 refine concat_meets ⟨_,ho,rfl⟩ ⟨_,ho2,rfl⟩ noFill_list_add seq_list_add PySem.F.slot_list_add PySem.F.entry_list_add (PySem.F.args_list_add_2 _ _) (aX1 a b its.toArray its2.toArray n n2 dd dd2 sl sl2 (by simp only[List.size_toArray];grind)) ⟨ho,ho2,?_⟩
 have ea:its.toArray++its2.toArray=(its++its2).toArray:=by simp
 rw[ea]
 exact⟨.ref _,_,I.lnew (t':=s.toks) (r1.append r2) (by rw[List.length_append];grind),rfl,q _ I.fresh⟩
noncomputable def P3(x y:D):Option D:=match x,y with
 | .list xs,.list ys=>if xs.length+ys.length<=16777216 then some (.list (xs++ys)) else none
 | x,y=>a9 x y
theorem aN4:OpD X (binaryOp .Add) P3:=fun x y z h=>by
 unfold P3 at h
 split at h
 ·split at h
  ·rename_i c
   cases h
   refine OpR.imp bv5 fun vx vy H Q ⟨Hf,s,r1,r2,k⟩=>?_
   obtain⟨a,vs,rfl,h2,h3⟩:=r1
   obtain⟨b,us,rfl,h5,h6⟩:=r2
   refine⟨a,b,vs,us,rfl,rfl,K6 s h2,K6 s h5,by rw[h3.length,h6.length,sizeLine_eq];exact c,fun p hp=>?_⟩
   exact k _ _ _ (Grow.laid s hp) ⟨p,vs++us,rfl,SqL.of A5,(h3.append h6).mono (C6 (s.free hp))⟩
  ·cases h
 ·exact be4 _ _ z h
end
end G
namespace G
open PySem PySem.Spec PyProof.Rows L2
section
variable {prog:Program}{w:World}{A:Around}{E:Value->Shared->Prop}{s:Shared}
end
section
variable {X:Cx}{e st:Expr}{te ts:TE}{p2 pos:Pos}
end
end G
namespace G
open PySem PySem.Spec PyProof.Rows L2
section
variable {X:Cx}
noncomputable def ah9(f:DE) (lo hi:Rho->Option (Option Int)):DE:=fun ρ=>(f ρ).bind fun d=>(lo ρ).bind fun l=>(hi ρ).bind fun h=>match d with
 | .tuple xs=>some (.tuple (af0 xs l h))
 | .list xs=>some (.list (af0 xs l h))
 | _=>none
theorem bQ3{a:Expr}{lo hi:Option Expr}{f:DE}{l h:Rho->Option (Option Int)}{pos p2:Pos}(ha:JE X a f) (hl:JO X lo l) (hh:JO X hi h):JE X (.Subscript a (.Slice lo hi none p2) pos) (ah9 f l h):=fun ρ d q=>by
 obtain⟨x,e1,q⟩:=xbm q
 obtain⟨y,e2,q⟩:=xbm q
 obtain⟨z,e3,q⟩:=xbm q
 cases x with
 | tuple xs =>
  cases q
  refine bh8 ha hl hh ρ _ ?_
  unfold av9
  rw[e1,Option.bind_some,e2,Option.bind_some,e3,Option.bind_some]
 | list xs =>
  cases q
  refine B0 (ay5 bs0 (ha ρ _ e1) (hl ρ y e2) (hh ρ z e3)) fun σ H Q ⟨H0,Hf,s,sl,k⟩=>?_
  refine⟨H0,Hf,s,sl,fun v H1 Hf1 g1 ⟨p,vs,q1,q2,q3⟩=>⟨H0,Hf1,g1.sub,sl.grow g1,fun H2 Hf2 g2=>⟨H0,Hf2,g2.sub,sl.grow (g1.trans g2),fun H3 Hf3 g3=>?_⟩⟩⟩
  subst q1
  have q2':=K6 (g2.trans g3).ext q2
  have q3':=q3.mono (g2.trans g3).ext
  refine⟨p,vs,rfl,K6 g3.sub q2',fun p' hp=>?_⟩
  exact k _ _ _ (((g1.trans g2).trans g3).trans (Grow.laid g3.sub hp)) ⟨p',_,rfl,SqL.of A5,(ay2 q3' y z).mono (C6 (g3.sub.free hp))⟩
 | _=>cases q
end
end G
namespace G
open PySem PySem.Spec PyProof.Rows L2
section
variable {X:Cx}
end
end G
namespace G
open PySem PySem.Spec PyProof.Rows L2
section
open PySem.SeqAt PySem.MeetsSeq PySem.MeetsSeq2 PySem.MeetsSeq3 PySem.SeqRoads2
open PySem.AutoSeq1 (wpAny_loadPart')
theorem ak4(l:Addr) (items:Array Value) (n:Nat) (dd:Option Addr) (sl:Array (Option Value)) (x:Value) (e:Nat->Bool) :
  Meets (Builtin.«tuple.__contains__» ⟨[.ref l,x],[]⟩)
   (fun A R s=>s.heap.get? l=some { cls:=.type "tuple", dict:=dd,data:=.seq items n,slots:=sl }/\(∀j (h:j < items.size),EqAt A.in1 s items[j] x (e j))/\R (.ok (.ret (.bool ((List.range items.size).any e)))) s) :=
 .of_wp fun prog w A R s h=>by
  obtain⟨hp,g,d,tk,os⟩:=s;obtain⟨hl,he,h⟩:=h
  wp_walk using wpAny_loadPart' hl,wpAny_forIn_array _ (fun P4 b s'=>b.1=none/\s'=⟨hp,g,d,tk,os⟩/\∃i,P4=items.toList.drop i/\R (.ok (.ret (.bool (((List.range items.size).drop i).any e)))) ⟨hp,g,d,tk,os⟩) _
  case turn =>
   rintro y P4 b s' ⟨hb,rfl,i,hz,hR⟩
   have hlt:i < items.toList.length:=by
    rcases Nat.lt_or_ge i items.toList.length with h'|h'
    ·exact h'
    ·rw[List.drop_of_length_le h']at hz;cases hz
   have hi:i < items.size:=by simpa using hlt
   rw[List.drop_eq_getElem_cons hlt]at hz
   injection hz with hy hrest
   have hy:y=items[i]:=by simpa using hy
   subst hy
   have hd:(List.range items.size).drop i=i::(List.range items.size).drop (i+1):=by simp[List.drop_eq_getElem_cons,hi]
   rw[hd,List.any_cons]at hR
   refine wpAny_bind (he i hi prog w _ _ ?_)
   cases hy:e i with
   | true =>
    rw[hy]at hR
    wp_walk
    exact⟨_,rfl,by simpa using hR⟩
   | false =>
    rw[hy]at hR
    wp_walk
    exact⟨rfl,rfl,i+1,hrest,by simpa using hR⟩
  case fin =>
   rintro⟨b1,b2⟩ s' ⟨hb,rfl,i,hz,hR⟩
   simp only at hb
   subst hb
   have hge:items.size<=i:=by
    rcases Nat.lt_or_ge i items.toList.length with h'|h'
    ·rw[List.drop_eq_getElem_cons h']at hz;cases hz
    ·simpa using h'
   rw[List.drop_of_length_le (by simpa using hge)]at hR
   wp_walk
   exact⟨_,rfl,by simpa using hR⟩
  case h =>
   exact⟨rfl,rfl,0,by simp,by simpa using h⟩
end
section
variable {X:Cx}
noncomputable def U1:D->Bool
 | .none=>true
 | .bool _=>true
 | .int _=>true
 | .str _=>true
 | _=>false
noncomputable def toV:D->V
 | .none=>.non
 | .bool b=>.bl b
 | .int i=>.int i
 | .str x=>.str x
 | _=>.non
theorem Y2{K:PySem.W.Frag}{H:Hp}{d:D}{v:V}(f:U1 d=true) (r:Rep K H d v):v=toV d/\u5 v=true:=by
 cases d with
 | none=>cases r;exact⟨rfl,rfl⟩
 | bool b=>cases r;exact⟨rfl,rfl⟩
 | int i=>cases r;exact⟨rfl,rfl⟩
 | str x=>cases r;exact⟨rfl,rfl⟩
 | tuple _=>cases f
 | list _=>cases f
 | dict _=>cases f
theorem m7{K:PySem.W.Frag}{H:Hp}:∀{ds:List D}{vs:List V},ds.all U1=true->Reps K H ds vs->vs=ds.map toV/\vs.all u5=true
 | [],vs,_,r=>by cases(show vs=[] from r);exact⟨rfl,rfl⟩
 | d::ds,vs,f,r=>by
  rw[List.all_cons,Bool.and_eq_true]at f
  obtain⟨v,r',e,h1,h2⟩:=r
  subst e
  obtain⟨e1,e2⟩:=Y2 f.1 h1
  obtain⟨e3,e4⟩:=m7 f.2 h2
  subst e1 e3
  exact⟨rfl,by rw[List.all_cons,e2,e4];rfl⟩
noncomputable def isS:D->Bool
 | .str _=>true
 | _=>false
noncomputable def inD(neg:Bool) (x y:D):Option D:=match y with
 | .list ds=>if U1 x=true/\ds.all U1=true then some (.bool (if neg then !inV (toV x) (ds.map toV) else inV (toV x) (ds.map toV))) else none
 | .tuple ds=>if U1 x=true/\ds.all U1=true then some (.bool (if neg then !inV (toV x) (ds.map toV) else inV (toV x) (ds.map toV))) else if U1 x=false/\SeqAt.shaped x=true/\ds.all isS=true then some (.bool neg) else if SeqAt.shaped x=true/\x.depth<=60/\ds.all SeqAt.shaped=true then some (.bool (if neg then !(ds.any fun y=>PyData.eqv y x) else ds.any fun y=>PyData.eqv y x)) else none
 | _=>none
theorem bz2(f:U1 x=false) (sh:SeqAt.shaped x=true) (r:Reads s.heap v x as) (hu:A.units < cLine) (a:Str) (t:Tok):SeqAt.EqAt A s (.str a t) v false:=by
 cases r with
 | none=>cases f
 | bool _=>cases f
 | int _ _=>cases f
 | str _ _=>cases f
 | list h1 h2 h3 _=>exact SeqAt.EqAt.str_list a t ⟨_,h1,h2,_,h3⟩ hu
 | tuple h1 h2 h3 _=>exact SeqAt.EqAt.str_tuple a t ⟨_,h1,h2,_,h3⟩ hu
 | dict _ _ _ _ _=>exact absurd (SeqAt.canLay_of_shaped sh) (by simp[PyData.canLay0])
theorem aC1{K:PySem.W.Frag}{H:Hp}:∀{ds:List D}{vs:List V}{us:List Value},ds.all isS=true->Reps K H ds vs->B9 vs us->∀y∈us,∃a t,y=Value.str a t
 | [],_,_,_,r,w=>by cases(show _=[] from r);cases w;intro y hy;cases hy
 | d::ds,_,_,f,r,w=>by
  rw[List.all_cons,Bool.and_eq_true]at f
  obtain⟨v,r',rfl,h1,h2⟩:=r
  cases w with
  | cons w1 w2 =>
   intro y hy
   rcases List.mem_cons.mp hy with rfl|hy
   ·cases d with
    | str a =>
     cases(show v=.str a from h1)
     obtain⟨t,e⟩:=w1
     exact⟨a,t,e⟩
    | _=>cases f.1
   ·exact aC1 f.2 h2 w2 y hy
theorem bj1{x:D}{ds:List D}{vx vy:V}{v u:Value}{pins:List (Addr×Obj)}{s:Shared}{σ:L2.St}{H Hf:Hp}{Q:Value->Shared->Prop}(hu:X.A.units+64 < cLine) (f:U1 x=false) (sh:SeqAt.shaped x=true) (a:ds.all isS=true) (I:L2.Inv X pins σ H s) (rx:B6 vx v) (ry:B6 vy u) (ss:B3 Hf H) (r1:Rep X.K Hf x vx) (r2:Rep X.K Hf (.tuple ds) vy) :
  (Q (.bool false) s->wpAny (model X.prog X.w) X.A (compareOp .In v u) Q X.xe s)/\(Q (.bool true) s->wpAny (model X.prog X.w) X.A (compareOp .NotIn v u) Q X.xe s):=by
 obtain⟨p,vs,rfl,h2,h3⟩:=r2
 obtain rfl:u=Value.ref p:=ry
 obtain⟨its,rv,pl,_⟩:=I.tuple (C5 ss h2)
 obtain⟨as,rd⟩:=Rep.reads I (r1.mono ss) rx
 have st:=aC1 a h3 rv
 have he:∀y,y∈its.toArray->SeqAt.EqAt X.A.in1 s y v ((fun _=>false) y):=fun y hy=>by
  obtain⟨b,t,rfl⟩:=st y (by simpa using hy)
  exact bz2 f sh rd (by show X.A.units+1 < _;grind) b t
 have no:its.toArray.any (fun _=>false)=false:=by simp
 refine⟨fun q=>SeqAt.in_tupleAt (fun _=>false) pl he (by rw[no];exact q),fun q=>SeqAt.notIn_tupleAt (fun _=>false) pl he (by rw[no];exact q)⟩
theorem bK0:∀{vs:List Value}{ds:List D}{as:List Addr},ReadsAll h vs ds as->vs.length=ds.length/\∀(j:Nat) (hj:j < vs.length),∃bs,Reads h vs[j] (ds.getD j .none) bs
 | [],_,_,r=>by cases r;exact⟨rfl,fun j hj=>absurd hj (Nat.not_lt_zero _)⟩
 | v::vs,_,_,r=>by
  cases r with
  | cons r1 r2 =>
   obtain⟨h1,h2⟩:=bK0 r2
   refine⟨by rw[List.length_cons,List.length_cons,h1],fun j hj=>?_⟩
   cases j with
   | zero=>exact⟨_,r1⟩
   | succ j=>exact h2 j (by simpa using hj)
theorem aX0{α:Type}(p:α->Bool) (z:α) (l:List α):(List.range l.length).any (fun j=>p (l.getD j z))=l.any p:=by
 rw[Bool.eq_iff_iff,List.any_eq_true,List.any_eq_true]
 constructor
 ·rintro⟨j,hj,h⟩
  have hj:=List.mem_range.mp hj
  exact⟨l[j],List.getElem_mem hj,by simpa [hj] using h⟩
 ·rintro⟨x,hx,h⟩
  obtain⟨j,hj,rfl⟩:=List.getElem_of_mem hx
  exact⟨j,List.mem_range.mpr hj,by simpa [hj] using h⟩
theorem bq6(hu:X.A.units+64 < cLine) (sx:SeqAt.shaped x=true) (dx:x.depth<=60) (sd:ds.all SeqAt.shaped=true) (I:L2.Inv X pins σ H s) (rx:B6 vx v) (ss:B3 Hf H) (r1:Rep X.K Hf x vx) (h2:SqT X.K Hf p vs) (h3:Reps X.K Hf ds vs) :
  ∃its:List Value,IsTup s.heap p its.toArray/\its.length=ds.length/\∀j (h:j < its.toArray.size),SeqAt.EqAt X.A.in1 s its.toArray[j] v (PyData.eqv (ds.getD j .none) x):=by
 obtain⟨its,rv,pl,_⟩:=I.tuple (C5 ss h2)
 obtain⟨as,rd⟩:=Rep.reads I (r1.mono ss) rx
 obtain⟨bs,ra⟩:=Reps.reads I (h3.mono ss) rv
 obtain⟨e1,e2⟩:=bK0 ra
 refine⟨its,pl,e1,fun j hj=>?_⟩
 have hj':j < its.length:=by simpa using hj
 obtain⟨cs,q⟩:=e2 j hj'
 have hd:j < ds.length:=by grind
 have sj:=List.all_eq_true.mp sd _ (List.getElem_mem hd)
 have ej:ds.getD j .none=ds[j]:=by simp[hd]
 rw[ej]at q ⊢
 have:=SeqAt.eqAt_reads ds[j] x X.A.in1 s _ _ _ _ q rd (SeqAt.canLay_of_shaped sj) (SeqAt.canLay_of_shaped sx) (by show X.A.units+1+_ < _;have:=Nat.min_le_right ds[j].depth x.depth;grind)
 simpa using this
theorem bj0(hu:X.A.units+64 < cLine) (sx:SeqAt.shaped x=true) (dx:x.depth<=60) (sd:ds.all SeqAt.shaped=true) (I:L2.Inv X pins σ H s) (rx:B6 vx v) (ry:B6 vy u) (ss:B3 Hf H) (r1:Rep X.K Hf x vx) (r2:Rep X.K Hf (.tuple ds) vy) :
  (Q (.bool (ds.any fun y=>PyData.eqv y x)) s->wpAny (model X.prog X.w) X.A (compareOp .In v u) Q X.xe s)/\(Q (.bool (!(ds.any fun y=>PyData.eqv y x))) s->wpAny (model X.prog X.w) X.A (compareOp .NotIn v u) Q X.xe s):=by
 obtain⟨p,vs,rfl,h2,h3⟩:=r2
 obtain rfl:u=Value.ref p:=ry
 obtain⟨its,pl,ln,he⟩:=bq6 hu sx dx sd I rx ss r1 h2 h3
 obtain⟨⟨cls,dd,data,sl⟩,ho,hc,n,hd⟩:=id pl
 simp only at hc hd
 subst hc hd
 have ea:(List.range its.toArray.size).any (fun j=>PyData.eqv (ds.getD j .none) x)=ds.any fun y=>PyData.eqv y x:=by
  rw[List.size_toArray,ln]
  exact aX0 (fun y=>PyData.eqv y x) .none ds
 refine⟨fun q=>SeqRoads2.in_meets ⟨_,ho,rfl⟩ F.slot_tuple_contains F.entry_tuple_contains (F.args_tuple_contains_2 _ _) (ak4 p its.toArray n dd sl v _) ⟨ho,he,_,rfl,by rw[ea];exact q⟩,
  fun q=>SeqRoads2.notIn_meets ⟨_,ho,rfl⟩ F.slot_tuple_contains F.entry_tuple_contains (F.args_tuple_contains_2 _ _) (ak4 p its.toArray n dd sl v _) ⟨ho,he,_,rfl,by rw[ea];exact q⟩⟩
theorem bj2{op:CmpOp}{neg:Bool}(o:OpR X (compareOp op) (rIn X.K neg)) (o2:∀x ds,U1 x=false->SeqAt.shaped x=true->ds.all isS=true->OpR X (compareOp op) (fun vx vy H Q=>∃Hf,B3 Hf H/\Rep X.K Hf x vx/\Rep X.K Hf (.tuple ds) vy/\∀v H' Hf',Grow H Hf H' Hf'->Rep X.K Hf' (.bool neg) v->Q v H'))
  (o3:∀x ds,SeqAt.shaped x=true->x.depth<=60->ds.all SeqAt.shaped=true->OpR X (compareOp op) (fun vx vy H Q=>∃Hf,B3 Hf H/\Rep X.K Hf x vx/\Rep X.K Hf (.tuple ds) vy/\∀v H' Hf',Grow H Hf H' Hf'->Rep X.K Hf' (.bool (if neg then !(ds.any fun y=>PyData.eqv y x) else ds.any fun y=>PyData.eqv y x)) v->Q v H')):OpD X (compareOp op) (inD neg):=fun x y z h=>by
 unfold inD at h
 split at h
 ·split at h
  ·rename_i c
   cases h
   refine OpR.imp o fun vx vy H Q ⟨Hf,s,r1,r2,k⟩=>?_
   obtain⟨p,vs,rfl,h2,h3⟩:=r2
   obtain⟨e1,e2⟩:=Y2 c.1 r1
   obtain⟨e3,e4⟩:=m7 c.2 h3
   subst e1 e3
   exact⟨p,_,rfl,.inl (K6 s h2),e2,e4,k _ H Hf (Grow.refl s) rfl⟩
  ·cases h
 ·split at h
  ·rename_i c
   cases h
   refine OpR.imp o fun vx vy H Q ⟨Hf,s,r1,r2,k⟩=>?_
   obtain⟨p,vs,rfl,h2,h3⟩:=r2
   obtain⟨e1,e2⟩:=Y2 c.1 r1
   obtain⟨e3,e4⟩:=m7 c.2 h3
   subst e1 e3
   exact⟨p,_,rfl,.inr (C5 s h2),e2,e4,k _ H Hf (Grow.refl s) rfl⟩
  ·split at h
   ·rename_i c
    cases h
    exact o2 _ _ c.1 c.2.1 c.2.2
   ·split at h
    ·rename_i c
     cases h
     exact o3 _ _ c.1 c.2.1 c.2.2
    ·cases h
 ·cases h
theorem ca6(hu:X.A.units+64 < cLine):OpD X (compareOp .In) (inD false):=bj2 aS6 (fun x ds f sh a pins s σ H vx vy v u Q I rx ry ⟨Hf,ss,r1,r2,k⟩=>(bj1 hu f sh a I rx ry ss r1 r2).1 ⟨.bl false,H,I,rfl,k _ H Hf (Grow.refl ss) rfl⟩)
 fun x ds sx dx sd pins s σ H vx vy v u Q I rx ry ⟨Hf,ss,r1,r2,k⟩=>(bj0 hu sx dx sd I rx ry ss r1 r2).1 ⟨.bl _,H,I,rfl,k _ H Hf (Grow.refl ss) rfl⟩
theorem be2(hu:X.A.units+64 < cLine):OpD X (compareOp .NotIn) (inD true):=bj2 au1 (fun x ds f sh a pins s σ H vx vy v u Q I rx ry ⟨Hf,ss,r1,r2,k⟩=>(bj1 hu f sh a I rx ry ss r1 r2).2 ⟨.bl true,H,I,rfl,k _ H Hf (Grow.refl ss) rfl⟩)
 fun x ds sx dx sd pins s σ H vx vy v u Q I rx ry ⟨Hf,ss,r1,r2,k⟩=>(bj0 hu sx dx sd I rx ry ss r1 r2).2 ⟨.bl _,H,I,rfl,k _ H Hf (Grow.refl ss) rfl⟩
end
end G
namespace G
open PySem PySem.Spec PyProof.Rows L2
section
variable {X:Cx}
theorem bT9:bootBuiltins "min" = some (.builtin "min"):=by decide +kernel
theorem bU0:bootBuiltins "max" = some (.builtin "max"):=by decide +kernel
noncomputable def aq8(f g:DE):DE:=fun ρ=>(f ρ).bind fun x=>(g ρ).bind fun y=>match x,y with
 | .int i,.int j=>some (.int (if j < i then j else i))
 | _,_=>none
noncomputable def ac7(f g:DE):DE:=fun ρ=>(f ρ).bind fun x=>(g ρ).bind fun y=>match x,y with
 | .int i,.int j=>some (.int (if j > i then j else i))
 | _,_=>none
theorem by1(hg:Gl X "min") (hm:X.mg "min" = none) (h:JE X e f) (h':JE X e' g) (hc:X.calm=true:=by rfl) (he:starEach [e,e'] X.env=(false,eval e X.env)::starEach [e'] X.env:=by rfl) (he':starEach [e'] X.env=[(false,eval e' X.env)]:=by rfl)
  (hpl:(backTo pos (starEach [e'] X.env)).any (·.1)=false:=by rfl):JE X (.Call (.Name "min" p) [e,e'] [] pos) (aq8 f g):=fun ρ d q=>by
 obtain⟨x,h1,q⟩:=xbm q
 obtain⟨y,h2,h3⟩:=xbm q
 split at h3
 ·cases h3
  exact B0 (Q9 (aW4 hc) hg hm bT9 (E2 (h ρ _ h1) (E2 (h' ρ _ h2) M3 he') he) (he:=he) (hpl:=hpl)) fun σ H Q ⟨H0,Hf,s,sl,k⟩ =>
   ⟨H0,Hf,s,sl,fun v H1 Hf1 g1 r=>⟨H0,Hf1,g1.sub,sl.grow g1,fun w H2 Hf2 g2 r2=>⟨_,_,by rw[show v=_ from r,show w=_ from r2],k _ H2 Hf2 (g1.trans g2) rfl⟩⟩⟩
 ·cases h3
theorem by2(hg:Gl X "max") (hm:X.mg "max" = none) (h:JE X e f) (h':JE X e' g) (hc:X.calm=true:=by rfl) (he:starEach [e,e'] X.env=(false,eval e X.env)::starEach [e'] X.env:=by rfl) (he':starEach [e'] X.env=[(false,eval e' X.env)]:=by rfl)
  (hpl:(backTo pos (starEach [e'] X.env)).any (·.1)=false:=by rfl):JE X (.Call (.Name "max" p) [e,e'] [] pos) (ac7 f g):=fun ρ d q=>by
 obtain⟨x,h1,q⟩:=xbm q
 obtain⟨y,h2,h3⟩:=xbm q
 split at h3
 ·cases h3
  exact B0 (Q9 (aW5 hc) hg hm bU0 (E2 (h ρ _ h1) (E2 (h' ρ _ h2) M3 he') he) (he:=he) (hpl:=hpl)) fun σ H Q ⟨H0,Hf,s,sl,k⟩ =>
   ⟨H0,Hf,s,sl,fun v H1 Hf1 g1 r=>⟨H0,Hf1,g1.sub,sl.grow g1,fun w H2 Hf2 g2 r2=>⟨_,_,by rw[show v=_ from r,show w=_ from r2],k _ H2 Hf2 (g1.trans g2) rfl⟩⟩⟩
 ·cases h3
theorem bi7(Fk:FnOk X.prog X.w X.K X.mg X.base CX0 k f fd ps (spF X.K 0 F)) (hr:Room k X.A) (hg:Gl X x) (hm:X.mg x=some (.ref f)) (hk:PySem.W.keepIn X.K (.ref f)=true) (hb:K2 X.K fd ps [])
  (hdb:(x==("__debug__" : Str))=false:=by decide):JE X (.Call (.Name x p) [] [] pos) (B1 F A6):=fun ρ d q=>by
 have h2:F []=some d:=q
 refine B0 (bc6 Fk hr hg hm hk hb .nil ap6 hdb) fun σ H Q ⟨H0,Hf,s,sl,kk⟩=>?_
 exact⟨rfl,Hf,[],d,s,rfl,h2,fun v H2 Hf2 g2 r2=>kk v H2 Hf2 g2 r2⟩
end
end G
namespace G
open PySem PySem.Spec PyProof.Rows L2
noncomputable def ar4(K:PySem.W.Frag):List D->List Value->Prop
 | [],us=>us=[]
 | d::ds,us=>∃u r,us=u::r/\aK6 K d u/\ar4 K ds r
section
variable {K:PySem.W.Frag}
theorem aT9:ar4 K [] []:=rfl
theorem al6(h:aK6 K d u) (t:ar4 K ds us):ar4 K (d::ds) (u::us):=⟨u,us,rfl,h,t⟩
theorem aq4:∀{ds:List D}{us:List Value},ar4 K ds us->∃vs,B9 vs us/\∀H:Hp,Reps K H ds vs
 | [],_,h=>by cases h;exact⟨[],.nil,fun _=>rfl⟩
 | d::ds,_,⟨u,r,e,⟨v,h1,h2⟩,h3⟩=>by
  subst e
  obtain⟨vs,q1,q2⟩:=aq4 h3
  exact⟨v::vs,.cons h1 q1,fun H=>⟨v,vs,rfl,h2 H,q2 H⟩⟩
theorem aB3(i:Int) (t:Tok):aK6 K (.int i) (.int i t):=⟨.int i,⟨t,rfl⟩,fun _=>rfl⟩
theorem bg2(h:K.lookup a=some o) (hc:o.cls=.type "tuple") (hn:o.dict=none) (hd:o.data=.seq its n) (hz:its.size<=1000) (hi:ar4 K ds its.toList):aK6 K (.tuple ds) (.ref a):=by
 obtain⟨vs,q1,q2⟩:=aq4 hi
 exact⟨.ref a,rfl,fun H=>⟨a,vs,rfl,.inr ⟨o,its,n,h,hc,hn,hd,Nat.le_of_lt (Q5 hz),q1⟩,q2 H⟩⟩
end
end G
namespace G
open PySem PySem.Spec PyProof.Rows L2
theorem aA1(l:Addr) (items:Array Value) (n:Nat) (dd:Option Addr) (sl:Array (Option Value)) (u:Tok) :
  Meets (Builtin.«tuple.__mul__» ⟨[.ref l,.int 1 u],[]⟩) (fun _ R s=>s.heap.get? l=some ⟨.type "tuple", dd,.seq items n,sl⟩/\R (.ok (.ret (Value.ref l))) s) :=
 .of_wp fun prog w A R s h=>by
  obtain⟨hp,g,d,tk,os⟩:=s
  obtain⟨hl,h⟩:=h
  wp_walk
  exact⟨_,rfl,h⟩
section
variable {X:Cx}
theorem bd4:OpR X (binaryOp .Mult) (fun x y H Q=>∃l xs,x=.ref l/\y=.int 1/\SqT X.K H l xs/\Q (.ref l) H):=by
 intro pins s σ H x y v u Q I rx ry h
 obtain⟨l,xs,rfl,rfl,hq,q⟩:=h
 cases rx
 obtain⟨t,rfl⟩:=ry
 obtain⟨its,r,p1,_⟩:=I.tuple hq
 obtain⟨⟨cls,dd,data,sl⟩,ho,hc,n,hd⟩:=id p1
 simp only at hc hd
 subst hc hd
 exact wpAny_binaryOp_repeat_ref (T := "tuple") (U := "int") (by decide) ⟨_,ho,rfl⟩ (fun s'=>typeIs_int s' 1 t) ag2 F.fills_int_mul F.slot_int_rmul ap4 F.slot_int_index.lookup
  (call_meets F.slot_int_rmul (typeIs_int s 1 t) F.entry_int_rmul (F.args_int_rmul_2 _ _) (ab3 1 t l its.toArray n dd sl) ⟨ho,rfl,⟨_,ho,rfl⟩,
   call_meets F.slot_tuple_mul ⟨_,ho,rfl⟩ F.entry_tuple_mul (F.args_tuple_mul_2 _ _) (aA1 l its.toArray n dd sl t) ⟨ho,⟨.ref l,H,I,rfl,q⟩⟩⟩)
theorem at3(a:Int) (t:Tok) (l:Addr) (items:Array Value) (n:Nat) (dd:Option Addr) (sl:Array (Option Value)) :
  Meets (Builtin.«int.__rmul__» ⟨[.int a t,.ref l],[]⟩) (fun _ R s=>s.heap.get? l=some ⟨.type "list", dd,.seq items n,sl⟩/\R (.ok (.ret Value.notImplemented)) s):=Meets.of_wp fun prog w A R s h=>by
 obtain⟨hp,g,d,tk,os⟩:=s
 obtain⟨hl,h⟩:=h
 wp_walk
 exact⟨_,rfl,h⟩
theorem aA3(l:Addr) (items:Array Value) (n:Nat) (dd:Option Addr) (sl:Array (Option Value)) (x:Int) (u:Tok) (c0:¬(!Builtin.List.listFitsIndex x)=true) (c1:¬items.size*x.toNat > (2 ^ 63 - 1) / 8) (c2:¬Builtin.List.listTooLong (items.size*x.toNat)=true) :
  Meets (Builtin.«list.__mul__» ⟨[.ref l,.int x u],[]⟩) (fun _ R s=>s.heap.get? l=some ⟨.type "list", dd,.seq items n,sl⟩/\R (.ok (.ret (Value.ref s.heap.objs.size))) { s with heap:=s.heap.push { cls:=Value.type "list", data:=Data.seq (List.foldl (fun x1 x2=>x1++x2) #[] (List.replicate (if items.isEmpty=true then 0 else x.toNat) items)) } }):=Meets.of_wp fun prog w A R s h=>by
 obtain⟨hp,g,d,tk,os⟩:=s
 obtain⟨hl,h⟩:=h
 have hsz:=AutoListH.joined_fits c2
 wp_walk
 refine wpAny_ite_false (decide_eq_false (Nat.not_lt.mpr hsz)) ?_
 wp_walk
 exact⟨_,rfl,h⟩
theorem bv0:OpR X (binaryOp .Mult) (fun x y H Q=>∃l k xs,x=.ref l/\y=.int k/\SqL X.K H l xs/\0<=k/\k < 1000000/\xs.length*k.toNat<=sizeLine/\∀p,H p=none->Q (.ref p) (upd H p (.lst (List.replicate k.toNat xs).flatten))):=by
 intro pins s σ H x y v u Q I rx ry h
 obtain⟨l,k,xs,rfl,rfl,hq,h1,h2,hz,q⟩:=h
 cases rx
 obtain⟨t,rfl⟩:=ry
 obtain⟨its,r,p1,_⟩:=I.list hq
 obtain⟨⟨cls,dd,data,sl⟩,ho,hc,n,hd⟩:=p1.isList
 simp only at hc hd
 subst hc hd
 have hl:=r.length
 have hlen:its.toArray.size*k.toNat<=sizeLine:=by rw[List.size_toArray,← hl];exact hz
 have hcap:¬its.toArray.size*k.toNat > (2 ^ 63 - 1) / 8:=by
  have:(sizeLine:Nat)<=(2 ^ 63 - 1) / 8:=by decide
  grind
 have hfit:¬(!Builtin.List.listFitsIndex k)=true:=by
  rw[fitsIndex_both (by grind) (by grind)];exact Bool.false_ne_true
 have hlong:¬Builtin.List.listTooLong (its.toArray.size*k.toNat)=true:=by
  rw[be6 hlen];exact Bool.false_ne_true
 have hnew:List.foldl (fun x1 x2=>x1++x2) #[] (List.replicate (if its.toArray.isEmpty=true then 0 else k.toNat) its.toArray)=(List.replicate k.toNat its).flatten.toArray:=by
  rw[aG5]
  cases its with
  | nil=>simp
  | cons a r'=>rw[if_neg (by simp)]
 refine wpAny_binaryOp_repeat_ref (T := "list") (U := "int") (by decide) ⟨_,ho,rfl⟩ (fun s'=>typeIs_int s' k t) noFill_list_mul F.fills_int_mul F.slot_int_rmul repeat_list F.slot_int_index.lookup
  (call_meets F.slot_int_rmul (typeIs_int s k t) F.entry_int_rmul (F.args_int_rmul_2 _ _) (at3 k t l its.toArray n dd sl) ⟨ho,rfl,⟨_,ho,rfl⟩,
   call_meets F.slot_list_mul ⟨_,ho,rfl⟩ F.entry_list_mul (F.args_list_mul_2 _ _) (aA3 l its.toArray n dd sl k t hfit hcap hlong) ⟨ho,?_⟩⟩)
 rw[hnew]
 exact⟨.ref _,_,I.lnew (t':=s.toks) (r.rep k.toNat) (by rw[au8,Nat.mul_comm];exact hz),rfl,q _ I.fresh⟩
noncomputable def X3(x y:D):Option D:=match x,y with
 | .tuple xs,.int k=>if k=1 then some (.tuple xs) else T9 (.tuple xs) (.int k)
 | .list xs,.int k=>if 0<=k/\k < 1000000/\xs.length*k.toNat<=16777216 then some (.list (List.replicate k.toNat xs).flatten) else none
 | x,y=>T9 x y
theorem aN3:OpD X (binaryOp .Mult) X3:=fun x y z h=>by
 unfold X3 at h
 split at h
 ·split at h
  ·rename_i xs k c
   subst c
   cases h
   refine OpR.imp bd4 fun vx vy H Q ⟨Hf,s,r1,r2,kk⟩=>?_
   obtain⟨a,vs,rfl,h2,h3⟩:=r1
   exact⟨a,vs,rfl,r2,C5 s h2,kk _ _ _ (Grow.refl s) ⟨a,vs,rfl,h2,h3⟩⟩
  ·exact au5 _ _ z h
 ·split at h
  ·rename_i xs k c
   cases h
   refine OpR.imp bv0 fun vx vy H Q ⟨Hf,s,r1,r2,kk⟩=>?_
   obtain⟨a,vs,rfl,h2,h3⟩:=r1
   refine⟨a,k,vs,rfl,r2,K6 s h2,c.1,c.2.1,by rw[h3.length,sizeLine_eq];exact c.2.2,fun p hp=>?_⟩
   exact kk _ _ _ (Grow.laid s hp) ⟨p,_,rfl,SqL.of A5,(h3.flatten k.toNat).mono (C6 (s.free hp))⟩
  ·cases h
 ·exact au5 _ _ z h
theorem an0(i j:Int):P3 (.int i) (.int j)=some (.int (i+j)):=rfl
noncomputable def K8:DS:=fun _=>none
theorem C7{st:Stmt}:JS X st K8:=fun ρ fl q=>by cases q
noncomputable def ah4(f:DE):Rho->Option Bool:=fun ρ=>(f ρ).bind R7
theorem bg7(o1:OpD X (compareOp op) h1) (o2:OpD X (compareOp op') h2) (ha:JE X a f) (hb:JE X b g) (hc:JE X c k)
  (hm:lastMarks [op,op'] [b,c]=false:=by with_unfolding_all rfl):JT X (.Compare a [op,op'] [b,c] pos) (ah4 (X9 h1 h2 f g k)):=fun ρ d q=>by
 obtain⟨dd,q,ed⟩:=xbm q
 have ed:=aQ5 ed
 subst ed
 obtain⟨x,e1,q⟩:=xbm q
 obtain⟨y,e2,q⟩:=xbm q
 obtain⟨z,e3,q⟩:=xbm q
 split at q
 ·obtain⟨w,e4,e5⟩:=xbm q
  refine Z6 (ay3 (o1 x y _ e3) (o2 y w _ e5) (ha ρ x e1) (hb ρ y e2) (hc ρ w e4) hm) fun σ H Q ⟨H0,Hf,s,sl,kk⟩=>?_
  refine⟨H0,Hf,s,sl,fun v H1 Hf1 g1 r1=>⟨H0,Hf1,g1.sub,sl.grow g1,fun u H2 Hf2 g2 r2=>⟨Hf2,g2.sub,r1.mono g2.ext,r2,fun z' H3 Hf3 g3 r3=>?_⟩⟩⟩
  refine⟨true,r3,aa3 ⟨H0,Hf3,g3.sub,sl.grow ((g1.trans g2).trans g3),fun w' H4 Hf4 g4 r4=>⟨Hf4,g4.sub,r2.mono (g3.trans g4).ext,r4,fun z2 H5 Hf5 g5 r5=>?_⟩⟩⟩
  exact⟨d,r5,kk H5 Hf5 ((((g1.trans g2).trans g3).trans g4).trans g5)⟩
 ·cases q
  intro pins s σ H Q I ⟨H0,Hf,ss,sl,kk⟩
  refine ay3 (tc:=fun _ _ _=>False) (r':=fun _ _ _ _=>False) (o1 x y _ e3) (fun _ _ _ _ _ _ _ _ _ _ _ _ h=>h.elim) (ha ρ x e1) (hb ρ y e2) (fun _ _ _ _ _ _ h=>h.elim) hm pins s σ H Q I ?_
  refine⟨H0,Hf,ss,sl,fun v H1 Hf1 g1 r1=>⟨H0,Hf1,g1.sub,sl.grow g1,fun u H2 Hf2 g2 r2=>⟨Hf2,g2.sub,r1.mono g2.ext,r2,fun z' H3 Hf3 g3 r3=>?_⟩⟩⟩
  exact⟨false,r3,aa4 ⟨false,rfl,kk H3 Hf3 ((g1.trans g2).trans g3)⟩⟩
 ·cases q
end
end G
namespace G
open PySem PySem.Spec PyProof.Rows L2
section
variable {prog:Program}{w:World}{A:Around}{E:Value->Shared->Prop}{s:Shared}{t:Bool}
end
section
variable {X:Cx}
end
end G
namespace G
open PySem PySem.Spec PyProof.Rows L2
section
variable {prog:Program}{w:World}{A:Around}{E:Value->Shared->Prop}{s:Shared}
end
section
variable {X:Cx}
end
end G
namespace G
open PySem PySem.Spec PyProof.Rows L2
section
variable {X:Cx}
noncomputable def bs6(x:Str) (k:Int):Str:=if(k==1 || x.length==0)=true then x else⟨(List.replicate k.toNat x.cps).foldl (·++·) #[]⟩
noncomputable def bO5(x y:D):Option D:=match x,y with
 | .str x,.int k=>if 1<=k/\k<=2/\x.length<=1000/\(bs6 x k).length<=16777216 then some (.str (bs6 x k)) else none
 | _,_=>none
theorem bw3:OpD X (binaryOp .Mult) bO5:=fun x y z h=>by
 unfold bO5 at h
 split at h
 ·split at h
  ·rename_i x k c
   cases h
   intro pins s σ H vx vy v u Q I rx ry ⟨Hf,ss,r1,r2,kk⟩
   cases r1
   cases r2
   obtain⟨t,rfl⟩:=rx
   obtain⟨t2,rfl⟩:=ry
   have w:=kk (.str (bs6 x k)) H Hf (Grow.refl ss) rfl
   have k12:k=1\/k=2:=by grind
   refine P.mul_str (by rw[decide_eq_false (by grind),decide_eq_false (by grind)];rfl) (fun _ _=>by rcases k12 with rfl|rfl<;>grind) (fun _ _=>?_) ?_
   ·unfold Builtin.Str.tooLong
    rw[sizeLine_eq]
    refine decide_eq_false ?_
    rcases k12 with rfl|rfl<;>simp<;>grind
   ·rw[if_neg (by grind)]
    unfold bs6 at w c
    split
    ·rename_i e
     rw[if_pos e]at w
     exact⟨.str x,H,I,⟨_,rfl⟩,w⟩
    ·rename_i e
     rw[if_neg e]at w c
     exact⟨by rw[sizeLine_eq];exact c.2.2.2,.str _,H,I.tok _,⟨_,rfl⟩,w⟩
  ·cases h
 ·cases h
end
end G
namespace G
open PySem PySem.Spec PyProof.Rows L2
section
variable {X:Cx}
end
end G
namespace G
open PySem PySem.Spec PyProof.Rows L2
section
variable {X:Cx}
end
end G
namespace G
open PySem PySem.Spec PyProof.Rows L2
section
variable {prog:Program}{w:World}{A:Around}{R:Result->Shared->Prop}{J:Addr}{fp wr:List Addr}{Gn:Array GenState->Array GenState->Prop}{n:Nat}{P:Nat->Value->Prop}{St:Nat->Shared->Prop}
end
section
variable {prog:Program}{w:World}{A:Around}{E:Value->Shared->Prop}{s:Shared}
end
end G
namespace G
open PySem PySem.Spec PyProof.Rows L2
section
variable {X:Cx}
end
end G
namespace G
open PySem PySem.Spec PyProof.Rows L2
section
variable {X:Cx}
end
end G
namespace G
open PySem PySem.Spec PyProof PyProof.Rows L2
section
variable {X:Cx}
end
end G
namespace G
open PySem PySem.Spec PyProof.Rows L2
section
variable {prog:Program}{w:World}{A:Around}{E:Value->Shared->Prop}{s:Shared}{t:Bool}
end
section
variable {X:Cx}{pins:List (Addr×Obj)}{σ:L2.St}{A:Around}{t:Bool}{S e it a:Addr}{ws:List V}
end
section
variable {X:Cx}
end
end G
namespace G
open PySem PySem.Spec PyProof.Rows L2
section
open PySem.SeqAt PySem.MeetsSeq PySem.MeetsSeq2 PySem.MeetsSeq3 PySem.SeqRoads2
open PySem.AutoSeq1 (wpAny_loadPart')
end
section
variable {X:Cx}
end
end G
namespace G
open PySem PySem.Spec PyProof.Rows L2
section
variable {X:Cx}
noncomputable def flV:Value->D
 | .bool b=>.bool b
 | .int i _=>.int i
 | .str x _=>.str x
 | _=>.none
theorem bS2(f:U1 d=true) (r:B6 (toV d) y):flV y=d:=by
 cases d with
 | none=>cases r;rfl
 | bool b=>cases r;rfl
 | int i=>obtain⟨t,rfl⟩:=r;rfl
 | str x=>obtain⟨t,rfl⟩:=r;rfl
 | tuple _=>cases f
 | list _=>cases f
 | dict _=>cases f
theorem aP0:∀{ds:List D}{its:List Value},ds.all U1=true->B9 (ds.map toV) its->its.map flV=ds
 | [],its,_,r=>by cases r;rfl
 | d::ds,its,f,r=>by
  rw[List.all_cons,Bool.and_eq_true]at f
  cases r with
  | cons r1 r2=>rw[List.map_cons,bS2 f.1 r1,aP0 f.2 r2]
theorem aO0(hu:X.A.units+64 < cLine) (sx:SeqAt.shaped x=true) (dx:x.depth<=60) (sd:ds.all SeqAt.shaped=true) (fd:ds.all U1=true) (I:L2.Inv X pins σ H s) (rx:B6 vx v) (ss:B3 Hf H) (r1:Rep X.K Hf x vx) (h2:SqL X.K Hf p vs) (h3:Reps X.K Hf ds vs) :
  ∃its:List Value,PlainL s.heap p its.toArray/\its.map flV=ds/\its.length<=sizeLine/\∀y∈its.toArray,SeqAt.EqAt X.A.in1 s y v (PyData.eqv (flV y) x):=by
 obtain⟨its,rv,pl,hz⟩:=I.list (K6 ss h2)
 have hz':its.length<=sizeLine:=by rw[← rv.length];exact hz
 obtain⟨as,rd⟩:=Rep.reads I (r1.mono ss) rx
 obtain⟨bs,ra⟩:=Reps.reads I (h3.mono ss) rv
 obtain⟨e1,e2⟩:=bK0 ra
 have fm:its.map flV=ds:=by
  obtain⟨e,_⟩:=m7 fd h3
  subst e
  exact aP0 fd rv
 refine⟨its,pl,fm,hz',fun y hy=>?_⟩
 obtain⟨j,hj,rfl⟩:=List.getElem_of_mem (List.mem_toArray.mp hy)
 obtain⟨cs,q⟩:=e2 j hj
 have hd:j < ds.length:=by grind
 have sj:=List.all_eq_true.mp sd _ (List.getElem_mem hd)
 have ej:flV its[j]=ds[j]:=by
  have:(its.map flV)[j]'(by simpa using hj)=ds[j]:=by simp only[fm]
  rwa [List.getElem_map]at this
 have eg:ds.getD j .none=ds[j]:=by simp[hd]
 rw[eg]at q
 rw[ej]
 have:=SeqAt.eqAt_reads ds[j] x X.A.in1 s _ _ _ _ q rd (SeqAt.canLay_of_shaped sj) (SeqAt.canLay_of_shaped sx) (by show X.A.units+1+_ < _;have:=Nat.min_le_right ds[j].depth x.depth;grind)
 simpa using this
noncomputable def bK2(X:Cx) (ds:List D) (x z:D):V->List V->Hp->VK->Prop:=fun vt vs H Q=>∃Hf vx,vs=[vx]/\B3 Hf H/\Rep X.K Hf (.list ds) vt/\Rep X.K Hf x vx/\∀v,Rep X.K Hf z v->Q v H
theorem aT4(hu:X.A.units+64 < cLine) (sx:SeqAt.shaped x=true) (dx:x.depth<=60) (sd:ds.all SeqAt.shaped=true) (fd:ds.all U1=true):MtR X "list.count" (bK2 X ds x (.int (ds.countP fun y=>PyData.eqv y x))):=by
 intro pins s σ H vt vs v us Q I rt rv ⟨Hf,vx,e,ss,r1,r2,q⟩
 subst e
 obtain⟨u,rfl,rx⟩:=ak3 rv
 obtain⟨p,ws,rfl,h2,h3⟩:=r1
 obtain rfl:v=Value.ref p:=rt
 obtain⟨its,pl,fm,_,he⟩:=aO0 hu sx dx sd fd I rx ss r2 h2 h3
 obtain⟨⟨cls,dd,data,sl⟩,n,ho,hc,hd0,hd⟩:=pl
 simp only at hc hd hd0
 subst hc hd hd0
 refine call_meets F.slot_list_count ⟨_,ho,rfl⟩ F.entry_list_count (F.args_list_count_2 _ _) (SeqAt.list_countAt p its.toArray n none sl u fun y=>PyData.eqv (flV y) x) ⟨ho,he,.int (ds.countP fun y=>PyData.eqv y x),H,I.tok _,⟨s.toks,?_⟩,q _ rfl⟩
 have:(its.countP fun y=>PyData.eqv (flV y) x)=ds.countP fun y=>PyData.eqv y x:=by
  rw[← fm,List.countP_map];rfl
 rw[← this]
theorem aT3(hu:X.A.units+64 < cLine) {ds:List D}{x:D}{j:Nat}(sx:SeqAt.shaped x=true) (dx:x.depth<=60) (sd:ds.all SeqAt.shaped=true) (fd:ds.all U1=true) (hj:ds.findIdx? (fun y=>PyData.eqv y x)=some j):MtR X "list.index" (bK2 X ds x (.int j)):=by
 intro pins s σ H vt vs v us Q I rt rv ⟨Hf,vx,e,ss,r1,r2,q⟩
 subst e
 obtain⟨u,rfl,rx⟩:=ak3 rv
 obtain⟨p,ws,rfl,h2,h3⟩:=r1
 obtain rfl:v=Value.ref p:=rt
 obtain⟨its,pl,fm,hz,he⟩:=aO0 hu sx dx sd fd I rx ss r2 h2 h3
 obtain⟨⟨cls,dd,data,sl⟩,n,ho,hc,hd0,hd⟩:=pl
 simp only at hc hd hd0
 subst hc hd hd0
 obtain⟨h1,h4,h5⟩:=List.findIdx?_eq_some_iff_getElem.mp hj
 have ln:its.length=ds.length:=by rw[← fm,List.length_map]
 have ej:∀(m:Nat) (hm:m < its.length),flV its[m]=ds[m]'(by grind):=fun m hm=>by
  have:(its.map flV)[m]'(by simpa using hm)=ds[m]'(by grind):=by simp only[fm]
  rwa [List.getElem_map]at this
 have hn:=v9
 refine call_meets F.slot_list_index ⟨_,ho,rfl⟩ F.entry_list_index (F.args_list_index_2 _ _) (SeqAt.list_indexAt p its.toArray n none sl u (fun y=>PyData.eqv (flV y) x) j (by rw[List.size_toArray];grind) (by grind) (by simpa [ej j (by grind)] using h4) fun m hm hmj=>?_) ⟨ho,he,.int j,H,I.tok _,⟨_,rfl⟩,q _ rfl⟩
 have hm':m < its.length:=by simpa using hm
 have:=h5 m hmj
 simpa [ej m hm'] using this
theorem bM0{o e:Expr}{to:TE}{t:TA}{name:Str}{apos cpos:Pos}{id:String}{r:V->List V->Hp->VK->Prop}(slot:Slot "list" name id) (hty:typeOf (.builtin id)=pure (.type "method_descriptor")) (hm:MtR X id r) (ho:PE X o to) (ha:PA X [e] t)
  (hbase:attributeBase o name X.env (eval o X.env)=eval o X.env)
  (hfew:((backTo cpos (starEach [e] X.env)).all (fun x=>!x.1)&&(backToKw cpos (keywordEach [] X.env)).all (fun x=>x.1.isSome)&&decide (([e]:List Expr).length+([]:List Keyword).length+(if([]:List Keyword).isEmpty then 0 else 1) < 30))=true)
  (hline:(apos.endLine==cpos.line)=true) (hs:starEach [e] X.env=[(false,eval e X.env)]) :
  PE X (.Call (.Attribute o name apos) [e] [] cpos) (fun σ H Q=>to σ H fun x H1=>(∃p xs,x=.ref p/\SqL X.K H1 p xs)/\t σ H1 fun xs H2=>r x xs H2 Q):=by
 intro pins s σ H Q I h
 refine wpAny_Call_method_late hbase hfew hline rfl (thn (ho pins s σ H _ I h) fun v s1 ⟨x,H1,I1,r1,⟨p,xs,e1,e2⟩,q1⟩=>?_)
 subst e1
 obtain rfl:v=Value.ref p:=r1
 obtain⟨its,_,⟨ob,n,g1,g2,g4,_⟩,_⟩:=I1.list e2
 refine⟨"list", id,F.plainAttrs_list,slot,hty,⟨ob,g1,g2⟩,fun a ea=>?_,?_⟩
 ·cases ea;exact⟨ob,g1,g4⟩
 have hA:=ha cpos pins s1 σ H1 _ I1 q1
 rw[hs]at hA ⊢
 refine Calls.callWith_builtin (by rfl) (Calls.evalArgs_plain ?_)
 exact thn hA fun us s2 ⟨vs,H2,I2,r2,q2⟩=>hm pins s2 σ H2 (.ref p) vs (.ref p) us Q I2 rfl r2 q2
noncomputable def lsB(x:D) (ds:List D):Prop:=SeqAt.shaped x=true/\x.depth<=60/\ds.all SeqAt.shaped=true/\ds.all U1=true
instance (x:D) (ds:List D):Decidable (lsB x ds):=by unfold lsB;exact inferInstance
noncomputable def aJ3(f g:DE):DE:=fun ρ=>(f ρ).bind fun t=>(g ρ).bind fun x=>match t with
 | .list ds=>if lsB x ds then some (.int (ds.countP fun y=>PyData.eqv y x)) else none
 | _=>none
noncomputable def aw0(f g:DE):DE:=fun ρ=>(f ρ).bind fun t=>(g ρ).bind fun x=>match t with
 | .list ds=>if lsB x ds then(ds.findIdx? fun y=>PyData.eqv y x).map (fun(j:Nat)=>PyData.int (j:Int)) else none
 | _=>none
theorem aO5{o e:Expr}{f g:DE}{name:Str}{id:String}{apos cpos:Pos}{ρ:Rho}{ds:List D}{x z:D}(slot:Slot "list" name id) (hty:typeOf (.builtin id)=pure (.type "method_descriptor")) (hm:MtR X id (bK2 X ds x z)) (ho:JE X o f) (h:JE X e g) (hz:∀Hf Hf' v,Rep X.K Hf z v->Rep X.K Hf' z v) (e1:f ρ=some (.list ds)) (e2:g ρ=some x) (hbase:attributeBase o name X.env (eval o X.env)=eval o X.env)
  (hfew:((backTo cpos (starEach [e] X.env)).all (fun x=>!x.1)&&(backToKw cpos (keywordEach [] X.env)).all (fun x=>x.1.isSome)&&decide (([e]:List Expr).length+([]:List Keyword).length+(if([]:List Keyword).isEmpty then 0 else 1) < 30))=true)
  (hline:(apos.endLine==cpos.line)=true) (hs:starEach [e] X.env=[(false,eval e X.env)]):PE X (.Call (.Attribute o name apos) [e] [] cpos) (tJ X.K ρ fun _ v _ Hf=>Rep X.K Hf z v):=by
 refine B0 (bM0 slot hty hm (ho ρ _ e1) (E2 (h ρ _ e2) M3 hs) hbase hfew hline hs) fun σ H Q ⟨H0,Hf,s,sl,k⟩=>?_
 refine⟨H0,Hf,s,sl,fun v H1 Hf1 g1 r1=>?_⟩
 have r1':=r1
 obtain⟨p,vs,rfl,h2,h3⟩:=r1
 refine⟨⟨p,vs,rfl,K6 g1.sub h2⟩,H0,Hf1,g1.sub,sl.grow g1,fun w H2 Hf2 g2 r2=>?_⟩
 exact⟨Hf2,w,rfl,g2.sub,r1'.mono g2.ext,r2,fun v rv=>k _ H2 Hf2 (g1.trans g2) rv⟩
theorem bi3(hu:X.A.units+64 < cLine) (ho:JE X o f) (h:JE X e g) (hbase:attributeBase o "count" X.env (eval o X.env)=eval o X.env)
  (hfew:((backTo cpos (starEach [e] X.env)).all (fun x=>!x.1)&&(backToKw cpos (keywordEach [] X.env)).all (fun x=>x.1.isSome)&&decide (([e]:List Expr).length+([]:List Keyword).length+(if([]:List Keyword).isEmpty then 0 else 1) < 30))=true)
  (hline:(apos.endLine==cpos.line)=true) (hs:starEach [e] X.env=[(false,eval e X.env)]):JE X (.Call (.Attribute o "count" apos) [e] [] cpos) (aJ3 f g):=fun ρ d q=>by
 obtain⟨t,e1,q⟩:=xbm q
 obtain⟨x,e2,q⟩:=xbm q
 cases t with
 | list ds =>
  simp only at q
  split at q
  ·rename_i c
   cases q
   exact aO5 F.slot_list_count F.type_list_count (aT4 hu c.1 c.2.1 c.2.2.1 c.2.2.2) ho h (fun _ _ _ r=>r) e1 e2 hbase hfew hline hs
  ·cases q
 | _=>cases q
theorem aU3{o e:Expr}{f g:DE}{apos cpos:Pos}(hu:X.A.units+64 < cLine) (ho:JE X o f) (h:JE X e g) (hbase:attributeBase o "index" X.env (eval o X.env)=eval o X.env)
  (hfew:((backTo cpos (starEach [e] X.env)).all (fun x=>!x.1)&&(backToKw cpos (keywordEach [] X.env)).all (fun x=>x.1.isSome)&&decide (([e]:List Expr).length+([]:List Keyword).length+(if([]:List Keyword).isEmpty then 0 else 1) < 30))=true)
  (hline:(apos.endLine==cpos.line)=true) (hs:starEach [e] X.env=[(false,eval e X.env)]):JE X (.Call (.Attribute o "index" apos) [e] [] cpos) (aw0 f g):=fun ρ d q=>by
 obtain⟨t,e1,q⟩:=xbm q
 obtain⟨x,e2,q⟩:=xbm q
 cases t with
 | list ds =>
  simp only at q
  split at q
  ·rename_i c
   obtain⟨j,hj,rfl⟩:=Option.map_eq_some_iff.mp q
   exact aO5 F.slot_list_index F.type_list_index (aT3 hu c.1 c.2.1 c.2.2.1 c.2.2.2 hj) ho h (fun _ _ _ r=>r) e1 e2 hbase hfew hline hs
  ·cases q
 | _=>cases q
end
end G
namespace L2
open PySem PySem.Spec PyProof.Rows
section
variable {κ:Type} [DecidableEq κ]
noncomputable def i3(kvs:List (κ×V)) (k:κ):Option V:=(kvs.find? fun kv=>decide (kv.1=k)).map (·.2)
noncomputable def ad8(kvs:List (κ×V)) (k:κ) (v:V):List (κ×V) :=
 if(kvs.any fun kv=>decide (kv.1=k))=true then kvs.map (fun kv=>if kv.1=k then(kv.1,v) else kv) else kvs++[(k,v)]
noncomputable def ag8(kvs:List (κ×V)) (k:κ):List (κ×V):=kvs.filter fun kv=>decide (kv.1≠k)
theorem aa7{p:κ×V}{r:List (κ×V)}{k:κ}(e:p.1=k):i3 (p::r) k=some p.2:=by simp[i3,List.find?_cons,e]
theorem aa8{p:κ×V}{r:List (κ×V)}{k:κ}(e:¬p.1=k):i3 (p::r) k=i3 r k:=by simp[i3,List.find?_cons,e]
theorem ax1(k:κ):∀kvs:List (κ×V),(kvs.any fun kv=>decide (kv.1=k))=(i3 kvs k).isSome
 | []=>rfl
 | p::r=>by
  rw[List.any_cons]
  by_cases e:p.1=k
  ·simp only[aa7 e,decide_eq_true e,Bool.true_or,Option.isSome_some]
  ·rw[aa8 e,decide_eq_false e,Bool.false_or];exact ax1 k r
theorem ag4(kvs:List (κ×V)) (k:κ) (v:V):(ad8 kvs k v).length<=kvs.length+1:=by
 unfold ad8
 split
 ·rw[List.length_map];omega
 ·rw[List.length_append,List.length_cons,List.length_nil];omega
theorem c5.isSome_eq{o:Option V}{u:Option Value}(r:c5 o u):o.isSome=u.isSome:=by
 cases o with
 | none=>cases u with
  | none=>rfl
  | some _=>exact(show False from r).elim
 | some _=>cases u with
  | none=>exact(show False from r).elim
  | some _=>rfl
theorem c5.getD{o:Option V}{u:Option Value}{d:V}{d':Value}(r:c5 o u) (rd:B6 d d'):B6 (o.getD d) (u.getD d'):=by
 cases o with
 | none=>cases u with
  | none=>exact rd
  | some _=>exact(show False from r).elim
 | some _=>cases u with
  | none=>exact(show False from r).elim
  | some _=>exact r
theorem KV.val{kvs:List (κ×V)}{vs:List (κ×Value)}(r:KV kvs vs) (k:κ):c5 (i3 kvs k) (valueAt vs k):=by
 unfold KV at r
 induction r with
 | nil=>exact True.intro
 | @cons p q ps qs h t ih =>
  obtain⟨h1,h2⟩:=h
  by_cases e:p.1=k
  ·have e':q.1=k:=h1.symm.trans e
   have b:valueAt (q::qs) k=some q.2:=by simp[valueAt,List.find?_cons,e']
   rw[aa7 e,b];exact h2
  ·have e':¬q.1=k:=fun z=>e (h1.trans z)
   have b:valueAt (q::qs) k=valueAt qs k:=by simp[valueAt,List.find?_cons,e']
   rw[aa8 e,b];exact ih
theorem KV.any{kvs:List (κ×V)}{vs:List (κ×Value)}(r:KV kvs vs) (k:κ):(kvs.any fun kv=>decide (kv.1=k))=vs.any fun kv=>decide (kv.1=k):=by
 unfold KV at r
 induction r with
 | nil=>rfl
 | cons h t ih=>rw[List.any_cons,List.any_cons,ih,h.1]
theorem KV.repl{kvs:List (κ×V)}{vs:List (κ×Value)}(r:KV kvs vs) (k:κ) {y:V}{u:Value}(ry:B6 y u) :
  KV (kvs.map fun kv=>if kv.1=k then(kv.1,y) else kv) (vs.map fun kv=>if kv.1=k then(kv.1,u) else kv):=by
 unfold KV at r ⊢
 induction r with
 | nil=>exact .nil
 | @cons p q ps qs h t ih =>
  rw[List.map_cons,List.map_cons]
  refine .cons ?_ ih
  obtain⟨h1,h2⟩:=h
  by_cases e:p.1=k
  ·rw[if_pos e,if_pos (h1.symm.trans e)];exact⟨h1,ry⟩
  ·rw[if_neg e,if_neg (fun z=>e (h1.trans z))];exact⟨h1,h2⟩
theorem KV.put{kvs:List (κ×V)}{vs:List (κ×Value)}(r:KV kvs vs) (k:κ) {y:V}{u:Value}(ry:B6 y u):KV (ad8 kvs k y) (stored vs k u):=by
 unfold ad8 stored
 rw[r.any k]
 by_cases e:(vs.any fun kv=>decide (kv.1=k))=true
 ·rw[if_pos e,if_pos e];exact r.repl k ry
 ·rw[if_neg e,if_neg e];exact Paired.snoc r ⟨rfl,ry⟩
theorem KV.drop{kvs:List (κ×V)}{vs:List (κ×Value)}(r:KV kvs vs) (k:κ):KV (ag8 kvs k) (without vs k):=by
 unfold KV at r ⊢
 unfold ag8 without
 induction r with
 | nil=>exact .nil
 | @cons p q ps qs h t ih =>
  obtain⟨h1,h2⟩:=h
  rw[List.filter_cons,List.filter_cons]
  by_cases e:p.1=k
  ·have a:¬decide (p.1≠k)=true:=by simp[e]
   have b:¬decide (q.1≠k)=true:=by simp[h1.symm.trans e]
   rw[if_neg a,if_neg b];exact ih
  ·have e':¬q.1=k:=fun z=>e (h1.trans z)
   have a:decide (p.1≠k)=true:=by simp[e]
   have b:decide (q.1≠k)=true:=by simp[e']
   rw[if_pos a,if_pos b];exact .cons ⟨h1,h2⟩ ih
theorem KV.length{kvs:List (κ×V)}{vs:List (κ×Value)}(r:KV kvs vs):kvs.length=vs.length:=Paired.length r
theorem aC2(kvs:List (κ×V)) (k:κ):(ag8 kvs k).length<=kvs.length:=List.length_filter_le _ _
end
theorem ac1{P:Program}{w:World}{k:Key}{u:Value}(r:B6 (kV k) u):(K1 P w).is k u=true:=by
 cases k with
 | inl i=>obtain⟨t,e⟩:=(show ∃t,u=Value.int i t from r);subst e;exact aA7 P w i t
 | inr x=>obtain⟨t,e⟩:=(show ∃t,u=Value.str x t from r);subst e;exact aA6 P w x t
theorem aq5{P:Program}{w:World}:∀{ks:List Key}{us:List Value},B9 (ks.map kV) us->ItemsAre (K1 P w) ks us
 | [],_,r=>by rw[List.map_nil]at r;cases r;exact .nil
 | k::ks,_,r=>by
  rw[List.map_cons]at r
  cases r with
  | cons h t=>exact .cons (ac1 h) (aq5 t)
noncomputable abbrev KT(H:Hp):List (List Key×V)->List (List Key×Addr×Value)->Prop:=Paired fun p q=>p.1=q.1/\H q.2.1=some (.tup (p.1.map kV))/\B6 p.2 q.2.2
theorem KT.val{H:Hp}{kvs:List (List Key×V)}{xs:List (List Key×Addr×Value)}(r:KT H kvs xs) (k:List Key):c5 (i3 kvs k) ((atKey xs k).map (·.2)):=by
 induction r with
 | nil=>exact True.intro
 | @cons p q ps qs h t ih =>
  obtain⟨h1,_,h2⟩:=h
  by_cases e:p.1=k
  ·have e':q.1=k:=h1.symm.trans e
   have b:atKey (q::qs) k=some q.2:=by simp[atKey,List.find?_cons,e']
   rw[aa7 e,b];exact h2
  ·have e':¬q.1=k:=fun z=>e (h1.trans z)
   have b:atKey (q::qs) k=atKey qs k:=by simp[atKey,List.find?_cons,e']
   rw[aa8 e,b];exact ih
theorem KT.repl{H:Hp}{kvs:List (List Key×V)}{xs:List (List Key×Addr×Value)}(r:KT H kvs xs) (k:List Key) {y:V}{u:Value}(ry:B6 y u) :
  KT H (kvs.map fun kv=>if kv.1=k then(kv.1,y) else kv) (xs.map (putAt k u)):=by
 induction r with
 | nil=>exact .nil
 | @cons p q ps qs h t ih =>
  rw[List.map_cons,List.map_cons]
  refine .cons ?_ ih
  obtain⟨h1,h2,h3⟩:=h
  unfold putAt
  by_cases e:p.1=k
  ·rw[if_pos e,if_pos (h1.symm.trans e)];exact⟨h1,h2,ry⟩
  ·rw[if_neg e,if_neg (fun z=>e (h1.trans z))];exact⟨h1,h2,h3⟩
theorem KT.put{H:Hp}{kvs:List (List Key×V)}{xs:List (List Key×Addr×Value)}(r:KT H kvs xs) (k:List Key) {b:Addr}{y:V}{u:Value}(hb:H b=some (.tup (k.map kV))) (ry:B6 y u) :
  KT H (ad8 kvs k y) (storedH xs k b u):=by
 have e:(kvs.any fun kv=>decide (kv.1=k))=(atKey xs k).isSome:=by
  rw[ax1,(r.val k).isSome_eq,Option.isSome_map]
 unfold ad8 storedH
 rw[e]
 by_cases q:(atKey xs k).isSome=true
 ·rw[if_pos q,if_pos q];exact r.repl k ry
 ·rw[if_neg q,if_neg q];exact Paired.snoc r ⟨rfl,hb,ry⟩
theorem KT.keeps{H H':Hp}{kvs:List (List Key×V)}{xs:List (List Key×Addr×Value)}(r:KT H kvs xs) (ht:∀b ys,H b=some (.tup ys)->H' b=some (.tup ys)):KT H' kvs xs :=
 Paired.mapP r fun _ _ z=>⟨z.1,ht _ _ z.2.1,z.2.2⟩
section
variable {P:Program}{w:World}{H:Hp}{h:Heap}{a:Addr}
theorem bC8{u:HO}(ok:HOk P w H h) (e:Rd H a u):N8 P w H h a u:=e.ok ok
theorem ac3{kvs:List (Key×V)}(ok:HOk P w H h) (e:Rd H a (.dK kvs)):kvs.length<=sizeLine/\(a==sysModules)=false/\∃vs,KV kvs vs/\h.DictOf (K1 P w) a vs :=
 show N8 P w H h a (.dK kvs) from bC8 ok e
theorem aP4{kvs:List (Key×V)}(ok:HOk P w H h) (e:H a=some (.dK kvs)):kvs.length<=sizeLine/\(a==sysModules)=false/\∃vs,KV kvs vs/\h.DictOf (K1 P w) a vs:=ac3 ok (.inl e)
theorem w9{ks:List Key}(ok:HOk P w H h) (e:H a=some (.tup (ks.map kV))):(tupleKind (K1 P w)).is h ks a:=by
 obtain⟨_,its,r,o,h1,h2,⟨n,h3⟩,_⟩:=(show N8 P w H h a (.tup (ks.map kV)) from ok a _ e)
 exact⟨o,its.toArray,n,h1,h2,h3,by simpa using aq5 r⟩
theorem ag7{kvs:List (List Key×V)}(ok:HOk P w H h) (e:Rd H a (.dT kvs)):kvs.length<=sizeLine/\(a==sysModules)=false /\
  ∃xs,KT H kvs xs/\h.DictOfH (tupleKind (K1 P w)) a xs:=by
 obtain⟨z,y,xs,r,o,es,ep,h1,h2,h3,h4,h5⟩:=(show N8 P w H h a (.dT kvs) from bC8 ok e)
 refine⟨z,y,xs,r,o,es,ep,h1,h2,h3,h4,fun x hx=>?_,h5⟩
 have all:∀{l:List (List Key×V)}{m:List (List Key×Addr×Value)},KT H l m->∀x∈m,(tupleKind (K1 P w)).is h x.1 x.2.1:=by
  intro l m q
  induction q with
  | nil=>intro x hx;exact nomatch hx
  | @cons p q ps qs hq t ih =>
   intro x hx
   rcases List.mem_cons.mp hx with e|hx
   ·subst e
    exact w9 ok (by rw[← hq.1];exact hq.2.1)
   ·exact ih x hx
 exact all r x hx
theorem ce3{kvs:List (List Key×V)}(ok:HOk P w H h) (e:H a=some (.dT kvs)):kvs.length<=sizeLine/\(a==sysModules)=false /\
  ∃xs,KT H kvs xs/\h.DictOfH (tupleKind (K1 P w)) a xs:=ag7 ok (.inl e)
end
noncomputable def Z0(H:Hp) (a:Addr) (y:V) (r:Option V):Prop :=
 (∃kvs k,Rd H a (.dK kvs)/\y=kV k/\r=i3 kvs k)\/∃kvs k b,Rd H a (.dT kvs)/\y=.ref b/\H b=some (.tup (k.map kV))/\r=i3 kvs k
noncomputable def aX3(H:Hp) (a:Addr) (y v:V) (H':Hp):Prop :=
 (∃kvs k,H a=some (.dK kvs)/\y=kV k/\kvs.length < sizeLine/\H'=upd H a (.dK (ad8 kvs k v))) \/
 ∃kvs k b,H a=some (.dT kvs)/\y=.ref b/\H b=some (.tup (k.map kV))/\kvs.length < sizeLine/\H'=upd H a (.dT (ad8 kvs k v))
theorem Z0.k{H:Hp}{a:Addr}{kvs:List (Key×V)}{k:Key}(e:H a=some (.dK kvs)):Z0 H a (kV k) (i3 kvs k):=.inl ⟨kvs,k,.inl e,rfl,rfl⟩
theorem aX3.k{H:Hp}{a:Addr}{kvs:List (Key×V)}{k:Key}{v:V}(e:H a=some (.dK kvs)) (hl:kvs.length < sizeLine):aX3 H a (kV k) v (upd H a (.dK (ad8 kvs k v))):=.inl ⟨kvs,k,e,rfl,hl,rfl⟩
section
variable {X:Cx}{pins:List (Addr×Obj)}{σ:St}{H:Hp}{s:Shared}{a:Addr}{y v:V}{u r:Value}{o:Option V}{A:Around}{E:Value->Shared->Prop}
theorem Inv.big(I:Inv X pins σ H s):sysModules < s.heap.objs.size:=by
 have h:mainGlobals < s.heap.objs.size:=(I.mod.glob.keeps I.bk).lt
 exact Nat.lt_trans (by decide) h
theorem aV9{Q:Value->Shared->Prop}(hu:A.units+1 < cLine) (I:Inv X pins σ H s) (g:Z0 H a y (some v)) (ry:B6 y u) (h:∀w' s',Inv X pins σ H s'->B6 v w'->Q w' s') :
  wpAny (model X.prog X.w) A (getItem (.ref a) u) Q E s:=by
 rcases g with⟨kvs,k,e,ey,l⟩|⟨kvs,k,b,e,ey,eb,l⟩
 ·subst ey
  obtain⟨z,hd,vs,rel,dd⟩:=ac3 I.hok e
  obtain⟨w',hw,rw'⟩:=c5.some_of (v:=v) (o:=valueAt vs k) (by rw[l];exact rel.val k)
  exact wpAny_getItem_of (ac1 ry) dd.mapOf hw (h w' _ (I.tok _) rw')
 ·subst ey
  cases(show u=Value.ref b from ry)
  obtain⟨z,hd,xs,rel,dd⟩:=ag7 I.hok e
  obtain⟨w',hw,rw'⟩:=c5.some_of (v:=v) (o:=(atKey xs k).map (·.2)) (by rw[l];exact rel.val k)
  obtain⟨p,hp,hp2⟩:=Option.map_eq_some_iff.mp hw
  refine wpAny_getItem_heap (tupleKind_room_in1 hu) (w9 I.hok eb) dd hp ?_
  rw[hp2]
  exact h w' _ (I.tok _) rw'
theorem ce5{Q:Value->Shared->Prop}(hu:A.units+1 < cLine) (I:Inv X pins σ H s) (g:Z0 H a y o) (ry:B6 y u) (h:∀s',Inv X pins σ H s'->Q (.bool o.isSome) s') :
  wpAny (model X.prog X.w) A (compareOp .In u (.ref a)) Q E s:=by
 rcases g with⟨kvs,k,e,ey,l⟩|⟨kvs,k,b,e,ey,eb,l⟩
 ·subst ey
  obtain⟨z,hd,vs,rel,dd⟩:=ac3 I.hok e
  refine wpAny_in_of (ac1 ry) hd dd.mapOf ?_
  rw[← (rel.val k).isSome_eq,← l]
  exact h _ (I.tok _)
 ·subst ey
  cases(show u=Value.ref b from ry)
  obtain⟨z,hd,xs,rel,dd⟩:=ag7 I.hok e
  refine wpAny_in_heap (tupleKind_room_in1 hu) (w9 I.hok eb) hd dd ?_
  have q:=(rel.val k).isSome_eq
  rw[Option.isSome_map]at q
  rw[← q,← l]
  exact h _ (I.tok _)
theorem aP7{Q:Value->Shared->Prop}(hu:A.units+1 < cLine) (I:Inv X pins σ H s) (g:Z0 H a y o) (ry:B6 y u) (h:∀s',Inv X pins σ H s'->Q (.bool (!o.isSome)) s') :
  wpAny (model X.prog X.w) A (compareOp .NotIn u (.ref a)) Q E s:=by
 rcases g with⟨kvs,k,e,ey,l⟩|⟨kvs,k,b,e,ey,eb,l⟩
 ·subst ey
  obtain⟨z,hd,vs,rel,dd⟩:=ac3 I.hok e
  refine wpAny_notIn_of (ac1 ry) hd dd.mapOf ?_
  rw[← (rel.val k).isSome_eq,← l]
  exact h _ (I.tok _)
 ·subst ey
  cases(show u=Value.ref b from ry)
  obtain⟨z,hd,xs,rel,dd⟩:=ag7 I.hok e
  refine wpAny_notIn_heap (tupleKind_room_in1 hu) (w9 I.hok eb) hd dd ?_
  have q:=(rel.val k).isSome_eq
  rw[Option.isSome_map]at q
  rw[← q,← l]
  exact h _ (I.tok _)
theorem aj3{h':Heap}{t':Nat}{ob:HO}(I:Inv X pins σ H s) (mu:Mut (H a)) (hs:Heap.SameBut a s.heap h') (he:∃q,h'.get? a=some q) (new:N8 X.prog X.w (upd H a ob) h' a ob) :
  Inv X pins σ (upd H a ob) { s with heap:=h',toks:=t' } :=
 I.write (x:=a) (e:=a) mu (.inl rfl) (fun b q hb z=>(hs.2 b hb).trans z) he new
theorem av6{P:Program}{w:World}{H':Hp}{h':Heap}{kvs:List (Key×V)}{vs:List (Key×Value)}(z:kvs.length<=sizeLine) (hd:(a==sysModules)=false) (rel:KV kvs vs) (dd:h'.DictOf (K1 P w) a vs) :
  N8 P w H' h' a (.dK kvs):=⟨z,hd,vs,rel,dd⟩
theorem aV3{H':Hp}{Q:Unit->Shared->Prop}(hu:A.units+1 < cLine) (I:Inv X pins σ H s) (g:aX3 H a y v H') (ry:B6 y u) (rv:B6 v r) (h:∀s',Inv X pins σ H' s'->Q () s') :
  wpAny (model X.prog X.w) A (setItem (.ref a) u r) Q E s:=by
 rcases g with⟨kvs,k,e,ey,l,eH⟩|⟨kvs,k,b,e,ey,eb,l,eH⟩
 ·subst ey eH
  obtain⟨z,hd,vs,rel,dd⟩:=aP4 I.hok e
  have hz:vs.length<=sizeLine:=by rw[← rel.length];exact z
  have hl:(ad8 kvs k v).length<=sizeLine:=by have:=ag4 kvs k v;omega
  refine wpAny_setItem_pairs (hsz:=hz) (ac1 ry) dd fun h' dd' hs=>h _ ?_
  have he:∃q,h'.get? a=some q:=let⟨q,_,_,hq,_⟩:=dd';⟨q,hq⟩
  exact aj3 I (by rw[e];exact True.intro) hs he (av6 hl hd (rel.put k rv) dd')
 ·subst ey eH
  cases(show u=Value.ref b from ry)
  obtain⟨z,hd,xs,rel,dd⟩:=ce3 I.hok e
  have hz:xs.length<=sizeLine:=by rw[← Paired.length rel];exact z
  have hl:(ad8 kvs k v).length<=sizeLine:=by have:=ag4 kvs k v;omega
  refine wpAny_setItem_heap (hsz:=hz) (tupleKind_room_in1 hu) (w9 I.hok eb) dd fun h' dd' hs=>h _ ?_
  obtain⟨q,es,ep,hq,h2,h3,h4,_,h5⟩:=dd'
  refine aj3 I (by rw[e];exact True.intro) hs ⟨q,hq⟩ ⟨hl,hd,_,(rel.put k eb rv).keeps fun c ys ec=>?_,q,es,ep,hq,h2,h3,h4,h5⟩
  rw[A3 (t7 ec e (fun z=>nomatch z))]
  exact ec
end
section
variable {X:Cx}{pins:List (Addr×Obj)}{σ:St}{H:Hp}{s:Shared}{a:Addr}{kvs:List (Key×V)}{k:Key}{u:Value}{A:Around}{E:Value->Shared->Prop}
theorem bV2{Q:Unit->Shared->Prop}(I:Inv X pins σ H s) (e:H a=some (.dK kvs)) (ry:B6 (kV k) u) (l:(i3 kvs k).isSome=true) (h:∀s',Inv X pins σ (upd H a (.dK (ag8 kvs k))) s'->Q () s') :
  wpAny (model X.prog X.w) A (delItem (.ref a) u) Q E s:=by
 obtain⟨z,hd,vs,rel,dd⟩:=aP4 I.hok e
 refine wpAny_delItem_slot dd.typeIs (by decide) PySem.F.slot_dict_delitem
  (call_meetsIn PySem.F.slot_dict_delitem dd.typeIs PySem.F.entry_dict_delitem (PySem.F.args_dict_delitem_2 _ _) (meets_dict_delitem_pairs (K1 X.prog X.w) a (ac1 ry)) ⟨vs,dd,by rw[← rel.length];exact z,by rw[← (rel.val k).isSome_eq];exact l,fun h' dd' hs=>h _ ?_⟩)
 have he:∃q,h'.get? a=some q:=let⟨q,_,_,hq,_⟩:=dd';⟨q,hq⟩
 exact aj3 I (by rw[e];exact True.intro) hs he (av6 (Nat.le_trans (aC2 kvs k) z) hd (rel.drop k) dd')
theorem ce4{v:V}{more:List Value}{Q:Value->Shared->Prop}(I:Inv X pins σ H s) (e:H a=some (.dK kvs)) (ry:B6 (kV k) u) (l:i3 kvs k=some v) (hm:more=[]\/∃x,more=[x])
  (h:∀w' s',Inv X pins σ (upd H a (.dK (ag8 kvs k))) s'->B6 v w'->Q w' s'):wpAny (model X.prog X.w) A (call (.builtin "dict.pop") (.ref a::u::more)) Q E s:=by
 obtain⟨z,hd,vs,rel,dd⟩:=aP4 I.hok e
 obtain⟨w',hw,rw'⟩:=c5.some_of (v:=v) (o:=valueAt vs k) (by rw[← l];exact rel.val k)
 have hp:(keyPart u).isSome=true:=by
  cases k with
  | inl i=>obtain⟨t,q⟩:=(show ∃t,u=Value.int i t from ry);subst q;rfl
  | inr x=>obtain⟨t,q⟩:=(show ∃t,u=Value.str x t from ry);subst q;rfl
 have ha:argsOk "dict.pop" ⟨.ref a::u::more,[]⟩:=by
  rcases hm with q|⟨x,q⟩
  ·subst q;exact PySem.F.args_dict_pop_2 _ _
  ·subst q;exact PySem.F.args_dict_pop_3 _ _ _
 refine call_meetsIn PySem.F.slot_dict_pop dd.typeIs PySem.F.entry_dict_pop ha (meets_dict_pop_there (K1 X.prog X.w) a (ac1 ry) more hm hp)
  ⟨vs,w',dd,by rw[← rel.length];exact z,hw,fun h' dd' hs=>h w' _ ?_ rw'⟩
 have he:∃q,h'.get? a=some q:=let⟨q,_,_,hq,_⟩:=dd';⟨q,hq⟩
 exact aj3 I (by rw[e];exact True.intro) hs he (av6 (Nat.le_trans (aC2 kvs k) z) hd (rel.drop k) dd')
end
noncomputable def bB1(i:Expr):Prop:=∀ov iv,subscripted i false ov iv=operate [ov,iv] (getItem ov iv)
theorem br5{prog:Program}{w:World}{A:Around}{E:Value->Shared->Prop}{s:Shared}{env:Env}{value slice:Expr}{pos:Pos}{T id:String}{Q:Value->Shared->Prop}
  (hl:typeLookup (.type T) "__getitem__" = pure (some (.builtin id))) (hs:bB1 slice)
  (h:wpAny (model prog w) A (eval value env) (fun o s₁=>wpAny (model prog w) A (eval slice env) (fun i s₂=>s₂.TypeIs o T/\wpAny (model prog w) A (getItem o i) Q E s₂) E s₁) E s) :
  wpAny (model prog w) A (eval (.Subscript value slice pos) env) Q E s:=by
 refine Subscript_ (wpAny_mono h (fun o s₁ h₁=>wpAny_mono h₁ (fun i s₂ h₂=>?_) fun _ _ x=>x) fun _ _ x=>x)
 obtain⟨hT,h₂⟩:=h₂
 unfold subscriptTail
 refine wpAny_bind ?_
 rw[getitemInPython_of_ne hT.not_modules]
 refine wpAny_bind (wpAny_specialOf hT hl ?_)
 have fin:wpAny (model prog w) A (subscripted slice false o i) (fun r s₃=>wpAny (model prog w) A (letTemporaryGo value o r >>= fun _=>pure r) Q E s₃) E s₂:=by
  rw[hs o i]
  exact wpAny_operating (wpAny_mono h₂ (fun r s₃ h₃=>wpAny_bind (wpAny_letTemporaryGo (wpAny_pure h₃))) fun _ _ x=>x)
 first
  | exact wpAny_pure (wpAny_bind fin)
  | exact wpAny_bind (wpAny_pure (wpAny_bind fin))
  | exact wpAny_bind fin
theorem aC6{X:Cx}{pins:List (Addr×Obj)}{σ:St}{H:Hp}{s:Shared}{a:Addr}{y:V}{o:Option V}(I:Inv X pins σ H s) (g:Z0 H a y o):s.TypeIs (.ref a) "dict" := by
 rcases g with⟨kvs,k,e,_,_⟩|⟨kvs,k,b,e,_,_,_⟩
 ·obtain⟨_,_,vs,_,dd⟩:=ac3 I.hok e
  exact dd.typeIs
 ·obtain⟨_,_,xs,_,dd⟩:=ag7 I.hok e
  exact dd.typeIs
noncomputable def bX7(td ty:TE):TE:=fun σ H Q=>td σ H fun x H1=>ty σ H1 fun y H2=>∃a v,x=.ref a/\Z0 H2 a y (some v)/\Q v H2
noncomputable def ch3(ty td:TE):TE:=fun σ H Q=>ty σ H fun y H1=>td σ H1 fun x H2=>∃a o,x=.ref a/\Z0 H2 a y o/\Q (.bl o.isSome) H2
noncomputable def br1(ty td:TE):TE:=fun σ H Q=>ty σ H fun y H1=>td σ H1 fun x H2=>∃a o,x=.ref a/\Z0 H2 a y o/\Q (.bl (!o.isSome)) H2
noncomputable def bY7(td ty tv:TE):TS:=fun D σ H=>tv σ H fun v H1=>td σ H1 fun x H2=>ty σ H2 fun y H3=>∃a H4,x=.ref a/\aX3 H3 a y v H4/\D.nx σ H4
section
variable {X:Cx}{o i e value:Expr}{pos pos' tpos:Pos}{td ty tv:TE}
theorem au0(hu:X.A.units+1 < cLine) (ho:PE X o td) (hi:PE X i ty) (hs:bB1 i):PE X (.Subscript o i pos) (bX7 td ty):=by
 intro pins s σ H Q I h
 refine br5 PySem.F.slot_dict_getitem.lookup hs (thn (ho pins s σ H _ I h) fun u s1 ⟨x,H1,I1,rx,q1⟩=>thn (hi pins s1 σ H1 _ I1 q1) fun iv s2 ⟨y,H2,I2,ry,a,v,ex,g,q2⟩=>?_)
 subst ex
 obtain rfl:u=Value.ref a:=rx
 exact⟨aC6 I2 g,aV9 hu I2 g ry fun w' s3 I3 rw'=>⟨v,H2,I3,rw',q2⟩⟩
theorem bM1(hu:X.A.units+1 < cLine) (hi:PE X i ty) (ho:PE X o td):PC X .In i o (ch3 ty td):=by
 intro pins s σ H Q I h
 refine thn (hi pins s σ H _ I h) fun iv s1 ⟨y,H1,I1,ry,q1⟩=>thn (ho pins s1 σ H1 _ I1 q1) fun u s2 ⟨x,H2,I2,rx,a,ov,ex,g,q2⟩=>?_
 subst ex
 obtain rfl:u=Value.ref a:=rx
 exact ce5 hu I2 g ry fun s3 I3=>⟨.bl ov.isSome,H2,I3,rfl,q2⟩
theorem aS4(hu:X.A.units+1 < cLine) (hi:PE X i ty) (ho:PE X o td):PC X .NotIn i o (br1 ty td):=by
 intro pins s σ H Q I h
 refine thn (hi pins s σ H _ I h) fun iv s1 ⟨y,H1,I1,ry,q1⟩=>thn (ho pins s1 σ H1 _ I1 q1) fun u s2 ⟨x,H2,I2,rx,a,ov,ex,g,q2⟩=>?_
 subst ex
 obtain rfl:u=Value.ref a:=rx
 exact aP7 hu I2 g ry fun s3 I3=>⟨.bl (!ov.isSome),H2,I3,rfl,q2⟩
theorem aM4(hu:X.A.units+1 < cLine) (ho:PE X o td) (hi:PE X i ty) (hv:PE X value tv) (hs:swapsWith value (some (.Subscript o i pos')) pos.line X.env=pure false) :
  PS X (.Assign [.Subscript o i pos'] value pos) (bY7 td ty tv):=by
 intro pins s σ H D I h
 refine wpAny_Assign_Subscript (thn (hv pins s σ H _ I h) fun r s1 ⟨v,H1,I1,rv,q1⟩=>thn (ho pins s1 σ H1 _ I1 q1) fun u s2 ⟨x,H2,I2,rx,q2⟩=>thn (hi pins s2 σ H2 _ I2 q2) fun iv s3 ⟨y,H3,I3,ry,a,H4,ex,g,q3⟩=>?_) hs
 subst ex
 obtain rfl:u=Value.ref a:=rx
 exact aV3 hu I3 g ry rv fun s4 I4=>⟨σ,H4,I4,q3⟩
end
theorem bl8{P:Program}{w:World}{H:Hp}(h:Heap) (hb:sysModules < h.objs.size):N8 P w H (h.push { cls:=.type "dict", data:=.dict #[] }) h.objs.size (.dK []) :=
 ⟨Nat.zero_le _,beq_eq_false_iff_ne.mpr (Ne.symm (Nat.ne_of_lt hb)),[],.nil,Heap.DictOf.new h⟩
noncomputable def bI6:TE:=fun _ H Q=>∀p,H p=none->Q (.ref p) (upd H p (.dK []))
section
variable {X:Cx}{pos:Pos}
theorem ay7:PE X (.Dict [] [] pos) bI6:=fun pins s σ H Q I h =>
 wpAny_Dict_empty ⟨.ref s.heap.objs.size,_,I.laid (a:=s.heap.objs.size) (o:=.dK []) (t':=s.toks) (fun _ _ q=>Heap.get?_push_of_some _ q) (Nat.le_refl _) (bl8 s.heap I.big),rfl,h _ (I.hok.fresh (Nat.le_refl _))⟩
end
structure M1 (X:Cx) (o:Expr) (m:Str) (apos:Pos) (e:Expr) (cpos:Pos):Prop where
 base:attributeBase o m X.env (eval o X.env)=eval o X.env
 few:((backTo cpos (starEach [e] X.env)).all (fun x=>!x.1)&&(backToKw cpos (keywordEach [] X.env)).all (fun x=>x.1.isSome)
  && decide (([e]:List Expr).length+([]:List Keyword).length+(if([]:List Keyword).isEmpty then 0 else 1) < 30))=true
 line:(apos.endLine==cpos.line)=true
 trees:backTo cpos (starEach [e] X.env)=[(false,eval e X.env)]
structure M2 (X:Cx) (o:Expr) (m:Str) (apos:Pos) (e f:Expr) (cpos:Pos):Prop where
 base:attributeBase o m X.env (eval o X.env)=eval o X.env
 few:((backTo cpos (starEach [e,f] X.env)).all (fun x=>!x.1)&&(backToKw cpos (keywordEach [] X.env)).all (fun x=>x.1.isSome)
  && decide (([e,f]:List Expr).length+([]:List Keyword).length+(if([]:List Keyword).isEmpty then 0 else 1) < 30))=true
 line:(apos.endLine==cpos.line)=true
 trees:backTo cpos (starEach [e,f] X.env)=[(false,eval e X.env),(false,eval f X.env)]
noncomputable def IsD(H:Hp) (a:Addr):Prop:=(∃kvs,Rd H a (.dK kvs))\/∃kvs,Rd H a (.dT kvs)
theorem aI1{X:Cx}{pins:List (Addr×Obj)}{σ:St}{H:Hp}{s:Shared}{a:Addr}(I:Inv X pins σ H s) (d:IsD H a) :
  s.TypeIs (.ref a) "dict" /\ (∀b,Value.ref a=.ref b->∃ob,s.heap.get? b=some ob/\ob.dict=none)/\(a==sysModules)=false:=by
 rcases d with⟨kvs,e⟩|⟨kvs,e⟩
 ·obtain⟨_,hd,vs,_,dd⟩:=ac3 I.hok e
  refine⟨dd.typeIs,fun b q=>?_,hd⟩
  cases q
  obtain⟨ob,_,_,h1,h2,_⟩:=dd
  exact⟨ob,h1,h2.2.1⟩
 ·obtain⟨_,hd,xs,_,dd⟩:=ag7 I.hok e
  refine⟨dd.typeIs,fun b q=>?_,hd⟩
  cases q
  obtain⟨ob,_,_,h1,h2,_⟩:=dd
  exact⟨ob,h1,h2.2.1⟩
section
variable {X:Cx}{pins:List (Addr×Obj)}{σ:St}{H:Hp}{s:Shared}{a:Addr}{y d:V}{u r:Value}{o:Option V}{A:Around}{E:Value->Shared->Prop}
theorem bS9{Q:Value->Shared->Prop}(hu:A.units+1 < cLine) (I:Inv X pins σ H s) (g:Z0 H a y o) (ry:B6 y u) (h:∀w' s',Inv X pins σ H s'->B6 (o.getD .non) w'->Q w' s') :
  wpAny (model X.prog X.w) A (call (.builtin "dict.get") [.ref a,u]) Q E s:=by
 rcases g with⟨kvs,k,e,ey,l⟩|⟨kvs,k,b,e,ey,eb,l⟩
 ·subst ey
  obtain⟨z,hd,vs,rel,dd⟩:=ac3 I.hok e
  refine call_meetsIn PySem.F.slot_dict_get dd.typeIs PySem.F.entry_dict_get (PySem.F.args_dict_get_2 _ _) (meets_dict_get (K1 X.prog X.w) a (ac1 ry) hd) ⟨_,dd.mapOf,h _ _ (I.tok _) ?_⟩
  rw[l]
  exact(rel.val k).getD rfl
 ·subst ey
  cases(show u=Value.ref b from ry)
  obtain⟨z,hd,xs,rel,dd⟩:=ag7 I.hok e
  refine call_meetsIn PySem.F.slot_dict_get dd.typeIs PySem.F.entry_dict_get (PySem.F.args_dict_get_2 _ _) (meetsH_dict_get (tupleKind (K1 X.prog X.w)) a b hd) ⟨tupleKind_room_in1 hu,k,xs,w9 I.hok eb,dd,h _ _ (I.tok _) ?_⟩
  rw[l]
  exact(rel.val k).getD rfl
theorem bS8{Q:Value->Shared->Prop}(hu:A.units+1 < cLine) (I:Inv X pins σ H s) (g:Z0 H a y o) (ry:B6 y u) (rd:B6 d r) (h:∀w' s',Inv X pins σ H s'->B6 (o.getD d) w'->Q w' s') :
  wpAny (model X.prog X.w) A (call (.builtin "dict.get") [.ref a,u,r]) Q E s:=by
 rcases g with⟨kvs,k,e,ey,l⟩|⟨kvs,k,b,e,ey,eb,l⟩
 ·subst ey
  obtain⟨z,hd,vs,rel,dd⟩:=ac3 I.hok e
  refine call_meetsIn PySem.F.slot_dict_get dd.typeIs PySem.F.entry_dict_get (PySem.F.args_dict_get_3 _ _ _) (meets_dict_get_default (K1 X.prog X.w) a (ac1 ry) hd r) ⟨_,dd.mapOf,h _ _ (I.tok _) ?_⟩
  rw[l]
  exact(rel.val k).getD rd
 ·subst ey
  cases(show u=Value.ref b from ry)
  obtain⟨z,hd,xs,rel,dd⟩:=ag7 I.hok e
  refine call_meetsIn PySem.F.slot_dict_get dd.typeIs PySem.F.entry_dict_get (PySem.F.args_dict_get_3 _ _ _) (meetsH_dict_get_default (tupleKind (K1 X.prog X.w)) a b hd r) ⟨tupleKind_room_in1 hu,k,xs,w9 I.hok eb,dd,h _ _ (I.tok _) ?_⟩
  rw[l]
  exact(rel.val k).getD rd
end
noncomputable def bI8(td ty:TE):TE:=fun σ H Q=>td σ H fun x H1=>∃a,x=.ref a/\IsD H1 a/\ty σ H1 fun y H2=>∃o,Z0 H2 a y o/\Q (o.getD .non) H2
noncomputable def bI7(td ty tx:TE):TE:=fun σ H Q=>td σ H fun x H1=>∃a,x=.ref a/\IsD H1 a/\ty σ H1 fun y H2=>tx σ H2 fun z H3=>∃o,Z0 H3 a y o/\Q (o.getD z) H3
noncomputable def bI5(td ty:TE):TE:=fun σ H Q=>td σ H fun x H1=>∃a,x=.ref a/\IsD H1 a/\ty σ H1 fun y H2=>∃kvs k v,H2 a=some (.dK kvs)/\y=kV k/\i3 kvs k=some v/\Q v (upd H2 a (.dK (ag8 kvs k)))
section
variable {X:Cx}{o e f:Expr}{apos cpos:Pos}{td ty tx:TE}
theorem bc5(hu:X.A.units+1 < cLine) (ho:PE X o td) (he:PE X e ty) (m:M1 X o "get" apos e cpos):PE X (.Call (.Attribute o "get" apos) [e] [] cpos) (bI8 td ty):=by
 intro pins s σ H Q I h
 refine wpAny_Call_method m.base m.few m.line PySem.F.plainAttrs_dict PySem.F.slot_dict_get PySem.F.type_dict_get (thn (ho pins s σ H _ I h) fun u s1 ⟨x,H1,I1,rx,a,ex,d,q1⟩=>?_)
 subst ex
 obtain rfl:u=Value.ref a:=rx
 obtain⟨t1,t2,_⟩:=aI1 I1 d
 refine⟨t1,t2,?_⟩
 rw[m.trees]
 refine Calls.callWith_builtin rfl (Calls.evalArgs_plain (Calls.spliced_cons (thn (he pins s1 σ H1 _ I1 q1) fun iv s2 ⟨y,H2,I2,ry,ov,g,q2⟩=>Calls.spliced_nil ?_)))
 exact bS9 hu I2 g ry fun w' s3 I3 rw'=>⟨_,H2,I3,rw',q2⟩
theorem bc4(hu:X.A.units+1 < cLine) (ho:PE X o td) (he:PE X e ty) (hf:PE X f tx) (m:M2 X o "get" apos e f cpos):PE X (.Call (.Attribute o "get" apos) [e,f] [] cpos) (bI7 td ty tx):=by
 intro pins s σ H Q I h
 refine wpAny_Call_method m.base m.few m.line PySem.F.plainAttrs_dict PySem.F.slot_dict_get PySem.F.type_dict_get (thn (ho pins s σ H _ I h) fun u s1 ⟨x,H1,I1,rx,a,ex,d,q1⟩=>?_)
 subst ex
 obtain rfl:u=Value.ref a:=rx
 obtain⟨t1,t2,_⟩:=aI1 I1 d
 refine⟨t1,t2,?_⟩
 rw[m.trees]
 refine Calls.callWith_builtin rfl (Calls.evalArgs_plain (Calls.spliced_cons (thn (he pins s1 σ H1 _ I1 q1) fun iv s2 ⟨y,H2,I2,ry,q2⟩ =>
  Calls.spliced_cons (thn (hf pins s2 σ H2 _ I2 q2) fun fv s3 ⟨z,H3,I3,rz,ov,g,q3⟩=>Calls.spliced_nil ?_))))
 exact bS8 hu I3 g ry rz fun w' s4 I4 rw'=>⟨_,H3,I4,rw',q3⟩
theorem ay6(ho:PE X o td) (he:PE X e ty) (m:M1 X o "pop" apos e cpos):PE X (.Call (.Attribute o "pop" apos) [e] [] cpos) (bI5 td ty):=by
 intro pins s σ H Q I h
 refine wpAny_Call_method m.base m.few m.line PySem.F.plainAttrs_dict PySem.F.slot_dict_pop PySem.F.type_dict_pop (thn (ho pins s σ H _ I h) fun u s1 ⟨x,H1,I1,rx,a,ex,d,q1⟩=>?_)
 subst ex
 obtain rfl:u=Value.ref a:=rx
 obtain⟨t1,t2,_⟩:=aI1 I1 d
 refine⟨t1,t2,?_⟩
 rw[m.trees]
 refine Calls.callWith_builtin rfl (Calls.evalArgs_plain (Calls.spliced_cons (thn (he pins s1 σ H1 _ I1 q1) fun iv s2 ⟨y,H2,I2,ry,kvs,k,v,ea,ey,l,q2⟩=>Calls.spliced_nil ?_)))
 subst ey
 exact ce4 I2 ea ry l (.inl rfl) fun w' s3 I3 rw'=>⟨v,_,I3,rw',q2⟩
end
section
variable {X:Cx}{pins:List (Addr×Obj)}{σ:St}{H:Hp}{s:Shared}{a:Addr}{kvs:List (Key×V)}{A:Around}{E:Value->Shared->Prop}
theorem bm5{Q:Value->Shared->Prop}(I:Inv X pins σ H s) (e:Rd H a (.dK kvs)) (h:∀p s',H p=none->Inv X pins σ (upd H p (.dK kvs)) s'->Q (.ref p) s'):wpAny (model X.prog X.w) A (call (.type "dict") [.ref a]) Q E s:=by
 obtain⟨z,hd,vs,rel,dd⟩:=ac3 I.hok e
 refine kt_call_dict hd dd (by rw[← rel.length];exact z) fun h' dd' hs=>?_
 refine h _ _ (I.hok.fresh (Nat.le_refl _)) (I.laid (a:=s.heap.objs.size) (o:=.dK kvs) (t':=s.toks) (fun b q hq=>?_) (Nat.le_refl _) (av6 z (beq_eq_false_iff_ne.mpr (Ne.symm (Nat.ne_of_lt I.big))) rel dd'))
 exact(hs.2 b (Nat.ne_of_lt (Heap.lt_size hq))).trans (Heap.get?_push_of_some _ hq)
end
section
variable {X:Cx}{pins:List (Addr×Obj)}{σ:St}{H:Hp}{s:Shared}{a:Addr}{y:V}{u:Value}{A:Around}{E:Value->Shared->Prop}
end
end L2
namespace G
open PySem PySem.Spec PyProof.Rows L2
section
variable {prog:Program}{w:World}{A:Around}{E:Value->Shared->Prop}{s:Shared}
variable {R:Result->Shared->Prop}{J S:Addr}{fp wr:List Addr}{Gn:Array GenState->Array GenState->Prop}{P:Nat->Value->Prop}{St:Nat->Shared->Prop}{ps:List (Str×Value)}
end
noncomputable def P7(x:Str) (kv:D×D):Bool:=match kv.1 with
 | .str y=>y==x
 | _=>false
noncomputable def D7(kvs:List (D×D)) (x:Str):Option D:=(kvs.find? (P7 x)).map (·.2)
noncomputable def i8(kvs:List (D×D)) (x:Str) (d:D):List (D×D):=if kvs.any (P7 x) then kvs.map (fun kv=>if P7 x kv then(kv.1,d) else kv) else kvs++[(.str x,d)]
noncomputable def mgD(ps:List (Str×D)):List (D×D):=ps.foldl (fun a p=>i8 a p.1 p.2) []
section
variable {K:PySem.W.Frag}{H:Hp}
theorem bw5(x y:Str):decide ((Sum.inr y:Key)=Sum.inr x)=(y==x):=by rw[bg4];rfl
theorem RepKs.look:∀{kvs:List (D×D)}{m:List (Key×V)}(x:Str),RepKs K H kvs m->(D7 kvs x=none/\i3 m (.inr x)=none)\/∃d v,D7 kvs x=some d/\i3 m (.inr x)=some v/\Rep K H d v
 | [],_,x,h=>by cases h;exact .inl ⟨rfl,rfl⟩
 | (k,d)::r,_,x,⟨y,v,t,h1,h2,h3,h4⟩=>by
  subst h1 h2
  by_cases e:y=x
  ·subst e
   exact .inr ⟨d,v,by simp[D7,P7],by rw[aa7 rfl],h3⟩
  ·have e1:D7 ((.str y,d)::r) x=D7 r x:=by simp[D7,P7,e]
   have e2:i3 ((Sum.inr y,v)::t) (Sum.inr x)=i3 t (.inr x):=aa8 (by intro z;exact e (Sum.inr.inj z))
   rw[e1,e2]
   exact RepKs.look x h4
theorem RepKs.any(x:Str):∀{kvs:List (D×D)}{m:List (Key×V)},RepKs K H kvs m->kvs.any (P7 x)=m.any fun kv=>decide (kv.1=Sum.inr x)
 | [],_,h=>by cases h;rfl
 | (k,d)::r,_,⟨y,v,t,h1,h2,h3,h4⟩=>by
  subst h1 h2
  rw[List.any_cons,List.any_cons,RepKs.any x h4,bw5];rfl
theorem RepKs.snoc(q:Rep K H d v):∀{kvs:List (D×D)}{m:List (Key×V)},RepKs K H kvs m->RepKs K H (kvs++[(.str x,d)]) (m++[(.inr x,v)])
 | [],_,h=>by cases h;exact⟨x,v,[],rfl,rfl,q,rfl⟩
 | (k,_)::r,_,⟨y,w,t,h1,h2,h3,h4⟩=>by subst h2;exact⟨y,w,_,h1,rfl,h3,RepKs.snoc q h4⟩
theorem RepKs.repl(q:Rep K H d v):∀{kvs:List (D×D)}{m:List (Key×V)},RepKs K H kvs m->RepKs K H (kvs.map fun kv=>if P7 x kv then(kv.1,d) else kv) (m.map fun kv=>if kv.1=Sum.inr x then(kv.1,v) else kv)
 | [],_,h=>by cases h;rfl
 | (k,e)::r,_,⟨y,w,t,h1,h2,h3,h4⟩=>by
  subst h1 h2
  rw[List.map_cons,List.map_cons]
  by_cases e:y=x
  ·subst e
   rw[if_pos (show P7 y (.str y,_)=true by simp[P7]),if_pos rfl]
   exact⟨y,v,_,rfl,rfl,q,RepKs.repl q h4⟩
  ·rw[if_neg (show ¬P7 x (.str y,_)=true by simp[P7,e]),if_neg (by intro z;exact e (Sum.inr.inj z))]
   exact⟨y,w,_,rfl,rfl,h3,RepKs.repl q h4⟩
theorem RepKs.put(q:Rep K H d v) (h:RepKs K H kvs m):RepKs K H (i8 kvs x d) (ad8 m (.inr x) v):=by
 unfold i8 ad8
 rw[h.any x]
 split
 ·exact h.repl q
 ·exact h.snoc q
end
section
variable {X:Cx}
theorem bA1:bootBuiltins "dict" = some (.type "dict"):=by decide +kernel
noncomputable def l6(f g:DE):DE:=fun ρ=>(f ρ).bind fun d=>(g ρ).bind fun k=>match d,k with
 | .dict kvs,.str x=>D7 kvs x
 | _,_=>none
theorem bQ7(hu:X.A.units+64 < cLine) (ha:JE X a f) (hb:JE X b g) (hs:aj7 b:=by intro _ _;rfl):JE X (.Subscript a b pos) (l6 f g):=fun ρ d q=>by
 obtain⟨x,e1,q⟩:=xbm q
 obtain⟨y,e2,q⟩:=xbm q
 split at q
 ·rename_i kvs x _
  refine B0 (au0 (by omega) (ha ρ _ e1) (hb ρ _ e2) hs) fun σ H Q ⟨H0,Hf,s,sl,k⟩=>?_
  refine⟨H0,Hf,s,sl,fun v H1 Hf1 g1 ⟨p,m,z1,z2,z3⟩=>⟨H0,Hf1,g1.sub,sl.grow g1,fun u H2 Hf2 g2 r2=>?_⟩⟩
  subst z1;cases r2
  rcases(z3.mono g2.ext).look x with⟨l1,_⟩|⟨d',w,l1,l2,l3⟩
  ·rw[l1]at q;cases q
  ·rw[l1]at q;cases q
   refine⟨p,w,rfl,?_,k w H2 Hf2 (g1.trans g2) l3⟩
   have:=Z0.k (k:=Sum.inr x) (g2.sub _ _ (g2.ext _ _ z2))
   rw[l2]at this
   exact this
 ·cases q
noncomputable def inK(neg:Bool) (x y:D):Option D:=match x,y with
 | .str x,.dict kvs=>some (.bool (if neg then !(D7 kvs x).isSome else(D7 kvs x).isSome))
 | _,_=>none
theorem bN7(hu:X.A.units+64 < cLine):OpD X (compareOp .In) (inK false):=fun x y z h=>by
 unfold inK at h
 split at h
 ·rename_i x kvs
  cases h
  intro pins s σ H vx vy v u Q I rx ry ⟨Hf,ss,r1,r2,k⟩
  cases r1
  obtain⟨p,m,z1,z2,z3⟩:=r2
  subst z1;cases ry
  refine ce5 (by omega) I (Z0.k (k:=Sum.inr x) (ss _ _ z2)) rx fun s' I'=>⟨.bl _,H,I',rfl,k _ H Hf (Grow.refl ss) ?_⟩
  rcases z3.look x with⟨l1,l2⟩|⟨d',w,l1,l2,l3⟩<;>rw[l1,l2]<;>rfl
 ·cases h
theorem aT0(hu:X.A.units+64 < cLine):OpD X (compareOp .NotIn) (inK true):=fun x y z h=>by
 unfold inK at h
 split at h
 ·rename_i x kvs
  cases h
  intro pins s σ H vx vy v u Q I rx ry ⟨Hf,ss,r1,r2,k⟩
  cases r1
  obtain⟨p,m,z1,z2,z3⟩:=r2
  subst z1;cases ry
  refine aP7 (by omega) I (Z0.k (k:=Sum.inr x) (ss _ _ z2)) rx fun s' I'=>⟨.bl _,H,I',rfl,k _ H Hf (Grow.refl ss) ?_⟩
  rcases z3.look x with⟨l1,l2⟩|⟨d',w,l1,l2,l3⟩<;>rw[l1,l2]<;>rfl
 ·cases h
noncomputable def aC9(f g h:DE):DE:=fun ρ=>(f ρ).bind fun d=>(g ρ).bind fun k=>(h ρ).bind fun e=>match d,k with
 | .dict kvs,.str x=>some ((D7 kvs x).getD e)
 | _,_=>none
theorem by3(hu:X.A.units+64 < cLine) (ho:JE X o f) (he:JE X e g) (hf:JE X e2 h) (m:M2 X o "get" apos e e2 cpos):JE X (.Call (.Attribute o "get" apos) [e,e2] [] cpos) (aC9 f g h):=fun ρ d q=>by
 obtain⟨x,e1,q⟩:=xbm q
 obtain⟨y,e2,q⟩:=xbm q
 obtain⟨z,e3,q⟩:=xbm q
 split at q
 ·cases q
  refine B0 (bc4 (by omega) (ho ρ _ e1) (he ρ _ e2) (hf ρ _ e3) m) fun σ H Q ⟨H0,Hf,s,sl,k⟩=>?_
  refine⟨H0,Hf,s,sl,fun v H1 Hf1 g1 ⟨p,m,z1,z2,z3⟩=>⟨p,z1,.inl ⟨m,.inl (g1.sub _ _ z2)⟩,H0,Hf1,g1.sub,sl.grow g1,fun u H2 Hf2 g2 r2=>⟨H0,Hf2,g2.sub,sl.grow (g1.trans g2),fun u3 H3 Hf3 g3 r3=>?_⟩⟩⟩
  cases r2
  refine⟨_,Z0.k (k:=Sum.inr _) (g3.sub _ _ (g3.ext _ _ (g2.ext _ _ z2))),k _ H3 Hf3 ((g1.trans g2).trans g3) ?_⟩
  rcases(z3.mono (g2.trans g3).ext).look _ with⟨l1,l2⟩|⟨d',w,l1,l2,l3⟩
  ·rw[l1,l2];exact r3
  ·rw[l1,l2];exact l3
 ·cases q
end
end G
namespace G
open PySem PySem.Spec PyProof.Rows L2
section
variable {X:Cx}
end
end G
namespace G
open PySem PySem.Spec PySem.W PyProof.Rows L2 PySem.SeqAt
section
variable {P:Program}{w:World}{A:Around}{E:Value->Shared->Prop}{s:Shared}
end
end G
namespace G
open PySem PySem.Spec PySem.W PyProof.Rows L2 PySem.SeqAt
section
variable {prog:Program}{w:World}{A:Around}{E:Value->Shared->Prop}{s:Shared}
end
end G
namespace G
open PySem PySem.Spec PySem.W PyProof.Rows L2 PySem.SeqAt
section
variable {X:Cx}{pins:List (Addr×Obj)}{σ:L2.St}{A:Around}{S it d:Addr}{ws:List (Addr×Int)}{es:Array DictEntry}{ep:Nat}{od:Obj}
end
end G
namespace G
open PySem PySem.Spec PyProof.Rows L2 PySem.SeqAt PySem.MeetsSeq PySem.MeetsSeq2 PySem.MeetsSeq3 PySem.SeqRoads2
open PySem.AutoSeq1 (wpAny_loadPart')
end G
namespace G
open PySem PySem.Spec PyProof.Rows L2
section
variable {X:Cx}{tg:Expr}
end
end G
namespace G
open PySem PySem.Spec PyProof.Rows L2
theorem am5{K:PySem.W.Frag}{h:Heap}{C:Addr}{bb:List Value}{nid:String}(kin:K.In h) (q:PySem.W.excIn K C bb nid=true) :
  ∃nm qn N bs bm hd sn sub ab col dd k0 k1 k2 k3 k5 mN,h.get? C=some (excClassObj nm qn C N bs bm hd sn sub ab col dd k0 k1 k2 k3 k5 nid)/\h.Ns N mN/\mN "__init__" = none/\OwnTail h bb bm:=by
 unfold PySem.W.excIn at q
 split at q
 case h_2=>cases q
 rename_i d0 c0 sl0 lk
 split at q
 case h_2=>cases q
 rename_i C1 tl p0 p1 p2 p3 n1 p5 e1 e2
 simp only[Bool.and_eq_true,beq_iff_eq,Bool.not_eq_true']at q
 obtain⟨⟨⟨⟨⟨q1,q2⟩,q3⟩,q4⟩,q5⟩,q6⟩:=q
 subst q1 q2
 obtain⟨f1,f2,f3,f4,f5,f6,f7,f8,f9,f10,f11⟩:=c0
 dsimp only at e1 q3 q5 q6
 subst e1 q3
 obtain⟨sll⟩:=sl0
 dsimp only at e2
 subst e2
 exact⟨f1,f5,f4,f2,tl,f6,f7,f8,f9,f10,d0,p0,p1,p2,p3,p5,_,kin _ _ lk,.of_isNs (PySem.W.isNs_of_in kin q5),PySem.W.nsMap_none_of_in kin q5 q6,PySem.W.tail_of_in kin q4⟩
structure Fly (R:Addr->Prop) (l:List Env) (g B:Heap) (C a:Addr) (h:Heap):Prop where
 keep:∀b o,R b->g.get? b=some o->b∉frs l->B.get? b=some o
 fly:∃t,Heap.FlyingW B l a (.ref C) (.ref t) h
 sl:∀b o,g.get? b=some o->b∈frs l->∃z,h.get? b=some { o with slots:=z }
noncomputable def Rl(s:Shared) (H':Hp) (b:Addr):Prop:=s.heap.get? b≠none\/H' b≠none
noncomputable def CX1(P:Program) (w:World):CXT:=fun outer H s E e s'=>∃a C g B H',e=.ref a/\s'.os=s.os/\AllBare s'.gens/\Un (frs outer) [] H H' s.heap g/\HOk P w H' g/\Fly (Rl s H') outer g B C a s'.heap/\E (.ref C) none H'
section
variable {X:Cx}{pins:List (Addr×Obj)}{σ:L2.St}{H H':Hp}{s s':Shared}{g B:Heap}
theorem bz1(I:Inv X pins σ H s) (os:s'.os=s.os) (bare:AllBare s'.gens) (un:Un (frs X.stack) [] H H' s.heap g) (hok:HOk X.prog X.w H' g) (keep:∀b o,Rl s H' b->g.get? b=some o->b∉frs X.stack->B.get? b=some o)
  (hB:B.StaysIn s'.heap) (sl:∀b o,g.get? b=some o->b∈frs X.stack->∃z,s'.heap.get? b=some { o with slots:=z }):Inv X pins σ H' s':=by
 have nx:∀b:Addr,b∉([]:List Addr):=fun b z=>absurd z (by simp)
 refine I.call' (ch:=[]) os ⟨fun b o e n m z=>hB b o (keep b o (.inl (by rw[e];simp)) (un.keep b o e n m z) m),fun b o e n m z=>?_,un.free,fun b o e z=>?_,un.tups,un.frzs,un.tbls⟩ ?_ bare (fun b z=>absurd z (nx b))
 ·obtain⟨z1,q⟩:=un.slot b o e n m z
  obtain⟨z2,q2⟩:=sl b _ q m
  exact⟨z2,q2⟩
 ·obtain⟨o',q⟩:=un.there b o e z
  by_cases m:b∈frs X.stack
  ·obtain⟨z2,q2⟩:=sl b _ q m;exact⟨_,q2⟩
  ·exact⟨o',hB b o' (keep b o' (.inl (by rw[e];simp)) q m)⟩
 ·intro a o e
  have fr0:∀b,b∈frs X.stack->H' b=none:=fun b m=>by
   obtain⟨_,o1,h1,_⟩:=I.stack.mem m
   exact un.free b o1 h1 (I.stkFree b m) (nx b)
  refine(hok a o e).stay (fun b u hb q=>?_) (fun _ q=>q) fun _ _ q=>q
  have hn:H' b≠none:=by
   rcases hb with rfl|hb
   ·rw[e];simp
   ·rw[hb];simp
  exact hB b u (keep b u (.inr hn) q fun m=>hn (fr0 b m))
end
section
variable {P:Program}{w:World}{K:PySem.W.Frag}{mg:Str->Option Value}{base:Heap}{N:List Str}{qual:Str}{scope:Scope}{f:Addr}{cd:Value}{A:Around}{outer:List Env}{s:Shared}{H H1:Hp}{E:XK}
 {pins:List (Addr×Obj)}{σ:L2.St}{s1 s':Shared}{h2:Heap}{a C:Addr}{vs:List Value}
noncomputable abbrev cx1(P:Program) (w:World) (K:PySem.W.Frag) (mg:Str->Option Value) (base:Heap) (N:List Str) (qual:Str) (scope:Scope) (f:Addr) (cd:Value) (A:Around) (outer:List Env) (s:Shared) (H:Hp) (E:XK):Cx:=l7 (CX1 P w) P w K mg base N qual scope f cd A outer s H E
theorem bC7(I:Inv (cx1 P w K mg base N qual scope f cd A outer s H E) pins σ H1 s1) (r:Rl s H1 b):b≠s.heap.objs.size:=by
 rintro rfl
 rcases r with r|r
 ·exact r (Heap.get?_none_of_le (Nat.le_refl _))
 ·exact r I.free
theorem aq2(h1:b∉frs outer) (h2:b≠s.heap.objs.size):b∉frs (cx1 P w K mg base N qual scope f cd A outer s H E).stack:=fun m=>by
 have m:b∈s.heap.objs.size::frs outer:=m
 rcases List.mem_cons.mp m with z|z
 ·exact h2 z
 ·exact h1 z
theorem bf7(I:Inv (cx1 P w K mg base N qual scope f cd A outer s H E) pins σ H1 s1) (hm:Heap.MadeExcOf s1.heap h2 a (.ref C) vs) (hE:E (.ref C) none H1):(cx1 P w K mg base N qual scope f cd A outer s H E).xe (.ref a) { s1 with heap:=h2 }:=by
 have hin:∀env∈(cx1 P w K mg base N qual scope f cd A outer s H E).stack,∀b,env.frame=some b->b∈frs (cx1 P w K mg base N qual scope f cd A outer s H E).stack:=fun env he b hb=>List.mem_filterMap.mpr ⟨env,he,hb⟩
 refine wpAny_leaves_madeW (base:=PySem.W.hideAll s1.heap (frs (cx1 P w K mg base N qual scope f cd A outer s H E).stack)) (h:=s1.heap) (outer:=outer) I.ok.frames rfl (fun b o q=>PySem.W.of_hideAll _ q) (PySem.W.funFrames_hide I.stack hin) hm fun h' t x1 _ _ x4=>?_
 refine⟨a,C,s1.heap,_,H1,rfl,I.os,I.bare,I.base,I.hok,⟨fun b o r e m=>PySem.W.hideAll_get _ e (aq2 m (bC7 I r)),⟨t,x1⟩,fun b o e m=>?_⟩,hE⟩
 obtain⟨_,o',e',hd⟩:=I.stack.mem (List.mem_cons_of_mem _ m)
 rw[e]at e';cases e'
 exact x4 b o (hm.keeps b o e) hd
theorem bu7(I:Inv (cx1 P w K mg base N qual scope f cd A outer s H E) pins σ H1 s1) (hx:CX1 P w (cx1 P w K mg base N qual scope f cd A outer s H E).stack H1 s1 E e s'):(cx1 P w K mg base N qual scope f cd A outer s H E).xe e s':=by
 obtain⟨a,C,g,B,H',rfl,os,bare,un,hok,F,hE⟩:=hx
 have J:Inv (cx1 P w K mg base N qual scope f cd A outer s H E) pins σ H' { s' with heap:=g }:=I.call' (s':={ s' with heap:=g }) (ch:=[]) os un hok bare (fun b z=>absurd z (by simp))
 obtain⟨t,fl⟩:=F.fly
 refine wpAny_leaves_onW (outer:=outer) I.ok.frames rfl fl fun h' x1 x2=>?_
 have up:∀b,Rl s H' b->Rl s1 H' b:=fun b r=>r.imp (fun z q=>by
  cases e:s.heap.get? b with
  | none=>exact z e
  | some o =>
   obtain⟨o',q'⟩:=I.base.there b o e (fun z=>absurd (show b∈([]:List Addr) from z) (by simp))
   rw[q]at q';cases q') id
 refine⟨a,C,g,B,H',rfl,J.os,bare,J.base,J.hok,⟨fun b o r e m=>F.keep b o (up b r) e (aq2 m (bC7 J r)),⟨t,x1⟩,fun b o e m=>?_⟩,hE⟩
 obtain⟨z,e2⟩:=F.sl b o e (List.mem_cons_of_mem _ m)
 obtain⟨_,o',e',hd⟩:=J.stack.mem (List.mem_cons_of_mem _ m)
 have e':g.get? b=some o':=e'
 rw[e]at e';cases e'
 obtain⟨z2,q⟩:=x2 b _ e2 hd
 exact⟨z2,q⟩
end
end G
namespace G
open PySem PySem.Spec PyProof.Rows L2
noncomputable abbrev veB:List Value:=[.type "ValueError", .type "Exception", .type "BaseException", .type "object"]
noncomputable def W1(K:PySem.W.Frag) (x:Str):Bool:=match clA K x with
 | some C=>PySem.W.excIn K C veB "ValueError.__new__"
 | none=>false
theorem noX{α:Type}{t:Sem α}{Q Q':α->Shared->Prop}{M:Model}{A:Around}{E E':Value->Shared->Prop}{s:Shared}(hx:∀e s,E e s->False) (h:wpAny M A t Q E s) (hQ:∀a s,Q a s->Q' a s):wpAny M A t Q' E' s:=wpAny_mono h hQ fun e s z=>(hx e s z).elim
section
variable {X:Cx}{m:Bool}(hx:∀e s,X.xe e s->False)
include hx
noncomputable def spR(K:PySem.W.Frag) (n:Nat) (R:List D->Option Str):Sp:=fun vs H _ E=>vs.length=n/\∃Hf ds x C,B3 Hf H/\Reps K Hf ds vs/\R ds=some x/\clA K x=some C/\∀H',B3 H H'->E (.ref C) none H'
end
theorem CX1.mono(h:CX1 P w outer H s E e s') (m:∀cls H',E cls none H'->E' cls none H'):CX1 P w outer H s E' e s':=by
 obtain⟨a,C,g,B,H',q1,q2,q3,q4,q5,q6,q7⟩:=h
 exact⟨a,C,g,B,H',q1,q2,q3,q4,q5,q6,m _ _ q7⟩
end G
namespace G
open PySem PySem.Spec PyProof.Rows L2
section
variable {M:Model}{A:Around}{E:Value->Shared->Prop}{h:Heap}{g:Array GenState}{d:Drawn}{t:Nat}{os:OsState}
variable {nm qn nm2 qn2:Str}{C N D N2:Addr}{bs bm bs2 bm2:List Value}{hd hd2:Bool}{sn sn2:List Str}{sub sub2:List Value}{ab ab2:Bool}{col col2:Option Bool}{dd dd2:Option Addr}{k0 k1 k2 k3 k5 j0 j1 j2 j3 j5:Option Value}{nid nid2:String}
theorem cj8(hC:h.get? C=some (excClassObj nm qn C N bs bm hd sn sub ab col dd k0 k1 k2 k3 k5 nid)) (hD:h.get? D=some (excClassObj nm2 qn2 D N2 bs2 bm2 hd2 sn2 sub2 ab2 col2 dd2 j0 j1 j2 j3 j5 nid2))
  (he:h.get? e=some oe) (hcls:oe.cls=.ref C) (hb:bm2.contains (.type "BaseException")=true) (hq:Q ((Value.ref C::bm).contains (.ref D)) ⟨h,g,d,t,os⟩):wpAny M A (excMatches (.ref e) (.ref D)) Q E ⟨h,g,d,t,os⟩:=by
 have cB:(Value.ref D::bm2).contains (.type "BaseException")=true:=by rw[List.contains_cons,hb,Bool.or_true]
 have f:=tc_notTuple
 generalize hb:(Value.ref C::bm).contains (.ref D)=b at hq
 unfold excMatches
 repeat (first|(with_reducible refine wpAny_loadPart_at he ?_;rw[hcls])|with_reducible refine wpAny_loadPart_at hD ?_|(with_reducible refine wpAny_isSubtype_exc hD ?_;rw[cB])|(with_reducible refine wpAny_isSubtype_exc hC ?_;rw[hb])|wp_step)
 cases b<;>(wp_walk;exact hq)
end
noncomputable abbrev Cx.held(X:Cx) (e:Value):Cx:={ X with A:=X.A.mark (some e),calm:=false }
section
variable {X:Cx}{pins:List (Addr×Obj)}{σ:L2.St}{H:Hp}{s:Shared}
theorem Inv.held(I:Inv X pins σ H s) (e:Value):Inv (Cx.held X e) pins σ H s :=
 ⟨⟨I.ok.mod,I.ok.kind,I.ok.glob,I.ok.blt,I.ok.above,I.ok.inj,I.ok.has,I.ok.cab,(fun z=>by cases z),I.ok.frames,I.ok.stk,I.ok.exf,I.ok.bs,I.ok.bsz,I.ok.noex,I.ok.exfs,I.ok.funs,I.ok.frf⟩,I.os,I.bare,I.base,I.loc,I.cell,I.free,I.freeC,I.pin,I.hok,I.len⟩
theorem Inv.unheld(I:Inv (Cx.held X e) pins σ H s) (ok:X.Ok):Inv X pins σ H s:=⟨ok,I.os,I.bare,I.base,I.loc,I.cell,I.free,I.freeC,I.pin,I.hok,I.len⟩
theorem Inv.wipe(I:Inv X pins σ H s) (hn:h'.Ns X.env.locals m') (hs:Heap.SameBut X.env.locals s.heap h'):Inv X pins (List.replicate σ.length none) H { s with heap:=h',toks:=tk }:=by
 have ne0:∀b o,X.s₀.heap.get? b=some o->b≠X.env.locals:=fun b o e z=>by
  have:=Heap.lt_size e
  rw[z]at this
  exact absurd (Nat.lt_of_lt_of_le this I.ok.above) (Nat.lt_irrefl _)
 have eq:∀b,b≠X.env.locals->h'.get? b=s.heap.get? b:=fun b hb=>hs.2 b hb
 refine⟨I.ok,I.os,I.bare,⟨fun b o e n hb hx=>?_,fun b o e n hb hx=>?_,I.base.free,fun b o e hx=>?_,I.base.tups,I.base.frzs,I.base.tbls⟩,⟨m',hn,fun i x v _ e _=>?_⟩,fun x c e=>?_,I.free,I.freeC,fun p hp=>?_,fun a o e=>?_,by rw[List.length_replicate];exact I.len⟩
 ·show h'.get? b=_
  rw[eq b (ne0 b o e)];exact I.base.keep b o e n hb hx
 ·obtain⟨sl,q⟩:=I.base.slot b o e n hb hx
  exact⟨sl,by show h'.get? b=_;rw[eq b (ne0 b o e)];exact q⟩
 ·obtain⟨o',q⟩:=I.base.there b o e hx
  exact⟨o',by show h'.get? b=_;rw[eq b (ne0 b o e)];exact q⟩
 ·rw[List.getElem?_replicate]at e
  split at e<;>cases e
 ·obtain⟨v,o,q1,q2⟩:=I.cell x c e
  exact⟨v,o,by show h'.get? c=_;rw[eq c (I.cne x c e)];exact q1,q2⟩
 ·obtain⟨q1,q2,q3,q4,q5⟩:=I.pin p hp
  exact⟨by show h'.get? p.1=_;rw[eq p.1 q3];exact q1,q2,q3,q4,q5⟩
 ·refine(I.hok a o e).stay (fun b u hb q=>?_) (fun _ q=>q) fun _ _ q=>q
  show h'.get? b=_
  rw[eq b fun z=>?_]
  ·exact q
  ·have f:=I.free
   rcases hb with rfl|hb
   ·rw[z,f]at e;cases e
   ·rw[z,f]at hb;cases hb
end
theorem N8.is(x:N8 P w H h a o):∃u,h.get? a=some u:=by
 cases o with
 | lst xs=>obtain⟨_,_,_,_,e⟩:=x;exact⟨_,e⟩
 | tup xs=>obtain⟨_,_,_,ob,e,_⟩:=x;exact⟨_,e⟩
 | dK kvs=>obtain⟨_,_,_,_,ob,_,_,e,_⟩:=x;exact⟨_,e⟩
 | dT kvs=>obtain⟨_,_,_,_,ob,_,_,e,_⟩:=x;exact⟨_,e⟩
 | set S n=>obtain⟨ob,_,_,_,e,_⟩:=x;exact⟨_,e⟩
 | ins C dx fs=>obtain⟨_,_,_,e,_⟩:=x;exact⟨_,e⟩
 | own y=>exact x
 | xd fs=>obtain⟨_,⟨ob,_,_,e,_⟩,_⟩:=x;exact⟨_,e⟩
 | rng lo hi=>obtain⟨_,_,_,e⟩:=x;exact⟨_,e⟩
 | frz ob u=>obtain⟨e,_⟩:=x;exact⟨_,e⟩
 | tbl ps=>exact⟨_,x⟩
 | met f y=>exact⟨_,x⟩
 | ext φ=>obtain⟨_,e,_⟩:=x;exact e
section
variable {X:Cx}{pins:List (Addr×Obj)}{σ:L2.St}{H:Hp}{s:Shared}{a:Addr}{oe:Obj}
noncomputable abbrev fz(oe:Obj) (a:Addr):HO:=.frz oe (.own a)
theorem Inv.track(I:Inv X pins σ H s) (ha:H a=none) (e:s.heap.get? a=some oe) (n0:X.s₀.heap.get? a=none) (np:∀p∈X.pn++pins,p.1≠a) (nl:X.env.locals≠a) (nc:∀x c,X.env.cells.lookup x=some c->c≠a):Inv X pins σ (upd H a (fz oe a)) s:=by
 have nb:∀b o,X.s₀.heap.get? b=some o->b≠a:=fun b o q z=>by rw[z,n0]at q;cases q
 have up:∀b o,H b=some o->upd H a (fz oe a) b=some o:=fun b o q=>by rw[A3 (fun z=>by rw[z,ha]at q;cases q)];exact q
 refine⟨I.ok,I.os,I.bare,⟨I.base.keep,I.base.slot,fun b o q n hx=>?_,I.base.there,fun b xs q=>up b _ (I.base.tups b xs q),fun b o u q=>up b _ (I.base.frzs b o u q),fun b ps q=>?_⟩,I.loc,I.cell,?_,fun x c q=>?_,fun p hp=>?_,fun b o q=>?_,I.len⟩
 ·rw[A3 (nb b o q)];exact I.base.free b o q n hx
 ·obtain⟨more,z⟩:=I.base.tbls b ps q
  exact⟨more,up b _ z⟩
 ·rw[A3 nl];exact I.free
 ·rw[A3 (nc x c q)];exact I.freeC x c q
 ·obtain⟨q1,q2,q3⟩:=I.pin p hp
  exact⟨q1,by rw[A3 (np p hp)];exact q2,q3⟩
 ·by_cases hb:b=a
  ·subst hb
   rw[A5]at q;cases q
   exact⟨e,oe,e⟩
  ·rw[A3 hb]at q
   exact(I.hok b o q).stay (fun _ _ _ z=>z) (fun c z=>up c _ z) fun c xs z=>up c _ z
theorem aI5(sm:B3 H1 H') (sb:B3 Hf1 H1) (ha:H' a=none):Grow H1 Hf1 (upd H' a (fz oe a)) (upd Hf1 a (fz oe a)):=by
 have h1:H1 a=none:=sm.free ha
 have h2:Hf1 a=none:=sb.free h1
 refine⟨fun b o q=>?_,fun b o q=>?_,fun b o q=>?_,fun b q=>?_⟩
 ·rw[A3 (B4 q h1)];exact sm b o q
 ·by_cases hb:b=a
  ·subst hb;rw[A5]at q ⊢;exact q
  ·rw[A3 hb]at q ⊢;exact sm b o (sb b o q)
 ·rw[A3 (B4 q h2)];exact q
 ·by_cases hb:b=a
  ·subst hb;exact .inr h1
  ·rw[A3 hb]at q;exact .inl q
end
end G
namespace G
open PySem PySem.Spec PyProof.Rows L2
noncomputable def aZ9(K:PySem.W.Frag) (x c:Str):Bool:=match clA K x,clA K c with
 | some C,some D=>(match K.lookup C with
  | some ⟨_,_,.cls cd,_⟩=>cd.mro.contains (.ref D)
  | _=>false)
 | _,_=>false
theorem Slots.setExc{K:PySem.W.Frag}{H0 H Hf:Hp}{ρ:Rho}{σ:L2.St}(s:Slots K H0 ρ σ H Hf) {i:Nat}{x:Str}{v:V}(hb:SB K H0 H Hf (.exc x) v):Slots K H0 (ρ.set i (some (.exc x))) (σ.set i (some v)) H Hf:=by
 have own:∀(j:Nat) (ds:List D),(ρ.set i (some (B.exc x)))[j]? = some (some (.own ds))->i≠j/\ρ[j]? = some (some (.own ds)):=fun j ds h=>by
  rw[List.getElem?_set]at h
  split at h
  ·split at h<;>cases h
  ·rename_i n;exact⟨n,h⟩
 have gt:∀j,i≠j->(σ.set i (some v))[j]? = σ[j]?:=fun j n=>by rw[List.getElem?_set,if_neg n]
 refine⟨by rw[List.length_set,List.length_set];exact s.len,fun j b h=>?_,fun j k ds es c h1 h2 h3 h4=>?_⟩
 ·by_cases q:i=j
  ·subst q
   rw[List.getElem?_set,if_pos rfl]at h
   split at h
   ·rename_i l
    cases h
    exact⟨v,by rw[List.getElem?_set,if_pos rfl,if_pos (by rw[← s.len];exact l)],hb⟩
   ·cases h
  ·rw[List.getElem?_set,if_neg q]at h
   rw[gt j q];exact s.is j b h
 ·obtain⟨n1,h1⟩:=own j _ h1
  obtain⟨n2,h2⟩:=own k _ h2
  rw[gt j n1]at h3
  rw[gt k n2]at h4
  exact s.apart j k ds es c h1 h2 h3 h4
section
variable {X:Cx}
end
end G
namespace G
open PySem PySem.Spec PyProof.Rows L2
section
variable {prog:Program}{w:World}{A:Around}{E:Value->Shared->Prop}{h:Heap}{g:Array GenState}{d:Drawn}{t:Nat}{os:OsState}{a C:Addr}{o:Obj}{K:PySem.W.Frag}
noncomputable def xcB(K:PySem.W.Frag) (C:Addr):Bool:=PySem.W.findIn K (.ref C) "__class__" == some (some (.builtin "object.__class__"))&&PySem.W.findIn K (.ref C) "__getattribute__" == some (some (.builtin "BaseException.__getattribute__")) &&
 PySem.W.findIn K (.ref C) "__getattr__" == some none&&PySem.W.mroIn K C (.type "object")==some true&&PySem.W.mroIn K C (.type "BaseException")==some true
theorem bF4(kin:K.In h) (hx:h.get? a=some o) (hc:o.cls=.ref C) (hm:PySem.W.mroIn K C (.type "object")=some true) (hq:R (.ok (.ret (.ref C))) ⟨h,g,d,t,os⟩) :
  codeAny (model prog w) A (.call (.builtin "getset_descriptor.__get__") ⟨[.builtin "object.__class__", .ref a,.ref C],[]⟩) R ⟨h,g,d,t,os⟩:=by
 have hT5:(⟨h,g,d,t,os⟩:Shared).TypeIs (.builtin "object.__class__") "getset_descriptor" := F.typeOf_object_class
 have L:PySem.W.Looks (model prog w) h (isSubtype (.ref C) (.type (".".intercalate ("object.__class__".cutAt '.').dropLast))) true:=by
  rw[F.owner_object_class];exact PySem.W.looks_mroIn kin hm
 refine codeAny_call_builtin F.slot_gs_get.plain F.entry_gs_get (F.slot_gs_get.check _ _ _ _ _ _ _ _ hT5 (F.args_gs_get _ _ _) ?_)
 repeat (any_goals (first|assumption|(with_reducible refine wpAny_loadPart_at hx ?_;rw[hc])|with_reducible refine L.at ?_|wp_step))
 refine⟨Code.quiet_builtin _ (by decide +kernel),codeAny_builtin F.entry_object_class ?_⟩
 repeat (any_goals (first|assumption|(with_reducible refine wpAny_loadPart_at hx ?_;rw[hc])|wp_step))
theorem aX5(kin:K.In h) (hx:h.get? a=some o) (hc:o.cls=.ref C) (hf:PySem.W.findIn K (.ref C) "__class__" = some (some (.builtin "object.__class__"))) (hm:PySem.W.mroIn K C (.type "object")=some true) (hq:Q (.done (.ret (.ref C))) ⟨h,g,d,t,os⟩) :
  wpAny (model prog w) A (Builtin.«object.__getattribute__» ⟨[.ref a,.str "__class__" tk],[]⟩) Q E ⟨h,g,d,t,os⟩:=by
 have hT5:(⟨h,g,d,t,os⟩:Shared).TypeIs (.builtin "object.__class__") "getset_descriptor" := F.typeOf_object_class
 have f5:=F.typeOf_object_class
 have f6:=F.slot_gs_get.lookup
 have f7:=F.slot_gs_set.lookup
 have L:=PySem.W.looks_findIn (M:=model prog w) kin hf
 repeat (any_goals (first|assumption|(with_reducible refine wpAny_loadPart_at hx ?_;rw[hc])|with_reducible refine L.at ?_|wp_step))
 refine bF4 kin hx hc hm ?_
 repeat (any_goals (first|assumption|wp_step))
theorem aX6(kin:K.In h) (hx:h.get? a=some o) (hc:o.cls=.ref C) (hm:PySem.W.mroIn K C (.type "BaseException")=some true) (hq:Q () ⟨h,g,d,t,os⟩):wpAny M A (checkBuiltinCall "BaseException.__getattribute__" ⟨[.ref a,nameV],[]⟩) Q E ⟨h,g,d,t,os⟩:=by
 have hk:builtinKind "BaseException.__getattribute__" = some .slot:=by decide +kernel
 have hsplit:splitId "BaseException.__getattribute__" = some ("BaseException", "__getattribute__"):=by decide +kernel
 have ha:=F.args_bexc_ga (.ref a) nameV
 have L:=PySem.W.looks_mroIn (M:=M) kin hm
 simp only[checkBuiltinCall,hk,hsplit]
 refine wpAny_bind ?_
 unfold isInstance
 repeat (first|(with_reducible refine wpAny_loadPart_at hx ?_;rw[hc])|with_reducible refine L.at ?_|wp_step)
 exact hq
theorem bo6(kin:K.In h) (hx:h.get? a=some o) (hc:o.cls=.ref C) (hb:xcB K C=true) (hq:R (.ok (.ret (.ref C))) ⟨h,g,d,t,os⟩) :
  codeAny (model prog w) A (.call (.builtin "BaseException.__getattribute__") ⟨[.ref a,.str "__class__" tk],[]⟩) R ⟨h,g,d,t,os⟩:=by
 simp only[xcB,Bool.and_eq_true,beq_iff_eq]at hb
 exact codeAny_call_builtin F.attr_ValueError.ga.plain F.entry_bexc_ga (aX6 kin hx hc hb.2 (aX5 kin hx hc hb.1.1.1.1 hb.1.2 hq))
theorem bV4{tk:Tok}{fill expr:Bool}{Q:Value->Shared->Prop}(kin:K.In h) (hx:h.get? a=some o) (hc:o.cls=.ref C) (hb:xcB K C=true) (hq:Q (.ref C) ⟨h,g,d,t,os⟩):wpAny (model prog w) A (getAttrBy (.ref a) (.str "__class__" tk) fill expr) Q E ⟨h,g,d,t,os⟩:=by
 have hb':=hb
 simp only[xcB,Bool.and_eq_true,beq_iff_eq]at hb'
 have L1:=PySem.W.looks_findIn (M:=model prog w) kin hb'.1.1.1.2
 have L2:=PySem.W.looks_findIn (M:=model prog w) kin hb'.1.1.2
 have f3:=F.attr_ValueError.ga.bind (.ref a)
 have z0:(expr&&onTheHeap (Value.builtin "BaseException.__getattribute__"))=false:=by cases expr<;>rfl
 have z2:(Value.builtin "BaseException.__getattribute__" == Value.builtin "object.__getattribute__")=false:=by decide +kernel
 have z1:(onTheHeap (Value.ref C)&&Value.builtin "BaseException.__getattribute__" == Value.builtin "object.__getattribute__")=false:=by rw[z2];rfl
 repeat (any_goals (first|assumption|(with_reducible refine wpAny_loadPart_at hx ?_;rw[hc])|with_reducible refine L1.at ?_|with_reducible refine L2.at ?_|wp_step))
 refine bo6 kin hx hc hb ?_
 repeat (any_goals (first|assumption|wp_step))
theorem bo7{Q:Option Value->Shared->Prop}(kin:K.In h) (hx:h.get? a=some o) (hc:o.cls=.ref C) (hb:xcB K C=true) (hq:Q (some (.ref C)) ⟨h,g,d,t+1,os⟩):wpAny (model prog w) A (getAttr? (.ref a) "__class__") Q E ⟨h,g,d,t,os⟩:=by
 unfold getAttr? getAttrBy?
 repeat (any_goals (first|assumption|with_reducible apply bV4 kin hx hc hb|wp_step))
theorem bg3(hb:xcB K C=true) (hq:PySem.W.excIn K C bb nid=true):PySem.W.KitX K (.ref a) (.ref C) (fun h=>∃o,h.get? a=some o/\o.cls=.ref C) where
 ty:=fun _ _ _ ⟨o,h1,h2⟩=>h2 ▸ (PySem.W.Looks.ld h1).andThen .now
 it:=fun _ _ kin _=>by
  obtain⟨nm,qn,N,bs,bm,hd,sn,sub,ab,col,dd,k0,k1,k2,k3,k5,mN,g1,_⟩:=am5 kin hq
  intro A' Q' E' s' k q
  unfold isType loadHead
  exact wpAny_bind (wpAny_loadPart (k _ _ g1) (wpAny_pure q))
 ne:=fun h tp dd its n sl kin htp=>by
  obtain⟨nm,qn,N,bs,bm,hd,sn,sub,ab,col,dd',k0,k1,k2,k3,k5,mN,g1,_⟩:=am5 kin hq
  refine Bool.eq_false_iff.mpr fun q=>?_
  have e:C=tp:=Value.ref.inj (beq_iff_eq.mp q)
  subst e
  rw[g1]at htp
  have z:=congrArg Obj.data (Option.some.inj htp)
  cases z
 ca:=fun{_ _ _ _ _ s} kin ⟨o,h1,h2⟩ k=>by
  obtain⟨h,g,d,t,os⟩:=s
  exact bo7 kin h1 h2 hb k
end
section
variable {X:Cx}
noncomputable def aJ2(i:Nat) (tb:Str->Option Bool):DE:=fun ρ=>match ρ[i]? with
 | some (some (.exc x))=>(tb x).map PyData.bool
 | _=>none
noncomputable def ad2(K:PySem.W.Frag) (cv:Value) (tb:Str->Option Bool):Prop:=∀x b,tb x=some b->∃C,clA K x=some C/\xcB K C=true/\PySem.W.excIn K C veB "ValueError.__new__" = true/\PySem.W.kitOne K (.ref C) cv=some b
theorem bn2(hv:B6 v cv) (hv':∀u,B6 v u->u=cv) (ok:ad2 X.K cv tb):m4 X (.builtin "isinstance") (fun xs H Q=>∃x y b H0 Hf,xs=[y,v]/\B3 Hf H/\SB X.K H0 H Hf (.exc x) y/\tb x=some b/\Q (.bl b) H):=by
 intro pins s σ H xs us Q I r h
 obtain⟨x,y,b,H0,Hf,rfl,sm,⟨a,o,C,rfl,e1,e2,e3⟩,hb,q⟩:=h
 obtain⟨u,c,rfl,rx,rc⟩:=aK8 r
 cases rx
 obtain rfl:=hv' c rc
 obtain⟨C',f1,f2,f3,f4⟩:=ok x b hb
 rw[e2]at f1;cases f1
 obtain⟨z,_⟩:=(show N8 X.prog X.w H s.heap a (.frz o (.own a)) from I.hok a _ (sm _ _ e1))
 exact PySem.W.kia_one (bg3 f2 f3) I.kIn ⟨o,z,e3⟩ f4 (fun z=>nomatch z) fun tk=>⟨.bl b,H,I.tok tk,rfl,q⟩
end
end G
namespace G
open PySem PySem.Spec PyProof.Rows L2
section
variable {X:Cx}
theorem bu5{y:Str}{D:Addr}{pos:Pos}(hg:Gl X y) (hm:X.mg y=some (.ref D)) (hd:(y==("__debug__" : Str))=false):PE X (.Name y pos) (tC (.ref D)):=fun pins s σ H Q I h=>W8 I hg hm ⟨.ref D,H,I,rfl,h⟩ hd
theorem bi1(hg:Gl X "isinstance") (hm:X.mg "isinstance" = none) (hN:X.N[i]? = some n) (hv:Vis X.env.scope n) (hd:(n==("__debug__" : Str))=false) (hcd:(n==("__classdict__" : Str))=false)
  (hc:PE X (.Name y p2) (tC v)) (r1:B6 v cv) (r2:∀u,B6 v u->u=cv) (ok:ad2 X.K cv tb)
  (he:starEach [.Name n p1,.Name y p2] X.env=(false,eval (.Name n p1) X.env)::starEach [.Name y p2] X.env:=by rfl) (he2:starEach [.Name y p2] X.env=[(false,eval (.Name y p2) X.env)]:=by rfl) (hpl:(backTo pos (starEach [.Name y p2] X.env)).any (·.1)=false:=by rfl) :
  JE X (.Call (.Name "isinstance" p) [.Name n p1,.Name y p2] [] pos) (aJ2 i tb):=fun ρ d q=>by
 unfold aJ2 at q
 split at q
 case h_2=>cases q
 rename_i x e
 obtain⟨b,hb,rfl⟩:=Option.map_eq_some_iff.mp q
 refine B0 (Q9 (bn2 r1 r2 ok) hg hm bU2 (E2 (P2 hN hv hd hcd) (E2 hc M3 he2) he) (he:=he) (hpl:=hpl)) fun σ H Q ⟨H0,Hf,s,sl,k⟩=>?_
 obtain⟨v0,h1,sb⟩:=sl.is i _ e
 exact⟨v0,h1,x,v0,b,H0,Hf,rfl,s,sb,hb,k _ H Hf (Grow.refl s) rfl⟩
noncomputable def dRp(f:DE):DE:=fun ρ=>(f ρ).bind fun d=>match d with
 | .str x=>if x.length<=1000/\x.cps.all (· < 1114112)=true then some (.str (reprText x)) else none
 | _=>none
theorem cc9(h:JE X e f):JE X (.FormattedValue e 114 none pos) (dRp f):=fun ρ d q=>by
 obtain⟨y,h1,h2⟩:=xbm q
 cases y with
 | str x =>
  dsimp only at h2
  split at h2
  case isFalse=>cases h2
  rename_i c
  cases h2
  have ln:(reprText x).length<=sizeLine:=by
   refine Nat.le_trans (PySem.StrLaws.reprText_len x fun z hz=>?_) ?_
   ·have:=c.2
    rw[← Array.all_toList,List.all_eq_true]at this
    have:=of_decide_eq_true (this z hz)
    omega
   ·have:=c.1
    exact Nat.le_trans (show 10*x.length+2<=10002 by omega) (by decide)
  intro pins s σ H Q I hw
  obtain⟨H0,Hf,sm,sl,k⟩:=hw
  refine wpAny_FormattedValue_repr (thn (h ρ _ h1 pins s σ H (fun v H'=>v=.str x/\∃Hf',Grow H Hf H' Hf') I ⟨H0,Hf,sm,sl,fun v H' Hf' g r=>⟨r,Hf',g⟩⟩) fun v s1 ⟨v',H1,I1,r1,e1,Hf1,g1⟩=>?_)
  subst e1
  obtain⟨t,rfl⟩:=(show ∃t,v=Value.str x t from r1)
  refine wpAny_pyReprObj_str ?_ ln
  exact wpAny_formatField_str ⟨.str (reprText x),H1,I1.tok _,⟨_,rfl⟩,k _ H1 Hf1 g1 rfl⟩ ⟨.str (reprText x),H1,(I1.tok _).tok _,⟨_,rfl⟩,k _ H1 Hf1 g1 rfl⟩ ln
 | none=>cases h2
 | bool b=>cases h2
 | int i=>cases h2
 | tuple xs=>cases h2
 | list xs=>cases h2
 | dict xs=>cases h2
noncomputable def bm6:Str->List DE->DE
 | acc,[]=>fun _=>some (.str acc)
 | acc,f::fs=>fun ρ=>(f ρ).bind fun d=>match d with
  | .str y=>if(acc++y).length<=16777216 then bm6 (acc++y) fs ρ else none
  | _=>none
inductive JEs (X:Cx):List Expr->List DE->Prop
 | nil:JEs X [] []
 | cons {e:Expr}{es:List Expr}{f:DE}{fs:List DE}:JE X e f->JEs X es fs->JEs X (e::es) (f::fs)
theorem aa0:∀(ps:List (Sem Value)) (a:Str) (Q Q':Str->Shared->Prop) (s:Shared),(∀o s,Q o s->Q' o s)->Joins (model X.prog X.w) X.A X.xe ps a Q s->Joins (model X.prog X.w) X.A X.xe ps a Q' s
 | [],_,_,_,_,hq,z=>hq _ _ z
 | _::ps,_,Q,Q',_,hq,z=>thn z fun _ s1 ⟨y,t,e,c,z⟩=>⟨y,t,e,c,aa0 ps _ Q Q' s1 hq z⟩
theorem aO9:∀(fs:List DE) (acc:Str) (ρ:Rho) (d:D),bm6 acc fs ρ=some d->acc.length<=16777216->∃x:Str,d=.str x/\x.length<=16777216
 | [],acc,ρ,d,q,l=>by cases q;exact⟨acc,rfl,l⟩
 | f::fs,acc,ρ,d,q,l=>by
  obtain⟨y,h1,h2⟩:=xbm q
  cases y<;>dsimp only at h2
  case str x =>
   split at h2
   ·rename_i c;exact aO9 fs (acc++x) ρ d h2 c
   ·cases h2
  all_goals cases h2
theorem cc7(h:JEs X es fs):∀(acc:Str) (ρ:Rho) (d:D),bm6 acc fs ρ=some d->∀(pins:List (Addr×Obj)) (s:Shared) (σ:L2.St) (H0 H Hf:Hp),Inv X pins σ H s->B3 Hf H->Slots X.K H0 ρ σ H Hf ->
  Joins (model X.prog X.w) X.A X.xe (evalEach es X.env) acc (fun out s1=>d=.str out/\∃H1 Hf1,Inv X pins σ H1 s1/\Grow H Hf H1 Hf1) s:=by
 induction h with
 | nil =>
  intro acc ρ d q pins s σ H0 H Hf I sm sl
  cases q
  exact⟨rfl,H,Hf,I,Grow.refl sm⟩
 | @cons e es f fs he hs ih =>
  intro acc ρ d q pins s σ H0 H Hf I sm sl
  obtain⟨y,h1,h2⟩:=xbm q
  cases y with
  | str x =>
   dsimp only at h2
   split at h2
   case isFalse=>cases h2
   rename_i c
   refine thn (he ρ _ h1 pins s σ H (fun v H'=>v=.str x/\∃Hf',Grow H Hf H' Hf') I ⟨H0,Hf,sm,sl,fun v H' Hf' g r=>⟨r,Hf',g⟩⟩) fun v s1 ⟨v',H1,I1,r1,e1,Hf1,g1⟩=>?_
   subst e1
   obtain⟨t,rfl⟩:=(show ∃t,v=Value.str x t from r1)
   refine⟨x,t,rfl,c,?_⟩
   have z:=ih (acc++x) ρ d h2 pins s1 σ H0 H1 Hf1 I1 g1.sub (sl.grow g1)
   exact aa0 _ _ _ _ _ (fun o s ⟨z1,H2,Hf2,I2,g2⟩=>⟨z1,H2,Hf2,I2,g1.trans g2⟩) z
  | none=>cases h2
  | bool b=>cases h2
  | int i=>cases h2
  | tuple xs=>cases h2
  | list xs=>cases h2
  | dict xs=>cases h2
theorem cd1(h:JEs X (ea::eb::es) fs):JE X (.JoinedStr (ea::eb::es) pos) (bm6 Str.empty fs):=fun ρ d q=>by
 intro pins s σ H Q I hw
 obtain⟨H0,Hf,sm,sl,k⟩:=hw
 obtain⟨x,rfl,lx⟩:=aO9 fs _ ρ d q (by decide)
 refine wpAny_JoinedStr (aa0 _ _ _ _ _ (fun o s1 z=>?_) (cc7 h Str.empty ρ _ q pins s σ H0 H Hf I sm sl))
 obtain⟨e,H1,Hf1,I1,g1⟩:=z
 cases e
 exact⟨lx,.str x,H1,I1.tok _,⟨_,rfl⟩,k _ H1 Hf1 g1 rfl⟩
end
end G
namespace G
open PySem PySem.Spec PyProof.Rows L2
section
variable {X:Cx}
end
end G
namespace G
open PySem PySem.Spec PyProof.Rows L2
noncomputable def bJ1(K:PySem.W.Frag) (x c:Str):Bool:=match clA K x,clA K c with
 | some C,some D=>(match K.lookup C with
  | some ⟨_,_,.cls cd,_⟩=>!cd.mro.contains (.ref D)
  | _=>false)
 | _,_=>false
section
variable {X:Cx}
end
section
variable {X:Cx}
end
end G
namespace G
open PySem PySem.Spec PyProof.Rows L2
structure RoomQ (k:Nat) (A:Around):Prop where
 dp:A.depth+3*k+5 < recursionLimit
 un:A.units+16*k+200 < cLine
noncomputable abbrev cxQ(P:Program) (w:World) (K:PySem.W.Frag) (mg:Str->Option Value) (base:Heap) (N:List Str) (qual:Str) (scope:Scope) (f:Addr) (cd:Value) (A:Around) (outer:List Env) (s:Shared) (H:Hp):Cx:={ (l7 CX0 P w K mg base N qual scope f cd A outer s H E0).nox with calm:=false }
structure FnQ (P:Program) (w:World) (K:PySem.W.Frag) (mg:Str->Option Value) (base:Heap) (k:Nat) (f:Addr) (fd:FuncData) (ps:List Str) (sp:Sp):Prop where
 len:∀vs H Q E,sp vs H Q E->vs.length=ps.length
 run:∀(A:Around) (outer:List Env) (s:Shared) (H:Hp) (args:Args) (us:List Value) (vs:List V) (Q:VK),RoomQ k A->Env0 P w K mg base A outer s H->BindsTo s fd args (ps.zip us)->B9 vs us->sp vs H Q E0->codeAny (model P w) A (.call (.ref f) args) (CR CX0 outer P w H s Q E0) s
theorem FnQ.mono{P:Program}{w:World}{K:PySem.W.Frag}{mg:Str->Option Value}{base:Heap}{j k:Nat}{f:Addr}{fd:FuncData}{ps:List Str}{sp:Sp}(F:FnQ P w K mg base j f fd ps sp) (h:j<=k):FnQ P w K mg base k f fd ps sp :=
 ⟨F.len,fun A outer s H args us vs Q hr=>F.run A outer s H args us vs Q ⟨by have:=hr.dp;omega,by have:=hr.un;omega⟩⟩
theorem aI2{P:Program}{w:World}{K:PySem.W.Frag}{mg:Str->Option Value}{base:Heap}{N ps:List Str}{qual:Str}{scope:Scope}{f:Addr}{cd:Value}{A:Around}{outer:List Env}{s s1:Shared}{H:Hp}{us:List Value}{vs:List V}
  (S:FnScope N ps scope) (e0:Env0 P w K mg base A outer s H) (hl:vs.length=ps.length) (r:B9 vs us)
  (x:InCallC s s.heap.objs.size (bindL (envOfC qual scope s.heap.objs.size f cd).kindOf (ps.zip us) fun _=>none) (cellsFrom (s.heap.objs.size+1) scope.names []) (bindC (envOfC qual scope s.heap.objs.size f cd).kindOf (ps.zip us) fun _=>none) s1) :
  Inv (cxQ P w K mg base N qual scope f cd A outer s H) [] (start N vs) H s1:=by
 have hpl:ps.length<=N.length:=by have:=congrArg List.length S.pre;rw[List.length_take]at this;omega
 obtain⟨h1,tk,rfl,hk⟩:=x.done
 have noA:∀b:Addr,b∉(cxQ P w K mg base N qual scope f cd A outer s H).ex:=fun b z=>absurd (show b∈([]:List Addr) from z) (by simp)
 refine⟨⟨e0.mod,S.kind,rfl,rfl,Nat.le_refl _,fun y z c h1 h2=>?_,fun y hy=>?_,fun y c _ h=>?_,(fun z=>nomatch z),Around.frames_deeper e0.frames,.inr ⟨rfl,rfl⟩,fun b z=>absurd z (noA b),e0.bs,e0.bsz,fun b _ _=>noA b,fun b z=>absurd z (noA b),e0.funs,e0.frf⟩,
  rfl,e0.bare,Un.kept hk,⟨_,x.toInCall.ns,fun i y v h1 h2 h3=>?_⟩,fun y c h=>⟨_,x.cell y c h⟩,e0.hok.fresh (Nat.le_refl _),fun y c h=>?_,fun p hp=>absurd (show p∈([]:List (Addr×Obj)) from hp) (by simp),e0.hok.kept hk,?_⟩
 ·exact name_of_addr x.apart (PySem.mem_of_lookup h1) (PySem.mem_of_lookup h2)
 ·have hy:scope.names.lookup y=some .cell\/scope.names.lookup y=some .free:=hy
  rcases hy with hy|hy
  ·exact ac9 hy
  ·exact absurd rfl (S.nofree _ (PySem.mem_of_lookup hy))
 ·exact Nat.le_of_lt (x.above y c (PySem.mem_of_lookup h))
 ·have hi:i < vs.length:=by
   unfold L2.start at h2
   by_cases hi:i < vs.length
   ·exact hi
   ·rw[List.getElem?_append_right (by simpa using hi)]at h2
    rw[List.getElem?_replicate]at h2
    split at h2<;>cases h2
  have ha:vs[i]? = some v:=by
   unfold L2.start at h2
   rw[List.getElem?_append_left (by simpa using hi),List.getElem?_map]at h2
   cases e:vs[i]? with
   | none=>rw[e]at h2;cases h2
   | some a=>rw[e]at h2;cases h2;rfl
  obtain⟨u,hu,rv⟩:=r.get ha
  have hp:ps[i]? = some y:=by
   rw[← S.pre,List.getElem?_take_of_lt (by omega)];exact h1
  have ndP:ps.Nodup:=by rw[← S.pre];exact S.nd.sublist (List.take_sublist _ _)
  refine⟨u,rv,?_⟩
  rcases S.par y (List.mem_of_getElem? hp) with k|k
  ·exact .inl ⟨k,af2 ndP hp hu k⟩
  ·obtain⟨c,e⟩:=ac9 (n:=s.heap.objs.size+1) k
   refine .inr ⟨.inl k,c,e,?_⟩
   have q:=x.cell y c e
   rw[af3 ndP hp hu (by show scope.names.lookup y≠_;rw[k];decide)]at q
   exact q
 ·exact e0.hok.fresh (Nat.le_of_lt (x.above y c (PySem.mem_of_lookup h)))
 ·unfold L2.start
  show _=N.length
  rw[List.length_append,List.length_map,List.length_replicate]
  omega
theorem bS1{P:Program}{w:World}{K:PySem.W.Frag}{mg:Str->Option Value}{base:Heap}{k:Nat}{x qual:Str}{st:Stmt}{f:Addr}{fd:FuncData}{N ps:List Str}{sp:Sp}(F:Fun K x qual st f fd) (S:FnScope N ps (A7 st)) (len:∀vs H Q E,sp vs H Q E->vs.length=ps.length)
  (hbody:∀(cdv:Value) (A:Around) (outer:List Env) (s:Shared) (H:Hp) (vs:List V) (Q:VK),RoomQ k (A.deeper (envOfC qual (A7 st) s.heap.objs.size f cdv))->sp vs H Q E0->∃t,PSs (cxQ P w K mg base N qual (A7 st) f cdv A outer s H) (A4 st) t/\t { nx:=fun _ H'=>Q .non H',rt:=Q } (start N vs) H):FnQ P w K mg base (k+1) f fd ps sp:=by
 obtain⟨oc,od,kV,doc,pm,an,cdv,ct,osl,rfl,lk,hcd⟩:=F.ex
 refine⟨len,fun A outer s H args us vs Q hr e0 hb r hsp=>?_⟩
 have hl:=len _ _ _ _ hsp
 have KX:K.In s.heap:=e0.mod.kin.keeps fun b o e=>(e0.bs b o e).1
 have lim:s.heap.NoLimit:=e0.mod.nolimit.keeps fun b o e=>(e0.bs b o e).1
 have hkind:∀y∈ps.zip us,(A7 st).names.lookup y.1=some .local\/((A7 st).names.lookup y.1=some .cell/\((cellsFrom (s.heap.objs.size+1) (A7 st).names []).lookup y.1).isSome=true):=fun⟨n,v⟩ hy=>by
  rcases S.par n (List.of_mem_zip hy).1 with q|q
  ·exact .inl q
  ·exact .inr ⟨q,PySem.W.cellsFrom_some _ _ _ (.inl q)⟩
 have dpt:A.depth < recursionLimit:=by have:=hr.dp;omega
 refine codeAny_call_function (by first|exact dpt|(have:=hr.dp;omega)) (KX _ _ lk) rfl S.co S.gen rfl (PySem.W.codeRec_of KX hcd) (hb _ _ _ _ ?_)
 refine wpAny_newFunctionEnv_cells S.kind hkind fun env he s1 x=>?_
 subst he
 refine⟨lim.keeps x.toInCall.keep,codeAny_func ?_⟩
 obtain⟨t,ht,hq⟩:=hbody cdv A outer s H vs Q ⟨by have:=hr.dp;show A.depth+1+3*k+5 < _;omega,by have:=hr.un;show A.units+3+16*k+200 < _;omega⟩ hsp
 have I:L2.Inv (cxQ P w K mg base N qual (A7 st) f cdv A outer s H) [] (start N vs) H s1:=aI2 S e0 hl r x
 refine wpAny_mono (ht [] s1 (start N vs) H _ I hq) (fun fl s' hs=>?_) fun e s' hs=>False.elim hs
 have fin:∀{σ':L2.St}{H':Hp}{v:V}{u:Value},L2.Inv (cxQ P w K mg base N qual (A7 st) f cdv A outer s H) [] σ' H' s'->B6 v u->Q v H'->CE outer P w H s Q u s' :=
  fun{σ' H' v u} J rv q=>⟨v,H',J.os,J.bare,J.base,J.hok,rv,q⟩
 cases fl with
 | ret u =>
  obtain⟨v,σ',H',J,rv,q⟩:=hs
  exact fin J rv q
 | next =>
  obtain⟨σ',H',J,q⟩:=hs
  exact fin (v:=V.non) (u:=Value.none) J rfl q
 | brk =>
  obtain⟨_,_,_,q⟩:=hs
  exact False.elim q
 | cont =>
  obtain⟨_,_,_,q⟩:=hs
  exact False.elim q
noncomputable def ak5(n:Nat) (x:Str):Rho:=some (.exc x)::List.replicate (n - 1) none
noncomputable def bJ8(g:DS) (n:Nat):Str->Option D:=fun x=>(g (ak5 n x)).bind fun fl=>match fl with
 | .rt d=>some d
 | _=>none
noncomputable def spX(K:PySem.W.Frag) (F:Str->Option D):Sp:=fun vs H Q _=>∃Hf x v d,vs=[v]/\B3 Hf H/\SB K H H Hf (.exc x) v/\F x=some d/\∀u H' Hf',Grow H Hf H' Hf'->Rep K Hf' d u->Q u H'
theorem as7{K:PySem.W.Frag}{H0 H Hf:Hp}{N:List Str}{x:Str}{v:V}(hN:1<=N.length) (r:SB K H0 H Hf (.exc x) v):Slots K H0 (ak5 N.length x) (L2.start N [v]) H Hf:=by
 have only:∀(i:Nat) (b:B),(ak5 N.length x)[i]? = some (some b)->i=0/\b=.exc x:=fun i b h=>by
  unfold ak5 at h
  cases i with
  | zero=>rw[List.getElem?_cons_zero]at h;cases h;exact⟨rfl,rfl⟩
  | succ i =>
   rw[List.getElem?_cons_succ,List.getElem?_replicate]at h
   split at h<;>cases h
 refine⟨by simp[ak5,L2.start],fun i b e=>?_,fun i j d1 d2 a e1 _ _ _=>?_⟩
 ·obtain⟨rfl,rfl⟩:=only i b e
  exact⟨v,rfl,r⟩
 ·obtain⟨_,z⟩:=only i _ e1
  cases z
theorem bk4{P:Program}{w:World}{K:PySem.W.Frag}{mg:Str->Option Value}{base:Heap}{x qual:Str}{st:Stmt}{f:Addr}{fd:FuncData}{N ps:List Str}{k:Nat}{g:DS}(F:Fun K x qual st f fd) (S:FnScope N ps (A7 st)) (hp:ps.length=1)
  (hb:∀(cdv:Value) (A:Around) (outer:List Env) (s:Shared) (H:Hp),RoomQ k (A.deeper (envOfC qual (A7 st) s.heap.objs.size f cdv))->JSs (cxQ P w K mg base N qual (A7 st) f cdv A outer s H) (A4 st) g) :
  FnQ P w K mg base (k+1) f fd ps (spX K (bJ8 g N.length)):=by
 have hN:1<=N.length:=by have:=congrArg List.length S.pre;rw[List.length_take,hp]at this;omega
 refine bS1 F S (fun vs H Q E h=>by obtain⟨_,_,_,_,rfl,_⟩:=h;rw[hp];rfl) fun cdv A outer s H vs Q hr hsp=>?_
 obtain⟨Hf,y,v,d,rfl,ss,sb,e,kk⟩:=hsp
 obtain⟨fl,e1,e2⟩:=xbm e
 refine⟨_,hb cdv A outer s H hr _ fl e1 H Hf,Hf,⟨Grow.refl ss,as7 hN sb⟩,?_⟩
 cases fl with
 | rt d'=>cases e2;exact fun v H' Hf' g r=>kk v H' Hf' g r
 | nx ρ=>cases e2
 | bk ρ=>cases e2
 | ct ρ=>cases e2
section
variable {X:Cx}
noncomputable def ae9(i:Nat) (F:Str->Option D):DE:=fun ρ=>match ρ[i]? with
 | some (some (.exc x))=>F x
 | _=>none
theorem bi6(Fk:FnQ X.prog X.w X.K X.mg X.base k f fd ps (spX X.K F)) (hr:RoomQ k X.A) (hg:Gl X x) (hm:X.mg x=some (.ref f)) (hk:PySem.W.keepIn X.K (.ref f)=true) (hb:K2 X.K fd ps [])
  (hN:X.N[i]? = some n) (hv:Vis X.env.scope n) (hd:(n==("__debug__" : Str))=false) (hcd:(n==("__classdict__" : Str))=false) (hdb:(x==("__debug__" : Str))=false) :
  JE X (.Call (.Name x p) [.Name n p1] [] pos) (ae9 i F):=fun ρ d q=>by
 unfold ae9 at q
 split at q
 case h_2=>cases q
 rename_i y e
 intro pins s σ H Q I ⟨H0,Hf,ss,sl,kk⟩
 obtain⟨v0,h1,sb⟩:=sl.is i _ e
 refine wpAny_Call_Name_kw (W8 I hg hm ?_ hdb)
 refine PySem.W.callWith_K (h₀:=X.base) I.ok.mod.kin hk (thn (E2 (P2 hN hv hd hcd) M3 rfl pos pins s σ H (fun vs H'=>vs=[v0]/\H'=H) I ⟨v0,h1,rfl,rfl⟩) fun us s1 ⟨vs,H1,I1,r,e1,e2⟩=>⟨I1.kIn,?_⟩) rfl rfl
 subst e1 e2
 have sp:spX X.K F [v0] H1 Q E0:=⟨Hf,y,v0,d,rfl,ss,sb,q,fun u H' Hf' g r=>kk u H' Hf' g r⟩
 have hl2:us.length=ps.length:=by rw[← r.length];exact Fk.len _ _ _ _ sp
 have bd:BindsTo s1 fd ⟨us,[]⟩ (ps.zip us):=by
  have:=hb s1 us I1.kIn (by rw[List.append_nil];exact hl2)
  rwa [List.append_nil]at this
 refine wpAny_call (codeAny_mono (Fk.run X.A X.stack s1 H1 ⟨us,[]⟩ us [v0] Q hr I1.env0 bd r sp) fun rs s' hq=>?_)
 cases rs with
 | error e=>exact False.elim hq
 | ok fl =>
  cases fl with
  | ret u=>exact I1.after hq
  | next=>exact False.elim hq
  | brk=>exact False.elim hq
  | cont=>exact False.elim hq
end
end G
namespace G
theorem xg0{α:Type}{a:α}{l:List α}:(a::l)[0]? = some a:=rfl
theorem xg1{α:Type}{a:α}{i:Nat}{l:List α}:(a::l)[i+1]? = l[i]?:=rfl
theorem xw0{α:Type}{a b:α}{l:List α}:(a::l).set 0 b=b::l:=rfl
theorem xw1{α:Type}{a b:α}{i:Nat}{l:List α}:(a::l).set (i+1) b=a::l.set i b:=rfl
theorem xbs{α β:Type}{a:α}{f:α->Option β}:(some a).bind f=f a:=rfl
theorem xms{α β:Type}{a:α}{f:α->β}:(some a).map f=some (f a):=rfl
theorem xca{α:Type}{a:α}{l m:List α}:(a::l)++m=a::(l++m):=rfl
theorem xna{α:Type}{l:List α}:[]++l=l:=rfl
theorem xmc{α β:Type}{f:α->β}{a:α}{l:List α}:(a::l).map f=f a::l.map f:=rfl
theorem xmn{α β:Type}{f:α->β}:[].map f=[]:=rfl
theorem xnf:(!false)=true:=rfl
theorem xnt:(!true)=false:=rfl
theorem xft:(false=true)=False:=by simp
end G
local macro_rules
  | `(‹$x›) => `(some (G.B.val $x))
local macro_rules
  | `(⇑$x) => `(G.dC (PySem.PyData.int $x))
noncomputable section
namespace Sh
open PySem PySem.Spec PyProof.Rows L2 G
def af6:DS:=(O0 (Z5 (tB2 neD (A2 1) ⇑0) (O0 (Q7 2 (A9 X4 (A2 0) (A2 1))) (O0 (Q7 0 (A2 1)) (Q7 1 (A2 2))))) (L8 (A2 0)))
def S3:List D->Option D:=U3 af6 3
def U5:DS:=(O0 (Q7 2 (B1 S3 (A0 (A2 0) (A0 (A2 1) A6)))) (L8 (O7 (A0 (A9 ac4 (A2 0) (A2 2)) (A0 (A9 ac4 (A2 1) (A2 2)) A6)))))
def R8:List D->Option D:=U3 U5 3
def U6:DS:=(L8 (A9 leI (A9 T9 (dIx (C2 0) ⇑0) (dIx (C2 1) ⇑1)) (A9 T9 (dIx (C2 1) ⇑0) (dIx (C2 0) ⇑1))))
def c8:List D->Option D:=U3 U6 2
def aj9:DS:=(L8 (B1 R8 (A0 (A9 a9 (A9 T9 (dIx (C2 0) ⇑0) (dIx (C2 1) ⇑1)) (A9 T9 (dIx (C2 1) ⇑0) (dIx (C2 0) ⇑1))) (A0 (A9 T9 (dIx (C2 0) ⇑1) (dIx (C2 1) ⇑1)) A6))))
def T4:List D->Option D:=U3 aj9 2
def c7:DS:=(L8 (B1 R8 (A0 (A9 aa9 (A9 T9 (dIx (C2 0) ⇑0) (dIx (C2 1) ⇑1)) (A9 T9 (dIx (C2 1) ⇑0) (dIx (C2 0) ⇑1))) (A0 (A9 T9 (dIx (C2 0) ⇑1) (dIx (C2 1) ⇑1)) A6))))
def W0:List D->Option D:=U3 c7 2
def aj8:DS:=(L8 (B1 R8 (A0 (A9 T9 (dIx (C2 0) ⇑0) (dIx (C2 1) ⇑0)) (A0 (A9 T9 (dIx (C2 0) ⇑1) (dIx (C2 1) ⇑1)) A6))))
def U7:List D->Option D:=U3 aj8 2
def o6:DS:=(L8 (B1 W0 (A0 (dC (.tuple [(.int 1),(.int 1)])) (A0 (A2 0) A6))))
def Y8:List D->Option D:=U3 o6 1
def S8:DS:=(L8 (X8 (as4 (B1 c8 (A0 (A2 0) (A0 (dC (.tuple [(.int 1),(.int 1)])) A6)))) (A2 0) (dC (.tuple [(.int 1),(.int 1)]))))
def S9:List D->Option D:=U3 S8 1
def L7:DS:=(O0 (sIf (tB2 eqD (A2 0) (dC (.str "plus"))) (L8 (B1 S9 (A0 (B1 T4 (A0 (A2 1) (A0 (A2 2) A6))) A6))) o8) (O0 (sIf (tB2 eqD (A2 0) (dC (.str "atop"))) (L8 (A2 2)) o8) (O0 (sIf (tB2 eqD (A2 0) (dC (.str "cut"))) (L8 (B1 U7 (A0 (A2 2) (A0 (B1 Y8 (A0 (A2 1) A6)) A6)))) o8) (L8 (B1 W0 (A0 (B1 T4 (A0 (A2 1) (A0 (A2 2) A6))) (A0 (B1 U7 (A0 (A2 1) (A0 (A2 2) A6))) A6)))))))
def U0:List D->Option D:=U3 L7 3
def K4:DS:=(O0 (sIf (tB2 eqD (A2 0) (dC (.str "plus"))) (L8 (B1 S9 (A0 (B1 T4 (A0 (A2 3) (A0 (A2 4) A6))) A6))) o8) (O0 (sIf (tB2 eqD (A2 0) (dC (.str "screen"))) (L8 (B1 W0 (A0 (B1 T4 (A0 (A2 3) (A0 (A2 4) A6))) (A0 (B1 U7 (A0 (A2 3) (A0 (A2 4) A6))) A6)))) o8) (O0 (Q7 5 (B1 U7 (A0 (A2 4) (A0 (B1 Y8 (A0 (A2 1) A6)) A6)))) (O0 (sIf (tB2 eqD (A2 0) (dC (.str "over"))) (L8 (B1 T4 (A0 (A2 3) (A0 (A2 5) A6)))) o8) (O0 (sIf (tB2 eqD (A2 0) (dC (.str "multiply"))) (L8 (B1 T4 (A0 (B1 T4 (A0 (B1 U7 (A0 (A2 3) (A0 (A2 4) A6))) (A0 (B1 U7 (A0 (A2 3) (A0 (B1 Y8 (A0 (A2 2) A6)) A6))) A6))) (A0 (A2 5) A6)))) o8) (O0 (sIf (tB2 eqD (A2 0) (dC (.str "atop"))) (L8 (B1 T4 (A0 (B1 U7 (A0 (A2 3) (A0 (A2 2) A6))) (A0 (A2 5) A6)))) o8) (L8 (A2 5))))))))
def S4:List D->Option D:=U3 K4 6
def ar8:DS:=(O0 (Q7 3 (dIx (C2 1) ⇑0)) (O0 (Q7 4 (dIx (C2 2) ⇑0)) (O0 (c9 5 (R5 2 [0,3,4] (ah7 (qE (av9 (A2 1) (W5 ⇑1) W6)) (qE (av9 (A2 2) (W5 ⇑1) W6))) (T7 2 (G0 (N9 0) (G0 (N9 1) V5))) U2 (B1 S4 (A0 (A2 2) (A0 (A2 3) (A0 (A2 4) (A0 (A2 0) (A0 (A2 1) A6)))))))) (L8 (O7 (A0 (B1 U0 (A0 (A2 0) (A0 (A2 3) (A0 (A2 4) A6)))) (A0 (dIx (C2 5) ⇑0) (A0 (dIx (C2 5) ⇑1) (A0 (dIx (C2 5) ⇑2) A6)))))))))
def U9:List D->Option D:=U3 ar8 6
def an5:DS:=(O0 (sIf (tB2 eqD (A2 0) (ao5 A6)) (L8 (A9 T9 ⇑7 (A2 1))) o8) (L8 (A9 a9 (dIx (C2 0) (A9 X4 (A2 1) (l5 (C2 0)))) (A9 T9 ⇑6553 (A9 ac4 (A2 1) (l5 (C2 0)))))))
def an6:List D->Option D:=U3 an5 2
def ar7:DS:=(O0 (Q7 3 (A9 X4 (A9 a9 (A9 T9 (A9 X4 (B1 an6 (A0 (A2 0) (A0 (A2 1) A6))) ⇑2147483563) ⇑69069) (A9 T9 ⇑104723 (A9 a9 (A2 1) ⇑1))) ⇑2147483563)) (O0 (Q7 3 (A9 X4 (A9 a9 (A9 T9 (A2 3) (A2 3)) (A9 ac4 (A2 3) ⇑3)) ⇑2147483399)) (L8 (A9 X4 (A9 ac4 (A9 X4 (A9 a9 (A9 T9 (A2 3) (A2 3)) (A9 ac4 (A2 3) ⇑7)) ⇑2147483647) ⇑11) (A2 2)))))
def B5:List D->Option D:=U3 ar7 4
def ad3:DS:=(O0 (Q7 2 (A2 0)) (O0 (Q7 3 (A2 1)) (O0 (Z5 (tB2 gtI (A2 2) ⇑0) (ba5 2 3 (A0 (A9 X4 (A2 3) (A2 2)) (A0 (A2 2) A6)))) (L8 (O7 (A0 (A9 ac4 (A2 0) (A2 3)) (A0 (A9 ac4 (A2 1) (A2 3)) A6)))))))
def ad4:List D->Option D:=U3 ad3 4
def ar5:DS:=(L8 (B1 ad4 (A0 (A9 T9 (dIx (C2 0) ⇑0) (dIx (C2 1) ⇑0)) (A0 (A9 T9 (dIx (C2 0) ⇑1) (dIx (C2 1) ⇑1)) A6))))
def af9:List D->Option D:=U3 ar5 2
def ar6:DS:=(O0 (Q7 2 (A9 a9 ⇑1 (B1 B5 (A0 (A2 0) (A0 (A2 1) (A0 ⇑12 A6)))))) (O0 (Q7 3 (B1 ad4 (A0 (B1 B5 (A0 (A2 0) (A0 (A9 a9 (A2 1) ⇑1) (A0 (A9 a9 (A2 2) ⇑1) A6)))) (A0 (A2 2) A6)))) (L8 (dIx (qN (A0 (A2 3) (A0 (A2 3) (A0 (A2 3) (A0 (O7 (A0 ⇑0 (A0 ⇑1 A6))) (A0 (O7 (A0 ⇑1 (A0 ⇑1 A6))) A6)))))) (B1 B5 (A0 (A2 0) (A0 (A9 a9 (A2 1) ⇑2) (A0 ⇑5 A6))))))))
def o7:List D->Option D:=U3 ar6 4
def aE1:DS:=(O0 (Q7 2 (B1 o7 (A0 (A2 0) (A0 (A2 1) A6)))) (L8 (A9 a9 (O7 (A0 (A2 2) A6)) (ac6 (qN (R5 1 [2,0,1] (V4 ⇑3) (N9 0) U2 (B1 af9 (A0 (A2 1) (A0 (B1 o7 (A0 (A2 2) (A0 (A9 a9 (A9 a9 (A2 3) ⇑3) (A9 T9 ⇑3 (A2 0))) A6))) A6)))))))))
def Y9:List D->Option D:=U3 aE1 3
end Sh
namespace Sh
open PySem G
theorem cb4(i j:Int):neD (.int i) (.int j)=some (.bool (!(i==j))):=rfl
theorem ce1(i j:Int):eqD (.int i) (.int j)=some (.bool (i==j)):=rfl
theorem aO7{t:Rho->Option Bool}{f:DS}{n:Nat}{ρ ρ':Rho}(h1:t ρ=some true) (h2:f ρ=some (.nx ρ')):T6 t f (n+1) ρ=T6 t f n ρ':=by
 simp only[T6,h1,h2,xbs,if_true]
theorem bk1:∀(b a:Nat) (x:Option B),∃n x',T6 (tB2 neD (A2 1) ⇑0) (O0 (Q7 2 (A9 X4 (A2 0) (A2 1))) (O0 (Q7 0 (A2 1)) (Q7 1 (A2 2)))) n [‹.int a›,‹.int b›,x]
  = some (.nx [‹.int (Nat.gcd a b)›,‹.int 0›,x']):=by
 intro b
 induction b using Nat.strongRecOn with
 | _ b ih =>
  intro a x
  by_cases hb:b=0
  ·subst hb
   refine⟨1,x,?_⟩
   rw[Nat.gcd_zero_right]
   rfl
  ·obtain⟨n,x',h⟩:=ih (a % b) (Nat.mod_lt _ (Nat.pos_of_ne_zero hb)) b (‹.int ((a % b:Nat):Int)›)
   refine⟨n+1,x',?_⟩
   have e1:tB2 neD (A2 1) ⇑0 [‹.int a›,‹.int b›,x]=some true:=by
    show(neD (.int b) (.int 0)).bind R7=some true
    rw[cb4]
    have:((b:Int)==0)=false:=by simp;omega
    rw[this];rfl
   have e2:X4 (.int a) (.int b)=some (.int ((a % b:Nat):Int)):=by
    show(if(0:Int) < (b:Int) then some (PyData.int ((a:Int) % (b:Int))) else none)=_
    rw[if_pos (by omega)]
    simp
   have e3:O0 (Q7 2 (A9 X4 (A2 0) (A2 1))) (O0 (Q7 0 (A2 1)) (Q7 1 (A2 2))) [‹.int a›,‹.int b›,x]=some (.nx [‹.int b›,‹.int ((a % b:Nat):Int)›,‹.int ((a % b:Nat):Int)›]):=by
    show((((X4 (.int a) (.int b))).map fun d=>Fl.nx [‹.int a›,‹.int b›,‹d›]).bind _)=_
    rw[e2]
    rfl
   rw[aO7 e1 e3,h,Nat.gcd_comm b,Nat.gcd_comm a b,← Nat.gcd_rec]
theorem cf5(a b:Nat):S3 [.int a,.int b]=some (.int (Nat.gcd a b)):=by
 obtain⟨n,x',h⟩:=bk1 b a none
 show((Z5 _ _ [‹.int a›,‹.int b›,none]).bind _).bind _=_
 rw[ap3 h]
 rfl
theorem aT6:∀(a b:Nat) (t u:D),∃n,T6 (tB2 gtI (A2 2) ⇑0) (ba5 2 3 (A0 (A9 X4 (A2 3) (A2 2)) (A0 (A2 2) A6))) n [‹t›,‹u›,‹.int a›,‹.int b›]
  = some (.nx [‹t›,‹u›,‹.int 0›,‹.int (Nat.gcd a b)›]):=by
 intro a
 induction a using Nat.strongRecOn with
 | _ a ih =>
  intro b t u
  by_cases ha:a=0
  ·subst ha
   refine⟨1,?_⟩
   rw[Nat.gcd_zero_left]
   rfl
  ·obtain⟨n,h⟩:=ih (b % a) (Nat.mod_lt _ (Nat.pos_of_ne_zero ha)) a t u
   refine⟨n+1,?_⟩
   have e1:tB2 gtI (A2 2) ⇑0 [‹t›,‹u›,‹.int a›,‹.int b›]=some true:=by
    show some (decide ((0:Int) < (a:Int)))=some true
    rw[decide_eq_true (by omega)]
   have e2:X4 (.int b) (.int a)=some (.int ((b % a:Nat):Int)):=by
    show(if(0:Int) < (a:Int) then some (PyData.int ((b:Int) % (a:Int))) else none)=_
    rw[if_pos (by omega)]
    simp
   have e3:ba5 2 3 (A0 (A9 X4 (A2 3) (A2 2)) (A0 (A2 2) A6)) [‹t›,‹u›,‹.int a›,‹.int b›]=some (.nx [‹t›,‹u›,‹.int ((b % a:Nat):Int)›,‹.int a›]):=by
    show((X4 (.int b) (.int a)).bind fun d=>(some [PyData.int (a:Int)]).map fun ds=>d::ds).bind _=_
    rw[e2]
    rfl
   rw[aO7 e1 e3,h,← Nat.gcd_rec]
def fr(r:Rat):D:=.tuple [.int r.num,.int r.den]
theorem K7{i:Int}{k:Nat}(h:i.natAbs < 2 ^ k) (hk:k<=8000):F6 i:=Nat.lt_of_lt_of_le h (Nat.pow_le_pow_right (by decide) hk)
theorem aA5(a b:Nat) (hb:0 < b):fr (mkRat a b)=.tuple [.int ((a / Nat.gcd a b:Nat):Int),.int ((b / Nat.gcd a b:Nat):Int)]:=by
 unfold fr
 rw[Rat.num_mkRat,Rat.den_mkRat,if_neg (by omega),if_neg (by omega)]
 have e:b.gcd (a:Int).natAbs=Nat.gcd a b:=by rw[Int.natAbs_natCast,Nat.gcd_comm]
 rw[e]
 simp
theorem aP6(a b x k:Nat) (hb:0 < b) (hk:b < 2 ^ k) (hk8:k<=8000):ac4 (.int x) (.int (Nat.gcd a b))=some (.int ((x / Nat.gcd a b:Nat):Int)):=by
 have g0:0 < Nat.gcd a b:=Nat.gcd_pos_of_pos_right _ hb
 have gs:F6 (Nat.gcd a b:Nat):=K7 (k:=k) (by rw[Int.natAbs_natCast];exact Nat.lt_of_le_of_lt (Nat.le_of_dvd hb (Nat.gcd_dvd_right a b)) hk) hk8
 show(if(0:Int) < ((Nat.gcd a b:Nat):Int)/\F6 (Nat.gcd a b:Nat) then some (PyData.int ((x:Int) / ((Nat.gcd a b:Nat):Int))) else none)=_
 rw[if_pos ⟨by omega,gs⟩]
 simp
theorem aw8(a b k:Nat) (hb:0 < b) (hk:b < 2 ^ k) (hk8:k<=8000):R8 [.int a,.int b]=some (fr (mkRat a b)):=by
 have d:=fun x=>aP6 a b x k hb hk hk8
 have e:U5 [‹.int a›,‹.int b›,none]=some (.rt (fr (mkRat a b))):=by
  rw[aA5 a b hb]
  simp only[U5,O0,Q7,B1,A0,A6,A2,xg0,xg1,xbs,xms,cf5,xw1,xw0,L8,O7,A9,d]
 show(U5 [‹.int a›,‹.int b›,none]).bind _=_
 rw[e];rfl
theorem bo3(a b k:Nat) (hb:0 < b) (hk:b < 2 ^ k) (hk8:k<=8000):ad4 [.int a,.int b]=some (fr (mkRat a b)):=by
 have d:=fun x=>aP6 a b x k hb hk hk8
 obtain⟨n,h⟩:=aT6 a b (.int a) (.int b)
 have e:ad3 [‹.int a›,‹.int b›,none,none]=some (.rt (fr (mkRat a b))):=by
  rw[aA5 a b hb]
  simp only[ad3,O0,Q7,B1,A0,A6,A2,xg0,xg1,xbs,xms,xw1,xw0,L8,O7,A9,d,ap3 h]
 show(ad3 [‹.int a›,‹.int b›,none,none]).bind _=_
 rw[e];rfl
structure Bd (k:Nat) (r:Rat):Prop where
 nn:0<=r
 num:r.num.natAbs < 2 ^ k
 den:r.den < 2 ^ k
theorem Bd.mono{j k:Nat}{r:Rat}(h:Bd j r) (l:j<=k):Bd k r:=⟨h.nn,Nat.lt_of_lt_of_le h.num (Nat.pow_le_pow_right (by decide) l),Nat.lt_of_lt_of_le h.den (Nat.pow_le_pow_right (by decide) l)⟩
theorem Bd.nat{k:Nat}{r:Rat}(h:Bd k r):r.num=(r.num.natAbs:Int):=by
 have:=Rat.num_nonneg.mpr h.nn
 omega
theorem bf4(a b:Nat):0<=mkRat (a:Int) b:=by
 rw[← Rat.num_nonneg,Rat.num_mkRat]
 split
 ·exact Int.le_refl _
 ·exact Int.ediv_nonneg (by omega) (by omega)
theorem Bd.of{a b k:Nat}(hb:0 < b) (h1:a < 2 ^ k) (h2:b < 2 ^ k):Bd k (mkRat a b):=by
 refine⟨bf4 a b,?_,?_⟩
 ·rw[Rat.num_mkRat,if_neg (by omega)]
  rw[show((a:Int) / ((b.gcd (a:Int).natAbs:Nat):Int))=((a / b.gcd (a:Int).natAbs:Nat):Int) by simp,Int.natAbs_natCast]
  exact Nat.lt_of_le_of_lt (Nat.div_le_self _ _) h1
 ·rw[Rat.den_mkRat,if_neg (by omega)]
  exact Nat.lt_of_le_of_lt (Nat.div_le_self _ _) h2
theorem M4{a b j k:Nat}(h1:a < 2 ^ j) (h2:b < 2 ^ k):a*b < 2 ^ (j+k):=by
 rw[Nat.pow_add]
 exact Nat.mul_lt_mul'' h1 h2
theorem at6{j k:Nat}{r s:Rat}(hr:Bd j r) (hs:Bd k s):r*s=mkRat ((r.num.natAbs*s.num.natAbs:Nat):Int) (r.den*s.den):=by
 rw[Rat.mul_def,Rat.normalize_eq_mkRat,Int.natCast_mul,← hr.nat,← hs.nat]
theorem aM2{j k:Nat}{r s:Rat}(hr:Bd j r) (hs:Bd k s):r+s=mkRat ((r.num.natAbs*s.den+s.num.natAbs*r.den:Nat):Int) (r.den*s.den):=by
 rw[Rat.add_def,Rat.normalize_eq_mkRat,Int.natCast_add,Int.natCast_mul,Int.natCast_mul,← hr.nat,← hs.nat]
theorem aZ8{j k:Nat}{r s:Rat}(hr:Bd j r) (hs:Bd k s) (l:s<=r):s.num.natAbs*r.den<=r.num.natAbs*s.den:=by
 have:=(Rat.le_iff s r).mp l
 rw[hr.nat,hs.nat]at this
 exact_mod_cast this
theorem aM1{j k:Nat}{r s:Rat}(hr:Bd j r) (hs:Bd k s) (l:s<=r):r - s=mkRat ((r.num.natAbs*s.den - s.num.natAbs*r.den:Nat):Int) (r.den*s.den):=by
 rw[Rat.sub_def,Rat.normalize_eq_mkRat,Int.ofNat_sub (aZ8 hr hs l),Int.natCast_mul,Int.natCast_mul,← hr.nat,← hs.nat]
theorem den_pos(r:Rat):0 < r.den:=Nat.pos_of_ne_zero r.den_nz
theorem Bd.mul{j k:Nat}{r s:Rat}(hr:Bd j r) (hs:Bd k s):Bd (j+k) (r*s):=by
 rw[at6 hr hs]
 exact Bd.of (Nat.mul_pos (den_pos r) (den_pos s)) (M4 hr.num hs.num) (M4 hr.den hs.den)
theorem Bd.add{j k:Nat}{r s:Rat}(hr:Bd j r) (hs:Bd k s):Bd (j+k+1) (r+s):=by
 rw[aM2 hr hs]
 have h1:=M4 hr.num hs.den
 have h2:=M4 hs.num hr.den
 have h3:=M4 hr.den hs.den
 rw[Nat.add_comm k j]at h2
 exact Bd.of (Nat.mul_pos (den_pos r) (den_pos s)) (by rw[Nat.pow_succ];omega) (by rw[Nat.pow_succ];omega)
theorem Bd.sub{j k:Nat}{r s:Rat}(hr:Bd j r) (hs:Bd k s) (l:s<=r):Bd (j+k) (r - s):=by
 rw[aM1 hr hs l]
 have h1:=M4 hr.num hs.den
 have h3:=M4 hr.den hs.den
 exact Bd.of (Nat.mul_pos (den_pos r) (den_pos s)) (by omega) (by omega)
theorem Bd.one:Bd 1 1:=⟨by decide,by decide,by decide⟩
theorem Bd.zero:Bd 1 0:=⟨by decide,by decide,by decide⟩
theorem bk2:fr 1=.tuple [.int 1,.int 1]:=rfl
theorem Bd.sn{k:Nat}{r:Rat}(h:Bd k r) (hk:k<=8000):F6 r.num:=K7 h.num hk
theorem Bd.sd{k:Nat}{r:Rat}(h:Bd k r) (hk:k<=8000):F6 r.den:=K7 (k:=k) (by rw[Int.natAbs_natCast];exact h.den) hk
theorem P6{i j:Int}(h1:F6 i) (h2:F6 j):T9 (.int i) (.int j)=some (.int (i*j)):=by
 show(if F6 i/\F6 j then some (PyData.int (i*j)) else none)=_
 rw[if_pos ⟨h1,h2⟩]
theorem bF0(i j:Int):a9 (.int i) (.int j)=some (.int (i+j)):=rfl
theorem bC4(i j:Int):aa9 (.int i) (.int j)=some (.int (i - j)):=rfl
theorem cc1(i j:Int):leI (.int i) (.int j)=some (.bool (decide (i<=j))):=rfl
theorem cf2(a b:D):L2.atI [a,b] 0=some a:=rfl
theorem cf1(a b:D):L2.atI [a,b] 1=some b:=rfl
theorem ix0{ρ:Rho}{i:Nat}{r:Rat}(h:ρ[i]? = some (‹fr r›)):dIx (C2 i) ⇑0 ρ=some (.int r.num):=by
 simp only[dIx,C2,h,fr,dC,xbs,cf2]
theorem ix1{ρ:Rho}{i:Nat}{r:Rat}(h:ρ[i]? = some (‹fr r›)):dIx (C2 i) ⇑1 ρ=some (.int r.den):=by
 simp only[dIx,C2,h,fr,dC,xbs,cf1]
theorem v0(x:Option B) (l:Rho):(x::l)[0]? = some x:=rfl
theorem v1(y x:Option B) (l:Rho):(y::x::l)[1]? = some x:=rfl
theorem R9{j k:Nat}{r s:Rat}(hr:Bd j r) (hs:Bd k s) (l:j+k<=8000):U7 [fr r,fr s]=some (fr (r*s)):=by
 have e:aj8 [‹fr r›,‹fr s›]=some (.rt (fr (r*s))):=by
  simp only[aj8,L8,B1,A0,A6,A9,ix0 (v0 _ _),ix1 (v0 _ _),ix0 (v1 _ _ _),ix1 (v1 _ _ _),xbs,xms,P6 (hr.sn (by omega)) (hs.sn (by omega)),P6 (hr.sd (by omega)) (hs.sd (by omega))]
  have:=aw8 (r.num.natAbs*s.num.natAbs) (r.den*s.den) (j+k) (Nat.mul_pos (den_pos r) (den_pos s)) (M4 hr.den hs.den) l
  rw[← at6 hr hs,Int.natCast_mul,Int.natCast_mul,← hr.nat,← hs.nat]at this
  rw[this];rfl
 show(aj8 [‹fr r›,‹fr s›]).bind _=_
 rw[e];rfl
theorem S5{j k:Nat}{r s:Rat}(hr:Bd j r) (hs:Bd k s) (l:j+k<=8000):T4 [fr r,fr s]=some (fr (r+s)):=by
 have e:aj9 [‹fr r›,‹fr s›]=some (.rt (fr (r+s))):=by
  simp only[aj9,L8,B1,A0,A6,A9,ix0 (v0 _ _),ix1 (v0 _ _),ix0 (v1 _ _ _),ix1 (v1 _ _ _),xbs,xms,P6 (hr.sn (by omega)) (hs.sd (by omega)),P6 (hs.sn (by omega)) (hr.sd (by omega)),P6 (hr.sd (by omega)) (hs.sd (by omega)),bF0]
  have:=aw8 (r.num.natAbs*s.den+s.num.natAbs*r.den) (r.den*s.den) (j+k) (Nat.mul_pos (den_pos r) (den_pos s)) (M4 hr.den hs.den) l
  rw[← aM2 hr hs,Int.natCast_add,Int.natCast_mul,Int.natCast_mul,Int.natCast_mul,← hr.nat,← hs.nat]at this
  rw[this];rfl
 show(aj9 [‹fr r›,‹fr s›]).bind _=_
 rw[e];rfl
theorem Y0{j k:Nat}{r s:Rat}(hr:Bd j r) (hs:Bd k s) (l:j+k<=8000) (hl:s<=r):W0 [fr r,fr s]=some (fr (r - s)):=by
 have e:c7 [‹fr r›,‹fr s›]=some (.rt (fr (r - s))):=by
  simp only[c7,L8,B1,A0,A6,A9,ix0 (v0 _ _),ix1 (v0 _ _),ix0 (v1 _ _ _),ix1 (v1 _ _ _),xbs,xms,P6 (hr.sn (by omega)) (hs.sd (by omega)),P6 (hs.sn (by omega)) (hr.sd (by omega)),P6 (hr.sd (by omega)) (hs.sd (by omega)),bC4]
  have:=aw8 (r.num.natAbs*s.den - s.num.natAbs*r.den) (r.den*s.den) (j+k) (Nat.mul_pos (den_pos r) (den_pos s)) (M4 hr.den hs.den) l
  rw[← aM1 hr hs hl,Int.ofNat_sub (aZ8 hr hs hl),Int.natCast_mul,Int.natCast_mul,Int.natCast_mul,← hr.nat,← hs.nat]at this
  rw[this];rfl
 show(c7 [‹fr r›,‹fr s›]).bind _=_
 rw[e];rfl
theorem af8{k:Nat}{s:Rat}(hs:Bd k s) (l:k+1<=8000) (hl:s<=1):Y8 [fr s]=some (fr (1 - s)):=by
 have e:o6 [‹fr s›]=some (.rt (fr (1 - s))):=by
  simp only[o6,L8,B1,A0,A6,dC,A2,xg0,xbs,xms]
  rw[← bk2,Y0 Bd.one hs (by omega) hl];rfl
 show(o6 [‹fr s›]).bind _=_
 rw[e];rfl
theorem aE3{j k:Nat}{r s:Rat}(hr:Bd j r) (hs:Bd k s) (l:j+k<=8000):c8 [fr r,fr s]=some (.bool (decide (r<=s))):=by
 have e:U6 [‹fr r›,‹fr s›]=some (.rt (.bool (decide (r<=s)))):=by
  simp only[U6,L8,B1,A0,A6,A9,ix0 (v0 _ _),ix1 (v0 _ _),ix0 (v1 _ _ _),ix1 (v1 _ _ _),xbs,xms,P6 (hr.sn (by omega)) (hs.sd (by omega)),P6 (hs.sn (by omega)) (hr.sd (by omega)),cc1]
  simp only[← Rat.le_iff]
 show(U6 [‹fr r›,‹fr s›]).bind _=_
 rw[e];rfl
theorem aE4{k:Nat}{r:Rat}(hr:Bd k r) (l:k+1<=8000):S9 [fr r]=some (fr (if r<=1 then r else 1)):=by
 have e:S8 [‹fr r›]=some (.rt (fr (if r<=1 then r else 1))):=by
  simp only[S8,L8,X8,as4,B1,A0,A6,dC,A2,xg0,xbs,xms]
  rw[← bk2,aE3 hr Bd.one l]
  by_cases h:r<=1
  ·simp[h,aF7]
  ·simp[h,aF7]
 show(S8 [‹fr r›]).bind _=_
 rw[e];rfl
end Sh
set_option exponentiation.threshold 9000
namespace Sh
open PySem G L2
theorem ci9(i j:Int):ltI (.int i) (.int j)=some (.bool (decide (i < j))):=rfl
theorem cj3(i j:Int):gtI (.int i) (.int j)=some (.bool (decide (j < i))):=rfl
theorem bs9{α:Type}(x:α):List.replicate 0 x=[]:=rfl
theorem bs8{α:Type}(x:α):List.replicate 1 x=[x]:=rfl
theorem bs7{α:Type}(x:α):List.replicate 2 x=[x,x]:=rfl
theorem aP9(a b c d:D):af0 [a,b,c,d] (some 1) none=[b,c,d]:=rfl
theorem cl1(a b c d:D):L2.atI [a,b,c,d] 0=some a:=rfl
theorem cl0(a b c d:D):L2.atI [a,b,c,d] 1=some b:=rfl
theorem ck9(a b c d:D):L2.atI [a,b,c,d] 2=some c:=rfl
theorem ck8(a b c d:D):L2.atI [a,b,c,d] 3=some d:=rfl
theorem cl4(a b c:D):L2.atI [a,b,c] 0=some a:=rfl
theorem cl3(a b c:D):L2.atI [a,b,c] 1=some b:=rfl
theorem cl2(a b c:D):L2.atI [a,b,c] 2=some c:=rfl
theorem Y1{n k:Nat}(h:n < 2 ^ k) (hk:k<=8000):F6 (n:Int):=K7 (k:=k) (by rw[Int.natAbs_natCast];exact h) hk
theorem aA4{i j:Int}(h:0 < j):X4 (.int i) (.int j)=some (.int (i % j)):=by
 show(if(0:Int) < j then some (PyData.int (i % j)) else none)=_
 rw[if_pos h]
theorem aP5{i j:Int}(h:0 < j) (s:F6 j):ac4 (.int i) (.int j)=some (.int (i / j)):=by
 show(if(0:Int) < j/\F6 j then some (PyData.int (i / j)) else none)=_
 rw[if_pos ⟨h,s⟩]
theorem M6{g:DS}{n:Nat}{ds:List D}{ρ:Rho}{d:D}(h:P8 n ds=ρ) (e:g ρ=some (.rt d)):U3 g n ds=some d:=by
 unfold U3
 rw[h,e];rfl
theorem aa5{j k:Nat}{r s:Rat}(hr:Bd j r) (hs:Bd k s) (l:j+k<=8000):af9 [fr r,fr s]=some (fr (r*s)):=by
 refine M6 (ρ:=[‹fr r›,‹fr s›]) rfl ?_
 simp only[ar5,L8,B1,A0,A6,A9,ix0 (v0 _ _),ix1 (v0 _ _),ix0 (v1 _ _ _),ix1 (v1 _ _ _),xbs,xms,P6 (hr.sn (by grind)) (hs.sn (by grind)),P6 (hr.sd (by grind)) (hs.sd (by grind))]
 have:=bo3 (r.num.natAbs*s.num.natAbs) (r.den*s.den) (j+k) (Nat.mul_pos (den_pos r) (den_pos s)) (M4 hr.den hs.den) l
 rw[← at6 hr hs,Int.natCast_mul,Int.natCast_mul,← hr.nat,← hs.nat]at this
 rw[this];rfl
def ar0(ns:List Int) (k:Nat):Int:=if ns.length=0 then 7*(k:Int) else ns.getD (k % ns.length) 0+6553*((k / ns.length:Nat):Int)
theorem bl3(ns:List Int):eqD (.list (ns.map PyData.int)) (.list [])=some (.bool (decide (ns.length=0))):=by
 have h1:SeqAt.shaped (.list (ns.map PyData.int))=true:=by
  have c:∀l:List Int,PyData.canLayAll0 (l.map PyData.int)=true:=fun l=>by
   induction l with
   | nil=>rfl
   | cons a r ih=>simp only[xmc,PyData.canLayAll0,PyData.canLay0,ih];rfl
  have d:∀l:List Int,PyData.depthAll (l.map PyData.int)=0:=fun l=>by
   induction l with
   | nil=>rfl
   | cons a r ih=>simp only[xmc,PyData.depthAll,PyData.depth,ih];rfl
  unfold SeqAt.shaped
  simp only[PyData.canLay0,c,PyData.depth,d]
  rfl
 unfold eqD
 rw[if_pos ⟨h1,rfl⟩]
 cases ns with
 | nil=>rfl
 | cons a r=>simp[PyData.eqv,PyData.eqvAll]
end Sh
local macro_rules
  | `(tactic| wp_walk using evP, $ts,*) => `(tactic| simp only [G.O0, G.Q7, G.L8, G.sIf, G.o8, G.c9, G.ba6, G.A2, G.dC, G.O7, G.ao5, G.A9, G.B1, G.bz7, G.dOr, G.bT0, G.X9, G.ac6, G.ck1, G.ck0, G.cj9, G.W6, G.W5, G.bi9, G.A6, G.A0, G.as4, G.tB2, G.ap0, G.as5, G.ax8, G.aF7, G.R7, G.U2, G.N9, G.T7, G.G0, G.V5, G.aI3, G.cd4, G.xg0, G.xg1, G.xw0, G.xw1, G.xbs, G.xms, G.xmc, G.xmn, G.xna, G.xca, Sh.bF0, Sh.bC4, Sh.cc1, Sh.cb4, Sh.ce1, Sh.ci9, Sh.cj3, Sh.cl1, Sh.cl0, Sh.ck9, Sh.ck8, Sh.cl4, Sh.cl3, Sh.cl2, Sh.cf2, Sh.cf1, G.xnt, G.xnf, G.xft, if_true, if_false, $[$ts:term],*])
local macro_rules
  | `(tactic| wp_walk using evB) => `(tactic| wp_walk using evP, G.dIx, G.l5, G.C2, G.qE, G.qN, G.ao1)
  | `(tactic| wp_walk using evB, $ts,*) => `(tactic| wp_walk using evP, G.dIx, G.l5, G.C2, G.qE, G.qN, G.ao1, $ts,*)
local macro_rules
  | `(tactic| wp_walk using evA) => `(tactic| wp_walk using evB, G.X8, G.av9, G.R5, G.g8, G.af1, G.V4, G.ah7, Sh.bs9, Sh.bs8, Sh.bs7, Sh.aP9, ite_true, ite_false)
  | `(tactic| wp_walk using evA, $ts,*) => `(tactic| wp_walk using evB, G.X8, G.av9, G.R5, G.g8, G.af1, G.V4, G.ah7, Sh.bs9, Sh.bs8, Sh.bs7, Sh.aP9, ite_true, ite_false, $ts,*)
local macro_rules
  | `(tactic| wp_walk using evD) => `(tactic| wp_walk using evB, G.an0, G.ah4)
  | `(tactic| wp_walk using evD, $ts,*) => `(tactic| wp_walk using evB, G.an0, G.ah4, $ts,*)
local macro_rules
  | `(tactic| wp_walk using evC) => `(tactic| wp_walk using evD, G.X8, G.av9, G.R5, G.g8, G.af1, G.V4, G.ah7, Sh.bs9, Sh.bs8, Sh.bs7, Sh.aP9, ite_true, ite_false)
  | `(tactic| wp_walk using evC, $ts,*) => `(tactic| wp_walk using evD, G.X8, G.av9, G.R5, G.g8, G.af1, G.V4, G.ah7, Sh.bs9, Sh.bs8, Sh.bs7, Sh.aP9, ite_true, ite_false, $ts,*)
local macro_rules
  | `(tactic| wp_walk using evQ) => `(tactic| wp_walk using evP, G.an0, G.ah4)
  | `(tactic| wp_walk using evQ, $ts,*) => `(tactic| wp_walk using evP, G.an0, G.ah4, $ts,*)
namespace Sh
open PySem G L2
theorem bV0(ns:List Int) (k:Nat) (hn:ns.length<=63) (hk:k < 2 ^ 60):an6 [.list (ns.map PyData.int),.int k]=some (.int (ar0 ns k)):=by
 refine M6 (ρ:=[‹.list (ns.map PyData.int)›,‹.int k›]) rfl ?_
 have sk:F6 (k:Int):=Y1 hk (by decide)
 by_cases h:ns.length=0
 ·have e:ar0 ns k=7*(k:Int):=by unfold ar0;rw[if_pos h]
  wp_walk using evA,an5,bl3,h,decide_true,P6 (i:=7) (K7 (k:=3) (by decide) (by decide)) sk,e
 ·have e:ar0 ns k=ns.getD (k % ns.length) 0+6553*((k / ns.length:Nat):Int):=by unfold ar0;rw[if_neg h]
  have hl:(List.map PyData.int ns).length=ns.length:=List.length_map ..
  have hp:0 < ns.length:=Nat.pos_of_ne_zero h
  have m1:X4 (.int k) (.int ns.length)=some (.int ((k % ns.length:Nat):Int)):=by rw[aA4 (by grind)];simp
  have m2:ac4 (.int k) (.int ns.length)=some (.int ((k / ns.length:Nat):Int)):=by rw[aP5 (by grind) (Y1 (k:=6) (by grind) (by decide))];simp
  have m3:L2.atI (List.map PyData.int ns) ((k % ns.length:Nat):Int)=some (.int (ns.getD (k % ns.length) 0)):=by
   refine L2.bA7 ?_
   have hlt:k % ns.length < ns.length:=Nat.mod_lt _ hp
   rw[List.getElem?_map,List.getElem?_eq_getElem hlt]
   simp[List.getD,hlt]
  have sq:F6 ((k / ns.length:Nat):Int):=Y1 (k:=60) (Nat.lt_of_le_of_lt (Nat.div_le_self _ _) hk) (by decide)
  wp_walk using evA,an5,bl3,h,decide_false,hl,m1,m2,m3,P6 (i:=6553) (K7 (k:=13) (by decide) (by decide)) sq,e
def ac2(ns:List Int) (k:Nat) (m:Int):Int :=
 let c:=(ar0 ns k % 2147483563*69069+104723*((k:Int)+1)) % 2147483563
 let c:=(c*c+c / 3) % 2147483399
 (c*c+c / 7) % 2147483647 / 11 % m
theorem ay0{i:Int}(h0:0<=i) (h:i < 4294967296):F6 i:=K7 (k:=32) (by omega) (by decide)
theorem ak1(ns:List Int) (k:Nat) (m:Int) (hn:ns.length<=63) (hk:k < 2 ^ 60) (hm:0 < m):B5 [.list (ns.map PyData.int),.int k,.int m]=some (.int (ac2 ns k m)):=by
 refine M6 (ρ:=[‹.list (ns.map PyData.int)›,‹.int k›,‹.int m›,none]) rfl ?_
 have c0:∀x:Int,F6 (x % 2147483563):=fun x=>ay0 (by grind) (by grind)
 have c1:∀x:Int,F6 (x % 2147483399):=fun x=>ay0 (by grind) (by grind)
 have sk:F6 ((k:Int)+1):=K7 (k:=61) (by grind) (by decide)
 have s1:F6 69069:=K7 (k:=17) (by decide) (by decide)
 have s2:F6 104723:=K7 (k:=17) (by decide) (by decide)
 have s3:F6 3:=K7 (k:=2) (by decide) (by decide)
 have s7:F6 7:=K7 (k:=3) (by decide) (by decide)
 have s11:F6 11:=K7 (k:=4) (by decide) (by decide)
 wp_walk using evA,ar7,bV0 ns k hn hk,aA4 (show(0:Int) < 2147483563 by decide),aA4 (show(0:Int) < 2147483399 by decide),aA4 (show(0:Int) < 2147483647 by decide),aA4 hm,P6 (c0 _) s1,P6 s2 sk,P6 (c0 _) (c0 _),P6 (c1 _) (c1 _),aP5 (show(0:Int) < 3 by decide) s3,aP5 (show(0:Int) < 7 by decide) s7,aP5 (show(0:Int) < 11 by decide) s11
 rfl
theorem aj1(ns:List Int) (k:Nat) (m:Int) (hm:0 < m):0<=ac2 ns k m/\ac2 ns k m < m:=by
 unfold ac2
 exact⟨Int.emod_nonneg _ (by omega),Int.emod_lt_of_pos _ hm⟩
structure IsSh (k:Nat) (r:Rat):Prop where
 bd:Bd k r
 le:r<=1
theorem aT8{a b:Nat}(hb:0 < b) (h:a<=b):mkRat (a:Int) b<=1:=by
 rw[Rat.le_iff,Rat.num_mkRat,Rat.den_mkRat,if_neg (by omega),if_neg (by omega)]
 have e0:(1:Rat).num=1:=rfl
 have e1:(1:Rat).den=1:=rfl
 rw[e0,e1]
 have:a / b.gcd a<=b / b.gcd a:=Nat.div_le_div_right h
 simp
 exact_mod_cast this
theorem ak0(ns:List Int) (at':Nat) (hn:ns.length<=63) (hk:at' < 2 ^ 40):∃r,o7 [.list (ns.map PyData.int),.int at']=some (fr r)/\IsSh 4 r:=by
 obtain⟨u0,u1⟩:=aj1 ns at' 12 (by decide)
 obtain⟨u,hu⟩:∃u:Nat,(1:Int)+ac2 ns at' 12=u/\0 < u/\u<=12:=⟨(1+ac2 ns at' 12).toNat,by grind,by grind,by grind⟩
 obtain⟨t0,t1⟩:=aj1 ns (at'+1) ((u:Int)+1) (by grind)
 obtain⟨t,ht⟩:∃t:Nat,ac2 ns (at'+1) ((u:Int)+1)=t/\t<=u:=⟨(ac2 ns (at'+1) ((u:Int)+1)).toNat,by grind,by grind⟩
 obtain⟨p0,p1⟩:=aj1 ns (at'+2) 5 (by decide)
 have hs:IsSh 4 (mkRat (t:Int) u):=⟨Bd.of (by grind) (by grind) (by grind),aT8 (by grind) (by grind)⟩
 have e1:=ak1 ns at' 12 hn (by grind) (by decide)
 have e2:=ak1 ns (at'+1) ((u:Int)+1) hn (by grind) (by grind)
 have e3:=ak1 ns (at'+2) 5 hn (by grind) (by decide)
 have e4:=bo3 t u 4 (by grind) (by grind) (by decide)
 have c1:((at':Int)+1)=((at'+1:Nat):Int):=by grind
 have c2:((at':Int)+2)=((at'+2:Nat):Int):=by grind
 rw[ht.1]at e2
 have pick:∀(j:Int),0<=j->j < 5->∃r,L2.atI [fr (mkRat (t:Int) u),fr (mkRat (t:Int) u),fr (mkRat (t:Int) u),.tuple [.int 0,.int 1],.tuple [.int 1,.int 1]] j=some (fr r)/\IsSh 4 r:=fun j h0 h5=>by
  have:j=0\/j=1\/j=2\/j=3\/j=4:=by grind
  rcases this with rfl|rfl|rfl|rfl|rfl
  ·exact⟨_,rfl,hs⟩
  ·exact⟨_,rfl,hs⟩
  ·exact⟨_,rfl,hs⟩
  ·exact⟨0,rfl,Bd.zero.mono (by decide),by decide⟩
  ·exact⟨1,rfl,Bd.one.mono (by decide),by decide⟩
 obtain⟨r,hr1,hr2⟩:=pick _ p0 p1
 refine⟨r,M6 (ρ:=[‹.list (ns.map PyData.int)›,‹.int at'›,none,none]) rfl ?_,hr2⟩
 wp_walk using evA,ar6,e1,hu.1,c1,c2,e2,e3,e4,hr1
end Sh
namespace Sh
open PySem G L2
def sp(c x y z:Rat):D:=.tuple [fr c,fr x,fr y,fr z]
structure Spot (k:Nat) (c x y z:Rat):Prop where
 hc:IsSh k c
 hx:Bd k x
 hy:Bd k y
 hz:Bd k z
 xc:x<=c
 yc:y<=c
 zc:z<=c
theorem j7{c r:Rat}(hc:0<=c) (hr:r<=1):c*r<=c:=by
 have:=Rat.mul_le_mul_of_nonneg_right hr hc
 grind
theorem ch9:V1 0 3=[.int 0,.int 1,.int 2]:=rfl
theorem bB2(ns:List Int) (k:Nat) (hn:ns.length<=63) (hk:k < 2 ^ 30):∃c a0 a1 a2,Y9 [.list (ns.map PyData.int),.int k]=some (sp c (c*a0) (c*a1) (c*a2))/\IsSh 4 c/\IsSh 4 a0/\IsSh 4 a1/\IsSh 4 a2:=by
 obtain⟨c,ec,hc⟩:=ak0 ns k hn (by grind)
 obtain⟨a0,e0,h0⟩:=ak0 ns (k+3) hn (by grind)
 obtain⟨a1,e1,h1⟩:=ak0 ns (k+6) hn (by grind)
 obtain⟨a2,e2,h2⟩:=ak0 ns (k+9) hn (by grind)
 refine⟨c,a0,a1,a2,?_,hc,h0,h1,h2⟩
 refine M6 (ρ:=[‹.list (ns.map PyData.int)›,‹.int k›,none]) rfl ?_
 have i0:(k:Int)+3+3*0=((k+3:Nat):Int):=by grind
 have i1:(k:Int)+3+3*1=((k+6:Nat):Int):=by grind
 have i2:(k:Int)+3+3*2=((k+9:Nat):Int):=by grind
 have s0:F6 0:=K7 (k:=2) (by decide) (by decide)
 have s1:F6 1:=K7 (k:=2) (by decide) (by decide)
 have s2:F6 2:=K7 (k:=2) (by decide) (by decide)
 have s3:F6 3:=K7 (k:=2) (by decide) (by decide)
 have m0:=P6 s3 s0
 have m1:=P6 s3 s1
 have m2:=P6 s3 s2
 have r3:((-(2 ^ 62):Int)<=3/\(3:Int) < 2 ^ 62):=by decide
 have l3:([PyData.int 0,.int 1,.int 2]:List D).length<=16777216:=by decide
 have ct:∀a b c d:D,a9 (.tuple [a]) (.tuple [b,c,d])=some (.tuple [a,b,c,d]):=fun a b c d=>rfl
 wp_walk using evA,aE1,ec,r3,and_self,ch9,l3,m0,m1,m2,i0,i1,i2,e0,e1,e2,aa5 hc.bd h0.bd (by decide),aa5 hc.bd h1.bd (by decide),aa5 hc.bd h2.bd (by decide),ct,sp
end Sh
namespace Sh
open PySem G L2
theorem B2{x y:Str}{b:Bool}(hx:PyData.canLay0 (.str x)=true) (hy:PyData.canLay0 (.str y)=true) (e:(x==y)=b):eqD (.str x) (.str y)=some (.bool b):=by
 unfold eqD
 have s:∀z:Str,PyData.canLay0 (.str z)=true->SeqAt.shaped (.str z)=true:=fun z h=>by unfold SeqAt.shaped;rw[h];rfl
 rw[if_pos ⟨s x hx,s y hy⟩]
 show some (PyData.bool (x==y))=_
 rw[e]
theorem U4{x y:Str}{b:Bool}(hx:PyData.canLay0 (.str x)=true) (hy:PyData.canLay0 (.str y)=true) (e:(!(x==y))=b):neD (.str x) (.str y)=some (.bool b):=by
 unfold neD
 have s:∀z:Str,PyData.canLay0 (.str z)=true->SeqAt.shaped (.str z)=true:=fun z h=>by unfold SeqAt.shaped;rw[h];rfl
 rw[if_pos ⟨s x hx,s y hy⟩]
 show some (PyData.bool (!(x==y)))=_
 rw[e]
theorem J3:eqD (.str "over") (.str "over")=some (.bool true):=B2 (by decide +kernel) (by decide +kernel) (by decide +kernel)
theorem M9:eqD (.str "over") (.str "multiply")=some (.bool false):=B2 (by decide +kernel) (by decide +kernel) (by decide +kernel)
theorem D5:eqD (.str "over") (.str "screen")=some (.bool false):=B2 (by decide +kernel) (by decide +kernel) (by decide +kernel)
theorem J2:eqD (.str "over") (.str "plus")=some (.bool false):=B2 (by decide +kernel) (by decide +kernel) (by decide +kernel)
theorem J4:eqD (.str "over") (.str "atop")=some (.bool false):=B2 (by decide +kernel) (by decide +kernel) (by decide +kernel)
theorem L0:eqD (.str "over") (.str "cut")=some (.bool false):=B2 (by decide +kernel) (by decide +kernel) (by decide +kernel)
theorem N4:eqD (.str "multiply") (.str "over")=some (.bool false):=B2 (by decide +kernel) (by decide +kernel) (by decide +kernel)
theorem Q1:eqD (.str "multiply") (.str "multiply")=some (.bool true):=B2 (by decide +kernel) (by decide +kernel) (by decide +kernel)
theorem J5:eqD (.str "multiply") (.str "screen")=some (.bool false):=B2 (by decide +kernel) (by decide +kernel) (by decide +kernel)
theorem N3:eqD (.str "multiply") (.str "plus")=some (.bool false):=B2 (by decide +kernel) (by decide +kernel) (by decide +kernel)
theorem N5:eqD (.str "multiply") (.str "atop")=some (.bool false):=B2 (by decide +kernel) (by decide +kernel) (by decide +kernel)
theorem O5:eqD (.str "multiply") (.str "cut")=some (.bool false):=B2 (by decide +kernel) (by decide +kernel) (by decide +kernel)
theorem D1:eqD (.str "screen") (.str "over")=some (.bool false):=B2 (by decide +kernel) (by decide +kernel) (by decide +kernel)
theorem G9:eqD (.str "screen") (.str "multiply")=some (.bool false):=B2 (by decide +kernel) (by decide +kernel) (by decide +kernel)
theorem B7:eqD (.str "screen") (.str "screen")=some (.bool true):=B2 (by decide +kernel) (by decide +kernel) (by decide +kernel)
theorem D0:eqD (.str "screen") (.str "plus")=some (.bool false):=B2 (by decide +kernel) (by decide +kernel) (by decide +kernel)
theorem D2:eqD (.str "screen") (.str "atop")=some (.bool false):=B2 (by decide +kernel) (by decide +kernel) (by decide +kernel)
theorem E9:eqD (.str "screen") (.str "cut")=some (.bool false):=B2 (by decide +kernel) (by decide +kernel) (by decide +kernel)
theorem J0:eqD (.str "plus") (.str "over")=some (.bool false):=B2 (by decide +kernel) (by decide +kernel) (by decide +kernel)
theorem M8:eqD (.str "plus") (.str "multiply")=some (.bool false):=B2 (by decide +kernel) (by decide +kernel) (by decide +kernel)
theorem D4:eqD (.str "plus") (.str "screen")=some (.bool false):=B2 (by decide +kernel) (by decide +kernel) (by decide +kernel)
theorem I0:eqD (.str "plus") (.str "plus")=some (.bool true):=B2 (by decide +kernel) (by decide +kernel) (by decide +kernel)
theorem J1:eqD (.str "plus") (.str "atop")=some (.bool false):=B2 (by decide +kernel) (by decide +kernel) (by decide +kernel)
theorem K9:eqD (.str "plus") (.str "cut")=some (.bool false):=B2 (by decide +kernel) (by decide +kernel) (by decide +kernel)
theorem J9:eqD (.str "atop") (.str "over")=some (.bool false):=B2 (by decide +kernel) (by decide +kernel) (by decide +kernel)
theorem N7:eqD (.str "atop") (.str "multiply")=some (.bool false):=B2 (by decide +kernel) (by decide +kernel) (by decide +kernel)
theorem D6:eqD (.str "atop") (.str "screen")=some (.bool false):=B2 (by decide +kernel) (by decide +kernel) (by decide +kernel)
theorem J8:eqD (.str "atop") (.str "plus")=some (.bool false):=B2 (by decide +kernel) (by decide +kernel) (by decide +kernel)
theorem K0:eqD (.str "atop") (.str "atop")=some (.bool true):=B2 (by decide +kernel) (by decide +kernel) (by decide +kernel)
theorem L6:eqD (.str "atop") (.str "cut")=some (.bool false):=B2 (by decide +kernel) (by decide +kernel) (by decide +kernel)
theorem L4:eqD (.str "cut") (.str "over")=some (.bool false):=B2 (by decide +kernel) (by decide +kernel) (by decide +kernel)
theorem O6:eqD (.str "cut") (.str "multiply")=some (.bool false):=B2 (by decide +kernel) (by decide +kernel) (by decide +kernel)
theorem F5:eqD (.str "cut") (.str "screen")=some (.bool false):=B2 (by decide +kernel) (by decide +kernel) (by decide +kernel)
theorem L3:eqD (.str "cut") (.str "plus")=some (.bool false):=B2 (by decide +kernel) (by decide +kernel) (by decide +kernel)
theorem L5:eqD (.str "cut") (.str "atop")=some (.bool false):=B2 (by decide +kernel) (by decide +kernel) (by decide +kernel)
theorem N6:eqD (.str "cut") (.str "cut")=some (.bool true):=B2 (by decide +kernel) (by decide +kernel) (by decide +kernel)
theorem G7:eqD (.str "turn") (.str "turn")=some (.bool true):=B2 (by decide +kernel) (by decide +kernel) (by decide +kernel)
theorem G8:eqD (.str "turn") (.str "grey")=some (.bool false):=B2 (by decide +kernel) (by decide +kernel) (by decide +kernel)
theorem E8:eqD (.str "turn") (.str "round")=some (.bool false):=B2 (by decide +kernel) (by decide +kernel) (by decide +kernel)
theorem J6:eqD (.str "grey") (.str "turn")=some (.bool false):=B2 (by decide +kernel) (by decide +kernel) (by decide +kernel)
theorem J7:eqD (.str "grey") (.str "grey")=some (.bool true):=B2 (by decide +kernel) (by decide +kernel) (by decide +kernel)
theorem F4:eqD (.str "grey") (.str "round")=some (.bool false):=B2 (by decide +kernel) (by decide +kernel) (by decide +kernel)
theorem F0:eqD (.str "round") (.str "turn")=some (.bool false):=B2 (by decide +kernel) (by decide +kernel) (by decide +kernel)
theorem F3:eqD (.str "round") (.str "grey")=some (.bool false):=B2 (by decide +kernel) (by decide +kernel) (by decide +kernel)
theorem D3:eqD (.str "round") (.str "round")=some (.bool true):=B2 (by decide +kernel) (by decide +kernel) (by decide +kernel)
theorem G3:neD (.str "turn") (.str "turn")=some (.bool false):=U4 (by decide +kernel) (by decide +kernel) (by decide +kernel)
theorem G4:neD (.str "turn") (.str "grey")=some (.bool true):=U4 (by decide +kernel) (by decide +kernel) (by decide +kernel)
theorem E3:neD (.str "turn") (.str "round")=some (.bool true):=U4 (by decide +kernel) (by decide +kernel) (by decide +kernel)
theorem G5:neD (.str "grey") (.str "turn")=some (.bool true):=U4 (by decide +kernel) (by decide +kernel) (by decide +kernel)
theorem G6:neD (.str "grey") (.str "grey")=some (.bool false):=U4 (by decide +kernel) (by decide +kernel) (by decide +kernel)
theorem E7:neD (.str "grey") (.str "round")=some (.bool true):=U4 (by decide +kernel) (by decide +kernel) (by decide +kernel)
theorem E4:neD (.str "round") (.str "turn")=some (.bool true):=U4 (by decide +kernel) (by decide +kernel) (by decide +kernel)
theorem E6:neD (.str "round") (.str "grey")=some (.bool true):=U4 (by decide +kernel) (by decide +kernel) (by decide +kernel)
theorem C9:neD (.str "round") (.str "round")=some (.bool false):=U4 (by decide +kernel) (by decide +kernel) (by decide +kernel)
inductive Man where
 | over|mult|screen|plus|atop|cut
def Man.s:Man->Str
 | .over => "over"
 | .mult => "multiply"
 | .screen => "screen"
 | .plus => "plus"
 | .atop => "atop"
 | .cut => "cut"
def aD5(r:Rat):Rat:=if r<=1 then r else 1
def Man.cov:Man->Rat->Rat->Rat
 | .plus,c,d=>aD5 (c+d)
 | .atop,c,d=>d
 | .cut,c,d=>d*(1 - c)
 | _,c,d=>c+d - c*d
def Man.col:Man->Rat->Rat->Rat->Rat->Rat
 | .over,c,d,x,y=>x+y*(1 - c)
 | .mult,c,d,x,y=>x*y+x*(1 - d)+y*(1 - c)
 | .screen,c,d,x,y=>x+y - x*y
 | .plus,c,d,x,y=>aD5 (x+y)
 | .atop,c,d,x,y=>x*d+y*(1 - c)
 | .cut,c,d,x,y=>y*(1 - c)
theorem au4{k:Nat}{c:Rat}(h:IsSh k c):IsSh (k+1) (1 - c):=by
 have b:=Bd.one.sub h.bd h.le
 rw[Nat.add_comm]at b
 exact⟨b,by have:=h.bd.nn;grind⟩
theorem al4{a b:Rat}(ha:0<=a) (hb:0<=b) (ha1:a<=1) (hb1:b<=1):a*b<=a+b:=by
 have:=Rat.mul_le_mul_of_nonneg_right ha1 hb
 grind
theorem bn1{k:Nat}{r:Rat}(h:Bd k r) (hk:1<=k):IsSh k (aD5 r):=by
 unfold aD5
 split
 ·rename_i l;exact⟨h,l⟩
 ·exact⟨Bd.one.mono hk,Rat.le_refl⟩
theorem bo4(m:Man) {k:Nat}{c d:Rat}(hc:IsSh k c) (hd:IsSh k d) (l:6*k+4<=8000):U0 [.str m.s,fr c,fr d]=some (fr (m.cov c d))/\Bd (6*k+4) (m.cov c d):=by
 have r1:=af8 hc.bd (by grind) hc.le
 have h1:=(au4 hc)
 have ml:=al4 hc.bd.nn hd.bd.nn hc.le hd.le
 have e1:=S5 hc.bd hd.bd (by grind)
 have e2:=R9 hc.bd hd.bd (by grind)
 have b1:=hc.bd.add hd.bd
 have b2:=hc.bd.mul hd.bd
 have e3:=Y0 b1 b2 (by grind) ml
 have e4:=aE4 b1 (by grind)
 have e5:=R9 hd.bd h1.bd (by grind)
 cases m with
 | plus=>exact⟨M6 (ρ:=[‹.str "plus"›,‹fr c›,‹fr d›]) rfl (by wp_walk using evA,L7,J3,M9,D5,J2,J4,L0,N4,Q1,J5,N3,N5,O5,D1,G9,B7,D0,D2,E9,J0,M8,D4,I0,J1,K9,J9,N7,D6,J8,K0,L6,L4,O6,F5,L3,L5,N6,G7,G8,E8,J6,J7,F4,F0,F3,D3,G3,G4,E3,G5,G6,E7,E4,E6,C9,e1,e4;rfl),(bn1 b1 (by grind)).bd.mono (by grind)⟩
 | atop=>exact⟨M6 (ρ:=[‹.str "atop"›,‹fr c›,‹fr d›]) rfl (by wp_walk using evA,L7,J3,M9,D5,J2,J4,L0,N4,Q1,J5,N3,N5,O5,D1,G9,B7,D0,D2,E9,J0,M8,D4,I0,J1,K9,J9,N7,D6,J8,K0,L6,L4,O6,F5,L3,L5,N6,G7,G8,E8,J6,J7,F4,F0,F3,D3,G3,G4,E3,G5,G6,E7,E4,E6,C9;rfl),hd.bd.mono (by grind)⟩
 | cut=>exact⟨M6 (ρ:=[‹.str "cut"›,‹fr c›,‹fr d›]) rfl (by wp_walk using evA,L7,J3,M9,D5,J2,J4,L0,N4,Q1,J5,N3,N5,O5,D1,G9,B7,D0,D2,E9,J0,M8,D4,I0,J1,K9,J9,N7,D6,J8,K0,L6,L4,O6,F5,L3,L5,N6,G7,G8,E8,J6,J7,F4,F0,F3,D3,G3,G4,E3,G5,G6,E7,E4,E6,C9,r1,e5;rfl),(hd.bd.mul h1.bd).mono (by grind)⟩
 | over=>exact⟨M6 (ρ:=[‹.str "over"›,‹fr c›,‹fr d›]) rfl (by wp_walk using evA,L7,J3,M9,D5,J2,J4,L0,N4,Q1,J5,N3,N5,O5,D1,G9,B7,D0,D2,E9,J0,M8,D4,I0,J1,K9,J9,N7,D6,J8,K0,L6,L4,O6,F5,L3,L5,N6,G7,G8,E8,J6,J7,F4,F0,F3,D3,G3,G4,E3,G5,G6,E7,E4,E6,C9,e1,e2,e3;rfl),(b1.sub b2 ml).mono (by grind)⟩
 | mult=>exact⟨M6 (ρ:=[‹.str "multiply"›,‹fr c›,‹fr d›]) rfl (by wp_walk using evA,L7,J3,M9,D5,J2,J4,L0,N4,Q1,J5,N3,N5,O5,D1,G9,B7,D0,D2,E9,J0,M8,D4,I0,J1,K9,J9,N7,D6,J8,K0,L6,L4,O6,F5,L3,L5,N6,G7,G8,E8,J6,J7,F4,F0,F3,D3,G3,G4,E3,G5,G6,E7,E4,E6,C9,e1,e2,e3;rfl),(b1.sub b2 ml).mono (by grind)⟩
 | screen=>exact⟨M6 (ρ:=[‹.str "screen"›,‹fr c›,‹fr d›]) rfl (by wp_walk using evA,L7,J3,M9,D5,J2,J4,L0,N4,Q1,J5,N3,N5,O5,D1,G9,B7,D0,D2,E9,J0,M8,D4,I0,J1,K9,J9,N7,D6,J8,K0,L6,L4,O6,F5,L3,L5,N6,G7,G8,E8,J6,J7,F4,F0,F3,D3,G3,G4,E3,G5,G6,E7,E4,E6,C9,e1,e2,e3;rfl),(b1.sub b2 ml).mono (by grind)⟩
theorem an7(m:Man) {k:Nat}{c d x y:Rat}(hc:IsSh k c) (hd:IsSh k d) (hx:IsSh k x) (hy:IsSh k y) (l:6*k+4<=8000):S4 [.str m.s,fr c,fr d,fr x,fr y]=some (fr (m.col c d x y))/\Bd (6*k+4) (m.col c d x y):=by
 have r1:=af8 hc.bd (by grind) hc.le
 have r2:=af8 hd.bd (by grind) hd.le
 have h1:=au4 hc
 have h2:=au4 hd
 have ml:=al4 hx.bd.nn hy.bd.nn hx.le hy.le
 have e1:=S5 hx.bd hy.bd (by grind)
 have e2:=R9 hx.bd hy.bd (by grind)
 have b1:=hx.bd.add hy.bd
 have b2:=hx.bd.mul hy.bd
 have e3:=Y0 b1 b2 (by grind) ml
 have e4:=aE4 b1 (by grind)
 have bt:=hy.bd.mul h1.bd
 have et:=R9 hy.bd h1.bd (by grind)
 have e6:=S5 hx.bd bt (by grind)
 have bd:=hx.bd.mul h2.bd
 have e7:=R9 hx.bd h2.bd (by grind)
 have b8:=b2.add bd
 have e8:=S5 b2 bd (by grind)
 have e9:=S5 b8 bt (by grind)
 have b10:=hx.bd.mul hd.bd
 have e10:=R9 hx.bd hd.bd (by grind)
 have e11:=S5 b10 bt (by grind)
 cases m with
 | plus=>exact⟨M6 (ρ:=[‹.str "plus"›,‹fr c›,‹fr d›,‹fr x›,‹fr y›,none]) rfl (by wp_walk using evA,K4,J3,M9,D5,J2,J4,L0,N4,Q1,J5,N3,N5,O5,D1,G9,B7,D0,D2,E9,J0,M8,D4,I0,J1,K9,J9,N7,D6,J8,K0,L6,L4,O6,F5,L3,L5,N6,G7,G8,E8,J6,J7,F4,F0,F3,D3,G3,G4,E3,G5,G6,E7,E4,E6,C9,e1,e4;rfl),(bn1 b1 (by grind)).bd.mono (by grind)⟩
 | screen=>exact⟨M6 (ρ:=[‹.str "screen"›,‹fr c›,‹fr d›,‹fr x›,‹fr y›,none]) rfl (by wp_walk using evA,K4,J3,M9,D5,J2,J4,L0,N4,Q1,J5,N3,N5,O5,D1,G9,B7,D0,D2,E9,J0,M8,D4,I0,J1,K9,J9,N7,D6,J8,K0,L6,L4,O6,F5,L3,L5,N6,G7,G8,E8,J6,J7,F4,F0,F3,D3,G3,G4,E3,G5,G6,E7,E4,E6,C9,e1,e2,e3;rfl),(b1.sub b2 ml).mono (by grind)⟩
 | over=>exact⟨M6 (ρ:=[‹.str "over"›,‹fr c›,‹fr d›,‹fr x›,‹fr y›,none]) rfl (by wp_walk using evA,K4,J3,M9,D5,J2,J4,L0,N4,Q1,J5,N3,N5,O5,D1,G9,B7,D0,D2,E9,J0,M8,D4,I0,J1,K9,J9,N7,D6,J8,K0,L6,L4,O6,F5,L3,L5,N6,G7,G8,E8,J6,J7,F4,F0,F3,D3,G3,G4,E3,G5,G6,E7,E4,E6,C9,r1,et,e6;rfl),(hx.bd.add bt).mono (by grind)⟩
 | mult=>exact⟨M6 (ρ:=[‹.str "multiply"›,‹fr c›,‹fr d›,‹fr x›,‹fr y›,none]) rfl (by wp_walk using evA,K4,J3,M9,D5,J2,J4,L0,N4,Q1,J5,N3,N5,O5,D1,G9,B7,D0,D2,E9,J0,M8,D4,I0,J1,K9,J9,N7,D6,J8,K0,L6,L4,O6,F5,L3,L5,N6,G7,G8,E8,J6,J7,F4,F0,F3,D3,G3,G4,E3,G5,G6,E7,E4,E6,C9,r1,r2,et,e2,e7,e8,e9;rfl),(b8.add bt).mono (by grind)⟩
 | atop=>exact⟨M6 (ρ:=[‹.str "atop"›,‹fr c›,‹fr d›,‹fr x›,‹fr y›,none]) rfl (by wp_walk using evA,K4,J3,M9,D5,J2,J4,L0,N4,Q1,J5,N3,N5,O5,D1,G9,B7,D0,D2,E9,J0,M8,D4,I0,J1,K9,J9,N7,D6,J8,K0,L6,L4,O6,F5,L3,L5,N6,G7,G8,E8,J6,J7,F4,F0,F3,D3,G3,G4,E3,G5,G6,E7,E4,E6,C9,r1,et,e10,e11;rfl),(b10.add bt).mono (by grind)⟩
 | cut=>exact⟨M6 (ρ:=[‹.str "cut"›,‹fr c›,‹fr d›,‹fr x›,‹fr y›,none]) rfl (by wp_walk using evA,K4,J3,M9,D5,J2,J4,L0,N4,Q1,J5,N3,N5,O5,D1,G9,B7,D0,D2,E9,J0,M8,D4,I0,J1,K9,J9,N7,D6,J8,K0,L6,L4,O6,F5,L3,L5,N6,G7,G8,E8,J6,J7,F4,F0,F3,D3,G3,G4,E3,G5,G6,E7,E4,E6,C9,r1,et;rfl),bt.mono (by grind)⟩
theorem bT1(m:Man) {c d:Rat}(hc:0<=c) (hd:0<=d) (hc1:c<=1) (hd1:d<=1):m.cov c d<=1:=by
 have p:0<=(1 - c)*(1 - d):=Rat.mul_nonneg (by grind) (by grind)
 have q:d*(1 - c)<=1*(1 - c):=Rat.mul_le_mul_of_nonneg_right hd1 (by grind)
 cases m<;>simp only[Man.cov,aD5]<;>grind
theorem aJ5(m:Man) {c d x y:Rat}(hc:0<=c) (hd:0<=d) (hc1:c<=1) (hd1:d<=1) (hx:0<=x) (hy:0<=y) (xc:x<=c) (yd:y<=d):m.col c d x y<=m.cov c d:=by
 have q1:y*(1 - c)<=d*(1 - c):=Rat.mul_le_mul_of_nonneg_right yd (by grind)
 have q2:x*(y+1 - d)<=c*(y+1 - d):=Rat.mul_le_mul_of_nonneg_right xc (by grind)
 have q3:x*d<=c*d:=Rat.mul_le_mul_of_nonneg_right xc hd
 have q4:(1 - c)*(1 - d)<=(1 - x)*(1 - d):=Rat.mul_le_mul_of_nonneg_right (by grind) (by grind)
 have q5:(1 - d)*(1 - x)<=(1 - y)*(1 - x):=Rat.mul_le_mul_of_nonneg_right (by grind) (by grind)
 cases m<;>simp only[Man.cov,Man.col,aD5]<;>grind
theorem cf7(a b c d e f:D):(List.zip [a,b,c] [d,e,f])=[(a,d),(b,e),(c,f)]:=rfl
theorem ln2(a b:D):([a,b]:List D).length=2:=rfl
theorem aJ8(m:Man) {k:Nat}{c x1 x2 x3 d y1 y2 y3:Rat}(S:Spot k c x1 x2 x3) (T:Spot k d y1 y2 y3) (l:6*k+4<=8000) :
  U9 [.str m.s,sp c x1 x2 x3,sp d y1 y2 y3]=some (sp (m.cov c d) (m.col c d x1 y1) (m.col c d x2 y2) (m.col c d x3 y3))/\Spot (6*k+4) (m.cov c d) (m.col c d x1 y1) (m.col c d x2 y2) (m.col c d x3 y3):=by
 have s1:IsSh k x1:=⟨S.hx,Rat.le_trans S.xc S.hc.le⟩
 have s2:IsSh k x2:=⟨S.hy,Rat.le_trans S.yc S.hc.le⟩
 have s3:IsSh k x3:=⟨S.hz,Rat.le_trans S.zc S.hc.le⟩
 have t1:IsSh k y1:=⟨T.hx,Rat.le_trans T.xc T.hc.le⟩
 have t2:IsSh k y2:=⟨T.hy,Rat.le_trans T.yc T.hc.le⟩
 have t3:IsSh k y3:=⟨T.hz,Rat.le_trans T.zc T.hc.le⟩
 have a0:=bo4 m S.hc T.hc l
 have a1:=an7 m S.hc T.hc s1 t1 l
 have a2:=an7 m S.hc T.hc s2 t2 l
 have a3:=an7 m S.hc T.hc s3 t3 l
 refine⟨?_,⟨⟨a0.2,bT1 m S.hc.bd.nn T.hc.bd.nn S.hc.le T.hc.le⟩,a1.2,a2.2,a3.2,aJ5 m S.hc.bd.nn T.hc.bd.nn S.hc.le T.hc.le S.hx.nn T.hx.nn S.xc T.xc,aJ5 m S.hc.bd.nn T.hc.bd.nn S.hc.le T.hc.le S.hy.nn T.hy.nn S.yc T.yc,aJ5 m S.hc.bd.nn T.hc.bd.nn S.hc.le T.hc.le S.hz.nn T.hz.nn S.zc T.zc⟩⟩
 refine M6 (ρ:=[‹.str m.s›,‹sp c x1 x2 x3›,‹sp d y1 y2 y3›,none,none,none]) rfl ?_
 have f3:∀a b c:D,([a,b,c]:List D).length<=16777216:=fun a b c=>by show 3<=16777216;decide
 wp_walk using evA,ar8,sp,cf7,f3,ln2,a0.1,a1.1,a2.1,a3.1
end Sh
namespace Sh
open PySem G L2
end Sh
namespace Sh
open PySem PySem.Spec PyProof.Rows L2 G
end Sh
namespace Sh
open PySem G L2
end Sh
namespace Sh
open PySem G L2
theorem z3(a b c d e f:D):(List.zip [a,b,c] [d,e,f]).map (fun(x,y)=>PyData.tuple [x,y])=[.tuple [a,d],.tuple [b,e],.tuple [c,f]]:=rfl
end Sh
namespace Sh
open PySem PySem.Spec PyProof.Rows L2 G
def Y7:DS:=(O0 (c9 3 (R5 2 [0] (ah7 (qE (dIx (C2 1) ⇑2)) (qE (dIx (C2 2) ⇑2))) (T7 2 (G0 (N9 0) (G0 (N9 1) V5))) U2 (B1 U9 (A0 (A2 2) (A0 (A2 0) (A0 (A2 1) A6)))))) (L8 (O7 (A0 (dIx (C2 1) ⇑0) (A0 (dIx (C2 1) ⇑1) (A0 (ac6 (C2 3)) A6))))))
def C3:List D->Option D:=U3 Y7 4
def af5:DS:=(O0 (c9 4 (R5 1 [0,1] (V4 (A9 X3 (A2 2) (A2 3))) (N9 0) U2 (B1 Y9 (A0 (A2 1) (A0 (A9 P3 (A2 2) (A9 X3 ⇑12 (A2 0))) A6))))) (O0 (sIf (tB2 eqD (B1 B5 (A0 (A2 0) (A0 (A9 P3 (A2 1) ⇑7) (A0 ⇑3 A6)))) ⇑0) (Q7 4 (A9 X3 (ah9 (A2 4) W6 (W5 ⇑1)) (A9 X3 (A2 2) (A2 3)))) o8) (L8 (O7 (A0 (A2 2) (A0 (A2 3) (A0 (ac6 (C2 4)) A6)))))))
def U8:List D->Option D:=U3 af5 5
end Sh
namespace Sh
open PySem G L2
structure Q4 where
 c:Rat
 x:Rat
 y:Rat
 z:Rat
def Q4.d(q:Q4):D:=sp q.c q.x q.y q.z
def Q4.ok(k:Nat) (q:Q4):Prop:=Spot k q.c q.x q.y q.z
def q0:Q4:=⟨0,0,0,0⟩
def Ly(n:Nat) (d:D):Prop:=PyData.canLay0 d=true/\PyData.depth d<=n
theorem aK1{n:Nat}:∀xs:List D,(∀x∈xs,Ly n x)->PyData.canLayAll0 xs=true/\PyData.depthAll xs<=n
 | [],_=>⟨rfl,Nat.zero_le _⟩
 | x::xs,g=>by
  have a:=g x (List.mem_cons_self ..)
  have b:=aK1 xs fun y hy=>g y (List.mem_cons_of_mem _ hy)
  refine⟨?_,?_⟩
  ·show(PyData.canLay0 x&&PyData.canLayAll0 xs)=true
   rw[a.1,b.1];rfl
  ·show max (PyData.depth x) (PyData.depthAll xs)<=n
   have:=a.2;have:=b.2;grind
theorem Ly.tup{n:Nat}{xs:List D}(h:∀x∈xs,Ly n x):Ly (n+1) (.tuple xs):=⟨(aK1 xs h).1,Nat.succ_le_succ (aK1 xs h).2⟩
theorem Ly.int(n:Nat) (i:Int):Ly n (.int i):=⟨rfl,Nat.zero_le _⟩
theorem Ly.shaped{n:Nat}{d:D}(g:Ly n d) (hn:n<=64):SeqAt.shaped d=true:=by
 unfold SeqAt.shaped
 rw[g.1,Bool.true_and]
 exact decide_eq_true (by have:=g.2;grind)
theorem Ly.q4(q:Q4) (n:Nat):Ly (n+2) q.d:=⟨rfl,by show 2<=n+2;grind⟩
theorem Ly.spots(l:List Q4) (n:Nat):Ly (n+3) (.tuple (l.map Q4.d)):=Ly.tup fun x hx=>by
 obtain⟨q,_,rfl⟩:=List.mem_map.mp hx
 exact Ly.q4 q n
theorem aN9{n:Nat}{d:D}(g:Ly n d) (hn:n<=64):neD d d=some (.bool false):=by
 unfold neD
 rw[if_pos ⟨g.shaped hn,g.shaped hn⟩,SeqAt.eqv_refl d g.1];rfl
def shD(w h:Nat) (l:List Q4):D:=.tuple [.int w,.int h,.tuple (l.map Q4.d)]
theorem Ly.sheet(w h:Nat) (l:List Q4):Ly 4 (shD w h l):=Ly.tup fun x hx=>by
 simp only[List.mem_cons,List.not_mem_nil,or_false]at hx
 rcases hx with rfl|rfl|rfl
 ·exact Ly.int _ _
 ·exact Ly.int _ _
 ·exact Ly.spots l 0
structure ShOk (k:Nat) (w h:Nat) (l:List Q4):Prop where
 w1:1<=w
 w8:w<=8
 h1:1<=h
 h8:h<=8
 len:l.length=w*h
 ok:∀q∈l,q.ok k
theorem bE8{α:Type}{e:DE}{r:Rho}{h f:α->D}:∀(l:List α) (x:Option B),(∀a∈l,e (‹h a›::r)=some (f a))->g8 (N9 0) U2 e (l.map h) (x::r)=some (l.map f)
 | [],_,_=>rfl
 | a::l,x,H=>by
  simp only[xmc,g8,N9,xw0,xbs,U2,if_true,H a (List.mem_cons_self ..),bE8 l _ (fun b hb=>H b (List.mem_cons_of_mem _ hb)),xms]
theorem bE7{α:Type}{e:DE}{r:Rho}{h1 h2 f:α->D}:∀(l:List α) (x y:Option B),(∀a∈l,e (‹h1 a›::‹h2 a›::r)=some (f a))->g8 (T7 2 (G0 (N9 0) (G0 (N9 1) V5))) U2 e (l.map fun a=>.tuple [h1 a,h2 a]) (x::y::r)=some (l.map f)
 | [],_,_,_=>rfl
 | a::l,x,y,H=>by
  have hl:([h1 a,h2 a]:List D).length=2:=rfl
  simp only[xmc,g8,T7,G0,V5,N9,hl,if_true,xw0,xw1,xbs,U2,if_true,H a (List.mem_cons_self ..),bE7 l _ _ (fun b hb=>H b (List.mem_cons_of_mem _ hb)),xms]
theorem bO4{α:Type}{caps:List Nat}{src:Rho->Option (List D)}{e:DE}{ρ r:Rho}{l:List α}{h f:α->D}(hr:af1 1 caps ρ=none::r) (hs:src ρ=some (l.map h)) (hl:l.length<=1000) (H:∀a∈l,e (‹h a›::r)=some (f a)) :
  R5 1 caps src (N9 0) U2 e ρ=some (l.map f):=by
 unfold R5
 rw[hs,xbs,if_pos (by rw[List.length_map];grind),hr,bE8 l _ H]
theorem bf1{α:Type}{caps:List Nat}{src:Rho->Option (List D)}{e:DE}{ρ r:Rho}{l:List α}{h1 h2 f:α->D}(hr:af1 2 caps ρ=none::none::r) (hs:src ρ=some (l.map fun a=>.tuple [h1 a,h2 a])) (hl:l.length<=1000) (H:∀a∈l,e (‹h1 a›::‹h2 a›::r)=some (f a)) :
  R5 2 caps src (T7 2 (G0 (N9 0) (G0 (N9 1) V5))) U2 e ρ=some (l.map f):=by
 unfold R5
 rw[hs,xbs,if_pos (by rw[List.length_map];omega),hr,bE7 l _ _ H]
theorem bt0{f:DE}{ρ:Rho}{n:Nat}(h:f ρ=some (.int n)) (hn:n<=1000):V4 f ρ=some ((List.range n).map fun k:Nat=>PyData.int k):=by
 unfold V4
 rw[h,xbs]
 show(if -(2 ^ 62)<=(n:Int)/\(n:Int) < 2 ^ 62 then some (V1 0 n) else none)=_
 rw[if_pos ⟨by grind,by grind⟩]
 unfold V1
 congr 1
 have e:((n:Int) - 0).toNat=n:=by grind
 rw[e]
 apply List.map_congr_left
 intro k _
 congr 1
 grind
theorem bO7{i j:Int}(h1:F6 i) (h2:F6 j):X3 (.int i) (.int j)=some (.int (i*j)):=P6 h1 h2
theorem ab9{i j:Nat}(h1:i<=1000) (h2:j<=1000):X3 (.int i) (.int j)=some (.int ((i*j:Nat):Int)):=by
 rw[bO7 (Y1 (k:=10) (by grind) (by decide)) (Y1 (k:=10) (by grind) (by decide)),Int.natCast_mul]
theorem bR5{n:Nat}{i:Int}(h0:0<=i) (h1:i < n):ixN n i=some i.toNat:=by unfold ixN;rw[if_pos h0,if_pos h1]
def Man.bl(m:Man) (a b:Q4):Q4:=⟨m.cov a.c b.c,m.col a.c b.c a.x b.x,m.col a.c b.c a.y b.y,m.col a.c b.c a.z b.z⟩
theorem aQ7(m:Man) {k:Nat}{a b:Q4}(S:a.ok k) (T:b.ok k) (l:6*k+4<=8000):U9 [.str m.s,a.d,b.d]=some (m.bl a b).d/\(m.bl a b).ok (6*k+4):=aJ8 m S T l
def blL(m:Man) (a b:List Q4):List Q4:=(a.zip b).map fun p=>m.bl p.1 p.2
theorem bB3(a b:List Q4):((a.map Q4.d).zip (b.map Q4.d)).map (fun(x,y)=>PyData.tuple [x,y])=(a.zip b).map fun p=>.tuple [p.1.d,p.2.d]:=by
 rw[List.zip_map,List.map_map];rfl
theorem bT6(m:Man) {k w h:Nat}{a b:List Q4}(S:ShOk k w h a) (T:ShOk k w h b) (l:6*k+4<=8000):C3 [.str m.s,shD w h a,shD w h b]=some (shD w h (blL m a b))/\ShOk (6*k+4) w h (blL m a b):=by
 have wh:w*h<=64:=Nat.mul_le_mul S.w8 S.h8
 have hz:(a.zip b).length=w*h:=by rw[List.length_zip,S.len,T.len,Nat.min_self]
 refine⟨?_,S.w1,S.w8,S.h1,S.h8,by unfold blL;rw[List.length_map,hz],fun q hq=>?_⟩
 ·refine M6 (ρ:=[‹.str m.s›,‹shD w h a›,‹shD w h b›,none]) rfl ?_
  have g:ah7 (qE (dIx (C2 1) ⇑2)) (qE (dIx (C2 2) ⇑2)) [‹.str m.s›,‹shD w h a›,‹shD w h b›,none]=some (((a.map Q4.d).zip (b.map Q4.d)).map (fun(x,y)=>PyData.tuple [x,y])):=rfl
  have c:R5 2 [0] (ah7 (qE (dIx (C2 1) ⇑2)) (qE (dIx (C2 2) ⇑2))) (T7 2 (G0 (N9 0) (G0 (N9 1) V5))) U2 (B1 U9 (A0 (A2 2) (A0 (A2 0) (A0 (A2 1) A6)))) [‹.str m.s›,‹shD w h a›,‹shD w h b›,none]=some ((blL m a b).map Q4.d):=by
   rw[bf1 (l:=a.zip b) (h1:=fun p=>p.1.d) (h2:=fun p=>p.2.d) (f:=fun p=>(m.bl p.1 p.2).d) (r:=[‹.str m.s›]) rfl (by rw[g,bB3]) (by omega) ?_]
   ·unfold blL;rw[List.map_map];rfl
   ·intro p hp
    have pa:=S.ok p.1 (List.of_mem_zip hp).1
    have pb:=T.ok p.2 (List.of_mem_zip hp).2
    wp_walk using evD,(aQ7 m pa pb l).1
  have g0:∀v:Option B,dIx (C2 1) ⇑0 [‹.str m.s›,‹shD w h a›,‹shD w h b›,v]=some (.int w):=fun _=>rfl
  have g1:∀v:Option B,dIx (C2 1) ⇑1 [‹.str m.s›,‹shD w h a›,‹shD w h b›,v]=some (.int h):=fun _=>rfl
  simp only[Y7,O0,c9,c,g0,g1,L8,O7,A0,A6,ac6,C2,xw0,xw1,xms,xbs,xg0,xg1]
  rfl
 ·obtain⟨p,hp,rfl⟩:=List.mem_map.mp hq
  exact(aQ7 m (S.ok p.1 (List.of_mem_zip hp).1) (T.ok p.2 (List.of_mem_zip hp).2) l).2
end Sh
namespace Sh
open PySem G L2
abbrev scr(ns:List Int):D:=.list (ns.map PyData.int)
theorem am7(ns:List Int) (k m:Nat) (hn:ns.length<=63) (hk:k < 2 ^ 60) (hm:0 < m):∃n:Nat,B5 [scr ns,.int k,.int m]=some (.int n)/\n < m:=by
 have a:=ak1 ns k m hn hk (by grind)
 have b:=aj1 ns k m (by grind)
 refine⟨(ac2 ns k m).toNat,?_,by grind⟩
 rw[a]
 congr 2
 grind
theorem aP8{h:D->D->Option D}{f g:DE}{ρ:Rho}{x y:D}(h1:f ρ=some x) (h2:g ρ=some y):A9 h f g ρ=h x y:=by unfold A9;rw[h1,xbs,h2,xbs]
theorem Y2{α:Type}(a:α):∀n:Nat,(List.replicate n [a]).flatten=List.replicate n a
 | 0=>rfl
 | n+1=>by rw[List.replicate_succ,List.flatten_cons,Y2 a n];rfl
theorem bf2{xs:List D}{n:Nat}(hn:n<=1000) (hx:xs.length<=1000):X3 (.list xs) (.int n)=some (.list (List.replicate n xs).flatten):=by
 show(if 0<=(n:Int)/\(n:Int) < 1000000/\xs.length*((n:Int)).toNat<=16777216 then some (PyData.list (List.replicate ((n:Int)).toNat xs).flatten) else none)=_
 rw[Int.toNat_natCast,if_pos ⟨by omega,by omega,Nat.le_trans (Nat.mul_le_mul hx hn) (by decide)⟩]
theorem ck3(a:D) (r:List D):af0 (a::r) none (some 1)=[a]:=by
 unfold af0
 have h1:HT.sIx (a::r).length 0 none=0:=by simp[HT.sIx]
 have h2:HT.sIx (a::r).length (a::r).length (some 1)=1:=by simp only[HT.sIx,List.length_cons];first|omega|(simp;omega)|simp
 rw[h1,h2];rfl
theorem aA9{P:Q4->Prop}(ns:List Int) (at' w h:Nat) (hn:ns.length<=63) (ha:at' < 2 ^ 20) (w1:1<=w) (w8:w<=8) (h1:1<=h) (h8:h<=8) (hf:∃f:Nat->Q4,∀k,k < 1000->Y9 [scr ns,.int ((at'+12*k:Nat):Int)]=some (f k).d/\P (f k)):∃l:List Q4,U8 [scr ns,.int at',.int w,.int h]=some (shD w h l)/\l.length=w*h/\∀q∈l,P q:=by
 obtain⟨f,hf⟩:=hf
 have wh:w*h<=64:=Nat.mul_le_mul w8 h8
 have wh1:1<=w*h:=Nat.mul_le_mul w1 h1
 obtain⟨t,et,ht⟩:=am7 ns (at'+7) 3 hn (by grind) (by decide)
 have et':B5 [scr ns,.int ((at':Int)+7),.int 3]=some (.int t):=by rw[← et];simp
 have c:R5 1 [0,1] (V4 (A9 X3 (A2 2) (A2 3))) (N9 0) U2 (B1 Y9 (A0 (A2 1) (A0 (A9 P3 (A2 2) (A9 X3 ⇑12 (A2 0))) A6))) [‹scr ns›,‹.int at'›,‹.int w›,‹.int h›,none]=some ((List.range (w*h)).map fun k=>(f k).d):=by
  refine bO4 (l:=List.range (w*h)) (h:=fun k:Nat=>PyData.int k) (r:=[‹scr ns›,‹.int at'›]) rfl (bt0 ?_ (by grind)) (by rw[List.length_range];grind) ?_
  ·exact ab9 (by grind) (by grind)
  ·intro k hk
   have hk:=List.mem_range.mp hk
   have m12:X3 (.int 12) (.int k)=some (.int ((12*k:Nat):Int)):=ab9 (i:=12) (by decide) (by grind)
   have e1:((at':Int)+((12*k:Nat):Int))=((at'+12*k:Nat):Int):=by grind
   wp_walk using evD,m12,e1,(hf k (by grind)).1
 have mwh:X3 (.int w) (.int h)=some (.int ((w*h:Nat):Int)):=ab9 (by grind) (by grind)
 have cv:((t:Int)==0)=decide (t=0):=by cases t with
  | zero=>rfl
  | succ n=>rw[decide_eq_false (by grind)];exact beq_eq_false_iff_ne.mpr (by grind)
 obtain⟨n,en⟩:∃n,w*h=n+1:=⟨w*h - 1,by grind⟩
 by_cases t0:t=0
 ·refine⟨List.replicate (w*h) (f 0),?_,List.length_replicate ..,fun q hq=>by rw[(List.mem_replicate.mp hq).2];exact(hf 0 (by decide)).2⟩
  refine M6 (ρ:=[‹scr ns›,‹.int at'›,‹.int w›,‹.int h›,none]) rfl ?_
  have hd:(List.range (w*h)).map (fun k=>(f k).d)=(f 0).d::(List.range n).map (fun k=>(f (k+1)).d):=by
   rw[en,List.range_succ_eq_map,xmc,List.map_map];rfl
  rw[hd]at c
  have v:A9 X3 (ah9 (A2 4) W6 (W5 ⇑1)) (A9 X3 (A2 2) (A2 3)) [‹scr ns›,‹.int at'›,‹.int w›,‹.int h›,‹.list ((f 0).d::(List.range n).map (fun k=>(f (k+1)).d))›]=some (.list (List.replicate (w*h) (f 0).d)):=by
   have a1:ah9 (A2 4) W6 (W5 ⇑1) [‹scr ns›,‹.int at'›,‹.int w›,‹.int h›,‹.list ((f 0).d::(List.range n).map (fun k=>(f (k+1)).d))›]=some (.list (af0 ((f 0).d::(List.range n).map (fun k=>(f (k+1)).d)) none (some 1))):=rfl
   have a2:A9 X3 (A2 2) (A2 3) [‹scr ns›,‹.int at'›,‹.int w›,‹.int h›,‹.list ((f 0).d::(List.range n).map (fun k=>(f (k+1)).d))›]=some (.int ((w*h:Nat):Int)):=(aP8 rfl rfl).trans mwh
   rw[ck3]at a1
   have a3:=bf2 (xs:=[(f 0).d]) (show w*h<=1000 by grind) (show 1<=1000 by decide)
   rw[Y2]at a3
   exact(aP8 a1 a2).trans a3
  have t1:tB2 eqD (B1 B5 (A0 (A2 0) (A0 (A9 P3 (A2 1) ⇑7) (A0 ⇑3 A6)))) ⇑0 [‹scr ns›,‹.int at'›,‹.int w›,‹.int h›,‹.list ((f 0).d::(List.range n).map (fun k=>(f (k+1)).d))›]=some true:=by
   simp only[tB2,A9,B1,A0,A6,A2,dC,xms,xbs,xg0,xg1,an0,et',ce1,cv,decide_eq_true t0,R7]
  simp only[af5,O0,c9,c,sIf,t1,Q7,v,L8,O7,A0,A6,ac6,C2,A2,xms,xbs,xw0,xw1,xg0,xg1,if_true,xft,if_false,shD,List.map_replicate]
 ·refine⟨(List.range (w*h)).map f,?_,by rw[List.length_map,List.length_range],fun q hq=>by
   obtain⟨k,hk,rfl⟩:=List.mem_map.mp hq
   exact(hf k (by have:=List.mem_range.mp hk;grind)).2⟩
  refine M6 (ρ:=[‹scr ns›,‹.int at'›,‹.int w›,‹.int h›,none]) rfl ?_
  wp_walk using evD,af5,c,et',cv,decide_eq_false t0,shD,List.map_map
  rfl
end Sh
namespace Sh
open PySem G L2
theorem q4:(4:Nat)<=16777216:=by decide
theorem q3:(3:Nat)<=16777216:=by decide
end Sh
namespace Sh
open PySem G L2
def Dv(N:Nat) (r:Rat):Prop:=∃z:Int,r*(N:Rat)=(z:Rat)
theorem Dv.add{N:Nat}{r s:Rat}(h:Dv N r) (g:Dv N s):Dv N (r+s):=by
 obtain⟨a,ha⟩:=h;obtain⟨b,hb⟩:=g
 exact⟨a+b,by rw[Rat.add_mul,ha,hb,Rat.intCast_add]⟩
theorem Dv.sub{N:Nat}{r s:Rat}(h:Dv N r) (g:Dv N s):Dv N (r - s):=by
 obtain⟨a,ha⟩:=h;obtain⟨b,hb⟩:=g
 exact⟨a - b,by rw[Rat.intCast_sub,← ha,← hb];grind⟩
theorem Dv.mul{M N:Nat}{r s:Rat}(h:Dv M r) (g:Dv N s):Dv (M*N) (r*s):=by
 obtain⟨a,ha⟩:=h;obtain⟨b,hb⟩:=g
 exact⟨a*b,by rw[Rat.intCast_mul,← ha,← hb,Rat.natCast_mul];grind⟩
theorem Dv.int(N:Nat) (i:Int):Dv N (i:Rat):=⟨i*N,by rw[Rat.intCast_mul];rfl⟩
theorem Dv.one(N:Nat):Dv N 1:=Dv.int N 1
theorem Dv.right{N:Nat}{r:Rat}(h:Dv N r) (M:Nat):Dv (N*M) r:=by
 have:=h.mul (Dv.one M);rwa [Rat.mul_one]at this
theorem Dv.left{N:Nat}{r:Rat}(h:Dv N r) (M:Nat):Dv (M*N) r:=by
 have:=(Dv.one M).mul h;rwa [Rat.one_mul]at this
theorem Dv.comm{M N:Nat}{r:Rat}(h:Dv (M*N) r):Dv (N*M) r:=by rwa [Nat.mul_comm]
theorem Dv.of(a:Int) {N:Nat}(hN:0 < N):Dv N (mkRat a N):=by
 refine⟨a,?_⟩
 have hN':(N:Rat)≠0:=by
  intro h
  have:N=0:=by exact_mod_cast h
  omega
 rw[Rat.mkRat_eq_div]
 exact Rat.div_mul_cancel hN'
theorem Dv.mk{N:Nat}{r:Rat}(hN:0 < N) (h:Dv N r) (h0:0<=r) (h1:r<=1):∃a:Nat,a<=N/\r=mkRat a N:=by
 obtain⟨z,hz⟩:=h
 have hN':(0:Rat) < N:=by exact_mod_cast hN
 have z0:0<=z:=by
  have:(0:Rat)<=(z:Rat):=by rw[← hz];exact Rat.mul_nonneg h0 (Rat.le_of_lt hN')
  exact_mod_cast this
 have z1:z<=N:=by
  have:(z:Rat)<=(N:Rat):=by
   rw[← hz]
   have:=Rat.mul_le_mul_of_nonneg_right h1 (Rat.le_of_lt hN')
   rwa [Rat.one_mul]at this
  exact_mod_cast this
 refine⟨z.toNat,by omega,?_⟩
 have e:((z.toNat:Nat):Int)=z:=by omega
 rw[Rat.mkRat_eq_div]
 have hne:(N:Rat)≠0:=fun h=>by rw[h]at hN';exact absurd hN' (by decide)
 have e2:(((z.toNat:Nat):Int):Rat)=r*N:=by rw[e,hz]
 rw[e2]
 exact(Rat.mul_div_cancel hne).symm
theorem Dv.cap{N:Nat}{r:Rat}(h:Dv N r):Dv N (aD5 r):=by
 unfold aD5;split
 ·exact h
 ·exact Dv.one N
theorem Dv.cov(m:Man) {M N:Nat}{c d:Rat}(hc:Dv M c) (hd:Dv N d):Dv (M*N) (m.cov c d):=by
 cases m
 case plus=>exact((hc.right N).add (hd.left M)).cap
 case atop=>exact hd.left M
 case cut=>exact(hd.mul ((Dv.one M).sub hc)).comm
 all_goals exact((hc.right N).add (hd.left M)).sub (hc.mul hd)
theorem Dv.col(m:Man) {M N:Nat}{c d x y:Rat}(hc:Dv M c) (hd:Dv N d) (hx:Dv M x) (hy:Dv N y):Dv (M*N) (m.col c d x y):=by
 have r:=(hy.mul ((Dv.one M).sub hc)).comm
 cases m
 case over=>exact(hx.right N).add r
 case mult=>exact((hx.mul hy).add (hx.mul ((Dv.one N).sub hd))).add r
 case screen=>exact((hx.right N).add (hy.left M)).sub (hx.mul hy)
 case plus=>exact((hx.right N).add (hy.left M)).cap
 case atop=>exact(hx.mul hd).add r
 case cut=>exact r
def Dn(k:Nat) (q:Q4):Prop:=∃N,0 < N/\N < 2 ^ k/\Dv N q.c/\Dv N q.x/\Dv N q.y/\Dv N q.z
theorem Z9{a b j k:Nat}(h1:a < 2 ^ j) (h2:b < 2 ^ k):a*b < 2 ^ (j+k):=by
 rw[Nat.pow_add]
 exact Nat.mul_lt_mul'' h1 h2
theorem Dn.bl(m:Man) {j k:Nat}{a b:Q4}(h:Dn j a) (g:Dn k b):Dn (j+k) (m.bl a b):=by
 obtain⟨M,m0,m1,hc,hx,hy,hz⟩:=h
 obtain⟨N,n0,n1,gc,gx,gy,gz⟩:=g
 exact⟨M*N,Nat.mul_pos m0 n0,Z9 m1 n1,hc.cov m gc,hc.col m gc hx gx,hc.col m gc hy gy,hc.col m gc hz gz⟩
theorem Dn.mono{j k:Nat}{q:Q4}(h:Dn j q) (l:j<=k):Dn k q:=by
 obtain⟨N,n0,n1,r⟩:=h
 exact⟨N,n0,Nat.lt_of_lt_of_le n1 (Nat.pow_le_pow_right (by decide) l),r⟩
def Q4.or(q:Q4):Prop:=0<=q.x/\0<=q.y/\0<=q.z/\q.x<=q.c/\q.y<=q.c/\q.z<=q.c/\q.c<=1
theorem Q4.ok.or{k:Nat}{q:Q4}(h:q.ok k):q.or:=⟨h.hx.nn,h.hy.nn,h.hz.nn,h.xc,h.yc,h.zc,h.hc.le⟩
structure Dq (k:Nat) (q:Q4):Prop where
 o:q.or
 n:Dn k q
theorem aL6{k N:Nat}{r:Rat}(n0:0 < N) (n1:N < 2 ^ k) (d:Dv N r) (h0:0<=r) (h1:r<=1):IsSh k r:=by
 obtain⟨a,ha,e⟩:=d.mk n0 h0 h1
 refine⟨?_,h1⟩
 rw[e]
 exact Bd.of n0 (by omega) n1
theorem Dq.ok{k:Nat}{q:Q4}(h:Dq k q):q.ok k:=by
 obtain⟨⟨x0,y0,z0,xc,yc,zc,c1⟩,N,n0,n1,hc,hx,hy,hz⟩:=h
 have c0:=Rat.le_trans x0 xc
 exact⟨aL6 n0 n1 hc c0 c1,(aL6 n0 n1 hx x0 (Rat.le_trans xc c1)).bd,(aL6 n0 n1 hy y0 (Rat.le_trans yc c1)).bd,(aL6 n0 n1 hz z0 (Rat.le_trans zc c1)).bd,xc,yc,zc⟩
theorem Dq.mono{j k:Nat}{q:Q4}(h:Dq j q) (l:j<=k):Dq k q:=⟨h.o,h.n.mono l⟩
end Sh
namespace Sh
open PySem G L2
theorem aL7{k:Nat}{r:Rat}(h:IsSh k r):∃N,0 < N/\N < 2 ^ k/\Dv N r:=by
 refine⟨r.den,Rat.den_pos r,h.bd.den,?_⟩
 have:=Dv.of r.num (Rat.den_pos r)
 rwa [Rat.mkRat_self]at this
theorem bC6(ns:List Int) (k:Nat) (hn:ns.length<=63) (hk:k < 2 ^ 30):∃q:Q4,Y9 [scr ns,.int k]=some q.d/\Dq 16 q:=by
 obtain⟨c,a0,a1,a2,e,hc,h0,h1,h2⟩:=bB2 ns k hn hk
 refine⟨⟨c,c*a0,c*a1,c*a2⟩,e,?_,?_⟩
 ·exact⟨Rat.mul_nonneg hc.bd.nn h0.bd.nn,Rat.mul_nonneg hc.bd.nn h1.bd.nn,Rat.mul_nonneg hc.bd.nn h2.bd.nn,j7 hc.bd.nn h0.le,j7 hc.bd.nn h1.le,j7 hc.bd.nn h2.le,hc.le⟩
 ·obtain⟨N,n0,n1,d⟩:=aL7 hc
  obtain⟨N0,m0,k0,d0⟩:=aL7 h0
  obtain⟨N1,m1,k1,d1⟩:=aL7 h1
  obtain⟨N2,m2,k2,d2⟩:=aL7 h2
  refine⟨N*(N0*(N1*N2)),Nat.mul_pos n0 (Nat.mul_pos m0 (Nat.mul_pos m1 m2)),Z9 n1 (Z9 k0 (Z9 k1 k2)),d.right _,d.mul (d0.right _),d.mul ((d1.right _).left _),d.mul ((d2.left _).left _)⟩
theorem Dq.bl2(m:Man) {j:Nat}{a b:Q4}(h:Dq j a) (g:Dq j b) (l:j<=1300):Dq (j+j) (m.bl a b):=⟨(aQ7 m h.ok g.ok (by omega)).2.or,h.n.bl m g.n⟩
end Sh
namespace G
open PySem PySem.Spec PyProof.Rows L2
abbrev FnD:=List D->Option D
structure Sg where
 fn:List (Str×FnD×Nat)
 cs:List (Str×D)
 bl:List Str
structure Kx where
 N:List Str
 sc:Scope
 df:Bool
 own:List Nat
 cpt:List Nat
 tx:List Nat
 dx:List Nat
 old:Bool
 fz:List (Nat×List Nat)
 hc:List ((Nat×Nat)×List Nat)
def biS(K:PySem.W.Frag) (n:Nat) (F:List D->Option D):List V->Hp->VK->Prop:=fun vs H Q=>vs.length=n/\∃Hf ds d,B3 Hf H/\Reps K Hf ds vs/\F ds=some d/\∀v H' Hf',Grow H Hf H' Hf'->Rep K Hf' d v->Q v H'
def bV1(x:Str) (F:FnD) (n:Nat):Prop:=0 < n/\x ≠ "__name__" /\ ∃nm,bootBuiltins x=some (.builtin nm)/\∀X:Cx,X.A.units+64 < cLine->m4 X (.builtin nm) (biS X.K n F)
theorem bE1(hb:bV1 x F n) (hu:X.A.units+64 < cLine) (hg:Gl X x) (hm:X.mg x=none) (ha:JA X (e::es) g) (hn:(e::es).length=n) (hdb:(x==("__debug__" : Str))=false)
  (he:starEach (e::es) X.env=(false,eval e X.env)::starEach es X.env) (hpl:(backTo pos (starEach es X.env)).any (·.1)=false):JE X (.Call (.Name x p) (e::es) [] pos) (B1 F g):=fun ρ d q=>by
 obtain⟨ds,h1,h2⟩:=Option.bind_eq_some_iff.mp q
 obtain⟨_,hnn,nm,hv,hc⟩:=hb
 refine B0 (Q9 (hc X hu) hg hm hv (ha.run ρ ds h1) hnn hdb he hpl) fun σ H Q ⟨H0,Hf,s,sl,kk⟩=>?_
 exact⟨H0,Hf,s,sl,fun vs H1 Hf1 g1 r1=>⟨by rw[r1.length,ha.len ρ ds h1,hn],Hf1,ds,d,g1.sub,r1,h2,fun v H2 Hf2 g2 r2=>kk v H2 Hf2 (g1.trans g2) r2⟩⟩
def cm7(X:Cx) (x:Str) (F:FnD) (n:Nat):Prop:=(∃(k:Nat) (f:Addr) (fd:FuncData) (ps:List Str),FnOk X.prog X.w X.K X.mg X.base CX0 k f fd ps (spF X.K n F)/\Room k X.A/\X.mg x=some (.ref f)/\PySem.W.keepIn X.K (.ref f)=true/\K2 X.K fd ps [])\/(X.mg x=none/\bV1 x F n)
structure Fit (S:Sg) (c:Kx) (X:Cx):Prop where
 N:X.N=c.N
 sc:X.env.scope=c.sc
 nd:c.N.Nodup
 calm:X.calm=true
 xe:X.xe=fun _ _=>False
 units:X.A.units+64 < cLine
 df:c.df=true->(∀x,X.fn x=true)/\c.sc.kind=.function
 fns:∀x F n,S.fn.lookup x=some (F,n)->cm7 X x F n
 css:∀x d,S.cs.lookup x=some d->∃u,aK6 X.K d u/\X.mg x=some u
 bls:∀x,S.bl.contains x=true->X.mg x=none
def pl:Expr->Bool
 | .Starred ..=>false
 | .Slice ..=>false
 | .Set ..=>false
 | _=>true
def au7:Expr->Bool
 | .Call ..=>false
 | _=>true
def isC:Expr->Bool
 | .ListComp ..=>true
 | .SetComp ..=>true
 | .DictComp ..=>true
 | _=>false
def plT:Expr->Bool
 | .UnaryOp ..=>false
 | .BoolOp ..=>false
 | .IfExp ..=>false
 | .Compare ..=>false
 | _=>true
def X7(x:Str):List Str->Option Nat
 | []=>none
 | y::r=>if y==x then some 0 else(X7 x r).map (·+1)
theorem aB7:∀{l:List Str}{i:Nat},X7 x l=some i->l[i]? = some x
 | [],i,h=>by cases h
 | y::r,i,h=>by
  unfold X7 at h
  split at h
  ·rename_i e
   cases h
   simp only[beq_iff_eq]at e
   subst e;rfl
  ·obtain⟨j,h1,h2⟩:=Option.map_eq_some_iff.mp h
   subst h2
   simpa using aB7 h1
def ae2:List Str->Bool
 | []=>true
 | x::r=>!(r.contains x)&&ae2 r
theorem ae1:∀{l:List Str},ae2 l=true->l.Nodup
 | [],_=>List.nodup_nil
 | x::r,h=>by
  unfold ae2 at h
  simp only[Bool.and_eq_true,Bool.not_eq_true']at h
  refine List.nodup_cons.mpr ⟨fun z=>?_,ae1 h.2⟩
  have:=h.1
  rw[List.contains_iff_mem.mpr z]at this
  cases this
def ak2(sc:Scope) (x:Str):Bool:=(match sc.names.lookup x with|some .local=>true|some .cell=>true|some .free=>true|_=>false) && !(x==("__debug__" : Str)) && !(x==("__classdict__" : Str))
def aA8(c:Kx) (x:Str):Bool:=(match c.sc.names.lookup x with|some .local=>true|some .cell=>c.df|_=>false)
def a8(sc:Scope) (x:Str):Bool:=(match sc.names.lookup x with|some .globalImplicit=>true|_=>false) && !(x==("__debug__" : Str))
def biB(S:Sg) (c:Kx) (w x:Str):Bool:=x==w&&S.bl.contains w&&a8 c.sc w
section
variable {X:Cx}{S:Sg}{c:Kx}
theorem S6(F:Fit S c X) (h:ak2 c.sc x=true):Vis X.env.scope x/\(x==("__debug__" : Str))=false/\(x==("__classdict__" : Str))=false:=by
 unfold ak2 at h
 simp only[Bool.and_eq_true,Bool.not_eq_true']at h
 obtain⟨⟨h1,h2⟩,h3⟩:=h
 refine⟨?_,h2,h3⟩
 rw[F.sc]
 unfold Vis
 split at h1
 ·rename_i e;exact .inl e
 ·rename_i e;exact .inr (.inl e)
 ·rename_i e;exact .inr (.inr e)
 ·cases h1
theorem ac0(F:Fit S c X) (h:aA8 c x=true):L2.Loc X.env.scope x/\(X.fn x=true\/X.env.scope.names.lookup x=some .local):=by
 unfold aA8 at h
 rw[F.sc]
 unfold L2.Loc
 split at h
 ·rename_i e;exact⟨.inl e,.inr e⟩
 ·rename_i e;exact⟨.inr e,.inl ((F.df h).1 x)⟩
 ·cases h
theorem S7(F:Fit S c X) (h:a8 c.sc x=true):Gl X x/\(x==("__debug__" : Str))=false:=by
 unfold a8 at h
 simp only[Bool.and_eq_true,Bool.not_eq_true']at h
 refine⟨?_,h.2⟩
 unfold Gl Env.kindOf
 rw[F.sc]
 have h1:=h.1
 split at h1
 ·rename_i e;exact e
 ·cases h1
theorem O1(F:Fit S c X) (h:biB S c w x=true):x=w/\Gl X w/\X.mg w=none:=by
 unfold biB at h
 simp only[Bool.and_eq_true,beq_iff_eq]at h
 exact⟨h.1.1,(S7 F h.2).1,F.bls _ h.1.2⟩
theorem E1(h:pl e=true) (es:List Expr) (env:Env):starEach (e::es) env=(false,eval e env)::starEach es env:=by
 cases e<;>first|rfl|cases h
theorem bD0(h:pl e=true):aj7 e:=by
 intro o i
 cases e<;>first|rfl|cases h
theorem n8(h:pl e=true) (op:CmpOp):behindInMarks op e=false:=by
 cases e<;>first|rfl|cases h
theorem aM5(h:pl e=true) (env:Env) (x:Value):foldedSetIterable e env x=pure x:=by
 cases e<;>first|rfl|cases h
theorem i9(h:au7 o=true) (attr:Str) (env:Env) (t:Sem Value):attributeBase o attr env t=t:=by
 cases o<;>first|rfl|cases h
theorem j4(h:isC e=false) (t:Option Expr) (l:Nat) (env:Env):swapsWith e t l env=pure false:=by
 cases e<;>first|rfl|cases h
theorem ay4(h:plT e=true) (env:Env) (whole:Sem Value):isTrue e env whole=(do let v ← whole;standAt e.pos;holding [v] (truthy v)):=by
 cases e<;>first|rfl|cases h
end
end G
namespace G
open PySem PySem.Spec PyProof.Rows L2
abbrev DA:=Rho->Option (List D)
abbrev DQ:=Rho->Option (Bool×List D)
abbrev DT:=Rho->Option Bool
abbrev DG:=D->Rho->Option Rho
def dNo:DE:=fun _=>none
def aNo:DA:=fun _=>none
def qNo:DQ:=fun _=>none
def tNo:DT:=fun _=>none
def gNo:DG:=fun _ _=>none
structure Ev where
 e:Kx->Expr->DE
 q:Kx->Expr->DQ
 n:Kx->Expr->DA
 t:Kx->Expr->DT
 g:Kx->Expr->DG
 b:Kx->List Stmt->DS
def aw1:CmpOp->D->D->Option D
 | .Lt=>ltI | .LtE=>leI | .Gt=>gtI | .GtE=>geI | .Eq=>eqD | .NotEq=>neD | .Is=>isB | .IsNot=>aT1 | .In=>inD false | .NotIn=>inD true
def evA(f:Expr->DE):List Expr->DA
 | []=>A6
 | e::es=>if pl e then A0 (f e) (evA f es) else aNo
def aV0(f:Expr->DE) (op:BoolOp):List Expr->DE
 | []=>dNo
 | [a]=>f a
 | a::b::r=>match op with
  | .And=>bz7 (f a) (aV0 f op (b::r))
  | .Or=>dOr (f a) (aV0 f op (b::r))
def aU9(f:Expr->DT) (op:BoolOp):List Expr->DT
 | []=>tNo
 | [a]=>f a
 | a::b::r=>match op with
  | .And=>ap0 (f a) (aU9 f op (b::r))
  | .Or=>as5 (f a) (aU9 f op (b::r))
def evO(f:Expr->DE):Option Expr->Rho->Option (Option Int)
 | none=>W6
 | some e=>W5 (f e)
def bz3(f:Expr->DG):List Expr->List D->Rho->Option Rho
 | []=>V5
 | e::es=>G0 (f e) (bz3 f es)
def bl1(f:Expr->DT):List Expr->DT
 | []=>U2
 | [t]=>f t
 | _=>tNo
def T8:Expr->List Str
 | .Name x _=>[x]
 | .Tuple es _ _=>es.filterMap fun | .Name x _=>some x|_=>none
 | _=>[]
def rl(scope sc:Scope):Scope:={ scope with names:=scope.names.map fun(n,k)=>if(k == .free&&sc.kind == .function&&sc.names.lookup n==some .cell) then(n,.cell) else(n,k) }
def aI4(n:Nat) (caps l:List Nat):List Nat:=(List.range caps.length).filterMap fun i=>match caps[i]? with|some j=>if l.contains j then some (n+i) else none|none=>none
def bY5(c:Kx) (j:Nat):Str:=(c.N[j]?).getD ""
def inner(c:Kx) (tn:List Str) (caps:List Nat) (scope:Scope):Kx :=
 { N:=tn++caps.map (bY5 c),sc:=rl scope c.sc,df:=false,own:=aI4 tn.length caps c.own,cpt:=[],tx:=aI4 tn.length caps c.tx,dx:=aI4 tn.length caps c.dx,old:=c.old,fz:=[],hc:=c.hc }
def isList:Expr->Bool
 | .List ..=>true
 | .ListComp ..=>true
 | _=>false
def ai8(c:Kx) (l:List Nat):Expr->Bool
 | .Name x _=>(match X7 x c.N with|some i=>l.contains i|none=>false)
 | _=>false
def opW(S:Sg) (c:Kx) (op:CmpOp) (b:Expr):D->D->Option D:=if ai8 c c.dx b then(match op with
 | .In=>inK false
 | .NotIn=>inK true
 | _=>aw1 op) else aw1 op
def u4:Expr->Bool
 | .Tuple ..=>true
 | _=>false
section
variable (S:Sg) (r:Ev)
def evR(c:Kx) (tg:Expr) (a:Expr):DA:=match a with
 | .Call f as kw _=>(match f,as,kw with
  | .Name y _,[e],[]=>(match e with
   | .Call f2 as2 kw2 _=>(match f2,as2,kw2 with
    | .Name z _,[b],[]=>if biB S c "list" y&&biB S c "enumerate" z&&u4 tg&&pl b then fun _=>none else fun _=>none
    | _,_,_=>fun _=>none)
   | _=>fun _=>none)
  | _,_,_=>fun _=>none)
 | _=>fun _=>none
def evI(c:Kx) (tg it:Expr):DA:=match it with
 | .Call (.Name x _) [a] [] _=>if biB S c "reversed" x then evR S c tg a else if biB S c "range" x&&pl a then V4 (r.e c a) else if biB S c "enumerate" x&&u4 tg&&pl a then(fun _=>none) else aI3 (r.e c it)
 | .Call (.Name x _) [a,b] [] _=>if biB S c "range" x&&pl a&&pl b then(fun _=>none) else if biB S c "zip" x&&u4 tg&&pl a&&pl b then ah7 (qE (r.e c a)) (qE (r.e c b)) else aI3 (r.e c it)
 | _=>if ai8 c c.tx it then(fun _=>none) else aI3 (r.e c it)
def evC(c:Kx) (ex:Expr):DA:=match ex with
 | .ListComp elt [⟨tgt,iter,ifs,0⟩] scope pos =>
  let tn:=T8 tgt
  let caps:=(c.hc.lookup (pos.line,pos.col)).getD []
  let c':=inner c tn caps scope
  if aj4 c.N c'.N tn.length caps c.sc scope&&ae2 c'.N&&pl iter then R5 tn.length caps (evI S r c tgt iter) (r.g c' tgt) (bl1 (r.t c') ifs) (r.e c' elt) else aNo
 | _=>aNo
def aE9(c:Kx) (x:Str) (a:Expr):DE :=
 if !(pl a) then dNo
 else if biB S c "len" x then l5 (r.q c a)
 else if biB S c "tuple" x then ac6 (r.q c a)
 else dNo
def aE8(c:Kx) (x:Str) (a b:Expr):DE :=
 if !(pl a) then dNo
 else if !(pl b) then dNo
 else if biB S c "min" x then aq8 (r.e c a) (r.e c b)
 else if biB S c "max" x then ac7 (r.e c a) (r.e c b)
 else dNo
def aX9(c:Kx) (x:Str) (args:List Expr) (ex:Expr):DE:=match S.fn.lookup x with
 | some (F,n)=>if a8 c.sc x&&args.length==n&&args.all pl then B1 F (evA (r.e c) args) else dNo
 | none=>match args with
  | [a]=>aE9 S r c x a
  | [a,b]=>aE8 S r c x a b
  | _=>dNo
def bY6:Expr->Option (Option Expr×Option Expr×Option Expr)
 | .Slice lo hi st _=>some (lo,hi,st)
 | _=>none
def unE:Expr->Option (UnaryOp×Expr)
 | .UnaryOp o a _=>some (o,a)
 | _=>none
def ck5:Const->Bool
 | .int i=>decide (i=1)
 | _=>false
def ci3:Expr->Bool
 | .Constant k _ _=>ck5 k
 | _=>false
def m1E(e:Expr):Bool:=match unE e with
 | some t=>(match t.1 with
  | .USub=>ci3 t.2
  | _=>false)
 | none=>false
def nmP:Expr->Option (Str×Pos)
 | .Name x p=>some (x,p)
 | _=>none
def bX0:List Expr->Option ((Str×Pos)×Str×Pos)
 | [a,b]=>(nmP a).bind fun x=>(nmP b).map fun y=>(x,y)
 | _=>none
def bW9:Expr->Option (Expr×Expr)
 | .Tuple es _ _=>(match es with
  | [a,b]=>some (a,b)
  | _=>none)
 | _=>none
def bF6(c:Kx) (a i:Expr):DE:=match bY6 i with
 | some t=>(match t.2.2 with
  | none =>
   if c.old then av9 (r.e c a) (evO (r.e c) t.1) (evO (r.e c) t.2.1)
   else ah9 (r.e c a) (evO (r.e c) t.1) (evO (r.e c) t.2.1)
  | some e=>dNo)
 | none=>if pl i then(if ai8 c c.dx a then l6 (r.e c a) (r.e c i) else dIx (r.q c a) (r.e c i)) else dNo
def xCn(k:Const):DE:=match k with
 | .none=>dC .none
 | .bool b=>dC (.bool b)
 | .int i=>dC (.int i)
 | .str x=>dC (.str x)
 | _=>dNo
def bG2(c:Kx) (a:Expr) (op:Operator) (b:Expr):DE:=match op with
 | .Add=>if c.old && !(isList a || isList b) then A9 a9 (r.e c a) (r.e c b) else A9 P3 (r.e c a) (r.e c b)
 | .Sub=>A9 aa9 (r.e c a) (r.e c b)
 | .Mult=>if c.old then A9 T9 (r.e c a) (r.e c b) else(match a with
  | .Subscript v _ _=>if ai8 c c.tx v then A9 bO5 (r.e c a) (r.e c b) else A9 X3 (r.e c a) (r.e c b)
  | _=>A9 X3 (r.e c a) (r.e c b))
 | .FloorDiv=>A9 ac4 (r.e c a) (r.e c b)
 | .Mod=>A9 X4 (r.e c a) (r.e c b)
 | .Pow=>dNo
 | _=>dNo
def xUn(c:Kx) (op:UnaryOp) (a:Expr):DE:=match op with
 | .USub=>bz6 (r.e c a)
 | _=>dNo
def bG0(c:Kx) (a:Expr) (ops:List CmpOp) (bs:List Expr):DE:=match ops,bs with
 | [op],[b]=>if pl b then A9 (opW S c op b) (r.e c a) (r.e c b) else dNo
 | [op,op'],[b,d]=>if pl d then X9 (aw1 op) (aw1 op') (r.e c a) (r.e c b) (r.e c d) else dNo
 | _,_=>dNo
def bF8(c:Kx) (o:Expr) (m:Str) (apos cpos:Pos) (args:List Expr):DE:=match args with
 | [a,b]=>if m == "get" && au7 o&&apos.endLine==cpos.line&&pl a&&pl b then aC9 (r.e c o) (r.e c a) (r.e c b) else dNo
 | _=>dNo
def xCl(c:Kx) (f:Expr) (args:List Expr) (kw:List Keyword) (pos:Pos):DE:=match kw with
 | []=>(match f with
  | .Name x p=>aX9 S r c x args (.Call (.Name x p) args [] pos)
  | .Attribute o m apos=>bF8 r c o m apos pos args
  | _=>dNo)
 | _=>dNo
def xDs(ks:List (Option Expr)) (vs:List Expr):DE:=match ks,vs with
 | [],[]=>dC (.dict [])
 | _,_=>dNo
def xE(c:Kx) (ex:Expr):DE:=match ex with
 | .Constant k _ _=>xCn k
 | .Name x _=>(match X7 x c.N with
  | some i=>if ak2 c.sc x then A2 i else dNo
  | none=>(match S.cs.lookup x with
   | some d=>if a8 c.sc x then dC d else dNo
   | none=>dNo))
 | .Tuple es _ _=>if es.length<=1000 then O7 (evA (r.e c) es) else dNo
 | .List _ _=>ao5 (r.n c ex)
 | .ListComp _ _ _ _=>ao5 (r.n c ex)
 | .BinOp a op b _=>bG2 r c a op b
 | .UnaryOp op a _=>xUn r c op a
 | .Compare a ops bs _=>bG0 S r c a ops bs
 | .BoolOp op vs _=>aV0 (r.e c) op vs
 | .IfExp t a b _=>X8 (r.t c t) (r.e c a) (r.e c b)
 | .Subscript a i _=>bF6 r c a i
 | .Call f args kw pos=>xCl S r c f args kw pos
 | .Dict ks vs _=>xDs ks vs
 | _=>dNo
def xQ(c:Kx) (ex:Expr):DQ:=match ex with
 | .Name x _=>(match X7 x c.N with
  | some i=>if ak2 c.sc x then C2 i else qNo
  | none=>qE (r.e c ex))
 | .List _ _=>qN (r.n c ex)
 | .ListComp _ _ _ _=>qN (r.n c ex)
 | _=>qE (r.e c ex)
def xN(c:Kx) (ex:Expr):DA:=match ex with
 | .List es _=>if es.length<=1000 then evA (r.e c) es else aNo
 | .ListComp _ _ _ _=>evC S r c ex
 | _=>aNo
def bB5(c:Kx) (a:Expr) (ops:List CmpOp) (bs:List Expr):DT:=match ops,bs with
 | [op],[b]=>if pl b then tB2 (opW S c op b) (r.e c a) (r.e c b) else tNo
 | [op,op'],[b,d]=>if pl d then ah4 (X9 (aw1 op) (aw1 op') (r.e c a) (r.e c b) (r.e c d)) else tNo
 | _,_=>tNo
def cf9(c:Kx) (op:UnaryOp) (a:Expr):DT:=match op with
 | .Not=>ax8 (r.t c a)
 | _=>tNo
def xT(c:Kx) (ex:Expr):DT:=match ex with
 | .Compare a ops bs _=>bB5 S r c a ops bs
 | .BoolOp op vs _=>aU9 (r.t c) op vs
 | .UnaryOp op a _=>cf9 r c op a
 | _=>if plT ex then as4 (r.e c ex) else tNo
def xG(c:Kx) (ex:Expr):DG:=match ex with
 | .Name x _=>(match X7 x c.N with
  | some i=>if aA8 c x then N9 i else gNo
  | none=>gNo)
 | .Tuple es _ _=>if es.all pl then T7 es.length (bz3 (r.g c) es) else gNo
 | _=>gNo
def bZ6(c:Kx) (x y:Str) (px py:Pos) (a b:Expr):Bool :=
 c.df&&pl a&&pl b && !(x==y)&&px.line==py.line&&c.sc.names.lookup x==some .local&&c.sc.names.lookup y==some .local && !(([a,b]:List Expr).all (foldedForSure 8)) && !(([a,b]:List Expr).all (constantsAlone 8))
def bG3(c:Kx) (tg v:Expr) (es:List Expr):DS:=match bX0 es with
 | some ((x,px),(y,py))=>if u4 v then(match bW9 v with
  | some (a,b)=>(match X7 x c.N with
   | some i=>(match X7 y c.N with
    | some j=>if bZ6 c x y px py a b then ba5 i j (evA (r.e c) [a,b]) else K8
    | none=>K8)
   | none=>K8)
  | none=>K8) else ba6 (r.e c v) (r.g c tg)
 | none=>if u4 v&&(es.length==2 || es.length==3) then K8 else ba6 (r.e c v) (r.g c tg)
def bG4(c:Kx) (x:Str) (p':Pos) (v:Expr):DS:=match X7 x c.N with
 | none=>K8
 | some i=>if !(aA8 c x) then K8 else(match v with
  | .ListComp _ _ sc pv=>if c.sc.names.lookup x==some .local then
    (if c.df&&p'.line==pv.line && !(sc.names.any fun(n,k)=>n==x&&(k == .local || k == .cell)) then c9 i (evC S r c v) else K8)
   else Q7 i (r.e c v)
  | _=>if isC v then K8 else Q7 i (r.e c v))
def bW0(c:Kx) (tg v:Expr) (p:Pos):DS:=match tg with
 | .Name x p'=>bG4 S r c x p' v
 | .Tuple es _ _=>bG3 r c tg v es
 | _=>K8
def cg0(c:Kx):Option Expr->DS
 | some e=>L8 (r.e c e)
 | none=>K8
def xWh(c:Kx) (t:Expr) (a:List Stmt):List Stmt->DS
 | []=>Z5 (r.t c t) (r.b c a)
 | _=>K8
def xAs(c:Kx) (v:Expr) (p:Pos):List Expr->DS
 | [tg]=>bW0 S r c tg v p
 | _=>K8
def xS0(c:Kx) (st:Stmt):DS:=match st with
 | .Return o _=>cg0 r c o
 | .If t a b _=>sIf (r.t c t) (r.b c a) (r.b c b)
 | .While t a o _=>xWh r c t a o
 | .Assign ts v p=>xAs S r c v p ts
 | .Pass _=>o8
 | _=>K8
def xS(c:Kx) (st:Stmt):DS:=xS0 S r c st
def evB(f:Stmt->DS):List Stmt->DS
 | []=>o8
 | [s]=>f s
 | s::t::P4=>O0 (f s) (evB f (t::P4))
def step:Ev:=⟨xE S r,xQ r,xN S r,xT S r,xG r,fun c=>evB (xS S r c)⟩
end
def ev(S:Sg):Nat->Ev
 | 0=>⟨fun _ _=>dNo,fun _ _=>qNo,fun _ _=>aNo,fun _ _=>tNo,fun _ _=>gNo,fun _ _=>K8⟩
 | n+1=>step S (ev S n)
end G
namespace G
open PySem PySem.Spec PyProof.Rows L2
section
variable {X:Cx}{S:Sg}{c:Kx}
theorem C8{e:Expr}:JE X e dNo:=fun ρ d h=>by cases h
theorem bD9{e:Expr}:JQ X e qNo:=fun ρ t d h=>by cases h
theorem aB5{e:Expr}:JN X e aNo:=fun ρ d h=>by cases h
theorem k6{e:Expr}:JT X e tNo:=fun ρ d h=>by cases h
theorem cc5{e:Expr}:JW X e tNo:=fun ρ d h=>by cases h
theorem aB6{e:Expr}:JG X e gNo:=by
 unfold JG PG
 intros
 rename_i h
 obtain⟨d,ρ,ρ',H0,Hf,z,_⟩:=h
 cases z
theorem cd3{es:List Expr}:JA X es aNo:=⟨fun ρ d h=>(nomatch h),fun ρ d h=>(nomatch h)⟩
theorem bP4{es:List Expr}:JTs X es tNo:=fun pins s σ H Q I ⟨ρ,b,h,_⟩=>by cases h
theorem W4(hu:X.A.units+64 < cLine):∀op:CmpOp,OpD X (compareOp op) (aw1 op)
 | .Lt=>ca4 | .LtE=>ca5 | .Gt=>ca7 | .GtE=>ca8 | .Eq=>ap9 hu | .NotEq=>bD3 hu | .Is=>bD4 | .IsNot=>az3 | .In=>ca6 hu | .NotIn=>be2 hu
theorem be1(hu:X.A.units+64 < cLine) (S:Sg) (c:Kx) (op:CmpOp) (b:Expr):OpD X (compareOp op) (opW S c op b):=by
 unfold opW
 split
 ·split
  ·exact bN7 hu
  ·exact aT0 hu
  ·exact W4 hu _
 ·exact W4 hu op
theorem t9{f:Expr->DE}(h:∀e,JE X e (f e)):∀es,JA X es (evA f es)
 | []=>O4
 | e::es=>by
  unfold evA
  split
  ·rename_i p;exact B8 (h e) (t9 h es) (E1 p es _)
  ·exact cd3
theorem ai7{f:Expr->DE}(h:∀e,JE X e (f e)) (op:BoolOp) (pos:Pos):∀vs,JE X (.BoolOp op vs pos) (aV0 f op vs)
 | []=>C8
 | [a]=>bQ4 (h a)
 | a::b::r=>by
  unfold aV0
  cases op
  ·exact bR0 (h a) (ai7 h .And pos (b::r))
  ·exact cd0 (h a) (ai7 h .Or pos (b::r))
theorem ai6{f:Expr->DT}(h:∀e,JT X e (f e)) (op:BoolOp) (pos:Pos):∀vs,JW X (.BoolOp op vs pos) (aU9 f op vs)
 | []=>cc5
 | [a]=>by cases op;exact bw6 (h a);exact bP2 (h a)
 | a::b::r=>by
  unfold aU9
  cases op
  ·exact bP3 (h a) (ai6 h .And pos (b::r))
  ·exact cc4 (h a) (ai6 h .Or pos (b::r))
theorem aO2{f:Expr->DE}(h:∀e,JE X e (f e)):∀o,JO X o (evO f o)
 | none=>bx5
 | some e=>bx4 (h e)
theorem bP5{f:Expr->DT}(h:∀e,JT X e (f e)):∀l,JTs X l (bl1 f l)
 | []=>bw8
 | [t]=>bw7 (h t)
 | _::_::_=>bP4
theorem bh4{f:Expr->DG}(h:∀e,JG X e (f e)):∀es,es.all pl=true->JGs X es (bz3 f es)
 | [],_=>bx7
 | e::es,p=>by
  simp only[List.all_cons,Bool.and_eq_true]at p
  refine bh5 (h e) (bh4 h es p.2) ?_
  have p1:=p.1
  cases e<;>first|rfl|cases p1
theorem aR0{env:Env}:∀{es:List Expr},es.all pl=true->(assignEach es env).length=es.length/\(assignEach es env).findIdx? (·.1)=none
 | [],_=>⟨rfl,rfl⟩
 | e::es,p=>by
  simp only[List.all_cons,Bool.and_eq_true]at p
  obtain⟨h1,h2⟩:=aR0 (env:=env) p.2
  have p1:=p.1
  have q:assignEach (e::es) env=(false,assign e env)::assignEach es env:=by cases e<;>first|rfl|cases p1
  rw[q]
  refine⟨by simp[h1],?_⟩
  simp[List.findIdx?_cons,h2]
structure Sound (S:Sg) (r:Ev):Prop where
 e:∀{c X},Fit S c X->∀ex,JE X ex (r.e c ex)
 q:∀{c X},Fit S c X->∀ex,JQ X ex (r.q c ex)
 n:∀{c X},Fit S c X->∀ex,JN X ex (r.n c ex)
 t:∀{c X},Fit S c X->∀ex,JT X ex (r.t c ex)
 g:∀{c X},Fit S c X->∀ex,JG X ex (r.g c ex)
 b:∀{c X},Fit S c X->∀sts,JSs X sts (r.b c sts)
theorem Fit.hx(F:Fit S c X):∀e s,X.xe e s->False:=fun e s h=>by rw[F.xe]at h;exact h
theorem Fit.po(F:Fit S c X):PassesOwn (model X.prog X.w) X.A X.env X.xe:=by rw[F.xe];exact PassesOwn.never
theorem Fit.slot(F:Fit S c X) {x:Str}{i:Nat}(h:X7 x c.N=some i):X.N[i]? = some x:=by rw[F.N];exact aB7 h
theorem Fit.inner{tn:List Str}{caps:List Nat}{scope:Scope}{C:Addr}{s0:Shared}{H0:Hp}{ex:List Addr}(F:Fit S c X) (hn:(G.inner c tn caps scope).N.Nodup):Fit S (G.inner c tn caps scope) (G2 X (G.inner c tn caps scope).N scope C s0 H0 ex) :=
 ⟨rfl,by show relabel scope X.env=rl scope c.sc;rw[← F.sc];rfl,hn,F.calm,rfl,F.units,(fun h=>by cases h),F.fns,F.css,F.bls⟩
variable {r:Ev}
theorem bQ1(R:Sound S r) (F:Fit S c X) (tg a:Expr) {p pos:Pos}(hg:Gl X "reversed") (hm:X.mg "reversed" = none):JI X tg (.Call (.Name "reversed" p) [a] [] pos) (evR S c tg a):=by
 have no:∀e:Expr,JI X tg e fun _=>none:=fun e ρ ds q=>nomatch q
 unfold evR
 split
 ·split
  ·split
   ·split
    ·split
     ·rename_i h
      simp only[Bool.and_eq_true]at h
      obtain⟨rfl,h1,h2⟩:=O1 F h.1.1.1
      obtain⟨rfl,h3,h4⟩:=O1 F h.1.1.2
      have ht:=h.1.2
      exact no _
     ·exact no _
    ·exact no _
   ·exact no _
  ·exact no _
 ·exact no _
theorem bE0(R:Sound S r) (F:Fit S c X) (tg it:Expr):JI X tg it (evI S r c tg it):=by
 unfold evI
 split
 ·rename_i x p a pos
  split
  ·rename_i h
   obtain⟨rfl,h1,h2⟩:=O1 F h
   exact bQ1 R F tg a h1 h2
  ·split
   ·rename_i h
    simp only[Bool.and_eq_true]at h
    obtain⟨rfl,h1,h2⟩:=O1 F h.1
    exact aU2 h1 h2 (R.e F a) (E1 h.2 _ _)
   ·split
    ·rename_i h
     simp only[Bool.and_eq_true]at h
     obtain⟨rfl,h1,h2⟩:=O1 F h.1.1
     have ht:=h.1.2
     exact fun ρ ds q=>nomatch q
    ·exact aH8 (R.e F _)
 ·rename_i x p a b pos
  split
  ·rename_i h
   simp only[Bool.and_eq_true]at h
   obtain⟨rfl,h1,h2⟩:=O1 F h.1.1
   exact fun ρ ds q=>nomatch q
  ·split
   ·rename_i h
    simp only[Bool.and_eq_true]at h
    obtain⟨rfl,h1,h2⟩:=O1 F h.1.1.1
    have ht:=h.1.1.2
    cases tg<;>first|(exact bQ0 h1 h2 (R.e F a) (R.e F b) (by rw[E1 h.1.2,E1 h.2];rfl) (E1 h.2 _ _))|(exact nomatch ht)
   ·exact aH8 (R.e F _)
 ·split
  ·exact fun ρ ds q=>nomatch q
  ·exact aH8 (R.e F _)
theorem aQ0(R:Sound S r) (F:Fit S c X) {elt tgt iter:Expr}{ifs:List Expr}{scope:Scope}{caps:List Nat}
  (h:(aj4 c.N (G.inner c (T8 tgt) caps scope).N (T8 tgt).length caps c.sc scope&&ae2 (G.inner c (T8 tgt) caps scope).N&&pl iter)=true) :
  CompSc X (G.inner c (T8 tgt) caps scope).N (T8 tgt).length caps scope/\JI X tgt iter (evI S r c tgt iter)/\(∀C s0 H0 ex,JG (G2 X (G.inner c (T8 tgt) caps scope).N scope C s0 H0 ex) tgt (r.g (G.inner c (T8 tgt) caps scope) tgt)) /\
  (∀C s0 H0 ex,JTs (G2 X (G.inner c (T8 tgt) caps scope).N scope C s0 H0 ex) ifs (bl1 (r.t (G.inner c (T8 tgt) caps scope)) ifs))/\(∀C s0 H0 ex,JE (G2 X (G.inner c (T8 tgt) caps scope).N scope C s0 H0 ex) elt (r.e (G.inner c (T8 tgt) caps scope) elt)) /\
  ∀x,foldedSetIterable iter X.env x=pure x:=by
 simp only[Bool.and_eq_true]at h
 obtain⟨⟨h1,h2⟩,h3⟩:=h
 have hn:=ae1 h2
 exact⟨aW3 h1 F.N F.sc,bE0 R F tgt iter,fun C s0 H0 ex=>R.g (F.inner hn) tgt,fun C s0 H0 ex=>bP5 (R.t (F.inner hn)) ifs,fun C s0 H0 ex=>R.e (F.inner hn) elt,aM5 h3 _⟩
theorem cc8(R:Sound S r) (F:Fit S c X) (ex:Expr):JN X ex (evC S r c ex):=by
 unfold evC
 split
 ·rename_i elt tgt iter ifs scope pos
  dsimp only
  split
  ·rename_i h
   obtain⟨h1,h2,h3,h4,h5,h6⟩:=aQ0 (ifs:=ifs) (elt:=elt) R F h
   exact bx6 h1 F.hx h2 h3 h4 h5 F.calm h6
  ·exact aB5
 ·exact aB5
theorem aM6{e:Expr}(h:pl e=true) (pos:Pos) (env:Env):(backTo pos (starEach [e] env)).any (·.1)=false:=by
 rw[E1 h];rfl
theorem Q2(pos:Pos) (env:Env):∀{es:List Expr},es.all pl=true->(starEach es env).any (·.1)=false
 | [],_=>rfl
 | e::es,h=>by
  simp only[List.all_cons,Bool.and_eq_true]at h
  rw[E1 h.1,List.any_cons,Q2 pos env h.2];rfl
end
end G
namespace G
open PySem PySem.Spec PyProof.Rows L2
section
variable {X:Cx}{S:Sg}{c:Kx}{r:Ev}
theorem br9(h:bY6 e=some t):∃p,e=.Slice t.1 t.2.1 t.2.2 p:=by
 cases e<;>first|(cases h;exact⟨_,rfl⟩)|cases h
theorem j6(h:nmP e=some t):e=.Name t.1 t.2:=by
 cases e<;>first|(cases h;rfl)|cases h
theorem bo8(R:Sound S r) (F:Fit S c X) (a i:Expr) (pos:Pos):JE X (.Subscript a i pos) (bF6 r c a i):=by
 unfold bF6
 split
 ·rename_i t ht
  obtain⟨p,rfl⟩:=br9 ht
  obtain⟨lo,hi,st⟩:=t
  cases st with
  | none =>
   dsimp only
   split
   ·exact bh8 (R.e F _) (aO2 (R.e F) _) (aO2 (R.e F) _)
   ·exact bQ3 (R.e F _) (aO2 (R.e F) _) (aO2 (R.e F) _)
  | some e=>exact C8
 ·split
  ·rename_i h
   split
   ·exact bQ7 F.units (R.e F _) (R.e F _) (bD0 h)
   ·exact bi0 (R.q F _) (R.e F _) (bD0 h)
  ·exact C8
theorem aR2(R:Sound S r) (F:Fit S c X) (x:Str) (a:Expr) (p pos:Pos):JE X (.Call (.Name x p) [a] [] pos) (aE9 S r c x a):=by
 unfold aE9
 split
 ·exact C8
 rename_i hp
 have hp:pl a=true:=by simpa using hp
 have hs:=E1 hp [] X.env
 split
 ·rename_i h;obtain⟨rfl,h1,h2⟩:=O1 F h;exact bQ6 h1 h2 (R.q F a) hs
 split
 ·rename_i h;obtain⟨rfl,h1,h2⟩:=O1 F h;exact bx9 h1 h2 (R.q F a) hs
 exact C8
theorem aR1(R:Sound S r) (F:Fit S c X) (x:Str) (a b:Expr) (p pos:Pos):JE X (.Call (.Name x p) [a,b] [] pos) (aE8 S r c x a b):=by
 unfold aE8
 split
 ·exact C8
 rename_i hp
 have hp:pl a=true:=by simpa using hp
 split
 ·exact C8
 rename_i hb
 have hb:pl b=true:=by simpa using hb
 split
 ·rename_i h;obtain⟨rfl,h1,h2⟩:=O1 F h;exact by1 h1 h2 (R.e F a) (R.e F b) F.calm (E1 hp _ _) (E1 hb _ _) (aM6 hb pos _)
 split
 ·rename_i h;obtain⟨rfl,h1,h2⟩:=O1 F h;exact by2 h1 h2 (R.e F a) (R.e F b) F.calm (E1 hp _ _) (E1 hb _ _) (aM6 hb pos _)
 exact C8
theorem V9(pos:Pos):∀l:List (Bool×Sem Value),(backTo pos l).any (·.1)=l.any (·.1)
 | []=>rfl
 | (b,t)::r=>by
  have ih:=V9 pos r
  unfold backTo at ih ⊢
  rw[xmc,List.any_cons,List.any_cons,ih]
theorem aX8(R:Sound S r) (F:Fit S c X) (x:Str) (args:List Expr) (p pos:Pos):JE X (.Call (.Name x p) args [] pos) (aX9 S r c x args (.Call (.Name x p) args [] pos)):=by
 unfold aX9
 split
 ·rename_i Fn n hl
  split
  ·rename_i h
   simp only[Bool.and_eq_true,beq_iff_eq]at h
   obtain⟨⟨hg,hn⟩,hp⟩:=h
   obtain⟨g1,g2⟩:=S7 F hg
   rcases F.fns _ _ _ hl with⟨k,f,fd,ps,hk,hr,hm,hkp,hb⟩|⟨hm,hb⟩
   case inr =>
    cases args with
    | nil=>cases hn;exact absurd hb.1 (Nat.lt_irrefl _)
    | cons e es =>
     simp only[List.all_cons,Bool.and_eq_true]at hp
     exact bE1 hb F.units g1 hm (t9 (R.e F) (e::es)) hn g2 (E1 hp.1 _ _) ((V9 pos _).trans (Q2 pos _ hp.2))
   cases args with
   | nil=>cases hn;exact bi7 hk hr g1 hm hkp hb g2
   | cons e es =>
    simp only[List.all_cons,Bool.and_eq_true]at hp
    exact aO6 hk hr g1 hm hkp hb (t9 (R.e F) (e::es)) hn g2 (E1 hp.1 _ _) ((V9 pos _).trans (Q2 pos _ hp.2))
  ·exact C8
 ·split
  ·exact aR2 R F _ _ _ _
  ·exact aR1 R F _ _ _ _ _
  ·exact C8
theorem aX7(k:Const) (u:Nat) (pos:Pos):JE X (.Constant k u pos) (xCn k):=by
 unfold xCn
 split
 ·exact aH9
 ·exact cd2
 ·exact aa1
 ·exact k7
 ·exact C8
theorem bp1(R:Sound S r) (F:Fit S c X) (a:Expr) (op:Operator) (b:Expr) (pos:Pos):JE X (.BinOp a op b pos) (bG2 r c a op b):=by
 unfold bG2
 split
 ·split
  ·exact X6 be4 (R.e F _) (R.e F _)
  ·exact X6 aN4 (R.e F _) (R.e F _)
 ·exact X6 bN4 (R.e F _) (R.e F _)
 ·split
  ·exact X6 au5 (R.e F _) (R.e F _)
  ·split
   ·split
    ·exact X6 bw3 (R.e F _) (R.e F _)
    ·exact X6 aN3 (R.e F _) (R.e F _)
   ·exact X6 aN3 (R.e F _) (R.e F _)
 ·exact X6 bN8 (R.e F _) (R.e F _)
 ·exact X6 bN6 (R.e F _) (R.e F _)
 ·exact C8
 ·exact C8
theorem bF5(R:Sound S r) (F:Fit S c X) (op:UnaryOp) (a:Expr) (pos:Pos):JE X (.UnaryOp op a pos) (xUn r c op a):=by
 unfold xUn
 split
 ·exact bh9 (R.e F _)
 ·exact C8
theorem bp0(R:Sound S r) (F:Fit S c X) (a:Expr) (ops:List CmpOp) (bs:List Expr) (pos:Pos):JE X (.Compare a ops bs pos) (bG0 S r c a ops bs):=by
 have hu:=F.units
 unfold bG0
 split
 ·split
  ·rename_i h;exact bi4 (be1 hu S c _ _) (R.e F _) (R.e F _) (n8 h _)
  ·exact C8
 ·split
  ·rename_i h;exact bi5 (W4 hu _) (W4 hu _) (R.e F _) (R.e F _) (R.e F _) (n8 h _)
  ·exact C8
 ·exact C8
theorem bo9(R:Sound S r) (F:Fit S c X) (o:Expr) (m:Str) (apos cpos:Pos) (args:List Expr):JE X (.Call (.Attribute o m apos) args [] cpos) (bF8 r c o m apos cpos args):=by
 have hu:=F.units
 unfold bF8
 split
 ·rename_i a1 b1
  split
  ·rename_i h
   simp only[Bool.and_eq_true,beq_iff_eq]at h
   obtain⟨⟨⟨⟨hm,hn⟩,hl⟩,hp⟩,hq⟩:=h
   subst hm
   have hs:=E1 hp [b1] X.env
   rw[E1 hq [] X.env]at hs
   exact by3 hu (R.e F _) (R.e F _) (R.e F _) ⟨i9 hn _ _ _,by rw[hs];rfl,by simpa using hl,by rw[hs];rfl⟩
  ·exact C8
 ·exact C8
theorem bG1(R:Sound S r) (F:Fit S c X) (f:Expr) (args:List Expr) (kw:List Keyword) (pos:Pos):JE X (.Call f args kw pos) (xCl S r c f args kw pos):=by
 unfold xCl
 split
 ·split
  ·exact aX8 R F _ _ _ _
  ·exact bo9 R F _ _ _ _ _
  ·exact C8
 ·exact C8
theorem bi2:JE X (.Dict [] [] pos) (dC (.dict [])):=fun ρ d q=>by
 cases q
 exact B0 ay7 fun σ H Q ⟨H0,Hf,s,sl,k⟩ p hp=>k _ _ (upd Hf p (.dK [])) (Grow.laid s hp) ⟨p,[],rfl,A5,rfl⟩
theorem bF9(ks:List (Option Expr)) (vs:List Expr) (pos:Pos):JE X (.Dict ks vs pos) (xDs ks vs):=by
 unfold xDs
 split
 ·exact bi2
 ·exact C8
theorem bV9(R:Sound S r) (F:Fit S c X) (ex:Expr):JE X ex (xE S r c ex):=by
 cases ex
 case Constant=>exact aX7 _ _ _
 case Dict ks vs p=>exact bF9 ks vs p
 case Name x p =>
  unfold xE
  dsimp only
  split
  ·rename_i i h
   split
   ·rename_i v;obtain⟨h1,h2,h3⟩:=S6 F v;exact av1 i (F.slot h) h1 h2 h3
   ·exact C8
  ·split
   ·rename_i d hd
    split
    ·rename_i g;obtain⟨u,k1,k2⟩:=F.css _ _ hd;obtain⟨g1,g2⟩:=S7 F g;exact bQ9 k1 g1 k2 g2
    ·exact C8
   ·exact C8
 case Tuple es _ _ =>
  unfold xE
  dsimp only
  split
  ·rename_i h;exact bh7 (t9 (R.e F) _) h
  ·exact C8
 case List=>exact am0 (R.n F _)
 case ListComp=>exact am0 (R.n F _)
 case BinOp=>exact bp1 R F _ _ _ _
 case UnaryOp=>exact bF5 R F _ _ _
 case Compare=>exact bp0 R F _ _ _ _
 case BoolOp=>exact ai7 (R.e F) _ _ _
 case IfExp=>exact bQ8 (R.t F _) (R.e F _) (R.e F _)
 case Subscript=>exact bo8 R F _ _ _
 case Call=>exact bG1 R F _ _ _ _
 all_goals exact C8
theorem bV6(R:Sound S r) (F:Fit S c X) (ex:Expr):JQ X ex (xQ r c ex):=by
 cases ex
 case Name x p =>
  unfold xQ
  dsimp only
  split
  ·rename_i i h
   split
   ·rename_i v;obtain⟨h1,h2,h3⟩:=S6 F v;exact bP7 i (F.slot h) h1 h2 h3
   ·exact bD9
  ·exact aO1 (R.e F _)
 case List=>exact cc6 (R.n F _)
 case ListComp=>exact cc6 (R.n F _)
 all_goals exact aO1 (R.e F _)
theorem bV7(R:Sound S r) (F:Fit S c X) (ex:Expr):JN X ex (xN S r c ex):=by
 cases ex
 case List es p =>
  unfold xN
  dsimp only
  split
  ·rename_i h;exact bh2 (t9 (R.e F) _) h
  ·exact aB5
 case ListComp=>exact cc8 R F _
 all_goals exact aB5
theorem bV5(R:Sound S r) (F:Fit S c X) (ex:Expr):JT X ex (xT S r c ex):=by
 have hu:=F.units
 have oth:∀e:Expr,JT X e (if plT e then as4 (r.e c e) else tNo):=fun e=>by
  split
  ·rename_i h;exact au9 (R.e F _) (ay4 h _)
  ·exact k6
 cases ex
 case Compare a ops bs p =>
  unfold xT bB5
  dsimp only
  split
  ·split
   ·rename_i h;exact bg6 (be1 hu S c _ _) (R.e F _) (R.e F _) (n8 h _)
   ·exact k6
  ·split
   ·rename_i h;exact bg7 (W4 hu _) (W4 hu _) (R.e F _) (R.e F _) (R.e F _) (n8 h _)
   ·exact k6
  ·exact k6
 case BoolOp=>exact aB4 (ai6 (R.t F) _ _ _)
 case UnaryOp op a p =>
  cases op
  case Not=>exact av0 (R.t F _)
  all_goals exact k6
 all_goals exact oth _
theorem bV8(R:Sound S r) (F:Fit S c X) (ex:Expr):JG X ex (xG r c ex):=by
 unfold xG
 split
 ·split
  ·rename_i i h
   split
   ·rename_i v;obtain⟨h1,h2⟩:=ac0 F v;exact bx8 i (by rw[F.N];exact F.nd) (F.slot h) h1 h2
   ·exact aB6
  ·exact aB6
 ·split
  ·rename_i h
   obtain⟨h1,h2⟩:=aR0 (env:=X.env) h
   exact bQ2 (bh4 (R.g F) _ h) F.calm h1 h2
  ·exact aB6
 ·exact aB6
theorem bD7{st:Stmt}{f:DS}(h:∀ρ,f ρ=none):JS X st f:=fun ρ fl q=>by rw[h ρ]at q;cases q
theorem bn6(F:Fit S c X) (h:c.df=true):X.env.blockKind=.function:=by
 unfold Env.blockKind
 rw[F.sc,(F.df h).2];rfl
theorem ap1(elt:Expr) (gens:List Comprehension) (sc:Scope) (pv p':Pos) (x:Str) (l:Nat) (env:Env):swapsWith (.ListComp elt gens sc pv) (some (.Name x p')) l env =
  pure (env.blockKind == .function&&env.kindOf x==some .local&&p'.line==pv.line && !(sc.names.any fun(n,k)=>n==x&&(k == .local || k == .cell))):=rfl
theorem bx3(R:Sound S r) (F:Fit S c X) {x:Str}{p' pv p:Pos}{elt:Expr}{gens:List Comprehension}{sc:Scope}{i:Nat}(hi:X7 x c.N=some i) (hl:(c.sc.names.lookup x==some .local)=true)
  (h:(c.df&&p'.line==pv.line && !(sc.names.any fun(n,k)=>n==x&&(k == .local || k == .cell)))=true) :
  JS X (.Assign [.Name x p'] (.ListComp elt gens sc pv) p) (c9 i (evC S r c (.ListComp elt gens sc pv))):=by
 unfold evC
 simp only[Bool.and_eq_true]at h
 have hl':X.env.scope.names.lookup x=some .local:=by rw[F.sc];simpa using hl
 have hsw:swapsWith (.ListComp elt gens sc pv) (some (.Name x p')) p.line X.env=pure true:=by
  rw[ap1,bn6 F h.1.1,h.1.2,h.2]
  unfold Env.kindOf
  rw[hl'];rfl
 split
 ·rename_i elt tgt iter ifs scope pos he
  cases he
  dsimp only
  split
  ·rename_i hc
   obtain⟨h1,h2,h3,h4,h5,h6⟩:=aQ0 (ifs:=ifs) (elt:=elt) R F hc
   exact bx2 i (by rw[F.N];exact F.nd) h1 F.hx h2 h3 h4 h5 (F.slot hi) hl' hsw F.calm h6
  ·exact bD7 fun ρ=>rfl
 ·exact bD7 fun ρ=>rfl
theorem bp4(R:Sound S r) (F:Fit S c X) (x:Str) (p':Pos) (v:Expr) (p:Pos):JS X (.Assign [.Name x p'] v p) (bG4 S r c x p' v):=by
 have nd:X.N.Nodup:=by rw[F.N];exact F.nd
 unfold bG4
 split
 ·exact C7
 ·rename_i i hi
  split
  ·exact C7
  ·rename_i hlo
   have hlo:aA8 c x=true:=by simpa using hlo
   obtain⟨l1,l2⟩:=ac0 F hlo
   split
   ·rename_i elt gens sc pv
    split
    ·rename_i hl
     split
     ·rename_i h
      exact bx3 R F hi hl h
     ·exact C7
    ·rename_i hl
     refine aH6 i nd (R.e F _) (F.slot hi) l1 ?_ l2
     rw[ap1]
     have:(X.env.kindOf x==some .local)=false:=by
      unfold Env.kindOf
      rw[F.sc];simpa using hl
     rw[this,Bool.and_false];rfl
   ·split
    ·exact C7
    ·rename_i hc
     have hc:isC v=false:=by simpa using hc
     exact aH6 i nd (R.e F _) (F.slot hi) l1 (j4 hc _ _ _) l2
theorem bq5(h:bX0 es=some t):es=[.Name t.1.1 t.1.2,.Name t.2.1 t.2.2]:=by
 match es,h with
 | [a,b],h =>
  obtain⟨x,h1,h⟩:=Option.bind_eq_some_iff.mp h
  obtain⟨y,h2,h⟩:=Option.map_eq_some_iff.mp h
  cases h
  rw[j6 h1,j6 h2]
theorem bq4(h:bW9 e=some t):∃k p,e=.Tuple [t.1,t.2] k p:=by
 cases e with
 | Tuple es k p =>
  match es,h with
  | [a,b],h=>cases h;exact⟨k,p,rfl⟩
  | [],h=>cases h
  | [_],h=>cases h
  | _::_::_::_,h=>cases h
 | _=>cases h
theorem be7{v:Expr}(h:u4 v=false) (es:List Expr) (k:Nat) (p:Pos) (env:Env):swappedStores [.Tuple es k p] v env=pure none:=by
 cases v<;>first|rfl|cases h
def stB:Expr->Bool
 | .Starred ..=>true
 | _=>false
def swN(env:Env) (x y:Str) (px py:Pos):List Str:=[(x,px),(y,py)].filterMap fun t=>if env.kindOf t.1==some .local&&t.2.line==px.line then some t.1 else none
theorem bY1(env:Env) (x y:Str) (px py pt p2:Pos) (kt k2:Nat) (a b:Expr):swappedStores [.Tuple [.Name x px,.Name y py] kt pt] (.Tuple [a,b] k2 p2) env =
  (if(env.blockKind != .function)=true then pure none else if([a,b].any stB)=true then pure none else if((swN env x y px py).length != 2 || (swN env x y px py).eraseDups.length != (swN env x y px py).length)=true then pure none
   else if([a,b].all (foldedForSure 8))=true then pure none else if([a,b].all (constantsAlone 8))=true then unsupported "assign.tuple-of-constant-expressions:order-of-the-stores" else pure (some (swN env x y px py))):=by rfl
theorem bb8(h:pl e=true):stB e=false:=by cases e<;>first|rfl|cases h
theorem bJ0{env:Env}{x y:Str}{px py pt p2:Pos}{kt k2:Nat}{a b:Expr}(hk:env.blockKind=.function) (ha:pl a=true) (hb:pl b=true) (kx:env.kindOf x=some .local) (ky:env.kindOf y=some .local) (hl:px.line=py.line) (hxy:(x==y)=false)
  (hf:([a,b].all (foldedForSure 8))=false) (hc:([a,b].all (constantsAlone 8))=false):swappedStores [.Tuple [.Name x px,.Name y py] kt pt] (.Tuple [a,b] k2 p2) env=pure (some [x,y]):=by
 have hn:swN env x y px py=[x,y]:=by simp[swN,kx,ky,hl]
 have hyx:(y==x)=false:=by
  cases q:(y==x) with
  | false=>rfl
  | true=>simp only[beq_iff_eq]at q;subst q;simp at hxy
 have hd:([x,y]:List Str).eraseDups=[x,y]:=by simp[List.eraseDups,List.eraseDupsBy,List.eraseDupsBy.loop,hxy,hyx]
 rw[bY1,hk,hn,hd,hf,hc]
 simp[bb8 ha,bb8 hb]
theorem br3{es vs:List Expr}(h:(es.length==2 || es.length==3)=false) (k k3:Nat) (p p3:Pos) (env:Env):swappedStores [.Tuple es k p] (.Tuple vs k3 p3) env=pure none:=by
 show(if(!(es.length==2 || es.length==3) || vs.length != es.length || env.blockKind != .function)=true then _ else _)=_
 rw[if_pos (by rw[h];rfl)]
theorem bp3(R:Sound S r) (F:Fit S c X) (es:List Expr) (kt:Nat) (pt:Pos) (v:Expr) (p:Pos):JS X (.Assign [.Tuple es kt pt] v p) (bG3 r c (.Tuple es kt pt) v es):=by
 have nd:X.N.Nodup:=by rw[F.N];exact F.nd
 unfold bG3
 split
 ·rename_i x px y py ht
  cases bq5 ht
  split
  ·split
   ·rename_i a b hab
    obtain⟨k2,p2,rfl⟩:=bq4 hab
    split
    ·rename_i i hi
     split
     ·rename_i j hj
      split
      ·rename_i h
       unfold bZ6 at h
       simp only[Bool.and_eq_true,Bool.not_eq_true',beq_iff_eq]at h
       obtain⟨⟨⟨⟨⟨⟨⟨⟨hd,ha⟩,hb⟩,hxy⟩,hl⟩,hx⟩,hy⟩,hf⟩,hcs⟩:=h
       have hx':X.env.scope.names.lookup x=some .local:=by rw[F.sc];exact hx
       have hy':X.env.scope.names.lookup y=some .local:=by rw[F.sc];exact hy
       have hne:i≠j:=fun z=>by
        subst z
        have:=(F.slot hi).symm.trans (F.slot hj)
        cases this
        simp at hxy
       refine bP6 nd (t9 (R.e F) [a,b]) ?_ hne (F.slot hi) (F.slot hj) hx' hy' F.calm rfl
       exact bJ0 (bn6 F hd) ha hb hx' hy' hl hxy hf hcs
      ·exact C7
     ·exact C7
    ·exact C7
   ·exact C7
  ·rename_i h
   have h:u4 v=false:=by simpa using h
   refine bh0 (R.e F _) (R.g F _) ?_ (be7 h _ _ _ _) rfl
   cases v<;>rfl
 ·split
  ·exact C7
  ·rename_i h
   refine bh0 (R.e F _) (R.g F _) ?_ ?_ rfl
   ·cases v<;>rfl
   ·cases v<;>first|rfl|skip
    rename_i vs k3 p3
    have h:(es.length==2 || es.length==3)=false:=by simpa [u4] using h
    exact br3 h _ _ _ _ _
theorem bp2(R:Sound S r) (F:Fit S c X) (tg v:Expr) (p:Pos):JS X (.Assign [tg] v p) (bW0 S r c tg v p):=by
 cases tg with
 | Name x p'=>exact bp4 R F x p' v p
 | Tuple es k q=>exact bp3 R F es k q v p
 | _=>exact C7
end
end G
namespace G
open PySem PySem.Spec PyProof.Rows L2
section
variable {X:Cx}{S:Sg}{c:Kx}{r:Ev}
theorem bF7(R:Sound S r) (F:Fit S c X) (st:Stmt):JS X st (xS0 S r c st):=by
 cases st
 case Return o p =>
  cases o
  ·exact C7
  ·exact aH7 (R.e F _)
 case If=>exact bD8 (R.t F _) (R.b F _) (R.b F _)
 case While t a o p =>
  cases o
  ·exact bg9 (R.t F _) (R.b F _) F.po
  ·exact C7
 case Assign ts v p =>
  unfold xS0 xAs
  dsimp only
  split
  ·exact bp2 R F _ _ _
  ·exact C7
 case Pass=>exact bx1
 all_goals exact C7
theorem bB4(R:Sound S r) (F:Fit S c X) (st:Stmt):JS X st (xS S r c st):=bF7 R F st
theorem ae5(h:∀st,JS X st (f st)):∀sts,JSs X sts (evB f sts)
 | []=>bx0
 | [s]=>bw9 (h s)
 | s::t::P4=>bg8 (h s) (ae5 h (t::P4))
theorem ab0(R:Sound S r):Sound S (step S r) :=
 ⟨fun F=>bV9 R F,fun F=>bV6 R F,fun F=>bV7 R F,fun F=>bV5 R F,fun F=>bV8 R F,fun F=>ae5 (bB4 R F)⟩
theorem V7(S:Sg):∀n,Sound S (ev S n)
 | 0=>⟨fun _ _=>C8,fun _ _=>bD9,fun _ _=>aB5,fun _ _=>k6,fun _ _=>aB6,fun _ _ ρ fl q=>by cases q⟩
 | n+1=>ab0 (V7 S n)
end
structure Fd where
 x:Str
 st:Stmt
 ps:List Str
 N:List Str
 own:List Nat:=[]
 tx:List Nat:=[]
 dx:List Nat:=[]
 old:Bool:=false
 fz:List (Nat×List Nat):=[]
 hc:List ((Nat×Nat)×List Nat):=[]
def fdm(x:Str) (st:Stmt) (n:Nat) (N:List Str) (old:Bool:=false):Fd:={ x,st,ps:=N.take n,N,old }
def Fd.c(d:Fd):Kx:={ N:=d.N,sc:=A7 d.st,df:=true,own:=d.own,cpt:=[],tx:=d.tx,dx:=d.dx,old:=d.old,fz:=d.fz,hc:=d.hc }
def Fd.okB(d:Fd):Bool:=let sc:=A7 d.st
 sc.kind == .function && !sc.isCoroutine && !sc.isGenerator&&ae2 d.N&&d.N.take d.ps.length==d.ps&&(d.ps.all fun x=>match sc.names.lookup x with|some .local=>true|some .cell=>true|_=>false)&&sc.names.all fun y=>match y.2 with | .free=>false|_=>true
theorem Fd.sc{d:Fd}(h:d.okB=true):FnScope d.N d.ps (A7 d.st):=by
 unfold Fd.okB at h
 simp only[Bool.and_eq_true,Bool.not_eq_true',beq_iff_eq,List.all_eq_true]at h
 obtain⟨⟨⟨⟨⟨⟨h1,h2⟩,h3⟩,h4⟩,h5⟩,h6⟩,h7⟩:=h
 refine⟨h1,h2,h3,ae1 h4,h5,fun x hx=>?_,fun y hy e=>?_⟩
 ·have:=h6 x hx
  split at this
  ·rename_i q;exact .inl q
  ·rename_i q;exact .inr q
  ·cases this
 ·have:=h7 y hy
  rw[e]at this
  cases this
def KF(K:PySem.W.Frag) (x:Str) (st:Stmt):Prop:=∃(f:Addr) (oc:Value) (od:Option Addr) (sl:Array (Option Value)) (kV dc pm:Value) (an:Option Addr) (cd ct:Value),
 PySem.W.nsIn K mainGlobals x=some (some (.ref f))/\K.lookup f=some ⟨oc,od,.func (PySem.W.fnOf x x (R6 st) (A4 st) (A7 st) .none kV dc pm an cd ct),sl⟩/\PySem.W.codeIn K cd x=true/\PySem.W.keepIn K (.ref f)=true
theorem cc3{K:PySem.W.Frag}{x:Str}{st:Stmt}{f:Addr}{oc:Value}{od:Option Addr}{sl:Array (Option Value)}{kV dc pm:Value}{an:Option Addr}{cd ct:Value}(a:PySem.W.nsIn K mainGlobals x=some (some (.ref f)))
  (l:K.lookup f=some ⟨oc,od,.func (PySem.W.fnOf x x (R6 st) (A4 st) (A7 st) .none kV dc pm an cd ct),sl⟩) (c:PySem.W.codeIn K cd x=true) (k:PySem.W.keepIn K (.ref f)=true):KF K x st:=⟨f,oc,od,sl,kV,dc,pm,an,cd,ct,a,l,c,k⟩
abbrev Tab:=List (Str×FnD×Nat)
section
variable {P:Program}{w:World}{K:PySem.W.Frag}{mg:Str->Option Value}{base:Heap}{cs:List (Str×D)}{bl:List Str}
structure Md (K:PySem.W.Frag) (mg:Str->Option Value) (cs:List (Str×D)) (bl:List Str):Prop where
 ns:∀x v,PySem.W.nsIn K mainGlobals x=some (some v)->mg x=some v
 css:∀x d,cs.lookup x=some d->∃u,aK6 K d u/\mg x=some u
 bls:∀x,bl.contains x=true->mg x=none
def TOk(P:Program) (w:World) (K:PySem.W.Frag) (mg:Str->Option Value) (base:Heap) (k:Nat) (tab:Tab):Prop:=∀x F n,tab.lookup x=some (F,n)->(∃(f:Addr) (fd:FuncData) (ps:List Str),
 FnOk P w K mg base CX0 k f fd ps (spF K n F)/\mg x=some (.ref f)/\PySem.W.keepIn K (.ref f)=true/\K2 K fd ps [])\/(mg x=none/\bV1 x F n)
theorem TOk.nil:TOk P w K mg base 0 []:=fun x F n h=>by cases h
theorem TOk.mono(T:TOk P w K mg base j tab) (h:j<=k):TOk P w K mg base k tab:=fun x F n e =>
 (T x F n e).imp (fun⟨f,fd,ps,h1,h2,h3,h4⟩=>⟨f,fd,ps,h1.mono h,h2,h3,h4⟩) id
def UA:Nat->(List Value->Prop)->Prop
 | 0,P=>P []
 | n+1,P=>∀a,UA n fun us=>P (a::us)
theorem ua:∀{n:Nat}{P:List Value->Prop},UA n P->∀us:List Value,us.length=n->P us
 | 0,_,h,[],_=>h
 | _+1,P,h,a::us,e=>ua (P:=fun us=>P (a::us)) (h a) us (Nat.succ.inj e)
def Bd(d:Fd):Prop:=∀(kV doc pm:Value) (an:Option Addr) (cdv ct:Value),UA d.ps.length fun us=>bindArgs (PySem.W.fnOf d.x d.x (R6 d.st) (A4 d.st) (A7 d.st) .none kV doc pm an cdv ct) ⟨us,[]⟩=pure (d.ps.zip us)
def rd(tab:Tab) (cs:List (Str×D)) (bl:List Str) (d:Fd):FnD:=U3 ((ev ⟨tab,cs,bl⟩ 99).b d.c (A4 d.st)) d.N.length
theorem cd9(M:Md K mg cs bl) (T:TOk P w K mg base k tab) (ok:d.okB=true) (Fn:Fun K d.x d.x d.st f fd):FnOk P w K mg base CX0 (k+1) f fd d.ps (spF K d.ps.length (rd tab cs bl d)):=by
 have Sc:=Fd.sc ok
 refine bz0 (N:=d.N) Fn Sc fun cdv A outer s H E hr=>(V7 ⟨tab,cs,bl⟩ 99).b (c:=d.c) ?_ _
 refine⟨rfl,rfl,Sc.nd,rfl,rfl,hr.units,fun _=>⟨fun _=>rfl,Sc.kind⟩,fun x F n h=>?_,M.css,M.bls⟩
 exact(T x F n h).imp (fun⟨f',fd',ps,h1,h2,h3,h4⟩=>⟨k,f',fd',ps,h1,hr,h2,h3,h4⟩) id
theorem al7{x:Str}{st:Stmt}(h:KF K x st) (M:Md K mg cs bl):∃(f:Addr) (kV dc pm:Value) (an:Option Addr) (cd ct:Value),Fun K x x st f (PySem.W.fnOf x x (R6 st) (A4 st) (A7 st) .none kV dc pm an cd ct)/\mg x=some (.ref f):=by
 obtain⟨f,oc,od,sl,kV,dc,pm,an,cd,ct,a,l,cc,kk⟩:=h
 exact⟨f,kV,dc,pm,an,cd,ct,am4 l cc kk,M.ns _ _ a⟩
theorem TOk.cons{k:Nat}{tab:Tab}{x:Str}{F:FnD}{n:Nat}(T:TOk P w K mg base k tab) (h:∃(f:Addr) (fd:FuncData) (ps:List Str),FnOk P w K mg base CX0 k f fd ps (spF K n F)/\mg x=some (.ref f)/\PySem.W.keepIn K (.ref f)=true/\K2 K fd ps []) :
  TOk P w K mg base k ((x,F,n)::tab):=fun y G m e=>by
 rw[List.lookup_cons]at e
 split at e
 ·rename_i q
  cases e
  simp only[beq_iff_eq]at q
  subst q
  exact .inl h
 ·exact T y G m e
theorem TOk.add(T:TOk P w K mg base k tab) (M:Md K mg cs bl) (d:Fd) (h:KF K d.x d.st) (F:FnD) (e:rd tab cs bl d=F:=by kernel_rfl) (ok:d.okB=true:=by kernel_rfl) (bd:Bd d:=by repeat (first|exact rfl|intro _)):TOk P w K mg base (k+1) ((d.x,F,d.ps.length)::tab):=by
 subst e
 obtain⟨f,kV,dc,pm,an,cd,ct,Fn,hm⟩:=al7 h M
 exact(T.mono (Nat.le_succ k)).cons ⟨f,_,d.ps,cd9 M T ok Fn,hm,Fn.kp,.all (ua (bd kV dc pm an cd ct))⟩
end
end G
namespace G
open PySem PySem.Spec PyProof.Rows L2
structure Fo where
 m:List (D×D)
 b:List D
 f:List D
structure Chg (S:List Addr) (H Hf H' Hf':Hp):Prop where
 big:∀b o,b∉S->H b=some o->H' b=some o
 kp:∀b,H b≠none->H' b≠none
 sub:B3 Hf' H'
 ext:B3 Hf Hf'
 new:∀b,Hf' b≠none->Hf b≠none\/H b=none
theorem Z4{α:Type}{o:Option α}{x:α}(h:o=some x):o≠none:=by rw[h];exact fun z=>by cases z
theorem aN8{α:Type}{o:Option α}(h:o≠none):∃x,o=some x:=by cases o with
 | none=>exact absurd rfl h
 | some x=>exact⟨x,rfl⟩
section
variable {K:PySem.W.Frag}{H H' H0 H1 H2 Hf Hf' Hf0 Hf1 Hf2:Hp}{S S' R:List Addr}{C:Addr}{os:List (Addr×Fo)}
theorem Chg.of(g:Grow H Hf H' Hf'):Chg S H Hf H' Hf':=⟨fun b o _ e=>g.big b o e,fun b h=>by obtain⟨x,e⟩:=aN8 h;exact Z4 (g.big b x e),g.sub,g.ext,g.new⟩
theorem Chg.trans(a:Chg S H Hf H1 Hf1) (b:Chg S' H1 Hf1 H2 Hf2) (h:∀x∈S',x∈S\/H x=none):Chg S H Hf H2 Hf2 where
 big c o hc e:=b.big c o (fun z=>(h c z).elim hc fun n=>by rw[n]at e;cases e) (a.big c o hc e)
 kp c h:=b.kp c (a.kp c h)
 sub:=b.sub
 ext:=a.ext.trans b.ext
 new c h:=(b.new c h).elim (a.new c) fun n=>.inr (Classical.byContradiction fun z=>a.kp c z n)
theorem Chg.grow(a:Chg [] H Hf H' Hf'):Grow H Hf H' Hf':=⟨fun b o e=>a.big b o (by simp) e,a.sub,a.ext,a.new⟩
theorem Chg.wr(ss:B3 Hf H) (hx:x∈S) (hf:Hf x=none):Chg S H Hf (upd H x o) Hf where
 big b u hb e:=by rw[A3 (fun z=>hb (by rw[z];exact hx))];exact e
 kp b h:=by
  by_cases q:b=x
  ·subst q;rw[A5];exact fun z=>by cases z
  ·rw[A3 q];exact h
 sub b u e:=by rw[A3 (B4 e hf)];exact ss b u e
 ext:=B3.refl _
 new b h:=.inl h
structure Cel where
 dx:Addr
 d:Addr
 lb:Addr
 lf:Addr
abbrev cells(a:Addr) (c:Cel):List Addr:=[a,c.d,c.lb,c.lf]
abbrev aC0(c:Cel):List (Str×V):=[(("sheets" : Str),.ref c.d),("steps_back", .ref c.lb),("steps_forth", .ref c.lf)]
structure FoAt (K:PySem.W.Frag) (C:Addr) (H Hf:Hp) (a:Addr) (c:Cel) (o:Fo):Prop where
 ins:H a=some (.ins C c.dx (aC0 c))
 dic:∃kvs,H c.d=some (.dK kvs)/\RepKs K Hf o.m kvs
 bk:∃vs,H c.lb=some (.lst vs)/\Reps K Hf o.b vs
 fo:∃vs,H c.lf=some (.lst vs)/\Reps K Hf o.f vs
 ne:c.lb≠c.lf
 fr:∀x∈cells a c,Hf x=none
theorem FoAt.there(h:FoAt K C H Hf a c o):∀x∈cells a c,H x≠none:=fun x hx=>by
 obtain⟨_,e1,_⟩:=h.dic
 obtain⟨_,e2,_⟩:=h.bk
 obtain⟨_,e3,_⟩:=h.fo
 simp only[List.mem_cons,List.not_mem_nil,or_false]at hx
 rcases hx with rfl|rfl|rfl|rfl
 ·exact Z4 h.ins
 ·exact Z4 e1
 ·exact Z4 e2
 ·exact Z4 e3
theorem FoAt.chg(h:FoAt K C H Hf a c o) (g:Chg S H Hf H' Hf') (hs:∀x∈cells a c,x∉S):FoAt K C H' Hf' a c o:=by
 have th:=h.there
 obtain⟨kvs,e1,r1⟩:=h.dic
 obtain⟨vb,e2,r2⟩:=h.bk
 obtain⟨vf,e3,r3⟩:=h.fo
 refine⟨g.big _ _ (hs _ (by simp)) h.ins,⟨kvs,g.big _ _ (hs _ (by simp)) e1,r1.mono g.ext⟩,⟨vb,g.big _ _ (hs _ (by simp)) e2,r2.mono g.ext⟩,⟨vf,g.big _ _ (hs _ (by simp)) e3,r3.mono g.ext⟩,h.ne,fun x hx=>?_⟩
 exact Classical.byContradiction fun z=>(g.new x z).elim (fun q=>q (h.fr x hx)) (th x hx)
theorem FoAt.grow(h:FoAt K C H Hf a c o) (g:Grow H Hf H' Hf'):FoAt K C H' Hf' a c o:=h.chg (S:=[]) (Chg.of g) fun _ _=>by simp
inductive Objs (K:PySem.W.Frag) (C:Addr) (H Hf:Hp):List (Addr×Fo)->List Addr->Prop
 | nil:Objs K C H Hf [] []
 | cons {a:Addr}{c:Cel}{o:Fo}{os:List (Addr×Fo)}{R:List Addr}:FoAt K C H Hf a c o->(∀x∈cells a c,x∉R)->Objs K C H Hf os R->Objs K C H Hf ((a,o)::os) (cells a c++R)
theorem Objs.there(h:Objs K C H Hf os R):∀x∈R,H x≠none:=by
 induction h with
 | nil=>exact fun _ h=>nomatch h
 | cons f d t ih =>
  intro x hx
  rcases List.mem_append.mp hx with hx|hx
  ·exact f.there x hx
  ·exact ih x hx
theorem Objs.chg(h:Objs K C H Hf os R) (g:Chg S H Hf H' Hf') (hs:∀x∈R,x∉S):Objs K C H' Hf' os R:=by
 induction h with
 | nil=>exact .nil
 | cons f d t ih=>exact .cons (f.chg g fun x hx=>hs x (List.mem_append_left _ hx)) d (ih fun x hx=>hs x (List.mem_append_right _ hx))
theorem Objs.focus(h:Objs K C H Hf os R):∀{j:Nat}{a:Addr}{o:Fo},os[j]? = some (a,o)->∃c,FoAt K C H Hf a c o/\(∀x∈cells a c,x∈R) /\
  ∀{H' Hf':Hp}{c':Cel}{o':Fo},Chg (cells a c) H Hf H' Hf'->FoAt K C H' Hf' a c' o'->(∀x∈cells a c',x∈cells a c\/H x=none)->∃R',Objs K C H' Hf' (os.set j (a,o')) R'/\∀x∈R',x∈R\/H x=none:=by
 induction h with
 | nil=>intro j a o e;simp at e
 | @cons a0 c0 o0 os0 R0 f d t ih =>
  intro j a o e
  cases j with
  | zero =>
   simp at e
   obtain⟨rfl,rfl⟩:=e
   refine⟨c0,f,fun x hx=>List.mem_append_left _ hx,fun{H' Hf' c' o'} g f' n=>⟨cells a0 c'++R0,.cons f' (fun x hx hr=>?_) (t.chg g fun x hx z=>d x z hx),fun x hx=>?_⟩⟩
   ·rcases n x hx with z|z
    ·exact d x z hr
    ·exact t.there x hr z
   ·rcases List.mem_append.mp hx with hx|hx
    ·exact(n x hx).imp (List.mem_append_left _) id
    ·exact .inl (List.mem_append_right _ hx)
  | succ j =>
   obtain⟨c,f1,f2,f3⟩:=ih (j:=j) (a:=a) (o:=o) (by simpa using e)
   refine⟨c,f1,fun x hx=>List.mem_append_right _ (f2 x hx),fun{H' Hf' c' o'} g f' n=>?_⟩
   obtain⟨R',r1,r2⟩:=f3 g f' n
   have dis:∀x∈cells a0 c0,x∉cells a c:=fun x hx z=>d x hx (f2 x z)
   refine⟨cells a0 c0++R',.cons (f.chg g dis) (fun x hx hr=>?_) r1,fun x hx=>?_⟩
   ·rcases r2 x hr with z|z
    ·exact d x hx z
    ·exact f.there x hx z
   ·rcases List.mem_append.mp hx with hx|hx
    ·exact .inl (List.mem_append_left _ hx)
    ·exact(r2 x hx).imp (List.mem_append_right _) id
theorem Objs.snoc(h:Objs K C H Hf os R) (f:FoAt K C H Hf a c o) (d:∀x∈cells a c,x∉R):∃R',Objs K C H Hf (os++[(a,o)]) R'/\∀x∈R',x∈R\/x∈cells a c:=by
 induction h with
 | nil=>exact⟨cells a c++[],.cons f (by simp) .nil,fun x hx=>.inr (by simpa using hx)⟩
 | @cons a0 c0 o0 os0 R0 f0 d0 t ih =>
  obtain⟨R',r1,r2⟩:=ih fun x hx=>fun z=>d x hx (List.mem_append_right _ z)
  refine⟨cells a0 c0++R',.cons f0 (fun x hx hr=>?_) r1,fun x hx=>?_⟩
  ·rcases r2 x hr with z|z
   ·exact d0 x hx z
   ·exact d x z (List.mem_append_left _ hx)
  ·rcases List.mem_append.mp hx with hx|hx
   ·exact .inl (List.mem_append_left _ hx)
   ·exact(r2 x hx).imp (List.mem_append_right _) id
end
structure Bs where
 S:List Addr
 H:Hp
 Hf:Hp
def hid(b:Bs) (R:List Addr):Hp:=fun x=>if x∈R then some (.lst []) else b.H x
structure OSt (K:PySem.W.Frag) (C:Addr) (b:Bs) (ρ:Rho) (os:List (Addr×Fo)) (σ:L2.St) (H Hf:Hp):Prop where
 gr:Chg b.S b.H b.Hf H Hf
 ob:∃R,Objs K C H Hf os R/\(∀x∈R,x∈b.S\/b.H x=none)/\Slots K (hid b R) ρ σ H Hf
section
variable {K:PySem.W.Frag}{C:Addr}{b:Bs}{ρ:Rho}{os:List (Addr×Fo)}{σ:L2.St}{H Hf H' Hf':Hp}
def V2(_:Rho):Bool:=true
theorem am3(h:hid b R x=none):x∉R/\b.H x=none:=by
 unfold hid at h
 split at h
 ·cases h
 ·rename_i n;exact⟨n,h⟩
theorem bj6(h1:x∉R) (h2:b.H x=none):hid b R x=none:=by unfold hid;rw[if_neg h1];exact h2
theorem Slots.chg{H0 H0':Hp}{S:List Addr}(s:Slots K H0 ρ σ H Hf) (g:Chg S H Hf H' Hf') (hS:∀x∈S,H0 x=none->H x=none) (hH:∀x,H0 x=none->H x≠none->H0' x=none):Slots K H0' ρ σ H' Hf':=by
 refine⟨s.len,fun i b e=>?_,s.apart⟩
 obtain⟨v,h1,h2⟩:=s.is i b e
 refine⟨v,h1,?_⟩
 cases b with
 | val d=>exact Rep.mono g.ext h2
 | exc C =>
  obtain⟨a,o,C,e,h1,h2⟩:=h2
  exact⟨a,o,C,e,g.ext _ _ h1,h2⟩
 | opq _=>exact h2
 | own ds =>
  obtain⟨a,us,e,e1,e2,e3,e4⟩:=h2
  have nS:a∉S:=fun z=>by rw[hS a z e3]at e1;cases e1
  have nf:Hf' a=none:=Classical.byContradiction fun z=>(g.new a z).elim (fun q=>q e2) fun q=>by rw[q]at e1;cases e1
  exact⟨a,us,e,g.big a _ nS e1,nf,hH a e3 (Z4 e1),e4.mono g.ext⟩
def OSt.R(s:OSt K C b ρ os σ H Hf):List Addr:=s.ob.choose
theorem OSt.obs(s:OSt K C b ρ os σ H Hf):Objs K C H Hf os s.R/\∀x∈s.R,x∈b.S\/b.H x=none:=⟨s.ob.choose_spec.1,s.ob.choose_spec.2.1⟩
theorem OSt.sl(s:OSt K C b ρ os σ H Hf):Slots K (hid b s.R) ρ σ H Hf:=s.ob.choose_spec.2.2
theorem OSt.slots{ρ':Rho}{σ':L2.St}(s:OSt K C b ρ os σ H Hf) (sl:Slots K (hid b s.R) ρ' σ' H Hf):OSt K C b ρ' os σ' H Hf:=⟨s.gr,s.R,s.obs.1,s.obs.2,sl⟩
theorem OSt.same(s:OSt K C b ρ os σ H Hf):B3 Hf H:=s.gr.sub
theorem OSt.grow(s:OSt K C b ρ os σ H Hf) (g:Grow H Hf H' Hf'):OSt K C b ρ os σ H' Hf':=by
 obtain⟨R,r1,r2,r3⟩:=s.ob
 exact⟨s.gr.trans (S':=[]) (Chg.of g) (by simp),R,r1.chg (S:=[]) (Chg.of g) (by simp),r2,r3.grow g⟩
theorem OSt.focus(s:OSt K C b ρ os σ H Hf) (n:V2 ρ=true) (e:os[j]? = some (a,o)):∃c,FoAt K C H Hf a c o /\
  ∀{H' Hf':Hp}{c':Cel}{o':Fo},Chg (cells a c) H Hf H' Hf'->FoAt K C H' Hf' a c' o'->(∀x∈cells a c',x∈cells a c\/H x=none)->OSt K C b ρ (os.set j (a,o')) σ H' Hf':=by
 obtain⟨R,r1,r2,r3⟩:=s.ob
 obtain⟨c,f1,f2,f3⟩:=r1.focus e
 have old:∀x,x∈R\/H x=none->x∈b.S\/b.H x=none:=fun x h=>h.elim (r2 x) fun z=>.inr (Classical.byContradiction fun q=>s.gr.kp x q z)
 refine⟨c,f1,fun{H' Hf' c' o'} g f' nn=>?_⟩
 obtain⟨R',q1,q2⟩:=f3 g f' nn
 refine⟨s.gr.trans g fun x hx=>r2 x (f2 x hx),R',q1,fun x hx=>old x (q2 x hx),r3.chg g (fun x hx h=>((am3 h).1 (f2 x hx)).elim) fun x h hx=>?_⟩
 obtain⟨h1,h2⟩:=am3 h
 exact bj6 (fun z=>(q2 x z).elim h1 hx) h2
end
end G
namespace G
open PySem PySem.Spec PyProof.Rows L2
abbrev Os:=List (Addr×Fo)
def OE(X:Cx) (C:Addr) (b:Bs) (ρ:Rho) (q:Os) (e:Expr) (d:D) (q':Os):Prop:=PE X e (fun σ H Q=>∃Hf,OSt X.K C b ρ q σ H Hf/\∀v H' Hf',OSt X.K C b ρ q' σ H' Hf'->B3 Hf Hf'->Rep X.K Hf' d v->Q v H')
def OT(X:Cx) (C:Addr) (b:Bs) (ρ:Rho) (q:Os) (e:Expr) (c:Bool) (q':Os):Prop:=PT X e (fun σ H Q=>∃Hf,OSt X.K C b ρ q σ H Hf/\∀H' Hf',OSt X.K C b ρ q' σ H' Hf'->B3 Hf Hf'->Q c H')
inductive OF where
 | nx (ρ:Rho) (q:Os)
 | rt (d:D) (q:Os)
def OF.ends(X:Cx) (C:Addr) (b:Bs) (Hf:Hp) (En:Ends):OF->Prop
 | .nx ρ q=>∀σ' H' Hf',OSt X.K C b ρ q σ' H' Hf'->B3 Hf Hf'->En.nx σ' H'
 | .rt d q=>∀ρ' σ' v H' Hf',OSt X.K C b ρ' q σ' H' Hf'->Rep X.K Hf' d v->En.rt v H'
def OS(X:Cx) (C:Addr) (b:Bs) (ρ:Rho) (q:Os) (st:Stmt) (fl:OF):Prop:=PS X st (fun En σ H=>∃Hf,OSt X.K C b ρ q σ H Hf/\fl.ends X C b Hf En)
def OSs(X:Cx) (C:Addr) (b:Bs) (ρ:Rho) (q:Os) (sts:List Stmt) (fl:OF):Prop:=PSs X sts (fun En σ H=>∃Hf,OSt X.K C b ρ q σ H Hf/\fl.ends X C b Hf En)
section
variable {X:Cx}{C:Addr}{b:Bs}{ρ ρ':Rho}{q q' q1 q2:Os}{st:Stmt}{sts:List Stmt}
theorem OF.ends_mono{Hf Hf':Hp}{En:Ends}{fl:OF}(h:fl.ends X C b Hf En) (e:B3 Hf Hf'):fl.ends X C b Hf' En:=by
 cases fl with
 | nx ρ q=>exact fun σ' H' Hf'' o s=>h σ' H' Hf'' o (e.trans s)
 | rt d q=>exact h
theorem Q0(h:JE X e f) (w:f ρ=some d):OE X C b ρ q e d q :=
 B0 (h ρ d w) fun σ H Q ⟨Hf,st,k⟩=>⟨_,Hf,st.same,st.sl,fun v H' Hf' g r=>k v H' Hf' (st.grow g) g.ext r⟩
theorem aM9(h:JT X e f) (w:f ρ=some c):OT X C b ρ q e c q :=
 Z6 (h ρ c w) fun σ H Q ⟨Hf,st,k⟩=>⟨_,Hf,st.same,st.sl,fun H' Hf' g=>k H' Hf' (st.grow g) g.ext⟩
theorem ae0(o:OpD X (compareOp op) h) (ha:OE X C b ρ q ea x q1) (hb:OE X C b ρ q1 eb y q2) (w:h x y=some (.bool c)) (hm:behindInMarks op eb=false:=by first|exact au6 _|rfl):OT X C b ρ q (.Compare ea [op] [eb] pos) c q2:=by
 refine Z6 (aM3 (o x y _ w) ha hb hm) fun σ H Q ⟨Hf,st,k⟩=>⟨Hf,st,fun v H1 Hf1 s1 e1 r1=>⟨Hf1,s1,fun u H2 Hf2 s2 e2 r2=>⟨Hf2,s2.same,r1.mono e2,r2,fun z H3 Hf3 g r3=>⟨c,r3,k H3 Hf3 (s2.grow g) ((e1.trans e2).trans g.ext)⟩⟩⟩⟩
theorem bN3(o:OpD X (compareOp op) h) (ha:OE X C b ρ q ea x q1) (hb:OE X C b ρ q1 eb y q2) (w:h x y=some z) (hm:behindInMarks op eb=false:=by first|exact au6 _|rfl):OE X C b ρ q (.Compare ea [op] [eb] pos) z q2:=by
 refine B0 (aM7 (o x y _ w) ha hb hm) fun σ H Q ⟨Hf,st,k⟩=>⟨Hf,st,fun v H1 Hf1 s1 e1 r1=>⟨Hf1,s1,fun u H2 Hf2 s2 e2 r2=>⟨Hf2,s2.same,r1.mono e2,r2,fun z H3 Hf3 g r3=>k z H3 Hf3 (s2.grow g) ((e1.trans e2).trans g.ext) r3⟩⟩⟩
theorem n9(h:OE X C b ρ q e d q') (hs:swapsWith e none pos.line X.env=pure false):OS X C b ρ q (.Expr e pos) (.nx ρ q') :=
 D9 (ai3 h hs) fun En σ H ⟨Hf,st,k⟩=>⟨Hf,st,fun v H' Hf' s' e' _=>k σ H' Hf' s' e'⟩
theorem OSt.set(s:OSt X.K C b ρ q σ H Hf) (r:Rep X.K Hf d v):OSt X.K C b (ρ.set i (‹d›)) q (σ.set i (some v)) H Hf:=s.slots (s.sl.set r)
theorem bM2(i:Nat) (hN:X.N.Nodup) (h:OE X C b ρ q e d q') (hi:X.N[i]? = some x) (hx:Loc X.env.scope x) (hs:swapsWith e (some (.Name x pos')) pos.line X.env=pure false) (hf:X.fn x=true):OS X C b ρ q (.Assign [.Name x pos'] e pos) (.nx (ρ.set i (‹d›)) q') :=
 D9 (ak8 hN hi hx h hs (.inl hf)) fun En σ H ⟨Hf,st,k⟩=>⟨Hf,st,fun v H' Hf' s' e' r=>k _ H' Hf' (s'.set r) e'⟩
theorem u9(h:OE X C b ρ q e d q'):OS X C b ρ q (.Return (some e) pos) (.rt d q') :=
 D9 (ad9 h) fun En σ H ⟨Hf,st,k⟩=>⟨Hf,st,fun v H' Hf' s' e' r=>k ρ σ v H' Hf' s' r⟩
theorem ap8(t:OT X C b ρ q e c q1) (h1:c=true->OSs X C b ρ q1 s1 fl) (h2:c=false->OSs X C b ρ q1 s2 fl):OS X C b ρ q (.If e s1 s2 pos) fl:=by
 cases c with
 | true=>exact D9 (ag1 t (h1 rfl) K3) fun En σ H ⟨Hf,st,k⟩=>⟨Hf,st,fun H' Hf' s' e'=>aa3 ⟨Hf',s',OF.ends_mono k e'⟩⟩
 | false=>exact D9 (ag1 t K3 (h2 rfl)) fun En σ H ⟨Hf,st,k⟩=>⟨Hf,st,fun H' Hf' s' e'=>aa4 ⟨Hf',s',OF.ends_mono k e'⟩⟩
theorem ai4:OSs X C b ρ q [] (.nx ρ q):=O3 ai2 fun En σ H ⟨Hf,st,k⟩=>k σ H Hf st (B3.refl _)
theorem ab6(h:OS X C b ρ q st fl):OSs X C b ρ q [st] fl:=m8 h
theorem F7(h:OS X C b ρ q st (.nx ρ' q')) (r:OSs X C b ρ' q' sts fl):OSs X C b ρ q (st::sts) fl :=
 O3 (M0 h r) fun En σ H ⟨Hf,s,k⟩=>⟨Hf,s,fun σ' H' Hf' s' e'=>⟨Hf',s',OF.ends_mono k e'⟩⟩
theorem u8(h:OS X C b ρ q st (.rt d q')):OSs X C b ρ q (st::sts) (.rt d q') :=
 O3 (M0 h K3) fun En σ H ⟨Hf,s,k⟩=>⟨Hf,s,k⟩
end
end G
namespace G
open PySem PySem.Spec PyProof.Rows L2
abbrev MF:=Fo->List D->Option (D×Fo)
def spM(K:PySem.W.Frag) (C:Addr) (n:Nat) (F:MF):Sp:=fun vs H Q _=>∃a us Hf c o ds r o',vs=.ref a::us/\us.length=n/\B3 Hf H/\FoAt K C H Hf a c o/\Reps K Hf ds us/\F o ds=some (r,o') /\
 ∀v H' Hf' c',Chg (cells a c) H Hf H' Hf'->FoAt K C H' Hf' a c' o'->(∀x∈cells a c',x∈cells a c\/H x=none)->Rep K Hf' r v->Q v H'
def an4(X:Cx) (C:Addr) (m:Str) (n:Nat) (F:MF):Prop:=∃k f fd ps,FnOk X.prog X.w X.K X.mg X.base CX0 k f fd ps (spM X.K C n F)/\Room k X.A/\Meth X.K C m f/\K2 X.K fd ps []
structure FoC (K:PySem.W.Frag) (C:Addr):Prop where
 cl:Cls K C
 n1:c6 K C "sheets"
 n2:c6 K C "steps_back"
 n3:c6 K C "steps_forth"
def Y5(m:Str):Bool:=!(m==("sheets" : Str)) && !(m==("steps_back" : Str)) && !(m==("steps_forth" : Str))
theorem al2(h:Y5 m=true) (c:Cel):(aC0 c).lookup m=none:=by
 unfold Y5 at h
 simp only[Bool.and_eq_true,Bool.not_eq_true']at h
 simp only[aC0,List.lookup_cons,h.1.1,h.1.2,h.2,List.lookup_nil]
section
variable {X:Cx}{C:Addr}{b:Bs}{ρ ρ':Rho}{q q' q1 q2:Os}{o o':Fo}{K:PySem.W.Frag}{σ:L2.St}{H Hf:Hp}
structure At1 (X:Cx) (ρ:Rho) (q:Os) (x:Str) (i j:Nat) (a:Addr) (o:Fo):Prop where
 n:X.N[i]? = some x
 v:Vis X.env.scope x
 d1:(x==("__debug__" : Str))=false
 d2:(x==("__classdict__" : Str))=false
 s:ρ[i]? = some (some (.opq a))
 o:q[j]? = some (a,o)
 w:V2 ρ=true
theorem ab1{i:Nat}{a:Addr}(s:OSt K C b ρ q σ H Hf) (e:ρ[i]? = some (some (B.opq a))):σ[i]? = some (some (V.ref a)):=by
 obtain⟨v,h1,h2⟩:=s.sl.is i _ e
 cases h2;exact h1
theorem aq3{ds:List D}{d:D}{F:MF}{E:XK}{Q:VK}(st:OSt X.K C b ρ q σ H Hf) (A:At1 X ρ q x i j a o) (nf:Y5 m=true) (r:F o ds=some (d,o')) (hn:ds.length=n)
  (k:∀v H' Hf',OSt X.K C b ρ (q.set j (a,o')) σ H' Hf'->B3 Hf Hf'->Rep X.K Hf' d v->Q v H') :
  ∃v,σ[i]? = some (some v)/\∃a dx fs,v=.ref a/\H a=some (.ins C dx fs)/\fs.lookup m=none/\∀vs H1 Hf1,Grow H Hf H1 Hf1->Reps X.K Hf1 ds vs->spM X.K C n F (v::(vs++[])) H1 Q E:=by
 obtain⟨c,f1,f3⟩:=st.focus A.w A.o
 refine⟨_,ab1 st A.s,a,c.dx,aC0 c,rfl,f1.ins,al2 nf c,fun vs H1 Hf1 g1 r1=>⟨a,vs++[],Hf1,c,o,ds,d,o',rfl,by rw[List.append_nil,r1.length,hn],g1.sub,f1.grow g1,by rw[List.append_nil];exact r1,r,fun v H2 Hf2 c' g2 f2 n2 rv=>k v H2 Hf2 (f3 ((Chg.of g1).trans g2 fun _ h=>.inl h) f2 fun y hy=>(n2 y hy).imp id fun z=>Classical.byContradiction fun w=>(Chg.of (S:=[]) g1).kp y w z) (g1.ext.trans g2.ext) rv⟩⟩
theorem ai5{x m:Str}{p apos pos:Pos}{es:List Expr}(hl:(apos.endLine==pos.line)=true) (hf:methodCallForm (es.length+([]:List Keyword).length) (backTo pos (starEach es X.env)) (backToKw pos (keywordEach [] X.env))=true) :
  eval (.Call (.Attribute (.Name x p) m apos) es [] pos) X.env=(do
   let ov ← eval (.Name x p) X.env
   standAt apos.atName
   let(f,first) ← holding [ov] (getMethod ov m (do return (← importBound (.Name x p) X.env).getD true))
   callWith pos f first (backTo pos (starEach es X.env)) (backToKw pos (keywordEach [] X.env))):=by
 show(do let ov ← eval (.Name x p) X.env;standAt apos.atName;methodCall (.Name x p) m apos pos X.env ov (es.length+([]:List Keyword).length) (backTo pos (starEach es X.env)) (backToKw pos (keywordEach [] X.env)))=_
 unfold methodCall
 rw[hf]
 unfold methodCallPos calleeOf
 rw[hl]
 rfl
theorem az2{ρa:Rho}{x m:Str}{e:Expr}{es:List Expr}{p apos pos:Pos}{ds:List D}{d:D}{F:MF}{f:Rho->Option (List D)}(M:an4 X C m n F) (c:FoC X.K C) (A:At1 X ρ q x i j a o) (nf:Y5 m=true) (ha:JA X (e::es) f) (w:f ρa=some ds) (sb:∀{H0 H Hf:Hp}{σ:L2.St},Slots X.K H0 ρ σ H Hf->Slots X.K H0 ρa σ H Hf) (r:F o ds=some (d,o')) (hn:(e::es).length=n:=by rfl)
  (hst:starEach (e::es) X.env=(false,eval e X.env)::starEach es X.env:=by rfl) (hpl:(backTo pos (starEach es X.env)).any (·.1)=false:=by rfl)
  (hl:(apos.endLine==pos.line)=true:=by first|assumption|rfl) (hfm:methodCallForm ((e::es).length+([]:List Keyword).length) (backTo pos (starEach (e::es) X.env)) (backToKw pos (keywordEach [] X.env))=true:=by rfl) :
  OE X C b ρ q (.Call (.Attribute (.Name x p) m apos) (e::es) [] pos) d (q.set j (a,o')):=by
 obtain⟨k,fa,fd,ps,Fk,hr,hm,hb⟩:=M
 refine B0 (bu3 (P2 A.n A.v A.d1 A.d2) c.cl hm Fk hr hb .nil ap6 (fun pos pins s σ H Q I t=>ha.run ρa ds w pos pins s σ H Q I t) hst hpl (ai5 hl hfm)) fun σ H Q ⟨Hf,st,kk⟩=>?_
 obtain⟨v,h1,a',dx,fs,h2,h3,h4,h5⟩:=aq3 (n:=n) (E:=E0) st A nf r (by rw[ha.len ρa ds w,hn]) kk
 exact⟨v,h1,a',dx,fs,h2,h3,h4,_,Hf,st.same,sb st.sl,fun vs H1 Hf1 g1 r1=>h5 vs H1 Hf1 g1 r1⟩
theorem R4{x m:Str}{e:Expr}{es:List Expr}{p apos pos:Pos}{ds:List D}{d:D}{F:MF}{f:Rho->Option (List D)}(M:an4 X C m n F) (c:FoC X.K C) (A:At1 X ρ q x i j a o) (nf:Y5 m=true) (ha:JA X (e::es) f) (w:f ρ=some ds) (r:F o ds=some (d,o')) (hn:(e::es).length=n:=by rfl)
  (hst:starEach (e::es) X.env=(false,eval e X.env)::starEach es X.env:=by rfl) (hpl:(backTo pos (starEach es X.env)).any (·.1)=false:=by rfl)
  (hl:(apos.endLine==pos.line)=true:=by first|assumption|rfl) (hfm:methodCallForm ((e::es).length+([]:List Keyword).length) (backTo pos (starEach (e::es) X.env)) (backToKw pos (keywordEach [] X.env))=true:=by rfl) :
  OE X C b ρ q (.Call (.Attribute (.Name x p) m apos) (e::es) [] pos) d (q.set j (a,o')) :=
 az2 M c A nf ha w (fun s=>s) r hn hst hpl hl hfm
theorem be0{x m:Str}{p apos pos:Pos}{d:D}{F:MF}(M:an4 X C m 0 F) (c:FoC X.K C) (A:At1 X ρ q x i j a o) (nf:Y5 m=true) (r:F o []=some (d,o'))
  (hl:(apos.endLine==pos.line)=true:=by first|assumption|rfl) :
  OE X C b ρ q (.Call (.Attribute (.Name x p) m apos) [] [] pos) d (q.set j (a,o')):=by
 obtain⟨k,fa,fd,ps,Fk,hr,hm,hb⟩:=M
 refine B0 (bc2 (P2 A.n A.v A.d1 A.d2) c.cl hm Fk hr hb .nil ap6 (ai5 hl rfl)) fun σ H Q ⟨Hf,st,kk⟩=>?_
 obtain⟨v,h1,a',dx,fs,h2,h3,h4,h5⟩:=aq3 (n:=0) (E:=E0) st A nf r rfl kk
 exact⟨v,h1,a',dx,fs,h2,h3,h4,h5 [] H Hf (Grow.refl st.same) rfl⟩
def OP(X:Cx) (C:Addr) (b:Bs) (ρ:Rho) (q:Os) (e:Expr) (d:D):Prop:=PE X e (fun σ H Q=>∃Hf,OSt X.K C b ρ q σ H Hf/\∀v H' Hf',Grow H Hf H' Hf'->Rep X.K Hf' d v->Q v H')
theorem OP.oe(h:OP X C b ρ q e d):OE X C b ρ q e d q:=B0 h fun σ H Q ⟨Hf,st,k⟩=>⟨Hf,st,fun v H' Hf' g r=>k v H' Hf' (st.grow g) g.ext r⟩
theorem o4(h:JE X e f) (w:f ρ=some d):OP X C b ρ q e d:=B0 (h ρ d w) fun σ H Q ⟨Hf,st,k⟩=>⟨_,Hf,st.same,st.sl,k⟩
structure OPA (X:Cx) (C:Addr) (b:Bs) (ρ:Rho) (q:Os) (es:List Expr) (ds:List D):Prop where
 len:ds.length=es.length
 run:PA X es (fun σ H Q=>∃Hf,OSt X.K C b ρ q σ H Hf/\∀vs H' Hf',Grow H Hf H' Hf'->Reps X.K Hf' ds vs->Q vs H')
theorem aN0:OPA X C b ρ q [] []:=⟨rfl,fun pos pins s σ H Q I ⟨Hf,st,k⟩=>M3 pos pins s σ H Q I (k [] H Hf (Grow.refl st.same) rfl)⟩
theorem Y4(h:OP X C b ρ q e d) (r:OPA X C b ρ q es ds) (hs:starEach (e::es) X.env=(false,eval e X.env)::starEach es X.env:=by rfl):OPA X C b ρ q (e::es) (d::ds) :=
 ⟨by simp[r.len],fun pos pins s σ H Q I ⟨Hf,st,k⟩=>E2 h r.run hs pos pins s σ H Q I ⟨Hf,st,fun v H1 Hf1 g1 r1=>⟨Hf1,st.grow g1,fun vs H2 Hf2 g2 r2=>k (v::vs) H2 Hf2 (g1.trans g2) ⟨v,vs,rfl,r1.mono g2.ext,r2⟩⟩⟩⟩
theorem bd3(h:OPA X C b ρ q es ds) (hn:es.length<=1000:=by decide):OP X C b ρ q (.Tuple es k pos) (.tuple ds) :=
 B0 (aG9 h.run) fun σ H Q ⟨Hf,st,k⟩=>⟨Hf,st,fun vs H1 Hf1 g r=>⟨by rw[r.length,h.len];exact Nat.le_of_lt (Q5 hn),fun p hp=>k _ _ _ (g.trans (Grow.laid g.sub hp)) ⟨p,vs,rfl,SqT.of A5,r.mono (Grow.laid (o:=.tup vs) g.sub hp).ext⟩⟩⟩
theorem Y3(A:At1 X ρ q x i j a o) (c:FoC X.K C) (hf:f=("sheets" : Str)\/f=("steps_back" : Str)\/f=("steps_forth" : Str)) (hb:attributeBase (.Name x p) f X.env (eval (.Name x p) X.env)=eval (.Name x p) X.env) :
  PE X (.Attribute (.Name x p) f pos) (fun σ H Q=>∃Hf,OSt X.K C b ρ q σ H Hf/\∀cl v,FoAt X.K C H Hf a cl o->(aC0 cl).lookup f=some v->Q v H) :=
 B0 (bL8 (P2 A.n A.v A.d1 A.d2) hb) fun σ H Q ⟨Hf,st,k⟩=>by
  obtain⟨cl,f1,_⟩:=st.focus A.w A.o
  have hl:∃v,(aC0 cl).lookup f=some v:=by
   rcases hf with rfl|rfl|rfl
   ·exact⟨.ref cl.d,rfl⟩
   ·exact⟨.ref cl.lb,rfl⟩
   ·exact⟨.ref cl.lf,rfl⟩
  obtain⟨v,hl⟩:=hl
  exact⟨_,ab1 st A.s,a,C,cl.dx,aC0 cl,v,rfl,f1.ins,c.cl,by rcases hf with rfl|rfl|rfl;exact c.n1;exact c.n2;exact c.n3,hl,k cl v f1 hl⟩
theorem o5(f:FoAt K C H Hf a cl o) (x:Str):∃r:Option V,Z0 H cl.d (.str x) r/\((D7 o.m x=none/\r=none)\/∃d v,D7 o.m x=some d/\r=some v/\Rep K Hf d v):=by
 obtain⟨kvs,e1,r1⟩:=f.dic
 refine⟨_,Z0.k (k:=Sum.inr x) e1,?_⟩
 rcases r1.look x with⟨l1,l2⟩|⟨d,v,l1,l2,l3⟩
 ·exact .inl ⟨l1,l2⟩
 ·exact .inr ⟨d,v,l1,l2,l3⟩
theorem bN1(hu:X.A.units+64 < cLine) (A:At1 X ρ q x i j a o) (c:FoC X.K C) (he:JE X e f) (w:f ρ=some (.str k)) (m:M1 X (.Attribute (.Name x p) "sheets" pos) "get" apos e cpos) (hb:attributeBase (.Name x p) "sheets" X.env (eval (.Name x p) X.env)=eval (.Name x p) X.env:=by rfl) :
  OP X C b ρ q (.Call (.Attribute (.Attribute (.Name x p) "sheets" pos) "get" apos) [e] [] cpos) ((D7 o.m k).getD .none) :=
 B0 (bc5 (by omega) (Y3 A c (.inl rfl) hb) (he ρ _ w) m) fun σ H Q ⟨Hf,st,kk⟩=>⟨Hf,st,fun cl v f1 hl=>by
  cases hl
  obtain⟨kvs,e1,_⟩:=f1.dic
  refine⟨cl.d,rfl,.inl ⟨kvs,.inl e1⟩,_,Hf,st.same,st.sl,fun u H1 Hf1 g1 r1=>?_⟩
  cases r1
  obtain⟨r,d1,d2⟩:=o5 (f1.grow g1) k
  refine⟨r,d1,?_⟩
  rcases d2 with⟨l1,rfl⟩|⟨d,v,l1,rfl,l3⟩
  ·rw[l1]at kk;exact kk _ _ _ g1 rfl
  ·rw[l1]at kk;exact kk _ _ _ g1 l3⟩
theorem bZ9(hu:X.A.units+64 < cLine) (A:At1 X ρ q x i j a o) (c:FoC X.K C) (he:JE X e f) (w:f ρ=some (.str k)) (hb:attributeBase (.Name x p) "sheets" X.env (eval (.Name x p) X.env)=eval (.Name x p) X.env:=by rfl) (h1:behindInMarks .In (.Attribute (.Name x p) "sheets" pos)=false:=by rfl) :
  OP X C b ρ q (.Compare e [.In] [.Attribute (.Name x p) "sheets" pos] cpos) (.bool (D7 o.m k).isSome) :=
 B0 (bL9 (bM1 (by omega) (he ρ _ w) (Y3 A c (.inl rfl) hb)) h1) fun σ H Q ⟨Hf,st,kk⟩=>⟨_,Hf,st.same,st.sl,fun u H1 Hf1 g1 r1=>⟨Hf1,st.grow g1,fun cl v f1 hl=>by
  cases hl;cases r1
  obtain⟨r,d1,d2⟩:=o5 f1 k
  refine⟨cl.d,r,rfl,d1,?_⟩
  rcases d2 with⟨l1,rfl⟩|⟨d,v,l1,rfl,l3⟩
  ·rw[l1]at kk;exact kk _ _ _ g1 rfl
  ·rw[l1]at kk;exact kk _ _ _ g1 rfl⟩⟩
theorem ay9(hu:X.A.units+64 < cLine) (A:At1 X ρ q x i j a o) (c:FoC X.K C) (he:JE X e f) (w:f ρ=some (.str k)) (hb:attributeBase (.Name x p) "sheets" X.env (eval (.Name x p) X.env)=eval (.Name x p) X.env:=by rfl) (h1:behindInMarks .NotIn (.Attribute (.Name x p) "sheets" pos)=false:=by rfl) :
  OT X C b ρ q (.Compare e [.NotIn] [.Attribute (.Name x p) "sheets" pos] cpos) (!(D7 o.m k).isSome) q :=
 Z6 (bK6 (aS4 (by omega) (he ρ _ w) (Y3 A c (.inl rfl) hb)) h1) fun σ H Q ⟨Hf,st,kk⟩=>⟨_,Hf,st.same,st.sl,fun u H1 Hf1 g1 r1=>⟨Hf1,st.grow g1,fun cl v f1 hl=>by
  cases hl;cases r1
  obtain⟨r,d1,d2⟩:=o5 f1 k
  refine⟨cl.d,r,rfl,d1,?_⟩
  rcases d2 with⟨l1,rfl⟩|⟨d,v,l1,rfl,l3⟩
  ·rw[l1]at kk;exact⟨_,rfl,kk _ _ (st.grow g1) g1.ext⟩
  ·rw[l1]at kk;exact⟨_,rfl,kk _ _ (st.grow g1) g1.ext⟩⟩⟩
theorem bv3(hu:X.A.units+64 < cLine) (A:At1 X ρ q x i j a o) (c:FoC X.K C) (he:JE X e f) (w:f ρ=some (.str k)) (l:D7 o.m k=some d) (hs:bB1 e) (hb:attributeBase (.Name x p) "sheets" X.env (eval (.Name x p) X.env)=eval (.Name x p) X.env:=by rfl) :
  OP X C b ρ q (.Subscript (.Attribute (.Name x p) "sheets" pos) e cpos) d :=
 B0 (au0 (by omega) (Y3 A c (.inl rfl) hb) (he ρ _ w) hs) fun σ H Q ⟨Hf,st,kk⟩=>⟨Hf,st,fun cl v f1 hl=>by
  cases hl
  refine⟨_,Hf,st.same,st.sl,fun u H1 Hf1 g1 r1=>?_⟩
  cases r1
  obtain⟨r,d1,d2⟩:=o5 (f1.grow g1) k
  rcases d2 with⟨l1,rfl⟩|⟨d',v,l1,rfl,l3⟩
  ·rw[l]at l1;cases l1
  ·rw[l]at l1;cases l1
   exact⟨cl.d,v,rfl,d1,kk _ _ _ g1 l3⟩⟩
end
end G
namespace G
open PySem PySem.Spec PyProof.Rows L2
def u6(kvs:List (D×D)) (x:Str):List (D×D):=kvs.filter fun kv=>!P7 x kv
theorem RepKs.drop{K:PySem.W.Frag}{H:Hp}{x:Str}:∀{kvs:List (D×D)}{m:List (Key×V)},RepKs K H kvs m->RepKs K H (u6 kvs x) (ag8 m (.inr x))
 | [],_,h=>by cases h;rfl
 | (k,e)::r,_,⟨y,w,t,h1,h2,h3,h4⟩=>by
  subst h1 h2
  have ih:=RepKs.drop (x:=x) h4
  unfold u6 ag8 at ih ⊢
  rw[List.filter_cons,List.filter_cons]
  by_cases e:y=x
  ·rw[if_neg (by simp[P7,e]),if_neg (by simp[e])];exact ih
  ·rw[if_pos (by simp[P7,e]),if_pos (by simp[e])];exact⟨y,w,_,rfl,rfl,h3,ih⟩
section
variable {X:Cx}{C:Addr}{b:Bs}{ρ ρ':Rho}{q q' q1 q2:Os}{o o':Fo}{K:PySem.W.Frag}{σ:L2.St}{H Hf:Hp}{a:Addr}{c:Cel}
theorem FoAt.same{c c':Cel}{Hf':Hp}(f:FoAt K C H Hf a c o) (g:FoAt K C H Hf' a c' o'):c=c':=by
 have e:=f.ins.symm.trans g.ins
 obtain⟨d1,d2,d3,d4⟩:=c
 obtain⟨x1,x2,x3,x4⟩:=c'
 cases e;rfl
theorem RepKs.length:∀{kvs:List (D×D)}{m:List (Key×V)},RepKs K H kvs m->m.length=kvs.length
 | [],_,h=>by cases h;rfl
 | (k,e)::r,_,⟨y,w,t,h1,h2,h3,h4⟩=>by subst h2;simp[RepKs.length h4]
theorem FoAt.wrD(f:FoAt K C H Hf a c o) (r:RepKs K Hf m kvs):FoAt K C (upd H c.d (.dK kvs)) Hf a c { o with m:=m }:=by
 obtain⟨k0,e1,_⟩:=f.dic
 obtain⟨vb,e2,r2⟩:=f.bk
 obtain⟨vf,e3,r3⟩:=f.fo
 have n:∀{x u},H x=some u->(∀k,u≠HO.dK k)->upd H c.d (.dK kvs) x=some u:=fun{x u} e z=>by rw[A3 (t7 e e1 (z _))];exact e
 exact⟨n f.ins (by intro _ z;cases z),⟨kvs,A5,r⟩,⟨vb,n e2 (by intro _ z;cases z),r2⟩,⟨vf,n e3 (by intro _ z;cases z),r3⟩,f.ne,f.fr⟩
theorem FoAt.wrB(f:FoAt K C H Hf a c o) (r:Reps K Hf ds vs):FoAt K C (upd H c.lb (.lst vs)) Hf a c { o with b:=ds }:=by
 obtain⟨k0,e1,r1⟩:=f.dic
 obtain⟨vb,e2,_⟩:=f.bk
 obtain⟨vf,e3,r3⟩:=f.fo
 have n:∀{x u},H x=some u->x≠c.lb->upd H c.lb (.lst vs) x=some u:=fun{x u} e z=>by rw[A3 z];exact e
 exact⟨n f.ins (t7 f.ins e2 (by intro z;cases z)),⟨k0,n e1 (t7 e1 e2 (by intro z;cases z)),r1⟩,⟨vs,A5,r⟩,⟨vf,n e3 f.ne.symm,r3⟩,f.ne,f.fr⟩
theorem FoAt.wrF(f:FoAt K C H Hf a c o) (r:Reps K Hf ds vs):FoAt K C (upd H c.lf (.lst vs)) Hf a c { o with f:=ds }:=by
 obtain⟨k0,e1,r1⟩:=f.dic
 obtain⟨vb,e2,r2⟩:=f.bk
 obtain⟨vf,e3,_⟩:=f.fo
 have n:∀{x u},H x=some u->x≠c.lf->upd H c.lf (.lst vs) x=some u:=fun{x u} e z=>by rw[A3 z];exact e
 exact⟨n f.ins (t7 f.ins e3 (by intro z;cases z)),⟨k0,n e1 (t7 e1 e3 (by intro z;cases z)),r1⟩,⟨vb,n e2 f.ne,r2⟩,⟨vs,A5,r⟩,f.ne,f.fr⟩
theorem bM3(hu:X.A.units+64 < cLine) (A:At1 X ρ q x i j a o) (cc:FoC X.K C) (he:JE X e f) (w:f ρ=some (.str k)) (hv:OP X C b ρ q v d) (hz:o.m.length < 1000) (hb:attributeBase (.Name x p) "sheets" X.env (eval (.Name x p) X.env)=eval (.Name x p) X.env:=by rfl)
  (hs:swapsWith v (some (.Subscript (.Attribute (.Name x p) "sheets" pos) e pos')) pos2.line X.env=pure false:=by rfl) :
  OS X C b ρ q (.Assign [.Subscript (.Attribute (.Name x p) "sheets" pos) e pos'] v pos2) (.nx ρ (q.set j (a,{ o with m:=i8 o.m k d }))) :=
 D9 (aM4 (by omega) (Y3 A cc (.inl rfl) hb) (he ρ _ w) hv hs) fun En σ H ⟨Hf,st,kk⟩=>⟨Hf,st,fun u H1 Hf1 g1 r1=>⟨Hf1,st.grow g1,fun cl y f1 hl=>by
  cases hl
  refine⟨_,Hf1,g1.sub,(st.grow g1).sl,fun y H2 Hf2 g2 r2=>?_⟩
  cases r2
  have st2:=(st.grow g1).grow g2
  have f2:=f1.grow g2
  obtain⟨kvs,e1,r3⟩:=f2.dic
  have lz:kvs.length=o.m.length:=RepKs.length r3
  refine⟨cl.d,_,rfl,aX3.k (k:=Sum.inr k) e1 (by rw[lz];exact Q5 (Nat.le_of_lt hz)),?_⟩
  obtain⟨c',f3,k3⟩:=st2.focus A.w A.o
  have:c'=cl:=FoAt.same f3 f2
  subst this
  exact kk σ _ Hf2 (k3 (Chg.wr g2.sub (by simp) (f2.fr _ (by simp))) (f2.wrD (r3.put (r1.mono g2.ext))) fun z hz=>.inl hz) (g1.ext.trans g2.ext)⟩⟩
theorem bM4(hu:X.A.units+64 < cLine) (A:At1 X ρ q x i j a o) (cc:FoC X.K C) (he:JE X e f) (w:f ρ=some (.str k)) (hl:(D7 o.m k).isSome=true) (m:M1 X (.Attribute (.Name x p) "sheets" pos) "pop" apos e cpos) (hb:attributeBase (.Name x p) "sheets" X.env (eval (.Name x p) X.env)=eval (.Name x p) X.env:=by rfl)
  (hs:swapsWith (.Call (.Attribute (.Attribute (.Name x p) "sheets" pos) "pop" apos) [e] [] cpos) none pos2.line X.env=pure false:=by rfl) :
  OS X C b ρ q (.Expr (.Call (.Attribute (.Attribute (.Name x p) "sheets" pos) "pop" apos) [e] [] cpos) pos2) (.nx ρ (q.set j (a,{ o with m:=u6 o.m k }))) :=
 D9 (ai3 (ay6 (Y3 A cc (.inl rfl) hb) (he ρ _ w) m) hs) fun En σ H ⟨Hf,st,kk⟩=>⟨Hf,st,fun cl y f1 hl'=>by
  cases hl'
  obtain⟨k0,e0,_⟩:=f1.dic
  refine⟨cl.d,rfl,.inl ⟨k0,.inl e0⟩,_,Hf,st.same,st.sl,fun y H2 Hf2 g2 r2=>?_⟩
  cases r2
  have st2:=st.grow g2
  have f2:=f1.grow g2
  obtain⟨kvs,e1,r3⟩:=f2.dic
  rcases r3.look k with⟨l1,_⟩|⟨d,v,l1,l2,l3⟩
  ·rw[l1]at hl;cases hl
  refine⟨kvs,Sum.inr k,v,e1,rfl,l2,?_⟩
  obtain⟨c',f3,k3⟩:=st2.focus A.w A.o
  have:c'=cl:=FoAt.same f3 f2
  subst this
  exact kk σ _ Hf2 (k3 (Chg.wr g2.sub (by simp) (f2.fr _ (by simp))) (f2.wrD r3.drop) fun z hz=>.inl hz) g2.ext⟩
theorem bd1(A:At1 X ρ q x i j a o) (cc:FoC X.K C) (hv:OP X C b ρ q e d) (hz:o.b.length < 1000) (hb:attributeBase (.Name x p) "steps_back" X.env (eval (.Name x p) X.env)=eval (.Name x p) X.env:=by rfl)
  (hbase:attributeBase (.Attribute (.Name x p) "steps_back" pos) "append" X.env (eval (.Attribute (.Name x p) "steps_back" pos) X.env)=eval (.Attribute (.Name x p) "steps_back" pos) X.env:=by rfl)
  (hfew:((backTo cpos (starEach [e] X.env)).all (fun x=>!x.1)&&(backToKw cpos (keywordEach [] X.env)).all (fun x=>x.1.isSome)
   && decide (([e]:List Expr).length+([]:List Keyword).length+(if([]:List Keyword).isEmpty then 0 else 1) < 30))=true:=by rfl)
  (hline:(apos.endLine==cpos.line)=true:=by rfl) (hst:starEach [e] X.env=[(false,eval e X.env)]:=by rfl)
  (hs:swapsWith (.Call (.Attribute (.Attribute (.Name x p) "steps_back" pos) "append" apos) [e] [] cpos) none pos2.line X.env=pure false:=by rfl) :
  OS X C b ρ q (.Expr (.Call (.Attribute (.Attribute (.Name x p) "steps_back" pos) "append" apos) [e] [] cpos) pos2) (.nx ρ (q.set j (a,{ o with b:=o.b++[d] }))) :=
 D9 (ai3 (bD2 PySem.F.plainAttrs_list PySem.F.slot_list_append PySem.F.type_list_append ae3 (Y3 A cc (.inr (.inl rfl)) hb) (E2 hv M3 hst) hbase hfew hline hst (by rfl)) hs) fun En σ H ⟨Hf,st,kk⟩=>⟨Hf,st,fun cl y f1 hl=>by
  cases hl
  obtain⟨vb,e0,_⟩:=f1.bk
  refine⟨.inl ⟨rfl,vb,SqL.of e0⟩,Hf,st,fun v H2 Hf2 g2 r2=>?_⟩
  have st2:=st.grow g2
  have f2:=f1.grow g2
  obtain⟨vs,e1,r3⟩:=f2.bk
  refine⟨cl.lb,vs,v,rfl,rfl,e1,by rw[r3.length];exact Q5 (Nat.le_of_lt hz),?_⟩
  obtain⟨c',f3,k3⟩:=st2.focus A.w A.o
  have:c'=cl:=FoAt.same f3 f2
  subst this
  exact kk σ _ Hf2 (k3 (Chg.wr g2.sub (by simp) (f2.fr _ (by simp))) (f2.wrB (r3.append ⟨v,[],rfl,r2,rfl⟩)) fun z hz=>.inl hz) g2.ext⟩
theorem bM5(A:At1 X ρ q x i j a o) (cc:FoC X.K C) (hs:swapsWith (.List [] lp) (some (.Attribute (.Name x p) "steps_forth" pos')) pos.line X.env=pure false:=by rfl) :
  OS X C b ρ q (.Assign [.Attribute (.Name x p) "steps_forth" pos'] (.List [] lp) pos) (.nx ρ (q.set j (a,{ o with f:=[] }))) :=
 D9 (at8 (P2 A.n A.v A.d1 A.d2) (at9 M3) hs) fun En σ H ⟨Hf,st,kk⟩=>⟨by show 0<=sizeLine;decide,fun l hl=>by
  have g:Grow H Hf (upd H l (.lst [])) Hf:=Grow.made st.same hl
  obtain⟨c',f0,k3⟩:=st.focus A.w A.o
  have f3:=f0.grow g
  obtain⟨k0,e1,r1⟩:=f3.dic
  obtain⟨vb,e2,r2⟩:=f3.bk
  have ne:∀y∈cells a c',l≠y:=fun y hy z=>f0.there y hy (by rw[← z];exact hl)
  refine⟨_,ab1 st A.s,a,C,c'.dx,aC0 c',rfl,f3.ins,cc.cl,cc.n3,by show 3 < 1000;decide,?_⟩
  refine kk σ _ Hf (k3 (c':={ c' with lf:=l }) ((Chg.of g).trans (Chg.wr (S:=cells a c') g.sub (by simp) (f3.fr _ (by simp))) fun _ h=>.inl h) ?_ fun z hz=>?_) (B3.refl _)
  ·refine⟨by rw[A5];rfl,⟨k0,by rw[A3 (t7 e1 f3.ins (by intro z;cases z))];exact e1,r1⟩,⟨vb,by rw[A3 (t7 e2 f3.ins (by intro z;cases z))];exact e2,r2⟩,⟨[],by rw[A3 (ne a (by simp)),A5],rfl⟩,(ne c'.lb (by simp)).symm,fun z hz=>?_⟩
   simp only[List.mem_cons,List.not_mem_nil,or_false]at hz
   rcases hz with rfl|rfl|rfl|rfl
   ·exact f3.fr _ (by simp)
   ·exact f3.fr _ (by simp)
   ·exact f3.fr _ (by simp)
   ·exact st.same.free hl
  ·simp only[List.mem_cons,List.not_mem_nil,or_false]at hz
   rcases hz with rfl|rfl|rfl|rfl
   ·exact .inl (by simp)
   ·exact .inl (by simp)
   ·exact .inl (by simp)
   ·exact .inr hl⟩
end
end G
namespace G
open PySem PySem.Spec PyProof.Rows L2
abbrev af4:=List (Str×MF×Nat)
def KM(K:PySem.W.Frag) (C:Addr) (m qual:Str) (st:Stmt):Prop:=∃(f:Addr) (oc:Value) (od:Option Addr) (sl:Array (Option Value)) (kV dc pm:Value) (an:Option Addr) (cd ct:Value),
 PySem.W.findIn K (.ref C) m=some (some (.ref f))/\PySem.W.isFn K (.ref f)=true/\K.lookup f=some ⟨oc,od,.func (PySem.W.fnOf m qual (R6 st) (A4 st) (A7 st) .none kV dc pm an cd ct),sl⟩/\PySem.W.codeIn K cd qual=true/\PySem.W.keepIn K (.ref f)=true
structure FitO (S:Sg) (ms:af4) (C:Addr) (c:Kx) (X:Cx):Prop where
 fit:Fit S c X
 foc:FoC X.K C
 mts:∀m F n,ms.lookup m=some (F,n)->an4 X C m n F
def OM(X:Cx) (C:Addr) (b:Bs) (ρ:Rho) (q:Os) (sts:List Stmt) (r:D) (q':Os):Prop:=OSs X C b ρ q sts (.rt r q')\/(r=.none/\∃ρ',OSs X C b ρ q sts (.nx ρ' q'))
def F8(n:Nat) (a:Addr) (ds:List D):Rho:=some (.opq a)::P8 n ds
theorem Z2{K:PySem.W.Frag}{H0 H Hf:Hp}{x:Str}{N:List Str}{ds:List D}{vs:List V}(r:Reps K Hf ds vs):Slots K H0 (F8 N.length a ds) (L2.start (x::N) (.ref a::vs)) H Hf:=by
 have s:=W3 (H0:=H0) (H:=H) (N:=N) r
 have e:L2.start (x::N) (.ref a::vs)=some (.ref a)::L2.start N vs:=by unfold L2.start;simp
 rw[e]
 refine⟨by unfold F8;simp[s.len],fun i b h=>?_,fun i j d1 d2 a h1 h2 h3 h4=>?_⟩
 ·cases i with
  | zero=>cases h;exact⟨_,rfl,rfl⟩
  | succ i=>exact s.is i b h
 ·cases i with
  | zero=>cases h1
  | succ i=>cases j with
   | zero=>cases h2
   | succ j=>exact congrArg _ (s.apart i j d1 d2 a h1 h2 h3 h4)
section
variable {P:Program}{w:World}{K:PySem.W.Frag}{mg:Str->Option Value}{base:Heap}{cs:List (Str×D)}{bl:List Str}{C:Addr}{ms:af4}
def MOk(P:Program) (w:World) (K:PySem.W.Frag) (mg:Str->Option Value) (base:Heap) (C:Addr) (k:Nat) (ms:af4):Prop:=∀m F n,ms.lookup m=some (F,n)->∃(f:Addr) (fd:FuncData) (ps:List Str),
 FnOk P w K mg base CX0 k f fd ps (spM K C n F)/\Meth K C m f/\K2 K fd ps []
theorem MOk.nil:MOk P w K mg base C 0 []:=fun x F n h=>by cases h
theorem MOk.mono(T:MOk P w K mg base C j ms) (h:j<=k):MOk P w K mg base C k ms:=fun x F n e=>by
 obtain⟨f,fd,ps,h1,h2⟩:=T x F n e
 exact⟨f,fd,ps,h1.mono h,h2⟩
theorem MOk.cons(T:MOk P w K mg base C k ms) (h:∃(f:Addr) (fd:FuncData) (ps:List Str),FnOk P w K mg base CX0 k f fd ps (spM K C n F)/\Meth K C m f/\K2 K fd ps []):MOk P w K mg base C k ((m,F,n)::ms):=fun y G j e=>by
 rw[List.lookup_cons]at e
 split at e
 ·rename_i q
  cases e
  simp only[beq_iff_eq]at q
  subst q
  exact h
 ·exact T y G j e
def BdM(d:Fd) (qual:Str):Prop:=∀(kV doc pm:Value) (an:Option Addr) (cdv ct:Value),UA d.ps.length fun us=>bindArgs (PySem.W.fnOf d.x qual (R6 d.st) (A4 d.st) (A7 d.st) .none kV doc pm an cdv ct) ⟨us,[]⟩=pure (d.ps.zip us)
theorem ca3(M:Md K mg cs bl) (T:TOk P w K mg base k tab) (Mk:MOk P w K mg base C k ms) (Fc:FoC K C) (d:Fd) (hN:d.N=s0::N) (hp:d.ps.length=n+1) (ok:d.okB=true) (Fn:Fun K d.x qual d.st f fd)
  (js:∀X:Cx,FitO ⟨tab,cs,bl⟩ ms C d.c X->∀b a o ds r o',ds.length=n->F o ds=some (r,o')->OM X C b (F8 N.length a ds) [(a,o)] (A4 d.st) r [(a,o')]):FnOk P w K mg base CX0 (k+1) f fd d.ps (spM K C n F):=by
 have Sc:=Fd.sc ok
 refine Fn.ok Sc (fun vs H Q E h=>?_) fun cdv A outer s H vs Q E hr hsp=>?_
 ·obtain⟨a,us,Hf,c,o,ds,r,o',rfl,h2,_⟩:=h
  simp[h2,hp]
 obtain⟨a,us,Hf,c,o,ds,r,o',rfl,h2,ss,fo,rp,e,kk⟩:=hsp
 have X0:FitO ⟨tab,cs,bl⟩ ms C d.c (l7 CX0 P w K mg base d.N qual (A7 d.st) f cdv A outer s H E).nox:=by
  refine⟨⟨rfl,rfl,Sc.nd,rfl,rfl,hr.units,fun _=>⟨fun _=>rfl,Sc.kind⟩,fun x F n h=>?_,M.css,M.bls⟩,Fc,fun m F n h=>?_⟩
  ·exact(T x F n h).imp (fun⟨f',fd',ps,h1,h2,h3,h4⟩=>⟨k,f',fd',ps,h1,hr,h2,h3,h4⟩) id
  ·obtain⟨f',fd',ps,h1,h2,h3⟩:=Mk m F n h
   exact⟨k,f',fd',ps,h1,hr,h2,h3⟩
 have hl:ds.length=n:=by rw[← h2,rp.length]
 have st:OSt K C ⟨cells a c,H,Hf⟩ (F8 N.length a ds) [(a,o)] (start d.N (.ref a::us)) H Hf:=⟨Chg.of (Grow.refl ss),cells a c++[],.cons fo (by simp) .nil,fun x hx=>.inl (by simpa using hx),by rw[hN];exact Z2 rp⟩
 have fin:∀ρ' σ' v H' Hf',OSt K C ⟨cells a c,H,Hf⟩ ρ' [(a,o')] σ' H' Hf'->Rep K Hf' r v->Q v H':=fun ρ' σ' v H' Hf' s' rv=>by
  obtain⟨R,ob,hR,_⟩:=s'.ob
  cases ob with
  | @cons _ c' _ _ R0 fo' _ _=>exact kk v H' Hf' c' s'.gr fo' (fun x hx=>hR x (List.mem_append_left _ hx)) rv
 rcases js _ X0 ⟨cells a c,H,Hf⟩ a o ds r o' hl e with j|⟨rfl,ρ',j⟩
 ·exact⟨_,j,Hf,st,fin⟩
 ·exact⟨_,j,Hf,st,fun σ' H' Hf' s' _=>fin _ _ _ _ _ s' rfl⟩
theorem MOk.add(Mk:MOk P w K mg base C k ms) (M:Md K mg cs bl) (T:TOk P w K mg base k tab) (Fc:FoC K C) (d:Fd) (h:KM K C d.x qual d.st) (F:MF) (n:Nat) (s0:Str) (N:List Str)
  (js:∀X:Cx,FitO ⟨tab,cs,bl⟩ ms C d.c X->∀b a o ds r o',ds.length=n->F o ds=some (r,o')->OM X C b (F8 N.length a ds) [(a,o)] (A4 d.st) r [(a,o')])
  (hN:d.N=s0::N:=by rfl) (hp:d.ps.length=n+1:=by rfl) (ok:d.okB=true:=by kernel_rfl) (bd:BdM d qual:=by repeat (first|exact rfl|intro _)):MOk P w K mg base C (k+1) ((d.x,F,n)::ms):=by
 obtain⟨f,oc,od,sl,kV,dc,pm,an,cd,ct,a,i,l,cc,kk⟩:=h
 have Fn:=am4 l cc kk
 exact(Mk.mono (Nat.le_succ k)).cons ⟨f,_,d.ps,ca3 M T Mk Fc d hN hp ok Fn js,⟨a,i,kk⟩,.all (ua (bd kV dc pm an cd ct))⟩
end
def v7:MF:=fun o ds=>match ds with
 | [.str k,d]=>(isN d .none).bind fun t=>match t with
  | .bool true=>if(D7 o.m k).isSome then some (.none,{ o with m:=u6 o.m k }) else none
  | _=>if o.m.length < 1000 then some (.none,{ o with m:=i8 o.m k d }) else none
 | _=>none
def W7:MF:=fun o ds=>match ds with
 | [w,.str k,d]=>if o.b.length < 1000 then v7 { o with b:=o.b++[.tuple [w,.str k,(D7 o.m k).getD .none,d]],f:=[] } [.str k,d] else none
 | _=>none
def ao3:MF:=fun o ds=>match ds with
 | [.str k,d]=>(W7 o [.str "lay", .str k,d]).map fun r=>(.bool (D7 o.m k).isSome,r.2)
 | _=>none
def M7:MF:=fun o ds=>match ds with
 | [.str k]=>(D7 o.m k).map fun d=>(d,o)
 | _=>none
def ao2:MF:=fun o ds=>match ds with
 | [.str k]=>(D7 o.m k).bind fun d=>(W7 o [.str "take", .str k,.none]).map fun r=>(d,r.2)
 | _=>none
def X5(F1 F2:FnD):MF:=fun o ds=>match ds with
 | [m,.str k,.str j]=>(D7 o.m k).bind fun u=>(D7 o.m j).bind fun l=>(F1 [u,l]).bind fun t=>match t with
  | .bool true=>(F2 [m,u,l]).bind fun s=>(W7 o [.str "blend", .str j,s]).map fun r=>(s,r.2)
  | _=>none
 | _=>none
end G
namespace G
open PySem PySem.Spec PyProof.Rows L2
def W2(c:Kx):Bool:=c.N.all fun x=>ak2 c.sc x&&match c.sc.names.lookup x with|some .local=>true|_=>false
section
variable {X:Cx}{S:Sg}{ms:af4}{C:Addr}{c:Kx}{b:Bs}{a:Addr}{o o':Fo}{ds:List D}{r:D}{ρ:Rho}{q q':Os}
theorem FitO.nm{i:Nat}{x:Str}(F:FitO S ms C c X) (hl:W2 c=true) (h:c.N[i]? = some x):X.N[i]? = some x/\Vis X.env.scope x/\(x==("__debug__" : Str))=false/\(x==("__classdict__" : Str))=false/\Loc X.env.scope x:=by
 have:=List.all_eq_true.mp hl x (List.mem_of_getElem? h)
 simp only[Bool.and_eq_true]at this
 obtain⟨h1,h2,h3⟩:=S6 F.fit this.1
 refine⟨by rw[F.fit.N];exact h,h1,h2,h3,?_⟩
 have h4:=this.2
 split at h4
 ·rename_i e;rw[← F.fit.sc]at e;exact .inl e
 ·cases h4
theorem FitO.var(F:FitO S ms C c X) (hl:W2 c=true) (i:Nat) (h:c.N[i]? = some x):JE X (.Name x pos) (A2 i):=by
 obtain⟨h1,h2,h3,h4,_⟩:=F.nm hl h
 exact av1 i h1 h2 h3 h4
theorem FitO.slf(F:FitO S ms C c X) (hl:W2 c=true) (h:c.N[0]? = some x) (s:ρ[0]? = some (some (.opq a))) (w:V2 ρ=true):At1 X ρ [(a,o)] x 0 0 a o:=by
 obtain⟨h1,h2,h3,h4,_⟩:=F.nm hl h
 exact⟨h1,h2,h3,h4,s,rfl,w⟩
theorem bc9(h:JE X e f) (w:f ρ=some d) (n:isN d .none=some (.bool t)):OT X C b ρ q (.Compare e [.Is] [.Constant .none j p] pos) t q:=ae0 be3 (Q0 h w) (Q0 aH9 rfl) n
theorem ba4(F:FitO S ms C c X) (hN:c.N=[("self" : Str), "name", "sheet"]) (hl:W2 c=true) (h1:(p9.endLine==p11.line)=true) (e:v7 o ds=some (r,o')) :
  OM X C b (F8 2 a ds) [(a,o)] [.If (.Compare (.Name "sheet" p1) [.Is] [.Constant .none p2 p3] p4)
   [.Expr (.Call (.Attribute (.Attribute (.Name "self" p6) "sheets" p7) "pop" p9) [.Name "name" p10] [] p11) p12]
   [.Assign [.Subscript (.Attribute (.Name "self" p13) "sheets" p14) (.Name "name" p15) p16] (.Name "sheet" p17) p18] p19] r [(a,o')]:=by
 unfold v7 at e
 split at e
 ·rename_i ds k d
  obtain⟨t,e1,e2⟩:=Option.bind_eq_some_iff.mp e
  have A:At1 X (F8 2 a [.str k,d]) [(a,o)] "self" 0 0 a o:=F.slf hl (by rw[hN];rfl) rfl rfl
  have v1:∀{pos},JE X (.Name "name" pos) (A2 1):=fun{pos}=>F.var hl 1 (by rw[hN];rfl)
  have v2:∀{pos},JE X (.Name "sheet" pos) (A2 2):=fun{pos}=>F.var hl 2 (by rw[hN];rfl)
  have hu:=F.fit.units
  right
  cases t with
  | bool t =>
   cases t with
   | true =>
    dsimp only at e2
    split at e2
    ·rename_i hk
     cases e2
     exact⟨rfl,_,ab6 (ap8 (bc9 v2 rfl e1) (fun _=>ab6 (bM4 hu A F.foc v1 rfl hk ⟨rfl,rfl,h1,rfl⟩)) fun z=>by cases z)⟩
    ·cases e2
   | false =>
    dsimp only at e2
    split at e2
    ·rename_i hk
     cases e2
     exact⟨rfl,_,ab6 (ap8 (bc9 v2 rfl e1) (fun z=>by cases z) fun _=>ab6 (bM3 hu A F.foc v1 rfl (o4 v2 rfl) hk))⟩
    ·cases e2
  | _=>cases d<;>cases e1
 ·cases e
theorem FitO.call{e:Expr}{es:List Expr}(F:FitO S ms C c X) (h:S.fn.lookup x=some (Fx,n)) (hg:a8 c.sc x=true) (ha:JA X (e::es) g) (hn:(e::es).length=n:=by rfl)
  (he:starEach (e::es) X.env=(false,eval e X.env)::starEach es X.env:=by rfl) (hpl:(backTo pos (starEach es X.env)).any (·.1)=false:=by rfl):JE X (.Call (.Name x p) (e::es) [] pos) (B1 Fx g):=by
 obtain⟨g1,g2⟩:=S7 F.fit hg
 rcases F.fit.fns _ _ _ h with⟨k,f,fd,ps,hk,hr,hm,hkp,hb⟩|⟨hm,hb⟩
 ·exact aO6 hk hr g1 hm hkp hb ha hn g2 he hpl
 ·exact bE1 hb F.fit.units g1 hm ha hn g2 he hpl
theorem FitO.set(F:FitO S ms C c X) (hd:c.df=true) (hl:W2 c=true) (i:Nat) (h:c.N[i]? = some x) (he:OE X C b ρ q e d q') (hs:swapsWith e (some (.Name x pos')) pos.line X.env=pure false:=by rfl):OS X C b ρ q (.Assign [.Name x pos'] e pos) (.nx (ρ.set i (‹d›)) q'):=by
 obtain⟨h1,h2,h3,h4,h5⟩:=F.nm hl h
 exact bM2 i (by rw[F.fit.N];exact F.fit.nd) he h1 h5 hs ((F.fit.df hd).1 _)
theorem aR7(F:FitO S ms C c X) (hN:c.N=[("self" : Str), "word", "name", "sheet"]) (hl:W2 c=true) (hm:ms.lookup ("set_sheet" : Str)=some (v7,2)) (h1:(p3.endLine==p14.line)=true) (h2:(p8.endLine==p10.line)=true) (h3:(p22.endLine==p25.line)=true) (e:W7 o ds=some (r,o')) :
  OM X C b (F8 3 a ds) [(a,o)] [.Expr (.Call (.Attribute (.Attribute (.Name "self" p1) "steps_back" p2) "append" p3) [.Tuple [.Name "word" p4,.Name "name" p5,.Call (.Attribute (.Attribute (.Name "self" p6) "sheets" p7) "get" p8) [.Name "name" p9] [] p10,.Name "sheet" p11] p12 p13] [] p14) p15,
   .Assign [.Attribute (.Name "self" p16) "steps_forth" p17] (.List [] p18) p20,
   .Expr (.Call (.Attribute (.Name "self" p21) "set_sheet" p22) [.Name "name" p23,.Name "sheet" p24] [] p25) p26] r [(a,o')]:=by
 unfold W7 at e
 split at e
 ·rename_i ds w k d
  split at e
  ·rename_i hb
   have A:∀{o1:Fo},At1 X (F8 3 a [w,.str k,d]) [(a,o1)] "self" 0 0 a o1:=fun{o1}=>F.slf hl (by rw[hN];rfl) rfl rfl
   have v1:∀{pos},JE X (.Name "word" pos) (A2 1):=fun{pos}=>F.var hl 1 (by rw[hN];rfl)
   have v2:∀{pos},JE X (.Name "name" pos) (A2 2):=fun{pos}=>F.var hl 2 (by rw[hN];rfl)
   have v3:∀{pos},JE X (.Name "sheet" pos) (A2 3):=fun{pos}=>F.var hl 3 (by rw[hN];rfl)
   have r0:r=.none:=by
    unfold v7 at e
    dsimp only at e
    obtain⟨t,e1,e2⟩:=Option.bind_eq_some_iff.mp e
    split at e2<;>(split at e2<;>cases e2;rfl)
   refine .inr ⟨r0,_,F7 (bd1 A F.foc (bd3 (Y4 (o4 v1 rfl) (Y4 (o4 v2 rfl) (Y4 (bN1 F.fit.units A F.foc v2 rfl ⟨rfl,rfl,h2,rfl⟩) (Y4 (o4 v3 rfl) aN0)))) (by show 4<=1000;decide)) hb (hline:=h1)) (F7 (bM5 A F.foc) (ab6 (n9 (R4 (F.mts _ _ _ hm) F.foc A (by decide) (B8 v2 (B8 v3 O4)) rfl e) rfl)))⟩
  ·cases e
 ·cases e
theorem bf9(F:FitO S ms C c X) (hN:c.N=[("self" : Str), "name", "sheet", "was_there"]) (hd:c.df=true) (hl:W2 c=true) (hm:ms.lookup ("take_step" : Str)=some (W7,3)) (h3:(p22.endLine==p25.line)=true) (e:ao3 o ds=some (r,o')) :
  OM X C b (F8 3 a ds) [(a,o)] [.Assign [.Name "was_there" p1] (.Compare (.Name "name" p2) [.In] [.Attribute (.Name "self" p3) "sheets" p4] p5) p6,
   .Expr (.Call (.Attribute (.Name "self" p21) "take_step" p22) [.Constant (.str "lay") p7 p8,.Name "name" p23,.Name "sheet" p24] [] p25) p26,.Return (some (.Name "was_there" p9)) p10] r [(a,o')]:=by
 unfold ao3 at e
 split at e
 ·rename_i ds k d
  obtain⟨⟨r1,o1⟩,e1,e2⟩:=Option.map_eq_some_iff.mp e
  cases e2
  have A:∀{ρ:Rho},V2 ρ=true->ρ[0]? = some (some (.opq a))->At1 X ρ [(a,o)] "self" 0 0 a o:=fun{ρ} z1 z2=>F.slf hl (by rw[hN];rfl) z2 z1
  have v1:∀{pos},JE X (.Name "name" pos) (A2 1):=fun{pos}=>F.var hl 1 (by rw[hN];rfl)
  have v2:∀{pos},JE X (.Name "sheet" pos) (A2 2):=fun{pos}=>F.var hl 2 (by rw[hN];rfl)
  have v3:∀{pos},JE X (.Name "was_there" pos) (A2 3):=fun{pos}=>F.var hl 3 (by rw[hN];rfl)
  exact .inl (F7 (F.set hd hl 3 (by rw[hN];rfl) (bZ9 F.fit.units (A rfl rfl) F.foc v1 rfl).oe) (F7 (n9 (R4 (F.mts _ _ _ hm) F.foc (A rfl rfl) (by decide) (B8 k7 (B8 v1 (B8 v2 O4))) rfl e1) rfl) (u8 (u9 (Q0 v3 rfl)))))
 ·cases e
theorem aI8{rs:List Stmt}(F:FitO S ms C c X) (hN:c.N=[("self" : Str), "name"]) (hl:W2 c=true) (e:M7 o ds=some (r,o')) :
  OM X C b (F8 1 a ds) [(a,o)] [.If (.Compare (.Name "name" p1) [.NotIn] [.Attribute (.Name "self" p2) "sheets" p3] p4) rs [] p5,.Return (some (.Subscript (.Attribute (.Name "self" p6) "sheets" p7) (.Name "name" p8) p9)) p10] r [(a,o')]:=by
 unfold M7 at e
 split at e
 ·rename_i ds k
  obtain⟨d,e1,e2⟩:=Option.map_eq_some_iff.mp e
  cases e2
  have A:At1 X (F8 1 a [.str k]) [(a,o)] "self" 0 0 a o:=F.slf hl (by rw[hN];rfl) rfl rfl
  have v1:∀{pos},JE X (.Name "name" pos) (A2 1):=fun{pos}=>F.var hl 1 (by rw[hN];rfl)
  exact .inl (F7 (ap8 (ay9 F.fit.units A F.foc v1 rfl) (fun z=>by rw[e1]at z;cases z) fun _=>ai4) (u8 (u9 (bv3 F.fit.units A F.foc v1 rfl e1 fun _ _=>rfl).oe)))
 ·cases e
theorem bd9(F:FitO S ms C c X) (hN:c.N=[("self" : Str), "name", "sheet"]) (hd:c.df=true) (hl:W2 c=true) (hm:ms.lookup ("take_step" : Str)=some (W7,3)) (hf:ms.lookup ("fetch" : Str)=some (M7,1)) (h3:(p22.endLine==p25.line)=true) (h4:(p3.endLine==p5.line)=true) (e:ao2 o ds=some (r,o')) :
  OM X C b (F8 2 a ds) [(a,o)] [.Assign [.Name "sheet" p1] (.Call (.Attribute (.Name "self" p2) "fetch" p3) [.Name "name" p4] [] p5) p6,
   .Expr (.Call (.Attribute (.Name "self" p21) "take_step" p22) [.Constant (.str "take") p7 p8,.Name "name" p23,.Constant .none p24 p27] [] p25) p26,.Return (some (.Name "sheet" p9)) p10] r [(a,o')]:=by
 unfold ao2 at e
 split at e
 ·rename_i ds k
  obtain⟨d,e0,e⟩:=Option.bind_eq_some_iff.mp e
  obtain⟨⟨r1,o1⟩,e1,e2⟩:=Option.map_eq_some_iff.mp e
  cases e2
  have A:∀{ρ:Rho},V2 ρ=true->ρ[0]? = some (some (.opq a))->At1 X ρ [(a,o)] "self" 0 0 a o:=fun{ρ} z1 z2=>F.slf hl (by rw[hN];rfl) z2 z1
  have v1:∀{pos},JE X (.Name "name" pos) (A2 1):=fun{pos}=>F.var hl 1 (by rw[hN];rfl)
  have v2:∀{pos},JE X (.Name "sheet" pos) (A2 2):=fun{pos}=>F.var hl 2 (by rw[hN];rfl)
  have f1:M7 o [.str k]=some (r,o):=by unfold M7;simp only[e0,xms]
  exact .inl (F7 (F.set hd hl 2 (by rw[hN];rfl) (R4 (F.mts _ _ _ hf) F.foc (A rfl rfl) (by decide) (B8 v1 O4) rfl f1)) (F7 (n9 (R4 (F.mts _ _ _ hm) F.foc (A rfl rfl) (by decide) (B8 k7 (B8 v1 (B8 aH9 O4))) rfl e1) rfl) (u8 (u9 (Q0 v2 rfl)))))
 ·cases e
theorem aJ9{rs:List Stmt}{F1 F2:FnD}(F:FitO S ms C c X) (hN:c.N=[("self" : Str), "manner", "above", "below", "upper", "lower", "sheet"]) (hd:c.df=true) (hl:W2 c=true) (hm:ms.lookup ("take_step" : Str)=some (W7,3)) (hf:ms.lookup ("fetch" : Str)=some (M7,1))
  (h1:S.fn.lookup ("are_of_one_size" : Str)=some (F1,2)) (g1:a8 c.sc "are_of_one_size" = true) (h2:S.fn.lookup ("blended_sheets" : Str)=some (F2,3)) (g2:a8 c.sc "blended_sheets" = true) (h3:(p22.endLine==p25.line)=true) (h4:(p3.endLine==p5.line)=true) (h5:(q3.endLine==q5.line)=true) (e:X5 F1 F2 o ds=some (r,o')) :
  OM X C b (F8 6 a ds) [(a,o)] [.Assign [.Name "upper" p1] (.Call (.Attribute (.Name "self" p2) "fetch" p3) [.Name "above" p4] [] p5) p6,.Assign [.Name "lower" q1] (.Call (.Attribute (.Name "self" q2) "fetch" q3) [.Name "below" q4] [] q5) q6,
   .If (.UnaryOp .Not (.Call (.Name "are_of_one_size" r1) [.Name "upper" r2,.Name "lower" r3] [] r4) r5) rs [] r6,
   .Assign [.Name "sheet" s1] (.Call (.Name "blended_sheets" s2) [.Name "manner" s3,.Name "upper" s4,.Name "lower" s5] [] s6) s7,
   .Expr (.Call (.Attribute (.Name "self" p21) "take_step" p22) [.Constant (.str "blend") p7 p8,.Name "below" p23,.Name "sheet" p24] [] p25) p26,.Return (some (.Name "sheet" p9)) p10] r [(a,o')]:=by
 unfold X5 at e
 split at e
 ·rename_i ds m k j
  obtain⟨u,e0,e⟩:=Option.bind_eq_some_iff.mp e
  obtain⟨l,e1,e⟩:=Option.bind_eq_some_iff.mp e
  obtain⟨t,e2,e⟩:=Option.bind_eq_some_iff.mp e
  split at e
  ·obtain⟨s,e3,e⟩:=Option.bind_eq_some_iff.mp e
   obtain⟨⟨r1,o1⟩,e4,e5⟩:=Option.map_eq_some_iff.mp e
   cases e5
   have A:∀{ρ:Rho},V2 ρ=true->ρ[0]? = some (some (.opq a))->At1 X ρ [(a,o)] "self" 0 0 a o:=fun{ρ} z1 z2=>F.slf hl (by rw[hN];rfl) z2 z1
   have v1:∀{pos},JE X (.Name "manner" pos) (A2 1):=fun{pos}=>F.var hl 1 (by rw[hN];rfl)
   have v2:∀{pos},JE X (.Name "above" pos) (A2 2):=fun{pos}=>F.var hl 2 (by rw[hN];rfl)
   have v3:∀{pos},JE X (.Name "below" pos) (A2 3):=fun{pos}=>F.var hl 3 (by rw[hN];rfl)
   have v4:∀{pos},JE X (.Name "upper" pos) (A2 4):=fun{pos}=>F.var hl 4 (by rw[hN];rfl)
   have v5:∀{pos},JE X (.Name "lower" pos) (A2 5):=fun{pos}=>F.var hl 5 (by rw[hN];rfl)
   have v6:∀{pos},JE X (.Name "sheet" pos) (A2 6):=fun{pos}=>F.var hl 6 (by rw[hN];rfl)
   have f1:M7 o [.str k]=some (u,o):=by unfold M7;simp only[e0,xms]
   have f2:M7 o [.str j]=some (l,o):=by unfold M7;simp only[e1,xms]
   refine .inl (F7 (F.set hd hl 4 (by rw[hN];rfl) (R4 (F.mts _ _ _ hf) F.foc (A rfl rfl) (by decide) (B8 v2 O4) rfl f1)) (F7 (F.set hd hl 5 (by rw[hN];rfl) (R4 (F.mts _ _ _ hf) F.foc (A rfl rfl) (by decide) (B8 v3 O4) rfl f2))
    (F7 (ap8 (c:=false) (aM9 (av0 (au9 (F.call h1 g1 (B8 v4 (B8 v5 O4))))) ?_) (fun z=>by cases z) fun _=>ai4) (F7 (F.set hd hl 6 (by rw[hN];rfl) (Q0 (F.call h2 g2 (B8 v1 (B8 v4 (B8 v5 O4)))) e3))
     (F7 (n9 (R4 (F.mts _ _ _ hm) F.foc (A rfl rfl) (by decide) (B8 k7 (B8 v3 (B8 v6 O4))) rfl e4) rfl) (u8 (u9 (Q0 v6 rfl))))))))
   show Option.map _ (((F1 [u,l])).bind aF7)=_
   rw[e2];rfl
  ·cases e
 ·cases e
end
end G
namespace G
open PySem PySem.Spec PySem.W PyProof.Rows L2
def evT(lt:Nat->Nat->Bool) {α:Type}:KasT α->α
 | .ret a=>a
 | .ask i j k=>evT lt (k (lt i j))
section
variable {lt:Nat->Nat->Bool}
theorem i7(p:Array Nat) (s e:Nat):(kas_rev p s e).Perm p:=mirror_perm ..
end
end G
namespace G
open PySem PySem.Spec PySem.W PyProof.Rows L2 PySem.SeqAt
def Ask(n:Nat) {α:Type}(P:α->Prop):KasT α->Prop
 | .ret a=>P a
 | .ask i j k=>i < n/\j < n/\∀b,Ask n P (k b)
theorem Ask.bind{n:Nat}{α β:Type}{P:α->Prop}{P':β->Prop}{f:α->KasT β}(hf:∀a,P a->Ask n P' (f a)):∀{t:KasT α},Ask n P t->Ask n P' (t.bind f)
 | .ret a,h=>hf a h
 | .ask i j k,h=>⟨h.1,h.2.1,fun b=>Ask.bind hf (h.2.2 b)⟩
theorem Ask.ite{n:Nat}{α:Type}{P:α->Prop}{c:Prop} [Decidable c] {s t:KasT α}(h1:Ask n P s) (h2:Ask n P t):Ask n P (if c then s else t):=by split<;>assumption
def LoP(n:Nat) (p:Array Nat):Prop:=p.size=n/\∀x∈p,x < n
section
variable {n:Nat}(hn:0 < n)
include hn
theorem LoP.get{p:Array Nat}(h:LoP n p) (k:Nat):p.getD k 0 < n:=by
 rw[Array.getD_eq_getD_getElem?]
 rcases Nat.lt_or_ge k p.size with q|q
 ·rw[Array.getElem?_eq_getElem q];exact h.2 _ (Array.getElem_mem q)
 ·rw[Array.getElem?_eq_none q];exact hn
omit hn in
theorem LoP.perm{p q:Array Nat}(h:LoP n p) (e:q.Perm p):LoP n q:=⟨e.size_eq.trans h.1,fun x hx=>h.2 x (e.mem_iff.mp hx)⟩
theorem aK0{p:Array Nat}(h:LoP n p):∀(f m:Nat),Ask n (fun _=>True) (kas_asc p f m)
 | 0,_=>trivial
 | f+1,m=>⟨h.get hn _,h.get hn _,fun b=>.ite (c:=b=true) trivial (aK0 h f (m+1))⟩
theorem aj2:∀(f:Nat) (p:Array Nat) (m q:Nat),LoP n p->Ask n (fun r:Array Nat×Nat×Nat=>LoP n r.1) (kas_desc f p m q)
 | 0,_,_,_,h=>h
 | f+1,p,m,q,h=>⟨h.get hn _,h.get hn _,fun b=>.ite (c:=b=true) (.ite (aj2 f _ _ _ (h.perm (i7 ..))) (aj2 f _ _ _ h)) ⟨h.get hn _,h.get hn _,fun d=>.ite (c:=d=true) h (aj2 f _ _ _ h)⟩⟩
theorem ax7{p:Array Nat}(m r:Nat) (h:LoP n p):Ask n (fun r:Nat×Array Nat=>LoP n r.2) (kas_tail3 m r p):=by
 unfold kas_tail3
 refine Ask.bind (P:=fun _=>True) (fun m _=>?_) (aK0 hn (h.perm (i7 ..)) _ _)
 exact h.perm (i7 ..)
theorem ah0{p:Array Nat}(m r:Nat) (h:LoP n p):Ask n (fun r:Nat×Array Nat=>LoP n r.2) (kas_descPart m r p):=by
 unfold kas_descPart
 exact Ask.bind (fun x hx=>Ask.ite (ax7 hn _ _ (LoP.perm hx (i7 ..))) (ax7 hn _ _ hx)) (aj2 hn _ _ _ _ h)
theorem bm7{p:Array Nat}(r:Nat) (h:LoP n p):Ask n (fun r:Nat×Array Nat=>LoP n r.2) (kas_count r p):=by
 unfold kas_count
 refine Ask.bind (fun m _=>?_) (aK0 hn h _ _)
 refine Ask.ite h (Ask.ite ⟨h.get hn _,h.get hn _,fun b=>?_⟩ (ah0 hn _ _ h))
 exact Ask.ite (c:=b=true) h (ah0 hn _ _ (h.perm (i7 ..)))
theorem ak9{p:Array Nat}(h:LoP n p) (k:Nat):∀(f l r:Nat),Ask n (fun _=>True) (kas_place p k f l r)
 | 0,_,_=>trivial
 | f+1,l,r=>.ite (c:=l ≥ r) trivial ⟨h.get hn _,h.get hn _,fun b=>.ite (c:=b=true) (ak9 h k f _ _) (ak9 h k f _ _)⟩
theorem bn7:∀(f:Nat) (p:Array Nat) (k:Nat),LoP n p->Ask n (LoP n) (kas_bin f p k)
 | 0,_,_,h=>h
 | f+1,p,k,h=>by
  unfold kas_bin
  exact Ask.bind (fun l _=>bn7 f _ _ (h.perm (bubble_perm ..))) (ak9 hn h k _ _ _)
theorem br8:Ask n (LoP n) (kas_sort n):=by
 unfold kas_sort
 refine Ask.bind (fun r hr=>?_) (bm7 hn n (show LoP n (List.toArray (List.range n)) from⟨by simp,fun x hx=>by simpa using hx⟩))
 exact Ask.ite (bn7 hn _ _ _ hr) hr
end
theorem aQ9{n:Nat}{α:Type}{P:α->Prop}{cmp:Nat->Nat->(Bool->Shared->Prop)->Shared->Prop}{lt:Nat->Nat->Bool}{Q:α->Shared->Prop}{s:Shared}(hc:∀i j C,i < n->j < n->C (lt i j) s->cmp i j C s):∀{t:KasT α},Ask n P t->(P (evT lt t)->Q (evT lt t) s)->t.kasWp cmp Q s
 | .ret a,h,q=>q h
 | .ask i j k,h,q=>hc i j _ h.1 h.2.1 (aQ9 hc (h.2.2 _) q)
section
variable {prog:Program}{w:World}{A:Around}{E:Value->Shared->Prop}{s:Shared}
theorem bf8{a:Addr}{vs out:List Value}{n:Nat}{P:PySem.Fin->Shared->Prop}(ho:s.heap.get? a=some (seqObj "list" vs.toArray n)) (h64:vs.length < 64) (h1:vs.length < 2->out=vs)
  (hk:2<=vs.length->∀h':Heap,(∀b o,b≠a->s.heap.get? b=some o->h'.get? b=some o) ->
   wpAny (model prog w) A (keyKind' vs.toArray) (fun κ s'=>(kas_sort vs.length).kasWp (kas_ask prog w A κ vs) (fun p s''=>s''={ s with heap:=h' }/\(p.toList.map fun i=>vs.getD i Value.none)=out) s') (fun _ _=>False) { s with heap:=h' })
  (h:∀h' c,(∀b o,b≠a->s.heap.get? b=some o->h'.get? b=some o)->h'.get? a=some (seqObj "list" out.toArray c)->P (.done (.ret .none)) { s with heap:=h' }) :
  wpAny (model prog w) A (Builtin.«list.sort» ⟨[.ref a],[]⟩) P E s:=by
 have ha:a < s.heap.objs.size:=Heap.lt_size ho
 have hsz:vs.toArray.size=vs.length:=by simp
 obtain⟨e1,ho1⟩:∃e1,(s.heap.update a (Obj.mapSeq fun _=>(#[]:Array Value))).get? a=some (seqObj "list" #[] e1):=⟨_,get?_update_seq ho fun _=>#[]⟩
 have s1:=Heap.SameBut.update s.heap a (Obj.mapSeq fun _=>(#[]:Array Value))
 rw[list_sort_plain]
 refine wpAny_bind (listItems_at ho rfl ?_)
 refine wpAny_bind (listUpdate_at ho rfl ?_ (by rw[List.size_toArray,sizeLine_eq];omega) (Nat.zero_le _))
 refine wpAny_bind (seqEpoch_at ho1 rfl ?_)
 refine wpAny_bind (wpAny_newTuple ?_ (by show vs.length<=_;rw[sizeLine_eq];omega))
 refine wpAny_bind (wpAny_newList ?_ (Nat.zero_le _))
 refine wpAny_holding ?_
 have keep:∀b o,b≠a->s.heap.get? b=some o->(((s.heap.update a (Obj.mapSeq fun _=>(#[]:Array Value))).push (seqObj "tuple" vs.toArray 0)).push (seqObj "list" #[] 0)).get? b=some o:=fun b o hb q =>
  Heap.get?_push_of_some _ (Heap.get?_push_of_some _ (s1.extBut b o hb q))
 have ho3:(((s.heap.update a (Obj.mapSeq fun _=>(#[]:Array Value))).push (seqObj "tuple" vs.toArray 0)).push (seqObj "list" #[] 0)).get? a=some (seqObj "list" #[] e1):=Heap.get?_push_of_some _ (Heap.get?_push_of_some _ ho1)
 show wpAny _ _ _ _ _ { s with heap:=((s.heap.update a (Obj.mapSeq fun _=>(#[]:Array Value))).push (seqObj "tuple" vs.toArray 0)).push (seqObj "list" #[] 0) }
 generalize ((s.heap.update a (Obj.mapSeq fun _=>(#[]:Array Value))).push (seqObj "tuple" vs.toArray 0)).push (seqObj "list" #[] 0)=h3 at keep ho3
 have fin:∃c,(h3.update a (Obj.mapSeq fun _=>out.toArray)).get? a=some (seqObj "list" out.toArray c):=⟨_,get?_update_seq ho3 fun _=>out.toArray⟩
 obtain⟨c,hc⟩:=fin
 have keep':∀b o,b≠a->s.heap.get? b=some o->(h3.update a (Obj.mapSeq fun _=>out.toArray)).get? b=some o:=fun b o hb q=>(Heap.SameBut.update h3 a _).extBut b o hb (keep b o hb q)
 by_cases h2:vs.toArray.size < 2
 ·rw[if_pos h2,if_pos h2]
  refine wpAny_bind (wpAny_pure ?_)
  dsimp only
  rw[StateT.run_pure]
  refine wpAny_bind (wpAny_pure ?_)
  dsimp only
  have ez:(arrOf (SortSt.mk' general' (vs.toArray.zip vs.toArray) #[] 7 none)).map (·.2)=out.toArray:=by
   rw[h1 (by omega)]
   show(vs.toArray.zip vs.toArray).map (·.2)=vs.toArray
   apply Array.toList_inj.mp
   simp[List.map_snd_zip]
  rw[ez]
  refine wpAny_bind (seqEpoch_at ho3 rfl ?_)
  refine wpAny_bind (listUpdate_at ho3 rfl ?_ (Nat.zero_le _) (by rw[List.size_toArray,sizeLine_eq,h1 (by omega)];omega))
  show wpAny _ _ _ _ _ _
  simp only[bne_self_eq_false,xft,if_false]
  exact wpAny_pure (h _ c keep' hc)
 ·rw[if_neg h2,if_neg h2]
  refine wpAny_bind (wpAny_mono (hk (by omega) h3 keep) (fun κ s' hκ=>?_) fun _ _ x=>x.elim)
  refine wpAny_bind (wpAny_mono (kat_run (E:=E) (Q:=fun st' s''=>∃p:Array Nat,p.size=vs.length/\arrOf st'=p.map (kas_item (vs.toArray.zip vs.toArray))/\failedOf st'=none/\s''={ s with heap:=h3 }/\(p.toList.map fun i=>vs.getD i Value.none)=out) rfl (by omega) h64
   (fun p st' s'' a1 a2 a3 a4=>⟨p,a1,a2,a3,a4⟩) hκ) ?_ fun _ _ e=>e)
  rintro⟨⟨⟩,st'⟩ s'' ⟨p,hp,har,hf,rfl,e⟩
  dsimp only
  have ez:=kat_snds rfl har
  have hol:out.length=vs.length:=by rw[← e,List.length_map,Array.length_toList,hp]
  rw[e]at ez
  rw[ez]
  refine wpAny_bind (seqEpoch_at ho3 rfl ?_)
  refine wpAny_bind (listUpdate_at ho3 rfl ?_ (Nat.zero_le _) (by rw[List.size_toArray,sizeLine_eq];omega))
  rw[hf]
  simp only[bne_self_eq_false,xft,if_false]
  exact wpAny_pure (h _ c keep' hc)
end
theorem bo0{n:Nat}{α:Type}{P:α->Prop}(lt:Nat->Nat->Bool):∀{t:KasT α},Ask n P t->P (evT lt t)
 | .ret _,h=>h
 | .ask i j k,h=>bo0 (n:=n) (P:=P) lt (t:=k (lt i j)) (h.2.2 (lt i j))
end G
namespace G
open PySem PySem.Spec PySem.W PyProof.Rows L2 PySem.SeqAt
theorem aG0{prog:Program}{w:World}{A:Around}{E:Value->Shared->Prop}{s:Shared}{l:Addr}{Q:Value->Shared->Prop}
  (hcol:∀{E:Value->Shared->Prop}{R:List Value->Shared->Prop},(∀(vs out:List Value) (s1:Shared),vs.length < 64->(vs.length < 2->out=vs) ->
   (2<=vs.length->∀h':Heap,(∀b o,s1.heap.get? b=some o->h'.get? b=some o)->wpAny (model prog w) A.in1.in1 (keyKind' vs.toArray) (fun κ s'=>(kas_sort vs.length).kasWp (kas_ask prog w A.in1.in1 κ vs) (fun p s''=>s''={ s1 with heap:=h' }/\(p.toList.map fun i=>vs.getD i Value.none)=out) s') (fun _ _=>False) { s1 with heap:=h' }) ->
   (∀h' c,(∀b o,s1.heap.get? b=some o->h'.get? b=some o)->h'.get? s1.heap.objs.size=some (seqObj "list" out.toArray c)->Q (.ref s1.heap.objs.size) { s1 with heap:=h' })->R vs s1)->wpAny (model prog w) A.in1 (collect (.ref l)) R E s) :
  wpAny (model prog w) A (call (.builtin "sorted") [.ref l]) Q E s:=by
 refine Calls.call_function_entry kind_sorted plain_sorted entry_sorted (args_sorted1 _) ?_
 unfold Builtin.«sorted»
 refine wpAny_bind (m:=checkCount "sorted" 1 1 _) (wpAny_pure ?_)
 refine wpAny_bind (hcol fun vs out s1 h64 h1 hk h=>?_)
 refine wpAny_bind (wpAny_newList ?_ (by rw[sizeLine_eq];omega))
 have hoL:(s1.heap.push (seqObj "list" vs.toArray 0)).get? s1.heap.objs.size=some (seqObj "list" vs.toArray 0):=Heap.get?_push_size _ rfl
 have keep:∀b o,s1.heap.get? b=some o->(s1.heap.push (seqObj "list" vs.toArray 0)).get? b=some o:=fun b o q=>Heap.get?_push_of_some _ q
 show wpAny _ _ _ _ _ { s1 with heap:=s1.heap.push (seqObj "list" vs.toArray 0) }
 generalize s1.heap.push (seqObj "list" vs.toArray 0)=h3 at hoL keep
 have ne:∀b o,s1.heap.get? b=some o->b≠s1.heap.objs.size:=fun b o q=>Nat.ne_of_lt (Heap.lt_size q)
 refine wpAny_bind (wpAny_holding (wpAny_call_entry slot_list_sort ⟨_,hoL,rfl⟩ entry_list_sort ?body (args_list_sort _)))
 case body =>
  refine bf8 (s:={ s1 with heap:=h3 }) (out:=out) hoL h64 h1 (fun h2 h' kp=>hk h2 h' fun b o q=>kp b o (ne b o q) (keep b o q)) fun h' c kp e=>⟨_,rfl,wpAny_pure ⟨_,rfl,h h' c (fun b o q=>kp b o (ne b o q) (keep b o q)) e⟩⟩
section
variable {X:Cx}{pins:List (Addr×Obj)}{σ:L2.St}{H Hf:Hp}{s:Shared}
end
end G
namespace G
open PySem PySem.Spec PySem.W PyProof.Rows L2
theorem aD3{prog:Program}{w:World}{A:Around}{E:Value->Shared->Prop}{s:Shared}{T:String}{r d:Addr}{n:Nat}{P:Nat->Value->Prop}{OK:Heap->Prop}{Q:List Value->Shared->Prop}(K:KdlSrc prog w T r d n P OK) (hh:A.handled=none) (hok:OK s.heap) (hn:n<=sizeLine)
  (h:∀h' tk (vs:List Value),(∀b o,s.heap.get? b=some o->h'.get? b=some o)->vs.length=n->(∀j v,vs[j]? = some v->P j v)->Q vs { s with heap:=h',toks:=tk }):wpAny (model prog w) A (collect (.ref r)) Q E s:=by
 have lt:=K.there _ hok
 unfold collect
 refine wpAny_bind (wpAny_runValue (codeAny_builtin entry_proto_collect' ?_))
 rw[Around.under_plainId PySem.F.plain_proto_collect _]
 show wpAny _ A.in1 (newList [] >>= fun l=>again (.builtin "list.__iadd__" ⟨[l,.ref r],[]⟩)) _ _ s
 refine wpAny_bind (wpAny_newObj_type (wpAny_pure ⟨plainId_quiet PySem.F.plain_list_iadd _,codeAny_builtin entry_list_iadd' ?_⟩))
 rw[Around.under_plainId PySem.F.plain_list_iadd _]
 show wpAny _ A.in1 (Builtin.List.listExtendWith (.ref s.heap.objs.size) (.ref r) (.ref s.heap.objs.size)) _ _ { s with heap:=s.heap.push { cls:=.type "list", data:=.seq #[] } }
 have k1:∀b o,s.heap.get? b=some o->(s.heap.push { cls:=.type "list", data:=.seq #[] }).get? b=some o:=fun b o q=>Heap.get?_push_of_some _ q
 refine kdl_extend (R:=fun r s'=>match r with | .ok (.ret v)=>wpAny (model prog w) A (match v with | .ref a=>(do let o ← load a;match o.data with | .seq xs _=>pure xs.toList|_=>unsupported "internal:collect")|_=>unsupported "internal:collect") Q E s' | .ok _=>False | .error e=>E e s') (s:={ s with heap:=s.heap.push { cls:=.type "list", data:=.seq #[] } }) K hh (K.keep _ _ hok fun b _ o e=>k1 b o e) s.heap.objs.size (Nat.ne_of_gt lt.1) (Nat.ne_of_gt lt.2) (.ref s.heap.objs.size) 0 (Heap.get?_push_size _ rfl) (fun h' tk acc' c' hk hS' hacc=>?_) hn
 refine wpAny_bind (wpAny_load hS' (wpAny_pure ?_))
 exact h h' tk acc'.toList (fun b o e=>hk b o (Nat.ne_of_lt (Heap.lt_size e)) (k1 b o e)) (by rw[Array.length_toList];exact hacc.1) fun j v e=>hacc.2 j v (by rw[← Array.getElem?_toList];exact e)
def ltS(ks:List D) (i j:Nat):Bool:=match ks.getD i .none,ks.getD j .none with
 | .str a,.str b=>decide (a.cps.toList < b.cps.toList)
 | _,_=>false
def ax9(ks:List D):Option (List D):=if ks.length < 2 then some ks else if ks.length < 64 then some ((evT (ltS ks) (kas_sort ks.length)).toList.map fun i=>ks.getD i .none) else none
section
variable {X:Cx}{pins:List (Addr×Obj)}{σ:L2.St}{H Hf:Hp}{s:Shared}{K:PySem.W.Frag}
theorem RepKs.key:∀{m:List (D×D)}{kvs:List (Key×V)},RepKs K Hf m kvs->∀(j:Nat) (k:Key) (v:V),kvs[j]? = some (k,v)->∃(x:Str) (e:D),k=Sum.inr x/\m[j]? = some (PyData.str x,e)
 | [],_,h,j,k,v,e=>by cases h;cases e
 | (d,e0)::r,_,⟨y,w,t,h1,h2,h3,h4⟩,j,k,v,e=>by
  subst h1 h2
  cases j with
  | zero=>cases e;exact⟨_,_,rfl,rfl⟩
  | succ j=>exact RepKs.key h4 j k v e
inductive TxA:List D->List Value->Prop
 | nil:TxA [] []
 | cons {x:Str}{t:Tok}{ds:List D}{vs:List Value}:TxA ds vs->TxA (.str x::ds) (.str x t::vs)
theorem TxA.of:∀{ds:List D}{vs:List Value},vs.length=ds.length->(∀(j:Nat) (v:Value),vs[j]? = some v->∃(x:Str) (t:Tok),v=Value.str x t/\ds[j]? = some (PyData.str x))->TxA ds vs
 | [],[],_,_=>.nil
 | [],_::_,h,_=>by cases h
 | _::_,[],h,_=>by cases h
 | d::ds,v::vs,h,a=>by
  obtain⟨x,t,e1,e2⟩:=a 0 v rfl
  cases e1;cases e2
  exact .cons (TxA.of (by simpa using h) fun j v e=>a (j+1) v (by simpa using e))
theorem TxA.len(h:TxA ds vs):vs.length=ds.length:=by
 induction h with
 | nil=>rfl
 | cons _ ih=>simp[ih]
theorem TxA.at(h:TxA ds vs):∀i,i < ds.length->∃(x:Str) (t:Tok),ds.getD i .none=PyData.str x/\vs.getD i .none=Value.str x t:=by
 induction h with
 | nil=>intro i hi;simp at hi
 | @cons x t ds vs h ih =>
  intro i hi
  cases i with
  | zero=>exact⟨x,t,rfl,rfl⟩
  | succ i=>obtain⟨y,u,e1,e2⟩:=ih i (by simpa using hi);exact⟨y,u,by simpa using e1,by simpa using e2⟩
theorem TxA.pick(h:TxA ds vs):∀{p:List Nat},(∀i∈p,i < ds.length)->TxA (p.map fun i=>ds.getD i .none) (p.map fun i=>vs.getD i Value.none)
 | [],_=>.nil
 | i::p,hp=>by
  obtain⟨x,t,e1,e2⟩:=h.at i (hp i (.head _))
  rw[xmc,xmc,e1,e2]
  exact .cons (TxA.pick h fun j hj=>hp j (.tail _ hj))
def bJ2:D->V
 | .str x=>.str x
 | _=>.non
theorem TxA.vals(h:TxA ds vs):B9 (ds.map bJ2) vs:=by
 induction h with
 | nil=>exact .nil
 | @cons x t ds vs h ih=>exact .cons ⟨t,rfl⟩ ih
theorem TxA.reps(h:TxA ds vs):Reps K Hf ds (ds.map bJ2):=by
 induction h with
 | nil=>rfl
 | @cons x t ds vs h ih=>exact⟨_,_,rfl,rfl,ih⟩
theorem kvg{κ:Type}{p:List (κ×V)}{q:List (κ×Value)}(h:KV p q):∀{j:Nat}{y:κ×Value},q[j]? = some y->∃x,p[j]? = some x/\x.1=y.1/\B6 x.2 y.2:=by
 induction h with
 | nil=>intro j y e;cases e
 | cons a _ ih =>
  intro j y e
  cases j with
  | zero=>cases e;exact⟨_,rfl,a⟩
  | succ j=>exact ih e
theorem ba0{Q:VK}{d:Addr}{kvs:List (Key×V)}{m:List (D×D)}{out:List D}(hc:X.A.handled=none) (I:Inv X pins σ H s) (e:H d=some (.dK kvs)) (rk:RepKs X.K Hf m kvs) (e3:ax9 (m.map (·.1))=some out)
  (k:∀l us,H l=none->Reps X.K Hf out us->us.length < 64->Q (.ref l) (upd H l (.lst us))):wpAny (model X.prog X.w) X.A (call (.builtin "sorted") [.ref d]) (EP X pins σ Q) X.xe s:=by
 obtain⟨z1,z2,vs,kv,o,es,ep,hd⟩:=aP4 I.hok e
 have nk:=kv.length
 have nm:=rk.length
 refine aG0 fun{E R} hR=>aD3 (A:=X.A.in1) (kdl_dict (knd:=K1 X.prog X.w) (kvs:=vs) (ep:=ep) z2) hc ⟨o,es,hd⟩ (by rw[← nk];exact z1) fun h' tk its kp hl hP=>?_
 have T:TxA (m.map (·.1)) its:=TxA.of (by simp;omega) fun j v hj=>by
  obtain⟨k,x,hk,hi⟩:=hP j v hj
  obtain⟨⟨k1,y1⟩,hk',r1,r2⟩:=kvg kv hk
  cases r1
  obtain⟨y,ed,h1,h2⟩:=RepKs.key rk j _ _ hk'
  cases h1
  obtain⟨t,rfl⟩:∃t,v=Value.str y t:=by
   rcases L2.L9 (show L2.al9 (Sum.inr y) v=true from hi) with⟨_,_,z,_⟩|⟨_,t,z,z2⟩
   ·cases z
   ·cases z;exact⟨t,z2⟩
  exact⟨y,t,rfl,by rw[List.getElem?_map,h2];rfl⟩
 have I':Inv X pins σ H { s with heap:=h',toks:=tk }:=am2 (ch:=[]) I (fun _ h=>nomatch h) fun b u _ q=>kp b u q
 have tl:=T.len
 have fin:∀(ds:List D) (ws:List Value),TxA ds ws->ds.length < 64->ds=out->∀(h2:Heap) (c:Nat),(∀b o,h'.get? b=some o->h2.get? b=some o)->h2.get? h'.objs.size=some (seqObj "list" ws.toArray c)->EP X pins σ Q (.ref h'.objs.size) { s with heap:=h2,toks:=tk }:=fun ds ws t hz ho h2 c kp2 eo=>by
  subst ho
  have fr:=I'.hok.fresh (Nat.le_refl h'.objs.size)
  exact⟨.ref h'.objs.size,_,I'.laid (t':=tk) kp2 (Nat.le_refl _) (show N8 X.prog X.w _ h2 _ (.lst (ds.map bJ2)) from⟨by rw[List.length_map,sizeLine_eq];omega,_,c,t.vals,eo⟩),rfl,k _ _ fr t.reps (by rw[List.length_map];exact hz)⟩
 unfold ax9 at e3
 split at e3
 ·rename_i h2
  cases e3
  exact hR its its _ (by omega) (fun _=>rfl) (fun h3=>absurd h3 (by omega)) fun h2' c kp2 eo=>fin _ its T (by omega) rfl h2' c kp2 eo
 ·split at e3
  ·rename_i h2 h3
   cases e3
   have pin:=br8 (n:=(m.map (·.1)).length) (by omega)
   have lo:=bo0 (ltS (m.map (·.1))) pin
   have plo:∀i∈(evT (ltS (m.map (·.1))) (kas_sort (m.map (·.1)).length)).toList,i < (m.map (·.1)).length:=fun i hi=>lo.2 i (by simpa using hi)
   refine hR its ((evT (ltS (m.map (·.1))) (kas_sort (m.map (·.1)).length)).toList.map fun i=>its.getD i Value.none) _ (by omega) (fun h3=>absurd h3 (by omega)) (fun _ h4 kp4=>?_) fun h2' c kp2 eo=>fin _ _ (T.pick plo) (by rw[List.length_map,Array.length_toList,lo.1];exact h3) rfl h2' c kp2 eo
   refine kas_kind (T:=.type "str") (by omega) (fun v hv=>?_) (by rfl) (by rfl) ?_
   ·obtain⟨j,hj,rfl⟩:=List.getElem_of_mem hv
    obtain⟨x,t,e1,e2⟩:=T.at j (by omega)
    have:its[j]=.str x t:=by rw[← e2];simp[hj]
    rw[this]
    exact Looks.of_pure rfl
   ·rw[tl]
    refine aQ9 (P:=LoP (m.map (·.1)).length) (lt:=ltS (m.map (·.1))) (fun i j C hi hj hC=>?_) pin fun _=>⟨rfl,rfl⟩
    unfold kas_ask
    obtain⟨x,t,e1,e2⟩:=T.at i hi
    obtain⟨y,u,f1,f2⟩:=T.at j hj
    rw[e2,f2]
    refine kas_lt_str ?_
    unfold ltS at hC
    rw[e1,f1]at hC
    exact hC
  ·cases e3
end
end G
namespace G
open PySem PySem.Spec PyProof.Rows L2
def j9:MF:=fun o ds=>match ds with
 | []=>(ax9 (o.m.map (·.1))).map fun out=>(.list out,o)
 | _=>none
def br7(K:PySem.W.Frag) (C:Addr):Sp:=fun vs H Q _=>∃a Hf c o out,vs=[.ref a]/\B3 Hf H/\FoAt K C H Hf a c o/\ax9 (o.m.map (·.1))=some out/\∀l us,H l=none->Reps K Hf out us->us.length < 64->Q (.ref l) (upd H l (.lst us))
def cm3(X:Cx) (C:Addr):Prop:=∃k f fd ps,FnOk X.prog X.w X.K X.mg X.base CX0 k f fd ps (br7 X.K C)/\Room k X.A/\Meth X.K C "names" f/\K2 X.K fd ps []
theorem cb2{K:PySem.W.Frag}{C:Addr}:∀vs H Q E,spM K C 0 j9 vs H Q E->br7 K C vs H Q E:=fun vs H Q E ⟨a,us,Hf,c,o,ds,r,o',h1,h2,ss,fo,rp,e,kk⟩=>by
 cases List.length_eq_zero_iff.mp h2
 cases ds with
 | cons d ds=>obtain⟨_,_,z,_⟩:=rp;cases z
 | nil =>
  obtain⟨out,e1,e2⟩:=Option.map_eq_some_iff.mp e
  cases e2
  exact⟨a,Hf,c,o,out,h1,ss,fo,e1,fun l us hl rs hz=>kk (.ref l) (upd H l (.lst us)) (upd Hf l (.lst us)) c (Chg.of (Grow.laid ss hl)) (fo.grow (Grow.laid ss hl)) (fun x hx=>.inl hx) ⟨l,us,rfl,SqL.of A5,rs.mono (C6 (ss.free hl))⟩⟩
section
variable {X:Cx}
theorem ar1(hc:X.calm=true):m4 X (.builtin "sorted") (fun vs H Q=>∃d kvs Hf m out,vs=[.ref d]/\H d=some (.dK kvs)/\RepKs X.K Hf m kvs/\ax9 (m.map (·.1))=some out/\∀l us,H l=none->Reps X.K Hf out us->us.length < 64->Q (.ref l) (upd H l (.lst us))):=by
 intro pins s σ H vs us Q I rv ⟨d,kvs,Hf,m,out,e0,e1,rk,e3,k⟩
 subst e0
 obtain⟨u,rfl,rx⟩:=ak3 rv
 cases rx
 exact ba0 (I.ok.hd hc) I e1 rk e3 k
end
section
variable {P:Program}{w:World}{K:PySem.W.Frag}{mg:Str->Option Value}{base:Heap}{cs:List (Str×D)}{bl:List Str}{C:Addr}{tab:Tab}{ms:af4}
theorem cb3(M:Md K mg cs bl) (T:TOk P w K mg base k tab) (Fc:FoC K C) (d:Fd) (hN:d.N=[("self" : Str)]) (hp:d.ps.length=1) (ok:d.okB=true) (hl:W2 d.c=true) (hs:biB ⟨tab,cs,bl⟩ d.c "sorted" "sorted" = true) (Fn:Fun K d.x qual d.st f fd)
  (hb:A4 d.st=[.Return (some (.Call (.Name "sorted" p1) [.Attribute (.Name "self" p2) "sheets" p3] [] p4)) p5]):FnOk P w K mg base CX0 (k+1) f fd d.ps (br7 K C):=by
 have Sc:=Fd.sc ok
 refine Fn.ok Sc (fun vs H Q E h=>?_) fun cdv A outer s H vs Q E hr hsp=>?_
 ·obtain⟨a,Hf,c,o,out,rfl,_⟩:=h
  simp[hp]
 obtain⟨a,Hf,c,o,out,rfl,ss,fo,e,kk⟩:=hsp
 have F:FitO ⟨tab,cs,bl⟩ [] C d.c (l7 CX0 P w K mg base d.N qual (A7 d.st) f cdv A outer s H E).nox:=by
  refine⟨⟨rfl,rfl,Sc.nd,rfl,rfl,hr.units,fun _=>⟨fun _=>rfl,Sc.kind⟩,fun x F n h=>?_,M.css,M.bls⟩,Fc,fun m F n h=>by cases h⟩
  exact(T x F n h).imp (fun⟨f',fd',ps,h1,h2,h3,h4⟩=>⟨k,f',fd',ps,h1,hr,h2,h3,h4⟩) id
 obtain⟨_,g1,g2⟩:=O1 F.fit hs
 have st:OSt K C ⟨cells a c,H,Hf⟩ (F8 0 a []) [(a,o)] (start d.N [.ref a]) H Hf:=⟨Chg.of (Grow.refl ss),cells a c++[],.cons fo (by simp) .nil,fun x hx=>.inl (by simpa using hx),by rw[hN];exact Z2 (N:=[]) (vs:=[]) rfl⟩
 have A1:At1 _ (F8 0 a []) [(a,o)] "self" 0 0 a o:=F.slf hl (show d.N[0]? = _ by rw[hN];rfl) rfl rfl
 rw[hb]
 refine⟨_,m8 (ad9 (Q9 (ar1 F.fit.calm) g1 g2 (by rfl) (E2 (Y3 (b:=⟨cells a c,H,Hf⟩) A1 Fc (.inl rfl) rfl) M3))),Hf,st,fun cl v fa hv=>?_⟩
 cases hv
 obtain⟨kvs,e1,r1⟩:=fa.dic
 exact⟨cl.d,kvs,Hf,o.m,out,rfl,e1,r1,e,kk⟩
end
section
variable {X:Cx}{C:Addr}{b:Bs}{ρ:Rho}{q:Os}{o:Fo}{a:Addr}
end
end G
namespace G
open PySem PySem.Spec PyProof.Rows L2
def bY2(as:List Addr):Option B->Option B
 | some (.opq j)=>some (.opq (as.getD j 0))
 | b=>b
abbrev sub(as:List Addr) (ρ:Rho):Rho:=ρ.map (bY2 as)
def K5:Option B->Option B
 | some (.opq _)=>none
 | b=>b
abbrev era(ρ:Rho):Rho:=ρ.map K5
theorem W9(as:List Addr) (ρ:Rho):era (sub as ρ)=era ρ:=by
 unfold era sub
 rw[List.map_map]
 refine List.map_congr_left fun b _=>?_
 cases b with
 | none=>rfl
 | some b=>cases b<;>rfl
theorem aT2(as:List Addr) (ρ:Rho):V2 (sub as ρ)=V2 ρ:=rfl
def okR(n:Nat) (ρ:Rho):Bool:=ρ.all fun x=>match x with
 | some (.opq j)=>decide (j < n)
 | _=>true
theorem al1(h:okR n ρ=true):V2 ρ=true:=rfl
theorem bd8(h:okR n ρ=true) (l:n<=m):okR m ρ=true:=by
 unfold okR at h ⊢
 rw[List.all_eq_true]at h ⊢
 intro x hx
 have:=h x hx
 split
 ·exact decide_eq_true (Nat.lt_of_lt_of_le (of_decide_eq_true this) l)
 ·rfl
theorem aN2{ρ:Rho}{i n:Nat}{x:Option B}(h:okR n ρ=true) (h2:∀j,x=some (.opq j)->j < n):okR n (ρ.set i x)=true:=by
 unfold okR at h ⊢
 rw[List.all_eq_true]at h ⊢
 intro y hy
 rcases List.mem_or_eq_of_mem_set hy with q|rfl
 ·exact h y q
 ·split
  ·exact decide_eq_true (h2 _ rfl)
  ·rfl
theorem aN1{ρ:Rho}{i n:Nat}{d:D}(h:okR n ρ=true):okR n (ρ.set i (‹d›))=true:=aN2 h (by intro _ z;cases z)
theorem aZ7(h:okR as.length ρ=true) (ex:List Addr):sub (as++ex) ρ=sub as ρ:=by
 unfold sub
 refine List.map_congr_left fun x hx=>?_
 have:=List.all_eq_true.mp h x hx
 cases x with
 | none=>rfl
 | some x =>
  cases x with
  | opq j =>
   have hj:j < as.length:=of_decide_eq_true this
   show some (B.opq _)=some (B.opq _)
   rw[List.getD_eq_getElem?_getD,List.getD_eq_getElem?_getD,List.getElem?_append_left hj]
  | _=>rfl
theorem aL2(as:List Addr) (ρ:Rho) (i:Nat) (d:D):sub as (ρ.set i (‹d›))=(sub as ρ).set i (‹d›):=by unfold sub;rw[List.map_set];rfl
section
variable {K:PySem.W.Frag}{C:Addr}{b:Bs}{ρ:Rho}{q:Os}{σ:L2.St}{H Hf H0:Hp}
theorem Slots.era(s:Slots K H0 ρ σ H Hf):Slots K H0 (era ρ) σ H Hf:=by
 have at_:∀(i:Nat) (b:B),(G.era ρ)[i]? = some (some b)->ρ[i]? = some (some b):=fun i b e=>by
  unfold G.era at e
  rw[List.getElem?_map]at e
  obtain⟨x,e1,e2⟩:=Option.map_eq_some_iff.mp e
  rw[e1]
  cases x with
  | none=>cases e2
  | some x=>cases x<;>first|exact congrArg some e2|cases e2
 exact⟨by rw[List.length_map];exact s.len,fun i b e=>s.is i b (at_ i b e),fun i j d1 d2 a h1 h2=>s.apart i j d1 d2 a (at_ i _ h1) (at_ j _ h2)⟩
end
abbrev Fs:=List Fo
abbrev UD:=Rho->Fs->Option (D×Fs)
abbrev UB:=Rho->Fs->Option (Bool×Fs)
inductive UF where
 | nx (ρ:Rho) (q:Fs)
 | rt (d:D) (q:Fs)
 | ro (j:Nat) (q:Fs)
def UF.own:UF->Bool
 | .nx ρ q=>okR q.length ρ
 | _=>true
def UF.ends(X:Cx) (C:Addr) (b:Bs) (as:List Addr) (Hf:Hp) (En:Ends):UF->Prop
 | .nx ρ q=>∀ex σ H' Hf',(as++ex).length=q.length->OSt X.K C b (sub (as++ex) ρ) ((as++ex).zip q) σ H' Hf'->B3 Hf Hf'->En.nx σ H'
 | .rt d q=>∀ex ρ σ v H' Hf',(as++ex).length=q.length->OSt X.K C b ρ ((as++ex).zip q) σ H' Hf'->Rep X.K Hf' d v->En.rt v H'
 | .ro j q=>∀ex ρ σ a H' Hf',(as++ex).length=q.length->OSt X.K C b ρ ((as++ex).zip q) σ H' Hf'->(as++ex)[j]? = some a->En.rt (.ref a) H'
theorem UF.mono{X:Cx}{fl:UF}(h:fl.ends X C b as Hf En) (e:B3 Hf Hf'):fl.ends X C b as Hf' En:=by
 cases fl with
 | nx ρ q=>exact fun ex σ H' Hf'' l o s=>h ex σ H' Hf'' l o (e.trans s)
 | rt d q=>exact h
 | ro j q=>exact h
theorem UF.more{X:Cx}{fl:UF}(h:fl.ends X C b as Hf En) (ex:List Addr):fl.ends X C b (as++ex) Hf En:=by
 cases fl with
 | nx ρ q=>exact fun ex2 σ H' Hf' l o s=>h (ex++ex2) σ H' Hf' (by rw[← List.append_assoc];exact l) (by rw[← List.append_assoc];exact o) s
 | rt d q=>exact fun ex2 ρ σ v H' Hf' l o=>h (ex++ex2) ρ σ v H' Hf' (by rw[← List.append_assoc];exact l) (by rw[← List.append_assoc];exact o)
 | ro j q=>exact fun ex2 ρ σ a H' Hf' l o z=>h (ex++ex2) ρ σ a H' Hf' (by rw[← List.append_assoc];exact l) (by rw[← List.append_assoc];exact o) (by rw[← List.append_assoc];exact z)
def UE(X:Cx) (C:Addr) (e:Expr) (g:UD):Prop:=∀ρ q d q',g ρ q=some (d,q')->okR q.length ρ=true->q'.length=q.length/\∀b (as:List Addr),as.length=q.length->OE X C b (sub as ρ) (as.zip q) e d (as.zip q')
def UT(X:Cx) (C:Addr) (e:Expr) (g:UB):Prop:=∀ρ q c q',g ρ q=some (c,q')->okR q.length ρ=true->q'.length=q.length/\∀b (as:List Addr),as.length=q.length->OT X C b (sub as ρ) (as.zip q) e c (as.zip q')
def tU(X:Cx) (C:Addr) (b:Bs) (as:List Addr) (ρ:Rho) (q:Fs) (fl:UF):TS:=fun En σ H=>∃Hf,OSt X.K C b (sub as ρ) (as.zip q) σ H Hf/\fl.ends X C b as Hf En
abbrev UX:=Rho->Fs->Option UF
def US(X:Cx) (C:Addr) (st:Stmt) (g:UX):Prop:=∀ρ q fl,g ρ q=some fl->okR q.length ρ=true->fl.own=true/\∀b (as:List Addr),as.length=q.length->PS X st (tU X C b as ρ q fl)
def USs(X:Cx) (C:Addr) (sts:List Stmt) (g:UX):Prop:=∀ρ q fl,g ρ q=some fl->okR q.length ρ=true->fl.own=true/\∀b (as:List Addr),as.length=q.length->PSs X sts (tU X C b as ρ q fl)
section
variable {X:Cx}{C:Addr}{st:Stmt}{sts:List Stmt}
def uP(f:DE):UD:=fun ρ q=>(f (era ρ)).map fun d=>(d,q)
theorem bq2(h:JE X e f):UE X C e (uP f):=fun ρ q d q' w _=>by
 obtain⟨d',e1,e2⟩:=Option.map_eq_some_iff.mp w
 cases e2
 exact⟨rfl,fun b as _=>B0 (h (era ρ) d e1) fun σ H Q ⟨Hf,st,k⟩=>⟨_,Hf,st.same,by rw[← W9 as ρ];exact st.sl.era,fun v H' Hf' g r=>k v H' Hf' (st.grow g) g.ext r⟩⟩
def uTP(f:Rho->Option Bool):UB:=fun ρ q=>(f (era ρ)).map fun d=>(d,q)
theorem ai1(h:JT X e f):UT X C e (uTP f):=fun ρ q d q' w _=>by
 obtain⟨d',e1,e2⟩:=Option.map_eq_some_iff.mp w
 cases e2
 exact⟨rfl,fun b as _=>Z6 (h (era ρ) d e1) fun σ H Q ⟨Hf,st,k⟩=>⟨_,Hf,st.same,by rw[← W9 as ρ];exact st.sl.era,fun H' Hf' g=>k H' Hf' (st.grow g) g.ext⟩⟩
def i6(i:Nat) (ρ:Rho) (q:Fs):Option (Nat×Fo):=match ρ[i]? with
 | some (some (.opq j))=>(q[j]?).map fun o=>(j,o)
 | _=>none
theorem i5{as:List Addr}(h:i6 i ρ q=some (j,o)) (n:V2 ρ=true) (l:as.length=q.length) (hn:X.N[i]? = some x) (hv:Vis X.env.scope x) (h1:(x==("__debug__" : Str))=false) (h2:(x==("__classdict__" : Str))=false) :
  ∃a,as[j]? = some a/\At1 X (sub as ρ) (as.zip q) x i j a o:=by
 unfold i6 at h
 split at h
 ·rename_i j' e
  obtain⟨o',e1,e2⟩:=Option.map_eq_some_iff.mp h
  cases e2
  have hj:j < as.length:=by rw[l];exact(List.getElem?_eq_some_iff.mp e1).1
  refine⟨as[j],List.getElem?_eq_getElem hj,hn,hv,h1,h2,?_,?_,by rw[aT2];exact n⟩
  ·unfold sub;rw[List.getElem?_map,e];show some (some (B.opq (as.getD j 0)))=_;rw[List.getD_eq_getElem?_getD,List.getElem?_eq_getElem hj];rfl
  ·rw[List.getElem?_zip_eq_some];exact⟨List.getElem?_eq_getElem hj,e1⟩
 ·cases h
theorem ar9{as:List Addr}{q:Fs}{j:Nat}{o:Fo}(h:as[j]? = some a):as.zip (q.set j o)=(as.zip q).set j (a,o):=by
 apply List.ext_getElem?
 intro i
 rw[List.getElem?_set]
 by_cases e:j=i
 ·subst e
  rw[if_pos rfl]
  by_cases hl:j < (as.zip q).length
  ·rw[if_pos hl]
   have:j < q.length:=by simp at hl;omega
   rw[List.getElem?_zip_eq_some]
   exact⟨h,by rw[List.getElem?_set_self this]⟩
  ·rw[if_neg hl]
   have h1:j < as.length:=(List.getElem?_eq_some_iff.mp h).1
   have:¬j < q.length:=fun z=>hl (by simp;omega)
   rw[List.getElem?_eq_none]
   simp;omega
 ·rw[if_neg e]
  have:(q.set j o)[i]? = q[i]?:=List.getElem?_set_ne e
  rw[List.zip_eq_zipWith,List.zip_eq_zipWith,List.getElem?_zipWith,List.getElem?_zipWith,this]
def uM(i:Nat) (F:MF) (f:Rho->Option (List D)):UD:=fun ρ q=>(i6 i ρ q).bind fun p=>(f (era ρ)).bind fun ds=>(F p.2 ds).map fun r=>(r.1,q.set p.1 r.2)
theorem bq3{e:Expr}{es:List Expr}{f:Rho->Option (List D)}(i:Nat) (M:an4 X C m n F) (c:FoC X.K C) (hn:X.N[i]? = some x) (hv:Vis X.env.scope x) (h1:(x==("__debug__" : Str))=false) (h2:(x==("__classdict__" : Str))=false) (nf:Y5 m=true) (ha:JA X (e::es) f) (hl:(apos.endLine==pos.line)=true) (hz:(e::es).length=n)
  (hst:starEach (e::es) X.env=(false,eval e X.env)::starEach es X.env) (hpl:(backTo pos (starEach es X.env)).any (·.1)=false) (hfm:methodCallForm ((e::es).length+([]:List Keyword).length) (backTo pos (starEach (e::es) X.env)) (backToKw pos (keywordEach [] X.env))=true) :
  UE X C (.Call (.Attribute (.Name x p) m apos) (e::es) [] pos) (uM i F f):=fun ρ q d q' w no=>by
 obtain⟨⟨j,o⟩,e1,w⟩:=Option.bind_eq_some_iff.mp w
 obtain⟨ds,e2,w⟩:=Option.bind_eq_some_iff.mp w
 obtain⟨⟨r,o'⟩,e3,e4⟩:=Option.map_eq_some_iff.mp w
 cases e4
 refine⟨by simp,fun b as l=>?_⟩
 obtain⟨a,ea,A⟩:=i5 e1 (al1 no) l hn hv h1 h2
 rw[ar9 ea]
 exact az2 M c A nf ha e2 (fun s=>by rw[← W9 as ρ];exact s.era) e3 hz hst hpl hl hfm
def uM0(i:Nat) (F:MF):UD:=fun ρ q=>(i6 i ρ q).bind fun p=>(F p.2 []).map fun r=>(r.1,q.set p.1 r.2)
theorem aY6(i:Nat) (M:an4 X C m 0 F) (c:FoC X.K C) (hn:X.N[i]? = some x) (hv:Vis X.env.scope x) (h1:(x==("__debug__" : Str))=false) (h2:(x==("__classdict__" : Str))=false) (nf:Y5 m=true) (hl:(apos.endLine==pos.line)=true) :
  UE X C (.Call (.Attribute (.Name x p) m apos) [] [] pos) (uM0 i F):=fun ρ q d q' w no=>by
 obtain⟨⟨j,o⟩,e1,w⟩:=Option.bind_eq_some_iff.mp w
 obtain⟨⟨r,o'⟩,e3,e4⟩:=Option.map_eq_some_iff.mp w
 cases e4
 refine⟨by simp,fun b as l=>?_⟩
 obtain⟨a,ea,A⟩:=i5 e1 (al1 no) l hn hv h1 h2
 rw[ar9 ea]
 exact be0 M c A nf e3 hl
def uB2(h:D->D->Option D) (f g:UD):UD:=fun ρ q=>(f ρ q).bind fun x=>(g ρ x.2).bind fun y=>(h x.1 y.1).map fun z=>(z,y.2)
theorem bI0(o:OpD X (compareOp op) h) (ha:UE X C ea f) (hb:UE X C eb g) (hm:behindInMarks op eb=false):UE X C (.Compare ea [op] [eb] pos) (uB2 h f g):=fun ρ q d q' w no=>by
 obtain⟨⟨x,q1⟩,w1,w⟩:=Option.bind_eq_some_iff.mp w
 obtain⟨⟨y,q2⟩,w2,w⟩:=Option.bind_eq_some_iff.mp w
 obtain⟨z,w3,w4⟩:=Option.map_eq_some_iff.mp w
 cases w4
 obtain⟨l1,a1⟩:=ha ρ q x q1 w1 no
 obtain⟨l2,a2⟩:=hb ρ q1 y q2 w2 (by rw[l1];exact no)
 exact⟨l2.trans l1,fun b as l=>bN3 o (a1 b as l) (a2 b as (l.trans l1.symm)) w3 hm⟩
def bn4:D->Option Bool
 | .bool c=>some c
 | _=>none
def uTB(f:UD):UB:=fun ρ q=>(f ρ q).bind fun x=>(bn4 x.1).map fun c=>(c,x.2)
theorem bH2(o:OpD X (compareOp op) h) (ha:UE X C ea f) (hb:UE X C eb g) (hm:behindInMarks op eb=false):UT X C (.Compare ea [op] [eb] pos) (uTB (uB2 h f g)):=fun ρ q d q' w no=>by
 obtain⟨⟨z,q2⟩,w0,w⟩:=Option.bind_eq_some_iff.mp w
 obtain⟨c,w4,w5⟩:=Option.map_eq_some_iff.mp w
 cases w5
 obtain⟨⟨x,q1⟩,w1,w0⟩:=Option.bind_eq_some_iff.mp w0
 obtain⟨⟨y,q2⟩,w2,w0⟩:=Option.bind_eq_some_iff.mp w0
 obtain⟨z,w3,w6⟩:=Option.map_eq_some_iff.mp w0
 cases w6
 obtain⟨l1,a1⟩:=ha ρ q x q1 w1 no
 obtain⟨l2,a2⟩:=hb ρ q1 y q2 w2 (by rw[l1];exact no)
 have:z=.bool d:=by cases z<;>cases w4;rfl
 subst this
 exact⟨l2.trans l1,fun b as l=>ae0 o (a1 b as l) (a2 b as (l.trans l1.symm)) w3 hm⟩
end
end G
namespace G
open PySem PySem.Spec PyProof.Rows L2
section
variable {X:Cx}{C:Addr}{st:Stmt}{sts:List Stmt}
theorem bl5{as:List Addr}{q':Fs}(h:UF.ends X C b as Hf En (.nx ρ q')) (l:as.length=q'.length):∀σ H' Hf',OSt X.K C b (sub as ρ) (as.zip q') σ H' Hf'->B3 Hf Hf'->En.nx σ H':=fun σ H' Hf' s e=>h [] σ H' Hf' (by rw[List.append_nil];exact l) (by rw[List.append_nil];exact s) e
def M5(i:Nat) (f:UD):UX:=fun ρ q=>(f ρ q).map fun x=>.nx (ρ.set i (‹x.1›)) x.2
theorem bH4(i:Nat) (hN:X.N.Nodup) (h:UE X C e f) (hi:X.N[i]? = some x) (hx:Loc X.env.scope x) (hs:swapsWith e (some (.Name x pos')) pos.line X.env=pure false) (hf:X.fn x=true\/X.env.scope.names.lookup x=some .local):US X C (.Assign [.Name x pos'] e pos) (M5 i f):=fun ρ q fl w no=>by
 obtain⟨⟨d,q1⟩,w1,w2⟩:=Option.map_eq_some_iff.mp w
 cases w2
 obtain⟨l1,a1⟩:=h ρ q d q1 w1 no
 exact⟨aN1 (by rw[l1];exact no),fun b as l=>D9 (ak8 hN hi hx (a1 b as l) hs hf) fun En σ H ⟨Hf,st,k⟩=>⟨Hf,st,fun v H' Hf' s' e' r=>bl5 k (l.trans l1.symm) _ H' Hf' (by rw[aL2];exact s'.set r) e'⟩⟩
def P0(f:UD):UX:=fun ρ q=>(f ρ q).map fun x=>.rt x.1 x.2
theorem aY2(h:UE X C e f):US X C (.Return (some e) pos) (P0 f):=fun ρ q fl w no=>by
 obtain⟨⟨d,q1⟩,w1,w2⟩:=Option.map_eq_some_iff.mp w
 cases w2
 obtain⟨l1,a1⟩:=h ρ q d q1 w1 no
 exact⟨rfl,fun b as l=>D9 (ad9 (a1 b as l)) fun En σ H ⟨Hf,st,k⟩=>⟨Hf,st,fun v H' Hf' s' e' r=>k [] _ σ v H' Hf' (by rw[List.append_nil];exact l.trans l1.symm) (by rw[List.append_nil];exact s') r⟩⟩
def uIf(t:UB) (f g:UX):UX:=fun ρ q=>(t ρ q).bind fun x=>if x.1 then f ρ x.2 else g ρ x.2
theorem bB8{s1 s2:List Stmt}(t:UT X C e c) (h1:USs X C s1 f) (h2:USs X C s2 g):US X C (.If e s1 s2 pos) (uIf c f g):=fun ρ q fl w no=>by
 obtain⟨⟨x,q1⟩,w1,w⟩:=Option.bind_eq_some_iff.mp w
 obtain⟨l1,a1⟩:=t ρ q x q1 w1 no
 cases x with
 | true =>
  obtain⟨o1,b1⟩:=h1 ρ q1 fl w (by rw[l1];exact no)
  exact⟨o1,fun b as l=>D9 (ag1 (a1 b as l) (b1 b as (l.trans l1.symm)) K3) fun En σ H ⟨Hf,st,k⟩=>⟨Hf,st,fun H' Hf' s' e'=>aa3 ⟨Hf',s',UF.mono (fl:=fl) k e'⟩⟩⟩
 | false =>
  obtain⟨o1,b1⟩:=h2 ρ q1 fl w (by rw[l1];exact no)
  exact⟨o1,fun b as l=>D9 (ag1 (a1 b as l) K3 (b1 b as (l.trans l1.symm))) fun En σ H ⟨Hf,st,k⟩=>⟨Hf,st,fun H' Hf' s' e'=>aa4 ⟨Hf',s',UF.mono (fl:=fl) k e'⟩⟩⟩
def O8:UX:=fun ρ q=>some (.nx ρ q)
theorem aL0:USs X C [] O8:=fun ρ q fl w no=>by
 cases w
 exact⟨no,fun b as l=>O3 ai2 fun En σ H ⟨Hf,st,k⟩=>bl5 k l σ H Hf st (B3.refl _)⟩
theorem aK9(h:US X C st g):USs X C [st] g:=fun ρ q fl w no=>by
 obtain⟨h1,h2⟩:=h ρ q fl w no
 exact⟨h1,fun b as l=>m8 (h2 b as l)⟩
def D8(f g:UX):UX:=fun ρ q=>(f ρ q).bind fun fl=>match fl with
 | .nx ρ' q'=>g ρ' q'
 | r=>some r
theorem bb4{α:Type}{t:α->TS}(h:∀a,PSs X sts (t a)):PSs X sts (fun En σ H=>∃a,t a En σ H):=fun pins s σ H D I ⟨a,q⟩=>h a pins s σ H D I q
theorem bt5{P:Prop}{t:TS}(h:P->PSs X sts t):PSs X sts (fun En σ H=>P/\t En σ H):=fun pins s σ H D I ⟨a,q⟩=>h a pins s σ H D I q
theorem aY1(h1:US X C st f) (h2:USs X C sts g):USs X C (st::sts) (D8 f g):=fun ρ q fl w no=>by
 obtain⟨fl1,w1,w⟩:=Option.bind_eq_some_iff.mp w
 obtain⟨o1,a1⟩:=h1 ρ q fl1 w1 no
 cases fl1 with
 | nx ρ' q' =>
  obtain⟨o2,a2⟩:=h2 ρ' q' fl w o1
  exact⟨o2,fun b as l=>O3 (M0 (a1 b as l) (bb4 fun ex=>bt5 fun(l2:(as++ex).length=q'.length)=>a2 b (as++ex) l2)) fun En σ H ⟨Hf,s,k⟩=>⟨Hf,s,fun ex σ' H' Hf' l' s' e'=>⟨ex,l',Hf',s',UF.more (UF.mono (fl:=fl) k e') ex⟩⟩⟩
 | rt d q' =>
  cases w
  exact⟨rfl,fun b as l=>O3 (M0 (a1 b as l) K3) fun En σ H ⟨Hf,s,k⟩=>⟨Hf,s,k⟩⟩
 | ro j q' =>
  cases w
  exact⟨rfl,fun b as l=>O3 (M0 (a1 b as l) K3) fun En σ H ⟨Hf,s,k⟩=>⟨Hf,s,k⟩⟩
def Cm(g:D->Rho->Option Rho):Prop:=∀as d ρ ρ1,g d ρ=some ρ1->g d (sub as ρ)=some (sub as ρ1)/\∀n,okR n ρ=true->okR n ρ1=true
def Cms(g:List D->Rho->Option Rho):Prop:=∀as d ρ ρ1,g d ρ=some ρ1->g d (sub as ρ)=some (sub as ρ1)/\∀n,okR n ρ=true->okR n ρ1=true
theorem bT3(i:Nat):Cm (N9 i):=fun as d ρ ρ1 h=>by
 cases h
 exact⟨by rw[aL2];rfl,fun n h=>aN1 h⟩
theorem bz8:Cms V5:=fun as d ρ ρ1 h=>by
 cases d with
 | nil=>cases h;exact⟨rfl,fun _ h=>h⟩
 | cons=>cases h
theorem bm9(h1:Cm f) (h2:Cms g):Cms (G0 f g):=fun as d ρ ρ1 h=>by
 cases d with
 | nil=>cases h
 | cons d ds =>
  obtain⟨ρ2,e1,e2⟩:=Option.bind_eq_some_iff.mp h
  obtain⟨a1,a2⟩:=h1 as d ρ ρ2 e1
  obtain⟨b1,b2⟩:=h2 as ds ρ2 ρ1 e2
  exact⟨by show(f d (sub as ρ)).bind _=_;rw[a1];exact b1,fun n h=>b2 n (a2 n h)⟩
theorem bT2(h:Cms g):Cm (T7 n g):=fun as d ρ ρ1 e=>by
 unfold T7 at e ⊢
 split at e
 ·split at e
  ·rename_i hl;rw[if_pos hl];exact h as _ ρ ρ1 e
  ·cases e
 ·cases e
def ag0(g:D->Rho->Option Rho) (f:UX):List D->UX
 | [],ρ,q=>some (.nx ρ q)
 | d::ds,ρ,q=>(g d ρ).bind fun ρ1=>(f ρ1 q).bind fun fl=>match fl with
  | .nx ρ' q'=>ag0 g f ds ρ' q'
  | r=>some r
def aF3(src:Rho->Option (List D)) (g:D->Rho->Option Rho) (f:UX):UX:=fun ρ q=>(src (era ρ)).bind fun ds=>ag0 g f ds ρ q
theorem ax3{body:List Stmt}(cm:Cm g) (hb:USs X C body f):∀(ds:List D) (ρ:Rho) (q:Fs) (fl:UF),ag0 g f ds ρ q=some fl->okR q.length ρ=true->fl.own=true
 | [],ρ,q,fl,h,n=>by cases h;exact n
 | d::ds,ρ,q,fl,h,n=>by
  obtain⟨ρ1,e1,h⟩:=Option.bind_eq_some_iff.mp h
  obtain⟨fl1,e2,h⟩:=Option.bind_eq_some_iff.mp h
  have n1:=(cm [] d ρ ρ1 e1).2 _ n
  have o:=(hb ρ1 q fl1 e2 n1).1
  cases fl1 with
  | nx ρ' q'=>exact ax3 cm hb ds ρ' q' fl h o
  | rt d q'=>cases h;rfl
  | ro j q'=>cases h;rfl
theorem bH6{body:List Stmt}(hi:JI X tg iter src) (hg:JG X tg g) (cm:Cm g) (hb:USs X C body f) (hp:PassesOwn (model X.prog X.w) X.A X.env X.xe) (hc:X.calm=true) (hs:∀x,foldedSetIterable iter X.env x=pure x):US X C (.For tg iter body [] pos) (aF3 src g f):=fun ρ q fl w no=>by
 obtain⟨ds,e1,e2⟩:=Option.bind_eq_some_iff.mp w
 refine⟨ax3 cm hb ds ρ q fl e2 no,fun b as l=>?_⟩
 have body':PSs X body (fun En σ H=>∃(as':List Addr) (ρ':Rho) (q':Fs) (fl':UF),f ρ' q'=some fl'/\okR q'.length ρ'=true/\as'.length=q'.length/\tU X C b as' ρ' q' fl' En σ H):=fun pins s σ H D I ⟨as',ρ',q',fl',z1,z2,z3,z4⟩=>(hb ρ' q' fl' z1 z2).2 b as' z3 pins s σ H D I z4
 refine D9 (bK9 hp hc (hi (era ρ) ds e1) hg body' hs) fun En σ H ⟨Hf,st,e⟩=>⟨_,Hf,st.same,by rw[← W9 as ρ];exact st.sl.era,fun J H1 Hf1 g1 Y=>?_⟩
 refine⟨fun i m σ H=>m=ds.length - i/\i<=ds.length/\∃Hf' ex ρ' q',(as++ex).length=q'.length/\okR q'.length ρ'=true/\OSt X.K C b (sub (as++ex) ρ') ((as++ex).zip q') σ H Hf'/\B3 Hf1 Hf'/\ag0 g f (ds.drop i) ρ' q'=some fl,
  ⟨ds.length,by simp,Nat.zero_le _,Hf1,[],ρ,q,by rw[List.append_nil];exact l,no,by rw[List.append_nil];exact st.grow g1,B3.refl _,by simpa using e2⟩,?_⟩
 rintro i m σ' H' ⟨rfl,hi,Hf',ex,ρ',q',l',no',a',s',hm⟩
 obtain⟨Ys,Yg⟩:=Y i H' Hf' s' a'.same
 rcases Nat.lt_or_ge i ds.length with hlt|hge
 ·right
  obtain⟨go,yl⟩:=Yg ds[i] (by simp[hlt])
  rw[List.drop_eq_getElem_cons hlt]at hm
  obtain⟨ρ1,c1,hm⟩:=Option.bind_eq_some_iff.mp hm
  obtain⟨fl1,c2,hm⟩:=Option.bind_eq_some_iff.mp hm
  obtain⟨c3,c4⟩:=cm (as++ex) _ _ _ c1
  have no1:=c4 _ no'
  have o1:=(hb ρ1 q' fl1 c2 no1).1
  refine⟨go,fun σ3 H3=>∃m',m' < ds.length - i/\m'=ds.length - (i+1)/\i+1<=ds.length/\∃Hf' ex ρ' q',(as++ex).length=q'.length/\okR q'.length ρ'=true/\OSt X.K C b (sub (as++ex) ρ') ((as++ex).zip q') σ3 H3 Hf'/\B3 Hf1 Hf'/\ag0 g f (ds.drop (i+1)) ρ' q'=some fl,fun σ3 H3 ⟨m',z1,z2⟩=>⟨m',z1,z2⟩,fun x H2 hy=>?_⟩
  obtain⟨Hf2,g2,r2⟩:=yl x H2 hy
  have a2:=a'.grow g2
  have s2:=s'.trans g2.ext
  refine⟨ds[i],sub (as++ex) ρ',sub (as++ex) ρ1,_,Hf2,c3,g2.sub,a2.sl,r2,fun σ3 sl3=>⟨as++ex,ρ1,q',fl1,c2,no1,l',Hf2,a2.slots sl3,?_⟩⟩
  cases fl1 with
  | nx ρ3 q3=>exact fun ex2 σ3 H3 Hf3 l3 a3 s3=>⟨_,by omega,rfl,hlt,Hf3,ex++ex2,ρ3,q3,by rw[← List.append_assoc];exact l3,o1,by rw[← List.append_assoc];exact a3,s2.trans s3,hm⟩
  | rt d q3 =>
   cases hm
   exact UF.more (fl:=.rt d q3) e ex
  | ro j q3 =>
   cases hm
   exact UF.more (fl:=.ro j q3) e ex
 ·left
  have:i=ds.length:=by omega
  subst this
  rw[List.drop_length]at hm
  cases hm
  exact⟨Ys (Nat.le_refl _),e ex σ' H' Hf' l' a' (g1.ext.trans s')⟩
end
end G
namespace G
open PySem PySem.Spec PyProof.Rows L2
abbrev fo0:Fo:=⟨[],[],[]⟩
def spI(K:PySem.W.Frag) (C:Addr):Sp:=fun vs H Q _=>∃x dx Hf,vs=[.ref x]/\H x=some (.ins C dx [])/\B3 Hf H/\Hf x=none/\∀H' c,Chg [x] H Hf H' Hf->FoAt K C H' Hf x c fo0->(∀y∈cells x c,y=x\/H y=none)->Q .non H'
theorem T5{H:Hp}{a b:Addr}{o:HO}(h:upd H a o b=none):b≠a/\H b=none:=by
 by_cases e:b=a
 ·subst e;rw[A5]at h;cases h
 ·rw[A3 e]at h;exact⟨e,h⟩
theorem by8{K:PySem.W.Frag}{C x dx d lb lf:Addr}{H Hf:Hp}(hx:H x=some (.ins C dx [])) (ss:B3 Hf H) (fx:Hf x=none) (h1:H d=none) (h2:upd (upd H d (.dK [])) x (.ins C dx [("sheets", .ref d)]) lb=none)
  (h3:upd (upd (upd (upd H d (.dK [])) x (.ins C dx [("sheets", .ref d)])) lb (.lst [])) x (.ins C dx [("sheets", .ref d),("steps_back", .ref lb)]) lf=none) :
  ∃c,Chg [x] H Hf (upd (upd (upd (upd (upd (upd H d (.dK [])) x (.ins C dx [("sheets", .ref d)])) lb (.lst [])) x (.ins C dx [("sheets", .ref d),("steps_back", .ref lb)])) lf (.lst [])) x (.ins C dx [("sheets", .ref d),("steps_back", .ref lb),("steps_forth", .ref lf)])) Hf
   /\ FoAt K C (upd (upd (upd (upd (upd (upd H d (.dK [])) x (.ins C dx [("sheets", .ref d)])) lb (.lst [])) x (.ins C dx [("sheets", .ref d),("steps_back", .ref lb)])) lf (.lst [])) x (.ins C dx [("sheets", .ref d),("steps_back", .ref lb),("steps_forth", .ref lf)])) Hf x c fo0/\∀y∈cells x c,y=x\/H y=none:=by
 obtain⟨n1,h2⟩:=T5 h2
 obtain⟨n2,h2⟩:=T5 h2
 obtain⟨n3,h3⟩:=T5 h3
 obtain⟨n4,h3⟩:=T5 h3
 obtain⟨_,h3⟩:=T5 h3
 obtain⟨n5,h3⟩:=T5 h3
 have nd:d≠x:=fun z=>by rw[z,hx]at h1;cases h1
 have fr:∀y,H y=none->Hf y=none:=fun y h=>ss.free h
 have keep:∀b o,b≠x->H b=some o->upd (upd (upd (upd (upd (upd H d (.dK [])) x (.ins C dx [("sheets", .ref d)])) lb (.lst [])) x (.ins C dx [("sheets", .ref d),("steps_back", .ref lb)])) lf (.lst [])) x (.ins C dx [("sheets", .ref d),("steps_back", .ref lb),("steps_forth", .ref lf)]) b=some o:=fun b o hb e=>by
  rw[A3 hb,A3 (B4 e h3),A3 hb,A3 (B4 e h2),A3 hb,A3 (B4 e h1)];exact e
 refine⟨⟨dx,d,lb,lf⟩,⟨fun b o hb e=>keep b o (by simpa using hb) e,fun b h=>?_,fun b o e=>keep b o (B4 e fx) (ss b o e),B3.refl _,fun b h=>.inl h⟩,⟨A5,⟨[],?_,rfl⟩,⟨[],?_,rfl⟩,⟨[],?_,rfl⟩,n4.symm,fun y hy=>?_⟩,fun y hy=>?_⟩
 ·by_cases e:b=x
  ·rw[e,A5];exact fun z=>by cases z
  ·obtain⟨o,ho⟩:=aN8 h;exact Z4 (keep b o e ho)
 ·rw[A3 nd,A3 n5.symm,A3 nd,A3 n2.symm,A3 nd,A5]
 ·rw[A3 n1,A3 n4.symm,A3 n1,A5]
 ·rw[A3 n3,A5]
 ·simp only[List.mem_cons,List.not_mem_nil,or_false]at hy
  rcases hy with rfl|rfl|rfl|rfl
  ·exact fx
  ·exact fr _ h1
  ·exact fr _ h2
  ·exact fr _ h3
 ·simp only[List.mem_cons,List.not_mem_nil,or_false]at hy
  rcases hy with rfl|rfl|rfl|rfl
  ·exact .inl rfl
  ·exact .inr h1
  ·exact .inr h2
  ·exact .inr h3
section
variable {P:Program}{w:World}{K:PySem.W.Frag}{mg:Str->Option Value}{base:Heap}{C:Addr}
theorem by7(Fc:FoC K C) (d:Fd) (hN:d.N=[("self" : Str)]) (hp:d.ps.length=1) (ok:d.okB=true) (hl:W2 d.c=true) (Fn:Fun K d.x qual d.st f fd)
  (hb:A4 d.st=[.Assign [.Attribute (.Name "self" p1) "sheets" p2] (.Dict [] [] p3) p4,.Assign [.Attribute (.Name "self" p5) "steps_back" p6] (.List [] p7) p8,.Assign [.Attribute (.Name "self" p9) "steps_forth" p10] (.List [] p11) p12]):FnOk P w K mg base CX0 (k+1) f fd d.ps (spI K C):=by
 have Sc:=Fd.sc ok
 refine Fn.ok Sc (fun vs H Q E h=>?_) fun cdv A outer s H vs Q E hr hsp=>?_
 ·obtain⟨x,dx,Hf,rfl,_⟩:=h
  simp[hp]
 obtain⟨x,dx,Hf,rfl,hx,ss,fx,kk⟩:=hsp
 rw[hb]
 have v:∀{p},PE (l7 CX0 P w K mg base d.N qual (A7 d.st) f cdv A outer s H E).nox (.Name "self" p) (bI3 0):=fun{p}=>by
  have:=List.all_eq_true.mp hl "self" (by show _∈d.N;rw[hN];simp)
  simp only[Bool.and_eq_true]at this
  have h4:=this.2
  refine P2 (show d.N[0]? = _ by rw[hN];rfl) ?_ (by decide) (by decide)
  split at h4
  ·rename_i e;exact .inl e
  ·cases h4
 have s0:(start d.N [V.ref x])[0]? = some (some (.ref x)):=by rw[hN];rfl
 refine⟨_,M0 (at8 v ay7 rfl) (M0 (at8 v (at9 M3) rfl) (m8 (at8 v (at9 M3) rfl))),fun d h1=>⟨_,s0,x,C,dx,[],rfl,?_,Fc.cl,Fc.n1,by show 0 < 1000;decide,by show 0<=sizeLine;decide,fun lb h2=>⟨_,s0,x,C,dx,[("sheets", .ref d)],rfl,?_,Fc.cl,Fc.n2,by show 1 < 1000;decide,by show 0<=sizeLine;decide,fun lf h3=>⟨_,s0,x,C,dx,[("sheets", .ref d),("steps_back", .ref lb)],rfl,?_,Fc.cl,Fc.n3,by show 2 < 1000;decide,?_⟩⟩⟩⟩
 ·rw[A3 (B4 hx h1)];exact hx
 ·rw[A3 (fun z=>by rw[← z]at h2;rw[A5]at h2;cases h2),A5];rfl
 ·rw[A3 (fun z=>by rw[← z]at h3;rw[A5]at h3;cases h3),A5];rfl
 ·obtain⟨c,c1,c2,c3⟩:=by8 (K:=K) hx ss fx h1 h2 h3
  exact kk _ c c1 c2 c3
end
section
variable {K:PySem.W.Frag}{C:Addr}{b:Bs}{ρ:Rho}{os:Os}{σ:L2.St}{H Hf H' Hf':Hp}
theorem OSt.add(st:OSt K C b ρ os σ H Hf) (g:Grow H Hf H' Hf') (f:FoAt K C H' Hf' x c o) (fr:∀y∈cells x c,H y=none):OSt K C b ρ (os++[(x,o)]) σ H' Hf':=by
 obtain⟨R,r1,r2,r3⟩:=st.ob
 have st':=st.grow g
 have r1':=r1.chg (S:=[]) (Chg.of g) (by simp)
 obtain⟨R',q1,q2⟩:=r1'.snoc f fun y hy z=>r1.there y z (fr y hy)
 refine⟨st'.gr,R',q1,fun y hy=>(q2 y hy).elim (r2 y) fun z=>.inr ?_,r3.chg (S:=[]) (Chg.of g) (by simp) fun x h hx=>?_⟩
 ·exact Classical.byContradiction fun w=>st.gr.kp y w (fr y z)
 ·obtain⟨h1,h2⟩:=am3 h
  exact bj6 (fun z=>(q2 x z).elim h1 fun w=>hx (fr x w)) h2
end
end G
namespace G
open PySem PySem.Spec PyProof.Rows L2
theorem Slots.setO{K:PySem.W.Frag}{H0 H Hf:Hp}{ρ:Rho}{σ:L2.St}{i:Nat}{a:Addr}(s:Slots K H0 ρ σ H Hf):Slots K H0 (ρ.set i (some (.opq a))) (σ.set i (some (.ref a))) H Hf:=by
 have own:∀(j:Nat) (ds:List D),(ρ.set i (some (.opq a)))[j]? = some (some (.own ds))->i≠j/\ρ[j]? = some (some (.own ds)):=fun j ds e=>by
  rw[List.getElem?_set]at e
  split at e
  ·split at e<;>cases e
  ·rename_i h;exact⟨h,e⟩
 refine⟨by simp[s.len],fun j b e=>?_,fun j k d1 d2 c h1 h2 h3 h4=>?_⟩
 ·rw[List.getElem?_set]at e
  split at e
  ·rename_i h
   subst h
   split at e
   ·rename_i hl
    cases e
    exact⟨_,List.getElem?_set_self (by rw[← s.len];exact hl),rfl⟩
   ·cases e
  ·rename_i h
   obtain⟨v,v1,v2⟩:=s.is j b e
   exact⟨v,by rw[List.getElem?_set_ne h];exact v1,v2⟩
 ·obtain⟨n1,e1⟩:=own j d1 h1
  obtain⟨n2,e2⟩:=own k d2 h2
  rw[List.getElem?_set_ne n1]at h3
  rw[List.getElem?_set_ne n2]at h4
  exact s.apart j k d1 d2 c e1 e2 h3 h4
theorem br4{as:List Addr}{ρ:Rho}{n:Nat}(h:okR n ρ=true) (l:as.length=n) (a:Addr) (i:Nat):sub (as++[a]) (ρ.set i (some (.opq n)))=(sub as ρ).set i (some (.opq a)):=by
 subst l
 have:=aZ7 h [a]
 unfold sub at this ⊢
 rw[List.map_set,this]
 congr 1
 show some (B.opq _)=_
 rw[List.getD_eq_getElem?_getD,List.getElem?_append_right (Nat.le_refl _),Nat.sub_self]
 rfl
theorem bo5{as:List Addr}{q:Fs}(l:as.length=q.length) (a:Addr) (o:Fo):(as++[a]).zip (q++[o])=as.zip q++[(a,o)]:=by rw[List.zip_append l];rfl
def UN(X:Cx) (C:Addr) (e:Expr) (g:Rho->Option Fo):Prop:=∀ρ q o,g (era ρ)=some o->∀b (as:List Addr),as.length=q.length->PE X e (fun σ H Q=>∃Hf,OSt X.K C b (sub as ρ) (as.zip q) σ H Hf/\∀a c H' Hf',Grow H Hf H' Hf'->FoAt X.K C H' Hf' a c o->(∀y∈cells a c,H y=none)->Q (.ref a) H')
def bY4(K:PySem.W.Frag) (C:Addr) (n:Nat) (F:List D->Option Fo):Sp:=fun vs H Q _=>vs.length=n/\∃Hf ds o,B3 Hf H/\Reps K Hf ds vs/\F ds=some o/\∀a c H' Hf',Grow H Hf H' Hf'->FoAt K C H' Hf' a c o->(∀y∈cells a c,H y=none)->Q (.ref a) H'
def bU9(X:Cx) (C:Addr) (x:Str):Prop:=∃k f fd ps,FnOk X.prog X.w X.K X.mg X.base CX0 k f fd ps (spI X.K C)/\Room (k+1) X.A/\Mk X.K C f/\K2 X.K fd ps []/\X.mg x=some (.ref C)
def cm4(X:Cx) (C:Addr) (x:Str) (F:List D->Option Fo) (n:Nat):Prop:=∃k f fd ps,FnOk X.prog X.w X.K X.mg X.base CX0 k f fd ps (bY4 X.K C n F)/\Room k X.A/\X.mg x=some (.ref f)/\PySem.W.keepIn X.K (.ref f)=true/\K2 X.K fd ps []
section
variable {X:Cx}{C:Addr}
theorem bL6(M:bU9 X C x) (hg:Gl X x) (hdb:(x==("__debug__" : Str))=false):PE X (.Call (.Name x p) [] [] pos) (fun σ H Q=>∃Hf,B3 Hf H/\∀a c H' Hf',Grow H Hf H' Hf'->FoAt X.K C H' Hf' a c fo0->(∀y∈cells a c,H y=none)->Q (.ref a) H'):=by
 obtain⟨k,f,fd,ps,F,hr,M,hb,hm⟩:=M
 refine B0 (bc3 M F hr hg hm hb .nil ap6 hdb) fun σ H Q ⟨Hf,ss,kk⟩=>fun y dx h1 h2 h3=>?_
 have g1:Grow H Hf (upd H dx (.own y)) Hf:=Grow.made ss h2
 have g2:Grow (upd H dx (.own y)) Hf (upd (upd H dx (.own y)) y (.ins C dx [])) Hf:=Grow.made g1.sub (by rw[A3 h3.symm];exact h1)
 have g:=g1.trans g2
 refine⟨y,dx,Hf,rfl,A5,g.sub,ss.free h1,fun H' c ch fo cl=>⟨rfl,kk y c H' Hf ⟨fun z u e=>ch.big z u (by simp;exact B4 e h1) (g.big z u e),ch.sub,B3.refl _,fun _ h=>.inl h⟩ fo fun z hz=>?_⟩⟩
 rcases cl z hz with rfl|h
 ·exact h1
 ·exact(T5 (T5 h).2).2
theorem bq1(M:bU9 X C x) (hg:Gl X x) (hdb:(x==("__debug__" : Str))=false):UN X C (.Call (.Name x p) [] [] pos) (fun _=>some fo0):=fun ρ q o w b as l=>by
 cases w
 exact B0 (bL6 M hg hdb) fun σ H Q ⟨Hf,st,kk⟩=>⟨Hf,st.same,kk⟩
def bI1(i:Nat) (g:Rho->Option Fo):UX:=fun ρ q=>(g (era ρ)).map fun o=>.nx (ρ.set i (some (.opq q.length))) (q++[o])
theorem bv7{ρ:Rho}{q:Fs}(h:okR q.length ρ=true) (i:Nat) (o:Fo):okR (q++[o]).length (ρ.set i (some (.opq q.length)))=true:=aN2 (bd8 h (by simp)) (by intro j z;cases z;simp)
theorem bH5(i:Nat) (hN:X.N.Nodup) (h:UN X C e g) (hi:X.N[i]? = some x) (hx:Loc X.env.scope x) (hs:swapsWith e (some (.Name x pos')) pos.line X.env=pure false) (hf:X.fn x=true\/X.env.scope.names.lookup x=some .local):US X C (.Assign [.Name x pos'] e pos) (bI1 i g):=fun ρ q fl w no=>by
 obtain⟨o,w1,w2⟩:=Option.map_eq_some_iff.mp w
 cases w2
 refine⟨bv7 no i o,fun b as l=>D9 (ak8 hN hi hx (h ρ q o w1 b as l) hs hf) fun En σ H ⟨Hf,st,k⟩=>⟨Hf,st,fun a c H' Hf' g fo fr=>?_⟩⟩
 have st2:=st.add g fo fr
 exact k [a] _ H' Hf' (by simp[l]) (by rw[br4 no l,bo5 l];exact st2.slots st2.sl.setO) g.ext
end
end G
namespace G
open PySem PySem.Spec PyProof.Rows L2
section
variable {X:Cx}{C:Addr}
end
def bs3(g:UX) (n:Nat):List D->Option D:=fun ds=>(g (P8 n ds) []).bind fun fl=>match fl with
 | .rt d _=>some d
 | .nx _ _=>some .none
 | _=>none
theorem aR8(n m:Nat) (ds:List D):okR m (P8 n ds)=true:=by
 unfold okR P8
 rw[List.all_eq_true]
 intro x hx
 rcases List.mem_append.mp hx with h|h
 ·obtain⟨d,_,rfl⟩:=List.mem_map.mp h;rfl
 ·rw[(List.mem_replicate.mp h).2]
theorem aF9(n:Nat) (ds:List D):sub [] (P8 n ds)=P8 n ds:=by
 unfold sub P8
 rw[List.map_append,List.map_map,List.map_replicate]
 rfl
section
variable {P:Program}{w:World}{K:PySem.W.Frag}{mg:Str->Option Value}{base:Heap}{x qual:Str}{st:Stmt}{f:Addr}{fd:FuncData}{N ps:List Str}{k:Nat}{g:UX}{C:Addr}
theorem br6{H Hf:Hp}{ds:List D}{vs:List V}(ss:B3 Hf H) (rp:Reps K Hf ds vs):OSt K C ⟨[],H,Hf⟩ (sub [] (P8 N.length ds)) (([]:List Addr).zip ([]:Fs)) (start N vs) H Hf :=
 ⟨Chg.of (Grow.refl ss),[],.nil,by simp,by rw[aF9];exact W3 rp⟩
theorem bk5(F:Fun K x qual st f fd) (S:FnScope N ps (A7 st))
  (hb:∀(cdv:Value) (A:Around) (outer:List Env) (s:Shared) (H:Hp) (E:XK),Room k (A.deeper (envOfC qual (A7 st) s.heap.objs.size f cdv))->USs (l7 CX0 P w K mg base N qual (A7 st) f cdv A outer s H E).nox C (A4 st) g) :
  FnOk P w K mg base CX0 (k+1) f fd ps (spF K ps.length (bs3 g N.length)):=by
 refine F.ok S (fun vs H Q E h=>h.1) fun cdv A outer s H vs Q E hr hsp=>?_
 obtain⟨hlen,Hf,ds,d,ss,rp,e,kk⟩:=hsp
 obtain⟨fl,e1,e2⟩:=Option.bind_eq_some_iff.mp e
 obtain⟨_,h⟩:=hb cdv A outer s H E hr _ [] fl e1 (aR8 _ _ _)
 refine⟨_,h ⟨[],H,Hf⟩ [] rfl,Hf,br6 ss rp,?_⟩
 cases fl with
 | rt d' q=>cases e2;exact fun ex ρ σ v H' Hf' l s' r=>kk v H' Hf' s'.gr.grow r
 | nx ρ q=>cases e2;exact fun ex σ' H' Hf' l s' _=>kk _ H' Hf' s'.gr.grow rfl
 | ro j q=>cases e2
end
end G
namespace G
open PySem PySem.Spec PyProof.Rows L2
section
variable {K:PySem.W.Frag}{C:Addr}{b:Bs}{ρ:Rho}{os:List (Addr×Fo)}{σ:L2.St}{H Hf H' Hf' H0:Hp}
end
section
variable {X:Cx}{C:Addr}{st:Stmt}{sts:List Stmt}
end
end G
namespace G
open PySem PySem.Spec PyProof.Rows L2
abbrev MD:=List (Option D)
def MxV(K:PySem.W.Frag) (Hf:Hp) (a:Addr):Option D->V->Prop
 | some d,v=>Rep K Hf d v
 | none,v=>v=.ref a
def Mxs(K:PySem.W.Frag) (Hf:Hp) (a:Addr):MD->List V->Prop
 | [],vs=>vs=[]
 | m::ms,vs=>∃v r,vs=v::r/\MxV K Hf a m v/\Mxs K Hf a ms r
abbrev DF:=Fo->MD->Option (D×Fo)
def spD(K:PySem.W.Frag) (C:Addr) (n:Nat) (F:DF):Sp:=fun vs H Q _=>vs.length=n/\∃a Hf c o ms r o',B3 Hf H/\FoAt K C H Hf a c o/\Mxs K Hf a ms vs/\F o ms=some (r,o') /\
 ∀v H' Hf' c',Chg (cells a c) H Hf H' Hf'->FoAt K C H' Hf' a c' o'->(∀x∈cells a c',x∈cells a c\/H x=none)->Rep K Hf' r v->Q v H'
def cf6(X:Cx) (C:Addr) (x:Str) (F:DF) (n:Nat):Prop:=∃k f fd ps,FnOk X.prog X.w X.K X.mg X.base CX0 k f fd ps (spD X.K C n F)/\Room k X.A/\X.mg x=some (.ref f)/\PySem.W.keepIn X.K (.ref f)=true/\K2 X.K fd ps []
section
variable {X:Cx}{C:Addr}{K:PySem.W.Frag}{Hf Hf':Hp}{a:Addr}
theorem Mxs.length:∀{ms:MD}{vs:List V},Mxs K Hf a ms vs->vs.length=ms.length
 | [],_,h=>by cases h;rfl
 | m::ms,_,⟨v,r,e,h1,h2⟩=>by subst e;simp[h2.length]
theorem Mxs.get:∀{ms:MD}{vs:List V},Mxs K Hf a ms vs->∀{i:Nat}{m:Option D},ms[i]? = some m->∃v,vs[i]? = some v/\MxV K Hf a m v
 | [],_,h,i,m,e=>by simp at e
 | m::ms,_,⟨v,r,e,h1,h2⟩,i,m',e'=>by
  subst e
  cases i with
  | zero=>simp at e';subst e';exact⟨v,rfl,h1⟩
  | succ i=>exact h2.get (i:=i) (by simpa using e')
structure JM (X:Cx) (i:Nat) (es:List Expr) (g:Rho->Option MD):Prop where
 len:∀ρ ms,g ρ=some ms->ms.length=es.length
 run:∀ρ ms,g ρ=some ms->∀a ρ',ρ'[i]? = some (some (.opq a))->(∀{H0 H Hf:Hp}{σ:L2.St},Slots X.K H0 ρ' σ H Hf->Slots X.K H0 ρ σ H Hf) ->
  PA X es (fun σ H Q=>∃H0 Hf,B3 Hf H/\Slots X.K H0 ρ' σ H Hf/\∀vs H' Hf',Grow H Hf H' Hf'->Mxs X.K Hf' a ms vs->Q vs H')
def mN:Rho->Option MD:=fun _=>some []
def mC(f:DE) (g:Rho->Option MD):Rho->Option MD:=fun ρ=>(f ρ).bind fun d=>(g ρ).map fun ms=>some d::ms
def mO(g:Rho->Option MD):Rho->Option MD:=fun ρ=>(g ρ).map fun ms=>none::ms
theorem bP9:JM X i [] mN:=⟨fun ρ ms h=>by cases h;rfl,fun ρ ms h a ρ' _ _ pos pins s σ H Q I ⟨H0,Hf,ss,sl,k⟩=>by
 cases h
 exact M3 pos pins s σ H Q I (k [] H Hf (Grow.refl ss) rfl)⟩
theorem aO4(h:JE X e f) (r:JM X i es g) (hs:starEach (e::es) X.env=(false,eval e X.env)::starEach es X.env):JM X i (e::es) (mC f g):=by
 refine⟨fun ρ ms q=>?_,fun ρ ms q a ρ' sa sb=>?_⟩
 ·obtain⟨d,h1,h2⟩:=Option.bind_eq_some_iff.mp q
  obtain⟨es',h3,h4⟩:=Option.map_eq_some_iff.mp h2
  subst h4
  simp[r.len ρ es' h3]
 ·obtain⟨d,h1,h2⟩:=Option.bind_eq_some_iff.mp q
  obtain⟨es',h3,h4⟩:=Option.map_eq_some_iff.mp h2
  subst h4
  intro pos pins s σ H Q I ⟨H0,Hf,ss,sl,k⟩
  refine E2 (h ρ d h1) (r.run ρ es' h3 a ρ' sa sb) hs pos pins s σ H Q I ⟨H0,Hf,ss,sb sl,fun v H1 Hf1 g1 r1=>⟨H0,Hf1,g1.sub,sl.grow g1,fun vs H2 Hf2 g2 r2=>?_⟩⟩
  exact k (v::vs) H2 Hf2 (g1.trans g2) ⟨v,vs,rfl,Rep.mono g2.ext r1,r2⟩
theorem bP8(r:JM X i es g) (hn:X.N[i]? = some x) (hv:Vis X.env.scope x) (h1:(x==("__debug__" : Str))=false) (h2:(x==("__classdict__" : Str))=false) (hs:starEach (.Name x p::es) X.env=(false,eval (.Name x p) X.env)::starEach es X.env):JM X i (.Name x p::es) (mO g):=by
 refine⟨fun ρ ms q=>?_,fun ρ ms q a ρ' sa sb=>?_⟩
 ·obtain⟨es',h3,h4⟩:=Option.map_eq_some_iff.mp q
  subst h4
  simp[r.len ρ es' h3]
 ·obtain⟨es',h3,h4⟩:=Option.map_eq_some_iff.mp q
  subst h4
  intro pos pins s σ H Q I ⟨H0,Hf,ss,sl,k⟩
  obtain⟨v,w1,w2⟩:=sl.is i _ sa
  cases w2
  exact E2 (P2 hn hv h1 h2) (r.run ρ es' h3 a ρ' sa sb) hs pos pins s σ H Q I ⟨_,w1,H0,Hf,ss,sl,fun vs H2 Hf2 g2 r2=>k (.ref a::vs) H2 Hf2 g2 ⟨_,vs,rfl,rfl,r2⟩⟩
def uD(i:Nat) (F:DF) (g:Rho->Option MD):UD:=fun ρ q=>(i6 i ρ q).bind fun p=>(g (era ρ)).bind fun ms=>(F p.2 ms).map fun r=>(r.1,q.set p.1 r.2)
theorem bW8{e:Expr}{es:List Expr}(i:Nat) (N:cf6 X C y F n) (hg:Gl X y) (hdb:(y==("__debug__" : Str))=false) (hn:X.N[i]? = some x) (hv:Vis X.env.scope x) (h1:(x==("__debug__" : Str))=false) (h2:(x==("__classdict__" : Str))=false) (ha:JM X i (e::es) g) (hz:(e::es).length=n)
  (he:starEach (e::es) X.env=(false,eval e X.env)::starEach es X.env) (hpl:(backTo pos (starEach es X.env)).any (·.1)=false):UE X C (.Call (.Name y p) (e::es) [] pos) (uD i F g):=fun ρ q d q' w no=>by
 obtain⟨⟨j,o⟩,w1,w⟩:=Option.bind_eq_some_iff.mp w
 obtain⟨ms,w2,w⟩:=Option.bind_eq_some_iff.mp w
 obtain⟨⟨r,o'⟩,w3,w4⟩:=Option.map_eq_some_iff.mp w
 cases w4
 refine⟨by simp,fun b as l=>?_⟩
 obtain⟨a,ea,A⟩:=i5 w1 (al1 no) l hn hv h1 h2
 rw[ar9 ea]
 obtain⟨k,f,fd,ps,Fk,hr,hm,hk,hb⟩:=N
 refine B0 (aM8 Fk hr hg hm hk hb .nil ap6 (ha.run (era ρ) ms w2 a (sub as ρ) A.s fun s=>by rw[← W9 as ρ];exact s.era) hdb he hpl) fun σ H Q ⟨Hf,st,kk⟩=>?_
 obtain⟨c,f1,f3⟩:=st.focus A.w A.o
 refine⟨_,Hf,st.same,st.sl,fun vs H1 Hf1 g1 r1=>⟨?_,a,Hf1,c,o,ms,r,o',g1.sub,f1.grow g1,by rw[List.append_nil];exact r1,w3,fun v H2 Hf2 c' g2 f2 n2 rv=>kk v H2 Hf2 (f3 ((Chg.of g1).trans g2 fun _ h=>.inl h) f2 fun y hy=>(n2 y hy).imp id fun z=>Classical.byContradiction fun w=>(Chg.of (S:=[]) g1).kp y w z) (g1.ext.trans g2.ext) rv⟩⟩
 rw[List.append_nil,r1.length,ha.len _ ms w2,hz]
end
def ce6:Option D->Option B
 | some d=>‹d›
 | none=>some (.opq 0)
def Z3(n:Nat) (ms:MD):Rho:=ms.map ce6++List.replicate (n - ms.length) none
def ba8(g:UX) (n:Nat):DF:=fun o ms=>(g (Z3 n ms) [o]).bind fun fl=>match fl with
 | .rt d q=>(q[0]?).map fun o'=>(d,o')
 | .nx _ q=>(q[0]?).map fun o'=>(.none,o')
 | _=>none
theorem aF8(n:Nat) (ms:MD):okR 1 (Z3 n ms)=true:=by
 unfold okR Z3
 rw[List.all_eq_true]
 intro x hx
 rcases List.mem_append.mp hx with h|h
 ·obtain⟨d,_,rfl⟩:=List.mem_map.mp h
  cases d<;>rfl
 ·rw[(List.mem_replicate.mp h).2]
theorem an9{K:PySem.W.Frag}{H0 H Hf:Hp}{N:List Str}{ms:MD}{vs:List V}(r:Mxs K Hf a ms vs):Slots K H0 (sub [a] (Z3 N.length ms)) (L2.start N vs) H Hf:=by
 have hl:=r.length
 have noown:∀(i:Nat) (b:B),(sub [a] (Z3 N.length ms))[i]? = some (some b)->∃m,ms[i]? = some m/\some b=bY2 [a] (ce6 m):=fun i b h=>by
  unfold Z3 sub at h
  rw[List.map_append]at h
  rcases Nat.lt_or_ge i ms.length with q|q
  ·rw[List.getElem?_append_left (by simpa using q),List.getElem?_map,List.getElem?_map]at h
   rw[List.getElem?_eq_getElem q]at h ⊢
   simp only[xms,Option.some.injEq]at h
   exact⟨ms[i],rfl,h.symm⟩
  ·rw[List.getElem?_append_right (by simpa using q),List.getElem?_map,List.getElem?_replicate]at h
   split at h<;>cases h
 refine⟨by simp[Z3,L2.start,hl],fun i b e=>?_,fun i j d1 d2 a e1 _ _ _=>?_⟩
 ·obtain⟨m,h1,h2⟩:=noown i b e
  obtain⟨v,h3,h4⟩:=r.get h1
  have hi:i < vs.length:=(List.getElem?_eq_some_iff.mp h3).1
  refine⟨v,?_,?_⟩
  ·unfold L2.start
   rw[List.getElem?_append_left (by simpa using hi),List.getElem?_map,h3];rfl
  ·cases m with
   | none=>cases h2;exact h4
   | some d=>cases h2;exact h4
 ·obtain⟨m,_,h2⟩:=noown i _ e1
  cases m<;>cases h2
section
variable {P:Program}{w:World}{K:PySem.W.Frag}{mg:Str->Option Value}{base:Heap}{x qual:Str}{st:Stmt}{f:Addr}{fd:FuncData}{N ps:List Str}{k:Nat}{g:UX}{C:Addr}
theorem bk6(F:Fun K x qual st f fd) (S:FnScope N ps (A7 st))
  (hb:∀(cdv:Value) (A:Around) (outer:List Env) (s:Shared) (H:Hp) (E:XK),Room k (A.deeper (envOfC qual (A7 st) s.heap.objs.size f cdv))->USs (l7 CX0 P w K mg base N qual (A7 st) f cdv A outer s H E).nox C (A4 st) g) :
  FnOk P w K mg base CX0 (k+1) f fd ps (spD K C ps.length (ba8 g N.length)):=by
 refine F.ok S (fun vs H Q E h=>h.1) fun cdv A outer s H vs Q E hr hsp=>?_
 obtain⟨hlen,a,Hf,c,o,ms,r,o',ss,fo,rp,e,kk⟩:=hsp
 obtain⟨fl,e1,e2⟩:=Option.bind_eq_some_iff.mp e
 obtain⟨_,h⟩:=hb cdv A outer s H E hr _ [o] fl e1 (aF8 _ _)
 have fin:∀ex q ρ' σ' v H' Hf',q[0]? = some o'->OSt K C ⟨cells a c,H,Hf⟩ ρ' (([a]++ex).zip q) σ' H' Hf'->Rep K Hf' r v->Q v H':=fun ex q ρ' σ' v H' Hf' hq s' rv=>by
  obtain⟨R,r1,r2,_⟩:=s'.ob
  obtain⟨c',f1,f2,_⟩:=r1.focus (j:=0) (a:=a) (o:=o') (List.getElem?_zip_eq_some.mpr ⟨rfl,hq⟩)
  exact kk v H' Hf' c' s'.gr f1 (fun x hx=>r2 x (f2 x hx)) rv
 refine⟨_,h ⟨cells a c,H,Hf⟩ [a] rfl,Hf,⟨Chg.of (Grow.refl ss),cells a c++[],.cons fo (by simp) .nil,fun x hx=>.inl (by simpa using hx),an9 rp⟩,?_⟩
 cases fl with
 | rt d' q =>
  obtain⟨o1,e3,e4⟩:=Option.map_eq_some_iff.mp e2
  cases e4
  exact fun ex ρ σ v H' Hf' l s' r=>fin ex q ρ σ v H' Hf' e3 s' r
 | nx ρ q =>
  obtain⟨o1,e3,e4⟩:=Option.map_eq_some_iff.mp e2
  cases e4
  exact fun ex σ' H' Hf' l s' _=>fin ex q _ σ' _ H' Hf' e3 s' rfl
 | ro j q=>cases e2
end
end G
namespace G
open PySem PySem.Spec PyProof.Rows L2
section
variable {X:Cx}{C:Addr}
def spT(K:PySem.W.Frag) (C:Addr):Sp:=fun vs H Q _=>∃a Hf c o,vs=[.ref a]/\B3 Hf H/\FoAt K C H Hf a c o/\(o.m.length < 1000/\o.b.length < 1000/\o.f.length < 1000)/\∀a' c' H' Hf',Grow H Hf H' Hf'->FoAt K C H' Hf' a' c' o->(∀y∈cells a' c',H y=none)->Q (.ref a') H'
def cm1(X:Cx) (C:Addr):Prop:=∃k f fd ps,FnOk X.prog X.w X.K X.mg X.base CX0 k f fd ps (spT X.K C)/\Room k X.A/\Meth X.K C "twin" f/\K2 X.K fd ps []
end
end G
namespace G
open PySem PySem.Spec PyProof.Rows L2
section
variable {X:Cx}{C:Addr}
end
end G
namespace G
open PySem PySem.Spec PyProof.Rows L2
section
variable {X:Cx}{C:Addr}{b:Bs}{ρ:Rho}{q:Os}{o:Fo}{a:Addr}{K:PySem.W.Frag}{H Hf:Hp}{c:Cel}{i j:Nat}{x:Str}
variable {H0 Hf0:Hp}{cs:Cel}{os:Fo}
end
section
variable {P:Program}{w:World}{K:PySem.W.Frag}{mg:Str->Option Value}{base:Heap}{cs:List (Str×D)}{bl:List Str}{C:Addr}{tab:Tab}
end
end G
namespace G
open PySem PySem.Spec PyProof.Rows L2
structure Og where
 ms:af4
 nf:List (Str×(List D->Option Fo)×Nat)
 cl:Str
 df:List (Str×DF×Nat×Nat)
 tw:Bool
structure FitU (S:Sg) (O:Og) (C:Addr) (c:Kx) (X:Cx):Prop where
 o:FitO S O.ms C c X
 nf:∀x F n,O.nf.lookup x=some (F,n)->cm4 X C x F n
 make:bU9 X C O.cl
 nm:cm3 X C
 df:∀x F n j,O.df.lookup x=some (F,n,j)->cf6 X C x F n
 tw:O.tw=true->cm1 X C/\an4 X C "fetch" 1 M7
def bn3:Expr->Option (Expr×List Expr×List Keyword×Pos)
 | .Call f a k p=>some (f,a,k,p)
 | _=>none
def cf0:Expr->Option (Expr×Str×Pos)
 | .Attribute o m p=>some (o,m,p)
 | _=>none
def bz9:Expr->Option (Expr×CmpOp×Expr×Pos)
 | .Compare l [op] [r] p=>some (l,op,r,p)
 | _=>none
def bX1:Expr->Option (List Expr×Nat×Pos)
 | .Tuple es k p=>some (es,k,p)
 | _=>none
theorem bq7(h:bX1 e=some t):e=.Tuple t.1 t.2.1 t.2.2:=by cases e<;>first|(cases h;rfl)|cases h
theorem aj5(h:bn3 e=some t):e=.Call t.1 t.2.1 t.2.2.1 t.2.2.2:=by cases e<;>first|(cases h;rfl)|cases h
theorem bA6(h:cf0 e=some t):e=.Attribute t.1 t.2.1 t.2.2:=by cases e<;>first|(cases h;rfl)|cases h
theorem aQ1(h:bz9 e=some t):e=.Compare t.1 [t.2.1] [t.2.2.1] t.2.2.2:=by
 unfold bz9 at h
 split at h
 ·cases h;rfl
 ·cases h
structure Mc where
 x:Str
 p:Pos
 m:Str
 ap:Pos
 a:List Expr
 cp:Pos
def mcV(e:Expr):Option Mc:=(bn3 e).bind fun t=>match t.2.2.1 with
 | []=>(cf0 t.1).bind fun u=>(nmP u.1).map fun v=>⟨v.1,v.2,u.2.1,u.2.2,t.2.1,t.2.2.2⟩
 | _=>none
theorem bf5(h:mcV e=some t):e=.Call (.Attribute (.Name t.x t.p) t.m t.ap) t.a [] t.cp:=by
 obtain⟨⟨f,a,k,p⟩,h1,h⟩:=Option.bind_eq_some_iff.mp h
 cases k with
 | cons=>cases h
 | nil =>
  obtain⟨⟨o,m,ap⟩,h2,h⟩:=Option.bind_eq_some_iff.mp h
  obtain⟨⟨x,q⟩,h3,h⟩:=Option.map_eq_some_iff.mp h
  subst h
  rw[aj5 h1,bA6 h2,j6 h3]
def uNo:UD:=fun _ _=>none
def uXo:UX:=fun _ _=>none
def opU:CmpOp->Option (D->D->Option D)
 | .Eq=>some eqD
 | .NotEq=>some neD
 | .Is=>some isB
 | .IsNot=>some aT1
 | _=>none
section
variable (S:Sg) (O:Og) (c:Kx)
def pE(e:Expr):DE:=(ev S 99).e c e
def oMb(t:Mc) (n:Nat):Bool:=ak2 c.sc t.x&&Y5 t.m&&(t.ap.endLine==t.cp.line)&&t.a.all pl&&t.a.length==n&&decide (n < 20)
def oMc(t:Mc):Option UD:=(X7 t.x c.N).bind fun i=>(O.ms.lookup t.m).bind fun F=>if oMb c t F.2 then some (match t.a with|[]=>uM0 i F.1|_=>uM i F.1 (evA (pE S c) t.a)) else none
def oM(e:Expr):Option UD:=(mcV e).bind (oMc S O c)
def aT5(f:Expr->DE):Nat->List Expr->Rho->Option MD
 | _,[]=>mN
 | 0,_::es=>mO (aT5 f es.length es)
 | j+1,e::es=>mC (f e) (aT5 f j es)
def oDa(y:Str) (a:List Expr):Option UD:=(O.df.lookup y).bind fun F=>(a[F.2.2]?).bind fun ej=>(nmP ej).bind fun v=>(X7 v.1 c.N).bind fun i =>
 if a8 c.sc y&&ak2 c.sc v.1&&a.all pl&&(a.length==F.2.1&&decide (F.2.2 < a.length)) then some (uD i F.1 (aT5 (pE S c) F.2.2 a)) else none
def oDf(e:Expr):Option UD:=(bn3 e).bind fun t=>match t.2.2.1 with
 | []=>(nmP t.1).bind fun y=>oDa S O c y.1 t.2.1
 | _=>none
def oCc(r:Expr->UD) (t:Expr×CmpOp×Expr×Pos):UD:=match opU t.2.1 with
 | some h=>if behindInMarks t.2.1 t.2.2.1 then uNo else uB2 h (r t.1) (r t.2.2.1)
 | none=>uNo
end
section
variable {X:Cx}{S:Sg}{O:Og}{C:Addr}{c:Kx}
theorem ap7(F:FitU S O C c X) (e:Expr):JE X e (pE S c e):=(V7 S 99).e F.o.fit e
theorem bk8{args:List Expr}{pos:Pos}(h:args.all pl=true) (n:args.length < 20):methodCallForm (args.length+([]:List Keyword).length) (backTo pos (starEach args X.env)) (backToKw pos (keywordEach [] X.env))=true:=by
 unfold methodCallForm
 have h1:(backTo pos (starEach args X.env)).all (!·.1)=true:=by
  have:=(V9 pos (starEach args X.env)).trans (Q2 pos X.env h)
  rw[List.all_eq_not_any_not]
  simpa using this
 rw[h1]
 show(true&&true&&decide _)=true
 simp
 show args.length+0+0 < 30
 omega
theorem ca9(F:FitU S O C c X) (h:oM S O c e=some g):UE X C e g:=by
 obtain⟨t,h1,h0⟩:=Option.bind_eq_some_iff.mp h
 clear h
 rw[bf5 h1]
 obtain⟨i,h2,h⟩:=Option.bind_eq_some_iff.mp h0
 obtain⟨⟨Fm,n⟩,h3,h⟩:=Option.bind_eq_some_iff.mp h
 split at h
 ·rename_i hb
  unfold oMb at hb
  simp only[Bool.and_eq_true,beq_iff_eq,decide_eq_true_eq]at hb
  obtain⟨⟨⟨⟨⟨b1,b2⟩,b3⟩,b4⟩,b5⟩,b6⟩:=hb
  obtain⟨v1,v2,v3⟩:=S6 F.o.fit b1
  have M:=F.o.mts _ _ _ h3
  cases h
  obtain⟨x,p,m,ap,a,cp⟩:=t
  cases a with
  | nil =>
   cases b5
   exact aY6 i M F.o.foc (F.o.fit.slot h2) v1 v2 v3 b2 (by simpa using b3)
  | cons e es =>
   have b4':=b4
   simp only[List.all_cons,Bool.and_eq_true]at b4'
   exact bq3 i M F.o.foc (F.o.fit.slot h2) v1 v2 v3 b2 (t9 (ap7 F) (e::es)) (by simpa using b3) b5 (E1 b4'.1 _ _) ((V9 cp _).trans (Q2 cp _ b4'.2)) (bk8 b4 (by rw[b5];exact b6))
 ·cases h
theorem bB9:UE X C e uNo:=fun _ _ _ _ h _=>nomatch h
theorem bd7(F:FitU S O C c X) (h:opU op=some k):OpD X (compareOp op) k:=by
 cases op<;>cases h
 ·exact ap9 F.o.fit.units
 ·exact bD3 F.o.fit.units
 ·exact bD4
 ·exact az3
theorem aO3{f:Expr->DE}(h:∀e,JE X e (f e)):∀(es:List Expr) (j:Nat),es.length<=j->es.all pl=true->JM X i es (aT5 f j es)
 | [],_,_,_=>by unfold aT5;exact bP9
 | e::es,0,l,_=>by simp at l
 | e::es,j+1,l,p=>by
  simp only[List.all_cons,Bool.and_eq_true]at p
  exact aO4 (h e) (aO3 h es j (by simpa using l) p.2) (E1 p.1 _ _)
theorem bh3{f:Expr->DE}(h:∀e,JE X e (f e)) (hn:X.N[i]? = some x) (hv:Vis X.env.scope x) (h1:(x==("__debug__" : Str))=false) (h2:(x==("__classdict__" : Str))=false):∀(j:Nat) (es:List Expr),es[j]? = some (.Name x p)->es.all pl=true->JM X i es (aT5 f j es)
 | _,[],e,_=>by simp at e
 | 0,e::es,q,p=>by
  simp at q
  subst q
  simp only[List.all_cons,Bool.and_eq_true]at p
  exact bP8 (aO3 h es _ (Nat.le_refl _) p.2) hn hv h1 h2 (E1 p.1 _ _)
 | j+1,e::es,q,p=>by
  simp only[List.all_cons,Bool.and_eq_true]at p
  exact aO4 (h e) (bh3 h hn hv h1 h2 j es (by simpa using q) p.2) (E1 p.1 _ _)
theorem bN9(F:FitU S O C c X) (h:oDf S O c e=some g):UE X C e g:=by
 obtain⟨⟨f,a,k,p⟩,h1,h0⟩:=Option.bind_eq_some_iff.mp h
 clear h
 rw[aj5 h1]
 cases k with
 | cons=>cases h0
 | nil =>
  obtain⟨⟨y,py⟩,h2,h⟩:=Option.bind_eq_some_iff.mp h0
  rw[j6 h2]
  obtain⟨⟨Fn,n,j⟩,h3,h⟩:=Option.bind_eq_some_iff.mp h
  obtain⟨ej,h4,h⟩:=Option.bind_eq_some_iff.mp h
  obtain⟨⟨v,pv⟩,h5,h⟩:=Option.bind_eq_some_iff.mp h
  obtain⟨i,h6,h⟩:=Option.bind_eq_some_iff.mp h
  split at h
  ·rename_i hb
   cases h
   simp only[Bool.and_eq_true,beq_iff_eq,decide_eq_true_eq]at hb
   obtain⟨⟨⟨b1,b2⟩,b3⟩,b4,b5⟩:=hb
   obtain⟨g1,g2⟩:=S7 F.o.fit b1
   obtain⟨v1,v2,v3⟩:=S6 F.o.fit b2
   have hj:a[j]? = some (.Name v pv):=by rw[j6 h5]at h4;exact h4
   have J:=bh3 (ap7 F) (F.o.fit.slot h6) v1 v2 v3 j a hj b3
   cases a with
   | nil=>simp at hj
   | cons e es =>
    have b3':=b3
    simp only[List.all_cons,Bool.and_eq_true]at b3'
    exact bW8 i (F.df _ _ _ _ h3) g1 g2 (F.o.fit.slot h6) v1 v2 v3 J b4 (E1 b3'.1 _ _) ((V9 p _).trans (Q2 p _ b3'.2))
  ·cases h
end
end G
namespace G
open PySem PySem.Spec PyProof.Rows L2
def oB(f:Stmt->UX):List Stmt->UX
 | []=>O8
 | [s]=>f s
 | s::t::r=>D8 (f s) (oB f (t::r))
section
variable (S:Sg) (O:Og) (c:Kx)
end
section
variable {X:Cx}{S:Sg}{O:Og}{C:Addr}{c:Kx}
theorem V0{st:Stmt}:US X C st uXo:=fun _ _ _ h=>nomatch h
theorem aD4:Cm gNo:=fun _ _ _ _ h=>nomatch h
theorem bm8{f:Expr->DG}(h:∀e,Cm (f e)):∀es:List Expr,Cms (bz3 f es)
 | []=>bz8
 | e::es=>bm9 (h e) (bm8 h es)
theorem bn0(S:Sg):∀n c ex,Cm ((ev S n).g c ex)
 | 0,c,ex=>aD4
 | n+1,c,ex=>by
  show Cm (xG (ev S n) c ex)
  unfold xG
  split
  ·split
   ·split
    ·exact bT3 _
    ·exact aD4
   ·exact aD4
  ·split
   ·exact bT2 (bm8 (fun e=>bn0 S n c e) _)
   ·exact aD4
  ·exact aD4
theorem aN5{f:Stmt->UX}(h:∀st,US X C st (f st)):∀sts,USs X C sts (oB f sts)
 | []=>aL0
 | [s]=>aK9 (h s)
 | s::t::r=>aY1 (h s) (aN5 h (t::r))
end
end G
namespace G
open PySem PySem.Spec PyProof.Rows L2
section
variable {X:Cx}{C:Addr}{b:Bs}{ρ ρ':Rho}{q q' q1 q2:Os}{o o':Fo}{K:PySem.W.Frag}{σ:L2.St}{H Hf:Hp}{a:Addr}{c:Cel}
theorem au3(A:At1 X ρ q x i j a o) (c:FoC X.K C) (hg:Gl X "len") (hm:X.mg "len" = none) (hb:attributeBase (.Name x p) "steps_back" X.env (eval (.Name x p) X.env)=eval (.Name x p) X.env:=by rfl):OP X C b ρ q (.Call (.Name "len" p1) [.Attribute (.Name x p) "steps_back" pos] [] cpos) (.int o.b.length) :=
 B0 (Q9 aD6 hg hm (by rfl) (E2 (Y3 A c (.inr (.inl rfl)) hb) M3)) fun σ H Q ⟨Hf,st,kk⟩=>⟨Hf,st,fun cl v f1 hl=>by
  cases hl
  obtain⟨vs,e0,r0⟩:=f1.bk
  refine⟨_,o.b.length,rfl,?_,kk _ _ _ (Grow.refl st.same) rfl⟩
  exact .inl ⟨vs,SqL.of e0,by rw[r0.length]⟩⟩
theorem au2(A:At1 X ρ q x i j a o) (c:FoC X.K C) (hg:Gl X "len") (hm:X.mg "len" = none) (hb:attributeBase (.Name x p) "steps_forth" X.env (eval (.Name x p) X.env)=eval (.Name x p) X.env:=by rfl):OP X C b ρ q (.Call (.Name "len" p1) [.Attribute (.Name x p) "steps_forth" pos] [] cpos) (.int o.f.length) :=
 B0 (Q9 aD6 hg hm (by rfl) (E2 (Y3 A c (.inr (.inr rfl)) hb) M3)) fun σ H Q ⟨Hf,st,kk⟩=>⟨Hf,st,fun cl v f1 hl=>by
  cases hl
  obtain⟨vs,e0,r0⟩:=f1.fo
  refine⟨_,o.f.length,rfl,?_,kk _ _ _ (Grow.refl st.same) rfl⟩
  exact .inl ⟨vs,SqL.of e0,by rw[r0.length]⟩⟩
theorem ad7:∀{bs:List D}{d:D}{vs:List V},Reps K H (bs++[d]) vs->∃us v,vs=us++[v]/\Reps K H bs us/\Rep K H d v
 | [],d,vs,⟨v,r,e,h1,h2⟩=>by cases h2;exact⟨[],v,e,rfl,h1⟩
 | x::bs,d,vs,⟨v,r,e,h1,h2⟩=>by
  obtain⟨us,u,e1,e2,e3⟩:=ad7 h2
  subst e1
  exact⟨v::us,u,e,⟨v,us,rfl,h1,e2⟩,e3⟩
theorem bw1(A:At1 X ρ q x i j a o) (cc:FoC X.K C) (h:o.b=bs++[d]) (hline:(apos.endLine==cpos.line)=true) (hb:attributeBase (.Name x p) "steps_back" X.env (eval (.Name x p) X.env)=eval (.Name x p) X.env:=by rfl)
  (hbase:attributeBase (.Attribute (.Name x p) "steps_back" pos) "pop" X.env (eval (.Attribute (.Name x p) "steps_back" pos) X.env)=eval (.Attribute (.Name x p) "steps_back" pos) X.env:=by rfl) :
  OE X C b ρ q (.Call (.Attribute (.Attribute (.Name x p) "steps_back" pos) "pop" apos) [] [] cpos) d (q.set j (a,{ o with b:=bs })) :=
 B0 (bc7 PySem.F.plainAttrs_list PySem.F.slot_list_pop PySem.F.type_list_pop bf3 (Y3 A cc (.inr (.inl rfl)) hb) hbase hline) fun σ H Q ⟨Hf,st,kk⟩=>⟨Hf,st,fun cl y f1 hl=>by
  cases hl
  obtain⟨vb,e0,r0⟩:=f1.bk
  rw[h]at r0
  obtain⟨us,v,rfl,r1,r2⟩:=ad7 r0
  refine⟨.inl ⟨rfl,_,SqL.of e0⟩,cl.lb,us++[v],v,rfl,rfl,e0,by simp,?_⟩
  obtain⟨c',f3,k3⟩:=st.focus A.w A.o
  have:c'=cl:=FoAt.same f3 f1
  subst this
  rw[List.dropLast_concat]
  exact kk v _ Hf (k3 (Chg.wr st.same (by simp) (f1.fr _ (by simp))) (f1.wrB r1) fun z hz=>.inl hz) (B3.refl _) r2⟩
theorem bw0(A:At1 X ρ q x i j a o) (cc:FoC X.K C) (h:o.f=bs++[d]) (hline:(apos.endLine==cpos.line)=true) (hb:attributeBase (.Name x p) "steps_forth" X.env (eval (.Name x p) X.env)=eval (.Name x p) X.env:=by rfl)
  (hbase:attributeBase (.Attribute (.Name x p) "steps_forth" pos) "pop" X.env (eval (.Attribute (.Name x p) "steps_forth" pos) X.env)=eval (.Attribute (.Name x p) "steps_forth" pos) X.env:=by rfl) :
  OE X C b ρ q (.Call (.Attribute (.Attribute (.Name x p) "steps_forth" pos) "pop" apos) [] [] cpos) d (q.set j (a,{ o with f:=bs })) :=
 B0 (bc7 PySem.F.plainAttrs_list PySem.F.slot_list_pop PySem.F.type_list_pop bf3 (Y3 A cc (.inr (.inr rfl)) hb) hbase hline) fun σ H Q ⟨Hf,st,kk⟩=>⟨Hf,st,fun cl y f1 hl=>by
  cases hl
  obtain⟨vb,e0,r0⟩:=f1.fo
  rw[h]at r0
  obtain⟨us,v,rfl,r1,r2⟩:=ad7 r0
  refine⟨.inl ⟨rfl,_,SqL.of e0⟩,cl.lf,us++[v],v,rfl,rfl,e0,by simp,?_⟩
  obtain⟨c',f3,k3⟩:=st.focus A.w A.o
  have:c'=cl:=FoAt.same f3 f1
  subst this
  rw[List.dropLast_concat]
  exact kk v _ Hf (k3 (Chg.wr st.same (by simp) (f1.fr _ (by simp))) (f1.wrF r1) fun z hz=>.inl hz) (B3.refl _) r2⟩
theorem bu8(A:At1 X ρ q x i j a o) (cc:FoC X.K C) (hv:OP X C b ρ q e d) (hz:o.f.length < 1000) (hb:attributeBase (.Name x p) "steps_forth" X.env (eval (.Name x p) X.env)=eval (.Name x p) X.env:=by rfl)
  (hbase:attributeBase (.Attribute (.Name x p) "steps_forth" pos) "append" X.env (eval (.Attribute (.Name x p) "steps_forth" pos) X.env)=eval (.Attribute (.Name x p) "steps_forth" pos) X.env:=by rfl)
  (hfew:((backTo cpos (starEach [e] X.env)).all (fun x=>!x.1)&&(backToKw cpos (keywordEach [] X.env)).all (fun x=>x.1.isSome)
   && decide (([e]:List Expr).length+([]:List Keyword).length+(if([]:List Keyword).isEmpty then 0 else 1) < 30))=true:=by rfl)
  (hline:(apos.endLine==cpos.line)=true:=by rfl) (hst:starEach [e] X.env=[(false,eval e X.env)]:=by rfl)
  (hs:swapsWith (.Call (.Attribute (.Attribute (.Name x p) "steps_forth" pos) "append" apos) [e] [] cpos) none pos2.line X.env=pure false:=by rfl) :
  OS X C b ρ q (.Expr (.Call (.Attribute (.Attribute (.Name x p) "steps_forth" pos) "append" apos) [e] [] cpos) pos2) (.nx ρ (q.set j (a,{ o with f:=o.f++[d] }))) :=
 D9 (ai3 (bD2 PySem.F.plainAttrs_list PySem.F.slot_list_append PySem.F.type_list_append ae3 (Y3 A cc (.inr (.inr rfl)) hb) (E2 hv M3 hst) hbase hfew hline hst (by rfl)) hs) fun En σ H ⟨Hf,st,kk⟩=>⟨Hf,st,fun cl y f1 hl=>by
  cases hl
  obtain⟨vb,e0,_⟩:=f1.fo
  refine⟨.inl ⟨rfl,vb,SqL.of e0⟩,Hf,st,fun v H2 Hf2 g2 r2=>?_⟩
  have st2:=st.grow g2
  have f2:=f1.grow g2
  obtain⟨vs,e1,r3⟩:=f2.fo
  refine⟨cl.lf,vs,v,rfl,rfl,e1,by rw[r3.length];exact Q5 (Nat.le_of_lt hz),?_⟩
  obtain⟨c',f3,k3⟩:=st2.focus A.w A.o
  have:c'=cl:=FoAt.same f3 f2
  subst this
  exact kk σ _ Hf2 (k3 (Chg.wr g2.sub (by simp) (f2.fr _ (by simp))) (f2.wrF (r3.append ⟨v,[],rfl,r2,rfl⟩)) fun z hz=>.inl hz) g2.ext⟩
end
def aB2(l:List D):Option (List D×D):=l.getLast?.map fun d=>(l.dropLast,d)
theorem aB1{l:List D}(h:aB2 l=some (bs,d)):l=bs++[d]:=by
 obtain⟨x,h1,h2⟩:=Option.map_eq_some_iff.mp h
 cases h2
 cases l with
 | nil=>cases h1
 | cons y r =>
  rw[List.getLast?_eq_some_getLast (by simp)]at h1
  cases h1
  exact(List.dropLast_concat_getLast (by simp)).symm
def t8:MF:=fun o ds=>match ds with
 | []=>(aB2 o.b).bind fun p=>match p.2 with
  | .tuple [w,.str k,x,y]=>(v7 { o with b:=p.1 } [.str k,x]).bind fun r=>if r.2.f.length < 1000 then some (w,{ r.2 with f:=r.2.f++[.tuple [w,.str k,x,y]] }) else none
  | _=>none
 | _=>none
def k4:MF:=fun o ds=>match ds with
 | []=>(aB2 o.f).bind fun p=>match p.2 with
  | .tuple [w,.str k,x,y]=>(v7 { o with f:=p.1 } [.str k,y]).bind fun r=>if r.2.b.length < 1000 then some (w,{ r.2 with b:=r.2.b++[.tuple [w,.str k,x,y]] }) else none
  | _=>none
 | _=>none
def Z8:MF:=fun o ds=>match ds with
 | []=>some (.tuple [.int o.b.length,.int o.f.length],o)
 | _=>none
section
variable {X:Cx}{S:Sg}{ms:af4}{C:Addr}{c:Kx}{b:Bs}{a:Addr}{o o':Fo}{ds:List D}{r:D}{ρ:Rho}{q q':Os}
theorem cc0(n:Nat) (h:n≠0):eqD (.int n) (.int 0)=some (.bool false):=by
 show some (PyData.bool (decide ((n:Int)=0)))=_
 rw[decide_eq_false (by omega)]
theorem aW9{rs:List Stmt}(F:FitO S ms C c X) (hN:c.N=[("self" : Str), "step"]) (hd:c.df=true) (hl:W2 c=true) (hm:ms.lookup ("set_sheet" : Str)=some (v7,2)) (hb:biB S c "len" "len" = true) (h1:(p12.endLine==p13.line)=true) (h3:(p22.endLine==p25.line)=true) (h4:(q3.endLine==q5.line)=true) (e:t8 o ds=some (r,o')) :
  OM X C b (F8 1 a ds) [(a,o)] [.If (.Compare (.Call (.Name "len" p1) [.Attribute (.Name "self" p2) "steps_back" p3] [] p4) [.Eq] [.Constant (.int 0) p5 p6] p7) rs [] p8,
   .Assign [.Name "step" p9] (.Call (.Attribute (.Attribute (.Name "self" p10) "steps_back" p11) "pop" p12) [] [] p13) p14,
   .Expr (.Call (.Attribute (.Name "self" p21) "set_sheet" p22) [.Subscript (.Name "step" r1) (.Constant (.int 1) r2 r3) r4,.Subscript (.Name "step" r5) (.Constant (.int 2) r6 r7) r8] [] p25) p26,
   .Expr (.Call (.Attribute (.Attribute (.Name "self" q1) "steps_forth" q2) "append" q3) [.Name "step" q4] [] q5) q6,
   .Return (some (.Subscript (.Name "step" s1) (.Constant (.int 0) s2 s3) s4)) s5] r [(a,o')]:=by
 unfold t8 at e
 split at e
 ·obtain⟨⟨bs,d⟩,e0,e⟩:=Option.bind_eq_some_iff.mp e
  have el:=aB1 e0
  dsimp only at e
  split at e
  ·rename_i w k x y
   obtain⟨⟨r0,o1⟩,e1,e⟩:=Option.bind_eq_some_iff.mp e
   split at e
   ·rename_i hf
    cases e
    have A:∀{ρ:Rho}{o:Fo},V2 ρ=true->ρ[0]? = some (some (.opq a))->At1 X ρ [(a,o)] "self" 0 0 a o:=fun{ρ o} z1 z2=>F.slf hl (by rw[hN];rfl) z2 z1
    have v1:∀{pos},JE X (.Name "step" pos) (A2 1):=fun{pos}=>F.var hl 1 (by rw[hN];rfl)
    have ix:∀{n:Int}{p j p' p''},JE X (.Subscript (.Name "step" p) (.Constant (.int n) j p') p'') (dIx (qE (A2 1)) (dC (.int n))):=fun{n p j p' p''}=>bi0 (aO1 v1) aa1
    obtain⟨_,g1,g2⟩:=O1 F.fit hb
    exact .inl (F7 (ap8 (c:=false) (ae0 (ap9 F.fit.units) (au3 (A rfl rfl) F.foc g1 g2).oe (Q0 aa1 rfl) (cc0 _ (by rw[el];simp))) (fun z=>by cases z) fun _=>ai4)
     (F7 (F.set hd hl 1 (by rw[hN];rfl) (bw1 (A rfl rfl) F.foc el h1)) (F7 (n9 (R4 (F.mts _ _ _ hm) F.foc (A rfl rfl) (by decide) (B8 ix (B8 ix O4)) rfl e1) rfl)
      (F7 (bu8 (A rfl rfl) F.foc (o4 v1 rfl) hf (hline:=h4)) (u8 (u9 (Q0 ix rfl)))))))
   ·cases e
  ·cases e
 ·cases e
theorem aI7{rs:List Stmt}(F:FitO S ms C c X) (hN:c.N=[("self" : Str), "step"]) (hd:c.df=true) (hl:W2 c=true) (hm:ms.lookup ("set_sheet" : Str)=some (v7,2)) (hb:biB S c "len" "len" = true) (h1:(p12.endLine==p13.line)=true) (h3:(p22.endLine==p25.line)=true) (h4:(q3.endLine==q5.line)=true) (e:k4 o ds=some (r,o')) :
  OM X C b (F8 1 a ds) [(a,o)] [.If (.Compare (.Call (.Name "len" p1) [.Attribute (.Name "self" p2) "steps_forth" p3] [] p4) [.Eq] [.Constant (.int 0) p5 p6] p7) rs [] p8,
   .Assign [.Name "step" p9] (.Call (.Attribute (.Attribute (.Name "self" p10) "steps_forth" p11) "pop" p12) [] [] p13) p14,
   .Expr (.Call (.Attribute (.Name "self" p21) "set_sheet" p22) [.Subscript (.Name "step" r1) (.Constant (.int 1) r2 r3) r4,.Subscript (.Name "step" r5) (.Constant (.int 3) r6 r7) r8] [] p25) p26,
   .Expr (.Call (.Attribute (.Attribute (.Name "self" q1) "steps_back" q2) "append" q3) [.Name "step" q4] [] q5) q6,
   .Return (some (.Subscript (.Name "step" s1) (.Constant (.int 0) s2 s3) s4)) s5] r [(a,o')]:=by
 unfold k4 at e
 split at e
 ·obtain⟨⟨bs,d⟩,e0,e⟩:=Option.bind_eq_some_iff.mp e
  have el:=aB1 e0
  dsimp only at e
  split at e
  ·rename_i w k x y
   obtain⟨⟨r0,o1⟩,e1,e⟩:=Option.bind_eq_some_iff.mp e
   split at e
   ·rename_i hf
    cases e
    have A:∀{ρ:Rho}{o:Fo},V2 ρ=true->ρ[0]? = some (some (.opq a))->At1 X ρ [(a,o)] "self" 0 0 a o:=fun{ρ o} z1 z2=>F.slf hl (by rw[hN];rfl) z2 z1
    have v1:∀{pos},JE X (.Name "step" pos) (A2 1):=fun{pos}=>F.var hl 1 (by rw[hN];rfl)
    have ix:∀{n:Int}{p j p' p''},JE X (.Subscript (.Name "step" p) (.Constant (.int n) j p') p'') (dIx (qE (A2 1)) (dC (.int n))):=fun{n p j p' p''}=>bi0 (aO1 v1) aa1
    obtain⟨_,g1,g2⟩:=O1 F.fit hb
    exact .inl (F7 (ap8 (c:=false) (ae0 (ap9 F.fit.units) (au2 (A rfl rfl) F.foc g1 g2).oe (Q0 aa1 rfl) (cc0 _ (by rw[el];simp))) (fun z=>by cases z) fun _=>ai4)
     (F7 (F.set hd hl 1 (by rw[hN];rfl) (bw0 (A rfl rfl) F.foc el h1)) (F7 (n9 (R4 (F.mts _ _ _ hm) F.foc (A rfl rfl) (by decide) (B8 ix (B8 ix O4)) rfl e1) rfl)
      (F7 (bd1 (A rfl rfl) F.foc (o4 v1 rfl) hf (hline:=h4)) (u8 (u9 (Q0 ix rfl)))))))
   ·cases e
  ·cases e
 ·cases e
theorem aD1(F:FitO S ms C c X) (hN:c.N=[("self" : Str)]) (hl:W2 c=true) (hb:biB S c "len" "len" = true) (e:Z8 o ds=some (r,o')) :
  OM X C b (F8 0 a ds) [(a,o)] [.Return (some (.Tuple [.Call (.Name "len" p1) [.Attribute (.Name "self" p2) "steps_back" p3] [] p4,.Call (.Name "len" q1) [.Attribute (.Name "self" q2) "steps_forth" q3] [] q4] k p5)) p6] r [(a,o')]:=by
 unfold Z8 at e
 split at e
 ·cases e
  have A:At1 X (F8 0 a []) [(a,o)] "self" 0 0 a o:=F.slf hl (by rw[hN];rfl) rfl rfl
  obtain⟨_,g1,g2⟩:=O1 F.fit hb
  exact .inl (u8 (u9 (bd3 (Y4 (au3 A F.foc g1 g2) (Y4 (au2 A F.foc g1 g2) aN0)) (by show 2<=1000;decide)).oe))
 ·cases e
end
end G
namespace G
open PySem PySem.Spec PyProof.Rows L2
def ck4:Stmt->List Stmt
 | .ClassDef _ _ _ b _ _ _ _ _ _ _=>b
 | _=>[]
structure KCl (K:PySem.W.Frag) (C:Addr) (cl:Str):Prop where
 ns:PySem.W.nsIn K mainGlobals cl=some (some (.ref C))
 make:PySem.W.makesIn K C=true
 kp:PySem.W.keepIn K (.ref C)=true
 foc:FoC K C
theorem bP1{K:PySem.W.Frag}{C:Addr}{cl:Str}(a:PySem.W.nsIn K mainGlobals cl=some (some (.ref C))) (b:PySem.W.makesIn K C=true) (c:PySem.W.keepIn K (.ref C)=true) (pg:PySem.W.plainGet K C Str.empty=true) (hd:PySem.W.hasDictIn K C=true) (po:PySem.W.plainOver K C=true)
  (sa:PySem.W.findIn K (.ref C) "__setattr__" = some (some (.builtin "object.__setattr__"))) (n1:PySem.W.findIn K (.ref C) "sheets" = some none) (n2:PySem.W.findIn K (.ref C) "steps_back" = some none) (n3:PySem.W.findIn K (.ref C) "steps_forth" = some none):KCl K C cl:=⟨a,b,c,⟨pg,hd,po,sa⟩,n1,n2,n3⟩
theorem cc2{K:PySem.W.Frag}{C:Addr}{m qual:Str}{st:Stmt}{f:Addr}{oc:Value}{od:Option Addr}{sl:Array (Option Value)}{kV dc pm:Value}{an:Option Addr}{cd ct:Value}(a:PySem.W.findIn K (.ref C) m=some (some (.ref f))) (i:PySem.W.isFn K (.ref f)=true)
  (l:K.lookup f=some ⟨oc,od,.func (PySem.W.fnOf m qual (R6 st) (A4 st) (A7 st) .none kV dc pm an cd ct),sl⟩) (c:PySem.W.codeIn K cd qual=true) (k:PySem.W.keepIn K (.ref f)=true):KM K C m qual st:=⟨f,oc,od,sl,kV,dc,pm,an,cd,ct,a,i,l,c,k⟩
section
variable {P:Program}{w:World}{K:PySem.W.Frag}{mg:Str->Option Value}{base:Heap}{cs:List (Str×D)}{bl:List Str}{C:Addr}{tab:Tab}{O:Og}
def IOk(P:Program) (w:World) (K:PySem.W.Frag) (mg:Str->Option Value) (base:Heap) (C:Addr) (k:Nat) (cl:Str):Prop:=∃j f fd ps,j+1<=k/\FnOk P w K mg base CX0 j f fd ps (spI K C)/\Mk K C f/\K2 K fd ps []/\mg cl=some (.ref C)
def NMk(P:Program) (w:World) (K:PySem.W.Frag) (mg:Str->Option Value) (base:Heap) (C:Addr) (k:Nat):Prop:=∃f fd ps,FnOk P w K mg base CX0 k f fd ps (br7 K C)/\Meth K C "names" f/\K2 K fd ps []
def FOk(P:Program) (w:World) (K:PySem.W.Frag) (mg:Str->Option Value) (base:Heap) (C:Addr) (k:Nat) (nf:List (Str×(List D->Option Fo)×Nat)):Prop:=∀x F n,nf.lookup x=some (F,n)->∃(f:Addr) (fd:FuncData) (ps:List Str),
 FnOk P w K mg base CX0 k f fd ps (bY4 K C n F)/\mg x=some (.ref f)/\PySem.W.keepIn K (.ref f)=true/\K2 K fd ps []
def cm8(P:Program) (w:World) (K:PySem.W.Frag) (mg:Str->Option Value) (base:Heap) (C:Addr) (k:Nat) (df:List (Str×DF×Nat×Nat)):Prop:=∀x F n j,df.lookup x=some (F,n,j)->∃(f:Addr) (fd:FuncData) (ps:List Str),
 FnOk P w K mg base CX0 k f fd ps (spD K C n F)/\mg x=some (.ref f)/\PySem.W.keepIn K (.ref f)=true/\K2 K fd ps []
def TKk(P:Program) (w:World) (K:PySem.W.Frag) (mg:Str->Option Value) (base:Heap) (C:Addr) (k:Nat):Prop:=(∃f fd ps,FnOk P w K mg base CX0 k f fd ps (spT K C)/\Meth K C "twin" f/\K2 K fd ps [])/\∃f fd ps,FnOk P w K mg base CX0 k f fd ps (spM K C 1 M7)/\Meth K C "fetch" f/\K2 K fd ps []
structure UOk (P:Program) (w:World) (K:PySem.W.Frag) (mg:Str->Option Value) (base:Heap) (C:Addr) (k:Nat) (tab:Tab) (O:Og):Prop where
 t:TOk P w K mg base k tab
 m:MOk P w K mg base C k O.ms
 f:FOk P w K mg base C k O.nf
 i:IOk P w K mg base C k O.cl
 n:NMk P w K mg base C k
 d:cm8 P w K mg base C k O.df
 w:O.tw=true->TKk P w K mg base C k
theorem UOk.mono(U:UOk P w K mg base C j tab O) (h:j<=k):UOk P w K mg base C k tab O where
 t:=U.t.mono h
 m:=U.m.mono h
 f:=fun x F n e=>by obtain⟨f,fd,ps,h1,h2⟩:=U.f x F n e;exact⟨f,fd,ps,h1.mono h,h2⟩
 i:=by obtain⟨i,f,fd,ps,h1,h2⟩:=U.i;exact⟨i,f,fd,ps,Nat.le_trans h1 h,h2⟩
 n:=by obtain⟨f,fd,ps,h1,h2⟩:=U.n;exact⟨f,fd,ps,h1.mono h,h2⟩
 d:=fun x F n j e=>by obtain⟨f,fd,ps,h1,h2⟩:=U.d x F n j e;exact⟨f,fd,ps,h1.mono h,h2⟩
 w:=fun e=>by obtain⟨⟨f,fd,ps,h1,h2⟩,f',fd',ps',h3,h4⟩:=U.w e;exact⟨⟨f,fd,ps,h1.mono h,h2⟩,f',fd',ps',h3.mono h,h4⟩
theorem cj7{f:Addr}{cdv:Value}{A:Around}{outer:List Env}{s:Shared}{H:Hp}{E:XK}(M:Md K mg cs bl) (U:UOk P w K mg base C k tab O) (Fc:FoC K C) {d:Fd}(ok:d.okB=true) (hr:Room k (A.deeper (envOfC d.x (A7 d.st) s.heap.objs.size f cdv))) :
  FitU ⟨tab,cs,bl⟩ O C d.c (l7 CX0 P w K mg base d.N d.x (A7 d.st) f cdv A outer s H E).nox:=by
 have Sc:=Fd.sc ok
 refine⟨⟨⟨rfl,rfl,Sc.nd,rfl,rfl,hr.units,fun _=>⟨fun _=>rfl,Sc.kind⟩,fun x F n h=>?_,M.css,M.bls⟩,Fc,fun m F n h=>?_⟩,fun x F n h=>?_,?_,?_,fun x F n j h=>?_,fun e=>?_⟩
 ·exact(U.t x F n h).imp (fun⟨f',fd',ps,h1,h2,h3,h4⟩=>⟨k,f',fd',ps,h1,hr,h2,h3,h4⟩) id
 ·obtain⟨f',fd',ps,h1,h2,h3⟩:=U.m m F n h
  exact⟨k,f',fd',ps,h1,hr,h2,h3⟩
 ·obtain⟨f',fd',ps,h1,h2,h3,h4⟩:=U.f x F n h
  exact⟨k,f',fd',ps,h1,hr,h2,h3,h4⟩
 ·obtain⟨j,f',fd',ps,h1,h2,h3,h4,h5⟩:=U.i
  exact⟨j,f',fd',ps,h2,hr.mono h1,h3,h4,h5⟩
 ·obtain⟨f',fd',ps,h1,h2,h3⟩:=U.n
  exact⟨k,f',fd',ps,h1,hr,h2,h3⟩
 ·obtain⟨f',fd',ps,h1,h2,h3,h4⟩:=U.d x F n j h
  exact⟨k,f',fd',ps,h1,hr,h2,h3,h4⟩
 ·obtain⟨⟨f1,fd1,ps1,h1,h2,h3⟩,f',fd',ps,h4,h5,h6⟩:=U.w e
  exact⟨⟨k,f1,fd1,ps1,h1,hr,h2,h3⟩,k,f',fd',ps,h4,hr,h5,h6⟩
theorem iok(M:Md K mg cs bl) (c:KCl K C cl) (d:Fd) (h:KM K C "__init__" qual d.st) (hx:d.x = "__init__") (hN:d.N=[("self" : Str)]) (hp:d.ps.length=1) (hl:W2 d.c=true)
  (hb:A4 d.st=[.Assign [.Attribute (.Name "self" p1) "sheets" p2] (.Dict [] [] p3) p4,.Assign [.Attribute (.Name "self" p5) "steps_back" p6] (.List [] p7) p8,.Assign [.Attribute (.Name "self" p9) "steps_forth" p10] (.List [] p11) p12])
  (ok:d.okB=true) (bd:BdM d qual):IOk P w K mg base C 2 cl:=by
 obtain⟨f,oc,od,sl,kV,dc,pm,an,cd,ct,a,i,l,cc,kk⟩:=h
 rw[← hx]at l
 have Fn:=am4 l cc kk
 exact⟨1,f,_,d.ps,Nat.le_refl _,by7 c.foc d hN hp ok hl Fn hb,⟨c.make,a,i,c.kp⟩,.all (ua (bd kV dc pm an cd ct)),M.ns _ _ c.ns⟩
theorem nmk(M:Md K mg cs bl) (T:TOk P w K mg base k tab) (c:KCl K C cl) (d:Fd) (h:KM K C "names" qual d.st) (hx:d.x = "names") (hN:d.N=[("self" : Str)]) (hp:d.ps.length=1) (hl:W2 d.c=true) (hs:biB ⟨tab,cs,bl⟩ d.c "sorted" "sorted" = true)
  (hb:A4 d.st=[.Return (some (.Call (.Name "sorted" p1) [.Attribute (.Name "self" p2) "sheets" p3] [] p4)) p5])
  (ok:d.okB=true) (bd:BdM d qual):NMk P w K mg base C (k+1):=by
 obtain⟨f,oc,od,sl,kV,dc,pm,an,cd,ct,a,i,l,cc,kk⟩:=h
 rw[← hx]at l
 have Fn:=am4 l cc kk
 exact⟨f,_,d.ps,cb3 M T c.foc d hN hp ok hl hs Fn hb,⟨a,i,kk⟩,.all (ua (bd kV dc pm an cd ct))⟩
theorem MOk.names(Mk:MOk P w K mg base C k ms) (N:NMk P w K mg base C k):MOk P w K mg base C k (("names", j9,0)::ms):=by
 obtain⟨f,fd,ps,h1,h2,h3⟩:=N
 exact Mk.cons ⟨f,fd,ps,h1.imp cb2,h2,h3⟩
theorem UOk.start{ms:af4}{cl:Str}(t:TOk P w K mg base j tab) (m:MOk P w K mg base C j ms) (n:NMk P w K mg base C i0) (c:IOk P w K mg base C 2 cl) (h1:i0<=k0) (h2:j<=k0) (h3:2<=k0):UOk P w K mg base C k0 tab ⟨("names", j9,0)::ms,[],cl,[],false⟩:=by
 have n':NMk P w K mg base C k0:=by obtain⟨f,fd,ps,a,b⟩:=n;exact⟨f,fd,ps,a.mono h1,b⟩
 exact⟨t.mono h2,(m.mono h2).names n',(fun x F n e=>by cases e),(by obtain⟨i,f,fd,ps,a,b⟩:=c;exact⟨i,f,fd,ps,Nat.le_trans a h3,b⟩),n',(fun x F n j e=>by cases e),fun e=>nomatch e⟩
end
end G
namespace Sh
open PySem G L2
inductive Nm
 | a|b|z
 deriving DecidableEq
def Nm.s:Nm->Str
 | .a => "a"
 | .b => "bo"
 | .z => "zzzzzz"
theorem Nm.inj:∀{j k:Nm},(j.s==k.s)=decide (j=k):=fun{j k}=>by cases j<;>cases k<;>kernel_rfl
abbrev Fn3:=Nm->Option D
def Fn3.up(s:Fn3) (k:Nm) (d:Option D):Fn3:=fun j=>if j=k then d else s j
def no3:Fn3:=fun _=>none
theorem bW7(s:Fn3) (k:Nm) (d e:Option D):(s.up k d).up k e=s.up k e:=by funext j;unfold Fn3.up;split<;>rfl
theorem bq0(s:Fn3) (k:Nm):s.up k (s k)=s:=by
 funext j;unfold Fn3.up;split
 ·rename_i h;rw[h]
 ·rfl
theorem aY5(s:Fn3) (k:Nm) (d:Option D):s.up k d k=d:=by unfold Fn3.up;rw[if_pos rfl]
def enK(s:Fn3) (k:Nm):D×D:=(.str k.s,(s k).getD .none)
def Rp(m:List (D×D)) (s:Fn3):Prop:=∃ks:List Nm,ks.Nodup/\(∀k,k∈ks↔(s k).isSome=true)/\m=ks.map (enK s)
theorem al8(s:Fn3) (j k:Nm):P7 k.s (enK s j)=decide (j=k):=by
 show(match (PyData.str j.s:D) with | .str y=>y==k.s|_=>false)=_
 exact Nm.inj
theorem cb0{s:Fn3}{k:Nm}(h:¬(s k).isSome=true):s k=none:=by cases e:s k with
 | none=>rfl
 | some _=>rw[e]at h;exact(h rfl).elim
theorem aR9{α:Type}{o:Option α}(h:o.isSome=true) (d:α):some (o.getD d)=o:=by cases o with
 | none=>cases h
 | some _=>rfl
theorem Rp.look(h:Rp m s) (k:Nm):D7 m k.s=s k:=by
 obtain⟨ks,n,i,rfl⟩:=h
 unfold D7
 rw[List.find?_map]
 have:∀l:List Nm,(∀j,j∈l->(s j).isSome=true)->(l.find? (P7 k.s ∘ enK s))=if k∈l then some k else none:=fun l=>by
  induction l with
  | nil=>intro _;rfl
  | cons j l ih =>
   intro hl
   rw[List.find?_cons]
   show(match P7 k.s (enK s j) with|true=>some j|false=>_)=_
   rw[al8]
   by_cases e:j=k
   ·subst e;simp
   ·rw[decide_eq_false e,ih fun x hx=>hl x (List.mem_cons_of_mem _ hx)]
    simp[show ¬k=j from fun z=>e z.symm]
 rw[this ks fun j hj=>(i j).mp hj]
 split
 ·rename_i hk;exact aR9 ((i k).mp hk) _
 ·rename_i hk;exact(cb0 fun z=>hk ((i k).mpr z)).symm
theorem Rp.len(h:Rp m s):m.length<=3:=by
 obtain⟨ks,n,_,rfl⟩:=h
 rw[List.length_map]
 match ks,n with
 | [],_=>decide
 | [_],_=>show 1<=3;decide
 | [_,_],_=>show 2<=3;decide
 | [_,_,_],_=>show 3<=3;decide
 | x::y::w::v::r,n =>
  exfalso
  simp only[List.nodup_cons,List.mem_cons,not_or]at n
  obtain⟨⟨n1,n2,n3,_⟩,⟨n4,n5,_⟩,⟨n6,_⟩,_⟩:=n
  cases x<;>cases y<;>first|exact n1 rfl|(cases w<;>first|exact n2 rfl|exact n4 rfl|(cases v<;>first|exact n3 rfl|exact n5 rfl|exact n6 rfl))
theorem Rp.nil:Rp [] no3:=⟨[],.nil,fun k=>by simp[no3],rfl⟩
theorem Rp.put(h:Rp m s) (k:Nm) (d:D):Rp (i8 m k.s d) (s.up k (some d)):=by
 obtain⟨ks,n,i,rfl⟩:=h
 have an:(ks.map (enK s)).any (P7 k.s)=decide (k∈ks):=by
  rw[List.any_map]
  rw[Bool.eq_iff_iff,List.any_eq_true,decide_eq_true_eq]
  constructor
  ·rintro⟨j,hj,e⟩
   rw[Function.comp,al8,decide_eq_true_eq]at e
   subst e;exact hj
  ·exact fun hk=>⟨k,hk,by rw[Function.comp,al8,decide_eq_true_eq]⟩
 unfold i8
 rw[an]
 by_cases hk:k∈ks
 ·rw[if_pos (decide_eq_true hk)]
  refine⟨ks,n,fun j=>?_,?_⟩
  ·rw[i j];unfold Fn3.up;split
   ·rename_i e;subst e;simp[(i j).mp hk]
   ·rfl
  ·rw[List.map_map]
   refine List.map_congr_left fun j hj=>?_
   show(if P7 k.s (enK s j) then _ else _)=_
   rw[al8]
   unfold enK Fn3.up
   by_cases e:j=k
   ·simp[e]
   ·simp[e]
 ·rw[if_neg (by simpa using hk)]
  refine⟨ks++[k],?_,fun j=>?_,?_⟩
  ·rw[List.nodup_append];exact⟨n,by simp,fun x hx y hy=>by rw[List.mem_singleton.mp hy];exact fun e=>hk (e ▸ hx)⟩
  ·rw[List.mem_append,List.mem_singleton,i j];unfold Fn3.up;split
   ·rename_i e;simp[e]
   ·rename_i e;simp[e]
  ·rw[List.map_append]
   congr 1
   ·refine List.map_congr_left fun j hj=>?_
    unfold enK Fn3.up
    rw[if_neg (show ¬j=k from fun e=>hk (e ▸ hj))]
   ·show _=[enK (s.up k (some d)) k]
    unfold enK;rw[aY5];rfl
theorem Rp.drop(h:Rp m s) (k:Nm):Rp (u6 m k.s) (s.up k none):=by
 obtain⟨ks,n,i,rfl⟩:=h
 refine⟨ks.filter fun j=>!decide (j=k),n.filter _,fun j=>?_,?_⟩
 ·rw[List.mem_filter,i j];unfold Fn3.up;split
  ·rename_i e;simp[e]
  ·rename_i e;simp[e]
 ·unfold u6
  rw[List.filter_map]
  have:(fun kv=>!P7 k.s kv) ∘ enK s=fun j=>!decide (j=k):=by funext j;rw[Function.comp,al8]
  rw[this]
  refine List.map_congr_left fun j hj=>?_
  have:=(List.mem_filter.mp hj).2
  unfold enK Fn3.up
  rw[if_neg (by simpa using this)]
def bM6:List Nm:=[.a,.b,.z]
theorem ch6:∀ks:List Nm,ks.Nodup->ax9 (ks.map fun k=>(.str k.s:D))=some ((bM6.filter fun k=>decide (k∈ks)).map fun k=>.str k.s)
 | [],_=>rfl
 | [x],_=>by cases x<;>kernel_rfl
 | [x,y],n=>by
  simp only[List.nodup_cons,List.mem_cons,List.not_mem_nil,or_false]at n
  obtain⟨n1,_⟩:=n
  cases x<;>cases y<;>first|exact(n1 rfl).elim|kernel_rfl
 | [x,y,w],n=>by
  simp only[List.nodup_cons,List.mem_cons,List.not_mem_nil,or_false,not_or]at n
  obtain⟨⟨n1,n2⟩,n3,_⟩:=n
  cases x<;>cases y<;>first|exact(n1 rfl).elim|(cases w<;>first|exact(n2 rfl).elim|exact(n3 rfl).elim|kernel_rfl)
 | x::y::w::v::r,n=>by
  exfalso
  simp only[List.nodup_cons,List.mem_cons,not_or]at n
  obtain⟨⟨n1,n2,n3,_⟩,⟨n4,n5,_⟩,⟨n6,_⟩,_⟩:=n
  cases x<;>cases y<;>first|exact n1 rfl|(cases w<;>first|exact n2 rfl|exact n4 rfl|(cases v<;>first|exact n3 rfl|exact n5 rfl|exact n6 rfl))
def nms(s:Fn3):List Nm:=bM6.filter fun k=>(s k).isSome
theorem Rp.names(h:Rp m s):ax9 (m.map (·.1))=some ((nms s).map fun k=>.str k.s):=by
 obtain⟨ks,n,i,rfl⟩:=h
 rw[List.map_map]
 refine(ch6 ks n).trans ?_
 congr 2
 unfold nms
 refine List.filter_congr fun k _=>?_
 rw[Bool.eq_iff_iff,decide_eq_true_eq,i k]
theorem bf0{o:Fo}(h:Rp o.m s):j9 o []=some (.list ((nms s).map fun k=>.str k.s),o):=by unfold j9;dsimp only;rw[h.names];rfl
end Sh
namespace Sh
open PySem G L2
structure Sp where
 w:Str
 k:Nm
 old:Option D
 new:Option D
def Sp.d(p:Sp):D:=.tuple [.str p.w,.str p.k.s,p.old.getD .none,p.new.getD .none]
def noN(x:Option D):Prop:=∀d,x=some d->isN d .none=some (.bool false)
structure Sp.ok (p:Sp):Prop where
 w:p.w = "lay" \/ p.w = "take" \/ p.w = "blend"
 o:noN p.old
 n:noN p.new
 s:p.old.isSome=true\/p.new.isSome=true
theorem aG4{o:Fo}(h:Rp o.m s) (k:Nm) (x:Option D) (hx:noN x) (hn:x=none->(s k).isSome=true):∃m',v7 o [.str k.s,x.getD .none]=some (.none,{ o with m:=m' })/\Rp m' (s.up k x):=by
 cases x with
 | none =>
  refine⟨_,?_,h.drop k⟩
  have e:isN .none .none=some (.bool true):=rfl
  simp only[v7,Option.getD_none,e,xbs,h.look k,hn rfl,if_true]
 | some d =>
  refine⟨_,?_,h.put k d⟩
  have l:=h.len
  simp only[v7,Option.getD_some,hx d rfl,xbs,if_pos (show o.m.length < 1000 by omega)]
def stp(s:Fn3) (p:Sp):Fn3:=s.up p.k p.new
def Ch:Fn3->List Sp->Prop
 | _,[]=>True
 | s,p::l=>s p.k=p.old/\Ch (stp s p) l
abbrev at_(L:List Sp) (i:Nat):Fn3:=(L.take i).foldl stp no3
theorem aw2:∀{l:List Sp}{s:Fn3}{r:List Sp},Ch s (l++r)↔Ch s l/\Ch (l.foldl stp s) r
 | [],s,r=>⟨fun h=>⟨trivial,h⟩,fun h=>h.2⟩
 | p::l,s,r=>by
  show(_/\Ch (stp s p) (l++r))↔((_/\_)/\_)
  rw[aw2,and_assoc];rfl
structure Fz (o:Fo) (L:List Sp) (i:Nat):Prop where
 le:i<=L.length
 ch:Ch no3 L
 ok:∀p∈L,p.ok
 few:L.length < 100
 m:Rp o.m (at_ L i)
 b:o.b=(L.take i).map Sp.d
 f:o.f=((L.drop i).reverse).map Sp.d
theorem aQ8{L:List Sp}{i:Nat}(h:i < L.length):at_ L (i+1)=stp (at_ L i) L[i]:=by
 unfold at_
 rw[List.take_succ_eq_append_getElem h,List.foldl_append];rfl
theorem bE9{L:List Sp}{i:Nat}(c:Ch no3 L) (h:i < L.length):at_ L i L[i].k=L[i].old:=by
 have e:L=L.take i++L[i]::L.drop (i+1):=by rw[← List.drop_eq_getElem_cons h,List.take_append_drop]
 rw[e]at c
 exact(aw2.mp c).2.1
theorem aB0(l:List D) (x:D):aB2 (l++[x])=some (l,x):=by
 unfold aB2
 simp
theorem bA2{o:Fo}(F:Fz o L (i+1)) (h:i < L.length):∃o',t8 o []=some (.str L[i].w,o')/\Fz o' L i:=by
 have hp:=F.ok L[i] (List.getElem_mem h)
 have eb:o.b=(L.take i).map Sp.d++[L[i].d]:=by rw[F.b,List.take_succ_eq_append_getElem h,List.map_append];rfl
 have ea:=aQ8 h
 have c:=bE9 F.ch h
 have R:Rp ({ o with b:=(L.take i).map Sp.d }:Fo).m (at_ L (i+1)):=F.m
 obtain⟨m',e1,R1⟩:=aG4 R L[i].k L[i].old hp.o fun z=>by
  rw[ea];unfold stp;rw[aY5]
  rcases hp.s with q|q
  ·rw[z]at q;cases q
  ·exact q
 have es:(at_ L (i+1)).up L[i].k L[i].old=at_ L i:=by rw[ea];unfold stp;rw[bW7,← c,bq0]
 rw[es]at R1
 have lf:o.f.length < 100:=by rw[F.f,List.length_map,List.length_reverse,List.length_drop];have:=F.few;omega
 refine⟨⟨m',(L.take i).map Sp.d,o.f++[L[i].d]⟩,?_,by omega,F.ch,F.ok,F.few,R1,rfl,?_⟩
 ·unfold t8
  dsimp only
  rw[eb,aB0]
  show(v7 { o with b:=(L.take i).map Sp.d } [.str L[i].k.s,L[i].old.getD .none]).bind _=_
  rw[e1,xbs,if_pos (show o.f.length < 1000 by omega)];rfl
 ·show o.f++[L[i].d]=_
  rw[F.f,List.drop_eq_getElem_cons h,List.reverse_cons,List.map_append];rfl
theorem bk3{o:Fo}(F:Fz o L i) (h:i < L.length):∃o',k4 o []=some (.str L[i].w,o')/\Fz o' L (i+1):=by
 have hp:=F.ok L[i] (List.getElem_mem h)
 have ef:o.f=((L.drop (i+1)).reverse).map Sp.d++[L[i].d]:=by rw[F.f,List.drop_eq_getElem_cons h,List.reverse_cons,List.map_append];rfl
 have ea:=aQ8 h
 have c:=bE9 F.ch h
 have R:Rp ({ o with f:=((L.drop (i+1)).reverse).map Sp.d }:Fo).m (at_ L i):=F.m
 obtain⟨m',e1,R1⟩:=aG4 R L[i].k L[i].new hp.n fun z=>by
  rw[c]
  rcases hp.s with q|q
  ·exact q
  ·rw[z]at q;cases q
 have es:(at_ L i).up L[i].k L[i].new=at_ L (i+1):=by rw[ea];rfl
 rw[es]at R1
 have lb:o.b.length < 100:=by rw[F.b,List.length_map,List.length_take];have:=F.few;omega
 refine⟨⟨m',o.b++[L[i].d],((L.drop (i+1)).reverse).map Sp.d⟩,?_,by omega,F.ch,F.ok,F.few,R1,?_,rfl⟩
 ·unfold k4
  dsimp only
  rw[ef,aB0]
  show(v7 { o with f:=((L.drop (i+1)).reverse).map Sp.d } [.str L[i].k.s,L[i].new.getD .none]).bind _=_
  rw[e1,xbs,if_pos (show o.b.length < 1000 by omega)];rfl
 ·show o.b++[L[i].d]=_
  rw[F.b,List.take_succ_eq_append_getElem h,List.map_append];rfl
theorem aW1{o:Fo}(F:Fz o L i):Z8 o []=some (.tuple [.int i,.int ((L.length - i:Nat):Int)],o):=by
 unfold Z8
 dsimp only
 rw[F.b,F.f]
 simp[Nat.min_eq_left F.le]
theorem ab0{o:Fo}(F:Fz o L i) (w:Str) (k:Nm) (x:Option D) (hw:w = "lay" \/ w = "take" \/ w = "blend") (ho:noN (at_ L i k)) (hx:noN x) (hs:(at_ L i k).isSome=true\/x.isSome=true) (hf:i < 90) :
  ∃o',W7 o [.str w,.str k.s,x.getD .none]=some (.none,o')/\Fz o' (L.take i++[⟨w,k,at_ L i k,x⟩]) (i+1):=by
 have R:Rp ({ o with b:=o.b++[.tuple [.str w,.str k.s,(at_ L i k).getD .none,x.getD .none]],f:=[] }:Fo).m (at_ L i):=F.m
 obtain⟨m',e1,R1⟩:=aG4 R k x hx fun z=>hs.elim id fun q=>by rw[z]at q;cases q
 have lt:(L.take i).length=i:=by rw[List.length_take,Nat.min_eq_left F.le]
 have lb:o.b.length < 1000:=by rw[F.b,List.length_map,lt];omega
 have tk:(L.take i++[(⟨w,k,at_ L i k,x⟩:Sp)]).take (i+1)=L.take i++[⟨w,k,at_ L i k,x⟩]:=List.take_of_length_le (by rw[List.length_append,lt];exact Nat.le_refl _)
 refine⟨⟨m',o.b++[.tuple [.str w,.str k.s,(at_ L i k).getD .none,x.getD .none]],[]⟩,?_,by rw[List.length_append,lt];exact Nat.le_refl _,aw2.mpr ⟨?_,rfl,trivial⟩,fun p hp=>?_,by rw[List.length_append,lt];show i+1 < 100;omega,?_,?_,?_⟩
 ·unfold W7
  dsimp only
  rw[if_pos lb,F.m.look k]
  exact e1
 ·have:=F.ch
  rw[← List.take_append_drop i L]at this
  exact(aw2.mp this).1
 ·rcases List.mem_append.mp hp with q|q
  ·exact F.ok p (List.mem_of_mem_take q)
  ·rw[List.mem_singleton.mp q];exact⟨hw,ho,hx,hs⟩
 ·show Rp m' _
  unfold at_
  rw[tk,List.foldl_append];exact R1
 ·show o.b++_=_
  rw[tk,F.b,List.map_append];rfl
 ·show []=_
  rw[List.drop_of_length_le (by rw[List.length_append,lt];exact Nat.le_refl _)];rfl
theorem Fz.new:Fz fo0 [] 0:=⟨Nat.le_refl _,trivial,(fun _ h=>nomatch h),by decide,Rp.nil,rfl,rfl⟩
end Sh
namespace Sh
open PySem G L2
structure ShG (j h:Nat) (l:List Q4):Prop where
 h12:h=1\/h=2
 len:l.length=2*h
 ok:∀q∈l,Dq j q
theorem ShG.sh(S:ShG j h l):ShOk j 2 h l:=⟨by decide,by decide,by rcases S.h12 with rfl|rfl<;>decide,by rcases S.h12 with rfl|rfl<;>decide,S.len,fun q hq=>(S.ok q hq).ok⟩
theorem ShG.mono(S:ShG j h l) (e:j<=k):ShG k h l:=⟨S.h12,S.len,fun q hq=>(S.ok q hq).mono e⟩
theorem bJ6(ns:List Int) (at' h:Nat) (hn:ns.length<=63) (ha:at' < 2 ^ 20) (hh:h=1\/h=2):∃l:List Q4,U8 [scr ns,.int at',.int 2,.int h]=some (shD 2 h l)/\ShG 16 h l:=by
 obtain⟨l,e,n,hl⟩:=aA9 (P:=Dq 16) ns at' 2 h hn ha (by decide) (by decide) (by rcases hh with rfl|rfl<;>decide) (by rcases hh with rfl|rfl<;>decide) ⟨fun k=>if h:k < 1000 then Classical.choose (bC6 ns (at'+12*k) hn (by grind)) else q0,fun k hk=>by
  simp only[dif_pos hk]
  exact Classical.choose_spec (bC6 ns (at'+12*k) hn (by grind))⟩
 exact⟨l,e,hh,n,hl⟩
theorem bT5(m:Man) (a:ShG j h la) (b:ShG j h lb) (l:j<=1300):C3 [.str m.s,shD 2 h la,shD 2 h lb]=some (shD 2 h (blL m la lb))/\ShG (j+j) h (blL m la lb):=by
 obtain⟨e,S⟩:=bT6 m a.sh b.sh (by omega)
 refine⟨e,a.h12,S.len,fun q hq=>?_⟩
 obtain⟨p,hp,rfl⟩:=List.mem_map.mp hq
 exact(a.ok p.1 (List.of_mem_zip hp).1).bl2 m (b.ok p.2 (List.of_mem_zip hp).2) l
def l9(j:Nat) (s:Fn3):Prop:=∀k d,s k=some d->∃h l,d=shD 2 h l/\ShG j h l
theorem l9.noN(h:l9 j s) (k:Nm):noN (s k):=fun d e=>by
 obtain⟨_,l,rfl,_⟩:=h k d e
 rfl
theorem l9.up(h:l9 j s) (k:Nm) (S:ShG i w l) (a:j<=n) (b:i<=n):l9 n (s.up k (some (shD 2 w l))):=fun k' d e=>by
 unfold Fn3.up at e
 split at e
 ·cases e;exact⟨w,l,rfl,S.mono b⟩
 ·obtain⟨w',l',e1,S'⟩:=h k' d e
  exact⟨w',l',e1,S'.mono a⟩
theorem l9.off(h:l9 j s) (k:Nm) (a:j<=n):l9 n (s.up k none):=fun k' d e=>by
 unfold Fn3.up at e
 split at e
 ·cases e
 ·obtain⟨w',l',e1,S'⟩:=h k' d e
  exact⟨w',l',e1,S'.mono a⟩
abbrev szG(i:Nat):Nat:=16*2 ^ (i - 1)
def ai0(L:List Sh.Sp):Prop:=∀i,i<=L.length->l9 (szG i) (at_ L i)
theorem ai0.nil:ai0 []:=fun i h=>by
 have:i=0:=by simpa using h
 subst this
 exact fun k d e=>by cases e
theorem as6(i:Nat):szG i<=szG (i+1):=by
 show 16*2 ^ (i - 1)<=16*2 ^ i
 exact Nat.mul_le_mul_left _ (Nat.pow_le_pow_right (by decide) (by omega))
theorem br2(h:0 < i):szG i+szG i=szG (i+1):=by
 show 16*2 ^ (i - 1)+16*2 ^ (i - 1)=16*2 ^ i
 obtain⟨n,rfl⟩:∃n,i=n+1:=⟨i - 1,by omega⟩
 rw[Nat.add_sub_cancel,Nat.pow_succ];omega
theorem bI9(i:Nat):16<=szG i:=Nat.le_mul_of_pos_right _ (Nat.pow_pos (by decide))
theorem aZ6(h:i<=7):szG i<=1300:=Nat.le_trans (Nat.mul_le_mul_left _ (Nat.pow_le_pow_right (n:=2) (by decide) (show i - 1<=6 by omega))) (by decide)
theorem bk0(G:ai0 L) (le:i<=L.length) (p:Sh.Sp) (g:l9 (szG (i+1)) (stp (at_ L i) p)):ai0 (L.take i++[p]):=fun n h=>by
 have lt:(L.take i).length=i:=by rw[List.length_take,Nat.min_eq_left le]
 rw[List.length_append,lt]at h
 rcases Nat.lt_or_ge i n with q|q
 ·have:n=i+1:=by simp at h;omega
  subst this
  unfold at_
  rw[List.take_of_length_le (by rw[List.length_append,lt];exact Nat.le_refl _),List.foldl_append]
  exact g
 ·unfold at_
  rw[List.take_append_of_le_length (by rw[lt];exact q),List.take_take,Nat.min_eq_left q]
  exact G n (by omega)
structure MsOk (L:List Sh.Sp) (P:List (Str×List (D×D))):Prop where
 len:P.length=L.length+1
 m:∀j,j<=L.length->∃x,P[j]? = some x/\Rp x.2 (at_ L j)
 w:∀j (h:j < L.length),∃x,P[j+1]? = some x/\x.1=L[j].w
theorem MsOk.nil:MsOk [] [("", [])]:=⟨rfl,fun j h=>by
 have:j=0:=by simpa using h
 subst this
 exact⟨_,rfl,Rp.nil⟩,fun j h=>by simp at h⟩
theorem MsOk.app{m:List (D×D)}(M:MsOk L P) (le:i<=L.length) (p:Sh.Sp) (r:Rp m (stp (at_ L i) p)):MsOk (L.take i++[p]) (P.take (i+1)++[(p.w,m)]):=by
 have lt:(L.take i).length=i:=by rw[List.length_take,Nat.min_eq_left le]
 have lp:(P.take (i+1)).length=i+1:=by rw[List.length_take,M.len];omega
 refine⟨by simp[lt,lp],fun j h=>?_,fun j h=>?_⟩
 ·rw[List.length_append,lt]at h
  rcases Nat.lt_or_ge i j with q|q
  ·have:j=i+1:=by simp at h;omega
   subst this
   refine⟨(p.w,m),by rw[List.getElem?_append_right (by omega),lp];simp,?_⟩
   unfold at_
   rw[List.take_of_length_le (by rw[List.length_append,lt];exact Nat.le_refl _),List.foldl_append]
   exact r
  ·obtain⟨x,e,hr⟩:=M.m j (by omega)
   refine⟨x,by rw[List.getElem?_append_left (by omega),List.getElem?_take,if_pos (by omega)];exact e,?_⟩
   unfold at_ at hr ⊢
   rw[List.take_append_of_le_length (by rw[lt];exact q),List.take_take,Nat.min_eq_left q]
   exact hr
 ·rw[List.length_append,lt]at h
  rcases Nat.lt_or_ge j i with q|q
  ·obtain⟨x,e,hw⟩:=M.w j (by omega)
   refine⟨x,by rw[List.getElem?_append_left (by omega),List.getElem?_take,if_pos (by omega)];exact e,?_⟩
   rw[hw,List.getElem_append_left (by omega),List.getElem_take]
  ·have:j=i:=by simp at h;omega
   subst this
   refine⟨(p.w,m),by rw[List.getElem?_append_right (by omega),lp];simp,?_⟩
   rw[List.getElem_append_right (by omega)]
   simp[lt]
def pD(x:Str×List (D×D)):D:=.tuple [.str x.1,.dict x.2]
theorem bU5{P:List (Str×List (D×D))}{j:Nat}{x} (h:P[j]? = some x):atI (P.map pD) (j:Int)=some (pD x):=by
 have hl:j < P.length:=(List.getElem?_eq_some_iff.mp h).1
 unfold atI
 rw[List.length_map,bR5 (by omega) (by omega),xbs,Int.toNat_natCast,List.getElem?_map,h];rfl
end Sh
namespace Sh
open PySem PySem.Spec PyProof.Rows L2 G
end Sh
namespace Sh
open PySem PySem.Spec PyProof.Rows L2 G
end Sh
namespace Sh
open PySem PySem.Spec PyProof.Rows L2 G
end Sh
namespace Sh
open PySem PySem.Spec PyProof.Rows L2 G
end Sh
namespace Sh
open PySem PySem.Spec PyProof.Rows L2 G
end Sh
namespace Sh
open PySem PySem.Spec PyProof.Rows L2 G
end Sh
namespace Sh
open PySem PySem.Spec PyProof.Rows L2 G
end Sh
namespace Sh
open PySem PySem.Spec PyProof.Rows L2 G
end Sh
namespace Sh
open PySem PySem.Spec PyProof.Rows L2 G
end Sh
namespace G
open PySem PySem.Spec PyProof.Rows L2
abbrev aK5:=List (Str×(Str->Option D))
abbrev bo1:=List (Str×(List D->Option Str)×Nat)
structure Rg where
 rf:bo1
 cl:List Str
 tb:List (Str×List (Str×Bool))
 sb:List (Str×List Str)
 nb:List (Str×List Str)
 xf:aK5
structure FitR (S:Sg) (T:Rg) (c:Kx) (X:Cx):Prop where
 fit:Fit S c X
 ns:∀x C,clA X.K x=some C->X.mg x=some (.ref C)
 rfs:∀x R n,T.rf.lookup x=some (R,n)->∃(k:Nat) (f:Addr) (fd:FuncData) (ps:List Str),FnOk X.prog X.w X.K X.mg X.base (CX1 X.prog X.w) k f fd ps (spR X.K n R)/\Room k X.A/\X.mg x=some (.ref f)/\PySem.W.keepIn X.K (.ref f)=true/\K2 X.K fd ps []
 cls:∀x,T.cl.contains x=true->W1 X.K x=true
 tbs:∀y l,T.tb.lookup y=some l->(∃D,clA X.K y=some D/\ad2 X.K (.ref D) fun x=>l.lookup x)\/(y = "ValueError" /\ X.mg y=none/\ad2 X.K (.type "ValueError") fun x=>l.lookup x)
 sbs:∀y l,T.sb.lookup y=some l->W1 X.K y=true/\∀x∈l,W1 X.K x=true/\aZ9 X.K x y=true
 nbs:∀y l,T.nb.lookup y=some l->∀x∈l,W1 X.K x=true/\bJ1 X.K x y=true
 xfs:∀x F,T.xf.lookup x=some F->∃(k:Nat) (f:Addr) (fd:FuncData) (ps:List Str),FnQ X.prog X.w X.K X.mg X.base k f fd ps (spX X.K F)/\RoomQ k X.A/\X.mg x=some (.ref f)/\PySem.W.keepIn X.K (.ref f)=true/\K2 X.K fd ps []
section
variable (S:Sg) (T:Rg)
def zvI(c:Kx) (w:Str) (a b:Expr):DE:=match a with
 | .Name x _=>(match b with
  | .Name y _=>if biB S c "isinstance" w&&ak2 c.sc x&&a8 c.sc y then(match X7 x c.N,T.tb.lookup y with
   | some i,some l=>aJ2 i fun x=>l.lookup x
   | _,_=>dNo) else dNo
  | _=>dNo)
 | _=>dNo
def zvE(c:Kx):Nat->Expr->DE
 | 0,_=>dNo
 | n+1,ex=>match ex with
  | .Call f as kw cpos=>(match kw with
   | []=>(match f with
    | .Name w _=>(match as with
     | [a,b]=>zvI S T c w a b
     | _=>dNo)
    | .Attribute o m apos=>(match as with
     | [a]=>if m == "count" && au7 o&&apos.endLine==cpos.line&&pl a then aJ3 (zvE c n o) (zvE c n a) else if m == "index" && au7 o&&apos.endLine==cpos.line&&pl a then aw0 (zvE c n o) (zvE c n a) else dNo
     | _=>dNo)
    | _=>dNo)
   | _=>dNo)
  | .Constant k _ _=>xCn k
  | .Name x _=>(match X7 x c.N with
   | some i=>if ak2 c.sc x then A2 i else dNo
   | none=>dNo)
  | .Tuple es _ _=>if es.length<=1000 then O7 (evA (zvE c n) es) else dNo
  | .List es _=>if es.length<=1000 then ao5 (evA (zvE c n) es) else dNo
  | .UnaryOp op a _=>(match op with
   | .USub=>bz6 (zvE c n a)
   | .Not=>bT0 (zvE c n a)
   | _=>dNo)
  | .BinOp a op b _=>(match op with
   | .Add=>A9 P3 (zvE c n a) (zvE c n b)
   | _=>dNo)
  | .Compare a ops bs _=>(match ops,bs with
   | [op],[b]=>if pl b then A9 (aw1 op) (zvE c n a) (zvE c n b) else dNo
   | _,_=>dNo)
  | .BoolOp op vs _=>aV0 (zvE c n) op vs
  | _=>dNo
def zvT(c:Kx):Nat->Expr->DT
 | 0,_=>tNo
 | n+1,ex=>match ex with
  | .Compare a ops bs _=>(match ops,bs with
   | [op],[b]=>if pl b then tB2 (aw1 op) (zvE S T c 9 a) (zvE S T c 9 b) else tNo
   | _,_=>tNo)
  | .BoolOp op vs _=>aU9 (zvT c n) op vs
  | .UnaryOp op a _=>(match op with
   | .Not=>ax8 (zvT c n a)
   | _=>tNo)
  | _=>if plT ex then as4 (zvE S T c 9 ex) else tNo
def zvA(c:Kx) (d:DE) (v:Expr):List Expr->DS
 | [t]=>(match t with
  | .Name x _=>(match X7 x c.N with
   | some i=>if aA8 c x && !(isC v) then Q7 i d else K8
   | none=>K8)
  | _=>K8)
 | _=>K8
def zvS(c:Kx):Nat->Stmt->DS
 | 0,_=>K8
 | n+1,st=>match st with
  | .Assign ts v _=>zvA c (zvE S T c 9 v) v ts
  | .If t a b _=>sIf (zvT S T c 9 t) (evB (zvS c n) a) (evB (zvS c n) b)
  | .Return o _=>(match o with
   | some e=>L8 (zvE S T c 9 e)
   | none=>K8)
  | _=>K8
def hvX(c:Kx) (e:Expr):Option DE:=match e with
 | .Call f as kw _=>(match f with
  | .Name f _=>(match as,kw with
   | [a],[]=>(match a with
    | .Name x _=>(match T.xf.lookup f,X7 x c.N with
     | some F,some i=>if a8 c.sc f&&ak2 c.sc x then some (ae9 i F) else none
     | _,_=>none)
    | _=>none)
   | _,_=>none)
  | _=>none)
 | _=>none
def hvE(c:Kx) (ex:Expr):DE:=match hvX T c ex with
 | some d=>d
 | none=>zvE ⟨[],[],S.bl⟩ T c 9 ex
def hvS(c:Kx) (st:Stmt):DS:=match st with
 | .Assign ts v _=>zvA c (hvE S T c v) v ts
 | .Return o _=>(match o with
  | some e=>L8 (hvE S T c e)
  | none=>K8)
 | _=>K8
def hnd:ExceptHandler->Option (Str×Option Str×Stmt×List Stmt)
 | .ExceptHandler t nm su _=>(match t with
  | some e=>(match e with
   | .Name y _=>(match su with
    | b0::suite=>some (y,nm,b0,suite)
    | []=>none)
   | _=>none)
  | none=>none)
def rdX(bl:List Str) (T:Rg) (d:Fd):Str->Option D:=bJ8 (evB (zvS ⟨[],[],bl⟩ T d.c 9) (A4 d.st)) d.N.length
end
end G
namespace G
open PySem PySem.Spec PyProof.Rows L2
section
variable {S:Sg}{T:Rg}{c:Kx}{X:Cx}
abbrev Cx.quiet(X:Cx):Cx:={ X with calm:=true }
abbrev bB0(T:Rg) (X:Cx):Prop:=(∀x C,clA X.K x=some C->X.mg x=some (.ref C))/\∀y l,T.tb.lookup y=some l->(∃D,clA X.K y=some D/\ad2 X.K (.ref D) fun x=>l.lookup x)\/(y = "ValueError" /\ X.mg y=none/\ad2 X.K (.type "ValueError") fun x=>l.lookup x)
theorem bF3(F:Fit S c (Cx.quiet X)) (tb:bB0 T X) (w:Str) (a b:Expr) (p pos:Pos):JE X (.Call (.Name w p) [a,b] [] pos) (zvI S T c w a b):=by
 unfold zvI
 split
 ·split
  ·rename_i x p1 y p2
   split
   ·rename_i h
    simp only[Bool.and_eq_true]at h
    obtain⟨rfl,h1,h2⟩:=O1 F h.1.1
    obtain⟨v1,v2,v3⟩:=S6 F h.1.2
    obtain⟨g1,g2⟩:=S7 F h.2
    split
    ·rename_i i l hi hl
     rcases tb.2 y l hl with⟨D,hD,ok⟩|⟨rfl,hm,ok⟩
     ·exact bi1 (X:=X) (v:=.ref D) h1 h2 (F.slot hi) v1 v2 v3 (bu5 g1 (tb.1 y D hD) g2) rfl (fun u r=>r) ok
     ·exact bi1 (X:=X) (v:=.ty "ValueError") h1 h2 (F.slot hi) v1 v2 v3 (bu6 (v:=.ty "ValueError") g1 hm (by decide +kernel) rfl (by decide) g2) rfl (fun u r=>r) ok
    ·exact C8
   ·exact C8
  ·exact C8
 ·exact C8
theorem u7(F:Fit S c (Cx.quiet X)) (tb:bB0 T X):∀(n:Nat) (ex:Expr),JE X ex (zvE S T c n ex)
 | 0,ex=>C8
 | n+1,ex=>by
  have hu:X.A.units+64 < cLine:=F.units
  have R:=u7 F tb n
  cases ex
  case Call f as kw cpos =>
   cases kw
   ·cases f
    case Name w p =>
     unfold zvE
     dsimp only
     split
     ·exact bF3 F tb _ _ _ _ _
     ·exact C8
    case Attribute o m apos =>
     unfold zvE
     dsimp only
     split
     ·split
      ·rename_i h
       simp only[Bool.and_eq_true,beq_iff_eq]at h
       obtain⟨⟨⟨hm,hn⟩,hl⟩,hp⟩:=h
       subst hm
       have hs:=E1 hp [] X.env
       exact bi3 hu (R _) (R _) (i9 hn _ _ _) (by rw[hs];rfl) (by simpa using hl) hs
      ·split
       ·rename_i h
        simp only[Bool.and_eq_true,beq_iff_eq]at h
        obtain⟨⟨⟨hm,hn⟩,hl⟩,hp⟩:=h
        subst hm
        have hs:=E1 hp [] X.env
        exact aU3 hu (R _) (R _) (i9 hn _ _ _) (by rw[hs];rfl) (by simpa using hl) hs
       ·exact C8
     ·exact C8
    all_goals exact C8
   ·exact C8
  case Constant=>exact aX7 _ _ _
  case Name x p =>
   unfold zvE
   dsimp only
   split
   ·rename_i i hi
    split
    ·rename_i v;obtain⟨h1,h2,h3⟩:=S6 F v;exact av1 (X:=X) i (F.slot hi) h1 h2 h3
    ·exact C8
   ·exact C8
  case Tuple es _ _ =>
   unfold zvE
   dsimp only
   split
   ·rename_i h;exact bh7 (t9 R _) h
   ·exact C8
  case List es _ =>
   unfold zvE
   dsimp only
   split
   ·rename_i h;exact am0 (bh2 (t9 R _) h)
   ·exact C8
  case UnaryOp op a p =>
   cases op
   case USub=>exact bh9 (R _)
   case Not=>exact bQ5 (R _)
   all_goals exact C8
  case BinOp a op b p =>
   cases op
   case Add=>exact X6 aN4 (R _) (R _)
   all_goals exact C8
  case Compare a ops bs p =>
   unfold zvE
   dsimp only
   split
   ·split
    ·rename_i h;exact bi4 (W4 hu _) (R _) (R _) (n8 h _)
    ·exact C8
   ·exact C8
  case BoolOp=>exact ai7 R _ _ _
  all_goals exact C8
theorem aE5(F:Fit S c (Cx.quiet X)) (tb:bB0 T X):∀(n:Nat) (ex:Expr),JT X ex (zvT S T c n ex)
 | 0,ex=>k6
 | n+1,ex=>by
  have hu:X.A.units+64 < cLine:=F.units
  have oth:∀e:Expr,JT X e (if plT e then as4 (zvE S T c 9 e) else tNo):=fun e=>by
   split
   ·rename_i h;exact au9 (u7 F tb 9 _) (ay4 h _)
   ·exact k6
  cases ex
  case Compare a ops bs p =>
   unfold zvT
   dsimp only
   split
   ·split
    ·rename_i h;exact bg6 (W4 hu _) (u7 F tb 9 _) (u7 F tb 9 _) (n8 h _)
    ·exact k6
   ·exact k6
  case BoolOp=>exact aB4 (ai6 (aE5 F tb n) _ _ _)
  case UnaryOp op a p =>
   cases op
   case Not=>exact av0 (aE5 F tb n _)
   all_goals exact k6
  all_goals exact oth _
theorem aX4(F:Fit S c (Cx.quiet X)) {d:DE}{v:Expr}(h:JE X v d) (ts:List Expr) (pos:Pos):JS X (.Assign ts v pos) (zvA c d v ts):=by
 have nd:X.N.Nodup:=by have:X.N=c.N:=F.N;rw[this];exact F.nd
 unfold zvA
 split
 ·split
  ·split
   ·rename_i i hi
    split
    ·rename_i hc
     simp only[Bool.and_eq_true,Bool.not_eq_true']at hc
     obtain⟨l1,l2⟩:=ac0 F hc.1
     exact aH6 (X:=X) i nd h (F.slot hi) l1 (j4 hc.2 _ _ _) l2
    ·exact C7
   ·exact C7
  ·exact C7
 ·exact C7
theorem aE6(F:Fit S c (Cx.quiet X)) (tb:bB0 T X):∀(n:Nat) (st:Stmt),JS X st (zvS S T c n st)
 | 0,st=>C7
 | n+1,st=>by
  cases st
  case Assign=>exact aX4 F (u7 F tb 9 _) _ _
  case If=>exact bD8 (aE5 F tb 9 _) (ae5 (aE6 F tb n) _) (ae5 (aE6 F tb n) _)
  case Return o p =>
   cases o
   ·exact C7
   ·exact aH7 (u7 F tb 9 _)
  all_goals exact C7
theorem FitR.hf(F:FitR S T c X) (a:Addr):Fit ⟨[],[],S.bl⟩ c (Cx.quiet (Cx.held X (.ref a))) :=
 ⟨F.fit.N,F.fit.sc,F.fit.nd,rfl,F.fit.xe,F.fit.units,F.fit.df,(fun x F n h=>nomatch h),(fun x d h=>nomatch h),F.fit.bls⟩
theorem bR6(F:FitR S T c X) (a:Addr) (ex:Expr) {d:DE}(h:hvX T c ex=some d):JE (Cx.held X (.ref a)) ex d:=by
 unfold hvX at h
 split at h
 ·split at h
  ·split at h
   ·split at h
    ·split at h
     ·rename_i G i hl hi
      split at h
      ·rename_i hc
       cases h
       simp only[Bool.and_eq_true]at hc
       obtain⟨g1,g2⟩:=S7 F.fit hc.1
       obtain⟨v1,v2,v3⟩:=S6 F.fit hc.2
       obtain⟨k,fa,fd,ps,hk,hr,hm,hkp,hb⟩:=F.xfs _ _ hl
       exact bi6 (X:=Cx.held X (.ref a)) hk ⟨hr.dp,hr.un⟩ g1 hm hkp hb (F.fit.slot hi) v1 v2 v3 g2
      ·cases h
     ·cases h
    ·cases h
   ·cases h
  ·cases h
 ·cases h
theorem bj5(F:FitR S T c X) (a:Addr) (ex:Expr):JE (Cx.held X (.ref a)) ex (hvE S T c ex):=by
 unfold hvE
 split
 ·rename_i h;exact bR6 F a ex h
 ·exact u7 (F.hf a) ⟨F.ns,F.tbs⟩ 9 ex
theorem bR7(F:FitR S T c X) (a:Addr) (st:Stmt):JS (Cx.held X (.ref a)) st (hvS S T c st):=by
 unfold hvS
 split
 ·exact aX4 (F.hf a) (bj5 F a _) _ _
 ·split
  ·exact aH7 (bj5 F a _)
  ·exact C7
 ·exact C7
theorem bR8{h:ExceptHandler}{y:Str}{nm:Option Str}{b0:Stmt}{suite:List Stmt}(e:hnd h=some (y,nm,b0,suite)):∃np hp,h=.ExceptHandler (some (.Name y np)) nm (b0::suite) hp:=by
 unfold hnd at e
 split at e
 split at e
 ·split at e
  ·split at e
   ·cases e;exact⟨_,_,rfl⟩
   ·cases e
  ·cases e
 ·cases e
end
section
variable {P:Program}{w:World}{K:PySem.W.Frag}{mg:Str->Option Value}{base:Heap}{cs:List (Str×D)}{bl:List Str}
def TRk(P:Program) (w:World) (K:PySem.W.Frag) (mg:Str->Option Value) (base:Heap) (k:Nat) (rt:bo1):Prop:=∀x R n,rt.lookup x=some (R,n)->∃(f:Addr) (fd:FuncData) (ps:List Str),
 FnOk P w K mg base (CX1 P w) k f fd ps (spR K n R)/\mg x=some (.ref f)/\PySem.W.keepIn K (.ref f)=true/\K2 K fd ps []
theorem TRk.nil:TRk P w K mg base 0 []:=fun x R n h=>by cases h
theorem TRk.mono{j k:Nat}{rt:bo1}(T:TRk P w K mg base j rt) (h:j<=k):TRk P w K mg base k rt:=fun x R n e =>
 let⟨f,fd,ps,h1,h2,h3,h4⟩:=T x R n e
 ⟨f,fd,ps,h1.mono h,h2,h3,h4⟩
structure Cl (K:PySem.W.Frag) (mg:Str->Option Value) (T:Rg):Prop where
 cls:∀x,T.cl.contains x=true->W1 K x=true
 tbs:∀y l,T.tb.lookup y=some l->(∃D,clA K y=some D/\ad2 K (.ref D) fun x=>l.lookup x)\/(y = "ValueError" /\ mg y=none/\ad2 K (.type "ValueError") fun x=>l.lookup x)
 sbs:∀y l,T.sb.lookup y=some l->W1 K y=true/\∀x∈l,W1 K x=true/\aZ9 K x y=true
 nbs:∀y l,T.nb.lookup y=some l->∀x∈l,W1 K x=true/\bJ1 K x y=true
theorem aJ6{x:Str}{C:Addr}(M:Md K mg cs bl) (h:clA K x=some C):mg x=some (.ref C):=by
 unfold clA at h
 split at h
 ·rename_i C' e;cases h;exact M.ns _ _ e
 ·cases h
def TXk(P:Program) (w:World) (K:PySem.W.Frag) (mg:Str->Option Value) (base:Heap) (k:Nat) (xt:aK5):Prop:=∀x F,xt.lookup x=some F->∃(f:Addr) (fd:FuncData) (ps:List Str),
 FnQ P w K mg base k f fd ps (spX K F)/\mg x=some (.ref f)/\PySem.W.keepIn K (.ref f)=true/\K2 K fd ps []
theorem TXk.nil:TXk P w K mg base 0 []:=fun x R h=>by cases h
theorem TXk.mono{j k:Nat}{xt:aK5}(T:TXk P w K mg base j xt) (h:j<=k):TXk P w K mg base k xt:=fun x F e =>
 let⟨f,fd,ps,h1,h2,h3,h4⟩:=T x F e
 ⟨f,fd,ps,h1.mono h,h2,h3,h4⟩
theorem TXk.cons{k:Nat}{xt:aK5}{x:Str}{F:Str->Option D}(T:TXk P w K mg base k xt) (h:∃(f:Addr) (fd:FuncData) (ps:List Str),FnQ P w K mg base k f fd ps (spX K F)/\mg x=some (.ref f)/\PySem.W.keepIn K (.ref f)=true/\K2 K fd ps []) :
  TXk P w K mg base k ((x,F)::xt):=fun y G e=>by
 rw[List.lookup_cons]at e
 split at e
 ·rename_i q
  cases e
  simp only[beq_iff_eq]at q
  subst q
  exact h
 ·exact T y G e
theorem bS0{k:Nat}{T:Rg}{d:Fd}{f:Addr}{fd:FuncData}(M:Md K mg cs bl) (Ck:Cl K mg T) (ok:d.okB=true) (hp:d.ps.length=1) (Fn:Fun K d.x d.x d.st f fd):FnQ P w K mg base (k+1) f fd d.ps (spX K (rdX bl T d)):=by
 have Sc:=Fd.sc ok
 refine bk4 (N:=d.N) Fn Sc hp fun cdv A outer s H hr=>ae5 (aE6 (S:=⟨[],[],bl⟩) (c:=d.c) ?_ ⟨fun x C h=>aJ6 M h,Ck.tbs⟩ 9) _
 exact⟨rfl,rfl,Sc.nd,rfl,rfl,by have:=hr.un;show(A.deeper _).units+64 < _;omega,fun _=>⟨fun _=>rfl,Sc.kind⟩,(fun x F n h=>nomatch h),(fun x d h=>nomatch h),M.bls⟩
end
end G
namespace G
open PySem PySem.Spec PyProof.Rows L2
def by6(K:PySem.W.Frag) (cv:Value) (p:Str×Bool):Bool:=match clA K p.1 with
 | some C=>xcB K C&&PySem.W.excIn K C veB "ValueError.__new__" && PySem.W.kitOne K (.ref C) cv==some p.2
 | none=>false
def clB(K:PySem.W.Frag) (cl:List Str) (tb:List (Str×List (Str×Bool))) (sb nb:List (Str×List Str)):Bool :=
 cl.all (W1 K)&&tb.all (fun p=>match clA K p.1 with
  | some D=>p.2.all (by6 K (.ref D))
  | none=>p.1 == "ValueError" && p.2.all (by6 K (.type "ValueError")))&&(sb.all fun p=>W1 K p.1&&p.2.all fun x=>W1 K x&&aZ9 K x p.1)&&nb.all fun p=>p.2.all fun x=>W1 K x&&bJ1 K x p.1
theorem V3{α:Type}{x:Str}{a:α}:∀{l:List (Str×α)},l.lookup x=some a->(x,a)∈l
 | [],h=>by cases h
 | (y,b)::l,h=>by
  rw[List.lookup_cons]at h
  split at h
  ·rename_i q
   simp only[beq_iff_eq]at q
   cases h;subst q;exact List.mem_cons_self ..
  ·exact List.mem_cons_of_mem _ (V3 h)
theorem bi8{K:PySem.W.Frag}{cv:Value}{l:List (Str×Bool)}(h:l.all (by6 K cv)=true):ad2 K cv fun x=>l.lookup x:=fun x b e=>by
 have:=List.all_eq_true.mp h _ (V3 e)
 unfold by6 at this
 split at this
 ·rename_i C hC
  simp only[Bool.and_eq_true,beq_iff_eq]at this
  exact⟨C,hC,this.1.1,this.1.2,this.2⟩
 ·cases this
section
variable {P:Program}{w:World}{K:PySem.W.Frag}{mg:Str->Option Value}{base:Heap}{cs:List (Str×D)}{bl:List Str}
theorem Cl.of(M:Md K mg cs bl) (hv:bl.contains "ValueError" = true) (h:clB K T.cl T.tb T.sb T.nb=true):Cl K mg T:=by
 simp only[clB,Bool.and_eq_true]at h
 obtain⟨⟨⟨h1,h2⟩,h3⟩,h4⟩:=h
 refine⟨fun x hx=>List.all_eq_true.mp h1 x (List.contains_iff_mem.mp hx),fun y l e=>?_,fun y l e=>?_,fun y l e=>?_⟩
 ·have:=List.all_eq_true.mp h2 _ (V3 e)
  dsimp only at this
  split at this
  ·rename_i D hD;exact .inl ⟨D,hD,bi8 this⟩
  ·simp only[Bool.and_eq_true,beq_iff_eq]at this
   exact .inr ⟨this.1,by rw[this.1];exact M.bls _ hv,bi8 this.2⟩
 ·have:=List.all_eq_true.mp h3 _ (V3 e)
  simp only[Bool.and_eq_true,List.all_eq_true]at this
  exact this
 ·have:=List.all_eq_true.mp h4 _ (V3 e)
  simp only[Bool.and_eq_true,List.all_eq_true]at this
  exact this
theorem TXk.add(Xk:TXk P w K mg base k xt) (M:Md K mg cs bl) (Ck:Cl K mg T) (d:Fd) (h:KF K d.x d.st) (F:Str->Option D) (e:rdX bl T d=F:=by kernel_rfl) (hp:d.ps.length=1:=by rfl) (ok:d.okB=true:=by kernel_rfl) (bd:Bd d:=by repeat (first|exact rfl|intro _)):TXk P w K mg base (k+1) ((d.x,F)::xt):=by
 subst e
 obtain⟨f,kV,dc,pm,an,cd,ct,Fn,hm⟩:=al7 h M
 exact(Xk.mono (Nat.le_succ k)).cons ⟨f,_,d.ps,bS0 M Ck ok hp Fn,hm,Fn.kp,.all (ua (bd kV dc pm an cd ct))⟩
end
end G
namespace Sh
open PySem PySem.Spec PyProof.Rows L2 G
end Sh
namespace Sh
open PySem PySem.Spec PyProof.Rows L2 G
end Sh
namespace G
open PySem PySem.Spec PyProof.Rows L2
abbrev MR:=Fo->List D->Option Str
def EN(K:PySem.W.Frag) (C:Addr) (b:Bs) (q:Os) (D:Addr):XK:=fun cls _ H'=>cls=.ref D/\∃ρ σ H1 Hf1,OSt K C b ρ q σ H1 Hf1/\B3 H1 H'
def OuU(X:Cx) (C:Addr) (m:Bool) (b:Bs) (pins:List (Addr×Obj)) (D:Addr) (q:Os) (e:Value) (s':Shared):Prop:=∃σ1 H1 s1,Inv X pins σ1 H1 s1 /\
 ((m=true/\(∃ρ1 Hf1,OSt X.K C b ρ1 q σ1 H1 Hf1)/\∃h' a vs,s'={ s1 with heap:=h' }/\e=.ref a/\Heap.MadeExcOf s1.heap h' a (.ref D) vs)\/CX1 X.prog X.w X.stack H1 s1 (EN X.K C b q D) e s')
def ORs(X:Cx) (C:Addr) (m:Bool) (b:Bs) (ρ:Rho) (q:Os) (sts:List Stmt) (x:Str):Prop:=∀D,clA X.K x=some D->∀pins s σ H Hf,Inv X pins σ H s->OSt X.K C b ρ q σ H Hf->wpAny (model X.prog X.w) X.A (execs sts X.env) (fun _ _=>False) (OuU X C m b pins D q) s
def OR(X:Cx) (C:Addr) (m:Bool) (b:Bs) (ρ:Rho) (q:Os) (st:Stmt) (x:Str):Prop:=∀D,clA X.K x=some D->∀pins s σ H Hf,Inv X pins σ H s->OSt X.K C b ρ q σ H Hf->wpAny (model X.prog X.w) X.A (exec st X.env) (fun _ _=>False) (OuU X C m b pins D q) s
def ORX(X:Cx) (C:Addr) (m:Bool) (b:Bs) (ρ:Rho) (q:Os) (e:Expr) (x:Str):Prop:=∀D,clA X.K x=some D->∀pins s σ H Hf,Inv X pins σ H s->OSt X.K C b ρ q σ H Hf->wpAny (model X.prog X.w) X.A (eval e X.env) (fun _ _=>False) (OuU X C m b pins D q) s
def ba2(K:PySem.W.Frag) (C:Addr) (n:Nat) (R:MR):Sp:=fun vs H _ E=>∃a us Hf c o ds x D,vs=.ref a::us/\us.length=n/\B3 Hf H/\FoAt K C H Hf a c o/\Reps K Hf ds us/\R o ds=some x/\clA K x=some D /\
 ∀H' Hf' c',Chg (cells a c) H Hf H' Hf'->FoAt K C H' Hf' a c' o->(∀y∈cells a c',y∈cells a c\/H y=none)->∀H'',B3 H' H''->E (.ref D) none H''
def aX2(X:Cx) (C:Addr) (m:Str) (n:Nat) (R:MR):Prop:=∃k f fd ps,FnOk X.prog X.w X.K X.mg X.base (CX1 X.prog X.w) k f fd ps (ba2 X.K C n R)/\Room k X.A/\Meth X.K C m f/\K2 X.K fd ps []
theorem ba3{l:List α}{j:Nat}{x:α}(h:l[j]? = some x):l.set j x=l:=by
 apply List.ext_getElem?
 intro i
 rw[List.getElem?_set]
 split
 ·rename_i e
  subst e
  rw[if_pos (List.getElem?_eq_some_iff.mp h).1,h]
 ·rfl
section
variable {X:Cx}{C:Addr}{m:Bool}{b:Bs}{ρ ρ' ρa:Rho}{q:Os}{st:Stmt}{sts:List Stmt}{o:Fo}(hx:∀e s,X.xe e s->False)
include hx
theorem bd2{x:Str}{e:Expr}{f:DE}{np cpos pos:Pos}(hq:W1 X.K x=true) (hg:Gl X x) (hm:∀C,clA X.K x=some C->X.mg x=some (.ref C)) (hc:X.calm=true) (he:JE X e f) (w:f ρ=some d) (hd:(x==("__debug__" : Str))=false)
  (hs:starEach [e] X.env=[(false,eval e X.env)]):OR X C true b ρ q (.Raise (some (.Call (.Name x np) [e] [] cpos)) none pos) x:=by
 intro D hD pins s σ H Hf I st
 have hq:PySem.W.excIn X.K D veB "ValueError.__new__" = true:=by unfold W1 at hq;rw[hD]at hq;exact hq
 obtain⟨nm,qn,N,bs,bm,hd',sn,sub,ab,col,dd,k0,k1,k2,k3,k5,mN,g1,g2,g3,g4⟩:=am5 I.mod.kin hq
 refine wpAny_Raise_call_subT (C:=D) (bm:=bm) (nm:=nm) (q:=qn) (N:=N) (bs:=bs) (hdct:=hd') (sn:=sn) (sub:=sub) (ab:=ab) (col:=col) (dd:=dd) (k0:=k0) (k1:=k1) (k2:=k2) (k3:=k3) (k5:=k5) F.excBase_ValueError (g4.hasType (by decide)) (I.ok.hd hc) (by rw[hs];rfl) g3 ?_
 refine W8 I hg (hm D hD) ⟨rfl,?_⟩ hd
 have hA:=(B8 he O4 (by rw[hs];rfl)).run ρ [d] (by simp only[A0,A6,w,xbs,xms]) cpos pins s σ H (fun vs H'=>(∃Hf',OSt X.K C b ρ q σ H' Hf')/\vs.length=1) I ⟨_,Hf,st.same,st.sl,fun vs H' Hf' gr rs=>⟨⟨Hf',st.grow gr⟩,rs.length⟩⟩
 rw[hs]at hA ⊢
 refine Calls.evalArgs_plain (noX hx hA fun us s2 ⟨vs,H2,I2,r2,⟨Hf2,a2⟩,l1⟩=>?_)
 have ln:us.length=1:=by rw[← r2.length];exact l1
 exact⟨rfl,by show us.length<=_;rw[ln];decide,I2.bk _ _ g1,g2.keeps I2.bk,g4.keeps I2.bk,fun h' a hm'=>⟨σ,H2,s2,I2,.inl ⟨rfl,⟨ρ,Hf2,a2⟩,h',a,us,rfl,rfl,hm'⟩⟩⟩
theorem az1{e:Expr}{s1 s2:List Stmt}(t:OT X C b ρ q e c q) (h1:c=true->ORs X C m b ρ q s1 x) (h2:c=false->ORs X C m b ρ q s2 x):OR X C m b ρ q (.If e s1 s2 pos) x:=by
 intro D hD pins s σ H Hf I st
 refine wpAny_If (noX hx (t pins s σ H (fun d' H'=>d'=c/\∃Hf',OSt X.K C b ρ q σ H' Hf') I ⟨Hf,st,fun H' Hf' st' _=>⟨rfl,Hf',st'⟩⟩) fun d' s1 ⟨H1,I1,e,Hf1,st1⟩=>?_)
 subst e
 cases d' with
 | true=>exact h1 rfl D hD pins s1 σ H1 Hf1 I1 st1
 | false=>exact h2 rfl D hD pins s1 σ H1 Hf1 I1 st1
theorem az0(h:OS X C b ρ q st (.nx ρ' q)) (r:ORs X C m b ρ' q sts x):ORs X C m b ρ q (st::sts) x:=by
 intro D hD pins s σ H Hf I st0
 refine wpAny_execs_cons (noX hx (h pins s σ H { nx:=fun σ' H'=>∃Hf',OSt X.K C b ρ' q σ' H' Hf',rt:=fun _ _=>False } I ⟨Hf,st0,fun σ' H' Hf' a _=>⟨Hf',a⟩⟩) fun fl s1 z=>?_)
 cases fl with
 | next =>
  obtain⟨σ1,H1,I1,Hf1,a1⟩:=z
  exact r D hD pins s1 σ1 H1 Hf1 I1 a1
 | ret v=>obtain⟨_,_,_,_,_,z⟩:=z;exact z.elim
 | brk=>obtain⟨_,_,_,z⟩:=z;exact z.elim
 | cont=>obtain⟨_,_,_,z⟩:=z;exact z.elim
omit hx in
theorem P5(h:OR X C m b ρ q st x):ORs X C m b ρ q (st::sts) x:=fun D hD pins s σ H Hf I st0 =>
 wpAny_execs_cons (thn (h D hD pins s σ H Hf I st0) fun _ _ z=>z.elim)
omit hx in
theorem bM7(h:ORX X C m b ρ q e x):OR X C m b ρ q (.Return (some e) pos) x:=fun D hD pins s σ H Hf I st0 =>
 wpAny_Return_some (thn (h D hD pins s σ H Hf I st0) fun _ _ z=>z.elim)
omit hx in
theorem aH0(h:ORX X C m b ρ q e x) (hs:swapsWith e (some (.Name y pos')) pos.line X.env=pure false):OR X C m b ρ q (.Assign [.Name y pos'] e pos) x:=fun D hD pins s σ H Hf I st0 =>
 wpAny_Assign_Name (thn (h D hD pins s σ H Hf I st0) fun _ _ z=>z.elim) hs
theorem aq7{D:Addr}{k:Nat}{fa:Addr}{fd:FuncData}{ps:List Str}{R:MR}{vs:List V}{us:List Value}{y:Str}{c0:Cel}(Fk:FnOk X.prog X.w X.K X.mg X.base (CX1 X.prog X.w) k fa fd ps (ba2 X.K C n R)) (hr:Room k X.A) (hb:K2 X.K fd ps []) (hD:clA X.K y=some D) (g2:Grow H Hf H2 Hf2) (I2:Inv X pins σ H2 s2) (f1:FoAt X.K C H Hf a c0 o)
  (f3:∀{H' Hf':Hp}{c':Cel},Chg (cells a c0) H Hf H' Hf'->FoAt X.K C H' Hf' a c' o->(∀x∈cells a c',x∈cells a c0\/H x=none)->OSt X.K C b ρ q σ H' Hf') (rp:Reps X.K Hf2 ds vs) (hn:vs.length=n) (r:B9 vs us) (e:R o ds=some y) :
  wpAny (model X.prog X.w) X.A (call (.ref fa) (.ref a::us)) (fun _ _=>False) (OuU X C m b pins D q) s2:=by
 have sp:ba2 X.K C n R (.ref a::vs) H2 (fun _ _=>False) (EN X.K C b q D):=⟨a,vs,Hf2,c0,o,ds,y,D,rfl,hn,g2.sub,f1.grow g2,rp,e,hD,fun H' Hf' c' g3 f4 n3 H'' sm=>⟨rfl,ρ,σ,H',Hf',f3 ((Chg.of g2).trans g3 fun _ h=>.inl h) f4 fun y hy=>(n3 y hy).imp id fun z=>Classical.byContradiction fun w=>(Chg.of (S:=[]) g2).kp y w z,sm⟩⟩
 have rv:B9 (.ref a::vs) (.ref a::us):=.cons rfl r
 have hl2:(Value.ref a::us).length=ps.length:=by rw[← rv.length];exact Fk.len _ H2 _ _ sp
 have bd:BindsTo s2 fd ⟨.ref a::us,[]⟩ (ps.zip (.ref a::us)):=by
  have:=hb s2 (.ref a::us) I2.kIn (by rw[List.append_nil];exact hl2)
  rwa [List.append_nil]at this
 refine wpAny_call (codeAny_mono (Fk.run X.A X.stack s2 H2 ⟨.ref a::us,[]⟩ (.ref a::us) (.ref a::vs) _ _ hr I2.env0 bd rv sp) fun rs s' hq=>?_)
 cases rs with
 | error e=>exact⟨σ,H2,s2,I2,.inr hq⟩
 | ok fl =>
  cases fl with
  | ret u=>obtain⟨_,_,_,_,_,_,_,z⟩:=hq;exact z.elim
  | next=>exact False.elim hq
  | brk=>exact False.elim hq
  | cont=>exact False.elim hq
theorem ab7{x y mt:Str}{e:Expr}{es:List Expr}{p apos pos:Pos}{ds:List D}{R:MR}{f:Rho->Option (List D)}(M:aX2 X C mt n R) (c:FoC X.K C) (A:At1 X ρ q x i j a o) (nf:Y5 mt=true) (ha:JA X (e::es) f) (w:f ρa=some ds) (sb:∀{H0 H Hf:Hp}{σ:L2.St},Slots X.K H0 ρ σ H Hf->Slots X.K H0 ρa σ H Hf) (r:R o ds=some y) (hn:(e::es).length=n:=by rfl)
  (hst:starEach (e::es) X.env=(false,eval e X.env)::starEach es X.env:=by rfl) (hpl:(backTo pos (starEach es X.env)).any (·.1)=false:=by rfl)
  (hl:(apos.endLine==pos.line)=true:=by first|assumption|rfl) (hfm:methodCallForm ((e::es).length+([]:List Keyword).length) (backTo pos (starEach (e::es) X.env)) (backToKw pos (keywordEach [] X.env))=true:=by rfl) :
  ORX X C m b ρ q (.Call (.Attribute (.Name x p) mt apos) (e::es) [] pos) y:=by
 intro D hD pins s σ H Hf I st
 obtain⟨k,fa,fd,ps,Fk,hr,hm,hb⟩:=M
 obtain⟨c0,f1,f3⟩:=st.focus A.w A.o
 refine PySem.W.methodCall_KW (noX hx (P2 A.n A.v A.d1 A.d2 pins s σ H (fun v H'=>v=.ref a/\H'=H) I ⟨_,ab1 st A.s,rfl,rfl⟩) fun u s1 ⟨xv,H1,I1,rx,e1,e2⟩=>?_) (ai5 hl hfm)
 subst e1 e2
 obtain rfl:u=Value.ref a:=rx
 refine V6 I1 f1.ins c.cl hm (al2 nf c0) ?_
 refine PySem.W.callWith_K (first:=[.ref a]) (h₀:=X.base) I.ok.mod.kin hm.kp (noX hx (ha.run ρa ds w pos pins s1 σ H1 (fun vs H'=>∃Hf',Grow H1 Hf H' Hf'/\Reps X.K Hf' ds vs) I1 ⟨_,Hf,st.same,sb st.sl,fun vs H' Hf' g r=>⟨Hf',g,r⟩⟩) fun us s2 ⟨vs,H2,I2,rv,Hf2,g2,rp⟩=>⟨I2.kIn,?_⟩) hst hpl
 exact aq7 hx Fk hr hb hD g2 I2 f1 (fun g f' n=>by have:=f3 g f' n;rwa [ba3 A.o]at this) rp (by rw[rp.length,ha.len ρa ds w,hn]) rv r
theorem aS5{x y mt:Str}{p apos pos:Pos}{R:MR}(M:aX2 X C mt 0 R) (c:FoC X.K C) (A:At1 X ρ q x i j a o) (nf:Y5 mt=true) (r:R o []=some y) (hl:(apos.endLine==pos.line)=true:=by first|assumption|rfl) :
  ORX X C m b ρ q (.Call (.Attribute (.Name x p) mt apos) [] [] pos) y:=by
 intro D hD pins s σ H Hf I st
 obtain⟨k,fa,fd,ps,Fk,hr,hm,hb⟩:=M
 obtain⟨c0,f1,f3⟩:=st.focus A.w A.o
 refine PySem.W.methodCall_KW (noX hx (P2 A.n A.v A.d1 A.d2 pins s σ H (fun v H'=>v=.ref a/\H'=H) I ⟨_,ab1 st A.s,rfl,rfl⟩) fun u s1 ⟨xv,H1,I1,rx,e1,e2⟩=>?_) (ai5 hl rfl)
 subst e1 e2
 obtain rfl:u=Value.ref a:=rx
 refine V6 I1 f1.ins c.cl hm (al2 nf c0) ?_
 refine PySem.W.callWith_K0 (first:=[.ref a]) I1.kIn hm.kp ?_
 exact aq7 hx Fk hr hb hD (Grow.refl st.same) I1 f1 (fun g f' n=>by have:=f3 g f' n;rwa [ba3 A.o]at this) (ds:=[]) (vs:=[]) rfl rfl .nil r
end
section
variable {P:Program}{w:World}{K:PySem.W.Frag}{mg:Str->Option Value}{base:Heap}{cs:List (Str×D)}{bl:List Str}{C:Addr}{ms:af4}
abbrev an3:=List (Str×MR×Nat)
structure FitN (S:Sg) (ms:af4) (rs:an3) (cl:List Str) (C:Addr) (c:Kx) (X:Cx):Prop where
 o:FitO S ms C c X
 ns:∀x C,clA X.K x=some C->X.mg x=some (.ref C)
 cls:∀x,cl.contains x=true->W1 X.K x=true
 rms:∀m R n,rs.lookup m=some (R,n)->aX2 X C m n R
def MRk(P:Program) (w:World) (K:PySem.W.Frag) (mg:Str->Option Value) (base:Heap) (C:Addr) (k:Nat) (rs:an3):Prop:=∀m R n,rs.lookup m=some (R,n)->∃(f:Addr) (fd:FuncData) (ps:List Str),
 FnOk P w K mg base (CX1 P w) k f fd ps (ba2 K C n R)/\Meth K C m f/\K2 K fd ps []
theorem MRk.nil:MRk P w K mg base C 0 []:=fun x F n h=>by cases h
theorem MRk.mono{rs:an3}(T:MRk P w K mg base C j rs) (h:j<=k):MRk P w K mg base C k rs:=fun x F n e=>by
 obtain⟨f,fd,ps,h1,h2⟩:=T x F n e
 exact⟨f,fd,ps,h1.mono h,h2⟩
theorem bN2{rs:an3}{cl:List Str}(Rk:MRk P w K mg base C k rs) (Mk:MOk P w K mg base C k ms) (M:Md K mg cs bl) (T:TOk P w K mg base k tab) (Ck:∀x,cl.contains x=true->W1 K x=true) (Fc:FoC K C) (d:Fd) (hN:d.N=s0::N) (hp:d.ps.length=n+1) (ok:d.okB=true) (Fn:Fun K d.x qual d.st f fd)
  (js:∀X:Cx,(∀e s,X.xe e s->False)->FitN ⟨tab,cs,bl⟩ ms rs cl C d.c X->∀b a o ds x,ds.length=n->R o ds=some x->ORs X C true b (F8 N.length a ds) [(a,o)] (A4 d.st) x):FnOk P w K mg base (CX1 P w) (k+1) f fd d.ps (ba2 K C n R):=by
 have Sc:=Fd.sc ok
 obtain⟨oc,od,kV,doc,pm,an,cdv,ct,osl,rfl,lk,hcd⟩:=Fn.ex
 refine bE4 lk hcd Sc (fun vs H Q E h=>?_) fun A outer s H vs Q E hr hsp=>?_
 ·obtain⟨a,us,Hf,c,o,ds,x,D,rfl,h2,_⟩:=h
  simp[h2,hp]
 obtain⟨a,us,Hf,c,o,ds,x,D,rfl,h2,ss,fo,rp,e,hD,hE⟩:=hsp
 have X0:FitN ⟨tab,cs,bl⟩ ms rs cl C d.c (cx1 P w K mg base d.N qual (A7 d.st) f cdv A outer s H E).nox:=by
  refine⟨⟨⟨rfl,rfl,Sc.nd,rfl,rfl,hr.units,fun _=>⟨fun _=>rfl,Sc.kind⟩,fun x F n h=>?_,M.css,M.bls⟩,Fc,fun m F n h=>?_⟩,fun x C h=>aJ6 M h,Ck,fun m R n h=>?_⟩
  ·exact(T x F n h).imp (fun⟨f',fd',ps,h1,h2,h3,h4⟩=>⟨k,f',fd',ps,h1,hr,h2,h3,h4⟩) id
  ·obtain⟨f',fd',ps,h1,h2,h3⟩:=Mk m F n h
   exact⟨k,f',fd',ps,h1,hr,h2,h3⟩
  ·obtain⟨f',fd',ps,h1,h2,h3⟩:=Rk m R n h
   exact⟨k,f',fd',ps,h1,hr,h2,h3⟩
 have hl:ds.length=n:=by rw[← h2,rp.length]
 have st0:OSt K C ⟨cells a c,H,Hf⟩ (F8 N.length a ds) [(a,o)] (L2.start d.N (.ref a::us)) H Hf:=⟨Chg.of (Grow.refl ss),cells a c++[],.cons fo (by simp) .nil,fun x hx=>.inl (by simpa using hx),by rw[hN];exact Z2 rp⟩
 have fin:∀ρ' σ' H' Hf' H'',OSt K C ⟨cells a c,H,Hf⟩ ρ' [(a,o)] σ' H' Hf'->B3 H' H''->E (.ref D) none H'':=fun ρ' σ' H' Hf' H'' s' sm=>by
  obtain⟨R,ob,hR,_⟩:=s'.ob
  cases ob with
  | @cons _ c' _ _ R0 fo' _ _=>exact hE H' Hf' c' s'.gr fo' (fun x hx=>hR x (List.mem_append_left _ hx)) H'' sm
 refine⟨fun _ σ H'=>σ=L2.start d.N (.ref a::us)/\H'=H,fun pins s1 σ H1 D' I z=>?_,rfl,rfl⟩
 obtain⟨rfl,rfl⟩:=z
 refine wpAny_mono (js _ (fun e s z=>z) X0 ⟨cells a c,H1,Hf⟩ a o ds x hl e D hD pins s1 _ H1 Hf (I.wish _) st0) (fun _ _ z=>z.elim) fun ex s' ho=>?_
 obtain⟨σ1,H2,s2,I2,o2⟩:=ho
 have I2:=I2.unwish
 rcases o2 with⟨_,⟨ρ1,Hf1,st1⟩,h',a',vs',rfl,rfl,hm⟩|hc
 ·exact bf7 I2 hm (fin ρ1 _ H2 Hf1 H2 st1 (B3.refl _))
 ·refine bu7 I2 (CX1.mono hc fun cls H' z=>?_)
  obtain⟨rfl,ρ3,σ3,H3,Hf3,st3,sm⟩:=z
  exact fin ρ3 σ3 H3 Hf3 H' st3 sm
theorem MRk.add{rs:an3}{cl:List Str}(Rk:MRk P w K mg base C k rs) (Mk:MOk P w K mg base C k ms) (M:Md K mg cs bl) (T:TOk P w K mg base k tab) (Ck:∀x,cl.contains x=true->W1 K x=true) (Fc:FoC K C) (d:Fd) (h:KM K C d.x qual d.st) (R:MR) (n:Nat) (s0:Str) (N:List Str)
  (js:∀X:Cx,(∀e s,X.xe e s->False)->FitN ⟨tab,cs,bl⟩ ms rs cl C d.c X->∀b a o ds x,ds.length=n->R o ds=some x->ORs X C true b (F8 N.length a ds) [(a,o)] (A4 d.st) x)
  (hN:d.N=s0::N:=by rfl) (hp:d.ps.length=n+1:=by rfl) (ok:d.okB=true:=by kernel_rfl) (bd:BdM d qual:=by repeat (first|exact rfl|intro _)):MRk P w K mg base C (k+1) ((d.x,R,n)::rs):=by
 obtain⟨f,oc,od,sl,kV,dc,pm,an,cd,ct,ha,hi,l,cc,kk⟩:=h
 have Fn:=am4 l cc kk
 intro y G j e
 rw[List.lookup_cons]at e
 split at e
 ·rename_i q
  cases e
  simp only[beq_iff_eq]at q
  subst q
  exact⟨f,_,d.ps,bN2 Rk Mk M T Ck Fc d hN hp ok Fn js,⟨ha,hi,kk⟩,.all (ua (bd kV dc pm an cd ct))⟩
 ·exact Rk.mono (Nat.le_succ k) y G j e
end
end G
namespace G
open PySem PySem.Spec PyProof.Rows L2
def fsB(t k:Str):Bool:=(bm6 Str.empty [dC (.str t),dRp (A2 1)] [none,‹.str k›]).isSome
def O9(t:Str):MR:=fun o ds=>match ds with
 | [.str k]=>if(D7 o.m k).isSome=false/\fsB t k=true then some "NoName" else none
 | _=>none
def Q8(t:Str) (F1:FnD):MR:=fun o ds=>match ds with
 | [_,.str k,.str j]=>(match D7 o.m k with
  | none=>O9 t o [.str k]
  | some u=>(match D7 o.m j with
   | none=>O9 t o [.str j]
   | some l=>(match F1 [u,l] with
    | some (.bool false)=>some "NoMerge"
    | _=>none)))
 | _=>none
def t6:MR:=fun o ds=>match ds,o.b with
 | [],[]=>some "NoDeed"
 | _,_=>none
def X2:MR:=fun o ds=>match ds,o.f with
 | [],[]=>some "NoDeed"
 | _,_=>none
section
variable {X:Cx}{S:Sg}{ms:af4}{rs:an3}{cl:List Str}{C:Addr}{c:Kx}{b:Bs}{a:Addr}{o:Fo}{ds:List D}{x:Str}
theorem FitN.rai(hx:∀e s,X.xe e s->False) (F:FitN S ms rs cl C c X) (h1:cl.contains x=true) (h2:a8 c.sc x=true) (he:JE X e f) (w:f ρ=some d) (hs:starEach [e] X.env=[(false,eval e X.env)]:=by rfl):OR X C true b ρ q (.Raise (some (.Call (.Name x np) [e] [] cpos)) none pos) x:=by
 obtain⟨g1,g2⟩:=S7 F.o.fit h2
 exact bd2 hx (F.cls x h1) g1 (F.ns x) F.o.fit.calm he w g2 hs
theorem aU8(hx:∀e s,X.xe e s->False) (F:FitN S ms rs cl C c X) (hN:c.N=[("self" : Str), "name"]) (hl:W2 c=true) (h1:cl.contains ("NoName" : Str)=true) (h2:a8 c.sc "NoName" = true) (e:O9 t o ds=some x) :
  ORs X C true b (F8 1 a ds) [(a,o)] [.If (.Compare (.Name "name" p1) [.NotIn] [.Attribute (.Name "self" p2) "sheets" p3] p4) [.Raise (some (.Call (.Name "NoName" q1) [.JoinedStr [.Constant (.str t) q2 q3,.FormattedValue (.Name "name" q4) 114 none q5] q6] [] q7)) none q8] [] p5,.Return (some (.Subscript (.Attribute (.Name "self" p6) "sheets" p7) (.Name "name" p8) p9)) p10] x:=by
 unfold O9 at e
 split at e
 ·rename_i ds k
  split at e
  ·rename_i hk
   cases e
   obtain⟨d,hd⟩:=Option.isSome_iff_exists.mp hk.2
   have A:At1 X (F8 1 a [.str k]) [(a,o)] "self" 0 0 a o:=F.o.slf hl (by rw[hN];rfl) rfl rfl
   have v1:∀{pos},JE X (.Name "name" pos) (A2 1):=fun{pos}=>F.o.var hl 1 (by rw[hN];rfl)
   exact P5 (az1 hx (ay9 F.o.fit.units A F.o.foc v1 rfl) (fun _=>P5 (F.rai hx h1 h2 (cd1 (.cons k7 (.cons (cc9 v1) .nil))) hd)) fun z=>by rw[hk.1]at z;cases z)
  ·cases e
 ·cases e
theorem bv8(hx:∀e s,X.xe e s->False) (F:FitN S ms rs cl C c X) (hN:c.N=[("self" : Str), "name", "sheet"]) (hl:W2 c=true) (hf:rs.lookup ("fetch" : Str)=some (O9 t,1)) (h4:(p3.endLine==p5.line)=true) (e:O9 t o ds=some x) {r:List Stmt} :
  ORs X C true b (F8 2 a ds) [(a,o)] (.Assign [.Name "sheet" p1] (.Call (.Attribute (.Name "self" p2) "fetch" p3) [.Name "name" p4] [] p5) p6::r) x:=by
 have e0:=e
 unfold O9 at e
 split at e
 ·rename_i ds k
  have A:At1 X (F8 2 a [.str k]) [(a,o)] "self" 0 0 a o:=F.o.slf hl (by rw[hN];rfl) rfl rfl
  have v1:∀{pos},JE X (.Name "name" pos) (A2 1):=fun{pos}=>F.o.var hl 1 (by rw[hN];rfl)
  exact P5 (aH0 (ab7 hx (F.rms _ _ _ hf) F.o.foc A (by decide) (B8 v1 O4) rfl (fun s=>s) e0) rfl)
 ·cases e
theorem aW8{F1:FnD}{r:List Stmt}(hx:∀e s,X.xe e s->False) (F:FitN S ms rs cl C c X) (hN:c.N=[("self" : Str), "manner", "above", "below", "upper", "lower", "sheet"]) (hd:c.df=true) (hl:W2 c=true) (hf:rs.lookup ("fetch" : Str)=some (O9 t,1)) (hg:ms.lookup ("fetch" : Str)=some (M7,1))
  (h1:S.fn.lookup ("are_of_one_size" : Str)=some (F1,2)) (g1:a8 c.sc "are_of_one_size" = true) (h2:cl.contains ("NoMerge" : Str)=true) (g2:a8 c.sc "NoMerge" = true) (h4:(p3.endLine==p5.line)=true) (h5:(q3.endLine==q5.line)=true) (e:Q8 t F1 o ds=some x) :
  ORs X C true b (F8 6 a ds) [(a,o)] (.Assign [.Name "upper" p1] (.Call (.Attribute (.Name "self" p2) "fetch" p3) [.Name "above" p4] [] p5) p6 :: .Assign [.Name "lower" q1] (.Call (.Attribute (.Name "self" q2) "fetch" q3) [.Name "below" q4] [] q5) q6 ::
   .If (.UnaryOp .Not (.Call (.Name "are_of_one_size" r1) [.Name "upper" r2,.Name "lower" r3] [] r4) r5) [.Raise (some (.Call (.Name "NoMerge" r6) [.Constant (.str t2) r7 r8] [] r9)) none r10] [] r11::r) x:=by
 unfold Q8 at e
 split at e
 ·rename_i ds m k j
  have A:∀{ρ:Rho},V2 ρ=true->ρ[0]? = some (some (.opq a))->At1 X ρ [(a,o)] "self" 0 0 a o:=fun{ρ} z1 z2=>F.o.slf hl (by rw[hN];rfl) z2 z1
  have v2:∀{pos},JE X (.Name "above" pos) (A2 2):=fun{pos}=>F.o.var hl 2 (by rw[hN];rfl)
  have v3:∀{pos},JE X (.Name "below" pos) (A2 3):=fun{pos}=>F.o.var hl 3 (by rw[hN];rfl)
  have v4:∀{pos},JE X (.Name "upper" pos) (A2 4):=fun{pos}=>F.o.var hl 4 (by rw[hN];rfl)
  have v5:∀{pos},JE X (.Name "lower" pos) (A2 5):=fun{pos}=>F.o.var hl 5 (by rw[hN];rfl)
  split at e
  ·exact P5 (aH0 (ab7 hx (F.rms _ _ _ hf) F.o.foc (A rfl rfl) (by decide) (B8 v2 O4) rfl (fun s=>s) e) rfl)
  ·rename_i u e0
   have f1:M7 o [.str k]=some (u,o):=by unfold M7;simp only[e0,xms]
   refine az0 hx (F.o.set hd hl 4 (by rw[hN];rfl) (R4 (F.o.mts _ _ _ hg) F.o.foc (A rfl rfl) (by decide) (B8 v2 O4) rfl f1)) ?_
   split at e
   ·exact P5 (aH0 (ab7 hx (F.rms _ _ _ hf) F.o.foc (A rfl rfl) (by decide) (B8 v3 O4) rfl (fun s=>s) e) rfl)
   ·rename_i l e1
    have f2:M7 o [.str j]=some (l,o):=by unfold M7;simp only[e1,xms]
    refine az0 hx (F.o.set hd hl 5 (by rw[hN];rfl) (R4 (F.o.mts _ _ _ hg) F.o.foc (A rfl rfl) (by decide) (B8 v3 O4) rfl f2)) ?_
    split at e
    ·rename_i e2
     cases e
     refine P5 (az1 hx (c:=true) (aM9 (av0 (au9 (F.o.call h1 g1 (B8 v4 (B8 v5 O4))))) ?_) (fun _=>P5 (F.rai hx h2 g2 k7 rfl)) fun z=>by cases z)
     show Option.map _ (((F1 [u,l])).bind aF7)=_
     rw[e2];rfl
    ·cases e
 ·cases e
theorem bn9{r:List Stmt}(hx:∀e s,X.xe e s->False) (F:FitN S ms rs cl C c X) (hN:c.N=[("self" : Str), "step"]) (hl:W2 c=true) (hb:biB S c "len" "len" = true) (h2:cl.contains ("NoDeed" : Str)=true) (g2:a8 c.sc "NoDeed" = true) (e:t6 o ds=some x) :
  ORs X C true b (F8 1 a ds) [(a,o)] (.If (.Compare (.Call (.Name "len" p1) [.Attribute (.Name "self" p2) "steps_back" p3] [] p4) [.Eq] [.Constant (.int 0) p5 p6] p7) [.Raise (some (.Call (.Name "NoDeed" r6) [.Constant (.str t2) r7 r8] [] r9)) none r10] [] p8::r) x:=by
 unfold t6 at e
 split at e
 ·rename_i e0
  cases e
  have A:∀{ρ:Rho}{o:Fo},V2 ρ=true->ρ[0]? = some (some (.opq a))->At1 X ρ [(a,o)] "self" 0 0 a o:=fun{ρ o} z1 z2=>F.o.slf hl (by rw[hN];rfl) z2 z1
  obtain⟨_,l1,l2⟩:=O1 F.o.fit hb
  exact P5 (az1 hx (c:=true) (ae0 (ap9 F.o.fit.units) (au3 (A rfl rfl) F.o.foc l1 l2).oe (Q0 aa1 rfl) (by rw[e0];rfl)) (fun _=>P5 (F.rai hx h2 g2 k7 rfl)) fun z=>by cases z)
 ·cases e
theorem aU7{r:List Stmt}(hx:∀e s,X.xe e s->False) (F:FitN S ms rs cl C c X) (hN:c.N=[("self" : Str), "step"]) (hl:W2 c=true) (hb:biB S c "len" "len" = true) (h2:cl.contains ("NoDeed" : Str)=true) (g2:a8 c.sc "NoDeed" = true) (e:X2 o ds=some x) :
  ORs X C true b (F8 1 a ds) [(a,o)] (.If (.Compare (.Call (.Name "len" p1) [.Attribute (.Name "self" p2) "steps_forth" p3] [] p4) [.Eq] [.Constant (.int 0) p5 p6] p7) [.Raise (some (.Call (.Name "NoDeed" r6) [.Constant (.str t2) r7 r8] [] r9)) none r10] [] p8::r) x:=by
 unfold X2 at e
 split at e
 ·rename_i e0
  cases e
  have A:∀{ρ:Rho}{o:Fo},V2 ρ=true->ρ[0]? = some (some (.opq a))->At1 X ρ [(a,o)] "self" 0 0 a o:=fun{ρ o} z1 z2=>F.o.slf hl (by rw[hN];rfl) z2 z1
  obtain⟨_,l1,l2⟩:=O1 F.o.fit hb
  exact P5 (az1 hx (c:=true) (ae0 (ap9 F.o.fit.units) (au2 (A rfl rfl) F.o.foc l1 l2).oe (Q0 aa1 rfl) (by rw[e0];rfl)) (fun _=>P5 (F.rai hx h2 g2 k7 rfl)) fun z=>by cases z)
 ·cases e
end
end G
namespace G
open PySem PySem.Spec PyProof.Rows L2
section
variable {X:Cx}{C:Addr}{st:Stmt}{sts:List Stmt}
def aY7(f:DE) (g:D->Rho->Option Rho):UX:=fun ρ q=>(f (era ρ)).bind fun d=>(g d ρ).map fun ρ1=>.nx ρ1 q
theorem bH7(he:JE X e f) (hg:JG X tg g) (cm:Cm g) (hs:swapsWithSole [tg] e pos.line X.env=pure false) (hw:swappedStores [tg] e X.env=pure none)
  (h1:(assignEach [tg] X.env).map (·.2)=[assign tg X.env]):US X C (.Assign [tg] e pos) (aY7 f g):=fun ρ q fl w no=>by
 obtain⟨d,e1,w⟩:=Option.bind_eq_some_iff.mp w
 obtain⟨ρ1,e2,e3⟩:=Option.map_eq_some_iff.mp w
 subst e3
 refine⟨(cm [] d ρ ρ1 e2).2 _ no,fun b as l=>?_⟩
 obtain⟨c3,_⟩:=cm as d ρ ρ1 e2
 exact D9 (bb7 (he (era ρ) d e1) hg hs hw h1) fun En σ H ⟨Hf,st,k⟩=>⟨_,Hf,st.same,by rw[← W9 as ρ];exact st.sl.era,fun v H' Hf' gg r=>⟨d,sub as ρ,sub as ρ1,_,Hf',c3,gg.sub,(st.grow gg).sl,r,fun σ' sl'=>bl5 k l σ' H' Hf' ((st.grow gg).slots sl') gg.ext⟩⟩
def ax4(t:Rho->Option Bool) (f g:UD):UD:=fun ρ q=>(t (era ρ)).bind fun c=>if c then f ρ q else g ρ q
theorem bH9(hc:JT X c t) (ha:UE X C a f) (hb:UE X C b g):UE X C (.IfExp c a b pos) (ax4 t f g):=fun ρ q d q' w no=>by
 obtain⟨x,e1,w⟩:=Option.bind_eq_some_iff.mp w
 obtain⟨_,t1⟩:=ai1 (C:=C) hc ρ q x q (by unfold uTP;rw[e1];rfl) no
 cases x with
 | true =>
  obtain⟨l1,a1⟩:=ha ρ q d q' w no
  exact⟨l1,fun b as l=>B0 (ab5 (tb:=fun _ _ _=>False) (t1 b as l) (a1 b as l) (fun _ _ _ _ _ _ h=>h.elim)) fun σ H Q ⟨Hf,st,k⟩=>⟨Hf,st,fun H1 Hf1 s1 e1=>aa3 ⟨Hf1,s1,fun u H2 Hf2 s2 e2 r2=>k u H2 Hf2 s2 (e1.trans e2) r2⟩⟩⟩
 | false =>
  obtain⟨l1,a1⟩:=hb ρ q d q' w no
  exact⟨l1,fun b as l=>B0 (ab5 (ta:=fun _ _ _=>False) (t1 b as l) (fun _ _ _ _ _ _ h=>h.elim) (a1 b as l)) fun σ H Q ⟨Hf,st,k⟩=>⟨Hf,st,fun H1 Hf1 s1 e1=>aa4 ⟨Hf1,s1,fun u H2 Hf2 s2 e2 r2=>k u H2 Hf2 s2 (e1.trans e2) r2⟩⟩⟩
abbrev UC:=Rho->Fs->Option Str
def UX1(X:Cx) (C:Addr) (e:Expr) (r:UC):Prop:=∀ρ q x,r ρ q=some x->okR q.length ρ=true->∀b (as:List Addr),as.length=q.length->ORX X C false b (sub as ρ) (as.zip q) e x
def UR(X:Cx) (C:Addr) (st:Stmt) (r:UC):Prop:=∀ρ q x,r ρ q=some x->okR q.length ρ=true->∀b (as:List Addr),as.length=q.length->OR X C false b (sub as ρ) (as.zip q) st x
def URs(X:Cx) (C:Addr) (sts:List Stmt) (r:UC):Prop:=∀ρ q x,r ρ q=some x->okR q.length ρ=true->∀b (as:List Addr),as.length=q.length->ORs X C false b (sub as ρ) (as.zip q) sts x
def wNo:UC:=fun _ _=>none
theorem ax2:UX1 X C e wNo:=fun _ _ _ h=>nomatch h
theorem bW5:UR X C st wNo:=fun _ _ _ h=>nomatch h
theorem aF1:URs X C sts wNo:=fun _ _ _ h=>nomatch h
theorem aY4(h:UX1 X C e r):UR X C (.Return (some e) pos) r:=fun ρ q x w no b as l=>bM7 (h ρ q x w no b as l)
theorem aL1(h:UR X C st r):URs X C [st] r:=fun ρ q x w no b as l=>P5 (h ρ q x w no b as l)
def wM(i:Nat) (R:MR) (f:Rho->Option (List D)):UC:=fun ρ q=>(i6 i ρ q).bind fun p=>(f (era ρ)).bind fun ds=>R p.2 ds
theorem bp9{e:Expr}{es:List Expr}{f:Rho->Option (List D)}(hx:∀e s,X.xe e s->False) (i:Nat) (M:aX2 X C m n R) (c:FoC X.K C) (hn:X.N[i]? = some x) (hv:Vis X.env.scope x) (h1:(x==("__debug__" : Str))=false) (h2:(x==("__classdict__" : Str))=false) (nf:Y5 m=true) (ha:JA X (e::es) f) (hl:(apos.endLine==pos.line)=true) (hz:(e::es).length=n)
  (hst:starEach (e::es) X.env=(false,eval e X.env)::starEach es X.env) (hpl:(backTo pos (starEach es X.env)).any (·.1)=false) (hfm:methodCallForm ((e::es).length+([]:List Keyword).length) (backTo pos (starEach (e::es) X.env)) (backToKw pos (keywordEach [] X.env))=true) :
  UX1 X C (.Call (.Attribute (.Name x p) m apos) (e::es) [] pos) (wM i R f):=fun ρ q y w no b as l=>by
 obtain⟨⟨j,o⟩,e1,w⟩:=Option.bind_eq_some_iff.mp w
 obtain⟨ds,e2,e3⟩:=Option.bind_eq_some_iff.mp w
 obtain⟨a,ea,A⟩:=i5 e1 (al1 no) l hn hv h1 h2
 exact ab7 hx M c A nf ha e2 (fun s=>by rw[← W9 as ρ];exact s.era) e3 hz hst hpl hl hfm
def wM0(i:Nat) (R:MR):UC:=fun ρ q=>(i6 i ρ q).bind fun p=>R p.2 []
theorem aY0(hx:∀e s,X.xe e s->False) (i:Nat) (M:aX2 X C m 0 R) (c:FoC X.K C) (hn:X.N[i]? = some x) (hv:Vis X.env.scope x) (h1:(x==("__debug__" : Str))=false) (h2:(x==("__classdict__" : Str))=false) (nf:Y5 m=true) (hl:(apos.endLine==pos.line)=true) :
  UX1 X C (.Call (.Attribute (.Name x p) m apos) [] [] pos) (wM0 i R):=fun ρ q y w no b as l=>by
 obtain⟨⟨j,o⟩,e1,e3⟩:=Option.bind_eq_some_iff.mp w
 obtain⟨a,ea,A⟩:=i5 e1 (al1 no) l hn hv h1 h2
 exact aS5 hx M c A nf e3 hl
def h9(t:Rho->Option Bool) (f g:UC):UC:=fun ρ q=>(t (era ρ)).bind fun c=>if c then f ρ q else g ρ q
theorem bd0{as:List Addr}(hc:JT X c t) (e1:t (era ρ)=some x):OT X C b (sub as ρ) q c x q:=Z6 (hc (era ρ) x e1) fun σ H Q ⟨Hf,st,k⟩=>⟨_,Hf,st.same,by rw[← W9 as ρ];exact st.sl.era,fun H' Hf' g=>k H' Hf' (st.grow g) g.ext⟩
theorem bH1(hx:∀e s,X.xe e s->False) (hc:JT X c t) (ha:UX1 X C a f) (hb:UX1 X C b g):UX1 X C (.IfExp c a b pos) (h9 t f g):=fun ρ q y w no bb as l=>by
 obtain⟨x,e1,w⟩:=Option.bind_eq_some_iff.mp w
 intro D hD pins s σ H Hf I st
 refine wpAny_IfExp (noX hx (bd0 (as:=as) hc e1 pins s σ H (fun d' H'=>d'=x/\∃Hf',OSt X.K C bb (sub as ρ) (as.zip q) σ H' Hf') I ⟨Hf,st,fun H' Hf' st' _=>⟨rfl,Hf',st'⟩⟩) fun d' s1 ⟨H1,I1,e,Hf1,st1⟩=>?_)
 subst e
 cases d' with
 | true=>exact ha ρ q y w no bb as l D hD pins s1 σ H1 Hf1 I1 st1
 | false=>exact hb ρ q y w no bb as l D hD pins s1 σ H1 Hf1 I1 st1
theorem bW6{s1 s2:List Stmt}(hx:∀e s,X.xe e s->False) (hc:JT X c t) (ha:URs X C s1 f) (hb:URs X C s2 g):UR X C (.If c s1 s2 pos) (h9 t f g):=fun ρ q y w no bb as l=>by
 obtain⟨x,e1,w⟩:=Option.bind_eq_some_iff.mp w
 refine az1 hx (bd0 hc e1) (fun z=>?_) fun z=>?_
 ·subst z;exact ha ρ q y w no bb as l
 ·subst z;exact hb ρ q y w no bb as l
def aa6(r:UC) (f:UX) (r2:UC):UC:=fun ρ q=>match r ρ q with
 | some x=>some x
 | none=>match f ρ q with
  | some (.nx ρ' q')=>r2 ρ' q'
  | _=>none
def bF1(f:UX):Prop:=∀ρ q ρ' q',f ρ q=some (.nx ρ' q')->ρ'=ρ/\q'=q
theorem aY3(hx:∀e s,X.xe e s->False) (h1:UR X C st r) (h2:US X C st f) (kp:bF1 f) (h3:URs X C sts r2):URs X C (st::sts) (aa6 r f r2):=fun ρ q x w no b as l=>by
 unfold aa6 at w
 split at w
 ·rename_i y e
  cases w
  exact P5 (h1 ρ q x e no b as l)
 ·split at w
  ·rename_i ρ' q' e
   obtain⟨e1,e2⟩:=kp ρ q ρ' q' e
   subst e1 e2
   obtain⟨o1,a1⟩:=h2 ρ' q' _ e no
   intro D hD pins s σ H Hf I st0
   refine wpAny_execs_cons (noX hx (a1 b as l pins s σ H { nx:=fun σ' H'=>∃Hf',OSt X.K C b (sub as ρ') (as.zip q') σ' H' Hf',rt:=fun _ _=>False } I ⟨Hf,st0,fun ex σ' H' Hf' l' s' _=>⟨Hf',?_⟩⟩) fun fl s1 z=>?_)
   ·have:ex=[]:=by
     have:=l'
     rw[List.length_append,l]at this
     exact List.eq_nil_of_length_eq_zero (by omega)
    subst this
    rw[List.append_nil]at s'
    exact s'
   ·cases fl with
    | next =>
     obtain⟨σ1,H1,I1,Hf1,a1⟩:=z
     exact h3 ρ' q' x w no b as l D hD pins s1 σ1 H1 Hf1 I1 a1
    | ret v=>obtain⟨_,_,_,_,_,z⟩:=z;exact z.elim
    | brk=>obtain⟨_,_,_,z⟩:=z;exact z.elim
    | cont=>obtain⟨_,_,_,z⟩:=z;exact z.elim
  ·cases w
def aF2(r:UC) (f:UX) (i:Nat) (g:DS):UX:=fun ρ q=>match r ρ q with
 | some x=>(match g ((List.replicate ρ.length none).set i (some (.exc x))) with
  | some (.rt d)=>some (.rt d q)
  | _=>none)
 | none=>f ρ q
theorem aG2{K:PySem.W.Frag}{H0 H Hf:Hp}{σ:L2.St}:Slots K H0 (List.replicate σ.length none) σ H Hf:=by
 have no:∀(i:Nat) (b:B),(List.replicate σ.length (none:Option B))[i]?≠some (some b):=fun i b h=>by
  rw[List.getElem?_replicate]at h
  split at h<;>cases h
 exact⟨List.length_replicate,fun i b h=>(no i b h).elim,fun i j d1 d2 a h=>(no i _ h).elim⟩
theorem bH3(hx:∀e s,X.xe e s->False) (hex:X.ex=[]) (hst:X.stack=X.env::X.outer) (hfr:X.env.frame=some X.env.locals)
  (hb:USs X C body f) (hr:URs X C body r) (hgc:Gl X c) (hmc:∀D,clA X.K c=some D->X.mg c=some (.ref D)) (hdc:(c==("__debug__" : Str))=false) (hcb:W1 X.K c=true)
  (hsub:∀ρ q x,r ρ q=some x->W1 X.K x=true/\aZ9 X.K x c=true)
  (hN:X.N.Nodup) (hi:X.N[i]? = some n) (hl:X.env.scope.names.lookup n=some .local) (hh:∀a:Addr,JSs (Cx.held X (.ref a)) (b₀::suite) gd) :
  US X C (.Try body [.ExceptHandler (some (.Name c np)) (some n) (b₀::suite) hpos] [] [] pos) (aF2 r f i gd):=fun ρ q fl w no=>by
 unfold aF2 at w
 split at w
 case h_2 =>
  obtain⟨o1,a1⟩:=hb ρ q fl w no
  refine⟨o1,fun b as l pins s σ H En I hw=>wpAny_Try_except (noX hx (a1 b as l pins s σ H En I hw) fun f' s1 z=>?_)⟩
  cases f' with
  | next=>exact wpAny_execs_nil z
  | ret v=>exact z
  | brk=>exact z
  | cont=>exact z
 rename_i x er
 obtain⟨d,hd,rfl⟩:∃d,gd ((List.replicate ρ.length none).set i (some (.exc x)))=some (.rt d)/\fl=.rt d q:=by
  split at w
  ·rename_i d e;cases w;exact⟨d,e,rfl⟩
  ·cases w
 refine⟨rfl,fun bb as l pins s σ H En I hw=>?_⟩
 obtain⟨Hf,st0,ends⟩:=hw
 obtain⟨hxb,hsb⟩:=hsub ρ q x er
 obtain⟨C0,hC⟩:∃C,clA X.K x=some C:=by
  unfold W1 at hxb
  cases e:clA X.K x with
  | none=>rw[e]at hxb;cases hxb
  | some C=>exact⟨C,rfl⟩
 obtain⟨D,hD⟩:∃D,clA X.K c=some D:=by
  unfold W1 at hcb
  cases e:clA X.K c with
  | none=>rw[e]at hcb;cases hcb
  | some C=>exact⟨C,rfl⟩
 have qC:PySem.W.excIn X.K C0 veB "ValueError.__new__" = true:=by unfold W1 at hxb;rw[hC]at hxb;exact hxb
 have qD:PySem.W.excIn X.K D veB "ValueError.__new__" = true:=by unfold W1 at hcb;rw[hD]at hcb;exact hcb
 obtain⟨nm,qn,N,bs,bm,hd',sn,sub,ab,col,dd,k0,k1,k2,k3,k5,mN,c1,c2,c3,c4⟩:=am5 I.mod.kin qC
 obtain⟨nm',qn',N',bs',bm',hd'',sn',sub',ab',col',dd',j0,j1,j2,j3,j5,mN',d1,d2,d3,d4⟩:=am5 I.mod.kin qD
 have hin:(Value.ref C0::bm).contains (.ref D)=true:=by
  unfold aZ9 at hsb
  rw[hC,hD]at hsb
  dsimp only at hsb
  split at hsb
  ·rename_i lk
   have z:=I.mod.kin _ _ lk
   rw[c1]at z
   cases z
   exact hsb
  ·cases hsb
 refine wpAny_Try_except (wpAny_mono (hr ρ q x er no bb as l C0 hC pins s σ H Hf I st0) (fun _ _ z=>z.elim) fun ex s1 ho=>?_)
 obtain⟨σ1,H1,s0,I1,o⟩:=ho
 rcases o with⟨z,_⟩|hc
 ·cases z
 obtain⟨a,C',g,B,H',rfl,os,bare,un,hok,F,cE,ρ2,σ2,H2,Hf2,st2,sm⟩:=hc
 cases cE
 obtain⟨t,fl0⟩:=F.fly
 have nx:∀b:Addr,b∉([]:List Addr):=fun b z=>absurd z (by simp)
 have J:Inv X pins σ1 H' { s1 with heap:=g }:=I1.call' (s':={ s1 with heap:=g }) (ch:=[]) os un hok bare (fun b z=>absurd z (nx b))
 have key:∀h'':Heap,B.StaysIn h''->s1.heap.UpToSlots h''->Inv X pins σ1 H' { s1 with heap:=h'' }:=fun h'' k1 k2=>by
  refine bz1 (s':={ s1 with heap:=h'' }) I1 os bare un hok F.keep k1 fun b o e m=>?_
  obtain⟨z,e2⟩:=F.sl b o e m
  obtain⟨_,o',e',hd⟩:=J.stack.mem m
  have e':g.get? b=some o':=e'
  rw[e]at e';cases e'
  obtain⟨z2,q⟩:=k2 b _ e2 hd
  exact⟨z2,q⟩
 rw[hst]at fl0
 refine wpAny_looks_onW (outer:=X.outer) (by rw[← hst];exact I.ok.frames) hfr fl0 fun h4 held4 up4=>?_
 refine wpAny_landsW held4 fun h5 fl5 up5=>?_
 have I5:=key h5 fl5.1 (up4.trans up5)
 obtain⟨ob,hob,hobc⟩:=fl5.there
 refine wpAny_handleBy_cons (codeAny_handlers_test (W8 (Inv.held I5 (.ref a)) hgc (hmc D hD) ?_ hdc)) (by intro q;cases q)
 refine cj8 (I5.bk _ _ c1) (I5.bk _ _ d1) hob hobc (d4.hasType (by decide)) ?_
 rw[hin]
 refine codeAny_handlers_suite_as (lands_againW fl5 fun h6 fl6 up6=>?_)
 have I6:=key h6 fl6.1 ((up4.trans up5).trans up6)
 obtain⟨oe,ws,e6,ec6,ed6,_⟩:=fl6.first
 have nB:B.get? a=none:=fl6.2.1
 have nf:a∉frs X.stack:=fun m=>by
  obtain⟨_,o',e',hd⟩:=I6.stack.mem m
  have e':h6.get? a=some o':=e'
  rw[e6]at e';cases e'
  exact hd ws ed6
 have ng:∀o,Rl s0 H' a->g.get? a=some o->False:=fun o rr e=>by
  have:=F.keep a o rr e nf
  rw[nB]at this;cases this
 have ha:H' a=none:=by
  cases e:H' a with
  | none=>rfl
  | some o =>
   obtain⟨u,e'⟩:=N8.is (hok a o e)
   exact(ng u (.inr (by rw[e];simp)) e').elim
 have n0:s0.heap.get? a=none:=by
  cases e:s0.heap.get? a with
  | none=>rfl
  | some o =>
   obtain⟨u,e'⟩:=un.there a o e (nx a)
   exact(ng u (.inl (by rw[e];simp)) e').elim
 have n00:X.s₀.heap.get? a=none:=by
  cases e:X.s₀.heap.get? a with
  | none=>rfl
  | some o =>
   obtain⟨u,e'⟩:=I1.base.there a o e (by rw[hex];exact nx a)
   rw[n0]at e';cases e'
 have I7:Inv X pins σ1 (upd H' a (fz oe a)) { s1 with heap:=h6 }:=by
  refine Inv.track I6 ha e6 n00 (fun p hp z=>?_) (fun z=>?_) fun y cc e z=>?_
  ·have:=(I1.pin p hp).1
   rw[z,n0]at this;cases this
  ·obtain⟨m,⟨o',_,_,e',_⟩,_⟩:=I1.loc
   rw[z,n0]at e';cases e'
  ·obtain⟨v,o',e',_⟩:=I1.cell y cc e
   rw[z,n0]at e';cases e'
 have gr:Grow H2 Hf2 (upd H' a (fz oe a)) (upd Hf2 a (fz oe a)):=aI5 sm st2.same ha
 have st7:=st2.grow gr
 have ln:ρ.length=σ1.length:=by
  have h1:=st0.sl.len
  rw[List.length_map]at h1
  rw[h1,I.len,I1.len]
 rw[ln]at hd
 refine i4 (X:=Cx.held X (.ref a)) (v:=.ref a) (Inv.held I7 (.ref a)) hN hi (.inl hl) rfl (fun s8 I8=>?_) (.inr hl)
 refine wpAny_mono (hh a _ _ hd _ _ pins s8 _ _ { nx:=fun _ _=>False,rt:=fun v Hz=>∃Hf',Grow (upd H' a (fz oe a)) (upd Hf2 a (fz oe a)) Hz Hf'/\Rep X.K Hf' d v } I8 ⟨_,⟨Grow.refl gr.sub,Slots.setExc aG2 ⟨a,oe,C0,rfl,A5,hC,ec6⟩⟩,fun v H' Hf' g r=>⟨Hf',g,r⟩⟩) (fun fl' s9 z=>?_) fun e s z=>(hx e s z).elim
 cases fl' with
 | next=>obtain⟨_,_,_,z⟩:=z;exact z.elim
 | brk=>obtain⟨_,_,_,z⟩:=z;exact z.elim
 | cont=>obtain⟨_,_,_,z⟩:=z;exact z.elim
 | ret u =>
 obtain⟨v,σ9,H9,I9,rv,Hf9,g9,rp⟩:=z
 have I9:=Inv.unheld I9 I.ok
 obtain⟨m9,hn9,_⟩:=I9.loc
 refine wpAny_nameGoes (m:=m9) (by show X.env.scope.names.lookup n=_;exact hl) hn9 (by rw[I.ok.kind];rfl) fun h' m' hn' hs'=>?_
 exact⟨v,_,H9,Inv.wipe I9 hn' hs',rv,ends [] _ σ2 v H9 Hf9 (by rw[List.append_nil];exact l) (by rw[List.append_nil];exact st7.grow g9) rp⟩
end
end G
namespace G
open PySem PySem.Spec PyProof.Rows L2
theorem Slots.off{K:PySem.W.Frag}{H0 H Hf:Hp}{ρ:Rho}{σ:L2.St}(s:Slots K H0 ρ σ H Hf) (i:Nat):Slots K H0 (ρ.set i none) σ H Hf:=by
 have ne:∀(j:Nat) (b:B),(ρ.set i none)[j]? = some (some b)->ρ[j]? = some (some b):=fun j b h=>by
  rw[List.getElem?_set]at h
  split at h
  ·split at h<;>cases h
  ·exact h
 exact⟨by rw[List.length_set];exact s.len,fun j b h=>s.is j b (ne j b h),fun j k ds es c h1 h2=>s.apart j k ds es c (ne j _ h1) (ne k _ h2)⟩
structure DSt (K:PySem.W.Frag) (H0 Hf0:Hp) (ρ:Rho) (p:Addr) (m:List (D×D)) (σ:L2.St) (H Hf:Hp):Prop where
 gr:Grow H0 Hf0 H Hf
 n0:H0 p=none
 nf:Hf p=none
 di:∃kvs,H p=some (.dK kvs)/\RepKs K Hf m kvs
 sl:Slots K H0 ρ σ H Hf
section
variable {K:PySem.W.Frag}{H0 Hf0 H Hf H' Hf':Hp}{ρ:Rho}{p:Addr}{m m':List (D×D)}{σ:L2.St}
theorem bw4(g:Grow H Hf H' Hf') (nf:Hf p=none) (e:H p=some u):Hf' p=none:=Classical.byContradiction fun z=>(g.new p z).elim (fun q=>q nf) fun q=>by rw[q]at e;cases e
theorem DSt.grow(s:DSt K H0 Hf0 ρ p m σ H Hf) (g:Grow H Hf H' Hf'):DSt K H0 Hf0 ρ p m σ H' Hf':=by
 obtain⟨kvs,e,r⟩:=s.di
 exact⟨s.gr.trans g,s.n0,bw4 g s.nf e,⟨kvs,g.big _ _ e,r.mono g.ext⟩,s.sl.grow g⟩
theorem DSt.wr(s:DSt K H0 Hf0 ρ p m σ H Hf) (r:RepKs K Hf m' kvs):DSt K H0 Hf0 ρ p m' σ (upd H p (.dK kvs)) Hf:=by
 obtain⟨k0,e,_⟩:=s.di
 refine⟨⟨fun b u q=>by rw[A3 (B4 q s.n0)];exact s.gr.big b u q,fun b u q=>by rw[A3 (B4 q s.nf)];exact s.gr.sub b u q,s.gr.ext,s.gr.new⟩,s.n0,s.nf,⟨kvs,A5,r⟩,s.sl.len,fun i b z=>?_,s.sl.apart⟩
 obtain⟨v,h1,h2⟩:=s.sl.is i b z
 refine⟨v,h1,?_⟩
 cases b with
 | val d=>exact h2
 | exc C=>exact h2
 | opq _=>exact h2
 | own ds =>
  obtain⟨a',vs',y1,y2,y3,y4,y5⟩:=h2
  exact⟨a',vs',y1,by rw[A3 (t7 y2 e (by intro z;cases z))];exact y2,y3,y4,y5⟩
theorem DSt.frz(s:DSt K H0 Hf0 ρ p m σ H Hf):∃Hf',B3 Hf Hf'/\Grow H0 Hf0 H Hf'/\Rep K Hf' (.dict m) (.ref p):=by
 obtain⟨kvs,e,r⟩:=s.di
 have sm:B3 Hf (upd Hf p (.dK kvs)):=C6 s.nf
 refine⟨upd Hf p (.dK kvs),sm,⟨s.gr.big,fun b u q=>?_,s.gr.ext.trans sm,fun b z=>?_⟩,p,kvs,rfl,A5,r.mono sm⟩
 ·by_cases hb:b=p
  ·subst hb;rw[A5]at q;cases q;exact e
  ·rw[A3 hb]at q;exact s.gr.sub b u q
 ·by_cases hb:b=p
  ·subst hb;exact .inr s.n0
  ·rw[A3 hb]at z;exact s.gr.new b z
end
structure Sl1 (X:Cx) (ρ:Rho) (x:Str) (i:Nat) (p:Addr):Prop where
 n:X.N[i]? = some x
 v:Vis X.env.scope x
 d1:(x==("__debug__" : Str))=false
 d2:(x==("__classdict__" : Str))=false
 s:ρ[i]? = some (some (.opq p))
inductive DFl where
 | nx (ρ:Rho) (m:List (D×D))
 | rt (d:D)
def DFl.ends(X:Cx) (H0 Hf0:Hp) (p:Addr) (En:Ends):DFl->Prop
 | .nx ρ m=>∀σ' H' Hf',DSt X.K H0 Hf0 ρ p m σ' H' Hf'->En.nx σ' H'
 | .rt d=>∀v H' Hf',Grow H0 Hf0 H' Hf'->Rep X.K Hf' d v->En.rt v H'
def DX(X:Cx) (H0 Hf0:Hp) (ρ:Rho) (p:Addr) (m:List (D×D)) (e:Expr) (d:D) (m':List (D×D)):Prop:=PE X e (fun σ H Q=>∃Hf,DSt X.K H0 Hf0 ρ p m σ H Hf/\∀v H' Hf',DSt X.K H0 Hf0 ρ p m' σ H' Hf'->Rep X.K Hf' d v->Q v H')
def DY(X:Cx) (H0 Hf0:Hp) (ρ:Rho) (p:Addr) (m:List (D×D)) (st:Stmt) (fl:DFl):Prop:=PS X st (fun En σ H=>∃Hf,DSt X.K H0 Hf0 ρ p m σ H Hf/\fl.ends X H0 Hf0 p En)
def DYs(X:Cx) (H0 Hf0:Hp) (ρ:Rho) (p:Addr) (m:List (D×D)) (sts:List Stmt) (fl:DFl):Prop:=PSs X sts (fun En σ H=>∃Hf,DSt X.K H0 Hf0 ρ p m σ H Hf/\fl.ends X H0 Hf0 p En)
section
variable {X:Cx}{H0 Hf0:Hp}{ρ ρ':Rho}{p:Addr}{m m':List (D×D)}{x:Str}{i:Nat}{st:Stmt}{sts:List Stmt}{H Hf:Hp}{σ:L2.St}{d:D}{e:Expr}
theorem as9(s:DSt X.K H0 Hf0 ρ p m σ H Hf) (A:Sl1 X ρ x i p):σ[i]? = some (some (V.ref p)):=by
 obtain⟨v,h1,h2⟩:=s.sl.is i _ A.s
 cases h2;exact h1
theorem aP2(h:JE X e f) (w:f (ρ.set i none)=some d):DX X H0 Hf0 ρ p m e d m:=B0 (h _ d w) fun σ H Q ⟨Hf,st,k⟩=>⟨_,Hf,st.gr.sub,st.sl.off i,fun v H' Hf' g r=>k v H' Hf' (st.grow g) r⟩
theorem bS6(hu:X.A.units+64 < cLine) (A:Sl1 X ρ x i p) (he:JE X e f) (w:f (ρ.set i none)=some (.str k)) (l:D7 m k=some d) (hs:bB1 e):DX X H0 Hf0 ρ p m (.Subscript (.Name x p1) e pos) d m :=
 B0 (au0 (by omega) (P2 A.n A.v A.d1 A.d2) (he _ _ w) hs) fun σ H Q ⟨Hf,st,kk⟩=>⟨_,as9 st A,_,Hf,st.gr.sub,st.sl.off i,fun u H1 Hf1 g1 r1=>by
  cases r1
  have s1:=st.grow g1
  obtain⟨kvs,e1,r2⟩:=s1.di
  rcases r2.look k with⟨l1,_⟩|⟨d',v,l1,l2,l3⟩
  ·rw[l]at l1;cases l1
  ·rw[l]at l1;cases l1
   exact⟨p,v,rfl,(by have:=Z0.k (k:=Sum.inr k) e1;rw[l2]at this;exact this),kk v H1 Hf1 s1 l3⟩⟩
theorem bS5(A:Sl1 X ρ x i p) (he:JE X e f) (w:f (ρ.set i none)=some (.str k)) (l:D7 m k=some d) (mm:M1 X (.Name x p1) "pop" apos e cpos):DX X H0 Hf0 ρ p m (.Call (.Attribute (.Name x p1) "pop" apos) [e] [] cpos) d (u6 m k) :=
 B0 (ay6 (P2 A.n A.v A.d1 A.d2) (he _ _ w) mm) fun σ H Q ⟨Hf,st,kk⟩=>by
  obtain⟨k0,e0,_⟩:=st.di
  refine⟨_,as9 st A,p,rfl,.inl ⟨k0,.inl e0⟩,_,Hf,st.gr.sub,st.sl.off i,fun u H1 Hf1 g1 r1=>?_⟩
  cases r1
  have s1:=st.grow g1
  obtain⟨kvs,e1,r2⟩:=s1.di
  rcases r2.look k with⟨l1,_⟩|⟨d',v,l1,l2,l3⟩
  ·rw[l]at l1;cases l1
  ·rw[l]at l1;cases l1
   exact⟨kvs,Sum.inr k,v,e1,rfl,l2,kk v _ Hf1 (s1.wr r2.drop) l3⟩
theorem bl6(hu:X.A.units+64 < cLine) (A:Sl1 X ρ x i p) (he:JE X e f) (w:f (ρ.set i none)=some (.str k)) (hv:JE X v g) (wv:g (ρ.set i none)=some d) (hz:m.length < 1000)
  (hs:swapsWith v (some (.Subscript (.Name x p1) e pos')) pos2.line X.env=pure false):DY X H0 Hf0 ρ p m (.Assign [.Subscript (.Name x p1) e pos'] v pos2) (.nx ρ (i8 m k d)) :=
 D9 (aM4 (by omega) (P2 A.n A.v A.d1 A.d2) (he _ _ w) (hv _ _ wv) hs) fun En σ H ⟨Hf,st,kk⟩=>⟨_,Hf,st.gr.sub,st.sl.off i,fun u H1 Hf1 g1 r1=>⟨_,as9 (st.grow g1) A,_,Hf1,g1.sub,(st.grow g1).sl.off i,fun y H2 Hf2 g2 r2=>by
  cases r2
  have s2:=(st.grow g1).grow g2
  obtain⟨kvs,e1,r3⟩:=s2.di
  have lz:kvs.length=m.length:=RepKs.length r3
  exact⟨p,_,rfl,aX3.k (k:=Sum.inr k) e1 (by rw[lz];exact Q5 (Nat.le_of_lt hz)),kk σ _ Hf2 (s2.wr (r3.put (r1.mono g2.ext)))⟩⟩⟩
theorem aJ0(A:Sl1 X ρ x i p) (h:DX X H0 Hf0 ρ p m e d m') (hs:starEach [e,.Name x p1] X.env=(false,eval e X.env)::starEach [.Name x p1] X.env):DY X H0 Hf0 ρ p m (.Return (some (.Tuple [e,.Name x p1] k p2)) pos) (.rt (.tuple [d,.dict m'])) :=
 D9 (ad9 (aG9 (E2 h (E2 (P2 A.n A.v A.d1 A.d2) M3 rfl) hs))) fun En σ H ⟨Hf,st,kk⟩=>⟨Hf,st,fun v H1 Hf1 s1 r1=>by
  refine⟨_,as9 s1 A,by show 2<=_;decide,fun a ha=>?_⟩
  obtain⟨Hf2,sm,g,rp⟩:=s1.frz
  have g2:Grow H1 Hf2 (upd H1 a (.tup [v,.ref p])) (upd Hf2 a (.tup [v,.ref p])):=Grow.laid g.sub ha
  exact kk _ _ _ (g.trans g2) ⟨a,_,rfl,SqT.of A5,v,_,rfl,(r1.mono sm).mono g2.ext,_,_,rfl,rp.mono g2.ext,rfl⟩⟩
theorem aP1(h:JE X e f) (w:f (ρ.set i none)=some d):DY X H0 Hf0 ρ p m (.Return (some e) pos) (.rt d):=D9 (ad9 (aP2 h w)) fun En σ H ⟨Hf,st,kk⟩=>⟨Hf,st,fun v H1 Hf1 s1 r1=>kk v H1 Hf1 s1.gr r1⟩
theorem ag6{s1 s2:List Stmt}(t:JT X e c) (w:c (ρ.set i none)=some b) (h1:b=true->DYs X H0 Hf0 ρ p m s1 fl) (h2:b=false->DYs X H0 Hf0 ρ p m s2 fl):DY X H0 Hf0 ρ p m (.If e s1 s2 pos) fl:=by
 cases b with
 | true=>exact D9 (ag1 (t _ _ w) (h1 rfl) K3) fun En σ H ⟨Hf,st,k⟩=>⟨_,Hf,st.gr.sub,st.sl.off i,fun H' Hf' g=>aa3 ⟨Hf',st.grow g,k⟩⟩
 | false=>exact D9 (ag1 (t _ _ w) K3 (h2 rfl)) fun En σ H ⟨Hf,st,k⟩=>⟨_,Hf,st.gr.sub,st.sl.off i,fun H' Hf' g=>aa4 ⟨Hf',st.grow g,k⟩⟩
theorem aj0:DYs X H0 Hf0 ρ p m [] (.nx ρ m):=O3 ai2 fun En σ H ⟨Hf,st,k⟩=>k σ H Hf st
theorem ai9(h:DY X H0 Hf0 ρ p m st fl):DYs X H0 Hf0 ρ p m [st] fl:=m8 h
theorem V8(h:DY X H0 Hf0 ρ p m st (.nx ρ' m')) (r:DYs X H0 Hf0 ρ' p m' sts fl):DYs X H0 Hf0 ρ p m (st::sts) fl :=
 O3 (M0 h r) fun En σ H ⟨Hf,s,k⟩=>⟨Hf,s,fun σ' H' Hf' s'=>⟨Hf',s',k⟩⟩
theorem am6(h:DY X H0 Hf0 ρ p m st (.rt d)):DYs X H0 Hf0 ρ p m (st::sts) (.rt d) :=
 O3 (M0 h K3) fun En σ H ⟨Hf,s,k⟩=>⟨Hf,s,k⟩
theorem ce2(h:JS X st f) (w:f ρ=some (.nx ρ')):DY X H0 Hf0 ρ p m st (.nx ρ' m):=fun pins s σ H En I ⟨Hf,st0,k⟩=>by
 obtain⟨kvs,e,r⟩:=st0.di
 have g0:Grow (upd H0 p (.dK kvs)) Hf0 H Hf:=⟨fun b u q=>by
  by_cases hb:b=p
  ·subst hb;rw[A5]at q;rw[← q];exact e
  ·rw[A3 hb]at q;exact st0.gr.big b u q,st0.gr.sub,st0.gr.ext,fun b z=>(st0.gr.new b z).imp id fun q=>by
  rw[A3 fun hb=>by subst hb;exact z st0.nf];exact q⟩
 have hf0:Hf0 p=none:=st0.gr.ext.free st0.nf
 refine h ρ _ w (upd H0 p (.dK kvs)) Hf0 pins s σ H En I ⟨Hf,⟨g0,st0.sl.len,fun i b z=>?_,st0.sl.apart⟩,fun σ' H' Hf' a sm=>k σ' H' Hf' ?_⟩
 ·obtain⟨v,h1,h2⟩:=st0.sl.is i b z
  refine⟨v,h1,?_⟩
  cases b with
  | val d=>exact h2
  | exc C=>exact h2
  | opq _=>exact h2
  | own ds =>
   obtain⟨a',vs',y1,y2,y3,y4,y5⟩:=h2
   exact⟨a',vs',y1,y2,y3,by rw[A3 (t7 y2 e (by intro z;cases z))];exact y4,y5⟩
 ·have big:∀b u,H0 b=some u->H' b=some u:=fun b u q=>a.gr.big b u (by rw[A3 (B4 q st0.n0)];exact q)
  refine⟨⟨big,a.gr.sub,a.gr.ext,fun b z=>(a.gr.new b z).imp id fun q=>?_⟩,st0.n0,?_,⟨kvs,a.gr.big _ _ A5,r.mono sm⟩,a.sl.len,fun i b z=>?_,a.sl.apart⟩
  ·by_cases hb:b=p
   ·subst hb;exact st0.n0
   ·rw[A3 hb]at q;exact q
  ·exact Classical.byContradiction fun z=>(a.gr.new p z).elim (fun q=>q hf0) fun q=>by rw[A5]at q;cases q
  ·obtain⟨v,h1,h2⟩:=a.sl.is i b z
   refine⟨v,h1,?_⟩
   cases b with
   | val d=>exact h2
   | exc C=>exact h2
   | opq _=>exact h2
   | own ds =>
    obtain⟨a',vs',y1,y2,y3,y4,y5⟩:=h2
    refine⟨a',vs',y1,y2,y3,?_,y5⟩
    by_cases hb:a'=p
    ·subst hb;exact st0.n0
    ·rw[A3 hb]at y4;exact y4
theorem aD7:m4 X (.type "dict") (fun xs H Q=>∃p kvs,xs=[.ref p]/\H p=some (.dK kvs)/\∀l,H l=none->Q (.ref l) (upd H l (.dK kvs))):=by
 intro pins s σ H vs us Q I rv ⟨p,kvs,e0,e1,k⟩
 subst e0
 obtain⟨u,rfl,rx⟩:=ak3 rv
 cases rx
 exact bm5 I (.inl e1) fun l s' hl I'=>⟨.ref l,_,I',rfl,k l hl⟩
theorem bb6(hN:X.N.Nodup) (hi:X.N[i]? = some x) (hx:Loc X.env.scope x) (hf:X.fn x=true\/X.env.scope.names.lookup x=some .local) (hg:Gl X "dict") (hm:X.mg "dict" = none) (he:JE X e f) (w:f ρ=some (.dict m)) (hst:starEach [e] X.env=[(false,eval e X.env)])
  (hs:swapsWith (.Call (.Name "dict" p1) [e] [] p2) (some (.Name x pos')) pos.line X.env=pure false) :
  PS X (.Assign [.Name x pos'] (.Call (.Name "dict" p1) [e] [] p2) pos) (fun En σ H=>∃Hf,At X.K H0 Hf0 ρ σ H Hf/\∀l σ' H' Hf',DSt X.K H0 Hf0 (ρ.set i (some (.opq l))) l m σ' H' Hf'->En.nx σ' H') :=
 D9 (ak8 hN hi hx (ap5 aD7 hg hm bA1 (E2 (he ρ _ w) M3 hst) (he:=hst) (hpl:=rfl)) hs hf) fun En σ H ⟨Hf,a,k⟩=>⟨_,Hf,a.gr.sub,a.sl,fun v H1 Hf1 g1 r1=>by
  obtain⟨y,kvs,rfl,e1,r2⟩:=r1
  refine⟨y,kvs,rfl,g1.sub _ _ e1,fun l hl=>k l _ _ Hf1 ?_⟩
  have a1:=a.grow g1
  have g2:Grow H1 Hf1 (upd H1 l (.dK kvs)) Hf1:=Grow.made g1.sub hl
  refine⟨a1.gr.trans g2,?_,g1.sub.free hl,⟨kvs,A5,r2⟩,(a1.sl.grow g2).setO⟩
  cases e:H0 l with
  | none=>rfl
  | some u=>have:=a1.gr.big l u e;rw[hl]at this;cases this⟩
end
end G
namespace G
open PySem PySem.Spec PyProof.Rows L2
def nx9(m:List (D×D)) (w s:Option B) (k j:Str) (d:D) (mn x7 x8:Option B):Rho:=[‹.dict m›,w,s,‹.str k›,‹.str j›,‹d›,mn,x7,x8]
structure NxQ where
 m:List (D×D)
 w:Option B
 s:Option B
 k:Str
 j:Str
 d:D
 mn:Option B
abbrev NxQ.r(q:NxQ) (x7 x8:Option B):Rho:=nx9 q.m q.w q.s q.k q.j q.d q.mn x7 x8
def as8:Stmt->Expr
 | .If t _ _ _=>t
 | _=>.Constant .none 0 ⟨0,0,0,0⟩
def bC5:Stmt->Expr
 | .If _ [.Return (some e) _] _ _=>e
 | _=>.Constant .none 0 ⟨0,0,0,0⟩
def bJ3:Stmt->Expr
 | .If _ [_,.Return (some (.Tuple (e::_) _ _)) _] _ _=>e
 | _=>.Constant .none 0 ⟨0,0,0,0⟩
def bY3:Stmt->Expr
 | .Assign _ v _=>v
 | _=>.Constant .none 0 ⟨0,0,0,0⟩
def nxR:Fl->Option NxQ
 | .nx [‹.dict m›,w,s,‹.str k›,‹.str j›,‹d›,mn,none,none]=>some ⟨m,w,s,k,j,d,mn⟩
 | _=>none
theorem bO1(h:nxR fl=some q):fl=.nx (q.r none none):=by
 unfold nxR at h
 split at h
 ·cases h;rfl
 ·cases h
def nxF(S0:DS) (T0 T1 T2 T3:DT) (R0 R1 R3:DE) (Fs:Rho->Option (List D)) (E5:DE):FnD:=fun ds=>((S0 (P8 9 ds)).bind nxR).bind fun q =>
 (T0 (q.r none none)).bind fun c0=>if c0 then(if q.m.length < 1000 then(R0 (q.r none none)).map fun r=>.tuple [r,.dict (i8 q.m q.k q.d)] else none) else
 (T1 (q.r none none)).bind fun c1=>if c1 then R1 (q.r none none) else
 (T2 (q.r none none)).bind fun c2=>if c2 then(D7 q.m q.k).map fun r=>.tuple [r,.dict (u6 q.m q.k)] else
 (T3 (q.r none none)).bind fun c3=>if c3 then R3 (q.r none none) else
 (Fs (q.r none none)).bind fun sp=>(E5 (q.r none (‹.list sp›))).bind fun e5=>if q.m.length < 1000 then(D7 (i8 q.m q.j e5) q.j).map fun r=>.tuple [r,.dict (i8 q.m q.j e5)] else none
section
variable {P:Program}{w:World}{K:PySem.W.Frag}{mg:Str->Option Value}{base:Heap}{cs:List (Str×D)}{bl:List Str}{tab:Tab}{s0 sp:Stmt}{t0 t1 t2 t3 r0 r1 r3 e5:Expr}{S0:DS}{T0 T1 T2 T3:DT}{R0 R1 R3 E5:DE}{Fs:Rho->Option (List D)}
theorem TOk.addNx(T:TOk P w K mg base k tab) (M:Md K mg cs bl) (d:Fd) (h:KF K d.x d.st) (S0:DS) (T0 T1 T2 T3:DT) (R0 R1 R3:DE) (Fs:Rho->Option (List D)) (E5:DE)
  (hb:A4 d.st=[s0,.Assign [.Name "_law_more" a1] (.Call (.Name "dict" a2) [.Name "_law_held" a3] [] a4) a5,
   .If t0 [.Assign [.Subscript (.Name "_law_more" b1) (.Name "_law_name" b2) b3] (.Name "_law_sheet_here" b4) b5,.Return (some (.Tuple [r0,.Name "_law_more" b6] b7 b8)) b9] [] b10,
   .If t1 [.Return (some r1) c1] [] c2,
   .If t2 [.Return (some (.Tuple [.Call (.Attribute (.Name "_law_more" d1) "pop" d2) [.Name "_law_name" d3] [] d4,.Name "_law_more" d5] d6 d7)) d8] [] d9,
   .If t3 [.Return (some r3) c3] [] c4,sp,
   .Assign [.Subscript (.Name "_law_more" f1) (.Name "_law_other" f2) f3] e5 f4,
   .Return (some (.Tuple [.Subscript (.Name "_law_more" g1) (.Name "_law_other" g2) g3,.Name "_law_more" g4] g5 g6)) g7])
  (hN:d.N=[("_law_held" : Str), "_law_way", "_law_some", "_law_name", "_law_other", "_law_sheet_here", "_law_manner", "_law_more", "_law_spots"])
  (x0:xS ⟨tab,cs,bl⟩ (ev ⟨tab,cs,bl⟩ 99) d.c s0=S0) (x1:(ev ⟨tab,cs,bl⟩ 99).t d.c t0=T0) (x2:(ev ⟨tab,cs,bl⟩ 99).t d.c t1=T1) (x3:(ev ⟨tab,cs,bl⟩ 99).t d.c t2=T2) (x4:(ev ⟨tab,cs,bl⟩ 99).t d.c t3=T3)
  (x5:(ev ⟨tab,cs,bl⟩ 99).e d.c r0=R0) (x6:(ev ⟨tab,cs,bl⟩ 99).e d.c r1=R1) (x7:(ev ⟨tab,cs,bl⟩ 99).e d.c r3=R3) (x8:xS ⟨tab,cs,bl⟩ (ev ⟨tab,cs,bl⟩ 99) d.c sp=c9 8 Fs) (x9:(ev ⟨tab,cs,bl⟩ 99).e d.c e5=E5)
  (hF:∀m w s k j d mn p,Fs (nx9 m w s k j d mn (some (.opq p)) none)=Fs (nx9 m w s k j d mn none none))
  (hl:(d.c.N.all fun x=>ak2 d.c.sc x)=true) (hv:(d.c.N.all fun x=>aA8 d.c x)=true) (hd:biB ⟨tab,cs,bl⟩ d.c "dict" "dict" = true) (p1:pl r0=true) (p2:isC e5=false) (l1:(d2.endLine==d4.line)=true)
  (hp:d.ps.length=3:=by rfl) (ok:d.okB=true:=by kernel_rfl) (bd:Bd d:=by repeat (first|exact rfl|intro _)):TOk P w K mg base (k+1) ((d.x,nxF S0 T0 T1 T2 T3 R0 R1 R3 Fs E5,3)::tab):=by
 obtain⟨f,kV,dc,pm,an,cd,ct,Fn,hm⟩:=al7 h M
 have Sc:=Fd.sc ok
 refine(T.mono (Nat.le_succ k)).cons ⟨f,_,d.ps,?_,hm,Fn.kp,.all (ua (bd kV dc pm an cd ct))⟩
 refine Fn.ok Sc (fun vs H Q E h=>by rw[h.1,hp]) fun cdv A outer s H vs Q E hr hsp=>?_
 obtain⟨hlen,Hf,ds,r,ss,rp,e,kk⟩:=hsp
 generalize hX:(l7 CX0 P w K mg base d.N d.x (A7 d.st) f cdv A outer s H E).nox=X
 have F:Fit ⟨tab,cs,bl⟩ d.c X:=by
  subst hX
  refine⟨rfl,rfl,Sc.nd,rfl,rfl,hr.units,fun _=>⟨fun _=>rfl,Sc.kind⟩,fun x F n h=>?_,M.css,M.bls⟩
  exact(T x F n h).imp (fun⟨f',fd',ps,h1,h2,h3,h4⟩=>⟨k,f',fd',ps,h1,hr,h2,h3,h4⟩) id
 have eK:X.K=K:=by subst hX;rfl
 subst eK
 obtain⟨_,di1,di2⟩:=O1 F hd
 have nd:X.N.Nodup:=by rw[F.N];exact F.nd
 have XN:X.N=[("_law_held" : Str), "_law_way", "_law_some", "_law_name", "_law_other", "_law_sheet_here", "_law_manner", "_law_more", "_law_spots"]:=by rw[F.N];exact hN
 have vis:∀y∈d.N,Vis X.env.scope y/\(y==("__debug__" : Str))=false/\(y==("__classdict__" : Str))=false:=fun y hy=>by
  exact S6 F (List.all_eq_true.mp hl y hy)
 have vr:∀(i:Nat) (y:Str),X.N[i]? = some y->y∈d.N->∀{pos},JE X (.Name y pos) (A2 i):=fun i y hi hy {pos}=>by
  obtain⟨v1,v2,v3⟩:=vis y hy
  exact av1 i hi v1 v2 v3
 have v0:∀{pos},JE X (.Name "_law_held" pos) (A2 0):=fun{pos}=>vr 0 _ (by rw[XN];rfl) (by rw[hN];simp)
 have v3:∀{pos},JE X (.Name "_law_name" pos) (A2 3):=fun{pos}=>vr 3 _ (by rw[XN];rfl) (by rw[hN];simp)
 have v4:∀{pos},JE X (.Name "_law_other" pos) (A2 4):=fun{pos}=>vr 4 _ (by rw[XN];rfl) (by rw[hN];simp)
 have v5:∀{pos},JE X (.Name "_law_sheet_here" pos) (A2 5):=fun{pos}=>vr 5 _ (by rw[XN];rfl) (by rw[hN];simp)
 have n7:X.N[7]? = some ("_law_more" : Str):=by rw[XN];rfl
 obtain⟨u1,u2,u3⟩:=vis "_law_more" (by rw[hN];simp)
 obtain⟨lo1,lo2⟩:=ac0 F (List.all_eq_true.mp hv "_law_more" (by show("_law_more" : Str)∈d.N;rw[hN];simp))
 have js:∀st,JS X st (xS ⟨tab,cs,bl⟩ (ev ⟨tab,cs,bl⟩ 99) d.c st):=bB4 (V7 _ 99) F
 have je:∀e,JE X e ((ev ⟨tab,cs,bl⟩ 99).e d.c e):=(V7 _ 99).e F
 have jt:∀e,JT X e ((ev ⟨tab,cs,bl⟩ 99).t d.c e):=(V7 _ 99).t F
 have y0:=x0 ▸ js s0
 have y1:=x1 ▸ jt t0
 have y2:=x2 ▸ jt t1
 have y3:=x3 ▸ jt t2
 have y4:=x4 ▸ jt t3
 have y5:=x5 ▸ je r0
 have y6:=x6 ▸ je r1
 have y7:=x7 ▸ je r3
 have y8:=x8 ▸ js sp
 have y9:=x9 ▸ je e5
 obtain⟨⟨m,ww,sv,ka,ja,dd,mn⟩,e1,e⟩:=Option.bind_eq_some_iff.mp e
 obtain⟨fl,e2,e3⟩:=Option.bind_eq_some_iff.mp e1
 have e3:=bO1 e3
 subst e3
 dsimp only[NxQ.r]at e2 e
 rw[hb]
 have body:∀p,DYs X H Hf (nx9 m ww sv ka ja dd mn (some (.opq p)) none) p m
   [.If t0 [.Assign [.Subscript (.Name "_law_more" b1) (.Name "_law_name" b2) b3] (.Name "_law_sheet_here" b4) b5,.Return (some (.Tuple [r0,.Name "_law_more" b6] b7 b8)) b9] [] b10,
   .If t1 [.Return (some r1) c1] [] c2,
   .If t2 [.Return (some (.Tuple [.Call (.Attribute (.Name "_law_more" d1) "pop" d2) [.Name "_law_name" d3] [] d4,.Name "_law_more" d5] d6 d7)) d8] [] d9,
   .If t3 [.Return (some r3) c3] [] c4,sp,
   .Assign [.Subscript (.Name "_law_more" f1) (.Name "_law_other" f2) f3] e5 f4,
   .Return (some (.Tuple [.Subscript (.Name "_law_more" g1) (.Name "_law_other" g2) g3,.Name "_law_more" g4] g5 g6)) g7] (.rt r):=fun p=>by
  have Z:∀x8,Sl1 X (nx9 m ww sv ka ja dd mn (some (.opq p)) x8) "_law_more" 7 p:=fun x8=>⟨n7,u1,u2,u3,rfl⟩
  obtain⟨b0,w0,e⟩:=Option.bind_eq_some_iff.mp e
  cases b0 with
  | true =>
   rw[if_pos rfl]at e
   split at e
   ·rename_i hz
    obtain⟨rr,w1,w2⟩:=Option.map_eq_some_iff.mp e
    subst w2
    exact am6 (ag6 (i:=7) y1 w0 (fun _=>V8 (bl6 F.units (Z none) v3 rfl v5 rfl hz rfl) (ai9 (aJ0 (Z none) (aP2 (i:=7) y5 w1) (E1 p1 _ _)))) fun z=>by cases z)
   ·cases e
  | false =>
  rw[if_neg (by simp)]at e
  refine V8 (ag6 (i:=7) y1 w0 (fun z=>by cases z) fun _=>aj0) ?_
  obtain⟨b0,w1,e⟩:=Option.bind_eq_some_iff.mp e
  cases b0 with
  | true =>
   rw[if_pos rfl]at e
   exact am6 (ag6 (i:=7) y2 w1 (fun _=>ai9 (aP1 (i:=7) y6 e)) fun z=>by cases z)
  | false =>
  rw[if_neg (by simp)]at e
  refine V8 (ag6 (i:=7) y2 w1 (fun z=>by cases z) fun _=>aj0) ?_
  obtain⟨b0,w2,e⟩:=Option.bind_eq_some_iff.mp e
  cases b0 with
  | true =>
   rw[if_pos rfl]at e
   obtain⟨rr,w3,w4⟩:=Option.map_eq_some_iff.mp e
   subst w4
   exact am6 (ag6 (i:=7) y3 w2 (fun _=>ai9 (aJ0 (Z none) (bS5 (Z none) v3 rfl w3 ⟨rfl,rfl,l1,rfl⟩) rfl)) fun z=>by cases z)
  | false =>
  rw[if_neg (by simp)]at e
  refine V8 (ag6 (i:=7) y3 w2 (fun z=>by cases z) fun _=>aj0) ?_
  obtain⟨b0,w3,e⟩:=Option.bind_eq_some_iff.mp e
  cases b0 with
  | true =>
   rw[if_pos rfl]at e
   exact am6 (ag6 (i:=7) y4 w3 (fun _=>ai9 (aP1 (i:=7) y7 e)) fun z=>by cases z)
  | false =>
  rw[if_neg (by simp)]at e
  refine V8 (ag6 (i:=7) y4 w3 (fun z=>by cases z) fun _=>aj0) ?_
  obtain⟨spv,w4,e⟩:=Option.bind_eq_some_iff.mp e
  obtain⟨ev5,w5,e⟩:=Option.bind_eq_some_iff.mp e
  split at e
  ·rename_i hz
   obtain⟨rr,w6,w7⟩:=Option.map_eq_some_iff.mp e
   subst w7
   have w8:c9 8 Fs (nx9 m ww sv ka ja dd mn (some (.opq p)) none)=some (.nx (nx9 m ww sv ka ja dd mn (some (.opq p)) (‹.list spv›))):=by
    unfold c9
    rw[hF,w4];rfl
   exact V8 (ce2 y8 w8) (V8 (bl6 F.units (Z _) v4 rfl y9 w5 hz (j4 p2 _ _ _)) (am6 (aJ0 (Z _) (bS6 F.units (Z _) v4 rfl w6 fun _ _=>rfl) rfl)))
  ·cases e
 refine⟨_,M0 (y0 _ _ e2 H Hf) (M0 (bb6 nd n7 lo1 lo2 di1 di2 v0 rfl rfl rfl) (bb4 body)),Hf,⟨Grow.refl ss,by have z:=W3 (K:=X.K) (H0:=H) (H:=H) (N:=d.N) rp;rw[show d.N.length=9 by rw[hN];rfl]at z;exact z⟩,fun σ1 H1 Hf1 a1 _=>⟨Hf1,a1,fun l σ2 H2 Hf2 s2=>⟨l,Hf2,s2,fun v H3 Hf3 g3 rv=>kk v H3 Hf3 g3 rv⟩⟩⟩
end
end G
namespace G
open PySem PySem.Spec PyProof.Rows L2
structure Og2 where
 ms:af4
 rm:an3
 cl:Str
 df:List (Str×DF×Nat×Nat)
 T:Rg
abbrev Og2.og(O:Og2):Og:=⟨O.ms,[],O.cl,O.df,false⟩
structure FitV (S:Sg) (O:Og2) (C:Addr) (c:Kx) (X:Cx):Prop where
 u:FitU S O.og C c X
 rm:∀m R n,O.rm.lookup m=some (R,n)->aX2 X C m n R
 r:FitR S O.T c X
 ex:X.ex=[]
 stk:X.stack=X.env::X.outer
 frm:X.env.frame=some X.env.locals
def aC8(f:DE):DE:=fun ρ=>(f ρ).bind fun d=>match d with
 | .dict m=>(ax9 (m.map (·.1))).map PyData.list
 | _=>none
theorem by0{X:Cx}(hc:X.calm=true) (hg:Gl X "sorted") (hm:X.mg "sorted" = none) (he:JE X e f) (hst:starEach [e] X.env=[(false,eval e X.env)]):JE X (.Call (.Name "sorted" p) [e] [] pos) (aC8 f):=fun ρ d q=>by
 obtain⟨y,h1,h2⟩:=Option.bind_eq_some_iff.mp q
 cases y with
 | dict m =>
  obtain⟨out,e3,e4⟩:=Option.map_eq_some_iff.mp h2
  subst e4
  refine B0 (Q9 (ar1 hc) hg hm (by rfl) (E2 (he ρ _ h1) M3 hst) (he:=hst) (hpl:=rfl)) fun σ H Q ⟨H0,Hf,ss,sl,k⟩=>⟨H0,Hf,ss,sl,fun v H1 Hf1 g1 r1=>?_⟩
  obtain⟨a,kvs,rfl,e1,rk⟩:=r1
  refine⟨a,kvs,Hf1,m,out,rfl,g1.sub _ _ e1,rk,e3,fun l us hl rs hz=>?_⟩
  have g2:Grow H1 Hf1 (upd H1 l (.lst us)) (upd Hf1 l (.lst us)):=Grow.laid g1.sub hl
  exact k _ _ _ (g1.trans g2) ⟨l,us,rfl,SqL.of A5,rs.mono g2.ext⟩
 | _=>cases h2
def ifE:Expr->Option (Expr×Expr×Expr×Pos)
 | .IfExp t a b p=>some (t,a,b,p)
 | _=>none
theorem bj4(h:ifE e=some t):e=.IfExp t.1 t.2.1 t.2.2.1 t.2.2.2:=by cases e<;>first|(cases h;rfl)|cases h
def ifR:Stmt->Option (Expr×Expr×Pos×Pos)
 | .If t [.Return (some e) p] [] q=>some (t,e,p,q)
 | _=>none
theorem bj3{s:Stmt}(h:ifR s=some t):s=.If t.1 [.Return (some t.2.1) t.2.2.1] [] t.2.2.2:=by
 unfold ifR at h
 split at h
 ·cases h;rfl
 ·cases h
section
variable (S:Sg) (O:Og2) (c:Kx)
def vqS(e:Expr):Option Expr:=(bn3 e).bind fun t=>match t.2.1,t.2.2.1 with
 | [a],[]=>(nmP t.1).bind fun v=>if biB S c "sorted" v.1&&pl a then some a else none
 | _,_=>none
def vqP(e:Expr):DE:=match vqS S c e with
 | some a=>aC8 (pE S c a)
 | none=>pE S c e
def vqO(r:Expr->Option UD) (e:Expr):UD:=(r e).getD (uP (vqP S c e))
def bW2(r:Expr->Option UD) (e:Expr):Option UD:=match bz9 e with
 | some t=>if(r t.1).isSome || (r t.2.2.1).isSome then some (oCc (vqO S c r) t) else none
 | none=>(match ifE e with
  | some t=>if(r t.2.1).isSome || (r t.2.2.1).isSome then some (ax4 ((ev S 99).t c t.1) (vqO S c r t.2.1) (vqO S c r t.2.2.1)) else none
  | none=>none)
def vqX:Nat->Expr->Option UD
 | 0,_=>none
 | n+1,e=>match oM S O.og c e with
  | some g=>some g
  | none=>(match oDf S O.og c e with
   | some g=>some g
   | none=>bW2 S c (vqX n) e)
def vqE(e:Expr):UD:=vqO S c (vqX S O c 3) e
def vqT(e:Expr):UB:=match bz9 e with
 | some t=>if(vqX S O c 2 t.1).isSome || (vqX S O c 2 t.2.2.1).isSome then uTB (oCc (vqO S c (vqX S O c 2)) t) else uTP ((ev S 99).t c e)
 | none=>uTP ((ev S 99).t c e)
def wMc(t:Mc):UC:=match X7 t.x c.N with
 | some i=>(match O.rm.lookup t.m with
  | some R=>if oMb c t R.2 then(match t.a with
   | []=>wM0 i R.1
   | _=>wM i R.1 (evA (pE S c) t.a)) else wNo
  | none=>wNo)
 | none=>wNo
def wX:Nat->Expr->UC
 | 0,_=>wNo
 | n+1,e=>match mcV e with
  | some t=>wMc S O c t
  | none=>(match ifE e with
   | some t=>h9 ((ev S 99).t c t.1) (wX n t.2.1) (wX n t.2.2.1)
   | none=>wNo)
def wR:Stmt->UC
 | .Return (some e) _=>wX S O c 3 e
 | _=>wNo
def wS(s:Stmt):UC:=match ifR s with
 | some t=>h9 ((ev S 99).t c t.1) (wX S O c 3 t.2.1) wNo
 | none=>wR S O c s
def wB:List Stmt->UC
 | []=>wNo
 | [s]=>wS S O c s
 | s::t::r=>(match ifR s with
  | some u=>aa6 (wS S O c s) (uIf (uTP ((ev S 99).t c u.1)) (P0 (vqE S O c u.2.1)) O8) (wB (t::r))
  | none=>wNo)
def ax0(l:List Str) (r:UC):UC:=fun ρ q=>(r ρ q).bind fun x=>if l.contains x then some x else none
def bG6(f:UX) (body:List Stmt):List ExceptHandler->UX
 | [h]=>(match hnd h with
  | some (y,some n,b0,suite)=>(match O.T.sb.lookup y with
   | some l=>(match X7 n c.N with
    | some i=>if a8 c.sc y&&c.sc.names.lookup n==some .local then aF2 (ax0 l (wB S O c body)) f i (evB (hvS S O.T c) (b0::suite)) else uXo
    | none=>uXo)
   | none=>uXo)
  | _=>uXo)
 | _=>uXo
def vqN(v:Expr):Bool:=match bn3 v with
 | some t=>(match t.2.1,t.2.2.1 with
  | [],[]=>(match nmP t.1 with
   | some x=>x.1==O.cl&&a8 c.sc x.1
   | none=>false)
  | _,_=>false)
 | none=>false
def bH0(v:Expr):List Expr->UX
 | [tg]=>(match nmP tg with
  | some t=>(match X7 t.1 c.N with
   | some i=>if aA8 c t.1 && !(isC v) then(if vqN O c v then bI1 i (fun _=>some fo0) else M5 i (vqE S O c v)) else uXo
   | none=>uXo)
  | none=>(match bX1 tg with
   | some t=>if u4 v then uXo else aY7 (pE S c v) ((ev S 98).g c tg)
   | none=>uXo))
 | _=>uXo
def bW4(tg it:Expr) (f:UX):List Stmt->UX
 | []=>if pl it then aF3 (evI S (ev S 98) c tg it) ((ev S 98).g c tg) f else uXo
 | _=>uXo
def bW3:Option Expr->UX
 | some e=>P0 (vqE S O c e)
 | none=>uXo
def as3:Nat->Stmt->UX
 | 0,_=>uXo
 | n+1,st=>match st with
  | .Return o _=>bW3 S O c o
  | .If t a b _=>uIf (vqT S O c t) (oB (as3 n) a) (oB (as3 n) b)
  | .For tg it a o _=>bW4 S c tg it (oB (as3 n) a) o
  | .Assign ts v _=>bH0 S O c v ts
  | .Try a hs [] [] _=>bG6 S O c (oB (as3 n) a) a hs
  | _=>uXo
end
section
variable {X:Cx}{S:Sg}{O:Og2}{C:Addr}{c:Kx}
theorem bG8(F:FitV S O C c X) (e:Expr):JE X e (vqP S c e):=by
 unfold vqP
 split
 ·rename_i a h
  obtain⟨⟨f,as,kw,p⟩,h1,h0⟩:=Option.bind_eq_some_iff.mp h
  rw[aj5 h1]
  dsimp only at h0 ⊢
  split at h0
  ·obtain⟨⟨x,px⟩,h2,h3⟩:=Option.bind_eq_some_iff.mp h0
   split at h3
   ·rename_i hb
    cases h3
    simp only[Bool.and_eq_true]at hb
    obtain⟨k0,k1,k2⟩:=O1 F.u.o.fit hb.1
    rw[j6 h2]
    dsimp only at k0 ⊢
    rw[k0]
    exact by0 F.u.o.fit.calm k1 k2 (ap7 F.u _) (E1 hb.2 [] _)
   ·cases h3
  ·cases h0
 ·exact ap7 F.u e
theorem ad6(F:FitV S O C c X) {r:Expr->Option UD}(R:∀e g,r e=some g->UE X C e g) (e:Expr):UE X C e (vqO S c r e):=by
 unfold vqO
 cases h:r e with
 | none=>exact bq2 (bG8 F e)
 | some g=>exact R e g h
theorem bO0(F:FitV S O C c X) {r:Expr->UD}(R:∀e,UE X C e (r e)) (t:Expr×CmpOp×Expr×Pos):UE X C (.Compare t.1 [t.2.1] [t.2.2.1] t.2.2.2) (oCc r t):=by
 unfold oCc
 split
 ·rename_i k hk
  split
  ·exact bB9
  ·rename_i hm
   exact bI0 (bd7 F.u hk) (R _) (R _) (by simpa using hm)
 ·exact bB9
theorem ad5(F:FitV S O C c X):∀n e g,vqX S O c n e=some g->UE X C e g
 | 0,e,g,h=>by cases h
 | n+1,e,g,h=>by
  unfold vqX at h
  split at h
  ·rename_i g1 h1
   cases h
   exact ca9 F.u h1
  ·split at h
   ·rename_i g1 h1
    cases h
    exact bN9 F.u h1
   ·unfold bW2 at h
    split at h
    ·rename_i t ht
     rw[aQ1 ht]
     split at h
     ·cases h
      exact bO0 F (ad6 F (ad5 F n)) t
     ·cases h
    ·split at h
     ·rename_i t ht
      rw[bj4 ht]
      split at h
      ·cases h
       exact bH9 ((V7 S 99).t F.u.o.fit _) (ad6 F (ad5 F n) _) (ad6 F (ad5 F n) _)
      ·cases h
     ·cases h
theorem aF0(F:FitV S O C c X) (e:Expr):UE X C e (vqE S O c e):=ad6 F (ad5 F 3) e
theorem bG7(F:FitV S O C c X) (e:Expr):UT X C e (vqT S O c e):=by
 unfold vqT
 split
 ·rename_i t ht
  split
  ·rw[aQ1 ht]
   unfold oCc
   split
   ·rename_i k hk
    split
    ·exact fun _ _ _ _ h _=>nomatch h
    ·rename_i hm
     exact bH2 (bd7 F.u hk) (ad6 F (ad5 F 2) _) (ad6 F (ad5 F 2) _) (by simpa using hm)
   ·exact fun _ _ _ _ h _=>nomatch h
  ·exact ai1 ((V7 S 99).t F.u.o.fit e)
 ·exact ai1 ((V7 S 99).t F.u.o.fit e)
theorem bG5(F:FitV S O C c X) (t:Mc):UX1 X C (.Call (.Attribute (.Name t.x t.p) t.m t.ap) t.a [] t.cp) (wMc S O c t):=by
 unfold wMc
 split
 ·rename_i i hi
  split
  ·rename_i R hR
   split
   ·rename_i hb
    unfold oMb at hb
    simp only[Bool.and_eq_true,beq_iff_eq,decide_eq_true_eq]at hb
    obtain⟨⟨⟨⟨⟨b1,b2⟩,b3⟩,b4⟩,b5⟩,b6⟩:=hb
    obtain⟨v1,v2,v3⟩:=S6 F.u.o.fit b1
    have M:=F.rm _ _ _ hR
    obtain⟨x,p,m,ap,a,cp⟩:=t
    obtain⟨R,n⟩:=R
    dsimp only at *
    cases a with
    | nil =>
     cases b5
     exact aY0 F.u.o.fit.hx i M F.u.o.foc (F.u.o.fit.slot hi) v1 v2 v3 b2 (by simpa using b3)
    | cons e es =>
     have b4':=b4
     simp only[List.all_cons,Bool.and_eq_true]at b4'
     exact bp9 F.u.o.fit.hx i M F.u.o.foc (F.u.o.fit.slot hi) v1 v2 v3 b2 (t9 (ap7 F.u) (e::es)) (by simpa using b3) b5 (E1 b4'.1 _ _) ((V9 cp _).trans (Q2 cp _ b4'.2)) (bk8 b4 (by rw[b5];exact b6))
   ·exact ax2
  ·exact ax2
 ·exact ax2
theorem aK7(F:FitV S O C c X):∀n e,UX1 X C e (wX S O c n e)
 | 0,e=>ax2
 | n+1,e=>by
  unfold wX
  split
  ·rename_i t ht
   rw[bf5 ht]
   exact bG5 F t
  ·split
   ·rename_i t ht
    rw[bj4 ht]
    exact bH1 F.u.o.fit.hx ((V7 S 99).t F.u.o.fit _) (aK7 F n _) (aK7 F n _)
   ·exact ax2
theorem bW1(F:FitV S O C c X) (s:Stmt):UR X C s (wR S O c s):=by
 unfold wR
 split
 ·exact aY4 (aK7 F 3 _)
 ·exact bW5
theorem bB6(F:FitV S O C c X) (s:Stmt):UR X C s (wS S O c s):=by
 unfold wS
 split
 ·rename_i t ht
  rw[bj3 ht]
  exact bW6 F.u.o.fit.hx ((V7 S 99).t F.u.o.fit _) (aL1 (aY4 (aK7 F 3 _))) aF1
 ·exact bW1 F s
theorem bg5{t:DT}{f:UD}:bF1 (uIf (uTP t) (P0 f) O8):=fun ρ q ρ' q' h=>by
 obtain⟨⟨b,q1⟩,h1,h2⟩:=Option.bind_eq_some_iff.mp h
 obtain⟨b',h3,h4⟩:=Option.map_eq_some_iff.mp h1
 cases h4
 cases b with
 | true =>
  rw[if_pos rfl]at h2
  obtain⟨_,_,h5⟩:=Option.map_eq_some_iff.mp h2
  cases h5
 | false =>
  rw[if_neg (by simp)]at h2
  cases h2
  exact⟨rfl,rfl⟩
theorem bB7(F:FitV S O C c X):∀sts,URs X C sts (wB S O c sts)
 | []=>aF1
 | [s]=>aL1 (bB6 F s)
 | s::t::r=>by
  show URs X C _ (match ifR s with
   | some u=>aa6 (wS S O c s) (uIf (uTP ((ev S 99).t c u.1)) (P0 (vqE S O c u.2.1)) O8) (wB S O c (t::r))
   | none=>wNo)
  split
  ·rename_i u hu
   refine aY3 F.u.o.fit.hx (bB6 F s) ?_ bg5 (bB7 F (t::r))
   rw[bj3 hu]
   exact bB8 (ai1 ((V7 S 99).t F.u.o.fit _)) (aK9 (aY2 (aF0 F _))) aL0
  ·exact aF1
theorem bp7(F:FitV S O C c X) (body:List Stmt) (f:UX) (hf:USs X C body f) (hs:List ExceptHandler) (p:Pos):US X C (.Try body hs [] [] p) (bG6 S O c f body hs):=by
 unfold bG6
 split
 ·split
  ·rename_i y n b0 suite e
   obtain⟨np,hp,rfl⟩:=bR8 e
   split
   ·rename_i l hl
    split
    ·rename_i i hi
     split
     ·rename_i h
      simp only[Bool.and_eq_true,beq_iff_eq]at h
      obtain⟨g1,g2⟩:=S7 F.u.o.fit h.1
      obtain⟨c1,c2⟩:=F.r.sbs y l hl
      refine bH3 F.u.o.fit.hx F.ex F.stk F.frm hf (fun ρ q x w=>?_) g1 (fun D hD=>F.r.ns y D hD) g2 c1 (fun ρ q x w=>?_) (by rw[F.u.o.fit.N];exact F.u.o.fit.nd) (F.u.o.fit.slot hi) (by rw[F.u.o.fit.sc];exact h.2) fun a=>ae5 (bR7 F.r a) (b0::suite)
      ·obtain⟨x',w1,w2⟩:=Option.bind_eq_some_iff.mp w
       split at w2
       ·cases w2;exact bB7 F body ρ q _ w1
       ·cases w2
      ·obtain⟨x',w1,w2⟩:=Option.bind_eq_some_iff.mp w
       split at w2
       ·rename_i hc;cases w2;exact c2 _ (List.contains_iff_mem.mp hc)
       ·cases w2
     ·exact V0
    ·exact V0
   ·exact V0
  ·exact V0
 ·exact V0
theorem bG9(F:FitV S O C c X) (h:vqN O c v=true):UN X C v (fun _=>some fo0):=by
 unfold vqN at h
 split at h
 ·rename_i t ht
  obtain⟨f,a,k,p⟩:=t
  rw[aj5 ht]
  dsimp only at h ⊢
  split at h
  ·split at h
   ·rename_i x hx
    simp only[Bool.and_eq_true,beq_iff_eq]at h
    obtain⟨g1,g2⟩:=S7 F.u.o.fit h.2
    rw[j6 hx]
    have:=F.u.make
    rw[show O.og.cl=x.1 from h.1.symm]at this
    exact bq1 this g1 g2
   ·cases h
  ·cases h
 ·cases h
theorem bp8(F:FitV S O C c X) (v:Expr) (ts:List Expr) (p:Pos):US X C (.Assign ts v p) (bH0 S O c v ts):=by
 have nd:X.N.Nodup:=by rw[F.u.o.fit.N];exact F.u.o.fit.nd
 unfold bH0
 split
 ·rename_i tg
  split
  ·rename_i t ht
   rw[j6 ht]
   split
   ·rename_i i hi
    split
    ·rename_i h
     simp only[Bool.and_eq_true,Bool.not_eq_true']at h
     obtain⟨l1,l2⟩:=ac0 F.u.o.fit h.1
     split
     ·rename_i hn
      exact bH5 i nd (bG9 F hn) (F.u.o.fit.slot hi) l1 (j4 h.2 _ _ _) l2
     ·exact bH4 i nd (aF0 F v) (F.u.o.fit.slot hi) l1 (j4 h.2 _ _ _) l2
    ·exact V0
   ·exact V0
  ·split
   ·rename_i t ht
    split
    ·exact V0
    ·rename_i h
     have h:u4 v=false:=by simpa using h
     have hg:=(V7 S 98).g F.u.o.fit tg
     have cm:=bn0 S 98 c tg
     obtain⟨es,kt,pt⟩:=t
     have:=bq7 ht
     subst this
     refine bH7 (ap7 F.u v) hg cm ?_ (be7 h _ _ _ _) rfl
     cases v<;>rfl
   ·exact V0
 ·exact V0
theorem as1(F:FitV S O C c X):∀n st,US X C st (as3 S O c n st)
 | 0,st=>V0
 | n+1,st=>by
  have ih:=aN5 (as1 F n)
  unfold as3
  split
  ·unfold bW3
   split
   ·exact aY2 (aF0 F _)
   ·exact V0
  ·exact bB8 (bG7 F _) (ih _) (ih _)
  ·rename_i tg it a o p
   unfold bW4
   split
   ·split
    ·rename_i h;exact bH6 (bE0 (V7 S 98) F.u.o.fit _ _) ((V7 S 98).g F.u.o.fit _) (bn0 S 98 c tg) (ih _) F.u.o.fit.po F.u.o.fit.calm (aM5 h _)
    ·exact V0
   ·exact V0
  ·exact bp8 F _ _ _
  ·exact bp7 F _ _ (ih _) _ _
  ·exact V0
end
end G
namespace G
open PySem PySem.Spec PyProof.Rows L2
section
variable {P:Program}{w:World}{K:PySem.W.Frag}{mg:Str->Option Value}{base:Heap}{cs:List (Str×D)}{bl:List Str}{C:Addr}{tab:Tab}{O:Og2}
structure VOk (P:Program) (w:World) (K:PySem.W.Frag) (mg:Str->Option Value) (base:Heap) (C:Addr) (k:Nat) (tab:Tab) (O:Og2):Prop where
 u:UOk P w K mg base C k tab O.og
 r:MRk P w K mg base C k O.rm
 f:TRk P w K mg base k O.T.rf
 x:TXk P w K mg base k O.T.xf
 c:Cl K mg O.T
theorem ce0{f:Addr}{cdv:Value}{A:Around}{outer:List Env}{s:Shared}{H:Hp}{E:XK}(M:Md K mg cs bl) (V:VOk P w K mg base C k tab O) (Fc:FoC K C) {d:Fd}(ok:d.okB=true) (hr:Room k (A.deeper (envOfC d.x (A7 d.st) s.heap.objs.size f cdv))) :
  FitV ⟨tab,cs,bl⟩ O C d.c (l7 CX0 P w K mg base d.N d.x (A7 d.st) f cdv A outer s H E).nox:=by
 have U:=cj7 (outer:=outer) (H:=H) (E:=E) M V.u Fc ok hr
 refine⟨U,fun m R n h=>?_,⟨U.o.fit,fun x C h=>aJ6 M h,fun x R n h=>?_,V.c.cls,V.c.tbs,V.c.sbs,V.c.nbs,fun x F h=>?_⟩,rfl,rfl,rfl⟩
 ·obtain⟨f',fd',ps,h1,h2,h3⟩:=V.r m R n h
  exact⟨k,f',fd',ps,h1,hr,h2,h3⟩
 ·obtain⟨f',fd',ps,h1,h2,h3,h4⟩:=V.f x R n h
  exact⟨k,f',fd',ps,h1,hr,h2,h3,h4⟩
 ·obtain⟨f',fd',ps,h1,h2,h3,h4⟩:=V.x x F h
  exact⟨k,f',fd',ps,h1,⟨hr.dp,hr.un⟩,h2,h3,h4⟩
def rdW(tab:Tab) (cs:List (Str×D)) (bl:List Str) (O:Og2) (d:Fd):DF:=ba8 (oB (as3 ⟨tab,cs,bl⟩ O d.c 9) (A4 d.st)) d.N.length
def rdV(tab:Tab) (cs:List (Str×D)) (bl:List Str) (O:Og2) (d:Fd):FnD:=bs3 (oB (as3 ⟨tab,cs,bl⟩ O d.c 9) (A4 d.st)) d.N.length
theorem VOk.addD(V:VOk P w K mg base C k tab O) (M:Md K mg cs bl) (Fc:FoC K C) (d:Fd) (h:KF K d.x d.st) (F:DF) (j:Nat) (e:rdW tab cs bl O d=F:=by kernel_rfl) (ok:d.okB=true:=by kernel_rfl) (bd:Bd d:=by repeat (first|exact rfl|intro _)):VOk P w K mg base C (k+1) tab { O with df:=(d.x,F,d.ps.length,j)::O.df }:=by
 subst e
 obtain⟨f,kV,dc,pm,an,cd,ct,Fn,hm⟩:=al7 h M
 have Sc:=Fd.sc ok
 have U:=V.u.mono (Nat.le_succ k)
 refine⟨⟨U.t,U.m,U.f,U.i,U.n,fun y G n j e=>?_,U.w⟩,V.r.mono (Nat.le_succ k),V.f.mono (Nat.le_succ k),V.x.mono (Nat.le_succ k),V.c⟩
 replace e:List.lookup y ((d.x,_,d.ps.length,_)::O.df)=_:=e
 rw[List.lookup_cons]at e
 split at e
 ·rename_i q
  cases e
  simp only[beq_iff_eq]at q
  subst q
  exact⟨f,_,d.ps,bk6 (N:=d.N) Fn Sc fun cdv A outer s H E hr=>aN5 (as1 (ce0 M V Fc ok hr) 9) _,hm,Fn.kp,.all (ua (bd kV dc pm an cd ct))⟩
 ·exact U.d y G n j e
theorem bg0(M:Md K mg cs bl) (Fc:FoC K C) (V:∀base:Heap,VOk P w K mg base C k tab O) (d:Fd) (h:KF K d.x d.st) (e:rdV tab cs bl O d=F) (hm:mg d.x=some (.ref fa)) (hp:d.ps=[x]:=by rfl) (ok:d.okB=true:=by kernel_rfl) (bd:Bd d:=by repeat (first|exact rfl|intro _)) :
  ∃fd:FuncData,(∀(s:Shared) (u:Value),BindsTo s fd ⟨[u],[]⟩ [(x,u)])/\∀base:Heap,FnOk P w K mg base CX0 (k+1) fa fd [x] (spF K 1 F):=by
 subst e
 obtain⟨f,kV,dc,pm,an,cd,ct,Fn,hm'⟩:=al7 h M
 cases hm.symm.trans hm'
 have Sc:=Fd.sc ok
 refine⟨PySem.W.fnOf d.x d.x (R6 d.st) (A4 d.st) (A7 d.st) .none kV dc pm an cd ct,fun s u=>.of_eq ?_,fun base=>?_⟩
 ·have:=ua (bd kV dc pm an cd ct) [u] (by rw[hp];rfl)
  rw[hp]at this
  exact this
 ·have:=bk5 (N:=d.N) (ps:=d.ps) (g:=oB (as3 ⟨tab,cs,bl⟩ O d.c 9) (A4 d.st)) Fn Sc fun cdv A outer s H E hr=>aN5 (as1 (ce0 M (V base) Fc ok hr) 9) _
  rw[hp]at this
  exact this
theorem VOk.start{ms:af4}{cl:Str}{T:Rg}(U:UOk P w K mg base C k tab ⟨ms,[],cl,[],false⟩) (R:MRk P w K mg base C j rs) (f:TRk P w K mg base j2 T.rf) (x:TXk P w K mg base j3 T.xf) (c:Cl K mg T) (h1:j<=k) (h2:j2<=k) (h3:j3<=k):VOk P w K mg base C k tab ⟨ms,rs,cl,[],T⟩ :=
 ⟨U,R.mono h1,f.mono h2,x.mono h3,c⟩
end
end G
namespace Lk71
open PySem PySem.Spec PyProof.Rows L2 G Sh
def top(i:Nat):Stmt:=PySem.Challenge.pw_glazework_k71_folios.main.body.getD i (.Pass ⟨0,0,0,0⟩)
def X1:DS:=(L8 (bz7 (A9 eqD (dIx (C2 0) ⇑0) (dIx (C2 1) ⇑0)) (A9 eqD (dIx (C2 0) ⇑1) (dIx (C2 1) ⇑1))))
def A8:List D->Option D:=U3 X1 2
def F9:Str->Option D:=bJ8 (O0 (Q7 1 (ao5 (A0 (aJ2 0 fun x=>([("NoDeed", false),("NoMerge", false),("NoName", true)]:List (Str×Bool)).lookup x) (A0 (aJ2 0 fun x=>([("NoDeed", false),("NoMerge", true),("NoName", false)]:List (Str×Bool)).lookup x) (A0 (aJ2 0 fun x=>([("NoDeed", true),("NoMerge", false),("NoName", false)]:List (Str×Bool)).lookup x) A6))))) (O0 (sIf (as5 (tB2 neD (aJ3 (A2 1) (dC (.bool true))) ⇑1) (ax8 (as4 (aJ2 0 fun x=>([("NoDeed", true),("NoMerge", true),("NoName", true)]:List (Str×Bool)).lookup x)))) (L8 (O7 (A0 (dC (.str "refused")) (A0 (bz6 ⇑1) A6)))) o8) (L8 (O7 (A0 (dC (.str "refused")) (A0 (aw0 (A2 1) (dC (.bool true))) A6)))))) 2
def bo2:UX:=(D8 (aY7 (A2 2) (T7 4 (G0 (N9 3) (G0 (N9 4) (G0 (N9 5) (G0 (N9 6) V5)))))) (aF2 (ax0 ["NoDeed", "NoMerge", "NoName"] (aa6 (h9 (tB2 eqD (A2 1) ⇑0) wNo wNo) (uIf (uTP (tB2 eqD (A2 1) ⇑0)) (P0 (uM 0 ao3 (A0 (A2 3) (A0 (A2 5) A6)))) O8) (aa6 (h9 (tB2 ltI (A2 1) ⇑3) (h9 (tB2 eqD (A2 1) ⇑1) (wM 0 (O9 "no sheet is by the name ") (A0 (A2 3) A6)) (wM 0 (Q8 "no sheet is by the name " A8) (A0 (A2 6) (A0 (A2 3) (A0 (A2 4) A6))))) wNo) (uIf (uTP (tB2 ltI (A2 1) ⇑3)) (P0 (ax4 (tB2 eqD (A2 1) ⇑1) (uM 0 ao2 (A0 (A2 3) A6)) (uM 0 (X5 A8 C3) (A0 (A2 6) (A0 (A2 3) (A0 (A2 4) A6)))))) O8) (aa6 (h9 (tB2 eqD (A2 1) ⇑3) (wM0 0 t6) wNo) (uIf (uTP (tB2 eqD (A2 1) ⇑3)) (P0 (uM0 0 t8)) O8) (h9 (tB2 eqD (A2 1) ⇑4) (wM0 0 X2) (wM 0 (O9 "no sheet is by the name ") (A0 (A2 3) A6))))))) (D8 (uIf (uTP (tB2 eqD (A2 1) ⇑0)) (P0 (uM 0 ao3 (A0 (A2 3) (A0 (A2 5) A6)))) O8) (D8 (uIf (uTP (tB2 ltI (A2 1) ⇑3)) (P0 (ax4 (tB2 eqD (A2 1) ⇑1) (uM 0 ao2 (A0 (A2 3) A6)) (uM 0 (X5 A8 C3) (A0 (A2 6) (A0 (A2 3) (A0 (A2 4) A6)))))) O8) (D8 (uIf (uTP (tB2 eqD (A2 1) ⇑3)) (P0 (uM0 0 t8)) O8) (P0 (ax4 (tB2 eqD (A2 1) ⇑4) (uM0 0 k4) (uM 0 M7 (A0 (A2 3) A6))))))) 7 (L8 (ae9 7 F9))))
def C4:DF:=ba8 bo2 8
def bD5:DS:=(ba6 (A2 2) (T7 4 (G0 (N9 3) (G0 (N9 4) (G0 (N9 5) (G0 (N9 6) V5))))))
def ab8:DT:=(tB2 eqD (A2 1) ⇑0)
def az5:DT:=(as5 (tB2 (G.inK true) (A2 3) (A2 0)) (ap0 (tB2 eqD (A2 1) ⇑2) (tB2 (G.inK true) (A2 4) (A2 0))))
def aq1:DT:=(tB2 eqD (A2 1) ⇑1)
def az4:DT:=(tB2 neD (ah9 (l6 (A2 0) (A2 3)) W6 (W5 ⇑2)) (ah9 (l6 (A2 0) (A2 4)) W6 (W5 ⇑2)))
def aN7:DE:=(A9 (G.inK false) (A2 3) (A2 0))
def az6:DE:=(O7 (A0 (O7 (A0 (dC (.str "refused")) (A0 ⇑0 A6))) (A0 (dC .none) A6)))
def aN6:DE:=(O7 (A0 (O7 (A0 (dC (.str "refused")) (A0 ⇑1 A6))) (A0 (dC .none) A6)))
def az7:Rho->Option (List D):=(R5 2 [6] (ah7 (qE (dIx (qE (l6 (A2 0) (A2 3))) ⇑2)) (qE (dIx (qE (l6 (A2 0) (A2 4))) ⇑2))) (T7 2 (G0 (N9 0) (G0 (N9 1) V5))) U2 (B1 U9 (A0 (A2 2) (A0 (A2 0) (A0 (A2 1) A6)))))
def az8:DE:=(A9 P3 (ah9 (l6 (A2 0) (A2 3)) W6 (W5 ⇑2)) (O7 (A0 (ac6 (C2 8)) A6)))
def O2:FnD:=nxF bD5 ab8 az5 aq1 az4 aN7 az6 aN6 az7 az8
def bF2:UX:=(D8 (bI1 1 (fun _=>some fo0)) (D8 (M5 2 (uP (ao5 (A0 (O7 (A0 (dC (.str "")) (A0 (dC (.dict (mgD []))) A6))) A6)))) (D8 (M5 3 (uP ⇑0)) (D8 (aF3 (V4 (ac7 ⇑1 (aq8 ⇑8 (l5 (C2 0))))) (N9 4) (D8 (M5 5 (uP (A9 X3 ⇑130 (A2 4)))) (D8 (M5 6 (uP (dIx (qE (dIx (C2 2) (A2 3))) ⇑1))) (D8 (M5 7 (uP (dIx (qN (A0 ⇑0 (A0 ⇑0 (A0 ⇑0 (A0 ⇑1 (A0 ⇑2 (A0 ⇑2 (A0 ⇑2 (A0 ⇑3 (A0 ⇑4 A6)))))))))) (B1 B5 (A0 (A2 0) (A0 (A2 5) (A0 ⇑9 A6))))))) (D8 (M5 8 (uP (dIx (qN (A0 (dC (.str "a")) (A0 (dC (.str "bo")) (A0 (dC (.str "zzzzzz")) A6)))) (B1 B5 (A0 (A2 0) (A0 (A9 P3 (A2 5) ⇑1) (A0 ⇑3 A6))))))) (D8 (M5 9 (uP (dIx (qN (A0 (dC (.str "a")) (A0 (dC (.str "bo")) (A0 (dC (.str "zzzzzz")) A6)))) (B1 B5 (A0 (A2 0) (A0 (A9 P3 (A2 5) ⇑2) (A0 ⇑3 A6))))))) (D8 (M5 10 (uP (dIx (qN (A0 (dC (.str "over")) (A0 (dC (.str "multiply")) (A0 (dC (.str "screen")) (A0 (dC (.str "plus")) (A0 (dC (.str "atop")) (A0 (dC (.str "cut")) A6))))))) (B1 B5 (A0 (A2 0) (A0 (A9 P3 (A2 5) ⇑3) (A0 ⇑6 A6))))))) (D8 (M5 11 (uP (O7 (A0 (A2 8) (A0 (A2 9) (A0 (B1 U8 (A0 (A2 0) (A0 (A9 P3 (A2 5) ⇑5) (A0 ⇑2 (A0 (A9 P3 ⇑1 (B1 B5 (A0 (A2 0) (A0 (A9 P3 (A2 5) ⇑4) (A0 ⇑2 A6))))) A6))))) (A0 (A2 10) A6))))))) (D8 (uIf (uTP (tB2 gtI (A2 7) ⇑2)) (D8 (M5 12 (uP (X8 (tB2 eqD (A2 7) ⇑3) (A9 aa9 (A2 3) ⇑1) (A9 P3 (A2 3) ⇑1)))) (D8 (M5 13 (uP (X8 (ah4 (X9 leI ltI ⇑0 (A2 12) (l5 (C2 2)))) (dIx (qE (dIx (C2 2) (ac7 (A2 3) (A2 12)))) ⇑0) (O7 (A0 (dC (.str "refused")) (A0 ⇑2 A6)))))) (M5 3 (uP (X8 (ah4 (X9 leI ltI ⇑0 (A2 12) (l5 (C2 2)))) (A2 12) (A2 3)))))) (D8 (aY7 (B1 O2 (A0 (A2 6) (A0 (A2 7) (A0 (A2 11) A6)))) (T7 2 (G0 (N9 13) (G0 (N9 14) V5)))) (uIf (uTP (tB2 aT1 (A2 14) (dC .none))) (D8 (M5 2 (uP (A9 P3 (ah9 (A2 2) W6 (W5 (A9 P3 (A2 3) ⇑1))) (ao5 (A0 (O7 (A0 (dIx (qN (A0 (dC (.str "lay")) (A0 (dC (.str "take")) (A0 (dC (.str "blend")) A6)))) (A2 7)) (A0 (A2 14) A6))) A6))))) (M5 3 (uP (A9 P3 (A2 3) ⇑1)))) O8))) (D8 (uIf (uTB (uB2 neD (uD 1 C4 (mO (mC (A2 7) (mC (A2 11) mN)))) (uP (A2 13)))) (P0 (uP (dC (.bool false)))) O8) (D8 (uIf (uTB (uB2 neD (uM0 1 Z8) (uP (O7 (A0 (A2 3) (A0 (A9 aa9 (A9 aa9 (l5 (C2 2)) ⇑1) (A2 3)) A6)))))) (P0 (uP (dC (.bool false)))) O8) (D8 (M5 6 (uP (dIx (qE (dIx (C2 2) (A2 3))) ⇑1))) (D8 (uIf (uTB (uB2 neD (uM0 1 j9) (uP (aC8 (A2 6))))) (P0 (uP (dC (.bool false)))) O8) (aF3 (aI3 (O7 (A0 (dC (.str "a")) (A0 (dC (.str "bo")) (A0 (dC (.str "zzzzzz")) (A0 (dC (.str "c")) A6)))))) (N9 15) (uIf (uTB (uB2 neD (uD 1 C4 (mO (mC ⇑5 (mC (O7 (A0 (A2 15) (A0 (dC (.str "")) (A0 (dC .none) (A0 (dC (.str "")) A6))))) mN)))) (uP (aC9 (A2 6) (A2 15) (O7 (A0 (dC (.str "refused")) (A0 ⇑0 A6))))))) (P0 (uP (dC (.bool false)))) O8))))))))))))))) (P0 (uP (dC (.bool true))))))))
def aE2:List D->Option D:=bs3 bF2 16
end Lk71
namespace Lk71
open PySem G L2 Sh
abbrev ms:Str := "no sheet is by the name "
def tR:UC:=(aa6 (h9 (tB2 eqD (A2 1) ⇑0) wNo wNo) (uIf (uTP (tB2 eqD (A2 1) ⇑0)) (P0 (uM 0 ao3 (A0 (A2 3) (A0 (A2 5) A6)))) O8) (aa6 (h9 (tB2 ltI (A2 1) ⇑3) (h9 (tB2 eqD (A2 1) ⇑1) (wM 0 (O9 "no sheet is by the name ") (A0 (A2 3) A6)) (wM 0 (Q8 "no sheet is by the name " A8) (A0 (A2 6) (A0 (A2 3) (A0 (A2 4) A6))))) wNo) (uIf (uTP (tB2 ltI (A2 1) ⇑3)) (P0 (ax4 (tB2 eqD (A2 1) ⇑1) (uM 0 ao2 (A0 (A2 3) A6)) (uM 0 (X5 A8 C3) (A0 (A2 6) (A0 (A2 3) (A0 (A2 4) A6)))))) O8) (aa6 (h9 (tB2 eqD (A2 1) ⇑3) (wM0 0 t6) wNo) (uIf (uTP (tB2 eqD (A2 1) ⇑3)) (P0 (uM0 0 t8)) O8) (h9 (tB2 eqD (A2 1) ⇑4) (wM0 0 X2) (wM 0 (O9 "no sheet is by the name ") (A0 (A2 3) A6))))))
def tF:UX:=(D8 (uIf (uTP (tB2 eqD (A2 1) ⇑0)) (P0 (uM 0 ao3 (A0 (A2 3) (A0 (A2 5) A6)))) O8) (D8 (uIf (uTP (tB2 ltI (A2 1) ⇑3)) (P0 (ax4 (tB2 eqD (A2 1) ⇑1) (uM 0 ao2 (A0 (A2 3) A6)) (uM 0 (X5 A8 C3) (A0 (A2 6) (A0 (A2 3) (A0 (A2 4) A6)))))) O8) (D8 (uIf (uTP (tB2 eqD (A2 1) ⇑3)) (P0 (uM0 0 t8)) O8) (P0 (ax4 (tB2 eqD (A2 1) ⇑4) (uM0 0 k4) (uM 0 M7 (A0 (A2 3) A6)))))))
abbrev r8(w:Int) (n t s m:D):Rho:=[some (.opq 0),‹.int w›,‹.tuple [n,t,s,m]›,‹n›,‹t›,‹s›,‹m›,none]
abbrev e8(w:Int) (n t s m:D):Rho:=[none,‹.int w›,‹.tuple [n,t,s,m]›,‹n›,‹t›,‹s›,‹m›,none]
abbrev tA(w:Int) (n t s m:D):MD:=[none,some (.int w),some (.tuple [n,t,s,m])]
theorem ax5:C4 o (tA w n t s m)=(aF2 (ax0 ["NoDeed", "NoMerge", "NoName"] tR) tF 7 (L8 (ae9 7 F9)) (r8 w n t s m) [o]).bind fun fl=>match fl with
  | .rt d q=>(q[0]?).map fun o'=>(d,o')
  | .nx _ q=>(q[0]?).map fun o'=>(.none,o')
  | _=>none:=by kernel_rfl
theorem bq8(h:tR (r8 w n t s m) [o]=none) (e:tF (r8 w n t s m) [o]=some (.rt d [o'])):C4 o (tA w n t s m)=some (d,o'):=by
 rw[ax5]
 simp only[aF2,ax0,h,Option.bind_none,e,xbs]
 rfl
theorem Z1(h:tR (r8 w n t s m) [o]=some x) (hx:(["NoDeed", "NoMerge", "NoName"]:List Str).contains x=true) (e:F9 x=some d):C4 o (tA w n t s m)=some (d,o):=by
 rw[ax5]
 have g:L8 (ae9 7 F9) ((List.replicate (r8 w n t s m).length none).set 7 (some (.exc x)))=some (.rt d):=by
  show(F9 x).map _=_
  rw[e];rfl
 simp only[aF2,ax0,h,xbs,hx,if_true,g]
 rfl
def rf(i:Int):D:=.tuple [.str "refused", .int i]
theorem at5:F9 "NoName" = some (rf 0):=by kernel_rfl
theorem bJ9:F9 "NoMerge" = some (rf 1):=by kernel_rfl
theorem ba9:F9 "NoDeed" = some (rf 2):=by kernel_rfl
theorem aL8{t:DT}{f:UD}{g:UX}{ρ:Rho}{q:Fs}(h:t (era ρ)=some true):D8 (uIf (uTP t) (P0 f) O8) g ρ q=(f ρ q).map fun x=>.rt x.1 x.2:=by
 simp only[D8,uIf,uTP,h,xms,xbs,if_true,P0]
 cases f ρ q<;>rfl
theorem t5{t:DT}{f:UD}{g:UX}{ρ:Rho}{q:Fs}(h:t (era ρ)=some false):D8 (uIf (uTP t) (P0 f) O8) g ρ q=g ρ q:=by
 simp only[D8,uIf,uTP,h,xms,xbs,xft,if_false,O8]
theorem bp5{t:DT}{f:UD}{r r2:UC}{ρ:Rho}{q:Fs}(h:t (era ρ)=some true):aa6 (h9 t r wNo) (uIf (uTP t) (P0 f) O8) r2 ρ q=r ρ q:=by
 simp only[aa6,h9,uIf,uTP,h,xms,xbs,if_true,P0]
 cases r ρ q with
 | some x=>rfl
 | none=>cases f ρ q<;>rfl
theorem an8{t:DT}{f:UD}{r r2:UC}{ρ:Rho}{q:Fs}(h:t (era ρ)=some false):aa6 (h9 t r wNo) (uIf (uTP t) (P0 f) O8) r2 ρ q=r2 ρ q:=by
 simp only[aa6,h9,uIf,uTP,h,xms,xbs,xft,if_false,O8,wNo]
section
variable {o o':Fo}{n t s m d:D}{x:Str}
abbrev run(o:Fo) (r:Option (D×Fo)):Option UF:=(r.map fun r=>(r.1,[o].set 0 r.2)).map fun x=>.rt x.1 x.2
theorem r_0:tR (r8 0 n t s m) [o]=none:=(bp5 (by kernel_rfl)).trans (by kernel_rfl)
theorem f_0:tF (r8 0 n t s m) [o]=run o (ao3 o [n,s]):=(aL8 (by kernel_rfl)).trans (by kernel_rfl)
theorem r_1:tR (r8 1 n t s m) [o]=O9 ms o [n]:=(an8 (by kernel_rfl)).trans ((bp5 (by kernel_rfl)).trans (by kernel_rfl))
theorem f_1:tF (r8 1 n t s m) [o]=run o (ao2 o [n]):=(t5 (by kernel_rfl)).trans ((aL8 (by kernel_rfl)).trans (by kernel_rfl))
theorem r_2:tR (r8 2 n t s m) [o]=Q8 ms A8 o [m,n,t]:=(an8 (by kernel_rfl)).trans ((bp5 (by kernel_rfl)).trans (by kernel_rfl))
theorem f_2:tF (r8 2 n t s m) [o]=run o (X5 A8 C3 o [m,n,t]):=(t5 (by kernel_rfl)).trans ((aL8 (by kernel_rfl)).trans (by kernel_rfl))
theorem r_3:tR (r8 3 n t s m) [o]=t6 o []:=(an8 (by kernel_rfl)).trans ((an8 (by kernel_rfl)).trans ((bp5 (by kernel_rfl)).trans (by kernel_rfl)))
theorem f_3:tF (r8 3 n t s m) [o]=run o (t8 o []):=(t5 (by kernel_rfl)).trans ((t5 (by kernel_rfl)).trans ((aL8 (by kernel_rfl)).trans (by kernel_rfl)))
theorem r_4:tR (r8 4 n t s m) [o]=X2 o []:=(an8 (by kernel_rfl)).trans ((an8 (by kernel_rfl)).trans ((an8 (by kernel_rfl)).trans (by kernel_rfl)))
theorem f_4:tF (r8 4 n t s m) [o]=run o (k4 o []):=(t5 (by kernel_rfl)).trans ((t5 (by kernel_rfl)).trans ((t5 (by kernel_rfl)).trans (by kernel_rfl)))
theorem r_5:tR (r8 5 n t s m) [o]=O9 ms o [n]:=(an8 (by kernel_rfl)).trans ((an8 (by kernel_rfl)).trans ((an8 (by kernel_rfl)).trans (by kernel_rfl)))
theorem f_5:tF (r8 5 n t s m) [o]=run o (M7 o [n]):=(t5 (by kernel_rfl)).trans ((t5 (by kernel_rfl)).trans ((t5 (by kernel_rfl)).trans (by kernel_rfl)))
theorem go(h:tR (r8 w n t s m) [o]=none) (f:tF (r8 w n t s m) [o]=run o r) (e:r=some (d,o')):C4 o (tA w n t s m)=some (d,o'):=bq8 h (by rw[f,e];rfl)
theorem bE3(k:Nm):fsB ms k.s=true:=by cases k<;>kernel_rfl
theorem cj6:fsB ms "c" = true:=by kernel_rfl
theorem aL3(w h w' h':Nat) (l l':List Q4):A8 [shD w h l,shD w' h' l']=some (.bool (decide (w=w')&&decide (h=h'))):=by
 refine M6 (ρ:=[‹shD w h l›,‹shD w' h' l'›]) rfl ?_
 have e:∀a b:Nat,((a:Int)==b)=decide (a=b):=fun a b=>by
  by_cases q:a=b
  ·subst q;simp
  ·rw[decide_eq_false q];exact beq_eq_false_iff_ne.mpr (by omega)
 have a0:∀x y z:D,atI [x,y,z] 0=some x:=fun _ _ _=>rfl
 have a1:∀x y z:D,atI [x,y,z] 1=some y:=fun _ _ _=>rfl
 by_cases q:w=w'<;>wp_walk using evD,X1,shD,a0,a1,e,q,decide_true,decide_false,Bool.true_and,Bool.false_and
end
end Lk71
namespace Lk71
open PySem G L2 Sh
abbrev nA(m:List (D×D)) (w:Int) (k j:Nm) (d mn:D):List D:=[.dict m,.int w,.tuple [.str k.s,.str j.s,d,mn]]
abbrev nr(m:List (D×D)) (w:Int) (k j:Nm) (d mn:D) (x:Option B):Rho:=nx9 m (‹.int w›) (‹.tuple [.str k.s,.str j.s,d,mn]›) k.s j.s d (‹mn›) none x
section
variable {m:List (D×D)}{s:Fn3}{k j:Nm}{d mn:D}{w:Int}
theorem aq0:O2 (nA m w k j d mn)=(ab8 (nr m w k j d mn none)).bind fun c0=>if c0 then(if m.length < 1000 then(aN7 (nr m w k j d mn none)).map fun r=>.tuple [r,.dict (i8 m k.s d)] else none) else
  (az5 (nr m w k j d mn none)).bind fun c1=>if c1 then az6 (nr m w k j d mn none) else
  (aq1 (nr m w k j d mn none)).bind fun c2=>if c2 then(D7 m k.s).map fun r=>.tuple [r,.dict (u6 m k.s)] else
  (az4 (nr m w k j d mn none)).bind fun c3=>if c3 then aN6 (nr m w k j d mn none) else
  (az7 (nr m w k j d mn none)).bind fun sp=>(az8 (nr m w k j d mn (‹.list sp›))).bind fun e5=>if m.length < 1000 then(D7 (i8 m j.s e5) j.s).map fun r=>.tuple [r,.dict (i8 m j.s e5)] else none:=by kernel_rfl
theorem i_k(h:Rp m s) (k:Nm) (b:Bool):G.inK b (.str k.s) (.dict m)=some (.bool (if b then !(s k).isSome else(s k).isSome)):=by
 show some (PyData.bool (if b then !(D7 m k.s).isSome else(D7 m k.s).isSome))=_
 rw[h.look k]
theorem n_0(h:Rp m s):O2 (nA m 0 k j d mn)=some (.tuple [.bool (s k).isSome,.dict (i8 m k.s d)]):=by
 have t0:ab8 (nr m 0 k j d mn none)=some true:=by kernel_rfl
 have r0:aN7 (nr m 0 k j d mn none)=G.inK false (.str k.s) (.dict m):=by kernel_rfl
 have l:=h.len
 simp only[aq0,t0,r0,i_k h,xbs,if_true,if_pos (show m.length < 1000 by omega),xms,xft,if_false]
theorem t_1(h:Rp m s):az5 (nr m 1 k j d mn none)=some !(s k).isSome:=by
 show as5 (fun _=>(G.inK true (.str k.s) (.dict m)).bind R7) (fun _=>some false) (nr m 1 k j d mn none)=_
 simp only[i_k h,if_true,xbs,R7,as5]
 cases(s k).isSome<;>rfl
theorem t_2(h:Rp m s):az5 (nr m 2 k j d mn none)=some (!(s k).isSome || !(s j).isSome):=by
 show as5 (fun _=>(G.inK true (.str k.s) (.dict m)).bind R7) (ap0 (fun _=>some true) fun _=>(G.inK true (.str j.s) (.dict m)).bind R7) (nr m 2 k j d mn none)=_
 simp only[i_k h,if_true,xbs,R7,as5,ap0]
 cases(s k).isSome<;>cases(s j).isSome<;>rfl
theorem n_1(h:Rp m s) (e:s k=some d'):O2 (nA m 1 k j d mn)=some (.tuple [d',.dict (u6 m k.s)]):=by
 have t0:ab8 (nr m 1 k j d mn none)=some false:=by kernel_rfl
 have t2:aq1 (nr m 1 k j d mn none)=some true:=by kernel_rfl
 simp only[aq0,t0,t_1 h,t2,e,h.look k,Option.isSome_some,xnt,xbs,if_true,xms,xft,if_false]
theorem ci7(h:Rp m s) (e:s k=none):O2 (nA m 1 k j d mn)=some (.tuple [rf 0,.none]):=by
 have t0:ab8 (nr m 1 k j d mn none)=some false:=by kernel_rfl
 have r1:az6 (nr m 1 k j d mn none)=some (.tuple [rf 0,.none]):=by kernel_rfl
 simp only[aq0,t0,t_1 h,r1,e,Option.isSome_none,xnf,xbs,if_true,xft,if_false]
theorem cb9(h:Rp m s) (e:s k=none\/s j=none):O2 (nA m 2 k j d mn)=some (.tuple [rf 0,.none]):=by
 have t0:ab8 (nr m 2 k j d mn none)=some false:=by kernel_rfl
 have r1:az6 (nr m 2 k j d mn none)=some (.tuple [rf 0,.none]):=by kernel_rfl
 have q:(!(s k).isSome || !(s j).isSome)=true:=by rcases e with e|e<;>simp[e]
 simp only[aq0,t0,t_2 h,q,r1,xbs,if_true,xft,if_false]
theorem bR4(h:Rp m s) (i:Nat) (a:Nm) (hi:(nr m w k j d mn x)[i]? = some (‹.str a.s›)):l6 (A2 0) (A2 i) (nr m w k j d mn x)=s a:=by
 have:A2 i (nr m w k j d mn x)=some (.str a.s):=by unfold A2;rw[hi]
 show(A2 0 (nr m w k j d mn x)).bind _=_
 rw[show A2 0 (nr m w k j d mn x)=some (.dict m) from rfl,xbs,this]
 exact h.look a
theorem bJ5(h:Rp m s) (i:Nat) (a:Nm) (hi:(nr m w k j d mn x)[i]? = some (‹.str a.s›)) (e:s a=some (shD 2 v l)):ah9 (l6 (A2 0) (A2 i)) W6 (W5 ⇑2) (nr m w k j d mn x)=some (.tuple [.int 2,.int v]):=by
 show(l6 (A2 0) (A2 i) (nr m w k j d mn x)).bind _=_
 rw[bR4 h i a hi,e];rfl
theorem cb6(a b:Nat) (ha:a=1\/a=2) (hb:b=1\/b=2):neD (.tuple [.int 2,.int a]) (.tuple [.int 2,.int b])=some (.bool !decide (a=b)):=by
 rcases ha with rfl|rfl<;>rcases hb with rfl|rfl<;>kernel_rfl
theorem t_3(h:Rp m s) (ek:s k=some (shD 2 a la)) (ej:s j=some (shD 2 b lb)) (ha:a=1\/a=2) (hb:b=1\/b=2):az4 (nr m 2 k j d mn none)=some !decide (a=b):=by
 unfold az4 tB2 A9
 rw[bJ5 h 3 k rfl ek,bJ5 h 4 j rfl ej,xbs,xbs,cb6 a b ha hb];rfl
theorem ci6(h:Rp m s) (ek:s k=some (shD 2 a la)) (ej:s j=some (shD 2 b lb)) (ha:a=1\/a=2) (hb:b=1\/b=2) (ne:a≠b):O2 (nA m 2 k j d mn)=some (.tuple [rf 1,.none]):=by
 have t0:ab8 (nr m 2 k j d mn none)=some false:=by kernel_rfl
 have t2:aq1 (nr m 2 k j d mn none)=some false:=by kernel_rfl
 have r3:aN6 (nr m 2 k j d mn none)=some (.tuple [rf 1,.none]):=by kernel_rfl
 simp only[aq0,t0,t_2 h,t2,t_3 h ek ej ha hb,r3,ek,ej,Option.isSome_some,xnt,Bool.or_self,decide_eq_false ne,xnf,xbs,if_true,xft,if_false]
theorem n_2(M:Man) (h:Rp m s) (ek:s k=some (shD 2 a la)) (ej:s j=some (shD 2 a lb)) (A:ShG v a la) (B:ShG v a lb) (hv:v<=1300):O2 (nA m 2 k j d (.str M.s))=some (.tuple [shD 2 a (blL M la lb),.dict (i8 m j.s (shD 2 a (blL M la lb)))]):=by
 have t0:ab8 (nr m 2 k j d (.str M.s) none)=some false:=by kernel_rfl
 have t2:aq1 (nr m 2 k j d (.str M.s) none)=some false:=by kernel_rfl
 have q1:qE (dIx (qE (l6 (A2 0) (A2 3))) ⇑2) (nr m 2 k j d (.str M.s) none)=some (true,la.map Q4.d):=by
  show(((l6 (A2 0) (A2 3) (nr m 2 k j d (.str M.s) none)).bind ao1).bind _).bind ao1=_
  rw[bR4 h 3 k rfl,ek];rfl
 have q2:qE (dIx (qE (l6 (A2 0) (A2 4))) ⇑2) (nr m 2 k j d (.str M.s) none)=some (true,lb.map Q4.d):=by
  show(((l6 (A2 0) (A2 4) (nr m 2 k j d (.str M.s) none)).bind ao1).bind _).bind ao1=_
  rw[bR4 h 4 j rfl,ej];rfl
 have g:ah7 (qE (dIx (qE (l6 (A2 0) (A2 3))) ⇑2)) (qE (dIx (qE (l6 (A2 0) (A2 4))) ⇑2)) (nr m 2 k j d (.str M.s) none)=some (((la.map Q4.d).zip (lb.map Q4.d)).map (fun(x,y)=>PyData.tuple [x,y])):=by
  show(qE (dIx (qE (l6 (A2 0) (A2 3))) ⇑2) (nr m 2 k j d (.str M.s) none)).bind _=_
  rw[q1,xbs,q2];rfl
 have hz:(la.zip lb).length<=64:=by rw[List.length_zip,A.len,B.len,Nat.min_self];rcases A.h12 with rfl|rfl<;>decide
 have fs:az7 (nr m 2 k j d (.str M.s) none)=some ((blL M la lb).map Q4.d):=by
  unfold az7
  rw[bf1 (l:=la.zip lb) (h1:=fun p=>p.1.d) (h2:=fun p=>p.2.d) (f:=fun p=>(M.bl p.1 p.2).d) (r:=[‹.str M.s›]) rfl (by rw[g,bB3]) (by omega) ?_]
  ·unfold blL;rw[List.map_map];rfl
  ·intro p hp
   have pa:=A.sh.ok p.1 (List.of_mem_zip hp).1
   have pb:=B.sh.ok p.2 (List.of_mem_zip hp).2
   wp_walk using evD,(aQ7 M pa pb (by omega)).1
 have e5:az8 (nr m 2 k j d (.str M.s) (‹.list ((blL M la lb).map Q4.d)›))=some (shD 2 a (blL M la lb)):=by
  unfold az8 A9
  rw[bJ5 h 3 k rfl ek];rfl
 have l:=h.len
 have lk:D7 (i8 m j.s (shD 2 a (blL M la lb))) j.s=some (shD 2 a (blL M la lb)):=by rw[(h.put j _).look j,aY5]
 simp only[aq0,t0,t_2 h,t2,t_3 h ek ej A.h12 A.h12,fs,e5,lk,ek,ej,Option.isSome_some,xnt,Bool.or_self,decide_true,xbs,xms,if_pos (show m.length < 1000 by omega),xft,if_false]
end
end Lk71
namespace Lk71
open PySem G L2 Sh
def ah3:UX:=(uIf (uTB (uB2 neD (uD 1 C4 (mO (mC ⇑5 (mC (O7 (A0 (A2 15) (A0 (dC (.str "")) (A0 (dC .none) (A0 (dC (.str "")) A6))))) mN)))) (uP (aC9 (A2 6) (A2 15) (O7 (A0 (dC (.str "refused")) (A0 ⇑0 A6))))))) (P0 (uP (dC (.bool false)))) O8)
def an2:UX:=(D8 (M5 12 (uP (X8 (tB2 eqD (A2 7) ⇑3) (A9 aa9 (A2 3) ⇑1) (A9 P3 (A2 3) ⇑1)))) (D8 (M5 13 (uP (X8 (ah4 (X9 leI ltI ⇑0 (A2 12) (l5 (C2 2)))) (dIx (qE (dIx (C2 2) (ac7 (A2 3) (A2 12)))) ⇑0) (O7 (A0 (dC (.str "refused")) (A0 ⇑2 A6)))))) (M5 3 (uP (X8 (ah4 (X9 leI ltI ⇑0 (A2 12) (l5 (C2 2)))) (A2 12) (A2 3))))))
def an1:UX:=(aY7 (B1 O2 (A0 (A2 6) (A0 (A2 7) (A0 (A2 11) A6)))) (T7 2 (G0 (N9 13) (G0 (N9 14) V5))))
def ad0:UX:=(uIf (uTP (tB2 aT1 (A2 14) (dC .none))) (D8 (M5 2 (uP (A9 P3 (ah9 (A2 2) W6 (W5 (A9 P3 (A2 3) ⇑1))) (ao5 (A0 (O7 (A0 (dIx (qN (A0 (dC (.str "lay")) (A0 (dC (.str "take")) (A0 (dC (.str "blend")) A6)))) (A2 7)) (A0 (A2 14) A6))) A6))))) (M5 3 (uP (A9 P3 (A2 3) ⇑1)))) O8)
def b_0:UX:=(M5 5 (uP (A9 X3 ⇑130 (A2 4))))
def b_1:UX:=(M5 6 (uP (dIx (qE (dIx (C2 2) (A2 3))) ⇑1)))
def b_2:UX:=(M5 7 (uP (dIx (qN (A0 ⇑0 (A0 ⇑0 (A0 ⇑0 (A0 ⇑1 (A0 ⇑2 (A0 ⇑2 (A0 ⇑2 (A0 ⇑3 (A0 ⇑4 A6)))))))))) (B1 B5 (A0 (A2 0) (A0 (A2 5) (A0 ⇑9 A6)))))))
def b_3:UX:=(M5 8 (uP (dIx (qN (A0 (dC (.str "a")) (A0 (dC (.str "bo")) (A0 (dC (.str "zzzzzz")) A6)))) (B1 B5 (A0 (A2 0) (A0 (A9 P3 (A2 5) ⇑1) (A0 ⇑3 A6)))))))
def b_4:UX:=(M5 9 (uP (dIx (qN (A0 (dC (.str "a")) (A0 (dC (.str "bo")) (A0 (dC (.str "zzzzzz")) A6)))) (B1 B5 (A0 (A2 0) (A0 (A9 P3 (A2 5) ⇑2) (A0 ⇑3 A6)))))))
def b_5:UX:=(M5 10 (uP (dIx (qN (A0 (dC (.str "over")) (A0 (dC (.str "multiply")) (A0 (dC (.str "screen")) (A0 (dC (.str "plus")) (A0 (dC (.str "atop")) (A0 (dC (.str "cut")) A6))))))) (B1 B5 (A0 (A2 0) (A0 (A9 P3 (A2 5) ⇑3) (A0 ⇑6 A6)))))))
def b_6:UX:=(M5 11 (uP (O7 (A0 (A2 8) (A0 (A2 9) (A0 (B1 U8 (A0 (A2 0) (A0 (A9 P3 (A2 5) ⇑5) (A0 ⇑2 (A0 (A9 P3 ⇑1 (B1 B5 (A0 (A2 0) (A0 (A9 P3 (A2 5) ⇑4) (A0 ⇑2 A6))))) A6))))) (A0 (A2 10) A6)))))))
def b_7:UX:=(uIf (uTP (tB2 gtI (A2 7) ⇑2)) an2 (D8 an1 ad0))
def b_8:UX:=(uIf (uTB (uB2 neD (uD 1 C4 (mO (mC (A2 7) (mC (A2 11) mN)))) (uP (A2 13)))) (P0 (uP (dC (.bool false)))) O8)
def b_9:UX:=(uIf (uTB (uB2 neD (uM0 1 Z8) (uP (O7 (A0 (A2 3) (A0 (A9 aa9 (A9 aa9 (l5 (C2 2)) ⇑1) (A2 3)) A6)))))) (P0 (uP (dC (.bool false)))) O8)
def bU4:UX:=(M5 6 (uP (dIx (qE (dIx (C2 2) (A2 3))) ⇑1)))
def bA3:UX:=(uIf (uTB (uB2 neD (uM0 1 j9) (uP (aC8 (A2 6))))) (P0 (uP (dC (.bool false)))) O8)
def bU3:UX:=(aF3 (aI3 (O7 (A0 (dC (.str "a")) (A0 (dC (.str "bo")) (A0 (dC (.str "zzzzzz")) (A0 (dC (.str "c")) A6)))))) (N9 15) ah3)
def bd:UX:=(D8 b_0 (D8 b_1 (D8 b_2 (D8 b_3 (D8 b_4 (D8 b_5 (D8 b_6 (D8 b_7 (D8 b_8 (D8 b_9 (D8 bU4 (D8 bA3 bU3))))))))))))
theorem Q6{f g:UX}(h:f ρ q=some (.nx ρ' q')):D8 f g ρ q=g ρ' q':=by unfold D8;rw[h];rfl
abbrev St:=List (Str×List (D×D))
abbrev r16(ns:List Int) (P:St) (i:Nat) (a b c d e f g h j k l m:Option B):Rho:=[‹scr ns›,some (.opq 0),‹.list (P.map pD)›,‹.int i›,a,b,c,d,e,f,g,h,j,k,l,m]
abbrev v(d:D):Option B:=‹d›
theorem nm3:∀n:Nat,n < 3->∃k:Nm,atI ([.str "a", .str "bo", .str "zzzzzz"]:List D) (n:Int)=some (.str k.s)
 | 0,_=>⟨.a,rfl⟩
 | 1,_=>⟨.b,rfl⟩
 | 2,_=>⟨.z,rfl⟩
theorem ci8:∀n:Nat,n < 6->∃m:Man,atI ([.str "over", .str "multiply", .str "screen", .str "plus", .str "atop", .str "cut"]:List D) (n:Int)=some (.str m.s)
 | 0,_=>⟨.over,rfl⟩
 | 1,_=>⟨.mult,rfl⟩
 | 2,_=>⟨.screen,rfl⟩
 | 3,_=>⟨.plus,rfl⟩
 | 4,_=>⟨.atop,rfl⟩
 | 5,_=>⟨.cut,rfl⟩
theorem cg1:∀n:Nat,n < 9->∃w:Nat,w < 5/\atI ([.int 0,.int 0,.int 0,.int 1,.int 2,.int 2,.int 2,.int 3,.int 4]:List D) (n:Int)=some (.int w)
 | 0,_=>⟨0,by decide,rfl⟩
 | 1,_=>⟨0,by decide,rfl⟩
 | 2,_=>⟨0,by decide,rfl⟩
 | 3,_=>⟨1,by decide,rfl⟩
 | 4,_=>⟨2,by decide,rfl⟩
 | 5,_=>⟨2,by decide,rfl⟩
 | 6,_=>⟨2,by decide,rfl⟩
 | 7,_=>⟨3,by decide,rfl⟩
 | 8,_=>⟨4,by decide,rfl⟩
section
variable {ns:List Int}{t i:Nat}{P:St}{o o':Fo}{L:List Sh.Sp}
theorem drw{k:Nat}(hn:ns.length<=63) (hk:k < 2 ^ 18) (j m:Nat) (hj:j < 10) (hm:0 < m):∃n:Nat,B5 [scr ns,.int ((k:Int)+(j:Nat)),.int m]=some (.int n)/\n < m:=by
 obtain⟨n,e,l⟩:=am7 ns (k+j) m hn (by omega) hm
 exact⟨n,by rw[← e];simp,l⟩
abbrev sm(k j:Nm) (d:D) (M:Man):D:=.tuple [.str k.s,.str j.s,d,.str M.s]
theorem aO8(M:MsOk L P) (le:i<=L.length):∃m,(∀a b c d e f g h j k l x,dIx (qE (dIx (C2 2) (A2 3))) ⇑1 [‹scr ns›,none,‹.list (P.map pD)›,‹.int i›,a,b,c,d,e,f,g,h,j,k,l,x]=some (.dict m))/\Rp m (at_ L i):=by
 obtain⟨x,e,r⟩:=M.m i le
 refine⟨x.2,fun _ _ _ _ _ _ _ _ _ _ _ _=>?_,r⟩
 show((atI (P.map pD) (i:Int)).bind ao1).bind _=_
 rw[bU5 e];rfl
theorem cd7(hn:ns.length<=63) (ht:t < 8) (M:MsOk L P) (le:i<=L.length) (G:UX) (b c d e f g h j k l x:Option B):∃(w:Nat) (a1 a2:Nm) (Mn:Man) (hh:Nat) (ll:List Q4) (m:List (D×D)),w < 5/\Rp m (at_ L i)/\ShG 16 hh ll /\
  D8 b_0 (D8 b_1 (D8 b_2 (D8 b_3 (D8 b_4 (D8 b_5 (D8 b_6 G)))))) (r16 ns P i (v (.int t)) b c d e f g h j k l x) [o]=G (r16 ns P i (v (.int t)) (v (.int ((130*t:Nat):Int))) (v (.dict m)) (v (.int w)) (v (.str a1.s)) (v (.str a2.s)) (v (.str Mn.s)) (v (sm a1 a2 (shD 2 hh ll) Mn)) j k l x) [o]:=by
 obtain⟨n0,e0,l0⟩:=am7 ns (130*t) 9 hn (by omega) (by decide)
 obtain⟨w,hw,e0'⟩:=cg1 n0 l0
 obtain⟨n1,e1,l1⟩:=drw (k:=130*t) hn (by omega) 1 3 (by decide) (by decide)
 obtain⟨a1,e1'⟩:=nm3 n1 l1
 obtain⟨n2,e2,l2⟩:=drw (k:=130*t) hn (by omega) 2 3 (by decide) (by decide)
 obtain⟨a2,e2'⟩:=nm3 n2 l2
 obtain⟨n3,e3,l3⟩:=drw (k:=130*t) hn (by omega) 3 6 (by decide) (by decide)
 obtain⟨Mn,e3'⟩:=ci8 n3 l3
 obtain⟨n4,e4,l4⟩:=drw (k:=130*t) hn (by omega) 4 2 (by decide) (by decide)
 obtain⟨ll,e5,S⟩:=bJ6 ns (130*t+5) (1+n4) hn (by omega) (by omega)
 have e5:U8 [scr ns,.int (((130*t:Nat):Int)+5),.int 2,.int (1+(n4:Int))]=some (shD 2 (1+n4) ll):=by rw[← e5];simp
 obtain⟨m,e6,R⟩:=aO8 (ns:=ns) M le
 have m1:X3 (.int 130) (.int t)=some (.int ((130*t:Nat):Int)):=ab9 (i:=130) (by decide) (by omega)
 have e0:B5 [scr ns,.int ((130*t:Nat):Int),.int 9]=some (.int n0):=e0
 have e1:B5 [scr ns,.int (((130*t:Nat):Int)+1),.int 3]=some (.int n1):=e1
 have e2:B5 [scr ns,.int (((130*t:Nat):Int)+2),.int 3]=some (.int n2):=e2
 have e3:B5 [scr ns,.int (((130*t:Nat):Int)+3),.int 6]=some (.int n3):=e3
 have e4:B5 [scr ns,.int (((130*t:Nat):Int)+4),.int 2]=some (.int n4):=e4
 refine⟨w,a1,a2,Mn,1+n4,ll,m,hw,R,S,?_⟩
 refine(Q6 (ρ':=r16 ns P i (v (.int t)) (v (.int ((130*t:Nat):Int))) c d e f g h j k l x) (q':=[o]) (by wp_walk using evD,b_0,M5,uP,era,K5,m1)).trans ?_
 refine(Q6 (ρ':=r16 ns P i (v (.int t)) (v (.int ((130*t:Nat):Int))) (v (.dict m)) d e f g h j k l x) (q':=[o]) (by simp only[b_1,M5,uP,era,K5,xmc,xmn,e6,xms,xw0,xw1])).trans ?_
 refine(Q6 (ρ':=r16 ns P i (v (.int t)) (v (.int ((130*t:Nat):Int))) (v (.dict m)) (v (.int w)) e f g h j k l x) (q':=[o]) (by wp_walk using evD,b_2,M5,uP,era,K5,e0,e0')).trans ?_
 refine(Q6 (ρ':=r16 ns P i (v (.int t)) (v (.int ((130*t:Nat):Int))) (v (.dict m)) (v (.int w)) (v (.str a1.s)) f g h j k l x) (q':=[o]) (by wp_walk using evD,b_3,M5,uP,era,K5,e1,e1')).trans ?_
 refine(Q6 (ρ':=r16 ns P i (v (.int t)) (v (.int ((130*t:Nat):Int))) (v (.dict m)) (v (.int w)) (v (.str a1.s)) (v (.str a2.s)) g h j k l x) (q':=[o]) (by wp_walk using evD,b_4,M5,uP,era,K5,e2,e2')).trans ?_
 refine(Q6 (ρ':=r16 ns P i (v (.int t)) (v (.int ((130*t:Nat):Int))) (v (.dict m)) (v (.int w)) (v (.str a1.s)) (v (.str a2.s)) (v (.str Mn.s)) h j k l x) (q':=[o]) (by wp_walk using evD,b_5,M5,uP,era,K5,e3,e3')).trans ?_
 exact Q6 (by wp_walk using evD,b_6,M5,uP,era,K5,e4,e5)
end
end Lk71
namespace Lk71
open PySem G L2 Sh
section
variable {ns:List Int}{t i:Nat}{P:St}{o o':Fo}{L:List Sh.Sp}{a b c d e f g h j k l x:Option B}
theorem be5{sv due mo:D}{m:List (D×D)}{w:Int}(q:O2 [.dict m,.int w,sv]=some (.tuple [due,mo])):an1 (r16 ns P i a b (v (.dict m)) (v (.int w)) e f g (v sv) j k l x) [o]=some (.nx (r16 ns P i a b (v (.dict m)) (v (.int w)) e f g (v sv) j (v due) (v mo) x) [o]):=by
 show(O2 [.dict m,.int w,sv]).bind _=_
 rw[q];rfl
theorem bU6:ad0 (r16 ns P i a b c d e f g h j k (v .none) x) [o]=some (.nx (r16 ns P i a b c d e f g h j k (v .none) x) [o]):=by kernel_rfl
theorem ck2(hi:i+1<=P.length):af0 (P.map pD) none (some ((i:Int)+1))=(P.take (i+1)).map pD:=by
 unfold af0
 rw[show(i:Int)+1=((i+1:Nat):Int) by simp,HT.sIx_none,HT.sIx_nat,List.length_map,List.drop_zero,Nat.sub_zero,Nat.min_eq_left hi,List.map_take]
theorem bA9{w:Int}{wd:Str}{m:List (D×D)}(hi:i+1<=P.length) (hP:P.length<=100) (hw:atI ([.str "lay", .str "take", .str "blend"]:List D) w=some (.str wd)):ad0 (r16 ns P i a b c (v (.int w)) e f g h j k (v (.dict m)) x) [o]=some (.nx (r16 ns (P.take (i+1)++[(wd,m)]) (i+1) a b c (v (.int w)) e f g h j k (v (.dict m)) x) [o]):=by
 have c1:=ck2 hi
 have z:P3 (.list ((P.take (i+1)).map pD)) (.list [.tuple [.str wd,.dict m]])=some (.list ((P.take (i+1)++[(wd,m)]).map pD)):=by
  unfold P3
  rw[List.map_append]
  exact if_pos (by rw[List.length_map,List.length_take];show min (i+1) P.length+1<=16777216;omega)
 have n1:aT1 (.dict m) .none=some (.bool true):=rfl
 have ci:((i+1:Nat):Int)=(i:Int)+1:=by simp
 unfold ad0
 wp_walk using evD,uIf,uTP,era,K5,n1
 refine(Q6 (ρ':=r16 ns (P.take (i+1)++[(wd,m)]) i a b c (v (.int w)) e f g h j k (v (.dict m)) x) (q':=[o]) ?_).trans ?_
 ·wp_walk using evD,M5,uP,ah9,era,K5,c1,hw,z
 ·wp_walk using evD,M5,uP,era,K5;rw[← ci]
theorem aQ4(th:Int) (n:List D):ah4 (X9 leI ltI ⇑0 (A2 12) (l5 (C2 2))) [a,b,v (.list n),c,d,e,f,g,h,j,k,l,v (.int th),x,y,z]=some (decide (0<=th)&&decide (th < (n.length:Int))):=by
 wp_walk using evD,ah4
 by_cases q:0<=th
 ·simp only[decide_eq_true q,xbs,Bool.true_and,R7]
 ·simp only[decide_eq_false q,xbs,Bool.false_and,R7]
theorem bl0{w th:Int}{x0:Str×List (D×D)}{i':Nat}(q:X8 (tB2 eqD (A2 7) ⇑3) (A9 aa9 (A2 3) ⇑1) (A9 P3 (A2 3) ⇑1) (era (r16 ns P i a b c (v (.int w)) e f g h j k l x))=some (.int th)) (h0:0<=th) (h1:th < (P.length:Int)) (hx:atI (P.map pD) (if th > (i:Int) then th else i)=some (pD x0)) (hi:th=(i':Nat)) :
  an2 (r16 ns P i a b c (v (.int w)) e f g h j k l x) [o]=some (.nx (r16 ns P i' a b c (v (.int w)) e f g h (v (.int th)) (v (.str x0.1)) l x) [o]):=by
 have cc:(decide (0<=th)&&decide (th < ((P.map pD).length:Int)))=true:=by rw[List.length_map,decide_eq_true h0,decide_eq_true h1];rfl
 unfold an2
 refine(Q6 (ρ':=r16 ns P i a b c (v (.int w)) e f g h (v (.int th)) k l x) (q':=[o]) ?_).trans ?_
 ·unfold M5 uP
  rw[q];rfl
 refine(Q6 (ρ':=r16 ns P i a b c (v (.int w)) e f g h (v (.int th)) (v (.str x0.1)) l x) (q':=[o]) ?_).trans ?_
 ·have y:dIx (qE (dIx (C2 2) (ac7 (A2 3) (A2 12)))) ⇑0 (era (r16 ns P i a b c (v (.int w)) e f g h (v (.int th)) k l x))=some (.str x0.1):=by
   show((atI (P.map pD) (if th > (i:Int) then th else i)).bind ao1).bind _=_
   rw[hx];rfl
  unfold M5 uP X8
  rw[show era (r16 ns P i a b c (v (.int w)) e f g h (v (.int th)) k l x)=[v (scr ns),none,v (.list (P.map pD)),v (.int i),K5 a,K5 b,K5 c,v (.int w),K5 e,K5 f,K5 g,K5 h,v (.int th),K5 k,K5 l,K5 x] from rfl]at y ⊢
  rw[aQ4,cc,xbs,if_pos rfl,y];rfl
 ·unfold M5 uP X8
  rw[show era (r16 ns P i a b c (v (.int w)) e f g h (v (.int th)) (v (.str x0.1)) l x)=[v (scr ns),none,v (.list (P.map pD)),v (.int i),K5 a,K5 b,K5 c,v (.int w),K5 e,K5 f,K5 g,K5 h,v (.int th),v (.str x0.1),K5 l,K5 x] from rfl,aQ4,cc,xbs,if_pos rfl]
  subst hi;rfl
theorem bk9{w th:Int}(q:X8 (tB2 eqD (A2 7) ⇑3) (A9 aa9 (A2 3) ⇑1) (A9 P3 (A2 3) ⇑1) (era (r16 ns P i a b c (v (.int w)) e f g h j k l x))=some (.int th)) (h0:¬(0<=th/\th < (P.length:Int))) :
  an2 (r16 ns P i a b c (v (.int w)) e f g h j k l x) [o]=some (.nx (r16 ns P i a b c (v (.int w)) e f g h (v (.int th)) (v (rf 2)) l x) [o]):=by
 have cc:(decide (0<=th)&&decide (th < ((P.map pD).length:Int)))=false:=by
  rw[List.length_map,Bool.and_eq_false_iff,decide_eq_false_iff_not,decide_eq_false_iff_not]
  by_cases z:0<=th
  ·exact .inr fun y=>h0 ⟨z,y⟩
  ·exact .inl z
 unfold an2
 refine(Q6 (ρ':=r16 ns P i a b c (v (.int w)) e f g h (v (.int th)) k l x) (q':=[o]) ?_).trans ?_
 ·unfold M5 uP
  rw[q];rfl
 refine(Q6 (ρ':=r16 ns P i a b c (v (.int w)) e f g h (v (.int th)) (v (rf 2)) l x) (q':=[o]) ?_).trans ?_
 ·unfold M5 uP X8
  rw[show era (r16 ns P i a b c (v (.int w)) e f g h (v (.int th)) k l x)=[v (scr ns),none,v (.list (P.map pD)),v (.int i),K5 a,K5 b,K5 c,v (.int w),K5 e,K5 f,K5 g,K5 h,v (.int th),K5 k,K5 l,K5 x] from rfl,aQ4,cc,xbs];rfl
 ·unfold M5 uP X8
  rw[show era (r16 ns P i a b c (v (.int w)) e f g h (v (.int th)) (v (rf 2)) l x)=[v (scr ns),none,v (.list (P.map pD)),v (.int i),K5 a,K5 b,K5 c,v (.int w),K5 e,K5 f,K5 g,K5 h,v (.int th),v (rf 2),K5 l,K5 x] from rfl,aQ4,cc,xbs];rfl
end
end Lk71
namespace Lk71
open PySem G L2 Sh
section
variable {ns:List Int}{t i:Nat}{P:St}{o o':Fo}{L:List Sh.Sp}{a b c d e f g h x y1 y2 y3:Option B}{k j:Nm}{Mn:Man}{hh:Nat}{ll la lb:List Q4}{m:List (D×D)}
theorem bb1(h:D7 o.m k.s=none):O9 ms o [.str k.s]=some "NoName" := if_pos ⟨by rw[h];rfl,bE3 k⟩
theorem bK3{d:D}(h:D7 o.m k.s=some d):O9 ms o [.str k.s]=none:=if_neg (by rw[h];simp)
theorem ck7:b_7 (r16 ns P i a b c (v (.int 0)) d e f g y1 y2 y3 x) [o]=D8 an1 ad0 (r16 ns P i a b c (v (.int 0)) d e f g y1 y2 y3 x) [o]:=by kernel_rfl
theorem ce9:b_7 (r16 ns P i a b c (v (.int 1)) d e f g y1 y2 y3 x) [o]=D8 an1 ad0 (r16 ns P i a b c (v (.int 1)) d e f g y1 y2 y3 x) [o]:=by kernel_rfl
theorem bA4:b_7 (r16 ns P i a b c (v (.int 2)) d e f g y1 y2 y3 x) [o]=D8 an1 ad0 (r16 ns P i a b c (v (.int 2)) d e f g y1 y2 y3 x) [o]:=by kernel_rfl
theorem ce8:b_7 (r16 ns P i a b c (v (.int 3)) d e f g y1 y2 y3 x) [o]=an2 (r16 ns P i a b c (v (.int 3)) d e f g y1 y2 y3 x) [o]:=by kernel_rfl
theorem ce7:b_7 (r16 ns P i a b c (v (.int 4)) d e f g y1 y2 y3 x) [o]=an2 (r16 ns P i a b c (v (.int 4)) d e f g y1 y2 y3 x) [o]:=by kernel_rfl
def aw9(ns:List Int) (t i:Nat) (P:St) (o:Fo) (a b:Option B) (m:List (D×D)) (w:Int) (k j:Nm) (d:D) (Mn:Man) (y1 y2 y3 x:Option B):Prop:=∃due o' L' i' P' z1 z2,b_7 (r16 ns P i a b (v (.dict m)) (v (.int w)) (v (.str k.s)) (v (.str j.s)) (v (.str Mn.s)) (v (sm k j d Mn)) y1 y2 y3 x) [o]=some (.nx (r16 ns P' i' a b (v (.dict m)) (v (.int w)) (v (.str k.s)) (v (.str j.s)) (v (.str Mn.s)) (v (sm k j d Mn)) z1 (v due) z2 x) [o]) /\
 C4 o (tA w (.str k.s) (.str j.s) d (.str Mn.s))=some (due,o')/\Fz o' L' i'/\ai0 L'/\MsOk L' P'/\L'.length<=t+1/\neD due due=some (.bool false)
theorem al3:neD (rf 0) (rf 0)=some (.bool false):=by kernel_rfl
theorem bO3:neD (rf 1) (rf 1)=some (.bool false):=by kernel_rfl
theorem be9:neD (rf 2) (rf 2)=some (.bool false):=by kernel_rfl
theorem cb8(b:Bool):neD (.bool b) (.bool b)=some (.bool false):=by cases b<;>rfl
theorem be8(w h:Nat) (l:List Q4):neD (shD w h l) (shD w h l)=some (.bool false):=aN9 (Ly.sheet w h l) (by decide)
theorem cb5{w:Str}(h:w = "lay" \/ w = "take" \/ w = "blend"):neD (.str w) (.str w)=some (.bool false):=by
 rcases h with rfl|rfl|rfl<;>kernel_rfl
section
variable (F:Fz o L i) (G:ai0 L) (M:MsOk L P) (hL:L.length<=t) (ht:t < 8)
include F G M hL ht
theorem aK3{w:Int}{n:D}{due:D}(q:b_7 (r16 ns P i a b (v (.dict m)) (v (.int w)) (v (.str k.s)) (v (.str j.s)) (v (.str Mn.s)) (v (sm k j n Mn)) y1 y2 y3 x) [o]=some (.nx (r16 ns P i a b (v (.dict m)) (v (.int w)) (v (.str k.s)) (v (.str j.s)) (v (.str Mn.s)) (v (sm k j n Mn)) z1 (v due) z2 x) [o])) (e:C4 o (tA w (.str k.s) (.str j.s) n (.str Mn.s))=some (due,o)) (ne:neD due due=some (.bool false)):aw9 ns t i P o a b m w k j n Mn y1 y2 y3 x :=
 ⟨due,o,L,i,P,z1,z2,q,e,F,G,M,by omega,ne⟩
theorem aw7{w:Int}{n:D}{due:D}{wd:Str}{m':List (D×D)}{a0:Nm}{nw:Option D}(q:b_7 (r16 ns P i a b (v (.dict m)) (v (.int w)) (v (.str k.s)) (v (.str j.s)) (v (.str Mn.s)) (v (sm k j n Mn)) y1 y2 y3 x) [o]=D8 an1 ad0 (r16 ns P i a b (v (.dict m)) (v (.int w)) (v (.str k.s)) (v (.str j.s)) (v (.str Mn.s)) (v (sm k j n Mn)) y1 y2 y3 x) [o])
  (en:O2 (nA m w k j n (.str Mn.s))=some (.tuple [due,.dict m'])) (hw:atI ([.str "lay", .str "take", .str "blend"]:List D) w=some (.str wd)) (r:Rp m' ((at_ L i).up a0 nw)) (gd:l9 (szG (i+1)) ((at_ L i).up a0 nw))
  (F':Fz o' (L.take i++[⟨wd,a0,at_ L i a0,nw⟩]) (i+1)) (e:C4 o (tA w (.str k.s) (.str j.s) n (.str Mn.s))=some (due,o')) (ne:neD due due=some (.bool false)):aw9 ns t i P o a b m w k j n Mn y1 y2 y3 x:=by
 have le:=F.le
 have pl:=M.len
 have lt:(L.take i).length=i:=by rw[List.length_take,Nat.min_eq_left le]
 exact⟨due,o',_,i+1,_,_,_,q.trans ((Q6 (be5 en)).trans (bA9 (by omega) (by omega) hw)),e,F',bk0 G le _ gd,M.app le ⟨wd,a0,at_ L i a0,nw⟩ r,by rw[List.length_append,lt];show i+1<=t+1;omega,ne⟩
theorem aj6{w:Int}{n:D}{y:Int}(q:b_7 (r16 ns P i a b (v (.dict m)) (v (.int w)) (v (.str k.s)) (v (.str j.s)) (v (.str Mn.s)) (v (sm k j n Mn)) y1 y2 y3 x) [o]=D8 an1 ad0 (r16 ns P i a b (v (.dict m)) (v (.int w)) (v (.str k.s)) (v (.str j.s)) (v (.str Mn.s)) (v (sm k j n Mn)) y1 y2 y3 x) [o])
  (en:O2 (nA m w k j n (.str Mn.s))=some (.tuple [rf y,.none])) (e:C4 o (tA w (.str k.s) (.str j.s) n (.str Mn.s))=some (rf y,o)) (ne:neD (rf y) (rf y)=some (.bool false)):aw9 ns t i P o a b m w k j n Mn y1 y2 y3 x :=
 aK3 F G M hL ht (q.trans ((Q6 (be5 en)).trans bU6)) e ne
variable (R:Rp m (at_ L i)) (S:ShG 16 hh ll)
include R S
theorem cl9:aw9 ns t i P o a b m 0 k j (shD 2 hh ll) Mn y1 y2 y3 x:=by
 have Gs:=G i F.le
 obtain⟨o',e4,F'⟩:=ab0 F "lay" k (some (shD 2 hh ll)) (.inl rfl) (Gs.noN k) (fun d e=>by cases e;rfl) (.inr rfl) (by have:=F.le;omega)
 have e4:W7 o [.str "lay", .str k.s,shD 2 hh ll]=some (.none,o'):=e4
 have e5:ao3 o [.str k.s,shD 2 hh ll]=some (.bool (at_ L i k).isSome,o'):=by simp only[ao3,e4,xms,F.m.look k]
 exact aw7 F G M hL ht ck7 (n_0 R) rfl (R.put k _) (Gs.up k S (as6 i) (Nat.le_trans (bI9 i) (as6 i))) F' (go r_0 f_0 e5) (cb8 _)
theorem cl8:aw9 ns t i P o a b m 1 k j (shD 2 hh ll) Mn y1 y2 y3 x:=by
 have Gs:=G i F.le
 have lk:=F.m.look k
 cases hk:at_ L i k with
 | none =>
  rw[hk]at lk
  exact aj6 F G M hL ht ce9 (ci7 R hk) (Z1 (r_1.trans (bb1 lk)) (by decide +kernel) at5) al3
 | some d =>
  rw[hk]at lk
  obtain⟨h1,l1,rfl,S1⟩:=Gs k d hk
  obtain⟨o',e4,F'⟩:=ab0 F "take" k none (.inr (.inl rfl)) (Gs.noN k) (fun d e=>by cases e) (.inl (by rw[hk];rfl)) (by have:=F.le;omega)
  have e4:W7 o [.str "take", .str k.s,.none]=some (.none,o'):=e4
  have e5:ao2 o [.str k.s]=some (shD 2 h1 l1,o'):=by simp only[ao2,lk,xbs,e4,xms]
  exact aw7 F G M hL ht ce9 (n_1 R hk) rfl (R.drop k) (Gs.off k (as6 i)) F' (go (r_1.trans (bK3 lk)) f_1 e5) (be8 ..)
theorem cl7:aw9 ns t i P o a b m 2 k j (shD 2 hh ll) Mn y1 y2 y3 x:=by
 have Gs:=G i F.le
 have lk:=F.m.look k
 have lj:=F.m.look j
 cases hk:at_ L i k with
 | none =>
  rw[hk]at lk
  have q:Q8 ms A8 o [.str Mn.s,.str k.s,.str j.s]=some "NoName" := by
   simp only[Q8,lk];exact bb1 lk
  exact aj6 F G M hL ht bA4 (cb9 R (.inl hk)) (Z1 (r_2.trans q) (by decide +kernel) at5) al3
 | some d =>
  rw[hk]at lk
  cases hj:at_ L i j with
  | none =>
   rw[hj]at lj
   have q:Q8 ms A8 o [.str Mn.s,.str k.s,.str j.s]=some "NoName" := by
    simp only[Q8,lk,lj];exact bb1 lj
   exact aj6 F G M hL ht bA4 (cb9 R (.inr hj)) (Z1 (r_2.trans q) (by decide +kernel) at5) al3
  | some d2 =>
   rw[hj]at lj
   obtain⟨h1,l1,rfl,S1⟩:=Gs k d hk
   obtain⟨h2,l2,rfl,S2⟩:=Gs j d2 hj
   by_cases ne:h1=h2
   ·subst ne
    have z:=aL3 2 h1 2 h1 l1 l2
    simp only[decide_true,Bool.and_self]at z
    have h0:0 < i:=by
     rcases Nat.eq_zero_or_pos i with z|z
     ·subst z;cases hk
     ·exact z
    have hi:i<=7:=by have:=F.le;omega
    obtain⟨eb,Sb⟩:=bT5 Mn S1 S2 (aZ6 hi)
    rw[br2 h0]at Sb
    obtain⟨o',e4,F'⟩:=ab0 F "blend" j (some (shD 2 h1 (blL Mn l1 l2))) (.inr (.inr rfl)) (Gs.noN j) (fun d e=>by cases e;rfl) (.inr rfl) (by omega)
    have e4:W7 o [.str "blend", .str j.s,shD 2 h1 (blL Mn l1 l2)]=some (.none,o'):=e4
    have e5:X5 A8 C3 o [.str Mn.s,.str k.s,.str j.s]=some (shD 2 h1 (blL Mn l1 l2),o'):=by
     simp only[X5,lk,lj,xbs,z,eb,e4,xms]
    have q:Q8 ms A8 o [.str Mn.s,.str k.s,.str j.s]=none:=by
     simp only[Q8,lk,lj,z]
    exact aw7 F G M hL ht bA4 (n_2 Mn R hk hj S1 S2 (aZ6 hi)) rfl (R.put j _) (Gs.up j Sb (as6 i) (Nat.le_refl _)) F' (go (r_2.trans q) f_2 e5) (be8 ..)
   ·have z:=aL3 2 h1 2 h2 l1 l2
    simp only[decide_true,decide_eq_false ne,Bool.and_false]at z
    have q:Q8 ms A8 o [.str Mn.s,.str k.s,.str j.s]=some "NoMerge" := by
     simp only[Q8,lk,lj,z];rfl
    exact aj6 F G M hL ht bA4 (ci6 R hk hj S1.h12 S2.h12 ne) (Z1 (r_2.trans q) (by decide +kernel) bJ9) bO3
omit R S in
theorem cl6{n:D}:aw9 ns t i P o a b m 3 k j n Mn y1 y2 y3 x:=by
 have le:=F.le
 have pl:=M.len
 cases i with
 | zero =>
  have q:t6 o []=some "NoDeed" := by unfold t6;rw[F.b];rfl
  exact aK3 F G M hL ht (ce8.trans (bk9 (th:=-1) (by kernel_rfl) (by omega))) (Z1 (r_3.trans q) (by decide +kernel) ba9) be9
 | succ i =>
  obtain⟨o',e1,F'⟩:=bA2 F (by omega)
  obtain⟨x0,h1,h2⟩:=M.w i (by omega)
  have q:t6 o []=none:=by
   unfold t6
   rw[F.b,List.take_succ_eq_append_getElem (by omega),List.map_append]
   cases(L.take i).map Sp.d<;>rfl
  have hx:atI (P.map pD) (if(i:Int) > ((i+1:Nat):Int) then(i:Int) else((i+1:Nat):Int))=some (pD x0):=by
   rw[if_neg (by omega)];exact bU5 h1
  refine⟨_,o',L,i,P,_,_,ce8.trans (bl0 (th:=(i:Int)) (i':=i) (x0:=x0) ?_ (by omega) (by omega) hx rfl),?_,F',G,M,by omega,?_⟩
  ·show some (PyData.int (((i+1:Nat):Int) - 1))=_
   congr 2;omega
  ·rw[h2];exact go (r_3.trans q) f_3 e1
  ·rw[h2];exact cb5 (F.ok _ (List.getElem_mem _)).w
omit R S in
theorem cl5{n:D}:aw9 ns t i P o a b m 4 k j n Mn y1 y2 y3 x:=by
 have le:=F.le
 have pl:=M.len
 have e12:X8 (tB2 eqD (A2 7) ⇑3) (A9 aa9 (A2 3) ⇑1) (A9 P3 (A2 3) ⇑1) (era (r16 ns P i a b (v (.dict m)) (v (.int 4)) (v (.str k.s)) (v (.str j.s)) (v (.str Mn.s)) (v (sm k j n Mn)) y1 y2 y3 x))=some (.int ((i:Int)+1)):=by kernel_rfl
 rcases Nat.lt_or_ge i L.length with hi|hi
 ·obtain⟨o',e1,F'⟩:=bk3 F hi
  obtain⟨x0,h1,h2⟩:=M.w i hi
  have q:X2 o []=none:=by
   unfold X2
   rw[F.f,List.drop_eq_getElem_cons hi,List.reverse_cons,List.map_append]
   cases((L.drop (i+1)).reverse).map Sp.d<;>rfl
  have hx:atI (P.map pD) (if(i:Int)+1 > (i:Int) then(i:Int)+1 else(i:Int))=some (pD x0):=by
   rw[if_pos (by omega)];exact bU5 h1
  refine⟨_,o',L,i+1,P,_,_,ce7.trans (bl0 (i':=i+1) e12 (by omega) (by omega) hx (by omega)),?_,F',G,M,by omega,?_⟩
  ·rw[h2];exact go (r_4.trans q) f_4 e1
  ·rw[h2];exact cb5 (F.ok _ (List.getElem_mem _)).w
 ·have q:X2 o []=some "NoDeed" := by
   unfold X2
   rw[F.f,List.drop_of_length_le hi];rfl
  exact aK3 F G M hL ht (ce7.trans (bk9 e12 (by omega))) (Z1 (r_4.trans q) (by decide +kernel) ba9) be9
theorem act:∀{w:Nat},w < 5->aw9 ns t i P o a b m w k j (shD 2 hh ll) Mn y1 y2 y3 x
 | 0,_=>cl9 F G M hL ht R S
 | 1,_=>cl8 F G M hL ht R S
 | 2,_=>cl7 F G M hL ht R S
 | 3,_=>cl6 F G M hL ht
 | 4,_=>cl5 F G M hL ht
end
end
end Lk71
namespace Lk71
open PySem G L2 Sh
section
variable {ns:List Int}{t i:Nat}{P:St}{o o':Fo}{L:List Sh.Sp}{a b c d e f g h y1 y2 y3 x:Option B}{m:List (D×D)}
theorem ci5(a b:Int):neD (.tuple [.int a,.int b]) (.tuple [.int a,.int b])=some (.bool false):=aN9 (n:=1) (Ly.tup fun x hx=>by
 simp only[List.mem_cons,List.not_mem_nil,or_false]at hx
 rcases hx with rfl|rfl<;>exact Ly.int _ _) (by decide)
theorem cb7(s:Fn3):neD (.list ((nms s).map fun k=>.str k.s)) (.list ((nms s).map fun k=>.str k.s))=some (.bool false):=by
 unfold nms bM6
 simp only[List.filter_cons,List.filter_nil]
 cases(s .a).isSome<;>cases(s .b).isSome<;>cases(s .z).isSome<;>kernel_rfl
theorem k8{w:Int}{sv due:D}(q:C4 o [none,some (.int w),some sv]=some (due,o')) (ne:neD due due=some (.bool false)):b_8 (r16 ns P i a b c (v (.int w)) d e f (v sv) y1 (v due) y3 x) [o]=some (.nx (r16 ns P i a b c (v (.int w)) d e f (v sv) y1 (v due) y3 x) [o']):=by
 wp_walk using evD,b_8,uIf,uTB,uB2,uD,uP,O8,i6,mO,mC,mN,bn4,era,K5,q,ne
theorem k9(F:Fz o L i) (M:MsOk L P):b_9 (r16 ns P i a b c d e f g h y1 y2 y3 x) [o]=some (.nx (r16 ns P i a b c d e f g h y1 y2 y3 x) [o]):=by
 have e1:=aW1 F
 have le:=F.le
 have e2:((P.map pD).length:Int) - 1 - (i:Int)=((L.length - i:Nat):Int):=by rw[List.length_map,M.len];omega
 have e3:=ci5 (i:Int) ((L.length - i:Nat):Int)
 wp_walk using evD,b_9,uIf,uTB,uB2,uM0,uP,O8,i6,bn4,era,K5,e1,e2,e3
theorem k11(F:Fz o L i) (R:Rp m (at_ L i)):bA3 (r16 ns P i a b (v (.dict m)) d e f g h y1 y2 y3 x) [o]=some (.nx (r16 ns P i a b (v (.dict m)) d e f g h y1 y2 y3 x) [o]):=by
 have e1:=bf0 F.m
 have e2:=R.names
 have e3:=cb7 (at_ L i)
 wp_walk using evD,bA3,uIf,uTB,uB2,uM0,uP,O8,aC8,i6,bn4,era,K5,e1,e2,e3
theorem aH2{z:Str}{q:D}(hq:C4 o (tA 5 (.str z) (.str "") .none (.str ""))=some (q,o)) (hg:(D7 m z).getD (rf 0)=q) (ne:neD q q=some (.bool false)):ah3 (r16 ns P i a b (v (.dict m)) d e f g h y1 y2 y3 (v (.str z))) [o]=some (.nx (r16 ns P i a b (v (.dict m)) d e f g h y1 y2 y3 (v (.str z))) [o]):=by
 have hq:C4 o [none,some (.int 5),some (.tuple [.str z,.str "", .none,.str ""])]=some (q,o):=hq
 have hg:(D7 m z).getD (.tuple [.str "refused", .int 0])=q:=hg
 wp_walk using evD,ah3,uIf,uTB,uB2,uD,uP,O8,aC9,i6,mO,mC,mN,bn4,era,K5,hq,hg,ne
theorem bE5{z:Str}{t' s' m':D}(h:D7 o.m z=none) (hz:fsB ms z=true):C4 o (tA 5 (.str z) t' s' m')=some (rf 0,o):=Z1 (r_5.trans (if_pos ⟨by rw[h];rfl,hz⟩)) (by decide +kernel) at5
theorem bS3{z:Str}{d t' s' m':D}(h:D7 o.m z=some d):C4 o (tA 5 (.str z) t' s' m')=some (d,o):=go (r_5.trans (if_neg (by rw[h];simp))) f_5 (by simp only[M7,h,xms])
theorem aH3(F:Fz o L i) (G:ai0 L) (R:Rp m (at_ L i)) (k:Nm):ah3 (r16 ns P i a b (v (.dict m)) d e f g h y1 y2 y3 (v (.str k.s))) [o]=some (.nx (r16 ns P i a b (v (.dict m)) d e f g h y1 y2 y3 (v (.str k.s))) [o]):=by
 have lk:=F.m.look k
 have lm:=R.look k
 cases hk:at_ L i k with
 | none =>
  rw[hk]at lk lm
  exact aH2 (bE5 lk (bE3 k)) (by rw[lm];rfl) al3
 | some d =>
  rw[hk]at lk lm
  obtain⟨h1,l1,rfl,_⟩:=G i F.le k d hk
  exact aH2 (bS3 lk) (by rw[lm];rfl) (be8 ..)
theorem cb1{s:Fn3}(R:Rp m s):D7 m "c" = none:=by
 obtain⟨ks,_,_,rfl⟩:=R
 have:(ks.map (enK s)).find? (P7 "c")=none:=List.find?_eq_none.mpr fun x hx=>by
  obtain⟨k,_,rfl⟩:=List.mem_map.mp hx
  have:P7 "c" (enK s k)=(k.s==("c" : Str)):=rfl
  rw[this]
  cases k<;>decide +kernel
 unfold D7
 rw[this];rfl
theorem k12(F:Fz o L i) (G:ai0 L) (R:Rp m (at_ L i)):bU3 (r16 ns P i a b (v (.dict m)) d e f g h y1 y2 y3 x) [o]=some (.nx (r16 ns P i a b (v (.dict m)) d e f g h y1 y2 y3 (v (.str "c"))) [o]):=by
 have s1:∀z:Str,∀x,N9 15 (.str z) (r16 ns P i a b (v (.dict m)) d e f g h y1 y2 y3 x)=some (r16 ns P i a b (v (.dict m)) d e f g h y1 y2 y3 (v (.str z))):=fun _ _=>rfl
 have e1:=aH3 (ns:=ns) (P:=P) (a:=a) (b:=b) (d:=d) (e:=e) (f:=f) (g:=g) (h:=h) (y1:=y1) (y2:=y2) (y3:=y3) F G R .a
 have e2:=aH3 (ns:=ns) (P:=P) (a:=a) (b:=b) (d:=d) (e:=e) (f:=f) (g:=g) (h:=h) (y1:=y1) (y2:=y2) (y3:=y3) F G R .b
 have e3:=aH3 (ns:=ns) (P:=P) (a:=a) (b:=b) (d:=d) (e:=e) (f:=f) (g:=g) (h:=h) (y1:=y1) (y2:=y2) (y3:=y3) F G R .z
 have e4:=aH2 (ns:=ns) (P:=P) (i:=i) (a:=a) (b:=b) (d:=d) (e:=e) (f:=f) (g:=g) (h:=h) (y1:=y1) (y2:=y2) (y3:=y3) (bE5 (cb1 F.m) cj6) (by rw[cb1 R];rfl) al3
 have e1:ah3 (r16 ns P i a b (v (.dict m)) d e f g h y1 y2 y3 (v (.str "a"))) [o]=_:=e1
 have e2:ah3 (r16 ns P i a b (v (.dict m)) d e f g h y1 y2 y3 (v (.str "bo"))) [o]=_:=e2
 have e3:ah3 (r16 ns P i a b (v (.dict m)) d e f g h y1 y2 y3 (v (.str "zzzzzz"))) [o]=_:=e3
 show ag0 (N9 15) ah3 [.str "a", .str "bo", .str "zzzzzz", .str "c"] (r16 ns P i a b (v (.dict m)) d e f g h y1 y2 y3 x) [o]=_
 simp only[ag0,s1,xbs,e1,e2,e3,e4]
theorem it(hn:ns.length<=63) (ht:t < 8) (F:Fz o L i) (G:ai0 L) (M:MsOk L P) (hL:L.length<=t):∃o' L' i' P' b' c' d' e' f' g' h' y1' y2' y3' x',bd (r16 ns P i (v (.int t)) b c d e f g h y1 y2 y3 x) [o]=some (.nx (r16 ns P' i' (v (.int t)) b' c' d' e' f' g' h' y1' y2' y3' x') [o'])/\Fz o' L' i'/\ai0 L'/\MsOk L' P'/\L'.length<=t+1:=by
 obtain⟨w,a1,a2,Mn,hh,ll,m,hw,R,S,e0⟩:=cd7 (o:=o) hn ht M F.le (D8 b_7 (D8 b_8 (D8 b_9 (D8 bU4 (D8 bA3 bU3))))) b c d e f g h y1 y2 y3 x
 obtain⟨due,o',L',i',P',z1,z2,e7,e8,F',G',M',hL',ne⟩:=act (ns:=ns) (P:=P) (a:=v (.int t)) (b:=v (.int ((130*t:Nat):Int))) (k:=a1) (j:=a2) (Mn:=Mn) (y1:=y1) (y2:=y2) (y3:=y3) (x:=x) F G M hL ht R S hw
 obtain⟨m',e10,R'⟩:=aO8 (ns:=ns) M' F'.le
 have fin:=e0.trans ((Q6 e7).trans ((Q6 (k8 e8 ne)).trans ((Q6 (k9 F' M')).trans ((Q6 (ρ':=r16 ns P' i' (v (.int t)) (v (.int ((130*t:Nat):Int))) (v (.dict m')) (v (.int w)) (v (.str a1.s)) (v (.str a2.s)) (v (.str Mn.s)) (v (sm a1 a2 (shD 2 hh ll) Mn)) z1 (v due) z2 x) (q':=[o']) (by simp only[bU4,M5,uP,era,K5,xmc,xmn,e10,xms,xw0,xw1])).trans ((Q6 (k11 F' R')).trans (k12 F' G' R'))))))
 exact⟨o',L',i',P',_,_,_,_,_,_,_,_,_,_,_,fin,F',G',M',hL'⟩
def rg(i m:Nat):List D:=(List.range m).map fun(j:Nat)=>.int ((i+j:Nat):Int)
theorem bs4{n:Nat}:rg i (n+1)=.int (i:Int)::rg (i+1) n:=by
 unfold rg
 rw[List.range_succ_eq_map,xmc,List.map_map]
 congr 1
 refine List.map_congr_left fun j _=>?_
 show PyData.int ((i+(j+1):Nat):Int)=.int ((i+1+j:Nat):Int)
 congr 2;omega
theorem bK1(n:Nat):V1 0 n=rg 0 n:=by
 unfold V1 rg
 rw[show((n:Int) - 0).toNat=n by omega]
 refine List.map_congr_left fun j _=>?_
 congr 1
theorem loop(hn:ns.length<=63):∀(n t:Nat) (o:Fo) (L:List Sh.Sp) (i:Nat) (P:St) (a b c d e f g h y1 y2 y3 x:Option B),t+n<=8->Fz o L i->ai0 L->MsOk L P->L.length<=t->∃ρ' q',ag0 (N9 4) bd (rg t n) (r16 ns P i a b c d e f g h y1 y2 y3 x) [o]=some (.nx ρ' q')
 | 0,t,o,L,i,P,a,b,c,d,e,f,g,h,y1,y2,y3,x,_,_,_,_,_=>⟨_,_,rfl⟩
 | n+1,t,o,L,i,P,a,b,c,d,e,f,g,h,y1,y2,y3,x,hz,F,G,M,hL=>by
  obtain⟨o1,L1,i1,P1,b',c',d',e',f',g',h',z1,z2,z3,x',e1,F1,G1,M1,hL1⟩:=it (b:=b) (c:=c) (d:=d) (e:=e) (f:=f) (g:=g) (h:=h) (y1:=y1) (y2:=y2) (y3:=y3) (x:=x) hn (by omega) F G M hL
  obtain⟨ρ',q',e2⟩:=loop hn n (t+1) o1 L1 i1 P1 (v (.int t)) b' c' d' e' f' g' h' z1 z2 z3 x' (by omega) F1 G1 M1 hL1
  refine⟨ρ',q',?_⟩
  rw[bs4]
  show(bd (r16 ns P i (v (.int t)) b c d e f g h y1 y2 y3 x) [o]).bind _=_
  rw[e1]
  exact e2
end
theorem main(ns:List Int) (hn:ns.length<=63):aE2 [.list (ns.map PyData.int)]=some (.bool true):=by
 obtain⟨n,h8,hr⟩:∃n:Nat,n<=8/\V4 (ac7 ⇑1 (aq8 ⇑8 (l5 (C2 0)))) (era (r16 ns [("", [])] 0 none none none none none none none none none none none none))=some (rg 0 n):=by
  have e:ac7 ⇑1 (aq8 ⇑8 (l5 (C2 0))) (era (r16 ns [("", [])] 0 none none none none none none none none none none none none))=some (.int ((max 1 (min 8 ns.length):Nat):Int)):=by
   show some (PyData.int (if(if((ns.map PyData.int).length:Int) < 8 then((ns.map PyData.int).length:Int) else 8) > 1 then(if((ns.map PyData.int).length:Int) < 8 then((ns.map PyData.int).length:Int) else 8) else 1))=_
   rw[List.length_map]
   congr 2
   split<;>split<;>omega
  refine⟨max 1 (min 8 ns.length),by omega,?_⟩
  unfold V4
  rw[e,xbs]
  dsimp only
  rw[if_pos (by omega),bK1]
 obtain⟨ρ',q',e2⟩:=loop hn n 0 fo0 [] 0 [("", [])] none none none none none none none none none none none none (by omega) Fz.new ai0.nil MsOk.nil (Nat.le_refl _)
 have go:bF2 (P8 16 [scr ns]) []=some (.rt (.bool true) q'):=by
  show D8 (aF3 (V4 (ac7 ⇑1 (aq8 ⇑8 (l5 (C2 0))))) (N9 4) bd) (P0 (uP (dC (.bool true)))) (r16 ns [("", [])] 0 none none none none none none none none none none none none) [fo0]=_
  refine(Q6 (ρ':=ρ') (q':=q') ?_).trans rfl
  unfold aF3
  rw[hr]
  exact e2
 unfold aE2 bs3
 rw[show([.list (ns.map PyData.int)]:List D)=[scr ns] from rfl,go];rfl
end Lk71
namespace Lk71
open PySem PySem.Spec PyProof.Rows L2 G Sh
def zcs:List (Str×D):=[("ONE", (.tuple [(.int 1),(.int 1)]))]
def zbl:List Str:=["ValueError", "dict", "isinstance", "len", "max", "min", "range", "sorted", "tuple", "zip"]
def tb0:Tab:=[]
def zcl:List Str:=["NoDeed", "NoMerge", "NoName"]
def ztb:List (Str×List (Str×Bool)):=[("NoDeed", [("NoDeed", true),("NoMerge", false),("NoName", false)]),("NoMerge", [("NoDeed", false),("NoMerge", true),("NoName", false)]),("NoName", [("NoDeed", false),("NoMerge", false),("NoName", true)]),("ValueError", [("NoDeed", true),("NoMerge", true),("NoName", true)])]
def zsb:List (Str×List Str):=[("GlazeError", ["NoDeed", "NoMerge", "NoName"])]
def znb:List (Str×List Str):=[("GlazeError", [])]
def zT(rt:bo1) (xt:aK5):Rg:=⟨rt,zcl,ztb,zsb,znb,xt⟩
def rt0:bo1:=[]
def xt0:aK5:=[]
def ae6:Fd:=fdm "common_divisor" (top 8) 2 ["one", "other", "left_over"] true
def av7:Fd:=fdm "least_form" (top 9) 2 ["top", "under", "divisor"] true
def av8:Fd:=fdm "is_at_most" (top 10) 2 ["one", "other"] true
def bz5:Fd:=fdm "added" (top 11) 2 ["one", "other"] true
def aJ1:Fd:=fdm "lessened" (top 12) 2 ["one", "other"] true
def bz4:Fd:=fdm "times" (top 13) 2 ["one", "other"] true
def aV4:Fd:=fdm "rest_of" (top 14) 1 ["share"] true
def ao4:Fd:=fdm "at_most_one" (top 15) 1 ["fraction"] true
def ah8:Fd:=fdm "blended_cover" (top 17) 3 ["manner", "c", "d"] true
def ae8:Fd:=fdm "blended_colour" (top 18) 5 ["manner", "c", "d", "x", "y", "through"] true
def aW0:Fd:={ fdm "blended" (top 19) 3 ["manner", "above", "below", "c", "d", "colours"] true with hc:=[((61,14),[0,3,4])] }
def ac5:Fd:=fdm "are_of_one_size" (top 21) 2 ["one", "other"]
def ae7:Fd:={ fdm "blended_sheets" (top 22) 3 ["manner", "above", "below", "spots"] with hc:=[((67,12),[0])] }
def bm4:Fd:=fdm "_law_cell" (top 26) 2 ["_law_script", "_law_k"] true
def aV8:Fd:=fdm "_law_drawn" (top 27) 3 ["_law_script", "_law_k", "_law_many", "_law_cell_here"] true
def bm3:Fd:=fdm "_law_made" (top 28) 2 ["_law_top", "_law_under", "_law_one", "_law_by"] true
def aV5:Fd:=fdm "_law_times" (top 29) 2 ["_law_one", "_law_other"] true
def aV7:Fd:=fdm "_law_share" (top 30) 2 ["_law_script", "_law_at", "_law_under", "_law_drawn_here"] true
def bm0:Fd:={ fdm "_law_spot" (top 31) 2 ["_law_script", "_law_at", "_law_cover"] true with hc:=[((159,33),[2,0,1])] }
def aV6:Fd:={ fdm "_law_sheet" (top 32) 4 ["_law_script", "_law_at", "_law_wide", "_law_high", "_law_spots"] with hc:=[((161,17),[0,1])] }
def aC7:Fd:=fdm "_law_refused" (top 33) 1 ["_law_e", "_law_flags"]
def xt1:aK5:=("_law_refused", F9)::xt0
def bl9:Fd:=fdm "_law_told" (top 34) 3 ["_law_folio", "_law_way", "_law_some", "_law_name", "_law_other", "_law_sheet_here", "_law_manner", "_law_e"]
def bm1:Fd:={ fdm "_law_next" (top 35) 3 ["_law_held", "_law_way", "_law_some", "_law_name", "_law_other", "_law_sheet_here", "_law_manner", "_law_more", "_law_spots"] with own:=[7],dx:=[0,7],hc:=[((194,17),[6])] }
def bE6:Fd:=fdm "law" (top 36) 1 ["_law_script", "_law_folio", "_law_states", "_law_at", "_law_k", "_law_here", "_law_held", "_law_way", "_law_name", "_law_other", "_law_manner", "_law_some", "_law_there", "_law_due", "_law_more", "_law_one"]
def mth(j:Nat):Stmt:=(ck4 (top 24)).getD j (.Pass ⟨0,0,0,0⟩)
def aV1:Fd:=fdm "__init__" (mth 0) 1 ["self"]
theorem aW6:A4 (mth 0)=[.Assign [(.Attribute (.Name "self" ⟨73,8,73,12⟩) "sheets" ⟨73,8,73,19⟩)] (.Dict [] [] ⟨73,22,73,24⟩) ⟨73,8,73,24⟩,.Assign [(.Attribute (.Name "self" ⟨74,8,74,12⟩) "steps_back" ⟨74,8,74,23⟩)] (.List [] ⟨74,26,74,28⟩) ⟨74,8,74,28⟩,.Assign [(.Attribute (.Name "self" ⟨75,8,75,12⟩) "steps_forth" ⟨75,8,75,24⟩)] (.List [] ⟨75,27,75,29⟩) ⟨75,8,75,29⟩]:=by kernel_rfl
def av5:Fd:=fdm "set_sheet" (mth 1) 3 ["self", "name", "sheet"]
theorem aw5:A4 (mth 1)=[.If (.Compare (.Name "sheet" ⟨78,11,78,16⟩) [.Is] [(.Constant .none 0 ⟨78,20,78,24⟩)] ⟨78,11,78,24⟩) [.Expr (.Call (.Attribute (.Attribute (.Name "self" ⟨79,12,79,16⟩) "sheets" ⟨79,12,79,23⟩) "pop" ⟨79,12,79,27⟩) [(.Name "name" ⟨79,28,79,32⟩)] [] ⟨79,12,79,33⟩) ⟨79,12,79,33⟩] [.Assign [(.Subscript (.Attribute (.Name "self" ⟨81,12,81,16⟩) "sheets" ⟨81,12,81,23⟩) (.Name "name" ⟨81,24,81,28⟩) ⟨81,12,81,29⟩)] (.Name "sheet" ⟨81,32,81,37⟩) ⟨81,12,81,37⟩] ⟨78,8,81,37⟩]:=by kernel_rfl
def av4:Fd:=fdm "take_step" (mth 2) 4 ["self", "word", "name", "sheet"]
theorem aw4:A4 (mth 2)=[.Expr (.Call (.Attribute (.Attribute (.Name "self" ⟨84,8,84,12⟩) "steps_back" ⟨84,8,84,23⟩) "append" ⟨84,8,84,30⟩) [(.Tuple [(.Name "word" ⟨84,32,84,36⟩),(.Name "name" ⟨84,38,84,42⟩),(.Call (.Attribute (.Attribute (.Name "self" ⟨84,44,84,48⟩) "sheets" ⟨84,44,84,55⟩) "get" ⟨84,44,84,59⟩) [(.Name "name" ⟨84,60,84,64⟩)] [] ⟨84,44,84,65⟩),(.Name "sheet" ⟨84,67,84,72⟩)] 0 ⟨84,31,84,73⟩)] [] ⟨84,8,84,74⟩) ⟨84,8,84,74⟩,.Assign [(.Attribute (.Name "self" ⟨85,8,85,12⟩) "steps_forth" ⟨85,8,85,24⟩)] (.List [] ⟨85,27,85,29⟩) ⟨85,8,85,29⟩,.Expr (.Call (.Attribute (.Name "self" ⟨86,8,86,12⟩) "set_sheet" ⟨86,8,86,22⟩) [(.Name "name" ⟨86,23,86,27⟩),(.Name "sheet" ⟨86,29,86,34⟩)] [] ⟨86,8,86,35⟩) ⟨86,8,86,35⟩]:=by kernel_rfl
def bS7:Fd:=fdm "lay" (mth 3) 3 ["self", "name", "sheet", "was_there"]
theorem bT4:A4 (mth 3)=[.Assign [(.Name "was_there" ⟨89,8,89,17⟩)] (.Compare (.Name "name" ⟨89,20,89,24⟩) [.In] [(.Attribute (.Name "self" ⟨89,28,89,32⟩) "sheets" ⟨89,28,89,39⟩)] ⟨89,20,89,39⟩) ⟨89,8,89,39⟩,.Expr (.Call (.Attribute (.Name "self" ⟨90,8,90,12⟩) "take_step" ⟨90,8,90,22⟩) [(.Constant (.str "lay") 0 ⟨90,23,90,28⟩),(.Name "name" ⟨90,30,90,34⟩),(.Name "sheet" ⟨90,36,90,41⟩)] [] ⟨90,8,90,42⟩) ⟨90,8,90,42⟩,.Return (some (.Name "was_there" ⟨91,15,91,24⟩)) ⟨91,8,91,24⟩]:=by kernel_rfl
def aC4:Fd:=fdm "fetch" (mth 4) 2 ["self", "name"]
theorem aD9:A4 (mth 4)=[.If (.Compare (.Name "name" ⟨94,11,94,15⟩) [.NotIn] [(.Attribute (.Name "self" ⟨94,23,94,27⟩) "sheets" ⟨94,23,94,34⟩)] ⟨94,11,94,34⟩) [.Raise (some (.Call (.Name "NoName" ⟨95,18,95,24⟩) [(.JoinedStr [(.Constant (.str "no sheet is by the name ") 0 ⟨95,27,95,51⟩),(.FormattedValue (.Name "name" ⟨95,52,95,56⟩) 114 none ⟨95,51,95,59⟩)] ⟨95,25,95,60⟩)] [] ⟨95,18,95,61⟩)) none ⟨95,12,95,61⟩] [] ⟨94,8,95,61⟩,.Return (some (.Subscript (.Attribute (.Name "self" ⟨96,15,96,19⟩) "sheets" ⟨96,15,96,26⟩) (.Name "name" ⟨96,27,96,31⟩) ⟨96,15,96,32⟩)) ⟨96,8,96,32⟩]:=by kernel_rfl
def ag9:Fd:=fdm "take_off" (mth 5) 2 ["self", "name", "sheet"]
theorem ah2:A4 (mth 5)=[.Assign [(.Name "sheet" ⟨99,8,99,13⟩)] (.Call (.Attribute (.Name "self" ⟨99,16,99,20⟩) "fetch" ⟨99,16,99,26⟩) [(.Name "name" ⟨99,27,99,31⟩)] [] ⟨99,16,99,32⟩) ⟨99,8,99,32⟩,.Expr (.Call (.Attribute (.Name "self" ⟨100,8,100,12⟩) "take_step" ⟨100,8,100,22⟩) [(.Constant (.str "take") 0 ⟨100,23,100,29⟩),(.Name "name" ⟨100,31,100,35⟩),(.Constant .none 0 ⟨100,37,100,41⟩)] [] ⟨100,8,100,42⟩) ⟨100,8,100,42⟩,.Return (some (.Name "sheet" ⟨101,15,101,20⟩)) ⟨101,8,101,20⟩]:=by kernel_rfl
def aC5:Fd:=fdm "blend" (mth 6) 4 ["self", "manner", "above", "below", "upper", "lower", "sheet"]
theorem aE0:A4 (mth 6)=[.Assign [(.Name "upper" ⟨104,8,104,13⟩)] (.Call (.Attribute (.Name "self" ⟨104,16,104,20⟩) "fetch" ⟨104,16,104,26⟩) [(.Name "above" ⟨104,27,104,32⟩)] [] ⟨104,16,104,33⟩) ⟨104,8,104,33⟩,.Assign [(.Name "lower" ⟨105,8,105,13⟩)] (.Call (.Attribute (.Name "self" ⟨105,16,105,20⟩) "fetch" ⟨105,16,105,26⟩) [(.Name "below" ⟨105,27,105,32⟩)] [] ⟨105,16,105,33⟩) ⟨105,8,105,33⟩,.If (.UnaryOp .Not (.Call (.Name "are_of_one_size" ⟨106,15,106,30⟩) [(.Name "upper" ⟨106,31,106,36⟩),(.Name "lower" ⟨106,38,106,43⟩)] [] ⟨106,15,106,44⟩) ⟨106,11,106,44⟩) [.Raise (some (.Call (.Name "NoMerge" ⟨107,18,107,25⟩) [(.Constant (.str "the sheets are of unlike sizes") 0 ⟨107,26,107,58⟩)] [] ⟨107,18,107,59⟩)) none ⟨107,12,107,59⟩] [] ⟨106,8,107,59⟩,.Assign [(.Name "sheet" ⟨108,8,108,13⟩)] (.Call (.Name "blended_sheets" ⟨108,16,108,30⟩) [(.Name "manner" ⟨108,31,108,37⟩),(.Name "upper" ⟨108,39,108,44⟩),(.Name "lower" ⟨108,46,108,51⟩)] [] ⟨108,16,108,52⟩) ⟨108,8,108,52⟩,.Expr (.Call (.Attribute (.Name "self" ⟨109,8,109,12⟩) "take_step" ⟨109,8,109,22⟩) [(.Constant (.str "blend") 0 ⟨109,23,109,30⟩),(.Name "below" ⟨109,32,109,37⟩),(.Name "sheet" ⟨109,39,109,44⟩)] [] ⟨109,8,109,45⟩) ⟨109,8,109,45⟩,.Return (some (.Name "sheet" ⟨110,15,110,20⟩)) ⟨110,8,110,20⟩]:=by kernel_rfl
def aP3:Fd:=fdm "back" (mth 8) 1 ["self", "step"]
theorem aQ6:A4 (mth 8)=[.If (.Compare (.Call (.Name "len" ⟨116,11,116,14⟩) [(.Attribute (.Name "self" ⟨116,15,116,19⟩) "steps_back" ⟨116,15,116,30⟩)] [] ⟨116,11,116,31⟩) [.Eq] [(.Constant (.int 0) 0 ⟨116,35,116,36⟩)] ⟨116,11,116,36⟩) [.Raise (some (.Call (.Name "NoDeed" ⟨117,18,117,24⟩) [(.Constant (.str "no step can be taken back") 0 ⟨117,25,117,52⟩)] [] ⟨117,18,117,53⟩)) none ⟨117,12,117,53⟩] [] ⟨116,8,117,53⟩,.Assign [(.Name "step" ⟨118,8,118,12⟩)] (.Call (.Attribute (.Attribute (.Name "self" ⟨118,15,118,19⟩) "steps_back" ⟨118,15,118,30⟩) "pop" ⟨118,15,118,34⟩) [] [] ⟨118,15,118,36⟩) ⟨118,8,118,36⟩,.Expr (.Call (.Attribute (.Name "self" ⟨119,8,119,12⟩) "set_sheet" ⟨119,8,119,22⟩) [(.Subscript (.Name "step" ⟨119,23,119,27⟩) (.Constant (.int 1) 0 ⟨119,28,119,29⟩) ⟨119,23,119,30⟩),(.Subscript (.Name "step" ⟨119,32,119,36⟩) (.Constant (.int 2) 0 ⟨119,37,119,38⟩) ⟨119,32,119,39⟩)] [] ⟨119,8,119,40⟩) ⟨119,8,119,40⟩,.Expr (.Call (.Attribute (.Attribute (.Name "self" ⟨120,8,120,12⟩) "steps_forth" ⟨120,8,120,24⟩) "append" ⟨120,8,120,31⟩) [(.Name "step" ⟨120,32,120,36⟩)] [] ⟨120,8,120,37⟩) ⟨120,8,120,37⟩,.Return (some (.Subscript (.Name "step" ⟨121,15,121,19⟩) (.Constant (.int 0) 0 ⟨121,20,121,21⟩) ⟨121,15,121,22⟩)) ⟨121,8,121,22⟩]:=by kernel_rfl
def aC3:Fd:=fdm "forth" (mth 9) 1 ["self", "step"]
theorem aD8:A4 (mth 9)=[.If (.Compare (.Call (.Name "len" ⟨124,11,124,14⟩) [(.Attribute (.Name "self" ⟨124,15,124,19⟩) "steps_forth" ⟨124,15,124,31⟩)] [] ⟨124,11,124,32⟩) [.Eq] [(.Constant (.int 0) 0 ⟨124,36,124,37⟩)] ⟨124,11,124,37⟩) [.Raise (some (.Call (.Name "NoDeed" ⟨125,18,125,24⟩) [(.Constant (.str "no step can be done again") 0 ⟨125,25,125,52⟩)] [] ⟨125,18,125,53⟩)) none ⟨125,12,125,53⟩] [] ⟨124,8,125,53⟩,.Assign [(.Name "step" ⟨126,8,126,12⟩)] (.Call (.Attribute (.Attribute (.Name "self" ⟨126,15,126,19⟩) "steps_forth" ⟨126,15,126,31⟩) "pop" ⟨126,15,126,35⟩) [] [] ⟨126,15,126,37⟩) ⟨126,8,126,37⟩,.Expr (.Call (.Attribute (.Name "self" ⟨127,8,127,12⟩) "set_sheet" ⟨127,8,127,22⟩) [(.Subscript (.Name "step" ⟨127,23,127,27⟩) (.Constant (.int 1) 0 ⟨127,28,127,29⟩) ⟨127,23,127,30⟩),(.Subscript (.Name "step" ⟨127,32,127,36⟩) (.Constant (.int 3) 0 ⟨127,37,127,38⟩) ⟨127,32,127,39⟩)] [] ⟨127,8,127,40⟩) ⟨127,8,127,40⟩,.Expr (.Call (.Attribute (.Attribute (.Name "self" ⟨128,8,128,12⟩) "steps_back" ⟨128,8,128,23⟩) "append" ⟨128,8,128,30⟩) [(.Name "step" ⟨128,31,128,35⟩)] [] ⟨128,8,128,36⟩) ⟨128,8,128,36⟩,.Return (some (.Subscript (.Name "step" ⟨129,15,129,19⟩) (.Constant (.int 0) 0 ⟨129,20,129,21⟩) ⟨129,15,129,22⟩)) ⟨129,8,129,22⟩]:=by kernel_rfl
def aV2:Fd:=fdm "counts" (mth 10) 1 ["self"]
theorem aW7:A4 (mth 10)=[.Return (some (.Tuple [(.Call (.Name "len" ⟨132,16,132,19⟩) [(.Attribute (.Name "self" ⟨132,20,132,24⟩) "steps_back" ⟨132,20,132,35⟩)] [] ⟨132,16,132,36⟩),(.Call (.Name "len" ⟨132,38,132,41⟩) [(.Attribute (.Name "self" ⟨132,42,132,46⟩) "steps_forth" ⟨132,42,132,58⟩)] [] ⟨132,38,132,59⟩)] 0 ⟨132,15,132,60⟩)) ⟨132,8,132,60⟩]:=by kernel_rfl
def bl7:Fd:=fdm "names" (mth 7) 1 ["self"]
theorem bn5:A4 (mth 7)=[.Return (some (.Call (.Name "sorted" ⟨113,15,113,21⟩) [(.Attribute (.Name "self" ⟨113,22,113,26⟩) "sheets" ⟨113,22,113,33⟩)] [] ⟨113,15,113,34⟩)) ⟨113,8,113,34⟩]:=by kernel_rfl
structure Ms (K:PySem.W.Frag) (C:Addr):Prop where
 m_init__:KM K C "__init__" "Folio.__init__" (mth 0)
 m_set_sheet:KM K C "set_sheet" "Folio.set_sheet" (mth 1)
 m_take_step:KM K C "take_step" "Folio.take_step" (mth 2)
 m_lay:KM K C "lay" "Folio.lay" (mth 3)
 m_fetch:KM K C "fetch" "Folio.fetch" (mth 4)
 m_take_off:KM K C "take_off" "Folio.take_off" (mth 5)
 m_blend:KM K C "blend" "Folio.blend" (mth 6)
 m_back:KM K C "back" "Folio.back" (mth 8)
 m_forth:KM K C "forth" "Folio.forth" (mth 9)
 m_counts:KM K C "counts" "Folio.counts" (mth 10)
 m_names:KM K C "names" "Folio.names" (mth 7)
theorem ck6:A4 (top 35)=[((A4 (top 35)).getD 0 (.Pass ⟨0,0,0,0⟩)),.Assign [(.Name "_law_more" ⟨184,4,184,13⟩)] (.Call (.Name "dict" ⟨184,16,184,20⟩) [(.Name "_law_held" ⟨184,21,184,30⟩)] [] ⟨184,16,184,31⟩) ⟨184,4,184,31⟩,.If (as8 ((A4 (top 35)).getD 2 (.Pass ⟨0,0,0,0⟩))) [.Assign [(.Subscript (.Name "_law_more" ⟨186,8,186,17⟩) (.Name "_law_name" ⟨186,18,186,27⟩) ⟨186,8,186,28⟩)] (.Name "_law_sheet_here" ⟨186,31,186,46⟩) ⟨186,8,186,46⟩,.Return (some (.Tuple [bJ3 ((A4 (top 35)).getD 2 (.Pass ⟨0,0,0,0⟩)),(.Name "_law_more" ⟨187,40,187,49⟩)] 0 ⟨187,15,187,50⟩)) ⟨187,8,187,50⟩] [] ⟨185,4,187,50⟩,.If (as8 ((A4 (top 35)).getD 3 (.Pass ⟨0,0,0,0⟩))) [.Return (some (bC5 ((A4 (top 35)).getD 3 (.Pass ⟨0,0,0,0⟩)))) ⟨189,8,189,37⟩] [] ⟨188,4,189,37⟩,.If (as8 ((A4 (top 35)).getD 4 (.Pass ⟨0,0,0,0⟩))) [.Return (some (.Tuple [(.Call (.Attribute (.Name "_law_more" ⟨191,16,191,25⟩) "pop" ⟨191,16,191,29⟩) [(.Name "_law_name" ⟨191,30,191,39⟩)] [] ⟨191,16,191,40⟩),(.Name "_law_more" ⟨191,42,191,51⟩)] 0 ⟨191,15,191,52⟩)) ⟨191,8,191,52⟩] [] ⟨190,4,191,52⟩,.If (as8 ((A4 (top 35)).getD 5 (.Pass ⟨0,0,0,0⟩))) [.Return (some (bC5 ((A4 (top 35)).getD 5 (.Pass ⟨0,0,0,0⟩)))) ⟨193,8,193,37⟩] [] ⟨192,4,193,37⟩,((A4 (top 35)).getD 6 (.Pass ⟨0,0,0,0⟩)),.Assign [(.Subscript (.Name "_law_more" ⟨195,4,195,13⟩) (.Name "_law_other" ⟨195,14,195,24⟩) ⟨195,4,195,25⟩)] (bY3 ((A4 (top 35)).getD 7 (.Pass ⟨0,0,0,0⟩))) ⟨195,4,195,75⟩,.Return (some (.Tuple [(.Subscript (.Name "_law_more" ⟨196,12,196,21⟩) (.Name "_law_other" ⟨196,22,196,32⟩) ⟨196,12,196,33⟩),(.Name "_law_more" ⟨196,35,196,44⟩)] 0 ⟨196,11,196,45⟩)) ⟨196,4,196,45⟩]:=by kernel_rfl
structure Qs (K:PySem.W.Frag):Prop where
 h_common_divisor:KF K "common_divisor" (top 8)
 h_least_form:KF K "least_form" (top 9)
 h_is_at_most:KF K "is_at_most" (top 10)
 h_added:KF K "added" (top 11)
 h_lessened:KF K "lessened" (top 12)
 h_times:KF K "times" (top 13)
 h_rest_of:KF K "rest_of" (top 14)
 h_at_most_one:KF K "at_most_one" (top 15)
 h_blended_cover:KF K "blended_cover" (top 17)
 h_blended_colour:KF K "blended_colour" (top 18)
 h_blended:KF K "blended" (top 19)
 h_are_of_one_size:KF K "are_of_one_size" (top 21)
 h_blended_sheets:KF K "blended_sheets" (top 22)
 h_l_cell:KF K "_law_cell" (top 26)
 h_l_drawn:KF K "_law_drawn" (top 27)
 h_l_made:KF K "_law_made" (top 28)
 h_l_times:KF K "_law_times" (top 29)
 h_l_share:KF K "_law_share" (top 30)
 h_l_spot:KF K "_law_spot" (top 31)
 h_l_sheet:KF K "_law_sheet" (top 32)
 h_l_refused:KF K "_law_refused" (top 33)
 h_l_told:KF K "_law_told" (top 34)
 h_l_next:KF K "_law_next" (top 35)
 h_law:KF K "law" (top 36)
 h_cls:∃C,KCl K C "Folio" /\ Ms K C
theorem cf8{P:Program}{w:World}{K:PySem.W.Frag}{mg:Str->Option Value}(M:Md K mg zcs zbl) (L:∀rt xt,Cl K mg (zT rt xt)) (q:Qs K) {C:Addr}(c:KCl K C "Folio") (z:Ms K C):∃tab O,rdV tab zcs zbl O bE6=aE2/\∀base:Heap,VOk P w K mg base C 36 tab O:=by
 refine⟨?tab,?O,?e,fun base=>?t⟩
 case t =>
  have t:TOk P w K mg base 0 tb0:=TOk.nil
  have r:TRk P w K mg base 0 rt0:=TRk.nil
  have x:TXk P w K mg base 0 xt0:=TXk.nil
  have t:=t.add M ae6 q.h_common_divisor S3
  have t:=t.add M av7 q.h_least_form R8
  have t:=t.add M av8 q.h_is_at_most c8
  have t:=t.add M bz5 q.h_added T4
  have t:=t.add M aJ1 q.h_lessened W0
  have t:=t.add M bz4 q.h_times U7
  have t:=t.add M aV4 q.h_rest_of Y8
  have t:=t.add M ao4 q.h_at_most_one S9
  have t:=t.add M ah8 q.h_blended_cover U0
  have t:=t.add M ae8 q.h_blended_colour S4
  have t:=t.add M aW0 q.h_blended U9
  have t:=t.add M ac5 q.h_are_of_one_size A8
  have t:=t.add M ae7 q.h_blended_sheets C3
  have t:=t.add M bm4 q.h_l_cell an6
  have t:=t.add M aV8 q.h_l_drawn B5
  have t:=t.add M bm3 q.h_l_made ad4
  have t:=t.add M aV5 q.h_l_times af9
  have t:=t.add M aV7 q.h_l_share o7
  have t:=t.add M bm0 q.h_l_spot Y9
  have t:=t.add M aV6 q.h_l_sheet U8
  have x:TXk P w K mg base 1 xt1:=x.add (T:=zT rt0 xt0) M (L _ _) aC7 q.h_l_refused F9
  have t:=t.addNx M bm1 q.h_l_next bD5 ab8 az5 aq1 az4 aN7 az6 aN6 az7 az8 ck6 rfl (by kernel_rfl) (by kernel_rfl) (by kernel_rfl) (by kernel_rfl) (by kernel_rfl) (by kernel_rfl) (by kernel_rfl) (by kernel_rfl) (by kernel_rfl) (by kernel_rfl) (by intros;kernel_rfl) (by kernel_rfl) (by kernel_rfl) (by kernel_rfl) (by kernel_rfl) (by kernel_rfl) rfl
  have t:TOk P w K mg base 21 _:=t
  have i:=iok (P:=P) (w:=w) (base:=base) M c aV1 z.m_init__ rfl rfl rfl (by kernel_rfl) aW6 (by kernel_rfl) (by repeat (first|exact rfl|intro _))
  have n:=nmk M t c bl7 z.m_names rfl rfl rfl (by kernel_rfl) (by kernel_rfl) bn5 (by kernel_rfl) (by repeat (first|exact rfl|intro _))
  have m:MOk P w K mg base C 21 []:=MOk.nil.mono (Nat.zero_le _)
  have m:MOk P w K mg base C 22 _:=m.add M t c.foc av5 z.m_set_sheet v7 2 "self" ["name", "sheet"] fun X F b a o ds r o' _ e=>(show OM X C b _ _ (A4 (mth 1)) _ _ by rw[aw5];exact ba4 F rfl (by kernel_rfl) rfl e)
  have t:TOk P w K mg base 22 _:=t.mono (Nat.le_succ _)
  have m:MOk P w K mg base C 23 _:=m.add M t c.foc av4 z.m_take_step W7 3 "self" ["word", "name", "sheet"] fun X F b a o ds r o' _ e=>(show OM X C b _ _ (A4 (mth 2)) _ _ by rw[aw4];exact aR7 F rfl (by kernel_rfl) rfl rfl rfl rfl e)
  have t:TOk P w K mg base 23 _:=t.mono (Nat.le_succ _)
  have m:MOk P w K mg base C 24 _:=m.add M t c.foc bS7 z.m_lay ao3 2 "self" ["name", "sheet", "was_there"] fun X F b a o ds r o' _ e=>(show OM X C b _ _ (A4 (mth 3)) _ _ by rw[bT4];exact bf9 F rfl rfl (by kernel_rfl) rfl rfl e)
  have t:TOk P w K mg base 24 _:=t.mono (Nat.le_succ _)
  have m:MOk P w K mg base C 25 _:=m.add M t c.foc aC4 z.m_fetch M7 1 "self" ["name"] fun X F b a o ds r o' _ e=>(show OM X C b _ _ (A4 (mth 4)) _ _ by rw[aD9];exact aI8 F rfl (by kernel_rfl) e)
  have t:TOk P w K mg base 25 _:=t.mono (Nat.le_succ _)
  have m:MOk P w K mg base C 26 _:=m.add M t c.foc ag9 z.m_take_off ao2 1 "self" ["name", "sheet"] fun X F b a o ds r o' _ e=>(show OM X C b _ _ (A4 (mth 5)) _ _ by rw[ah2];exact bd9 F rfl rfl (by kernel_rfl) rfl rfl rfl rfl e)
  have t:TOk P w K mg base 26 _:=t.mono (Nat.le_succ _)
  have m:MOk P w K mg base C 27 _:=m.add M t c.foc aC5 z.m_blend (X5 A8 C3) 3 "self" ["manner", "above", "below", "upper", "lower", "sheet"] fun X F b a o ds r o' _ e=>(show OM X C b _ _ (A4 (mth 6)) _ _ by rw[aE0];exact aJ9 F rfl rfl (by kernel_rfl) rfl rfl rfl (by kernel_rfl) rfl (by kernel_rfl) rfl rfl rfl e)
  have t:TOk P w K mg base 27 _:=t.mono (Nat.le_succ _)
  have m:MOk P w K mg base C 28 _:=m.add M t c.foc aP3 z.m_back t8 0 "self" ["step"] fun X F b a o ds r o' _ e=>(show OM X C b _ _ (A4 (mth 8)) _ _ by rw[aQ6];exact aW9 F rfl rfl (by kernel_rfl) rfl (by kernel_rfl) rfl rfl rfl e)
  have t:TOk P w K mg base 28 _:=t.mono (Nat.le_succ _)
  have m:MOk P w K mg base C 29 _:=m.add M t c.foc aC3 z.m_forth k4 0 "self" ["step"] fun X F b a o ds r o' _ e=>(show OM X C b _ _ (A4 (mth 9)) _ _ by rw[aD8];exact aI7 F rfl rfl (by kernel_rfl) rfl (by kernel_rfl) rfl rfl rfl e)
  have t:TOk P w K mg base 29 _:=t.mono (Nat.le_succ _)
  have m:MOk P w K mg base C 30 _:=m.add M t c.foc aV2 z.m_counts Z8 0 "self" [] fun X F b a o ds r o' _ e=>(show OM X C b _ _ (A4 (mth 10)) _ _ by rw[aW7];exact aD1 F rfl (by kernel_rfl) (by kernel_rfl) e)
  have t:TOk P w K mg base 30 _:=t.mono (Nat.le_succ _)
  have y:MRk P w K mg base C 30 []:=MRk.nil.mono (Nat.zero_le _)
  have y:MRk P w K mg base C 31 _:=MRk.add (cl:=zcl) y (m.mono (by decide)) M (t.mono (by decide)) (L rt0 xt0).cls c.foc aC4 z.m_fetch (O9 "no sheet is by the name ") 1 "self" ["name"] fun X hx F b a o ds x _ e=>(show ORs X C true b _ _ (A4 (mth 4)) _ by rw[aD9];exact aU8 hx F rfl (by kernel_rfl) rfl (by kernel_rfl) e)
  have y:MRk P w K mg base C 32 _:=MRk.add (cl:=zcl) y (m.mono (by decide)) M (t.mono (by decide)) (L rt0 xt0).cls c.foc ag9 z.m_take_off (O9 "no sheet is by the name ") 1 "self" ["name", "sheet"] fun X hx F b a o ds x _ e=>(show ORs X C true b _ _ (A4 (mth 5)) _ by rw[ah2];exact bv8 hx F rfl (by kernel_rfl) rfl rfl e)
  have y:MRk P w K mg base C 33 _:=MRk.add (cl:=zcl) y (m.mono (by decide)) M (t.mono (by decide)) (L rt0 xt0).cls c.foc aC5 z.m_blend (Q8 "no sheet is by the name " A8) 3 "self" ["manner", "above", "below", "upper", "lower", "sheet"] fun X hx F b a o ds x _ e=>(show ORs X C true b _ _ (A4 (mth 6)) _ by rw[aE0];exact aW8 hx F rfl rfl (by kernel_rfl) rfl rfl rfl (by kernel_rfl) rfl (by kernel_rfl) rfl rfl e)
  have y:MRk P w K mg base C 34 _:=MRk.add (cl:=zcl) y (m.mono (by decide)) M (t.mono (by decide)) (L rt0 xt0).cls c.foc aP3 z.m_back t6 0 "self" ["step"] fun X hx F b a o ds x _ e=>(show ORs X C true b _ _ (A4 (mth 8)) _ by rw[aQ6];exact bn9 hx F rfl (by kernel_rfl) (by kernel_rfl) rfl (by kernel_rfl) e)
  have y:MRk P w K mg base C 35 _:=MRk.add (cl:=zcl) y (m.mono (by decide)) M (t.mono (by decide)) (L rt0 xt0).cls c.foc aC3 z.m_forth X2 0 "self" ["step"] fun X hx F b a o ds x _ e=>(show ORs X C true b _ _ (A4 (mth 9)) _ by rw[aD8];exact aU7 hx F rfl (by kernel_rfl) (by kernel_rfl) rfl (by kernel_rfl) e)
  have u:UOk P w K mg base C 35 _ ⟨("names", j9,0)::_,[], "Folio", [],false⟩:=UOk.start t m n i (by decide) (by decide) (by decide)
  have v:VOk P w K mg base C 35 _ ⟨_,_,_,[],zT rt0 xt1⟩:=VOk.start u y r x (L _ _) (by decide) (by decide) (by decide)
  have v:VOk P w K mg base C 36 _ _:=v.addD M c.foc bl9 q.h_l_told C4 0
  exact v
 case e=>kernel_rfl
theorem zmd{K:PySem.W.Frag}{h:Heap}{mg:Str->Option Value}{q0:Addr}{y0:Array (Option Value)}{g0t0 g0t1:Tok}{n0:Nat}(X:K.In h) (G:h.Ns mainGlobals mg) (p0:PySem.W.nsIn K mainGlobals "ONE" = some (some (.ref q0))) (r0:K.lookup q0=some ⟨.type "tuple", none,.seq #[.int 1 g0t0,.int 1 g0t1] n0,y0⟩) (z0:PySem.W.nsIn K mainGlobals "ValueError" = some none) (z1:PySem.W.nsIn K mainGlobals "dict" = some none) (z2:PySem.W.nsIn K mainGlobals "isinstance" = some none) (z3:PySem.W.nsIn K mainGlobals "len" = some none) (z4:PySem.W.nsIn K mainGlobals "max" = some none) (z5:PySem.W.nsIn K mainGlobals "min" = some none) (z6:PySem.W.nsIn K mainGlobals "range" = some none) (z7:PySem.W.nsIn K mainGlobals "sorted" = some none) (z8:PySem.W.nsIn K mainGlobals "tuple" = some none) (z9:PySem.W.nsIn K mainGlobals "zip" = some none):Md K mg zcs zbl:=by
 refine⟨fun x v e=>PySem.W.mg_of X G e,fun x d e=>?_,fun x e=>?_⟩
 ·unfold zcs at e
  rw[List.lookup_cons]at e
  split at e
  ·rename_i q;cases e;simp only[beq_iff_eq]at q;subst q;exact⟨_,(bg2 r0 rfl rfl rfl (by show 2<=1000;decide) (al6 (aB3 1 g0t0) (al6 (aB3 1 g0t1) aT9))),PySem.W.mg_of X G p0⟩
  cases e
 ·unfold zbl at e
  simp only[List.contains_cons,List.contains_nil,Bool.or_false,Bool.or_eq_true,beq_iff_eq]at e
  rcases e with e|e|e|e|e|e|e|e|e|e
  ·subst e;exact PySem.W.mg_none_of X G z0
  ·subst e;exact PySem.W.mg_none_of X G z1
  ·subst e;exact PySem.W.mg_none_of X G z2
  ·subst e;exact PySem.W.mg_none_of X G z3
  ·subst e;exact PySem.W.mg_none_of X G z4
  ·subst e;exact PySem.W.mg_none_of X G z5
  ·subst e;exact PySem.W.mg_none_of X G z6
  ·subst e;exact PySem.W.mg_none_of X G z7
  ·subst e;exact PySem.W.mg_none_of X G z8
  ·subst e;exact PySem.W.mg_none_of X G z9
theorem bV3{l:PySem.W.OpenLaw}{q:Program}{loose:List Str}{XP:(Str->Option Value)->Heap->Prop}{YP:World->Heap->Prop}{d:DefRec}{K:Params->PySem.W.Frag}(hn:l.most=some 63) (hdf:d.params.defaults=[])
  (hY:∀(w:World) (h:Heap),YP w h->(K w.params).In h) (hd:d.name = "law")
  (F:∀(w:World) (mg:Str->Option Value) (h:Heap),(K w.params).In h->h.Ns mainGlobals mg->Md (K w.params) mg zcs zbl)
  (Q:∀w:World,Qs (K w.params)) (B:∀w:World,clB (K w.params) zcl ztb zsb znb=true)
  (M:∀ns:List Int,ns.length<=63->aE2 [.list (ns.map PyData.int)]=some (.bool true)) :
  PySem.W.WalkO q loose XP YP l.row.toRowW d [] (fun f vs=>PySem.call f vs) :=
 L2.bp6 (n:=63) (k:=37) (x := "_law_script") (CX:=fun _=>CX0) (sp:=fun w=>spF (K w.params) 1 aE2) hn (by decide) hdf ⟨rfl,by decide,by decide⟩ hY
  (fun w mg fa h hk hg hm=>by
   have N:=F w mg h hk hg
   have q:=Q w
   rw[hd]at hm
   obtain⟨C,c,z⟩:=q.h_cls
   obtain⟨_,_,e,t⟩:=cf8 N (fun rt xt=>Cl.of N (by decide +kernel) (B w)) q c z
   obtain⟨fd,b1,b2⟩:=bg0 N c.foc t bE6 q.h_law e hm
   exact⟨fd,b1,fun base _ _=>b2 base⟩)
  (fun w H a ns hl _ hS=>⟨rfl,H,[.list (ns.map PyData.int)],.bool true,B3.refl _,⟨.ref a,[],rfl,⟨a,_,rfl,hS,Reps.ints ns⟩,rfl⟩,M ns hl,fun v H' Hf' g r=>r⟩) fun _ _ _ _ _ z=>z
end Lk71
def PySem.W.Fast.tw18138825624604344092:Unit:=()
def PySem.W.Fast.tw8601968731914612641:Unit:=()
def PySem.W.Fast.tw4204949832252481255:Unit:=()
def PySem.W.Fast.tw13444163690263070299:Unit:=()
def PySem.W.Fast.tw11954580502089165842:Unit:=()
def PySem.W.Fast.tw1769660011399868108:Unit:=()
def PySem.W.Fast.tw10803901838355247225:Unit:=()
def PySem.W.Fast.tw4455697764084031556:Unit:=()
def PySem.W.Fast.tw14581810029301280752:Unit:=()
def PySem.W.Fast.tw7515917240990592145:Unit:=()
def PySem.W.Fast.tw17272341534924956767:Unit:=()
def PySem.W.Fast.tw15532348166480728467:Unit:=()
def PySem.W.Fast.tw10987525226932648249:Unit:=()
def PySem.W.Fast.tw9478758274822801439:Unit:=()
def PySem.W.Fast.tw2312339859869672982:Unit:=()
def PySem.W.Fast.tw14359640104767824458:Unit:=()
def PySem.W.Fast.tw2773696448371579851:Unit:=()
def PySem.W.Fast.tw18119523486698232179:Unit:=()
def PySem.W.Fast.tw7801859673510510846:Unit:=()
def PySem.W.Fast.tw5104662974000419242:Unit:=()
def PySem.W.Fast.tw17136022744263655634:Unit:=()
def PySem.W.Fast.tw4688558541163407940:Unit:=()
def PySem.W.Fast.tw5329531996512759237:Unit:=()
def PySem.W.Fast.tw1230510149411145024:Unit:=()
def PySem.W.Fast.tw12212867737174812388:Unit:=()
def PySem.W.Fast.tw7940526349128710574:Unit:=()
def PySem.W.Fast.tw4136716814448175424:Unit:=()
def PySem.W.Fast.tw6651887231071417515:Unit:=()
def PySem.W.Fast.tw9759852184142636749:Unit:=()
def PySem.W.Fast.tw10959874223208528537:Unit:=()
def PySem.W.Fast.tw8553043258431691677:Unit:=()
def PySem.W.Fast.tw4781973994345671666:Unit:=()
def PySem.W.Fast.tw8485223016241687666:Unit:=()
def PySem.W.Fast.tw11762109646262422409:Unit:=()
def PySem.W.Fast.tw12841664450960961990:Unit:=()
def PySem.W.Fast.tw15635140152106823999:Unit:=()
def PySem.W.Fast.tw2260087359961758352:Unit:=()
def PySem.W.Fast.tw5684444913411227661:Unit:=()
def PySem.W.Fast.tw7655302101081543762:Unit:=()
def PySem.W.Fast.tw3319551384566354222:Unit:=()
def PySem.W.Fast.tw3885967476921268257:Unit:=()
def PySem.W.Fast.tw2514015857144361263:Unit:=()
def PySem.W.Fast.tw2878559890671092161:Unit:=()
def PySem.W.Fast.tw16478510697377850535:Unit:=()
def PySem.W.Fast.tw12748522214125840959:Unit:=()
def PySem.W.Fast.tw10932930862117661264:Unit:=()
def PySem.W.Fast.tw4154651721012148041:Unit:=()
def PySem.W.Fast.tw7481545471550344826:Unit:=()
def PySem.W.Fast.tw4961091957220444665:Unit:=()
def PySem.W.Fast.tw7652162830270550801:Unit:=()
def PySem.W.Fast.tw2027840157876890575:Unit:=()
def PySem.W.Fast.tw16719234884731907320:Unit:=()
def PySem.W.Fast.tw15665166502050333797:Unit:=()
def PySem.W.Fast.tw16764178432916759689:Unit:=()
def PySem.W.Fast.tw13806744602156473471:Unit:=()
def PySem.W.Fast.tw6024800790858046692:Unit:=()
def PySem.W.Fast.tw9035481841484063720:Unit:=()
def PySem.W.Fast.tw15254597905138756304:Unit:=()
def PySem.W.Fast.tw4614641548743453769:Unit:=()
def PySem.W.Fast.tw8755097597043960959:Unit:=()
def PySem.W.Fast.tw1535405629904167889:Unit:=()
def PySem.W.Fast.tw7983726172034252996:Unit:=()
def PySem.W.Fast.tw11029132858992111875:Unit:=()
def PySem.W.Fast.tw329698744937161805:Unit:=()
def PySem.W.Fast.tw14950141600970074753:Unit:=()
def PySem.W.Fast.tw14119259467562604185:Unit:=()
def PySem.W.Fast.tw4691540662644941657:Unit:=()
def PySem.W.Fast.tw9810923492866698423:Unit:=()
def PySem.W.Fast.tw13280726962086031946:Unit:=()
def PySem.W.Fast.tw14331496725304075206:Unit:=()
def PySem.W.Fast.tw5969249236318128846:Unit:=()
def PySem.W.Fast.tw16608779040078703398:Unit:=()
def PySem.W.Fast.tw15849398773493976525:Unit:=()
def PySem.W.Fast.tw10490220909219540067:Unit:=()
def PySem.W.Fast.tw15539184081342112964:Unit:=()
def PySem.W.Fast.tw4306656108673394219:Unit:=()
def PySem.W.Fast.tw4754468098364720918:Unit:=()
def PySem.W.Fast.tw1477182461048688424:Unit:=()
def PySem.W.Fast.tw6249233360911214560:Unit:=()
def PySem.W.Fast.tw5818025042058622138:Unit:=()
def PySem.W.Fast.tw802214990875485200:Unit:=()
def PySem.W.Fast.tw3240737334847809424:Unit:=()
def PySem.W.Fast.tw14669095380446463977:Unit:=()
def PySem.W.Fast.tw10961452415876406064:Unit:=()
def PySem.W.Fast.tw5374999611242181469:Unit:=()
def PySem.W.Fast.tw3502065412120506795:Unit:=()
def PySem.W.Fast.tw14422687100628432222:Unit:=()
def PySem.W.Fast.tw7084624795047639620:Unit:=()
def PySem.W.Fast.tw15798325801196377832:Unit:=()
def PySem.W.Fast.tw7277736411167856433:Unit:=()
namespace Lk71
open PySem PySem.W PyProof.Rows
set_option maxHeartbeats 0 in
open_top head for PySem.Challenge.rw_glazework_k71_folios
end Lk71
open PySem PySem.W PyProof.Rows
set_option maxRecDepth 100000 in
set_option maxHeartbeats 0 in
theorem PySem.Challenge.cw_glazework_k71_folios_holds : PySem.Challenge.rw_glazework_k71_folios.Holds := by
 refine Lk71.head ?_
 k_fill
 refine Lk71.bV3 (l:=PySem.Challenge.rw_glazework_k71_folios) rfl rfl (fun w h Y=>PySem.W.kIn_of Y) rfl ?F ?Q ?B Lk71.main
 case F =>
  intro w mg h KX G
  refine' Lk71.zmd KX G ?p0 ?r0 ?z0 ?z1 ?z2 ?z3 ?z4 ?z5 ?z6 ?z7 ?z8 ?z9
  (case p0=>k_is);(case r0=>k_is);(case z0=>k_is);(case z1=>k_is);(case z2=>k_is);(case z3=>k_is);(case z4=>k_is);(case z5=>k_is);(case z6=>k_is);(case z7=>k_is);(case z8=>k_is);(case z9=>k_is)
 case Q =>
  intro w
  constructor
  case h_cls =>
   refine' ⟨_,G.bP1 ?a ?b ?c ?pg ?hd ?po ?sa ?n1 ?n2 ?n3,?ms⟩
   (case a=>k_is);(case b=>k_is);(case c=>k_is);(case pg=>k_is);(case hd=>k_is);(case po=>k_is);(case sa=>k_is);(case n1=>k_is);(case n2=>k_is);(case n3=>k_is)
   case ms =>
    constructor
    all_goals (refine' G.cc2 ?a ?i ?l ?c ?k;(case a=>k_is);(case i=>k_is);(case l=>k_is);(case c=>k_is);(case k=>k_is))
  all_goals (refine' G.cc3 ?a ?l ?c ?k;(case a=>k_is);(case l=>k_is);(case c=>k_is);(case k=>k_is))
 case B=>intro w;kernel_rfl
