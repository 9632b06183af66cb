import PyProof.Rows.All
import Wide.All
import OpenK.AllK
import Wide.FinOn
import Lean
import PyProof.EqAt
import PyProof.EqKinds
import PyProof.TupleCall
import PySem.Challenge.RW_glazework_k90_written
set_option compiler.extract_closed false
noncomputable section
set_option autoImplicit true
set_option Elab.async false
set_option linter.all false
set_option maxRecDepth 100000
namespace L2
open PySem PySem.Spec PyProof.Rows
noncomputable abbrev Key:=Sum Int Str
noncomputable def bG9:Key->Value->Bool
 | .inl k,v=>Value.isInt k v
 | .inr x,v=>Value.isStrOf x v
noncomputable def cq1(w:World):Key->Int
 | .inl k=>hashInt k
 | .inr x=>hashStr w x
theorem G3:∀{k:Key}{v:Value},bG9 k v=true->(∃i t,k=Sum.inl i/\v=Value.int i t)\/(∃x t,k=Sum.inr x/\v=Value.str x t)
 | .inl i,v,h=>by
  obtain⟨t,e⟩:=Value.isInt_shape (k:=i) (v:=v) h
  exact .inl ⟨i,t,rfl,e⟩
 | .inr x,v,h=>by
  obtain⟨t,e⟩:=Value.isStrOf_shape (x:=x) (v:=v) h
  exact .inr ⟨x,t,rfl,e⟩
theorem bT7(a b:Int):decide ((Sum.inl a:Key)=Sum.inl b)=(a==b):=by
 by_cases e:a=b
 ·subst e;simp
 ·have h:¬(Sum.inl a:Key)=Sum.inl b:=fun q=>e (Sum.inl.inj q)
  rw[decide_eq_false h]
  exact(beq_eq_false_iff_ne.mpr e).symm
theorem bT4(a b:Str):decide ((Sum.inr a:Key)=Sum.inr b)=decide (a=b):=by
 by_cases e:a=b
 ·subst e;simp
 ·have h:¬(Sum.inr a:Key)=Sum.inr b:=fun q=>e (Sum.inr.inj q)
  rw[decide_eq_false h,decide_eq_false e]
theorem bT6(a:Int) (b:Str):decide ((Sum.inl a:Key)=Sum.inr b)=false:=decide_eq_false (fun q=>nomatch q)
theorem bT5(a:Str) (b:Int):decide ((Sum.inr a:Key)=Sum.inl b)=false:=decide_eq_false (fun q=>nomatch q)
noncomputable def aj0(prog:Program) (w:World):PySem.KeyKind prog w Key where
 is:=bG9
 hash:=cq1 w
 inj:=fun v a b ha hb=>by
  rcases G3 ha with⟨i,t,rfl,rfl⟩|⟨x,t,rfl,rfl⟩
  ·rcases G3 hb with⟨j,u,rfl,e⟩|⟨y,u,rfl,e⟩
   ·injection e with e1 _;rw[e1]
   ·exact nomatch e
  ·rcases G3 hb with⟨j,u,rfl,e⟩|⟨y,u,rfl,e⟩
   ·exact nomatch e
   ·injection e with e1 _;rw[e1]
 byValue:=fun k v h=>by
  rcases G3 h with⟨i,t,rfl,rfl⟩|⟨x,t,rfl,rfl⟩<;>rfl
 pyHash:=fun hv h=>by
  rcases G3 hv with⟨i,t,rfl,rfl⟩|⟨x,t,rfl,rfl⟩
  ·exact wpAny_pyHash_int h
  ·exact wpAny_pyHash_str h
 eqBool:=fun hu hv h=>by
  rcases G3 hu with⟨i,t,rfl,rfl⟩|⟨x,t,rfl,rfl⟩
  ·rcases G3 hv with⟨j,u,rfl,rfl⟩|⟨y,u,rfl,rfl⟩
   ·rw[bT7]at h;exact wpAny_eqBool_int h
   ·rw[bT6]at h;exact SeqAt.EqAt.int_str i t y u _ _ _ _ h
  ·rcases G3 hv with⟨j,u,rfl,rfl⟩|⟨y,u,rfl,rfl⟩
   ·rw[bT5]at h;exact SeqAt.EqAt.str_int x t j u _ _ _ _ h
   ·rw[bT4]at h;exact wpAny_eqBool_str h
 «strs»:=fun k x t v h=>by
  rcases G3 h with⟨i,u,rfl,e⟩|⟨y,u,rfl,e⟩
  ·exact nomatch e
  ·injection e with e1 _
   subst e1
   cases v<;>rfl
end L2
namespace L2
open PySem PySem.Spec PyProof.Rows
inductive V where
 | non|bl (b:Bool)|int (i:Int)|str (x:Str)|byt (b:Array UInt8)|flt (b:UInt64)|ref (a:Addr)|ty (n:String)
 deriving DecidableEq
noncomputable def E4:V->Value->Prop
 | .non,u=>u=Value.none
 | .bl b,u=>u=Value.bool b
 | .int i,u=>∃t,u=Value.int i t
 | .str x,u=>∃t,u=Value.str x t
 | .byt b,u=>∃t,u=Value.bytes b t
 | .flt b,u=>∃t,u=Value.float b t
 | .ref a,u=>u=Value.ref a
 | .ty n,u=>u=Value.type n
noncomputable abbrev C8:List V->List Value->Prop:=Paired E4
theorem C8.length(r:C8 xs us):xs.length=us.length:=Paired.length r
theorem C8.get:∀{xs:List V}{us:List Value}{i:Nat}{x:V},C8 xs us->xs[i]? = some x->∃u,us[i]? = some u/\E4 x u
 | _,_,_,_,.nil,e=>by simp at e
 | _,_,0,_,.cons r _,e=>by simp at e;subst e;exact⟨_,rfl,r⟩
 | _,_,i+1,x,.cons _ t,e=>by
  obtain⟨u,h1,h2⟩:=C8.get (i:=i) (x:=x) t (by simpa using e)
  exact⟨u,by simpa using h1,h2⟩
theorem C8.append:∀{xs ys:List V}{us ws:List Value},C8 xs us->C8 ys ws->C8 (xs++ys) (us++ws)
 | _,_,_,_,.nil,s=>s
 | _,_,_,_,.cons r t,s=>.cons r (C8.append t s)
theorem C8.take:∀{xs:List V}{us:List Value}(n:Nat),C8 xs us->C8 (xs.take n) (us.take n)
 | _,_,0,_=>.nil
 | _,_,_+1,.nil=>.nil
 | _,_,n+1,.cons r t=>.cons r (C8.take n t)
theorem C8.drop:∀{xs:List V}{us:List Value}(n:Nat),C8 xs us->C8 (xs.drop n) (us.drop n)
 | _,_,0,r=>r
 | _,_,_+1,.nil=>.nil
 | _,_,n+1,.cons _ t=>C8.drop n t
noncomputable def ap5:Option V->Option Value->Prop
 | some v,some u=>E4 v u
 | none,none=>True
 | _,_=>False
noncomputable def KV{κ:Type}:List (κ×V)->List (κ×Value)->Prop:=Paired fun(p:κ×V) (q:κ×Value)=>p.1=q.1/\E4 p.2 q.2
noncomputable def kV:Key->V
 | .inl i=>.int i
 | .inr x=>.str x
inductive HO where
 /-- a list -/
 | lst (xs:List V)
 /-- a tuple (never changes) -/
 | tup (xs:List V)
 /-- a dict whose keys are ints and texts;one whose keys are tuples of ints and texts (the empty one is both) -/
 | dK (kvs:List (Key×V))|dT (kvs:List (List Key×V))
 /-- a set of ints: its members,its size -/
 | set (S:Int->Bool) (n:Nat)
 /-- an instance of the class at C,its dict at dx,its attributes -/
 | ins (C dx:Addr) (fs:List (Str×V))
 /-- the dict of the instance at x -/
 | own (x:Addr)
 /-- the dict of an exception -/
 | xd (fs:List (Str×V))
 /-- a bound method,f of x -/
 | met (f x:Addr)
 /-- a range object lo,lo+1,.. below hi -/
 | rng (lo hi:Int)
 /-- a thing that is known to the object (the script;a dict while a loop walks it): read,never written while it is so -/
 | frz (o:Obj) (u:HO)
 /-- a code object's table -/
 | tbl (ps:Array Value)
 /-- any other thing,by what is true of its one object (a def of one's own: SetO a S n:=HO.ext fun h=>..) -/
 | ext (φ:Heap->Prop)
noncomputable abbrev Hp:=Addr->Option HO
noncomputable def upd(H:Hp) (a:Addr) (o:HO):Hp:=fun b=>if b=a then some o else H b
theorem B5:upd H a o a=some o:=by unfold upd;rw[if_pos rfl]
theorem C2(h:b≠a):upd H a o b=H b:=by unfold upd;rw[if_neg h]
theorem C7{H:Hp}{a b:Addr}{o:HO}(h:H a=some o) (h':H b=none):a≠b:=by
 intro e;subst e;rw[h]at h';cases h'
noncomputable def ap4(h:Heap) (a:Addr) (items:Array Value):Prop:=∃o,h.get? a=some o/\o.cls=.type "tuple" /\ (∃n,o.data=.seq items n)/\o.dict=none
theorem ap4.tup{h:Heap}{a:Addr}{items:Array Value}(p:ap4 h a items):IsTup h a items:=let⟨o,e,c,d,_⟩:=p;⟨o,e,c,d⟩
theorem ap4.new(h:Heap) (items:Array Value) (n:Nat:=0):ap4 (h.push { cls:=.type "tuple", data:=.seq items n }) h.objs.size items:=⟨_,Heap.get?_push_size _ rfl,rfl,⟨_,rfl⟩,rfl⟩
section
variable (P:Program) (w:World)
noncomputable def R1(H:Hp) (h:Heap) (a:Addr):HO->Prop
 | .lst xs=>xs.length<=sizeLine/\∃(its:List Value) (n:Nat),C8 xs its/\h.get? a=some { cls:=.type "list", data:=.seq its.toArray n }
 | .tup xs=>xs.length<=sizeLine/\∃its:List Value,C8 xs its/\ap4 h a its.toArray
 | .dK kvs=>kvs.length<=sizeLine/\(a==sysModules)=false/\∃vs,KV kvs vs/\h.DictOf (aj0 P w) a vs
 | .dT kvs=>kvs.length<=sizeLine/\(a==sysModules)=false/\∃xs:List (List Key×Addr×Value),
   Paired (fun(p:List Key×V) (q:List Key×Addr×Value)=>p.1=q.1/\H q.2.1=some (.tup (p.1.map kV))/\E4 p.2 q.2.2) kvs xs /\
   ∃o es ep,h.get? a=some o/\o.ExactDict/\o.data=.dict es ep/\es.toList=xs.map (entryOfKey (tupleKind (aj0 P w)))/\(xs.map (·.1)).Nodup
 | .set S n=>h.SetOf (intKind P w) a S n
 | .ins C dx fs=>H dx=some (.own a)/\fs.length<=1000/\dx≠a/\h.get? a=some (PySem.W.instObj C dx) /\
   ∃mA,h.Ns1 dx mA/\(∀f,ap5 (fs.lookup f) (mA f))/\PySem.Within mA (fs.map (·.1))
 | .own _=>∃o,h.get? a=some o
 | .xd fs=>∃mA,h.Ns1 a mA/\∀f,ap5 (fs.lookup f) (mA f)
 | .rng lo hi=>∃t u v,h.get? a=some { cls:=.type "range", data:=.fields #[.int lo t,.int hi u,.int 1 v] }
 | .frz o u=>h.get? a=some o/\R1 H h a u
 | .tbl ps=>h.get? a=some { cls:=.none,data:=.fields ps }
 | .met f x=>h.get? a=some (PySem.W.methodObj (.ref f) (.ref x))
 | .ext φ=>φ h/\(∃o,h.get? a=some o)/\∀h1 h2:Heap,φ h1->(∀o,h1.get? a=some o->h2.get? a=some o)->φ h2
noncomputable def HOk(H:Hp) (h:Heap):Prop:=∀a o,H a=some o->R1 P w H h a o
end
section
variable {P:Program}{w:World}{H H':Hp}{h h':Heap}{a:Addr}{o:HO}
theorem R1.lt(x:R1 P w H h a o):a < h.objs.size:=by
 cases o with
 | lst xs=>obtain⟨_,_,_,_,e⟩:=x;exact Heap.lt_size e
 | tup xs=>obtain⟨_,_,_,p⟩:=x;exact p.tup.lt
 | dK kvs=>obtain⟨_,_,_,_,o,_,_,e,_⟩:=x;exact Heap.lt_size e
 | dT kvs=>obtain⟨_,_,_,_,o,_,_,e,_⟩:=x;exact Heap.lt_size e
 | set S n=>obtain⟨o,_,_,_,e,_⟩:=x;exact Heap.lt_size e
 | ins C dx fs=>obtain⟨_,_,_,e,_⟩:=x;exact Heap.lt_size e
 | own y=>obtain⟨_,e⟩:=x;exact Heap.lt_size e
 | xd fs=>obtain⟨_,⟨_,_,_,e,_⟩,_⟩:=x;exact Heap.lt_size e
 | rng lo hi=>obtain⟨_,_,_,e⟩:=x;exact Heap.lt_size e
 | frz ob u=>obtain⟨e,_⟩:=x;exact Heap.lt_size e
 | tbl ps=>exact Heap.lt_size (show h.get? a=some _ from x)
 | met f y=>exact Heap.lt_size (show h.get? a=some _ from x)
 | ext φ=>obtain⟨_,⟨_,e⟩,_⟩:=x;exact Heap.lt_size e
theorem Paired.mapP{α β:Type}{F G:α->β->Prop}:∀{l₁:List α}{l₂:List β},Paired F l₁ l₂->(∀a b,F a b->G a b)->Paired G l₁ l₂
 | _,_,.nil,_=>.nil
 | _,_,.cons r t,f=>.cons (f _ _ r) (Paired.mapP t f)
theorem R1.stay(x:R1 P w H h a o) (k:∀b u,(b=a\/H b=some (.own a))->h.get? b=some u->h'.get? b=some u)
  (ho:∀b,H b=some (.own a)->H' b=some (.own a)) (ht:∀b xs,H b=some (.tup xs)->H' b=some (.tup xs)):R1 P w H' h' a o:=by
 induction o with
 | lst xs=>obtain⟨z,its,n,r,e⟩:=x;exact⟨z,its,n,r,k _ _ (.inl rfl) e⟩
 | tup xs=>obtain⟨z,its,r,ob,e,c⟩:=x;exact⟨z,its,r,ob,k _ _ (.inl rfl) e,c⟩
 | dK kvs=>obtain⟨z,y,vs,r,ob,es,ep,e,c⟩:=x;exact⟨z,y,vs,r,ob,es,ep,k _ _ (.inl rfl) e,c⟩
 | dT kvs =>
  obtain⟨z,y,xs,r,ob,es,ep,e,c⟩:=x
  exact⟨z,y,xs,Paired.mapP r fun p q z=>⟨z.1,ht _ _ z.2.1,z.2.2⟩,ob,es,ep,k _ _ (.inl rfl) e,c⟩
 | set S n=>obtain⟨ob,es,ep,t,e,c⟩:=x;exact⟨ob,es,ep,t,k _ _ (.inl rfl) e,c⟩
 | ins C dx fs =>
  obtain⟨d,z,ne,e,mA,⟨od,es,ep,e2,c⟩,r⟩:=x
  exact⟨ho _ d,z,ne,k _ _ (.inl rfl) e,mA,⟨od,es,ep,k _ _ (.inr d) e2,c⟩,r⟩
 | own y=>obtain⟨ob,e⟩:=x;exact⟨ob,k _ _ (.inl rfl) e⟩
 | xd fs=>obtain⟨mA,⟨od,es,ep,e,c⟩,r⟩:=x;exact⟨mA,⟨od,es,ep,k _ _ (.inl rfl) e,c⟩,r⟩
 | rng lo hi=>obtain⟨t,u,v,e⟩:=x;exact⟨t,u,v,k _ _ (.inl rfl) e⟩
 | frz ob u ih=>obtain⟨e,q⟩:=x;exact⟨k _ _ (.inl rfl) e,ih q⟩
 | tbl ps =>
  have e:h.get? a=some { cls:=.none,data:=.fields ps }:=x
  show h'.get? a=some { cls:=.none,data:=.fields ps }
  exact k a _ (.inl rfl) e
 | met f y =>
  have e:h.get? a=some (PySem.W.methodObj (.ref f) (.ref y)):=x
  show h'.get? a=some (PySem.W.methodObj (.ref f) (.ref y))
  exact k a _ (.inl rfl) e
 | ext φ=>obtain⟨p,⟨o,e⟩,st⟩:=x;exact⟨st _ _ p fun o q=>k _ _ (.inl rfl) q,⟨o,k _ _ (.inl rfl) e⟩,st⟩
theorem HOk.lt(x:HOk P w H h) (e:H a=some o):a < h.objs.size:=(x a o e).lt
theorem HOk.fresh(x:HOk P w H h) (e:h.objs.size<=a):H a=none:=by
 cases q:H a with
 | none=>rfl
 | some u=>exact absurd (Nat.lt_of_lt_of_le (x.lt q) e) (Nat.lt_irrefl _)
theorem HOk.kept(x:HOk P w H h) (k:∀b u,h.get? b=some u->h'.get? b=some u):HOk P w H h':=fun a o e =>
 (x a o e).stay (fun b u _ q=>k b u q) (fun _ q=>q) fun _ _ q=>q
theorem HOk.laid(x:HOk P w H h) (k:∀b u,h.get? b=some u->h'.get? b=some u) (hp:h.objs.size<=a) (new:R1 P w (upd H a o) h' a o):HOk P w (upd H a o) h':=fun b u e=>by
 have hn:=x.fresh hp
 by_cases hb:b=a
 ·subst hb;rw[B5]at e;cases e;exact new
 ·rw[C2 hb]at e
  exact(x b u e).stay (fun c v _ q=>k c v q) (fun c q=>by rw[C2 (C7 q hn)];exact q) fun c xs q=>by rw[C2 (C7 q hn)];exact q
end
noncomputable def Rd(H:Hp) (a:Addr) (u:HO):Prop:=H a=some u\/∃o,H a=some (.frz o u)
theorem Rd.ok(r:Rd H a u) (x:HOk P w H h):R1 P w H h a u:=by
 rcases r with r|⟨o,r⟩
 ·exact x a u r
 ·obtain⟨_,q⟩:=x a _ r
  exact q
noncomputable def Mut:Option HO->Prop
 | some (.lst _)=>True
 | some (.dK _)=>True
 | some (.dT _)=>True
 | some (.set _ _)=>True
 | some (.ins _ _ _)=>True
 | some (.ext _)=>True
 | _=>False
section
variable {P:Program}{w:World}{H:Hp}{h h':Heap}{x e:Addr}{o':HO}
theorem HOk.write(ok:HOk P w H h) (mu:Mut (H x)) (he:e=x\/H e=some (.own x)) (k:∀b u,b≠e->h.get? b=some u->h'.get? b=some u) (heo:∃u,h'.get? e=some u)
  (new:R1 P w (upd H x o') h' x o'):HOk P w (upd H x o') h':=fun b u q=>by
 have nown:∀c y,H c=some (.own y)->c≠x:=fun c y r z=>by subst z;rw[r]at mu;exact mu
 have ntup:∀c xs,H c=some (.tup xs)->c≠x:=fun c xs r z=>by subst z;rw[r]at mu;exact mu
 by_cases hb:b=x
 ·subst hb;rw[B5]at q;cases q;exact new
 ·rw[C2 hb]at q
  by_cases hbe:b=e
  ·have q':H b=some (.own x):=by
    rcases he with z|z
    ·exact absurd (hbe.trans z) hb
    ·rw[hbe];exact z
   rw[q]at q';cases q'
   obtain⟨v,hv⟩:=heo
   exact⟨v,by rw[hbe];exact hv⟩
  ·refine(ok b u q).stay (fun c v hc r=>k c v ?_ r) (fun c r=>by rw[C2 (nown c b r)];exact r) fun c xs r=>by rw[C2 (ntup c xs r)];exact r
   rcases hc with rfl|hc
   ·exact hbe
   ·rintro rfl
    rcases he with z|z
    ·exact nown c b hc z
    ·rw[hc]at z;cases z;exact hb rfl
end
structure Un (fs ex:List Addr) (H H':Hp) (h h':Heap):Prop where
 keep:∀b o,h.get? b=some o->H b=none->b∉fs->b∉ex->h'.get? b=some o
 slot:∀b o,h.get? b=some o->H b=none->b∈fs->b∉ex->∃sl,h'.get? b=some { o with slots:=sl }
 free:∀b o,h.get? b=some o->H b=none->b∉ex->H' b=none
 there:∀b o,h.get? b=some o->b∉ex->∃o',h'.get? b=some o'
 tups:∀b xs,H b=some (.tup xs)->H' b=some (.tup xs)
 frzs:∀b o u,H b=some (.frz o u)->H' b=some (.frz o u)
 tbls:∀b ps,H b=some (.tbl ps)->∃more,H' b=some (.tbl (ps++more))
section
variable {fs fs' ex ex':List Addr}{H H1 H2:Hp}{h h1 h2 h':Heap}{a x e:Addr}{o:HO}
theorem Un.any(u:Un fs ex H H1 h h1) (q:h.get? b=some ob) (n:H b=none) (hx:b∉ex):∃sl,h1.get? b=some { ob with slots:=sl }:=by
 by_cases hb:b∈fs
 ·exact u.slot b ob q n hb hx
 ·exact⟨ob.slots,u.keep b ob q n hb hx⟩
theorem Un.kept(k:∀b u,h.get? b=some u->h'.get? b=some u):Un fs ex H H h h' :=
 ⟨fun b ob q _ _ _=>k b ob q,fun b ob q _ _ _=>⟨ob.slots,k b ob q⟩,fun _ _ _ n _=>n,fun b ob q _=>⟨ob,k b ob q⟩,fun _ _ q=>q,fun _ _ _ q=>q,fun _ ps q=>⟨#[],by rw[q];simp⟩⟩
theorem Un.refl:Un fs ex H H h h:=Un.kept fun _ _ q=>q
theorem Un.laid(k:∀b u,h.get? b=some u->h'.get? b=some u) (hp:h.objs.size<=a) (hn:H a=none):Un fs ex H (upd H a o) h h' where
 keep:=fun b u q _ _ _=>k b u q
 slot:=fun b u q _ _ _=>⟨u.slots,k b u q⟩
 free:=fun b u q n _=>by rw[C2 (Nat.ne_of_lt (Nat.lt_of_lt_of_le (Heap.lt_size q) hp))];exact n
 there:=fun b u q _=>⟨u,k b u q⟩
 tups:=fun b xs q=>by rw[C2 (C7 q hn)];exact q
 frzs:=fun b u xs q=>by rw[C2 (C7 q hn)];exact q
 tbls:=fun b ps q=>⟨#[],by rw[C2 (C7 q hn),q];simp⟩
theorem Un.write(mu:Mut (H x)) (he:e=x\/H e=some (.own x)) (k:∀b u,b≠e->h.get? b=some u->h'.get? b=some u) (heo:∃u,h'.get? e=some u):Un fs ex H (upd H x o) h h':=by
 have hx:∀b,H b=none->b≠x:=fun b n z=>by subst z;rw[n]at mu;exact mu
 have hb:∀b,H b=none->b≠e:=fun b n z=>by
  subst z
  rcases he with r|r
  ·exact hx b n r
  ·rw[n]at r;cases r
 have hm:∀b u,H b=some u->¬Mut (some u)->b≠x:=fun b u q nm z=>by subst z;rw[q]at mu;exact nm mu
 refine⟨fun b u q n _ _=>k b u (hb b n) q,fun b u q n _ _=>⟨u.slots,k b u (hb b n) q⟩,fun b u q n _=>by rw[C2 (hx b n)];exact n,fun b u q _=>?_,
  fun b xs q=>by rw[C2 (hm b _ q fun z=>z)];exact q,fun b u xs q=>by rw[C2 (hm b _ q fun z=>z)];exact q,fun b ps q=>⟨#[],by rw[C2 (hm b _ q fun z=>z),q];simp⟩⟩
 by_cases hbe:b=e
 ·subst hbe;exact heo
 ·exact⟨u,k b u hbe q⟩
end
noncomputable def trk(h:Heap) (H:Hp):List Addr:=(List.range h.objs.size).filter fun a=>(H a).isSome
noncomputable def ax3(h:Heap) (H:Hp):Heap:=PySem.W.hideAll h (trk h H)
theorem aX0(h:Heap) (H:Hp):(ax3 h H).objs.size=h.objs.size:=PySem.W.hideAll_size _ _
theorem bn0(e:h.get? b=some o) (n:H b=none):(ax3 h H).get? b=some o :=
 PySem.W.hideAll_get _ e fun hm=>by
  have q:(H b).isSome=true:=(List.mem_filter.mp hm).2
  rw[n]at q;simp at q
theorem bx1(e:(ax3 h H).get? b=some o):h.get? b=some o/\H b=none:=by
 have e':h.get? b=some o:=PySem.W.of_hideAll (trk h H) e
 refine⟨e',?_⟩
 cases q:H b with
 | none=>rfl
 | some x =>
  have hm:b∈trk h H:=List.mem_filter.mpr ⟨List.mem_range.mpr (Heap.lt_size e'),by simp[q]⟩
  have z:(ax3 h H).get? b=none:=PySem.W.hideAll_none (trk h H) hm
  rw[z]at e;cases e
noncomputable def bD9(g h:Heap) (L:Addr):List (Addr×Obj):=(List.range h.objs.size).filterMap fun a=>if a=L\/(g.get? a).isSome=true then none else(h.get? a).map fun o=>(a,o)
noncomputable def N5(g h:Heap) (L d:Addr):List (Addr×Obj):=(bD9 g h L).filter fun p=>decide (p.1≠d)
end L2
namespace L2
open PySem PySem.Spec PyProof.Rows
structure Mod (K:PySem.W.Frag) (mg:Str->Option Value) (base:Heap):Prop where
 kin:K.In base
 glob:base.Ns mainGlobals mg
 blt:∃mb,base.Ns builtinsNs mb/\∀x:Str,x ≠ "__name__" -> mb x=bootBuiltins x
 nolimit:base.NoLimit
structure Cx where
 prog:Program
 w:World
 K:PySem.W.Frag
 mg:Str->Option Value
 base:Heap
 A:Around
 N:List Str
 s₀:Shared
 H₀:Hp
 env:Env
 outer:List Env
 stack:List Env
 ex:List Addr
 fn:Str->Bool
 calm:Bool
 pn:List (Addr×Obj)
 xe:Value->Shared->Prop
noncomputable def frs(l:List Env):List Addr:=l.filterMap (·.frame)
noncomputable abbrev Cx.fs(X:Cx):List Addr:=frs X.outer
noncomputable def Vis(sc:Scope) (x:Str):Prop:=sc.names.lookup x=some .local\/sc.names.lookup x=some .cell\/sc.names.lookup x=some .free
noncomputable def Loc(sc:Scope) (x:Str):Prop:=sc.names.lookup x=some .local\/sc.names.lookup x=some .cell
noncomputable def cs1(env:Env) (h:Heap) (m:Str->Option Value) (x:Str) (u:Value):Prop :=
 (env.kindOf x=some .local/\m x=some u)\/((env.kindOf x=some .cell\/env.kindOf x=some .free)/\∃c,env.cells.lookup x=some c/\h.IsCell c (some u))
structure Cx.Ok (X:Cx):Prop where
 mod:Mod X.K X.mg X.base
 kind:X.env.scope.kind=.function
 glob:X.env.globals=mainGlobals
 blt:X.env.builtins=builtinsNs
 above:X.s₀.heap.objs.size<=X.env.locals
 inj:∀x y c,X.env.cells.lookup x=some c->X.env.cells.lookup y=some c->x=y
 has:∀x,(X.env.kindOf x=some .cell\/X.env.kindOf x=some .free)->∃c,X.env.cells.lookup x=some c
 cab:∀x c,X.fn x=true->X.env.cells.lookup x=some c->X.s₀.heap.objs.size<=c
 hd:X.calm=true->X.A.handled=none
 frames:X.A.frames=some X.stack
 stk:X.stack=X.outer\/(X.stack=X.env::X.outer/\X.env.frame=some X.env.locals)
 exf:∀b∈X.ex,b≠X.env.locals/\∀x c,X.env.cells.lookup x=some c->c≠b
 bs:∀b o,X.base.get? b=some o->X.s₀.heap.get? b=some o/\X.H₀ b=none
 bsz:X.base.objs.size<=X.s₀.heap.objs.size
 noex:∀b o,X.base.get? b=some o->b∉X.ex
 exfs:∀b∈X.ex,b∉X.fs
 funs:X.s₀.heap.FunFrames X.base X.outer
 frf:∀b∈X.fs,X.H₀ b=none
structure Inv (X:Cx) (pins:List (Addr×Obj)) (σ:List (Option V)) (H:Hp) (s:Shared):Prop where
 ok:X.Ok
 os:s.os=X.s₀.os
 bare:AllBare s.gens
 base:Un X.fs X.ex X.H₀ H X.s₀.heap s.heap
 loc:∃m,s.heap.Ns X.env.locals m/\∀(i:Nat) (x:Str) (v:V),X.N[i]? = some x->σ[i]? = some (some v)->Vis X.env.scope x->∃u,E4 v u/\cs1 X.env s.heap m x u
 cell:∀x c,X.env.cells.lookup x=some c->∃v,s.heap.IsCell c v
 free:H X.env.locals=none
 freeC:∀x c,X.env.cells.lookup x=some c->H c=none
 pin:∀p∈X.pn++pins,s.heap.get? p.1=some p.2/\H p.1=none/\p.1≠X.env.locals/\p.1∉X.fs/\∀v,p.2.data≠.cell v
 hok:HOk X.prog X.w H s.heap
 len:σ.length=X.N.length
section
variable {X:Cx}{pins:List (Addr×Obj)}{σ:List (Option V)}{H H':Hp}{s:Shared}{h':Heap}
theorem Cx.Ok.nofr(ok:X.Ok) (e:X.base.get? b=some o):b∉X.fs:=fun hb=>by
 have:=(ok.funs.mem hb).1
 rw[e]at this;cases this
theorem Inv.bs(I:Inv X pins σ H s):∀b o,X.base.get? b=some o->s.heap.get? b=some o/\H b=none:=fun b o e =>
 ⟨I.base.keep b o (I.ok.bs b o e).1 (I.ok.bs b o e).2 (I.ok.nofr e) (I.ok.noex b o e),I.base.free b o (I.ok.bs b o e).1 (I.ok.bs b o e).2 (I.ok.noex b o e)⟩
theorem Inv.bk(I:Inv X pins σ H s):∀b o,X.base.get? b=some o->s.heap.get? b=some o:=fun b o e=>(I.bs b o e).1
theorem Inv.mod(I:Inv X pins σ H s):Mod X.K X.mg X.base:=I.ok.mod
theorem Inv.kIn(I:Inv X pins σ H s):X.K.In s.heap:=I.ok.mod.kin.keeps I.bk
theorem Inv.lt(I:Inv X pins σ H s):X.env.locals < s.heap.objs.size:=let⟨_,hn,_⟩:=I.loc;hn.lt
theorem Inv.sz(I:Inv X pins σ H s):X.s₀.heap.objs.size<=s.heap.objs.size:=Nat.le_trans I.ok.above (Nat.le_of_lt I.lt)
theorem Inv.nofs(I:Inv X pins σ H s) (h:s.heap.objs.size<=a):a∉X.fs:=fun hb=>by
 obtain⟨_,o,ho,_⟩:=I.ok.funs.mem hb
 exact absurd (Nat.lt_of_lt_of_le (Heap.lt_size ho) (Nat.le_trans I.sz h)) (Nat.lt_irrefl _)
theorem Inv.cne(I:Inv X pins σ H s):∀x c,X.env.cells.lookup x=some c->c≠X.env.locals:=fun x c e z=>by
 obtain⟨v,o,ho,hd⟩:=I.cell x c e
 obtain⟨m,⟨o',es,ep,ho',hd',_⟩,_⟩:=I.loc
 rw[z,ho']at ho;cases ho;rw[hd']at hd;cases hd
theorem Inv.funs(I:Inv X pins σ H s):s.heap.FunFrames X.base X.outer:=by
 have all:∀(l:List Env),(∀b∈frs l,b∈X.fs)->X.s₀.heap.FunFrames X.base l->s.heap.FunFrames X.base l:=by
  intro l
  induction l with
  | nil=>intro _ _;trivial
  | cons env r ih =>
   intro hs hl
   obtain⟨hk,⟨L,o,hf,hn,ho,hd⟩,hr⟩:=hl
   have hL:L∈X.fs:=hs L (by unfold frs;rw[List.filterMap_cons,hf];exact List.mem_cons_self)
   obtain⟨sl,e⟩:=I.base.slot L o ho (I.ok.frf L hL) hL fun z=>I.ok.exfs L z hL
   exact⟨hk,⟨L,_,hf,hn,e,hd⟩,ih (fun b hb=>hs b (by unfold frs;rw[List.filterMap_cons,hf];exact List.mem_cons_of_mem _ hb)) hr⟩
 exact all X.outer (fun _ hb=>hb) I.ok.funs
theorem Inv.stack(I:Inv X pins σ H s):s.heap.FunFrames X.base X.stack:=by
 rcases I.ok.stk with e|⟨e,hf⟩
 ·rw[e];exact I.funs
 ·rw[e]
  obtain⟨m,hn,_⟩:=I.loc
  refine .cons (by rw[I.ok.kind];decide) hf hn ?_ I.funs
  exact Heap.get?_none_of_le (Nat.le_trans I.ok.bsz I.ok.above)
theorem Inv.stkSub(I:Inv X pins σ H s):∀b∈frs X.stack,b∈X.env.locals::X.fs:=fun b hb=>by
 rcases I.ok.stk with e|⟨e,hf⟩
 ·rw[e]at hb;exact List.mem_cons_of_mem _ hb
 ·rw[e]at hb
  unfold frs at hb
  rw[List.filterMap_cons,hf]at hb
  exact hb
theorem Inv.stkFree(I:Inv X pins σ H s):∀b∈frs X.stack,H b=none:=fun b hb=>by
 rcases List.mem_cons.mp (I.stkSub b hb) with e|hb
 ·rw[e];exact I.free
 ·obtain⟨_,o,ho,_⟩:=I.ok.funs.mem hb
  exact I.base.free b o ho (I.ok.frf b hb) fun z=>I.ok.exfs b z hb
theorem Inv.step{g':Array GenState}{t':Nat}{d':Drawn}{ch:List Addr}(I:Inv X pins σ H s)
  (hch:∀b∈ch,(b∈X.ex\/X.s₀.heap.objs.size<=b)/\b≠X.env.locals/\(∀x c,X.env.cells.lookup x=some c->c≠b)/\∀p∈X.pn++pins,p.1≠b)
  (keep:∀b o,b≠X.env.locals->b∉X.fs->b∉ch->s.heap.get? b=some o->H b=none->h'.get? b=some o)
  (slot:∀b o,b≠X.env.locals->b∈X.fs->b∉ch->s.heap.get? b=some o->H b=none->∃sl,h'.get? b=some { o with slots:=sl }) (free:∀b o,b∉ch->s.heap.get? b=some o->H b=none->H' b=none)
  (there:∀b o,b∉ch->s.heap.get? b=some o->∃o',h'.get? b=some o')
  (tups:∀b xs,H b=some (.tup xs)->H' b=some (.tup xs)) (frzs:∀b o u,H b=some (.frz o u)->H' b=some (.frz o u)) (tbls:∀b ps,H b=some (.tbl ps)->∃more,H' b=some (.tbl (ps++more)))
  (ns:∀m,s.heap.Ns X.env.locals m->h'.Ns X.env.locals m) (hok:HOk X.prog X.w H' h') (hg:AllBare g') :
  Inv X pins σ H' { s with heap:=h',gens:=g',drawn:=d',toks:=t' }:=by
 have neL:∀b o,X.s₀.heap.get? b=some o->b≠X.env.locals:=fun b o e=>Nat.ne_of_lt (Nat.lt_of_lt_of_le (Heap.lt_size e) I.ok.above)
 have neC:∀b o,X.s₀.heap.get? b=some o->b∉X.ex->b∉ch:=fun b o e hx hb=>by
  rcases(hch b hb).1 with z|z
  ·exact hx z
  ·exact absurd (Nat.lt_of_lt_of_le (Heap.lt_size e) z) (Nat.lt_irrefl _)
 have cellK:∀x c,X.env.cells.lookup x=some c->∀v,s.heap.IsCell c v->h'.IsCell c v:=fun x c e v ⟨o,ho,hd⟩=>by
  have nch:c∉ch:=fun z=>(hch c z).2.2.1 x c e rfl
  by_cases hc:c∈X.fs
  ·obtain⟨sl,q⟩:=slot c o (I.cne x c e) hc nch ho (I.freeC x c e)
   exact⟨_,q,hd⟩
  ·exact⟨o,keep c o (I.cne x c e) hc nch ho (I.freeC x c e),hd⟩
 refine⟨I.ok,I.os,hg,⟨fun b o e n hb hx=>?_,fun b o e n hb hx=>?_,fun b o e n hx=>?_,fun b o e hx=>?_,fun b xs e=>tups b xs (I.base.tups b xs e),fun b o xs e=>frzs b o xs (I.base.frzs b o xs e),fun b ps e=>?_⟩,?_,fun x c e=>?_,?_,fun x c e=>?_,fun p hp=>?_,hok,I.len⟩
 ·exact keep b o (neL b o e) hb (neC b o e hx) (I.base.keep b o e n hb hx) (I.base.free b o e n hx)
 ·obtain⟨sl,e1⟩:=I.base.slot b o e n hb hx
  obtain⟨sl',e2⟩:=slot b _ (neL b o e) hb (neC b o e hx) e1 (I.base.free b o e n hx)
  exact⟨sl',e2⟩
 ·obtain⟨o',e1⟩:=I.base.there b o e hx
  exact free b o' (neC b o e hx) e1 (I.base.free b o e n hx)
 ·obtain⟨o',e1⟩:=I.base.there b o e hx
  exact there b o' (neC b o e hx) e1
 ·obtain⟨m1,e1⟩:=I.base.tbls b ps e
  obtain⟨m2,e2⟩:=tbls b _ e1
  exact⟨m1++m2,by rw[e2,Array.append_assoc]⟩
 ·obtain⟨m,hn,hl⟩:=I.loc
  refine⟨m,ns m hn,fun i x v e1 e2 e3=>?_⟩
  obtain⟨u,r,l⟩:=hl i x v e1 e2 e3
  refine⟨u,r,?_⟩
  rcases l with l|⟨k,c,e,z⟩
  ·exact .inl l
  ·exact .inr ⟨k,c,e,cellK x c e _ z⟩
 ·obtain⟨v,z⟩:=I.cell x c e
  exact⟨v,cellK x c e v z⟩
 ·obtain⟨m,⟨o,_,_,ho,_⟩,_⟩:=I.loc
  exact free _ o (fun z=>(hch _ z).2.1 rfl) ho I.free
 ·obtain⟨v,o,ho,hd⟩:=I.cell x c e
  exact free c o (fun z=>(hch c z).2.2.1 x c e rfl) ho (I.freeC x c e)
 ·obtain⟨e,n,ne,nf,d⟩:=I.pin p hp
  have nch:p.1∉ch:=fun z=>(hch p.1 z).2.2.2 p hp rfl
  exact⟨keep p.1 p.2 ne nf nch e n,free p.1 p.2 nch e n,ne,nf,d⟩
theorem Inv.un{t':Nat}(I:Inv X pins σ H s) (u:Un X.fs [] H H' s.heap h') (hok:HOk X.prog X.w H' h'):Inv X pins σ H' { s with heap:=h',toks:=t' }:=by
 obtain⟨m,⟨o,es,ep,ho,r⟩,_⟩:=id I.loc
 obtain⟨sl,hL⟩:=u.any ho I.free (by simp)
 exact I.step (g':=s.gens) (d':=s.drawn) (ch:=[]) (fun _ z=>nomatch z) (fun b o _ hb _ e n=>u.keep b o e n hb (by simp)) (fun b o _ hb _ e n=>u.slot b o e n hb (by simp)) (fun b o _ e n=>u.free b o e n (by simp)) (fun b o _ e=>u.there b o e (by simp)) u.tups u.frzs u.tbls (fun m' hm=>by
  obtain⟨o',es',ep',ho',r'⟩:=hm
  rw[ho]at ho';cases ho'
  exact⟨_,es',ep',hL,r'⟩) hok I.bare
theorem Inv.call{g':Array GenState}{t':Nat}{d':Drawn}{ch:List Addr}(I:Inv X pins σ H s) (u:Un (frs X.stack) ch H H' s.heap h') (hok:HOk X.prog X.w H' h') (hg:AllBare g')
  (hch:∀b∈ch,(b∈X.ex\/X.s₀.heap.objs.size<=b)/\b≠X.env.locals/\(∀x c,X.env.cells.lookup x=some c->c≠b)/\∀p∈X.pn++pins,p.1≠b) :
  Inv X pins σ H' { s with heap:=h',gens:=g',drawn:=d',toks:=t' }:=by
 obtain⟨m,⟨o,es,ep,ho,r⟩,_⟩:=id I.loc
 obtain⟨sl,hL⟩:=u.any ho I.free fun z=>(hch _ z).2.1 rfl
 exact I.step (ch:=ch) hch (fun b o hL hb hc e n=>u.keep b o e n (fun z=>(List.mem_cons.mp (I.stkSub b z)).elim hL hb) hc) (fun b o _ _ hc e n=>u.any e n hc) (fun b o hc e n=>u.free b o e n hc) (fun b o hc e=>u.there b o e hc) u.tups u.frzs u.tbls (fun m' hm=>by
  obtain⟨o',es',ep',ho',r'⟩:=hm
  rw[ho]at ho';cases ho'
  exact⟨_,es',ep',hL,r'⟩) hok hg
theorem Inv.turned{t':Nat}{it:Addr}(I:Inv X pins σ H s) (k:∀b o,b≠it->s.heap.get? b=some o->h'.get? b=some o) (hn:H it=none) (hL:it≠X.env.locals)
  (h1:it∈X.ex\/X.s₀.heap.objs.size<=it) (h2:∀x c,X.env.cells.lookup x=some c->c≠it) (h3:∀p∈X.pn++pins,p.1≠it):Inv X pins σ H { s with heap:=h',toks:=t' }:=by
 have nit:∀b u,H b=some u->b≠it:=fun b u e z=>by rw[z,hn]at e;cases e
 refine I.step (g':=s.gens) (d':=s.drawn) (ch:=[it]) (fun b hb=>?_) (fun b o _ _ hc e _=>k b o (fun z=>hc (by simp[z])) e) (fun b o _ _ hc e _=>⟨o.slots,k b o (fun z=>hc (by simp[z])) e⟩) (fun _ _ _ _ n=>n)
  (fun b o hc e=>⟨o,k b o (fun z=>hc (by simp[z])) e⟩) (fun _ _ e=>e) (fun _ _ _ e=>e) (fun b ps e=>⟨#[],by rw[e];simp⟩) (fun m hm=>?_) (fun b u e=>?_) I.bare
 ·have e:b=it:=by simpa using hb
  subst e
  exact⟨h1,hL,h2,h3⟩
 ·obtain⟨o,es,ep,ho,r⟩:=hm
  exact⟨o,es,ep,k _ o (Ne.symm hL) ho,r⟩
 ·refine(I.hok b u e).stay (fun c v hc q=>k c v ?_ q) (fun _ q=>q) fun _ _ q=>q
  rcases hc with z|z
  ·rw[z];exact nit b u e
  ·exact nit c _ z
theorem Inv.tok(I:Inv X pins σ H s) (t:Nat):Inv X pins σ H { s with toks:=t }:=I.un (h':=s.heap) (t':=t) Un.refl I.hok
theorem Inv.kept(I:Inv X pins σ H s) (k:∀b u,s.heap.get? b=some u->h'.get? b=some u):Inv X pins σ H { s with heap:=h',toks:=t' }:=I.un (Un.kept k) (I.hok.kept k)
theorem Inv.laid(I:Inv X pins σ H s) (k:∀b u,s.heap.get? b=some u->h'.get? b=some u) (hp:s.heap.objs.size<=a) (new:R1 X.prog X.w (upd H a o) h' a o) :
  Inv X pins σ (upd H a o) { s with heap:=h',toks:=t' }:=I.un (Un.laid k hp (I.hok.fresh hp)) (I.hok.laid k hp new)
theorem Inv.write(I:Inv X pins σ H s) (mu:Mut (H x)) (he:e=x\/H e=some (.own x)) (k:∀b u,b≠e->s.heap.get? b=some u->h'.get? b=some u) (heo:∃u,h'.get? e=some u)
  (new:R1 X.prog X.w (upd H x o) h' x o):Inv X pins σ (upd H x o) { s with heap:=h',toks:=t' }:=I.un (Un.write mu he k heo) (I.hok.write mu he k heo new)
theorem Inv.pins_of(I:Inv X pins σ H s) (h:∀p∈pins',s.heap.get? p.1=some p.2/\H p.1=none/\p.1≠X.env.locals/\p.1∉X.fs/\∀v,p.2.data≠.cell v):Inv X pins' σ H s :=
 ⟨I.ok,I.os,I.bare,I.base,I.loc,I.cell,I.free,I.freeC,fun p hp=>(List.mem_append.mp hp).elim (fun z=>I.pin p (List.mem_append_left _ z)) (h p),I.hok,I.len⟩
theorem aB6{N:List Str}(hN:N.Nodup) {i j:Nat}{x:Str}(a:N[i]? = some x) (b:N[j]? = some x):i=j:=by
 obtain⟨h1,e1⟩:=List.getElem?_eq_some_iff.mp a
 obtain⟨h2,e2⟩:=List.getElem?_eq_some_iff.mp b
 exact(List.getElem_inj hN).mp (e1.trans e2.symm)
theorem aq4(I:Inv X pins σ H s) (hN:X.N.Nodup) (hi:X.N[i]? = some x) (hx:Loc X.env.scope x) (r:E4 v u)
  (h:∀s',Inv X pins (σ.set i (some v)) H s'->(∃a,Heap.SameBut a s.heap s'.heap/\(a=X.env.locals\/X.env.cells.lookup x=some a))->Q () s') (hf:X.fn x=true\/X.env.scope.names.lookup x=some .local:=by first|exact .inl rfl|exact .inr rfl|assumption):wpAny M A (storeName X.env x u) Q E s:=by
 obtain⟨m,hn,hl⟩:=id I.loc
 have hcls:(X.env.scope.kind == .class || (X.env.scope.kind == .module&&X.env.locals != X.env.globals))=false:=by rw[I.ok.kind];rfl
 have hiσ:i < σ.length:=by rw[I.len];exact(List.getElem?_eq_some_iff.mp hi).1
 have cne:=I.cne
 have tracked:∀{a:Addr}{h':Heap},(∃o,s.heap.get? a=some o/\H a=none)->Heap.SameBut a s.heap h'->HOk X.prog X.w H h':=fun{a h'} ha hs b ob e=>by
  obtain⟨_,_,hfree⟩:=ha
  refine(I.hok b ob e).stay (fun c w' hc q=>(hs.2 c ?_).trans q) (fun _ q=>q) fun _ _ q=>q
  rintro rfl
  rcases hc with rfl|hc
  ·rw[hfree]at e;cases e
  ·rw[hfree]at hc;cases hc
 rcases hx with hk|hk
 ·refine wpAny_storeName_local hk hn (fun h' hn' hs=>?_) hcls
  obtain⟨oL,_,_,hoL,_⟩:=id hn
  refine h _ ⟨I.ok,I.os,I.bare,⟨fun b o e n hb hx=>?_,fun b o e n hb hx=>?_,I.base.free,fun b o e hx=>?_,I.base.tups,I.base.frzs,I.base.tbls⟩,⟨_,hn',fun j y v' e1 e2 e3=>?_⟩,fun y c e=>?_,I.free,I.freeC,fun p hp=>?_,tracked ⟨oL,hoL,I.free⟩ hs,by simpa using I.len⟩ ⟨_,hs,.inl rfl⟩
  ·exact(hs.2 b (Nat.ne_of_lt (Nat.lt_of_lt_of_le (Heap.lt_size e) I.ok.above))).trans (I.base.keep b o e n hb hx)
  ·obtain⟨sl,e1⟩:=I.base.slot b o e n hb hx
   exact⟨sl,(hs.2 b (Nat.ne_of_lt (Nat.lt_of_lt_of_le (Heap.lt_size e) I.ok.above))).trans e1⟩
  ·obtain⟨o',e1⟩:=I.base.there b o e hx
   exact⟨o',(hs.2 b (Nat.ne_of_lt (Nat.lt_of_lt_of_le (Heap.lt_size e) I.ok.above))).trans e1⟩
  ·by_cases hj:j=i
   ·subst hj
    rw[hi]at e1;cases e1
    rw[List.getElem?_set_self hiσ]at e2
    cases e2
    exact⟨u,r,.inl ⟨hk,by simp⟩⟩
   ·rw[List.getElem?_set_ne (Ne.symm hj)]at e2
    obtain⟨u',r',q⟩:=hl j y v' e1 e2 e3
    refine⟨u',r',?_⟩
    rcases q with⟨k,e⟩|⟨k,c,e,z⟩
    ·refine .inl ⟨k,?_⟩
     have:y≠x:=fun e=>hj (aB6 hN e1 (e ▸ hi))
     simp[this,e]
    ·exact .inr ⟨k,c,e,z.sameBut hs (cne y c e)⟩
  ·obtain⟨w',z⟩:=I.cell y c e
   exact⟨w',z.sameBut hs (cne y c e)⟩
  ·obtain⟨e,n,ne,nf,d⟩:=I.pin p hp
   exact⟨(hs.2 p.1 ne).trans e,n,ne,nf,d⟩
 ·have hfn:X.fn x=true:=by
   rcases hf with z|z
   ·exact z
   ·rw[z]at hk;cases hk
  obtain⟨c,hc⟩:=I.ok.has x (.inl hk)
  obtain⟨w',z⟩:=I.cell x c hc
  refine wpAny_storeName_cell I.ok.kind hk hc z (fun h' hc' hs=>?_)
  obtain⟨oc,hoc,hocd⟩:=id z
  refine h { s with heap:=h' } ⟨I.ok,I.os,I.bare,⟨fun b o e n hb hx=>?_,fun b o e n hb hx=>?_,I.base.free,fun b o e hx=>?_,I.base.tups,I.base.frzs,I.base.tbls⟩,⟨m,hn.sameBut hs (Ne.symm (cne x c hc)),fun j y v' e1 e2 e3=>?_⟩,fun y c' e=>?_,I.free,I.freeC,fun p hp=>?_,tracked ⟨oc,hoc,I.freeC x c hc⟩ hs,by simpa using I.len⟩ ⟨c,hs,.inr hc⟩
  ·exact(hs.2 b (Nat.ne_of_lt (Nat.lt_of_lt_of_le (Heap.lt_size e) (I.ok.cab x c hfn hc)))).trans (I.base.keep b o e n hb hx)
  ·obtain⟨sl,e1⟩:=I.base.slot b o e n hb hx
   exact⟨sl,(hs.2 b (Nat.ne_of_lt (Nat.lt_of_lt_of_le (Heap.lt_size e) (I.ok.cab x c hfn hc)))).trans e1⟩
  ·obtain⟨o',e1⟩:=I.base.there b o e hx
   exact⟨o',(hs.2 b (Nat.ne_of_lt (Nat.lt_of_lt_of_le (Heap.lt_size e) (I.ok.cab x c hfn hc)))).trans e1⟩
  ·by_cases hj:j=i
   ·subst hj
    rw[hi]at e1;cases e1
    rw[List.getElem?_set_self hiσ]at e2
    cases e2
    exact⟨u,r,.inr ⟨.inl hk,c,hc,hc'⟩⟩
   ·rw[List.getElem?_set_ne (Ne.symm hj)]at e2
    obtain⟨u',r',q⟩:=hl j y v' e1 e2 e3
    refine⟨u',r',?_⟩
    rcases q with q|⟨k,c',e,z'⟩
    ·exact .inl q
    ·refine .inr ⟨k,c',e,z'.sameBut hs ?_⟩
     rintro rfl
     exact hj (aB6 hN e1 (I.ok.inj _ _ _ e hc ▸ hi))
  ·by_cases hcc:c'=c
   ·subst hcc;exact⟨_,hc'⟩
   ·obtain⟨w2,z2⟩:=I.cell y c' e
    exact⟨w2,z2.sameBut hs hcc⟩
  ·obtain⟨e,n,ne,nf,d⟩:=I.pin p hp
   refine⟨(hs.2 p.1 ?_).trans e,n,ne,nf,d⟩
   intro q
   rw[q,hoc]at e
   have q':oc=p.2:=Option.some.inj e
   exact d w' (by rw[← q'];exact hocd)
theorem aa0(I:Inv X pins σ H s) (hN:X.N.Nodup) (hi:X.N[i]? = some x) (hx:Loc X.env.scope x) (r:E4 v u)
  (h:∀s',Inv X pins (σ.set i (some v)) H s'->Q () s') (hf:X.fn x=true\/X.env.scope.names.lookup x=some .local:=by first|exact .inl rfl|exact .inr rfl|assumption):wpAny M A (storeName X.env x u) Q E s :=
 aq4 I hN hi hx r (fun s' I' _=>h s' I') hf
theorem Inv.call'(I:Inv X pins σ H s) (ho:s'.os=s.os) (u:Un (frs X.stack) ch H H' s.heap s'.heap) (hok:HOk X.prog X.w H' s'.heap) (hg:AllBare s'.gens)
  (hch:∀b∈ch,(b∈X.ex\/X.s₀.heap.objs.size<=b)/\b≠X.env.locals/\(∀x c,X.env.cells.lookup x=some c->c≠b)/\∀p∈X.pn++pins,p.1≠b):Inv X pins σ H' s':=by
 obtain⟨h',g',d',t',o'⟩:=s'
 have e:o'=s.os:=ho
 subst e
 exact I.call (g':=g') (t':=t') (d':=d') u hok hg hch
end
noncomputable abbrev XK:=Value->Option Addr->Hp->Prop
noncomputable abbrev St:=List (Option V)
noncomputable abbrev VK:=V->Hp->Prop
noncomputable abbrev TE:=St->Hp->VK->Prop
noncomputable abbrev TT:=St->Hp->(Bool->Hp->Prop)->Prop
noncomputable abbrev TA:=St->Hp->(List V->Hp->Prop)->Prop
structure Ends where
 nx:St->Hp->Prop
 rt:VK
 bk:St->Hp->Prop:=fun _ _=>False
 ct:St->Hp->Prop:=fun _ _=>False
noncomputable abbrev TS:=Ends->St->Hp->Prop
noncomputable def EP(X:Cx) (pins:List (Addr×Obj)) (σ:St) (Q:VK) (u:Value) (s':Shared):Prop:=∃v H',Inv X pins σ H' s'/\E4 v u/\Q v H'
noncomputable def TP(X:Cx) (pins:List (Addr×Obj)) (σ:St) (Q:Bool->Hp->Prop) (b:Bool) (s':Shared):Prop:=∃H',Inv X pins σ H' s'/\Q b H'
noncomputable def AP(X:Cx) (pins:List (Addr×Obj)) (σ:St) (Q:List V->Hp->Prop) (us:List Value) (s':Shared):Prop:=∃vs H',Inv X pins σ H' s'/\C8 vs us/\Q vs H'
noncomputable def SP(X:Cx) (pins:List (Addr×Obj)) (D:Ends) (f:Flow) (s':Shared):Prop :=
 match f with
 | .next=>∃σ' H',Inv X pins σ' H' s'/\D.nx σ' H'
 | .brk=>∃σ' H',Inv X pins σ' H' s'/\D.bk σ' H'
 | .cont=>∃σ' H',Inv X pins σ' H' s'/\D.ct σ' H'
 | .ret u=>∃v σ' H',Inv X pins σ' H' s'/\E4 v u/\D.rt v H'
noncomputable def PE(X:Cx) (e:Expr) (t:TE):Prop :=
 ∀(pins:List (Addr×Obj)) (s:Shared) (σ:St) (H:Hp) (Q:VK),Inv X pins σ H s->t σ H Q->wpAny (model X.prog X.w) X.A (eval e X.env) (EP X pins σ Q) X.xe s
noncomputable def PT(X:Cx) (e:Expr) (t:TT):Prop :=
 ∀(pins:List (Addr×Obj)) (s:Shared) (σ:St) (H:Hp) (Q:Bool->Hp->Prop),Inv X pins σ H s->t σ H Q->wpAny (model X.prog X.w) X.A (isTrue e X.env (eval e X.env)) (TP X pins σ Q) X.xe s
noncomputable def PW(X:Cx) (e:Expr) (t:TT):Prop :=
 ∀(whole:Sem Value) (pins:List (Addr×Obj)) (s:Shared) (σ:St) (H:Hp) (Q:Bool->Hp->Prop),Inv X pins σ H s->t σ H Q->wpAny (model X.prog X.w) X.A (isTrue e X.env whole) (TP X pins σ Q) X.xe s
theorem PW.pt(h:PW X e t):PT X e t:=h _
noncomputable def PA(X:Cx) (es:List Expr) (t:TA):Prop :=
 ∀(pos:Pos) (pins:List (Addr×Obj)) (s:Shared) (σ:St) (H:Hp) (Q:List V->Hp->Prop),Inv X pins σ H s->t σ H Q->wpAny (model X.prog X.w) X.A (spliced (backTo pos (starEach es X.env))) (AP X pins σ Q) X.xe s
noncomputable def PS(X:Cx) (st:Stmt) (t:TS):Prop :=
 ∀(pins:List (Addr×Obj)) (s:Shared) (σ:St) (H:Hp) (D:Ends),Inv X pins σ H s->t D σ H->wpAny (model X.prog X.w) X.A (exec st X.env) (SP X pins D) X.xe s
noncomputable def PSs(X:Cx) (st:List Stmt) (t:TS):Prop :=
 ∀(pins:List (Addr×Obj)) (s:Shared) (σ:St) (H:Hp) (D:Ends),Inv X pins σ H s->t D σ H->wpAny (model X.prog X.w) X.A (execs st X.env) (SP X pins D) X.xe s
theorem thn{α:Type}{t:Sem α}{Q Q':α->Shared->Prop}{M:Model}{A:Around}{E:Value->Shared->Prop}{s:Shared}(h:wpAny M A t Q E s) (hQ:∀a s,Q a s->Q' a s):wpAny M A t Q' E s:=wpAny_mono h hQ fun _ _ x=>x
end L2
namespace L2
open PySem PySem.Spec PyProof.Rows
section
variable {X:Cx}
theorem bin{a b:Expr}{ta tb:TE}(ha:PE X a ta) (hb:PE X b tb) {pins:List (Addr×Obj)}{s:Shared}{σ:St}{H:Hp}{R:V->V->Hp->Prop}(I:Inv X pins σ H s) (h:ta σ H fun x H1=>tb σ H1 fun y H2=>R x y H2)
  {α:Type}{Q:α->Shared->Prop}{f:Value->Value->Sem α}
  (hf:∀v u s2 x y H2,Inv X pins σ H2 s2->E4 x v->E4 y u->R x y H2->wpAny (model X.prog X.w) X.A (f v u) Q X.xe s2) :
  wpAny (model X.prog X.w) X.A (eval a X.env) (fun v s₁=>wpAny (model X.prog X.w) X.A (eval b X.env) (fun u s₂=>wpAny (model X.prog X.w) X.A (f v u) Q X.xe s₂) X.xe s₁) X.xe s:=by
 refine thn (ha pins s σ H _ I h) fun v s1 ⟨x,H1,I1,r1,q1⟩=>?_
 refine thn (hb pins s1 σ H1 _ I1 q1) fun u s2 ⟨y,H2,I2,r2,q2⟩=>?_
 exact hf v u s2 x y H2 I2 r1 r2 q2
noncomputable def ce3(i:Nat):TE:=fun σ H Q=>∃v,σ[i]? = some (some v)/\Q v H
noncomputable def tC(v:V):TE:=fun _ H Q=>Q v H
theorem O0(hN:X.N[i]? = some x) (hv:Vis X.env.scope x) (hd:(x==("__debug__" : Str))=false:=by decide) (hcd:(x==("__classdict__" : Str))=false:=by decide):PE X (.Name x pos) (ce3 i):=by
 intro pins s σ H Q I h
 obtain⟨v,e,h⟩:=h
 obtain⟨m,hn,hl⟩:=I.loc
 obtain⟨u,r,l⟩:=hl i x v hN e hv
 have fin:EP X pins σ Q u s:=⟨v,H,I,r,h⟩
 rcases l with⟨hk,hm⟩|⟨hk,c,hc,hcell⟩
 ·exact wpAny_Name (wpAny_loadName_local I.ok.kind hk hn hm fin) hd
 ·rcases hk with hk|hk
  ·exact wpAny_Name (wpAny_loadName_cell I.ok.kind hk hc hcell fin) hd
  ·exact wpAny_Name (wpAny_loadName_free I.ok.kind hk hc hcell fin hcd) hd
theorem bP1{i j pos}:PE X (.Constant (.int i) j pos) (tC (.int i)):=fun _ _ _ H _ I h=>wpAny_Constant_int ⟨.int i,H,I.tok _,⟨_,rfl⟩,h⟩
theorem cg9{b j pos}:PE X (.Constant (.bool b) j pos) (tC (.bl b)):=fun _ _ _ H _ I h=>Constant_bool ⟨.bl b,H,I,rfl,h⟩
theorem bP0{j pos}:PE X (.Constant .none j pos) (tC .non):=fun _ _ _ H _ I h=>Constant_none ⟨.non,H,I,rfl,h⟩
theorem bO8{x j pos}:PE X (.Constant (.str x) j pos) (tC (.str x)):=fun _ _ _ H _ I h=>Calls.Constant_str ⟨.str x,H,I.tok _,⟨_,rfl⟩,h⟩
noncomputable def Gl(X:Cx) (x:Str):Prop:=X.env.kindOf x=some .globalImplicit
theorem aj2(I:Inv X pins σ H s) (hg:Gl X x) (hm:X.mg x=some u) (h:Q u s)
  (hd:(x==("__debug__" : Str))=false:=by decide):wpAny (model X.prog X.w) X.A (eval (.Name x pos) X.env) Q E s :=
 Calls.Name_function_global I.ok.kind hg (Calls.loadGlobal_global (by rw[I.ok.glob];exact I.mod.glob.keeps I.bk) hm h) hd
theorem al5(I:Inv X pins σ H s) (hg:Gl X x) (hm:X.mg x=none) (hv:bootBuiltins x=some u) (h:Q u s)
  (hn:x ≠ "__name__" := by decide) (hd:(x==("__debug__" : Str))=false:=by decide):wpAny (model X.prog X.w) X.A (eval (.Name x pos) X.env) Q E s:=by
 obtain⟨mb,h1,h2⟩:=I.mod.blt
 exact Calls.Name_function_global I.ok.kind hg (Calls.loadGlobal_builtin (by rw[I.ok.glob];exact I.mod.glob.keeps I.bk) hm (by rw[I.ok.blt];exact h1.keeps I.bk) ((h2 x hn).trans hv) h) hd
theorem bw0(hg:Gl X x) (hm:X.mg x=some u) (r:E4 v u) (hd:(x==("__debug__" : Str))=false:=by decide):PE X (.Name x pos) (tC v) :=
 fun _ _ _ H _ I h=>aj2 I hg hm ⟨v,H,I,r,h⟩ hd
theorem bw1(hg:Gl X x) (hm:X.mg x=none) (hv:bootBuiltins x=some u) (r:E4 v u) (hn:x ≠ "__name__" := by decide) (hd:(x==("__debug__" : Str))=false:=by decide):PE X (.Name x pos) (tC v) :=
 fun _ _ _ H _ I h=>al5 I hg hm hv ⟨v,H,I,r,h⟩ hn hd
variable {a b:Expr}{ta tb:TE}{pos:Pos}
variable {tA tB':TT}{N5:List Expr}
noncomputable def co8(t u:TT):TT:=fun σ H Q=>t σ H fun c H1=>if c=true then u σ H1 Q else Q false H1
noncomputable def tOr(t u:TT):TT:=fun σ H Q=>t σ H fun c H1=>if c=true then Q true H1 else u σ H1 Q
noncomputable def co3(t:TT):TT:=fun σ H Q=>t σ H fun c H1=>Q (!c) H1
theorem aO3(ha:PT X a tA):PW X (.BoolOp .And [a] pos) tA:=by
 intro wh pins s σ H Q I h
 refine isTrue_and (thn (ha pins s σ H Q I h) fun c s1 e=>?_)
 cases c with
 | true=>exact isTrue_and_nil e
 | false=>exact e
theorem bf1(ha:PT X a tA):PW X (.BoolOp .Or [a] pos) tA:=by
 intro wh pins s σ H Q I h
 refine isTrue_or (thn (ha pins s σ H Q I h) fun c s1 e=>?_)
 cases c with
 | false=>exact isTrue_or_nil e
 | true=>exact e
theorem av5(ha:PT X a tA) (hb:PW X (.BoolOp .And (b::N5) pos) tB'):PW X (.BoolOp .And (a::b::N5) pos) (co8 tA tB'):=by
 intro wh pins s σ H Q I h
 refine isTrue_and (thn (ha pins s σ H _ I h) fun c s1 ⟨H1,I1,q1⟩=>?_)
 cases c with
 | true=>exact hb wh pins s1 σ H1 Q I1 q1
 | false=>exact⟨H1,I1,q1⟩
theorem aO2(ha:PT X a tA) (hb:PW X (.BoolOp .Or (b::N5) pos) tB'):PW X (.BoolOp .Or (a::b::N5) pos) (tOr tA tB'):=by
 intro wh pins s σ H Q I h
 refine isTrue_or (thn (ha pins s σ H _ I h) fun c s1 ⟨H1,I1,q1⟩=>?_)
 cases c with
 | true=>exact⟨H1,I1,q1⟩
 | false=>exact hb wh pins s1 σ H1 Q I1 q1
theorem bf2(ha:PT X a tA):PT X (.UnaryOp .Not a pos) (co3 tA):=by
 intro pins s σ H Q I h
 exact isTrue_not (ha pins s σ H (fun c H1=>Q (!c) H1) I h)
noncomputable def cf1(ta tb:TE):TE:=fun σ H Q=>ta σ H fun x H1=>∃c,x=.bl c/\if c=true then tb σ H1 Q else Q (.bl false) H1
noncomputable def ce5(ta:TE):TE:=fun σ H Q=>ta σ H fun x H1=>∃c,x=.bl c/\Q (.bl (!c)) H1
theorem bg4{op} (h:PE X a t):PE X (.BoolOp op [a] pos) t:=fun pins s σ H Q I hw=>BoolOp_one (h pins s σ H Q I hw)
theorem av9(ha:PE X a ta) (hb:PE X (.BoolOp .And (b::N5) pos) tb):PE X (.BoolOp .And (a::b::N5) pos) (cf1 ta tb):=by
 intro pins s σ H Q I h
 refine BoolOp_and (thn (ha pins s σ H _ I h) fun v s1 ⟨x,H1,I1,r1,q1⟩=>?_)
 obtain⟨c,rfl,q1⟩:=q1
 cases r1
 refine wpAny_truthy_bool ?_
 cases c with
 | true=>exact hb pins s1 σ H1 Q I1 q1
 | false=>exact⟨.bl false,H1,I1,rfl,q1⟩
theorem bO9(ha:PE X a ta):PE X (.UnaryOp .Not a pos) (ce5 ta):=by
 intro pins s σ H Q I h
 refine UnaryOp_ (thn (ha pins s σ H _ I h) fun v s1 ⟨x,H1,I1,r1,q1⟩=>?_)
 obtain⟨c,rfl,q1⟩:=q1
 cases r1
 exact not_of (wpAny_truthy_bool ⟨.bl (!c),H1,I1,rfl,q1⟩)
noncomputable def tIf(t:TT) (ta tb:TE):TE:=fun σ H Q=>t σ H fun c H1=>if c=true then ta σ H1 Q else tb σ H1 Q
theorem aB2(hc:PT X c tA) (ha:PE X a ta) (hb:PE X b tb):PE X (.IfExp c a b pos) (tIf tA ta tb):=by
 intro pins s σ H Q I h
 refine wpAny_IfExp (thn (hc pins s σ H _ I h) fun d s1 ⟨H1,I1,q1⟩=>?_)
 cases d with
 | true=>exact ha pins s1 σ H1 Q I1 q1
 | false=>exact hb pins s1 σ H1 Q I1 q1
end
end L2
namespace L2
open PySem PySem.Spec PyProof.Rows
noncomputable def SqL(K:PySem.W.Frag) (H:Hp) (a:Addr) (xs:List V):Prop :=
 Rd H a (.lst xs) \/
  ∃(o:Obj) (its:Array Value) (n:Nat),K.lookup a=some o/\o.cls=.type "list" /\ o.dict=none/\o.data=.seq its n/\its.size<=sizeLine/\C8 xs its.toList
noncomputable def SqT(K:PySem.W.Frag) (H:Hp) (a:Addr) (xs:List V):Prop :=
 Rd H a (.tup xs) \/
  ∃(o:Obj) (its:Array Value) (n:Nat),K.lookup a=some o/\o.cls=.type "tuple" /\ o.dict=none/\o.data=.seq its n/\its.size<=sizeLine/\C8 xs its.toList
noncomputable def cr9:Value->Option V
 | .none=>some .non
 | .bool b=>some (.bl b)
 | .int i _=>some (.int i)
 | .str x _=>some (.str x)
 | .bytes b _=>some (.byt b)
 | .float b _=>some (.flt b)
 | .ref a=>some (.ref a)
 | .type n=>some (.ty n)
 | _=>none
theorem E4.abs(r:E4 x u):cr9 u=some x:=by
 cases x with
 | non=>cases r;rfl
 | bl _=>cases r;rfl
 | int _=>obtain⟨t,rfl⟩:=r;rfl
 | str _=>obtain⟨t,rfl⟩:=r;rfl
 | byt _=>obtain⟨t,rfl⟩:=r;rfl
 | flt _=>obtain⟨t,rfl⟩:=r;rfl
 | ref _=>cases r;rfl
 | ty _=>cases r;rfl
theorem E4.inj(r:E4 x u) (q:E4 y u):x=y:=Option.some.inj (r.abs.symm.trans q.abs)
theorem C8.inj:∀{xs ys:List V}{us:List Value},C8 xs us->C8 ys us->xs=ys
 | _,_,_,.nil,.nil=>rfl
 | _,_,_,.cons r t,.cons r' t'=>by rw[r.inj r',C8.inj t t']
section
variable {X:Cx}{pins:List (Addr×Obj)}{σ:St}{H:Hp}{s:Shared}{a:Addr}{xs ys:List V}
theorem SqL.of{K:PySem.W.Frag}(h:H a=some (.lst xs)):SqL K H a xs:=.inl (.inl h)
theorem SqT.of{K:PySem.W.Frag}(h:H a=some (.tup xs)):SqT K H a xs:=.inl (.inl h)
theorem Inv.list(I:Inv X pins σ H s) (h:SqL X.K H a xs):∃its:List Value,C8 xs its/\PlainL s.heap a its.toArray/\xs.length<=sizeLine:=by
 rcases h with h|⟨o,its,n,hk,hc,hd,hs,hz,r⟩
 ·obtain⟨z,its,n,r,e⟩:=h.ok I.hok
  exact⟨its,r,⟨_,n,e,rfl,rfl,rfl⟩,z⟩
 ·refine⟨its.toList,r,⟨o,n,I.kIn a o hk,hc,hd,by simpa using hs⟩,?_⟩
  have e:=r.length
  simp only[Array.length_toList]at e
  omega
theorem Inv.tupN(I:Inv X pins σ H s) (h:SqT X.K H a xs):∃its:List Value,C8 xs its/\ap4 s.heap a its.toArray/\xs.length<=sizeLine:=by
 rcases h with h|⟨o,its,n,hk,hc,hd,hs,hz,r⟩
 ·obtain⟨z,its,r,p⟩:=h.ok I.hok
  exact⟨its,r,p,z⟩
 ·refine⟨its.toList,r,⟨o,I.kIn a o hk,hc,⟨n,by simpa using hs⟩,hd⟩,?_⟩
  have e:=r.length
  simp only[Array.length_toList]at e
  omega
theorem Inv.tuple(I:Inv X pins σ H s) (h:SqT X.K H a xs):∃its:List Value,C8 xs its/\IsTup s.heap a its.toArray/\xs.length<=sizeLine :=
 let⟨its,r,p,z⟩:=I.tupN h;⟨its,r,p.tup,z⟩
theorem Inv.list_inj(I:Inv X pins σ H s) (h:SqL X.K H a xs) (h':SqL X.K H a ys):xs=ys:=by
 obtain⟨its,r,⟨o,n,e,_,_,d⟩,_⟩:=I.list h
 obtain⟨its',r',⟨o',n',e',_,_,d'⟩,_⟩:=I.list h'
 rw[e]at e';cases e'
 rw[d]at d'
 injection d' with d1 _
 have:its=its':=by simpa using congrArg Array.toList d1
 subst this
 exact r.inj r'
theorem Inv.tuple_inj(I:Inv X pins σ H s) (h:SqT X.K H a xs) (h':SqT X.K H a ys):xs=ys:=by
 obtain⟨its,r,⟨o,e,_,n,d⟩,_⟩:=I.tuple h
 obtain⟨its',r',⟨o',e',_,n',d'⟩,_⟩:=I.tuple h'
 rw[e]at e';cases e'
 rw[d]at d'
 injection d' with d1 _
 have:its=its':=by simpa using congrArg Array.toList d1
 subst this
 exact r.inj r'
end
noncomputable abbrev Cx.wish(X:Cx) (E:Value->Shared->Prop):Cx:={ X with xe:=E }
noncomputable abbrev Cx.nox(X:Cx):Cx:=X.wish fun _ _=>False
theorem Cx.Ok.wish{X:Cx}(ok:X.Ok) (E:Value->Shared->Prop):(X.wish E).Ok :=
 ⟨ok.mod,ok.kind,ok.glob,ok.blt,ok.above,ok.inj,ok.has,ok.cab,ok.hd,ok.frames,ok.stk,ok.exf,ok.bs,ok.bsz,ok.noex,ok.exfs,ok.funs,ok.frf⟩
theorem Cx.Ok.unwish{X:Cx}{E:Value->Shared->Prop}(ok:(X.wish E).Ok):X.Ok :=
 ⟨ok.mod,ok.kind,ok.glob,ok.blt,ok.above,ok.inj,ok.has,ok.cab,ok.hd,ok.frames,ok.stk,ok.exf,ok.bs,ok.bsz,ok.noex,ok.exfs,ok.funs,ok.frf⟩
section
variable {X:Cx}{pins:List (Addr×Obj)}{σ:St}{H:Hp}{s:Shared}{E:Value->Shared->Prop}
theorem Inv.wish(I:Inv X pins σ H s) (E:Value->Shared->Prop):Inv (X.wish E) pins σ H s:=⟨I.ok.wish E,I.os,I.bare,I.base,I.loc,I.cell,I.free,I.freeC,I.pin,I.hok,I.len⟩
theorem Inv.unwish(I:Inv (X.wish E) pins σ H s):Inv X pins σ H s:=⟨I.ok.unwish,I.os,I.bare,I.base,I.loc,I.cell,I.free,I.freeC,I.pin,I.hok,I.len⟩
theorem SP.unwish(h:SP (X.wish E) pins D f s'):SP X pins D f s':=by
 cases f with
 | next=>obtain⟨σ',H',I,q⟩:=h;exact⟨σ',H',I.unwish,q⟩
 | brk=>obtain⟨σ',H',I,q⟩:=h;exact⟨σ',H',I.unwish,q⟩
 | cont=>obtain⟨σ',H',I,q⟩:=h;exact⟨σ',H',I.unwish,q⟩
 | ret u=>obtain⟨v,σ',H',I,r,q⟩:=h;exact⟨v,σ',H',I.unwish,r,q⟩
theorem PSs.nox{st:List Stmt}{t:TS}(h:PSs X.nox st t):PSs X st t:=fun pins s σ H D I hw =>
 wpAny_mono (h pins s σ H D (I.wish _) hw) (fun _ _ q=>q.unwish) fun _ _ z=>False.elim z
end
section
variable {X:Cx}{st:Stmt}{N5:List Stmt}{t u:TS}{e:Expr}{te:TE}{pos:Pos}
noncomputable def bF4:TS:=fun D σ H=>D.nx σ H
noncomputable def co0(t u:TS):TS:=fun D σ H=>t { D with nx:=u D } σ H
theorem aO6:PSs X [] bF4:=fun _ _ σ H _ I h=>wpAny_execs_nil ⟨σ,H,I,h⟩
theorem S3(h1:PS X st t) (h2:PSs X N5 u):PSs X (st::N5) (co0 t u):=by
 intro pins s σ H D I h
 refine wpAny_execs_cons (thn (h1 pins s σ H { D with nx:=u D } I h) fun f s1 q=>?_)
 cases f with
 | next =>
  obtain⟨σ',H',I',q⟩:=q
  exact h2 pins s1 σ' H' D I' q
 | ret v=>exact q
 | brk=>exact q
 | cont=>exact q
theorem aO5(h1:PS X st t):PSs X [st] t:=by
 intro pins s σ H D I h
 refine wpAny_execs_cons (thn (h1 pins s σ H D I h) fun f s1 q=>?_)
 cases f with
 | next=>exact wpAny_execs_nil q
 | ret v=>exact q
 | brk=>exact q
 | cont=>exact q
noncomputable def bM9:TS:=fun D σ H=>D.bk σ H
noncomputable def ce8:TS:=fun D σ H=>D.ct σ H
theorem bv2:PS X (.Pass pos) bF4:=fun _ _ σ H _ I h=>wpAny_Pass ⟨σ,H,I,h⟩
theorem bf5:PS X (.Break pos) bM9:=fun _ _ σ H _ I h=>wpAny_Break ⟨σ,H,I,h⟩
theorem aB1:PS X (.Continue pos) ce8:=fun _ _ σ H _ I h=>wpAny_Continue ⟨σ,H,I,h⟩
theorem Inv.quiet(I:Inv X pins σ H s):interactive X.env=false:=by simp[interactive,I.ok.kind]
noncomputable def ce7(te:TE):TS:=fun D σ H=>te σ H fun _ H1=>D.nx σ H1
theorem aa7(he:PE X e te) (hs:swapsWith e none pos.line X.env=pure false:=by rfl):PS X (.Expr e pos) (ce7 te):=by
 intro pins s σ H D I h
 exact wpAny_Expr_any (thn (he pins s σ H _ I h) fun v s1 ⟨x,H1,I1,r1,q1⟩=>⟨σ,H1,I1,q1⟩) I.quiet hs
noncomputable def co1(te:TE):TS:=fun D σ H=>te σ H D.rt
theorem bf3(he:PE X e te):PS X (.Return (some e) pos) (co1 te):=by
 intro pins s σ H D I h
 exact wpAny_Return_some (thn (he pins s σ H _ I h) fun v s1 ⟨x,H1,I1,r1,q1⟩=>⟨x,σ,H1,I1,r1,q1⟩)
noncomputable def co5(c:TT) (t u:TS):TS:=fun D σ H=>c σ H fun b H1=>if b=true then t D σ H1 else u D σ H1
theorem aO8(hc:PT X c tc) (ha:PSs X a t) (hb:PSs X b u):PS X (.If c a b pos) (co5 tc t u):=by
 intro pins s σ H D I h
 refine wpAny_If (thn (hc pins s σ H _ I h) fun d s1 ⟨H1,I1,q1⟩=>?_)
 cases d with
 | true=>exact ha pins s1 σ H1 D I1 q1
 | false=>exact hb pins s1 σ H1 D I1 q1
noncomputable def bM8:TS:=fun _ _ _=>False
theorem K7:PSs X sts bM8:=fun _ _ _ _ _ _ h=>h.elim
end
noncomputable abbrev TG:=V->St->Hp->(St->Hp->Prop)->Prop
noncomputable abbrev TGs:=List V->St->Hp->(St->Hp->Prop)->Prop
noncomputable def PG(X:Cx) (target:Expr) (t:TG):Prop :=
 ∀(pins:List (Addr×Obj)) (s:Shared) (σ:St) (H:Hp) (v:V) (u:Value) (Q:St->Hp->Prop),Inv X pins σ H s->E4 v u->t v σ H Q ->
  wpAny (model X.prog X.w) X.A (assign target X.env u) (fun _ s'=>∃σ' H',Inv X pins σ' H' s'/\Q σ' H') X.xe s
noncomputable def PGs(X:Cx) (ts:List Expr) (t:TGs):Prop :=
 ∀(pins:List (Addr×Obj)) (s:Shared) (σ:St) (H:Hp) (vs:List V) (us:List Value) (Q:St->Hp->Prop),Inv X pins σ H s->C8 vs us->t vs σ H Q ->
  wpAny (model X.prog X.w) X.A (assignInOrder ((assignEach ts X.env).map (·.2)) us) (fun _ s'=>∃σ' H',Inv X pins σ' H' s'/\Q σ' H') X.xe s
section
variable {X:Cx}{pos:Pos}
noncomputable def bH7(i:Nat):TG:=fun v σ H Q=>Q (σ.set i (some v)) H
theorem bv7(hN:X.N.Nodup) (hi:X.N[i]? = some x) (hx:Loc X.env.scope x) (hf:X.fn x=true\/X.env.scope.names.lookup x=some .local:=by first|exact .inl rfl|exact .inr rfl|assumption):PG X (.Name x pos) (bH7 i):=by
 intro pins s σ H v u Q I r h
 exact wpAny_assign_Name (aa0 I hN hi hx r (fun s' I'=>⟨_,H,I',h⟩) hf)
noncomputable def cq7:TGs:=fun vs σ H Q=>vs=[]/\Q σ H
noncomputable def cl1(t:TG) (u:TGs):TGs:=fun vs σ H Q=>∃v r,vs=v::r/\t v σ H fun σ' H'=>u r σ' H' Q
theorem bv6:PGs X [] cq7:=by
 intro pins s σ H vs us Q I r h
 obtain⟨e,h⟩:=h
 subst e
 cases r
 exact assignInOrder_nil ⟨σ,H,I,h⟩
theorem bg1(h1:PG X e t) (h2:PGs X es u)
  (hs:(assignEach (e::es) X.env).map (·.2)=assign e X.env::(assignEach es X.env).map (·.2):=by rfl):PGs X (e::es) (cl1 t u):=by
 intro pins s σ H vs us Q I r h
 obtain⟨v,vr,e1,h⟩:=h
 subst e1
 cases r with
 | cons r rr =>
  rw[hs]
  refine assignInOrder_cons (thn (h1 pins s σ H _ _ _ I r h) fun _ s1 ⟨σ1,H1,I1,q1⟩=>?_)
  exact h2 pins s1 σ1 H1 _ _ Q I1 rr q1
noncomputable def cq6(K:PySem.W.Frag) (n:Nat) (t:TGs):TG:=fun v σ H Q=>∃a xs,v=.ref a/\SqT K H a xs/\xs.length=n/\t xs σ H Q
theorem bO7(hc:X.calm=true) (h:PGs X es t)
  (hn:(assignEach es X.env).length=n:=by rfl) (hst:(assignEach es X.env).findIdx? (·.1)=none:=by rfl):PG X (.Tuple es k pos) (cq6 X.K n t):=by
 intro pins s σ H v u Q I r hw
 obtain⟨a,xs,e1,hq,hl,hw⟩:=hw
 subst e1
 cases r
 obtain⟨its,rv,ht,hz⟩:=I.tuple hq
 refine assign_Tuple_tuple (I.ok.hd hc) ht (by simp[hn,← hl,rv.length]) hst fun h' hx=>?_
 have I1:Inv X pins σ H { s with heap:=h' }:=I.kept (t':=s.toks) fun b o e=>hx b o (Nat.ne_of_lt (Heap.lt_size e)) e
 exact h pins _ σ H xs _ Q I1 (by simpa using rv) hw
noncomputable def cf0(te:TE) (g:TG):TS:=fun D σ H=>te σ H fun x H1=>g x σ H1 D.nx
theorem bO5(he:PE X e te) (hg:PG X tg g) (hs:swapsWithSole [tg] e pos.line X.env=pure false:=by rfl) (hw:swappedStores [tg] e X.env=pure none:=by rfl)
  (h1:(assignEach [tg] X.env).map (·.2)=[assign tg X.env]:=by rfl):PS X (.Assign [tg] e pos) (cf0 te g):=by
 intro pins s σ H D I h
 refine wpAny_Assign_stores (thn (he pins s σ H _ I h) fun v s1 ⟨x,H1,I1,r1,q1⟩=>?_) hs hw
 rw[h1]
 exact thn (hg pins s1 σ H1 x v _ I1 r1 q1) fun _ s2 q=>q
theorem ak8(hN:X.N.Nodup) (hi:X.N[i]? = some x) (hx:Loc X.env.scope x) (he:PE X e te) (hs:swapsWith e (some (.Name x pos')) pos.line X.env=pure false:=by rfl) (hf:X.fn x=true\/X.env.scope.names.lookup x=some .local:=by first|exact .inl rfl|exact .inr rfl|assumption) :
  PS X (.Assign [.Name x pos'] e pos) (cf0 te (bH7 i)):=by
 intro pins s σ H D I h
 refine wpAny_Assign_Name (thn (he pins s σ H _ I h) fun v s1 ⟨y,H1,I1,r1,q1⟩=>?_) hs
 exact aa0 I1 hN hi hx r1 (fun s2 I2=>⟨_,H1,I2,q1⟩) hf
noncomputable def co2(i j:Nat) (ta:TA):TS:=fun D σ H=>ta σ H fun vs H1=>∃v w,vs=[v,w]/\D.nx ((σ.set i (some v)).set j (some w)) H1
theorem bO3{kt k2 pt2} (hc:X.calm=true) (hN:X.N.Nodup) (hi:X.N[i]? = some x) (hj:X.N[j]? = some y) (hij:i≠j)
  (hx:X.env.scope.names.lookup x=some .local) (hy:X.env.scope.names.lookup y=some .local) (ha:PA X [a,b] ta)
  (hw:swappedStores [.Tuple [.Name x px,.Name y py] kt pt] (.Tuple [a,b] k2 pt2) X.env=pure (some [x,y]))
  (hs:swapsWithSole [.Tuple [.Name x px,.Name y py] kt pt] (.Tuple [a,b] k2 pt2) pos.line X.env=pure false:=by rfl) :
  PS X (.Assign [.Tuple [.Name x px,.Name y py] kt pt] (.Tuple [a,b] k2 pt2) pos) (co2 i j ta):=by
 intro pins s σ H D I h
 rw[exec_Assign_arm]
 refine wpAny_bind (wpAny_standAt ?_)
 rw[hs]
 refine wpAny_bind (wpAny_pure ?_)
 rw[if_neg (by decide)]
 refine wpAny_bind (Tuple_ (thn (ha _ pins s σ H _ I h) fun us s1 ⟨vs,H1,I1,r1,q1⟩=>?_))
 obtain⟨v,w,e1,q1⟩:=q1
 subst e1
 obtain⟨u1,u2,rfl,rv,rw'⟩:∃u1 u2,us=[u1,u2]/\E4 v u1/\E4 w u2:=by
  cases r1 with
  | cons p q =>
   cases q with
   | cons p' q' =>
    cases q'
    exact⟨_,_,rfl,p,p'⟩
 refine wpAny_newObj_type ?_ (by show 2<=sizeLine;decide)
 have I2:Inv X pins σ H1 { s1 with heap:=s1.heap.push { cls:=.type "tuple", data:=.seq [u1,u2].toArray } }:=I1.kept (t':=s1.toks) fun b o e=>Heap.get?_push_of_some _ e
 rw[hw]
 refine wpAny_bind (wpAny_pure ?_)
 show wpAny (model X.prog X.w) X.A (do rule "assign.swapped-stores";let items ← unpackItems (.ref s1.heap.objs.size) 2 none;assignInOrder [fun v=>bindName X.env y v,fun v=>bindName X.env x v] items.reverse;pure Flow.next) _ _ _
 refine wpAny_bind (wpAny_rule (wpAny_bind (unpackItems_tuple (items:=#[u1,u2]) (I.ok.hd hc) (IsTup.new s1.heap _) fun h' hx'=>?_)))
 have I3:=I2.kept (h':=h') (t':=s1.toks) fun b o e=>hx' b o (Nat.ne_of_lt (Heap.lt_size e)) e
 show wpAny _ _ (assignInOrder [fun v=>bindName X.env y v,fun v=>bindName X.env x v] [u2,u1] >>= fun _=>pure Flow.next) _ _ _
 refine wpAny_bind (assignInOrder_cons (wpAny_bindName (aa0 I3 hN hj (.inl hy) rw' (fun s2 I4=>?_) (.inr hy))))
 refine assignInOrder_cons (wpAny_bindName (aa0 I4 hN hi (.inl hx) rv (fun s3 I5=>assignInOrder_nil (wpAny_pure ?_)) (.inr hx)))
 rw[List.set_comm _ _ (Ne.symm hij)]at I5
 exact⟨_,H1,I5,q1⟩
end
section
variable {X:Cx}{pos:Pos}
noncomputable def bM6(c:TT) (tb:TS):TS:=fun D σ H=>∃W:Nat->St->Hp->Prop,(∃m,W m σ H)/\∀m σ H,W m σ H ->
 c σ H fun b H1=>if b=true then ∃N:St->Hp->Prop,(∀σ' H',N σ' H'->∃m',m' < m/\W m' σ' H')/\tb { D with nx:=N,ct:=N,bk:=D.nx } σ H1 else D.nx σ H1
theorem aB0(hp:PassesOwn (model X.prog X.w) X.A X.env X.xe) (hc:PT X c tc) (hb:PSs X body tb):PS X (.While c body [] pos) (bM6 tc tb):=by
 intro pins s σ H D I h
 obtain⟨W,⟨m0,w0⟩,turn⟩:=h
 refine wpAny_While (codeAny_whileLoop (fun n s'=>∃σ' H',Inv X pins σ' H' s'/\W n σ' H') ?_ m0 ⟨σ,H,I,w0⟩)
 rintro n s1 ⟨σ1,H1,I1,w1⟩
 refine wpAny_passesOwn hp (thn (hc pins s1 σ1 H1 _ I1 (turn n σ1 H1 w1)) fun b s2 ⟨H2,I2,q2⟩=>?_)
 cases b with
 | true =>
  obtain⟨N,hN,q2⟩:=q2
  rw[if_pos rfl]
  refine wpAny_passesOwn hp (thn (hb pins s2 σ1 H2 _ I2 q2) fun f s3 q3=>?_)
  cases f with
  | next =>
   obtain⟨σ3,H3,I3,n3⟩:=q3
   obtain⟨m',hm,w3⟩:=hN σ3 H3 n3
   exact⟨m',hm,σ3,H3,I3,w3⟩
  | cont =>
   obtain⟨σ3,H3,I3,n3⟩:=q3
   obtain⟨m',hm,w3⟩:=hN σ3 H3 n3
   exact⟨m',hm,σ3,H3,I3,w3⟩
  | brk=>exact q3
  | ret v=>exact q3
 | false =>
  rw[if_neg Bool.false_ne_true]
  exact wpAny_execs_nil ⟨σ1,H2,I2,q2⟩
end
structure It where
 go:Nat->Hp->Prop
 yld:Nat->Hp->V->Hp->Prop
 stop:Nat->Hp->Prop
noncomputable def an7(X:Cx) (pins:List (Addr×Obj)) (H:Hp) (b:Addr):Prop :=
 H b=none/\b≠X.env.locals/\b∉X.fs/\(b∈X.ex\/X.s₀.heap.objs.size<=b)/\(∀x c,X.env.cells.lookup x=some c->c≠b)/\∀p∈X.pn++pins,p.1≠b
theorem Inv.fpOk(I:Inv X pins σ H s) (hb:s.heap.objs.size<=b) (hn:H' b=none):an7 X pins H' b:=by
 refine⟨hn,Nat.ne_of_gt (Nat.lt_of_lt_of_le I.lt hb),I.nofs hb,.inr (Nat.le_trans I.sz hb),fun x c e z=>?_,fun p hp z=>?_⟩
 ·obtain⟨v,q⟩:=I.cell x c e
  exact absurd (Nat.lt_of_lt_of_le q.lt (by rw[z];exact hb)) (Nat.lt_irrefl _)
 ·exact absurd (Nat.lt_of_lt_of_le (Heap.lt_size (I.pin p hp).1) (by rw[z];exact hb)) (Nat.lt_irrefl _)
structure Turn (P:Program) (w:World) (K:PySem.W.Frag) (tg:Expr) (J:It) (fp:List Addr) (it:Addr) (tn:Nat->Heap->Prop):Prop where
 mem:it∈fp
 obj:∀i h,tn i h->∀b∈fp,∃o,h.get? b=some o/\∀v,o.data≠.cell v
 keep:∀i h h',tn i h->(∀b∈fp,∀o,h.get? b=some o->h'.get? b=some o)->tn i h'
 item:∀(X:Cx),X.prog=P->X.w=w->X.K=K->X.calm=true->∀(i:Nat) (pins:List (Addr×Obj)) (s:Shared) (σ:St) (H:Hp) (E:Value->Shared->Prop),Inv X pins σ H s->(∀b∈fp,an7 X pins H b)->tn i s.heap->J.go i H ->
  wpAny (model P w) X.A (pyNext (.ref it)) (fun r s1=>∃u,r=some u /\
   wpAny (model P w) X.A (letOwnedTupleGo tg (.ref it) u) (fun _ s2=>∃x H',Inv X pins σ H' s2/\E4 x u/\J.yld i H x H'/\tn (i+1) s2.heap/\∀b∈fp,H' b=none) E s1) E s
 done:∀(X:Cx),X.prog=P->X.w=w->X.K=K->X.calm=true->∀(i:Nat) (pins:List (Addr×Obj)) (s:Shared) (σ:St) (H:Hp) (E:Value->Shared->Prop),Inv X pins σ H s->(∀b∈fp,an7 X pins H b)->tn i s.heap->J.stop i H ->
  wpAny (model P w) X.A (pyNext (.ref it)) (fun r s1=>r=none/\Inv X pins σ H s1) E s
 self:∀(A:Around) (i:Nat) (s:Shared) (Q:Value->Shared->Prop) (E:Value->Shared->Prop),tn i s.heap->Q (.ref it) s->wpAny (model P w) A (pyIter (.ref it)) Q E s
noncomputable abbrev TI:=St->Hp->(It->Hp->Prop)->Prop
noncomputable def PIE(X:Cx) (pins:List (Addr×Obj)) (σ:St) (tg:Expr) (R:It->Hp->Prop) (itv:Value) (s2:Shared):Prop :=
 ∃(it:Addr) (fp:List Addr) (tn:Nat->Heap->Prop) (J:It) (H':Hp),itv=.ref it/\Inv X pins σ H' s2/\Turn X.prog X.w X.K tg J fp it tn/\tn 0 s2.heap/\(∀b∈fp,an7 X pins H' b)/\R J H'
noncomputable def PI(X:Cx) (tg iter:Expr) (wi:TI):Prop :=
 ∀(pins:List (Addr×Obj)) (s:Shared) (σ:St) (H:Hp) (R:It->Hp->Prop),Inv X pins σ H s->wi σ H R ->
  wpAny (model X.prog X.w) X.A (eval iter X.env) (fun v s1=>wpAny (model X.prog X.w) X.A (pyIter v) (PIE X pins σ tg R) X.xe s1) X.xe s
theorem aR3(ho:s.heap.get? it=some o) (hc:o.cls=.type n) (hd:o.data=.fields vs)
    (hn:["enumerate", "zip", "dict_itemiterator", "dict_reverseitemiterator", "odict_iterator", "itertools.zip_longest", "itertools.pairwise"].contains n=false) (hQ:Q () s):wpAny M A (letOwnedTupleGo tg (.ref it) u) Q E s:=by
  unfold letOwnedTupleGo
  cases tg<;>first
    | exact wpAny_pure hQ
    | (cases u<;>first
        | exact wpAny_pure hQ
        | (refine wpAny_bind (wpAny_load ho ?_)
           rw[hc,hd]
           show wpAny M A (if(["enumerate", "zip", "dict_itemiterator", "dict_reverseitemiterator", "odict_iterator", "itertools.zip_longest", "itertools.pairwise"].contains n&&vs[0]? == some (rawInt _))=true then _ else _) Q E s
           rw[if_neg (by intro h;rw[hn,Bool.false_and]at h;cases h)]
           exact wpAny_pure hQ))
noncomputable def Itl(K:PySem.W.Frag) (a:Addr):It :=
 ⟨fun i H=>∃xs x,SqL K H a xs/\xs[i]? = some x,fun i H x H'=>H'=H/\∀xs,SqL K H a xs->xs[i]? = some x,fun i H=>∃xs,SqL K H a xs/\xs.length<=i⟩
noncomputable def Itt(K:PySem.W.Frag) (a:Addr):It :=
 ⟨fun i H=>∃xs x,SqT K H a xs/\xs[i]? = some x,fun i H x H'=>H'=H/\∀xs,SqT K H a xs->xs[i]? = some x,fun i H=>∃xs,SqT K H a xs/\xs.length<=i⟩
noncomputable def Itr(lo:Int) (n:Nat):It:=⟨fun i _=>i < n,fun i H x H'=>H'=H/\x=.int (lo+i),fun i _=>n<=i⟩
theorem aU0{P:Program}{w:World}{K:PySem.W.Frag}{tg:Expr}(a it:Addr):Turn P w K tg (Itl K a) [it] it (fun i h=>h.IsListIter it a i) where
 mem:=by simp
 obj:=fun i h st b hb=>by
  have e:b=it:=by simpa using hb
  subst e
  obtain⟨o,e,c,d⟩:=st
  exact⟨o,e,fun v z=>by rw[d]at z;cases z⟩
 keep:=fun i h h' st k=>st.at fun o e=>k it (by simp) o e
 item:=by
  intro X hP hw hK hc i pins s σ H E I hf st hg
  subst hP hw hK
  obtain⟨xs,x,hq,hx⟩:=hg
  obtain⟨its,rv,p,hz⟩:=I.list hq
  obtain⟨u,hu,ru⟩:=rv.get hx
  obtain⟨f0,f1,f2,f3,f4,f5⟩:=hf it (by simp)
  refine wpAny_pyNext_list_item st p.isList (x:=u) (by simpa using hu) fun h' st' sb=>?_
  have I1:Inv X pins σ H { s with heap:=h' }:=I.turned (t':=s.toks) (fun b o hb e=>(sb.2 b hb).trans e) f0 f1 f3 f4 f5
  obtain⟨o,e,c,d⟩:=id st'
  exact⟨u,rfl,aR3 (s:={ s with heap:=h' }) e c d (by decide) ⟨x,H,I1,ru,⟨rfl,fun ys hy=>by rw[I.list_inj hy hq];exact hx⟩,st',fun b hb=>(hf b hb).1⟩⟩
 done:=by
  intro X hP hw hK hc i pins s σ H E I hf st hg
  subst hP hw hK
  obtain⟨xs,hq,hx⟩:=hg
  obtain⟨its,rv,p,hz⟩:=I.list hq
  obtain⟨f0,f1,f2,f3,f4,f5⟩:=hf it (by simp)
  have hl:=rv.length
  exact wpAny_pyNext_list_end (I.ok.hd hc) st p.isList (by simp;omega) fun h' eb=>⟨rfl,I.turned (t':=s.toks) (fun b o hb e=>eb b o hb e) f0 f1 f3 f4 f5⟩
 self:=fun _ _ _ _ _ st h=>wpAny_pyIter_listiter st h
theorem aG6{P:Program}{w:World}{K:PySem.W.Frag}{tg:Expr}(a it:Addr):Turn P w K tg (Itt K a) [it] it (fun i h=>h.IsTupleIter it a i) where
 mem:=by simp
 obj:=fun i h st b hb=>by
  have e:b=it:=by simpa using hb
  subst e
  obtain⟨o,e,c,d⟩:=st
  exact⟨o,e,fun v z=>by rw[d]at z;cases z⟩
 keep:=fun i h h' st k=>st.at fun o e=>k it (by simp) o e
 item:=by
  intro X hP hw hK hc i pins s σ H E I hf st hg
  subst hP hw hK
  obtain⟨xs,x,hq,hx⟩:=hg
  obtain⟨its,rv,p,hz⟩:=I.tuple hq
  obtain⟨u,hu,ru⟩:=rv.get hx
  obtain⟨f0,f1,f2,f3,f4,f5⟩:=hf it (by simp)
  refine wpAny_pyNext_tuple_item st (show s.heap.IsTuple a its.toArray from p) (x:=u) (by simpa using hu) fun h' st' sb=>?_
  have I1:Inv X pins σ H { s with heap:=h' }:=I.turned (t':=s.toks) (fun b o hb e=>(sb.2 b hb).trans e) f0 f1 f3 f4 f5
  obtain⟨o,e,c,d⟩:=id st'
  exact⟨u,rfl,aR3 (s:={ s with heap:=h' }) e c d (by decide) ⟨x,H,I1,ru,⟨rfl,fun ys hy=>by rw[I.tuple_inj hy hq];exact hx⟩,st',fun b hb=>(hf b hb).1⟩⟩
 done:=by
  intro X hP hw hK hc i pins s σ H E I hf st hg
  subst hP hw hK
  obtain⟨xs,hq,hx⟩:=hg
  obtain⟨its,rv,p,hz⟩:=I.tuple hq
  obtain⟨f0,f1,f2,f3,f4,f5⟩:=hf it (by simp)
  have hl:=rv.length
  exact wpAny_pyNext_tuple_end (I.ok.hd hc) st (show s.heap.IsTuple a its.toArray from p) (by simp;omega) fun h' eb=>⟨rfl,I.turned (t':=s.toks) (fun b o hb e=>eb b o hb e) f0 f1 f3 f4 f5⟩
 self:=fun _ _ _ _ _ st h=>wpAny_pyIter_tupleiter st h
theorem aG7{P:Program}{w:World}{K:PySem.W.Frag}{tg:Expr}(it:Addr) (lo:Int) (n:Nat):Turn P w K tg (Itr lo n) [it] it (fun i h=>IsRangeIter h it (lo+(i:Nat)*1) ((n:Int) - (i:Nat)) 1) where
 mem:=by simp
 obj:=fun i h st b hb=>by
  have e:b=it:=by simpa using hb
  subst e
  exact⟨_,st,fun v z=>by
   have z':Data.fields _=Data.cell v:=z
   cases z'⟩
 keep:=fun i h h' st k=>k it (by simp) _ st
 item:=by
  intro X hP hw hK hc i pins s σ H E I hf st hg
  subst hP hw hK
  obtain⟨f0,f1,f2,f3,f4,f5⟩:=hf it (by simp)
  have W:=Walks.range (prog:=X.prog) (w:=X.w) (I.ok.hd hc) it lo 1 n
  refine W.item i s _ _ hg st fun v h' tk hv st' kk=>?_
  obtain⟨t,rfl⟩:=hv
  have I1:Inv X pins σ H { s with heap:=h',toks:=tk }:=I.turned (fun b o hb e=>kk b o (by simpa using hb) e) f0 f1 f3 f4 f5
  refine⟨_,rfl,aR3 (s:={ s with heap:=h',toks:=tk }) (n := "range_iterator") st' rfl rfl (by decide) ⟨.int (lo+i),H,I1,⟨t,?_⟩,⟨rfl,rfl⟩,st',fun b hb=>(hf b hb).1⟩⟩
  rw[Int.mul_one]
 done:=by
  intro X hP hw hK hc i pins s σ H E I hf st hg
  subst hP hw hK
  obtain⟨f0,f1,f2,f3,f4,f5⟩:=hf it (by simp)
  exact wpAny_pyNext_range_end (I.ok.hd hc) st (by have:n<=i:=hg;omega) fun h' eb=>⟨rfl,I.turned (t':=s.toks) (fun b o hb e=>eb b o hb e) f0 f1 f3 f4 f5⟩
 self:=fun _ _ _ _ _ st h=>wpAny_pyIter_rangeiter st h
end L2
namespace L2
open PySem PySem.Spec PyProof.Rows
section
variable {X:Cx}{tg:Expr}
noncomputable def ck8(K:PySem.W.Frag) (tl:TE):TI:=fun σ H R=>tl σ H fun x H1=>∃a,x=.ref a/\(∃xs,SqL K H1 a xs)/\R (Itl K a) H1
noncomputable def cq4(K:PySem.W.Frag) (tl:TE):TI:=fun σ H R=>tl σ H fun x H1=>∃a,x=.ref a/\(∃xs,SqT K H1 a xs)/\R (Itt K a) H1
theorem bv5{l:Expr}{tl:TE}(hl:PE X l tl):PI X tg l (ck8 X.K tl):=by
 intro pins s σ H R I h
 refine thn (hl pins s σ H _ I h) fun v s1 ⟨x,H1,I1,r1,q1⟩=>?_
 obtain⟨a,e,⟨xs,hq⟩,q⟩:=q1
 subst e
 cases r1
 obtain⟨its,rv,p,hz⟩:=I1.list hq
 refine wpAny_pyIter_list p.isList ?_
 refine⟨s1.heap.objs.size,[s1.heap.objs.size],_,_,H1,rfl,I1.kept (t':=s1.toks) fun b o e=>Heap.get?_push_of_some _ e,aU0 a _,⟨_,Heap.get?_push_size _ rfl,rfl,rfl⟩,fun b hb=>?_,q⟩
 have e:b=s1.heap.objs.size:=by simpa using hb
 subst e
 exact I1.fpOk (Nat.le_refl _) (I1.hok.fresh (Nat.le_refl _))
theorem bO6{l:Expr}{tl:TE}(hl:PE X l tl):PI X tg l (cq4 X.K tl):=by
 intro pins s σ H R I h
 refine thn (hl pins s σ H _ I h) fun v s1 ⟨x,H1,I1,r1,q1⟩=>?_
 obtain⟨a,e,⟨xs,hq⟩,q⟩:=q1
 subst e
 cases r1
 obtain⟨its,rv,p,hz⟩:=I1.tuple hq
 refine wpAny_pyIter_tuple (show s1.heap.IsTuple a its.toArray from p) ?_
 refine⟨s1.heap.objs.size,[s1.heap.objs.size],_,_,H1,rfl,I1.kept (t':=s1.toks) fun b o e=>Heap.get?_push_of_some _ e,aG6 a _,⟨_,Heap.get?_push_size _ rfl,rfl,rfl⟩,fun b hb=>?_,q⟩
 have e:b=s1.heap.objs.size:=by simpa using hb
 subst e
 exact I1.fpOk (Nat.le_refl _) (I1.hok.fresh (Nat.le_refl _))
theorem be9{pins:List (Addr×Obj)}{σ:St}{H:Hp}{s:Shared}{R:It->Hp->Prop}{E:Value->Shared->Prop}{lo hi:Int}{t u v:Tok}{tk:Nat}(I:Inv X pins σ H s) (h1:-(2 ^ 62)<=lo) (h2:lo < 2 ^ 62) (h3:-(2 ^ 62)<=hi) (h4:hi < 2 ^ 62)
  (q:R (Itr lo (hi - lo).toNat) H):wpAny (model X.prog X.w) X.A (pyIter (.ref s.heap.objs.size)) (PIE X pins σ tg R) E { s with heap:=s.heap.push { cls:=.type "range", data:=.fields #[.int lo t,.int hi u,.int 1 v] },toks:=tk }:=by
 refine wpAny_pyIter_range (IsRange.new ..) (small_one h1 h2 h3 h4) ?_
 have I1:Inv X pins σ H { s with heap:=s.heap.push { cls:=.type "range", data:=.fields #[.int lo t,.int hi u,.int 1 v] },toks:=tk }:=I.kept fun b o e=>Heap.get?_push_of_some _ e
 refine⟨(s.heap.push { cls:=.type "range", data:=.fields #[.int lo t,.int hi u,.int 1 v] }).objs.size,[(s.heap.push { cls:=.type "range", data:=.fields #[.int lo t,.int hi u,.int 1 v] }).objs.size],_,_,H,rfl,
  I1.kept (t':=tk) fun b o e=>Heap.get?_push_of_some _ e,aG7 _ lo (hi - lo).toNat,?_,fun b hb=>?_,q⟩
 ·have e1:lo+((0:Nat):Int)*1=lo:=by simp
  have e2:(((hi - lo).toNat:Nat):Int) - ((0:Nat):Int)=Builtin.Range.rangeSize lo hi 1:=by rw[rangeSize_one];split<;>omega
  show IsRangeIter _ _ (lo+((0:Nat):Int)*1) ((((hi - lo).toNat:Nat):Int) - ((0:Nat):Int)) 1
  rw[e1,e2]
  exact Heap.get?_push_size _ rfl
 ·have e:b=(s.heap.push { cls:=.type "range", data:=.fields #[.int lo t,.int hi u,.int 1 v] }).objs.size:=by simpa using hb
  subst e
  exact I1.fpOk (Nat.le_refl _) (I1.hok.fresh (Nat.le_refl _))
noncomputable def ck7(ta:TA):TI:=fun σ H R=>ta σ H fun vs H1=>∃j:Int,vs=[.int j]/\-(2 ^ 62)<=j/\j < 2 ^ 62/\R (Itr 0 j.toNat) H1
theorem aU5{a:Expr}{ta:TA}{p pos:Pos}(hg:Gl X "range") (hm:X.mg "range" = none) (ha:PA X [a] ta) (hs:starEach [a] X.env=[(false,eval a X.env)]:=by rfl):PI X tg (.Call (.Name "range" p) [a] [] pos) (ck7 ta):=by
 intro pins s σ H R I h
 refine Call_ (al5 I hg hm boot_range (PyProof.Rows.callWith_type1 (thn (ha pos pins s σ H _ I h) fun us s1 ⟨vs,H1,I1,r1,q1⟩=>?_) hs rfl))
 obtain⟨j,e,q1,q2,q⟩:=q1
 subst e
 cases r1 with
 | cons r rr =>
  cases rr
  obtain⟨t,rfl⟩:=r
  exact call_range_1 (be9 I1 (by omega) (by omega) q1 q2 (by simpa using q))
noncomputable def co6(wi:TI) (g:TG) (tb:TS):TS:=fun D σ H=>wi σ H fun J H1=>∃W:Nat->Nat->St->Hp->Prop,(∃m,W 0 m σ H1)/\∀i m σ H,W i m σ H ->
 (J.stop i H/\D.nx σ H)\/(J.go i H/\∃N:St->Hp->Prop,(∀σ' H',N σ' H'->∃m',m' < m/\W (i+1) m' σ' H')/\∀x H',J.yld i H x H'->g x σ H' fun σ2 H2=>tb { D with nx:=N,ct:=N,bk:=D.nx } σ2 H2)
noncomputable def ak9(fp:List Addr) (h:Heap):List (Addr×Obj):=fp.filterMap fun b=>(h.get? b).map fun o=>(b,o)
theorem X4(hb:b∈fp) (e:h.get? b=some o):(b,o)∈ak9 fp h:=List.mem_filterMap.mpr ⟨b,hb,by rw[e];rfl⟩
theorem aV0(hp:p∈ak9 fp h):p.1∈fp/\h.get? p.1=some p.2:=by
 obtain⟨b,hb,e⟩:=List.mem_filterMap.mp hp
 cases q:h.get? b with
 | none=>rw[q]at e;cases e
 | some o =>
  rw[q]at e
  have e':(b,o)=p:=Option.some.inj e
  subst e'
  exact⟨hb,q⟩
theorem Inv.pinned(I:Inv X pins σ H s) (hf:∀b∈fp,an7 X pins H b) (ho:∀b∈fp,∃o,s.heap.get? b=some o/\∀v,o.data≠.cell v):Inv X (pins++ak9 fp s.heap) σ H s :=
 I.pins_of fun p hp=>(List.mem_append.mp hp).elim (fun z=>I.pin p (List.mem_append_right _ z)) fun z=>by
  obtain⟨hb,e⟩:=aV0 z
  obtain⟨f0,f1,f2,_⟩:=hf p.1 hb
  obtain⟨o,e',d⟩:=ho p.1 hb
  rw[e]at e';cases e'
  exact⟨e,f0,f1,f2,d⟩
theorem Inv.unpinned(I:Inv X (pins++pl) σ H s):Inv X pins σ H s:=I.pins_of fun p hp=>I.pin p (List.mem_append_right _ (List.mem_append_left _ hp))
theorem bf4(hp:PassesOwn (model X.prog X.w) X.A X.env X.xe) (hc:X.calm=true) (hi:PI X tg iter wi) (hg:PG X tg g) (hb:PSs X body tb)
  (hs:∀x,foldedSetIterable iter X.env x=pure x:=by intro _;rfl):PS X (.For tg iter body [] pos) (co6 wi g tb):=by
 intro pins s σ H D I h
 refine wpAny_For (thn (hi pins s σ H _ I h) fun v s1 h1=>thn h1 fun itv s2 h2=>?_) hs
 obtain⟨it,fp,tn,J,H2,e,I2,T,st2,f2,W,⟨m0,w0⟩,turn⟩:=h2
 subst e
 have stat:∀{H':Hp},(∀b∈fp,H' b=none)->∀b∈fp,an7 X pins H' b:=fun hn b hb=>⟨hn b hb,(f2 b hb).2⟩
 refine codeAny_forLoop_any (fun n s'=>∃i σ' H',Inv X pins σ' H' s'/\tn i s'.heap/\(∀b∈fp,H' b=none)/\W i n σ' H') ?_ m0 ⟨0,σ,H2,I2,st2,fun b hb=>(f2 b hb).1,w0⟩
 rintro n s3 ⟨i,σ3,H3,I3,st3,fr3,w3⟩
 rcases turn i n σ3 H3 w3 with⟨stop,qn⟩|⟨go,N,hN,step⟩
 ·refine wpAny_passesOwn hp (thn (T.done X rfl rfl rfl hc i pins s3 σ3 H3 X.xe I3 (stat fr3) st3 stop) fun r s4 ⟨hr,I4⟩=>?_)
  subst hr
  exact wpAny_execs_nil ⟨σ3,H3,I4,qn⟩
 ·refine wpAny_passesOwn hp (thn (T.item X rfl rfl rfl hc i pins s3 σ3 H3 X.xe I3 (stat fr3) st3 go) fun r s4 ⟨u,hr,h4⟩=>?_)
  subst hr
  refine wpAny_passesOwn hp (thn h4 fun _ s5 ⟨x,H5,I5,r5,y5,st5,fr5⟩=>?_)
  have I5':=I5.pinned (stat fr5) (T.obj _ _ st5)
  refine wpAny_passesOwn hp (thn (hg _ s5 σ3 H5 x u _ I5' r5 (step x H5 y5)) fun _ s6 ⟨σ6,H6,I6,q6⟩=>?_)
  refine wpAny_passesOwn hp (thn (hb _ s6 σ6 H6 _ I6 q6) fun f s7 q7=>?_)
  have again:∀{σ7:St}{H7:Hp},Inv X (pins++ak9 fp s5.heap) σ7 H7 s7->N σ7 H7->∃m,m < n/\∃i σ' H',Inv X pins σ' H' s7/\tn i s7.heap/\(∀b∈fp,H' b=none)/\W i m σ' H':=fun{σ7 H7} I7 n7=>by
   obtain⟨m',hm,w7⟩:=hN σ7 H7 n7
   refine⟨m',hm,i+1,σ7,H7,I7.unpinned,T.keep _ _ _ st5 fun b hb o e=>(I7.pin (b,o) (List.mem_append_right _ (List.mem_append_right _ (X4 hb e)))).1,fun b hb=>?_,w7⟩
   obtain⟨o,e,d⟩:=T.obj _ _ st5 b hb
   exact(I7.pin (b,o) (List.mem_append_right _ (List.mem_append_right _ (X4 hb e)))).2.1
  cases f with
  | next=>obtain⟨σ7,H7,I7,n7⟩:=q7;exact again I7 n7
  | cont=>obtain⟨σ7,H7,I7,n7⟩:=q7;exact again I7 n7
  | brk=>obtain⟨σ7,H7,I7,q7⟩:=q7;exact⟨σ7,H7,I7.unpinned,q7⟩
  | ret v=>obtain⟨x7,σ7,H7,I7,r7,q7⟩:=q7;exact⟨x7,σ7,H7,I7.unpinned,r7,q7⟩
end
end L2
namespace L2
open PySem PySem.Spec PyProof.Rows
noncomputable abbrev R2:=V->V->Hp->VK->Prop
noncomputable def OpR(X:Cx) (f:Value->Value->Sem Value) (r:R2):Prop :=
 ∀(pins:List (Addr×Obj)) (s:Shared) (σ:St) (H:Hp) (x y:V) (v u:Value) (Q:VK),Inv X pins σ H s->E4 x v->E4 y u->r x y H Q ->
  wpAny (model X.prog X.w) X.A (f v u) (EP X pins σ Q) X.xe s
noncomputable def UnR(X:Cx) (f:Value->Sem Value) (r:V->Hp->VK->Prop):Prop :=
 ∀(pins:List (Addr×Obj)) (s:Shared) (σ:St) (H:Hp) (x:V) (v:Value) (Q:VK),Inv X pins σ H s->E4 x v->r x H Q ->
  wpAny (model X.prog X.w) X.A (f v) (EP X pins σ Q) X.xe s
noncomputable def T3(X:Cx) (f:Value) (r:List V->Hp->VK->Prop):Prop :=
 ∀(pins:List (Addr×Obj)) (s:Shared) (σ:St) (H:Hp) (xs:List V) (us:List Value) (Q:VK),Inv X pins σ H s->C8 xs us->r xs H Q ->
  wpAny (model X.prog X.w) X.A (call f us) (EP X pins σ Q) X.xe s
noncomputable def cs0(X:Cx) (r:V->Hp->(Bool->Hp->Prop)->Prop):Prop :=
 ∀(pins:List (Addr×Obj)) (s:Shared) (σ:St) (H:Hp) (x:V) (v:Value) (Q:Bool->Hp->Prop),Inv X pins σ H s->E4 x v->r x H Q ->
  wpAny (model X.prog X.w) X.A (truthy v) (TP X pins σ Q) X.xe s
noncomputable def tOp(r:R2) (ta tb:TE):TE:=fun σ H Q=>ta σ H fun x H1=>tb σ H1 fun y H2=>r x y H2 Q
noncomputable def tUn(r:V->Hp->VK->Prop) (ta:TE):TE:=fun σ H Q=>ta σ H fun x H1=>r x H1 Q
noncomputable def rI(C:Int->Int->Prop) (g:Int->Int->V):R2:=fun x y H Q=>∃i j,x=.int i/\y=.int j/\C i j/\Q (g i j) H
noncomputable def rI0(g:Int->Int->V):R2:=fun x y H Q=>∃i j,x=.int i/\y=.int j/\Q (g i j) H
noncomputable def rU(g:Int->V):V->Hp->VK->Prop:=fun x H Q=>∃i,x=.int i/\Q (g i) H
section
variable {X:Cx}{a b c:Expr}{ta tb tc:TE}{pos:Pos}
theorem cb1(ha:PE X a ta) (hb:PE X b tb) {pins:List (Addr×Obj)}{s:Shared}{σ:St}{H:Hp}{R:V->V->Hp->Prop}(I:Inv X pins σ H s)
  (h:ta σ H fun x H1=>tb σ H1 fun y H2=>R x y H2) {Q:Value->Shared->Prop}{f:Value->Value->Sem Value}
  (hf:∀v u s2 x y H2,Inv X pins σ H2 s2->E4 x v->E4 y u->R x y H2->wpAny (model X.prog X.w) X.A (f v u) Q X.xe s2) :
  wpAny (model X.prog X.w) X.A (eval a X.env) (fun v s₁=>wpAny (model X.prog X.w) X.A (eval b X.env) (fun u s₂=>wpAny (model X.prog X.w) X.A (f v u) Q X.xe s₂) X.xe s₁) X.xe s:=by
 refine thn (ha pins s σ H _ I h) fun v s1 ⟨x,H1,I1,r1,q1⟩=>?_
 refine thn (hb pins s1 σ H1 _ I1 q1) fun u s2 ⟨y,H2,I2,r2,q2⟩=>?_
 exact hf v u s2 x y H2 I2 r1 r2 q2
theorem bg3(ho:OpR X (binaryOp op) r) (ha:PE X a ta) (hb:PE X b tb):PE X (.BinOp a op b pos) (tOp r ta tb):=by
 intro pins s σ H Q I h
 exact wpAny_BinOp (cb1 ha hb I h fun v u s2 x y H2 I2 rx ry q=>ho pins s2 σ H2 x y v u Q I2 rx ry q)
theorem cg7(ho:UnR X (unaryOp op) r) (ha:PE X a ta):PE X (.UnaryOp op a pos) (tUn r ta):=by
 intro pins s σ H Q I h
 exact UnaryOp_ (thn (ha pins s σ H _ I h) fun v s1 ⟨x,H1,I1,r1,q1⟩=>ho pins s1 σ H1 x v Q I1 r1 q1)
theorem opI{f:Value->Value->Sem Value}{C:Int->Int->Prop}{g:Int->Int->Int}
  (rule:∀(i j:Int) (t u:Tok) (s:Shared) (Q:Value->Shared->Prop) (E:Value->Shared->Prop),C i j->Q (.int (g i j) s.toks) { s with toks:=s.toks+1 }->wpAny (model X.prog X.w) X.A (f (.int i t) (.int j u)) Q E s) :
  OpR X f (rI C fun i j=>.int (g i j)):=by
 intro pins s σ H x y v u Q I rx ry h
 obtain⟨i,j,rfl,rfl,hc,q⟩:=h
 obtain⟨t,rfl⟩:=rx
 obtain⟨t',rfl⟩:=ry
 exact rule i j t t' s _ _ hc ⟨.int (g i j),H,I.tok _,⟨_,rfl⟩,q⟩
theorem ch5{f:Value->Value->Sem Value}{g:Int->Int->Int}
  (rule:∀(i j:Int) (t u:Tok) (s:Shared) (Q:Value->Shared->Prop) (E:Value->Shared->Prop),Q (.int (g i j) s.toks) { s with toks:=s.toks+1 }->wpAny (model X.prog X.w) X.A (f (.int i t) (.int j u)) Q E s) :
  OpR X f (rI0 fun i j=>.int (g i j)):=by
 intro pins s σ H x y v u Q I rx ry h
 obtain⟨i,j,rfl,rfl,q⟩:=h
 obtain⟨t,rfl⟩:=rx
 obtain⟨t',rfl⟩:=ry
 exact rule i j t t' s _ _ ⟨.int (g i j),H,I.tok _,⟨_,rfl⟩,q⟩
theorem bw9{f:Value->Value->Sem Value}{g:Int->Int->Bool}
  (rule:∀(i j:Int) (t u:Tok) (s:Shared) (Q:Value->Shared->Prop) (E:Value->Shared->Prop),Q (.bool (g i j)) s->wpAny (model X.prog X.w) X.A (f (.int i t) (.int j u)) Q E s) :
  OpR X f (rI0 fun i j=>.bl (g i j)):=by
 intro pins s σ H x y v u Q I rx ry h
 obtain⟨i,j,rfl,rfl,q⟩:=h
 obtain⟨t,rfl⟩:=rx
 obtain⟨t',rfl⟩:=ry
 exact rule i j t t' s _ _ ⟨.bl (g i j),H,I,rfl,q⟩
noncomputable def cs2(i j:Int):Prop:=0<=j/\j<=1000000/\i.natAbs < 2 ^ 64
theorem bh0:OpR X (binaryOp .Add) (rI0 fun i j=>.int (i+j)):=ch5 fun _ _ _ _ _ _ _ q=>add_int q
theorem bP6:OpR X (binaryOp .Sub) (rI0 fun i j=>.int (i - j)):=ch5 fun _ _ _ _ _ _ _ q=>sub_int q
theorem bP8:OpR X (binaryOp .Mod) (rI (fun _ j=>0 < j) fun i j=>.int (i % j)):=opI fun i j _ _ _ _ _ hc q=>by
 have h1:(0:Int) < j:=hc
 exact mod_int' (by omega) (by rw[Int.fmod_eq_emod_of_nonneg i (by omega)];exact q)
theorem bP7:OpR X (binaryOp .Pow) (rI cs2 fun i j=>.int (i ^ j.toNat)):=opI fun _ _ _ _ _ _ _ hc q=>pow_int_small hc.1 hc.2.1 hc.2.2 q
theorem unI{f:Value->Sem Value}{g:Int->Int}
  (rule:∀(i:Int) (t:Tok) (s:Shared) (Q:Value->Shared->Prop) (E:Value->Shared->Prop),Q (.int (g i) s.toks) { s with toks:=s.toks+1 }->wpAny (model X.prog X.w) X.A (f (.int i t)) Q E s) :
  UnR X f (rU fun i=>.int (g i)):=by
 intro pins s σ H x v Q I rx h
 obtain⟨i,rfl,q⟩:=h
 obtain⟨t,rfl⟩:=rx
 exact rule i t s _ _ ⟨.int (g i),H,I.tok _,⟨_,rfl⟩,q⟩
theorem bL4:UnR X (unaryOp .USub) (rU fun i=>.int (-i)):=unI fun _ _ _ _ _ q=>neg_int q
end
section
variable {X:Cx}{a b c:Expr}{ta tb tc:TE}{pos:Pos}
theorem ax4(I:Inv X pins σ H s) (q:Q (.bl k) H) (e:k=k'):EP X pins σ Q (.bool k') s:=by
 subst e
 exact⟨.bl k,H,I,rfl,q⟩
theorem ch1:OpR X (compareOp .Lt) (rI0 fun i j=>.bl (decide (i < j))):=bw9 fun _ _ _ _ _ _ _ q=>lt_int q
theorem ch2:OpR X (compareOp .LtE) (rI0 fun i j=>.bl (decide (i<=j))):=bw9 fun _ _ _ _ _ _ _ q=>le_int q
theorem ch3:OpR X (compareOp .Gt) (rI0 fun i j=>.bl (decide (j < i))):=bw9 fun _ _ _ _ _ _ _ q=>gt_int q
theorem ch4:OpR X (compareOp .GtE) (rI0 fun i j=>.bl (decide (j<=i))):=bw9 fun _ _ _ _ _ _ _ q=>ge_int q
theorem aU6:OpR X (compareOp .In) (fun x y H Q=>∃i j,x=.str i/\y=.str j/\Q (.bl (!(Builtin.Str.occurrences j i 0 j.length 1).isEmpty)) H):=by
 intro pins s σ H x y v u Q I rx ry h
 obtain⟨i,j,rfl,rfl,q⟩:=h
 obtain⟨t,rfl⟩:=rx
 obtain⟨t',rfl⟩:=ry
 exact in_str (ax4 I q rfl)
theorem bP9:OpR X (compareOp .Is) (fun x y H Q=>y=.non/\Q (.bl (decide (x=.non))) H):=by
 intro pins s σ H x y v u Q I rx ry h
 obtain⟨rfl,q⟩:=h
 cases ry
 refine is_none_gen (ax4 I q ?_)
 cases x<;>first
  | (cases rx;rfl)
  | (obtain⟨t,rfl⟩:=rx;rfl)
theorem bw6:OpR X (compareOp .IsNot) (fun x y H Q=>y=.non/\Q (.bl (!decide (x=.non))) H):=by
 intro pins s σ H x y v u Q I rx ry h
 obtain⟨rfl,q⟩:=h
 cases ry
 refine isnot_none_gen (ax4 I q ?_)
 cases x<;>first
  | (cases rx;rfl)
  | (obtain⟨t,rfl⟩:=rx;rfl)
theorem aw0:OpR X (compareOp .NotIn) (fun x y H Q=>∃i j,x=.str i/\y=.str j/\Q (.bl (!(!(Builtin.Str.occurrences j i 0 j.length 1).isEmpty))) H):=by
 intro pins s σ H x y v u Q I rx ry h
 obtain⟨i,j,rfl,rfl,q⟩:=h
 obtain⟨t,rfl⟩:=rx
 obtain⟨t',rfl⟩:=ry
 exact notIn_str (ax4 I q rfl)
theorem aw4(b:Expr) (h:op≠.In:=by decide) (h2:op≠.NotIn:=by decide):behindInMarks op b=false:=by
 have e1:(op==CmpOp.In)=false:=by cases op<;>first|rfl|exact absurd rfl h
 have e2:(op==CmpOp.NotIn)=false:=by cases op<;>first|rfl|exact absurd rfl h2
 cases b<;>simp[behindInMarks,e1,e2]
theorem aP0(ho:OpR X (compareOp op) r) (ha:PE X a ta) (hb:PE X b tb) (hm:behindInMarks op b=false):PE X (.Compare a [op] [b] pos) (tOp r ta tb):=by
 intro pins s σ H Q I h
 exact wpAny_Compare1 (cb1 ha hb I h fun v u s2 x y H2 I2 rx ry q=>ho pins s2 σ H2 x y v u Q I2 rx ry q) hm
noncomputable def bF3(t:TE):TT:=fun σ H Q=>t σ H fun x H'=>∃k,x=.bl k/\Q k H'
theorem aO4(ho:OpR X (compareOp op) r) (ha:PE X a ta) (hb:PE X b tb) (hm:behindInMarks op b=false):PT X (.Compare a [op] [b] pos) (bF3 (tOp r ta tb)):=by
 intro pins s σ H Q I h
 refine wpAny_isTrue_Compare1 (thn (ha pins s σ H _ I h) fun v s1 ⟨x,H1,I1,r1,q1⟩=>thn (hb pins s1 σ H1 _ I1 q1) fun u s2 ⟨y,H2,I2,r2,q2⟩ =>
  thn (ho pins s2 σ H2 x y v u _ I2 r1 r2 q2) fun c s3 ⟨z,H3,I3,r3,k,e,q3⟩=>?_) hm
 subst e
 cases r3
 exact wpAny_truthy_bool ⟨H3,I3,q3⟩
noncomputable def bd0(r r':R2) (ta tb tc:TE):TE:=fun σ H Q=>ta σ H fun x H1=>tb σ H1 fun y H2=>r x y H2 fun z H3=>∃k,z=.bl k /\
 (if k=true then tc σ H3 fun w' H4=>r' y w' H4 Q else Q (.bl false) H3)
theorem aB3(ho:OpR X (compareOp op) r) (ho':OpR X (compareOp op') r') (ha:PE X a ta) (hb:PE X b tb) (hc:PE X c tc)
  (hm:lastMarks [op,op'] [b,c]=false:=by with_unfolding_all rfl):PE X (.Compare a [op,op'] [b,c] pos) (bd0 r r' ta tb tc):=by
 intro pins s σ H Q I h
 refine Compare_chain (thn (ha pins s σ H _ I h) fun v s1 ⟨x,H1,I1,r1,q1⟩=>chain_link (thn (hb pins s1 σ H1 _ I1 q1) fun u s2 ⟨y,H2,I2,r2,q2⟩ =>
  thn (ho pins s2 σ H2 x y v u _ I2 r1 r2 q2) fun d s3 ⟨z,H3,I3,r3,k,e,q3⟩=>?_)) hm
 subst e
 cases r3
 refine wpAny_truthy_bool ?_
 cases k with
 | false=>exact ite_ff ⟨.bl false,H3,I3,rfl,q3⟩
 | true=>exact ite_tt (chain_last (thn (hc pins s3 σ H3 _ I3 q3) fun w' s4 ⟨z',H4,I4,r4,q4⟩=>ho' pins s4 σ H4 y z' u w' Q I4 r2 r4 q4))
theorem aA9(ho:OpR X (compareOp op) r) (ho':OpR X (compareOp op') r') (ha:PE X a ta) (hb:PE X b tb) (hc:PE X c tc)
  (hm:lastMarks [op,op'] [b,c]=false:=by with_unfolding_all rfl):PT X (.Compare a [op,op'] [b,c] pos) (bF3 (bd0 r r' ta tb tc)):=by
 intro pins s σ H Q I h
 refine isTrue_chain (thn (ha pins s σ H _ I h) fun v s1 ⟨x,H1,I1,r1,q1⟩=>test_link (thn (hb pins s1 σ H1 _ I1 q1) fun u s2 ⟨y,H2,I2,r2,q2⟩ =>
  thn (ho pins s2 σ H2 x y v u _ I2 r1 r2 q2) fun d s3 ⟨z,H3,I3,r3,k,e,q3⟩=>?_)) hm
 subst e
 cases r3
 refine wpAny_truthy_bool ?_
 cases k with
 | false =>
  obtain⟨k',e',q'⟩:=q3
  cases e'
  exact ite_ff ⟨H3,I3,q'⟩
 | true =>
  refine ite_tt (test_last (thn (hc pins s3 σ H3 _ I3 q3) fun w' s4 ⟨z',H4,I4,r4,q4⟩=>thn (ho' pins s4 σ H4 y z' u w' _ I4 r2 r4 q4) fun d' s5 ⟨z2,H5,I5,r5,k2,e2,q5⟩=>?_))
  subst e2
  cases r5
  exact wpAny_truthy_bool ⟨H5,I5,q5⟩
noncomputable def cm7(K:PySem.W.Frag) (x:V) (H:Hp) (k:Bool):Prop :=
 match x with
 | .non=>k=false
 | .bl b=>k=b
 | .int i=>k=(i != 0)
 | .str y=>y.length<=sizeLine/\k=((y.length:Int) != 0)
 | .byt y=>y.size<=sizeLine/\k=((y.size:Int) != 0)
 | .ref p=>(∃xs,SqL K H p xs/\k = !xs.isEmpty)\/(∃xs,SqT K H p xs/\k = !xs.isEmpty)\/∃kvs,H p=some (.dK kvs)/\k = !kvs.isEmpty
 | _=>False
theorem aI9{κ:Type}{kvs:List (κ×V)}{vs:List (κ×Value)}(r:KV kvs vs):(!vs.isEmpty) = !kvs.isEmpty:=by
 cases r<;>rfl
theorem am0(r:C8 xs its):(!its.toArray.isEmpty) = !xs.isEmpty:=by
 cases r<;>simp
theorem ad7:(sizeLine:Nat) < 2 ^ 63:=by rw[sizeLine_eq];decide
theorem bM4:cs0 X (fun x H Q=>∃k,cm7 X.K x H k/\Q k H):=by
 intro pins s σ H x v Q I rx h
 obtain⟨k,e,q⟩:=h
 have hl:=ad7
 have hs:sizeLine=16777216:=sizeLine_eq
 cases x with
 | non =>
  cases rx
  have e':k=false:=e
  subst e'
  exact truthy_none ⟨H,I,q⟩
 | bl b =>
  cases rx
  have e':k=b:=e
  subst e'
  exact wpAny_truthy_bool ⟨H,I,q⟩
 | int i =>
  obtain⟨t,rfl⟩:=rx
  have e':k=(i != 0):=e
  subst e'
  exact PySem.P.truthy_int ⟨H,I,q⟩
 | str y =>
  obtain⟨t,rfl⟩:=rx
  obtain⟨hy,e'⟩:y.length<=sizeLine/\k=((y.length:Int) != 0):=e
  subst e'
  exact PySem.P.truthy_str (by omega) ⟨H,I.tok _,q⟩
 | byt y =>
  obtain⟨t,rfl⟩:=rx
  obtain⟨hy,e'⟩:y.size<=sizeLine/\k=((y.size:Int) != 0):=e
  subst e'
  exact PySem.W.truthy_bytes (by omega) ⟨H,I.tok _,q⟩
 | ref p =>
  cases rx
  have e':(∃xs,SqL X.K H p xs/\k = !xs.isEmpty)\/(∃xs,SqT X.K H p xs/\k = !xs.isEmpty)\/∃kvs,H p=some (.dK kvs)/\k = !kvs.isEmpty:=e
  rcases e' with⟨xs,hx,e'⟩|⟨xs,hx,e'⟩|⟨kvs,hx,e'⟩
  ·subst e'
   obtain⟨its,r,pl,hz⟩:=I.list hx
   have hlen:=r.length
   exact wpAny_truthy_list pl.isList (by simp only[List.size_toArray];omega) ⟨H,I.tok _,by rw[am0 r];exact q⟩
  ·subst e'
   obtain⟨its,r,pl,hz⟩:=I.tuple hx
   have hlen:=r.length
   exact truthy_tuple pl (by simp only[List.size_toArray];omega) ⟨H,I.tok _,by rw[am0 r];exact q⟩
  ·subst e'
   obtain⟨hz,hS,vs,r,m⟩:kvs.length<=sizeLine/\(p==sysModules)=false/\∃vs,KV kvs vs/\s.heap.DictOf (aj0 X.prog X.w) p vs:=I.hok p _ hx
   have hlen:kvs.length=vs.length:=Paired.length r
   exact wpAny_truthy_dict hS m (by omega) ⟨H,I.tok _,by rw[aI9 r];exact q⟩
 | _=>exact(show False from e).elim
theorem aA8(ha:PE X a ta) (he:∀whole,isTrue a X.env whole=(do let v ← whole;standAt a.pos;holding [v] (truthy v))) :
  PT X a (fun σ H Q=>ta σ H fun x H'=>∃k,cm7 X.K x H' k/\Q k H'):=by
 intro pins s σ H Q I h
 exact isTrue_plain (thn (ha pins s σ H _ I h) fun v s1 ⟨x,H1,I1,r1,q1⟩=>bM4 pins s1 σ H1 x v Q I1 r1 q1) (he _)
theorem aI0:OpR X (binaryOp .Add) (fun x y H Q=>∃i j,x=.str i/\y=.str j/\i.length+j.length<=sizeLine/\Q (.str (i++j)) H):=by
 intro pins s σ H x y v u Q I rx ry h
 obtain⟨i,j,rfl,rfl,hz,q⟩:=h
 obtain⟨t,rfl⟩:=rx
 obtain⟨t',rfl⟩:=ry
 exact add_str (fun t' tk=>⟨.str (i++j),H,I.tok _,⟨_,rfl⟩,q⟩) hz
theorem Y2(r:C8 [x] us):∃u,us=[u]/\E4 x u:=by
 cases r with
 | cons r1 r2=>cases r2;exact⟨_,rfl,r1⟩
theorem cd0(r:C8 [x,y] us):∃u w',us=[u,w']/\E4 x u/\E4 y w':=by
 cases r with
 | cons r1 r2 =>
  cases r2 with
  | cons r3 r4=>cases r4;exact⟨_,_,rfl,r1,r3⟩
theorem as3:T3 X (.type "int") (fun xs H Q=>(∃i,xs=[.int i]/\Q (.int i) H)\/∃k,xs=[.bl k]/\Q (.int (if k then 1 else 0)) H):=by
 intro pins s σ H xs us Q I r h
 rcases h with⟨i,rfl,q⟩|⟨k,rfl,q⟩
 ·obtain⟨u,rfl,t,rfl⟩:=Y2 r
  exact call_int_int ⟨.int i,H,I,⟨_,rfl⟩,q⟩
 ·obtain⟨u,rfl,r1⟩:=Y2 r
  cases r1
  exact call_int_bool ⟨.int (if k then 1 else 0),H,I.tok _,⟨_,rfl⟩,q⟩
theorem ay3:T3 X (.type "str") (fun xs H Q=>∃i,xs=[.int i]/\i.natAbs.log2 < 1920/\Q (.str (toString i)) H):=by
 intro pins s σ H xs us Q I r h
 obtain⟨i,rfl,hz,q⟩:=h
 obtain⟨u,rfl,t,rfl⟩:=Y2 r
 exact PySem.P.str_of_int hz ⟨.str _,H,I.tok _,⟨_,rfl⟩,q⟩
end
end L2
namespace L2
open PySem PySem.Spec PyProof.Rows
structure ObjM (h:Heap) (x dx C:Addr) (mA:Str->Option Value):Prop where
 obj:h.get? x=some (PySem.W.instObj C dx)
 ns:h.Ns1 dx mA
 ne:dx≠x
theorem aW1{h:Heap}{dx:Addr}{mA:Str->Option Value}(n:h.Ns1 dx mA):∃od,h.get? dx=some od/\∀name,PySem.W.lookIn name od=some (mA name):=by
 obtain⟨o,es,ep,ho,hd,hk,_,hm⟩:=n
 refine⟨o,ho,fun name=>?_⟩
 have e:=hm name
 unfold nsFind findBy at e
 rw[← Array.find?_toList]at e
 unfold PySem.W.lookIn
 rw[hd]
 dsimp only
 split
 ·rename_i y q
  rw[q]at e
  exact congrArg some e
 ·rename_i q
  rw[q]at e
  have a:es.toList.any (·.refKey)=false:=by
   rw[List.any_eq_false]
   intro y hy
   obtain⟨z,t,hkey⟩:=hk y (Array.mem_toList_iff.mp hy)
   simp[DictEntry.refKey,hkey]
  have a':¬es.toList.any (·.refKey)=true:=by rw[a];exact Bool.false_ne_true
  rw[if_neg a']
  exact congrArg some e
theorem ObjM.look(I:ObjM h x dx C mA):∃od,PySem.W.InstAt h x (PySem.W.instObj C dx) C (some od)/\∀name,PySem.W.lookIn name od=some (mA name) :=
 let⟨od,ho,hl⟩:=aW1 I.ns
 ⟨od,⟨I.obj,rfl,rfl,ho⟩,hl⟩
section
variable {prog:Program}{w:World}{A:Around}{E:Value->Shared->Prop}{s:Shared}{K:PySem.W.Frag}{x dx C f:Addr}{mA:Str->Option Value}{name:Str}{v:Value}
theorem bB9(X:K.In s.heap) (I:ObjM s.heap x dx C mA) (hg:PySem.W.plainGet K C name=true) (hh:PySem.W.hasDictIn K C=true)
  (ha:PySem.W.findIn K (.ref C) name=some none) (hv:mA name=some v) (hv':PySem.W.handedIn v=true) (h:Q v { s with toks:=s.toks+1 }) :
  wpAny (model prog w) A (getAttr (.ref x) name expr) Q E s:=by
 obtain⟨od,J,hl⟩:=I.look
 exact PySem.W.get_value X J (PySem.W.plainGet_of hg).1 (PySem.W.findObj_own hh ha rfl (by rw[hl,hv])) hv' h
theorem bn5(X:K.In s.heap) (I:ObjM s.heap x dx C mA) (hg:PySem.W.plainGet K C name=true)
  (hf:PySem.W.findIn K (.ref C) name=some (some (.ref f))) (ht:PySem.W.isFn K (.ref f)=true) (hv:mA name=none) (h:Q (.ref f,[.ref x]) s) :
  wpAny (model prog w) A (getMethod (.ref x) name pl) Q E s:=by
 obtain⟨od,J,hl⟩:=I.look
 exact PySem.W.method_fn X J (PySem.W.plainGet_of hg).1 (PySem.W.plainGet_of hg).2 hf (beq_iff_eq.mp ht) (by show(PySem.W.lookIn name od).map (·.isSome)=some false;rw[hl,hv];rfl) h
theorem bu2(X:K.In s.heap) (I:ObjM s.heap x dx C mA)
  (hs:PySem.W.findIn K (.ref C) "__setattr__" = some (some (.builtin "object.__setattr__"))) (hp:PySem.W.plainOver K C=true) (ht:PySem.W.takerIn K C name=some none) (hh:PySem.W.hasDictIn K C=true)
  (hw:PySem.Within mA ns) (hsz:ns.length<=sizeLine)
  (h:∀h',ObjM h' x dx C (fun y=>if y=name then some v else mA y)->Heap.SameBut dx s.heap h'->Q () { s with heap:=h',toks:=s.toks+2 }) :
  wpAny (model prog w) A (setAttr (.ref x) name v) Q E s:=by
 obtain⟨od,J,hl⟩:=I.look
 refine PySem.W.set_plain X J hs (PySem.W.osa_open (s:={ s with toks:=s.toks+1 }) (r:=none) X J hp ht fun b=>?_)
 obtain⟨cd,hc,hd'⟩:=PySem.W.any_some hh
 have hx:s.heap.get? x=some ⟨.ref C,some dx,.plain,#[]⟩:=I.obj
 refine wpAny_bind (wpAny_pure (wpAny_bind (wpAny_bind (wpAny_loadPart hx (wpAny_bind (PySem.W.Looks.here (s:={ s with toks:=s.toks+1 }) (PySem.W.looks_clsIn X hc) ?_))))))
 rw[hd']
 refine wpAny_pure (a:=some dx) (wpAny_bind (wpAny_pure (wpAny_bind ?_)))
 refine wpAny_nsSet1 (s:={ s with toks:=s.toks+1 }) I.ns fun h' hn2 hs2=>?_
 obtain⟨oD,esD,epD,hoD,hdD,hcD⟩:=hn2.count (PySem.Within.cons name v hw)
 refine wpAny_bind (wpAny_lookBehind hoD (by rw[hdD];exact pastItsLine_dict (Nat.le_trans hcD (by rw[List.length_cons];omega))) ?_)
 exact wpAny_pure (h _ ⟨(hs2.2 _ (Ne.symm I.ne)).trans I.obj,hn2,I.ne⟩ hs2)
theorem bi9(X:K.In s.heap) (hm:PySem.W.makesIn K C=true)
  (hi:PySem.W.findIn K (.ref C) "__init__" = some (some (.ref f))) (hf:PySem.W.typeIn K (.ref f)=some (.type "function"))
  (h:codeAny (model prog w) (A.under (.builtin "type.__call__" ⟨.ref C::vs,kw⟩)) (.call (.ref f) ⟨.ref (s.heap.objs.size+1)::vs,kw⟩) (PySem.W.InitBack (s.heap.objs.size+1) R)
   { s with heap:=(s.heap.push PySem.W.emptyDict).push (PySem.W.instObj C s.heap.objs.size) }) :
  codeAny (model prog w) A (.call (.ref C) ⟨vs,kw⟩) R s:=by
 obtain⟨hh,g,d,t,os⟩:=s
 exact PySem.W.make_core (PySem.W.makes_of X hm) (PySem.W.looks_findIn X hi) (fun self=>PySem.W.bind_fn X self hf) (.inl rfl) h
end
noncomputable def V5(f:Str) (v:V):List (Str×V)->List (Str×V)
 | []=>[(f,v)]
 | (g,x)::r=>if g=f then(g,v)::r else(g,x)::V5 f v r
theorem ag0(f g:Str) (v:V):∀fs:List (Str×V),(V5 f v fs).lookup g=if g=f then some v else fs.lookup g
 | []=>by
  show List.lookup g [(f,v)]=_
  by_cases h:g=f
  ·have hb:(g==f)=true:=beq_iff_eq.mpr h
   simp only[List.lookup,hb,if_pos h]
  ·have hb:(g==f)=false:=beq_eq_false_iff_ne.mpr h
   simp only[List.lookup,hb,if_neg h]
 | (k,x)::r=>by
  have ih:=ag0 f g v r
  rw[show V5 f v ((k,x)::r)=(if k=f then(k,v)::r else(k,x)::V5 f v r) from rfl]
  by_cases hk:k=f
  ·rw[if_pos hk]
   by_cases h:g=k
   ·have hb:(g==k)=true:=beq_iff_eq.mpr h
    simp only[List.lookup,hb,if_pos (h.trans hk)]
   ·have hb:(g==k)=false:=beq_eq_false_iff_ne.mpr h
    simp only[List.lookup,hb,if_neg (fun e:g=f=>h (e.trans hk.symm))]
  ·rw[if_neg hk]
   by_cases h:g=k
   ·have hb:(g==k)=true:=beq_iff_eq.mpr h
    simp only[List.lookup,hb,if_neg (fun e:g=f=>hk (h.symm.trans e))]
   ·have hb:(g==k)=false:=beq_eq_false_iff_ne.mpr h
    simp only[List.lookup,hb]
    exact ih
theorem ad8(f:Str) (v:V):∀fs:List (Str×V),f∈(V5 f v fs).map (·.1)/\∀g,g∈fs.map (·.1)->g∈(V5 f v fs).map (·.1)
 | []=>⟨by simp[V5],fun g h=>by simp at h⟩
 | (k,x)::r=>by
  obtain⟨i1,i2⟩:=ad8 f v r
  rw[show V5 f v ((k,x)::r)=(if k=f then(k,v)::r else(k,x)::V5 f v r) from rfl]
  by_cases hk:k=f
  ·rw[if_pos hk]
   subst hk
   exact⟨by simp,fun g h=>by simpa using h⟩
  ·rw[if_neg hk]
   refine⟨?_,fun g h=>?_⟩
   ·rw[List.map_cons]
    exact List.mem_cons_of_mem _ i1
   ·rw[List.map_cons]at h ⊢
    rcases List.mem_cons.mp h with e|e
    ·exact List.mem_cons.mpr (.inl e)
    ·exact List.mem_cons_of_mem _ (i2 g e)
theorem ag1(f:Str) (v:V):∀fs:List (Str×V),(V5 f v fs).length<=fs.length+1
 | []=>by simp[V5]
 | (k,x)::r=>by
  have ih:=ag1 f v r
  rw[show V5 f v ((k,x)::r)=(if k=f then(k,v)::r else(k,x)::V5 f v r) from rfl]
  by_cases hk:k=f
  ·rw[if_pos hk,List.length_cons,List.length_cons];omega
  ·rw[if_neg hk,List.length_cons,List.length_cons];omega
theorem ap5.some_of(r:ap5 (some v) o):∃u,o=some u/\E4 v u:=by
 cases o with
 | none=>exact(show False from r).elim
 | some u=>exact⟨u,rfl,r⟩
theorem ap5.none_of(r:ap5 none o):o=none:=by
 cases o with
 | none=>rfl
 | some u=>exact(show False from r).elim
theorem aX2(r:E4 v u):PySem.W.handedIn u=true:=by
 cases v with
 | non=>cases(show u=Value.none from r);rfl
 | bl b=>cases(show u=Value.bool b from r);rfl
 | int i=>obtain⟨t,e⟩:=(show ∃t,u=Value.int i t from r);cases e;rfl
 | str x=>obtain⟨t,e⟩:=(show ∃t,u=Value.str x t from r);cases e;rfl
 | byt b=>obtain⟨t,e⟩:=(show ∃t,u=Value.bytes b t from r);cases e;rfl
 | flt b=>obtain⟨t,e⟩:=(show ∃t,u=Value.float b t from r);cases e;rfl
 | ref a=>cases(show u=Value.ref a from r);rfl
 | ty n=>cases(show u=Value.type n from r);rfl
section
variable {P:Program}{w:World}{H H':Hp}{h h':Heap}{a C dx:Addr}{fs fs':List (Str×V)}
theorem ax1(hok:HOk P w H h) (e:H a=some (.ins C dx fs)):∃mA,ObjM h a dx C mA/\(∀f,ap5 (fs.lookup f) (mA f))/\PySem.Within mA (fs.map (·.1))/\fs.length<=1000/\H dx=some (.own a):=by
 obtain⟨d,z,ne,ob,mA,n,r,q⟩:=(show R1 P w H h a (.ins C dx fs) from hok a _ e)
 exact⟨mA,⟨ob,n,ne⟩,r,q,z,d⟩
end
structure Cls (K:PySem.W.Frag) (C:Addr):Prop where
 pg:PySem.W.plainGet K C Str.empty=true
 hd:PySem.W.hasDictIn K C=true
 po:PySem.W.plainOver K C=true
 sa:PySem.W.findIn K (.ref C) "__setattr__" = some (some (.builtin "object.__setattr__"))
theorem Cls.get{K:PySem.W.Frag}{C:Addr}(c:Cls K C) (f:Str):PySem.W.plainGet K C f=true:=c.pg
noncomputable def x4(K:PySem.W.Frag) (C:Addr) (f:Str):Prop:=PySem.W.findIn K (.ref C) f=some none
theorem x4.taker{K:PySem.W.Frag}{C:Addr}{f:Str}(n:x4 K C f):PySem.W.takerIn K C f=some none:=by
 unfold PySem.W.takerIn
 rw[show PySem.W.findIn K (.ref C) f=some none from n]
 rfl
structure Meth (K:PySem.W.Frag) (C:Addr) (m:Str) (f:Addr):Prop where
 at_:PySem.W.findIn K (.ref C) m=some (some (.ref f))
 fn:PySem.W.isFn K (.ref f)=true
 kp:PySem.W.keepIn K (.ref f)=true
section
variable {X:Cx}{pins:List (Addr×Obj)}{σ:St}{H:Hp}{s:Shared}{a C dx:Addr}{fs:List (Str×V)}{f:Str}{v:V}{A:Around}{E:Value->Shared->Prop}
theorem aJ2(I:Inv X pins σ H s) (e:H a=some (.ins C dx fs)) (c:Cls X.K C) (n:x4 X.K C f) (l:fs.lookup f=some v)
  (h:∀u s',Inv X pins σ H s'->E4 v u->Q u s'):wpAny (model X.prog X.w) A (getAttr (.ref a) f b) Q E s:=by
 obtain⟨mA,O,r,_,_,_⟩:=ax1 I.hok e
 obtain⟨u,hu,ru⟩:=ap5.some_of (v:=v) (o:=mA f) (by rw[← l];exact r f)
 exact bB9 I.kIn O (c.get f) c.hd n hu (aX2 ru) (h u _ (I.tok _) ru)
theorem u7(I:Inv X pins σ H s) (e:H a=some (.ins C dx fs)) (c:Cls X.K C) (k:Meth X.K C m g) (l:fs.lookup m=none)
  (h:Q (.ref g,[.ref a]) s):wpAny (model X.prog X.w) A (getMethod (.ref a) m pl) Q E s:=by
 obtain⟨mA,O,r,_,_,_⟩:=ax1 I.hok e
 have hn:mA m=none:=ap5.none_of (by rw[← l];exact r m)
 exact bn5 I.kIn O (c.get m) k.at_ k.fn hn h
theorem aH3(I:Inv X pins σ H s) (e:H a=some (.ins C dx fs)) (c:Cls X.K C) (n:x4 X.K C f) (hl:fs.length < 1000) (ry:E4 y u)
  (h:∀s',Inv X pins σ (upd H a (.ins C dx (V5 f y fs))) s'->Q () s'):wpAny (model X.prog X.w) A (setAttr (.ref a) f u) Q E s:=by
 obtain⟨mA,O,r,wi,_,ho⟩:=ax1 I.hok e
 have hz:(fs.map (·.1)).length<=sizeLine:=by rw[List.length_map,sizeLine_eq];omega
 refine bu2 I.kIn O c.sa c.po n.taker c.hd wi hz fun h' O' sb=>h _ ?_
 have hd:∃o,h'.get? dx=some o:=let⟨o,_,_,e',_⟩:=O'.ns;⟨o,e'⟩
 refine I.write (x:=a) (e:=dx) (by rw[e];exact True.intro) (.inr ho) (fun b q hb z=>(sb.2 b hb).trans z) hd ?_
 refine⟨by rw[C2 O.ne];exact ho,?_,O.ne,O'.obj,_,O'.ns,fun g=>?_,fun g hg=>?_⟩
 ·have:=ag1 f y fs;omega
 ·show ap5 ((V5 f y fs).lookup g) (if g=f then some u else mA g)
  rw[ag0]
  by_cases q:g=f
  ·rw[if_pos q,if_pos q];exact ry
  ·rw[if_neg q,if_neg q];exact r g
 ·by_cases q:g=f
  ·rw[q];exact(ad8 f y fs).1
  ·refine(ad8 f y fs).2 g (wi g fun z=>hg ?_)
   show(if g=f then some u else mA g)=none
   rw[if_neg q];exact z
theorem Inv.made(I:Inv X pins σ H s):Inv X pins σ (upd (upd H s.heap.objs.size (.own (s.heap.objs.size+1))) (s.heap.objs.size+1) (.ins C s.heap.objs.size []))
  { s with heap:=(s.heap.push PySem.W.emptyDict).push (PySem.W.instObj C s.heap.objs.size) }:=by
 have e1:(s.heap.push PySem.W.emptyDict).get? s.heap.objs.size=some PySem.W.emptyDict:=Heap.get?_push_size s.heap rfl
 have e2:((s.heap.push PySem.W.emptyDict).push (PySem.W.instObj C s.heap.objs.size)).get? (s.heap.objs.size+1)=some (PySem.W.instObj C s.heap.objs.size):=by
  have:=Heap.get?_push_size (s.heap.push PySem.W.emptyDict) (o:=PySem.W.instObj C s.heap.objs.size) rfl
  rwa [Heap.size_push]at this
 have e3:(s.heap.push PySem.W.emptyDict).Ns s.heap.objs.size (fun _=>none):=⟨PySem.W.emptyDict,#[],_,e1,rfl,(fun e he=>absurd he (by simp)),fun _=>rfl⟩
 have I1:=I.laid (a:=s.heap.objs.size) (o:=.own (s.heap.objs.size+1)) (h':=s.heap.push PySem.W.emptyDict) (t':=s.toks) (fun b u q=>Heap.get?_push_of_some _ q) (Nat.le_refl _) ⟨_,e1⟩
 refine I1.laid (a:=s.heap.objs.size+1) (o:=.ins C s.heap.objs.size []) (t':=s.toks) (fun b u q=>Heap.get?_push_of_some _ q) (Nat.le_of_eq (Heap.size_push _ _)) ?_
 have ne:s.heap.objs.size≠s.heap.objs.size+1:=Nat.ne_of_lt (Nat.lt_succ_self _)
 refine⟨by rw[C2 ne,B5],Nat.zero_le _,ne,e2,fun _=>none,(Heap.Ns1.of_empty e3).at fun o q=>Heap.get?_push_of_some _ q,fun _=>True.intro,fun y hy=>absurd rfl hy⟩
theorem bD6(hb:attributeBase e f env (eval e env)=eval e env)
  (h:wpAny (model prog w) A (eval e env) (fun o s₁=>wpAny (model prog w) A (getAttr o f true) Q E s₁) E s):wpAny (model prog w) A (eval (.Attribute e f pos) env) Q E s :=
 Attribute_any_ h (by rw[arm_eval_Attribute,hb])
end
noncomputable def co7(K:PySem.W.Frag) (ta:TE) (f:Str):TE:=fun σ H Q=>ta σ H fun x H1=>∃a C dx fs v,x=.ref a/\H1 a=some (.ins C dx fs)/\Cls K C/\x4 K C f/\fs.lookup f=some v/\Q v H1
noncomputable def co9(K:PySem.W.Frag) (ta tv:TE) (f:Str):TS:=fun D σ H=>tv σ H fun y H1=>ta σ H1 fun x H2=>∃a C dx fs,x=.ref a/\H2 a=some (.ins C dx fs)/\Cls K C/\x4 K C f/\fs.length < 1000 /\
 D.nx σ (upd H2 a (.ins C dx (V5 f y fs)))
section
variable {X:Cx}{o e value:Expr}{f:Str}{pos pos' tpos:Pos}{ta tv:TE}
theorem bP2(he:PE X e ta) (hb:attributeBase e f X.env (eval e X.env)=eval e X.env):PE X (.Attribute e f pos) (co7 X.K ta f):=by
 intro pins s σ H Q I h
 refine bD6 hb (thn (he pins s σ H _ I h) fun u s1 ⟨x,H1,I1,rx,a,C,dx,fs,v,ex,ea,c,n,l,q⟩=>?_)
 subst ex
 obtain rfl:u=Value.ref a:=rx
 exact aJ2 I1 ea c n l fun u' s2 I2 ru=>⟨v,H1,I2,ru,q⟩
theorem bO4(ha:PE X o ta) (hv:PE X value tv) (hs:swapsWith value (some (.Attribute o f pos')) pos.line X.env=pure false):PS X (.Assign [.Attribute o f pos'] value pos) (co9 X.K ta tv f):=by
 intro pins s σ H D I h
 refine plainObj_wpAny_Assign_Attribute (thn (hv pins s σ H _ I h) fun u s1 ⟨y,H1,I1,ry,q⟩=>thn (ha pins s1 σ H1 _ I1 q) fun ov s2 ⟨x,H2,I2,rx,a,C,dx,fs,ex,ea,c,n,l,q2⟩=>?_) hs
 subst ex
 obtain rfl:ov=Value.ref a:=rx
 exact aH3 I2 ea c n l ry fun s3 I3=>⟨σ,_,I3,q2⟩
theorem bG7(he:PE X e te) (I:Inv X pins σ H s)
  (h:te σ H fun x H1=>∃a C dx fs g,x=.ref a/\H1 a=some (.ins C dx fs)/\Cls X.K C/\Meth X.K C m g/\fs.lookup m=none /\
   ∀s1,Inv X pins σ H1 s1->wpAny (model X.prog X.w) X.A (callWith pos (.ref g) [.ref a] (backTo pos (starEach args X.env)) (backToKw pos (keywordEach [] X.env))) Q X.xe s1)
  (ht:eval (.Call (.Attribute e m apos) args [] pos) X.env=(do
   let ov ← eval e X.env
   standAt apos.atName
   let(f,first) ← holding [ov] (getMethod ov m pl)
   callWith pos f first (backTo pos (starEach args X.env)) (backToKw pos (keywordEach [] X.env)))) :
  wpAny (model X.prog X.w) X.A (eval (.Call (.Attribute e m apos) args [] pos) X.env) Q X.xe s:=by
 refine PySem.W.methodCall_KW (pl:=pl) (thn (he pins s σ H _ I h) fun u s1 ⟨x,H1,I1,rx,a,C,dx,fs,g,ex,ea,c,k,l,q⟩=>?_) ht
 subst ex
 obtain rfl:u=Value.ref a:=rx
 exact u7 I1 ea c k l (q s1 I1)
end
section
variable {X:Cx}{pins:List (Addr×Obj)}{σ:St}{H:Hp}{s:Shared}{A:Around}{E:Value->Shared->Prop}{Q:Value->Shared->Prop}{c:Value}{b:Bool}
end
end L2
namespace L2
open PySem PySem.Spec PyProof.Rows
structure Room (k:Nat) (A:Around):Prop where
 hd:A.handled=none
 dp:A.depth+3*k+5 < recursionLimit
 un:A.units+16*k+200 < cLine
theorem Room.mono(r:Room k A) (h:j<=k):Room j A:=⟨r.hd,by have:=r.dp;omega,by have:=r.un;omega⟩
theorem Room.deeper(r:Room (k+1) A) (env:Env):Room k (A.deeper env) :=
 ⟨r.hd,by have:=r.dp;show A.depth+1+3*k+5 < _;omega,by have:=r.un;show A.units+3+16*k+200 < _;omega⟩
theorem aI3{A:Around}{C:Addr}{us:List Value}{kw:List (Str×Value)}:(A.under (.builtin "type.__call__" ⟨.ref C::us,kw⟩)).depth=A.depth+1:=by
 first|rfl|simp[Around.under,Code.weight,Code.isCreation,Code.isGuard,Code.isCaller,Code.frames,Code.isFrame,guardIds]
theorem aI2{A:Around}{C:Addr}{us:List Value}{kw:List (Str×Value)}:(A.under (.builtin "type.__call__" ⟨.ref C::us,kw⟩)).units=A.units+1:=by
 first|rfl|simp[Around.under,Code.cUnits,Code.frames,Code.isFrame]
theorem Room.make(r:Room (k+1) A) (C:Addr) (us:List Value) (kw:List (Str×Value)):Room k (A.under (.builtin "type.__call__" ⟨.ref C::us,kw⟩)) :=
 ⟨r.hd,by have:=r.dp;rw[aI3];omega,by have:=r.un;rw[aI2];omega⟩
theorem Room.depth(r:Room k A):A.depth < recursionLimit:=by have:=r.dp;omega
theorem Room.units(r:Room k A):A.units+64 < cLine:=by have:=r.un;omega
noncomputable def bM7:TA:=fun _ H Q=>Q [] H
noncomputable def ce9(ta:TE) (tr:TA):TA:=fun σ H Q=>ta σ H fun x H1=>tr σ H1 fun xs H2=>Q (x::xs) H2
section
variable {X:Cx}{e:Expr}{es:List Expr}{te:TE}{t:TA}{pos:Pos}
theorem E9:PA X [] bM7:=fun _ _ _ _ H Q I h=>Calls.spliced_nil ⟨[],H,I,.nil,h⟩
theorem D4(ha:PE X e te) (hr:PA X es t) (hs:starEach (e::es) X.env=(false,eval e X.env)::starEach es X.env:=by rfl):PA X (e::es) (ce9 te t):=by
 intro pos pins s σ H Q I h
 rw[hs]
 show wpAny _ _ (spliced ((false,eval e X.env)::backTo pos (starEach es X.env))) _ _ s
 refine Calls.spliced_cons (thn (ha pins s σ H _ I h) fun u s1 ⟨x,H1,I1,r1,q1⟩=>?_)
 exact thn (hr pos pins s1 σ H1 _ I1 q1) fun us s2 ⟨xs,H2,I2,r2,q2⟩=>⟨x::xs,H2,I2,.cons r1 r2,q2⟩
noncomputable def cn9(t:TA):TE:=fun σ H Q=>t σ H fun xs H1=>xs.length<=sizeLine/\∀p,H1 p=none->Q (.ref p) (upd H1 p (.tup xs))
noncomputable def co4(t:TA):TE:=fun σ H Q=>t σ H fun xs H1=>xs.length<=sizeLine/\∀p,H1 p=none->Q (.ref p) (upd H1 p (.lst xs))
theorem bg2{x1} (h:PA X es t):PE X (.Tuple es x1 pos) (cn9 t):=by
 intro pins s σ H Q I hq
 refine wpAny_Tuple_spliced (thn (h pos pins s σ H _ I hq) fun us s1 ⟨xs,H1,I1,r,z,q⟩=>⟨by rw[← r.length];exact z,?_⟩)
 have hf:H1 s1.heap.objs.size=none:=I1.hok.fresh (Nat.le_refl _)
 refine⟨.ref s1.heap.objs.size,upd H1 s1.heap.objs.size (.tup xs),I1.laid (t':=s1.toks) (fun b u e=>Heap.get?_push_of_some _ e) (Nat.le_refl _) ?_,rfl,q _ hf⟩
 exact⟨z,us,r,⟨_,Heap.get?_push_size _ rfl,rfl,⟨_,rfl⟩,rfl⟩⟩
theorem bg6(h:PA X es t):PE X (.List es pos) (co4 t):=by
 intro pins s σ H Q I hq
 refine wpAny_List_spliced (thn (h pos pins s σ H _ I hq) fun us s1 ⟨xs,H1,I1,r,z,q⟩=>⟨by rw[← r.length];exact z,?_⟩)
 have hf:H1 s1.heap.objs.size=none:=I1.hok.fresh (Nat.le_refl _)
 refine⟨.ref s1.heap.objs.size,upd H1 s1.heap.objs.size (.lst xs),I1.laid (t':=s1.toks) (fun b u e=>Heap.get?_push_of_some _ e) (Nat.le_refl _) ?_,rfl,q _ hf⟩
 exact⟨z,us,0,r,Heap.get?_push_size _ rfl⟩
end
noncomputable abbrev Sp:=List V->Hp->VK->XK->Prop
noncomputable abbrev CXT:=List Env->Hp->Shared->XK->Value->Shared->Prop
structure Env0 (P:Program) (w:World) (K:PySem.W.Frag) (mg:Str->Option Value) (base:Heap) (A:Around) (outer:List Env) (s:Shared) (H:Hp):Prop where
 frames:A.frames=some outer
 mod:Mod K mg base
 bs:∀b o,base.get? b=some o->s.heap.get? b=some o/\H b=none
 bsz:base.objs.size<=s.heap.objs.size
 funs:s.heap.FunFrames base outer
 frf:∀b∈frs outer,H b=none
 hok:HOk P w H s.heap
 bare:AllBare s.gens
noncomputable def CE(outer:List Env) (P:Program) (w:World) (H:Hp) (s:Shared) (Q:VK) (u:Value) (s':Shared):Prop :=
 ∃v H',s'.os=s.os/\AllBare s'.gens/\Un (frs outer) [] H H' s.heap s'.heap/\HOk P w H' s'.heap/\E4 v u/\Q v H'
noncomputable def CR(CX:CXT) (outer:List Env) (P:Program) (w:World) (H:Hp) (s:Shared) (Q:VK) (E:XK) (r:Result) (s':Shared):Prop :=
 match r with
 | .ok (.ret u)=>CE outer P w H s Q u s'
 | .ok _=>False
 | .error e=>CX outer H s E e s'
structure FnOk (P:Program) (w:World) (K:PySem.W.Frag) (mg:Str->Option Value) (base:Heap) (CX:CXT) (k:Nat) (f:Addr) (fd:FuncData) (ps:List Str) (sp:Sp):Prop where
 len:∀vs H Q E,sp vs H Q E->vs.length=ps.length
 run:∀(A:Around) (outer:List Env) (s:Shared) (H:Hp) (args:Args) (us:List Value) (vs:List V) (Q:VK) (E:XK),Room k A->Env0 P w K mg base A outer s H->BindsTo s fd args (ps.zip us)->C8 vs us->sp vs H Q E ->
  codeAny (model P w) A (.call (.ref f) args) (CR CX outer P w H s Q E) s
theorem FnOk.mono{P:Program}{w:World}{K:PySem.W.Frag}{mg:Str->Option Value}{base:Heap}{CX:CXT}{j k:Nat}{f:Addr}{fd:FuncData}{ps:List Str}{sp:Sp}(F:FnOk P w K mg base CX j f fd ps sp) (h:j<=k) :
  FnOk P w K mg base CX k f fd ps sp:=⟨F.len,fun A outer s H args us vs Q E hr=>F.run A outer s H args us vs Q E (hr.mono h)⟩
theorem Env0.make{P:Program}{w:World}{K:PySem.W.Frag}{mg:Str->Option Value}{base:Heap}{A:Around}{outer:List Env}{s:Shared}{H:Hp}(e:Env0 P w K mg base A outer s H) (C:Addr) (us:List Value) (kw:List (Str×Value)) :
  Env0 P w K mg base (A.under (.builtin "type.__call__" ⟨.ref C::us,kw⟩)) outer s H:=⟨by first|exact e.frames|(simpa [Around.under,Code.envs,Code.isFrame,pushEnvs] using e.frames),e.mod,e.bs,e.bsz,e.funs,e.frf,e.hok,e.bare⟩
section
variable {X:Cx}{pins:List (Addr×Obj)}{σ:St}{H:Hp}{s s':Shared}
theorem Inv.env0(I:Inv X pins σ H s):Env0 X.prog X.w X.K X.mg X.base X.A X.stack s H :=
 ⟨I.ok.frames,I.ok.mod,I.bs,Nat.le_trans I.ok.bsz I.sz,I.stack,I.stkFree,I.hok,I.bare⟩
theorem Inv.after(I:Inv X pins σ H s) (h:CE X.stack X.prog X.w H s Q u s'):EP X pins σ Q u s':=by
 obtain⟨v,H',os,bare,un,hok,r,q⟩:=h
 obtain⟨hh,g,d,t,os'⟩:=s'
 obtain rfl:os'=s.os:=os
 exact⟨v,H',I.call (h':=hh) (g':=g) (d':=d) (t':=t) (ch:=[]) un hok bare (fun b z=>absurd z (by simp)),r,q⟩
end
noncomputable def bF6(sp:Sp) (dvs:List V) (E:XK) (t:TA):TE:=fun σ H Q=>t σ H fun vs H1=>sp (vs++dvs) H1 Q E
noncomputable def bF5(C:Addr) (m:Str) (sp:Sp) (dvs:List V) (E:XK) (ta:TE) (t:TA):TE:=fun σ H Q=>ta σ H fun x H1=>∃a dx fs,x=.ref a/\H1 a=some (.ins C dx fs)/\fs.lookup m=none /\
 t σ H1 fun vs H2=>sp (x::(vs++dvs)) H2 Q E
noncomputable def ce6(C:Addr) (sp:Sp) (dvs:List V) (E:XK) (t:TA):TE:=fun σ H Q=>t σ H fun vs H1=>∀x dx,H1 x=none->H1 dx=none->dx≠x ->
 sp (.ref x::(vs++dvs)) (upd (upd H1 dx (.own x)) x (.ins C dx [])) (fun v H2=>v=.non/\Q (.ref x) H2) E
noncomputable def F9(K:PySem.W.Frag) (fd:FuncData) (ps:List Str) (ds:List Value):Prop :=
 ∀(s:Shared) (us:List Value),K.In s.heap->(us++ds).length=ps.length->BindsTo s fd ⟨us,[]⟩ (ps.zip (us++ds))
theorem F9.all{K:PySem.W.Frag}{fd:FuncData}{ps:List Str}(h:∀us:List Value,us.length=ps.length->bindArgs fd ⟨us,[]⟩=pure (ps.zip us)):F9 K fd ps []:=fun s us _ hl=>by
 rw[List.append_nil]at hl ⊢
 exact .of_eq (h us hl)
noncomputable def Z5(CX:CXT) (X:Cx) (E:XK):Prop:=∀(pins:List (Addr×Obj)) (σ:St) (H:Hp) (s:Shared) (e:Value) (s':Shared),Inv X pins σ H s->CX X.stack H s E e s'->X.xe e s'
section
variable {X:Cx}{CX:CXT}{k:Nat}{f C:Addr}{fd:FuncData}{ps:List Str}{sp:Sp}{dvs:List V}{ds:List Value}{E:XK}{x m:Str}{p pos apos:Pos}{e o:Expr}{es:List Expr}{ta:TE}{t:TA}
theorem av1(F:FnOk X.prog X.w X.K X.mg X.base CX k f fd ps sp) (hr:Room k X.A) (hb:F9 X.K fd ps ds) (hd:C8 dvs ds) (hx:Z5 CX X E)
  (I:Inv X pins σ H s) (r:C8 vs us) (h:sp (vs++dvs) H Q E):wpAny (model X.prog X.w) X.A (call (.ref f) us) (EP X pins σ Q) X.xe s:=by
 have r2:C8 (vs++dvs) (us++ds):=r.append hd
 have hl:(us++ds).length=ps.length:=by rw[← r2.length];exact F.len _ _ _ _ h
 refine wpAny_call (codeAny_mono (F.run X.A X.stack s H ⟨us,[]⟩ (us++ds) (vs++dvs) Q E hr I.env0 (hb s us I.kIn hl) r2 h) fun r s' hq=>?_)
 cases r with
 | error e=>exact hx pins σ H s e s' I hq
 | ok fl =>
  cases fl with
  | ret u=>exact I.after hq
  | next=>exact False.elim hq
  | brk=>exact False.elim hq
  | cont=>exact False.elim hq
theorem av8(F:FnOk X.prog X.w X.K X.mg X.base CX k f fd ps sp) (hr:Room k X.A) (hg:Gl X x) (hm:X.mg x=some (.ref f)) (hk:PySem.W.keepIn X.K (.ref f)=true) (hb:F9 X.K fd ps ds) (hd:C8 dvs ds) (hx:Z5 CX X E)
  (ha:PA X (e::es) t) (hdb:(x==("__debug__" : Str))=false:=by decide) (he:starEach (e::es) X.env=(false,eval e X.env)::starEach es X.env:=by rfl) (hpl:(backTo pos (starEach es X.env)).any (·.1)=false:=by rfl) :
  PE X (.Call (.Name x p) (e::es) [] pos) (bF6 sp dvs E t):=by
 intro pins s σ H Q I h
 refine wpAny_Call_Name_kw (aj2 I hg hm ?_ hdb)
 refine PySem.W.callWith_K (h₀:=X.base) I.ok.mod.kin hk (thn (ha pos pins s σ H _ I h) fun us s1 ⟨vs,H1,I1,r,q⟩=>⟨I1.kIn,?_⟩) he hpl
 exact av1 F hr hb hd hx I1 r q
theorem bg7(F:FnOk X.prog X.w X.K X.mg X.base CX k f fd ps sp) (hr:Room k X.A) (hg:Gl X x) (hm:X.mg x=some (.ref f)) (hk:PySem.W.keepIn X.K (.ref f)=true) (hb:F9 X.K fd ps ds) (hd:C8 dvs ds) (hx:Z5 CX X E)
  (hdb:(x==("__debug__" : Str))=false:=by decide):PE X (.Call (.Name x p) [] [] pos) (bF6 sp dvs E bM7):=by
 intro pins s σ H Q I h
 refine wpAny_Call_Name_kw (aj2 I hg hm ?_ hdb)
 exact PySem.W.callWith_K0 I.kIn hk (av1 (us:=[]) F hr hb hd hx I .nil h)
theorem bv8(he:PE X o ta) (c:Cls X.K C) (hm:Meth X.K C m f) (F:FnOk X.prog X.w X.K X.mg X.base CX k f fd ps sp) (hr:Room k X.A) (hb:F9 X.K fd ps ds) (hd:C8 dvs ds) (hx:Z5 CX X E) (ha:PA X (e::es) t)
  (hst:starEach (e::es) X.env=(false,eval e X.env)::starEach es X.env:=by rfl) (hpl:(backTo pos (starEach es X.env)).any (·.1)=false:=by rfl)
  (ht:eval (.Call (.Attribute o m apos) (e::es) [] pos) X.env=(do
   let ov ← eval o X.env
   standAt apos.atName
   let(f,first) ← holding [ov] (getMethod ov m pl)
   callWith pos f first (backTo pos (starEach (e::es) X.env)) (backToKw pos (keywordEach [] X.env))):=by rfl) :
  PE X (.Call (.Attribute o m apos) (e::es) [] pos) (bF5 C m sp dvs E ta t):=by
 intro pins s σ H Q I h
 refine PySem.W.methodCall_KW (pl:=pl) (thn (he pins s σ H _ I h) fun u s1 ⟨x,H1,I1,rx,a,dx,fs,ex,ea,l,q⟩=>?_) ht
 subst ex
 obtain rfl:u=Value.ref a:=rx
 refine u7 I1 ea c hm l ?_
 refine PySem.W.callWith_K (first:=[.ref a]) (h₀:=X.base) I.ok.mod.kin hm.kp (thn (ha pos pins s1 σ H1 _ I1 q) fun us s2 ⟨vs,H2,I2,r,q2⟩=>⟨I2.kIn,?_⟩) hst hpl
 exact av1 (us:=.ref a::us) (vs:=.ref a::vs) F hr hb hd hx I2 (.cons rfl r) q2
theorem bg5(he:PE X o ta) (c:Cls X.K C) (hm:Meth X.K C m f) (F:FnOk X.prog X.w X.K X.mg X.base CX k f fd ps sp) (hr:Room k X.A) (hb:F9 X.K fd ps ds) (hd:C8 dvs ds) (hx:Z5 CX X E)
  (ht:eval (.Call (.Attribute o m apos) [] [] pos) X.env=(do
   let ov ← eval o X.env
   standAt apos.atName
   let(f,first) ← holding [ov] (getMethod ov m pl)
   callWith pos f first (backTo pos (starEach [] X.env)) (backToKw pos (keywordEach [] X.env))):=by rfl) :
  PE X (.Call (.Attribute o m apos) [] [] pos) (bF5 C m sp dvs E ta bM7):=by
 intro pins s σ H Q I h
 refine PySem.W.methodCall_KW (pl:=pl) (thn (he pins s σ H _ I h) fun u s1 ⟨x,H1,I1,rx,a,dx,fs,ex,ea,l,q⟩=>?_) ht
 subst ex
 obtain rfl:u=Value.ref a:=rx
 refine u7 I1 ea c hm l ?_
 exact PySem.W.callWith_K0 (first:=[.ref a]) I1.kIn hm.kp (av1 (us:=[.ref a]) (vs:=[.ref a]) F hr hb hd hx I1 (.cons rfl .nil) q)
structure Mk (K:PySem.W.Frag) (C f:Addr):Prop where
 makes:PySem.W.makesIn K C=true
 init:PySem.W.findIn K (.ref C) "__init__" = some (some (.ref f))
 fn:PySem.W.isFn K (.ref f)=true
 kp:PySem.W.keepIn K (.ref C)=true
theorem be2(M:Mk X.K C f) (F:FnOk X.prog X.w X.K X.mg X.base CX k f fd ps sp) (hr:Room (k+1) X.A) (hb:F9 X.K fd ps ds) (hd:C8 dvs ds)
  (hx:Z5 CX X E) (I:Inv X pins σ H s) (r:C8 vs us)
  (h:∀x dx,H x=none->H dx=none->dx≠x->sp (.ref x::(vs++dvs)) (upd (upd H dx (.own x)) x (.ins C dx [])) (fun v H2=>v=.non/\Q (.ref x) H2) E) :
  wpAny (model X.prog X.w) X.A (call (.ref C) us) (EP X pins σ Q) X.xe s:=by
 have hq:=h (s.heap.objs.size+1) s.heap.objs.size (I.hok.fresh (Nat.le_succ _)) (I.hok.fresh (Nat.le_refl _)) (Nat.ne_of_lt (Nat.lt_succ_self _))
 have I2:=Inv.made (C:=C) I
 have r2:C8 (V.ref (s.heap.objs.size+1)::(vs++dvs)) (Value.ref (s.heap.objs.size+1)::(us++ds)):=.cons rfl (r.append hd)
 have hl:(Value.ref (s.heap.objs.size+1)::us++ds).length=ps.length:=by
  have e:=r2.length
  rw[F.len _ _ _ _ hq]at e
  exact e.symm
 refine wpAny_call (bi9 (f:=f) I.kIn M.makes M.init (beq_iff_eq.mp M.fn) (codeAny_mono (F.run _ X.stack _ _ ⟨Value.ref (s.heap.objs.size+1)::us,[]⟩ (Value.ref (s.heap.objs.size+1)::(us++ds)) _ _ E (hr.make C us [])
  (I2.env0.make C us []) (hb _ (Value.ref (s.heap.objs.size+1)::us) I2.kIn hl) r2 hq) fun r s' hq'=>?_))
 cases r with
 | error e=>exact hx pins σ _ _ e s' I2 hq'
 | ok fl =>
  cases fl with
  | ret u =>
   obtain⟨v,H',I3,rv,ev,q3⟩:=I2.after hq'
   subst ev
   exact⟨rv,⟨V.ref (s.heap.objs.size+1),H',I3,rfl,q3⟩⟩
  | next=>exact False.elim hq'
  | brk=>exact False.elim hq'
  | cont=>exact False.elim hq'
theorem bv9(M:Mk X.K C f) (F:FnOk X.prog X.w X.K X.mg X.base CX k f fd ps sp) (hr:Room (k+1) X.A) (hg:Gl X x) (hm:X.mg x=some (.ref C)) (hb:F9 X.K fd ps ds) (hd:C8 dvs ds) (hx:Z5 CX X E)
  (ha:PA X (e::es) t) (hdb:(x==("__debug__" : Str))=false:=by decide) (he:starEach (e::es) X.env=(false,eval e X.env)::starEach es X.env:=by rfl) (hpl:(backTo pos (starEach es X.env)).any (·.1)=false:=by rfl) :
  PE X (.Call (.Name x p) (e::es) [] pos) (ce6 C sp dvs E t):=by
 intro pins s σ H Q I h
 refine wpAny_Call_Name_kw (aj2 I hg hm ?_ hdb)
 refine PySem.W.callWith_K (h₀:=X.base) I.ok.mod.kin M.kp (thn (ha pos pins s σ H _ I h) fun us s1 ⟨vs,H1,I1,r,q⟩=>⟨I1.kIn,?_⟩) he hpl
 exact be2 M F hr hb hd hx I1 r q
end
section
variable {X:Cx}{CX:CXT}{k:Nat}{f C:Addr}{fd:FuncData}{ps ks:List Str}{sp:Sp}{E:XK}{x m:Str}{p pos apos kpos:Pos}{e o:Expr}{es:List Expr}{kws:List Keyword}{te ta:TE}{t tk:TA}{nm:Option Str}
variable {g:List Value->List Value->List Value}{gV:List V->List V->List V}
end
structure FnScope (N P:List Str) (sc:Scope):Prop where
 kind:sc.kind=.function
 co:sc.isCoroutine=false
 gen:sc.isGenerator=false
 nd:N.Nodup
 pre:N.take P.length=P
 par:∀x∈P,sc.names.lookup x=some .local\/sc.names.lookup x=some .cell
 nofree:∀y∈sc.names,y.2≠.free
theorem as4{kindOf:Str->Option NameKind}{x:Str}:∀{binds:List (Str×Value)}{m:Str->Option Value},(∀v,(x,v)∉binds)->bindL kindOf binds m x=m x
 | [],_,_=>rfl
 | (n,v)::r,m,h=>by
  unfold bindL
  rw[as4 fun w hw=>h w (List.mem_cons_of_mem _ hw)]
  split
  ·have:x≠n:=by rintro rfl;exact h v List.mem_cons_self
   simp[this]
  ·rfl
theorem as6{kindOf:Str->Option NameKind}{x:Str}:∀{binds:List (Str×Value)}{m:Str->Option Value},(∀v,(x,v)∉binds)->bindC kindOf binds m x=m x
 | [],_,_=>rfl
 | (n,v)::r,m,h=>by
  unfold bindC
  rw[as6 fun w hw=>h w (List.mem_cons_of_mem _ hw)]
  split
  ·rfl
  ·have:x≠n:=by rintro rfl;exact h v List.mem_cons_self
   simp[this]
theorem as5{kindOf:Str->Option NameKind}{x:Str}{v:Value}:∀{P:List Str}{vs:List Value}{i:Nat}{m:Str->Option Value},P.Nodup->P[i]? = some x->vs[i]? = some v->kindOf x=some .local ->
  bindL kindOf (P.zip vs) m x=some v
 | [],_,_,_,_,h,_,_=>by simp at h
 | _::_,[],_,_,_,_,h,_=>by simp at h
 | p::P,w::vs,0,m,nd,h1,h2,hk=>by
  simp at h1 h2;subst h1;subst h2
  show bindL kindOf ((p,w)::P.zip vs) m p=_
  unfold bindL
  rw[as4 fun v hv=>(List.nodup_cons.mp nd).1 (List.of_mem_zip hv).1,if_pos hk]
  simp
 | p::P,w::vs,i+1,m,nd,h1,h2,hk=>by
  show bindL kindOf ((p,w)::P.zip vs) m x=_
  unfold bindL
  exact as5 (i:=i) (List.nodup_cons.mp nd).2 (by simpa using h1) (by simpa using h2) hk
theorem as7{kindOf:Str->Option NameKind}{x:Str}{v:Value}:∀{P:List Str}{vs:List Value}{i:Nat}{m:Str->Option Value},P.Nodup->P[i]? = some x->vs[i]? = some v->kindOf x≠some .local ->
  bindC kindOf (P.zip vs) m x=some v
 | [],_,_,_,_,h,_,_=>by simp at h
 | _::_,[],_,_,_,_,h,_=>by simp at h
 | p::P,w::vs,0,m,nd,h1,h2,hk=>by
  simp at h1 h2;subst h1;subst h2
  show bindC kindOf ((p,w)::P.zip vs) m p=_
  unfold bindC
  rw[as6 fun v hv=>(List.nodup_cons.mp nd).1 (List.of_mem_zip hv).1,if_neg hk]
  simp
 | p::P,w::vs,i+1,m,nd,h1,h2,hk=>by
  show bindC kindOf ((p,w)::P.zip vs) m x=_
  unfold bindC
  exact as7 (i:=i) (List.nodup_cons.mp nd).2 (by simpa using h1) (by simpa using h2) hk
noncomputable def start(N:List Str) (vs:List V):St:=vs.map some++List.replicate (N.length - vs.length) none
noncomputable def am7(CX:CXT) (P:Program) (w:World) (K:PySem.W.Frag) (mg:Str->Option Value) (base:Heap) (N:List Str) (qual:Str) (scope:Scope) (f:Addr) (cd:Value) (A:Around) (outer:List Env) (s:Shared) (H:Hp) (E:XK):Cx where
 prog:=P
 w:=w
 K:=K
 mg:=mg
 base:=base
 A:=A.deeper (envOfC qual scope s.heap.objs.size f cd)
 N:=N
 s₀:=s
 H₀:=H
 env:=envOfC qual scope s.heap.objs.size f cd
 outer:=outer
 stack:=envOfC qual scope s.heap.objs.size f cd::outer
 ex:=[]
 calm:=true
 fn:=fun _=>true
 pn:=[]
 xe:=fun e s'=>wpAny (model P w) (A.deeper (envOfC qual scope s.heap.objs.size f cd)) (leaving (envOfC qual scope s.heap.objs.size f cd) e) (fun _ s''=>CX outer H s E e s'') (fun e' s''=>CX outer H s E e' s'') s'
theorem aF1{sc:Scope}{n:Nat}{x:Str}(h:sc.names.lookup x=some .cell):∃c,(cellsFrom n sc.names []).lookup x=some c:=by
 have q:=PySem.W.cellsFrom_some sc.names n [] (.inl h)
 exact Option.isSome_iff_exists.mp q
theorem aW6{CX:CXT}{P:Program}{w:World}{K:PySem.W.Frag}{mg:Str->Option Value}{base:Heap}{N ps:List Str}{qual:Str}{scope:Scope}{f:Addr}{cd:Value}{A:Around}{outer:List Env}{s s1:Shared}{H:Hp}{E:XK}{us:List Value}{vs:List V}
  (S:FnScope N ps scope) (hd:A.handled=none) (e0:Env0 P w K mg base A outer s H) (hl:vs.length=ps.length) (r:C8 vs us)
  (x:InCallC s s.heap.objs.size (bindL (envOfC qual scope s.heap.objs.size f cd).kindOf (ps.zip us) fun _=>none) (cellsFrom (s.heap.objs.size+1) scope.names []) (bindC (envOfC qual scope s.heap.objs.size f cd).kindOf (ps.zip us) fun _=>none) s1) :
  Inv (am7 CX P w K mg base N qual scope f cd A outer s H E) [] (start N vs) H s1:=by
 have hpl:ps.length<=N.length:=by have:=congrArg List.length S.pre;rw[List.length_take]at this;omega
 obtain⟨h1,tk,rfl,hk⟩:=x.done
 have noA:∀b:Addr,b∉(am7 CX P w K mg base N qual scope f cd A outer s H E).ex:=fun b z=>absurd (show b∈([]:List Addr) from z) (by simp)
 refine⟨⟨e0.mod,S.kind,rfl,rfl,Nat.le_refl _,fun y z c h1 h2=>?_,fun y hy=>?_,fun y c _ h=>?_,fun _=>hd,Around.frames_deeper e0.frames,.inr ⟨rfl,rfl⟩,fun b z=>absurd z (noA b),e0.bs,e0.bsz,fun b _ _=>noA b,fun b z=>absurd z (noA b),e0.funs,e0.frf⟩,
  rfl,e0.bare,Un.kept hk,⟨_,x.toInCall.ns,fun i y v h1 h2 h3=>?_⟩,fun y c h=>⟨_,x.cell y c h⟩,e0.hok.fresh (Nat.le_refl _),fun y c h=>?_,fun p hp=>absurd (show p∈([]:List (Addr×Obj)) from hp) (by simp),e0.hok.kept hk,?_⟩
 ·exact name_of_addr x.apart (PySem.mem_of_lookup h1) (PySem.mem_of_lookup h2)
 ·have hy:scope.names.lookup y=some .cell\/scope.names.lookup y=some .free:=hy
  rcases hy with hy|hy
  ·exact aF1 hy
  ·exact absurd rfl (S.nofree _ (PySem.mem_of_lookup hy))
 ·exact Nat.le_of_lt (x.above y c (PySem.mem_of_lookup h))
 ·have hi:i < vs.length:=by
   unfold start at h2
   by_cases hi:i < vs.length
   ·exact hi
   ·rw[List.getElem?_append_right (by simpa using hi)]at h2
    rw[List.getElem?_replicate]at h2
    split at h2<;>cases h2
  have ha:vs[i]? = some v:=by
   unfold start at h2
   rw[List.getElem?_append_left (by simpa using hi),List.getElem?_map]at h2
   cases e:vs[i]? with
   | none=>rw[e]at h2;cases h2
   | some a=>rw[e]at h2;cases h2;rfl
  obtain⟨u,hu,rv⟩:=r.get ha
  have hp:ps[i]? = some y:=by
   rw[← S.pre,List.getElem?_take_of_lt (by omega)];exact h1
  have ndP:ps.Nodup:=by rw[← S.pre];exact S.nd.sublist (List.take_sublist _ _)
  refine⟨u,rv,?_⟩
  rcases S.par y (List.mem_of_getElem? hp) with k|k
  ·exact .inl ⟨k,as5 ndP hp hu k⟩
  ·obtain⟨c,e⟩:=aF1 (n:=s.heap.objs.size+1) k
   refine .inr ⟨.inl k,c,e,?_⟩
   have q:=x.cell y c e
   rw[as7 ndP hp hu (by show scope.names.lookup y≠_;rw[k];decide)]at q
   exact q
 ·exact e0.hok.fresh (Nat.le_of_lt (x.above y c (PySem.mem_of_lookup h)))
 ·unfold start
  show _=N.length
  rw[List.length_append,List.length_map,List.length_replicate]
  omega
theorem aD2{CX:CXT}{P:Program}{w:World}{K:PySem.W.Frag}{mg:Str->Option Value}{base:Heap}{k:Nat}{f:Addr}{name qual:Str}{params:Arguments}{body:List Stmt}{scope:Scope}{dV kV doc pm cdv ct oc:Value}{an od:Option Addr}
  {osl:Array (Option Value)}{N ps:List Str}{sp:Sp}(lk:K.lookup f=some ⟨oc,od,.func (PySem.W.fnOf name qual params body scope dV kV doc pm an cdv ct),osl⟩) (hcd:PySem.W.codeIn K cdv qual=true) (S:FnScope N ps scope)
  (len:∀vs H Q E,sp vs H Q E->vs.length=ps.length)
  (hbody:∀(A:Around) (outer:List Env) (s:Shared) (H:Hp) (vs:List V) (Q:VK) (E:XK),Room k (A.deeper (envOfC qual scope s.heap.objs.size f cdv))->sp vs H Q E ->
   ∃t,PSs (am7 CX P w K mg base N qual scope f cdv A outer s H E) body t/\t { nx:=fun _ H'=>Q .non H',rt:=Q } (start N vs) H) :
  FnOk P w K mg base CX (k+1) f (PySem.W.fnOf name qual params body scope dV kV doc pm an cdv ct) ps sp:=by
 refine⟨len,fun A outer s H args us vs Q E hr e0 hb r hsp=>?_⟩
 have hl:=len _ _ _ _ hsp
 have KX:K.In s.heap:=e0.mod.kin.keeps fun b o e=>(e0.bs b o e).1
 have lim:s.heap.NoLimit:=e0.mod.nolimit.keeps fun b o e=>(e0.bs b o e).1
 have hkind:∀y∈ps.zip us,scope.names.lookup y.1=some .local\/(scope.names.lookup y.1=some .cell/\((cellsFrom (s.heap.objs.size+1) scope.names []).lookup y.1).isSome=true):=fun⟨n,v⟩ hy=>by
  rcases S.par n (List.of_mem_zip hy).1 with q|q
  ·exact .inl q
  ·exact .inr ⟨q,PySem.W.cellsFrom_some _ _ _ (.inl q)⟩
 refine codeAny_call_function hr.depth (KX _ _ lk) rfl S.co S.gen rfl (PySem.W.codeRec_of KX hcd) (hb _ _ _ _ ?_)
 refine wpAny_newFunctionEnv_cells S.kind hkind fun env he s1 x=>?_
 subst he
 refine⟨lim.keeps x.toInCall.keep,codeAny_func ?_⟩
 obtain⟨t,ht,hq⟩:=hbody A outer s H vs Q E (hr.deeper _) hsp
 have I:Inv (am7 CX P w K mg base N qual scope f cdv A outer s H E) [] (start N vs) H s1:=aW6 S hr.hd e0 hl r x
 refine wpAny_mono (ht [] s1 (start N vs) H _ I hq) (fun fl s' hs=>?_) fun e s' hs=>hs
 have fin:∀{σ':St}{H':Hp}{v:V}{u:Value},Inv (am7 CX P w K mg base N qual scope f cdv A outer s H E) [] σ' H' s'->E4 v u->Q v H'->CE outer P w H s Q u s' :=
  fun{σ' H' v u} J rv q=>⟨v,H',J.os,J.bare,J.base,J.hok,rv,q⟩
 cases fl with
 | ret u =>
  obtain⟨v,σ',H',J,rv,q⟩:=hs
  exact fin J rv q
 | next =>
  obtain⟨σ',H',J,q⟩:=hs
  exact fin (v:=V.non) (u:=Value.none) J rfl q
 | brk =>
  obtain⟨_,_,_,q⟩:=hs
  exact False.elim q
 | cont =>
  obtain⟨_,_,_,q⟩:=hs
  exact False.elim q
end L2
namespace L2
open PySem PySem.Spec PyProof.Rows
section
variable {X:Cx}{x:Str}{p pos:Pos}{e:Expr}{es:List Expr}{t:TA}{id T:String}{r:List V->Hp->VK->Prop}
noncomputable def tCB(r:List V->Hp->VK->Prop) (t:TA):TE:=fun σ H Q=>t σ H fun vs H1=>r vs H1 Q
theorem P5(hc:T3 X (.builtin id) r) (hg:Gl X x) (hm:X.mg x=none) (hv:bootBuiltins x=some (.builtin id)) (ha:PA X (e::es) t) (hn:x ≠ "__name__" := by decide) (hdb:(x==("__debug__" : Str))=false:=by decide)
  (he:starEach (e::es) X.env=(false,eval e X.env)::starEach es X.env:=by rfl) (hpl:(backTo pos (starEach es X.env)).any (·.1)=false:=by rfl):PE X (.Call (.Name x p) (e::es) [] pos) (tCB r t):=by
 intro pins s σ H Q I h
 refine wpAny_Call_Name_kw (al5 I hg hm hv ?_ hn hdb)
 exact PyProof.Rows.callWith_builtin1 (thn (ha pos pins s σ H _ I h) fun us s1 ⟨vs,H1,I1,r1,q1⟩=>hc pins s1 σ H1 vs us Q I1 r1 q1) he hpl
theorem M2(hc:T3 X (.type T) r) (hg:Gl X x) (hm:X.mg x=none) (hv:bootBuiltins x=some (.type T)) (ha:PA X (e::es) t) (hn:x ≠ "__name__" := by decide) (hdb:(x==("__debug__" : Str))=false:=by decide)
  (he:starEach (e::es) X.env=(false,eval e X.env)::starEach es X.env:=by rfl) (hpl:(backTo pos (starEach es X.env)).any (·.1)=false:=by rfl):PE X (.Call (.Name x p) (e::es) [] pos) (tCB r t):=by
 intro pins s σ H Q I h
 refine wpAny_Call_Name_kw (al5 I hg hm hv ?_ hn hdb)
 exact PyProof.Rows.callWith_type1 (thn (ha pos pins s σ H _ I h) fun us s1 ⟨vs,H1,I1,r1,q1⟩=>hc pins s1 σ H1 vs us Q I1 r1 q1) he hpl
end
end L2
namespace HT
open PySem PyProof.Rows
section
open PySem.SeqAt
open PySem.AutoSeq1 (wpAny_loadPart')
open PySem.MeetsSeq PySem.MeetsSeq2 PySem.MeetsSeq3
end
section
variable {prog:Program}{w:World}{A:Around}{E:Value->Shared->Prop}{s:Shared}
theorem cat_tup(ht:IsTup s.heap t vs.toArray) (hb:IsTup s.heap b ws.toArray) (hv:vs≠[])
  (h1:ws=[]->Q (.ref t) s) (h2:ws≠[]->Q (.ref s.heap.objs.size) { s with heap:=s.heap.push { cls:=.type "tuple", data:=.seq (vs++ws).toArray } })
  (hsz:vs.length+ws.length<=sizeLine):wpAny (model prog w) A (binaryOp .Add (.ref t) (.ref b)) Q E s:=by
 obtain⟨⟨cls,dd,data,sl⟩,ho,hc,n,hd⟩:=id ht
 obtain⟨⟨cls2,dd2,data2,sl2⟩,ho2,hc2,n2,hd2⟩:=id hb
 simp only at hc hd hc2 hd2
 subst hc hd hc2 hd2
 have e:vs.toArray++ws.toArray=(vs++ws).toArray:=by simp
 by_cases hw:ws=[]
 ·exact concat_meets ⟨_,ho,rfl⟩ ⟨_,ho2,rfl⟩ noFill_tuple_add seq_tuple_add PySem.F.slot_tuple_add PySem.F.entry_tuple_add (PySem.F.args_tuple_add_2 _ _)
   (tuple_addW1 t b vs.toArray ws.toArray n n2 dd dd2 sl sl2 (by simpa using hv) (by simp[hw])) ⟨ho,ho2,h1 hw⟩
 ·refine concat_meets ⟨_,ho,rfl⟩ ⟨_,ho2,rfl⟩ noFill_tuple_add seq_tuple_add PySem.F.slot_tuple_add PySem.F.entry_tuple_add (PySem.F.args_tuple_add_2 _ _)
   (tuple_addW2 t b vs.toArray ws.toArray n n2 dd dd2 sl sl2 (by simpa using hv) (by simpa using hw) (by rw[List.size_toArray,List.size_toArray];exact hsz)) ⟨ho,ho2,?_⟩
  rw[e]
  exact h2 hw
noncomputable def sIx(n d:Nat):Option Int->Nat
 | none=>d
 | some v=>if v < 0 then(v+(n:Int)).toNat else min v.toNat n
theorem sIx_nat(n d k:Nat):sIx n d (some (k:Int))=min k n:=by
 show(if(k:Int) < 0 then((k:Int)+(n:Int)).toNat else min (k:Int).toNat n)=min k n
 rw[if_neg (by omega),Int.toNat_natCast]
theorem bN4(n d:Nat) (hd:d<=n) (o:Option Int):sIx n d o<=n:=by
 cases o with
 | none=>exact hd
 | some v =>
  show(if v < 0 then(v+(n:Int)).toNat else min v.toNat n)<=n
  by_cases hv:v < 0
  ·rw[if_pos hv];omega
  ·rw[if_neg hv];exact Nat.min_le_right _ _
theorem aS6(v:Int) (n d:Nat):(if v < 0 then max (v+(n:Int)) 0 else min v (n:Int))=((sIx n d (some v):Nat):Int):=by
 show(if v < 0 then max (v+(n:Int)) 0 else min v (n:Int))=(((if v < 0 then(v+(n:Int)).toNat else min v.toNat n):Nat):Int)
 by_cases hv:v < 0
 ·simp only[if_pos hv];omega
 ·simp only[if_neg hv];omega
theorem aL5(lo hi:Option Int) (n:Nat):Builtin.Slice.sliceAdjust lo hi 1 (n:Int)=(((sIx n 0 lo:Nat):Int),((sIx n n hi:Nat):Int)):=by
 have h1:¬((1:Int) < 0):=by omega
 unfold Builtin.Slice.sliceAdjust
 simp only[h1,if_false]
 refine Prod.ext ?_ ?_
 ·cases lo with
  | none=>rfl
  | some v=>exact aS6 v n 0
 ·cases hi with
  | none=>rfl
  | some v=>exact aS6 v n n
theorem aH7(i j:Nat):Builtin.Slice.slicePlaces (i:Int) (j:Int) 1=j - i:=by
 unfold Builtin.Slice.slicePlaces
 have h1:(1:Int) > 0:=by omega
 simp only[h1,if_true,Int.ediv_one]
 split<;>omega
theorem ak4(p:IsPart v o) (h:Q o s):wpAny (model prog w) A (Builtin.Slice.slicePartIndex v) Q E s:=by
 cases p with
 | none=>exact slicePart_none h
 | int i t=>exact slicePart_int h
theorem sliceApplied_gen{sl:Addr}{vl vu:Value}{lo hi:Option Int}{n:Nat}{Q:Int×Int×Nat->Shared->Prop}(hs:s.heap.IsSliceOf sl vl vu .none) (pl:IsPart vl lo) (pu:IsPart vu hi)
  (h:Q (((sIx n 0 lo:Nat):Int),1,sIx n n hi - sIx n 0 lo) s):wpAny (model prog w) A (Builtin.Slice.sliceApplied (.ref sl) (pure (n:Int))) Q E s:=by
 obtain⟨os,hos,hcs,hds⟩:=id hs
 unfold Builtin.Slice.sliceApplied Builtin.Slice.sliceFields
 refine wpAny_bind (wpAny_bind (wpAny_field hos hds (x:=vl) rfl (wpAny_bind (wpAny_field hos hds (x:=vu) rfl (wpAny_bind (wpAny_field hos hds (x:=.none) rfl (wpAny_pure ?_)))))))
 refine wpAny_bind (slicePart_none ?_)
 show wpAny _ _ (if((1:Int)==0)=true then _ else _) _ _ s
 rw[if_neg (by decide)]
 refine wpAny_bind (ak4 pl (wpAny_bind (ak4 pu (wpAny_bind (wpAny_pure ?_)))))
 show wpAny _ _ (match Builtin.Slice.sliceAdjust lo hi 1 (n:Int) with|(lo,hi)=>pure (lo,(1:Int),Builtin.Slice.slicePlaces lo hi 1)) _ _ s
 rw[aL5 lo hi n]
 show wpAny _ _ (pure (((sIx n 0 lo:Nat):Int),(1:Int),Builtin.Slice.slicePlaces ((sIx n 0 lo:Nat):Int) ((sIx n n hi:Nat):Int) 1)) _ _ s
 rw[aH7]
 exact wpAny_pure h
theorem bg0(xs:Array Value) (i k:Nat):((List.range k).filterMap fun(m:Nat)=>xs[((i:Int)+(m:Int)*1).toNat]?).toArray=((xs.toList.drop i).take k).toArray:=by
 have e:(fun(m:Nat)=>xs[((i:Int)+(m:Int)*1).toNat]?)=fun m=>xs[i+m]?:=by
  funext m
  have:((i:Int)+(m:Int)*1).toNat=i+m:=by omega
  rw[this]
 rw[e]
 have:=pick_run xs i k
 rw[List.filterMap_map]at this
 have e2:((fun x=>xs[x]?) ∘ fun x=>i+x)=fun m=>xs[i+m]?:=rfl
 rw[e2]at this
 rw[this]
theorem getItem_tuple_cut{t sl:Addr}{items:Array Value}{vl vu:Value}{lo hi:Option Int}{Q:Value->Shared->Prop}(ht:IsTup s.heap t items) (hs:s.heap.IsSliceOf sl vl vu .none) (pl:IsPart vl lo) (pu:IsPart vu hi)
  (hw:¬(sIx items.size 0 lo=0/\sIx items.size items.size hi=items.size))
  (h:Q (.ref s.heap.objs.size) { s with heap:=s.heap.push { cls:=.type "tuple", data:=.seq ((items.toList.drop (sIx items.size 0 lo)).take (sIx items.size items.size hi - sIx items.size 0 lo)).toArray } })
  (hsz:items.size<=sizeLine):wpAny (model prog w) A (getItem (.ref t) (.ref sl)) Q E s:=by
 have htake:sizeOk (.seq ((items.toList.drop (sIx items.size 0 lo)).take (sIx items.size items.size hi - sIx items.size 0 lo)).toArray):=by
  show((items.toList.drop (sIx items.size 0 lo)).take (sIx items.size items.size hi - sIx items.size 0 lo)).toArray.size<=sizeLine
  rw[List.size_toArray,List.length_take,List.length_drop,Array.length_toList]
  omega
 have hj:sIx items.size items.size hi<=items.size:=bN4 _ _ (Nat.le_refl _) hi
 obtain⟨os,hos,hcs,hds⟩:=id hs
 have hTs:s.TypeIs (.ref sl) "slice" := ⟨os,hos,hcs⟩
 unfold getItem
 try with_reducible refine wpAny_holding ?_
 first|refine wpAny_bind (wpAny_pure ?_)|skip
 refine wpAny_bind (wpAny_sequenceKey ht.typeIs (by decide) ?_)
 refine wpAny_bind (wpAny_callSpecial?_slot (name:=Str.ofString "__getitem__") ht.typeIs PyProof.Rows.slot_tuple_getitem
  (wpAny_call_entry PyProof.Rows.slot_tuple_getitem ht.typeIs entry_tuple_getitem ?_ (args_tuple_getitem _ _)))
 show wpAny _ _ (Builtin.Tuple.tupleItemsOf (.ref t) >>= _) _ _ s
 refine wpAny_bind (tupleItemsOf_ ht ?_)
 refine wpAny_bind (wpAny_typeOf hTs ?_)
 rw[if_pos (by decide)]
 refine wpAny_bind (sliceApplied_gen hs pl pu ?_)
 have hno:¬((((sIx items.size 0 lo:Nat):Int)==0&&(1:Int)==1&&(sIx items.size items.size hi - sIx items.size 0 lo)==items.size)=true):=by
  intro q
  rw[Bool.and_eq_true,Bool.and_eq_true]at q
  have q1:((sIx items.size 0 lo:Nat):Int)=0:=eq_of_beq q.1.1
  have q2:sIx items.size items.size hi - sIx items.size 0 lo=items.size:=eq_of_beq q.2
  exact hw ⟨by omega,by omega⟩
 show wpAny _ _ (if(((sIx items.size 0 lo:Nat):Int)==0&&(1:Int)==1&&(sIx items.size items.size hi - sIx items.size 0 lo)==items.size)=true then _ else _) _ _ s
 rw[if_neg hno,bg0]
 first
  | exact wpAny_bind (m:=Builtin.Tuple.tupleExact _) (wpAny_newObj_type (wpAny_pure ⟨_,rfl,wpAny_pure h⟩) htake)
  | exact wpAny_bind (m:=Builtin.Tuple.tupleExact _) (wpAny_newObj_type (wpAny_bind (wpAny_pure (wpAny_pure ⟨_,rfl,wpAny_pure h⟩))) htake)
  | exact wpAny_bind (wpAny_bind (m:=Builtin.Tuple.tupleExact _) (wpAny_newObj_type (wpAny_pure (wpAny_pure ⟨_,rfl,wpAny_pure h⟩)) htake))
  | exact wpAny_bind (wpAny_bind (m:=Builtin.Tuple.tupleExact _) (wpAny_newObj_type (wpAny_pure ⟨_,rfl,wpAny_pure h⟩) htake))
end
end HT
namespace L2
open PySem PySem.Spec PyProof.Rows
noncomputable abbrev TO:=St->Hp->(Option Int->Hp->Prop)->Prop
noncomputable def PO(X:Cx) (e:Option Expr) (t:TO):Prop :=
 ∀(pins:List (Addr×Obj)) (s:Shared) (σ:St) (H:Hp) (Q:Option Int->Hp->Prop),Inv X pins σ H s->t σ H Q ->
  wpAny (model X.prog X.w) X.A (evalPart e X.env) (fun u s'=>∃o H',Inv X pins σ H' s'/\IsPart u o/\Q o H') X.xe s
noncomputable def bt3:TO:=fun _ H Q=>Q none H
noncomputable def ce4(t:TE):TO:=fun σ H Q=>t σ H fun x H1=>∃i,x=.int i/\Q (some i) H1
section
variable {X:Cx}{e:Expr}{te:TE}{lo hi:Option Expr}{tl th:TO}{pos p2:Pos}
theorem bv4:PO X none bt3:=by
 intro pins s σ H Q I h
 rw[evalPart_none]
 exact wpAny_pure ⟨none,H,I,.none,h⟩
theorem bv3(h:PE X e te):PO X (some e) (ce4 te):=by
 intro pins s σ H Q I hw
 rw[evalPart_some]
 refine thn (h pins s σ H _ I hw) fun u s1 ⟨x,H1,I1,r1,q1⟩=>?_
 obtain⟨i,rfl,q⟩:=q1
 obtain⟨t,rfl⟩:=r1
 exact⟨some i,H1,I1,.int i t,q⟩
noncomputable def SlR(X:Cx) (r:V->Option Int->Option Int->Hp->VK->Prop):Prop :=
 ∀(pins:List (Addr×Obj)) (s:Shared) (σ:St) (H:Hp) (x:V) (v vl vu:Value) (lo hi:Option Int) (sl:Addr) (Q:VK),Inv X pins σ H s->E4 x v->s.heap.IsSliceOf sl vl vu .none->IsPart vl lo->IsPart vu hi->r x lo hi H Q ->
  ∃T id,typeLookup (.type T) "__getitem__" = pure (some (.builtin id))/\s.TypeIs v T/\wpAny (model X.prog X.w) X.A (getItem v (.ref sl)) (EP X pins σ Q) X.xe s
theorem SlR.or(h:SlR X r) (h':SlR X r'):SlR X (fun x lo hi H Q=>r x lo hi H Q\/r' x lo hi H Q):=by
 intro pins s σ H x v vl vu lo hi sl Q I rx hs pl pu q
 rcases q with q|q
 ·exact h pins s σ H x v vl vu lo hi sl Q I rx hs pl pu q
 ·exact h' pins s σ H x v vl vu lo hi sl Q I rx hs pl pu q
noncomputable def tSl(r:V->Option Int->Option Int->Hp->VK->Prop) (te:TE) (tl th:TO):TE:=fun σ H Q=>te σ H fun x H1=>tl σ H1 fun l H2=>th σ H2 fun u H3=>r x l u H3 Q
theorem aa8(hr:SlR X r) (he:PE X e te) (hl:PO X lo tl) (hu:PO X hi th):PE X (.Subscript e (.Slice lo hi none p2) pos) (tSl r te tl th):=by
 intro pins s σ H Q I h
 refine Subscript_ (thn (he pins s σ H _ I h) fun v s1 ⟨x,H1,I1,r1,q1⟩=>?_)
 refine wpAny_Slice (thn (hl pins s1 σ H1 _ I1 q1) fun vl s2 ⟨l,H2,I2,pl,q2⟩=>thn (hu pins s2 σ H2 _ I2 q2) fun vu s3 ⟨u,H3,I3,pu,q3⟩=>?_)
 rw[evalPart_none]
 refine wpAny_pure ?_
 have I4:Inv X pins σ H3 { s3 with heap:=s3.heap.push { cls:=.type "slice", data:=.fields #[vl,vu,.none] } }:=I3.kept (t':=s3.toks) fun b ob q=>Heap.get?_push_of_some _ q
 obtain⟨T,id,hT,ht,hg⟩:=hr pins { s3 with heap:=s3.heap.push { cls:=.type "slice", data:=.fields #[vl,vu,.none] } } σ H3 x v vl vu l u s3.heap.objs.size Q I4 r1 (Heap.IsSliceOf.new ..) pl pu q3
 show wpAny (model X.prog X.w) X.A (subscriptTail e (.Slice lo hi none p2) v (.ref s3.heap.objs.size)) (EP X pins σ Q) X.xe { s3 with heap:=s3.heap.push { cls:=.type "slice", data:=.fields #[vl,vu,.none] } }
 exact tail_any (ops:=[.ref s3.heap.objs.size,v]) ht hT hg (by with_unfolding_all rfl)
noncomputable def aE7(xs:List V) (lo hi:Option Int):List V:=(xs.drop (HT.sIx xs.length 0 lo)).take (HT.sIx xs.length xs.length hi - HT.sIx xs.length 0 lo)
theorem ag7(xs:List V) (lo hi:Option Int):(aE7 xs lo hi).length<=xs.length:=by
 unfold aE7
 rw[List.length_take,List.length_drop]
 omega
noncomputable def cp2(K:PySem.W.Frag):V->Option Int->Option Int->Hp->VK->Prop:=fun x lo hi H Q=>∃a xs,x=.ref a/\SqT K H a xs /\
 ¬(HT.sIx xs.length 0 lo=0/\HT.sIx xs.length xs.length hi=xs.length)/\∀p,H p=none->Q (.ref p) (upd H p (.tup (aE7 xs lo hi)))
theorem bN3:SlR X (cp2 X.K):=by
 intro pins s σ H x v vl vu lo hi sl Q I rx hs pl pu h
 obtain⟨a,xs,rfl,hx,hw,q⟩:=h
 cases rx
 obtain⟨its,r,ht,hz⟩:=I.tuple hx
 have hlen:its.toArray.size=xs.length:=by rw[List.size_toArray];exact r.length.symm
 refine⟨"tuple", _,PyProof.Rows.slot_tuple_getitem.lookup,ht.typeIs,?_⟩
 refine HT.getItem_tuple_cut ht hs pl pu (by rw[hlen];exact hw) ?_ (by rw[hlen];exact hz)
 rw[hlen]
 refine⟨.ref s.heap.objs.size,_,I.laid (t':=s.toks) (o:=.tup (aE7 xs lo hi)) (fun b ob q=>Heap.get?_push_of_some _ q) (Nat.le_refl _) ?_,rfl,q _ (I.hok.fresh (Nat.le_refl _))⟩
 exact⟨Nat.le_trans (ag7 xs lo hi) hz,_,(r.drop (HT.sIx xs.length 0 lo)).take (HT.sIx xs.length xs.length hi - HT.sIx xs.length 0 lo),ap4.new _ _⟩
noncomputable def cg5(K:PySem.W.Frag):R2:=fun x y H Q=>∃a b xs ys,x=.ref a/\y=.ref b/\SqT K H a xs/\SqT K H b ys/\xs≠[]/\xs.length+ys.length<=sizeLine /\
 (ys=[]->Q (.ref a) H)/\(ys≠[]->∀p,H p=none->Q (.ref p) (upd H p (.tup (xs++ys))))
theorem C8.nil_iff(r:C8 xs us):us=[]↔xs=[]:=by
 cases r with
 | nil=>simp
 | cons _ _=>simp
theorem bw8:OpR X (binaryOp .Add) (cg5 X.K):=by
 intro pins s σ H x y v u Q I rx ry h
 obtain⟨a,b,xs,ys,rfl,rfl,ha,hb,hx,hz,q1,q2⟩:=h
 cases rx
 cases ry
 obtain⟨its,r1,p1,_⟩:=I.tuple ha
 obtain⟨its2,r2,p2,_⟩:=I.tuple hb
 refine HT.cat_tup p1 p2 (fun z=>hx (r1.nil_iff.mp z)) (fun z=>⟨.ref a,H,I,rfl,q1 (r2.nil_iff.mp z)⟩) (fun z=>?_) (by rw[← r1.length,← r2.length];exact hz)
 refine⟨.ref s.heap.objs.size,_,I.laid (t':=s.toks) (o:=.tup (xs++ys)) (fun b ob q=>Heap.get?_push_of_some _ q) (Nat.le_refl _) ?_,rfl,q2 (fun w=>z (r2.nil_iff.mpr w)) _ (I.hok.fresh (Nat.le_refl _))⟩
 exact⟨by rw[List.length_append];exact hz,_,r1.append r2,ap4.new _ _⟩
end
end L2
namespace L2
open PySem PySem.Spec PyProof.Rows
noncomputable def ixN(n:Nat) (i:Int):Option Nat:=if 0<=i then(if i < n then some i.toNat else none) else if -(n:Int)<=i then some (i+n).toNat else none
noncomputable def atI{α:Type}(xs:List α) (i:Int):Option α:=(ixN xs.length i).bind fun j=>xs[j]?
theorem bB4(h:ixN n i=some j):seqIndex? i n=some j/\j < n/\-(n:Int)<=i/\i < n:=by
 unfold ixN at h
 by_cases h0:0<=i
 ·rw[if_pos h0]at h
  by_cases h1:i < n
  ·rw[if_pos h1]at h
   have e:i.toNat=j:=Option.some.inj h
   exact⟨by rw[seqIndex_of h0 h1,e],by omega,by omega,h1⟩
  ·rw[if_neg h1]at h;cases h
 ·rw[if_neg h0]at h
  by_cases h1:-(n:Int)<=i
  ·rw[if_pos h1]at h
   have e:(i+n).toNat=j:=Option.some.inj h
   exact⟨by rw[seqIndex_neg (by omega) h1,e],by omega,h1,by omega⟩
  ·rw[if_neg h1]at h;cases h
theorem az0{α:Type}{xs:List α}{i:Int}{v:α}(h:atI xs i=some v):∃j,seqIndex? i xs.length=some j/\xs[j]? = some v/\j < xs.length/\-(xs.length:Int)<=i/\i < xs.length:=by
 unfold atI at h
 cases e:ixN xs.length i with
 | none=>rw[e]at h;cases h
 | some j =>
  rw[e]at h
  obtain⟨h1,h2,h3,h4⟩:=bB4 e
  exact⟨j,h1,h,h2,h3,h4⟩
theorem bD8{α:Type}{xs:List α}{j:Nat}{v:α}(h:xs[j]? = some v):atI xs (j:Int)=some v:=by
 have hj:j < xs.length:=(List.getElem?_eq_some_iff.mp h).1
 have e:ixN xs.length (j:Int)=some j:=by
  unfold ixN
  rw[if_pos (by omega),if_pos (by omega)];simp
 unfold atI;rw[e];exact h
noncomputable def j4(b:Expr):Prop:=∀o i,subscripted b false o i=operate [o,i] (getItem o i)
noncomputable def IxR(X:Cx) (r:R2):Prop :=
 ∀(value slice:Expr) (pins:List (Addr×Obj)) (s:Shared) (σ:St) (H:Hp) (x y:V) (v u:Value) (Q:VK),Inv X pins σ H s->E4 x v->E4 y u->r x y H Q ->
  subscripted slice false v u=operate [v,u] (getItem v u)->wpAny (model X.prog X.w) X.A (subscriptTail value slice v u) (EP X pins σ Q) X.xe s
noncomputable def MtR(X:Cx) (id:String) (r:V->List V->Hp->VK->Prop):Prop :=
 ∀(pins:List (Addr×Obj)) (s:Shared) (σ:St) (H:Hp) (x:V) (xs:List V) (v:Value) (us:List Value) (Q:VK),Inv X pins σ H s->E4 x v->C8 xs us->r x xs H Q ->
  wpAny (model X.prog X.w) X.A (call (.builtin id) (v::us)) (EP X pins σ Q) X.xe s
section
variable {X:Cx}{a b:Expr}{ta tb:TE}{pos:Pos}
theorem IxR.or(h:IxR X r) (h':IxR X r'):IxR X (fun x y H Q=>r x y H Q\/r' x y H Q):=by
 intro value slice pins s σ H x y v u Q I rx ry q hs
 rcases q with q|q
 ·exact h value slice pins s σ H x y v u Q I rx ry q hs
 ·exact h' value slice pins s σ H x y v u Q I rx ry q hs
theorem aO9(hr:IxR X r) (ha:PE X a ta) (hb:PE X b tb) (hs:j4 b):PE X (.Subscript a b pos) (tOp r ta tb):=by
 intro pins s σ H Q I h
 exact Subscript_ (cb1 ha hb I h fun v u s2 x y H2 I2 rx ry q=>hr a b pins s2 σ H2 x y v u Q I2 rx ry q (hs _ _))
noncomputable def cg4(K:PySem.W.Frag):R2:=fun x y H Q=>∃p xs i v,x=.ref p/\y=.int i/\SqL K H p xs/\atI xs i=some v/\Q v H
noncomputable def cg2(K:PySem.W.Frag):R2:=fun x y H Q=>∃p xs i v,x=.ref p/\y=.int i/\SqT K H p xs/\atI xs i=some v/\Q v H
noncomputable def cg3:R2:=fun x y H Q=>∃z i c,x=.str z/\y=.int i/\z.length<=sizeLine/\atI z.cps.toList i=some c/\Q (.str ⟨#[c]⟩) H
theorem bB3:IxR X (cg4 X.K):=by
 intro value slice pins s σ H x y v u Q I rx ry h hs
 obtain⟨p,xs,i,z,rfl,rfl,hq,he,q⟩:=h
 cases rx
 obtain⟨t,rfl⟩:=ry
 obtain⟨its,r,pl,hz⟩:=I.list hq
 obtain⟨j,h1,h2,h3,h4,h5⟩:=az0 he
 obtain⟨w,ew,rw'⟩:=r.get h2
 have hl:=r.length
 have hn:=ad7
 have fin:EP X pins σ Q w s:=⟨z,H,I,rw',q⟩
 by_cases h0:0<=i
 ·have hj:i.toNat=j:=by
   rw[seqIndex_of h0 h5]at h1
   exact Option.some.inj h1
  exact item_listR pl.isList h0 (by omega) (by rw[hj];simpa using ew) fin hs
 ·have hj:(i+(its.toArray.size:Int)).toNat=j:=by
   rw[seqIndex_neg (by omega) h4]at h1
   rw[List.size_toArray,← hl]
   exact Option.some.inj h1
  exact subscriptTail_builtinR (x:=w) pl.isList.typeIs slot_list_getitem.lookup
   (wpAny_getItem_list_neg (Q:=fun r s'=>r=w/\EP X pins σ Q r s') pl.isList (by omega) (by rw[List.size_toArray]<;>omega) (by omega) (by rw[hj];simpa using ew) ⟨rfl,fin⟩) hs
theorem bZ2:IxR X (cg2 X.K):=by
 intro value slice pins s σ H x y v u Q I rx ry h hs
 obtain⟨p,xs,i,z,rfl,rfl,hq,he,q⟩:=h
 cases rx
 obtain⟨t,rfl⟩:=ry
 obtain⟨its,r,pl,hz⟩:=I.tuple hq
 obtain⟨j,h1,h2,h3,h4,h5⟩:=az0 he
 obtain⟨w,ew,rw'⟩:=r.get h2
 have hl:=r.length
 have hn:=ad7
 have fin:EP X pins σ Q w s:=⟨z,H,I,rw',q⟩
 exact subscriptTail_builtinR (x:=w) pl.typeIs slot_tuple_getitem.lookup
  (getItem_tuple (j:=j) (Q:=fun r s'=>r=w/\EP X pins σ Q r s') pl (by omega) (by omega) (by rw[List.size_toArray,← hl];exact h1) (by simpa using ew) ⟨rfl,fin⟩) hs
theorem bZ3:IxR X cg3:=by
 intro value slice pins s σ H x y v u Q I rx ry h hs
 obtain⟨z,i,c,rfl,rfl,hz,he,q⟩:=h
 obtain⟨t,rfl⟩:=rx
 obtain⟨t',rfl⟩:=ry
 obtain⟨j,h1,h2,h3,h4,h5⟩:=az0 he
 have hl:z.cps.toList.length=z.length:=by simp[Str.length]
 rw[hl]at h1 h4 h5
 have hn:=ad7
 exact tail_any (typeIs_str s z t) slot_str_getitem.lookup (getItem_str (c:=c) (by
  have e1:decide (i < -(2 ^ 63:Int))=false:=decide_eq_false (by omega)
  have e2:decide (i ≥ 2 ^ 63)=false:=decide_eq_false (by omega)
  rw[e1,e2,Bool.or_false]) (by rw[h1];simpa using h2) ⟨.str ⟨#[c]⟩,H,I.tok _,⟨_,rfl⟩,q⟩) hs
noncomputable def rIx(K:PySem.W.Frag):R2:=fun x y H Q=>cg4 K x y H Q\/cg2 K x y H Q\/cg3 x y H Q
theorem aw9:IxR X (rIx X.K):=bB3.or (bZ2.or bZ3)
theorem aa3(lo hi:Option Int) (n:Nat):(sliceBounds lo hi none n).1=((HT.sIx n 0 lo:Nat):Int)/\(sliceBounds lo hi none n).2.1=((HT.sIx n n hi:Nat):Int)/\(sliceBounds lo hi none n).2.2=1:=by
 refine⟨?_,?_,rfl⟩
 ·cases lo with
  | none=>simp[sliceBounds,HT.sIx]
  | some i =>
   simp only[sliceBounds,HT.sIx,Option.getD_none,show(1:Int) > 0 by decide,if_true]
   by_cases h:i < 0
   ·simp only[h,if_true]<;>omega
   ·simp only[h,if_false]<;>omega
 ·cases hi with
  | none=>simp[sliceBounds,HT.sIx]
  | some i =>
   simp only[sliceBounds,HT.sIx,Option.getD_none,show(1:Int) > 0 by decide,if_true]
   by_cases h:i < 0
   ·simp only[h,if_true]<;>omega
   ·simp only[h,if_false]<;>omega
theorem ao2(its:List Value) (lo hi:Option Int):slicePick its.toArray lo hi none=((its.drop (HT.sIx its.length 0 lo)).take (HT.sIx its.length its.length hi - HT.sIx its.length 0 lo)).toArray:=by
 obtain⟨h1,h2,h3⟩:=aa3 lo hi its.toArray.size
 unfold slicePick
 rw[h1,h2,h3]
 simp only[sliceRange_one,pick_run,List.size_toArray]<;>rfl
noncomputable def cp3(K:PySem.W.Frag):V->Option Int->Option Int->Hp->VK->Prop:=fun x lo hi H Q=>∃a xs,x=.ref a/\SqL K H a xs/\∀p,H p=none->Q (.ref p) (upd H p (.lst (aE7 xs lo hi)))
theorem aN6:SlR X (cp3 X.K):=by
 intro pins s σ H x v vl vu lo hi sl Q I rx hs pl pu h
 obtain⟨a,xs,rfl,hx,q⟩:=h
 cases rx
 obtain⟨its,r,ht,hz⟩:=I.list hx
 have hlen:=r.length
 refine⟨"list", _,slot_list_getitem.lookup,ht.isList.typeIs,?_⟩
 refine wpAny_getItem_list_slice ht.isList hs pl pu .none (by simp) ?_ (by rw[List.size_toArray]<;>omega)
 rw[ao2,← hlen]
 refine⟨.ref s.heap.objs.size,_,I.laid (t':=s.toks) (o:=.lst (aE7 xs lo hi)) (fun b ob q=>Heap.get?_push_of_some _ q) (Nat.le_refl _) ?_,rfl,q _ (I.hok.fresh (Nat.le_refl _))⟩
 exact⟨Nat.le_trans (ag7 xs lo hi) hz,_,0,(r.drop (HT.sIx xs.length 0 lo)).take (HT.sIx xs.length xs.length hi - HT.sIx xs.length 0 lo),Heap.get?_push_size _ rfl⟩
noncomputable def o5:V->Bool
 | .non=>true
 | .bl _=>true
 | .int _=>true
 | .str _=>true
 | _=>false
noncomputable def eqV:V->V->Bool
 | .non,.non=>true
 | .bl a,.bl b=>a==b
 | .bl a,.int b=>(if a then 1 else 0)==b
 | .int a,.bl b=>a==(if b then 1 else 0)
 | .int a,.int b=>a==b
 | .str a,.str b=>a==b
 | _,_=>false
theorem bZ9(ry:E4 y u) (rx:E4 x v) (fy:o5 y=true) (fx:o5 x=true):SeqAt.EqAt A s u v (eqV y x):=by
 cases y with
 | non =>
  cases ry
  cases x with
  | non=>cases rx;exact SeqAt.EqAt.same _
  | bl b=>cases rx;exact SeqAt.EqAt.none_bool b
  | int b=>obtain⟨t,rfl⟩:=rx;exact SeqAt.EqAt.none_int b t
  | str b=>obtain⟨t,rfl⟩:=rx;exact SeqAt.EqAt.none_str b t
  | _=>exact absurd (show false=true from fx) Bool.false_ne_true
 | bl a =>
  cases ry
  cases x with
  | non=>cases rx;exact SeqAt.EqAt.bool_none a
  | bl b=>cases rx;exact SeqAt.EqAt.bool_bool a b
  | int b=>obtain⟨t,rfl⟩:=rx;exact SeqAt.EqAt.bool_int a b t
  | str b=>obtain⟨t,rfl⟩:=rx;exact SeqAt.EqAt.bool_str a b t
  | _=>exact absurd (show false=true from fx) Bool.false_ne_true
 | int a =>
  obtain⟨t',rfl⟩:=ry
  cases x with
  | non=>cases rx;exact SeqAt.EqAt.int_none a t'
  | bl b=>cases rx;exact SeqAt.EqAt.int_bool a t' b
  | int b=>obtain⟨t,rfl⟩:=rx;exact SeqAt.EqAt.int_int a t' b t
  | str b=>obtain⟨t,rfl⟩:=rx;exact SeqAt.EqAt.int_str a t' b t
  | _=>exact absurd (show false=true from fx) Bool.false_ne_true
 | str a =>
  obtain⟨t',rfl⟩:=ry
  cases x with
  | non=>cases rx;exact SeqAt.EqAt.str_none a t'
  | bl b=>cases rx;exact SeqAt.EqAt.str_bool a t' b
  | int b=>obtain⟨t,rfl⟩:=rx;exact SeqAt.EqAt.str_int a t' b t
  | str b=>obtain⟨t,rfl⟩:=rx;exact SeqAt.EqAt.str_str a t' b t
  | _=>exact absurd (show false=true from fx) Bool.false_ne_true
 | _=>exact absurd (show false=true from fy) Bool.false_ne_true
noncomputable def eqU(x:V) (u:Value):Bool:=match u with
 | .none=>eqV .non x
 | .bool b=>eqV (.bl b) x
 | .int i _=>eqV (.int i) x
 | .str z _=>eqV (.str z) x
 | _=>false
theorem bo7(r:E4 y u) (f:o5 y=true):eqU x u=eqV y x:=by
 cases y with
 | non=>cases r;rfl
 | bl b=>cases r;rfl
 | int i=>obtain⟨t,rfl⟩:=r;rfl
 | str z=>obtain⟨t,rfl⟩:=r;rfl
 | _=>exact absurd (show false=true from f) Bool.false_ne_true
theorem ac1:∀{xs:List V}{us:List Value},C8 xs us->xs.all o5=true->us.any (eqU x)=xs.any fun y=>eqV y x
 | _,_,.nil,_=>rfl
 | y::xs,u::us,.cons r t,f=>by
  rw[List.all_cons,Bool.and_eq_true]at f
  rw[List.any_cons,List.any_cons,bo7 r f.1,ac1 t f.2]
theorem Z2(rx:E4 x v) (fx:o5 x=true):∀{xs:List V}{us:List Value},C8 xs us->xs.all o5=true->∀u∈us,SeqAt.EqAt A s u v (eqU x u)
 | _,_,.nil,_=>fun u hu=>by cases hu
 | y::xs,u::us,.cons r t,f=>fun u' hu=>by
  rw[List.all_cons,Bool.and_eq_true]at f
  rcases List.mem_cons.mp hu with rfl|hu
  ·rw[bo7 r f.1];exact bZ9 r rx f.1 fx
  ·exact Z2 rx fx t f.2 u' hu
noncomputable def inV(x:V) (xs:List V):Bool:=xs.any fun y=>eqV y x
noncomputable def rIn(K:PySem.W.Frag) (neg:Bool):R2:=fun x y H Q=>∃p xs,y=.ref p/\(SqL K H p xs\/SqT K H p xs)/\o5 x=true/\xs.all o5=true/\Q (.bl (if neg then !inV x xs else inV x xs)) H
theorem aU7:OpR X (compareOp .In) (rIn X.K false):=by
 intro pins s σ H x y v u Q I rx ry h
 obtain⟨p,xs,rfl,hq,fx,fs,q⟩:=h
 cases ry
 rcases hq with hq|hq
 ·obtain⟨its,r,pl,hz⟩:=I.list hq
  refine SeqAt.in_listAt (eqU x) pl.isList (fun w hw=>Z2 rx fx r fs w (by simpa using hw)) ⟨.bl _,H,I,rfl,?_⟩
  rw[show its.toArray.any (eqU x)=its.any (eqU x) by simp,ac1 r fs]
  exact q
 ·obtain⟨its,r,pl,hz⟩:=I.tuple hq
  refine SeqAt.in_tupleAt (eqU x) pl (fun w hw=>Z2 rx fx r fs w (by simpa using hw)) ⟨.bl _,H,I,rfl,?_⟩
  rw[show its.toArray.any (eqU x)=its.any (eqU x) by simp,ac1 r fs]
  exact q
theorem aw1:OpR X (compareOp .NotIn) (rIn X.K true):=by
 intro pins s σ H x y v u Q I rx ry h
 obtain⟨p,xs,rfl,hq,fx,fs,q⟩:=h
 cases ry
 rcases hq with hq|hq
 ·obtain⟨its,r,pl,hz⟩:=I.list hq
  refine SeqAt.notIn_listAt (eqU x) pl.isList (fun w hw=>Z2 rx fx r fs w (by simpa using hw)) ⟨.bl _,H,I,rfl,?_⟩
  rw[show its.toArray.any (eqU x)=its.any (eqU x) by simp,ac1 r fs]
  exact q
 ·obtain⟨its,r,pl,hz⟩:=I.tuple hq
  refine SeqAt.notIn_tupleAt (eqU x) pl (fun w hw=>Z2 rx fx r fs w (by simpa using hw)) ⟨.bl _,H,I,rfl,?_⟩
  rw[show its.toArray.any (eqU x)=its.any (eqU x) by simp,ac1 r fs]
  exact q
theorem ac0:T3 X (.builtin "len") (fun xs H Q=>∃p ys,xs=[.ref p]/\(SqL X.K H p ys\/SqT X.K H p ys)/\Q (.int ys.length) H):=by
 intro pins s σ H xs us Q I r h
 obtain⟨p,ys,rfl,hq,q⟩:=h
 obtain⟨u,rfl,rx⟩:=Y2 r
 cases rx
 have hn:=ad7
 rcases hq with hq|hq
 ·obtain⟨its,r',pl,hz⟩:=I.list hq
  have hlen:=r'.length
  exact Calls.call_len_list pl.isList (by simp only[List.size_toArray]<;>omega) ⟨.int ys.length,H,I.tok _,⟨s.toks+1,by rw[List.size_toArray,hlen]⟩,q⟩
 ·obtain⟨its,r',pl,hz⟩:=I.tuple hq
  have hlen:=r'.length
  exact len_tuple pl (by simp only[List.size_toArray]<;>omega) ⟨.int ys.length,H,I.tok _,⟨s.toks+1,by rw[List.size_toArray,hlen]⟩,q⟩
theorem ay5:T3 X (.builtin "len") (fun xs H Q=>∃z,xs=[.str z]/\z.length<=sizeLine/\Q (.int z.length) H):=by
 intro pins s σ H xs us Q I r h
 obtain⟨z,rfl,hz,q⟩:=h
 obtain⟨u,rfl,t,rfl⟩:=Y2 r
 have hn:=ad7
 exact len_str (by omega) ⟨.int z.length,H,I.tok _,⟨_,rfl⟩,q⟩
theorem ay4:T3 X (.type "list") (fun xs H Q=>∃p ys,xs=[.ref p]/\(SqL X.K H p ys\/SqT X.K H p ys)/\∀l,H l=none->Q (.ref l) (upd H l (.lst ys))):=by
 intro pins s σ H xs us Q I r h
 obtain⟨p,ys,rfl,hq,q⟩:=h
 obtain⟨u,rfl,rx⟩:=Y2 r
 cases rx
 have fin:∀(its:List Value),C8 ys its->ys.length<=sizeLine->∀(h':Heap) (c':Nat),(∀b o',s.heap.get? b=some o'->h'.get? b=some o') ->
   h'.get? s.heap.objs.size=some { cls:=.type "list", dict:=none,data:=.seq its.toArray c',slots:=#[] }->EP X pins σ Q (.ref s.heap.objs.size) { s with heap:=h' }:=fun its r' hz h' c' kp e =>
  ⟨.ref s.heap.objs.size,_,I.laid (t':=s.toks) kp (Nat.le_refl _) (show R1 X.prog X.w _ h' _ (.lst ys) from⟨hz,its,c',r',e⟩),rfl,q _ (I.hok.fresh (Nat.le_refl _))⟩
 rcases hq with hq|hq
 ·obtain⟨its,r',pl,hz⟩:=I.list hq
  have hlen:=r'.length
  obtain⟨o,ho,hc,n,hd⟩:=pl.isList
  exact call_list_seq p (.inl rfl) ho hc hd (fun h' c' kp e=>fin its r' hz h' c' kp e) (by simp only[List.size_toArray]<;>omega)
 ·obtain⟨its,r',pl,hz⟩:=I.tuple hq
  have hlen:=r'.length
  obtain⟨o,ho,hc,n,hd⟩:=pl
  exact call_list_seq p (.inr rfl) ho hc hd (fun h' c' kp e=>fin its r' hz h' c' kp e) (by simp only[List.size_toArray]<;>omega)
theorem ap1:T3 X (.type "tuple") (fun xs H Q=>∃p ys,xs=[.ref p]/\((SqL X.K H p ys/\∀l,H l=none->Q (.ref l) (upd H l (.tup ys)))\/(SqT X.K H p ys/\Q (.ref p) H))):=by
 intro pins s σ H xs us Q I r h
 obtain⟨p,ys,rfl,h⟩:=h
 obtain⟨u,rfl,rx⟩:=Y2 r
 cases rx
 rcases h with⟨hq,q⟩|⟨hq,q⟩
 ·obtain⟨its,r',pl,hz⟩:=I.list hq
  have hlen:=r'.length
  refine call_tuple_list pl.isList (fun h' kp=>?_) (by simp only[List.size_toArray]<;>omega)
  have I1:Inv X pins σ H { s with heap:=h' }:=I.kept (t':=s.toks) kp
  have I2:Inv X pins σ (upd H h'.objs.size (.tup ys)) { s with heap:=h'.push { cls:=.type "tuple", data:=.seq its.toArray } } :=
   I1.laid (t':=s.toks) (fun b o e=>Heap.get?_push_of_some _ e) (Nat.le_refl _) (show R1 X.prog X.w _ _ _ (.tup ys) from⟨hz,its,r',ap4.new _ _⟩)
  exact⟨.ref h'.objs.size,_,I2,rfl,q _ (I1.hok.fresh (Nat.le_refl _))⟩
 ·obtain⟨its,r',pl,hz⟩:=I.tuple hq
  exact call_tuple_same pl ⟨.ref p,H,I,rfl,q⟩
noncomputable def tyV(K:PySem.W.Frag) (T:String) (x:V) (H:Hp):Prop:=match x with
 | .str _=>T = "str"
 | .int _=>T = "int"
 | .ref p=>(T = "list" /\ ∃xs,SqL K H p xs)\/(T = "tuple" /\ ∃o,K.lookup p=some o/\o.cls=.type "tuple" /\ o.dict=none) \/
   (T = "dict" /\ ((∃kvs,H p=some (.dK kvs))\/∃kvs,H p=some (.dT kvs)))\/(T = "set" /\ ∃S n,H p=some (.set S n))
 | _=>False
theorem bc5(I:Inv X pins σ H s) (r:E4 x v) (ty:tyV X.K T x H) :
  s.TypeIs v T/\∀a,v=.ref a->∃ob,s.heap.get? a=some ob/\ob.dict=none:=by
 cases x with
 | str z =>
  obtain⟨t,rfl⟩:=r
  cases(show T = "str" from ty)
  exact⟨typeIs_str s z t,fun _ e=>nomatch e⟩
 | int i =>
  obtain⟨t,rfl⟩:=r
  cases(show T = "int" from ty)
  exact⟨typeIs_int s i t,fun _ e=>nomatch e⟩
 | ref p =>
  cases r
  rcases ty with⟨rfl,xs,hq⟩|⟨rfl,o,hk,hc,hd⟩|⟨rfl,hk⟩|⟨rfl,S,n,hk⟩
  ·obtain⟨its,_,pl,_⟩:=I.list hq
   refine⟨pl.isList.typeIs,fun a e=>?_⟩
   cases e
   obtain⟨o,n,e,c,hd,_⟩:=pl
   exact⟨o,e,hd⟩
  ·refine⟨⟨o,I.kIn p o hk,hc⟩,fun a e=>?_⟩
   cases e
   exact⟨o,I.kIn _ o hk,hd⟩
  ·have z:∃o,s.heap.get? p=some o/\o.ExactDict:=by
    rcases hk with⟨kvs,hk⟩|⟨kvs,hk⟩
    ·obtain⟨_,_,_,_,o,_,_,e,ex,_⟩:=I.hok p _ hk
     exact⟨o,e,ex⟩
    ·obtain⟨_,_,_,_,o,_,_,e,ex,_⟩:=I.hok p _ hk
     exact⟨o,e,ex⟩
   obtain⟨o,e,ex⟩:=z
   refine⟨⟨o,e,ex.1⟩,fun a e2=>?_⟩
   cases e2
   exact⟨o,e,ex.2.1⟩
  ·obtain⟨o,_,_,_,e,ex,_⟩:=I.hok p _ hk
   refine⟨⟨o,e,ex.1⟩,fun a e2=>?_⟩
   cases e2
   exact⟨o,e,ex.2.1⟩
 | _=>exact False.elim ty
noncomputable def tBM(K:PySem.W.Frag) (T:String) (r:V->List V->Hp->VK->Prop) (to:TE) (t:TA):TE:=fun σ H Q=>to σ H fun x H1=>tyV K T x H1/\t σ H1 fun xs H2=>r x xs H2 Q
variable {o e:Expr}{es:List Expr}{to:TE}{t:TA}{name:Str}{apos cpos:Pos}{T id:String}{r:V->List V->Hp->VK->Prop}
theorem aq8(pa:PlainAttrs T) (slot:Slot T name id) (hty:typeOf (.builtin id)=pure (.type "method_descriptor")) (hm:MtR X id r) (ho:PE X o to) (ha:PA X (e::es) t)
  (hbase:attributeBase o name X.env (eval o X.env)=eval o X.env:=by rfl)
  (hfew:((backTo cpos (starEach (e::es) X.env)).all (fun x=>!x.1)&&(backToKw cpos (keywordEach [] X.env)).all (fun x=>x.1.isSome)
   && decide ((e::es).length+([]:List Keyword).length+(if([]:List Keyword).isEmpty then 0 else 1) < 30))=true:=by rfl)
  (hline:(apos.endLine==cpos.line)=true:=by rfl) (hs:starEach (e::es) X.env=(false,eval e X.env)::starEach es X.env:=by rfl) (hplain:(backTo cpos (starEach es X.env)).any (·.1)=false:=by rfl) :
  PE X (.Call (.Attribute o name apos) (e::es) [] cpos) (tBM X.K T r to t):=by
 intro pins s σ H Q I h
 refine wpAny_Call_method_late hbase hfew hline rfl (thn (ho pins s σ H _ I h) fun v s1 ⟨x,H1,I1,r1,ty,q1⟩=>?_)
 obtain⟨h1,h2⟩:=bc5 I1 r1 ty
 refine⟨T,id,pa,slot,hty,h1,h2,?_⟩
 have hA:=ha cpos pins s1 σ H1 _ I1 q1
 rw[hs]at hA ⊢
 refine Calls.callWith_builtin (by show(false || (backTo cpos (starEach es X.env)).any (·.1))=false;rw[hplain]<;>rfl) (Calls.evalArgs_plain ?_)
 exact thn hA fun us s2 ⟨vs,H2,I2,r2,q2⟩=>hm pins s2 σ H2 x vs v us Q I2 r1 r2 q2
end
end L2
namespace L2
open PySem PySem.Spec PyProof.Rows
noncomputable def MtM(X:Cx) (id:String) (r:V->List V->Hp->VK->Prop):Prop :=
 ∀(pins:List (Addr×Obj)) (s:Shared) (σ:St) (H:Hp) (x:V) (xs:List V) (v:Value) (us:List Value) (Q:VK),Inv X pins σ H s->E4 x v->C8 xs us->r x xs H Q ->
  wpAny (model X.prog X.w) X.A (call (.builtin id) (v::us)) (EP X pins σ Q) X.xe s
theorem C8.one:∀{x:V}{us:List Value},C8 [x] us->∃u,us=[u]/\E4 x u
 | _,_,.cons r .nil=>⟨_,rfl,r⟩
theorem C8.rep(h:C8 xs us):∀k:Nat,C8 (List.replicate k xs).flatten (List.replicate k us).flatten
 | 0=>.nil
 | k+1=>by
  rw[List.replicate_succ,List.replicate_succ,List.flatten_cons,List.flatten_cons]
  exact C8.append h (C8.rep h k)
theorem ar8(its:List Value):∀(k:Nat) (acc:List Value),
  List.foldl (fun x1 x2=>x1++x2) acc.toArray (List.replicate k its.toArray)=(acc++(List.replicate k its).flatten).toArray
 | 0,acc=>by simp
 | k+1,acc=>by
  have e:acc.toArray++its.toArray=(acc++its).toArray:=by simp
  have e2:(acc++its)++(List.replicate k its).flatten=acc++(List.replicate (k+1) its).flatten:=by
   rw[List.replicate_succ,List.flatten_cons,List.append_assoc]
  rw[← e2,← ar8 its k (acc++its),← e,List.replicate_succ,List.foldl_cons]
section
variable {X:Cx}{pins:List (Addr×Obj)}{σ:St}{H:Hp}{s:Shared}{l b:Addr}{xs ys zs:List V}
theorem Inv.lset{its its':List Value}{n:Nat}{f:Array Value->Array Value}{t':Nat}(I:Inv X pins σ H s) (hH:H l=some (.lst xs))
  (e:s.heap.get? l=some { cls:=.type "list", data:=.seq its.toArray n }) (hf:f its.toArray=its'.toArray) (hv:C8 ys its') (hz:ys.length<=sizeLine) :
  Inv X pins σ (upd H l (.lst ys)) { s with heap:=s.heap.update l (Obj.mapSeq f),toks:=t' }:=by
 have q:=PySem.IsL.update e f
 rw[hf]at q
 refine I.write (x:=l) (e:=l) (by rw[hH];exact trivial) (.inl rfl) (fun b' u hb hu=>(Heap.get?_update_other s.heap (Obj.mapSeq f) (Ne.symm hb)).trans hu) ⟨_,q⟩ ?_
 exact⟨hz,its',_,hv,q⟩
theorem Inv.lnew(I:Inv X pins σ H s) (hv:C8 ys its) (hz:ys.length<=sizeLine) :
  Inv X pins σ (upd H s.heap.objs.size (.lst ys)) { s with heap:=s.heap.push { cls:=.type "list", data:=.seq its.toArray },toks:=t' } :=
 I.laid (fun _ _ q=>Heap.get?_push_of_some _ q) (Nat.le_refl _) ⟨hz,its,0,hv,Heap.get?_push_size _ rfl⟩
theorem Inv.fresh(I:Inv X pins σ H s):H s.heap.objs.size=none:=I.hok.fresh (Nat.le_refl _)
theorem Inv.lstM(I:Inv X pins σ H s) (hH:H l=some (.lst xs)):xs.length<=sizeLine/\∃(its:List Value) (n:Nat),C8 xs its/\xs.length=its.length/\s.heap.get? l=some { cls:=.type "list", data:=.seq its.toArray n }:=by
 obtain⟨z,its,n,r,e⟩:=I.hok l _ hH
 exact⟨z,its,n,r,r.length,e⟩
theorem Z0(h:n<=sizeLine):Builtin.List.listTooLong n=false:=by
 unfold Builtin.List.listTooLong
 exact decide_eq_false (by omega)
end
section
variable {X:Cx}
noncomputable def bu8:V->List V->Hp->VK->Prop:=fun x vs H Q=>∃l xs y,x=.ref l/\vs=[y]/\H l=some (.lst xs)/\xs.length < sizeLine/\Q .non (upd H l (.lst (xs++[y])))
theorem ad6:MtM X "list.append" bu8:=by
 intro pins s σ H x vs v us Q I rx rv h
 obtain⟨l,xs,y,rfl,rfl,hH,hz,q⟩:=h
 cases rx
 obtain⟨u,rfl,ru⟩:=rv.one
 obtain⟨z,its,n,r,hl,e⟩:=I.lstM hH
 refine call_meets F.slot_list_append ⟨_,e,rfl⟩ F.entry_list_append (F.args_list_append_2 _ _) (PySem.list_append l its.toArray n u (by rw[List.size_toArray];omega)) ⟨e,?_⟩
 refine⟨.non,_,I.lset (its':=its++[u]) hH e (by simp) (r.append (.cons ru .nil)) ?_,rfl,q⟩
 rw[List.length_append,List.length_singleton]
 omega
theorem aw6{α:Type}(xs:List α) (k:Nat):(List.replicate k xs).flatten.length=k*xs.length:=by
 induction k with
 | zero=>simp
 | succ k ih=>rw[List.replicate_succ,List.flatten_cons,List.length_append,ih,Nat.succ_mul,Nat.add_comm]
end
section
variable {prog:Program}{w:World}{A:Around}{E:Value->Shared->Prop}{s:Shared}
theorem aU2(its its2:List Value) (a c:Nat):its.toArray.extract 0 a++its2.toArray++its.toArray.extract c its.toArray.size=(its.take a++its2++its.drop c).toArray:=by
  apply Array.toList_inj.mp
  first
    | (simp
       exact List.take_of_length_le (by simp))
    | simp[List.take_of_length_le]
    | simp
set_option maxRecDepth 100000 in
end
section
variable {X:Cx}
end
end L2
namespace Att
open PySem PySem.W PySem.Calls PyProof.Rows
theorem ah5:∀(ns:List Int) (vs:List Value),WellAll P h vs (ns.map WData.int)->IntsAre vs ns:=by
 intro ns
 induction ns with
 | nil =>
  intro vs w
  rw[List.map_nil]at w
  cases w
  exact .nil
 | cons n ns ih =>
  intro vs w
  rw[List.map_cons]at w
  cases w with
  | cons a b =>
   cases a
   exact .cons _ _ (ih _ b)
theorem aU3{l:OpenLaw}{n:Nat}(hn:l.most=some n) {P:Params}{h:Heap}{args:List WData}{vals:List Value}
  (hpre:l.row.toRowW.claim.pre args=true) (hwl:WellAll P h vals args) :
  ∃a vs ns,vals=[Value.ref a]/\args=[WData.list (ns.map WData.int)]/\h.get? a=some { cls:=.type "list", data:=.seq vs.toArray }/\IntsAre vs ns/\ns.length<=n:=by
 have hsh:WShape.hasAll [] args [.list .int]=true:=(pre_splitW hpre).1
 have hc:l.pre.holds [] { args:=args }=true:=(pre_splitW hpre).2
 obtain⟨d,r,rfl,h1,h2⟩:=hasAllW_cons hsh
 obtain rfl:=hasAllW_nil h2
 obtain⟨xs,rfl,h3⟩:=hasW_list h1
 obtain⟨ns,rfl⟩:=items_int h3
 have hlen:ns.length<=n:=by
  unfold OpenLaw.pre at hc
  have h4:(WTm.not (.lt (.lit (.int (n:Int))) (.len (.arg 0)))).holds [] { args:=[.list (ns.map .int)] }=true:=by
   have h4:=(holds_andW hc).1
   rw[hn]at h4
   exact h4
  have h5:=condW_of h4 (w_not (w_lt w_lit (w_len_list (w_arg rfl))))
  rw[List.length_map]at h5
  refine Nat.le_of_not_lt fun q=>?_
  have q':(n:Int) < ((ns.length:Nat):Int):=by omega
  first
   | (rw[decide_eq_true q']at h5;exact absurd h5 (by decide))
   | (simp at h5;omega)
 cases hwl with
 | cons w1 w2 =>
  cases w2
  cases w1 with
  | list ho hall=>exact⟨_,_,ns,rfl,rfl,ho,ah5 ns _ hall,hlen⟩
theorem aU4(l:OpenLaw) (args:List WData):l.row.toRowW.claim.post args (.bool true) args=true :=
 postW_of (r:=l.row.toRowW) (X:=(true==true))
  (show WShape.has [] (.bool true) .bool=true by first|rfl|decide|simp[WShape.has,WShape.arms,WShape.armsAll])
  (show(WTm.eq .res (.lit (.bool true))).value [] { args:=args,res:=some (.bool true),after:=args }=some (.bool (true==true)) from w_eq_bool (w_res rfl) w_lit) rfl
theorem attach_call{l:OpenLaw}{n:Nat}{q:Program}{loose:List Str}{XP:(Str->Option Value)->Heap->Prop}{YP:World->Heap->Prop}{d:DefRec}
  (hn:l.most=some n) (hdf:d.params.defaults=[])
  (call:∀(w:World) (s₀ s₁:Shared) (mg mb:Str->Option Value) (fa:Addr) (o:Obj) (pm cd doc:Value) (a:Addr) (vs:List Value) (ns:List Int),
   Ground q loose [] XP w s₀ mg mb s₁.heap->YP w s₁.heap ->
   s₁.heap.get? fa=some o->o.data=.func (docDef d.name d.params d.body d.scope pm cd doc)->s₁.heap.CodeRec cd d.name->mg d.name=some (.ref fa) ->
   s₁.heap.get? a=some { cls:=.type "list", data:=.seq vs.toArray }->IntsAre vs ns->ns.length<=n->s₁.gens = #[] ->
   codeAny (model l.prog w) callerA (.call (.ref fa) ⟨[.ref a],[]⟩) (fun r s'=>r=.ok (.ret (.bool true))/\OldK s₁.heap s'.heap/\s'.os=s₁.os/\AllBare s'.gens) s₁) :
  WalkO q loose XP YP l.row.toRowW d [] (fun f vs=>PySem.call f vs):=by
 intro w s₀ s₁ mg mb G Y fa o pm cd doc dV kV ho hd hcd hD hmg hg args vals as hpre hlay hrd hwl hlo
 obtain rfl:dV=.none:=Dflts.none hD hdf
 obtain rfl:kV=.none:=Dflts.noKw hD
 obtain⟨a,vs,ns,rfl,rfl,hobj,hints,hlen⟩:=aU3 hn hpre hwl
 refine enter_call (codeAny_mono (call w s₀ s₁ mg mb fa o pm cd doc a vs ns G Y ho (fd_plain hd) hcd hmg hobj hints hlen hg) fun r s' hq=>?_)
 obtain⟨rfl,h2,h3,h4⟩:=hq
 exact⟨.inl ⟨.bool true,.bool true,[],rfl,fun _=>rfl,.bool true,aU4 l _,fun _=>⟨List.Pairwise.nil,fun _ hm=>(nomatch hm)⟩⟩,h2,h3,h4⟩
section
variable {prog:Program}{w:World}{A:Around}{E:Value->Shared->Prop}{s:Shared}{K:Frag}
end
end Att
namespace L2
open PySem PySem.Spec PyProof.Rows
theorem aq0:∀{vs:List Value}{ns:List Int},IntsAre vs ns->C8 (ns.map V.int) vs
 | _,_,.nil=>.nil
 | _,_,.cons n t h=>.cons ⟨t,rfl⟩ (aq0 h)
noncomputable def cb5(H:Hp):Prop:=∀b,H b=none\/∃o xs,H b=some (.frz o (.lst xs))
theorem bj4{P:Program}{w:World}{K:PySem.W.Frag}{mg mb:Str->Option Value}{CX:CXT}{k:Nat}{fa a:Addr}{fd:FuncData}{x:Str}{sp:Sp}{s₁:Shared}{vs:List Value}{ns:List Int}
  (KX:K.In s₁.heap) (hns:s₁.heap.Ns mainGlobals mg) (hb:s₁.heap.Ns builtinsNs mb) (hbb:∀x:Str,x ≠ "__name__" -> mb x=bootBuiltins x) (hlim:s₁.heap.NoLimit) (hg:s₁.gens = #[])
  (ha:s₁.heap.get? a=some { cls:=.type "list", data:=.seq vs.toArray }) (hi:IntsAre vs ns) (hl:ns.length<=sizeLine) (hr:Room k callerA)
  (F:∀base:Heap,K.In base->base.Ns mainGlobals mg->FnOk P w K mg base CX k fa fd [x] sp) (hbind:∀(s:Shared) (u:Value),BindsTo s fd ⟨[u],[]⟩ [(x,u)])
  (hsp:∀H:Hp,cb5 H->SqL K H a (ns.map V.int)->sp [.ref a] H (fun v _=>v=.bl true) fun _ _ _=>False)
  (hCX:∀H e s',CX [] H s₁ (fun _ _ _=>False) e s'->False) :
  codeAny (model P w) callerA (.call (.ref fa) ⟨[.ref a],[]⟩) (fun r s'=>r=.ok (.ret (.bool true))/\OldK s₁.heap s'.heap/\s'.os=s₁.os/\AllBare s'.gens) s₁:=by
 have rv:=aq0 hi
 have lenV:=hi.length
 have core:∀H:Hp,cb5 H->SqL K H a (ns.map V.int)->HOk P w H s₁.heap->(∀b,H b≠none->b=a)->(H a≠none->K.lookup a=none) ->
   codeAny (model P w) callerA (.call (.ref fa) ⟨[.ref a],[]⟩) (fun r s'=>r=.ok (.ret (.bool true))/\OldK s₁.heap s'.heap/\s'.os=s₁.os/\AllBare s'.gens) s₁:=by
  intro H hO hS hok hA hK
  have base_of:∀{b:Addr}{o:Obj},s₁.heap.get? b=some o->H b=none->(ax3 s₁.heap H).get? b=some o:=fun e n=>bn0 e n
  have noA:∀{b:Addr}{o:Obj}{es:Array DictEntry}{ep:Nat},s₁.heap.get? b=some o->o.data=.dict es ep->H b=none:=fun{b o es ep} e d=>by
   cases q:H b with
   | none=>rfl
   | some u =>
    have e':b=a:=hA b (by rw[q];simp)
    subst e'
    rw[ha]at e;cases e
    have d':Data.seq vs.toArray _=Data.dict es ep:=d
    cases d'
  have nsK:∀{b:Addr}{m:Str->Option Value},s₁.heap.Ns b m->(ax3 s₁.heap H).Ns b m:=fun{b m} ⟨o,es,ep,e,d,r⟩=>⟨o,es,ep,base_of e (noA e d),d,r⟩
  have hKb:K.In (ax3 s₁.heap H):=fun b o e=>base_of (KX b o e) (by
   cases q:H b with
   | none=>rfl
   | some u =>
    have e':b=a:=hA b (by rw[q];simp)
    subst e'
    rw[hK (by rw[q];simp)]at e;cases e)
  have hM:Mod K mg (ax3 s₁.heap H):=⟨hKb,nsK hns,⟨mb,nsK hb,hbb⟩,let⟨mc,h1,h2⟩:=hlim;⟨mc,nsK h1,h2⟩⟩
  have e0:Env0 P w K mg (ax3 s₁.heap H) callerA [] s₁ H:=⟨rfl,hM,fun b o e=>bx1 e,Nat.le_of_eq (aX0 _ _),trivial,fun b hb=>absurd (show b∈([]:List Addr) from hb) (by simp),hok,.of_eq hg⟩
  refine codeAny_mono ((F _ hKb (nsK hns)).run callerA [] s₁ H ⟨[.ref a],[]⟩ [.ref a] [.ref a] _ _ hr e0 (hbind s₁ (.ref a)) (.cons rfl .nil) (hsp H hO hS)) fun r s' h=>?_
  cases r with
  | error e=>exact(hCX H e s' h).elim
  | ok fl =>
   cases fl with
   | next=>exact False.elim h
   | brk=>exact False.elim h
   | cont=>exact False.elim h
   | ret u =>
    obtain⟨v,H',os,bare,un,hok',r',q⟩:=h
    have q':v=.bl true:=q
    subst q'
    obtain rfl:u=Value.bool true:=r'
    refine⟨rfl,OldK.of_keep fun b o e=>?_,os,bare⟩
    cases q:H b with
    | none=>exact un.keep b o e q (by intro z;exact absurd (show b∈([]:List Addr) from z) (by simp)) (by simp)
    | some u =>
     rcases hO b with z|⟨ob,xs,z⟩
     ·rw[q]at z;cases z
     ·have z2:=un.frzs b ob _ z
      obtain⟨e1,_⟩:=hok b _ z
      obtain⟨e2,_⟩:=hok' b _ z2
      rw[e]at e1;cases e1
      exact e2
 cases hk:K.lookup a with
 | some o =>
  have e:=KX a o hk
  rw[ha]at e
  cases e
  refine core (fun _=>none) (fun _=>.inl rfl) (.inr ⟨_,vs.toArray,_,hk,rfl,rfl,rfl,by rw[List.size_toArray,lenV];exact hl,by simpa using rv⟩) (fun b u z=>by have z':(none:Option HO)=some u:=z;cases z') (fun b z=>absurd rfl z) fun z=>absurd rfl z
 | none =>
  refine core (fun b=>if b=a then some (.frz { cls:=.type "list", data:=.seq vs.toArray } (.lst (ns.map V.int))) else none) (fun b=>?_) (.inl (.inr ⟨{ cls:=.type "list", data:=.seq vs.toArray },if_pos rfl⟩)) (fun b u z=>?_) (fun b z=>?_) fun _=>hk
  ·by_cases hb:b=a
   ·exact .inr ⟨_,_,if_pos hb⟩
   ·exact .inl (if_neg hb)
  ·by_cases hb:b=a
   ·have z':=(if_pos hb).symm.trans z
    cases z'
    subst hb
    exact⟨ha,by rw[List.length_map];exact hl,vs,_,rv,ha⟩
   ·have z':=(if_neg hb).symm.trans z
    cases z'
  ·by_cases hb:b=a
   ·exact hb
   ·exact absurd (if_neg hb) z
end L2
namespace L2
open PySem PySem.Spec PyProof.Rows
theorem br5{l:PySem.W.OpenLaw}{n k:Nat}{q:Program}{loose:List Str}{XP:(Str->Option Value)->Heap->Prop}{YP:World->Heap->Prop}{d:DefRec}{K:Params->PySem.W.Frag}{CX:World->CXT}{sp:World->Sp}{x:Str}
  (hn:l.most=some n) (hn2:n<=sizeLine) (hdf:d.params.defaults=[]) (hr:Room k callerA)
  (hY:∀(w:World) (h:Heap),YP w h->(K w.params).In h)
  (F:∀(w:World) (mg:Str->Option Value) (fa:Addr) (h:Heap),(K w.params).In h->h.Ns mainGlobals mg->mg d.name=some (.ref fa) ->
   ∃fd:FuncData,(∀(s:Shared) (u:Value),BindsTo s fd ⟨[u],[]⟩ [(x,u)]) /\
    ∀base:Heap,(K w.params).In base->base.Ns mainGlobals mg->FnOk l.prog w (K w.params) mg base (CX w) k fa fd [x] (sp w))
  (hsp:∀(w:World) (H:Hp) (a:Addr) (ns:List Int),ns.length<=n->cb5 H->SqL (K w.params) H a (ns.map V.int)->sp w [.ref a] H (fun v _=>v=.bl true) fun _ _ _=>False)
  (hCX:∀(w:World) (H:Hp) (s:Shared) (e:Value) (s':Shared),CX w [] H s (fun _ _ _=>False) e s'->False) :
  PySem.W.WalkO q loose XP YP l.row.toRowW d [] (fun f vs=>PySem.call f vs):=by
 refine Att.attach_call hn hdf fun w s₀ s₁ mg mb fa o pm cd doc a vs ns G Y ho hd hcd hmg hobj hints hlen hg=>?_
 have KX:=hY w _ Y
 obtain⟨fd,hb,hF⟩:=F w mg fa _ KX G.T.g hmg
 exact bj4 KX G.T.g G.T.b G.T.builtins G.T.nolimit hg hobj hints (Nat.le_trans hlen hn2) hr hF hb (fun H hO hS=>hsp w H a ns hlen hO hS) fun H e s'=>hCX w H s₁ e s'
end L2
namespace L2
open PySem PySem.Spec PyProof.Rows
noncomputable def L6(s:Stmt):Arguments:=match s with
 | .FunctionDef _ a _ _ _ _ _ _ _ _=>a
 | _=>{ posonlyargs:=[],args:=[],vararg:=none,kwonlyargs:=[],kw_defaults:=[],kwarg:=none,defaults:=[] }
noncomputable def E8(s:Stmt):List Stmt:=match s with
 | .FunctionDef _ _ b _ _ _ _ _ _ _=>b
 | _=>[]
noncomputable def B9(s:Stmt):Scope:=match s with
 | .FunctionDef _ _ _ _ _ _ sc _ _ _=>sc
 | _=>{ kind:=.function,names:=[],isGenerator:=false,isCoroutine:=false }
noncomputable abbrev CX0:CXT:=fun _ _ _ _ _ _=>False
noncomputable abbrev E0:XK:=fun _ _ _=>False
theorem al0:Z5 CX0 X E0:=fun _ _ _ _ _ _ _ h=>h.elim
structure Fun (K:PySem.W.Frag) (x qual:Str) (st:Stmt) (f:Addr) (fd:FuncData):Prop where
 ex:∃(oc:Value) (od:Option Addr) (kV doc pm:Value) (an:Option Addr) (cdv ct:Value) (osl:Array (Option Value)),
  fd=PySem.W.fnOf x qual (L6 st) (E8 st) (B9 st) .none kV doc pm an cdv ct/\K.lookup f=some ⟨oc,od,.func fd,osl⟩/\PySem.W.codeIn K cdv qual=true
 kp:PySem.W.keepIn K (.ref f)=true
section
variable {P:Program}{w:World}{K:PySem.W.Frag}{mg:Str->Option Value}{base:Heap}
theorem Fun.ok{x qual:Str}{st:Stmt}{f:Addr}{fd:FuncData}{N ps:List Str}{k:Nat}{sp:Sp}(F:Fun K x qual st f fd) (S:FnScope N ps (B9 st)) (len:∀vs H Q E,sp vs H Q E->vs.length=ps.length)
  (hbody:∀(cdv:Value) (A:Around) (outer:List Env) (s:Shared) (H:Hp) (vs:List V) (Q:VK) (E:XK),Room k (A.deeper (envOfC qual (B9 st) s.heap.objs.size f cdv))->sp vs H Q E ->
   ∃t,PSs (am7 CX0 P w K mg base N qual (B9 st) f cdv A outer s H E).nox (E8 st) t/\t { nx:=fun _ H'=>Q .non H',rt:=Q } (start N vs) H):FnOk P w K mg base CX0 (k+1) f fd ps sp:=by
 obtain⟨oc,od,kV,doc,pm,an,cdv,ct,osl,rfl,lk,hcd⟩:=F.ex
 refine aD2 lk hcd S len fun A outer s H vs Q E hr hsp=>?_
 obtain⟨t,h,q⟩:=hbody cdv A outer s H vs Q E hr hsp
 exact⟨t,h.nox,q⟩
theorem aJ4{x qual:Str}{st:Stmt}{f:Addr}{oc:Value}{od an:Option Addr}{osl:Array (Option Value)}{kV doc pm cdv ct:Value}(l:K.lookup f=some ⟨oc,od,.func (PySem.W.fnOf x qual (L6 st) (E8 st) (B9 st) .none kV doc pm an cdv ct),osl⟩)
  (c:PySem.W.codeIn K cdv qual=true) (k:PySem.W.keepIn K (.ref f)=true):Fun K x qual st f (PySem.W.fnOf x qual (L6 st) (E8 st) (B9 st) .none kV doc pm an cdv ct):=⟨⟨oc,od,kV,doc,pm,an,cdv,ct,osl,rfl,l,c⟩,k⟩
end
theorem V2(h:n<=1000):n < sizeLine:=Nat.lt_of_le_of_lt h (by decide)
section
variable {X:Cx}
theorem pv(i:Nat) (hN:X.N[i]? = some x:=by rfl) (hv:Vis X.env.scope x:=by first|exact Or.inl rfl|exact Or.inr (Or.inl rfl)|exact Or.inr (Or.inr rfl)) (hd:(x==("__debug__" : Str))=false:=by decide)
  (hcd:(x==("__classdict__" : Str))=false:=by decide):PE X (.Name x pos) (ce3 i):=O0 hN hv hd hcd
end
theorem ab3{A B:Prop}(h:B):if false=true then A else B:=by
 rw[if_neg Bool.false_ne_true]
 exact h
theorem u6{A B:Prop}(h:A):if true=true then A else B:=by
 rw[if_pos rfl]
 exact h
noncomputable def B8(H H':Hp):Prop:=∀b o,H b=some o->H' b=some o
theorem B8.refl(H:Hp):B8 H H:=fun _ _ h=>h
theorem B8.trans(a:B8 H H1) (b:B8 H1 H2):B8 H H2:=fun c o h=>b c o (a c o h)
theorem B8.free(e:B8 H H') (h:H' l=Option.none):H l=Option.none:=by
 cases q:H l with
 | none=>rfl
 | some o =>
  rw[e l o q]at h
  cases h
end L2
set_option maxHeartbeats 4000000
namespace G
theorem xbm{α β:Type}{o:Option α}{f:α->Option β}{b:β}(h:o.bind f=some b):∃a,o=some a/\f a=some b:=Option.bind_eq_some_iff.mp h
open PySem PySem.Spec PyProof.Rows L2
noncomputable abbrev D:=PyData
mutual
noncomputable def Rep(K:PySem.W.Frag) (H:Hp):D->V->Prop
 | .none,v=>v=.non
 | .bool b,v=>v=.bl b
 | .int i,v=>v=.int i
 | .str x,v=>v=.str x
 | .tuple ds,v=>∃a vs,v=.ref a/\SqT K H a vs/\Reps K H ds vs
 | .list ds,v=>∃a vs,v=.ref a/\SqL K H a vs/\Reps K H ds vs
 | .dict kvs,v=>∃a m,v=.ref a/\H a=some (.dK m)/\RepKs K H kvs m
noncomputable def Reps(K:PySem.W.Frag) (H:Hp):List D->List V->Prop
 | [],vs=>vs=[]
 | d::ds,vs=>∃v r,vs=v::r/\Rep K H d v/\Reps K H ds r
/-- a dict by texts -/
noncomputable def RepKs(K:PySem.W.Frag) (H:Hp):List (D×D)->List (Key×V)->Prop
 | [],m=>m=[]
 | (k,d)::r,m=>∃x v t,k=.str x/\m=(.inr x,v)::t/\Rep K H d v/\RepKs K H r t
end
section
variable {K:PySem.W.Frag}{H H' H0 H1 H2 Hf Hf' Hf1 Hf2:Hp}
theorem aN7(e:B8 H H') (h:Rd H a u):Rd H' a u:=by
 rcases h with h|⟨o,h⟩
 ·exact .inl (e _ _ h)
 ·exact .inr ⟨o,e _ _ h⟩
theorem C9(e:B8 H H') (h:SqT K H a xs):SqT K H' a xs:=h.imp (aN7 e) id
theorem E1(e:B8 H H') (h:SqL K H a xs):SqL K H' a xs:=h.imp (aN7 e) id
mutual
theorem Rep.mono(e:B8 H H'):∀{d:D}{v:V},Rep K H d v->Rep K H' d v
 | .none,_,h=>h
 | .bool _,_,h=>h
 | .int _,_,h=>h
 | .str _,_,h=>h
 | .tuple _,_,⟨a,vs,h1,h2,h3⟩=>⟨a,vs,h1,C9 e h2,Reps.mono e h3⟩
 | .list _,_,⟨a,vs,h1,h2,h3⟩=>⟨a,vs,h1,E1 e h2,Reps.mono e h3⟩
 | .dict _,_,⟨a,m,h1,h2,h3⟩=>⟨a,m,h1,e _ _ h2,RepKs.mono e h3⟩
theorem Reps.mono(e:B8 H H'):∀{ds:List D}{vs:List V},Reps K H ds vs->Reps K H' ds vs
 | [],_,h=>h
 | _::_,_,⟨v,r,h1,h2,h3⟩=>⟨v,r,h1,Rep.mono e h2,Reps.mono e h3⟩
theorem RepKs.mono(e:B8 H H'):∀{ds:List (D×D)}{vs:List (Key×V)},RepKs K H ds vs->RepKs K H' ds vs
 | [],_,h=>h
 | (_,_)::_,_,⟨x,v,t,h1,h2,h3,h4⟩=>⟨x,v,t,h1,h2,Rep.mono e h3,RepKs.mono e h4⟩
end
theorem Reps.length:∀{ds:List D}{vs:List V},Reps K H ds vs->vs.length=ds.length
 | [],_,h=>by cases h;rfl
 | _::_,_,⟨v,r,h1,h2,h3⟩=>by subst h1;simp[Reps.length h3]
theorem Reps.get:∀{ds:List D}{vs:List V}{i:Nat}{d:D},Reps K H ds vs->ds[i]? = some d->∃v,vs[i]? = some v/\Rep K H d v
 | [],_,_,_,_,e=>by simp at e
 | x::_,_,0,_,⟨v,r,h1,h2,h3⟩,e=>by subst h1;simp at e;subst e;exact⟨v,rfl,h2⟩
 | x::_,_,i+1,_,⟨v,r,h1,h2,h3⟩,e=>by
  subst h1
  obtain⟨u,q1,q2⟩:=Reps.get (i:=i) h3 (by simpa using e)
  exact⟨u,by simpa using q1,q2⟩
theorem Reps.append:∀{ds es:List D}{vs us:List V},Reps K H ds vs->Reps K H es us->Reps K H (ds++es) (vs++us)
 | [],_,_,_,h,q=>by cases h;exact q
 | _::_,_,_,_,⟨v,r,h1,h2,h3⟩,q=>by subst h1;exact⟨v,r++_,rfl,h2,Reps.append h3 q⟩
theorem Reps.take:∀{ds:List D}{vs:List V}(n:Nat),Reps K H ds vs->Reps K H (ds.take n) (vs.take n)
 | [],_,n,h=>by cases h;simp[Reps]
 | _::_,_,0,h=>by simp[Reps]
 | _::_,_,n+1,⟨v,r,h1,h2,h3⟩=>by subst h1;exact⟨v,r.take n,rfl,h2,Reps.take n h3⟩
theorem Reps.drop:∀{ds:List D}{vs:List V}(n:Nat),Reps K H ds vs->Reps K H (ds.drop n) (vs.drop n)
 | [],_,n,h=>by cases h;simp[Reps]
 | _::_,_,0,h=>h
 | _::_,_,n+1,⟨v,r,h1,h2,h3⟩=>by subst h1;exact Reps.drop n h3
theorem Reps.ints:∀(ns:List Int),Reps K H (ns.map PyData.int) (ns.map V.int)
 | []=>rfl
 | n::r=>⟨.int n,r.map V.int,rfl,rfl,Reps.ints r⟩
theorem Reps.flatten(h:Reps K H ds vs):∀k:Nat,Reps K H (List.replicate k ds).flatten (List.replicate k vs).flatten
 | 0=>rfl
 | k+1=>by simp only[List.replicate_succ,List.flatten_cons];exact h.append (Reps.flatten h k)
structure Grow (H Hf H' Hf':Hp):Prop where
 big:B8 H H'
 sub:B8 Hf' H'
 ext:B8 Hf Hf'
 new:∀b,Hf' b≠none->Hf b≠none\/H b=none
theorem Grow.refl(h:B8 Hf H):Grow H Hf H Hf:=⟨B8.refl _,h,B8.refl _,fun _ h=>.inl h⟩
theorem Grow.trans(a:Grow H Hf H1 Hf1) (b:Grow H1 Hf1 H2 Hf2):Grow H Hf H2 Hf2 :=
 ⟨a.big.trans b.big,b.sub,a.ext.trans b.ext,fun x h=>(b.new x h).elim (a.new x) fun z=>.inr (a.big.free z)⟩
theorem D9(h:H p=none):B8 H (upd H p o):=fun b u e=>by rw[C2 (C7 e h)];exact e
theorem Grow.laid(s:B8 Hf H) (h:H p=none):Grow H Hf (upd H p o) (upd Hf p o):=by
 refine⟨D9 h,fun b u e=>?_,D9 (s.free h),fun b e=>?_⟩
 ·by_cases q:b=p
  ·subst q;rw[B5]at e;rw[B5];exact e
  ·rw[C2 q]at e;rw[C2 q];exact s b u e
 ·by_cases q:b=p
  ·subst q;exact .inr h
  ·rw[C2 q]at e;exact .inl e
theorem Grow.made(s:B8 Hf H) (h:H p=none):Grow H Hf (upd H p o) Hf :=
 ⟨D9 h,s.trans (D9 h),B8.refl _,fun _ e=>.inl e⟩
theorem Grow.freeze(g:Grow H Hf H1 Hf1) (h:H1 p=some o) (n:Hf1 p=none) (f:H p=none):Grow H Hf H1 (upd Hf1 p o):=by
 refine⟨g.big,fun b u e=>?_,g.ext.trans (D9 n),fun b e=>?_⟩
 ·by_cases q:b=p
  ·subst q;rw[B5]at e;rw[h];exact e
  ·rw[C2 q]at e;exact g.sub b u e
 ·by_cases q:b=p
  ·subst q;exact .inr f
  ·rw[C2 q]at e;exact g.new b e
end
inductive B where
 | val (d:D)
 | own (ds:List D)
 | exc (x:Str)
 | opq (a:Addr)
noncomputable abbrev Rho:=List (Option B)
noncomputable def clA(K:PySem.W.Frag) (x:Str):Option Addr:=match PySem.W.nsIn K mainGlobals x with
 | some (some (.ref C))=>some C
 | _=>none
noncomputable def SB(K:PySem.W.Frag) (H0 H Hf:Hp):B->V->Prop
 | .val d,v=>Rep K Hf d v
 | .own ds,v=>∃a vs,v=.ref a/\H a=some (.lst vs)/\Hf a=none/\H0 a=none/\Reps K Hf ds vs
 | .exc x,v=>∃a o C,v=.ref a/\Hf a=some (.frz o (.own a))/\clA K x=some C/\o.cls=.ref C
 | .opq a,v=>v=.ref a
structure Slots (K:PySem.W.Frag) (H0:Hp) (ρ:Rho) (σ:L2.St) (H Hf:Hp):Prop where
 len:ρ.length=σ.length
 is:∀(i:Nat) (b:B),ρ[i]? = some (some b)->∃v,σ[i]? = some (some v)/\SB K H0 H Hf b v
 apart:∀(i j:Nat) (ds es:List D) (a:Addr),ρ[i]? = some (some (.own ds))->ρ[j]? = some (some (.own es))->σ[i]? = some (some (V.ref a))->σ[j]? = some (some (V.ref a))->i=j
section
variable {K:PySem.W.Frag}{H H' H0 H1 H2 Hf Hf' Hf1 Hf2:Hp}{ρ:Rho}{σ:L2.St}
theorem SB.grow(h:SB K H0 H Hf b v) (g:Grow H Hf H' Hf'):SB K H0 H' Hf' b v:=by
 cases b with
 | val d=>exact Rep.mono g.ext h
 | opq a=>exact h
 | exc C =>
  obtain⟨a,o,C,e,h1,h2⟩:=h
  exact⟨a,o,C,e,g.ext _ _ h1,h2⟩
 | own ds =>
  obtain⟨a,vs,e,h1,h2,h3,h4⟩:=h
  refine⟨a,vs,e,g.big _ _ h1,?_,h3,h4.mono g.ext⟩
  cases q:Hf' a with
  | none=>rfl
  | some u =>
   rcases g.new a (by rw[q];simp) with z|z
   ·exact absurd h2 z
   ·rw[h1]at z;cases z
theorem Slots.grow(s:Slots K H0 ρ σ H Hf) (g:Grow H Hf H' Hf'):Slots K H0 ρ σ H' Hf' :=
 ⟨s.len,fun i b e=>let⟨v,h1,h2⟩:=s.is i b e;⟨v,h1,h2.grow g⟩,s.apart⟩
end
noncomputable abbrev DE:=Rho->Option D
noncomputable def tJ(K:PySem.W.Frag) (ρ:Rho) (R:Hp->V->Hp->Hp->Prop):TE:=fun σ H Q=>∃H0 Hf,B8 Hf H/\Slots K H0 ρ σ H Hf/\∀v H' Hf',Grow H Hf H' Hf'->R H v H' Hf'->Q v H'
noncomputable def JE(X:Cx) (e:Expr) (f:DE):Prop:=∀ρ d,f ρ=some d->PE X e (tJ X.K ρ fun _ v _ Hf=>Rep X.K Hf d v)
noncomputable def Sq(K:PySem.W.Frag):Bool->Hp->Addr->List V->Prop
 | true=>SqT K
 | false=>SqL K
noncomputable def RQ(K:PySem.W.Frag) (t:Bool) (ds:List D) (v:V) (H Hf:Hp):Prop:=∃a vs,v=.ref a/\Sq K t H a vs/\Reps K Hf ds vs
noncomputable def JQ(X:Cx) (e:Expr) (f:Rho->Option (Bool×List D)):Prop:=∀ρ t ds,f ρ=some (t,ds)->PE X e (tJ X.K ρ fun _ v H Hf=>RQ X.K t ds v H Hf)
noncomputable def JN(X:Cx) (e:Expr) (f:Rho->Option (List D)):Prop:=∀ρ ds,f ρ=some ds->PE X e (tJ X.K ρ fun H v H' Hf'=>∃a vs,v=.ref a/\H a=none/\H' a=some (.lst vs)/\Hf' a=none/\Reps X.K Hf' ds vs)
noncomputable def tJA(K:PySem.W.Frag) (ρ:Rho) (ds:List D):TA:=fun σ H Q=>∃H0 Hf,B8 Hf H/\Slots K H0 ρ σ H Hf/\∀vs H' Hf',Grow H Hf H' Hf'->Reps K Hf' ds vs->Q vs H'
structure JA (X:Cx) (es:List Expr) (f:Rho->Option (List D)):Prop where
 len:∀ρ ds,f ρ=some ds->ds.length=es.length
 run:∀ρ ds,f ρ=some ds->PA X es (tJA X.K ρ ds)
noncomputable def JT(X:Cx) (e:Expr) (f:Rho->Option Bool):Prop:=∀ρ c,f ρ=some c->PT X e (fun σ H Q=>∃H0 Hf,B8 Hf H/\Slots X.K H0 ρ σ H Hf/\∀H' Hf',Grow H Hf H' Hf'->Q c H')
noncomputable def JW(X:Cx) (e:Expr) (f:Rho->Option Bool):Prop:=∀ρ c,f ρ=some c->PW X e (fun σ H Q=>∃H0 Hf,B8 Hf H/\Slots X.K H0 ρ σ H Hf/\∀H' Hf',Grow H Hf H' Hf'->Q c H')
section
variable {X:Cx}
theorem B4(h:PE X e t) (i:∀σ H Q,t' σ H Q->t σ H Q):PE X e t':=fun pins s σ H Q I q=>h pins s σ H Q I (i σ H Q q)
theorem Y8(h:PT X e t) (i:∀σ H Q,t' σ H Q->t σ H Q):PT X e t':=fun pins s σ H Q I q=>h pins s σ H Q I (i σ H Q q)
noncomputable def dC(d:D):DE:=fun _=>some d
noncomputable def A1(i:Nat):DE:=fun ρ=>match ρ[i]? with
 | some (some (.val d))=>some d
 | _=>none
noncomputable def A8(i:Nat):Rho->Option (Bool×List D):=fun ρ=>match ρ[i]? with
 | some (some (.own ds))=>some (false,ds)
 | some (some (.val (.list ds)))=>some (false,ds)
 | some (some (.val (.tuple ds)))=>some (true,ds)
 | _=>none
noncomputable def au7:D->Option (Bool×List D)
 | .list ds=>some (false,ds)
 | .tuple ds=>some (true,ds)
 | _=>none
theorem bY5:JE X (.Constant (.int i) j pos) (dC (.int i)):=fun ρ d h=>by
 cases h
 exact B4 bP1 fun σ H Q ⟨H0,Hf,s,sl,k⟩=>k _ H Hf (Grow.refl s) rfl
theorem ck1:JE X (.Constant (.bool b) j pos) (dC (.bool b)):=fun ρ d h=>by
 cases h
 exact B4 cg9 fun σ H Q ⟨H0,Hf,s,sl,k⟩=>k _ H Hf (Grow.refl s) rfl
theorem bY1:JE X (.Constant .none j pos) (dC .none):=fun ρ d h=>by
 cases h
 exact B4 bP0 fun σ H Q ⟨H0,Hf,s,sl,k⟩=>k _ H Hf (Grow.refl s) rfl
theorem bX5:JE X (.Constant (.str x) j pos) (dC (.str x)):=fun ρ d h=>by
 cases h
 exact B4 bO8 fun σ H Q ⟨H0,Hf,s,sl,k⟩=>k _ H Hf (Grow.refl s) rfl
theorem bX3(i:Nat) (hN:X.N[i]? = some x:=by rfl) (hv:Vis X.env.scope x:=by first|exact Or.inl rfl|exact Or.inr (Or.inl rfl)|exact Or.inr (Or.inr rfl)) (hd:(x==("__debug__" : Str))=false:=by decide)
  (hcd:(x==("__classdict__" : Str))=false:=by decide):JE X (.Name x pos) (A1 i):=fun ρ d h=>by
 refine B4 (O0 hN hv hd hcd) fun σ H Q ⟨H0,Hf,s,sl,k⟩=>?_
 unfold A1 at h
 split at h
 ·rename_i d' e
  cases h
  obtain⟨v,h1,h2⟩:=sl.is i _ e
  exact⟨v,h1,k v H Hf (Grow.refl s) h2⟩
 ·cases h
theorem bW4(i:Nat) (hN:X.N[i]? = some x:=by rfl) (hv:Vis X.env.scope x:=by first|exact Or.inl rfl|exact Or.inr (Or.inl rfl)|exact Or.inr (Or.inr rfl)) (hd:(x==("__debug__" : Str))=false:=by decide)
  (hcd:(x==("__classdict__" : Str))=false:=by decide):JQ X (.Name x pos) (A8 i):=fun ρ t ds h=>by
 refine B4 (O0 hN hv hd hcd) fun σ H Q ⟨H0,Hf,s,sl,k⟩=>?_
 unfold A8 at h
 split at h
 ·rename_i d' e
  cases h
  obtain⟨v,h1,a,vs,rfl,h2,h3,h4,h5⟩:=sl.is i _ e
  exact⟨_,h1,k _ H Hf (Grow.refl s) ⟨a,vs,rfl,SqL.of h2,h5⟩⟩
 ·rename_i d' e
  cases h
  obtain⟨v,h1,a,vs,rfl,h2,h3⟩:=sl.is i _ e
  exact⟨_,h1,k _ H Hf (Grow.refl s) ⟨a,vs,rfl,E1 s h2,h3⟩⟩
 ·rename_i d' e
  cases h
  obtain⟨v,h1,a,vs,rfl,h2,h3⟩:=sl.is i _ e
  exact⟨_,h1,k _ H Hf (Grow.refl s) ⟨a,vs,rfl,C9 s h2,h3⟩⟩
 ·cases h
theorem Rep.seq{K:PySem.W.Frag}{H Hf:Hp}{d:D}{v:V}{t:Bool}{ds:List D}(h:Rep K Hf d v) (s:B8 Hf H) (e:au7 d=some (t,ds)):RQ K t ds v H Hf:=by
 cases d with
 | list xs=>cases e;obtain⟨a,vs,e1,e2,e3⟩:=h;exact⟨a,vs,e1,E1 s e2,e3⟩
 | tuple xs=>cases e;obtain⟨a,vs,e1,e2,e3⟩:=h;exact⟨a,vs,e1,C9 s e2,e3⟩
 | _=>cases e
noncomputable def qE(f:DE):Rho->Option (Bool×List D):=fun ρ=>(f ρ).bind au7
theorem bk6(h:JE X e f):JQ X e (qE f):=fun ρ t ds q=>by
 obtain⟨d,h1,h2⟩:=xbm q
 exact B4 (h ρ d h1) fun σ H Q ⟨H0,Hf,s,sl,k⟩=>⟨H0,Hf,s,sl,fun v H' Hf' g r=>k v H' Hf' g (r.seq g.sub h2)⟩
noncomputable def A5:Rho->Option (List D):=fun _=>some []
noncomputable def A0(f:DE) (g:Rho->Option (List D)):Rho->Option (List D):=fun ρ=>(f ρ).bind fun d=>(g ρ).map fun ds=>d::ds
theorem bZ1:JA X [] A5:=⟨fun ρ ds h=>by cases h;rfl,fun ρ ds h pos pins s σ H Q I ⟨H0,Hf,ss,sl,k⟩=>by
 cases h
 exact E9 pos pins s σ H Q I (k [] H Hf (Grow.refl ss) rfl)⟩
theorem bB2(h:JE X e f) (r:JA X es g) (hs:starEach (e::es) X.env=(false,eval e X.env)::starEach es X.env:=by rfl):JA X (e::es) (A0 f g):=by
 refine⟨fun ρ ds q=>?_,fun ρ ds q=>?_⟩
 ·obtain⟨d,h1,h2⟩:=xbm q
  obtain⟨es',h3,h4⟩:=Option.map_eq_some_iff.mp h2
  subst h4
  simp[r.len ρ es' h3]
 ·obtain⟨d,h1,h2⟩:=xbm q
  obtain⟨es',h3,h4⟩:=Option.map_eq_some_iff.mp h2
  subst h4
  intro pos pins s σ H Q I ⟨H0,Hf,ss,sl,k⟩
  refine D4 (h ρ d h1) (r.run ρ es' h3) hs pos pins s σ H Q I ⟨H0,Hf,ss,sl,fun v H1 Hf1 g1 r1=>⟨H0,Hf1,g1.sub,sl.grow g1,fun vs H2 Hf2 g2 r2=>?_⟩⟩
  exact k (v::vs) H2 Hf2 (g1.trans g2) ⟨v,vs,rfl,r1.mono g2.ext,r2⟩
noncomputable def O3(f:Rho->Option (List D)):DE:=fun ρ=>(f ρ).map PyData.tuple
theorem bX4(h:JA X es f) (hn:es.length<=1000:=by decide):JE X (.Tuple es k pos) (O3 f):=fun ρ d q=>by
 obtain⟨ds,h1,h2⟩:=Option.map_eq_some_iff.mp q
 subst h2
 refine B4 (bg2 fun pos pins s σ H Q I t=>h.run ρ ds h1 pos pins s σ H Q I t) fun σ H Q ⟨H0,Hf,s,sl,k⟩=>?_
 refine⟨H0,Hf,s,sl,fun vs H1 Hf1 g r=>⟨?_,fun p hp=>?_⟩⟩
 ·rw[r.length,h.len ρ ds h1];exact Nat.le_of_lt (V2 hn)
 ·exact k _ _ _ (g.trans (Grow.laid g.sub hp)) ⟨p,vs,rfl,SqT.of B5,r.mono (Grow.laid (o:=.tup vs) g.sub hp).ext⟩
theorem bW6(h:JA X es f) (hn:es.length<=1000:=by decide):JN X (.List es pos) f:=fun ρ ds h1=>by
 refine B4 (bg6 fun pos pins s σ H Q I t=>h.run ρ ds h1 pos pins s σ H Q I t) fun σ H Q ⟨H0,Hf,s,sl,k⟩=>?_
 refine⟨H0,Hf,s,sl,fun vs H1 Hf1 g r=>⟨?_,fun p hp=>?_⟩⟩
 ·rw[r.length,h.len ρ ds h1];exact Nat.le_of_lt (V2 hn)
 ·exact k _ _ _ (g.trans (Grow.made g.sub hp)) ⟨p,vs,rfl,g.big.free hp,B5,g.sub.free hp,r⟩
noncomputable def Y3(f:Rho->Option (List D)):DE:=fun ρ=>(f ρ).map PyData.list
theorem al9(h:JN X e f):JE X e (Y3 f):=fun ρ d q=>by
 obtain⟨ds,h1,h2⟩:=Option.map_eq_some_iff.mp q
 subst h2
 refine B4 (h ρ ds h1) fun σ H Q ⟨H0,Hf,s,sl,k⟩=>⟨H0,Hf,s,sl,fun v H' Hf' g ⟨a,vs,e1,e2,e3,e4,e5⟩=>?_⟩
 subst e1
 exact k _ _ _ (g.freeze e3 e4 e2) ⟨a,vs,rfl,SqL.of B5,e5.mono (D9 e4)⟩
theorem bk5(h:JN X e f):JQ X e (fun ρ=>(f ρ).map fun ds=>(false,ds)):=fun ρ t ds q=>by
 obtain⟨ds',h1,h2⟩:=Option.map_eq_some_iff.mp q
 cases h2
 refine B4 (h ρ ds h1) fun σ H Q ⟨H0,Hf,s,sl,k⟩=>⟨H0,Hf,s,sl,fun v H' Hf' g ⟨a,vs,e1,e2,e3,e4,e5⟩=>?_⟩
 subst e1
 exact k _ _ _ g ⟨a,vs,rfl,SqL.of e3,e5⟩
noncomputable def OpD(X:Cx) (F:Value->Value->Sem Value) (h:D->D->Option D):Prop:=∀x y z,h x y=some z ->
 OpR X F fun vx vy H Q=>∃Hf,B8 Hf H/\Rep X.K Hf x vx/\Rep X.K Hf y vy/\∀v H' Hf',Grow H Hf H' Hf'->Rep X.K Hf' z v->Q v H'
noncomputable def A6(h:D->D->Option D) (f g:DE):DE:=fun ρ=>(f ρ).bind fun x=>(g ρ).bind fun y=>h x y
theorem U8(o:OpD X (binaryOp op) h) (ha:JE X a f) (hb:JE X b g):JE X (.BinOp a op b pos) (A6 h f g):=fun ρ d q=>by
 obtain⟨x,h1,q⟩:=xbm q
 obtain⟨y,h2,h3⟩:=xbm q
 refine B4 (bg3 (o x y d h3) (ha ρ x h1) (hb ρ y h2)) fun σ H Q ⟨H0,Hf,s,sl,k⟩=>?_
 refine⟨H0,Hf,s,sl,fun v H1 Hf1 g1 r1=>⟨H0,Hf1,g1.sub,sl.grow g1,fun u H2 Hf2 g2 r2=>?_⟩⟩
 exact⟨Hf2,g2.sub,r1.mono g2.ext,r2,fun w H3 Hf3 g3 r3=>k w H3 Hf3 ((g1.trans g2).trans g3) r3⟩
theorem bY8(o:OpD X (compareOp op) h) (ha:JE X a f) (hb:JE X b g) (hm:behindInMarks op b=false:=by first|exact aw4 _|rfl):JE X (.Compare a [op] [b] pos) (A6 h f g):=fun ρ d q=>by
 obtain⟨x,h1,q⟩:=xbm q
 obtain⟨y,h2,h3⟩:=xbm q
 refine B4 (aP0 (o x y d h3) (ha ρ x h1) (hb ρ y h2) hm) fun σ H Q ⟨H0,Hf,s,sl,k⟩=>?_
 refine⟨H0,Hf,s,sl,fun v H1 Hf1 g1 r1=>⟨H0,Hf1,g1.sub,sl.grow g1,fun u H2 Hf2 g2 r2=>?_⟩⟩
 exact⟨Hf2,g2.sub,r1.mono g2.ext,r2,fun w H3 Hf3 g3 r3=>k w H3 Hf3 ((g1.trans g2).trans g3) r3⟩
theorem OpR.imp(h:OpR X F r) (i:∀x y H Q,r' x y H Q->r x y H Q):OpR X F r':=fun pins s σ H x y v u Q I rx ry q=>h pins s σ H x y v u Q I rx ry (i x y H Q q)
end
end G
namespace G
open PySem PySem.Spec PyProof.Rows L2
section
variable {X:Cx}
noncomputable def D7(i:Int):Prop:=i.natAbs < 2 ^ 8000
instance:DecidablePred D7:=fun i=>inferInstanceAs (Decidable (i.natAbs < 2 ^ 8000))
theorem D7.log(h:D7 i) (h0:i.natAbs≠0):i.natAbs.log2 < 8000:=(Nat.log2_lt h0).mpr h
theorem D7.bits(h:D7 i):Builtin.Int.intBits i<=2 ^ 20:=by
 unfold Builtin.Int.intBits
 split
 ·exact Nat.zero_le _
 ·rename_i h0
  have:=h.log (by simpa using h0)
  grind
theorem bw7:OpR X (binaryOp .Mult) (rI (fun i j=>D7 i/\D7 j) fun i j=>.int (i*j)):=opI fun _ _ _ _ _ _ _ hc q=>mul_int q (PySem.IntMulOk.of_bits hc.1.bits hc.2.bits)
noncomputable def addI(x y:D):Option D:=match x,y with
 | .int i,.int j=>some (.int (i+j))
 | _,_=>none
noncomputable def ao0(x y:D):Option D:=match x,y with
 | .int i,.int j=>some (.int (i - j))
 | .int i,.bool b=>some (.int (i - if b=true then 1 else 0))
 | .bool a,.int j=>some (.int ((if a=true then 1 else 0) - j))
 | _,_=>none
noncomputable def bR9(x y:D):Option D:=match x,y with
 | .int i,.int j=>if D7 i/\D7 j then some (.int (i*j)) else none
 | _,_=>none
noncomputable def u8(x y:D):Option D:=match x,y with
 | .int i,.int j=>if 0 < j/\D7 j then some (.int (i / j)) else none
 | _,_=>none
noncomputable def U7(x y:D):Option D:=match x,y with
 | .int i,.int j=>if 0 < j then some (.int (i % j)) else none
 | _,_=>none
noncomputable def bf6(x y:D):Option D:=match x,y with
 | .int i,.int j=>if 0<=j/\j<=1000000/\i.natAbs < 2 ^ 64 then some (.int (i ^ j.toNat)) else none
 | _,_=>none
theorem cp5:OpD X (binaryOp .Add) addI:=fun x y z h=>by
 unfold addI at h
 split at h
 ·cases h
  exact OpR.imp bh0 fun vx vy H Q ⟨Hf,s,r1,r2,k⟩=>⟨_,_,r1,r2,k _ H Hf (Grow.refl s) rfl⟩
 ·cases h
theorem bQ3:OpD X (binaryOp .Sub) ao0:=fun x y z h=>by
 unfold ao0 at h
 split at h
 ·cases h
  exact OpR.imp bP6 fun vx vy H Q ⟨Hf,s,r1,r2,k⟩=>⟨_,_,r1,r2,k _ H Hf (Grow.refl s) rfl⟩
 ·cases h
  intro pins s σ H vx vy v u Q I rx ry ⟨Hf,ss,r1,r2,k⟩
  cases r1;cases r2
  obtain⟨t,rfl⟩:=rx
  obtain rfl:u=Value.bool _:=ry
  exact PySem.IntBool.sub_int_bool ⟨.int _,H,I.tok _,⟨_,rfl⟩,k _ H Hf (Grow.refl ss) rfl⟩
 ·cases h
  intro pins s σ H vx vy v u Q I rx ry ⟨Hf,ss,r1,r2,k⟩
  cases r1;cases r2
  obtain⟨t,rfl⟩:=ry
  obtain rfl:v=Value.bool _:=rx
  exact PySem.IntBool.sub_bool_int ⟨.int _,H,I.tok _,⟨_,rfl⟩,k _ H Hf (Grow.refl ss) rfl⟩
 ·cases h
theorem bQ5:OpD X (binaryOp .Mult) bR9:=fun x y z h=>by
 unfold bR9 at h
 split at h
 ·split at h
  ·rename_i c
   cases h
   exact OpR.imp bw7 fun vx vy H Q ⟨Hf,s,r1,r2,k⟩=>⟨_,_,r1,r2,c,k _ H Hf (Grow.refl s) rfl⟩
  ·cases h
 ·cases h
theorem aU8:OpR X (binaryOp .FloorDiv) (rI (fun _ j=>0 < j/\D7 j) fun i j=>.int (i / j)):=opI fun i j _ _ s Q E hc q=>by
 have e:i.fdiv j=i / j:=Int.fdiv_eq_ediv_of_nonneg i (Int.le_of_lt hc.1)
 refine floordiv_int (by grind) (by rw[e];exact q) (.inl (PyProof.noPylong_of_log2 ?_))
 have h2:=hc.2.log (by grind)
 grind
theorem bQ9:OpD X (binaryOp .FloorDiv) u8:=fun x y z h=>by
 unfold u8 at h
 split at h
 ·split at h
  ·rename_i c
   cases h
   exact OpR.imp aU8 fun vx vy H Q ⟨Hf,s,r1,r2,k⟩=>⟨_,_,r1,r2,c,k _ H Hf (Grow.refl s) rfl⟩
  ·cases h
 ·cases h
theorem bQ6:OpD X (binaryOp .Mod) U7:=fun x y z h=>by
 unfold U7 at h
 split at h
 ·split at h
  ·rename_i c
   cases h
   exact OpR.imp bP8 fun vx vy H Q ⟨Hf,s,r1,r2,k⟩=>⟨_,_,r1,r2,c,k _ H Hf (Grow.refl s) rfl⟩
  ·cases h
 ·cases h
theorem bQ4:OpD X (binaryOp .Pow) bf6:=fun x y z h=>by
 unfold bf6 at h
 split at h
 ·split at h
  ·rename_i c
   cases h
   exact OpR.imp bP7 fun vx vy H Q ⟨Hf,s,r1,r2,k⟩=>⟨_,_,r1,r2,c,k _ H Hf (Grow.refl s) rfl⟩
  ·cases h
 ·cases h
theorem bg9:OpR X (binaryOp .Add) (fun x y H Q=>∃a b ys,x=.ref a/\y=.ref b/\SqT X.K H a []/\SqT X.K H b ys/\Q (.ref b) H):=by
 intro pins s σ H x y v u Q I rx ry h
 obtain⟨a,b,ys,rfl,rfl,ha,hb,q⟩:=h
 cases rx
 cases ry
 obtain⟨its,r1,p1,_⟩:=I.tuple ha
 obtain⟨its2,r2,p2,_⟩:=I.tuple hb
 cases r1
 obtain⟨⟨cls,dd,data,sl⟩,ho,hc,n,hd⟩:=id p1
 obtain⟨⟨cls2,dd2,data2,sl2⟩,ho2,hc2,n2,hd2⟩:=id p2
 simp only at hc hd hc2 hd2
 subst hc hd hc2 hd2
 exact concat_meets ⟨_,ho,rfl⟩ ⟨_,ho2,rfl⟩ noFill_tuple_add seq_tuple_add PySem.F.slot_tuple_add PySem.F.entry_tuple_add (PySem.F.args_tuple_add_2 _ _)
   (tuple_addW0 a b _ its2.toArray n n2 dd dd2 sl sl2 (by rfl)) ⟨ho,ho2,⟨.ref b,H,I,rfl,q⟩⟩
noncomputable def Y4(x y:D):Option D:=match x,y with
 | .tuple xs,.tuple ys=>if xs.length+ys.length<=16777216 then some (.tuple (xs++ys)) else none
 | .str a,.str b=>if a.length+b.length<=16777216 then some (.str (a++b)) else none
 | .int i,.int j=>some (.int (i+j))
 | .bool a,.int j=>some (.int ((if a=true then 1 else 0)+j))
 | _,_=>none
theorem bh7:OpD X (binaryOp .Add) Y4:=fun x y z h=>by
 unfold Y4 at h
 split at h
 ·split at h
  ·rename_i xs ys c
   cases h
   cases xs with
   | nil =>
    refine OpR.imp bg9 fun vx vy H Q ⟨Hf,s,r1,r2,k⟩=>?_
    obtain⟨a,vs,rfl,h2,h3⟩:=r1
    obtain⟨b,us,rfl,h5,h6⟩:=r2
    cases h3
    exact⟨a,b,us,rfl,rfl,C9 s h2,C9 s h5,k _ H Hf (Grow.refl s) ⟨b,us,rfl,h5,h6⟩⟩
   | cons d0 ds0 =>
    refine OpR.imp bw8 fun vx vy H Q ⟨Hf,s,r1,r2,k⟩=>?_
    obtain⟨a,vs,rfl,h2,h3⟩:=r1
    obtain⟨b,us,rfl,h5,h6⟩:=r2
    have l1:=h3.length
    have l2:=h6.length
    refine⟨a,b,vs,us,rfl,rfl,C9 s h2,C9 s h5,?_,by rw[sizeLine_eq];grind,fun e=>?_,fun e p hp=>?_⟩
    ·intro e;subst e;simp at l1
    ·subst e
     have:ys=[]:=by cases ys<;>simp_all
     subst this
     exact k _ H Hf (Grow.refl s) ⟨a,vs,rfl,h2,by rw[List.append_nil];exact h3⟩
    ·exact k _ _ _ (Grow.laid s hp) ⟨p,vs++us,rfl,SqT.of B5,(h3.append h6).mono (D9 (s.free hp))⟩
  ·cases h
 ·split at h
  ·rename_i c
   cases h
   exact OpR.imp aI0 fun vx vy H Q ⟨Hf,s,r1,r2,k⟩=>⟨_,_,r1,r2,by rw[sizeLine_eq];exact c,k _ H Hf (Grow.refl s) rfl⟩
  ·cases h
 ·cases h
  exact OpR.imp bh0 fun vx vy H Q ⟨Hf,s,r1,r2,k⟩=>⟨_,_,r1,r2,k _ H Hf (Grow.refl s) rfl⟩
 ·cases h
  intro pins s σ H vx vy v u Q I rx ry ⟨Hf,ss,r1,r2,k⟩
  cases r1;cases r2
  obtain⟨t,rfl⟩:=ry
  obtain rfl:v=Value.bool _:=rx
  exact PySem.IntBool.add_bool_int ⟨.int _,H,I.tok _,⟨_,rfl⟩,k _ H Hf (Grow.refl ss) rfl⟩
 ·cases h
noncomputable def ltI(x y:D):Option D:=match x,y with
 | .int i,.int j=>some (.bool (decide (i < j)))
 | _,_=>none
noncomputable def leI(x y:D):Option D:=match x,y with
 | .int i,.int j=>some (.bool (decide (i<=j)))
 | _,_=>none
noncomputable def gtI(x y:D):Option D:=match x,y with
 | .int i,.int j=>some (.bool (decide (j < i)))
 | _,_=>none
noncomputable def geI(x y:D):Option D:=match x,y with
 | .int i,.int j=>some (.bool (decide (j<=i)))
 | _,_=>none
theorem ch7:OpD X (compareOp .Lt) ltI:=fun x y z h=>by
 unfold ltI at h
 split at h
 ·cases h
  exact OpR.imp ch1 fun vx vy H Q ⟨Hf,s,r1,r2,k⟩=>⟨_,_,r1,r2,k _ H Hf (Grow.refl s) rfl⟩
 ·cases h
theorem ch8:OpD X (compareOp .LtE) leI:=fun x y z h=>by
 unfold leI at h
 split at h
 ·cases h
  exact OpR.imp ch2 fun vx vy H Q ⟨Hf,s,r1,r2,k⟩=>⟨_,_,r1,r2,k _ H Hf (Grow.refl s) rfl⟩
 ·cases h
theorem ci0:OpD X (compareOp .Gt) gtI:=fun x y z h=>by
 unfold gtI at h
 split at h
 ·cases h
  exact OpR.imp ch3 fun vx vy H Q ⟨Hf,s,r1,r2,k⟩=>⟨_,_,r1,r2,k _ H Hf (Grow.refl s) rfl⟩
 ·cases h
theorem ci1:OpD X (compareOp .GtE) geI:=fun x y z h=>by
 unfold geI at h
 split at h
 ·cases h
  exact OpR.imp ch4 fun vx vy H Q ⟨Hf,s,r1,r2,k⟩=>⟨_,_,r1,r2,k _ H Hf (Grow.refl s) rfl⟩
 ·cases h
mutual
theorem Rep.reads(I:Inv X pins σ H s):∀{d:D}{v:V}{u:Value},Rep X.K H d v->E4 v u->∃as,Reads s.heap u d as
 | .none,_,_,h,r=>by cases h;cases r;exact⟨_,.none⟩
 | .bool b,_,_,h,r=>by cases h;cases r;exact⟨_,.bool b⟩
 | .int i,_,_,h,r=>by cases h;obtain⟨t,rfl⟩:=r;exact⟨_,.int i t⟩
 | .str x,_,_,h,r=>by cases h;obtain⟨t,rfl⟩:=r;exact⟨_,.str x t⟩
 | .tuple ds,_,_,⟨a,vs,h1,h2,h3⟩,r=>by
  subst h1;cases r
  obtain⟨its,rv,⟨o,ho,hc,n,hd⟩,_⟩:=I.tuple h2
  obtain⟨as,q⟩:=Reps.reads I h3 rv
  exact⟨_,.tuple ho hc hd (by simpa using q)⟩
 | .list ds,_,_,⟨a,vs,h1,h2,h3⟩,r=>by
  subst h1;cases r
  obtain⟨its,rv,pl,_⟩:=I.list h2
  obtain⟨o,ho,hc,n,hd⟩:=pl.isList
  obtain⟨as,q⟩:=Reps.reads I h3 rv
  exact⟨_,.list ho hc hd (by simpa using q)⟩
 | .dict kvs,_,_,⟨a,m,h1,h2,h3⟩,r=>by
  subst h1;cases r
  obtain⟨_,_,vs,rk,o,es,ep,ho,hx,hd,_,hp,_⟩:=(show R1 X.prog X.w H s.heap a (.dK m) from I.hok a _ h2)
  obtain⟨as,bs,q1,q2⟩:=RepKs.reads I h3 rk hp
  exact⟨_,.dict ho hx.1 hd q1 q2⟩
theorem RepKs.reads(I:Inv X pins σ H s):∀{kvs:List (D×D)}{m:List (Key×V)}{vs:List (Key×Value)}{es:List DictEntry},RepKs X.K H kvs m->KV m vs->Pairs (aj0 X.prog X.w) es vs ->
  ∃as bs,ReadsAll s.heap (es.map (·.key)) (kvs.map (·.1)) as/\ReadsAll s.heap (es.map (·.val)) (kvs.map (·.2)) bs
 | [],_,_,_,h,r,p=>by cases h;cases r;cases p;exact⟨_,_,.nil,.nil⟩
 | (k,d)::kvs,_,_,_,⟨x,v,t,h1,h2,h3,h4⟩,r,p=>by
  subst h1 h2
  cases r with
  | @cons _ b _ bs r1 r2 =>
   cases p with
   | @cons e kv es _ p1 p2 p3 =>
    obtain⟨as,cs,q1,q2⟩:=RepKs.reads I h4 r2 p3
    obtain⟨r1,r3⟩:=r1
    rw[← p2]at r3
    obtain⟨ds,q3⟩:=Rep.reads I h3 r3
    rw[← r1]at p1
    have hk:∃t,e.key=.str x t:=Value.isStrOf_shape (x:=x) (v:=e.key) p1
    obtain⟨t,hk⟩:=hk
    refine⟨_,_,.cons (as:=[]) ?_ q1,.cons q3 q2⟩
    show Reads s.heap e.key (.str x) []
    rw[hk];exact .str x t
theorem Reps.reads(I:Inv X pins σ H s):∀{ds:List D}{vs:List V}{us:List Value},Reps X.K H ds vs->C8 vs us->∃as,ReadsAll s.heap us ds as
 | [],_,_,h,r=>by cases h;cases r;exact⟨_,.nil⟩
 | d::ds,_,_,⟨v,vr,h1,h2,h3⟩,r=>by
  subst h1
  cases r with
  | cons r1 r2 =>
   obtain⟨as,q1⟩:=Rep.reads I h2 r1
   obtain⟨bs,q2⟩:=Reps.reads I h3 r2
   exact⟨_,.cons q1 q2⟩
end
noncomputable def eqD(x y:D):Option D:=if SeqAt.shaped x=true/\SeqAt.shaped y=true then some (.bool (PyData.eqv x y)) else none
noncomputable def neD(x y:D):Option D:=if SeqAt.shaped x=true/\SeqAt.shaped y=true then some (.bool (!PyData.eqv x y)) else none
theorem bG6(hu:X.A.units+64 < cLine):OpD X (compareOp .Eq) eqD:=fun x y z h=>by
 unfold eqD at h
 split at h
 ·rename_i c
  cases h
  intro pins s σ H vx vy v u Q I rx ry ⟨Hf,ss,r1,r2,k⟩
  obtain⟨as,q1⟩:=Rep.reads I (r1.mono ss) rx
  obtain⟨bs,q2⟩:=Rep.reads I (r2.mono ss) ry
  exact eq_dataH q1 q2 c.1 c.2 hu ⟨.bl _,H,I,rfl,k _ H Hf (Grow.refl ss) rfl⟩
 ·cases h
theorem bG4(hu:X.A.units+64 < cLine):OpD X (compareOp .NotEq) neD:=fun x y z h=>by
 unfold neD at h
 split at h
 ·rename_i c
  cases h
  intro pins s σ H vx vy v u Q I rx ry ⟨Hf,ss,r1,r2,k⟩
  obtain⟨as,q1⟩:=Rep.reads I (r1.mono ss) rx
  obtain⟨bs,q2⟩:=Rep.reads I (r2.mono ss) ry
  exact ne_dataH q1 q2 c.1 c.2 hu ⟨.bl _,H,I,rfl,k _ H Hf (Grow.refl ss) rfl⟩
 ·cases h
noncomputable def isN(x y:D):Option D:=match x,y with
 | .none,.none=>some (.bool true)
 | _,.none=>some (.bool false)
 | _,_=>none
theorem aN9{K:PySem.W.Frag}{H:Hp}{d:D}{v:V}(h:Rep K H d v):(decide (v=.non))=(match d with | .none=>true|_=>false):=by
 cases d with
 | none=>cases h;rfl
 | bool b=>cases h;rfl
 | int b=>cases h;rfl
 | str b=>cases h;rfl
 | tuple ds=>obtain⟨a,vs,rfl,_⟩:=h;rfl
 | list ds=>obtain⟨a,vs,rfl,_⟩:=h;rfl
 | dict ds=>obtain⟨a,m,rfl,_⟩:=h;rfl
theorem bQ7:OpD X (compareOp .Is) isN:=fun x y z h=>by
 refine OpR.imp bP9 fun vx vy H Q ⟨Hf,s,r1,r2,k⟩=>?_
 have e:=aN9 r1
 cases y<;>cases x<;>simp only[isN,Option.some.injEq,reduceCtorEq]at h <;>
  (subst h;simp only at e;rw[e];exact⟨r2,k _ H Hf (Grow.refl s) rfl⟩)
noncomputable def bR0(x y:D):Option D:=match x,y with
 | .none,.none=>some (.bool false)
 | _,.none=>some (.bool true)
 | _,_=>none
theorem bx2:OpD X (compareOp .IsNot) bR0:=fun x y z h=>by
 refine OpR.imp bw6 fun vx vy H Q ⟨Hf,s,r1,r2,k⟩=>?_
 have e:=aN9 r1
 cases y<;>cases x<;>simp only[bR0,Option.some.injEq,reduceCtorEq]at h <;>
  (subst h;simp only at e;rw[e];exact⟨r2,k _ H Hf (Grow.refl s) rfl⟩)
noncomputable def S8(h1 h2:D->D->Option D) (f g k:DE):DE:=fun ρ=>(f ρ).bind fun x=>(g ρ).bind fun y=>(h1 x y).bind fun z=>match z with
 | .bool true=>(k ρ).bind fun w=>h2 y w
 | .bool false=>some (.bool false)
 | _=>none
theorem bm2(o1:OpD X (compareOp op) h1) (o2:OpD X (compareOp op') h2) (ha:JE X a f) (hb:JE X b g) (hc:JE X c k)
  (hm:lastMarks [op,op'] [b,c]=false:=by with_unfolding_all rfl):JE X (.Compare a [op,op'] [b,c] pos) (S8 h1 h2 f g k):=fun ρ d q=>by
 obtain⟨x,e1,q⟩:=xbm q
 obtain⟨y,e2,q⟩:=xbm q
 obtain⟨z,e3,q⟩:=xbm q
 split at q
 ·obtain⟨w,e4,e5⟩:=xbm q
  refine B4 (aB3 (o1 x y _ e3) (o2 y w d e5) (ha ρ x e1) (hb ρ y e2) (hc ρ w e4) hm) fun σ H Q ⟨H0,Hf,s,sl,kk⟩=>?_
  refine⟨H0,Hf,s,sl,fun v H1 Hf1 g1 r1=>⟨H0,Hf1,g1.sub,sl.grow g1,fun u H2 Hf2 g2 r2=>⟨Hf2,g2.sub,r1.mono g2.ext,r2,fun z' H3 Hf3 g3 r3=>?_⟩⟩⟩
  refine⟨true,r3,u6 ⟨H0,Hf3,g3.sub,sl.grow ((g1.trans g2).trans g3),fun w' H4 Hf4 g4 r4=>⟨Hf4,g4.sub,r2.mono (g3.trans g4).ext,r4,fun z2 H5 Hf5 g5 r5=>?_⟩⟩⟩
  exact kk z2 H5 Hf5 ((((g1.trans g2).trans g3).trans g4).trans g5) r5
 ·cases q
  intro pins s σ H Q I ⟨H0,Hf,ss,sl,kk⟩
  refine aB3 (tc:=fun _ _ _=>False) (r':=fun _ _ _ _=>False) (o1 x y _ e3) (fun _ _ _ _ _ _ _ _ _ _ _ _ h=>h.elim) (ha ρ x e1) (hb ρ y e2) (fun _ _ _ _ _ _ h=>h.elim) hm pins s σ H Q I ?_
  refine⟨H0,Hf,ss,sl,fun v H1 Hf1 g1 r1=>⟨H0,Hf1,g1.sub,sl.grow g1,fun u H2 Hf2 g2 r2=>⟨Hf2,g2.sub,r1.mono g2.ext,r2,fun z' H3 Hf3 g3 r3=>?_⟩⟩⟩
  exact⟨false,r3,ab3 (kk _ H3 Hf3 ((g1.trans g2).trans g3) rfl)⟩
 ·cases q
theorem bX9(h:JE X a f):JE X (.BoolOp op [a] pos) f:=fun ρ d q=>bg4 (h ρ d q)
noncomputable def O5(f g:DE):DE:=fun ρ=>(f ρ).bind fun x=>match x with
 | .bool true=>g ρ
 | .bool false=>some (.bool false)
 | _=>none
noncomputable def dOr(f g:DE):DE:=fun ρ=>(f ρ).bind fun x=>match x with
 | .bool true=>some (.bool true)
 | .bool false=>g ρ
 | .none=>g ρ
 | .tuple (y::r)=>some (.tuple (y::r))
 | _=>none
noncomputable def bp6(f:DE):DE:=fun ρ=>(f ρ).bind fun x=>match x with
 | .bool c=>some (.bool (!c))
 | _=>none
theorem bY9{a b:Expr}{N5:List Expr}{f g:DE}{pos:Pos}(ha:JE X a f) (hb:JE X (.BoolOp .And (b::N5) pos) g):JE X (.BoolOp .And (a::b::N5) pos) (O5 f g):=fun ρ d q=>by
 obtain⟨x,e1,q⟩:=xbm q
 split at q
 ·refine B4 (av9 (ha ρ _ e1) (hb ρ d q)) fun σ H Q ⟨H0,Hf,s,sl,k⟩=>⟨H0,Hf,s,sl,fun v H1 Hf1 g1 r1=>⟨true,r1,u6 ⟨H0,Hf1,g1.sub,sl.grow g1,fun u H2 Hf2 g2 r2=>k u H2 Hf2 (g1.trans g2) r2⟩⟩⟩
 ·cases q
  refine B4 (av9 (tb:=fun _ _ _=>False) (ha ρ _ e1) (fun _ _ _ _ _ _ h=>h.elim)) fun σ H Q ⟨H0,Hf,s,sl,k⟩=>⟨H0,Hf,s,sl,fun v H1 Hf1 g1 r1=>⟨false,r1,ab3 (k _ H1 Hf1 g1 rfl)⟩⟩
 ·cases q
theorem bY0(ha:JE X a f):JE X (.UnaryOp .Not a pos) (bp6 f):=fun ρ d q=>by
 obtain⟨x,e1,q⟩:=xbm q
 split at q
 ·cases q
  exact B4 (bO9 (ha ρ _ e1)) fun σ H Q ⟨H0,Hf,s,sl,k⟩=>⟨H0,Hf,s,sl,fun v H1 Hf1 g1 r1=>⟨_,r1,k _ H1 Hf1 g1 rfl⟩⟩
 ·cases q
noncomputable def bc8:D->Option Bool
 | .none=>some false
 | .bool b=>some b
 | .int i=>some (i != 0)
 | .str x=>if x.length<=16777216 then some ((x.length:Int) != 0) else none
 | .list ds=>some (!ds.isEmpty)
 | .tuple ds=>some (!ds.isEmpty)
 | .dict _=>none
noncomputable def G9(f:DE):Rho->Option Bool:=fun ρ=>(f ρ).bind bc8
theorem bV2(ha:JE X a f) (he:∀whole,isTrue a X.env whole=(do let v ← whole;standAt a.pos;holding [v] (truthy v)):=by intro _;rfl):JT X a (G9 f):=fun ρ c q=>by
 obtain⟨d,e1,e2⟩:=xbm q
 refine Y8 (aA8 (ha ρ d e1) he) fun σ H Q ⟨H0,Hf,s,sl,k⟩=>⟨H0,Hf,s,sl,fun v H1 Hf1 g1 r1=>⟨c,?_,k H1 Hf1 g1⟩⟩
 cases d with
 | none=>cases e2;cases r1;rfl
 | bool b=>cases e2;cases r1;rfl
 | int i=>cases e2;cases r1;rfl
 | str x =>
  simp only[bc8]at e2
  split at e2
  ·rename_i hx;cases e2;cases r1;exact⟨by rw[sizeLine_eq];exact hx,rfl⟩
  ·cases e2
 | list ds =>
  cases e2
  obtain⟨a,vs,rfl,h2,h3⟩:=r1
  refine .inl ⟨vs,E1 g1.sub h2,?_⟩
  have:=h3.length
  cases ds<;>cases vs<;>simp_all
 | tuple ds =>
  cases e2
  obtain⟨a,vs,rfl,h2,h3⟩:=r1
  refine .inr (.inl ⟨vs,C9 g1.sub h2,?_⟩)
  have:=h3.length
  cases ds<;>cases vs<;>simp_all
 | dict _=>cases e2
noncomputable def U9:D->Option Bool
 | .bool b=>some b
 | _=>none
noncomputable def tB2(h:D->D->Option D) (f g:DE):Rho->Option Bool:=fun ρ=>(A6 h f g ρ).bind U9
theorem aS9(h:U9 d=some c):d=.bool c:=by
 cases d<;>simp[U9]at h
 subst h;rfl
theorem bV4(o:OpD X (compareOp op) h) (ha:JE X a f) (hb:JE X b g) (hm:behindInMarks op b=false:=by first|exact aw4 _|rfl):JT X (.Compare a [op] [b] pos) (tB2 h f g):=fun ρ c q=>by
 obtain⟨d,q,e⟩:=xbm q
 obtain⟨x,h1,q⟩:=xbm q
 obtain⟨y,h2,h3⟩:=xbm q
 have:=aS9 e
 subst this
 refine Y8 (aO4 (o x y _ h3) (ha ρ x h1) (hb ρ y h2) hm) fun σ H Q ⟨H0,Hf,s,sl,k⟩=>?_
 refine⟨H0,Hf,s,sl,fun v H1 Hf1 g1 r1=>⟨H0,Hf1,g1.sub,sl.grow g1,fun u H2 Hf2 g2 r2=>?_⟩⟩
 exact⟨Hf2,g2.sub,r1.mono g2.ext,r2,fun w H3 Hf3 g3 r3=>⟨c,r3,k H3 Hf3 ((g1.trans g2).trans g3)⟩⟩
noncomputable def bd1(f g:Rho->Option Bool):Rho->Option Bool:=fun ρ=>(f ρ).bind fun c=>if c then g ρ else some false
noncomputable def U6(f g:Rho->Option Bool):Rho->Option Bool:=fun ρ=>(f ρ).bind fun c=>if c then some true else g ρ
noncomputable def K1(f:Rho->Option Bool):Rho->Option Bool:=fun ρ=>(f ρ).map fun c=>!c
theorem Y7(h:PW X e t) (i:∀σ H Q,t' σ H Q->t σ H Q):PW X e t':=fun whole pins s σ H Q I q=>h whole pins s σ H Q I (i σ H Q q)
theorem bj9(h:JW X e f):JT X e f:=fun ρ c q=>(h ρ c q).pt
theorem bz3(h:JT X a f):JW X (.BoolOp .And [a] pos) f:=fun ρ c q=>aO3 (h ρ c q)
theorem bU8(h:JT X a f):JW X (.BoolOp .Or [a] pos) f:=fun ρ c q=>bf1 (h ρ c q)
theorem bU9{a b:Expr}{N5:List Expr}{f g:Rho->Option Bool}{pos:Pos}(ha:JT X a f) (hb:JW X (.BoolOp .And (b::N5) pos) g):JW X (.BoolOp .And (a::b::N5) pos) (bd1 f g):=fun ρ c q=>by
 obtain⟨x,e1,q⟩:=xbm q
 cases x with
 | true=>exact Y7 (av5 (ha ρ _ e1) (hb ρ c (by simpa using q))) fun σ H Q ⟨H0,Hf,s,sl,k⟩=>⟨H0,Hf,s,sl,fun H1 Hf1 g1=>u6 ⟨H0,Hf1,g1.sub,sl.grow g1,fun H2 Hf2 g2=>k H2 Hf2 (g1.trans g2)⟩⟩
 | false =>
  have:c=false:=by simpa using q.symm
  subst this
  exact Y7 (av5 (tB':=fun _ _ _=>False) (ha ρ _ e1) (fun _ _ _ _ _ _ _ h=>h.elim)) fun σ H Q ⟨H0,Hf,s,sl,k⟩=>⟨H0,Hf,s,sl,fun H1 Hf1 g1=>ab3 (k H1 Hf1 g1)⟩
theorem cj6{a b:Expr}{N5:List Expr}{f g:Rho->Option Bool}{pos:Pos}(ha:JT X a f) (hb:JW X (.BoolOp .Or (b::N5) pos) g):JW X (.BoolOp .Or (a::b::N5) pos) (U6 f g):=fun ρ c q=>by
 obtain⟨x,e1,q⟩:=xbm q
 cases x with
 | false=>exact Y7 (aO2 (ha ρ _ e1) (hb ρ c (by simpa using q))) fun σ H Q ⟨H0,Hf,s,sl,k⟩=>⟨H0,Hf,s,sl,fun H1 Hf1 g1=>ab3 ⟨H0,Hf1,g1.sub,sl.grow g1,fun H2 Hf2 g2=>k H2 Hf2 (g1.trans g2)⟩⟩
 | true =>
  have:c=true:=by simpa using q.symm
  subst this
  exact Y7 (aO2 (tB':=fun _ _ _=>False) (ha ρ _ e1) (fun _ _ _ _ _ _ _ h=>h.elim)) fun σ H Q ⟨H0,Hf,s,sl,k⟩=>⟨H0,Hf,s,sl,fun H1 Hf1 g1=>u6 (k H1 Hf1 g1)⟩
theorem bV3(ha:JT X a f):JT X (.UnaryOp .Not a pos) (K1 f):=fun ρ c q=>by
 obtain⟨x,e1,e2⟩:=Option.map_eq_some_iff.mp q
 subst e2
 exact Y8 (bf2 (ha ρ x e1)) fun σ H Q ⟨H0,Hf,s,sl,k⟩=>⟨H0,Hf,s,sl,fun H1 Hf1 g1=>k H1 Hf1 g1⟩
noncomputable def ae4(t:Rho->Option Bool) (f g:DE):DE:=fun ρ=>(t ρ).bind fun c=>if c then f ρ else g ρ
theorem bY6(hc:JT X c t) (ha:JE X a f) (hb:JE X b g):JE X (.IfExp c a b pos) (ae4 t f g):=fun ρ d q=>by
 obtain⟨x,e1,q⟩:=xbm q
 cases x with
 | true=>exact B4 (aB2 (tb:=fun _ _ _=>False) (hc ρ _ e1) (ha ρ d (by simpa using q)) (fun _ _ _ _ _ _ h=>h.elim)) fun σ H Q ⟨H0,Hf,s,sl,k⟩=>⟨H0,Hf,s,sl,fun H1 Hf1 g1=>u6 ⟨H0,Hf1,g1.sub,sl.grow g1,fun u H2 Hf2 g2 r2=>k u H2 Hf2 (g1.trans g2) r2⟩⟩
 | false=>exact B4 (aB2 (ta:=fun _ _ _=>False) (hc ρ _ e1) (fun _ _ _ _ _ _ h=>h.elim) (hb ρ d (by simpa using q))) fun σ H Q ⟨H0,Hf,s,sl,k⟩=>⟨H0,Hf,s,sl,fun H1 Hf1 g1=>ab3 ⟨H0,Hf1,g1.sub,sl.grow g1,fun u H2 Hf2 g2 r2=>k u H2 Hf2 (g1.trans g2) r2⟩⟩
noncomputable def dIx(f:Rho->Option (Bool×List D)) (g:DE):DE:=fun ρ=>(f ρ).bind fun q=>(g ρ).bind fun i=>match i with
 | .int i=>atI q.2 i
 | _=>none
theorem aa5{K:PySem.W.Frag}{H:Hp}{ds:List D}{vs:List V}{i:Int}{d:D}(h:Reps K H ds vs) (e:atI ds i=some d):∃v,atI vs i=some v/\Rep K H d v:=by
 unfold atI at e ⊢
 rw[h.length]
 obtain⟨j,h1,h2⟩:=xbm e
 obtain⟨v,h3,h4⟩:=h.get h2
 exact⟨v,by rw[h1];exact h3,h4⟩
theorem ck0{a b:Expr}{f:Rho->Option (Bool×List D)}{g:DE}{pos:Pos}(ha:JQ X a f) (hb:JE X b g) (hs:j4 b:=by intro _ _;rfl):JE X (.Subscript a b pos) (dIx f g):=fun ρ d q=>by
 obtain⟨⟨t,ds⟩,h1,q⟩:=xbm q
 obtain⟨y,h2,h3⟩:=xbm q
 split at h3
 ·refine B4 (aO9 aw9 (ha ρ t ds h1) (hb ρ _ h2) hs) fun σ H Q ⟨H0,Hf,s,sl,k⟩=>?_
  refine⟨H0,Hf,s,sl,fun v H1 Hf1 g1 ⟨p,vs,e1,e2,e3⟩=>⟨H0,Hf1,g1.sub,sl.grow g1,fun u H2 Hf2 g2 r2=>?_⟩⟩
  obtain⟨w,q1,q2⟩:=aa5 (e3.mono g2.ext) h3
  cases t with
  | true=>exact .inr (.inl ⟨p,vs,_,w,e1,r2,C9 g2.big e2,q1,k w H2 Hf2 (g1.trans g2) q2⟩)
  | false=>exact .inl ⟨p,vs,_,w,e1,r2,E1 g2.big e2,q1,k w H2 Hf2 (g1.trans g2) q2⟩
 ·cases h3
noncomputable def ab7(xs:List D) (lo hi:Option Int):List D:=(xs.drop (HT.sIx xs.length 0 lo)).take (HT.sIx xs.length xs.length hi - HT.sIx xs.length 0 lo)
theorem ak6{K:PySem.W.Frag}{H:Hp}{ds:List D}{vs:List V}(h:Reps K H ds vs) (lo hi:Option Int):Reps K H (ab7 ds lo hi) (aE7 vs lo hi):=by
 unfold ab7 aE7
 rw[h.length]
 exact(h.drop _).take _
noncomputable def JO(X:Cx) (e:Option Expr) (f:Rho->Option (Option Int)):Prop:=∀ρ o,f ρ=some o->PO X e (fun σ H Q=>∃H0 Hf,B8 Hf H/\Slots X.K H0 ρ σ H Hf/\∀H' Hf',Grow H Hf H' Hf'->Q o H')
noncomputable def Y9:Rho->Option (Option Int):=fun _=>some none
noncomputable def bm5:D->Option Int
 | .int i=>some i
 | _=>none
noncomputable def K3(f:DE):Rho->Option (Option Int):=fun ρ=>(f ρ).bind fun d=>(bm5 d).map some
theorem bA3:JO X none Y9:=fun ρ o q=>by
 cases q
 intro pins s σ H Q I ⟨H0,Hf,ss,sl,k⟩
 exact bv4 pins s σ H Q I (k H Hf (Grow.refl ss))
theorem bA2(h:JE X e f):JO X (some e) (K3 f):=fun ρ o q=>by
 obtain⟨d,e1,e2⟩:=xbm q
 obtain⟨i,e3,e4⟩:=Option.map_eq_some_iff.mp e2
 subst e4
 cases d<;>simp[bm5]at e3
 subst e3
 intro pins s σ H Q I ⟨H0,Hf,ss,sl,k⟩
 exact bv3 (h ρ _ e1) pins s σ H Q I ⟨H0,Hf,ss,sl,fun v H1 Hf1 g1 r1=>⟨_,r1,k H1 Hf1 g1⟩⟩
noncomputable def aE6(f:DE) (lo hi:Rho->Option (Option Int)):DE:=fun ρ=>(f ρ).bind fun d=>(lo ρ).bind fun l=>(hi ρ).bind fun h=>match d with
 | .tuple xs=>some (.tuple (ab7 xs l h))
 | _=>none
theorem k9{prog:Program}{w:World}{A:Around}{E:Value->Shared->Prop}{s:Shared}{t sl:Addr}{items:Array Value}{vl vu:Value}{lo hi:Option Int}{Q:Value->Shared->Prop}(ht:IsTup s.heap t items) (hs:s.heap.IsSliceOf sl vl vu .none) (pl:IsPart vl lo) (pu:IsPart vu hi)
  (hw:HT.sIx items.size 0 lo=0/\HT.sIx items.size items.size hi=items.size) (h:Q (.ref t) s):wpAny (model prog w) A (getItem (.ref t) (.ref sl)) Q E s:=by
 obtain⟨os,hos,hcs,hds⟩:=id hs
 have hTs:s.TypeIs (.ref sl) "slice" := ⟨os,hos,hcs⟩
 unfold getItem
 try with_reducible refine wpAny_holding ?_
 first|refine wpAny_bind (wpAny_pure ?_)|skip
 refine wpAny_bind (wpAny_sequenceKey ht.typeIs (by decide) ?_)
 refine wpAny_bind (wpAny_callSpecial?_slot (name:=Str.ofString "__getitem__") ht.typeIs PyProof.Rows.slot_tuple_getitem
  (wpAny_call_entry PyProof.Rows.slot_tuple_getitem ht.typeIs entry_tuple_getitem ?_ (args_tuple_getitem _ _)))
 show wpAny _ _ (Builtin.Tuple.tupleItemsOf (.ref t) >>= _) _ _ s
 refine wpAny_bind (tupleItemsOf_ ht ?_)
 refine wpAny_bind (wpAny_typeOf hTs ?_)
 rw[if_pos (by decide)]
 refine wpAny_bind (HT.sliceApplied_gen hs pl pu ?_)
 have hyes:((((HT.sIx items.size 0 lo:Nat):Int)==0&&(1:Int)==1&&(HT.sIx items.size items.size hi - HT.sIx items.size 0 lo)==items.size)=true):=by
  rw[hw.1,hw.2];simp
 show wpAny _ _ (if(((HT.sIx items.size 0 lo:Nat):Int)==0&&(1:Int)==1&&(HT.sIx items.size items.size hi - HT.sIx items.size 0 lo)==items.size)=true then _ else _) _ _ s
 rw[if_pos hyes]
 unfold Builtin.Tuple.tupleIsExact
 refine wpAny_bind (wpAny_bind (wpAny_typeOf ht.typeIs (wpAny_pure ?_)))
 rw[if_pos (by decide +kernel)]
 exact wpAny_bind (wpAny_rule (wpAny_pure ⟨_,rfl,wpAny_pure h⟩))
theorem au5:SlR X (fun x lo hi H Q=>∃a xs,x=.ref a/\SqT X.K H a xs/\(HT.sIx xs.length 0 lo=0/\HT.sIx xs.length xs.length hi=xs.length)/\Q (.ref a) H):=by
 intro pins s σ H x v vl vu lo hi sl Q I rx hs pl pu h
 obtain⟨a,xs,rfl,hx,hw,q⟩:=h
 cases rx
 obtain⟨its,r,ht,hz⟩:=I.tuple hx
 have hlen:its.toArray.size=xs.length:=by rw[List.size_toArray];exact r.length.symm
 refine⟨"tuple", _,PyProof.Rows.slot_tuple_getitem.lookup,ht.typeIs,?_⟩
 exact k9 ht hs pl pu (by rw[hlen];exact hw) ⟨.ref a,H,I,rfl,q⟩
theorem bl8{a:Expr}{lo hi:Option Expr}{f:DE}{l h:Rho->Option (Option Int)}{pos p2:Pos}(ha:JE X a f) (hl:JO X lo l) (hh:JO X hi h):JE X (.Subscript a (.Slice lo hi none p2) pos) (aE6 f l h):=fun ρ d q=>by
 obtain⟨x,e1,q⟩:=xbm q
 obtain⟨y,e2,q⟩:=xbm q
 obtain⟨z,e3,q⟩:=xbm q
 cases x with
 | tuple xs =>
  cases q
  refine B4 (aa8 (bN3.or au5) (ha ρ _ e1) (hl ρ y e2) (hh ρ z e3)) fun σ H Q ⟨H0,Hf,s,sl,k⟩=>?_
  refine⟨H0,Hf,s,sl,fun v H1 Hf1 g1 ⟨p,vs,q1,q2,q3⟩=>⟨H0,Hf1,g1.sub,sl.grow g1,fun H2 Hf2 g2=>⟨H0,Hf2,g2.sub,sl.grow (g1.trans g2),fun H3 Hf3 g3=>?_⟩⟩⟩
  subst q1
  have q2':=C9 (g2.trans g3).ext q2
  have q3':=q3.mono (g2.trans g3).ext
  by_cases c:HT.sIx vs.length 0 y=0/\HT.sIx vs.length vs.length z=vs.length
  ·refine .inr ⟨p,vs,rfl,C9 g3.sub q2',c,k _ H3 Hf3 ((g1.trans g2).trans g3) ⟨p,vs,rfl,q2',?_⟩⟩
   have:ab7 xs y z=xs:=by
    unfold ab7
    rw[← q3.length,c.1,c.2]
    simp[q3.length]
   rw[this];exact q3'
  ·refine .inl ⟨p,vs,rfl,C9 g3.sub q2',c,fun p' hp=>?_⟩
   exact k _ _ _ (((g1.trans g2).trans g3).trans (Grow.laid g3.sub hp)) ⟨p',_,rfl,SqT.of B5,(ak6 q3' y z).mono (D9 (g3.sub.free hp))⟩
 | _=>cases q
end
end G
namespace G
open PySem PySem.Spec PyProof.Rows L2
section
variable {X:Cx}
theorem ay6:bootBuiltins "len" = some (.builtin "len"):=PySem.boot_len
theorem cb4:bootBuiltins "all" = some (.builtin "all"):=by decide +kernel
theorem cb3:bootBuiltins "isinstance" = some (.builtin "isinstance"):=by decide +kernel
theorem ay7:bootBuiltins "int" = some (.type "int"):=by decide +kernel
theorem bD5:bootBuiltins "bool" = some (.type "bool"):=by decide +kernel
theorem aL3:bootBuiltins "str" = some (.type "str"):=by decide +kernel
theorem aT0:bootBuiltins "list" = some (.type "list"):=by decide +kernel
theorem aF3:bootBuiltins "tuple" = some (.type "tuple"):=by decide +kernel
noncomputable def S7(f:Rho->Option (Bool×List D)):DE:=fun ρ=>(f ρ).map fun q=>.int q.2.length
theorem bl9(hg:Gl X "len") (hm:X.mg "len" = none) (h:JQ X e f) (he:starEach [e] X.env=[(false,eval e X.env)]:=by rfl):JE X (.Call (.Name "len" p) [e] [] pos) (S7 f):=fun ρ d q=>by
 obtain⟨⟨t,ds⟩,h1,h2⟩:=Option.map_eq_some_iff.mp q
 subst h2
 refine B4 (P5 ac0 hg hm ay6 (D4 (h ρ t ds h1) E9 he) (he:=he)) fun σ H Q ⟨H0,Hf,s,sl,k⟩=>?_
 refine⟨H0,Hf,s,sl,fun v H1 Hf1 g1 ⟨a,vs,e1,e2,e3⟩=>⟨a,vs,by rw[e1],?_,?_⟩⟩
 ·cases t with
  | true=>exact .inr e2
  | false=>exact .inl e2
 ·exact k _ H1 Hf1 g1 (by rw[e3.length];rfl)
theorem bl6(hg:Gl X "tuple") (hm:X.mg "tuple" = none) (h:JQ X e f) (hz:∀ρ ds,f ρ≠some (true,ds)\/True:=by intros;exact .inr trivial) (he:starEach [e] X.env=[(false,eval e X.env)]:=by rfl) :
  JE X (.Call (.Name "tuple" p) [e] [] pos) (fun ρ=>(f ρ).bind fun q=>if q.1=true then none else some (.tuple q.2)):=fun ρ d q=>by
 obtain⟨⟨t,ds⟩,h1,h2⟩:=xbm q
 cases t with
 | true=>simp at h2
 | false =>
  simp only[Bool.false_eq_true,if_false,Option.some.injEq]at h2
  subst h2
  refine B4 (M2 ap1 hg hm aF3 (D4 (h ρ false ds h1) E9 he) (he:=he)) fun σ H Q ⟨H0,Hf,s,sl,k⟩=>?_
  refine⟨H0,Hf,s,sl,fun v H1 Hf1 g1 ⟨a,vs,e1,e2,e3⟩=>⟨a,vs,by rw[e1],.inl ⟨e2,fun l hl=>?_⟩⟩⟩
  exact k _ _ _ (g1.trans (Grow.laid g1.sub hl)) ⟨l,vs,rfl,SqT.of B5,e3.mono (D9 (g1.sub.free hl))⟩
theorem bA4(hg:Gl X "list") (hm:X.mg "list" = none) (h:JQ X e f) (he:starEach [e] X.env=[(false,eval e X.env)]:=by rfl):JN X (.Call (.Name "list" p) [e] [] pos) (fun ρ=>(f ρ).map fun q=>q.2):=fun ρ ds' q=>by
 obtain⟨⟨t,ds⟩,h1,h2⟩:=Option.map_eq_some_iff.mp q
 subst h2
 refine B4 (M2 ay4 hg hm aT0 (D4 (h ρ t ds h1) E9 he) (he:=he)) fun σ H Q ⟨H0,Hf,s,sl,k⟩=>?_
 refine⟨H0,Hf,s,sl,fun v H1 Hf1 g1 ⟨a,vs,e1,e2,e3⟩=>⟨a,vs,by rw[e1],?_,fun l hl=>?_⟩⟩
 ·cases t with
  | true=>exact .inr e2
  | false=>exact .inl e2
 ·exact k _ _ _ (g1.trans (Grow.made g1.sub hl)) ⟨l,vs,rfl,g1.big.free hl,B5,g1.sub.free hl,e3⟩
noncomputable def ai0(f:DE):DE:=fun ρ=>(f ρ).bind fun d=>match d with
 | .int i=>some (.int i)
 | .bool b=>some (.int (if b then 1 else 0))
 | _=>none
theorem bm1(hg:Gl X "int") (hm:X.mg "int" = none) (h:JE X e f) (he:starEach [e] X.env=[(false,eval e X.env)]:=by rfl):JE X (.Call (.Name "int" p) [e] [] pos) (ai0 f):=fun ρ d q=>by
 obtain⟨x,h1,h2⟩:=xbm q
 split at h2
 ·cases h2
  exact B4 (M2 as3 hg hm ay7 (D4 (h ρ _ h1) E9 he) (he:=he)) fun σ H Q ⟨H0,Hf,s,sl,k⟩ =>
   ⟨H0,Hf,s,sl,fun v H1 Hf1 g1 r=>.inl ⟨_,by rw[show v=_ from r],k _ H1 Hf1 g1 rfl⟩⟩
 ·cases h2
  exact B4 (M2 as3 hg hm ay7 (D4 (h ρ _ h1) E9 he) (he:=he)) fun σ H Q ⟨H0,Hf,s,sl,k⟩ =>
   ⟨H0,Hf,s,sl,fun v H1 Hf1 g1 r=>.inr ⟨_,by rw[show v=_ from r],k _ H1 Hf1 g1 rfl⟩⟩
 ·cases h2
noncomputable def O4(f:DE):DE:=fun ρ=>(f ρ).bind fun d=>match d with
 | .int i=>if i.natAbs.log2 < 1920 then some (.str (toString i)) else none
 | .bool b=>some (.str (if b=true then "True" else "False"))
 | _=>none
theorem ap2:T3 X (.type "str") (fun xs H Q=>∃b,xs=[.bl b]/\Q (.str (if b=true then "True" else "False")) H):=by
 intro pins s σ H xs us Q I r h
 obtain⟨b,rfl,q⟩:=h
 obtain⟨u,rfl,e⟩:=Y2 r
 obtain rfl:u=Value.bool b:=e
 exact PySem.P.str_of_bool ⟨.str _,H,I.tok _,⟨_,rfl⟩,q⟩
theorem bl7(hg:Gl X "str") (hm:X.mg "str" = none) (h:JE X e f) (he:starEach [e] X.env=[(false,eval e X.env)]:=by rfl):JE X (.Call (.Name "str" p) [e] [] pos) (O4 f):=fun ρ d q=>by
 obtain⟨x,h1,h2⟩:=xbm q
 split at h2
 ·split at h2
  ·rename_i c
   cases h2
   exact B4 (M2 ay3 hg hm aL3 (D4 (h ρ _ h1) E9 he) (he:=he)) fun σ H Q ⟨H0,Hf,s,sl,k⟩ =>
    ⟨H0,Hf,s,sl,fun v H1 Hf1 g1 r=>⟨_,by rw[show v=_ from r],c,k _ H1 Hf1 g1 rfl⟩⟩
  ·cases h2
 ·cases h2
  exact B4 (M2 ap2 hg hm aL3 (D4 (h ρ _ h1) E9 he) (he:=he)) fun σ H Q ⟨H0,Hf,s,sl,k⟩ =>
   ⟨H0,Hf,s,sl,fun v H1 Hf1 g1 r=>⟨_,by rw[show v=_ from r],k _ H1 Hf1 g1 rfl⟩⟩
 ·cases h2
noncomputable def az1:List D->Option Bool
 | []=>some true
 | .bool b::r=>(az1 r).map fun c=>b&&c
 | _::_=>none
theorem aF4:∀{ds:List D}{c:Bool},az1 ds=some c->∃bs:List Bool,ds=bs.map PyData.bool/\c=bs.all id
 | [],c,h=>by cases h;exact⟨[],rfl,rfl⟩
 | .bool b::r,c,h=>by
  obtain⟨c',h1,h2⟩:=Option.map_eq_some_iff.mp h
  obtain⟨bs,h3,h4⟩:=aF4 h1
  exact⟨b::bs,by simp[h3],by simp[← h2,h4]⟩
theorem ak7{K:PySem.W.Frag}{H:Hp}:∀{bs:List Bool}{vs:List V},Reps K H (bs.map PyData.bool) vs->vs=bs.map V.bl
 | [],_,h=>h
 | _::_,_,⟨v,r,h1,h2,h3⟩=>by subst h1;rw[show v=_ from h2,ak7 h3];rfl
theorem aZ6:T3 X (.builtin "all") (fun xs H Q=>X.calm=true/\∃(p:Addr) (bs:List Bool),xs=[.ref p]/\SqL X.K H p (bs.map V.bl)/\Q (.bl (bs.all id)) H):=by
 intro pins s σ H xs us Q I r h
 obtain⟨hc,p,bs,rfl,hq,q⟩:=h
 obtain⟨u,rfl,rx⟩:=Y2 r
 cases rx
 obtain⟨its,rv,pl,hz⟩:=I.list hq
 have hlen:=rv.length
 have hh:X.A.in1.handled=none:=I.ok.hd hc
 have hlt:p < s.heap.objs.size:=by obtain⟨_,e,_⟩:=pl.isList;exact Heap.lt_size e
 refine call_all_walk (wpAny_pyIter_list pl.isList ?_)
 refine⟨s.heap.objs.size,_,_,_,_,_,fun i=>(bs[i]?).getD false,rfl,Walks.list hh _ p (Nat.ne_of_lt hlt) its.toArray,⟨⟨_,Heap.get?_push_size _ rfl,rfl,rfl⟩,pl.isList.at fun o e=>Heap.get?_push_of_some _ e⟩,?_,?_⟩
 ·intro i v s' Q' E' hv hQ
  have hv':its[i]? = some v:=by simpa using hv
  have:∃b,bs[i]? = some b:=by
   have:i < its.length:=(List.getElem?_eq_some_iff.mp hv').1
   have:i < bs.length:=by simpa using (by grind:i < (bs.map V.bl).length)
   exact⟨bs[i],by simp[this]⟩
  obtain⟨b,hb⟩:=this
  obtain⟨u,hu,ru⟩:=rv.get (i:=i) (x:=.bl b) (by simp[hb])
  rw[hv']at hu;cases hu
  cases ru
  exact wpAny_truthy_bool (by simpa [hb] using hQ)
 ·intro h' tk hk
  have e:((List.range its.toArray.size).all fun i=>(bs[i]?).getD false)=bs.all id:=by
   have hn:its.toArray.size=bs.length:=by simpa using hlen.symm
   rw[hn,Bool.eq_iff_iff]
   simp only[List.all_eq_true,List.mem_range,id]
   constructor
   ·intro h x hx
    obtain⟨i,hi,rfl⟩:=List.mem_iff_getElem.mp hx
    simpa [hi] using h i hi
   ·intro h i hi
    simpa [hi] using h bs[i] (List.getElem_mem hi)
  rw[e]
  have I1:Inv X pins σ H { s with heap:=h',toks:=tk }:=by
   have I0:Inv X pins σ H { s with heap:=s.heap.push { cls:=.type "list_iterator", data:=.fields #[.ref p,rawInt 0] } }:=I.kept (t':=s.toks) fun b o e=>Heap.get?_push_of_some _ e
   refine I.kept (t':=tk) fun b o e=>hk b o ?_ (Heap.get?_push_of_some _ e)
   intro hb
   have:b=s.heap.objs.size:=by simpa using hb
   subst this
   exact absurd (Heap.lt_size e) (Nat.lt_irrefl _)
  exact⟨.bl (bs.all id),H,I1,rfl,q⟩
noncomputable def ap0(f:Rho->Option (Bool×List D)):DE:=fun ρ=>(f ρ).bind fun q=>if q.1=true then none else(az1 q.2).map PyData.bool
theorem bZ0(hg:Gl X "all") (hm:X.mg "all" = none) (h:JQ X e f) (hc:X.calm=true:=by rfl) (he:starEach [e] X.env=[(false,eval e X.env)]:=by rfl):JE X (.Call (.Name "all" p) [e] [] pos) (ap0 f):=fun ρ d q=>by
 obtain⟨⟨t,ds⟩,h1,h2⟩:=xbm q
 cases t with
 | true=>simp at h2
 | false =>
  simp only[Bool.false_eq_true,if_false]at h2
  obtain⟨c,h3,h4⟩:=Option.map_eq_some_iff.mp h2
  subst h4
  obtain⟨bs,h5,h6⟩:=aF4 h3
  subst h5 h6
  refine B4 (P5 aZ6 hg hm cb4 (D4 (h ρ false _ h1) E9 he) (he:=he)) fun σ H Q ⟨H0,Hf,s,sl,k⟩=>?_
  refine⟨H0,Hf,s,sl,fun v H1 Hf1 g1 ⟨a,vs,e1,e2,e3⟩=>⟨hc,a,bs,by rw[e1],?_,k _ H1 Hf1 g1 rfl⟩⟩
  rw[ak7 e3]at e2
  exact e2
noncomputable def aW5(T:String) (d:D):Option Bool:=match d with
 | .int _=>(match T with | "int" => some true | "bool" => some false | "str" => some false | "tuple" => some false | "list" => some false|_=>none)
 | .bool _=>(match T with | "int" => some true | "bool" => some true | "str" => some false | "tuple" => some false | "list" => some false|_=>none)
 | .none=>(match T with | "int" => some false | "bool" => some false | "str" => some false | "tuple" => some false | "list" => some false|_=>none)
 | .str _=>(match T with | "int" => some false | "bool" => some false | "str" => some true | "tuple" => some false | "list" => some false|_=>none)
 | .tuple _=>(match T with | "int" => some false | "bool" => some false | "str" => some false | "tuple" => some true | "list" => some false|_=>none)
 | .list _=>(match T with | "int" => some false | "bool" => some false | "str" => some false | "tuple" => some false | "list" => some true|_=>none)
 | _=>none
noncomputable def tyD:D->String
 | .int _ => "int"
 | .bool _ => "bool"
 | .none => "NoneType"
 | .str _ => "str"
 | .tuple _ => "tuple"
 | .list _ => "list"
 | .dict _ => "dict"
theorem bB6{K:PySem.W.Frag}{T:String}{d:D}{b:Bool}(h:aW5 T d=some b):PySem.W.kitOne K (.type (tyD d)) (.type T)=some b:=by
 unfold aW5 at h
 cases d<;>first
  | (dsimp only at h;split at h<;>first
   | (cases h;rfl)
   | cases h)
  | cases h
theorem bq0{T:String}:T3 X (.builtin "isinstance") (fun xs H Q=>∃d x b,xs=[x,.ty T]/\Rep X.K H d x/\aW5 T d=some b/\Q (.bl b) H):=by
 intro pins s σ H xs us Q I r h
 obtain⟨d,x,b,rfl,hd,hb,q⟩:=h
 obtain⟨u,c,rfl,rx,rc⟩:=cd0 r
 cases rc
 have e:=bB6 (K:=X.K) hb
 have fin:∀tk,EP X pins σ Q (.bool b) { s with toks:=tk }:=fun tk=>⟨.bl b,H,I.tok tk,rfl,q⟩
 cases d with
 | none=>cases hd;cases rx;exact PySem.W.kia_one PySem.W.kitx_none I.kIn True.intro e (fun z=>nomatch z) fin
 | bool y=>cases hd;cases rx;exact PySem.W.kia_one PySem.W.kitx_bool I.kIn True.intro e (fun z=>nomatch z) fin
 | int i=>cases hd;obtain⟨t,rfl⟩:=rx;exact PySem.W.kia_one PySem.W.kitx_int I.kIn True.intro e (fun z=>nomatch z) fin
 | str i=>cases hd;obtain⟨t,rfl⟩:=rx;exact PySem.W.kia_one PySem.W.kitx_str I.kIn True.intro e (fun z=>nomatch z) fin
 | tuple ds =>
  obtain⟨a,vs,rfl,h2,h3⟩:=hd
  cases rx
  obtain⟨its,rv,⟨o,ho,hc,_⟩,_⟩:=I.tuple h2
  exact PySem.W.kia_one PySem.W.kitx_tuple I.kIn ⟨o,ho,hc⟩ e (fun z=>nomatch z) fin
 | list ds =>
  obtain⟨a,vs,rfl,h2,h3⟩:=hd
  cases rx
  obtain⟨its,rv,pl,_⟩:=I.list h2
  obtain⟨o,ho,hc,_⟩:=pl.isList
  exact PySem.W.kia_one PySem.W.kitx_list I.kIn ⟨o,ho,hc⟩ e (fun z=>nomatch z) fin
 | dict ds=>simp[aW5]at hb
noncomputable def Z3(T:String) (f:DE):DE:=fun ρ=>(f ρ).bind fun d=>(aW5 T d).map PyData.bool
theorem bY4(hg:Gl X "isinstance") (hm:X.mg "isinstance" = none) (hgT:Gl X x) (hmT:X.mg x=none) (hvT:bootBuiltins x=some (.type T)) (h:JE X e f)
  (hn:x ≠ "__name__" := by decide) (hd:(x==("__debug__" : Str))=false:=by decide)
  (he:starEach [e,.Name x p2] X.env=(false,eval e X.env)::starEach [.Name x p2] X.env:=by rfl) (he2:starEach [.Name x p2] X.env=[(false,eval (.Name x p2) X.env)]:=by rfl) (hpl:(backTo pos (starEach [.Name x p2] X.env)).any (·.1)=false:=by rfl) :
  JE X (.Call (.Name "isinstance" p) [e,.Name x p2] [] pos) (Z3 T f):=fun ρ d q=>by
 obtain⟨y,h1,h2⟩:=xbm q
 obtain⟨b,h3,h4⟩:=Option.map_eq_some_iff.mp h2
 subst h4
 refine B4 (P5 (bq0 (T:=T)) hg hm cb3 (D4 (h ρ y h1) (D4 (bw1 (v:=.ty T) hgT hmT hvT rfl hn hd) E9 he2) he) (he:=he) (hpl:=hpl)) fun σ H Q ⟨H0,Hf,s,sl,k⟩=>?_
 exact⟨H0,Hf,s,sl,fun v H1 Hf1 g1 r=>⟨y,v,b,rfl,r.mono g1.sub,h3,k _ H1 Hf1 g1 rfl⟩⟩
noncomputable def spF(K:PySem.W.Frag) (n:Nat) (F:List D->Option D):Sp:=fun vs H Q _=>vs.length=n/\∃Hf ds d,B8 Hf H/\Reps K Hf ds vs/\F ds=some d/\∀v H' Hf',Grow H Hf H' Hf'->Rep K Hf' d v->Q v H'
noncomputable def A2(F:List D->Option D) (f:Rho->Option (List D)):DE:=fun ρ=>(f ρ).bind F
theorem bB1(Fk:FnOk X.prog X.w X.K X.mg X.base CX0 k f fd ps (spF X.K n F)) (hr:Room k X.A) (hg:Gl X x) (hm:X.mg x=some (.ref f)) (hk:PySem.W.keepIn X.K (.ref f)=true) (hb:F9 X.K fd ps [])
  (ha:JA X (e::es) g) (hn:(e::es).length=n:=by rfl) (hdb:(x==("__debug__" : Str))=false:=by decide) (he:starEach (e::es) X.env=(false,eval e X.env)::starEach es X.env:=by rfl) (hpl:(backTo pos (starEach es X.env)).any (·.1)=false:=by rfl) :
  JE X (.Call (.Name x p) (e::es) [] pos) (A2 F g):=fun ρ d q=>by
 obtain⟨ds,h1,h2⟩:=xbm q
 refine B4 (av8 Fk hr hg hm hk hb .nil al0 (fun pos pins s σ H Q I t=>ha.run ρ ds h1 pos pins s σ H Q I t) hdb he hpl) fun σ H Q ⟨H0,Hf,s,sl,kk⟩=>?_
 refine⟨H0,Hf,s,sl,fun vs H1 Hf1 g1 r1=>⟨?_,Hf1,ds,d,g1.sub,by rw[List.append_nil];exact r1,h2,fun v H2 Hf2 g2 r2=>kk v H2 Hf2 (g1.trans g2) r2⟩⟩
 rw[List.append_nil,r1.length,ha.len ρ ds h1,hn]
inductive Fl where
 | nx (ρ:Rho)
 | rt (d:D)
 | bk (ρ:Rho)
 | ct (ρ:Rho)
noncomputable abbrev DS:=Rho->Option Fl
structure At (K:PySem.W.Frag) (H0 Hf0:Hp) (ρ:Rho) (σ:L2.St) (H Hf:Hp):Prop where
 gr:Grow H0 Hf0 H Hf
 sl:Slots K H0 ρ σ H Hf
noncomputable def Fl.ends(K:PySem.W.Frag) (H0 Hf0 Hf:Hp) (En:Ends):Fl->Prop
 | .nx ρ=>∀σ' H' Hf',At K H0 Hf0 ρ σ' H' Hf'->B8 Hf Hf'->En.nx σ' H'
 | .bk ρ=>∀σ' H' Hf',At K H0 Hf0 ρ σ' H' Hf'->B8 Hf Hf'->En.bk σ' H'
 | .ct ρ=>∀σ' H' Hf',At K H0 Hf0 ρ σ' H' Hf'->B8 Hf Hf'->En.ct σ' H'
 | .rt d=>∀v H' Hf',Grow H0 Hf0 H' Hf'->Rep K Hf' d v->En.rt v H'
noncomputable def tJS(K:PySem.W.Frag) (H0 Hf0:Hp) (ρ:Rho) (fl:Fl):TS:=fun En σ H=>∃Hf,At K H0 Hf0 ρ σ H Hf/\fl.ends K H0 Hf0 Hf En
noncomputable def JS(X:Cx) (st:Stmt) (f:DS):Prop:=∀ρ fl,f ρ=some fl->∀H0 Hf0,PS X st (tJS X.K H0 Hf0 ρ fl)
noncomputable def JSs(X:Cx) (sts:List Stmt) (f:DS):Prop:=∀ρ fl,f ρ=some fl->∀H0 Hf0,PSs X sts (tJS X.K H0 Hf0 ρ fl)
theorem D8{st:Stmt}{t t':TS}(h:PS X st t) (i:∀En σ H,t' En σ H->t En σ H):PS X st t':=fun pins s σ H En I q=>h pins s σ H En I (i En σ H q)
theorem R5{st:List Stmt}{t t':TS}(h:PSs X st t) (i:∀En σ H,t' En σ H->t En σ H):PSs X st t':=fun pins s σ H En I q=>h pins s σ H En I (i En σ H q)
theorem At.grow{K:PySem.W.Frag}{H0 Hf0 H Hf H' Hf':Hp}{ρ:Rho}{σ:L2.St}(a:At K H0 Hf0 ρ σ H Hf) (g:Grow H Hf H' Hf'):At K H0 Hf0 ρ σ H' Hf':=⟨a.gr.trans g,a.sl.grow g⟩
theorem Fl.ends_mono{K:PySem.W.Frag}{H0 Hf0 Hf Hf':Hp}{En:Ends}{fl:Fl}(h:fl.ends K H0 Hf0 Hf En) (e:B8 Hf Hf'):fl.ends K H0 Hf0 Hf' En:=by
 cases fl with
 | nx ρ=>exact fun σ' H' Hf'' a s=>h σ' H' Hf'' a (e.trans s)
 | bk ρ=>exact fun σ' H' Hf'' a s=>h σ' H' Hf'' a (e.trans s)
 | ct ρ=>exact fun σ' H' Hf'' a s=>h σ' H' Hf'' a (e.trans s)
 | rt d=>exact h
noncomputable def G5:DS:=fun ρ=>some (.nx ρ)
noncomputable def B0(f g:DS):DS:=fun ρ=>(f ρ).bind fun fl=>match fl with
 | .nx ρ'=>g ρ'
 | fl=>some fl
theorem bz6:JSs X [] G5:=fun ρ fl q H0 Hf0=>by
 cases q
 exact R5 aO6 fun En σ H ⟨Hf,a,e⟩=>e σ H Hf a (B8.refl _)
theorem bk1{st:Stmt}{sts:List Stmt}{f g:DS}(h1:JS X st f) (h2:JSs X sts g):JSs X (st::sts) (B0 f g):=fun ρ fl q H0 Hf0=>by
 obtain⟨fl1,e1,q⟩:=xbm q
 cases fl1 with
 | nx ρ' =>
  refine R5 (S3 (h1 ρ _ e1 H0 Hf0) (h2 ρ' fl q H0 Hf0)) fun En σ H ⟨Hf,a,e⟩=>⟨Hf,a,fun σ' H' Hf' a' s'=>⟨Hf',a',Fl.ends_mono e s'⟩⟩
 | rt d=>cases q;exact R5 (S3 (h1 ρ _ e1 H0 Hf0) K7) fun En σ H ⟨Hf,a,e⟩=>⟨Hf,a,e⟩
 | bk ρ'=>cases q;exact R5 (S3 (h1 ρ _ e1 H0 Hf0) K7) fun En σ H ⟨Hf,a,e⟩=>⟨Hf,a,e⟩
 | ct ρ'=>cases q;exact R5 (S3 (h1 ρ _ e1 H0 Hf0) K7) fun En σ H ⟨Hf,a,e⟩=>⟨Hf,a,e⟩
theorem bz5{st:Stmt}{f:DS}(h1:JS X st f):JSs X [st] f:=fun ρ fl q H0 Hf0=>aO5 (h1 ρ fl q H0 Hf0)
noncomputable def B6(f:DE):DS:=fun ρ=>(f ρ).map Fl.rt
theorem bV6{e:Expr}{f:DE}{pos:Pos}(h:JE X e f):JS X (.Return (some e) pos) (B6 f):=fun ρ fl q H0 Hf0=>by
 obtain⟨d,e1,e2⟩:=Option.map_eq_some_iff.mp q
 subst e2
 exact D8 (bf3 (h ρ d e1)) fun En σ H ⟨Hf,a,e⟩=>⟨H0,Hf,a.gr.sub,a.sl,fun v H' Hf' g r=>e v H' Hf' (a.gr.trans g) r⟩
noncomputable def sIf(t:Rho->Option Bool) (f g:DS):DS:=fun ρ=>(t ρ).bind fun c=>if c then f ρ else g ρ
theorem cj8{c:Expr}{a b:List Stmt}{t:Rho->Option Bool}{f g:DS}{pos:Pos}(hc:JT X c t) (ha:JSs X a f) (hb:JSs X b g):JS X (.If c a b pos) (sIf t f g):=fun ρ fl q H0 Hf0=>by
 obtain⟨x,e1,q⟩:=xbm q
 cases x with
 | true =>
  refine D8 (aO8 (hc ρ _ e1) (ha ρ fl (by simpa using q) H0 Hf0) K7) fun En σ H ⟨Hf,a,e⟩=>⟨H0,Hf,a.gr.sub,a.sl,fun H' Hf' g=>u6 ⟨Hf',a.grow g,Fl.ends_mono e g.ext⟩⟩
 | false =>
  refine D8 (aO8 (hc ρ _ e1) K7 (hb ρ fl (by simpa using q) H0 Hf0)) fun En σ H ⟨Hf,a,e⟩=>⟨H0,Hf,a.gr.sub,a.sl,fun H' Hf' g=>ab3 ⟨Hf',a.grow g,Fl.ends_mono e g.ext⟩⟩
theorem Slots.set{K:PySem.W.Frag}{H0 H Hf:Hp}{ρ:Rho}{σ:L2.St}{i:Nat}{d:D}{v:V}(s:Slots K H0 ρ σ H Hf) (r:Rep K Hf d v):Slots K H0 (ρ.set i (some (.val d))) (σ.set i (some v)) H Hf:=by
 refine⟨by simp[s.len],fun j b e=>?_,fun j k ds es a h1 h2 h3 h4=>?_⟩
 ·by_cases q:i=j
  ·subst q
   have hi:i < ρ.length:=by
    have:=(List.getElem?_eq_some_iff.mp e).1
    simpa using this
   have hi':i < σ.length:=by rw[← s.len];exact hi
   rw[List.getElem?_set_self hi]at e
   cases e
   exact⟨v,List.getElem?_set_self hi',r⟩
  ·rw[List.getElem?_set_ne q]at e
   obtain⟨u,h1,h2⟩:=s.is j b e
   exact⟨u,by rw[List.getElem?_set_ne q];exact h1,h2⟩
 ·have hj:i≠j:=by
   intro q;subst q
   have hi:i < ρ.length:=by
    have:=(List.getElem?_eq_some_iff.mp h1).1
    simpa using this
   rw[List.getElem?_set_self hi]at h1
   cases h1
  have hk:i≠k:=by
   intro q;subst q
   have hi:i < ρ.length:=by
    have:=(List.getElem?_eq_some_iff.mp h2).1
    simpa using this
   rw[List.getElem?_set_self hi]at h2
   cases h2
  rw[List.getElem?_set_ne hj]at h1 h3
  rw[List.getElem?_set_ne hk]at h2 h4
  exact s.apart j k ds es a h1 h2 h3 h4
noncomputable def C3(i:Nat) (f:DE):DS:=fun ρ=>(f ρ).map fun d=>.nx (ρ.set i (some (.val d)))
theorem bk3(i:Nat) {x:Str}{e:Expr}{f:DE}{pos pos':Pos}(hN:X.N.Nodup) (h:JE X e f) (hi:X.N[i]? = some x:=by rfl) (hx:Loc X.env.scope x:=by first|exact Or.inl rfl|exact Or.inr rfl)
  (hs:swapsWith e (some (.Name x pos')) pos.line X.env=pure false:=by rfl) (hf:X.fn x=true\/X.env.scope.names.lookup x=some .local:=by first|exact .inl rfl|exact .inr rfl):JS X (.Assign [.Name x pos'] e pos) (C3 i f):=fun ρ fl q H0 Hf0=>by
 obtain⟨d,e1,e2⟩:=Option.map_eq_some_iff.mp q
 subst e2
 exact D8 (ak8 hN hi hx (h ρ d e1) hs hf) fun En σ H ⟨Hf,a,e⟩=>⟨H0,Hf,a.gr.sub,a.sl,fun v H' Hf' g r=>e _ H' Hf' ⟨a.gr.trans g,(a.sl.grow g).set r⟩ g.ext⟩
noncomputable def be1(i j:Nat) (f:Rho->Option (List D)):DS:=fun ρ=>(f ρ).bind fun ds=>match ds with
 | [a,b]=>some (.nx ((ρ.set i (some (.val a))).set j (some (.val b))))
 | _=>none
end
end G
namespace G
open PySem PySem.Spec PyProof.Rows L2
theorem aZ3(I:Nat->Shared->Prop)
  (turn:∀n s,I n s->wpAny (model prog w) A (pyNext it) (fun r s1=>match r with
   | none=>R (.ok .next) s1
   | some v=>wpAny (model prog w) A (letOwnedTupleGo target it v) (fun _ s1'=>wpAny (model prog w) A (assign target env v) (fun _ s2 =>
     wpAny (model prog w) A (forIn ifs true fun c r=>if r=true then do let ok ← isTrue c env (eval c env);pure (ForInStep.yield ok) else pure (ForInStep.yield r)) (fun ok s3 =>
      if ok=true then wpAny (model prog w) A (eval elt env) (fun x s4 =>
       wpAny (model prog w) A (call (.builtin "list.append") [acc,x]) (fun _ s5=>∃m,m < n/\I m s5) (fun _ _=>False) s4) (fun _ _=>False) s3
      else ∃m,m < n/\I m s3) (fun _ _=>False) s2) (fun _ _=>False) s1') (fun _ _=>False) s1) (fun _ _=>False) s)
  (n:Nat) (h:I n s) :
  codeAny (model prog w) A (.compLoop (.ListComp elt [⟨target,iter,ifs,0⟩] scope pos) 0 it acc env) R s:=by
 refine codeAny_loop rfl I (fun n s hI=>?_) n h
 show wpAny _ A ((compTurn (.ListComp elt [⟨target,iter,ifs,0⟩] scope pos) 0 it acc env).onRaise (fun x=>do noteFrame x env;theTreesLotGoes x)) _ _ s
 refine wpAny_noted ?_
 rw[compTurn_list]
 refine wpAny_bind (wpAny_standAt (wpAny_bind (wpAny_mono (turn n s hI) (fun r s1 h1=>?_) fun _ _ h'=>h'.elim)))
 cases r with
 | none=>exact wpAny_pure h1
 | some v =>
  refine wpAny_bind (wpAny_mono h1 (fun _ s1' h1'=>?_) fun _ _ h'=>h'.elim)
  refine wpAny_bind (wpAny_mono h1' (fun _ s2 h2=>wpAny_bind (wpAny_mono h2 (fun ok s3 h3=>?_) fun _ _ h'=>h'.elim)) fun _ _ h'=>h'.elim)
  cases ok with
  | false=>exact wpAny_pure ⟨rfl,h3⟩
  | true =>
   exact wpAny_bind (wpAny_bind (wpAny_mono h3 (fun x s4 h4=>wpAny_bind (wpAny_mono h4 (fun _ s5 h5=>wpAny_pure (wpAny_pure ⟨rfl,h5⟩)) fun _ _ h'=>h'.elim)) fun _ _ h'=>h'.elim))
noncomputable def L3(cells:List (Str×Addr)):List (Str×NameKind)->List (Str×Addr)->List (Str×Addr)
 | [],cs=>cs
 | (n,k)::r,cs=>if(k==NameKind.free)=true then L3 cells r ((n,(cells.lookup n).getD 0)::cs) else L3 cells r cs
theorem am8:∀(names:List (Str×NameKind)) (cs:List (Str×Addr)),(∀y∈names,y.2=.free->∃c,env.cells.lookup y.1=some c) ->
  (forIn names cs fun(x:Str×NameKind) (r:List (Str×Addr))=>if(x.2==NameKind.free)=true then do let a ← cellOf env x.1;pure (ForInStep.yield ((x.1,a)::r)) else pure (ForInStep.yield r):Sem (List (Str×Addr)))=pure (L3 env.cells names cs)
 | [],cs,_=>rfl
 | (n,k)::r,cs,h=>by
  rw[List.forIn_cons]
  have hr:∀y∈r,y.2=.free->∃c,env.cells.lookup y.1=some c:=fun y hy=>h y (List.mem_cons_of_mem _ hy)
  by_cases hk:(k==NameKind.free)=true
  ·obtain⟨c,hc⟩:=h (n,k) List.mem_cons_self (by simpa using hk)
   have hc':env.cells.lookup n=some c:=hc
   simp only[hk,if_true]
   have e:cellOf env n=pure c:=by unfold cellOf;rw[hc']
   rw[e]
   show(forIn r ((n,c)::cs) _:Sem _)=_
   rw[am8 r _ hr]
   simp only[L3,hk,if_true,hc',Option.getD_some]
  ·have hk':(k==NameKind.free)=false:=by simpa using hk
   simp only[hk',Bool.false_eq_true,if_false]
   show(forIn r cs _:Sem _)=_
   rw[am8 r _ hr]
   simp only[L3,hk',Bool.false_eq_true,if_false]
theorem bD2(h:∀y∈scope.names,y.2=.free->∃c,env.cells.lookup y.1=some c):closureFor scope env=pure (L3 env.cells scope.names []):=by
 have:=am8 (env:=env) scope.names [] h
 unfold closureFor
 exact congrArg (fun z=>z >>= fun cs=>pure cs) this
theorem ab9:∀{names:List (Str×NameKind)}{cs:List (Str×Addr)}{x:Str}{c:Addr},(x,c)∈L3 cells names cs->(x,c)∈cs\/((x,NameKind.free)∈names/\c=(cells.lookup x).getD 0)
 | [],cs,x,c,h=>.inl h
 | (n,k)::r,cs,x,c,h=>by
  unfold L3 at h
  split at h
  ·rename_i hk
   rcases ab9 h with q|⟨q1,q2⟩
   ·rcases List.mem_cons.mp q with q|q
    ·cases q
     have:k=.free:=by simpa using hk
     subst this
     exact .inr ⟨List.mem_cons_self,rfl⟩
    ·exact .inl q
   ·exact .inr ⟨List.mem_cons_of_mem _ q1,q2⟩
  ·rcases ab9 h with q|⟨q1,q2⟩
   ·exact .inl q
   ·exact .inr ⟨List.mem_cons_of_mem _ q1,q2⟩
theorem V7:∀{names:List (Str×NameKind)}{cs:List (Str×Addr)}{x:Str},((x,NameKind.free)∈names\/∃c,(x,c)∈cs)->∃c,(x,c)∈L3 cells names cs
 | [],cs,x,h=>by
  rcases h with h|h
  ·cases h
  ·exact h
 | (n,k)::r,cs,x,h=>by
  unfold L3
  rcases h with h|⟨c,h⟩
  ·rcases List.mem_cons.mp h with q|q
   ·cases q
    rw[if_pos (by rfl)]
    exact V7 (.inr ⟨_,List.mem_cons_self⟩)
   ·split
    ·exact V7 (.inl q)
    ·exact V7 (.inl q)
  ·split
   ·exact V7 (.inr ⟨c,List.mem_cons_of_mem _ h⟩)
   ·exact V7 (.inr ⟨c,h⟩)
theorem u4{l:List (Str×Addr)}{x:Str}{c:Addr}(h:(x,c)∈l):∃c',l.lookup x=some c':=by
 induction l with
 | nil=>cases h
 | cons p r ih =>
  obtain⟨n,a⟩:=p
  rw[List.lookup_cons]
  cases e:x==n with
  | true=>exact⟨a,rfl⟩
  | false =>
   rcases List.mem_cons.mp h with q|q
   ·cases q;simp at e
   ·exact ih q
theorem aa6:(relabel scope env).names.lookup x=some k->∃k0,scope.names.lookup x=some k0/\(k=k0\/k0=.free):=by
 unfold relabel
 simp only
 generalize scope.names=names
 induction names with
 | nil=>intro h;simp at h
 | cons p r ih =>
  obtain⟨n,k1⟩:=p
  intro h
  rw[List.map_cons]at h
  by_cases hc:(k1==NameKind.free&&env.scope.kind == .function&&env.kindOf n==some .cell)=true
  ·simp only[hc,if_true,List.lookup_cons]at h
   rw[List.lookup_cons]
   cases e:x==n with
   | true =>
    rw[e]at h
    rw[Bool.and_eq_true,Bool.and_eq_true]at hc
    exact⟨k1,rfl,.inr (by simpa using hc.1.1)⟩
   | false=>rw[e]at h;exact ih h
  ·have hc':(k1==NameKind.free&&env.scope.kind == .function&&env.kindOf n==some .cell)=false:=by simpa using hc
   simp only[hc',Bool.false_eq_true,if_false,List.lookup_cons]at h
   rw[List.lookup_cons]
   cases e:x==n with
   | true=>rw[e]at h;cases h;exact⟨_,rfl,.inl rfl⟩
   | false=>rw[e]at h;exact ih h
theorem av3:scope.names.lookup x=some .free->(relabel scope env).names.lookup x=some .cell\/(relabel scope env).names.lookup x=some .free:=by
 unfold relabel
 simp only
 generalize scope.names=names
 induction names with
 | nil=>intro h;simp at h
 | cons p r ih =>
  obtain⟨n,k1⟩:=p
  intro h
  rw[List.lookup_cons]at h
  rw[List.map_cons]
  cases e:x==n with
  | true =>
   rw[e]at h
   cases h
   have en:x=n:=by simpa using e
   subst en
   by_cases hc:(NameKind.free==NameKind.free&&env.scope.kind == .function&&env.kindOf x==some .cell)=true
   ·simp only[hc,if_true,List.lookup_cons,e];exact .inl trivial
   ·have hc':(NameKind.free==NameKind.free&&env.scope.kind == .function&&env.kindOf x==some .cell)=false:=by simpa using hc
    simp only[hc',Bool.false_eq_true,if_false,List.lookup_cons,e];exact .inr trivial
  | false =>
   rw[e]at h
   by_cases hc:(k1==NameKind.free&&env.scope.kind == .function&&env.kindOf n==some .cell)=true
   ·simp only[hc,if_true,List.lookup_cons,e];exact ih h
   ·have hc':(k1==NameKind.free&&env.scope.kind == .function&&env.kindOf n==some .cell)=false:=by simpa using hc
    simp only[hc',Bool.false_eq_true,if_false,List.lookup_cons,e];exact ih h
noncomputable def D0(X:Cx) (N':List Str) (scope:Scope) (C:Addr) (s₀:Shared) (H₀:Hp) (ex:List Addr):Cx where
 prog:=X.prog
 w:=X.w
 K:=X.K
 mg:=X.mg
 base:=X.base
 A:=X.A
 N:=N'
 s₀:=s₀
 H₀:=H₀
 env:=compEnvC scope (L3 X.env.cells scope.names []) C X.env
 outer:=X.stack
 stack:=X.stack
 ex:=ex
 fn:=fun _=>false
 calm:=X.calm
 pn:=[]
 xe:=fun _ _=>False
structure CompSc (X:Cx) (N':List Str) (n:Nat) (caps:List Nat) (scope:Scope):Prop where
 kind:scope.kind=.function
 cell:∀y∈scope.names,y.2≠.cell
 loc:∀y∈scope.names,y.2=.local->scope.names.lookup y.1=some .local
 free:∀y∈scope.names,y.2=.free->X.env.scope.names.lookup y.1=some .cell\/X.env.scope.names.lookup y.1=some .free
 len:N'.length=n+caps.length
 cap:∀(i j:Nat),caps[i]? = some j->∃x,X.N[j]? = some x/\N'[n+i]? = some x/\scope.names.lookup x=some .free
section
variable {X:Cx}{N':List Str}{n:Nat}{caps:List Nat}{scope:Scope}
theorem L8{l:List (Str×NameKind)}{x:Str}{k:NameKind}(h:l.lookup x=some k):(x,k)∈l:=PySem.mem_of_lookup h
noncomputable def am9(n:Nat) (caps:List Nat) (σ:L2.St):L2.St:=List.replicate n none++caps.map fun j=>(σ[j]?).join
theorem aK7(S:CompSc X N' n caps scope) (I:Inv X pins σ H s) (hf:∀b∈fp,an7 X pins H b) (hlt:∀b∈fp,b < s.heap.objs.size)
  (hns:h1.Ns s.heap.objs.size m) (hk:∀b o,s.heap.get? b=some o->h1.get? b=some o) :
  Inv (D0 X N' scope s.heap.objs.size s H fp) [] (am9 n caps σ) H { s with heap:=h1,toks:=tk }:=by
 have cl_of:∀x c,(L3 X.env.cells scope.names []).lookup x=some c->X.env.cells.lookup x=some c:=fun x c h=>by
  have hm:=PySem.mem_of_lookup h
  rcases ab9 hm with q|⟨q1,q2⟩
  ·cases q
  ·obtain⟨c',hc'⟩:=I.ok.has x (S.free _ q1 rfl)
   rw[hc']at q2
   rw[hc',q2];rfl
 have cl_has:∀x,(x,NameKind.free)∈scope.names->∃c,(L3 X.env.cells scope.names []).lookup x=some c:=fun x h=>by
  obtain⟨c,hc⟩:=V7 (cells:=X.env.cells) (cs:=[]) (.inl h)
  exact u4 hc
 have kind_free:∀x,((relabel scope X.env).names.lookup x=some .cell\/(relabel scope X.env).names.lookup x=some .free)->(x,NameKind.free)∈scope.names:=fun x h=>by
  rcases h with h|h
  ·obtain⟨k0,e1,e2⟩:=aa6 h
   rcases e2 with e2|e2
   ·subst e2;exact absurd rfl (S.cell _ (L8 e1))
   ·subst e2;exact L8 e1
  ·obtain⟨k0,e1,e2⟩:=aa6 h
   rcases e2 with e2|e2
   ·subst e2;exact L8 e1
   ·subst e2;exact L8 e1
 have cell_lt:∀x c,X.env.cells.lookup x=some c->c < s.heap.objs.size:=fun x c e=>by
  obtain⟨v,q⟩:=I.cell x c e
  exact q.lt
 have ok:(D0 X N' scope s.heap.objs.size s H fp).Ok:=by
  refine⟨I.ok.mod,S.kind,I.ok.glob,I.ok.blt,Nat.le_refl _,fun x y c e1 e2=>I.ok.inj x y c (cl_of x c e1) (cl_of y c e2),fun x hx=>cl_has x (kind_free x hx),fun x c e _=>(Bool.false_ne_true e).elim,I.ok.hd,I.ok.frames,.inl rfl,fun b hb=>⟨Nat.ne_of_lt (hlt b hb),fun x c e=>(hf b hb).2.2.2.2.1 x c (cl_of x c e)⟩,
   I.bs,Nat.le_trans I.ok.bsz I.sz,fun b o e hb=>?_,fun b hb hb2=>?_,I.stack,I.stkFree⟩
  ·rcases(hf b hb).2.2.2.1 with z|z
   ·exact I.ok.noex b o e z
   ·exact absurd (Nat.lt_of_lt_of_le (Heap.lt_size e) (Nat.le_trans I.ok.bsz z)) (Nat.lt_irrefl _)
  ·rcases List.mem_cons.mp (I.stkSub b hb2) with z|z
   ·exact(hf b hb).2.1 z
   ·exact(hf b hb).2.2.1 z
 refine⟨ok,rfl,I.bare,Un.kept hk,⟨m,hns,fun i x v e1 e2 e3=>?_⟩,fun x c e=>?_,I.hok.fresh (Nat.le_refl _),fun x c e=>I.freeC x c (cl_of x c e),fun p hp=>absurd (show p∈([]:List (Addr×Obj)) from hp) (by simp),I.hok.kept hk,?_⟩
 ·have hi:n<=i:=by
   rcases Nat.lt_or_ge i n with h|h
   ·unfold am9 at e2
    rw[List.getElem?_append_left (by simpa using h),List.getElem?_replicate,if_pos h]at e2
    cases e2
   ·exact h
  unfold am9 at e2
  rw[List.getElem?_append_right (by simpa using hi),List.getElem?_map]at e2
  simp only[List.length_replicate]at e2
  cases hj:caps[i - n]? with
  | none=>rw[hj]at e2;cases e2
  | some j =>
   rw[hj]at e2
   have e2':(σ[j]?).join=some v:=by simpa using e2
   have e2'':σ[j]? = some (some v):=by
    cases q:σ[j]? with
    | none=>rw[q]at e2';cases e2'
    | some o=>rw[q]at e2';simp at e2';rw[e2']
   obtain⟨y,q1,q2,q3⟩:=S.cap _ _ hj
   have:y=x:=by
    have e1':N'[i]? = some x:=e1
    rw[show n+(i - n)=i by grind,e1']at q2
    cases q2;rfl
   subst this
   obtain⟨m0,hn0,hl0⟩:=I.loc
   have hv:Vis X.env.scope y:=by
    rcases S.free _ (L8 q3) rfl with z|z
    ·exact .inr (.inl z)
    ·exact .inr (.inr z)
   obtain⟨u,ru,lk⟩:=hl0 j y v q1 e2'' hv
   refine⟨u,ru,.inr ⟨av3 q3,?_⟩⟩
   rcases lk with⟨lk,_⟩|⟨_,c,hc,hcell⟩
   ·rcases S.free _ (L8 q3) rfl with z|z
    ·have:X.env.scope.names.lookup y=some .local:=lk
     rw[z]at this;cases this
    ·have:X.env.scope.names.lookup y=some .local:=lk
     rw[z]at this;cases this
   ·obtain⟨c',hc'⟩:=cl_has y (L8 q3)
    have:=cl_of y c' hc'
    rw[hc]at this;cases this
    obtain⟨o,ho,hd⟩:=hcell
    exact⟨c,hc',o,hk c o ho,hd⟩
 ·obtain⟨v,o,ho,hd⟩:=I.cell x c (cl_of x c e)
  exact⟨v,o,hk c o ho,hd⟩
 ·show(am9 n caps σ).length=N'.length
  unfold am9
  rw[S.len];simp
theorem as0(I:Inv X pins σ H s) (hf:∀b∈fp,an7 X pins H b)
  (I':Inv (D0 X N' scope s.heap.objs.size s H fp) [] σ' H' s') (sb:Heap.SameBut s.heap.objs.size s'.heap h'):Inv X pins σ H' { s' with heap:=h' }:=by
 have ne:∀b o,s.heap.get? b=some o->b≠s.heap.objs.size:=fun b o e=>Nat.ne_of_lt (Heap.lt_size e)
 refine I.call' (s':={ s' with heap:=h' }) (ch:=fp) I'.os ?_ ?_ I'.bare fun b hb=>⟨(hf b hb).2.2.2.1,(hf b hb).2.1,(hf b hb).2.2.2.2.1,(hf b hb).2.2.2.2.2⟩
 ·refine⟨fun b o e n hb hx=>sb.extBut b o (ne b o e) (I'.base.keep b o e n hb hx),fun b o e n hb hx=>?_,I'.base.free,fun b o e hx=>?_,I'.base.tups,I'.base.frzs,I'.base.tbls⟩
  ·obtain⟨sl,q⟩:=I'.base.slot b o e n hb hx
   exact⟨sl,sb.extBut b _ (ne b o e) q⟩
  ·obtain⟨o',q⟩:=I'.base.there b o e hx
   exact⟨o',sb.extBut b _ (ne b o e) q⟩
 ·intro b u e
  have nC:∀c v,H' c=some v->c≠s.heap.objs.size:=fun c v q z=>by
   have:=I'.free
   have z':H' c=none:=by rw[z];exact this
   rw[z']at q;cases q
  refine(I'.hok b u e).stay (fun c v hc q=>sb.extBut c v ?_ q) (fun _ q=>q) fun _ _ q=>q
  rcases hc with z|z
  ·rw[z];exact nC b u e
  ·exact nC c _ z
noncomputable def PTs(X:Cx) (ifs:List Expr) (t:TT):Prop :=
 ∀(pins:List (Addr×Obj)) (s:Shared) (σ:L2.St) (H:Hp) (Q:Bool->Hp->Prop),Inv X pins σ H s->t σ H Q ->
  wpAny (model X.prog X.w) X.A (forIn ifs true fun c r=>if r=true then do let ok ← isTrue c X.env (eval c X.env);pure (ForInStep.yield ok) else pure (ForInStep.yield r)) (TP X pins σ Q) X.xe s
theorem bv0:PTs X [] (fun _ H Q=>Q true H):=fun pins s σ H Q I h=>wpAny_tests_nil ⟨H,I,h⟩
theorem bu9(h:PT X c t):PTs X [c] t:=fun pins s σ H Q I q=>wpAny_tests_one (h pins s σ H Q I q)
noncomputable def bc9(n:Nat) (caps:List Nat) (wi:TI) (g:TG) (tc:TT) (te:TE):TE:=fun σ H Q=>wi σ H fun J H1=>∀Dd,H1 Dd=none->∃W:Nat->Nat->List V->L2.St->Hp->Prop,
 (∃m,W 0 m [] (am9 n caps σ) (upd H1 Dd (.lst []))) /\
 ∀i m ys σ' H',W i m ys σ' H' ->
  (J.stop i H'/\Q (.ref Dd) H') \/
  (J.go i H'/\∀x H2,J.yld i H' x H2->g x σ' H2 fun σ3 H3=>tc σ3 H3 fun b H4 =>
   if b=true then te σ3 H4 fun y H5=>H5 Dd=some (.lst ys)/\ys.length < sizeLine/\∃m',m' < m/\W (i+1) m' (ys++[y]) σ3 (upd H5 Dd (.lst (ys++[y])))
   else ∃m',m' < m/\W (i+1) m' ys σ3 H4)
theorem aE8{elt tgt iter:Expr}{ifs:List Expr}{pos:Pos}{wi:TI}{g:TG}{tc:TT}{te:TE}{RR:Value->Addr->Result->Shared->Prop}{E:Value->Shared->Prop}(S:CompSc X N' n caps scope) (hx:∀e s,X.xe e s->False) (hc:X.calm=true)
  (hi:PI X tgt iter wi) (hg:∀C s0 H0 ex,PG (D0 X N' scope C s0 H0 ex) tgt g) (ht:∀C s0 H0 ex,PTs (D0 X N' scope C s0 H0 ex) ifs tc) (he:∀C s0 H0 ex,PE (D0 X N' scope C s0 H0 ex) elt te)
  {pins:List (Addr×Obj)}{s:Shared}{σ:L2.St}{H:Hp}{Q:VK}(I:Inv X pins σ H s) (h:bc9 n caps wi g tc te σ H Q)
  (hRR:∀D C r s',r=.ok .next->(∃m,s'.heap.Ns C m/\∀h',Heap.SameBut C s'.heap h'->∃H',Inv X pins σ H' { s' with heap:=h' }/\Q (.ref D) H') ->
   (∃s2 fp σ' H2 H',s2.heap.objs.size=C/\Inv X pins σ H2 s2/\(∀b∈fp,an7 X pins H2 b)/\Inv (D0 X N' scope s2.heap.objs.size s2 H2 fp) [] σ' H' s'/\Q (.ref D) H')->RR (.ref D) C r s') :
  wpAny (model X.prog X.w) X.A (eval iter X.env) (fun x s₁=>wpAny (model X.prog X.w) X.A (pyIter x) (fun it s₂=>wpAny (model X.prog X.w) X.A (newList []) (fun acc s₃ =>
   wpAny (model X.prog X.w) X.A (newFunctionEnv scope X.env.globals (L3 X.env.cells scope.names []) [] X.env.qual none .none (some X.env)) (fun cenv s₄ =>
    codeAny (model X.prog X.w) X.A (.compStart (.ListComp elt [⟨tgt,iter,ifs,0⟩] scope pos) 0 it acc { cenv with scope:=relabel scope X.env }) (RR acc cenv.locals) s₄) E s₃) E s₂) E s₁) E s:=by
 refine wpAny_mono (hi pins s σ H _ I h) (fun v s1 h1=>wpAny_mono h1 (fun itv s2 h2=>?_) fun _ _ z=>(hx _ _ z).elim) fun _ _ z=>(hx _ _ z).elim
 obtain⟨it,fp,tn,J,H2,e,I2,T,st2,f2,R⟩:=h2
 subst e
 refine wpAny_newObj_type (wpAny_newFunctionEnv S.cell (by intro y hy;simp at hy) (fun h₁ hns₁ hsb₁=>?_) S.kind)
 dsimp only at hns₁ hsb₁ ⊢
 obtain⟨W,⟨m0,w0⟩,turn⟩:=R s2.heap.objs.size (I2.hok.fresh (Nat.le_refl _))
 have lt2:∀b∈fp,b < s2.heap.objs.size:=fun b hb=>by
  obtain⟨o,ho,_⟩:=T.obj _ _ st2 b hb
  exact Heap.lt_size ho
 have I3:Inv X pins σ (upd H2 s2.heap.objs.size (.lst [])) { s2 with heap:=s2.heap.push { cls:=.type "list", dict:=none,data:=.seq ([]:List Value).toArray } } :=
  I2.laid (t':=s2.toks) (fun b u e=>Heap.get?_push_of_some _ e) (Nat.le_refl _) ⟨Nat.zero_le _,[],0,.nil,Heap.get?_push_size _ rfl⟩
 generalize hs3:({ s2 with heap:=s2.heap.push { cls:=.type "list", dict:=none,data:=.seq ([]:List Value).toArray } }:Shared)=s3 at I3
 have es3:s3.heap=s2.heap.push { cls:=.type "list", dict:=none,data:=.seq ([]:List Value).toArray }:=by rw[← hs3]
 rw[← es3]at hns₁ hsb₁ ⊢
 have keep3:∀b o,s3.heap.get? b=some o->h₁.get? b=some o:=fun b o e=>hsb₁.extBut b o (Nat.ne_of_lt (Heap.lt_size e)) (Heap.get?_push_of_some _ e)
 have lt3:∀b∈fp,b < s3.heap.objs.size:=fun b hb=>by rw[es3,Heap.size_push];exact Nat.lt_succ_of_lt (lt2 b hb)
 have f3:∀b∈fp,an7 X pins (upd H2 s2.heap.objs.size (.lst [])) b:=fun b hb=>⟨by rw[C2 (Nat.ne_of_lt (lt2 b hb))];exact(f2 b hb).1,(f2 b hb).2⟩
 generalize hH3:upd H2 s2.heap.objs.size (HO.lst [])=H3 at I3 f3 w0
 have fin3:∀{σ':L2.St}{H':Hp}{pl:List (Addr×Obj)},(∀b∈fp,H' b=none)->(∀p∈pl,False)->∀b∈fp,an7 (D0 X N' scope s3.heap.objs.size s3 H3 fp) pl H' b:=fun{σ' H' pl} hn hp b hb=>by
  refine⟨hn b hb,Nat.ne_of_lt (lt3 b hb),fun z=>?_,.inl hb,fun x c e=>?_,fun p hp'=>?_⟩
  ·rcases List.mem_cons.mp (I3.stkSub b z) with z|z
   ·exact(f3 b hb).2.1 z
   ·exact(f3 b hb).2.2.1 z
  ·have hm:=PySem.mem_of_lookup e
   rcases ab9 hm with q|⟨q1,q2⟩
   ·cases q
   ·obtain⟨c',hc'⟩:=I3.ok.has x (S.free _ q1 rfl)
    rw[hc']at q2
    have q2':c=c':=q2
    subst q2'
    exact(f3 b hb).2.2.2.2.1 x c hc'
  ·exact(hp p (by simpa [D0] using hp')).elim
 have toks:∃tk,({ s2 with heap:=h₁,toks:=s2.toks+([]:List (Str×Value)).length }:Shared)={ s3 with heap:=h₁,toks:=tk }:=⟨s2.toks,by rw[← hs3];rfl⟩
 obtain⟨tk,htk⟩:=toks
 have st4:tn 0 h₁:=T.keep 0 s2.heap h₁ st2 fun b hb o e=>keep3 b o (by rw[es3];exact Heap.get?_push_of_some _ e)
 have I4:Inv (D0 X N' scope s3.heap.objs.size s3 H3 fp) [] (am9 n caps σ) H3 { s3 with heap:=h₁,toks:=tk }:=aK7 S I3 f3 lt3 hns₁ keep3
 have loop:codeAny (model X.prog X.w) X.A (.compLoop (.ListComp elt [⟨tgt,iter,ifs,0⟩] scope pos) 0 (.ref it) (.ref s2.heap.objs.size) (compEnvC scope (L3 X.env.cells scope.names []) s3.heap.objs.size X.env)) (RR (.ref s2.heap.objs.size) s3.heap.objs.size) { s3 with heap:=h₁,toks:=tk }:=by
  refine aZ3 (fun k s'=>∃i ys σ' H',Inv (D0 X N' scope s3.heap.objs.size s3 H3 fp) [] σ' H' s'/\tn i s'.heap/\(∀b∈fp,H' b=none)/\W i k ys σ' H') ?_ m0 ⟨0,[],_,H3,I4,st4,fun b hb=>(f3 b hb).1,w0⟩
  rintro k s5 ⟨i,ys,σ5,H5,I5,st5,fr5,w5⟩
  have pz:∀p∈([]:List (Addr×Obj)),False:=fun p hp=>by cases hp
  rcases turn i k ys σ5 H5 w5 with⟨stop,qn⟩|⟨go,step⟩
  ·refine wpAny_mono (T.done (D0 X N' scope s3.heap.objs.size s3 H3 fp) rfl rfl rfl hc i [] s5 σ5 H5 (fun _ _=>False) I5 (fin3 (σ':=σ5) fr5 pz) st5 stop) (fun r s6 ⟨hr,I6⟩=>?_) fun _ _ z=>z
   subst hr
   obtain⟨m6,hn6,_⟩:=I6.loc
   refine hRR _ _ _ s6 rfl ⟨m6,hn6,fun h' sb=>⟨H5,as0 I3 f3 I6 sb,qn⟩⟩ ⟨s3,fp,σ5,H3,H5,rfl,I3,f3,I6,qn⟩
  ·refine wpAny_mono (T.item (D0 X N' scope s3.heap.objs.size s3 H3 fp) rfl rfl rfl hc i [] s5 σ5 H5 (fun _ _=>False) I5 (fin3 (σ':=σ5) fr5 pz) st5 go) (fun r s6 ⟨u,hr,h6⟩=>?_) fun _ _ z=>z
   subst hr
   refine wpAny_mono h6 (fun _ s7 ⟨x,H7,I7,r7,y7,st7,fr7⟩=>?_) fun _ _ z=>z
   have I7':=I7.pinned (fin3 (σ':=σ5) fr7 pz) (T.obj _ _ st7)
   refine wpAny_mono (hg _ _ _ _ _ s7 σ5 H7 x u _ I7' r7 (step x H7 y7)) (fun _ s8 ⟨σ8,H8,I8,q8⟩=>?_) fun _ _ z=>z
   refine wpAny_mono (ht _ _ _ _ _ s8 σ8 H8 _ I8 q8) (fun ok s9 ⟨H9,I9,q9⟩=>?_) fun _ _ z=>z
   have again:∀{σ':L2.St}{H':Hp}{s':Shared},Inv (D0 X N' scope s3.heap.objs.size s3 H3 fp) ([]++ak9 fp s7.heap) σ' H' s'->Inv (D0 X N' scope s3.heap.objs.size s3 H3 fp) [] σ' H' s'/\tn (i+1) s'.heap/\∀b∈fp,H' b=none:=fun{σ' H' s'} I'=>by
    refine⟨I'.unpinned,T.keep _ _ _ st7 fun b hb o e=>(I'.pin (b,o) (List.mem_append_right _ (List.mem_append_right _ (X4 hb e)))).1,fun b hb=>?_⟩
    obtain⟨o,e,d⟩:=T.obj _ _ st7 b hb
    exact(I'.pin (b,o) (List.mem_append_right _ (List.mem_append_right _ (X4 hb e)))).2.1
   cases ok with
   | false =>
    rw[if_neg Bool.false_ne_true]at q9 ⊢
    obtain⟨m',hm,w'⟩:=q9
    obtain⟨a1,a2,a3⟩:=again I9
    exact⟨m',hm,i+1,ys,σ8,H9,a1,a2,a3,w'⟩
   | true =>
    rw[if_pos rfl]at q9 ⊢
    refine wpAny_mono (he _ _ _ _ _ s9 σ8 H9 _ I9 q9) (fun y s10 ⟨vy,H10,I10,r10,q10,z10,m',hm,w'⟩=>?_) fun _ _ z=>z
    refine wpAny_mono (ad6 (X:=D0 X N' scope s3.heap.objs.size s3 H3 fp) _ s10 σ8 H10 (.ref s2.heap.objs.size) [vy] _ _ (fun v H'=>v=.non/\H'=upd H10 s2.heap.objs.size (.lst (ys++[vy]))) I10 rfl (.cons r10 .nil) ⟨_,ys,vy,rfl,rfl,q10,z10,rfl,rfl⟩) (fun _ s11 ⟨v11,H11,I11,r11,e11,e12⟩=>?_) fun _ _ z=>z
    subst e12
    obtain⟨a1,a2,a3⟩:=again I11
    exact⟨m',hm,i+1,ys++[vy],σ8,_,a1,a2,a3,w'⟩
 show codeAny (model X.prog X.w) X.A _ _ ({ s2 with heap:=h₁,toks:=s2.toks+([]:List (Str×Value)).length }:Shared)
 rw[htk]
 exact codeAny_compStart_list loop (T.self _ _ _ _ _ st4 loop)
end
end G
namespace G
open PySem PySem.Spec PyProof.Rows L2
section
variable {X:Cx}
noncomputable def tgJ(K:PySem.W.Frag) (f:D->Rho->Option Rho):TG:=fun v σ H Q=>∃d ρ ρ' H0 Hf,f d ρ=some ρ'/\B8 Hf H/\Slots K H0 ρ σ H Hf/\Rep K Hf d v/\∀σ',Slots K H0 ρ' σ' H Hf->Q σ' H
noncomputable def JG(X:Cx) (tg:Expr) (f:D->Rho->Option Rho):Prop:=PG X tg (tgJ X.K f)
noncomputable def cn8(K:PySem.W.Frag) (f:List D->Rho->Option Rho):TGs:=fun vs σ H Q=>∃ds ρ ρ' H0 Hf,f ds ρ=some ρ'/\B8 Hf H/\Slots K H0 ρ σ H Hf/\Reps K Hf ds vs/\∀σ',Slots K H0 ρ' σ' H Hf->Q σ' H
noncomputable def JGs(X:Cx) (tg:List Expr) (f:List D->Rho->Option Rho):Prop:=PGs X tg (cn8 X.K f)
noncomputable def C4(i:Nat):D->Rho->Option Rho:=fun d ρ=>some (ρ.set i (some (.val d)))
theorem aQ9(i:Nat) (hN:X.N.Nodup) (hi:X.N[i]? = some x:=by rfl) (hx:Loc X.env.scope x:=by first|exact Or.inl rfl|exact Or.inr rfl) (hf:X.fn x=true\/X.env.scope.names.lookup x=some .local:=by first|exact .inl rfl|exact .inr rfl):JG X (.Name x pos) (C4 i):=by
 intro pins s σ H v u Q I r ⟨d,ρ,ρ',H0,Hf,e,ss,sl,rp,k⟩
 cases e
 exact bv7 hN hi hx hf pins s σ H v u Q I r (k _ (sl.set rp))
noncomputable def ag4:List D->Rho->Option Rho:=fun ds ρ=>match ds with
 | []=>some ρ
 | _=>none
noncomputable def J9(f:D->Rho->Option Rho) (g:List D->Rho->Option Rho):List D->Rho->Option Rho:=fun ds ρ=>match ds with
 | d::r=>(f d ρ).bind fun ρ'=>g r ρ'
 | []=>none
theorem bA6:JGs X [] ag4:=by
 intro pins s σ H vs us Q I r ⟨ds,ρ,ρ',H0,Hf,e,ss,sl,rp,k⟩
 cases ds with
 | nil=>cases e;exact bv6 pins s σ H vs us Q I r ⟨rp,k _ sl⟩
 | cons d ds=>cases e
theorem bl4(h1:JG X e f) (h2:JGs X es g) (hs:(assignEach (e::es) X.env).map (·.2)=assign e X.env::(assignEach es X.env).map (·.2):=by rfl):JGs X (e::es) (J9 f g):=by
 intro pins s σ H vs us Q I r ⟨ds,ρ,ρ',H0,Hf,e,ss,sl,rp,k⟩
 cases ds with
 | nil=>cases e
 | cons d ds =>
  obtain⟨ρ1,e1,e2⟩:=xbm e
  obtain⟨v,vr,rfl,q1,q2⟩:=rp
  exact bg1 h1 h2 hs pins s σ H _ us Q I r ⟨v,vr,rfl,d,ρ,ρ1,H0,Hf,e1,ss,sl,q1,fun σ' sl'=>⟨ds,ρ1,ρ',H0,Hf,e2,ss,sl',q2,k⟩⟩
noncomputable def n9(n:Nat) (g:List D->Rho->Option Rho):D->Rho->Option Rho:=fun d ρ=>match d with
 | .tuple ds=>if ds.length=n then g ds ρ else none
 | _=>none
theorem bX2(h:JGs X es g) (hc:X.calm=true:=by rfl) (hn:(assignEach es X.env).length=n:=by rfl) (hst:(assignEach es X.env).findIdx? (·.1)=none:=by rfl):JG X (.Tuple es k pos) (n9 n g):=by
 intro pins s σ H v u Q I r ⟨d,ρ,ρ',H0,Hf,e,ss,sl,rp,kk⟩
 cases d with
 | tuple ds =>
  simp only[n9]at e
  split at e
  ·rename_i hl
   obtain⟨a,vs,rfl,q1,q2⟩:=rp
   exact bO7 hc h hn hst pins s σ H _ u Q I r ⟨a,vs,rfl,C9 ss q1,by rw[q2.length,hl],ds,ρ,ρ',H0,Hf,e,ss,sl,q2,kk⟩
  ·cases e
 | _=>cases e
noncomputable def bq2(K:PySem.W.Frag) (J:It) (ds:List D) (Hf1:Hp):Prop:=∀(i:Nat) (H Hf:Hp),B8 Hf1 Hf->B8 Hf H->(ds.length<=i->J.stop i H)/\∀d,ds[i]? = some d->J.go i H/\∀x H',J.yld i H x H'->∃Hf',Grow H Hf H' Hf'/\Rep K Hf' d x
noncomputable def tiJ(K:PySem.W.Frag) (ρ:Rho) (ds:List D):TI:=fun σ H R=>∃H0 Hf,B8 Hf H/\Slots K H0 ρ σ H Hf/\∀J H' Hf',Grow H Hf H' Hf'->bq2 K J ds Hf'->R J H'
noncomputable def JI(X:Cx) (tg iter:Expr) (f:Rho->Option (List D)):Prop:=∀ρ ds,f ρ=some ds->PI X tg iter (tiJ X.K ρ ds)
theorem aH9(h:PI X tg iter t) (i:∀σ H R,t' σ H R->t σ H R):PI X tg iter t':=fun pins s σ H R I q=>h pins s σ H R I (i σ H R q)
noncomputable def J3(f:DE):Rho->Option (List D):=fun ρ=>(f ρ).bind fun d=>match d with
 | .list ds=>some ds
 | .tuple ds=>some ds
 | _=>none
theorem bl2(h:JE X e f):JI X tg e (J3 f):=fun ρ ds q=>by
 obtain⟨d,e1,e2⟩:=xbm q
 cases d with
 | list xs =>
  cases e2
  refine aH9 (bv5 (h ρ _ e1)) fun σ H R ⟨H0,Hf,s,sl,k⟩=>⟨H0,Hf,s,sl,fun v H1 Hf1 g1 ⟨a,vs,h1,h2,h3⟩=>⟨a,h1,⟨vs,E1 g1.sub h2⟩,k _ H1 Hf1 g1 ?_⟩⟩
  intro i H' Hf' sa sb
  have q':SqL X.K H' a vs:=E1 (sa.trans sb) h2
  refine⟨fun hi=>⟨vs,q',by rw[h3.length];exact hi⟩,fun d hd=>?_⟩
  obtain⟨v,w1,w2⟩:=h3.get hd
  refine⟨⟨vs,v,q',w1⟩,fun x H'' hy=>?_⟩
  obtain⟨rfl,hy⟩:=hy
  have:=hy vs q'
  rw[w1]at this;cases this
  exact⟨Hf',Grow.refl sb,w2.mono sa⟩
 | tuple xs =>
  cases e2
  refine aH9 (bO6 (h ρ _ e1)) fun σ H R ⟨H0,Hf,s,sl,k⟩=>⟨H0,Hf,s,sl,fun v H1 Hf1 g1 ⟨a,vs,h1,h2,h3⟩=>⟨a,h1,⟨vs,C9 g1.sub h2⟩,k _ H1 Hf1 g1 ?_⟩⟩
  intro i H' Hf' sa sb
  have q':SqT X.K H' a vs:=C9 (sa.trans sb) h2
  refine⟨fun hi=>⟨vs,q',by rw[h3.length];exact hi⟩,fun d hd=>?_⟩
  obtain⟨v,w1,w2⟩:=h3.get hd
  refine⟨⟨vs,v,q',w1⟩,fun x H'' hy=>?_⟩
  obtain⟨rfl,hy⟩:=hy
  have:=hy vs q'
  rw[w1]at this;cases this
  exact⟨Hf',Grow.refl sb,w2.mono sa⟩
 | _=>cases e2
noncomputable def W9(lo hi:Int):List D:=(List.range (hi - lo).toNat).map fun(i:Nat)=>PyData.int (lo+i)
theorem at8{K:PySem.W.Frag}{lo hi:Int}{Hf1:Hp}:bq2 K (Itr lo (hi - lo).toNat) (W9 lo hi) Hf1:=by
 intro i H Hf sa sb
 have hl:(W9 lo hi).length=(hi - lo).toNat:=by simp[W9]
 refine⟨fun h=>by rw[hl]at h;exact h,fun d hd=>?_⟩
 have hi':i < (hi - lo).toNat:=by
  have:=(List.getElem?_eq_some_iff.mp hd).1
  rw[hl]at this;exact this
 refine⟨hi',fun x H' hy=>?_⟩
 obtain⟨e1,e2⟩:=hy
 subst e1 e2
 have:d=.int (lo+i):=by
  have:(W9 lo hi)[i]? = some (.int (lo+i)):=by simp[W9,hi']
  rw[hd]at this;cases this;rfl
 subst this
 exact⟨Hf,Grow.refl sb,rfl⟩
noncomputable def G0(f:DE):Rho->Option (List D):=fun ρ=>(f ρ).bind fun d=>match d with
 | .int j=>if -(2 ^ 62)<=j/\j < 2 ^ 62 then some (W9 0 j) else none
 | _=>none
theorem aW3{tg e:Expr}{f:DE}{p pos:Pos}(hg:Gl X "range") (hm:X.mg "range" = none) (h:JE X e f) (hs:starEach [e] X.env=[(false,eval e X.env)]:=by rfl):JI X tg (.Call (.Name "range" p) [e] [] pos) (G0 f):=fun ρ ds q=>by
 obtain⟨d,e1,e2⟩:=xbm q
 split at e2
 ·split at e2
  ·rename_i j c
   cases e2
   refine aH9 (aU5 hg hm (D4 (h ρ _ e1) E9 hs) hs) fun σ H R ⟨H0,Hf,s,sl,k⟩=>⟨H0,Hf,s,sl,fun v H1 Hf1 g1 r=>⟨j,by rw[show v=_ from r],c.1,c.2,k _ H1 Hf1 g1 ?_⟩⟩
   have:=at8 (K:=X.K) (lo:=0) (hi:=j) (Hf1:=Hf1)
   rw[Int.sub_zero]at this
   exact this
  ·cases e2
 ·cases e2
theorem Grow.nofr(g:Grow H Hf H' Hf') (h:H a=some o) (n:Hf a=none):Hf' a=none:=by
 cases q:Hf' a with
 | none=>rfl
 | some u =>
  rcases g.new a (by rw[q];simp) with z|z
  ·exact absurd n z
  ·rw[h]at z;cases z
noncomputable def ai1(n:Nat) (caps:List Nat) (ρ:Rho):Rho:=List.replicate n none++caps.map fun j=>match ρ[j]? with
 | some (some (.val d))=>some (.val d)
 | _=>none
noncomputable def o6(g:D->Rho->Option Rho) (c:Rho->Option Bool) (e:DE):List D->Rho->Option (List D)
 | [],_=>some []
 | d::ds,ρ=>(g d ρ).bind fun ρ1=>(c ρ1).bind fun b=>if b then(e ρ1).bind fun y=>(o6 g c e ds ρ1).map fun r=>y::r else o6 g c e ds ρ1
noncomputable def C5(n:Nat) (caps:List Nat) (src:Rho->Option (List D)) (g:D->Rho->Option Rho) (c:Rho->Option Bool) (e:DE):Rho->Option (List D):=fun ρ=>(src ρ).bind fun ds=>if ds.length<=16777216 then o6 g c e ds (ai1 n caps ρ) else none
noncomputable def ak1(K:PySem.W.Frag) (c:Rho->Option Bool):TT:=fun σ H Q=>∃ρ b,c ρ=some b/\∃H0 Hf,B8 Hf H/\Slots K H0 ρ σ H Hf/\∀H' Hf',Grow H Hf H' Hf'->Q b H'
noncomputable def aM9(K:PySem.W.Frag) (e:DE):TE:=fun σ H Q=>∃ρ d,e ρ=some d/\tJ K ρ (fun _ v _ Hf=>Rep K Hf d v) σ H Q
noncomputable def JTs(X:Cx) (ifs:List Expr) (c:Rho->Option Bool):Prop:=PTs X ifs (ak1 X.K c)
noncomputable def D1:Rho->Option Bool:=fun _=>some true
theorem aQ2:JTs X [] D1:=fun pins s σ H Q I ⟨ρ,b,e,H0,Hf,ss,sl,k⟩=>by
 cases e
 exact bv0 pins s σ H Q I (k H Hf (Grow.refl ss))
theorem bz4(h:JT X e c):JTs X [e] c:=fun pins s σ H Q I ⟨ρ,b,e,H0,Hf,ss,sl,k⟩=>bu9 (h ρ b e) pins s σ H Q I ⟨H0,Hf,ss,sl,k⟩
theorem aL0{K:PySem.W.Frag}{n:Nat}{caps:List Nat}{H0 H H1 H' Hf:Hp}{ρ:Rho}{σ:L2.St}(sl:Slots K H0 ρ σ H Hf):Slots K H1 (ai1 n caps ρ) (am9 n caps σ) H' Hf:=by
 have noown:∀(i:Nat) (ds:List D),(ai1 n caps ρ)[i]?≠some (some (.own ds)):=fun i ds h=>by
  unfold ai1 at h
  rcases Nat.lt_or_ge i n with q|q
  ·rw[List.getElem?_append_left (by simpa using q),List.getElem?_replicate,if_pos q]at h;cases h
  ·rw[List.getElem?_append_right (by simpa using q),List.getElem?_map]at h
   cases hj:caps[i - (List.replicate n (none:Option B)).length]? with
   | none=>rw[hj]at h;cases h
   | some j =>
    rw[hj]at h
    simp only[Option.map_some,Option.some.injEq]at h
    split at h<;>cases h
 refine⟨by simp[ai1,am9],fun i b e=>?_,fun i j ds es a h1=>(noown i ds h1).elim⟩
 unfold ai1 at e
 unfold am9
 rcases Nat.lt_or_ge i n with q|q
 ·rw[List.getElem?_append_left (by simpa using q),List.getElem?_replicate,if_pos q]at e;cases e
 ·rw[List.getElem?_append_right (by simpa using q),List.getElem?_map]at e
  rw[List.getElem?_append_right (by simpa using q),List.getElem?_map]
  simp only[List.length_replicate]at e ⊢
  cases hj:caps[i - n]? with
  | none=>rw[hj]at e;cases e
  | some j =>
   rw[hj]at e
   simp only[Option.map_some,Option.some.injEq]at e ⊢
   split at e
   ·rename_i d hd
    cases e
    obtain⟨v,h1,h2⟩:=sl.is j _ hd
    exact⟨v,by rw[h1];rfl,h2⟩
   ·cases e
theorem v8{K:PySem.W.Frag}{n:Nat}{caps:List Nat}{ρ:Rho}{src:Rho->Option (List D)}{g:D->Rho->Option Rho}{c:Rho->Option Bool}{e:DE}{out:List D}(h:C5 n caps src g c e ρ=some out) :
  ∃ds,src ρ=some ds/\∀σ H Q,tJ K ρ (fun H v H' Hf'=>∃a vs,v=.ref a/\H a=none/\H' a=some (.lst vs)/\Hf' a=none/\Reps K Hf' out vs) σ H Q->bc9 n caps (tiJ K ρ ds) (tgJ K g) (ak1 K c) (aM9 K e) σ H Q:=by
 obtain⟨ds,e1,e2⟩:=xbm h
 split at e2
 ·rename_i hz
  refine⟨ds,e1,fun σ H Q ⟨H0,Hf,s,sl,k⟩=>⟨H0,Hf,s,sl,fun J H1 Hf1 g1 Y Dd hD=>?_⟩⟩
  refine⟨fun i m ys σ' H'=>m=ds.length - i/\i<=ds.length/\∃Hf' ρ' o1 o2,Grow H1 Hf1 H' Hf'/\H' Dd=some (.lst ys)/\Hf' Dd=none/\Slots K (upd H1 Dd (.lst [])) ρ' σ' H' Hf'/\Reps K Hf' o1 ys/\o1.length<=i/\o6 g c e (ds.drop i) ρ'=some o2/\o1++o2=out,
   ⟨ds.length,by simp,Nat.zero_le _,Hf1,ai1 n caps ρ,[],out,Grow.made g1.sub hD,B5,g1.sub.free hD,aL0 (sl.grow g1),rfl,Nat.le_refl _,by simpa using e2,rfl⟩,?_⟩
  rintro i m ys σ' H' ⟨rfl,hi,Hf',ρ',o1,o2,gr,hd1,hd2,sl',rp,ho,ec,eo⟩
  obtain⟨Ys,Yg⟩:=Y i H' Hf' gr.ext gr.sub
  rcases Nat.lt_or_ge i ds.length with hlt|hge
  ·right
   obtain⟨go,yl⟩:=Yg ds[i] (by simp[hlt])
   refine⟨go,fun x H2 hy=>?_⟩
   obtain⟨Hf2,g2,r2⟩:=yl x H2 hy
   rw[List.drop_eq_getElem_cons hlt]at ec
   obtain⟨ρ1,c1,ec⟩:=xbm ec
   obtain⟨b,c2,ec⟩:=xbm ec
   refine⟨ds[i],ρ',ρ1,_,Hf2,c1,g2.sub,sl'.grow g2,r2,fun σ3 sl3=>⟨ρ1,b,c2,_,Hf2,g2.sub,sl3,fun H4 Hf4 g4=>?_⟩⟩
   have gr4:=(gr.trans g2).trans g4
   have hd4:H4 Dd=some (.lst ys):=g4.big _ _ (g2.big _ _ hd1)
   have hf4:Hf4 Dd=none:=(g2.trans g4).nofr hd1 hd2
   have rp4:=rp.mono (g2.trans g4).ext
   cases b with
   | false =>
    rw[if_neg Bool.false_ne_true]at ec
    refine ab3 ?_
    exact⟨ds.length - (i+1),by grind,rfl,hlt,Hf4,ρ1,o1,o2,gr4,hd4,hf4,sl3.grow g4,rp4,by grind,ec,eo⟩
   | true =>
    rw[if_pos rfl]at ec
    refine u6 ?_
    obtain⟨y,c3,ec⟩:=xbm ec
    obtain⟨o3,c4,rfl⟩:=Option.map_eq_some_iff.mp ec
    refine⟨ρ1,y,c3,_,Hf4,g4.sub,sl3.grow g4,fun v H5 Hf5 g5 r5=>⟨g5.big _ _ hd4,?_,?_⟩⟩
    ·rw[rp.length,sizeLine_eq];grind
    ·have hf5:Hf5 Dd=none:=g5.nofr hd4 hf4
     have gr5:=gr4.trans g5
     refine⟨ds.length - (i+1),by grind,rfl,hlt,Hf5,ρ1,o1++[y],o3,⟨fun b u q=>?_,fun b u q=>?_,gr5.ext,gr5.new⟩,B5,hf5,?_,(rp4.mono g5.ext).append ⟨v,[],rfl,r5,rfl⟩,by simp;grind,c4,by simp[← eo]⟩
     ·rw[C2 (C7 q hD)];exact gr5.big b u q
     ·rw[C2 (C7 q hf5)];exact gr5.sub b u q
     ·have sl5:=(sl3.grow g4).grow g5
      refine⟨sl5.len,fun j bb q=>?_,sl5.apart⟩
      obtain⟨w,q1,q2⟩:=sl5.is j bb q
      refine⟨w,q1,?_⟩
      cases bb with
      | val d=>exact q2
      | exc C=>exact q2
      | opq _=>exact q2
      | own dd =>
       obtain⟨a,vs,z1,z2,z3,z4,z5⟩:=q2
       have ne:a≠Dd:=fun z=>by rw[z,B5]at z4;cases z4
       exact⟨a,vs,z1,by rw[C2 ne];exact z2,z3,z4,z5⟩
  ·left
   have:i=ds.length:=by grind
   subst this
   rw[List.drop_length]at ec
   cases ec
   rw[List.append_nil]at eo
   subst eo
   exact⟨Ys (Nat.le_refl _),k _ H' Hf' (g1.trans gr) ⟨Dd,ys,rfl,g1.big.free hD,hd1,hd2,rp⟩⟩
 ·cases e2
end
end G
namespace G
open PySem PySem.Spec PyProof.Rows L2
section
variable {X:Cx}
noncomputable def ab8(N N':List Str) (n:Nat) (caps:List Nat) (sc scope:Scope):Bool :=
 (match scope.kind with | .function=>true|_=>false) &&
 (scope.names.all fun y=>(match y.2 with | .cell=>false | .local=>scope.names.lookup y.1==some .local | .free=>sc.names.lookup y.1==some .cell || sc.names.lookup y.1==some .free|_=>true)) &&
 (N'.length==n+caps.length) &&
 ((List.range caps.length).all fun i=>match caps[i]? with
  | some j=>(match N[j]? with|some x=>N'[n+i]? == some x&&scope.names.lookup x==some .free|none=>false)
  | none=>true)
theorem as1(h:ab8 N N' n caps sc scope=true) (hN:X.N=N) (hS:X.env.scope=sc):CompSc X N' n caps scope:=by
 subst hN hS
 unfold ab8 at h
 simp only[Bool.and_eq_true,List.all_eq_true]at h
 obtain⟨⟨⟨h1,h2⟩,h3⟩,h4⟩:=h
 refine⟨?_,fun y hy e=>?_,fun y hy e=>?_,fun y hy e=>?_,by simpa using h3,fun i j e=>?_⟩
 ·cases q:scope.kind<;>rw[q]at h1<;>first|rfl|cases h1
 ·have:=h2 y hy
  rw[e]at this;cases this
 ·have:=h2 y hy
  rw[e]at this;simpa using this
 ·have:=h2 y hy
  rw[e]at this;simpa using this
 ·have hi:i < caps.length:=(List.getElem?_eq_some_iff.mp e).1
  have:=h4 i (by simpa using hi)
  rw[e]at this
  simp only at this
  cases q:X.N[j]? with
  | none=>rw[q]at this;cases this
  | some x =>
   rw[q]at this
   simp only[Bool.and_eq_true]at this
   exact⟨x,rfl,by simpa using this.1,by simpa using this.2⟩
theorem aS5(S:CompSc X N' n caps scope) (I:Inv X pins σ H s):closureFor scope X.env=pure (L3 X.env.cells scope.names []) :=
 bD2 fun y hy e=>I.ok.has y.1 (S.free y hy e)
theorem bA5(S:CompSc X N' n caps scope) (hx:∀e s,X.xe e s->False)
  (hi:JI X tgt iter src) (hg:∀C s0 H0 ex,JG (D0 X N' scope C s0 H0 ex) tgt g) (ht:∀C s0 H0 ex,JTs (D0 X N' scope C s0 H0 ex) ifs c) (he:∀C s0 H0 ex,JE (D0 X N' scope C s0 H0 ex) elt e)
  (hc:X.calm=true:=by rfl) (hs:∀x,foldedSetIterable iter X.env x=pure x:=by intro _;rfl):JN X (.ListComp elt [⟨tgt,iter,ifs,0⟩] scope pos) (C5 n caps src g c e):=by
 intro ρ out h
 obtain⟨ds,e1,k⟩:=v8 (K:=X.K) h
 intro pins s σ H Q I t
 rw[eval_ListComp]
 refine wpAny_comprehension_free (use:=none) rfl hs (aS5 S I) S.kind S.loc (aE8 (RR:=fun acc C=>compPost (model X.prog X.w) X.A X.xe none (EP X pins σ Q) acc C) S hx hc (hi ρ ds e1) (g:=tgJ X.K g) (tc:=ak1 X.K c) (te:=aM9 X.K e) hg ht (fun C s0 H0 ex pins s σ H Q I ⟨ρ,d,e,t⟩=>he C s0 H0 ex ρ d e pins s σ H Q I t) I (k σ H Q t) ?_)
 intro Dd C r s' hr ⟨m,hn,kk⟩ _
 subst hr
 exact⟨m,hn,fun h' sb=>let⟨H',I',q⟩:=kk h' sb;⟨.ref Dd,H',I',rfl,q⟩⟩
theorem t5(S:CompSc X N' n caps scope) (hx:∀e s,X.xe e s->False) (hc:X.calm=true)
  (hN:X.N.Nodup) (hi:X.N[i]? = some x) (hl:X.env.scope.names.lookup x=some .local) (hsrc:PI X tgt iter wi) (hg:∀C s0 H0 ex,PG (D0 X N' scope C s0 H0 ex) tgt g) (ht:∀C s0 H0 ex,PTs (D0 X N' scope C s0 H0 ex) ifs tc) (he:∀C s0 H0 ex,PE (D0 X N' scope C s0 H0 ex) elt te)
  (hsw:swapsWith (.ListComp elt [⟨tgt,iter,ifs,0⟩] scope pos) (some (.Name x pos')) spos.line X.env=pure true) (hs:∀x,foldedSetIterable iter X.env x=pure x) :
  PS X (.Assign [.Name x pos'] (.ListComp elt [⟨tgt,iter,ifs,0⟩] scope pos) spos) (fun En σ H=>bc9 n caps wi g tc te σ H fun v H'=>En.nx (σ.set i (some v)) H'):=by
 intro pins s σ H En I h
 rw[exec_Assign_Name_used _ _ _ _ hsw]
 refine wpAny_bind (wpAny_standAt (wpAny_bind ?_))
 show wpAny _ X.A (do let _ ← comprehension (.ListComp elt [⟨tgt,iter,ifs,0⟩] scope pos) scope X.env _ (newList []) false (eval iter X.env) (some (assign (.Name x pos') X.env))) _ _ s
 refine wpAny_bind (wpAny_mono (wpAny_comprehension_free (use:=some (assign (.Name x pos') X.env)) (Q:=fun _ s'=>SP X pins En .next s') rfl hs (aS5 S I) S.kind S.loc
  (aE8 (RR:=fun acc C=>compPost (model X.prog X.w) X.A X.xe (some (assign (.Name x pos') X.env)) (fun _ s'=>SP X pins En .next s') acc C) S hx hc hsrc hg ht he I h ?_)) (fun _ s' hq=>wpAny_pure (wpAny_pure hq)) fun _ _ z=>z)
 intro Dd C r s' hr _ ⟨s2,fp,σ',H2,H',eC,I2,f2,I',q⟩
 subst hr eC
 have IX:Inv X pins σ H' s':=as0 (h':=s'.heap) I2 f2 I' (Heap.SameBut.refl ..)
 obtain⟨mC,hnC,_⟩:=I'.loc
 have hCL:s2.heap.objs.size≠X.env.locals:=fun z=>by
  have:=I2.lt
  rw[← z]at this
  exact Nat.lt_irrefl _ this
 show wpAny _ X.A (assign (.Name x pos') X.env (.ref Dd)) _ _ _
 refine wpAny_assign_Name (aq4 (v:=.ref Dd) IX hN hi (.inl hl) rfl (fun s3 I3 ⟨a,sb,ha⟩=>?_) (.inr hl))
 have hCa:s2.heap.objs.size≠a:=fun z=>by
  rcases ha with ha|ha
  ·exact hCL (z.trans ha)
  ·obtain⟨v,q'⟩:=I2.cell x a ha
   have:=q'.lt
   rw[← z]at this
   exact Nat.lt_irrefl _ this
 refine⟨mC,hnC.sameBut sb hCa,fun h' sb'=>?_⟩
 refine⟨_,H',I3.turned (t':=s3.toks) (it:=s2.heap.objs.size) (fun b o hb e=>sb'.extBut b o hb e) I'.free hCL (.inr I2.sz) (fun y c e z=>?_) (fun p hp z=>?_),q⟩
 ·obtain⟨v,q'⟩:=I2.cell y c e
  have:=q'.lt
  rw[z]at this
  exact Nat.lt_irrefl _ this
 ·have:=Heap.lt_size (I2.pin p hp).1
  rw[z]at this
  exact Nat.lt_irrefl _ this
noncomputable def aq6(i:Nat) (f:Rho->Option (List D)):DS:=fun ρ=>(f ρ).map fun ds=>.nx (ρ.set i (some (.val (.list ds))))
theorem bA0(i:Nat) (hN:X.N.Nodup) (S:CompSc X N' n caps scope) (hx:∀e s,X.xe e s->False)
  (hi:JI X tgt iter src) (hg:∀C s0 H0 ex,JG (D0 X N' scope C s0 H0 ex) tgt g) (ht:∀C s0 H0 ex,JTs (D0 X N' scope C s0 H0 ex) ifs c) (he:∀C s0 H0 ex,JE (D0 X N' scope C s0 H0 ex) elt e)
  (hi2:X.N[i]? = some x:=by rfl) (hl:X.env.scope.names.lookup x=some .local:=by rfl) (hsw:swapsWith (.ListComp elt [⟨tgt,iter,ifs,0⟩] scope pos) (some (.Name x pos')) spos.line X.env=pure true:=by rfl)
  (hc:X.calm=true:=by rfl) (hs:∀x,foldedSetIterable iter X.env x=pure x:=by intro _;rfl):JS X (.Assign [.Name x pos'] (.ListComp elt [⟨tgt,iter,ifs,0⟩] scope pos) spos) (aq6 i (C5 n caps src g c e)):=fun ρ fl q H0 Hf0=>by
 obtain⟨out,e1,e2⟩:=Option.map_eq_some_iff.mp q
 subst e2
 obtain⟨ds,e3,k⟩:=v8 (K:=X.K) e1
 refine D8 (t5 S hx hc hN hi2 hl (hi ρ ds e3) (g:=tgJ X.K g) (tc:=ak1 X.K c) (te:=aM9 X.K e) hg ht (fun C s0 H0 ex pins s σ H Q I ⟨ρ,d,e,t⟩=>he C s0 H0 ex ρ d e pins s σ H Q I t) hsw hs) fun En σ H ⟨Hf,a,ee⟩=>k σ H _ ⟨H0,Hf,a.gr.sub,a.sl,fun v H' Hf' gg ⟨p,vs,z1,z2,z3,z4,z5⟩=>?_⟩
 subst z1
 have g2:=gg.freeze z3 z4 z2
 exact ee _ H' _ ⟨a.gr.trans g2,(a.sl.grow g2).set ⟨p,vs,rfl,SqL.of B5,z5.mono (D9 z4)⟩⟩ g2.ext
theorem bV7{kt k2 pt2} (hN:X.N.Nodup) (ha:JA X [a,b] f) (hw:swappedStores [.Tuple [.Name x px,.Name y py] kt pt] (.Tuple [a,b] k2 pt2) X.env=pure (some [x,y])) (hij:i≠j)
  (hi:X.N[i]? = some x:=by rfl) (hj:X.N[j]? = some y:=by rfl) (hx:X.env.scope.names.lookup x=some .local:=by rfl) (hy:X.env.scope.names.lookup y=some .local:=by rfl) (hc:X.calm=true:=by rfl)
  (hs:swapsWithSole [.Tuple [.Name x px,.Name y py] kt pt] (.Tuple [a,b] k2 pt2) pos.line X.env=pure false:=by rfl):JS X (.Assign [.Tuple [.Name x px,.Name y py] kt pt] (.Tuple [a,b] k2 pt2) pos) (be1 i j f):=fun ρ fl q H0 Hf0=>by
 obtain⟨ds,e1,e2⟩:=xbm q
 split at e2
 ·cases e2
  refine D8 (bO3 hc hN hi hj hij hx hy (fun pos pins s σ H Q I t=>ha.run ρ _ e1 pos pins s σ H Q I t) hw hs) fun En σ H ⟨Hf,at',e⟩=>⟨H0,Hf,at'.gr.sub,at'.sl,fun vs H' Hf' gg rp=>?_⟩
  obtain⟨v,r,rfl,r1,w,r',rfl,r2,r3⟩:=rp
  cases r3
  exact⟨v,w,rfl,e _ H' Hf' ⟨at'.gr.trans gg,((at'.sl.grow gg).set r1).set r2⟩ gg.ext⟩
 ·cases e2
noncomputable def av0(f:DE) (g:D->Rho->Option Rho):DS:=fun ρ=>(f ρ).bind fun d=>(g d ρ).map Fl.nx
theorem bk4(he:JE X e f) (hg:JG X tg g) (hs:swapsWithSole [tg] e pos.line X.env=pure false:=by rfl) (hw:swappedStores [tg] e X.env=pure none:=by rfl)
  (h1:(assignEach [tg] X.env).map (·.2)=[assign tg X.env]:=by rfl):JS X (.Assign [tg] e pos) (av0 f g):=fun ρ fl q H0 Hf0=>by
 obtain⟨d,e1,e2⟩:=xbm q
 obtain⟨ρ',e3,e4⟩:=Option.map_eq_some_iff.mp e2
 subst e4
 exact D8 (bO5 (he ρ d e1) hg hs hw h1) fun En σ H ⟨Hf,a,ee⟩=>⟨H0,Hf,a.gr.sub,a.sl,fun v H' Hf' gg r=>⟨d,ρ,ρ',H0,Hf',e3,gg.sub,a.sl.grow gg,r,fun σ' sl'=>ee σ' H' Hf' ⟨a.gr.trans gg,sl'⟩ gg.ext⟩⟩
noncomputable def L5(i:Nat) (f:Rho->Option (List D)):DS:=fun ρ=>(f ρ).map fun ds=>.nx (ρ.set i (some (.own ds)))
theorem Slots.setOwn{K:PySem.W.Frag}{H0 H H' Hf Hf':Hp}{ρ:Rho}{σ:L2.St}{i:Nat}{ds:List D}{a:Addr}{vs:List V}(s:Slots K H0 ρ σ H Hf) (g:Grow H Hf H' Hf') (n0:H0 a=none) (n:H a=none) (h:H' a=some (.lst vs)) (nf:Hf' a=none) (r:Reps K Hf' ds vs) :
  Slots K H0 (ρ.set i (some (.own ds))) (σ.set i (some (.ref a))) H' Hf':=by
 have s':=s.grow g
 have old:∀(j:Nat) (es:List D),i≠j->ρ[j]? = some (some (.own es))->σ[j]?≠some (some (.ref a)):=fun j es hj e z=>by
  obtain⟨v,h1,b,us,e1,h2,_⟩:=s.is j _ e
  rw[z]at h1;cases h1;cases e1
  rw[n]at h2;cases h2
 refine⟨by simp[s.len],fun j b e=>?_,fun j k ds1 es b h1 h2 h3 h4=>?_⟩
 ·by_cases q:i=j
  ·subst q
   have hi:i < ρ.length:=by simpa using (List.getElem?_eq_some_iff.mp e).1
   have hi':i < σ.length:=by rw[← s.len];exact hi
   rw[List.getElem?_set_self hi]at e
   cases e
   exact⟨_,List.getElem?_set_self hi',a,vs,rfl,h,nf,n0,r⟩
  ·rw[List.getElem?_set_ne q]at e
   obtain⟨u,h1,h2⟩:=s'.is j b e
   exact⟨u,by rw[List.getElem?_set_ne q];exact h1,h2⟩
 ·by_cases qj:i=j
  ·by_cases qk:i=k
   ·rw[← qj,← qk]
   ·subst qj
    have hi:i < ρ.length:=by simpa using (List.getElem?_eq_some_iff.mp h1).1
    rw[List.getElem?_set_self (by rw[← s.len];exact hi)]at h3
    rw[List.getElem?_set_ne qk]at h2 h4
    cases h3
    exact(old k es qk h2 h4).elim
  ·rw[List.getElem?_set_ne qj]at h1 h3
   by_cases qk:i=k
   ·subst qk
    have hi:i < ρ.length:=by simpa using (List.getElem?_eq_some_iff.mp h2).1
    rw[List.getElem?_set_self (by rw[← s.len];exact hi)]at h4
    cases h4
    exact(old j ds1 qj h1 h3).elim
   ·rw[List.getElem?_set_ne qk]at h2 h4
    exact s.apart j k ds1 es b h1 h2 h3 h4
theorem bV8(i:Nat) (hN:X.N.Nodup) (h:JN X e f) (hi:X.N[i]? = some x:=by rfl) (hx:Loc X.env.scope x:=by first|exact Or.inl rfl|exact Or.inr rfl)
  (hs:swapsWith e (some (.Name x pos')) pos.line X.env=pure false:=by rfl) (hf:X.fn x=true\/X.env.scope.names.lookup x=some .local:=by first|exact .inl rfl|exact .inr rfl):JS X (.Assign [.Name x pos'] e pos) (L5 i f):=fun ρ fl q H0 Hf0=>by
 obtain⟨ds,e1,e2⟩:=Option.map_eq_some_iff.mp q
 subst e2
 refine D8 (ak8 hN hi hx (h ρ ds e1) hs hf) fun En σ H ⟨Hf,a,e⟩=>⟨H0,Hf,a.gr.sub,a.sl,fun v H' Hf' g ⟨p,vs,z1,z2,z3,z4,z5⟩=>?_⟩
 subst z1
 exact e _ H' Hf' ⟨a.gr.trans g,a.sl.setOwn g (a.gr.big.free z2) z2 z3 z4 z5⟩ g.ext
noncomputable def V3(i:Nat) (f:DE):DS:=fun ρ=>match ρ[i]? with
 | some (some (.own ds))=>if ds.length < 16777216 then(f ρ).map fun d=>.nx (ρ.set i (some (.own (ds++[d])))) else none
 | _=>none
theorem bW3(i:Nat) (h:JE X e f) (hN:X.N[i]? = some x:=by rfl) (hv:Vis X.env.scope x:=by first|exact Or.inl rfl|exact Or.inr (Or.inl rfl)|exact Or.inr (Or.inr rfl)) (hd:(x==("__debug__" : Str))=false:=by decide)
  (hcd:(x==("__classdict__" : Str))=false:=by decide) (hbase:attributeBase (.Name x p) "append" X.env (eval (.Name x p) X.env)=eval (.Name x p) X.env:=by rfl)
  (hfew:((backTo cpos (starEach [e] X.env)).all (fun x=>!x.1)&&(backToKw cpos (keywordEach [] X.env)).all (fun x=>x.1.isSome)
   && decide (([e]:List Expr).length+([]:List Keyword).length+(if([]:List Keyword).isEmpty then 0 else 1) < 30))=true:=by rfl)
  (hline:(apos.endLine==cpos.line)=true:=by rfl) (hs:starEach [e] X.env=[(false,eval e X.env)]:=by rfl) (hsw:swapsWith (.Call (.Attribute (.Name x p) "append" apos) [e] [] cpos) none pos.line X.env=pure false:=by rfl) :
  JS X (.Expr (.Call (.Attribute (.Name x p) "append" apos) [e] [] cpos) pos) (V3 i f):=fun ρ fl q H0 Hf0=>by
 unfold V3 at q
 split at q
 ·rename_i ds eo
  split at q
  ·rename_i hz
   obtain⟨d,e1,e2⟩:=Option.map_eq_some_iff.mp q
   subst e2
   refine D8 (aa7 (aq8 PySem.F.plainAttrs_list PySem.F.slot_list_append PySem.F.type_list_append ad6 (O0 hN hv hd hcd) (D4 (h ρ d e1) E9 hs) hbase hfew hline hs) hsw) fun En σ H ⟨Hf,a,ee⟩=>?_
   obtain⟨v,h1,b,vs,rfl,h2,h3,h4,h5⟩:=a.sl.is i _ eo
   refine⟨_,h1,.inl ⟨rfl,vs,SqL.of h2⟩,H0,Hf,a.gr.sub,a.sl,fun w H' Hf' gg r=>?_⟩
   have hb:H' b=some (.lst vs):=gg.big _ _ h2
   have hfb:Hf' b=none:=gg.nofr h2 h3
   have g2:=a.gr.trans gg
   have sl2:=a.sl.grow gg
   refine⟨b,vs,w,rfl,rfl,hb,by rw[h5.length,sizeLine_eq];exact hz,ee _ _ Hf' ⟨⟨fun c u z=>?_,fun c u z=>?_,g2.ext,g2.new⟩,?_⟩ gg.ext⟩
   ·rw[C2 (C7 z h4)];exact g2.big c u z
   ·rw[C2 (C7 z hfb)];exact g2.sub c u z
   ·refine⟨by simpa using sl2.len,fun j bb z=>?_,fun j k ds1 es c q1 q2 q3 q4=>?_⟩
    ·by_cases qj:i=j
     ·subst qj
      have hi:i < ρ.length:=(List.getElem?_eq_some_iff.mp eo).1
      rw[List.getElem?_set_self hi]at z
      cases z
      exact⟨_,h1,b,vs++[w],rfl,B5,hfb,h4,(h5.mono gg.ext).append ⟨w,[],rfl,r,rfl⟩⟩
     ·rw[List.getElem?_set_ne qj]at z
      obtain⟨u,z1,z2⟩:=sl2.is j bb z
      refine⟨u,z1,?_⟩
      cases bb with
      | val d=>exact z2
      | exc C=>exact z2
      | opq _=>exact z2
      | own dd =>
       obtain⟨a',vs',y1,y2,y3,y4,y5⟩:=z2
       have ne:a'≠b:=fun zz=>by
        subst zz y1
        exact qj (a.sl.apart i j ds dd a' eo z h1 z1)
       exact⟨a',vs',y1,by rw[C2 ne];exact y2,y3,y4,y5⟩
    ·have q1':∃dd,ρ[j]? = some (some (.own dd)):=by
      by_cases qj:i=j
      ·subst qj;exact⟨ds,eo⟩
      ·rw[List.getElem?_set_ne qj]at q1;exact⟨_,q1⟩
     have q2':∃dd,ρ[k]? = some (some (.own dd)):=by
      by_cases qj:i=k
      ·subst qj;exact⟨ds,eo⟩
      ·rw[List.getElem?_set_ne qj]at q2;exact⟨_,q2⟩
     obtain⟨d1,q1'⟩:=q1'
     obtain⟨d2,q2'⟩:=q2'
     exact a.sl.apart j k d1 d2 c q1' q2' q3 q4
  ·cases q
 ·cases q
noncomputable def frz(i:Nat) (ρ:Rho):Rho:=match ρ[i]? with
 | some (some (.own ds))=>ρ.set i (some (.val (.list ds)))
 | _=>ρ
theorem bo0{K:PySem.W.Frag}{H0 Hf0 H Hf:Hp}{ρ:Rho}{σ:L2.St}(i:Nat) (a:At K H0 Hf0 ρ σ H Hf):∃Hf',B8 Hf Hf'/\At K H0 Hf0 (frz i ρ) σ H Hf':=by
 unfold frz
 split
 ·rename_i ds eo
  obtain⟨v,h1,b,vs,rfl,h2,h3,h4,h5⟩:=a.sl.is i _ eo
  have g:Grow H0 Hf0 H (upd Hf b (.lst vs)):=a.gr.freeze h2 h3 h4
  refine⟨upd Hf b (.lst vs),D9 h3,g,⟨by simpa using a.sl.len,fun j bb z=>?_,fun j k ds1 es c q1 q2 q3 q4=>?_⟩⟩
  ·have hi:i < ρ.length:=(List.getElem?_eq_some_iff.mp eo).1
   by_cases qj:i=j
   ·subst qj
    rw[List.getElem?_set_self hi]at z
    cases z
    exact⟨_,h1,b,vs,rfl,SqL.of B5,h5.mono (D9 h3)⟩
   ·rw[List.getElem?_set_ne qj]at z
    obtain⟨u,z1,z2⟩:=a.sl.is j bb z
    refine⟨u,z1,?_⟩
    cases bb with
    | val d=>exact Rep.mono (D9 h3) z2
    | opq _=>exact z2
    | exc C =>
     obtain⟨a',o',C',y1,y2,y3⟩:=z2
     exact⟨a',o',C',y1,D9 h3 _ _ y2,y3⟩
    | own dd =>
     obtain⟨a',vs',y1,y2,y3,y4,y5⟩:=z2
     have ne:a'≠b:=fun zz=>by
      subst zz y1
      exact qj (a.sl.apart i j ds dd a' eo z h1 z1)
     exact⟨a',vs',y1,y2,by rw[C2 ne];exact y3,y4,y5.mono (D9 h3)⟩
  ·have hi:i < ρ.length:=(List.getElem?_eq_some_iff.mp eo).1
   have qj:i≠j:=fun z=>by subst z;rw[List.getElem?_set_self hi]at q1;cases q1
   have qk:i≠k:=fun z=>by subst z;rw[List.getElem?_set_self hi]at q2;cases q2
   rw[List.getElem?_set_ne qj]at q1
   rw[List.getElem?_set_ne qk]at q2
   exact a.sl.apart j k ds1 es c q1 q2 q3 q4
 ·exact⟨Hf,B8.refl _,a⟩
noncomputable def k7(i:Nat) (f:DS):DS:=fun ρ=>f (frz i ρ)
theorem bV9(i:Nat) {st:Stmt}{f:DS}(h:JS X st f):JS X st (k7 i f):=fun ρ fl q H0 Hf0=>D8 (h (frz i ρ) fl q H0 Hf0) fun En σ H ⟨Hf,a,e⟩=>by
 obtain⟨Hf',s,a'⟩:=bo0 i a
 exact⟨Hf',a',Fl.ends_mono e s⟩
noncomputable def ce0(K:PySem.W.Frag) (H0 Hf0:Hp) (f:DS):TS:=fun En σ H=>∃ρ fl,f ρ=some fl/\tJS K H0 Hf0 ρ fl En σ H
theorem aO7(h:JSs X sts f):PSs X sts (ce0 X.K H0 Hf0 f):=fun pins s σ H En I ⟨ρ,fl,e,t⟩=>h ρ fl e H0 Hf0 pins s σ H En I t
theorem bO1(h:JT X e c):PT X e (ak1 X.K c):=fun pins s σ H Q I ⟨ρ,b,e,t⟩=>h ρ b e pins s σ H Q I t
noncomputable def N6(t:Rho->Option Bool) (f:DS):Nat->DS
 | 0=>fun _=>none
 | n+1=>fun ρ=>(t ρ).bind fun c=>if c then(f ρ).bind fun fl=>match fl with
   | .nx ρ'=>N6 t f n ρ'
   | .ct ρ'=>N6 t f n ρ'
   | .bk ρ'=>some (.nx ρ')
   | .rt d=>some (.rt d)
  else some (.nx ρ)
theorem u5:∀{n:Nat}{ρ:Rho}{fl:Fl},N6 t f n ρ=some fl->N6 t f (n+1) ρ=some fl
 | 0,_,_,h=>by cases h
 | n+1,ρ,fl,h=>by
  obtain⟨c,e1,h⟩:=xbm h
  show(t ρ).bind _=_
  rw[e1]
  cases c with
  | false=>exact h
  | true =>
   obtain⟨fl1,e2,h⟩:=xbm h
   show(f ρ).bind _=_
   rw[e2]
   cases fl1 with
   | nx ρ'=>exact u5 (n:=n) h
   | ct ρ'=>exact u5 (n:=n) h
   | bk ρ'=>exact h
   | rt d=>exact h
theorem aC8(h:N6 t f n ρ=some fl) (l:n<=m):N6 t f m ρ=some fl:=by
 induction l with
 | refl=>exact h
 | step _ ih=>exact u5 ih
open Classical in
noncomputable def S2(t:Rho->Option Bool) (f:DS):DS:=fun ρ=>if h:∃fl n,N6 t f n ρ=some fl then some h.choose else none
theorem ad2(h:N6 t f n ρ=some fl):S2 t f ρ=some fl:=by
 have hx:∃fl n,N6 t f n ρ=some fl:=⟨fl,n,h⟩
 unfold S2
 rw[dif_pos hx]
 obtain⟨m,hm⟩:=hx.choose_spec
 have h1:=aC8 h (Nat.le_max_left n m)
 have h2:=aC8 hm (Nat.le_max_right n m)
 rw[h1]at h2
 exact h2.symm
theorem aU9(h:S2 t f ρ=some fl):∃n,N6 t f n ρ=some fl:=by
 unfold S2 at h
 split at h
 ·rename_i hx
  cases h
  exact hx.choose_spec
 ·cases h
theorem bk2(hc:JT X c t) (hb:JSs X body f) (hp:PassesOwn (model X.prog X.w) X.A X.env X.xe:=by exact PassesOwn.never):JS X (.While c body [] pos) (S2 t f):=fun ρ fl q H0 Hf0=>by
 obtain⟨n,hn⟩:=aU9 q
 refine D8 (aB0 hp (bO1 hc) (aO7 (H0:=H0) (Hf0:=Hf0) hb)) fun En σ H ⟨Hf,a,e⟩=>?_
 refine⟨fun m σ H=>∃Hf' ρ',At X.K H0 Hf0 ρ' σ H Hf'/\B8 Hf Hf'/\N6 t f m ρ'=some fl,⟨n,Hf,ρ,a,B8.refl _,hn⟩,?_⟩
 rintro m σ' H' ⟨Hf',ρ',a',s',hm⟩
 cases m with
 | zero=>cases hm
 | succ m =>
  obtain⟨b,e1,hm⟩:=xbm hm
  refine⟨ρ',b,e1,H0,Hf',a'.gr.sub,a'.sl,fun H2 Hf2 g2=>?_⟩
  have a2:=a'.grow g2
  have s2:=s'.trans g2.ext
  cases b with
  | false =>
   have:fl=.nx ρ':=by simpa using hm.symm
   subst this
   exact ab3 (e σ' H2 Hf2 a2 s2)
  | true =>
   obtain⟨fl1,e2,hm⟩:=xbm (show(f ρ').bind _=some fl from hm)
   refine u6 ⟨fun σ3 H3=>∃m',m' < m+1/\∃Hf' ρ',At X.K H0 Hf0 ρ' σ3 H3 Hf'/\B8 Hf Hf'/\N6 t f m' ρ'=some fl,fun σ3 H3 z=>z,ρ',fl1,e2,Hf2,a2,?_⟩
   cases fl1 with
   | nx ρ3=>exact fun σ3 H3 Hf3 a3 s3=>⟨m,Nat.lt_succ_self _,Hf3,ρ3,a3,s2.trans s3,hm⟩
   | ct ρ3=>exact fun σ3 H3 Hf3 a3 s3=>⟨m,Nat.lt_succ_self _,Hf3,ρ3,a3,s2.trans s3,hm⟩
   | bk ρ3 =>
    cases hm
    exact fun σ3 H3 Hf3 a3 s3=>e σ3 H3 Hf3 a3 (s2.trans s3)
   | rt d =>
    cases hm
    exact e
noncomputable def ad9(g:D->Rho->Option Rho) (f:DS):List D->DS
 | []=>fun ρ=>some (.nx ρ)
 | d::ds=>fun ρ=>(g d ρ).bind fun ρ1=>(f ρ1).bind fun fl=>match fl with
   | .nx ρ'=>ad9 g f ds ρ'
   | .ct ρ'=>ad9 g f ds ρ'
   | .bk ρ'=>some (.nx ρ')
   | .rt d=>some (.rt d)
noncomputable def k8(src:Rho->Option (List D)) (g:D->Rho->Option Rho) (f:DS):DS:=fun ρ=>(src ρ).bind fun ds=>ad9 g f ds ρ
theorem bW0(hi:JI X tg iter src) (hg:JG X tg g) (hb:JSs X body f) (hp:PassesOwn (model X.prog X.w) X.A X.env X.xe:=by exact PassesOwn.never) (hc:X.calm=true:=by rfl)
  (hs:∀x,foldedSetIterable iter X.env x=pure x:=by intro _;rfl):JS X (.For tg iter body [] pos) (k8 src g f):=fun ρ fl q H0 Hf0=>by
 obtain⟨ds,e1,e2⟩:=xbm q
 refine D8 (bf4 hp hc (hi ρ ds e1) hg (aO7 (H0:=H0) (Hf0:=Hf0) hb) hs) fun En σ H ⟨Hf,a,e⟩=>⟨H0,Hf,a.gr.sub,a.sl,fun J H1 Hf1 g1 Y=>?_⟩
 refine⟨fun i m σ H=>m=ds.length - i/\i<=ds.length/\∃Hf' ρ',At X.K H0 Hf0 ρ' σ H Hf'/\B8 Hf1 Hf'/\ad9 g f (ds.drop i) ρ'=some fl,⟨ds.length,by simp,Nat.zero_le _,Hf1,ρ,a.grow g1,B8.refl _,by simpa using e2⟩,?_⟩
 rintro i m σ' H' ⟨rfl,hi,Hf',ρ',a',s',hm⟩
 obtain⟨Ys,Yg⟩:=Y i H' Hf' s' a'.gr.sub
 rcases Nat.lt_or_ge i ds.length with hlt|hge
 ·right
  obtain⟨go,yl⟩:=Yg ds[i] (by simp[hlt])
  rw[List.drop_eq_getElem_cons hlt]at hm
  obtain⟨ρ1,c1,hm⟩:=xbm hm
  obtain⟨fl1,c2,hm⟩:=xbm hm
  refine⟨go,fun σ3 H3=>∃m',m' < ds.length - i/\m'=ds.length - (i+1)/\i+1<=ds.length/\∃Hf' ρ',At X.K H0 Hf0 ρ' σ3 H3 Hf'/\B8 Hf1 Hf'/\ad9 g f (ds.drop (i+1)) ρ'=some fl,fun σ3 H3 ⟨m',z1,z2⟩=>⟨m',z1,z2⟩,fun x H2 hy=>?_⟩
  obtain⟨Hf2,g2,r2⟩:=yl x H2 hy
  have a2:=a'.grow g2
  refine⟨ds[i],ρ',ρ1,H0,Hf2,c1,g2.sub,a2.sl,r2,fun σ3 sl3=>⟨ρ1,fl1,c2,Hf2,⟨a2.gr,sl3⟩,?_⟩⟩
  have s2:=s'.trans g2.ext
  cases fl1 with
  | nx ρ3=>exact fun σ3 H3 Hf3 a3 s3=>⟨_,by omega,rfl,hlt,Hf3,ρ3,a3,s2.trans s3,hm⟩
  | ct ρ3=>exact fun σ3 H3 Hf3 a3 s3=>⟨_,by omega,rfl,hlt,Hf3,ρ3,a3,s2.trans s3,hm⟩
  | bk ρ3 =>
   cases hm
   exact fun σ3 H3 Hf3 a3 s3=>e σ3 H3 Hf3 a3 (g1.ext.trans (s2.trans s3))
  | rt d =>
   cases hm
   exact e
 ·left
  have:i=ds.length:=by omega
  subst this
  rw[List.drop_length]at hm
  cases hm
  exact⟨Ys (Nat.le_refl _),e σ' H' Hf' a' (g1.ext.trans s')⟩
theorem bz7:JS X (.Pass pos) G5:=fun ρ fl q H0 Hf0=>by
 cases q
 exact D8 bv2 fun En σ H ⟨Hf,a,e⟩=>e σ H Hf a (B8.refl _)
theorem bW2:JS X (.Break pos) (fun ρ=>some (.bk ρ)):=fun ρ fl q H0 Hf0=>by
 cases q
 exact D8 bf5 fun En σ H ⟨Hf,a,e⟩=>e σ H Hf a (B8.refl _)
end
noncomputable def N8(n:Nat) (ds:List D):Rho:=ds.map (fun d=>some (B.val d))++List.replicate (n - ds.length) none
noncomputable def D2(g:DS) (n:Nat):List D->Option D:=fun ds=>(g (N8 n ds)).bind fun fl=>match fl with
 | .rt d=>some d
 | .nx _=>some .none
 | _=>none
theorem af3{K:PySem.W.Frag}{H0 H Hf:Hp}{N:List Str}{ds:List D}{vs:List V}(r:Reps K Hf ds vs):Slots K H0 (N8 N.length ds) (L2.start N vs) H Hf:=by
 have hl:=r.length
 have noown:∀(i:Nat) (b:B),(N8 N.length ds)[i]? = some (some b)->∃d,ds[i]? = some d/\b=.val d:=fun i b h=>by
  unfold N8 at h
  rcases Nat.lt_or_ge i ds.length with q|q
  ·rw[List.getElem?_append_left (by simpa using q),List.getElem?_map]at h
   rw[List.getElem?_eq_getElem q]at h ⊢
   simp only[Option.map_some,Option.some.injEq]at h
   exact⟨ds[i],rfl,h.symm⟩
  ·rw[List.getElem?_append_right (by simpa using q),List.getElem?_replicate]at h
   split at h<;>cases h
 refine⟨by simp[N8,L2.start,hl],fun i b e=>?_,fun i j d1 d2 a e1 _ _ _=>?_⟩
 ·obtain⟨d,h1,h2⟩:=noown i b e
  subst h2
  obtain⟨v,h3,h4⟩:=r.get h1
  refine⟨v,?_,h4⟩
  have hi:i < vs.length:=(List.getElem?_eq_some_iff.mp h3).1
  unfold L2.start
  rw[List.getElem?_append_left (by simpa using hi),List.getElem?_map,h3];rfl
 ·obtain⟨d,_,h2⟩:=noown i _ e1
  cases h2
theorem bC2{P:Program}{w:World}{K:PySem.W.Frag}{mg:Str->Option Value}{base:Heap}{x qual:Str}{st:Stmt}{f:Addr}{fd:FuncData}{N ps:List Str}{k:Nat}{g:DS}(F:Fun K x qual st f fd) (S:FnScope N ps (B9 st))
  (hb:∀(cdv:Value) (A:Around) (outer:List Env) (s:Shared) (H:Hp) (E:XK),Room k (A.deeper (envOfC qual (B9 st) s.heap.objs.size f cdv))->JSs (am7 CX0 P w K mg base N qual (B9 st) f cdv A outer s H E).nox (E8 st) g) :
  FnOk P w K mg base CX0 (k+1) f fd ps (spF K ps.length (D2 g N.length)):=by
 refine F.ok S (fun vs H Q E h=>h.1) fun cdv A outer s H vs Q E hr hsp=>?_
 obtain⟨hlen,Hf,ds,d,ss,rp,e,kk⟩:=hsp
 obtain⟨fl,e1,e2⟩:=xbm e
 refine⟨_,hb cdv A outer s H E hr _ fl e1 H Hf,Hf,⟨Grow.refl ss,af3 rp⟩,?_⟩
 cases fl with
 | rt d'=>cases e2;exact fun v H' Hf' g r=>kk v H' Hf' g r
 | nx ρ=>cases e2;exact fun σ' H' Hf' a _=>kk _ H' Hf' a.gr rfl
 | bk ρ=>cases e2
 | ct ρ=>cases e2
end G
namespace G
open PySem PySem.Spec PyProof.Rows L2
section
variable {prog:Program}{w:World}{A:Around}{E:Value->Shared->Prop}{s:Shared}{t t1 t2:Bool}
end
end G
namespace G
open PySem PySem.Spec PyProof.Rows L2
section
variable {prog:Program}{w:World}{A:Around}{E:Value->Shared->Prop}{s:Shared}{t1 t2:Bool}
end
end G
namespace G
open PySem PySem.Spec PyProof.Rows L2
section
variable {X:Cx}
noncomputable def bB7(f g:Rho->Option (Bool×List D)):Rho->Option (List D):=fun ρ=>(f ρ).bind fun p=>(g ρ).bind fun q=>some ((p.2.zip q.2).map fun(x,y)=>PyData.tuple [x,y])
end
end G
namespace G
open PySem PySem.Spec PyProof.Rows L2
theorem af9:fillsNumberSlot (.type "tuple") "mul" = pure false:=PySem.fillsNumberSlot_seq (id := "tuple.__mul__") (r:=some (.builtin "tuple.__rmul__")) F.slot_tuple_mul.lookup (by decide +kernel) F.slot_tuple_rmul.lookup (by decide +kernel)
theorem aq7:seqRepeat? (.type "tuple")=pure (some (.builtin "tuple.__mul__")):=by
 unfold seqRepeat?
 rw[PySem.seqSlot_of (T := "tuple") (name := "__mul__") (id := "tuple.__mul__") F.slot_tuple_mul.lookup (by decide +kernel),PySem.seqSlot_of (T := "tuple") (name := "__rmul__") (id := "tuple.__rmul__") F.slot_tuple_rmul.lookup (by decide +kernel)];rfl
theorem aa4(a:Int) (t:Tok) (l:Addr) (items:Array Value) (n:Nat) (dd:Option Addr) (sl:Array (Option Value)) :
  Meets (Builtin.«int.__rmul__» ⟨[.int a t,.ref l],[]⟩) (fun _ R s=>s.heap.get? l=some ⟨.type "tuple", dd,.seq items n,sl⟩/\R (.ok (.ret Value.notImplemented)) s) :=
 .of_wp fun prog w A R s h=>by obtain⟨hp,g,d,tk,os⟩:=s;obtain⟨hl,h⟩:=h;wp_walk;exact⟨_,rfl,h⟩
theorem aH6(items:Array Value) (k:Nat):List.foldl (fun x1 x2=>x1++x2) #[] (List.replicate k items)=(List.replicate k items.toList).flatten.toArray:=by
 have:=ar8 items.toList k []
 rw[List.nil_append]at this
 simpa using this
theorem aB9(l:Addr) (items:Array Value) (n:Nat) (dd:Option Addr) (sl:Array (Option Value)) (x:Int) (u:Tok) (h2:2<=x) (h3:x < 1000000) (he:items.isEmpty=false) (hz:items.size*x.toNat<=sizeLine) :
  Meets (Builtin.«tuple.__mul__» ⟨[.ref l,.int x u],[]⟩) (fun _ R s=>s.heap.get? l=some ⟨.type "tuple", dd,.seq items n,sl⟩/\R (.ok (.ret (Value.ref s.heap.objs.size))) { s with heap:=s.heap.push { cls:=Value.type "tuple", data:=Data.seq (List.foldl (fun x1 x2=>x1++x2) #[] (List.replicate x.toNat items)) } }) :=
 .of_wp fun prog w A R s h=>by
  obtain⟨hp,g,d,tk,os⟩:=s
  obtain⟨hl,h⟩:=h
  have hm:(items.size:Int)*x<=16777216:=by
   have e:((items.size*x.toNat:Nat):Int)=(items.size:Int)*x:=by rw[Int.natCast_mul,Int.toNat_of_nonneg (by omega)]
   have:items.size*x.toNat<=16777216:=by rw[← sizeLine_eq];exact hz
   omega
  wp_walk
  refine wpAny_ite_false (by simp;omega) ?_
  have ht:Heap.IsTuple (Shared.heap ⟨hp,g,d,tk,os⟩) l items:=⟨_,hl,rfl,n,rfl⟩
  refine wpAny_bind (tupleItemsOf_ ht ?_)
  refine wpAny_ite_false (by rw[he];simp;omega) ?_
  show wpAny _ _ (if(decide (x<=0) || items.isEmpty)=true then _ else _) _ _ _
  refine wpAny_ite_false (by rw[he];simp;omega) ?_
  show wpAny _ _ (if(items.size:Int)*x > (2 ^ 63 - 1) / 8 then _ else _) _ _ _
  rw[if_neg (by omega)]
  show wpAny _ _ (if Builtin.Tuple.tupleTooMany ((items.size:Int)*x)=true then _ else _) _ _ _
  rw[if_neg (by unfold Builtin.Tuple.tupleTooMany;rw[sizeLine_eq];simp;omega)]
  refine wpAny_bind (m:=Builtin.Tuple.tupleExact _) (wpAny_newObj_type (wpAny_pure ⟨_,rfl,h⟩) ?_)
  show(List.foldl (fun x1 x2=>x1++x2) #[] (List.replicate x.toNat items)).size<=sizeLine
  rw[aH6 items x.toNat,List.size_toArray,aw6,Array.length_toList,Nat.mul_comm]
  exact hz
section
variable {X:Cx}
theorem bw4:OpR X (binaryOp .Mult) (fun x y H Q=>∃l k xs,x=.ref l/\y=.int k/\SqT X.K H l xs/\xs≠[]/\2<=k/\k < 1000000/\xs.length*k.toNat<=sizeLine/\∀p,H p=none->Q (.ref p) (upd H p (.tup (List.replicate k.toNat xs).flatten))):=by
 intro pins s σ H x y v u Q I rx ry h
 obtain⟨l,k,xs,rfl,rfl,hq,hx,h2,h3,hz,q⟩:=h
 cases rx
 obtain⟨t,rfl⟩:=ry
 obtain⟨its,r,p1,_⟩:=I.tuple hq
 obtain⟨⟨cls,dd,data,sl⟩,ho,hc,n,hd⟩:=id p1
 simp only at hc hd
 subst hc hd
 have hl:=r.length
 have he:its.toArray.isEmpty=false:=by
  cases its with
  | nil=>exact absurd (r.nil_iff.mp rfl) hx
  | cons a b=>rfl
 refine wpAny_binaryOp_repeat_ref (T := "tuple") (U := "int") (by decide) ⟨_,ho,rfl⟩ (fun s'=>typeIs_int s' k t) af9 F.fills_int_mul F.slot_int_rmul aq7 F.slot_int_index.lookup
  (call_meets F.slot_int_rmul (typeIs_int s k t) F.entry_int_rmul (F.args_int_rmul_2 _ _) (aa4 k t l its.toArray n dd sl) ⟨ho,rfl,⟨_,ho,rfl⟩,
   call_meets F.slot_tuple_mul ⟨_,ho,rfl⟩ F.entry_tuple_mul (F.args_tuple_mul_2 _ _) (aB9 l its.toArray n dd sl k t h2 h3 he (by rw[List.size_toArray,← hl];exact hz)) ⟨ho,?_⟩⟩)
 rw[aH6]
 refine⟨.ref _,_,I.laid (t':=s.toks) (o:=.tup (List.replicate k.toNat xs).flatten) (fun b ob q=>Heap.get?_push_of_some _ q) (Nat.le_refl _) ⟨?_,_,r.rep k.toNat,ap4.new _ _⟩,rfl,q _ (I.hok.fresh (Nat.le_refl _))⟩
 rw[aw6,Nat.mul_comm];exact hz
noncomputable def X3(x y:D):Option D:=match x,y with
 | .int i,.int j=>if D7 i/\D7 j then some (.int (i*j)) else none
 | .tuple xs,.int k=>if xs.isEmpty=false/\2<=k/\k < 1000000/\xs.length*k.toNat<=16777216 then some (.tuple (List.replicate k.toNat xs).flatten) else none
 | _,_=>none
theorem aw3:OpD X (binaryOp .Mult) X3:=fun x y z h=>by
 unfold X3 at h
 split at h
 ·exact bQ5 _ _ z (by unfold bR9;exact h)
 ·split at h
  ·rename_i xs k c
   cases h
   refine OpR.imp bw4 fun vx vy H Q ⟨Hf,s,r1,r2,kk⟩=>?_
   obtain⟨a,vs,rfl,h2,h3⟩:=r1
   refine⟨a,k,vs,rfl,r2,C9 s h2,?_,c.2.1,c.2.2.1,by rw[h3.length,sizeLine_eq];exact c.2.2.2,fun p hp=>?_⟩
   ·intro e
    subst e
    have:=h3.length
    cases xs with
    | nil=>exact absurd c.1 (by simp)
    | cons a b=>simp at this
   ·exact kk _ _ _ (Grow.laid s hp) ⟨p,_,rfl,SqT.of B5,(h3.flatten k.toNat).mono (D9 (s.free hp))⟩
  ·cases h
 ·cases h
noncomputable def bp7(f:DE):DE:=fun ρ=>(f ρ).bind fun d=>match d with
 | .int i=>some (.int (-i))
 | _=>none
theorem bY2(h:JE X a f):JE X (.UnaryOp .USub a pos) (bp7 f):=fun ρ d q=>by
 obtain⟨x,e1,e2⟩:=xbm q
 cases x with
 | int i =>
  cases e2
  exact B4 (cg7 bL4 (h ρ _ e1)) fun σ H Q ⟨H0,Hf,s,sl,k⟩=>⟨H0,Hf,s,sl,fun v H1 Hf1 g1 r1=>⟨_,r1,k _ H1 Hf1 g1 rfl⟩⟩
 | _=>cases e2
noncomputable def isB(x y:D):Option D:=match y with
 | .bool b=>(match x with
  | .bool c=>some (.bool (c==b))
  | .dict _=>none
  | _=>some (.bool false))
 | .none=>isN x .none
 | _=>none
noncomputable def aV2(x y:D):Option D:=match y with
 | .bool b=>(match x with
  | .bool c=>some (.bool (!(c==b)))
  | .dict _=>none
  | _=>some (.bool true))
 | .none=>bR0 x .none
 | _=>none
theorem bG5:OpD X (compareOp .Is) isB:=fun x y z h=>by
 cases y with
 | none=>exact bQ7 x .none z h
 | bool b =>
  intro pins s σ H vx vy v u Q I rx ry ⟨Hf,ss,r1,r2,k⟩
  cases r2
  cases ry
  have fin:∀c,z=.bool c->(v==Value.bool b)=c->EP X pins σ Q (.bool (v==Value.bool b)) s:=fun c e1 e2=>by
   rw[e2];subst e1;exact⟨.bl c,H,I,rfl,k _ H Hf (Grow.refl ss) rfl⟩
  cases x with
  | none=>cases r1;cases rx;cases h;exact wpAny_is_plain rfl (fin _ rfl rfl)
  | bool c=>cases r1;cases rx;cases h;exact wpAny_is_plain rfl (fin _ rfl (by cases c<;>cases b<;>rfl))
  | int i=>cases r1;obtain⟨t,rfl⟩:=rx;cases h;exact wpAny_is_plain rfl (fin _ rfl rfl)
  | str i=>cases r1;obtain⟨t,rfl⟩:=rx;cases h;exact wpAny_is_plain rfl (fin _ rfl rfl)
  | tuple ds=>obtain⟨a,vs,rfl,_⟩:=r1;cases rx;cases h;exact wpAny_is_plain rfl (fin _ rfl rfl)
  | list ds=>obtain⟨a,vs,rfl,_⟩:=r1;cases rx;cases h;exact wpAny_is_plain rfl (fin _ rfl rfl)
  | dict ds=>cases h
 | _=>cases h
theorem aB5:OpD X (compareOp .IsNot) aV2:=fun x y z h=>by
 cases y with
 | none=>exact bx2 x .none z h
 | bool b =>
  intro pins s σ H vx vy v u Q I rx ry ⟨Hf,ss,r1,r2,k⟩
  cases r2
  cases ry
  have fin:∀c,z=.bool c->(!(v==Value.bool b))=c->EP X pins σ Q (.bool (!(v==Value.bool b))) s:=fun c e1 e2=>by
   rw[e2];subst e1;exact⟨.bl c,H,I,rfl,k _ H Hf (Grow.refl ss) rfl⟩
  cases x with
  | none=>cases r1;cases rx;cases h;exact wpAny_isNot_plain rfl (fin _ rfl rfl)
  | bool c=>cases r1;cases rx;cases h;exact wpAny_isNot_plain rfl (fin _ rfl (by cases c<;>cases b<;>rfl))
  | int i=>cases r1;obtain⟨t,rfl⟩:=rx;cases h;exact wpAny_isNot_plain rfl (fin _ rfl rfl)
  | str i=>cases r1;obtain⟨t,rfl⟩:=rx;cases h;exact wpAny_isNot_plain rfl (fin _ rfl rfl)
  | tuple ds=>obtain⟨a,vs,rfl,_⟩:=r1;cases rx;cases h;exact wpAny_isNot_plain rfl (fin _ rfl rfl)
  | list ds=>obtain⟨a,vs,rfl,_⟩:=r1;cases rx;cases h;exact wpAny_isNot_plain rfl (fin _ rfl rfl)
  | dict ds=>cases h
 | _=>cases h
noncomputable def aF7(K:PySem.W.Frag) (d:D) (u:Value):Prop:=∃v,E4 v u/\∀H:Hp,Rep K H d v
theorem bY7(r:aF7 X.K d u) (hg:Gl X x) (hm:X.mg x=some u) (hd:(x==("__debug__" : Str))=false:=by decide):JE X (.Name x pos) (dC d):=fun ρ d' q=>by
 cases q
 obtain⟨v,rv,rp⟩:=r
 exact B4 (bw0 hg hm rv hd) fun σ H Q ⟨H0,Hf,s,sl,k⟩=>k _ H Hf (Grow.refl s) (rp Hf)
noncomputable def qN(f:Rho->Option (List D)):Rho->Option (Bool×List D):=fun ρ=>(f ρ).map fun ds=>(false,ds)
theorem bW5(h:JN X e f):JQ X e (qN f):=bk5 h
noncomputable def M3(f:Rho->Option (Bool×List D)):DE:=fun ρ=>(f ρ).bind fun q=>if q.1=true then none else some (.tuple q.2)
theorem bA7(hg:Gl X "tuple") (hm:X.mg "tuple" = none) (h:JQ X e f) (he:starEach [e] X.env=[(false,eval e X.env)]:=by rfl):JE X (.Call (.Name "tuple" p) [e] [] pos) (M3 f):=bl6 hg hm h (he:=he)
end
end G
namespace G
open PySem PySem.Spec PyProof.Rows L2
theorem aZ8(l b:Addr) (items items2:Array Value) (n n2:Nat) (dd dd2:Option Addr) (sl sl2:Array (Option Value)) (hz:items.size+items2.size<=sizeLine) :
  Meets (Builtin.«list.__add__» ⟨[.ref l,.ref b],[]⟩) (fun _ R s=>s.heap.get? l=some ⟨.type "list", dd,.seq items n,sl⟩/\s.heap.get? b=some ⟨.type "list", dd2,.seq items2 n2,sl2⟩/\R (.ok (.ret (Value.ref s.heap.objs.size))) { s with heap:=s.heap.push { cls:=Value.type "list", data:=Data.seq (items++items2) } }) :=
 .of_wp fun prog w A R s h=>by
  obtain⟨hp,g,d,tk,os⟩:=s
  obtain⟨hl,hb,h⟩:=h
  have hsub:isSubtype (.type "list") (.type "list")=pure true:=by rw[isSubtype_type];kernel_rfl
  have hsz:=hz
  wp_walk
  exact⟨_,rfl,h⟩
section
variable {X:Cx}
theorem aP2:OpR X (binaryOp .Add) (fun x y H Q=>∃a b xs ys,x=.ref a/\y=.ref b/\SqL X.K H a xs/\SqL X.K H b ys/\xs.length+ys.length<=sizeLine/\∀p,H p=none->Q (.ref p) (upd H p (.lst (xs++ys)))):=by
 intro pins s σ H x y v u Q I rx ry h
 obtain⟨a,b,xs,ys,rfl,rfl,ha,hb,hz,q⟩:=h
 cases rx
 cases ry
 obtain⟨its,r1,p1,_⟩:=I.list ha
 obtain⟨its2,r2,p2,_⟩:=I.list hb
 obtain⟨⟨cls,dd,data,sl⟩,ho,hc,n,hd⟩:=p1.isList
 obtain⟨⟨cls2,dd2,data2,sl2⟩,ho2,hc2,n2,hd2⟩:=p2.isList
 simp only at hc hd hc2 hd2
 subst hc hd hc2 hd2
 have l1:=r1.length
 have l2:=r2.length
 refine concat_meets ⟨_,ho,rfl⟩ ⟨_,ho2,rfl⟩ noFill_list_add seq_list_add PySem.F.slot_list_add PySem.F.entry_list_add (PySem.F.args_list_add_2 _ _) (aZ8 a b its.toArray its2.toArray n n2 dd dd2 sl sl2 (by simp only[List.size_toArray];grind)) ⟨ho,ho2,?_⟩
 have ea:its.toArray++its2.toArray=(its++its2).toArray:=by simp
 rw[ea]
 exact⟨.ref _,_,I.lnew (t':=s.toks) (r1.append r2) (by rw[List.length_append];grind),rfl,q _ I.fresh⟩
noncomputable def A9(x y:D):Option D:=match x,y with
 | .list xs,.list ys=>if xs.length+ys.length<=16777216 then some (.list (xs++ys)) else none
 | x,y=>Y4 x y
theorem aP4:OpD X (binaryOp .Add) A9:=fun x y z h=>by
 unfold A9 at h
 split at h
 ·split at h
  ·rename_i c
   cases h
   refine OpR.imp aP2 fun vx vy H Q ⟨Hf,s,r1,r2,k⟩=>?_
   obtain⟨a,vs,rfl,h2,h3⟩:=r1
   obtain⟨b,us,rfl,h5,h6⟩:=r2
   refine⟨a,b,vs,us,rfl,rfl,E1 s h2,E1 s h5,by rw[h3.length,h6.length,sizeLine_eq];exact c,fun p hp=>?_⟩
   exact k _ _ _ (Grow.laid s hp) ⟨p,vs++us,rfl,SqL.of B5,(h3.append h6).mono (D9 (s.free hp))⟩
  ·cases h
 ·exact bh7 _ _ z h
end
end G
namespace G
open PySem PySem.Spec PyProof.Rows L2
section
variable {prog:Program}{w:World}{A:Around}{E:Value->Shared->Prop}{s:Shared}
end
section
variable {X:Cx}{e st:Expr}{te ts:TE}{p2 pos:Pos}
end
end G
namespace G
open PySem PySem.Spec PyProof.Rows L2
section
variable {X:Cx}
noncomputable def atS(x:Str) (i:Int):Option D:=if x.length<=16777216 then(atI x.cps.toList i).map fun c=>.str ⟨#[c]⟩ else none
noncomputable def X8(f g:DE):DE:=fun ρ=>(f ρ).bind fun x=>(g ρ).bind fun i=>match x,i with
 | .str x,.int i=>atS x i
 | _,_=>none
theorem bY3(ha:JE X a f) (hb:JE X b g) (hs:j4 b:=by intro _ _;rfl):JE X (.Subscript a b pos) (X8 f g):=fun ρ d q=>by
 obtain⟨x,h1,q⟩:=xbm q
 obtain⟨y,h2,h3⟩:=xbm q
 split at h3
 ·rename_i x i
  unfold atS at h3
  split at h3
  ·rename_i hz
   obtain⟨c,e1,e2⟩:=Option.map_eq_some_iff.mp h3
   subst e2
   refine B4 (aO9 aw9 (ha ρ _ h1) (hb ρ _ h2) hs) fun σ H Q ⟨H0,Hf,s,sl,k⟩=>?_
   refine⟨H0,Hf,s,sl,fun v H1 Hf1 g1 r1=>⟨H0,Hf1,g1.sub,sl.grow g1,fun u H2 Hf2 g2 r2=>?_⟩⟩
   exact .inr (.inr ⟨x,i,c,r1,r2,by rw[sizeLine_eq];exact hz,e1,k _ H2 Hf2 (g1.trans g2) rfl⟩)
  ·cases h3
 ·cases h3
noncomputable def bp5(f:DE) (lo hi:Rho->Option (Option Int)):DE:=fun ρ=>(f ρ).bind fun d=>(lo ρ).bind fun l=>(hi ρ).bind fun h=>match d with
 | .tuple xs=>some (.tuple (ab7 xs l h))
 | .list xs=>some (.list (ab7 xs l h))
 | _=>none
theorem bX8{a:Expr}{lo hi:Option Expr}{f:DE}{l h:Rho->Option (Option Int)}{pos p2:Pos}(ha:JE X a f) (hl:JO X lo l) (hh:JO X hi h):JE X (.Subscript a (.Slice lo hi none p2) pos) (bp5 f l h):=fun ρ d q=>by
 obtain⟨x,e1,q⟩:=xbm q
 obtain⟨y,e2,q⟩:=xbm q
 obtain⟨z,e3,q⟩:=xbm q
 cases x with
 | tuple xs =>
  cases q
  refine bl8 ha hl hh ρ _ ?_
  unfold aE6
  rw[e1,Option.bind_some,e2,Option.bind_some,e3,Option.bind_some]
 | list xs =>
  cases q
  refine B4 (aa8 aN6 (ha ρ _ e1) (hl ρ y e2) (hh ρ z e3)) fun σ H Q ⟨H0,Hf,s,sl,k⟩=>?_
  refine⟨H0,Hf,s,sl,fun v H1 Hf1 g1 ⟨p,vs,q1,q2,q3⟩=>⟨H0,Hf1,g1.sub,sl.grow g1,fun H2 Hf2 g2=>⟨H0,Hf2,g2.sub,sl.grow (g1.trans g2),fun H3 Hf3 g3=>?_⟩⟩⟩
  subst q1
  have q2':=E1 (g2.trans g3).ext q2
  have q3':=q3.mono (g2.trans g3).ext
  refine⟨p,vs,rfl,E1 g3.sub q2',fun p' hp=>?_⟩
  exact k _ _ _ (((g1.trans g2).trans g3).trans (Grow.laid g3.sub hp)) ⟨p',_,rfl,SqL.of B5,(ak6 q3' y z).mono (D9 (g3.sub.free hp))⟩
 | _=>cases q
end
end G
namespace G
open PySem PySem.Spec PyProof.Rows L2
section
variable {X:Cx}
theorem y9:∀{ys:List Str}{us:List Value},C8 (ys.map V.str) us->∃l:List (Str×Tok),us=strValues l/\l.map (·.1)=ys
 | [],[],_=>⟨[],rfl,rfl⟩
 | y::ys,u::us,h=>by
  cases h with
  | cons a b =>
   obtain⟨t,rfl⟩:=a
   obtain⟨l,rfl,rfl⟩:=y9 b
   exact⟨(y,t)::l,rfl,rfl⟩
noncomputable def T9(sep:Str) (ys:List Str):Nat:=ys.toArray.foldl (fun n y=>n+y.length+sep.length) 0
noncomputable def cg1(K:PySem.W.Frag):V->List V->Hp->VK->Prop:=fun x vs H Q=>∃sep p ys,x=.str sep/\vs=[.ref p]/\SqL K H p (ys.map V.str)/\T9 sep ys<=sizeLine/\(Builtin.Str.glued sep ys).length<=sizeLine/\Q (.str (Builtin.Str.glued sep ys)) H
theorem by5:MtR X "str.join" (cg1 X.K):=by
 intro pins s σ H x vs v us Q I rx rv h
 obtain⟨sep,p,ys,rfl,rfl,hq,hz,hg,q⟩:=h
 obtain⟨t,rfl⟩:=rx
 obtain⟨u,rfl,ru⟩:=rv.one
 cases ru
 obtain⟨its,r,pl,_⟩:=I.list hq
 obtain⟨l,rfl,rfl⟩:=y9 r
 refine call_meets F.slot_str_join (typeIs_str s sep t) F.entry_str_join (F.args_str_join_2 _ _) (meets_str_join_list sep t p l ?_) ⟨pl.isList,?_⟩
 ·show decide (T9 sep (l.map (·.1)) > sizeLine)=false
  exact decide_eq_false (by grind)
 ·match l,q,hg with
  | [],q,hg=>exact⟨hg,.str _,H,I.tok _,⟨_,rfl⟩,q⟩
  | [a],q,_=>exact⟨.str _,H,I,⟨_,rfl⟩,q⟩
  | a::b::r,q,hg=>exact⟨hg,.str _,H,I.tok _,⟨_,rfl⟩,q⟩
noncomputable def n6:List D->Option (List Str)
 | []=>some []
 | .str x::r=>(n6 r).map fun ys=>x::ys
 | _::_=>none
theorem ad3{K:PySem.W.Frag}{H:Hp}:∀{ds:List D}{ys:List Str}{vs:List V},n6 ds=some ys->Reps K H ds vs->vs=ys.map V.str
 | [],ys,vs,h,r=>by cases h;exact r
 | .str x::ds,ys,vs,h,r=>by
  obtain⟨zs,e1,e2⟩:=Option.map_eq_some_iff.mp h
  subst e2
  obtain⟨v,r',e,h1,h2⟩:=r
  subst e
  rw[ad3 e1 h2]
  cases h1
  rfl
noncomputable def M4(f:DE) (g:Rho->Option (Bool×List D)):DE:=fun ρ=>(f ρ).bind fun s=>(g ρ).bind fun q=>match s with
 | .str sep=>if q.1=true then none else(n6 q.2).bind fun ys=>if T9 sep ys<=16777216/\(Builtin.Str.glued sep ys).length<=16777216 then some (.str (Builtin.Str.glued sep ys)) else none
 | _=>none
theorem bA9(ho:JE X o f) (h:JQ X e g)
  (hbase:attributeBase o "join" X.env (eval o X.env)=eval o X.env:=by rfl)
  (hfew:((backTo cpos (starEach [e] X.env)).all (fun x=>!x.1)&&(backToKw cpos (keywordEach [] X.env)).all (fun x=>x.1.isSome)
   && decide (([e]:List Expr).length+([]:List Keyword).length+(if([]:List Keyword).isEmpty then 0 else 1) < 30))=true:=by rfl)
  (hline:(apos.endLine==cpos.line)=true:=by rfl) (hs:starEach [e] X.env=[(false,eval e X.env)]:=by rfl) :
  JE X (.Call (.Attribute o "join" apos) [e] [] cpos) (M4 f g):=fun ρ d q=>by
 obtain⟨s,e1,q⟩:=xbm q
 obtain⟨⟨t,ds⟩,e2,q⟩:=xbm q
 cases s with
 | str sep =>
  cases t with
  | true=>simp at q
  | false =>
   simp only[Bool.false_eq_true,if_false]at q
   obtain⟨ys,e3,q⟩:=xbm q
   split at q
   ·rename_i hz
    cases q
    refine B4 (aq8 F.plainAttrs_str F.slot_str_join F.type_str_join by5 (ho ρ _ e1) (D4 (h ρ false ds e2) E9 hs) hbase hfew hline hs) fun σ H Q ⟨H0,Hf,s,sl,k⟩=>?_
    refine⟨H0,Hf,s,sl,fun v H1 Hf1 g1 r1=>?_⟩
    cases r1
    refine⟨rfl,H0,Hf1,g1.sub,sl.grow g1,fun w H2 Hf2 g2 ⟨p,vs,z1,z2,z3⟩=>?_⟩
    subst z1
    rw[ad3 e3 z3]at z2
    exact⟨sep,p,ys,rfl,rfl,z2,by rw[sizeLine_eq];exact hz.1,by rw[sizeLine_eq];exact hz.2,k _ H2 Hf2 (g1.trans g2) rfl⟩
   ·cases q
 | _=>cases q
end
end G
namespace G
open PySem PySem.Spec PyProof.Rows L2
section
open PySem.SeqAt PySem.MeetsSeq PySem.MeetsSeq2 PySem.MeetsSeq3 PySem.SeqRoads2
open PySem.AutoSeq1 (wpAny_loadPart')
theorem ak0(l:Addr) (items:Array Value) (n:Nat) (dd:Option Addr) (sl:Array (Option Value)) (x:Value) (e:Nat->Bool) :
  Meets (Builtin.«tuple.__contains__» ⟨[.ref l,x],[]⟩)
   (fun A R s=>s.heap.get? l=some { cls:=.type "tuple", dict:=dd,data:=.seq items n,slots:=sl }/\(∀j (h:j < items.size),EqAt A.in1 s items[j] x (e j))/\R (.ok (.ret (.bool ((List.range items.size).any e)))) s) :=
 .of_wp fun prog w A R s h=>by
  obtain⟨hp,g,d,tk,os⟩:=s;obtain⟨hl,he,h⟩:=h
  wp_walk using wpAny_loadPart' hl,wpAny_forIn_array _ (fun N5 b s'=>b.1=none/\s'=⟨hp,g,d,tk,os⟩/\∃i,N5=items.toList.drop i/\R (.ok (.ret (.bool (((List.range items.size).drop i).any e)))) ⟨hp,g,d,tk,os⟩) _
  case turn =>
   rintro y N5 b s' ⟨hb,rfl,i,hz,hR⟩
   have hlt:i < items.toList.length:=by
    rcases Nat.lt_or_ge i items.toList.length with h'|h'
    ·exact h'
    ·rw[List.drop_of_length_le h']at hz;cases hz
   have hi:i < items.size:=by simpa using hlt
   rw[List.drop_eq_getElem_cons hlt]at hz
   injection hz with hy hrest
   have hy:y=items[i]:=by simpa using hy
   subst hy
   have hd:(List.range items.size).drop i=i::(List.range items.size).drop (i+1):=by simp[List.drop_eq_getElem_cons,hi]
   rw[hd,List.any_cons]at hR
   refine wpAny_bind (he i hi prog w _ _ ?_)
   cases hy:e i with
   | true =>
    rw[hy]at hR
    wp_walk
    exact⟨_,rfl,by simpa using hR⟩
   | false =>
    rw[hy]at hR
    wp_walk
    exact⟨rfl,rfl,i+1,hrest,by simpa using hR⟩
  case fin =>
   rintro⟨b1,b2⟩ s' ⟨hb,rfl,i,hz,hR⟩
   simp only at hb
   subst hb
   have hge:items.size<=i:=by
    rcases Nat.lt_or_ge i items.toList.length with h'|h'
    ·rw[List.drop_eq_getElem_cons h']at hz;cases hz
    ·simpa using h'
   rw[List.drop_of_length_le (by simpa using hge)]at hR
   wp_walk
   exact⟨_,rfl,by simpa using hR⟩
  case h =>
   exact⟨rfl,rfl,0,by simp,by simpa using h⟩
end
section
variable {X:Cx}
noncomputable def S6:D->Bool
 | .none=>true
 | .bool _=>true
 | .int _=>true
 | .str _=>true
 | _=>false
noncomputable def toV:D->V
 | .none=>.non
 | .bool b=>.bl b
 | .int i=>.int i
 | .str x=>.str x
 | _=>.non
theorem V4{K:PySem.W.Frag}{H:Hp}{d:D}{v:V}(f:S6 d=true) (r:Rep K H d v):v=toV d/\o5 v=true:=by
 cases d with
 | none=>cases r;exact⟨rfl,rfl⟩
 | bool b=>cases r;exact⟨rfl,rfl⟩
 | int i=>cases r;exact⟨rfl,rfl⟩
 | str x=>cases r;exact⟨rfl,rfl⟩
 | tuple _=>cases f
 | list _=>cases f
 | dict _=>cases f
theorem ad4{K:PySem.W.Frag}{H:Hp}:∀{ds:List D}{vs:List V},ds.all S6=true->Reps K H ds vs->vs=ds.map toV/\vs.all o5=true
 | [],vs,_,r=>by cases(show vs=[] from r);exact⟨rfl,rfl⟩
 | d::ds,vs,f,r=>by
  rw[List.all_cons,Bool.and_eq_true]at f
  obtain⟨v,r',e,h1,h2⟩:=r
  subst e
  obtain⟨e1,e2⟩:=V4 f.1 h1
  obtain⟨e3,e4⟩:=ad4 f.2 h2
  subst e1 e3
  exact⟨rfl,by rw[List.all_cons,e2,e4];rfl⟩
noncomputable def isS:D->Bool
 | .str _=>true
 | _=>false
noncomputable def inD(neg:Bool) (x y:D):Option D:=match y with
 | .list ds=>if S6 x=true/\ds.all S6=true then some (.bool (if neg then !inV (toV x) (ds.map toV) else inV (toV x) (ds.map toV))) else none
 | .tuple ds=>if S6 x=true/\ds.all S6=true then some (.bool (if neg then !inV (toV x) (ds.map toV) else inV (toV x) (ds.map toV))) else if S6 x=false/\SeqAt.shaped x=true/\ds.all isS=true then some (.bool neg) else if SeqAt.shaped x=true/\x.depth<=60/\ds.all SeqAt.shaped=true then some (.bool (if neg then !(ds.any fun y=>PyData.eqv y x) else ds.any fun y=>PyData.eqv y x)) else none
 | _=>none
theorem bC3(f:S6 x=false) (sh:SeqAt.shaped x=true) (r:Reads s.heap v x as) (hu:A.units < cLine) (a:Str) (t:Tok):SeqAt.EqAt A s (.str a t) v false:=by
 cases r with
 | none=>cases f
 | bool _=>cases f
 | int _ _=>cases f
 | str _ _=>cases f
 | list h1 h2 h3 _=>exact SeqAt.EqAt.str_list a t ⟨_,h1,h2,_,h3⟩ hu
 | tuple h1 h2 h3 _=>exact SeqAt.EqAt.str_tuple a t ⟨_,h1,h2,_,h3⟩ hu
 | dict _ _ _ _ _=>exact absurd (SeqAt.canLay_of_shaped sh) (by simp[PyData.canLay0])
theorem aD3{K:PySem.W.Frag}{H:Hp}:∀{ds:List D}{vs:List V}{us:List Value},ds.all isS=true->Reps K H ds vs->C8 vs us->∀y∈us,∃a t,y=Value.str a t
 | [],_,_,_,r,w=>by cases(show _=[] from r);cases w;intro y hy;cases hy
 | d::ds,_,_,f,r,w=>by
  rw[List.all_cons,Bool.and_eq_true]at f
  obtain⟨v,r',rfl,h1,h2⟩:=r
  cases w with
  | cons w1 w2 =>
   intro y hy
   rcases List.mem_cons.mp hy with rfl|hy
   ·cases d with
    | str a =>
     cases(show v=.str a from h1)
     obtain⟨t,e⟩:=w1
     exact⟨a,t,e⟩
    | _=>cases f.1
   ·exact aD3 f.2 h2 w2 y hy
theorem bm7{x:D}{ds:List D}{vx vy:V}{v u:Value}{pins:List (Addr×Obj)}{s:Shared}{σ:L2.St}{H Hf:Hp}{Q:Value->Shared->Prop}(hu:X.A.units+64 < cLine) (f:S6 x=false) (sh:SeqAt.shaped x=true) (a:ds.all isS=true) (I:L2.Inv X pins σ H s) (rx:E4 vx v) (ry:E4 vy u) (ss:B8 Hf H) (r1:Rep X.K Hf x vx) (r2:Rep X.K Hf (.tuple ds) vy) :
  (Q (.bool false) s->wpAny (model X.prog X.w) X.A (compareOp .In v u) Q X.xe s)/\(Q (.bool true) s->wpAny (model X.prog X.w) X.A (compareOp .NotIn v u) Q X.xe s):=by
 obtain⟨p,vs,rfl,h2,h3⟩:=r2
 obtain rfl:u=Value.ref p:=ry
 obtain⟨its,rv,pl,_⟩:=I.tuple (C9 ss h2)
 obtain⟨as,rd⟩:=Rep.reads I (r1.mono ss) rx
 have st:=aD3 a h3 rv
 have he:∀y,y∈its.toArray->SeqAt.EqAt X.A.in1 s y v ((fun _=>false) y):=fun y hy=>by
  obtain⟨b,t,rfl⟩:=st y (by simpa using hy)
  exact bC3 f sh rd (by show X.A.units+1 < _;grind) b t
 have no:its.toArray.any (fun _=>false)=false:=by simp
 refine⟨fun q=>SeqAt.in_tupleAt (fun _=>false) pl he (by rw[no];exact q),fun q=>SeqAt.notIn_tupleAt (fun _=>false) pl he (by rw[no];exact q)⟩
theorem cg0:∀{vs:List Value}{ds:List D}{as:List Addr},ReadsAll h vs ds as->vs.length=ds.length/\∀(j:Nat) (hj:j < vs.length),∃bs,Reads h vs[j] (ds.getD j .none) bs
 | [],_,_,r=>by cases r;exact⟨rfl,fun j hj=>absurd hj (Nat.not_lt_zero _)⟩
 | v::vs,_,_,r=>by
  cases r with
  | cons r1 r2 =>
   obtain⟨h1,h2⟩:=cg0 r2
   refine⟨by rw[List.length_cons,List.length_cons,h1],fun j hj=>?_⟩
   cases j with
   | zero=>exact⟨_,r1⟩
   | succ j=>exact h2 j (by simpa using hj)
theorem aZ7{α:Type}(p:α->Bool) (z:α) (l:List α):(List.range l.length).any (fun j=>p (l.getD j z))=l.any p:=by
 rw[Bool.eq_iff_iff,List.any_eq_true,List.any_eq_true]
 constructor
 ·rintro⟨j,hj,h⟩
  have hj:=List.mem_range.mp hj
  exact⟨l[j],List.getElem_mem hj,by simpa [hj] using h⟩
 ·rintro⟨x,hx,h⟩
  obtain⟨j,hj,rfl⟩:=List.getElem_of_mem hx
  exact⟨j,List.mem_range.mpr hj,by simpa [hj] using h⟩
theorem bt0(hu:X.A.units+64 < cLine) (sx:SeqAt.shaped x=true) (dx:x.depth<=60) (sd:ds.all SeqAt.shaped=true) (I:L2.Inv X pins σ H s) (rx:E4 vx v) (ss:B8 Hf H) (r1:Rep X.K Hf x vx) (h2:SqT X.K Hf p vs) (h3:Reps X.K Hf ds vs) :
  ∃its:List Value,IsTup s.heap p its.toArray/\its.length=ds.length/\∀j (h:j < its.toArray.size),SeqAt.EqAt X.A.in1 s its.toArray[j] v (PyData.eqv (ds.getD j .none) x):=by
 obtain⟨its,rv,pl,_⟩:=I.tuple (C9 ss h2)
 obtain⟨as,rd⟩:=Rep.reads I (r1.mono ss) rx
 obtain⟨bs,ra⟩:=Reps.reads I (h3.mono ss) rv
 obtain⟨e1,e2⟩:=cg0 ra
 refine⟨its,pl,e1,fun j hj=>?_⟩
 have hj':j < its.length:=by simpa using hj
 obtain⟨cs,q⟩:=e2 j hj'
 have hd:j < ds.length:=by grind
 have sj:=List.all_eq_true.mp sd _ (List.getElem_mem hd)
 have ej:ds.getD j .none=ds[j]:=by simp[hd]
 rw[ej]at q ⊢
 have:=SeqAt.eqAt_reads ds[j] x X.A.in1 s _ _ _ _ q rd (SeqAt.canLay_of_shaped sj) (SeqAt.canLay_of_shaped sx) (by show X.A.units+1+_ < _;have:=Nat.min_le_right ds[j].depth x.depth;grind)
 simpa using this
theorem bm6(hu:X.A.units+64 < cLine) (sx:SeqAt.shaped x=true) (dx:x.depth<=60) (sd:ds.all SeqAt.shaped=true) (I:L2.Inv X pins σ H s) (rx:E4 vx v) (ry:E4 vy u) (ss:B8 Hf H) (r1:Rep X.K Hf x vx) (r2:Rep X.K Hf (.tuple ds) vy) :
  (Q (.bool (ds.any fun y=>PyData.eqv y x)) s->wpAny (model X.prog X.w) X.A (compareOp .In v u) Q X.xe s)/\(Q (.bool (!(ds.any fun y=>PyData.eqv y x))) s->wpAny (model X.prog X.w) X.A (compareOp .NotIn v u) Q X.xe s):=by
 obtain⟨p,vs,rfl,h2,h3⟩:=r2
 obtain rfl:u=Value.ref p:=ry
 obtain⟨its,pl,ln,he⟩:=bt0 hu sx dx sd I rx ss r1 h2 h3
 obtain⟨⟨cls,dd,data,sl⟩,ho,hc,n,hd⟩:=id pl
 simp only at hc hd
 subst hc hd
 have ea:(List.range its.toArray.size).any (fun j=>PyData.eqv (ds.getD j .none) x)=ds.any fun y=>PyData.eqv y x:=by
  rw[List.size_toArray,ln]
  exact aZ7 (fun y=>PyData.eqv y x) .none ds
 refine⟨fun q=>SeqRoads2.in_meets ⟨_,ho,rfl⟩ F.slot_tuple_contains F.entry_tuple_contains (F.args_tuple_contains_2 _ _) (ak0 p its.toArray n dd sl v _) ⟨ho,he,_,rfl,by rw[ea];exact q⟩,
  fun q=>SeqRoads2.notIn_meets ⟨_,ho,rfl⟩ F.slot_tuple_contains F.entry_tuple_contains (F.args_tuple_contains_2 _ _) (ak0 p its.toArray n dd sl v _) ⟨ho,he,_,rfl,by rw[ea];exact q⟩⟩
theorem bm8{op:CmpOp}{neg:Bool}(o:OpR X (compareOp op) (rIn X.K neg)) (o2:∀x ds,S6 x=false->SeqAt.shaped x=true->ds.all isS=true->OpR X (compareOp op) (fun vx vy H Q=>∃Hf,B8 Hf H/\Rep X.K Hf x vx/\Rep X.K Hf (.tuple ds) vy/\∀v H' Hf',Grow H Hf H' Hf'->Rep X.K Hf' (.bool neg) v->Q v H'))
  (o3:∀x ds,SeqAt.shaped x=true->x.depth<=60->ds.all SeqAt.shaped=true->OpR X (compareOp op) (fun vx vy H Q=>∃Hf,B8 Hf H/\Rep X.K Hf x vx/\Rep X.K Hf (.tuple ds) vy/\∀v H' Hf',Grow H Hf H' Hf'->Rep X.K Hf' (.bool (if neg then !(ds.any fun y=>PyData.eqv y x) else ds.any fun y=>PyData.eqv y x)) v->Q v H')):OpD X (compareOp op) (inD neg):=fun x y z h=>by
 unfold inD at h
 split at h
 ·split at h
  ·rename_i c
   cases h
   refine OpR.imp o fun vx vy H Q ⟨Hf,s,r1,r2,k⟩=>?_
   obtain⟨p,vs,rfl,h2,h3⟩:=r2
   obtain⟨e1,e2⟩:=V4 c.1 r1
   obtain⟨e3,e4⟩:=ad4 c.2 h3
   subst e1 e3
   exact⟨p,_,rfl,.inl (E1 s h2),e2,e4,k _ H Hf (Grow.refl s) rfl⟩
  ·cases h
 ·split at h
  ·rename_i c
   cases h
   refine OpR.imp o fun vx vy H Q ⟨Hf,s,r1,r2,k⟩=>?_
   obtain⟨p,vs,rfl,h2,h3⟩:=r2
   obtain⟨e1,e2⟩:=V4 c.1 r1
   obtain⟨e3,e4⟩:=ad4 c.2 h3
   subst e1 e3
   exact⟨p,_,rfl,.inr (C9 s h2),e2,e4,k _ H Hf (Grow.refl s) rfl⟩
  ·split at h
   ·rename_i c
    cases h
    exact o2 _ _ c.1 c.2.1 c.2.2
   ·split at h
    ·rename_i c
     cases h
     exact o3 _ _ c.1 c.2.1 c.2.2
    ·cases h
 ·cases h
theorem ch9(hu:X.A.units+64 < cLine):OpD X (compareOp .In) (inD false):=bm8 aU7 (fun x ds f sh a pins s σ H vx vy v u Q I rx ry ⟨Hf,ss,r1,r2,k⟩=>(bm7 hu f sh a I rx ry ss r1 r2).1 ⟨.bl false,H,I,rfl,k _ H Hf (Grow.refl ss) rfl⟩)
 fun x ds sx dx sd pins s σ H vx vy v u Q I rx ry ⟨Hf,ss,r1,r2,k⟩=>(bm6 hu sx dx sd I rx ry ss r1 r2).1 ⟨.bl _,H,I,rfl,k _ H Hf (Grow.refl ss) rfl⟩
theorem bh6(hu:X.A.units+64 < cLine):OpD X (compareOp .NotIn) (inD true):=bm8 aw1 (fun x ds f sh a pins s σ H vx vy v u Q I rx ry ⟨Hf,ss,r1,r2,k⟩=>(bm7 hu f sh a I rx ry ss r1 r2).2 ⟨.bl true,H,I,rfl,k _ H Hf (Grow.refl ss) rfl⟩)
 fun x ds sx dx sd pins s σ H vx vy v u Q I rx ry ⟨Hf,ss,r1,r2,k⟩=>(bm6 hu sx dx sd I rx ry ss r1 r2).2 ⟨.bl _,H,I,rfl,k _ H Hf (Grow.refl ss) rfl⟩
end
end G
namespace G
open PySem PySem.Spec PyProof.Rows L2
section
variable {X:Cx}
theorem bm3(Fk:FnOk X.prog X.w X.K X.mg X.base CX0 k f fd ps (spF X.K 0 F)) (hr:Room k X.A) (hg:Gl X x) (hm:X.mg x=some (.ref f)) (hk:PySem.W.keepIn X.K (.ref f)=true) (hb:F9 X.K fd ps [])
  (hdb:(x==("__debug__" : Str))=false:=by decide):JE X (.Call (.Name x p) [] [] pos) (A2 F A5):=fun ρ d q=>by
 have h2:F []=some d:=q
 refine B4 (bg7 Fk hr hg hm hk hb .nil al0 hdb) fun σ H Q ⟨H0,Hf,s,sl,kk⟩=>?_
 exact⟨rfl,Hf,[],d,s,rfl,h2,fun v H2 Hf2 g2 r2=>kk v H2 Hf2 g2 r2⟩
end
end G
namespace G
open PySem PySem.Spec PyProof.Rows L2
noncomputable def as8(K:PySem.W.Frag):List D->List Value->Prop
 | [],us=>us=[]
 | d::ds,us=>∃u r,us=u::r/\aF7 K d u/\as8 K ds r
section
variable {K:PySem.W.Frag}
theorem ar2:as8 K [] []:=rfl
theorem J2(h:aF7 K d u) (t:as8 K ds us):as8 K (d::ds) (u::us):=⟨u,us,rfl,h,t⟩
theorem ar3:∀{ds:List D}{us:List Value},as8 K ds us->∃vs,C8 vs us/\∀H:Hp,Reps K H ds vs
 | [],_,h=>by cases h;exact⟨[],.nil,fun _=>rfl⟩
 | d::ds,_,⟨u,r,e,⟨v,h1,h2⟩,h3⟩=>by
  subst e
  obtain⟨vs,q1,q2⟩:=ar3 h3
  exact⟨v::vs,.cons h1 q1,fun H=>⟨v,vs,rfl,h2 H,q2 H⟩⟩
theorem ab0(i:Int) (t:Tok):aF7 K (.int i) (.int i t):=⟨.int i,⟨t,rfl⟩,fun _=>rfl⟩
theorem aC5(h:K.lookup a=some o) (hc:o.cls=.type "tuple") (hn:o.dict=none) (hd:o.data=.seq its n) (hz:its.size<=1000) (hi:as8 K ds its.toList):aF7 K (.tuple ds) (.ref a):=by
 obtain⟨vs,q1,q2⟩:=ar3 hi
 exact⟨.ref a,rfl,fun H=>⟨a,vs,rfl,.inr ⟨o,its,n,h,hc,hn,hd,Nat.le_of_lt (V2 hz),q1⟩,q2 H⟩⟩
end
end G
namespace G
open PySem PySem.Spec PyProof.Rows L2
theorem aB8(l:Addr) (items:Array Value) (n:Nat) (dd:Option Addr) (sl:Array (Option Value)) (u:Tok) :
  Meets (Builtin.«tuple.__mul__» ⟨[.ref l,.int 1 u],[]⟩) (fun _ R s=>s.heap.get? l=some ⟨.type "tuple", dd,.seq items n,sl⟩/\R (.ok (.ret (Value.ref l))) s) :=
 .of_wp fun prog w A R s h=>by
  obtain⟨hp,g,d,tk,os⟩:=s
  obtain⟨hl,h⟩:=h
  wp_walk
  exact⟨_,rfl,h⟩
section
variable {X:Cx}
theorem bg8:OpR X (binaryOp .Mult) (fun x y H Q=>∃l xs,x=.ref l/\y=.int 1/\SqT X.K H l xs/\Q (.ref l) H):=by
 intro pins s σ H x y v u Q I rx ry h
 obtain⟨l,xs,rfl,rfl,hq,q⟩:=h
 cases rx
 obtain⟨t,rfl⟩:=ry
 obtain⟨its,r,p1,_⟩:=I.tuple hq
 obtain⟨⟨cls,dd,data,sl⟩,ho,hc,n,hd⟩:=id p1
 simp only at hc hd
 subst hc hd
 exact wpAny_binaryOp_repeat_ref (T := "tuple") (U := "int") (by decide) ⟨_,ho,rfl⟩ (fun s'=>typeIs_int s' 1 t) af9 F.fills_int_mul F.slot_int_rmul aq7 F.slot_int_index.lookup
  (call_meets F.slot_int_rmul (typeIs_int s 1 t) F.entry_int_rmul (F.args_int_rmul_2 _ _) (aa4 1 t l its.toArray n dd sl) ⟨ho,rfl,⟨_,ho,rfl⟩,
   call_meets F.slot_tuple_mul ⟨_,ho,rfl⟩ F.entry_tuple_mul (F.args_tuple_mul_2 _ _) (aB8 l its.toArray n dd sl t) ⟨ho,⟨.ref l,H,I,rfl,q⟩⟩⟩)
theorem av2(a:Int) (t:Tok) (l:Addr) (items:Array Value) (n:Nat) (dd:Option Addr) (sl:Array (Option Value)) :
  Meets (Builtin.«int.__rmul__» ⟨[.int a t,.ref l],[]⟩) (fun _ R s=>s.heap.get? l=some ⟨.type "list", dd,.seq items n,sl⟩/\R (.ok (.ret Value.notImplemented)) s):=Meets.of_wp fun prog w A R s h=>by
 obtain⟨hp,g,d,tk,os⟩:=s
 obtain⟨hl,h⟩:=h
 wp_walk
 exact⟨_,rfl,h⟩
theorem aC0(l:Addr) (items:Array Value) (n:Nat) (dd:Option Addr) (sl:Array (Option Value)) (x:Int) (u:Tok) (c0:¬(!Builtin.List.listFitsIndex x)=true) (c1:¬items.size*x.toNat > (2 ^ 63 - 1) / 8) (c2:¬Builtin.List.listTooLong (items.size*x.toNat)=true) :
  Meets (Builtin.«list.__mul__» ⟨[.ref l,.int x u],[]⟩) (fun _ R s=>s.heap.get? l=some ⟨.type "list", dd,.seq items n,sl⟩/\R (.ok (.ret (Value.ref s.heap.objs.size))) { s with heap:=s.heap.push { cls:=Value.type "list", data:=Data.seq (List.foldl (fun x1 x2=>x1++x2) #[] (List.replicate (if items.isEmpty=true then 0 else x.toNat) items)) } }):=Meets.of_wp fun prog w A R s h=>by
 obtain⟨hp,g,d,tk,os⟩:=s
 obtain⟨hl,h⟩:=h
 have hsz:=AutoListH.joined_fits c2
 wp_walk
 refine wpAny_ite_false (decide_eq_false (Nat.not_lt.mpr hsz)) ?_
 wp_walk
 exact⟨_,rfl,h⟩
theorem bw5:OpR X (binaryOp .Mult) (fun x y H Q=>∃l k xs,x=.ref l/\y=.int k/\SqL X.K H l xs/\0<=k/\k < 1000000/\xs.length*k.toNat<=sizeLine/\∀p,H p=none->Q (.ref p) (upd H p (.lst (List.replicate k.toNat xs).flatten))):=by
 intro pins s σ H x y v u Q I rx ry h
 obtain⟨l,k,xs,rfl,rfl,hq,h1,h2,hz,q⟩:=h
 cases rx
 obtain⟨t,rfl⟩:=ry
 obtain⟨its,r,p1,_⟩:=I.list hq
 obtain⟨⟨cls,dd,data,sl⟩,ho,hc,n,hd⟩:=p1.isList
 simp only at hc hd
 subst hc hd
 have hl:=r.length
 have hlen:its.toArray.size*k.toNat<=sizeLine:=by rw[List.size_toArray,← hl];exact hz
 have hcap:¬its.toArray.size*k.toNat > (2 ^ 63 - 1) / 8:=by
  have:(sizeLine:Nat)<=(2 ^ 63 - 1) / 8:=by decide
  grind
 have hfit:¬(!Builtin.List.listFitsIndex k)=true:=by
  rw[fitsIndex_both (by grind) (by grind)];exact Bool.false_ne_true
 have hlong:¬Builtin.List.listTooLong (its.toArray.size*k.toNat)=true:=by
  rw[Z0 hlen];exact Bool.false_ne_true
 have hnew:List.foldl (fun x1 x2=>x1++x2) #[] (List.replicate (if its.toArray.isEmpty=true then 0 else k.toNat) its.toArray)=(List.replicate k.toNat its).flatten.toArray:=by
  rw[aH6]
  cases its with
  | nil=>simp
  | cons a r'=>rw[if_neg (by simp)]
 refine wpAny_binaryOp_repeat_ref (T := "list") (U := "int") (by decide) ⟨_,ho,rfl⟩ (fun s'=>typeIs_int s' k t) noFill_list_mul F.fills_int_mul F.slot_int_rmul repeat_list F.slot_int_index.lookup
  (call_meets F.slot_int_rmul (typeIs_int s k t) F.entry_int_rmul (F.args_int_rmul_2 _ _) (av2 k t l its.toArray n dd sl) ⟨ho,rfl,⟨_,ho,rfl⟩,
   call_meets F.slot_list_mul ⟨_,ho,rfl⟩ F.entry_list_mul (F.args_list_mul_2 _ _) (aC0 l its.toArray n dd sl k t hfit hcap hlong) ⟨ho,?_⟩⟩)
 rw[hnew]
 exact⟨.ref _,_,I.lnew (t':=s.toks) (r.rep k.toNat) (by rw[aw6,Nat.mul_comm];exact hz),rfl,q _ I.fresh⟩
noncomputable def E2(x y:D):Option D:=match x,y with
 | .tuple xs,.int k=>if k=1 then some (.tuple xs) else X3 (.tuple xs) (.int k)
 | .list xs,.int k=>if 0<=k/\k < 1000000/\xs.length*k.toNat<=16777216 then some (.list (List.replicate k.toNat xs).flatten) else none
 | x,y=>X3 x y
theorem aP3:OpD X (binaryOp .Mult) E2:=fun x y z h=>by
 unfold E2 at h
 split at h
 ·split at h
  ·rename_i xs k c
   subst c
   cases h
   refine OpR.imp bg8 fun vx vy H Q ⟨Hf,s,r1,r2,kk⟩=>?_
   obtain⟨a,vs,rfl,h2,h3⟩:=r1
   exact⟨a,vs,rfl,r2,C9 s h2,kk _ _ _ (Grow.refl s) ⟨a,vs,rfl,h2,h3⟩⟩
  ·exact aw3 _ _ z h
 ·split at h
  ·rename_i xs k c
   cases h
   refine OpR.imp bw5 fun vx vy H Q ⟨Hf,s,r1,r2,kk⟩=>?_
   obtain⟨a,vs,rfl,h2,h3⟩:=r1
   refine⟨a,k,vs,rfl,r2,E1 s h2,c.1,c.2.1,by rw[h3.length,sizeLine_eq];exact c.2.2,fun p hp=>?_⟩
   exact kk _ _ _ (Grow.laid s hp) ⟨p,_,rfl,SqL.of B5,(h3.flatten k.toNat).mono (D9 (s.free hp))⟩
  ·cases h
 ·exact aw3 _ _ z h
theorem w9(i j:Int):A9 (.int i) (.int j)=some (.int (i+j)):=rfl
noncomputable def aZ2(f:Rho->Option (Bool×List D)) (lo hi:Rho->Option (Option Int)):DE:=fun ρ=>(f ρ).bind fun q=>(lo ρ).bind fun l=>(hi ρ).bind fun h=>if q.1=true then none else some (.list (ab7 q.2 l h))
theorem bX7{a:Expr}{lo hi:Option Expr}{f:Rho->Option (Bool×List D)}{l h:Rho->Option (Option Int)}{pos p2:Pos}(ha:JQ X a f) (hl:JO X lo l) (hh:JO X hi h):JE X (.Subscript a (.Slice lo hi none p2) pos) (aZ2 f l h):=fun ρ d q=>by
 obtain⟨⟨t,xs⟩,e1,q⟩:=xbm q
 obtain⟨y,e2,q⟩:=xbm q
 obtain⟨z,e3,q⟩:=xbm q
 cases t with
 | true=>simp at q
 | false =>
  simp only[Bool.false_eq_true,if_false]at q
  cases q
  refine B4 (aa8 aN6 (ha ρ _ _ e1) (hl ρ y e2) (hh ρ z e3)) fun σ H Q ⟨H0,Hf,s,sl,k⟩=>?_
  refine⟨H0,Hf,s,sl,fun v H1 Hf1 g1 ⟨p,vs,q1,q2,q3⟩=>⟨H0,Hf1,g1.sub,sl.grow g1,fun H2 Hf2 g2=>⟨H0,Hf2,g2.sub,sl.grow (g1.trans g2),fun H3 Hf3 g3=>?_⟩⟩⟩
  subst q1
  have q3':=q3.mono (g2.trans g3).ext
  refine⟨p,vs,rfl,E1 (g2.trans g3).big q2,fun p' hp=>?_⟩
  exact k _ _ _ (((g1.trans g2).trans g3).trans (Grow.laid g3.sub hp)) ⟨p',_,rfl,SqL.of B5,(ak6 q3' y z).mono (D9 (g3.sub.free hp))⟩
noncomputable def D5:DS:=fun _=>none
theorem C1{st:Stmt}:JS X st D5:=fun ρ fl q=>by cases q
noncomputable def aG9(f:DE):Rho->Option Bool:=fun ρ=>(f ρ).bind U9
theorem bk0(o1:OpD X (compareOp op) h1) (o2:OpD X (compareOp op') h2) (ha:JE X a f) (hb:JE X b g) (hc:JE X c k)
  (hm:lastMarks [op,op'] [b,c]=false:=by with_unfolding_all rfl):JT X (.Compare a [op,op'] [b,c] pos) (aG9 (S8 h1 h2 f g k)):=fun ρ d q=>by
 obtain⟨dd,q,ed⟩:=xbm q
 have ed:=aS9 ed
 subst ed
 obtain⟨x,e1,q⟩:=xbm q
 obtain⟨y,e2,q⟩:=xbm q
 obtain⟨z,e3,q⟩:=xbm q
 split at q
 ·obtain⟨w,e4,e5⟩:=xbm q
  refine Y8 (aA9 (o1 x y _ e3) (o2 y w _ e5) (ha ρ x e1) (hb ρ y e2) (hc ρ w e4) hm) fun σ H Q ⟨H0,Hf,s,sl,kk⟩=>?_
  refine⟨H0,Hf,s,sl,fun v H1 Hf1 g1 r1=>⟨H0,Hf1,g1.sub,sl.grow g1,fun u H2 Hf2 g2 r2=>⟨Hf2,g2.sub,r1.mono g2.ext,r2,fun z' H3 Hf3 g3 r3=>?_⟩⟩⟩
  refine⟨true,r3,u6 ⟨H0,Hf3,g3.sub,sl.grow ((g1.trans g2).trans g3),fun w' H4 Hf4 g4 r4=>⟨Hf4,g4.sub,r2.mono (g3.trans g4).ext,r4,fun z2 H5 Hf5 g5 r5=>?_⟩⟩⟩
  exact⟨d,r5,kk H5 Hf5 ((((g1.trans g2).trans g3).trans g4).trans g5)⟩
 ·cases q
  intro pins s σ H Q I ⟨H0,Hf,ss,sl,kk⟩
  refine aA9 (tc:=fun _ _ _=>False) (r':=fun _ _ _ _=>False) (o1 x y _ e3) (fun _ _ _ _ _ _ _ _ _ _ _ _ h=>h.elim) (ha ρ x e1) (hb ρ y e2) (fun _ _ _ _ _ _ h=>h.elim) hm pins s σ H Q I ?_
  refine⟨H0,Hf,ss,sl,fun v H1 Hf1 g1 r1=>⟨H0,Hf1,g1.sub,sl.grow g1,fun u H2 Hf2 g2 r2=>⟨Hf2,g2.sub,r1.mono g2.ext,r2,fun z' H3 Hf3 g3 r3=>?_⟩⟩⟩
  exact⟨false,r3,ab3 ⟨false,rfl,kk H3 Hf3 ((g1.trans g2).trans g3)⟩⟩
 ·cases q
end
end G
namespace G
open PySem PySem.Spec PyProof.Rows L2
section
variable {prog:Program}{w:World}{A:Around}{E:Value->Shared->Prop}{s:Shared}{t:Bool}
end
section
variable {X:Cx}
end
end G
namespace G
open PySem PySem.Spec PyProof.Rows L2
section
variable {prog:Program}{w:World}{A:Around}{E:Value->Shared->Prop}{s:Shared}
theorem ak5{l b sl:Addr}{items new:Array Value}{n n2:Nat}{vl vu:Value}{lo hi:Option Int}{Q:Unit->Shared->Prop}
    (e:s.heap.get? l=some { cls:=.type "list", data:=.seq items n }) (e2:s.heap.get? b=some { cls:=.type "list", data:=.seq new n2 }) (hne:l≠b)
    (hs:s.heap.IsSliceOf sl vl vu .none) (pl:IsPart vl lo) (pu:IsPart vu hi) (hsz:items.size+new.size<=sizeLine)
    (h:Q () { s with heap:=s.heap.update l (Obj.mapSeq fun xs=>xs.extract 0 (HT.sIx items.size 0 lo)++new++xs.extract (max (HT.sIx items.size 0 lo) (HT.sIx items.size items.size hi)) xs.size) }) :
    wpAny (model prog w) A (setItem (.ref l) (.ref sl) (.ref b)) Q E s:=by
  have hl:s.heap.IsList l items:=PySem.IsL.isList e
  have hb:s.heap.IsList b new:=PySem.IsL.isList e2
  obtain⟨os,hos,hcs,hds⟩:=id hs
  have hTs:s.TypeIs (.ref sl) "slice" := ⟨os,hos,hcs⟩
  have hstep:¬((rawPart none==rawInt 0)=true):=Bool.false_ne_true
  have hsame:Builtin.List.listSameRef (.ref l) (.ref b)=false:=by
    unfold Builtin.List.listSameRef
    exact beq_eq_false_iff_ne.mpr hne
  have hbd:sliceBounds lo hi none items.size=(((HT.sIx items.size 0 lo:Nat):Int),((HT.sIx items.size items.size hi:Nat):Int),1):=by
    obtain⟨h1,h2,h3⟩:=aa3 lo hi items.size
    exact Prod.ext h1 (Prod.ext h2 h3)
  have hmax:(max ((HT.sIx items.size 0 lo:Nat):Int) ((HT.sIx items.size items.size hi:Nat):Int)).toNat=max (HT.sIx items.size 0 lo) (HT.sIx items.size items.size hi):=by grind
  have hz':((fun xs:Array Value=>xs.extract 0 (HT.sIx items.size 0 lo)++new++xs.extract (max (HT.sIx items.size 0 lo) (HT.sIx items.size items.size hi)) xs.size) items).size<=sizeLine+1:=by
    simp only[Array.size_append,Array.size_extract]
    grind
  unfold setItem
  try with_reducible refine wpAny_holding ?_
  first|refine wpAny_bind (wpAny_pure ?_)|skip
  refine wpAny_bind (wpAny_sequenceKey hl.typeIs (by decide) ?_)
  refine wpAny_bind (wpAny_callSpecial?_slot (name:=Str.ofString "__setitem__") hl.typeIs slot_list_setitem (wpAny_call_entry slot_list_setitem hl.typeIs entry_list_setitem ?_ (args_list_setitem _ _ _)))
  show wpAny _ _ (Builtin.List.listSubscript? (.ref sl) >>= _) _ _ s
  refine wpAny_bind ?_
  unfold Builtin.List.listSubscript?
  refine wpAny_bind (wpAny_specialOf hTs slice_no_index ?_)
  simp only[Option.isNone_none,if_true]
  refine wpAny_pure ?_
  show wpAny _ _ (typeOf (.ref sl) >>= _) _ _ s
  refine wpAny_bind (wpAny_typeOf hTs ?_)
  first
    | rw[if_neg (by decide)]
    | refine PySem.W.KFB.if_not (by decide) ?_
  rw[listSliceParts_eq]
  refine wpAny_bind (wpAny_bind (wpAny_field hos hds (x:=.none) rfl (wpAny_bind (wpAny_listPart .none ?_))))
  rw[if_neg hstep]
  refine wpAny_bind (wpAny_field hos hds (x:=vl) rfl (wpAny_bind (wpAny_listPart pl ?_)))
  refine wpAny_bind (wpAny_field hos hds (x:=vu) rfl (wpAny_bind (wpAny_listPart pu (wpAny_pure ?_))))
  first
    | simp only[hsame,Bool.false_eq_true,if_false]
    | refine PySem.W.KFB.if_not hsame ?_
    | (dsimp only
       rw[if_neg (by rw[hsame];exact Bool.false_ne_true)])
  refine wpAny_bind (m:=Builtin.List.listAllItems (.ref b) "must assign iterable to extended slice") ?_
  unfold Builtin.List.listAllItems
  refine wpAny_bind (wpAny_typeOf hb.typeIs ?_)
  first
    | refine PySem.W.KFB.if_so (by decide) ?_
    | rw[if_pos (by decide)]
    | simp only[beq_self_eq_true,Bool.true_or,if_true]
  unfold Builtin.List.listItems
  refine wpAny_bind (wpAny_seqItems e2 rfl (wpAny_pure ?_))
  refine wpAny_bind (wpAny_bind (wpAny_seqItems e rfl (wpAny_pure ?_)))
  refine wpAny_bind (wpAny_of_eq ((sliceIndices_raw lo hi none items.size (by simp)).trans (congrArg (pure:Int×Int×Int->Sem (Int×Int×Int)) hbd)) ?_)
  show wpAny _ _ (if((1:Int)==1)=true then _ else _) _ _ s
  rw[if_pos (by decide)]
  refine wpAny_bind (wpAny_rule ?_)
  first
    | simp only[Z0 hsz,Bool.false_eq_true,if_false]
    | refine PySem.W.KFB.if_not (Z0 hsz) ?_
  first|refine wpAny_bind (wpAny_pure ?_)|skip
  show wpAny _ _ (updateSeq l (fun xs=>xs.extract 0 (((HT.sIx items.size 0 lo:Nat):Int)).toNat++new++xs.extract (max ((HT.sIx items.size 0 lo:Nat):Int) ((HT.sIx items.size items.size hi:Nat):Int)).toNat xs.size) >>= _) _ _ s
  rw[hmax,Int.toNat_natCast]
  refine wpAny_bind (wpAny_updateSeq (hz:=Nat.le_trans (Nat.le_add_right _ _) hsz) (_hz':=hz') e rfl ?_)
  refine wpAny_bind (wpAny_letGo ?_)
  first
    | exact wpAny_bind (wpAny_pure (wpAny_pure ⟨.none,rfl,wpAny_pure h⟩))
    | exact wpAny_pure ⟨.none,rfl,wpAny_pure h⟩
end
section
variable {X:Cx}
noncomputable def ak3{α:Type}(xs:List α) (lo hi:Option Int) (ys:List α):List α:=xs.take (HT.sIx xs.length 0 lo)++ys++xs.drop (max (HT.sIx xs.length 0 lo) (HT.sIx xs.length xs.length hi))
theorem aH4{pins:List (Addr×Obj)}{s:Shared}{σ:L2.St}{H:Hp}{l b sl:Addr}{xs ys:List V}{lo hi:Option Int}{vl vu:Value}{Q:Unit->Shared->Prop}(I:Inv X pins σ H s)
  (hH:H l=some (.lst xs)) (hB:H b=some (.lst ys)) (hne:l≠b) (hs:s.heap.IsSliceOf sl vl vu .none) (pl:IsPart vl lo) (pu:IsPart vu hi)
  (hz:xs.length+ys.length<=sizeLine) (h:∀s',Inv X pins σ (upd H l (.lst (ak3 xs lo hi ys))) s'->Q () s') :
  wpAny (model X.prog X.w) X.A (setItem (.ref l) (.ref sl) (.ref b)) Q X.xe s:=by
 obtain⟨z,its,n,r,hl,e⟩:=I.lstM hH
 obtain⟨z2,its2,n2,r2,hl2,e2⟩:=I.lstM hB
 refine ak5 e e2 hne hs pl pu (by rw[List.size_toArray,List.size_toArray];grind) (h _ ?_)
 have hz0:its.toArray.size=xs.length:=by rw[List.size_toArray];exact hl.symm
 refine I.lset (its':=its.take (HT.sIx xs.length 0 lo)++its2++its.drop (max (HT.sIx xs.length 0 lo) (HT.sIx xs.length xs.length hi))) (t':=s.toks) hH e ?_ (C8.append (C8.append (r.take _) r2) (r.drop _)) ?_
 ·have e0:=aU2 its its2 (HT.sIx xs.length 0 lo) (max (HT.sIx xs.length 0 lo) (HT.sIx xs.length xs.length hi))
  rw[hz0]at e0 ⊢
  exact e0
 ·unfold ak3
  rw[List.length_append,List.length_append,List.length_take,List.length_drop]
  grind
theorem be7{K:PySem.W.Frag}{H:Hp}{ds es:List D}{vs us:List V}(h:Reps K H ds vs) (g:Reps K H es us) (lo hi:Option Int):Reps K H (ak3 ds lo hi es) (ak3 vs lo hi us):=by
 unfold ak3
 rw[h.length]
 exact((h.take _).append g).append (h.drop _)
theorem Slots.reOwn{K:PySem.W.Frag}{H0 H Hf:Hp}{ρ:Rho}{σ:L2.St}{i:Nat}{ds ds':List D}{b:Addr}{vs':List V}(sl:Slots K H0 ρ σ H Hf) (eo:ρ[i]? = some (some (.own ds))) (h1:σ[i]? = some (some (.ref b))) (hf:Hf b=none) (h0:H0 b=none) (r:Reps K Hf ds' vs') :
  Slots K H0 (ρ.set i (some (.own ds'))) σ (upd H b (.lst vs')) Hf:=by
 refine⟨by simpa using sl.len,fun j bb z=>?_,fun j k ds1 es c q1 q2 q3 q4=>?_⟩
 ·by_cases qj:i=j
  ·subst qj
   have hi:i < ρ.length:=(List.getElem?_eq_some_iff.mp eo).1
   rw[List.getElem?_set_self hi]at z
   cases z
   exact⟨_,h1,b,vs',rfl,B5,hf,h0,r⟩
  ·rw[List.getElem?_set_ne qj]at z
   obtain⟨u,z1,z2⟩:=sl.is j bb z
   refine⟨u,z1,?_⟩
   cases bb with
   | val d=>exact z2
   | exc C=>exact z2
   | opq _=>exact z2
   | own dd =>
    obtain⟨a',us',y1,y2,y3,y4,y5⟩:=z2
    have ne:a'≠b:=fun zz=>by
     subst zz y1
     exact qj (sl.apart i j ds dd a' eo z h1 z1)
    exact⟨a',us',y1,by rw[C2 ne];exact y2,y3,y4,y5⟩
 ·have f:∀(j:Nat) (es:List D),(ρ.set i (some (B.own ds')))[j]? = some (some (B.own es))->∃dd:List D,ρ[j]? = some (some (B.own dd)):=fun j es q=>by
   by_cases qj:i=j
   ·subst qj;exact⟨ds,eo⟩
   ·rw[List.getElem?_set_ne qj]at q;exact⟨_,q⟩
  obtain⟨d1,q1'⟩:=f j _ q1
  obtain⟨d2,q2'⟩:=f k _ q2
  exact sl.apart j k d1 d2 c q1' q2' q3 q4
noncomputable def be0(i:Nat) (lo hi:Rho->Option (Option Int)) (f:Rho->Option (List D)):DS:=fun ρ=>(f ρ).bind fun es=>(lo ρ).bind fun l=>(hi ρ).bind fun h=>match ρ[i]? with
 | some (some (.own ds))=>if ds.length+es.length<=16777216 then some (.nx (ρ.set i (some (.own (ak3 ds l h es))))) else none
 | _=>none
theorem bV5(i:Nat) {x:Str}{e:Expr}{lo hi:Option Expr}{f:Rho->Option (List D)}{l h:Rho->Option (Option Int)}{p p2 pos' pos:Pos}(he:JN X e f) (hl:JO X lo l) (hh:JO X hi h) (hN:X.N[i]? = some x:=by rfl)
  (hv:Vis X.env.scope x:=by first|exact Or.inl rfl|exact Or.inr (Or.inl rfl)|exact Or.inr (Or.inr rfl)) (hd:(x==("__debug__" : Str))=false:=by decide) (hcd:(x==("__classdict__" : Str))=false:=by decide)
  (hsw:swapsWith e (some (.Subscript (.Name x p) (.Slice lo hi none p2) pos')) pos.line X.env=pure false:=by rfl):JS X (.Assign [.Subscript (.Name x p) (.Slice lo hi none p2) pos'] e pos) (be0 i l h f):=fun ρ fl q H0 Hf0=>by
 obtain⟨es,e1,q⟩:=xbm q
 obtain⟨y,e2,q⟩:=xbm q
 obtain⟨z,e3,q⟩:=xbm q
 split at q
 ·rename_i ds eo
  split at q
  ·rename_i hz
   cases q
   intro pins s σ H En I ⟨Hf,a,ee⟩
   refine wpAny_Assign_Subscript (thn (he ρ es e1 pins s σ H (fun v H'=>∃Hf',Grow H Hf H' Hf'/\∃b us,v=.ref b/\H b=none/\H' b=some (.lst us)/\Hf' b=none/\Reps X.K Hf' es us) I ⟨H0,Hf,a.gr.sub,a.sl,fun v H' Hf' g r=>⟨Hf',g,r⟩⟩) fun v s1 ⟨x1,H1,I1,r1,Hf1,g1,b,us,ev,b1,b2,b3,b4⟩=>?_) hsw
   subst ev
   cases r1
   obtain⟨vl0,h1,c,vs,ev,h2,h3,h4,h5⟩:=a.sl.is i _ eo
   subst ev
   refine thn (O0 hN hv hd hcd pins s1 σ H1 (fun v H'=>v=.ref c/\H'=H1) I1 ⟨_,h1,rfl,rfl⟩) fun ov s2 ⟨x2,H2,I2,r2,ex,eH⟩=>?_
   subst ex eH
   cases r2
   have sl1:=a.sl.grow g1
   refine wpAny_Slice (thn (hl ρ y e2 pins s2 σ H2 (fun o H'=>o=y/\∃Hf',Grow H2 Hf1 H' Hf') I2 ⟨H0,Hf1,g1.sub,sl1,fun H' Hf' g=>⟨rfl,Hf',g⟩⟩) fun wl s3 ⟨o3,H3,I3,pl,eo3,Hf3,g3⟩=>?_)
   subst eo3
   have sl3:=sl1.grow g3
   refine thn (hh ρ z e3 pins s3 σ H3 (fun o H'=>o=z/\∃Hf',Grow H3 Hf3 H' Hf') I3 ⟨H0,Hf3,g3.sub,sl3,fun H' Hf' g=>⟨rfl,Hf',g⟩⟩) fun wu s4 ⟨o4,H4,I4,pu,eo4,Hf4,g4⟩=>?_
   subst eo4
   have sl4:=sl3.grow g4
   have gg:Grow H Hf H4 Hf4:=(g1.trans g3).trans g4
   rw[evalPart_none]
   refine wpAny_pure ?_
   have I5:Inv X pins σ H4 { s4 with heap:=s4.heap.push { cls:=.type "slice", data:=.fields #[wl,wu,.none] } }:=I4.kept (t':=s4.toks) fun b ob q=>Heap.get?_push_of_some _ q
   have hc:H4 c=some (.lst vs):=gg.big _ _ h2
   have hb:H4 b=some (.lst us):=(g3.trans g4).big _ _ b2
   have hcb:c≠b:=fun zz=>by subst zz;rw[h2]at b1;cases b1
   have hfc:Hf4 c=none:=gg.nofr h2 h3
   have rd:Reps X.K Hf4 (ak3 ds o3 o4 es) (ak3 vs o3 o4 us):=be7 (h5.mono gg.ext) (b4.mono (g3.trans g4).ext) _ _
   refine aH4 I5 hc hb hcb (Heap.IsSliceOf.new ..) pl pu (by rw[h5.length,b4.length,sizeLine_eq];exact hz) fun s' I'=>?_
   have ga:=a.gr.trans gg
   refine⟨σ,_,I',ee σ _ Hf4 ⟨⟨fun d u zz=>?_,fun d u zz=>?_,ga.ext,ga.new⟩,sl4.reOwn eo h1 hfc h4 rd⟩ gg.ext⟩
   ·rw[C2 (C7 zz h4)];exact ga.big d u zz
   ·rw[C2 (C7 zz hfc)];exact ga.sub d u zz
  ·cases q
 ·cases q
theorem bz8(i:Nat) (hN:X.N.Nodup) (S:CompSc X N' n caps scope) (hx:∀e s,X.xe e s->False)
  (hi:JI X tgt iter src) (hg:∀C s0 H0 ex,JG (D0 X N' scope C s0 H0 ex) tgt g) (ht:∀C s0 H0 ex,JTs (D0 X N' scope C s0 H0 ex) ifs c) (he:∀C s0 H0 ex,JE (D0 X N' scope C s0 H0 ex) elt e)
  (hi2:X.N[i]? = some x:=by rfl) (hl:X.env.scope.names.lookup x=some .local:=by rfl) (hsw:swapsWith (.ListComp elt [⟨tgt,iter,ifs,0⟩] scope pos) (some (.Name x pos')) spos.line X.env=pure true:=by rfl)
  (hc:X.calm=true:=by rfl) (hs:∀x,foldedSetIterable iter X.env x=pure x:=by intro _;rfl):JS X (.Assign [.Name x pos'] (.ListComp elt [⟨tgt,iter,ifs,0⟩] scope pos) spos) (L5 i (C5 n caps src g c e)):=fun ρ fl q H0 Hf0=>by
 obtain⟨out,e1,e2⟩:=Option.map_eq_some_iff.mp q
 subst e2
 obtain⟨ds,e3,k⟩:=v8 (K:=X.K) e1
 refine D8 (t5 S hx hc hN hi2 hl (hi ρ ds e3) (g:=tgJ X.K g) (tc:=ak1 X.K c) (te:=aM9 X.K e) hg ht (fun C s0 H0 ex pins s σ H Q I ⟨ρ,d,e,t⟩=>he C s0 H0 ex ρ d e pins s σ H Q I t) hsw hs) fun En σ H ⟨Hf,a,ee⟩=>k σ H _ ⟨H0,Hf,a.gr.sub,a.sl,fun v H' Hf' gg ⟨p,vs,z1,z2,z3,z4,z5⟩=>?_⟩
 subst z1
 exact ee _ H' Hf' ⟨a.gr.trans gg,a.sl.setOwn gg (a.gr.big.free z2) z2 z3 z4 z5⟩ gg.ext
noncomputable def bF9:DS:=fun ρ=>some (.ct ρ)
theorem bz9:JS X (.Continue pos) bF9:=fun ρ fl q H0 Hf0=>by
 cases q
 exact D8 aB1 fun En σ H ⟨Hf,a,e⟩=>e σ H Hf a (B8.refl _)
end
end G
namespace G
open PySem PySem.Spec PyProof.Rows L2
section
variable {X:Cx}
noncomputable def ah4(x:Str) (k:Int):Str:=if(k==1 || x.length==0)=true then x else⟨(List.replicate k.toNat x.cps).foldl (·++·) #[]⟩
noncomputable def aV6(x y:D):Option D:=match x,y with
 | .str x,.int k=>if 1<=k/\k<=2/\x.length<=1000/\(ah4 x k).length<=16777216 then some (.str (ah4 x k)) else none
 | _,_=>none
theorem bx3:OpD X (binaryOp .Mult) aV6:=fun x y z h=>by
 unfold aV6 at h
 split at h
 ·split at h
  ·rename_i x k c
   cases h
   intro pins s σ H vx vy v u Q I rx ry ⟨Hf,ss,r1,r2,kk⟩
   cases r1
   cases r2
   obtain⟨t,rfl⟩:=rx
   obtain⟨t2,rfl⟩:=ry
   have w:=kk (.str (ah4 x k)) H Hf (Grow.refl ss) rfl
   have k12:k=1\/k=2:=by grind
   refine P.mul_str (by rw[decide_eq_false (by grind),decide_eq_false (by grind)];rfl) (fun _ _=>by rcases k12 with rfl|rfl<;>grind) (fun _ _=>?_) ?_
   ·unfold Builtin.Str.tooLong
    rw[sizeLine_eq]
    refine decide_eq_false ?_
    rcases k12 with rfl|rfl<;>simp<;>grind
   ·rw[if_neg (by grind)]
    unfold ah4 at w c
    split
    ·rename_i e
     rw[if_pos e]at w
     exact⟨.str x,H,I,⟨_,rfl⟩,w⟩
    ·rename_i e
     rw[if_neg e]at w c
     exact⟨by rw[sizeLine_eq];exact c.2.2.2,.str _,H,I.tok _,⟨_,rfl⟩,w⟩
  ·cases h
 ·cases h
noncomputable def slS(x:Str) (lo hi:Option Int):Str:=if((1:Int)==1&&(Builtin.Str.strSliceIndices lo hi 1 x.length).length==x.length)=true then x else⟨((Builtin.Str.strSliceIndices lo hi 1 x.length).filterMap (x.cps[·]?)).toArray⟩
noncomputable def aK5(f:DE) (lo hi:Rho->Option (Option Int)):DE:=fun ρ=>(f ρ).bind fun d=>(lo ρ).bind fun l=>(hi ρ).bind fun h=>match d with
 | .str x=>if x.length<=1000/\(slS x l h).length<=16777216 then some (.str (slS x l h)) else none
 | _=>none
theorem aP1(h:IsPart u o):∃p:Option (Int×Tok),u=partValue p/\p.map (·.1)=o:=by
 cases h with
 | none=>exact⟨none,rfl,rfl⟩
 | int i t=>exact⟨some (i,t),rfl,rfl⟩
theorem bt9:SlR X (fun x lo hi H Q=>∃z,x=.str z/\(slS z lo hi).length<=16777216/\Q (.str (slS z lo hi)) H):=by
 intro pins s σ H x v vl vu lo hi sl Q I rx hs pl pu h
 obtain⟨z,rfl,hz,q⟩:=h
 obtain⟨t,rfl⟩:=rx
 obtain⟨pl',rfl,rfl⟩:=aP1 pl
 obtain⟨pu',rfl,rfl⟩:=aP1 pu
 refine⟨"str", _,F.slot_str_getitem.lookup,typeIs_str s z t,wpAny_getItem_str_slice (l:=pl') (u:=pu') (st:=none) hs rfl ?_⟩
 show(if((1:Int)==1&&(Builtin.Str.strSliceIndices (pl'.map (·.1)) (pu'.map (·.1)) 1 z.length).length==z.length)=true then Made.val (.str z t) else Made.str ⟨((Builtin.Str.strSliceIndices (pl'.map (·.1)) (pu'.map (·.1)) 1 z.length).filterMap (z.cps[·]?)).toArray⟩).post _ _
 unfold slS at q hz
 by_cases e:((1:Int)==1&&(Builtin.Str.strSliceIndices (pl'.map (·.1)) (pu'.map (·.1)) 1 z.length).length==z.length)=true
 ·rw[if_pos e]at q ⊢
  exact⟨.str z,H,I,⟨_,rfl⟩,q⟩
 ·rw[if_neg e]at q hz ⊢
  exact⟨by rw[sizeLine_eq];exact hz,.str _,H,I.tok _,⟨_,rfl⟩,q⟩
theorem bX6{a:Expr}{lo hi:Option Expr}{f:DE}{l h:Rho->Option (Option Int)}{pos p2:Pos}(ha:JE X a f) (hl:JO X lo l) (hh:JO X hi h):JE X (.Subscript a (.Slice lo hi none p2) pos) (aK5 f l h):=fun ρ d q=>by
 obtain⟨x,e1,q⟩:=xbm q
 obtain⟨y,e2,q⟩:=xbm q
 obtain⟨z,e3,q⟩:=xbm q
 cases x with
 | str x =>
  simp only at q
  split at q
  ·rename_i c
   cases q
   refine B4 (aa8 bt9 (ha ρ _ e1) (hl ρ y e2) (hh ρ z e3)) fun σ H Q ⟨H0,Hf,s,sl,k⟩=>?_
   refine⟨H0,Hf,s,sl,fun v H1 Hf1 g1 r1=>⟨H0,Hf1,g1.sub,sl.grow g1,fun H2 Hf2 g2=>⟨H0,Hf2,g2.sub,sl.grow (g1.trans g2),fun H3 Hf3 g3=>?_⟩⟩⟩
   exact⟨x,r1,c.2,k _ H3 Hf3 ((g1.trans g2).trans g3) rfl⟩
  ·cases q
 | _=>cases q
noncomputable def au8(i:Nat) (f:DE):DS:=fun ρ=>match ρ[i]? with
 | some (some (.own ds))=>(f ρ).bind fun d=>match d with
  | .list es=>if ds.length+es.length<=16777216 then some (.nx (ρ.set i (some (.own (ds++es))))) else none
  | .tuple es=>if ds.length+es.length<=16777216 then some (.nx (ρ.set i (some (.own (ds++es))))) else none
  | _=>none
 | _=>none
end
end G
namespace G
open PySem PySem.Spec PyProof.Rows L2
section
variable {X:Cx}
noncomputable def ad5(f g:Rho->Option (Bool×List D)):Rho->Option (List D):=fun ρ=>(f ρ).bind fun p=>(g ρ).bind fun q=>if p.1=false/\q.1=false/\p.2.length+q.2.length<=16777216 then some (p.2++q.2) else none
theorem bW8(ha:JQ X a f) (hb:JQ X b g):JN X (.BinOp a .Add b pos) (ad5 f g):=fun ρ out q=>by
 obtain⟨⟨t1,xs⟩,e1,q⟩:=xbm q
 obtain⟨⟨t2,ys⟩,e2,q⟩:=xbm q
 split at q
 ·rename_i c
  obtain⟨c1,c2,c3⟩:=c
  simp only at c1 c2 c3
  subst c1 c2
  cases q
  refine B4 (bg3 aP2 (ha ρ _ _ e1) (hb ρ _ _ e2)) fun σ H Q ⟨H0,Hf,s,sl,k⟩=>?_
  refine⟨H0,Hf,s,sl,fun v H1 Hf1 g1 ⟨p,vs,z1,z2,z3⟩=>⟨H0,Hf1,g1.sub,sl.grow g1,fun u H2 Hf2 g2 ⟨p',us,z1',z2',z3'⟩=>?_⟩⟩
  subst z1 z1'
  refine⟨p,p',vs,us,rfl,rfl,E1 g2.big z2,z2',by rw[z3.length,z3'.length,sizeLine_eq];exact c3,fun n hn=>?_⟩
  exact k _ _ _ ((g1.trans g2).trans (Grow.made g2.sub hn)) ⟨n,vs++us,rfl,(g1.trans g2).big.free hn,B5,g2.sub.free hn,(z3.mono g2.ext).append z3'⟩
 ·cases q
end
end G
namespace G
open PySem PySem.Spec PyProof.Rows L2
section
variable {X:Cx}
theorem bC5(l b:Addr) (xs ys:Array Value) (n m:Nat) (dd:Option Addr) (sl:Array (Option Value)) (h0:¬(!xs.isEmpty&&Builtin.List.listTooLong (xs.size+ys.size))=true) (h1:xs.size<=sizeLine) (h2:xs.size+ys.size<=sizeLine+1) :
  Meets (Builtin.«list.extend» ⟨[.ref l,.ref b],[]⟩) (fun _ R s=>s.heap.get? l=some { cls:=.type "list", data:=.seq xs n }/\s.heap.get? b=some ⟨.type "list", dd,.seq ys m,sl⟩ /\
   R (.ok (.ret Value.none)) { s with heap:=s.heap.update l (Obj.mapSeq fun x=>x++ys),toks:=s.toks }) :=
 .of_wp fun prog w A R s h=>by
  obtain⟨hp,g,d,tk,os⟩:=s
  obtain⟨hl,hb,h⟩:=h
  have f1:=AutoSeq1.idx_int
  have f2:=AutoSeq1.sub_tuple_tuple
  have f3:=AutoSeq1.sub_list_list
  have f4:=AutoSeq1.sub_tuple_list
  have f5:=AutoSeq1.sub_list_tuple
  have hz':(xs++ys).size<=sizeLine+1:=by rw[Array.size_append];exact h2
  wp_walk using (wpAny_updateSeq hl rfl (hz:=h1) (_hz':=hz')),AutoSeq1.wpAny_loadPart' hl,AutoSeq1.wpAny_loadPart' hb
  exact⟨_,rfl,h⟩
theorem bC4(l b:Addr) (xs ys:Array Value) (n m:Nat) (dd:Option Addr) (sl:Array (Option Value)) (h0:¬(!xs.isEmpty&&Builtin.List.listTooLong (xs.size+ys.size))=true) (h1:xs.size<=sizeLine) (h2:xs.size+ys.size<=sizeLine+1) :
  Meets (Builtin.«list.extend» ⟨[.ref l,.ref b],[]⟩) (fun _ R s=>s.heap.get? l=some { cls:=.type "list", data:=.seq xs n }/\s.heap.get? b=some ⟨.type "tuple", dd,.seq ys m,sl⟩ /\
   R (.ok (.ret Value.none)) { s with heap:=s.heap.update l (Obj.mapSeq fun x=>x++ys),toks:=s.toks }) :=
 .of_wp fun prog w A R s h=>by
  obtain⟨hp,g,d,tk,os⟩:=s
  obtain⟨hl,hb,h⟩:=h
  have f1:=AutoSeq1.idx_int
  have f2:=AutoSeq1.sub_tuple_tuple
  have f3:=AutoSeq1.sub_list_list
  have f4:=AutoSeq1.sub_tuple_list
  have f5:=AutoSeq1.sub_list_tuple
  have hz':(xs++ys).size<=sizeLine+1:=by rw[Array.size_append];exact h2
  wp_walk using (wpAny_updateSeq hl rfl (hz:=h1) (_hz':=hz')),AutoSeq1.wpAny_loadPart' hl,AutoSeq1.wpAny_loadPart' hb
  exact⟨_,rfl,h⟩
noncomputable def cp4(K:PySem.W.Frag):V->List V->Hp->VK->Prop:=fun x vs H Q=>∃l b xs zs,x=.ref l/\vs=[.ref b]/\H l=some (.lst xs)/\(SqL K H b zs\/SqT K H b zs)/\xs.length+zs.length<=sizeLine/\Q .non (upd H l (.lst (xs++zs)))
theorem bi4:MtM X "list.extend" (cp4 X.K):=by
 intro pins s σ H x vs v us Q I rx rv h
 obtain⟨l,b,xs,zs,rfl,rfl,hH,hB,hz,q⟩:=h
 cases rx
 obtain⟨u,rfl,ru⟩:=rv.one
 cases ru
 obtain⟨z,its,n,r,hl,e⟩:=I.lstM hH
 rcases hB with hB|hB
 ·obtain⟨its2,r2,pl,_⟩:=I.list hB
  obtain⟨⟨cls,dd,data,sl⟩,ho,hc,m,hd⟩:=pl.isList
  simp only at hc hd
  subst hc hd
  have hl2:=r2.length
  have hsz:its.toArray.size+its2.toArray.size<=sizeLine:=by rw[List.size_toArray,List.size_toArray];grind
  have hlong:¬(!its.toArray.isEmpty&&Builtin.List.listTooLong (its.toArray.size+its2.toArray.size))=true:=by
   rw[Z0 hsz,Bool.and_false];exact Bool.false_ne_true
  refine call_meets F.slot_list_extend ⟨_,e,rfl⟩ F.entry_list_extend (F.args_list_extend_2 _ _) (bC5 l b its.toArray its2.toArray n m dd sl hlong (by rw[List.size_toArray];grind) (by grind)) ⟨e,ho,?_⟩
  refine⟨.non,_,I.lset (its':=its++its2) hH e (by simp) (r.append r2) ?_,rfl,q⟩
  rw[List.length_append];grind
 ·obtain⟨its2,r2,pl,_⟩:=I.tuple hB
  obtain⟨⟨cls,dd,data,sl⟩,ho,hc,m,hd⟩:=pl
  simp only at hc hd
  subst hc hd
  have hl2:=r2.length
  have hsz:its.toArray.size+its2.toArray.size<=sizeLine:=by rw[List.size_toArray,List.size_toArray];grind
  have hlong:¬(!its.toArray.isEmpty&&Builtin.List.listTooLong (its.toArray.size+its2.toArray.size))=true:=by
   rw[Z0 hsz,Bool.and_false];exact Bool.false_ne_true
  refine call_meets F.slot_list_extend ⟨_,e,rfl⟩ F.entry_list_extend (F.args_list_extend_2 _ _) (bC4 l b its.toArray its2.toArray n m dd sl hlong (by rw[List.size_toArray];grind) (by grind)) ⟨e,ho,?_⟩
  refine⟨.non,_,I.lset (its':=its++its2) hH e (by simp) (r.append r2) ?_,rfl,q⟩
  rw[List.length_append];grind
theorem bW1(i:Nat) (h:JE X e f) (hN:X.N[i]? = some x) (hv:Vis X.env.scope x) (hd:(x==("__debug__" : Str))=false)
  (hcd:(x==("__classdict__" : Str))=false) (hline:(apos.endLine==cpos.line)=true) (hs:starEach [e] X.env=[(false,eval e X.env)]) :
  JS X (.Expr (.Call (.Attribute (.Name x p) "extend" apos) [e] [] cpos) pos) (au8 i f):=fun ρ fl q H0 Hf0=>by
 unfold au8 at q
 split at q
 ·rename_i ds eo
  obtain⟨d,e1,q⟩:=xbm q
  split at q
  ·rename_i es
   split at q
   ·rename_i hz
    cases q
    refine D8 (aa7 (aq8 PySem.F.plainAttrs_list PySem.F.slot_list_extend PySem.F.type_list_extend bi4 (O0 hN hv hd hcd) (D4 (h ρ _ e1) E9 hs) rfl (by rw[hs];rfl) hline hs) rfl) fun En σ H ⟨Hf,a,ee⟩=>?_
    obtain⟨v,h1,b,vs,rfl,h2,h3,h4,h5⟩:=a.sl.is i _ eo
    refine⟨_,h1,.inl ⟨rfl,vs,SqL.of h2⟩,H0,Hf,a.gr.sub,a.sl,fun w H' Hf' gg r=>?_⟩
    obtain⟨b2,us,rfl,r1,r2⟩:=r
    have hb:H' b=some (.lst vs):=gg.big _ _ h2
    have hfb:Hf' b=none:=gg.nofr h2 h3
    have g2:=a.gr.trans gg
    have sl2:=a.sl.grow gg
    refine⟨b,b2,vs,us,rfl,rfl,hb,.inl (E1 gg.sub r1),by rw[h5.length,r2.length,sizeLine_eq];exact hz,ee _ _ Hf' ⟨⟨fun c u z=>?_,fun c u z=>?_,g2.ext,g2.new⟩,?_⟩ gg.ext⟩
    ·rw[C2 (C7 z h4)];exact g2.big c u z
    ·rw[C2 (C7 z hfb)];exact g2.sub c u z
    ·exact sl2.reOwn eo h1 hfb h4 ((h5.mono gg.ext).append r2)
   ·cases q
  ·rename_i es
   split at q
   ·rename_i hz
    cases q
    refine D8 (aa7 (aq8 PySem.F.plainAttrs_list PySem.F.slot_list_extend PySem.F.type_list_extend bi4 (O0 hN hv hd hcd) (D4 (h ρ _ e1) E9 hs) rfl (by rw[hs];rfl) hline hs) rfl) fun En σ H ⟨Hf,a,ee⟩=>?_
    obtain⟨v,h1,b,vs,rfl,h2,h3,h4,h5⟩:=a.sl.is i _ eo
    refine⟨_,h1,.inl ⟨rfl,vs,SqL.of h2⟩,H0,Hf,a.gr.sub,a.sl,fun w H' Hf' gg r=>?_⟩
    obtain⟨b2,us,rfl,r1,r2⟩:=r
    have hb:H' b=some (.lst vs):=gg.big _ _ h2
    have hfb:Hf' b=none:=gg.nofr h2 h3
    have g2:=a.gr.trans gg
    have sl2:=a.sl.grow gg
    refine⟨b,b2,vs,us,rfl,rfl,hb,.inr (C9 gg.sub r1),by rw[h5.length,r2.length,sizeLine_eq];exact hz,ee _ _ Hf' ⟨⟨fun c u z=>?_,fun c u z=>?_,g2.ext,g2.new⟩,?_⟩ gg.ext⟩
    ·rw[C2 (C7 z h4)];exact g2.big c u z
    ·rw[C2 (C7 z hfb)];exact g2.sub c u z
    ·exact sl2.reOwn eo h1 hfb h4 ((h5.mono gg.ext).append r2)
   ·cases q
  ·cases q
 ·cases q
end
end G
namespace G
open PySem PySem.Spec PyProof.Rows L2
noncomputable def ao4(a:List Str) (x:Str):List Str:=if a.any (· == x) then a else a++[x]
noncomputable def ddN(v:Nat->Str) (i:Nat):List Str:=((List.range i).map v).foldl ao4 []
noncomputable def ddS(l:List Str):List Str:=l.foldl ao4 []
theorem am2(v:Nat->Str) (i:Nat):ddN v (i+1)=ao4 (ddN v i) (v i):=by
 unfold ddN
 rw[List.range_succ,List.map_append,List.foldl_append]
 rfl
theorem bo9(v:Nat->Str):∀i,(ddN v i).length<=i
 | 0=>Nat.le_refl 0
 | i+1=>by
  have ih:=bo9 v i
  rw[am2]
  unfold ao4
  split
  ·grind
  ·rw[List.length_append,List.length_singleton]
   grind
theorem ca4(a:List Str) (x y:Str):(ao4 a x).any (· == y)=(a.any (· == y) || decide (y=x)):=by
 unfold ao4
 by_cases q:a.any (· == x)=true
 ·rw[if_pos q]
  by_cases e:y=x
  ·subst e;rw[q];simp
  ·simp[e]
 ·rw[if_neg q,List.any_append]
  by_cases e:y=x
  ·subst e;simp
  ·have:(x==y)=false:=by simpa [beq_iff_eq] using fun z:x=y=>e z.symm
   simp[this,e]
theorem ca3(a:List Str) (x:Str):(ao4 a x).length=if a.any (· == x) then a.length else a.length+1:=by
 unfold ao4
 split<;>simp
theorem ca5(l:List Str) (d:Str):ddN (fun i=>l.getD i d) l.length=ddS l:=by
 unfold ddN ddS
 congr 1
 refine List.ext_getElem? fun i=>?_
 rw[List.getElem?_map]
 by_cases hi:i < l.length
 ·rw[List.getElem?_range hi,List.getElem?_eq_getElem hi]
  simp[List.getD,List.getElem?_eq_getElem hi]
 ·rw[List.getElem?_eq_none (by simpa using hi),List.getElem?_eq_none (by simpa using hi)]
  rfl
section
variable {prog:Program}{w:World}{A:Around}{R:Result->Shared->Prop}{J:Addr}{fp wr:List Addr}{Gn:Array GenState->Array GenState->Prop}{n:Nat}{P:Nat->Value->Prop}{St:Nat->Shared->Prop}
theorem bd9(W:WalksS prog w A.in1 J fp wr Gn n P St) (S:Addr) (hS1:S∉fp) (v:Nat->Str) (hv:∀i u,P i u->∃t,u=.str (v i) t) (hb:n+1 < scanBound) :
  ∀(k i:Nat) (s:Shared),n - i=k->i<=n->St i s->s.heap.SetOf (strKind prog w) S (fun y=>(ddN v i).any (· == y)) (ddN v i).length ->
   (∀s',Moved (S::wr) Gn s s'->s'.heap.SetOf (strKind prog w) S (fun y=>(ddN v n).any (· == y)) (ddN v n).length->R (.ok (.ret .none)) s') ->
   codeAny (model prog w) A (.builtin "set.update.loop" ⟨[.ref S,.ref J],[]⟩) R s:=by
 have hS2:S∉wr:=fun z=>hS1 (W.sub _ z)
 have more:∀b∈wr,b∈S::wr:=fun b z=>List.mem_cons_of_mem _ z
 intro k
 induction k with
 | zero =>
  intro i s e1 e2 q1 q2 q3
  obtain rfl:i=n:=by grind
  refine codeAny_builtin PyProof.Rows.F.entry_set_update_loop ?_
  rw[Around.under_plainId PyProof.Rows.F.plain_set_update_loop _]
  show wpAny _ _ (pyNext (.ref J) >>= _) _ _ _
  refine wpAny_bind (W.done s _ _ q1 fun s' mv=>?_)
  show wpAny _ _ (ret Value.none) _ _ _
  refine wpAny_pure (q3 s' (mv.mono more) ?_)
  obtain⟨o,es,ep,tb,ho,more'⟩:=q2
  exact⟨o,es,ep,tb,mv.heap S _ hS2 ho,more'⟩
 | succ k ih =>
  intro i s e1 e2 q1 q2 q3
  have lt:i < n:=by grind
  refine codeAny_builtin PyProof.Rows.F.entry_set_update_loop ?_
  rw[Around.under_plainId PyProof.Rows.F.plain_set_update_loop _]
  show wpAny _ _ (pyNext (.ref J) >>= _) _ _ _
  refine wpAny_bind (W.item i s _ _ lt q1 fun u s' hP q1' mv=>?_)
  obtain⟨t,rfl⟩:=hv i u hP
  have q2':s'.heap.SetOf (strKind prog w) S (fun y=>(ddN v i).any (· == y)) (ddN v i).length:=by
   obtain⟨o,es,ep,tb,ho,more'⟩:=q2
   exact⟨o,es,ep,tb,mv.heap S _ hS2 ho,more'⟩
  show wpAny _ _ (holding [Value.str (v i) t] (setAdd S (.str (v i) t)) >>= _) _ _ _
  refine wpAny_bind (wpAny_holding ?_)
  unfold setAdd
  refine wpAny_holding (wpAny_bind ((strKind prog w).pyHash (k:=v i) (strKind_is _ _ _ _) ?_))
  have room:(ddN v i).length+1 < scanBound:=by have:=bo9 v i;grind
  refine wpAny_setAddHashed_of (knd:=strKind prog w) (s:={ s' with toks:=s'.toks+1 }) (strKind_is _ _ _ _) rfl q2' room fun h' sb q4=>?_
  have q5:h'.SetOf (strKind prog w) S (fun y=>(ddN v (i+1)).any (· == y)) (ddN v (i+1)).length:=SetOf_congr q4 (fun y=>by rw[am2,ca4]) (by rw[am2,ca3])
  refine wpAny_pure ⟨plainId_quiet PyProof.Rows.F.plain_set_update_loop _,ih (i+1) _ (by grind) lt (W.frame _ s' _ _ q1' (Nat.le_succ _) fun b z o e=>?_) q5 fun s2 mv2 q6=>?_⟩
  ·rw[sb.2 b (fun y:b=S=>hS1 (by rw[← y];exact z))];exact e
  ·refine q3 s2 (Moved.trans W.gtrans ((mv.mono more).then_heap (Nat.le_succ _) fun b o z e=>?_) mv2) q6
   rw[sb.2 b (fun y:b=S=>z (by rw[y];exact List.mem_cons_self))];exact e
end
section
variable {prog:Program}{w:World}{A:Around}{E:Value->Shared->Prop}{s:Shared}
noncomputable abbrev N0(b:Bool):Obj:={ cls:=.type "set", dict:=none,data:=.set #[] 0 (.fresh 0 0 b) }
theorem aA6{l:Addr}{its:Array Value}{xs:List Str}{Q:Value->Shared->Prop}(hh:A.handled=none) (hl:s.heap.IsList l its) (hi:∀(i:Nat) (u:Value),its[i]? = some u->∃t,u=.str (xs.getD i "") t) (hb:its.size+1 < scanBound)
  (h:∀(h':Heap) (tk:Nat),h'.SetOf (strKind prog w) s.heap.objs.size (fun y=>(ddN (fun i=>xs.getD i "") its.size).any (· == y)) (ddN (fun i=>xs.getD i "") its.size).length ->
   (∀b o,b < s.heap.objs.size->s.heap.get? b=some o->h'.get? b=some o)->Q (.ref s.heap.objs.size) { s with heap:=h',toks:=tk }) :
  wpAny (model prog w) A (call (.type "set") [.ref l]) Q E s:=by
 obtain⟨c,tl,hmro⟩:=F.called_set.mro
 have hmade:=F.called_set.made
 have hsub:=F.called_set.sub
 refine wpAny_call (codeAny_of_tree ?_)
 show wpAny _ _ (callAny (.type "set") _) _ _ _
 refine wpAny_pure ⟨Code.quiet_builtin _ (by decide +kernel),codeAny_builtin F.entry_type_call ?_⟩
 rw[Around.under_plain (weight_type_call_type "set" [.ref l] []) rfl]
 have n1:=F.called_set.notType
 have n2:=F.called_set.canCreate
 have n3:=F.typeCall_set_1 (.ref l)
 repeat (any_goals (first|assumption|wp_step))
 refine codeAny_mono (code_set_new_1 (.ref l) (E:=E) (Q₁:=fun ob s1=>∃b:Bool,ob=.ref s.heap.objs.size/\s1={ s with heap:=s.heap.push (N0 b) }) fun b=>⟨b,rfl,rfl⟩) fun r s1 hr=>?_
 cases r with
 | error e=>exact hr
 | ok fl =>
  cases fl with
  | ret ob =>
   obtain⟨b,rfl,rfl⟩:=hr
   have g0:(s.heap.push (N0 b)).get? s.heap.objs.size=some (N0 b):=Heap.get?_push_size _ rfl
   have hT:Shared.TypeIs { s with heap:=s.heap.push (N0 b) } (.ref s.heap.objs.size) "set" := ⟨_,g0,rfl⟩
   have li:=F.called_set.init.lookup
   have bi:=F.called_set.init.bind (.ref s.heap.objs.size)
   repeat (any_goals (first|assumption|wp_step))
   refine codeAny_mono (codeAny_call_builtin (R:=wants (fun r s2=>r=.none/\∃h' tk,s2={ s with heap:=h',toks:=tk }/\h'.SetOf (strKind prog w) s.heap.objs.size (fun y=>(ddN (fun i=>xs.getD i "") its.size).any (· == y)) (ddN (fun i=>xs.getD i "") its.size).length /\
     (∀b o,b < s.heap.objs.size->s.heap.get? b=some o->h'.get? b=some o)) E) F.called_set.init.plain F.entry_set_init (check_set_init_1 hT ?_)) fun r2 s2 hr2=>?_
   ·obtain⟨⟨c0,d0,dt0,sl0⟩,hol,hcl,nl,hdl⟩:=hl
    simp only at hcl hdl
    subst hcl hdl
    have hol':(s.heap.push (N0 b)).get? l=some { cls:=.type "list", dict:=d0,data:=.seq its nl,slots:=sl0 }:=Heap.get?_push_of_some _ hol
    have f1:=F.sub_list_set
    have f2:=F.sub_list_frozenset
    have f3:(Value.type "list" == Value.type "dict")=false:=by decide
    have hl1:(s.heap.push (N0 b)).IsList l its:=⟨_,hol',rfl,nl,rfl⟩
    unfold Builtin.«set.__init__» noKeywords Builtin.Frozenset.updateFrom
    generalize hPI:pyIter=PI
    wp_walk
    subst hPI
    refine wpAny_pyIter_list hl1 (wpAny_bind (wpAny_runValue ?_))
    have lS:l < s.heap.objs.size:=Heap.lt_size hol
    have h3:A.in1.in1.in1.handled=none:=by simp[hh]
    have nI:l≠(s.heap.push (N0 b)).objs.size:=by
     rw[Heap.size_push]
     exact Nat.ne_of_lt (Nat.lt_succ_of_lt lS)
    have nf:s.heap.objs.size∉[(s.heap.push (N0 b)).objs.size,l]:=by
     rw[Heap.size_push]
     simp only[List.mem_cons,List.mem_singleton,List.not_mem_nil,or_false,not_or]
     exact⟨Nat.ne_of_lt (Nat.lt_succ_self _),Nat.ne_of_gt lS⟩
    refine bd9 ((Walks.list h3 _ l nI its).toS) s.heap.objs.size nf (fun i=>xs.getD i "") hi hb (its.size - 0) 0 _ (by grind) (Nat.zero_le _) ⟨⟨_,Heap.get?_push_size _ rfl,rfl,rfl⟩,(hl1.push _)⟩ ?hS0 ?hR
    case hS0 =>
     have gt:((s.heap.push (N0 b)).push { cls:=.type "list_iterator", data:=.fields #[.ref l,.int 0 0] }).get? s.heap.objs.size=some (N0 b):=Heap.get?_push_of_some _ g0
     exact SetOf_congr ((setObjOf_fresh (knd:=strKind prog w) b).setOf gt (by unfold scanBound;grind)) (fun _=>rfl) rfl
    case hR =>
     intro s' mv q
     obtain⟨h',g',d',tk',os'⟩:=s'
     have eg:g'=s.gens:=mv.gens
     have ed:d'=s.drawn:=mv.drawn
     have eo:os'=s.os:=mv.os
     subst eg ed eo
     show wpAny _ _ _ _ _ _
     refine wpAny_pure ?_
     show wpAny _ _ (ret Value.none) _ _ _
     refine wpAny_pure ⟨rfl,h',tk',rfl,q,fun c o hc e=>?_⟩
     have c1:c≠s.heap.objs.size:=Nat.ne_of_lt hc
     have c2:c≠(s.heap.push (N0 b)).objs.size:=by
      rw[Heap.size_push]
      exact Nat.ne_of_lt (Nat.lt_succ_of_lt hc)
     exact mv.heap c o (by simp only[List.mem_cons,List.mem_singleton,List.not_mem_nil,or_false,not_or];exact⟨c1,c2⟩) (Heap.get?_push_of_some _ (Heap.get?_push_of_some _ e))
   ·cases r2 with
    | error e=>exact hr2
    | ok fl2 =>
     cases fl2 with
     | ret r =>
      obtain⟨rfl,h',tk,rfl,q1,q2⟩:=hr2
      repeat (any_goals (first|assumption|wp_step))
      exact h _ _ q1 q2
     | _=>exact hr2.elim
  | _=>exact hr.elim
end
end G
namespace G
open PySem PySem.Spec PyProof.Rows L2
section
variable {X:Cx}
noncomputable def SetO(X:Cx) (a:Addr) (n:Nat):HO:=.ext fun h=>∃S,h.SetOf (strKind X.prog X.w) a S n
theorem cb2:bootBuiltins "set" = some (.type "set"):=by decide +kernel
theorem az5:∀{ys:List Str}{us:List Value},C8 (ys.map V.str) us->∀(i:Nat) (u:Value),us[i]? = some u->∃t,u=.str (ys.getD i "") t
 | [],[],_,i,u,h=>by simp at h
 | y::ys,u::us,h,i,v,e=>by
  cases h with
  | cons a b =>
   cases i with
   | zero =>
    simp only[List.getElem?_cons_zero,Option.some.injEq]at e
    subst e
    obtain⟨t,e⟩:=a
    exact⟨t,e⟩
   | succ i =>
    simp only[List.getElem?_cons_succ]at e
    obtain⟨t,e'⟩:=az5 b i v e
    exact⟨t,e'⟩
theorem aZ4(hc:X.calm=true):T3 X (.type "set") (fun xs H Q=>∃p ys,xs=[.ref p]/\SqL X.K H p (ys.map V.str)/\ys.length<=4000/\∀l,H l=none->Q (.ref l) (upd H l (SetO X l (ddS ys).length))):=by
 intro pins s σ H xs us Q I r h
 obtain⟨p,ys,rfl,hq,hz,q⟩:=h
 obtain⟨u,rfl,rx⟩:=Y2 r
 cases rx
 obtain⟨its,rv,pl,_⟩:=I.list hq
 have hl:its.length=ys.length:=by have:=rv.length;rw[List.length_map]at this;exact this.symm
 have hs:its.toArray.size=ys.length:=by rw[List.size_toArray];exact hl
 refine aA6 (xs:=ys) (I.ok.hd hc) pl.isList (fun i u e=>az5 rv i u (by rw[List.getElem?_toArray]at e;exact e)) (by rw[hs];unfold scanBound;grind) fun h' tk q1 q2=>?_
 rw[hs,ca5]at q1
 refine⟨.ref _,_,I.laid (a:=s.heap.objs.size) (o:=SetO X s.heap.objs.size (ddS ys).length) (h':=h') (t':=tk) (fun b o e=>q2 b o (Heap.lt_size e) e) (Nat.le_refl _) ⟨⟨_,q1⟩,?_,?_⟩,rfl,q _ I.fresh⟩
 ·obtain⟨o,es,ep,t,ho,_⟩:=q1
  exact⟨o,ho⟩
 ·intro h1 h2 ⟨S,o,es,ep,t,ho,N5⟩ k
  exact⟨S,o,es,ep,t,k o ho,N5⟩
theorem aZ5:T3 X (.builtin "len") (fun xs H Q=>∃p n,xs=[.ref p]/\H p=some (SetO X p n)/\Q (.int n) H):=by
 intro pins s σ H xs us Q I r h
 obtain⟨p,n,rfl,hp,q⟩:=h
 obtain⟨u,rfl,rx⟩:=Y2 r
 cases rx
 obtain⟨⟨S,o,es,ep,t,ho,hex,hd,_,_,hb,hf,hn⟩,_,_⟩:=I.hok p _ hp
 have:es.size < 4096:=hb
 exact call_len_set ho hex hd hf (by grind) ⟨.int n,H,I.tok _,⟨_,by rw[hn]⟩,q⟩
noncomputable def aj5(f:Rho->Option (Bool×List D)):DE:=fun ρ=>(f ρ).bind fun q=>if q.1=true then none else(n6 q.2).bind fun ys=>if ys.length<=4000 then some (.int (ddS ys).length) else none
theorem aW4(hg:Gl X "len") (hm:X.mg "len" = none) (hg2:Gl X "set") (hm2:X.mg "set" = none) (h:JQ X e f) (hc:X.calm=true) (he:starEach [e] X.env=[(false,eval e X.env)]) :
  JE X (.Call (.Name "len" p) [.Call (.Name "set" p2) [e] [] pos2] [] pos) (aj5 f):=fun ρ d q=>by
 obtain⟨⟨t,ds⟩,h1,q⟩:=xbm q
 split at q
 ·cases q
 ·rename_i ht
  have ht:t=false:=by simpa using ht
  subst ht
  obtain⟨ys,h2,q⟩:=xbm q
  split at q
  ·rename_i hz
   cases q
   refine B4 (P5 aZ5 hg hm ay6 (D4 (M2 (aZ4 hc) hg2 hm2 cb2 (D4 (h ρ false ds h1) E9 he) (he:=he)) E9 rfl)) fun σ H Q ⟨H0,Hf,s,sl,k⟩=>?_
   refine⟨H0,Hf,s,sl,fun v H1 Hf1 g1 ⟨a,vs,e1,e2,e3⟩=>⟨a,ys,by rw[e1],?_,hz,fun l hl=>⟨l,_,rfl,B5,?_⟩⟩⟩
   ·rw[← ad3 h2 e3];exact e2
   ·exact k _ _ _ (g1.trans (Grow.made g1.sub hl)) rfl
  ·cases q
end
end G
namespace G
open PySem PySem.Spec PyProof.Rows L2
section
variable {X:Cx}
noncomputable def aX1(x y:Str):Bool:=!(Builtin.Str.occurrences y x 0 y.length 1).isEmpty
noncomputable def inS(neg:Bool) (x y:D):Option D:=match x,y with
 | .str i,.str j=>some (.bool (if neg then !aX1 i j else aX1 i j))
 | _,_=>none
theorem bQ8:OpD X (compareOp .In) (inS false):=fun x y z h=>by
 cases x<;>cases y<;>first|(cases h;done)|skip
 rename_i i j
 cases h
 refine OpR.imp aU6 fun vx vy H Q ⟨Hf,s,rx,ry,k⟩=>?_
 cases rx
 cases ry
 exact⟨i,j,rfl,rfl,k _ H Hf (Grow.refl s) rfl⟩
theorem aV1:OpD X (compareOp .NotIn) (inS true):=fun x y z h=>by
 cases x<;>cases y<;>first|(cases h;done)|skip
 rename_i i j
 cases h
 refine OpR.imp aw0 fun vx vy H Q ⟨Hf,s,rx,ry,k⟩=>?_
 cases rx
 cases ry
 exact⟨i,j,rfl,rfl,k _ H Hf (Grow.refl s) rfl⟩
noncomputable def ar9(f:DE):DE:=fun ρ=>(f ρ).bind fun d=>match d with
 | .str x=>if x.length<=16777216 then some (.int x.length) else none
 | _=>none
theorem bA8(hg:Gl X "len") (hm:X.mg "len" = none) (h:JE X e f) (he:starEach [e] X.env=[(false,eval e X.env)]):JE X (.Call (.Name "len" p) [e] [] pos) (ar9 f):=fun ρ d q=>by
 obtain⟨y,h1,h2⟩:=xbm q
 obtain⟨x,rfl⟩:∃x,y=.str x:=by
  cases y with
  | str x=>exact⟨x,rfl⟩
  | _=>cases h2
 have h2:(if x.length<=16777216 then some (PyData.int x.length) else none)=some d:=h2
 split at h2
 ·rename_i hz
  cases h2
  refine B4 (P5 ay5 hg hm ay6 (D4 (h ρ _ h1) E9 he) (he:=he)) fun σ H Q ⟨H0,Hf,s,sl,k⟩=>?_
  refine⟨H0,Hf,s,sl,fun v H1 Hf1 g1 r=>⟨x,?_,by rw[sizeLine_eq];exact hz,k _ H1 Hf1 g1 rfl⟩⟩
  cases r;rfl
 ·cases h2
noncomputable def Its(x:Str):It:=⟨fun i _=>i < x.cps.size,fun i H v H'=>H'=H/\∃c,x.cps[i]? = some c/\v=.str ⟨#[c]⟩,fun i _=>x.cps.size<=i⟩
theorem bc6{P:Program}{w:World}{K:PySem.W.Frag}{tg:Expr}(x:Str) (t:Tok) (it:Addr):Turn P w K tg (Its x) [it] it (fun i h=>h.IsStrIter it "str_ascii_iterator" x t i) where
 mem:=by simp
 obj:=fun i h st b hb=>by
  have e:b=it:=by simpa using hb
  subst e
  obtain⟨o,e,c,d⟩:=st
  exact⟨o,e,fun v z=>by rw[d]at z;cases z⟩
 keep:=fun i h h' st k=>by
  obtain⟨o,e,r⟩:=st
  exact⟨o,k it (by simp) o e,r⟩
 item:=by
  intro X hP hw hK hc i pins s σ H E I hf st hg
  subst hP hw hK
  obtain⟨f0,f1,f2,f3,f4,f5⟩:=hf it (by simp)
  have hi:i < x.cps.size:=hg
  refine wpAny_pyNext_ascii_item st (c:=x.cps[i]) (by simp[hi]) fun h' st' sb=>?_
  have I1:Inv X pins σ H { s with heap:=h',toks:=s.toks+1 }:=I.turned (t':=s.toks+1) (fun b o hb e=>(sb.2 b hb).trans e) f0 f1 f3 f4 f5
  obtain⟨o,e,c,d⟩:=id st'
  exact⟨_,rfl,aR3 (s:={ s with heap:=h',toks:=s.toks+1 }) e c d (by decide) ⟨.str ⟨#[x.cps[i]]⟩,H,I1,⟨_,rfl⟩,⟨rfl,_,by simp[hi],rfl⟩,st',fun b hb=>(hf b hb).1⟩⟩
 done:=by
  intro X hP hw hK hc i pins s σ H E I hf st hg
  subst hP hw hK
  obtain⟨f0,f1,f2,f3,f4,f5⟩:=hf it (by simp)
  have hi:x.cps.size<=i:=hg
  exact wpAny_pyNext_ascii_end (I.ok.hd hc) st (by simp[hi]) fun h' eb=>⟨rfl,I.turned (t':=s.toks) (fun b o hb e=>eb b o hb e) f0 f1 f3 f4 f5⟩
 self:=fun _ _ _ _ _ st h=>wpAny_pyIter_striter_ascii st h
noncomputable def aq5(x:Str):List D:=x.cps.toList.map fun c=>.str ⟨#[c]⟩
noncomputable def aW8(f:DE):Rho->Option (List D):=fun ρ=>(f ρ).bind fun d=>match d with
 | .str x=>if x.cps.all (· < 128)=true then some (aq5 x) else none
 | _=>none
theorem bX1{tg e:Expr}{f:DE}(h:JE X e f):JI X tg e (aW8 f):=fun ρ ds q=>by
 obtain⟨d,e1,e2⟩:=xbm q
 obtain⟨x,rfl⟩:∃x,d=.str x:=by
  cases d with
  | str x=>exact⟨x,rfl⟩
  | _=>cases e2
 have e2:(if x.cps.all (· < 128)=true then some (aq5 x) else none)=some ds:=e2
 split at e2
 ·rename_i ha
  cases e2
  intro pins s σ H R I ⟨H0,Hf,ss,sl,k⟩
  refine thn (h ρ _ e1 pins s σ H (fun v H'=>∃Hf',Grow H Hf H' Hf'/\v=.str x) I ⟨H0,Hf,ss,sl,fun v H' Hf' g r=>⟨Hf',g,r⟩⟩) fun v s1 ⟨y,H1,I1,r1,Hf1,g1,ey⟩=>?_
  subst ey
  obtain⟨t,rfl⟩:=r1
  refine wpAny_pyIter_ascii ha ?_
  have I2:Inv X pins σ H1 { s1 with heap:=s1.heap.push { cls:=.type "str_ascii_iterator", data:=.fields #[.str x t,.int 0 0] } }:=I1.kept (t':=s1.toks) fun b u e=>Heap.get?_push_of_some _ e
  refine⟨_,_,_,Its x,H1,rfl,I2,bc6 x t s1.heap.objs.size,⟨_,Heap.get?_push_size _ rfl,rfl,rfl⟩,fun b hb=>?_,k _ H1 Hf1 g1 fun i H' Hf' sa sb=>⟨fun hi=>?_,fun d hd=>?_⟩⟩
  ·have hb':s1.heap.objs.size<=b:=by rw[List.mem_singleton]at hb;rw[hb];exact Nat.le_refl _
   exact I1.fpOk hb' (I1.hok.fresh hb')
  ·show x.cps.size<=i
   simpa [aq5] using hi
  ·unfold aq5 at hd
   rw[List.getElem?_map]at hd
   obtain⟨c,c1,c2⟩:=Option.map_eq_some_iff.mp hd
   have c1':x.cps[i]? = some c:=by rw[← Array.getElem?_toList];exact c1
   refine⟨(Array.getElem?_eq_some_iff.mp c1').1,fun v H'' ⟨h1,c',h2,h3⟩=>?_⟩
   subst h1 h3 c2
   rw[c1']at h2
   cases h2
   exact⟨Hf',Grow.refl sb,rfl⟩
 ·cases e2
end
end G
namespace G
open PySem PySem.Spec PyProof PyProof.Rows L2
section
variable {X:Cx}
end
end G
namespace G
open PySem PySem.Spec PyProof.Rows L2
section
variable {prog:Program}{w:World}{A:Around}{E:Value->Shared->Prop}{s:Shared}{t:Bool}
end
section
variable {X:Cx}{pins:List (Addr×Obj)}{σ:L2.St}{A:Around}{t:Bool}{S e it a:Addr}{ws:List V}
end
section
variable {X:Cx}
theorem ty1(I:Inv X pins σ H s) (hg:Gl X x) (hm:X.mg x=none) (hv:bootBuiltins x=some (.type T)) (hn:x ≠ "__name__") (hd:(x==("__debug__" : Str))=false)
  (hs:starEach [a] X.env=[(false,eval a X.env)]) (h:wpAny (model X.prog X.w) X.A (eval a X.env) (fun v s1=>wpAny (model X.prog X.w) X.A (call (.type T) [v]) Q E s1) E s):wpAny (model X.prog X.w) X.A (eval (.Call (.Name x p) [a] [] pos) X.env) Q E s:=by
 refine Call_ (al5 I hg hm hv (PyProof.Rows.callWith_type1 ?_ (by rw[hs];rfl) (by rfl)) hn hd)
 rw[hs]
 exact Calls.spliced_cons (thn h fun v s1 q=>Calls.spliced_nil q)
end
end G
namespace G
open PySem PySem.Spec PyProof.Rows L2
section
open PySem.SeqAt PySem.MeetsSeq PySem.MeetsSeq2 PySem.MeetsSeq3 PySem.SeqRoads2
open PySem.AutoSeq1 (wpAny_loadPart')
end
section
variable {X:Cx}
end
end G
namespace G
open PySem PySem.Spec PyProof.Rows L2
section
variable {X:Cx}
noncomputable def lsB(x:D) (ds:List D):Prop:=SeqAt.shaped x=true/\x.depth<=60/\ds.all SeqAt.shaped=true/\ds.all S6=true
instance (x:D) (ds:List D):Decidable (lsB x ds):=by unfold lsB;exact inferInstance
end
end G
namespace L2
open PySem PySem.Spec PyProof.Rows
section
variable {κ:Type} [DecidableEq κ]
end
section
variable {P:Program}{w:World}{H:Hp}{h:Heap}{a:Addr}
end
section
variable {X:Cx}{pins:List (Addr×Obj)}{σ:St}{H:Hp}{s:Shared}{a:Addr}{y v:V}{u r:Value}{o:Option V}{A:Around}{E:Value->Shared->Prop}
end
section
variable {X:Cx}{pins:List (Addr×Obj)}{σ:St}{H:Hp}{s:Shared}{a:Addr}{kvs:List (Key×V)}{k:Key}{u:Value}{A:Around}{E:Value->Shared->Prop}
end
section
variable {X:Cx}{o i e value:Expr}{pos pos' tpos:Pos}{td ty tv:TE}
end
section
variable {X:Cx}{pos:Pos}
end
section
variable {X:Cx}{pins:List (Addr×Obj)}{σ:St}{H:Hp}{s:Shared}{a:Addr}{y d:V}{u r:Value}{o:Option V}{A:Around}{E:Value->Shared->Prop}
end
section
variable {X:Cx}{o e f:Expr}{apos cpos:Pos}{td ty tx:TE}
end
section
variable {X:Cx}{pins:List (Addr×Obj)}{σ:St}{H:Hp}{s:Shared}{a:Addr}{kvs:List (Key×V)}{A:Around}{E:Value->Shared->Prop}
end
section
variable {X:Cx}{pins:List (Addr×Obj)}{σ:St}{H:Hp}{s:Shared}{a:Addr}{y:V}{u:Value}{A:Around}{E:Value->Shared->Prop}
end
end L2
namespace G
open PySem PySem.Spec PyProof.Rows L2
section
variable {prog:Program}{w:World}{A:Around}{E:Value->Shared->Prop}{s:Shared}
variable {R:Result->Shared->Prop}{J S:Addr}{fp wr:List Addr}{Gn:Array GenState->Array GenState->Prop}{P:Nat->Value->Prop}{St:Nat->Shared->Prop}{ps:List (Str×Value)}
end
section
variable {K:PySem.W.Frag}{H:Hp}
end
section
variable {X:Cx}
end
end G
namespace G
open PySem PySem.Spec PyProof.Rows L2
section
variable {X:Cx}
end
end G
namespace G
open PySem PySem.Spec PyProof.Rows L2
section
variable {X:Cx}
theorem aq1:∀(ys:List Str) (k:Nat),C8 (ys.map V.str) (strsFrom k ys)
 | [],_=>.nil
 | y::ys,k=>.cons ⟨_,rfl⟩ (aq1 ys (k+1))
theorem W8{K:PySem.W.Frag}{H:Hp}:∀ys:List Str,Reps K H (ys.map PyData.str) (ys.map V.str)
 | []=>rfl
 | y::ys=>⟨_,_,rfl,rfl,W8 ys⟩
noncomputable def bf0:V->List V->Hp->VK->Prop:=fun x vs H Q=>∃a y,x=.str a/\vs=[.str y]/\(y.length==0)=false/\a.length<=sizeLine/\(Txt.split a y).length<=sizeLine/\∀p,H p=none->Q (.ref p) (upd H p (.lst ((Txt.split a y).map V.str)))
theorem bi3:MtR X "str.split" bf0:=by
 intro pins s σ H x vs v us Q I rx rv h
 obtain⟨a,y,rfl,rfl,hy,hx,hn,q⟩:=h
 obtain⟨t,rfl⟩:=rx
 obtain⟨u,rfl,w,rfl⟩:=rv.one
 have go:∀ys its t',Txt.split a y=ys->C8 (ys.map V.str) its->EP X pins σ Q (.ref s.heap.objs.size) { s with heap:=s.heap.push { cls:=.type "list", data:=.seq its.toArray },toks:=t' }:=fun ys its t' e r=>by
  subst e
  exact⟨.ref _,_,I.lnew r (by rw[List.length_map];exact hn),rfl,q _ I.fresh⟩
 cases h1:(decide (a.length < y.length) || decide (Builtin.Str.strKind a < Builtin.Str.strKind y)) with
 | true =>
  exact call_meets F.slot_str_split (typeIs_str s a t) F.entry_str_split (F.args_str_split_2 _ _) (meets_str_split_cannot_occur a y t w h1) (go [a] [.str a t] s.toks (if_pos h1) (.cons ⟨_,rfl⟩ .nil))
 | false =>
  cases hf:(Builtin.Str.occurrences a y 0 a.length (a.length+1)).isEmpty with
  | true=>exact call_meets F.slot_str_split (typeIs_str s a t) F.entry_str_split (F.args_str_split_2 _ _) (meets_str_split_not_found a y t w h1 hy hf) (go [a] [.str a t] s.toks ((if_neg (by rw[h1];nofun)).trans (if_pos hf)) (.cons ⟨_,rfl⟩ .nil))
  | false =>
   have e:Txt.split a y=Builtin.Str.partsBetween a (Builtin.Str.occurrences a y 0 a.length (a.length+1)) y.length:=(if_neg (by rw[h1];nofun)).trans (if_neg (by rw[hf];nofun))
   exact call_meets F.slot_str_split (typeIs_str s a t) F.entry_str_split (F.args_str_split_2 _ _) (meets_str_split_sep a y t w h1 hy hf hx (by rw[← e];exact hn)) (go _ _ _ e (aq1 _ _))
noncomputable def bG1:V->List V->Hp->VK->Prop:=fun x vs H Q=>∃a y,x=.str a/\vs=[.str y]/\(y.length==0)=false/\a.length<=sizeLine/\∀p,H p=none->Q (.ref p) (upd H p (.tup [.str (Txt.partition a y).1,.str (Txt.partition a y).2.1,.str (Txt.partition a y).2.2]))
theorem by4:MtR X "str.partition" bG1:=by
 intro pins s σ H x vs v us Q I rx rv h
 obtain⟨a,y,rfl,rfl,hy,hx,q⟩:=h
 obtain⟨t,rfl⟩:=rx
 obtain⟨u,rfl,w,rfl⟩:=rv.one
 refine call_meets F.slot_str_partition (typeIs_str s a t) F.entry_str_partition (F.args_str_partition_2 _ _) (meets_str_partition a y t w hy hx) ?_
 have go:∀(b c d:Str) (t1 t2 t3 t':Tok),Txt.partition a y=(b,c,d)->EP X pins σ Q (.ref s.heap.objs.size) { s with toks:=t',heap:=s.heap.push { cls:=.type "tuple", data:=.seq [.str b t1,.str c t2,.str d t3].toArray } }:=fun b c d t1 t2 t3 t' e=>by
  rw[e]at q
  refine⟨.ref s.heap.objs.size,upd H s.heap.objs.size (.tup [.str b,.str c,.str d]),I.laid (fun b o e=>Heap.get?_push_of_some _ e) (Nat.le_refl _) ⟨by simp only[List.length_cons,List.length_nil];rw[sizeLine_eq];decide,[.str b t1,.str c t2,.str d t3],.cons ⟨_,rfl⟩ (.cons ⟨_,rfl⟩ (.cons ⟨_,rfl⟩ .nil)),?_⟩,rfl,q _ I.fresh⟩
  exact⟨_,Heap.get?_push_size s.heap rfl,rfl,⟨0,rfl⟩,rfl⟩
 cases e:Builtin.Str.occurrences a y 0 a.length 1 with
 | nil=>exact go a Str.empty Str.empty _ _ _ _ (by unfold Txt.partition;rw[e])
 | cons i r=>exact go (Builtin.Str.strSub a 0 i) y (Builtin.Str.strSub a (i+y.length) a.length) _ _ _ _ (by unfold Txt.partition;rw[e])
noncomputable def aO0:V->List V->Hp->VK->Prop:=fun x vs H Q=>∃a y,x=.str a/\vs=[.str y]/\Q (.bl (0+y.length<=a.length&&Builtin.Str.subAt a y 0)) H
theorem aV7:MtR X "str.startswith" aO0:=by
 intro pins s σ H x vs v us Q I rx rv h
 obtain⟨a,y,rfl,rfl,q⟩:=h
 obtain⟨t,rfl⟩:=rx
 obtain⟨u,rfl,w,rfl⟩:=rv.one
 exact call_meets F.slot_str_startswith (typeIs_str s a t) F.entry_str_startswith (F.args_str_startswith_2 _ _) (gives_str_startswith a y t w).meets ⟨.bl _,H,I,rfl,q⟩
noncomputable def txS(a y:Str):Option D:=if y.length≠0/\a.length<=16777216/\(Txt.split a y).length<=16777216 then some (.list ((Txt.split a y).map PyData.str)) else none
noncomputable def txP(a y:Str):Option D:=if y.length≠0/\a.length<=16777216 then some (.tuple [.str (Txt.partition a y).1,.str (Txt.partition a y).2.1,.str (Txt.partition a y).2.2]) else none
noncomputable def txB(a y:Str):Option D:=some (.bool (0+y.length<=a.length&&Builtin.Str.subAt a y 0))
noncomputable def dTx(m:Str->Str->Option D) (f g:DE):DE:=fun ρ=>(f ρ).bind fun d=>(g ρ).bind fun e=>match d,e with
 | .str a,.str y=>m a y
 | _,_=>none
theorem bl5{m:Str->Str->Option D}{name:Str}{id:String}{r:V->List V->Hp->VK->Prop}(slot:Slot "str" name id) (hty:typeOf (.builtin id)=pure (.type "method_descriptor")) (hm:MtR X id r)
  (hr:∀a y d H Hf Q,m a y=some d->B8 Hf H->(∀v H' Hf',Grow H Hf H' Hf'->Rep X.K Hf' d v->Q v H')->r (.str a) [.str y] H Q) (ho:JE X o f) (h:JE X e g)
  (hbase:attributeBase o name X.env (eval o X.env)=eval o X.env:=by rfl)
  (hfew:((backTo cpos (starEach [e] X.env)).all (fun x=>!x.1)&&(backToKw cpos (keywordEach [] X.env)).all (fun x=>x.1.isSome)
   && decide (([e]:List Expr).length+([]:List Keyword).length+(if([]:List Keyword).isEmpty then 0 else 1) < 30))=true:=by rfl)
  (hline:(apos.endLine==cpos.line)=true:=by rfl) (hs:starEach [e] X.env=[(false,eval e X.env)]:=by rfl) :
  JE X (.Call (.Attribute o name apos) [e] [] cpos) (dTx m f g):=fun ρ d q=>by
 obtain⟨x,e1,q⟩:=xbm q
 obtain⟨y,e2,q⟩:=xbm q
 split at q
 ·rename_i a y _
  refine B4 (aq8 F.plainAttrs_str slot hty hm (ho ρ _ e1) (D4 (h ρ _ e2) E9 hs) hbase hfew hline hs) fun σ H Q ⟨H0,Hf,s,sl,k⟩=>?_
  refine⟨H0,Hf,s,sl,fun v H1 Hf1 g1 r1=>?_⟩
  cases r1
  refine⟨rfl,H0,Hf1,g1.sub,sl.grow g1,fun w H2 Hf2 g2 r2=>?_⟩
  cases r2
  exact hr a y d H2 Hf2 Q q g2.sub fun v H3 Hf3 g3 r3=>k v H3 Hf3 ((g1.trans g2).trans g3) r3
 ·cases q
theorem bm9{K:PySem.W.Frag}:∀a y d H Hf Q,txS a y=some d->B8 Hf H->(∀v H' Hf',Grow H Hf H' Hf'->Rep K Hf' d v->Q v H')->bf0 (.str a) [.str y] H Q:=fun a y d H Hf Q e s k=>by
 unfold txS at e
 split at e
 ·rename_i c
  cases e
  exact⟨a,y,rfl,rfl,by simpa using c.1,by rw[sizeLine_eq];exact c.2.1,by rw[sizeLine_eq];exact c.2.2,fun p hp=>k _ _ _ (Grow.laid s hp) ⟨p,_,rfl,SqL.of B5,W8 _⟩⟩
 ·cases e
theorem bB8{K:PySem.W.Frag}:∀a y d H Hf Q,txP a y=some d->B8 Hf H->(∀v H' Hf',Grow H Hf H' Hf'->Rep K Hf' d v->Q v H')->bG1 (.str a) [.str y] H Q:=fun a y d H Hf Q e s k=>by
 unfold txP at e
 split at e
 ·rename_i c
  cases e
  exact⟨a,y,rfl,rfl,by simpa using c.1,by rw[sizeLine_eq];exact c.2,fun p hp=>k _ _ _ (Grow.laid s hp) ⟨p,_,rfl,SqT.of B5,W8 [_,_,_]⟩⟩
 ·cases e
theorem aW9{K:PySem.W.Frag}:∀a y d H Hf Q,txB a y=some d->B8 Hf H->(∀v H' Hf',Grow H Hf H' Hf'->Rep K Hf' d v->Q v H')->aO0 (.str a) [.str y] H Q:=fun a y d H Hf Q e s k=>by
 cases e
 exact⟨a,y,rfl,rfl,k _ _ _ (Grow.refl s) rfl⟩
theorem ap3:T3 X (.type "int") (fun xs H Q=>∃x n,xs=[.str x]/\intText? x=some n/\x.length<=640/\Q (.int n) H):=by
 intro pins s σ H xs us Q I r h
 obtain⟨x,n,rfl,e1,e2,q⟩:=h
 obtain⟨u,rfl,t,rfl⟩:=Y2 r
 exact PySem.W.KIN.call_text e1 e2 ⟨.int n,H,I.tok _,⟨_,rfl⟩,q⟩
noncomputable def aS0(f:DE):DE:=fun ρ=>(f ρ).bind fun d=>match d with
 | .str x=>if x.length<=640 then(intText? x).map PyData.int else none
 | _=>none
theorem bB0(hg:Gl X "int") (hm:X.mg "int" = none) (h:JE X e f) (he:starEach [e] X.env=[(false,eval e X.env)]:=by rfl):JE X (.Call (.Name "int" p) [e] [] pos) (aS0 f):=fun ρ d q=>by
 obtain⟨x,h1,h2⟩:=xbm q
 split at h2
 ·split at h2
  ·rename_i c
   obtain⟨n,e1,e2⟩:=Option.map_eq_some_iff.mp h2
   subst e2
   exact B4 (M2 ap3 hg hm ay7 (D4 (h ρ _ h1) E9 he) (he:=he)) fun σ H Q ⟨H0,Hf,s,sl,k⟩ =>
    ⟨H0,Hf,s,sl,fun v H1 Hf1 g1 r=>⟨_,n,by rw[show v=_ from r],e1,c,k _ H1 Hf1 g1 rfl⟩⟩
  ·cases h2
 ·cases h2
end
end G
namespace G
open PySem PySem.Spec PyProof.Rows L2
theorem bN5:typeLookup (.type "list_reverseiterator") "__len__" = pure none:=by rw[typeLookup_type,builtinLookup_eq_fast];kernel_rfl
theorem bu3:typeLookup (.type "list_reverseiterator") "__length_hint__" = pure (some (.builtin "list_reverseiterator.__length_hint__")):=by rw[typeLookup_type,builtinLookup_eq_fast];kernel_rfl
section
variable {P:Program}{w:World}{A:Around}{E:Value->Shared->Prop}{s:Shared}
theorem aE9{Q:List Value->Shared->Prop}{it l:Addr}{items:Array Value}(hh:A.handled=none) (hne:l≠it) (h0:s.heap.IsRevIter it l ((items.size:Int) - 1)) (hl:s.heap.IsList l items) (hz:items.size<=sizeLine)
  (h:∀s' acc,(∀b o,b≠it->s.heap.get? b=some o->s'.heap.get? b=some o)->s'={ s with heap:=s'.heap,toks:=s'.toks }->s.toks<=s'.toks->ItemsOf (fun i v=>items[items.size - 1 - i]? = some v) acc items.size->Q acc.toList s'):wpAny (model P w) A (collect (.ref it)) Q E s:=by
 have W:=(Walks.listRev (prog:=P) (w:=w) (A:=A.in1) hh it l hne items).toS
 have li:it < s.heap.objs.size:=let⟨o,ho,_⟩:=h0;Heap.lt_size ho
 have ll:l < s.heap.objs.size:=let⟨o,ho,_⟩:=hl;Heap.lt_size ho
 obtain⟨S,eS⟩:∃S,S=s.heap.objs.size:=⟨_,rfl⟩
 have hSf:S∉[it,l]:=by
  intro z
  simp only[List.mem_cons,List.not_mem_nil,or_false]at z
  rcases z with z|z
  ·exact Nat.ne_of_gt li (eS.symm.trans z)
  ·exact Nat.ne_of_gt ll (eS.symm.trans z)
 have n1:S≠it:=by rw[eS];exact Nat.ne_of_gt li
 unfold collect
 refine wpAny_bind (wpAny_runValue (codeAny_builtin entry_proto_collect' ?_))
 rw[Around.under_plainId PySem.F.plain_proto_collect _]
 show wpAny _ A.in1 (newList [] >>= fun l=>again (.builtin "list.__iadd__" ⟨[l,.ref it],[]⟩)) _ _ s
 refine wpAny_bind (wpAny_newObj_type (wpAny_pure ⟨plainId_quiet PySem.F.plain_list_iadd _,codeAny_builtin entry_list_iadd' ?_⟩))
 rw[Around.under_plainId PySem.F.plain_list_iadd _,← eS]
 show wpAny _ A.in1 (Builtin.List.listExtendWith (.ref S) (.ref it) (.ref S)) _ _ { s with heap:=s.heap.push { cls:=.type "list", data:=.seq #[] } }
 have hS:(s.heap.push { cls:=.type "list", data:=.seq #[] }).get? S=some { cls:=.type "list", data:=.seq #[] }:=by rw[eS];exact Heap.get?_push_size _ rfl
 have k1:∀b o,s.heap.get? b=some o->(s.heap.push { cls:=.type "list", data:=.seq #[] }).get? b=some o:=fun b o q=>Heap.get?_push_of_some _ q
 generalize s.heap.push { cls:=.type "list", data:=.seq #[] }=h1 at hS k1
 have r1:h1.IsRevIter it l ((items.size:Int) - 1):=h0.at fun o e=>k1 _ _ e
 have hT1:Shared.TypeIs { s with heap:=h1 } (.ref it) "list_reverseiterator" := Heap.IsRevIter.typeIs (s:={ s with heap:=h1 }) r1
 unfold Builtin.List.listExtendWith
 refine wpAny_bind (wpAny_typeOf (T := "list_reverseiterator") hT1 ?_)
 have q1:Builtin.List.listSameRef (.ref S) (.ref it)=false:=by simp[Builtin.List.listSameRef,n1]
 have q2:(Value.type "list_reverseiterator" == Value.type "list")=false:=by decide
 have q3:(Value.type "list_reverseiterator" == Value.type "tuple")=false:=by decide
 simp only[q1,q2,q3,Bool.or_false,Bool.false_eq_true,if_false]
 refine wpAny_bind (wpAny_pyIter_revIter (s:={ s with heap:=h1 }) r1 ?_)
 refine wpAny_bind (wpAny_holding ?_)
 unfold Builtin.List.listLengthHint
 refine wpAny_bind (wpAny_specialOf hT1 bN5 ?_)
 refine wpAny_bind (wpAny_specialOf hT1 bu3 ?_)
 generalize hid:("list_reverseiterator.__length_hint__" : String)=id1
 wp_delta
 rw[show splitId id1=some ("list_reverseiterator", "__length_hint__") from by subst hid;decide +kernel]
 subst hid
 refine wpAny_bind (wpAny_isInstance (T := "list_reverseiterator") (b:=true) hT1 (by rw[isSubtype_type];kernel_rfl) ?_)
 refine wpAny_pure ?_
 rw[if_neg (by decide)]
 refine wpAny_pure ⟨plainId_quiet PySem.F.plain_extend_loop _,codeAny_extend_loopS W hz S hSf _ items.size 0 { s with heap:=h1 } #[] 0 rfl (Nat.zero_le _) ⟨Nat.zero_le _,by simpa using r1,hl.at fun o e=>k1 _ _ e⟩ hS (ItemsOf.nil _) fun s' acc c m e1 e2=>?_⟩
 show wpAny _ A (load S >>= _) _ _ s'
 refine wpAny_bind (wpAny_load e1 (wpAny_pure (h s' acc (fun b o hb e=>m.heap b o ?_ (k1 b o e)) ?_ m.toks e2)))
 ·intro z
  simp only[List.mem_cons,List.not_mem_nil,or_false]at z
  rcases z with z|z
  ·exact Nat.ne_of_lt (Heap.lt_size e) (z.trans eS)
  ·exact hb z
 ·obtain⟨_,g,d,o,_⟩:=m
  obtain⟨a1,a2,a3,a4,a5⟩:=s'
  simp at g d o ⊢
  exact⟨g,d,o⟩
end
section
variable {X:Cx}
noncomputable def aK6(f:DE) (g:Rho->Option (Bool×List D)):DE:=fun ρ=>(f ρ).bind fun s=>(g ρ).bind fun q=>match s,q with
 | .str _,(false,[.str y])=>some (.str y)
 | _,_=>none
theorem bk7{Q:Value->Shared->Prop}{A:Around}{E:Value->Shared->Prop}{P:Program}{w:World}{s:Shared}{it l:Addr}{sep y:Str}{t u:Tok}(hh:A.handled=none) (hne:l≠it) (h0:s.heap.IsRevIter it l 0) (hl:s.heap.IsList l #[.str y u])
  (h:∀h' k,(∀b o,b≠it->s.heap.get? b=some o->h'.get? b=some o)->Q (.str y u) { s with heap:=h',toks:=k }):wpAny (model P w) A (call (.builtin "str.join") [.str sep t,.ref it]) Q E s:=by
 have hT:s.TypeIs (.ref it) "list_reverseiterator" := h0.typeIs
 refine wpAny_call_entry F.slot_str_join (typeIs_str s sep t) F.entry_str_join ?_ (F.args_str_join_2 _ _)
 show wpAny _ A.in1 (typeOf (.ref it) >>= fun ty=>if(ty == .type "list" || ty == .type "tuple")=true then _ else((pyIter (.ref it)).tryCatch _ >>= fun i=>collect i >>= fun items=>joinTail sep items)) _ _ s
 refine wpAny_bind (wpAny_typeOf hT ?_)
 rw[if_neg (by decide)]
 refine wpAny_bind (wpAny_tryCatch (wpAny_pyIter_revIter h0 ?_))
 refine wpAny_bind (aE9 (A:=A.in1) (items:=#[.str y u]) hh hne h0 hl (by show 1<=sizeLine;rw[sizeLine_eq];decide) fun s' acc k1 k2 k3 k4=>?_)
 have e:acc.toList=[.str y u]:=by
  obtain⟨z1,z2⟩:=k4
  have z1:acc.size=1:=z1
  match hA:acc.toList with
  | []=>rw[← Array.length_toList,hA]at z1;cases z1
  | [v] =>
   have:acc[0]? = some v:=by rw[← Array.getElem?_toList,hA];rfl
   have:=z2 0 v this
   cases this;rfl
  | a::b::r=>rw[← Array.length_toList,hA]at z1;simp at z1
 rw[e]
 show wpAny _ _ (rule "str.join.same-object" >>= fun _=>ret (.str y u)) _ _ _
 refine wpAny_bind (wpAny_rule (wpAny_pure ⟨_,rfl,?_⟩))
 rw[k2]
 exact h _ _ k1
theorem bm0(hc:X.calm=true) (gr:Gl X "reversed") (mr:X.mg "reversed" = none) (ho:JE X o f) (h:JQ X e g)
  (hbase:attributeBase o "join" X.env (eval o X.env)=eval o X.env) (hline:(apos.endLine==cpos.line)=true) (hs:starEach [e] X.env=[(false,eval e X.env)]) :
  JE X (.Call (.Attribute o "join" apos) [.Call (.Name "reversed" p1) [e] [] p2] [] cpos) (aK6 f g):=fun ρ d q=>by
 obtain⟨x,e1,q⟩:=xbm q
 obtain⟨y,e2,q⟩:=xbm q
 split at q
 ·rename_i sep y _
  cases q
  intro pins s σ H Q I ⟨H0,Hf,ss,sl,k⟩
  refine wpAny_Call_method_late hbase rfl hline rfl (thn (ho ρ _ e1 pins s σ H (fun v H'=>v=.str sep/\∃Hf',Grow H Hf H' Hf') I ⟨H0,Hf,ss,sl,fun v H1 Hf1 g1 r1=>⟨by cases r1;rfl,Hf1,g1⟩⟩) fun v s1 ⟨x,H1,I1,r1,ex,Hf1,g1⟩=>?_)
  subst ex
  obtain⟨h1,h2⟩:=bc5 (T := "str") I1 r1 rfl
  refine⟨"str", "str.join", F.plainAttrs_str,F.slot_str_join,F.type_str_join,h1,h2,Calls.callWith_builtin rfl (Calls.evalArgs_plain ?_)⟩
  obtain⟨t,rfl⟩:=r1
  refine Calls.spliced_cons (ty1 I1 gr mr rfl (by decide) (by decide) hs ?_)
  refine thn (h ρ _ _ e2 pins s1 σ H1 (fun v H'=>∃Hf',Grow H1 Hf1 H' Hf'/\RQ X.K false [.str y] v H' Hf') I1 ⟨H0,Hf1,g1.sub,sl.grow g1,fun v H2 Hf2 g2 r2=>⟨Hf2,g2,r2⟩⟩) fun u s2 ⟨x,H2,I2,r2,Hf2,g2,l,vs,e3,e4,e5⟩=>?_
  subst e3
  cases r2
  obtain⟨v0,vs',rfl,a1,a2⟩:=e5
  cases a1
  cases a2
  obtain⟨its,b1,b2,_⟩:=I2.list e4
  cases b1 with
  | @cons _ u0 _ us b3 b4 =>
   cases b4
   obtain⟨tu,rfl⟩:=b3
   refine call_reversed_list b2.isList ?_
   have kp:∀b o,s2.heap.get? b=some o->(s2.heap.push (revObj l (((([Value.str y tu]).toArray.size:Nat):Int) - 1))).get? b=some o:=fun b o q=>Heap.get?_push_of_some _ q
   have ll:l < s2.heap.objs.size:=let⟨o,ho,_⟩:=b2.isList;Heap.lt_size ho
   refine Calls.spliced_nil (bk7 (l:=l) (I1.ok.hd hc) (Nat.ne_of_lt ll) ⟨_,Heap.get?_push_size _ rfl,rfl,rfl⟩ (b2.isList.at fun o e=>kp _ _ e) fun h' tk kk=>?_)
   exact⟨.str y,H2,I2.kept fun b o e=>kk b o (Nat.ne_of_lt (Heap.lt_size e)) (kp b o e),⟨_,rfl⟩,k _ H2 Hf2 (g1.trans g2) rfl⟩
 ·cases q
end
end G
namespace G
theorem xg0{α:Type}{a:α}{l:List α}:(a::l)[0]? = some a:=rfl
theorem xg1{α:Type}{a:α}{i:Nat}{l:List α}:(a::l)[i+1]? = l[i]?:=rfl
theorem xw0{α:Type}{a b:α}{l:List α}:(a::l).set 0 b=b::l:=rfl
theorem xw1{α:Type}{a b:α}{i:Nat}{l:List α}:(a::l).set (i+1) b=a::l.set i b:=rfl
theorem xbs{α β:Type}{a:α}{f:α->Option β}:(some a).bind f=f a:=rfl
theorem xms{α β:Type}{a:α}{f:α->β}:(some a).map f=some (f a):=rfl
theorem xca{α:Type}{a:α}{l m:List α}:(a::l)++m=a::(l++m):=rfl
theorem xna{α:Type}{l:List α}:[]++l=l:=rfl
theorem xmc{α β:Type}{f:α->β}{a:α}{l:List α}:(a::l).map f=f a::l.map f:=rfl
theorem xmn{α β:Type}{f:α->β}:[].map f=[]:=rfl
theorem xnf:(!false)=true:=rfl
theorem xnt:(!true)=false:=rfl
theorem xft:(false=true)=False:=by simp
end G
local macro_rules
  | `(‹$x›) => `(some (G.B.val $x))
local macro_rules
  | `(⇑$x) => `(G.dC (PySem.PyData.int $x))
noncomputable section
namespace Sh
open PySem PySem.Spec PyProof.Rows L2 G
def ae8:DS:=(B0 (S2 (tB2 neD (A1 1) ⇑0) (B0 (C3 2 (A6 U7 (A1 0) (A1 1))) (B0 (C3 0 (A1 1)) (C3 1 (A1 2))))) (B6 (A1 0)))
def J1:List D->Option D:=D2 ae8 3
def R8:DS:=(B0 (C3 2 (A2 J1 (A0 (A1 0) (A0 (A1 1) A5)))) (B6 (O3 (A0 (A6 u8 (A1 0) (A1 2)) (A0 (A6 u8 (A1 1) (A1 2)) A5)))))
def ac8:List D->Option D:=D2 R8 3
def R9:DS:=(B6 (A6 leI (A6 X3 (dIx (A8 0) ⇑0) (dIx (A8 1) ⇑1)) (A6 X3 (dIx (A8 1) ⇑0) (dIx (A8 0) ⇑1))))
def Y1:List D->Option D:=D2 R9 2
def aj7:DS:=(B6 (A2 ac8 (A0 (A6 X3 (dIx (A8 0) ⇑0) (dIx (A8 1) ⇑0)) (A0 (A6 X3 (dIx (A8 0) ⇑1) (dIx (A8 1) ⇑1)) A5))))
def bE2:List D->Option D:=D2 aj7 2
def an4:DS:=(B0 (sIf (tB2 eqD (A1 0) (Y3 A5)) (B6 (A6 X3 ⇑7 (A1 1))) G5) (B6 (A6 Y4 (dIx (A8 0) (A6 U7 (A1 1) (S7 (A8 0)))) (A6 X3 ⇑6553 (A6 u8 (A1 1) (S7 (A8 0)))))))
def an8:List D->Option D:=D2 an4 2
def at4:DS:=(B0 (C3 3 (A6 U7 (A6 Y4 (A6 X3 (A6 U7 (A2 an8 (A0 (A1 0) (A0 (A1 1) A5))) ⇑2147483563) ⇑69069) (A6 X3 ⇑104723 (A6 Y4 (A1 1) ⇑1))) ⇑2147483563)) (B0 (C3 3 (A6 U7 (A6 Y4 (A6 X3 (A1 3) (A1 3)) (A6 u8 (A1 3) ⇑3)) ⇑2147483399)) (B6 (A6 U7 (A6 u8 (A6 U7 (A6 Y4 (A6 X3 (A1 3) (A1 3)) (A6 u8 (A1 3) ⇑7)) ⇑2147483647) ⇑11) (A1 2)))))
def A7:List D->Option D:=D2 at4 4
def ac5:DS:=(B0 (C3 2 (A1 0)) (B0 (C3 3 (A1 1)) (B0 (S2 (tB2 gtI (A1 2) ⇑0) (be1 2 3 (A0 (A6 U7 (A1 3) (A1 2)) (A0 (A1 2) A5)))) (B6 (O3 (A0 (A6 u8 (A1 0) (A1 3)) (A0 (A6 u8 (A1 1) (A1 3)) A5)))))))
def W4:List D->Option D:=D2 ac5 4
def at0:DS:=(B6 (A2 W4 (A0 (A6 X3 (dIx (A8 0) ⇑0) (dIx (A8 1) ⇑0)) (A0 (A6 X3 (dIx (A8 0) ⇑1) (dIx (A8 1) ⇑1)) A5))))
def ae9:List D->Option D:=D2 at0 2
def at1:DS:=(B0 (C3 2 (A6 Y4 ⇑1 (A2 A7 (A0 (A1 0) (A0 (A1 1) (A0 ⇑12 A5)))))) (B0 (C3 3 (A2 W4 (A0 (A2 A7 (A0 (A1 0) (A0 (A6 Y4 (A1 1) ⇑1) (A0 (A6 Y4 (A1 2) ⇑1) A5)))) (A0 (A1 2) A5)))) (B6 (dIx (qN (A0 (A1 3) (A0 (A1 3) (A0 (A1 3) (A0 (O3 (A0 ⇑0 (A0 ⇑1 A5))) (A0 (O3 (A0 ⇑1 (A0 ⇑1 A5))) A5)))))) (A2 A7 (A0 (A1 0) (A0 (A6 Y4 (A1 1) ⇑2) (A0 ⇑5 A5))))))))
def G2:List D->Option D:=D2 at1 4
def aF9:DS:=(B0 (C3 2 (A2 G2 (A0 (A1 0) (A0 (A1 1) A5)))) (B6 (A6 Y4 (O3 (A0 (A1 2) A5)) (M3 (qN (C5 1 [2,0,1] (G0 ⇑3) (C4 0) D1 (A2 ae9 (A0 (A1 1) (A0 (A2 G2 (A0 (A1 2) (A0 (A6 Y4 (A6 Y4 (A1 3) ⇑3) (A6 X3 ⇑3 (A1 0))) A5))) A5)))))))))
def Q2:List D->Option D:=D2 aF9 3
def az3:DS:=(B6 (O5 (Z3 "int" (A1 0)) (bp6 (Z3 "bool" (A1 0)))))
def Y0:List D->Option D:=D2 az3 1
def ac6:DS:=(B0 (sIf (U6 (K1 (G9 (Z3 "tuple" (A1 0)))) (U6 (tB2 neD (S7 (A8 0)) ⇑2) (U6 (K1 (G9 (A2 Y0 (A0 (dIx (A8 0) ⇑0) A5)))) (K1 (G9 (A2 Y0 (A0 (dIx (A8 0) ⇑1) A5))))))) (B6 (dC (.bool false))) G5) (B6 (O5 (A6 gtI (dIx (A8 0) ⇑1) ⇑0) (O5 (S8 leI leI ⇑0 (dIx (A8 0) ⇑0) (dIx (A8 0) ⇑1)) (A6 eqD (A2 W4 (A0 (dIx (A8 0) ⇑0) (A0 (dIx (A8 0) ⇑1) A5))) (A1 0))))))
def az4:List D->Option D:=D2 ac6 1
def aL7:DS:=(B6 (O5 (Z3 "int" (A1 0)) (bp6 (Z3 "bool" (A1 0)))))
def J6:List D->Option D:=D2 aL7 1
def an6:DS:=(B0 (sIf (U6 (K1 (G9 (Z3 "tuple" (A1 0)))) (tB2 neD (S7 (A8 0)) ⇑2)) (B6 (dC (.bool false))) G5) (B0 (C3 1 (dIx (A8 0) ⇑0)) (B0 (C3 2 (dIx (A8 0) ⇑1)) (B0 (sIf (U6 (K1 (G9 (A2 J6 (A0 (A1 1) A5)))) (K1 (G9 (A2 J6 (A0 (A1 2) A5))))) (B6 (dC (.bool false))) G5) (B6 (O5 (A6 gtI (A1 2) ⇑0) (O5 (S8 leI leI ⇑0 (A1 1) (A1 2)) (A6 eqD (A2 J1 (A0 (A1 1) (A0 (A1 2) A5))) ⇑1))))))))
def P0:List D->Option D:=D2 an6 3
def at5:DS:=(B0 (sIf (U6 (K1 (G9 (Z3 "tuple" (A1 0)))) (tB2 neD (S7 (A8 0)) ⇑4)) (B6 (dC (.bool false))) G5) (B0 (sIf (K1 (G9 (ap0 (qN (C5 1 [] (J3 (A1 0)) (C4 0) D1 (A2 P0 (A0 (A1 0) A5))))))) (B6 (dC (.bool false))) G5) (B6 (ap0 (qN (C5 1 [0] (J3 (aE6 (A1 0) (K3 ⇑1) Y9)) (C4 0) D1 (A2 Y1 (A0 (A1 0) (A0 (dIx (A8 1) ⇑0) A5)))))))))
def k6:List D->Option D:=D2 at5 1
end Sh
namespace Sh
open PySem PySem.Spec PyProof.Rows L2 G
end Sh
namespace Sh
open PySem PySem.Spec PyProof.Rows L2 G
def ae7:DS:=(B6 (O5 (A2 J6 (A0 (A1 0) A5)) (S8 leI leI ⇑1 (A1 0) ⇑8)))
def W6:List D->Option D:=D2 ae7 1
def x6:DS:=(B0 (sIf (U6 (K1 (G9 (Z3 "tuple" (A1 0)))) (tB2 neD (S7 (A8 0)) ⇑3)) (B6 (dC (.bool false))) G5) (B6 (O5 (A2 W6 (A0 (dIx (A8 0) ⇑0) A5)) (O5 (A2 W6 (A0 (dIx (A8 0) ⇑1) A5)) (Z3 "tuple" (dIx (A8 0) ⇑2))))))
def T2:List D->Option D:=D2 x6 1
def an5:DS:=(B0 (sIf (K1 (G9 (A2 T2 (A0 (A1 0) A5)))) (B6 (dC (.bool false))) G5) (B0 (C3 1 (dIx (A8 0) ⇑2)) (B6 (O5 (A6 eqD (S7 (A8 1)) (A6 E2 (dIx (A8 0) ⇑0) (dIx (A8 0) ⇑1))) (ap0 (qN (C5 1 [] (J3 (A1 1)) (C4 0) D1 (A2 k6 (A0 (A1 0) A5)))))))))
def x9:List D->Option D:=D2 an5 2
def ae6:DS:=(B0 (aq6 4 (C5 1 [0,1] (G0 (A6 E2 (A1 2) (A1 3))) (C4 0) D1 (A2 Q2 (A0 (A1 1) (A0 (A6 A9 (A1 2) (A6 E2 ⇑12 (A1 0))) A5))))) (B0 (sIf (tB2 eqD (A2 A7 (A0 (A1 0) (A0 (A6 A9 (A1 1) ⇑7) (A0 ⇑3 A5)))) ⇑0) (C3 4 (A6 E2 (bp5 (A1 4) Y9 (K3 ⇑1)) (A6 E2 (A1 2) (A1 3)))) G5) (B6 (O3 (A0 (A1 2) (A0 (A1 3) (A0 (M3 (A8 4)) A5)))))))
def W3:List D->Option D:=D2 ae6 5
end Sh
namespace Sh
open PySem PySem.Spec PyProof.Rows L2 G
def ba4:DS:=(B6 (dIx (A8 0) ⇑0))
def O9:List D->Option D:=D2 ba4 1
def aM0:DS:=(B6 (A6 eqD (A2 O9 (A0 (A1 0) A5)) (dC (.str "layer"))))
def J7:List D->Option D:=D2 aM0 1
def ba5:DS:=(B6 (A6 eqD (A2 O9 (A0 (A1 0) A5)) (dC (.str "tone"))))
def k5:List D->Option D:=D2 ba5 1
def aF8:DS:=(B6 (dIx (A8 0) ⇑2))
def F5:List D->Option D:=D2 aF8 1
def ba0:DS:=(B6 (dIx (A8 0) ⇑2))
def j8:List D->Option D:=D2 ba0 1
def ap6:DS:=(B6 (dIx (A8 0) ⇑3))
def E5:List D->Option D:=D2 ap6 1
def aL9:DS:=(B6 (dIx (A8 0) ⇑4))
def G6:List D->Option D:=D2 aL9 1
def ba3:DS:=(B6 (dIx (A8 0) ⇑5))
def W2:List D->Option D:=D2 ba3 1
def bq4:DS:=(B6 (dIx (A8 0) ⇑6))
def g9:List D->Option D:=D2 bq4 1
def ba2:DS:=(B6 (dIx (A8 0) ⇑7))
def W1:List D->Option D:=D2 ba2 1
def aL6:DS:=(B6 (dIx (A8 0) ⇑8))
def O8:List D->Option D:=D2 aL6 1
def ap9:DS:=(B6 (dIx (A8 0) ⇑5))
def F6:List D->Option D:=D2 ap9 1
def at3:DS:=(B0 (C3 3 (A6 eqD (A2 A7 (A0 (A1 0) (A0 (A1 1) (A0 ⇑2 A5)))) ⇑0)) (B0 (L5 4 A5) (B0 (k8 (G0 (A1 2)) (C4 5) (B0 (C3 6 (M4 (dC (.str "")) (qN (C5 1 [0,1,5] (G0 ⇑2) (C4 0) D1 (X8 (dC (.str "abcdefghijklmnopqrstuvwxyz")) (A2 A7 (A0 (A1 1) (A0 (A6 A9 (A6 A9 (A6 A9 (A1 2) ⇑1) (A6 E2 ⇑3 (A1 3))) (A1 0)) (A0 ⇑26 A5))))))))) (B0 (C3 6 (A6 aV6 (aK5 (A1 6) Y9 (K3 (A2 A7 (A0 (A1 0) (A0 (A6 A9 (A6 A9 (A1 1) ⇑3) (A6 E2 ⇑3 (A1 5))) (A0 ⇑3 A5)))))) (dIx (qN (A0 ⇑1 (A0 ⇑2 A5))) (A2 A7 (A0 (A1 0) (A0 (A6 A9 (A6 A9 (A1 1) ⇑2) (A6 E2 ⇑3 (A1 5))) (A0 ⇑2 A5))))))) (V3 4 (dIx (qN (A0 (A6 A9 (A1 6) (X8 (dC (.str "abcdefghijklmn")) (A1 5))) (A0 (A6 A9 (X8 (dC (.str "abcdefghijklmn")) (A1 5)) (A1 6)) A5))) (ai0 (A1 3))))))) (k7 4 (B6 (A1 4))))))
def j9:List D->Option D:=D2 at3 7
def Y6:DS:=(C3 4 (A2 G2 (A0 (A1 0) (A0 (A1 1) A5))))
def Y5:DS:=(C3 5 (A6 gtI (A2 A7 (A0 (A1 0) (A0 (A6 A9 (A1 1) ⇑3) (A0 ⇑6 A5)))) ⇑0))
def P3:DS:=(sIf (tB2 eqD (A2 A7 (A0 (A1 0) (A0 (A6 A9 (A1 1) ⇑4) (A0 ⇑6 A5)))) ⇑0) (B6 (O3 (A0 (dC (.str "tone")) (A0 (A1 2) (A0 (dIx (qN (A0 (dC (.str "turn")) (A0 (dC (.str "grey")) (A0 (dC (.str "round")) A5)))) (A2 A7 (A0 (A1 0) (A0 (A6 A9 (A1 1) ⇑5) (A0 ⇑3 A5))))) (A0 (A1 4) (A0 (A1 5) A5))))))) G5)
def af8:DS:=(C3 6 (dIx (qN (A0 (dC (.str "over")) (A0 (dC (.str "multiply")) (A0 (dC (.str "screen")) (A0 (dC (.str "plus")) (A0 (dC (.str "atop")) (A0 (dC (.str "cut")) A5))))))) (A2 A7 (A0 (A1 0) (A0 (A6 A9 (A1 1) ⇑5) (A0 ⇑6 A5))))))
def T8:DS:=(sIf (tB2 gtI (A2 A7 (A0 (A1 0) (A0 (A6 A9 (A1 1) ⇑6) (A0 ⇑3 A5)))) ⇑0) (C3 6 (A1 3)) G5)
def af7:DS:=(C3 7 (A6 A9 ⇑1 (A2 A7 (A0 (A1 0) (A0 (A6 A9 (A1 1) ⇑7) (A0 ⇑3 A5))))))
def af6:DS:=(C3 8 (A6 A9 ⇑1 (A2 A7 (A0 (A1 0) (A0 (A6 A9 (A1 1) ⇑8) (A0 ⇑3 A5))))))
def af5:DS:=(C3 9 (dC .none))
def T7:DS:=(sIf (tB2 eqD (A2 A7 (A0 (A1 0) (A0 (A6 A9 (A1 1) ⇑9) (A0 ⇑3 A5)))) ⇑0) (C3 9 (M3 (qN (C5 1 [0,1] (G0 (A6 E2 (A1 7) (A1 8))) (C4 0) D1 (A2 G2 (A0 (A1 1) (A0 (A6 A9 (A6 A9 (A1 2) ⇑20) (A6 E2 ⇑3 (A1 0))) A5))))))) G5)
def af4:DS:=(C3 10 (A6 ao0 (A2 A7 (A0 (A1 0) (A0 (A6 A9 (A1 1) ⇑10) (A0 ⇑4 A5)))) ⇑1))
def aa2:DS:=(C3 11 (A6 ao0 (A2 A7 (A0 (A1 0) (A0 (A6 A9 (A1 1) ⇑11) (A0 ⇑4 A5)))) ⇑1))
def R4:DS:=(sIf (tB2 eqD (A2 A7 (A0 (A1 0) (A0 (A6 A9 (A1 1) ⇑12) (A0 ⇑3 A5)))) ⇑0) (av0 (O3 (A0 ⇑3 (A0 ⇑3 (A0 ⇑0 (A0 ⇑0 (A0 (dC .none) A5)))))) (n9 5 (J9 (C4 7) (J9 (C4 8) (J9 (C4 10) (J9 (C4 11) (J9 (C4 9) ag4))))))) G5)
def aa1:DS:=(C3 12 (A2 W3 (A0 (A1 0) (A0 (A6 A9 (A1 1) ⇑50) (A0 (A1 7) (A0 (A1 8) A5))))))
def W7:DS:=(B6 (O3 (A0 (dC (.str "layer")) (A0 (A1 2) (A0 (A1 6) (A0 (A1 4) (A0 (A1 5) (A0 (A1 10) (A0 (A1 11) (A0 (A1 9) (A0 (A1 12) A5)))))))))))
def an3:DS:=(B0 Y6 (B0 Y5 (B0 P3 (B0 af8 (B0 T8 (B0 af7 (B0 af6 (B0 af5 (B0 T7 (B0 af4 (B0 aa2 (B0 R4 (B0 aa1 W7)))))))))))))
def W5:List D->Option D:=D2 an3 13
def at2:DS:=(B0 (C3 4 (dIx (qN (A0 (dC (.str "over")) (A0 (dC (.str "multiply")) (A0 (dC (.str "screen")) (A0 (dC (.str "plus")) A5))))) (A2 A7 (A0 (A1 0) (A0 (A1 1) (A0 ⇑4 A5)))))) (B0 (C3 5 (A2 A7 (A0 (A1 0) (A0 (A6 A9 (A1 1) ⇑1) (A0 (A6 A9 (A1 2) ⇑1) A5))))) (B0 (L5 6 (C5 1 [0,4,3,1] (G0 (A1 5)) (C4 0) D1 (A2 W5 (A0 (A1 1) (A0 (A6 A9 (A6 A9 (A1 4) ⇑20) (A6 E2 ⇑170 (A1 0))) (A0 (dIx (A8 3) (A1 0)) (A0 (A1 2) A5))))))) (B0 (k8 (G0 (A2 A7 (A0 (A1 0) (A0 (A6 A9 (A1 1) ⇑2) (A0 ⇑3 A5))))) (C4 7) (B0 (C3 8 (A2 A7 (A0 (A1 0) (A0 (A6 A9 (A6 A9 (A1 1) ⇑3) (A6 E2 ⇑5 (A1 7))) (A0 (A6 A9 (S7 (A8 6)) ⇑1) A5))))) (B0 (C3 9 (A6 A9 (A1 8) (A2 A7 (A0 (A1 0) (A0 (A6 A9 (A6 A9 (A1 1) ⇑4) (A6 E2 ⇑5 (A1 7))) (A0 ⇑3 A5)))))) (B0 (C3 10 (dIx (qN (A0 (O3 (A0 ⇑1 (A0 ⇑1 A5))) (A0 (A2 G2 (A0 (A1 0) (A0 (A6 A9 (A6 A9 (A1 1) ⇑5) (A6 E2 ⇑5 (A1 7))) A5))) A5))) (A2 A7 (A0 (A1 0) (A0 (A6 A9 (A6 A9 (A1 1) ⇑6) (A6 E2 ⇑5 (A1 7))) (A0 ⇑2 A5)))))) (B0 (C3 11 (dIx (qN (A0 (A1 4) (A0 (dC (.str "atop")) (A0 (A1 4) (A0 (dC (.str "cut")) A5))))) (A2 A7 (A0 (A1 0) (A0 (A6 A9 (A6 A9 (A1 1) ⇑7) (A6 E2 ⇑5 (A1 7))) (A0 ⇑4 A5)))))) (B0 (C3 12 (O3 (A0 (dC (.str "group")) (A0 (dIx (A8 3) (A6 A9 (A1 2) (A1 7))) (A0 (A1 11) (A0 (A1 10) (A0 (A6 gtI (A2 A7 (A0 (A1 0) (A0 (A6 A9 (A6 A9 (A1 1) ⇑14) (A1 7)) (A0 ⇑7 A5)))) ⇑0) A5))))))) (be0 6 (K3 (A1 8)) (K3 (A1 9)) (A0 (A6 A9 (A1 12) (O3 (A0 (M3 (qE (aZ2 (A8 6) (K3 (A1 8)) (K3 (A1 9))))) A5))) A5)))))))) (B6 (M3 (A8 6)))))))
def af0:List D->Option D:=D2 at2 13
def ah1:DS:=(B0 (C3 4 (A6 A9 ⇑1 (A2 A7 (A0 (A1 0) (A0 (A1 1) (A0 ⇑3 A5)))))) (B0 (C3 5 (A6 A9 ⇑1 (A2 A7 (A0 (A1 0) (A0 (A6 A9 (A1 1) ⇑1) (A0 ⇑3 A5)))))) (B6 (O3 (A0 (A1 4) (A0 (A1 5) (A0 (A2 af0 (A0 (A1 0) (A0 (A6 A9 (A1 1) ⇑2) (A0 (A1 2) (A0 (A1 3) A5))))) A5)))))))
def U4:List D->Option D:=D2 ah1 6
end Sh
namespace Sh
open PySem PySem.Spec PyProof.Rows L2 G
def aM1:DS:=(B6 (A6 eqD (A2 O9 (A0 (A1 0) A5)) (dC (.str "group"))))
def F8:List D->Option D:=D2 aM1 1
def ba1:DS:=(B6 (dIx (A8 0) ⇑1))
def M6:List D->Option D:=D2 ba1 1
end Sh
namespace G
open PySem PySem.Spec PyProof.Rows L2
abbrev FnD:=List D->Option D
structure Sg where
 fn:List (Str×FnD×Nat)
 cs:List (Str×D)
 bl:List Str
structure Kx where
 N:List Str
 sc:Scope
 df:Bool
 own:List Nat
 cpt:List Nat
 tx:List Nat
 dx:List Nat
 old:Bool
 fz:List (Nat×List Nat)
 hc:List ((Nat×Nat)×List Nat)
def biS(K:PySem.W.Frag) (n:Nat) (F:List D->Option D):List V->Hp->VK->Prop:=fun vs H Q=>vs.length=n/\∃Hf ds d,B8 Hf H/\Reps K Hf ds vs/\F ds=some d/\∀v H' Hf',Grow H Hf H' Hf'->Rep K Hf' d v->Q v H'
def cc0(x:Str) (F:FnD) (n:Nat):Prop:=0 < n/\x ≠ "__name__" /\ ∃nm,bootBuiltins x=some (.builtin nm)/\∀X:Cx,X.A.units+64 < cLine->T3 X (.builtin nm) (biS X.K n F)
theorem ck2(hb:cc0 x F n) (hu:X.A.units+64 < cLine) (hg:Gl X x) (hm:X.mg x=none) (ha:JA X (e::es) g) (hn:(e::es).length=n) (hdb:(x==("__debug__" : Str))=false)
  (he:starEach (e::es) X.env=(false,eval e X.env)::starEach es X.env) (hpl:(backTo pos (starEach es X.env)).any (·.1)=false):JE X (.Call (.Name x p) (e::es) [] pos) (A2 F g):=fun ρ d q=>by
 obtain⟨ds,h1,h2⟩:=Option.bind_eq_some_iff.mp q
 obtain⟨_,hnn,nm,hv,hc⟩:=hb
 refine B4 (P5 (hc X hu) hg hm hv (ha.run ρ ds h1) hnn hdb he hpl) fun σ H Q ⟨H0,Hf,s,sl,kk⟩=>?_
 exact⟨H0,Hf,s,sl,fun vs H1 Hf1 g1 r1=>⟨by rw[r1.length,ha.len ρ ds h1,hn],Hf1,ds,d,g1.sub,r1,h2,fun v H2 Hf2 g2 r2=>kk v H2 Hf2 (g1.trans g2) r2⟩⟩
def cm9(X:Cx) (x:Str) (F:FnD) (n:Nat):Prop:=(∃(k:Nat) (f:Addr) (fd:FuncData) (ps:List Str),FnOk X.prog X.w X.K X.mg X.base CX0 k f fd ps (spF X.K n F)/\Room k X.A/\X.mg x=some (.ref f)/\PySem.W.keepIn X.K (.ref f)=true/\F9 X.K fd ps [])\/(X.mg x=none/\cc0 x F n)
structure Fit (S:Sg) (c:Kx) (X:Cx):Prop where
 N:X.N=c.N
 sc:X.env.scope=c.sc
 nd:c.N.Nodup
 calm:X.calm=true
 xe:X.xe=fun _ _=>False
 units:X.A.units+64 < cLine
 df:c.df=true->(∀x,X.fn x=true)/\c.sc.kind=.function
 fns:∀x F n,S.fn.lookup x=some (F,n)->cm9 X x F n
 css:∀x d,S.cs.lookup x=some d->∃u,aF7 X.K d u/\X.mg x=some u
 bls:∀x,S.bl.contains x=true->X.mg x=none
def pl:Expr->Bool
 | .Starred ..=>false
 | .Slice ..=>false
 | .Set ..=>false
 | _=>true
def bh9:Expr->Bool
 | .Call ..=>false
 | _=>true
def isC:Expr->Bool
 | .ListComp ..=>true
 | .SetComp ..=>true
 | .DictComp ..=>true
 | _=>false
def plT:Expr->Bool
 | .UnaryOp ..=>false
 | .BoolOp ..=>false
 | .IfExp ..=>false
 | .Compare ..=>false
 | _=>true
def S4(x:Str):List Str->Option Nat
 | []=>none
 | y::r=>if y==x then some 0 else(S4 x r).map (·+1)
theorem aC7:∀{l:List Str}{i:Nat},S4 x l=some i->l[i]? = some x
 | [],i,h=>by cases h
 | y::r,i,h=>by
  unfold S4 at h
  split at h
  ·rename_i e
   cases h
   simp only[beq_iff_eq]at e
   subst e;rfl
  ·obtain⟨j,h1,h2⟩:=Option.map_eq_some_iff.mp h
   subst h2
   simpa using aC7 h1
def t8:List Str->Bool
 | []=>true
 | x::r=>!(r.contains x)&&t8 r
theorem i7:∀{l:List Str},t8 l=true->l.Nodup
 | [],_=>List.nodup_nil
 | x::r,h=>by
  unfold t8 at h
  simp only[Bool.and_eq_true,Bool.not_eq_true']at h
  refine List.nodup_cons.mpr ⟨fun z=>?_,i7 h.2⟩
  have:=h.1
  rw[List.contains_iff_mem.mpr z]at this
  cases this
def ah3(sc:Scope) (x:Str):Bool:=(match sc.names.lookup x with|some .local=>true|some .cell=>true|some .free=>true|_=>false) && !(x==("__debug__" : Str)) && !(x==("__classdict__" : Str))
def aI5(c:Kx) (x:Str):Bool:=(match c.sc.names.lookup x with|some .local=>true|some .cell=>c.df|_=>false)
def aD1(sc:Scope) (x:Str):Bool:=(match sc.names.lookup x with|some .globalImplicit=>true|_=>false) && !(x==("__debug__" : Str))
def biB(S:Sg) (c:Kx) (w x:Str):Bool:=x==w&&S.bl.contains w&&aD1 c.sc w
section
variable {X:Cx}{S:Sg}{c:Kx}
theorem P1(F:Fit S c X) (h:ah3 c.sc x=true):Vis X.env.scope x/\(x==("__debug__" : Str))=false/\(x==("__classdict__" : Str))=false:=by
 unfold ah3 at h
 simp only[Bool.and_eq_true,Bool.not_eq_true']at h
 obtain⟨⟨h1,h2⟩,h3⟩:=h
 refine⟨?_,h2,h3⟩
 rw[F.sc]
 unfold Vis
 split at h1
 ·rename_i e;exact .inl e
 ·rename_i e;exact .inr (.inl e)
 ·rename_i e;exact .inr (.inr e)
 ·cases h1
theorem aj1(F:Fit S c X) (h:aI5 c x=true):L2.Loc X.env.scope x/\(X.fn x=true\/X.env.scope.names.lookup x=some .local):=by
 unfold aI5 at h
 rw[F.sc]
 unfold L2.Loc
 split at h
 ·rename_i e;exact⟨.inl e,.inr e⟩
 ·rename_i e;exact⟨.inr e,.inl ((F.df h).1 x)⟩
 ·cases h
theorem i9(F:Fit S c X) (h:aD1 c.sc x=true):Gl X x/\(x==("__debug__" : Str))=false:=by
 unfold aD1 at h
 simp only[Bool.and_eq_true,Bool.not_eq_true']at h
 refine⟨?_,h.2⟩
 unfold Gl Env.kindOf
 rw[F.sc]
 have h1:=h.1
 split at h1
 ·rename_i e;exact e
 ·cases h1
theorem Q6(F:Fit S c X) (h:biB S c w x=true):x=w/\Gl X w/\X.mg w=none:=by
 unfold biB at h
 simp only[Bool.and_eq_true,beq_iff_eq]at h
 exact⟨h.1.1,(i9 F h.2).1,F.bls _ h.1.2⟩
theorem E3(h:pl e=true) (es:List Expr) (env:Env):starEach (e::es) env=(false,eval e env)::starEach es env:=by
 cases e<;>first|rfl|cases h
theorem bf8(h:pl e=true):j4 e:=by
 intro o i
 cases e<;>first|rfl|cases h
theorem ai6(h:pl e=true) (op:CmpOp):behindInMarks op e=false:=by
 cases e<;>first|rfl|cases h
theorem ai7(h:pl e=true) (env:Env) (x:Value):foldedSetIterable e env x=pure x:=by
 cases e<;>first|rfl|cases h
theorem P7(h:bh9 o=true) (attr:Str) (env:Env) (t:Sem Value):attributeBase o attr env t=t:=by
 cases o<;>first|rfl|cases h
theorem P8(h:isC e=false) (t:Option Expr) (l:Nat) (env:Env):swapsWith e t l env=pure false:=by
 cases e<;>first|rfl|cases h
theorem bf9(h:plT e=true) (env:Env) (whole:Sem Value):isTrue e env whole=(do let v ← whole;standAt e.pos;holding [v] (truthy v)):=by
 cases e<;>first|rfl|cases h
end
end G
namespace G
open PySem PySem.Spec PyProof.Rows L2
abbrev DA:=Rho->Option (List D)
abbrev DQ:=Rho->Option (Bool×List D)
abbrev DT:=Rho->Option Bool
abbrev DG:=D->Rho->Option Rho
def dNo:DE:=fun _=>none
def aNo:DA:=fun _=>none
def qNo:DQ:=fun _=>none
def tNo:DT:=fun _=>none
def gNo:DG:=fun _ _=>none
structure Ev where
 e:Kx->Expr->DE
 q:Kx->Expr->DQ
 n:Kx->Expr->DA
 t:Kx->Expr->DT
 g:Kx->Expr->DG
 b:Kx->List Stmt->DS
def aK8:CmpOp->D->D->Option D
 | .Lt=>ltI | .LtE=>leI | .Gt=>gtI | .GtE=>geI | .Eq=>eqD | .NotEq=>neD | .Is=>isB | .IsNot=>aV2 | .In=>inD false | .NotIn=>inD true
def evA(f:Expr->DE):List Expr->DA
 | []=>A5
 | e::es=>if pl e then A0 (f e) (evA f es) else aNo
def bC7(f:Expr->DE) (op:BoolOp):List Expr->DE
 | []=>dNo
 | [a]=>f a
 | a::b::r=>match op with
  | .And=>O5 (f a) (bC7 f op (b::r))
  | .Or=>dNo
def bo5(f:Expr->DT) (op:BoolOp):List Expr->DT
 | []=>tNo
 | [a]=>f a
 | a::b::r=>match op with
  | .And=>bd1 (f a) (bo5 f op (b::r))
  | .Or=>U6 (f a) (bo5 f op (b::r))
def evO(f:Expr->DE):Option Expr->Rho->Option (Option Int)
 | none=>Y9
 | some e=>K3 (f e)
def bC6(f:Expr->DG):List Expr->List D->Rho->Option Rho
 | []=>ag4
 | e::es=>J9 (f e) (bC6 f es)
def bo3(f:Expr->DT):List Expr->DT
 | []=>D1
 | [t]=>f t
 | _=>tNo
def L1:Expr->List Str
 | .Name x _=>[x]
 | .Tuple es _ _=>es.filterMap fun | .Name x _=>some x|_=>none
 | _=>[]
def rl(scope sc:Scope):Scope:={ scope with names:=scope.names.map fun(n,k)=>if(k == .free&&sc.kind == .function&&sc.names.lookup n==some .cell) then(n,.cell) else(n,k) }
def aJ0(n:Nat) (caps l:List Nat):List Nat:=(List.range caps.length).filterMap fun i=>match caps[i]? with|some j=>if l.contains j then some (n+i) else none|none=>none
def cf6(c:Kx) (j:Nat):Str:=(c.N[j]?).getD ""
def inner(c:Kx) (tn:List Str) (caps:List Nat) (scope:Scope):Kx :=
 { N:=tn++caps.map (cf6 c),sc:=rl scope c.sc,df:=false,own:=aJ0 tn.length caps c.own,cpt:=[],tx:=aJ0 tn.length caps c.tx,dx:=aJ0 tn.length caps c.dx,old:=c.old,fz:=[],hc:=c.hc }
def isList:Expr->Bool
 | .List ..=>true
 | .ListComp ..=>true
 | _=>false
def i8(c:Kx) (l:List Nat):Expr->Bool
 | .Name x _=>(match S4 x c.N with|some i=>l.contains i|none=>false)
 | _=>false
def bZ6:Expr->Bool
 | .Constant (.str _) _ _=>true
 | _=>false
def ce2(S:Sg) (c:Kx):Expr->Bool
 | .Constant (.str _) _ _=>true
 | .Name x _=>(match S4 x c.N with|some _=>false|none=>(match S.cs.lookup x with|some (.str _)=>true|_=>false))
 | _=>false
def opW(S:Sg) (c:Kx) (op:CmpOp) (b:Expr):D->D->Option D:=if ce2 S c b then(match op with
 | .In=>inS false
 | .NotIn=>inS true
 | _=>aK8 op) else aK8 op
def aD0:Expr->Bool
 | .Tuple ..=>true
 | _=>false
def bM3(x:Str):Option String:=if x == "int" then some "int" else if x == "bool" then some "bool" else if x == "str" then some "str" else if x == "tuple" then some "tuple" else if x == "list" then some "list" else none
section
variable (S:Sg) (r:Ev)
def evI(c:Kx) (tg it:Expr):DA:=match it with
 | .Call (.Name x _) [a] [] _=>if biB S c "range" x&&pl a then G0 (r.e c a) else J3 (r.e c it)
 | _=>if i8 c c.tx it then aW8 (r.e c it) else J3 (r.e c it)
def evC(c:Kx) (ex:Expr):DA:=match ex with
 | .ListComp elt [⟨tgt,iter,ifs,0⟩] scope pos =>
  let tn:=L1 tgt
  let caps:=(c.hc.lookup (pos.line,pos.col)).getD []
  let c':=inner c tn caps scope
  if ab8 c.N c'.N tn.length caps c.sc scope&&t8 c'.N&&pl iter then C5 tn.length caps (evI S r c tgt iter) (r.g c' tgt) (bo3 (r.t c') ifs) (r.e c' elt) else aNo
 | _=>aNo
def aG1(c:Kx) (x:Str) (a:Expr):DE :=
 if !(pl a) then dNo
 else if biB S c "len" x then(match a with
  | .Call (.Name y _) [e] [] _=>if biB S c "set" y&&pl e then aj5 (r.q c e) else S7 (r.q c a)
  | _=>if i8 c c.tx a then ar9 (r.e c a) else S7 (r.q c a))
 else if biB S c "tuple" x then M3 (r.q c a)
 else if biB S c "all" x then ap0 (r.q c a)
 else if biB S c "int" x then(if i8 c c.tx a then aS0 (r.e c a) else ai0 (r.e c a))
 else if biB S c "str" x then O4 (r.e c a)
 else dNo
def aG0(c:Kx) (x:Str) (a b:Expr):DE :=
 if !(pl a) then dNo
 else if biB S c "isinstance" x then(match b with
  | .Name y _=>(match bM3 y with
   | some T=>if biB S c y y then Z3 T (r.e c a) else dNo
   | none=>dNo)
  | _=>dNo)
 else dNo
def ba9(c:Kx) (x:Str) (args:List Expr) (ex:Expr):DE:=match S.fn.lookup x with
 | some (F,n)=>if aD1 c.sc x&&args.length==n&&args.all pl then A2 F (evA (r.e c) args) else dNo
 | none=>match args with
  | [a]=>if biB S c "list" x then Y3 (r.n c ex) else aG1 S r c x a
  | [a,b]=>aG0 S r c x a b
  | _=>dNo
def bN2:Expr->Option (Option Expr×Option Expr×Option Expr)
 | .Slice lo hi st _=>some (lo,hi,st)
 | _=>none
def nmP:Expr->Option (Str×Pos)
 | .Name x p=>some (x,p)
 | _=>none
def cd6:List Expr->Option ((Str×Pos)×Str×Pos)
 | [a,b]=>(nmP a).bind fun x=>(nmP b).map fun y=>(x,y)
 | _=>none
def cd5:Expr->Option (Expr×Expr)
 | .Tuple es _ _=>(match es with
  | [a,b]=>some (a,b)
  | _=>none)
 | _=>none
def bI7(c:Kx) (a i:Expr):DE:=match bN2 i with
 | some t=>(match t.2.2 with
  | none =>
   if c.old then aE6 (r.e c a) (evO (r.e c) t.1) (evO (r.e c) t.2.1)
   else if i8 c c.tx a then aK5 (r.e c a) (evO (r.e c) t.1) (evO (r.e c) t.2.1)
   else if i8 c c.own a then aZ2 (r.q c a) (evO (r.e c) t.1) (evO (r.e c) t.2.1)
   else bp5 (r.e c a) (evO (r.e c) t.1) (evO (r.e c) t.2.1)
  | some _=>dNo)
 | none=>if pl i then(if bZ6 a then X8 (r.e c a) (r.e c i) else dIx (r.q c a) (r.e c i)) else dNo
def xCn(k:Const):DE:=match k with
 | .none=>dC .none
 | .bool b=>dC (.bool b)
 | .int i=>dC (.int i)
 | .str x=>dC (.str x)
 | _=>dNo
def bJ5(c:Kx) (a:Expr) (op:Operator) (b:Expr):DE:=match op with
 | .Add=>if c.old && !(isList a || isList b) then A6 Y4 (r.e c a) (r.e c b) else A6 A9 (r.e c a) (r.e c b)
 | .Sub=>A6 ao0 (r.e c a) (r.e c b)
 | .Mult=>if c.old then A6 X3 (r.e c a) (r.e c b) else(match a with
  | .Subscript v _ _=>if i8 c c.tx v then A6 aV6 (r.e c a) (r.e c b) else A6 E2 (r.e c a) (r.e c b)
  | _=>A6 E2 (r.e c a) (r.e c b))
 | .FloorDiv=>A6 u8 (r.e c a) (r.e c b)
 | .Mod=>A6 U7 (r.e c a) (r.e c b)
 | .Pow=>A6 bf6 (r.e c a) (r.e c b)
 | _=>dNo
def xUn(c:Kx) (op:UnaryOp) (a:Expr):DE:=match op with
 | .USub=>bp7 (r.e c a)
 | .Not=>bp6 (r.e c a)
 | _=>dNo
def bJ3(c:Kx) (a:Expr) (ops:List CmpOp) (bs:List Expr):DE:=match ops,bs with
 | [op],[b]=>if pl b then A6 (opW S c op b) (r.e c a) (r.e c b) else dNo
 | [op,op'],[b,d]=>if pl d then S8 (aK8 op) (aK8 op') (r.e c a) (r.e c b) (r.e c d) else dNo
 | _,_=>dNo
def rvA(c:Kx):Expr->Option Expr
 | .Call (.Name x _) [e] [] _=>if biB S c "reversed" x&&pl e then some e else none
 | _=>none
def xTx(c:Kx) (o:Expr) (m:Str) (a:Expr):DE :=
 if m == "join" then(match rvA S c a with
  | some e=>aK6 (r.e c o) (r.q c e)
  | none=>M4 (r.e c o) (r.q c a))
 else if m == "split" then dTx txS (r.e c o) (r.e c a)
 else if m == "partition" then dTx txP (r.e c o) (r.e c a)
 else if m == "startswith" then dTx txB (r.e c o) (r.e c a)
 else dNo
def bI9(c:Kx) (o:Expr) (m:Str) (apos cpos:Pos) (args:List Expr):DE:=match args with
 | [a]=>if bh9 o&&apos.endLine==cpos.line&&pl a then xTx S r c o m a else dNo
 | _=>dNo
def xCl(c:Kx) (f:Expr) (args:List Expr) (kw:List Keyword) (pos:Pos):DE:=match kw with
 | []=>(match f with
  | .Name x p=>ba9 S r c x args (.Call (.Name x p) args [] pos)
  | .Attribute o m apos=>bI9 S r c o m apos pos args
  | _=>dNo)
 | _=>dNo
def xDs(ks:List (Option Expr)) (vs:List Expr):DE:=dNo
def xE(c:Kx) (ex:Expr):DE:=match ex with
 | .Constant k _ _=>xCn k
 | .Name x _=>(match S4 x c.N with
  | some i=>if ah3 c.sc x then A1 i else dNo
  | none=>(match S.cs.lookup x with
   | some d=>if aD1 c.sc x then dC d else dNo
   | none=>dNo))
 | .Tuple es _ _=>if es.length<=1000 then O3 (evA (r.e c) es) else dNo
 | .List _ _=>Y3 (r.n c ex)
 | .ListComp _ _ _ _=>Y3 (r.n c ex)
 | .BinOp a op b _=>bJ5 r c a op b
 | .UnaryOp op a _=>xUn r c op a
 | .Compare a ops bs _=>bJ3 S r c a ops bs
 | .BoolOp op vs _=>bC7 (r.e c) op vs
 | .IfExp t a b _=>ae4 (r.t c t) (r.e c a) (r.e c b)
 | .Subscript a i _=>bI7 r c a i
 | .Call f args kw pos=>xCl S r c f args kw pos
 | .Dict ks vs _=>xDs ks vs
 | _=>dNo
def cq3(c:Kx) (f:Expr) (as:List Expr) (kw:List Keyword):Bool:=match f with
 | .Name x _=>as.length==1&&kw.isEmpty&&biB S c "list" x
 | _=>false
def xQ(c:Kx) (ex:Expr):DQ:=match ex with
 | .Name x _=>(match S4 x c.N with
  | some i=>if ah3 c.sc x then A8 i else qNo
  | none=>qE (r.e c ex))
 | .List _ _=>qN (r.n c ex)
 | .ListComp _ _ _ _=>qN (r.n c ex)
 | .Call f as kw _=>if cq3 S c f as kw then qN (r.n c ex) else qE (r.e c ex)
 | _=>qE (r.e c ex)
def xNl(c:Kx) (f:Expr) (as:List Expr) (kw:List Keyword):DA:=match f with
 | .Name x _=>(match as,kw with
  | [a],[]=>if biB S c "list" x&&pl a then(fun ρ=>(r.q c a ρ).map fun q=>q.2) else aNo
  | _,_=>aNo)
 | _=>aNo
def xN(c:Kx) (ex:Expr):DA:=match ex with
 | .List es _=>if es.length<=1000 then evA (r.e c) es else aNo
 | .ListComp _ _ _ _=>evC S r c ex
 | .Call f as kw _=>xNl S r c f as kw
 | .BinOp a op b _=>(match op with
  | .Add=>ad5 (r.q c a) (r.q c b)
  | _=>aNo)
 | _=>aNo
def bE5(c:Kx) (a:Expr) (ops:List CmpOp) (bs:List Expr):DT:=match ops,bs with
 | [op],[b]=>if pl b then tB2 (opW S c op b) (r.e c a) (r.e c b) else tNo
 | [op,op'],[b,d]=>if pl d then aG9 (S8 (aK8 op) (aK8 op') (r.e c a) (r.e c b) (r.e c d)) else tNo
 | _,_=>tNo
def cn4(c:Kx) (op:UnaryOp) (a:Expr):DT:=match op with
 | .Not=>K1 (r.t c a)
 | _=>tNo
def xT(c:Kx) (ex:Expr):DT:=match ex with
 | .Compare a ops bs _=>bE5 S r c a ops bs
 | .BoolOp op vs _=>bo5 (r.t c) op vs
 | .UnaryOp op a _=>cn4 r c op a
 | _=>if plT ex then G9 (r.e c ex) else tNo
def xG(c:Kx) (ex:Expr):DG:=match ex with
 | .Name x _=>(match S4 x c.N with
  | some i=>if aI5 c x then C4 i else gNo
  | none=>gNo)
 | .Tuple es _ _=>if es.all pl then n9 es.length (bC6 (r.g c) es) else gNo
 | _=>gNo
def ch0(c:Kx) (x y:Str) (px py:Pos) (a b:Expr):Bool :=
 c.df&&pl a&&pl b && !(x==y)&&px.line==py.line&&c.sc.names.lookup x==some .local&&c.sc.names.lookup y==some .local && !(([a,b]:List Expr).all (foldedForSure 8)) && !(([a,b]:List Expr).all (constantsAlone 8))
def bJ6(c:Kx) (tg v:Expr) (es:List Expr):DS:=match cd6 es with
 | some ((x,px),(y,py))=>if aD0 v then(match cd5 v with
  | some (a,b)=>(match S4 x c.N with
   | some i=>(match S4 y c.N with
    | some j=>if ch0 c x y px py a b then be1 i j (evA (r.e c) [a,b]) else D5
    | none=>D5)
   | none=>D5)
  | none=>D5) else av0 (r.e c v) (r.g c tg)
 | none=>if aD0 v&&(es.length==2 || es.length==3) then D5 else av0 (r.e c v) (r.g c tg)
def bJ8(c:Kx) (x:Str) (p':Pos) (v:Expr):DS:=match S4 x c.N with
 | none=>D5
 | some i=>if !(aI5 c x) then D5 else(match v with
  | .ListComp _ _ sc pv=>if c.sc.names.lookup x==some .local then
    (if c.df&&p'.line==pv.line && !(sc.names.any fun(n,k)=>n==x&&(k == .local || k == .cell)) then(if c.own.contains i then L5 i (evC S r c v) else aq6 i (evC S r c v)) else D5)
   else C3 i (r.e c v)
  | _=>if isC v then D5 else if c.own.contains i then L5 i (r.n c v) else C3 i (r.e c v))
def bJ7(c:Kx) (a i v:Expr):DS:=match nmP a with
 | none=>D5
 | some x=>(match bN2 i with
  | none=>D5
  | some t=>if t.2.2.isSome then D5 else(match S4 x.1 c.N with
   | none=>D5
   | some i=>if ah3 c.sc x.1 && !(isC v) then be0 i (evO (r.e c) t.1) (evO (r.e c) t.2.1) (r.n c v) else D5))
def cc8(c:Kx) (tg v:Expr) (p:Pos):DS:=match tg with
 | .Name x p'=>bJ8 S r c x p' v
 | .Subscript a i _=>bJ7 r c a i v
 | .Tuple es _ _=>bJ6 r c tg v es
 | _=>D5
def bI8(c:Kx) (x m:Str) (e:Expr):DS:=match S4 x c.N with
 | none=>D5
 | some i=>if ah3 c.sc x&&pl e then(if m == "append" then V3 i (r.e c e) else if m == "extend" then au8 i (r.e c e) else D5) else D5
def xEx(c:Kx) (e:Expr):DS:=match e with
 | .Call f args kw cpos=>(match f with
  | .Attribute o m apos=>(match o with
   | .Name x _=>(match args,kw with
    | [e],[]=>if apos.endLine==cpos.line then bI8 r c x m e else D5
    | _,_=>D5)
   | _=>D5)
  | _=>D5)
 | _=>D5
def cn5(c:Kx):Option Expr->DS
 | some e=>B6 (r.e c e)
 | none=>D5
def xWh(c:Kx) (t:Expr) (a:List Stmt):List Stmt->DS
 | []=>S2 (r.t c t) (r.b c a)
 | _=>D5
def xFo(c:Kx) (tg it:Expr) (a:List Stmt):List Stmt->DS
 | []=>if pl it then k8 (evI S r c tg it) (r.g c tg) (r.b c a) else D5
 | _=>D5
def xAs(c:Kx) (v:Expr) (p:Pos):List Expr->DS
 | [tg]=>cc8 S r c tg v p
 | _=>D5
def xS0(c:Kx) (st:Stmt):DS:=match st with
 | .Return o _=>cn5 r c o
 | .If t a b _=>sIf (r.t c t) (r.b c a) (r.b c b)
 | .While t a o _=>xWh r c t a o
 | .For tg it a o _=>xFo S r c tg it a o
 | .Assign ts v p=>xAs S r c v p ts
 | .Expr e _=>xEx r c e
 | .Continue _=>bF9
 | .Break _=>fun ρ=>some (.bk ρ)
 | .Pass _=>G5
 | _=>D5
def bS8:Stmt->Nat
 | .Return _ p=>p.line
 | .If _ _ _ p=>p.line
 | .While _ _ _ p=>p.line
 | .For _ _ _ _ p=>p.line
 | .Assign _ _ p=>p.line
 | .Expr _ p=>p.line
 | _=>0
def fzW(g:DS):Option (List Nat)->DS
 | none=>g
 | some l=>l.foldl (fun g i=>k7 i g) g
def xS(c:Kx) (st:Stmt):DS:=fzW (xS0 S r c st) (c.fz.lookup (bS8 st))
def evB(f:Stmt->DS):List Stmt->DS
 | []=>G5
 | [s]=>f s
 | s::t::N5=>B0 (f s) (evB f (t::N5))
def step:Ev:=⟨xE S r,xQ S r,xN S r,xT S r,xG r,fun c=>evB (xS S r c)⟩
end
def ev(S:Sg):Nat->Ev
 | 0=>⟨fun _ _=>dNo,fun _ _=>qNo,fun _ _=>aNo,fun _ _=>tNo,fun _ _=>gNo,fun _ _=>D5⟩
 | n+1=>step S (ev S n)
end G
namespace Sh
open PySem PySem.Spec PyProof.Rows L2 G
def at6:DS:=(B6 (O5 (Z3 "str" (A1 0)) (O5 (S8 leI leI ⇑1 (ar9 (A1 0)) ⇑6) (ap0 (qN (C5 1 [] (aW8 (A1 0)) (C4 0) D1 (A6 (inS false) (A1 0) (dC (.str "abcdefghijklmnopqrstuvwxyz")))))))))
def af1:List D->Option D:=D2 at6 1
def aL8:DS:=(B6 (Z3 "bool" (A1 0)))
def x8:List D->Option D:=D2 aL8 1
def ah2:DS:=(B6 (O5 (A2 J6 (A0 (A1 0) A5)) (S8 leI leI (bp7 ⇑9) (A1 0) ⇑9)))
def U5:List D->Option D:=D2 ah2 1
def at7:DS:=(B0 (sIf (tB2 isB (A1 0) (dC .none)) (B6 (dC (.bool true))) G5) (B0 (sIf (U6 (K1 (G9 (Z3 "tuple" (A1 0)))) (tB2 neD (S7 (A8 0)) (S7 (qE (dIx (A8 1) ⇑2))))) (B6 (dC (.bool false))) G5) (B6 (ap0 (qN (C5 1 [] (J3 (A1 0)) (C4 0) D1 (A2 P0 (A0 (A1 0) A5))))))))
def af2:List D->Option D:=D2 at7 2
def R3:DS:=(B0 (sIf (U6 (tB2 neD (S7 (A8 0)) ⇑9) (U6 (tB2 (inD true) (A2 F5 (A0 (A1 0) A5)) (dC (.tuple [(.str "over"),(.str "multiply"),(.str "screen"),(.str "plus"),(.str "atop"),(.str "cut")]))) (K1 (G9 (A2 x9 (A0 (A2 O8 (A0 (A1 0) A5)) A5)))))) (B6 (dC (.bool false))) G5) (B6 (O5 (A2 U5 (A0 (A2 W2 (A0 (A1 0) A5)) A5)) (O5 (A2 U5 (A0 (A2 g9 (A0 (A1 0) A5)) A5)) (A2 af2 (A0 (A2 W1 (A0 (A1 0) A5)) (A0 (A2 O8 (A0 (A1 0) A5)) A5)))))))
def G8:List D->Option D:=D2 R3 1
def L4(self:Nat->List D->Option D):DS:=(B0 (sIf (U6 (tB2 neD (S7 (A8 0)) ⇑6) (U6 (tB2 (inD true) (A2 F5 (A0 (A1 0) A5)) (dC (.tuple [(.str "over"),(.str "multiply"),(.str "screen"),(.str "plus"),(.str "atop"),(.str "cut")]))) (tB2 eqD (A1 1) ⇑0))) (B6 (dC (.bool false))) G5) (B6 (A2 (self 2) (A0 (A2 F6 (A0 (A1 0) A5)) (A0 (A6 ao0 (A1 1) ⇑1) A5)))))
def J8(self:Nat->List D->Option D):DS:=(B0 (sIf (U6 (K1 (G9 (Z3 "tuple" (A1 0)))) (tB2 ltI (S7 (A8 0)) ⇑5)) (B6 (dC (.bool false))) G5) (B0 (sIf (U6 (K1 (G9 (A2 af1 (A0 (A2 M6 (A0 (A1 0) A5)) A5)))) (U6 (K1 (G9 (A2 P0 (A0 (A2 E5 (A0 (A1 0) A5)) A5)))) (K1 (G9 (A2 x8 (A0 (A2 G6 (A0 (A1 0) A5)) A5)))))) (B6 (dC (.bool false))) G5) (B0 (sIf (G9 (A2 J7 (A0 (A1 0) A5))) (B6 (A2 G8 (A0 (A1 0) A5))) G5) (B0 (sIf (G9 (A2 F8 (A0 (A1 0) A5))) (B6 (A2 (self 0) (A0 (A1 0) (A0 (A1 1) A5)))) G5) (B6 (O5 (A2 k5 (A0 (A1 0) A5)) (O5 (A6 eqD (S7 (A8 0)) ⇑5) (A6 (inD false) (A2 j8 (A0 (A1 0) A5)) (dC (.tuple [(.str "turn"),(.str "grey"),(.str "round")]))))))))))
def g8(self:Nat->List D->Option D):DS:=(B6 (O5 (Z3 "tuple" (A1 0)) (ap0 (qN (C5 1 [1] (J3 (A1 0)) (C4 0) D1 (A2 (self 1) (A0 (A1 0) (A0 (A1 1) A5))))))))
def A4:Nat->Nat->List D->Option D
 | 0=>fun _ _=>none
 | k+1=>fun i=>match i with
  | 0=>D2 (L4 (A4 k)) 2
  | 1=>D2 (J8 (A4 k)) 2
  | 2=>D2 (g8 (A4 k)) 2
  | _=>fun _=>none
def m8(k:Nat):List D->Option D:=A4 k 0
def Q8(k:Nat):List D->Option D:=A4 k 1
def Q3(k:Nat):List D->Option D:=A4 k 2
def o8(self:List D->Option D):DS:=(B0 (L5 1 A5) (B0 (k8 (J3 (A1 0)) (C4 2) (B0 (V3 1 (A2 M6 (A0 (A1 2) A5))) (sIf (G9 (A2 F8 (A0 (A1 2) A5))) (au8 1 (A2 self (A0 (A2 F6 (A0 (A1 2) A5)) A5))) G5))) (k7 1 (B6 (A1 1)))))
def E6:Nat->List D->Option D
 | 0=>fun _=>none
 | k+1=>D2 (o8 (E6 k)) 3
def T0:DS:=(B0 (C3 1 (A2 (E6 12) (A0 (A1 0) A5))) (B6 (A6 eqD (aj5 (A8 1)) (S7 (A8 1)))))
def M0:List D->Option D:=D2 T0 2
def ac7:DS:=(B6 (O5 (A2 T2 (A0 (A1 0) A5)) (O5 (A2 (Q3 12) (A0 (dIx (A8 0) ⇑2) (A0 ⇑3 A5))) (A2 M0 (A0 (dIx (A8 0) ⇑2) A5)))))
def S0:List D->Option D:=D2 ac7 1
end Sh
namespace Sh
open PySem G
theorem bR5(i j:Int):neD (.int i) (.int j)=some (.bool (!(i==j))):=rfl
theorem bC8(i j:Int):eqD (.int i) (.int j)=some (.bool (i==j)):=rfl
theorem aR1{t:Rho->Option Bool}{f:DS}{n:Nat}{ρ ρ':Rho}(h1:t ρ=some true) (h2:f ρ=some (.nx ρ')):N6 t f (n+1) ρ=N6 t f n ρ':=by
 simp only[N6,h1,h2,xbs,if_true]
theorem bn6:∀(b a:Nat) (x:Option B),∃n x',N6 (tB2 neD (A1 1) ⇑0) (B0 (C3 2 (A6 U7 (A1 0) (A1 1))) (B0 (C3 0 (A1 1)) (C3 1 (A1 2)))) n [‹.int a›,‹.int b›,x]
  = some (.nx [‹.int (Nat.gcd a b)›,‹.int 0›,x']):=by
 intro b
 induction b using Nat.strongRecOn with
 | _ b ih =>
  intro a x
  by_cases hb:b=0
  ·subst hb
   refine⟨1,x,?_⟩
   rw[Nat.gcd_zero_right]
   rfl
  ·obtain⟨n,x',h⟩:=ih (a % b) (Nat.mod_lt _ (Nat.pos_of_ne_zero hb)) b (‹.int ((a % b:Nat):Int)›)
   refine⟨n+1,x',?_⟩
   have e1:tB2 neD (A1 1) ⇑0 [‹.int a›,‹.int b›,x]=some true:=by
    show(neD (.int b) (.int 0)).bind U9=some true
    rw[bR5]
    have:((b:Int)==0)=false:=by simp;omega
    rw[this];rfl
   have e2:U7 (.int a) (.int b)=some (.int ((a % b:Nat):Int)):=by
    show(if(0:Int) < (b:Int) then some (PyData.int ((a:Int) % (b:Int))) else none)=_
    rw[if_pos (by omega)]
    simp
   have e3:B0 (C3 2 (A6 U7 (A1 0) (A1 1))) (B0 (C3 0 (A1 1)) (C3 1 (A1 2))) [‹.int a›,‹.int b›,x]=some (.nx [‹.int b›,‹.int ((a % b:Nat):Int)›,‹.int ((a % b:Nat):Int)›]):=by
    show((((U7 (.int a) (.int b))).map fun d=>Fl.nx [‹.int a›,‹.int b›,‹d›]).bind _)=_
    rw[e2]
    rfl
   rw[aR1 e1 e3,h,Nat.gcd_comm b,Nat.gcd_comm a b,← Nat.gcd_rec]
theorem bI4(a b:Nat):J1 [.int a,.int b]=some (.int (Nat.gcd a b)):=by
 obtain⟨n,x',h⟩:=bn6 b a none
 show((S2 _ _ [‹.int a›,‹.int b›,none]).bind _).bind _=_
 rw[ad2 h]
 rfl
theorem aW0:∀(a b:Nat) (t u:D),∃n,N6 (tB2 gtI (A1 2) ⇑0) (be1 2 3 (A0 (A6 U7 (A1 3) (A1 2)) (A0 (A1 2) A5))) n [‹t›,‹u›,‹.int a›,‹.int b›]
  = some (.nx [‹t›,‹u›,‹.int 0›,‹.int (Nat.gcd a b)›]):=by
 intro a
 induction a using Nat.strongRecOn with
 | _ a ih =>
  intro b t u
  by_cases ha:a=0
  ·subst ha
   refine⟨1,?_⟩
   rw[Nat.gcd_zero_left]
   rfl
  ·obtain⟨n,h⟩:=ih (b % a) (Nat.mod_lt _ (Nat.pos_of_ne_zero ha)) a t u
   refine⟨n+1,?_⟩
   have e1:tB2 gtI (A1 2) ⇑0 [‹t›,‹u›,‹.int a›,‹.int b›]=some true:=by
    show some (decide ((0:Int) < (a:Int)))=some true
    rw[decide_eq_true (by omega)]
   have e2:U7 (.int b) (.int a)=some (.int ((b % a:Nat):Int)):=by
    show(if(0:Int) < (a:Int) then some (PyData.int ((b:Int) % (a:Int))) else none)=_
    rw[if_pos (by omega)]
    simp
   have e3:be1 2 3 (A0 (A6 U7 (A1 3) (A1 2)) (A0 (A1 2) A5)) [‹t›,‹u›,‹.int a›,‹.int b›]=some (.nx [‹t›,‹u›,‹.int ((b % a:Nat):Int)›,‹.int a›]):=by
    show((U7 (.int b) (.int a)).bind fun d=>(some [PyData.int (a:Int)]).map fun ds=>d::ds).bind _=_
    rw[e2]
    rfl
   rw[aR1 e1 e3,h,← Nat.gcd_rec]
def fr(r:Rat):D:=.tuple [.int r.num,.int r.den]
theorem E7{i:Int}{k:Nat}(h:i.natAbs < 2 ^ k) (hk:k<=8000):D7 i:=Nat.lt_of_lt_of_le h (Nat.pow_le_pow_right (by decide) hk)
theorem aC3(a b:Nat) (hb:0 < b):fr (mkRat a b)=.tuple [.int ((a / Nat.gcd a b:Nat):Int),.int ((b / Nat.gcd a b:Nat):Int)]:=by
 unfold fr
 rw[Rat.num_mkRat,Rat.den_mkRat,if_neg (by omega),if_neg (by omega)]
 have e:b.gcd (a:Int).natAbs=Nat.gcd a b:=by rw[Int.natAbs_natCast,Nat.gcd_comm]
 rw[e]
 simp
theorem aR9(a b x k:Nat) (hb:0 < b) (hk:b < 2 ^ k) (hk8:k<=8000):u8 (.int x) (.int (Nat.gcd a b))=some (.int ((x / Nat.gcd a b:Nat):Int)):=by
 have g0:0 < Nat.gcd a b:=Nat.gcd_pos_of_pos_right _ hb
 have gs:D7 (Nat.gcd a b:Nat):=E7 (k:=k) (by rw[Int.natAbs_natCast];exact Nat.lt_of_le_of_lt (Nat.le_of_dvd hb (Nat.gcd_dvd_right a b)) hk) hk8
 show(if(0:Int) < ((Nat.gcd a b:Nat):Int)/\D7 (Nat.gcd a b:Nat) then some (PyData.int ((x:Int) / ((Nat.gcd a b:Nat):Int))) else none)=_
 rw[if_pos ⟨by omega,gs⟩]
 simp
theorem bE4(a b k:Nat) (hb:0 < b) (hk:b < 2 ^ k) (hk8:k<=8000):ac8 [.int a,.int b]=some (fr (mkRat a b)):=by
 have d:=fun x=>aR9 a b x k hb hk hk8
 have e:R8 [‹.int a›,‹.int b›,none]=some (.rt (fr (mkRat a b))):=by
  rw[aC3 a b hb]
  simp only[R8,B0,C3,A2,A0,A5,A1,xg0,xg1,xbs,xms,bI4,xw1,xw0,B6,O3,A6,d]
 show(R8 [‹.int a›,‹.int b›,none]).bind _=_
 rw[e];rfl
theorem aM3(a b k:Nat) (hb:0 < b) (hk:b < 2 ^ k) (hk8:k<=8000):W4 [.int a,.int b]=some (fr (mkRat a b)):=by
 have d:=fun x=>aR9 a b x k hb hk hk8
 obtain⟨n,h⟩:=aW0 a b (.int a) (.int b)
 have e:ac5 [‹.int a›,‹.int b›,none,none]=some (.rt (fr (mkRat a b))):=by
  rw[aC3 a b hb]
  simp only[ac5,B0,C3,A2,A0,A5,A1,xg0,xg1,xbs,xms,xw1,xw0,B6,O3,A6,d,ad2 h]
 show(ac5 [‹.int a›,‹.int b›,none,none]).bind _=_
 rw[e];rfl
structure Bd (k:Nat) (r:Rat):Prop where
 nn:0<=r
 num:r.num.natAbs < 2 ^ k
 den:r.den < 2 ^ k
theorem Bd.mono{j k:Nat}{r:Rat}(h:Bd j r) (l:j<=k):Bd k r:=⟨h.nn,Nat.lt_of_lt_of_le h.num (Nat.pow_le_pow_right (by decide) l),Nat.lt_of_lt_of_le h.den (Nat.pow_le_pow_right (by decide) l)⟩
theorem Bd.nat{k:Nat}{r:Rat}(h:Bd k r):r.num=(r.num.natAbs:Int):=by
 have:=Rat.num_nonneg.mpr h.nn
 omega
theorem bi5(a b:Nat):0<=mkRat (a:Int) b:=by
 rw[← Rat.num_nonneg,Rat.num_mkRat]
 split
 ·exact Int.le_refl _
 ·exact Int.ediv_nonneg (by omega) (by omega)
theorem Bd.of{a b k:Nat}(hb:0 < b) (h1:a < 2 ^ k) (h2:b < 2 ^ k):Bd k (mkRat a b):=by
 refine⟨bi5 a b,?_,?_⟩
 ·rw[Rat.num_mkRat,if_neg (by omega)]
  rw[show((a:Int) / ((b.gcd (a:Int).natAbs:Nat):Int))=((a / b.gcd (a:Int).natAbs:Nat):Int) by simp,Int.natAbs_natCast]
  exact Nat.lt_of_le_of_lt (Nat.div_le_self _ _) h1
 ·rw[Rat.den_mkRat,if_neg (by omega)]
  exact Nat.lt_of_le_of_lt (Nat.div_le_self _ _) h2
theorem X2{a b j k:Nat}(h1:a < 2 ^ j) (h2:b < 2 ^ k):a*b < 2 ^ (j+k):=by
 rw[Nat.pow_add]
 exact Nat.mul_lt_mul'' h1 h2
theorem av4{j k:Nat}{r s:Rat}(hr:Bd j r) (hs:Bd k s):r*s=mkRat ((r.num.natAbs*s.num.natAbs:Nat):Int) (r.den*s.den):=by
 rw[Rat.mul_def,Rat.normalize_eq_mkRat,Int.natCast_mul,← hr.nat,← hs.nat]
theorem J4(r:Rat):0 < r.den:=Nat.pos_of_ne_zero r.den_nz
theorem Bd.mul{j k:Nat}{r s:Rat}(hr:Bd j r) (hs:Bd k s):Bd (j+k) (r*s):=by
 rw[av4 hr hs]
 exact Bd.of (Nat.mul_pos (J4 r) (J4 s)) (X2 hr.num hs.num) (X2 hr.den hs.den)
theorem Bd.one:Bd 1 1:=⟨by decide,by decide,by decide⟩
theorem Bd.zero:Bd 1 0:=⟨by decide,by decide,by decide⟩
theorem Bd.sn{k:Nat}{r:Rat}(h:Bd k r) (hk:k<=8000):D7 r.num:=E7 h.num hk
theorem Bd.sd{k:Nat}{r:Rat}(h:Bd k r) (hk:k<=8000):D7 r.den:=E7 (k:=k) (by rw[Int.natAbs_natCast];exact h.den) hk
theorem Q9{i j:Int}(h1:D7 i) (h2:D7 j):X3 (.int i) (.int j)=some (.int (i*j)):=by
 show(if D7 i/\D7 j then some (PyData.int (i*j)) else none)=_
 rw[if_pos ⟨h1,h2⟩]
theorem cl9(i j:Int):Y4 (.int i) (.int j)=some (.int (i+j)):=rfl
theorem cf3(i j:Int):ao0 (.int i) (.int j)=some (.int (i - j)):=rfl
theorem ci9(i j:Int):leI (.int i) (.int j)=some (.bool (decide (i<=j))):=rfl
theorem cm4(a b:D):L2.atI [a,b] 0=some a:=rfl
theorem cm3(a b:D):L2.atI [a,b] 1=some b:=rfl
theorem ix0{ρ:Rho}{i:Nat}{r:Rat}(h:ρ[i]? = some (‹fr r›)):dIx (A8 i) ⇑0 ρ=some (.int r.num):=by
 simp only[dIx,A8,h,fr,dC,xbs,cm4]
theorem ix1{ρ:Rho}{i:Nat}{r:Rat}(h:ρ[i]? = some (‹fr r›)):dIx (A8 i) ⇑1 ρ=some (.int r.den):=by
 simp only[dIx,A8,h,fr,dC,xbs,cm3]
theorem v0(x:Option B) (l:Rho):(x::l)[0]? = some x:=rfl
theorem v1(y x:Option B) (l:Rho):(y::x::l)[1]? = some x:=rfl
theorem cb7{j k:Nat}{r s:Rat}(hr:Bd j r) (hs:Bd k s) (l:j+k<=8000):bE2 [fr r,fr s]=some (fr (r*s)):=by
 have e:aj7 [‹fr r›,‹fr s›]=some (.rt (fr (r*s))):=by
  simp only[aj7,B6,A2,A0,A5,A6,ix0 (v0 _ _),ix1 (v0 _ _),ix0 (v1 _ _ _),ix1 (v1 _ _ _),xbs,xms,Q9 (hr.sn (by omega)) (hs.sn (by omega)),Q9 (hr.sd (by omega)) (hs.sd (by omega))]
  have:=bE4 (r.num.natAbs*s.num.natAbs) (r.den*s.den) (j+k) (Nat.mul_pos (J4 r) (J4 s)) (X2 hr.den hs.den) l
  rw[← av4 hr hs,Int.natCast_mul,Int.natCast_mul,← hr.nat,← hs.nat]at this
  rw[this];rfl
 show(aj7 [‹fr r›,‹fr s›]).bind _=_
 rw[e];rfl
theorem i5{j k:Nat}{r s:Rat}(hr:Bd j r) (hs:Bd k s) (l:j+k<=8000):Y1 [fr r,fr s]=some (.bool (decide (r<=s))):=by
 have e:R9 [‹fr r›,‹fr s›]=some (.rt (.bool (decide (r<=s)))):=by
  simp only[R9,B6,A2,A0,A5,A6,ix0 (v0 _ _),ix1 (v0 _ _),ix0 (v1 _ _ _),ix1 (v1 _ _ _),xbs,xms,Q9 (hr.sn (by omega)) (hs.sd (by omega)),Q9 (hs.sn (by omega)) (hr.sd (by omega)),ci9]
  simp only[← Rat.le_iff]
 show(R9 [‹fr r›,‹fr s›]).bind _=_
 rw[e];rfl
end Sh
set_option exponentiation.threshold 9000
namespace Sh
open PySem G L2
theorem cp8(i j:Int):ltI (.int i) (.int j)=some (.bool (decide (i < j))):=rfl
theorem cq5(i j:Int):gtI (.int i) (.int j)=some (.bool (decide (j < i))):=rfl
theorem bu6{α:Type}(x:α):List.replicate 0 x=[]:=rfl
theorem bu5{α:Type}(x:α):List.replicate 1 x=[x]:=rfl
theorem bu4{α:Type}(x:α):List.replicate 2 x=[x,x]:=rfl
theorem aS2(a b c d:D):ab7 [a,b,c,d] (some 1) none=[b,c,d]:=rfl
theorem cr5(a b c d:D):L2.atI [a,b,c,d] 0=some a:=rfl
theorem cr4(a b c d:D):L2.atI [a,b,c,d] 1=some b:=rfl
theorem cr3(a b c d:D):L2.atI [a,b,c,d] 2=some c:=rfl
theorem cr2(a b c d:D):L2.atI [a,b,c,d] 3=some d:=rfl
theorem cr8(a b c:D):L2.atI [a,b,c] 0=some a:=rfl
theorem cr7(a b c:D):L2.atI [a,b,c] 1=some b:=rfl
theorem cr6(a b c:D):L2.atI [a,b,c] 2=some c:=rfl
theorem V1{n k:Nat}(h:n < 2 ^ k) (hk:k<=8000):D7 (n:Int):=E7 (k:=k) (by rw[Int.natAbs_natCast];exact h) hk
theorem aC1{i j:Int}(h:0 < j):U7 (.int i) (.int j)=some (.int (i % j)):=by
 show(if(0:Int) < j then some (PyData.int (i % j)) else none)=_
 rw[if_pos h]
theorem aR8{i j:Int}(h:0 < j) (s:D7 j):u8 (.int i) (.int j)=some (.int (i / j)):=by
 show(if(0:Int) < j/\D7 j then some (PyData.int (i / j)) else none)=_
 rw[if_pos ⟨h,s⟩]
theorem B2{g:DS}{n:Nat}{ds:List D}{ρ:Rho}{d:D}(h:N8 n ds=ρ) (e:g ρ=some (.rt d)):D2 g n ds=some d:=by
 unfold D2
 rw[h,e];rfl
theorem x5{j k:Nat}{r s:Rat}(hr:Bd j r) (hs:Bd k s) (l:j+k<=8000):ae9 [fr r,fr s]=some (fr (r*s)):=by
 refine B2 (ρ:=[‹fr r›,‹fr s›]) rfl ?_
 simp only[at0,B6,A2,A0,A5,A6,ix0 (v0 _ _),ix1 (v0 _ _),ix0 (v1 _ _ _),ix1 (v1 _ _ _),xbs,xms,Q9 (hr.sn (by grind)) (hs.sn (by grind)),Q9 (hr.sd (by grind)) (hs.sd (by grind))]
 have:=aM3 (r.num.natAbs*s.num.natAbs) (r.den*s.den) (j+k) (Nat.mul_pos (J4 r) (J4 s)) (X2 hr.den hs.den) l
 rw[← av4 hr hs,Int.natCast_mul,Int.natCast_mul,← hr.nat,← hs.nat]at this
 rw[this];rfl
def as2(ns:List Int) (k:Nat):Int:=if ns.length=0 then 7*(k:Int) else ns.getD (k % ns.length) 0+6553*((k / ns.length:Nat):Int)
theorem bo6(ns:List Int):eqD (.list (ns.map PyData.int)) (.list [])=some (.bool (decide (ns.length=0))):=by
 have h1:SeqAt.shaped (.list (ns.map PyData.int))=true:=by
  have c:∀l:List Int,PyData.canLayAll0 (l.map PyData.int)=true:=fun l=>by
   induction l with
   | nil=>rfl
   | cons a r ih=>simp only[xmc,PyData.canLayAll0,PyData.canLay0,ih];rfl
  have d:∀l:List Int,PyData.depthAll (l.map PyData.int)=0:=fun l=>by
   induction l with
   | nil=>rfl
   | cons a r ih=>simp only[xmc,PyData.depthAll,PyData.depth,ih];rfl
  unfold SeqAt.shaped
  simp only[PyData.canLay0,c,PyData.depth,d]
  rfl
 unfold eqD
 rw[if_pos ⟨h1,rfl⟩]
 cases ns with
 | nil=>rfl
 | cons a r=>simp[PyData.eqv,PyData.eqvAll]
end Sh
local macro_rules
  | `(tactic| wp_walk using evP, $ts,*) => `(tactic| simp only [G.B0, G.C3, G.B6, G.sIf, G.G5, G.aq6, G.av0, G.A1, G.dC, G.O3, G.Y3, G.A6, G.A2, G.O5, G.dOr, G.bp6, G.S8, G.M3, G.ap0, G.ai0, G.Z3, G.Y9, G.K3, G.bm5, G.A5, G.A0, G.G9, G.tB2, G.bd1, G.U6, G.K1, G.bc8, G.U9, G.D1, G.C4, G.n9, G.J9, G.ag4, G.J3, G.aW5, G.xg0, G.xg1, G.xw0, G.xw1, G.xbs, G.xms, G.xmc, G.xmn, G.xna, G.xca, Sh.cl9, Sh.cf3, Sh.ci9, Sh.bR5, Sh.bC8, Sh.cp8, Sh.cq5, Sh.cr5, Sh.cr4, Sh.cr3, Sh.cr2, Sh.cr8, Sh.cr7, Sh.cr6, Sh.cm4, Sh.cm3, G.xnt, G.xnf, G.xft, if_true, if_false, $[$ts:term],*])
local macro_rules
  | `(tactic| wp_walk using evB) => `(tactic| wp_walk using evP, G.dIx, G.S7, G.A8, G.qE, G.qN, G.au7)
  | `(tactic| wp_walk using evB, $ts,*) => `(tactic| wp_walk using evP, G.dIx, G.S7, G.A8, G.qE, G.qN, G.au7, $ts,*)
local macro_rules
  | `(tactic| wp_walk using evA) => `(tactic| wp_walk using evB, G.ae4, G.aE6, G.C5, G.o6, G.ai1, G.G0, G.bB7, Sh.bu6, Sh.bu5, Sh.bu4, Sh.aS2, ite_true, ite_false)
  | `(tactic| wp_walk using evA, $ts,*) => `(tactic| wp_walk using evB, G.ae4, G.aE6, G.C5, G.o6, G.ai1, G.G0, G.bB7, Sh.bu6, Sh.bu5, Sh.bu4, Sh.aS2, ite_true, ite_false, $ts,*)
local macro_rules
  | `(tactic| wp_walk using evD) => `(tactic| wp_walk using evB, G.w9, G.aG9)
  | `(tactic| wp_walk using evD, $ts,*) => `(tactic| wp_walk using evB, G.w9, G.aG9, $ts,*)
local macro_rules
  | `(tactic| wp_walk using evC) => `(tactic| wp_walk using evD, G.ae4, G.aE6, G.C5, G.o6, G.ai1, G.G0, G.bB7, Sh.bu6, Sh.bu5, Sh.bu4, Sh.aS2, ite_true, ite_false)
  | `(tactic| wp_walk using evC, $ts,*) => `(tactic| wp_walk using evD, G.ae4, G.aE6, G.C5, G.o6, G.ai1, G.G0, G.bB7, Sh.bu6, Sh.bu5, Sh.bu4, Sh.aS2, ite_true, ite_false, $ts,*)
local macro_rules
  | `(tactic| wp_walk using evQ) => `(tactic| wp_walk using evP, G.w9, G.aG9)
  | `(tactic| wp_walk using evQ, $ts,*) => `(tactic| wp_walk using evP, G.w9, G.aG9, $ts,*)
namespace Sh
open PySem G L2
theorem cb9(ns:List Int) (k:Nat) (hn:ns.length<=63) (hk:k < 2 ^ 60):an8 [.list (ns.map PyData.int),.int k]=some (.int (as2 ns k)):=by
 refine B2 (ρ:=[‹.list (ns.map PyData.int)›,‹.int k›]) rfl ?_
 have sk:D7 (k:Int):=V1 hk (by decide)
 by_cases h:ns.length=0
 ·have e:as2 ns k=7*(k:Int):=by unfold as2;rw[if_pos h]
  wp_walk using evA,an4,bo6,h,decide_true,Q9 (i:=7) (E7 (k:=3) (by decide) (by decide)) sk,e
 ·have e:as2 ns k=ns.getD (k % ns.length) 0+6553*((k / ns.length:Nat):Int):=by unfold as2;rw[if_neg h]
  have hl:(List.map PyData.int ns).length=ns.length:=List.length_map ..
  have hp:0 < ns.length:=Nat.pos_of_ne_zero h
  have m1:U7 (.int k) (.int ns.length)=some (.int ((k % ns.length:Nat):Int)):=by rw[aC1 (by grind)];simp
  have m2:u8 (.int k) (.int ns.length)=some (.int ((k / ns.length:Nat):Int)):=by rw[aR8 (by grind) (V1 (k:=6) (by grind) (by decide))];simp
  have m3:L2.atI (List.map PyData.int ns) ((k % ns.length:Nat):Int)=some (.int (ns.getD (k % ns.length) 0)):=by
   refine L2.bD8 ?_
   have hlt:k % ns.length < ns.length:=Nat.mod_lt _ hp
   rw[List.getElem?_map,List.getElem?_eq_getElem hlt]
   simp[List.getD,hlt]
  have sq:D7 ((k / ns.length:Nat):Int):=V1 (k:=60) (Nat.lt_of_le_of_lt (Nat.div_le_self _ _) hk) (by decide)
  wp_walk using evA,an4,bo6,h,decide_false,hl,m1,m2,m3,Q9 (i:=6553) (E7 (k:=13) (by decide) (by decide)) sq,e
def ab6(ns:List Int) (k:Nat) (m:Int):Int :=
 let c:=(as2 ns k % 2147483563*69069+104723*((k:Int)+1)) % 2147483563
 let c:=(c*c+c / 3) % 2147483399
 (c*c+c / 7) % 2147483647 / 11 % m
theorem aA4{i:Int}(h0:0<=i) (h:i < 4294967296):D7 i:=E7 (k:=32) (by omega) (by decide)
theorem aj8(ns:List Int) (k:Nat) (m:Int) (hn:ns.length<=63) (hk:k < 2 ^ 60) (hm:0 < m):A7 [.list (ns.map PyData.int),.int k,.int m]=some (.int (ab6 ns k m)):=by
 refine B2 (ρ:=[‹.list (ns.map PyData.int)›,‹.int k›,‹.int m›,none]) rfl ?_
 have c0:∀x:Int,D7 (x % 2147483563):=fun x=>aA4 (by grind) (by grind)
 have c1:∀x:Int,D7 (x % 2147483399):=fun x=>aA4 (by grind) (by grind)
 have sk:D7 ((k:Int)+1):=E7 (k:=61) (by grind) (by decide)
 have s1:D7 69069:=E7 (k:=17) (by decide) (by decide)
 have s2:D7 104723:=E7 (k:=17) (by decide) (by decide)
 have s3:D7 3:=E7 (k:=2) (by decide) (by decide)
 have s7:D7 7:=E7 (k:=3) (by decide) (by decide)
 have s11:D7 11:=E7 (k:=4) (by decide) (by decide)
 wp_walk using evA,at4,cb9 ns k hn hk,aC1 (show(0:Int) < 2147483563 by decide),aC1 (show(0:Int) < 2147483399 by decide),aC1 (show(0:Int) < 2147483647 by decide),aC1 hm,Q9 (c0 _) s1,Q9 s2 sk,Q9 (c0 _) (c0 _),Q9 (c1 _) (c1 _),aR8 (show(0:Int) < 3 by decide) s3,aR8 (show(0:Int) < 7 by decide) s7,aR8 (show(0:Int) < 11 by decide) s11
 rfl
theorem aj3(ns:List Int) (k:Nat) (m:Int) (hm:0 < m):0<=ab6 ns k m/\ab6 ns k m < m:=by
 unfold ab6
 exact⟨Int.emod_nonneg _ (by omega),Int.emod_lt_of_pos _ hm⟩
structure IsSh (k:Nat) (r:Rat):Prop where
 bd:Bd k r
 le:r<=1
theorem aW2{a b:Nat}(hb:0 < b) (h:a<=b):mkRat (a:Int) b<=1:=by
 rw[Rat.le_iff,Rat.num_mkRat,Rat.den_mkRat,if_neg (by omega),if_neg (by omega)]
 have e0:(1:Rat).num=1:=rfl
 have e1:(1:Rat).den=1:=rfl
 rw[e0,e1]
 have:a / b.gcd a<=b / b.gcd a:=Nat.div_le_div_right h
 simp
 exact_mod_cast this
theorem j7(ns:List Int) (at':Nat) (hn:ns.length<=63) (hk:at' < 2 ^ 40):∃r,G2 [.list (ns.map PyData.int),.int at']=some (fr r)/\IsSh 4 r:=by
 obtain⟨u0,u1⟩:=aj3 ns at' 12 (by decide)
 obtain⟨u,hu⟩:∃u:Nat,(1:Int)+ab6 ns at' 12=u/\0 < u/\u<=12:=⟨(1+ab6 ns at' 12).toNat,by grind,by grind,by grind⟩
 obtain⟨t0,t1⟩:=aj3 ns (at'+1) ((u:Int)+1) (by grind)
 obtain⟨t,ht⟩:∃t:Nat,ab6 ns (at'+1) ((u:Int)+1)=t/\t<=u:=⟨(ab6 ns (at'+1) ((u:Int)+1)).toNat,by grind,by grind⟩
 obtain⟨p0,p1⟩:=aj3 ns (at'+2) 5 (by decide)
 have hs:IsSh 4 (mkRat (t:Int) u):=⟨Bd.of (by grind) (by grind) (by grind),aW2 (by grind) (by grind)⟩
 have e1:=aj8 ns at' 12 hn (by grind) (by decide)
 have e2:=aj8 ns (at'+1) ((u:Int)+1) hn (by grind) (by grind)
 have e3:=aj8 ns (at'+2) 5 hn (by grind) (by decide)
 have e4:=aM3 t u 4 (by grind) (by grind) (by decide)
 have c1:((at':Int)+1)=((at'+1:Nat):Int):=by grind
 have c2:((at':Int)+2)=((at'+2:Nat):Int):=by grind
 rw[ht.1]at e2
 have pick:∀(j:Int),0<=j->j < 5->∃r,L2.atI [fr (mkRat (t:Int) u),fr (mkRat (t:Int) u),fr (mkRat (t:Int) u),.tuple [.int 0,.int 1],.tuple [.int 1,.int 1]] j=some (fr r)/\IsSh 4 r:=fun j h0 h5=>by
  have:j=0\/j=1\/j=2\/j=3\/j=4:=by grind
  rcases this with rfl|rfl|rfl|rfl|rfl
  ·exact⟨_,rfl,hs⟩
  ·exact⟨_,rfl,hs⟩
  ·exact⟨_,rfl,hs⟩
  ·exact⟨0,rfl,Bd.zero.mono (by decide),by decide⟩
  ·exact⟨1,rfl,Bd.one.mono (by decide),by decide⟩
 obtain⟨r,hr1,hr2⟩:=pick _ p0 p1
 refine⟨r,B2 (ρ:=[‹.list (ns.map PyData.int)›,‹.int at'›,none,none]) rfl ?_,hr2⟩
 wp_walk using evA,at1,e1,hu.1,c1,c2,e2,e3,e4,hr1
end Sh
namespace Sh
open PySem G L2
def sp(c x y z:Rat):D:=.tuple [fr c,fr x,fr y,fr z]
structure Spot (k:Nat) (c x y z:Rat):Prop where
 hc:IsSh k c
 hx:Bd k x
 hy:Bd k y
 hz:Bd k z
 xc:x<=c
 yc:y<=c
 zc:z<=c
theorem IsSh.mono{j k:Nat}{r:Rat}(h:IsSh j r) (l:j<=k):IsSh k r:=⟨h.bd.mono l,h.le⟩
theorem Spot.mono{j k:Nat}{c x y z:Rat}(h:Spot j c x y z) (l:j<=k):Spot k c x y z:=⟨h.hc.mono l,h.hx.mono l,h.hy.mono l,h.hz.mono l,h.xc,h.yc,h.zc⟩
theorem Z1{c r:Rat}(hc:0<=c) (hr:r<=1):c*r<=c:=by
 have:=Rat.mul_le_mul_of_nonneg_right hr hc
 grind
theorem cp1:W9 0 3=[.int 0,.int 1,.int 2]:=rfl
theorem bE3(ns:List Int) (k:Nat) (hn:ns.length<=63) (hk:k < 2 ^ 30):∃c a0 a1 a2,Q2 [.list (ns.map PyData.int),.int k]=some (sp c (c*a0) (c*a1) (c*a2))/\IsSh 4 c/\IsSh 4 a0/\IsSh 4 a1/\IsSh 4 a2:=by
 obtain⟨c,ec,hc⟩:=j7 ns k hn (by grind)
 obtain⟨a0,e0,h0⟩:=j7 ns (k+3) hn (by grind)
 obtain⟨a1,e1,h1⟩:=j7 ns (k+6) hn (by grind)
 obtain⟨a2,e2,h2⟩:=j7 ns (k+9) hn (by grind)
 refine⟨c,a0,a1,a2,?_,hc,h0,h1,h2⟩
 refine B2 (ρ:=[‹.list (ns.map PyData.int)›,‹.int k›,none]) rfl ?_
 have i0:(k:Int)+3+3*0=((k+3:Nat):Int):=by grind
 have i1:(k:Int)+3+3*1=((k+6:Nat):Int):=by grind
 have i2:(k:Int)+3+3*2=((k+9:Nat):Int):=by grind
 have s0:D7 0:=E7 (k:=2) (by decide) (by decide)
 have s1:D7 1:=E7 (k:=2) (by decide) (by decide)
 have s2:D7 2:=E7 (k:=2) (by decide) (by decide)
 have s3:D7 3:=E7 (k:=2) (by decide) (by decide)
 have m0:=Q9 s3 s0
 have m1:=Q9 s3 s1
 have m2:=Q9 s3 s2
 have r3:((-(2 ^ 62):Int)<=3/\(3:Int) < 2 ^ 62):=by decide
 have l3:([PyData.int 0,.int 1,.int 2]:List D).length<=16777216:=by decide
 have ct:∀a b c d:D,Y4 (.tuple [a]) (.tuple [b,c,d])=some (.tuple [a,b,c,d]):=fun a b c d=>rfl
 wp_walk using evA,aF9,ec,r3,and_self,cp1,l3,m0,m1,m2,i0,i1,i2,e0,e1,e2,x5 hc.bd h0.bd (by decide),x5 hc.bd h1.bd (by decide),x5 hc.bd h2.bd (by decide),ct,sp
theorem cb8(ns:List Int) (k:Nat) (hn:ns.length<=63) (hk:k < 2 ^ 30):∃c x y z,Q2 [.list (ns.map PyData.int),.int k]=some (sp c x y z)/\Spot 8 c x y z:=by
 obtain⟨c,a0,a1,a2,e,hc,h0,h1,h2⟩:=bE3 ns k hn hk
 exact⟨c,c*a0,c*a1,c*a2,e,⟨hc.mono (by decide),hc.bd.mul h0.bd,hc.bd.mul h1.bd,hc.bd.mul h2.bd,Z1 hc.bd.nn h0.le,Z1 hc.bd.nn h1.le,Z1 hc.bd.nn h2.le⟩⟩
theorem bB5(i:Int):Y0 [.int i]=some (.bool true):=rfl
theorem bm4(i:Int):J6 [.int i]=some (.bool true):=rfl
theorem ar7(r:Rat):SeqAt.shaped (fr r)=true:=rfl
theorem cl3(r s:Rat):eqD (fr r) (fr s)=some (.bool (decide (r=s))):=by
 unfold eqD
 rw[if_pos ⟨ar7 r,ar7 s⟩]
 congr 2
 show((r.num==s.num)&&(((r.den:Int)==(s.den:Int))&&true))=_
 rw[Bool.eq_iff_iff]
 simp only[Bool.and_true,Bool.and_eq_true,beq_iff_eq,decide_eq_true_eq]
 constructor
 ·intro h;exact Rat.ext h.1 (by exact_mod_cast h.2)
 ·intro h;subst h;exact⟨rfl,rfl⟩
theorem aC2{k:Nat}{r:Rat}(h:Bd k r):mkRat ((r.num.natAbs:Nat):Int) r.den=r:=by
 rw[← h.nat];exact Rat.mkRat_self r
theorem al3{k:Nat}{r:Rat}(h:IsSh k r):r.num<=r.den:=by
 have:=(Rat.le_iff r 1).mp h.le
 have e0:(1:Rat).num=1:=rfl
 have e1:(1:Rat).den=1:=rfl
 rw[e0,e1]at this
 omega
theorem ci8(a b:D):((([a,b]:List D).length:Nat):Int)=2:=rfl
theorem cq0(a b c d:D):((([a,b,c,d]:List D).length:Nat):Int)=4:=rfl
theorem bb2:((2:Int)==2)=true:=rfl
theorem bb4:((4:Int)==4)=true:=rfl
theorem cb6{k:Nat}{r:Rat}(h:IsSh k r) (hk:k<=8000):az4 [fr r]=some (.bool true):=by
 have n0:=Rat.num_nonneg.mpr h.bd.nn
 have nd:=al3 h
 have d0:(0:Int) < r.den:=by have:=J4 r;omega
 have e:=aM3 r.num.natAbs r.den k (J4 r) h.bd.den hk
 rw[aC2 h.bd,← h.bd.nat]at e
 have e2:=cl3 r r
 refine B2 (ρ:=[‹fr r›]) rfl ?_
 have e':W4 [PyData.int r.num,PyData.int r.den]=some (.tuple [.int r.num,.int r.den]):=e
 have e2':eqD (.tuple [.int r.num,.int r.den]) (.tuple [.int r.num,.int r.den])=some (.bool true):=by
  have:=e2
  simp only[decide_true]at this
  exact this
 wp_walk using evA,ac6,fr,ci8,bb2,bB5,d0,decide_true,n0,nd,e',e2'
theorem O6{k:Nat}{r:Rat}(h:IsSh k r) (hk:k<=8000):P0 [fr r]=some (.bool true):=by
 have n0:=Rat.num_nonneg.mpr h.bd.nn
 have nd:=al3 h
 have d0:(0:Int) < r.den:=by have:=J4 r;omega
 have e:=bI4 r.num.natAbs r.den
 rw[← h.bd.nat,show Nat.gcd r.num.natAbs r.den=1 from r.reduced]at e
 have e':J1 [PyData.int r.num,PyData.int r.den]=some (.int 1):=e
 have b1:((1:Int)==1)=true:=rfl
 refine B2 (ρ:=[‹fr r›,none,none]) rfl ?_
 wp_walk using evA,an6,fr,ci8,bb2,bm4,d0,decide_true,n0,nd,e',b1
theorem cm6:az1 [.bool true,.bool true,.bool true]=some true:=rfl
theorem cm5:az1 [.bool true,.bool true,.bool true,.bool true]=some true:=rfl
theorem aZ9{k:Nat}{c x y z:Rat}(S:Spot k c x y z) (hk:k+k<=8000):k6 [sp c x y z]=some (.bool true):=by
 have hk1:k<=8000:=by grind
 have lx:IsSh k x:=⟨S.hx,Rat.le_trans S.xc S.hc.le⟩
 have ly:IsSh k y:=⟨S.hy,Rat.le_trans S.yc S.hc.le⟩
 have lz:IsSh k z:=⟨S.hz,Rat.le_trans S.zc S.hc.le⟩
 refine B2 (ρ:=[‹sp c x y z›]) rfl ?_
 have f4:([fr c,fr x,fr y,fr z]:List D).length<=16777216:=by show 4<=16777216;decide
 have f3:([fr x,fr y,fr z]:List D).length<=16777216:=by show 3<=16777216;decide
 wp_walk using evA,at5,sp,cq0,bb4,f4,f3,O6 S.hc hk1,O6 lx hk1,O6 ly hk1,O6 lz hk1,cm6,cm5,i5 S.hx S.hc.bd hk,i5 S.hy S.hc.bd hk,i5 S.hz S.hc.bd hk,S.xc,S.yc,S.zc,decide_true
end Sh
namespace Sh
open PySem G L2
theorem G7{x y:Str}{b:Bool}(hx:PyData.canLay0 (.str x)=true) (hy:PyData.canLay0 (.str y)=true) (e:(x==y)=b):eqD (.str x) (.str y)=some (.bool b):=by
 unfold eqD
 have s:∀z:Str,PyData.canLay0 (.str z)=true->SeqAt.shaped (.str z)=true:=fun z h=>by unfold SeqAt.shaped;rw[h];rfl
 rw[if_pos ⟨s x hx,s y hy⟩]
 show some (PyData.bool (x==y))=_
 rw[e]
theorem aa9{x y:Str}{b:Bool}(hx:PyData.canLay0 (.str x)=true) (hy:PyData.canLay0 (.str y)=true) (e:(!(x==y))=b):neD (.str x) (.str y)=some (.bool b):=by
 unfold neD
 have s:∀z:Str,PyData.canLay0 (.str z)=true->SeqAt.shaped (.str z)=true:=fun z h=>by unfold SeqAt.shaped;rw[h];rfl
 rw[if_pos ⟨s x hx,s y hy⟩]
 show some (PyData.bool (!(x==y)))=_
 rw[e]
inductive Man where
 | over|mult|screen|plus|atop|cut
def Man.s:Man->Str
 | .over => "over"
 | .mult => "multiply"
 | .screen => "screen"
 | .plus => "plus"
 | .atop => "atop"
 | .cut => "cut"
end Sh
namespace Sh
open PySem G L2
inductive Rul where
 | turn|grey|round
def Rul.s:Rul->Str
 | .turn => "turn"
 | .grey => "grey"
 | .round => "round"
end Sh
namespace Sh
open PySem G L2
end Sh
namespace Sh
open PySem G L2
theorem z3(a b c d e f:D):(List.zip [a,b,c] [d,e,f]).map (fun(x,y)=>PyData.tuple [x,y])=[.tuple [a,d],.tuple [b,e],.tuple [c,f]]:=rfl
end Sh
namespace Sh
open PySem G L2
structure Q4 where
 c:Rat
 x:Rat
 y:Rat
 z:Rat
def Q4.d(q:Q4):D:=sp q.c q.x q.y q.z
def Q4.ok(k:Nat) (q:Q4):Prop:=Spot k q.c q.x q.y q.z
def q0:Q4:=⟨0,0,0,0⟩
theorem Q4.ok.mono{j k:Nat}{q:Q4}(h:q.ok j) (l:j<=k):q.ok k:=Spot.mono h l
def Ly(n:Nat) (d:D):Prop:=PyData.canLay0 d=true/\PyData.depth d<=n
theorem aL4{n:Nat}:∀xs:List D,(∀x∈xs,Ly n x)->PyData.canLayAll0 xs=true/\PyData.depthAll xs<=n
 | [],_=>⟨rfl,Nat.zero_le _⟩
 | x::xs,g=>by
  have a:=g x (List.mem_cons_self ..)
  have b:=aL4 xs fun y hy=>g y (List.mem_cons_of_mem _ hy)
  refine⟨?_,?_⟩
  ·show(PyData.canLay0 x&&PyData.canLayAll0 xs)=true
   rw[a.1,b.1];rfl
  ·show max (PyData.depth x) (PyData.depthAll xs)<=n
   have:=a.2;have:=b.2;grind
theorem Ly.tup{n:Nat}{xs:List D}(h:∀x∈xs,Ly n x):Ly (n+1) (.tuple xs):=⟨(aL4 xs h).1,Nat.succ_le_succ (aL4 xs h).2⟩
theorem Ly.int(n:Nat) (i:Int):Ly n (.int i):=⟨rfl,Nat.zero_le _⟩
theorem Ly.mono{m n:Nat}{d:D}(h:Ly m d) (l:m<=n):Ly n d:=⟨h.1,Nat.le_trans h.2 l⟩
theorem Ly.shaped{n:Nat}{d:D}(g:Ly n d) (hn:n<=64):SeqAt.shaped d=true:=by
 unfold SeqAt.shaped
 rw[g.1,Bool.true_and]
 exact decide_eq_true (by have:=g.2;grind)
theorem Ly.q4(q:Q4) (n:Nat):Ly (n+2) q.d:=⟨rfl,by show 2<=n+2;grind⟩
theorem Ly.spots(l:List Q4) (n:Nat):Ly (n+3) (.tuple (l.map Q4.d)):=Ly.tup fun x hx=>by
 obtain⟨q,_,rfl⟩:=List.mem_map.mp hx
 exact Ly.q4 q n
theorem by2{n:Nat}{d:D}(g:Ly n d) (hn:n<=64):neD d d=some (.bool false):=by
 unfold neD
 rw[if_pos ⟨g.shaped hn,g.shaped hn⟩,SeqAt.eqv_refl d g.1];rfl
theorem aR7{n:Nat}{d:D}(g:Ly n d) (hn:n<=64):eqD d d=some (.bool true):=by
 unfold eqD
 rw[if_pos ⟨g.shaped hn,g.shaped hn⟩,SeqAt.eqv_refl d g.1]
def shD(w h:Nat) (l:List Q4):D:=.tuple [.int w,.int h,.tuple (l.map Q4.d)]
theorem Ly.sheet(w h:Nat) (l:List Q4):Ly 4 (shD w h l):=Ly.tup fun x hx=>by
 simp only[List.mem_cons,List.not_mem_nil,or_false]at hx
 rcases hx with rfl|rfl|rfl
 ·exact Ly.int _ _
 ·exact Ly.int _ _
 ·exact Ly.spots l 0
structure ShOk (k:Nat) (w h:Nat) (l:List Q4):Prop where
 w1:1<=w
 w8:w<=8
 h1:1<=h
 h8:h<=8
 len:l.length=w*h
 ok:∀q∈l,q.ok k
theorem bI0{α:Type}{e:DE}{r:Rho}{h f:α->D}:∀(l:List α) (x:Option B),(∀a∈l,e (‹h a›::r)=some (f a))->o6 (C4 0) D1 e (l.map h) (x::r)=some (l.map f)
 | [],_,_=>rfl
 | a::l,x,H=>by
  simp only[xmc,o6,C4,xw0,xbs,D1,if_true,H a (List.mem_cons_self ..),bI0 l _ (fun b hb=>H b (List.mem_cons_of_mem _ hb)),xms]
theorem Q5{α:Type}{caps:List Nat}{src:Rho->Option (List D)}{e:DE}{ρ r:Rho}{l:List α}{h f:α->D}(hr:ai1 1 caps ρ=none::r) (hs:src ρ=some (l.map h)) (hl:l.length<=1000) (H:∀a∈l,e (‹h a›::r)=some (f a)) :
  C5 1 caps src (C4 0) D1 e ρ=some (l.map f):=by
 unfold C5
 rw[hs,xbs,if_pos (by rw[List.length_map];grind),hr,bI0 l _ H]
theorem X0{f:DE}{ρ:Rho}{n:Nat}(h:f ρ=some (.int n)) (hn:n<=1000):G0 f ρ=some ((List.range n).map fun k:Nat=>PyData.int k):=by
 unfold G0
 rw[h,xbs]
 show(if -(2 ^ 62)<=(n:Int)/\(n:Int) < 2 ^ 62 then some (W9 0 n) else none)=_
 rw[if_pos ⟨by grind,by grind⟩]
 unfold W9
 congr 1
 have e:((n:Int) - 0).toNat=n:=by grind
 rw[e]
 apply List.map_congr_left
 intro k _
 congr 1
 grind
theorem bS0{i j:Int}(h1:D7 i) (h2:D7 j):E2 (.int i) (.int j)=some (.int (i*j)):=Q9 h1 h2
theorem K4{i j:Nat}(h1:i<=1000) (h2:j<=1000):E2 (.int i) (.int j)=some (.int ((i*j:Nat):Int)):=by
 rw[bS0 (V1 (k:=10) (by grind) (by decide)) (V1 (k:=10) (by grind) (by decide)),Int.natCast_mul]
theorem ax0{n:Nat}{i:Int}(h0:0<=i) (h1:i < n):ixN n i=some i.toNat:=by unfold ixN;rw[if_pos h0,if_pos h1]
end Sh
namespace Sh
open PySem G L2
abbrev scr(ns:List Int):D:=.list (ns.map PyData.int)
theorem aD4(ns:List Int) (k m:Nat) (hn:ns.length<=63) (hk:k < 2 ^ 60) (hm:0 < m):∃n:Nat,A7 [scr ns,.int k,.int m]=some (.int n)/\n < m:=by
 have a:=aj8 ns k m hn hk (by grind)
 have b:=aj3 ns k m (by grind)
 refine⟨(ab6 ns k m).toNat,?_,by grind⟩
 rw[a]
 congr 2
 grind
theorem R6{h:D->D->Option D}{f g:DE}{ρ:Rho}{x y:D}(h1:f ρ=some x) (h2:g ρ=some y):A6 h f g ρ=h x y:=by unfold A6;rw[h1,xbs,h2,xbs]
theorem V4{α:Type}(a:α):∀n:Nat,(List.replicate n [a]).flatten=List.replicate n a
 | 0=>rfl
 | n+1=>by rw[List.replicate_succ,List.flatten_cons,V4 a n];rfl
theorem bi2{xs:List D}{n:Nat}(hn:n<=1000) (hx:xs.length<=1000):E2 (.list xs) (.int n)=some (.list (List.replicate n xs).flatten):=by
 show(if 0<=(n:Int)/\(n:Int) < 1000000/\xs.length*((n:Int)).toNat<=16777216 then some (PyData.list (List.replicate ((n:Int)).toNat xs).flatten) else none)=_
 rw[Int.toNat_natCast,if_pos ⟨by omega,by omega,Nat.le_trans (Nat.mul_le_mul hx hn) (by decide)⟩]
theorem cr0(a:D) (r:List D):ab7 (a::r) none (some 1)=[a]:=by
 unfold ab7
 have h1:HT.sIx (a::r).length 0 none=0:=by simp[HT.sIx]
 have h2:HT.sIx (a::r).length (a::r).length (some 1)=1:=by simp only[HT.sIx,List.length_cons];first|omega|(simp;omega)|simp
 rw[h1,h2];rfl
theorem aT2(ns:List Int) (k:Nat) (hn:ns.length<=63) (hk:k < 2 ^ 30):∃q:Q4,Q2 [scr ns,.int k]=some q.d/\q.ok 8:=by
 obtain⟨c,x,y,z,e,S⟩:=cb8 ns k hn hk
 exact⟨⟨c,x,y,z⟩,e,S⟩
theorem bd3(ns:List Int) (at':Nat) (hn:ns.length<=63) (ha:at' < 2 ^ 20):∃f:Nat->Q4,∀k,k < 1000->Q2 [scr ns,.int ((at'+12*k:Nat):Int)]=some (f k).d/\(f k).ok 8:=by
 refine⟨fun k=>if h:k < 1000 then Classical.choose (aT2 ns (at'+12*k) hn (by grind)) else q0,fun k hk=>?_⟩
 simp only[dif_pos hk]
 exact Classical.choose_spec (aT2 ns (at'+12*k) hn (by grind))
theorem aC4{P:Q4->Prop}(ns:List Int) (at' w h:Nat) (hn:ns.length<=63) (ha:at' < 2 ^ 20) (w1:1<=w) (w8:w<=8) (h1:1<=h) (h8:h<=8) (hf:∃f:Nat->Q4,∀k,k < 1000->Q2 [scr ns,.int ((at'+12*k:Nat):Int)]=some (f k).d/\P (f k)):∃l:List Q4,W3 [scr ns,.int at',.int w,.int h]=some (shD w h l)/\l.length=w*h/\∀q∈l,P q:=by
 obtain⟨f,hf⟩:=hf
 have wh:w*h<=64:=Nat.mul_le_mul w8 h8
 have wh1:1<=w*h:=Nat.mul_le_mul w1 h1
 obtain⟨t,et,ht⟩:=aD4 ns (at'+7) 3 hn (by grind) (by decide)
 have et':A7 [scr ns,.int ((at':Int)+7),.int 3]=some (.int t):=by rw[← et];simp
 have c:C5 1 [0,1] (G0 (A6 E2 (A1 2) (A1 3))) (C4 0) D1 (A2 Q2 (A0 (A1 1) (A0 (A6 A9 (A1 2) (A6 E2 ⇑12 (A1 0))) A5))) [‹scr ns›,‹.int at'›,‹.int w›,‹.int h›,none]=some ((List.range (w*h)).map fun k=>(f k).d):=by
  refine Q5 (l:=List.range (w*h)) (h:=fun k:Nat=>PyData.int k) (r:=[‹scr ns›,‹.int at'›]) rfl (X0 ?_ (by grind)) (by rw[List.length_range];grind) ?_
  ·exact K4 (by grind) (by grind)
  ·intro k hk
   have hk:=List.mem_range.mp hk
   have m12:E2 (.int 12) (.int k)=some (.int ((12*k:Nat):Int)):=K4 (i:=12) (by decide) (by grind)
   have e1:((at':Int)+((12*k:Nat):Int))=((at'+12*k:Nat):Int):=by grind
   wp_walk using evD,m12,e1,(hf k (by grind)).1
 have mwh:E2 (.int w) (.int h)=some (.int ((w*h:Nat):Int)):=K4 (by grind) (by grind)
 have cv:((t:Int)==0)=decide (t=0):=by cases t with
  | zero=>rfl
  | succ n=>rw[decide_eq_false (by grind)];exact beq_eq_false_iff_ne.mpr (by grind)
 obtain⟨n,en⟩:∃n,w*h=n+1:=⟨w*h - 1,by grind⟩
 by_cases t0:t=0
 ·refine⟨List.replicate (w*h) (f 0),?_,List.length_replicate ..,fun q hq=>by rw[(List.mem_replicate.mp hq).2];exact(hf 0 (by decide)).2⟩
  refine B2 (ρ:=[‹scr ns›,‹.int at'›,‹.int w›,‹.int h›,none]) rfl ?_
  have hd:(List.range (w*h)).map (fun k=>(f k).d)=(f 0).d::(List.range n).map (fun k=>(f (k+1)).d):=by
   rw[en,List.range_succ_eq_map,xmc,List.map_map];rfl
  rw[hd]at c
  have v:A6 E2 (bp5 (A1 4) Y9 (K3 ⇑1)) (A6 E2 (A1 2) (A1 3)) [‹scr ns›,‹.int at'›,‹.int w›,‹.int h›,‹.list ((f 0).d::(List.range n).map (fun k=>(f (k+1)).d))›]=some (.list (List.replicate (w*h) (f 0).d)):=by
   have a1:bp5 (A1 4) Y9 (K3 ⇑1) [‹scr ns›,‹.int at'›,‹.int w›,‹.int h›,‹.list ((f 0).d::(List.range n).map (fun k=>(f (k+1)).d))›]=some (.list (ab7 ((f 0).d::(List.range n).map (fun k=>(f (k+1)).d)) none (some 1))):=rfl
   have a2:A6 E2 (A1 2) (A1 3) [‹scr ns›,‹.int at'›,‹.int w›,‹.int h›,‹.list ((f 0).d::(List.range n).map (fun k=>(f (k+1)).d))›]=some (.int ((w*h:Nat):Int)):=(R6 rfl rfl).trans mwh
   rw[cr0]at a1
   have a3:=bi2 (xs:=[(f 0).d]) (show w*h<=1000 by grind) (show 1<=1000 by decide)
   rw[V4]at a3
   exact(R6 a1 a2).trans a3
  have t1:tB2 eqD (A2 A7 (A0 (A1 0) (A0 (A6 A9 (A1 1) ⇑7) (A0 ⇑3 A5)))) ⇑0 [‹scr ns›,‹.int at'›,‹.int w›,‹.int h›,‹.list ((f 0).d::(List.range n).map (fun k=>(f (k+1)).d))›]=some true:=by
   simp only[tB2,A6,A2,A0,A5,A1,dC,xms,xbs,xg0,xg1,w9,et',bC8,cv,decide_eq_true t0,U9]
  simp only[ae6,B0,aq6,c,sIf,t1,C3,v,B6,O3,A0,A5,M3,A8,A1,xms,xbs,xw0,xw1,xg0,xg1,if_true,xft,if_false,shD,List.map_replicate]
 ·refine⟨(List.range (w*h)).map f,?_,by rw[List.length_map,List.length_range],fun q hq=>by
   obtain⟨k,hk,rfl⟩:=List.mem_map.mp hq
   exact(hf k (by have:=List.mem_range.mp hk;grind)).2⟩
  refine B2 (ρ:=[‹scr ns›,‹.int at'›,‹.int w›,‹.int h›,none]) rfl ?_
  wp_walk using evD,ae6,c,et',cv,decide_eq_false t0,shD,List.map_map
  rfl
theorem aw7(ns:List Int) (at' w h:Nat) (hn:ns.length<=63) (ha:at' < 2 ^ 20) (w1:1<=w) (w8:w<=8) (h1:1<=h) (h8:h<=8):∃l:List Q4,W3 [scr ns,.int at',.int w,.int h]=some (shD w h l)/\ShOk 8 w h l:=by
 obtain⟨l,e,n,hl⟩:=aC4 ns at' w h hn ha w1 w8 h1 h8 (bd3 ns at' hn ha)
 exact⟨l,e,w1,w8,h1,h8,n,hl⟩
theorem an1{α:Type}(f:α->Bool):∀l:List α,az1 (l.map fun a=>PyData.bool (f a))=some (l.all f)
 | []=>rfl
 | a::l=>by
  show(az1 (l.map fun a=>PyData.bool (f a))).map (fun c=>f a&&c)=_
  rw[an1 f l];rfl
theorem aC9{k w h:Nat}{l:List Q4}(S:ShOk k w h l) (hk:k+k<=8000):x9 [shD w h l]=some (.bool true):=by
 have sz:∀n:Nat,1<=n->n<=8->W6 [.int n]=some (.bool true):=fun n a b=>by
  refine B2 (ρ:=[‹.int n›]) rfl ?_
  have w1:J6 [.int n]=some (.bool true):=rfl
  have a':(1:Int)<=n:=by grind
  have b':(n:Int)<=8:=by grind
  wp_walk using evD,ae7,w1,a',b',decide_true
 have l3:((([.int w,.int h,.tuple (l.map Q4.d)]:List D).length:Nat):Int)=3:=rfl
 have b3:((3:Int)==3)=true:=rfl
 have w8:=S.w8
 have h8:=S.h8
 have wh:w*h<=64:=Nat.mul_le_mul w8 h8
 have zz:T2 [shD w h l]=some (.bool true):=by
  refine B2 (ρ:=[‹shD w h l›]) rfl ?_
  wp_walk using evD,x6,shD,l3,b3,sz w S.w1 S.w8,sz h S.h1 S.h8
 have al:∀q:Option B,C5 1 [] (J3 (A1 1)) (C4 0) D1 (A2 k6 (A0 (A1 0) A5)) [q,‹.tuple (l.map Q4.d)›]=some (l.map fun x=>.bool true):=fun q=>by
  refine Q5 (l:=l) (h:=Q4.d) (r:=[]) rfl rfl (by rw[S.len];grind) fun x hx=>?_
  have:=aZ9 (S.ok x hx) hk
  wp_walk using evD,Q4.d,this
 have mwh:E2 (.int w) (.int h)=some (.int ((w*h:Nat):Int)):=K4 (by grind) (by grind)
 have hb:((((l.map Q4.d).length:Nat):Int)==((w*h:Nat):Int))=true:=by rw[List.length_map,S.len];simp
 have ab:az1 (l.map fun x=>.bool true)=some true:=by rw[an1 (fun _=>true)];simp
 refine B2 (ρ:=[‹shD w h l›,none]) rfl ?_
 simp only[shD]at zz
 wp_walk using evD,an5,shD,zz,al,mwh,hb,ab
end Sh
namespace Sh
open PySem G L2
theorem q4:(4:Nat)<=16777216:=by decide
theorem q3:(3:Nat)<=16777216:=by decide
end Sh
namespace Sh
open PySem G L2
def Dv(N:Nat) (r:Rat):Prop:=∃z:Int,r*(N:Rat)=(z:Rat)
theorem Dv.mul{M N:Nat}{r s:Rat}(h:Dv M r) (g:Dv N s):Dv (M*N) (r*s):=by
 obtain⟨a,ha⟩:=h;obtain⟨b,hb⟩:=g
 exact⟨a*b,by rw[Rat.intCast_mul,← ha,← hb,Rat.natCast_mul];grind⟩
theorem Dv.int(N:Nat) (i:Int):Dv N (i:Rat):=⟨i*N,by rw[Rat.intCast_mul];rfl⟩
theorem Dv.one(N:Nat):Dv N 1:=Dv.int N 1
theorem Dv.right{N:Nat}{r:Rat}(h:Dv N r) (M:Nat):Dv (N*M) r:=by
 have:=h.mul (Dv.one M);rwa [Rat.mul_one]at this
theorem Dv.left{N:Nat}{r:Rat}(h:Dv N r) (M:Nat):Dv (M*N) r:=by
 have:=(Dv.one M).mul h;rwa [Rat.one_mul]at this
theorem Dv.of(a:Int) {N:Nat}(hN:0 < N):Dv N (mkRat a N):=by
 refine⟨a,?_⟩
 have hN':(N:Rat)≠0:=by
  intro h
  have:N=0:=by exact_mod_cast h
  omega
 rw[Rat.mkRat_eq_div]
 exact Rat.div_mul_cancel hN'
def Dn(k:Nat) (q:Q4):Prop:=∃N,0 < N/\N < 2 ^ k/\Dv N q.c/\Dv N q.x/\Dv N q.y/\Dv N q.z
def Ds(k:Nat) (s:Rat):Prop:=∃N,0 < N/\N < 2 ^ k/\Dv N s
theorem u3{a b j k:Nat}(h1:a < 2 ^ j) (h2:b < 2 ^ k):a*b < 2 ^ (j+k):=by
 rw[Nat.pow_add]
 exact Nat.mul_lt_mul'' h1 h2
def Q4.or(q:Q4):Prop:=0<=q.x/\0<=q.y/\0<=q.z/\q.x<=q.c/\q.y<=q.c/\q.z<=q.c/\q.c<=1
theorem Q4.ok.or{k:Nat}{q:Q4}(h:q.ok k):q.or:=⟨h.hx.nn,h.hy.nn,h.hz.nn,h.xc,h.yc,h.zc,h.hc.le⟩
structure Dq (k:Nat) (q:Q4):Prop where
 o:q.or
 n:Dn k q
structure Sr (k:Nat) (s:Rat):Prop where
 h:IsSh k s
 n:Ds k s
end Sh
namespace Sh
open PySem G L2
inductive Nd where
 | layer (nm:D) (m:Man) (s:Rat) (sh:Bool) (lf tp:Int) (mk:Option (List Rat)) (w h:Nat) (l:List Q4) (kb:Nat)
 | tone (nm:D) (r:Rul) (s:Rat) (sh:Bool)
 | group (nm:D) (m:Man) (s:Rat) (sh:Bool) (ns:List Nd)
def mkD:Option (List Rat)->D
 | none=>.none
 | some ms=>.tuple (ms.map fr)
mutual
def Nd.d:Nd->D
 | .layer nm m s sh lf tp mk w h l _=>.tuple [.str "layer", nm,.str m.s,fr s,.bool sh,.int lf,.int tp,mkD mk,shD w h l]
 | .tone nm r s sh=>.tuple [.str "tone", nm,.str r.s,fr s,.bool sh]
 | .group nm m s sh ns=>.tuple [.str "group", nm,.str m.s,fr s,.bool sh,.tuple (Nd.ds ns)]
def Nd.ds:List Nd->List D
 | []=>[]
 | n::r=>n.d::Nd.ds r
end
mutual
def Nd.Ok:Nd->Prop
 | .layer _ _ s _ _ _ mk w h l kb=>Sr 4 s/\ShOk kb w h l/\(∀q∈l,Dq kb q)/\(∀ms,mk=some ms->ms.length=w*h/\∀r∈ms,Sr 4 r)/\1<=kb
 | .tone _ _ s _=>Sr 4 s
 | .group _ _ s _ ns=>Sr 4 s/\Nd.Oks ns
def Nd.Oks:List Nd->Prop
 | []=>True
 | n::r=>n.Ok/\Nd.Oks r
end
mutual
def Nd.wg:Nd->Nat
 | .layer _ _ _ _ _ _ _ _ _ _ kb=>kb+8
 | .tone ..=>6
 | .group _ _ _ _ ns=>5+Nd.wgs ns
def Nd.wgs:List Nd->Nat
 | []=>0
 | n::r=>n.wg+Nd.wgs r
end
mutual
def Nd.dp:Nd->Nat
 | .layer ..=>0
 | .tone ..=>0
 | .group _ _ _ _ ns=>1+Nd.dps ns
def Nd.dps:List Nd->Nat
 | []=>0
 | n::r=>max n.dp (Nd.dps r)
end
theorem cs3:eqD (.str "layer") (.str "tone")=some (.bool false):=G7 (by decide +kernel) (by decide +kernel) (by decide +kernel)
theorem cq9:eqD (.str "tone") (.str "tone")=some (.bool true):=G7 (by decide +kernel) (by decide +kernel) (by decide +kernel)
theorem cs4:eqD (.str "group") (.str "tone")=some (.bool false):=G7 (by decide +kernel) (by decide +kernel) (by decide +kernel)
theorem ca0:eqD (.str "layer") (.str "layer")=some (.bool true):=G7 (by decide +kernel) (by decide +kernel) (by decide +kernel)
theorem ca1:eqD (.str "group") (.str "layer")=some (.bool false):=G7 (by decide +kernel) (by decide +kernel) (by decide +kernel)
theorem cl4:eqD (.str "layer") (.str "group")=some (.bool false):=G7 (by decide +kernel) (by decide +kernel) (by decide +kernel)
theorem ca2:eqD (.str "group") (.str "group")=some (.bool true):=G7 (by decide +kernel) (by decide +kernel) (by decide +kernel)
section
variable {nm:D}{m:Man}{r:Rul}{s:Rat}{sh:Bool}{lf tp:Int}{mk:Option (List Rat)}{w h:Nat}{l:List Q4}{kb:Nat}{ns:List Nd}
theorem bz0:G6 [Nd.d (.layer nm m s sh lf tp mk w h l kb)]=some (.bool sh):=by rw[Nd.d];rfl
theorem bt2:G6 [Nd.d (.tone nm r s sh)]=some (.bool sh):=by rw[Nd.d];rfl
theorem bC0:G6 [Nd.d (.group nm m s sh ns)]=some (.bool sh):=by rw[Nd.d];rfl
theorem bM5:k5 [Nd.d (.tone nm r s sh)]=some (.bool true):=by rw[Nd.d];exact B2 (ρ:=[‹.tuple [.str "tone", nm,.str r.s,fr s,.bool sh]›]) rfl (congrArg (Option.map Fl.rt) cq9)
theorem aQ1:J7 [Nd.d (.layer nm m s sh lf tp mk w h l kb)]=some (.bool true):=by rw[Nd.d];exact B2 (ρ:=[‹.tuple [.str "layer", nm,.str m.s,fr s,.bool sh,.int lf,.int tp,mkD mk,shD w h l]›]) rfl (congrArg (Option.map Fl.rt) ca0)
theorem aR5:J7 [Nd.d (.group nm m s sh ns)]=some (.bool false):=by rw[Nd.d];exact B2 (ρ:=[‹.tuple [.str "group", nm,.str m.s,fr s,.bool sh,.tuple (Nd.ds ns)]›]) rfl (congrArg (Option.map Fl.rt) ca1)
theorem bj5:F5 [Nd.d (.layer nm m s sh lf tp mk w h l kb)]=some (.str m.s):=by rw[Nd.d];rfl
theorem bn8:F5 [Nd.d (.group nm m s sh ns)]=some (.str m.s):=by rw[Nd.d];rfl
theorem aI6:E5 [Nd.d (.layer nm m s sh lf tp mk w h l kb)]=some (fr s):=by rw[Nd.d];rfl
theorem aG8:E5 [Nd.d (.tone nm r s sh)]=some (fr s):=by rw[Nd.d];rfl
theorem aJ3:E5 [Nd.d (.group nm m s sh ns)]=some (fr s):=by rw[Nd.d];rfl
theorem bT3:W2 [Nd.d (.layer nm m s sh lf tp mk w h l kb)]=some (.int lf):=by rw[Nd.d];rfl
theorem cj0:g9 [Nd.d (.layer nm m s sh lf tp mk w h l kb)]=some (.int tp):=by rw[Nd.d];rfl
theorem bT2:W1 [Nd.d (.layer nm m s sh lf tp mk w h l kb)]=some (mkD mk):=by rw[Nd.d];rfl
theorem bz1:O8 [Nd.d (.layer nm m s sh lf tp mk w h l kb)]=some (shD w h l):=by rw[Nd.d];rfl
theorem bC1:F6 [Nd.d (.group nm m s sh ns)]=some (.tuple (Nd.ds ns)):=by rw[Nd.d];rfl
end
end Sh
local macro_rules
  | `(↥$x) => `(PySem.PyData.tuple (Sh.Nd.ds $x))
namespace Sh
open PySem G L2
end Sh
namespace Sh
open PySem G L2
theorem B3{f g:DS}{ρ ρ':Rho}(h:f ρ=some (.nx ρ')):B0 f g ρ=g ρ':=by unfold B0;rw[h];rfl
theorem aH5{f g:DS}{ρ:Rho}{d:D}(h:f ρ=some (.rt d)):B0 f g ρ=some (.rt d):=by unfold B0;rw[h];rfl
theorem ab4{α:Type}{g:D->Rho->Option Rho}{f:DS}{h:α->D}{I:Nat->Rho->Prop}:∀(l:List α) (i:Nat) (ρ:Rho),I i ρ->(∀(j:Nat) (a:α),l[j]? = some a->∀ρ,I (i+j) ρ->∃ρ1,g (h a) ρ=some ρ1/\∃ρ',f ρ1=some (.nx ρ')/\I (i+j+1) ρ')->∃ρ',ad9 g f (l.map h) ρ=some (.nx ρ')/\I (i+l.length) ρ'
 | [],i,ρ,h0,_=>⟨ρ,rfl,h0⟩
 | a::l,i,ρ,h0,H=>by
  obtain⟨ρ1,e1,ρ2,e2,h2⟩:=H 0 a rfl ρ h0
  obtain⟨ρ',e3,h3⟩:=ab4 l (i+1) ρ2 (by simpa using h2) (fun j b hb ρ hρ=>by
   have:=H (j+1) b (by simpa using hb) ρ (by rwa [show i+(j+1)=i+1+j by grind])
   rwa [show i+(j+1)+1=i+1+j+1 by grind]at this)
  refine⟨ρ',?_,by rw[List.length_cons,show i+(l.length+1)=i+1+l.length by grind];exact h3⟩
  simp only[xmc,ad9,e1,xbs,e2,e3]
theorem aD2{α:Type}(x:α) {n:Nat}{P:Nat->α->Prop}(h:∀j,j < n->∃a,P j a):∃f:Nat->α,∀j,j < n->P j (f j):=by
 refine⟨fun j=>if hj:j < n then Classical.choose (h j hj) else x,fun j hj=>?_⟩
 simp only[dif_pos hj]
 exact Classical.choose_spec (h j hj)
theorem K8(ns:List Int) (hn:ns.length<=63) {e m':Int}(k m:Nat) (he:e=(k:Int)) (hm':m'=(m:Int)) (hk:k < 2 ^ 60) (hm:0 < m):∃n:Nat,A7 [scr ns,.int e,.int m']=some (.int n)/\n < m:=by
 subst he hm'
 exact aD4 ns k m hn hk hm
theorem drw(ns:List Int) (hn:ns.length<=63) (a:Nat) (c m:Int) (ha:a < 2 ^ 59) (hc:0<=c/\c < 1048576:=by decide) (hm:0 < m:=by decide):∃n:Nat,A7 [scr ns,.int ((a:Int)+c),.int m]=some (.int n)/\n < m.toNat :=
 K8 ns hn (e:=a+c) (m':=m) (a+c.toNat) m.toNat (by grind) (by grind) (by grind) (by grind)
theorem aA5(ns:List Int) (hn:ns.length<=63) {e:Int}(k:Nat) (he:e=(k:Int)) (hk:k < 2 ^ 40):∃r,G2 [scr ns,.int e]=some (fr r)/\IsSh 4 r:=by
 subst he
 exact j7 ns k hn hk
theorem bd7(ns:List Int) (hn:ns.length<=63) {e:Int}(k w h:Nat) (he:e=(k:Int)) (hk:k < 2 ^ 20) (w1:1<=w) (w8:w<=8) (h1:1<=h) (h8:h<=8):∃l:List Q4,W3 [scr ns,.int e,.int w,.int h]=some (shD w h l)/\ShOk 8 w h l:=by
 subst he
 exact aw7 ns k w h hn hk w1 w8 h1 h8
theorem ab5(r:Rat):Dv r.den r:=by
 have:=Dv.of r.num (J4 r)
 rwa [Rat.mkRat_self]at this
theorem aN3{k:Nat}{s:Rat}(h:IsSh k s):Sr k s:=⟨h,s.den,J4 s,h.bd.den,ab5 s⟩
theorem cl5{q:Q4}(h:q.ok 8):Dq 32 q :=
 ⟨h.or,q.c.den*q.x.den*(q.y.den*q.z.den),Nat.mul_pos (Nat.mul_pos (J4 _) (J4 _)) (Nat.mul_pos (J4 _) (J4 _)),u3 (u3 h.hc.bd.den h.hx.den) (u3 h.hy.den h.hz.den),
  ((ab5 q.c).right _).right _,((ab5 q.x).left _).right _,((ab5 q.y).right _).left _,((ab5 q.z).left _).left _⟩
def SOk(s:Str):Prop:=∀c∈s.cps.toList,97<=c/\c<=122
theorem SOk.ok{s:Str}(h:SOk s):PyData.canLay0 (.str s)=true:=by
 show s.cps.all (· < 0x110000)=true
 rw[Array.all_eq_true']
 intro c hc
 exact decide_eq_true (by have:=h c (Array.mem_toList_iff.mpr hc);grind)
theorem SOk.app{a b:Str}(ha:SOk a) (hb:SOk b):SOk (a++b):=by
 intro c hc
 have:c∈(a.cps++b.cps).toList:=hc
 rw[Array.toList_append]at this
 rcases List.mem_append.mp this with h|h
 ·exact ha c h
 ·exact hb c h
theorem bZ4(x:Str) (n:Nat) (h:n < x.length) (hx:x.length<=1000):∃s:Str,atS x (n:Int)=some (.str s)/\s.length=1/\(SOk x->SOk s):=by
 unfold atS
 rw[if_pos (by grind)]
 have hl:x.cps.toList.length=x.length:=by unfold Str.length;simp
 have h':n < x.cps.toList.length:=by grind
 have:atI x.cps.toList (n:Int)=some x.cps.toList[n]:=by
  unfold atI
  rw[ax0 (by grind) (by grind),xbs,Int.toNat_natCast,List.getElem?_eq_getElem h']
 rw[this]
 refine⟨⟨#[x.cps.toList[n]]⟩,rfl,rfl,fun hs c hc=>?_⟩
 have:c=x.cps.toList[n]:=by simpa using hc
 rw[this]
 exact hs _ (List.getElem_mem h')
theorem bu1(x:Str) (lo hi:Option Int):(slS x lo hi).length<=x.length:=by
 unfold slS
 split
 ·exact Nat.le_refl _
 ·unfold Str.length
  rw[List.size_toArray]
  exact Nat.le_trans (List.length_filterMap_le ..) (PyProof.Rows.indices_len_le ..)
theorem bu0{x:Str}(h:SOk x) (lo hi:Option Int):SOk (slS x lo hi):=by
 unfold slS
 split
 ·exact h
 ·intro c hc
  simp only[List.toList_toArray]at hc
  obtain⟨i,_,e⟩:=List.mem_filterMap.mp hc
  exact h c (Array.mem_toList_iff.mpr (Array.mem_of_getElem? e))
theorem be8{x:Str}(h:SOk x) (k:Int) (hk:k=1\/k=2):SOk (ah4 x k):=by
 unfold ah4
 split
 ·exact h
 ·rename_i e
  rcases hk with rfl|rfl
  ·simp at e
  ·intro c hc
   have:c∈((#[]++x.cps)++x.cps).toList:=hc
   simp at this
   exact h c (Array.mem_toList_iff.mpr this)
theorem bn4{a b:Str}(ha:SOk a) (hb:SOk b):SOk (Builtin.Str.glued "" [a,b]):=by
 intro c hc
 have:c∈(a.cps++("" : Str).cps++b.cps).toList:=hc
 rw[Array.toList_append,Array.toList_append]at this
 rcases List.mem_append.mp this with h|h
 ·rcases List.mem_append.mp h with h|h
  ·exact ha c h
  ·exact absurd h (by simp[show("" : Str).cps = #[] from rfl])
 ·exact hb c h
theorem bE0:SOk "abcdefghijklmnopqrstuvwxyz" := by
 have:("abcdefghijklmnopqrstuvwxyz" : Str).cps.toList.all (fun c=>decide (97<=c/\c<=122))=true:=by decide +kernel
 intro c hc
 exact of_decide_eq_true (List.all_eq_true.mp this c hc)
def ltr(k:Nat):Str:=⟨#[97+k]⟩
theorem bS5:∀k:Nat,k < 14->atS "abcdefghijklmn" (k:Int)=some (.str (ltr k)):=by
 have e:("abcdefghijklmn" : Str)=⟨#[97,98,99,100,101,102,103,104,105,106,107,108,109,110]⟩:=by decide +kernel
 intro k hk
 rw[e]
 rcases k with _|_|_|_|_|_|_|_|_|_|_|_|_|_|k
 all_goals first|rfl|grind
theorem aQ0(k:Nat) (h:k < 14):SOk (ltr k):=by
 intro c hc
 have:c=97+k:=by simpa [ltr] using hc
 grind
def nmS(b:Bool) (k:Nat) (y:Str):Str:=if b=true then ltr k++y else y++ltr k
theorem bx9(b:Bool) {k:Nat}{y:Str}(hk:k < 14) (hy:SOk y):SOk (nmS b k y):=by
 unfold nmS
 split
 ·exact(aQ0 k hk).app hy
 ·exact hy.app (aQ0 k hk)
theorem by0{b:Bool}{i j:Nat}{y z:Str}(e:nmS b i y=nmS b j z):i=j:=by
 unfold nmS at e
 cases b with
 | true =>
  have e:(ltr i).cps++y.cps=(ltr j).cps++z.cps:=congrArg Str.cps e
  have e:=congrArg (fun a=>a.toList.head?) e
  simp[ltr]at e
  omega
 | false =>
  have e:y.cps++(ltr i).cps=z.cps++(ltr j).cps:=congrArg Str.cps e
  have e:=congrArg (fun a=>a.toList.getLast?) e
  simp[ltr]at e
  omega
theorem aA7(x:Str) (k:Int) (hk:k=1\/k=2):(ah4 x k).length<=2*x.length:=by
 unfold ah4
 split
 ·grind
 ·rename_i e
  rcases hk with rfl|rfl
  ·simp at e
  ·show((#[]++x.cps)++x.cps).size<=2*x.cps.size
   simp;grind
theorem bH3(a b:Str) (ha:a.length=1) (hb:b.length=1):M4 (dC (.str "")) (fun _=>some (false,[.str a,.str b])) []=some (.str (Builtin.Str.glued "" [a,b]))/\(Builtin.Str.glued "" [a,b]).length=2:=by
 have h2:(Builtin.Str.glued "" [a,b]).length=2:=by
  show(a.cps++("" : Str).cps++b.cps).size=2
  unfold Str.length at ha hb
  rw[Array.size_append,Array.size_append,ha,hb]
  rfl
 have h1:T9 "" [a,b]<=16777216:=by
  show 0+a.length+("" : Str).length+b.length+("" : Str).length<=16777216
  have:("" : Str).length=0:=rfl
  grind
 refine⟨?_,h2⟩
 show(if T9 "" [a,b]<=16777216/\(Builtin.Str.glued "" [a,b]).length<=16777216 then some (PyData.str (Builtin.Str.glued "" [a,b])) else none)=_
 rw[if_pos ⟨h1,by grind⟩]
theorem bA1{f:DE}{g:Rho->Option (Bool×List D)}{ρ:Rho}{a b:Str}(hf:f ρ=some (.str "")) (hg:g ρ=some (false,[.str a,.str b])) (ha:a.length=1) (hb:b.length=1):M4 f g ρ=some (.str (Builtin.Str.glued "" [a,b])):=by
 rw[← (bH3 a b ha hb).1]
 unfold M4
 rw[hf,hg]
 rfl
theorem by3(x:Str) (k:Int) (hk:k=1\/k=2) (hx:x.length<=1000):aV6 (.str x) (.int k)=some (.str (ah4 x k)):=by
 show(if 1<=k/\k<=2/\x.length<=1000/\(ah4 x k).length<=16777216 then some (PyData.str (ah4 x k)) else none)=_
 have:=aA7 x k hk
 rw[if_pos ⟨by grind,by grind,hx,by grind⟩]
theorem aF2(a b:Str) (ha:a.length<=1000) (hb:b.length<=1000):A9 (.str a) (.str b)=some (.str (a++b)):=by
 show(if a.length+b.length<=16777216 then some (PyData.str (a++b)) else none)=_
 rw[if_pos (by grind)]
theorem cq2:∀n:Nat,n < 2->∃k:Int,atI ([.int 1,.int 2]:List D) (n:Int)=some (.int k)/\(k=1\/k=2)
 | 0,_=>⟨1,rfl,.inl rfl⟩
 | 1,_=>⟨2,rfl,.inr rfl⟩
 | n+2,h=>absurd h (by grind)
def nbA:DS:=(C3 6 (M4 (dC (.str "")) (qN (C5 1 [0,1,5] (G0 ⇑2) (C4 0) D1 (X8 (dC (.str "abcdefghijklmnopqrstuvwxyz")) (A2 A7 (A0 (A1 1) (A0 (A6 A9 (A6 A9 (A6 A9 (A1 2) ⇑1) (A6 E2 ⇑3 (A1 3))) (A1 0)) (A0 ⇑26 A5)))))))))
def nbB:DS:=(C3 6 (A6 aV6 (aK5 (A1 6) Y9 (K3 (A2 A7 (A0 (A1 0) (A0 (A6 A9 (A6 A9 (A1 1) ⇑3) (A6 E2 ⇑3 (A1 5))) (A0 ⇑3 A5)))))) (dIx (qN (A0 ⇑1 (A0 ⇑2 A5))) (A2 A7 (A0 (A1 0) (A0 (A6 A9 (A6 A9 (A1 1) ⇑2) (A6 E2 ⇑3 (A1 5))) (A0 ⇑2 A5)))))))
def nbC:DS:=(V3 4 (dIx (qN (A0 (A6 A9 (A1 6) (X8 (dC (.str "abcdefghijklmn")) (A1 5))) (A0 (A6 A9 (X8 (dC (.str "abcdefghijklmn")) (A1 5)) (A1 6)) A5))) (ai0 (A1 3))))
def aB7:DS:=B0 nbA (B0 nbB nbC)
theorem bn3:at3=(B0 (C3 3 (A6 eqD (A2 A7 (A0 (A1 0) (A0 (A1 1) (A0 ⇑2 A5)))) ⇑0)) (B0 (L5 4 A5) (B0 (k8 (G0 (A1 2)) (C4 5) aB7) (k7 4 (B6 (A1 4)))))):=rfl
def gb0:DS:=(C3 8 (A2 A7 (A0 (A1 0) (A0 (A6 A9 (A6 A9 (A1 1) ⇑3) (A6 E2 ⇑5 (A1 7))) (A0 (A6 A9 (S7 (A8 6)) ⇑1) A5)))))
def gb1:DS:=(C3 9 (A6 A9 (A1 8) (A2 A7 (A0 (A1 0) (A0 (A6 A9 (A6 A9 (A1 1) ⇑4) (A6 E2 ⇑5 (A1 7))) (A0 ⇑3 A5))))))
def gb2:DS:=(C3 10 (dIx (qN (A0 (O3 (A0 ⇑1 (A0 ⇑1 A5))) (A0 (A2 G2 (A0 (A1 0) (A0 (A6 A9 (A6 A9 (A1 1) ⇑5) (A6 E2 ⇑5 (A1 7))) A5))) A5))) (A2 A7 (A0 (A1 0) (A0 (A6 A9 (A6 A9 (A1 1) ⇑6) (A6 E2 ⇑5 (A1 7))) (A0 ⇑2 A5))))))
def gb3:DS:=(C3 11 (dIx (qN (A0 (A1 4) (A0 (dC (.str "atop")) (A0 (A1 4) (A0 (dC (.str "cut")) A5))))) (A2 A7 (A0 (A1 0) (A0 (A6 A9 (A6 A9 (A1 1) ⇑7) (A6 E2 ⇑5 (A1 7))) (A0 ⇑4 A5))))))
def gb4:DS:=(C3 12 (O3 (A0 (dC (.str "group")) (A0 (dIx (A8 3) (A6 A9 (A1 2) (A1 7))) (A0 (A1 11) (A0 (A1 10) (A0 (A6 gtI (A2 A7 (A0 (A1 0) (A0 (A6 A9 (A6 A9 (A1 1) ⇑14) (A1 7)) (A0 ⇑7 A5)))) ⇑0) A5)))))))
def gb5:DS:=(be0 6 (K3 (A1 8)) (K3 (A1 9)) (A0 (A6 A9 (A1 12) (O3 (A0 (M3 (qE (aZ2 (A8 6) (K3 (A1 8)) (K3 (A1 9))))) A5))) A5))
def aR4:DS:=(B0 gb0 (B0 gb1 (B0 gb2 (B0 gb3 (B0 gb4 gb5)))))
def gn0:DS:=(C3 4 (dIx (qN (A0 (dC (.str "over")) (A0 (dC (.str "multiply")) (A0 (dC (.str "screen")) (A0 (dC (.str "plus")) A5))))) (A2 A7 (A0 (A1 0) (A0 (A1 1) (A0 ⇑4 A5))))))
def gn1:DS:=(C3 5 (A2 A7 (A0 (A1 0) (A0 (A6 A9 (A1 1) ⇑1) (A0 (A6 A9 (A1 2) ⇑1) A5)))))
def gn2:DS:=(L5 6 (C5 1 [0,4,3,1] (G0 (A1 5)) (C4 0) D1 (A2 W5 (A0 (A1 1) (A0 (A6 A9 (A6 A9 (A1 4) ⇑20) (A6 E2 ⇑170 (A1 0))) (A0 (dIx (A8 3) (A1 0)) (A0 (A1 2) A5)))))))
def gn3:DS:=(k8 (G0 (A2 A7 (A0 (A1 0) (A0 (A6 A9 (A1 1) ⇑2) (A0 ⇑3 A5))))) (C4 7) aR4)
def gn4:DS:=(B6 (M3 (A8 6)))
theorem bn2:at2=(B0 gn0 (B0 gn1 (B0 gn2 (B0 gn3 gn4)))):=rfl
theorem bR8(ns:List Int) (hn:ns.length<=63) (at' k:Nat) (ha:at' < 2 ^ 20) (hk:k < 14) (a2:Option B) (b:Bool) (L:List D) (a6:Option B):∃x:Str,nbA [‹scr ns›,‹.int at'›,a2,‹.bool b›,some (.own L),‹.int k›,a6]=some (.nx [‹scr ns›,‹.int at'›,a2,‹.bool b›,some (.own L),‹.int k›,‹.str x›])/\x.length=2/\SOk x:=by
 have m3:E2 (.int 3) (.int k)=some (.int ((3*k:Nat):Int)):=K4 (i:=3) (by decide) (by grind)
 have P:∀j,j < 2->∃s:Str,X8 (dC (.str "abcdefghijklmnopqrstuvwxyz")) (A2 A7 (A0 (A1 1) (A0 (A6 A9 (A6 A9 (A6 A9 (A1 2) ⇑1) (A6 E2 ⇑3 (A1 3))) (A1 0)) (A0 ⇑26 A5)))) [‹.int (j:Nat)›,‹scr ns›,‹.int at'›,‹.int k›]=some (.str s)/\s.length=1/\SOk s:=fun j hj=>by
  obtain⟨d,ed,ld⟩:=K8 ns hn (e:=(at':Int)+1+((3*k:Nat):Int)+(j:Int)) (m':=26) (at'+1+3*k+j) 26 (by grind) rfl (by grind) (by decide)
  obtain⟨s,es,ls,ss⟩:=bZ4 "abcdefghijklmnopqrstuvwxyz" d ld (by decide)
  refine⟨s,?_,ls,ss bE0⟩
  wp_walk using evD,X8,m3,ed,es
 obtain⟨S,hS⟩:=aD2 (x:=("" : Str)) P
 have c:C5 1 [0,1,5] (G0 ⇑2) (C4 0) D1 (X8 (dC (.str "abcdefghijklmnopqrstuvwxyz")) (A2 A7 (A0 (A1 1) (A0 (A6 A9 (A6 A9 (A6 A9 (A1 2) ⇑1) (A6 E2 ⇑3 (A1 3))) (A1 0)) (A0 ⇑26 A5))))) [‹scr ns›,‹.int at'›,a2,‹.bool b›,some (.own L),‹.int k›,a6]=some ((List.range 2).map fun j=>.str (S j)) :=
  Q5 (l:=List.range 2) (h:=fun j:Nat=>PyData.int j) (r:=[‹scr ns›,‹.int at'›,‹.int k›]) rfl (X0 (n:=2) rfl (by decide)) (by decide) fun j hj=>(hS j (List.mem_range.mp hj)).1
 refine⟨Builtin.Str.glued "" [S 0,S 1],?_,(bH3 _ _ (hS 0 (by decide)).2.1 (hS 1 (by decide)).2.1).2,bn4 (hS 0 (by decide)).2.2 (hS 1 (by decide)).2.2⟩
 have jn:=bA1 (f:=dC (.str "")) (g:=qN (C5 1 [0,1,5] (G0 ⇑2) (C4 0) D1 (X8 (dC (.str "abcdefghijklmnopqrstuvwxyz")) (A2 A7 (A0 (A1 1) (A0 (A6 A9 (A6 A9 (A6 A9 (A1 2) ⇑1) (A6 E2 ⇑3 (A1 3))) (A1 0)) (A0 ⇑26 A5))))))) (ρ:=[‹scr ns›,‹.int at'›,a2,‹.bool b›,some (.own L),‹.int k›,a6]) rfl (by unfold qN;rw[c];rfl) (hS 0 (by decide)).2.1 (hS 1 (by decide)).2.1
 unfold nbA C3
 rw[jn]
 rfl
theorem bR7(ns:List Int) (hn:ns.length<=63) (at' k:Nat) (ha:at' < 2 ^ 20) (hk:k < 14) (a2:Option B) (b:Bool) (L:List D) (x:Str) (hx:x.length=2) (sx:SOk x):∃y:Str,nbB [‹scr ns›,‹.int at'›,a2,‹.bool b›,some (.own L),‹.int k›,‹.str x›]=some (.nx [‹scr ns›,‹.int at'›,a2,‹.bool b›,some (.own L),‹.int k›,‹.str y›])/\y.length<=4/\SOk y:=by
 have m3:E2 (.int 3) (.int k)=some (.int ((3*k:Nat):Int)):=K4 (i:=3) (by decide) (by grind)
 obtain⟨d,ed,ld⟩:=K8 ns hn (e:=(at':Int)+3+((3*k:Nat):Int)) (m':=3) (at'+3+3*k) 3 (by grind) rfl (by grind) (by decide)
 obtain⟨d',ed',ld'⟩:=K8 ns hn (e:=(at':Int)+2+((3*k:Nat):Int)) (m':=2) (at'+2+3*k) 2 (by grind) rfl (by grind) (by decide)
 obtain⟨kk,ek,hk'⟩:=cq2 d' ld'
 have sl:=bu1 x none (some (d:Int))
 have rl:=aA7 (slS x none (some (d:Int))) kk hk'
 refine⟨ah4 (slS x none (some (d:Int))) kk,?_,by grind,be8 (bu0 sx _ _) kk hk'⟩
 have a1:aK5 (A1 6) Y9 (K3 (A2 A7 (A0 (A1 0) (A0 (A6 A9 (A6 A9 (A1 1) ⇑3) (A6 E2 ⇑3 (A1 5))) (A0 ⇑3 A5))))) [‹scr ns›,‹.int at'›,a2,‹.bool b›,some (.own L),‹.int k›,‹.str x›]=some (.str (slS x none (some (d:Int)))):=by
  have cnd:x.length<=1000/\(slS x none (some (d:Int))).length<=16777216:=⟨by grind,by grind⟩
  wp_walk using evD,aK5,m3,ed,if_pos cnd
 have a2:dIx (qN (A0 ⇑1 (A0 ⇑2 A5))) (A2 A7 (A0 (A1 0) (A0 (A6 A9 (A6 A9 (A1 1) ⇑2) (A6 E2 ⇑3 (A1 5))) (A0 ⇑2 A5)))) [‹scr ns›,‹.int at'›,a2,‹.bool b›,some (.own L),‹.int k›,‹.str x›]=some (.int kk):=by
  wp_walk using evD,m3,ed',ek
 unfold nbB C3
 rw[R6 a1 a2,by3 _ kk hk' (by grind)]
 rfl
theorem ifb(b:Bool) (x y:D):atI [x,y] (if b=true then 1 else 0)=some (if b=true then y else x):=by cases b<;>rfl
theorem bR6(ns:List Int) (at' k:Nat) (hk:k < 14) (a2:Option B) (b:Bool) (L:List D) (hL:L.length<=100) (y:Str) (hy:y.length<=4):nbC [‹scr ns›,‹.int at'›,a2,‹.bool b›,some (.own L),‹.int k›,‹.str y›]=some (.nx [‹scr ns›,‹.int at'›,a2,‹.bool b›,some (.own (L++[.str (nmS b k y)])),‹.int k›,‹.str y›]):=by
 have ec:=bS5 k hk
 have lc:(ltr k).length=1:=rfl
 have c1:=aF2 y (ltr k) (by grind) (by grind)
 have c2:=aF2 (ltr k) y (by grind) (by grind)
 have hl:L.length < 16777216:=by grind
 have e:dIx (qN (A0 (A6 A9 (A1 6) (X8 (dC (.str "abcdefghijklmn")) (A1 5))) (A0 (A6 A9 (X8 (dC (.str "abcdefghijklmn")) (A1 5)) (A1 6)) A5))) (ai0 (A1 3)) [‹scr ns›,‹.int at'›,a2,‹.bool b›,some (.own L),‹.int k›,‹.str y›]=some (.str (nmS b k y)):=by
  wp_walk using evD,X8,ec,c1,c2,ifb
  cases b<;>rfl
 unfold nbC V3
 simp only[xg0,xg1,if_pos hl,e,xms,xw0,xw1]
theorem bi1(ns:List Int) (hn:ns.length<=63) (at' many:Nat) (ha:at' < 2 ^ 20) (hm:many<=14):∃L:List D,j9 [scr ns,.int at',.int many]=some (.list L)/\L.length=many/\∃b:Bool,∀i,i < many->∃y,L[i]? = some (.str (nmS b i y))/\SOk y/\y.length<=4:=by
 obtain⟨d,ed,ld⟩:=K8 ns hn (e:=(at':Int)) (m':=2) at' 2 rfl rfl (by grind) (by decide)
 obtain⟨ρ',e,L,a5,a6,hρ,hL,hP⟩:=ab4 (g:=C4 5) (f:=aB7) (h:=fun j:Nat=>PyData.int j) (I:=fun i ρ=>∃(L:List D) (a5 a6:Option B),ρ=[‹scr ns›,‹.int at'›,‹.int many›,‹.bool ((d:Int)==0)›,some (.own L),a5,a6]/\L.length=i/\∀n,n < i->∃y,L[n]? = some (.str (nmS ((d:Int)==0) n y))/\SOk y/\y.length<=4) (List.range many) 0 [‹scr ns›,‹.int at'›,‹.int many›,‹.bool ((d:Int)==0)›,some (.own []),none,none] ⟨[],none,none,rfl,rfl,fun n h=>absurd h (Nat.not_lt_zero n)⟩ (fun j a hj ρ hρ=>by
  obtain⟨L,a5,a6,rfl,hL,hP⟩:=hρ
  obtain⟨hj1,hj2⟩:=List.getElem?_eq_some_iff.mp hj
  rw[List.length_range]at hj1
  rw[List.getElem_range]at hj2
  subst hj2
  refine⟨_,rfl,?_⟩
  simp only[xw0,xw1]
  obtain⟨x,e1,hx,sx⟩:=bR8 ns hn at' j ha (by grind) (‹.int many›) ((d:Int)==0) L a6
  obtain⟨y,e2,hy,sy⟩:=bR7 ns hn at' j ha (by grind) (‹.int many›) ((d:Int)==0) L x hx sx
  have e3:=bR6 ns at' j (by grind) (‹.int many›) ((d:Int)==0) L (by grind) y hy
  have eb:aB7 [‹scr ns›,‹.int at'›,‹.int many›,‹.bool ((d:Int)==0)›,some (.own L),‹.int j›,a6]=some (.nx [‹scr ns›,‹.int at'›,‹.int many›,‹.bool ((d:Int)==0)›,some (.own (L++[.str (nmS ((d:Int)==0) j y)])),‹.int j›,‹.str y›]):=by
   unfold aB7
   rw[B3 e1,B3 e2,e3]
  refine⟨_,eb,L++[.str (nmS ((d:Int)==0) j y)],_,_,rfl,by rw[List.length_append,hL];rfl,fun n hn=>?_⟩
  by_cases q:n < 0+j
  ·obtain⟨z,e1,e2⟩:=hP n q
   exact⟨z,by rw[List.getElem?_append_left (by grind)];exact e1,e2⟩
  ·have:n=L.length:=by grind
   refine⟨y,?_,sy,hy⟩
   rw[this,List.getElem?_append_right (Nat.le_refl _),Nat.sub_self]
   rw[show L.length=j by grind]
   rfl)
 subst hρ
 rw[List.length_range,Nat.zero_add]at hL hP
 refine⟨L,?_,hL,_,hP⟩
 refine B2 (ρ:=[‹scr ns›,‹.int at'›,‹.int many›,none,none,none,none]) rfl ?_
 have rn:G0 (A1 2) [‹scr ns›,‹.int at'›,‹.int many›,‹.bool ((d:Int)==0)›,some (.own []),none,none]=_:=X0 (n:=many) rfl (by grind)
 have s1:(L5 4 A5) [‹scr ns›,‹.int at'›,‹.int many›,‹.bool ((d:Int)==0)›,none,none,none]=some (.nx [‹scr ns›,‹.int at'›,‹.int many›,‹.bool ((d:Int)==0)›,some (.own []),none,none]):=rfl
 have s2:(k8 (G0 (A1 2)) (C4 5) aB7) [‹scr ns›,‹.int at'›,‹.int many›,‹.bool ((d:Int)==0)›,some (.own []),none,none]=some (.nx [‹scr ns›,‹.int at'›,‹.int many›,‹.bool ((d:Int)==0)›,some (.own L),a5,a6]):=by
  unfold k8
  rw[rn]
  exact e
 have s3:(k7 4 (B6 (A1 4))) [‹scr ns›,‹.int at'›,‹.int many›,‹.bool ((d:Int)==0)›,some (.own L),a5,a6]=some (.rt (.list L)):=rfl
 rw[bn3]
 refine(B3 (by simp only[C3,A6,A2,A0,A5,A1,dC,xbs,xms,xg0,xg1,xw0,xw1,ed,bC8];rfl)).trans ?_
 rw[B3 s1,B3 s2]
 exact s3
theorem cp6:∀n:Nat,n < 6->∃m:Man,atI ([.str "over", .str "multiply", .str "screen", .str "plus", .str "atop", .str "cut"]:List D) (n:Int)=some (.str m.s)
 | 0,_=>⟨.over,rfl⟩
 | 1,_=>⟨.mult,rfl⟩
 | 2,_=>⟨.screen,rfl⟩
 | 3,_=>⟨.plus,rfl⟩
 | 4,_=>⟨.atop,rfl⟩
 | 5,_=>⟨.cut,rfl⟩
 | n+6,h=>absurd h (by grind)
theorem cp7:∀n:Nat,n < 4->∃m:Man,atI ([.str "over", .str "multiply", .str "screen", .str "plus"]:List D) (n:Int)=some (.str m.s)
 | 0,_=>⟨.over,rfl⟩
 | 1,_=>⟨.mult,rfl⟩
 | 2,_=>⟨.screen,rfl⟩
 | 3,_=>⟨.plus,rfl⟩
 | n+4,h=>absurd h (by grind)
theorem ci3(m:Man):∀n:Nat,n < 4->∃m':Man,atI ([.str m.s,.str "atop", .str m.s,.str "cut"]:List D) (n:Int)=some (.str m'.s)
 | 0,_=>⟨m,rfl⟩
 | 1,_=>⟨.atop,rfl⟩
 | 2,_=>⟨m,rfl⟩
 | 3,_=>⟨.cut,rfl⟩
 | n+4,h=>absurd h (by omega)
theorem cp0:∀n:Nat,n < 3->∃r:Rul,atI ([.str "turn", .str "grey", .str "round"]:List D) (n:Int)=some (.str r.s)
 | 0,_=>⟨.turn,rfl⟩
 | 1,_=>⟨.grey,rfl⟩
 | 2,_=>⟨.round,rfl⟩
 | n+3,h=>absurd h (by grind)
theorem aT4(n:Nat):((n:Int)==0)=decide (n=0):=by
 cases n with
 | zero=>rfl
 | succ n=>rw[decide_eq_false (by omega)];exact beq_eq_false_iff_ne.mpr (by omega)
theorem ba6(n:Nat):(decide ((0:Int) < (n:Int)))=decide (0 < n):=by
 cases n with
 | zero=>rfl
 | succ n=>rw[decide_eq_true (by omega),decide_eq_true (by omega)]
theorem ad1(n:Nat):(1:Int)+(n:Int)=((1+n:Nat):Int):=by grind
def Nd.nm:Nd->D
 | .layer nm ..=>nm
 | .tone nm ..=>nm
 | .group nm ..=>nm
mutual
def Nd.near:Nd->Prop
 | .layer _ _ _ _ lf tp _ w h l kb=>-2<=lf/\lf<=2/\-2<=tp/\tp<=2/\kb<=40/\w<=3/\h<=3/\∀q∈l,q.ok 8
 | .tone ..=>True
 | .group _ _ _ _ ns=>Nd.nears ns
def Nd.nears:List Nd->Prop
 | []=>True
 | n::r=>n.near/\Nd.nears r
end
theorem V6:∀l:List Nd,Nd.nears l↔∀n∈l,n.near
 | []=>by simp[Nd.nears]
 | n::r=>by simp[Nd.nears,V6 r]
abbrev lv(ns:List Int) (at':Nat) (nm:D) (m:Man) (s:Rat) (d:Nat) (r:Rho):Rho:=‹scr ns›::‹.int at'›::‹nm›::‹.str m.s›::‹fr s›::‹.bool (decide (0 < d))›::r
theorem by8(ns:List Int) (hn:ns.length<=63) (at':Nat) (ha:at' < 2 ^ 19) (nm:D) (m:Man):∃n:Nd,W5 [scr ns,.int at',nm,.str m.s]=some n.d/\n.Ok/\n.dp=0/\n.wg<=40/\n.nm=nm/\n.near:=by
 obtain⟨s,es,hs⟩:=j7 ns at' hn (by grind)
 have es:G2 [scr ns,.int at']=some (fr s):=es
 obtain⟨d3,e3,l3⟩:=drw ns hn at' 3 6 (by grind)
 obtain⟨d4,e4,l4⟩:=drw ns hn at' 4 6 (by grind)
 obtain⟨d6,e6,l6⟩:=drw ns hn at' 6 3 (by grind)
 obtain⟨d7,e7,l7⟩:=drw ns hn at' 7 3 (by grind)
 obtain⟨d8,e8,l8⟩:=drw ns hn at' 8 3 (by grind)
 obtain⟨d9,e9,l9⟩:=drw ns hn at' 9 3 (by grind)
 obtain⟨d10,e10,l10⟩:=drw ns hn at' 10 4 (by grind)
 obtain⟨d11,e11,l11⟩:=drw ns hn at' 11 4 (by grind)
 obtain⟨d12,e12,l12⟩:=drw ns hn at' 12 3 (by grind)
 obtain⟨d5,e5,l5⟩:=drw ns hn at' 5 3 (by grind)
 obtain⟨d5',e5',l5'⟩:=drw ns hn at' 5 6 (by grind)
 by_cases t4:d4=0
 ·obtain⟨r,er⟩:=cp0 d5 l5
  refine⟨.tone nm r s (decide (0 < d3)),?_,aN3 hs,rfl,by show 6<=40;decide,rfl,by rw[Nd.near];trivial⟩
  have s2:P3 (lv ns at' nm m s d3 [none,none,none,none,none,none,none])=some (.rt (.tuple [.str "tone", nm,.str r.s,fr s,.bool (decide (0 < d3))])):=by
   wp_walk using evD,P3,lv,e4,aT4,decide_eq_true t4,e5,er
  refine B2 (ρ:=[‹scr ns›,‹.int at'›,‹nm›,‹.str m.s›,none,none,none,none,none,none,none,none,none]) rfl ?_
  unfold an3
  refine(B3 (by wp_walk using evD,Y6,lv,es;rfl)).trans ?_
  refine(B3 (by wp_walk using evD,Y5,lv,e3,ba6;rfl)).trans ?_
  rw[aH5 s2,Nd.d]
 have s2:P3 (lv ns at' nm m s d3 [none,none,none,none,none,none,none])=some (.nx (lv ns at' nm m s d3 [none,none,none,none,none,none,none])):=by
  wp_walk using evD,P3,lv,e4,aT4,decide_eq_false t4
 obtain⟨m0,em0⟩:=cp6 d5' l5'
 obtain⟨m1,s4⟩:∃m1:Man,T8 (lv ns at' nm m s d3 [‹.str m0.s›,none,none,none,none,none,none])=some (.nx (lv ns at' nm m s d3 [‹.str m1.s›,none,none,none,none,none,none])):=by
  by_cases t6:0 < d6
  ·exact⟨m,by wp_walk using evD,T8,lv,e6,ba6,decide_eq_true t6⟩
  ·exact⟨m0,by wp_walk using evD,T8,lv,e6,ba6,decide_eq_false t6⟩
 have wh:(1+d7)*(1+d8)<=9:=Nat.mul_le_mul (show 1+d7<=3 by grind) (show 1+d8<=3 by grind)
 have mwh:E2 (.int ((1+d7:Nat):Int)) (.int ((1+d8:Nat):Int))=some (.int (((1+d7)*(1+d8):Nat):Int)):=K4 (by grind) (by grind)
 obtain⟨mk,s8,hmk⟩:∃mk:Option (List Rat),T7 (lv ns at' nm m s d3 [‹.str m1.s›,‹.int ((1+d7:Nat):Int)›,‹.int ((1+d8:Nat):Int)›,some (.val .none),none,none,none])=some (.nx (lv ns at' nm m s d3 [‹.str m1.s›,‹.int ((1+d7:Nat):Int)›,‹.int ((1+d8:Nat):Int)›,‹mkD mk›,none,none,none]))/\∀ms,mk=some ms->ms.length=(1+d7)*(1+d8)/\∀r∈ms,Sr 4 r:=by
  by_cases t9:d9=0
  ·have P:∀j,j < 9->∃r:Rat,G2 [scr ns,.int ((at':Int)+20+((3*j:Nat):Int))]=some (fr r)/\IsSh 4 r:=fun j hj=>aA5 ns hn (at'+20+3*j) (by grind) (by grind)
   obtain⟨R,hR⟩:=aD2 (x:=(0:Rat)) P
   have c:C5 1 [0,1] (G0 (A6 E2 (A1 7) (A1 8))) (C4 0) D1 (A2 G2 (A0 (A1 1) (A0 (A6 A9 (A6 A9 (A1 2) ⇑20) (A6 E2 ⇑3 (A1 0))) A5))) (lv ns at' nm m s d3 [‹.str m1.s›,‹.int ((1+d7:Nat):Int)›,‹.int ((1+d8:Nat):Int)›,some (.val .none),none,none,none])=some ((List.range ((1+d7)*(1+d8))).map fun j=>fr (R j)):=by
    refine Q5 (l:=List.range ((1+d7)*(1+d8))) (h:=fun j:Nat=>PyData.int j) (r:=[‹scr ns›,‹.int at'›]) rfl (X0 ((R6 rfl rfl).trans mwh) (by grind)) (by rw[List.length_range];grind) fun j hj=>?_
    have hj:=List.mem_range.mp hj
    have m3:E2 (.int 3) (.int j)=some (.int ((3*j:Nat):Int)):=K4 (i:=3) (by decide) (by grind)
    wp_walk using evD,lv,m3,(hR j (by grind)).1
   refine⟨some ((List.range ((1+d7)*(1+d8))).map R),?_,fun ms e=>?_⟩
   ·simp only[T7,sIf,tB2,C3,M3,qN,c,A6,A2,A0,A5,A1,dC,w9,e9,bC8,aT4,decide_eq_true t9,U9,xbs,xms,xg0,xg1,xw0,xw1,if_true,xft,if_false,mkD,List.map_map]
    rfl
   ·cases e
    refine⟨by rw[List.length_map,List.length_range],fun r hr=>?_⟩
    obtain⟨j,hj,rfl⟩:=List.mem_map.mp hr
    exact aN3 (hR j (by have:=List.mem_range.mp hj;grind)).2
  ·exact⟨none,by(wp_walk using evD,T7,lv,e9,aT4,decide_eq_false t9,mkD),fun ms e=>by cases e⟩
 obtain⟨w,h,lf,tp,mk',s11,hw,hh,hmk',hof⟩:∃(w h:Nat) (lf tp:Int) (mk':Option (List Rat)),R4 (lv ns at' nm m s d3 [‹.str m1.s›,‹.int ((1+d7:Nat):Int)›,‹.int ((1+d8:Nat):Int)›,‹mkD mk›,‹.int ((d10:Int) - 1)›,‹.int ((d11:Int) - 1)›,none])=some (.nx (lv ns at' nm m s d3 [‹.str m1.s›,‹.int (w:Nat)›,‹.int (h:Nat)›,‹mkD mk'›,‹.int lf›,‹.int tp›,none]))/\(1<=w/\w<=3)/\(1<=h/\h<=3)/\(∀ms,mk'=some ms->ms.length=w*h/\∀r∈ms,Sr 4 r)/\(-2<=lf/\lf<=2/\-2<=tp/\tp<=2):=by
  by_cases t12:d12=0
  ·refine⟨3,3,0,0,none,?_,by decide,by decide,(fun ms e=>by cases e),by decide⟩
   have l5:∀a b c d e:D,([a,b,c,d,e]:List D).length=5:=fun _ _ _ _ _=>rfl
   wp_walk using evD,R4,lv,e12,aT4,decide_eq_true t12,l5,mkD
   rfl
  ·exact⟨1+d7,1+d8,(d10:Int) - 1,(d11:Int) - 1,mk,by(wp_walk using evD,R4,lv,e12,aT4,decide_eq_false t12),by grind,by grind,hmk,by grind⟩
 obtain⟨l,el,S⟩:=bd7 ns hn (e:=(at':Int)+50) (at'+50) w h (by grind) (by grind) hw.1 (by grind) hh.1 (by grind)
 refine⟨.layer nm m1 s (decide (0 < d3)) lf tp mk' w h l 32,?_,?_,rfl,Nat.le_refl _,rfl,by rw[Nd.near];exact⟨hof.1,hof.2.1,hof.2.2.1,hof.2.2.2,by decide,by grind,by grind,S.ok⟩⟩
 ·have s13:W7 (lv ns at' nm m s d3 [‹.str m1.s›,‹.int (w:Nat)›,‹.int (h:Nat)›,‹mkD mk'›,‹.int lf›,‹.int tp›,‹shD w h l›])=some (.rt (.tuple [.str "layer", nm,.str m1.s,fr s,.bool (decide (0 < d3)),.int lf,.int tp,mkD mk',shD w h l])):=by
   wp_walk using evD,W7,lv
  refine B2 (ρ:=[‹scr ns›,‹.int at'›,‹nm›,‹.str m.s›,none,none,none,none,none,none,none,none,none]) rfl ?_
  unfold an3
  refine(B3 (by wp_walk using evD,Y6,lv,es;rfl)).trans ?_
  refine(B3 (by wp_walk using evD,Y5,lv,e3,ba6;rfl)).trans ?_
  rw[B3 s2]
  refine(B3 (by wp_walk using evD,af8,lv,e5',em0;rfl)).trans ?_
  rw[B3 s4]
  refine(B3 (by wp_walk using evD,af7,lv,e7,ad1;rfl)).trans ?_
  refine(B3 (by wp_walk using evD,af6,lv,e8,ad1;rfl)).trans ?_
  refine(B3 (by wp_walk using evD,af5,lv;rfl)).trans ?_
  rw[B3 s8]
  refine(B3 (by wp_walk using evD,af4,lv,e10;rfl)).trans ?_
  refine(B3 (by wp_walk using evD,aa2,lv,e11;rfl)).trans ?_
  rw[B3 s11]
  refine(B3 (by wp_walk using evD,aa1,lv,el;rfl)).trans ?_
  rw[s13,Nd.d]
 ·rw[Nd.Ok]
  exact⟨aN3 hs,⟨S.w1,S.w8,S.h1,S.h8,S.len,fun q hq=>(S.ok q hq).mono (by decide)⟩,fun q hq=>cl5 (S.ok q hq),hmk',by decide⟩
end Sh
namespace Sh
open PySem G L2
theorem X6:∀l:List Nd,Nd.ds l=l.map Nd.d
 | []=>by rw[Nd.ds];rfl
 | n::r=>by rw[Nd.ds,X6 r];rfl
theorem X1:∀l:List Nd,Nd.Oks l↔∀n∈l,n.Ok
 | []=>by simp[Nd.Oks]
 | n::r=>by simp[Nd.Oks,X1 r]
theorem y6:∀a b:List Nd,Nd.wgs (a++b)=Nd.wgs a+Nd.wgs b
 | [],b=>by simp[Nd.wgs]
 | n::a,b=>by rw[xca,Nd.wgs,Nd.wgs,y6 a b];grind
theorem j0:∀a b:List Nd,Nd.dps (a++b)=max (Nd.dps a) (Nd.dps b)
 | [],b=>by simp[Nd.dps]
 | n::a,b=>by rw[xca,Nd.dps,Nd.dps,j0 a b,Nat.max_assoc]
theorem bb5:∀l:List Nd,(∀n∈l,n.wg<=40)->Nd.wgs l<=40*l.length
 | [],_=>by simp[Nd.wgs]
 | n::l,h=>by
  have a:=h n (List.mem_cons_self ..)
  have b:=bb5 l fun m hm=>h m (List.mem_cons_of_mem _ hm)
  rw[Nd.wgs,List.length_cons];grind
theorem aD5:∀l:List Nd,(∀n∈l,n.dp=0)->Nd.dps l=0
 | [],_=>by simp[Nd.dps]
 | n::l,h=>by
  have a:=h n (List.mem_cons_self ..)
  have b:=aD5 l fun m hm=>h m (List.mem_cons_of_mem _ hm)
  rw[Nd.dps];grind
mutual
def Nd.nms:Nd->List D
 | .layer nm _ _ _ _ _ _ _ _ _ _=>[nm]
 | .tone nm _ _ _=>[nm]
 | .group nm _ _ _ ns=>nm::Nd.nmss ns
def Nd.nmss:List Nd->List D
 | []=>[]
 | n::r=>n.nms++Nd.nmss r
end
theorem M9:∀a b:List Nd,Nd.nmss (a++b)=Nd.nmss a++Nd.nmss b
 | [],b=>by simp[Nd.nmss]
 | n::a,b=>by rw[xca,Nd.nmss,Nd.nmss,M9 a b,List.append_assoc]
mutual
def Nd.thin:Nd->Prop
 | .layer ..=>True
 | .tone ..=>True
 | .group _ _ _ _ ns=>ns.length<=1000/\Nd.thins ns
def Nd.thins:List Nd->Prop
 | []=>True
 | n::r=>n.thin/\Nd.thins r
end
theorem V0:∀l:List Nd,Nd.thins l↔∀n∈l,n.thin
 | []=>by simp[Nd.thins]
 | n::r=>by simp[Nd.thins,V0 r]
def ah6(l:List Nd) (a c:Nat) (g:List Nd->Nd):List Nd:=l.take a++[g ((l.drop a).take (c - a))]++l.drop c
theorem bN1(l:List Nd) {a c:Nat}(h:a<=c):l.take a++(l.drop a).take (c - a)++l.drop c=l:=by
 have e:l.drop c=(l.drop a).drop (c - a):=by rw[List.drop_drop];congr 1;grind
 rw[e,List.append_assoc,List.take_append_drop,List.take_append_drop]
theorem bC9{ds:List D}{a b:Nat}(ha:a<=ds.length):ab7 ds (some (a:Int)) (some (b:Int))=(ds.drop a).take (min b ds.length - a)/\∀es:List D,ak3 ds (some (a:Int)) (some (b:Int)) es=ds.take a++es++ds.drop (max a (min b ds.length)):=by
 have h1:HT.sIx ds.length 0 (some (a:Int))=a:=by rw[HT.sIx_nat];grind
 have h2:HT.sIx ds.length ds.length (some (b:Int))=min b ds.length:=HT.sIx_nat ..
 refine⟨?_,fun es=>?_⟩
 ·unfold ab7;rw[h1,h2]
 ·unfold ak3;rw[h1,h2]
abbrev gE(ns:List Int) (at' most:Nat) (N:List D) (m:Man) (r:Rho):Rho:=‹scr ns›::‹.int at'›::‹.int most›::‹.list N›::‹.str m.s›::r
theorem bn7(ns:List Int) (hn:ns.length<=63) (at' most k:Nat) (ha:at' < 2 ^ 18) (hk:k < 2) (hmost:most<=6) (N:List D) (hN:most+2<=N.length) (m:Man) (l:List Nd) (hl:l.length<=100) (a5 a8 a9 a10 a11 a12:Option B) :
  ∃(a c:Nat) (nm:D) (m':Man) (s:Rat) (sh:Bool) (b8 b9 b10 b11 b12:Option B),aR4 (gE ns at' most N m [a5,some (.own (Nd.ds l)),‹.int k›,a8,a9,a10,a11,a12])=some (.nx (gE ns at' most N m [a5,some (.own (Nd.ds (ah6 l a c (Nd.group nm m' s sh)))),‹.int k›,b8,b9,b10,b11,b12]))/\a<=c/\c<=l.length/\IsSh 4 s/\nm=N.getD (most+k) .none:=by
 have m5:E2 (.int 5) (.int k)=some (.int ((5*k:Nat):Int)):=K4 (i:=5) (by decide) (by grind)
 have hds:(Nd.ds l).length=l.length:=by rw[X6,List.length_map]
 obtain⟨f,ef,lf⟩:=K8 ns hn (e:=(at':Int)+3+((5*k:Nat):Int)) (m':=(((Nd.ds l).length:Nat):Int)+1) (at'+3+5*k) (l.length+1) (by grind) (by rw[hds];grind) (by grind) (by grind)
 obtain⟨d,ed,ld⟩:=K8 ns hn (e:=(at':Int)+4+((5*k:Nat):Int)) (m':=3) (at'+4+5*k) 3 (by grind) rfl (by grind) (by decide)
 obtain⟨s0,es0,hs0⟩:=aA5 ns hn (e:=(at':Int)+5+((5*k:Nat):Int)) (at'+5+5*k) (by grind) (by grind)
 obtain⟨d6,e6,l6⟩:=K8 ns hn (e:=(at':Int)+6+((5*k:Nat):Int)) (m':=2) (at'+6+5*k) 2 (by grind) rfl (by grind) (by decide)
 obtain⟨d7,e7,l7⟩:=K8 ns hn (e:=(at':Int)+7+((5*k:Nat):Int)) (m':=4) (at'+7+5*k) 4 (by grind) rfl (by grind) (by decide)
 obtain⟨d14,e14,l14⟩:=K8 ns hn (e:=(at':Int)+14+(k:Int)) (m':=7) (at'+14+k) 7 (by grind) rfl (by grind) (by decide)
 obtain⟨m',em'⟩:=ci3 m d7 l7
 obtain⟨s,est,hs⟩:∃s:Rat,atI ([.tuple [.int 1,.int 1],fr s0]:List D) (d6:Int)=some (fr s)/\IsSh 4 s:=by
  rcases(show d6=0\/d6=1 by grind) with rfl|rfl
  ·exact⟨1,rfl,Bd.one.mono (by decide),Rat.le_refl⟩
  ·exact⟨s0,rfl,hs0⟩
 obtain⟨nm,enm,hnm⟩:∃nm,atI N ((most:Int)+(k:Int))=some nm/\nm=N.getD (most+k) .none:=by
  unfold atI
  rw[ax0 (by grind) (by grind),xbs]
  have h':((most:Int)+(k:Int)).toNat=most+k:=by grind
  rw[h']
  exact⟨N[most+k]'(by grind),List.getElem?_eq_getElem (by grind),by rw[List.getD_eq_getElem?_getD,List.getElem?_eq_getElem (by grind)];rfl⟩
 refine⟨f,max f (min (f+d) l.length),nm,m',s,decide (0 < d14),?_⟩
 have s0:gb0 (gE ns at' most N m [a5,some (.own (Nd.ds l)),‹.int k›,a8,a9,a10,a11,a12])=some (.nx (gE ns at' most N m [a5,some (.own (Nd.ds l)),‹.int k›,‹.int f›,a9,a10,a11,a12])):=by
  wp_walk using evD,gb0,gE,m5,ef
 have fd:(f:Int)+(d:Int)=((f+d:Nat):Int):=by grind
 obtain⟨q1,q2⟩:=bC9 (ds:=Nd.ds l) (a:=f) (b:=f+d) (by grind)
 have mid:((Nd.ds l).drop f).take (min (f+d) (Nd.ds l).length - f)=Nd.ds ((l.drop f).take (max f (min (f+d) l.length) - f)):=by
  rw[hds,X6,X6,← List.map_drop,← List.map_take]
  congr 2;grind
 have s5:gb5 (gE ns at' most N m [a5,some (.own (Nd.ds l)),‹.int k›,‹.int f›,‹.int ((f+d:Nat):Int)›,‹fr s›,‹.str m'.s›,‹.tuple [.str "group", nm,.str m'.s,fr s,.bool (decide (0 < d14))]›])=some (.nx (gE ns at' most N m [a5,some (.own (Nd.ds (ah6 l f (max f (min (f+d) l.length)) (Nd.group nm m' s (decide (0 < d14)))))),‹.int k›,‹.int f›,‹.int ((f+d:Nat):Int)›,‹fr s›,‹.str m'.s›,‹.tuple [.str "group", nm,.str m'.s,fr s,.bool (decide (0 < d14))]›])):=by
  have x1:aZ2 (A8 6) (K3 (A1 8)) (K3 (A1 9)) (gE ns at' most N m [a5,some (.own (Nd.ds l)),‹.int k›,‹.int f›,‹.int ((f+d:Nat):Int)›,‹fr s›,‹.str m'.s›,‹.tuple [.str "group", nm,.str m'.s,fr s,.bool (decide (0 < d14))]›])=some (.list (Nd.ds ((l.drop f).take (max f (min (f+d) l.length) - f)))):=by
   rw[← mid,← q1];rfl
  have x2:(A0 (A6 A9 (A1 12) (O3 (A0 (M3 (qE (aZ2 (A8 6) (K3 (A1 8)) (K3 (A1 9))))) A5))) A5) (gE ns at' most N m [a5,some (.own (Nd.ds l)),‹.int k›,‹.int f›,‹.int ((f+d:Nat):Int)›,‹fr s›,‹.str m'.s›,‹.tuple [.str "group", nm,.str m'.s,fr s,.bool (decide (0 < d14))]›])=some [Nd.d (Nd.group nm m' s (decide (0 < d14)) ((l.drop f).take (max f (min (f+d) l.length) - f)))]:=by
   have cc:∀a b c d e g:D,A9 (.tuple [a,b,c,d,e]) (.tuple [g])=some (.tuple [a,b,c,d,e,g]):=fun _ _ _ _ _ _=>rfl
   simp only[A0,A5,A6,O3,M3,qE,x1,au7,A1,xbs,xms,xg0,xg1,xft,if_false,cc,Nd.d]
  have sz:(Nd.ds l).length+1<=16777216:=by grind
  have fin:ak3 (Nd.ds l) (some (f:Int)) (some ((f+d:Nat):Int)) [Nd.d (Nd.group nm m' s (decide (0 < d14)) ((l.drop f).take (max f (min (f+d) l.length) - f)))]=Nd.ds (ah6 l f (max f (min (f+d) l.length)) (Nd.group nm m' s (decide (0 < d14)))):=by
   rw[q2,hds]
   unfold ah6
   rw[X6,X6,List.map_append,List.map_append,List.map_take,List.map_drop]
   rfl
  rw[← fin]
  unfold gb5 be0
  rw[x2,xbs]
  show(if(Nd.ds l).length+1<=16777216 then some (Fl.nx _) else none)=_
  rw[if_pos sz]
  rfl
 refine⟨‹.int f›,‹.int ((f+d:Nat):Int)›,‹fr s›,‹.str m'.s›,‹.tuple [.str "group", nm,.str m'.s,fr s,.bool (decide (0 < d14))]›,?_,by grind,by grind,hs,hnm⟩
 unfold aR4
 rw[B3 s0]
 refine(B3 (by wp_walk using evD,gb1,gE,m5,ed,fd;rfl)).trans ?_
 refine(B3 (by wp_walk using evD,gb2,gE,m5,es0,e6,est;rfl)).trans ?_
 refine(B3 (by wp_walk using evD,gb3,gE,m5,e7,em';rfl)).trans ?_
 refine(B3 (by wp_walk using evD,gb4,gE,enm,e14,ba6;rfl)).trans ?_
 rw[s5]
structure NOk (N:List D) (i:Nat) (most:Nat) (l:List Nd):Prop where
 ok:Nd.Oks l
 wg:Nd.wgs l<=40*most+5*i
 dp:Nd.dps l<=i
 len:l.length<=most+i
 th:Nd.thins l
 nr:Nd.nears l
 ix:∃is:List Nat,Nd.nmss l=is.map (fun j=>N.getD j .none)/\is.Nodup/\∀j∈is,j < most+i
theorem NOk.grp{N:List D}{i most:Nat}{l:List Nd}(h:NOk N i most l) {a c:Nat}{nm:D}{m:Man}{s:Rat}{sh:Bool}(ac:a<=c) (hs:IsSh 4 s) (hnm:nm=N.getD (most+i) .none) (h100:l.length<=100):NOk N (i+1) most (ah6 l a c (Nd.group nm m s sh)):=by
 have e:=bN1 l ac
 have w1:=congrArg Nd.wgs e
 have w2:=congrArg Nd.dps e
 rw[y6,y6]at w1
 rw[j0,j0]at w2
 have hw:=h.wg
 have hd:=h.dp
 refine⟨?_,?_,?_,?_,?_,?_,?_⟩
 ·rw[X1]
  have ok:=(X1 l).mp h.ok
  intro n hn
  unfold ah6 at hn
  rcases List.mem_append.mp hn with hn|hn
  ·rcases List.mem_append.mp hn with hn|hn
   ·exact ok n (List.mem_of_mem_take hn)
   ·rw[List.mem_singleton.mp hn]
    rw[Nd.Ok]
    exact⟨aN3 hs,(X1 _).mpr fun n' hn'=>ok n' (List.mem_of_mem_drop (List.mem_of_mem_take hn'))⟩
  ·exact ok n (List.mem_of_mem_drop hn)
 ·unfold ah6
  rw[y6,y6]
  simp only[Nd.wgs,Nd.wg]
  grind
 ·unfold ah6
  rw[j0,j0]
  simp only[Nd.dps,Nd.dp]
  grind
 ·unfold ah6
  rw[List.length_append,List.length_append,List.length_take,List.length_drop,List.length_singleton]
  have:=h.len
  grind
 ·rw[V0]
  have th:=(V0 l).mp h.th
  intro n hn
  unfold ah6 at hn
  rcases List.mem_append.mp hn with hn|hn
  ·rcases List.mem_append.mp hn with hn|hn
   ·exact th n (List.mem_of_mem_take hn)
   ·rw[List.mem_singleton.mp hn,Nd.thin]
    exact⟨Nat.le_trans (List.length_take_le' ..) (by rw[List.length_drop];grind),(V0 _).mpr fun n' hn'=>th n' (List.mem_of_mem_drop (List.mem_of_mem_take hn'))⟩
  ·exact th n (List.mem_of_mem_drop hn)
 ·rw[V6]
  have th:=(V6 l).mp h.nr
  intro n hn
  unfold ah6 at hn
  rcases List.mem_append.mp hn with hn|hn
  ·rcases List.mem_append.mp hn with hn|hn
   ·exact th n (List.mem_of_mem_take hn)
   ·rw[List.mem_singleton.mp hn,Nd.near]
    exact(V6 _).mpr fun n' hn'=>th n' (List.mem_of_mem_drop (List.mem_of_mem_take hn'))
  ·exact th n (List.mem_of_mem_drop hn)
 ·obtain⟨is,e1,e2,e3⟩:=h.ix
  have w3:=congrArg Nd.nmss e
  rw[M9,M9,e1]at w3
  obtain⟨i12,i3,q1,q2,q3⟩:=List.map_eq_append_iff.mp w3.symm
  obtain⟨i1,i2,p1,p2,p3⟩:=List.map_eq_append_iff.mp q2
  subst p1 q1
  refine⟨i1++((most+i)::i2)++i3,?_,?_,?_⟩
  ·unfold ah6
   rw[M9,M9,← q3,← p2]
   simp only[Nd.nmss,Nd.nms,List.append_nil,List.map_append,xmc,p3,hnm]
  ·have pm:(i1++((most+i)::i2)++i3).Perm ((most+i)::(i1++i2++i3)):=by
    rw[List.append_assoc,xca,List.append_assoc i1 i2 i3]
    exact List.perm_middle
   rw[pm.nodup_iff,List.nodup_cons]
   exact⟨fun z=>by have:=e3 _ z;grind,e2⟩
  ·intro j hj
   have:j=most+i\/j∈i1++i2++i3:=by
    simp only[List.mem_append,List.mem_cons]at hj ⊢
    rcases hj with(h|h|h)|h
    ·exact .inr (.inl (.inl h))
    ·exact .inl h
    ·exact .inr (.inl (.inr h))
    ·exact .inr (.inr h)
   rcases this with rfl|h
   ·grind
   ·have:=e3 j h;grind
theorem bh8(ns:List Int) (hn:ns.length<=63) (at' most:Nat) (ha:at' < 2 ^ 18) (hmost:most<=6) (N:List D) (hN:most+2<=N.length):∃l:List Nd,af0 [scr ns,.int at',.int most,.list N]=some ↥l/\NOk N 2 most l:=by
 obtain⟨d0,e0,l0⟩:=K8 ns hn (e:=(at':Int)) (m':=4) at' 4 rfl rfl (by grind) (by decide)
 obtain⟨d1,e1,l1⟩:=K8 ns hn (e:=(at':Int)+1) (m':=(most:Int)+1) (at'+1) (most+1) (by grind) (by grind) (by grind) (by grind)
 obtain⟨d2,e2,l2⟩:=drw ns hn at' 2 3 (by grind)
 obtain⟨m,em⟩:=cp7 d0 l0
 have P:∀j,j < d1->∃n:Nd,A2 W5 (A0 (A1 1) (A0 (A6 A9 (A6 A9 (A1 4) ⇑20) (A6 E2 ⇑170 (A1 0))) (A0 (dIx (A8 3) (A1 0)) (A0 (A1 2) A5)))) [‹.int (j:Nat)›,‹scr ns›,‹.str m.s›,‹.list N›,‹.int at'›]=some n.d/\n.Ok/\n.dp=0/\n.wg<=40/\n.nm=N.getD j .none/\n.near:=fun j hj=>by
  have m170:E2 (.int 170) (.int j)=some (.int ((170*j:Nat):Int)):=K4 (i:=170) (by decide) (by grind)
  have en:atI N (j:Int)=some (N[j]'(by grind)):=by
   unfold atI
   rw[ax0 (by grind) (by grind),xbs,Int.toNat_natCast]
   exact List.getElem?_eq_getElem (by grind)
  obtain⟨n,en',hn'⟩:=by8 ns hn (at'+20+170*j) (by grind) (N[j]'(by grind)) m
  have ei:(at':Int)+20+((170*j:Nat):Int)=((at'+20+170*j:Nat):Int):=by grind
  refine⟨n,?_,hn'.1,hn'.2.1,hn'.2.2.1,by rw[hn'.2.2.2.1,List.getD_eq_getElem?_getD,List.getElem?_eq_getElem (by grind)];rfl,hn'.2.2.2.2⟩
  wp_walk using evD,gE,m170,en,ei,en'
 obtain⟨f,hf⟩:=aD2 (x:=Nd.tone .none .turn 0 true) P
 have g2:gn2 (gE ns at' most N m [‹.int d1›,none,none,none,none,none,none,none])=some (.nx (gE ns at' most N m [‹.int d1›,some (.own (Nd.ds ((List.range d1).map f))),none,none,none,none,none,none])):=by
  have c:C5 1 [0,4,3,1] (G0 (A1 5)) (C4 0) D1 (A2 W5 (A0 (A1 1) (A0 (A6 A9 (A6 A9 (A1 4) ⇑20) (A6 E2 ⇑170 (A1 0))) (A0 (dIx (A8 3) (A1 0)) (A0 (A1 2) A5))))) (gE ns at' most N m [‹.int d1›,none,none,none,none,none,none,none])=some ((List.range d1).map fun j=>(f j).d) :=
   Q5 (l:=List.range d1) (h:=fun j:Nat=>PyData.int j) (r:=[‹scr ns›,‹.str m.s›,‹.list N›,‹.int at'›]) rfl (X0 (n:=d1) rfl (by grind)) (by rw[List.length_range];grind) fun j hj=>(hf j (List.mem_range.mp hj)).1
  unfold gn2 L5
  rw[c,X6,List.map_map]
  rfl
 have start:NOk N 0 most ((List.range d1).map f):=by
  refine⟨(X1 _).mpr fun n h=>?_,?_,?_,?_,(V0 _).mpr fun n h=>?_,(V6 _).mpr fun n h=>?_,List.range d1,?_,List.nodup_range,fun j hj=>by have:=List.mem_range.mp hj;grind⟩
  ·obtain⟨j,hj,rfl⟩:=List.mem_map.mp h
   exact(hf j (List.mem_range.mp hj)).2.1
  ·have:=bb5 ((List.range d1).map f) fun n h=>by
    obtain⟨j,hj,rfl⟩:=List.mem_map.mp h
    exact(hf j (List.mem_range.mp hj)).2.2.2.1
   rw[List.length_map,List.length_range]at this
   grind
  ·rw[aD5 _ fun n h=>by
    obtain⟨j,hj,rfl⟩:=List.mem_map.mp h
    exact(hf j (List.mem_range.mp hj)).2.2.1]
   exact Nat.le_refl _
  ·rw[List.length_map,List.length_range];grind
  ·obtain⟨j,hj,rfl⟩:=List.mem_map.mp h
   have:=(hf j (List.mem_range.mp hj)).2.2.1
   cases q:f j with
   | group=>rw[q,Nd.dp]at this;grind
   | layer=>rw[Nd.thin];trivial
   | tone=>rw[Nd.thin];trivial
  ·obtain⟨j,hj,rfl⟩:=List.mem_map.mp h
   exact(hf j (List.mem_range.mp hj)).2.2.2.2.2
  ·have key:∀is:List Nat,(∀j∈is,j < d1)->Nd.nmss (is.map f)=is.map fun j=>N.getD j .none:=by
    intro is
    induction is with
    | nil=>intro _;simp[Nd.nmss]
    | cons j is ih =>
     intro hj
     have a:=hf j (hj j (List.mem_cons_self ..))
     rw[xmc,Nd.nmss,ih fun i hi=>hj i (List.mem_cons_of_mem _ hi),xmc,← a.2.2.2.2.1]
     cases q:f j with
     | group=>have:=a.2.2.1;rw[q,Nd.dp]at this;grind
     | layer=>simp[Nd.nms,Nd.nm]
     | tone=>simp[Nd.nms,Nd.nm]
   exact key _ fun j hj=>List.mem_range.mp hj
 obtain⟨ρ',e3,l,b7,b8,b9,b10,b11,b12,hρ,hl⟩:=ab4 (g:=C4 7) (f:=aR4) (h:=fun j:Nat=>PyData.int j) (I:=fun i ρ=>∃(l:List Nd) (b7 b8 b9 b10 b11 b12:Option B),ρ=(gE ns at' most N m [‹.int d1›,some (.own (Nd.ds l)),b7,b8,b9,b10,b11,b12])/\NOk N i most l) (List.range d2) 0 (gE ns at' most N m [‹.int d1›,some (.own (Nd.ds ((List.range d1).map f))),none,none,none,none,none,none]) ⟨_,_,_,_,_,_,_,rfl,start⟩ (fun j a hj ρ hρ=>by
  obtain⟨l,b7,b8,b9,b10,b11,b12,rfl,hl⟩:=hρ
  obtain⟨hj1,hj2⟩:=List.getElem?_eq_some_iff.mp hj
  rw[List.length_range]at hj1
  rw[List.getElem_range]at hj2
  subst hj2
  refine⟨_,rfl,?_⟩
  simp only[xw0,xw1]
  have hll:=hl.len
  obtain⟨a,c,nm,m',s,sh,c8,c9,c10,c11,c12,eb,ac,cl,hs,hnm⟩:=bn7 ns hn at' most j ha (by grind) hmost N hN m l (by grind) (‹.int d1›) b8 b9 b10 b11 b12
  exact⟨_,eb,_,_,_,_,_,_,_,rfl,hl.grp ac hs (by rw[hnm,Nat.zero_add]) (by grind)⟩)
 subst hρ
 rw[List.length_range,Nat.zero_add]at hl
 refine⟨l,?_,hl.ok,by have:=hl.wg;grind,by have:=hl.dp;grind,by have:=hl.len;grind,hl.th,hl.nr,by
  obtain⟨is,q1,q2,q3⟩:=hl.ix
  exact⟨is,q1,q2,fun j hj=>by have:=q3 j hj;grind⟩⟩
 have rn:G0 (A2 A7 (A0 (A1 0) (A0 (A6 A9 (A1 1) ⇑2) (A0 ⇑3 A5)))) (gE ns at' most N m [‹.int d1›,some (.own (Nd.ds ((List.range d1).map f))),none,none,none,none,none,none])=_:=X0 (n:=d2) (by wp_walk using evD,gE,e2) (by grind)
 have g3:gn3 (gE ns at' most N m [‹.int d1›,some (.own (Nd.ds ((List.range d1).map f))),none,none,none,none,none,none])=some (.nx (gE ns at' most N m [‹.int d1›,some (.own (Nd.ds l)),b7,b8,b9,b10,b11,b12])):=by
  unfold gn3 k8
  rw[rn]
  exact e3
 have g4:gn4 (gE ns at' most N m [‹.int d1›,some (.own (Nd.ds l)),b7,b8,b9,b10,b11,b12])=some (.rt ↥l):=rfl
 refine B2 (ρ:=[‹scr ns›,‹.int at'›,‹.int most›,‹.list N›,none,none,none,none,none,none,none,none,none]) rfl ?_
 rw[bn2]
 refine(B3 (by wp_walk using evD,gn0,gE,e0,em;rfl)).trans ?_
 refine(B3 (by wp_walk using evD,gn1,gE,e1;rfl)).trans ?_
 rw[B3 g2,B3 g3]
 exact g4
def N9(w h:Nat) (l:List Nd):D:=.tuple [.int w,.int h,↥l]
theorem aH8(ns:List Int) (hn:ns.length<=63) (at' most:Nat) (ha:at' < 2 ^ 17) (hmost:most<=6) (N:List D) (hN:most+2<=N.length):∃(w h:Nat) (l:List Nd),U4 [scr ns,.int at',.int most,.list N]=some (N9 w h l)/\NOk N 2 most l/\(1<=w/\w<=3)/\(1<=h/\h<=3):=by
 obtain⟨d0,e0,l0⟩:=K8 ns hn (e:=(at':Int)) (m':=3) at' 3 rfl rfl (by grind) (by decide)
 obtain⟨d1,e1,l1⟩:=drw ns hn at' 1 3 (by grind)
 obtain⟨l,el,hl⟩:=bh8 ns hn (at'+2) most (by grind) hmost N hN
 have e2:(at':Int)+2=((at'+2:Nat):Int):=by grind
 refine⟨1+d0,1+d1,l,?_,hl,by grind,by grind⟩
 refine B2 (ρ:=[‹scr ns›,‹.int at'›,‹.int most›,‹.list N›,none,none]) rfl ?_
 wp_walk using evD,ah1,gE,e0,e1,ad1,e2,el,N9
end Sh
namespace Sh
open PySem G L2
theorem bi0(n:Nd):n.nm∈n.nms:=by
 cases n<;>simp[Nd.nm,Nd.nms]
theorem aP6{n:Nd}{l:List Nd}(h:n∈l) {d:D}(hd:d∈n.nms):d∈Nd.nmss l:=by
 obtain⟨a,b,rfl⟩:=List.append_of_mem h
 rw[M9,Nd.nmss]
 simp[hd]
def bq3(d:D):Prop:=∃s:Str,d=.str s/\SOk s
def same(a b:D):Bool:=@decide (a=b) (Classical.propDecidable _)
theorem name_of(n:Nd):M6 [n.d]=some n.nm:=by
 cases n<;>(rw[Nd.d];rfl)
theorem P9(n:Nd):F8 [n.d]=some (.bool (match n with | .group ..=>true|_=>false)):=by
 have e_tg:eqD (.str "tone") (.str "group")=some (.bool false):=G7 (by decide +kernel) (by decide +kernel) (by decide +kernel)
 cases n with
 | layer nm m s sh lf tp mk w h l kb=>rw[Nd.d];exact B2 (ρ:=[‹.tuple [.str "layer", nm,.str m.s,fr s,.bool sh,.int lf,.int tp,mkD mk,shD w h l]›]) rfl (congrArg (Option.map Fl.rt) cl4)
 | tone nm r s sh=>rw[Nd.d];exact B2 (ρ:=[‹.tuple [.str "tone", nm,.str r.s,fr s,.bool sh]›]) rfl (congrArg (Option.map Fl.rt) e_tg)
 | group nm m s sh ns=>rw[Nd.d];exact B2 (ρ:=[‹.tuple [.str "group", nm,.str m.s,fr s,.bool sh,↥ns]›]) rfl (congrArg (Option.map Fl.rt) ca2)
theorem aj4{l:List Nd}{n:Nd}(h:n∈l):n.dp<=Nd.dps l:=by
 obtain⟨a,b,rfl⟩:=List.append_of_mem h
 rw[j0,Nd.dps];grind
end Sh
namespace Sh
open PySem G L2
end Sh
namespace Sh
open PySem G L2
end Sh
namespace Sh
open PySem G L2
def Low(s:Str):Prop:=∀c∈s.cps.toList,97<=c/\c<=122
def Nm(d:D):Prop:=∃s:Str,d=.str s/\Low s/\1<=s.length/\s.length<=6
theorem bS7(c:Nat) (h1:97<=c) (h2:c<=122):inS false (.str ⟨#[c]⟩) (.str "abcdefghijklmnopqrstuvwxyz")=some (.bool true):=by
 have h:∀k:Fin 26,aX1 ⟨#[97+k.val]⟩ "abcdefghijklmnopqrstuvwxyz" = true:=by decide +kernel
 have:=h ⟨c - 97,by omega⟩
 simp only[show 97+(c - 97)=c by omega]at this
 show some (PyData.bool (aX1 ⟨#[c]⟩ "abcdefghijklmnopqrstuvwxyz"))=_
 rw[this]
theorem ac2{α:Type}(l:List α):az1 (l.map fun _=>PyData.bool true)=some true:=by rw[an1 (fun _=>true)];simp
theorem aV5{d:D}(h:Nm d):af1 [d]=some (.bool true):=by
 obtain⟨s,rfl,lo,l1,l6⟩:=h
 have as:s.cps.all (· < 128)=true:=by
  rw[Array.all_eq_true']
  intro c hc
  have:=lo c (Array.mem_toList_iff.mpr hc)
  exact decide_eq_true (by grind)
 have ll:s.cps.toList.length=s.length:=by unfold Str.length;simp
 have al:C5 1 [] (aW8 (A1 0)) (C4 0) D1 (A6 (inS false) (A1 0) (dC (.str "abcdefghijklmnopqrstuvwxyz"))) [‹.str s›]=some (s.cps.toList.map fun _=>.bool true):=by
  refine Q5 (l:=s.cps.toList) (h:=fun c=>.str ⟨#[c]⟩) (r:=[]) rfl ?_ (by grind) fun c hc=>bS7 c (lo c hc).1 (lo c hc).2
  show(if s.cps.all (· < 128)=true then some (aq5 s) else none)=_
  rw[if_pos as];rfl
 have z:s.length<=16777216:=by grind
 have a':(1:Int)<=s.length:=by grind
 have b':(s.length:Int)<=6:=by grind
 refine B2 (ρ:=[‹.str s›]) rfl ?_
 wp_walk using evD,at6,ar9,if_pos z,al,ac2,a',b',decide_true
theorem aB4{i:Int}(h1:-9<=i) (h2:i<=9):U5 [.int i]=some (.bool true):=by
 refine B2 (ρ:=[‹.int i›]) rfl ?_
 have w1:J6 [.int i]=some (.bool true):=rfl
 wp_walk using evD,ah2,bp7,w1,h1,h2,decide_true
theorem aV9{mk:Option (List Rat)}{w h:Nat}{l:List Q4}(w8:w<=8) (h8:h<=8) (len:l.length=w*h) (hm:∀ms,mk=some ms->ms.length=w*h/\∀r∈ms,Sr 4 r):af2 [mkD mk,shD w h l]=some (.bool true):=by
 refine B2 (ρ:=[‹mkD mk›,‹shD w h l›]) rfl ?_
 cases mk with
 | none=>rfl
 | some ms =>
  obtain⟨lm,hr⟩:=hm ms rfl
  have wh:w*h<=64:=Nat.mul_le_mul w8 h8
  have al:∀q:Option B,C5 1 [] (J3 (A1 0)) (C4 0) D1 (A2 P0 (A0 (A1 0) A5)) [‹.tuple (ms.map fr)›,q]=some (ms.map fun _=>.bool true):=fun q=>by
   refine Q5 (l:=ms) (h:=fr) (r:=[]) rfl rfl (by grind) fun x hx=>?_
   have:=O6 (hr x hx).h (by decide)
   wp_walk using evD,this
  have i1:isB (.tuple (ms.map fr)) .none=some (.bool false):=rfl
  have n1:(((ms.map fr).length:Nat):Int)=((w*h:Nat):Int):=by rw[List.length_map,lm]
  have n2:(((l.map Q4.d).length:Nat):Int)=((w*h:Nat):Int):=by rw[List.length_map,len]
  have n3:neD (.int ((w*h:Nat):Int)) (.int ((w*h:Nat):Int))=some (.bool false):=by rw[bR5];simp
  wp_walk using evD,at7,mkD,shD,al,ac2,i1,n1,n2,beq_self_eq_true
theorem bH5{neg v:Bool}{x:D}{ds:List D}(hx:S6 x=true) (hd:ds.all S6=true) (h:inV (toV x) (ds.map toV)=v):inD neg x (.tuple ds)=some (.bool (if neg then !v else v)):=by
 subst h
 show(if S6 x=true/\ds.all S6=true then _ else _)=_
 rw[if_pos ⟨hx,hd⟩]
theorem bi8(m:Man):inD true (.str m.s) (.tuple [.str "over", .str "multiply", .str "screen", .str "plus", .str "atop", .str "cut"])=some (.bool false) :=
 bH5 (v:=true) rfl rfl (by cases m<;>decide +kernel)
theorem bN8(r:Rul):inD false (.str r.s) (.tuple [.str "turn", .str "grey", .str "round"])=some (.bool true) :=
 bH5 (v:=true) rfl rfl (by cases r<;>decide +kernel)
mutual
def Nd.off:Nd->Prop
 | .layer _ _ _ _ lf tp _ _ _ _ kb=>-9<=lf/\lf<=9/\-9<=tp/\tp<=9/\kb<=4000
 | .tone ..=>True
 | .group _ _ _ _ ns=>ns.length<=1000/\Nd.offs ns
def Nd.offs:List Nd->Prop
 | []=>True
 | n::r=>n.off/\Nd.offs r
end
theorem al2:∀l:List Nd,Nd.offs l↔∀n∈l,n.off
 | []=>by simp[Nd.offs]
 | n::r=>by simp[Nd.offs,al2 r]
theorem strength_of(n:Nd):∃s,E5 [n.d]=some (fr s)/\(n.Ok->Sr 4 s):=by
 cases n with
 | layer nm m s sh lf tp mk w h l kb=>exact⟨s,by rw[Nd.d];rfl,fun o=>by rw[Nd.Ok]at o;exact o.1⟩
 | tone nm r s sh=>exact⟨s,by rw[Nd.d];rfl,fun o=>by rw[Nd.Ok]at o;exact o⟩
 | group nm m s sh ns=>exact⟨s,by rw[Nd.d];rfl,fun o=>by rw[Nd.Ok]at o;exact o.1⟩
theorem bd6(n:Nd):∃b,G6 [n.d]=some (.bool b):=by
 cases n<;>exact⟨_,by rw[Nd.d];rfl⟩
theorem bc7(b:Bool):x8 [.bool b]=some (.bool true):=rfl
theorem bj2{nm:D}{m:Man}{s:Rat}{sh:Bool}{lf tp:Int}{mk:Option (List Rat)}{w h:Nat}{l:List Q4}{kb:Nat}(o:(Nd.layer nm m s sh lf tp mk w h l kb).Ok) (f:(Nd.layer nm m s sh lf tp mk w h l kb).off):G8 [(Nd.layer nm m s sh lf tp mk w h l kb).d]=some (.bool true):=by
 rw[Nd.Ok]at o
 rw[Nd.off]at f
 obtain⟨hs,S,_,hm,_⟩:=o
 obtain⟨f1,f2,f3,f4,f5⟩:=f
 rw[Nd.d]
 refine B2 (ρ:=[‹.tuple [.str "layer", nm,.str m.s,fr s,.bool sh,.int lf,.int tp,mkD mk,shD w h l]›]) rfl ?_
 have e1:∀a b c d e f g h i:D,F5 [.tuple [a,b,c,d,e,f,g,h,i]]=some c:=fun _ _ _ _ _ _ _ _ _=>rfl
 have e2:∀a b c d e f g h i:D,O8 [.tuple [a,b,c,d,e,f,g,h,i]]=some i:=fun _ _ _ _ _ _ _ _ _=>rfl
 have e3:∀a b c d e f g h i:D,W2 [.tuple [a,b,c,d,e,f,g,h,i]]=some f:=fun _ _ _ _ _ _ _ _ _=>rfl
 have e4:∀a b c d e f g h i:D,g9 [.tuple [a,b,c,d,e,f,g,h,i]]=some g:=fun _ _ _ _ _ _ _ _ _=>rfl
 have e5:∀a b c d e f g h i:D,W1 [.tuple [a,b,c,d,e,f,g,h,i]]=some h:=fun _ _ _ _ _ _ _ _ _=>rfl
 have e6:∀a b c d e f g h i:D,((([a,b,c,d,e,f,g,h,i]:List D).length:Nat):Int)=9:=fun _ _ _ _ _ _ _ _ _=>rfl
 wp_walk using evD,R3,e1,e2,e3,e4,e5,e6,beq_self_eq_true,bi8,aC9 S (by grind),aB4 f1 f2,aB4 f3 f4,aV9 S.w8 S.h8 S.len hm
theorem aN0{nm:D}{r:Rul}{s:Rat}{sh:Bool}:J7 [Nd.d (.tone nm r s sh)]=some (.bool false):=by
 have e:eqD (.str "tone") (.str "layer")=some (.bool false):=G7 (by decide +kernel) (by decide +kernel) (by decide +kernel)
 rw[Nd.d];exact B2 (ρ:=[‹.tuple [.str "tone", nm,.str r.s,fr s,.bool sh]›]) rfl (congrArg (Option.map Fl.rt) e)
theorem cp9(n:Nd):∃ds:List D,n.d=.tuple ds/\5<=ds.length/\(∀nm r s sh,n=.tone nm r s sh->ds.length=5):=by
 cases n with
 | layer=>exact⟨_,by rw[Nd.d],by simp,fun _ _ _ _ h=>by cases h⟩
 | tone=>exact⟨_,by rw[Nd.d],by simp,fun _ _ _ _ _=>rfl⟩
 | group=>exact⟨_,by rw[Nd.d],by simp,fun _ _ _ _ h=>by cases h⟩
theorem aR2(n:Nd) (f:Nat) (dd:D) (o:n.Ok) (hn:Nm n.nm) {z:Option Fl}(h:(B0 (sIf (G9 (A2 J7 (A0 (A1 0) A5))) (B6 (A2 G8 (A0 (A1 0) A5))) G5) (B0 (sIf (G9 (A2 F8 (A0 (A1 0) A5))) (B6 (A2 (A4 f 0) (A0 (A1 0) (A0 (A1 1) A5)))) G5) (B6 (O5 (A2 k5 (A0 (A1 0) A5)) (O5 (A6 eqD (S7 (A8 0)) ⇑5) (A6 (inD false) (A2 j8 (A0 (A1 0) A5)) (dC (.tuple [(.str "turn"),(.str "grey"),(.str "round")])))))))) [‹n.d›,‹dd›]=z):J8 (A4 f) [‹n.d›,‹dd›]=z:=by
 obtain⟨s,es,hs⟩:=strength_of n
 obtain⟨b,eb⟩:=bd6 n
 have en:=name_of n
 have et:=aV5 hn
 have eh:=O6 (hs o).h (by decide)
 obtain⟨ds,ed,l5,_⟩:=cp9 n
 unfold J8
 rw[B3 (ρ':=[‹n.d›,‹dd›]),B3 (ρ':=[‹n.d›,‹dd›])]
 ·exact h
 ·wp_walk using evD,en,et,es,eh,eb,bc7
 ·have l5':¬((ds.length:Nat):Int) < 5:=by omega
  rw[ed]
  wp_walk using evD,decide_eq_false l5'
theorem bq1{l:List Nd}{f:Nat}{dd:D}(hl:l.length<=1000) (H:∀n∈l,Q8 f [n.d,dd]=some (.bool true)):Q3 (f+1) [↥l,dd]=some (.bool true):=by
 refine B2 (g:=g8 (A4 f)) (ρ:=[‹↥l›,‹dd›]) rfl ?_
 have al:C5 1 [1] (J3 (A1 0)) (C4 0) D1 (A2 (A4 f 1) (A0 (A1 0) (A0 (A1 1) A5))) [‹↥l›,‹dd›]=some (l.map fun _=>.bool true):=by
  refine Q5 (l:=l) (h:=Nd.d) (r:=[‹dd›]) rfl (by rw[X6];rfl) hl fun x hx=>?_
  exact H x hx
 wp_walk using evD,g8,al,ac2
theorem bZ7:∀(k:Nat) (n:Nd) (f:Nat) (dd:Nat),n.dp<=k->k<=dd->3*k+1<=f->n.Ok->n.off->(∀d∈n.nms,Nm d)->Q8 f [n.d,.int dd]=some (.bool true):=by
 intro k
 induction k with
 | zero =>
  intro n f dd hd hk hf o of hn
  obtain⟨f,rfl⟩:∃g,f=g+1:=⟨f - 1,by grind⟩
  refine B2 (g:=J8 (A4 f)) (ρ:=[‹n.d›,‹.int dd›]) rfl (aR2 n f _ o (hn _ (bi0 n)) ?_)
  cases n with
  | group=>rw[Nd.dp]at hd;grind
  | layer nm m s sh lf tp mk w h l kb =>
   have el:=bj2 o of
   wp_walk using evD,aQ1,el
  | tone nm r s sh =>
   have e1:j8 [Nd.d (.tone nm r s sh)]=some (.str r.s):=by rw[Nd.d];rfl
   have e2:=P9 (.tone nm r s sh)
   have e3:S7 (A8 0) [‹Nd.d (.tone nm r s sh)›,‹.int dd›]=some (.int 5):=by rw[Nd.d];rfl
   have e4:eqD (.int 5) (.int 5)=some (.bool true):=rfl
   simp only[B0,C3,B6,sIf,G5,A1,dC,A6,A2,O5,A5,A0,G9,bc8,U9,xg0,xg1,xbs,xms,xw0,aN0,e2,e1,e3,e4,bM5,bN8,xft,if_true,if_false]
 | succ k ih =>
  intro n f dd hd hk hf o of hn
  obtain⟨f,rfl⟩:∃g,f=g+3:=⟨f - 3,by grind⟩
  by_cases hz:n.dp<=k
  ·exact ih n (f+3) dd hz (by grind) (by grind) o of hn
  refine B2 (g:=J8 (A4 (f+2))) (ρ:=[‹n.d›,‹.int dd›]) rfl (aR2 n (f+2) _ o (hn _ (bi0 n)) ?_)
  cases n with
  | layer=>rw[Nd.dp]at hz;grind
  | tone=>rw[Nd.dp]at hz;grind
  | group nm m s sh ns =>
   rw[Nd.dp]at hd
   rw[Nd.Ok]at o
   rw[Nd.off]at of
   have oks:=(X1 ns).mp o.2
   have ofs:=(al2 ns).mp of.2
   obtain⟨d',rfl⟩:∃d',dd=d'+1:=⟨dd - 1,by grind⟩
   have ea:Q3 (f+1) [↥ns,.int d']=some (.bool true):=bq1 of.1 fun n' h'=>ih n' f d' (by have:=aj4 h';grind) (by grind) (by grind) (oks n' h') (ofs n' h') fun d hd'=>hn d (by rw[Nd.nms];exact List.mem_cons_of_mem _ (aP6 h' hd'))
   have eg:A4 (f+2) 0 [Nd.d (.group nm m s sh ns),.int ((d'+1:Nat):Int)]=some (.bool true):=by
    rw[Nd.d]
    refine B2 (g:=L4 (A4 (f+1))) (ρ:=[‹.tuple [.str "group", nm,.str m.s,fr s,.bool sh,↥ns]›,‹.int ((d'+1:Nat):Int)›]) rfl ?_
    have e1:∀a b c d e f:D,F5 [.tuple [a,b,c,d,e,f]]=some c:=fun _ _ _ _ _ _=>rfl
    have e2:∀a b c d e f:D,F6 [.tuple [a,b,c,d,e,f]]=some f:=fun _ _ _ _ _ _=>rfl
    have e3:∀a b c d e f:D,((([a,b,c,d,e,f]:List D).length:Nat):Int)=6:=fun _ _ _ _ _ _=>rfl
    have e4:(((d'+1:Nat):Int)==0)=false:=by simp;grind
    have e5:((d'+1:Nat):Int) - 1=(d':Int):=by grind
    have ea':A4 (f+1) 2 [↥ns,.int d']=some (.bool true):=ea
    wp_walk using evD,L4,e1,e2,e3,e4,e5,beq_self_eq_true,bi8,ea'
   have e2:=P9 (.group nm m s sh ns)
   wp_walk using evD,aR5,e2,eg
def nmb(f:Nat):DS:=(B0 (V3 1 (A2 M6 (A0 (A1 2) A5))) (sIf (G9 (A2 F8 (A0 (A1 2) A5))) (au8 1 (A2 (E6 f) (A0 (A2 F6 (A0 (A1 2) A5)) A5))) G5))
theorem bR4{n:Nd}(f:Nat) (a0:Option B) (X:List D) (hX:X.length+n.nms.length<=1000) (H:∀nm m s sh ns,n=.group nm m s sh ns->E6 f [↥ns]=some (.list (Nd.nmss ns))):nmb f [a0,some (.own X),‹n.d›]=some (.nx [a0,some (.own (X++n.nms)),‹n.d›]):=by
 have hx:X.length < 16777216:=by grind
 have en:=name_of n
 have eg:=P9 n
 unfold nmb
 refine(B3 (by simp only[V3,A2,A0,A5,en,xg0,xg1,if_pos hx,A1,xms,xbs,xw0,xw1];rfl)).trans ?_
 cases n with
 | layer=>wp_walk using evD,eg;rw[Nd.nm,Nd.nms]
 | tone=>wp_walk using evD,eg;rw[Nd.nm,Nd.nms]
 | group nm m s sh ns =>
  have e1:F6 [Nd.d (.group nm m s sh ns)]=some ↥ns:=by rw[Nd.d];rfl
  have e2:=H nm m s sh ns rfl
  rw[Nd.nms]at hX
  have e3:(X++[nm]).length+(Nd.nmss ns).length<=16777216:=by simp at hX ⊢;grind
  rw[Nd.nm]
  wp_walk using evD,au8,eg,e1,e2,if_pos e3
  rw[Nd.nms,List.append_assoc];rfl
theorem aP7{l:List Nd}{f:Nat}(hw:(Nd.nmss l).length<=1000) (H:∀n∈l,∀nm m s sh ns,n=.group nm m s sh ns->E6 f [↥ns]=some (.list (Nd.nmss ns))):E6 (f+1) [↥l]=some (.list (Nd.nmss l)):=by
 obtain⟨ρ',e,a2,hρ⟩:=ab4 (g:=C4 2) (f:=nmb f) (h:=Nd.d) (I:=fun i ρ=>∃a2,ρ=[‹↥l›,some (.own (Nd.nmss (l.take i))),a2]) l 0 [‹↥l›,some (.own []),none] ⟨none,rfl⟩ (fun j n hj ρ hρ=>by
  obtain⟨a2,rfl⟩:=hρ
  rw[Nat.zero_add]
  obtain⟨hjl,rfl⟩:=List.getElem?_eq_some_iff.mp hj
  have ww:Nd.nmss (l.take (j+1))=Nd.nmss (l.take j)++(l[j]).nms:=by rw[List.take_succ_eq_append_getElem hjl,M9,Nd.nmss,Nd.nmss,List.append_nil]
  have wl:=congrArg (fun x=>(Nd.nmss x).length) (List.take_append_drop (j+1) l)
  simp only[M9,ww,List.length_append]at wl
  exact⟨_,rfl,_,bR4 f _ _ (by grind) (H _ (List.getElem_mem hjl)),_,by rw[ww]⟩)
 subst hρ
 rw[Nat.zero_add,List.take_of_length_le (Nat.le_refl _),← X6]at e
 refine B2 (g:=o8 (E6 f)) (ρ:=[‹↥l›,none,none]) rfl ?_
 have s0:(L5 1 A5) [‹↥l›,none,none]=some (.nx [‹↥l›,some (.own []),none]):=rfl
 have s1:(k8 (J3 (A1 0)) (C4 2) (nmb f)) [‹↥l›,some (.own []),none]=some (.nx [‹↥l›,some (.own (Nd.nmss l)),a2]):=e
 have s2:(k7 1 (B6 (A1 1))) [‹↥l›,some (.own (Nd.nmss l)),a2]=some (.rt (.list (Nd.nmss l))):=rfl
 exact(B3 s0).trans ((B3 s1).trans s2)
theorem bx8{n:Nd}{l:List Nd}(h:n∈l):n.nms.length<=(Nd.nmss l).length:=by
 obtain⟨a,b,rfl⟩:=List.append_of_mem h
 rw[M9,Nd.nmss,List.length_append,List.length_append];grind
theorem names_among:∀(k:Nat) (l:List Nd) (f:Nat),Nd.dps l<=k->k+1<=f->(Nd.nmss l).length<=1000->E6 f [↥l]=some (.list (Nd.nmss l)):=by
 intro k
 induction k with
 | zero =>
  intro l f hd hf hw
  obtain⟨f,rfl⟩:∃g,f=g+1:=⟨f - 1,by grind⟩
  refine aP7 hw fun n hn nm m s sh ns e=>?_
  have:=aj4 hn
  rw[e,Nd.dp]at this;grind
 | succ k ih =>
  intro l f hd hf hw
  obtain⟨f,rfl⟩:∃g,f=g+1:=⟨f - 1,by grind⟩
  refine aP7 hw fun n hn nm m s sh ns e=>?_
  have h1:=aj4 hn
  have h2:=bx8 hn
  rw[e,Nd.dp]at h1
  rw[e,Nd.nms,List.length_cons]at h2
  exact ih ns f (by grind) (by grind) (by grind)
theorem y9:∀L:List D,(∀d∈L,Nm d)->∃ys:List Str,L=ys.map PyData.str/\n6 L=some ys
 | [],_=>⟨[],rfl,rfl⟩
 | d::L,h=>by
  obtain⟨ys,e1,e2⟩:=y9 L fun x hx=>h x (List.mem_cons_of_mem _ hx)
  obtain⟨s,rfl,_⟩:=h d (List.mem_cons_self ..)
  exact⟨s::ys,by rw[e1];rfl,by unfold n6;rw[e2];rfl⟩
theorem aD6:∀(l a:List Str),(a++l).Nodup->l.foldl ao4 a=a++l
 | [],a,_=>by simp
 | x::l,a,h=>by
  have hx:a.any (· == x)=false:=by
   rw[List.any_eq_false]
   intro y hy e
   have e:y=x:=by simpa using e
   subst e
   exact(List.nodup_append.mp h).2.2 y hy y (List.mem_cons_self ..) rfl
  rw[List.foldl_cons,ao4,hx]
  simp only[xft,if_false]
  rw[aD6 l (a++[x]) (by rwa [List.append_assoc]),List.append_assoc];rfl
theorem az7{l:List Nd}(hd:Nd.dps l<=3) (hw:(Nd.nmss l).length<=1000) (hn:∀d∈Nd.nmss l,Nm d) (nd:(Nd.nmss l).Nodup):M0 [↥l]=some (.bool true):=by
 have e:=names_among 3 l 12 hd (by decide) hw
 obtain⟨ys,e1,e2⟩:=y9 _ hn
 have ny:ys.Nodup:=by
  rw[e1]at nd
  exact List.Pairwise.imp (fun h e=>h (congrArg PyData.str e)) (List.pairwise_map.mp nd)
 have ed:ddS ys=ys:=by have:=aD6 ys [] (by simpa using ny);simpa [ddS] using this
 have ly:(Nd.nmss l).length=ys.length:=by rw[e1,List.length_map]
 have l4:ys.length<=4000:=by grind
 have es:∀q:Option B,aj5 (A8 1) [q,‹.list (Nd.nmss l)›]=some (.int ys.length):=fun q=>by
  show((n6 (Nd.nmss l)).bind fun ys=>if ys.length<=4000 then some (PyData.int (ddS ys).length) else none)=_
  rw[e2,xbs,if_pos l4,ed]
 refine B2 (ρ:=[‹↥l›,none]) rfl ?_
 wp_walk using evD,T0,e,es,ly,beq_self_eq_true
theorem aH2{w h:Nat}(l:List Nd) (w1:1<=w) (w8:w<=8) (h1:1<=h) (h8:h<=8):T2 [N9 w h l]=some (.bool true):=by
 have sz:∀n:Nat,1<=n->n<=8->W6 [.int n]=some (.bool true):=fun n a b=>by
  refine B2 (ρ:=[‹.int n›]) rfl ?_
  have w1:J6 [.int n]=some (.bool true):=rfl
  have a':(1:Int)<=n:=by grind
  have b':(n:Int)<=8:=by grind
  wp_walk using evD,ae7,w1,a',b',decide_true
 have l3:∀a b c:D,((([a,b,c]:List D).length:Nat):Int)=3:=fun _ _ _=>rfl
 refine B2 (ρ:=[‹N9 w h l›]) rfl ?_
 wp_walk using evD,x6,N9,l3,beq_self_eq_true,sz w w1 w8,sz h h1 h8
theorem av7{w h:Nat}{l:List Nd}(w1:1<=w) (w8:w<=8) (h1:1<=h) (h8:h<=8) (hd:Nd.dps l<=3) (hl:l.length<=1000) (o:Nd.Oks l) (of:Nd.offs l) (hw:(Nd.nmss l).length<=1000) (hn:∀d∈Nd.nmss l,Nm d) (nd:(Nd.nmss l).Nodup):S0 [N9 w h l]=some (.bool true):=by
 have e1:=aH2 l w1 w8 h1 h8
 have oks:=(X1 l).mp o
 have ofs:=(al2 l).mp of
 have e2:Q3 12 [↥l,.int 3]=some (.bool true):=bq1 hl fun n hn'=>bZ7 3 n 11 3 (by have:=aj4 hn';grind) (by decide) (by decide) (oks n hn') (ofs n hn') fun d hd'=>hn d (aP6 hn' hd')
 have e3:=az7 hd hw hn nd
 refine B2 (ρ:=[‹N9 w h l›]) rfl ?_
 unfold N9 at e1 ⊢
 wp_walk using evD,ac7,e1,e2,e3
end Sh
namespace G
open PySem PySem.Spec PyProof.Rows L2
section
variable {X:Cx}{S:Sg}{c:Kx}
theorem F7{e:Expr}:JE X e dNo:=fun ρ d h=>by cases h
theorem bH2{e:Expr}:JQ X e qNo:=fun ρ t d h=>by cases h
theorem ab2{e:Expr}:JN X e aNo:=fun ρ d h=>by cases h
theorem ar5{e:Expr}:JT X e tNo:=fun ρ d h=>by cases h
theorem cj7{e:Expr}:JW X e tNo:=fun ρ d h=>by cases h
theorem aC6{e:Expr}:JG X e gNo:=by
 unfold JG PG
 intros
 rename_i h
 obtain⟨d,ρ,ρ',H0,Hf,z,_⟩:=h
 cases z
theorem ck3{es:List Expr}:JA X es aNo:=⟨fun ρ d h=>(nomatch h),fun ρ d h=>(nomatch h)⟩
theorem bV0{es:List Expr}:JTs X es tNo:=fun pins s σ H Q I ⟨ρ,b,h,_⟩=>by cases h
theorem i6(hu:X.A.units+64 < cLine):∀op:CmpOp,OpD X (compareOp op) (aK8 op)
 | .Lt=>ch7 | .LtE=>ch8 | .Gt=>ci0 | .GtE=>ci1 | .Eq=>bG6 hu | .NotEq=>bG4 hu | .Is=>bG5 | .IsNot=>aB5 | .In=>ch9 hu | .NotIn=>bh6 hu
theorem bh5(hu:X.A.units+64 < cLine) (S:Sg) (c:Kx) (op:CmpOp) (b:Expr):OpD X (compareOp op) (opW S c op b):=by
 unfold opW
 split
 ·split
  ·exact bQ8
  ·exact aV1
  ·exact i6 hu _
 ·exact i6 hu op
theorem ag2{f:Expr->DE}(h:∀e,JE X e (f e)):∀es,JA X es (evA f es)
 | []=>bZ1
 | e::es=>by
  unfold evA
  split
  ·rename_i p;exact bB2 (h e) (ag2 h es) (E3 p es _)
  ·exact ck3
theorem aR0{f:Expr->DE}(h:∀e,JE X e (f e)) (op:BoolOp) (pos:Pos):∀vs,JE X (.BoolOp op vs pos) (bC7 f op vs)
 | []=>F7
 | [a]=>bX9 (h a)
 | a::b::r=>by
  unfold bC7
  cases op
  ·exact bY9 (h a) (aR0 h .And pos (b::r))
  ·exact F7
theorem aw8{f:Expr->DT}(h:∀e,JT X e (f e)) (op:BoolOp) (pos:Pos):∀vs,JW X (.BoolOp op vs pos) (bo5 f op vs)
 | []=>cj7
 | [a]=>by cases op;exact bz3 (h a);exact bU8 (h a)
 | a::b::r=>by
  unfold bo5
  cases op
  ·exact bU9 (h a) (aw8 h .And pos (b::r))
  ·exact cj6 (h a) (aw8 h .Or pos (b::r))
theorem n8{f:Expr->DE}(h:∀e,JE X e (f e)):∀o,JO X o (evO f o)
 | none=>bA3
 | some e=>bA2 (h e)
theorem bV1{f:Expr->DT}(h:∀e,JT X e (f e)):∀l,JTs X l (bo3 f l)
 | []=>aQ2
 | [t]=>bz4 (h t)
 | _::_::_=>bV0
theorem bl3{f:Expr->DG}(h:∀e,JG X e (f e)):∀es,es.all pl=true->JGs X es (bC6 f es)
 | [],_=>bA6
 | e::es,p=>by
  simp only[List.all_cons,Bool.and_eq_true]at p
  refine bl4 (h e) (bl3 h es p.2) ?_
  have p1:=p.1
  cases e<;>first|rfl|cases p1
theorem aT1{env:Env}:∀{es:List Expr},es.all pl=true->(assignEach es env).length=es.length/\(assignEach es env).findIdx? (·.1)=none
 | [],_=>⟨rfl,rfl⟩
 | e::es,p=>by
  simp only[List.all_cons,Bool.and_eq_true]at p
  obtain⟨h1,h2⟩:=aT1 (env:=env) p.2
  have p1:=p.1
  have q:assignEach (e::es) env=(false,assign e env)::assignEach es env:=by cases e<;>first|rfl|cases p1
  rw[q]
  refine⟨by simp[h1],?_⟩
  simp[List.findIdx?_cons,h2]
structure Sound (S:Sg) (r:Ev):Prop where
 e:∀{c X},Fit S c X->∀ex,JE X ex (r.e c ex)
 q:∀{c X},Fit S c X->∀ex,JQ X ex (r.q c ex)
 n:∀{c X},Fit S c X->∀ex,JN X ex (r.n c ex)
 t:∀{c X},Fit S c X->∀ex,JT X ex (r.t c ex)
 g:∀{c X},Fit S c X->∀ex,JG X ex (r.g c ex)
 b:∀{c X},Fit S c X->∀sts,JSs X sts (r.b c sts)
theorem Fit.hx(F:Fit S c X):∀e s,X.xe e s->False:=fun e s h=>by rw[F.xe]at h;exact h
theorem Fit.po(F:Fit S c X):PassesOwn (model X.prog X.w) X.A X.env X.xe:=by rw[F.xe];exact PassesOwn.never
theorem Fit.slot(F:Fit S c X) {x:Str}{i:Nat}(h:S4 x c.N=some i):X.N[i]? = some x:=by rw[F.N];exact aC7 h
theorem Fit.inner{tn:List Str}{caps:List Nat}{scope:Scope}{C:Addr}{s0:Shared}{H0:Hp}{ex:List Addr}(F:Fit S c X) (hn:(G.inner c tn caps scope).N.Nodup):Fit S (G.inner c tn caps scope) (D0 X (G.inner c tn caps scope).N scope C s0 H0 ex) :=
 ⟨rfl,by show relabel scope X.env=rl scope c.sc;rw[← F.sc];rfl,hn,F.calm,rfl,F.units,(fun h=>by cases h),F.fns,F.css,F.bls⟩
variable {r:Ev}
theorem aQ8(R:Sound S r) (F:Fit S c X) (tg it:Expr):JI X tg it (evI S r c tg it):=by
 unfold evI
 split
 ·rename_i x p a pos
  split
  ·rename_i h
   simp only[Bool.and_eq_true]at h
   obtain⟨rfl,h1,h2⟩:=Q6 F h.1
   exact aW3 h1 h2 (R.e F a) (E3 h.2 _ _)
  ·exact bl2 (R.e F _)
 ·split
  ·exact bX1 (R.e F _)
  ·exact bl2 (R.e F _)
theorem aS3(R:Sound S r) (F:Fit S c X) {elt tgt iter:Expr}{ifs:List Expr}{scope:Scope}{caps:List Nat}
  (h:(ab8 c.N (G.inner c (L1 tgt) caps scope).N (L1 tgt).length caps c.sc scope&&t8 (G.inner c (L1 tgt) caps scope).N&&pl iter)=true) :
  CompSc X (G.inner c (L1 tgt) caps scope).N (L1 tgt).length caps scope/\JI X tgt iter (evI S r c tgt iter)/\(∀C s0 H0 ex,JG (D0 X (G.inner c (L1 tgt) caps scope).N scope C s0 H0 ex) tgt (r.g (G.inner c (L1 tgt) caps scope) tgt)) /\
  (∀C s0 H0 ex,JTs (D0 X (G.inner c (L1 tgt) caps scope).N scope C s0 H0 ex) ifs (bo3 (r.t (G.inner c (L1 tgt) caps scope)) ifs))/\(∀C s0 H0 ex,JE (D0 X (G.inner c (L1 tgt) caps scope).N scope C s0 H0 ex) elt (r.e (G.inner c (L1 tgt) caps scope) elt)) /\
  ∀x,foldedSetIterable iter X.env x=pure x:=by
 simp only[Bool.and_eq_true]at h
 obtain⟨⟨h1,h2⟩,h3⟩:=h
 have hn:=i7 h2
 exact⟨as1 h1 F.N F.sc,aQ8 R F tgt iter,fun C s0 H0 ex=>R.g (F.inner hn) tgt,fun C s0 H0 ex=>bV1 (R.t (F.inner hn)) ifs,fun C s0 H0 ex=>R.e (F.inner hn) elt,ai7 h3 _⟩
theorem cj9(R:Sound S r) (F:Fit S c X) (ex:Expr):JN X ex (evC S r c ex):=by
 unfold evC
 split
 ·rename_i elt tgt iter ifs scope pos
  dsimp only
  split
  ·rename_i h
   obtain⟨h1,h2,h3,h4,h5,h6⟩:=aS3 (ifs:=ifs) (elt:=elt) R F h
   exact bA5 h1 F.hx h2 h3 h4 h5 F.calm h6
  ·exact ab2
 ·exact ab2
theorem aT9{x:Str}{T:String}(h:bM3 x=some T):bootBuiltins x=some (.type T)/\x ≠ "__name__" /\ (x==("__debug__" : Str))=false:=by
 unfold bM3 at h
 split at h
 ·rename_i e;cases h;simp only[beq_iff_eq]at e;subst e;exact⟨ay7,by decide,by decide⟩
 ·split at h
  ·rename_i e;cases h;simp only[beq_iff_eq]at e;subst e;exact⟨bD5,by decide,by decide⟩
  ·split at h
   ·rename_i e;cases h;simp only[beq_iff_eq]at e;subst e;exact⟨aL3,by decide,by decide⟩
   ·split at h
    ·rename_i e;cases h;simp only[beq_iff_eq]at e;subst e;exact⟨aF3,by decide,by decide⟩
    ·split at h
     ·rename_i e;cases h;simp only[beq_iff_eq]at e;subst e;exact⟨aT0,by decide,by decide⟩
     ·cases h
theorem K2(pos:Pos) (env:Env):∀{es:List Expr},es.all pl=true->(starEach es env).any (·.1)=false
 | [],_=>rfl
 | e::es,h=>by
  simp only[List.all_cons,Bool.and_eq_true]at h
  rw[E3 h.1,List.any_cons,K2 pos env h.2];rfl
end
end G
namespace G
open PySem PySem.Spec PyProof.Rows L2
section
variable {X:Cx}{S:Sg}{c:Kx}{r:Ev}
theorem aN5(h:bN2 e=some t):∃p,e=.Slice t.1 t.2.1 t.2.2 p:=by
 cases e<;>first|(cases h;exact⟨_,rfl⟩)|cases h
theorem O1(h:nmP e=some t):e=.Name t.1 t.2:=by
 cases e<;>first|(cases h;rfl)|cases h
theorem bq6(R:Sound S r) (F:Fit S c X) (a i:Expr) (pos:Pos):JE X (.Subscript a i pos) (bI7 r c a i):=by
 unfold bI7
 split
 ·rename_i t ht
  obtain⟨p,rfl⟩:=aN5 ht
  obtain⟨lo,hi,st⟩:=t
  cases st with
  | none =>
   dsimp only
   split
   ·exact bl8 (R.e F _) (n8 (R.e F) _) (n8 (R.e F) _)
   ·split
    ·exact bX6 (R.e F _) (n8 (R.e F) _) (n8 (R.e F) _)
    ·split
     ·exact bX7 (R.q F _) (n8 (R.e F) _) (n8 (R.e F) _)
     ·exact bX8 (R.e F _) (n8 (R.e F) _) (n8 (R.e F) _)
  | some e=>exact F7
 ·split
  ·rename_i h
   split
   ·exact bY3 (R.e F _) (R.e F _) (bf8 h)
   ·exact ck0 (R.q F _) (R.e F _) (bf8 h)
  ·exact F7
theorem aT6(R:Sound S r) (F:Fit S c X) (x:Str) (a:Expr) (p pos:Pos):JE X (.Call (.Name x p) [a] [] pos) (aG1 S r c x a):=by
 unfold aG1
 split
 ·exact F7
 rename_i hp
 have hp:pl a=true:=by simpa using hp
 have hs:=E3 hp [] X.env
 split
 ·rename_i h
  obtain⟨rfl,h1,h2⟩:=Q6 F h
  split
  ·rename_i y py e ppos
   split
   ·rename_i hy
    simp only[Bool.and_eq_true]at hy
    obtain⟨rfl,g1,g2⟩:=Q6 F hy.1
    exact aW4 h1 h2 g1 g2 (R.q F _) F.calm (E3 hy.2 _ _)
   ·exact bl9 h1 h2 (R.q F _) hs
  ·split
   ·exact bA8 h1 h2 (R.e F a) hs
   ·exact bl9 h1 h2 (R.q F a) hs
 split
 ·rename_i h;obtain⟨rfl,h1,h2⟩:=Q6 F h;exact bA7 h1 h2 (R.q F a) hs
 split
 ·rename_i h;obtain⟨rfl,h1,h2⟩:=Q6 F h;exact bZ0 h1 h2 (R.q F a) F.calm hs
 split
 ·rename_i h;obtain⟨rfl,h1,h2⟩:=Q6 F h;split;exact bB0 h1 h2 (R.e F a) hs;exact bm1 h1 h2 (R.e F a) hs
 split
 ·rename_i h;obtain⟨rfl,h1,h2⟩:=Q6 F h;exact bl7 h1 h2 (R.e F a) hs
 exact F7
theorem aT5(R:Sound S r) (F:Fit S c X) (x:Str) (a b:Expr) (p pos:Pos):JE X (.Call (.Name x p) [a,b] [] pos) (aG0 S r c x a b):=by
 unfold aG0
 split
 ·exact F7
 rename_i hp
 have hp:pl a=true:=by simpa using hp
 split
 ·rename_i h
  obtain⟨rfl,h1,h2⟩:=Q6 F h
  split
  ·rename_i y py
   split
   ·rename_i T hT
    split
    ·rename_i hy
     obtain⟨_,g1,g2⟩:=Q6 F hy
     obtain⟨t1,t2,t3⟩:=aT9 hT
     exact bY4 h1 h2 g1 g2 t1 (R.e F a) t2 t3 (E3 hp _ _) rfl rfl
    ·exact F7
   ·exact F7
  ·exact F7
 exact F7
theorem Q0(pos:Pos):∀l:List (Bool×Sem Value),(backTo pos l).any (·.1)=l.any (·.1)
 | []=>rfl
 | (b,t)::r=>by
  have ih:=Q0 pos r
  unfold backTo at ih ⊢
  rw[xmc,List.any_cons,List.any_cons,ih]
theorem ba8(R:Sound S r) (F:Fit S c X) (x:Str) (args:List Expr) (p pos:Pos):JE X (.Call (.Name x p) args [] pos) (ba9 S r c x args (.Call (.Name x p) args [] pos)):=by
 unfold ba9
 split
 ·rename_i Fn n hl
  split
  ·rename_i h
   simp only[Bool.and_eq_true,beq_iff_eq]at h
   obtain⟨⟨hg,hn⟩,hp⟩:=h
   obtain⟨g1,g2⟩:=i9 F hg
   rcases F.fns _ _ _ hl with⟨k,f,fd,ps,hk,hr,hm,hkp,hb⟩|⟨hm,hb⟩
   case inr =>
    cases args with
    | nil=>cases hn;exact absurd hb.1 (Nat.lt_irrefl _)
    | cons e es =>
     simp only[List.all_cons,Bool.and_eq_true]at hp
     exact ck2 hb F.units g1 hm (ag2 (R.e F) (e::es)) hn g2 (E3 hp.1 _ _) ((Q0 pos _).trans (K2 pos _ hp.2))
   cases args with
   | nil=>cases hn;exact bm3 hk hr g1 hm hkp hb g2
   | cons e es =>
    simp only[List.all_cons,Bool.and_eq_true]at hp
    exact bB1 hk hr g1 hm hkp hb (ag2 (R.e F) (e::es)) hn g2 (E3 hp.1 _ _) ((Q0 pos _).trans (K2 pos _ hp.2))
  ·exact F7
 ·split
  ·split
   ·exact al9 (R.n F _)
   ·exact aT6 R F _ _ _ _
  ·exact aT5 R F _ _ _ _ _
  ·exact F7
theorem bJ2(k:Const) (u:Nat) (pos:Pos):JE X (.Constant k u pos) (xCn k):=by
 unfold xCn
 split
 ·exact bY1
 ·exact ck1
 ·exact bY5
 ·exact bX5
 ·exact F7
theorem br0(R:Sound S r) (F:Fit S c X) (a:Expr) (op:Operator) (b:Expr) (pos:Pos):JE X (.BinOp a op b pos) (bJ5 r c a op b):=by
 unfold bJ5
 split
 ·split
  ·exact U8 bh7 (R.e F _) (R.e F _)
  ·exact U8 aP4 (R.e F _) (R.e F _)
 ·exact U8 bQ3 (R.e F _) (R.e F _)
 ·split
  ·exact U8 aw3 (R.e F _) (R.e F _)
  ·split
   ·split
    ·exact U8 bx3 (R.e F _) (R.e F _)
    ·exact U8 aP3 (R.e F _) (R.e F _)
   ·exact U8 aP3 (R.e F _) (R.e F _)
 ·exact U8 bQ9 (R.e F _) (R.e F _)
 ·exact U8 bQ6 (R.e F _) (R.e F _)
 ·exact U8 bQ4 (R.e F _) (R.e F _)
 ·exact F7
theorem bI6(R:Sound S r) (F:Fit S c X) (op:UnaryOp) (a:Expr) (pos:Pos):JE X (.UnaryOp op a pos) (xUn r c op a):=by
 unfold xUn
 split
 ·exact bY2 (R.e F _)
 ·exact bY0 (R.e F _)
 ·exact F7
theorem bq9(R:Sound S r) (F:Fit S c X) (a:Expr) (ops:List CmpOp) (bs:List Expr) (pos:Pos):JE X (.Compare a ops bs pos) (bJ3 S r c a ops bs):=by
 have hu:=F.units
 unfold bJ3
 split
 ·split
  ·rename_i h;exact bY8 (bh5 hu S c _ _) (R.e F _) (R.e F _) (ai6 h _)
  ·exact F7
 ·split
  ·rename_i h;exact bm2 (i6 hu _) (i6 hu _) (R.e F _) (R.e F _) (R.e F _) (ai6 h _)
  ·exact F7
 ·exact F7
theorem bN6(F:Fit S c X) {a e:Expr}(h:rvA S c a=some e):∃p1 p2,a=.Call (.Name "reversed" p1) [e] [] p2/\Gl X "reversed" /\ X.mg "reversed" = none/\pl e=true:=by
 unfold rvA at h
 split at h
 ·split at h
  ·rename_i b
   cases h
   simp only[Bool.and_eq_true]at b
   obtain⟨rfl,h1,h2⟩:=Q6 F b.1
   exact⟨_,_,rfl,h1,h2,b.2⟩
  ·cases h
 ·cases h
theorem bq8(R:Sound S r) (F:Fit S c X) (o:Expr) (m:Str) (apos cpos:Pos) (args:List Expr):JE X (.Call (.Attribute o m apos) args [] cpos) (bI9 S r c o m apos cpos args):=by
 unfold bI9
 split
 ·split
  ·rename_i h
   simp only[Bool.and_eq_true,beq_iff_eq]at h
   obtain⟨⟨hn,hl⟩,hp⟩:=h
   have hs:=E3 hp [] X.env
   have hl:(apos.endLine==cpos.line)=true:=by simpa using hl
   unfold xTx
   split
   ·rename_i hm
    rw[beq_iff_eq]at hm
    subst hm
    split
    ·rename_i e he
     obtain⟨p1,p2,rfl,h1,h2,h3⟩:=bN6 F he
     exact bm0 F.calm h1 h2 (R.e F _) (R.q F _) (P7 hn _ _ _) hl (E3 h3 [] X.env)
    ·exact bA9 (R.e F _) (R.q F _) (P7 hn _ _ _) (by rw[hs];rfl) hl hs
   split
   ·rename_i hm
    rw[beq_iff_eq]at hm
    subst hm
    exact bl5 PySem.F.slot_str_split PySem.F.type_str_split bi3 bm9 (R.e F _) (R.e F _) (P7 hn _ _ _) (by rw[hs];rfl) hl hs
   split
   ·rename_i hm
    rw[beq_iff_eq]at hm
    subst hm
    exact bl5 PySem.F.slot_str_partition PySem.F.type_str_partition by4 bB8 (R.e F _) (R.e F _) (P7 hn _ _ _) (by rw[hs];rfl) hl hs
   split
   ·rename_i hm
    rw[beq_iff_eq]at hm
    subst hm
    exact bl5 PySem.F.slot_str_startswith PySem.F.type_str_startswith aV7 aW9 (R.e F _) (R.e F _) (P7 hn _ _ _) (by rw[hs];rfl) hl hs
   exact F7
  ·exact F7
 ·exact F7
theorem bJ4(R:Sound S r) (F:Fit S c X) (f:Expr) (args:List Expr) (kw:List Keyword) (pos:Pos):JE X (.Call f args kw pos) (xCl S r c f args kw pos):=by
 unfold xCl
 split
 ·split
  ·exact ba8 R F _ _ _ _
  ·exact bq8 R F _ _ _ _ _
  ·exact F7
 ·exact F7
theorem bJ1(ks:List (Option Expr)) (vs:List Expr) (pos:Pos):JE X (.Dict ks vs pos) (xDs ks vs):=F7
theorem cc7(R:Sound S r) (F:Fit S c X) (ex:Expr):JE X ex (xE S r c ex):=by
 cases ex
 case Constant=>exact bJ2 _ _ _
 case Dict ks vs p=>exact bJ1 ks vs p
 case Name x p =>
  unfold xE
  dsimp only
  split
  ·rename_i i h
   split
   ·rename_i v;obtain⟨h1,h2,h3⟩:=P1 F v;exact bX3 i (F.slot h) h1 h2 h3
   ·exact F7
  ·split
   ·rename_i d hd
    split
    ·rename_i g;obtain⟨u,k1,k2⟩:=F.css _ _ hd;obtain⟨g1,g2⟩:=i9 F g;exact bY7 k1 g1 k2 g2
    ·exact F7
   ·exact F7
 case Tuple es _ _ =>
  unfold xE
  dsimp only
  split
  ·rename_i h;exact bX4 (ag2 (R.e F) _) h
  ·exact F7
 case List=>exact al9 (R.n F _)
 case ListComp=>exact al9 (R.n F _)
 case BinOp=>exact br0 R F _ _ _ _
 case UnaryOp=>exact bI6 R F _ _ _
 case Compare=>exact bq9 R F _ _ _ _
 case BoolOp=>exact aR0 (R.e F) _ _ _
 case IfExp=>exact bY6 (R.t F _) (R.e F _) (R.e F _)
 case Subscript=>exact bq6 R F _ _ _
 case Call=>exact bJ4 R F _ _ _ _
 all_goals exact F7
theorem cc4(R:Sound S r) (F:Fit S c X) (ex:Expr):JQ X ex (xQ S r c ex):=by
 cases ex
 case Name x p =>
  unfold xQ
  dsimp only
  split
  ·rename_i i h
   split
   ·rename_i v;obtain⟨h1,h2,h3⟩:=P1 F v;exact bW4 i (F.slot h) h1 h2 h3
   ·exact bH2
  ·exact bk6 (R.e F _)
 case List=>exact bW5 (R.n F _)
 case ListComp=>exact bW5 (R.n F _)
 case Call f as kw p =>
  unfold xQ
  dsimp only
  split
  ·exact bW5 (R.n F _)
  ·exact bk6 (R.e F _)
 all_goals exact bk6 (R.e F _)
theorem cc5(R:Sound S r) (F:Fit S c X) (ex:Expr):JN X ex (xN S r c ex):=by
 cases ex
 case List es p =>
  unfold xN
  dsimp only
  split
  ·rename_i h;exact bW6 (ag2 (R.e F) _) h
  ·exact ab2
 case ListComp=>exact cj9 R F _
 case Call f as kw p =>
  unfold xN
  dsimp only
  unfold xNl
  split
  ·split
   ·split
    ·rename_i h
     simp only[Bool.and_eq_true]at h
     obtain⟨rfl,h1,h2⟩:=Q6 F h.1
     exact bA4 h1 h2 (R.q F _) (E3 h.2 _ _)
    ·exact ab2
   ·exact ab2
  ·exact ab2
 case BinOp a op b p =>
  cases op
  case Add=>exact bW8 (R.q F _) (R.q F _)
  all_goals exact ab2
 all_goals exact ab2
theorem cc2(R:Sound S r) (F:Fit S c X) (ex:Expr):JT X ex (xT S r c ex):=by
 have hu:=F.units
 have oth:∀e:Expr,JT X e (if plT e then G9 (r.e c e) else tNo):=fun e=>by
  split
  ·rename_i h;exact bV2 (R.e F _) (bf9 h _)
  ·exact ar5
 cases ex
 case Compare a ops bs p =>
  unfold xT bE5
  dsimp only
  split
  ·split
   ·rename_i h;exact bV4 (bh5 hu S c _ _) (R.e F _) (R.e F _) (ai6 h _)
   ·exact ar5
  ·split
   ·rename_i h;exact bk0 (i6 hu _) (i6 hu _) (R.e F _) (R.e F _) (R.e F _) (ai6 h _)
   ·exact ar5
  ·exact ar5
 case BoolOp=>exact bj9 (aw8 (R.t F) _ _ _)
 case UnaryOp op a p =>
  cases op
  case Not=>exact bV3 (R.t F _)
  all_goals exact ar5
 all_goals exact oth _
theorem cc6(R:Sound S r) (F:Fit S c X) (ex:Expr):JG X ex (xG r c ex):=by
 unfold xG
 split
 ·split
  ·rename_i i h
   split
   ·rename_i v;obtain⟨h1,h2⟩:=aj1 F v;exact aQ9 i (by rw[F.N];exact F.nd) (F.slot h) h1 h2
   ·exact aC6
  ·exact aC6
 ·split
  ·rename_i h
   obtain⟨h1,h2⟩:=aT1 (env:=X.env) h
   exact bX2 (bl3 (R.g F) _ h) F.calm h1 h2
  ·exact aC6
 ·exact aC6
theorem aQ3{st:Stmt}{f:DS}(h:∀ρ,f ρ=none):JS X st f:=fun ρ fl q=>by rw[h ρ]at q;cases q
theorem aL2(F:Fit S c X) (h:c.df=true):X.env.blockKind=.function:=by
 unfold Env.blockKind
 rw[F.sc,(F.df h).2];rfl
theorem ac9(elt:Expr) (gens:List Comprehension) (sc:Scope) (pv p':Pos) (x:Str) (l:Nat) (env:Env):swapsWith (.ListComp elt gens sc pv) (some (.Name x p')) l env =
  pure (env.blockKind == .function&&env.kindOf x==some .local&&p'.line==pv.line && !(sc.names.any fun(n,k)=>n==x&&(k == .local || k == .cell))):=rfl
theorem aQ4(R:Sound S r) (F:Fit S c X) {x:Str}{p' pv p:Pos}{elt:Expr}{gens:List Comprehension}{sc:Scope}{i:Nat}(hi:S4 x c.N=some i) (hl:(c.sc.names.lookup x==some .local)=true)
  (h:(c.df&&p'.line==pv.line && !(sc.names.any fun(n,k)=>n==x&&(k == .local || k == .cell)))=true) :
  JS X (.Assign [.Name x p'] (.ListComp elt gens sc pv) p) (L5 i (evC S r c (.ListComp elt gens sc pv)))/\JS X (.Assign [.Name x p'] (.ListComp elt gens sc pv) p) (aq6 i (evC S r c (.ListComp elt gens sc pv))):=by
 unfold evC
 simp only[Bool.and_eq_true]at h
 have hl':X.env.scope.names.lookup x=some .local:=by rw[F.sc];simpa using hl
 have hsw:swapsWith (.ListComp elt gens sc pv) (some (.Name x p')) p.line X.env=pure true:=by
  rw[ac9,aL2 F h.1.1,h.1.2,h.2]
  unfold Env.kindOf
  rw[hl'];rfl
 split
 ·rename_i elt tgt iter ifs scope pos he
  cases he
  dsimp only
  split
  ·rename_i hc
   obtain⟨h1,h2,h3,h4,h5,h6⟩:=aS3 (ifs:=ifs) (elt:=elt) R F hc
   exact⟨bz8 i (by rw[F.N];exact F.nd) h1 F.hx h2 h3 h4 h5 (F.slot hi) hl' hsw F.calm h6,bA0 i (by rw[F.N];exact F.nd) h1 F.hx h2 h3 h4 h5 (F.slot hi) hl' hsw F.calm h6⟩
  ·exact⟨aQ3 fun ρ=>rfl,aQ3 fun ρ=>rfl⟩
 ·exact⟨aQ3 fun ρ=>rfl,aQ3 fun ρ=>rfl⟩
theorem br4(R:Sound S r) (F:Fit S c X) (x:Str) (p':Pos) (v:Expr) (p:Pos):JS X (.Assign [.Name x p'] v p) (bJ8 S r c x p' v):=by
 have nd:X.N.Nodup:=by rw[F.N];exact F.nd
 unfold bJ8
 split
 ·exact C1
 ·rename_i i hi
  split
  ·exact C1
  ·rename_i hlo
   have hlo:aI5 c x=true:=by simpa using hlo
   obtain⟨l1,l2⟩:=aj1 F hlo
   split
   ·rename_i elt gens sc pv
    split
    ·rename_i hl
     split
     ·rename_i h
      split
      ·exact(aQ4 R F hi hl h).1
      ·exact(aQ4 R F hi hl h).2
     ·exact C1
    ·rename_i hl
     refine bk3 i nd (R.e F _) (F.slot hi) l1 ?_ l2
     rw[ac9]
     have:(X.env.kindOf x==some .local)=false:=by
      unfold Env.kindOf
      rw[F.sc];simpa using hl
     rw[this,Bool.and_false];rfl
   ·split
    ·exact C1
    ·rename_i hc
     have hc:isC v=false:=by simpa using hc
     split
     ·exact bV8 i nd (R.n F _) (F.slot hi) l1 (P8 hc _ _ _) l2
     ·exact bk3 i nd (R.e F _) (F.slot hi) l1 (P8 hc _ _ _) l2
theorem br3(R:Sound S r) (F:Fit S c X) (a i v:Expr) (q p:Pos):JS X (.Assign [.Subscript a i q] v p) (bJ7 r c a i v):=by
 unfold bJ7
 split
 ·exact C1
 ·rename_i x hx
  cases O1 hx
  split
  ·exact C1
  ·rename_i t ht
   obtain⟨p',rfl⟩:=aN5 ht
   obtain⟨lo,hi,st⟩:=t
   cases st with
   | some e=>exact C1
   | none =>
    dsimp only[Option.isSome]
    rw[if_neg Bool.false_ne_true]
    split
    ·exact C1
    ·rename_i i hi
     split
     ·rename_i h
      simp only[Bool.and_eq_true,Bool.not_eq_true']at h
      obtain⟨h1,h2,h3⟩:=P1 F h.1
      exact bV5 i (R.n F _) (n8 (R.e F) _) (n8 (R.e F) _) (F.slot hi) h1 h2 h3 (P8 h.2 _ _ _)
     ·exact C1
theorem bs9(h:cd6 es=some t):es=[.Name t.1.1 t.1.2,.Name t.2.1 t.2.2]:=by
 match es,h with
 | [a,b],h =>
  obtain⟨x,h1,h⟩:=Option.bind_eq_some_iff.mp h
  obtain⟨y,h2,h⟩:=Option.map_eq_some_iff.mp h
  cases h
  rw[O1 h1,O1 h2]
theorem bs8(h:cd5 e=some t):∃k p,e=.Tuple [t.1,t.2] k p:=by
 cases e with
 | Tuple es k p =>
  match es,h with
  | [a,b],h=>cases h;exact⟨k,p,rfl⟩
  | [],h=>cases h
  | [_],h=>cases h
  | _::_::_::_,h=>cases h
 | _=>cases h
theorem bR2{v:Expr}(h:aD0 v=false) (es:List Expr) (k:Nat) (p:Pos) (env:Env):swappedStores [.Tuple es k p] v env=pure none:=by
 cases v<;>first|rfl|cases h
def stB:Expr->Bool
 | .Starred ..=>true
 | _=>false
def swN(env:Env) (x y:Str) (px py:Pos):List Str:=[(x,px),(y,py)].filterMap fun t=>if env.kindOf t.1==some .local&&t.2.line==px.line then some t.1 else none
theorem cf2(env:Env) (x y:Str) (px py pt p2:Pos) (kt k2:Nat) (a b:Expr):swappedStores [.Tuple [.Name x px,.Name y py] kt pt] (.Tuple [a,b] k2 p2) env =
  (if(env.blockKind != .function)=true then pure none else if([a,b].any stB)=true then pure none else if((swN env x y px py).length != 2 || (swN env x y px py).eraseDups.length != (swN env x y px py).length)=true then pure none
   else if([a,b].all (foldedForSure 8))=true then pure none else if([a,b].all (constantsAlone 8))=true then unsupported "assign.tuple-of-constant-expressions:order-of-the-stores" else pure (some (swN env x y px py))):=by rfl
theorem bf7(h:pl e=true):stB e=false:=by cases e<;>first|rfl|cases h
theorem bN0{env:Env}{x y:Str}{px py pt p2:Pos}{kt k2:Nat}{a b:Expr}(hk:env.blockKind=.function) (ha:pl a=true) (hb:pl b=true) (kx:env.kindOf x=some .local) (ky:env.kindOf y=some .local) (hl:px.line=py.line) (hxy:(x==y)=false)
  (hf:([a,b].all (foldedForSure 8))=false) (hc:([a,b].all (constantsAlone 8))=false):swappedStores [.Tuple [.Name x px,.Name y py] kt pt] (.Tuple [a,b] k2 p2) env=pure (some [x,y]):=by
 have hn:swN env x y px py=[x,y]:=by simp[swN,kx,ky,hl]
 have hyx:(y==x)=false:=by
  cases q:(y==x) with
  | false=>rfl
  | true=>simp only[beq_iff_eq]at q;subst q;simp at hxy
 have hd:([x,y]:List Str).eraseDups=[x,y]:=by simp[List.eraseDups,List.eraseDupsBy,List.eraseDupsBy.loop,hxy,hyx]
 rw[cf2,hk,hn,hd,hf,hc]
 simp[bf7 ha,bf7 hb]
theorem bt4{es vs:List Expr}(h:(es.length==2 || es.length==3)=false) (k k3:Nat) (p p3:Pos) (env:Env):swappedStores [.Tuple es k p] (.Tuple vs k3 p3) env=pure none:=by
 show(if(!(es.length==2 || es.length==3) || vs.length != es.length || env.blockKind != .function)=true then _ else _)=_
 rw[if_pos (by rw[h];rfl)]
theorem br2(R:Sound S r) (F:Fit S c X) (es:List Expr) (kt:Nat) (pt:Pos) (v:Expr) (p:Pos):JS X (.Assign [.Tuple es kt pt] v p) (bJ6 r c (.Tuple es kt pt) v es):=by
 have nd:X.N.Nodup:=by rw[F.N];exact F.nd
 unfold bJ6
 split
 ·rename_i x px y py ht
  cases bs9 ht
  split
  ·split
   ·rename_i a b hab
    obtain⟨k2,p2,rfl⟩:=bs8 hab
    split
    ·rename_i i hi
     split
     ·rename_i j hj
      split
      ·rename_i h
       unfold ch0 at h
       simp only[Bool.and_eq_true,Bool.not_eq_true',beq_iff_eq]at h
       obtain⟨⟨⟨⟨⟨⟨⟨⟨hd,ha⟩,hb⟩,hxy⟩,hl⟩,hx⟩,hy⟩,hf⟩,hcs⟩:=h
       have hx':X.env.scope.names.lookup x=some .local:=by rw[F.sc];exact hx
       have hy':X.env.scope.names.lookup y=some .local:=by rw[F.sc];exact hy
       have hne:i≠j:=fun z=>by
        subst z
        have:=(F.slot hi).symm.trans (F.slot hj)
        cases this
        simp at hxy
       refine bV7 nd (ag2 (R.e F) [a,b]) ?_ hne (F.slot hi) (F.slot hj) hx' hy' F.calm rfl
       exact bN0 (aL2 F hd) ha hb hx' hy' hl hxy hf hcs
      ·exact C1
     ·exact C1
    ·exact C1
   ·exact C1
  ·rename_i h
   have h:aD0 v=false:=by simpa using h
   refine bk4 (R.e F _) (R.g F _) ?_ (bR2 h _ _ _ _) rfl
   cases v<;>rfl
 ·split
  ·exact C1
  ·rename_i h
   refine bk4 (R.e F _) (R.g F _) ?_ ?_ rfl
   ·cases v<;>rfl
   ·cases v<;>first|rfl|skip
    rename_i vs k3 p3
    have h:(es.length==2 || es.length==3)=false:=by simpa [aD0] using h
    exact bt4 h _ _ _ _ _
theorem br1(R:Sound S r) (F:Fit S c X) (tg v:Expr) (p:Pos):JS X (.Assign [tg] v p) (cc8 S r c tg v p):=by
 cases tg with
 | Name x p'=>exact br4 R F x p' v p
 | Subscript a i q=>exact br3 R F a i v q p
 | Tuple es k q=>exact br2 R F es k q v p
 | _=>exact C1
end
end G
namespace G
open PySem PySem.Spec PyProof.Rows L2
section
variable {X:Cx}{S:Sg}{c:Kx}{r:Ev}
theorem bq7(R:Sound S r) (F:Fit S c X) (x m:Str) (e:Expr) (p apos cpos pos:Pos) (hl:(apos.endLine==cpos.line)=true):JS X (.Expr (.Call (.Attribute (.Name x p) m apos) [e] [] cpos) pos) (bI8 r c x m e):=by
 unfold bI8
 split
 ·exact C1
 ·rename_i i hi
  split
  ·rename_i h
   simp only[Bool.and_eq_true]at h
   obtain⟨h1,h2,h3⟩:=P1 F h.1
   have hs:=E3 h.2 [] X.env
   split
   ·rename_i hm
    simp only[beq_iff_eq]at hm
    subst hm
    exact bW3 i (R.e F e) (F.slot hi) h1 h2 h3 rfl (by rw[hs];rfl) hl hs rfl
   ·split
    ·rename_i hm
     simp only[beq_iff_eq]at hm
     subst hm
     exact bW1 i (R.e F e) (F.slot hi) h1 h2 h3 hl hs
    ·exact C1
  ·exact C1
theorem bJ0(R:Sound S r) (F:Fit S c X) (e:Expr) (pos:Pos):JS X (.Expr e pos) (xEx r c e):=by
 unfold xEx
 split
 ·split
  ·split
   ·split
    ·split
     ·rename_i h;exact bq7 R F _ _ _ _ _ _ _ h
     ·exact C1
    ·exact C1
   ·exact C1
  ·exact C1
 ·exact C1
theorem ba7(R:Sound S r) (F:Fit S c X) (st:Stmt):JS X st (xS0 S r c st):=by
 cases st
 case Return o p =>
  cases o
  ·exact C1
  ·exact bV6 (R.e F _)
 case If=>exact cj8 (R.t F _) (R.b F _) (R.b F _)
 case While t a o p =>
  cases o
  ·exact bk2 (R.t F _) (R.b F _) F.po
  ·exact C1
 case For tg it a o p =>
  cases o
  ·unfold xS0 xFo
   dsimp only
   split
   ·rename_i h;exact bW0 (aQ8 R F _ _) (R.g F _) (R.b F _) F.po F.calm (ai7 h _)
   ·exact C1
  ·exact C1
 case Assign ts v p =>
  unfold xS0 xAs
  dsimp only
  split
  ·exact br1 R F _ _ _
  ·exact C1
 case Expr=>exact bJ0 R F _ _
 case Continue=>exact bz9
 case Break=>exact bW2
 case Pass=>exact bz7
 all_goals exact C1
theorem bn9{st:Stmt}:∀(l:List Nat) {g:DS},JS X st g->JS X st (l.foldl (fun g i=>k7 i g) g)
 | [],_,h=>h
 | i::l,_,h=>bn9 l (bV9 i h)
theorem cc3(R:Sound S r) (F:Fit S c X) (st:Stmt):JS X st (xS S r c st):=by
 unfold xS fzW
 split
 ·exact ba7 R F st
 ·exact bn9 _ (ba7 R F st)
theorem bo4(h:∀st,JS X st (f st)):∀sts,JSs X sts (evB f sts)
 | []=>bz6
 | [s]=>bz5 (h s)
 | s::t::N5=>bk1 (h s) (bo4 h (t::N5))
theorem bt7(R:Sound S r):Sound S (step S r) :=
 ⟨fun F=>cc7 R F,fun F=>cc4 R F,fun F=>cc5 R F,fun F=>cc2 R F,fun F=>cc6 R F,fun F=>bo4 (cc3 R F)⟩
theorem ag6(S:Sg):∀n,Sound S (ev S n)
 | 0=>⟨fun _ _=>F7,fun _ _=>bH2,fun _ _=>ab2,fun _ _=>ar5,fun _ _=>aC6,fun _ _ ρ fl q=>by cases q⟩
 | n+1=>bt7 (ag6 S n)
end
structure Fd where
 x:Str
 st:Stmt
 ps:List Str
 N:List Str
 own:List Nat:=[]
 tx:List Nat:=[]
 dx:List Nat:=[]
 old:Bool:=false
 fz:List (Nat×List Nat):=[]
 hc:List ((Nat×Nat)×List Nat):=[]
def fdm(x:Str) (st:Stmt) (n:Nat) (N:List Str) (old:Bool:=false):Fd:={ x,st,ps:=N.take n,N,old }
def Fd.c(d:Fd):Kx:={ N:=d.N,sc:=B9 d.st,df:=true,own:=d.own,cpt:=[],tx:=d.tx,dx:=d.dx,old:=d.old,fz:=d.fz,hc:=d.hc }
def Fd.okB(d:Fd):Bool:=let sc:=B9 d.st
 sc.kind == .function && !sc.isCoroutine && !sc.isGenerator&&t8 d.N&&d.N.take d.ps.length==d.ps&&(d.ps.all fun x=>match sc.names.lookup x with|some .local=>true|some .cell=>true|_=>false)&&sc.names.all fun y=>match y.2 with | .free=>false|_=>true
theorem Fd.sc{d:Fd}(h:d.okB=true):FnScope d.N d.ps (B9 d.st):=by
 unfold Fd.okB at h
 simp only[Bool.and_eq_true,Bool.not_eq_true',beq_iff_eq,List.all_eq_true]at h
 obtain⟨⟨⟨⟨⟨⟨h1,h2⟩,h3⟩,h4⟩,h5⟩,h6⟩,h7⟩:=h
 refine⟨h1,h2,h3,i7 h4,h5,fun x hx=>?_,fun y hy e=>?_⟩
 ·have:=h6 x hx
  split at this
  ·rename_i q;exact .inl q
  ·rename_i q;exact .inr q
  ·cases this
 ·have:=h7 y hy
  rw[e]at this
  cases this
def KF(K:PySem.W.Frag) (x:Str) (st:Stmt):Prop:=∃(f:Addr) (oc:Value) (od:Option Addr) (sl:Array (Option Value)) (kV dc pm:Value) (an:Option Addr) (cd ct:Value),
 PySem.W.nsIn K mainGlobals x=some (some (.ref f))/\K.lookup f=some ⟨oc,od,.func (PySem.W.fnOf x x (L6 st) (E8 st) (B9 st) .none kV dc pm an cd ct),sl⟩/\PySem.W.codeIn K cd x=true/\PySem.W.keepIn K (.ref f)=true
theorem cj2{K:PySem.W.Frag}{x:Str}{st:Stmt}{f:Addr}{oc:Value}{od:Option Addr}{sl:Array (Option Value)}{kV dc pm:Value}{an:Option Addr}{cd ct:Value}(a:PySem.W.nsIn K mainGlobals x=some (some (.ref f)))
  (l:K.lookup f=some ⟨oc,od,.func (PySem.W.fnOf x x (L6 st) (E8 st) (B9 st) .none kV dc pm an cd ct),sl⟩) (c:PySem.W.codeIn K cd x=true) (k:PySem.W.keepIn K (.ref f)=true):KF K x st:=⟨f,oc,od,sl,kV,dc,pm,an,cd,ct,a,l,c,k⟩
abbrev Tab:=List (Str×FnD×Nat)
section
variable {P:Program}{w:World}{K:PySem.W.Frag}{mg:Str->Option Value}{base:Heap}{cs:List (Str×D)}{bl:List Str}
structure Md (K:PySem.W.Frag) (mg:Str->Option Value) (cs:List (Str×D)) (bl:List Str):Prop where
 ns:∀x v,PySem.W.nsIn K mainGlobals x=some (some v)->mg x=some v
 css:∀x d,cs.lookup x=some d->∃u,aF7 K d u/\mg x=some u
 bls:∀x,bl.contains x=true->mg x=none
def TOk(P:Program) (w:World) (K:PySem.W.Frag) (mg:Str->Option Value) (base:Heap) (k:Nat) (tab:Tab):Prop:=∀x F n,tab.lookup x=some (F,n)->(∃(f:Addr) (fd:FuncData) (ps:List Str),
 FnOk P w K mg base CX0 k f fd ps (spF K n F)/\mg x=some (.ref f)/\PySem.W.keepIn K (.ref f)=true/\F9 K fd ps [])\/(mg x=none/\cc0 x F n)
theorem TOk.nil:TOk P w K mg base 0 []:=fun x F n h=>by cases h
theorem TOk.mono(T:TOk P w K mg base j tab) (h:j<=k):TOk P w K mg base k tab:=fun x F n e =>
 (T x F n e).imp (fun⟨f,fd,ps,h1,h2,h3,h4⟩=>⟨f,fd,ps,h1.mono h,h2,h3,h4⟩) id
def UA:Nat->(List Value->Prop)->Prop
 | 0,P=>P []
 | n+1,P=>∀a,UA n fun us=>P (a::us)
theorem ua:∀{n:Nat}{P:List Value->Prop},UA n P->∀us:List Value,us.length=n->P us
 | 0,_,h,[],_=>h
 | _+1,P,h,a::us,e=>ua (P:=fun us=>P (a::us)) (h a) us (Nat.succ.inj e)
def Bd(d:Fd):Prop:=∀(kV doc pm:Value) (an:Option Addr) (cdv ct:Value),UA d.ps.length fun us=>bindArgs (PySem.W.fnOf d.x d.x (L6 d.st) (E8 d.st) (B9 d.st) .none kV doc pm an cdv ct) ⟨us,[]⟩=pure (d.ps.zip us)
def rd(tab:Tab) (cs:List (Str×D)) (bl:List Str) (d:Fd):FnD:=D2 ((ev ⟨tab,cs,bl⟩ 99).b d.c (E8 d.st)) d.N.length
theorem ag5(M:Md K mg cs bl) (T:TOk P w K mg base k tab) (ok:d.okB=true) (Fn:Fun K d.x d.x d.st f fd):FnOk P w K mg base CX0 (k+1) f fd d.ps (spF K d.ps.length (rd tab cs bl d)):=by
 have Sc:=Fd.sc ok
 refine bC2 (N:=d.N) Fn Sc fun cdv A outer s H E hr=>(ag6 ⟨tab,cs,bl⟩ 99).b (c:=d.c) ?_ _
 refine⟨rfl,rfl,Sc.nd,rfl,rfl,hr.units,fun _=>⟨fun _=>rfl,Sc.kind⟩,fun x F n h=>?_,M.css,M.bls⟩
 exact(T x F n h).imp (fun⟨f',fd',ps,h1,h2,h3,h4⟩=>⟨k,f',fd',ps,h1,hr,h2,h3,h4⟩) id
theorem O2{x:Str}{st:Stmt}(h:KF K x st) (M:Md K mg cs bl):∃(f:Addr) (kV dc pm:Value) (an:Option Addr) (cd ct:Value),Fun K x x st f (PySem.W.fnOf x x (L6 st) (E8 st) (B9 st) .none kV dc pm an cd ct)/\mg x=some (.ref f):=by
 obtain⟨f,oc,od,sl,kV,dc,pm,an,cd,ct,a,l,cc,kk⟩:=h
 exact⟨f,kV,dc,pm,an,cd,ct,aJ4 l cc kk,M.ns _ _ a⟩
theorem TOk.cons{k:Nat}{tab:Tab}{x:Str}{F:FnD}{n:Nat}(T:TOk P w K mg base k tab) (h:∃(f:Addr) (fd:FuncData) (ps:List Str),FnOk P w K mg base CX0 k f fd ps (spF K n F)/\mg x=some (.ref f)/\PySem.W.keepIn K (.ref f)=true/\F9 K fd ps []) :
  TOk P w K mg base k ((x,F,n)::tab):=fun y G m e=>by
 rw[List.lookup_cons]at e
 split at e
 ·rename_i q
  cases e
  simp only[beq_iff_eq]at q
  subst q
  exact .inl h
 ·exact T y G m e
theorem TOk.add(T:TOk P w K mg base k tab) (M:Md K mg cs bl) (d:Fd) (h:KF K d.x d.st) (F:FnD) (e:rd tab cs bl d=F:=by kernel_rfl) (ok:d.okB=true:=by kernel_rfl) (bd:Bd d:=by repeat (first|exact rfl|intro _)):TOk P w K mg base (k+1) ((d.x,F,d.ps.length)::tab):=by
 subst e
 obtain⟨f,kV,dc,pm,an,cd,ct,Fn,hm⟩:=O2 h M
 exact(T.mono (Nat.le_succ k)).cons ⟨f,_,d.ps,ag5 M T ok Fn,hm,Fn.kp,.all (ua (bd kV dc pm an cd ct))⟩
theorem TOk.rec(T:TOk P w K mg base k tab) (M:Md K mg cs bl) (d:Fd) (h:KF K d.x d.st) (F:Nat->FnD) (j:Nat) (e0:F 0=fun _=>none:=by rfl) (e:∀j,rd ((d.x,F j,d.ps.length)::tab) cs bl d=F (j+1):=by intro;kernel_rfl) (ok:d.okB=true:=by kernel_rfl) (bd:Bd d:=by repeat (first|exact rfl|intro _)) :
  TOk P w K mg base (k+j) ((d.x,F j,d.ps.length)::tab):=by
 obtain⟨f,kV,dc,pm,an,cd,ct,Fn,hm⟩:=O2 h M
 have bb:F9 K _ d.ps []:=.all (ua (bd kV dc pm an cd ct))
 have main:∀j,FnOk P w K mg base CX0 (k+j) f (PySem.W.fnOf d.x d.x (L6 d.st) (E8 d.st) (B9 d.st) .none kV dc pm an cd ct) d.ps (spF K d.ps.length (F j)):=fun j=>by
  induction j with
  | zero =>
   rw[e0]
   exact⟨fun vs H Q E h=>h.1,fun A outer s H args us vs Q E hr e0 hb hv hs=>by obtain⟨_,Hf,ds,d,_,_,e,_⟩:=hs;cases e⟩
  | succ j ih =>
   rw[← e j]
   exact ag5 M ((T.mono (Nat.le_add_right k j)).cons ⟨f,_,d.ps,ih,hm,Fn.kp,bb⟩) ok Fn
 exact(T.mono (Nat.le_add_right k j)).cons ⟨f,_,d.ps,main j,hm,Fn.kp,bb⟩
theorem TOk.rec2(T:TOk P w K mg base k tab) (M:Md K mg cs bl) (d d':Fd) (h:KF K d.x d.st) (h':KF K d'.x d'.st) (F F':Nat->FnD) (j:Nat) (e0:F 0=fun _=>none:=by rfl) (e0':F' 0=fun _=>none:=by rfl)
  (e:∀j,rd ((d.x,F j,d.ps.length)::(d'.x,F' j,d'.ps.length)::tab) cs bl d=F (j+1):=by intro;kernel_rfl) (e':∀j,rd ((d.x,F j,d.ps.length)::(d'.x,F' j,d'.ps.length)::tab) cs bl d'=F' (j+1):=by intro;kernel_rfl) (ok:d.okB=true:=by kernel_rfl) (ok':d'.okB=true:=by kernel_rfl) (bd:Bd d:=by repeat (first|exact rfl|intro _)) (bd':Bd d':=by repeat (first|exact rfl|intro _)) :
  TOk P w K mg base (k+j) ((d.x,F j,d.ps.length)::(d'.x,F' j,d'.ps.length)::tab):=by
 obtain⟨f,kV,dc,pm,an,cd,ct,Fn,hm⟩:=O2 h M
 obtain⟨f',kV',dc',pm',an',cd',ct',Fn',hm'⟩:=O2 h' M
 have b1:F9 K _ d.ps []:=.all (ua (bd kV dc pm an cd ct))
 have b2:F9 K _ d'.ps []:=.all (ua (bd' kV' dc' pm' an' cd' ct'))
 have none_ok:∀{f:Addr}{fd:FuncData}{ps:List Str},FnOk P w K mg base CX0 (k+0) f fd ps (spF K ps.length fun _=>none):=fun{f fd ps} =>
  ⟨fun vs H Q E h=>h.1,fun A outer s H args us vs Q E hr e0 hb hv hs=>by obtain⟨_,Hf,ds,d,_,_,e,_⟩:=hs;cases e⟩
 have main:∀j,TOk P w K mg base (k+j) ((d.x,F j,d.ps.length)::(d'.x,F' j,d'.ps.length)::tab):=fun j=>by
  induction j with
  | zero=>rw[e0,e0'];exact((T.mono (Nat.le_refl _)).cons ⟨f',_,d'.ps,none_ok,hm',Fn'.kp,b2⟩).cons ⟨f,_,d.ps,none_ok,hm,Fn.kp,b1⟩
  | succ j ih =>
   have o1:=ag5 M ih ok Fn
   have o2:=ag5 M ih ok' Fn'
   rw[e j]at o1
   rw[e' j]at o2
   exact((T.mono (Nat.le_add_right k (j+1))).cons ⟨f',_,d'.ps,o2,hm',Fn'.kp,b2⟩).cons ⟨f,_,d.ps,o1,hm,Fn.kp,b1⟩
 exact main j
theorem TOk.rec3(T:TOk P w K mg base k tab) (M:Md K mg cs bl) (d1 d2 d3:Fd) (h1:KF K d1.x d1.st) (h2:KF K d2.x d2.st) (h3:KF K d3.x d3.st) (F1 F2 F3:Nat->FnD) (j:Nat) (z1:F1 0=fun _=>none:=by rfl) (z2:F2 0=fun _=>none:=by rfl) (z3:F3 0=fun _=>none:=by rfl)
  (e1:∀j,rd ((d1.x,F1 j,d1.ps.length)::(d2.x,F2 j,d2.ps.length)::(d3.x,F3 j,d3.ps.length)::tab) cs bl d1=F1 (j+1):=by intro;kernel_rfl) (e2:∀j,rd ((d1.x,F1 j,d1.ps.length)::(d2.x,F2 j,d2.ps.length)::(d3.x,F3 j,d3.ps.length)::tab) cs bl d2=F2 (j+1):=by intro;kernel_rfl) (e3:∀j,rd ((d1.x,F1 j,d1.ps.length)::(d2.x,F2 j,d2.ps.length)::(d3.x,F3 j,d3.ps.length)::tab) cs bl d3=F3 (j+1):=by intro;kernel_rfl) (ok1:d1.okB=true:=by kernel_rfl) (ok2:d2.okB=true:=by kernel_rfl) (ok3:d3.okB=true:=by kernel_rfl) (q1:Bd d1:=by repeat (first|exact rfl|intro _)) (q2:Bd d2:=by repeat (first|exact rfl|intro _)) (q3:Bd d3:=by repeat (first|exact rfl|intro _)) :
  TOk P w K mg base (k+j) ((d1.x,F1 j,d1.ps.length)::(d2.x,F2 j,d2.ps.length)::(d3.x,F3 j,d3.ps.length)::tab):=by
 obtain⟨f1,a1,a2,a3,a4,a5,a6,Fn1,hm1⟩:=O2 h1 M
 obtain⟨f2,c1,c2,c3,c4,c5,c6,Fn2,hm2⟩:=O2 h2 M
 obtain⟨f3,g1,g2,g3,g4,g5,g6,Fn3,hm3⟩:=O2 h3 M
 have b1:F9 K _ d1.ps []:=.all (ua (q1 a1 a2 a3 a4 a5 a6))
 have b2:F9 K _ d2.ps []:=.all (ua (q2 c1 c2 c3 c4 c5 c6))
 have b3:F9 K _ d3.ps []:=.all (ua (q3 g1 g2 g3 g4 g5 g6))
 have none_ok:∀{f:Addr}{fd:FuncData}{ps:List Str},FnOk P w K mg base CX0 (k+0) f fd ps (spF K ps.length fun _=>none):=fun{f fd ps} =>
  ⟨fun vs H Q E h=>h.1,fun A outer s H args us vs Q E hr e0 hb hv hs=>by obtain⟨_,Hf,ds,d,_,_,e,_⟩:=hs;cases e⟩
 induction j with
 | zero=>rw[z1,z2,z3];exact(((T.mono (Nat.le_refl _)).cons ⟨f3,_,d3.ps,none_ok,hm3,Fn3.kp,b3⟩).cons ⟨f2,_,d2.ps,none_ok,hm2,Fn2.kp,b2⟩).cons ⟨f1,_,d1.ps,none_ok,hm1,Fn1.kp,b1⟩
 | succ j ih =>
  have o1:=ag5 M ih ok1 Fn1
  have o2:=ag5 M ih ok2 Fn2
  have o3:=ag5 M ih ok3 Fn3
  rw[e1 j]at o1
  rw[e2 j]at o2
  rw[e3 j]at o3
  exact(((T.mono (Nat.le_add_right k (j+1))).cons ⟨f3,_,d3.ps,o3,hm3,Fn3.kp,b3⟩).cons ⟨f2,_,d2.ps,o2,hm2,Fn2.kp,b2⟩).cons ⟨f1,_,d1.ps,o1,hm1,Fn1.kp,b1⟩
theorem by9(M:Md K mg cs bl) (T:∀base:Heap,TOk P w K mg base k tab) (d:Fd) (h:KF K d.x d.st) (e:rd tab cs bl d=F) (hm:mg d.x=some (.ref fa)) (hp:d.ps=[x]:=by rfl) (ok:d.okB=true:=by kernel_rfl) (bd:Bd d:=by repeat (first|exact rfl|intro _)) :
  ∃fd:FuncData,(∀(s:Shared) (u:Value),BindsTo s fd ⟨[u],[]⟩ [(x,u)])/\∀base:Heap,FnOk P w K mg base CX0 (k+1) fa fd [x] (spF K 1 F):=by
 subst e
 obtain⟨f,kV,dc,pm,an,cd,ct,Fn,hm'⟩:=O2 h M
 cases hm.symm.trans hm'
 refine⟨PySem.W.fnOf d.x d.x (L6 d.st) (E8 d.st) (B9 d.st) .none kV dc pm an cd ct,fun s u=>.of_eq ?_,fun base=>?_⟩
 ·have:=ua (bd kV dc pm an cd ct) [u] (by rw[hp];rfl)
  rw[hp]at this
  exact this
 ·have:=ag5 M (T base) ok Fn
  rw[hp]at this
  exact this
end
end G
namespace G
open PySem PySem.Spec PyProof.Rows L2
abbrev Fo:=List (Str×D)
structure Chg (S:List Addr) (H Hf H' Hf':Hp):Prop where
 big:∀b o,b∉S->H b=some o->H' b=some o
 kp:∀b,H b≠none->H' b≠none
 sub:B8 Hf' H'
 ext:B8 Hf Hf'
 new:∀b,Hf' b≠none->Hf b≠none\/H b=none
theorem au4{α:Type}{o:Option α}{x:α}(h:o=some x):o≠none:=by rw[h];exact fun z=>by cases z
theorem by1{α:Type}{o:Option α}(h:o≠none):∃x,o=some x:=by cases o with
 | none=>exact absurd rfl h
 | some x=>exact⟨x,rfl⟩
section
variable {K:PySem.W.Frag}{H H' H0 H1 H2 Hf Hf' Hf0 Hf1 Hf2:Hp}{S S' R:List Addr}{C:Addr}{os:List (Addr×Fo)}{a:Addr}
theorem Chg.of(g:Grow H Hf H' Hf'):Chg S H Hf H' Hf':=⟨fun b o _ e=>g.big b o e,fun b h=>by obtain⟨x,e⟩:=by1 h;exact au4 (g.big b x e),g.sub,g.ext,g.new⟩
theorem Chg.trans(a:Chg S H Hf H1 Hf1) (b:Chg S' H1 Hf1 H2 Hf2) (h:∀x∈S',x∈S\/H x=none):Chg S H Hf H2 Hf2 where
 big c o hc e:=b.big c o (fun z=>(h c z).elim hc fun n=>by rw[n]at e;cases e) (a.big c o hc e)
 kp c h:=b.kp c (a.kp c h)
 sub:=b.sub
 ext:=a.ext.trans b.ext
 new c h:=(b.new c h).elim (a.new c) fun n=>.inr (Classical.byContradiction fun z=>a.kp c z n)
theorem Chg.grow(a:Chg [] H Hf H' Hf'):Grow H Hf H' Hf':=⟨fun b o e=>a.big b o (by simp) e,a.sub,a.ext,a.new⟩
theorem Chg.wr(ss:B8 Hf H) (hx:x∈S) (hf:Hf x=none):Chg S H Hf (upd H x o) Hf where
 big b u hb e:=by rw[C2 (fun z=>hb (by rw[z];exact hx))];exact e
 kp b h:=by
  by_cases q:b=x
  ·subst q;rw[B5];exact fun z=>by cases z
  ·rw[C2 q];exact h
 sub b u e:=by rw[C2 (C7 e hf)];exact ss b u e
 ext:=B8.refl _
 new b h:=.inl h
structure Cel where
 dx:Addr
 fs:List (Str×V)
abbrev cells(a:Addr) (_:Cel):List Addr:=[a]
def Fds(K:PySem.W.Frag) (Hf:Hp):Fo->List (Str×V)->Prop
 | [],l=>l=[]
 | (x,d)::r,l=>∃v t,l=(x,v)::t/\Rep K Hf d v/\Fds K Hf r t
theorem Fds.mono(e:B8 Hf Hf'):∀{o:Fo}{l:List (Str×V)},Fds K Hf o l->Fds K Hf' o l
 | [],_,h=>h
 | (x,d)::r,_,⟨v,t,h1,h2,h3⟩=>⟨v,t,h1,Rep.mono e h2,Fds.mono e h3⟩
theorem Fds.len:∀{o:Fo}{l:List (Str×V)},Fds K Hf o l->l.length=o.length
 | [],_,h=>by cases h;rfl
 | (x,d)::r,_,⟨v,t,h1,h2,h3⟩=>by subst h1;simp[Fds.len h3]
theorem Fds.look{f:Str}:∀{o:Fo}{l:List (Str×V)},Fds K Hf o l->(o.lookup f=none/\l.lookup f=none)\/∃d v,o.lookup f=some d/\l.lookup f=some v/\Rep K Hf d v
 | [],_,h=>by cases h;exact .inl ⟨rfl,rfl⟩
 | (x,d)::r,_,⟨v,t,h1,h2,h3⟩=>by
  subst h1
  rw[List.lookup_cons,List.lookup_cons]
  cases f==x with
  | true=>exact .inr ⟨d,v,rfl,rfl,h2⟩
  | false=>exact h3.look
def av6(f:Str) (d:D):Fo->Fo
 | []=>[(f,d)]
 | (g,x)::r=>if g=f then(g,d)::r else(g,x)::av6 f d r
theorem Fds.put{f:Str}{d:D}{v:V}(r:Rep K Hf d v):∀{o:Fo}{l:List (Str×V)},Fds K Hf o l->Fds K Hf (av6 f d o) (V5 f v l)
 | [],_,h=>by cases h;exact⟨v,[],rfl,r,rfl⟩
 | (x,d')::o,_,⟨v',t,h1,h2,h3⟩=>by
  subst h1
  unfold av6 V5
  split
  ·exact⟨v,t,rfl,r,h3⟩
  ·exact⟨v',_,rfl,h2,h3.put r⟩
structure FoAt (K:PySem.W.Frag) (C:Addr) (H Hf:Hp) (a:Addr) (c:Cel) (o:Fo):Prop where
 ins:H a=some (.ins C c.dx c.fs)
 fl:Fds K Hf o c.fs
 fr:∀x∈cells a c,Hf x=none
theorem FoAt.there(h:FoAt K C H Hf a c o):∀x∈cells a c,H x≠none:=fun x hx=>by
 rw[List.mem_singleton.mp hx];exact au4 h.ins
theorem FoAt.chg(h:FoAt K C H Hf a c o) (g:Chg S H Hf H' Hf') (hs:∀x∈cells a c,x∉S):FoAt K C H' Hf' a c o :=
 ⟨g.big _ _ (hs _ (by simp)) h.ins,h.fl.mono g.ext,fun x hx=>Classical.byContradiction fun z=>(g.new x z).elim (fun q=>q (h.fr x hx)) (h.there x hx)⟩
theorem FoAt.same{c c':Cel}{Hf':Hp}(f:FoAt K C H Hf a c o) (g:FoAt K C H Hf' a c' o'):c=c':=by
 have e:=f.ins.symm.trans g.ins
 obtain⟨d1,d2⟩:=c
 obtain⟨x1,x2⟩:=c'
 cases e;rfl
theorem FoAt.put(h:FoAt K C H Hf a c o) (r:Rep K Hf d v):FoAt K C (upd H a (.ins C c.dx (V5 f v c.fs))) Hf a ⟨c.dx,V5 f v c.fs⟩ (av6 f d o):=⟨B5,h.fl.put r,h.fr⟩
theorem FoAt.grow(h:FoAt K C H Hf a c o) (g:Grow H Hf H' Hf'):FoAt K C H' Hf' a c o:=h.chg (S:=[]) (Chg.of g) fun _ _=>by simp
inductive Objs (K:PySem.W.Frag) (C:Addr) (H Hf:Hp):List (Addr×Fo)->List Addr->Prop
 | nil:Objs K C H Hf [] []
 | cons {a:Addr}{c:Cel}{o:Fo}{os:List (Addr×Fo)}{R:List Addr}:FoAt K C H Hf a c o->(∀x∈cells a c,x∉R)->Objs K C H Hf os R->Objs K C H Hf ((a,o)::os) (cells a c++R)
theorem Objs.there(h:Objs K C H Hf os R):∀x∈R,H x≠none:=by
 induction h with
 | nil=>exact fun _ h=>nomatch h
 | cons f d t ih =>
  intro x hx
  rcases List.mem_append.mp hx with hx|hx
  ·exact f.there x hx
  ·exact ih x hx
theorem Objs.chg(h:Objs K C H Hf os R) (g:Chg S H Hf H' Hf') (hs:∀x∈R,x∉S):Objs K C H' Hf' os R:=by
 induction h with
 | nil=>exact .nil
 | cons f d t ih=>exact .cons (f.chg g fun x hx=>hs x (List.mem_append_left _ hx)) d (ih fun x hx=>hs x (List.mem_append_right _ hx))
theorem Objs.focus(h:Objs K C H Hf os R):∀{j:Nat}{a:Addr}{o:Fo},os[j]? = some (a,o)->∃c,FoAt K C H Hf a c o/\(∀x∈cells a c,x∈R) /\
  ∀{H' Hf':Hp}{c':Cel}{o':Fo},Chg (cells a c) H Hf H' Hf'->FoAt K C H' Hf' a c' o'->(∀x∈cells a c',x∈cells a c\/H x=none)->∃R',Objs K C H' Hf' (os.set j (a,o')) R'/\∀x∈R',x∈R\/H x=none:=by
 induction h with
 | nil=>intro j a o e;simp at e
 | @cons a0 c0 o0 os0 R0 f d t ih =>
  intro j a o e
  cases j with
  | zero =>
   simp at e
   obtain⟨rfl,rfl⟩:=e
   refine⟨c0,f,fun x hx=>List.mem_append_left _ hx,fun{H' Hf' c' o'} g f' n=>⟨cells a0 c'++R0,.cons f' (fun x hx hr=>?_) (t.chg g fun x hx z=>d x z hx),fun x hx=>?_⟩⟩
   ·rcases n x hx with z|z
    ·exact d x z hr
    ·exact t.there x hr z
   ·rcases List.mem_append.mp hx with hx|hx
    ·exact(n x hx).imp (List.mem_append_left _) id
    ·exact .inl (List.mem_append_right _ hx)
  | succ j =>
   obtain⟨c,f1,f2,f3⟩:=ih (j:=j) (a:=a) (o:=o) (by simpa using e)
   refine⟨c,f1,fun x hx=>List.mem_append_right _ (f2 x hx),fun{H' Hf' c' o'} g f' n=>?_⟩
   obtain⟨R',r1,r2⟩:=f3 g f' n
   have dis:∀x∈cells a0 c0,x∉cells a c:=fun x hx z=>d x hx (f2 x z)
   refine⟨cells a0 c0++R',.cons (f.chg g dis) (fun x hx hr=>?_) r1,fun x hx=>?_⟩
   ·rcases r2 x hr with z|z
    ·exact d x hx z
    ·exact f.there x hx z
   ·rcases List.mem_append.mp hx with hx|hx
    ·exact .inl (List.mem_append_left _ hx)
    ·exact(r2 x hx).imp (List.mem_append_right _) id
theorem Objs.snoc(h:Objs K C H Hf os R) (f:FoAt K C H Hf a c o) (d:∀x∈cells a c,x∉R):∃R',Objs K C H Hf (os++[(a,o)]) R'/\∀x∈R',x∈R\/x∈cells a c:=by
 induction h with
 | nil=>exact⟨cells a c++[],.cons f (by simp) .nil,fun x hx=>.inr (by simpa using hx)⟩
 | @cons a0 c0 o0 os0 R0 f0 d0 t ih =>
  obtain⟨R',r1,r2⟩:=ih fun x hx=>fun z=>d x hx (List.mem_append_right _ z)
  refine⟨cells a0 c0++R',.cons f0 (fun x hx hr=>?_) r1,fun x hx=>?_⟩
  ·rcases r2 x hr with z|z
   ·exact d0 x hx z
   ·exact d x z (List.mem_append_left _ hx)
  ·rcases List.mem_append.mp hx with hx|hx
   ·exact .inl (List.mem_append_left _ hx)
   ·exact(r2 x hx).imp (List.mem_append_right _) id
end
structure Bs where
 S:List Addr
 H:Hp
 Hf:Hp
def hid(b:Bs) (R:List Addr):Hp:=fun x=>if x∈R then some (.lst []) else b.H x
structure OSt (K:PySem.W.Frag) (C:Addr) (b:Bs) (ρ:Rho) (os:List (Addr×Fo)) (σ:L2.St) (H Hf:Hp):Prop where
 gr:Chg b.S b.H b.Hf H Hf
 ob:∃R,Objs K C H Hf os R/\(∀x∈R,x∈b.S\/b.H x=none)/\Slots K (hid b R) ρ σ H Hf
section
variable {K:PySem.W.Frag}{C:Addr}{b:Bs}{ρ:Rho}{os:List (Addr×Fo)}{σ:L2.St}{H Hf H' Hf':Hp}
def ar0(_:Rho):Bool:=true
theorem S5(h:hid b R x=none):x∉R/\b.H x=none:=by
 unfold hid at h
 split at h
 ·cases h
 ·rename_i n;exact⟨n,h⟩
theorem ax2(h1:x∉R) (h2:b.H x=none):hid b R x=none:=by unfold hid;rw[if_neg h1];exact h2
theorem Slots.chg{H0 H0':Hp}{S:List Addr}(s:Slots K H0 ρ σ H Hf) (g:Chg S H Hf H' Hf') (hS:∀x∈S,H0 x=none->H x=none) (hH:∀x,H0 x=none->H x≠none->H0' x=none):Slots K H0' ρ σ H' Hf':=by
 refine⟨s.len,fun i b e=>?_,s.apart⟩
 obtain⟨v,h1,h2⟩:=s.is i b e
 refine⟨v,h1,?_⟩
 cases b with
 | val d=>exact Rep.mono g.ext h2
 | exc C =>
  obtain⟨a,o,C,e,h1,h2⟩:=h2
  exact⟨a,o,C,e,g.ext _ _ h1,h2⟩
 | opq _=>exact h2
 | own ds =>
  obtain⟨a,us,e,e1,e2,e3,e4⟩:=h2
  have nS:a∉S:=fun z=>by rw[hS a z e3]at e1;cases e1
  have nf:Hf' a=none:=Classical.byContradiction fun z=>(g.new a z).elim (fun q=>q e2) fun q=>by rw[q]at e1;cases e1
  exact⟨a,us,e,g.big a _ nS e1,nf,hH a e3 (au4 e1),e4.mono g.ext⟩
def OSt.R(s:OSt K C b ρ os σ H Hf):List Addr:=s.ob.choose
theorem OSt.obs(s:OSt K C b ρ os σ H Hf):Objs K C H Hf os s.R/\∀x∈s.R,x∈b.S\/b.H x=none:=⟨s.ob.choose_spec.1,s.ob.choose_spec.2.1⟩
theorem OSt.sl(s:OSt K C b ρ os σ H Hf):Slots K (hid b s.R) ρ σ H Hf:=s.ob.choose_spec.2.2
theorem OSt.slots{ρ':Rho}{σ':L2.St}(s:OSt K C b ρ os σ H Hf) (sl:Slots K (hid b s.R) ρ' σ' H Hf):OSt K C b ρ' os σ' H Hf:=⟨s.gr,s.R,s.obs.1,s.obs.2,sl⟩
theorem OSt.same(s:OSt K C b ρ os σ H Hf):B8 Hf H:=s.gr.sub
theorem OSt.grow(s:OSt K C b ρ os σ H Hf) (g:Grow H Hf H' Hf'):OSt K C b ρ os σ H' Hf':=by
 obtain⟨R,r1,r2,r3⟩:=s.ob
 exact⟨s.gr.trans (S':=[]) (Chg.of g) (by simp),R,r1.chg (S:=[]) (Chg.of g) (by simp),r2,r3.grow g⟩
theorem OSt.focus(s:OSt K C b ρ os σ H Hf) (n:ar0 ρ=true) (e:os[j]? = some (a,o)):∃c,FoAt K C H Hf a c o /\
  ∀{H' Hf':Hp}{c':Cel}{o':Fo},Chg (cells a c) H Hf H' Hf'->FoAt K C H' Hf' a c' o'->(∀x∈cells a c',x∈cells a c\/H x=none)->OSt K C b ρ (os.set j (a,o')) σ H' Hf':=by
 obtain⟨R,r1,r2,r3⟩:=s.ob
 obtain⟨c,f1,f2,f3⟩:=r1.focus e
 have old:∀x,x∈R\/H x=none->x∈b.S\/b.H x=none:=fun x h=>h.elim (r2 x) fun z=>.inr (Classical.byContradiction fun q=>s.gr.kp x q z)
 refine⟨c,f1,fun{H' Hf' c' o'} g f' nn=>?_⟩
 obtain⟨R',q1,q2⟩:=f3 g f' nn
 refine⟨s.gr.trans g fun x hx=>r2 x (f2 x hx),R',q1,fun x hx=>old x (q2 x hx),r3.chg g (fun x hx h=>((S5 h).1 (f2 x hx)).elim) fun x h hx=>?_⟩
 obtain⟨h1,h2⟩:=S5 h
 exact ax2 (fun z=>(q2 x z).elim h1 hx) h2
end
end G
namespace G
open PySem PySem.Spec PyProof.Rows L2
abbrev Os:=List (Addr×Fo)
def OE(X:Cx) (C:Addr) (b:Bs) (ρ:Rho) (q:Os) (e:Expr) (d:D) (q':Os):Prop:=PE X e (fun σ H Q=>∃Hf,OSt X.K C b ρ q σ H Hf/\∀v H' Hf',OSt X.K C b ρ q' σ H' Hf'->B8 Hf Hf'->Rep X.K Hf' d v->Q v H')
def OT(X:Cx) (C:Addr) (b:Bs) (ρ:Rho) (q:Os) (e:Expr) (c:Bool) (q':Os):Prop:=PT X e (fun σ H Q=>∃Hf,OSt X.K C b ρ q σ H Hf/\∀H' Hf',OSt X.K C b ρ q' σ H' Hf'->B8 Hf Hf'->Q c H')
inductive OF where
 | nx (ρ:Rho) (q:Os)
 | rt (d:D) (q:Os)
def OF.ends(X:Cx) (C:Addr) (b:Bs) (Hf:Hp) (En:Ends):OF->Prop
 | .nx ρ q=>∀σ' H' Hf',OSt X.K C b ρ q σ' H' Hf'->B8 Hf Hf'->En.nx σ' H'
 | .rt d q=>∀ρ' σ' v H' Hf',OSt X.K C b ρ' q σ' H' Hf'->Rep X.K Hf' d v->En.rt v H'
def OS(X:Cx) (C:Addr) (b:Bs) (ρ:Rho) (q:Os) (st:Stmt) (fl:OF):Prop:=PS X st (fun En σ H=>∃Hf,OSt X.K C b ρ q σ H Hf/\fl.ends X C b Hf En)
section
variable {X:Cx}{C:Addr}{b:Bs}{ρ ρ':Rho}{q q' q1 q2:Os}{st:Stmt}{sts:List Stmt}
theorem bP4(o:OpD X (compareOp op) h) (ha:OE X C b ρ q ea x q1) (hb:OE X C b ρ q1 eb y q2) (w:h x y=some (.bool c)) (hm:behindInMarks op eb=false:=by first|exact aw4 _|rfl):OT X C b ρ q (.Compare ea [op] [eb] pos) c q2:=by
 refine Y8 (aO4 (o x y _ w) ha hb hm) fun σ H Q ⟨Hf,st,k⟩=>⟨Hf,st,fun v H1 Hf1 s1 e1 r1=>⟨Hf1,s1,fun u H2 Hf2 s2 e2 r2=>⟨Hf2,s2.same,r1.mono e2,r2,fun z H3 Hf3 g r3=>⟨c,r3,k H3 Hf3 (s2.grow g) ((e1.trans e2).trans g.ext)⟩⟩⟩⟩
theorem bQ2(o:OpD X (compareOp op) h) (ha:OE X C b ρ q ea x q1) (hb:OE X C b ρ q1 eb y q2) (w:h x y=some z) (hm:behindInMarks op eb=false:=by first|exact aw4 _|rfl):OE X C b ρ q (.Compare ea [op] [eb] pos) z q2:=by
 refine B4 (aP0 (o x y _ w) ha hb hm) fun σ H Q ⟨Hf,st,k⟩=>⟨Hf,st,fun v H1 Hf1 s1 e1 r1=>⟨Hf1,s1,fun u H2 Hf2 s2 e2 r2=>⟨Hf2,s2.same,r1.mono e2,r2,fun z H3 Hf3 g r3=>k z H3 Hf3 (s2.grow g) ((e1.trans e2).trans g.ext) r3⟩⟩⟩
theorem bP3(ha:OE X C b ρ q e (.bool c) q1) (he:∀whole,isTrue e X.env whole=(do let v ← whole;standAt e.pos;holding [v] (truthy v)):=by intro _;rfl):OT X C b ρ q e c q1 :=
 Y8 (aA8 ha he) fun σ H Q ⟨Hf,st,k⟩=>⟨Hf,st,fun v H1 Hf1 s1 e1 r1=>⟨c,by cases r1;rfl,k H1 Hf1 s1 e1⟩⟩
theorem OSt.set(s:OSt X.K C b ρ q σ H Hf) (r:Rep X.K Hf d v):OSt X.K C b (ρ.set i (‹d›)) q (σ.set i (some v)) H Hf:=s.slots (s.sl.set r)
end
end G
namespace G
open PySem PySem.Spec PyProof.Rows L2
abbrev MD:=List (Option D)
def MxV(K:PySem.W.Frag) (Hf:Hp) (a:Addr):Option D->V->Prop
 | some d,v=>Rep K Hf d v
 | none,v=>v=.ref a
def Mxs(K:PySem.W.Frag) (Hf:Hp) (a:Addr):MD->List V->Prop
 | [],vs=>vs=[]
 | m::ms,vs=>∃v r,vs=v::r/\MxV K Hf a m v/\Mxs K Hf a ms r
abbrev DF:=Fo->MD->Option (D×Fo)
def spD(K:PySem.W.Frag) (C:Addr) (n:Nat) (F:DF):Sp:=fun vs H Q _=>vs.length=n/\∃a Hf c o ms r o',B8 Hf H/\FoAt K C H Hf a c o/\Mxs K Hf a ms vs/\F o ms=some (r,o') /\
 ∀v H' Hf' c',Chg (cells a c) H Hf H' Hf'->FoAt K C H' Hf' a c' o'->(∀x∈cells a c',x∈cells a c\/H x=none)->Rep K Hf' r v->Q v H'
theorem aI1{K:PySem.W.Frag}{Hf:Hp}{a:Addr}:∀{ds:List D}{vs:List V},Reps K Hf ds vs->Mxs K Hf a (ds.map some) vs
 | [],_,h=>h
 | d::ds,_,⟨v,r,h1,h2,h3⟩=>⟨v,r,h1,h2,aI1 h3⟩
structure FoC (K:PySem.W.Frag) (C:Addr) (fn:List Str):Prop where
 cl:Cls K C
 na:∀f∈fn,x4 K C f
def aF6(X:Cx) (C:Addr) (m:Str) (n:Nat) (F:DF):Prop:=∃k f fd ps,FnOk X.prog X.w X.K X.mg X.base CX0 k f fd ps (spD X.K C (n+1) F)/\Room k X.A/\Meth X.K C m f/\F9 X.K fd ps []
section
variable {X:Cx}{C:Addr}{b:Bs}{ρ ρ':Rho}{q q' q1 q2:Os}{o o':Fo}{K:PySem.W.Frag}{σ:L2.St}{H Hf:Hp}{fn:List Str}
structure At1 (X:Cx) (ρ:Rho) (q:Os) (x:Str) (i j:Nat) (a:Addr) (o:Fo):Prop where
 n:X.N[i]? = some x
 v:Vis X.env.scope x
 d1:(x==("__debug__" : Str))=false
 d2:(x==("__classdict__" : Str))=false
 s:ρ[i]? = some (some (.opq a))
 o:q[j]? = some (a,o)
 w:ar0 ρ=true
theorem ai5{i:Nat}{a:Addr}(s:OSt K C b ρ q σ H Hf) (e:ρ[i]? = some (some (B.opq a))):σ[i]? = some (some (V.ref a)):=by
 obtain⟨v,h1,h2⟩:=s.sl.is i _ e
 cases h2;exact h1
theorem bR3{c:Cel}{m:Str}(f:FoAt K C H Hf a c o) (h:o.lookup m=none):c.fs.lookup m=none:=by
 rcases f.fl.look (f:=m) with⟨_,z⟩|⟨d,v,z,_⟩
 ·exact z
 ·rw[h]at z;cases z
theorem ar1{ds:List D}{d:D}{F:DF}{E:XK}{Q:VK}(st:OSt X.K C b ρ q σ H Hf) (A:At1 X ρ q x i j a o) (nf:o.lookup m=none) (r:F o (none::ds.map some)=some (d,o')) (hn:ds.length=n)
  (k:∀v H' Hf',OSt X.K C b ρ (q.set j (a,o')) σ H' Hf'->B8 Hf Hf'->Rep X.K Hf' d v->Q v H') :
  ∃v,σ[i]? = some (some v)/\∃a dx fs,v=.ref a/\H a=some (.ins C dx fs)/\fs.lookup m=none/\∀vs H1 Hf1,Grow H Hf H1 Hf1->Reps X.K Hf1 ds vs->spD X.K C (n+1) F (v::(vs++[])) H1 Q E:=by
 obtain⟨c,f1,f3⟩:=st.focus A.w A.o
 refine⟨_,ai5 st A.s,a,c.dx,c.fs,rfl,f1.ins,bR3 f1 nf,fun vs H1 Hf1 g1 r1=>⟨by rw[List.append_nil,List.length_cons,r1.length,hn],a,Hf1,c,o,none::ds.map some,d,o',g1.sub,f1.grow g1,⟨_,_,rfl,rfl,by rw[List.append_nil];exact aI1 r1⟩,r,fun v H2 Hf2 c' g2 f2 n2 rv=>k v H2 Hf2 (f3 ((Chg.of g1).trans g2 fun _ h=>.inl h) f2 fun y hy=>(n2 y hy).imp id fun z=>Classical.byContradiction fun w=>(Chg.of (S:=[]) g1).kp y w z) (g1.ext.trans g2.ext) rv⟩⟩
theorem aP8{x m:Str}{p apos pos:Pos}{es:List Expr}(hl:(apos.endLine==pos.line)=true) (hf:methodCallForm (es.length+([]:List Keyword).length) (backTo pos (starEach es X.env)) (backToKw pos (keywordEach [] X.env))=true) :
  eval (.Call (.Attribute (.Name x p) m apos) es [] pos) X.env=(do
   let ov ← eval (.Name x p) X.env
   standAt apos.atName
   let(f,first) ← holding [ov] (getMethod ov m (do return (← importBound (.Name x p) X.env).getD true))
   callWith pos f first (backTo pos (starEach es X.env)) (backToKw pos (keywordEach [] X.env))):=by
 show(do let ov ← eval (.Name x p) X.env;standAt apos.atName;methodCall (.Name x p) m apos pos X.env ov (es.length+([]:List Keyword).length) (backTo pos (starEach es X.env)) (backToKw pos (keywordEach [] X.env)))=_
 unfold methodCall
 rw[hf]
 unfold methodCallPos calleeOf
 rw[hl]
 rfl
theorem bh3{ρa:Rho}{x m:Str}{e:Expr}{es:List Expr}{p apos pos:Pos}{ds:List D}{d:D}{F:DF}{f:Rho->Option (List D)}(M:aF6 X C m n F) (c:FoC X.K C fn) (A:At1 X ρ q x i j a o) (nf:o.lookup m=none) (ha:JA X (e::es) f) (w:f ρa=some ds) (sb:∀{H0 H Hf:Hp}{σ:L2.St},Slots X.K H0 ρ σ H Hf->Slots X.K H0 ρa σ H Hf) (r:F o (none::ds.map some)=some (d,o')) (hn:(e::es).length=n:=by rfl)
  (hst:starEach (e::es) X.env=(false,eval e X.env)::starEach es X.env:=by rfl) (hpl:(backTo pos (starEach es X.env)).any (·.1)=false:=by rfl)
  (hl:(apos.endLine==pos.line)=true:=by first|assumption|rfl) (hfm:methodCallForm ((e::es).length+([]:List Keyword).length) (backTo pos (starEach (e::es) X.env)) (backToKw pos (keywordEach [] X.env))=true:=by rfl) :
  OE X C b ρ q (.Call (.Attribute (.Name x p) m apos) (e::es) [] pos) d (q.set j (a,o')):=by
 obtain⟨k,fa,fd,ps,Fk,hr,hm,hb⟩:=M
 refine B4 (bv8 (O0 A.n A.v A.d1 A.d2) c.cl hm Fk hr hb .nil al0 (fun pos pins s σ H Q I t=>ha.run ρa ds w pos pins s σ H Q I t) hst hpl (aP8 hl hfm)) fun σ H Q ⟨Hf,st,kk⟩=>?_
 obtain⟨v,h1,a',dx,fs,h2,h3,h4,h5⟩:=ar1 (n:=n) (E:=E0) st A nf r (by rw[ha.len ρa ds w,hn]) kk
 exact⟨v,h1,a',dx,fs,h2,h3,h4,_,Hf,st.same,sb st.sl,fun vs H1 Hf1 g1 r1=>h5 vs H1 Hf1 g1 r1⟩
theorem bh4{x m:Str}{p apos pos:Pos}{d:D}{F:DF}(M:aF6 X C m 0 F) (c:FoC X.K C fn) (A:At1 X ρ q x i j a o) (nf:o.lookup m=none) (r:F o [none]=some (d,o'))
  (hl:(apos.endLine==pos.line)=true:=by first|assumption|rfl) :
  OE X C b ρ q (.Call (.Attribute (.Name x p) m apos) [] [] pos) d (q.set j (a,o')):=by
 obtain⟨k,fa,fd,ps,Fk,hr,hm,hb⟩:=M
 refine B4 (bg5 (O0 A.n A.v A.d1 A.d2) c.cl hm Fk hr hb .nil al0 (aP8 hl rfl)) fun σ H Q ⟨Hf,st,kk⟩=>?_
 obtain⟨v,h1,a',dx,fs,h2,h3,h4,h5⟩:=ar1 (n:=0) (ds:=[]) (E:=E0) st A nf r rfl kk
 exact⟨v,h1,a',dx,fs,h2,h3,h4,h5 [] H Hf (Grow.refl st.same) rfl⟩
theorem bQ1(A:At1 X ρ q x i j a o) (c:FoC X.K C fn) (hf:f∈fn) (l:o.lookup f=some d) (hb:attributeBase (.Name x p) f X.env (eval (.Name x p) X.env)=eval (.Name x p) X.env):OE X C b ρ q (.Attribute (.Name x p) f pos) d q :=
 B4 (bP2 (O0 A.n A.v A.d1 A.d2) hb) fun σ H Q ⟨Hf,st,k⟩=>by
  obtain⟨cl,f1,_⟩:=st.focus A.w A.o
  rcases f1.fl.look (f:=f) with⟨z,_⟩|⟨d',v,z1,z2,z3⟩
  ·rw[l]at z;cases z
  ·rw[l]at z1;cases z1
   exact⟨_,ai5 st A.s,a,C,cl.dx,cl.fs,v,rfl,f1.ins,c.cl,c.na f hf,z2,k v H Hf st (B8.refl _) z3⟩
theorem bP5(A:At1 X ρ q x i j a o) (c:FoC X.K C fn) (hf:f∈fn) (h:OE X C b ρ q e d q') (e2:q'[j]? = some (a,o')) (hz:o'.length < 1000) (hs:swapsWith e (some (.Attribute (.Name x p) f pos')) pos.line X.env=pure false) :
  OS X C b ρ q (.Assign [.Attribute (.Name x p) f pos'] e pos) (.nx ρ (q'.set j (a,av6 f d o'))) :=
 D8 (bO4 (O0 A.n A.v A.d1 A.d2) h hs) fun En σ H ⟨Hf,st,k⟩=>⟨Hf,st,fun v H1 Hf1 s1 e1 r=>by
  obtain⟨cl,f1,f3⟩:=s1.focus A.w e2
  exact⟨_,ai5 s1 A.s,a,C,cl.dx,cl.fs,rfl,f1.ins,c.cl,c.na f hf,by rw[f1.fl.len];exact hz,k σ _ Hf1 (f3 (Chg.wr s1.same (by simp) (f1.fr _ (by simp))) (f1.put r) fun z hz=>.inl hz) e1⟩⟩
end
end G
namespace G
open PySem PySem.Spec PyProof.Rows L2
def cf4(as:List Addr):Option B->Option B
 | some (.opq j)=>some (.opq (as.getD j 0))
 | b=>b
abbrev sub(as:List Addr) (ρ:Rho):Rho:=ρ.map (cf4 as)
def cq8:Option B->Option B
 | some (.opq _)=>none
 | b=>b
abbrev era(ρ:Rho):Rho:=ρ.map cq8
theorem U0(as:List Addr) (ρ:Rho):era (sub as ρ)=era ρ:=by
 unfold era sub
 rw[List.map_map]
 refine List.map_congr_left fun b _=>?_
 cases b with
 | none=>rfl
 | some b=>cases b<;>rfl
theorem aV3(as:List Addr) (ρ:Rho):ar0 (sub as ρ)=ar0 ρ:=rfl
def okR(n:Nat) (ρ:Rho):Bool:=ρ.all fun x=>match x with
 | some (.opq j)=>decide (j < n)
 | _=>true
theorem t7(h:okR n ρ=true):ar0 ρ=true:=rfl
theorem bh1(h:okR n ρ=true) (l:n<=m):okR m ρ=true:=by
 unfold okR at h ⊢
 rw[List.all_eq_true]at h ⊢
 intro x hx
 have:=h x hx
 split
 ·exact decide_eq_true (Nat.lt_of_lt_of_le (of_decide_eq_true this) l)
 ·rfl
theorem ai8{ρ:Rho}{i n:Nat}{x:Option B}(h:okR n ρ=true) (h2:∀j,x=some (.opq j)->j < n):okR n (ρ.set i x)=true:=by
 unfold okR at h ⊢
 rw[List.all_eq_true]at h ⊢
 intro y hy
 rcases List.mem_or_eq_of_mem_set hy with q|rfl
 ·exact h y q
 ·split
  ·exact decide_eq_true (h2 _ rfl)
  ·rfl
theorem aw2{ρ:Rho}{i n:Nat}{d:D}(h:okR n ρ=true):okR n (ρ.set i (‹d›))=true:=ai8 h (by intro _ z;cases z)
theorem bd2(h:okR as.length ρ=true) (ex:List Addr):sub (as++ex) ρ=sub as ρ:=by
 unfold sub
 refine List.map_congr_left fun x hx=>?_
 have:=List.all_eq_true.mp h x hx
 cases x with
 | none=>rfl
 | some x =>
  cases x with
  | opq j =>
   have hj:j < as.length:=of_decide_eq_true this
   show some (B.opq _)=some (B.opq _)
   rw[List.getD_eq_getElem?_getD,List.getD_eq_getElem?_getD,List.getElem?_append_left hj]
  | _=>rfl
theorem au3(as:List Addr) (ρ:Rho) (i:Nat) (d:D):sub as (ρ.set i (‹d›))=(sub as ρ).set i (‹d›):=by unfold sub;rw[List.map_set];rfl
section
variable {K:PySem.W.Frag}{C:Addr}{b:Bs}{ρ:Rho}{q:Os}{σ:L2.St}{H Hf H0:Hp}
theorem Slots.era(s:Slots K H0 ρ σ H Hf):Slots K H0 (era ρ) σ H Hf:=by
 have at_:∀(i:Nat) (b:B),(G.era ρ)[i]? = some (some b)->ρ[i]? = some (some b):=fun i b e=>by
  unfold G.era at e
  rw[List.getElem?_map]at e
  obtain⟨x,e1,e2⟩:=Option.map_eq_some_iff.mp e
  rw[e1]
  cases x with
  | none=>cases e2
  | some x=>cases x<;>first|exact congrArg some e2|cases e2
 exact⟨by rw[List.length_map];exact s.len,fun i b e=>s.is i b (at_ i b e),fun i j d1 d2 a h1 h2=>s.apart i j d1 d2 a (at_ i _ h1) (at_ j _ h2)⟩
end
abbrev Fs:=List Fo
abbrev UD:=Rho->Fs->Option (D×Fs)
abbrev UB:=Rho->Fs->Option (Bool×Fs)
inductive UF where
 | nx (ρ:Rho) (q:Fs)
 | rt (d:D) (q:Fs)
 | ro (j:Nat) (q:Fs)
def UF.own:UF->Bool
 | .nx ρ q=>okR q.length ρ
 | _=>true
def UF.ends(X:Cx) (C:Addr) (b:Bs) (as:List Addr) (Hf:Hp) (En:Ends):UF->Prop
 | .nx ρ q=>∀ex σ H' Hf',(as++ex).length=q.length->OSt X.K C b (sub (as++ex) ρ) ((as++ex).zip q) σ H' Hf'->B8 Hf Hf'->En.nx σ H'
 | .rt d q=>∀ex ρ σ v H' Hf',(as++ex).length=q.length->OSt X.K C b ρ ((as++ex).zip q) σ H' Hf'->Rep X.K Hf' d v->En.rt v H'
 | .ro j q=>∀ex ρ σ a H' Hf',(as++ex).length=q.length->OSt X.K C b ρ ((as++ex).zip q) σ H' Hf'->(as++ex)[j]? = some a->En.rt (.ref a) H'
theorem UF.mono{X:Cx}{fl:UF}(h:fl.ends X C b as Hf En) (e:B8 Hf Hf'):fl.ends X C b as Hf' En:=by
 cases fl with
 | nx ρ q=>exact fun ex σ H' Hf'' l o s=>h ex σ H' Hf'' l o (e.trans s)
 | rt d q=>exact h
 | ro j q=>exact h
theorem UF.more{X:Cx}{fl:UF}(h:fl.ends X C b as Hf En) (ex:List Addr):fl.ends X C b (as++ex) Hf En:=by
 cases fl with
 | nx ρ q=>exact fun ex2 σ H' Hf' l o s=>h (ex++ex2) σ H' Hf' (by rw[← List.append_assoc];exact l) (by rw[← List.append_assoc];exact o) s
 | rt d q=>exact fun ex2 ρ σ v H' Hf' l o=>h (ex++ex2) ρ σ v H' Hf' (by rw[← List.append_assoc];exact l) (by rw[← List.append_assoc];exact o)
 | ro j q=>exact fun ex2 ρ σ a H' Hf' l o z=>h (ex++ex2) ρ σ a H' Hf' (by rw[← List.append_assoc];exact l) (by rw[← List.append_assoc];exact o) (by rw[← List.append_assoc];exact z)
def UE(X:Cx) (C:Addr) (e:Expr) (g:UD):Prop:=∀ρ q d q',g ρ q=some (d,q')->okR q.length ρ=true->q'.length=q.length/\∀b (as:List Addr),as.length=q.length->OE X C b (sub as ρ) (as.zip q) e d (as.zip q')
def UT(X:Cx) (C:Addr) (e:Expr) (g:UB):Prop:=∀ρ q c q',g ρ q=some (c,q')->okR q.length ρ=true->q'.length=q.length/\∀b (as:List Addr),as.length=q.length->OT X C b (sub as ρ) (as.zip q) e c (as.zip q')
def tU(X:Cx) (C:Addr) (b:Bs) (as:List Addr) (ρ:Rho) (q:Fs) (fl:UF):TS:=fun En σ H=>∃Hf,OSt X.K C b (sub as ρ) (as.zip q) σ H Hf/\fl.ends X C b as Hf En
abbrev UX:=Rho->Fs->Option UF
def US(X:Cx) (C:Addr) (st:Stmt) (g:UX):Prop:=∀ρ q fl,g ρ q=some fl->okR q.length ρ=true->fl.own=true/\∀b (as:List Addr),as.length=q.length->PS X st (tU X C b as ρ q fl)
def USs(X:Cx) (C:Addr) (sts:List Stmt) (g:UX):Prop:=∀ρ q fl,g ρ q=some fl->okR q.length ρ=true->fl.own=true/\∀b (as:List Addr),as.length=q.length->PSs X sts (tU X C b as ρ q fl)
section
variable {X:Cx}{C:Addr}{st:Stmt}{sts:List Stmt}
def uP(f:DE):UD:=fun ρ q=>(f (era ρ)).map fun d=>(d,q)
theorem au1(h:JE X e f):UE X C e (uP f):=fun ρ q d q' w _=>by
 obtain⟨d',e1,e2⟩:=Option.map_eq_some_iff.mp w
 cases e2
 exact⟨rfl,fun b as _=>B4 (h (era ρ) d e1) fun σ H Q ⟨Hf,st,k⟩=>⟨_,Hf,st.same,by rw[← U0 as ρ];exact st.sl.era,fun v H' Hf' g r=>k v H' Hf' (st.grow g) g.ext r⟩⟩
def uTP(f:Rho->Option Bool):UB:=fun ρ q=>(f (era ρ)).map fun d=>(d,q)
theorem aM6(h:JT X e f):UT X C e (uTP f):=fun ρ q d q' w _=>by
 obtain⟨d',e1,e2⟩:=Option.map_eq_some_iff.mp w
 cases e2
 exact⟨rfl,fun b as _=>Y8 (h (era ρ) d e1) fun σ H Q ⟨Hf,st,k⟩=>⟨_,Hf,st.same,by rw[← U0 as ρ];exact st.sl.era,fun H' Hf' g=>k H' Hf' (st.grow g) g.ext⟩⟩
def P4(i:Nat) (ρ:Rho) (q:Fs):Option (Nat×Fo):=match ρ[i]? with
 | some (some (.opq j))=>(q[j]?).map fun o=>(j,o)
 | _=>none
theorem S1{as:List Addr}(h:P4 i ρ q=some (j,o)) (n:ar0 ρ=true) (l:as.length=q.length) (hn:X.N[i]? = some x) (hv:Vis X.env.scope x) (h1:(x==("__debug__" : Str))=false) (h2:(x==("__classdict__" : Str))=false) :
  ∃a,as[j]? = some a/\At1 X (sub as ρ) (as.zip q) x i j a o:=by
 unfold P4 at h
 split at h
 ·rename_i j' e
  obtain⟨o',e1,e2⟩:=Option.map_eq_some_iff.mp h
  cases e2
  have hj:j < as.length:=by rw[l];exact(List.getElem?_eq_some_iff.mp e1).1
  refine⟨as[j],List.getElem?_eq_getElem hj,hn,hv,h1,h2,?_,?_,by rw[aV3];exact n⟩
  ·unfold sub;rw[List.getElem?_map,e];show some (some (B.opq (as.getD j 0)))=_;rw[List.getD_eq_getElem?_getD,List.getElem?_eq_getElem hj];rfl
  ·rw[List.getElem?_zip_eq_some];exact⟨List.getElem?_eq_getElem hj,e1⟩
 ·cases h
theorem T5{as:List Addr}{q:Fs}{j:Nat}{o:Fo}(h:as[j]? = some a):as.zip (q.set j o)=(as.zip q).set j (a,o):=by
 apply List.ext_getElem?
 intro i
 rw[List.getElem?_set]
 by_cases e:j=i
 ·subst e
  rw[if_pos rfl]
  by_cases hl:j < (as.zip q).length
  ·rw[if_pos hl]
   have:j < q.length:=by simp at hl;omega
   rw[List.getElem?_zip_eq_some]
   exact⟨h,by rw[List.getElem?_set_self this]⟩
  ·rw[if_neg hl]
   have h1:j < as.length:=(List.getElem?_eq_some_iff.mp h).1
   have:¬j < q.length:=fun z=>hl (by simp;omega)
   rw[List.getElem?_eq_none]
   simp;omega
 ·rw[if_neg e]
  have:(q.set j o)[i]? = q[i]?:=List.getElem?_set_ne e
  rw[List.zip_eq_zipWith,List.zip_eq_zipWith,List.getElem?_zipWith,List.getElem?_zipWith,this]
def uM(i:Nat) (m:Str) (F:DF) (f:Rho->Option (List D)):UD:=fun ρ q=>(P4 i ρ q).bind fun p=>if(p.2.lookup m).isNone then(f (era ρ)).bind fun ds=>(F p.2 (none::ds.map some)).map fun r=>(r.1,q.set p.1 r.2) else none
theorem bs3{e:Expr}{es:List Expr}{f:Rho->Option (List D)}(i:Nat) (M:aF6 X C m n F) (c:FoC X.K C fn) (hn:X.N[i]? = some x) (hv:Vis X.env.scope x) (h1:(x==("__debug__" : Str))=false) (h2:(x==("__classdict__" : Str))=false) (ha:JA X (e::es) f) (hl:(apos.endLine==pos.line)=true) (hz:(e::es).length=n)
  (hst:starEach (e::es) X.env=(false,eval e X.env)::starEach es X.env) (hpl:(backTo pos (starEach es X.env)).any (·.1)=false) (hfm:methodCallForm ((e::es).length+([]:List Keyword).length) (backTo pos (starEach (e::es) X.env)) (backToKw pos (keywordEach [] X.env))=true) :
  UE X C (.Call (.Attribute (.Name x p) m apos) (e::es) [] pos) (uM i m F f):=fun ρ q d q' w no=>by
 obtain⟨⟨j,o⟩,e1,w⟩:=Option.bind_eq_some_iff.mp w
 split at w
 ·rename_i nf
  obtain⟨ds,e2,w⟩:=Option.bind_eq_some_iff.mp w
  obtain⟨⟨r,o'⟩,e3,e4⟩:=Option.map_eq_some_iff.mp w
  cases e4
  refine⟨by simp,fun b as l=>?_⟩
  obtain⟨a,ea,A⟩:=S1 e1 (t7 no) l hn hv h1 h2
  rw[T5 ea]
  exact bh3 M c A (by simpa using nf) ha e2 (fun s=>by rw[← U0 as ρ];exact s.era) e3 hz hst hpl hl hfm
 ·cases w
def uM0(i:Nat) (m:Str) (F:DF):UD:=fun ρ q=>(P4 i ρ q).bind fun p=>if(p.2.lookup m).isNone then(F p.2 [none]).map fun r=>(r.1,q.set p.1 r.2) else none
theorem bc1(i:Nat) (M:aF6 X C m 0 F) (c:FoC X.K C fn) (hn:X.N[i]? = some x) (hv:Vis X.env.scope x) (h1:(x==("__debug__" : Str))=false) (h2:(x==("__classdict__" : Str))=false) (hl:(apos.endLine==pos.line)=true) :
  UE X C (.Call (.Attribute (.Name x p) m apos) [] [] pos) (uM0 i m F):=fun ρ q d q' w no=>by
 obtain⟨⟨j,o⟩,e1,w⟩:=Option.bind_eq_some_iff.mp w
 split at w
 ·rename_i nf
  obtain⟨⟨r,o'⟩,e3,e4⟩:=Option.map_eq_some_iff.mp w
  cases e4
  refine⟨by simp,fun b as l=>?_⟩
  obtain⟨a,ea,A⟩:=S1 e1 (t7 no) l hn hv h1 h2
  rw[T5 ea]
  exact bh4 M c A (by simpa using nf) e3 hl
 ·cases w
def uB2(h:D->D->Option D) (f g:UD):UD:=fun ρ q=>(f ρ q).bind fun x=>(g ρ x.2).bind fun y=>(h x.1 y.1).map fun z=>(z,y.2)
theorem bM0(o:OpD X (compareOp op) h) (ha:UE X C ea f) (hb:UE X C eb g) (hm:behindInMarks op eb=false):UE X C (.Compare ea [op] [eb] pos) (uB2 h f g):=fun ρ q d q' w no=>by
 obtain⟨⟨x,q1⟩,w1,w⟩:=Option.bind_eq_some_iff.mp w
 obtain⟨⟨y,q2⟩,w2,w⟩:=Option.bind_eq_some_iff.mp w
 obtain⟨z,w3,w4⟩:=Option.map_eq_some_iff.mp w
 cases w4
 obtain⟨l1,a1⟩:=ha ρ q x q1 w1 no
 obtain⟨l2,a2⟩:=hb ρ q1 y q2 w2 (by rw[l1];exact no)
 exact⟨l2.trans l1,fun b as l=>bQ2 o (a1 b as l) (a2 b as (l.trans l1.symm)) w3 hm⟩
def cm1:D->Option Bool
 | .bool c=>some c
 | _=>none
def uTB(f:UD):UB:=fun ρ q=>(f ρ q).bind fun x=>(cm1 x.1).map fun c=>(c,x.2)
theorem bK7(o:OpD X (compareOp op) h) (ha:UE X C ea f) (hb:UE X C eb g) (hm:behindInMarks op eb=false):UT X C (.Compare ea [op] [eb] pos) (uTB (uB2 h f g)):=fun ρ q d q' w no=>by
 obtain⟨⟨z,q2⟩,w0,w⟩:=Option.bind_eq_some_iff.mp w
 obtain⟨c,w4,w5⟩:=Option.map_eq_some_iff.mp w
 cases w5
 obtain⟨⟨x,q1⟩,w1,w0⟩:=Option.bind_eq_some_iff.mp w0
 obtain⟨⟨y,q2⟩,w2,w0⟩:=Option.bind_eq_some_iff.mp w0
 obtain⟨z,w3,w6⟩:=Option.map_eq_some_iff.mp w0
 cases w6
 obtain⟨l1,a1⟩:=ha ρ q x q1 w1 no
 obtain⟨l2,a2⟩:=hb ρ q1 y q2 w2 (by rw[l1];exact no)
 have:z=.bool d:=by cases z<;>cases w4;rfl
 subst this
 exact⟨l2.trans l1,fun b as l=>bP4 o (a1 b as l) (a2 b as (l.trans l1.symm)) w3 hm⟩
theorem bK5(ha:UE X C e f) (he:∀whole,isTrue e X.env whole=(do let v ← whole;standAt e.pos;holding [v] (truthy v))):UT X C e (uTB f):=fun ρ q d q' w no=>by
 obtain⟨⟨z,q2⟩,w0,w⟩:=Option.bind_eq_some_iff.mp w
 obtain⟨c,w4,w5⟩:=Option.map_eq_some_iff.mp w
 cases w5
 have:z=.bool d:=by cases z<;>cases w4;rfl
 subst this
 obtain⟨l1,a1⟩:=ha ρ q _ _ w0 no
 exact⟨l1,fun b as l=>bP3 (a1 b as l) he⟩
def uOr(f g:UB):UB:=fun ρ q=>(f ρ q).bind fun x=>if x.1 then some (true,x.2) else g ρ x.2
def aT8(f g:UB):UB:=fun ρ q=>(f ρ q).bind fun x=>if x.1 then g ρ x.2 else some (false,x.2)
end
end G
namespace G
open PySem PySem.Spec PyProof.Rows L2
section
variable {X:Cx}{C:Addr}{st:Stmt}{sts:List Stmt}
def bE8(f g:UD):UD:=fun ρ q=>(f ρ q).bind fun x=>(cm1 x.1).bind fun c=>if c then g ρ x.2 else some (.bool false,x.2)
theorem am1{as:List Addr}{q':Fs}(h:UF.ends X C b as Hf En (.nx ρ q')) (l:as.length=q'.length):∀σ H' Hf',OSt X.K C b (sub as ρ) (as.zip q') σ H' Hf'->B8 Hf Hf'->En.nx σ H':=fun σ H' Hf' s e=>h [] σ H' Hf' (by rw[List.append_nil];exact l) (by rw[List.append_nil];exact s) e
def uEx(f:UD):UX:=fun ρ q=>(f ρ q).map fun x=>.nx ρ x.2
theorem bs0(h:UE X C e f) (hs:swapsWith e none pos.line X.env=pure false):US X C (.Expr e pos) (uEx f):=fun ρ q fl w no=>by
 obtain⟨⟨d,q1⟩,w1,w2⟩:=Option.map_eq_some_iff.mp w
 cases w2
 obtain⟨l1,a1⟩:=h ρ q d q1 w1 no
 exact⟨by show okR q1.length ρ=true;rw[l1];exact no,fun b as l=>D8 (aa7 (a1 b as l) hs) fun En σ H ⟨Hf,st,k⟩=>⟨Hf,st,fun v H' Hf' s' e' _=>am1 k (l.trans l1.symm) σ H' Hf' s' e'⟩⟩
def T4(i:Nat) (f:UD):UX:=fun ρ q=>(f ρ q).map fun x=>.nx (ρ.set i (‹x.1›)) x.2
theorem bK8(i:Nat) (hN:X.N.Nodup) (h:UE X C e f) (hi:X.N[i]? = some x) (hx:Loc X.env.scope x) (hs:swapsWith e (some (.Name x pos')) pos.line X.env=pure false) (hf:X.fn x=true\/X.env.scope.names.lookup x=some .local):US X C (.Assign [.Name x pos'] e pos) (T4 i f):=fun ρ q fl w no=>by
 obtain⟨⟨d,q1⟩,w1,w2⟩:=Option.map_eq_some_iff.mp w
 cases w2
 obtain⟨l1,a1⟩:=h ρ q d q1 w1 no
 exact⟨aw2 (by rw[l1];exact no),fun b as l=>D8 (ak8 hN hi hx (a1 b as l) hs hf) fun En σ H ⟨Hf,st,k⟩=>⟨Hf,st,fun v H' Hf' s' e' r=>am1 k (l.trans l1.symm) _ H' Hf' (by rw[au3];exact s'.set r) e'⟩⟩
def r9(f:UD):UX:=fun ρ q=>(f ρ q).map fun x=>.rt x.1 x.2
theorem bK9(h:UE X C e f):US X C (.Return (some e) pos) (r9 f):=fun ρ q fl w no=>by
 obtain⟨⟨d,q1⟩,w1,w2⟩:=Option.map_eq_some_iff.mp w
 cases w2
 obtain⟨l1,a1⟩:=h ρ q d q1 w1 no
 exact⟨rfl,fun b as l=>D8 (bf3 (a1 b as l)) fun En σ H ⟨Hf,st,k⟩=>⟨Hf,st,fun v H' Hf' s' e' r=>k [] _ σ v H' Hf' (by rw[List.append_nil];exact l.trans l1.symm) (by rw[List.append_nil];exact s') r⟩⟩
def uIf(t:UB) (f g:UX):UX:=fun ρ q=>(t ρ q).bind fun x=>if x.1 then f ρ x.2 else g ρ x.2
theorem cd2{s1 s2:List Stmt}(t:UT X C e c) (h1:USs X C s1 f) (h2:USs X C s2 g):US X C (.If e s1 s2 pos) (uIf c f g):=fun ρ q fl w no=>by
 obtain⟨⟨x,q1⟩,w1,w⟩:=Option.bind_eq_some_iff.mp w
 obtain⟨l1,a1⟩:=t ρ q x q1 w1 no
 cases x with
 | true =>
  obtain⟨o1,b1⟩:=h1 ρ q1 fl w (by rw[l1];exact no)
  exact⟨o1,fun b as l=>D8 (aO8 (a1 b as l) (b1 b as (l.trans l1.symm)) K7) fun En σ H ⟨Hf,st,k⟩=>⟨Hf,st,fun H' Hf' s' e'=>u6 ⟨Hf',s',UF.mono (fl:=fl) k e'⟩⟩⟩
 | false =>
  obtain⟨o1,b1⟩:=h2 ρ q1 fl w (by rw[l1];exact no)
  exact⟨o1,fun b as l=>D8 (aO8 (a1 b as l) K7 (b1 b as (l.trans l1.symm))) fun En σ H ⟨Hf,st,k⟩=>⟨Hf,st,fun H' Hf' s' e'=>ab3 ⟨Hf',s',UF.mono (fl:=fl) k e'⟩⟩⟩
def aG5:UX:=fun ρ q=>some (.nx ρ q)
theorem br8:USs X C [] aG5:=fun ρ q fl w no=>by
 cases w
 exact⟨no,fun b as l=>R5 aO6 fun En σ H ⟨Hf,st,k⟩=>am1 k l σ H Hf st (B8.refl _)⟩
theorem br7(h:US X C st g):USs X C [st] g:=fun ρ q fl w no=>by
 obtain⟨h1,h2⟩:=h ρ q fl w no
 exact⟨h1,fun b as l=>aO5 (h2 b as l)⟩
def K0(f g:UX):UX:=fun ρ q=>(f ρ q).bind fun fl=>match fl with
 | .nx ρ' q'=>g ρ' q'
 | r=>some r
theorem bO2{α:Type}{t:α->TS}(h:∀a,PSs X sts (t a)):PSs X sts (fun En σ H=>∃a,t a En σ H):=fun pins s σ H D I ⟨a,q⟩=>h a pins s σ H D I q
theorem bv1{P:Prop}{t:TS}(h:P->PSs X sts t):PSs X sts (fun En σ H=>P/\t En σ H):=fun pins s σ H D I ⟨a,q⟩=>h a pins s σ H D I q
theorem bb6(h1:US X C st f) (h2:USs X C sts g):USs X C (st::sts) (K0 f g):=fun ρ q fl w no=>by
 obtain⟨fl1,w1,w⟩:=Option.bind_eq_some_iff.mp w
 obtain⟨o1,a1⟩:=h1 ρ q fl1 w1 no
 cases fl1 with
 | nx ρ' q' =>
  obtain⟨o2,a2⟩:=h2 ρ' q' fl w o1
  exact⟨o2,fun b as l=>R5 (S3 (a1 b as l) (bO2 fun ex=>bv1 fun(l2:(as++ex).length=q'.length)=>a2 b (as++ex) l2)) fun En σ H ⟨Hf,s,k⟩=>⟨Hf,s,fun ex σ' H' Hf' l' s' e'=>⟨ex,l',Hf',s',UF.more (UF.mono (fl:=fl) k e') ex⟩⟩⟩
 | rt d q' =>
  cases w
  exact⟨rfl,fun b as l=>R5 (S3 (a1 b as l) K7) fun En σ H ⟨Hf,s,k⟩=>⟨Hf,s,k⟩⟩
 | ro j q' =>
  cases w
  exact⟨rfl,fun b as l=>R5 (S3 (a1 b as l) K7) fun En σ H ⟨Hf,s,k⟩=>⟨Hf,s,k⟩⟩
def Cm(g:D->Rho->Option Rho):Prop:=∀as d ρ ρ1,g d ρ=some ρ1->g d (sub as ρ)=some (sub as ρ1)/\∀n,okR n ρ=true->okR n ρ1=true
def Cms(g:List D->Rho->Option Rho):Prop:=∀as d ρ ρ1,g d ρ=some ρ1->g d (sub as ρ)=some (sub as ρ1)/\∀n,okR n ρ=true->okR n ρ1=true
theorem ca9(i:Nat):Cm (C4 i):=fun as d ρ ρ1 h=>by
 cases h
 exact⟨by rw[au3];rfl,fun n h=>aw2 h⟩
theorem bD0:Cms ag4:=fun as d ρ ρ1 h=>by
 cases d with
 | nil=>cases h;exact⟨rfl,fun _ h=>h⟩
 | cons=>cases h
theorem bp9(h1:Cm f) (h2:Cms g):Cms (J9 f g):=fun as d ρ ρ1 h=>by
 cases d with
 | nil=>cases h
 | cons d ds =>
  obtain⟨ρ2,e1,e2⟩:=Option.bind_eq_some_iff.mp h
  obtain⟨a1,a2⟩:=h1 as d ρ ρ2 e1
  obtain⟨b1,b2⟩:=h2 as ds ρ2 ρ1 e2
  exact⟨by show(f d (sub as ρ)).bind _=_;rw[a1];exact b1,fun n h=>b2 n (a2 n h)⟩
theorem ca8(h:Cms g):Cm (n9 n g):=fun as d ρ ρ1 e=>by
 unfold n9 at e ⊢
 split at e
 ·split at e
  ·rename_i hl;rw[if_pos hl];exact h as _ ρ ρ1 e
  ·cases e
 ·cases e
def az9(g:D->Rho->Option Rho) (f:UX):List D->UX
 | [],ρ,q=>some (.nx ρ q)
 | d::ds,ρ,q=>(g d ρ).bind fun ρ1=>(f ρ1 q).bind fun fl=>match fl with
  | .nx ρ' q'=>az9 g f ds ρ' q'
  | r=>some r
def cd4(src:Rho->Option (List D)) (g:D->Rho->Option Rho) (f:UX):UX:=fun ρ q=>(src (era ρ)).bind fun ds=>az9 g f ds ρ q
theorem az8{body:List Stmt}(cm:Cm g) (hb:USs X C body f):∀(ds:List D) (ρ:Rho) (q:Fs) (fl:UF),az9 g f ds ρ q=some fl->okR q.length ρ=true->fl.own=true
 | [],ρ,q,fl,h,n=>by cases h;exact n
 | d::ds,ρ,q,fl,h,n=>by
  obtain⟨ρ1,e1,h⟩:=Option.bind_eq_some_iff.mp h
  obtain⟨fl1,e2,h⟩:=Option.bind_eq_some_iff.mp h
  have n1:=(cm [] d ρ ρ1 e1).2 _ n
  have o:=(hb ρ1 q fl1 e2 n1).1
  cases fl1 with
  | nx ρ' q'=>exact az8 cm hb ds ρ' q' fl h o
  | rt d q'=>cases h;rfl
  | ro j q'=>cases h;rfl
theorem bL2{body:List Stmt}(hi:JI X tg iter src) (hg:JG X tg g) (cm:Cm g) (hb:USs X C body f) (hp:PassesOwn (model X.prog X.w) X.A X.env X.xe) (hc:X.calm=true) (hs:∀x,foldedSetIterable iter X.env x=pure x):US X C (.For tg iter body [] pos) (cd4 src g f):=fun ρ q fl w no=>by
 obtain⟨ds,e1,e2⟩:=Option.bind_eq_some_iff.mp w
 refine⟨az8 cm hb ds ρ q fl e2 no,fun b as l=>?_⟩
 have body':PSs X body (fun En σ H=>∃(as':List Addr) (ρ':Rho) (q':Fs) (fl':UF),f ρ' q'=some fl'/\okR q'.length ρ'=true/\as'.length=q'.length/\tU X C b as' ρ' q' fl' En σ H):=fun pins s σ H D I ⟨as',ρ',q',fl',z1,z2,z3,z4⟩=>(hb ρ' q' fl' z1 z2).2 b as' z3 pins s σ H D I z4
 refine D8 (bf4 hp hc (hi (era ρ) ds e1) hg body' hs) fun En σ H ⟨Hf,st,e⟩=>⟨_,Hf,st.same,by rw[← U0 as ρ];exact st.sl.era,fun J H1 Hf1 g1 Y=>?_⟩
 refine⟨fun i m σ H=>m=ds.length - i/\i<=ds.length/\∃Hf' ex ρ' q',(as++ex).length=q'.length/\okR q'.length ρ'=true/\OSt X.K C b (sub (as++ex) ρ') ((as++ex).zip q') σ H Hf'/\B8 Hf1 Hf'/\az9 g f (ds.drop i) ρ' q'=some fl,
  ⟨ds.length,by simp,Nat.zero_le _,Hf1,[],ρ,q,by rw[List.append_nil];exact l,no,by rw[List.append_nil];exact st.grow g1,B8.refl _,by simpa using e2⟩,?_⟩
 rintro i m σ' H' ⟨rfl,hi,Hf',ex,ρ',q',l',no',a',s',hm⟩
 obtain⟨Ys,Yg⟩:=Y i H' Hf' s' a'.same
 rcases Nat.lt_or_ge i ds.length with hlt|hge
 ·right
  obtain⟨go,yl⟩:=Yg ds[i] (by simp[hlt])
  rw[List.drop_eq_getElem_cons hlt]at hm
  obtain⟨ρ1,c1,hm⟩:=Option.bind_eq_some_iff.mp hm
  obtain⟨fl1,c2,hm⟩:=Option.bind_eq_some_iff.mp hm
  obtain⟨c3,c4⟩:=cm (as++ex) _ _ _ c1
  have no1:=c4 _ no'
  have o1:=(hb ρ1 q' fl1 c2 no1).1
  refine⟨go,fun σ3 H3=>∃m',m' < ds.length - i/\m'=ds.length - (i+1)/\i+1<=ds.length/\∃Hf' ex ρ' q',(as++ex).length=q'.length/\okR q'.length ρ'=true/\OSt X.K C b (sub (as++ex) ρ') ((as++ex).zip q') σ3 H3 Hf'/\B8 Hf1 Hf'/\az9 g f (ds.drop (i+1)) ρ' q'=some fl,fun σ3 H3 ⟨m',z1,z2⟩=>⟨m',z1,z2⟩,fun x H2 hy=>?_⟩
  obtain⟨Hf2,g2,r2⟩:=yl x H2 hy
  have a2:=a'.grow g2
  have s2:=s'.trans g2.ext
  refine⟨ds[i],sub (as++ex) ρ',sub (as++ex) ρ1,_,Hf2,c3,g2.sub,a2.sl,r2,fun σ3 sl3=>⟨as++ex,ρ1,q',fl1,c2,no1,l',Hf2,a2.slots sl3,?_⟩⟩
  cases fl1 with
  | nx ρ3 q3=>exact fun ex2 σ3 H3 Hf3 l3 a3 s3=>⟨_,by omega,rfl,hlt,Hf3,ex++ex2,ρ3,q3,by rw[← List.append_assoc];exact l3,o1,by rw[← List.append_assoc];exact a3,s2.trans s3,hm⟩
  | rt d q3 =>
   cases hm
   exact UF.more (fl:=.rt d q3) e ex
  | ro j q3 =>
   cases hm
   exact UF.more (fl:=.ro j q3) e ex
 ·left
  have:i=ds.length:=by omega
  subst this
  rw[List.drop_length]at hm
  cases hm
  exact⟨Ys (Nat.le_refl _),e ex σ' H' Hf' l' a' (g1.ext.trans s')⟩
end
end G
namespace G
open PySem PySem.Spec PyProof.Rows L2
theorem az6{H:Hp}{a b:Addr}{o:HO}(h:upd H a o b=none):b≠a/\H b=none:=by
 by_cases e:b=a
 ·subst e;rw[B5]at h;cases h
 ·rw[C2 e]at h;exact⟨e,h⟩
section
variable {K:PySem.W.Frag}{C:Addr}{b:Bs}{ρ:Rho}{os:Os}{σ:L2.St}{H Hf H' Hf':Hp}
theorem OSt.add(st:OSt K C b ρ os σ H Hf) (g:Grow H Hf H' Hf') (f:FoAt K C H' Hf' x c o) (fr:∀y∈cells x c,H y=none):OSt K C b ρ (os++[(x,o)]) σ H' Hf':=by
 obtain⟨R,r1,r2,r3⟩:=st.ob
 have st':=st.grow g
 have r1':=r1.chg (S:=[]) (Chg.of g) (by simp)
 obtain⟨R',q1,q2⟩:=r1'.snoc f fun y hy z=>r1.there y z (fr y hy)
 refine⟨st'.gr,R',q1,fun y hy=>(q2 y hy).elim (r2 y) fun z=>.inr ?_,r3.chg (S:=[]) (Chg.of g) (by simp) fun x h hx=>?_⟩
 ·exact Classical.byContradiction fun w=>st.gr.kp y w (fr y z)
 ·obtain⟨h1,h2⟩:=S5 h
  exact ax2 (fun z=>(q2 x z).elim h1 fun w=>hx (fr x w)) h2
end
theorem Slots.setO{K:PySem.W.Frag}{H0 H Hf:Hp}{ρ:Rho}{σ:L2.St}{i:Nat}{a:Addr}(s:Slots K H0 ρ σ H Hf):Slots K H0 (ρ.set i (some (.opq a))) (σ.set i (some (.ref a))) H Hf:=by
 have own:∀(j:Nat) (ds:List D),(ρ.set i (some (.opq a)))[j]? = some (some (.own ds))->i≠j/\ρ[j]? = some (some (.own ds)):=fun j ds e=>by
  rw[List.getElem?_set]at e
  split at e
  ·split at e<;>cases e
  ·rename_i h;exact⟨h,e⟩
 refine⟨by simp[s.len],fun j b e=>?_,fun j k d1 d2 c h1 h2 h3 h4=>?_⟩
 ·rw[List.getElem?_set]at e
  split at e
  ·rename_i h
   subst h
   split at e
   ·rename_i hl
    cases e
    exact⟨_,List.getElem?_set_self (by rw[← s.len];exact hl),rfl⟩
   ·cases e
  ·rename_i h
   obtain⟨v,v1,v2⟩:=s.is j b e
   exact⟨v,by rw[List.getElem?_set_ne h];exact v1,v2⟩
 ·obtain⟨n1,e1⟩:=own j d1 h1
  obtain⟨n2,e2⟩:=own k d2 h2
  rw[List.getElem?_set_ne n1]at h3
  rw[List.getElem?_set_ne n2]at h4
  exact s.apart j k d1 d2 c e1 e2 h3 h4
theorem bt5{as:List Addr}{ρ:Rho}{n:Nat}(h:okR n ρ=true) (l:as.length=n) (a:Addr) (i:Nat):sub (as++[a]) (ρ.set i (some (.opq n)))=(sub as ρ).set i (some (.opq a)):=by
 subst l
 have:=bd2 h [a]
 unfold sub at this ⊢
 rw[List.map_set,this]
 congr 1
 show some (B.opq _)=_
 rw[List.getD_eq_getElem?_getD,List.getElem?_append_right (Nat.le_refl _),Nat.sub_self]
 rfl
theorem bq5{as:List Addr}{q:Fs}(l:as.length=q.length) (a:Addr) (o:Fo):(as++[a]).zip (q++[o])=as.zip q++[(a,o)]:=by rw[List.zip_append l];rfl
def UN(X:Cx) (C:Addr) (e:Expr) (g:Rho->Option Fo):Prop:=∀ρ q o,g (era ρ)=some o->∀b (as:List Addr),as.length=q.length->PE X e (fun σ H Q=>∃Hf,OSt X.K C b (sub as ρ) (as.zip q) σ H Hf/\∀a c H' Hf',Grow H Hf H' Hf'->FoAt X.K C H' Hf' a c o->(∀y∈cells a c,H y=none)->Q (.ref a) H')
def cm8(X:Cx) (C:Addr) (x:Str) (n:Nat) (F:DF):Prop:=∃k f fd ps,FnOk X.prog X.w X.K X.mg X.base CX0 k f fd ps (spD X.K C (n+1) F)/\Room (k+1) X.A/\Mk X.K C f/\F9 X.K fd ps []/\X.mg x=some (.ref C)
section
variable {X:Cx}{C:Addr}
def bx4(F:DF) (g:Rho->Option (List D)):Rho->Option Fo:=fun ρ=>(g ρ).bind fun ds=>(F [] (none::ds.map some)).bind fun r=>match r.1 with
 | .none=>some r.2
 | _=>none
theorem bs1{e:Expr}{es:List Expr}(M:cm8 X C x n F) (hg:Gl X x) (ha:JA X (e::es) g) (hn:(e::es).length=n) (hdb:(x==("__debug__" : Str))=false) (he:starEach (e::es) X.env=(false,eval e X.env)::starEach es X.env) (hpl:(backTo pos (starEach es X.env)).any (·.1)=false) :
  UN X C (.Call (.Name x p) (e::es) [] pos) (bx4 F g):=fun ρ q o w b as l=>by
 obtain⟨ds,h1,w⟩:=Option.bind_eq_some_iff.mp w
 obtain⟨⟨r,o'⟩,h2,w⟩:=Option.bind_eq_some_iff.mp w
 have:r=.none/\o'=o:=by cases r<;>cases w;exact⟨rfl,rfl⟩
 obtain⟨rfl,rfl⟩:=this
 obtain⟨k,f,fd,ps,Fk,hr,Mk,hb,hm⟩:=M
 refine B4 (bv9 Mk Fk hr hg hm hb .nil al0 (fun pos pins s σ H Q I t=>ha.run (era ρ) ds h1 pos pins s σ H Q I t) hdb he hpl) fun σ H Q ⟨Hf,st,kk⟩=>⟨_,Hf,st.same,by rw[← U0 as ρ];exact st.sl.era,fun vs H1 Hf1 g0 rp y dx y1 y2 y3=>?_⟩
 have g1:Grow H1 Hf1 (upd H1 dx (.own y)) Hf1:=Grow.made g0.sub y2
 have g2:Grow (upd H1 dx (.own y)) Hf1 (upd (upd H1 dx (.own y)) y (.ins C dx [])) Hf1:=Grow.made g1.sub (by rw[C2 y3.symm];exact y1)
 have g:=g1.trans g2
 have fr1:=g0.sub.free y1
 refine⟨by rw[List.append_nil,List.length_cons,rp.length,ha.len _ ds h1,hn],y,Hf1,⟨dx,[]⟩,[],none::ds.map some,.none,o',g.sub,⟨B5,rfl,fun z hz=>by rw[List.mem_singleton.mp hz];exact fr1⟩,⟨_,_,rfl,rfl,by rw[List.append_nil];exact aI1 rp⟩,h2,fun v H' Hf' c' ch fo cl rv=>?_⟩
 cases rv
 have hy:H y=none:=g0.big.free y1
 refine⟨rfl,kk y c' H' Hf' ⟨fun z u e=>?_,ch.sub,g0.ext.trans ch.ext,fun z hz=>?_⟩ fo fun z hz=>?_⟩
 ·have e1:=g0.big z u e
  exact ch.big z u (by simp;exact C7 e hy) (g.big z u e1)
 ·rcases ch.new z hz with w|w
  ·exact g0.new z w
  ·exact .inr (g0.big.free (az6 (az6 w).2).2)
 ·rw[List.mem_singleton.mp hz];exact hy
def bs6(i:Nat) (g:Rho->Option Fo):UX:=fun ρ q=>(g (era ρ)).map fun o=>.nx (ρ.set i (some (.opq q.length))) (q++[o])
theorem bx0{ρ:Rho}{q:Fs}(h:okR q.length ρ=true) (i:Nat) (o:Fo):okR (q++[o]).length (ρ.set i (some (.opq q.length)))=true:=ai8 (bh1 h (by simp)) (by intro j z;cases z;simp)
theorem bL1(i:Nat) (hN:X.N.Nodup) (h:UN X C e g) (hi:X.N[i]? = some x) (hx:Loc X.env.scope x) (hs:swapsWith e (some (.Name x pos')) pos.line X.env=pure false) (hf:X.fn x=true\/X.env.scope.names.lookup x=some .local):US X C (.Assign [.Name x pos'] e pos) (bs6 i g):=fun ρ q fl w no=>by
 obtain⟨o,w1,w2⟩:=Option.map_eq_some_iff.mp w
 cases w2
 refine⟨bx0 no i o,fun b as l=>D8 (ak8 hN hi hx (h ρ q o w1 b as l) hs hf) fun En σ H ⟨Hf,st,k⟩=>⟨Hf,st,fun a c H' Hf' g fo fr=>?_⟩⟩
 have st2:=st.add g fo fr
 exact k [a] _ H' Hf' (by simp[l]) (by rw[bt5 no l,bq5 l];exact st2.slots st2.sl.setO) g.ext
end
end G
namespace G
open PySem PySem.Spec PyProof.Rows L2
def be3(g:UX) (n:Nat):List D->Option D:=fun ds=>(g (N8 n ds) []).bind fun fl=>match fl with
 | .rt d _=>some d
 | .nx _ _=>some .none
 | _=>none
theorem aU1(n m:Nat) (ds:List D):okR m (N8 n ds)=true:=by
 unfold okR N8
 rw[List.all_eq_true]
 intro x hx
 rcases List.mem_append.mp hx with h|h
 ·obtain⟨d,_,rfl⟩:=List.mem_map.mp h;rfl
 ·rw[(List.mem_replicate.mp h).2]
theorem aH1(n:Nat) (ds:List D):sub [] (N8 n ds)=N8 n ds:=by
 unfold sub N8
 rw[List.map_append,List.map_map,List.map_replicate]
 rfl
section
variable {P:Program}{w:World}{K:PySem.W.Frag}{mg:Str->Option Value}{base:Heap}{x qual:Str}{st:Stmt}{f:Addr}{fd:FuncData}{N ps:List Str}{k:Nat}{g:UX}{C:Addr}
theorem bt8{H Hf:Hp}{ds:List D}{vs:List V}(ss:B8 Hf H) (rp:Reps K Hf ds vs):OSt K C ⟨[],H,Hf⟩ (sub [] (N8 N.length ds)) (([]:List Addr).zip ([]:Fs)) (start N vs) H Hf :=
 ⟨Chg.of (Grow.refl ss),[],.nil,by simp,by rw[aH1];exact af3 rp⟩
theorem bo1(F:Fun K x qual st f fd) (S:FnScope N ps (B9 st))
  (hb:∀(cdv:Value) (A:Around) (outer:List Env) (s:Shared) (H:Hp) (E:XK),Room k (A.deeper (envOfC qual (B9 st) s.heap.objs.size f cdv))->USs (am7 CX0 P w K mg base N qual (B9 st) f cdv A outer s H E).nox C (E8 st) g) :
  FnOk P w K mg base CX0 (k+1) f fd ps (spF K ps.length (be3 g N.length)):=by
 refine F.ok S (fun vs H Q E h=>h.1) fun cdv A outer s H vs Q E hr hsp=>?_
 obtain⟨hlen,Hf,ds,d,ss,rp,e,kk⟩:=hsp
 obtain⟨fl,e1,e2⟩:=Option.bind_eq_some_iff.mp e
 obtain⟨_,h⟩:=hb cdv A outer s H E hr _ [] fl e1 (aU1 _ _ _)
 refine⟨_,h ⟨[],H,Hf⟩ [] rfl,Hf,bt8 ss rp,?_⟩
 cases fl with
 | rt d' q=>cases e2;exact fun ex ρ σ v H' Hf' l s' r=>kk v H' Hf' s'.gr.grow r
 | nx ρ q=>cases e2;exact fun ex σ' H' Hf' l s' _=>kk _ H' Hf' s'.gr.grow rfl
 | ro j q=>cases e2
end
end G
namespace G
open PySem PySem.Spec PyProof.Rows L2
section
variable {K:PySem.W.Frag}{C:Addr}{b:Bs}{ρ:Rho}{os:List (Addr×Fo)}{σ:L2.St}{H Hf H' Hf' H0:Hp}
theorem OSt.mkOwn{i:Nat}{p:Addr}{ds:List D}{vs:List V}(s:OSt K C b ρ os σ H Hf) (hp:H p=none) (r:Reps K Hf ds vs):OSt K C b (ρ.set i (some (.own ds))) os (σ.set i (some (.ref p))) (upd H p (.lst vs)) Hf:=by
 obtain⟨R,r1,r2,r3⟩:=s.ob
 have g:Grow H Hf (upd H p (.lst vs)) Hf:=Grow.made s.same hp
 refine⟨(s.grow g).gr,R,r1.chg (S:=[]) (Chg.of g) (by simp),r2,r3.setOwn g (ax2 (fun z=>r1.there p z hp) ?_) hp B5 (s.same.free hp) r⟩
 exact Classical.byContradiction fun z=>s.gr.kp p z hp
theorem Slots.app{i:Nat}{p:Addr}{ds:List D}{vs:List V}{d:D}{w:V}(s:Slots K H0 ρ σ H Hf) (eo:ρ[i]? = some (some (.own ds))) (h1:σ[i]? = some (some (.ref p))) (h2:H p=some (.lst vs)) (h3:Hf p=none) (h4:H0 p=none) (h5:Reps K Hf ds vs) (r:Rep K Hf d w) :
  Slots K H0 (ρ.set i (some (.own (ds++[d])))) σ (upd H p (.lst (vs++[w]))) Hf:=by
 refine⟨by simpa using s.len,fun j bb z=>?_,fun j k ds1 es c q1 q2 q3 q4=>?_⟩
 ·by_cases qj:i=j
  ·subst qj
   have hi:i < ρ.length:=(List.getElem?_eq_some_iff.mp eo).1
   rw[List.getElem?_set_self hi]at z
   cases z
   exact⟨_,h1,p,vs++[w],rfl,B5,h3,h4,h5.append ⟨w,[],rfl,r,rfl⟩⟩
  ·rw[List.getElem?_set_ne qj]at z
   obtain⟨u,z1,z2⟩:=s.is j bb z
   refine⟨u,z1,?_⟩
   cases bb with
   | val d=>exact z2
   | exc C=>exact z2
   | opq _=>exact z2
   | own dd =>
    obtain⟨a',vs',y1,y2,y3,y4,y5⟩:=z2
    have ne:a'≠p:=fun zz=>by
     subst zz y1
     exact qj (s.apart i j ds dd a' eo z h1 z1)
    exact⟨a',vs',y1,by rw[C2 ne];exact y2,y3,y4,y5⟩
 ·have old:∀n:Nat,(∃dd:List D,(ρ.set i (some (B.own (ds++[d]))))[n]? = some (some (B.own dd)))->∃dd:List D,ρ[n]? = some (some (B.own dd)):=fun n ⟨dd,z⟩=>by
   by_cases qj:i=n
   ·subst qj;exact⟨ds,eo⟩
   ·rw[List.getElem?_set_ne qj]at z;exact⟨_,z⟩
  obtain⟨d1,q1'⟩:=old j ⟨_,q1⟩
  obtain⟨d2,q2'⟩:=old k ⟨_,q2⟩
  exact s.apart j k d1 d2 c q1' q2' q3 q4
theorem OSt.app{i:Nat}{ds:List D}(s:OSt K C b ρ os σ H Hf) (eo:ρ[i]? = some (some (.own ds))):∃p vs,σ[i]? = some (some (.ref p))/\H p=some (.lst vs)/\Reps K Hf ds vs/\∀w d,Rep K Hf d w->OSt K C b (ρ.set i (some (.own (ds++[d])))) os σ (upd H p (.lst (vs++[w]))) Hf:=by
 obtain⟨R,r1,r2,r3⟩:=s.ob
 obtain⟨v,h1,p,vs,rfl,h2,h3,h4,h5⟩:=r3.is i _ eo
 refine⟨p,vs,h1,h2,h5,fun w d r=>?_⟩
 obtain⟨n1,n2⟩:=S5 h4
 have g:Chg [p] H Hf (upd H p (.lst (vs++[w]))) Hf:=Chg.wr s.same (by simp) h3
 exact⟨s.gr.trans g fun x hx=>.inr (by rw[List.mem_singleton.mp hx];exact n2),R,r1.chg g fun x hx z=>n1 (by rw[← List.mem_singleton.mp z];exact hx),r2,r3.app eo h1 h2 h3 h4 h5 r⟩
theorem FoAt.frz(h:FoAt K C H Hf a c o) (e:B8 Hf Hf') (n:∀x∈cells a c,Hf' x≠none->Hf x≠none):FoAt K C H Hf' a c o :=
 ⟨h.ins,h.fl.mono e,fun x hx=>Classical.byContradiction fun z=>n x hx z (h.fr x hx)⟩
theorem Objs.frz(h:Objs K C H Hf os R) (e:B8 Hf Hf') (n:∀x∈R,Hf' x≠none->Hf x≠none):Objs K C H Hf' os R:=by
 induction h with
 | nil=>exact .nil
 | cons f d t ih=>exact .cons (f.frz e fun x hx=>n x (List.mem_append_left _ hx)) d (ih fun x hx=>n x (List.mem_append_right _ hx))
theorem OSt.frz(s:OSt K C b ρ os σ H Hf) (i:Nat):∃Hf',B8 Hf Hf'/\OSt K C b (frz i ρ) os σ H Hf':=by
 obtain⟨R,r1,r2,r3⟩:=s.ob
 let H1:Hp:=fun x=>if(hid b R x).isNone then none else H x
 have h1:∀x,hid b R x=none->H1 x=none:=fun x h=>by show(if _ then _ else _)=_;rw[h];rfl
 have h2:∀x,H1 x=none->H x≠none->hid b R x=none:=fun x h hx=>by
  cases q:hid b R x with
  | none=>rfl
  | some y=>exact(hx (by rw[← h];show _=(if _ then _ else _);rw[q];rfl)).elim
 have g1:Grow H1 Hf H Hf:=⟨fun x o e=>by
  cases q:hid b R x with
  | none=>rw[h1 x q]at e;cases e
  | some y=>rw[← e];show _=(if _ then _ else _);rw[q];rfl,s.same,B8.refl _,fun _ h=>.inl h⟩
 obtain⟨Hf',e,a⟩:=bo0 i (⟨g1,r3.chg (S:=[]) (Chg.of (Grow.refl s.same)) (by simp) fun x h _=>h1 x h⟩:At K H1 Hf ρ σ H Hf)
 have nR:∀x∈R,Hf' x≠none->Hf x≠none:=fun x hx z=>(a.gr.new x z).elim id fun y=>((S5 (h2 x y (r1.there x hx))).1 hx).elim
 refine⟨Hf',e,⟨s.gr.big,s.gr.kp,a.gr.sub,s.gr.ext.trans e,fun x z=>(a.gr.new x z).elim (s.gr.new x) fun y=>.inr ?_⟩,R,r1.frz e nR,r2,a.sl.chg (S:=[]) (Chg.of (Grow.refl a.gr.sub)) (by simp) h2⟩
 by_cases hx:H x=none
 ·exact Classical.byContradiction fun w=>s.gr.kp x w hx
 ·exact(S5 (h2 x y hx)).2
end
theorem aN1(as:List Addr) (ρ:Rho) (i:Nat) (ds:List D):sub as (ρ.set i (some (.own ds)))=(sub as ρ).set i (some (.own ds)):=by unfold sub;rw[List.map_set];rfl
section
variable {X:Cx}{C:Addr}{st:Stmt}{sts:List Stmt}
abbrev UL:=Rho->Fs->Option (List D×Fs)
def UAs(X:Cx) (C:Addr) (es:List Expr) (g:UL):Prop:=∀ρ q ds q',g ρ q=some (ds,q')->okR q.length ρ=true->q'.length=q.length/\ds.length=es.length/\∀b (as:List Addr),as.length=q.length ->
 PA X es (fun σ H Q=>∃Hf,OSt X.K C b (sub as ρ) (as.zip q) σ H Hf/\∀vs H' Hf',OSt X.K C b (sub as ρ) (as.zip q') σ H' Hf'->B8 Hf Hf'->Reps X.K Hf' ds vs->Q vs H')
def ulN:UL:=fun _ q=>some ([],q)
def ulC(f:UD) (g:UL):UL:=fun ρ q=>(f ρ q).bind fun x=>(g ρ x.2).map fun y=>(x.1::y.1,y.2)
theorem bL5:UAs X C [] ulN:=fun ρ q ds q' w _=>by
 cases w
 exact⟨rfl,rfl,fun b as l pos pins s σ H Q I ⟨Hf,st,k⟩=>E9 pos pins s σ H Q I (k [] H Hf st (B8.refl _) rfl)⟩
theorem bs2(h:UE X C e f) (r:UAs X C es g) (hs:starEach (e::es) X.env=(false,eval e X.env)::starEach es X.env):UAs X C (e::es) (ulC f g):=fun ρ q ds q' w no=>by
 obtain⟨⟨x,q1⟩,w1,w⟩:=Option.bind_eq_some_iff.mp w
 obtain⟨⟨y,q2⟩,w2,w3⟩:=Option.map_eq_some_iff.mp w
 cases w3
 obtain⟨l1,a1⟩:=h ρ q x q1 w1 no
 obtain⟨l2,n2,a2⟩:=r ρ q1 y q2 w2 (by rw[l1];exact no)
 refine⟨l2.trans l1,by simp[n2],fun b as l pos pins s σ H Q I ⟨Hf,st,k⟩=>?_⟩
 exact D4 (a1 b as l) (a2 b as (l.trans l1.symm)) hs pos pins s σ H Q I ⟨Hf,st,fun v H1 Hf1 s1 e1 r1=>⟨Hf1,s1,fun vs H2 Hf2 s2 e2 r2=>k (v::vs) H2 Hf2 s2 (e1.trans e2) ⟨v,vs,rfl,r1.mono e2,r2⟩⟩⟩
def an9(f:UL):UD:=fun ρ q=>(f ρ q).map fun x=>(.tuple x.1,x.2)
theorem bL6(h:UAs X C es f) (hn:es.length<=1000):UE X C (.Tuple es k pos) (an9 f):=fun ρ q d q' w no=>by
 obtain⟨⟨ds,q1⟩,w1,w2⟩:=Option.map_eq_some_iff.mp w
 cases w2
 obtain⟨l1,n1,a1⟩:=h ρ q ds q1 w1 no
 refine⟨l1,fun b as l=>B4 (bg2 (a1 b as l)) fun σ H Q ⟨Hf,st,k⟩=>⟨Hf,st,fun vs H1 Hf1 s1 e1 r=>⟨?_,fun p hp=>?_⟩⟩⟩
 ·rw[r.length,n1];exact Nat.le_of_lt (V2 hn)
 ·have g:=Grow.laid (o:=.tup vs) s1.same hp
  exact k _ _ _ (s1.grow g) (e1.trans g.ext) ⟨p,vs,rfl,SqT.of B5,r.mono g.ext⟩
def bM2(i:Nat) (f:UL):UX:=fun ρ q=>(f ρ q).map fun x=>.nx (ρ.set i (some (.own x.1))) x.2
theorem bL0(i:Nat) (hN:X.N.Nodup) (h:UAs X C es f) (hn:es.length<=1000) (hi:X.N[i]? = some x) (hx:Loc X.env.scope x) (hs:swapsWith (.List es lpos) (some (.Name x pos')) pos.line X.env=pure false) (hf:X.fn x=true\/X.env.scope.names.lookup x=some .local):US X C (.Assign [.Name x pos'] (.List es lpos) pos) (bM2 i f):=fun ρ q fl w no=>by
 obtain⟨⟨ds,q1⟩,w1,w2⟩:=Option.map_eq_some_iff.mp w
 cases w2
 obtain⟨l1,n1,a1⟩:=h ρ q ds q1 w1 no
 refine⟨ai8 (by rw[l1];exact no) (by intro _ z;cases z),fun b as l=>D8 (ak8 hN hi hx (bg6 (a1 b as l)) hs hf) fun En σ H ⟨Hf,st,k⟩=>⟨Hf,st,fun vs H1 Hf1 s1 e1 r=>⟨?_,fun p hp=>?_⟩⟩⟩
 ·rw[r.length,n1];exact Nat.le_of_lt (V2 hn)
 ·exact am1 k (l.trans l1.symm) _ _ Hf1 (by rw[aN1];exact s1.mkOwn hp r) e1
def aA0(i:Nat) (f:UD):UX:=fun ρ q=>match ρ[i]? with
 | some (some (.own ds))=>if ds.length < 16777216 then(f ρ q).map fun x=>.nx (ρ.set i (some (.own (ds++[x.1])))) x.2 else none
 | _=>none
theorem bL3(i:Nat) (h:UE X C e f) (hN:X.N[i]? = some x) (hv:Vis X.env.scope x) (hd:(x==("__debug__" : Str))=false) (hcd:(x==("__classdict__" : Str))=false)
  (hfew:((backTo cpos (starEach [e] X.env)).all (fun x=>!x.1)&&(backToKw cpos (keywordEach [] X.env)).all (fun x=>x.1.isSome)
   && decide (([e]:List Expr).length+([]:List Keyword).length+(if([]:List Keyword).isEmpty then 0 else 1) < 30))=true)
  (hline:(apos.endLine==cpos.line)=true) (hs:starEach [e] X.env=[(false,eval e X.env)]) (hsw:swapsWith (.Call (.Attribute (.Name x p) "append" apos) [e] [] cpos) none pos.line X.env=pure false) (hbase:attributeBase (.Name x p) "append" X.env (eval (.Name x p) X.env)=eval (.Name x p) X.env:=by rfl) :
  US X C (.Expr (.Call (.Attribute (.Name x p) "append" apos) [e] [] cpos) pos) (aA0 i f):=fun ρ q fl w no=>by
 unfold aA0 at w
 split at w
 ·rename_i ds eo
  split at w
  ·rename_i hz
   obtain⟨⟨d,q1⟩,w1,w2⟩:=Option.map_eq_some_iff.mp w
   cases w2
   obtain⟨l1,a1⟩:=h ρ q d q1 w1 no
   refine⟨ai8 (by rw[l1];exact no) (by intro _ z;cases z),fun b as l=>?_⟩
   have eo':(sub as ρ)[i]? = some (some (.own ds)):=by unfold sub;rw[List.getElem?_map,eo];rfl
   refine D8 (aa7 (aq8 PySem.F.plainAttrs_list PySem.F.slot_list_append PySem.F.type_list_append ad6 (O0 hN hv hd hcd) (D4 (a1 b as l) E9 hs) hbase hfew hline hs) hsw) fun En σ H ⟨Hf,st,k⟩=>?_
   obtain⟨p0,vs0,g1,g2,_,_⟩:=st.app eo'
   refine⟨_,g1,.inl ⟨rfl,vs0,SqL.of g2⟩,Hf,st,fun v H1 Hf1 s1 e1 r1=>?_⟩
   obtain⟨p1,vs1,g3,g4,g5,g6⟩:=s1.app eo'
   rw[g1]at g3
   cases g3
   refine⟨p0,vs1,v,rfl,rfl,g4,by rw[g5.length,sizeLine_eq];exact hz,am1 k (l.trans l1.symm) _ _ Hf1 (by rw[aN1];exact g6 v d r1) e1⟩
  ·cases w
 ·cases w
end
end G
namespace G
open PySem PySem.Spec PyProof.Rows L2
def cn0(X:Cx) (C:Addr) (x:Str) (F:DF) (n:Nat):Prop:=∃k f fd ps,FnOk X.prog X.w X.K X.mg X.base CX0 k f fd ps (spD X.K C n F)/\Room k X.A/\X.mg x=some (.ref f)/\PySem.W.keepIn X.K (.ref f)=true/\F9 X.K fd ps []
section
variable {X:Cx}{C:Addr}{K:PySem.W.Frag}{Hf Hf':Hp}{a:Addr}
theorem Mxs.length:∀{ms:MD}{vs:List V},Mxs K Hf a ms vs->vs.length=ms.length
 | [],_,h=>by cases h;rfl
 | m::ms,_,⟨v,r,e,h1,h2⟩=>by subst e;simp[h2.length]
theorem Mxs.get:∀{ms:MD}{vs:List V},Mxs K Hf a ms vs->∀{i:Nat}{m:Option D},ms[i]? = some m->∃v,vs[i]? = some v/\MxV K Hf a m v
 | [],_,h,i,m,e=>by simp at e
 | m::ms,_,⟨v,r,e,h1,h2⟩,i,m',e'=>by
  subst e
  cases i with
  | zero=>simp at e';subst e';exact⟨v,rfl,h1⟩
  | succ i=>exact h2.get (i:=i) (by simpa using e')
structure JM (X:Cx) (i:Nat) (es:List Expr) (g:Rho->Option MD):Prop where
 len:∀ρ ms,g ρ=some ms->ms.length=es.length
 run:∀ρ ms,g ρ=some ms->∀a ρ',ρ'[i]? = some (some (.opq a))->(∀{H0 H Hf:Hp}{σ:L2.St},Slots X.K H0 ρ' σ H Hf->Slots X.K H0 ρ σ H Hf) ->
  PA X es (fun σ H Q=>∃H0 Hf,B8 Hf H/\Slots X.K H0 ρ' σ H Hf/\∀vs H' Hf',Grow H Hf H' Hf'->Mxs X.K Hf' a ms vs->Q vs H')
def mN:Rho->Option MD:=fun _=>some []
def mC(f:DE) (g:Rho->Option MD):Rho->Option MD:=fun ρ=>(f ρ).bind fun d=>(g ρ).map fun ms=>some d::ms
def mO(g:Rho->Option MD):Rho->Option MD:=fun ρ=>(g ρ).map fun ms=>none::ms
theorem bX0:JM X i [] mN:=⟨fun ρ ms h=>by cases h;rfl,fun ρ ms h a ρ' _ _ pos pins s σ H Q I ⟨H0,Hf,ss,sl,k⟩=>by
 cases h
 exact E9 pos pins s σ H Q I (k [] H Hf (Grow.refl ss) rfl)⟩
theorem aQ7(h:JE X e f) (r:JM X i es g) (hs:starEach (e::es) X.env=(false,eval e X.env)::starEach es X.env):JM X i (e::es) (mC f g):=by
 refine⟨fun ρ ms q=>?_,fun ρ ms q a ρ' sa sb=>?_⟩
 ·obtain⟨d,h1,h2⟩:=Option.bind_eq_some_iff.mp q
  obtain⟨es',h3,h4⟩:=Option.map_eq_some_iff.mp h2
  subst h4
  simp[r.len ρ es' h3]
 ·obtain⟨d,h1,h2⟩:=Option.bind_eq_some_iff.mp q
  obtain⟨es',h3,h4⟩:=Option.map_eq_some_iff.mp h2
  subst h4
  intro pos pins s σ H Q I ⟨H0,Hf,ss,sl,k⟩
  refine D4 (h ρ d h1) (r.run ρ es' h3 a ρ' sa sb) hs pos pins s σ H Q I ⟨H0,Hf,ss,sb sl,fun v H1 Hf1 g1 r1=>⟨H0,Hf1,g1.sub,sl.grow g1,fun vs H2 Hf2 g2 r2=>?_⟩⟩
  exact k (v::vs) H2 Hf2 (g1.trans g2) ⟨v,vs,rfl,Rep.mono g2.ext r1,r2⟩
theorem bW9(r:JM X i es g) (hn:X.N[i]? = some x) (hv:Vis X.env.scope x) (h1:(x==("__debug__" : Str))=false) (h2:(x==("__classdict__" : Str))=false) (hs:starEach (.Name x p::es) X.env=(false,eval (.Name x p) X.env)::starEach es X.env):JM X i (.Name x p::es) (mO g):=by
 refine⟨fun ρ ms q=>?_,fun ρ ms q a ρ' sa sb=>?_⟩
 ·obtain⟨es',h3,h4⟩:=Option.map_eq_some_iff.mp q
  subst h4
  simp[r.len ρ es' h3]
 ·obtain⟨es',h3,h4⟩:=Option.map_eq_some_iff.mp q
  subst h4
  intro pos pins s σ H Q I ⟨H0,Hf,ss,sl,k⟩
  obtain⟨v,w1,w2⟩:=sl.is i _ sa
  cases w2
  exact D4 (O0 hn hv h1 h2) (r.run ρ es' h3 a ρ' sa sb) hs pos pins s σ H Q I ⟨_,w1,H0,Hf,ss,sl,fun vs H2 Hf2 g2 r2=>k (.ref a::vs) H2 Hf2 g2 ⟨_,vs,rfl,rfl,r2⟩⟩
def uD(i:Nat) (F:DF) (g:Rho->Option MD):UD:=fun ρ q=>(P4 i ρ q).bind fun p=>(g (era ρ)).bind fun ms=>(F p.2 ms).map fun r=>(r.1,q.set p.1 r.2)
theorem cd3{e:Expr}{es:List Expr}(i:Nat) (N:cn0 X C y F n) (hg:Gl X y) (hdb:(y==("__debug__" : Str))=false) (hn:X.N[i]? = some x) (hv:Vis X.env.scope x) (h1:(x==("__debug__" : Str))=false) (h2:(x==("__classdict__" : Str))=false) (ha:JM X i (e::es) g) (hz:(e::es).length=n)
  (he:starEach (e::es) X.env=(false,eval e X.env)::starEach es X.env) (hpl:(backTo pos (starEach es X.env)).any (·.1)=false):UE X C (.Call (.Name y p) (e::es) [] pos) (uD i F g):=fun ρ q d q' w no=>by
 obtain⟨⟨j,o⟩,w1,w⟩:=Option.bind_eq_some_iff.mp w
 obtain⟨ms,w2,w⟩:=Option.bind_eq_some_iff.mp w
 obtain⟨⟨r,o'⟩,w3,w4⟩:=Option.map_eq_some_iff.mp w
 cases w4
 refine⟨by simp,fun b as l=>?_⟩
 obtain⟨a,ea,A⟩:=S1 w1 (t7 no) l hn hv h1 h2
 rw[T5 ea]
 obtain⟨k,f,fd,ps,Fk,hr,hm,hk,hb⟩:=N
 refine B4 (av8 Fk hr hg hm hk hb .nil al0 (ha.run (era ρ) ms w2 a (sub as ρ) A.s fun s=>by rw[← U0 as ρ];exact s.era) hdb he hpl) fun σ H Q ⟨Hf,st,kk⟩=>?_
 obtain⟨c,f1,f3⟩:=st.focus A.w A.o
 refine⟨_,Hf,st.same,st.sl,fun vs H1 Hf1 g1 r1=>⟨?_,a,Hf1,c,o,ms,r,o',g1.sub,f1.grow g1,by rw[List.append_nil];exact r1,w3,fun v H2 Hf2 c' g2 f2 n2 rv=>kk v H2 Hf2 (f3 ((Chg.of g1).trans g2 fun _ h=>.inl h) f2 fun y hy=>(n2 y hy).imp id fun z=>Classical.byContradiction fun w=>(Chg.of (S:=[]) g1).kp y w z) (g1.ext.trans g2.ext) rv⟩⟩
 rw[List.append_nil,r1.length,ha.len _ ms w2,hz]
end
def cm0:Option D->Option B
 | some d=>‹d›
 | none=>some (.opq 0)
def T6(n:Nat) (ms:MD):Rho:=ms.map cm0++List.replicate (n - ms.length) none
def M1(g:UX) (n:Nat):DF:=fun o ms=>(g (T6 n ms) [o]).bind fun fl=>match fl with
 | .rt d q=>(q[0]?).map fun o'=>(d,o')
 | .nx _ q=>(q[0]?).map fun o'=>(.none,o')
 | _=>none
theorem aH0(n:Nat) (ms:MD):okR 1 (T6 n ms)=true:=by
 unfold okR T6
 rw[List.all_eq_true]
 intro x hx
 rcases List.mem_append.mp hx with h|h
 ·obtain⟨d,_,rfl⟩:=List.mem_map.mp h
  cases d<;>rfl
 ·rw[(List.mem_replicate.mp h).2]
theorem ao1{K:PySem.W.Frag}{H0 H Hf:Hp}{N:List Str}{ms:MD}{vs:List V}(r:Mxs K Hf a ms vs):Slots K H0 (sub [a] (T6 N.length ms)) (L2.start N vs) H Hf:=by
 have hl:=r.length
 have noown:∀(i:Nat) (b:B),(sub [a] (T6 N.length ms))[i]? = some (some b)->∃m,ms[i]? = some m/\some b=cf4 [a] (cm0 m):=fun i b h=>by
  unfold T6 sub at h
  rw[List.map_append]at h
  rcases Nat.lt_or_ge i ms.length with q|q
  ·rw[List.getElem?_append_left (by simpa using q),List.getElem?_map,List.getElem?_map]at h
   rw[List.getElem?_eq_getElem q]at h ⊢
   simp only[xms,Option.some.injEq]at h
   exact⟨ms[i],rfl,h.symm⟩
  ·rw[List.getElem?_append_right (by simpa using q),List.getElem?_map,List.getElem?_replicate]at h
   split at h<;>cases h
 refine⟨by simp[T6,L2.start,hl],fun i b e=>?_,fun i j d1 d2 a e1 _ _ _=>?_⟩
 ·obtain⟨m,h1,h2⟩:=noown i b e
  obtain⟨v,h3,h4⟩:=r.get h1
  have hi:i < vs.length:=(List.getElem?_eq_some_iff.mp h3).1
  refine⟨v,?_,?_⟩
  ·unfold L2.start
   rw[List.getElem?_append_left (by simpa using hi),List.getElem?_map,h3];rfl
  ·cases m with
   | none=>cases h2;exact h4
   | some d=>cases h2;exact h4
 ·obtain⟨m,_,h2⟩:=noown i _ e1
  cases m<;>cases h2
section
variable {P:Program}{w:World}{K:PySem.W.Frag}{mg:Str->Option Value}{base:Heap}{x qual:Str}{st:Stmt}{f:Addr}{fd:FuncData}{N ps:List Str}{k:Nat}{g:UX}{C:Addr}
theorem bo2(F:Fun K x qual st f fd) (S:FnScope N ps (B9 st))
  (hb:∀(cdv:Value) (A:Around) (outer:List Env) (s:Shared) (H:Hp) (E:XK),Room k (A.deeper (envOfC qual (B9 st) s.heap.objs.size f cdv))->USs (am7 CX0 P w K mg base N qual (B9 st) f cdv A outer s H E).nox C (E8 st) g) :
  FnOk P w K mg base CX0 (k+1) f fd ps (spD K C ps.length (M1 g N.length)):=by
 refine F.ok S (fun vs H Q E h=>h.1) fun cdv A outer s H vs Q E hr hsp=>?_
 obtain⟨hlen,a,Hf,c,o,ms,r,o',ss,fo,rp,e,kk⟩:=hsp
 obtain⟨fl,e1,e2⟩:=Option.bind_eq_some_iff.mp e
 obtain⟨_,h⟩:=hb cdv A outer s H E hr _ [o] fl e1 (aH0 _ _)
 have fin:∀ex q ρ' σ' v H' Hf',q[0]? = some o'->OSt K C ⟨cells a c,H,Hf⟩ ρ' (([a]++ex).zip q) σ' H' Hf'->Rep K Hf' r v->Q v H':=fun ex q ρ' σ' v H' Hf' hq s' rv=>by
  obtain⟨R,r1,r2,_⟩:=s'.ob
  obtain⟨c',f1,f2,_⟩:=r1.focus (j:=0) (a:=a) (o:=o') (List.getElem?_zip_eq_some.mpr ⟨rfl,hq⟩)
  exact kk v H' Hf' c' s'.gr f1 (fun x hx=>r2 x (f2 x hx)) rv
 refine⟨_,h ⟨cells a c,H,Hf⟩ [a] rfl,Hf,⟨Chg.of (Grow.refl ss),cells a c++[],.cons fo (by simp) .nil,fun x hx=>.inl (by simpa using hx),ao1 rp⟩,?_⟩
 cases fl with
 | rt d' q =>
  obtain⟨o1,e3,e4⟩:=Option.map_eq_some_iff.mp e2
  cases e4
  exact fun ex ρ σ v H' Hf' l s' r=>fin ex q ρ σ v H' Hf' e3 s' r
 | nx ρ q =>
  obtain⟨o1,e3,e4⟩:=Option.map_eq_some_iff.mp e2
  cases e4
  exact fun ex σ' H' Hf' l s' _=>fin ex q _ σ' _ H' Hf' e3 s' rfl
 | ro j q=>cases e2
end
end G
namespace G
open PySem PySem.Spec PyProof.Rows L2
section
variable {X:Cx}{C:Addr}
def UW(X:Cx) (C:Addr) (op:BoolOp) (es:List Expr) (g:UB):Prop:=∀ρ q c q',g ρ q=some (c,q')->okR q.length ρ=true->q'.length=q.length/\∀b (as:List Addr),as.length=q.length->∀pos,
 PW X (.BoolOp op es pos) (fun σ H Q=>∃Hf,OSt X.K C b (sub as ρ) (as.zip q) σ H Hf/\∀H' Hf',OSt X.K C b (sub as ρ) (as.zip q') σ H' Hf'->B8 Hf Hf'->Q c H')
theorem br6(h:UT X C e f):UW X C .And [e] f:=fun ρ q c q' w no=>by
 obtain⟨l1,a1⟩:=h ρ q c q' w no
 exact⟨l1,fun b as l pos=>aO3 (a1 b as l)⟩
theorem bK3(h:UT X C e f):UW X C .Or [e] f:=fun ρ q c q' w no=>by
 obtain⟨l1,a1⟩:=h ρ q c q' w no
 exact⟨l1,fun b as l pos=>bf1 (a1 b as l)⟩
theorem bK4(h:UT X C e f) (r:UW X C .And (eb::es) g):UW X C .And (e::eb::es) (aT8 f g):=fun ρ q c q' w no=>by
 obtain⟨⟨x,q1⟩,w1,w⟩:=Option.bind_eq_some_iff.mp w
 obtain⟨l1,a1⟩:=h ρ q x q1 w1 no
 cases x with
 | true =>
  obtain⟨l2,a2⟩:=r ρ q1 c q' w (by rw[l1];exact no)
  exact⟨l2.trans l1,fun b as l pos=>Y7 (av5 (a1 b as l) (a2 b as (l.trans l1.symm) pos)) fun σ H Q ⟨Hf,st,k⟩=>⟨Hf,st,fun H1 Hf1 s1 e1=>u6 ⟨Hf1,s1,fun H2 Hf2 s2 e2=>k H2 Hf2 s2 (e1.trans e2)⟩⟩⟩
 | false =>
  cases w
  exact⟨l1,fun b as l pos=>Y7 (av5 (tB':=fun _ _ _=>False) (a1 b as l) (fun _ _ _ _ _ _ _ h=>h.elim)) fun σ H Q ⟨Hf,st,k⟩=>⟨Hf,st,fun H1 Hf1 s1 e1=>ab3 (k H1 Hf1 s1 e1)⟩⟩
theorem cd1(h:UT X C e f) (r:UW X C .Or (eb::es) g):UW X C .Or (e::eb::es) (uOr f g):=fun ρ q c q' w no=>by
 obtain⟨⟨x,q1⟩,w1,w⟩:=Option.bind_eq_some_iff.mp w
 obtain⟨l1,a1⟩:=h ρ q x q1 w1 no
 cases x with
 | false =>
  obtain⟨l2,a2⟩:=r ρ q1 c q' w (by rw[l1];exact no)
  exact⟨l2.trans l1,fun b as l pos=>Y7 (aO2 (a1 b as l) (a2 b as (l.trans l1.symm) pos)) fun σ H Q ⟨Hf,st,k⟩=>⟨Hf,st,fun H1 Hf1 s1 e1=>ab3 ⟨Hf1,s1,fun H2 Hf2 s2 e2=>k H2 Hf2 s2 (e1.trans e2)⟩⟩⟩
 | true =>
  cases w
  exact⟨l1,fun b as l pos=>Y7 (aO2 (tB':=fun _ _ _=>False) (a1 b as l) (fun _ _ _ _ _ _ _ h=>h.elim)) fun σ H Q ⟨Hf,st,k⟩=>⟨Hf,st,fun H1 Hf1 s1 e1=>u6 (k H1 Hf1 s1 e1)⟩⟩
theorem UW.ut(h:UW X C op es g):UT X C (.BoolOp op es pos) g:=fun ρ q c q' w no=>by
 obtain⟨l1,a1⟩:=h ρ q c q' w no
 exact⟨l1,fun b as l=>(a1 b as l pos).pt⟩
def aT7(f:UB):UB:=fun ρ q=>(f ρ q).map fun x=>(!x.1,x.2)
theorem bK6(h:UT X C e f):UT X C (.UnaryOp .Not e pos) (aT7 f):=fun ρ q c q' w no=>by
 obtain⟨⟨x,q1⟩,w1,w2⟩:=Option.map_eq_some_iff.mp w
 cases w2
 obtain⟨l1,a1⟩:=h ρ q x q1 w1 no
 exact⟨l1,fun b as l=>Y8 (bf2 (a1 b as l)) fun σ H Q ⟨Hf,st,k⟩=>⟨Hf,st,fun H1 Hf1 s1 e1=>k H1 Hf1 s1 e1⟩⟩
theorem bL7(h:UE X C e f):UE X C (.BoolOp op [e] pos) f:=fun ρ q d q' w no=>by
 obtain⟨l1,a1⟩:=h ρ q d q' w no
 exact⟨l1,fun b as l=>bg4 (a1 b as l)⟩
theorem bs5(ha:UE X C ea f) (hb:UE X C (.BoolOp .And (eb::es) pos) g):UE X C (.BoolOp .And (ea::eb::es) pos) (bE8 f g):=fun ρ q d q' w no=>by
 obtain⟨⟨x,q1⟩,w1,w⟩:=Option.bind_eq_some_iff.mp w
 obtain⟨c,w2,w⟩:=Option.bind_eq_some_iff.mp w
 have:x=.bool c:=by cases x<;>cases w2;rfl
 subst this
 obtain⟨l1,a1⟩:=ha ρ q _ q1 w1 no
 cases c with
 | true =>
  obtain⟨l2,a2⟩:=hb ρ q1 d q' w (by rw[l1];exact no)
  exact⟨l2.trans l1,fun b as l=>B4 (av9 (a1 b as l) (a2 b as (l.trans l1.symm))) fun σ H Q ⟨Hf,st,k⟩=>⟨Hf,st,fun v H1 Hf1 s1 e1 r1=>⟨true,r1,u6 ⟨Hf1,s1,fun u H2 Hf2 s2 e2 r2=>k u H2 Hf2 s2 (e1.trans e2) r2⟩⟩⟩⟩
 | false =>
  cases w
  exact⟨l1,fun b as l=>B4 (av9 (tb:=fun _ _ _=>False) (a1 b as l) (fun _ _ _ _ _ _ h=>h.elim)) fun σ H Q ⟨Hf,st,k⟩=>⟨Hf,st,fun v H1 Hf1 s1 e1 r1=>⟨false,r1,ab3 (k _ H1 Hf1 s1 e1 rfl)⟩⟩⟩
end
end G
namespace G
open PySem PySem.Spec PyProof.Rows L2
section
variable {X:Cx}{C:Addr}{fn:List Str}
def au2(i:Nat) (f:Str):UD:=fun ρ q=>(P4 i ρ q).bind fun p=>(p.2.lookup f).map fun d=>(d,q)
theorem bL9(i:Nat) (c:FoC X.K C fn) (hf:f∈fn) (hn:X.N[i]? = some x) (hv:Vis X.env.scope x) (h1:(x==("__debug__" : Str))=false) (h2:(x==("__classdict__" : Str))=false) (hb:attributeBase (.Name x p) f X.env (eval (.Name x p) X.env)=eval (.Name x p) X.env) :
  UE X C (.Attribute (.Name x p) f pos) (au2 i f):=fun ρ q d q' w no=>by
 obtain⟨⟨j,o⟩,e1,w⟩:=Option.bind_eq_some_iff.mp w
 obtain⟨d',e2,e3⟩:=Option.map_eq_some_iff.mp w
 cases e3
 refine⟨rfl,fun b as l=>?_⟩
 obtain⟨a,ea,A⟩:=S1 e1 (t7 no) l hn hv h1 h2
 exact bQ1 A c hf e2 hb
theorem bd5(h:P4 i ρ q=some (j,o)) (l:q'.length=q.length):∃o',P4 i ρ q'=some (j,o'):=by
 unfold P4 at h ⊢
 split at h
 ·rename_i j' e
  obtain⟨o1,e1,e2⟩:=Option.map_eq_some_iff.mp h
  cases e2
  have hj:j < q'.length:=by rw[l];exact(List.getElem?_eq_some_iff.mp e1).1
  exact⟨q'[j],by rw[List.getElem?_eq_getElem hj];rfl⟩
 ·cases h
def y8(i:Nat) (f:Str) (g:UD):UX:=fun ρ q=>(g ρ q).bind fun x=>(P4 i ρ x.2).bind fun p=>if p.2.length < 1000 then some (.nx ρ (x.2.set p.1 (av6 f x.1 p.2))) else none
theorem br9(i:Nat) (c:FoC X.K C fn) (hf:f∈fn) (hn:X.N[i]? = some x) (hv:Vis X.env.scope x) (h1:(x==("__debug__" : Str))=false) (h2:(x==("__classdict__" : Str))=false) (h:UE X C e g) (hs:swapsWith e (some (.Attribute (.Name x p) f pos')) pos.line X.env=pure false) :
  US X C (.Assign [.Attribute (.Name x p) f pos'] e pos) (y8 i f g):=fun ρ q fl w no=>by
 obtain⟨⟨d,q1⟩,w1,w⟩:=Option.bind_eq_some_iff.mp w
 obtain⟨⟨j,o1⟩,w2,w⟩:=Option.bind_eq_some_iff.mp w
 split at w
 ·rename_i hz
  cases w
  obtain⟨l1,a1⟩:=h ρ q d q1 w1 no
  obtain⟨o0,w0⟩:=bd5 w2 l1.symm
  refine⟨by show okR (q1.set j _).length ρ=true;rw[List.length_set,l1];exact no,fun b as l=>?_⟩
  obtain⟨a,ea,A⟩:=S1 w0 (t7 no) l hn hv h1 h2
  obtain⟨a',ea',A'⟩:=S1 w2 (t7 no) (l.trans l1.symm) hn hv h1 h2
  rw[ea]at ea';cases ea'
  exact D8 (bP5 A c hf (a1 b as l) A'.o hz hs) fun En σ H ⟨Hf,st,k⟩=>⟨Hf,st,fun σ' H' Hf' s' e'=>am1 k (by rw[List.length_set];exact l.trans l1.symm) σ' H' Hf' (by rw[T5 ea];exact s') e'⟩
 ·cases w
def N7(F:FnD) (g:UL):UD:=fun ρ q=>(g ρ q).bind fun x=>(F x.1).map fun d=>(d,x.2)
theorem bc2{e:Expr}{es:List Expr}(hF:cm9 X y F n) (hu:X.A.units+64 < cLine) (hg:Gl X y) (hdb:(y==("__debug__" : Str))=false) (ha:UAs X C (e::es) g) (hz:(e::es).length=n)
  (he:starEach (e::es) X.env=(false,eval e X.env)::starEach es X.env) (hpl:(backTo pos (starEach es X.env)).any (·.1)=false):UE X C (.Call (.Name y p) (e::es) [] pos) (N7 F g):=fun ρ q d q' w no=>by
 obtain⟨⟨ds,q1⟩,w1,w⟩:=Option.bind_eq_some_iff.mp w
 obtain⟨d',w2,w3⟩:=Option.map_eq_some_iff.mp w
 cases w3
 obtain⟨l1,n1,a1⟩:=ha ρ q ds q1 w1 no
 refine⟨l1,fun b as l=>?_⟩
 rcases hF with⟨k,f,fd,ps,hk,hr,hm,hkp,hb⟩|⟨hm,hb⟩
 ·refine B4 (av8 hk hr hg hm hkp hb .nil al0 (a1 b as l) hdb he hpl) fun σ H Q ⟨Hf,st,kk⟩=>⟨Hf,st,fun vs H1 Hf1 s1 e1 r1=>⟨by rw[List.append_nil,r1.length,n1,hz],Hf1,ds,d,s1.same,by rw[List.append_nil];exact r1,w2,fun v H2 Hf2 g2 r2=>kk v H2 Hf2 (s1.grow g2) (e1.trans g2.ext) r2⟩⟩
 ·obtain⟨_,hnn,nm,hv,hc⟩:=hb
  exact B4 (P5 (hc X hu) hg hm hv (a1 b as l) hnn hdb he hpl) fun σ H Q ⟨Hf,st,kk⟩=>⟨Hf,st,fun vs H1 Hf1 s1 e1 r1=>⟨by rw[r1.length,n1,hz],Hf1,ds,d,s1.same,r1,w2,fun v H2 Hf2 g2 r2=>kk v H2 Hf2 (s1.grow g2) (e1.trans g2.ext) r2⟩⟩
def cn7(f:UD) (g:DE):UD:=fun ρ q=>(f ρ q).bind fun x=>(au7 x.1).bind fun s=>(g (era ρ)).bind fun k=>match k with
 | .int k=>(atI s.2 k).map fun d=>(d,x.2)
 | _=>none
theorem cn6(ha:UE X C a f) (hb:JE X b g) (hs:j4 b):UE X C (.Subscript a b pos) (cn7 f g):=fun ρ q d q' w no=>by
 obtain⟨⟨x,q1⟩,w1,w⟩:=Option.bind_eq_some_iff.mp w
 obtain⟨⟨t,ds⟩,w2,w⟩:=Option.bind_eq_some_iff.mp w
 obtain⟨y,w3,w⟩:=Option.bind_eq_some_iff.mp w
 split at w
 ·obtain⟨d',w4,w5⟩:=Option.map_eq_some_iff.mp w
  cases w5
  obtain⟨l1,a1⟩:=ha ρ q x q1 w1 no
  refine⟨l1,fun bb as l=>B4 (aO9 aw9 (a1 bb as l) (hb (era ρ) _ w3) hs) fun σ H Q ⟨Hf,st,k⟩=>⟨Hf,st,fun v H1 Hf1 s1 e1 r1=>⟨_,Hf1,s1.same,by rw[← U0 as ρ];exact s1.sl.era,fun u H2 Hf2 g2 r2=>?_⟩⟩⟩
  have s2:=s1.grow g2
  have rx:=r1.mono g2.ext
  have sq:=s2.same
  cases x with
  | tuple xs =>
   cases w2
   obtain⟨p,vs,e1',e2,e3⟩:=rx
   obtain⟨w,q1,q2⟩:=aa5 e3 w4
   exact .inr (.inl ⟨p,vs,_,w,e1',r2,C9 sq e2,q1,k w H2 Hf2 s2 (e1.trans g2.ext) q2⟩)
  | list xs =>
   cases w2
   obtain⟨p,vs,e1',e2,e3⟩:=rx
   obtain⟨w,q1,q2⟩:=aa5 e3 w4
   exact .inl ⟨p,vs,_,w,e1',r2,E1 sq e2,q1,k w H2 Hf2 s2 (e1.trans g2.ext) q2⟩
  | _=>cases w2
 ·cases w
theorem bM1(o:OpD X (binaryOp op) h) (ha:UE X C ea f) (hb:UE X C eb g):UE X C (.BinOp ea op eb pos) (uB2 h f g):=fun ρ q d q' w no=>by
 obtain⟨⟨x,q1⟩,w1,w⟩:=Option.bind_eq_some_iff.mp w
 obtain⟨⟨y,q2⟩,w2,w⟩:=Option.bind_eq_some_iff.mp w
 obtain⟨z,w3,w4⟩:=Option.map_eq_some_iff.mp w
 cases w4
 obtain⟨l1,a1⟩:=ha ρ q x q1 w1 no
 obtain⟨l2,a2⟩:=hb ρ q1 y q2 w2 (by rw[l1];exact no)
 exact⟨l2.trans l1,fun b as l=>B4 (bg3 (o x y _ w3) (a1 b as l) (a2 b as (l.trans l1.symm))) fun σ H Q ⟨Hf,st,k⟩=>⟨Hf,st,fun v H1 Hf1 s1 e1 r1=>⟨Hf1,s1,fun u H2 Hf2 s2 e2 r2=>⟨Hf2,s2.same,r1.mono e2,r2,fun z H3 Hf3 g r3=>k z H3 Hf3 (s2.grow g) ((e1.trans e2).trans g.ext) r3⟩⟩⟩⟩
end
section
variable {K:PySem.W.Frag}{C:Addr}{b:Bs}{ρ:Rho}{os:List (Addr×Fo)}{σ:L2.St}{H Hf H0:Hp}
end
section
variable {X:Cx}{C:Addr}
end
end G
namespace G
open PySem PySem.Spec PyProof.Rows L2
section
variable {X:Cx}{C:Addr}
def bc4(f g:UD):UD:=fun ρ q=>(f ρ q).bind fun x=>(au7 x.1).bind fun s=>(g ρ x.2).bind fun k=>match k.1 with
 | .int n=>(atI s.2 n).map fun d=>(d,k.2)
 | _=>none
theorem bL8(ha:UE X C a f) (hb:UE X C b g) (hs:j4 b):UE X C (.Subscript a b pos) (bc4 f g):=fun ρ q d q' w no=>by
 obtain⟨⟨x,q1⟩,w1,w⟩:=Option.bind_eq_some_iff.mp w
 obtain⟨⟨t,ds⟩,w2,w⟩:=Option.bind_eq_some_iff.mp w
 obtain⟨⟨y,q2⟩,w3,w⟩:=Option.bind_eq_some_iff.mp w
 dsimp only at w
 split at w
 ·obtain⟨d',w4,w5⟩:=Option.map_eq_some_iff.mp w
  cases w5
  obtain⟨l1,a1⟩:=ha ρ q x q1 w1 no
  obtain⟨l2,a2⟩:=hb ρ q1 _ _ w3 (by rw[l1];exact no)
  refine⟨l2.trans l1,fun bb as l=>B4 (aO9 aw9 (a1 bb as l) (a2 bb as (l.trans l1.symm)) hs) fun σ H Q ⟨Hf,st,k⟩=>⟨Hf,st,fun v H1 Hf1 s1 e1 r1=>⟨Hf1,s1,fun u H2 Hf2 s2 e2 r2=>?_⟩⟩⟩
  have rx:=r1.mono e2
  have sq:=s2.same
  cases x with
  | tuple xs =>
   cases w2
   obtain⟨p,vs,e1',e2',e3⟩:=rx
   obtain⟨w,q1,q2⟩:=aa5 e3 w4
   exact .inr (.inl ⟨p,vs,_,w,e1',r2,C9 sq e2',q1,k w H2 Hf2 s2 (e1.trans e2) q2⟩)
  | list xs =>
   cases w2
   obtain⟨p,vs,e1',e2',e3⟩:=rx
   obtain⟨w,q1,q2⟩:=aa5 e3 w4
   exact .inl ⟨p,vs,_,w,e1',r2,E1 sq e2',q1,k w H2 Hf2 s2 (e1.trans e2) q2⟩
  | _=>cases w2
 ·cases w
def ag3(t:UB) (f:UX):Nat->UX
 | 0=>fun _ _=>none
 | n+1=>fun ρ q=>(t ρ q).bind fun x=>if x.1 then(f ρ x.2).bind fun fl=>match fl with
  | .nx ρ' q'=>ag3 t f n ρ' q'
  | r=>some r
  else some (.nx ρ x.2)
def aG4(t:UB) (f:UX):UX:=ag3 t f 1000
theorem ar6{body:List Stmt}(ht:UT X C c t) (hb:USs X C body f):∀(n:Nat) (ρ:Rho) (q:Fs) (fl:UF),ag3 t f n ρ q=some fl->okR q.length ρ=true->fl.own=true
 | 0,ρ,q,fl,h,n=>by cases h
 | n+1,ρ,q,fl,h,no=>by
  obtain⟨⟨x,q1⟩,e1,h⟩:=Option.bind_eq_some_iff.mp h
  have l1:=(ht ρ q x q1 e1 no).1
  dsimp only at h
  split at h
  ·obtain⟨fl1,e2,h⟩:=Option.bind_eq_some_iff.mp h
   have o:=(hb ρ q1 fl1 e2 (by rw[l1];exact no)).1
   cases fl1 with
   | nx ρ' q'=>exact ar6 ht hb n ρ' q' fl h o
   | rt d q'=>cases h;rfl
   | ro j q'=>cases h;rfl
  ·cases h
   show okR q1.length ρ=true
   rw[l1];exact no
theorem bb7{body:List Stmt}(ht:UT X C c t) (hb:USs X C body f) (hp:PassesOwn (model X.prog X.w) X.A X.env X.xe):US X C (.While c body [] pos) (aG4 t f):=fun ρ q fl w no=>by
 refine⟨ar6 ht hb 1000 ρ q fl w no,fun b as l=>?_⟩
 have test':PT X c (fun σ H Q=>∃(as':List Addr) (ρ':Rho) (q':Fs) (x:Bool) (q1:Fs) (Hf:Hp),t ρ' q'=some (x,q1)/\okR q'.length ρ'=true/\as'.length=q'.length/\OSt X.K C b (sub as' ρ') (as'.zip q') σ H Hf/\∀H' Hf',OSt X.K C b (sub as' ρ') (as'.zip q1) σ H' Hf'->B8 Hf Hf'->Q x H'):=fun pins s σ H Q I ⟨as',ρ',q',x,q1,Hf,z1,z2,z3,z4,z5⟩=>(ht ρ' q' x q1 z1 z2).2 b as' z3 pins s σ H Q I ⟨Hf,z4,z5⟩
 have body':PSs X body (fun En σ H=>∃(as':List Addr) (ρ':Rho) (q':Fs) (fl':UF),f ρ' q'=some fl'/\okR q'.length ρ'=true/\as'.length=q'.length/\tU X C b as' ρ' q' fl' En σ H):=fun pins s σ H D I ⟨as',ρ',q',fl',z1,z2,z3,z4⟩=>(hb ρ' q' fl' z1 z2).2 b as' z3 pins s σ H D I z4
 refine D8 (aB0 hp test' body') fun En σ H ⟨Hf,st,e⟩=>?_
 refine⟨fun m σ H=>∃Hf' ex ρ' q',(as++ex).length=q'.length/\okR q'.length ρ'=true/\OSt X.K C b (sub (as++ex) ρ') ((as++ex).zip q') σ H Hf'/\B8 Hf Hf'/\ag3 t f m ρ' q'=some fl,
  ⟨1000,Hf,[],ρ,q,by rw[List.append_nil];exact l,no,by rw[List.append_nil];exact st,B8.refl _,w⟩,?_⟩
 rintro m σ' H' ⟨Hf',ex,ρ',q',l',no',a',s',hm⟩
 cases m with
 | zero=>cases hm
 | succ m =>
  obtain⟨⟨x,q1⟩,e1,hm⟩:=Option.bind_eq_some_iff.mp hm
  have l1:=(ht ρ' q' x q1 e1 no').1
  refine⟨as++ex,ρ',q',x,q1,Hf',e1,no',l',a',fun H2 Hf2 a2 s2=>?_⟩
  dsimp only at hm
  have s3:=s'.trans s2
  cases x with
  | false =>
   cases hm
   exact ab3 (e ex σ' H2 Hf2 (l'.trans l1.symm) a2 s3)
  | true =>
   obtain⟨fl1,e2,hm⟩:=Option.bind_eq_some_iff.mp (show(f ρ' q1).bind _=some fl from hm)
   have no1:okR q1.length ρ'=true:=by rw[l1];exact no'
   have o1:=(hb ρ' q1 fl1 e2 no1).1
   refine u6 ⟨fun σ3 H3=>∃m',m' < m+1/\∃Hf' ex ρ' q',(as++ex).length=q'.length/\okR q'.length ρ'=true/\OSt X.K C b (sub (as++ex) ρ') ((as++ex).zip q') σ3 H3 Hf'/\B8 Hf Hf'/\ag3 t f m' ρ' q'=some fl,fun σ3 H3 z=>z,as++ex,ρ',q1,fl1,e2,no1,l'.trans l1.symm,Hf2,a2,?_⟩
   cases fl1 with
   | nx ρ3 q3=>exact fun ex2 σ3 H3 Hf3 l3 a3 s4=>⟨m,Nat.lt_succ_self _,Hf3,ex++ex2,ρ3,q3,by rw[← List.append_assoc];exact l3,o1,by rw[← List.append_assoc];exact a3,s3.trans s4,hm⟩
   | rt d q3 =>
    cases hm
    exact UF.more (fl:=.rt d q3) e ex
   | ro j q3 =>
    cases hm
    exact UF.more (fl:=.ro j q3) e ex
end
end G
namespace G
open PySem PySem.Spec PyProof.Rows L2
section
variable {X:Cx}{C:Addr}
def bc3(f:UD):UD:=fun ρ q=>(f ρ q).bind fun x=>(au7 x.1).map fun s=>(.int s.2.length,x.2)
theorem bs4(hg:Gl X "len") (hm:X.mg "len" = none) (h:UE X C e f) (he:starEach [e] X.env=[(false,eval e X.env)]):UE X C (.Call (.Name "len" p) [e] [] pos) (bc3 f):=fun ρ q d q' w no=>by
 obtain⟨⟨x,q1⟩,w1,w⟩:=Option.bind_eq_some_iff.mp w
 obtain⟨⟨t,ds⟩,w2,w3⟩:=Option.map_eq_some_iff.mp w
 cases w3
 obtain⟨l1,a1⟩:=h ρ q x q1 w1 no
 refine⟨l1,fun b as l=>B4 (P5 ac0 hg hm ay6 (D4 (a1 b as l) E9 he) (he:=he)) fun σ H Q ⟨Hf,st,k⟩=>⟨Hf,st,fun v H1 Hf1 s1 e1 r=>?_⟩⟩
 have sq:=s1.same
 cases x with
 | tuple xs =>
  cases w2
  obtain⟨p,vs,rfl,e2,e3⟩:=r
  exact⟨p,vs,rfl,.inr (C9 sq e2),k _ H1 Hf1 s1 e1 (by rw[e3.length];rfl)⟩
 | list xs =>
  cases w2
  obtain⟨p,vs,rfl,e2,e3⟩:=r
  exact⟨p,vs,rfl,.inl (E1 sq e2),k _ H1 Hf1 s1 e1 (by rw[e3.length];rfl)⟩
 | _=>cases w2
end
end G
namespace G
open PySem PySem.Spec PyProof.Rows L2
section
variable {X:Cx}{C:Addr}
def hpX:Hp:=fun _=>some (.lst [])
def tEl(K:PySem.W.Frag) (C:Addr) (a:Addr) (gU:UD):TE:=fun σ H Q=>∃k o y o' Hf c,gU [‹k›,some (.opq 0)] [o]=some (y,[o'])/\B8 Hf H/\Slots K hpX [‹k›,some (.opq a)] σ H Hf/\FoAt K C H Hf a c o /\
 ∀v H' Hf' c',Chg (cells a c) H Hf H' Hf'->FoAt K C H' Hf' a c' o'->(∀x∈cells a c',x∈cells a c\/H x=none)->Rep K Hf' y v->Q v H'
theorem cg8(h:UE X C elt gU):PE X elt (tEl X.K C a gU):=fun pins s σ H Q I ⟨k,o,y,o',Hf,c,e1,ss,sl,fo,kk⟩=>by
 obtain⟨_,a1⟩:=h _ _ _ _ e1 rfl
 refine a1 ⟨cells a c,H,Hf⟩ [a] rfl pins s σ H Q I ⟨Hf,⟨Chg.of (Grow.refl ss),cells a c++[],.cons fo (by simp) .nil,fun x hx=>.inl (by simpa using hx),sl.chg (S:=[]) (Chg.of (Grow.refl ss)) (by simp) fun x h _=>nomatch h⟩,fun v H' Hf' s' e' r=>?_⟩
 obtain⟨R,r1,r2,_⟩:=s'.ob
 obtain⟨c',f1,f2,_⟩:=r1.focus (j:=0) (a:=a) (o:=o') rfl
 exact kk v H' Hf' c' s'.gr f1 (fun x hx=>r2 x (f2 x hx)) r
theorem bd8{α:Type}{l:List α}{j:Nat}{x:α}(h:l[j]? = some x):l.set j x=l:=by
 obtain⟨hj,e⟩:=List.getElem?_eq_some_iff.mp h
 subst e
 exact List.set_getElem_self hj
def cpT(g:UD):Fo->List D->Option (List D×Fo)
 | o,[]=>some ([],o)
 | o,k::ks=>(g [‹k›,some (.opq 0)] [o]).bind fun r=>match r.2 with
  | [o']=>(cpT g o' ks).map fun l=>(r.1::l.1,l.2)
  | _=>none
def bs7(n i:Nat) (src:Rho->Option (List D)) (g:UD):UX:=fun ρ q=>(src (era ρ)).bind fun ks=>(P4 i ρ q).bind fun p=>if ks.length<=1000 then(cpT g p.2 ks).map fun l=>.nx (ρ.set n (‹.list l.1›)) (q.set p.1 l.2) else none
theorem Slots.push{K:PySem.W.Frag}{H0 H Hf:Hp}{ρ:Rho}{σ:L2.St}{p:Addr}(s:Slots K H0 ρ σ H Hf) (n0:H0 p=none) (hp:H p=none) (nf:Hf p=none) (sm:B8 Hf H):Slots K H0 (ρ++[some (.own [])]) (σ++[some (.ref p)]) (upd H p (.lst [])) Hf:=by
 have s2:Slots K H0 (ρ++[none]) (σ++[none]) H Hf:=by
  have at_:∀(i:Nat) (b:B),(ρ++[none])[i]? = some (some b)->ρ[i]? = some (some b)/\i < ρ.length:=fun i b e=>by
   rcases Nat.lt_or_ge i ρ.length with q|q
   ·rw[List.getElem?_append_left q]at e;exact⟨e,q⟩
   ·rw[List.getElem?_append_right q]at e
    cases h:i - ρ.length with
    | zero=>rw[h]at e;cases e
    | succ n=>rw[h]at e;cases e
  refine⟨by simp[s.len],fun i b e=>?_,fun i j d1 d2 a h1 h2 h3 h4=>?_⟩
  ·obtain⟨e1,e2⟩:=at_ i b e
   obtain⟨v,v1,v2⟩:=s.is i b e1
   exact⟨v,by rw[List.getElem?_append_left (by rw[← s.len];exact e2)];exact v1,v2⟩
  ·obtain⟨e1,l1⟩:=at_ i _ h1
   obtain⟨e2,l2⟩:=at_ j _ h2
   rw[List.getElem?_append_left (by rw[← s.len];exact l1)]at h3
   rw[List.getElem?_append_left (by rw[← s.len];exact l2)]at h4
   exact s.apart i j d1 d2 a e1 e2 h3 h4
 have:=s2.setOwn (i:=ρ.length) (ds:=[]) (vs:=[]) (Grow.made sm hp) n0 hp B5 nf rfl
 rw[s.len]at this
 simpa [← s.len] using this
theorem Slots.pop{K:PySem.W.Frag}{H0 H Hf:Hp}{ρ:Rho}{σ:L2.St}{x:Option B}{y:Option V}(s:Slots K H0 (ρ++[x]) (σ++[y]) H Hf):Slots K H0 ρ σ H Hf:=by
 have hl:ρ.length=σ.length:=by have:=s.len;simpa using this
 have up:∀(i:Nat) (b:B),ρ[i]? = some (some b)->(ρ++[x])[i]? = some (some b)/\i < ρ.length:=fun i b e=>by
  have:=(List.getElem?_eq_some_iff.mp e).1
  exact⟨by rw[List.getElem?_append_left this];exact e,this⟩
 refine⟨hl,fun i b e=>?_,fun i j d1 d2 a h1 h2 h3 h4=>?_⟩
 ·obtain⟨e1,l1⟩:=up i b e
  obtain⟨v,v1,v2⟩:=s.is i b e1
  rw[List.getElem?_append_left (by rw[← hl];exact l1)]at v1
  exact⟨v,v1,v2⟩
 ·obtain⟨e1,l1⟩:=up i _ h1
  obtain⟨e2,l2⟩:=up j _ h2
  exact s.apart i j d1 d2 a e1 e2 (by rw[List.getElem?_append_left (by rw[← hl];exact l1)];exact h3) (by rw[List.getElem?_append_left (by rw[← hl];exact l2)];exact h4)
theorem OSt.push{K:PySem.W.Frag}{b:Bs}{ρ:Rho}{os:Os}{σ:L2.St}{H Hf:Hp}{p:Addr}(s:OSt K C b ρ os σ H Hf) (hp:H p=none):OSt K C b (ρ++[some (.own [])]) os (σ++[some (.ref p)]) (upd H p (.lst [])) Hf:=by
 obtain⟨R,r1,r2,r3⟩:=s.ob
 have g:Grow H Hf (upd H p (.lst [])) Hf:=Grow.made s.same hp
 refine⟨(s.grow g).gr,R,r1.chg (S:=[]) (Chg.of g) (by simp),r2,r3.push (ax2 (fun z=>r1.there p z hp) ?_) hp (s.same.free hp) s.same⟩
 exact Classical.byContradiction fun z=>s.gr.kp p z hp
theorem OSt.pop{K:PySem.W.Frag}{b:Bs}{ρ:Rho}{os:Os}{σ:L2.St}{H Hf:Hp}{x:Option B}{y:Option V}(s:OSt K C b (ρ++[x]) os (σ++[y]) H Hf):OSt K C b ρ os σ H Hf:=by
 obtain⟨R,r1,r2,r3⟩:=s.ob
 exact⟨s.gr,R,r1,r2,r3.pop⟩
theorem bb8{gU:UD}(n i:Nat) (hN:X.N.Nodup) (S:CompSc X N' 1 [i] scope) (hx:∀e s,X.xe e s->False) (hit:JI X tgt iter src) (hg:∀C s0 H0 ex,JG (D0 X N' scope C s0 H0 ex) tgt (C4 0)) (hel:∀C0 s0 H0 ex,UE (D0 X N' scope C0 s0 H0 ex) C elt gU)
  (hn:X.N[i]? = some x) (hv:Vis X.env.scope x) (h1:(x==("__debug__" : Str))=false) (h2:(x==("__classdict__" : Str))=false) (hm:X.N[n]? = some y) (hl:X.env.scope.names.lookup y=some .local) (hsw:swapsWith (.ListComp elt [⟨tgt,iter,[],0⟩] scope pos) (some (.Name y pos')) spos.line X.env=pure true)
  (hc:X.calm=true) (hs:∀x,foldedSetIterable iter X.env x=pure x):US X C (.Assign [.Name y pos'] (.ListComp elt [⟨tgt,iter,[],0⟩] scope pos) spos) (bs7 n i src gU):=fun ρ q fl w no=>by
 obtain⟨ks,w1,w⟩:=Option.bind_eq_some_iff.mp w
 obtain⟨⟨j,o⟩,w3,w⟩:=Option.bind_eq_some_iff.mp w
 split at w
 ·rename_i hz
  obtain⟨⟨l,oe⟩,w4,w5⟩:=Option.map_eq_some_iff.mp w
  cases w5
  refine⟨aw2 (by rw[List.length_set];exact no),fun b as len=>?_⟩
  obtain⟨a,ea,A⟩:=S1 w3 (t7 no) len hn hv h1 h2
  have zq:∀u:Fo,(as.zip (q.set j u))[j]? = some (a,u):=fun u=>by
   rw[T5 ea,List.getElem?_set_self (List.getElem?_eq_some_iff.mp A.o).1]
  have zz:∀u u':Fo,(as.zip (q.set j u)).set j (a,u')=as.zip (q.set j u'):=fun u u'=>by
   rw[T5 ea,T5 ea,List.set_set]
  refine D8 (t5 S hx hc hN hm hl (hit (era ρ) ks w1) (g:=tgJ X.K (C4 0)) (tc:=ak1 X.K D1) (te:=tEl X.K C a gU) hg (fun C s0 H0 ex=>aQ2) (fun C0 s0 H0 ex=>cg8 (hel C0 s0 H0 ex)) hsw hs) fun En σ H ⟨Hf,st,kk⟩=>?_
  refine⟨_,Hf,st.same,by rw[← U0 as ρ];exact st.sl.era,fun J H1 Hf1 gr1 Y Dd hD=>?_⟩
  have st1:=st.grow gr1
  have c0:Slots X.K hpX [none,some (.opq a)] (am9 1 [i] σ) (upd H1 Dd (.lst [])) Hf1:=by
   have:=ai5 st1 A.s
   refine⟨rfl,fun n bb e=>?_,fun n m d1 d2 aa e=>?_⟩
   ·cases n with
    | zero=>cases e
    | succ n=>cases n with
     | zero=>cases e;exact⟨.ref a,by show some (σ[i]?).join=_;rw[this];rfl,rfl⟩
     | succ n=>cases e
   ·cases n with
    | zero=>cases e
    | succ n=>cases n with
     | zero=>cases e
     | succ n=>cases e
  have q0:as.zip (q.set j o)=as.zip q:=by rw[T5 ea];exact bd8 A.o
  refine⟨fun i m ys σ' H'=>m=ks.length - i/\i<=ks.length/\∃Hf' z o1 o2 u,OSt X.K C b (sub as ρ++[some (.own o1)]) (as.zip (q.set j u)) (σ++[some (.ref Dd)]) H' Hf'/\B8 Hf1 Hf'/\H' Dd=some (.lst ys)/\Slots X.K hpX [z,some (.opq a)] σ' H' Hf'/\o1.length=i/\cpT gU u (ks.drop i)=some (o2,oe)/\o1++o2=l,
   ⟨ks.length,by simp,Nat.zero_le _,Hf1,none,[],l,o,by rw[q0];exact st1.push hD,B8.refl _,B5,c0,rfl,by simpa using w4,rfl⟩,?_⟩
  rintro n m ys σ' H' ⟨rfl,hi,Hf',z,o1,o2,u,st',sm,hd,sl',ho,ec,eo⟩
  obtain⟨Ys,Yg⟩:=Y n H' Hf' sm st'.same
  have own:(sub as ρ++[some (B.own o1)])[(sub as ρ).length]? = some (some (.own o1)):=by rw[List.getElem?_append_right (Nat.le_refl _),Nat.sub_self];rfl
  have hsl:(sub as ρ).length=σ.length:=st1.sl.len
  rcases Nat.lt_or_ge n ks.length with hlt|hge
  ·right
   obtain⟨go,yl⟩:=Yg ks[n] (by simp[hlt])
   rw[List.drop_eq_getElem_cons hlt]at ec
   obtain⟨⟨y,qy⟩,c1,ec⟩:=Option.bind_eq_some_iff.mp ec
   dsimp only at ec
   split at ec
   ·rename_i u'
    obtain⟨⟨o3,oe'⟩,c2,c3⟩:=Option.map_eq_some_iff.mp ec
    cases c3
    refine⟨go,fun x H2 hy=>?_⟩
    obtain⟨Hf2,g2,r2⟩:=yl x H2 hy
    refine⟨ks[n],_,_,hpX,Hf2,rfl,g2.sub,sl'.grow g2,r2,fun σ3 sl3=>⟨_,true,rfl,hpX,Hf2,g2.sub,sl3,fun H4 Hf4 g4=>u6 ?_⟩⟩
    have st4:=(st'.grow g2).grow g4
    have hd4:H4 Dd=some (.lst ys):=g4.big _ _ (g2.big _ _ hd)
    obtain⟨c,f1,f3⟩:=st4.focus rfl (zq u)
    refine⟨ks[n],u,y,u',Hf4,c,c1,st4.same,sl3.grow g4,f1,fun v H5 Hf5 c' ch fo n5 r5=>?_⟩
    have st5:=f3 ch fo n5
    rw[zz]at st5
    obtain⟨p5,vs5,g1,g2',g3,g6⟩:=st5.app own
    have ep:p5=Dd:=by
     rw[hsl,List.getElem?_append_right (Nat.le_refl _),Nat.sub_self]at g1
     cases g1;rfl
    subst ep
    have eys:vs5=ys:=by
     obtain⟨p4,vs4,k1,k2,k3,_⟩:=st4.app own
     rw[hsl,List.getElem?_append_right (Nat.le_refl _),Nat.sub_self]at k1
     cases k1
     have nc:p5∉cells a c:=fun zz=>by
      obtain⟨R,r1,r2,r3⟩:=st4.ob
      obtain⟨c9,f9,f8,_⟩:=r1.focus (zq u)
      cases FoAt.same f9 f1
      obtain⟨v9,v1,p9,us9,rfl,_,_,v4,_⟩:=r3.is _ _ own
      rw[hsl,List.getElem?_append_right (Nat.le_refl _),Nat.sub_self]at v1
      cases v1
      exact(S5 v4).1 (f8 _ zz)
     have:=ch.big _ _ nc hd4
     rw[g2']at this;cases this;rfl
    subst eys
    refine⟨g2',by rw[g3.length,ho,sizeLine_eq];omega,ks.length - (n+1),by omega,rfl,hlt,Hf5,some (.val ks[n]),o1++[y],o3,u',?_,?_,B5,?_,by simp[ho],c2,by rw[← eo];simp⟩
    ·have:=g6 v y r5
     rw[List.set_append_right _ _ (Nat.le_refl _),Nat.sub_self]at this
     exact this
    ·exact sm.trans (g2.ext.trans (g4.ext.trans ch.ext))
    ·have s5:=(sl3.grow g4).chg (S:=cells a c) ch (fun _ _ h=>nomatch h) (H0':=hpX) fun _ h _=>nomatch h
     exact s5.chg (S:=[p5]) (Chg.wr st5.same (by simp) (by
      obtain⟨R,r1,r2,r3⟩:=st5.ob
      obtain⟨v9,v1,p9,us9,rfl,_,v3,_⟩:=r3.is _ _ own
      rw[hsl,List.getElem?_append_right (Nat.le_refl _),Nat.sub_self]at v1
      cases v1
      exact v3)) (fun _ _ h=>nomatch h) fun _ h _=>nomatch h
   ·cases ec
  ·left
   have:n=ks.length:=by omega
   subst this
   rw[List.drop_length]at ec
   cases ec
   rw[List.append_nil]at eo
   subst eo
   refine⟨Ys (Nat.le_refl _),?_⟩
   obtain⟨Hf6,e6,s6⟩:=st'.frz (sub as ρ).length
   have fz:frz (sub as ρ).length (sub as ρ++[some (.own o1)])=sub as ρ++[‹.list o1›]:=by
    unfold frz
    rw[own]
    dsimp only
    rw[List.set_append_right _ _ (Nat.le_refl _),Nat.sub_self];rfl
   rw[fz]at s6
   obtain⟨v6,v61,v62⟩:=s6.sl.is (sub as ρ).length (.val (.list o1)) (by rw[List.getElem?_append_right (Nat.le_refl _),Nat.sub_self];rfl)
   rw[hsl,List.getElem?_append_right (Nat.le_refl _),Nat.sub_self]at v61
   cases v61
   exact am1 kk (by rw[List.length_set];exact len) _ H' Hf6 (by rw[au3];exact s6.pop.set v62) (gr1.ext.trans (sm.trans e6))
 ·cases w
end
end G
namespace G
open PySem PySem.Spec PyProof.Rows L2
abbrev bE1:=List (Str×DF×Nat)
def KM(K:PySem.W.Frag) (C:Addr) (m qual:Str) (st:Stmt):Prop:=∃(f:Addr) (oc:Value) (od:Option Addr) (sl:Array (Option Value)) (kV dc pm:Value) (an:Option Addr) (cd ct:Value),
 PySem.W.findIn K (.ref C) m=some (some (.ref f))/\PySem.W.isFn K (.ref f)=true/\K.lookup f=some ⟨oc,od,.func (PySem.W.fnOf m qual (L6 st) (E8 st) (B9 st) .none kV dc pm an cd ct),sl⟩/\PySem.W.codeIn K cd qual=true/\PySem.W.keepIn K (.ref f)=true
structure FitO (S:Sg) (ms:bE1) (C:Addr) (fn:List Str) (c:Kx) (X:Cx):Prop where
 fit:Fit S c X
 foc:FoC X.K C fn
 mts:∀m F n,ms.lookup m=some (F,n)->aF6 X C m n F
section
variable {P:Program}{w:World}{K:PySem.W.Frag}{mg:Str->Option Value}{base:Heap}{cs:List (Str×D)}{bl:List Str}{C:Addr}{ms:bE1}
def MOk(P:Program) (w:World) (K:PySem.W.Frag) (mg:Str->Option Value) (base:Heap) (C:Addr) (k:Nat) (ms:bE1):Prop:=∀m F n,ms.lookup m=some (F,n)->∃(f:Addr) (fd:FuncData) (ps:List Str),
 FnOk P w K mg base CX0 k f fd ps (spD K C (n+1) F)/\Meth K C m f/\F9 K fd ps []
theorem MOk.nil:MOk P w K mg base C 0 []:=fun x F n h=>by cases h
theorem MOk.mono(T:MOk P w K mg base C j ms) (h:j<=k):MOk P w K mg base C k ms:=fun x F n e=>by
 obtain⟨f,fd,ps,h1,h2⟩:=T x F n e
 exact⟨f,fd,ps,h1.mono h,h2⟩
theorem MOk.cons(T:MOk P w K mg base C k ms) (h:∃(f:Addr) (fd:FuncData) (ps:List Str),FnOk P w K mg base CX0 k f fd ps (spD K C (n+1) F)/\Meth K C m f/\F9 K fd ps []):MOk P w K mg base C k ((m,F,n)::ms):=fun y G j e=>by
 rw[List.lookup_cons]at e
 split at e
 ·rename_i q
  cases e
  simp only[beq_iff_eq]at q
  subst q
  exact h
 ·exact T y G j e
def BdM(d:Fd) (qual:Str):Prop:=∀(kV doc pm:Value) (an:Option Addr) (cdv ct:Value),UA d.ps.length fun us=>bindArgs (PySem.W.fnOf d.x qual (L6 d.st) (E8 d.st) (B9 d.st) .none kV doc pm an cdv ct) ⟨us,[]⟩=pure (d.ps.zip us)
end
end G
namespace G
open PySem PySem.Spec PyProof.Rows L2
def aL1:Expr->Option (Expr×List Expr×List Keyword×Pos)
 | .Call f a k p=>some (f,a,k,p)
 | _=>none
def bD7:Expr->Option (Expr×Str×Pos)
 | .Attribute o m p=>some (o,m,p)
 | _=>none
def bD1:Expr->Option (Expr×CmpOp×Expr×Pos)
 | .Compare l [op] [r] p=>some (l,op,r,p)
 | _=>none
def cb0:Expr->Option (BoolOp×List Expr×Pos)
 | .BoolOp op l p=>some (op,l,p)
 | _=>none
def bR1:Expr->Option (Expr×Pos)
 | .UnaryOp .Not e p=>some (e,p)
 | _=>none
def cd8:Expr->Option (List Expr×Nat×Pos)
 | .Tuple es k p=>some (es,k,p)
 | _=>none
theorem bt1(h:cd8 e=some t):e=.Tuple t.1 t.2.1 t.2.2:=by cases e<;>first|(cases h;rfl)|cases h
theorem aS8(h:cb0 e=some t):e=.BoolOp t.1 t.2.1 t.2.2:=by cases e<;>first|(cases h;rfl)|cases h
theorem bx7(h:bR1 e=some t):e=.UnaryOp .Not t.1 t.2:=by
 unfold bR1 at h
 split at h
 ·cases h;rfl
 ·cases h
theorem j3(h:aL1 e=some t):e=.Call t.1 t.2.1 t.2.2.1 t.2.2.2:=by cases e<;>first|(cases h;rfl)|cases h
theorem ay8(h:bD7 e=some t):e=.Attribute t.1 t.2.1 t.2.2:=by cases e<;>first|(cases h;rfl)|cases h
theorem aS4(h:bD1 e=some t):e=.Compare t.1 [t.2.1] [t.2.2.1] t.2.2.2:=by
 unfold bD1 at h
 split at h
 ·cases h;rfl
 ·cases h
structure Mc where
 x:Str
 p:Pos
 m:Str
 ap:Pos
 a:List Expr
 cp:Pos
def mcV(e:Expr):Option Mc:=(aL1 e).bind fun t=>match t.2.2.1 with
 | []=>(bD7 t.1).bind fun u=>(nmP u.1).map fun v=>⟨v.1,v.2,u.2.1,u.2.2,t.2.1,t.2.2.2⟩
 | _=>none
theorem bi6(h:mcV e=some t):e=.Call (.Attribute (.Name t.x t.p) t.m t.ap) t.a [] t.cp:=by
 obtain⟨⟨f,a,k,p⟩,h1,h⟩:=Option.bind_eq_some_iff.mp h
 cases k with
 | cons=>cases h
 | nil =>
  obtain⟨⟨o,m,ap⟩,h2,h⟩:=Option.bind_eq_some_iff.mp h
  obtain⟨⟨x,q⟩,h3,h⟩:=Option.map_eq_some_iff.mp h
  subst h
  rw[j3 h1,ay8 h2,O1 h3]
def uNo:UD:=fun _ _=>none
def uXo:UX:=fun _ _=>none
def opU:CmpOp->Option (D->D->Option D)
 | .Eq=>some eqD
 | .NotEq=>some neD
 | .Is=>some isB
 | .IsNot=>some aV2
 | _=>none
def cf5:Expr->Option (Expr×Expr×Pos)
 | .Subscript a i p=>some (a,i,p)
 | _=>none
theorem bt6(h:cf5 e=some t):e=.Subscript t.1 t.2.1 t.2.2:=by cases e<;>first|(cases h;rfl)|cases h
section
variable (S:Sg) (c:Kx)
def pE(e:Expr):DE:=(ev S 99).e c e
def aV8(f:Expr->DE):Nat->List Expr->Rho->Option MD
 | _,[]=>mN
 | 0,_::es=>mO (aV8 f es.length es)
 | j+1,e::es=>mC (f e) (aV8 f j es)
def ulE(f:Expr->UD):List Expr->UL
 | []=>ulN
 | e::es=>ulC (f e) (ulE f es)
def oCc(r:Expr->UD) (t:Expr×CmpOp×Expr×Pos):UD:=match opU t.2.1 with
 | some h=>if behindInMarks t.2.1 t.2.2.1 then uNo else uB2 h (r t.1) (r t.2.2.1)
 | none=>uNo
end
section
variable {X:Cx}{C:Addr}
theorem bZ8{args:List Expr}{pos:Pos}(h:args.all pl=true) (n:args.length < 20):methodCallForm (args.length+([]:List Keyword).length) (backTo pos (starEach args X.env)) (backToKw pos (keywordEach [] X.env))=true:=by
 unfold methodCallForm
 have h1:(backTo pos (starEach args X.env)).all (!·.1)=true:=by
  have:=(Q0 pos (starEach args X.env)).trans (K2 pos X.env h)
  rw[List.all_eq_not_any_not]
  simpa using this
 rw[h1]
 show(true&&true&&decide _)=true
 simp
 show args.length+0+0 < 30
 omega
theorem bc0:UE X C e uNo:=fun _ _ _ _ h _=>nomatch h
theorem aQ6{f:Expr->DE}(h:∀e,JE X e (f e)):∀(es:List Expr) (j:Nat),es.length<=j->es.all pl=true->JM X i es (aV8 f j es)
 | [],_,_,_=>by unfold aV8;exact bX0
 | e::es,0,l,_=>by simp at l
 | e::es,j+1,l,p=>by
  simp only[List.all_cons,Bool.and_eq_true]at p
  exact aQ7 (h e) (aQ6 h es j (by simpa using l) p.2) (E3 p.1 _ _)
theorem bk8{f:Expr->DE}(h:∀e,JE X e (f e)) (hn:X.N[i]? = some x) (hv:Vis X.env.scope x) (h1:(x==("__debug__" : Str))=false) (h2:(x==("__classdict__" : Str))=false):∀(j:Nat) (es:List Expr),es[j]? = some (.Name x p)->es.all pl=true->JM X i es (aV8 f j es)
 | _,[],e,_=>by simp at e
 | 0,e::es,q,p=>by
  simp at q
  subst q
  simp only[List.all_cons,Bool.and_eq_true]at p
  exact bW9 (aQ6 h es _ (Nat.le_refl _) p.2) hn hv h1 h2 (E3 p.1 _ _)
 | j+1,e::es,q,p=>by
  simp only[List.all_cons,Bool.and_eq_true]at p
  exact aQ7 (h e) (bk8 h hn hv h1 h2 j es (by simpa using q) p.2) (E3 p.1 _ _)
theorem au0{f:Expr->UD}(h:∀e,UE X C e (f e)):∀es:List Expr,es.all pl=true->UAs X C es (ulE f es)
 | [],_=>bL5
 | e::es,p=>by
  simp only[List.all_cons,Bool.and_eq_true]at p
  exact bs2 (h e) (au0 h es p.2) (E3 p.1 _ _)
end
def oB(f:Stmt->UX):List Stmt->UX
 | []=>aG5
 | [s]=>f s
 | s::t::r=>K0 (f s) (oB f (t::r))
section
variable {X:Cx}{C:Addr}{S:Sg}{c:Kx}
theorem n4{st:Stmt}:US X C st uXo:=fun _ _ _ h=>nomatch h
theorem aF0:Cm gNo:=fun _ _ _ _ h=>nomatch h
theorem bp8{f:Expr->DG}(h:∀e,Cm (f e)):∀es:List Expr,Cms (bC6 f es)
 | []=>bD0
 | e::es=>bp9 (h e) (bp8 h es)
theorem bI1(S:Sg):∀n c ex,Cm ((ev S n).g c ex)
 | 0,c,ex=>aF0
 | n+1,c,ex=>by
  show Cm (xG (ev S n) c ex)
  unfold xG
  split
  ·split
   ·split
    ·exact ca9 _
    ·exact aF0
   ·exact aF0
  ·split
   ·exact ca8 (bp8 (fun e=>bI1 S n c e) _)
   ·exact aF0
  ·exact aF0
theorem aP5{f:Stmt->UX}(h:∀st,US X C st (f st)):∀sts,USs X C sts (oB f sts)
 | []=>br8
 | [s]=>br7 (h s)
 | s::t::r=>bb6 (h s) (aP5 h (t::r))
end
end G
namespace G
open PySem PySem.Spec PyProof.Rows L2
structure Og4 where
 ms:bE1
 cl:Str
 ini:Option (DF×Nat)
 df:List (Str×DF×Nat×Nat)
 fn:List Str
structure FitY (S:Sg) (O:Og4) (C:Addr) (c:Kx) (X:Cx):Prop where
 o:FitO S O.ms C O.fn c X
 make:∀F n,O.ini=some (F,n)->cm8 X C O.cl n F
 df:∀x F n j,O.df.lookup x=some (F,n,j)->cn0 X C x F n
theorem FitY.inner{tn:List Str}{caps:List Nat}{scope:Scope}{C0:Addr}{s0:Shared}{H0:Hp}{ex:List Addr}{O:Og4}(F:FitY S O C c X) (hn:(G.inner c tn caps scope).N.Nodup):FitY S O C (G.inner c tn caps scope) (D0 X (G.inner c tn caps scope).N scope C0 s0 H0 ex) :=
 ⟨⟨F.o.fit.inner hn,F.o.foc,F.o.mts⟩,F.make,F.df⟩
def cm2:Expr->Option (Expr×Operator×Expr×Pos)
 | .BinOp a o b p=>some (a,o,b,p)
 | _=>none
theorem bD4(h:cm2 e=some t):e=.BinOp t.1 t.2.1 t.2.2.1 t.2.2.2:=by cases e<;>first|(cases h;rfl)|cases h
def ck5:Operator->Bool
 | .Add=>true
 | _=>false
section
variable (S:Sg) (O:Og4) (c:Kx)
def kMb(t:Mc) (n:Nat):Bool:=ah3 c.sc t.x&&(t.ap.endLine==t.cp.line)&&t.a.all pl&&t.a.length==n&&decide (n < 20)
def kM(e:Expr):Option UD:=(mcV e).bind fun t=>(S4 t.x c.N).bind fun i=>(O.ms.lookup t.m).bind fun F=>if kMb c t F.2 then some (match t.a with|[]=>uM0 i t.m F.1|_=>uM i t.m F.1 (evA (pE S c) t.a)) else none
def kDa(y:Str) (a:List Expr):Option UD:=(O.df.lookup y).bind fun F=>(a[F.2.2]?).bind fun ej=>(nmP ej).bind fun v=>(S4 v.1 c.N).bind fun i =>
 if aD1 c.sc y&&ah3 c.sc v.1&&a.all pl&&(a.length==F.2.1&&decide (F.2.2 < a.length)) then some (uD i F.1 (aV8 (pE S c) F.2.2 a)) else none
def kDf(e:Expr):Option UD:=(aL1 e).bind fun t=>match t.2.2.1 with
 | []=>(nmP t.1).bind fun y=>kDa S O c y.1 t.2.1
 | _=>none
def kFl(e:Expr):Option UD:=(bD7 e).bind fun u=>(nmP u.1).bind fun v=>(S4 v.1 c.N).bind fun i=>if ah3 c.sc v.1&&O.fn.contains u.2.1 then some (au2 i u.2.1) else none
def kO(r:Expr->Option UD) (e:Expr):UD:=(r e).getD (uP (pE S c e))
def kCl(r:Expr->Option UD) (e:Expr):Option UD:=(aL1 e).bind fun t=>match t.2.1,t.2.2.1 with
 | a::as,[]=>(nmP t.1).bind fun y=>(S.fn.lookup y.1).bind fun F=>if(a::as).any (fun x=>(r x).isSome)&&aD1 c.sc y.1&&(a::as).length==F.2&&(a::as).all pl then some (N7 F.1 (ulE (kO S c r) (a::as))) else none
 | _,_=>none
def kLn(r:Expr->Option UD) (e:Expr):Option UD:=(aL1 e).bind fun t=>match t.2.1,t.2.2.1 with
 | [a],[]=>(nmP t.1).bind fun y=>(r a).bind fun g=>if biB S c "len" y.1&&pl a then some (bc3 g) else none
 | _,_=>none
def kX1(r:Expr->Option UD) (e:Expr):Option UD:=match bD1 e with
 | some t=>if(r t.1).isSome || (r t.2.2.1).isSome then some (oCc (kO S c r) t) else none
 | none=>(match cd8 e with
  | some t=>if t.1.any (fun x=>(r x).isSome)&&t.1.all pl&&decide (t.1.length<=1000) then some (an9 (ulE (kO S c r) t.1)) else none
  | none=>(match cf5 e with
   | some t=>if pl t.2.1 then(r t.1).map fun g=>bc4 g (kO S c r t.2.1) else none
   | none=>(match cm2 e with
    | some t=>if((r t.1).isSome || (r t.2.2.1).isSome)&&ck5 t.2.1 then some (uB2 A9 (kO S c r t.1) (kO S c r t.2.2.1)) else none
    | none=>(match kCl S c r e with
     | some g=>some g
     | none=>kLn S c r e))))
def kX:Nat->Expr->Option UD
 | 0,_=>none
 | n+1,e=>match kM S O c e with
  | some g=>some g
  | none=>(match kDf S O c e with
   | some g=>some g
   | none=>(match kFl O c e with
    | some g=>some g
    | none=>kX1 S c (kX n) e))
def kE(e:Expr):UD:=kO S c (kX S O c 5) e
def kAn:List Expr->UD
 | []=>uNo
 | [e]=>kE S O c e
 | e::es=>bE8 (kE S O c e) (kAn es)
def kV(e:Expr):UD:=match cb0 e with
 | some t=>(match t.1 with
  | .And=>if t.2.1.any (fun x=>(kX S O c 5 x).isSome) then kAn S O c t.2.1 else uP (pE S c e)
  | .Or=>uP (pE S c e))
 | none=>kE S O c e
def kT0(e:Expr):Option UB:=match bD1 e with
 | some t=>if(kX S O c 4 t.1).isSome || (kX S O c 4 t.2.2.1).isSome then some (uTB (oCc (kO S c (kX S O c 4)) t)) else none
 | none=>if(aL1 e).isSome then(kX S O c 5 e).map uTB else none
def kTq(e:Expr):Option UB:=match bR1 e with
 | some t=>(kT0 S O c t.1).map aT7
 | none=>kT0 S O c e
def kT1(e:Expr):UB:=(kTq S O c e).getD (uTP ((ev S 99).t c e))
def kTc(op:BoolOp):List Expr->UB
 | []=>fun _ _=>none
 | [e]=>kT1 S O c e
 | e::es=>match op with
  | .And=>aT8 (kT1 S O c e) (kTc op es)
  | .Or=>uOr (kT1 S O c e) (kTc op es)
def kT(e:Expr):UB:=match cb0 e with
 | some t=>if t.2.1.any (fun x=>(kTq S O c x).isSome) then kTc S O c t.1 t.2.1 else uTP ((ev S 99).t c e)
 | none=>kT1 S O c e
def kN(v:Expr):Option (Rho->Option Fo):=(aL1 v).bind fun t=>match t.2.1,t.2.2.1 with
 | a::as,[]=>(nmP t.1).bind fun x=>O.ini.bind fun F=>if x.1==O.cl&&aD1 c.sc x.1&&(a::as).length==F.2&&(a::as).all pl then some (bx4 F.1 (evA (pE S c) (a::as))) else none
 | _,_=>none
def ci6:Expr->Option (List Expr×Pos)
 | .List es p=>some (es,p)
 | _=>none
def kL(i:Nat) (v:Expr):Option UX:=(ci6 v).bind fun t=>if c.own.contains i&&t.1.all pl&&decide (t.1.length<=1000) then some (bM2 i (ulE (kE S O c) t.1)) else none
def lcE:Expr->Option (Expr×Expr×Expr×Scope×Pos)
 | .ListComp elt [⟨tgt,iter,[],0⟩] sc p=>some (elt,tgt,iter,sc,p)
 | _=>none
def cpB(x:Str) (p' pv:Pos) (tg it:Expr) (sc:Scope) (w:Str) (i:Nat) (c c':Kx):Bool:=ab8 c.N c'.N 1 [i] c.sc sc&&t8 c'.N&&pl it&&(c.sc.names.lookup x==some .local)&&(c.df&&p'.line==pv.line && !(sc.names.any fun(n,k)=>n==x&&(k == .local || k == .cell)))&&ah3 c.sc w&&(c.N[i]? == some w)
 && (match nmP tg with|some y=>aI5 c' y.1&&S4 y.1 c'.N==some 0|none=>false)
def kCm(x:Str) (p':Pos) (n:Nat) (v:Expr):Option UX:=(lcE v).bind fun t=>match (c.hc.lookup (t.2.2.2.2.line,t.2.2.2.2.col)).getD [] with
 | [i]=>(kX S O (inner c (L1 t.2.1) [i] t.2.2.2.1) 5 t.1).bind fun g=>if(L1 t.2.1).length==1&&cpB x p' t.2.2.2.2 t.2.1 t.2.2.1 t.2.2.2.1 ((c.N[i]?).getD "") i c (inner c (L1 t.2.1) [i] t.2.2.2.1) then some (bs7 n i (evI S (ev S 98) c t.2.1 t.2.2.1) g) else none
 | _=>none
def bU7(x:Str) (p':Pos) (v:Expr):UX:=match S4 x c.N with
 | some i=>if aI5 c x && !(isC v) then(match kN S O c v with
  | some g=>bs6 i g
  | none=>(match kL S O c i v with
   | some g=>g
   | none=>T4 i (kV S O c v))) else(kCm S O c x p' i v).getD uXo
 | none=>uXo
def cj5(u:Expr×Str×Pos) (v:Expr):Option UX:=(nmP u.1).bind fun w=>(S4 w.1 c.N).bind fun i=>if ah3 c.sc w.1&&O.fn.contains u.2.1 && !(isC v) then some (y8 i u.2.1 (kE S O c v)) else none
def kAp(e:Expr):Option UX:=(mcV e).bind fun t=>(S4 t.x c.N).bind fun i=>match t.a with
 | [a]=>if t.m == "append" && c.own.contains i&&ah3 c.sc t.x&&(t.ap.endLine==t.cp.line)&&pl a then some (aA0 i (kE S O c a)) else none
 | _=>none
def kAs(v:Expr):List Expr->UX
 | [tg]=>(match nmP tg with
  | some t=>bU7 S O c t.1 t.2 v
  | none=>(match bD7 tg with
   | some u=>(cj5 S O c u v).getD uXo
   | none=>uXo))
 | _=>uXo
def kFo(tg it:Expr) (f:UX):List Stmt->UX
 | []=>if pl it then cd4 (evI S (ev S 98) c tg it) ((ev S 98).g c tg) f else uXo
 | _=>uXo
def kSt:Nat->Stmt->UX
 | 0,_=>uXo
 | n+1,st=>match st with
  | .Return (some e) _=>r9 (kV S O c e)
  | .If t a b _=>uIf (kT S O c t) (oB (kSt n) a) (oB (kSt n) b)
  | .For tg it a o _=>kFo S c tg it (oB (kSt n) a) o
  | .Assign ts v _=>kAs S O c v ts
  | .Expr e _=>if isC e then uXo else(kAp S O c e).getD (uEx (kE S O c e))
  | .While t a [] _=>aG4 (kT S O c t) (oB (kSt n) a)
  | _=>uXo
end
section
variable {X:Cx}{S:Sg}{O:Og4}{C:Addr}{c:Kx}
theorem aq9(F:FitY S O C c X) (e:Expr):JE X e (pE S c e):=(ag6 S 99).e F.o.fit e
theorem cj4(F:FitY S O C c X) (h:kM S O c e=some g):UE X C e g:=by
 obtain⟨t,h1,h0⟩:=Option.bind_eq_some_iff.mp h
 clear h
 rw[bi6 h1]
 obtain⟨i,h2,h⟩:=Option.bind_eq_some_iff.mp h0
 obtain⟨⟨Fm,n⟩,h3,h⟩:=Option.bind_eq_some_iff.mp h
 split at h
 ·rename_i hb
  unfold kMb at hb
  simp only[Bool.and_eq_true,beq_iff_eq,decide_eq_true_eq]at hb
  obtain⟨⟨⟨⟨b1,b3⟩,b4⟩,b5⟩,b6⟩:=hb
  obtain⟨v1,v2,v3⟩:=P1 F.o.fit b1
  have M:=F.o.mts _ _ _ h3
  cases h
  obtain⟨x,p,m,ap,a,cp⟩:=t
  cases a with
  | nil =>
   cases b5
   exact bc1 i M F.o.foc (F.o.fit.slot h2) v1 v2 v3 (by simpa using b3)
  | cons e es =>
   have b4':=b4
   simp only[List.all_cons,Bool.and_eq_true]at b4'
   exact bs3 i M F.o.foc (F.o.fit.slot h2) v1 v2 v3 (ag2 (aq9 F) (e::es)) (by simpa using b3) b5 (E3 b4'.1 _ _) ((Q0 cp _).trans (K2 cp _ b4'.2)) (bZ8 b4 (by rw[b5];exact b6))
 ·cases h
theorem bU2(F:FitY S O C c X) (h:kDf S O c e=some g):UE X C e g:=by
 obtain⟨⟨f,a,k,p⟩,h1,h0⟩:=Option.bind_eq_some_iff.mp h
 clear h
 rw[j3 h1]
 cases k with
 | cons=>cases h0
 | nil =>
  obtain⟨⟨y,py⟩,h2,h⟩:=Option.bind_eq_some_iff.mp h0
  rw[O1 h2]
  obtain⟨⟨Fn,n,j⟩,h3,h⟩:=Option.bind_eq_some_iff.mp h
  obtain⟨ej,h4,h⟩:=Option.bind_eq_some_iff.mp h
  obtain⟨⟨v,pv⟩,h5,h⟩:=Option.bind_eq_some_iff.mp h
  obtain⟨i,h6,h⟩:=Option.bind_eq_some_iff.mp h
  split at h
  ·rename_i hb
   cases h
   simp only[Bool.and_eq_true,beq_iff_eq,decide_eq_true_eq]at hb
   obtain⟨⟨⟨b1,b2⟩,b3⟩,b4,b5⟩:=hb
   obtain⟨g1,g2⟩:=i9 F.o.fit b1
   obtain⟨v1,v2,v3⟩:=P1 F.o.fit b2
   have hj:a[j]? = some (.Name v pv):=by rw[O1 h5]at h4;exact h4
   have J:=bk8 (aq9 F) (F.o.fit.slot h6) v1 v2 v3 j a hj b3
   cases a with
   | nil=>simp at hj
   | cons e es =>
    have b3':=b3
    simp only[List.all_cons,Bool.and_eq_true]at b3'
    exact cd3 i (F.df _ _ _ _ h3) g1 g2 (F.o.fit.slot h6) v1 v2 v3 J b4 (E3 b3'.1 _ _) ((Q0 p _).trans (K2 p _ b3'.2))
  ·cases h
theorem bU1(F:FitY S O C c X) (h:kFl O c e=some g):UE X C e g:=by
 obtain⟨⟨e0,f,p⟩,h1,h0⟩:=Option.bind_eq_some_iff.mp h
 clear h
 rw[ay8 h1]
 obtain⟨⟨x,px⟩,h2,h⟩:=Option.bind_eq_some_iff.mp h0
 rw[O1 h2]
 obtain⟨i,h3,h⟩:=Option.bind_eq_some_iff.mp h
 split at h
 ·rename_i hb
  cases h
  simp only[Bool.and_eq_true]at hb
  obtain⟨v1,v2,v3⟩:=P1 F.o.fit hb.1
  exact bL9 i F.o.foc (List.contains_iff_mem.mp hb.2) (F.o.fit.slot h3) v1 v2 v3 rfl
 ·cases h
theorem ab1(F:FitY S O C c X) {r:Expr->Option UD}(R:∀e g,r e=some g->UE X C e g) (e:Expr):UE X C e (kO S c r e):=by
 unfold kO
 cases h:r e with
 | none=>exact au1 (aq9 F e)
 | some g=>exact R e g h
theorem bj6(F:FitY S O C c X) (h:opU op=some k):OpD X (compareOp op) k:=by
 cases op<;>cases h
 ·exact bG6 F.o.fit.units
 ·exact bG4 F.o.fit.units
 ·exact bG5
 ·exact aB5
theorem bU5(F:FitY S O C c X) {r:Expr->UD}(R:∀e,UE X C e (r e)) (t:Expr×CmpOp×Expr×Pos):UE X C (.Compare t.1 [t.2.1] [t.2.2.1] t.2.2.2) (oCc r t):=by
 unfold oCc
 split
 ·rename_i k hk
  split
  ·exact bc0
  ·rename_i hm
   exact bM0 (bj6 F hk) (R _) (R _) (by simpa using hm)
 ·exact bc0
theorem bU4(F:FitY S O C c X) {r:Expr->Option UD}(R:∀e g,r e=some g->UE X C e g) (h:kCl S c r e=some g):UE X C e g:=by
 obtain⟨⟨f,a,k,p⟩,h1,h0⟩:=Option.bind_eq_some_iff.mp h
 clear h
 rw[j3 h1]
 dsimp only at h0 ⊢
 split at h0
 ·obtain⟨⟨y,py⟩,h2,h⟩:=Option.bind_eq_some_iff.mp h0
  rw[O1 h2]
  obtain⟨⟨Fn,n⟩,h3,h⟩:=Option.bind_eq_some_iff.mp h
  split at h
  ·rename_i a as hb
   cases h
   simp only[Bool.and_eq_true,beq_iff_eq]at hb
   obtain⟨⟨⟨_,b1⟩,b2⟩,b3⟩:=hb
   obtain⟨g1,g2⟩:=i9 F.o.fit b1
   have b3':=b3
   simp only[List.all_cons,Bool.and_eq_true]at b3'
   exact bc2 (F.o.fit.fns _ _ _ h3) F.o.fit.units g1 g2 (au0 (ab1 F R) _ b3) b2 (E3 b3'.1 _ _) ((Q0 p _).trans (K2 p _ b3'.2))
  ·cases h
 ·cases h0
theorem bU0(F:FitY S O C c X) {r:Expr->Option UD}(R:∀e g,r e=some g->UE X C e g) (h:kLn S c r e=some g):UE X C e g:=by
 obtain⟨⟨f,a,k,p⟩,h1,h0⟩:=Option.bind_eq_some_iff.mp h
 clear h
 rw[j3 h1]
 dsimp only at h0 ⊢
 split at h0
 ·obtain⟨⟨y,py⟩,h2,h⟩:=Option.bind_eq_some_iff.mp h0
  obtain⟨g1,h3,h⟩:=Option.bind_eq_some_iff.mp h
  split at h
  ·rename_i hb
   cases h
   simp only[Bool.and_eq_true]at hb
   obtain⟨k0,k1,k2⟩:=Q6 F.o.fit hb.1
   rw[O1 h2]
   dsimp only at k0 ⊢
   rw[k0]
   exact bs4 k1 k2 (R _ _ h3) (E3 hb.2 [] _)
  ·cases h
 ·cases h0
theorem bT9(F:FitY S O C c X) {r:Expr->Option UD}(R:∀e g,r e=some g->UE X C e g) (h:kX1 S c r e=some g):UE X C e g:=by
 unfold kX1 at h
 split at h
 ·rename_i t ht
  rw[aS4 ht]
  split at h
  ·cases h
   exact bU5 F (ab1 F R) t
  ·cases h
 ·split at h
  ·rename_i t ht
   rw[bt1 ht]
   split at h
   ·rename_i hb
    cases h
    simp only[Bool.and_eq_true,decide_eq_true_eq]at hb
    exact bL6 (au0 (ab1 F R) _ hb.1.2) hb.2
   ·cases h
  ·split at h
   ·rename_i t ht
    split at h
    ·rename_i hp
     obtain⟨g1,h2,h3⟩:=Option.map_eq_some_iff.mp h
     subst h3
     rw[bt6 ht]
     exact bL8 (R _ _ h2) (ab1 F R _) (bf8 hp)
    ·cases h
   ·split at h
    ·rename_i t ht
     split at h
     ·rename_i hb
      cases h
      simp only[Bool.and_eq_true]at hb
      obtain⟨a,op,b,p⟩:=t
      rw[bD4 ht]
      have:op=.Add:=by cases op<;>first|rfl|cases hb.2
      subst this
      exact bM1 aP4 (ab1 F R _) (ab1 F R _)
     ·cases h
    ·split at h
     ·rename_i g1 h1
      cases h
      exact bU4 F R h1
     ·exact bU0 F R h
theorem ar4(F:FitY S O C c X):∀n e g,kX S O c n e=some g->UE X C e g
 | 0,e,g,h=>by cases h
 | n+1,e,g,h=>by
  unfold kX at h
  split at h
  ·rename_i g1 h1
   cases h
   exact cj4 F h1
  ·split at h
   ·rename_i g1 h1
    cases h
    exact bU2 F h1
   ·split at h
    ·rename_i g1 h1
     cases h
     exact bU1 F h1
    ·exact bT9 F (ar4 F n) h
theorem al8(F:FitY S O C c X) (e:Expr):UE X C e (kE S O c e):=ab1 F (ar4 F 5) e
theorem bj8(F:FitY S O C c X):∀es:List Expr,UE X C (.BoolOp .And es pos) (kAn S O c es)
 | []=>bc0
 | [e]=>bL7 (al8 F e)
 | e::e'::es=>bs5 (al8 F e) (bj8 F (e'::es))
theorem bH0(F:FitY S O C c X) (e:Expr):UE X C e (kV S O c e):=by
 unfold kV
 split
 ·rename_i t ht
  have:=aS8 ht
  obtain⟨op,l,p⟩:=t
  subst this
  cases op
  ·dsimp only
   split
   ·exact bj8 F l
   ·exact au1 (aq9 F _)
  ·exact au1 (aq9 F _)
 ·exact al8 F e
theorem bj7(F:FitY S O C c X) (h:kT0 S O c e=some g):UT X C e g:=by
 unfold kT0 at h
 split at h
 ·rename_i t ht
  split at h
  ·cases h
   rw[aS4 ht]
   unfold oCc
   split
   ·rename_i k hk
    split
    ·exact fun _ _ _ _ h _=>nomatch h
    ·rename_i hm
     exact bK7 (bj6 F hk) (ab1 F (ar4 F 4) _) (ab1 F (ar4 F 4) _) (by simpa using hm)
   ·exact fun _ _ _ _ h _=>nomatch h
  ·cases h
 ·split at h
  ·rename_i hc
   obtain⟨g1,h1,h2⟩:=Option.map_eq_some_iff.mp h
   subst h2
   obtain⟨t,ht⟩:=Option.isSome_iff_exists.mp hc
   refine bK5 (ar4 F 5 e g1 h1) ?_
   rw[j3 ht]
   intro _;rfl
  ·cases h
theorem al7(F:FitY S O C c X) (e:Expr):UT X C e (kT1 S O c e):=by
 unfold kT1
 cases h:kTq S O c e with
 | none=>exact aM6 ((ag6 S 99).t F.o.fit e)
 | some g =>
  unfold kTq at h
  split at h
  ·rename_i t ht
   obtain⟨g1,h1,h2⟩:=Option.map_eq_some_iff.mp h
   subst h2
   rw[bx7 ht]
   exact bK6 (bj7 F h1)
  ·exact bj7 F h
theorem aI7(F:FitY S O C c X) (op:BoolOp):∀es:List Expr,UW X C op es (kTc S O c op es)
 | []=>fun _ _ _ _ h _=>nomatch h
 | [e]=>by
  cases op
  ·exact br6 (al7 F e)
  ·exact bK3 (al7 F e)
 | e::e'::es=>by
  cases op
  ·exact bK4 (al7 F e) (aI7 F .And (e'::es))
  ·exact cd1 (al7 F e) (aI7 F .Or (e'::es))
theorem bH1(F:FitY S O C c X) (e:Expr):UT X C e (kT S O c e):=by
 unfold kT
 split
 ·rename_i t ht
  split
  ·rw[aS8 ht]
   exact(aI7 F _ _).ut
  ·exact aM6 ((ag6 S 99).t F.o.fit e)
 ·exact al7 F e
theorem cj3(F:FitY S O C c X) (h:kN S O c v=some g):UN X C v g:=by
 obtain⟨⟨f,a,k,p⟩,h1,h0⟩:=Option.bind_eq_some_iff.mp h
 clear h
 rw[j3 h1]
 dsimp only at h0 ⊢
 split at h0
 ·obtain⟨⟨x,px⟩,h2,h⟩:=Option.bind_eq_some_iff.mp h0
  rw[O1 h2]
  obtain⟨⟨Fm,n⟩,h3,h⟩:=Option.bind_eq_some_iff.mp h
  split at h
  ·rename_i a as hb
   cases h
   simp only[Bool.and_eq_true,beq_iff_eq]at hb
   obtain⟨⟨⟨b0,b1⟩,b2⟩,b3⟩:=hb
   obtain⟨g1,g2⟩:=i9 F.o.fit b1
   have b3':=b3
   simp only[List.all_cons,Bool.and_eq_true]at b3'
   have M:=F.make _ _ h3
   rw[← b0]at M
   exact bs1 M g1 (ag2 (aq9 F) (_::_)) b2 g2 (E3 b3'.1 _ _) ((Q0 p _).trans (K2 p _ b3'.2))
  ·cases h
 ·cases h0
theorem by6(h:ci6 e=some t):e=.List t.1 t.2:=by cases e<;>first|(cases h;rfl)|cases h
theorem bT1(h:lcE e=some t):e=.ListComp t.1 [⟨t.2.1,t.2.2.1,[],0⟩] t.2.2.2.1 t.2.2.2.2:=by
 unfold lcE at h
 split at h
 ·cases h;rfl
 ·cases h
theorem bQ0{l:List Str}(h:(l.length==1)=true):l.length=1:=by simpa using h
theorem bU3(F:FitY S O C c X) (hi:S4 x c.N=some n) (h:kCm S O c x p' n v=some g):US X C (.Assign [.Name x p'] v p) g:=by
 obtain⟨⟨elt,tg,it,sc,pv⟩,h1,h0⟩:=Option.bind_eq_some_iff.mp h
 clear h
 rw[bT1 h1]
 dsimp only at h0 ⊢
 split at h0
 ·rename_i i _
  obtain⟨g1,h2,h⟩:=Option.bind_eq_some_iff.mp h0
  split at h
  ·rename_i hb
   cases h
   simp only[Bool.and_eq_true]at hb
   obtain⟨l1,hb⟩:=hb
   have l1:=bQ0 l1
   unfold cpB at hb
   simp only[Bool.and_eq_true]at hb
   obtain⟨⟨⟨⟨⟨⟨⟨c1,c2⟩,c3⟩,c4⟩,c5⟩,c6⟩,c7⟩,c8⟩:=hb
   have hn:=i7 c2
   have hl':X.env.scope.names.lookup x=some .local:=by rw[F.o.fit.sc];simpa using c4
   have hsw:swapsWith (.ListComp elt [⟨tg,it,[],0⟩] sc pv) (some (.Name x p')) p.line X.env=pure true:=by
    rw[ac9,aL2 F.o.fit c5.1.1,c5.1.2,c5.2]
    unfold Env.kindOf
    rw[hl'];rfl
   obtain⟨v1,v2,v3⟩:=P1 F.o.fit c6
   split at c8
   ·rename_i y hy
    simp only[Bool.and_eq_true]at c8
    obtain⟨d1,d2⟩:=c8
    refine bb8 n i (by rw[F.o.fit.N];exact F.o.fit.nd) (as1 c1 F.o.fit.N F.o.fit.sc) F.o.fit.hx (aQ8 (ag6 S 98) F.o.fit tg it) (fun C0 s0 H0 ex=>?_) (fun C0 s0 H0 ex=>ar4 (F.inner hn) 5 elt g1 h2) (by rw[F.o.fit.N];simpa using c7) v1 v2 v3 (F.o.fit.slot hi) hl' hsw F.o.fit.calm (ai7 c3 _)
    have Fi:=F.o.fit.inner (C:=C0) (s0:=s0) (H0:=H0) (ex:=ex) hn
    obtain⟨e1,e2⟩:=aj1 Fi d1
    have key:∀t,t=Expr.Name y.1 y.2->JG (D0 X (G.inner c (L1 tg) [i] sc).N sc C0 s0 H0 ex) t (C4 0):=fun t e=>by subst e;exact aQ9 0 hn (Fi.slot (by simpa using d2)) e1 e2
    exact key tg (O1 hy)
   ·cases c8
  ·cases h
 ·cases h0
theorem bz2(F:FitY S O C c X) (x:Str) (p':Pos) (v:Expr) (p:Pos):US X C (.Assign [.Name x p'] v p) (bU7 S O c x p' v):=by
 have nd:X.N.Nodup:=by rw[F.o.fit.N];exact F.o.fit.nd
 unfold bU7
 split
 ·rename_i i hi
  split
  ·rename_i h
   simp only[Bool.and_eq_true,Bool.not_eq_true']at h
   obtain⟨l1,l2⟩:=aj1 F.o.fit h.1
   split
   ·rename_i g hg
    exact bL1 i nd (cj3 F hg) (F.o.fit.slot hi) l1 (P8 h.2 _ _ _) l2
   ·split
    ·rename_i g hg
     have hs:=P8 h.2 (some (.Name x p')) p.line X.env
     obtain⟨⟨es,lp⟩,h1,h0⟩:=Option.bind_eq_some_iff.mp hg
     rw[by6 h1]at hs ⊢
     split at h0
     ·rename_i hb
      cases h0
      simp only[Bool.and_eq_true,decide_eq_true_eq]at hb
      exact bL0 i nd (au0 (al8 F) _ hb.1.2) hb.2 (F.o.fit.slot hi) l1 hs l2
     ·cases h0
    ·exact bK8 i nd (bH0 F v) (F.o.fit.slot hi) l1 (P8 h.2 _ _ _) l2
  ·cases hg:kCm S O c x p' i v with
   | none=>exact n4
   | some g=>exact bU3 F hi hg
 ·exact n4
theorem bU6(F:FitY S O C c X) (v:Expr) (ts:List Expr) (p:Pos):US X C (.Assign ts v p) (kAs S O c v ts):=by
 unfold kAs
 split
 ·rename_i tg
  split
  ·rename_i t ht
   rw[O1 ht]
   exact bz2 F _ _ _ _
  ·split
   ·rename_i u hu
    cases hg:cj5 S O c u v with
    | none=>exact n4
    | some g =>
     obtain⟨⟨x,px⟩,h2,h⟩:=Option.bind_eq_some_iff.mp hg
     obtain⟨i,h3,h⟩:=Option.bind_eq_some_iff.mp h
     split at h
     ·rename_i hb
      cases h
      simp only[Bool.and_eq_true,Bool.not_eq_true']at hb
      obtain⟨v1,v2,v3⟩:=P1 F.o.fit hb.1.1
      rw[ay8 hu,O1 h2]
      exact br9 i F.o.foc (List.contains_iff_mem.mp hb.1.2) (F.o.fit.slot h3) v1 v2 v3 (al8 F v) (P8 hb.2 _ _ _)
     ·cases h
   ·exact n4
 ·exact n4
theorem aI8(F:FitY S O C c X):∀n st,US X C st (kSt S O c n st)
 | 0,st=>n4
 | n+1,st=>by
  have ih:=aP5 (aI8 F n)
  unfold kSt
  split
  ·exact bK9 (bH0 F _)
  ·exact cd2 (bH1 F _) (ih _) (ih _)
  ·rename_i tg it a o p
   unfold kFo
   split
   ·split
    ·rename_i h;exact bL2 (aQ8 (ag6 S 98) F.o.fit _ _) ((ag6 S 98).g F.o.fit _) (bI1 S 98 c tg) (ih _) F.o.fit.po F.o.fit.calm (ai7 h _)
    ·exact n4
   ·exact n4
  ·exact bU6 F _ _ _
  ·split
   ·exact n4
   ·rename_i e p hc
    have hs:=P8 (e:=e) (by simpa using hc) none p.line X.env
    cases hg:kAp S O c e with
    | none=>exact bs0 (al8 F _) hs
    | some g =>
     obtain⟨⟨x,px,m,ap,a,cp⟩,h1,h0⟩:=Option.bind_eq_some_iff.mp hg
     obtain⟨i,h2,h⟩:=Option.bind_eq_some_iff.mp h0
     rw[bi6 h1]at hs ⊢
     dsimp only at h hs ⊢
     split at h
     ·rename_i a0
      split at h
      ·rename_i hb
       cases h
       simp only[Bool.and_eq_true,beq_iff_eq]at hb
       obtain⟨⟨⟨⟨b1,b2⟩,b3⟩,b4⟩,b5⟩:=hb
       subst b1
       obtain⟨v1,v2,v3⟩:=P1 F.o.fit b3
       have z:=E3 b5 [] X.env
       exact bL3 i (al8 F _) (F.o.fit.slot h2) v1 v2 v3 (by rw[z];rfl) (by simpa using b4) z hs
      ·cases h
     ·cases h
  ·exact bb7 (bH1 F _) (ih _) F.o.fit.po
  ·exact n4
end
end G
namespace G
open PySem PySem.Spec PyProof.Rows L2
def cr1:Stmt->List Stmt
 | .ClassDef _ _ _ b _ _ _ _ _ _ _=>b
 | _=>[]
structure KCl (K:PySem.W.Frag) (C:Addr) (cl:Str) (fn:List Str):Prop where
 ns:PySem.W.nsIn K mainGlobals cl=some (some (.ref C))
 make:PySem.W.makesIn K C=true
 kp:PySem.W.keepIn K (.ref C)=true
 foc:FoC K C fn
theorem bT8{K:PySem.W.Frag}{C:Addr}{cl f1 f2:Str}(a:PySem.W.nsIn K mainGlobals cl=some (some (.ref C))) (b:PySem.W.makesIn K C=true) (c:PySem.W.keepIn K (.ref C)=true) (pg:PySem.W.plainGet K C Str.empty=true) (hd:PySem.W.hasDictIn K C=true) (po:PySem.W.plainOver K C=true)
  (sa:PySem.W.findIn K (.ref C) "__setattr__" = some (some (.builtin "object.__setattr__"))) (n1:PySem.W.findIn K (.ref C) f1=some none) (n2:PySem.W.findIn K (.ref C) f2=some none):KCl K C cl [f1,f2]:=⟨a,b,c,⟨pg,hd,po,sa⟩,fun f hf=>by
 simp only[List.mem_cons,List.not_mem_nil,or_false]at hf
 rcases hf with rfl|rfl
 ·exact n1
 ·exact n2⟩
theorem cj1{K:PySem.W.Frag}{C:Addr}{m qual:Str}{st:Stmt}{f:Addr}{oc:Value}{od:Option Addr}{sl:Array (Option Value)}{kV dc pm:Value}{an:Option Addr}{cd ct:Value}(a:PySem.W.findIn K (.ref C) m=some (some (.ref f))) (i:PySem.W.isFn K (.ref f)=true)
  (l:K.lookup f=some ⟨oc,od,.func (PySem.W.fnOf m qual (L6 st) (E8 st) (B9 st) .none kV dc pm an cd ct),sl⟩) (c:PySem.W.codeIn K cd qual=true) (k:PySem.W.keepIn K (.ref f)=true):KM K C m qual st:=⟨f,oc,od,sl,kV,dc,pm,an,cd,ct,a,i,l,c,k⟩
section
variable {P:Program}{w:World}{K:PySem.W.Frag}{mg:Str->Option Value}{base:Heap}{cs:List (Str×D)}{bl:List Str}{C:Addr}{tab:Tab}{O:Og4}
def aM4(P:Program) (w:World) (K:PySem.W.Frag) (mg:Str->Option Value) (base:Heap) (C:Addr) (k:Nat) (df:List (Str×DF×Nat×Nat)):Prop:=∀x F n j,df.lookup x=some (F,n,j)->∃(f:Addr) (fd:FuncData) (ps:List Str),
 FnOk P w K mg base CX0 k f fd ps (spD K C n F)/\mg x=some (.ref f)/\PySem.W.keepIn K (.ref f)=true/\F9 K fd ps []
theorem aM4.cons{k:Nat}{df:List (Str×DF×Nat×Nat)}{x:Str}{F:DF}{n j:Nat}(T:aM4 P w K mg base C k df) (h:∃(f:Addr) (fd:FuncData) (ps:List Str),FnOk P w K mg base CX0 k f fd ps (spD K C n F)/\mg x=some (.ref f)/\PySem.W.keepIn K (.ref f)=true/\F9 K fd ps []) :
  aM4 P w K mg base C k ((x,F,n,j)::df):=fun y G m i e=>by
 rw[List.lookup_cons]at e
 split at e
 ·rename_i q
  cases e
  simp only[beq_iff_eq]at q
  subst q
  exact h
 ·exact T y G m i e
theorem aM4.mono{df:List (Str×DF×Nat×Nat)}(T:aM4 P w K mg base C j df) (h:j<=k):aM4 P w K mg base C k df:=fun x F n i e=>by
 obtain⟨f,fd,ps,h1,h2⟩:=T x F n i e
 exact⟨f,fd,ps,h1.mono h,h2⟩
structure YOk (P:Program) (w:World) (K:PySem.W.Frag) (mg:Str->Option Value) (base:Heap) (C:Addr) (k:Nat) (tab:Tab) (O:Og4):Prop where
 t:TOk P w K mg base k tab
 m:MOk P w K mg base C k O.ms
 i:∀F n,O.ini=some (F,n)->∃j f fd ps,j+1<=k/\FnOk P w K mg base CX0 j f fd ps (spD K C (n+1) F)/\Mk K C f/\F9 K fd ps []/\mg O.cl=some (.ref C)
 d:aM4 P w K mg base C k O.df
theorem YOk.mono(V:YOk P w K mg base C j tab O) (h:j<=k):YOk P w K mg base C k tab O where
 t:=V.t.mono h
 m:=V.m.mono h
 i:=fun F n e=>by obtain⟨i,f,fd,ps,h1,h2⟩:=V.i F n e;exact⟨i,f,fd,ps,Nat.le_trans h1 h,h2⟩
 d:=V.d.mono h
theorem cl2{f:Addr}{cdv:Value}{A:Around}{outer:List Env}{s:Shared}{H:Hp}{E:XK}{qual:Str}(M:Md K mg cs bl) (V:YOk P w K mg base C k tab O) (Fc:FoC K C O.fn) {d:Fd}(ok:d.okB=true) (hr:Room k (A.deeper (envOfC qual (B9 d.st) s.heap.objs.size f cdv))) :
  FitY ⟨tab,cs,bl⟩ O C d.c (am7 CX0 P w K mg base d.N qual (B9 d.st) f cdv A outer s H E).nox:=by
 have Sc:=Fd.sc ok
 have fit:Fit ⟨tab,cs,bl⟩ d.c (am7 CX0 P w K mg base d.N qual (B9 d.st) f cdv A outer s H E).nox:=by
  refine⟨rfl,rfl,Sc.nd,rfl,rfl,hr.units,fun _=>⟨fun _=>rfl,Sc.kind⟩,fun x F n h=>?_,M.css,M.bls⟩
  exact(V.t x F n h).imp (fun⟨f',fd',ps,h1,h2,h3,h4⟩=>⟨k,f',fd',ps,h1,hr,h2,h3,h4⟩) id
 refine⟨⟨fit,Fc,fun m F n h=>?_⟩,fun F n h=>?_,fun x F n j h=>?_⟩
 ·obtain⟨f',fd',ps,h1,h2,h3⟩:=V.m m F n h
  exact⟨k,f',fd',ps,h1,hr,h2,h3⟩
 ·obtain⟨j,f',fd',ps,h1,h2,h3,h4,h5⟩:=V.i F n h
  exact⟨j,f',fd',ps,h2,hr.mono h1,h3,h4,h5⟩
 ·obtain⟨f',fd',ps,h1,h2,h3,h4⟩:=V.d x F n j h
  exact⟨k,f',fd',ps,h1,hr,h2,h3,h4⟩
def rdK(tab:Tab) (cs:List (Str×D)) (bl:List Str) (O:Og4) (d:Fd):DF:=M1 (oB (kSt ⟨tab,cs,bl⟩ O d.c 9) (E8 d.st)) d.N.length
def rdJ(tab:Tab) (cs:List (Str×D)) (bl:List Str) (O:Og4) (d:Fd):FnD:=be3 (oB (kSt ⟨tab,cs,bl⟩ O d.c 9) (E8 d.st)) d.N.length
theorem kfn(V:YOk P w K mg base C k tab O) (M:Md K mg cs bl) (Fc:FoC K C O.fn) (d:Fd) (ok:d.okB=true) (Fn:Fun K d.x qual d.st f fd):FnOk P w K mg base CX0 (k+1) f fd d.ps (spD K C d.ps.length (rdK tab cs bl O d)) :=
 bo2 (N:=d.N) Fn (Fd.sc ok) fun cdv A outer s H E hr=>aP5 (aI8 (cl2 M V Fc ok hr) 9) _
theorem YOk.addM(V:YOk P w K mg base C k tab O) (M:Md K mg cs bl) (Fc:FoC K C O.fn) (d:Fd) (h:KM K C d.x qual d.st) (F:DF) (n:Nat) (e:rdK tab cs bl O d=F:=by kernel_rfl) (hp:d.ps.length=n+1:=by rfl) (ok:d.okB=true:=by kernel_rfl) (bd:BdM d qual:=by repeat (first|exact rfl|intro _)):YOk P w K mg base C (k+1) tab { O with ms:=(d.x,F,n)::O.ms }:=by
 subst e
 obtain⟨f,oc,od,sl,kV,dc,pm,an,cd,ct,a,i,l,cc,kk⟩:=h
 have Fn:=aJ4 l cc kk
 have U:=V.mono (Nat.le_succ k)
 have q:=kfn V M Fc d ok Fn
 rw[hp]at q
 exact⟨U.t,U.m.cons ⟨f,_,d.ps,q,⟨a,i,kk⟩,.all (ua (bd kV dc pm an cd ct))⟩,U.i,U.d⟩
theorem YOk.addI(V:YOk P w K mg base C k tab O) (M:Md K mg cs bl) (c:KCl K C O.cl O.fn) (d:Fd) (h:KM K C "__init__" qual d.st) (hx:d.x = "__init__") (F:DF) (n:Nat) (e:rdK tab cs bl O d=F:=by kernel_rfl) (hp:d.ps.length=n+1:=by rfl) (ok:d.okB=true:=by kernel_rfl) (bd:BdM d qual:=by repeat (first|exact rfl|intro _)):YOk P w K mg base C (k+2) tab { O with ini:=some (F,n) }:=by
 subst e
 obtain⟨f,oc,od,sl,kV,dc,pm,an,cd,ct,a,i,l,cc,kk⟩:=h
 rw[← hx]at l
 have Fn:=aJ4 l cc kk
 have U:=V.mono (show k<=k+2 by omega)
 have q:=kfn V M c.foc d ok Fn
 rw[hp]at q
 refine⟨U.t,U.m,fun F n e=>?_,U.d⟩
 cases e
 exact⟨k+1,f,_,d.ps,Nat.le_refl _,q,⟨c.make,a,i,c.kp⟩,.all (ua (bd kV dc pm an cd ct)),M.ns _ _ c.ns⟩
theorem YOk.addD(V:YOk P w K mg base C k tab O) (M:Md K mg cs bl) (Fc:FoC K C O.fn) (d:Fd) (h:KF K d.x d.st) (F:DF) (j:Nat) (e:rdK tab cs bl O d=F:=by kernel_rfl) (ok:d.okB=true:=by kernel_rfl) (bd:Bd d:=by repeat (first|exact rfl|intro _)):YOk P w K mg base C (k+1) tab { O with df:=(d.x,F,d.ps.length,j)::O.df }:=by
 subst e
 obtain⟨f,kV,dc,pm,an,cd,ct,Fn,hm⟩:=O2 h M
 have U:=V.mono (Nat.le_succ k)
 exact⟨U.t,U.m,U.i,U.d.cons ⟨f,_,d.ps,kfn V M Fc d ok Fn,hm,Fn.kp,.all (ua (bd kV dc pm an cd ct))⟩⟩
abbrev df3(O:Og4) (d1 d2 d3:Fd) (F1 F2 F3:DF):Og4:={ O with df:=(d1.x,F1,d1.ps.length,0)::(d2.x,F2,d2.ps.length,0)::(d3.x,F3,d3.ps.length,0)::O.df }
theorem YOk.rec3(V:YOk P w K mg base C k tab O) (M:Md K mg cs bl) (Fc:FoC K C O.fn) (d1 d2 d3:Fd) (h1:KF K d1.x d1.st) (h2:KF K d2.x d2.st) (h3:KF K d3.x d3.st) (F1 F2 F3:Nat->DF) (j:Nat) (z1:F1 0=fun _ _=>none:=by rfl) (z2:F2 0=fun _ _=>none:=by rfl) (z3:F3 0=fun _ _=>none:=by rfl)
  (e1:∀j,rdK tab cs bl (df3 O d1 d2 d3 (F1 j) (F2 j) (F3 j)) d1=F1 (j+1):=by intro;kernel_rfl) (e2:∀j,rdK tab cs bl (df3 O d1 d2 d3 (F1 j) (F2 j) (F3 j)) d2=F2 (j+1):=by intro;kernel_rfl) (e3:∀j,rdK tab cs bl (df3 O d1 d2 d3 (F1 j) (F2 j) (F3 j)) d3=F3 (j+1):=by intro;kernel_rfl)
  (ok1:d1.okB=true:=by kernel_rfl) (ok2:d2.okB=true:=by kernel_rfl) (ok3:d3.okB=true:=by kernel_rfl) (q1:Bd d1:=by repeat (first|exact rfl|intro _)) (q2:Bd d2:=by repeat (first|exact rfl|intro _)) (q3:Bd d3:=by repeat (first|exact rfl|intro _)) :
  YOk P w K mg base C (k+j) tab (df3 O d1 d2 d3 (F1 j) (F2 j) (F3 j)):=by
 obtain⟨f1,a1,a2,a3,a4,a5,a6,Fn1,hm1⟩:=O2 h1 M
 obtain⟨f2,c1,c2,c3,c4,c5,c6,Fn2,hm2⟩:=O2 h2 M
 obtain⟨f3,g1,g2,g3,g4,g5,g6,Fn3,hm3⟩:=O2 h3 M
 have b1:F9 K _ d1.ps []:=.all (ua (q1 a1 a2 a3 a4 a5 a6))
 have b2:F9 K _ d2.ps []:=.all (ua (q2 c1 c2 c3 c4 c5 c6))
 have b3:F9 K _ d3.ps []:=.all (ua (q3 g1 g2 g3 g4 g5 g6))
 have none_ok:∀{f:Addr}{fd:FuncData}{ps:List Str},FnOk P w K mg base CX0 (k+0) f fd ps (spD K C ps.length fun _ _=>none):=fun{f fd ps}=>by
  refine⟨fun vs H Q E h=>?_,fun A outer s H args us vs Q E hr e0 hb hv hs=>?_⟩
  ·exact h.1
  ·obtain⟨_,a,Hf,c,o,ms,r,o',_,_,_,e,_⟩:=hs
   cases e
 induction j with
 | zero =>
  rw[z1,z2,z3]
  exact⟨V.t,V.m,V.i,(((V.d).cons ⟨f3,_,d3.ps,none_ok,hm3,Fn3.kp,b3⟩).cons ⟨f2,_,d2.ps,none_ok,hm2,Fn2.kp,b2⟩).cons ⟨f1,_,d1.ps,none_ok,hm1,Fn1.kp,b1⟩⟩
 | succ j ih =>
  have o1:=kfn ih M Fc d1 ok1 Fn1
  have o2:=kfn ih M Fc d2 ok2 Fn2
  have o3:=kfn ih M Fc d3 ok3 Fn3
  rw[e1 j]at o1
  rw[e2 j]at o2
  rw[e3 j]at o3
  have U:=V.mono (Nat.le_add_right k (j+1))
  exact⟨U.t,U.m,U.i,((U.d.cons ⟨f3,_,d3.ps,o3,hm3,Fn3.kp,b3⟩).cons ⟨f2,_,d2.ps,o2,hm2,Fn2.kp,b2⟩).cons ⟨f1,_,d1.ps,o1,hm1,Fn1.kp,b1⟩⟩
theorem TOk.addY(V:YOk P w K mg base C k tab O) (M:Md K mg cs bl) (Fc:FoC K C O.fn) (d:Fd) (h:KF K d.x d.st) (F:FnD) (e:rdJ tab cs bl O d=F:=by kernel_rfl) (ok:d.okB=true:=by kernel_rfl) (bd:Bd d:=by repeat (first|exact rfl|intro _)):TOk P w K mg base (k+1) ((d.x,F,d.ps.length)::tab):=by
 subst e
 obtain⟨f,kV,dc,pm,an,cd,ct,Fn,hm⟩:=O2 h M
 have Sc:=Fd.sc ok
 exact(V.t.mono (Nat.le_succ k)).cons ⟨f,_,d.ps,bo1 (N:=d.N) (ps:=d.ps) (C:=C) (g:=oB (kSt ⟨tab,cs,bl⟩ O d.c 9) (E8 d.st)) Fn Sc fun cdv A outer s H E hr=>aP5 (aI8 (cl2 M V Fc ok hr) 9) _,hm,Fn.kp,.all (ua (bd kV dc pm an cd ct))⟩
theorem YOk.start{cl:Str}{fn:List Str}(t:TOk P w K mg base k tab):YOk P w K mg base C k tab ⟨[],cl,none,[],fn⟩ :=
 ⟨t,MOk.nil.mono (Nat.zero_le _),(fun F n e=>nomatch e),(fun x F n j e=>nomatch e)⟩
end
end G
namespace Lk90
open PySem PySem.Spec PyProof.Rows L2 G Sh
def top(i:Nat):Stmt:=PySem.Challenge.pw_glazework_k90_written.main.body.getD i (.Pass ⟨0,0,0,0⟩)
def V8:DS:=(B0 (C3 1 (A6 bf6 ⇑10 ⇑60)) (B0 (L5 2 A5) (B0 (S2 (tB2 geI (A1 0) (A1 1)) (B0 (V3 2 dNo) (C3 0 (A6 u8 (A1 0) (A1 1))))) (B0 (V3 2 (O4 (A1 0))) (B6 (aK6 (dC (.str "")) (A8 2)))))))
def C6:List D->Option D:=D2 V8 3
def Q7:DS:=(B0 (sIf (tB2 eqD (dIx (A8 0) ⇑1) ⇑1) (B6 (A2 C6 (A0 (dIx (A8 0) ⇑0) A5))) G5) (B6 (A6 A9 (A6 A9 (A2 C6 (A0 (dIx (A8 0) ⇑0) A5)) (dC (.str "/"))) (A2 C6 (A0 (dIx (A8 0) ⇑1) A5)))))
def G1:List D->Option D:=D2 Q7 1
def Z7:DS:=(B6 (M4 (dC (.str ":")) (qN (C5 1 [] (J3 (A1 0)) (C4 0) D1 (A2 G1 (A0 (A1 0) A5))))))
def N4:List D->Option D:=D2 Z7 1
def Z9:DS:=(B0 (sIf (tB2 isB (A1 0) (dC .none)) (B6 (dC (.str "."))) G5) (B6 (M4 (dC (.str ",")) (qN (C5 1 [] (J3 (A1 0)) (C4 0) D1 (A2 G1 (A0 (A1 0) A5)))))))
def T1:List D->Option D:=D2 Z9 1
def Z8:DS:=(B6 (A6 A9 (A6 A9 (A2 C6 (A0 (dIx (A8 0) ⇑0) A5)) (dC (.str "x"))) (A2 C6 (A0 (dIx (A8 0) ⇑1) A5))))
def J0:List D->Option D:=D2 Z8 1
def V9:DS:=(B6 (A6 A9 (Y3 (A0 (A2 J0 (A0 (A1 0) A5)) A5)) (Y3 (C5 1 [] (J3 (dIx (A8 0) ⇑2)) (C4 0) D1 (A2 N4 (A0 (A1 0) A5))))))
def K9:List D->Option D:=D2 V9 1
def N3:DS:=(B0 (C3 1 (Y3 (A0 (A2 C6 (A0 (A2 W2 (A0 (A1 0) A5)) A5)) (A0 (A2 C6 (A0 (A2 g9 (A0 (A1 0) A5)) A5)) (A0 (A2 T1 (A0 (A2 W1 (A0 (A1 0) A5)) A5)) A5))))) (B6 (A6 A9 (A1 1) (A2 K9 (A0 (A2 O8 (A0 (A1 0) A5)) A5)))))
def F0:List D->Option D:=D2 N3 2
def L7(self:Nat->List D->Option D):DS:=(B0 (L5 1 (A0 (A2 O9 (A0 (A1 0) A5)) (A0 (A2 M6 (A0 (A1 0) A5)) (A0 (A2 F5 (A0 (A1 0) A5)) (A0 (A2 G1 (A0 (A2 E5 (A0 (A1 0) A5)) A5)) A5))))) (B0 (V3 1 (ae4 (G9 (A2 G6 (A0 (A1 0) A5))) (dC (.str "+")) (dC (.str "-")))) (B0 (sIf (G9 (A2 J7 (A0 (A1 0) A5))) (k7 1 (B6 (A6 A9 (A1 1) (A2 F0 (A0 (A1 0) A5))))) G5) (B0 (sIf (G9 (A2 F8 (A0 (A1 0) A5))) (k7 1 (B6 (A6 A9 (A6 A9 (A6 A9 (A1 1) (Y3 (A0 (dC (.str "[")) A5))) (A2 (self 1) (A0 (A2 F6 (A0 (A1 0) A5)) A5))) (Y3 (A0 (dC (.str "]")) A5))))) G5) (k7 1 (B6 (A1 1)))))))
def O7(self:Nat->List D->Option D):DS:=(B0 (L5 1 A5) (B0 (k8 (J3 (A1 0)) (C4 2) (au8 1 (A2 (self 0) (A0 (A1 2) A5)))) (k7 1 (B6 (A1 1)))))
def B1:Nat->Nat->List D->Option D
 | 0=>fun _ _=>none
 | k+1=>fun i=>match i with
  | 0=>D2 (L7 (B1 k)) 2
  | 1=>D2 (O7 (B1 k)) 3
  | _=>fun _=>none
def ai2(k:Nat):List D->Option D:=B1 k 0
def L0(k:Nat):List D->Option D:=B1 k 1
def as9:DS:=(B6 (M4 (dC (.str " ")) (qE (A6 A9 (Y3 (A0 (A2 J0 (A0 (A1 0) A5)) A5)) (A2 (L0 12) (A0 (dIx (A8 0) ⇑2) A5))))))
def W0:List D->Option D:=D2 as9 1
def o7:DS:=(B0 (sIf (U6 (K1 (aG9 (S8 leI leI ⇑1 (ar9 (A1 0)) ⇑400))) (K1 (G9 (ap0 (qN (C5 1 [] (aW8 (A1 0)) (C4 0) D1 (A6 (inS false) (A1 0) (dC (.str "0123456789"))))))))) D5 G5) (B6 (aS0 (A1 0))))
def F4:List D->Option D:=D2 o7 1
def ap7:DS:=(B0 (sIf (G9 (dTx txB (A1 0) (dC (.str "-")))) (B6 (bp7 (A2 F4 (A0 (aK5 (A1 0) (K3 ⇑1) Y9) A5)))) G5) (B6 (A2 F4 (A0 (A1 0) A5))))
def P2:List D->Option D:=D2 ap7 1
def X9:DS:=(B0 (C3 1 (dTx txP (A1 0) (dC (.str "/")))) (B0 (C3 2 (ae4 (tB2 eqD (dIx (A8 1) ⇑1) (dC (.str "/"))) (A2 F4 (A0 (dIx (A8 1) ⇑2) A5)) ⇑1)) (B6 (O3 (A0 (A2 F4 (A0 (dIx (A8 1) ⇑0) A5)) (A0 (A1 2) A5))))))
def G4:List D->Option D:=D2 X9 3
def ag8:DS:=(B6 (M3 (qN (C5 1 [] (J3 (dTx txS (A1 0) (dC (.str ":")))) (C4 0) D1 (A2 G4 (A0 (A1 0) A5))))))
def U2:List D->Option D:=D2 ag8 1
def a7:DS:=(B0 (sIf (tB2 eqD (A1 0) (dC (.str "."))) (B6 (dC .none)) G5) (B6 (M3 (qN (C5 1 [] (J3 (dTx txS (A1 0) (dC (.str ",")))) (C4 0) D1 (A2 G4 (A0 (A1 0) A5)))))))
def h9:List D->Option D:=D2 a7 1
def ag9:DS:=(B0 (C3 1 (dTx txP (A1 0) (dC (.str "x")))) (B6 (O3 (A0 (A2 F4 (A0 (dIx (A8 1) ⇑0) A5)) (A0 (A2 F4 (A0 (dIx (A8 1) ⇑2) A5)) A5)))))
def U3:List D->Option D:=D2 ag9 2
def f7:DS:=(B6 (dIx (qN (A0 (A6 A9 (A6 A9 (O4 (dIx (A8 0) ⇑0)) (dC (.str "/"))) (O4 (dIx (A8 0) ⇑1))) (A0 (O4 (dIx (A8 0) ⇑0)) A5))) (ai0 (A6 eqD (dIx (A8 0) ⇑1) ⇑1))))
def D6:List D->Option D:=D2 f7 1
def j5(self:List D->Option D):DS:=(B0 (L5 1 (A0 (dIx (A8 0) ⇑0) (A0 (dIx (A8 0) ⇑1) (A0 (dIx (A8 0) ⇑2) (A0 (A2 D6 (A0 (dIx (A8 0) ⇑3) A5)) (A0 (X8 (dC (.str "-+")) (ai0 (dIx (A8 0) ⇑4))) A5)))))) (B0 (sIf (tB2 eqD (dIx (A8 0) ⇑0) (dC (.str "group"))) (B0 (V3 1 (dC (.str "["))) (B0 (k8 (J3 (dIx (A8 0) ⇑5)) (C4 2) (L5 1 (ad5 (A8 1) (qE (A2 self (A0 (A1 2) A5)))))) (V3 1 (dC (.str "]"))))) G5) (B0 (sIf (tB2 eqD (dIx (A8 0) ⇑0) (dC (.str "layer"))) (B0 (L5 1 (ad5 (A8 1) (qN (A0 (O4 (dIx (A8 0) ⇑5)) (A0 (O4 (dIx (A8 0) ⇑6)) A5))))) (B0 (C3 3 (dC (.str "."))) (B0 (sIf (tB2 aV2 (dIx (A8 0) ⇑7) (dC .none)) (C3 3 (M4 (dC (.str ",")) (qN (C5 1 [] (J3 (dIx (A8 0) ⇑7)) (C4 0) D1 (A2 D6 (A0 (A1 0) A5)))))) G5) (B0 (av0 (dIx (A8 0) ⇑8) (n9 3 (J9 (C4 4) (J9 (C4 5) (J9 (C4 6) ag4))))) (B0 (L5 1 (ad5 (A8 1) (qN (A0 (A1 3) (A0 (A6 A9 (A6 A9 (O4 (A1 4)) (dC (.str "x"))) (O4 (A1 5))) A5))))) (L5 1 (ad5 (A8 1) (qN (C5 1 [] (J3 (A1 6)) (C4 0) D1 (M4 (dC (.str ":")) (qN (C5 1 [] (J3 (A1 0)) (C4 0) D1 (A2 D6 (A0 (A1 0) A5)))))))))))))) G5) (k7 1 (B6 (A1 1))))))
def M7:Nat->List D->Option D
 | 0=>fun _=>none
 | k+1=>D2 (j5 (M7 k)) 7
def ah0:DS:=(B0 (C3 1 (Y3 (A0 (A6 A9 (A6 A9 (O4 (dIx (A8 0) ⇑0)) (dC (.str "x"))) (O4 (dIx (A8 0) ⇑1))) A5))) (B0 (k8 (J3 (dIx (A8 0) ⇑2)) (C4 2) (C3 1 (A6 A9 (A1 1) (A2 (M7 12) (A0 (A1 2) A5))))) (B6 (M4 (dC (.str " ")) (A8 1)))))
def i4:List D->Option D:=D2 ah0 3
def ap8:UX:=(r9 (uB2 eqD (au2 0 "words_taken") (bc3 (au2 0 "words"))))
def Q1:DF:=M1 ap8 1
def f6:UX:=(K0 (uIf (uTB (uM0 0 "is_at_end" Q1)) uXo aG5) (r9 (bc4 (au2 0 "words") (au2 0 "words_taken"))))
def N2:DF:=M1 f6 1
def o9:UX:=(K0 (T4 1 (uM0 0 "word_ahead" N2)) (K0 (y8 0 "words_taken" (uB2 A9 (au2 0 "words_taken") (uP ⇑1))) (r9 (uP (A1 1)))))
def B7:DF:=M1 o9 2
def an2:UX:=(K0 (y8 0 "words" (uP (dTx txS (A1 1) (dC (.str " "))))) (y8 0 "words_taken" (uP ⇑0)))
def Z6:DF:=M1 an2 2
def ac4:UX:=(K0 (T4 1 (N7 U3 (ulC (uM0 0 "take_word" B7) ulN))) (K0 (bs7 2 0 (G0 (A6 E2 (dIx (A8 1) ⇑0) (dIx (A8 1) ⇑1))) (N7 U2 (ulC (uM0 1 "take_word" B7) ulN))) (r9 (uP (A6 A9 (A1 1) (O3 (A0 (M3 (A8 2)) A5)))))))
def N1:DF:=M1 ac4 3
def S9:UX:=(K0 (T4 1 (N7 P2 (ulC (uM0 0 "take_word" B7) ulN))) (K0 (T4 2 (N7 P2 (ulC (uM0 0 "take_word" B7) ulN))) (K0 (T4 3 (N7 h9 (ulC (uM0 0 "take_word" B7) ulN))) (r9 (an9 (ulC (uP (A1 1)) (ulC (uP (A1 2)) (ulC (uP (A1 3)) (ulC (uD 0 N1 (mO mN)) ulN)))))))))
def L9:DF:=M1 S9 4
def J5(self:Nat->DF):UX:=(K0 (uIf (uOr (uTP (tB2 eqD (A1 1) ⇑0)) (uTB (uB2 neD (uM0 0 "take_word" B7) (uP (dC (.str "[")))))) uXo aG5) (K0 (T4 2 (uD 0 (self 2) (mO (mC (A6 ao0 (A1 1) ⇑1) mN)))) (K0 (uEx (uM0 0 "take_word" B7)) (r9 (uP (A1 2))))))
def M5(self:Nat->DF):UX:=(K0 (T4 2 (uM0 0 "take_word" B7)) (K0 (T4 3 (uM0 0 "take_word" B7)) (K0 (T4 4 (uM0 0 "take_word" B7)) (K0 (T4 5 (N7 G4 (ulC (uM0 0 "take_word" B7) ulN))) (K0 (T4 6 (an9 (ulC (uP (A1 2)) (ulC (uP (A1 3)) (ulC (uP (A1 4)) (ulC (uP (A1 5)) (ulC (uB2 eqD (uM0 0 "take_word" B7) (uP (dC (.str "+")))) ulN))))))) (K0 (uIf (uTP (G9 (A2 J7 (A0 (A1 6) A5)))) (r9 (uB2 A9 (uP (A1 6)) (uD 0 L9 (mO mN)))) aG5) (K0 (uIf (uTP (G9 (A2 F8 (A0 (A1 6) A5)))) (r9 (uB2 A9 (uP (A1 6)) (an9 (ulC (uD 0 (self 0) (mO (mC (A1 1) mN))) ulN)))) aG5) (r9 (uP (A1 6))))))))))
def R7(self:Nat->DF):UX:=(K0 (bM2 2 ulN) (K0 (aG4 (aT8 (aT7 (uTB (uM0 0 "is_at_end" Q1))) (uTB (uB2 neD (uM0 0 "word_ahead" N2) (uP (dC (.str "]")))))) (aA0 2 (uD 0 (self 1) (mO (mC (A1 1) mN))))) (r9 (uP (M3 (A8 2))))))
def A3:Nat->Nat->DF
 | 0=>fun _ _ _=>none
 | k+1=>fun i=>match i with
  | 0=>M1 (J5 (A3 k)) 3
  | 1=>M1 (M5 (A3 k)) 7
  | 2=>M1 (R7 (A3 k)) 3
  | _=>fun _ _=>none
def x0(k:Nat):DF:=A3 k 0
def aF5(k:Nat):DF:=A3 k 1
def ac3(k:Nat):DF:=A3 k 2
def az2:UX:=(K0 (bs6 1 (bx4 Z6 (A0 (A1 0) A5))) (K0 (T4 2 (N7 U3 (ulC (uM0 1 "take_word" B7) ulN))) (K0 (T4 3 (uB2 A9 (uP (A1 2)) (an9 (ulC (uD 1 (ac3 12) (mO (mC ⇑3 mN))) ulN)))) (K0 (uIf (uTP (U6 (K1 (G9 (A2 S0 (A0 (A1 3) A5)))) (tB2 neD (A2 W0 (A0 (A1 3) A5)) (A1 0)))) uXo aG5) (r9 (uP (A1 3)))))))
def aM2:List D->Option D:=be3 az2 4
def bI3:DS:=(B0 (C3 1 (A2 U4 (A0 (A1 0) (A0 ⇑30 (A0 ⇑4 (A0 (A2 j9 (A0 (A1 0) (A0 ⇑0 (A0 ⇑6 A5)))) A5)))))) (B0 (C3 2 (A2 W0 (A0 (A1 1) A5))) (B6 (O5 (A6 eqD (A1 2) (A2 i4 (A0 (A1 1) A5))) (A6 eqD (A2 aM2 (A0 (A1 2) A5)) (A1 1))))))
def aT3:List D->Option D:=D2 bI3 3
end Lk90
namespace Lk90
open PySem G L2 Sh
abbrev cl(s:Str):List Nat:=s.cps.toList
theorem aK9{a b:Str}(h:cl a=cl b):a=b:=by
 obtain⟨a⟩:=a
 obtain⟨b⟩:=b
 exact congrArg Str.mk (Array.toList_inj.mp h)
theorem ae5(a b:Str):cl (a++b)=cl a++cl b:=by show(a.cps++b.cps).toList=_;rw[Array.toList_append]
theorem Z4(a:Str):(cl a).length=a.length:=by simp[cl,Str.length]
abbrev sg(c:Nat):Str:=⟨#[c]⟩
def jl(c:Nat):List (List Nat)->List Nat
 | []=>[]
 | [x]=>x
 | x::y::r=>x++c::jl c (y::r)
theorem aj6(c:Nat):∀ps:List Str,cl (Str.join (sg c) ps)=jl c (ps.map cl)
 | []=>rfl
 | [x]=>rfl
 | x::y::r=>by
  show cl (x++sg c++Str.join (sg c) (y::r))=_
  rw[ae5,ae5,aj6 c (y::r)]
  show(cl x++[c])++_=cl x++c::_
  rw[List.append_assoc];rfl
theorem aS1{c:Nat}:∀{p w A B:List Nat},c∉p->c∉w->p++c::A=w++c::B->p=w/\A=B
 | [],[],A,B,_,_,h=>⟨rfl,by simpa using h⟩
 | [],y::w,A,B,_,h2,h=>by simp at h h2;exact(h2.1 h.1).elim
 | x::p,[],A,B,h1,_,h=>by simp at h h1;exact(h1.1 h.1.symm).elim
 | x::p,y::w,A,B,h1,h2,h=>by
  simp only[xca,List.cons.injEq,List.mem_cons,not_or]at h h1 h2
  obtain⟨e1,e2⟩:=aS1 h1.2 h2.2 h.2
  exact⟨by rw[h.1,e1],e2⟩
theorem bl0{c:Nat}:∀{ps ws:List (List Nat)},ps≠[]->ws≠[]->(∀p∈ps,c∉p)->(∀p∈ws,c∉p)->jl c ps=jl c ws->ps=ws
 | [],_,h,_,_,_,_=>(h rfl).elim
 | _,[],_,h,_,_,_=>(h rfl).elim
 | [p],[w],_,_,_,_,e=>by rw[show p=w from e]
 | [p],w::v::r,_,_,h,_,e=>by
  have:c∈p:=by rw[show p=w++c::jl c (v::r) from e];simp
  exact(h p (by simp) this).elim
 | p::q::r,[w],_,_,_,h,e=>by
  have:c∈w:=by rw[show w=p++c::jl c (q::r) from e.symm];simp
  exact(h w (by simp) this).elim
 | p::q::r,w::v::s,_,_,h1,h2,e=>by
  obtain⟨e1,e2⟩:=aS1 (h1 p (by simp)) (h2 w (by simp)) (show p++c::jl c (q::r)=w++c::jl c (v::s) from e)
  rw[e1,bl0 (by simp) (by simp) (fun x hx=>h1 x (List.mem_cons_of_mem _ hx)) (fun x hx=>h2 x (List.mem_cons_of_mem _ hx)) e2]
theorem bd4(x y:Str):Txt.split x y≠[]:=by
 unfold Txt.split
 split
 ·simp
 ·split
  ·simp
  ·intro h
   have:=congrArg List.length h
   rw[length_partsBetween]at this
   simp at this
theorem aA3(c:Nat) {ws:List Str}(hn:ws≠[]) (hf:∀w∈ws,c∉cl w):Txt.split (Builtin.Str.glued (sg c) ws) (sg c)=ws:=by
 have e:=StrLaws.join_split (Builtin.Str.glued (sg c) ws) (sg c)
 have f:=StrLaws.split_free (Builtin.Str.glued (sg c) ws) c
 have n:=bd4 (Builtin.Str.glued (sg c) ws) (sg c)
 generalize Txt.split (Builtin.Str.glued (sg c) ws) (sg c)=ps at e f n
 rw[StrLaws.glued_eq_join]at e
 have e:=congrArg cl e
 rw[aj6,aj6]at e
 have key:=bl0 (c:=c) (ps:=ps.map cl) (ws:=ws.map cl) (by simpa using n) (by simpa using hn) (by simpa using f) (by simpa using hf) e
 have inj:∀{a b:List Str},a.map cl=b.map cl->a=b:=by
  intro a
  induction a with
  | nil=>intro b h;cases b with|nil=>rfl|cons=>simp at h
  | cons x a ih =>
   intro b h
   cases b with
   | nil=>simp at h
   | cons y b =>
    simp only[xmc,List.cons.injEq]at h
    rw[aK9 h.1,ih h.2]
 exact inj key
theorem ay9(x:Str) (c i:Nat):StrLaws.At x (sg c) x.length i↔(cl x)[i]? = some c:=StrLaws.subAt_one x c i
theorem bw3(a b:Str) (c:Nat) (ha:c∉cl a):Txt.partition (a++sg c++b) (sg c)=(a,sg c,b):=by
 have hx:cl (a++sg c++b)=cl a++c::cl b:=by rw[ae5,ae5,show cl (sg c)=[c] from rfl,List.append_assoc];rfl
 have h0:(cl (a++sg c++b))[(cl a).length]? = some c:=by rw[hx,List.getElem?_append_right (Nat.le_refl _),Nat.sub_self];rfl
 rcases StrLaws.occ_head (a++sg c++b) (sg c) 1 (Nat.le_refl _) with⟨_,h⟩|⟨i,r,e,h1,h2⟩
 ·exact(h _ ((ay9 _ _ _).mpr h0)).elim
 ·have hi:i=(cl a).length:=by
   rcases Nat.lt_trichotomy i (cl a).length with q|q|q
   ·have:=(ay9 _ _ _).mp h1
    rw[hx,List.getElem?_append_left q]at this
    exact(ha (List.mem_of_getElem? this)).elim
   ·exact q
   ·exact(h2 _ q ((ay9 _ _ _).mpr h0)).elim
  subst hi
  have len:(a++sg c++b).length=(cl a).length+1+(cl b).length:=by rw[← Z4,hx];simp;omega
  have s1:Builtin.Str.strSub (a++sg c++b) 0 (cl a).length=a:=aK9 (by rw[cl,StrLaws.strSub_toList,show(a++sg c++b).cps.toList=cl a++c::cl b from hx];simp)
  have s2:Builtin.Str.strSub (a++sg c++b) ((cl a).length+(sg c).length) (a++sg c++b).length=b:=aK9 (by
   rw[cl,StrLaws.strSub_toList,show(a++sg c++b).cps.toList=cl a++c::cl b from hx,len,show(sg c).length=1 from rfl]
   have:(cl a++c::cl b).drop ((cl a).length+1)=cl b:=by rw[show cl a++c::cl b=(cl a++[c])++cl b by simp,List.drop_left' (by simp)]
   rw[this]
   exact List.take_of_length_le (by omega))
  unfold Txt.partition
  rw[e]
  show(Builtin.Str.strSub _ 0 (cl a).length,sg c,Builtin.Str.strSub _ _ _)=_
  rw[s1,s2]
theorem bw2(a:Str) (c:Nat) (ha:c∉cl a):Txt.partition a (sg c)=(a,Str.empty,Str.empty):=by
 rcases StrLaws.occ_head a (sg c) 1 (Nat.le_refl _) with⟨e,_⟩|⟨i,r,e,h1,h2⟩
 ·unfold Txt.partition
  rw[e]
 ·exact(ha (List.mem_of_getElem? ((ay9 _ _ _).mp h1))).elim
def it(i:Int):Str:=Str.ofString (toString i)
def nt(n:Nat):Str:=it n
structure Dg (s:Str):Prop where
 d:∀c∈cl s,48<=c/\c<=57
 l1:1<=s.length
 l2:s.length<=10
theorem bT0(n:Nat):1<=(Nat.toDigits 10 n).length:=by
 have:=Nat.toDigits_ne_nil (n:=n) (b:=10)
 exact List.length_pos_iff.mpr this
theorem P6{n:Nat}(h:n < 1000000):Dg (nt n):=by
 have e:=PySem.W.KIN.signs_num n
 refine⟨fun c hc=>?_,?_,PySem.W.KT.len_num (by omega) (by omega)⟩
 ·rw[cl,nt,it,e]at hc
  obtain⟨ch,hch,rfl⟩:=List.mem_map.mp hc
  exact PyProof.Rows.digit_range (Nat.isDigit_of_mem_toDigits (by decide) (by decide) hch)
 ·rw[← Z4,cl,nt,it,e,List.length_map]
  exact bT0 n
theorem bx6{n:Nat}(h:n < 1000000):intText? (nt n)=some (n:Int):=PySem.W.KIN.num_reads (by omega) (by omega)
theorem cl6(c:Nat) (h1:48<=c) (h2:c<=57):inS false (.str ⟨#[c]⟩) (.str "0123456789")=some (.bool true):=by
 have h:∀k:Fin 10,aX1 ⟨#[48+k.val]⟩ "0123456789" = true:=by decide +kernel
 have:=h ⟨c - 48,by omega⟩
 simp only[show 48+(c - 48)=c by omega]at this
 show some (PyData.bool (aX1 ⟨#[c]⟩ "0123456789"))=_
 rw[this]
theorem aN8{n:Nat}(h:n < 1000000):F4 [.str (nt n)]=some (.int n):=by
 obtain⟨lo,l1,l2⟩:=P6 h
 have rd:=bx6 h
 generalize nt n=s at lo l1 l2 rd
 have as:s.cps.all (· < 128)=true:=by
  rw[Array.all_eq_true']
  intro c hc
  have:=lo c (Array.mem_toList_iff.mpr hc)
  exact decide_eq_true (by grind)
 have ll:=Z4 s
 have al:C5 1 [] (aW8 (A1 0)) (C4 0) D1 (A6 (inS false) (A1 0) (dC (.str "0123456789"))) [‹.str s›]=some (s.cps.toList.map fun _=>.bool true):=by
  refine Q5 (l:=s.cps.toList) (h:=fun c=>.str ⟨#[c]⟩) (r:=[]) rfl ?_ (by show(cl s).length<=1000;grind) fun c hc=>cl6 c (lo c hc).1 (lo c hc).2
  show(if s.cps.all (· < 128)=true then some (aq5 s) else none)=_
  rw[if_pos as];rfl
 have z:s.length<=16777216:=by grind
 have z6:s.length<=640:=by grind
 have a':(1:Int)<=s.length:=by grind
 have b':(s.length:Int)<=400:=by grind
 refine B2 (ρ:=[‹.str s›]) rfl ?_
 wp_walk using evD,o7,ar9,aS0,if_pos z,if_pos z6,al,ac2,a',b',decide_true,rd
theorem ak2{i:Int}(h:i.natAbs < 1000000) {f:DE}{ρ:Rho}(hf:f ρ=some (.int i)):O4 f ρ=some (.str (it i)):=by
 have lg:i.natAbs.log2 < 1920:=by
  rcases Nat.eq_zero_or_pos i.natAbs with q|q
  ·rw[q];decide
  ·exact(Nat.log2_lt (by grind)).mpr (Nat.lt_of_lt_of_le h (Nat.le_trans (by decide:1000000<=2 ^ 20) (Nat.pow_le_pow_right (by decide) (by decide))))
 unfold O4
 rw[hf]
 show(if i.natAbs.log2 < 1920 then some (PyData.str (it i)) else none)=_
 rw[if_pos lg]
theorem bb3{i:Int}(h:i.natAbs < 1000000):C6 [.int i]=some (.str (it i)):=by
 have p:bf6 (.int 10) (.int 60)=some (.int (10 ^ 60)):=by kernel_rfl
 have g:geI (.int i) (.int (10 ^ 60))=some (.bool false):=by
  show some (PyData.bool (decide ((10 ^ 60:Int)<=i)))=_
  rw[decide_eq_false (by grind)]
 have wh:∀f:DS,S2 (tB2 geI (A1 0) (A1 1)) f [‹.int i›,‹.int (10 ^ 60)›,some (.own [])]=some (.nx [‹.int i›,‹.int (10 ^ 60)›,some (.own [])]):=fun f=>ad2 (n:=1) (by
  unfold N6
  wp_walk using evD,g)
 refine B2 (ρ:=[‹.int i›,none,none]) rfl ?_
 unfold V8
 refine(B3 (ρ':=[‹.int i›,‹.int (10 ^ 60)›,none]) (by wp_walk using evD,p)).trans ?_
 refine(B3 (ρ':=[‹.int i›,‹.int (10 ^ 60)›,some (.own [])]) rfl).trans ((B3 (wh _)).trans ?_)
 refine(B3 (ρ':=[‹.int i›,‹.int (10 ^ 60)›,some (.own [.str (it i)])]) ?_).trans rfl
 simp only[V3,xg0,xg1,ak2 h (f:=A1 0) (ρ:=[‹.int i›,‹.int (10 ^ 60)›,some (.own [])]) rfl,List.length_nil,xms]
 rfl
theorem aM5{n:Nat}(h:n < 1000000):C6 [.int n]=some (.str (nt n)):=bb3 (by rw[Int.natAbs_natCast];exact h)
end Lk90
namespace Lk90
open PySem G L2 Sh
abbrev gl(c:Nat) (ws:List Str):Str:=Builtin.Str.glued (sg c) ws
abbrev sD(ws:List Str):List D:=ws.map PyData.str
theorem aN2:∀ws:List Str,n6 (sD ws)=some ws
 | []=>rfl
 | w::ws=>by show(n6 (sD ws)).map _=_;rw[aN2 ws];rfl
theorem bI2(c:Nat) (ws:List Str):cl (gl c ws)=jl c (ws.map cl):=by rw[gl,StrLaws.glued_eq_join,aj6]
theorem X5(a b:Str):(a++b).length=a.length+b.length:=by rw[← Z4,ae5,List.length_append,Z4,Z4]
theorem bk9{b c:Nat}:∀ws:List (List Nat),(∀w∈ws,w.length<=b)->(jl c ws).length<=(b+1)*ws.length
 | [],_=>Nat.zero_le _
 | [x],h=>by have:=h x (by simp);show x.length<=(b+1)*1;grind
 | x::y::r,h=>by
  have h1:=h x (by simp)
  have h2:=bk9 (c:=c) (y::r) fun w hw=>h w (List.mem_cons_of_mem _ hw)
  rw[jl,List.length_append,List.length_cons,List.length_cons (as:=y::r),Nat.mul_succ]
  grind
theorem bW7{b c:Nat}(ws:List Str) (h:∀w∈ws,w.length<=b):T9 (sg c) ws<=(b+1)*ws.length:=by
 have key:∀(ws:List Str) (n:Nat),(∀w∈ws,w.length<=b)->ws.foldl (fun n y=>n+y.length+(sg c).length) n<=n+(b+1)*ws.length:=by
  intro ws
  induction ws with
  | nil=>intro n _;simp
  | cons w ws ih =>
   intro n hw
   have h1:=hw w (by simp)
   have h2:=ih (n+w.length+(sg c).length) fun v hv=>hw v (List.mem_cons_of_mem _ hv)
   have h3:(sg c).length=1:=rfl
   rw[List.foldl_cons,List.length_cons,Nat.mul_succ]
   omega
 have:=key ws 0 h
 unfold T9
 rw[List.foldl_toArray]
 omega
theorem aJ1{b c:Nat}{ws:List Str}(h:∀w∈ws,w.length<=b):(gl c ws).length<=(b+1)*ws.length:=by
 have:=bk9 (c:=c) (b:=b) (ws.map cl) (fun w hw=>by obtain⟨v,hv,rfl⟩:=List.mem_map.mp hw;rw[Z4];exact h v hv)
 rw[List.length_map]at this
 rw[← Z4,bI2]
 exact this
theorem bo8{c b:Nat}{x:Str}{ws:List Str}{g:Rho->Option (Bool×List D)}{ρ:Rho}(hx:x=sg c) (hg:g ρ=some (false,sD ws)) (hb:∀w∈ws,w.length<=b) (hl:(b+1)*ws.length<=16777216):M4 (dC (.str x)) g ρ=some (.str (gl c ws)):=by
 subst hx
 have h1:=bW7 (c:=c) ws hb
 have h2:=aJ1 (c:=c) hb
 unfold M4
 rw[hg]
 show(if false=true then none else(n6 (sD ws)).bind _)=_
 rw[if_neg (by decide),aN2]
 show(if T9 (sg c) ws<=16777216/\(gl c ws).length<=16777216 then _ else _)=_
 rw[if_pos ⟨by grind,by grind⟩]
theorem aS7{a b:Str}(h:a.length+b.length<=16777216):A9 (.str a) (.str b)=some (.str (a++b)):=if_pos h
theorem U1{a b:List D}(h:a.length+b.length<=16777216):A9 (.list a) (.list b)=some (.list (a++b)):=if_pos h
def Al(p:Nat->Prop) (s:Str):Prop:=∀c∈cl s,p c
theorem Al.app{a b:Str}(h1:Al p a) (h2:Al p b):Al p (a++b):=fun c hc=>by
 rw[ae5]at hc
 exact(List.mem_append.mp hc).elim (h1 c) (h2 c)
theorem Al.sg(h:p c):Al p (sg c):=fun d hd=>by rw[show d=c by simpa [cl] using hd];exact h
theorem Al.imp(h:Al p s) (i:∀c,p c->q c):Al q s:=fun c hc=>i c (h c hc)
theorem bl1{p:Nat->Prop}(hc:p c):∀ws:List (List Nat),(∀w∈ws,∀d∈w,p d)->∀d∈jl c ws,p d
 | [],_,d,hd=>by simp[jl]at hd
 | [x],h,d,hd=>h x (by simp) d hd
 | x::y::r,h,d,hd=>by
  rw[jl]at hd
  rcases List.mem_append.mp hd with q|q
  ·exact h x (by simp) d q
  ·rcases List.mem_cons.mp q with rfl|q
   ·exact hc
   ·exact bl1 hc (y::r) (fun w hw=>h w (List.mem_cons_of_mem _ hw)) d q
theorem Al.gl{ws:List Str}(hc:p c) (h:∀w∈ws,Al p w):Al p (gl c ws):=fun d hd=>by
 rw[bI2]at hd
 exact bl1 hc _ (fun w hw=>by obtain⟨v,hv,rfl⟩:=List.mem_map.mp hw;exact h v hv) d hd
theorem Al.no(h:Al p s) (i:¬p c):c∉cl s:=fun hc=>i (h c hc)
def shT(r:Rat):Str:=if r.den=1 then nt r.num.natAbs else nt r.num.natAbs++sg 47++nt r.den
theorem sl_:("/" : Str)=sg 47:=by decide +kernel
theorem ex_:("x" : Str)=sg 120:=by decide +kernel
theorem co_:(":" : Str)=sg 58:=by decide +kernel
theorem cm_:("," : Str)=sg 44:=by decide +kernel
theorem bl_:(" " : Str)=sg 32:=by decide +kernel
theorem do_:("." : Str)=sg 46:=by decide +kernel
abbrev pN(c:Nat):Prop:=48<=c/\c<=57
abbrev pS(c:Nat):Prop:=47<=c/\c<=57
theorem au6{r:Rat}(h:Bd 8 r):r.num.natAbs < 256/\r.den < 256:=⟨h.num,h.den⟩
theorem ad0{r:Rat}(h:Bd 8 r):Al pS (shT r)/\(shT r).length<=21:=by
 obtain⟨n1,n2⟩:=au6 h
 have a1:=P6 (n:=r.num.natAbs) (by grind)
 have a2:=P6 (n:=r.den) (by grind)
 have i:∀c,pN c->pS c:=fun c h=>⟨by grind,h.2⟩
 have l1:=a1.l2
 have l2:=a2.l2
 unfold shT
 split
 ·exact⟨Al.imp a1.d i,by grind⟩
 ·refine⟨((Al.imp a1.d i).app (Al.sg ⟨by decide,by decide⟩)).app (Al.imp a2.d i),?_⟩
  rw[X5,X5,show(sg 47).length=1 from rfl];grind
theorem bD3(a b:Str) (c:Nat) (ha:a.length<=1000) (hb:b.length<=1000):A9 (.str a) (.str (sg c))=some (.str (a++sg c))/\A9 (.str (a++sg c)) (.str b)=some (.str (a++sg c++b)):=by
 have h1:(sg c).length=1:=rfl
 exact⟨aS7 (by grind),aS7 (by rw[X5];grind)⟩
theorem cl8{r:Rat}(d:r.den=1):((r.den:Int)==1)=true:=by rw[d];rfl
theorem cl7{r:Rat}(d:¬r.den=1):((r.den:Int)==1)=false:=beq_eq_false_iff_ne.mpr (by grind)
theorem aG2{r:Rat}(h:Bd 8 r):G1 [fr r]=some (.str (shT r)):=by
 have hn:=h.nat
 obtain⟨n1,n2⟩:=au6 h
 have w1:=aM5 (n:=r.num.natAbs) (by grind)
 have w2:=aM5 (n:=r.den) (by grind)
 rw[← hn]at w1
 have l1:=(P6 (n:=r.num.natAbs) (by grind)).l2
 have l2:=(P6 (n:=r.den) (by grind)).l2
 obtain⟨c1,c2⟩:=bD3 (nt r.num.natAbs) (nt r.den) 47 (by grind) (by grind)
 refine B2 (ρ:=[‹fr r›]) rfl ?_
 unfold shT
 by_cases d:r.den=1
 ·rw[if_pos d]
  wp_walk using evD,Q7,fr,cl8 d,w1
 ·rw[if_neg d]
  wp_walk using evD,Q7,fr,cl7 d,w1,w2,sl_,c1,c2
theorem ck4{q:Rho->Option (Bool×List D)}{g:DE}{ρ:Rho}{s:Bool×List D}{i:Int}(hq:q ρ=some s) (hi:g ρ=some (.int i)):dIx q g ρ=atI s.2 i:=by unfold dIx;rw[hq,xbs,hi];rfl
theorem aI4{r:Rat}(h:Bd 8 r):D6 [fr r]=some (.str (shT r)):=by
 have hn:=h.nat
 obtain⟨n1,n2⟩:=au6 h
 have l1:=(P6 (n:=r.num.natAbs) (by omega)).l2
 have l2:=(P6 (n:=r.den) (by omega)).l2
 obtain⟨c1,c2⟩:=bD3 (nt r.num.natAbs) (nt r.den) 47 (by omega) (by omega)
 have i0:dIx (A8 0) ⇑0 [‹fr r›]=some (.int r.num):=rfl
 have i1:dIx (A8 0) ⇑1 [‹fr r›]=some (.int r.den):=rfl
 have s1:=ak2 (i:=r.num) (by omega) i0
 have s2:=ak2 (i:=(r.den:Int)) (by omega) i1
 rw[show it r.num=nt r.num.natAbs by rw[nt,← hn]]at s1
 rw[show it (r.den:Int)=nt r.den from rfl]at s2
 have e:ai0 (A6 eqD (dIx (A8 0) ⇑1) ⇑1) [‹fr r›]=some (.int (if((r.den:Int)==1)=true then 1 else 0)):=rfl
 have l:qN (A0 (A6 A9 (A6 A9 (O4 (dIx (A8 0) ⇑0)) (dC (.str "/"))) (O4 (dIx (A8 0) ⇑1))) (A0 (O4 (dIx (A8 0) ⇑0)) A5)) [‹fr r›]=some (false,[.str (nt r.num.natAbs++sg 47++nt r.den),.str (nt r.num.natAbs)]):=by
  simp only[qN,A0,A5,A6,dC,s1,s2,sl_,c1,c2,xbs,xms]
 refine B2 (ρ:=[‹fr r›]) rfl ?_
 unfold shT f7 B6
 rw[ck4 l e]
 by_cases d:r.den=1
 ·rw[if_pos d,cl8 d];rfl
 ·rw[if_neg d,cl7 d];rfl
theorem ca7{F:List D->Option D}(hF:∀r,Bd 8 r->F [fr r]=some (.str (shT r))) {src:Rho->Option (List D)}{ρ:Rho}{rs:List Rat}(hs:src ρ=some (rs.map fr)) (hl:rs.length<=1000) (hb:∀r∈rs,Bd 8 r):qN (C5 1 [] src (C4 0) D1 (A2 F (A0 (A1 0) A5))) ρ=some (false,sD (rs.map shT)):=by
 have:=Q5 (caps:=[]) (e:=A2 F (A0 (A1 0) A5)) (ρ:=ρ) (l:=rs) (h:=fr) (f:=fun r=>.str (shT r)) (r:=[]) rfl hs hl fun r hr=>by wp_walk using evD,hF r (hb r hr)
 unfold qN
 rw[this,sD,List.map_map];rfl
theorem aQ5{F:List D->Option D}(hF:∀r,Bd 8 r->F [fr r]=some (.str (shT r))) {x:Str}{c:Nat}(hx:x=sg c) {src:Rho->Option (List D)}{ρ:Rho}{rs:List Rat}(hs:src ρ=some (rs.map fr)) (hl:rs.length<=1000) (hb:∀r∈rs,Bd 8 r):M4 (dC (.str x)) (qN (C5 1 [] src (C4 0) D1 (A2 F (A0 (A1 0) A5)))) ρ=some (.str (gl c (rs.map shT))) :=
 bo8 hx (ca7 hF hs hl hb) (b:=21) (fun w hw=>by obtain⟨r,hr,rfl⟩:=List.mem_map.mp hw;exact(ad0 (hb r hr)).2) (by rw[List.length_map];grind)
def qr(q:Q4):List Rat:=[q.c,q.x,q.y,q.z]
theorem aO1{q:Q4}(h:q.ok 8):∀r∈qr q,Bd 8 r:=by
 intro r hr
 simp only[qr,List.mem_cons,List.not_mem_nil,or_false]at hr
 rcases hr with rfl|rfl|rfl|rfl
 ·exact h.hc.bd
 ·exact h.hx
 ·exact h.hy
 ·exact h.hz
def spT(q:Q4):Str:=gl 58 ((qr q).map shT)
def mkT:Option (List Rat)->Str
 | none=>sg 46
 | some ms=>gl 44 (ms.map shT)
def szT(w h:Nat):Str:=nt w++sg 120++nt h
theorem bK0{q:Q4}(h:q.ok 8):N4 [q.d]=some (.str (spT q)):=by
 refine B2 (ρ:=[‹q.d›]) rfl ?_
 unfold Z7 B6
 rw[aQ5 (rs:=qr q) (c:=58) (fun r hr=>aG2 hr) co_ rfl (show 4<=1000 by decide) (aO1 h)];rfl
theorem bK1{mk:Option (List Rat)}(hm:∀ms,mk=some ms->ms.length<=1000/\∀r∈ms,Bd 8 r):T1 [mkD mk]=some (.str (mkT mk)):=by
 refine B2 (ρ:=[‹mkD mk›]) rfl ?_
 cases mk with
 | none=>rw[mkT,← do_];rfl
 | some ms =>
  obtain⟨h1,h2⟩:=hm ms rfl
  unfold Z9
  refine(B3 (ρ':=[‹mkD (some ms)›]) rfl).trans ?_
  unfold B6
  rw[aQ5 (rs:=ms) (c:=44) (fun r hr=>aG2 hr) cm_ rfl h1 h2];rfl
theorem bb0{w h:Nat}(hw:w < 1000) (hh:h < 1000) (x:D):J0 [.tuple [.int w,.int h,x]]=some (.str (szT w h)):=by
 have w1:=aM5 (n:=w) (by grind)
 have w2:=aM5 (n:=h) (by grind)
 have l1:=(P6 (n:=w) (by grind)).l2
 have l2:=(P6 (n:=h) (by grind)).l2
 obtain⟨c1,c2⟩:=bD3 (nt w) (nt h) 120 (by grind) (by grind)
 refine B2 (ρ:=[‹.tuple [.int w,.int h,x]›]) rfl ?_
 wp_walk using evD,Z8,w1,w2,ex_,c1,c2,szT
theorem bj1{w h:Nat}(hw:w < 1000) (hh:h < 1000) {f g:DE}{ρ:Rho}(hf:f ρ=some (.int w)) (hg:g ρ=some (.int h)):A6 A9 (A6 A9 (O4 f) (dC (.str "x"))) (O4 g) ρ=some (.str (szT w h)):=by
 have l1:=(P6 (n:=w) (by grind)).l2
 have l2:=(P6 (n:=h) (by grind)).l2
 obtain⟨c1,c2⟩:=bD3 (nt w) (nt h) 120 (by grind) (by grind)
 have s1:=ak2 (i:=(w:Int)) (by grind) hf
 have s2:=ak2 (i:=(h:Int)) (by grind) hg
 rw[show it (w:Int)=nt w from rfl]at s1
 rw[show it (h:Int)=nt h from rfl]at s2
 simp only[A6,dC,s1,s2,ex_,c1,c2,xbs,szT]
theorem aN4{l:List Q4}(hl:l.length<=1000) {src:Rho->Option (List D)}{ρ:Rho}{e:DE}(hs:src ρ=some (l.map Q4.d)) (he:∀q∈l,e [‹q.d›]=some (.str (spT q))):C5 1 [] src (C4 0) D1 e ρ=some (sD (l.map spT)):=by
 rw[Q5 (l:=l) (h:=Q4.d) (f:=fun q=>.str (spT q)) (r:=[]) rfl hs hl he,sD,List.map_map];rfl
theorem bS6{f:DE}{ρ:Rho}{x:D}(h:f ρ=some x):Y3 (A0 f A5) ρ=some (.list [x]):=by simp only[Y3,A0,A5,h,xbs,xms]
theorem bJ9{w h:Nat}(hw:w < 1000) (hh:h < 1000) {l:List Q4}(hl:l.length<=1000) (ho:∀q∈l,q.ok 8):K9 [shD w h l]=some (.list (sD (szT w h::l.map spT))):=by
 have z:A2 J0 (A0 (A1 0) A5) [‹shD w h l›]=some (.str (szT w h)):=by wp_walk using evD,shD,bb0 hw hh
 have c:=aN4 hl (src:=J3 (dIx (A8 0) ⇑2)) (ρ:=[‹shD w h l›]) (e:=A2 N4 (A0 (A1 0) A5)) rfl fun q hq=>by wp_walk using evD,bK0 (ho q hq)
 refine B2 (ρ:=[‹shD w h l›]) rfl ?_
 unfold V9 B6
 rw[R6 (bS6 z) (show Y3 _ _=some (.list (sD (l.map spT))) by unfold Y3;rw[c];rfl),U1 (by simp;grind)]
 rfl
end Lk90
namespace Lk90
open PySem G L2 Sh
def nmT:D->Str
 | .str s=>s
 | _=>sg 97
def pm(b:Bool):Str:=if b=true then sg 43 else sg 45
def hdW(k:Str) (nm:D) (m:Str) (s:Rat) (sh:Bool):List Str:=[k,nmT nm,m,shT s,pm sh]
def lyW(lf tp:Int) (mk:Option (List Rat)) (w h:Nat) (l:List Q4):List Str:=[it lf,it tp,mkT mk]++szT w h::l.map spT
mutual
def nw:Nd->List Str
 | .layer nm m s sh lf tp mk w h l _=>hdW "layer" nm m.s s sh++lyW lf tp mk w h l
 | .tone nm r s sh=>hdW "tone" nm r.s s sh
 | .group nm m s sh ns=>hdW "group" nm m.s s sh++[("[" : Str)]++nws ns++[("]" : Str)]
def nws:List Nd->List Str
 | []=>[]
 | n::r=>nw n++nws r
end
structure GL (lf tp:Int) (mk:Option (List Rat)) (w h:Nat) (l:List Q4):Prop where
 of:lf.natAbs<=2
 ot:tp.natAbs<=2
 w3:w<=3
 h3:h<=3
 len:l.length=w*h
 ok:∀q∈l,q.ok 8
 ms:∀ms,mk=some ms->ms.length=w*h/\∀r∈ms,Bd 8 r
 one:1<=w*h
theorem GL.wh{lf tp:Int}{mk:Option (List Rat)}{w h:Nat}{l:List Q4}(g:GL lf tp mk w h l):w*h<=9:=Nat.mul_le_mul g.w3 g.h3
mutual
def Gn:Nd->Prop
 | .layer nm _ s _ lf tp mk w h l _=>(Nm nm/\Bd 8 s)/\GL lf tp mk w h l
 | .tone nm _ s _=>Nm nm/\Bd 8 s
 | .group nm _ s _ ns=>(Nm nm/\Bd 8 s)/\Gns ns
def Gns:List Nd->Prop
 | []=>True
 | n::r=>Gn n/\Gns r
end
mutual
theorem cl0:∀n:Nd,n.Ok->n.near->(∀d∈n.nms,Nm d)->Gn n
 | .layer nm m s sh lf tp mk w h l kb,o,r,hn=>by
  rw[Nd.Ok]at o
  rw[Nd.near]at r
  rw[Nd.nms]at hn
  rw[Gn]
  obtain⟨o1,o2,o3,o4,_⟩:=o
  obtain⟨r1,r2,r3,r4,_,r6,r7,r8⟩:=r
  exact⟨⟨hn _ (by simp),o1.h.bd.mono (by decide)⟩,by grind,by grind,r6,r7,o2.len,r8,fun ms e=>⟨(o4 ms e).1,fun r hr=>((o4 ms e).2 r hr).h.bd.mono (by decide)⟩,Nat.mul_pos o2.w1 o2.h1⟩
 | .tone nm r s sh,o,_,hn=>by
  rw[Nd.Ok]at o
  rw[Nd.nms]at hn
  rw[Gn]
  exact⟨hn _ (by simp),o.h.bd.mono (by decide)⟩
 | .group nm m s sh ns,o,r,hn=>by
  rw[Nd.Ok]at o
  rw[Nd.near]at r
  rw[Nd.nms]at hn
  rw[Gn]
  exact⟨⟨hn _ (by simp),o.1.h.bd.mono (by decide)⟩,gns_of ns o.2 r fun d hd=>hn d (List.mem_cons_of_mem _ hd)⟩
theorem gns_of:∀l:List Nd,Nd.Oks l->Nd.nears l->(∀d∈Nd.nmss l,Nm d)->Gns l
 | [],_,_,_=>by rw[Gns];trivial
 | n::r,o,p,hn=>by
  rw[Nd.Oks]at o
  rw[Nd.nears]at p
  rw[Nd.nmss]at hn
  rw[Gns]
  exact⟨cl0 n o.1 p.1 fun d hd=>hn d (List.mem_append_left _ hd),gns_of r o.2 p.2 fun d hd=>hn d (List.mem_append_right _ hd)⟩
end
abbrev pW(c:Nat):Prop:=33<=c/\c<=122
def Wd(s:Str):Prop:=Al pW s/\s.length<=250
theorem m9{s:Str}(h:(cl s).all (fun c=>decide (33<=c/\c<=122))=true) (l:s.length<=250):Wd s:=⟨fun c hc=>of_decide_eq_true (List.all_eq_true.mp h c hc),l⟩
theorem ch6{i:Int}(h:i.natAbs<=2):i = -2\/i = -1\/i=0\/i=1\/i=2:=by grind
theorem bH4{i:Int}(h:i.natAbs<=2):Wd (it i):=by
 rcases ch6 h with rfl|rfl|rfl|rfl|rfl<;>exact m9 (by decide +kernel) (by decide +kernel)
theorem bF8{r:Rat}(h:Bd 8 r):Wd (shT r):=⟨(ad0 h).1.imp fun c h=>⟨by grind,by grind⟩,by have:=(ad0 h).2;grind⟩
theorem bH6{c:Nat}(hc:pW c) {rs:List Rat}(hl:rs.length<=9) (h:∀r∈rs,Bd 8 r):Wd (gl c (rs.map shT)):=by
 refine⟨Al.gl hc fun w hw=>?_,?_⟩
 ·obtain⟨r,hr,rfl⟩:=List.mem_map.mp hw
  exact(bF8 (h r hr)).1
 ·have:=aJ1 (c:=c) (b:=21) (ws:=rs.map shT) fun w hw=>by
   obtain⟨r,hr,rfl⟩:=List.mem_map.mp hw
   exact(ad0 (h r hr)).2
  rw[List.length_map]at this
  grind
theorem bF7{w h:Nat}(hw:w<=9) (hh:h<=9):Wd (szT w h):=by
 have a1:=P6 (n:=w) (by grind)
 have a2:=P6 (n:=h) (by grind)
 have l1:=a1.l2
 have l2:=a2.l2
 have i:∀c,pN c->pW c:=fun c h=>⟨by grind,by grind⟩
 unfold szT
 refine⟨((Al.imp a1.d i).app (Al.sg ⟨by decide,by decide⟩)).app (Al.imp a2.d i),?_⟩
 rw[X5,X5,show(sg 120).length=1 from rfl];grind
theorem bn1{k m:Str}{nm:D}{s:Rat}{sh:Bool}(hk:Wd k) (hm:Wd m) (hn:Nm nm) (hs:Bd 8 s):∀w∈hdW k nm m s sh,Wd w:=by
 intro w hw
 obtain⟨x,rfl,x1,x2,x3⟩:=hn
 simp only[hdW,List.mem_cons,List.not_mem_nil,or_false]at hw
 rcases hw with rfl|rfl|rfl|rfl|rfl
 ·exact hk
 ·exact⟨fun c hc=>⟨by have:=x1 c hc;grind,(x1 c hc).2⟩,Nat.le_trans x3 (by decide)⟩
 ·exact hm
 ·exact bF8 hs
 ·cases sh<;>exact m9 (by decide +kernel) (by decide +kernel)
theorem ci4(g:GL lf tp mk w h l):∀v∈lyW lf tp mk w h l,Wd v:=by
 intro v hv
 have wh:=g.wh
 simp only[lyW,xca,xna,List.mem_cons,List.mem_map]at hv
 rcases hv with rfl|rfl|rfl|rfl|⟨q,hq,rfl⟩
 ·exact bH4 g.of
 ·exact bH4 g.ot
 ·cases mk with
  | none=>exact m9 (by decide +kernel) (by decide +kernel)
  | some ms =>
   obtain⟨m1,m2⟩:=g.ms ms rfl
   exact bH6 ⟨by decide,by decide⟩ (by grind) m2
 ·exact bF7 (by have:=g.w3;grind) (by have:=g.h3;grind)
 ·exact bH6 ⟨by decide,by decide⟩ (show 4<=9 by decide) (aO1 (g.ok q hq))
theorem bi7(m:Man):Wd m.s:=by cases m<;>exact m9 (by decide +kernel) (by decide +kernel)
theorem bN7(m:Rul):Wd m.s:=by cases m<;>exact m9 (by decide +kernel) (by decide +kernel)
mutual
theorem ci2:∀n:Nd,Gn n->(∀w∈nw n,Wd w)/\(nw n).length<=20*n.nms.length
 | .layer nm m s sh lf tp mk w h l kb,g=>by
  rw[Gn]at g
  rw[nw,Nd.nms]
  refine⟨fun v hv=>(List.mem_append.mp hv).elim (bn1 (m9 (by decide +kernel) (by decide +kernel)) (bi7 m) g.1.1 g.1.2 v) (ci4 g.2 v),?_⟩
  have h1:=g.2.wh
  have h2:=g.2.len
  simp only[hdW,lyW,List.length_append,List.length_cons,List.length_nil,List.length_map]
  grind
 | .tone nm r s sh,g=>by
  rw[Gn]at g
  rw[nw,Nd.nms]
  exact⟨bn1 (m9 (by decide +kernel) (by decide +kernel)) (bN7 r) g.1 g.2,by simp[hdW]⟩
 | .group nm m s sh ns,g=>by
  rw[Gn]at g
  rw[nw,Nd.nms]
  obtain⟨i1,i2⟩:=nws_wd ns g.2
  refine⟨fun v hv=>?_,?_⟩
  ·rcases List.mem_append.mp hv with hv|hv
   ·rcases List.mem_append.mp hv with hv|hv
    ·rcases List.mem_append.mp hv with hv|hv
     ·exact bn1 (m9 (by decide +kernel) (by decide +kernel)) (bi7 m) g.1.1 g.1.2 v hv
     ·rw[List.mem_singleton.mp hv];exact m9 (by decide +kernel) (by decide +kernel)
    ·exact i1 v hv
   ·rw[List.mem_singleton.mp hv];exact m9 (by decide +kernel) (by decide +kernel)
  ·simp only[hdW,List.length_append,List.length_cons,List.length_nil]
   grind
theorem nws_wd:∀l:List Nd,Gns l->(∀w∈nws l,Wd w)/\(nws l).length<=20*(Nd.nmss l).length
 | [],_=>by rw[nws];exact⟨fun w hw=>by simp at hw,Nat.zero_le _⟩
 | n::r,g=>by
  rw[Gns]at g
  rw[nws,Nd.nmss]
  obtain⟨i1,i2⟩:=ci2 n g.1
  obtain⟨j1,j2⟩:=nws_wd r g.2
  refine⟨fun v hv=>(List.mem_append.mp hv).elim (i1 v) (j1 v),?_⟩
  rw[List.length_append,List.length_append]
  grind
end
theorem bK2{nm:D}{m:Man}{s:Rat}{sh:Bool}{kb:Nat}(g:GL lf tp mk w h l):F0 [Nd.d (.layer nm m s sh lf tp mk w h l kb)]=some (.list (sD (lyW lf tp mk w h l))):=by
 have h1:=g.wh
 have h2:=g.len
 have h3:=g.of
 have h4:=g.ot
 have h5:=g.w3
 have h6:=g.h3
 have e1:=bb3 (i:=lf) (by grind)
 have e2:=bb3 (i:=tp) (by grind)
 have e3:=bK1 (mk:=mk) fun ms e=>⟨by have:=(g.ms ms e).1;grind,(g.ms ms e).2⟩
 have e4:=bJ9 (w:=w) (h:=h) (l:=l) (by grind) (by grind) (by grind) g.ok
 have key:∀Z:List D,K9 [shD w h l]=some (.list Z)->Z.length<=1000->F0 [Nd.d (.layer nm m s sh lf tp mk w h l kb)]=some (.list ([.str (it lf),.str (it tp),.str (mkT mk)]++Z)):=fun Z e hz=>by
  have c:=U1 (a:=[.str (it lf),.str (it tp),.str (mkT mk)]) (b:=Z) (by simp;grind)
  refine B2 (ρ:=[‹Nd.d (.layer nm m s sh lf tp mk w h l kb)›,none]) rfl ?_
  wp_walk using evD,N3,bT3,cj0,bT2,bz1,e1,e2,e3,e,c
 exact key _ e4 (by simp;grind)
theorem hdr{d:D}{k m:Str}{nm:D}{s:Rat}{sh:Bool}(e0:O9 [d]=some (.str k)) (e1:M6 [d]=some nm) (hn:Nm nm) (e2:F5 [d]=some (.str m)) (e3:E5 [d]=some (fr s)) (hs:Bd 8 s) (e4:G6 [d]=some (.bool sh)) (R:DS) :
  B0 (L5 1 (A0 (A2 O9 (A0 (A1 0) A5)) (A0 (A2 M6 (A0 (A1 0) A5)) (A0 (A2 F5 (A0 (A1 0) A5)) (A0 (A2 G1 (A0 (A2 E5 (A0 (A1 0) A5)) A5)) A5))))) (B0 (V3 1 (ae4 (G9 (A2 G6 (A0 (A1 0) A5))) (dC (.str "+")) (dC (.str "-")))) R) [‹d›,none]=R [‹d›,some (.own (sD (hdW k nm m s sh)))]:=by
 obtain⟨x,rfl,_⟩:=hn
 refine(B3 (ρ':=[‹d›,some (.own [.str k,.str x,.str m,.str (shT s)])]) (by wp_walk using evD,L5,e0,e1,e2,e3,aG2 hs)).trans ?_
 have p1:("+" : Str)=sg 43:=by decide +kernel
 have p2:("-" : Str)=sg 45:=by decide +kernel
 refine B3 ?_
 have e5:ae4 (G9 (A2 G6 (A0 (A1 0) A5))) (dC (.str "+")) (dC (.str "-")) [‹d›,some (.own [.str k,.str x,.str m,.str (shT s)])]=some (.str (pm sh)):=by
  cases sh<;>wp_walk using evD,ae4,e4,p1,p2,pm
 simp only[V3,xg0,xg1,e5,xms]
 rfl
theorem bb1{f:List D->Option D}{a0:Option B}:∀(l:List Nd) (X:List D) (a2:Option B),(∀n∈l,f [n.d]=some (.list (sD (nw n))))->X.length+(nws l).length<=1000000->∃b2,ad9 (C4 2) (au8 1 (A2 f (A0 (A1 2) A5))) (Nd.ds l) [a0,some (.own X),a2]=some (.nx [a0,some (.own (X++sD (nws l))),b2])
 | [],X,a2,_,_=>⟨a2,by rw[Nd.ds,nws,sD,xmn,List.append_nil];rfl⟩
 | n::r,X,a2,H,hl=>by
  rw[nws,List.length_append]at hl
  obtain⟨b2,e⟩:=bb1 (f:=f) (a0:=a0) r (X++sD (nw n)) (‹n.d›) (fun n hn=>H n (List.mem_cons_of_mem _ hn)) (by rw[List.length_append,List.length_map];grind)
  have c:X.length+(sD (nw n)).length<=16777216:=by rw[List.length_map];grind
  refine⟨b2,?_⟩
  rw[Nd.ds,nws,sD,List.map_append,← List.append_assoc]
  unfold ad9
  simp only[C4,au8,A2,A0,A5,A1,xw0,xw1,xg0,xg1,xbs,xms,H n (List.mem_cons_self ..),if_pos c]
  exact e
theorem fz1(a:Option B) (X:List D):frz 1 [a,some (.own X)]=[a,‹.list X›]:=rfl
theorem bnd{n:Nat}{l:List Nd}(h:(Nd.nmss l).length<=n) (g:Gns l):(nws l).length<=20*n:=Nat.le_trans (nws_wd l g).2 (Nat.mul_le_mul_left _ h)
mutual
theorem cc9:∀(n:Nd) (k:Nat),2*n.dp+1<=k->Gn n->n.nms.length<=1000->B1 k 0 [n.d]=some (.list (sD (nw n)))
 | _,0,hk,_,_=>absurd hk (by grind)
 | .layer nm m s sh lf tp mk w h l kb,k+1,_,g,_=>by
  rw[Gn]at g
  have wh:=g.2.wh
  have hl:=g.2.len
  have c:=U1 (a:=sD (hdW "layer" nm m.s s sh)) (b:=sD (lyW lf tp mk w h l)) (by simp[hdW,lyW];grind)
  refine B2 (ρ:=[‹Nd.d (.layer nm m s sh lf tp mk w h l kb)›,none]) rfl ?_
  unfold L7
  refine(hdr (k := "layer") (by rw[Nd.d];kernel_rfl) (by rw[Nd.d];kernel_rfl) g.1.1 bj5 aI6 g.1.2 bz0 _).trans (aH5 ?_)
  wp_walk using evD,k7,fz1,aQ1,bK2 g.2,c
  rw[nw,sD,sD,sD,List.map_append]
 | .tone nm r s sh,k+1,_,g,_=>by
  rw[Gn]at g
  have tg:F8 [Nd.d (.tone nm r s sh)]=some (.bool false):=P9 _
  refine B2 (ρ:=[‹Nd.d (.tone nm r s sh)›,none]) rfl ?_
  unfold L7
  refine(hdr (k := "tone") (m:=r.s) (by rw[Nd.d];kernel_rfl) (by rw[Nd.d];kernel_rfl) g.1 (by rw[Nd.d];kernel_rfl) aG8 g.2 bt2 _).trans ?_
  wp_walk using evD,k7,fz1,aN0,tg,nw
 | .group nm m s sh ns,k+1,hk,g,hn=>by
  rw[Gn]at g
  rw[Nd.dp]at hk
  rw[Nd.nms,List.length_cons]at hn
  have gg:F8 [Nd.d (.group nm m s sh ns)]=some (.bool true):=P9 _
  obtain⟨k,rfl⟩:∃j,k=j+1:=⟨k - 1,by grind⟩
  have b:=bnd (n:=1000) (l:=ns) (by grind) g.2
  obtain⟨b2,lp⟩:=bb1 (f:=B1 k 0) (a0:=‹↥ns›) ns [] none (wns ns k (by grind) g.2 (by grind)) (by simp;grind)
  have e:B1 (k+1) 1 [↥ns]=some (.list (sD (nws ns))):=by
   refine B2 (ρ:=[‹↥ns›,none,none]) rfl ?_
   unfold O7
   refine(B3 (ρ':=[‹↥ns›,some (.own []),none]) rfl).trans ((B3 lp).trans rfl)
  have c1:=U1 (a:=sD (hdW "group" nm m.s s sh)) (b:=[.str "["]) (by simp[hdW])
  have c2:=U1 (a:=sD (hdW "group" nm m.s s sh)++[.str "["]) (b:=sD (nws ns)) (by simp[hdW];grind)
  have c3:=U1 (a:=sD (hdW "group" nm m.s s sh)++[.str "["]++sD (nws ns)) (b:=[.str "]"]) (by simp[hdW];grind)
  refine B2 (ρ:=[‹Nd.d (.group nm m s sh ns)›,none]) rfl ?_
  unfold L7
  refine(hdr (k := "group") (by rw[Nd.d];kernel_rfl) (by rw[Nd.d];kernel_rfl) g.1.1 bn8 aJ3 g.1.2 bC0 _).trans ?_
  refine(B3 (ρ':=[‹Nd.d (.group nm m s sh ns)›,some (.own (sD (hdW "group" nm m.s s sh)))]) (by wp_walk using evD,aR5)).trans (aH5 ?_)
  simp only[k7,fz1,sIf,G9,bc8,A2,A0,A5,A1,xg0,xg1,xbs,xms,gg,if_true,B6,A6,Y3,dC,bC1,e,c1,c2,c3]
  rw[nw,sD,sD,sD,List.map_append,List.map_append,List.map_append]
  rfl
theorem wns:∀(l:List Nd) (k:Nat),2*Nd.dps l+1<=k->Gns l->(Nd.nmss l).length<=1000->∀n∈l,B1 k 0 [n.d]=some (.list (sD (nw n)))
 | [],_,_,_,_,n,hn=>by simp at hn
 | m::r,k,hk,g,hl,n,hn=>by
  rw[Gns]at g
  rw[Nd.dps]at hk
  rw[Nd.nmss,List.length_append]at hl
  have h1:=Nat.le_max_left m.dp (Nd.dps r)
  have h2:=Nat.le_max_right m.dp (Nd.dps r)
  rcases List.mem_cons.mp hn with q|q
  ·rw[q];exact cc9 m k (by grind) g.1 (by grind)
  ·exact wns r k (by grind) g.2 (by grind) n q
end
theorem ai4{w h:Nat}{l:List Nd}(w8:w<=9) (h8:h<=9) (g:Gns l) (hl:(Nd.nmss l).length<=1000):(∀v∈szT w h::nws l,Wd v)/\(szT w h::nws l).length<=20001:=by
 refine⟨fun v hv=>?_,by have:=bnd hl g;rw[List.length_cons];grind⟩
 rcases List.mem_cons.mp hv with rfl|q
 ·exact bF7 w8 h8
 ·exact(nws_wd l g).1 v q
theorem aj9{w h:Nat}{l:List Nd}(w8:w<=9) (h8:h<=9) (g:Gns l) (hl:(Nd.nmss l).length<=1000) (hd:Nd.dps l<=3):W0 [N9 w h l]=some (.str (gl 32 (szT w h::nws l))):=by
 have b:=bnd hl g
 obtain⟨b2,lp⟩:=bb1 (f:=B1 11 0) (a0:=‹↥l›) l [] none (wns l 11 (by grind) g hl) (by simp;grind)
 have e:L0 12 [↥l]=some (.list (sD (nws l))):=by
  refine B2 (ρ:=[‹↥l›,none,none]) rfl ?_
  unfold O7
  refine(B3 (ρ':=[‹↥l›,some (.own []),none]) rfl).trans ((B3 lp).trans rfl)
 obtain⟨t1,t2⟩:=ai4 w8 h8 g hl
 refine B2 (ρ:=[‹N9 w h l›]) rfl ?_
 have z:A2 J0 (A0 (A1 0) A5) [‹N9 w h l›]=some (.str (szT w h)):=by wp_walk using evD,N9,bb0 (w:=w) (h:=h) (by grind) (by grind)
 have n:A2 (L0 12) (A0 (dIx (A8 0) ⇑2) A5) [‹N9 w h l›]=some (.list (sD (nws l))):=by wp_walk using evD,N9,e
 unfold as9 B6
 rw[bo8 (b:=250) (ws:=szT w h::nws l) bl_ (by unfold qE;rw[R6 (bS6 z) n,U1 (by simp;grind)];rfl) (fun v hv=>(t1 v hv).2) (by grind)]
 rfl
end Lk90
namespace Lk90
open PySem G L2 Sh
theorem ai9{f g:Rho->Option (Bool×List D)}{ρ:Rho}{xs ys:List D}(hf:f ρ=some (false,xs)) (hg:g ρ=some (false,ys)) (h:xs.length+ys.length<=16777216):ad5 f g ρ=some (xs++ys):=by
 unfold ad5
 rw[hf,xbs,hg,xbs,if_pos ⟨rfl,rfl,h⟩]
theorem bG2{f:Rho->Option (List D)}{ρ:Rho}{xs:List D}(h:f ρ=some xs):qN f ρ=some (false,xs):=by unfold qN;rw[h];rfl
theorem au9(a b:List Str):sD (a++b)=sD a++sD b:=List.map_append
theorem al1{i:Nat}{f:Rho->Option (List D)}{ρ:Rho}{ds:List D}(h:f ρ=some ds):L5 i f ρ=some (.nx (ρ.set i (some (.own ds)))):=by unfold L5;rw[h];rfl
def At0(d:D) (i:Int) (x:D):Prop:=∀t,dIx (A8 0) (dC (.int i)) (‹d›::t)=some x
theorem bS9{d:D}{k m:Str}{nm:D}{s:Rat}{sh:Bool}(e0:At0 d 0 (.str k)) (e1:At0 d 1 nm) (e2:At0 d 2 (.str m)) (e3:At0 d 3 (fr s)) (e4:At0 d 4 (.bool sh)) (hn:Nm nm) (hs:Bd 8 s) (t:Rho) (R:DS) :
  B0 (L5 1 (A0 (dIx (A8 0) ⇑0) (A0 (dIx (A8 0) ⇑1) (A0 (dIx (A8 0) ⇑2) (A0 (A2 D6 (A0 (dIx (A8 0) ⇑3) A5)) (A0 (X8 (dC (.str "-+")) (ai0 (dIx (A8 0) ⇑4))) A5)))))) R (‹d›::none::t)=R (‹d›::some (.own (sD (hdW k nm m s sh)))::t):=by
 obtain⟨x,rfl,_⟩:=hn
 have p:X8 (dC (.str "-+")) (ai0 (dIx (A8 0) ⇑4)) (‹d›::none::t)=some (.str (pm sh)):=by
  unfold X8 ai0
  rw[e4]
  cases sh
  ·show atS "-+" 0=some (.str (sg 45))
   kernel_rfl
  ·show atS "-+" 1=some (.str (sg 43))
   kernel_rfl
 refine(B3 (al1 (i:=1) (ds:=sD (hdW k (.str x) m s sh)) ?_)).trans rfl
 unfold At0 at e0 e1 e2 e3 e4
 simp only[A0,A5,A2,e0,e1,e2,e3,aI4 hs,p,xbs,xms]
 rfl
theorem ifk{d:D}{k y:Str}{b:Bool}(e0:At0 d 0 (.str k)) (he:eqD (.str k) (.str y)=some (.bool b)) {f g:DS}{t:Rho}:sIf (tB2 eqD (dIx (A8 0) ⇑0) (dC (.str y))) f g (‹d›::t)=(if b=true then f (‹d›::t) else g (‹d›::t)):=by
 unfold At0 at e0
 simp only[sIf,tB2,A6,dC,e0,he,U9,xbs]
def lyb:DS:=(B0 (L5 1 (ad5 (A8 1) (qN (A0 (O4 (dIx (A8 0) ⇑5)) (A0 (O4 (dIx (A8 0) ⇑6)) A5))))) (B0 (C3 3 (dC (.str "."))) (B0 (sIf (tB2 aV2 (dIx (A8 0) ⇑7) (dC .none)) (C3 3 (M4 (dC (.str ",")) (qN (C5 1 [] (J3 (dIx (A8 0) ⇑7)) (C4 0) D1 (A2 D6 (A0 (A1 0) A5)))))) G5) (B0 (av0 (dIx (A8 0) ⇑8) (n9 3 (J9 (C4 4) (J9 (C4 5) (J9 (C4 6) ag4))))) (B0 (L5 1 (ad5 (A8 1) (qN (A0 (A1 3) (A0 (A6 A9 (A6 A9 (O4 (A1 4)) (dC (.str "x"))) (O4 (A1 5))) A5))))) (L5 1 (ad5 (A8 1) (qN (C5 1 [] (J3 (A1 6)) (C4 0) D1 (M4 (dC (.str ":")) (qN (C5 1 [] (J3 (A1 0)) (C4 0) D1 (A2 D6 (A0 (A1 0) A5))))))))))))))
theorem bS1{d:D}(g:GL lf tp mk w h l) (e5:At0 d 5 (.int lf)) (e6:At0 d 6 (.int tp)) (e7:At0 d 7 (mkD mk)) (e8:At0 d 8 (shD w h l)) {X:List D}(hX:X.length<=10):∃t,lyb [‹d›,some (.own X),none,none,none,none,none]=some (.nx (‹d›::some (.own (X++sD (lyW lf tp mk w h l)))::t)):=by
 have h1:=g.wh
 have h2:=g.len
 have h3:=g.of
 have h4:=g.ot
 have h5:=g.w3
 have h6:=g.h3
 have a1:qN (A0 (O4 (dIx (A8 0) ⇑5)) (A0 (O4 (dIx (A8 0) ⇑6)) A5)) [‹d›,some (.own X),none,none,none,none,none]=some (false,[.str (it lf),.str (it tp)]):=by
  simp only[qN,A0,A5,ak2 (by grind) (e5 _),ak2 (by grind) (e6 _),xbs,xms]
 have a3:sIf (tB2 aV2 (dIx (A8 0) ⇑7) (dC .none)) (C3 3 (M4 (dC (.str ",")) (qN (C5 1 [] (J3 (dIx (A8 0) ⇑7)) (C4 0) D1 (A2 D6 (A0 (A1 0) A5)))))) G5 [‹d›,some (.own (X++[.str (it lf),.str (it tp)])),none,‹.str "."›,none,none,none]=some (.nx [‹d›,some (.own (X++[.str (it lf),.str (it tp)])),none,‹.str (mkT mk)›,none,none,none]):=by
  unfold sIf tB2
  rw[R6 (e7 _) rfl]
  cases mk with
  | none=>rw[mkT,← do_];rfl
  | some ms =>
   obtain⟨m1,m2⟩:=g.ms ms rfl
   have j:=aQ5 (rs:=ms) (c:=44) (fun r hr=>aI4 hr) cm_ (src:=J3 (dIx (A8 0) ⇑7)) (ρ:=[‹d›,some (.own (X++[.str (it lf),.str (it tp)])),none,‹.str "."›,none,none,none]) (by unfold J3;rw[e7];rfl) (by grind) m2
   show C3 3 _ _=_
   unfold C3
   rw[j]
   rfl
 have a4:av0 (dIx (A8 0) ⇑8) (n9 3 (J9 (C4 4) (J9 (C4 5) (J9 (C4 6) ag4)))) [‹d›,some (.own (X++[.str (it lf),.str (it tp)])),none,‹.str (mkT mk)›,none,none,none]=some (.nx [‹d›,some (.own (X++[.str (it lf),.str (it tp)])),none,‹.str (mkT mk)›,‹.int w›,‹.int h›,‹.tuple (l.map Q4.d)›]):=by
  unfold av0
  rw[e8]
  rfl
 have a5:qN (A0 (A1 3) (A0 (A6 A9 (A6 A9 (O4 (A1 4)) (dC (.str "x"))) (O4 (A1 5))) A5)) [‹d›,some (.own (X++[.str (it lf),.str (it tp)])),none,‹.str (mkT mk)›,‹.int w›,‹.int h›,‹.tuple (l.map Q4.d)›]=some (false,[.str (mkT mk),.str (szT w h)]):=by
  unfold qN A0 A5
  rw[bj1 (w:=w) (h:=h) (by grind) (by grind) rfl rfl]
  rfl
 have a6:=aN4 (l:=l) (by grind) (src:=J3 (A1 6)) (ρ:=[‹d›,some (.own (X++[.str (it lf),.str (it tp)]++[.str (mkT mk),.str (szT w h)])),none,‹.str (mkT mk)›,‹.int w›,‹.int h›,‹.tuple (l.map Q4.d)›]) (e:=M4 (dC (.str ":")) (qN (C5 1 [] (J3 (A1 0)) (C4 0) D1 (A2 D6 (A0 (A1 0) A5))))) rfl fun q hq=>aQ5 (rs:=qr q) (c:=58) (fun r hr=>aI4 hr) co_ rfl (show 4<=1000 by decide) (aO1 (g.ok q hq))
 refine⟨[none,‹.str (mkT mk)›,‹.int w›,‹.int h›,‹.tuple (l.map Q4.d)›],?_⟩
 unfold lyb
 refine(B3 (al1 (ai9 rfl a1 (by simp;grind)))).trans ?_
 refine(B3 rfl).trans ((B3 a3).trans ((B3 a4).trans ?_))
 refine(B3 (al1 (ai9 rfl a5 (by simp;grind)))).trans ?_
 refine(al1 (ai9 rfl (bG2 a6) (by simp;grind))).trans ?_
 rw[show X++sD (lyW lf tp mk w h l)=X++[.str (it lf),.str (it tp)]++[.str (mkT mk),.str (szT w h)]++sD (l.map spT) by rw[lyW,List.append_assoc,List.append_assoc];rfl]
 rfl
theorem bG8{f:List D->Option D}{a0:Option B}:∀(l:List Nd) (X:List D) (a2:Option B),(∀n∈l,f [n.d]=some (.list (sD (nw n))))->X.length+(nws l).length<=1000000->∃b2,ad9 (C4 2) (L5 1 (ad5 (A8 1) (qE (A2 f (A0 (A1 2) A5))))) (Nd.ds l) [a0,some (.own X),a2,none,none,none,none]=some (.nx [a0,some (.own (X++sD (nws l))),b2,none,none,none,none])
 | [],X,a2,_,_=>⟨a2,by rw[Nd.ds,nws,sD,xmn,List.append_nil];rfl⟩
 | n::r,X,a2,H,hl=>by
  rw[nws,List.length_append]at hl
  obtain⟨b2,e⟩:=bG8 (f:=f) (a0:=a0) r (X++sD (nw n)) (‹n.d›) (fun n hn=>H n (List.mem_cons_of_mem _ hn)) (by rw[List.length_append,List.length_map];grind)
  have c:X.length+(sD (nw n)).length<=16777216:=by rw[List.length_map];grind
  have q:qE (A2 f (A0 (A1 2) A5)) [a0,some (.own X),‹n.d›,none,none,none,none]=some (false,sD (nw n)):=by wp_walk using evD,H n (List.mem_cons_self ..)
  have s:=al1 (i:=1) (ai9 (f:=A8 1) rfl q c)
  refine⟨b2,?_⟩
  rw[Nd.ds,nws,sD,List.map_append,← List.append_assoc]
  unfold ad9
  show(L5 1 _ [a0,some (.own X),‹n.d›,none,none,none,none]).bind _=_
  rw[s]
  exact e
mutual
theorem ci7:∀(n:Nd) (k:Nat),n.dp+1<=k->Gn n->n.nms.length<=1000->M7 k [n.d]=some (.list (sD (nw n)))
 | _,0,hk,_,_=>absurd hk (by grind)
 | .layer nm m s sh lf tp mk w h l kb,k+1,_,g,_=>by
  rw[Gn]at g
  have a:∀{i:Int}{x:D},At0 (.tuple [.str "layer", nm,.str m.s,fr s,.bool sh,.int lf,.int tp,mkD mk,shD w h l]) i x->At0 (Nd.d (.layer nm m s sh lf tp mk w h l kb)) i x:=fun h=>by rw[Nd.d];exact h
  have e0:At0 (Nd.d (.layer nm m s sh lf tp mk w h l kb)) 0 (.str "layer"):=a fun _=>rfl
  obtain⟨t,lb⟩:=bS1 (d:=Nd.d (.layer nm m s sh lf tp mk w h l kb)) g.2 (a fun _=>rfl) (a fun _=>rfl) (a fun _=>rfl) (a fun _=>rfl) (X:=sD (hdW "layer" nm m.s s sh)) (by simp[hdW])
  refine B2 (ρ:=[‹Nd.d (.layer nm m s sh lf tp mk w h l kb)›,none,none,none,none,none,none]) rfl ?_
  unfold j5
  refine(bS9 e0 (a fun _=>rfl) (a fun _=>rfl) (a fun _=>rfl) (a fun _=>rfl) g.1.1 g.1.2 _ _).trans ?_
  refine(B3 (ifk e0 cl4)).trans ((B3 ((ifk e0 ca0).trans lb)).trans ?_)
  rw[nw,au9]
  rfl
 | .tone nm r s sh,k+1,_,g,_=>by
  rw[Gn]at g
  have a:∀{i:Int}{x:D},At0 (.tuple [.str "tone", nm,.str r.s,fr s,.bool sh]) i x->At0 (Nd.d (.tone nm r s sh)) i x:=fun h=>by rw[Nd.d];exact h
  have e0:At0 (Nd.d (.tone nm r s sh)) 0 (.str "tone"):=a fun _=>rfl
  have t1:eqD (.str "tone") (.str "group")=some (.bool false):=G7 (by decide +kernel) (by decide +kernel) (by decide +kernel)
  have t2:eqD (.str "tone") (.str "layer")=some (.bool false):=G7 (by decide +kernel) (by decide +kernel) (by decide +kernel)
  refine B2 (ρ:=[‹Nd.d (.tone nm r s sh)›,none,none,none,none,none,none]) rfl ?_
  unfold j5
  refine(bS9 e0 (a fun _=>rfl) (a fun _=>rfl) (a fun _=>rfl) (a fun _=>rfl) g.1 g.2 _ _).trans ?_
  refine(B3 (ifk e0 t1)).trans ((B3 (ifk e0 t2)).trans ?_)
  rw[nw]
  rfl
 | .group nm m s sh ns,k+1,hk,g,hn=>by
  rw[Gn]at g
  rw[Nd.dp]at hk
  rw[Nd.nms,List.length_cons]at hn
  have a:∀{i:Int}{x:D},At0 (.tuple [.str "group", nm,.str m.s,fr s,.bool sh,↥ns]) i x->At0 (Nd.d (.group nm m s sh ns)) i x:=fun h=>by rw[Nd.d];exact h
  have e0:At0 (Nd.d (.group nm m s sh ns)) 0 (.str "group"):=a fun _=>rfl
  have e5:At0 (Nd.d (.group nm m s sh ns)) 5 ↥ns:=a fun _=>rfl
  have b:=bnd (n:=1000) (l:=ns) (by grind) g.2
  obtain⟨b2,lp⟩:=bG8 (f:=M7 k) (a0:=‹Nd.d (.group nm m s sh ns)›) ns (sD (hdW "group" nm m.s s sh)++[.str "["]) none (lns ns k (by grind) g.2 (by grind)) (by simp[hdW];grind)
  have fl:k8 (J3 (dIx (A8 0) ⇑5)) (C4 2) (L5 1 (ad5 (A8 1) (qE (A2 (M7 k) (A0 (A1 2) A5))))) [‹Nd.d (.group nm m s sh ns)›,some (.own (sD (hdW "group" nm m.s s sh)++[.str "["])),none,none,none,none,none]=some (.nx [‹Nd.d (.group nm m s sh ns)›,some (.own (sD (hdW "group" nm m.s s sh)++[.str "["]++sD (nws ns))),b2,none,none,none,none]):=by
   unfold k8 J3
   rw[e5]
   exact lp
  have ap:∀(x:Str) (X:List D) (c:Option B),X.length<=1000000->V3 1 (dC (.str x)) [‹Nd.d (.group nm m s sh ns)›,some (.own X),c,none,none,none,none]=some (.nx [‹Nd.d (.group nm m s sh ns)›,some (.own (X++[.str x])),c,none,none,none,none]):=fun x X c hX=>by
   simp only[V3,xg0,xg1,dC,xms,if_pos (show X.length < 16777216 by grind)]
   rfl
  refine B2 (ρ:=[‹Nd.d (.group nm m s sh ns)›,none,none,none,none,none,none]) rfl ?_
  unfold j5
  refine(bS9 e0 (a fun _=>rfl) (a fun _=>rfl) (a fun _=>rfl) (a fun _=>rfl) g.1.1 g.1.2 _ _).trans ?_
  have bk:=(B3 (g:=B0 _ (V3 1 (dC (.str "]")))) (ap "[" (sD (hdW "group" nm m.s s sh)) none (by simp[hdW]))).trans ((B3 fl).trans (ap "]" _ _ (by simp[hdW];grind)))
  refine(B3 ((ifk e0 ca2).trans ((if_pos rfl).trans bk))).trans ?_
  refine(B3 (ifk e0 ca1)).trans ?_
  rw[nw,au9,au9,au9]
  rfl
theorem lns:∀(l:List Nd) (k:Nat),Nd.dps l+1<=k->Gns l->(Nd.nmss l).length<=1000->∀n∈l,M7 k [n.d]=some (.list (sD (nw n)))
 | [],_,_,_,_,n,hn=>by simp at hn
 | m::r,k,hk,g,hl,n,hn=>by
  rw[Gns]at g
  rw[Nd.dps]at hk
  rw[Nd.nmss,List.length_append]at hl
  have h1:=Nat.le_max_left m.dp (Nd.dps r)
  have h2:=Nat.le_max_right m.dp (Nd.dps r)
  rcases List.mem_cons.mp hn with q|q
  ·rw[q];exact ci7 m k (by grind) g.1 (by grind)
  ·exact lns r k (by grind) g.2 (by grind) n q
end
theorem bG3{f:List D->Option D}{a0:Option B}:∀(l:List Nd) (X:List D) (a2:Option B),(∀n∈l,f [n.d]=some (.list (sD (nw n))))->X.length+(nws l).length<=1000000->∃b2,ad9 (C4 2) (C3 1 (A6 A9 (A1 1) (A2 f (A0 (A1 2) A5)))) (Nd.ds l) [a0,‹.list X›,a2]=some (.nx [a0,‹.list (X++sD (nws l))›,b2])
 | [],X,a2,_,_=>⟨a2,by rw[Nd.ds,nws,sD,xmn,List.append_nil];rfl⟩
 | n::r,X,a2,H,hl=>by
  rw[nws,List.length_append]at hl
  obtain⟨b2,e⟩:=bG3 (f:=f) (a0:=a0) r (X++sD (nw n)) (‹n.d›) (fun n hn=>H n (List.mem_cons_of_mem _ hn)) (by rw[List.length_append,List.length_map];omega)
  have c:=U1 (a:=X) (b:=sD (nw n)) (by rw[List.length_map];omega)
  refine⟨b2,?_⟩
  rw[Nd.ds,nws,sD,List.map_append,← List.append_assoc]
  unfold ad9
  simp only[C4,C3,A6,A2,A0,A5,A1,xw0,xw1,xg0,xg1,xbs,xms,H n (List.mem_cons_self ..),c]
  exact e
theorem al6{w h:Nat}{l:List Nd}(w8:w<=9) (h8:h<=9) (g:Gns l) (hl:(Nd.nmss l).length<=1000) (hd:Nd.dps l<=3):i4 [N9 w h l]=some (.str (gl 32 (szT w h::nws l))):=by
 have b:=bnd hl g
 obtain⟨t1,t2⟩:=ai4 w8 h8 g hl
 obtain⟨b2,lp⟩:=bG3 (f:=M7 12) (a0:=‹N9 w h l›) l [.str (szT w h)] none (lns l 12 (by grind) g hl) (by simp;grind)
 refine B2 (ρ:=[‹N9 w h l›,none,none]) rfl ?_
 unfold ah0
 refine(B3 (ρ':=[‹N9 w h l›,‹.list [.str (szT w h)]›,none]) ?_).trans ?_
 ·unfold C3
  rw[bS6 (bj1 (w:=w) (h:=h) (by grind) (by grind) rfl rfl)]
  rfl
 ·refine(B3 (ρ':=[‹N9 w h l›,‹.list (sD (szT w h::nws l))›,b2]) lp).trans ?_
  unfold B6
  rw[bo8 (b:=250) (ws:=szT w h::nws l) bl_ rfl (fun v hv=>(t1 v hv).2) (by grind)]
  rfl
end Lk90
namespace Lk90
open PySem G L2 Sh
theorem aR6{a b:Nat}{c:Bool}(h:((sg a)==(sg b))=c) (ha:a < 1000) (hb:b < 1000):eqD (.str (sg a)) (.str (sg b))=some (.bool c):=G7 (by show(#[a]:Array Nat).all (· < 0x110000)=true;simp;grind) (by show(#[b]:Array Nat).all (· < 0x110000)=true;simp;grind) h
theorem bE9{m:Str->Str->Option D}{f g:DE}{ρ:Rho}{a y:Str}(hf:f ρ=some (.str a)) (hg:g ρ=some (.str y)):dTx m f g ρ=m a y:=by unfold dTx;rw[hf,xbs,hg];rfl
theorem bF2{a b:Str}{c:Nat}(ha:c∉cl a) (h1:a.length<=1000) (h2:b.length<=1000):txP (a++sg c++b) (sg c)=some (.tuple [.str a,.str (sg c),.str b]):=by
 unfold txP
 rw[if_pos ⟨show(1:Nat)≠0 by decide,by rw[X5,X5,show(sg c).length=1 from rfl];grind⟩,bw3 a b c ha]
theorem ce1{a:Str}{c:Nat}(ha:c∉cl a) (h1:a.length<=1000):txP a (sg c)=some (.tuple [.str a,.str Str.empty,.str Str.empty]):=by
 unfold txP
 rw[if_pos ⟨show(1:Nat)≠0 by decide,by grind⟩,bw2 a c ha]
theorem bF1{ws:List Str}{c b:Nat}(hn:ws≠[]) (hf:∀w∈ws,c∉cl w) (hb:∀w∈ws,w.length<=b) (hl:(b+1)*ws.length<=16777216):txS (gl c ws) (sg c)=some (.list (sD ws)):=by
 have h2:=aJ1 (c:=c) hb
 have h3:ws.length<=(b+1)*ws.length:=Nat.le_mul_of_pos_left _ (by grind)
 unfold txS
 rw[aA3 c hn hf,if_pos ⟨show(1:Nat)≠0 by decide,by grind,by grind⟩]
theorem be5{r:Rat}(h:Bd 8 r):G4 [.str (shT r)]=some (fr r):=by
 have hn:=h.nat
 obtain⟨n1,n2⟩:=au6 h
 have r1:=aN8 (n:=r.num.natAbs) (by grind)
 have r2:=aN8 (n:=r.den) (by grind)
 have a1:=P6 (n:=r.num.natAbs) (by grind)
 have a2:=P6 (n:=r.den) (by grind)
 have l1:=a1.l2
 have l2:=a2.l2
 have no:47∉cl (nt r.num.natAbs):=Al.no a1.d (by decide)
 have e1:=aR6 (a:=47) (b:=47) (c:=true) (by decide +kernel) (by decide) (by decide)
 have e2:eqD (.str Str.empty) (.str (sg 47))=some (.bool false):=G7 (by decide +kernel) (by decide +kernel) (by decide +kernel)
 have t1:=bF2 (b:=nt r.den) no (by grind) (by grind)
 have t2:=ce1 no (by grind)
 refine B2 (ρ:=[‹.str (shT r)›,none,none]) rfl ?_
 unfold shT
 by_cases d:r.den=1
 ·rw[if_pos d]
  wp_walk using evD,X9,ae4,dTx,sl_,t2,e2,r1
  rw[fr,d,← hn];rfl
 ·rw[if_neg d]
  wp_walk using evD,X9,ae4,dTx,sl_,t1,e1,r1,r2
  rw[fr,← hn]
theorem bG0{c:Nat}{x:Str}(hx:x=sg c) (hc:c < 47\/57 < c) {rs:List Rat}(hn:rs≠[]) (hl:rs.length<=1000) (hb:∀r∈rs,Bd 8 r) {ρ:Rho}(h0:A1 0 ρ=some (.str (gl c (rs.map shT)))):M3 (qN (C5 1 [] (J3 (dTx txS (A1 0) (dC (.str x)))) (C4 0) D1 (A2 G4 (A0 (A1 0) A5)))) ρ=some (.tuple (rs.map fr)):=by
 subst hx
 have w:∀v∈rs.map shT,Al pS v/\v.length<=21:=fun v hv=>by
  obtain⟨r,hr,rfl⟩:=List.mem_map.mp hv
  exact ad0 (hb r hr)
 have s:=bF1 (ws:=rs.map shT) (c:=c) (b:=21) (by simpa using hn) (fun v hv=>(w v hv).1.no (by grind)) (fun v hv=>(w v hv).2) (by rw[List.length_map];grind)
 have n:=Q5 (caps:=[]) (src:=J3 (dTx txS (A1 0) (dC (.str (sg c))))) (e:=A2 G4 (A0 (A1 0) A5)) (ρ:=ρ) (l:=rs) (h:=fun r=>.str (shT r)) (f:=fr) (r:=[]) rfl (by
  unfold J3
  rw[bE9 h0 rfl,s,sD,List.map_map]
  rfl) hl fun r hr=>by wp_walk using evD,be5 (hb r hr)
 unfold M3
 rw[bG2 n]
 rfl
theorem bN9{q:Q4}(h:q.ok 8):U2 [.str (spT q)]=some q.d:=by
 refine B2 (ρ:=[‹.str (spT q)›]) rfl ?_
 unfold ag8 B6
 rw[bG0 (rs:=qr q) (c:=58) co_ (by decide) (by simp[qr]) (show 4<=1000 by decide) (aO1 h) rfl]
 rfl
theorem bj3{s:Str}{p:Nat->Prop}(h:Al p s) (i:∀c,p c->c < 0x110000):PyData.canLay0 (.str s)=true:=by
 show s.cps.all (· < 0x110000)=true
 rw[Array.all_eq_true']
 intro c hc
 exact decide_eq_true (i c (h c (Array.mem_toList_iff.mpr hc)))
theorem bO0{mk:Option (List Rat)}(hm:∀ms,mk=some ms->ms≠[]/\ms.length<=9/\∀r∈ms,Bd 8 r):h9 [.str (mkT mk)]=some (mkD mk):=by
 refine B2 (ρ:=[‹.str (mkT mk)›]) rfl ?_
 cases mk with
 | none =>
  have e:=aR6 (a:=46) (b:=46) (c:=true) (by decide +kernel) (by decide) (by decide)
  wp_walk using evD,a7,mkT,mkD,do_,e
 | some ms =>
  obtain⟨h1,h2,h3⟩:=hm ms rfl
  have a:Al (fun c=>c≠46/\c < 1000) (gl 44 (ms.map shT)):=Al.gl ⟨by decide,by decide⟩ fun v hv=>by
   obtain⟨r,hr,rfl⟩:=List.mem_map.mp hv
   exact(ad0 (h3 r hr)).1.imp fun c h=>⟨by grind,by grind⟩
  have ne:(gl 44 (ms.map shT)==sg 46)=false:=beq_eq_false_iff_ne.mpr fun q=>(a 46 (by rw[q];simp[cl])).1 rfl
  have e:eqD (.str (gl 44 (ms.map shT))) (.str (sg 46))=some (.bool false):=G7 (bj3 a fun c h=>by grind) (by decide +kernel) ne
  unfold a7
  refine(B3 (ρ':=[‹.str (mkT (some ms))›]) (by wp_walk using evD,mkT,do_,e)).trans ?_
  unfold B6
  rw[bG0 (rs:=ms) (c:=44) cm_ (by decide) h1 (by grind) h3 rfl]
  rfl
theorem be4{w h:Nat}(hw:w < 1000) (hh:h < 1000):U3 [.str (szT w h)]=some (.tuple [.int w,.int h]):=by
 have r1:=aN8 (n:=w) (by grind)
 have r2:=aN8 (n:=h) (by grind)
 have a1:=P6 (n:=w) (by grind)
 have a2:=P6 (n:=h) (by grind)
 have l1:=a1.l2
 have l2:=a2.l2
 have t1:=bF2 (a:=nt w) (b:=nt h) (c:=120) (Al.no a1.d (by decide)) (by grind) (by grind)
 refine B2 (ρ:=[‹.str (szT w h)›,none]) rfl ?_
 wp_walk using evD,ag9,szT,dTx,ex_,t1,r1,r2
theorem bh2{i:Int}(h:i.natAbs<=2):P2 [.str (it i)]=some (.int i):=by
 rcases ch6 h with rfl|rfl|rfl|rfl|rfl<;>kernel_rfl
def ob(ws:List Str) (k:Nat):Fo:=[("words", .list (sD ws)),("words_taken", .int k)]
theorem aJ5(ws:List Str) (k:Nat):Q1 (ob ws k) [none]=some (.bool ((k:Int)==((sD ws).length:Int)),ob ws k):=by kernel_rfl
theorem lk1(ws:List Str) (k:Nat):List.lookup ("words" : Str) (ob ws k)=some (.list (sD ws)):=by kernel_rfl
theorem lk2(ws:List Str) (k:Nat):List.lookup ("words_taken" : Str) (ob ws k)=some (.int k):=by kernel_rfl
theorem pt2(ws:List Str) (k:Nat):av6 "words_taken" (.int ((k:Int)+1)) (ob ws k)=ob ws (k+1):=by kernel_rfl
theorem lk3(ws:List Str) (k:Nat):(List.lookup ("is_at_end" : Str) (ob ws k)).isNone=true:=by kernel_rfl
theorem lk4(ws:List Str) (k:Nat):(List.lookup ("word_ahead" : Str) (ob ws k)).isNone=true:=by kernel_rfl
theorem lk5(ws:List Str) (k:Nat):(List.lookup ("take_word" : Str) (ob ws k)).isNone=true:=by kernel_rfl
theorem D3{f g:UX}{ρ ρ':Rho}{q q':Fs}(h:f ρ q=some (.nx ρ' q')):K0 f g ρ q=g ρ' q':=by unfold K0;rw[h];rfl
theorem aM7{f g:UX}{ρ:Rho}{q q':Fs}{d:D}(h:f ρ q=some (.rt d q')):K0 f g ρ q=some (.rt d q'):=by unfold K0;rw[h];rfl
theorem K6{i:Nat}{f:UD}{ρ:Rho}{q q':Fs}{d:D}(h:f ρ q=some (d,q')):T4 i f ρ q=some (.nx (ρ.set i (‹d›)) q'):=by unfold T4;rw[h];rfl
theorem ai3{f:UD}{ρ:Rho}{q q':Fs}{d:D}(h:f ρ q=some (d,q')):r9 f ρ q=some (.rt d q'):=by unfold r9;rw[h];rfl
theorem M8{g:UX}{n:Nat}{o o':Fo}{ms:MD}{d:D}{ρ:Rho}(h:T6 n ms=ρ) (e:g ρ [o]=some (.rt d [o'])):M1 g n o ms=some (d,o'):=by unfold M1;rw[h,e];rfl
theorem aq2{i:Nat}{m:Str}{F:DF}{ρ:Rho}{o o':Fo}{d:D}(hs:ρ[i]? = some (some (.opq 0))) (hm:(o.lookup m).isNone=true) (hF:F o [none]=some (d,o')):uM0 i m F ρ [o]=some (d,[o']):=by
 have:P4 i ρ [o]=some (0,o):=by unfold P4;rw[hs];rfl
 unfold uM0
 rw[this,xbs,if_pos hm,hF];rfl
theorem bb9{i:Nat}{m:Str}{ρ:Rho}{o:Fo}{d:D}(hs:ρ[i]? = some (some (.opq 0))) (h:o.lookup m=some d):au2 i m ρ [o]=some (d,[o]):=by
 have:P4 i ρ [o]=some (0,o):=by unfold P4;rw[hs];rfl
 unfold au2
 rw[this,xbs,h];rfl
theorem aq3{i:Nat}{F:DF}{g:Rho->Option MD}{ρ:Rho}{o o':Fo}{ms:MD}{d:D}(hs:ρ[i]? = some (some (.opq 0))) (hg:g (era ρ)=some ms) (hF:F o ms=some (d,o')):uD i F g ρ [o]=some (d,[o']):=by
 have:P4 i ρ [o]=some (0,o):=by unfold P4;rw[hs];rfl
 unfold uD
 rw[this,xbs,hg,xbs,hF];rfl
theorem an0{h:D->D->Option D}{f g:UD}{ρ:Rho}{q q1 q2:Fs}{x y z:D}(h1:f ρ q=some (x,q1)) (h2:g ρ q1=some (y,q2)) (h3:h x y=some z):uB2 h f g ρ q=some (z,q2):=by
 unfold uB2
 rw[h1,xbs,h2,xbs,h3];rfl
theorem aA2{f:UD}{ρ:Rho}{q q':Fs}{c:Bool}(h:f ρ q=some (.bool c,q')):uTB f ρ q=some (c,q'):=by unfold uTB;rw[h];rfl
theorem aW7{t:UB}{f g:UX}{ρ:Rho}{q q':Fs}(h:t ρ q=some (false,q')):uIf t f g ρ q=g ρ q':=by unfold uIf;rw[h];rfl
theorem ck6{t:UB}{f g:UX}{ρ:Rho}{q q':Fs}(h:t ρ q=some (true,q')):uIf t f g ρ q=f ρ q':=by unfold uIf;rw[h];rfl
theorem dr0{ws r:List Str}{w:Str}{k:Nat}(h:ws.drop k=w::r):k < ws.length/\atI (sD ws) (k:Int)=some (.str w)/\ws.drop (k+1)=r:=by
 have h0:ws[k]? = some w:=by have:=congrArg (·[0]?) h;simpa using this
 obtain⟨hk,e⟩:=List.getElem?_eq_some_iff.mp h0
 refine⟨hk,?_,by rw[← List.tail_drop,h];rfl⟩
 unfold atI
 rw[ax0 (by omega) (by rw[List.length_map];omega),xbs,Int.toNat_natCast,List.getElem?_map,h0];rfl
theorem bZ5{f g:UD}{ρ:Rho}{q q1 q2:Fs}{xs:List D}{n:Int}{d:D}(h1:f ρ q=some (.list xs,q1)) (h2:g ρ q1=some (.int n,q2)) (h3:atI xs n=some d):bc4 f g ρ q=some (d,q2):=by
 unfold bc4
 simp only[h1,xbs,au7,h2,h3,xms]
theorem bE7{ws r:List Str}{w:Str}{k:Nat}(h:ws.drop k=w::r):N2 (ob ws k) [none]=some (.str w,ob ws k):=by
 obtain⟨h1,h2,_⟩:=dr0 h
 have e:((k:Int)==((sD ws).length:Int))=false:=beq_eq_false_iff_ne.mpr (by rw[List.length_map];grind)
 have e0:=aJ5 ws k
 rw[e]at e0
 refine M8 (ρ:=[some (.opq 0)]) rfl ?_
 unfold f6
 refine(D3 ((aW7 (aA2 (aq2 rfl (lk3 ws k) e0))).trans rfl)).trans (ai3 ?_)
 exact bZ5 (bb9 rfl (lk1 ws k)) (bb9 rfl (lk2 ws k)) h2
theorem cd7{ws r:List Str}{w:Str}{k:Nat}(h:ws.drop k=w::r):B7 (ob ws k) [none]=some (.str w,ob ws (k+1)):=by
 refine M8 (ρ:=[some (.opq 0),none]) rfl ?_
 unfold o9
 refine(D3 (K6 (aq2 rfl (lk4 ws k) (bE7 h)))).trans ?_
 refine(D3 (ρ':=[some (.opq 0),‹.str w›]) (q':=[ob ws (k+1)]) ?_).trans rfl
 unfold y8
 rw[an0 (bb9 rfl (lk2 ws k)) rfl (w9 _ _),← pt2]
 rfl
theorem tk{ws r:List Str}{w:Str}{k i:Nat}{ρ:Rho}(hs:ρ[i]? = some (some (.opq 0))) (h:ws.drop k=w::r):uM0 i "take_word" B7 ρ [ob ws k]=some (.str w,[ob ws (k+1)]):=aq2 hs (lk5 ws k) (cd7 h)
theorem ct{ws r:List Str}{w:Str}{k i:Nat}{ρ:Rho}{F:FnD}{d:D}(hs:ρ[i]? = some (some (.opq 0))) (h:ws.drop k=w::r) (hF:F [.str w]=some d):N7 F (ulC (uM0 i "take_word" B7) ulN) ρ [ob ws k]=some (d,[ob ws (k+1)]):=by
 unfold N7 ulC
 rw[tk hs h]
 show(F [.str w]).map _=_
 rw[hF];rfl
theorem bH9{ws:List Str}:∀(l:List Q4) (ks:List D) (k:Nat) (r:List Str),ks.length=l.length->ws.drop k=l.map spT++r->(∀q∈l,q.ok 8)->cpT (N7 U2 (ulC (uM0 1 "take_word" B7) ulN)) (ob ws k) ks=some (l.map Q4.d,ob ws (k+l.length))
 | [],[],k,r,_,_,_=>rfl
 | [],_::_,_,_,h,_,_=>by simp at h
 | _::_,[],_,_,h,_,_=>by simp at h
 | q::l,x::ks,k,r,h,hd,ho=>by
  have i:=bH9 l ks (k+1) r (by simpa using h) (dr0 hd).2.2 fun q hq=>ho q (List.mem_cons_of_mem _ hq)
  unfold cpT
  rw[ct (i:=1) (ρ:=[‹x›,some (.opq 0)]) rfl hd (bN9 (ho q (List.mem_cons_self ..)))]
  show(cpT _ (ob ws (k+1)) ks).map _=_
  rw[i,List.length_cons,show k+(l.length+1)=k+1+l.length by grind]
  rfl
theorem cf7{ws r:List Str}{k w h:Nat}{l:List Q4}(w3:w<=3) (h3:h<=3) (len:l.length=w*h) (ho:∀q∈l,q.ok 8) (hd:ws.drop k=szT w h::l.map spT++r):N1 (ob ws k) [none]=some (shD w h l,ob ws (k+1+l.length)):=by
 have wh:w*h<=9:=Nat.mul_le_mul w3 h3
 have mwh:E2 (.int w) (.int h)=some (.int ((w*h:Nat):Int)):=K4 (by grind) (by grind)
 have rn:G0 (A6 E2 (dIx (A8 1) ⇑0) (dIx (A8 1) ⇑1)) [none,‹.tuple [.int w,.int h]›,none]=some ((List.range (w*h)).map fun k:Nat=>PyData.int k):=X0 ((R6 rfl rfl).trans mwh) (by grind)
 have c:=bH9 (ws:=ws) l ((List.range (w*h)).map fun k:Nat=>PyData.int k) (k+1) r (by simp[len]) (dr0 hd).2.2 ho
 refine M8 (ρ:=[some (.opq 0),none,none]) rfl ?_
 unfold ac4
 refine(D3 (K6 (ct rfl hd (be4 (w:=w) (h:=h) (by grind) (by grind))))).trans ?_
 refine(D3 (ρ':=[some (.opq 0),‹.tuple [.int w,.int h]›,‹.list (l.map Q4.d)›]) (q':=[ob ws (k+1+l.length)]) ?_).trans rfl
 unfold bs7
 show((G0 (A6 E2 (dIx (A8 1) ⇑0) (dIx (A8 1) ⇑1)) [none,‹.tuple [.int w,.int h]›,none]).bind _)=_
 rw[rn]
 show(if _<=1000 then(cpT _ (ob ws (k+1)) _).map _ else none)=_
 rw[if_pos (by simp;grind),c]
 rfl
theorem cf9{ws r:List Str}{k:Nat}{lf tp:Int}{mk:Option (List Rat)}{w h:Nat}{l:List Q4}(g:GL lf tp mk w h l) (hd:ws.drop k=lyW lf tp mk w h l++r):L9 (ob ws k) [none]=some (.tuple [.int lf,.int tp,mkD mk,shD w h l],ob ws (k+(lyW lf tp mk w h l).length)):=by
 have wh:=g.wh
 have d0:ws.drop k=it lf::([it tp,mkT mk]++szT w h::l.map spT++r):=hd
 have d1:ws.drop (k+1)=it tp::([mkT mk]++szT w h::l.map spT++r):=(dr0 d0).2.2
 have d2:ws.drop (k+1+1)=mkT mk::(szT w h::l.map spT++r):=(dr0 d1).2.2
 have d3:ws.drop (k+1+1+1)=szT w h::l.map spT++r:=(dr0 d2).2.2
 have s:=cf7 g.w3 g.h3 g.len g.ok d3
 have m:=bO0 (mk:=mk) fun ms e=>by
  obtain⟨m1,m2⟩:=g.ms ms e
  have:=g.one
  exact⟨fun q=>by rw[q,List.length_nil]at m1;grind,by grind,m2⟩
 have n:k+(lyW lf tp mk w h l).length=k+1+1+1+1+l.length:=by simp[lyW];grind
 rw[n]
 refine M8 (ρ:=[some (.opq 0),none,none,none]) rfl ?_
 unfold S9
 refine(D3 (K6 (ct rfl d0 (bh2 g.of)))).trans ?_
 refine(D3 (K6 (ct rfl d1 (bh2 g.ot)))).trans ?_
 refine(D3 (K6 (ct rfl d2 m))).trans (ai3 ?_)
 have u:=aq3 (i:=0) (F:=N1) (g:=mO mN) (ρ:=[some (.opq 0),‹.int lf›,‹.int tp›,‹mkD mk›]) rfl rfl s
 unfold an9
 show((ulC (uD 0 N1 (mO mN)) ulN [some (.opq 0),‹.int lf›,‹.int tp›,‹mkD mk›] [ob ws (k+1+1+1)]).map _ |>.map _ |>.map _).map _=_
 unfold ulC
 rw[u]
 rfl
end Lk90
namespace Lk90
open PySem G L2 Sh
theorem p8{f:UD}{g:UL}{ρ:Rho}{q q1 q2:Fs}{d:D}{ds:List D}(h1:f ρ q=some (d,q1)) (h2:g ρ q1=some (ds,q2)):ulC f g ρ q=some (d::ds,q2):=by unfold ulC;rw[h1,xbs,h2];rfl
theorem at9{f:UL}{ρ:Rho}{q q':Fs}{ds:List D}(h:f ρ q=some (ds,q')):an9 f ρ q=some (.tuple ds,q'):=by unfold an9;rw[h];rfl
theorem aG3{f:Rho->Option Bool}{ρ:Rho}{q:Fs}{b:Bool}(h:f (era ρ)=some b):uTP f ρ q=some (b,q):=by unfold uTP;rw[h];rfl
theorem cg6(sh:Bool):eqD (.str (pm sh)) (.str "+")=some (.bool sh):=by
 have p1:("+" : Str)=sg 43:=by decide +kernel
 rw[p1]
 cases sh
 ·exact aR6 (by decide +kernel) (by decide) (by decide)
 ·exact aR6 (by decide +kernel) (by decide) (by decide)
theorem rhd{ws r:List Str}{p:Nat}{kd m:Str}{nm:D}{s:Rat}{sh:Bool}(hn:Nm nm) (hs:Bd 8 s) (hd:ws.drop p=hdW kd nm m s sh++r) (dd:D) (R:UX) :
  K0 (T4 2 (uM0 0 "take_word" B7)) (K0 (T4 3 (uM0 0 "take_word" B7)) (K0 (T4 4 (uM0 0 "take_word" B7)) (K0 (T4 5 (N7 G4 (ulC (uM0 0 "take_word" B7) ulN))) (K0 (T4 6 (an9 (ulC (uP (A1 2)) (ulC (uP (A1 3)) (ulC (uP (A1 4)) (ulC (uP (A1 5)) (ulC (uB2 eqD (uM0 0 "take_word" B7) (uP (dC (.str "+")))) ulN))))))) R)))) [some (.opq 0),‹dd›,none,none,none,none,none] [ob ws p]=R [some (.opq 0),‹dd›,‹.str kd›,‹nm›,‹.str m›,‹fr s›,‹.tuple [.str kd,nm,.str m,fr s,.bool sh]›] [ob ws (p+5)]/\ws.drop (p+5)=r:=by
 obtain⟨x,rfl,_⟩:=hn
 have d0:ws.drop p=kd::([x,m,shT s,pm sh]++r):=hd
 have d1:ws.drop (p+1)=x::([m,shT s,pm sh]++r):=(dr0 d0).2.2
 have d2:ws.drop (p+1+1)=m::([shT s,pm sh]++r):=(dr0 d1).2.2
 have d3:ws.drop (p+1+1+1)=shT s::([pm sh]++r):=(dr0 d2).2.2
 have d4:ws.drop (p+1+1+1+1)=pm sh::r:=(dr0 d3).2.2
 refine⟨?_,(dr0 d4).2.2⟩
 refine(D3 (K6 (tk rfl d0))).trans ((D3 (K6 (tk rfl d1))).trans ((D3 (K6 (tk rfl d2))).trans ((D3 (K6 (ct rfl d3 (be5 hs)))).trans ?_)))
 exact(D3 (K6 (at9 (p8 rfl (p8 rfl (p8 rfl (p8 rfl (p8 (an0 (tk rfl d4) rfl (cg6 sh)) rfl)))))))).trans rfl
theorem bx5:∀n:Nd,∃w t,nw n=w::t/\neD (.str w) (.str "]")=some (.bool true)
 | .layer ..=>⟨_,_,by rw[nw];rfl,aa9 (by decide +kernel) (by decide +kernel) (by decide +kernel)⟩
 | .tone ..=>⟨_,_,by rw[nw];rfl,aa9 (by decide +kernel) (by decide +kernel) (by decide +kernel)⟩
 | .group ..=>⟨_,_,by rw[nw];rfl,aa9 (by decide +kernel) (by decide +kernel) (by decide +kernel)⟩
def tst:UB:=aT8 (aT7 (uTB (uM0 0 "is_at_end" Q1))) (uTB (uB2 neD (uM0 0 "word_ahead" N2) (uP (dC (.str "]")))))
theorem bF0{ws r:List Str}{w:Str}{p:Nat}{b:Bool}(h:ws.drop p=w::r) (hb:neD (.str w) (.str "]")=some (.bool b)) (t:Rho):tst (some (.opq 0)::t) [ob ws p]=some (b,[ob ws p]):=by
 obtain⟨h1,_,_⟩:=dr0 h
 have e:((p:Int)==((sD ws).length:Int))=false:=beq_eq_false_iff_ne.mpr (by rw[List.length_map];grind)
 have e0:=aJ5 ws p
 rw[e]at e0
 unfold tst aT8 aT7
 rw[aA2 (aq2 rfl (lk3 ws p) e0)]
 exact aA2 (an0 (aq2 rfl (lk4 ws p) (bE7 h)) rfl hb)
theorem cd9{ws:List Str}{p:Nat}(h:ws.drop p=[]) (hp:p<=ws.length) (t:Rho):tst (some (.opq 0)::t) [ob ws p]=some (false,[ob ws p]):=by
 have h1:=List.drop_eq_nil_iff.mp h
 have e:((p:Int)==((sD ws).length:Int))=true:=beq_iff_eq.mpr (by rw[List.length_map];grind)
 have e0:=aJ5 ws p
 rw[e]at e0
 unfold tst aT8 aT7
 rw[aA2 (aq2 rfl (lk3 ws p) e0)]
 rfl
def Rd(ws:List Str) (f:DF) (dd:Nat) (n:Nd):Prop:=∀p r,p<=ws.length->ws.drop p=nw n++r->f (ob ws p) [none,some (.int dd)]=some (n.d,ob ws (p+(nw n).length))
theorem ax5{ws a b:List Str}{p:Nat}(h:ws.drop p=a++b) (hp:p<=ws.length):ws.drop (p+a.length)=b/\p+a.length<=ws.length:=by
 refine⟨by rw[← List.drop_drop,h,List.drop_left],?_⟩
 have:=congrArg List.length h
 rw[List.length_drop,List.length_append]at this
 omega
theorem bE6{ws:List Str}{f:DF}{dd:Nat}:∀(l:List Nd) (X:List D) (p:Nat) (r:List Str) (N:Nat),l.length+1<=N->X.length+l.length<=1000000->(r=[]\/∃r',r=("]" : Str)::r')->p<=ws.length->ws.drop p=nws l++r->(∀n∈l,Rd ws f dd n)->ag3 tst (aA0 2 (uD 0 f (mO (mC (A1 1) mN)))) N [some (.opq 0),‹.int dd›,some (.own X)] [ob ws p]=some (.nx [some (.opq 0),‹.int dd›,some (.own (X++Nd.ds l))] [ob ws (p+(nws l).length)])
 | _,_,_,_,0,h,_,_,_,_,_=>absurd h (by grind)
 | [],X,p,r,N+1,_,_,hr,hp,hd,_=>by
  rw[nws]at hd
  rw[nws,Nd.ds,List.append_nil]
  unfold ag3
  rcases hr with rfl|⟨r',rfl⟩
  ·rw[cd9 hd hp];rfl
  ·rw[bF0 hd (b:=false) (aa9 (by decide +kernel) (by decide +kernel) (by decide +kernel))];rfl
 | n::l,X,p,r,N+1,hN,hX,hr,hp,hd,H=>by
  rw[nws,List.append_assoc]at hd
  rw[List.length_cons]at hN hX
  obtain⟨w,t,e1,e2⟩:=bx5 n
  obtain⟨o1,o2⟩:=ax5 hd hp
  have i:=bE6 (f:=f) (dd:=dd) l (X++[n.d]) (p+(nw n).length) r N (by grind) (by rw[List.length_append,List.length_singleton];grind) hr o2 o1 fun m hm=>H m (List.mem_cons_of_mem _ hm)
  have u:=aq3 (i:=0) (F:=f) (g:=mO (mC (A1 1) mN)) (ρ:=[some (.opq 0),‹.int dd›,some (.own X)]) rfl rfl (H n (List.mem_cons_self ..) p _ hp hd)
  have a:aA0 2 (uD 0 f (mO (mC (A1 1) mN))) [some (.opq 0),‹.int dd›,some (.own X)] [ob ws p]=some (.nx [some (.opq 0),‹.int dd›,some (.own (X++[n.d]))] [ob ws (p+(nw n).length)]):=by
   unfold aA0
   show(if X.length < 16777216 then(uD 0 f (mO (mC (A1 1) mN)) _ _).map _ else none)=_
   rw[if_pos (by grind),u];rfl
  unfold ag3
  rw[bF0 (w:=w) (r:=t++(nws l++r)) (by rw[hd,e1];rfl) e2]
  show(aA0 2 (uD 0 f (mO (mC (A1 1) mN))) [some (.opq 0),‹.int dd›,some (.own X)] [ob ws p]).bind _=_
  rw[a]
  refine i.trans ?_
  rw[nws,Nd.ds,List.length_append,List.append_assoc,Nat.add_assoc]
  rfl
theorem be6{ws r:List Str}{self:Nat->DF}{dd p:Nat}{l:List Nd}(hl:l.length<=900) (hr:r=[]\/∃r',r=("]" : Str)::r') (hp:p<=ws.length) (hd:ws.drop p=nws l++r) (H:∀n∈l,Rd ws (self 1) dd n):M1 (R7 self) 3 (ob ws p) [none,some (.int dd)]=some (↥l,ob ws (p+(nws l).length)):=by
 have i:=bE6 (f:=self 1) (dd:=dd) l [] p r 1000 (by grind) (by simp;grind) hr hp hd H
 refine M8 (ρ:=[some (.opq 0),‹.int dd›,none]) rfl ?_
 unfold R7
 refine(D3 (ρ':=[some (.opq 0),‹.int dd›,some (.own [])]) (q':=[ob ws p]) rfl).trans ((D3 i).trans rfl)
theorem rin{ws r r':List Str}{self:Nat->DF}{dd p p':Nat}{x:D}(h1:ws.drop p=("[" : Str)::r) (H:self 2 (ob ws (p+1)) [none,some (.int dd)]=some (x,ob ws p')) (h2:ws.drop p'=("]" : Str)::r'):M1 (J5 self) 3 (ob ws p) [none,some (.int ((dd+1:Nat):Int))]=some (x,ob ws (p'+1)):=by
 have n0:(((dd+1:Nat):Int)==0)=false:=beq_eq_false_iff_ne.mpr (by grind)
 have s1:ao0 (.int ((dd+1:Nat):Int)) (.int 1)=some (.int dd):=by
  show some (PyData.int (((dd+1:Nat):Int) - 1))=_
  rw[show((dd+1:Nat):Int) - 1=(dd:Int) by grind]
 have t:uOr (uTP (tB2 eqD (A1 1) ⇑0)) (uTB (uB2 neD (uM0 0 "take_word" B7) (uP (dC (.str "["))))) [some (.opq 0),‹.int ((dd+1:Nat):Int)›,none] [ob ws p]=some (false,[ob ws (p+1)]):=by
  unfold uOr
  rw[aG3 (b:=false) (by
   show tB2 eqD (A1 1) ⇑0 [none,‹.int ((dd+1:Nat):Int)›,none]=_
   wp_walk using evD,n0)]
  exact aA2 (an0 (tk rfl h1) rfl (aa9 (by decide +kernel) (by decide +kernel) (by decide +kernel)))
 refine M8 (ρ:=[some (.opq 0),‹.int ((dd+1:Nat):Int)›,none]) rfl ?_
 unfold J5
 refine(D3 ((aW7 t).trans rfl)).trans ?_
 refine(D3 (K6 (aq3 (ms:=[none,some (.int dd)]) rfl ?_ H))).trans ?_
 ·show(mO (mC (A6 ao0 (A1 1) ⇑1) mN)) [none,‹.int ((dd+1:Nat):Int)›,none]=_
  unfold mO mC mN
  rw[R6 rfl rfl,s1];rfl
 ·refine(D3 (ρ':=[some (.opq 0),‹.int ((dd+1:Nat):Int)›,‹x›]) (q':=[ob ws (p'+1)]) ?_).trans rfl
  unfold uEx
  rw[tk rfl h2];rfl
theorem by7(n:Nd):1<=n.nms.length:=by cases n<;>rw[Nd.nms]<;>simp
theorem al4:∀l:List Nd,l.length<=(Nd.nmss l).length
 | []=>Nat.zero_le _
 | n::r=>by rw[Nd.nmss,List.length_append,List.length_cons];have:=by7 n;have:=al4 r;grind
theorem il5{k:Str}{a b c d:D}{v:Bool}(h:eqD (.str k) (.str "layer")=some (.bool v)):J7 [.tuple [.str k,a,b,c,d]]=some (.bool v):=B2 (ρ:=[‹.tuple [.str k,a,b,c,d]›]) rfl (congrArg (Option.map Fl.rt) h)
theorem ig5{k:Str}{a b c d:D}{v:Bool}(h:eqD (.str k) (.str "group")=some (.bool v)):F8 [.tuple [.str k,a,b,c,d]]=some (.bool v):=B2 (ρ:=[‹.tuple [.str k,a,b,c,d]›]) rfl (congrArg (Option.map Fl.rt) h)
theorem aA1{F:FnD}{x b0 b1 b2 b3 b4:D}{v:Bool}{q:Fs}(h:F [x]=some (.bool v)):uTP (G9 (A2 F (A0 (A1 6) A5))) [some (.opq 0),‹b0›,‹b1›,‹b2›,‹b3›,‹b4›,‹x›] q=some (v,q):=aG3 (by
 show G9 (A2 F (A0 (A1 6) A5)) [none,‹b0›,‹b1›,‹b2›,‹b3›,‹b4›,‹x›]=_
 wp_walk using evD,h)
theorem cn3(k:Nat):A3 (k+1) 0=M1 (J5 (A3 k)) 3:=rfl
theorem bI5(k:Nat):A3 (k+1) 1=M1 (M5 (A3 k)) 7:=rfl
theorem cn2(k:Nat):A3 (k+1) 2=M1 (R7 (A3 k)) 3:=rfl
theorem ck9{ws r:List Str}{self:Nat->DF}{dd p p':Nat}{nm:D}{m:Man}{s:Rat}{sh:Bool}{ns:List Nd}(g:Nm nm/\Bd 8 s) (hd:ws.drop p=hdW "group" nm m.s s sh++r) (b:self 0 (ob ws (p+5)) [none,some (.int dd)]=some (↥ns,ob ws p')):M1 (M5 self) 7 (ob ws p) [none,some (.int dd)]=some (Nd.d (.group nm m s sh ns),ob ws p'):=by
 refine M8 (ρ:=[some (.opq 0),‹.int dd›,none,none,none,none,none]) rfl ?_
 unfold M5
 refine(rhd g.1 g.2 hd (.int dd) _).1.trans ?_
 refine(D3 ((aW7 (aA1 (il5 ca1))).trans rfl)).trans (aM7 ((ck6 (aA1 (ig5 ca2))).trans (ai3 (an0 rfl (at9 (p8 (aq3 rfl rfl b) rfl)) ?_))))
 rw[Nd.d];rfl
mutual
theorem cf8(ws:List Str):∀(n:Nd) (K dd:Nat),3*n.dp+1<=K->n.dp<=dd->Gn n->n.nms.length<=900->Rd ws (A3 K 1) dd n
 | _,0,_,hk,_,_,_=>absurd hk (by grind)
 | .layer nm m s sh lf tp mk w h l kb,K+1,dd,_,_,g,_=>fun p r hp hd=>by
  rw[Gn]at g
  rw[nw,List.append_assoc]at hd
  obtain⟨e,d5⟩:=rhd (dd:=.int dd) (R:=_) g.1.1 g.1.2 hd
  have y:=cf9 g.2 d5
  rw[show p+(nw (.layer nm m s sh lf tp mk w h l kb)).length=p+5+(lyW lf tp mk w h l).length by rw[nw,List.length_append,hdW];simp;grind,bI5]
  refine M8 (ρ:=[some (.opq 0),‹.int dd›,none,none,none,none,none]) rfl ?_
  unfold M5
  refine e.trans (aM7 ((ck6 (aA1 (il5 ca0))).trans (ai3 (an0 rfl (aq3 rfl rfl y) ?_))))
  rw[Nd.d];rfl
 | .tone nm rl s sh,K+1,dd,_,_,g,_=>fun p r hp hd=>by
  rw[Gn]at g
  rw[nw]at hd
  obtain⟨e,d5⟩:=rhd (dd:=.int dd) (R:=_) g.1 g.2 hd
  have t1:eqD (.str "tone") (.str "group")=some (.bool false):=G7 (by decide +kernel) (by decide +kernel) (by decide +kernel)
  have t2:eqD (.str "tone") (.str "layer")=some (.bool false):=G7 (by decide +kernel) (by decide +kernel) (by decide +kernel)
  rw[show p+(nw (.tone nm rl s sh)).length=p+5 by rw[nw,hdW];rfl,bI5]
  refine M8 (ρ:=[some (.opq 0),‹.int dd›,none,none,none,none,none]) rfl ?_
  unfold M5
  refine e.trans ((D3 ((aW7 (aA1 (il5 t2))).trans rfl)).trans ((D3 ((aW7 (aA1 (ig5 t1))).trans rfl)).trans ?_))
  rw[Nd.d];rfl
 | .group nm m s sh ns,1,dd,hK,hdd,g,hn=>by rw[Nd.dp]at hK;grind
 | .group nm m s sh ns,2,dd,hK,hdd,g,hn=>by rw[Nd.dp]at hK;grind
 | .group nm m s sh ns,_,0,hK,hdd,g,hn=>by rw[Nd.dp]at hdd;grind
 | .group nm m s sh ns,K+3,dd+1,hK,hdd,g,hn=>fun p r hp hd=>by
  rw[Gn]at g
  rw[Nd.dp]at hK hdd
  rw[Nd.nms,List.length_cons]at hn
  have hl:=al4 ns
  rw[nw,List.append_assoc,List.append_assoc,List.append_assoc]at hd
  have d5:ws.drop (p+5)=("[" : Str)::(nws ns++(("]" : Str)::r)):=(ax5 hd hp).1
  have d6:ws.drop (p+5+1)=nws ns++(("]" : Str)::r):=(dr0 d5).2.2
  have p6:=(dr0 d5).1
  have a:=be6 (self:=A3 K) (dd:=dd) (l:=ns) (by grind) (.inr ⟨r,rfl⟩) (by grind) d6 (rns ws ns K dd (by grind) (by grind) g.2 (by grind))
  rw[← cn2]at a
  have b:=rin (self:=A3 (K+1)) d5 a (ax5 d6 (by grind)).1
  rw[← cn3]at b
  rw[show p+(nw (.group nm m s sh ns)).length=p+5+1+(nws ns).length+1 by rw[nw,hdW];simp;grind,bI5]
  exact ck9 g.1 hd b
theorem rns(ws:List Str):∀(l:List Nd) (K dd:Nat),3*Nd.dps l+1<=K->Nd.dps l<=dd->Gns l->(Nd.nmss l).length<=900->∀n∈l,Rd ws (A3 K 1) dd n
 | [],_,_,_,_,_,_,n,hn=>by simp at hn
 | m::r,K,dd,hK,hdd,g,hl,n,hn=>by
  rw[Gns]at g
  rw[Nd.dps]at hK hdd
  rw[Nd.nmss,List.length_append]at hl
  have h1:=Nat.le_max_left m.dp (Nd.dps r)
  have h2:=Nat.le_max_right m.dp (Nd.dps r)
  rcases List.mem_cons.mp hn with q|q
  ·rw[q];exact cf8 ws m K dd (by grind) (by grind) g.1 (by grind)
  ·exact rns ws r K dd (by grind) (by grind) g.2 (by grind) n q
end
theorem aM8{w h:Nat}{l:List Nd}(w8:w<=9) (h8:h<=9) (g:Gns l) (hl:(Nd.nmss l).length<=1000):PyData.canLay0 (.str (gl 32 (szT w h::nws l)))=true:=bj3 (p:=fun c=>c < 1000) (Al.gl (by decide) fun v hv=>((ai4 w8 h8 g hl).1 v hv).1.imp fun c h=>by grind) fun c h=>by grind
theorem bu7{w h:Nat}{l:List Nd}(w1:1<=w) (w8:w<=8) (h1:1<=h) (h8:h<=8) (hd:Nd.dps l<=3) (o:Nd.Oks l) (of:Nd.offs l) (hw:(Nd.nmss l).length<=900) (hn:∀d∈Nd.nmss l,Nm d) (nd:(Nd.nmss l).Nodup) (g:Gns l):aM2 [.str (gl 32 (szT w h::nws l))]=some (N9 w h l):=by
 have hl:=al4 l
 have pt:=av7 w1 w8 h1 h8 hd (by grind) o of (by grind) hn nd
 have wr:=aj9 (w:=w) (h:=h) (by grind) (by grind) g (by grind) hd
 obtain⟨t1,t2⟩:=ai4 (w:=w) (h:=h) (by grind) (by grind) g (by grind)
 have sp:=bF1 (ws:=szT w h::nws l) (c:=32) (b:=250) (by simp) (fun v hv=>(t1 v hv).1.no (by grind)) (fun v hv=>(t1 v hv).2) (by grind)
 have ns:=by2 (n:=0) (d:=.str (gl 32 (szT w h::nws l))) ⟨aM8 (by grind) (by grind) g (by grind),Nat.le_refl _⟩ (by decide)
 generalize gl 32 (szT w h::nws l)=tx at sp ns wr
 generalize e:szT w h::nws l=ws at sp
 have i0:Z6 [] [none,some (.str tx)]=some (.none,ob ws 0):=by
  unfold Z6 M1 an2
  rw[D3 (ρ':=[some (.opq 0),‹.str tx›]) (q':=[av6 "words" (.list (sD ws)) []]) (by
   unfold y8 uP
   rw[bl_,bE9 (a:=tx) (y:=sg 32) rfl rfl,sp];rfl)]
  show(((y8 0 "words_taken" (uP ⇑0)) [some (.opq 0),‹.str tx›] [av6 "words" (.list (sD ws)) []]).bind _)=_
  unfold y8
  show(some (ob ws 0)).map _=_
  rfl
 have d0:ws.drop 0=szT w h::nws l:=by rw[← e];rfl
 have d1:ws.drop (0+1)=nws l++[]:=by rw[(dr0 d0).2.2,List.append_nil]
 have p1:0+1<=ws.length:=(dr0 d0).1
 have a:=be6 (self:=A3 11) (dd:=3) (l:=l) (by grind) (.inl rfl) p1 d1 (rns ws l 11 3 (by grind) (by grind) g hw)
 have b:be3 az2 4 [.str tx]=some (N9 w h l):=by
  unfold be3
  show((az2 [‹.str tx›,none,none,none] []).bind _)=_
  unfold az2
  rw[D3 (ρ':=[‹.str tx›,some (.opq 0),none,none]) (q':=[ob ws 0]) (by
   unfold bs6 bx4
   show Option.map _ (Option.bind (Z6 [] [none,some (.str tx)]) _)=_
   rw[i0];rfl)]
  rw[D3 (K6 (ct rfl d0 (be4 (w:=w) (h:=h) (by grind) (by grind))))]
  rw[D3 (ρ':=[‹.str tx›,some (.opq 0),‹.tuple [.int w,.int h]›,‹N9 w h l›]) (K6 (d:=N9 w h l) (an0 rfl (at9 (p8 (aq3 rfl rfl a) rfl)) rfl))]
  rw[D3 ((aW7 (aG3 (b:=false) (by
   show U6 (K1 (G9 (A2 S0 (A0 (A1 3) A5)))) (tB2 neD (A2 W0 (A0 (A1 3) A5)) (A1 0)) [‹.str tx›,none,‹.tuple [.int w,.int h]›,‹N9 w h l›]=_
   wp_walk using evD,pt,wr,ns))).trans rfl)]
  rfl
 exact b
end Lk90
namespace Lk90
open PySem G L2 Sh
theorem aw5{d:D}(h:bq3 d) (n:Nat):Ly n d:=by
 obtain⟨s,rfl,o⟩:=h
 exact⟨o.ok,Nat.zero_le _⟩
theorem aP9(r:Rat):Ly 1 (fr r):=Ly.tup fun x hx=>by
 simp only[List.mem_cons,List.not_mem_nil,or_false]at hx
 rcases hx with rfl|rfl<;>exact Ly.int _ _
theorem bj0(m:Man) (n:Nat):Ly n (.str m.s):=⟨by cases m<;>decide +kernel,Nat.zero_le _⟩
theorem bS4{nm:D}{m:Man}{s:Rat}{sh:Bool}{lf tp:Int}{mk:Option (List Rat)}{w h:Nat}{l:List Q4}{kb:Nat}(hn:bq3 nm):Ly 5 (Nd.d (.layer nm m s sh lf tp mk w h l kb)):=by
 rw[Nd.d]
 refine Ly.tup fun x hx=>?_
 simp only[List.mem_cons,List.not_mem_nil,or_false]at hx
 rcases hx with rfl|rfl|rfl|rfl|rfl|rfl|rfl|rfl|rfl
 ·exact⟨by decide +kernel,Nat.zero_le _⟩
 ·exact aw5 hn _
 ·exact bj0 m _
 ·exact(aP9 s).mono (by decide)
 ·exact⟨rfl,Nat.zero_le _⟩
 ·exact Ly.int _ _
 ·exact Ly.int _ _
 ·cases mk with
  | none=>exact⟨rfl,Nat.zero_le _⟩
  | some ms =>
   refine Ly.mono (m:=2) (Ly.tup fun x hx=>?_) (by decide)
   obtain⟨r,_,rfl⟩:=List.mem_map.mp hx
   exact aP9 r
 ·exact Ly.sheet w h l
theorem bS2(r:Rul) (n:Nat):Ly n (.str r.s):=⟨by cases r<;>decide +kernel,Nat.zero_le _⟩
mutual
theorem ci5:∀n:Nd,(∀d∈n.nms,bq3 d)->Ly (5+2*n.dp) n.d
 | .layer nm m s sh lf tp mk w h l kb,hs=>(bS4 (hs nm (by rw[Nd.nms];simp))).mono (by grind)
 | .tone nm r s sh,hs=>by
  rw[Nd.d,Nd.dp]
  refine Ly.tup fun x hx=>?_
  simp only[List.mem_cons,List.not_mem_nil,or_false]at hx
  rcases hx with rfl|rfl|rfl|rfl|rfl
  ·exact⟨by decide +kernel,Nat.zero_le _⟩
  ·exact aw5 (hs _ (by rw[Nd.nms];simp)) _
  ·exact bS2 r _
  ·exact(aP9 s).mono (by decide)
  ·exact⟨rfl,Nat.zero_le _⟩
 | .group nm m s sh ns,hs=>by
  rw[Nd.nms]at hs
  have i:=ly_nds ns fun d hd=>hs d (List.mem_cons_of_mem _ hd)
  rw[Nd.d,Nd.dp]
  refine Ly.mono (m:=6+2*Nd.dps ns+1) (Ly.tup fun x hx=>?_) (by grind)
  simp only[List.mem_cons,List.not_mem_nil,or_false]at hx
  rcases hx with rfl|rfl|rfl|rfl|rfl|rfl
  ·exact⟨by decide +kernel,Nat.zero_le _⟩
  ·exact aw5 (hs _ (List.mem_cons_self ..)) _
  ·exact bj0 m _
  ·exact(aP9 s).mono (by grind)
  ·exact⟨rfl,Nat.zero_le _⟩
  ·exact⟨i.1,by show PyData.depthAll (Nd.ds ns)+1<=_;grind⟩
theorem ly_nds:∀l:List Nd,(∀d∈Nd.nmss l,bq3 d)->PyData.canLayAll0 (Nd.ds l)=true/\PyData.depthAll (Nd.ds l)<=5+2*Nd.dps l
 | [],_=>by rw[Nd.ds];exact⟨rfl,Nat.zero_le _⟩
 | n::r,hs=>by
  rw[Nd.nmss]at hs
  obtain⟨i1,i2⟩:=ci5 n fun d hd=>hs d (List.mem_append_left _ hd)
  obtain⟨j1,j2⟩:=ly_nds r fun d hd=>hs d (List.mem_append_right _ hd)
  rw[Nd.ds,Nd.dps]
  refine⟨?_,?_⟩
  ·show(PyData.canLay0 n.d&&PyData.canLayAll0 (Nd.ds r))=true
   rw[i1,j1];rfl
  ·show max (PyData.depth n.d) (PyData.depthAll (Nd.ds r))<=_
   grind
end
theorem bS3{w h:Nat}{l:List Nd}(hs:∀d∈Nd.nmss l,bq3 d):Ly (7+2*Nd.dps l) (N9 w h l):=by
 have i:=ly_nds l hs
 unfold N9
 refine Ly.mono (m:=6+2*Nd.dps l+1) (Ly.tup fun x hx=>?_) (by grind)
 simp only[List.mem_cons,List.not_mem_nil,or_false]at hx
 rcases hx with rfl|rfl|rfl
 ·exact Ly.int _ _
 ·exact Ly.int _ _
 ·exact⟨i.1,by show PyData.depthAll (Nd.ds l)+1<=_;grind⟩
mutual
theorem aV4:∀n:Nd,n.near->n.thin->n.off
 | .layer ..,o,_=>by rw[Nd.near]at o;rw[Nd.off];grind
 | .tone ..,_,_=>by rw[Nd.off];trivial
 | .group nm m s sh ns,o,t=>by
  rw[Nd.near]at o;rw[Nd.thin]at t;rw[Nd.off]
  exact⟨t.1,nears_off' ns o t.2⟩
theorem nears_off':∀l:List Nd,Nd.nears l->Nd.thins l->Nd.offs l
 | [],_,_=>by rw[Nd.offs];trivial
 | n::r,o,t=>by
  rw[Nd.nears]at o;rw[Nd.thins]at t;rw[Nd.offs]
  exact⟨aV4 n o.1 t.1,nears_off' r o.2 t.2⟩
end
theorem main(ns:List Int) (hn:ns.length<=63):aT3 [.list (ns.map PyData.int)]=some (.bool true):=by
 obtain⟨N,eN,hN,b,hP⟩:=bi1 ns hn 0 6 (by decide) (by decide)
 have eN:j9 [scr ns,.int 0,.int 6]=some (.list N):=eN
 obtain⟨w,h,l,ep,hl,hw,hh⟩:=aH8 ns hn 30 4 (by decide) (by decide) N (by grind)
 have ep:U4 [scr ns,.int 30,.int 4,.list N]=some (N9 w h l):=ep
 obtain⟨is,q1,q2,q3⟩:=hl.ix
 have nmv:∀j,j < 6->∃y,N.getD j .none=.str (nmS b j y)/\SOk y/\(nmS b j y).length=y.length+1/\y.length<=4:=fun j hj=>by
  obtain⟨y,e1,e2⟩:=hP j hj
  refine⟨y,by rw[List.getD_eq_getElem?_getD,e1];rfl,e2.1,?_,e2.2⟩
  have lc:(ltr j).cps.size=1:=rfl
  cases b
  ·show(y.cps++(ltr j).cps).size=_
   rw[Array.size_append,lc];rfl
  ·show((ltr j).cps++y.cps).size=_
   rw[Array.size_append,lc,Nat.add_comm];rfl
 have nm:∀d∈Nd.nmss l,Nm d:=fun d hd=>by
  rw[q1]at hd
  obtain⟨j,hj,rfl⟩:=List.mem_map.mp hd
  have j6:=q3 j hj
  obtain⟨y,e1,e2,e3,e4⟩:=nmv j (by grind)
  exact⟨_,e1,bx9 b (by grind) e2,by grind,by grind⟩
 have nlen:(Nd.nmss l).length<=900:=by
  rw[q1,List.length_map]
  have:=List.Nodup.length_le_of_subset (l₂:=List.range 6) q2 fun j hj=>List.mem_range.mpr (by have:=q3 j hj;grind)
  rw[List.length_range]at this;grind
 have nd:(Nd.nmss l).Nodup:=by
  rw[q1]
  refine List.pairwise_map.mpr (List.Pairwise.imp_of_mem (fun{i j} hi hj ne e=>?_) q2)
  obtain⟨y,e1,_⟩:=nmv i (by have:=q3 i hi;grind)
  obtain⟨z,e2,_⟩:=nmv j (by have:=q3 j hj;grind)
  rw[e1,e2]at e
  exact ne (by0 (PyData.str.inj e))
 have ld:=hl.dp
 have g:=gns_of l hl.ok hl.nr nm
 have e1:=aj9 (w:=w) (h:=h) (l:=l) (by grind) (by grind) g (by grind) (by grind)
 have e2:=al6 (w:=w) (h:=h) (l:=l) (by grind) (by grind) g (by grind) (by grind)
 have e3:=bu7 (w:=w) (h:=h) (l:=l) hw.1 (by grind) hh.1 (by grind) (by grind) hl.ok (nears_off' l hl.nr hl.th) nlen nm nd g
 have e4:=aR7 (n:=0) (d:=.str (gl 32 (szT w h::nws l))) ⟨aM8 (by grind) (by grind) g (by grind),Nat.le_refl _⟩ (by decide)
 have e5:=aR7 (bS3 (w:=w) (h:=h) fun d hd=>by obtain⟨s,e,o,_⟩:=nm d hd;exact⟨s,e,o⟩) (by grind)
 refine B2 (ρ:=[‹scr ns›,none,none]) rfl ?_
 wp_walk using evD,bI3,eN,ep,e1,e2,e3,e4,e5
end Lk90
namespace Lk90
open PySem PySem.Spec PyProof.Rows L2 G Sh
theorem K5{K:PySem.W.Frag}(x:Str) (t:Tok):aF7 K (.str x) (.str x t):=⟨.str x,⟨t,rfl⟩,fun _=>rfl⟩
def zcs:List (Str×D):=[("MANNERS", (.tuple [(.str "over"),(.str "multiply"),(.str "screen"),(.str "plus"),(.str "atop"),(.str "cut")])),("RULES", (.tuple [(.str "turn"),(.str "grey"),(.str "round")])),("GREATEST", (.int 8)),("LETTERS", (.str "abcdefghijklmnopqrstuvwxyz")),("DEEPEST", (.int 3)),("FARTHEST", (.int 9)),("FIGURES", (.str "0123456789")),("MOST_FIGURES", (.int 400))]
def zbl:List Str:=["all", "bool", "int", "isinstance", "len", "list", "range", "reversed", "set", "str", "tuple"]
def tb0:Tab:=[]
def aJ7:Fd:=fdm "is_whole" (top 1) 1 ["thing"] true
def ae3:Fd:=fdm "common_divisor" (top 2) 2 ["one", "other", "left_over"] true
def aK2:Fd:=fdm "is_share" (top 3) 1 ["thing", "top", "under"] true
def ay2:Fd:=fdm "is_at_most" (top 4) 2 ["one", "other"] true
def aY6:Fd:=fdm "kind_of" (top 6) 1 ["node"]
def aK3:Fd:=fdm "is_layer" (top 7) 1 ["node"]
def aK4:Fd:=fdm "is_group" (top 8) 1 ["node"]
def aY7:Fd:=fdm "is_tone" (top 9) 1 ["node"]
def aX6:Fd:=fdm "name_of" (top 10) 1 ["node"]
def aE1:Fd:=fdm "manner_of" (top 11) 1 ["node"]
def aX5:Fd:=fdm "rule_of" (top 12) 1 ["tone"]
def ao5:Fd:=fdm "strength_of" (top 13) 1 ["node"]
def aK0:Fd:=fdm "is_shown" (top 14) 1 ["node"]
def aX8:Fd:=fdm "left_of" (top 15) 1 ["layer"]
def bp0:Fd:=fdm "top_of" (top 16) 1 ["layer"]
def aX7:Fd:=fdm "mask_of" (top 17) 1 ["layer"]
def aJ6:Fd:=fdm "sheet_of" (top 18) 1 ["layer"]
def ao9:Fd:=fdm "inner_nodes" (top 19) 1 ["group"]
def ae0:Fd:={ fdm "written_number" (top 21) 1 ["number", "piece", "pieces"] with own:=[2] }
def ah7:Fd:=fdm "written_share" (top 22) 1 ["share"]
def am3:Fd:=fdm "written_spot" (top 23) 1 ["spot"]
def am5:Fd:=fdm "written_mask" (top 24) 1 ["mask"]
def am4:Fd:=fdm "written_size" (top 25) 1 ["thing"]
def ae1:Fd:=fdm "words_of_sheet" (top 26) 1 ["sheet"]
def X7:Fd:=fdm "words_of_layer_alone" (top 27) 1 ["layer", "words"]
def ah8:Fd:={ fdm "words_of_node" (top 28) 1 ["node", "words"] with own:=[1],fz:=[(79,[1]),(81,[1]),(82,[1])] }
def ae2:Fd:={ fdm "words_of_nodes" (top 29) 1 ["nodes", "words", "node"] with own:=[1],fz:=[(87,[1])] }
def aX4:Fd:=fdm "written" (top 30) 1 ["picture"]
def aY8:Fd:={ fdm "is_spot" (top 37) 1 ["thing"] true with hc:=[((103,15),[0])] }
def aY9:Fd:=fdm "is_size" (top 40) 1 ["thing"]
def aJ9:Fd:=fdm "is_sized" (top 41) 1 ["thing"]
def aK1:Fd:=fdm "is_sheet" (top 42) 1 ["thing", "spots"]
def aZ0:Fd:={ fdm "is_name" (top 47) 1 ["thing"] with tx:=[0] }
def aJ8:Fd:=fdm "is_truth" (top 48) 1 ["thing"]
def aE4:Fd:=fdm "is_offset" (top 49) 1 ["thing"]
def aZ1:Fd:=fdm "is_mask" (top 50) 2 ["thing", "sheet"]
def m4:Fd:=fdm "is_layer_of_parts" (top 51) 1 ["thing"]
def m7:Fd:=fdm "is_group_of_nodes" (top 52) 2 ["thing", "deepest"]
def ah9:Fd:=fdm "has_node_form" (top 53) 2 ["thing", "deepest"]
def aE5:Fd:={ fdm "are_nodes" (top 54) 2 ["thing", "deepest"] with hc:=[((152,44),[1])] }
def ao8:Fd:={ fdm "names_among" (top 55) 1 ["nodes", "names", "node"] with own:=[1],fz:=[(159,[1])] }
def v7:Fd:=fdm "are_names_unlike" (top 56) 1 ["nodes", "names"]
def ay1:Fd:=fdm "is_picture" (top 57) 1 ["thing"]
def ao7:Fd:={ fdm "read_number" (top 62) 1 ["word"] with tx:=[0] }
def ao6:Fd:={ fdm "read_offset" (top 63) 1 ["word"] with tx:=[0] }
def ax9:Fd:=fdm "read_share" (top 64) 1 ["word", "parts", "under"]
def aD7:Fd:=fdm "read_spot" (top 65) 1 ["word"]
def aE0:Fd:=fdm "read_mask" (top 66) 1 ["word"]
def aD8:Fd:=fdm "read_size" (top 67) 1 ["word", "parts"]
def bp4:Fd:=fdm "_law_cell" (top 75) 2 ["_law_script", "_law_k"] true
def aY5:Fd:=fdm "_law_drawn" (top 76) 3 ["_law_script", "_law_k", "_law_many", "_law_cell_here"] true
def bp2:Fd:=fdm "_law_made" (top 77) 2 ["_law_top", "_law_under", "_law_one", "_law_by"] true
def aY0:Fd:=fdm "_law_times" (top 79) 2 ["_law_one", "_law_other"] true
def aY2:Fd:=fdm "_law_share" (top 81) 2 ["_law_script", "_law_at", "_law_under", "_law_drawn_here"] true
def bp1:Fd:={ fdm "_law_spot" (top 82) 2 ["_law_script", "_law_at", "_law_cover"] true with hc:=[((272,33),[2,0,1])] }
def aY1:Fd:={ fdm "_law_sheet" (top 83) 4 ["_law_script", "_law_at", "_law_wide", "_law_high", "_law_spots"] with hc:=[((274,17),[0,1])] }
def aY4:Fd:={ fdm "_law_names" (top 84) 3 ["_law_script", "_law_at", "_law_many", "_law_is_first", "_law_found", "_law_k", "_law_word"] with own:=[4],tx:=[6],fz:=[(285,[4])],hc:=[((282,28),[0,1,5])] }
def bp3:Fd:={ fdm "_law_leaf" (top 85) 4 ["_law_script", "_law_at", "_law_name", "_law_main", "_law_strength", "_law_is_shown", "_law_manner", "_law_wide", "_law_high", "_law_mask", "_law_left", "_law_top", "_law_sheet_here"] with hc:=[((298,26),[0,1])] }
def aY3:Fd:={ fdm "_law_nodes" (top 86) 4 ["_law_script", "_law_at", "_law_most", "_law_names_here", "_law_main", "_law_many", "_law_found", "_law_k", "_law_first", "_law_last", "_law_strength", "_law_manner", "_law_group"] with own:=[6],hc:=[((308,17),[0,4,3,1])] }
def aE3:Fd:=fdm "_law_picture" (top 87) 4 ["_law_script", "_law_at", "_law_most", "_law_names_here", "_law_wide", "_law_high"]
def am6:Fd:=fdm "_law_share_text" (top 88) 1 ["_law_share_here"]
def aX9:Fd:={ fdm "_law_words" (top 89) 1 ["_law_node", "_law_found", "_law_one", "_law_mask", "_law_wide", "_law_high", "_law_spots"] with own:=[1],tx:=[3],fz:=[(338,[1])] }
def aE2:Fd:=fdm "_law_written" (top 90) 1 ["_law_picture_here", "_law_found", "_law_node"]
def ca6:Fd:=fdm "read" (top 73) 1 ["text", "words", "size", "picture"]
def bH8:Fd:=fdm "law" (top 91) 1 ["_law_script", "_law_picture_here", "_law_told"]
def mth(j:Nat):Stmt:=(cr1 (top 61)).getD j (.Pass ⟨0,0,0,0⟩)
def aX3:Fd:=fdm "__init__" (mth 0) 2 ["self", "text"]
def ax7:Fd:=fdm "is_at_end" (mth 1) 1 ["self"]
def ao3:Fd:=fdm "word_ahead" (mth 2) 1 ["self"]
def ax6:Fd:=fdm "take_word" (mth 3) 1 ["self", "word"]
def ax8:Fd:={ fdm "read_sheet" (top 68) 1 ["words", "size", "spots"] with hc:=[((209,12),[0])] }
def u9:Fd:=fdm "read_layer_alone" (top 69) 1 ["words", "left", "top", "mask"]
def v5:Fd:=fdm "read_inner_nodes" (top 70) 2 ["words", "deepest", "nodes"]
def aD9:Fd:=fdm "read_node" (top 71) 2 ["words", "deepest", "word", "name", "manner", "strength", "node"]
def ay0:Fd:={ fdm "read_nodes" (top 72) 2 ["words", "deepest", "nodes"] with own:=[2] }
structure Ms (K:PySem.W.Frag) (C:Addr):Prop where
 m_init__:KM K C "__init__" "Words.__init__" (mth 0)
 m_is_at_end:KM K C "is_at_end" "Words.is_at_end" (mth 1)
 m_word_ahead:KM K C "word_ahead" "Words.word_ahead" (mth 2)
 m_take_word:KM K C "take_word" "Words.take_word" (mth 3)
abbrev zfn:List Str:=["words", "words_taken"]
structure Qs (K:PySem.W.Frag):Prop where
 h_is_whole:KF K "is_whole" (top 1)
 h_common_divisor:KF K "common_divisor" (top 2)
 h_is_share:KF K "is_share" (top 3)
 h_is_at_most:KF K "is_at_most" (top 4)
 h_kind_of:KF K "kind_of" (top 6)
 h_is_layer:KF K "is_layer" (top 7)
 h_is_group:KF K "is_group" (top 8)
 h_is_tone:KF K "is_tone" (top 9)
 h_name_of:KF K "name_of" (top 10)
 h_manner_of:KF K "manner_of" (top 11)
 h_rule_of:KF K "rule_of" (top 12)
 h_strength_of:KF K "strength_of" (top 13)
 h_is_shown:KF K "is_shown" (top 14)
 h_left_of:KF K "left_of" (top 15)
 h_top_of:KF K "top_of" (top 16)
 h_mask_of:KF K "mask_of" (top 17)
 h_sheet_of:KF K "sheet_of" (top 18)
 h_inner_nodes:KF K "inner_nodes" (top 19)
 h_written_number:KF K "written_number" (top 21)
 h_written_share:KF K "written_share" (top 22)
 h_written_spot:KF K "written_spot" (top 23)
 h_written_mask:KF K "written_mask" (top 24)
 h_written_size:KF K "written_size" (top 25)
 h_words_of_sheet:KF K "words_of_sheet" (top 26)
 h_words_of_layer_alone:KF K "words_of_layer_alone" (top 27)
 h_words_of_node:KF K "words_of_node" (top 28)
 h_words_of_nodes:KF K "words_of_nodes" (top 29)
 h_written:KF K "written" (top 30)
 h_is_spot:KF K "is_spot" (top 37)
 h_is_size:KF K "is_size" (top 40)
 h_is_sized:KF K "is_sized" (top 41)
 h_is_sheet:KF K "is_sheet" (top 42)
 h_is_name:KF K "is_name" (top 47)
 h_is_truth:KF K "is_truth" (top 48)
 h_is_offset:KF K "is_offset" (top 49)
 h_is_mask:KF K "is_mask" (top 50)
 h_is_layer_of_parts:KF K "is_layer_of_parts" (top 51)
 h_is_group_of_nodes:KF K "is_group_of_nodes" (top 52)
 h_has_node_form:KF K "has_node_form" (top 53)
 h_are_nodes:KF K "are_nodes" (top 54)
 h_names_among:KF K "names_among" (top 55)
 h_are_names_unlike:KF K "are_names_unlike" (top 56)
 h_is_picture:KF K "is_picture" (top 57)
 h_read_number:KF K "read_number" (top 62)
 h_read_offset:KF K "read_offset" (top 63)
 h_read_share:KF K "read_share" (top 64)
 h_read_spot:KF K "read_spot" (top 65)
 h_read_mask:KF K "read_mask" (top 66)
 h_read_size:KF K "read_size" (top 67)
 h_read_sheet:KF K "read_sheet" (top 68)
 h_read_layer_alone:KF K "read_layer_alone" (top 69)
 h_read_inner_nodes:KF K "read_inner_nodes" (top 70)
 h_read_node:KF K "read_node" (top 71)
 h_read_nodes:KF K "read_nodes" (top 72)
 h_read:KF K "read" (top 73)
 h_l_cell:KF K "_law_cell" (top 75)
 h_l_drawn:KF K "_law_drawn" (top 76)
 h_l_made:KF K "_law_made" (top 77)
 h_l_times:KF K "_law_times" (top 79)
 h_l_share:KF K "_law_share" (top 81)
 h_l_spot:KF K "_law_spot" (top 82)
 h_l_sheet:KF K "_law_sheet" (top 83)
 h_l_names:KF K "_law_names" (top 84)
 h_l_leaf:KF K "_law_leaf" (top 85)
 h_l_nodes:KF K "_law_nodes" (top 86)
 h_l_picture:KF K "_law_picture" (top 87)
 h_l_share_text:KF K "_law_share_text" (top 88)
 h_l_words:KF K "_law_words" (top 89)
 h_l_written:KF K "_law_written" (top 90)
 h_law:KF K "law" (top 91)
 h_cls:∃C,KCl K C "Words" zfn/\Ms K C
theorem cn1{P:Program}{w:World}{K:PySem.W.Frag}{mg:Str->Option Value}(M:Md K mg zcs zbl) (q:Qs K) {C:Addr}(c:KCl K C "Words" zfn) (z:Ms K C):∃tab,rd tab zcs zbl bH8=aT3/\∀base:Heap,TOk P w K mg base 124 tab:=by
 refine⟨?tab,?e,fun base=>?t⟩
 case t =>
  have t:TOk P w K mg base 0 tb0:=TOk.nil
  have t:=t.add M aJ7 q.h_is_whole J6
  have t:=t.add M ae3 q.h_common_divisor J1
  have t:=t.add M aK2 q.h_is_share P0
  have t:=t.add M ay2 q.h_is_at_most Y1
  have t:=t.add M aY6 q.h_kind_of O9
  have t:=t.add M aK3 q.h_is_layer J7
  have t:=t.add M aK4 q.h_is_group F8
  have t:=t.add M aY7 q.h_is_tone k5
  have t:=t.add M aX6 q.h_name_of M6
  have t:=t.add M aE1 q.h_manner_of F5
  have t:=t.add M aX5 q.h_rule_of j8
  have t:=t.add M ao5 q.h_strength_of E5
  have t:=t.add M aK0 q.h_is_shown G6
  have t:=t.add M aX8 q.h_left_of W2
  have t:=t.add M bp0 q.h_top_of g9
  have t:=t.add M aX7 q.h_mask_of W1
  have t:=t.add M aJ6 q.h_sheet_of O8
  have t:=t.add M ao9 q.h_inner_nodes F6
  have t:=t.add M ae0 q.h_written_number C6
  have t:=t.add M ah7 q.h_written_share G1
  have t:=t.add M am3 q.h_written_spot N4
  have t:=t.add M am5 q.h_written_mask T1
  have t:=t.add M am4 q.h_written_size J0
  have t:=t.add M ae1 q.h_words_of_sheet K9
  have t:=t.add M X7 q.h_words_of_layer_alone F0
  have t:=TOk.rec2 t M ah8 ae2 q.h_words_of_node q.h_words_of_nodes ai2 L0 12
  have t:=t.add M aX4 q.h_written W0
  have t:=t.add M aY8 q.h_is_spot k6
  have t:=t.add M aY9 q.h_is_size W6
  have t:=t.add M aJ9 q.h_is_sized T2
  have t:=t.add M aK1 q.h_is_sheet x9
  have t:=t.add M aZ0 q.h_is_name af1
  have t:=t.add M aJ8 q.h_is_truth x8
  have t:=t.add M aE4 q.h_is_offset U5
  have t:=t.add M aZ1 q.h_is_mask af2
  have t:=t.add M m4 q.h_is_layer_of_parts G8
  have t:=TOk.rec3 t M m7 ah9 aE5 q.h_is_group_of_nodes q.h_has_node_form q.h_are_nodes m8 Q8 Q3 12
  have t:=TOk.rec t M ao8 q.h_names_among E6 12
  have t:=t.add M v7 q.h_are_names_unlike M0
  have t:=t.add M ay1 q.h_is_picture S0
  have t:=t.add M ao7 q.h_read_number F4
  have t:=t.add M ao6 q.h_read_offset P2
  have t:=t.add M ax9 q.h_read_share G4
  have t:=t.add M aD7 q.h_read_spot U2
  have t:=t.add M aE0 q.h_read_mask h9
  have t:=t.add M aD8 q.h_read_size U3
  have t:=t.add M bp4 q.h_l_cell an8
  have t:=t.add M aY5 q.h_l_drawn A7
  have t:=t.add M bp2 q.h_l_made W4
  have t:=t.add M aY0 q.h_l_times ae9
  have t:=t.add M aY2 q.h_l_share G2
  have t:=t.add M bp1 q.h_l_spot Q2
  have t:=t.add M aY1 q.h_l_sheet W3
  have t:=t.add M aY4 q.h_l_names j9
  have t:=t.add M bp3 q.h_l_leaf W5
  have t:=t.add M aY3 q.h_l_nodes af0
  have t:=t.add M aE3 q.h_l_picture U4
  have t:=t.add M am6 q.h_l_share_text D6
  have t:=TOk.rec t M aX9 q.h_l_words M7 12
  have t:=t.add M aE2 q.h_l_written i4
  have t:TOk P w K mg base 104 _:=t
  have v:YOk P w K mg base C 104 _ ⟨[], "Words", none,[],zfn⟩:=YOk.start t
  have v:YOk P w K mg base C 105 _ _:=v.addM M c.foc ax7 z.m_is_at_end Q1 0
  have v:YOk P w K mg base C 106 _ _:=v.addM M c.foc ao3 z.m_word_ahead N2 0
  have v:YOk P w K mg base C 107 _ _:=v.addM M c.foc ax6 z.m_take_word B7 0
  have v:YOk P w K mg base C 109 _ _:=v.addI M c aX3 z.m_init__ rfl Z6 1
  have v:YOk P w K mg base C 110 _ _:=v.addD M c.foc ax8 q.h_read_sheet N1 0
  have v:YOk P w K mg base C 111 _ _:=v.addD M c.foc u9 q.h_read_layer_alone L9 0
  have v:YOk P w K mg base C 123 _ _:=v.rec3 M c.foc v5 aD9 ay0 q.h_read_inner_nodes q.h_read_node q.h_read_nodes x0 aF5 ac3 12
  have t:TOk P w K mg base 124 _:=TOk.addY v M c.foc ca6 q.h_read aM2
  exact t
 case e=>kernel_rfl
theorem zmd{K:PySem.W.Frag}{h:Heap}{mg:Str->Option Value}{q0 q1:Addr}{y0 y1:Array (Option Value)}{g0t0 g0t1 g0t2 g0t3 g0t4 g0t5 g1t0 g1t1 g1t2 g2 g3 g4 g5 g6 g7:Tok}{n0 n1:Nat}(X:K.In h) (G:h.Ns mainGlobals mg) (p0:PySem.W.nsIn K mainGlobals "MANNERS" = some (some (.ref q0))) (r0:K.lookup q0=some ⟨.type "tuple", none,.seq #[.str "over" g0t0,.str "multiply" g0t1,.str "screen" g0t2,.str "plus" g0t3,.str "atop" g0t4,.str "cut" g0t5] n0,y0⟩) (p1:PySem.W.nsIn K mainGlobals "RULES" = some (some (.ref q1))) (r1:K.lookup q1=some ⟨.type "tuple", none,.seq #[.str "turn" g1t0,.str "grey" g1t1,.str "round" g1t2] n1,y1⟩) (p2:PySem.W.nsIn K mainGlobals "GREATEST" = some (some (.int 8 g2))) (p3:PySem.W.nsIn K mainGlobals "LETTERS" = some (some (.str "abcdefghijklmnopqrstuvwxyz" g3))) (p4:PySem.W.nsIn K mainGlobals "DEEPEST" = some (some (.int 3 g4))) (p5:PySem.W.nsIn K mainGlobals "FARTHEST" = some (some (.int 9 g5))) (p6:PySem.W.nsIn K mainGlobals "FIGURES" = some (some (.str "0123456789" g6))) (p7:PySem.W.nsIn K mainGlobals "MOST_FIGURES" = some (some (.int 400 g7))) (z0:PySem.W.nsIn K mainGlobals "all" = some none) (z1:PySem.W.nsIn K mainGlobals "bool" = some none) (z2:PySem.W.nsIn K mainGlobals "int" = some none) (z3:PySem.W.nsIn K mainGlobals "isinstance" = some none) (z4:PySem.W.nsIn K mainGlobals "len" = some none) (z5:PySem.W.nsIn K mainGlobals "list" = some none) (z6:PySem.W.nsIn K mainGlobals "range" = some none) (z7:PySem.W.nsIn K mainGlobals "reversed" = some none) (z8:PySem.W.nsIn K mainGlobals "set" = some none) (z9:PySem.W.nsIn K mainGlobals "str" = some none) (z10:PySem.W.nsIn K mainGlobals "tuple" = some none):Md K mg zcs zbl:=by
 refine⟨fun x v e=>PySem.W.mg_of X G e,fun x d e=>?_,fun x e=>?_⟩
 ·unfold zcs at e
  rw[List.lookup_cons]at e
  split at e
  ·rename_i q;cases e;simp only[beq_iff_eq]at q;subst q;exact⟨_,(aC5 r0 rfl rfl rfl (by show 6<=1000;decide) (J2 (K5 "over" g0t0) (J2 (K5 "multiply" g0t1) (J2 (K5 "screen" g0t2) (J2 (K5 "plus" g0t3) (J2 (K5 "atop" g0t4) (J2 (K5 "cut" g0t5) ar2))))))),PySem.W.mg_of X G p0⟩
  rw[List.lookup_cons]at e
  split at e
  ·rename_i q;cases e;simp only[beq_iff_eq]at q;subst q;exact⟨_,(aC5 r1 rfl rfl rfl (by show 3<=1000;decide) (J2 (K5 "turn" g1t0) (J2 (K5 "grey" g1t1) (J2 (K5 "round" g1t2) ar2)))),PySem.W.mg_of X G p1⟩
  rw[List.lookup_cons]at e
  split at e
  ·rename_i q;cases e;simp only[beq_iff_eq]at q;subst q;exact⟨_,(ab0 8 g2),PySem.W.mg_of X G p2⟩
  rw[List.lookup_cons]at e
  split at e
  ·rename_i q;cases e;simp only[beq_iff_eq]at q;subst q;exact⟨_,(K5 "abcdefghijklmnopqrstuvwxyz" g3),PySem.W.mg_of X G p3⟩
  rw[List.lookup_cons]at e
  split at e
  ·rename_i q;cases e;simp only[beq_iff_eq]at q;subst q;exact⟨_,(ab0 3 g4),PySem.W.mg_of X G p4⟩
  rw[List.lookup_cons]at e
  split at e
  ·rename_i q;cases e;simp only[beq_iff_eq]at q;subst q;exact⟨_,(ab0 9 g5),PySem.W.mg_of X G p5⟩
  rw[List.lookup_cons]at e
  split at e
  ·rename_i q;cases e;simp only[beq_iff_eq]at q;subst q;exact⟨_,(K5 "0123456789" g6),PySem.W.mg_of X G p6⟩
  rw[List.lookup_cons]at e
  split at e
  ·rename_i q;cases e;simp only[beq_iff_eq]at q;subst q;exact⟨_,(ab0 400 g7),PySem.W.mg_of X G p7⟩
  cases e
 ·unfold zbl at e
  simp only[List.contains_cons,List.contains_nil,Bool.or_false,Bool.or_eq_true,beq_iff_eq]at e
  rcases e with e|e|e|e|e|e|e|e|e|e|e
  ·subst e;exact PySem.W.mg_none_of X G z0
  ·subst e;exact PySem.W.mg_none_of X G z1
  ·subst e;exact PySem.W.mg_none_of X G z2
  ·subst e;exact PySem.W.mg_none_of X G z3
  ·subst e;exact PySem.W.mg_none_of X G z4
  ·subst e;exact PySem.W.mg_none_of X G z5
  ·subst e;exact PySem.W.mg_none_of X G z6
  ·subst e;exact PySem.W.mg_none_of X G z7
  ·subst e;exact PySem.W.mg_none_of X G z8
  ·subst e;exact PySem.W.mg_none_of X G z9
  ·subst e;exact PySem.W.mg_none_of X G z10
theorem cc1{l:PySem.W.OpenLaw}{q:Program}{loose:List Str}{XP:(Str->Option Value)->Heap->Prop}{YP:World->Heap->Prop}{d:DefRec}{K:Params->PySem.W.Frag}(hn:l.most=some 63) (hdf:d.params.defaults=[])
  (hY:∀(w:World) (h:Heap),YP w h->(K w.params).In h) (hd:d.name = "law")
  (F:∀(w:World) (mg:Str->Option Value) (h:Heap),(K w.params).In h->h.Ns mainGlobals mg->Md (K w.params) mg zcs zbl)
  (Q:∀w:World,Qs (K w.params))
  (M:∀ns:List Int,ns.length<=63->aT3 [.list (ns.map PyData.int)]=some (.bool true)) :
  PySem.W.WalkO q loose XP YP l.row.toRowW d [] (fun f vs=>PySem.call f vs) :=
 L2.br5 (n:=63) (k:=125) (x := "_law_script") (CX:=fun _=>CX0) (sp:=fun w=>spF (K w.params) 1 aT3) hn (by decide) hdf ⟨rfl,by decide,by decide⟩ hY
  (fun w mg fa h hk hg hm=>by
   have N:=F w mg h hk hg
   have q:=Q w
   rw[hd]at hm
   obtain⟨C,c,z⟩:=q.h_cls
   obtain⟨_,e,t⟩:=cn1 N q c z
   obtain⟨fd,b1,b2⟩:=by9 N t bH8 q.h_law e hm
   exact⟨fd,b1,fun base _ _=>b2 base⟩)
  (fun w H a ns hl _ hS=>⟨rfl,H,[.list (ns.map PyData.int)],.bool true,B8.refl _,⟨.ref a,[],rfl,⟨a,_,rfl,hS,Reps.ints ns⟩,rfl⟩,M ns hl,fun v H' Hf' g r=>r⟩) fun _ _ _ _ _ z=>z
end Lk90
def PySem.W.Fast.tw18417710525066545784:Unit:=()
def PySem.W.Fast.tw5678917599817567344:Unit:=()
def PySem.W.Fast.tw1348269738483516323:Unit:=()
def PySem.W.Fast.tw17917335633704823397:Unit:=()
def PySem.W.Fast.tw2567325819706679297:Unit:=()
def PySem.W.Fast.tw9015228780811163071:Unit:=()
def PySem.W.Fast.tw17701738551516959495:Unit:=()
def PySem.W.Fast.tw4799836065544851623:Unit:=()
def PySem.W.Fast.tw14252724770240410687:Unit:=()
def PySem.W.Fast.tw6427805797596810918:Unit:=()
def PySem.W.Fast.tw10966582650696732850:Unit:=()
def PySem.W.Fast.tw9660435754449394069:Unit:=()
def PySem.W.Fast.tw12522872243828851929:Unit:=()
def PySem.W.Fast.tw11957880514051785710:Unit:=()
def PySem.W.Fast.tw4968864658103991831:Unit:=()
def PySem.W.Fast.tw10208458242112743091:Unit:=()
def PySem.W.Fast.tw12879593862411993467:Unit:=()
def PySem.W.Fast.tw11824757557434972465:Unit:=()
def PySem.W.Fast.tw10266525385339074380:Unit:=()
def PySem.W.Fast.tw15943556019780438871:Unit:=()
def PySem.W.Fast.tw833690167172211522:Unit:=()
def PySem.W.Fast.tw5124158392642235405:Unit:=()
def PySem.W.Fast.tw8251508853341334066:Unit:=()
def PySem.W.Fast.tw11341333910886680156:Unit:=()
def PySem.W.Fast.tw705228632303100010:Unit:=()
def PySem.W.Fast.tw915217178668290554:Unit:=()
def PySem.W.Fast.tw15932447481744816434:Unit:=()
def PySem.W.Fast.tw4752690373173989217:Unit:=()
def PySem.W.Fast.tw11655043091015136201:Unit:=()
def PySem.W.Fast.tw16831485469388971953:Unit:=()
def PySem.W.Fast.tw10489056683984798201:Unit:=()
def PySem.W.Fast.tw4873370956631833668:Unit:=()
def PySem.W.Fast.tw14165896842081822944:Unit:=()
def PySem.W.Fast.tw8068604638233693276:Unit:=()
def PySem.W.Fast.tw9964331906563135409:Unit:=()
def PySem.W.Fast.tw2173185953955737933:Unit:=()
def PySem.W.Fast.tw8297355987655598242:Unit:=()
def PySem.W.Fast.tw17491096191520106859:Unit:=()
def PySem.W.Fast.tw11740493231527169697:Unit:=()
def PySem.W.Fast.tw4636771376150676578:Unit:=()
def PySem.W.Fast.tw6001072448837620836:Unit:=()
def PySem.W.Fast.tw11293098420006444160:Unit:=()
def PySem.W.Fast.tw16872522393907901782:Unit:=()
def PySem.W.Fast.tw15867754052434349451:Unit:=()
def PySem.W.Fast.tw2743245573942168712:Unit:=()
def PySem.W.Fast.tw7786212977276703620:Unit:=()
def PySem.W.Fast.tw15377129330147178001:Unit:=()
def PySem.W.Fast.tw5676217467762009708:Unit:=()
def PySem.W.Fast.tw17094453194863147018:Unit:=()
def PySem.W.Fast.tw9096224125734588720:Unit:=()
def PySem.W.Fast.tw9822656709786707324:Unit:=()
def PySem.W.Fast.tw7834640066543817787:Unit:=()
def PySem.W.Fast.tw6656654018139204193:Unit:=()
def PySem.W.Fast.tw14380426442437900984:Unit:=()
def PySem.W.Fast.tw9750315099051584598:Unit:=()
def PySem.W.Fast.tw9359795877974223462:Unit:=()
def PySem.W.Fast.tw11349966581535267366:Unit:=()
def PySem.W.Fast.tw3022814594274549566:Unit:=()
def PySem.W.Fast.tw666012118159624390:Unit:=()
def PySem.W.Fast.tw8592726748329063531:Unit:=()
def PySem.W.Fast.tw5564692554850724411:Unit:=()
def PySem.W.Fast.tw12234543258327238246:Unit:=()
def PySem.W.Fast.tw15285590405173302795:Unit:=()
def PySem.W.Fast.tw14652863319165264231:Unit:=()
def PySem.W.Fast.tw8351241878358246589:Unit:=()
def PySem.W.Fast.tw4773274145934291935:Unit:=()
def PySem.W.Fast.tw5697854971582917315:Unit:=()
def PySem.W.Fast.tw4244468467227184852:Unit:=()
def PySem.W.Fast.tw17574809233920021482:Unit:=()
def PySem.W.Fast.tw11232996542140305660:Unit:=()
def PySem.W.Fast.tw14221823788885668338:Unit:=()
def PySem.W.Fast.tw13641872435520935803:Unit:=()
def PySem.W.Fast.tw8232007733920528818:Unit:=()
def PySem.W.Fast.tw15241955345535087525:Unit:=()
def PySem.W.Fast.tw7066196083997300889:Unit:=()
def PySem.W.Fast.tw6648031514776650694:Unit:=()
def PySem.W.Fast.tw15399949389488106350:Unit:=()
def PySem.W.Fast.tw9070980237505762699:Unit:=()
def PySem.W.Fast.tw8786289757381561711:Unit:=()
def PySem.W.Fast.tw241428081581441951:Unit:=()
def PySem.W.Fast.tw3151024172476547426:Unit:=()
def PySem.W.Fast.tw15039993964996014323:Unit:=()
def PySem.W.Fast.tw18124194467055513927:Unit:=()
def PySem.W.Fast.tw12636481417211405928:Unit:=()
def PySem.W.Fast.tw290947122797878626:Unit:=()
def PySem.W.Fast.tw15347512723474647539:Unit:=()
def PySem.W.Fast.tw7968763978730339200:Unit:=()
def PySem.W.Fast.tw347385372622569870:Unit:=()
def PySem.W.Fast.tw4413126056100850920:Unit:=()
def PySem.W.Fast.tw10278329929485666928:Unit:=()
def PySem.W.Fast.tw14746514760064989055:Unit:=()
def PySem.W.Fast.tw8991691899096820612:Unit:=()
def PySem.W.Fast.tw8905432130226525171:Unit:=()
def PySem.W.Fast.tw4014157898750866795:Unit:=()
def PySem.W.Fast.tw14452712056612406677:Unit:=()
def PySem.W.Fast.tw10441519293496959278:Unit:=()
def PySem.W.Fast.tw3606996469464507222:Unit:=()
def PySem.W.Fast.tw6062920065046921965:Unit:=()
def PySem.W.Fast.tw9525429596164642357:Unit:=()
def PySem.W.Fast.tw11066328197470744048:Unit:=()
def PySem.W.Fast.tw17861957070685686781:Unit:=()
def PySem.W.Fast.tw9511041333824363655:Unit:=()
def PySem.W.Fast.tw16241087687816711901:Unit:=()
def PySem.W.Fast.tw10350274341981207222:Unit:=()
def PySem.W.Fast.tw7314965737548767632:Unit:=()
def PySem.W.Fast.tw8629816381259328204:Unit:=()
def PySem.W.Fast.tw9562183766715748588:Unit:=()
def PySem.W.Fast.tw7589614366589809814:Unit:=()
def PySem.W.Fast.tw16469669997128674246:Unit:=()
def PySem.W.Fast.tw14786799140942491575:Unit:=()
def PySem.W.Fast.tw13504143249434216227:Unit:=()
def PySem.W.Fast.tw9461526217571457914:Unit:=()
def PySem.W.Fast.tw12855221229813331944:Unit:=()
def PySem.W.Fast.tw4384338826560985665:Unit:=()
def PySem.W.Fast.tw7658715199918085773:Unit:=()
def PySem.W.Fast.tw11154747163734128927:Unit:=()
def PySem.W.Fast.tw629350098940311399:Unit:=()
def PySem.W.Fast.tw7550912500220673921:Unit:=()
def PySem.W.Fast.tw2930310477596913946:Unit:=()
def PySem.W.Fast.tw2778237987181941063:Unit:=()
def PySem.W.Fast.tw8982205689500043603:Unit:=()
def PySem.W.Fast.tw2317897848251349570:Unit:=()
def PySem.W.Fast.tw1521780439108562403:Unit:=()
def PySem.W.Fast.tw3867883671462644967:Unit:=()
def PySem.W.Fast.tw11506974505805229953:Unit:=()
def PySem.W.Fast.tw17676203564783619802:Unit:=()
def PySem.W.Fast.tw3746227062904074586:Unit:=()
def PySem.W.Fast.tw2583620817638757593:Unit:=()
def PySem.W.Fast.tw51802930845047942:Unit:=()
def PySem.W.Fast.tw2903890652075442602:Unit:=()
def PySem.W.Fast.tw15913816419565887238:Unit:=()
def PySem.W.Fast.tw12760129713545485750:Unit:=()
def PySem.W.Fast.tw9702277135533994135:Unit:=()
def PySem.W.Fast.tw5822308974458704547:Unit:=()
def PySem.W.Fast.tw17155796861214661188:Unit:=()
def PySem.W.Fast.tw16371637446836137509:Unit:=()
def PySem.W.Fast.tw15762443683930981328:Unit:=()
def PySem.W.Fast.tw16369424884310374737:Unit:=()
def PySem.W.Fast.tw11069069585261408666:Unit:=()
def PySem.W.Fast.tw17117072133663930293:Unit:=()
def PySem.W.Fast.tw13734477664534270044:Unit:=()
def PySem.W.Fast.tw8294275923417954799:Unit:=()
def PySem.W.Fast.tw9242080565640750341:Unit:=()
def PySem.W.Fast.tw3055163741297351698:Unit:=()
def PySem.W.Fast.tw3503267465291933106:Unit:=()
def PySem.W.Fast.tw12895529602265919755:Unit:=()
def PySem.W.Fast.tw2933810230530359885:Unit:=()
def PySem.W.Fast.tw10716935331378885872:Unit:=()
def PySem.W.Fast.tw712712807245337903:Unit:=()
def PySem.W.Fast.tw11710437667612724646:Unit:=()
def PySem.W.Fast.tw13073074932405662411:Unit:=()
def PySem.W.Fast.tw14649798068222596185:Unit:=()
def PySem.W.Fast.tw8501526141330111583:Unit:=()
def PySem.W.Fast.tw13209437768622980984:Unit:=()
def PySem.W.Fast.tw7327861417660147884:Unit:=()
namespace Lk90
open PySem PySem.W PyProof.Rows
set_option maxHeartbeats 0 in
open_top head for PySem.Challenge.rw_glazework_k90_written
end Lk90
open PySem PySem.W PyProof.Rows
set_option maxRecDepth 100000 in
set_option maxHeartbeats 0 in
theorem PySem.Challenge.cw_glazework_k90_written_holds : PySem.Challenge.rw_glazework_k90_written.Holds := by
 refine Lk90.head ?_
 k_fill
 refine Lk90.cc1 (l:=PySem.Challenge.rw_glazework_k90_written) rfl rfl (fun w h Y=>PySem.W.kIn_of Y) rfl ?F ?Q Lk90.main
 case F =>
  intro w mg h KX G
  refine' Lk90.zmd KX G ?p0 ?r0 ?p1 ?r1 ?p2 ?p3 ?p4 ?p5 ?p6 ?p7 ?z0 ?z1 ?z2 ?z3 ?z4 ?z5 ?z6 ?z7 ?z8 ?z9 ?z10
  (case p0=>k_is);(case r0=>k_is);(case p1=>k_is);(case r1=>k_is);(case p2=>k_is);(case p3=>k_is);(case p4=>k_is);(case p5=>k_is);(case p6=>k_is);(case p7=>k_is);(case z0=>k_is);(case z1=>k_is);(case z2=>k_is);(case z3=>k_is);(case z4=>k_is);(case z5=>k_is);(case z6=>k_is);(case z7=>k_is);(case z8=>k_is);(case z9=>k_is);(case z10=>k_is)
 case Q =>
  intro w
  constructor
  case h_cls =>
   refine' ⟨_,G.bT8 ?a ?b ?c ?pg ?hd ?po ?sa ?n1 ?n2,?ms⟩
   (case a=>k_is);(case b=>k_is);(case c=>k_is);(case pg=>k_is);(case hd=>k_is);(case po=>k_is);(case sa=>k_is);(case n1=>k_is);(case n2=>k_is)
   case ms =>
    constructor
    all_goals (refine' G.cj1 ?a ?i ?l ?c ?k;(case a=>k_is);(case i=>k_is);(case l=>k_is);(case c=>k_is);(case k=>k_is))
  all_goals (refine' G.cj2 ?a ?l ?c ?k;(case a=>k_is);(case l=>k_is);(case c=>k_is);(case k=>k_is))
