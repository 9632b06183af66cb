import PyProof.Rows.All
import Wide.All
import OpenK.AllK
import Wide.FinOn
import Lean
import PyProof.EqAt
import PyProof.EqKinds
import PyProof.TupleCall
import PySem.Challenge.RW_glazework_k73_whole_back_and_twins
set_option compiler.extract_closed false
noncomputable section
set_option autoImplicit true
set_option Elab.async false
set_option linter.all false
set_option maxRecDepth 100000
namespace L2
open PySem PySem.Spec PyProof.Rows
noncomputable abbrev Key:=Sum Int Str
noncomputable def ak9:Key->Value->Bool
 | .inl k,v=>Value.isInt k v
 | .inr x,v=>Value.isStrOf x v
noncomputable def cm2(w:World):Key->Int
 | .inl k=>hashInt k
 | .inr x=>hashStr w x
theorem L9:∀{k:Key}{v:Value},ak9 k v=true->(∃i t,k=Sum.inl i/\v=Value.int i t)\/(∃x t,k=Sum.inr x/\v=Value.str x t)
 | .inl i,v,h=>by
  obtain⟨t,e⟩:=Value.isInt_shape (k:=i) (v:=v) h
  exact .inl ⟨i,t,rfl,e⟩
 | .inr x,v,h=>by
  obtain⟨t,e⟩:=Value.isStrOf_shape (x:=x) (v:=v) h
  exact .inr ⟨x,t,rfl,e⟩
theorem aS3(i:Int) (t:Tok):ak9 (.inl i) (.int i t)=true:=by simp[ak9,Value.isInt]
theorem aS2(x:Str) (t:Tok):ak9 (.inr x) (.str x t)=true:=by simp[ak9,Value.isStrOf]
theorem bP8(a b:Int):decide ((Sum.inl a:Key)=Sum.inl b)=(a==b):=by
 by_cases e:a=b
 ·subst e;simp
 ·have h:¬(Sum.inl a:Key)=Sum.inl b:=fun q=>e (Sum.inl.inj q)
  rw[decide_eq_false h]
  exact(beq_eq_false_iff_ne.mpr e).symm
theorem bf0(a b:Str):decide ((Sum.inr a:Key)=Sum.inr b)=decide (a=b):=by
 by_cases e:a=b
 ·subst e;simp
 ·have h:¬(Sum.inr a:Key)=Sum.inr b:=fun q=>e (Sum.inr.inj q)
  rw[decide_eq_false h,decide_eq_false e]
theorem bP7(a:Int) (b:Str):decide ((Sum.inl a:Key)=Sum.inr b)=false:=decide_eq_false (fun q=>nomatch q)
theorem bP6(a:Str) (b:Int):decide ((Sum.inr a:Key)=Sum.inl b)=false:=decide_eq_false (fun q=>nomatch q)
noncomputable def K7(prog:Program) (w:World):PySem.KeyKind prog w Key where
 is:=ak9
 hash:=cm2 w
 inj:=fun v a b ha hb=>by
  rcases L9 ha with⟨i,t,rfl,rfl⟩|⟨x,t,rfl,rfl⟩
  ·rcases L9 hb with⟨j,u,rfl,e⟩|⟨y,u,rfl,e⟩
   ·injection e with e1 _;rw[e1]
   ·exact nomatch e
  ·rcases L9 hb with⟨j,u,rfl,e⟩|⟨y,u,rfl,e⟩
   ·exact nomatch e
   ·injection e with e1 _;rw[e1]
 byValue:=fun k v h=>by
  rcases L9 h with⟨i,t,rfl,rfl⟩|⟨x,t,rfl,rfl⟩<;>rfl
 pyHash:=fun hv h=>by
  rcases L9 hv with⟨i,t,rfl,rfl⟩|⟨x,t,rfl,rfl⟩
  ·exact wpAny_pyHash_int h
  ·exact wpAny_pyHash_str h
 eqBool:=fun hu hv h=>by
  rcases L9 hu with⟨i,t,rfl,rfl⟩|⟨x,t,rfl,rfl⟩
  ·rcases L9 hv with⟨j,u,rfl,rfl⟩|⟨y,u,rfl,rfl⟩
   ·rw[bP8]at h;exact wpAny_eqBool_int h
   ·rw[bP7]at h;exact SeqAt.EqAt.int_str i t y u _ _ _ _ h
  ·rcases L9 hv with⟨j,u,rfl,rfl⟩|⟨y,u,rfl,rfl⟩
   ·rw[bP6]at h;exact SeqAt.EqAt.str_int x t j u _ _ _ _ h
   ·rw[bf0]at h;exact wpAny_eqBool_str h
 «strs»:=fun k x t v h=>by
  rcases L9 h with⟨i,u,rfl,e⟩|⟨y,u,rfl,e⟩
  ·exact nomatch e
  ·injection e with e1 _
   subst e1
   cases v<;>rfl
theorem ay4(prog:Program) (w:World) (i:Int) (t:Tok):(K7 prog w).is (.inl i) (.int i t)=true:=aS3 i t
theorem ay3(prog:Program) (w:World) (x:Str) (t:Tok):(K7 prog w).is (.inr x) (.str x t)=true:=aS2 x t
end L2
namespace L2
open PySem PySem.Spec PyProof.Rows
inductive V where
 | non|bl (b:Bool)|int (i:Int)|str (x:Str)|byt (b:Array UInt8)|flt (b:UInt64)|ref (a:Addr)|ty (n:String)
 deriving DecidableEq
noncomputable def C5:V->Value->Prop
 | .non,u=>u=Value.none
 | .bl b,u=>u=Value.bool b
 | .int i,u=>∃t,u=Value.int i t
 | .str x,u=>∃t,u=Value.str x t
 | .byt b,u=>∃t,u=Value.bytes b t
 | .flt b,u=>∃t,u=Value.float b t
 | .ref a,u=>u=Value.ref a
 | .ty n,u=>u=Value.type n
noncomputable abbrev C1:List V->List Value->Prop:=Paired C5
theorem C1.length(r:C1 xs us):xs.length=us.length:=Paired.length r
theorem C1.get:∀{xs:List V}{us:List Value}{i:Nat}{x:V},C1 xs us->xs[i]? = some x->∃u,us[i]? = some u/\C5 x u
 | _,_,_,_,.nil,e=>by simp at e
 | _,_,0,_,.cons r _,e=>by simp at e;subst e;exact⟨_,rfl,r⟩
 | _,_,i+1,x,.cons _ t,e=>by
  obtain⟨u,h1,h2⟩:=C1.get (i:=i) (x:=x) t (by simpa using e)
  exact⟨u,by simpa using h1,h2⟩
theorem C1.append:∀{xs ys:List V}{us ws:List Value},C1 xs us->C1 ys ws->C1 (xs++ys) (us++ws)
 | _,_,_,_,.nil,s=>s
 | _,_,_,_,.cons r t,s=>.cons r (C1.append t s)
theorem C1.take:∀{xs:List V}{us:List Value}(n:Nat),C1 xs us->C1 (xs.take n) (us.take n)
 | _,_,0,_=>.nil
 | _,_,_+1,.nil=>.nil
 | _,_,n+1,.cons r t=>.cons r (C1.take n t)
theorem C1.drop:∀{xs:List V}{us:List Value}(n:Nat),C1 xs us->C1 (xs.drop n) (us.drop n)
 | _,_,0,r=>r
 | _,_,_+1,.nil=>.nil
 | _,_,n+1,.cons _ t=>C1.drop n t
noncomputable def Z0:Option V->Option Value->Prop
 | some v,some u=>C5 v u
 | none,none=>True
 | _,_=>False
noncomputable def KV{κ:Type}:List (κ×V)->List (κ×Value)->Prop:=Paired fun(p:κ×V) (q:κ×Value)=>p.1=q.1/\C5 p.2 q.2
noncomputable def kV:Key->V
 | .inl i=>.int i
 | .inr x=>.str x
inductive HO where
 /-- a list -/
 | lst (xs:List V)
 /-- a tuple (never changes) -/
 | tup (xs:List V)
 /-- a dict whose keys are ints and texts;one whose keys are tuples of ints and texts (the empty one is both) -/
 | dK (kvs:List (Key×V))|dT (kvs:List (List Key×V))
 /-- a set of ints: its members,its size -/
 | set (S:Int->Bool) (n:Nat)
 /-- an instance of the class at C,its dict at dx,its attributes -/
 | ins (C dx:Addr) (fs:List (Str×V))
 /-- the dict of the instance at x -/
 | own (x:Addr)
 /-- the dict of an exception -/
 | xd (fs:List (Str×V))
 /-- a bound method,f of x -/
 | met (f x:Addr)
 /-- a range object lo,lo+1,.. below hi -/
 | rng (lo hi:Int)
 /-- a thing that is known to the object (the script;a dict while a loop walks it): read,never written while it is so -/
 | frz (o:Obj) (u:HO)
 /-- a code object's table -/
 | tbl (ps:Array Value)
 /-- any other thing,by what is true of its one object (a def of one's own: SetO a S n:=HO.ext fun h=>..) -/
 | ext (φ:Heap->Prop)
noncomputable abbrev Hp:=Addr->Option HO
noncomputable def upd(H:Hp) (a:Addr) (o:HO):Hp:=fun b=>if b=a then some o else H b
theorem A3:upd H a o a=some o:=by unfold upd;rw[if_pos rfl]
theorem A4(h:b≠a):upd H a o b=H b:=by unfold upd;rw[if_neg h]
theorem g7{H:Hp}{a b:Addr}{o u:HO}(h:H a=some o) (h':H b=some u) (d:o≠u):a≠b:=by
 intro e;subst e;rw[h]at h';exact d (Option.some.inj h')
theorem A9{H:Hp}{a b:Addr}{o:HO}(h:H a=some o) (h':H b=none):a≠b:=by
 intro e;subst e;rw[h]at h';cases h'
noncomputable def am2(h:Heap) (a:Addr) (items:Array Value):Prop:=∃o,h.get? a=some o/\o.cls=.type "tuple" /\ (∃n,o.data=.seq items n)/\o.dict=none
theorem am2.tup{h:Heap}{a:Addr}{items:Array Value}(p:am2 h a items):IsTup h a items:=let⟨o,e,c,d,_⟩:=p;⟨o,e,c,d⟩
theorem am2.new(h:Heap) (items:Array Value) (n:Nat:=0):am2 (h.push { cls:=.type "tuple", data:=.seq items n }) h.objs.size items:=⟨_,Heap.get?_push_size _ rfl,rfl,⟨_,rfl⟩,rfl⟩
section
variable (P:Program) (w:World)
noncomputable def O8(H:Hp) (h:Heap) (a:Addr):HO->Prop
 | .lst xs=>xs.length<=sizeLine/\∃(its:List Value) (n:Nat),C1 xs its/\h.get? a=some { cls:=.type "list", data:=.seq its.toArray n }
 | .tup xs=>xs.length<=sizeLine/\∃its:List Value,C1 xs its/\am2 h a its.toArray
 | .dK kvs=>kvs.length<=sizeLine/\(a==sysModules)=false/\∃vs,KV kvs vs/\h.DictOf (K7 P w) a vs
 | .dT kvs=>kvs.length<=sizeLine/\(a==sysModules)=false/\∃xs:List (List Key×Addr×Value),
   Paired (fun(p:List Key×V) (q:List Key×Addr×Value)=>p.1=q.1/\H q.2.1=some (.tup (p.1.map kV))/\C5 p.2 q.2.2) kvs xs /\
   ∃o es ep,h.get? a=some o/\o.ExactDict/\o.data=.dict es ep/\es.toList=xs.map (entryOfKey (tupleKind (K7 P w)))/\(xs.map (·.1)).Nodup
 | .set S n=>h.SetOf (intKind P w) a S n
 | .ins C dx fs=>H dx=some (.own a)/\fs.length<=1000/\dx≠a/\h.get? a=some (PySem.W.instObj C dx) /\
   ∃mA,h.Ns1 dx mA/\(∀f,Z0 (fs.lookup f) (mA f))/\PySem.Within mA (fs.map (·.1))
 | .own _=>∃o,h.get? a=some o
 | .xd fs=>∃mA,h.Ns1 a mA/\∀f,Z0 (fs.lookup f) (mA f)
 | .rng lo hi=>∃t u v,h.get? a=some { cls:=.type "range", data:=.fields #[.int lo t,.int hi u,.int 1 v] }
 | .frz o u=>h.get? a=some o/\O8 H h a u
 | .tbl ps=>h.get? a=some { cls:=.none,data:=.fields ps }
 | .met f x=>h.get? a=some (PySem.W.methodObj (.ref f) (.ref x))
 | .ext φ=>φ h/\(∃o,h.get? a=some o)/\∀h1 h2:Heap,φ h1->(∀o,h1.get? a=some o->h2.get? a=some o)->φ h2
noncomputable def HOk(H:Hp) (h:Heap):Prop:=∀a o,H a=some o->O8 P w H h a o
end
section
variable {P:Program}{w:World}{H H':Hp}{h h':Heap}{a:Addr}{o:HO}
theorem O8.lt(x:O8 P w H h a o):a < h.objs.size:=by
 cases o with
 | lst xs=>obtain⟨_,_,_,_,e⟩:=x;exact Heap.lt_size e
 | tup xs=>obtain⟨_,_,_,p⟩:=x;exact p.tup.lt
 | dK kvs=>obtain⟨_,_,_,_,o,_,_,e,_⟩:=x;exact Heap.lt_size e
 | dT kvs=>obtain⟨_,_,_,_,o,_,_,e,_⟩:=x;exact Heap.lt_size e
 | set S n=>obtain⟨o,_,_,_,e,_⟩:=x;exact Heap.lt_size e
 | ins C dx fs=>obtain⟨_,_,_,e,_⟩:=x;exact Heap.lt_size e
 | own y=>obtain⟨_,e⟩:=x;exact Heap.lt_size e
 | xd fs=>obtain⟨_,⟨_,_,_,e,_⟩,_⟩:=x;exact Heap.lt_size e
 | rng lo hi=>obtain⟨_,_,_,e⟩:=x;exact Heap.lt_size e
 | frz ob u=>obtain⟨e,_⟩:=x;exact Heap.lt_size e
 | tbl ps=>exact Heap.lt_size (show h.get? a=some _ from x)
 | met f y=>exact Heap.lt_size (show h.get? a=some _ from x)
 | ext φ=>obtain⟨_,⟨_,e⟩,_⟩:=x;exact Heap.lt_size e
theorem Paired.mapP{α β:Type}{F G:α->β->Prop}:∀{l₁:List α}{l₂:List β},Paired F l₁ l₂->(∀a b,F a b->G a b)->Paired G l₁ l₂
 | _,_,.nil,_=>.nil
 | _,_,.cons r t,f=>.cons (f _ _ r) (Paired.mapP t f)
theorem O8.stay(x:O8 P w H h a o) (k:∀b u,(b=a\/H b=some (.own a))->h.get? b=some u->h'.get? b=some u)
  (ho:∀b,H b=some (.own a)->H' b=some (.own a)) (ht:∀b xs,H b=some (.tup xs)->H' b=some (.tup xs)):O8 P w H' h' a o:=by
 induction o with
 | lst xs=>obtain⟨z,its,n,r,e⟩:=x;exact⟨z,its,n,r,k _ _ (.inl rfl) e⟩
 | tup xs=>obtain⟨z,its,r,ob,e,c⟩:=x;exact⟨z,its,r,ob,k _ _ (.inl rfl) e,c⟩
 | dK kvs=>obtain⟨z,y,vs,r,ob,es,ep,e,c⟩:=x;exact⟨z,y,vs,r,ob,es,ep,k _ _ (.inl rfl) e,c⟩
 | dT kvs =>
  obtain⟨z,y,xs,r,ob,es,ep,e,c⟩:=x
  exact⟨z,y,xs,Paired.mapP r fun p q z=>⟨z.1,ht _ _ z.2.1,z.2.2⟩,ob,es,ep,k _ _ (.inl rfl) e,c⟩
 | set S n=>obtain⟨ob,es,ep,t,e,c⟩:=x;exact⟨ob,es,ep,t,k _ _ (.inl rfl) e,c⟩
 | ins C dx fs =>
  obtain⟨d,z,ne,e,mA,⟨od,es,ep,e2,c⟩,r⟩:=x
  exact⟨ho _ d,z,ne,k _ _ (.inl rfl) e,mA,⟨od,es,ep,k _ _ (.inr d) e2,c⟩,r⟩
 | own y=>obtain⟨ob,e⟩:=x;exact⟨ob,k _ _ (.inl rfl) e⟩
 | xd fs=>obtain⟨mA,⟨od,es,ep,e,c⟩,r⟩:=x;exact⟨mA,⟨od,es,ep,k _ _ (.inl rfl) e,c⟩,r⟩
 | rng lo hi=>obtain⟨t,u,v,e⟩:=x;exact⟨t,u,v,k _ _ (.inl rfl) e⟩
 | frz ob u ih=>obtain⟨e,q⟩:=x;exact⟨k _ _ (.inl rfl) e,ih q⟩
 | tbl ps =>
  have e:h.get? a=some { cls:=.none,data:=.fields ps }:=x
  show h'.get? a=some { cls:=.none,data:=.fields ps }
  exact k a _ (.inl rfl) e
 | met f y =>
  have e:h.get? a=some (PySem.W.methodObj (.ref f) (.ref y)):=x
  show h'.get? a=some (PySem.W.methodObj (.ref f) (.ref y))
  exact k a _ (.inl rfl) e
 | ext φ=>obtain⟨p,⟨o,e⟩,st⟩:=x;exact⟨st _ _ p fun o q=>k _ _ (.inl rfl) q,⟨o,k _ _ (.inl rfl) e⟩,st⟩
theorem HOk.lt(x:HOk P w H h) (e:H a=some o):a < h.objs.size:=(x a o e).lt
theorem HOk.fresh(x:HOk P w H h) (e:h.objs.size<=a):H a=none:=by
 cases q:H a with
 | none=>rfl
 | some u=>exact absurd (Nat.lt_of_lt_of_le (x.lt q) e) (Nat.lt_irrefl _)
theorem HOk.kept(x:HOk P w H h) (k:∀b u,h.get? b=some u->h'.get? b=some u):HOk P w H h':=fun a o e =>
 (x a o e).stay (fun b u _ q=>k b u q) (fun _ q=>q) fun _ _ q=>q
theorem HOk.laid(x:HOk P w H h) (k:∀b u,h.get? b=some u->h'.get? b=some u) (hp:h.objs.size<=a) (new:O8 P w (upd H a o) h' a o):HOk P w (upd H a o) h':=fun b u e=>by
 have hn:=x.fresh hp
 by_cases hb:b=a
 ·subst hb;rw[A3]at e;cases e;exact new
 ·rw[A4 hb]at e
  exact(x b u e).stay (fun c v _ q=>k c v q) (fun c q=>by rw[A4 (A9 q hn)];exact q) fun c xs q=>by rw[A4 (A9 q hn)];exact q
end
noncomputable def Rd(H:Hp) (a:Addr) (u:HO):Prop:=H a=some u\/∃o,H a=some (.frz o u)
theorem Rd.ok(r:Rd H a u) (x:HOk P w H h):O8 P w H h a u:=by
 rcases r with r|⟨o,r⟩
 ·exact x a u r
 ·obtain⟨_,q⟩:=x a _ r
  exact q
noncomputable def Mut:Option HO->Prop
 | some (.lst _)=>True
 | some (.dK _)=>True
 | some (.dT _)=>True
 | some (.set _ _)=>True
 | some (.ins _ _ _)=>True
 | some (.ext _)=>True
 | _=>False
section
variable {P:Program}{w:World}{H:Hp}{h h':Heap}{x e:Addr}{o':HO}
theorem HOk.write(ok:HOk P w H h) (mu:Mut (H x)) (he:e=x\/H e=some (.own x)) (k:∀b u,b≠e->h.get? b=some u->h'.get? b=some u) (heo:∃u,h'.get? e=some u)
  (new:O8 P w (upd H x o') h' x o'):HOk P w (upd H x o') h':=fun b u q=>by
 have nown:∀c y,H c=some (.own y)->c≠x:=fun c y r z=>by subst z;rw[r]at mu;exact mu
 have ntup:∀c xs,H c=some (.tup xs)->c≠x:=fun c xs r z=>by subst z;rw[r]at mu;exact mu
 by_cases hb:b=x
 ·subst hb;rw[A3]at q;cases q;exact new
 ·rw[A4 hb]at q
  by_cases hbe:b=e
  ·have q':H b=some (.own x):=by
    rcases he with z|z
    ·exact absurd (hbe.trans z) hb
    ·rw[hbe];exact z
   rw[q]at q';cases q'
   obtain⟨v,hv⟩:=heo
   exact⟨v,by rw[hbe];exact hv⟩
  ·refine(ok b u q).stay (fun c v hc r=>k c v ?_ r) (fun c r=>by rw[A4 (nown c b r)];exact r) fun c xs r=>by rw[A4 (ntup c xs r)];exact r
   rcases hc with rfl|hc
   ·exact hbe
   ·rintro rfl
    rcases he with z|z
    ·exact nown c b hc z
    ·rw[hc]at z;cases z;exact hb rfl
end
structure Un (fs ex:List Addr) (H H':Hp) (h h':Heap):Prop where
 keep:∀b o,h.get? b=some o->H b=none->b∉fs->b∉ex->h'.get? b=some o
 slot:∀b o,h.get? b=some o->H b=none->b∈fs->b∉ex->∃sl,h'.get? b=some { o with slots:=sl }
 free:∀b o,h.get? b=some o->H b=none->b∉ex->H' b=none
 there:∀b o,h.get? b=some o->b∉ex->∃o',h'.get? b=some o'
 tups:∀b xs,H b=some (.tup xs)->H' b=some (.tup xs)
 frzs:∀b o u,H b=some (.frz o u)->H' b=some (.frz o u)
 tbls:∀b ps,H b=some (.tbl ps)->∃more,H' b=some (.tbl (ps++more))
section
variable {fs fs' ex ex':List Addr}{H H1 H2:Hp}{h h1 h2 h':Heap}{a x e:Addr}{o:HO}
theorem Un.any(u:Un fs ex H H1 h h1) (q:h.get? b=some ob) (n:H b=none) (hx:b∉ex):∃sl,h1.get? b=some { ob with slots:=sl }:=by
 by_cases hb:b∈fs
 ·exact u.slot b ob q n hb hx
 ·exact⟨ob.slots,u.keep b ob q n hb hx⟩
theorem Un.kept(k:∀b u,h.get? b=some u->h'.get? b=some u):Un fs ex H H h h' :=
 ⟨fun b ob q _ _ _=>k b ob q,fun b ob q _ _ _=>⟨ob.slots,k b ob q⟩,fun _ _ _ n _=>n,fun b ob q _=>⟨ob,k b ob q⟩,fun _ _ q=>q,fun _ _ _ q=>q,fun _ ps q=>⟨#[],by rw[q];simp⟩⟩
theorem Un.refl:Un fs ex H H h h:=Un.kept fun _ _ q=>q
theorem Un.laid(k:∀b u,h.get? b=some u->h'.get? b=some u) (hp:h.objs.size<=a) (hn:H a=none):Un fs ex H (upd H a o) h h' where
 keep:=fun b u q _ _ _=>k b u q
 slot:=fun b u q _ _ _=>⟨u.slots,k b u q⟩
 free:=fun b u q n _=>by rw[A4 (Nat.ne_of_lt (Nat.lt_of_lt_of_le (Heap.lt_size q) hp))];exact n
 there:=fun b u q _=>⟨u,k b u q⟩
 tups:=fun b xs q=>by rw[A4 (A9 q hn)];exact q
 frzs:=fun b u xs q=>by rw[A4 (A9 q hn)];exact q
 tbls:=fun b ps q=>⟨#[],by rw[A4 (A9 q hn),q];simp⟩
theorem Un.write(mu:Mut (H x)) (he:e=x\/H e=some (.own x)) (k:∀b u,b≠e->h.get? b=some u->h'.get? b=some u) (heo:∃u,h'.get? e=some u):Un fs ex H (upd H x o) h h':=by
 have hx:∀b,H b=none->b≠x:=fun b n z=>by subst z;rw[n]at mu;exact mu
 have hb:∀b,H b=none->b≠e:=fun b n z=>by
  subst z
  rcases he with r|r
  ·exact hx b n r
  ·rw[n]at r;cases r
 have hm:∀b u,H b=some u->¬Mut (some u)->b≠x:=fun b u q nm z=>by subst z;rw[q]at mu;exact nm mu
 refine⟨fun b u q n _ _=>k b u (hb b n) q,fun b u q n _ _=>⟨u.slots,k b u (hb b n) q⟩,fun b u q n _=>by rw[A4 (hx b n)];exact n,fun b u q _=>?_,
  fun b xs q=>by rw[A4 (hm b _ q fun z=>z)];exact q,fun b u xs q=>by rw[A4 (hm b _ q fun z=>z)];exact q,fun b ps q=>⟨#[],by rw[A4 (hm b _ q fun z=>z),q];simp⟩⟩
 by_cases hbe:b=e
 ·subst hbe;exact heo
 ·exact⟨u,k b u hbe q⟩
end
noncomputable def trk(h:Heap) (H:Hp):List Addr:=(List.range h.objs.size).filter fun a=>(H a).isSome
noncomputable def at5(h:Heap) (H:Hp):Heap:=PySem.W.hideAll h (trk h H)
theorem aS9(h:Heap) (H:Hp):(at5 h H).objs.size=h.objs.size:=PySem.W.hideAll_size _ _
theorem bh9(e:h.get? b=some o) (n:H b=none):(at5 h H).get? b=some o :=
 PySem.W.hideAll_get _ e fun hm=>by
  have q:(H b).isSome=true:=(List.mem_filter.mp hm).2
  rw[n]at q;simp at q
theorem bu6(e:(at5 h H).get? b=some o):h.get? b=some o/\H b=none:=by
 have e':h.get? b=some o:=PySem.W.of_hideAll (trk h H) e
 refine⟨e',?_⟩
 cases q:H b with
 | none=>rfl
 | some x =>
  have hm:b∈trk h H:=List.mem_filter.mpr ⟨List.mem_range.mpr (Heap.lt_size e'),by simp[q]⟩
  have z:(at5 h H).get? b=none:=PySem.W.hideAll_none (trk h H) hm
  rw[z]at e;cases e
noncomputable def bB0(g h:Heap) (L:Addr):List (Addr×Obj):=(List.range h.objs.size).filterMap fun a=>if a=L\/(g.get? a).isSome=true then none else(h.get? a).map fun o=>(a,o)
noncomputable def O4(g h:Heap) (L d:Addr):List (Addr×Obj):=(bB0 g h L).filter fun p=>decide (p.1≠d)
end L2
namespace L2
open PySem PySem.Spec PyProof.Rows
structure Mod (K:PySem.W.Frag) (mg:Str->Option Value) (base:Heap):Prop where
 kin:K.In base
 glob:base.Ns mainGlobals mg
 blt:∃mb,base.Ns builtinsNs mb/\∀x:Str,x ≠ "__name__" -> mb x=bootBuiltins x
 nolimit:base.NoLimit
structure Cx where
 prog:Program
 w:World
 K:PySem.W.Frag
 mg:Str->Option Value
 base:Heap
 A:Around
 N:List Str
 s₀:Shared
 H₀:Hp
 env:Env
 outer:List Env
 stack:List Env
 ex:List Addr
 fn:Str->Bool
 calm:Bool
 pn:List (Addr×Obj)
 xe:Value->Shared->Prop
noncomputable def frs(l:List Env):List Addr:=l.filterMap (·.frame)
noncomputable abbrev Cx.fs(X:Cx):List Addr:=frs X.outer
noncomputable def Vis(sc:Scope) (x:Str):Prop:=sc.names.lookup x=some .local\/sc.names.lookup x=some .cell\/sc.names.lookup x=some .free
noncomputable def Loc(sc:Scope) (x:Str):Prop:=sc.names.lookup x=some .local\/sc.names.lookup x=some .cell
noncomputable def co9(env:Env) (h:Heap) (m:Str->Option Value) (x:Str) (u:Value):Prop :=
 (env.kindOf x=some .local/\m x=some u)\/((env.kindOf x=some .cell\/env.kindOf x=some .free)/\∃c,env.cells.lookup x=some c/\h.IsCell c (some u))
structure Cx.Ok (X:Cx):Prop where
 mod:Mod X.K X.mg X.base
 kind:X.env.scope.kind=.function
 glob:X.env.globals=mainGlobals
 blt:X.env.builtins=builtinsNs
 above:X.s₀.heap.objs.size<=X.env.locals
 inj:∀x y c,X.env.cells.lookup x=some c->X.env.cells.lookup y=some c->x=y
 has:∀x,(X.env.kindOf x=some .cell\/X.env.kindOf x=some .free)->∃c,X.env.cells.lookup x=some c
 cab:∀x c,X.fn x=true->X.env.cells.lookup x=some c->X.s₀.heap.objs.size<=c
 hd:X.calm=true->X.A.handled=none
 frames:X.A.frames=some X.stack
 stk:X.stack=X.outer\/(X.stack=X.env::X.outer/\X.env.frame=some X.env.locals)
 exf:∀b∈X.ex,b≠X.env.locals/\∀x c,X.env.cells.lookup x=some c->c≠b
 bs:∀b o,X.base.get? b=some o->X.s₀.heap.get? b=some o/\X.H₀ b=none
 bsz:X.base.objs.size<=X.s₀.heap.objs.size
 noex:∀b o,X.base.get? b=some o->b∉X.ex
 exfs:∀b∈X.ex,b∉X.fs
 funs:X.s₀.heap.FunFrames X.base X.outer
 frf:∀b∈X.fs,X.H₀ b=none
structure Inv (X:Cx) (pins:List (Addr×Obj)) (σ:List (Option V)) (H:Hp) (s:Shared):Prop where
 ok:X.Ok
 os:s.os=X.s₀.os
 bare:AllBare s.gens
 base:Un X.fs X.ex X.H₀ H X.s₀.heap s.heap
 loc:∃m,s.heap.Ns X.env.locals m/\∀(i:Nat) (x:Str) (v:V),X.N[i]? = some x->σ[i]? = some (some v)->Vis X.env.scope x->∃u,C5 v u/\co9 X.env s.heap m x u
 cell:∀x c,X.env.cells.lookup x=some c->∃v,s.heap.IsCell c v
 free:H X.env.locals=none
 freeC:∀x c,X.env.cells.lookup x=some c->H c=none
 pin:∀p∈X.pn++pins,s.heap.get? p.1=some p.2/\H p.1=none/\p.1≠X.env.locals/\p.1∉X.fs/\∀v,p.2.data≠.cell v
 hok:HOk X.prog X.w H s.heap
 len:σ.length=X.N.length
section
variable {X:Cx}{pins:List (Addr×Obj)}{σ:List (Option V)}{H H':Hp}{s:Shared}{h':Heap}
theorem Cx.Ok.nofr(ok:X.Ok) (e:X.base.get? b=some o):b∉X.fs:=fun hb=>by
 have:=(ok.funs.mem hb).1
 rw[e]at this;cases this
theorem Inv.bs(I:Inv X pins σ H s):∀b o,X.base.get? b=some o->s.heap.get? b=some o/\H b=none:=fun b o e =>
 ⟨I.base.keep b o (I.ok.bs b o e).1 (I.ok.bs b o e).2 (I.ok.nofr e) (I.ok.noex b o e),I.base.free b o (I.ok.bs b o e).1 (I.ok.bs b o e).2 (I.ok.noex b o e)⟩
theorem Inv.bk(I:Inv X pins σ H s):∀b o,X.base.get? b=some o->s.heap.get? b=some o:=fun b o e=>(I.bs b o e).1
theorem Inv.mod(I:Inv X pins σ H s):Mod X.K X.mg X.base:=I.ok.mod
theorem Inv.kIn(I:Inv X pins σ H s):X.K.In s.heap:=I.ok.mod.kin.keeps I.bk
theorem Inv.lt(I:Inv X pins σ H s):X.env.locals < s.heap.objs.size:=let⟨_,hn,_⟩:=I.loc;hn.lt
theorem Inv.sz(I:Inv X pins σ H s):X.s₀.heap.objs.size<=s.heap.objs.size:=Nat.le_trans I.ok.above (Nat.le_of_lt I.lt)
theorem Inv.nofs(I:Inv X pins σ H s) (h:s.heap.objs.size<=a):a∉X.fs:=fun hb=>by
 obtain⟨_,o,ho,_⟩:=I.ok.funs.mem hb
 exact absurd (Nat.lt_of_lt_of_le (Heap.lt_size ho) (Nat.le_trans I.sz h)) (Nat.lt_irrefl _)
theorem Inv.cne(I:Inv X pins σ H s):∀x c,X.env.cells.lookup x=some c->c≠X.env.locals:=fun x c e z=>by
 obtain⟨v,o,ho,hd⟩:=I.cell x c e
 obtain⟨m,⟨o',es,ep,ho',hd',_⟩,_⟩:=I.loc
 rw[z,ho']at ho;cases ho;rw[hd']at hd;cases hd
theorem Inv.funs(I:Inv X pins σ H s):s.heap.FunFrames X.base X.outer:=by
 have all:∀(l:List Env),(∀b∈frs l,b∈X.fs)->X.s₀.heap.FunFrames X.base l->s.heap.FunFrames X.base l:=by
  intro l
  induction l with
  | nil=>intro _ _;trivial
  | cons env r ih =>
   intro hs hl
   obtain⟨hk,⟨L,o,hf,hn,ho,hd⟩,hr⟩:=hl
   have hL:L∈X.fs:=hs L (by unfold frs;rw[List.filterMap_cons,hf];exact List.mem_cons_self)
   obtain⟨sl,e⟩:=I.base.slot L o ho (I.ok.frf L hL) hL fun z=>I.ok.exfs L z hL
   exact⟨hk,⟨L,_,hf,hn,e,hd⟩,ih (fun b hb=>hs b (by unfold frs;rw[List.filterMap_cons,hf];exact List.mem_cons_of_mem _ hb)) hr⟩
 exact all X.outer (fun _ hb=>hb) I.ok.funs
theorem Inv.stack(I:Inv X pins σ H s):s.heap.FunFrames X.base X.stack:=by
 rcases I.ok.stk with e|⟨e,hf⟩
 ·rw[e];exact I.funs
 ·rw[e]
  obtain⟨m,hn,_⟩:=I.loc
  refine .cons (by rw[I.ok.kind];decide) hf hn ?_ I.funs
  exact Heap.get?_none_of_le (Nat.le_trans I.ok.bsz I.ok.above)
theorem Inv.stkSub(I:Inv X pins σ H s):∀b∈frs X.stack,b∈X.env.locals::X.fs:=fun b hb=>by
 rcases I.ok.stk with e|⟨e,hf⟩
 ·rw[e]at hb;exact List.mem_cons_of_mem _ hb
 ·rw[e]at hb
  unfold frs at hb
  rw[List.filterMap_cons,hf]at hb
  exact hb
theorem Inv.stkFree(I:Inv X pins σ H s):∀b∈frs X.stack,H b=none:=fun b hb=>by
 rcases List.mem_cons.mp (I.stkSub b hb) with e|hb
 ·rw[e];exact I.free
 ·obtain⟨_,o,ho,_⟩:=I.ok.funs.mem hb
  exact I.base.free b o ho (I.ok.frf b hb) fun z=>I.ok.exfs b z hb
theorem Inv.step{g':Array GenState}{t':Nat}{d':Drawn}{ch:List Addr}(I:Inv X pins σ H s)
  (hch:∀b∈ch,(b∈X.ex\/X.s₀.heap.objs.size<=b)/\b≠X.env.locals/\(∀x c,X.env.cells.lookup x=some c->c≠b)/\∀p∈X.pn++pins,p.1≠b)
  (keep:∀b o,b≠X.env.locals->b∉X.fs->b∉ch->s.heap.get? b=some o->H b=none->h'.get? b=some o)
  (slot:∀b o,b≠X.env.locals->b∈X.fs->b∉ch->s.heap.get? b=some o->H b=none->∃sl,h'.get? b=some { o with slots:=sl }) (free:∀b o,b∉ch->s.heap.get? b=some o->H b=none->H' b=none)
  (there:∀b o,b∉ch->s.heap.get? b=some o->∃o',h'.get? b=some o')
  (tups:∀b xs,H b=some (.tup xs)->H' b=some (.tup xs)) (frzs:∀b o u,H b=some (.frz o u)->H' b=some (.frz o u)) (tbls:∀b ps,H b=some (.tbl ps)->∃more,H' b=some (.tbl (ps++more)))
  (ns:∀m,s.heap.Ns X.env.locals m->h'.Ns X.env.locals m) (hok:HOk X.prog X.w H' h') (hg:AllBare g') :
  Inv X pins σ H' { s with heap:=h',gens:=g',drawn:=d',toks:=t' }:=by
 have neL:∀b o,X.s₀.heap.get? b=some o->b≠X.env.locals:=fun b o e=>Nat.ne_of_lt (Nat.lt_of_lt_of_le (Heap.lt_size e) I.ok.above)
 have neC:∀b o,X.s₀.heap.get? b=some o->b∉X.ex->b∉ch:=fun b o e hx hb=>by
  rcases(hch b hb).1 with z|z
  ·exact hx z
  ·exact absurd (Nat.lt_of_lt_of_le (Heap.lt_size e) z) (Nat.lt_irrefl _)
 have cellK:∀x c,X.env.cells.lookup x=some c->∀v,s.heap.IsCell c v->h'.IsCell c v:=fun x c e v ⟨o,ho,hd⟩=>by
  have nch:c∉ch:=fun z=>(hch c z).2.2.1 x c e rfl
  by_cases hc:c∈X.fs
  ·obtain⟨sl,q⟩:=slot c o (I.cne x c e) hc nch ho (I.freeC x c e)
   exact⟨_,q,hd⟩
  ·exact⟨o,keep c o (I.cne x c e) hc nch ho (I.freeC x c e),hd⟩
 refine⟨I.ok,I.os,hg,⟨fun b o e n hb hx=>?_,fun b o e n hb hx=>?_,fun b o e n hx=>?_,fun b o e hx=>?_,fun b xs e=>tups b xs (I.base.tups b xs e),fun b o xs e=>frzs b o xs (I.base.frzs b o xs e),fun b ps e=>?_⟩,?_,fun x c e=>?_,?_,fun x c e=>?_,fun p hp=>?_,hok,I.len⟩
 ·exact keep b o (neL b o e) hb (neC b o e hx) (I.base.keep b o e n hb hx) (I.base.free b o e n hx)
 ·obtain⟨sl,e1⟩:=I.base.slot b o e n hb hx
  obtain⟨sl',e2⟩:=slot b _ (neL b o e) hb (neC b o e hx) e1 (I.base.free b o e n hx)
  exact⟨sl',e2⟩
 ·obtain⟨o',e1⟩:=I.base.there b o e hx
  exact free b o' (neC b o e hx) e1 (I.base.free b o e n hx)
 ·obtain⟨o',e1⟩:=I.base.there b o e hx
  exact there b o' (neC b o e hx) e1
 ·obtain⟨m1,e1⟩:=I.base.tbls b ps e
  obtain⟨m2,e2⟩:=tbls b _ e1
  exact⟨m1++m2,by rw[e2,Array.append_assoc]⟩
 ·obtain⟨m,hn,hl⟩:=I.loc
  refine⟨m,ns m hn,fun i x v e1 e2 e3=>?_⟩
  obtain⟨u,r,l⟩:=hl i x v e1 e2 e3
  refine⟨u,r,?_⟩
  rcases l with l|⟨k,c,e,z⟩
  ·exact .inl l
  ·exact .inr ⟨k,c,e,cellK x c e _ z⟩
 ·obtain⟨v,z⟩:=I.cell x c e
  exact⟨v,cellK x c e v z⟩
 ·obtain⟨m,⟨o,_,_,ho,_⟩,_⟩:=I.loc
  exact free _ o (fun z=>(hch _ z).2.1 rfl) ho I.free
 ·obtain⟨v,o,ho,hd⟩:=I.cell x c e
  exact free c o (fun z=>(hch c z).2.2.1 x c e rfl) ho (I.freeC x c e)
 ·obtain⟨e,n,ne,nf,d⟩:=I.pin p hp
  have nch:p.1∉ch:=fun z=>(hch p.1 z).2.2.2 p hp rfl
  exact⟨keep p.1 p.2 ne nf nch e n,free p.1 p.2 nch e n,ne,nf,d⟩
theorem Inv.un{t':Nat}(I:Inv X pins σ H s) (u:Un X.fs [] H H' s.heap h') (hok:HOk X.prog X.w H' h'):Inv X pins σ H' { s with heap:=h',toks:=t' }:=by
 obtain⟨m,⟨o,es,ep,ho,r⟩,_⟩:=id I.loc
 obtain⟨sl,hL⟩:=u.any ho I.free (by simp)
 exact I.step (g':=s.gens) (d':=s.drawn) (ch:=[]) (fun _ z=>nomatch z) (fun b o _ hb _ e n=>u.keep b o e n hb (by simp)) (fun b o _ hb _ e n=>u.slot b o e n hb (by simp)) (fun b o _ e n=>u.free b o e n (by simp)) (fun b o _ e=>u.there b o e (by simp)) u.tups u.frzs u.tbls (fun m' hm=>by
  obtain⟨o',es',ep',ho',r'⟩:=hm
  rw[ho]at ho';cases ho'
  exact⟨_,es',ep',hL,r'⟩) hok I.bare
theorem Inv.call{g':Array GenState}{t':Nat}{d':Drawn}{ch:List Addr}(I:Inv X pins σ H s) (u:Un (frs X.stack) ch H H' s.heap h') (hok:HOk X.prog X.w H' h') (hg:AllBare g')
  (hch:∀b∈ch,(b∈X.ex\/X.s₀.heap.objs.size<=b)/\b≠X.env.locals/\(∀x c,X.env.cells.lookup x=some c->c≠b)/\∀p∈X.pn++pins,p.1≠b) :
  Inv X pins σ H' { s with heap:=h',gens:=g',drawn:=d',toks:=t' }:=by
 obtain⟨m,⟨o,es,ep,ho,r⟩,_⟩:=id I.loc
 obtain⟨sl,hL⟩:=u.any ho I.free fun z=>(hch _ z).2.1 rfl
 exact I.step (ch:=ch) hch (fun b o hL hb hc e n=>u.keep b o e n (fun z=>(List.mem_cons.mp (I.stkSub b z)).elim hL hb) hc) (fun b o _ _ hc e n=>u.any e n hc) (fun b o hc e n=>u.free b o e n hc) (fun b o hc e=>u.there b o e hc) u.tups u.frzs u.tbls (fun m' hm=>by
  obtain⟨o',es',ep',ho',r'⟩:=hm
  rw[ho]at ho';cases ho'
  exact⟨_,es',ep',hL,r'⟩) hok hg
theorem Inv.turned{t':Nat}{it:Addr}(I:Inv X pins σ H s) (k:∀b o,b≠it->s.heap.get? b=some o->h'.get? b=some o) (hn:H it=none) (hL:it≠X.env.locals)
  (h1:it∈X.ex\/X.s₀.heap.objs.size<=it) (h2:∀x c,X.env.cells.lookup x=some c->c≠it) (h3:∀p∈X.pn++pins,p.1≠it):Inv X pins σ H { s with heap:=h',toks:=t' }:=by
 have nit:∀b u,H b=some u->b≠it:=fun b u e z=>by rw[z,hn]at e;cases e
 refine I.step (g':=s.gens) (d':=s.drawn) (ch:=[it]) (fun b hb=>?_) (fun b o _ _ hc e _=>k b o (fun z=>hc (by simp[z])) e) (fun b o _ _ hc e _=>⟨o.slots,k b o (fun z=>hc (by simp[z])) e⟩) (fun _ _ _ _ n=>n)
  (fun b o hc e=>⟨o,k b o (fun z=>hc (by simp[z])) e⟩) (fun _ _ e=>e) (fun _ _ _ e=>e) (fun b ps e=>⟨#[],by rw[e];simp⟩) (fun m hm=>?_) (fun b u e=>?_) I.bare
 ·have e:b=it:=by simpa using hb
  subst e
  exact⟨h1,hL,h2,h3⟩
 ·obtain⟨o,es,ep,ho,r⟩:=hm
  exact⟨o,es,ep,k _ o (Ne.symm hL) ho,r⟩
 ·refine(I.hok b u e).stay (fun c v hc q=>k c v ?_ q) (fun _ q=>q) fun _ _ q=>q
  rcases hc with z|z
  ·rw[z];exact nit b u e
  ·exact nit c _ z
theorem Inv.tok(I:Inv X pins σ H s) (t:Nat):Inv X pins σ H { s with toks:=t }:=I.un (h':=s.heap) (t':=t) Un.refl I.hok
theorem Inv.kept(I:Inv X pins σ H s) (k:∀b u,s.heap.get? b=some u->h'.get? b=some u):Inv X pins σ H { s with heap:=h',toks:=t' }:=I.un (Un.kept k) (I.hok.kept k)
theorem Inv.laid(I:Inv X pins σ H s) (k:∀b u,s.heap.get? b=some u->h'.get? b=some u) (hp:s.heap.objs.size<=a) (new:O8 X.prog X.w (upd H a o) h' a o) :
  Inv X pins σ (upd H a o) { s with heap:=h',toks:=t' }:=I.un (Un.laid k hp (I.hok.fresh hp)) (I.hok.laid k hp new)
theorem Inv.write(I:Inv X pins σ H s) (mu:Mut (H x)) (he:e=x\/H e=some (.own x)) (k:∀b u,b≠e->s.heap.get? b=some u->h'.get? b=some u) (heo:∃u,h'.get? e=some u)
  (new:O8 X.prog X.w (upd H x o) h' x o):Inv X pins σ (upd H x o) { s with heap:=h',toks:=t' }:=I.un (Un.write mu he k heo) (I.hok.write mu he k heo new)
theorem Inv.pins_of(I:Inv X pins σ H s) (h:∀p∈pins',s.heap.get? p.1=some p.2/\H p.1=none/\p.1≠X.env.locals/\p.1∉X.fs/\∀v,p.2.data≠.cell v):Inv X pins' σ H s :=
 ⟨I.ok,I.os,I.bare,I.base,I.loc,I.cell,I.free,I.freeC,fun p hp=>(List.mem_append.mp hp).elim (fun z=>I.pin p (List.mem_append_left _ z)) (h p),I.hok,I.len⟩
theorem ax4{N:List Str}(hN:N.Nodup) {i j:Nat}{x:Str}(a:N[i]? = some x) (b:N[j]? = some x):i=j:=by
 obtain⟨h1,e1⟩:=List.getElem?_eq_some_iff.mp a
 obtain⟨h2,e2⟩:=List.getElem?_eq_some_iff.mp b
 exact(List.getElem_inj hN).mp (e1.trans e2.symm)
theorem an4(I:Inv X pins σ H s) (hN:X.N.Nodup) (hi:X.N[i]? = some x) (hx:Loc X.env.scope x) (r:C5 v u)
  (h:∀s',Inv X pins (σ.set i (some v)) H s'->(∃a,Heap.SameBut a s.heap s'.heap/\(a=X.env.locals\/X.env.cells.lookup x=some a))->Q () s') (hf:X.fn x=true\/X.env.scope.names.lookup x=some .local:=by first|exact .inl rfl|exact .inr rfl|assumption):wpAny M A (storeName X.env x u) Q E s:=by
 obtain⟨m,hn,hl⟩:=id I.loc
 have hcls:(X.env.scope.kind == .class || (X.env.scope.kind == .module&&X.env.locals != X.env.globals))=false:=by rw[I.ok.kind];rfl
 have hiσ:i < σ.length:=by rw[I.len];exact(List.getElem?_eq_some_iff.mp hi).1
 have cne:=I.cne
 have tracked:∀{a:Addr}{h':Heap},(∃o,s.heap.get? a=some o/\H a=none)->Heap.SameBut a s.heap h'->HOk X.prog X.w H h':=fun{a h'} ha hs b ob e=>by
  obtain⟨_,_,hfree⟩:=ha
  refine(I.hok b ob e).stay (fun c w' hc q=>(hs.2 c ?_).trans q) (fun _ q=>q) fun _ _ q=>q
  rintro rfl
  rcases hc with rfl|hc
  ·rw[hfree]at e;cases e
  ·rw[hfree]at hc;cases hc
 rcases hx with hk|hk
 ·refine wpAny_storeName_local hk hn (fun h' hn' hs=>?_) hcls
  obtain⟨oL,_,_,hoL,_⟩:=id hn
  refine h _ ⟨I.ok,I.os,I.bare,⟨fun b o e n hb hx=>?_,fun b o e n hb hx=>?_,I.base.free,fun b o e hx=>?_,I.base.tups,I.base.frzs,I.base.tbls⟩,⟨_,hn',fun j y v' e1 e2 e3=>?_⟩,fun y c e=>?_,I.free,I.freeC,fun p hp=>?_,tracked ⟨oL,hoL,I.free⟩ hs,by simpa using I.len⟩ ⟨_,hs,.inl rfl⟩
  ·exact(hs.2 b (Nat.ne_of_lt (Nat.lt_of_lt_of_le (Heap.lt_size e) I.ok.above))).trans (I.base.keep b o e n hb hx)
  ·obtain⟨sl,e1⟩:=I.base.slot b o e n hb hx
   exact⟨sl,(hs.2 b (Nat.ne_of_lt (Nat.lt_of_lt_of_le (Heap.lt_size e) I.ok.above))).trans e1⟩
  ·obtain⟨o',e1⟩:=I.base.there b o e hx
   exact⟨o',(hs.2 b (Nat.ne_of_lt (Nat.lt_of_lt_of_le (Heap.lt_size e) I.ok.above))).trans e1⟩
  ·by_cases hj:j=i
   ·subst hj
    rw[hi]at e1;cases e1
    rw[List.getElem?_set_self hiσ]at e2
    cases e2
    exact⟨u,r,.inl ⟨hk,by simp⟩⟩
   ·rw[List.getElem?_set_ne (Ne.symm hj)]at e2
    obtain⟨u',r',q⟩:=hl j y v' e1 e2 e3
    refine⟨u',r',?_⟩
    rcases q with⟨k,e⟩|⟨k,c,e,z⟩
    ·refine .inl ⟨k,?_⟩
     have:y≠x:=fun e=>hj (ax4 hN e1 (e ▸ hi))
     simp[this,e]
    ·exact .inr ⟨k,c,e,z.sameBut hs (cne y c e)⟩
  ·obtain⟨w',z⟩:=I.cell y c e
   exact⟨w',z.sameBut hs (cne y c e)⟩
  ·obtain⟨e,n,ne,nf,d⟩:=I.pin p hp
   exact⟨(hs.2 p.1 ne).trans e,n,ne,nf,d⟩
 ·have hfn:X.fn x=true:=by
   rcases hf with z|z
   ·exact z
   ·rw[z]at hk;cases hk
  obtain⟨c,hc⟩:=I.ok.has x (.inl hk)
  obtain⟨w',z⟩:=I.cell x c hc
  refine wpAny_storeName_cell I.ok.kind hk hc z (fun h' hc' hs=>?_)
  obtain⟨oc,hoc,hocd⟩:=id z
  refine h { s with heap:=h' } ⟨I.ok,I.os,I.bare,⟨fun b o e n hb hx=>?_,fun b o e n hb hx=>?_,I.base.free,fun b o e hx=>?_,I.base.tups,I.base.frzs,I.base.tbls⟩,⟨m,hn.sameBut hs (Ne.symm (cne x c hc)),fun j y v' e1 e2 e3=>?_⟩,fun y c' e=>?_,I.free,I.freeC,fun p hp=>?_,tracked ⟨oc,hoc,I.freeC x c hc⟩ hs,by simpa using I.len⟩ ⟨c,hs,.inr hc⟩
  ·exact(hs.2 b (Nat.ne_of_lt (Nat.lt_of_lt_of_le (Heap.lt_size e) (I.ok.cab x c hfn hc)))).trans (I.base.keep b o e n hb hx)
  ·obtain⟨sl,e1⟩:=I.base.slot b o e n hb hx
   exact⟨sl,(hs.2 b (Nat.ne_of_lt (Nat.lt_of_lt_of_le (Heap.lt_size e) (I.ok.cab x c hfn hc)))).trans e1⟩
  ·obtain⟨o',e1⟩:=I.base.there b o e hx
   exact⟨o',(hs.2 b (Nat.ne_of_lt (Nat.lt_of_lt_of_le (Heap.lt_size e) (I.ok.cab x c hfn hc)))).trans e1⟩
  ·by_cases hj:j=i
   ·subst hj
    rw[hi]at e1;cases e1
    rw[List.getElem?_set_self hiσ]at e2
    cases e2
    exact⟨u,r,.inr ⟨.inl hk,c,hc,hc'⟩⟩
   ·rw[List.getElem?_set_ne (Ne.symm hj)]at e2
    obtain⟨u',r',q⟩:=hl j y v' e1 e2 e3
    refine⟨u',r',?_⟩
    rcases q with q|⟨k,c',e,z'⟩
    ·exact .inl q
    ·refine .inr ⟨k,c',e,z'.sameBut hs ?_⟩
     rintro rfl
     exact hj (ax4 hN e1 (I.ok.inj _ _ _ e hc ▸ hi))
  ·by_cases hcc:c'=c
   ·subst hcc;exact⟨_,hc'⟩
   ·obtain⟨w2,z2⟩:=I.cell y c' e
    exact⟨w2,z2.sameBut hs hcc⟩
  ·obtain⟨e,n,ne,nf,d⟩:=I.pin p hp
   refine⟨(hs.2 p.1 ?_).trans e,n,ne,nf,d⟩
   intro q
   rw[q,hoc]at e
   have q':oc=p.2:=Option.some.inj e
   exact d w' (by rw[← q'];exact hocd)
theorem v8(I:Inv X pins σ H s) (hN:X.N.Nodup) (hi:X.N[i]? = some x) (hx:Loc X.env.scope x) (r:C5 v u)
  (h:∀s',Inv X pins (σ.set i (some v)) H s'->Q () s') (hf:X.fn x=true\/X.env.scope.names.lookup x=some .local:=by first|exact .inl rfl|exact .inr rfl|assumption):wpAny M A (storeName X.env x u) Q E s :=
 an4 I hN hi hx r (fun s' I' _=>h s' I') hf
theorem Inv.call'(I:Inv X pins σ H s) (ho:s'.os=s.os) (u:Un (frs X.stack) ch H H' s.heap s'.heap) (hok:HOk X.prog X.w H' s'.heap) (hg:AllBare s'.gens)
  (hch:∀b∈ch,(b∈X.ex\/X.s₀.heap.objs.size<=b)/\b≠X.env.locals/\(∀x c,X.env.cells.lookup x=some c->c≠b)/\∀p∈X.pn++pins,p.1≠b):Inv X pins σ H' s':=by
 obtain⟨h',g',d',t',o'⟩:=s'
 have e:o'=s.os:=ho
 subst e
 exact I.call (g':=g') (t':=t') (d':=d') u hok hg hch
end
noncomputable abbrev XK:=Value->Option Addr->Hp->Prop
noncomputable abbrev St:=List (Option V)
noncomputable abbrev VK:=V->Hp->Prop
noncomputable abbrev TE:=St->Hp->VK->Prop
noncomputable abbrev TT:=St->Hp->(Bool->Hp->Prop)->Prop
noncomputable abbrev TA:=St->Hp->(List V->Hp->Prop)->Prop
structure Ends where
 nx:St->Hp->Prop
 rt:VK
 bk:St->Hp->Prop:=fun _ _=>False
 ct:St->Hp->Prop:=fun _ _=>False
noncomputable abbrev TS:=Ends->St->Hp->Prop
noncomputable def EP(X:Cx) (pins:List (Addr×Obj)) (σ:St) (Q:VK) (u:Value) (s':Shared):Prop:=∃v H',Inv X pins σ H' s'/\C5 v u/\Q v H'
noncomputable def TP(X:Cx) (pins:List (Addr×Obj)) (σ:St) (Q:Bool->Hp->Prop) (b:Bool) (s':Shared):Prop:=∃H',Inv X pins σ H' s'/\Q b H'
noncomputable def AP(X:Cx) (pins:List (Addr×Obj)) (σ:St) (Q:List V->Hp->Prop) (us:List Value) (s':Shared):Prop:=∃vs H',Inv X pins σ H' s'/\C1 vs us/\Q vs H'
noncomputable def SP(X:Cx) (pins:List (Addr×Obj)) (D:Ends) (f:Flow) (s':Shared):Prop :=
 match f with
 | .next=>∃σ' H',Inv X pins σ' H' s'/\D.nx σ' H'
 | .brk=>∃σ' H',Inv X pins σ' H' s'/\D.bk σ' H'
 | .cont=>∃σ' H',Inv X pins σ' H' s'/\D.ct σ' H'
 | .ret u=>∃v σ' H',Inv X pins σ' H' s'/\C5 v u/\D.rt v H'
noncomputable def PE(X:Cx) (e:Expr) (t:TE):Prop :=
 ∀(pins:List (Addr×Obj)) (s:Shared) (σ:St) (H:Hp) (Q:VK),Inv X pins σ H s->t σ H Q->wpAny (model X.prog X.w) X.A (eval e X.env) (EP X pins σ Q) X.xe s
noncomputable def PT(X:Cx) (e:Expr) (t:TT):Prop :=
 ∀(pins:List (Addr×Obj)) (s:Shared) (σ:St) (H:Hp) (Q:Bool->Hp->Prop),Inv X pins σ H s->t σ H Q->wpAny (model X.prog X.w) X.A (isTrue e X.env (eval e X.env)) (TP X pins σ Q) X.xe s
noncomputable def PW(X:Cx) (e:Expr) (t:TT):Prop :=
 ∀(whole:Sem Value) (pins:List (Addr×Obj)) (s:Shared) (σ:St) (H:Hp) (Q:Bool->Hp->Prop),Inv X pins σ H s->t σ H Q->wpAny (model X.prog X.w) X.A (isTrue e X.env whole) (TP X pins σ Q) X.xe s
theorem PW.pt(h:PW X e t):PT X e t:=h _
noncomputable def PA(X:Cx) (es:List Expr) (t:TA):Prop :=
 ∀(pos:Pos) (pins:List (Addr×Obj)) (s:Shared) (σ:St) (H:Hp) (Q:List V->Hp->Prop),Inv X pins σ H s->t σ H Q->wpAny (model X.prog X.w) X.A (spliced (backTo pos (starEach es X.env))) (AP X pins σ Q) X.xe s
noncomputable def PS(X:Cx) (st:Stmt) (t:TS):Prop :=
 ∀(pins:List (Addr×Obj)) (s:Shared) (σ:St) (H:Hp) (D:Ends),Inv X pins σ H s->t D σ H->wpAny (model X.prog X.w) X.A (exec st X.env) (SP X pins D) X.xe s
noncomputable def PSs(X:Cx) (st:List Stmt) (t:TS):Prop :=
 ∀(pins:List (Addr×Obj)) (s:Shared) (σ:St) (H:Hp) (D:Ends),Inv X pins σ H s->t D σ H->wpAny (model X.prog X.w) X.A (execs st X.env) (SP X pins D) X.xe s
theorem thn{α:Type}{t:Sem α}{Q Q':α->Shared->Prop}{M:Model}{A:Around}{E:Value->Shared->Prop}{s:Shared}(h:wpAny M A t Q E s) (hQ:∀a s,Q a s->Q' a s):wpAny M A t Q' E s:=wpAny_mono h hQ fun _ _ x=>x
end L2
namespace L2
open PySem PySem.Spec PyProof.Rows
section
variable {X:Cx}
theorem bin{a b:Expr}{ta tb:TE}(ha:PE X a ta) (hb:PE X b tb) {pins:List (Addr×Obj)}{s:Shared}{σ:St}{H:Hp}{R:V->V->Hp->Prop}(I:Inv X pins σ H s) (h:ta σ H fun x H1=>tb σ H1 fun y H2=>R x y H2)
  {α:Type}{Q:α->Shared->Prop}{f:Value->Value->Sem α}
  (hf:∀v u s2 x y H2,Inv X pins σ H2 s2->C5 x v->C5 y u->R x y H2->wpAny (model X.prog X.w) X.A (f v u) Q X.xe s2) :
  wpAny (model X.prog X.w) X.A (eval a X.env) (fun v s₁=>wpAny (model X.prog X.w) X.A (eval b X.env) (fun u s₂=>wpAny (model X.prog X.w) X.A (f v u) Q X.xe s₂) X.xe s₁) X.xe s:=by
 refine thn (ha pins s σ H _ I h) fun v s1 ⟨x,H1,I1,r1,q1⟩=>?_
 refine thn (hb pins s1 σ H1 _ I1 q1) fun u s2 ⟨y,H2,I2,r2,q2⟩=>?_
 exact hf v u s2 x y H2 I2 r1 r2 q2
noncomputable def bI0(i:Nat):TE:=fun σ H Q=>∃v,σ[i]? = some (some v)/\Q v H
noncomputable def tC(v:V):TE:=fun _ H Q=>Q v H
theorem M4(hN:X.N[i]? = some x) (hv:Vis X.env.scope x) (hd:(x==("__debug__" : Str))=false:=by decide) (hcd:(x==("__classdict__" : Str))=false:=by decide):PE X (.Name x pos) (bI0 i):=by
 intro pins s σ H Q I h
 obtain⟨v,e,h⟩:=h
 obtain⟨m,hn,hl⟩:=I.loc
 obtain⟨u,r,l⟩:=hl i x v hN e hv
 have fin:EP X pins σ Q u s:=⟨v,H,I,r,h⟩
 rcases l with⟨hk,hm⟩|⟨hk,c,hc,hcell⟩
 ·exact wpAny_Name (wpAny_loadName_local I.ok.kind hk hn hm fin) hd
 ·rcases hk with hk|hk
  ·exact wpAny_Name (wpAny_loadName_cell I.ok.kind hk hc hcell fin) hd
  ·exact wpAny_Name (wpAny_loadName_free I.ok.kind hk hc hcell fin hcd) hd
theorem bL3{i j pos}:PE X (.Constant (.int i) j pos) (tC (.int i)):=fun _ _ _ H _ I h=>wpAny_Constant_int ⟨.int i,H,I.tok _,⟨_,rfl⟩,h⟩
theorem cc6{b j pos}:PE X (.Constant (.bool b) j pos) (tC (.bl b)):=fun _ _ _ H _ I h=>Constant_bool ⟨.bl b,H,I,rfl,h⟩
theorem bL2{j pos}:PE X (.Constant .none j pos) (tC .non):=fun _ _ _ H _ I h=>Constant_none ⟨.non,H,I,rfl,h⟩
theorem bK9{x j pos}:PE X (.Constant (.str x) j pos) (tC (.str x)):=fun _ _ _ H _ I h=>Calls.Constant_str ⟨.str x,H,I.tok _,⟨_,rfl⟩,h⟩
noncomputable def Gl(X:Cx) (x:Str):Prop:=X.env.kindOf x=some .globalImplicit
theorem ah5(I:Inv X pins σ H s) (hg:Gl X x) (hm:X.mg x=some u) (h:Q u s)
  (hd:(x==("__debug__" : Str))=false:=by decide):wpAny (model X.prog X.w) X.A (eval (.Name x pos) X.env) Q E s :=
 Calls.Name_function_global I.ok.kind hg (Calls.loadGlobal_global (by rw[I.ok.glob];exact I.mod.glob.keeps I.bk) hm h) hd
theorem t6(I:Inv X pins σ H s) (hg:Gl X x) (hm:X.mg x=none) (hv:bootBuiltins x=some u) (h:Q u s)
  (hn:x ≠ "__name__" := by decide) (hd:(x==("__debug__" : Str))=false:=by decide):wpAny (model X.prog X.w) X.A (eval (.Name x pos) X.env) Q E s:=by
 obtain⟨mb,h1,h2⟩:=I.mod.blt
 exact Calls.Name_function_global I.ok.kind hg (Calls.loadGlobal_builtin (by rw[I.ok.glob];exact I.mod.glob.keeps I.bk) hm (by rw[I.ok.blt];exact h1.keeps I.bk) ((h2 x hn).trans hv) h) hd
theorem bs8(hg:Gl X x) (hm:X.mg x=some u) (r:C5 v u) (hd:(x==("__debug__" : Str))=false:=by decide):PE X (.Name x pos) (tC v) :=
 fun _ _ _ H _ I h=>ah5 I hg hm ⟨v,H,I,r,h⟩ hd
theorem bt1(hg:Gl X x) (hm:X.mg x=none) (hv:bootBuiltins x=some u) (r:C5 v u) (hn:x ≠ "__name__" := by decide) (hd:(x==("__debug__" : Str))=false:=by decide):PE X (.Name x pos) (tC v) :=
 fun _ _ _ H _ I h=>t6 I hg hm hv ⟨v,H,I,r,h⟩ hn hd
variable {a b:Expr}{ta tb:TE}{pos:Pos}
noncomputable def PC(X:Cx) (op:CmpOp) (a b:Expr) (t:TE):Prop :=
 ∀(pins:List (Addr×Obj)) (s:Shared) (σ:St) (H:Hp) (Q:VK),Inv X pins σ H s->t σ H Q ->
  wpAny (model X.prog X.w) X.A (eval a X.env) (fun v s₁=>wpAny (model X.prog X.w) X.A (eval b X.env) (fun u s₂=>wpAny (model X.prog X.w) X.A (compareOp op v u) (EP X pins σ Q) X.xe s₂) X.xe s₁) X.xe s
theorem ax5(b:Expr) (h:op≠.In) (h2:op≠.NotIn):behindInMarks op b=false:=by
 have e1:(op==CmpOp.In)=false:=by cases op<;>first|rfl|exact absurd rfl h
 have e2:(op==CmpOp.NotIn)=false:=by cases op<;>first|rfl|exact absurd rfl h2
 cases b<;>simp[behindInMarks,e1,e2]
noncomputable def tB(t:TE):TT:=fun σ H Q=>t σ H fun x H1=>∃c,x=.bl c/\Q c H1
theorem bL4(h:PC X op a b t) (h1:behindInMarks op b=false:=by first|exact ax5 _ (by decide) (by decide)|rfl):PE X (.Compare a [op] [b] pos) t:=fun pins s σ H Q I hw=>wpAny_Compare1 (h pins s σ H Q I hw) h1
theorem bK4(h:PC X op a b t) (h1:behindInMarks op b=false:=by first|exact ax5 _ (by decide) (by decide)|rfl):PT X (.Compare a [op] [b] pos) (tB t):=by
 intro pins s σ H Q I hw
 refine wpAny_isTrue_Compare1 (thn (h pins s σ H _ I hw) fun v s1 h1=>thn h1 fun u s2 h2=>thn h2 fun c s3 ⟨x,H1,I1,r1,q1⟩=>?_) h1
 obtain⟨d,rfl,q⟩:=q1
 cases r1
 exact wpAny_truthy_bool ⟨H1,I1,q⟩
variable {tA tB':TT}{O4:List Expr}
noncomputable def ck9(t u:TT):TT:=fun σ H Q=>t σ H fun c H1=>if c=true then u σ H1 Q else Q false H1
noncomputable def tOr(t u:TT):TT:=fun σ H Q=>t σ H fun c H1=>if c=true then Q true H1 else u σ H1 Q
noncomputable def ck2(t:TT):TT:=fun σ H Q=>t σ H fun c H1=>Q (!c) H1
theorem aK4(ha:PT X a tA):PW X (.BoolOp .And [a] pos) tA:=by
 intro wh pins s σ H Q I h
 refine isTrue_and (thn (ha pins s σ H Q I h) fun c s1 e=>?_)
 cases c with
 | true=>exact isTrue_and_nil e
 | false=>exact e
theorem aZ2(ha:PT X a tA):PW X (.BoolOp .Or [a] pos) tA:=by
 intro wh pins s σ H Q I h
 refine isTrue_or (thn (ha pins s σ H Q I h) fun c s1 e=>?_)
 cases c with
 | false=>exact isTrue_or_nil e
 | true=>exact e
theorem ar4(ha:PT X a tA) (hb:PW X (.BoolOp .And (b::O4) pos) tB'):PW X (.BoolOp .And (a::b::O4) pos) (ck9 tA tB'):=by
 intro wh pins s σ H Q I h
 refine isTrue_and (thn (ha pins s σ H _ I h) fun c s1 ⟨H1,I1,q1⟩=>?_)
 cases c with
 | true=>exact hb wh pins s1 σ H1 Q I1 q1
 | false=>exact⟨H1,I1,q1⟩
theorem aK3(ha:PT X a tA) (hb:PW X (.BoolOp .Or (b::O4) pos) tB'):PW X (.BoolOp .Or (a::b::O4) pos) (tOr tA tB'):=by
 intro wh pins s σ H Q I h
 refine isTrue_or (thn (ha pins s σ H _ I h) fun c s1 ⟨H1,I1,q1⟩=>?_)
 cases c with
 | true=>exact⟨H1,I1,q1⟩
 | false=>exact hb wh pins s1 σ H1 Q I1 q1
theorem aZ3(ha:PT X a tA):PT X (.UnaryOp .Not a pos) (ck2 tA):=by
 intro pins s σ H Q I h
 exact isTrue_not (ha pins s σ H (fun c H1=>Q (!c) H1) I h)
noncomputable def ca8(ta tb:TE):TE:=fun σ H Q=>ta σ H fun x H1=>∃c,x=.bl c/\if c=true then tb σ H1 Q else Q (.bl false) H1
noncomputable def ck1(ta tb:TE):TE:=fun σ H Q=>ta σ H fun x H1=>∃c,x=.bl c/\if c=true then Q (.bl true) H1 else tb σ H1 Q
noncomputable def ca1(ta:TE):TE:=fun σ H Q=>ta σ H fun x H1=>∃c,x=.bl c/\Q (.bl (!c)) H1
theorem ba5{op} (h:PE X a t):PE X (.BoolOp op [a] pos) t:=fun pins s σ H Q I hw=>BoolOp_one (h pins s σ H Q I hw)
theorem ar8(ha:PE X a ta) (hb:PE X (.BoolOp .And (b::O4) pos) tb):PE X (.BoolOp .And (a::b::O4) pos) (ca8 ta tb):=by
 intro pins s σ H Q I h
 refine BoolOp_and (thn (ha pins s σ H _ I h) fun v s1 ⟨x,H1,I1,r1,q1⟩=>?_)
 obtain⟨c,rfl,q1⟩:=q1
 cases r1
 refine wpAny_truthy_bool ?_
 cases c with
 | true=>exact hb pins s1 σ H1 Q I1 q1
 | false=>exact⟨.bl false,H1,I1,rfl,q1⟩
theorem bC5(ha:PE X a ta) (hb:PE X (.BoolOp .Or (b::O4) pos) tb):PE X (.BoolOp .Or (a::b::O4) pos) (ck1 ta tb):=by
 intro pins s σ H Q I h
 refine BoolOp_or (thn (ha pins s σ H _ I h) fun v s1 ⟨x,H1,I1,r1,q1⟩=>?_)
 obtain⟨c,rfl,q1⟩:=q1
 cases r1
 refine wpAny_truthy_bool ?_
 cases c with
 | false=>exact hb pins s1 σ H1 Q I1 q1
 | true=>exact⟨.bl true,H1,I1,rfl,q1⟩
theorem bL1(ha:PE X a ta):PE X (.UnaryOp .Not a pos) (ca1 ta):=by
 intro pins s σ H Q I h
 refine UnaryOp_ (thn (ha pins s σ H _ I h) fun v s1 ⟨x,H1,I1,r1,q1⟩=>?_)
 obtain⟨c,rfl,q1⟩:=q1
 cases r1
 exact not_of (wpAny_truthy_bool ⟨.bl (!c),H1,I1,rfl,q1⟩)
noncomputable def tIf(t:TT) (ta tb:TE):TE:=fun σ H Q=>t σ H fun c H1=>if c=true then ta σ H1 Q else tb σ H1 Q
theorem aw9(hc:PT X c tA) (ha:PE X a ta) (hb:PE X b tb):PE X (.IfExp c a b pos) (tIf tA ta tb):=by
 intro pins s σ H Q I h
 refine wpAny_IfExp (thn (hc pins s σ H _ I h) fun d s1 ⟨H1,I1,q1⟩=>?_)
 cases d with
 | true=>exact ha pins s1 σ H1 Q I1 q1
 | false=>exact hb pins s1 σ H1 Q I1 q1
end
end L2
namespace L2
open PySem PySem.Spec PyProof.Rows
noncomputable def SqL(K:PySem.W.Frag) (H:Hp) (a:Addr) (xs:List V):Prop :=
 Rd H a (.lst xs) \/
  ∃(o:Obj) (its:Array Value) (n:Nat),K.lookup a=some o/\o.cls=.type "list" /\ o.dict=none/\o.data=.seq its n/\its.size<=sizeLine/\C1 xs its.toList
noncomputable def SqT(K:PySem.W.Frag) (H:Hp) (a:Addr) (xs:List V):Prop :=
 Rd H a (.tup xs) \/
  ∃(o:Obj) (its:Array Value) (n:Nat),K.lookup a=some o/\o.cls=.type "tuple" /\ o.dict=none/\o.data=.seq its n/\its.size<=sizeLine/\C1 xs its.toList
noncomputable def co5:Value->Option V
 | .none=>some .non
 | .bool b=>some (.bl b)
 | .int i _=>some (.int i)
 | .str x _=>some (.str x)
 | .bytes b _=>some (.byt b)
 | .float b _=>some (.flt b)
 | .ref a=>some (.ref a)
 | .type n=>some (.ty n)
 | _=>none
theorem C5.abs(r:C5 x u):co5 u=some x:=by
 cases x with
 | non=>cases r;rfl
 | bl _=>cases r;rfl
 | int _=>obtain⟨t,rfl⟩:=r;rfl
 | str _=>obtain⟨t,rfl⟩:=r;rfl
 | byt _=>obtain⟨t,rfl⟩:=r;rfl
 | flt _=>obtain⟨t,rfl⟩:=r;rfl
 | ref _=>cases r;rfl
 | ty _=>cases r;rfl
theorem C5.inj(r:C5 x u) (q:C5 y u):x=y:=Option.some.inj (r.abs.symm.trans q.abs)
theorem C1.inj:∀{xs ys:List V}{us:List Value},C1 xs us->C1 ys us->xs=ys
 | _,_,_,.nil,.nil=>rfl
 | _,_,_,.cons r t,.cons r' t'=>by rw[r.inj r',C1.inj t t']
section
variable {X:Cx}{pins:List (Addr×Obj)}{σ:St}{H:Hp}{s:Shared}{a:Addr}{xs ys:List V}
theorem SqL.of{K:PySem.W.Frag}(h:H a=some (.lst xs)):SqL K H a xs:=.inl (.inl h)
theorem SqT.of{K:PySem.W.Frag}(h:H a=some (.tup xs)):SqT K H a xs:=.inl (.inl h)
theorem Inv.list(I:Inv X pins σ H s) (h:SqL X.K H a xs):∃its:List Value,C1 xs its/\PlainL s.heap a its.toArray/\xs.length<=sizeLine:=by
 rcases h with h|⟨o,its,n,hk,hc,hd,hs,hz,r⟩
 ·obtain⟨z,its,n,r,e⟩:=h.ok I.hok
  exact⟨its,r,⟨_,n,e,rfl,rfl,rfl⟩,z⟩
 ·refine⟨its.toList,r,⟨o,n,I.kIn a o hk,hc,hd,by simpa using hs⟩,?_⟩
  have e:=r.length
  simp only[Array.length_toList]at e
  omega
theorem Inv.tupN(I:Inv X pins σ H s) (h:SqT X.K H a xs):∃its:List Value,C1 xs its/\am2 s.heap a its.toArray/\xs.length<=sizeLine:=by
 rcases h with h|⟨o,its,n,hk,hc,hd,hs,hz,r⟩
 ·obtain⟨z,its,r,p⟩:=h.ok I.hok
  exact⟨its,r,p,z⟩
 ·refine⟨its.toList,r,⟨o,I.kIn a o hk,hc,⟨n,by simpa using hs⟩,hd⟩,?_⟩
  have e:=r.length
  simp only[Array.length_toList]at e
  omega
theorem Inv.tuple(I:Inv X pins σ H s) (h:SqT X.K H a xs):∃its:List Value,C1 xs its/\IsTup s.heap a its.toArray/\xs.length<=sizeLine :=
 let⟨its,r,p,z⟩:=I.tupN h;⟨its,r,p.tup,z⟩
theorem Inv.list_inj(I:Inv X pins σ H s) (h:SqL X.K H a xs) (h':SqL X.K H a ys):xs=ys:=by
 obtain⟨its,r,⟨o,n,e,_,_,d⟩,_⟩:=I.list h
 obtain⟨its',r',⟨o',n',e',_,_,d'⟩,_⟩:=I.list h'
 rw[e]at e';cases e'
 rw[d]at d'
 injection d' with d1 _
 have:its=its':=by simpa using congrArg Array.toList d1
 subst this
 exact r.inj r'
theorem Inv.tuple_inj(I:Inv X pins σ H s) (h:SqT X.K H a xs) (h':SqT X.K H a ys):xs=ys:=by
 obtain⟨its,r,⟨o,e,_,n,d⟩,_⟩:=I.tuple h
 obtain⟨its',r',⟨o',e',_,n',d'⟩,_⟩:=I.tuple h'
 rw[e]at e';cases e'
 rw[d]at d'
 injection d' with d1 _
 have:its=its':=by simpa using congrArg Array.toList d1
 subst this
 exact r.inj r'
end
noncomputable abbrev Cx.wish(X:Cx) (E:Value->Shared->Prop):Cx:={ X with xe:=E }
noncomputable abbrev Cx.nox(X:Cx):Cx:=X.wish fun _ _=>False
theorem Cx.Ok.wish{X:Cx}(ok:X.Ok) (E:Value->Shared->Prop):(X.wish E).Ok :=
 ⟨ok.mod,ok.kind,ok.glob,ok.blt,ok.above,ok.inj,ok.has,ok.cab,ok.hd,ok.frames,ok.stk,ok.exf,ok.bs,ok.bsz,ok.noex,ok.exfs,ok.funs,ok.frf⟩
theorem Cx.Ok.unwish{X:Cx}{E:Value->Shared->Prop}(ok:(X.wish E).Ok):X.Ok :=
 ⟨ok.mod,ok.kind,ok.glob,ok.blt,ok.above,ok.inj,ok.has,ok.cab,ok.hd,ok.frames,ok.stk,ok.exf,ok.bs,ok.bsz,ok.noex,ok.exfs,ok.funs,ok.frf⟩
section
variable {X:Cx}{pins:List (Addr×Obj)}{σ:St}{H:Hp}{s:Shared}{E:Value->Shared->Prop}
theorem Inv.wish(I:Inv X pins σ H s) (E:Value->Shared->Prop):Inv (X.wish E) pins σ H s:=⟨I.ok.wish E,I.os,I.bare,I.base,I.loc,I.cell,I.free,I.freeC,I.pin,I.hok,I.len⟩
theorem Inv.unwish(I:Inv (X.wish E) pins σ H s):Inv X pins σ H s:=⟨I.ok.unwish,I.os,I.bare,I.base,I.loc,I.cell,I.free,I.freeC,I.pin,I.hok,I.len⟩
theorem SP.unwish(h:SP (X.wish E) pins D f s'):SP X pins D f s':=by
 cases f with
 | next=>obtain⟨σ',H',I,q⟩:=h;exact⟨σ',H',I.unwish,q⟩
 | brk=>obtain⟨σ',H',I,q⟩:=h;exact⟨σ',H',I.unwish,q⟩
 | cont=>obtain⟨σ',H',I,q⟩:=h;exact⟨σ',H',I.unwish,q⟩
 | ret u=>obtain⟨v,σ',H',I,r,q⟩:=h;exact⟨v,σ',H',I.unwish,r,q⟩
theorem PSs.nox{st:List Stmt}{t:TS}(h:PSs X.nox st t):PSs X st t:=fun pins s σ H D I hw =>
 wpAny_mono (h pins s σ H D (I.wish _) hw) (fun _ _ q=>q.unwish) fun _ _ z=>False.elim z
end
section
variable {X:Cx}{st:Stmt}{O4:List Stmt}{t u:TS}{e:Expr}{te:TE}{pos:Pos}
noncomputable def bB7:TS:=fun D σ H=>D.nx σ H
noncomputable def cj8(t u:TS):TS:=fun D σ H=>t { D with nx:=u D } σ H
theorem ar5:PSs X [] bB7:=fun _ _ σ H _ I h=>wpAny_execs_nil ⟨σ,H,I,h⟩
theorem M0(h1:PS X st t) (h2:PSs X O4 u):PSs X (st::O4) (cj8 t u):=by
 intro pins s σ H D I h
 refine wpAny_execs_cons (thn (h1 pins s σ H { D with nx:=u D } I h) fun f s1 q=>?_)
 cases f with
 | next =>
  obtain⟨σ',H',I',q⟩:=q
  exact h2 pins s1 σ' H' D I' q
 | ret v=>exact q
 | brk=>exact q
 | cont=>exact q
theorem j7(h1:PS X st t):PSs X [st] t:=by
 intro pins s σ H D I h
 refine wpAny_execs_cons (thn (h1 pins s σ H D I h) fun f s1 q=>?_)
 cases f with
 | next=>exact wpAny_execs_nil q
 | ret v=>exact q
 | brk=>exact q
 | cont=>exact q
noncomputable def bI6:TS:=fun D σ H=>D.bk σ H
noncomputable def ca5:TS:=fun D σ H=>D.ct σ H
theorem br9:PS X (.Pass pos) bB7:=fun _ _ σ H _ I h=>wpAny_Pass ⟨σ,H,I,h⟩
theorem aZ8:PS X (.Break pos) bI6:=fun _ _ σ H _ I h=>wpAny_Break ⟨σ,H,I,h⟩
theorem aw7:PS X (.Continue pos) ca5:=fun _ _ σ H _ I h=>wpAny_Continue ⟨σ,H,I,h⟩
theorem Inv.quiet(I:Inv X pins σ H s):interactive X.env=false:=by simp[interactive,I.ok.kind]
noncomputable def ca3(te:TE):TS:=fun D σ H=>te σ H fun _ H1=>D.nx σ H1
theorem S3(he:PE X e te) (hs:swapsWith e none pos.line X.env=pure false:=by rfl):PS X (.Expr e pos) (ca3 te):=by
 intro pins s σ H D I h
 exact wpAny_Expr_any (thn (he pins s σ H _ I h) fun v s1 ⟨x,H1,I1,r1,q1⟩=>⟨σ,H1,I1,q1⟩) I.quiet hs
noncomputable def cj9(te:TE):TS:=fun D σ H=>te σ H D.rt
theorem ad0(he:PE X e te):PS X (.Return (some e) pos) (cj9 te):=by
 intro pins s σ H D I h
 exact wpAny_Return_some (thn (he pins s σ H _ I h) fun v s1 ⟨x,H1,I1,r1,q1⟩=>⟨x,σ,H1,I1,r1,q1⟩)
noncomputable def ck4(c:TT) (t u:TS):TS:=fun D σ H=>c σ H fun b H1=>if b=true then t D σ H1 else u D σ H1
theorem ao0(hc:PT X c tc) (ha:PSs X a t) (hb:PSs X b u):PS X (.If c a b pos) (ck4 tc t u):=by
 intro pins s σ H D I h
 refine wpAny_If (thn (hc pins s σ H _ I h) fun d s1 ⟨H1,I1,q1⟩=>?_)
 cases d with
 | true=>exact ha pins s1 σ H1 D I1 q1
 | false=>exact hb pins s1 σ H1 D I1 q1
noncomputable def bI2:TS:=fun _ _ _=>False
theorem M5:PSs X sts bI2:=fun _ _ _ _ _ _ h=>h.elim
end
noncomputable abbrev TG:=V->St->Hp->(St->Hp->Prop)->Prop
noncomputable abbrev TGs:=List V->St->Hp->(St->Hp->Prop)->Prop
noncomputable def PG(X:Cx) (target:Expr) (t:TG):Prop :=
 ∀(pins:List (Addr×Obj)) (s:Shared) (σ:St) (H:Hp) (v:V) (u:Value) (Q:St->Hp->Prop),Inv X pins σ H s->C5 v u->t v σ H Q ->
  wpAny (model X.prog X.w) X.A (assign target X.env u) (fun _ s'=>∃σ' H',Inv X pins σ' H' s'/\Q σ' H') X.xe s
noncomputable def PGs(X:Cx) (ts:List Expr) (t:TGs):Prop :=
 ∀(pins:List (Addr×Obj)) (s:Shared) (σ:St) (H:Hp) (vs:List V) (us:List Value) (Q:St->Hp->Prop),Inv X pins σ H s->C1 vs us->t vs σ H Q ->
  wpAny (model X.prog X.w) X.A (assignInOrder ((assignEach ts X.env).map (·.2)) us) (fun _ s'=>∃σ' H',Inv X pins σ' H' s'/\Q σ' H') X.xe s
section
variable {X:Cx}{pos:Pos}
noncomputable def bD7(i:Nat):TG:=fun v σ H Q=>Q (σ.set i (some v)) H
theorem bs6(hN:X.N.Nodup) (hi:X.N[i]? = some x) (hx:Loc X.env.scope x) (hf:X.fn x=true\/X.env.scope.names.lookup x=some .local:=by first|exact .inl rfl|exact .inr rfl|assumption):PG X (.Name x pos) (bD7 i):=by
 intro pins s σ H v u Q I r h
 exact wpAny_assign_Name (v8 I hN hi hx r (fun s' I'=>⟨_,H,I',h⟩) hf)
noncomputable def cn0:TGs:=fun vs σ H Q=>vs=[]/\Q σ H
noncomputable def ch0(t:TG) (u:TGs):TGs:=fun vs σ H Q=>∃v r,vs=v::r/\t v σ H fun σ' H'=>u r σ' H' Q
theorem bs5:PGs X [] cn0:=by
 intro pins s σ H vs us Q I r h
 obtain⟨e,h⟩:=h
 subst e
 cases r
 exact assignInOrder_nil ⟨σ,H,I,h⟩
theorem ba3(h1:PG X e t) (h2:PGs X es u)
  (hs:(assignEach (e::es) X.env).map (·.2)=assign e X.env::(assignEach es X.env).map (·.2):=by rfl):PGs X (e::es) (ch0 t u):=by
 intro pins s σ H vs us Q I r h
 obtain⟨v,vr,e1,h⟩:=h
 subst e1
 cases r with
 | cons r rr =>
  rw[hs]
  refine assignInOrder_cons (thn (h1 pins s σ H _ _ _ I r h) fun _ s1 ⟨σ1,H1,I1,q1⟩=>?_)
  exact h2 pins s1 σ1 H1 _ _ Q I1 rr q1
noncomputable def cm9(K:PySem.W.Frag) (n:Nat) (t:TGs):TG:=fun v σ H Q=>∃a xs,v=.ref a/\SqT K H a xs/\xs.length=n/\t xs σ H Q
theorem bK8(hc:X.calm=true) (h:PGs X es t)
  (hn:(assignEach es X.env).length=n:=by rfl) (hst:(assignEach es X.env).findIdx? (·.1)=none:=by rfl):PG X (.Tuple es k pos) (cm9 X.K n t):=by
 intro pins s σ H v u Q I r hw
 obtain⟨a,xs,e1,hq,hl,hw⟩:=hw
 subst e1
 cases r
 obtain⟨its,rv,ht,hz⟩:=I.tuple hq
 refine assign_Tuple_tuple (I.ok.hd hc) ht (by simp[hn,← hl,rv.length]) hst fun h' hx=>?_
 have I1:Inv X pins σ H { s with heap:=h' }:=I.kept (t':=s.toks) fun b o e=>hx b o (Nat.ne_of_lt (Heap.lt_size e)) e
 exact h pins _ σ H xs _ Q I1 (by simpa using rv) hw
noncomputable def ca7(te:TE) (g:TG):TS:=fun D σ H=>te σ H fun x H1=>g x σ H1 D.nx
theorem bK6(he:PE X e te) (hg:PG X tg g) (hs:swapsWithSole [tg] e pos.line X.env=pure false:=by rfl) (hw:swappedStores [tg] e X.env=pure none:=by rfl)
  (h1:(assignEach [tg] X.env).map (·.2)=[assign tg X.env]:=by rfl):PS X (.Assign [tg] e pos) (ca7 te g):=by
 intro pins s σ H D I h
 refine wpAny_Assign_stores (thn (he pins s σ H _ I h) fun v s1 ⟨x,H1,I1,r1,q1⟩=>?_) hs hw
 rw[h1]
 exact thn (hg pins s1 σ H1 x v _ I1 r1 q1) fun _ s2 q=>q
theorem d9(hN:X.N.Nodup) (hi:X.N[i]? = some x) (hx:Loc X.env.scope x) (he:PE X e te) (hs:swapsWith e (some (.Name x pos')) pos.line X.env=pure false:=by rfl) (hf:X.fn x=true\/X.env.scope.names.lookup x=some .local:=by first|exact .inl rfl|exact .inr rfl|assumption) :
  PS X (.Assign [.Name x pos'] e pos) (ca7 te (bD7 i)):=by
 intro pins s σ H D I h
 refine wpAny_Assign_Name (thn (he pins s σ H _ I h) fun v s1 ⟨y,H1,I1,r1,q1⟩=>?_) hs
 exact v8 I1 hN hi hx r1 (fun s2 I2=>⟨_,H1,I2,q1⟩) hf
noncomputable def ck0(i j:Nat) (ta:TA):TS:=fun D σ H=>ta σ H fun vs H1=>∃v w,vs=[v,w]/\D.nx ((σ.set i (some v)).set j (some w)) H1
theorem aZ6{kt k2 pt2} (hc:X.calm=true) (hN:X.N.Nodup) (hi:X.N[i]? = some x) (hj:X.N[j]? = some y) (hij:i≠j)
  (hx:X.env.scope.names.lookup x=some .local) (hy:X.env.scope.names.lookup y=some .local) (ha:PA X [a,b] ta)
  (hw:swappedStores [.Tuple [.Name x px,.Name y py] kt pt] (.Tuple [a,b] k2 pt2) X.env=pure (some [x,y]))
  (hs:swapsWithSole [.Tuple [.Name x px,.Name y py] kt pt] (.Tuple [a,b] k2 pt2) pos.line X.env=pure false:=by rfl) :
  PS X (.Assign [.Tuple [.Name x px,.Name y py] kt pt] (.Tuple [a,b] k2 pt2) pos) (ck0 i j ta):=by
 intro pins s σ H D I h
 rw[exec_Assign_arm]
 refine wpAny_bind (wpAny_standAt ?_)
 rw[hs]
 refine wpAny_bind (wpAny_pure ?_)
 rw[if_neg (by decide)]
 refine wpAny_bind (Tuple_ (thn (ha _ pins s σ H _ I h) fun us s1 ⟨vs,H1,I1,r1,q1⟩=>?_))
 obtain⟨v,w,e1,q1⟩:=q1
 subst e1
 obtain⟨u1,u2,rfl,rv,rw'⟩:∃u1 u2,us=[u1,u2]/\C5 v u1/\C5 w u2:=by
  cases r1 with
  | cons p q =>
   cases q with
   | cons p' q' =>
    cases q'
    exact⟨_,_,rfl,p,p'⟩
 refine wpAny_newObj_type ?_ (by show 2<=sizeLine;decide)
 have I2:Inv X pins σ H1 { s1 with heap:=s1.heap.push { cls:=.type "tuple", data:=.seq [u1,u2].toArray } }:=I1.kept (t':=s1.toks) fun b o e=>Heap.get?_push_of_some _ e
 rw[hw]
 refine wpAny_bind (wpAny_pure ?_)
 show wpAny (model X.prog X.w) X.A (do rule "assign.swapped-stores";let items ← unpackItems (.ref s1.heap.objs.size) 2 none;assignInOrder [fun v=>bindName X.env y v,fun v=>bindName X.env x v] items.reverse;pure Flow.next) _ _ _
 refine wpAny_bind (wpAny_rule (wpAny_bind (unpackItems_tuple (items:=#[u1,u2]) (I.ok.hd hc) (IsTup.new s1.heap _) fun h' hx'=>?_)))
 have I3:=I2.kept (h':=h') (t':=s1.toks) fun b o e=>hx' b o (Nat.ne_of_lt (Heap.lt_size e)) e
 show wpAny _ _ (assignInOrder [fun v=>bindName X.env y v,fun v=>bindName X.env x v] [u2,u1] >>= fun _=>pure Flow.next) _ _ _
 refine wpAny_bind (assignInOrder_cons (wpAny_bindName (v8 I3 hN hj (.inl hy) rw' (fun s2 I4=>?_) (.inr hy))))
 refine assignInOrder_cons (wpAny_bindName (v8 I4 hN hi (.inl hx) rv (fun s3 I5=>assignInOrder_nil (wpAny_pure ?_)) (.inr hx)))
 rw[List.set_comm _ _ (Ne.symm hij)]at I5
 exact⟨_,H1,I5,q1⟩
end
section
variable {X:Cx}{pos:Pos}
noncomputable def bH9(c:TT) (tb:TS):TS:=fun D σ H=>∃W:Nat->St->Hp->Prop,(∃m,W m σ H)/\∀m σ H,W m σ H ->
 c σ H fun b H1=>if b=true then ∃N:St->Hp->Prop,(∀σ' H',N σ' H'->∃m',m' < m/\W m' σ' H')/\tb { D with nx:=N,ct:=N,bk:=D.nx } σ H1 else D.nx σ H1
theorem aZ5(hp:PassesOwn (model X.prog X.w) X.A X.env X.xe) (hc:PT X c tc) (hb:PSs X body tb):PS X (.While c body [] pos) (bH9 tc tb):=by
 intro pins s σ H D I h
 obtain⟨W,⟨m0,w0⟩,turn⟩:=h
 refine wpAny_While (codeAny_whileLoop (fun n s'=>∃σ' H',Inv X pins σ' H' s'/\W n σ' H') ?_ m0 ⟨σ,H,I,w0⟩)
 rintro n s1 ⟨σ1,H1,I1,w1⟩
 refine wpAny_passesOwn hp (thn (hc pins s1 σ1 H1 _ I1 (turn n σ1 H1 w1)) fun b s2 ⟨H2,I2,q2⟩=>?_)
 cases b with
 | true =>
  obtain⟨N,hN,q2⟩:=q2
  rw[if_pos rfl]
  refine wpAny_passesOwn hp (thn (hb pins s2 σ1 H2 _ I2 q2) fun f s3 q3=>?_)
  cases f with
  | next =>
   obtain⟨σ3,H3,I3,n3⟩:=q3
   obtain⟨m',hm,w3⟩:=hN σ3 H3 n3
   exact⟨m',hm,σ3,H3,I3,w3⟩
  | cont =>
   obtain⟨σ3,H3,I3,n3⟩:=q3
   obtain⟨m',hm,w3⟩:=hN σ3 H3 n3
   exact⟨m',hm,σ3,H3,I3,w3⟩
  | brk=>exact q3
  | ret v=>exact q3
 | false =>
  rw[if_neg Bool.false_ne_true]
  exact wpAny_execs_nil ⟨σ1,H2,I2,q2⟩
end
structure It where
 go:Nat->Hp->Prop
 yld:Nat->Hp->V->Hp->Prop
 stop:Nat->Hp->Prop
noncomputable def ae2(X:Cx) (pins:List (Addr×Obj)) (H:Hp) (b:Addr):Prop :=
 H b=none/\b≠X.env.locals/\b∉X.fs/\(b∈X.ex\/X.s₀.heap.objs.size<=b)/\(∀x c,X.env.cells.lookup x=some c->c≠b)/\∀p∈X.pn++pins,p.1≠b
theorem Inv.fpOk(I:Inv X pins σ H s) (hb:s.heap.objs.size<=b) (hn:H' b=none):ae2 X pins H' b:=by
 refine⟨hn,Nat.ne_of_gt (Nat.lt_of_lt_of_le I.lt hb),I.nofs hb,.inr (Nat.le_trans I.sz hb),fun x c e z=>?_,fun p hp z=>?_⟩
 ·obtain⟨v,q⟩:=I.cell x c e
  exact absurd (Nat.lt_of_lt_of_le q.lt (by rw[z];exact hb)) (Nat.lt_irrefl _)
 ·exact absurd (Nat.lt_of_lt_of_le (Heap.lt_size (I.pin p hp).1) (by rw[z];exact hb)) (Nat.lt_irrefl _)
structure Turn (P:Program) (w:World) (K:PySem.W.Frag) (tg:Expr) (J:It) (fp:List Addr) (it:Addr) (tn:Nat->Heap->Prop):Prop where
 mem:it∈fp
 obj:∀i h,tn i h->∀b∈fp,∃o,h.get? b=some o/\∀v,o.data≠.cell v
 keep:∀i h h',tn i h->(∀b∈fp,∀o,h.get? b=some o->h'.get? b=some o)->tn i h'
 item:∀(X:Cx),X.prog=P->X.w=w->X.K=K->X.calm=true->∀(i:Nat) (pins:List (Addr×Obj)) (s:Shared) (σ:St) (H:Hp) (E:Value->Shared->Prop),Inv X pins σ H s->(∀b∈fp,ae2 X pins H b)->tn i s.heap->J.go i H ->
  wpAny (model P w) X.A (pyNext (.ref it)) (fun r s1=>∃u,r=some u /\
   wpAny (model P w) X.A (letOwnedTupleGo tg (.ref it) u) (fun _ s2=>∃x H',Inv X pins σ H' s2/\C5 x u/\J.yld i H x H'/\tn (i+1) s2.heap/\∀b∈fp,H' b=none) E s1) E s
 done:∀(X:Cx),X.prog=P->X.w=w->X.K=K->X.calm=true->∀(i:Nat) (pins:List (Addr×Obj)) (s:Shared) (σ:St) (H:Hp) (E:Value->Shared->Prop),Inv X pins σ H s->(∀b∈fp,ae2 X pins H b)->tn i s.heap->J.stop i H ->
  wpAny (model P w) X.A (pyNext (.ref it)) (fun r s1=>r=none/\Inv X pins σ H s1) E s
 self:∀(A:Around) (i:Nat) (s:Shared) (Q:Value->Shared->Prop) (E:Value->Shared->Prop),tn i s.heap->Q (.ref it) s->wpAny (model P w) A (pyIter (.ref it)) Q E s
noncomputable abbrev TI:=St->Hp->(It->Hp->Prop)->Prop
noncomputable def PIE(X:Cx) (pins:List (Addr×Obj)) (σ:St) (tg:Expr) (R:It->Hp->Prop) (itv:Value) (s2:Shared):Prop :=
 ∃(it:Addr) (fp:List Addr) (tn:Nat->Heap->Prop) (J:It) (H':Hp),itv=.ref it/\Inv X pins σ H' s2/\Turn X.prog X.w X.K tg J fp it tn/\tn 0 s2.heap/\(∀b∈fp,ae2 X pins H' b)/\R J H'
noncomputable def PI(X:Cx) (tg iter:Expr) (wi:TI):Prop :=
 ∀(pins:List (Addr×Obj)) (s:Shared) (σ:St) (H:Hp) (R:It->Hp->Prop),Inv X pins σ H s->wi σ H R ->
  wpAny (model X.prog X.w) X.A (eval iter X.env) (fun v s1=>wpAny (model X.prog X.w) X.A (pyIter v) (PIE X pins σ tg R) X.xe s1) X.xe s
theorem aM9(ho:s.heap.get? it=some o) (hc:o.cls=.type n) (hd:o.data=.fields vs)
    (hn:["enumerate", "zip", "dict_itemiterator", "dict_reverseitemiterator", "odict_iterator", "itertools.zip_longest", "itertools.pairwise"].contains n=false) (hQ:Q () s):wpAny M A (letOwnedTupleGo tg (.ref it) u) Q E s:=by
  unfold letOwnedTupleGo
  cases tg<;>first
    | exact wpAny_pure hQ
    | (cases u<;>first
        | exact wpAny_pure hQ
        | (refine wpAny_bind (wpAny_load ho ?_)
           rw[hc,hd]
           show wpAny M A (if(["enumerate", "zip", "dict_itemiterator", "dict_reverseitemiterator", "odict_iterator", "itertools.zip_longest", "itertools.pairwise"].contains n&&vs[0]? == some (rawInt _))=true then _ else _) Q E s
           rw[if_neg (by intro h;rw[hn,Bool.false_and]at h;cases h)]
           exact wpAny_pure hQ))
noncomputable def Itl(K:PySem.W.Frag) (a:Addr):It :=
 ⟨fun i H=>∃xs x,SqL K H a xs/\xs[i]? = some x,fun i H x H'=>H'=H/\∀xs,SqL K H a xs->xs[i]? = some x,fun i H=>∃xs,SqL K H a xs/\xs.length<=i⟩
noncomputable def Itt(K:PySem.W.Frag) (a:Addr):It :=
 ⟨fun i H=>∃xs x,SqT K H a xs/\xs[i]? = some x,fun i H x H'=>H'=H/\∀xs,SqT K H a xs->xs[i]? = some x,fun i H=>∃xs,SqT K H a xs/\xs.length<=i⟩
noncomputable def Itr(lo:Int) (n:Nat):It:=⟨fun i _=>i < n,fun i H x H'=>H'=H/\x=.int (lo+i),fun i _=>n<=i⟩
theorem aP3{P:Program}{w:World}{K:PySem.W.Frag}{tg:Expr}(a it:Addr):Turn P w K tg (Itl K a) [it] it (fun i h=>h.IsListIter it a i) where
 mem:=by simp
 obj:=fun i h st b hb=>by
  have e:b=it:=by simpa using hb
  subst e
  obtain⟨o,e,c,d⟩:=st
  exact⟨o,e,fun v z=>by rw[d]at z;cases z⟩
 keep:=fun i h h' st k=>st.at fun o e=>k it (by simp) o e
 item:=by
  intro X hP hw hK hc i pins s σ H E I hf st hg
  subst hP hw hK
  obtain⟨xs,x,hq,hx⟩:=hg
  obtain⟨its,rv,p,hz⟩:=I.list hq
  obtain⟨u,hu,ru⟩:=rv.get hx
  obtain⟨f0,f1,f2,f3,f4,f5⟩:=hf it (by simp)
  refine wpAny_pyNext_list_item st p.isList (x:=u) (by simpa using hu) fun h' st' sb=>?_
  have I1:Inv X pins σ H { s with heap:=h' }:=I.turned (t':=s.toks) (fun b o hb e=>(sb.2 b hb).trans e) f0 f1 f3 f4 f5
  obtain⟨o,e,c,d⟩:=id st'
  exact⟨u,rfl,aM9 (s:={ s with heap:=h' }) e c d (by decide) ⟨x,H,I1,ru,⟨rfl,fun ys hy=>by rw[I.list_inj hy hq];exact hx⟩,st',fun b hb=>(hf b hb).1⟩⟩
 done:=by
  intro X hP hw hK hc i pins s σ H E I hf st hg
  subst hP hw hK
  obtain⟨xs,hq,hx⟩:=hg
  obtain⟨its,rv,p,hz⟩:=I.list hq
  obtain⟨f0,f1,f2,f3,f4,f5⟩:=hf it (by simp)
  have hl:=rv.length
  exact wpAny_pyNext_list_end (I.ok.hd hc) st p.isList (by simp;omega) fun h' eb=>⟨rfl,I.turned (t':=s.toks) (fun b o hb e=>eb b o hb e) f0 f1 f3 f4 f5⟩
 self:=fun _ _ _ _ _ st h=>wpAny_pyIter_listiter st h
theorem aC7{P:Program}{w:World}{K:PySem.W.Frag}{tg:Expr}(a it:Addr):Turn P w K tg (Itt K a) [it] it (fun i h=>h.IsTupleIter it a i) where
 mem:=by simp
 obj:=fun i h st b hb=>by
  have e:b=it:=by simpa using hb
  subst e
  obtain⟨o,e,c,d⟩:=st
  exact⟨o,e,fun v z=>by rw[d]at z;cases z⟩
 keep:=fun i h h' st k=>st.at fun o e=>k it (by simp) o e
 item:=by
  intro X hP hw hK hc i pins s σ H E I hf st hg
  subst hP hw hK
  obtain⟨xs,x,hq,hx⟩:=hg
  obtain⟨its,rv,p,hz⟩:=I.tuple hq
  obtain⟨u,hu,ru⟩:=rv.get hx
  obtain⟨f0,f1,f2,f3,f4,f5⟩:=hf it (by simp)
  refine wpAny_pyNext_tuple_item st (show s.heap.IsTuple a its.toArray from p) (x:=u) (by simpa using hu) fun h' st' sb=>?_
  have I1:Inv X pins σ H { s with heap:=h' }:=I.turned (t':=s.toks) (fun b o hb e=>(sb.2 b hb).trans e) f0 f1 f3 f4 f5
  obtain⟨o,e,c,d⟩:=id st'
  exact⟨u,rfl,aM9 (s:={ s with heap:=h' }) e c d (by decide) ⟨x,H,I1,ru,⟨rfl,fun ys hy=>by rw[I.tuple_inj hy hq];exact hx⟩,st',fun b hb=>(hf b hb).1⟩⟩
 done:=by
  intro X hP hw hK hc i pins s σ H E I hf st hg
  subst hP hw hK
  obtain⟨xs,hq,hx⟩:=hg
  obtain⟨its,rv,p,hz⟩:=I.tuple hq
  obtain⟨f0,f1,f2,f3,f4,f5⟩:=hf it (by simp)
  have hl:=rv.length
  exact wpAny_pyNext_tuple_end (I.ok.hd hc) st (show s.heap.IsTuple a its.toArray from p) (by simp;omega) fun h' eb=>⟨rfl,I.turned (t':=s.toks) (fun b o hb e=>eb b o hb e) f0 f1 f3 f4 f5⟩
 self:=fun _ _ _ _ _ st h=>wpAny_pyIter_tupleiter st h
theorem aC8{P:Program}{w:World}{K:PySem.W.Frag}{tg:Expr}(it:Addr) (lo:Int) (n:Nat):Turn P w K tg (Itr lo n) [it] it (fun i h=>IsRangeIter h it (lo+(i:Nat)*1) ((n:Int) - (i:Nat)) 1) where
 mem:=by simp
 obj:=fun i h st b hb=>by
  have e:b=it:=by simpa using hb
  subst e
  exact⟨_,st,fun v z=>by
   have z':Data.fields _=Data.cell v:=z
   cases z'⟩
 keep:=fun i h h' st k=>k it (by simp) _ st
 item:=by
  intro X hP hw hK hc i pins s σ H E I hf st hg
  subst hP hw hK
  obtain⟨f0,f1,f2,f3,f4,f5⟩:=hf it (by simp)
  have W:=Walks.range (prog:=X.prog) (w:=X.w) (I.ok.hd hc) it lo 1 n
  refine W.item i s _ _ hg st fun v h' tk hv st' kk=>?_
  obtain⟨t,rfl⟩:=hv
  have I1:Inv X pins σ H { s with heap:=h',toks:=tk }:=I.turned (fun b o hb e=>kk b o (by simpa using hb) e) f0 f1 f3 f4 f5
  refine⟨_,rfl,aM9 (s:={ s with heap:=h',toks:=tk }) (n := "range_iterator") st' rfl rfl (by decide) ⟨.int (lo+i),H,I1,⟨t,?_⟩,⟨rfl,rfl⟩,st',fun b hb=>(hf b hb).1⟩⟩
  rw[Int.mul_one]
 done:=by
  intro X hP hw hK hc i pins s σ H E I hf st hg
  subst hP hw hK
  obtain⟨f0,f1,f2,f3,f4,f5⟩:=hf it (by simp)
  exact wpAny_pyNext_range_end (I.ok.hd hc) st (by have:n<=i:=hg;omega) fun h' eb=>⟨rfl,I.turned (t':=s.toks) (fun b o hb e=>eb b o hb e) f0 f1 f3 f4 f5⟩
 self:=fun _ _ _ _ _ st h=>wpAny_pyIter_rangeiter st h
end L2
namespace L2
open PySem PySem.Spec PyProof.Rows
section
variable {X:Cx}{tg:Expr}
noncomputable def cg6(K:PySem.W.Frag) (tl:TE):TI:=fun σ H R=>tl σ H fun x H1=>∃a,x=.ref a/\(∃xs,SqL K H1 a xs)/\R (Itl K a) H1
noncomputable def cm5(K:PySem.W.Frag) (tl:TE):TI:=fun σ H R=>tl σ H fun x H1=>∃a,x=.ref a/\(∃xs,SqT K H1 a xs)/\R (Itt K a) H1
theorem aK7{l:Expr}{tl:TE}(hl:PE X l tl):PI X tg l (cg6 X.K tl):=by
 intro pins s σ H R I h
 refine thn (hl pins s σ H _ I h) fun v s1 ⟨x,H1,I1,r1,q1⟩=>?_
 obtain⟨a,e,⟨xs,hq⟩,q⟩:=q1
 subst e
 cases r1
 obtain⟨its,rv,p,hz⟩:=I1.list hq
 refine wpAny_pyIter_list p.isList ?_
 refine⟨s1.heap.objs.size,[s1.heap.objs.size],_,_,H1,rfl,I1.kept (t':=s1.toks) fun b o e=>Heap.get?_push_of_some _ e,aP3 a _,⟨_,Heap.get?_push_size _ rfl,rfl,rfl⟩,fun b hb=>?_,q⟩
 have e:b=s1.heap.objs.size:=by simpa using hb
 subst e
 exact I1.fpOk (Nat.le_refl _) (I1.hok.fresh (Nat.le_refl _))
theorem bK7{l:Expr}{tl:TE}(hl:PE X l tl):PI X tg l (cm5 X.K tl):=by
 intro pins s σ H R I h
 refine thn (hl pins s σ H _ I h) fun v s1 ⟨x,H1,I1,r1,q1⟩=>?_
 obtain⟨a,e,⟨xs,hq⟩,q⟩:=q1
 subst e
 cases r1
 obtain⟨its,rv,p,hz⟩:=I1.tuple hq
 refine wpAny_pyIter_tuple (show s1.heap.IsTuple a its.toArray from p) ?_
 refine⟨s1.heap.objs.size,[s1.heap.objs.size],_,_,H1,rfl,I1.kept (t':=s1.toks) fun b o e=>Heap.get?_push_of_some _ e,aC7 a _,⟨_,Heap.get?_push_size _ rfl,rfl,rfl⟩,fun b hb=>?_,q⟩
 have e:b=s1.heap.objs.size:=by simpa using hb
 subst e
 exact I1.fpOk (Nat.le_refl _) (I1.hok.fresh (Nat.le_refl _))
theorem aw4{pins:List (Addr×Obj)}{σ:St}{H:Hp}{s:Shared}{R:It->Hp->Prop}{E:Value->Shared->Prop}{lo hi:Int}{t u v:Tok}{tk:Nat}(I:Inv X pins σ H s) (h1:-(2 ^ 62)<=lo) (h2:lo < 2 ^ 62) (h3:-(2 ^ 62)<=hi) (h4:hi < 2 ^ 62)
  (q:R (Itr lo (hi - lo).toNat) H):wpAny (model X.prog X.w) X.A (pyIter (.ref s.heap.objs.size)) (PIE X pins σ tg R) E { s with heap:=s.heap.push { cls:=.type "range", data:=.fields #[.int lo t,.int hi u,.int 1 v] },toks:=tk }:=by
 refine wpAny_pyIter_range (IsRange.new ..) (small_one h1 h2 h3 h4) ?_
 have I1:Inv X pins σ H { s with heap:=s.heap.push { cls:=.type "range", data:=.fields #[.int lo t,.int hi u,.int 1 v] },toks:=tk }:=I.kept fun b o e=>Heap.get?_push_of_some _ e
 refine⟨(s.heap.push { cls:=.type "range", data:=.fields #[.int lo t,.int hi u,.int 1 v] }).objs.size,[(s.heap.push { cls:=.type "range", data:=.fields #[.int lo t,.int hi u,.int 1 v] }).objs.size],_,_,H,rfl,
  I1.kept (t':=tk) fun b o e=>Heap.get?_push_of_some _ e,aC8 _ lo (hi - lo).toNat,?_,fun b hb=>?_,q⟩
 ·have e1:lo+((0:Nat):Int)*1=lo:=by simp
  have e2:(((hi - lo).toNat:Nat):Int) - ((0:Nat):Int)=Builtin.Range.rangeSize lo hi 1:=by rw[rangeSize_one];split<;>omega
  show IsRangeIter _ _ (lo+((0:Nat):Int)*1) ((((hi - lo).toNat:Nat):Int) - ((0:Nat):Int)) 1
  rw[e1,e2]
  exact Heap.get?_push_size _ rfl
 ·have e:b=(s.heap.push { cls:=.type "range", data:=.fields #[.int lo t,.int hi u,.int 1 v] }).objs.size:=by simpa using hb
  subst e
  exact I1.fpOk (Nat.le_refl _) (I1.hok.fresh (Nat.le_refl _))
noncomputable def cg5(ta:TA):TI:=fun σ H R=>ta σ H fun vs H1=>∃j:Int,vs=[.int j]/\-(2 ^ 62)<=j/\j < 2 ^ 62/\R (Itr 0 j.toNat) H1
noncomputable def cg4(ta:TA):TI:=fun σ H R=>ta σ H fun vs H1=>∃i j:Int,vs=[.int i,.int j]/\(-(2 ^ 62)<=i/\i < 2 ^ 62/\-(2 ^ 62)<=j/\j < 2 ^ 62)/\R (Itr i (j - i).toNat) H1
theorem aR0{a:Expr}{ta:TA}{p pos:Pos}(hg:Gl X "range") (hm:X.mg "range" = none) (ha:PA X [a] ta) (hs:starEach [a] X.env=[(false,eval a X.env)]:=by rfl):PI X tg (.Call (.Name "range" p) [a] [] pos) (cg5 ta):=by
 intro pins s σ H R I h
 refine Call_ (t6 I hg hm boot_range (PyProof.Rows.callWith_type1 (thn (ha pos pins s σ H _ I h) fun us s1 ⟨vs,H1,I1,r1,q1⟩=>?_) hs rfl))
 obtain⟨j,e,q1,q2,q⟩:=q1
 subst e
 cases r1 with
 | cons r rr =>
  cases rr
  obtain⟨t,rfl⟩:=r
  exact call_range_1 (aw4 I1 (by omega) (by omega) q1 q2 (by simpa using q))
theorem aQ9(hg:Gl X "range") (hm:X.mg "range" = none) (ha:PA X [a,b] ta) (hs:starEach [a,b] X.env=[(false,eval a X.env),(false,eval b X.env)]:=by rfl) (hs2:starEach [b] X.env=[(false,eval b X.env)]:=by rfl) :
  PI X tg (.Call (.Name "range" p) [a,b] [] pos) (cg4 ta):=by
 intro pins s σ H R I h
 refine Call_ (t6 I hg hm boot_range (PyProof.Rows.callWith_type1 (thn (ha pos pins s σ H _ I h) fun us s1 ⟨vs,H1,I1,r1,q1⟩=>?_) (by rw[hs,hs2]) (by rw[hs2];rfl)))
 obtain⟨i,j,e,⟨q1,q2,q3,q4⟩,q⟩:=q1
 subst e
 cases r1 with
 | cons r rr =>
  cases rr with
  | cons r' rr =>
   cases rr
   obtain⟨t,rfl⟩:=r
   obtain⟨t',rfl⟩:=r'
   exact call_range_2 (aw4 I1 q1 q2 q3 q4 q)
noncomputable def ck5(wi:TI) (g:TG) (tb:TS):TS:=fun D σ H=>wi σ H fun J H1=>∃W:Nat->Nat->St->Hp->Prop,(∃m,W 0 m σ H1)/\∀i m σ H,W i m σ H ->
 (J.stop i H/\D.nx σ H)\/(J.go i H/\∃N:St->Hp->Prop,(∀σ' H',N σ' H'->∃m',m' < m/\W (i+1) m' σ' H')/\∀x H',J.yld i H x H'->g x σ H' fun σ2 H2=>tb { D with nx:=N,ct:=N,bk:=D.nx } σ2 H2)
noncomputable def aj7(fp:List Addr) (h:Heap):List (Addr×Obj):=fp.filterMap fun b=>(h.get? b).map fun o=>(b,o)
theorem Y1(hb:b∈fp) (e:h.get? b=some o):(b,o)∈aj7 fp h:=List.mem_filterMap.mpr ⟨b,hb,by rw[e];rfl⟩
theorem aR5(hp:p∈aj7 fp h):p.1∈fp/\h.get? p.1=some p.2:=by
 obtain⟨b,hb,e⟩:=List.mem_filterMap.mp hp
 cases q:h.get? b with
 | none=>rw[q]at e;cases e
 | some o =>
  rw[q]at e
  have e':(b,o)=p:=Option.some.inj e
  subst e'
  exact⟨hb,q⟩
theorem Inv.pinned(I:Inv X pins σ H s) (hf:∀b∈fp,ae2 X pins H b) (ho:∀b∈fp,∃o,s.heap.get? b=some o/\∀v,o.data≠.cell v):Inv X (pins++aj7 fp s.heap) σ H s :=
 I.pins_of fun p hp=>(List.mem_append.mp hp).elim (fun z=>I.pin p (List.mem_append_right _ z)) fun z=>by
  obtain⟨hb,e⟩:=aR5 z
  obtain⟨f0,f1,f2,_⟩:=hf p.1 hb
  obtain⟨o,e',d⟩:=ho p.1 hb
  rw[e]at e';cases e'
  exact⟨e,f0,f1,f2,d⟩
theorem Inv.unpinned(I:Inv X (pins++pl) σ H s):Inv X pins σ H s:=I.pins_of fun p hp=>I.pin p (List.mem_append_right _ (List.mem_append_left _ hp))
theorem aZ7(hp:PassesOwn (model X.prog X.w) X.A X.env X.xe) (hc:X.calm=true) (hi:PI X tg iter wi) (hg:PG X tg g) (hb:PSs X body tb)
  (hs:∀x,foldedSetIterable iter X.env x=pure x:=by intro _;rfl):PS X (.For tg iter body [] pos) (ck5 wi g tb):=by
 intro pins s σ H D I h
 refine wpAny_For (thn (hi pins s σ H _ I h) fun v s1 h1=>thn h1 fun itv s2 h2=>?_) hs
 obtain⟨it,fp,tn,J,H2,e,I2,T,st2,f2,W,⟨m0,w0⟩,turn⟩:=h2
 subst e
 have stat:∀{H':Hp},(∀b∈fp,H' b=none)->∀b∈fp,ae2 X pins H' b:=fun hn b hb=>⟨hn b hb,(f2 b hb).2⟩
 refine codeAny_forLoop_any (fun n s'=>∃i σ' H',Inv X pins σ' H' s'/\tn i s'.heap/\(∀b∈fp,H' b=none)/\W i n σ' H') ?_ m0 ⟨0,σ,H2,I2,st2,fun b hb=>(f2 b hb).1,w0⟩
 rintro n s3 ⟨i,σ3,H3,I3,st3,fr3,w3⟩
 rcases turn i n σ3 H3 w3 with⟨stop,qn⟩|⟨go,N,hN,step⟩
 ·refine wpAny_passesOwn hp (thn (T.done X rfl rfl rfl hc i pins s3 σ3 H3 X.xe I3 (stat fr3) st3 stop) fun r s4 ⟨hr,I4⟩=>?_)
  subst hr
  exact wpAny_execs_nil ⟨σ3,H3,I4,qn⟩
 ·refine wpAny_passesOwn hp (thn (T.item X rfl rfl rfl hc i pins s3 σ3 H3 X.xe I3 (stat fr3) st3 go) fun r s4 ⟨u,hr,h4⟩=>?_)
  subst hr
  refine wpAny_passesOwn hp (thn h4 fun _ s5 ⟨x,H5,I5,r5,y5,st5,fr5⟩=>?_)
  have I5':=I5.pinned (stat fr5) (T.obj _ _ st5)
  refine wpAny_passesOwn hp (thn (hg _ s5 σ3 H5 x u _ I5' r5 (step x H5 y5)) fun _ s6 ⟨σ6,H6,I6,q6⟩=>?_)
  refine wpAny_passesOwn hp (thn (hb _ s6 σ6 H6 _ I6 q6) fun f s7 q7=>?_)
  have again:∀{σ7:St}{H7:Hp},Inv X (pins++aj7 fp s5.heap) σ7 H7 s7->N σ7 H7->∃m,m < n/\∃i σ' H',Inv X pins σ' H' s7/\tn i s7.heap/\(∀b∈fp,H' b=none)/\W i m σ' H':=fun{σ7 H7} I7 n7=>by
   obtain⟨m',hm,w7⟩:=hN σ7 H7 n7
   refine⟨m',hm,i+1,σ7,H7,I7.unpinned,T.keep _ _ _ st5 fun b hb o e=>(I7.pin (b,o) (List.mem_append_right _ (List.mem_append_right _ (Y1 hb e)))).1,fun b hb=>?_,w7⟩
   obtain⟨o,e,d⟩:=T.obj _ _ st5 b hb
   exact(I7.pin (b,o) (List.mem_append_right _ (List.mem_append_right _ (Y1 hb e)))).2.1
  cases f with
  | next=>obtain⟨σ7,H7,I7,n7⟩:=q7;exact again I7 n7
  | cont=>obtain⟨σ7,H7,I7,n7⟩:=q7;exact again I7 n7
  | brk=>obtain⟨σ7,H7,I7,q7⟩:=q7;exact⟨σ7,H7,I7.unpinned,q7⟩
  | ret v=>obtain⟨x7,σ7,H7,I7,r7,q7⟩:=q7;exact⟨x7,σ7,H7,I7.unpinned,r7,q7⟩
end
end L2
namespace L2
open PySem PySem.Spec PyProof.Rows
noncomputable abbrev R2:=V->V->Hp->VK->Prop
noncomputable def OpR(X:Cx) (f:Value->Value->Sem Value) (r:R2):Prop :=
 ∀(pins:List (Addr×Obj)) (s:Shared) (σ:St) (H:Hp) (x y:V) (v u:Value) (Q:VK),Inv X pins σ H s->C5 x v->C5 y u->r x y H Q ->
  wpAny (model X.prog X.w) X.A (f v u) (EP X pins σ Q) X.xe s
noncomputable def UnR(X:Cx) (f:Value->Sem Value) (r:V->Hp->VK->Prop):Prop :=
 ∀(pins:List (Addr×Obj)) (s:Shared) (σ:St) (H:Hp) (x:V) (v:Value) (Q:VK),Inv X pins σ H s->C5 x v->r x H Q ->
  wpAny (model X.prog X.w) X.A (f v) (EP X pins σ Q) X.xe s
noncomputable def a9(X:Cx) (f:Value) (r:List V->Hp->VK->Prop):Prop :=
 ∀(pins:List (Addr×Obj)) (s:Shared) (σ:St) (H:Hp) (xs:List V) (us:List Value) (Q:VK),Inv X pins σ H s->C1 xs us->r xs H Q ->
  wpAny (model X.prog X.w) X.A (call f us) (EP X pins σ Q) X.xe s
noncomputable def co7(X:Cx) (r:V->Hp->(Bool->Hp->Prop)->Prop):Prop :=
 ∀(pins:List (Addr×Obj)) (s:Shared) (σ:St) (H:Hp) (x:V) (v:Value) (Q:Bool->Hp->Prop),Inv X pins σ H s->C5 x v->r x H Q ->
  wpAny (model X.prog X.w) X.A (truthy v) (TP X pins σ Q) X.xe s
noncomputable def tOp(r:R2) (ta tb:TE):TE:=fun σ H Q=>ta σ H fun x H1=>tb σ H1 fun y H2=>r x y H2 Q
noncomputable def tUn(r:V->Hp->VK->Prop) (ta:TE):TE:=fun σ H Q=>ta σ H fun x H1=>r x H1 Q
noncomputable def rI(C:Int->Int->Prop) (g:Int->Int->V):R2:=fun x y H Q=>∃i j,x=.int i/\y=.int j/\C i j/\Q (g i j) H
noncomputable def rI0(g:Int->Int->V):R2:=fun x y H Q=>∃i j,x=.int i/\y=.int j/\Q (g i j) H
noncomputable def rU(g:Int->V):V->Hp->VK->Prop:=fun x H Q=>∃i,x=.int i/\Q (g i) H
section
variable {X:Cx}{a b c:Expr}{ta tb tc:TE}{pos:Pos}
theorem bV9(ha:PE X a ta) (hb:PE X b tb) {pins:List (Addr×Obj)}{s:Shared}{σ:St}{H:Hp}{R:V->V->Hp->Prop}(I:Inv X pins σ H s)
  (h:ta σ H fun x H1=>tb σ H1 fun y H2=>R x y H2) {Q:Value->Shared->Prop}{f:Value->Value->Sem Value}
  (hf:∀v u s2 x y H2,Inv X pins σ H2 s2->C5 x v->C5 y u->R x y H2->wpAny (model X.prog X.w) X.A (f v u) Q X.xe s2) :
  wpAny (model X.prog X.w) X.A (eval a X.env) (fun v s₁=>wpAny (model X.prog X.w) X.A (eval b X.env) (fun u s₂=>wpAny (model X.prog X.w) X.A (f v u) Q X.xe s₂) X.xe s₁) X.xe s:=by
 refine thn (ha pins s σ H _ I h) fun v s1 ⟨x,H1,I1,r1,q1⟩=>?_
 refine thn (hb pins s1 σ H1 _ I1 q1) fun u s2 ⟨y,H2,I2,r2,q2⟩=>?_
 exact hf v u s2 x y H2 I2 r1 r2 q2
theorem bC6(ho:OpR X (binaryOp op) r) (ha:PE X a ta) (hb:PE X b tb):PE X (.BinOp a op b pos) (tOp r ta tb):=by
 intro pins s σ H Q I h
 exact wpAny_BinOp (bV9 ha hb I h fun v u s2 x y H2 I2 rx ry q=>ho pins s2 σ H2 x y v u Q I2 rx ry q)
theorem cc4(ho:UnR X (unaryOp op) r) (ha:PE X a ta):PE X (.UnaryOp op a pos) (tUn r ta):=by
 intro pins s σ H Q I h
 exact UnaryOp_ (thn (ha pins s σ H _ I h) fun v s1 ⟨x,H1,I1,r1,q1⟩=>ho pins s1 σ H1 x v Q I1 r1 q1)
theorem opI{f:Value->Value->Sem Value}{C:Int->Int->Prop}{g:Int->Int->Int}
  (rule:∀(i j:Int) (t u:Tok) (s:Shared) (Q:Value->Shared->Prop) (E:Value->Shared->Prop),C i j->Q (.int (g i j) s.toks) { s with toks:=s.toks+1 }->wpAny (model X.prog X.w) X.A (f (.int i t) (.int j u)) Q E s) :
  OpR X f (rI C fun i j=>.int (g i j)):=by
 intro pins s σ H x y v u Q I rx ry h
 obtain⟨i,j,rfl,rfl,hc,q⟩:=h
 obtain⟨t,rfl⟩:=rx
 obtain⟨t',rfl⟩:=ry
 exact rule i j t t' s _ _ hc ⟨.int (g i j),H,I.tok _,⟨_,rfl⟩,q⟩
theorem cd2{f:Value->Value->Sem Value}{g:Int->Int->Int}
  (rule:∀(i j:Int) (t u:Tok) (s:Shared) (Q:Value->Shared->Prop) (E:Value->Shared->Prop),Q (.int (g i j) s.toks) { s with toks:=s.toks+1 }->wpAny (model X.prog X.w) X.A (f (.int i t) (.int j u)) Q E s) :
  OpR X f (rI0 fun i j=>.int (g i j)):=by
 intro pins s σ H x y v u Q I rx ry h
 obtain⟨i,j,rfl,rfl,q⟩:=h
 obtain⟨t,rfl⟩:=rx
 obtain⟨t',rfl⟩:=ry
 exact rule i j t t' s _ _ ⟨.int (g i j),H,I.tok _,⟨_,rfl⟩,q⟩
theorem bu3{f:Value->Value->Sem Value}{g:Int->Int->Bool}
  (rule:∀(i j:Int) (t u:Tok) (s:Shared) (Q:Value->Shared->Prop) (E:Value->Shared->Prop),Q (.bool (g i j)) s->wpAny (model X.prog X.w) X.A (f (.int i t) (.int j u)) Q E s) :
  OpR X f (rI0 fun i j=>.bl (g i j)):=by
 intro pins s σ H x y v u Q I rx ry h
 obtain⟨i,j,rfl,rfl,q⟩:=h
 obtain⟨t,rfl⟩:=rx
 obtain⟨t',rfl⟩:=ry
 exact rule i j t t' s _ _ ⟨.bl (g i j),H,I,rfl,q⟩
theorem bc0:OpR X (binaryOp .Add) (rI0 fun i j=>.int (i+j)):=cd2 fun _ _ _ _ _ _ _ q=>add_int q
theorem bM4:OpR X (binaryOp .Sub) (rI0 fun i j=>.int (i - j)):=cd2 fun _ _ _ _ _ _ _ q=>sub_int q
theorem bM5:OpR X (binaryOp .Mod) (rI (fun _ j=>0 < j) fun i j=>.int (i % j)):=opI fun i j _ _ _ _ _ hc q=>by
 have h1:(0:Int) < j:=hc
 exact mod_int' (by omega) (by rw[Int.fmod_eq_emod_of_nonneg i (by omega)];exact q)
theorem unI{f:Value->Sem Value}{g:Int->Int}
  (rule:∀(i:Int) (t:Tok) (s:Shared) (Q:Value->Shared->Prop) (E:Value->Shared->Prop),Q (.int (g i) s.toks) { s with toks:=s.toks+1 }->wpAny (model X.prog X.w) X.A (f (.int i t)) Q E s) :
  UnR X f (rU fun i=>.int (g i)):=by
 intro pins s σ H x v Q I rx h
 obtain⟨i,rfl,q⟩:=h
 obtain⟨t,rfl⟩:=rx
 exact rule i t s _ _ ⟨.int (g i),H,I.tok _,⟨_,rfl⟩,q⟩
theorem bH1:UnR X (unaryOp .USub) (rU fun i=>.int (-i)):=unI fun _ _ _ _ _ q=>neg_int q
end
section
variable {X:Cx}{a b c:Expr}{ta tb tc:TE}{pos:Pos}
theorem bj0(I:Inv X pins σ H s) (q:Q (.bl k) H) (e:k=k'):EP X pins σ Q (.bool k') s:=by
 subst e
 exact⟨.bl k,H,I,rfl,q⟩
theorem cc7:OpR X (compareOp .Lt) (rI0 fun i j=>.bl (decide (i < j))):=bu3 fun _ _ _ _ _ _ _ q=>lt_int q
theorem cc8:OpR X (compareOp .LtE) (rI0 fun i j=>.bl (decide (i<=j))):=bu3 fun _ _ _ _ _ _ _ q=>le_int q
theorem cd0:OpR X (compareOp .Gt) (rI0 fun i j=>.bl (decide (j < i))):=bu3 fun _ _ _ _ _ _ _ q=>gt_int q
theorem cd1:OpR X (compareOp .GtE) (rI0 fun i j=>.bl (decide (j<=i))):=bu3 fun _ _ _ _ _ _ _ q=>ge_int q
theorem bM6:OpR X (compareOp .Is) (fun x y H Q=>y=.non/\Q (.bl (decide (x=.non))) H):=by
 intro pins s σ H x y v u Q I rx ry h
 obtain⟨rfl,q⟩:=h
 cases ry
 refine is_none_gen (bj0 I q ?_)
 cases x<;>first
  | (cases rx;rfl)
  | (obtain⟨t,rfl⟩:=rx;rfl)
theorem bt9:OpR X (compareOp .IsNot) (fun x y H Q=>y=.non/\Q (.bl (!decide (x=.non))) H):=by
 intro pins s σ H x y v u Q I rx ry h
 obtain⟨rfl,q⟩:=h
 cases ry
 refine isnot_none_gen (bj0 I q ?_)
 cases x<;>first
  | (cases rx;rfl)
  | (obtain⟨t,rfl⟩:=rx;rfl)
theorem as5(b:Expr) (h:op≠.In:=by decide) (h2:op≠.NotIn:=by decide):behindInMarks op b=false:=by
 have e1:(op==CmpOp.In)=false:=by cases op<;>first|rfl|exact absurd rfl h
 have e2:(op==CmpOp.NotIn)=false:=by cases op<;>first|rfl|exact absurd rfl h2
 cases b<;>simp[behindInMarks,e1,e2]
theorem aK8(ho:OpR X (compareOp op) r) (ha:PE X a ta) (hb:PE X b tb) (hm:behindInMarks op b=false):PE X (.Compare a [op] [b] pos) (tOp r ta tb):=by
 intro pins s σ H Q I h
 exact wpAny_Compare1 (bV9 ha hb I h fun v u s2 x y H2 I2 rx ry q=>ho pins s2 σ H2 x y v u Q I2 rx ry q) hm
noncomputable def bB6(t:TE):TT:=fun σ H Q=>t σ H fun x H'=>∃k,x=.bl k/\Q k H'
theorem aK5(ho:OpR X (compareOp op) r) (ha:PE X a ta) (hb:PE X b tb) (hm:behindInMarks op b=false):PT X (.Compare a [op] [b] pos) (bB6 (tOp r ta tb)):=by
 intro pins s σ H Q I h
 refine wpAny_isTrue_Compare1 (thn (ha pins s σ H _ I h) fun v s1 ⟨x,H1,I1,r1,q1⟩=>thn (hb pins s1 σ H1 _ I1 q1) fun u s2 ⟨y,H2,I2,r2,q2⟩ =>
  thn (ho pins s2 σ H2 x y v u _ I2 r1 r2 q2) fun c s3 ⟨z,H3,I3,r3,k,e,q3⟩=>?_) hm
 subst e
 cases r3
 exact wpAny_truthy_bool ⟨H3,I3,q3⟩
noncomputable def aW5(r r':R2) (ta tb tc:TE):TE:=fun σ H Q=>ta σ H fun x H1=>tb σ H1 fun y H2=>r x y H2 fun z H3=>∃k,z=.bl k /\
 (if k=true then tc σ H3 fun w' H4=>r' y w' H4 Q else Q (.bl false) H3)
theorem ax0(ho:OpR X (compareOp op) r) (ho':OpR X (compareOp op') r') (ha:PE X a ta) (hb:PE X b tb) (hc:PE X c tc)
  (hm:lastMarks [op,op'] [b,c]=false:=by with_unfolding_all rfl):PE X (.Compare a [op,op'] [b,c] pos) (aW5 r r' ta tb tc):=by
 intro pins s σ H Q I h
 refine Compare_chain (thn (ha pins s σ H _ I h) fun v s1 ⟨x,H1,I1,r1,q1⟩=>chain_link (thn (hb pins s1 σ H1 _ I1 q1) fun u s2 ⟨y,H2,I2,r2,q2⟩ =>
  thn (ho pins s2 σ H2 x y v u _ I2 r1 r2 q2) fun d s3 ⟨z,H3,I3,r3,k,e,q3⟩=>?_)) hm
 subst e
 cases r3
 refine wpAny_truthy_bool ?_
 cases k with
 | false=>exact ite_ff ⟨.bl false,H3,I3,rfl,q3⟩
 | true=>exact ite_tt (chain_last (thn (hc pins s3 σ H3 _ I3 q3) fun w' s4 ⟨z',H4,I4,r4,q4⟩=>ho' pins s4 σ H4 y z' u w' Q I4 r2 r4 q4))
theorem aw6(ho:OpR X (compareOp op) r) (ho':OpR X (compareOp op') r') (ha:PE X a ta) (hb:PE X b tb) (hc:PE X c tc)
  (hm:lastMarks [op,op'] [b,c]=false:=by with_unfolding_all rfl):PT X (.Compare a [op,op'] [b,c] pos) (bB6 (aW5 r r' ta tb tc)):=by
 intro pins s σ H Q I h
 refine isTrue_chain (thn (ha pins s σ H _ I h) fun v s1 ⟨x,H1,I1,r1,q1⟩=>test_link (thn (hb pins s1 σ H1 _ I1 q1) fun u s2 ⟨y,H2,I2,r2,q2⟩ =>
  thn (ho pins s2 σ H2 x y v u _ I2 r1 r2 q2) fun d s3 ⟨z,H3,I3,r3,k,e,q3⟩=>?_)) hm
 subst e
 cases r3
 refine wpAny_truthy_bool ?_
 cases k with
 | false =>
  obtain⟨k',e',q'⟩:=q3
  cases e'
  exact ite_ff ⟨H3,I3,q'⟩
 | true =>
  refine ite_tt (test_last (thn (hc pins s3 σ H3 _ I3 q3) fun w' s4 ⟨z',H4,I4,r4,q4⟩=>thn (ho' pins s4 σ H4 y z' u w' _ I4 r2 r4 q4) fun d' s5 ⟨z2,H5,I5,r5,k2,e2,q5⟩=>?_))
  subst e2
  cases r5
  exact wpAny_truthy_bool ⟨H5,I5,q5⟩
noncomputable def bW8(K:PySem.W.Frag) (x:V) (H:Hp) (k:Bool):Prop :=
 match x with
 | .non=>k=false
 | .bl b=>k=b
 | .int i=>k=(i != 0)
 | .str y=>y.length<=sizeLine/\k=((y.length:Int) != 0)
 | .byt y=>y.size<=sizeLine/\k=((y.size:Int) != 0)
 | .ref p=>(∃xs,SqL K H p xs/\k = !xs.isEmpty)\/(∃xs,SqT K H p xs/\k = !xs.isEmpty)\/∃kvs,H p=some (.dK kvs)/\k = !kvs.isEmpty
 | _=>False
theorem aF5{κ:Type}{kvs:List (κ×V)}{vs:List (κ×Value)}(r:KV kvs vs):(!vs.isEmpty) = !kvs.isEmpty:=by
 cases r<;>rfl
theorem al1(r:C1 xs its):(!its.toArray.isEmpty) = !xs.isEmpty:=by
 cases r<;>simp
theorem ad2:(sizeLine:Nat) < 2 ^ 63:=by rw[sizeLine_eq];decide
theorem aW3:co7 X (fun x H Q=>∃k,bW8 X.K x H k/\Q k H):=by
 intro pins s σ H x v Q I rx h
 obtain⟨k,e,q⟩:=h
 have hl:=ad2
 have hs:sizeLine=16777216:=sizeLine_eq
 cases x with
 | non =>
  cases rx
  have e':k=false:=e
  subst e'
  exact truthy_none ⟨H,I,q⟩
 | bl b =>
  cases rx
  have e':k=b:=e
  subst e'
  exact wpAny_truthy_bool ⟨H,I,q⟩
 | int i =>
  obtain⟨t,rfl⟩:=rx
  have e':k=(i != 0):=e
  subst e'
  exact PySem.P.truthy_int ⟨H,I,q⟩
 | str y =>
  obtain⟨t,rfl⟩:=rx
  obtain⟨hy,e'⟩:y.length<=sizeLine/\k=((y.length:Int) != 0):=e
  subst e'
  exact PySem.P.truthy_str (by omega) ⟨H,I.tok _,q⟩
 | byt y =>
  obtain⟨t,rfl⟩:=rx
  obtain⟨hy,e'⟩:y.size<=sizeLine/\k=((y.size:Int) != 0):=e
  subst e'
  exact PySem.W.truthy_bytes (by omega) ⟨H,I.tok _,q⟩
 | ref p =>
  cases rx
  have e':(∃xs,SqL X.K H p xs/\k = !xs.isEmpty)\/(∃xs,SqT X.K H p xs/\k = !xs.isEmpty)\/∃kvs,H p=some (.dK kvs)/\k = !kvs.isEmpty:=e
  rcases e' with⟨xs,hx,e'⟩|⟨xs,hx,e'⟩|⟨kvs,hx,e'⟩
  ·subst e'
   obtain⟨its,r,pl,hz⟩:=I.list hx
   have hlen:=r.length
   exact wpAny_truthy_list pl.isList (by simp only[List.size_toArray];omega) ⟨H,I.tok _,by rw[al1 r];exact q⟩
  ·subst e'
   obtain⟨its,r,pl,hz⟩:=I.tuple hx
   have hlen:=r.length
   exact truthy_tuple pl (by simp only[List.size_toArray];omega) ⟨H,I.tok _,by rw[al1 r];exact q⟩
  ·subst e'
   obtain⟨hz,hS,vs,r,m⟩:kvs.length<=sizeLine/\(p==sysModules)=false/\∃vs,KV kvs vs/\s.heap.DictOf (K7 X.prog X.w) p vs:=I.hok p _ hx
   have hlen:kvs.length=vs.length:=Paired.length r
   exact wpAny_truthy_dict hS m (by omega) ⟨H,I.tok _,by rw[aF5 r];exact q⟩
 | _=>exact(show False from e).elim
theorem aw5(ha:PE X a ta) (he:∀whole,isTrue a X.env whole=(do let v ← whole;standAt a.pos;holding [v] (truthy v))) :
  PT X a (fun σ H Q=>ta σ H fun x H'=>∃k,bW8 X.K x H' k/\Q k H'):=by
 intro pins s σ H Q I h
 exact isTrue_plain (thn (ha pins s σ H _ I h) fun v s1 ⟨x,H1,I1,r1,q1⟩=>aW3 pins s1 σ H1 x v Q I1 r1 q1) (he _)
theorem aE5:OpR X (binaryOp .Add) (fun x y H Q=>∃i j,x=.str i/\y=.str j/\i.length+j.length<=sizeLine/\Q (.str (i++j)) H):=by
 intro pins s σ H x y v u Q I rx ry h
 obtain⟨i,j,rfl,rfl,hz,q⟩:=h
 obtain⟨t,rfl⟩:=rx
 obtain⟨t',rfl⟩:=ry
 exact add_str (fun t' tk=>⟨.str (i++j),H,I.tok _,⟨_,rfl⟩,q⟩) hz
theorem u8(r:C1 [x] us):∃u,us=[u]/\C5 x u:=by
 cases r with
 | cons r1 r2=>cases r2;exact⟨_,rfl,r1⟩
theorem bB4(r:C1 [x,y] us):∃u w',us=[u,w']/\C5 x u/\C5 y w':=by
 cases r with
 | cons r1 r2 =>
  cases r2 with
  | cons r3 r4=>cases r4;exact⟨_,_,rfl,r1,r3⟩
theorem ap2:a9 X (.type "int") (fun xs H Q=>(∃i,xs=[.int i]/\Q (.int i) H)\/∃k,xs=[.bl k]/\Q (.int (if k then 1 else 0)) H):=by
 intro pins s σ H xs us Q I r h
 rcases h with⟨i,rfl,q⟩|⟨k,rfl,q⟩
 ·obtain⟨u,rfl,t,rfl⟩:=u8 r
  exact call_int_int ⟨.int i,H,I,⟨_,rfl⟩,q⟩
 ·obtain⟨u,rfl,r1⟩:=u8 r
  cases r1
  exact call_int_bool ⟨.int (if k then 1 else 0),H,I.tok _,⟨_,rfl⟩,q⟩
noncomputable def cp0(K:PySem.W.Frag) (x:V) (H:Hp) (n:Nat):Prop :=
 match x with
 | .str y=>y.length<=sizeLine/\n=y.length
 | .byt y=>y.size<=sizeLine/\n=y.size
 | .ref p=>(∃xs,SqL K H p xs/\n=xs.length)\/∃xs,SqT K H p xs/\n=xs.length
 | _=>False
theorem aB1:a9 X (.builtin "len") (fun xs H Q=>∃x n,xs=[x]/\cp0 X.K x H n/\Q (.int n) H):=by
 intro pins s σ H xs us Q I r h
 obtain⟨x,n,rfl,e,q⟩:=h
 obtain⟨u,rfl,rx⟩:=u8 r
 have hl:=ad2
 have hs:sizeLine=16777216:=sizeLine_eq
 cases x with
 | str y =>
  obtain⟨t,rfl⟩:=rx
  obtain⟨hy,e'⟩:y.length<=sizeLine/\n=y.length:=e
  subst e'
  exact len_str (by omega) ⟨.int _,H,I.tok _,⟨_,rfl⟩,q⟩
 | byt y =>
  obtain⟨t,rfl⟩:=rx
  obtain⟨hy,e'⟩:y.size<=sizeLine/\n=y.size:=e
  subst e'
  exact PySem.W.len_bytes (by omega) ⟨.int _,H,I.tok _,⟨_,rfl⟩,q⟩
 | ref p =>
  cases rx
  have e':(∃xs,SqL X.K H p xs/\n=xs.length)\/∃xs,SqT X.K H p xs/\n=xs.length:=e
  rcases e' with⟨xs,hx,e'⟩|⟨xs,hx,e'⟩
  ·subst e'
   obtain⟨its,r',pl,hz⟩:=I.list hx
   have hlen:=r'.length
   exact Calls.call_len_list pl.isList (by simp only[List.size_toArray];omega) ⟨.int xs.length,H,I.tok _,⟨_,by simp only[List.size_toArray];rw[hlen]⟩,q⟩
  ·subst e'
   obtain⟨its,r',pl,hz⟩:=I.tuple hx
   have hlen:=r'.length
   exact len_tuple pl (by simp only[List.size_toArray];omega) ⟨.int xs.length,H,I.tok _,⟨_,by simp only[List.size_toArray];rw[hlen]⟩,q⟩
 | _=>exact(show False from e).elim
end
end L2
namespace L2
open PySem PySem.Spec PyProof.Rows
structure ObjM (h:Heap) (x dx C:Addr) (mA:Str->Option Value):Prop where
 obj:h.get? x=some (PySem.W.instObj C dx)
 ns:h.Ns1 dx mA
 ne:dx≠x
theorem aR9{h:Heap}{dx:Addr}{mA:Str->Option Value}(n:h.Ns1 dx mA):∃od,h.get? dx=some od/\∀name,PySem.W.lookIn name od=some (mA name):=by
 obtain⟨o,es,ep,ho,hd,hk,_,hm⟩:=n
 refine⟨o,ho,fun name=>?_⟩
 have e:=hm name
 unfold nsFind findBy at e
 rw[← Array.find?_toList]at e
 unfold PySem.W.lookIn
 rw[hd]
 dsimp only
 split
 ·rename_i y q
  rw[q]at e
  exact congrArg some e
 ·rename_i q
  rw[q]at e
  have a:es.toList.any (·.refKey)=false:=by
   rw[List.any_eq_false]
   intro y hy
   obtain⟨z,t,hkey⟩:=hk y (Array.mem_toList_iff.mp hy)
   simp[DictEntry.refKey,hkey]
  have a':¬es.toList.any (·.refKey)=true:=by rw[a];exact Bool.false_ne_true
  rw[if_neg a']
  exact congrArg some e
theorem ObjM.look(I:ObjM h x dx C mA):∃od,PySem.W.InstAt h x (PySem.W.instObj C dx) C (some od)/\∀name,PySem.W.lookIn name od=some (mA name) :=
 let⟨od,ho,hl⟩:=aR9 I.ns
 ⟨od,⟨I.obj,rfl,rfl,ho⟩,hl⟩
section
variable {prog:Program}{w:World}{A:Around}{E:Value->Shared->Prop}{s:Shared}{K:PySem.W.Frag}{x dx C f:Addr}{mA:Str->Option Value}{name:Str}{v:Value}
theorem by3(X:K.In s.heap) (I:ObjM s.heap x dx C mA) (hg:PySem.W.plainGet K C name=true) (hh:PySem.W.hasDictIn K C=true)
  (ha:PySem.W.findIn K (.ref C) name=some none) (hv:mA name=some v) (hv':PySem.W.handedIn v=true) (h:Q v { s with toks:=s.toks+1 }) :
  wpAny (model prog w) A (getAttr (.ref x) name expr) Q E s:=by
 obtain⟨od,J,hl⟩:=I.look
 exact PySem.W.get_value X J (PySem.W.plainGet_of hg).1 (PySem.W.findObj_own hh ha rfl (by rw[hl,hv])) hv' h
theorem bi1(X:K.In s.heap) (I:ObjM s.heap x dx C mA) (hg:PySem.W.plainGet K C name=true)
  (hf:PySem.W.findIn K (.ref C) name=some (some (.ref f))) (ht:PySem.W.isFn K (.ref f)=true) (hv:mA name=none) (h:Q (.ref f,[.ref x]) s) :
  wpAny (model prog w) A (getMethod (.ref x) name pl) Q E s:=by
 obtain⟨od,J,hl⟩:=I.look
 exact PySem.W.method_fn X J (PySem.W.plainGet_of hg).1 (PySem.W.plainGet_of hg).2 hf (beq_iff_eq.mp ht) (by show(PySem.W.lookIn name od).map (·.isSome)=some false;rw[hl,hv];rfl) h
theorem bq5(X:K.In s.heap) (I:ObjM s.heap x dx C mA)
  (hs:PySem.W.findIn K (.ref C) "__setattr__" = some (some (.builtin "object.__setattr__"))) (hp:PySem.W.plainOver K C=true) (ht:PySem.W.takerIn K C name=some none) (hh:PySem.W.hasDictIn K C=true)
  (hw:PySem.Within mA ns) (hsz:ns.length<=sizeLine)
  (h:∀h',ObjM h' x dx C (fun y=>if y=name then some v else mA y)->Heap.SameBut dx s.heap h'->Q () { s with heap:=h',toks:=s.toks+2 }) :
  wpAny (model prog w) A (setAttr (.ref x) name v) Q E s:=by
 obtain⟨od,J,hl⟩:=I.look
 refine PySem.W.set_plain X J hs (PySem.W.osa_open (s:={ s with toks:=s.toks+1 }) (r:=none) X J hp ht fun b=>?_)
 obtain⟨cd,hc,hd'⟩:=PySem.W.any_some hh
 have hx:s.heap.get? x=some ⟨.ref C,some dx,.plain,#[]⟩:=I.obj
 refine wpAny_bind (wpAny_pure (wpAny_bind (wpAny_bind (wpAny_loadPart hx (wpAny_bind (PySem.W.Looks.here (s:={ s with toks:=s.toks+1 }) (PySem.W.looks_clsIn X hc) ?_))))))
 rw[hd']
 refine wpAny_pure (a:=some dx) (wpAny_bind (wpAny_pure (wpAny_bind ?_)))
 refine wpAny_nsSet1 (s:={ s with toks:=s.toks+1 }) I.ns fun h' hn2 hs2=>?_
 obtain⟨oD,esD,epD,hoD,hdD,hcD⟩:=hn2.count (PySem.Within.cons name v hw)
 refine wpAny_bind (wpAny_lookBehind hoD (by rw[hdD];exact pastItsLine_dict (Nat.le_trans hcD (by rw[List.length_cons];omega))) ?_)
 exact wpAny_pure (h _ ⟨(hs2.2 _ (Ne.symm I.ne)).trans I.obj,hn2,I.ne⟩ hs2)
theorem be2(X:K.In s.heap) (hm:PySem.W.makesIn K C=true)
  (hi:PySem.W.findIn K (.ref C) "__init__" = some (some (.ref f))) (hf:PySem.W.typeIn K (.ref f)=some (.type "function"))
  (h:codeAny (model prog w) (A.under (.builtin "type.__call__" ⟨.ref C::vs,kw⟩)) (.call (.ref f) ⟨.ref (s.heap.objs.size+1)::vs,kw⟩) (PySem.W.InitBack (s.heap.objs.size+1) R)
   { s with heap:=(s.heap.push PySem.W.emptyDict).push (PySem.W.instObj C s.heap.objs.size) }) :
  codeAny (model prog w) A (.call (.ref C) ⟨vs,kw⟩) R s:=by
 obtain⟨hh,g,d,t,os⟩:=s
 exact PySem.W.make_core (PySem.W.makes_of X hm) (PySem.W.looks_findIn X hi) (fun self=>PySem.W.bind_fn X self hf) (.inl rfl) h
end
noncomputable def l5(f:Str) (v:V):List (Str×V)->List (Str×V)
 | []=>[(f,v)]
 | (g,x)::r=>if g=f then(g,v)::r else(g,x)::l5 f v r
theorem ae8(f g:Str) (v:V):∀fs:List (Str×V),(l5 f v fs).lookup g=if g=f then some v else fs.lookup g
 | []=>by
  show List.lookup g [(f,v)]=_
  by_cases h:g=f
  ·have hb:(g==f)=true:=beq_iff_eq.mpr h
   simp only[List.lookup,hb,if_pos h]
  ·have hb:(g==f)=false:=beq_eq_false_iff_ne.mpr h
   simp only[List.lookup,hb,if_neg h]
 | (k,x)::r=>by
  have ih:=ae8 f g v r
  rw[show l5 f v ((k,x)::r)=(if k=f then(k,v)::r else(k,x)::l5 f v r) from rfl]
  by_cases hk:k=f
  ·rw[if_pos hk]
   by_cases h:g=k
   ·have hb:(g==k)=true:=beq_iff_eq.mpr h
    simp only[List.lookup,hb,if_pos (h.trans hk)]
   ·have hb:(g==k)=false:=beq_eq_false_iff_ne.mpr h
    simp only[List.lookup,hb,if_neg (fun e:g=f=>h (e.trans hk.symm))]
  ·rw[if_neg hk]
   by_cases h:g=k
   ·have hb:(g==k)=true:=beq_iff_eq.mpr h
    simp only[List.lookup,hb,if_neg (fun e:g=f=>hk (h.symm.trans e))]
   ·have hb:(g==k)=false:=beq_eq_false_iff_ne.mpr h
    simp only[List.lookup,hb]
    exact ih
theorem ad3(f:Str) (v:V):∀fs:List (Str×V),f∈(l5 f v fs).map (·.1)/\∀g,g∈fs.map (·.1)->g∈(l5 f v fs).map (·.1)
 | []=>⟨by simp[l5],fun g h=>by simp at h⟩
 | (k,x)::r=>by
  obtain⟨i1,i2⟩:=ad3 f v r
  rw[show l5 f v ((k,x)::r)=(if k=f then(k,v)::r else(k,x)::l5 f v r) from rfl]
  by_cases hk:k=f
  ·rw[if_pos hk]
   subst hk
   exact⟨by simp,fun g h=>by simpa using h⟩
  ·rw[if_neg hk]
   refine⟨?_,fun g h=>?_⟩
   ·rw[List.map_cons]
    exact List.mem_cons_of_mem _ i1
   ·rw[List.map_cons]at h ⊢
    rcases List.mem_cons.mp h with e|e
    ·exact List.mem_cons.mpr (.inl e)
    ·exact List.mem_cons_of_mem _ (i2 g e)
theorem af0(f:Str) (v:V):∀fs:List (Str×V),(l5 f v fs).length<=fs.length+1
 | []=>by simp[l5]
 | (k,x)::r=>by
  have ih:=af0 f v r
  rw[show l5 f v ((k,x)::r)=(if k=f then(k,v)::r else(k,x)::l5 f v r) from rfl]
  by_cases hk:k=f
  ·rw[if_pos hk,List.length_cons,List.length_cons];omega
  ·rw[if_neg hk,List.length_cons,List.length_cons];omega
theorem Z0.some_of(r:Z0 (some v) o):∃u,o=some u/\C5 v u:=by
 cases o with
 | none=>exact(show False from r).elim
 | some u=>exact⟨u,rfl,r⟩
theorem Z0.none_of(r:Z0 none o):o=none:=by
 cases o with
 | none=>rfl
 | some u=>exact(show False from r).elim
theorem aT0(r:C5 v u):PySem.W.handedIn u=true:=by
 cases v with
 | non=>cases(show u=Value.none from r);rfl
 | bl b=>cases(show u=Value.bool b from r);rfl
 | int i=>obtain⟨t,e⟩:=(show ∃t,u=Value.int i t from r);cases e;rfl
 | str x=>obtain⟨t,e⟩:=(show ∃t,u=Value.str x t from r);cases e;rfl
 | byt b=>obtain⟨t,e⟩:=(show ∃t,u=Value.bytes b t from r);cases e;rfl
 | flt b=>obtain⟨t,e⟩:=(show ∃t,u=Value.float b t from r);cases e;rfl
 | ref a=>cases(show u=Value.ref a from r);rfl
 | ty n=>cases(show u=Value.type n from r);rfl
section
variable {P:Program}{w:World}{H H':Hp}{h h':Heap}{a C dx:Addr}{fs fs':List (Str×V)}
theorem at3(hok:HOk P w H h) (e:H a=some (.ins C dx fs)):∃mA,ObjM h a dx C mA/\(∀f,Z0 (fs.lookup f) (mA f))/\PySem.Within mA (fs.map (·.1))/\fs.length<=1000/\H dx=some (.own a):=by
 obtain⟨d,z,ne,ob,mA,n,r,q⟩:=(show O8 P w H h a (.ins C dx fs) from hok a _ e)
 exact⟨mA,⟨ob,n,ne⟩,r,q,z,d⟩
end
structure Cls (K:PySem.W.Frag) (C:Addr):Prop where
 pg:PySem.W.plainGet K C Str.empty=true
 hd:PySem.W.hasDictIn K C=true
 po:PySem.W.plainOver K C=true
 sa:PySem.W.findIn K (.ref C) "__setattr__" = some (some (.builtin "object.__setattr__"))
theorem Cls.get{K:PySem.W.Frag}{C:Addr}(c:Cls K C) (f:Str):PySem.W.plainGet K C f=true:=c.pg
noncomputable def Z1(K:PySem.W.Frag) (C:Addr) (f:Str):Prop:=PySem.W.findIn K (.ref C) f=some none
theorem Z1.taker{K:PySem.W.Frag}{C:Addr}{f:Str}(n:Z1 K C f):PySem.W.takerIn K C f=some none:=by
 unfold PySem.W.takerIn
 rw[show PySem.W.findIn K (.ref C) f=some none from n]
 rfl
structure Meth (K:PySem.W.Frag) (C:Addr) (m:Str) (f:Addr):Prop where
 at_:PySem.W.findIn K (.ref C) m=some (some (.ref f))
 fn:PySem.W.isFn K (.ref f)=true
 kp:PySem.W.keepIn K (.ref f)=true
section
variable {X:Cx}{pins:List (Addr×Obj)}{σ:St}{H:Hp}{s:Shared}{a C dx:Addr}{fs:List (Str×V)}{f:Str}{v:V}{A:Around}{E:Value->Shared->Prop}
theorem aF8(I:Inv X pins σ H s) (e:H a=some (.ins C dx fs)) (c:Cls X.K C) (n:Z1 X.K C f) (l:fs.lookup f=some v)
  (h:∀u s',Inv X pins σ H s'->C5 v u->Q u s'):wpAny (model X.prog X.w) A (getAttr (.ref a) f b) Q E s:=by
 obtain⟨mA,O,r,_,_,_⟩:=at3 I.hok e
 obtain⟨u,hu,ru⟩:=Z0.some_of (v:=v) (o:=mA f) (by rw[← l];exact r f)
 exact by3 I.kIn O (c.get f) c.hd n hu (aT0 ru) (h u _ (I.tok _) ru)
theorem t8(I:Inv X pins σ H s) (e:H a=some (.ins C dx fs)) (c:Cls X.K C) (k:Meth X.K C m g) (l:fs.lookup m=none)
  (h:Q (.ref g,[.ref a]) s):wpAny (model X.prog X.w) A (getMethod (.ref a) m pl) Q E s:=by
 obtain⟨mA,O,r,_,_,_⟩:=at3 I.hok e
 have hn:mA m=none:=Z0.none_of (by rw[← l];exact r m)
 exact bi1 I.kIn O (c.get m) k.at_ k.fn hn h
theorem aD5(I:Inv X pins σ H s) (e:H a=some (.ins C dx fs)) (c:Cls X.K C) (n:Z1 X.K C f) (hl:fs.length < 1000) (ry:C5 y u)
  (h:∀s',Inv X pins σ (upd H a (.ins C dx (l5 f y fs))) s'->Q () s'):wpAny (model X.prog X.w) A (setAttr (.ref a) f u) Q E s:=by
 obtain⟨mA,O,r,wi,_,ho⟩:=at3 I.hok e
 have hz:(fs.map (·.1)).length<=sizeLine:=by rw[List.length_map,sizeLine_eq];omega
 refine bq5 I.kIn O c.sa c.po n.taker c.hd wi hz fun h' O' sb=>h _ ?_
 have hd:∃o,h'.get? dx=some o:=let⟨o,_,_,e',_⟩:=O'.ns;⟨o,e'⟩
 refine I.write (x:=a) (e:=dx) (by rw[e];exact True.intro) (.inr ho) (fun b q hb z=>(sb.2 b hb).trans z) hd ?_
 refine⟨by rw[A4 O.ne];exact ho,?_,O.ne,O'.obj,_,O'.ns,fun g=>?_,fun g hg=>?_⟩
 ·have:=af0 f y fs;omega
 ·show Z0 ((l5 f y fs).lookup g) (if g=f then some u else mA g)
  rw[ae8]
  by_cases q:g=f
  ·rw[if_pos q,if_pos q];exact ry
  ·rw[if_neg q,if_neg q];exact r g
 ·by_cases q:g=f
  ·rw[q];exact(ad3 f y fs).1
  ·refine(ad3 f y fs).2 g (wi g fun z=>hg ?_)
   show(if g=f then some u else mA g)=none
   rw[if_neg q];exact z
theorem Inv.made(I:Inv X pins σ H s):Inv X pins σ (upd (upd H s.heap.objs.size (.own (s.heap.objs.size+1))) (s.heap.objs.size+1) (.ins C s.heap.objs.size []))
  { s with heap:=(s.heap.push PySem.W.emptyDict).push (PySem.W.instObj C s.heap.objs.size) }:=by
 have e1:(s.heap.push PySem.W.emptyDict).get? s.heap.objs.size=some PySem.W.emptyDict:=Heap.get?_push_size s.heap rfl
 have e2:((s.heap.push PySem.W.emptyDict).push (PySem.W.instObj C s.heap.objs.size)).get? (s.heap.objs.size+1)=some (PySem.W.instObj C s.heap.objs.size):=by
  have:=Heap.get?_push_size (s.heap.push PySem.W.emptyDict) (o:=PySem.W.instObj C s.heap.objs.size) rfl
  rwa [Heap.size_push]at this
 have e3:(s.heap.push PySem.W.emptyDict).Ns s.heap.objs.size (fun _=>none):=⟨PySem.W.emptyDict,#[],_,e1,rfl,(fun e he=>absurd he (by simp)),fun _=>rfl⟩
 have I1:=I.laid (a:=s.heap.objs.size) (o:=.own (s.heap.objs.size+1)) (h':=s.heap.push PySem.W.emptyDict) (t':=s.toks) (fun b u q=>Heap.get?_push_of_some _ q) (Nat.le_refl _) ⟨_,e1⟩
 refine I1.laid (a:=s.heap.objs.size+1) (o:=.ins C s.heap.objs.size []) (t':=s.toks) (fun b u q=>Heap.get?_push_of_some _ q) (Nat.le_of_eq (Heap.size_push _ _)) ?_
 have ne:s.heap.objs.size≠s.heap.objs.size+1:=Nat.ne_of_lt (Nat.lt_succ_self _)
 refine⟨by rw[A4 ne,A3],Nat.zero_le _,ne,e2,fun _=>none,(Heap.Ns1.of_empty e3).at fun o q=>Heap.get?_push_of_some _ q,fun _=>True.intro,fun y hy=>absurd rfl hy⟩
theorem bA8(hb:attributeBase e f env (eval e env)=eval e env)
  (h:wpAny (model prog w) A (eval e env) (fun o s₁=>wpAny (model prog w) A (getAttr o f true) Q E s₁) E s):wpAny (model prog w) A (eval (.Attribute e f pos) env) Q E s :=
 Attribute_any_ h (by rw[arm_eval_Attribute,hb])
end
noncomputable def ck6(K:PySem.W.Frag) (ta:TE) (f:Str):TE:=fun σ H Q=>ta σ H fun x H1=>∃a C dx fs v,x=.ref a/\H1 a=some (.ins C dx fs)/\Cls K C/\Z1 K C f/\fs.lookup f=some v/\Q v H1
noncomputable def cl1(K:PySem.W.Frag) (ta tv:TE) (f:Str):TS:=fun D σ H=>tv σ H fun y H1=>ta σ H1 fun x H2=>∃a C dx fs,x=.ref a/\H2 a=some (.ins C dx fs)/\Cls K C/\Z1 K C f/\fs.length < 1000 /\
 D.nx σ (upd H2 a (.ins C dx (l5 f y fs)))
section
variable {X:Cx}{o e value:Expr}{f:Str}{pos pos' tpos:Pos}{ta tv:TE}
theorem ba8(he:PE X e ta) (hb:attributeBase e f X.env (eval e X.env)=eval e X.env):PE X (.Attribute e f pos) (ck6 X.K ta f):=by
 intro pins s σ H Q I h
 refine bA8 hb (thn (he pins s σ H _ I h) fun u s1 ⟨x,H1,I1,rx,a,C,dx,fs,v,ex,ea,c,n,l,q⟩=>?_)
 subst ex
 obtain rfl:u=Value.ref a:=rx
 exact aF8 I1 ea c n l fun u' s2 I2 ru=>⟨v,H1,I2,ru,q⟩
theorem m9(ha:PE X o ta) (hv:PE X value tv) (hs:swapsWith value (some (.Attribute o f pos')) pos.line X.env=pure false):PS X (.Assign [.Attribute o f pos'] value pos) (cl1 X.K ta tv f):=by
 intro pins s σ H D I h
 refine plainObj_wpAny_Assign_Attribute (thn (hv pins s σ H _ I h) fun u s1 ⟨y,H1,I1,ry,q⟩=>thn (ha pins s1 σ H1 _ I1 q) fun ov s2 ⟨x,H2,I2,rx,a,C,dx,fs,ex,ea,c,n,l,q2⟩=>?_) hs
 subst ex
 obtain rfl:ov=Value.ref a:=rx
 exact aD5 I2 ea c n l ry fun s3 I3=>⟨σ,_,I3,q2⟩
theorem bD1(he:PE X e te) (I:Inv X pins σ H s)
  (h:te σ H fun x H1=>∃a C dx fs g,x=.ref a/\H1 a=some (.ins C dx fs)/\Cls X.K C/\Meth X.K C m g/\fs.lookup m=none /\
   ∀s1,Inv X pins σ H1 s1->wpAny (model X.prog X.w) X.A (callWith pos (.ref g) [.ref a] (backTo pos (starEach args X.env)) (backToKw pos (keywordEach [] X.env))) Q X.xe s1)
  (ht:eval (.Call (.Attribute e m apos) args [] pos) X.env=(do
   let ov ← eval e X.env
   standAt apos.atName
   let(f,first) ← holding [ov] (getMethod ov m pl)
   callWith pos f first (backTo pos (starEach args X.env)) (backToKw pos (keywordEach [] X.env)))) :
  wpAny (model X.prog X.w) X.A (eval (.Call (.Attribute e m apos) args [] pos) X.env) Q X.xe s:=by
 refine PySem.W.methodCall_KW (pl:=pl) (thn (he pins s σ H _ I h) fun u s1 ⟨x,H1,I1,rx,a,C,dx,fs,g,ex,ea,c,k,l,q⟩=>?_) ht
 subst ex
 obtain rfl:u=Value.ref a:=rx
 exact t8 I1 ea c k l (q s1 I1)
end
section
variable {X:Cx}{pins:List (Addr×Obj)}{σ:St}{H:Hp}{s:Shared}{A:Around}{E:Value->Shared->Prop}{Q:Value->Shared->Prop}{c:Value}{b:Bool}
end
end L2
namespace L2
open PySem PySem.Spec PyProof.Rows
structure Room (k:Nat) (A:Around):Prop where
 hd:A.handled=none
 dp:A.depth+3*k+5 < recursionLimit
 un:A.units+16*k+200 < cLine
theorem Room.mono(r:Room k A) (h:j<=k):Room j A:=⟨r.hd,by have:=r.dp;omega,by have:=r.un;omega⟩
theorem Room.deeper(r:Room (k+1) A) (env:Env):Room k (A.deeper env) :=
 ⟨r.hd,by have:=r.dp;show A.depth+1+3*k+5 < _;omega,by have:=r.un;show A.units+3+16*k+200 < _;omega⟩
theorem aE8{A:Around}{C:Addr}{us:List Value}{kw:List (Str×Value)}:(A.under (.builtin "type.__call__" ⟨.ref C::us,kw⟩)).depth=A.depth+1:=by
 first|rfl|simp[Around.under,Code.weight,Code.isCreation,Code.isGuard,Code.isCaller,Code.frames,Code.isFrame,guardIds]
theorem aE7{A:Around}{C:Addr}{us:List Value}{kw:List (Str×Value)}:(A.under (.builtin "type.__call__" ⟨.ref C::us,kw⟩)).units=A.units+1:=by
 first|rfl|simp[Around.under,Code.cUnits,Code.frames,Code.isFrame]
theorem Room.make(r:Room (k+1) A) (C:Addr) (us:List Value) (kw:List (Str×Value)):Room k (A.under (.builtin "type.__call__" ⟨.ref C::us,kw⟩)) :=
 ⟨r.hd,by have:=r.dp;rw[aE8];omega,by have:=r.un;rw[aE7];omega⟩
theorem Room.depth(r:Room k A):A.depth < recursionLimit:=by have:=r.dp;omega
theorem Room.units(r:Room k A):A.units+64 < cLine:=by have:=r.un;omega
noncomputable def bp2:TA:=fun _ H Q=>Q [] H
noncomputable def ca6(ta:TE) (tr:TA):TA:=fun σ H Q=>ta σ H fun x H1=>tr σ H1 fun xs H2=>Q (x::xs) H2
section
variable {X:Cx}{e:Expr}{es:List Expr}{te:TE}{t:TA}{pos:Pos}
theorem F6:PA X [] bp2:=fun _ _ _ _ H Q I h=>Calls.spliced_nil ⟨[],H,I,.nil,h⟩
theorem B8(ha:PE X e te) (hr:PA X es t) (hs:starEach (e::es) X.env=(false,eval e X.env)::starEach es X.env:=by rfl):PA X (e::es) (ca6 te t):=by
 intro pos pins s σ H Q I h
 rw[hs]
 show wpAny _ _ (spliced ((false,eval e X.env)::backTo pos (starEach es X.env))) _ _ s
 refine Calls.spliced_cons (thn (ha pins s σ H _ I h) fun u s1 ⟨x,H1,I1,r1,q1⟩=>?_)
 exact thn (hr pos pins s1 σ H1 _ I1 q1) fun us s2 ⟨xs,H2,I2,r2,q2⟩=>⟨x::xs,H2,I2,.cons r1 r2,q2⟩
noncomputable def cj7(t:TA):TE:=fun σ H Q=>t σ H fun xs H1=>xs.length<=sizeLine/\∀p,H1 p=none->Q (.ref p) (upd H1 p (.tup xs))
noncomputable def ck3(t:TA):TE:=fun σ H Q=>t σ H fun xs H1=>xs.length<=sizeLine/\∀p,H1 p=none->Q (.ref p) (upd H1 p (.lst xs))
theorem aE4{x1} (h:PA X es t):PE X (.Tuple es x1 pos) (cj7 t):=by
 intro pins s σ H Q I hq
 refine wpAny_Tuple_spliced (thn (h pos pins s σ H _ I hq) fun us s1 ⟨xs,H1,I1,r,z,q⟩=>⟨by rw[← r.length];exact z,?_⟩)
 have hf:H1 s1.heap.objs.size=none:=I1.hok.fresh (Nat.le_refl _)
 refine⟨.ref s1.heap.objs.size,upd H1 s1.heap.objs.size (.tup xs),I1.laid (t':=s1.toks) (fun b u e=>Heap.get?_push_of_some _ e) (Nat.le_refl _) ?_,rfl,q _ hf⟩
 exact⟨z,us,r,⟨_,Heap.get?_push_size _ rfl,rfl,⟨_,rfl⟩,rfl⟩⟩
theorem ak0(h:PA X es t):PE X (.List es pos) (ck3 t):=by
 intro pins s σ H Q I hq
 refine wpAny_List_spliced (thn (h pos pins s σ H _ I hq) fun us s1 ⟨xs,H1,I1,r,z,q⟩=>⟨by rw[← r.length];exact z,?_⟩)
 have hf:H1 s1.heap.objs.size=none:=I1.hok.fresh (Nat.le_refl _)
 refine⟨.ref s1.heap.objs.size,upd H1 s1.heap.objs.size (.lst xs),I1.laid (t':=s1.toks) (fun b u e=>Heap.get?_push_of_some _ e) (Nat.le_refl _) ?_,rfl,q _ hf⟩
 exact⟨z,us,0,r,Heap.get?_push_size _ rfl⟩
end
noncomputable abbrev Sp:=List V->Hp->VK->XK->Prop
noncomputable abbrev CXT:=List Env->Hp->Shared->XK->Value->Shared->Prop
structure Env0 (P:Program) (w:World) (K:PySem.W.Frag) (mg:Str->Option Value) (base:Heap) (A:Around) (outer:List Env) (s:Shared) (H:Hp):Prop where
 frames:A.frames=some outer
 mod:Mod K mg base
 bs:∀b o,base.get? b=some o->s.heap.get? b=some o/\H b=none
 bsz:base.objs.size<=s.heap.objs.size
 funs:s.heap.FunFrames base outer
 frf:∀b∈frs outer,H b=none
 hok:HOk P w H s.heap
 bare:AllBare s.gens
noncomputable def CE(outer:List Env) (P:Program) (w:World) (H:Hp) (s:Shared) (Q:VK) (u:Value) (s':Shared):Prop :=
 ∃v H',s'.os=s.os/\AllBare s'.gens/\Un (frs outer) [] H H' s.heap s'.heap/\HOk P w H' s'.heap/\C5 v u/\Q v H'
noncomputable def CR(CX:CXT) (outer:List Env) (P:Program) (w:World) (H:Hp) (s:Shared) (Q:VK) (E:XK) (r:Result) (s':Shared):Prop :=
 match r with
 | .ok (.ret u)=>CE outer P w H s Q u s'
 | .ok _=>False
 | .error e=>CX outer H s E e s'
structure FnOk (P:Program) (w:World) (K:PySem.W.Frag) (mg:Str->Option Value) (base:Heap) (CX:CXT) (k:Nat) (f:Addr) (fd:FuncData) (ps:List Str) (sp:Sp):Prop where
 len:∀vs H Q E,sp vs H Q E->vs.length=ps.length
 run:∀(A:Around) (outer:List Env) (s:Shared) (H:Hp) (args:Args) (us:List Value) (vs:List V) (Q:VK) (E:XK),Room k A->Env0 P w K mg base A outer s H->BindsTo s fd args (ps.zip us)->C1 vs us->sp vs H Q E ->
  codeAny (model P w) A (.call (.ref f) args) (CR CX outer P w H s Q E) s
theorem FnOk.mono{P:Program}{w:World}{K:PySem.W.Frag}{mg:Str->Option Value}{base:Heap}{CX:CXT}{j k:Nat}{f:Addr}{fd:FuncData}{ps:List Str}{sp:Sp}(F:FnOk P w K mg base CX j f fd ps sp) (h:j<=k) :
  FnOk P w K mg base CX k f fd ps sp:=⟨F.len,fun A outer s H args us vs Q E hr=>F.run A outer s H args us vs Q E (hr.mono h)⟩
theorem FnOk.imp{P:Program}{w:World}{K:PySem.W.Frag}{mg:Str->Option Value}{base:Heap}{CX:CXT}{k:Nat}{f:Addr}{fd:FuncData}{ps:List Str}{sp sp':Sp}(F:FnOk P w K mg base CX k f fd ps sp)
  (h:∀vs H Q E,sp' vs H Q E->sp vs H Q E):FnOk P w K mg base CX k f fd ps sp' :=
 ⟨fun vs H Q E q=>F.len vs H Q E (h _ _ _ _ q),fun A outer s H args us vs Q E hr he hb hv hs=>F.run A outer s H args us vs Q E hr he hb hv (h _ _ _ _ hs)⟩
theorem Env0.make{P:Program}{w:World}{K:PySem.W.Frag}{mg:Str->Option Value}{base:Heap}{A:Around}{outer:List Env}{s:Shared}{H:Hp}(e:Env0 P w K mg base A outer s H) (C:Addr) (us:List Value) (kw:List (Str×Value)) :
  Env0 P w K mg base (A.under (.builtin "type.__call__" ⟨.ref C::us,kw⟩)) outer s H:=⟨by first|exact e.frames|(simpa [Around.under,Code.envs,Code.isFrame,pushEnvs] using e.frames),e.mod,e.bs,e.bsz,e.funs,e.frf,e.hok,e.bare⟩
section
variable {X:Cx}{pins:List (Addr×Obj)}{σ:St}{H:Hp}{s s':Shared}
theorem Inv.env0(I:Inv X pins σ H s):Env0 X.prog X.w X.K X.mg X.base X.A X.stack s H :=
 ⟨I.ok.frames,I.ok.mod,I.bs,Nat.le_trans I.ok.bsz I.sz,I.stack,I.stkFree,I.hok,I.bare⟩
theorem Inv.after(I:Inv X pins σ H s) (h:CE X.stack X.prog X.w H s Q u s'):EP X pins σ Q u s':=by
 obtain⟨v,H',os,bare,un,hok,r,q⟩:=h
 obtain⟨hh,g,d,t,os'⟩:=s'
 obtain rfl:os'=s.os:=os
 exact⟨v,H',I.call (h':=hh) (g':=g) (d':=d) (t':=t) (ch:=[]) un hok bare (fun b z=>absurd z (by simp)),r,q⟩
end
noncomputable def bB9(sp:Sp) (dvs:List V) (E:XK) (t:TA):TE:=fun σ H Q=>t σ H fun vs H1=>sp (vs++dvs) H1 Q E
noncomputable def bB8(C:Addr) (m:Str) (sp:Sp) (dvs:List V) (E:XK) (ta:TE) (t:TA):TE:=fun σ H Q=>ta σ H fun x H1=>∃a dx fs,x=.ref a/\H1 a=some (.ins C dx fs)/\fs.lookup m=none /\
 t σ H1 fun vs H2=>sp (x::(vs++dvs)) H2 Q E
noncomputable def ca2(C:Addr) (sp:Sp) (dvs:List V) (E:XK) (t:TA):TE:=fun σ H Q=>t σ H fun vs H1=>∀x dx,H1 x=none->H1 dx=none->dx≠x ->
 sp (.ref x::(vs++dvs)) (upd (upd H1 dx (.own x)) x (.ins C dx [])) (fun v H2=>v=.non/\Q (.ref x) H2) E
noncomputable def N7(K:PySem.W.Frag) (fd:FuncData) (ps:List Str) (ds:List Value):Prop :=
 ∀(s:Shared) (us:List Value),K.In s.heap->(us++ds).length=ps.length->BindsTo s fd ⟨us,[]⟩ (ps.zip (us++ds))
theorem N7.all{K:PySem.W.Frag}{fd:FuncData}{ps:List Str}(h:∀us:List Value,us.length=ps.length->bindArgs fd ⟨us,[]⟩=pure (ps.zip us)):N7 K fd ps []:=fun s us _ hl=>by
 rw[List.append_nil]at hl ⊢
 exact .of_eq (h us hl)
noncomputable def i8(CX:CXT) (X:Cx) (E:XK):Prop:=∀(pins:List (Addr×Obj)) (σ:St) (H:Hp) (s:Shared) (e:Value) (s':Shared),Inv X pins σ H s->CX X.stack H s E e s'->X.xe e s'
section
variable {X:Cx}{CX:CXT}{k:Nat}{f C:Addr}{fd:FuncData}{ps:List Str}{sp:Sp}{dvs:List V}{ds:List Value}{E:XK}{x m:Str}{p pos apos:Pos}{e o:Expr}{es:List Expr}{ta:TE}{t:TA}
theorem aq9(F:FnOk X.prog X.w X.K X.mg X.base CX k f fd ps sp) (hr:Room k X.A) (hb:N7 X.K fd ps ds) (hd:C1 dvs ds) (hx:i8 CX X E)
  (I:Inv X pins σ H s) (r:C1 vs us) (h:sp (vs++dvs) H Q E):wpAny (model X.prog X.w) X.A (call (.ref f) us) (EP X pins σ Q) X.xe s:=by
 have r2:C1 (vs++dvs) (us++ds):=r.append hd
 have hl:(us++ds).length=ps.length:=by rw[← r2.length];exact F.len _ _ _ _ h
 refine wpAny_call (codeAny_mono (F.run X.A X.stack s H ⟨us,[]⟩ (us++ds) (vs++dvs) Q E hr I.env0 (hb s us I.kIn hl) r2 h) fun r s' hq=>?_)
 cases r with
 | error e=>exact hx pins σ H s e s' I hq
 | ok fl =>
  cases fl with
  | ret u=>exact I.after hq
  | next=>exact False.elim hq
  | brk=>exact False.elim hq
  | cont=>exact False.elim hq
theorem ar7(F:FnOk X.prog X.w X.K X.mg X.base CX k f fd ps sp) (hr:Room k X.A) (hg:Gl X x) (hm:X.mg x=some (.ref f)) (hk:PySem.W.keepIn X.K (.ref f)=true) (hb:N7 X.K fd ps ds) (hd:C1 dvs ds) (hx:i8 CX X E)
  (ha:PA X (e::es) t) (hdb:(x==("__debug__" : Str))=false:=by decide) (he:starEach (e::es) X.env=(false,eval e X.env)::starEach es X.env:=by rfl) (hpl:(backTo pos (starEach es X.env)).any (·.1)=false:=by rfl) :
  PE X (.Call (.Name x p) (e::es) [] pos) (bB9 sp dvs E t):=by
 intro pins s σ H Q I h
 refine wpAny_Call_Name_kw (ah5 I hg hm ?_ hdb)
 refine PySem.W.callWith_K (h₀:=X.base) I.ok.mod.kin hk (thn (ha pos pins s σ H _ I h) fun us s1 ⟨vs,H1,I1,r,q⟩=>⟨I1.kIn,?_⟩) he hpl
 exact aq9 F hr hb hd hx I1 r q
theorem bb2(F:FnOk X.prog X.w X.K X.mg X.base CX k f fd ps sp) (hr:Room k X.A) (hg:Gl X x) (hm:X.mg x=some (.ref f)) (hk:PySem.W.keepIn X.K (.ref f)=true) (hb:N7 X.K fd ps ds) (hd:C1 dvs ds) (hx:i8 CX X E)
  (hdb:(x==("__debug__" : Str))=false:=by decide):PE X (.Call (.Name x p) [] [] pos) (bB9 sp dvs E bp2):=by
 intro pins s σ H Q I h
 refine wpAny_Call_Name_kw (ah5 I hg hm ?_ hdb)
 exact PySem.W.callWith_K0 I.kIn hk (aq9 (us:=[]) F hr hb hd hx I .nil h)
theorem bs7(he:PE X o ta) (c:Cls X.K C) (hm:Meth X.K C m f) (F:FnOk X.prog X.w X.K X.mg X.base CX k f fd ps sp) (hr:Room k X.A) (hb:N7 X.K fd ps ds) (hd:C1 dvs ds) (hx:i8 CX X E) (ha:PA X (e::es) t)
  (hst:starEach (e::es) X.env=(false,eval e X.env)::starEach es X.env:=by rfl) (hpl:(backTo pos (starEach es X.env)).any (·.1)=false:=by rfl)
  (ht:eval (.Call (.Attribute o m apos) (e::es) [] pos) X.env=(do
   let ov ← eval o X.env
   standAt apos.atName
   let(f,first) ← holding [ov] (getMethod ov m pl)
   callWith pos f first (backTo pos (starEach (e::es) X.env)) (backToKw pos (keywordEach [] X.env))):=by rfl) :
  PE X (.Call (.Attribute o m apos) (e::es) [] pos) (bB8 C m sp dvs E ta t):=by
 intro pins s σ H Q I h
 refine PySem.W.methodCall_KW (pl:=pl) (thn (he pins s σ H _ I h) fun u s1 ⟨x,H1,I1,rx,a,dx,fs,ex,ea,l,q⟩=>?_) ht
 subst ex
 obtain rfl:u=Value.ref a:=rx
 refine t8 I1 ea c hm l ?_
 refine PySem.W.callWith_K (first:=[.ref a]) (h₀:=X.base) I.ok.mod.kin hm.kp (thn (ha pos pins s1 σ H1 _ I1 q) fun us s2 ⟨vs,H2,I2,r,q2⟩=>⟨I2.kIn,?_⟩) hst hpl
 exact aq9 (us:=.ref a::us) (vs:=.ref a::vs) F hr hb hd hx I2 (.cons rfl r) q2
theorem aj9(he:PE X o ta) (c:Cls X.K C) (hm:Meth X.K C m f) (F:FnOk X.prog X.w X.K X.mg X.base CX k f fd ps sp) (hr:Room k X.A) (hb:N7 X.K fd ps ds) (hd:C1 dvs ds) (hx:i8 CX X E)
  (ht:eval (.Call (.Attribute o m apos) [] [] pos) X.env=(do
   let ov ← eval o X.env
   standAt apos.atName
   let(f,first) ← holding [ov] (getMethod ov m pl)
   callWith pos f first (backTo pos (starEach [] X.env)) (backToKw pos (keywordEach [] X.env))):=by rfl) :
  PE X (.Call (.Attribute o m apos) [] [] pos) (bB8 C m sp dvs E ta bp2):=by
 intro pins s σ H Q I h
 refine PySem.W.methodCall_KW (pl:=pl) (thn (he pins s σ H _ I h) fun u s1 ⟨x,H1,I1,rx,a,dx,fs,ex,ea,l,q⟩=>?_) ht
 subst ex
 obtain rfl:u=Value.ref a:=rx
 refine t8 I1 ea c hm l ?_
 exact PySem.W.callWith_K0 (first:=[.ref a]) I1.kIn hm.kp (aq9 (us:=[.ref a]) (vs:=[.ref a]) F hr hb hd hx I1 (.cons rfl .nil) q)
structure Mk (K:PySem.W.Frag) (C f:Addr):Prop where
 makes:PySem.W.makesIn K C=true
 init:PySem.W.findIn K (.ref C) "__init__" = some (some (.ref f))
 fn:PySem.W.isFn K (.ref f)=true
 kp:PySem.W.keepIn K (.ref C)=true
theorem aY6(M:Mk X.K C f) (F:FnOk X.prog X.w X.K X.mg X.base CX k f fd ps sp) (hr:Room (k+1) X.A) (hb:N7 X.K fd ps ds) (hd:C1 dvs ds)
  (hx:i8 CX X E) (I:Inv X pins σ H s) (r:C1 vs us)
  (h:∀x dx,H x=none->H dx=none->dx≠x->sp (.ref x::(vs++dvs)) (upd (upd H dx (.own x)) x (.ins C dx [])) (fun v H2=>v=.non/\Q (.ref x) H2) E) :
  wpAny (model X.prog X.w) X.A (call (.ref C) us) (EP X pins σ Q) X.xe s:=by
 have hq:=h (s.heap.objs.size+1) s.heap.objs.size (I.hok.fresh (Nat.le_succ _)) (I.hok.fresh (Nat.le_refl _)) (Nat.ne_of_lt (Nat.lt_succ_self _))
 have I2:=Inv.made (C:=C) I
 have r2:C1 (V.ref (s.heap.objs.size+1)::(vs++dvs)) (Value.ref (s.heap.objs.size+1)::(us++ds)):=.cons rfl (r.append hd)
 have hl:(Value.ref (s.heap.objs.size+1)::us++ds).length=ps.length:=by
  have e:=r2.length
  rw[F.len _ _ _ _ hq]at e
  exact e.symm
 refine wpAny_call (be2 (f:=f) I.kIn M.makes M.init (beq_iff_eq.mp M.fn) (codeAny_mono (F.run _ X.stack _ _ ⟨Value.ref (s.heap.objs.size+1)::us,[]⟩ (Value.ref (s.heap.objs.size+1)::(us++ds)) _ _ E (hr.make C us [])
  (I2.env0.make C us []) (hb _ (Value.ref (s.heap.objs.size+1)::us) I2.kIn hl) r2 hq) fun r s' hq'=>?_))
 cases r with
 | error e=>exact hx pins σ _ _ e s' I2 hq'
 | ok fl =>
  cases fl with
  | ret u =>
   obtain⟨v,H',I3,rv,ev,q3⟩:=I2.after hq'
   subst ev
   exact⟨rv,⟨V.ref (s.heap.objs.size+1),H',I3,rfl,q3⟩⟩
  | next=>exact False.elim hq'
  | brk=>exact False.elim hq'
  | cont=>exact False.elim hq'
theorem ba7(M:Mk X.K C f) (F:FnOk X.prog X.w X.K X.mg X.base CX k f fd ps sp) (hr:Room (k+1) X.A) (hg:Gl X x) (hm:X.mg x=some (.ref C)) (hb:N7 X.K fd ps ds) (hd:C1 dvs ds) (hx:i8 CX X E)
  (hdb:(x==("__debug__" : Str))=false:=by decide):PE X (.Call (.Name x p) [] [] pos) (ca2 C sp dvs E bp2):=by
 intro pins s σ H Q I h
 refine wpAny_Call_Name_kw (ah5 I hg hm ?_ hdb)
 exact PySem.W.callWith_K0 I.kIn M.kp (aY6 (us:=[]) M F hr hb hd hx I .nil h)
end
section
variable {X:Cx}{CX:CXT}{k:Nat}{f C:Addr}{fd:FuncData}{ps ks:List Str}{sp:Sp}{E:XK}{x m:Str}{p pos apos kpos:Pos}{e o:Expr}{es:List Expr}{kws:List Keyword}{te ta:TE}{t tk:TA}{nm:Option Str}
variable {g:List Value->List Value->List Value}{gV:List V->List V->List V}
end
structure FnScope (N P:List Str) (sc:Scope):Prop where
 kind:sc.kind=.function
 co:sc.isCoroutine=false
 gen:sc.isGenerator=false
 nd:N.Nodup
 pre:N.take P.length=P
 par:∀x∈P,sc.names.lookup x=some .local\/sc.names.lookup x=some .cell
 nofree:∀y∈sc.names,y.2≠.free
theorem ap3{kindOf:Str->Option NameKind}{x:Str}:∀{binds:List (Str×Value)}{m:Str->Option Value},(∀v,(x,v)∉binds)->bindL kindOf binds m x=m x
 | [],_,_=>rfl
 | (n,v)::r,m,h=>by
  unfold bindL
  rw[ap3 fun w hw=>h w (List.mem_cons_of_mem _ hw)]
  split
  ·have:x≠n:=by rintro rfl;exact h v List.mem_cons_self
   simp[this]
  ·rfl
theorem ap5{kindOf:Str->Option NameKind}{x:Str}:∀{binds:List (Str×Value)}{m:Str->Option Value},(∀v,(x,v)∉binds)->bindC kindOf binds m x=m x
 | [],_,_=>rfl
 | (n,v)::r,m,h=>by
  unfold bindC
  rw[ap5 fun w hw=>h w (List.mem_cons_of_mem _ hw)]
  split
  ·rfl
  ·have:x≠n:=by rintro rfl;exact h v List.mem_cons_self
   simp[this]
theorem ap4{kindOf:Str->Option NameKind}{x:Str}{v:Value}:∀{P:List Str}{vs:List Value}{i:Nat}{m:Str->Option Value},P.Nodup->P[i]? = some x->vs[i]? = some v->kindOf x=some .local ->
  bindL kindOf (P.zip vs) m x=some v
 | [],_,_,_,_,h,_,_=>by simp at h
 | _::_,[],_,_,_,_,h,_=>by simp at h
 | p::P,w::vs,0,m,nd,h1,h2,hk=>by
  simp at h1 h2;subst h1;subst h2
  show bindL kindOf ((p,w)::P.zip vs) m p=_
  unfold bindL
  rw[ap3 fun v hv=>(List.nodup_cons.mp nd).1 (List.of_mem_zip hv).1,if_pos hk]
  simp
 | p::P,w::vs,i+1,m,nd,h1,h2,hk=>by
  show bindL kindOf ((p,w)::P.zip vs) m x=_
  unfold bindL
  exact ap4 (i:=i) (List.nodup_cons.mp nd).2 (by simpa using h1) (by simpa using h2) hk
theorem ap6{kindOf:Str->Option NameKind}{x:Str}{v:Value}:∀{P:List Str}{vs:List Value}{i:Nat}{m:Str->Option Value},P.Nodup->P[i]? = some x->vs[i]? = some v->kindOf x≠some .local ->
  bindC kindOf (P.zip vs) m x=some v
 | [],_,_,_,_,h,_,_=>by simp at h
 | _::_,[],_,_,_,_,h,_=>by simp at h
 | p::P,w::vs,0,m,nd,h1,h2,hk=>by
  simp at h1 h2;subst h1;subst h2
  show bindC kindOf ((p,w)::P.zip vs) m p=_
  unfold bindC
  rw[ap5 fun v hv=>(List.nodup_cons.mp nd).1 (List.of_mem_zip hv).1,if_neg hk]
  simp
 | p::P,w::vs,i+1,m,nd,h1,h2,hk=>by
  show bindC kindOf ((p,w)::P.zip vs) m x=_
  unfold bindC
  exact ap6 (i:=i) (List.nodup_cons.mp nd).2 (by simpa using h1) (by simpa using h2) hk
noncomputable def start(N:List Str) (vs:List V):St:=vs.map some++List.replicate (N.length - vs.length) none
noncomputable def t9(CX:CXT) (P:Program) (w:World) (K:PySem.W.Frag) (mg:Str->Option Value) (base:Heap) (N:List Str) (qual:Str) (scope:Scope) (f:Addr) (cd:Value) (A:Around) (outer:List Env) (s:Shared) (H:Hp) (E:XK):Cx where
 prog:=P
 w:=w
 K:=K
 mg:=mg
 base:=base
 A:=A.deeper (envOfC qual scope s.heap.objs.size f cd)
 N:=N
 s₀:=s
 H₀:=H
 env:=envOfC qual scope s.heap.objs.size f cd
 outer:=outer
 stack:=envOfC qual scope s.heap.objs.size f cd::outer
 ex:=[]
 calm:=true
 fn:=fun _=>true
 pn:=[]
 xe:=fun e s'=>wpAny (model P w) (A.deeper (envOfC qual scope s.heap.objs.size f cd)) (leaving (envOfC qual scope s.heap.objs.size f cd) e) (fun _ s''=>CX outer H s E e s'') (fun e' s''=>CX outer H s E e' s'') s'
theorem aA9{sc:Scope}{n:Nat}{x:Str}(h:sc.names.lookup x=some .cell):∃c,(cellsFrom n sc.names []).lookup x=some c:=by
 have q:=PySem.W.cellsFrom_some sc.names n [] (.inl h)
 exact Option.isSome_iff_exists.mp q
theorem aS8{CX:CXT}{P:Program}{w:World}{K:PySem.W.Frag}{mg:Str->Option Value}{base:Heap}{N ps:List Str}{qual:Str}{scope:Scope}{f:Addr}{cd:Value}{A:Around}{outer:List Env}{s s1:Shared}{H:Hp}{E:XK}{us:List Value}{vs:List V}
  (S:FnScope N ps scope) (hd:A.handled=none) (e0:Env0 P w K mg base A outer s H) (hl:vs.length=ps.length) (r:C1 vs us)
  (x:InCallC s s.heap.objs.size (bindL (envOfC qual scope s.heap.objs.size f cd).kindOf (ps.zip us) fun _=>none) (cellsFrom (s.heap.objs.size+1) scope.names []) (bindC (envOfC qual scope s.heap.objs.size f cd).kindOf (ps.zip us) fun _=>none) s1) :
  Inv (t9 CX P w K mg base N qual scope f cd A outer s H E) [] (start N vs) H s1:=by
 have hpl:ps.length<=N.length:=by have:=congrArg List.length S.pre;rw[List.length_take]at this;omega
 obtain⟨h1,tk,rfl,hk⟩:=x.done
 have noA:∀b:Addr,b∉(t9 CX P w K mg base N qual scope f cd A outer s H E).ex:=fun b z=>absurd (show b∈([]:List Addr) from z) (by simp)
 refine⟨⟨e0.mod,S.kind,rfl,rfl,Nat.le_refl _,fun y z c h1 h2=>?_,fun y hy=>?_,fun y c _ h=>?_,fun _=>hd,Around.frames_deeper e0.frames,.inr ⟨rfl,rfl⟩,fun b z=>absurd z (noA b),e0.bs,e0.bsz,fun b _ _=>noA b,fun b z=>absurd z (noA b),e0.funs,e0.frf⟩,
  rfl,e0.bare,Un.kept hk,⟨_,x.toInCall.ns,fun i y v h1 h2 h3=>?_⟩,fun y c h=>⟨_,x.cell y c h⟩,e0.hok.fresh (Nat.le_refl _),fun y c h=>?_,fun p hp=>absurd (show p∈([]:List (Addr×Obj)) from hp) (by simp),e0.hok.kept hk,?_⟩
 ·exact name_of_addr x.apart (PySem.mem_of_lookup h1) (PySem.mem_of_lookup h2)
 ·have hy:scope.names.lookup y=some .cell\/scope.names.lookup y=some .free:=hy
  rcases hy with hy|hy
  ·exact aA9 hy
  ·exact absurd rfl (S.nofree _ (PySem.mem_of_lookup hy))
 ·exact Nat.le_of_lt (x.above y c (PySem.mem_of_lookup h))
 ·have hi:i < vs.length:=by
   unfold start at h2
   by_cases hi:i < vs.length
   ·exact hi
   ·rw[List.getElem?_append_right (by simpa using hi)]at h2
    rw[List.getElem?_replicate]at h2
    split at h2<;>cases h2
  have ha:vs[i]? = some v:=by
   unfold start at h2
   rw[List.getElem?_append_left (by simpa using hi),List.getElem?_map]at h2
   cases e:vs[i]? with
   | none=>rw[e]at h2;cases h2
   | some a=>rw[e]at h2;cases h2;rfl
  obtain⟨u,hu,rv⟩:=r.get ha
  have hp:ps[i]? = some y:=by
   rw[← S.pre,List.getElem?_take_of_lt (by omega)];exact h1
  have ndP:ps.Nodup:=by rw[← S.pre];exact S.nd.sublist (List.take_sublist _ _)
  refine⟨u,rv,?_⟩
  rcases S.par y (List.mem_of_getElem? hp) with k|k
  ·exact .inl ⟨k,ap4 ndP hp hu k⟩
  ·obtain⟨c,e⟩:=aA9 (n:=s.heap.objs.size+1) k
   refine .inr ⟨.inl k,c,e,?_⟩
   have q:=x.cell y c e
   rw[ap6 ndP hp hu (by show scope.names.lookup y≠_;rw[k];decide)]at q
   exact q
 ·exact e0.hok.fresh (Nat.le_of_lt (x.above y c (PySem.mem_of_lookup h)))
 ·unfold start
  show _=N.length
  rw[List.length_append,List.length_map,List.length_replicate]
  omega
theorem ch1{CX:CXT}{P:Program}{w:World}{K:PySem.W.Frag}{mg:Str->Option Value}{base:Heap}{k:Nat}{f:Addr}{name qual:Str}{params:Arguments}{body:List Stmt}{scope:Scope}{dV kV doc pm cdv ct oc:Value}{an od:Option Addr}
  {osl:Array (Option Value)}{N ps:List Str}{sp:Sp}(lk:K.lookup f=some ⟨oc,od,.func (PySem.W.fnOf name qual params body scope dV kV doc pm an cdv ct),osl⟩) (hcd:PySem.W.codeIn K cdv qual=true) (S:FnScope N ps scope)
  (len:∀vs H Q E,sp vs H Q E->vs.length=ps.length)
  (hbody:∀(A:Around) (outer:List Env) (s:Shared) (H:Hp) (vs:List V) (Q:VK) (E:XK),Room k (A.deeper (envOfC qual scope s.heap.objs.size f cdv))->sp vs H Q E ->
   ∃t,PSs (t9 CX P w K mg base N qual scope f cdv A outer s H E) body t/\t { nx:=fun _ H'=>Q .non H',rt:=Q } (start N vs) H) :
  FnOk P w K mg base CX (k+1) f (PySem.W.fnOf name qual params body scope dV kV doc pm an cdv ct) ps sp:=by
 refine⟨len,fun A outer s H args us vs Q E hr e0 hb r hsp=>?_⟩
 have hl:=len _ _ _ _ hsp
 have KX:K.In s.heap:=e0.mod.kin.keeps fun b o e=>(e0.bs b o e).1
 have lim:s.heap.NoLimit:=e0.mod.nolimit.keeps fun b o e=>(e0.bs b o e).1
 have hkind:∀y∈ps.zip us,scope.names.lookup y.1=some .local\/(scope.names.lookup y.1=some .cell/\((cellsFrom (s.heap.objs.size+1) scope.names []).lookup y.1).isSome=true):=fun⟨n,v⟩ hy=>by
  rcases S.par n (List.of_mem_zip hy).1 with q|q
  ·exact .inl q
  ·exact .inr ⟨q,PySem.W.cellsFrom_some _ _ _ (.inl q)⟩
 refine codeAny_call_function hr.depth (KX _ _ lk) rfl S.co S.gen rfl (PySem.W.codeRec_of KX hcd) (hb _ _ _ _ ?_)
 refine wpAny_newFunctionEnv_cells S.kind hkind fun env he s1 x=>?_
 subst he
 refine⟨lim.keeps x.toInCall.keep,codeAny_func ?_⟩
 obtain⟨t,ht,hq⟩:=hbody A outer s H vs Q E (hr.deeper _) hsp
 have I:Inv (t9 CX P w K mg base N qual scope f cdv A outer s H E) [] (start N vs) H s1:=aS8 S hr.hd e0 hl r x
 refine wpAny_mono (ht [] s1 (start N vs) H _ I hq) (fun fl s' hs=>?_) fun e s' hs=>hs
 have fin:∀{σ':St}{H':Hp}{v:V}{u:Value},Inv (t9 CX P w K mg base N qual scope f cdv A outer s H E) [] σ' H' s'->C5 v u->Q v H'->CE outer P w H s Q u s' :=
  fun{σ' H' v u} J rv q=>⟨v,H',J.os,J.bare,J.base,J.hok,rv,q⟩
 cases fl with
 | ret u =>
  obtain⟨v,σ',H',J,rv,q⟩:=hs
  exact fin J rv q
 | next =>
  obtain⟨σ',H',J,q⟩:=hs
  exact fin (v:=V.non) (u:=Value.none) J rfl q
 | brk =>
  obtain⟨_,_,_,q⟩:=hs
  exact False.elim q
 | cont =>
  obtain⟨_,_,_,q⟩:=hs
  exact False.elim q
end L2
namespace L2
open PySem PySem.Spec PyProof.Rows
section
variable {X:Cx}{x:Str}{p pos:Pos}{e:Expr}{es:List Expr}{t:TA}{id T:String}{r:List V->Hp->VK->Prop}
noncomputable def tCB(r:List V->Hp->VK->Prop) (t:TA):TE:=fun σ H Q=>t σ H fun vs H1=>r vs H1 Q
theorem V4(hc:a9 X (.builtin id) r) (hg:Gl X x) (hm:X.mg x=none) (hv:bootBuiltins x=some (.builtin id)) (ha:PA X (e::es) t) (hn:x ≠ "__name__" := by decide) (hdb:(x==("__debug__" : Str))=false:=by decide)
  (he:starEach (e::es) X.env=(false,eval e X.env)::starEach es X.env:=by rfl) (hpl:(backTo pos (starEach es X.env)).any (·.1)=false:=by rfl):PE X (.Call (.Name x p) (e::es) [] pos) (tCB r t):=by
 intro pins s σ H Q I h
 refine wpAny_Call_Name_kw (t6 I hg hm hv ?_ hn hdb)
 exact PyProof.Rows.callWith_builtin1 (thn (ha pos pins s σ H _ I h) fun us s1 ⟨vs,H1,I1,r1,q1⟩=>hc pins s1 σ H1 vs us Q I1 r1 q1) he hpl
theorem R6(hc:a9 X (.type T) r) (hg:Gl X x) (hm:X.mg x=none) (hv:bootBuiltins x=some (.type T)) (ha:PA X (e::es) t) (hn:x ≠ "__name__" := by decide) (hdb:(x==("__debug__" : Str))=false:=by decide)
  (he:starEach (e::es) X.env=(false,eval e X.env)::starEach es X.env:=by rfl) (hpl:(backTo pos (starEach es X.env)).any (·.1)=false:=by rfl):PE X (.Call (.Name x p) (e::es) [] pos) (tCB r t):=by
 intro pins s σ H Q I h
 refine wpAny_Call_Name_kw (t6 I hg hm hv ?_ hn hdb)
 exact PyProof.Rows.callWith_type1 (thn (ha pos pins s σ H _ I h) fun us s1 ⟨vs,H1,I1,r1,q1⟩=>hc pins s1 σ H1 vs us Q I1 r1 q1) he hpl
end
end L2
namespace HT
open PySem PyProof.Rows
section
open PySem.SeqAt
open PySem.AutoSeq1 (wpAny_loadPart')
open PySem.MeetsSeq PySem.MeetsSeq2 PySem.MeetsSeq3
end
section
variable {prog:Program}{w:World}{A:Around}{E:Value->Shared->Prop}{s:Shared}
theorem cat_tup(ht:IsTup s.heap t vs.toArray) (hb:IsTup s.heap b ws.toArray) (hv:vs≠[])
  (h1:ws=[]->Q (.ref t) s) (h2:ws≠[]->Q (.ref s.heap.objs.size) { s with heap:=s.heap.push { cls:=.type "tuple", data:=.seq (vs++ws).toArray } })
  (hsz:vs.length+ws.length<=sizeLine):wpAny (model prog w) A (binaryOp .Add (.ref t) (.ref b)) Q E s:=by
 obtain⟨⟨cls,dd,data,sl⟩,ho,hc,n,hd⟩:=id ht
 obtain⟨⟨cls2,dd2,data2,sl2⟩,ho2,hc2,n2,hd2⟩:=id hb
 simp only at hc hd hc2 hd2
 subst hc hd hc2 hd2
 have e:vs.toArray++ws.toArray=(vs++ws).toArray:=by simp
 by_cases hw:ws=[]
 ·exact concat_meets ⟨_,ho,rfl⟩ ⟨_,ho2,rfl⟩ noFill_tuple_add seq_tuple_add PySem.F.slot_tuple_add PySem.F.entry_tuple_add (PySem.F.args_tuple_add_2 _ _)
   (tuple_addW1 t b vs.toArray ws.toArray n n2 dd dd2 sl sl2 (by simpa using hv) (by simp[hw])) ⟨ho,ho2,h1 hw⟩
 ·refine concat_meets ⟨_,ho,rfl⟩ ⟨_,ho2,rfl⟩ noFill_tuple_add seq_tuple_add PySem.F.slot_tuple_add PySem.F.entry_tuple_add (PySem.F.args_tuple_add_2 _ _)
   (tuple_addW2 t b vs.toArray ws.toArray n n2 dd dd2 sl sl2 (by simpa using hv) (by simpa using hw) (by rw[List.size_toArray,List.size_toArray];exact hsz)) ⟨ho,ho2,?_⟩
  rw[e]
  exact h2 hw
noncomputable def sIx(n d:Nat):Option Int->Nat
 | none=>d
 | some v=>if v < 0 then(v+(n:Int)).toNat else min v.toNat n
theorem bJ6(n d:Nat) (hd:d<=n) (o:Option Int):sIx n d o<=n:=by
 cases o with
 | none=>exact hd
 | some v =>
  show(if v < 0 then(v+(n:Int)).toNat else min v.toNat n)<=n
  by_cases hv:v < 0
  ·rw[if_pos hv];omega
  ·rw[if_neg hv];exact Nat.min_le_right _ _
theorem aN9(v:Int) (n d:Nat):(if v < 0 then max (v+(n:Int)) 0 else min v (n:Int))=((sIx n d (some v):Nat):Int):=by
 show(if v < 0 then max (v+(n:Int)) 0 else min v (n:Int))=(((if v < 0 then(v+(n:Int)).toNat else min v.toNat n):Nat):Int)
 by_cases hv:v < 0
 ·simp only[if_pos hv];omega
 ·simp only[if_neg hv];omega
theorem aH3(lo hi:Option Int) (n:Nat):Builtin.Slice.sliceAdjust lo hi 1 (n:Int)=(((sIx n 0 lo:Nat):Int),((sIx n n hi:Nat):Int)):=by
 have h1:¬((1:Int) < 0):=by omega
 unfold Builtin.Slice.sliceAdjust
 simp only[h1,if_false]
 refine Prod.ext ?_ ?_
 ·cases lo with
  | none=>rfl
  | some v=>exact aN9 v n 0
 ·cases hi with
  | none=>rfl
  | some v=>exact aN9 v n n
theorem aE3(i j:Nat):Builtin.Slice.slicePlaces (i:Int) (j:Int) 1=j - i:=by
 unfold Builtin.Slice.slicePlaces
 have h1:(1:Int) > 0:=by omega
 simp only[h1,if_true,Int.ediv_one]
 split<;>omega
theorem ai9(p:IsPart v o) (h:Q o s):wpAny (model prog w) A (Builtin.Slice.slicePartIndex v) Q E s:=by
 cases p with
 | none=>exact slicePart_none h
 | int i t=>exact slicePart_int h
theorem sliceApplied_gen{sl:Addr}{vl vu:Value}{lo hi:Option Int}{n:Nat}{Q:Int×Int×Nat->Shared->Prop}(hs:s.heap.IsSliceOf sl vl vu .none) (pl:IsPart vl lo) (pu:IsPart vu hi)
  (h:Q (((sIx n 0 lo:Nat):Int),1,sIx n n hi - sIx n 0 lo) s):wpAny (model prog w) A (Builtin.Slice.sliceApplied (.ref sl) (pure (n:Int))) Q E s:=by
 obtain⟨os,hos,hcs,hds⟩:=id hs
 unfold Builtin.Slice.sliceApplied Builtin.Slice.sliceFields
 refine wpAny_bind (wpAny_bind (wpAny_field hos hds (x:=vl) rfl (wpAny_bind (wpAny_field hos hds (x:=vu) rfl (wpAny_bind (wpAny_field hos hds (x:=.none) rfl (wpAny_pure ?_)))))))
 refine wpAny_bind (slicePart_none ?_)
 show wpAny _ _ (if((1:Int)==0)=true then _ else _) _ _ s
 rw[if_neg (by decide)]
 refine wpAny_bind (ai9 pl (wpAny_bind (ai9 pu (wpAny_bind (wpAny_pure ?_)))))
 show wpAny _ _ (match Builtin.Slice.sliceAdjust lo hi 1 (n:Int) with|(lo,hi)=>pure (lo,(1:Int),Builtin.Slice.slicePlaces lo hi 1)) _ _ s
 rw[aH3 lo hi n]
 show wpAny _ _ (pure (((sIx n 0 lo:Nat):Int),(1:Int),Builtin.Slice.slicePlaces ((sIx n 0 lo:Nat):Int) ((sIx n n hi:Nat):Int) 1)) _ _ s
 rw[aE3]
 exact wpAny_pure h
theorem ba2(xs:Array Value) (i k:Nat):((List.range k).filterMap fun(m:Nat)=>xs[((i:Int)+(m:Int)*1).toNat]?).toArray=((xs.toList.drop i).take k).toArray:=by
 have e:(fun(m:Nat)=>xs[((i:Int)+(m:Int)*1).toNat]?)=fun m=>xs[i+m]?:=by
  funext m
  have:((i:Int)+(m:Int)*1).toNat=i+m:=by omega
  rw[this]
 rw[e]
 have:=pick_run xs i k
 rw[List.filterMap_map]at this
 have e2:((fun x=>xs[x]?) ∘ fun x=>i+x)=fun m=>xs[i+m]?:=rfl
 rw[e2]at this
 rw[this]
theorem getItem_tuple_cut{t sl:Addr}{items:Array Value}{vl vu:Value}{lo hi:Option Int}{Q:Value->Shared->Prop}(ht:IsTup s.heap t items) (hs:s.heap.IsSliceOf sl vl vu .none) (pl:IsPart vl lo) (pu:IsPart vu hi)
  (hw:¬(sIx items.size 0 lo=0/\sIx items.size items.size hi=items.size))
  (h:Q (.ref s.heap.objs.size) { s with heap:=s.heap.push { cls:=.type "tuple", data:=.seq ((items.toList.drop (sIx items.size 0 lo)).take (sIx items.size items.size hi - sIx items.size 0 lo)).toArray } })
  (hsz:items.size<=sizeLine):wpAny (model prog w) A (getItem (.ref t) (.ref sl)) Q E s:=by
 have htake:sizeOk (.seq ((items.toList.drop (sIx items.size 0 lo)).take (sIx items.size items.size hi - sIx items.size 0 lo)).toArray):=by
  show((items.toList.drop (sIx items.size 0 lo)).take (sIx items.size items.size hi - sIx items.size 0 lo)).toArray.size<=sizeLine
  rw[List.size_toArray,List.length_take,List.length_drop,Array.length_toList]
  omega
 have hj:sIx items.size items.size hi<=items.size:=bJ6 _ _ (Nat.le_refl _) hi
 obtain⟨os,hos,hcs,hds⟩:=id hs
 have hTs:s.TypeIs (.ref sl) "slice" := ⟨os,hos,hcs⟩
 unfold getItem
 try with_reducible refine wpAny_holding ?_
 first|refine wpAny_bind (wpAny_pure ?_)|skip
 refine wpAny_bind (wpAny_sequenceKey ht.typeIs (by decide) ?_)
 refine wpAny_bind (wpAny_callSpecial?_slot (name:=Str.ofString "__getitem__") ht.typeIs PyProof.Rows.slot_tuple_getitem
  (wpAny_call_entry PyProof.Rows.slot_tuple_getitem ht.typeIs entry_tuple_getitem ?_ (args_tuple_getitem _ _)))
 show wpAny _ _ (Builtin.Tuple.tupleItemsOf (.ref t) >>= _) _ _ s
 refine wpAny_bind (tupleItemsOf_ ht ?_)
 refine wpAny_bind (wpAny_typeOf hTs ?_)
 rw[if_pos (by decide)]
 refine wpAny_bind (sliceApplied_gen hs pl pu ?_)
 have hno:¬((((sIx items.size 0 lo:Nat):Int)==0&&(1:Int)==1&&(sIx items.size items.size hi - sIx items.size 0 lo)==items.size)=true):=by
  intro q
  rw[Bool.and_eq_true,Bool.and_eq_true]at q
  have q1:((sIx items.size 0 lo:Nat):Int)=0:=eq_of_beq q.1.1
  have q2:sIx items.size items.size hi - sIx items.size 0 lo=items.size:=eq_of_beq q.2
  exact hw ⟨by omega,by omega⟩
 show wpAny _ _ (if(((sIx items.size 0 lo:Nat):Int)==0&&(1:Int)==1&&(sIx items.size items.size hi - sIx items.size 0 lo)==items.size)=true then _ else _) _ _ s
 rw[if_neg hno,ba2]
 first
  | exact wpAny_bind (m:=Builtin.Tuple.tupleExact _) (wpAny_newObj_type (wpAny_pure ⟨_,rfl,wpAny_pure h⟩) htake)
  | exact wpAny_bind (m:=Builtin.Tuple.tupleExact _) (wpAny_newObj_type (wpAny_bind (wpAny_pure (wpAny_pure ⟨_,rfl,wpAny_pure h⟩))) htake)
  | exact wpAny_bind (wpAny_bind (m:=Builtin.Tuple.tupleExact _) (wpAny_newObj_type (wpAny_pure (wpAny_pure ⟨_,rfl,wpAny_pure h⟩)) htake))
  | exact wpAny_bind (wpAny_bind (m:=Builtin.Tuple.tupleExact _) (wpAny_newObj_type (wpAny_pure ⟨_,rfl,wpAny_pure h⟩) htake))
end
end HT
namespace L2
open PySem PySem.Spec PyProof.Rows
noncomputable abbrev TO:=St->Hp->(Option Int->Hp->Prop)->Prop
noncomputable def PO(X:Cx) (e:Option Expr) (t:TO):Prop :=
 ∀(pins:List (Addr×Obj)) (s:Shared) (σ:St) (H:Hp) (Q:Option Int->Hp->Prop),Inv X pins σ H s->t σ H Q ->
  wpAny (model X.prog X.w) X.A (evalPart e X.env) (fun u s'=>∃o H',Inv X pins σ H' s'/\IsPart u o/\Q o H') X.xe s
noncomputable def bp1:TO:=fun _ H Q=>Q none H
noncomputable def ca0(t:TE):TO:=fun σ H Q=>t σ H fun x H1=>∃i,x=.int i/\Q (some i) H1
section
variable {X:Cx}{e:Expr}{te:TE}{lo hi:Option Expr}{tl th:TO}{pos p2:Pos}
theorem bs3:PO X none bp1:=by
 intro pins s σ H Q I h
 rw[evalPart_none]
 exact wpAny_pure ⟨none,H,I,.none,h⟩
theorem bs1(h:PE X e te):PO X (some e) (ca0 te):=by
 intro pins s σ H Q I hw
 rw[evalPart_some]
 refine thn (h pins s σ H _ I hw) fun u s1 ⟨x,H1,I1,r1,q1⟩=>?_
 obtain⟨i,rfl,q⟩:=q1
 obtain⟨t,rfl⟩:=r1
 exact⟨some i,H1,I1,.int i t,q⟩
noncomputable def SlR(X:Cx) (r:V->Option Int->Option Int->Hp->VK->Prop):Prop :=
 ∀(pins:List (Addr×Obj)) (s:Shared) (σ:St) (H:Hp) (x:V) (v vl vu:Value) (lo hi:Option Int) (sl:Addr) (Q:VK),Inv X pins σ H s->C5 x v->s.heap.IsSliceOf sl vl vu .none->IsPart vl lo->IsPart vu hi->r x lo hi H Q ->
  ∃T id,typeLookup (.type T) "__getitem__" = pure (some (.builtin id))/\s.TypeIs v T/\wpAny (model X.prog X.w) X.A (getItem v (.ref sl)) (EP X pins σ Q) X.xe s
theorem SlR.or(h:SlR X r) (h':SlR X r'):SlR X (fun x lo hi H Q=>r x lo hi H Q\/r' x lo hi H Q):=by
 intro pins s σ H x v vl vu lo hi sl Q I rx hs pl pu q
 rcases q with q|q
 ·exact h pins s σ H x v vl vu lo hi sl Q I rx hs pl pu q
 ·exact h' pins s σ H x v vl vu lo hi sl Q I rx hs pl pu q
noncomputable def tSl(r:V->Option Int->Option Int->Hp->VK->Prop) (te:TE) (tl th:TO):TE:=fun σ H Q=>te σ H fun x H1=>tl σ H1 fun l H2=>th σ H2 fun u H3=>r x l u H3 Q
theorem f6(hr:SlR X r) (he:PE X e te) (hl:PO X lo tl) (hu:PO X hi th):PE X (.Subscript e (.Slice lo hi none p2) pos) (tSl r te tl th):=by
 intro pins s σ H Q I h
 refine Subscript_ (thn (he pins s σ H _ I h) fun v s1 ⟨x,H1,I1,r1,q1⟩=>?_)
 refine wpAny_Slice (thn (hl pins s1 σ H1 _ I1 q1) fun vl s2 ⟨l,H2,I2,pl,q2⟩=>thn (hu pins s2 σ H2 _ I2 q2) fun vu s3 ⟨u,H3,I3,pu,q3⟩=>?_)
 rw[evalPart_none]
 refine wpAny_pure ?_
 have I4:Inv X pins σ H3 { s3 with heap:=s3.heap.push { cls:=.type "slice", data:=.fields #[vl,vu,.none] } }:=I3.kept (t':=s3.toks) fun b ob q=>Heap.get?_push_of_some _ q
 obtain⟨T,id,hT,ht,hg⟩:=hr pins { s3 with heap:=s3.heap.push { cls:=.type "slice", data:=.fields #[vl,vu,.none] } } σ H3 x v vl vu l u s3.heap.objs.size Q I4 r1 (Heap.IsSliceOf.new ..) pl pu q3
 show wpAny (model X.prog X.w) X.A (subscriptTail e (.Slice lo hi none p2) v (.ref s3.heap.objs.size)) (EP X pins σ Q) X.xe { s3 with heap:=s3.heap.push { cls:=.type "slice", data:=.fields #[vl,vu,.none] } }
 exact tail_any (ops:=[.ref s3.heap.objs.size,v]) ht hT hg (by with_unfolding_all rfl)
noncomputable def aA5(xs:List V) (lo hi:Option Int):List V:=(xs.drop (HT.sIx xs.length 0 lo)).take (HT.sIx xs.length xs.length hi - HT.sIx xs.length 0 lo)
theorem af8(xs:List V) (lo hi:Option Int):(aA5 xs lo hi).length<=xs.length:=by
 unfold aA5
 rw[List.length_take,List.length_drop]
 omega
noncomputable def cl3(K:PySem.W.Frag):V->Option Int->Option Int->Hp->VK->Prop:=fun x lo hi H Q=>∃a xs,x=.ref a/\SqT K H a xs /\
 ¬(HT.sIx xs.length 0 lo=0/\HT.sIx xs.length xs.length hi=xs.length)/\∀p,H p=none->Q (.ref p) (upd H p (.tup (aA5 xs lo hi)))
theorem aX9:SlR X (cl3 X.K):=by
 intro pins s σ H x v vl vu lo hi sl Q I rx hs pl pu h
 obtain⟨a,xs,rfl,hx,hw,q⟩:=h
 cases rx
 obtain⟨its,r,ht,hz⟩:=I.tuple hx
 have hlen:its.toArray.size=xs.length:=by rw[List.size_toArray];exact r.length.symm
 refine⟨"tuple", _,PyProof.Rows.slot_tuple_getitem.lookup,ht.typeIs,?_⟩
 refine HT.getItem_tuple_cut ht hs pl pu (by rw[hlen];exact hw) ?_ (by rw[hlen];exact hz)
 rw[hlen]
 refine⟨.ref s.heap.objs.size,_,I.laid (t':=s.toks) (o:=.tup (aA5 xs lo hi)) (fun b ob q=>Heap.get?_push_of_some _ q) (Nat.le_refl _) ?_,rfl,q _ (I.hok.fresh (Nat.le_refl _))⟩
 exact⟨Nat.le_trans (af8 xs lo hi) hz,_,(r.drop (HT.sIx xs.length 0 lo)).take (HT.sIx xs.length xs.length hi - HT.sIx xs.length 0 lo),am2.new _ _⟩
noncomputable def cc3(K:PySem.W.Frag):R2:=fun x y H Q=>∃a b xs ys,x=.ref a/\y=.ref b/\SqT K H a xs/\SqT K H b ys/\xs≠[]/\xs.length+ys.length<=sizeLine /\
 (ys=[]->Q (.ref a) H)/\(ys≠[]->∀p,H p=none->Q (.ref p) (upd H p (.tup (xs++ys))))
theorem C1.nil_iff(r:C1 xs us):us=[]↔xs=[]:=by
 cases r with
 | nil=>simp
 | cons _ _=>simp
theorem bu2:OpR X (binaryOp .Add) (cc3 X.K):=by
 intro pins s σ H x y v u Q I rx ry h
 obtain⟨a,b,xs,ys,rfl,rfl,ha,hb,hx,hz,q1,q2⟩:=h
 cases rx
 cases ry
 obtain⟨its,r1,p1,_⟩:=I.tuple ha
 obtain⟨its2,r2,p2,_⟩:=I.tuple hb
 refine HT.cat_tup p1 p2 (fun z=>hx (r1.nil_iff.mp z)) (fun z=>⟨.ref a,H,I,rfl,q1 (r2.nil_iff.mp z)⟩) (fun z=>?_) (by rw[← r1.length,← r2.length];exact hz)
 refine⟨.ref s.heap.objs.size,_,I.laid (t':=s.toks) (o:=.tup (xs++ys)) (fun b ob q=>Heap.get?_push_of_some _ q) (Nat.le_refl _) ?_,rfl,q2 (fun w=>z (r2.nil_iff.mpr w)) _ (I.hok.fresh (Nat.le_refl _))⟩
 exact⟨by rw[List.length_append];exact hz,_,r1.append r2,am2.new _ _⟩
end
end L2
namespace L2
open PySem PySem.Spec PyProof.Rows
noncomputable def ixN(n:Nat) (i:Int):Option Nat:=if 0<=i then(if i < n then some i.toNat else none) else if -(n:Int)<=i then some (i+n).toNat else none
noncomputable def atI{α:Type}(xs:List α) (i:Int):Option α:=(ixN xs.length i).bind fun j=>xs[j]?
theorem bx6(h:ixN n i=some j):seqIndex? i n=some j/\j < n/\-(n:Int)<=i/\i < n:=by
 unfold ixN at h
 by_cases h0:0<=i
 ·rw[if_pos h0]at h
  by_cases h1:i < n
  ·rw[if_pos h1]at h
   have e:i.toNat=j:=Option.some.inj h
   exact⟨by rw[seqIndex_of h0 h1,e],by omega,by omega,h1⟩
  ·rw[if_neg h1]at h;cases h
 ·rw[if_neg h0]at h
  by_cases h1:-(n:Int)<=i
  ·rw[if_pos h1]at h
   have e:(i+n).toNat=j:=Option.some.inj h
   exact⟨by rw[seqIndex_neg (by omega) h1,e],by omega,h1,by omega⟩
  ·rw[if_neg h1]at h;cases h
theorem au9{α:Type}{xs:List α}{i:Int}{v:α}(h:atI xs i=some v):∃j,seqIndex? i xs.length=some j/\xs[j]? = some v/\j < xs.length/\-(xs.length:Int)<=i/\i < xs.length:=by
 unfold atI at h
 cases e:ixN xs.length i with
 | none=>rw[e]at h;cases h
 | some j =>
  rw[e]at h
  obtain⟨h1,h2,h3,h4⟩:=bx6 e
  exact⟨j,h1,h,h2,h3,h4⟩
theorem bA9{α:Type}{xs:List α}{j:Nat}{v:α}(h:xs[j]? = some v):atI xs (j:Int)=some v:=by
 have hj:j < xs.length:=(List.getElem?_eq_some_iff.mp h).1
 have e:ixN xs.length (j:Int)=some j:=by
  unfold ixN
  rw[if_pos (by omega),if_pos (by omega)];simp
 unfold atI;rw[e];exact h
noncomputable def ai1(b:Expr):Prop:=∀o i,subscripted b false o i=operate [o,i] (getItem o i)
noncomputable def IxR(X:Cx) (r:R2):Prop :=
 ∀(value slice:Expr) (pins:List (Addr×Obj)) (s:Shared) (σ:St) (H:Hp) (x y:V) (v u:Value) (Q:VK),Inv X pins σ H s->C5 x v->C5 y u->r x y H Q ->
  subscripted slice false v u=operate [v,u] (getItem v u)->wpAny (model X.prog X.w) X.A (subscriptTail value slice v u) (EP X pins σ Q) X.xe s
noncomputable def MtR(X:Cx) (id:String) (r:V->List V->Hp->VK->Prop):Prop :=
 ∀(pins:List (Addr×Obj)) (s:Shared) (σ:St) (H:Hp) (x:V) (xs:List V) (v:Value) (us:List Value) (Q:VK),Inv X pins σ H s->C5 x v->C1 xs us->r x xs H Q ->
  wpAny (model X.prog X.w) X.A (call (.builtin id) (v::us)) (EP X pins σ Q) X.xe s
section
variable {X:Cx}{a b:Expr}{ta tb:TE}{pos:Pos}
theorem IxR.or(h:IxR X r) (h':IxR X r'):IxR X (fun x y H Q=>r x y H Q\/r' x y H Q):=by
 intro value slice pins s σ H x y v u Q I rx ry q hs
 rcases q with q|q
 ·exact h value slice pins s σ H x y v u Q I rx ry q hs
 ·exact h' value slice pins s σ H x y v u Q I rx ry q hs
theorem bC7(hr:IxR X r) (ha:PE X a ta) (hb:PE X b tb) (hs:ai1 b):PE X (.Subscript a b pos) (tOp r ta tb):=by
 intro pins s σ H Q I h
 exact Subscript_ (bV9 ha hb I h fun v u s2 x y H2 I2 rx ry q=>hr a b pins s2 σ H2 x y v u Q I2 rx ry q (hs _ _))
noncomputable def cc2(K:PySem.W.Frag):R2:=fun x y H Q=>∃p xs i v,x=.ref p/\y=.int i/\SqL K H p xs/\atI xs i=some v/\Q v H
noncomputable def cc0(K:PySem.W.Frag):R2:=fun x y H Q=>∃p xs i v,x=.ref p/\y=.int i/\SqT K H p xs/\atI xs i=some v/\Q v H
noncomputable def cc1:R2:=fun x y H Q=>∃z i c,x=.str z/\y=.int i/\z.length<=sizeLine/\atI z.cps.toList i=some c/\Q (.str ⟨#[c]⟩) H
theorem bx5:IxR X (cc2 X.K):=by
 intro value slice pins s σ H x y v u Q I rx ry h hs
 obtain⟨p,xs,i,z,rfl,rfl,hq,he,q⟩:=h
 cases rx
 obtain⟨t,rfl⟩:=ry
 obtain⟨its,r,pl,hz⟩:=I.list hq
 obtain⟨j,h1,h2,h3,h4,h5⟩:=au9 he
 obtain⟨w,ew,rw'⟩:=r.get h2
 have hl:=r.length
 have hn:=ad2
 have fin:EP X pins σ Q w s:=⟨z,H,I,rw',q⟩
 by_cases h0:0<=i
 ·have hj:i.toNat=j:=by
   rw[seqIndex_of h0 h5]at h1
   exact Option.some.inj h1
  exact item_listR pl.isList h0 (by omega) (by rw[hj];simpa using ew) fin hs
 ·have hj:(i+(its.toArray.size:Int)).toNat=j:=by
   rw[seqIndex_neg (by omega) h4]at h1
   rw[List.size_toArray,← hl]
   exact Option.some.inj h1
  exact subscriptTail_builtinR (x:=w) pl.isList.typeIs slot_list_getitem.lookup
   (wpAny_getItem_list_neg (Q:=fun r s'=>r=w/\EP X pins σ Q r s') pl.isList (by omega) (by rw[List.size_toArray]<;>omega) (by omega) (by rw[hj];simpa using ew) ⟨rfl,fin⟩) hs
theorem bT6:IxR X (cc0 X.K):=by
 intro value slice pins s σ H x y v u Q I rx ry h hs
 obtain⟨p,xs,i,z,rfl,rfl,hq,he,q⟩:=h
 cases rx
 obtain⟨t,rfl⟩:=ry
 obtain⟨its,r,pl,hz⟩:=I.tuple hq
 obtain⟨j,h1,h2,h3,h4,h5⟩:=au9 he
 obtain⟨w,ew,rw'⟩:=r.get h2
 have hl:=r.length
 have hn:=ad2
 have fin:EP X pins σ Q w s:=⟨z,H,I,rw',q⟩
 exact subscriptTail_builtinR (x:=w) pl.typeIs slot_tuple_getitem.lookup
  (getItem_tuple (j:=j) (Q:=fun r s'=>r=w/\EP X pins σ Q r s') pl (by omega) (by omega) (by rw[List.size_toArray,← hl];exact h1) (by simpa using ew) ⟨rfl,fin⟩) hs
theorem bT7:IxR X cc1:=by
 intro value slice pins s σ H x y v u Q I rx ry h hs
 obtain⟨z,i,c,rfl,rfl,hz,he,q⟩:=h
 obtain⟨t,rfl⟩:=rx
 obtain⟨t',rfl⟩:=ry
 obtain⟨j,h1,h2,h3,h4,h5⟩:=au9 he
 have hl:z.cps.toList.length=z.length:=by simp[Str.length]
 rw[hl]at h1 h4 h5
 have hn:=ad2
 exact tail_any (typeIs_str s z t) slot_str_getitem.lookup (getItem_str (c:=c) (by
  have e1:decide (i < -(2 ^ 63:Int))=false:=decide_eq_false (by omega)
  have e2:decide (i ≥ 2 ^ 63)=false:=decide_eq_false (by omega)
  rw[e1,e2,Bool.or_false]) (by rw[h1];simpa using h2) ⟨.str ⟨#[c]⟩,H,I.tok _,⟨_,rfl⟩,q⟩) hs
noncomputable def rIx(K:PySem.W.Frag):R2:=fun x y H Q=>cc2 K x y H Q\/cc0 K x y H Q\/cc1 x y H Q
theorem bh1:IxR X (rIx X.K):=bx5.or (bT6.or bT7)
theorem x5(lo hi:Option Int) (n:Nat):(sliceBounds lo hi none n).1=((HT.sIx n 0 lo:Nat):Int)/\(sliceBounds lo hi none n).2.1=((HT.sIx n n hi:Nat):Int)/\(sliceBounds lo hi none n).2.2=1:=by
 refine⟨?_,?_,rfl⟩
 ·cases lo with
  | none=>simp[sliceBounds,HT.sIx]
  | some i =>
   simp only[sliceBounds,HT.sIx,Option.getD_none,show(1:Int) > 0 by decide,if_true]
   by_cases h:i < 0
   ·simp only[h,if_true]<;>omega
   ·simp only[h,if_false]<;>omega
 ·cases hi with
  | none=>simp[sliceBounds,HT.sIx]
  | some i =>
   simp only[sliceBounds,HT.sIx,Option.getD_none,show(1:Int) > 0 by decide,if_true]
   by_cases h:i < 0
   ·simp only[h,if_true]<;>omega
   ·simp only[h,if_false]<;>omega
theorem am7(its:List Value) (lo hi:Option Int):slicePick its.toArray lo hi none=((its.drop (HT.sIx its.length 0 lo)).take (HT.sIx its.length its.length hi - HT.sIx its.length 0 lo)).toArray:=by
 obtain⟨h1,h2,h3⟩:=x5 lo hi its.toArray.size
 unfold slicePick
 rw[h1,h2,h3]
 simp only[sliceRange_one,pick_run,List.size_toArray]<;>rfl
noncomputable def cl4(K:PySem.W.Frag):V->Option Int->Option Int->Hp->VK->Prop:=fun x lo hi H Q=>∃a xs,x=.ref a/\SqL K H a xs/\∀p,H p=none->Q (.ref p) (upd H p (.lst (aA5 xs lo hi)))
theorem aJ1:SlR X (cl4 X.K):=by
 intro pins s σ H x v vl vu lo hi sl Q I rx hs pl pu h
 obtain⟨a,xs,rfl,hx,q⟩:=h
 cases rx
 obtain⟨its,r,ht,hz⟩:=I.list hx
 have hlen:=r.length
 refine⟨"list", _,slot_list_getitem.lookup,ht.isList.typeIs,?_⟩
 refine wpAny_getItem_list_slice ht.isList hs pl pu .none (by simp) ?_ (by rw[List.size_toArray]<;>omega)
 rw[am7,← hlen]
 refine⟨.ref s.heap.objs.size,_,I.laid (t':=s.toks) (o:=.lst (aA5 xs lo hi)) (fun b ob q=>Heap.get?_push_of_some _ q) (Nat.le_refl _) ?_,rfl,q _ (I.hok.fresh (Nat.le_refl _))⟩
 exact⟨Nat.le_trans (af8 xs lo hi) hz,_,0,(r.drop (HT.sIx xs.length 0 lo)).take (HT.sIx xs.length xs.length hi - HT.sIx xs.length 0 lo),Heap.get?_push_size _ rfl⟩
noncomputable def m5:V->Bool
 | .non=>true
 | .bl _=>true
 | .int _=>true
 | .str _=>true
 | _=>false
noncomputable def eqV:V->V->Bool
 | .non,.non=>true
 | .bl a,.bl b=>a==b
 | .bl a,.int b=>(if a then 1 else 0)==b
 | .int a,.bl b=>a==(if b then 1 else 0)
 | .int a,.int b=>a==b
 | .str a,.str b=>a==b
 | _,_=>false
theorem bU5(ry:C5 y u) (rx:C5 x v) (fy:m5 y=true) (fx:m5 x=true):SeqAt.EqAt A s u v (eqV y x):=by
 cases y with
 | non =>
  cases ry
  cases x with
  | non=>cases rx;exact SeqAt.EqAt.same _
  | bl b=>cases rx;exact SeqAt.EqAt.none_bool b
  | int b=>obtain⟨t,rfl⟩:=rx;exact SeqAt.EqAt.none_int b t
  | str b=>obtain⟨t,rfl⟩:=rx;exact SeqAt.EqAt.none_str b t
  | _=>exact absurd (show false=true from fx) Bool.false_ne_true
 | bl a =>
  cases ry
  cases x with
  | non=>cases rx;exact SeqAt.EqAt.bool_none a
  | bl b=>cases rx;exact SeqAt.EqAt.bool_bool a b
  | int b=>obtain⟨t,rfl⟩:=rx;exact SeqAt.EqAt.bool_int a b t
  | str b=>obtain⟨t,rfl⟩:=rx;exact SeqAt.EqAt.bool_str a b t
  | _=>exact absurd (show false=true from fx) Bool.false_ne_true
 | int a =>
  obtain⟨t',rfl⟩:=ry
  cases x with
  | non=>cases rx;exact SeqAt.EqAt.int_none a t'
  | bl b=>cases rx;exact SeqAt.EqAt.int_bool a t' b
  | int b=>obtain⟨t,rfl⟩:=rx;exact SeqAt.EqAt.int_int a t' b t
  | str b=>obtain⟨t,rfl⟩:=rx;exact SeqAt.EqAt.int_str a t' b t
  | _=>exact absurd (show false=true from fx) Bool.false_ne_true
 | str a =>
  obtain⟨t',rfl⟩:=ry
  cases x with
  | non=>cases rx;exact SeqAt.EqAt.str_none a t'
  | bl b=>cases rx;exact SeqAt.EqAt.str_bool a t' b
  | int b=>obtain⟨t,rfl⟩:=rx;exact SeqAt.EqAt.str_int a t' b t
  | str b=>obtain⟨t,rfl⟩:=rx;exact SeqAt.EqAt.str_str a t' b t
  | _=>exact absurd (show false=true from fx) Bool.false_ne_true
 | _=>exact absurd (show false=true from fy) Bool.false_ne_true
noncomputable def eqU(x:V) (u:Value):Bool:=match u with
 | .none=>eqV .non x
 | .bool b=>eqV (.bl b) x
 | .int i _=>eqV (.int i) x
 | .str z _=>eqV (.str z) x
 | _=>false
theorem bj6(r:C5 y u) (f:m5 y=true):eqU x u=eqV y x:=by
 cases y with
 | non=>cases r;rfl
 | bl b=>cases r;rfl
 | int i=>obtain⟨t,rfl⟩:=r;rfl
 | str z=>obtain⟨t,rfl⟩:=r;rfl
 | _=>exact absurd (show false=true from f) Bool.false_ne_true
theorem ac1:∀{xs:List V}{us:List Value},C1 xs us->xs.all m5=true->us.any (eqU x)=xs.any fun y=>eqV y x
 | _,_,.nil,_=>rfl
 | y::xs,u::us,.cons r t,f=>by
  rw[List.all_cons,Bool.and_eq_true]at f
  rw[List.any_cons,List.any_cons,bj6 r f.1,ac1 t f.2]
theorem i3(rx:C5 x v) (fx:m5 x=true):∀{xs:List V}{us:List Value},C1 xs us->xs.all m5=true->∀u∈us,SeqAt.EqAt A s u v (eqU x u)
 | _,_,.nil,_=>fun u hu=>by cases hu
 | y::xs,u::us,.cons r t,f=>fun u' hu=>by
  rw[List.all_cons,Bool.and_eq_true]at f
  rcases List.mem_cons.mp hu with rfl|hu
  ·rw[bj6 r f.1];exact bU5 r rx f.1 fx
  ·exact i3 rx fx t f.2 u' hu
noncomputable def inV(x:V) (xs:List V):Bool:=xs.any fun y=>eqV y x
noncomputable def rIn(K:PySem.W.Frag) (neg:Bool):R2:=fun x y H Q=>∃p xs,y=.ref p/\(SqL K H p xs\/SqT K H p xs)/\m5 x=true/\xs.all m5=true/\Q (.bl (if neg then !inV x xs else inV x xs)) H
theorem aR2:OpR X (compareOp .In) (rIn X.K false):=by
 intro pins s σ H x y v u Q I rx ry h
 obtain⟨p,xs,rfl,hq,fx,fs,q⟩:=h
 cases ry
 rcases hq with hq|hq
 ·obtain⟨its,r,pl,hz⟩:=I.list hq
  refine SeqAt.in_listAt (eqU x) pl.isList (fun w hw=>i3 rx fx r fs w (by simpa using hw)) ⟨.bl _,H,I,rfl,?_⟩
  rw[show its.toArray.any (eqU x)=its.any (eqU x) by simp,ac1 r fs]
  exact q
 ·obtain⟨its,r,pl,hz⟩:=I.tuple hq
  refine SeqAt.in_tupleAt (eqU x) pl (fun w hw=>i3 rx fx r fs w (by simpa using hw)) ⟨.bl _,H,I,rfl,?_⟩
  rw[show its.toArray.any (eqU x)=its.any (eqU x) by simp,ac1 r fs]
  exact q
theorem as0:OpR X (compareOp .NotIn) (rIn X.K true):=by
 intro pins s σ H x y v u Q I rx ry h
 obtain⟨p,xs,rfl,hq,fx,fs,q⟩:=h
 cases ry
 rcases hq with hq|hq
 ·obtain⟨its,r,pl,hz⟩:=I.list hq
  refine SeqAt.notIn_listAt (eqU x) pl.isList (fun w hw=>i3 rx fx r fs w (by simpa using hw)) ⟨.bl _,H,I,rfl,?_⟩
  rw[show its.toArray.any (eqU x)=its.any (eqU x) by simp,ac1 r fs]
  exact q
 ·obtain⟨its,r,pl,hz⟩:=I.tuple hq
  refine SeqAt.notIn_tupleAt (eqU x) pl (fun w hw=>i3 rx fx r fs w (by simpa using hw)) ⟨.bl _,H,I,rfl,?_⟩
  rw[show its.toArray.any (eqU x)=its.any (eqU x) by simp,ac1 r fs]
  exact q
theorem au5:a9 X (.builtin "len") (fun xs H Q=>∃p ys,xs=[.ref p]/\(SqL X.K H p ys\/SqT X.K H p ys)/\Q (.int ys.length) H):=by
 intro pins s σ H xs us Q I r h
 obtain⟨p,ys,rfl,hq,q⟩:=h
 obtain⟨u,rfl,rx⟩:=u8 r
 cases rx
 have hn:=ad2
 rcases hq with hq|hq
 ·obtain⟨its,r',pl,hz⟩:=I.list hq
  have hlen:=r'.length
  exact Calls.call_len_list pl.isList (by simp only[List.size_toArray]<;>omega) ⟨.int ys.length,H,I.tok _,⟨s.toks+1,by rw[List.size_toArray,hlen]⟩,q⟩
 ·obtain⟨its,r',pl,hz⟩:=I.tuple hq
  have hlen:=r'.length
  exact len_tuple pl (by simp only[List.size_toArray]<;>omega) ⟨.int ys.length,H,I.tok _,⟨s.toks+1,by rw[List.size_toArray,hlen]⟩,q⟩
theorem Y7:a9 X (.type "list") (fun xs H Q=>∃p ys,xs=[.ref p]/\(SqL X.K H p ys\/SqT X.K H p ys)/\∀l,H l=none->Q (.ref l) (upd H l (.lst ys))):=by
 intro pins s σ H xs us Q I r h
 obtain⟨p,ys,rfl,hq,q⟩:=h
 obtain⟨u,rfl,rx⟩:=u8 r
 cases rx
 have fin:∀(its:List Value),C1 ys its->ys.length<=sizeLine->∀(h':Heap) (c':Nat),(∀b o',s.heap.get? b=some o'->h'.get? b=some o') ->
   h'.get? s.heap.objs.size=some { cls:=.type "list", dict:=none,data:=.seq its.toArray c',slots:=#[] }->EP X pins σ Q (.ref s.heap.objs.size) { s with heap:=h' }:=fun its r' hz h' c' kp e =>
  ⟨.ref s.heap.objs.size,_,I.laid (t':=s.toks) kp (Nat.le_refl _) (show O8 X.prog X.w _ h' _ (.lst ys) from⟨hz,its,c',r',e⟩),rfl,q _ (I.hok.fresh (Nat.le_refl _))⟩
 rcases hq with hq|hq
 ·obtain⟨its,r',pl,hz⟩:=I.list hq
  have hlen:=r'.length
  obtain⟨o,ho,hc,n,hd⟩:=pl.isList
  exact call_list_seq p (.inl rfl) ho hc hd (fun h' c' kp e=>fin its r' hz h' c' kp e) (by simp only[List.size_toArray]<;>omega)
 ·obtain⟨its,r',pl,hz⟩:=I.tuple hq
  have hlen:=r'.length
  obtain⟨o,ho,hc,n,hd⟩:=pl
  exact call_list_seq p (.inr rfl) ho hc hd (fun h' c' kp e=>fin its r' hz h' c' kp e) (by simp only[List.size_toArray]<;>omega)
theorem an1:a9 X (.type "tuple") (fun xs H Q=>∃p ys,xs=[.ref p]/\((SqL X.K H p ys/\∀l,H l=none->Q (.ref l) (upd H l (.tup ys)))\/(SqT X.K H p ys/\Q (.ref p) H))):=by
 intro pins s σ H xs us Q I r h
 obtain⟨p,ys,rfl,h⟩:=h
 obtain⟨u,rfl,rx⟩:=u8 r
 cases rx
 rcases h with⟨hq,q⟩|⟨hq,q⟩
 ·obtain⟨its,r',pl,hz⟩:=I.list hq
  have hlen:=r'.length
  refine call_tuple_list pl.isList (fun h' kp=>?_) (by simp only[List.size_toArray]<;>omega)
  have I1:Inv X pins σ H { s with heap:=h' }:=I.kept (t':=s.toks) kp
  have I2:Inv X pins σ (upd H h'.objs.size (.tup ys)) { s with heap:=h'.push { cls:=.type "tuple", data:=.seq its.toArray } } :=
   I1.laid (t':=s.toks) (fun b o e=>Heap.get?_push_of_some _ e) (Nat.le_refl _) (show O8 X.prog X.w _ _ _ (.tup ys) from⟨hz,its,r',am2.new _ _⟩)
  exact⟨.ref h'.objs.size,_,I2,rfl,q _ (I1.hok.fresh (Nat.le_refl _))⟩
 ·obtain⟨its,r',pl,hz⟩:=I.tuple hq
  exact call_tuple_same pl ⟨.ref p,H,I,rfl,q⟩
noncomputable def tyV(K:PySem.W.Frag) (T:String) (x:V) (H:Hp):Prop:=match x with
 | .str _=>T = "str"
 | .int _=>T = "int"
 | .ref p=>(T = "list" /\ ∃xs,SqL K H p xs)\/(T = "tuple" /\ ∃o,K.lookup p=some o/\o.cls=.type "tuple" /\ o.dict=none) \/
   (T = "dict" /\ ((∃kvs,H p=some (.dK kvs))\/∃kvs,H p=some (.dT kvs)))\/(T = "set" /\ ∃S n,H p=some (.set S n))
 | _=>False
theorem aW0(I:Inv X pins σ H s) (r:C5 x v) (ty:tyV X.K T x H) :
  s.TypeIs v T/\∀a,v=.ref a->∃ob,s.heap.get? a=some ob/\ob.dict=none:=by
 cases x with
 | str z =>
  obtain⟨t,rfl⟩:=r
  cases(show T = "str" from ty)
  exact⟨typeIs_str s z t,fun _ e=>nomatch e⟩
 | int i =>
  obtain⟨t,rfl⟩:=r
  cases(show T = "int" from ty)
  exact⟨typeIs_int s i t,fun _ e=>nomatch e⟩
 | ref p =>
  cases r
  rcases ty with⟨rfl,xs,hq⟩|⟨rfl,o,hk,hc,hd⟩|⟨rfl,hk⟩|⟨rfl,S,n,hk⟩
  ·obtain⟨its,_,pl,_⟩:=I.list hq
   refine⟨pl.isList.typeIs,fun a e=>?_⟩
   cases e
   obtain⟨o,n,e,c,hd,_⟩:=pl
   exact⟨o,e,hd⟩
  ·refine⟨⟨o,I.kIn p o hk,hc⟩,fun a e=>?_⟩
   cases e
   exact⟨o,I.kIn _ o hk,hd⟩
  ·have z:∃o,s.heap.get? p=some o/\o.ExactDict:=by
    rcases hk with⟨kvs,hk⟩|⟨kvs,hk⟩
    ·obtain⟨_,_,_,_,o,_,_,e,ex,_⟩:=I.hok p _ hk
     exact⟨o,e,ex⟩
    ·obtain⟨_,_,_,_,o,_,_,e,ex,_⟩:=I.hok p _ hk
     exact⟨o,e,ex⟩
   obtain⟨o,e,ex⟩:=z
   refine⟨⟨o,e,ex.1⟩,fun a e2=>?_⟩
   cases e2
   exact⟨o,e,ex.2.1⟩
  ·obtain⟨o,_,_,_,e,ex,_⟩:=I.hok p _ hk
   refine⟨⟨o,e,ex.1⟩,fun a e2=>?_⟩
   cases e2
   exact⟨o,e,ex.2.1⟩
 | _=>exact False.elim ty
noncomputable def ck8(K:PySem.W.Frag) (T:String) (r:V->List V->Hp->VK->Prop) (to:TE):TE:=fun σ H Q=>to σ H fun x H1=>tyV K T x H1/\r x [] H1 Q
noncomputable def tBM(K:PySem.W.Frag) (T:String) (r:V->List V->Hp->VK->Prop) (to:TE) (t:TA):TE:=fun σ H Q=>to σ H fun x H1=>tyV K T x H1/\t σ H1 fun xs H2=>r x xs H2 Q
variable {o e:Expr}{es:List Expr}{to:TE}{t:TA}{name:Str}{apos cpos:Pos}{T id:String}{r:V->List V->Hp->VK->Prop}
theorem bb3(pa:PlainAttrs T) (slot:Slot T name id) (hty:typeOf (.builtin id)=pure (.type "method_descriptor")) (hm:MtR X id r) (ho:PE X o to)
  (hbase:attributeBase o name X.env (eval o X.env)=eval o X.env:=by rfl) (hline:(apos.endLine==cpos.line)=true:=by rfl):PE X (.Call (.Attribute o name apos) [] [] cpos) (ck8 X.K T r to):=by
 intro pins s σ H Q I h
 refine wpAny_Call_method0_late hbase hline (thn (ho pins s σ H _ I h) fun v s1 ⟨x,H1,I1,r1,ty,q1⟩=>?_)
 obtain⟨h1,h2⟩:=aW0 I1 r1 ty
 exact⟨T,id,pa,slot,hty,h1,h2,Calls.callWith_builtin rfl (PySem.evalArgs_none (hm pins s1 σ H1 x [] v [] Q I1 r1 .nil q1))⟩
theorem ak1(pa:PlainAttrs T) (slot:Slot T name id) (hty:typeOf (.builtin id)=pure (.type "method_descriptor")) (hm:MtR X id r) (ho:PE X o to) (ha:PA X (e::es) t)
  (hbase:attributeBase o name X.env (eval o X.env)=eval o X.env:=by rfl)
  (hfew:((backTo cpos (starEach (e::es) X.env)).all (fun x=>!x.1)&&(backToKw cpos (keywordEach [] X.env)).all (fun x=>x.1.isSome)
   && decide ((e::es).length+([]:List Keyword).length+(if([]:List Keyword).isEmpty then 0 else 1) < 30))=true:=by rfl)
  (hline:(apos.endLine==cpos.line)=true:=by rfl) (hs:starEach (e::es) X.env=(false,eval e X.env)::starEach es X.env:=by rfl) (hplain:(backTo cpos (starEach es X.env)).any (·.1)=false:=by rfl) :
  PE X (.Call (.Attribute o name apos) (e::es) [] cpos) (tBM X.K T r to t):=by
 intro pins s σ H Q I h
 refine wpAny_Call_method_late hbase hfew hline rfl (thn (ho pins s σ H _ I h) fun v s1 ⟨x,H1,I1,r1,ty,q1⟩=>?_)
 obtain⟨h1,h2⟩:=aW0 I1 r1 ty
 refine⟨T,id,pa,slot,hty,h1,h2,?_⟩
 have hA:=ha cpos pins s1 σ H1 _ I1 q1
 rw[hs]at hA ⊢
 refine Calls.callWith_builtin (by show(false || (backTo cpos (starEach es X.env)).any (·.1))=false;rw[hplain]<;>rfl) (Calls.evalArgs_plain ?_)
 exact thn hA fun us s2 ⟨vs,H2,I2,r2,q2⟩=>hm pins s2 σ H2 x vs v us Q I2 r1 r2 q2
end
end L2
namespace L2
open PySem PySem.Spec PyProof.Rows
noncomputable def MtM(X:Cx) (id:String) (r:V->List V->Hp->VK->Prop):Prop :=
 ∀(pins:List (Addr×Obj)) (s:Shared) (σ:St) (H:Hp) (x:V) (xs:List V) (v:Value) (us:List Value) (Q:VK),Inv X pins σ H s->C5 x v->C1 xs us->r x xs H Q ->
  wpAny (model X.prog X.w) X.A (call (.builtin id) (v::us)) (EP X pins σ Q) X.xe s
theorem C1.one:∀{x:V}{us:List Value},C1 [x] us->∃u,us=[u]/\C5 x u
 | _,_,.cons r .nil=>⟨_,rfl,r⟩
theorem C1.zero:∀{us:List Value},C1 [] us->us=[]
 | _,.nil=>rfl
theorem C1.dropLast(h:C1 xs us):C1 xs.dropLast us.dropLast:=by
 induction h with
 | nil=>exact .nil
 | cons r t ih =>
  cases t with
  | nil=>exact .nil
  | cons q t'=>exact .cons r ih
theorem C1.rep(h:C1 xs us):∀k:Nat,C1 (List.replicate k xs).flatten (List.replicate k us).flatten
 | 0=>.nil
 | k+1=>by
  rw[List.replicate_succ,List.replicate_succ,List.flatten_cons,List.flatten_cons]
  exact C1.append h (C1.rep h k)
theorem aG1{α:Type}(l:List α):l.eraseIdx (l.length - 1)=l.dropLast:=by
 induction l with
 | nil=>rfl
 | cons a r ih =>
  cases r with
  | nil=>rfl
  | cons b r =>
   have e:(a::b::r).length - 1=((b::r).length - 1)+1:=by
    have h1:(a::b::r).length=r.length+2:=rfl
    have h2:(b::r).length=r.length+1:=rfl
    omega
   rw[e,List.eraseIdx_cons_succ,ih]
   all_goals rfl
theorem ao6(its:List Value):∀(k:Nat) (acc:List Value),
  List.foldl (fun x1 x2=>x1++x2) acc.toArray (List.replicate k its.toArray)=(acc++(List.replicate k its).flatten).toArray
 | 0,acc=>by simp
 | k+1,acc=>by
  have e:acc.toArray++its.toArray=(acc++its).toArray:=by simp
  have e2:(acc++its)++(List.replicate k its).flatten=acc++(List.replicate (k+1) its).flatten:=by
   rw[List.replicate_succ,List.flatten_cons,List.append_assoc]
  rw[← e2,← ao6 its k (acc++its),← e,List.replicate_succ,List.foldl_cons]
section
variable {X:Cx}{pins:List (Addr×Obj)}{σ:St}{H:Hp}{s:Shared}{l b:Addr}{xs ys zs:List V}
theorem Inv.lset{its its':List Value}{n:Nat}{f:Array Value->Array Value}{t':Nat}(I:Inv X pins σ H s) (hH:H l=some (.lst xs))
  (e:s.heap.get? l=some { cls:=.type "list", data:=.seq its.toArray n }) (hf:f its.toArray=its'.toArray) (hv:C1 ys its') (hz:ys.length<=sizeLine) :
  Inv X pins σ (upd H l (.lst ys)) { s with heap:=s.heap.update l (Obj.mapSeq f),toks:=t' }:=by
 have q:=PySem.IsL.update e f
 rw[hf]at q
 refine I.write (x:=l) (e:=l) (by rw[hH];exact trivial) (.inl rfl) (fun b' u hb hu=>(Heap.get?_update_other s.heap (Obj.mapSeq f) (Ne.symm hb)).trans hu) ⟨_,q⟩ ?_
 exact⟨hz,its',_,hv,q⟩
theorem Inv.lnew(I:Inv X pins σ H s) (hv:C1 ys its) (hz:ys.length<=sizeLine) :
  Inv X pins σ (upd H s.heap.objs.size (.lst ys)) { s with heap:=s.heap.push { cls:=.type "list", data:=.seq its.toArray },toks:=t' } :=
 I.laid (fun _ _ q=>Heap.get?_push_of_some _ q) (Nat.le_refl _) ⟨hz,its,0,hv,Heap.get?_push_size _ rfl⟩
theorem Inv.fresh(I:Inv X pins σ H s):H s.heap.objs.size=none:=I.hok.fresh (Nat.le_refl _)
theorem Inv.lstM(I:Inv X pins σ H s) (hH:H l=some (.lst xs)):xs.length<=sizeLine/\∃(its:List Value) (n:Nat),C1 xs its/\xs.length=its.length/\s.heap.get? l=some { cls:=.type "list", data:=.seq its.toArray n }:=by
 obtain⟨z,its,n,r,e⟩:=I.hok l _ hH
 exact⟨z,its,n,r,r.length,e⟩
theorem f7(h:n<=sizeLine):Builtin.List.listTooLong n=false:=by
 unfold Builtin.List.listTooLong
 exact decide_eq_false (by omega)
end
section
variable {X:Cx}
noncomputable def br5:V->List V->Hp->VK->Prop:=fun x vs H Q=>∃l xs y,x=.ref l/\vs=[y]/\H l=some (.lst xs)/\xs.length < sizeLine/\Q .non (upd H l (.lst (xs++[y])))
theorem U9:MtM X "list.append" br5:=by
 intro pins s σ H x vs v us Q I rx rv h
 obtain⟨l,xs,y,rfl,rfl,hH,hz,q⟩:=h
 cases rx
 obtain⟨u,rfl,ru⟩:=rv.one
 obtain⟨z,its,n,r,hl,e⟩:=I.lstM hH
 refine call_meets F.slot_list_append ⟨_,e,rfl⟩ F.entry_list_append (F.args_list_append_2 _ _) (PySem.list_append l its.toArray n u (by rw[List.size_toArray];omega)) ⟨e,?_⟩
 refine⟨.non,_,I.lset (its':=its++[u]) hH e (by simp) (r.append (.cons ru .nil)) ?_,rfl,q⟩
 rw[List.length_append,List.length_singleton]
 omega
noncomputable def cl5:V->List V->Hp->VK->Prop:=fun x vs H Q=>∃l xs y,x=.ref l/\vs=[]/\H l=some (.lst xs)/\xs[xs.length - 1]? = some y/\Q y (upd H l (.lst xs.dropLast))
theorem bd9:MtM X "list.pop" cl5:=by
 intro pins s σ H x vs v us Q I rx rv h
 obtain⟨l,xs,y,rfl,rfl,hH,hy,q⟩:=h
 cases rx
 have hus:=rv.zero
 subst hus
 obtain⟨z,its,n,r,hl,e⟩:=I.lstM hH
 obtain⟨u,hu,ru⟩:=r.get hy
 have hy':its.toArray[its.toArray.size - 1]? = some u:=by
  show its.toArray[its.length - 1]? = some u
  rw[← Array.getElem?_toList,← hl]
  exact hu
 refine call_meets F.slot_list_pop ⟨_,e,rfl⟩ F.entry_list_pop (F.args_list_pop_1 _) (MeetsSeq.list_pop_last l its.toArray n u hy' (by rw[List.size_toArray];omega)) ⟨e,?_⟩
 refine⟨y,_,I.lset (its':=its.dropLast) hH e ?_ r.dropLast ?_,ru,q⟩
 ·show its.toArray.eraseIdxIfInBounds (its.toArray.size - 1)=its.dropLast.toArray
  rw[List.size_toArray,List.eraseIdxIfInBounds_toArray,aG1]
 ·rw[List.length_dropLast]
  omega
theorem as7{α:Type}(xs:List α) (k:Nat):(List.replicate k xs).flatten.length=k*xs.length:=by
 induction k with
 | zero=>simp
 | succ k ih=>rw[List.replicate_succ,List.flatten_cons,List.length_append,ih,Nat.succ_mul,Nat.add_comm]
end
section
variable {prog:Program}{w:World}{A:Around}{E:Value->Shared->Prop}{s:Shared}
theorem aQ2(its its2:List Value) (a c:Nat):its.toArray.extract 0 a++its2.toArray++its.toArray.extract c its.toArray.size=(its.take a++its2++its.drop c).toArray:=by
  apply Array.toList_inj.mp
  first
    | (simp
       exact List.take_of_length_le (by simp))
    | simp[List.take_of_length_le]
    | simp
set_option maxRecDepth 100000 in
end
section
variable {X:Cx}
end
end L2
namespace Att
open PySem PySem.W PySem.Calls PyProof.Rows
theorem ag1:∀(ns:List Int) (vs:List Value),WellAll P h vs (ns.map WData.int)->IntsAre vs ns:=by
 intro ns
 induction ns with
 | nil =>
  intro vs w
  rw[List.map_nil]at w
  cases w
  exact .nil
 | cons n ns ih =>
  intro vs w
  rw[List.map_cons]at w
  cases w with
  | cons a b =>
   cases a
   exact .cons _ _ (ih _ b)
theorem aQ4{l:OpenLaw}{n:Nat}(hn:l.most=some n) {P:Params}{h:Heap}{args:List WData}{vals:List Value}
  (hpre:l.row.toRowW.claim.pre args=true) (hwl:WellAll P h vals args) :
  ∃a vs ns,vals=[Value.ref a]/\args=[WData.list (ns.map WData.int)]/\h.get? a=some { cls:=.type "list", data:=.seq vs.toArray }/\IntsAre vs ns/\ns.length<=n:=by
 have hsh:WShape.hasAll [] args [.list .int]=true:=(pre_splitW hpre).1
 have hc:l.pre.holds [] { args:=args }=true:=(pre_splitW hpre).2
 obtain⟨d,r,rfl,h1,h2⟩:=hasAllW_cons hsh
 obtain rfl:=hasAllW_nil h2
 obtain⟨xs,rfl,h3⟩:=hasW_list h1
 obtain⟨ns,rfl⟩:=items_int h3
 have hlen:ns.length<=n:=by
  unfold OpenLaw.pre at hc
  have h4:(WTm.not (.lt (.lit (.int (n:Int))) (.len (.arg 0)))).holds [] { args:=[.list (ns.map .int)] }=true:=by
   have h4:=(holds_andW hc).1
   rw[hn]at h4
   exact h4
  have h5:=condW_of h4 (w_not (w_lt w_lit (w_len_list (w_arg rfl))))
  rw[List.length_map]at h5
  refine Nat.le_of_not_lt fun q=>?_
  have q':(n:Int) < ((ns.length:Nat):Int):=by omega
  first
   | (rw[decide_eq_true q']at h5;exact absurd h5 (by decide))
   | (simp at h5;omega)
 cases hwl with
 | cons w1 w2 =>
  cases w2
  cases w1 with
  | list ho hall=>exact⟨_,_,ns,rfl,rfl,ho,ag1 ns _ hall,hlen⟩
theorem aQ8(l:OpenLaw) (args:List WData):l.row.toRowW.claim.post args (.bool true) args=true :=
 postW_of (r:=l.row.toRowW) (X:=(true==true))
  (show WShape.has [] (.bool true) .bool=true by first|rfl|decide|simp[WShape.has,WShape.arms,WShape.armsAll])
  (show(WTm.eq .res (.lit (.bool true))).value [] { args:=args,res:=some (.bool true),after:=args }=some (.bool (true==true)) from w_eq_bool (w_res rfl) w_lit) rfl
theorem attach_call{l:OpenLaw}{n:Nat}{q:Program}{loose:List Str}{XP:(Str->Option Value)->Heap->Prop}{YP:World->Heap->Prop}{d:DefRec}
  (hn:l.most=some n) (hdf:d.params.defaults=[])
  (call:∀(w:World) (s₀ s₁:Shared) (mg mb:Str->Option Value) (fa:Addr) (o:Obj) (pm cd doc:Value) (a:Addr) (vs:List Value) (ns:List Int),
   Ground q loose [] XP w s₀ mg mb s₁.heap->YP w s₁.heap ->
   s₁.heap.get? fa=some o->o.data=.func (docDef d.name d.params d.body d.scope pm cd doc)->s₁.heap.CodeRec cd d.name->mg d.name=some (.ref fa) ->
   s₁.heap.get? a=some { cls:=.type "list", data:=.seq vs.toArray }->IntsAre vs ns->ns.length<=n->s₁.gens = #[] ->
   codeAny (model l.prog w) callerA (.call (.ref fa) ⟨[.ref a],[]⟩) (fun r s'=>r=.ok (.ret (.bool true))/\OldK s₁.heap s'.heap/\s'.os=s₁.os/\AllBare s'.gens) s₁) :
  WalkO q loose XP YP l.row.toRowW d [] (fun f vs=>PySem.call f vs):=by
 intro w s₀ s₁ mg mb G Y fa o pm cd doc dV kV ho hd hcd hD hmg hg args vals as hpre hlay hrd hwl hlo
 obtain rfl:dV=.none:=Dflts.none hD hdf
 obtain rfl:kV=.none:=Dflts.noKw hD
 obtain⟨a,vs,ns,rfl,rfl,hobj,hints,hlen⟩:=aQ4 hn hpre hwl
 refine enter_call (codeAny_mono (call w s₀ s₁ mg mb fa o pm cd doc a vs ns G Y ho (fd_plain hd) hcd hmg hobj hints hlen hg) fun r s' hq=>?_)
 obtain⟨rfl,h2,h3,h4⟩:=hq
 exact⟨.inl ⟨.bool true,.bool true,[],rfl,fun _=>rfl,.bool true,aQ8 l _,fun _=>⟨List.Pairwise.nil,fun _ hm=>(nomatch hm)⟩⟩,h2,h3,h4⟩
section
variable {prog:Program}{w:World}{A:Around}{E:Value->Shared->Prop}{s:Shared}{K:Frag}
end
end Att
namespace L2
open PySem PySem.Spec PyProof.Rows
theorem an2:∀{vs:List Value}{ns:List Int},IntsAre vs ns->C1 (ns.map V.int) vs
 | _,_,.nil=>.nil
 | _,_,.cons n t h=>.cons ⟨t,rfl⟩ (an2 h)
noncomputable def bW9(H:Hp):Prop:=∀b,H b=none\/∃o xs,H b=some (.frz o (.lst xs))
theorem be8{P:Program}{w:World}{K:PySem.W.Frag}{mg mb:Str->Option Value}{CX:CXT}{k:Nat}{fa a:Addr}{fd:FuncData}{x:Str}{sp:Sp}{s₁:Shared}{vs:List Value}{ns:List Int}
  (KX:K.In s₁.heap) (hns:s₁.heap.Ns mainGlobals mg) (hb:s₁.heap.Ns builtinsNs mb) (hbb:∀x:Str,x ≠ "__name__" -> mb x=bootBuiltins x) (hlim:s₁.heap.NoLimit) (hg:s₁.gens = #[])
  (ha:s₁.heap.get? a=some { cls:=.type "list", data:=.seq vs.toArray }) (hi:IntsAre vs ns) (hl:ns.length<=sizeLine) (hr:Room k callerA)
  (F:∀base:Heap,K.In base->base.Ns mainGlobals mg->FnOk P w K mg base CX k fa fd [x] sp) (hbind:∀(s:Shared) (u:Value),BindsTo s fd ⟨[u],[]⟩ [(x,u)])
  (hsp:∀H:Hp,bW9 H->SqL K H a (ns.map V.int)->sp [.ref a] H (fun v _=>v=.bl true) fun _ _ _=>False)
  (hCX:∀H e s',CX [] H s₁ (fun _ _ _=>False) e s'->False) :
  codeAny (model P w) callerA (.call (.ref fa) ⟨[.ref a],[]⟩) (fun r s'=>r=.ok (.ret (.bool true))/\OldK s₁.heap s'.heap/\s'.os=s₁.os/\AllBare s'.gens) s₁:=by
 have rv:=an2 hi
 have lenV:=hi.length
 have core:∀H:Hp,bW9 H->SqL K H a (ns.map V.int)->HOk P w H s₁.heap->(∀b,H b≠none->b=a)->(H a≠none->K.lookup a=none) ->
   codeAny (model P w) callerA (.call (.ref fa) ⟨[.ref a],[]⟩) (fun r s'=>r=.ok (.ret (.bool true))/\OldK s₁.heap s'.heap/\s'.os=s₁.os/\AllBare s'.gens) s₁:=by
  intro H hO hS hok hA hK
  have base_of:∀{b:Addr}{o:Obj},s₁.heap.get? b=some o->H b=none->(at5 s₁.heap H).get? b=some o:=fun e n=>bh9 e n
  have noA:∀{b:Addr}{o:Obj}{es:Array DictEntry}{ep:Nat},s₁.heap.get? b=some o->o.data=.dict es ep->H b=none:=fun{b o es ep} e d=>by
   cases q:H b with
   | none=>rfl
   | some u =>
    have e':b=a:=hA b (by rw[q];simp)
    subst e'
    rw[ha]at e;cases e
    have d':Data.seq vs.toArray _=Data.dict es ep:=d
    cases d'
  have nsK:∀{b:Addr}{m:Str->Option Value},s₁.heap.Ns b m->(at5 s₁.heap H).Ns b m:=fun{b m} ⟨o,es,ep,e,d,r⟩=>⟨o,es,ep,base_of e (noA e d),d,r⟩
  have hKb:K.In (at5 s₁.heap H):=fun b o e=>base_of (KX b o e) (by
   cases q:H b with
   | none=>rfl
   | some u =>
    have e':b=a:=hA b (by rw[q];simp)
    subst e'
    rw[hK (by rw[q];simp)]at e;cases e)
  have hM:Mod K mg (at5 s₁.heap H):=⟨hKb,nsK hns,⟨mb,nsK hb,hbb⟩,let⟨mc,h1,h2⟩:=hlim;⟨mc,nsK h1,h2⟩⟩
  have e0:Env0 P w K mg (at5 s₁.heap H) callerA [] s₁ H:=⟨rfl,hM,fun b o e=>bu6 e,Nat.le_of_eq (aS9 _ _),trivial,fun b hb=>absurd (show b∈([]:List Addr) from hb) (by simp),hok,.of_eq hg⟩
  refine codeAny_mono ((F _ hKb (nsK hns)).run callerA [] s₁ H ⟨[.ref a],[]⟩ [.ref a] [.ref a] _ _ hr e0 (hbind s₁ (.ref a)) (.cons rfl .nil) (hsp H hO hS)) fun r s' h=>?_
  cases r with
  | error e=>exact(hCX H e s' h).elim
  | ok fl =>
   cases fl with
   | next=>exact False.elim h
   | brk=>exact False.elim h
   | cont=>exact False.elim h
   | ret u =>
    obtain⟨v,H',os,bare,un,hok',r',q⟩:=h
    have q':v=.bl true:=q
    subst q'
    obtain rfl:u=Value.bool true:=r'
    refine⟨rfl,OldK.of_keep fun b o e=>?_,os,bare⟩
    cases q:H b with
    | none=>exact un.keep b o e q (by intro z;exact absurd (show b∈([]:List Addr) from z) (by simp)) (by simp)
    | some u =>
     rcases hO b with z|⟨ob,xs,z⟩
     ·rw[q]at z;cases z
     ·have z2:=un.frzs b ob _ z
      obtain⟨e1,_⟩:=hok b _ z
      obtain⟨e2,_⟩:=hok' b _ z2
      rw[e]at e1;cases e1
      exact e2
 cases hk:K.lookup a with
 | some o =>
  have e:=KX a o hk
  rw[ha]at e
  cases e
  refine core (fun _=>none) (fun _=>.inl rfl) (.inr ⟨_,vs.toArray,_,hk,rfl,rfl,rfl,by rw[List.size_toArray,lenV];exact hl,by simpa using rv⟩) (fun b u z=>by have z':(none:Option HO)=some u:=z;cases z') (fun b z=>absurd rfl z) fun z=>absurd rfl z
 | none =>
  refine core (fun b=>if b=a then some (.frz { cls:=.type "list", data:=.seq vs.toArray } (.lst (ns.map V.int))) else none) (fun b=>?_) (.inl (.inr ⟨{ cls:=.type "list", data:=.seq vs.toArray },if_pos rfl⟩)) (fun b u z=>?_) (fun b z=>?_) fun _=>hk
  ·by_cases hb:b=a
   ·exact .inr ⟨_,_,if_pos hb⟩
   ·exact .inl (if_neg hb)
  ·by_cases hb:b=a
   ·have z':=(if_pos hb).symm.trans z
    cases z'
    subst hb
    exact⟨ha,by rw[List.length_map];exact hl,vs,_,rv,ha⟩
   ·have z':=(if_neg hb).symm.trans z
    cases z'
  ·by_cases hb:b=a
   ·exact hb
   ·exact absurd (if_neg hb) z
end L2
namespace L2
open PySem PySem.Spec PyProof.Rows
theorem bn7{l:PySem.W.OpenLaw}{n k:Nat}{q:Program}{loose:List Str}{XP:(Str->Option Value)->Heap->Prop}{YP:World->Heap->Prop}{d:DefRec}{K:Params->PySem.W.Frag}{CX:World->CXT}{sp:World->Sp}{x:Str}
  (hn:l.most=some n) (hn2:n<=sizeLine) (hdf:d.params.defaults=[]) (hr:Room k callerA)
  (hY:∀(w:World) (h:Heap),YP w h->(K w.params).In h)
  (F:∀(w:World) (mg:Str->Option Value) (fa:Addr) (h:Heap),(K w.params).In h->h.Ns mainGlobals mg->mg d.name=some (.ref fa) ->
   ∃fd:FuncData,(∀(s:Shared) (u:Value),BindsTo s fd ⟨[u],[]⟩ [(x,u)]) /\
    ∀base:Heap,(K w.params).In base->base.Ns mainGlobals mg->FnOk l.prog w (K w.params) mg base (CX w) k fa fd [x] (sp w))
  (hsp:∀(w:World) (H:Hp) (a:Addr) (ns:List Int),ns.length<=n->bW9 H->SqL (K w.params) H a (ns.map V.int)->sp w [.ref a] H (fun v _=>v=.bl true) fun _ _ _=>False)
  (hCX:∀(w:World) (H:Hp) (s:Shared) (e:Value) (s':Shared),CX w [] H s (fun _ _ _=>False) e s'->False) :
  PySem.W.WalkO q loose XP YP l.row.toRowW d [] (fun f vs=>PySem.call f vs):=by
 refine Att.attach_call hn hdf fun w s₀ s₁ mg mb fa o pm cd doc a vs ns G Y ho hd hcd hmg hobj hints hlen hg=>?_
 have KX:=hY w _ Y
 obtain⟨fd,hb,hF⟩:=F w mg fa _ KX G.T.g hmg
 exact be8 KX G.T.g G.T.b G.T.builtins G.T.nolimit hg hobj hints (Nat.le_trans hlen hn2) hr hF hb (fun H hO hS=>hsp w H a ns hlen hO hS) fun H e s'=>hCX w H s₁ e s'
end L2
namespace L2
open PySem PySem.Spec PyProof.Rows
noncomputable def Q8(s:Stmt):Arguments:=match s with
 | .FunctionDef _ a _ _ _ _ _ _ _ _=>a
 | _=>{ posonlyargs:=[],args:=[],vararg:=none,kwonlyargs:=[],kw_defaults:=[],kwarg:=none,defaults:=[] }
noncomputable def A7(s:Stmt):List Stmt:=match s with
 | .FunctionDef _ _ b _ _ _ _ _ _ _=>b
 | _=>[]
noncomputable def B3(s:Stmt):Scope:=match s with
 | .FunctionDef _ _ _ _ _ _ sc _ _ _=>sc
 | _=>{ kind:=.function,names:=[],isGenerator:=false,isCoroutine:=false }
noncomputable abbrev CX0:CXT:=fun _ _ _ _ _ _=>False
noncomputable abbrev E0:XK:=fun _ _ _=>False
theorem aa0:i8 CX0 X E0:=fun _ _ _ _ _ _ _ h=>h.elim
structure Fun (K:PySem.W.Frag) (x qual:Str) (st:Stmt) (f:Addr) (fd:FuncData):Prop where
 ex:∃(oc:Value) (od:Option Addr) (kV doc pm:Value) (an:Option Addr) (cdv ct:Value) (osl:Array (Option Value)),
  fd=PySem.W.fnOf x qual (Q8 st) (A7 st) (B3 st) .none kV doc pm an cdv ct/\K.lookup f=some ⟨oc,od,.func fd,osl⟩/\PySem.W.codeIn K cdv qual=true
 kp:PySem.W.keepIn K (.ref f)=true
section
variable {P:Program}{w:World}{K:PySem.W.Frag}{mg:Str->Option Value}{base:Heap}
theorem Fun.ok{x qual:Str}{st:Stmt}{f:Addr}{fd:FuncData}{N ps:List Str}{k:Nat}{sp:Sp}(F:Fun K x qual st f fd) (S:FnScope N ps (B3 st)) (len:∀vs H Q E,sp vs H Q E->vs.length=ps.length)
  (hbody:∀(cdv:Value) (A:Around) (outer:List Env) (s:Shared) (H:Hp) (vs:List V) (Q:VK) (E:XK),Room k (A.deeper (envOfC qual (B3 st) s.heap.objs.size f cdv))->sp vs H Q E ->
   ∃t,PSs (t9 CX0 P w K mg base N qual (B3 st) f cdv A outer s H E).nox (A7 st) t/\t { nx:=fun _ H'=>Q .non H',rt:=Q } (start N vs) H):FnOk P w K mg base CX0 (k+1) f fd ps sp:=by
 obtain⟨oc,od,kV,doc,pm,an,cdv,ct,osl,rfl,lk,hcd⟩:=F.ex
 refine ch1 lk hcd S len fun A outer s H vs Q E hr hsp=>?_
 obtain⟨t,h,q⟩:=hbody cdv A outer s H vs Q E hr hsp
 exact⟨t,h.nox,q⟩
theorem al3{x qual:Str}{st:Stmt}{f:Addr}{oc:Value}{od an:Option Addr}{osl:Array (Option Value)}{kV doc pm cdv ct:Value}(l:K.lookup f=some ⟨oc,od,.func (PySem.W.fnOf x qual (Q8 st) (A7 st) (B3 st) .none kV doc pm an cdv ct),osl⟩)
  (c:PySem.W.codeIn K cdv qual=true) (k:PySem.W.keepIn K (.ref f)=true):Fun K x qual st f (PySem.W.fnOf x qual (Q8 st) (A7 st) (B3 st) .none kV doc pm an cdv ct):=⟨⟨oc,od,kV,doc,pm,an,cdv,ct,osl,rfl,l,c⟩,k⟩
end
theorem O9(h:n<=1000):n < sizeLine:=Nat.lt_of_le_of_lt h (by decide)
section
variable {X:Cx}
theorem pv(i:Nat) (hN:X.N[i]? = some x:=by rfl) (hv:Vis X.env.scope x:=by first|exact Or.inl rfl|exact Or.inr (Or.inl rfl)|exact Or.inr (Or.inr rfl)) (hd:(x==("__debug__" : Str))=false:=by decide)
  (hcd:(x==("__classdict__" : Str))=false:=by decide):PE X (.Name x pos) (bI0 i):=M4 hN hv hd hcd
end
theorem l6{A B:Prop}(h:B):if false=true then A else B:=by
 rw[if_neg Bool.false_ne_true]
 exact h
theorem i4{A B:Prop}(h:A):if true=true then A else B:=by
 rw[if_pos rfl]
 exact h
noncomputable def B2(H H':Hp):Prop:=∀b o,H b=some o->H' b=some o
theorem B2.refl(H:Hp):B2 H H:=fun _ _ h=>h
theorem B2.trans(a:B2 H H1) (b:B2 H1 H2):B2 H H2:=fun c o h=>b c o (a c o h)
theorem B2.free(e:B2 H H') (h:H' l=Option.none):H l=Option.none:=by
 cases q:H l with
 | none=>rfl
 | some o =>
  rw[e l o q]at h
  cases h
end L2
set_option maxHeartbeats 4000000
namespace G
theorem xbm{α β:Type}{o:Option α}{f:α->Option β}{b:β}(h:o.bind f=some b):∃a,o=some a/\f a=some b:=Option.bind_eq_some_iff.mp h
open PySem PySem.Spec PyProof.Rows L2
noncomputable abbrev D:=PyData
mutual
noncomputable def Rep(K:PySem.W.Frag) (H:Hp):D->V->Prop
 | .none,v=>v=.non
 | .bool b,v=>v=.bl b
 | .int i,v=>v=.int i
 | .str x,v=>v=.str x
 | .tuple ds,v=>∃a vs,v=.ref a/\SqT K H a vs/\Reps K H ds vs
 | .list ds,v=>∃a vs,v=.ref a/\SqL K H a vs/\Reps K H ds vs
 | .dict kvs,v=>∃a m,v=.ref a/\H a=some (.dK m)/\RepKs K H kvs m
noncomputable def Reps(K:PySem.W.Frag) (H:Hp):List D->List V->Prop
 | [],vs=>vs=[]
 | d::ds,vs=>∃v r,vs=v::r/\Rep K H d v/\Reps K H ds r
/-- a dict by texts -/
noncomputable def RepKs(K:PySem.W.Frag) (H:Hp):List (D×D)->List (Key×V)->Prop
 | [],m=>m=[]
 | (k,d)::r,m=>∃x v t,k=.str x/\m=(.inr x,v)::t/\Rep K H d v/\RepKs K H r t
end
section
variable {K:PySem.W.Frag}{H H' H0 H1 H2 Hf Hf' Hf1 Hf2:Hp}
theorem aJ6(e:B2 H H') (h:Rd H a u):Rd H' a u:=by
 rcases h with h|⟨o,h⟩
 ·exact .inl (e _ _ h)
 ·exact .inr ⟨o,e _ _ h⟩
theorem B6(e:B2 H H') (h:SqT K H a xs):SqT K H' a xs:=h.imp (aJ6 e) id
theorem D6(e:B2 H H') (h:SqL K H a xs):SqL K H' a xs:=h.imp (aJ6 e) id
mutual
theorem Rep.mono(e:B2 H H'):∀{d:D}{v:V},Rep K H d v->Rep K H' d v
 | .none,_,h=>h
 | .bool _,_,h=>h
 | .int _,_,h=>h
 | .str _,_,h=>h
 | .tuple _,_,⟨a,vs,h1,h2,h3⟩=>⟨a,vs,h1,B6 e h2,Reps.mono e h3⟩
 | .list _,_,⟨a,vs,h1,h2,h3⟩=>⟨a,vs,h1,D6 e h2,Reps.mono e h3⟩
 | .dict _,_,⟨a,m,h1,h2,h3⟩=>⟨a,m,h1,e _ _ h2,RepKs.mono e h3⟩
theorem Reps.mono(e:B2 H H'):∀{ds:List D}{vs:List V},Reps K H ds vs->Reps K H' ds vs
 | [],_,h=>h
 | _::_,_,⟨v,r,h1,h2,h3⟩=>⟨v,r,h1,Rep.mono e h2,Reps.mono e h3⟩
theorem RepKs.mono(e:B2 H H'):∀{ds:List (D×D)}{vs:List (Key×V)},RepKs K H ds vs->RepKs K H' ds vs
 | [],_,h=>h
 | (_,_)::_,_,⟨x,v,t,h1,h2,h3,h4⟩=>⟨x,v,t,h1,h2,Rep.mono e h3,RepKs.mono e h4⟩
end
theorem Reps.length:∀{ds:List D}{vs:List V},Reps K H ds vs->vs.length=ds.length
 | [],_,h=>by cases h;rfl
 | _::_,_,⟨v,r,h1,h2,h3⟩=>by subst h1;simp[Reps.length h3]
theorem Reps.get:∀{ds:List D}{vs:List V}{i:Nat}{d:D},Reps K H ds vs->ds[i]? = some d->∃v,vs[i]? = some v/\Rep K H d v
 | [],_,_,_,_,e=>by simp at e
 | x::_,_,0,_,⟨v,r,h1,h2,h3⟩,e=>by subst h1;simp at e;subst e;exact⟨v,rfl,h2⟩
 | x::_,_,i+1,_,⟨v,r,h1,h2,h3⟩,e=>by
  subst h1
  obtain⟨u,q1,q2⟩:=Reps.get (i:=i) h3 (by simpa using e)
  exact⟨u,by simpa using q1,q2⟩
theorem Reps.append:∀{ds es:List D}{vs us:List V},Reps K H ds vs->Reps K H es us->Reps K H (ds++es) (vs++us)
 | [],_,_,_,h,q=>by cases h;exact q
 | _::_,_,_,_,⟨v,r,h1,h2,h3⟩,q=>by subst h1;exact⟨v,r++_,rfl,h2,Reps.append h3 q⟩
theorem Reps.take:∀{ds:List D}{vs:List V}(n:Nat),Reps K H ds vs->Reps K H (ds.take n) (vs.take n)
 | [],_,n,h=>by cases h;simp[Reps]
 | _::_,_,0,h=>by simp[Reps]
 | _::_,_,n+1,⟨v,r,h1,h2,h3⟩=>by subst h1;exact⟨v,r.take n,rfl,h2,Reps.take n h3⟩
theorem Reps.drop:∀{ds:List D}{vs:List V}(n:Nat),Reps K H ds vs->Reps K H (ds.drop n) (vs.drop n)
 | [],_,n,h=>by cases h;simp[Reps]
 | _::_,_,0,h=>h
 | _::_,_,n+1,⟨v,r,h1,h2,h3⟩=>by subst h1;exact Reps.drop n h3
theorem Reps.ints:∀(ns:List Int),Reps K H (ns.map PyData.int) (ns.map V.int)
 | []=>rfl
 | n::r=>⟨.int n,r.map V.int,rfl,rfl,Reps.ints r⟩
theorem Reps.flatten(h:Reps K H ds vs):∀k:Nat,Reps K H (List.replicate k ds).flatten (List.replicate k vs).flatten
 | 0=>rfl
 | k+1=>by simp only[List.replicate_succ,List.flatten_cons];exact h.append (Reps.flatten h k)
structure Grow (H Hf H' Hf':Hp):Prop where
 big:B2 H H'
 sub:B2 Hf' H'
 ext:B2 Hf Hf'
 new:∀b,Hf' b≠none->Hf b≠none\/H b=none
theorem Grow.refl(h:B2 Hf H):Grow H Hf H Hf:=⟨B2.refl _,h,B2.refl _,fun _ h=>.inl h⟩
theorem Grow.trans(a:Grow H Hf H1 Hf1) (b:Grow H1 Hf1 H2 Hf2):Grow H Hf H2 Hf2 :=
 ⟨a.big.trans b.big,b.sub,a.ext.trans b.ext,fun x h=>(b.new x h).elim (a.new x) fun z=>.inr (a.big.free z)⟩
theorem C4(h:H p=none):B2 H (upd H p o):=fun b u e=>by rw[A4 (A9 e h)];exact e
theorem Grow.laid(s:B2 Hf H) (h:H p=none):Grow H Hf (upd H p o) (upd Hf p o):=by
 refine⟨C4 h,fun b u e=>?_,C4 (s.free h),fun b e=>?_⟩
 ·by_cases q:b=p
  ·subst q;rw[A3]at e;rw[A3];exact e
  ·rw[A4 q]at e;rw[A4 q];exact s b u e
 ·by_cases q:b=p
  ·subst q;exact .inr h
  ·rw[A4 q]at e;exact .inl e
theorem Grow.made(s:B2 Hf H) (h:H p=none):Grow H Hf (upd H p o) Hf :=
 ⟨C4 h,s.trans (C4 h),B2.refl _,fun _ e=>.inl e⟩
theorem Grow.freeze(g:Grow H Hf H1 Hf1) (h:H1 p=some o) (n:Hf1 p=none) (f:H p=none):Grow H Hf H1 (upd Hf1 p o):=by
 refine⟨g.big,fun b u e=>?_,g.ext.trans (C4 n),fun b e=>?_⟩
 ·by_cases q:b=p
  ·subst q;rw[A3]at e;rw[h];exact e
  ·rw[A4 q]at e;exact g.sub b u e
 ·by_cases q:b=p
  ·subst q;exact .inr f
  ·rw[A4 q]at e;exact g.new b e
end
inductive B where
 | val (d:D)
 | own (ds:List D)
 | exc (x:Str)
 | opq (a:Addr)
noncomputable abbrev Rho:=List (Option B)
noncomputable def clA(K:PySem.W.Frag) (x:Str):Option Addr:=match PySem.W.nsIn K mainGlobals x with
 | some (some (.ref C))=>some C
 | _=>none
noncomputable def SB(K:PySem.W.Frag) (H0 H Hf:Hp):B->V->Prop
 | .val d,v=>Rep K Hf d v
 | .own ds,v=>∃a vs,v=.ref a/\H a=some (.lst vs)/\Hf a=none/\H0 a=none/\Reps K Hf ds vs
 | .exc x,v=>∃a o C,v=.ref a/\Hf a=some (.frz o (.own a))/\clA K x=some C/\o.cls=.ref C
 | .opq a,v=>v=.ref a
structure Slots (K:PySem.W.Frag) (H0:Hp) (ρ:Rho) (σ:L2.St) (H Hf:Hp):Prop where
 len:ρ.length=σ.length
 is:∀(i:Nat) (b:B),ρ[i]? = some (some b)->∃v,σ[i]? = some (some v)/\SB K H0 H Hf b v
 apart:∀(i j:Nat) (ds es:List D) (a:Addr),ρ[i]? = some (some (.own ds))->ρ[j]? = some (some (.own es))->σ[i]? = some (some (V.ref a))->σ[j]? = some (some (V.ref a))->i=j
section
variable {K:PySem.W.Frag}{H H' H0 H1 H2 Hf Hf' Hf1 Hf2:Hp}{ρ:Rho}{σ:L2.St}
theorem SB.grow(h:SB K H0 H Hf b v) (g:Grow H Hf H' Hf'):SB K H0 H' Hf' b v:=by
 cases b with
 | val d=>exact Rep.mono g.ext h
 | opq a=>exact h
 | exc C =>
  obtain⟨a,o,C,e,h1,h2⟩:=h
  exact⟨a,o,C,e,g.ext _ _ h1,h2⟩
 | own ds =>
  obtain⟨a,vs,e,h1,h2,h3,h4⟩:=h
  refine⟨a,vs,e,g.big _ _ h1,?_,h3,h4.mono g.ext⟩
  cases q:Hf' a with
  | none=>rfl
  | some u =>
   rcases g.new a (by rw[q];simp) with z|z
   ·exact absurd h2 z
   ·rw[h1]at z;cases z
theorem Slots.grow(s:Slots K H0 ρ σ H Hf) (g:Grow H Hf H' Hf'):Slots K H0 ρ σ H' Hf' :=
 ⟨s.len,fun i b e=>let⟨v,h1,h2⟩:=s.is i b e;⟨v,h1,h2.grow g⟩,s.apart⟩
end
noncomputable abbrev DE:=Rho->Option D
noncomputable def tJ(K:PySem.W.Frag) (ρ:Rho) (R:Hp->V->Hp->Hp->Prop):TE:=fun σ H Q=>∃H0 Hf,B2 Hf H/\Slots K H0 ρ σ H Hf/\∀v H' Hf',Grow H Hf H' Hf'->R H v H' Hf'->Q v H'
noncomputable def JE(X:Cx) (e:Expr) (f:DE):Prop:=∀ρ d,f ρ=some d->PE X e (tJ X.K ρ fun _ v _ Hf=>Rep X.K Hf d v)
noncomputable def Sq(K:PySem.W.Frag):Bool->Hp->Addr->List V->Prop
 | true=>SqT K
 | false=>SqL K
noncomputable def RQ(K:PySem.W.Frag) (t:Bool) (ds:List D) (v:V) (H Hf:Hp):Prop:=∃a vs,v=.ref a/\Sq K t H a vs/\Reps K Hf ds vs
noncomputable def JQ(X:Cx) (e:Expr) (f:Rho->Option (Bool×List D)):Prop:=∀ρ t ds,f ρ=some (t,ds)->PE X e (tJ X.K ρ fun _ v H Hf=>RQ X.K t ds v H Hf)
noncomputable def JN(X:Cx) (e:Expr) (f:Rho->Option (List D)):Prop:=∀ρ ds,f ρ=some ds->PE X e (tJ X.K ρ fun H v H' Hf'=>∃a vs,v=.ref a/\H a=none/\H' a=some (.lst vs)/\Hf' a=none/\Reps X.K Hf' ds vs)
noncomputable def tJA(K:PySem.W.Frag) (ρ:Rho) (ds:List D):TA:=fun σ H Q=>∃H0 Hf,B2 Hf H/\Slots K H0 ρ σ H Hf/\∀vs H' Hf',Grow H Hf H' Hf'->Reps K Hf' ds vs->Q vs H'
structure JA (X:Cx) (es:List Expr) (f:Rho->Option (List D)):Prop where
 len:∀ρ ds,f ρ=some ds->ds.length=es.length
 run:∀ρ ds,f ρ=some ds->PA X es (tJA X.K ρ ds)
noncomputable def JT(X:Cx) (e:Expr) (f:Rho->Option Bool):Prop:=∀ρ c,f ρ=some c->PT X e (fun σ H Q=>∃H0 Hf,B2 Hf H/\Slots X.K H0 ρ σ H Hf/\∀H' Hf',Grow H Hf H' Hf'->Q c H')
noncomputable def JW(X:Cx) (e:Expr) (f:Rho->Option Bool):Prop:=∀ρ c,f ρ=some c->PW X e (fun σ H Q=>∃H0 Hf,B2 Hf H/\Slots X.K H0 ρ σ H Hf/\∀H' Hf',Grow H Hf H' Hf'->Q c H')
section
variable {X:Cx}
theorem A5(h:PE X e t) (i:∀σ H Q,t' σ H Q->t σ H Q):PE X e t':=fun pins s σ H Q I q=>h pins s σ H Q I (i σ H Q q)
theorem W4(h:PT X e t) (i:∀σ H Q,t' σ H Q->t σ H Q):PT X e t':=fun pins s σ H Q I q=>h pins s σ H Q I (i σ H Q q)
noncomputable def dC(d:D):DE:=fun _=>some d
noncomputable def A2(i:Nat):DE:=fun ρ=>match ρ[i]? with
 | some (some (.val d))=>some d
 | _=>none
noncomputable def C3(i:Nat):Rho->Option (Bool×List D):=fun ρ=>match ρ[i]? with
 | some (some (.own ds))=>some (false,ds)
 | some (some (.val (.list ds)))=>some (false,ds)
 | some (some (.val (.tuple ds)))=>some (true,ds)
 | _=>none
noncomputable def aY1:D->Option (Bool×List D)
 | .list ds=>some (false,ds)
 | .tuple ds=>some (true,ds)
 | _=>none
theorem ad5:JE X (.Constant (.int i) j pos) (dC (.int i)):=fun ρ d h=>by
 cases h
 exact A5 bL3 fun σ H Q ⟨H0,Hf,s,sl,k⟩=>k _ H Hf (Grow.refl s) rfl
theorem cg2:JE X (.Constant (.bool b) j pos) (dC (.bool b)):=fun ρ d h=>by
 cases h
 exact A5 cc6 fun σ H Q ⟨H0,Hf,s,sl,k⟩=>k _ H Hf (Grow.refl s) rfl
theorem aF4:JE X (.Constant .none j pos) (dC .none):=fun ρ d h=>by
 cases h
 exact A5 bL2 fun σ H Q ⟨H0,Hf,s,sl,k⟩=>k _ H Hf (Grow.refl s) rfl
theorem at0:JE X (.Constant (.str x) j pos) (dC (.str x)):=fun ρ d h=>by
 cases h
 exact A5 bK9 fun σ H Q ⟨H0,Hf,s,sl,k⟩=>k _ H Hf (Grow.refl s) rfl
theorem aF3(i:Nat) (hN:X.N[i]? = some x:=by rfl) (hv:Vis X.env.scope x:=by first|exact Or.inl rfl|exact Or.inr (Or.inl rfl)|exact Or.inr (Or.inr rfl)) (hd:(x==("__debug__" : Str))=false:=by decide)
  (hcd:(x==("__classdict__" : Str))=false:=by decide):JE X (.Name x pos) (A2 i):=fun ρ d h=>by
 refine A5 (M4 hN hv hd hcd) fun σ H Q ⟨H0,Hf,s,sl,k⟩=>?_
 unfold A2 at h
 split at h
 ·rename_i d' e
  cases h
  obtain⟨v,h1,h2⟩:=sl.is i _ e
  exact⟨v,h1,k v H Hf (Grow.refl s) h2⟩
 ·cases h
theorem bR4(i:Nat) (hN:X.N[i]? = some x:=by rfl) (hv:Vis X.env.scope x:=by first|exact Or.inl rfl|exact Or.inr (Or.inl rfl)|exact Or.inr (Or.inr rfl)) (hd:(x==("__debug__" : Str))=false:=by decide)
  (hcd:(x==("__classdict__" : Str))=false:=by decide):JQ X (.Name x pos) (C3 i):=fun ρ t ds h=>by
 refine A5 (M4 hN hv hd hcd) fun σ H Q ⟨H0,Hf,s,sl,k⟩=>?_
 unfold C3 at h
 split at h
 ·rename_i d' e
  cases h
  obtain⟨v,h1,a,vs,rfl,h2,h3,h4,h5⟩:=sl.is i _ e
  exact⟨_,h1,k _ H Hf (Grow.refl s) ⟨a,vs,rfl,SqL.of h2,h5⟩⟩
 ·rename_i d' e
  cases h
  obtain⟨v,h1,a,vs,rfl,h2,h3⟩:=sl.is i _ e
  exact⟨_,h1,k _ H Hf (Grow.refl s) ⟨a,vs,rfl,D6 s h2,h3⟩⟩
 ·rename_i d' e
  cases h
  obtain⟨v,h1,a,vs,rfl,h2,h3⟩:=sl.is i _ e
  exact⟨_,h1,k _ H Hf (Grow.refl s) ⟨a,vs,rfl,B6 s h2,h3⟩⟩
 ·cases h
theorem Rep.seq{K:PySem.W.Frag}{H Hf:Hp}{d:D}{v:V}{t:Bool}{ds:List D}(h:Rep K Hf d v) (s:B2 Hf H) (e:aY1 d=some (t,ds)):RQ K t ds v H Hf:=by
 cases d with
 | list xs=>cases e;obtain⟨a,vs,e1,e2,e3⟩:=h;exact⟨a,vs,e1,D6 s e2,e3⟩
 | tuple xs=>cases e;obtain⟨a,vs,e1,e2,e3⟩:=h;exact⟨a,vs,e1,B6 s e2,e3⟩
 | _=>cases e
noncomputable def qE(f:DE):Rho->Option (Bool×List D):=fun ρ=>(f ρ).bind aY1
theorem az1(h:JE X e f):JQ X e (qE f):=fun ρ t ds q=>by
 obtain⟨d,h1,h2⟩:=xbm q
 exact A5 (h ρ d h1) fun σ H Q ⟨H0,Hf,s,sl,k⟩=>⟨H0,Hf,s,sl,fun v H' Hf' g r=>k v H' Hf' g (r.seq g.sub h2)⟩
noncomputable def A8:Rho->Option (List D):=fun _=>some []
noncomputable def A0(f:DE) (g:Rho->Option (List D)):Rho->Option (List D):=fun ρ=>(f ρ).bind fun d=>(g ρ).map fun ds=>d::ds
theorem R8:JA X [] A8:=⟨fun ρ ds h=>by cases h;rfl,fun ρ ds h pos pins s σ H Q I ⟨H0,Hf,ss,sl,k⟩=>by
 cases h
 exact F6 pos pins s σ H Q I (k [] H Hf (Grow.refl ss) rfl)⟩
theorem E2(h:JE X e f) (r:JA X es g) (hs:starEach (e::es) X.env=(false,eval e X.env)::starEach es X.env:=by rfl):JA X (e::es) (A0 f g):=by
 refine⟨fun ρ ds q=>?_,fun ρ ds q=>?_⟩
 ·obtain⟨d,h1,h2⟩:=xbm q
  obtain⟨es',h3,h4⟩:=Option.map_eq_some_iff.mp h2
  subst h4
  simp[r.len ρ es' h3]
 ·obtain⟨d,h1,h2⟩:=xbm q
  obtain⟨es',h3,h4⟩:=Option.map_eq_some_iff.mp h2
  subst h4
  intro pos pins s σ H Q I ⟨H0,Hf,ss,sl,k⟩
  refine B8 (h ρ d h1) (r.run ρ es' h3) hs pos pins s σ H Q I ⟨H0,Hf,ss,sl,fun v H1 Hf1 g1 r1=>⟨H0,Hf1,g1.sub,sl.grow g1,fun vs H2 Hf2 g2 r2=>?_⟩⟩
  exact k (v::vs) H2 Hf2 (g1.trans g2) ⟨v,vs,rfl,r1.mono g2.ext,r2⟩
noncomputable def Q9(f:Rho->Option (List D)):DE:=fun ρ=>(f ρ).map PyData.tuple
theorem bS3(h:JA X es f) (hn:es.length<=1000:=by decide):JE X (.Tuple es k pos) (Q9 f):=fun ρ d q=>by
 obtain⟨ds,h1,h2⟩:=Option.map_eq_some_iff.mp q
 subst h2
 refine A5 (aE4 fun pos pins s σ H Q I t=>h.run ρ ds h1 pos pins s σ H Q I t) fun σ H Q ⟨H0,Hf,s,sl,k⟩=>?_
 refine⟨H0,Hf,s,sl,fun vs H1 Hf1 g r=>⟨?_,fun p hp=>?_⟩⟩
 ·rw[r.length,h.len ρ ds h1];exact Nat.le_of_lt (O9 hn)
 ·exact k _ _ _ (g.trans (Grow.laid g.sub hp)) ⟨p,vs,rfl,SqT.of A3,r.mono (Grow.laid (o:=.tup vs) g.sub hp).ext⟩
theorem bR6(h:JA X es f) (hn:es.length<=1000:=by decide):JN X (.List es pos) f:=fun ρ ds h1=>by
 refine A5 (ak0 fun pos pins s σ H Q I t=>h.run ρ ds h1 pos pins s σ H Q I t) fun σ H Q ⟨H0,Hf,s,sl,k⟩=>?_
 refine⟨H0,Hf,s,sl,fun vs H1 Hf1 g r=>⟨?_,fun p hp=>?_⟩⟩
 ·rw[r.length,h.len ρ ds h1];exact Nat.le_of_lt (O9 hn)
 ·exact k _ _ _ (g.trans (Grow.made g.sub hp)) ⟨p,vs,rfl,g.big.free hp,A3,g.sub.free hp,r⟩
noncomputable def ab6(f:Rho->Option (List D)):DE:=fun ρ=>(f ρ).map PyData.list
theorem al0(h:JN X e f):JE X e (ab6 f):=fun ρ d q=>by
 obtain⟨ds,h1,h2⟩:=Option.map_eq_some_iff.mp q
 subst h2
 refine A5 (h ρ ds h1) fun σ H Q ⟨H0,Hf,s,sl,k⟩=>⟨H0,Hf,s,sl,fun v H' Hf' g ⟨a,vs,e1,e2,e3,e4,e5⟩=>?_⟩
 subst e1
 exact k _ _ _ (g.freeze e3 e4 e2) ⟨a,vs,rfl,SqL.of A3,e5.mono (C4 e4)⟩
theorem bf9(h:JN X e f):JQ X e (fun ρ=>(f ρ).map fun ds=>(false,ds)):=fun ρ t ds q=>by
 obtain⟨ds',h1,h2⟩:=Option.map_eq_some_iff.mp q
 cases h2
 refine A5 (h ρ ds h1) fun σ H Q ⟨H0,Hf,s,sl,k⟩=>⟨H0,Hf,s,sl,fun v H' Hf' g ⟨a,vs,e1,e2,e3,e4,e5⟩=>?_⟩
 subst e1
 exact k _ _ _ g ⟨a,vs,rfl,SqL.of e3,e5⟩
noncomputable def OpD(X:Cx) (F:Value->Value->Sem Value) (h:D->D->Option D):Prop:=∀x y z,h x y=some z ->
 OpR X F fun vx vy H Q=>∃Hf,B2 Hf H/\Rep X.K Hf x vx/\Rep X.K Hf y vy/\∀v H' Hf',Grow H Hf H' Hf'->Rep X.K Hf' z v->Q v H'
noncomputable def A6(h:D->D->Option D) (f g:DE):DE:=fun ρ=>(f ρ).bind fun x=>(g ρ).bind fun y=>h x y
theorem Y3(o:OpD X (binaryOp op) h) (ha:JE X a f) (hb:JE X b g):JE X (.BinOp a op b pos) (A6 h f g):=fun ρ d q=>by
 obtain⟨x,h1,q⟩:=xbm q
 obtain⟨y,h2,h3⟩:=xbm q
 refine A5 (bC6 (o x y d h3) (ha ρ x h1) (hb ρ y h2)) fun σ H Q ⟨H0,Hf,s,sl,k⟩=>?_
 refine⟨H0,Hf,s,sl,fun v H1 Hf1 g1 r1=>⟨H0,Hf1,g1.sub,sl.grow g1,fun u H2 Hf2 g2 r2=>?_⟩⟩
 exact⟨Hf2,g2.sub,r1.mono g2.ext,r2,fun w H3 Hf3 g3 r3=>k w H3 Hf3 ((g1.trans g2).trans g3) r3⟩
theorem bT3(o:OpD X (compareOp op) h) (ha:JE X a f) (hb:JE X b g) (hm:behindInMarks op b=false:=by first|exact as5 _|rfl):JE X (.Compare a [op] [b] pos) (A6 h f g):=fun ρ d q=>by
 obtain⟨x,h1,q⟩:=xbm q
 obtain⟨y,h2,h3⟩:=xbm q
 refine A5 (aK8 (o x y d h3) (ha ρ x h1) (hb ρ y h2) hm) fun σ H Q ⟨H0,Hf,s,sl,k⟩=>?_
 refine⟨H0,Hf,s,sl,fun v H1 Hf1 g1 r1=>⟨H0,Hf1,g1.sub,sl.grow g1,fun u H2 Hf2 g2 r2=>?_⟩⟩
 exact⟨Hf2,g2.sub,r1.mono g2.ext,r2,fun w H3 Hf3 g3 r3=>k w H3 Hf3 ((g1.trans g2).trans g3) r3⟩
theorem OpR.imp(h:OpR X F r) (i:∀x y H Q,r' x y H Q->r x y H Q):OpR X F r':=fun pins s σ H x y v u Q I rx ry q=>h pins s σ H x y v u Q I rx ry (i x y H Q q)
end
end G
namespace G
open PySem PySem.Spec PyProof.Rows L2
section
variable {X:Cx}
noncomputable def E9(i:Int):Prop:=i.natAbs < 2 ^ 8000
instance:DecidablePred E9:=fun i=>inferInstanceAs (Decidable (i.natAbs < 2 ^ 8000))
theorem E9.log(h:E9 i) (h0:i.natAbs≠0):i.natAbs.log2 < 8000:=(Nat.log2_lt h0).mpr h
theorem E9.bits(h:E9 i):Builtin.Int.intBits i<=2 ^ 20:=by
 unfold Builtin.Int.intBits
 split
 ·exact Nat.zero_le _
 ·rename_i h0
  have:=h.log (by simpa using h0)
  grind
theorem bu0:OpR X (binaryOp .Mult) (rI (fun i j=>E9 i/\E9 j) fun i j=>.int (i*j)):=opI fun _ _ _ _ _ _ _ hc q=>mul_int q (PySem.IntMulOk.of_bits hc.1.bits hc.2.bits)
noncomputable def ci7(x y:D):Option D:=match x,y with
 | .int i,.int j=>some (.int (i+j))
 | _,_=>none
noncomputable def W1(x y:D):Option D:=match x,y with
 | .int i,.int j=>some (.int (i - j))
 | .int i,.bool b=>some (.int (i - if b=true then 1 else 0))
 | .bool a,.int j=>some (.int ((if a=true then 1 else 0) - j))
 | _,_=>none
noncomputable def bP2(x y:D):Option D:=match x,y with
 | .int i,.int j=>if E9 i/\E9 j then some (.int (i*j)) else none
 | _,_=>none
noncomputable def ab4(x y:D):Option D:=match x,y with
 | .int i,.int j=>if 0 < j/\E9 j then some (.int (i / j)) else none
 | _,_=>none
noncomputable def W5(x y:D):Option D:=match x,y with
 | .int i,.int j=>if 0 < j then some (.int (i % j)) else none
 | _,_=>none
theorem cl7:OpD X (binaryOp .Add) ci7:=fun x y z h=>by
 unfold ci7 at h
 split at h
 ·cases h
  exact OpR.imp bc0 fun vx vy H Q ⟨Hf,s,r1,r2,k⟩=>⟨_,_,r1,r2,k _ H Hf (Grow.refl s) rfl⟩
 ·cases h
theorem bN0:OpD X (binaryOp .Sub) W1:=fun x y z h=>by
 unfold W1 at h
 split at h
 ·cases h
  exact OpR.imp bM4 fun vx vy H Q ⟨Hf,s,r1,r2,k⟩=>⟨_,_,r1,r2,k _ H Hf (Grow.refl s) rfl⟩
 ·cases h
  intro pins s σ H vx vy v u Q I rx ry ⟨Hf,ss,r1,r2,k⟩
  cases r1;cases r2
  obtain⟨t,rfl⟩:=rx
  obtain rfl:u=Value.bool _:=ry
  exact PySem.IntBool.sub_int_bool ⟨.int _,H,I.tok _,⟨_,rfl⟩,k _ H Hf (Grow.refl ss) rfl⟩
 ·cases h
  intro pins s σ H vx vy v u Q I rx ry ⟨Hf,ss,r1,r2,k⟩
  cases r1;cases r2
  obtain⟨t,rfl⟩:=ry
  obtain rfl:v=Value.bool _:=rx
  exact PySem.IntBool.sub_bool_int ⟨.int _,H,I.tok _,⟨_,rfl⟩,k _ H Hf (Grow.refl ss) rfl⟩
 ·cases h
theorem bN1:OpD X (binaryOp .Mult) bP2:=fun x y z h=>by
 unfold bP2 at h
 split at h
 ·split at h
  ·rename_i c
   cases h
   exact OpR.imp bu0 fun vx vy H Q ⟨Hf,s,r1,r2,k⟩=>⟨_,_,r1,r2,c,k _ H Hf (Grow.refl s) rfl⟩
  ·cases h
 ·cases h
theorem aR3:OpR X (binaryOp .FloorDiv) (rI (fun _ j=>0 < j/\E9 j) fun i j=>.int (i / j)):=opI fun i j _ _ s Q E hc q=>by
 have e:i.fdiv j=i / j:=Int.fdiv_eq_ediv_of_nonneg i (Int.le_of_lt hc.1)
 refine floordiv_int (by grind) (by rw[e];exact q) (.inl (PyProof.noPylong_of_log2 ?_))
 have h2:=hc.2.log (by grind)
 grind
theorem bN3:OpD X (binaryOp .FloorDiv) ab4:=fun x y z h=>by
 unfold ab4 at h
 split at h
 ·split at h
  ·rename_i c
   cases h
   exact OpR.imp aR3 fun vx vy H Q ⟨Hf,s,r1,r2,k⟩=>⟨_,_,r1,r2,c,k _ H Hf (Grow.refl s) rfl⟩
  ·cases h
 ·cases h
theorem bN2:OpD X (binaryOp .Mod) W5:=fun x y z h=>by
 unfold W5 at h
 split at h
 ·split at h
  ·rename_i c
   cases h
   exact OpR.imp bM5 fun vx vy H Q ⟨Hf,s,r1,r2,k⟩=>⟨_,_,r1,r2,c,k _ H Hf (Grow.refl s) rfl⟩
  ·cases h
 ·cases h
theorem bb9:OpR X (binaryOp .Add) (fun x y H Q=>∃a b ys,x=.ref a/\y=.ref b/\SqT X.K H a []/\SqT X.K H b ys/\Q (.ref b) H):=by
 intro pins s σ H x y v u Q I rx ry h
 obtain⟨a,b,ys,rfl,rfl,ha,hb,q⟩:=h
 cases rx
 cases ry
 obtain⟨its,r1,p1,_⟩:=I.tuple ha
 obtain⟨its2,r2,p2,_⟩:=I.tuple hb
 cases r1
 obtain⟨⟨cls,dd,data,sl⟩,ho,hc,n,hd⟩:=id p1
 obtain⟨⟨cls2,dd2,data2,sl2⟩,ho2,hc2,n2,hd2⟩:=id p2
 simp only at hc hd hc2 hd2
 subst hc hd hc2 hd2
 exact concat_meets ⟨_,ho,rfl⟩ ⟨_,ho2,rfl⟩ noFill_tuple_add seq_tuple_add PySem.F.slot_tuple_add PySem.F.entry_tuple_add (PySem.F.args_tuple_add_2 _ _)
   (tuple_addW0 a b _ its2.toArray n n2 dd dd2 sl sl2 (by rfl)) ⟨ho,ho2,⟨.ref b,H,I,rfl,q⟩⟩
noncomputable def Y6(x y:D):Option D:=match x,y with
 | .tuple xs,.tuple ys=>if xs.length+ys.length<=16777216 then some (.tuple (xs++ys)) else none
 | .str a,.str b=>if a.length+b.length<=16777216 then some (.str (a++b)) else none
 | .int i,.int j=>some (.int (i+j))
 | .bool a,.int j=>some (.int ((if a=true then 1 else 0)+j))
 | _,_=>none
theorem bc8:OpD X (binaryOp .Add) Y6:=fun x y z h=>by
 unfold Y6 at h
 split at h
 ·split at h
  ·rename_i xs ys c
   cases h
   cases xs with
   | nil =>
    refine OpR.imp bb9 fun vx vy H Q ⟨Hf,s,r1,r2,k⟩=>?_
    obtain⟨a,vs,rfl,h2,h3⟩:=r1
    obtain⟨b,us,rfl,h5,h6⟩:=r2
    cases h3
    exact⟨a,b,us,rfl,rfl,B6 s h2,B6 s h5,k _ H Hf (Grow.refl s) ⟨b,us,rfl,h5,h6⟩⟩
   | cons d0 ds0 =>
    refine OpR.imp bu2 fun vx vy H Q ⟨Hf,s,r1,r2,k⟩=>?_
    obtain⟨a,vs,rfl,h2,h3⟩:=r1
    obtain⟨b,us,rfl,h5,h6⟩:=r2
    have l1:=h3.length
    have l2:=h6.length
    refine⟨a,b,vs,us,rfl,rfl,B6 s h2,B6 s h5,?_,by rw[sizeLine_eq];grind,fun e=>?_,fun e p hp=>?_⟩
    ·intro e;subst e;simp at l1
    ·subst e
     have:ys=[]:=by cases ys<;>simp_all
     subst this
     exact k _ H Hf (Grow.refl s) ⟨a,vs,rfl,h2,by rw[List.append_nil];exact h3⟩
    ·exact k _ _ _ (Grow.laid s hp) ⟨p,vs++us,rfl,SqT.of A3,(h3.append h6).mono (C4 (s.free hp))⟩
  ·cases h
 ·split at h
  ·rename_i c
   cases h
   exact OpR.imp aE5 fun vx vy H Q ⟨Hf,s,r1,r2,k⟩=>⟨_,_,r1,r2,by rw[sizeLine_eq];exact c,k _ H Hf (Grow.refl s) rfl⟩
  ·cases h
 ·cases h
  exact OpR.imp bc0 fun vx vy H Q ⟨Hf,s,r1,r2,k⟩=>⟨_,_,r1,r2,k _ H Hf (Grow.refl s) rfl⟩
 ·cases h
  intro pins s σ H vx vy v u Q I rx ry ⟨Hf,ss,r1,r2,k⟩
  cases r1;cases r2
  obtain⟨t,rfl⟩:=ry
  obtain rfl:v=Value.bool _:=rx
  exact PySem.IntBool.add_bool_int ⟨.int _,H,I.tok _,⟨_,rfl⟩,k _ H Hf (Grow.refl ss) rfl⟩
 ·cases h
noncomputable def ltI(x y:D):Option D:=match x,y with
 | .int i,.int j=>some (.bool (decide (i < j)))
 | _,_=>none
noncomputable def leI(x y:D):Option D:=match x,y with
 | .int i,.int j=>some (.bool (decide (i<=j)))
 | _,_=>none
noncomputable def gtI(x y:D):Option D:=match x,y with
 | .int i,.int j=>some (.bool (decide (j < i)))
 | _,_=>none
noncomputable def geI(x y:D):Option D:=match x,y with
 | .int i,.int j=>some (.bool (decide (j<=i)))
 | _,_=>none
theorem cd5:OpD X (compareOp .Lt) ltI:=fun x y z h=>by
 unfold ltI at h
 split at h
 ·cases h
  exact OpR.imp cc7 fun vx vy H Q ⟨Hf,s,r1,r2,k⟩=>⟨_,_,r1,r2,k _ H Hf (Grow.refl s) rfl⟩
 ·cases h
theorem cd6:OpD X (compareOp .LtE) leI:=fun x y z h=>by
 unfold leI at h
 split at h
 ·cases h
  exact OpR.imp cc8 fun vx vy H Q ⟨Hf,s,r1,r2,k⟩=>⟨_,_,r1,r2,k _ H Hf (Grow.refl s) rfl⟩
 ·cases h
theorem cd8:OpD X (compareOp .Gt) gtI:=fun x y z h=>by
 unfold gtI at h
 split at h
 ·cases h
  exact OpR.imp cd0 fun vx vy H Q ⟨Hf,s,r1,r2,k⟩=>⟨_,_,r1,r2,k _ H Hf (Grow.refl s) rfl⟩
 ·cases h
theorem cd9:OpD X (compareOp .GtE) geI:=fun x y z h=>by
 unfold geI at h
 split at h
 ·cases h
  exact OpR.imp cd1 fun vx vy H Q ⟨Hf,s,r1,r2,k⟩=>⟨_,_,r1,r2,k _ H Hf (Grow.refl s) rfl⟩
 ·cases h
mutual
theorem Rep.reads(I:Inv X pins σ H s):∀{d:D}{v:V}{u:Value},Rep X.K H d v->C5 v u->∃as,Reads s.heap u d as
 | .none,_,_,h,r=>by cases h;cases r;exact⟨_,.none⟩
 | .bool b,_,_,h,r=>by cases h;cases r;exact⟨_,.bool b⟩
 | .int i,_,_,h,r=>by cases h;obtain⟨t,rfl⟩:=r;exact⟨_,.int i t⟩
 | .str x,_,_,h,r=>by cases h;obtain⟨t,rfl⟩:=r;exact⟨_,.str x t⟩
 | .tuple ds,_,_,⟨a,vs,h1,h2,h3⟩,r=>by
  subst h1;cases r
  obtain⟨its,rv,⟨o,ho,hc,n,hd⟩,_⟩:=I.tuple h2
  obtain⟨as,q⟩:=Reps.reads I h3 rv
  exact⟨_,.tuple ho hc hd (by simpa using q)⟩
 | .list ds,_,_,⟨a,vs,h1,h2,h3⟩,r=>by
  subst h1;cases r
  obtain⟨its,rv,pl,_⟩:=I.list h2
  obtain⟨o,ho,hc,n,hd⟩:=pl.isList
  obtain⟨as,q⟩:=Reps.reads I h3 rv
  exact⟨_,.list ho hc hd (by simpa using q)⟩
 | .dict kvs,_,_,⟨a,m,h1,h2,h3⟩,r=>by
  subst h1;cases r
  obtain⟨_,_,vs,rk,o,es,ep,ho,hx,hd,_,hp,_⟩:=(show O8 X.prog X.w H s.heap a (.dK m) from I.hok a _ h2)
  obtain⟨as,bs,q1,q2⟩:=RepKs.reads I h3 rk hp
  exact⟨_,.dict ho hx.1 hd q1 q2⟩
theorem RepKs.reads(I:Inv X pins σ H s):∀{kvs:List (D×D)}{m:List (Key×V)}{vs:List (Key×Value)}{es:List DictEntry},RepKs X.K H kvs m->KV m vs->Pairs (K7 X.prog X.w) es vs ->
  ∃as bs,ReadsAll s.heap (es.map (·.key)) (kvs.map (·.1)) as/\ReadsAll s.heap (es.map (·.val)) (kvs.map (·.2)) bs
 | [],_,_,_,h,r,p=>by cases h;cases r;cases p;exact⟨_,_,.nil,.nil⟩
 | (k,d)::kvs,_,_,_,⟨x,v,t,h1,h2,h3,h4⟩,r,p=>by
  subst h1 h2
  cases r with
  | @cons _ b _ bs r1 r2 =>
   cases p with
   | @cons e kv es _ p1 p2 p3 =>
    obtain⟨as,cs,q1,q2⟩:=RepKs.reads I h4 r2 p3
    obtain⟨r1,r3⟩:=r1
    rw[← p2]at r3
    obtain⟨ds,q3⟩:=Rep.reads I h3 r3
    rw[← r1]at p1
    have hk:∃t,e.key=.str x t:=Value.isStrOf_shape (x:=x) (v:=e.key) p1
    obtain⟨t,hk⟩:=hk
    refine⟨_,_,.cons (as:=[]) ?_ q1,.cons q3 q2⟩
    show Reads s.heap e.key (.str x) []
    rw[hk];exact .str x t
theorem Reps.reads(I:Inv X pins σ H s):∀{ds:List D}{vs:List V}{us:List Value},Reps X.K H ds vs->C1 vs us->∃as,ReadsAll s.heap us ds as
 | [],_,_,h,r=>by cases h;cases r;exact⟨_,.nil⟩
 | d::ds,_,_,⟨v,vr,h1,h2,h3⟩,r=>by
  subst h1
  cases r with
  | cons r1 r2 =>
   obtain⟨as,q1⟩:=Rep.reads I h2 r1
   obtain⟨bs,q2⟩:=Reps.reads I h3 r2
   exact⟨_,.cons q1 q2⟩
end
noncomputable def eqD(x y:D):Option D:=if SeqAt.shaped x=true/\SeqAt.shaped y=true then some (.bool (PyData.eqv x y)) else none
noncomputable def neD(x y:D):Option D:=if SeqAt.shaped x=true/\SeqAt.shaped y=true then some (.bool (!PyData.eqv x y)) else none
theorem aL5(hu:X.A.units+64 < cLine):OpD X (compareOp .Eq) eqD:=fun x y z h=>by
 unfold eqD at h
 split at h
 ·rename_i c
  cases h
  intro pins s σ H vx vy v u Q I rx ry ⟨Hf,ss,r1,r2,k⟩
  obtain⟨as,q1⟩:=Rep.reads I (r1.mono ss) rx
  obtain⟨bs,q2⟩:=Rep.reads I (r2.mono ss) ry
  exact eq_dataH q1 q2 c.1 c.2 hu ⟨.bl _,H,I,rfl,k _ H Hf (Grow.refl ss) rfl⟩
 ·cases h
theorem bC8(hu:X.A.units+64 < cLine):OpD X (compareOp .NotEq) neD:=fun x y z h=>by
 unfold neD at h
 split at h
 ·rename_i c
  cases h
  intro pins s σ H vx vy v u Q I rx ry ⟨Hf,ss,r1,r2,k⟩
  obtain⟨as,q1⟩:=Rep.reads I (r1.mono ss) rx
  obtain⟨bs,q2⟩:=Rep.reads I (r2.mono ss) ry
  exact ne_dataH q1 q2 c.1 c.2 hu ⟨.bl _,H,I,rfl,k _ H Hf (Grow.refl ss) rfl⟩
 ·cases h
noncomputable def isN(x y:D):Option D:=match x,y with
 | .none,.none=>some (.bool true)
 | .dict _,_=>none
 | _,.none=>some (.bool false)
 | _,_=>none
theorem aJ8{K:PySem.W.Frag}{H:Hp}{d:D}{v:V}(h:Rep K H d v):(decide (v=.non))=(match d with | .none=>true|_=>false):=by
 cases d with
 | none=>cases h;rfl
 | bool b=>cases h;rfl
 | int b=>cases h;rfl
 | str b=>cases h;rfl
 | tuple ds=>obtain⟨a,vs,rfl,_⟩:=h;rfl
 | list ds=>obtain⟨a,vs,rfl,_⟩:=h;rfl
 | dict ds=>obtain⟨a,m,rfl,_⟩:=h;rfl
theorem bc7:OpD X (compareOp .Is) isN:=fun x y z h=>by
 refine OpR.imp bM6 fun vx vy H Q ⟨Hf,s,r1,r2,k⟩=>?_
 have e:=aJ8 r1
 cases y<;>cases x<;>simp only[isN,Option.some.injEq,reduceCtorEq]at h <;>
  (subst h;simp only at e;rw[e];exact⟨r2,k _ H Hf (Grow.refl s) rfl⟩)
noncomputable def bO6(x y:D):Option D:=match x,y with
 | .none,.none=>some (.bool false)
 | .dict _,_=>none
 | _,.none=>some (.bool true)
 | _,_=>none
theorem bu9:OpD X (compareOp .IsNot) bO6:=fun x y z h=>by
 refine OpR.imp bt9 fun vx vy H Q ⟨Hf,s,r1,r2,k⟩=>?_
 have e:=aJ8 r1
 cases y<;>cases x<;>simp only[bO6,Option.some.injEq,reduceCtorEq]at h <;>
  (subst h;simp only at e;rw[e];exact⟨r2,k _ H Hf (Grow.refl s) rfl⟩)
noncomputable def al5(h1 h2:D->D->Option D) (f g k:DE):DE:=fun ρ=>(f ρ).bind fun x=>(g ρ).bind fun y=>(h1 x y).bind fun z=>match z with
 | .bool true=>(k ρ).bind fun w=>h2 y w
 | .bool false=>some (.bool false)
 | _=>none
theorem bg9(o1:OpD X (compareOp op) h1) (o2:OpD X (compareOp op') h2) (ha:JE X a f) (hb:JE X b g) (hc:JE X c k)
  (hm:lastMarks [op,op'] [b,c]=false:=by with_unfolding_all rfl):JE X (.Compare a [op,op'] [b,c] pos) (al5 h1 h2 f g k):=fun ρ d q=>by
 obtain⟨x,e1,q⟩:=xbm q
 obtain⟨y,e2,q⟩:=xbm q
 obtain⟨z,e3,q⟩:=xbm q
 split at q
 ·obtain⟨w,e4,e5⟩:=xbm q
  refine A5 (ax0 (o1 x y _ e3) (o2 y w d e5) (ha ρ x e1) (hb ρ y e2) (hc ρ w e4) hm) fun σ H Q ⟨H0,Hf,s,sl,kk⟩=>?_
  refine⟨H0,Hf,s,sl,fun v H1 Hf1 g1 r1=>⟨H0,Hf1,g1.sub,sl.grow g1,fun u H2 Hf2 g2 r2=>⟨Hf2,g2.sub,r1.mono g2.ext,r2,fun z' H3 Hf3 g3 r3=>?_⟩⟩⟩
  refine⟨true,r3,i4 ⟨H0,Hf3,g3.sub,sl.grow ((g1.trans g2).trans g3),fun w' H4 Hf4 g4 r4=>⟨Hf4,g4.sub,r2.mono (g3.trans g4).ext,r4,fun z2 H5 Hf5 g5 r5=>?_⟩⟩⟩
  exact kk z2 H5 Hf5 ((((g1.trans g2).trans g3).trans g4).trans g5) r5
 ·cases q
  intro pins s σ H Q I ⟨H0,Hf,ss,sl,kk⟩
  refine ax0 (tc:=fun _ _ _=>False) (r':=fun _ _ _ _=>False) (o1 x y _ e3) (fun _ _ _ _ _ _ _ _ _ _ _ _ h=>h.elim) (ha ρ x e1) (hb ρ y e2) (fun _ _ _ _ _ _ h=>h.elim) hm pins s σ H Q I ?_
  refine⟨H0,Hf,ss,sl,fun v H1 Hf1 g1 r1=>⟨H0,Hf1,g1.sub,sl.grow g1,fun u H2 Hf2 g2 r2=>⟨Hf2,g2.sub,r1.mono g2.ext,r2,fun z' H3 Hf3 g3 r3=>?_⟩⟩⟩
  exact⟨false,r3,l6 (kk _ H3 Hf3 ((g1.trans g2).trans g3) rfl)⟩
 ·cases q
theorem bS7(h:JE X a f):JE X (.BoolOp op [a] pos) f:=fun ρ d q=>ba5 (h ρ d q)
noncomputable def bz9(f g:DE):DE:=fun ρ=>(f ρ).bind fun x=>match x with
 | .bool true=>g ρ
 | .bool false=>some (.bool false)
 | _=>none
noncomputable def dOr(f g:DE):DE:=fun ρ=>(f ρ).bind fun x=>match x with
 | .bool true=>some (.bool true)
 | .bool false=>g ρ
 | .none=>g ρ
 | .tuple (y::r)=>some (.tuple (y::r))
 | _=>none
theorem ba4{a b:Expr}{O4:List Expr}{pos:Pos}{ta tb:TE}(ha:PE X a ta) (hb:PE X (.BoolOp .Or (b::O4) pos) tb):PE X (.BoolOp .Or (a::b::O4) pos) (fun σ H Q=>ta σ H fun x H1=>∃k,bW8 X.K x H1 k/\if k=true then Q x H1 else tb σ H1 Q):=by
 intro pins s σ H Q I h
 refine BoolOp_or (thn (ha pins s σ H _ I h) fun v s1 ⟨x,H1,I1,r1,k,tk,q1⟩=>?_)
 refine thn (aW3 pins s1 σ H1 x v (fun c H2=>c=k/\H2=H1) I1 r1 ⟨k,tk,rfl,rfl⟩) fun c s2 ⟨H2,I2,e1,e2⟩=>?_
 subst e1 e2
 cases c with
 | false=>exact hb pins s2 σ _ Q I2 q1
 | true=>exact⟨x,_,I2,r1,q1⟩
noncomputable def bU8(f:DE):DE:=fun ρ=>(f ρ).bind fun x=>match x with
 | .bool c=>some (.bool (!c))
 | _=>none
theorem bT4{a b:Expr}{O4:List Expr}{f g:DE}{pos:Pos}(ha:JE X a f) (hb:JE X (.BoolOp .And (b::O4) pos) g):JE X (.BoolOp .And (a::b::O4) pos) (bz9 f g):=fun ρ d q=>by
 obtain⟨x,e1,q⟩:=xbm q
 split at q
 ·refine A5 (ar8 (ha ρ _ e1) (hb ρ d q)) fun σ H Q ⟨H0,Hf,s,sl,k⟩=>⟨H0,Hf,s,sl,fun v H1 Hf1 g1 r1=>⟨true,r1,i4 ⟨H0,Hf1,g1.sub,sl.grow g1,fun u H2 Hf2 g2 r2=>k u H2 Hf2 (g1.trans g2) r2⟩⟩⟩
 ·cases q
  refine A5 (ar8 (tb:=fun _ _ _=>False) (ha ρ _ e1) (fun _ _ _ _ _ _ h=>h.elim)) fun σ H Q ⟨H0,Hf,s,sl,k⟩=>⟨H0,Hf,s,sl,fun v H1 Hf1 g1 r1=>⟨false,r1,l6 (k _ H1 Hf1 g1 rfl)⟩⟩
 ·cases q
theorem cg1{a b:Expr}{O4:List Expr}{f g:DE}{pos:Pos}(ha:JE X a f) (hb:JE X (.BoolOp .Or (b::O4) pos) g):JE X (.BoolOp .Or (a::b::O4) pos) (dOr f g):=fun ρ d q=>by
 obtain⟨x,e1,q⟩:=xbm q
 split at q
 ·cases q
  refine A5 (bC5 (tb:=fun _ _ _=>False) (ha ρ _ e1) (fun _ _ _ _ _ _ h=>h.elim)) fun σ H Q ⟨H0,Hf,s,sl,k⟩=>⟨H0,Hf,s,sl,fun v H1 Hf1 g1 r1=>⟨true,r1,i4 (k _ H1 Hf1 g1 rfl)⟩⟩
 ·refine A5 (bC5 (ha ρ _ e1) (hb ρ d q)) fun σ H Q ⟨H0,Hf,s,sl,k⟩=>⟨H0,Hf,s,sl,fun v H1 Hf1 g1 r1=>⟨false,r1,l6 ⟨H0,Hf1,g1.sub,sl.grow g1,fun u H2 Hf2 g2 r2=>k u H2 Hf2 (g1.trans g2) r2⟩⟩⟩
 ·refine A5 (ba4 (ha ρ _ e1) (hb ρ d q)) fun σ H Q ⟨H0,Hf,s,sl,k⟩=>⟨H0,Hf,s,sl,fun v H1 Hf1 g1 r1=>?_⟩
  cases r1
  exact⟨false,rfl,l6 ⟨H0,Hf1,g1.sub,sl.grow g1,fun u H2 Hf2 g2 r2=>k u H2 Hf2 (g1.trans g2) r2⟩⟩
 ·cases q
  refine A5 (ba4 (tb:=fun _ _ _=>False) (ha ρ _ e1) (fun _ _ _ _ _ _ h=>h.elim)) fun σ H Q ⟨H0,Hf,s,sl,k⟩=>⟨H0,Hf,s,sl,fun v H1 Hf1 g1 r1=>?_⟩
  obtain⟨p,vs,e,h2,h3⟩:=id r1
  subst e
  refine⟨true,.inr (.inl ⟨vs,B6 g1.sub h2,?_⟩),i4 (k _ H1 Hf1 g1 r1)⟩
  obtain⟨_,_,e,_⟩:=h3
  subst e;rfl
 ·cases q
theorem bS8(ha:JE X a f):JE X (.UnaryOp .Not a pos) (bU8 f):=fun ρ d q=>by
 obtain⟨x,e1,q⟩:=xbm q
 split at q
 ·cases q
  exact A5 (bL1 (ha ρ _ e1)) fun σ H Q ⟨H0,Hf,s,sl,k⟩=>⟨H0,Hf,s,sl,fun v H1 Hf1 g1 r1=>⟨_,r1,k _ H1 Hf1 g1 rfl⟩⟩
 ·cases q
noncomputable def aP6:D->Option Bool
 | .none=>some false
 | .bool b=>some b
 | .int i=>some (i != 0)
 | .str x=>if x.length<=16777216 then some ((x.length:Int) != 0) else none
 | .list ds=>some (!ds.isEmpty)
 | .tuple ds=>some (!ds.isEmpty)
 | .dict _=>none
noncomputable def aP8(f:DE):Rho->Option Bool:=fun ρ=>(f ρ).bind aP6
theorem bf1(ha:JE X a f) (he:∀whole,isTrue a X.env whole=(do let v ← whole;standAt a.pos;holding [v] (truthy v)):=by intro _;rfl):JT X a (aP8 f):=fun ρ c q=>by
 obtain⟨d,e1,e2⟩:=xbm q
 refine W4 (aw5 (ha ρ d e1) he) fun σ H Q ⟨H0,Hf,s,sl,k⟩=>⟨H0,Hf,s,sl,fun v H1 Hf1 g1 r1=>⟨c,?_,k H1 Hf1 g1⟩⟩
 cases d with
 | none=>cases e2;cases r1;rfl
 | bool b=>cases e2;cases r1;rfl
 | int i=>cases e2;cases r1;rfl
 | str x =>
  simp only[aP6]at e2
  split at e2
  ·rename_i hx;cases e2;cases r1;exact⟨by rw[sizeLine_eq];exact hx,rfl⟩
  ·cases e2
 | list ds =>
  cases e2
  obtain⟨a,vs,rfl,h2,h3⟩:=r1
  refine .inl ⟨vs,D6 g1.sub h2,?_⟩
  have:=h3.length
  cases ds<;>cases vs<;>simp_all
 | tuple ds =>
  cases e2
  obtain⟨a,vs,rfl,h2,h3⟩:=r1
  refine .inr (.inl ⟨vs,B6 g1.sub h2,?_⟩)
  have:=h3.length
  cases ds<;>cases vs<;>simp_all
 | dict _=>cases e2
noncomputable def i7:D->Option Bool
 | .bool b=>some b
 | _=>none
noncomputable def tB2(h:D->D->Option D) (f g:DE):Rho->Option Bool:=fun ρ=>(A6 h f g ρ).bind i7
theorem aO1(h:i7 d=some c):d=.bool c:=by
 cases d<;>simp[i7]at h
 subst h;rfl
theorem bQ4(o:OpD X (compareOp op) h) (ha:JE X a f) (hb:JE X b g) (hm:behindInMarks op b=false:=by first|exact as5 _|rfl):JT X (.Compare a [op] [b] pos) (tB2 h f g):=fun ρ c q=>by
 obtain⟨d,q,e⟩:=xbm q
 obtain⟨x,h1,q⟩:=xbm q
 obtain⟨y,h2,h3⟩:=xbm q
 have:=aO1 e
 subst this
 refine W4 (aK5 (o x y _ h3) (ha ρ x h1) (hb ρ y h2) hm) fun σ H Q ⟨H0,Hf,s,sl,k⟩=>?_
 refine⟨H0,Hf,s,sl,fun v H1 Hf1 g1 r1=>⟨H0,Hf1,g1.sub,sl.grow g1,fun u H2 Hf2 g2 r2=>?_⟩⟩
 exact⟨Hf2,g2.sub,r1.mono g2.ext,r2,fun w H3 Hf3 g3 r3=>⟨c,r3,k H3 Hf3 ((g1.trans g2).trans g3)⟩⟩
noncomputable def av9(f g:Rho->Option Bool):Rho->Option Bool:=fun ρ=>(f ρ).bind fun c=>if c then g ρ else some false
noncomputable def bI1(f g:Rho->Option Bool):Rho->Option Bool:=fun ρ=>(f ρ).bind fun c=>if c then some true else g ρ
noncomputable def aW4(f:Rho->Option Bool):Rho->Option Bool:=fun ρ=>(f ρ).map fun c=>!c
theorem d8(h:PW X e t) (i:∀σ H Q,t' σ H Q->t σ H Q):PW X e t':=fun whole pins s σ H Q I q=>h whole pins s σ H Q I (i σ H Q q)
theorem bf2(h:JW X e f):JT X e f:=fun ρ c q=>(h ρ c q).pt
theorem bw0(h:JT X a f):JW X (.BoolOp .And [a] pos) f:=fun ρ c q=>aK4 (h ρ c q)
theorem bQ0(h:JT X a f):JW X (.BoolOp .Or [a] pos) f:=fun ρ c q=>aZ2 (h ρ c q)
theorem bQ1{a b:Expr}{O4:List Expr}{f g:Rho->Option Bool}{pos:Pos}(ha:JT X a f) (hb:JW X (.BoolOp .And (b::O4) pos) g):JW X (.BoolOp .And (a::b::O4) pos) (av9 f g):=fun ρ c q=>by
 obtain⟨x,e1,q⟩:=xbm q
 cases x with
 | true=>exact d8 (ar4 (ha ρ _ e1) (hb ρ c (by simpa using q))) fun σ H Q ⟨H0,Hf,s,sl,k⟩=>⟨H0,Hf,s,sl,fun H1 Hf1 g1=>i4 ⟨H0,Hf1,g1.sub,sl.grow g1,fun H2 Hf2 g2=>k H2 Hf2 (g1.trans g2)⟩⟩
 | false =>
  have:c=false:=by simpa using q.symm
  subst this
  exact d8 (ar4 (tB':=fun _ _ _=>False) (ha ρ _ e1) (fun _ _ _ _ _ _ _ h=>h.elim)) fun σ H Q ⟨H0,Hf,s,sl,k⟩=>⟨H0,Hf,s,sl,fun H1 Hf1 g1=>l6 (k H1 Hf1 g1)⟩
theorem cf7{a b:Expr}{O4:List Expr}{f g:Rho->Option Bool}{pos:Pos}(ha:JT X a f) (hb:JW X (.BoolOp .Or (b::O4) pos) g):JW X (.BoolOp .Or (a::b::O4) pos) (bI1 f g):=fun ρ c q=>by
 obtain⟨x,e1,q⟩:=xbm q
 cases x with
 | false=>exact d8 (aK3 (ha ρ _ e1) (hb ρ c (by simpa using q))) fun σ H Q ⟨H0,Hf,s,sl,k⟩=>⟨H0,Hf,s,sl,fun H1 Hf1 g1=>l6 ⟨H0,Hf1,g1.sub,sl.grow g1,fun H2 Hf2 g2=>k H2 Hf2 (g1.trans g2)⟩⟩
 | true =>
  have:c=true:=by simpa using q.symm
  subst this
  exact d8 (aK3 (tB':=fun _ _ _=>False) (ha ρ _ e1) (fun _ _ _ _ _ _ _ h=>h.elim)) fun σ H Q ⟨H0,Hf,s,sl,k⟩=>⟨H0,Hf,s,sl,fun H1 Hf1 g1=>i4 (k H1 Hf1 g1)⟩
theorem bf3(ha:JT X a f):JT X (.UnaryOp .Not a pos) (aW4 f):=fun ρ c q=>by
 obtain⟨x,e1,e2⟩:=Option.map_eq_some_iff.mp q
 subst e2
 exact W4 (aZ3 (ha ρ x e1)) fun σ H Q ⟨H0,Hf,s,sl,k⟩=>⟨H0,Hf,s,sl,fun H1 Hf1 g1=>k H1 Hf1 g1⟩
noncomputable def ad9(t:Rho->Option Bool) (f g:DE):DE:=fun ρ=>(t ρ).bind fun c=>if c then f ρ else g ρ
theorem bT1(hc:JT X c t) (ha:JE X a f) (hb:JE X b g):JE X (.IfExp c a b pos) (ad9 t f g):=fun ρ d q=>by
 obtain⟨x,e1,q⟩:=xbm q
 cases x with
 | true=>exact A5 (aw9 (tb:=fun _ _ _=>False) (hc ρ _ e1) (ha ρ d (by simpa using q)) (fun _ _ _ _ _ _ h=>h.elim)) fun σ H Q ⟨H0,Hf,s,sl,k⟩=>⟨H0,Hf,s,sl,fun H1 Hf1 g1=>i4 ⟨H0,Hf1,g1.sub,sl.grow g1,fun u H2 Hf2 g2 r2=>k u H2 Hf2 (g1.trans g2) r2⟩⟩
 | false=>exact A5 (aw9 (ta:=fun _ _ _=>False) (hc ρ _ e1) (fun _ _ _ _ _ _ h=>h.elim) (hb ρ d (by simpa using q))) fun σ H Q ⟨H0,Hf,s,sl,k⟩=>⟨H0,Hf,s,sl,fun H1 Hf1 g1=>l6 ⟨H0,Hf1,g1.sub,sl.grow g1,fun u H2 Hf2 g2 r2=>k u H2 Hf2 (g1.trans g2) r2⟩⟩
noncomputable def dIx(f:Rho->Option (Bool×List D)) (g:DE):DE:=fun ρ=>(f ρ).bind fun q=>(g ρ).bind fun i=>match i with
 | .int i=>atI q.2 i
 | _=>none
theorem bq9{K:PySem.W.Frag}{H:Hp}{ds:List D}{vs:List V}{i:Int}{d:D}(h:Reps K H ds vs) (e:atI ds i=some d):∃v,atI vs i=some v/\Rep K H d v:=by
 unfold atI at e ⊢
 rw[h.length]
 obtain⟨j,h1,h2⟩:=xbm e
 obtain⟨v,h3,h4⟩:=h.get h2
 exact⟨v,by rw[h1];exact h3,h4⟩
theorem bg7{a b:Expr}{f:Rho->Option (Bool×List D)}{g:DE}{pos:Pos}(ha:JQ X a f) (hb:JE X b g) (hs:ai1 b:=by intro _ _;rfl):JE X (.Subscript a b pos) (dIx f g):=fun ρ d q=>by
 obtain⟨⟨t,ds⟩,h1,q⟩:=xbm q
 obtain⟨y,h2,h3⟩:=xbm q
 split at h3
 ·refine A5 (bC7 bh1 (ha ρ t ds h1) (hb ρ _ h2) hs) fun σ H Q ⟨H0,Hf,s,sl,k⟩=>?_
  refine⟨H0,Hf,s,sl,fun v H1 Hf1 g1 ⟨p,vs,e1,e2,e3⟩=>⟨H0,Hf1,g1.sub,sl.grow g1,fun u H2 Hf2 g2 r2=>?_⟩⟩
  obtain⟨w,q1,q2⟩:=bq9 (e3.mono g2.ext) h3
  cases t with
  | true=>exact .inr (.inl ⟨p,vs,_,w,e1,r2,B6 g2.big e2,q1,k w H2 Hf2 (g1.trans g2) q2⟩)
  | false=>exact .inl ⟨p,vs,_,w,e1,r2,D6 g2.big e2,q1,k w H2 Hf2 (g1.trans g2) q2⟩
 ·cases h3
noncomputable def l8(xs:List D) (lo hi:Option Int):List D:=(xs.drop (HT.sIx xs.length 0 lo)).take (HT.sIx xs.length xs.length hi - HT.sIx xs.length 0 lo)
theorem z8{K:PySem.W.Frag}{H:Hp}{ds:List D}{vs:List V}(h:Reps K H ds vs) (lo hi:Option Int):Reps K H (l8 ds lo hi) (aA5 vs lo hi):=by
 unfold l8 aA5
 rw[h.length]
 exact(h.drop _).take _
noncomputable def JO(X:Cx) (e:Option Expr) (f:Rho->Option (Option Int)):Prop:=∀ρ o,f ρ=some o->PO X e (fun σ H Q=>∃H0 Hf,B2 Hf H/\Slots X.K H0 ρ σ H Hf/\∀H' Hf',Grow H Hf H' Hf'->Q o H')
noncomputable def Z7:Rho->Option (Option Int):=fun _=>some none
noncomputable def bh4:D->Option Int
 | .int i=>some i
 | _=>none
noncomputable def Z6(f:DE):Rho->Option (Option Int):=fun ρ=>(f ρ).bind fun d=>(bh4 d).map some
theorem bw9:JO X none Z7:=fun ρ o q=>by
 cases q
 intro pins s σ H Q I ⟨H0,Hf,ss,sl,k⟩
 exact bs3 pins s σ H Q I (k H Hf (Grow.refl ss))
theorem bw8(h:JE X e f):JO X (some e) (Z6 f):=fun ρ o q=>by
 obtain⟨d,e1,e2⟩:=xbm q
 obtain⟨i,e3,e4⟩:=Option.map_eq_some_iff.mp e2
 subst e4
 cases d<;>simp[bh4]at e3
 subst e3
 intro pins s σ H Q I ⟨H0,Hf,ss,sl,k⟩
 exact bs1 (h ρ _ e1) pins s σ H Q I ⟨H0,Hf,ss,sl,fun v H1 Hf1 g1 r1=>⟨_,r1,k H1 Hf1 g1⟩⟩
noncomputable def au1(f:DE) (lo hi:Rho->Option (Option Int)):DE:=fun ρ=>(f ρ).bind fun d=>(lo ρ).bind fun l=>(hi ρ).bind fun h=>match d with
 | .tuple xs=>some (.tuple (l8 xs l h))
 | _=>none
theorem l7{prog:Program}{w:World}{A:Around}{E:Value->Shared->Prop}{s:Shared}{t sl:Addr}{items:Array Value}{vl vu:Value}{lo hi:Option Int}{Q:Value->Shared->Prop}(ht:IsTup s.heap t items) (hs:s.heap.IsSliceOf sl vl vu .none) (pl:IsPart vl lo) (pu:IsPart vu hi)
  (hw:HT.sIx items.size 0 lo=0/\HT.sIx items.size items.size hi=items.size) (h:Q (.ref t) s):wpAny (model prog w) A (getItem (.ref t) (.ref sl)) Q E s:=by
 obtain⟨os,hos,hcs,hds⟩:=id hs
 have hTs:s.TypeIs (.ref sl) "slice" := ⟨os,hos,hcs⟩
 unfold getItem
 try with_reducible refine wpAny_holding ?_
 first|refine wpAny_bind (wpAny_pure ?_)|skip
 refine wpAny_bind (wpAny_sequenceKey ht.typeIs (by decide) ?_)
 refine wpAny_bind (wpAny_callSpecial?_slot (name:=Str.ofString "__getitem__") ht.typeIs PyProof.Rows.slot_tuple_getitem
  (wpAny_call_entry PyProof.Rows.slot_tuple_getitem ht.typeIs entry_tuple_getitem ?_ (args_tuple_getitem _ _)))
 show wpAny _ _ (Builtin.Tuple.tupleItemsOf (.ref t) >>= _) _ _ s
 refine wpAny_bind (tupleItemsOf_ ht ?_)
 refine wpAny_bind (wpAny_typeOf hTs ?_)
 rw[if_pos (by decide)]
 refine wpAny_bind (HT.sliceApplied_gen hs pl pu ?_)
 have hyes:((((HT.sIx items.size 0 lo:Nat):Int)==0&&(1:Int)==1&&(HT.sIx items.size items.size hi - HT.sIx items.size 0 lo)==items.size)=true):=by
  rw[hw.1,hw.2];simp
 show wpAny _ _ (if(((HT.sIx items.size 0 lo:Nat):Int)==0&&(1:Int)==1&&(HT.sIx items.size items.size hi - HT.sIx items.size 0 lo)==items.size)=true then _ else _) _ _ s
 rw[if_pos hyes]
 unfold Builtin.Tuple.tupleIsExact
 refine wpAny_bind (wpAny_bind (wpAny_typeOf ht.typeIs (wpAny_pure ?_)))
 rw[if_pos (by decide +kernel)]
 exact wpAny_bind (wpAny_rule (wpAny_pure ⟨_,rfl,wpAny_pure h⟩))
theorem x9:SlR X (fun x lo hi H Q=>∃a xs,x=.ref a/\SqT X.K H a xs/\(HT.sIx xs.length 0 lo=0/\HT.sIx xs.length xs.length hi=xs.length)/\Q (.ref a) H):=by
 intro pins s σ H x v vl vu lo hi sl Q I rx hs pl pu h
 obtain⟨a,xs,rfl,hx,hw,q⟩:=h
 cases rx
 obtain⟨its,r,ht,hz⟩:=I.tuple hx
 have hlen:its.toArray.size=xs.length:=by rw[List.size_toArray];exact r.length.symm
 refine⟨"tuple", _,PyProof.Rows.slot_tuple_getitem.lookup,ht.typeIs,?_⟩
 exact l7 ht hs pl pu (by rw[hlen];exact hw) ⟨.ref a,H,I,rfl,q⟩
theorem bg4{a:Expr}{lo hi:Option Expr}{f:DE}{l h:Rho->Option (Option Int)}{pos p2:Pos}(ha:JE X a f) (hl:JO X lo l) (hh:JO X hi h):JE X (.Subscript a (.Slice lo hi none p2) pos) (au1 f l h):=fun ρ d q=>by
 obtain⟨x,e1,q⟩:=xbm q
 obtain⟨y,e2,q⟩:=xbm q
 obtain⟨z,e3,q⟩:=xbm q
 cases x with
 | tuple xs =>
  cases q
  refine A5 (f6 (aX9.or x9) (ha ρ _ e1) (hl ρ y e2) (hh ρ z e3)) fun σ H Q ⟨H0,Hf,s,sl,k⟩=>?_
  refine⟨H0,Hf,s,sl,fun v H1 Hf1 g1 ⟨p,vs,q1,q2,q3⟩=>⟨H0,Hf1,g1.sub,sl.grow g1,fun H2 Hf2 g2=>⟨H0,Hf2,g2.sub,sl.grow (g1.trans g2),fun H3 Hf3 g3=>?_⟩⟩⟩
  subst q1
  have q2':=B6 (g2.trans g3).ext q2
  have q3':=q3.mono (g2.trans g3).ext
  by_cases c:HT.sIx vs.length 0 y=0/\HT.sIx vs.length vs.length z=vs.length
  ·refine .inr ⟨p,vs,rfl,B6 g3.sub q2',c,k _ H3 Hf3 ((g1.trans g2).trans g3) ⟨p,vs,rfl,q2',?_⟩⟩
   have:l8 xs y z=xs:=by
    unfold l8
    rw[← q3.length,c.1,c.2]
    simp[q3.length]
   rw[this];exact q3'
  ·refine .inl ⟨p,vs,rfl,B6 g3.sub q2',c,fun p' hp=>?_⟩
   exact k _ _ _ (((g1.trans g2).trans g3).trans (Grow.laid g3.sub hp)) ⟨p',_,rfl,SqT.of A3,(z8 q3' y z).mono (C4 (g3.sub.free hp))⟩
 | _=>cases q
end
end G
namespace G
open PySem PySem.Spec PyProof.Rows L2
section
variable {X:Cx}
theorem bW2:bootBuiltins "len" = some (.builtin "len"):=PySem.boot_len
theorem bW4:bootBuiltins "all" = some (.builtin "all"):=by decide +kernel
theorem bW3:bootBuiltins "isinstance" = some (.builtin "isinstance"):=by decide +kernel
theorem aH0:bootBuiltins "int" = some (.type "int"):=by decide +kernel
theorem bA7:bootBuiltins "bool" = some (.type "bool"):=by decide +kernel
theorem bW1:bootBuiltins "str" = some (.type "str"):=by decide +kernel
theorem ai0:bootBuiltins "list" = some (.type "list"):=by decide +kernel
theorem aB3:bootBuiltins "tuple" = some (.type "tuple"):=by decide +kernel
theorem bW0:bootBuiltins "zip" = some (.type "zip"):=by decide +kernel
noncomputable def ag5(f:Rho->Option (Bool×List D)):DE:=fun ρ=>(f ρ).map fun q=>.int q.2.length
theorem bg6(hg:Gl X "len") (hm:X.mg "len" = none) (h:JQ X e f) (he:starEach [e] X.env=[(false,eval e X.env)]:=by rfl):JE X (.Call (.Name "len" p) [e] [] pos) (ag5 f):=fun ρ d q=>by
 obtain⟨⟨t,ds⟩,h1,h2⟩:=Option.map_eq_some_iff.mp q
 subst h2
 refine A5 (V4 au5 hg hm bW2 (B8 (h ρ t ds h1) F6 he) (he:=he)) fun σ H Q ⟨H0,Hf,s,sl,k⟩=>?_
 refine⟨H0,Hf,s,sl,fun v H1 Hf1 g1 ⟨a,vs,e1,e2,e3⟩=>⟨a,vs,by rw[e1],?_,?_⟩⟩
 ·cases t with
  | true=>exact .inr e2
  | false=>exact .inl e2
 ·exact k _ H1 Hf1 g1 (by rw[e3.length];rfl)
theorem bg3(hg:Gl X "tuple") (hm:X.mg "tuple" = none) (h:JQ X e f) (hz:∀ρ ds,f ρ≠some (true,ds)\/True:=by intros;exact .inr trivial) (he:starEach [e] X.env=[(false,eval e X.env)]:=by rfl) :
  JE X (.Call (.Name "tuple" p) [e] [] pos) (fun ρ=>(f ρ).bind fun q=>if q.1=true then none else some (.tuple q.2)):=fun ρ d q=>by
 obtain⟨⟨t,ds⟩,h1,h2⟩:=xbm q
 cases t with
 | true=>simp at h2
 | false =>
  simp only[Bool.false_eq_true,if_false,Option.some.injEq]at h2
  subst h2
  refine A5 (R6 an1 hg hm aB3 (B8 (h ρ false ds h1) F6 he) (he:=he)) fun σ H Q ⟨H0,Hf,s,sl,k⟩=>?_
  refine⟨H0,Hf,s,sl,fun v H1 Hf1 g1 ⟨a,vs,e1,e2,e3⟩=>⟨a,vs,by rw[e1],.inl ⟨e2,fun l hl=>?_⟩⟩⟩
  exact k _ _ _ (g1.trans (Grow.laid g1.sub hl)) ⟨l,vs,rfl,SqT.of A3,e3.mono (C4 (g1.sub.free hl))⟩
theorem bx0(hg:Gl X "list") (hm:X.mg "list" = none) (h:JQ X e f) (he:starEach [e] X.env=[(false,eval e X.env)]:=by rfl):JN X (.Call (.Name "list" p) [e] [] pos) (fun ρ=>(f ρ).map fun q=>q.2):=fun ρ ds' q=>by
 obtain⟨⟨t,ds⟩,h1,h2⟩:=Option.map_eq_some_iff.mp q
 subst h2
 refine A5 (R6 Y7 hg hm ai0 (B8 (h ρ t ds h1) F6 he) (he:=he)) fun σ H Q ⟨H0,Hf,s,sl,k⟩=>?_
 refine⟨H0,Hf,s,sl,fun v H1 Hf1 g1 ⟨a,vs,e1,e2,e3⟩=>⟨a,vs,by rw[e1],?_,fun l hl=>?_⟩⟩
 ·cases t with
  | true=>exact .inr e2
  | false=>exact .inl e2
 ·exact k _ _ _ (g1.trans (Grow.made g1.sub hl)) ⟨l,vs,rfl,g1.big.free hl,A3,g1.sub.free hl,e3⟩
noncomputable def bV0(f:DE):DE:=fun ρ=>(f ρ).bind fun d=>match d with
 | .int i=>some (.int i)
 | .bool b=>some (.int (if b then 1 else 0))
 | _=>none
theorem bg8(hg:Gl X "int") (hm:X.mg "int" = none) (h:JE X e f) (he:starEach [e] X.env=[(false,eval e X.env)]:=by rfl):JE X (.Call (.Name "int" p) [e] [] pos) (bV0 f):=fun ρ d q=>by
 obtain⟨x,h1,h2⟩:=xbm q
 split at h2
 ·cases h2
  exact A5 (R6 ap2 hg hm aH0 (B8 (h ρ _ h1) F6 he) (he:=he)) fun σ H Q ⟨H0,Hf,s,sl,k⟩ =>
   ⟨H0,Hf,s,sl,fun v H1 Hf1 g1 r=>.inl ⟨_,by rw[show v=_ from r],k _ H1 Hf1 g1 rfl⟩⟩
 ·cases h2
  exact A5 (R6 ap2 hg hm aH0 (B8 (h ρ _ h1) F6 he) (he:=he)) fun σ H Q ⟨H0,Hf,s,sl,k⟩ =>
   ⟨H0,Hf,s,sl,fun v H1 Hf1 g1 r=>.inr ⟨_,by rw[show v=_ from r],k _ H1 Hf1 g1 rfl⟩⟩
 ·cases h2
noncomputable def bW7:List D->Option Bool
 | []=>some true
 | .bool b::r=>(bW7 r).map fun c=>b&&c
 | _::_=>none
theorem aB4:∀{ds:List D}{c:Bool},bW7 ds=some c->∃bs:List Bool,ds=bs.map PyData.bool/\c=bs.all id
 | [],c,h=>by cases h;exact⟨[],rfl,rfl⟩
 | .bool b::r,c,h=>by
  obtain⟨c',h1,h2⟩:=Option.map_eq_some_iff.mp h
  obtain⟨bs,h3,h4⟩:=aB4 h1
  exact⟨b::bs,by simp[h3],by simp[← h2,h4]⟩
theorem aj3{K:PySem.W.Frag}{H:Hp}:∀{bs:List Bool}{vs:List V},Reps K H (bs.map PyData.bool) vs->vs=bs.map V.bl
 | [],_,h=>h
 | _::_,_,⟨v,r,h1,h2,h3⟩=>by subst h1;rw[show v=_ from h2,aj3 h3];rfl
theorem aU5:a9 X (.builtin "all") (fun xs H Q=>X.calm=true/\∃(p:Addr) (bs:List Bool),xs=[.ref p]/\SqL X.K H p (bs.map V.bl)/\Q (.bl (bs.all id)) H):=by
 intro pins s σ H xs us Q I r h
 obtain⟨hc,p,bs,rfl,hq,q⟩:=h
 obtain⟨u,rfl,rx⟩:=u8 r
 cases rx
 obtain⟨its,rv,pl,hz⟩:=I.list hq
 have hlen:=rv.length
 have hh:X.A.in1.handled=none:=I.ok.hd hc
 have hlt:p < s.heap.objs.size:=by obtain⟨_,e,_⟩:=pl.isList;exact Heap.lt_size e
 refine call_all_walk (wpAny_pyIter_list pl.isList ?_)
 refine⟨s.heap.objs.size,_,_,_,_,_,fun i=>(bs[i]?).getD false,rfl,Walks.list hh _ p (Nat.ne_of_lt hlt) its.toArray,⟨⟨_,Heap.get?_push_size _ rfl,rfl,rfl⟩,pl.isList.at fun o e=>Heap.get?_push_of_some _ e⟩,?_,?_⟩
 ·intro i v s' Q' E' hv hQ
  have hv':its[i]? = some v:=by simpa using hv
  have:∃b,bs[i]? = some b:=by
   have:i < its.length:=(List.getElem?_eq_some_iff.mp hv').1
   have:i < bs.length:=by simpa using (by grind:i < (bs.map V.bl).length)
   exact⟨bs[i],by simp[this]⟩
  obtain⟨b,hb⟩:=this
  obtain⟨u,hu,ru⟩:=rv.get (i:=i) (x:=.bl b) (by simp[hb])
  rw[hv']at hu;cases hu
  cases ru
  exact wpAny_truthy_bool (by simpa [hb] using hQ)
 ·intro h' tk hk
  have e:((List.range its.toArray.size).all fun i=>(bs[i]?).getD false)=bs.all id:=by
   have hn:its.toArray.size=bs.length:=by simpa using hlen.symm
   rw[hn,Bool.eq_iff_iff]
   simp only[List.all_eq_true,List.mem_range,id]
   constructor
   ·intro h x hx
    obtain⟨i,hi,rfl⟩:=List.mem_iff_getElem.mp hx
    simpa [hi] using h i hi
   ·intro h i hi
    simpa [hi] using h bs[i] (List.getElem_mem hi)
  rw[e]
  have I1:Inv X pins σ H { s with heap:=h',toks:=tk }:=by
   have I0:Inv X pins σ H { s with heap:=s.heap.push { cls:=.type "list_iterator", data:=.fields #[.ref p,rawInt 0] } }:=I.kept (t':=s.toks) fun b o e=>Heap.get?_push_of_some _ e
   refine I.kept (t':=tk) fun b o e=>hk b o ?_ (Heap.get?_push_of_some _ e)
   intro hb
   have:b=s.heap.objs.size:=by simpa using hb
   subst this
   exact absurd (Heap.lt_size e) (Nat.lt_irrefl _)
  exact⟨.bl (bs.all id),H,I1,rfl,q⟩
noncomputable def bV1(f:Rho->Option (Bool×List D)):DE:=fun ρ=>(f ρ).bind fun q=>if q.1=true then none else(bW7 q.2).map PyData.bool
theorem bT5(hg:Gl X "all") (hm:X.mg "all" = none) (h:JQ X e f) (hc:X.calm=true:=by rfl) (he:starEach [e] X.env=[(false,eval e X.env)]:=by rfl):JE X (.Call (.Name "all" p) [e] [] pos) (bV1 f):=fun ρ d q=>by
 obtain⟨⟨t,ds⟩,h1,h2⟩:=xbm q
 cases t with
 | true=>simp at h2
 | false =>
  simp only[Bool.false_eq_true,if_false]at h2
  obtain⟨c,h3,h4⟩:=Option.map_eq_some_iff.mp h2
  subst h4
  obtain⟨bs,h5,h6⟩:=aB4 h3
  subst h5 h6
  refine A5 (V4 aU5 hg hm bW4 (B8 (h ρ false _ h1) F6 he) (he:=he)) fun σ H Q ⟨H0,Hf,s,sl,k⟩=>?_
  refine⟨H0,Hf,s,sl,fun v H1 Hf1 g1 ⟨a,vs,e1,e2,e3⟩=>⟨hc,a,bs,by rw[e1],?_,k _ H1 Hf1 g1 rfl⟩⟩
  rw[aj3 e3]at e2
  exact e2
noncomputable def aS7(T:String) (d:D):Option Bool:=match d with
 | .int _=>(match T with | "int" => some true | "bool" => some false | "str" => some false | "tuple" => some false | "list" => some false|_=>none)
 | .bool _=>(match T with | "int" => some true | "bool" => some true | "str" => some false | "tuple" => some false | "list" => some false|_=>none)
 | .none=>(match T with | "int" => some false | "bool" => some false | "str" => some false | "tuple" => some false | "list" => some false|_=>none)
 | .str _=>(match T with | "int" => some false | "bool" => some false | "str" => some true | "tuple" => some false | "list" => some false|_=>none)
 | .tuple _=>(match T with | "int" => some false | "bool" => some false | "str" => some false | "tuple" => some true | "list" => some false|_=>none)
 | .list _=>(match T with | "int" => some false | "bool" => some false | "str" => some false | "tuple" => some false | "list" => some true|_=>none)
 | _=>none
noncomputable def tyD:D->String
 | .int _ => "int"
 | .bool _ => "bool"
 | .none => "NoneType"
 | .str _ => "str"
 | .tuple _ => "tuple"
 | .list _ => "list"
 | .dict _ => "dict"
theorem bx7{K:PySem.W.Frag}{T:String}{d:D}{b:Bool}(h:aS7 T d=some b):PySem.W.kitOne K (.type (tyD d)) (.type T)=some b:=by
 unfold aS7 at h
 cases d<;>first
  | (dsimp only at h;split at h<;>first
   | (cases h;rfl)
   | cases h)
  | cases h
theorem bl6{T:String}:a9 X (.builtin "isinstance") (fun xs H Q=>∃d x b,xs=[x,.ty T]/\Rep X.K H d x/\aS7 T d=some b/\Q (.bl b) H):=by
 intro pins s σ H xs us Q I r h
 obtain⟨d,x,b,rfl,hd,hb,q⟩:=h
 obtain⟨u,c,rfl,rx,rc⟩:=bB4 r
 cases rc
 have e:=bx7 (K:=X.K) hb
 have fin:∀tk,EP X pins σ Q (.bool b) { s with toks:=tk }:=fun tk=>⟨.bl b,H,I.tok tk,rfl,q⟩
 cases d with
 | none=>cases hd;cases rx;exact PySem.W.kia_one PySem.W.kitx_none I.kIn True.intro e (fun z=>nomatch z) fin
 | bool y=>cases hd;cases rx;exact PySem.W.kia_one PySem.W.kitx_bool I.kIn True.intro e (fun z=>nomatch z) fin
 | int i=>cases hd;obtain⟨t,rfl⟩:=rx;exact PySem.W.kia_one PySem.W.kitx_int I.kIn True.intro e (fun z=>nomatch z) fin
 | str i=>cases hd;obtain⟨t,rfl⟩:=rx;exact PySem.W.kia_one PySem.W.kitx_str I.kIn True.intro e (fun z=>nomatch z) fin
 | tuple ds =>
  obtain⟨a,vs,rfl,h2,h3⟩:=hd
  cases rx
  obtain⟨its,rv,⟨o,ho,hc,_⟩,_⟩:=I.tuple h2
  exact PySem.W.kia_one PySem.W.kitx_tuple I.kIn ⟨o,ho,hc⟩ e (fun z=>nomatch z) fin
 | list ds =>
  obtain⟨a,vs,rfl,h2,h3⟩:=hd
  cases rx
  obtain⟨its,rv,pl,_⟩:=I.list h2
  obtain⟨o,ho,hc,_⟩:=pl.isList
  exact PySem.W.kia_one PySem.W.kitx_list I.kIn ⟨o,ho,hc⟩ e (fun z=>nomatch z) fin
 | dict ds=>simp[aS7]at hb
noncomputable def bU9(T:String) (f:DE):DE:=fun ρ=>(f ρ).bind fun d=>(aS7 T d).map PyData.bool
theorem bT0(hg:Gl X "isinstance") (hm:X.mg "isinstance" = none) (hgT:Gl X x) (hmT:X.mg x=none) (hvT:bootBuiltins x=some (.type T)) (h:JE X e f)
  (hn:x ≠ "__name__" := by decide) (hd:(x==("__debug__" : Str))=false:=by decide)
  (he:starEach [e,.Name x p2] X.env=(false,eval e X.env)::starEach [.Name x p2] X.env:=by rfl) (he2:starEach [.Name x p2] X.env=[(false,eval (.Name x p2) X.env)]:=by rfl) (hpl:(backTo pos (starEach [.Name x p2] X.env)).any (·.1)=false:=by rfl) :
  JE X (.Call (.Name "isinstance" p) [e,.Name x p2] [] pos) (bU9 T f):=fun ρ d q=>by
 obtain⟨y,h1,h2⟩:=xbm q
 obtain⟨b,h3,h4⟩:=Option.map_eq_some_iff.mp h2
 subst h4
 refine A5 (V4 (bl6 (T:=T)) hg hm bW3 (B8 (h ρ y h1) (B8 (bt1 (v:=.ty T) hgT hmT hvT rfl hn hd) F6 he2) he) (he:=he) (hpl:=hpl)) fun σ H Q ⟨H0,Hf,s,sl,k⟩=>?_
 exact⟨H0,Hf,s,sl,fun v H1 Hf1 g1 r=>⟨y,v,b,rfl,r.mono g1.sub,h3,k _ H1 Hf1 g1 rfl⟩⟩
noncomputable def spF(K:PySem.W.Frag) (n:Nat) (F:List D->Option D):Sp:=fun vs H Q _=>vs.length=n/\∃Hf ds d,B2 Hf H/\Reps K Hf ds vs/\F ds=some d/\∀v H' Hf',Grow H Hf H' Hf'->Rep K Hf' d v->Q v H'
noncomputable def B0(F:List D->Option D) (f:Rho->Option (List D)):DE:=fun ρ=>(f ρ).bind F
theorem aM7(Fk:FnOk X.prog X.w X.K X.mg X.base CX0 k f fd ps (spF X.K n F)) (hr:Room k X.A) (hg:Gl X x) (hm:X.mg x=some (.ref f)) (hk:PySem.W.keepIn X.K (.ref f)=true) (hb:N7 X.K fd ps [])
  (ha:JA X (e::es) g) (hn:(e::es).length=n:=by rfl) (hdb:(x==("__debug__" : Str))=false:=by decide) (he:starEach (e::es) X.env=(false,eval e X.env)::starEach es X.env:=by rfl) (hpl:(backTo pos (starEach es X.env)).any (·.1)=false:=by rfl) :
  JE X (.Call (.Name x p) (e::es) [] pos) (B0 F g):=fun ρ d q=>by
 obtain⟨ds,h1,h2⟩:=xbm q
 refine A5 (ar7 Fk hr hg hm hk hb .nil aa0 (fun pos pins s σ H Q I t=>ha.run ρ ds h1 pos pins s σ H Q I t) hdb he hpl) fun σ H Q ⟨H0,Hf,s,sl,kk⟩=>?_
 refine⟨H0,Hf,s,sl,fun vs H1 Hf1 g1 r1=>⟨?_,Hf1,ds,d,g1.sub,by rw[List.append_nil];exact r1,h2,fun v H2 Hf2 g2 r2=>kk v H2 Hf2 (g1.trans g2) r2⟩⟩
 rw[List.append_nil,r1.length,ha.len ρ ds h1,hn]
inductive Fl where
 | nx (ρ:Rho)
 | rt (d:D)
 | bk (ρ:Rho)
 | ct (ρ:Rho)
noncomputable abbrev DS:=Rho->Option Fl
structure At (K:PySem.W.Frag) (H0 Hf0:Hp) (ρ:Rho) (σ:L2.St) (H Hf:Hp):Prop where
 gr:Grow H0 Hf0 H Hf
 sl:Slots K H0 ρ σ H Hf
noncomputable def Fl.ends(K:PySem.W.Frag) (H0 Hf0 Hf:Hp) (En:Ends):Fl->Prop
 | .nx ρ=>∀σ' H' Hf',At K H0 Hf0 ρ σ' H' Hf'->B2 Hf Hf'->En.nx σ' H'
 | .bk ρ=>∀σ' H' Hf',At K H0 Hf0 ρ σ' H' Hf'->B2 Hf Hf'->En.bk σ' H'
 | .ct ρ=>∀σ' H' Hf',At K H0 Hf0 ρ σ' H' Hf'->B2 Hf Hf'->En.ct σ' H'
 | .rt d=>∀v H' Hf',Grow H0 Hf0 H' Hf'->Rep K Hf' d v->En.rt v H'
noncomputable def tJS(K:PySem.W.Frag) (H0 Hf0:Hp) (ρ:Rho) (fl:Fl):TS:=fun En σ H=>∃Hf,At K H0 Hf0 ρ σ H Hf/\fl.ends K H0 Hf0 Hf En
noncomputable def JS(X:Cx) (st:Stmt) (f:DS):Prop:=∀ρ fl,f ρ=some fl->∀H0 Hf0,PS X st (tJS X.K H0 Hf0 ρ fl)
noncomputable def JSs(X:Cx) (sts:List Stmt) (f:DS):Prop:=∀ρ fl,f ρ=some fl->∀H0 Hf0,PSs X sts (tJS X.K H0 Hf0 ρ fl)
theorem B5{st:Stmt}{t t':TS}(h:PS X st t) (i:∀En σ H,t' En σ H->t En σ H):PS X st t':=fun pins s σ H En I q=>h pins s σ H En I (i En σ H q)
theorem P4{st:List Stmt}{t t':TS}(h:PSs X st t) (i:∀En σ H,t' En σ H->t En σ H):PSs X st t':=fun pins s σ H En I q=>h pins s σ H En I (i En σ H q)
theorem At.grow{K:PySem.W.Frag}{H0 Hf0 H Hf H' Hf':Hp}{ρ:Rho}{σ:L2.St}(a:At K H0 Hf0 ρ σ H Hf) (g:Grow H Hf H' Hf'):At K H0 Hf0 ρ σ H' Hf':=⟨a.gr.trans g,a.sl.grow g⟩
theorem Fl.ends_mono{K:PySem.W.Frag}{H0 Hf0 Hf Hf':Hp}{En:Ends}{fl:Fl}(h:fl.ends K H0 Hf0 Hf En) (e:B2 Hf Hf'):fl.ends K H0 Hf0 Hf' En:=by
 cases fl with
 | nx ρ=>exact fun σ' H' Hf'' a s=>h σ' H' Hf'' a (e.trans s)
 | bk ρ=>exact fun σ' H' Hf'' a s=>h σ' H' Hf'' a (e.trans s)
 | ct ρ=>exact fun σ' H' Hf'' a s=>h σ' H' Hf'' a (e.trans s)
 | rt d=>exact h
noncomputable def m8:DS:=fun ρ=>some (.nx ρ)
noncomputable def O3(f g:DS):DS:=fun ρ=>(f ρ).bind fun fl=>match fl with
 | .nx ρ'=>g ρ'
 | fl=>some fl
theorem bw3:JSs X [] m8:=fun ρ fl q H0 Hf0=>by
 cases q
 exact P4 ar5 fun En σ H ⟨Hf,a,e⟩=>e σ H Hf a (B2.refl _)
theorem bf5{st:Stmt}{sts:List Stmt}{f g:DS}(h1:JS X st f) (h2:JSs X sts g):JSs X (st::sts) (O3 f g):=fun ρ fl q H0 Hf0=>by
 obtain⟨fl1,e1,q⟩:=xbm q
 cases fl1 with
 | nx ρ' =>
  refine P4 (M0 (h1 ρ _ e1 H0 Hf0) (h2 ρ' fl q H0 Hf0)) fun En σ H ⟨Hf,a,e⟩=>⟨Hf,a,fun σ' H' Hf' a' s'=>⟨Hf',a',Fl.ends_mono e s'⟩⟩
 | rt d=>cases q;exact P4 (M0 (h1 ρ _ e1 H0 Hf0) M5) fun En σ H ⟨Hf,a,e⟩=>⟨Hf,a,e⟩
 | bk ρ'=>cases q;exact P4 (M0 (h1 ρ _ e1 H0 Hf0) M5) fun En σ H ⟨Hf,a,e⟩=>⟨Hf,a,e⟩
 | ct ρ'=>cases q;exact P4 (M0 (h1 ρ _ e1 H0 Hf0) M5) fun En σ H ⟨Hf,a,e⟩=>⟨Hf,a,e⟩
theorem bw2{st:Stmt}{f:DS}(h1:JS X st f):JSs X [st] f:=fun ρ fl q H0 Hf0=>j7 (h1 ρ fl q H0 Hf0)
noncomputable def N9(f:DE):DS:=fun ρ=>(f ρ).map Fl.rt
theorem bQ6{e:Expr}{f:DE}{pos:Pos}(h:JE X e f):JS X (.Return (some e) pos) (N9 f):=fun ρ fl q H0 Hf0=>by
 obtain⟨d,e1,e2⟩:=Option.map_eq_some_iff.mp q
 subst e2
 exact B5 (ad0 (h ρ d e1)) fun En σ H ⟨Hf,a,e⟩=>⟨H0,Hf,a.gr.sub,a.sl,fun v H' Hf' g r=>e v H' Hf' (a.gr.trans g) r⟩
noncomputable def sIf(t:Rho->Option Bool) (f g:DS):DS:=fun ρ=>(t ρ).bind fun c=>if c then f ρ else g ρ
theorem cf9{c:Expr}{a b:List Stmt}{t:Rho->Option Bool}{f g:DS}{pos:Pos}(hc:JT X c t) (ha:JSs X a f) (hb:JSs X b g):JS X (.If c a b pos) (sIf t f g):=fun ρ fl q H0 Hf0=>by
 obtain⟨x,e1,q⟩:=xbm q
 cases x with
 | true =>
  refine B5 (ao0 (hc ρ _ e1) (ha ρ fl (by simpa using q) H0 Hf0) M5) fun En σ H ⟨Hf,a,e⟩=>⟨H0,Hf,a.gr.sub,a.sl,fun H' Hf' g=>i4 ⟨Hf',a.grow g,Fl.ends_mono e g.ext⟩⟩
 | false =>
  refine B5 (ao0 (hc ρ _ e1) M5 (hb ρ fl (by simpa using q) H0 Hf0)) fun En σ H ⟨Hf,a,e⟩=>⟨H0,Hf,a.gr.sub,a.sl,fun H' Hf' g=>l6 ⟨Hf',a.grow g,Fl.ends_mono e g.ext⟩⟩
theorem Slots.set{K:PySem.W.Frag}{H0 H Hf:Hp}{ρ:Rho}{σ:L2.St}{i:Nat}{d:D}{v:V}(s:Slots K H0 ρ σ H Hf) (r:Rep K Hf d v):Slots K H0 (ρ.set i (some (.val d))) (σ.set i (some v)) H Hf:=by
 refine⟨by simp[s.len],fun j b e=>?_,fun j k ds es a h1 h2 h3 h4=>?_⟩
 ·by_cases q:i=j
  ·subst q
   have hi:i < ρ.length:=by
    have:=(List.getElem?_eq_some_iff.mp e).1
    simpa using this
   have hi':i < σ.length:=by rw[← s.len];exact hi
   rw[List.getElem?_set_self hi]at e
   cases e
   exact⟨v,List.getElem?_set_self hi',r⟩
  ·rw[List.getElem?_set_ne q]at e
   obtain⟨u,h1,h2⟩:=s.is j b e
   exact⟨u,by rw[List.getElem?_set_ne q];exact h1,h2⟩
 ·have hj:i≠j:=by
   intro q;subst q
   have hi:i < ρ.length:=by
    have:=(List.getElem?_eq_some_iff.mp h1).1
    simpa using this
   rw[List.getElem?_set_self hi]at h1
   cases h1
  have hk:i≠k:=by
   intro q;subst q
   have hi:i < ρ.length:=by
    have:=(List.getElem?_eq_some_iff.mp h2).1
    simpa using this
   rw[List.getElem?_set_self hi]at h2
   cases h2
  rw[List.getElem?_set_ne hj]at h1 h3
  rw[List.getElem?_set_ne hk]at h2 h4
  exact s.apart j k ds es a h1 h2 h3 h4
noncomputable def R5(i:Nat) (f:DE):DS:=fun ρ=>(f ρ).map fun d=>.nx (ρ.set i (some (.val d)))
theorem bf7(i:Nat) {x:Str}{e:Expr}{f:DE}{pos pos':Pos}(hN:X.N.Nodup) (h:JE X e f) (hi:X.N[i]? = some x:=by rfl) (hx:Loc X.env.scope x:=by first|exact Or.inl rfl|exact Or.inr rfl)
  (hs:swapsWith e (some (.Name x pos')) pos.line X.env=pure false:=by rfl) (hf:X.fn x=true\/X.env.scope.names.lookup x=some .local:=by first|exact .inl rfl|exact .inr rfl):JS X (.Assign [.Name x pos'] e pos) (R5 i f):=fun ρ fl q H0 Hf0=>by
 obtain⟨d,e1,e2⟩:=Option.map_eq_some_iff.mp q
 subst e2
 exact B5 (d9 hN hi hx (h ρ d e1) hs hf) fun En σ H ⟨Hf,a,e⟩=>⟨H0,Hf,a.gr.sub,a.sl,fun v H' Hf' g r=>e _ H' Hf' ⟨a.gr.trans g,(a.sl.grow g).set r⟩ g.ext⟩
noncomputable def aY2(i j:Nat) (f:Rho->Option (List D)):DS:=fun ρ=>(f ρ).bind fun ds=>match ds with
 | [a,b]=>some (.nx ((ρ.set i (some (.val a))).set j (some (.val b))))
 | _=>none
end
end G
namespace G
open PySem PySem.Spec PyProof.Rows L2
theorem aU2(I:Nat->Shared->Prop)
  (turn:∀n s,I n s->wpAny (model prog w) A (pyNext it) (fun r s1=>match r with
   | none=>R (.ok .next) s1
   | some v=>wpAny (model prog w) A (letOwnedTupleGo target it v) (fun _ s1'=>wpAny (model prog w) A (assign target env v) (fun _ s2 =>
     wpAny (model prog w) A (forIn ifs true fun c r=>if r=true then do let ok ← isTrue c env (eval c env);pure (ForInStep.yield ok) else pure (ForInStep.yield r)) (fun ok s3 =>
      if ok=true then wpAny (model prog w) A (eval elt env) (fun x s4 =>
       wpAny (model prog w) A (call (.builtin "list.append") [acc,x]) (fun _ s5=>∃m,m < n/\I m s5) (fun _ _=>False) s4) (fun _ _=>False) s3
      else ∃m,m < n/\I m s3) (fun _ _=>False) s2) (fun _ _=>False) s1') (fun _ _=>False) s1) (fun _ _=>False) s)
  (n:Nat) (h:I n s) :
  codeAny (model prog w) A (.compLoop (.ListComp elt [⟨target,iter,ifs,0⟩] scope pos) 0 it acc env) R s:=by
 refine codeAny_loop rfl I (fun n s hI=>?_) n h
 show wpAny _ A ((compTurn (.ListComp elt [⟨target,iter,ifs,0⟩] scope pos) 0 it acc env).onRaise (fun x=>do noteFrame x env;theTreesLotGoes x)) _ _ s
 refine wpAny_noted ?_
 rw[compTurn_list]
 refine wpAny_bind (wpAny_standAt (wpAny_bind (wpAny_mono (turn n s hI) (fun r s1 h1=>?_) fun _ _ h'=>h'.elim)))
 cases r with
 | none=>exact wpAny_pure h1
 | some v =>
  refine wpAny_bind (wpAny_mono h1 (fun _ s1' h1'=>?_) fun _ _ h'=>h'.elim)
  refine wpAny_bind (wpAny_mono h1' (fun _ s2 h2=>wpAny_bind (wpAny_mono h2 (fun ok s3 h3=>?_) fun _ _ h'=>h'.elim)) fun _ _ h'=>h'.elim)
  cases ok with
  | false=>exact wpAny_pure ⟨rfl,h3⟩
  | true =>
   exact wpAny_bind (wpAny_bind (wpAny_mono h3 (fun x s4 h4=>wpAny_bind (wpAny_mono h4 (fun _ s5 h5=>wpAny_pure (wpAny_pure ⟨rfl,h5⟩)) fun _ _ h'=>h'.elim)) fun _ _ h'=>h'.elim))
noncomputable def P8(cells:List (Str×Addr)):List (Str×NameKind)->List (Str×Addr)->List (Str×Addr)
 | [],cs=>cs
 | (n,k)::r,cs=>if(k==NameKind.free)=true then P8 cells r ((n,(cells.lookup n).getD 0)::cs) else P8 cells r cs
theorem al7:∀(names:List (Str×NameKind)) (cs:List (Str×Addr)),(∀y∈names,y.2=.free->∃c,env.cells.lookup y.1=some c) ->
  (forIn names cs fun(x:Str×NameKind) (r:List (Str×Addr))=>if(x.2==NameKind.free)=true then do let a ← cellOf env x.1;pure (ForInStep.yield ((x.1,a)::r)) else pure (ForInStep.yield r):Sem (List (Str×Addr)))=pure (P8 env.cells names cs)
 | [],cs,_=>rfl
 | (n,k)::r,cs,h=>by
  rw[List.forIn_cons]
  have hr:∀y∈r,y.2=.free->∃c,env.cells.lookup y.1=some c:=fun y hy=>h y (List.mem_cons_of_mem _ hy)
  by_cases hk:(k==NameKind.free)=true
  ·obtain⟨c,hc⟩:=h (n,k) List.mem_cons_self (by simpa using hk)
   have hc':env.cells.lookup n=some c:=hc
   simp only[hk,if_true]
   have e:cellOf env n=pure c:=by unfold cellOf;rw[hc']
   rw[e]
   show(forIn r ((n,c)::cs) _:Sem _)=_
   rw[al7 r _ hr]
   simp only[P8,hk,if_true,hc',Option.getD_some]
  ·have hk':(k==NameKind.free)=false:=by simpa using hk
   simp only[hk',Bool.false_eq_true,if_false]
   show(forIn r cs _:Sem _)=_
   rw[al7 r _ hr]
   simp only[P8,hk',Bool.false_eq_true,if_false]
theorem bA2(h:∀y∈scope.names,y.2=.free->∃c,env.cells.lookup y.1=some c):closureFor scope env=pure (P8 env.cells scope.names []):=by
 have:=al7 (env:=env) scope.names [] h
 unfold closureFor
 exact congrArg (fun z=>z >>= fun cs=>pure cs) this
theorem ab8:∀{names:List (Str×NameKind)}{cs:List (Str×Addr)}{x:Str}{c:Addr},(x,c)∈P8 cells names cs->(x,c)∈cs\/((x,NameKind.free)∈names/\c=(cells.lookup x).getD 0)
 | [],cs,x,c,h=>.inl h
 | (n,k)::r,cs,x,c,h=>by
  unfold P8 at h
  split at h
  ·rename_i hk
   rcases ab8 h with q|⟨q1,q2⟩
   ·rcases List.mem_cons.mp q with q|q
    ·cases q
     have:k=.free:=by simpa using hk
     subst this
     exact .inr ⟨List.mem_cons_self,rfl⟩
    ·exact .inl q
   ·exact .inr ⟨List.mem_cons_of_mem _ q1,q2⟩
  ·rcases ab8 h with q|⟨q1,q2⟩
   ·exact .inl q
   ·exact .inr ⟨List.mem_cons_of_mem _ q1,q2⟩
theorem X2:∀{names:List (Str×NameKind)}{cs:List (Str×Addr)}{x:Str},((x,NameKind.free)∈names\/∃c,(x,c)∈cs)->∃c,(x,c)∈P8 cells names cs
 | [],cs,x,h=>by
  rcases h with h|h
  ·cases h
  ·exact h
 | (n,k)::r,cs,x,h=>by
  unfold P8
  rcases h with h|⟨c,h⟩
  ·rcases List.mem_cons.mp h with q|q
   ·cases q
    rw[if_pos (by rfl)]
    exact X2 (.inr ⟨_,List.mem_cons_self⟩)
   ·split
    ·exact X2 (.inl q)
    ·exact X2 (.inl q)
  ·split
   ·exact X2 (.inr ⟨c,List.mem_cons_of_mem _ h⟩)
   ·exact X2 (.inr ⟨c,h⟩)
theorem t5{l:List (Str×Addr)}{x:Str}{c:Addr}(h:(x,c)∈l):∃c',l.lookup x=some c':=by
 induction l with
 | nil=>cases h
 | cons p r ih =>
  obtain⟨n,a⟩:=p
  rw[List.lookup_cons]
  cases e:x==n with
  | true=>exact⟨a,rfl⟩
  | false =>
   rcases List.mem_cons.mp h with q|q
   ·cases q;simp at e
   ·exact ih q
theorem z9:(relabel scope env).names.lookup x=some k->∃k0,scope.names.lookup x=some k0/\(k=k0\/k0=.free):=by
 unfold relabel
 simp only
 generalize scope.names=names
 induction names with
 | nil=>intro h;simp at h
 | cons p r ih =>
  obtain⟨n,k1⟩:=p
  intro h
  rw[List.map_cons]at h
  by_cases hc:(k1==NameKind.free&&env.scope.kind == .function&&env.kindOf n==some .cell)=true
  ·simp only[hc,if_true,List.lookup_cons]at h
   rw[List.lookup_cons]
   cases e:x==n with
   | true =>
    rw[e]at h
    rw[Bool.and_eq_true,Bool.and_eq_true]at hc
    exact⟨k1,rfl,.inr (by simpa using hc.1.1)⟩
   | false=>rw[e]at h;exact ih h
  ·have hc':(k1==NameKind.free&&env.scope.kind == .function&&env.kindOf n==some .cell)=false:=by simpa using hc
   simp only[hc',Bool.false_eq_true,if_false,List.lookup_cons]at h
   rw[List.lookup_cons]
   cases e:x==n with
   | true=>rw[e]at h;cases h;exact⟨_,rfl,.inl rfl⟩
   | false=>rw[e]at h;exact ih h
theorem ar1:scope.names.lookup x=some .free->(relabel scope env).names.lookup x=some .cell\/(relabel scope env).names.lookup x=some .free:=by
 unfold relabel
 simp only
 generalize scope.names=names
 induction names with
 | nil=>intro h;simp at h
 | cons p r ih =>
  obtain⟨n,k1⟩:=p
  intro h
  rw[List.lookup_cons]at h
  rw[List.map_cons]
  cases e:x==n with
  | true =>
   rw[e]at h
   cases h
   have en:x=n:=by simpa using e
   subst en
   by_cases hc:(NameKind.free==NameKind.free&&env.scope.kind == .function&&env.kindOf x==some .cell)=true
   ·simp only[hc,if_true,List.lookup_cons,e];exact .inl trivial
   ·have hc':(NameKind.free==NameKind.free&&env.scope.kind == .function&&env.kindOf x==some .cell)=false:=by simpa using hc
    simp only[hc',Bool.false_eq_true,if_false,List.lookup_cons,e];exact .inr trivial
  | false =>
   rw[e]at h
   by_cases hc:(k1==NameKind.free&&env.scope.kind == .function&&env.kindOf n==some .cell)=true
   ·simp only[hc,if_true,List.lookup_cons,e];exact ih h
   ·have hc':(k1==NameKind.free&&env.scope.kind == .function&&env.kindOf n==some .cell)=false:=by simpa using hc
    simp only[hc',Bool.false_eq_true,if_false,List.lookup_cons,e];exact ih h
noncomputable def C2(X:Cx) (N':List Str) (scope:Scope) (C:Addr) (s₀:Shared) (H₀:Hp) (ex:List Addr):Cx where
 prog:=X.prog
 w:=X.w
 K:=X.K
 mg:=X.mg
 base:=X.base
 A:=X.A
 N:=N'
 s₀:=s₀
 H₀:=H₀
 env:=compEnvC scope (P8 X.env.cells scope.names []) C X.env
 outer:=X.stack
 stack:=X.stack
 ex:=ex
 fn:=fun _=>false
 calm:=X.calm
 pn:=[]
 xe:=fun _ _=>False
structure CompSc (X:Cx) (N':List Str) (n:Nat) (caps:List Nat) (scope:Scope):Prop where
 kind:scope.kind=.function
 cell:∀y∈scope.names,y.2≠.cell
 loc:∀y∈scope.names,y.2=.local->scope.names.lookup y.1=some .local
 free:∀y∈scope.names,y.2=.free->X.env.scope.names.lookup y.1=some .cell\/X.env.scope.names.lookup y.1=some .free
 len:N'.length=n+caps.length
 cap:∀(i j:Nat),caps[i]? = some j->∃x,X.N[j]? = some x/\N'[n+i]? = some x/\scope.names.lookup x=some .free
section
variable {X:Cx}{N':List Str}{n:Nat}{caps:List Nat}{scope:Scope}
theorem Q1{l:List (Str×NameKind)}{x:Str}{k:NameKind}(h:l.lookup x=some k):(x,k)∈l:=PySem.mem_of_lookup h
noncomputable def al9(n:Nat) (caps:List Nat) (σ:L2.St):L2.St:=List.replicate n none++caps.map fun j=>(σ[j]?).join
theorem aG3(S:CompSc X N' n caps scope) (I:Inv X pins σ H s) (hf:∀b∈fp,ae2 X pins H b) (hlt:∀b∈fp,b < s.heap.objs.size)
  (hns:h1.Ns s.heap.objs.size m) (hk:∀b o,s.heap.get? b=some o->h1.get? b=some o) :
  Inv (C2 X N' scope s.heap.objs.size s H fp) [] (al9 n caps σ) H { s with heap:=h1,toks:=tk }:=by
 have cl_of:∀x c,(P8 X.env.cells scope.names []).lookup x=some c->X.env.cells.lookup x=some c:=fun x c h=>by
  have hm:=PySem.mem_of_lookup h
  rcases ab8 hm with q|⟨q1,q2⟩
  ·cases q
  ·obtain⟨c',hc'⟩:=I.ok.has x (S.free _ q1 rfl)
   rw[hc']at q2
   rw[hc',q2];rfl
 have cl_has:∀x,(x,NameKind.free)∈scope.names->∃c,(P8 X.env.cells scope.names []).lookup x=some c:=fun x h=>by
  obtain⟨c,hc⟩:=X2 (cells:=X.env.cells) (cs:=[]) (.inl h)
  exact t5 hc
 have kind_free:∀x,((relabel scope X.env).names.lookup x=some .cell\/(relabel scope X.env).names.lookup x=some .free)->(x,NameKind.free)∈scope.names:=fun x h=>by
  rcases h with h|h
  ·obtain⟨k0,e1,e2⟩:=z9 h
   rcases e2 with e2|e2
   ·subst e2;exact absurd rfl (S.cell _ (Q1 e1))
   ·subst e2;exact Q1 e1
  ·obtain⟨k0,e1,e2⟩:=z9 h
   rcases e2 with e2|e2
   ·subst e2;exact Q1 e1
   ·subst e2;exact Q1 e1
 have cell_lt:∀x c,X.env.cells.lookup x=some c->c < s.heap.objs.size:=fun x c e=>by
  obtain⟨v,q⟩:=I.cell x c e
  exact q.lt
 have ok:(C2 X N' scope s.heap.objs.size s H fp).Ok:=by
  refine⟨I.ok.mod,S.kind,I.ok.glob,I.ok.blt,Nat.le_refl _,fun x y c e1 e2=>I.ok.inj x y c (cl_of x c e1) (cl_of y c e2),fun x hx=>cl_has x (kind_free x hx),fun x c e _=>(Bool.false_ne_true e).elim,I.ok.hd,I.ok.frames,.inl rfl,fun b hb=>⟨Nat.ne_of_lt (hlt b hb),fun x c e=>(hf b hb).2.2.2.2.1 x c (cl_of x c e)⟩,
   I.bs,Nat.le_trans I.ok.bsz I.sz,fun b o e hb=>?_,fun b hb hb2=>?_,I.stack,I.stkFree⟩
  ·rcases(hf b hb).2.2.2.1 with z|z
   ·exact I.ok.noex b o e z
   ·exact absurd (Nat.lt_of_lt_of_le (Heap.lt_size e) (Nat.le_trans I.ok.bsz z)) (Nat.lt_irrefl _)
  ·rcases List.mem_cons.mp (I.stkSub b hb2) with z|z
   ·exact(hf b hb).2.1 z
   ·exact(hf b hb).2.2.1 z
 refine⟨ok,rfl,I.bare,Un.kept hk,⟨m,hns,fun i x v e1 e2 e3=>?_⟩,fun x c e=>?_,I.hok.fresh (Nat.le_refl _),fun x c e=>I.freeC x c (cl_of x c e),fun p hp=>absurd (show p∈([]:List (Addr×Obj)) from hp) (by simp),I.hok.kept hk,?_⟩
 ·have hi:n<=i:=by
   rcases Nat.lt_or_ge i n with h|h
   ·unfold al9 at e2
    rw[List.getElem?_append_left (by simpa using h),List.getElem?_replicate,if_pos h]at e2
    cases e2
   ·exact h
  unfold al9 at e2
  rw[List.getElem?_append_right (by simpa using hi),List.getElem?_map]at e2
  simp only[List.length_replicate]at e2
  cases hj:caps[i - n]? with
  | none=>rw[hj]at e2;cases e2
  | some j =>
   rw[hj]at e2
   have e2':(σ[j]?).join=some v:=by simpa using e2
   have e2'':σ[j]? = some (some v):=by
    cases q:σ[j]? with
    | none=>rw[q]at e2';cases e2'
    | some o=>rw[q]at e2';simp at e2';rw[e2']
   obtain⟨y,q1,q2,q3⟩:=S.cap _ _ hj
   have:y=x:=by
    have e1':N'[i]? = some x:=e1
    rw[show n+(i - n)=i by grind,e1']at q2
    cases q2;rfl
   subst this
   obtain⟨m0,hn0,hl0⟩:=I.loc
   have hv:Vis X.env.scope y:=by
    rcases S.free _ (Q1 q3) rfl with z|z
    ·exact .inr (.inl z)
    ·exact .inr (.inr z)
   obtain⟨u,ru,lk⟩:=hl0 j y v q1 e2'' hv
   refine⟨u,ru,.inr ⟨ar1 q3,?_⟩⟩
   rcases lk with⟨lk,_⟩|⟨_,c,hc,hcell⟩
   ·rcases S.free _ (Q1 q3) rfl with z|z
    ·have:X.env.scope.names.lookup y=some .local:=lk
     rw[z]at this;cases this
    ·have:X.env.scope.names.lookup y=some .local:=lk
     rw[z]at this;cases this
   ·obtain⟨c',hc'⟩:=cl_has y (Q1 q3)
    have:=cl_of y c' hc'
    rw[hc]at this;cases this
    obtain⟨o,ho,hd⟩:=hcell
    exact⟨c,hc',o,hk c o ho,hd⟩
 ·obtain⟨v,o,ho,hd⟩:=I.cell x c (cl_of x c e)
  exact⟨v,o,hk c o ho,hd⟩
 ·show(al9 n caps σ).length=N'.length
  unfold al9
  rw[S.len];simp
theorem ao9(I:Inv X pins σ H s) (hf:∀b∈fp,ae2 X pins H b)
  (I':Inv (C2 X N' scope s.heap.objs.size s H fp) [] σ' H' s') (sb:Heap.SameBut s.heap.objs.size s'.heap h'):Inv X pins σ H' { s' with heap:=h' }:=by
 have ne:∀b o,s.heap.get? b=some o->b≠s.heap.objs.size:=fun b o e=>Nat.ne_of_lt (Heap.lt_size e)
 refine I.call' (s':={ s' with heap:=h' }) (ch:=fp) I'.os ?_ ?_ I'.bare fun b hb=>⟨(hf b hb).2.2.2.1,(hf b hb).2.1,(hf b hb).2.2.2.2.1,(hf b hb).2.2.2.2.2⟩
 ·refine⟨fun b o e n hb hx=>sb.extBut b o (ne b o e) (I'.base.keep b o e n hb hx),fun b o e n hb hx=>?_,I'.base.free,fun b o e hx=>?_,I'.base.tups,I'.base.frzs,I'.base.tbls⟩
  ·obtain⟨sl,q⟩:=I'.base.slot b o e n hb hx
   exact⟨sl,sb.extBut b _ (ne b o e) q⟩
  ·obtain⟨o',q⟩:=I'.base.there b o e hx
   exact⟨o',sb.extBut b _ (ne b o e) q⟩
 ·intro b u e
  have nC:∀c v,H' c=some v->c≠s.heap.objs.size:=fun c v q z=>by
   have:=I'.free
   have z':H' c=none:=by rw[z];exact this
   rw[z']at q;cases q
  refine(I'.hok b u e).stay (fun c v hc q=>sb.extBut c v ?_ q) (fun _ q=>q) fun _ _ q=>q
  rcases hc with z|z
  ·rw[z];exact nC b u e
  ·exact nC c _ z
noncomputable def PTs(X:Cx) (ifs:List Expr) (t:TT):Prop :=
 ∀(pins:List (Addr×Obj)) (s:Shared) (σ:L2.St) (H:Hp) (Q:Bool->Hp->Prop),Inv X pins σ H s->t σ H Q ->
  wpAny (model X.prog X.w) X.A (forIn ifs true fun c r=>if r=true then do let ok ← isTrue c X.env (eval c X.env);pure (ForInStep.yield ok) else pure (ForInStep.yield r)) (TP X pins σ Q) X.xe s
theorem br7:PTs X [] (fun _ H Q=>Q true H):=fun pins s σ H Q I h=>wpAny_tests_nil ⟨H,I,h⟩
theorem br6(h:PT X c t):PTs X [c] t:=fun pins s σ H Q I q=>wpAny_tests_one (h pins s σ H Q I q)
noncomputable def aI0(n:Nat) (caps:List Nat) (wi:TI) (g:TG) (tc:TT) (te:TE):TE:=fun σ H Q=>wi σ H fun J H1=>∀Dd,H1 Dd=none->∃W:Nat->Nat->List V->L2.St->Hp->Prop,
 (∃m,W 0 m [] (al9 n caps σ) (upd H1 Dd (.lst []))) /\
 ∀i m ys σ' H',W i m ys σ' H' ->
  (J.stop i H'/\Q (.ref Dd) H') \/
  (J.go i H'/\∀x H2,J.yld i H' x H2->g x σ' H2 fun σ3 H3=>tc σ3 H3 fun b H4 =>
   if b=true then te σ3 H4 fun y H5=>H5 Dd=some (.lst ys)/\ys.length < sizeLine/\∃m',m' < m/\W (i+1) m' (ys++[y]) σ3 (upd H5 Dd (.lst (ys++[y])))
   else ∃m',m' < m/\W (i+1) m' ys σ3 H4)
theorem al6{elt tgt iter:Expr}{ifs:List Expr}{pos:Pos}{wi:TI}{g:TG}{tc:TT}{te:TE}{RR:Value->Addr->Result->Shared->Prop}{E:Value->Shared->Prop}(S:CompSc X N' n caps scope) (hx:∀e s,X.xe e s->False) (hc:X.calm=true)
  (hi:PI X tgt iter wi) (hg:∀C s0 H0 ex,PG (C2 X N' scope C s0 H0 ex) tgt g) (ht:∀C s0 H0 ex,PTs (C2 X N' scope C s0 H0 ex) ifs tc) (he:∀C s0 H0 ex,PE (C2 X N' scope C s0 H0 ex) elt te)
  {pins:List (Addr×Obj)}{s:Shared}{σ:L2.St}{H:Hp}{Q:VK}(I:Inv X pins σ H s) (h:aI0 n caps wi g tc te σ H Q)
  (hRR:∀D C r s',r=.ok .next->(∃m,s'.heap.Ns C m/\∀h',Heap.SameBut C s'.heap h'->∃H',Inv X pins σ H' { s' with heap:=h' }/\Q (.ref D) H') ->
   (∃s2 fp σ' H2 H',s2.heap.objs.size=C/\Inv X pins σ H2 s2/\(∀b∈fp,ae2 X pins H2 b)/\Inv (C2 X N' scope s2.heap.objs.size s2 H2 fp) [] σ' H' s'/\Q (.ref D) H')->RR (.ref D) C r s') :
  wpAny (model X.prog X.w) X.A (eval iter X.env) (fun x s₁=>wpAny (model X.prog X.w) X.A (pyIter x) (fun it s₂=>wpAny (model X.prog X.w) X.A (newList []) (fun acc s₃ =>
   wpAny (model X.prog X.w) X.A (newFunctionEnv scope X.env.globals (P8 X.env.cells scope.names []) [] X.env.qual none .none (some X.env)) (fun cenv s₄ =>
    codeAny (model X.prog X.w) X.A (.compStart (.ListComp elt [⟨tgt,iter,ifs,0⟩] scope pos) 0 it acc { cenv with scope:=relabel scope X.env }) (RR acc cenv.locals) s₄) E s₃) E s₂) E s₁) E s:=by
 refine wpAny_mono (hi pins s σ H _ I h) (fun v s1 h1=>wpAny_mono h1 (fun itv s2 h2=>?_) fun _ _ z=>(hx _ _ z).elim) fun _ _ z=>(hx _ _ z).elim
 obtain⟨it,fp,tn,J,H2,e,I2,T,st2,f2,R⟩:=h2
 subst e
 refine wpAny_newObj_type (wpAny_newFunctionEnv S.cell (by intro y hy;simp at hy) (fun h₁ hns₁ hsb₁=>?_) S.kind)
 dsimp only at hns₁ hsb₁ ⊢
 obtain⟨W,⟨m0,w0⟩,turn⟩:=R s2.heap.objs.size (I2.hok.fresh (Nat.le_refl _))
 have lt2:∀b∈fp,b < s2.heap.objs.size:=fun b hb=>by
  obtain⟨o,ho,_⟩:=T.obj _ _ st2 b hb
  exact Heap.lt_size ho
 have I3:Inv X pins σ (upd H2 s2.heap.objs.size (.lst [])) { s2 with heap:=s2.heap.push { cls:=.type "list", dict:=none,data:=.seq ([]:List Value).toArray } } :=
  I2.laid (t':=s2.toks) (fun b u e=>Heap.get?_push_of_some _ e) (Nat.le_refl _) ⟨Nat.zero_le _,[],0,.nil,Heap.get?_push_size _ rfl⟩
 generalize hs3:({ s2 with heap:=s2.heap.push { cls:=.type "list", dict:=none,data:=.seq ([]:List Value).toArray } }:Shared)=s3 at I3
 have es3:s3.heap=s2.heap.push { cls:=.type "list", dict:=none,data:=.seq ([]:List Value).toArray }:=by rw[← hs3]
 rw[← es3]at hns₁ hsb₁ ⊢
 have keep3:∀b o,s3.heap.get? b=some o->h₁.get? b=some o:=fun b o e=>hsb₁.extBut b o (Nat.ne_of_lt (Heap.lt_size e)) (Heap.get?_push_of_some _ e)
 have lt3:∀b∈fp,b < s3.heap.objs.size:=fun b hb=>by rw[es3,Heap.size_push];exact Nat.lt_succ_of_lt (lt2 b hb)
 have f3:∀b∈fp,ae2 X pins (upd H2 s2.heap.objs.size (.lst [])) b:=fun b hb=>⟨by rw[A4 (Nat.ne_of_lt (lt2 b hb))];exact(f2 b hb).1,(f2 b hb).2⟩
 generalize hH3:upd H2 s2.heap.objs.size (HO.lst [])=H3 at I3 f3 w0
 have fin3:∀{σ':L2.St}{H':Hp}{pl:List (Addr×Obj)},(∀b∈fp,H' b=none)->(∀p∈pl,False)->∀b∈fp,ae2 (C2 X N' scope s3.heap.objs.size s3 H3 fp) pl H' b:=fun{σ' H' pl} hn hp b hb=>by
  refine⟨hn b hb,Nat.ne_of_lt (lt3 b hb),fun z=>?_,.inl hb,fun x c e=>?_,fun p hp'=>?_⟩
  ·rcases List.mem_cons.mp (I3.stkSub b z) with z|z
   ·exact(f3 b hb).2.1 z
   ·exact(f3 b hb).2.2.1 z
  ·have hm:=PySem.mem_of_lookup e
   rcases ab8 hm with q|⟨q1,q2⟩
   ·cases q
   ·obtain⟨c',hc'⟩:=I3.ok.has x (S.free _ q1 rfl)
    rw[hc']at q2
    have q2':c=c':=q2
    subst q2'
    exact(f3 b hb).2.2.2.2.1 x c hc'
  ·exact(hp p (by simpa [C2] using hp')).elim
 have toks:∃tk,({ s2 with heap:=h₁,toks:=s2.toks+([]:List (Str×Value)).length }:Shared)={ s3 with heap:=h₁,toks:=tk }:=⟨s2.toks,by rw[← hs3];rfl⟩
 obtain⟨tk,htk⟩:=toks
 have st4:tn 0 h₁:=T.keep 0 s2.heap h₁ st2 fun b hb o e=>keep3 b o (by rw[es3];exact Heap.get?_push_of_some _ e)
 have I4:Inv (C2 X N' scope s3.heap.objs.size s3 H3 fp) [] (al9 n caps σ) H3 { s3 with heap:=h₁,toks:=tk }:=aG3 S I3 f3 lt3 hns₁ keep3
 have loop:codeAny (model X.prog X.w) X.A (.compLoop (.ListComp elt [⟨tgt,iter,ifs,0⟩] scope pos) 0 (.ref it) (.ref s2.heap.objs.size) (compEnvC scope (P8 X.env.cells scope.names []) s3.heap.objs.size X.env)) (RR (.ref s2.heap.objs.size) s3.heap.objs.size) { s3 with heap:=h₁,toks:=tk }:=by
  refine aU2 (fun k s'=>∃i ys σ' H',Inv (C2 X N' scope s3.heap.objs.size s3 H3 fp) [] σ' H' s'/\tn i s'.heap/\(∀b∈fp,H' b=none)/\W i k ys σ' H') ?_ m0 ⟨0,[],_,H3,I4,st4,fun b hb=>(f3 b hb).1,w0⟩
  rintro k s5 ⟨i,ys,σ5,H5,I5,st5,fr5,w5⟩
  have pz:∀p∈([]:List (Addr×Obj)),False:=fun p hp=>by cases hp
  rcases turn i k ys σ5 H5 w5 with⟨stop,qn⟩|⟨go,step⟩
  ·refine wpAny_mono (T.done (C2 X N' scope s3.heap.objs.size s3 H3 fp) rfl rfl rfl hc i [] s5 σ5 H5 (fun _ _=>False) I5 (fin3 (σ':=σ5) fr5 pz) st5 stop) (fun r s6 ⟨hr,I6⟩=>?_) fun _ _ z=>z
   subst hr
   obtain⟨m6,hn6,_⟩:=I6.loc
   refine hRR _ _ _ s6 rfl ⟨m6,hn6,fun h' sb=>⟨H5,ao9 I3 f3 I6 sb,qn⟩⟩ ⟨s3,fp,σ5,H3,H5,rfl,I3,f3,I6,qn⟩
  ·refine wpAny_mono (T.item (C2 X N' scope s3.heap.objs.size s3 H3 fp) rfl rfl rfl hc i [] s5 σ5 H5 (fun _ _=>False) I5 (fin3 (σ':=σ5) fr5 pz) st5 go) (fun r s6 ⟨u,hr,h6⟩=>?_) fun _ _ z=>z
   subst hr
   refine wpAny_mono h6 (fun _ s7 ⟨x,H7,I7,r7,y7,st7,fr7⟩=>?_) fun _ _ z=>z
   have I7':=I7.pinned (fin3 (σ':=σ5) fr7 pz) (T.obj _ _ st7)
   refine wpAny_mono (hg _ _ _ _ _ s7 σ5 H7 x u _ I7' r7 (step x H7 y7)) (fun _ s8 ⟨σ8,H8,I8,q8⟩=>?_) fun _ _ z=>z
   refine wpAny_mono (ht _ _ _ _ _ s8 σ8 H8 _ I8 q8) (fun ok s9 ⟨H9,I9,q9⟩=>?_) fun _ _ z=>z
   have again:∀{σ':L2.St}{H':Hp}{s':Shared},Inv (C2 X N' scope s3.heap.objs.size s3 H3 fp) ([]++aj7 fp s7.heap) σ' H' s'->Inv (C2 X N' scope s3.heap.objs.size s3 H3 fp) [] σ' H' s'/\tn (i+1) s'.heap/\∀b∈fp,H' b=none:=fun{σ' H' s'} I'=>by
    refine⟨I'.unpinned,T.keep _ _ _ st7 fun b hb o e=>(I'.pin (b,o) (List.mem_append_right _ (List.mem_append_right _ (Y1 hb e)))).1,fun b hb=>?_⟩
    obtain⟨o,e,d⟩:=T.obj _ _ st7 b hb
    exact(I'.pin (b,o) (List.mem_append_right _ (List.mem_append_right _ (Y1 hb e)))).2.1
   cases ok with
   | false =>
    rw[if_neg Bool.false_ne_true]at q9 ⊢
    obtain⟨m',hm,w'⟩:=q9
    obtain⟨a1,a2,a3⟩:=again I9
    exact⟨m',hm,i+1,ys,σ8,H9,a1,a2,a3,w'⟩
   | true =>
    rw[if_pos rfl]at q9 ⊢
    refine wpAny_mono (he _ _ _ _ _ s9 σ8 H9 _ I9 q9) (fun y s10 ⟨vy,H10,I10,r10,q10,z10,m',hm,w'⟩=>?_) fun _ _ z=>z
    refine wpAny_mono (U9 (X:=C2 X N' scope s3.heap.objs.size s3 H3 fp) _ s10 σ8 H10 (.ref s2.heap.objs.size) [vy] _ _ (fun v H'=>v=.non/\H'=upd H10 s2.heap.objs.size (.lst (ys++[vy]))) I10 rfl (.cons r10 .nil) ⟨_,ys,vy,rfl,rfl,q10,z10,rfl,rfl⟩) (fun _ s11 ⟨v11,H11,I11,r11,e11,e12⟩=>?_) fun _ _ z=>z
    subst e12
    obtain⟨a1,a2,a3⟩:=again I11
    exact⟨m',hm,i+1,ys++[vy],σ8,_,a1,a2,a3,w'⟩
 show codeAny (model X.prog X.w) X.A _ _ ({ s2 with heap:=h₁,toks:=s2.toks+([]:List (Str×Value)).length }:Shared)
 rw[htk]
 exact codeAny_compStart_list loop (T.self _ _ _ _ _ st4 loop)
end
end G
namespace G
open PySem PySem.Spec PyProof.Rows L2
section
variable {X:Cx}
noncomputable def tgJ(K:PySem.W.Frag) (f:D->Rho->Option Rho):TG:=fun v σ H Q=>∃d ρ ρ' H0 Hf,f d ρ=some ρ'/\B2 Hf H/\Slots K H0 ρ σ H Hf/\Rep K Hf d v/\∀σ',Slots K H0 ρ' σ' H Hf->Q σ' H
noncomputable def JG(X:Cx) (tg:Expr) (f:D->Rho->Option Rho):Prop:=PG X tg (tgJ X.K f)
noncomputable def cj6(K:PySem.W.Frag) (f:List D->Rho->Option Rho):TGs:=fun vs σ H Q=>∃ds ρ ρ' H0 Hf,f ds ρ=some ρ'/\B2 Hf H/\Slots K H0 ρ σ H Hf/\Reps K Hf ds vs/\∀σ',Slots K H0 ρ' σ' H Hf->Q σ' H
noncomputable def JGs(X:Cx) (tg:List Expr) (f:List D->Rho->Option Rho):Prop:=PGs X tg (cj6 X.K f)
noncomputable def O0(i:Nat):D->Rho->Option Rho:=fun d ρ=>some (ρ.set i (some (.val d)))
theorem aM6(i:Nat) (hN:X.N.Nodup) (hi:X.N[i]? = some x:=by rfl) (hx:Loc X.env.scope x:=by first|exact Or.inl rfl|exact Or.inr rfl) (hf:X.fn x=true\/X.env.scope.names.lookup x=some .local:=by first|exact .inl rfl|exact .inr rfl):JG X (.Name x pos) (O0 i):=by
 intro pins s σ H v u Q I r ⟨d,ρ,ρ',H0,Hf,e,ss,sl,rp,k⟩
 cases e
 exact bs6 hN hi hx hf pins s σ H v u Q I r (k _ (sl.set rp))
noncomputable def m4:List D->Rho->Option Rho:=fun ds ρ=>match ds with
 | []=>some ρ
 | _=>none
noncomputable def Q2(f:D->Rho->Option Rho) (g:List D->Rho->Option Rho):List D->Rho->Option Rho:=fun ds ρ=>match ds with
 | d::r=>(f d ρ).bind fun ρ'=>g r ρ'
 | []=>none
theorem bx2:JGs X [] m4:=by
 intro pins s σ H vs us Q I r ⟨ds,ρ,ρ',H0,Hf,e,ss,sl,rp,k⟩
 cases ds with
 | nil=>cases e;exact bs5 pins s σ H vs us Q I r ⟨rp,k _ sl⟩
 | cons d ds=>cases e
theorem bg2(h1:JG X e f) (h2:JGs X es g) (hs:(assignEach (e::es) X.env).map (·.2)=assign e X.env::(assignEach es X.env).map (·.2):=by rfl):JGs X (e::es) (Q2 f g):=by
 intro pins s σ H vs us Q I r ⟨ds,ρ,ρ',H0,Hf,e,ss,sl,rp,k⟩
 cases ds with
 | nil=>cases e
 | cons d ds =>
  obtain⟨ρ1,e1,e2⟩:=xbm e
  obtain⟨v,vr,rfl,q1,q2⟩:=rp
  exact ba3 h1 h2 hs pins s σ H _ us Q I r ⟨v,vr,rfl,d,ρ,ρ1,H0,Hf,e1,ss,sl,q1,fun σ' sl'=>⟨ds,ρ1,ρ',H0,Hf,e2,ss,sl',q2,k⟩⟩
noncomputable def a8(n:Nat) (g:List D->Rho->Option Rho):D->Rho->Option Rho:=fun d ρ=>match d with
 | .tuple ds=>if ds.length=n then g ds ρ else none
 | _=>none
theorem bS2(h:JGs X es g) (hc:X.calm=true:=by rfl) (hn:(assignEach es X.env).length=n:=by rfl) (hst:(assignEach es X.env).findIdx? (·.1)=none:=by rfl):JG X (.Tuple es k pos) (a8 n g):=by
 intro pins s σ H v u Q I r ⟨d,ρ,ρ',H0,Hf,e,ss,sl,rp,kk⟩
 cases d with
 | tuple ds =>
  simp only[a8]at e
  split at e
  ·rename_i hl
   obtain⟨a,vs,rfl,q1,q2⟩:=rp
   exact bK8 hc h hn hst pins s σ H _ u Q I r ⟨a,vs,rfl,B6 ss q1,by rw[q2.length,hl],ds,ρ,ρ',H0,Hf,e,ss,sl,q2,kk⟩
  ·cases e
 | _=>cases e
noncomputable def av0(K:PySem.W.Frag) (J:It) (ds:List D) (Hf1:Hp):Prop:=∀(i:Nat) (H Hf:Hp),B2 Hf1 Hf->B2 Hf H->(ds.length<=i->J.stop i H)/\∀d,ds[i]? = some d->J.go i H/\∀x H',J.yld i H x H'->∃Hf',Grow H Hf H' Hf'/\Rep K Hf' d x
noncomputable def tiJ(K:PySem.W.Frag) (ρ:Rho) (ds:List D):TI:=fun σ H R=>∃H0 Hf,B2 Hf H/\Slots K H0 ρ σ H Hf/\∀J H' Hf',Grow H Hf H' Hf'->av0 K J ds Hf'->R J H'
noncomputable def JI(X:Cx) (tg iter:Expr) (f:Rho->Option (List D)):Prop:=∀ρ ds,f ρ=some ds->PI X tg iter (tiJ X.K ρ ds)
theorem aj8(h:PI X tg iter t) (i:∀σ H R,t' σ H R->t σ H R):PI X tg iter t':=fun pins s σ H R I q=>h pins s σ H R I (i σ H R q)
noncomputable def am9(f:DE):Rho->Option (List D):=fun ρ=>(f ρ).bind fun d=>match d with
 | .list ds=>some ds
 | .tuple ds=>some ds
 | _=>none
theorem aF2(h:JE X e f):JI X tg e (am9 f):=fun ρ ds q=>by
 obtain⟨d,e1,e2⟩:=xbm q
 cases d with
 | list xs =>
  cases e2
  refine aj8 (aK7 (h ρ _ e1)) fun σ H R ⟨H0,Hf,s,sl,k⟩=>⟨H0,Hf,s,sl,fun v H1 Hf1 g1 ⟨a,vs,h1,h2,h3⟩=>⟨a,h1,⟨vs,D6 g1.sub h2⟩,k _ H1 Hf1 g1 ?_⟩⟩
  intro i H' Hf' sa sb
  have q':SqL X.K H' a vs:=D6 (sa.trans sb) h2
  refine⟨fun hi=>⟨vs,q',by rw[h3.length];exact hi⟩,fun d hd=>?_⟩
  obtain⟨v,w1,w2⟩:=h3.get hd
  refine⟨⟨vs,v,q',w1⟩,fun x H'' hy=>?_⟩
  obtain⟨rfl,hy⟩:=hy
  have:=hy vs q'
  rw[w1]at this;cases this
  exact⟨Hf',Grow.refl sb,w2.mono sa⟩
 | tuple xs =>
  cases e2
  refine aj8 (bK7 (h ρ _ e1)) fun σ H R ⟨H0,Hf,s,sl,k⟩=>⟨H0,Hf,s,sl,fun v H1 Hf1 g1 ⟨a,vs,h1,h2,h3⟩=>⟨a,h1,⟨vs,B6 g1.sub h2⟩,k _ H1 Hf1 g1 ?_⟩⟩
  intro i H' Hf' sa sb
  have q':SqT X.K H' a vs:=B6 (sa.trans sb) h2
  refine⟨fun hi=>⟨vs,q',by rw[h3.length];exact hi⟩,fun d hd=>?_⟩
  obtain⟨v,w1,w2⟩:=h3.get hd
  refine⟨⟨vs,v,q',w1⟩,fun x H'' hy=>?_⟩
  obtain⟨rfl,hy⟩:=hy
  have:=hy vs q'
  rw[w1]at this;cases this
  exact⟨Hf',Grow.refl sb,w2.mono sa⟩
 | _=>cases e2
noncomputable def T6(lo hi:Int):List D:=(List.range (hi - lo).toNat).map fun(i:Nat)=>PyData.int (lo+i)
theorem u7{K:PySem.W.Frag}{lo hi:Int}{Hf1:Hp}:av0 K (Itr lo (hi - lo).toNat) (T6 lo hi) Hf1:=by
 intro i H Hf sa sb
 have hl:(T6 lo hi).length=(hi - lo).toNat:=by simp[T6]
 refine⟨fun h=>by rw[hl]at h;exact h,fun d hd=>?_⟩
 have hi':i < (hi - lo).toNat:=by
  have:=(List.getElem?_eq_some_iff.mp hd).1
  rw[hl]at this;exact this
 refine⟨hi',fun x H' hy=>?_⟩
 obtain⟨e1,e2⟩:=hy
 subst e1 e2
 have:d=.int (lo+i):=by
  have:(T6 lo hi)[i]? = some (.int (lo+i)):=by simp[T6,hi']
  rw[hd]at this;cases this;rfl
 subst this
 exact⟨Hf,Grow.refl sb,rfl⟩
noncomputable def Q7(f:DE):Rho->Option (List D):=fun ρ=>(f ρ).bind fun d=>match d with
 | .int j=>if -(2 ^ 62)<=j/\j < 2 ^ 62 then some (T6 0 j) else none
 | _=>none
theorem aS6{tg e:Expr}{f:DE}{p pos:Pos}(hg:Gl X "range") (hm:X.mg "range" = none) (h:JE X e f) (hs:starEach [e] X.env=[(false,eval e X.env)]:=by rfl):JI X tg (.Call (.Name "range" p) [e] [] pos) (Q7 f):=fun ρ ds q=>by
 obtain⟨d,e1,e2⟩:=xbm q
 split at e2
 ·split at e2
  ·rename_i j c
   cases e2
   refine aj8 (aR0 hg hm (B8 (h ρ _ e1) F6 hs) hs) fun σ H R ⟨H0,Hf,s,sl,k⟩=>⟨H0,Hf,s,sl,fun v H1 Hf1 g1 r=>⟨j,by rw[show v=_ from r],c.1,c.2,k _ H1 Hf1 g1 ?_⟩⟩
   have:=u7 (K:=X.K) (lo:=0) (hi:=j) (Hf1:=Hf1)
   rw[Int.sub_zero]at this
   exact this
  ·cases e2
 ·cases e2
noncomputable def az7(f g:DE):Rho->Option (List D):=fun ρ=>(f ρ).bind fun d=>(g ρ).bind fun e=>match d,e with
 | .int i,.int j=>if(-(2 ^ 62)<=i/\i < 2 ^ 62)/\-(2 ^ 62)<=j/\j < 2 ^ 62 then some (T6 i j) else none
 | _,_=>none
theorem aS5(hg:Gl X "range") (hm:X.mg "range" = none) (ha:JE X a f) (hb:JE X b g) (hs:starEach [a,b] X.env=[(false,eval a X.env),(false,eval b X.env)]:=by rfl) (hs2:starEach [b] X.env=[(false,eval b X.env)]:=by rfl) :
  JI X tg (.Call (.Name "range" p) [a,b] [] pos) (az7 f g):=fun ρ ds q=>by
 obtain⟨d,e1,q⟩:=xbm q
 obtain⟨e,e2,q⟩:=xbm q
 split at q
 ·split at q
  ·rename_i c
   cases q
   refine aj8 (aQ9 hg hm (B8 (ha ρ _ e1) (B8 (hb ρ _ e2) F6 hs2) (by rw[hs,hs2])) hs hs2) fun σ H R ⟨H0,Hf,s,sl,k⟩=>⟨H0,Hf,s,sl,fun v H1 Hf1 g1 r=>⟨H0,Hf1,g1.sub,sl.grow g1,fun u H2 Hf2 g2 r2=>⟨_,_,by rw[show v=_ from r,show u=_ from r2],⟨c.1.1,c.1.2,c.2.1,c.2.2⟩,k _ H2 Hf2 (g1.trans g2) u7⟩⟩⟩
  ·cases q
 ·cases q
theorem Grow.nofr(g:Grow H Hf H' Hf') (h:H a=some o) (n:Hf a=none):Hf' a=none:=by
 cases q:Hf' a with
 | none=>rfl
 | some u =>
  rcases g.new a (by rw[q];simp) with z|z
  ·exact absurd n z
  ·rw[h]at z;cases z
noncomputable def ab9(n:Nat) (caps:List Nat) (ρ:Rho):Rho:=List.replicate n none++caps.map fun j=>match ρ[j]? with
 | some (some (.val d))=>some (.val d)
 | _=>none
noncomputable def V8(g:D->Rho->Option Rho) (c:Rho->Option Bool) (e:DE):List D->Rho->Option (List D)
 | [],_=>some []
 | d::ds,ρ=>(g d ρ).bind fun ρ1=>(c ρ1).bind fun b=>if b then(e ρ1).bind fun y=>(V8 g c e ds ρ1).map fun r=>y::r else V8 g c e ds ρ1
noncomputable def P2(n:Nat) (caps:List Nat) (src:Rho->Option (List D)) (g:D->Rho->Option Rho) (c:Rho->Option Bool) (e:DE):Rho->Option (List D):=fun ρ=>(src ρ).bind fun ds=>if ds.length<=16777216 then V8 g c e ds (ab9 n caps ρ) else none
noncomputable def ai8(K:PySem.W.Frag) (c:Rho->Option Bool):TT:=fun σ H Q=>∃ρ b,c ρ=some b/\∃H0 Hf,B2 Hf H/\Slots K H0 ρ σ H Hf/\∀H' Hf',Grow H Hf H' Hf'->Q b H'
noncomputable def aH9(K:PySem.W.Frag) (e:DE):TE:=fun σ H Q=>∃ρ d,e ρ=some d/\tJ K ρ (fun _ v _ Hf=>Rep K Hf d v) σ H Q
noncomputable def JTs(X:Cx) (ifs:List Expr) (c:Rho->Option Bool):Prop:=PTs X ifs (ai8 X.K c)
noncomputable def U0:Rho->Option Bool:=fun _=>some true
theorem aM0:JTs X [] U0:=fun pins s σ H Q I ⟨ρ,b,e,H0,Hf,ss,sl,k⟩=>by
 cases e
 exact br7 pins s σ H Q I (k H Hf (Grow.refl ss))
theorem bw1(h:JT X e c):JTs X [e] c:=fun pins s σ H Q I ⟨ρ,b,e,H0,Hf,ss,sl,k⟩=>br6 (h ρ b e) pins s σ H Q I ⟨H0,Hf,ss,sl,k⟩
theorem aG5{K:PySem.W.Frag}{n:Nat}{caps:List Nat}{H0 H H1 H' Hf:Hp}{ρ:Rho}{σ:L2.St}(sl:Slots K H0 ρ σ H Hf):Slots K H1 (ab9 n caps ρ) (al9 n caps σ) H' Hf:=by
 have noown:∀(i:Nat) (ds:List D),(ab9 n caps ρ)[i]?≠some (some (.own ds)):=fun i ds h=>by
  unfold ab9 at h
  rcases Nat.lt_or_ge i n with q|q
  ·rw[List.getElem?_append_left (by simpa using q),List.getElem?_replicate,if_pos q]at h;cases h
  ·rw[List.getElem?_append_right (by simpa using q),List.getElem?_map]at h
   cases hj:caps[i - (List.replicate n (none:Option B)).length]? with
   | none=>rw[hj]at h;cases h
   | some j =>
    rw[hj]at h
    simp only[Option.map_some,Option.some.injEq]at h
    split at h<;>cases h
 refine⟨by simp[ab9,al9],fun i b e=>?_,fun i j ds es a h1=>(noown i ds h1).elim⟩
 unfold ab9 at e
 unfold al9
 rcases Nat.lt_or_ge i n with q|q
 ·rw[List.getElem?_append_left (by simpa using q),List.getElem?_replicate,if_pos q]at e;cases e
 ·rw[List.getElem?_append_right (by simpa using q),List.getElem?_map]at e
  rw[List.getElem?_append_right (by simpa using q),List.getElem?_map]
  simp only[List.length_replicate]at e ⊢
  cases hj:caps[i - n]? with
  | none=>rw[hj]at e;cases e
  | some j =>
   rw[hj]at e
   simp only[Option.map_some,Option.some.injEq]at e ⊢
   split at e
   ·rename_i d hd
    cases e
    obtain⟨v,h1,h2⟩:=sl.is j _ hd
    exact⟨v,by rw[h1];rfl,h2⟩
   ·cases e
theorem u4{K:PySem.W.Frag}{n:Nat}{caps:List Nat}{ρ:Rho}{src:Rho->Option (List D)}{g:D->Rho->Option Rho}{c:Rho->Option Bool}{e:DE}{out:List D}(h:P2 n caps src g c e ρ=some out) :
  ∃ds,src ρ=some ds/\∀σ H Q,tJ K ρ (fun H v H' Hf'=>∃a vs,v=.ref a/\H a=none/\H' a=some (.lst vs)/\Hf' a=none/\Reps K Hf' out vs) σ H Q->aI0 n caps (tiJ K ρ ds) (tgJ K g) (ai8 K c) (aH9 K e) σ H Q:=by
 obtain⟨ds,e1,e2⟩:=xbm h
 split at e2
 ·rename_i hz
  refine⟨ds,e1,fun σ H Q ⟨H0,Hf,s,sl,k⟩=>⟨H0,Hf,s,sl,fun J H1 Hf1 g1 Y Dd hD=>?_⟩⟩
  refine⟨fun i m ys σ' H'=>m=ds.length - i/\i<=ds.length/\∃Hf' ρ' o1 o2,Grow H1 Hf1 H' Hf'/\H' Dd=some (.lst ys)/\Hf' Dd=none/\Slots K (upd H1 Dd (.lst [])) ρ' σ' H' Hf'/\Reps K Hf' o1 ys/\o1.length<=i/\V8 g c e (ds.drop i) ρ'=some o2/\o1++o2=out,
   ⟨ds.length,by simp,Nat.zero_le _,Hf1,ab9 n caps ρ,[],out,Grow.made g1.sub hD,A3,g1.sub.free hD,aG5 (sl.grow g1),rfl,Nat.le_refl _,by simpa using e2,rfl⟩,?_⟩
  rintro i m ys σ' H' ⟨rfl,hi,Hf',ρ',o1,o2,gr,hd1,hd2,sl',rp,ho,ec,eo⟩
  obtain⟨Ys,Yg⟩:=Y i H' Hf' gr.ext gr.sub
  rcases Nat.lt_or_ge i ds.length with hlt|hge
  ·right
   obtain⟨go,yl⟩:=Yg ds[i] (by simp[hlt])
   refine⟨go,fun x H2 hy=>?_⟩
   obtain⟨Hf2,g2,r2⟩:=yl x H2 hy
   rw[List.drop_eq_getElem_cons hlt]at ec
   obtain⟨ρ1,c1,ec⟩:=xbm ec
   obtain⟨b,c2,ec⟩:=xbm ec
   refine⟨ds[i],ρ',ρ1,_,Hf2,c1,g2.sub,sl'.grow g2,r2,fun σ3 sl3=>⟨ρ1,b,c2,_,Hf2,g2.sub,sl3,fun H4 Hf4 g4=>?_⟩⟩
   have gr4:=(gr.trans g2).trans g4
   have hd4:H4 Dd=some (.lst ys):=g4.big _ _ (g2.big _ _ hd1)
   have hf4:Hf4 Dd=none:=(g2.trans g4).nofr hd1 hd2
   have rp4:=rp.mono (g2.trans g4).ext
   cases b with
   | false =>
    rw[if_neg Bool.false_ne_true]at ec
    refine l6 ?_
    exact⟨ds.length - (i+1),by grind,rfl,hlt,Hf4,ρ1,o1,o2,gr4,hd4,hf4,sl3.grow g4,rp4,by grind,ec,eo⟩
   | true =>
    rw[if_pos rfl]at ec
    refine i4 ?_
    obtain⟨y,c3,ec⟩:=xbm ec
    obtain⟨o3,c4,rfl⟩:=Option.map_eq_some_iff.mp ec
    refine⟨ρ1,y,c3,_,Hf4,g4.sub,sl3.grow g4,fun v H5 Hf5 g5 r5=>⟨g5.big _ _ hd4,?_,?_⟩⟩
    ·rw[rp.length,sizeLine_eq];grind
    ·have hf5:Hf5 Dd=none:=g5.nofr hd4 hf4
     have gr5:=gr4.trans g5
     refine⟨ds.length - (i+1),by grind,rfl,hlt,Hf5,ρ1,o1++[y],o3,⟨fun b u q=>?_,fun b u q=>?_,gr5.ext,gr5.new⟩,A3,hf5,?_,(rp4.mono g5.ext).append ⟨v,[],rfl,r5,rfl⟩,by simp;grind,c4,by simp[← eo]⟩
     ·rw[A4 (A9 q hD)];exact gr5.big b u q
     ·rw[A4 (A9 q hf5)];exact gr5.sub b u q
     ·have sl5:=(sl3.grow g4).grow g5
      refine⟨sl5.len,fun j bb q=>?_,sl5.apart⟩
      obtain⟨w,q1,q2⟩:=sl5.is j bb q
      refine⟨w,q1,?_⟩
      cases bb with
      | val d=>exact q2
      | exc C=>exact q2
      | opq _=>exact q2
      | own dd =>
       obtain⟨a,vs,z1,z2,z3,z4,z5⟩:=q2
       have ne:a≠Dd:=fun z=>by rw[z,A3]at z4;cases z4
       exact⟨a,vs,z1,by rw[A4 ne];exact z2,z3,z4,z5⟩
  ·left
   have:i=ds.length:=by grind
   subst this
   rw[List.drop_length]at ec
   cases ec
   rw[List.append_nil]at eo
   subst eo
   exact⟨Ys (Nat.le_refl _),k _ H' Hf' (g1.trans gr) ⟨Dd,ys,rfl,g1.big.free hD,hd1,hd2,rp⟩⟩
 ·cases e2
end
end G
namespace G
open PySem PySem.Spec PyProof.Rows L2
section
variable {X:Cx}
noncomputable def ab7(N N':List Str) (n:Nat) (caps:List Nat) (sc scope:Scope):Bool :=
 (match scope.kind with | .function=>true|_=>false) &&
 (scope.names.all fun y=>(match y.2 with | .cell=>false | .local=>scope.names.lookup y.1==some .local | .free=>sc.names.lookup y.1==some .cell || sc.names.lookup y.1==some .free|_=>true)) &&
 (N'.length==n+caps.length) &&
 ((List.range caps.length).all fun i=>match caps[i]? with
  | some j=>(match N[j]? with|some x=>N'[n+i]? == some x&&scope.names.lookup x==some .free|none=>false)
  | none=>true)
theorem ap0(h:ab7 N N' n caps sc scope=true) (hN:X.N=N) (hS:X.env.scope=sc):CompSc X N' n caps scope:=by
 subst hN hS
 unfold ab7 at h
 simp only[Bool.and_eq_true,List.all_eq_true]at h
 obtain⟨⟨⟨h1,h2⟩,h3⟩,h4⟩:=h
 refine⟨?_,fun y hy e=>?_,fun y hy e=>?_,fun y hy e=>?_,by simpa using h3,fun i j e=>?_⟩
 ·cases q:scope.kind<;>rw[q]at h1<;>first|rfl|cases h1
 ·have:=h2 y hy
  rw[e]at this;cases this
 ·have:=h2 y hy
  rw[e]at this;simpa using this
 ·have:=h2 y hy
  rw[e]at this;simpa using this
 ·have hi:i < caps.length:=(List.getElem?_eq_some_iff.mp e).1
  have:=h4 i (by simpa using hi)
  rw[e]at this
  simp only at this
  cases q:X.N[j]? with
  | none=>rw[q]at this;cases this
  | some x =>
   rw[q]at this
   simp only[Bool.and_eq_true]at this
   exact⟨x,rfl,by simpa using this.1,by simpa using this.2⟩
theorem au3(S:CompSc X N' n caps scope) (I:Inv X pins σ H s):closureFor scope X.env=pure (P8 X.env.cells scope.names []) :=
 bA2 fun y hy e=>I.ok.has y.1 (S.free y hy e)
theorem bx1(S:CompSc X N' n caps scope) (hx:∀e s,X.xe e s->False)
  (hi:JI X tgt iter src) (hg:∀C s0 H0 ex,JG (C2 X N' scope C s0 H0 ex) tgt g) (ht:∀C s0 H0 ex,JTs (C2 X N' scope C s0 H0 ex) ifs c) (he:∀C s0 H0 ex,JE (C2 X N' scope C s0 H0 ex) elt e)
  (hc:X.calm=true:=by rfl) (hs:∀x,foldedSetIterable iter X.env x=pure x:=by intro _;rfl):JN X (.ListComp elt [⟨tgt,iter,ifs,0⟩] scope pos) (P2 n caps src g c e):=by
 intro ρ out h
 obtain⟨ds,e1,k⟩:=u4 (K:=X.K) h
 intro pins s σ H Q I t
 rw[eval_ListComp]
 refine wpAny_comprehension_free (use:=none) rfl hs (au3 S I) S.kind S.loc (al6 (RR:=fun acc C=>compPost (model X.prog X.w) X.A X.xe none (EP X pins σ Q) acc C) S hx hc (hi ρ ds e1) (g:=tgJ X.K g) (tc:=ai8 X.K c) (te:=aH9 X.K e) hg ht (fun C s0 H0 ex pins s σ H Q I ⟨ρ,d,e,t⟩=>he C s0 H0 ex ρ d e pins s σ H Q I t) I (k σ H Q t) ?_)
 intro Dd C r s' hr ⟨m,hn,kk⟩ _
 subst hr
 exact⟨m,hn,fun h' sb=>let⟨H',I',q⟩:=kk h' sb;⟨.ref Dd,H',I',rfl,q⟩⟩
theorem aj5(S:CompSc X N' n caps scope) (hx:∀e s,X.xe e s->False) (hc:X.calm=true)
  (hN:X.N.Nodup) (hi:X.N[i]? = some x) (hl:X.env.scope.names.lookup x=some .local) (hsrc:PI X tgt iter wi) (hg:∀C s0 H0 ex,PG (C2 X N' scope C s0 H0 ex) tgt g) (ht:∀C s0 H0 ex,PTs (C2 X N' scope C s0 H0 ex) ifs tc) (he:∀C s0 H0 ex,PE (C2 X N' scope C s0 H0 ex) elt te)
  (hsw:swapsWith (.ListComp elt [⟨tgt,iter,ifs,0⟩] scope pos) (some (.Name x pos')) spos.line X.env=pure true) (hs:∀x,foldedSetIterable iter X.env x=pure x) :
  PS X (.Assign [.Name x pos'] (.ListComp elt [⟨tgt,iter,ifs,0⟩] scope pos) spos) (fun En σ H=>aI0 n caps wi g tc te σ H fun v H'=>En.nx (σ.set i (some v)) H'):=by
 intro pins s σ H En I h
 rw[exec_Assign_Name_used _ _ _ _ hsw]
 refine wpAny_bind (wpAny_standAt (wpAny_bind ?_))
 show wpAny _ X.A (do let _ ← comprehension (.ListComp elt [⟨tgt,iter,ifs,0⟩] scope pos) scope X.env _ (newList []) false (eval iter X.env) (some (assign (.Name x pos') X.env))) _ _ s
 refine wpAny_bind (wpAny_mono (wpAny_comprehension_free (use:=some (assign (.Name x pos') X.env)) (Q:=fun _ s'=>SP X pins En .next s') rfl hs (au3 S I) S.kind S.loc
  (al6 (RR:=fun acc C=>compPost (model X.prog X.w) X.A X.xe (some (assign (.Name x pos') X.env)) (fun _ s'=>SP X pins En .next s') acc C) S hx hc hsrc hg ht he I h ?_)) (fun _ s' hq=>wpAny_pure (wpAny_pure hq)) fun _ _ z=>z)
 intro Dd C r s' hr _ ⟨s2,fp,σ',H2,H',eC,I2,f2,I',q⟩
 subst hr eC
 have IX:Inv X pins σ H' s':=ao9 (h':=s'.heap) I2 f2 I' (Heap.SameBut.refl ..)
 obtain⟨mC,hnC,_⟩:=I'.loc
 have hCL:s2.heap.objs.size≠X.env.locals:=fun z=>by
  have:=I2.lt
  rw[← z]at this
  exact Nat.lt_irrefl _ this
 show wpAny _ X.A (assign (.Name x pos') X.env (.ref Dd)) _ _ _
 refine wpAny_assign_Name (an4 (v:=.ref Dd) IX hN hi (.inl hl) rfl (fun s3 I3 ⟨a,sb,ha⟩=>?_) (.inr hl))
 have hCa:s2.heap.objs.size≠a:=fun z=>by
  rcases ha with ha|ha
  ·exact hCL (z.trans ha)
  ·obtain⟨v,q'⟩:=I2.cell x a ha
   have:=q'.lt
   rw[← z]at this
   exact Nat.lt_irrefl _ this
 refine⟨mC,hnC.sameBut sb hCa,fun h' sb'=>?_⟩
 refine⟨_,H',I3.turned (t':=s3.toks) (it:=s2.heap.objs.size) (fun b o hb e=>sb'.extBut b o hb e) I'.free hCL (.inr I2.sz) (fun y c e z=>?_) (fun p hp z=>?_),q⟩
 ·obtain⟨v,q'⟩:=I2.cell y c e
  have:=q'.lt
  rw[z]at this
  exact Nat.lt_irrefl _ this
 ·have:=Heap.lt_size (I2.pin p hp).1
  rw[z]at this
  exact Nat.lt_irrefl _ this
noncomputable def y8(i:Nat) (f:Rho->Option (List D)):DS:=fun ρ=>(f ρ).map fun ds=>.nx (ρ.set i (some (.val (.list ds))))
theorem bw7(i:Nat) (hN:X.N.Nodup) (S:CompSc X N' n caps scope) (hx:∀e s,X.xe e s->False)
  (hi:JI X tgt iter src) (hg:∀C s0 H0 ex,JG (C2 X N' scope C s0 H0 ex) tgt g) (ht:∀C s0 H0 ex,JTs (C2 X N' scope C s0 H0 ex) ifs c) (he:∀C s0 H0 ex,JE (C2 X N' scope C s0 H0 ex) elt e)
  (hi2:X.N[i]? = some x:=by rfl) (hl:X.env.scope.names.lookup x=some .local:=by rfl) (hsw:swapsWith (.ListComp elt [⟨tgt,iter,ifs,0⟩] scope pos) (some (.Name x pos')) spos.line X.env=pure true:=by rfl)
  (hc:X.calm=true:=by rfl) (hs:∀x,foldedSetIterable iter X.env x=pure x:=by intro _;rfl):JS X (.Assign [.Name x pos'] (.ListComp elt [⟨tgt,iter,ifs,0⟩] scope pos) spos) (y8 i (P2 n caps src g c e)):=fun ρ fl q H0 Hf0=>by
 obtain⟨out,e1,e2⟩:=Option.map_eq_some_iff.mp q
 subst e2
 obtain⟨ds,e3,k⟩:=u4 (K:=X.K) e1
 refine B5 (aj5 S hx hc hN hi2 hl (hi ρ ds e3) (g:=tgJ X.K g) (tc:=ai8 X.K c) (te:=aH9 X.K e) hg ht (fun C s0 H0 ex pins s σ H Q I ⟨ρ,d,e,t⟩=>he C s0 H0 ex ρ d e pins s σ H Q I t) hsw hs) fun En σ H ⟨Hf,a,ee⟩=>k σ H _ ⟨H0,Hf,a.gr.sub,a.sl,fun v H' Hf' gg ⟨p,vs,z1,z2,z3,z4,z5⟩=>?_⟩
 subst z1
 have g2:=gg.freeze z3 z4 z2
 exact ee _ H' _ ⟨a.gr.trans g2,(a.sl.grow g2).set ⟨p,vs,rfl,SqL.of A3,z5.mono (C4 z4)⟩⟩ g2.ext
theorem bQ7{kt k2 pt2} (hN:X.N.Nodup) (ha:JA X [a,b] f) (hw:swappedStores [.Tuple [.Name x px,.Name y py] kt pt] (.Tuple [a,b] k2 pt2) X.env=pure (some [x,y])) (hij:i≠j)
  (hi:X.N[i]? = some x:=by rfl) (hj:X.N[j]? = some y:=by rfl) (hx:X.env.scope.names.lookup x=some .local:=by rfl) (hy:X.env.scope.names.lookup y=some .local:=by rfl) (hc:X.calm=true:=by rfl)
  (hs:swapsWithSole [.Tuple [.Name x px,.Name y py] kt pt] (.Tuple [a,b] k2 pt2) pos.line X.env=pure false:=by rfl):JS X (.Assign [.Tuple [.Name x px,.Name y py] kt pt] (.Tuple [a,b] k2 pt2) pos) (aY2 i j f):=fun ρ fl q H0 Hf0=>by
 obtain⟨ds,e1,e2⟩:=xbm q
 split at e2
 ·cases e2
  refine B5 (aZ6 hc hN hi hj hij hx hy (fun pos pins s σ H Q I t=>ha.run ρ _ e1 pos pins s σ H Q I t) hw hs) fun En σ H ⟨Hf,at',e⟩=>⟨H0,Hf,at'.gr.sub,at'.sl,fun vs H' Hf' gg rp=>?_⟩
  obtain⟨v,r,rfl,r1,w,r',rfl,r2,r3⟩:=rp
  cases r3
  exact⟨v,w,rfl,e _ H' Hf' ⟨at'.gr.trans gg,((at'.sl.grow gg).set r1).set r2⟩ gg.ext⟩
 ·cases e2
noncomputable def bq6(f:DE) (g:D->Rho->Option Rho):DS:=fun ρ=>(f ρ).bind fun d=>(g d ρ).map Fl.nx
theorem bf8(he:JE X e f) (hg:JG X tg g) (hs:swapsWithSole [tg] e pos.line X.env=pure false:=by rfl) (hw:swappedStores [tg] e X.env=pure none:=by rfl)
  (h1:(assignEach [tg] X.env).map (·.2)=[assign tg X.env]:=by rfl):JS X (.Assign [tg] e pos) (bq6 f g):=fun ρ fl q H0 Hf0=>by
 obtain⟨d,e1,e2⟩:=xbm q
 obtain⟨ρ',e3,e4⟩:=Option.map_eq_some_iff.mp e2
 subst e4
 exact B5 (bK6 (he ρ d e1) hg hs hw h1) fun En σ H ⟨Hf,a,ee⟩=>⟨H0,Hf,a.gr.sub,a.sl,fun v H' Hf' gg r=>⟨d,ρ,ρ',H0,Hf',e3,gg.sub,a.sl.grow gg,r,fun σ' sl'=>ee σ' H' Hf' ⟨a.gr.trans gg,sl'⟩ gg.ext⟩⟩
noncomputable def aY3(i:Nat) (f:Rho->Option (List D)):DS:=fun ρ=>(f ρ).map fun ds=>.nx (ρ.set i (some (.own ds)))
theorem Slots.setOwn{K:PySem.W.Frag}{H0 H H' Hf Hf':Hp}{ρ:Rho}{σ:L2.St}{i:Nat}{ds:List D}{a:Addr}{vs:List V}(s:Slots K H0 ρ σ H Hf) (g:Grow H Hf H' Hf') (n0:H0 a=none) (n:H a=none) (h:H' a=some (.lst vs)) (nf:Hf' a=none) (r:Reps K Hf' ds vs) :
  Slots K H0 (ρ.set i (some (.own ds))) (σ.set i (some (.ref a))) H' Hf':=by
 have s':=s.grow g
 have old:∀(j:Nat) (es:List D),i≠j->ρ[j]? = some (some (.own es))->σ[j]?≠some (some (.ref a)):=fun j es hj e z=>by
  obtain⟨v,h1,b,us,e1,h2,_⟩:=s.is j _ e
  rw[z]at h1;cases h1;cases e1
  rw[n]at h2;cases h2
 refine⟨by simp[s.len],fun j b e=>?_,fun j k ds1 es b h1 h2 h3 h4=>?_⟩
 ·by_cases q:i=j
  ·subst q
   have hi:i < ρ.length:=by simpa using (List.getElem?_eq_some_iff.mp e).1
   have hi':i < σ.length:=by rw[← s.len];exact hi
   rw[List.getElem?_set_self hi]at e
   cases e
   exact⟨_,List.getElem?_set_self hi',a,vs,rfl,h,nf,n0,r⟩
  ·rw[List.getElem?_set_ne q]at e
   obtain⟨u,h1,h2⟩:=s'.is j b e
   exact⟨u,by rw[List.getElem?_set_ne q];exact h1,h2⟩
 ·by_cases qj:i=j
  ·by_cases qk:i=k
   ·rw[← qj,← qk]
   ·subst qj
    have hi:i < ρ.length:=by simpa using (List.getElem?_eq_some_iff.mp h1).1
    rw[List.getElem?_set_self (by rw[← s.len];exact hi)]at h3
    rw[List.getElem?_set_ne qk]at h2 h4
    cases h3
    exact(old k es qk h2 h4).elim
  ·rw[List.getElem?_set_ne qj]at h1 h3
   by_cases qk:i=k
   ·subst qk
    have hi:i < ρ.length:=by simpa using (List.getElem?_eq_some_iff.mp h2).1
    rw[List.getElem?_set_self (by rw[← s.len];exact hi)]at h4
    cases h4
    exact(old j ds1 qj h1 h3).elim
   ·rw[List.getElem?_set_ne qk]at h2 h4
    exact s.apart j k ds1 es b h1 h2 h3 h4
theorem bQ8(i:Nat) (hN:X.N.Nodup) (h:JN X e f) (hi:X.N[i]? = some x:=by rfl) (hx:Loc X.env.scope x:=by first|exact Or.inl rfl|exact Or.inr rfl)
  (hs:swapsWith e (some (.Name x pos')) pos.line X.env=pure false:=by rfl) (hf:X.fn x=true\/X.env.scope.names.lookup x=some .local:=by first|exact .inl rfl|exact .inr rfl):JS X (.Assign [.Name x pos'] e pos) (aY3 i f):=fun ρ fl q H0 Hf0=>by
 obtain⟨ds,e1,e2⟩:=Option.map_eq_some_iff.mp q
 subst e2
 refine B5 (d9 hN hi hx (h ρ ds e1) hs hf) fun En σ H ⟨Hf,a,e⟩=>⟨H0,Hf,a.gr.sub,a.sl,fun v H' Hf' g ⟨p,vs,z1,z2,z3,z4,z5⟩=>?_⟩
 subst z1
 exact e _ H' Hf' ⟨a.gr.trans g,a.sl.setOwn g (a.gr.big.free z2) z2 z3 z4 z5⟩ g.ext
noncomputable def bJ9(i:Nat) (f:DE):DS:=fun ρ=>match ρ[i]? with
 | some (some (.own ds))=>if ds.length < 16777216 then(f ρ).map fun d=>.nx (ρ.set i (some (.own (ds++[d])))) else none
 | _=>none
theorem bR3(i:Nat) (h:JE X e f) (hN:X.N[i]? = some x:=by rfl) (hv:Vis X.env.scope x:=by first|exact Or.inl rfl|exact Or.inr (Or.inl rfl)|exact Or.inr (Or.inr rfl)) (hd:(x==("__debug__" : Str))=false:=by decide)
  (hcd:(x==("__classdict__" : Str))=false:=by decide) (hbase:attributeBase (.Name x p) "append" X.env (eval (.Name x p) X.env)=eval (.Name x p) X.env:=by rfl)
  (hfew:((backTo cpos (starEach [e] X.env)).all (fun x=>!x.1)&&(backToKw cpos (keywordEach [] X.env)).all (fun x=>x.1.isSome)
   && decide (([e]:List Expr).length+([]:List Keyword).length+(if([]:List Keyword).isEmpty then 0 else 1) < 30))=true:=by rfl)
  (hline:(apos.endLine==cpos.line)=true:=by rfl) (hs:starEach [e] X.env=[(false,eval e X.env)]:=by rfl) (hsw:swapsWith (.Call (.Attribute (.Name x p) "append" apos) [e] [] cpos) none pos.line X.env=pure false:=by rfl) :
  JS X (.Expr (.Call (.Attribute (.Name x p) "append" apos) [e] [] cpos) pos) (bJ9 i f):=fun ρ fl q H0 Hf0=>by
 unfold bJ9 at q
 split at q
 ·rename_i ds eo
  split at q
  ·rename_i hz
   obtain⟨d,e1,e2⟩:=Option.map_eq_some_iff.mp q
   subst e2
   refine B5 (S3 (ak1 PySem.F.plainAttrs_list PySem.F.slot_list_append PySem.F.type_list_append U9 (M4 hN hv hd hcd) (B8 (h ρ d e1) F6 hs) hbase hfew hline hs) hsw) fun En σ H ⟨Hf,a,ee⟩=>?_
   obtain⟨v,h1,b,vs,rfl,h2,h3,h4,h5⟩:=a.sl.is i _ eo
   refine⟨_,h1,.inl ⟨rfl,vs,SqL.of h2⟩,H0,Hf,a.gr.sub,a.sl,fun w H' Hf' gg r=>?_⟩
   have hb:H' b=some (.lst vs):=gg.big _ _ h2
   have hfb:Hf' b=none:=gg.nofr h2 h3
   have g2:=a.gr.trans gg
   have sl2:=a.sl.grow gg
   refine⟨b,vs,w,rfl,rfl,hb,by rw[h5.length,sizeLine_eq];exact hz,ee _ _ Hf' ⟨⟨fun c u z=>?_,fun c u z=>?_,g2.ext,g2.new⟩,?_⟩ gg.ext⟩
   ·rw[A4 (A9 z h4)];exact g2.big c u z
   ·rw[A4 (A9 z hfb)];exact g2.sub c u z
   ·refine⟨by simpa using sl2.len,fun j bb z=>?_,fun j k ds1 es c q1 q2 q3 q4=>?_⟩
    ·by_cases qj:i=j
     ·subst qj
      have hi:i < ρ.length:=(List.getElem?_eq_some_iff.mp eo).1
      rw[List.getElem?_set_self hi]at z
      cases z
      exact⟨_,h1,b,vs++[w],rfl,A3,hfb,h4,(h5.mono gg.ext).append ⟨w,[],rfl,r,rfl⟩⟩
     ·rw[List.getElem?_set_ne qj]at z
      obtain⟨u,z1,z2⟩:=sl2.is j bb z
      refine⟨u,z1,?_⟩
      cases bb with
      | val d=>exact z2
      | exc C=>exact z2
      | opq _=>exact z2
      | own dd =>
       obtain⟨a',vs',y1,y2,y3,y4,y5⟩:=z2
       have ne:a'≠b:=fun zz=>by
        subst zz y1
        exact qj (a.sl.apart i j ds dd a' eo z h1 z1)
       exact⟨a',vs',y1,by rw[A4 ne];exact y2,y3,y4,y5⟩
    ·have q1':∃dd,ρ[j]? = some (some (.own dd)):=by
      by_cases qj:i=j
      ·subst qj;exact⟨ds,eo⟩
      ·rw[List.getElem?_set_ne qj]at q1;exact⟨_,q1⟩
     have q2':∃dd,ρ[k]? = some (some (.own dd)):=by
      by_cases qj:i=k
      ·subst qj;exact⟨ds,eo⟩
      ·rw[List.getElem?_set_ne qj]at q2;exact⟨_,q2⟩
     obtain⟨d1,q1'⟩:=q1'
     obtain⟨d2,q2'⟩:=q2'
     exact a.sl.apart j k d1 d2 c q1' q2' q3 q4
  ·cases q
 ·cases q
noncomputable def frz(i:Nat) (ρ:Rho):Rho:=match ρ[i]? with
 | some (some (.own ds))=>ρ.set i (some (.val (.list ds)))
 | _=>ρ
theorem bi4{K:PySem.W.Frag}{H0 Hf0 H Hf:Hp}{ρ:Rho}{σ:L2.St}(i:Nat) (a:At K H0 Hf0 ρ σ H Hf):∃Hf',B2 Hf Hf'/\At K H0 Hf0 (frz i ρ) σ H Hf':=by
 unfold frz
 split
 ·rename_i ds eo
  obtain⟨v,h1,b,vs,rfl,h2,h3,h4,h5⟩:=a.sl.is i _ eo
  have g:Grow H0 Hf0 H (upd Hf b (.lst vs)):=a.gr.freeze h2 h3 h4
  refine⟨upd Hf b (.lst vs),C4 h3,g,⟨by simpa using a.sl.len,fun j bb z=>?_,fun j k ds1 es c q1 q2 q3 q4=>?_⟩⟩
  ·have hi:i < ρ.length:=(List.getElem?_eq_some_iff.mp eo).1
   by_cases qj:i=j
   ·subst qj
    rw[List.getElem?_set_self hi]at z
    cases z
    exact⟨_,h1,b,vs,rfl,SqL.of A3,h5.mono (C4 h3)⟩
   ·rw[List.getElem?_set_ne qj]at z
    obtain⟨u,z1,z2⟩:=a.sl.is j bb z
    refine⟨u,z1,?_⟩
    cases bb with
    | val d=>exact Rep.mono (C4 h3) z2
    | opq _=>exact z2
    | exc C =>
     obtain⟨a',o',C',y1,y2,y3⟩:=z2
     exact⟨a',o',C',y1,C4 h3 _ _ y2,y3⟩
    | own dd =>
     obtain⟨a',vs',y1,y2,y3,y4,y5⟩:=z2
     have ne:a'≠b:=fun zz=>by
      subst zz y1
      exact qj (a.sl.apart i j ds dd a' eo z h1 z1)
     exact⟨a',vs',y1,y2,by rw[A4 ne];exact y3,y4,y5.mono (C4 h3)⟩
  ·have hi:i < ρ.length:=(List.getElem?_eq_some_iff.mp eo).1
   have qj:i≠j:=fun z=>by subst z;rw[List.getElem?_set_self hi]at q1;cases q1
   have qk:i≠k:=fun z=>by subst z;rw[List.getElem?_set_self hi]at q2;cases q2
   rw[List.getElem?_set_ne qj]at q1
   rw[List.getElem?_set_ne qk]at q2
   exact a.sl.apart j k ds1 es c q1 q2 q3 q4
 ·exact⟨Hf,B2.refl _,a⟩
noncomputable def bJ7(i:Nat) (f:DS):DS:=fun ρ=>f (frz i ρ)
theorem bQ9(i:Nat) {st:Stmt}{f:DS}(h:JS X st f):JS X st (bJ7 i f):=fun ρ fl q H0 Hf0=>B5 (h (frz i ρ) fl q H0 Hf0) fun En σ H ⟨Hf,a,e⟩=>by
 obtain⟨Hf',s,a'⟩:=bi4 i a
 exact⟨Hf',a',Fl.ends_mono e s⟩
noncomputable def bZ8(K:PySem.W.Frag) (H0 Hf0:Hp) (f:DS):TS:=fun En σ H=>∃ρ fl,f ρ=some fl/\tJS K H0 Hf0 ρ fl En σ H
theorem aK6(h:JSs X sts f):PSs X sts (bZ8 X.K H0 Hf0 f):=fun pins s σ H En I ⟨ρ,fl,e,t⟩=>h ρ fl e H0 Hf0 pins s σ H En I t
theorem bK5(h:JT X e c):PT X e (ai8 X.K c):=fun pins s σ H Q I ⟨ρ,b,e,t⟩=>h ρ b e pins s σ H Q I t
noncomputable def T1(t:Rho->Option Bool) (f:DS):Nat->DS
 | 0=>fun _=>none
 | n+1=>fun ρ=>(t ρ).bind fun c=>if c then(f ρ).bind fun fl=>match fl with
   | .nx ρ'=>T1 t f n ρ'
   | .ct ρ'=>T1 t f n ρ'
   | .bk ρ'=>some (.nx ρ')
   | .rt d=>some (.rt d)
  else some (.nx ρ)
theorem t7:∀{n:Nat}{ρ:Rho}{fl:Fl},T1 t f n ρ=some fl->T1 t f (n+1) ρ=some fl
 | 0,_,_,h=>by cases h
 | n+1,ρ,fl,h=>by
  obtain⟨c,e1,h⟩:=xbm h
  show(t ρ).bind _=_
  rw[e1]
  cases c with
  | false=>exact h
  | true =>
   obtain⟨fl1,e2,h⟩:=xbm h
   show(f ρ).bind _=_
   rw[e2]
   cases fl1 with
   | nx ρ'=>exact t7 (n:=n) h
   | ct ρ'=>exact t7 (n:=n) h
   | bk ρ'=>exact h
   | rt d=>exact h
theorem az4(h:T1 t f n ρ=some fl) (l:n<=m):T1 t f m ρ=some fl:=by
 induction l with
 | refl=>exact h
 | step _ ih=>exact t7 ih
open Classical in
noncomputable def X9(t:Rho->Option Bool) (f:DS):DS:=fun ρ=>if h:∃fl n,T1 t f n ρ=some fl then some h.choose else none
theorem an8(h:T1 t f n ρ=some fl):X9 t f ρ=some fl:=by
 have hx:∃fl n,T1 t f n ρ=some fl:=⟨fl,n,h⟩
 unfold X9
 rw[dif_pos hx]
 obtain⟨m,hm⟩:=hx.choose_spec
 have h1:=az4 h (Nat.le_max_left n m)
 have h2:=az4 hm (Nat.le_max_right n m)
 rw[h1]at h2
 exact h2.symm
theorem aR4(h:X9 t f ρ=some fl):∃n,T1 t f n ρ=some fl:=by
 unfold X9 at h
 split at h
 ·rename_i hx
  cases h
  exact hx.choose_spec
 ·cases h
theorem bf6(hc:JT X c t) (hb:JSs X body f) (hp:PassesOwn (model X.prog X.w) X.A X.env X.xe:=by exact PassesOwn.never):JS X (.While c body [] pos) (X9 t f):=fun ρ fl q H0 Hf0=>by
 obtain⟨n,hn⟩:=aR4 q
 refine B5 (aZ5 hp (bK5 hc) (aK6 (H0:=H0) (Hf0:=Hf0) hb)) fun En σ H ⟨Hf,a,e⟩=>?_
 refine⟨fun m σ H=>∃Hf' ρ',At X.K H0 Hf0 ρ' σ H Hf'/\B2 Hf Hf'/\T1 t f m ρ'=some fl,⟨n,Hf,ρ,a,B2.refl _,hn⟩,?_⟩
 rintro m σ' H' ⟨Hf',ρ',a',s',hm⟩
 cases m with
 | zero=>cases hm
 | succ m =>
  obtain⟨b,e1,hm⟩:=xbm hm
  refine⟨ρ',b,e1,H0,Hf',a'.gr.sub,a'.sl,fun H2 Hf2 g2=>?_⟩
  have a2:=a'.grow g2
  have s2:=s'.trans g2.ext
  cases b with
  | false =>
   have:fl=.nx ρ':=by simpa using hm.symm
   subst this
   exact l6 (e σ' H2 Hf2 a2 s2)
  | true =>
   obtain⟨fl1,e2,hm⟩:=xbm (show(f ρ').bind _=some fl from hm)
   refine i4 ⟨fun σ3 H3=>∃m',m' < m+1/\∃Hf' ρ',At X.K H0 Hf0 ρ' σ3 H3 Hf'/\B2 Hf Hf'/\T1 t f m' ρ'=some fl,fun σ3 H3 z=>z,ρ',fl1,e2,Hf2,a2,?_⟩
   cases fl1 with
   | nx ρ3=>exact fun σ3 H3 Hf3 a3 s3=>⟨m,Nat.lt_succ_self _,Hf3,ρ3,a3,s2.trans s3,hm⟩
   | ct ρ3=>exact fun σ3 H3 Hf3 a3 s3=>⟨m,Nat.lt_succ_self _,Hf3,ρ3,a3,s2.trans s3,hm⟩
   | bk ρ3 =>
    cases hm
    exact fun σ3 H3 Hf3 a3 s3=>e σ3 H3 Hf3 a3 (s2.trans s3)
   | rt d =>
    cases hm
    exact e
noncomputable def bi6(g:D->Rho->Option Rho) (f:DS):List D->DS
 | []=>fun ρ=>some (.nx ρ)
 | d::ds=>fun ρ=>(g d ρ).bind fun ρ1=>(f ρ1).bind fun fl=>match fl with
   | .nx ρ'=>bi6 g f ds ρ'
   | .ct ρ'=>bi6 g f ds ρ'
   | .bk ρ'=>some (.nx ρ')
   | .rt d=>some (.rt d)
noncomputable def cb5(src:Rho->Option (List D)) (g:D->Rho->Option Rho) (f:DS):DS:=fun ρ=>(src ρ).bind fun ds=>bi6 g f ds ρ
theorem bR0(hi:JI X tg iter src) (hg:JG X tg g) (hb:JSs X body f) (hp:PassesOwn (model X.prog X.w) X.A X.env X.xe:=by exact PassesOwn.never) (hc:X.calm=true:=by rfl)
  (hs:∀x,foldedSetIterable iter X.env x=pure x:=by intro _;rfl):JS X (.For tg iter body [] pos) (cb5 src g f):=fun ρ fl q H0 Hf0=>by
 obtain⟨ds,e1,e2⟩:=xbm q
 refine B5 (aZ7 hp hc (hi ρ ds e1) hg (aK6 (H0:=H0) (Hf0:=Hf0) hb) hs) fun En σ H ⟨Hf,a,e⟩=>⟨H0,Hf,a.gr.sub,a.sl,fun J H1 Hf1 g1 Y=>?_⟩
 refine⟨fun i m σ H=>m=ds.length - i/\i<=ds.length/\∃Hf' ρ',At X.K H0 Hf0 ρ' σ H Hf'/\B2 Hf1 Hf'/\bi6 g f (ds.drop i) ρ'=some fl,⟨ds.length,by simp,Nat.zero_le _,Hf1,ρ,a.grow g1,B2.refl _,by simpa using e2⟩,?_⟩
 rintro i m σ' H' ⟨rfl,hi,Hf',ρ',a',s',hm⟩
 obtain⟨Ys,Yg⟩:=Y i H' Hf' s' a'.gr.sub
 rcases Nat.lt_or_ge i ds.length with hlt|hge
 ·right
  obtain⟨go,yl⟩:=Yg ds[i] (by simp[hlt])
  rw[List.drop_eq_getElem_cons hlt]at hm
  obtain⟨ρ1,c1,hm⟩:=xbm hm
  obtain⟨fl1,c2,hm⟩:=xbm hm
  refine⟨go,fun σ3 H3=>∃m',m' < ds.length - i/\m'=ds.length - (i+1)/\i+1<=ds.length/\∃Hf' ρ',At X.K H0 Hf0 ρ' σ3 H3 Hf'/\B2 Hf1 Hf'/\bi6 g f (ds.drop (i+1)) ρ'=some fl,fun σ3 H3 ⟨m',z1,z2⟩=>⟨m',z1,z2⟩,fun x H2 hy=>?_⟩
  obtain⟨Hf2,g2,r2⟩:=yl x H2 hy
  have a2:=a'.grow g2
  refine⟨ds[i],ρ',ρ1,H0,Hf2,c1,g2.sub,a2.sl,r2,fun σ3 sl3=>⟨ρ1,fl1,c2,Hf2,⟨a2.gr,sl3⟩,?_⟩⟩
  have s2:=s'.trans g2.ext
  cases fl1 with
  | nx ρ3=>exact fun σ3 H3 Hf3 a3 s3=>⟨_,by omega,rfl,hlt,Hf3,ρ3,a3,s2.trans s3,hm⟩
  | ct ρ3=>exact fun σ3 H3 Hf3 a3 s3=>⟨_,by omega,rfl,hlt,Hf3,ρ3,a3,s2.trans s3,hm⟩
  | bk ρ3 =>
   cases hm
   exact fun σ3 H3 Hf3 a3 s3=>e σ3 H3 Hf3 a3 (g1.ext.trans (s2.trans s3))
  | rt d =>
   cases hm
   exact e
 ·left
  have:i=ds.length:=by omega
  subst this
  rw[List.drop_length]at hm
  cases hm
  exact⟨Ys (Nat.le_refl _),e σ' H' Hf' a' (g1.ext.trans s')⟩
theorem bw4:JS X (.Pass pos) m8:=fun ρ fl q H0 Hf0=>by
 cases q
 exact B5 br9 fun En σ H ⟨Hf,a,e⟩=>e σ H Hf a (B2.refl _)
theorem bR2:JS X (.Break pos) (fun ρ=>some (.bk ρ)):=fun ρ fl q H0 Hf0=>by
 cases q
 exact B5 aZ8 fun En σ H ⟨Hf,a,e⟩=>e σ H Hf a (B2.refl _)
end
noncomputable def P6(n:Nat) (ds:List D):Rho:=ds.map (fun d=>some (B.val d))++List.replicate (n - ds.length) none
noncomputable def U1(g:DS) (n:Nat):List D->Option D:=fun ds=>(g (P6 n ds)).bind fun fl=>match fl with
 | .rt d=>some d
 | .nx _=>some .none
 | _=>none
theorem d6{K:PySem.W.Frag}{H0 H Hf:Hp}{N:List Str}{ds:List D}{vs:List V}(r:Reps K Hf ds vs):Slots K H0 (P6 N.length ds) (L2.start N vs) H Hf:=by
 have hl:=r.length
 have noown:∀(i:Nat) (b:B),(P6 N.length ds)[i]? = some (some b)->∃d,ds[i]? = some d/\b=.val d:=fun i b h=>by
  unfold P6 at h
  rcases Nat.lt_or_ge i ds.length with q|q
  ·rw[List.getElem?_append_left (by simpa using q),List.getElem?_map]at h
   rw[List.getElem?_eq_getElem q]at h ⊢
   simp only[Option.map_some,Option.some.injEq]at h
   exact⟨ds[i],rfl,h.symm⟩
  ·rw[List.getElem?_append_right (by simpa using q),List.getElem?_replicate]at h
   split at h<;>cases h
 refine⟨by simp[P6,L2.start,hl],fun i b e=>?_,fun i j d1 d2 a e1 _ _ _=>?_⟩
 ·obtain⟨d,h1,h2⟩:=noown i b e
  subst h2
  obtain⟨v,h3,h4⟩:=r.get h1
  refine⟨v,?_,h4⟩
  have hi:i < vs.length:=(List.getElem?_eq_some_iff.mp h3).1
  unfold L2.start
  rw[List.getElem?_append_left (by simpa using hi),List.getElem?_map,h3];rfl
 ·obtain⟨d,_,h2⟩:=noown i _ e1
  cases h2
theorem by5{P:Program}{w:World}{K:PySem.W.Frag}{mg:Str->Option Value}{base:Heap}{x qual:Str}{st:Stmt}{f:Addr}{fd:FuncData}{N ps:List Str}{k:Nat}{g:DS}(F:Fun K x qual st f fd) (S:FnScope N ps (B3 st))
  (hb:∀(cdv:Value) (A:Around) (outer:List Env) (s:Shared) (H:Hp) (E:XK),Room k (A.deeper (envOfC qual (B3 st) s.heap.objs.size f cdv))->JSs (t9 CX0 P w K mg base N qual (B3 st) f cdv A outer s H E).nox (A7 st) g) :
  FnOk P w K mg base CX0 (k+1) f fd ps (spF K ps.length (U1 g N.length)):=by
 refine F.ok S (fun vs H Q E h=>h.1) fun cdv A outer s H vs Q E hr hsp=>?_
 obtain⟨hlen,Hf,ds,d,ss,rp,e,kk⟩:=hsp
 obtain⟨fl,e1,e2⟩:=xbm e
 refine⟨_,hb cdv A outer s H E hr _ fl e1 H Hf,Hf,⟨Grow.refl ss,d6 rp⟩,?_⟩
 cases fl with
 | rt d'=>cases e2;exact fun v H' Hf' g r=>kk v H' Hf' g r
 | nx ρ=>cases e2;exact fun σ' H' Hf' a _=>kk _ H' Hf' a.gr rfl
 | bk ρ=>cases e2
 | ct ρ=>cases e2
end G
namespace G
open PySem PySem.Spec PyProof.Rows L2
noncomputable def SIt:Bool->Heap->Addr->Addr->Nat->Prop
 | true=>Heap.IsTupleIter
 | false=>Heap.IsListIter
noncomputable def SSq:Bool->Heap->Addr->Array Value->Prop
 | true=>Heap.IsTuple
 | false=>Heap.IsList
section
variable {prog:Program}{w:World}{A:Around}{E:Value->Shared->Prop}{s:Shared}{t t1 t2:Bool}
theorem SIt.ext(x:SIt t h it l k) (e:∀o,h.get? it=some o->h'.get? it=some o):SIt t h' it l k:=by
 cases t with
 | true=>obtain⟨o,ho,r⟩:=x;exact⟨o,e o ho,r⟩
 | false=>obtain⟨o,ho,r⟩:=x;exact⟨o,e o ho,r⟩
theorem SSq.ext(x:SSq t h l xs) (e:∀o,h.get? l=some o->h'.get? l=some o):SSq t h' l xs:=by
 cases t with
 | true=>obtain⟨o,ho,r⟩:=x;exact⟨o,e o ho,r⟩
 | false=>obtain⟨o,ho,r⟩:=x;exact⟨o,e o ho,r⟩
theorem SIt.lt(x:SIt t h it l k):it < h.objs.size:=by
 cases t with
 | true=>obtain⟨o,ho,_⟩:=x;exact Heap.lt_size ho
 | false=>obtain⟨o,ho,_⟩:=x;exact Heap.lt_size ho
theorem aC9(hit:s.heap.IsTupleIter it l k) (hl:s.heap.IsTuple l xs) (hx:xs[k]? = some x)
  (hQ:∀h',h'.IsTupleIter it l (k+1)->Heap.SameBut it s.heap h'->Q x { s with heap:=h' }):wpAny (model prog w) A (Builtin.SmallTypes.nextOf (.ref it)) Q E s:=by
 obtain⟨o,ho,hc,hd⟩:=id hit;obtain⟨ol,hol,_,nl,hdl⟩:=hl;unfold Builtin.SmallTypes.nextOf
 refine wpAny_bind (wpAny_callSpecial?_slot (name:=Str.ofString "__next__") hit.typeIs F.slot_tuple_iterator_next (wpAny_call_entry F.slot_tuple_iterator_next hit.typeIs F.entry_tuple_iterator_next ?_ (F.args_tuple_iterator_next_1 _)))
 show wpAny _ _ (field (.ref it) 0 >>= _) _ _ s;refine wpAny_bind (wpAny_field ho hd (x:=.ref l) rfl ?_);show wpAny _ _ (if(Value.ref l==Value.none)=true then _ else _) _ _ s
 rw[if_neg (show ¬((Value.ref l==Value.none)=true) from Bool.false_ne_true)];show wpAny _ _ (field (.ref it) 1 >>= _) _ _ s
 refine wpAny_bind (wpAny_field ho hd (x:=.int k 0) rfl ?_);show wpAny _ _ (seqItems? (.ref l) >>= _) _ _ s;refine wpAny_bind (wpAny_seqItems hol hdl ?_);simp only[Int.toNat_natCast,hx]
 refine wpAny_bind (wpAny_setField ho hd (by simp) (wpAny_pure ⟨x,rfl,wpAny_pure (hQ _ ⟨_,Heap.get?_update_self _ ho (Obj.isFreed_of_fields (Obj.data_mapFields hd _)),(Obj.cls_mapFields ..).trans hc,?_⟩ (Heap.SameBut.update ..))⟩))
 rw[Obj.data_mapFields hd];simp[rawInt]
theorem aP5(hh:A.handled=none) (hit:s.heap.IsTupleIter it l k) (hl:s.heap.IsTuple l xs) (hx:xs[k]? = none)
  (hE:∀h' e,Heap.ExtBut it s.heap h'->(∃o,h'.get? e=some o/\o.cls=.type "StopIteration")->E (.ref e) { s with heap:=h' }):wpAny (model prog w) A (Builtin.SmallTypes.nextOf (.ref it)) Q E s:=by
 obtain⟨o,ho,hc,hd⟩:=id hit;obtain⟨ol,hol,_,nl,hdl⟩:=hl;unfold Builtin.SmallTypes.nextOf
 refine wpAny_bind (wpAny_callSpecial?_slot (name:=Str.ofString "__next__") hit.typeIs F.slot_tuple_iterator_next (wpAny_call_entry F.slot_tuple_iterator_next hit.typeIs F.entry_tuple_iterator_next ?_ (F.args_tuple_iterator_next_1 _)))
 show wpAny _ _ (field (.ref it) 0 >>= _) _ _ s;refine wpAny_bind (wpAny_field ho hd (x:=.ref l) rfl ?_);show wpAny _ _ (if(Value.ref l==Value.none)=true then _ else _) _ _ s
 rw[if_neg (show ¬((Value.ref l==Value.none)=true) from Bool.false_ne_true)];show wpAny _ _ (field (.ref it) 1 >>= _) _ _ s
 refine wpAny_bind (wpAny_field ho hd (x:=.int k 0) rfl ?_);show wpAny _ _ (seqItems? (.ref l) >>= _) _ _ s;refine wpAny_bind (wpAny_seqItems hol hdl ?_);simp only[Int.toNat_natCast,hx]
 refine wpAny_bind (wpAny_rule (wpAny_bind (wpAny_setField ho hd (by simp) ?_)));show wpAny _ _ (newExc (.type "StopIteration") [] >>= _) _ _ _;refine wpAny_bind ?_;simp only[newExc,newTuple]
 refine wpAny_bind (wpAny_newObj_type ?_ (by size_fits));refine wpAny_bind (m:=firstArgMember _ _) (wpAny_of_eq (a:=Value.none) (by first|rfl|(simp only[firstArgMember];rfl)) ?_);refine wpAny_newObj_type ?_ (by size_fits)
 simp only[raiseNew];refine wpAny_bind (wpAny_handled ?_);first|rw[show A.in1.handled=none from hh]|rw[hh]
 refine wpAny_bind (wpAny_pure (wpAny_throw ?_));exact hE _ _ (((Heap.SameBut.update ..).extBut.push _).push _) ⟨_,Heap.get?_push_size _ rfl,rfl⟩
theorem aj0(hit:SIt t s.heap it l k) (hl:SSq t s.heap l xs) (hx:xs[k]? = some x)
  (hQ:∀h',SIt t h' it l (k+1)->Heap.SameBut it s.heap h'->Q x { s with heap:=h' }):wpAny (model prog w) A (Builtin.SmallTypes.nextOf (.ref it)) Q E s:=by
 cases t with
 | true=>exact aC9 hit hl hx hQ
 | false=>exact wpAny_nextOf_list_item hit hl hx hQ
theorem aJ3(hh:A.handled=none) (hit:SIt t s.heap it l k) (hl:SSq t s.heap l xs) (hx:xs[k]? = none)
  (hE:∀h' e,Heap.ExtBut it s.heap h'->(∃o,h'.get? e=some o/\o.cls=.type "StopIteration")->E (.ref e) { s with heap:=h' }):wpAny (model prog w) A (Builtin.SmallTypes.nextOf (.ref it)) Q E s:=by
 cases t with
 | true=>exact aP5 hh hit hl hx hE
 | false=>exact wpAny_nextOf_list_end hh hit hl hx hE
theorem aP9{z TI TO i1 i2 l1 l2:Addr}{k1 k2:Nat}{xs ys:Array Value}{x y a b:Value}{Q:Value->Shared->Prop}(Z:ZipApart z TI TO i1 i2 l1 l2)
  (hz:IsZip s.heap z TI TO .none) (hTI:IsPair s.heap TI (.ref i1) (.ref i2)) (hTO:IsPair s.heap TO a b) (h1:SIt t1 s.heap i1 l1 k1) (h2:SIt t2 s.heap i2 l2 k2) (hl1:SSq t1 s.heap l1 xs) (hl2:SSq t2 s.heap l2 ys) (hx:xs[k1]? = some x) (hy:ys[k2]? = some y)
  (hQ:∀h',IsZip h' z TI TO (rawInt s.heap.objs.size)->IsPair h' TO x y->SIt t1 h' i1 l1 (k1+1)->SIt t2 h' i2 l2 (k2+1)->IsPair h' s.heap.objs.size x y->h'.objs.size=s.heap.objs.size+1 ->
   (∀c o,c≠z->c≠TO->c≠i1->c≠i2->s.heap.get? c=some o->h'.get? c=some o)->Q (.ref s.heap.objs.size) { s with heap:=h' }) :
  wpAny (model prog w) A (Builtin.«zip.__next__» ⟨[.ref z],[]⟩) (fun fin s'=>∃v,fin=.done (.ret v)/\Q v s') E s:=by
 show wpAny _ _ (field (.ref z) 2 >>= _) _ _ _;refine wpAny_bind (wpAny_field hz rfl (x:=.bool false) rfl ?_);show wpAny _ _ (field (.ref z) 3 >>= _) _ _ _;refine wpAny_bind (wpAny_field hz rfl (x:=.ref TI) rfl ?_)
 refine wpAny_bind (wpAny_seqItems hTI rfl ?_);show wpAny _ _ (Builtin.SmallTypes.ownedTupleIsFree (.ref z) >>= _) _ _ _;refine wpAny_bind ?_;unfold Builtin.SmallTypes.ownedTupleIsFree
 refine wpAny_bind (wpAny_field hz rfl (x:=.none) rfl (wpAny_pure ?_));simp only[if_true];refine wpAny_bind (wpAny_rule ?_);refine wpAny_bind (wpAny_field hz rfl (x:=.ref TO) rfl ?_)
 refine wpAny_bind (wpAny_setField_rec hz (by simp) fun ha za sa=>?_);have za':IsZip ha z TI TO .ellipsis:=za
 refine wpAny_bind ?_;simp only[List.zipIdx_cons,List.zipIdx_nil,List.forIn_cons,List.forIn_nil];refine wpAny_bind (wpAny_bind (wpAny_onRaise ?_));show wpAny _ _ (Builtin.SmallTypes.nextOf (.ref i1) >>= _) _ _ _
 refine wpAny_bind (aj0 (h1.ext fun o e=>sa.extBut _ _ Z.i1z e) (hl1.ext fun o e=>sa.extBut _ _ Z.l1z e) hx fun hb h1b sb=>wpAny_pure ?_)
 have hTOb:IsPair hb TO a b:=sb.extBut _ _ Z.TOi1 (sa.extBut _ _ Z.TOz hTO)
 refine wpAny_bind (wpAny_seqItems hTOb rfl ?_);refine wpAny_bind (wpAny_updateSeq_pair hTOb fun hcc TOc sc=>?_);have TOc':IsPair hcc TO x b:=TOc
 refine wpAny_bind (wpAny_letGo (wpAny_pure ?_));refine wpAny_bind (wpAny_bind (wpAny_onRaise ?_));show wpAny _ _ (Builtin.SmallTypes.nextOf (.ref i2) >>= _) _ _ _
 refine wpAny_bind (aj0 (((h2.ext fun o e=>sa.extBut _ _ Z.i2z e).ext fun o e=>sb.extBut _ _ Z.i12.symm e).ext fun o e=>sc.extBut _ _ Z.TOi2.symm e) (((hl2.ext fun o e=>sa.extBut _ _ Z.l2z e).ext fun o e=>sb.extBut _ _ Z.l2i1 e).ext fun o e=>sc.extBut _ _ Z.l2TO e) hy fun hd h2d sd=>wpAny_pure ?_)
 have hTOd:IsPair hd TO x b:=sd.extBut _ _ Z.TOi2 TOc'
 refine wpAny_bind (wpAny_seqItems hTOd rfl ?_);refine wpAny_bind (wpAny_updateSeq_pair hTOd fun he TOe se=>?_);have TOe':IsPair he TO x y:=TOe
 refine wpAny_bind (wpAny_letGo (wpAny_pure (wpAny_pure ?_)));refine wpAny_bind (wpAny_seqItems TOe' rfl ?_);refine wpAny_bind (wpAny_newTuple ?_)
 have sz:he.objs.size=s.heap.objs.size:=by rw[se.1,sd.1,sc.1,sb.1,sa.1]
 have ze:IsZip he z TI TO .ellipsis:=se.extBut _ _ Z.TOz.symm (sd.extBut _ _ Z.i2z.symm (sc.extBut _ _ Z.TOz.symm (sb.extBut _ _ Z.i1z.symm za')))
 have ke:∀c o,c≠z->c≠TO->c≠i1->c≠i2->s.heap.get? c=some o->he.get? c=some o:=fun c o c1 c2 c3 c4 e=>se.extBut _ _ c2 (sd.extBut _ _ c4 (sc.extBut _ _ c2 (sb.extBut _ _ c3 (sa.extBut _ _ c1 e))))
 have h1e:SIt t1 he i1 l1 (k1+1):=((h1b.ext fun o e=>sc.extBut _ _ Z.TOi1.symm e).ext fun o e=>sd.extBut _ _ Z.i12 e).ext fun o e=>se.extBut _ _ Z.TOi1.symm e
 have h2e:SIt t2 he i2 l2 (k2+1):=h2d.ext fun o e=>se.extBut _ _ Z.TOi2.symm e
 have zlt:z < he.objs.size:=Heap.lt_size ze
 show wpAny _ _ (Builtin.SmallTypes.ownedTupleHandOut (.ref z) (.ref he.objs.size) >>= _) _ _ _;refine wpAny_bind ?_;unfold Builtin.SmallTypes.ownedTupleHandOut
 have zf:IsZip (he.push { cls:=.type "tuple", data:=.seq #[x,y] }) z TI TO .ellipsis:=Heap.get?_push_of_some _ ze
 refine wpAny_bind (wpAny_setField_rec zf (by simp) fun hg zg sg=>?_);have zg':IsZip hg z TI TO (rawInt he.objs.size):=zg
 refine wpAny_setField_rec zg' (by simp) fun hi zi si=>?_;have zi':IsZip hi z TI TO (rawInt he.objs.size):=zi
 have up:∀c o,c≠z->he.get? c=some o->hi.get? c=some o:=fun c o c1 e=>si.extBut _ _ c1 (sg.extBut _ _ c1 (Heap.get?_push_of_some _ e))
 have hT:IsPair hi he.objs.size x y:=si.extBut _ _ (Nat.ne_of_gt zlt) (sg.extBut _ _ (Nat.ne_of_gt zlt) (Heap.get?_push_size _ rfl))
 have szi:hi.objs.size=he.objs.size+1:=by rw[si.1,sg.1,Heap.size_push]
 rw[sz]at zi' hT szi
 refine wpAny_pure ⟨_,rfl,?_⟩;show Q (.ref he.objs.size) _;rw[sz]
 exact hQ hi zi' (up _ _ Z.TOz TOe') (h1e.ext fun o e=>up _ o Z.i1z e) (h2e.ext fun o e=>up _ o Z.i2z e) hT szi fun c o c1 c2 c3 c4 e=>up c o c1 (ke c o c1 c2 c3 c4 e)
theorem aW7{z TI TO i1 i2 l1 l2:Addr}{k1 k2:Nat}{xs ys:Array Value}{a b:Value}{Q:Fin->Shared->Prop}(hh:A.handled=none) (Z:ZipApart z TI TO i1 i2 l1 l2)
  (hz:IsZip s.heap z TI TO .none) (hTI:IsPair s.heap TI (.ref i1) (.ref i2)) (hTO:IsPair s.heap TO a b) (h1:SIt t1 s.heap i1 l1 k1) (h2:SIt t2 s.heap i2 l2 k2) (hl1:SSq t1 s.heap l1 xs) (hl2:SSq t2 s.heap l2 ys) (hend:xs[k1]? = none\/ys[k2]? = none)
  (hE:∀h' e,(∀c o,c≠z->c≠TO->c≠i1->c≠i2->s.heap.get? c=some o->h'.get? c=some o)->(∃o,h'.get? e=some o/\o.cls=.type "StopIteration")->E (.ref e) { s with heap:=h' }) :
  wpAny (model prog w) A (Builtin.«zip.__next__» ⟨[.ref z],[]⟩) Q E s:=by
 show wpAny _ _ (field (.ref z) 2 >>= _) _ _ _;refine wpAny_bind (wpAny_field hz rfl (x:=.bool false) rfl ?_);show wpAny _ _ (field (.ref z) 3 >>= _) _ _ _;refine wpAny_bind (wpAny_field hz rfl (x:=.ref TI) rfl ?_)
 refine wpAny_bind (wpAny_seqItems hTI rfl ?_);show wpAny _ _ (Builtin.SmallTypes.ownedTupleIsFree (.ref z) >>= _) _ _ _;refine wpAny_bind ?_;unfold Builtin.SmallTypes.ownedTupleIsFree
 refine wpAny_bind (wpAny_field hz rfl (x:=.none) rfl (wpAny_pure ?_));simp only[if_true];refine wpAny_bind (wpAny_rule ?_);refine wpAny_bind (wpAny_field hz rfl (x:=.ref TO) rfl ?_)
 refine wpAny_bind (wpAny_setField_rec hz (by simp) fun ha za sa=>?_);have za':IsZip ha z TI TO .ellipsis:=za
 refine wpAny_bind ?_;simp only[List.zipIdx_cons,List.zipIdx_nil,List.forIn_cons,List.forIn_nil];refine wpAny_bind (wpAny_bind (wpAny_onRaise ?_));show wpAny _ _ (Builtin.SmallTypes.nextOf (.ref i1) >>= _) _ _ _
 cases hx:xs[k1]? with
 | none =>
  refine wpAny_bind (aJ3 hh (h1.ext fun o e=>sa.extBut _ _ Z.i1z e) (hl1.ext fun o e=>sa.extBut _ _ Z.l1z e) hx fun hb e sb he=>?_)
  obtain⟨oe,hoe,hce⟩:=he;have zb:IsZip hb z TI TO .ellipsis:=sb _ _ Z.i1z.symm za';have hez:e≠z:=fun q=>by subst q;rw[zb]at hoe;cases hoe;simp at hce
  exact wpAny_setField_rec zb (by simp) fun hcc _ sc=>hE hcc e (fun c o c1 _ c3 _ q=>sc.extBut _ _ c1 (sb _ _ c3 (sa.extBut _ _ c1 q))) ⟨oe,sc.extBut _ _ hez hoe,hce⟩
 | some x =>
  have hy:ys[k2]? = none:=by rcases hend with h|h;rw[hx]at h;cases h;exact h
  refine wpAny_bind (aj0 (h1.ext fun o e=>sa.extBut _ _ Z.i1z e) (hl1.ext fun o e=>sa.extBut _ _ Z.l1z e) hx fun hb h1b sb=>wpAny_pure ?_)
  have hTOb:IsPair hb TO a b:=sb.extBut _ _ Z.TOi1 (sa.extBut _ _ Z.TOz hTO)
  refine wpAny_bind (wpAny_seqItems hTOb rfl ?_);refine wpAny_bind (wpAny_updateSeq_pair hTOb fun hcc TOc sc=>?_)
  refine wpAny_bind (wpAny_letGo (wpAny_pure ?_));refine wpAny_bind (wpAny_bind (wpAny_onRaise ?_));show wpAny _ _ (Builtin.SmallTypes.nextOf (.ref i2) >>= _) _ _ _
  refine wpAny_bind (aJ3 hh (((h2.ext fun o e=>sa.extBut _ _ Z.i2z e).ext fun o e=>sb.extBut _ _ Z.i12.symm e).ext fun o e=>sc.extBut _ _ Z.TOi2.symm e) (((hl2.ext fun o e=>sa.extBut _ _ Z.l2z e).ext fun o e=>sb.extBut _ _ Z.l2i1 e).ext fun o e=>sc.extBut _ _ Z.l2TO e) hy fun hd e sd he=>?_)
  obtain⟨oe,hoe,hce⟩:=he;have zd:IsZip hd z TI TO .ellipsis:=sd _ _ Z.i2z.symm (sc.extBut _ _ Z.TOz.symm (sb.extBut _ _ Z.i1z.symm za'));have hez:e≠z:=fun q=>by subst q;rw[zd]at hoe;cases hoe;simp at hce
  exact wpAny_setField_rec zd (by simp) fun hf _ sf=>hE hf e (fun c o c1 c2 c3 c4 q=>sf.extBut _ _ c1 (sd _ _ c4 (sc.extBut _ _ c2 (sb.extBut _ _ c3 (sa.extBut _ _ c1 q))))) ⟨oe,sf.extBut _ _ hez hoe,hce⟩
theorem aD3{z TI TO i1 i2 l1 l2:Addr}{k1 k2:Nat}{xs ys:Array Value}{x y a b:Value}{Q:Option Value->Shared->Prop}(Z:ZipApart z TI TO i1 i2 l1 l2)
  (hz:IsZip s.heap z TI TO .none) (hTI:IsPair s.heap TI (.ref i1) (.ref i2)) (hTO:IsPair s.heap TO a b) (h1:SIt t1 s.heap i1 l1 k1) (h2:SIt t2 s.heap i2 l2 k2) (hl1:SSq t1 s.heap l1 xs) (hl2:SSq t2 s.heap l2 ys) (hx:xs[k1]? = some x) (hy:ys[k2]? = some y)
  (hQ:∀h',IsZip h' z TI TO (rawInt s.heap.objs.size)->IsPair h' TO x y->SIt t1 h' i1 l1 (k1+1)->SIt t2 h' i2 l2 (k2+1)->IsPair h' s.heap.objs.size x y->h'.objs.size=s.heap.objs.size+1 ->
   (∀c o,c≠z->c≠TO->c≠i1->c≠i2->s.heap.get? c=some o->h'.get? c=some o)->Q (some (.ref s.heap.objs.size)) { s with heap:=h' }):wpAny (model prog w) A (pyNext (.ref z)) Q E s:=by
 have hT:s.TypeIs (.ref z) "zip" := ⟨_,hz,rfl⟩
 unfold pyNext
 refine wpAny_bind (wpAny_attempt (wpAny_callSpecial?_slot (name:=Str.ofString "__next__") hT F.slot_zip_next (wpAny_call_entry F.slot_zip_next hT F.entry_zip_next (aP9 Z hz hTI hTO h1 h2 hl1 hl2 hx hy ?_) (F.args_zip_next_1 _))))
 exact fun h' a1 a2 a3 a4 a5 a6 a7=>wpAny_pure (hQ h' a1 a2 a3 a4 a5 a6 a7)
theorem aQ3{z TI TO i1 i2 l1 l2:Addr}{k1 k2:Nat}{xs ys:Array Value}{a b:Value}{Q:Option Value->Shared->Prop}(hh:A.handled=none) (Z:ZipApart z TI TO i1 i2 l1 l2)
  (hz:IsZip s.heap z TI TO .none) (hTI:IsPair s.heap TI (.ref i1) (.ref i2)) (hTO:IsPair s.heap TO a b) (h1:SIt t1 s.heap i1 l1 k1) (h2:SIt t2 s.heap i2 l2 k2) (hl1:SSq t1 s.heap l1 xs) (hl2:SSq t2 s.heap l2 ys) (hend:xs[k1]? = none\/ys[k2]? = none)
  (hQ:∀h',(∀c o,c≠z->c≠TO->c≠i1->c≠i2->s.heap.get? c=some o->h'.get? c=some o)->Q none { s with heap:=h' }):wpAny (model prog w) A (pyNext (.ref z)) Q E s:=by
 have hT:s.TypeIs (.ref z) "zip" := ⟨_,hz,rfl⟩
 unfold pyNext
 refine wpAny_bind (wpAny_attempt (wpAny_callSpecial?_slot (name:=Str.ofString "__next__") hT F.slot_zip_next (wpAny_call_entry F.slot_zip_next hT F.entry_zip_next (aW7 hh Z hz hTI hTO h1 h2 hl1 hl2 hend fun h' e hk he=>?_) (F.args_zip_next_1 _))))
 obtain⟨o,ho,hc⟩:=he
 exact wpAny_bind (wpAny_isInstance (T := "StopIteration") (b:=true) ⟨o,ho,hc⟩ isSubtype_stop (wpAny_pure (hQ _ hk)))
noncomputable def az5(t:Bool) (l:Addr):Obj:={ cls:=.type (if t then "tuple_iterator" else "list_iterator"),data:=.fields #[.ref l,.int 0 0] }
theorem aJ2{h:Heap}{l:Addr}(t:Bool):SIt t (h.push (az5 t l)) h.objs.size l 0:=by
 cases t with
 | true=>exact⟨_,Heap.get?_push_size _ rfl,rfl,rfl⟩
 | false=>exact⟨_,Heap.get?_push_size _ rfl,rfl,rfl⟩
theorem aw3(hl:SSq t s.heap l xs) (hQ:Q (.ref s.heap.objs.size) { s with heap:=s.heap.push (az5 t l) }):wpAny (model prog w) A (pyIter (.ref l)) Q E s:=by
 cases t with
 | true=>exact wpAny_pyIter_tuple hl hQ
 | false=>exact wpAny_pyIter_list hl hQ
end
end G
namespace G
open PySem PySem.Spec PyProof.Rows L2
noncomputable abbrev zp1(h:Heap) (t1:Bool) (l1:Addr):Heap:=h.push (az5 t1 l1)
noncomputable abbrev zp2(h:Heap) (t1 t2:Bool) (l1 l2:Addr):Heap:=(zp1 h t1 l1).push (az5 t2 l2)
noncomputable abbrev zp3(h:Heap) (t1 t2:Bool) (l1 l2:Addr):Heap:=(zp2 h t1 t2 l1 l2).push { cls:=.type "tuple", data:=.seq #[.ref h.objs.size,.ref (zp1 h t1 l1).objs.size] }
noncomputable abbrev zp4(h:Heap) (t1 t2:Bool) (l1 l2:Addr):Heap:=(zp3 h t1 t2 l1 l2).push { cls:=.type "tuple", data:=.seq #[.none,.none] }
noncomputable abbrev zp5(h:Heap) (t1 t2:Bool) (l1 l2:Addr):Heap:=(zp4 h t1 t2 l1 l2).push { cls:=.type "zip", data:=.fields #[.none,.bool false,.bool false,.ref (zp2 h t1 t2 l1 l2).objs.size,.ref (zp3 h t1 t2 l1 l2).objs.size] }
theorem aW6(l1 l2:Addr) (xs ys:Array Value) (t1 t2:Bool) :
  Meets (Builtin.«zip.__new__» ⟨[.type "zip", .ref l1,.ref l2],[]⟩) (fun _ R s=>SSq t1 s.heap l1 xs/\SSq t2 s.heap l2 ys/\∀h',IsZip h' (s.heap.objs.size+4) (s.heap.objs.size+2) (s.heap.objs.size+3) .none->IsPair h' (s.heap.objs.size+2) (.ref s.heap.objs.size) (.ref (s.heap.objs.size+1)) ->
   IsPair h' (s.heap.objs.size+3) .none .none->SIt t1 h' s.heap.objs.size l1 0->SIt t2 h' (s.heap.objs.size+1) l2 0->(∀c o,s.heap.get? c=some o->h'.get? c=some o)->R (.ok (.ret (.ref (s.heap.objs.size+4)))) { s with heap:=h' }) :=
 .of_wp fun prog w A R s h=>by
  obtain⟨hp,g,d,tk,os⟩:=s
  obtain⟨hl1,hl2,h⟩:=h
  have hsub:=sub_zip
  have q1:SSq t1 (Shared.heap ⟨hp,g,d,tk,os⟩) l1 xs:=hl1
  have q2:SSq t2 (Shared.heap ⟨hp.push (az5 t1 l1),g,d,tk,os⟩) l2 ys:=SSq.ext hl2 fun o e=>Heap.get?_push_of_some _ e
  wp_walk using aw3 q1,aw3 q2
  refine⟨_,rfl,?_⟩
  have z1:(zp1 hp t1 l1).objs.size=hp.objs.size+1:=Heap.size_push ..
  have z2:(zp2 hp t1 t2 l1 l2).objs.size=hp.objs.size+2:=by rw[Heap.size_push,z1]
  have z3:(zp3 hp t1 t2 l1 l2).objs.size=hp.objs.size+3:=by rw[Heap.size_push,z2]
  have z4:(zp4 hp t1 t2 l1 l2).objs.size=hp.objs.size+4:=by rw[Heap.size_push,z3]
  show R (.ok (.ret (.ref (zp4 hp t1 t2 l1 l2).objs.size))) ⟨zp5 hp t1 t2 l1 l2,g,d,tk,os⟩
  rw[z4]
  have g5:(zp5 hp t1 t2 l1 l2).get? (zp4 hp t1 t2 l1 l2).objs.size=some _:=Heap.get?_push_size _ rfl
  have g4:(zp5 hp t1 t2 l1 l2).get? (zp3 hp t1 t2 l1 l2).objs.size=some _:=Heap.get?_push_of_some _ (Heap.get?_push_size _ rfl)
  have g3:(zp5 hp t1 t2 l1 l2).get? (zp2 hp t1 t2 l1 l2).objs.size=some _:=Heap.get?_push_of_some _ (Heap.get?_push_of_some _ (Heap.get?_push_size _ rfl))
  rw[z4,z2,z3]at g5
  rw[z3]at g4
  rw[z2,z1]at g3
  have k1:∀c o,hp.get? c=some o->(zp5 hp t1 t2 l1 l2).get? c=some o:=fun c o e=>Heap.get?_push_of_some _ (Heap.get?_push_of_some _ (Heap.get?_push_of_some _ (Heap.get?_push_of_some _ (Heap.get?_push_of_some _ e))))
  have s1:SIt t1 (zp5 hp t1 t2 l1 l2) hp.objs.size l1 0:=(aJ2 (h:=hp) (l:=l1) t1).ext fun o e=>Heap.get?_push_of_some _ (Heap.get?_push_of_some _ (Heap.get?_push_of_some _ (Heap.get?_push_of_some _ e)))
  have s2:SIt t2 (zp5 hp t1 t2 l1 l2) (zp1 hp t1 l1).objs.size l2 0:=(aJ2 (h:=zp1 hp t1 l1) (l:=l2) t2).ext fun o e=>Heap.get?_push_of_some _ (Heap.get?_push_of_some _ (Heap.get?_push_of_some _ e))
  rw[z1]at s2
  exact h _ g5 g3 g4 s1 s2 k1
section
variable {prog:Program}{w:World}{A:Around}{E:Value->Shared->Prop}{s:Shared}{t1 t2:Bool}
theorem aQ0(hl1:SSq t1 s.heap l1 xs) (hl2:SSq t2 s.heap l2 ys)
  (h:∀h',IsZip h' (s.heap.objs.size+4) (s.heap.objs.size+2) (s.heap.objs.size+3) .none->IsPair h' (s.heap.objs.size+2) (.ref s.heap.objs.size) (.ref (s.heap.objs.size+1)) ->
   IsPair h' (s.heap.objs.size+3) .none .none->SIt t1 h' s.heap.objs.size l1 0->SIt t2 h' (s.heap.objs.size+1) l2 0->(∀c o,s.heap.get? c=some o->h'.get? c=some o)->Q (.ref (s.heap.objs.size+4)) { s with heap:=h' }) :
  wpAny (model prog w) A (call (.type "zip") [.ref l1,.ref l2]) Q E s:=by
 refine callType_new F.called_zip (by decide) (F.typeCall_zip_2 _ _) (F.newCall_zip_2 _ _) (fun obj=>F.args_object_init_3 obj _ _) F.entry_zip_new (aW6 l1 l2 xs ys t1 t2) ⟨hl1,hl2,fun h' a1 a2 a3 a4 a5 a6=>?_⟩
 exact⟨⟨_,a1,rfl⟩,h h' a1 a2 a3 a4 a5 a6⟩
end
noncomputable def Itz(K:PySem.W.Frag) (t1 t2:Bool) (a1 a2:Addr):It :=
  ⟨fun i H=>∃xs ys x y,Sq K t1 H a1 xs/\Sq K t2 H a2 ys/\xs[i]? = some x/\ys[i]? = some y,
   fun i H v H'=>∃T x y,v=.ref T/\H T=none/\H'=upd H T (.tup [x,y])/\(∀xs,Sq K t1 H a1 xs->xs[i]? = some x)/\∀ys,Sq K t2 H a2 ys->ys[i]? = some y,
   fun i H=>∃xs ys,Sq K t1 H a1 xs/\Sq K t2 H a2 ys/\(xs.length<=i\/ys.length<=i)⟩
theorem aX8(I:Inv X pins σ H s) (h:Sq X.K t H a xs) (h':Sq X.K t H a ys):xs=ys:=by
 cases t with
 | true=>exact I.tuple_inj h h'
 | false=>exact I.list_inj h h'
theorem j6(I:Inv X pins σ H s) (h:Sq X.K t H a xs):∃its:List Value,C1 xs its/\SSq t s.heap a its.toArray/\a < s.heap.objs.size:=by
 cases t with
 | true =>
  obtain⟨its,r,p,_⟩:=I.tuple h
  exact⟨its,r,p,by obtain⟨o,ho,_⟩:=p;exact Heap.lt_size ho⟩
 | false =>
  obtain⟨its,r,p,_⟩:=I.list h
  exact⟨its,r,p.isList,by obtain⟨o,ho,_⟩:=p.isList;exact Heap.lt_size ho⟩
end G
namespace G
open PySem PySem.Spec PyProof.Rows L2
theorem ag0{X:Cx}{pins:List (Addr×Obj)}{σ:L2.St}{H:Hp}{s:Shared}{h':Heap}{t':Nat}{ch:List Addr}{T:Addr}{o:HO}(I:Inv X pins σ H s) (hf:∀b∈ch,ae2 X pins H b) (hT:s.heap.objs.size<=T)
  (k:∀b u,b∉ch->s.heap.get? b=some u->h'.get? b=some u) (new:O8 X.prog X.w (upd H T o) h' T o):Inv X pins σ (upd H T o) { s with heap:=h',toks:=t' }:=by
 have hn:H T=none:=I.hok.fresh hT
 have neT:∀b u,s.heap.get? b=some u->b≠T:=fun b u e=>Nat.ne_of_lt (Nat.lt_of_lt_of_le (Heap.lt_size e) hT)
 have nch:∀b u,H b=some u->b∉ch:=fun b u e z=>by rw[(hf b z).1]at e;cases e
 refine I.step (g':=s.gens) (d':=s.drawn) (ch:=ch) (fun b hb=>⟨(hf b hb).2.2.2.1,(hf b hb).2.1,(hf b hb).2.2.2.2.1,(hf b hb).2.2.2.2.2⟩) (fun b u _ _ hc e _=>k b u hc e) (fun b u _ _ hc e _=>⟨u.slots,k b u hc e⟩)
  (fun b u _ e n=>by rw[A4 (neT b u e)];exact n) (fun b u hc e=>⟨u,k b u hc e⟩) (fun b xs e=>by rw[A4 (A9 e hn)];exact e) (fun b ob u e=>by rw[A4 (A9 e hn)];exact e)
  (fun b ps e=>⟨#[],by rw[A4 (A9 e hn),e];simp⟩) (fun m hm=>?_) (fun b u e=>?_) I.bare
 ·obtain⟨ob,es,ep,ho,r⟩:=hm
  exact⟨ob,es,ep,k _ ob (fun z=>(hf _ z).2.1 rfl) ho,r⟩
 ·by_cases hb:b=T
  ·subst hb;rw[A3]at e;cases e;exact new
  ·rw[A4 hb]at e
   refine(I.hok b u e).stay (fun c v hc q=>k c v ?_ q) (fun c q=>by rw[A4 (A9 q hn)];exact q) fun c xs q=>by rw[A4 (A9 q hn)];exact q
   rcases hc with z|z
   ·rw[z];exact nch b u e
   ·exact nch c _ z
theorem al2{X:Cx}{pins:List (Addr×Obj)}{σ:L2.St}{H:Hp}{s:Shared}{h':Heap}{t':Nat}{ch:List Addr}(I:Inv X pins σ H s) (hf:∀b∈ch,ae2 X pins H b)
  (k:∀b u,b∉ch->s.heap.get? b=some u->h'.get? b=some u):Inv X pins σ H { s with heap:=h',toks:=t' }:=by
 have nch:∀b u,H b=some u->b∉ch:=fun b u e z=>by rw[(hf b z).1]at e;cases e
 refine I.step (g':=s.gens) (d':=s.drawn) (ch:=ch) (fun b hb=>⟨(hf b hb).2.2.2.1,(hf b hb).2.1,(hf b hb).2.2.2.2.1,(hf b hb).2.2.2.2.2⟩) (fun b u _ _ hc e _=>k b u hc e) (fun b u _ _ hc e _=>⟨u.slots,k b u hc e⟩)
  (fun b u _ e n=>n) (fun b u hc e=>⟨u,k b u hc e⟩) (fun b xs e=>e) (fun b ob u e=>e) (fun b ps e=>⟨#[],by rw[e];simp⟩) (fun m hm=>?_) (fun b u e=>?_) I.bare
 ·obtain⟨ob,es,ep,ho,r⟩:=hm
  exact⟨ob,es,ep,k _ ob (fun z=>(hf _ z).2.1 rfl) ho,r⟩
 ·refine(I.hok b u e).stay (fun c v hc q=>k c v ?_ q) (fun c q=>q) fun c xs q=>q
  rcases hc with z|z
  ·rw[z];exact nch b u e
  ·exact nch c _ z
theorem aW1{P:Program}{w:World}{K:PySem.W.Frag}{elts:List Expr}{k0:Nat}{pos:Pos}{t1 t2:Bool}{z TI TO i1 i2 a1 a2:Addr}(Z:ZipApart z TI TO i1 i2 a1 a2) :
  Turn P w K (.Tuple elts k0 pos) (Itz K t1 t2 a1 a2) [z,TI,TO,i1,i2] z (fun i h=>IsZip h z TI TO .none/\IsPair h TI (.ref i1) (.ref i2)/\(∃a b,IsPair h TO a b)/\SIt t1 h i1 a1 i/\SIt t2 h i2 a2 i) where
 mem:=by simp
 obj:=fun i h ⟨hz,hTI,⟨a,b,hTO⟩,h1,h2⟩ c hc=>by
  simp only[List.mem_cons,List.not_mem_nil,or_false]at hc
  rcases hc with rfl|rfl|rfl|rfl|rfl
  ·exact⟨_,hz,fun v q=>by cases q⟩
  ·exact⟨_,hTI,fun v q=>by cases q⟩
  ·exact⟨_,hTO,fun v q=>by cases q⟩
  ·cases t1 with
   | true=>obtain⟨o,ho,_,hd⟩:=h1;exact⟨o,ho,fun v q=>by rw[hd]at q;cases q⟩
   | false=>obtain⟨o,ho,_,hd⟩:=h1;exact⟨o,ho,fun v q=>by rw[hd]at q;cases q⟩
  ·cases t2 with
   | true=>obtain⟨o,ho,_,hd⟩:=h2;exact⟨o,ho,fun v q=>by rw[hd]at q;cases q⟩
   | false=>obtain⟨o,ho,_,hd⟩:=h2;exact⟨o,ho,fun v q=>by rw[hd]at q;cases q⟩
 keep:=fun i h h' ⟨hz,hTI,⟨a,b,hTO⟩,h1,h2⟩ hk=>⟨hk z (by simp) _ hz,hk TI (by simp) _ hTI,⟨a,b,hk TO (by simp) _ hTO⟩,h1.ext fun o e=>hk i1 (by simp) o e,h2.ext fun o e=>hk i2 (by simp) o e⟩
 item:=by
  intro X hP hw hK hc i pins s σ H E I hf ⟨hz,hTI,⟨a,b,hTO⟩,h1,h2⟩ hg
  subst hP hw hK
  obtain⟨xs,ys,x,y,q1,q2,ex,ey⟩:=hg
  obtain⟨us,r1,p1,lt1⟩:=j6 I q1
  obtain⟨ws,r2,p2,lt2⟩:=j6 I q2
  obtain⟨ux,eux,rx⟩:=r1.get ex
  obtain⟨uy,euy,ry⟩:=r2.get ey
  refine aD3 Z hz hTI hTO h1 h2 p1 p2 (x:=ux) (y:=uy) (by simpa using eux) (by simpa using euy) fun h' b1 b2 b3 b4 b5 b6 b7=>⟨_,rfl,wpAny_letOwnedTupleGo_zip b1 fun h'' c1 c2=>?_⟩
  have neT:∀c o,s.heap.get? c=some o->c≠s.heap.objs.size:=fun c o e=>Nat.ne_of_lt (Heap.lt_size e)
  have up:∀c o,c≠z->h'.get? c=some o->h''.get? c=some o:=fun c o n e=>c2.extBut c o n e
  refine⟨.ref s.heap.objs.size,upd H s.heap.objs.size (.tup [x,y]),ag0 (s:=s) (h':=h'') (t':=s.toks) (ch:=[z,TI,TO,i1,i2]) I hf (Nat.le_refl _) (fun c u hc e=>?_) ?_,rfl,⟨_,x,y,rfl,I.hok.fresh (Nat.le_refl _),rfl,fun zs hz'=>by rw[aX8 I hz' q1];exact ex,fun zs hz'=>by rw[aX8 I hz' q2];exact ey⟩,⟨c1,?_,⟨_,_,up TO _ Z.TOz b2⟩,b3.ext fun o e=>up i1 o Z.i1z e,b4.ext fun o e=>up i2 o Z.i2z e⟩,fun c hc=>?_⟩
  ·simp only[List.mem_cons,List.not_mem_nil,or_false,not_or]at hc
   exact up c u hc.1 (b7 c u hc.1 hc.2.2.1 hc.2.2.2.1 hc.2.2.2.2 e)
  ·refine⟨by show 2<=sizeLine;decide,[ux,uy],.cons rx (.cons ry .nil),_,up _ _ ?_ b5,rfl,⟨_,rfl⟩,rfl⟩
   exact fun q=>neT z _ hz q.symm
  ·exact up TI _ Z.TIz (b7 TI _ Z.TIz Z.TITO Z.TIi1 Z.TIi2 hTI)
  ·have e:c < s.heap.objs.size:=by
    simp only[List.mem_cons,List.not_mem_nil,or_false]at hc
    rcases hc with rfl|rfl|rfl|rfl|rfl
    ·exact Heap.lt_size hz
    ·exact Heap.lt_size hTI
    ·exact Heap.lt_size hTO
    ·exact h1.lt
    ·exact h2.lt
   rw[A4 (Nat.ne_of_lt e)]
   exact(hf c hc).1
 done:=by
  intro X hP hw hK hc i pins s σ H E I hf ⟨hz,hTI,⟨a,b,hTO⟩,h1,h2⟩ hg
  subst hP hw hK
  obtain⟨xs,ys,q1,q2,hl⟩:=hg
  obtain⟨us,r1,p1,lt1⟩:=j6 I q1
  obtain⟨ws,r2,p2,lt2⟩:=j6 I q2
  have l1:=r1.length
  have l2:=r2.length
  refine aQ3 (I.ok.hd hc) Z hz hTI hTO h1 h2 p1 p2 ?_ fun h' hk=>⟨rfl,al2 (t':=s.toks) (ch:=[z,TI,TO,i1,i2]) I hf fun c u hc e=>?_⟩
  ·rcases hl with h|h
   ·left;simp;grind
   ·right;simp;grind
  ·simp only[List.mem_cons,List.not_mem_nil,or_false,not_or]at hc
   exact hk c u hc.1 hc.2.2.1 hc.2.2.2.1 hc.2.2.2.2 e
 self:=fun _ _ _ _ _ st h=>wpAny_pyIter_zip st.1 h
section
variable {X:Cx}
noncomputable def am8(f g:Rho->Option (Bool×List D)):Rho->Option (List D):=fun ρ=>(f ρ).bind fun p=>(g ρ).bind fun q=>some ((p.2.zip q.2).map fun(x,y)=>PyData.tuple [x,y])
theorem aC0{K:PySem.W.Frag}{t1 t2:Bool}{a1 a2:Addr}{vs us:List V}{ds es:List D}{Hf1:Hp}(h1:Sq K t1 Hf1 a1 vs) (h2:Sq K t2 Hf1 a2 us) (r1:Reps K Hf1 ds vs) (r2:Reps K Hf1 es us) :
  av0 K (Itz K t1 t2 a1 a2) ((ds.zip es).map fun(x,y)=>PyData.tuple [x,y]) Hf1:=by
 have mono:∀{t:Bool}{a:Addr}{xs:List V}{H H':Hp},B2 H H'->Sq K t H a xs->Sq K t H' a xs:=fun{t a xs H H'} e h=>by
  cases t with
  | true=>exact B6 e h
  | false=>exact D6 e h
 intro i H Hf sa sb
 have m1:=mono (sa.trans sb) h1
 have m2:=mono (sa.trans sb) h2
 have l1:=r1.length
 have l2:=r2.length
 refine⟨fun hi=>⟨vs,us,m1,m2,?_⟩,fun d hd=>?_⟩
 ·simp at hi;grind
 ·rw[List.getElem?_map]at hd
  obtain⟨⟨x,y⟩,q1,q2⟩:=Option.map_eq_some_iff.mp hd
  subst q2
  obtain⟨q1,q2⟩:=List.getElem?_zip_eq_some.mp q1
  obtain⟨vx,e1,e2⟩:=r1.get q1
  obtain⟨vy,e3,e4⟩:=r2.get q2
  refine⟨⟨vs,us,vx,vy,m1,m2,e1,e3⟩,fun v H' ⟨T,x',y',z1,z2,z3,z4,z5⟩=>?_⟩
  subst z1 z3
  have w1:=z4 vs m1
  have w2:=z5 us m2
  rw[e1]at w1
  rw[e3]at w2
  cases w1
  cases w2
  have nf:Hf T=none:=sb.free z2
  refine⟨upd Hf T (.tup [vx,vy]),Grow.laid sb z2,T,[vx,vy],rfl,SqT.of A3,vx,[vy],rfl,(e2.mono sa).mono (C4 nf),vy,[],rfl,(e4.mono sa).mono (C4 nf),rfl⟩
theorem bS0{elts:List Expr}{k0:Nat}{tpos:Pos}{a b:Expr}{f g:DE}{p pos:Pos}(hg:Gl X "zip") (hm:X.mg "zip" = none) (ha:JE X a f) (hb:JE X b g) (hs:starEach [a,b] X.env=[(false,eval a X.env),(false,eval b X.env)]:=by rfl) (hs2:starEach [b] X.env=[(false,eval b X.env)]:=by rfl) :
  JI X (.Tuple elts k0 tpos) (.Call (.Name "zip" p) [a,b] [] pos) (am8 (qE f) (qE g)):=fun ρ out q=>by
 obtain⟨⟨t1,ds⟩,e1,q⟩:=xbm q
 obtain⟨⟨t2,es⟩,e2,q⟩:=xbm q
 cases q
 obtain⟨d1,e1,e1'⟩:=xbm e1
 obtain⟨d2,e2,e2'⟩:=xbm e2
 intro pins s σ H R I ⟨H0,Hf,ss,sl,k⟩
 refine Call_ (t6 I hg hm bW0 (PyProof.Rows.callWith_type1 (thn (B8 (ha ρ d1 e1) (B8 (hb ρ d2 e2) F6 hs2) (by rw[hs,hs2]) pos pins s σ H
  (fun vs H'=>∃v u Hf',vs=[v,u]/\Grow H Hf H' Hf'/\Rep X.K Hf' d1 v/\Rep X.K Hf' d2 u) I ⟨H0,Hf,ss,sl,fun v H1 Hf1 g1 r1=>⟨H0,Hf1,g1.sub,sl.grow g1,fun u H2 Hf2 g2 r2=>⟨v,u,Hf2,rfl,g1.trans g2,r1.mono g2.ext,r2⟩⟩⟩) fun us s1 ⟨vs,H1,I1,r1,v,u,Hf1,ev,gr,p1,p2⟩=>?_) (by rw[hs,hs2]) (by rw[hs2];rfl)))
 subst ev
 obtain⟨uv,uu,rfl,rv,ru⟩:=bB4 r1
 obtain⟨a1,vs1,rfl,w1,w2⟩:=p1.seq (B2.refl Hf1) e1'
 obtain⟨a2,vs2,rfl,w3,w4⟩:=p2.seq (B2.refl Hf1) e2'
 cases rv
 cases ru
 have mono:∀{t:Bool}{a:Addr}{xs:List V}{H H':Hp},B2 H H'->Sq X.K t H a xs->Sq X.K t H' a xs:=fun{t a xs H H'} e h=>by
  cases t with
  | true=>exact B6 e h
  | false=>exact D6 e h
 obtain⟨us1,rr1,hp1,lt1⟩:=j6 I1 (mono gr.sub w1)
 obtain⟨us2,rr2,hp2,lt2⟩:=j6 I1 (mono gr.sub w3)
 refine aQ0 hp1 hp2 fun h' b1 b2 b3 b4 b5 b6=>?_
 have I2:Inv X pins σ H1 { s1 with heap:=h' }:=I1.kept (t':=s1.toks) b6
 refine wpAny_pyIter_zip b1 ⟨_,_,_,_,H1,rfl,I2,aW1 (zipApart_new lt1 lt2),⟨b1,b2,⟨_,_,b3⟩,b4,b5⟩,fun b hb=>?_,k _ H1 Hf1 gr (aC0 w1 w3 w2 w4)⟩
 have hb':s1.heap.objs.size<=b:=by
  simp only[List.mem_cons,List.not_mem_nil,or_false]at hb
  rcases hb with rfl|rfl|rfl|rfl|rfl
  ·exact Nat.le_add_right _ _
  ·exact Nat.le_add_right _ _
  ·exact Nat.le_add_right _ _
  ·exact Nat.le_refl _
  ·exact Nat.le_add_right _ _
 exact I1.fpOk hb' (I1.hok.fresh hb')
end
end G
namespace G
open PySem PySem.Spec PyProof.Rows L2
theorem ae7:fillsNumberSlot (.type "tuple") "mul" = pure false:=PySem.fillsNumberSlot_seq (id := "tuple.__mul__") (r:=some (.builtin "tuple.__rmul__")) F.slot_tuple_mul.lookup (by decide +kernel) F.slot_tuple_rmul.lookup (by decide +kernel)
theorem an9:seqRepeat? (.type "tuple")=pure (some (.builtin "tuple.__mul__")):=by
 unfold seqRepeat?
 rw[PySem.seqSlot_of (T := "tuple") (name := "__mul__") (id := "tuple.__mul__") F.slot_tuple_mul.lookup (by decide +kernel),PySem.seqSlot_of (T := "tuple") (name := "__rmul__") (id := "tuple.__rmul__") F.slot_tuple_rmul.lookup (by decide +kernel)];rfl
theorem z7(a:Int) (t:Tok) (l:Addr) (items:Array Value) (n:Nat) (dd:Option Addr) (sl:Array (Option Value)) :
  Meets (Builtin.«int.__rmul__» ⟨[.int a t,.ref l],[]⟩) (fun _ R s=>s.heap.get? l=some ⟨.type "tuple", dd,.seq items n,sl⟩/\R (.ok (.ret Value.notImplemented)) s) :=
 .of_wp fun prog w A R s h=>by obtain⟨hp,g,d,tk,os⟩:=s;obtain⟨hl,h⟩:=h;wp_walk;exact⟨_,rfl,h⟩
theorem aE0(items:Array Value) (k:Nat):List.foldl (fun x1 x2=>x1++x2) #[] (List.replicate k items)=(List.replicate k items.toList).flatten.toArray:=by
 have:=ao6 items.toList k []
 rw[List.nil_append]at this
 simpa using this
theorem ax9(l:Addr) (items:Array Value) (n:Nat) (dd:Option Addr) (sl:Array (Option Value)) (x:Int) (u:Tok) (h2:2<=x) (h3:x < 1000000) (he:items.isEmpty=false) (hz:items.size*x.toNat<=sizeLine) :
  Meets (Builtin.«tuple.__mul__» ⟨[.ref l,.int x u],[]⟩) (fun _ R s=>s.heap.get? l=some ⟨.type "tuple", dd,.seq items n,sl⟩/\R (.ok (.ret (Value.ref s.heap.objs.size))) { s with heap:=s.heap.push { cls:=Value.type "tuple", data:=Data.seq (List.foldl (fun x1 x2=>x1++x2) #[] (List.replicate x.toNat items)) } }) :=
 .of_wp fun prog w A R s h=>by
  obtain⟨hp,g,d,tk,os⟩:=s
  obtain⟨hl,h⟩:=h
  have hm:(items.size:Int)*x<=16777216:=by
   have e:((items.size*x.toNat:Nat):Int)=(items.size:Int)*x:=by rw[Int.natCast_mul,Int.toNat_of_nonneg (by omega)]
   have:items.size*x.toNat<=16777216:=by rw[← sizeLine_eq];exact hz
   omega
  wp_walk
  refine wpAny_ite_false (by simp;omega) ?_
  have ht:Heap.IsTuple (Shared.heap ⟨hp,g,d,tk,os⟩) l items:=⟨_,hl,rfl,n,rfl⟩
  refine wpAny_bind (tupleItemsOf_ ht ?_)
  refine wpAny_ite_false (by rw[he];simp;omega) ?_
  show wpAny _ _ (if(decide (x<=0) || items.isEmpty)=true then _ else _) _ _ _
  refine wpAny_ite_false (by rw[he];simp;omega) ?_
  show wpAny _ _ (if(items.size:Int)*x > (2 ^ 63 - 1) / 8 then _ else _) _ _ _
  rw[if_neg (by omega)]
  show wpAny _ _ (if Builtin.Tuple.tupleTooMany ((items.size:Int)*x)=true then _ else _) _ _ _
  rw[if_neg (by unfold Builtin.Tuple.tupleTooMany;rw[sizeLine_eq];simp;omega)]
  refine wpAny_bind (m:=Builtin.Tuple.tupleExact _) (wpAny_newObj_type (wpAny_pure ⟨_,rfl,h⟩) ?_)
  show(List.foldl (fun x1 x2=>x1++x2) #[] (List.replicate x.toNat items)).size<=sizeLine
  rw[aE0 items x.toNat,List.size_toArray,as7,Array.length_toList,Nat.mul_comm]
  exact hz
section
variable {X:Cx}
theorem bt7:OpR X (binaryOp .Mult) (fun x y H Q=>∃l k xs,x=.ref l/\y=.int k/\SqT X.K H l xs/\xs≠[]/\2<=k/\k < 1000000/\xs.length*k.toNat<=sizeLine/\∀p,H p=none->Q (.ref p) (upd H p (.tup (List.replicate k.toNat xs).flatten))):=by
 intro pins s σ H x y v u Q I rx ry h
 obtain⟨l,k,xs,rfl,rfl,hq,hx,h2,h3,hz,q⟩:=h
 cases rx
 obtain⟨t,rfl⟩:=ry
 obtain⟨its,r,p1,_⟩:=I.tuple hq
 obtain⟨⟨cls,dd,data,sl⟩,ho,hc,n,hd⟩:=id p1
 simp only at hc hd
 subst hc hd
 have hl:=r.length
 have he:its.toArray.isEmpty=false:=by
  cases its with
  | nil=>exact absurd (r.nil_iff.mp rfl) hx
  | cons a b=>rfl
 refine wpAny_binaryOp_repeat_ref (T := "tuple") (U := "int") (by decide) ⟨_,ho,rfl⟩ (fun s'=>typeIs_int s' k t) ae7 F.fills_int_mul F.slot_int_rmul an9 F.slot_int_index.lookup
  (call_meets F.slot_int_rmul (typeIs_int s k t) F.entry_int_rmul (F.args_int_rmul_2 _ _) (z7 k t l its.toArray n dd sl) ⟨ho,rfl,⟨_,ho,rfl⟩,
   call_meets F.slot_tuple_mul ⟨_,ho,rfl⟩ F.entry_tuple_mul (F.args_tuple_mul_2 _ _) (ax9 l its.toArray n dd sl k t h2 h3 he (by rw[List.size_toArray,← hl];exact hz)) ⟨ho,?_⟩⟩)
 rw[aE0]
 refine⟨.ref _,_,I.laid (t':=s.toks) (o:=.tup (List.replicate k.toNat xs).flatten) (fun b ob q=>Heap.get?_push_of_some _ q) (Nat.le_refl _) ⟨?_,_,r.rep k.toNat,am2.new _ _⟩,rfl,q _ (I.hok.fresh (Nat.le_refl _))⟩
 rw[as7,Nat.mul_comm];exact hz
noncomputable def T8(x y:D):Option D:=match x,y with
 | .int i,.int j=>if E9 i/\E9 j then some (.int (i*j)) else none
 | .tuple xs,.int k=>if xs.isEmpty=false/\2<=k/\k < 1000000/\xs.length*k.toNat<=16777216 then some (.tuple (List.replicate k.toNat xs).flatten) else none
 | _,_=>none
theorem as4:OpD X (binaryOp .Mult) T8:=fun x y z h=>by
 unfold T8 at h
 split at h
 ·exact bN1 _ _ z (by unfold bP2;exact h)
 ·split at h
  ·rename_i xs k c
   cases h
   refine OpR.imp bt7 fun vx vy H Q ⟨Hf,s,r1,r2,kk⟩=>?_
   obtain⟨a,vs,rfl,h2,h3⟩:=r1
   refine⟨a,k,vs,rfl,r2,B6 s h2,?_,c.2.1,c.2.2.1,by rw[h3.length,sizeLine_eq];exact c.2.2.2,fun p hp=>?_⟩
   ·intro e
    subst e
    have:=h3.length
    cases xs with
    | nil=>exact absurd c.1 (by simp)
    | cons a b=>simp at this
   ·exact kk _ _ _ (Grow.laid s hp) ⟨p,_,rfl,SqT.of A3,(h3.flatten k.toNat).mono (C4 (s.free hp))⟩
  ·cases h
 ·cases h
noncomputable def ag4(f:DE):DE:=fun ρ=>(f ρ).bind fun d=>match d with
 | .int i=>some (.int (-i))
 | _=>none
theorem bg5(h:JE X a f):JE X (.UnaryOp .USub a pos) (ag4 f):=fun ρ d q=>by
 obtain⟨x,e1,e2⟩:=xbm q
 cases x with
 | int i =>
  cases e2
  exact A5 (cc4 bH1 (h ρ _ e1)) fun σ H Q ⟨H0,Hf,s,sl,k⟩=>⟨H0,Hf,s,sl,fun v H1 Hf1 g1 r1=>⟨_,r1,k _ H1 Hf1 g1 rfl⟩⟩
 | _=>cases e2
noncomputable def isB(x y:D):Option D:=match y with
 | .bool b=>(match x with
  | .bool c=>some (.bool (c==b))
  | .dict _=>none
  | _=>some (.bool false))
 | .none=>isN x .none
 | _=>none
noncomputable def bO7(x y:D):Option D:=match y with
 | .bool b=>(match x with
  | .bool c=>some (.bool (!(c==b)))
  | .dict _=>none
  | _=>some (.bool true))
 | .none=>bO6 x .none
 | _=>none
theorem bC9:OpD X (compareOp .Is) isB:=fun x y z h=>by
 cases y with
 | none=>exact bc7 x .none z h
 | bool b =>
  intro pins s σ H vx vy v u Q I rx ry ⟨Hf,ss,r1,r2,k⟩
  cases r2
  cases ry
  have fin:∀c,z=.bool c->(v==Value.bool b)=c->EP X pins σ Q (.bool (v==Value.bool b)) s:=fun c e1 e2=>by
   rw[e2];subst e1;exact⟨.bl c,H,I,rfl,k _ H Hf (Grow.refl ss) rfl⟩
  cases x with
  | none=>cases r1;cases rx;cases h;exact wpAny_is_plain rfl (fin _ rfl rfl)
  | bool c=>cases r1;cases rx;cases h;exact wpAny_is_plain rfl (fin _ rfl (by cases c<;>cases b<;>rfl))
  | int i=>cases r1;obtain⟨t,rfl⟩:=rx;cases h;exact wpAny_is_plain rfl (fin _ rfl rfl)
  | str i=>cases r1;obtain⟨t,rfl⟩:=rx;cases h;exact wpAny_is_plain rfl (fin _ rfl rfl)
  | tuple ds=>obtain⟨a,vs,rfl,_⟩:=r1;cases rx;cases h;exact wpAny_is_plain rfl (fin _ rfl rfl)
  | list ds=>obtain⟨a,vs,rfl,_⟩:=r1;cases rx;cases h;exact wpAny_is_plain rfl (fin _ rfl rfl)
  | dict ds=>cases h
 | _=>cases h
theorem ax2:OpD X (compareOp .IsNot) bO7:=fun x y z h=>by
 cases y with
 | none=>exact bu9 x .none z h
 | bool b =>
  intro pins s σ H vx vy v u Q I rx ry ⟨Hf,ss,r1,r2,k⟩
  cases r2
  cases ry
  have fin:∀c,z=.bool c->(!(v==Value.bool b))=c->EP X pins σ Q (.bool (!(v==Value.bool b))) s:=fun c e1 e2=>by
   rw[e2];subst e1;exact⟨.bl c,H,I,rfl,k _ H Hf (Grow.refl ss) rfl⟩
  cases x with
  | none=>cases r1;cases rx;cases h;exact wpAny_isNot_plain rfl (fin _ rfl rfl)
  | bool c=>cases r1;cases rx;cases h;exact wpAny_isNot_plain rfl (fin _ rfl (by cases c<;>cases b<;>rfl))
  | int i=>cases r1;obtain⟨t,rfl⟩:=rx;cases h;exact wpAny_isNot_plain rfl (fin _ rfl rfl)
  | str i=>cases r1;obtain⟨t,rfl⟩:=rx;cases h;exact wpAny_isNot_plain rfl (fin _ rfl rfl)
  | tuple ds=>obtain⟨a,vs,rfl,_⟩:=r1;cases rx;cases h;exact wpAny_isNot_plain rfl (fin _ rfl rfl)
  | list ds=>obtain⟨a,vs,rfl,_⟩:=r1;cases rx;cases h;exact wpAny_isNot_plain rfl (fin _ rfl rfl)
  | dict ds=>cases h
 | _=>cases h
noncomputable def aH4(K:PySem.W.Frag) (d:D) (u:Value):Prop:=∃v,C5 v u/\∀H:Hp,Rep K H d v
theorem bT2(r:aH4 X.K d u) (hg:Gl X x) (hm:X.mg x=some u) (hd:(x==("__debug__" : Str))=false:=by decide):JE X (.Name x pos) (dC d):=fun ρ d' q=>by
 cases q
 obtain⟨v,rv,rp⟩:=r
 exact A5 (bs8 hg hm rv hd) fun σ H Q ⟨H0,Hf,s,sl,k⟩=>k _ H Hf (Grow.refl s) (rp Hf)
noncomputable def qN(f:Rho->Option (List D)):Rho->Option (Bool×List D):=fun ρ=>(f ρ).map fun ds=>(false,ds)
theorem bR5(h:JN X e f):JQ X e (qN f):=bf9 h
noncomputable def af7(f:Rho->Option (Bool×List D)):DE:=fun ρ=>(f ρ).bind fun q=>if q.1=true then none else some (.tuple q.2)
theorem bx3(hg:Gl X "tuple") (hm:X.mg "tuple" = none) (h:JQ X e f) (he:starEach [e] X.env=[(false,eval e X.env)]:=by rfl):JE X (.Call (.Name "tuple" p) [e] [] pos) (af7 f):=bg3 hg hm h (he:=he)
end
end G
namespace G
open PySem PySem.Spec PyProof.Rows L2
theorem aV1(l b:Addr) (items items2:Array Value) (n n2:Nat) (dd dd2:Option Addr) (sl sl2:Array (Option Value)) (hz:items.size+items2.size<=sizeLine) :
  Meets (Builtin.«list.__add__» ⟨[.ref l,.ref b],[]⟩) (fun _ R s=>s.heap.get? l=some ⟨.type "list", dd,.seq items n,sl⟩/\s.heap.get? b=some ⟨.type "list", dd2,.seq items2 n2,sl2⟩/\R (.ok (.ret (Value.ref s.heap.objs.size))) { s with heap:=s.heap.push { cls:=Value.type "list", data:=Data.seq (items++items2) } }) :=
 .of_wp fun prog w A R s h=>by
  obtain⟨hp,g,d,tk,os⟩:=s
  obtain⟨hl,hb,h⟩:=h
  have hsub:isSubtype (.type "list") (.type "list")=pure true:=by rw[isSubtype_type];kernel_rfl
  have hsz:=hz
  wp_walk
  exact⟨_,rfl,h⟩
section
variable {X:Cx}
theorem aL3:OpR X (binaryOp .Add) (fun x y H Q=>∃a b xs ys,x=.ref a/\y=.ref b/\SqL X.K H a xs/\SqL X.K H b ys/\xs.length+ys.length<=sizeLine/\∀p,H p=none->Q (.ref p) (upd H p (.lst (xs++ys)))):=by
 intro pins s σ H x y v u Q I rx ry h
 obtain⟨a,b,xs,ys,rfl,rfl,ha,hb,hz,q⟩:=h
 cases rx
 cases ry
 obtain⟨its,r1,p1,_⟩:=I.list ha
 obtain⟨its2,r2,p2,_⟩:=I.list hb
 obtain⟨⟨cls,dd,data,sl⟩,ho,hc,n,hd⟩:=p1.isList
 obtain⟨⟨cls2,dd2,data2,sl2⟩,ho2,hc2,n2,hd2⟩:=p2.isList
 simp only at hc hd hc2 hd2
 subst hc hd hc2 hd2
 have l1:=r1.length
 have l2:=r2.length
 refine concat_meets ⟨_,ho,rfl⟩ ⟨_,ho2,rfl⟩ noFill_list_add seq_list_add PySem.F.slot_list_add PySem.F.entry_list_add (PySem.F.args_list_add_2 _ _) (aV1 a b its.toArray its2.toArray n n2 dd dd2 sl sl2 (by simp only[List.size_toArray];grind)) ⟨ho,ho2,?_⟩
 have ea:its.toArray++its2.toArray=(its++its2).toArray:=by simp
 rw[ea]
 exact⟨.ref _,_,I.lnew (t':=s.toks) (r1.append r2) (by rw[List.length_append];grind),rfl,q _ I.fresh⟩
noncomputable def Q3(x y:D):Option D:=match x,y with
 | .list xs,.list ys=>if xs.length+ys.length<=16777216 then some (.list (xs++ys)) else none
 | x,y=>Y6 x y
theorem bv1:OpD X (binaryOp .Add) Q3:=fun x y z h=>by
 unfold Q3 at h
 split at h
 ·split at h
  ·rename_i c
   cases h
   refine OpR.imp aL3 fun vx vy H Q ⟨Hf,s,r1,r2,k⟩=>?_
   obtain⟨a,vs,rfl,h2,h3⟩:=r1
   obtain⟨b,us,rfl,h5,h6⟩:=r2
   refine⟨a,b,vs,us,rfl,rfl,D6 s h2,D6 s h5,by rw[h3.length,h6.length,sizeLine_eq];exact c,fun p hp=>?_⟩
   exact k _ _ _ (Grow.laid s hp) ⟨p,vs++us,rfl,SqL.of A3,(h3.append h6).mono (C4 (s.free hp))⟩
  ·cases h
 ·exact bc8 _ _ z h
noncomputable def bD9(f:DE):DE:=fun ρ=>(f ρ).bind fun d=>match d with
 | .tuple xs=>some (.tuple xs.reverse)
 | _=>none
end
end G
namespace G
open PySem PySem.Spec PyProof.Rows L2
section
variable {prog:Program}{w:World}{A:Around}{E:Value->Shared->Prop}{s:Shared}
theorem aH2(n:Nat):Builtin.Slice.sliceAdjust none none (-1) (n:Int)=((n:Int) - 1,-1):=by
 unfold Builtin.Slice.sliceAdjust
 have h1:(-1:Int) < 0:=by omega
 simp only[h1,if_true]
theorem aE2(n:Nat):Builtin.Slice.slicePlaces ((n:Int) - 1) (-1) (-1)=n:=by
 unfold Builtin.Slice.slicePlaces
 have h1:¬(-1:Int) > 0:=by grind
 have h2:-(-1:Int)=1:=by grind
 simp only[h1,if_false,h2,Int.ediv_one]
 split<;>grind
theorem ac6{sl:Addr}{t:Tok}{n:Nat}{Q:Int×Int×Nat->Shared->Prop}(hs:s.heap.IsSliceOf sl .none .none (.int (-1) t))
  (h:Q ((n:Int) - 1,-1,n) s):wpAny (model prog w) A (Builtin.Slice.sliceApplied (.ref sl) (pure (n:Int))) Q E s:=by
 obtain⟨os,hos,hcs,hds⟩:=id hs
 unfold Builtin.Slice.sliceApplied Builtin.Slice.sliceFields
 refine wpAny_bind (wpAny_bind (wpAny_field hos hds (x:=.none) rfl (wpAny_bind (wpAny_field hos hds (x:=.none) rfl (wpAny_bind (wpAny_field hos hds (x:=.int (-1) t) rfl (wpAny_pure ?_)))))))
 refine wpAny_bind (slicePart_int ?_)
 show wpAny _ _ (if((-1:Int)==0)=true then _ else _) _ _ s
 rw[if_neg (by decide)]
 refine wpAny_bind (slicePart_none (wpAny_bind (slicePart_none (wpAny_bind (wpAny_pure ?_)))))
 show wpAny _ _ (match Builtin.Slice.sliceAdjust none none (-1) (n:Int) with|(lo,hi)=>pure (lo,(-1:Int),Builtin.Slice.slicePlaces lo hi (-1))) _ _ s
 rw[aH2 n]
 show wpAny _ _ (pure ((n:Int) - 1,(-1:Int),Builtin.Slice.slicePlaces ((n:Int) - 1) (-1) (-1))) _ _ s
 rw[aE2]
 exact wpAny_pure h
theorem aw8{α:Type}:∀l:List α,(List.range l.length).filterMap (fun k=>l[k]?)=l
 | []=>rfl
 | a::l=>by
  rw[List.length_cons,List.range_succ_eq_map,List.filterMap_cons,List.filterMap_map]
  simp only[List.getElem?_cons_zero]
  congr 1
  exact aw8 l
theorem az9{α β:Type}{f g:α->Option β}:∀{l:List α},(∀x∈l,f x=g x)->l.filterMap f=l.filterMap g
 | [],_=>rfl
 | a::l,h=>by rw[List.filterMap_cons,List.filterMap_cons,h a (List.mem_cons_self ..),az9 fun x hx=>h x (List.mem_cons_of_mem _ hx)]
theorem ba1(xs:Array Value):((List.range xs.size).filterMap fun(k:Nat)=>xs[(((xs.size:Int) - 1)+(k:Int) * -1).toNat]?).toArray=xs.toList.reverse.toArray:=by
 congr 1
 have e:∀k∈List.range xs.size,xs[(((xs.size:Int) - 1)+(k:Int) * -1).toNat]? = xs.toList.reverse[k]?:=by
  intro k hk
  have hk:=List.mem_range.mp hk
  have:(((xs.size:Int) - 1)+(k:Int) * -1).toNat=xs.size - 1 - k:=by grind
  rw[this,List.getElem?_reverse (by rw[Array.length_toList];exact hk),Array.length_toList,Array.getElem?_toList]
 rw[az9 e]
 have:=aw8 xs.toList.reverse
 rw[List.length_reverse,Array.length_toList]at this
 exact this
theorem ab0(ht:IsTup s.heap t items) (hs:s.heap.IsSliceOf sl .none .none (.int (-1) k))
  (h:Q (.ref s.heap.objs.size) { s with heap:=s.heap.push { cls:=.type "tuple", data:=.seq items.toList.reverse.toArray } })
  (hsz:items.size<=sizeLine):wpAny (model prog w) A (getItem (.ref t) (.ref sl)) Q E s:=by
 have htake:sizeOk (.seq items.toList.reverse.toArray):=by
  show items.toList.reverse.toArray.size<=sizeLine
  rw[List.size_toArray,List.length_reverse,Array.length_toList]
  omega
 obtain⟨os,hos,hcs,hds⟩:=id hs
 have hTs:s.TypeIs (.ref sl) "slice" := ⟨os,hos,hcs⟩
 unfold getItem
 try with_reducible refine wpAny_holding ?_
 first|refine wpAny_bind (wpAny_pure ?_)|skip
 refine wpAny_bind (wpAny_sequenceKey ht.typeIs (by decide) ?_)
 refine wpAny_bind (wpAny_callSpecial?_slot (name:=Str.ofString "__getitem__") ht.typeIs PyProof.Rows.slot_tuple_getitem
  (wpAny_call_entry PyProof.Rows.slot_tuple_getitem ht.typeIs entry_tuple_getitem ?_ (args_tuple_getitem _ _)))
 show wpAny _ _ (Builtin.Tuple.tupleItemsOf (.ref t) >>= _) _ _ s
 refine wpAny_bind (tupleItemsOf_ ht ?_)
 refine wpAny_bind (wpAny_typeOf hTs ?_)
 rw[if_pos (by decide)]
 refine wpAny_bind (ac6 hs ?_)
 have hno:¬((((items.size:Int) - 1)==0&&(-1:Int)==1&&items.size==items.size)=true):=by
  have:((-1:Int)==1)=false:=rfl
  rw[this];simp
 show wpAny _ _ (if(((items.size:Int) - 1)==0&&(-1:Int)==1&&items.size==items.size)=true then _ else _) _ _ s
 rw[if_neg hno,ba1]
 first
  | exact wpAny_bind (m:=Builtin.Tuple.tupleExact _) (wpAny_newObj_type (wpAny_pure ⟨_,rfl,wpAny_pure h⟩) htake)
  | exact wpAny_bind (m:=Builtin.Tuple.tupleExact _) (wpAny_newObj_type (wpAny_bind (wpAny_pure (wpAny_pure ⟨_,rfl,wpAny_pure h⟩))) htake)
  | exact wpAny_bind (wpAny_bind (m:=Builtin.Tuple.tupleExact _) (wpAny_newObj_type (wpAny_pure (wpAny_pure ⟨_,rfl,wpAny_pure h⟩)) htake))
  | exact wpAny_bind (wpAny_bind (m:=Builtin.Tuple.tupleExact _) (wpAny_newObj_type (wpAny_pure ⟨_,rfl,wpAny_pure h⟩) htake))
end
section
variable {X:Cx}{e st:Expr}{te ts:TE}{p2 pos:Pos}
theorem av4:∀{xs:List V}{us:List Value},C1 xs us->C1 xs.reverse us.reverse
 | [],[],h=>h
 | x::xs,u::us,h=>by
  cases h with
  | cons a b=>rw[List.reverse_cons,List.reverse_cons];exact(av4 b).append (.cons a .nil)
theorem bL0(he:PE X e te) (hs:PE X st ts):PE X (.Subscript e (.Slice none none (some st) p2) pos)
  (fun σ H Q=>te σ H fun x H1=>ts σ H1 fun y H2=>∃a xs,x=.ref a/\y=.int (-1)/\SqT X.K H2 a xs/\∀p,H2 p=none->Q (.ref p) (upd H2 p (.tup xs.reverse))):=by
 intro pins s σ H Q I h
 refine Subscript_ (thn (he pins s σ H _ I h) fun v s1 ⟨x,H1,I1,r1,q1⟩=>?_)
 refine wpAny_Slice ?_
 rw[evalPart_none]
 refine wpAny_pure (wpAny_pure ?_)
 rw[evalPart_some]
 refine thn (hs pins s1 σ H1 _ I1 q1) fun vs s3 ⟨y,H3,I3,r3,a,xs,e1,e2,hx,q⟩=>?_
 subst e1 e2
 cases r1
 obtain⟨tk,rfl⟩:=r3
 have I4:Inv X pins σ H3 { s3 with heap:=s3.heap.push { cls:=.type "slice", data:=.fields #[.none,.none,.int (-1) tk] } }:=I3.kept (t':=s3.toks) fun b ob q=>Heap.get?_push_of_some _ q
 obtain⟨its,r,ht,hz⟩:=I4.tuple hx
 have hlen:its.toArray.size=xs.length:=by rw[List.size_toArray];exact r.length.symm
 show wpAny (model X.prog X.w) X.A (subscriptTail e (.Slice none none (some st) p2) (.ref a) (.ref s3.heap.objs.size)) (EP X pins σ Q) X.xe { s3 with heap:=s3.heap.push { cls:=.type "slice", data:=.fields #[.none,.none,.int (-1) tk] } }
 refine tail_any (ops:=[.ref a,.ref s3.heap.objs.size]) ht.typeIs PyProof.Rows.slot_tuple_getitem.lookup ?_ (by with_unfolding_all rfl)
 refine ab0 ht (Heap.IsSliceOf.new ..) ?_ (by rw[hlen];exact hz)
 refine⟨.ref _,_,I4.laid (t':=s3.toks) (o:=.tup xs.reverse) (fun b ob q=>Heap.get?_push_of_some _ q) (Nat.le_refl _) ?_,rfl,q _ (I4.hok.fresh (Nat.le_refl _))⟩
 exact⟨by rw[List.length_reverse];exact hz,_,av4 r,am2.new _ _⟩
theorem aY8{K:PySem.W.Frag}{H:Hp}{ds:List D}{vs:List V}(h:Reps K H ds vs):Reps K H ds.reverse vs.reverse:=by
 induction ds generalizing vs with
 | nil=>cases vs with
  | nil=>exact h
  | cons _ _=>exact absurd h.length (by simp)
 | cons d ds ih=>cases vs with
  | nil=>exact absurd h.length (by simp)
  | cons v vs =>
   obtain⟨v',r',e,h1,h2⟩:=h
   cases e
   rw[List.reverse_cons,List.reverse_cons]
   exact(ih h2).append ⟨_,_,rfl,h1,rfl⟩
theorem bx4(ha:JE X a f) (hs:JE X st (ag4 (dC (.int 1)))):JE X (.Subscript a (.Slice none none (some st) p2) pos) (bD9 f):=fun ρ d q=>by
 obtain⟨x,e1,q⟩:=xbm q
 cases x with
 | tuple xs =>
  cases q
  refine A5 (bL0 (ha ρ _ e1) (hs ρ (.int (-1)) rfl)) fun σ H Q ⟨H0,Hf,s,sl,k⟩=>?_
  refine⟨H0,Hf,s,sl,fun v H1 Hf1 g1 ⟨p,vs,q1,q2,q3⟩=>⟨H0,Hf1,g1.sub,sl.grow g1,fun u H2 Hf2 g2 r2=>?_⟩⟩
  subst q1
  cases r2
  have q2':=B6 g2.ext q2
  have q3':=q3.mono g2.ext
  refine⟨p,vs,rfl,rfl,B6 g2.sub q2',fun p' hp=>?_⟩
  exact k _ _ _ ((g1.trans g2).trans (Grow.laid g2.sub hp)) ⟨p',_,rfl,SqT.of A3,(aY8 q3').mono (C4 (g2.sub.free hp))⟩
 | _=>cases q
end
end G
namespace G
open PySem PySem.Spec PyProof.Rows L2
section
variable {X:Cx}
noncomputable def atS(x:Str) (i:Int):Option D:=if x.length<=16777216 then(atI x.cps.toList i).map fun c=>.str ⟨#[c]⟩ else none
noncomputable def ch8(f g:DE):DE:=fun ρ=>(f ρ).bind fun x=>(g ρ).bind fun i=>match x,i with
 | .str x,.int i=>atS x i
 | _,_=>none
theorem bS9(ha:JE X a f) (hb:JE X b g) (hs:ai1 b:=by intro _ _;rfl):JE X (.Subscript a b pos) (ch8 f g):=fun ρ d q=>by
 obtain⟨x,h1,q⟩:=xbm q
 obtain⟨y,h2,h3⟩:=xbm q
 split at h3
 ·rename_i x i
  unfold atS at h3
  split at h3
  ·rename_i hz
   obtain⟨c,e1,e2⟩:=Option.map_eq_some_iff.mp h3
   subst e2
   refine A5 (bC7 bh1 (ha ρ _ h1) (hb ρ _ h2) hs) fun σ H Q ⟨H0,Hf,s,sl,k⟩=>?_
   refine⟨H0,Hf,s,sl,fun v H1 Hf1 g1 r1=>⟨H0,Hf1,g1.sub,sl.grow g1,fun u H2 Hf2 g2 r2=>?_⟩⟩
   exact .inr (.inr ⟨x,i,c,r1,r2,by rw[sizeLine_eq];exact hz,e1,k _ H2 Hf2 (g1.trans g2) rfl⟩)
  ·cases h3
 ·cases h3
noncomputable def bk9(f:DE) (lo hi:Rho->Option (Option Int)):DE:=fun ρ=>(f ρ).bind fun d=>(lo ρ).bind fun l=>(hi ρ).bind fun h=>match d with
 | .tuple xs=>some (.tuple (l8 xs l h))
 | .list xs=>some (.list (l8 xs l h))
 | _=>none
theorem bS6{a:Expr}{lo hi:Option Expr}{f:DE}{l h:Rho->Option (Option Int)}{pos p2:Pos}(ha:JE X a f) (hl:JO X lo l) (hh:JO X hi h):JE X (.Subscript a (.Slice lo hi none p2) pos) (bk9 f l h):=fun ρ d q=>by
 obtain⟨x,e1,q⟩:=xbm q
 obtain⟨y,e2,q⟩:=xbm q
 obtain⟨z,e3,q⟩:=xbm q
 cases x with
 | tuple xs =>
  cases q
  refine bg4 ha hl hh ρ _ ?_
  unfold au1
  rw[e1,Option.bind_some,e2,Option.bind_some,e3,Option.bind_some]
 | list xs =>
  cases q
  refine A5 (f6 aJ1 (ha ρ _ e1) (hl ρ y e2) (hh ρ z e3)) fun σ H Q ⟨H0,Hf,s,sl,k⟩=>?_
  refine⟨H0,Hf,s,sl,fun v H1 Hf1 g1 ⟨p,vs,q1,q2,q3⟩=>⟨H0,Hf1,g1.sub,sl.grow g1,fun H2 Hf2 g2=>⟨H0,Hf2,g2.sub,sl.grow (g1.trans g2),fun H3 Hf3 g3=>?_⟩⟩⟩
  subst q1
  have q2':=D6 (g2.trans g3).ext q2
  have q3':=q3.mono (g2.trans g3).ext
  refine⟨p,vs,rfl,D6 g3.sub q2',fun p' hp=>?_⟩
  exact k _ _ _ (((g1.trans g2).trans g3).trans (Grow.laid g3.sub hp)) ⟨p',_,rfl,SqL.of A3,(z8 q3' y z).mono (C4 (g3.sub.free hp))⟩
 | _=>cases q
end
end G
namespace G
open PySem PySem.Spec PyProof.Rows L2
section
variable {X:Cx}
end
end G
namespace G
open PySem PySem.Spec PyProof.Rows L2
section
open PySem.SeqAt PySem.MeetsSeq PySem.MeetsSeq2 PySem.MeetsSeq3 PySem.SeqRoads2
open PySem.AutoSeq1 (wpAny_loadPart')
theorem ai7(l:Addr) (items:Array Value) (n:Nat) (dd:Option Addr) (sl:Array (Option Value)) (x:Value) (e:Nat->Bool) :
  Meets (Builtin.«tuple.__contains__» ⟨[.ref l,x],[]⟩)
   (fun A R s=>s.heap.get? l=some { cls:=.type "tuple", dict:=dd,data:=.seq items n,slots:=sl }/\(∀j (h:j < items.size),EqAt A.in1 s items[j] x (e j))/\R (.ok (.ret (.bool ((List.range items.size).any e)))) s) :=
 .of_wp fun prog w A R s h=>by
  obtain⟨hp,g,d,tk,os⟩:=s;obtain⟨hl,he,h⟩:=h
  wp_walk using wpAny_loadPart' hl,wpAny_forIn_array _ (fun O4 b s'=>b.1=none/\s'=⟨hp,g,d,tk,os⟩/\∃i,O4=items.toList.drop i/\R (.ok (.ret (.bool (((List.range items.size).drop i).any e)))) ⟨hp,g,d,tk,os⟩) _
  case turn =>
   rintro y O4 b s' ⟨hb,rfl,i,hz,hR⟩
   have hlt:i < items.toList.length:=by
    rcases Nat.lt_or_ge i items.toList.length with h'|h'
    ·exact h'
    ·rw[List.drop_of_length_le h']at hz;cases hz
   have hi:i < items.size:=by simpa using hlt
   rw[List.drop_eq_getElem_cons hlt]at hz
   injection hz with hy hrest
   have hy:y=items[i]:=by simpa using hy
   subst hy
   have hd:(List.range items.size).drop i=i::(List.range items.size).drop (i+1):=by simp[List.drop_eq_getElem_cons,hi]
   rw[hd,List.any_cons]at hR
   refine wpAny_bind (he i hi prog w _ _ ?_)
   cases hy:e i with
   | true =>
    rw[hy]at hR
    wp_walk
    exact⟨_,rfl,by simpa using hR⟩
   | false =>
    rw[hy]at hR
    wp_walk
    exact⟨rfl,rfl,i+1,hrest,by simpa using hR⟩
  case fin =>
   rintro⟨b1,b2⟩ s' ⟨hb,rfl,i,hz,hR⟩
   simp only at hb
   subst hb
   have hge:items.size<=i:=by
    rcases Nat.lt_or_ge i items.toList.length with h'|h'
    ·rw[List.drop_eq_getElem_cons h']at hz;cases hz
    ·simpa using h'
   rw[List.drop_of_length_le (by simpa using hge)]at hR
   wp_walk
   exact⟨_,rfl,by simpa using hR⟩
  case h =>
   exact⟨rfl,rfl,0,by simp,by simpa using h⟩
end
section
variable {X:Cx}
noncomputable def i5:D->Bool
 | .none=>true
 | .bool _=>true
 | .int _=>true
 | .str _=>true
 | _=>false
noncomputable def toV:D->V
 | .none=>.non
 | .bool b=>.bl b
 | .int i=>.int i
 | .str x=>.str x
 | _=>.non
theorem W8{K:PySem.W.Frag}{H:Hp}{d:D}{v:V}(f:i5 d=true) (r:Rep K H d v):v=toV d/\m5 v=true:=by
 cases d with
 | none=>cases r;exact⟨rfl,rfl⟩
 | bool b=>cases r;exact⟨rfl,rfl⟩
 | int i=>cases r;exact⟨rfl,rfl⟩
 | str x=>cases r;exact⟨rfl,rfl⟩
 | tuple _=>cases f
 | list _=>cases f
 | dict _=>cases f
theorem ac8{K:PySem.W.Frag}{H:Hp}:∀{ds:List D}{vs:List V},ds.all i5=true->Reps K H ds vs->vs=ds.map toV/\vs.all m5=true
 | [],vs,_,r=>by cases(show vs=[] from r);exact⟨rfl,rfl⟩
 | d::ds,vs,f,r=>by
  rw[List.all_cons,Bool.and_eq_true]at f
  obtain⟨v,r',e,h1,h2⟩:=r
  subst e
  obtain⟨e1,e2⟩:=W8 f.1 h1
  obtain⟨e3,e4⟩:=ac8 f.2 h2
  subst e1 e3
  exact⟨rfl,by rw[List.all_cons,e2,e4];rfl⟩
noncomputable def isS:D->Bool
 | .str _=>true
 | _=>false
noncomputable def inD(neg:Bool) (x y:D):Option D:=match y with
 | .list ds=>if i5 x=true/\ds.all i5=true then some (.bool (if neg then !inV (toV x) (ds.map toV) else inV (toV x) (ds.map toV))) else none
 | .tuple ds=>if i5 x=true/\ds.all i5=true then some (.bool (if neg then !inV (toV x) (ds.map toV) else inV (toV x) (ds.map toV))) else if i5 x=false/\SeqAt.shaped x=true/\ds.all isS=true then some (.bool neg) else if SeqAt.shaped x=true/\x.depth<=60/\ds.all SeqAt.shaped=true then some (.bool (if neg then !(ds.any fun y=>PyData.eqv y x) else ds.any fun y=>PyData.eqv y x)) else none
 | _=>none
theorem by6(f:i5 x=false) (sh:SeqAt.shaped x=true) (r:Reads s.heap v x as) (hu:A.units < cLine) (a:Str) (t:Tok):SeqAt.EqAt A s (.str a t) v false:=by
 cases r with
 | none=>cases f
 | bool _=>cases f
 | int _ _=>cases f
 | str _ _=>cases f
 | list h1 h2 h3 _=>exact SeqAt.EqAt.str_list a t ⟨_,h1,h2,_,h3⟩ hu
 | tuple h1 h2 h3 _=>exact SeqAt.EqAt.str_tuple a t ⟨_,h1,h2,_,h3⟩ hu
 | dict _ _ _ _ _=>exact absurd (SeqAt.canLay_of_shaped sh) (by simp[PyData.canLay0])
theorem aA0{K:PySem.W.Frag}{H:Hp}:∀{ds:List D}{vs:List V}{us:List Value},ds.all isS=true->Reps K H ds vs->C1 vs us->∀y∈us,∃a t,y=Value.str a t
 | [],_,_,_,r,w=>by cases(show _=[] from r);cases w;intro y hy;cases hy
 | d::ds,_,_,f,r,w=>by
  rw[List.all_cons,Bool.and_eq_true]at f
  obtain⟨v,r',rfl,h1,h2⟩:=r
  cases w with
  | cons w1 w2 =>
   intro y hy
   rcases List.mem_cons.mp hy with rfl|hy
   ·cases d with
    | str a =>
     cases(show v=.str a from h1)
     obtain⟨t,e⟩:=w1
     exact⟨a,t,e⟩
    | _=>cases f.1
   ·exact aA0 f.2 h2 w2 y hy
theorem bh6{x:D}{ds:List D}{vx vy:V}{v u:Value}{pins:List (Addr×Obj)}{s:Shared}{σ:L2.St}{H Hf:Hp}{Q:Value->Shared->Prop}(hu:X.A.units+64 < cLine) (f:i5 x=false) (sh:SeqAt.shaped x=true) (a:ds.all isS=true) (I:L2.Inv X pins σ H s) (rx:C5 vx v) (ry:C5 vy u) (ss:B2 Hf H) (r1:Rep X.K Hf x vx) (r2:Rep X.K Hf (.tuple ds) vy) :
  (Q (.bool false) s->wpAny (model X.prog X.w) X.A (compareOp .In v u) Q X.xe s)/\(Q (.bool true) s->wpAny (model X.prog X.w) X.A (compareOp .NotIn v u) Q X.xe s):=by
 obtain⟨p,vs,rfl,h2,h3⟩:=r2
 obtain rfl:u=Value.ref p:=ry
 obtain⟨its,rv,pl,_⟩:=I.tuple (B6 ss h2)
 obtain⟨as,rd⟩:=Rep.reads I (r1.mono ss) rx
 have st:=aA0 a h3 rv
 have he:∀y,y∈its.toArray->SeqAt.EqAt X.A.in1 s y v ((fun _=>false) y):=fun y hy=>by
  obtain⟨b,t,rfl⟩:=st y (by simpa using hy)
  exact by6 f sh rd (by show X.A.units+1 < _;grind) b t
 have no:its.toArray.any (fun _=>false)=false:=by simp
 refine⟨fun q=>SeqAt.in_tupleAt (fun _=>false) pl he (by rw[no];exact q),fun q=>SeqAt.notIn_tupleAt (fun _=>false) pl he (by rw[no];exact q)⟩
theorem cb8:∀{vs:List Value}{ds:List D}{as:List Addr},ReadsAll h vs ds as->vs.length=ds.length/\∀(j:Nat) (hj:j < vs.length),∃bs,Reads h vs[j] (ds.getD j .none) bs
 | [],_,_,r=>by cases r;exact⟨rfl,fun j hj=>absurd hj (Nat.not_lt_zero _)⟩
 | v::vs,_,_,r=>by
  cases r with
  | cons r1 r2 =>
   obtain⟨h1,h2⟩:=cb8 r2
   refine⟨by rw[List.length_cons,List.length_cons,h1],fun j hj=>?_⟩
   cases j with
   | zero=>exact⟨_,r1⟩
   | succ j=>exact h2 j (by simpa using hj)
theorem aV0{α:Type}(p:α->Bool) (z:α) (l:List α):(List.range l.length).any (fun j=>p (l.getD j z))=l.any p:=by
 rw[Bool.eq_iff_iff,List.any_eq_true,List.any_eq_true]
 constructor
 ·rintro⟨j,hj,h⟩
  have hj:=List.mem_range.mp hj
  exact⟨l[j],List.getElem_mem hj,by simpa [hj] using h⟩
 ·rintro⟨x,hx,h⟩
  obtain⟨j,hj,rfl⟩:=List.getElem_of_mem hx
  exact⟨j,List.mem_range.mpr hj,by simpa [hj] using h⟩
theorem bp0(hu:X.A.units+64 < cLine) (sx:SeqAt.shaped x=true) (dx:x.depth<=60) (sd:ds.all SeqAt.shaped=true) (I:L2.Inv X pins σ H s) (rx:C5 vx v) (ss:B2 Hf H) (r1:Rep X.K Hf x vx) (h2:SqT X.K Hf p vs) (h3:Reps X.K Hf ds vs) :
  ∃its:List Value,IsTup s.heap p its.toArray/\its.length=ds.length/\∀j (h:j < its.toArray.size),SeqAt.EqAt X.A.in1 s its.toArray[j] v (PyData.eqv (ds.getD j .none) x):=by
 obtain⟨its,rv,pl,_⟩:=I.tuple (B6 ss h2)
 obtain⟨as,rd⟩:=Rep.reads I (r1.mono ss) rx
 obtain⟨bs,ra⟩:=Reps.reads I (h3.mono ss) rv
 obtain⟨e1,e2⟩:=cb8 ra
 refine⟨its,pl,e1,fun j hj=>?_⟩
 have hj':j < its.length:=by simpa using hj
 obtain⟨cs,q⟩:=e2 j hj'
 have hd:j < ds.length:=by grind
 have sj:=List.all_eq_true.mp sd _ (List.getElem_mem hd)
 have ej:ds.getD j .none=ds[j]:=by simp[hd]
 rw[ej]at q ⊢
 have:=SeqAt.eqAt_reads ds[j] x X.A.in1 s _ _ _ _ q rd (SeqAt.canLay_of_shaped sj) (SeqAt.canLay_of_shaped sx) (by show X.A.units+1+_ < _;have:=Nat.min_le_right ds[j].depth x.depth;grind)
 simpa using this
theorem bh5(hu:X.A.units+64 < cLine) (sx:SeqAt.shaped x=true) (dx:x.depth<=60) (sd:ds.all SeqAt.shaped=true) (I:L2.Inv X pins σ H s) (rx:C5 vx v) (ry:C5 vy u) (ss:B2 Hf H) (r1:Rep X.K Hf x vx) (r2:Rep X.K Hf (.tuple ds) vy) :
  (Q (.bool (ds.any fun y=>PyData.eqv y x)) s->wpAny (model X.prog X.w) X.A (compareOp .In v u) Q X.xe s)/\(Q (.bool (!(ds.any fun y=>PyData.eqv y x))) s->wpAny (model X.prog X.w) X.A (compareOp .NotIn v u) Q X.xe s):=by
 obtain⟨p,vs,rfl,h2,h3⟩:=r2
 obtain rfl:u=Value.ref p:=ry
 obtain⟨its,pl,ln,he⟩:=bp0 hu sx dx sd I rx ss r1 h2 h3
 obtain⟨⟨cls,dd,data,sl⟩,ho,hc,n,hd⟩:=id pl
 simp only at hc hd
 subst hc hd
 have ea:(List.range its.toArray.size).any (fun j=>PyData.eqv (ds.getD j .none) x)=ds.any fun y=>PyData.eqv y x:=by
  rw[List.size_toArray,ln]
  exact aV0 (fun y=>PyData.eqv y x) .none ds
 refine⟨fun q=>SeqRoads2.in_meets ⟨_,ho,rfl⟩ F.slot_tuple_contains F.entry_tuple_contains (F.args_tuple_contains_2 _ _) (ai7 p its.toArray n dd sl v _) ⟨ho,he,_,rfl,by rw[ea];exact q⟩,
  fun q=>SeqRoads2.notIn_meets ⟨_,ho,rfl⟩ F.slot_tuple_contains F.entry_tuple_contains (F.args_tuple_contains_2 _ _) (ai7 p its.toArray n dd sl v _) ⟨ho,he,_,rfl,by rw[ea];exact q⟩⟩
theorem bh7{op:CmpOp}{neg:Bool}(o:OpR X (compareOp op) (rIn X.K neg)) (o2:∀x ds,i5 x=false->SeqAt.shaped x=true->ds.all isS=true->OpR X (compareOp op) (fun vx vy H Q=>∃Hf,B2 Hf H/\Rep X.K Hf x vx/\Rep X.K Hf (.tuple ds) vy/\∀v H' Hf',Grow H Hf H' Hf'->Rep X.K Hf' (.bool neg) v->Q v H'))
  (o3:∀x ds,SeqAt.shaped x=true->x.depth<=60->ds.all SeqAt.shaped=true->OpR X (compareOp op) (fun vx vy H Q=>∃Hf,B2 Hf H/\Rep X.K Hf x vx/\Rep X.K Hf (.tuple ds) vy/\∀v H' Hf',Grow H Hf H' Hf'->Rep X.K Hf' (.bool (if neg then !(ds.any fun y=>PyData.eqv y x) else ds.any fun y=>PyData.eqv y x)) v->Q v H')):OpD X (compareOp op) (inD neg):=fun x y z h=>by
 unfold inD at h
 split at h
 ·split at h
  ·rename_i c
   cases h
   refine OpR.imp o fun vx vy H Q ⟨Hf,s,r1,r2,k⟩=>?_
   obtain⟨p,vs,rfl,h2,h3⟩:=r2
   obtain⟨e1,e2⟩:=W8 c.1 r1
   obtain⟨e3,e4⟩:=ac8 c.2 h3
   subst e1 e3
   exact⟨p,_,rfl,.inl (D6 s h2),e2,e4,k _ H Hf (Grow.refl s) rfl⟩
  ·cases h
 ·split at h
  ·rename_i c
   cases h
   refine OpR.imp o fun vx vy H Q ⟨Hf,s,r1,r2,k⟩=>?_
   obtain⟨p,vs,rfl,h2,h3⟩:=r2
   obtain⟨e1,e2⟩:=W8 c.1 r1
   obtain⟨e3,e4⟩:=ac8 c.2 h3
   subst e1 e3
   exact⟨p,_,rfl,.inr (B6 s h2),e2,e4,k _ H Hf (Grow.refl s) rfl⟩
  ·split at h
   ·rename_i c
    cases h
    exact o2 _ _ c.1 c.2.1 c.2.2
   ·split at h
    ·rename_i c
     cases h
     exact o3 _ _ c.1 c.2.1 c.2.2
    ·cases h
 ·cases h
theorem cd7(hu:X.A.units+64 < cLine):OpD X (compareOp .In) (inD false):=bh7 aR2 (fun x ds f sh a pins s σ H vx vy v u Q I rx ry ⟨Hf,ss,r1,r2,k⟩=>(bh6 hu f sh a I rx ry ss r1 r2).1 ⟨.bl false,H,I,rfl,k _ H Hf (Grow.refl ss) rfl⟩)
 fun x ds sx dx sd pins s σ H vx vy v u Q I rx ry ⟨Hf,ss,r1,r2,k⟩=>(bh5 hu sx dx sd I rx ry ss r1 r2).1 ⟨.bl _,H,I,rfl,k _ H Hf (Grow.refl ss) rfl⟩
theorem bc6(hu:X.A.units+64 < cLine):OpD X (compareOp .NotIn) (inD true):=bh7 as0 (fun x ds f sh a pins s σ H vx vy v u Q I rx ry ⟨Hf,ss,r1,r2,k⟩=>(bh6 hu f sh a I rx ry ss r1 r2).2 ⟨.bl true,H,I,rfl,k _ H Hf (Grow.refl ss) rfl⟩)
 fun x ds sx dx sd pins s σ H vx vy v u Q I rx ry ⟨Hf,ss,r1,r2,k⟩=>(bh5 hu sx dx sd I rx ry ss r1 r2).2 ⟨.bl _,H,I,rfl,k _ H Hf (Grow.refl ss) rfl⟩
end
end G
namespace G
open PySem PySem.Spec PyProof.Rows L2
section
variable {X:Cx}
theorem bh0(Fk:FnOk X.prog X.w X.K X.mg X.base CX0 k f fd ps (spF X.K 0 F)) (hr:Room k X.A) (hg:Gl X x) (hm:X.mg x=some (.ref f)) (hk:PySem.W.keepIn X.K (.ref f)=true) (hb:N7 X.K fd ps [])
  (hdb:(x==("__debug__" : Str))=false:=by decide):JE X (.Call (.Name x p) [] [] pos) (B0 F A8):=fun ρ d q=>by
 have h2:F []=some d:=q
 refine A5 (bb2 Fk hr hg hm hk hb .nil aa0 hdb) fun σ H Q ⟨H0,Hf,s,sl,kk⟩=>?_
 exact⟨rfl,Hf,[],d,s,rfl,h2,fun v H2 Hf2 g2 r2=>kk v H2 Hf2 g2 r2⟩
end
end G
namespace G
open PySem PySem.Spec PyProof.Rows L2
noncomputable def ap7(K:PySem.W.Frag):List D->List Value->Prop
 | [],us=>us=[]
 | d::ds,us=>∃u r,us=u::r/\aH4 K d u/\ap7 K ds r
section
variable {K:PySem.W.Frag}
theorem aS1:ap7 K [] []:=rfl
theorem ak7(h:aH4 K d u) (t:ap7 K ds us):ap7 K (d::ds) (u::us):=⟨u,us,rfl,h,t⟩
theorem ao3:∀{ds:List D}{us:List Value},ap7 K ds us->∃vs,C1 vs us/\∀H:Hp,Reps K H ds vs
 | [],_,h=>by cases h;exact⟨[],.nil,fun _=>rfl⟩
 | d::ds,_,⟨u,r,e,⟨v,h1,h2⟩,h3⟩=>by
  subst e
  obtain⟨vs,q1,q2⟩:=ao3 h3
  exact⟨v::vs,.cons h1 q1,fun H=>⟨v,vs,rfl,h2 H,q2 H⟩⟩
theorem az0(i:Int) (t:Tok):aH4 K (.int i) (.int i t):=⟨.int i,⟨t,rfl⟩,fun _=>rfl⟩
theorem be9(h:K.lookup a=some o) (hc:o.cls=.type "tuple") (hn:o.dict=none) (hd:o.data=.seq its n) (hz:its.size<=1000) (hi:ap7 K ds its.toList):aH4 K (.tuple ds) (.ref a):=by
 obtain⟨vs,q1,q2⟩:=ao3 hi
 exact⟨.ref a,rfl,fun H=>⟨a,vs,rfl,.inr ⟨o,its,n,h,hc,hn,hd,Nat.le_of_lt (O9 hz),q1⟩,q2 H⟩⟩
end
end G
namespace G
open PySem PySem.Spec PyProof.Rows L2
theorem ax8(l:Addr) (items:Array Value) (n:Nat) (dd:Option Addr) (sl:Array (Option Value)) (u:Tok) :
  Meets (Builtin.«tuple.__mul__» ⟨[.ref l,.int 1 u],[]⟩) (fun _ R s=>s.heap.get? l=some ⟨.type "tuple", dd,.seq items n,sl⟩/\R (.ok (.ret (Value.ref l))) s) :=
 .of_wp fun prog w A R s h=>by
  obtain⟨hp,g,d,tk,os⟩:=s
  obtain⟨hl,h⟩:=h
  wp_walk
  exact⟨_,rfl,h⟩
section
variable {X:Cx}
theorem bb8:OpR X (binaryOp .Mult) (fun x y H Q=>∃l xs,x=.ref l/\y=.int 1/\SqT X.K H l xs/\Q (.ref l) H):=by
 intro pins s σ H x y v u Q I rx ry h
 obtain⟨l,xs,rfl,rfl,hq,q⟩:=h
 cases rx
 obtain⟨t,rfl⟩:=ry
 obtain⟨its,r,p1,_⟩:=I.tuple hq
 obtain⟨⟨cls,dd,data,sl⟩,ho,hc,n,hd⟩:=id p1
 simp only at hc hd
 subst hc hd
 exact wpAny_binaryOp_repeat_ref (T := "tuple") (U := "int") (by decide) ⟨_,ho,rfl⟩ (fun s'=>typeIs_int s' 1 t) ae7 F.fills_int_mul F.slot_int_rmul an9 F.slot_int_index.lookup
  (call_meets F.slot_int_rmul (typeIs_int s 1 t) F.entry_int_rmul (F.args_int_rmul_2 _ _) (z7 1 t l its.toArray n dd sl) ⟨ho,rfl,⟨_,ho,rfl⟩,
   call_meets F.slot_tuple_mul ⟨_,ho,rfl⟩ F.entry_tuple_mul (F.args_tuple_mul_2 _ _) (ax8 l its.toArray n dd sl t) ⟨ho,⟨.ref l,H,I,rfl,q⟩⟩⟩)
theorem ar0(a:Int) (t:Tok) (l:Addr) (items:Array Value) (n:Nat) (dd:Option Addr) (sl:Array (Option Value)) :
  Meets (Builtin.«int.__rmul__» ⟨[.int a t,.ref l],[]⟩) (fun _ R s=>s.heap.get? l=some ⟨.type "list", dd,.seq items n,sl⟩/\R (.ok (.ret Value.notImplemented)) s):=Meets.of_wp fun prog w A R s h=>by
 obtain⟨hp,g,d,tk,os⟩:=s
 obtain⟨hl,h⟩:=h
 wp_walk
 exact⟨_,rfl,h⟩
theorem ay0(l:Addr) (items:Array Value) (n:Nat) (dd:Option Addr) (sl:Array (Option Value)) (x:Int) (u:Tok) (c0:¬(!Builtin.List.listFitsIndex x)=true) (c1:¬items.size*x.toNat > (2 ^ 63 - 1) / 8) (c2:¬Builtin.List.listTooLong (items.size*x.toNat)=true) :
  Meets (Builtin.«list.__mul__» ⟨[.ref l,.int x u],[]⟩) (fun _ R s=>s.heap.get? l=some ⟨.type "list", dd,.seq items n,sl⟩/\R (.ok (.ret (Value.ref s.heap.objs.size))) { s with heap:=s.heap.push { cls:=Value.type "list", data:=Data.seq (List.foldl (fun x1 x2=>x1++x2) #[] (List.replicate (if items.isEmpty=true then 0 else x.toNat) items)) } }):=Meets.of_wp fun prog w A R s h=>by
 obtain⟨hp,g,d,tk,os⟩:=s
 obtain⟨hl,h⟩:=h
 have hsz:=AutoListH.joined_fits c2
 wp_walk
 refine wpAny_ite_false (decide_eq_false (Nat.not_lt.mpr hsz)) ?_
 wp_walk
 exact⟨_,rfl,h⟩
theorem bt8:OpR X (binaryOp .Mult) (fun x y H Q=>∃l k xs,x=.ref l/\y=.int k/\SqL X.K H l xs/\0<=k/\k < 1000000/\xs.length*k.toNat<=sizeLine/\∀p,H p=none->Q (.ref p) (upd H p (.lst (List.replicate k.toNat xs).flatten))):=by
 intro pins s σ H x y v u Q I rx ry h
 obtain⟨l,k,xs,rfl,rfl,hq,h1,h2,hz,q⟩:=h
 cases rx
 obtain⟨t,rfl⟩:=ry
 obtain⟨its,r,p1,_⟩:=I.list hq
 obtain⟨⟨cls,dd,data,sl⟩,ho,hc,n,hd⟩:=p1.isList
 simp only at hc hd
 subst hc hd
 have hl:=r.length
 have hlen:its.toArray.size*k.toNat<=sizeLine:=by rw[List.size_toArray,← hl];exact hz
 have hcap:¬its.toArray.size*k.toNat > (2 ^ 63 - 1) / 8:=by
  have:(sizeLine:Nat)<=(2 ^ 63 - 1) / 8:=by decide
  grind
 have hfit:¬(!Builtin.List.listFitsIndex k)=true:=by
  rw[fitsIndex_both (by grind) (by grind)];exact Bool.false_ne_true
 have hlong:¬Builtin.List.listTooLong (its.toArray.size*k.toNat)=true:=by
  rw[f7 hlen];exact Bool.false_ne_true
 have hnew:List.foldl (fun x1 x2=>x1++x2) #[] (List.replicate (if its.toArray.isEmpty=true then 0 else k.toNat) its.toArray)=(List.replicate k.toNat its).flatten.toArray:=by
  rw[aE0]
  cases its with
  | nil=>simp
  | cons a r'=>rw[if_neg (by simp)]
 refine wpAny_binaryOp_repeat_ref (T := "list") (U := "int") (by decide) ⟨_,ho,rfl⟩ (fun s'=>typeIs_int s' k t) noFill_list_mul F.fills_int_mul F.slot_int_rmul repeat_list F.slot_int_index.lookup
  (call_meets F.slot_int_rmul (typeIs_int s k t) F.entry_int_rmul (F.args_int_rmul_2 _ _) (ar0 k t l its.toArray n dd sl) ⟨ho,rfl,⟨_,ho,rfl⟩,
   call_meets F.slot_list_mul ⟨_,ho,rfl⟩ F.entry_list_mul (F.args_list_mul_2 _ _) (ay0 l its.toArray n dd sl k t hfit hcap hlong) ⟨ho,?_⟩⟩)
 rw[hnew]
 exact⟨.ref _,_,I.lnew (t':=s.toks) (r.rep k.toNat) (by rw[as7,Nat.mul_comm];exact hz),rfl,q _ I.fresh⟩
noncomputable def U4(x y:D):Option D:=match x,y with
 | .tuple xs,.int k=>if k=1 then some (.tuple xs) else T8 (.tuple xs) (.int k)
 | .list xs,.int k=>if 0<=k/\k < 1000000/\xs.length*k.toNat<=16777216 then some (.list (List.replicate k.toNat xs).flatten) else none
 | x,y=>T8 x y
theorem aL4:OpD X (binaryOp .Mult) U4:=fun x y z h=>by
 unfold U4 at h
 split at h
 ·split at h
  ·rename_i xs k c
   subst c
   cases h
   refine OpR.imp bb8 fun vx vy H Q ⟨Hf,s,r1,r2,kk⟩=>?_
   obtain⟨a,vs,rfl,h2,h3⟩:=r1
   exact⟨a,vs,rfl,r2,B6 s h2,kk _ _ _ (Grow.refl s) ⟨a,vs,rfl,h2,h3⟩⟩
  ·exact as4 _ _ z h
 ·split at h
  ·rename_i xs k c
   cases h
   refine OpR.imp bt8 fun vx vy H Q ⟨Hf,s,r1,r2,kk⟩=>?_
   obtain⟨a,vs,rfl,h2,h3⟩:=r1
   refine⟨a,k,vs,rfl,r2,D6 s h2,c.1,c.2.1,by rw[h3.length,sizeLine_eq];exact c.2.2,fun p hp=>?_⟩
   exact kk _ _ _ (Grow.laid s hp) ⟨p,_,rfl,SqL.of A3,(h3.flatten k.toNat).mono (C4 (s.free hp))⟩
  ·cases h
 ·exact as4 _ _ z h
theorem al8(i j:Int):Q3 (.int i) (.int j)=some (.int (i+j)):=rfl
noncomputable def ch7(f:Rho->Option (Bool×List D)) (lo hi:Rho->Option (Option Int)):DE:=fun ρ=>(f ρ).bind fun q=>(lo ρ).bind fun l=>(hi ρ).bind fun h=>if q.1=true then none else some (.list (l8 q.2 l h))
theorem bS5{a:Expr}{lo hi:Option Expr}{f:Rho->Option (Bool×List D)}{l h:Rho->Option (Option Int)}{pos p2:Pos}(ha:JQ X a f) (hl:JO X lo l) (hh:JO X hi h):JE X (.Subscript a (.Slice lo hi none p2) pos) (ch7 f l h):=fun ρ d q=>by
 obtain⟨⟨t,xs⟩,e1,q⟩:=xbm q
 obtain⟨y,e2,q⟩:=xbm q
 obtain⟨z,e3,q⟩:=xbm q
 cases t with
 | true=>simp at q
 | false =>
  simp only[Bool.false_eq_true,if_false]at q
  cases q
  refine A5 (f6 aJ1 (ha ρ _ _ e1) (hl ρ y e2) (hh ρ z e3)) fun σ H Q ⟨H0,Hf,s,sl,k⟩=>?_
  refine⟨H0,Hf,s,sl,fun v H1 Hf1 g1 ⟨p,vs,q1,q2,q3⟩=>⟨H0,Hf1,g1.sub,sl.grow g1,fun H2 Hf2 g2=>⟨H0,Hf2,g2.sub,sl.grow (g1.trans g2),fun H3 Hf3 g3=>?_⟩⟩⟩
  subst q1
  have q3':=q3.mono (g2.trans g3).ext
  refine⟨p,vs,rfl,D6 (g2.trans g3).big q2,fun p' hp=>?_⟩
  exact k _ _ _ (((g1.trans g2).trans g3).trans (Grow.laid g3.sub hp)) ⟨p',_,rfl,SqL.of A3,(z8 q3' y z).mono (C4 (g3.sub.free hp))⟩
noncomputable def F0:DS:=fun _=>none
theorem B7{st:Stmt}:JS X st F0:=fun ρ fl q=>by cases q
noncomputable def aP7(f:DE):Rho->Option Bool:=fun ρ=>(f ρ).bind i7
theorem bf4(o1:OpD X (compareOp op) h1) (o2:OpD X (compareOp op') h2) (ha:JE X a f) (hb:JE X b g) (hc:JE X c k)
  (hm:lastMarks [op,op'] [b,c]=false:=by with_unfolding_all rfl):JT X (.Compare a [op,op'] [b,c] pos) (aP7 (al5 h1 h2 f g k)):=fun ρ d q=>by
 obtain⟨dd,q,ed⟩:=xbm q
 have ed:=aO1 ed
 subst ed
 obtain⟨x,e1,q⟩:=xbm q
 obtain⟨y,e2,q⟩:=xbm q
 obtain⟨z,e3,q⟩:=xbm q
 split at q
 ·obtain⟨w,e4,e5⟩:=xbm q
  refine W4 (aw6 (o1 x y _ e3) (o2 y w _ e5) (ha ρ x e1) (hb ρ y e2) (hc ρ w e4) hm) fun σ H Q ⟨H0,Hf,s,sl,kk⟩=>?_
  refine⟨H0,Hf,s,sl,fun v H1 Hf1 g1 r1=>⟨H0,Hf1,g1.sub,sl.grow g1,fun u H2 Hf2 g2 r2=>⟨Hf2,g2.sub,r1.mono g2.ext,r2,fun z' H3 Hf3 g3 r3=>?_⟩⟩⟩
  refine⟨true,r3,i4 ⟨H0,Hf3,g3.sub,sl.grow ((g1.trans g2).trans g3),fun w' H4 Hf4 g4 r4=>⟨Hf4,g4.sub,r2.mono (g3.trans g4).ext,r4,fun z2 H5 Hf5 g5 r5=>?_⟩⟩⟩
  exact⟨d,r5,kk H5 Hf5 ((((g1.trans g2).trans g3).trans g4).trans g5)⟩
 ·cases q
  intro pins s σ H Q I ⟨H0,Hf,ss,sl,kk⟩
  refine aw6 (tc:=fun _ _ _=>False) (r':=fun _ _ _ _=>False) (o1 x y _ e3) (fun _ _ _ _ _ _ _ _ _ _ _ _ h=>h.elim) (ha ρ x e1) (hb ρ y e2) (fun _ _ _ _ _ _ h=>h.elim) hm pins s σ H Q I ?_
  refine⟨H0,Hf,ss,sl,fun v H1 Hf1 g1 r1=>⟨H0,Hf1,g1.sub,sl.grow g1,fun u H2 Hf2 g2 r2=>⟨Hf2,g2.sub,r1.mono g2.ext,r2,fun z' H3 Hf3 g3 r3=>?_⟩⟩⟩
  exact⟨false,r3,l6 ⟨false,rfl,kk H3 Hf3 ((g1.trans g2).trans g3)⟩⟩
 ·cases q
end
end G
namespace G
open PySem PySem.Spec PyProof.Rows L2
section
variable {prog:Program}{w:World}{A:Around}{E:Value->Shared->Prop}{s:Shared}{t:Bool}
end
section
variable {X:Cx}
end
end G
namespace G
open PySem PySem.Spec PyProof.Rows L2
section
variable {prog:Program}{w:World}{A:Around}{E:Value->Shared->Prop}{s:Shared}
theorem aj2{l b sl:Addr}{items new:Array Value}{n n2:Nat}{vl vu:Value}{lo hi:Option Int}{Q:Unit->Shared->Prop}
    (e:s.heap.get? l=some { cls:=.type "list", data:=.seq items n }) (e2:s.heap.get? b=some { cls:=.type "list", data:=.seq new n2 }) (hne:l≠b)
    (hs:s.heap.IsSliceOf sl vl vu .none) (pl:IsPart vl lo) (pu:IsPart vu hi) (hsz:items.size+new.size<=sizeLine)
    (h:Q () { s with heap:=s.heap.update l (Obj.mapSeq fun xs=>xs.extract 0 (HT.sIx items.size 0 lo)++new++xs.extract (max (HT.sIx items.size 0 lo) (HT.sIx items.size items.size hi)) xs.size) }) :
    wpAny (model prog w) A (setItem (.ref l) (.ref sl) (.ref b)) Q E s:=by
  have hl:s.heap.IsList l items:=PySem.IsL.isList e
  have hb:s.heap.IsList b new:=PySem.IsL.isList e2
  obtain⟨os,hos,hcs,hds⟩:=id hs
  have hTs:s.TypeIs (.ref sl) "slice" := ⟨os,hos,hcs⟩
  have hstep:¬((rawPart none==rawInt 0)=true):=Bool.false_ne_true
  have hsame:Builtin.List.listSameRef (.ref l) (.ref b)=false:=by
    unfold Builtin.List.listSameRef
    exact beq_eq_false_iff_ne.mpr hne
  have hbd:sliceBounds lo hi none items.size=(((HT.sIx items.size 0 lo:Nat):Int),((HT.sIx items.size items.size hi:Nat):Int),1):=by
    obtain⟨h1,h2,h3⟩:=x5 lo hi items.size
    exact Prod.ext h1 (Prod.ext h2 h3)
  have hmax:(max ((HT.sIx items.size 0 lo:Nat):Int) ((HT.sIx items.size items.size hi:Nat):Int)).toNat=max (HT.sIx items.size 0 lo) (HT.sIx items.size items.size hi):=by grind
  have hz':((fun xs:Array Value=>xs.extract 0 (HT.sIx items.size 0 lo)++new++xs.extract (max (HT.sIx items.size 0 lo) (HT.sIx items.size items.size hi)) xs.size) items).size<=sizeLine+1:=by
    simp only[Array.size_append,Array.size_extract]
    grind
  unfold setItem
  try with_reducible refine wpAny_holding ?_
  first|refine wpAny_bind (wpAny_pure ?_)|skip
  refine wpAny_bind (wpAny_sequenceKey hl.typeIs (by decide) ?_)
  refine wpAny_bind (wpAny_callSpecial?_slot (name:=Str.ofString "__setitem__") hl.typeIs slot_list_setitem (wpAny_call_entry slot_list_setitem hl.typeIs entry_list_setitem ?_ (args_list_setitem _ _ _)))
  show wpAny _ _ (Builtin.List.listSubscript? (.ref sl) >>= _) _ _ s
  refine wpAny_bind ?_
  unfold Builtin.List.listSubscript?
  refine wpAny_bind (wpAny_specialOf hTs slice_no_index ?_)
  simp only[Option.isNone_none,if_true]
  refine wpAny_pure ?_
  show wpAny _ _ (typeOf (.ref sl) >>= _) _ _ s
  refine wpAny_bind (wpAny_typeOf hTs ?_)
  first
    | rw[if_neg (by decide)]
    | refine PySem.W.KFB.if_not (by decide) ?_
  rw[listSliceParts_eq]
  refine wpAny_bind (wpAny_bind (wpAny_field hos hds (x:=.none) rfl (wpAny_bind (wpAny_listPart .none ?_))))
  rw[if_neg hstep]
  refine wpAny_bind (wpAny_field hos hds (x:=vl) rfl (wpAny_bind (wpAny_listPart pl ?_)))
  refine wpAny_bind (wpAny_field hos hds (x:=vu) rfl (wpAny_bind (wpAny_listPart pu (wpAny_pure ?_))))
  first
    | simp only[hsame,Bool.false_eq_true,if_false]
    | refine PySem.W.KFB.if_not hsame ?_
    | (dsimp only
       rw[if_neg (by rw[hsame];exact Bool.false_ne_true)])
  refine wpAny_bind (m:=Builtin.List.listAllItems (.ref b) "must assign iterable to extended slice") ?_
  unfold Builtin.List.listAllItems
  refine wpAny_bind (wpAny_typeOf hb.typeIs ?_)
  first
    | refine PySem.W.KFB.if_so (by decide) ?_
    | rw[if_pos (by decide)]
    | simp only[beq_self_eq_true,Bool.true_or,if_true]
  unfold Builtin.List.listItems
  refine wpAny_bind (wpAny_seqItems e2 rfl (wpAny_pure ?_))
  refine wpAny_bind (wpAny_bind (wpAny_seqItems e rfl (wpAny_pure ?_)))
  refine wpAny_bind (wpAny_of_eq ((sliceIndices_raw lo hi none items.size (by simp)).trans (congrArg (pure:Int×Int×Int->Sem (Int×Int×Int)) hbd)) ?_)
  show wpAny _ _ (if((1:Int)==1)=true then _ else _) _ _ s
  rw[if_pos (by decide)]
  refine wpAny_bind (wpAny_rule ?_)
  first
    | simp only[f7 hsz,Bool.false_eq_true,if_false]
    | refine PySem.W.KFB.if_not (f7 hsz) ?_
  first|refine wpAny_bind (wpAny_pure ?_)|skip
  show wpAny _ _ (updateSeq l (fun xs=>xs.extract 0 (((HT.sIx items.size 0 lo:Nat):Int)).toNat++new++xs.extract (max ((HT.sIx items.size 0 lo:Nat):Int) ((HT.sIx items.size items.size hi:Nat):Int)).toNat xs.size) >>= _) _ _ s
  rw[hmax,Int.toNat_natCast]
  refine wpAny_bind (wpAny_updateSeq (hz:=Nat.le_trans (Nat.le_add_right _ _) hsz) (_hz':=hz') e rfl ?_)
  refine wpAny_bind (wpAny_letGo ?_)
  first
    | exact wpAny_bind (wpAny_pure (wpAny_pure ⟨.none,rfl,wpAny_pure h⟩))
    | exact wpAny_pure ⟨.none,rfl,wpAny_pure h⟩
end
section
variable {X:Cx}
noncomputable def aw1{α:Type}(xs:List α) (lo hi:Option Int) (ys:List α):List α:=xs.take (HT.sIx xs.length 0 lo)++ys++xs.drop (max (HT.sIx xs.length 0 lo) (HT.sIx xs.length xs.length hi))
theorem aD6{pins:List (Addr×Obj)}{s:Shared}{σ:L2.St}{H:Hp}{l b sl:Addr}{xs ys:List V}{lo hi:Option Int}{vl vu:Value}{Q:Unit->Shared->Prop}(I:Inv X pins σ H s)
  (hH:H l=some (.lst xs)) (hB:H b=some (.lst ys)) (hne:l≠b) (hs:s.heap.IsSliceOf sl vl vu .none) (pl:IsPart vl lo) (pu:IsPart vu hi)
  (hz:xs.length+ys.length<=sizeLine) (h:∀s',Inv X pins σ (upd H l (.lst (aw1 xs lo hi ys))) s'->Q () s') :
  wpAny (model X.prog X.w) X.A (setItem (.ref l) (.ref sl) (.ref b)) Q X.xe s:=by
 obtain⟨z,its,n,r,hl,e⟩:=I.lstM hH
 obtain⟨z2,its2,n2,r2,hl2,e2⟩:=I.lstM hB
 refine aj2 e e2 hne hs pl pu (by rw[List.size_toArray,List.size_toArray];grind) (h _ ?_)
 have hz0:its.toArray.size=xs.length:=by rw[List.size_toArray];exact hl.symm
 refine I.lset (its':=its.take (HT.sIx xs.length 0 lo)++its2++its.drop (max (HT.sIx xs.length 0 lo) (HT.sIx xs.length xs.length hi))) (t':=s.toks) hH e ?_ (C1.append (C1.append (r.take _) r2) (r.drop _)) ?_
 ·have e0:=aQ2 its its2 (HT.sIx xs.length 0 lo) (max (HT.sIx xs.length 0 lo) (HT.sIx xs.length xs.length hi))
  rw[hz0]at e0 ⊢
  exact e0
 ·unfold aw1
  rw[List.length_append,List.length_append,List.length_take,List.length_drop]
  grind
theorem aY7{K:PySem.W.Frag}{H:Hp}{ds es:List D}{vs us:List V}(h:Reps K H ds vs) (g:Reps K H es us) (lo hi:Option Int):Reps K H (aw1 ds lo hi es) (aw1 vs lo hi us):=by
 unfold aw1
 rw[h.length]
 exact((h.take _).append g).append (h.drop _)
theorem Slots.reOwn{K:PySem.W.Frag}{H0 H Hf:Hp}{ρ:Rho}{σ:L2.St}{i:Nat}{ds ds':List D}{b:Addr}{vs':List V}(sl:Slots K H0 ρ σ H Hf) (eo:ρ[i]? = some (some (.own ds))) (h1:σ[i]? = some (some (.ref b))) (hf:Hf b=none) (h0:H0 b=none) (r:Reps K Hf ds' vs') :
  Slots K H0 (ρ.set i (some (.own ds'))) σ (upd H b (.lst vs')) Hf:=by
 refine⟨by simpa using sl.len,fun j bb z=>?_,fun j k ds1 es c q1 q2 q3 q4=>?_⟩
 ·by_cases qj:i=j
  ·subst qj
   have hi:i < ρ.length:=(List.getElem?_eq_some_iff.mp eo).1
   rw[List.getElem?_set_self hi]at z
   cases z
   exact⟨_,h1,b,vs',rfl,A3,hf,h0,r⟩
  ·rw[List.getElem?_set_ne qj]at z
   obtain⟨u,z1,z2⟩:=sl.is j bb z
   refine⟨u,z1,?_⟩
   cases bb with
   | val d=>exact z2
   | exc C=>exact z2
   | opq _=>exact z2
   | own dd =>
    obtain⟨a',us',y1,y2,y3,y4,y5⟩:=z2
    have ne:a'≠b:=fun zz=>by
     subst zz y1
     exact qj (sl.apart i j ds dd a' eo z h1 z1)
    exact⟨a',us',y1,by rw[A4 ne];exact y2,y3,y4,y5⟩
 ·have f:∀(j:Nat) (es:List D),(ρ.set i (some (B.own ds')))[j]? = some (some (B.own es))->∃dd:List D,ρ[j]? = some (some (B.own dd)):=fun j es q=>by
   by_cases qj:i=j
   ·subst qj;exact⟨ds,eo⟩
   ·rw[List.getElem?_set_ne qj]at q;exact⟨_,q⟩
  obtain⟨d1,q1'⟩:=f j _ q1
  obtain⟨d2,q2'⟩:=f k _ q2
  exact sl.apart j k d1 d2 c q1' q2' q3 q4
noncomputable def cb4(i:Nat) (lo hi:Rho->Option (Option Int)) (f:Rho->Option (List D)):DS:=fun ρ=>(f ρ).bind fun es=>(lo ρ).bind fun l=>(hi ρ).bind fun h=>match ρ[i]? with
 | some (some (.own ds))=>if ds.length+es.length<=16777216 then some (.nx (ρ.set i (some (.own (aw1 ds l h es))))) else none
 | _=>none
theorem bQ5(i:Nat) {x:Str}{e:Expr}{lo hi:Option Expr}{f:Rho->Option (List D)}{l h:Rho->Option (Option Int)}{p p2 pos' pos:Pos}(he:JN X e f) (hl:JO X lo l) (hh:JO X hi h) (hN:X.N[i]? = some x:=by rfl)
  (hv:Vis X.env.scope x:=by first|exact Or.inl rfl|exact Or.inr (Or.inl rfl)|exact Or.inr (Or.inr rfl)) (hd:(x==("__debug__" : Str))=false:=by decide) (hcd:(x==("__classdict__" : Str))=false:=by decide)
  (hsw:swapsWith e (some (.Subscript (.Name x p) (.Slice lo hi none p2) pos')) pos.line X.env=pure false:=by rfl):JS X (.Assign [.Subscript (.Name x p) (.Slice lo hi none p2) pos'] e pos) (cb4 i l h f):=fun ρ fl q H0 Hf0=>by
 obtain⟨es,e1,q⟩:=xbm q
 obtain⟨y,e2,q⟩:=xbm q
 obtain⟨z,e3,q⟩:=xbm q
 split at q
 ·rename_i ds eo
  split at q
  ·rename_i hz
   cases q
   intro pins s σ H En I ⟨Hf,a,ee⟩
   refine wpAny_Assign_Subscript (thn (he ρ es e1 pins s σ H (fun v H'=>∃Hf',Grow H Hf H' Hf'/\∃b us,v=.ref b/\H b=none/\H' b=some (.lst us)/\Hf' b=none/\Reps X.K Hf' es us) I ⟨H0,Hf,a.gr.sub,a.sl,fun v H' Hf' g r=>⟨Hf',g,r⟩⟩) fun v s1 ⟨x1,H1,I1,r1,Hf1,g1,b,us,ev,b1,b2,b3,b4⟩=>?_) hsw
   subst ev
   cases r1
   obtain⟨vl0,h1,c,vs,ev,h2,h3,h4,h5⟩:=a.sl.is i _ eo
   subst ev
   refine thn (M4 hN hv hd hcd pins s1 σ H1 (fun v H'=>v=.ref c/\H'=H1) I1 ⟨_,h1,rfl,rfl⟩) fun ov s2 ⟨x2,H2,I2,r2,ex,eH⟩=>?_
   subst ex eH
   cases r2
   have sl1:=a.sl.grow g1
   refine wpAny_Slice (thn (hl ρ y e2 pins s2 σ H2 (fun o H'=>o=y/\∃Hf',Grow H2 Hf1 H' Hf') I2 ⟨H0,Hf1,g1.sub,sl1,fun H' Hf' g=>⟨rfl,Hf',g⟩⟩) fun wl s3 ⟨o3,H3,I3,pl,eo3,Hf3,g3⟩=>?_)
   subst eo3
   have sl3:=sl1.grow g3
   refine thn (hh ρ z e3 pins s3 σ H3 (fun o H'=>o=z/\∃Hf',Grow H3 Hf3 H' Hf') I3 ⟨H0,Hf3,g3.sub,sl3,fun H' Hf' g=>⟨rfl,Hf',g⟩⟩) fun wu s4 ⟨o4,H4,I4,pu,eo4,Hf4,g4⟩=>?_
   subst eo4
   have sl4:=sl3.grow g4
   have gg:Grow H Hf H4 Hf4:=(g1.trans g3).trans g4
   rw[evalPart_none]
   refine wpAny_pure ?_
   have I5:Inv X pins σ H4 { s4 with heap:=s4.heap.push { cls:=.type "slice", data:=.fields #[wl,wu,.none] } }:=I4.kept (t':=s4.toks) fun b ob q=>Heap.get?_push_of_some _ q
   have hc:H4 c=some (.lst vs):=gg.big _ _ h2
   have hb:H4 b=some (.lst us):=(g3.trans g4).big _ _ b2
   have hcb:c≠b:=fun zz=>by subst zz;rw[h2]at b1;cases b1
   have hfc:Hf4 c=none:=gg.nofr h2 h3
   have rd:Reps X.K Hf4 (aw1 ds o3 o4 es) (aw1 vs o3 o4 us):=aY7 (h5.mono gg.ext) (b4.mono (g3.trans g4).ext) _ _
   refine aD6 I5 hc hb hcb (Heap.IsSliceOf.new ..) pl pu (by rw[h5.length,b4.length,sizeLine_eq];exact hz) fun s' I'=>?_
   have ga:=a.gr.trans gg
   refine⟨σ,_,I',ee σ _ Hf4 ⟨⟨fun d u zz=>?_,fun d u zz=>?_,ga.ext,ga.new⟩,sl4.reOwn eo h1 hfc h4 rd⟩ gg.ext⟩
   ·rw[A4 (A9 zz h4)];exact ga.big d u zz
   ·rw[A4 (A9 zz hfc)];exact ga.sub d u zz
  ·cases q
 ·cases q
theorem bw5(i:Nat) (hN:X.N.Nodup) (S:CompSc X N' n caps scope) (hx:∀e s,X.xe e s->False)
  (hi:JI X tgt iter src) (hg:∀C s0 H0 ex,JG (C2 X N' scope C s0 H0 ex) tgt g) (ht:∀C s0 H0 ex,JTs (C2 X N' scope C s0 H0 ex) ifs c) (he:∀C s0 H0 ex,JE (C2 X N' scope C s0 H0 ex) elt e)
  (hi2:X.N[i]? = some x:=by rfl) (hl:X.env.scope.names.lookup x=some .local:=by rfl) (hsw:swapsWith (.ListComp elt [⟨tgt,iter,ifs,0⟩] scope pos) (some (.Name x pos')) spos.line X.env=pure true:=by rfl)
  (hc:X.calm=true:=by rfl) (hs:∀x,foldedSetIterable iter X.env x=pure x:=by intro _;rfl):JS X (.Assign [.Name x pos'] (.ListComp elt [⟨tgt,iter,ifs,0⟩] scope pos) spos) (aY3 i (P2 n caps src g c e)):=fun ρ fl q H0 Hf0=>by
 obtain⟨out,e1,e2⟩:=Option.map_eq_some_iff.mp q
 subst e2
 obtain⟨ds,e3,k⟩:=u4 (K:=X.K) e1
 refine B5 (aj5 S hx hc hN hi2 hl (hi ρ ds e3) (g:=tgJ X.K g) (tc:=ai8 X.K c) (te:=aH9 X.K e) hg ht (fun C s0 H0 ex pins s σ H Q I ⟨ρ,d,e,t⟩=>he C s0 H0 ex ρ d e pins s σ H Q I t) hsw hs) fun En σ H ⟨Hf,a,ee⟩=>k σ H _ ⟨H0,Hf,a.gr.sub,a.sl,fun v H' Hf' gg ⟨p,vs,z1,z2,z3,z4,z5⟩=>?_⟩
 subst z1
 exact ee _ H' Hf' ⟨a.gr.trans gg,a.sl.setOwn gg (a.gr.big.free z2) z2 z3 z4 z5⟩ gg.ext
noncomputable def bC2:DS:=fun ρ=>some (.ct ρ)
theorem bw6:JS X (.Continue pos) bC2:=fun ρ fl q H0 Hf0=>by
 cases q
 exact B5 aw7 fun En σ H ⟨Hf,a,e⟩=>e σ H Hf a (B2.refl _)
end
end G
namespace G
open PySem PySem.Spec PyProof.Rows L2
section
variable {X:Cx}
noncomputable def br0(x:Str) (k:Int):Str:=if(k==1 || x.length==0)=true then x else⟨(List.replicate k.toNat x.cps).foldl (·++·) #[]⟩
noncomputable def bP1(x y:D):Option D:=match x,y with
 | .str x,.int k=>if 1<=k/\k<=2/\x.length<=1000/\(br0 x k).length<=16777216 then some (.str (br0 x k)) else none
 | _,_=>none
theorem bv0:OpD X (binaryOp .Mult) bP1:=fun x y z h=>by
 unfold bP1 at h
 split at h
 ·split at h
  ·rename_i x k c
   cases h
   intro pins s σ H vx vy v u Q I rx ry ⟨Hf,ss,r1,r2,kk⟩
   cases r1
   cases r2
   obtain⟨t,rfl⟩:=rx
   obtain⟨t2,rfl⟩:=ry
   have w:=kk (.str (br0 x k)) H Hf (Grow.refl ss) rfl
   have k12:k=1\/k=2:=by grind
   refine P.mul_str (by rw[decide_eq_false (by grind),decide_eq_false (by grind)];rfl) (fun _ _=>by rcases k12 with rfl|rfl<;>grind) (fun _ _=>?_) ?_
   ·unfold Builtin.Str.tooLong
    rw[sizeLine_eq]
    refine decide_eq_false ?_
    rcases k12 with rfl|rfl<;>simp<;>grind
   ·rw[if_neg (by grind)]
    unfold br0 at w c
    split
    ·rename_i e
     rw[if_pos e]at w
     exact⟨.str x,H,I,⟨_,rfl⟩,w⟩
    ·rename_i e
     rw[if_neg e]at w c
     exact⟨by rw[sizeLine_eq];exact c.2.2.2,.str _,H,I.tok _,⟨_,rfl⟩,w⟩
  ·cases h
 ·cases h
noncomputable def slS(x:Str) (lo hi:Option Int):Str:=if((1:Int)==1&&(Builtin.Str.strSliceIndices lo hi 1 x.length).length==x.length)=true then x else⟨((Builtin.Str.strSliceIndices lo hi 1 x.length).filterMap (x.cps[·]?)).toArray⟩
noncomputable def ch6(f:DE) (lo hi:Rho->Option (Option Int)):DE:=fun ρ=>(f ρ).bind fun d=>(lo ρ).bind fun l=>(hi ρ).bind fun h=>match d with
 | .str x=>if x.length<=1000/\(slS x l h).length<=16777216 then some (.str (slS x l h)) else none
 | _=>none
theorem aK9(h:IsPart u o):∃p:Option (Int×Tok),u=partValue p/\p.map (·.1)=o:=by
 cases h with
 | none=>exact⟨none,rfl,rfl⟩
 | int i t=>exact⟨some (i,t),rfl,rfl⟩
theorem bq4:SlR X (fun x lo hi H Q=>∃z,x=.str z/\(slS z lo hi).length<=16777216/\Q (.str (slS z lo hi)) H):=by
 intro pins s σ H x v vl vu lo hi sl Q I rx hs pl pu h
 obtain⟨z,rfl,hz,q⟩:=h
 obtain⟨t,rfl⟩:=rx
 obtain⟨pl',rfl,rfl⟩:=aK9 pl
 obtain⟨pu',rfl,rfl⟩:=aK9 pu
 refine⟨"str", _,F.slot_str_getitem.lookup,typeIs_str s z t,wpAny_getItem_str_slice (l:=pl') (u:=pu') (st:=none) hs rfl ?_⟩
 show(if((1:Int)==1&&(Builtin.Str.strSliceIndices (pl'.map (·.1)) (pu'.map (·.1)) 1 z.length).length==z.length)=true then Made.val (.str z t) else Made.str ⟨((Builtin.Str.strSliceIndices (pl'.map (·.1)) (pu'.map (·.1)) 1 z.length).filterMap (z.cps[·]?)).toArray⟩).post _ _
 unfold slS at q hz
 by_cases e:((1:Int)==1&&(Builtin.Str.strSliceIndices (pl'.map (·.1)) (pu'.map (·.1)) 1 z.length).length==z.length)=true
 ·rw[if_pos e]at q ⊢
  exact⟨.str z,H,I,⟨_,rfl⟩,q⟩
 ·rw[if_neg e]at q hz ⊢
  exact⟨by rw[sizeLine_eq];exact hz,.str _,H,I.tok _,⟨_,rfl⟩,q⟩
theorem bS4{a:Expr}{lo hi:Option Expr}{f:DE}{l h:Rho->Option (Option Int)}{pos p2:Pos}(ha:JE X a f) (hl:JO X lo l) (hh:JO X hi h):JE X (.Subscript a (.Slice lo hi none p2) pos) (ch6 f l h):=fun ρ d q=>by
 obtain⟨x,e1,q⟩:=xbm q
 obtain⟨y,e2,q⟩:=xbm q
 obtain⟨z,e3,q⟩:=xbm q
 cases x with
 | str x =>
  simp only at q
  split at q
  ·rename_i c
   cases q
   refine A5 (f6 bq4 (ha ρ _ e1) (hl ρ y e2) (hh ρ z e3)) fun σ H Q ⟨H0,Hf,s,sl,k⟩=>?_
   refine⟨H0,Hf,s,sl,fun v H1 Hf1 g1 r1=>⟨H0,Hf1,g1.sub,sl.grow g1,fun H2 Hf2 g2=>⟨H0,Hf2,g2.sub,sl.grow (g1.trans g2),fun H3 Hf3 g3=>?_⟩⟩⟩
   exact⟨x,r1,c.2,k _ H3 Hf3 ((g1.trans g2).trans g3) rfl⟩
  ·cases q
 | _=>cases q
noncomputable def bJ8(i:Nat) (f:DE):DS:=fun ρ=>match ρ[i]? with
 | some (some (.own ds))=>(f ρ).bind fun d=>match d with
  | .list es=>if ds.length+es.length<=16777216 then some (.nx (ρ.set i (some (.own (ds++es))))) else none
  | .tuple es=>if ds.length+es.length<=16777216 then some (.nx (ρ.set i (some (.own (ds++es))))) else none
  | _=>none
 | _=>none
end
end G
namespace G
open PySem PySem.Spec PyProof.Rows L2
section
variable {X:Cx}
noncomputable def cf0(f g:Rho->Option (Bool×List D)):Rho->Option (List D):=fun ρ=>(f ρ).bind fun p=>(g ρ).bind fun q=>if p.1=false/\q.1=false/\p.2.length+q.2.length<=16777216 then some (p.2++q.2) else none
theorem bR7(ha:JQ X a f) (hb:JQ X b g):JN X (.BinOp a .Add b pos) (cf0 f g):=fun ρ out q=>by
 obtain⟨⟨t1,xs⟩,e1,q⟩:=xbm q
 obtain⟨⟨t2,ys⟩,e2,q⟩:=xbm q
 split at q
 ·rename_i c
  obtain⟨c1,c2,c3⟩:=c
  simp only at c1 c2 c3
  subst c1 c2
  cases q
  refine A5 (bC6 aL3 (ha ρ _ _ e1) (hb ρ _ _ e2)) fun σ H Q ⟨H0,Hf,s,sl,k⟩=>?_
  refine⟨H0,Hf,s,sl,fun v H1 Hf1 g1 ⟨p,vs,z1,z2,z3⟩=>⟨H0,Hf1,g1.sub,sl.grow g1,fun u H2 Hf2 g2 ⟨p',us,z1',z2',z3'⟩=>?_⟩⟩
  subst z1 z1'
  refine⟨p,p',vs,us,rfl,rfl,D6 g2.big z2,z2',by rw[z3.length,z3'.length,sizeLine_eq];exact c3,fun n hn=>?_⟩
  exact k _ _ _ ((g1.trans g2).trans (Grow.made g2.sub hn)) ⟨n,vs++us,rfl,(g1.trans g2).big.free hn,A3,g2.sub.free hn,(z3.mono g2.ext).append z3'⟩
 ·cases q
end
end G
namespace G
open PySem PySem.Spec PyProof.Rows L2
section
variable {X:Cx}
theorem by8(l b:Addr) (xs ys:Array Value) (n m:Nat) (dd:Option Addr) (sl:Array (Option Value)) (h0:¬(!xs.isEmpty&&Builtin.List.listTooLong (xs.size+ys.size))=true) (h1:xs.size<=sizeLine) (h2:xs.size+ys.size<=sizeLine+1) :
  Meets (Builtin.«list.extend» ⟨[.ref l,.ref b],[]⟩) (fun _ R s=>s.heap.get? l=some { cls:=.type "list", data:=.seq xs n }/\s.heap.get? b=some ⟨.type "list", dd,.seq ys m,sl⟩ /\
   R (.ok (.ret Value.none)) { s with heap:=s.heap.update l (Obj.mapSeq fun x=>x++ys),toks:=s.toks }) :=
 .of_wp fun prog w A R s h=>by
  obtain⟨hp,g,d,tk,os⟩:=s
  obtain⟨hl,hb,h⟩:=h
  have f1:=AutoSeq1.idx_int
  have f2:=AutoSeq1.sub_tuple_tuple
  have f3:=AutoSeq1.sub_list_list
  have f4:=AutoSeq1.sub_tuple_list
  have f5:=AutoSeq1.sub_list_tuple
  have hz':(xs++ys).size<=sizeLine+1:=by rw[Array.size_append];exact h2
  wp_walk using (wpAny_updateSeq hl rfl (hz:=h1) (_hz':=hz')),AutoSeq1.wpAny_loadPart' hl,AutoSeq1.wpAny_loadPart' hb
  exact⟨_,rfl,h⟩
theorem by7(l b:Addr) (xs ys:Array Value) (n m:Nat) (dd:Option Addr) (sl:Array (Option Value)) (h0:¬(!xs.isEmpty&&Builtin.List.listTooLong (xs.size+ys.size))=true) (h1:xs.size<=sizeLine) (h2:xs.size+ys.size<=sizeLine+1) :
  Meets (Builtin.«list.extend» ⟨[.ref l,.ref b],[]⟩) (fun _ R s=>s.heap.get? l=some { cls:=.type "list", data:=.seq xs n }/\s.heap.get? b=some ⟨.type "tuple", dd,.seq ys m,sl⟩ /\
   R (.ok (.ret Value.none)) { s with heap:=s.heap.update l (Obj.mapSeq fun x=>x++ys),toks:=s.toks }) :=
 .of_wp fun prog w A R s h=>by
  obtain⟨hp,g,d,tk,os⟩:=s
  obtain⟨hl,hb,h⟩:=h
  have f1:=AutoSeq1.idx_int
  have f2:=AutoSeq1.sub_tuple_tuple
  have f3:=AutoSeq1.sub_list_list
  have f4:=AutoSeq1.sub_tuple_list
  have f5:=AutoSeq1.sub_list_tuple
  have hz':(xs++ys).size<=sizeLine+1:=by rw[Array.size_append];exact h2
  wp_walk using (wpAny_updateSeq hl rfl (hz:=h1) (_hz':=hz')),AutoSeq1.wpAny_loadPart' hl,AutoSeq1.wpAny_loadPart' hb
  exact⟨_,rfl,h⟩
noncomputable def cl6(K:PySem.W.Frag):V->List V->Hp->VK->Prop:=fun x vs H Q=>∃l b xs zs,x=.ref l/\vs=[.ref b]/\H l=some (.lst xs)/\(SqL K H b zs\/SqT K H b zs)/\xs.length+zs.length<=sizeLine/\Q .non (upd H l (.lst (xs++zs)))
theorem be0:MtM X "list.extend" (cl6 X.K):=by
 intro pins s σ H x vs v us Q I rx rv h
 obtain⟨l,b,xs,zs,rfl,rfl,hH,hB,hz,q⟩:=h
 cases rx
 obtain⟨u,rfl,ru⟩:=rv.one
 cases ru
 obtain⟨z,its,n,r,hl,e⟩:=I.lstM hH
 rcases hB with hB|hB
 ·obtain⟨its2,r2,pl,_⟩:=I.list hB
  obtain⟨⟨cls,dd,data,sl⟩,ho,hc,m,hd⟩:=pl.isList
  simp only at hc hd
  subst hc hd
  have hl2:=r2.length
  have hsz:its.toArray.size+its2.toArray.size<=sizeLine:=by rw[List.size_toArray,List.size_toArray];grind
  have hlong:¬(!its.toArray.isEmpty&&Builtin.List.listTooLong (its.toArray.size+its2.toArray.size))=true:=by
   rw[f7 hsz,Bool.and_false];exact Bool.false_ne_true
  refine call_meets F.slot_list_extend ⟨_,e,rfl⟩ F.entry_list_extend (F.args_list_extend_2 _ _) (by8 l b its.toArray its2.toArray n m dd sl hlong (by rw[List.size_toArray];grind) (by grind)) ⟨e,ho,?_⟩
  refine⟨.non,_,I.lset (its':=its++its2) hH e (by simp) (r.append r2) ?_,rfl,q⟩
  rw[List.length_append];grind
 ·obtain⟨its2,r2,pl,_⟩:=I.tuple hB
  obtain⟨⟨cls,dd,data,sl⟩,ho,hc,m,hd⟩:=pl
  simp only at hc hd
  subst hc hd
  have hl2:=r2.length
  have hsz:its.toArray.size+its2.toArray.size<=sizeLine:=by rw[List.size_toArray,List.size_toArray];grind
  have hlong:¬(!its.toArray.isEmpty&&Builtin.List.listTooLong (its.toArray.size+its2.toArray.size))=true:=by
   rw[f7 hsz,Bool.and_false];exact Bool.false_ne_true
  refine call_meets F.slot_list_extend ⟨_,e,rfl⟩ F.entry_list_extend (F.args_list_extend_2 _ _) (by7 l b its.toArray its2.toArray n m dd sl hlong (by rw[List.size_toArray];grind) (by grind)) ⟨e,ho,?_⟩
  refine⟨.non,_,I.lset (its':=its++its2) hH e (by simp) (r.append r2) ?_,rfl,q⟩
  rw[List.length_append];grind
theorem bR1(i:Nat) (h:JE X e f) (hN:X.N[i]? = some x) (hv:Vis X.env.scope x) (hd:(x==("__debug__" : Str))=false)
  (hcd:(x==("__classdict__" : Str))=false) (hline:(apos.endLine==cpos.line)=true) (hs:starEach [e] X.env=[(false,eval e X.env)]) :
  JS X (.Expr (.Call (.Attribute (.Name x p) "extend" apos) [e] [] cpos) pos) (bJ8 i f):=fun ρ fl q H0 Hf0=>by
 unfold bJ8 at q
 split at q
 ·rename_i ds eo
  obtain⟨d,e1,q⟩:=xbm q
  split at q
  ·rename_i es
   split at q
   ·rename_i hz
    cases q
    refine B5 (S3 (ak1 PySem.F.plainAttrs_list PySem.F.slot_list_extend PySem.F.type_list_extend be0 (M4 hN hv hd hcd) (B8 (h ρ _ e1) F6 hs) rfl (by rw[hs];rfl) hline hs) rfl) fun En σ H ⟨Hf,a,ee⟩=>?_
    obtain⟨v,h1,b,vs,rfl,h2,h3,h4,h5⟩:=a.sl.is i _ eo
    refine⟨_,h1,.inl ⟨rfl,vs,SqL.of h2⟩,H0,Hf,a.gr.sub,a.sl,fun w H' Hf' gg r=>?_⟩
    obtain⟨b2,us,rfl,r1,r2⟩:=r
    have hb:H' b=some (.lst vs):=gg.big _ _ h2
    have hfb:Hf' b=none:=gg.nofr h2 h3
    have g2:=a.gr.trans gg
    have sl2:=a.sl.grow gg
    refine⟨b,b2,vs,us,rfl,rfl,hb,.inl (D6 gg.sub r1),by rw[h5.length,r2.length,sizeLine_eq];exact hz,ee _ _ Hf' ⟨⟨fun c u z=>?_,fun c u z=>?_,g2.ext,g2.new⟩,?_⟩ gg.ext⟩
    ·rw[A4 (A9 z h4)];exact g2.big c u z
    ·rw[A4 (A9 z hfb)];exact g2.sub c u z
    ·exact sl2.reOwn eo h1 hfb h4 ((h5.mono gg.ext).append r2)
   ·cases q
  ·rename_i es
   split at q
   ·rename_i hz
    cases q
    refine B5 (S3 (ak1 PySem.F.plainAttrs_list PySem.F.slot_list_extend PySem.F.type_list_extend be0 (M4 hN hv hd hcd) (B8 (h ρ _ e1) F6 hs) rfl (by rw[hs];rfl) hline hs) rfl) fun En σ H ⟨Hf,a,ee⟩=>?_
    obtain⟨v,h1,b,vs,rfl,h2,h3,h4,h5⟩:=a.sl.is i _ eo
    refine⟨_,h1,.inl ⟨rfl,vs,SqL.of h2⟩,H0,Hf,a.gr.sub,a.sl,fun w H' Hf' gg r=>?_⟩
    obtain⟨b2,us,rfl,r1,r2⟩:=r
    have hb:H' b=some (.lst vs):=gg.big _ _ h2
    have hfb:Hf' b=none:=gg.nofr h2 h3
    have g2:=a.gr.trans gg
    have sl2:=a.sl.grow gg
    refine⟨b,b2,vs,us,rfl,rfl,hb,.inr (B6 gg.sub r1),by rw[h5.length,r2.length,sizeLine_eq];exact hz,ee _ _ Hf' ⟨⟨fun c u z=>?_,fun c u z=>?_,g2.ext,g2.new⟩,?_⟩ gg.ext⟩
    ·rw[A4 (A9 z h4)];exact g2.big c u z
    ·rw[A4 (A9 z hfb)];exact g2.sub c u z
    ·exact sl2.reOwn eo h1 hfb h4 ((h5.mono gg.ext).append r2)
   ·cases q
  ·cases q
 ·cases q
end
end G
namespace G
open PySem PySem.Spec PyProof.Rows L2
section
variable {prog:Program}{w:World}{A:Around}{R:Result->Shared->Prop}{J:Addr}{fp wr:List Addr}{Gn:Array GenState->Array GenState->Prop}{n:Nat}{P:Nat->Value->Prop}{St:Nat->Shared->Prop}
end
section
variable {prog:Program}{w:World}{A:Around}{E:Value->Shared->Prop}{s:Shared}
end
end G
namespace G
open PySem PySem.Spec PyProof.Rows L2
section
variable {X:Cx}
end
end G
namespace G
open PySem PySem.Spec PyProof.Rows L2
section
variable {X:Cx}
end
end G
namespace G
open PySem PySem.Spec PyProof PyProof.Rows L2
section
variable {X:Cx}
end
end G
namespace G
open PySem PySem.Spec PyProof.Rows L2
section
variable {prog:Program}{w:World}{A:Around}{E:Value->Shared->Prop}{s:Shared}{t:Bool}
end
section
variable {X:Cx}{pins:List (Addr×Obj)}{σ:L2.St}{A:Around}{t:Bool}{S e it a:Addr}{ws:List V}
end
section
variable {X:Cx}
end
end G
namespace G
open PySem PySem.Spec PyProof.Rows L2
section
open PySem.SeqAt PySem.MeetsSeq PySem.MeetsSeq2 PySem.MeetsSeq3 PySem.SeqRoads2
open PySem.AutoSeq1 (wpAny_loadPart')
end
section
variable {X:Cx}
end
end G
namespace G
open PySem PySem.Spec PyProof.Rows L2
section
variable {X:Cx}
noncomputable def lsB(x:D) (ds:List D):Prop:=SeqAt.shaped x=true/\x.depth<=60/\ds.all SeqAt.shaped=true/\ds.all i5=true
instance (x:D) (ds:List D):Decidable (lsB x ds):=by unfold lsB;exact inferInstance
end
end G
namespace L2
open PySem PySem.Spec PyProof.Rows
section
variable {κ:Type} [DecidableEq κ]
noncomputable def b9(kvs:List (κ×V)) (k:κ):Option V:=(kvs.find? fun kv=>decide (kv.1=k)).map (·.2)
noncomputable def ac9(kvs:List (κ×V)) (k:κ) (v:V):List (κ×V) :=
 if(kvs.any fun kv=>decide (kv.1=k))=true then kvs.map (fun kv=>if kv.1=k then(kv.1,v) else kv) else kvs++[(k,v)]
noncomputable def af3(kvs:List (κ×V)) (k:κ):List (κ×V):=kvs.filter fun kv=>decide (kv.1≠k)
theorem u9{p:κ×V}{r:List (κ×V)}{k:κ}(e:p.1=k):b9 (p::r) k=some p.2:=by simp[b9,List.find?_cons,e]
theorem v7{p:κ×V}{r:List (κ×V)}{k:κ}(e:¬p.1=k):b9 (p::r) k=b9 r k:=by simp[b9,List.find?_cons,e]
theorem av5(k:κ):∀kvs:List (κ×V),(kvs.any fun kv=>decide (kv.1=k))=(b9 kvs k).isSome
 | []=>rfl
 | p::r=>by
  rw[List.any_cons]
  by_cases e:p.1=k
  ·simp only[u9 e,decide_eq_true e,Bool.true_or,Option.isSome_some]
  ·rw[v7 e,decide_eq_false e,Bool.false_or];exact av5 k r
theorem ae9(kvs:List (κ×V)) (k:κ) (v:V):(ac9 kvs k v).length<=kvs.length+1:=by
 unfold ac9
 split
 ·rw[List.length_map];omega
 ·rw[List.length_append,List.length_cons,List.length_nil];omega
theorem Z0.isSome_eq{o:Option V}{u:Option Value}(r:Z0 o u):o.isSome=u.isSome:=by
 cases o with
 | none=>cases u with
  | none=>rfl
  | some _=>exact(show False from r).elim
 | some _=>cases u with
  | none=>exact(show False from r).elim
  | some _=>rfl
theorem Z0.getD{o:Option V}{u:Option Value}{d:V}{d':Value}(r:Z0 o u) (rd:C5 d d'):C5 (o.getD d) (u.getD d'):=by
 cases o with
 | none=>cases u with
  | none=>exact rd
  | some _=>exact(show False from r).elim
 | some _=>cases u with
  | none=>exact(show False from r).elim
  | some _=>exact r
theorem KV.val{kvs:List (κ×V)}{vs:List (κ×Value)}(r:KV kvs vs) (k:κ):Z0 (b9 kvs k) (valueAt vs k):=by
 unfold KV at r
 induction r with
 | nil=>exact True.intro
 | @cons p q ps qs h t ih =>
  obtain⟨h1,h2⟩:=h
  by_cases e:p.1=k
  ·have e':q.1=k:=h1.symm.trans e
   have b:valueAt (q::qs) k=some q.2:=by simp[valueAt,List.find?_cons,e']
   rw[u9 e,b];exact h2
  ·have e':¬q.1=k:=fun z=>e (h1.trans z)
   have b:valueAt (q::qs) k=valueAt qs k:=by simp[valueAt,List.find?_cons,e']
   rw[v7 e,b];exact ih
theorem KV.any{kvs:List (κ×V)}{vs:List (κ×Value)}(r:KV kvs vs) (k:κ):(kvs.any fun kv=>decide (kv.1=k))=vs.any fun kv=>decide (kv.1=k):=by
 unfold KV at r
 induction r with
 | nil=>rfl
 | cons h t ih=>rw[List.any_cons,List.any_cons,ih,h.1]
theorem KV.repl{kvs:List (κ×V)}{vs:List (κ×Value)}(r:KV kvs vs) (k:κ) {y:V}{u:Value}(ry:C5 y u) :
  KV (kvs.map fun kv=>if kv.1=k then(kv.1,y) else kv) (vs.map fun kv=>if kv.1=k then(kv.1,u) else kv):=by
 unfold KV at r ⊢
 induction r with
 | nil=>exact .nil
 | @cons p q ps qs h t ih =>
  rw[List.map_cons,List.map_cons]
  refine .cons ?_ ih
  obtain⟨h1,h2⟩:=h
  by_cases e:p.1=k
  ·rw[if_pos e,if_pos (h1.symm.trans e)];exact⟨h1,ry⟩
  ·rw[if_neg e,if_neg (fun z=>e (h1.trans z))];exact⟨h1,h2⟩
theorem KV.put{kvs:List (κ×V)}{vs:List (κ×Value)}(r:KV kvs vs) (k:κ) {y:V}{u:Value}(ry:C5 y u):KV (ac9 kvs k y) (stored vs k u):=by
 unfold ac9 stored
 rw[r.any k]
 by_cases e:(vs.any fun kv=>decide (kv.1=k))=true
 ·rw[if_pos e,if_pos e];exact r.repl k ry
 ·rw[if_neg e,if_neg e];exact Paired.snoc r ⟨rfl,ry⟩
theorem KV.drop{kvs:List (κ×V)}{vs:List (κ×Value)}(r:KV kvs vs) (k:κ):KV (af3 kvs k) (without vs k):=by
 unfold KV at r ⊢
 unfold af3 without
 induction r with
 | nil=>exact .nil
 | @cons p q ps qs h t ih =>
  obtain⟨h1,h2⟩:=h
  rw[List.filter_cons,List.filter_cons]
  by_cases e:p.1=k
  ·have a:¬decide (p.1≠k)=true:=by simp[e]
   have b:¬decide (q.1≠k)=true:=by simp[h1.symm.trans e]
   rw[if_neg a,if_neg b];exact ih
  ·have e':¬q.1=k:=fun z=>e (h1.trans z)
   have a:decide (p.1≠k)=true:=by simp[e]
   have b:decide (q.1≠k)=true:=by simp[e']
   rw[if_pos a,if_pos b];exact .cons ⟨h1,h2⟩ ih
theorem KV.length{kvs:List (κ×V)}{vs:List (κ×Value)}(r:KV kvs vs):kvs.length=vs.length:=Paired.length r
theorem aA2(kvs:List (κ×V)) (k:κ):(af3 kvs k).length<=kvs.length:=List.length_filter_le _ _
end
theorem af1{P:Program}{w:World}{k:Key}{u:Value}(r:C5 (kV k) u):(K7 P w).is k u=true:=by
 cases k with
 | inl i=>obtain⟨t,e⟩:=(show ∃t,u=Value.int i t from r);subst e;exact ay4 P w i t
 | inr x=>obtain⟨t,e⟩:=(show ∃t,u=Value.str x t from r);subst e;exact ay3 P w x t
theorem ao5{P:Program}{w:World}:∀{ks:List Key}{us:List Value},C1 (ks.map kV) us->ItemsAre (K7 P w) ks us
 | [],_,r=>by rw[List.map_nil]at r;cases r;exact .nil
 | k::ks,_,r=>by
  rw[List.map_cons]at r
  cases r with
  | cons h t=>exact .cons (af1 h) (ao5 t)
noncomputable abbrev KT(H:Hp):List (List Key×V)->List (List Key×Addr×Value)->Prop:=Paired fun p q=>p.1=q.1/\H q.2.1=some (.tup (p.1.map kV))/\C5 p.2 q.2.2
theorem KT.val{H:Hp}{kvs:List (List Key×V)}{xs:List (List Key×Addr×Value)}(r:KT H kvs xs) (k:List Key):Z0 (b9 kvs k) ((atKey xs k).map (·.2)):=by
 induction r with
 | nil=>exact True.intro
 | @cons p q ps qs h t ih =>
  obtain⟨h1,_,h2⟩:=h
  by_cases e:p.1=k
  ·have e':q.1=k:=h1.symm.trans e
   have b:atKey (q::qs) k=some q.2:=by simp[atKey,List.find?_cons,e']
   rw[u9 e,b];exact h2
  ·have e':¬q.1=k:=fun z=>e (h1.trans z)
   have b:atKey (q::qs) k=atKey qs k:=by simp[atKey,List.find?_cons,e']
   rw[v7 e,b];exact ih
theorem KT.repl{H:Hp}{kvs:List (List Key×V)}{xs:List (List Key×Addr×Value)}(r:KT H kvs xs) (k:List Key) {y:V}{u:Value}(ry:C5 y u) :
  KT H (kvs.map fun kv=>if kv.1=k then(kv.1,y) else kv) (xs.map (putAt k u)):=by
 induction r with
 | nil=>exact .nil
 | @cons p q ps qs h t ih =>
  rw[List.map_cons,List.map_cons]
  refine .cons ?_ ih
  obtain⟨h1,h2,h3⟩:=h
  unfold putAt
  by_cases e:p.1=k
  ·rw[if_pos e,if_pos (h1.symm.trans e)];exact⟨h1,h2,ry⟩
  ·rw[if_neg e,if_neg (fun z=>e (h1.trans z))];exact⟨h1,h2,h3⟩
theorem KT.put{H:Hp}{kvs:List (List Key×V)}{xs:List (List Key×Addr×Value)}(r:KT H kvs xs) (k:List Key) {b:Addr}{y:V}{u:Value}(hb:H b=some (.tup (k.map kV))) (ry:C5 y u) :
  KT H (ac9 kvs k y) (storedH xs k b u):=by
 have e:(kvs.any fun kv=>decide (kv.1=k))=(atKey xs k).isSome:=by
  rw[av5,(r.val k).isSome_eq,Option.isSome_map]
 unfold ac9 storedH
 rw[e]
 by_cases q:(atKey xs k).isSome=true
 ·rw[if_pos q,if_pos q];exact r.repl k ry
 ·rw[if_neg q,if_neg q];exact Paired.snoc r ⟨rfl,hb,ry⟩
theorem KT.keeps{H H':Hp}{kvs:List (List Key×V)}{xs:List (List Key×Addr×Value)}(r:KT H kvs xs) (ht:∀b ys,H b=some (.tup ys)->H' b=some (.tup ys)):KT H' kvs xs :=
 Paired.mapP r fun _ _ z=>⟨z.1,ht _ _ z.2.1,z.2.2⟩
section
variable {P:Program}{w:World}{H:Hp}{h:Heap}{a:Addr}
theorem bC3{u:HO}(ok:HOk P w H h) (e:Rd H a u):O8 P w H h a u:=e.ok ok
theorem af5{kvs:List (Key×V)}(ok:HOk P w H h) (e:Rd H a (.dK kvs)):kvs.length<=sizeLine/\(a==sysModules)=false/\∃vs,KV kvs vs/\h.DictOf (K7 P w) a vs :=
 show O8 P w H h a (.dK kvs) from bC3 ok e
theorem aN3{kvs:List (Key×V)}(ok:HOk P w H h) (e:H a=some (.dK kvs)):kvs.length<=sizeLine/\(a==sysModules)=false/\∃vs,KV kvs vs/\h.DictOf (K7 P w) a vs:=af5 ok (.inl e)
theorem ad4{ks:List Key}(ok:HOk P w H h) (e:H a=some (.tup (ks.map kV))):(tupleKind (K7 P w)).is h ks a:=by
 obtain⟨_,its,r,o,h1,h2,⟨n,h3⟩,_⟩:=(show O8 P w H h a (.tup (ks.map kV)) from ok a _ e)
 exact⟨o,its.toArray,n,h1,h2,h3,by simpa using ao5 r⟩
theorem al4{kvs:List (List Key×V)}(ok:HOk P w H h) (e:Rd H a (.dT kvs)):kvs.length<=sizeLine/\(a==sysModules)=false /\
  ∃xs,KT H kvs xs/\h.DictOfH (tupleKind (K7 P w)) a xs:=by
 obtain⟨z,y,xs,r,o,es,ep,h1,h2,h3,h4,h5⟩:=(show O8 P w H h a (.dT kvs) from bC3 ok e)
 refine⟨z,y,xs,r,o,es,ep,h1,h2,h3,h4,fun x hx=>?_,h5⟩
 have all:∀{l:List (List Key×V)}{m:List (List Key×Addr×Value)},KT H l m->∀x∈m,(tupleKind (K7 P w)).is h x.1 x.2.1:=by
  intro l m q
  induction q with
  | nil=>intro x hx;exact nomatch hx
  | @cons p q ps qs hq t ih =>
   intro x hx
   rcases List.mem_cons.mp hx with e|hx
   ·subst e
    exact ad4 ok (by rw[← hq.1];exact hq.2.1)
   ·exact ih x hx
 exact all r x hx
theorem ch4{kvs:List (List Key×V)}(ok:HOk P w H h) (e:H a=some (.dT kvs)):kvs.length<=sizeLine/\(a==sysModules)=false /\
  ∃xs,KT H kvs xs/\h.DictOfH (tupleKind (K7 P w)) a xs:=al4 ok (.inl e)
end
noncomputable def ae5(H:Hp) (a:Addr) (y:V) (r:Option V):Prop :=
 (∃kvs k,Rd H a (.dK kvs)/\y=kV k/\r=b9 kvs k)\/∃kvs k b,Rd H a (.dT kvs)/\y=.ref b/\H b=some (.tup (k.map kV))/\r=b9 kvs k
noncomputable def bm7(H:Hp) (a:Addr) (y v:V) (H':Hp):Prop :=
 (∃kvs k,H a=some (.dK kvs)/\y=kV k/\kvs.length < sizeLine/\H'=upd H a (.dK (ac9 kvs k v))) \/
 ∃kvs k b,H a=some (.dT kvs)/\y=.ref b/\H b=some (.tup (k.map kV))/\kvs.length < sizeLine/\H'=upd H a (.dT (ac9 kvs k v))
theorem ae5.k{H:Hp}{a:Addr}{kvs:List (Key×V)}{k:Key}(e:H a=some (.dK kvs)):ae5 H a (kV k) (b9 kvs k):=.inl ⟨kvs,k,.inl e,rfl,rfl⟩
theorem bm7.k{H:Hp}{a:Addr}{kvs:List (Key×V)}{k:Key}{v:V}(e:H a=some (.dK kvs)) (hl:kvs.length < sizeLine):bm7 H a (kV k) v (upd H a (.dK (ac9 kvs k v))):=.inl ⟨kvs,k,e,rfl,hl,rfl⟩
section
variable {X:Cx}{pins:List (Addr×Obj)}{σ:St}{H:Hp}{s:Shared}{a:Addr}{y v:V}{u r:Value}{o:Option V}{A:Around}{E:Value->Shared->Prop}
theorem Inv.big(I:Inv X pins σ H s):sysModules < s.heap.objs.size:=by
 have h:mainGlobals < s.heap.objs.size:=(I.mod.glob.keeps I.bk).lt
 exact Nat.lt_trans (by decide) h
theorem aU0{Q:Value->Shared->Prop}(hu:A.units+1 < cLine) (I:Inv X pins σ H s) (g:ae5 H a y (some v)) (ry:C5 y u) (h:∀w' s',Inv X pins σ H s'->C5 v w'->Q w' s') :
  wpAny (model X.prog X.w) A (getItem (.ref a) u) Q E s:=by
 rcases g with⟨kvs,k,e,ey,l⟩|⟨kvs,k,b,e,ey,eb,l⟩
 ·subst ey
  obtain⟨z,hd,vs,rel,dd⟩:=af5 I.hok e
  obtain⟨w',hw,rw'⟩:=Z0.some_of (v:=v) (o:=valueAt vs k) (by rw[l];exact rel.val k)
  exact wpAny_getItem_of (af1 ry) dd.mapOf hw (h w' _ (I.tok _) rw')
 ·subst ey
  cases(show u=Value.ref b from ry)
  obtain⟨z,hd,xs,rel,dd⟩:=al4 I.hok e
  obtain⟨w',hw,rw'⟩:=Z0.some_of (v:=v) (o:=(atKey xs k).map (·.2)) (by rw[l];exact rel.val k)
  obtain⟨p,hp,hp2⟩:=Option.map_eq_some_iff.mp hw
  refine wpAny_getItem_heap (tupleKind_room_in1 hu) (ad4 I.hok eb) dd hp ?_
  rw[hp2]
  exact h w' _ (I.tok _) rw'
theorem cn3{Q:Value->Shared->Prop}(hu:A.units+1 < cLine) (I:Inv X pins σ H s) (g:ae5 H a y o) (ry:C5 y u) (h:∀s',Inv X pins σ H s'->Q (.bool o.isSome) s') :
  wpAny (model X.prog X.w) A (compareOp .In u (.ref a)) Q E s:=by
 rcases g with⟨kvs,k,e,ey,l⟩|⟨kvs,k,b,e,ey,eb,l⟩
 ·subst ey
  obtain⟨z,hd,vs,rel,dd⟩:=af5 I.hok e
  refine wpAny_in_of (af1 ry) hd dd.mapOf ?_
  rw[← (rel.val k).isSome_eq,← l]
  exact h _ (I.tok _)
 ·subst ey
  cases(show u=Value.ref b from ry)
  obtain⟨z,hd,xs,rel,dd⟩:=al4 I.hok e
  refine wpAny_in_heap (tupleKind_room_in1 hu) (ad4 I.hok eb) hd dd ?_
  have q:=(rel.val k).isSome_eq
  rw[Option.isSome_map]at q
  rw[← q,← l]
  exact h _ (I.tok _)
theorem bz6{Q:Value->Shared->Prop}(hu:A.units+1 < cLine) (I:Inv X pins σ H s) (g:ae5 H a y o) (ry:C5 y u) (h:∀s',Inv X pins σ H s'->Q (.bool (!o.isSome)) s') :
  wpAny (model X.prog X.w) A (compareOp .NotIn u (.ref a)) Q E s:=by
 rcases g with⟨kvs,k,e,ey,l⟩|⟨kvs,k,b,e,ey,eb,l⟩
 ·subst ey
  obtain⟨z,hd,vs,rel,dd⟩:=af5 I.hok e
  refine wpAny_notIn_of (af1 ry) hd dd.mapOf ?_
  rw[← (rel.val k).isSome_eq,← l]
  exact h _ (I.tok _)
 ·subst ey
  cases(show u=Value.ref b from ry)
  obtain⟨z,hd,xs,rel,dd⟩:=al4 I.hok e
  refine wpAny_notIn_heap (tupleKind_room_in1 hu) (ad4 I.hok eb) hd dd ?_
  have q:=(rel.val k).isSome_eq
  rw[Option.isSome_map]at q
  rw[← q,← l]
  exact h _ (I.tok _)
theorem ah9{h':Heap}{t':Nat}{ob:HO}(I:Inv X pins σ H s) (mu:Mut (H a)) (hs:Heap.SameBut a s.heap h') (he:∃q,h'.get? a=some q) (new:O8 X.prog X.w (upd H a ob) h' a ob) :
  Inv X pins σ (upd H a ob) { s with heap:=h',toks:=t' } :=
 I.write (x:=a) (e:=a) mu (.inl rfl) (fun b q hb z=>(hs.2 b hb).trans z) he new
theorem at8{P:Program}{w:World}{H':Hp}{h':Heap}{kvs:List (Key×V)}{vs:List (Key×Value)}(z:kvs.length<=sizeLine) (hd:(a==sysModules)=false) (rel:KV kvs vs) (dd:h'.DictOf (K7 P w) a vs) :
  O8 P w H' h' a (.dK kvs):=⟨z,hd,vs,rel,dd⟩
theorem aT3{H':Hp}{Q:Unit->Shared->Prop}(hu:A.units+1 < cLine) (I:Inv X pins σ H s) (g:bm7 H a y v H') (ry:C5 y u) (rv:C5 v r) (h:∀s',Inv X pins σ H' s'->Q () s') :
  wpAny (model X.prog X.w) A (setItem (.ref a) u r) Q E s:=by
 rcases g with⟨kvs,k,e,ey,l,eH⟩|⟨kvs,k,b,e,ey,eb,l,eH⟩
 ·subst ey eH
  obtain⟨z,hd,vs,rel,dd⟩:=aN3 I.hok e
  have hz:vs.length<=sizeLine:=by rw[← rel.length];exact z
  have hl:(ac9 kvs k v).length<=sizeLine:=by have:=ae9 kvs k v;omega
  refine wpAny_setItem_pairs (hsz:=hz) (af1 ry) dd fun h' dd' hs=>h _ ?_
  have he:∃q,h'.get? a=some q:=let⟨q,_,_,hq,_⟩:=dd';⟨q,hq⟩
  exact ah9 I (by rw[e];exact True.intro) hs he (at8 hl hd (rel.put k rv) dd')
 ·subst ey eH
  cases(show u=Value.ref b from ry)
  obtain⟨z,hd,xs,rel,dd⟩:=ch4 I.hok e
  have hz:xs.length<=sizeLine:=by rw[← Paired.length rel];exact z
  have hl:(ac9 kvs k v).length<=sizeLine:=by have:=ae9 kvs k v;omega
  refine wpAny_setItem_heap (hsz:=hz) (tupleKind_room_in1 hu) (ad4 I.hok eb) dd fun h' dd' hs=>h _ ?_
  obtain⟨q,es,ep,hq,h2,h3,h4,_,h5⟩:=dd'
  refine ah9 I (by rw[e];exact True.intro) hs ⟨q,hq⟩ ⟨hl,hd,_,(rel.put k eb rv).keeps fun c ys ec=>?_,q,es,ep,hq,h2,h3,h4,h5⟩
  rw[A4 (g7 ec e (fun z=>nomatch z))]
  exact ec
end
section
variable {X:Cx}{pins:List (Addr×Obj)}{σ:St}{H:Hp}{s:Shared}{a:Addr}{kvs:List (Key×V)}{k:Key}{u:Value}{A:Around}{E:Value->Shared->Prop}
theorem bX4{Q:Unit->Shared->Prop}(I:Inv X pins σ H s) (e:H a=some (.dK kvs)) (ry:C5 (kV k) u) (l:(b9 kvs k).isSome=true) (h:∀s',Inv X pins σ (upd H a (.dK (af3 kvs k))) s'->Q () s') :
  wpAny (model X.prog X.w) A (delItem (.ref a) u) Q E s:=by
 obtain⟨z,hd,vs,rel,dd⟩:=aN3 I.hok e
 refine wpAny_delItem_slot dd.typeIs (by decide) PySem.F.slot_dict_delitem
  (call_meetsIn PySem.F.slot_dict_delitem dd.typeIs PySem.F.entry_dict_delitem (PySem.F.args_dict_delitem_2 _ _) (meets_dict_delitem_pairs (K7 X.prog X.w) a (af1 ry)) ⟨vs,dd,by rw[← rel.length];exact z,by rw[← (rel.val k).isSome_eq];exact l,fun h' dd' hs=>h _ ?_⟩)
 have he:∃q,h'.get? a=some q:=let⟨q,_,_,hq,_⟩:=dd';⟨q,hq⟩
 exact ah9 I (by rw[e];exact True.intro) hs he (at8 (Nat.le_trans (aA2 kvs k) z) hd (rel.drop k) dd')
theorem ch5{v:V}{more:List Value}{Q:Value->Shared->Prop}(I:Inv X pins σ H s) (e:H a=some (.dK kvs)) (ry:C5 (kV k) u) (l:b9 kvs k=some v) (hm:more=[]\/∃x,more=[x])
  (h:∀w' s',Inv X pins σ (upd H a (.dK (af3 kvs k))) s'->C5 v w'->Q w' s'):wpAny (model X.prog X.w) A (call (.builtin "dict.pop") (.ref a::u::more)) Q E s:=by
 obtain⟨z,hd,vs,rel,dd⟩:=aN3 I.hok e
 obtain⟨w',hw,rw'⟩:=Z0.some_of (v:=v) (o:=valueAt vs k) (by rw[← l];exact rel.val k)
 have hp:(keyPart u).isSome=true:=by
  cases k with
  | inl i=>obtain⟨t,q⟩:=(show ∃t,u=Value.int i t from ry);subst q;rfl
  | inr x=>obtain⟨t,q⟩:=(show ∃t,u=Value.str x t from ry);subst q;rfl
 have ha:argsOk "dict.pop" ⟨.ref a::u::more,[]⟩:=by
  rcases hm with q|⟨x,q⟩
  ·subst q;exact PySem.F.args_dict_pop_2 _ _
  ·subst q;exact PySem.F.args_dict_pop_3 _ _ _
 refine call_meetsIn PySem.F.slot_dict_pop dd.typeIs PySem.F.entry_dict_pop ha (meets_dict_pop_there (K7 X.prog X.w) a (af1 ry) more hm hp)
  ⟨vs,w',dd,by rw[← rel.length];exact z,hw,fun h' dd' hs=>h w' _ ?_ rw'⟩
 have he:∃q,h'.get? a=some q:=let⟨q,_,_,hq,_⟩:=dd';⟨q,hq⟩
 exact ah9 I (by rw[e];exact True.intro) hs he (at8 (Nat.le_trans (aA2 kvs k) z) hd (rel.drop k) dd')
end
noncomputable def bX0(i:Expr):Prop:=∀ov iv,subscripted i false ov iv=operate [ov,iv] (getItem ov iv)
theorem bp8{prog:Program}{w:World}{A:Around}{E:Value->Shared->Prop}{s:Shared}{env:Env}{value slice:Expr}{pos:Pos}{T id:String}{Q:Value->Shared->Prop}
  (hl:typeLookup (.type T) "__getitem__" = pure (some (.builtin id))) (hs:bX0 slice)
  (h:wpAny (model prog w) A (eval value env) (fun o s₁=>wpAny (model prog w) A (eval slice env) (fun i s₂=>s₂.TypeIs o T/\wpAny (model prog w) A (getItem o i) Q E s₂) E s₁) E s) :
  wpAny (model prog w) A (eval (.Subscript value slice pos) env) Q E s:=by
 refine Subscript_ (wpAny_mono h (fun o s₁ h₁=>wpAny_mono h₁ (fun i s₂ h₂=>?_) fun _ _ x=>x) fun _ _ x=>x)
 obtain⟨hT,h₂⟩:=h₂
 unfold subscriptTail
 refine wpAny_bind ?_
 rw[getitemInPython_of_ne hT.not_modules]
 refine wpAny_bind (wpAny_specialOf hT hl ?_)
 have fin:wpAny (model prog w) A (subscripted slice false o i) (fun r s₃=>wpAny (model prog w) A (letTemporaryGo value o r >>= fun _=>pure r) Q E s₃) E s₂:=by
  rw[hs o i]
  exact wpAny_operating (wpAny_mono h₂ (fun r s₃ h₃=>wpAny_bind (wpAny_letTemporaryGo (wpAny_pure h₃))) fun _ _ x=>x)
 first
  | exact wpAny_pure (wpAny_bind fin)
  | exact wpAny_bind (wpAny_pure (wpAny_bind fin))
  | exact wpAny_bind fin
theorem aA4{X:Cx}{pins:List (Addr×Obj)}{σ:St}{H:Hp}{s:Shared}{a:Addr}{y:V}{o:Option V}(I:Inv X pins σ H s) (g:ae5 H a y o):s.TypeIs (.ref a) "dict" := by
 rcases g with⟨kvs,k,e,_,_⟩|⟨kvs,k,b,e,_,_,_⟩
 ·obtain⟨_,_,vs,_,dd⟩:=af5 I.hok e
  exact dd.typeIs
 ·obtain⟨_,_,xs,_,dd⟩:=al4 I.hok e
  exact dd.typeIs
noncomputable def ca4(td ty:TE):TE:=fun σ H Q=>td σ H fun x H1=>ty σ H1 fun y H2=>∃a v,x=.ref a/\ae5 H2 a y (some v)/\Q v H2
noncomputable def ck7(ty td:TE):TE:=fun σ H Q=>ty σ H fun y H1=>td σ H1 fun x H2=>∃a o,x=.ref a/\ae5 H2 a y o/\Q (.bl o.isSome) H2
noncomputable def bp3(ty td:TE):TE:=fun σ H Q=>ty σ H fun y H1=>td σ H1 fun x H2=>∃a o,x=.ref a/\ae5 H2 a y o/\Q (.bl (!o.isSome)) H2
noncomputable def cb6(td ty tv:TE):TS:=fun D σ H=>tv σ H fun v H1=>td σ H1 fun x H2=>ty σ H2 fun y H3=>∃a H4,x=.ref a/\bm7 H3 a y v H4/\D.nx σ H4
section
variable {X:Cx}{o i e value:Expr}{pos pos' tpos:Pos}{td ty tv:TE}
theorem bs9(hu:X.A.units+1 < cLine) (ho:PE X o td) (hi:PE X i ty) (hs:bX0 i):PE X (.Subscript o i pos) (ca4 td ty):=by
 intro pins s σ H Q I h
 refine bp8 PySem.F.slot_dict_getitem.lookup hs (thn (ho pins s σ H _ I h) fun u s1 ⟨x,H1,I1,rx,q1⟩=>thn (hi pins s1 σ H1 _ I1 q1) fun iv s2 ⟨y,H2,I2,ry,a,v,ex,g,q2⟩=>?_)
 subst ex
 obtain rfl:u=Value.ref a:=rx
 exact⟨aA4 I2 g,aU0 hu I2 g ry fun w' s3 I3 rw'=>⟨v,H2,I3,rw',q2⟩⟩
theorem bL5(hu:X.A.units+1 < cLine) (hi:PE X i ty) (ho:PE X o td):PC X .In i o (ck7 ty td):=by
 intro pins s σ H Q I h
 refine thn (hi pins s σ H _ I h) fun iv s1 ⟨y,H1,I1,ry,q1⟩=>thn (ho pins s1 σ H1 _ I1 q1) fun u s2 ⟨x,H2,I2,rx,a,ov,ex,g,q2⟩=>?_
 subst ex
 obtain rfl:u=Value.ref a:=rx
 exact cn3 hu I2 g ry fun s3 I3=>⟨.bl ov.isSome,H2,I3,rfl,q2⟩
theorem aR1(hu:X.A.units+1 < cLine) (hi:PE X i ty) (ho:PE X o td):PC X .NotIn i o (bp3 ty td):=by
 intro pins s σ H Q I h
 refine thn (hi pins s σ H _ I h) fun iv s1 ⟨y,H1,I1,ry,q1⟩=>thn (ho pins s1 σ H1 _ I1 q1) fun u s2 ⟨x,H2,I2,rx,a,ov,ex,g,q2⟩=>?_
 subst ex
 obtain rfl:u=Value.ref a:=rx
 exact bz6 hu I2 g ry fun s3 I3=>⟨.bl (!ov.isSome),H2,I3,rfl,q2⟩
theorem bs0(hu:X.A.units+1 < cLine) (ho:PE X o td) (hi:PE X i ty) (hv:PE X value tv) (hs:swapsWith value (some (.Subscript o i pos')) pos.line X.env=pure false) :
  PS X (.Assign [.Subscript o i pos'] value pos) (cb6 td ty tv):=by
 intro pins s σ H D I h
 refine wpAny_Assign_Subscript (thn (hv pins s σ H _ I h) fun r s1 ⟨v,H1,I1,rv,q1⟩=>thn (ho pins s1 σ H1 _ I1 q1) fun u s2 ⟨x,H2,I2,rx,q2⟩=>thn (hi pins s2 σ H2 _ I2 q2) fun iv s3 ⟨y,H3,I3,ry,a,H4,ex,g,q3⟩=>?_) hs
 subst ex
 obtain rfl:u=Value.ref a:=rx
 exact aT3 hu I3 g ry rv fun s4 I4=>⟨σ,H4,I4,q3⟩
end
theorem bk2{P:Program}{w:World}{H:Hp}(h:Heap) (hb:sysModules < h.objs.size):O8 P w H (h.push { cls:=.type "dict", data:=.dict #[] }) h.objs.size (.dK []) :=
 ⟨Nat.zero_le _,beq_eq_false_iff_ne.mpr (Ne.symm (Nat.ne_of_lt hb)),[],.nil,Heap.DictOf.new h⟩
noncomputable def bI4:TE:=fun _ H Q=>∀p,H p=none->Q (.ref p) (upd H p (.dK []))
section
variable {X:Cx}{pos:Pos}
theorem bb0:PE X (.Dict [] [] pos) bI4:=fun pins s σ H Q I h =>
 wpAny_Dict_empty ⟨.ref s.heap.objs.size,_,I.laid (a:=s.heap.objs.size) (o:=.dK []) (t':=s.toks) (fun _ _ q=>Heap.get?_push_of_some _ q) (Nat.le_refl _) (bk2 s.heap I.big),rfl,h _ (I.hok.fresh (Nat.le_refl _))⟩
end
structure M1 (X:Cx) (o:Expr) (m:Str) (apos:Pos) (e:Expr) (cpos:Pos):Prop where
 base:attributeBase o m X.env (eval o X.env)=eval o X.env
 few:((backTo cpos (starEach [e] X.env)).all (fun x=>!x.1)&&(backToKw cpos (keywordEach [] X.env)).all (fun x=>x.1.isSome)
  && decide (([e]:List Expr).length+([]:List Keyword).length+(if([]:List Keyword).isEmpty then 0 else 1) < 30))=true
 line:(apos.endLine==cpos.line)=true
 trees:backTo cpos (starEach [e] X.env)=[(false,eval e X.env)]
noncomputable def IsD(H:Hp) (a:Addr):Prop:=(∃kvs,Rd H a (.dK kvs))\/∃kvs,Rd H a (.dT kvs)
theorem bh3{X:Cx}{pins:List (Addr×Obj)}{σ:St}{H:Hp}{s:Shared}{a:Addr}(I:Inv X pins σ H s) (d:IsD H a) :
  s.TypeIs (.ref a) "dict" /\ (∀b,Value.ref a=.ref b->∃ob,s.heap.get? b=some ob/\ob.dict=none)/\(a==sysModules)=false:=by
 rcases d with⟨kvs,e⟩|⟨kvs,e⟩
 ·obtain⟨_,hd,vs,_,dd⟩:=af5 I.hok e
  refine⟨dd.typeIs,fun b q=>?_,hd⟩
  cases q
  obtain⟨ob,_,_,h1,h2,_⟩:=dd
  exact⟨ob,h1,h2.2.1⟩
 ·obtain⟨_,hd,xs,_,dd⟩:=al4 I.hok e
  refine⟨dd.typeIs,fun b q=>?_,hd⟩
  cases q
  obtain⟨ob,_,_,h1,h2,_⟩:=dd
  exact⟨ob,h1,h2.2.1⟩
section
variable {X:Cx}{pins:List (Addr×Obj)}{σ:St}{H:Hp}{s:Shared}{a:Addr}{y d:V}{u r:Value}{o:Option V}{A:Around}{E:Value->Shared->Prop}
theorem bU7{Q:Value->Shared->Prop}(hu:A.units+1 < cLine) (I:Inv X pins σ H s) (g:ae5 H a y o) (ry:C5 y u) (h:∀w' s',Inv X pins σ H s'->C5 (o.getD .non) w'->Q w' s') :
  wpAny (model X.prog X.w) A (call (.builtin "dict.get") [.ref a,u]) Q E s:=by
 rcases g with⟨kvs,k,e,ey,l⟩|⟨kvs,k,b,e,ey,eb,l⟩
 ·subst ey
  obtain⟨z,hd,vs,rel,dd⟩:=af5 I.hok e
  refine call_meetsIn PySem.F.slot_dict_get dd.typeIs PySem.F.entry_dict_get (PySem.F.args_dict_get_2 _ _) (meets_dict_get (K7 X.prog X.w) a (af1 ry) hd) ⟨_,dd.mapOf,h _ _ (I.tok _) ?_⟩
  rw[l]
  exact(rel.val k).getD rfl
 ·subst ey
  cases(show u=Value.ref b from ry)
  obtain⟨z,hd,xs,rel,dd⟩:=al4 I.hok e
  refine call_meetsIn PySem.F.slot_dict_get dd.typeIs PySem.F.entry_dict_get (PySem.F.args_dict_get_2 _ _) (meetsH_dict_get (tupleKind (K7 X.prog X.w)) a b hd) ⟨tupleKind_room_in1 hu,k,xs,ad4 I.hok eb,dd,h _ _ (I.tok _) ?_⟩
  rw[l]
  exact(rel.val k).getD rfl
end
noncomputable def bI5(td ty:TE):TE:=fun σ H Q=>td σ H fun x H1=>∃a,x=.ref a/\IsD H1 a/\ty σ H1 fun y H2=>∃o,ae5 H2 a y o/\Q (o.getD .non) H2
noncomputable def bI3(td ty:TE):TE:=fun σ H Q=>td σ H fun x H1=>∃a,x=.ref a/\IsD H1 a/\ty σ H1 fun y H2=>∃kvs k v,H2 a=some (.dK kvs)/\y=kV k/\b9 kvs k=some v/\Q v (upd H2 a (.dK (af3 kvs k)))
section
variable {X:Cx}{o e f:Expr}{apos cpos:Pos}{td ty tx:TE}
theorem bb1(hu:X.A.units+1 < cLine) (ho:PE X o td) (he:PE X e ty) (m:M1 X o "get" apos e cpos):PE X (.Call (.Attribute o "get" apos) [e] [] cpos) (bI5 td ty):=by
 intro pins s σ H Q I h
 refine wpAny_Call_method m.base m.few m.line PySem.F.plainAttrs_dict PySem.F.slot_dict_get PySem.F.type_dict_get (thn (ho pins s σ H _ I h) fun u s1 ⟨x,H1,I1,rx,a,ex,d,q1⟩=>?_)
 subst ex
 obtain rfl:u=Value.ref a:=rx
 obtain⟨t1,t2,_⟩:=bh3 I1 d
 refine⟨t1,t2,?_⟩
 rw[m.trees]
 refine Calls.callWith_builtin rfl (Calls.evalArgs_plain (Calls.spliced_cons (thn (he pins s1 σ H1 _ I1 q1) fun iv s2 ⟨y,H2,I2,ry,ov,g,q2⟩=>Calls.spliced_nil ?_)))
 exact bU7 hu I2 g ry fun w' s3 I3 rw'=>⟨_,H2,I3,rw',q2⟩
theorem ba9(ho:PE X o td) (he:PE X e ty) (m:M1 X o "pop" apos e cpos):PE X (.Call (.Attribute o "pop" apos) [e] [] cpos) (bI3 td ty):=by
 intro pins s σ H Q I h
 refine wpAny_Call_method m.base m.few m.line PySem.F.plainAttrs_dict PySem.F.slot_dict_pop PySem.F.type_dict_pop (thn (ho pins s σ H _ I h) fun u s1 ⟨x,H1,I1,rx,a,ex,d,q1⟩=>?_)
 subst ex
 obtain rfl:u=Value.ref a:=rx
 obtain⟨t1,t2,_⟩:=bh3 I1 d
 refine⟨t1,t2,?_⟩
 rw[m.trees]
 refine Calls.callWith_builtin rfl (Calls.evalArgs_plain (Calls.spliced_cons (thn (he pins s1 σ H1 _ I1 q1) fun iv s2 ⟨y,H2,I2,ry,kvs,k,v,ea,ey,l,q2⟩=>Calls.spliced_nil ?_)))
 subst ey
 exact ch5 I2 ea ry l (.inl rfl) fun w' s3 I3 rw'=>⟨v,_,I3,rw',q2⟩
end
section
variable {X:Cx}{pins:List (Addr×Obj)}{σ:St}{H:Hp}{s:Shared}{a:Addr}{kvs:List (Key×V)}{A:Around}{E:Value->Shared->Prop}
theorem bk8{Q:Value->Shared->Prop}(I:Inv X pins σ H s) (e:Rd H a (.dK kvs)) (h:∀p s',H p=none->Inv X pins σ (upd H p (.dK kvs)) s'->Q (.ref p) s'):wpAny (model X.prog X.w) A (call (.type "dict") [.ref a]) Q E s:=by
 obtain⟨z,hd,vs,rel,dd⟩:=af5 I.hok e
 refine kt_call_dict hd dd (by rw[← rel.length];exact z) fun h' dd' hs=>?_
 refine h _ _ (I.hok.fresh (Nat.le_refl _)) (I.laid (a:=s.heap.objs.size) (o:=.dK kvs) (t':=s.toks) (fun b q hq=>?_) (Nat.le_refl _) (at8 z (beq_eq_false_iff_ne.mpr (Ne.symm (Nat.ne_of_lt I.big))) rel dd'))
 exact(hs.2 b (Nat.ne_of_lt (Heap.lt_size hq))).trans (Heap.get?_push_of_some _ hq)
end
section
variable {X:Cx}{pins:List (Addr×Obj)}{σ:St}{H:Hp}{s:Shared}{a:Addr}{y:V}{u:Value}{A:Around}{E:Value->Shared->Prop}
end
end L2
namespace G
open PySem PySem.Spec PyProof.Rows L2
section
variable {prog:Program}{w:World}{A:Around}{E:Value->Shared->Prop}{s:Shared}
variable {R:Result->Shared->Prop}{J S:Addr}{fp wr:List Addr}{Gn:Array GenState->Array GenState->Prop}{P:Nat->Value->Prop}{St:Nat->Shared->Prop}{ps:List (Str×Value)}
end
noncomputable def Q5(x:Str) (kv:D×D):Bool:=match kv.1 with
 | .str y=>y==x
 | _=>false
noncomputable def P3(kvs:List (D×D)) (x:Str):Option D:=(kvs.find? (Q5 x)).map (·.2)
noncomputable def aQ7(kvs:List (D×D)) (x:Str) (d:D):List (D×D):=if kvs.any (Q5 x) then kvs.map (fun kv=>if Q5 x kv then(kv.1,d) else kv) else kvs++[(.str x,d)]
section
variable {K:PySem.W.Frag}{H:Hp}
theorem bv9(x y:Str):decide ((Sum.inr y:Key)=Sum.inr x)=(y==x):=by rw[bf0];rfl
theorem RepKs.look:∀{kvs:List (D×D)}{m:List (Key×V)}(x:Str),RepKs K H kvs m->(P3 kvs x=none/\b9 m (.inr x)=none)\/∃d v,P3 kvs x=some d/\b9 m (.inr x)=some v/\Rep K H d v
 | [],_,x,h=>by cases h;exact .inl ⟨rfl,rfl⟩
 | (k,d)::r,_,x,⟨y,v,t,h1,h2,h3,h4⟩=>by
  subst h1 h2
  by_cases e:y=x
  ·subst e
   exact .inr ⟨d,v,by simp[P3,Q5],by rw[u9 rfl],h3⟩
  ·have e1:P3 ((.str y,d)::r) x=P3 r x:=by simp[P3,Q5,e]
   have e2:b9 ((Sum.inr y,v)::t) (Sum.inr x)=b9 t (.inr x):=v7 (by intro z;exact e (Sum.inr.inj z))
   rw[e1,e2]
   exact RepKs.look x h4
theorem RepKs.any(x:Str):∀{kvs:List (D×D)}{m:List (Key×V)},RepKs K H kvs m->kvs.any (Q5 x)=m.any fun kv=>decide (kv.1=Sum.inr x)
 | [],_,h=>by cases h;rfl
 | (k,d)::r,_,⟨y,v,t,h1,h2,h3,h4⟩=>by
  subst h1 h2
  rw[List.any_cons,List.any_cons,RepKs.any x h4,bv9];rfl
theorem RepKs.snoc(q:Rep K H d v):∀{kvs:List (D×D)}{m:List (Key×V)},RepKs K H kvs m->RepKs K H (kvs++[(.str x,d)]) (m++[(.inr x,v)])
 | [],_,h=>by cases h;exact⟨x,v,[],rfl,rfl,q,rfl⟩
 | (k,_)::r,_,⟨y,w,t,h1,h2,h3,h4⟩=>by subst h2;exact⟨y,w,_,h1,rfl,h3,RepKs.snoc q h4⟩
theorem RepKs.repl(q:Rep K H d v):∀{kvs:List (D×D)}{m:List (Key×V)},RepKs K H kvs m->RepKs K H (kvs.map fun kv=>if Q5 x kv then(kv.1,d) else kv) (m.map fun kv=>if kv.1=Sum.inr x then(kv.1,v) else kv)
 | [],_,h=>by cases h;rfl
 | (k,e)::r,_,⟨y,w,t,h1,h2,h3,h4⟩=>by
  subst h1 h2
  rw[List.map_cons,List.map_cons]
  by_cases e:y=x
  ·subst e
   rw[if_pos (show Q5 y (.str y,_)=true by simp[Q5]),if_pos rfl]
   exact⟨y,v,_,rfl,rfl,q,RepKs.repl q h4⟩
  ·rw[if_neg (show ¬Q5 x (.str y,_)=true by simp[Q5,e]),if_neg (by intro z;exact e (Sum.inr.inj z))]
   exact⟨y,w,_,rfl,rfl,h3,RepKs.repl q h4⟩
theorem RepKs.put(q:Rep K H d v) (h:RepKs K H kvs m):RepKs K H (aQ7 kvs x d) (ac9 m (.inr x) v):=by
 unfold aQ7 ac9
 rw[h.any x]
 split
 ·exact h.repl q
 ·exact h.snoc q
end
section
variable {X:Cx}
theorem bA6:bootBuiltins "dict" = some (.type "dict"):=by decide +kernel
end
end G
namespace G
open PySem PySem.Spec PyProof.Rows L2
section
variable {X:Cx}
end
end G
namespace G
open PySem PySem.Spec PySem.W PyProof.Rows L2 PySem.SeqAt
noncomputable def e1(x:List Int):D:=.tuple (x.map .int)
noncomputable def e2(k:List (List Int)):D:=.tuple (k.map e1)
theorem Y0{h:Heap}{v:Value}{ds:List D}{as:List Addr}(r:Reads h v (.tuple ds) as):∃a o vs n,v=.ref a/\h.get? a=some o/\o.cls=.type "tuple" /\ o.data=.seq vs n/\ReadsAll h vs.toList ds as:=by
 cases r with
 | tuple k1 k2 k3 k4=>exact⟨_,_,_,_,rfl,k1,k2,k3,k4⟩
section
variable {P:Program}{w:World}{A:Around}{E:Value->Shared->Prop}{s:Shared}
theorem aK0{h:Heap}:∀{x:List Int}{vs:List Value}{as:List Addr},ReadsAll h vs (x.map .int) as->ItemsAre (intKind P w) x vs
 | [],_,_,r=>by cases r;exact .nil
 | i::x,_,_,r=>by
  cases r with
  | cons r1 r2=>cases r1;exact .cons (by simp[intKind,Value.isInt]) (aK0 r2)
theorem bK2{h:Heap}{x:List Int}{v:Value}{as:List Addr}(r:Reads h v (e1 x) as):∃b,v=.ref b/\(tupleKind (intKind P w)).is h x b:=by
 obtain⟨a,o,vs,n,e,h1,h2,h3,h4⟩:=Y0 r
 exact⟨a,e,o,vs,n,h1,h2,h3,aK0 h4⟩
noncomputable def hs2(P:Program) (w:World) (k:List (List Int)):Int:=reduceHash (Builtin.Tuple.tupleHashOf (k.map (tupleKeyHash (intKind P w))))
noncomputable def dr2:List (List Int)->Nat
 | []=>0
 | x::k=>x.length+1+dr2 k
theorem bh8{Q:Array Int->Shared->Prop}(hu:A.units < cLine):∀(k:List (List Int)) (vs:List Value) (as:List Addr) (b:Array Int) (s:Shared),ReadsAll s.heap vs (k.map e1) as ->
  (∀b',b'.toList=b.toList++k.map (tupleKeyHash (intKind P w))->Q b' { s with toks:=s.toks+dr2 k }) ->
  wpAny (model P w) A (forIn vs b fun x r=>do let h ← pyHash x;pure PUnit.unit;pure (ForInStep.yield (r.push h))) Q E s
 | [],_,_,b,s,r,h=>by cases r;exact wpAny_pure (h b (by simp))
 | x::k,_,_,b,s,r,h=>by
  cases r with
  | cons r1 r2 =>
   obtain⟨c,rfl,q⟩:=bK2 (P:=P) (w:=w) r1
   rw[List.forIn_cons]
   refine wpAny_bind (wpAny_bind (wpAny_pyHash_tuple hu q ?_))
   refine wpAny_bind (wpAny_pure (wpAny_pure ?_))
   refine bh8 hu k _ _ _ _ r2 fun b' e=>?_
   have:=h b' (by simp[e])
   simpa [dr2,Nat.add_assoc] using this
theorem cg9{k:List (List Int)}{a:Addr}{as:List Addr}{Q:Int->Shared->Prop}(hu:A.units+2 < cLine) (r:Reads s.heap (.ref a) (e2 k) as) (h:Q (hs2 P w k) { s with toks:=s.toks+(dr2 k+1) }):wpAny (model P w) A (pyHash (.ref a)) Q E s:=by
 obtain⟨a',o,vs,n,e,h1,h2,h3,h4⟩:=Y0 r
 cases e
 refine pyHash_slot (T := "tuple") ⟨o,h1,h2⟩ F.slot_tuple_hash F.entry_tuple_hash (F.args_tuple_hash_1 _) (beq_builtin_none _) (.inr (by omega)) ?_
 show wpAny _ _ (Builtin.Tuple.tupleItemsOf (.ref a) >>= _) _ _ s
 refine wpAny_bind (wpAny_tupleItemsOf h1 h3 (wpAny_bind ?_))
 rw[← Array.forIn_toList]
 refine bh8 (by simp only[Around.in1_units];omega) k _ _ _ _ h4 fun b e=>?_
 show wpAny _ _ (retInt (Builtin.Tuple.tupleHashOf b.toList)) _ _ _
 rw[e,List.nil_append]
 exact wpAny_bind (wpAny_mkInt (wpAny_pure ⟨_,_,rfl,h⟩))
theorem aZ1{n:Nat}{a:Addr}{o:Obj}{vs:Array Value}{m:Nat}{Q:Bool->Shared->Prop}(h1:s.heap.get? a=some o) (h2:o.cls=.type "tuple") (h3:o.data=.seq vs m)
  (hv:∀v∈vs.toList,∀{A:Around}{E:Value->Shared->Prop}{Q:Bool->Shared->Prop},Q true s->wpAny (model P w) A (eqIsQuiet n v) Q E s) (h:Q true s):wpAny (model P w) A (eqIsQuiet (n+1) (.ref a)) Q E s:=by
 have hT:s.TypeIs (.ref a) "tuple" := ⟨o,h1,h2⟩
 unfold eqIsQuiet
 refine wpAny_bind (wpAny_specialOf hT F.slot_tuple_eq.lookup ?_)
 show wpAny _ _ (isInstance (.ref a) (.type "tuple") >>= _) _ _ s
 refine wpAny_bind (wpAny_isInstance hT isSubtype_tuple_tuple ?_)
 simp only[Bool.not_true,Bool.false_eq_true,if_false]
 refine wpAny_bind (wpAny_seqItems h1 h3 (wpAny_bind ?_))
 show wpAny _ _ (forIn vs _ _) _ _ s
 rw[← Array.forIn_toList]
 refine wpAny_forIn_list _ (fun O4 r s'=>r.1=none/\s'=s/\∀v∈O4,v∈vs.toList) _ ?_ ?_ _ _ ⟨rfl,rfl,fun _ q=>q⟩
 ·rintro v O4 r s' ⟨hr,rfl,q⟩
  refine wpAny_bind (hv v (q v (.head _)) ?_)
  simp only[Bool.not_true,Bool.false_eq_true,if_false]
  exact wpAny_pure ⟨rfl,rfl,fun u z=>q u (.tail _ z)⟩
 ·rintro⟨r1,r2⟩ s' ⟨hr,rfl,_⟩
  cases hr
  exact wpAny_pure h
theorem aE1{h:Heap}:∀{ds:List D}{vs:List Value}{as:List Addr},ReadsAll h vs ds as->∀v∈vs,∃d∈ds,∃bs,Reads h v d bs
 | _,_,_,.nil,v,q=>nomatch q
 | _,_,_,.cons r1 r2,v,q=>by
  rcases List.mem_cons.mp q with rfl|q
  ·exact⟨_,.head _,_,r1⟩
  ·obtain⟨d,m,bs,r⟩:=aE1 r2 v q
   exact⟨d,.tail _ m,bs,r⟩
theorem bK3{k:List (List Int)}{a:Addr}{as:List Addr}{Q:Bool->Shared->Prop}(r:Reads s.heap (.ref a) (e2 k) as) (h:Q true s):wpAny (model P w) A (eqIsQuiet 8 (.ref a)) Q E s:=by
 obtain⟨a',o,vs,n,e,h1,h2,h3,h4⟩:=Y0 r
 cases e
 refine aZ1 h1 h2 h3 (fun v hv A E Q q=>?_) h
 obtain⟨d,hd,bs,r'⟩:=aE1 h4 v hv
 obtain⟨x,_,rfl⟩:=List.mem_map.mp hd
 obtain⟨b,o',us,m,rfl,g1,g2,g3,g4⟩:=Y0 r'
 refine aZ1 g1 g2 g3 (fun u hu A E Q q=>?_) q
 obtain⟨d',hd',bs',r''⟩:=aE1 g4 u hu
 obtain⟨i,_,rfl⟩:=List.mem_map.mp hd'
 cases r''
 rw[eqIsQuiet_byValue _ rfl]
 exact wpAny_pure q
theorem ae6{h:Heap}:∀{x y:List Int}{vs:List Value}{as bs:List Addr},ReadsAll h vs (x.map .int) as->ReadsAll h vs (y.map .int) bs->x=y
 | [],[],_,_,_,_,_=>rfl
 | [],_::_,_,_,_,r,q=>by cases r;cases q
 | _::_,[],_,_,_,r,q=>by cases q;cases r
 | i::x,j::y,_,_,_,r,q=>by
  cases r with
  | cons r1 r2 =>
   cases q with
   | cons q1 q2=>cases r1;cases q1;rw[ae6 r2 q2]
theorem aQ6{h:Heap}{x y:List Int}{v:Value}{as bs:List Addr}(r:Reads h v (e1 x) as) (q:Reads h v (e1 y) bs):x=y:=by
 obtain⟨a,o,vs,n,e,h1,h2,h3,h4⟩:=Y0 r
 obtain⟨a',o',vs',n',e',g1,g2,g3,g4⟩:=Y0 q
 cases e.symm.trans e';cases h1.symm.trans g1;cases h3.symm.trans g3
 exact ae6 h4 g4
theorem aj4{h:Heap}:∀{x y:List (List Int)}{vs:List Value}{as bs:List Addr},ReadsAll h vs (x.map e1) as->ReadsAll h vs (y.map e1) bs->x=y
 | [],[],_,_,_,_,_=>rfl
 | [],_::_,_,_,_,r,q=>by cases r;cases q
 | _::_,[],_,_,_,r,q=>by cases q;cases r
 | i::x,j::y,_,_,_,r,q=>by
  cases r with
  | cons r1 r2 =>
   cases q with
   | cons q1 q2=>rw[aQ6 r1 q1,aj4 r2 q2]
theorem aQ5{h:Heap}{x y:List (List Int)}{v:Value}{as bs:List Addr}(r:Reads h v (e2 x) as) (q:Reads h v (e2 y) bs):x=y:=by
 obtain⟨a,o,vs,n,e,h1,h2,h3,h4⟩:=Y0 r
 obtain⟨a',o',vs',n',e',g1,g2,g3,g4⟩:=Y0 q
 cases e.symm.trans e';cases h1.symm.trans g1;cases h3.symm.trans g3
 exact aj4 h4 g4
theorem aY9{h h':Heap}{f:α->D}(hf:∀x v as,Reads h v (f x) as->Reads h' v (f x) as):∀{x:List α}{vs:List Value}{as:List Addr},ReadsAll h vs (x.map f) as->ReadsAll h' vs (x.map f) as
 | [],_,_,r=>by cases r;exact .nil
 | i::x,_,_,r=>by
  cases r with
  | cons r1 r2=>exact .cons (hf _ _ _ r1) (aY9 hf r2)
theorem aJ9{h h':Heap}{f:α->D}{d:Addr}{o:Obj}{es:Array DictEntry}{ep:Nat}(ho:h.get? d=some o) (hd:o.data=.dict es ep) (hs:Heap.SameBut d h h') (hf:∀x v as,Reads h v (f x) as->Reads h' v (f x) as)
  {x:List α}{v:Value}{as:List Addr}(r:Reads h v (.tuple (x.map f)) as):Reads h' v (.tuple (x.map f)) as:=by
 obtain⟨a,o',vs,n,rfl,h1,h2,h3,h4⟩:=Y0 r
 have ne:a≠d:=by rintro rfl;cases ho.symm.trans h1;rw[hd]at h3;cases h3
 exact .tuple ((hs.2 a ne).trans h1) h2 h3 (aY9 hf h4)
theorem aA1:∀x y:List Int,PyData.eqvAll (x.map .int) (y.map .int)=decide (x=y)
 | [],[]=>by rfl
 | [],_::_=>by rfl
 | _::_,[]=>by rfl
 | i::x,j::y=>by simp only[List.map_cons,PyData.eqvAll,aA1 x y,PyData.eqv];by_cases h:i=j<;>by_cases g:x=y<;>simp[h,g]
theorem bU3(x y:List Int):PyData.eqv (e1 x) (e1 y)=decide (x=y):=by simp only[e1,PyData.eqv];exact aA1 x y
theorem aN1:∀x y:List (List Int),PyData.eqvAll (x.map e1) (y.map e1)=decide (x=y)
 | [],[]=>by rfl
 | [],_::_=>by rfl
 | _::_,[]=>by rfl
 | i::x,j::y=>by simp only[List.map_cons,PyData.eqvAll,aN1 x y,bU3];by_cases h:i=j<;>by_cases g:x=y<;>simp[h,g]
theorem bU2(x y:List (List Int)):PyData.eqv (e2 x) (e2 y)=decide (x=y):=by simp only[e2,PyData.eqv];exact aN1 x y
theorem aa6:∀x:List Int,PyData.canLayAll0 (x.map .int)=true/\PyData.depthAll (x.map .int)<=1
 | []=>⟨rfl,by simp[PyData.depthAll]⟩
 | i::x=>⟨by simp[PyData.canLayAll0,PyData.canLay0,(aa6 x).1],by have:=(aa6 x).2;simp only[List.map_cons,PyData.depthAll,PyData.depth];omega⟩
theorem ah6:∀x:List (List Int),PyData.canLayAll0 (x.map e1)=true/\PyData.depthAll (x.map e1)<=2
 | []=>⟨rfl,by simp[PyData.depthAll]⟩
 | i::x=>⟨by simp[PyData.canLayAll0,e1,PyData.canLay0,(aa6 i).1];exact(ah6 x).1,by have:=(ah6 x).2;have:=(aa6 i).2;simp only[List.map_cons,PyData.depthAll,PyData.depth,e1]at *;omega⟩
theorem aF1(x:List (List Int)):(e2 x).canLay0=true/\(e2 x).depth<=3:=⟨by simp[e2,PyData.canLay0];exact(ah6 x).1,by have:=(ah6 x).2;simp only[e2,PyData.depth];omega⟩
end
noncomputable def k2(P:Program) (w:World):HeapKind P w (List (List Int)) where
 is h k a:=∃as,Reads h (.ref a) (e2 k) as
 hash:=hs2 P w
 draws k:=dr2 k+1
 room A:=A.units+9 < cLine
 inj:=fun⟨_,r⟩ ⟨_,q⟩=>aQ5 r q
 keeps:=fun⟨_,r⟩ ho hd hs=>⟨_,aJ9 ho hd hs (fun x v as r=>aJ9 ho hd hs (fun i v as r=>by cases r;exact .int _ _) r) r⟩
 pyHash:=fun hu ⟨_,r⟩ h=>cg9 (by omega) r h
 eqBool:=fun{A E s x y a b Q} hu ⟨_,r⟩ ⟨_,q⟩ h=>eqAt_reads (e2 x) (e2 y) A s _ _ _ _ r q (aF1 x).1 (aF1 y).1 (by have:=(aF1 x).2;have:=Nat.min_le_left (e2 x).depth (e2 y).depth;omega) _ _ _ _ (by rw[bU2];exact h)
 quiet:=fun⟨_,r⟩ h=>bK3 r h
end G
namespace G
open PySem PySem.Spec PySem.W PyProof.Rows L2 PySem.SeqAt
section
variable {prog:Program}{w:World}{A:Around}{E:Value->Shared->Prop}{s:Shared}
end
end G
namespace G
open PySem PySem.Spec PySem.W PyProof.Rows L2 PySem.SeqAt
section
variable {X:Cx}{pins:List (Addr×Obj)}{σ:L2.St}{A:Around}{S it d:Addr}{ws:List (Addr×Int)}{es:Array DictEntry}{ep:Nat}{od:Obj}
end
end G
namespace G
open PySem PySem.Spec PyProof.Rows L2 PySem.SeqAt PySem.MeetsSeq PySem.MeetsSeq2 PySem.MeetsSeq3 PySem.SeqRoads2
open PySem.AutoSeq1 (wpAny_loadPart')
end G
namespace G
open PySem PySem.Spec PyProof.Rows L2
noncomputable def Itd(u:Int) (n:Nat):It:=⟨fun i _=>i < n,fun i H x H'=>H'=H/\x=.int (u - i),fun i _=>n<=i⟩
theorem aP4{P:Program}{w:World}{K:PySem.W.Frag}{tg:Expr}(J:Addr) (u:Int) (n:Nat):Turn P w K tg (Itd u n) [J] J (fun i h=>IsRangeIter h J (u+(i:Nat)*(-1)) ((n:Int) - (i:Nat)) (-1)) where
 mem:=List.mem_singleton.mpr rfl
 obj:=fun i h at_ c hc=>by
  cases List.mem_singleton.mp hc
  refine⟨_,at_,fun v y=>?_⟩
  cases(show Data.fields _=Data.cell v from y)
 keep:=fun i h h' at_ k=>k J (List.mem_singleton.mpr rfl) _ at_
 item:=by
  intro X rP rw' rK hc i pins s σ H E I fp at_ more
  subst rP rw' rK
  obtain⟨p0,p1,_,p3,p4,p5⟩:=fp J (List.mem_singleton.mpr rfl)
  refine(Walks.range (prog:=X.prog) (w:=X.w) (I.ok.hd hc) J u (-1) n).item i s _ _ more at_ fun v h' tk hv at2 kk=>?_
  obtain⟨t,rfl⟩:=hv
  have I2:Inv X pins σ H { s with heap:=h',toks:=tk }:=I.turned (fun c o hc e=>kk c o (fun z=>hc (List.mem_singleton.mp z)) e) p0 p1 p3 p4 p5
  refine⟨_,rfl,aM9 (s:={ s with heap:=h',toks:=tk }) (n := "range_iterator") at2 rfl rfl (by decide) ⟨.int (u - i),H,I2,⟨t,?_⟩,⟨rfl,rfl⟩,at2,fun c hc=>(fp c hc).1⟩⟩
  rw[show u+(i:Int)*(-1)=u - i by omega]
 done:=by
  intro X rP rw' rK hc i pins s σ H E I fp at_ no
  subst rP rw' rK
  obtain⟨p0,p1,_,p3,p4,p5⟩:=fp J (List.mem_singleton.mpr rfl)
  have le:n<=i:=no
  exact wpAny_pyNext_range_end (I.ok.hd hc) at_ (by omega) fun h' eb=>⟨rfl,I.turned (t':=s.toks) (fun c o hc e=>eb c o hc e) p0 p1 p3 p4 p5⟩
 self:=fun _ _ _ _ _ at_ h=>wpAny_pyIter_rangeiter at_ h
theorem an7(a b:Int):Builtin.Range.rangeSize a b (-1)=((a - b).toNat:Int):=by
 unfold Builtin.Range.rangeSize
 rw[if_neg (by decide)]
 split
 ·rw[show -(-1:Int)=1 by decide,Int.ediv_one];omega
 ·omega
theorem aD4{a b:Int}(h:(-(2 ^ 61)<=a/\a < 2 ^ 61)/\-(2 ^ 61)<=b/\b < 2 ^ 61):Builtin.Range.small a b (-1)=true:=by
 unfold Builtin.Range.small
 rw[an7]
 simp only[Builtin.Range.rangeFitsLong,Bool.and_eq_true,Bool.or_eq_true,decide_eq_true_eq,beq_iff_eq]
 refine⟨by omega,.inr ?_⟩
 rw[if_neg (by decide)]
 simp only[Bool.and_eq_true,decide_eq_true_eq]
 omega
section
variable {X:Cx}{tg:Expr}
theorem bz0{pins:List (Addr×Obj)}{σ:L2.St}{H:Hp}{s:Shared}{R:It->Hp->Prop}{E:Value->Shared->Prop}{a b:Int}{t u v:Tok}{tk:Nat}(I:Inv X pins σ H s) (h:(-(2 ^ 61)<=a/\a < 2 ^ 61)/\-(2 ^ 61)<=b/\b < 2 ^ 61)
  (q:R (Itd a (a - b).toNat) H):wpAny (model X.prog X.w) X.A (pyIter (.ref s.heap.objs.size)) (PIE X pins σ tg R) E { s with heap:=s.heap.push { cls:=.type "range", data:=.fields #[.int a t,.int b u,.int (-1) v] },toks:=tk }:=by
 refine wpAny_pyIter_range (IsRange.new ..) (aD4 h) ?_
 generalize hw:s.heap.push { cls:=.type "range", data:=.fields #[.int a t,.int b u,.int (-1) v] }=h2
 have I2:Inv X pins σ H { s with heap:=h2,toks:=tk }:=I.kept fun c o e=>by rw[← hw];exact Heap.get?_push_of_some _ e
 refine⟨h2.objs.size,[h2.objs.size],_,_,H,rfl,I2.kept (t':=tk) fun c o e=>Heap.get?_push_of_some _ e,aP4 _ a (a - b).toNat,?_,fun c hc=>?_,q⟩
 ·show IsRangeIter _ _ (a+((0:Nat):Int)*(-1)) ((((a - b).toNat:Nat):Int) - ((0:Nat):Int)) (-1)
  rw[show a+((0:Nat):Int)*(-1)=a by simp,show(((a - b).toNat:Nat):Int) - ((0:Nat):Int)=Builtin.Range.rangeSize a b (-1) by rw[an7];simp]
  exact Heap.get?_push_size _ rfl
 ·cases List.mem_singleton.mp hc
  exact I2.fpOk (Nat.le_refl _) (I2.hok.fresh (Nat.le_refl _))
noncomputable def cm6(ta:TA):TI:=fun σ H R=>ta σ H fun vs H1=>∃i j:Int,vs=[.int i,.int j,.int (-1)]/\((-(2 ^ 61)<=i/\i < 2 ^ 61)/\-(2 ^ 61)<=j/\j < 2 ^ 61)/\R (Itd i (i - j).toNat) H1
theorem bs4(hg:Gl X "range") (hm:X.mg "range" = none) (ha:PA X [ea,eb,ec] ta) (hs:starEach [ea,eb,ec] X.env=(false,eval ea X.env)::starEach [eb,ec] X.env) (hp:(backTo pos (starEach [eb,ec] X.env)).any (·.1)=false) :
  PI X tg (.Call (.Name "range" p) [ea,eb,ec] [] pos) (cm6 ta):=by
 intro pins s σ H R I h
 refine Call_ (t6 I hg hm boot_range (PyProof.Rows.callWith_type1 (thn (ha pos pins s σ H _ I h) fun us s1 ⟨vs,H1,I1,r1,q1⟩=>?_) hs hp))
 obtain⟨i,j,e,c,q⟩:=q1
 subst e
 cases r1 with
 | cons r rr =>
  cases rr with
  | cons r' rr =>
   cases rr with
   | cons r'' rr =>
    cases rr
    obtain⟨t,rfl⟩:=r
    obtain⟨t',rfl⟩:=r'
    obtain⟨t'',rfl⟩:=r''
    exact call_range_3 (by decide) (bz0 I1 c q) (.inl (PyProof.noPylong_small (by decide)))
noncomputable def af4(a b:Int):List D:=(List.range (a - b).toNat).map fun(i:Nat)=>PyData.int (a - i)
theorem av3{K:PySem.W.Frag}{a b:Int}{Hf1:Hp}:av0 K (Itd a (a - b).toNat) (af4 a b) Hf1:=by
 intro i H Hf sa sb
 have hl:(af4 a b).length=(a - b).toNat:=by simp[af4]
 refine⟨fun h=>by rw[hl]at h;exact h,fun d hd=>?_⟩
 have lt:i < (a - b).toNat:=hl ▸ (List.getElem?_eq_some_iff.mp hd).1
 refine⟨lt,fun x H' ⟨e1,e2⟩=>?_⟩
 subst e1 e2
 have:(af4 a b)[i]? = some (.int (a - i)):=by simp[af4,lt]
 cases this.symm.trans hd
 exact⟨Hf,Grow.refl sb,rfl⟩
noncomputable def az6(f:Rho->Option (List D)):Rho->Option (List D):=fun ρ=>(f ρ).bind fun l=>match l with
 | [.int i,.int j,.int k]=>if k = -1/\(-(2 ^ 61)<=i/\i < 2 ^ 61)/\-(2 ^ 61)<=j/\j < 2 ^ 61 then some (af4 i j) else none
 | _=>none
theorem aS4(hg:Gl X "range") (hm:X.mg "range" = none) (ha:JA X [ea,eb,ec] f) (hs:starEach [ea,eb,ec] X.env=(false,eval ea X.env)::starEach [eb,ec] X.env) (hp:(backTo pos (starEach [eb,ec] X.env)).any (·.1)=false) :
  JI X tg (.Call (.Name "range" p) [ea,eb,ec] [] pos) (az6 f):=fun ρ ds q=>by
 obtain⟨l,hf,q⟩:=xbm q
 split at q
 ·split at q
  ·rename_i i j k c
   obtain⟨rfl,c⟩:=c
   cases q
   exact aj8 (bs4 hg hm (fun pos pins s σ H Q I t=>ha.run ρ _ hf pos pins s σ H Q I t) hs hp) fun σ H R ⟨H0,Hf,ss,sl,k⟩=>⟨H0,Hf,ss,sl,fun vs H1 Hf1 g r=>by
    obtain⟨v1,_,rfl,r1,v2,_,rfl,r2,v3,_,rfl,r3,rfl⟩:=r
    exact⟨i,j,by rw[show v1=_ from r1,show v2=_ from r2,show v3=_ from r3],c,k _ H1 Hf1 g av3⟩⟩
  ·cases q
 ·cases q
end
end G
namespace G
open PySem PySem.Spec PyProof.Rows L2
section
variable {X:Cx}{pins:List (Addr×Obj)}{σ:L2.St}{H H':Hp}{s s':Shared}{g B:Heap}
end
section
variable {P:Program}{w:World}{K:PySem.W.Frag}{mg:Str->Option Value}{base:Heap}{N:List Str}{qual:Str}{scope:Scope}{f:Addr}{cd:Value}{A:Around}{outer:List Env}{s:Shared}{H H1:Hp}{E:XK}
 {pins:List (Addr×Obj)}{σ:L2.St}{s1 s':Shared}{h2:Heap}{a C:Addr}{vs:List Value}
end
end G
namespace G
open PySem PySem.Spec PyProof.Rows L2
section
variable {X:Cx}{m:Bool}(hx:∀e s,X.xe e s->False)
include hx
end
end G
namespace G
open PySem PySem.Spec PyProof.Rows L2
section
variable {M:Model}{A:Around}{E:Value->Shared->Prop}{h:Heap}{g:Array GenState}{d:Drawn}{t:Nat}{os:OsState}
variable {nm qn nm2 qn2:Str}{C N D N2:Addr}{bs bm bs2 bm2:List Value}{hd hd2:Bool}{sn sn2:List Str}{sub sub2:List Value}{ab ab2:Bool}{col col2:Option Bool}{dd dd2:Option Addr}{k0 k1 k2 k3 k5 j0 j1 j2 j3 j5:Option Value}{nid nid2:String}
end
section
variable {X:Cx}{pins:List (Addr×Obj)}{σ:L2.St}{H:Hp}{s:Shared}
end
section
variable {X:Cx}{pins:List (Addr×Obj)}{σ:L2.St}{H:Hp}{s:Shared}{a:Addr}{oe:Obj}
noncomputable abbrev fz(oe:Obj) (a:Addr):HO:=.frz oe (.own a)
end
end G
namespace G
open PySem PySem.Spec PyProof.Rows L2
section
variable {X:Cx}
end
end G
namespace G
open PySem PySem.Spec PyProof.Rows L2
section
variable {prog:Program}{w:World}{A:Around}{E:Value->Shared->Prop}{h:Heap}{g:Array GenState}{d:Drawn}{t:Nat}{os:OsState}{a C:Addr}{o:Obj}{K:PySem.W.Frag}
end
section
variable {X:Cx}
end
end G
namespace G
open PySem PySem.Spec PyProof.Rows L2
section
variable {X:Cx}
end
end G
namespace G
open PySem PySem.Spec PyProof.Rows L2
section
variable {X:Cx}
end
end G
namespace G
open PySem PySem.Spec PyProof.Rows L2
section
variable {X:Cx}
end
section
variable {X:Cx}
end
end G
namespace G
open PySem PySem.Spec PyProof.Rows L2
section
variable {X:Cx}
end
end G
namespace G
theorem xg0{α:Type}{a:α}{l:List α}:(a::l)[0]? = some a:=rfl
theorem xg1{α:Type}{a:α}{i:Nat}{l:List α}:(a::l)[i+1]? = l[i]?:=rfl
theorem xw0{α:Type}{a b:α}{l:List α}:(a::l).set 0 b=b::l:=rfl
theorem xw1{α:Type}{a b:α}{i:Nat}{l:List α}:(a::l).set (i+1) b=a::l.set i b:=rfl
theorem xbs{α β:Type}{a:α}{f:α->Option β}:(some a).bind f=f a:=rfl
theorem xms{α β:Type}{a:α}{f:α->β}:(some a).map f=some (f a):=rfl
theorem xca{α:Type}{a:α}{l m:List α}:(a::l)++m=a::(l++m):=rfl
theorem xna{α:Type}{l:List α}:[]++l=l:=rfl
theorem xmc{α β:Type}{f:α->β}{a:α}{l:List α}:(a::l).map f=f a::l.map f:=rfl
theorem xmn{α β:Type}{f:α->β}:[].map f=[]:=rfl
theorem xnf:(!false)=true:=rfl
theorem xnt:(!true)=false:=rfl
theorem xft:(false=true)=False:=by simp
end G
local macro_rules
  | `(‹$x›) => `(some (G.B.val $x))
local macro_rules
  | `(⇑$x) => `(G.dC (PySem.PyData.int $x))
noncomputable section
namespace Sh
open PySem PySem.Spec PyProof.Rows L2 G
def ae1:DS:=(O3 (X9 (tB2 neD (A2 1) ⇑0) (O3 (R5 2 (A6 W5 (A2 0) (A2 1))) (O3 (R5 0 (A2 1)) (R5 1 (A2 2))))) (N9 (A2 0)))
def S0:List D->Option D:=U1 ae1 3
def U6:DS:=(O3 (R5 2 (B0 S0 (A0 (A2 0) (A0 (A2 1) A8)))) (N9 (Q9 (A0 (A6 ab4 (A2 0) (A2 2)) (A0 (A6 ab4 (A2 1) (A2 2)) A8)))))
def R3:List D->Option D:=U1 U6 3
def U7:DS:=(N9 (A6 leI (A6 T8 (dIx (C3 0) ⇑0) (dIx (C3 1) ⇑1)) (A6 T8 (dIx (C3 1) ⇑0) (dIx (C3 0) ⇑1))))
def Z3:List D->Option D:=U1 U7 2
def ai3:DS:=(N9 (B0 R3 (A0 (A6 Y6 (A6 T8 (dIx (C3 0) ⇑0) (dIx (C3 1) ⇑1)) (A6 T8 (dIx (C3 1) ⇑0) (dIx (C3 0) ⇑1))) (A0 (A6 T8 (dIx (C3 0) ⇑1) (dIx (C3 1) ⇑1)) A8))))
def S7:List D->Option D:=U1 ai3 2
def Z2:DS:=(N9 (B0 R3 (A0 (A6 W1 (A6 T8 (dIx (C3 0) ⇑0) (dIx (C3 1) ⇑1)) (A6 T8 (dIx (C3 1) ⇑0) (dIx (C3 0) ⇑1))) (A0 (A6 T8 (dIx (C3 0) ⇑1) (dIx (C3 1) ⇑1)) A8))))
def V9:List D->Option D:=U1 Z2 2
def ai2:DS:=(N9 (B0 R3 (A0 (A6 T8 (dIx (C3 0) ⇑0) (dIx (C3 1) ⇑0)) (A0 (A6 T8 (dIx (C3 0) ⇑1) (dIx (C3 1) ⇑1)) A8))))
def U8:List D->Option D:=U1 ai2 2
def k8:DS:=(N9 (B0 V9 (A0 (dC (.tuple [(.int 1),(.int 1)])) (A0 (A2 0) A8))))
def X4:List D->Option D:=U1 k8 1
def S5:DS:=(N9 (ad9 (aP8 (B0 Z3 (A0 (A2 0) (A0 (dC (.tuple [(.int 1),(.int 1)])) A8)))) (A2 0) (dC (.tuple [(.int 1),(.int 1)]))))
def S6:List D->Option D:=U1 S5 1
def L8:DS:=(O3 (sIf (tB2 eqD (A2 0) (dC (.str "plus"))) (N9 (B0 S6 (A0 (B0 S7 (A0 (A2 1) (A0 (A2 2) A8))) A8))) m8) (O3 (sIf (tB2 eqD (A2 0) (dC (.str "atop"))) (N9 (A2 2)) m8) (O3 (sIf (tB2 eqD (A2 0) (dC (.str "cut"))) (N9 (B0 U8 (A0 (A2 2) (A0 (B0 X4 (A0 (A2 1) A8)) A8)))) m8) (N9 (B0 V9 (A0 (B0 S7 (A0 (A2 1) (A0 (A2 2) A8))) (A0 (B0 U8 (A0 (A2 1) (A0 (A2 2) A8))) A8)))))))
def T9:List D->Option D:=U1 L8 3
def K4:DS:=(O3 (sIf (tB2 eqD (A2 0) (dC (.str "plus"))) (N9 (B0 S6 (A0 (B0 S7 (A0 (A2 3) (A0 (A2 4) A8))) A8))) m8) (O3 (sIf (tB2 eqD (A2 0) (dC (.str "screen"))) (N9 (B0 V9 (A0 (B0 S7 (A0 (A2 3) (A0 (A2 4) A8))) (A0 (B0 U8 (A0 (A2 3) (A0 (A2 4) A8))) A8)))) m8) (O3 (R5 5 (B0 U8 (A0 (A2 4) (A0 (B0 X4 (A0 (A2 1) A8)) A8)))) (O3 (sIf (tB2 eqD (A2 0) (dC (.str "over"))) (N9 (B0 S7 (A0 (A2 3) (A0 (A2 5) A8)))) m8) (O3 (sIf (tB2 eqD (A2 0) (dC (.str "multiply"))) (N9 (B0 S7 (A0 (B0 S7 (A0 (B0 U8 (A0 (A2 3) (A0 (A2 4) A8))) (A0 (B0 U8 (A0 (A2 3) (A0 (B0 X4 (A0 (A2 2) A8)) A8))) A8))) (A0 (A2 5) A8)))) m8) (O3 (sIf (tB2 eqD (A2 0) (dC (.str "atop"))) (N9 (B0 S7 (A0 (B0 U8 (A0 (A2 3) (A0 (A2 2) A8))) (A0 (A2 5) A8)))) m8) (N9 (A2 5))))))))
def S1:List D->Option D:=U1 K4 6
def aq1:DS:=(O3 (R5 3 (dIx (C3 1) ⇑0)) (O3 (R5 4 (dIx (C3 2) ⇑0)) (O3 (y8 5 (P2 2 [0,3,4] (am8 (qE (au1 (A2 1) (Z6 ⇑1) Z7)) (qE (au1 (A2 2) (Z6 ⇑1) Z7))) (a8 2 (Q2 (O0 0) (Q2 (O0 1) m4))) U0 (B0 S1 (A0 (A2 2) (A0 (A2 3) (A0 (A2 4) (A0 (A2 0) (A0 (A2 1) A8)))))))) (N9 (Q9 (A0 (B0 T9 (A0 (A2 0) (A0 (A2 3) (A0 (A2 4) A8)))) (A0 (dIx (C3 5) ⇑0) (A0 (dIx (C3 5) ⇑1) (A0 (dIx (C3 5) ⇑2) A8)))))))))
def X6:List D->Option D:=U1 aq1 6
def am3:DS:=(O3 (sIf (tB2 eqD (A2 0) (ab6 A8)) (N9 (A6 T8 ⇑7 (A2 1))) m8) (N9 (A6 Y6 (dIx (C3 0) (A6 W5 (A2 1) (ag5 (C3 0)))) (A6 T8 ⇑6553 (A6 ab4 (A2 1) (ag5 (C3 0)))))))
def am4:List D->Option D:=U1 am3 2
def aq0:DS:=(O3 (R5 3 (A6 W5 (A6 Y6 (A6 T8 (A6 W5 (B0 am4 (A0 (A2 0) (A0 (A2 1) A8))) ⇑2147483563) ⇑69069) (A6 T8 ⇑104723 (A6 Y6 (A2 1) ⇑1))) ⇑2147483563)) (O3 (R5 3 (A6 W5 (A6 Y6 (A6 T8 (A2 3) (A2 3)) (A6 ab4 (A2 3) ⇑3)) ⇑2147483399)) (N9 (A6 W5 (A6 ab4 (A6 W5 (A6 Y6 (A6 T8 (A2 3) (A2 3)) (A6 ab4 (A2 3) ⇑7)) ⇑2147483647) ⇑11) (A2 2)))))
def B4:List D->Option D:=U1 aq0 4
def ac2:DS:=(O3 (R5 2 (A2 0)) (O3 (R5 3 (A2 1)) (O3 (X9 (tB2 gtI (A2 2) ⇑0) (aY2 2 3 (A0 (A6 W5 (A2 3) (A2 2)) (A0 (A2 2) A8)))) (N9 (Q9 (A0 (A6 ab4 (A2 0) (A2 3)) (A0 (A6 ab4 (A2 1) (A2 3)) A8)))))))
def ac4:List D->Option D:=U1 ac2 4
def ap8:DS:=(N9 (B0 ac4 (A0 (A6 T8 (dIx (C3 0) ⇑0) (dIx (C3 1) ⇑0)) (A0 (A6 T8 (dIx (C3 0) ⇑1) (dIx (C3 1) ⇑1)) A8))))
def ae4:List D->Option D:=U1 ap8 2
def ap9:DS:=(O3 (R5 2 (A6 Y6 ⇑1 (B0 B4 (A0 (A2 0) (A0 (A2 1) (A0 ⇑12 A8)))))) (O3 (R5 3 (B0 ac4 (A0 (B0 B4 (A0 (A2 0) (A0 (A6 Y6 (A2 1) ⇑1) (A0 (A6 Y6 (A2 2) ⇑1) A8)))) (A0 (A2 2) A8)))) (N9 (dIx (qN (A0 (A2 3) (A0 (A2 3) (A0 (A2 3) (A0 (Q9 (A0 ⇑0 (A0 ⇑1 A8))) (A0 (Q9 (A0 ⇑1 (A0 ⇑1 A8))) A8)))))) (B0 B4 (A0 (A2 0) (A0 (A6 Y6 (A2 1) ⇑2) (A0 ⇑5 A8))))))))
def l0:List D->Option D:=U1 ap9 4
def aB6:DS:=(O3 (R5 2 (B0 l0 (A0 (A2 0) (A0 (A2 1) A8)))) (N9 (A6 Y6 (Q9 (A0 (A2 2) A8)) (af7 (qN (P2 1 [2,0,1] (Q7 ⇑3) (O0 0) U0 (B0 ae4 (A0 (A2 1) (A0 (B0 l0 (A0 (A2 2) (A0 (A6 Y6 (A6 Y6 (A2 3) ⇑3) (A6 T8 ⇑3 (A2 0))) A8))) A8)))))))))
def X5:List D->Option D:=U1 aB6 3
end Sh
namespace Sh
open PySem G
theorem ce7(i j:Int):neD (.int i) (.int j)=some (.bool (!(i==j))):=rfl
theorem ch3(i j:Int):eqD (.int i) (.int j)=some (.bool (i==j)):=rfl
theorem aM8{t:Rho->Option Bool}{f:DS}{n:Nat}{ρ ρ':Rho}(h1:t ρ=some true) (h2:f ρ=some (.nx ρ')):T1 t f (n+1) ρ=T1 t f n ρ':=by
 simp only[T1,h1,h2,xbs,if_true]
theorem bi2:∀(b a:Nat) (x:Option B),∃n x',T1 (tB2 neD (A2 1) ⇑0) (O3 (R5 2 (A6 W5 (A2 0) (A2 1))) (O3 (R5 0 (A2 1)) (R5 1 (A2 2)))) n [‹.int a›,‹.int b›,x]
  = some (.nx [‹.int (Nat.gcd a b)›,‹.int 0›,x']):=by
 intro b
 induction b using Nat.strongRecOn with
 | _ b ih =>
  intro a x
  by_cases hb:b=0
  ·subst hb
   refine⟨1,x,?_⟩
   rw[Nat.gcd_zero_right]
   rfl
  ·obtain⟨n,x',h⟩:=ih (a % b) (Nat.mod_lt _ (Nat.pos_of_ne_zero hb)) b (‹.int ((a % b:Nat):Int)›)
   refine⟨n+1,x',?_⟩
   have e1:tB2 neD (A2 1) ⇑0 [‹.int a›,‹.int b›,x]=some true:=by
    show(neD (.int b) (.int 0)).bind i7=some true
    rw[ce7]
    have:((b:Int)==0)=false:=by simp;omega
    rw[this];rfl
   have e2:W5 (.int a) (.int b)=some (.int ((a % b:Nat):Int)):=by
    show(if(0:Int) < (b:Int) then some (PyData.int ((a:Int) % (b:Int))) else none)=_
    rw[if_pos (by omega)]
    simp
   have e3:O3 (R5 2 (A6 W5 (A2 0) (A2 1))) (O3 (R5 0 (A2 1)) (R5 1 (A2 2))) [‹.int a›,‹.int b›,x]=some (.nx [‹.int b›,‹.int ((a % b:Nat):Int)›,‹.int ((a % b:Nat):Int)›]):=by
    show((((W5 (.int a) (.int b))).map fun d=>Fl.nx [‹.int a›,‹.int b›,‹d›]).bind _)=_
    rw[e2]
    rfl
   rw[aM8 e1 e3,h,Nat.gcd_comm b,Nat.gcd_comm a b,← Nat.gcd_rec]
theorem cj0(a b:Nat):S0 [.int a,.int b]=some (.int (Nat.gcd a b)):=by
 obtain⟨n,x',h⟩:=bi2 b a none
 show((X9 _ _ [‹.int a›,‹.int b›,none]).bind _).bind _=_
 rw[an8 h]
 rfl
theorem aR8:∀(a b:Nat) (t u:D),∃n,T1 (tB2 gtI (A2 2) ⇑0) (aY2 2 3 (A0 (A6 W5 (A2 3) (A2 2)) (A0 (A2 2) A8))) n [‹t›,‹u›,‹.int a›,‹.int b›]
  = some (.nx [‹t›,‹u›,‹.int 0›,‹.int (Nat.gcd a b)›]):=by
 intro a
 induction a using Nat.strongRecOn with
 | _ a ih =>
  intro b t u
  by_cases ha:a=0
  ·subst ha
   refine⟨1,?_⟩
   rw[Nat.gcd_zero_left]
   rfl
  ·obtain⟨n,h⟩:=ih (b % a) (Nat.mod_lt _ (Nat.pos_of_ne_zero ha)) a t u
   refine⟨n+1,?_⟩
   have e1:tB2 gtI (A2 2) ⇑0 [‹t›,‹u›,‹.int a›,‹.int b›]=some true:=by
    show some (decide ((0:Int) < (a:Int)))=some true
    rw[decide_eq_true (by omega)]
   have e2:W5 (.int b) (.int a)=some (.int ((b % a:Nat):Int)):=by
    show(if(0:Int) < (a:Int) then some (PyData.int ((b:Int) % (a:Int))) else none)=_
    rw[if_pos (by omega)]
    simp
   have e3:aY2 2 3 (A0 (A6 W5 (A2 3) (A2 2)) (A0 (A2 2) A8)) [‹t›,‹u›,‹.int a›,‹.int b›]=some (.nx [‹t›,‹u›,‹.int ((b % a:Nat):Int)›,‹.int a›]):=by
    show((W5 (.int b) (.int a)).bind fun d=>(some [PyData.int (a:Int)]).map fun ds=>d::ds).bind _=_
    rw[e2]
    rfl
   rw[aM8 e1 e3,h,← Nat.gcd_rec]
def fr(r:Rat):D:=.tuple [.int r.num,.int r.den]
theorem K6{i:Int}{k:Nat}(h:i.natAbs < 2 ^ k) (hk:k<=8000):E9 i:=Nat.lt_of_lt_of_le h (Nat.pow_le_pow_right (by decide) hk)
theorem ay2(a b:Nat) (hb:0 < b):fr (mkRat a b)=.tuple [.int ((a / Nat.gcd a b:Nat):Int),.int ((b / Nat.gcd a b:Nat):Int)]:=by
 unfold fr
 rw[Rat.num_mkRat,Rat.den_mkRat,if_neg (by omega),if_neg (by omega)]
 have e:b.gcd (a:Int).natAbs=Nat.gcd a b:=by rw[Int.natAbs_natCast,Nat.gcd_comm]
 rw[e]
 simp
theorem aN5(a b x k:Nat) (hb:0 < b) (hk:b < 2 ^ k) (hk8:k<=8000):ab4 (.int x) (.int (Nat.gcd a b))=some (.int ((x / Nat.gcd a b:Nat):Int)):=by
 have g0:0 < Nat.gcd a b:=Nat.gcd_pos_of_pos_right _ hb
 have gs:E9 (Nat.gcd a b:Nat):=K6 (k:=k) (by rw[Int.natAbs_natCast];exact Nat.lt_of_le_of_lt (Nat.le_of_dvd hb (Nat.gcd_dvd_right a b)) hk) hk8
 show(if(0:Int) < ((Nat.gcd a b:Nat):Int)/\E9 (Nat.gcd a b:Nat) then some (PyData.int ((x:Int) / ((Nat.gcd a b:Nat):Int))) else none)=_
 rw[if_pos ⟨by omega,gs⟩]
 simp
theorem av2(a b k:Nat) (hb:0 < b) (hk:b < 2 ^ k) (hk8:k<=8000):R3 [.int a,.int b]=some (fr (mkRat a b)):=by
 have d:=fun x=>aN5 a b x k hb hk hk8
 have e:U6 [‹.int a›,‹.int b›,none]=some (.rt (fr (mkRat a b))):=by
  rw[ay2 a b hb]
  simp only[U6,O3,R5,B0,A0,A8,A2,xg0,xg1,xbs,xms,cj0,xw1,xw0,N9,Q9,A6,d]
 show(U6 [‹.int a›,‹.int b›,none]).bind _=_
 rw[e];rfl
theorem bm5(a b k:Nat) (hb:0 < b) (hk:b < 2 ^ k) (hk8:k<=8000):ac4 [.int a,.int b]=some (fr (mkRat a b)):=by
 have d:=fun x=>aN5 a b x k hb hk hk8
 obtain⟨n,h⟩:=aR8 a b (.int a) (.int b)
 have e:ac2 [‹.int a›,‹.int b›,none,none]=some (.rt (fr (mkRat a b))):=by
  rw[ay2 a b hb]
  simp only[ac2,O3,R5,B0,A0,A8,A2,xg0,xg1,xbs,xms,xw1,xw0,N9,Q9,A6,d,an8 h]
 show(ac2 [‹.int a›,‹.int b›,none,none]).bind _=_
 rw[e];rfl
structure Bd (k:Nat) (r:Rat):Prop where
 nn:0<=r
 num:r.num.natAbs < 2 ^ k
 den:r.den < 2 ^ k
theorem Bd.mono{j k:Nat}{r:Rat}(h:Bd j r) (l:j<=k):Bd k r:=⟨h.nn,Nat.lt_of_lt_of_le h.num (Nat.pow_le_pow_right (by decide) l),Nat.lt_of_lt_of_le h.den (Nat.pow_le_pow_right (by decide) l)⟩
theorem Bd.nat{k:Nat}{r:Rat}(h:Bd k r):r.num=(r.num.natAbs:Int):=by
 have:=Rat.num_nonneg.mpr h.nn
 omega
theorem be1(a b:Nat):0<=mkRat (a:Int) b:=by
 rw[← Rat.num_nonneg,Rat.num_mkRat]
 split
 ·exact Int.le_refl _
 ·exact Int.ediv_nonneg (by omega) (by omega)
theorem Bd.of{a b k:Nat}(hb:0 < b) (h1:a < 2 ^ k) (h2:b < 2 ^ k):Bd k (mkRat a b):=by
 refine⟨be1 a b,?_,?_⟩
 ·rw[Rat.num_mkRat,if_neg (by omega)]
  rw[show((a:Int) / ((b.gcd (a:Int).natAbs:Nat):Int))=((a / b.gcd (a:Int).natAbs:Nat):Int) by simp,Int.natAbs_natCast]
  exact Nat.lt_of_le_of_lt (Nat.div_le_self _ _) h1
 ·rw[Rat.den_mkRat,if_neg (by omega)]
  exact Nat.lt_of_le_of_lt (Nat.div_le_self _ _) h2
theorem M2{a b j k:Nat}(h1:a < 2 ^ j) (h2:b < 2 ^ k):a*b < 2 ^ (j+k):=by
 rw[Nat.pow_add]
 exact Nat.mul_lt_mul'' h1 h2
theorem ar2{j k:Nat}{r s:Rat}(hr:Bd j r) (hs:Bd k s):r*s=mkRat ((r.num.natAbs*s.num.natAbs:Nat):Int) (r.den*s.den):=by
 rw[Rat.mul_def,Rat.normalize_eq_mkRat,Int.natCast_mul,← hr.nat,← hs.nat]
theorem aK2{j k:Nat}{r s:Rat}(hr:Bd j r) (hs:Bd k s):r+s=mkRat ((r.num.natAbs*s.den+s.num.natAbs*r.den:Nat):Int) (r.den*s.den):=by
 rw[Rat.add_def,Rat.normalize_eq_mkRat,Int.natCast_add,Int.natCast_mul,Int.natCast_mul,← hr.nat,← hs.nat]
theorem aW9{j k:Nat}{r s:Rat}(hr:Bd j r) (hs:Bd k s) (l:s<=r):s.num.natAbs*r.den<=r.num.natAbs*s.den:=by
 have:=(Rat.le_iff s r).mp l
 rw[hr.nat,hs.nat]at this
 exact_mod_cast this
theorem aK1{j k:Nat}{r s:Rat}(hr:Bd j r) (hs:Bd k s) (l:s<=r):r - s=mkRat ((r.num.natAbs*s.den - s.num.natAbs*r.den:Nat):Int) (r.den*s.den):=by
 rw[Rat.sub_def,Rat.normalize_eq_mkRat,Int.ofNat_sub (aW9 hr hs l),Int.natCast_mul,Int.natCast_mul,← hr.nat,← hs.nat]
theorem den_pos(r:Rat):0 < r.den:=Nat.pos_of_ne_zero r.den_nz
theorem Bd.mul{j k:Nat}{r s:Rat}(hr:Bd j r) (hs:Bd k s):Bd (j+k) (r*s):=by
 rw[ar2 hr hs]
 exact Bd.of (Nat.mul_pos (den_pos r) (den_pos s)) (M2 hr.num hs.num) (M2 hr.den hs.den)
theorem Bd.add{j k:Nat}{r s:Rat}(hr:Bd j r) (hs:Bd k s):Bd (j+k+1) (r+s):=by
 rw[aK2 hr hs]
 have h1:=M2 hr.num hs.den
 have h2:=M2 hs.num hr.den
 have h3:=M2 hr.den hs.den
 rw[Nat.add_comm k j]at h2
 exact Bd.of (Nat.mul_pos (den_pos r) (den_pos s)) (by rw[Nat.pow_succ];omega) (by rw[Nat.pow_succ];omega)
theorem Bd.sub{j k:Nat}{r s:Rat}(hr:Bd j r) (hs:Bd k s) (l:s<=r):Bd (j+k) (r - s):=by
 rw[aK1 hr hs l]
 have h1:=M2 hr.num hs.den
 have h3:=M2 hr.den hs.den
 exact Bd.of (Nat.mul_pos (den_pos r) (den_pos s)) (by omega) (by omega)
theorem Bd.one:Bd 1 1:=⟨by decide,by decide,by decide⟩
theorem Bd.zero:Bd 1 0:=⟨by decide,by decide,by decide⟩
theorem bi5:fr 1=.tuple [.int 1,.int 1]:=rfl
theorem Bd.sn{k:Nat}{r:Rat}(h:Bd k r) (hk:k<=8000):E9 r.num:=K6 h.num hk
theorem Bd.sd{k:Nat}{r:Rat}(h:Bd k r) (hk:k<=8000):E9 r.den:=K6 (k:=k) (by rw[Int.natAbs_natCast];exact h.den) hk
theorem P5{i j:Int}(h1:E9 i) (h2:E9 j):T8 (.int i) (.int j)=some (.int (i*j)):=by
 show(if E9 i/\E9 j then some (PyData.int (i*j)) else none)=_
 rw[if_pos ⟨h1,h2⟩]
theorem bE5(i j:Int):Y6 (.int i) (.int j)=some (.int (i+j)):=rfl
theorem bC0(i j:Int):W1 (.int i) (.int j)=some (.int (i - j)):=rfl
theorem cf4(i j:Int):leI (.int i) (.int j)=some (.bool (decide (i<=j))):=rfl
theorem ci6(a b:D):L2.atI [a,b] 0=some a:=rfl
theorem ci5(a b:D):L2.atI [a,b] 1=some b:=rfl
theorem ix0{ρ:Rho}{i:Nat}{r:Rat}(h:ρ[i]? = some (‹fr r›)):dIx (C3 i) ⇑0 ρ=some (.int r.num):=by
 simp only[dIx,C3,h,fr,dC,xbs,ci6]
theorem ix1{ρ:Rho}{i:Nat}{r:Rat}(h:ρ[i]? = some (‹fr r›)):dIx (C3 i) ⇑1 ρ=some (.int r.den):=by
 simp only[dIx,C3,h,fr,dC,xbs,ci5]
theorem v0(x:Option B) (l:Rho):(x::l)[0]? = some x:=rfl
theorem v1(y x:Option B) (l:Rho):(y::x::l)[1]? = some x:=rfl
theorem R9{j k:Nat}{r s:Rat}(hr:Bd j r) (hs:Bd k s) (l:j+k<=8000):U8 [fr r,fr s]=some (fr (r*s)):=by
 have e:ai2 [‹fr r›,‹fr s›]=some (.rt (fr (r*s))):=by
  simp only[ai2,N9,B0,A0,A8,A6,ix0 (v0 _ _),ix1 (v0 _ _),ix0 (v1 _ _ _),ix1 (v1 _ _ _),xbs,xms,P5 (hr.sn (by omega)) (hs.sn (by omega)),P5 (hr.sd (by omega)) (hs.sd (by omega))]
  have:=av2 (r.num.natAbs*s.num.natAbs) (r.den*s.den) (j+k) (Nat.mul_pos (den_pos r) (den_pos s)) (M2 hr.den hs.den) l
  rw[← ar2 hr hs,Int.natCast_mul,Int.natCast_mul,← hr.nat,← hs.nat]at this
  rw[this];rfl
 show(ai2 [‹fr r›,‹fr s›]).bind _=_
 rw[e];rfl
theorem S2{j k:Nat}{r s:Rat}(hr:Bd j r) (hs:Bd k s) (l:j+k<=8000):S7 [fr r,fr s]=some (fr (r+s)):=by
 have e:ai3 [‹fr r›,‹fr s›]=some (.rt (fr (r+s))):=by
  simp only[ai3,N9,B0,A0,A8,A6,ix0 (v0 _ _),ix1 (v0 _ _),ix0 (v1 _ _ _),ix1 (v1 _ _ _),xbs,xms,P5 (hr.sn (by omega)) (hs.sd (by omega)),P5 (hs.sn (by omega)) (hr.sd (by omega)),P5 (hr.sd (by omega)) (hs.sd (by omega)),bE5]
  have:=av2 (r.num.natAbs*s.den+s.num.natAbs*r.den) (r.den*s.den) (j+k) (Nat.mul_pos (den_pos r) (den_pos s)) (M2 hr.den hs.den) l
  rw[← aK2 hr hs,Int.natCast_add,Int.natCast_mul,Int.natCast_mul,Int.natCast_mul,← hr.nat,← hs.nat]at this
  rw[this];rfl
 show(ai3 [‹fr r›,‹fr s›]).bind _=_
 rw[e];rfl
theorem W6{j k:Nat}{r s:Rat}(hr:Bd j r) (hs:Bd k s) (l:j+k<=8000) (hl:s<=r):V9 [fr r,fr s]=some (fr (r - s)):=by
 have e:Z2 [‹fr r›,‹fr s›]=some (.rt (fr (r - s))):=by
  simp only[Z2,N9,B0,A0,A8,A6,ix0 (v0 _ _),ix1 (v0 _ _),ix0 (v1 _ _ _),ix1 (v1 _ _ _),xbs,xms,P5 (hr.sn (by omega)) (hs.sd (by omega)),P5 (hs.sn (by omega)) (hr.sd (by omega)),P5 (hr.sd (by omega)) (hs.sd (by omega)),bC0]
  have:=av2 (r.num.natAbs*s.den - s.num.natAbs*r.den) (r.den*s.den) (j+k) (Nat.mul_pos (den_pos r) (den_pos s)) (M2 hr.den hs.den) l
  rw[← aK1 hr hs hl,Int.ofNat_sub (aW9 hr hs hl),Int.natCast_mul,Int.natCast_mul,Int.natCast_mul,← hr.nat,← hs.nat]at this
  rw[this];rfl
 show(Z2 [‹fr r›,‹fr s›]).bind _=_
 rw[e];rfl
theorem ae3{k:Nat}{s:Rat}(hs:Bd k s) (l:k+1<=8000) (hl:s<=1):X4 [fr s]=some (fr (1 - s)):=by
 have e:k8 [‹fr s›]=some (.rt (fr (1 - s))):=by
  simp only[k8,N9,B0,A0,A8,dC,A2,xg0,xbs,xms]
  rw[← bi5,W6 Bd.one hs (by omega) hl];rfl
 show(k8 [‹fr s›]).bind _=_
 rw[e];rfl
theorem aB8{j k:Nat}{r s:Rat}(hr:Bd j r) (hs:Bd k s) (l:j+k<=8000):Z3 [fr r,fr s]=some (.bool (decide (r<=s))):=by
 have e:U7 [‹fr r›,‹fr s›]=some (.rt (.bool (decide (r<=s)))):=by
  simp only[U7,N9,B0,A0,A8,A6,ix0 (v0 _ _),ix1 (v0 _ _),ix0 (v1 _ _ _),ix1 (v1 _ _ _),xbs,xms,P5 (hr.sn (by omega)) (hs.sd (by omega)),P5 (hs.sn (by omega)) (hr.sd (by omega)),cf4]
  simp only[← Rat.le_iff]
 show(U7 [‹fr r›,‹fr s›]).bind _=_
 rw[e];rfl
theorem aB9{k:Nat}{r:Rat}(hr:Bd k r) (l:k+1<=8000):S6 [fr r]=some (fr (if r<=1 then r else 1)):=by
 have e:S5 [‹fr r›]=some (.rt (fr (if r<=1 then r else 1))):=by
  simp only[S5,N9,ad9,aP8,B0,A0,A8,dC,A2,xg0,xbs,xms]
  rw[← bi5,aB8 hr Bd.one l]
  by_cases h:r<=1
  ·simp[h,aP6]
  ·simp[h,aP6]
 show(S5 [‹fr r›]).bind _=_
 rw[e];rfl
end Sh
set_option exponentiation.threshold 9000
namespace Sh
open PySem G L2
theorem cm0(i j:Int):ltI (.int i) (.int j)=some (.bool (decide (i < j))):=rfl
theorem cm8(i j:Int):gtI (.int i) (.int j)=some (.bool (decide (j < i))):=rfl
theorem br3{α:Type}(x:α):List.replicate 0 x=[]:=rfl
theorem br2{α:Type}(x:α):List.replicate 1 x=[x]:=rfl
theorem br1{α:Type}(x:α):List.replicate 2 x=[x,x]:=rfl
theorem aN6(a b c d:D):l8 [a,b,c,d] (some 1) none=[b,c,d]:=rfl
theorem co1(a b c d:D):L2.atI [a,b,c,d] 0=some a:=rfl
theorem co0(a b c d:D):L2.atI [a,b,c,d] 1=some b:=rfl
theorem cn9(a b c d:D):L2.atI [a,b,c,d] 2=some c:=rfl
theorem cn8(a b c d:D):L2.atI [a,b,c,d] 3=some d:=rfl
theorem co4(a b c:D):L2.atI [a,b,c] 0=some a:=rfl
theorem co3(a b c:D):L2.atI [a,b,c] 1=some b:=rfl
theorem co2(a b c:D):L2.atI [a,b,c] 2=some c:=rfl
theorem W7{n k:Nat}(h:n < 2 ^ k) (hk:k<=8000):E9 (n:Int):=K6 (k:=k) (by rw[Int.natAbs_natCast];exact h) hk
theorem ay1{i j:Int}(h:0 < j):W5 (.int i) (.int j)=some (.int (i % j)):=by
 show(if(0:Int) < j then some (PyData.int (i % j)) else none)=_
 rw[if_pos h]
theorem aN4{i j:Int}(h:0 < j) (s:E9 j):ab4 (.int i) (.int j)=some (.int (i / j)):=by
 show(if(0:Int) < j/\E9 j then some (PyData.int (i / j)) else none)=_
 rw[if_pos ⟨h,s⟩]
theorem M3{g:DS}{n:Nat}{ds:List D}{ρ:Rho}{d:D}(h:P6 n ds=ρ) (e:g ρ=some (.rt d)):U1 g n ds=some d:=by
 unfold U1
 rw[h,e];rfl
theorem u5{j k:Nat}{r s:Rat}(hr:Bd j r) (hs:Bd k s) (l:j+k<=8000):ae4 [fr r,fr s]=some (fr (r*s)):=by
 refine M3 (ρ:=[‹fr r›,‹fr s›]) rfl ?_
 simp only[ap8,N9,B0,A0,A8,A6,ix0 (v0 _ _),ix1 (v0 _ _),ix0 (v1 _ _ _),ix1 (v1 _ _ _),xbs,xms,P5 (hr.sn (by grind)) (hs.sn (by grind)),P5 (hr.sd (by grind)) (hs.sd (by grind))]
 have:=bm5 (r.num.natAbs*s.num.natAbs) (r.den*s.den) (j+k) (Nat.mul_pos (den_pos r) (den_pos s)) (M2 hr.den hs.den) l
 rw[← ar2 hr hs,Int.natCast_mul,Int.natCast_mul,← hr.nat,← hs.nat]at this
 rw[this];rfl
def ap1(ns:List Int) (k:Nat):Int:=if ns.length=0 then 7*(k:Int) else ns.getD (k % ns.length) 0+6553*((k / ns.length:Nat):Int)
theorem bj5(ns:List Int):eqD (.list (ns.map PyData.int)) (.list [])=some (.bool (decide (ns.length=0))):=by
 have h1:SeqAt.shaped (.list (ns.map PyData.int))=true:=by
  have c:∀l:List Int,PyData.canLayAll0 (l.map PyData.int)=true:=fun l=>by
   induction l with
   | nil=>rfl
   | cons a r ih=>simp only[xmc,PyData.canLayAll0,PyData.canLay0,ih];rfl
  have d:∀l:List Int,PyData.depthAll (l.map PyData.int)=0:=fun l=>by
   induction l with
   | nil=>rfl
   | cons a r ih=>simp only[xmc,PyData.depthAll,PyData.depth,ih];rfl
  unfold SeqAt.shaped
  simp only[PyData.canLay0,c,PyData.depth,d]
  rfl
 unfold eqD
 rw[if_pos ⟨h1,rfl⟩]
 cases ns with
 | nil=>rfl
 | cons a r=>simp[PyData.eqv,PyData.eqvAll]
end Sh
local macro_rules
  | `(tactic| wp_walk using evP, $ts,*) => `(tactic| simp only [G.O3, G.R5, G.N9, G.sIf, G.m8, G.y8, G.bq6, G.A2, G.dC, G.Q9, G.ab6, G.A6, G.B0, G.bz9, G.dOr, G.bU8, G.al5, G.af7, G.bV1, G.bV0, G.bU9, G.Z7, G.Z6, G.bh4, G.A8, G.A0, G.aP8, G.tB2, G.av9, G.bI1, G.aW4, G.aP6, G.i7, G.U0, G.O0, G.a8, G.Q2, G.m4, G.am9, G.aS7, G.xg0, G.xg1, G.xw0, G.xw1, G.xbs, G.xms, G.xmc, G.xmn, G.xna, G.xca, Sh.bE5, Sh.bC0, Sh.cf4, Sh.ce7, Sh.ch3, Sh.cm0, Sh.cm8, Sh.co1, Sh.co0, Sh.cn9, Sh.cn8, Sh.co4, Sh.co3, Sh.co2, Sh.ci6, Sh.ci5, G.xnt, G.xnf, G.xft, if_true, if_false, $[$ts:term],*])
local macro_rules
  | `(tactic| wp_walk using evB) => `(tactic| wp_walk using evP, G.dIx, G.ag5, G.C3, G.qE, G.qN, G.aY1)
  | `(tactic| wp_walk using evB, $ts,*) => `(tactic| wp_walk using evP, G.dIx, G.ag5, G.C3, G.qE, G.qN, G.aY1, $ts,*)
local macro_rules
  | `(tactic| wp_walk using evA) => `(tactic| wp_walk using evB, G.ad9, G.au1, G.P2, G.V8, G.ab9, G.Q7, G.am8, Sh.br3, Sh.br2, Sh.br1, Sh.aN6, ite_true, ite_false)
  | `(tactic| wp_walk using evA, $ts,*) => `(tactic| wp_walk using evB, G.ad9, G.au1, G.P2, G.V8, G.ab9, G.Q7, G.am8, Sh.br3, Sh.br2, Sh.br1, Sh.aN6, ite_true, ite_false, $ts,*)
local macro_rules
  | `(tactic| wp_walk using evD) => `(tactic| wp_walk using evB, G.al8, G.aP7)
  | `(tactic| wp_walk using evD, $ts,*) => `(tactic| wp_walk using evB, G.al8, G.aP7, $ts,*)
local macro_rules
  | `(tactic| wp_walk using evC) => `(tactic| wp_walk using evD, G.ad9, G.au1, G.P2, G.V8, G.ab9, G.Q7, G.am8, Sh.br3, Sh.br2, Sh.br1, Sh.aN6, ite_true, ite_false)
  | `(tactic| wp_walk using evC, $ts,*) => `(tactic| wp_walk using evD, G.ad9, G.au1, G.P2, G.V8, G.ab9, G.Q7, G.am8, Sh.br3, Sh.br2, Sh.br1, Sh.aN6, ite_true, ite_false, $ts,*)
local macro_rules
  | `(tactic| wp_walk using evQ) => `(tactic| wp_walk using evP, G.al8, G.aP7)
  | `(tactic| wp_walk using evQ, $ts,*) => `(tactic| wp_walk using evP, G.al8, G.aP7, $ts,*)
namespace Sh
open PySem G L2
theorem bX2(ns:List Int) (k:Nat) (hn:ns.length<=63) (hk:k < 2 ^ 60):am4 [.list (ns.map PyData.int),.int k]=some (.int (ap1 ns k)):=by
 refine M3 (ρ:=[‹.list (ns.map PyData.int)›,‹.int k›]) rfl ?_
 have sk:E9 (k:Int):=W7 hk (by decide)
 by_cases h:ns.length=0
 ·have e:ap1 ns k=7*(k:Int):=by unfold ap1;rw[if_pos h]
  wp_walk using evA,am3,bj5,h,decide_true,P5 (i:=7) (K6 (k:=3) (by decide) (by decide)) sk,e
 ·have e:ap1 ns k=ns.getD (k % ns.length) 0+6553*((k / ns.length:Nat):Int):=by unfold ap1;rw[if_neg h]
  have hl:(List.map PyData.int ns).length=ns.length:=List.length_map ..
  have hp:0 < ns.length:=Nat.pos_of_ne_zero h
  have m1:W5 (.int k) (.int ns.length)=some (.int ((k % ns.length:Nat):Int)):=by rw[ay1 (by grind)];simp
  have m2:ab4 (.int k) (.int ns.length)=some (.int ((k / ns.length:Nat):Int)):=by rw[aN4 (by grind) (W7 (k:=6) (by grind) (by decide))];simp
  have m3:L2.atI (List.map PyData.int ns) ((k % ns.length:Nat):Int)=some (.int (ns.getD (k % ns.length) 0)):=by
   refine L2.bA9 ?_
   have hlt:k % ns.length < ns.length:=Nat.mod_lt _ hp
   rw[List.getElem?_map,List.getElem?_eq_getElem hlt]
   simp[List.getD,hlt]
  have sq:E9 ((k / ns.length:Nat):Int):=W7 (k:=60) (Nat.lt_of_le_of_lt (Nat.div_le_self _ _) hk) (by decide)
  wp_walk using evA,am3,bj5,h,decide_false,hl,m1,m2,m3,P5 (i:=6553) (K6 (k:=13) (by decide) (by decide)) sq,e
def ab3(ns:List Int) (k:Nat) (m:Int):Int :=
 let c:=(ap1 ns k % 2147483563*69069+104723*((k:Int)+1)) % 2147483563
 let c:=(c*c+c / 3) % 2147483399
 (c*c+c / 7) % 2147483647 / 11 % m
theorem aw2{i:Int}(h0:0<=i) (h:i < 4294967296):E9 i:=K6 (k:=32) (by omega) (by decide)
theorem ai5(ns:List Int) (k:Nat) (m:Int) (hn:ns.length<=63) (hk:k < 2 ^ 60) (hm:0 < m):B4 [.list (ns.map PyData.int),.int k,.int m]=some (.int (ab3 ns k m)):=by
 refine M3 (ρ:=[‹.list (ns.map PyData.int)›,‹.int k›,‹.int m›,none]) rfl ?_
 have c0:∀x:Int,E9 (x % 2147483563):=fun x=>aw2 (by grind) (by grind)
 have c1:∀x:Int,E9 (x % 2147483399):=fun x=>aw2 (by grind) (by grind)
 have sk:E9 ((k:Int)+1):=K6 (k:=61) (by grind) (by decide)
 have s1:E9 69069:=K6 (k:=17) (by decide) (by decide)
 have s2:E9 104723:=K6 (k:=17) (by decide) (by decide)
 have s3:E9 3:=K6 (k:=2) (by decide) (by decide)
 have s7:E9 7:=K6 (k:=3) (by decide) (by decide)
 have s11:E9 11:=K6 (k:=4) (by decide) (by decide)
 wp_walk using evA,aq0,bX2 ns k hn hk,ay1 (show(0:Int) < 2147483563 by decide),ay1 (show(0:Int) < 2147483399 by decide),ay1 (show(0:Int) < 2147483647 by decide),ay1 hm,P5 (c0 _) s1,P5 s2 sk,P5 (c0 _) (c0 _),P5 (c1 _) (c1 _),aN4 (show(0:Int) < 3 by decide) s3,aN4 (show(0:Int) < 7 by decide) s7,aN4 (show(0:Int) < 11 by decide) s11
 rfl
theorem ah7(ns:List Int) (k:Nat) (m:Int) (hm:0 < m):0<=ab3 ns k m/\ab3 ns k m < m:=by
 unfold ab3
 exact⟨Int.emod_nonneg _ (by omega),Int.emod_lt_of_pos _ hm⟩
structure IsSh (k:Nat) (r:Rat):Prop where
 bd:Bd k r
 le:r<=1
theorem aS0{a b:Nat}(hb:0 < b) (h:a<=b):mkRat (a:Int) b<=1:=by
 rw[Rat.le_iff,Rat.num_mkRat,Rat.den_mkRat,if_neg (by omega),if_neg (by omega)]
 have e0:(1:Rat).num=1:=rfl
 have e1:(1:Rat).den=1:=rfl
 rw[e0,e1]
 have:a / b.gcd a<=b / b.gcd a:=Nat.div_le_div_right h
 simp
 exact_mod_cast this
theorem ai4(ns:List Int) (at':Nat) (hn:ns.length<=63) (hk:at' < 2 ^ 40):∃r,l0 [.list (ns.map PyData.int),.int at']=some (fr r)/\IsSh 4 r:=by
 obtain⟨u0,u1⟩:=ah7 ns at' 12 (by decide)
 obtain⟨u,hu⟩:∃u:Nat,(1:Int)+ab3 ns at' 12=u/\0 < u/\u<=12:=⟨(1+ab3 ns at' 12).toNat,by grind,by grind,by grind⟩
 obtain⟨t0,t1⟩:=ah7 ns (at'+1) ((u:Int)+1) (by grind)
 obtain⟨t,ht⟩:∃t:Nat,ab3 ns (at'+1) ((u:Int)+1)=t/\t<=u:=⟨(ab3 ns (at'+1) ((u:Int)+1)).toNat,by grind,by grind⟩
 obtain⟨p0,p1⟩:=ah7 ns (at'+2) 5 (by decide)
 have hs:IsSh 4 (mkRat (t:Int) u):=⟨Bd.of (by grind) (by grind) (by grind),aS0 (by grind) (by grind)⟩
 have e1:=ai5 ns at' 12 hn (by grind) (by decide)
 have e2:=ai5 ns (at'+1) ((u:Int)+1) hn (by grind) (by grind)
 have e3:=ai5 ns (at'+2) 5 hn (by grind) (by decide)
 have e4:=bm5 t u 4 (by grind) (by grind) (by decide)
 have c1:((at':Int)+1)=((at'+1:Nat):Int):=by grind
 have c2:((at':Int)+2)=((at'+2:Nat):Int):=by grind
 rw[ht.1]at e2
 have pick:∀(j:Int),0<=j->j < 5->∃r,L2.atI [fr (mkRat (t:Int) u),fr (mkRat (t:Int) u),fr (mkRat (t:Int) u),.tuple [.int 0,.int 1],.tuple [.int 1,.int 1]] j=some (fr r)/\IsSh 4 r:=fun j h0 h5=>by
  have:j=0\/j=1\/j=2\/j=3\/j=4:=by grind
  rcases this with rfl|rfl|rfl|rfl|rfl
  ·exact⟨_,rfl,hs⟩
  ·exact⟨_,rfl,hs⟩
  ·exact⟨_,rfl,hs⟩
  ·exact⟨0,rfl,Bd.zero.mono (by decide),by decide⟩
  ·exact⟨1,rfl,Bd.one.mono (by decide),by decide⟩
 obtain⟨r,hr1,hr2⟩:=pick _ p0 p1
 refine⟨r,M3 (ρ:=[‹.list (ns.map PyData.int)›,‹.int at'›,none,none]) rfl ?_,hr2⟩
 wp_walk using evA,ap9,e1,hu.1,c1,c2,e2,e3,e4,hr1
end Sh
namespace Sh
open PySem G L2
def sp(c x y z:Rat):D:=.tuple [fr c,fr x,fr y,fr z]
structure Spot (k:Nat) (c x y z:Rat):Prop where
 hc:IsSh k c
 hx:Bd k x
 hy:Bd k y
 hz:Bd k z
 xc:x<=c
 yc:y<=c
 zc:z<=c
theorem g8{c r:Rat}(hc:0<=c) (hr:r<=1):c*r<=c:=by
 have:=Rat.mul_le_mul_of_nonneg_right hr hc
 grind
theorem cl2:T6 0 3=[.int 0,.int 1,.int 2]:=rfl
theorem bB2(ns:List Int) (k:Nat) (hn:ns.length<=63) (hk:k < 2 ^ 30):∃c a0 a1 a2,X5 [.list (ns.map PyData.int),.int k]=some (sp c (c*a0) (c*a1) (c*a2))/\IsSh 4 c/\IsSh 4 a0/\IsSh 4 a1/\IsSh 4 a2:=by
 obtain⟨c,ec,hc⟩:=ai4 ns k hn (by grind)
 obtain⟨a0,e0,h0⟩:=ai4 ns (k+3) hn (by grind)
 obtain⟨a1,e1,h1⟩:=ai4 ns (k+6) hn (by grind)
 obtain⟨a2,e2,h2⟩:=ai4 ns (k+9) hn (by grind)
 refine⟨c,a0,a1,a2,?_,hc,h0,h1,h2⟩
 refine M3 (ρ:=[‹.list (ns.map PyData.int)›,‹.int k›,none]) rfl ?_
 have i0:(k:Int)+3+3*0=((k+3:Nat):Int):=by grind
 have i1:(k:Int)+3+3*1=((k+6:Nat):Int):=by grind
 have i2:(k:Int)+3+3*2=((k+9:Nat):Int):=by grind
 have s0:E9 0:=K6 (k:=2) (by decide) (by decide)
 have s1:E9 1:=K6 (k:=2) (by decide) (by decide)
 have s2:E9 2:=K6 (k:=2) (by decide) (by decide)
 have s3:E9 3:=K6 (k:=2) (by decide) (by decide)
 have m0:=P5 s3 s0
 have m1:=P5 s3 s1
 have m2:=P5 s3 s2
 have r3:((-(2 ^ 62):Int)<=3/\(3:Int) < 2 ^ 62):=by decide
 have l3:([PyData.int 0,.int 1,.int 2]:List D).length<=16777216:=by decide
 have ct:∀a b c d:D,Y6 (.tuple [a]) (.tuple [b,c,d])=some (.tuple [a,b,c,d]):=fun a b c d=>rfl
 wp_walk using evA,aB6,ec,r3,and_self,cl2,l3,m0,m1,m2,i0,i1,i2,e0,e1,e2,u5 hc.bd h0.bd (by decide),u5 hc.bd h1.bd (by decide),u5 hc.bd h2.bd (by decide),ct,sp
end Sh
namespace Sh
open PySem G L2
theorem B1{x y:Str}{b:Bool}(hx:PyData.canLay0 (.str x)=true) (hy:PyData.canLay0 (.str y)=true) (e:(x==y)=b):eqD (.str x) (.str y)=some (.bool b):=by
 unfold eqD
 have s:∀z:Str,PyData.canLay0 (.str z)=true->SeqAt.shaped (.str z)=true:=fun z h=>by unfold SeqAt.shaped;rw[h];rfl
 rw[if_pos ⟨s x hx,s y hy⟩]
 show some (PyData.bool (x==y))=_
 rw[e]
theorem U3{x y:Str}{b:Bool}(hx:PyData.canLay0 (.str x)=true) (hy:PyData.canLay0 (.str y)=true) (e:(!(x==y))=b):neD (.str x) (.str y)=some (.bool b):=by
 unfold neD
 have s:∀z:Str,PyData.canLay0 (.str z)=true->SeqAt.shaped (.str z)=true:=fun z h=>by unfold SeqAt.shaped;rw[h];rfl
 rw[if_pos ⟨s x hx,s y hy⟩]
 show some (PyData.bool (!(x==y)))=_
 rw[e]
theorem J4:eqD (.str "over") (.str "over")=some (.bool true):=B1 (by decide +kernel) (by decide +kernel) (by decide +kernel)
theorem M7:eqD (.str "over") (.str "multiply")=some (.bool false):=B1 (by decide +kernel) (by decide +kernel) (by decide +kernel)
theorem D3:eqD (.str "over") (.str "screen")=some (.bool false):=B1 (by decide +kernel) (by decide +kernel) (by decide +kernel)
theorem J3:eqD (.str "over") (.str "plus")=some (.bool false):=B1 (by decide +kernel) (by decide +kernel) (by decide +kernel)
theorem J5:eqD (.str "over") (.str "atop")=some (.bool false):=B1 (by decide +kernel) (by decide +kernel) (by decide +kernel)
theorem L0:eqD (.str "over") (.str "cut")=some (.bool false):=B1 (by decide +kernel) (by decide +kernel) (by decide +kernel)
theorem M9:eqD (.str "multiply") (.str "over")=some (.bool false):=B1 (by decide +kernel) (by decide +kernel) (by decide +kernel)
theorem Q0:eqD (.str "multiply") (.str "multiply")=some (.bool true):=B1 (by decide +kernel) (by decide +kernel) (by decide +kernel)
theorem J6:eqD (.str "multiply") (.str "screen")=some (.bool false):=B1 (by decide +kernel) (by decide +kernel) (by decide +kernel)
theorem M8:eqD (.str "multiply") (.str "plus")=some (.bool false):=B1 (by decide +kernel) (by decide +kernel) (by decide +kernel)
theorem N3:eqD (.str "multiply") (.str "atop")=some (.bool false):=B1 (by decide +kernel) (by decide +kernel) (by decide +kernel)
theorem O6:eqD (.str "multiply") (.str "cut")=some (.bool false):=B1 (by decide +kernel) (by decide +kernel) (by decide +kernel)
theorem C9:eqD (.str "screen") (.str "over")=some (.bool false):=B1 (by decide +kernel) (by decide +kernel) (by decide +kernel)
theorem G9:eqD (.str "screen") (.str "multiply")=some (.bool false):=B1 (by decide +kernel) (by decide +kernel) (by decide +kernel)
theorem B9:eqD (.str "screen") (.str "screen")=some (.bool true):=B1 (by decide +kernel) (by decide +kernel) (by decide +kernel)
theorem C8:eqD (.str "screen") (.str "plus")=some (.bool false):=B1 (by decide +kernel) (by decide +kernel) (by decide +kernel)
theorem D0:eqD (.str "screen") (.str "atop")=some (.bool false):=B1 (by decide +kernel) (by decide +kernel) (by decide +kernel)
theorem E4:eqD (.str "screen") (.str "cut")=some (.bool false):=B1 (by decide +kernel) (by decide +kernel) (by decide +kernel)
theorem J1:eqD (.str "plus") (.str "over")=some (.bool false):=B1 (by decide +kernel) (by decide +kernel) (by decide +kernel)
theorem M6:eqD (.str "plus") (.str "multiply")=some (.bool false):=B1 (by decide +kernel) (by decide +kernel) (by decide +kernel)
theorem D2:eqD (.str "plus") (.str "screen")=some (.bool false):=B1 (by decide +kernel) (by decide +kernel) (by decide +kernel)
theorem J0:eqD (.str "plus") (.str "plus")=some (.bool true):=B1 (by decide +kernel) (by decide +kernel) (by decide +kernel)
theorem J2:eqD (.str "plus") (.str "atop")=some (.bool false):=B1 (by decide +kernel) (by decide +kernel) (by decide +kernel)
theorem K9:eqD (.str "plus") (.str "cut")=some (.bool false):=B1 (by decide +kernel) (by decide +kernel) (by decide +kernel)
theorem K0:eqD (.str "atop") (.str "over")=some (.bool false):=B1 (by decide +kernel) (by decide +kernel) (by decide +kernel)
theorem N5:eqD (.str "atop") (.str "multiply")=some (.bool false):=B1 (by decide +kernel) (by decide +kernel) (by decide +kernel)
theorem D4:eqD (.str "atop") (.str "screen")=some (.bool false):=B1 (by decide +kernel) (by decide +kernel) (by decide +kernel)
theorem J9:eqD (.str "atop") (.str "plus")=some (.bool false):=B1 (by decide +kernel) (by decide +kernel) (by decide +kernel)
theorem K1:eqD (.str "atop") (.str "atop")=some (.bool true):=B1 (by decide +kernel) (by decide +kernel) (by decide +kernel)
theorem L7:eqD (.str "atop") (.str "cut")=some (.bool false):=B1 (by decide +kernel) (by decide +kernel) (by decide +kernel)
theorem L5:eqD (.str "cut") (.str "over")=some (.bool false):=B1 (by decide +kernel) (by decide +kernel) (by decide +kernel)
theorem O7:eqD (.str "cut") (.str "multiply")=some (.bool false):=B1 (by decide +kernel) (by decide +kernel) (by decide +kernel)
theorem E8:eqD (.str "cut") (.str "screen")=some (.bool false):=B1 (by decide +kernel) (by decide +kernel) (by decide +kernel)
theorem L4:eqD (.str "cut") (.str "plus")=some (.bool false):=B1 (by decide +kernel) (by decide +kernel) (by decide +kernel)
theorem L6:eqD (.str "cut") (.str "atop")=some (.bool false):=B1 (by decide +kernel) (by decide +kernel) (by decide +kernel)
theorem N4:eqD (.str "cut") (.str "cut")=some (.bool true):=B1 (by decide +kernel) (by decide +kernel) (by decide +kernel)
theorem G7:eqD (.str "turn") (.str "turn")=some (.bool true):=B1 (by decide +kernel) (by decide +kernel) (by decide +kernel)
theorem G8:eqD (.str "turn") (.str "grey")=some (.bool false):=B1 (by decide +kernel) (by decide +kernel) (by decide +kernel)
theorem E3:eqD (.str "turn") (.str "round")=some (.bool false):=B1 (by decide +kernel) (by decide +kernel) (by decide +kernel)
theorem J7:eqD (.str "grey") (.str "turn")=some (.bool false):=B1 (by decide +kernel) (by decide +kernel) (by decide +kernel)
theorem J8:eqD (.str "grey") (.str "grey")=some (.bool true):=B1 (by decide +kernel) (by decide +kernel) (by decide +kernel)
theorem E7:eqD (.str "grey") (.str "round")=some (.bool false):=B1 (by decide +kernel) (by decide +kernel) (by decide +kernel)
theorem E5:eqD (.str "round") (.str "turn")=some (.bool false):=B1 (by decide +kernel) (by decide +kernel) (by decide +kernel)
theorem E6:eqD (.str "round") (.str "grey")=some (.bool false):=B1 (by decide +kernel) (by decide +kernel) (by decide +kernel)
theorem D1:eqD (.str "round") (.str "round")=some (.bool true):=B1 (by decide +kernel) (by decide +kernel) (by decide +kernel)
theorem F9:neD (.str "turn") (.str "turn")=some (.bool false):=U3 (by decide +kernel) (by decide +kernel) (by decide +kernel)
theorem G0:neD (.str "turn") (.str "grey")=some (.bool true):=U3 (by decide +kernel) (by decide +kernel) (by decide +kernel)
theorem D7:neD (.str "turn") (.str "round")=some (.bool true):=U3 (by decide +kernel) (by decide +kernel) (by decide +kernel)
theorem G4:neD (.str "grey") (.str "turn")=some (.bool true):=U3 (by decide +kernel) (by decide +kernel) (by decide +kernel)
theorem G5:neD (.str "grey") (.str "grey")=some (.bool false):=U3 (by decide +kernel) (by decide +kernel) (by decide +kernel)
theorem E1:neD (.str "grey") (.str "round")=some (.bool true):=U3 (by decide +kernel) (by decide +kernel) (by decide +kernel)
theorem D8:neD (.str "round") (.str "turn")=some (.bool true):=U3 (by decide +kernel) (by decide +kernel) (by decide +kernel)
theorem D9:neD (.str "round") (.str "grey")=some (.bool true):=U3 (by decide +kernel) (by decide +kernel) (by decide +kernel)
theorem C7:neD (.str "round") (.str "round")=some (.bool false):=U3 (by decide +kernel) (by decide +kernel) (by decide +kernel)
inductive Man where
 | over|mult|screen|plus|atop|cut
def Man.s:Man->Str
 | .over => "over"
 | .mult => "multiply"
 | .screen => "screen"
 | .plus => "plus"
 | .atop => "atop"
 | .cut => "cut"
def aB0(r:Rat):Rat:=if r<=1 then r else 1
def Man.cov:Man->Rat->Rat->Rat
 | .plus,c,d=>aB0 (c+d)
 | .atop,c,d=>d
 | .cut,c,d=>d*(1 - c)
 | _,c,d=>c+d - c*d
def Man.col:Man->Rat->Rat->Rat->Rat->Rat
 | .over,c,d,x,y=>x+y*(1 - c)
 | .mult,c,d,x,y=>x*y+x*(1 - d)+y*(1 - c)
 | .screen,c,d,x,y=>x+y - x*y
 | .plus,c,d,x,y=>aB0 (x+y)
 | .atop,c,d,x,y=>x*d+y*(1 - c)
 | .cut,c,d,x,y=>y*(1 - c)
theorem as1{k:Nat}{c:Rat}(h:IsSh k c):IsSh (k+1) (1 - c):=by
 have b:=Bd.one.sub h.bd h.le
 rw[Nat.add_comm]at b
 exact⟨b,by have:=h.bd.nn;grind⟩
theorem ak5{a b:Rat}(ha:0<=a) (hb:0<=b) (ha1:a<=1) (hb1:b<=1):a*b<=a+b:=by
 have:=Rat.mul_le_mul_of_nonneg_right ha1 hb
 grind
theorem bl5{k:Nat}{r:Rat}(h:Bd k r) (hk:1<=k):IsSh k (aB0 r):=by
 unfold aB0
 split
 ·rename_i l;exact⟨h,l⟩
 ·exact⟨Bd.one.mono hk,Rat.le_refl⟩
theorem bm6(m:Man) {k:Nat}{c d:Rat}(hc:IsSh k c) (hd:IsSh k d) (l:6*k+4<=8000):T9 [.str m.s,fr c,fr d]=some (fr (m.cov c d))/\Bd (6*k+4) (m.cov c d):=by
 have r1:=ae3 hc.bd (by grind) hc.le
 have h1:=(as1 hc)
 have ml:=ak5 hc.bd.nn hd.bd.nn hc.le hd.le
 have e1:=S2 hc.bd hd.bd (by grind)
 have e2:=R9 hc.bd hd.bd (by grind)
 have b1:=hc.bd.add hd.bd
 have b2:=hc.bd.mul hd.bd
 have e3:=W6 b1 b2 (by grind) ml
 have e4:=aB9 b1 (by grind)
 have e5:=R9 hd.bd h1.bd (by grind)
 cases m with
 | plus=>exact⟨M3 (ρ:=[‹.str "plus"›,‹fr c›,‹fr d›]) rfl (by wp_walk using evA,L8,J4,M7,D3,J3,J5,L0,M9,Q0,J6,M8,N3,O6,C9,G9,B9,C8,D0,E4,J1,M6,D2,J0,J2,K9,K0,N5,D4,J9,K1,L7,L5,O7,E8,L4,L6,N4,G7,G8,E3,J7,J8,E7,E5,E6,D1,F9,G0,D7,G4,G5,E1,D8,D9,C7,e1,e4;rfl),(bl5 b1 (by grind)).bd.mono (by grind)⟩
 | atop=>exact⟨M3 (ρ:=[‹.str "atop"›,‹fr c›,‹fr d›]) rfl (by wp_walk using evA,L8,J4,M7,D3,J3,J5,L0,M9,Q0,J6,M8,N3,O6,C9,G9,B9,C8,D0,E4,J1,M6,D2,J0,J2,K9,K0,N5,D4,J9,K1,L7,L5,O7,E8,L4,L6,N4,G7,G8,E3,J7,J8,E7,E5,E6,D1,F9,G0,D7,G4,G5,E1,D8,D9,C7;rfl),hd.bd.mono (by grind)⟩
 | cut=>exact⟨M3 (ρ:=[‹.str "cut"›,‹fr c›,‹fr d›]) rfl (by wp_walk using evA,L8,J4,M7,D3,J3,J5,L0,M9,Q0,J6,M8,N3,O6,C9,G9,B9,C8,D0,E4,J1,M6,D2,J0,J2,K9,K0,N5,D4,J9,K1,L7,L5,O7,E8,L4,L6,N4,G7,G8,E3,J7,J8,E7,E5,E6,D1,F9,G0,D7,G4,G5,E1,D8,D9,C7,r1,e5;rfl),(hd.bd.mul h1.bd).mono (by grind)⟩
 | over=>exact⟨M3 (ρ:=[‹.str "over"›,‹fr c›,‹fr d›]) rfl (by wp_walk using evA,L8,J4,M7,D3,J3,J5,L0,M9,Q0,J6,M8,N3,O6,C9,G9,B9,C8,D0,E4,J1,M6,D2,J0,J2,K9,K0,N5,D4,J9,K1,L7,L5,O7,E8,L4,L6,N4,G7,G8,E3,J7,J8,E7,E5,E6,D1,F9,G0,D7,G4,G5,E1,D8,D9,C7,e1,e2,e3;rfl),(b1.sub b2 ml).mono (by grind)⟩
 | mult=>exact⟨M3 (ρ:=[‹.str "multiply"›,‹fr c›,‹fr d›]) rfl (by wp_walk using evA,L8,J4,M7,D3,J3,J5,L0,M9,Q0,J6,M8,N3,O6,C9,G9,B9,C8,D0,E4,J1,M6,D2,J0,J2,K9,K0,N5,D4,J9,K1,L7,L5,O7,E8,L4,L6,N4,G7,G8,E3,J7,J8,E7,E5,E6,D1,F9,G0,D7,G4,G5,E1,D8,D9,C7,e1,e2,e3;rfl),(b1.sub b2 ml).mono (by grind)⟩
 | screen=>exact⟨M3 (ρ:=[‹.str "screen"›,‹fr c›,‹fr d›]) rfl (by wp_walk using evA,L8,J4,M7,D3,J3,J5,L0,M9,Q0,J6,M8,N3,O6,C9,G9,B9,C8,D0,E4,J1,M6,D2,J0,J2,K9,K0,N5,D4,J9,K1,L7,L5,O7,E8,L4,L6,N4,G7,G8,E3,J7,J8,E7,E5,E6,D1,F9,G0,D7,G4,G5,E1,D8,D9,C7,e1,e2,e3;rfl),(b1.sub b2 ml).mono (by grind)⟩
theorem am5(m:Man) {k:Nat}{c d x y:Rat}(hc:IsSh k c) (hd:IsSh k d) (hx:IsSh k x) (hy:IsSh k y) (l:6*k+4<=8000):S1 [.str m.s,fr c,fr d,fr x,fr y]=some (fr (m.col c d x y))/\Bd (6*k+4) (m.col c d x y):=by
 have r1:=ae3 hc.bd (by grind) hc.le
 have r2:=ae3 hd.bd (by grind) hd.le
 have h1:=as1 hc
 have h2:=as1 hd
 have ml:=ak5 hx.bd.nn hy.bd.nn hx.le hy.le
 have e1:=S2 hx.bd hy.bd (by grind)
 have e2:=R9 hx.bd hy.bd (by grind)
 have b1:=hx.bd.add hy.bd
 have b2:=hx.bd.mul hy.bd
 have e3:=W6 b1 b2 (by grind) ml
 have e4:=aB9 b1 (by grind)
 have bt:=hy.bd.mul h1.bd
 have et:=R9 hy.bd h1.bd (by grind)
 have e6:=S2 hx.bd bt (by grind)
 have bd:=hx.bd.mul h2.bd
 have e7:=R9 hx.bd h2.bd (by grind)
 have b8:=b2.add bd
 have e8:=S2 b2 bd (by grind)
 have e9:=S2 b8 bt (by grind)
 have b10:=hx.bd.mul hd.bd
 have e10:=R9 hx.bd hd.bd (by grind)
 have e11:=S2 b10 bt (by grind)
 cases m with
 | plus=>exact⟨M3 (ρ:=[‹.str "plus"›,‹fr c›,‹fr d›,‹fr x›,‹fr y›,none]) rfl (by wp_walk using evA,K4,J4,M7,D3,J3,J5,L0,M9,Q0,J6,M8,N3,O6,C9,G9,B9,C8,D0,E4,J1,M6,D2,J0,J2,K9,K0,N5,D4,J9,K1,L7,L5,O7,E8,L4,L6,N4,G7,G8,E3,J7,J8,E7,E5,E6,D1,F9,G0,D7,G4,G5,E1,D8,D9,C7,e1,e4;rfl),(bl5 b1 (by grind)).bd.mono (by grind)⟩
 | screen=>exact⟨M3 (ρ:=[‹.str "screen"›,‹fr c›,‹fr d›,‹fr x›,‹fr y›,none]) rfl (by wp_walk using evA,K4,J4,M7,D3,J3,J5,L0,M9,Q0,J6,M8,N3,O6,C9,G9,B9,C8,D0,E4,J1,M6,D2,J0,J2,K9,K0,N5,D4,J9,K1,L7,L5,O7,E8,L4,L6,N4,G7,G8,E3,J7,J8,E7,E5,E6,D1,F9,G0,D7,G4,G5,E1,D8,D9,C7,e1,e2,e3;rfl),(b1.sub b2 ml).mono (by grind)⟩
 | over=>exact⟨M3 (ρ:=[‹.str "over"›,‹fr c›,‹fr d›,‹fr x›,‹fr y›,none]) rfl (by wp_walk using evA,K4,J4,M7,D3,J3,J5,L0,M9,Q0,J6,M8,N3,O6,C9,G9,B9,C8,D0,E4,J1,M6,D2,J0,J2,K9,K0,N5,D4,J9,K1,L7,L5,O7,E8,L4,L6,N4,G7,G8,E3,J7,J8,E7,E5,E6,D1,F9,G0,D7,G4,G5,E1,D8,D9,C7,r1,et,e6;rfl),(hx.bd.add bt).mono (by grind)⟩
 | mult=>exact⟨M3 (ρ:=[‹.str "multiply"›,‹fr c›,‹fr d›,‹fr x›,‹fr y›,none]) rfl (by wp_walk using evA,K4,J4,M7,D3,J3,J5,L0,M9,Q0,J6,M8,N3,O6,C9,G9,B9,C8,D0,E4,J1,M6,D2,J0,J2,K9,K0,N5,D4,J9,K1,L7,L5,O7,E8,L4,L6,N4,G7,G8,E3,J7,J8,E7,E5,E6,D1,F9,G0,D7,G4,G5,E1,D8,D9,C7,r1,r2,et,e2,e7,e8,e9;rfl),(b8.add bt).mono (by grind)⟩
 | atop=>exact⟨M3 (ρ:=[‹.str "atop"›,‹fr c›,‹fr d›,‹fr x›,‹fr y›,none]) rfl (by wp_walk using evA,K4,J4,M7,D3,J3,J5,L0,M9,Q0,J6,M8,N3,O6,C9,G9,B9,C8,D0,E4,J1,M6,D2,J0,J2,K9,K0,N5,D4,J9,K1,L7,L5,O7,E8,L4,L6,N4,G7,G8,E3,J7,J8,E7,E5,E6,D1,F9,G0,D7,G4,G5,E1,D8,D9,C7,r1,et,e10,e11;rfl),(b10.add bt).mono (by grind)⟩
 | cut=>exact⟨M3 (ρ:=[‹.str "cut"›,‹fr c›,‹fr d›,‹fr x›,‹fr y›,none]) rfl (by wp_walk using evA,K4,J4,M7,D3,J3,J5,L0,M9,Q0,J6,M8,N3,O6,C9,G9,B9,C8,D0,E4,J1,M6,D2,J0,J2,K9,K0,N5,D4,J9,K1,L7,L5,O7,E8,L4,L6,N4,G7,G8,E3,J7,J8,E7,E5,E6,D1,F9,G0,D7,G4,G5,E1,D8,D9,C7,r1,et;rfl),bt.mono (by grind)⟩
theorem bV2(m:Man) {c d:Rat}(hc:0<=c) (hd:0<=d) (hc1:c<=1) (hd1:d<=1):m.cov c d<=1:=by
 have p:0<=(1 - c)*(1 - d):=Rat.mul_nonneg (by grind) (by grind)
 have q:d*(1 - c)<=1*(1 - c):=Rat.mul_le_mul_of_nonneg_right hd1 (by grind)
 cases m<;>simp only[Man.cov,aB0]<;>grind
theorem aG4(m:Man) {c d x y:Rat}(hc:0<=c) (hd:0<=d) (hc1:c<=1) (hd1:d<=1) (hx:0<=x) (hy:0<=y) (xc:x<=c) (yd:y<=d):m.col c d x y<=m.cov c d:=by
 have q1:y*(1 - c)<=d*(1 - c):=Rat.mul_le_mul_of_nonneg_right yd (by grind)
 have q2:x*(y+1 - d)<=c*(y+1 - d):=Rat.mul_le_mul_of_nonneg_right xc (by grind)
 have q3:x*d<=c*d:=Rat.mul_le_mul_of_nonneg_right xc hd
 have q4:(1 - c)*(1 - d)<=(1 - x)*(1 - d):=Rat.mul_le_mul_of_nonneg_right (by grind) (by grind)
 have q5:(1 - d)*(1 - x)<=(1 - y)*(1 - x):=Rat.mul_le_mul_of_nonneg_right (by grind) (by grind)
 cases m<;>simp only[Man.cov,Man.col,aB0]<;>grind
theorem cj2(a b c d e f:D):(List.zip [a,b,c] [d,e,f])=[(a,d),(b,e),(c,f)]:=rfl
theorem ln2(a b:D):([a,b]:List D).length=2:=rfl
theorem aG7(m:Man) {k:Nat}{c x1 x2 x3 d y1 y2 y3:Rat}(S:Spot k c x1 x2 x3) (T:Spot k d y1 y2 y3) (l:6*k+4<=8000) :
  X6 [.str m.s,sp c x1 x2 x3,sp d y1 y2 y3]=some (sp (m.cov c d) (m.col c d x1 y1) (m.col c d x2 y2) (m.col c d x3 y3))/\Spot (6*k+4) (m.cov c d) (m.col c d x1 y1) (m.col c d x2 y2) (m.col c d x3 y3):=by
 have s1:IsSh k x1:=⟨S.hx,Rat.le_trans S.xc S.hc.le⟩
 have s2:IsSh k x2:=⟨S.hy,Rat.le_trans S.yc S.hc.le⟩
 have s3:IsSh k x3:=⟨S.hz,Rat.le_trans S.zc S.hc.le⟩
 have t1:IsSh k y1:=⟨T.hx,Rat.le_trans T.xc T.hc.le⟩
 have t2:IsSh k y2:=⟨T.hy,Rat.le_trans T.yc T.hc.le⟩
 have t3:IsSh k y3:=⟨T.hz,Rat.le_trans T.zc T.hc.le⟩
 have a0:=bm6 m S.hc T.hc l
 have a1:=am5 m S.hc T.hc s1 t1 l
 have a2:=am5 m S.hc T.hc s2 t2 l
 have a3:=am5 m S.hc T.hc s3 t3 l
 refine⟨?_,⟨⟨a0.2,bV2 m S.hc.bd.nn T.hc.bd.nn S.hc.le T.hc.le⟩,a1.2,a2.2,a3.2,aG4 m S.hc.bd.nn T.hc.bd.nn S.hc.le T.hc.le S.hx.nn T.hx.nn S.xc T.xc,aG4 m S.hc.bd.nn T.hc.bd.nn S.hc.le T.hc.le S.hy.nn T.hy.nn S.yc T.yc,aG4 m S.hc.bd.nn T.hc.bd.nn S.hc.le T.hc.le S.hz.nn T.hz.nn S.zc T.zc⟩⟩
 refine M3 (ρ:=[‹.str m.s›,‹sp c x1 x2 x3›,‹sp d y1 y2 y3›,none,none,none]) rfl ?_
 have f3:∀a b c:D,([a,b,c]:List D).length<=16777216:=fun a b c=>by show 3<=16777216;decide
 wp_walk using evA,aq1,sp,cj2,f3,ln2,a0.1,a1.1,a2.1,a3.1
end Sh
namespace Sh
open PySem G L2
end Sh
namespace Sh
open PySem PySem.Spec PyProof.Rows L2 G
end Sh
namespace Sh
open PySem G L2
end Sh
namespace Sh
open PySem G L2
theorem z3(a b c d e f:D):(List.zip [a,b,c] [d,e,f]).map (fun(x,y)=>PyData.tuple [x,y])=[.tuple [a,d],.tuple [b,e],.tuple [c,f]]:=rfl
end Sh
namespace Sh
open PySem PySem.Spec PyProof.Rows L2 G
def X3:DS:=(O3 (y8 3 (P2 2 [0] (am8 (qE (dIx (C3 1) ⇑2)) (qE (dIx (C3 2) ⇑2))) (a8 2 (Q2 (O0 0) (Q2 (O0 1) m4))) U0 (B0 X6 (A0 (A2 2) (A0 (A2 0) (A0 (A2 1) A8)))))) (N9 (Q9 (A0 (dIx (C3 1) ⇑0) (A0 (dIx (C3 1) ⇑1) (A0 (af7 (C3 3)) A8))))))
def K5:List D->Option D:=U1 X3 4
def ae0:DS:=(O3 (y8 4 (P2 1 [0,1] (Q7 (A6 U4 (A2 2) (A2 3))) (O0 0) U0 (B0 X5 (A0 (A2 1) (A0 (A6 Q3 (A2 2) (A6 U4 ⇑12 (A2 0))) A8))))) (O3 (sIf (tB2 eqD (B0 B4 (A0 (A2 0) (A0 (A6 Q3 (A2 1) ⇑7) (A0 ⇑3 A8)))) ⇑0) (R5 4 (A6 U4 (bk9 (A2 4) Z7 (Z6 ⇑1)) (A6 U4 (A2 2) (A2 3)))) m8) (N9 (Q9 (A0 (A2 2) (A0 (A2 3) (A0 (af7 (C3 4)) A8)))))))
def V1:List D->Option D:=U1 ae0 5
end Sh
namespace Sh
open PySem G L2
structure Q4 where
 c:Rat
 x:Rat
 y:Rat
 z:Rat
def Q4.d(q:Q4):D:=sp q.c q.x q.y q.z
def Q4.ok(k:Nat) (q:Q4):Prop:=Spot k q.c q.x q.y q.z
def q0:Q4:=⟨0,0,0,0⟩
def Ly(n:Nat) (d:D):Prop:=PyData.canLay0 d=true/\PyData.depth d<=n
theorem am1{n:Nat}:∀xs:List D,(∀x∈xs,Ly n x)->PyData.canLayAll0 xs=true/\PyData.depthAll xs<=n
 | [],_=>⟨rfl,Nat.zero_le _⟩
 | x::xs,g=>by
  have a:=g x (List.mem_cons_self ..)
  have b:=am1 xs fun y hy=>g y (List.mem_cons_of_mem _ hy)
  refine⟨?_,?_⟩
  ·show(PyData.canLay0 x&&PyData.canLayAll0 xs)=true
   rw[a.1,b.1];rfl
  ·show max (PyData.depth x) (PyData.depthAll xs)<=n
   have:=a.2;have:=b.2;grind
theorem Ly.tup{n:Nat}{xs:List D}(h:∀x∈xs,Ly n x):Ly (n+1) (.tuple xs):=⟨(am1 xs h).1,Nat.succ_le_succ (am1 xs h).2⟩
theorem Ly.lst{n:Nat}{xs:List D}(h:∀x∈xs,Ly n x):Ly (n+1) (.list xs):=⟨(am1 xs h).1,Nat.succ_le_succ (am1 xs h).2⟩
theorem Ly.int(n:Nat) (i:Int):Ly n (.int i):=⟨rfl,Nat.zero_le _⟩
theorem Ly.mono{m n:Nat}{d:D}(h:Ly m d) (l:m<=n):Ly n d:=⟨h.1,Nat.le_trans h.2 l⟩
theorem Ly.shaped{n:Nat}{d:D}(g:Ly n d) (hn:n<=64):SeqAt.shaped d=true:=by
 unfold SeqAt.shaped
 rw[g.1,Bool.true_and]
 exact decide_eq_true (by have:=g.2;grind)
theorem Ly.q4(q:Q4) (n:Nat):Ly (n+2) q.d:=⟨rfl,by show 2<=n+2;grind⟩
theorem Ly.spots(l:List Q4) (n:Nat):Ly (n+3) (.tuple (l.map Q4.d)):=Ly.tup fun x hx=>by
 obtain⟨q,_,rfl⟩:=List.mem_map.mp hx
 exact Ly.q4 q n
theorem ah2{n:Nat}{d:D}(g:Ly n d) (hn:n<=64):neD d d=some (.bool false):=by
 unfold neD
 rw[if_pos ⟨g.shaped hn,g.shaped hn⟩,SeqAt.eqv_refl d g.1];rfl
theorem aN2{n:Nat}{d:D}(g:Ly n d) (hn:n<=64):eqD d d=some (.bool true):=by
 unfold eqD
 rw[if_pos ⟨g.shaped hn,g.shaped hn⟩,SeqAt.eqv_refl d g.1]
def shD(w h:Nat) (l:List Q4):D:=.tuple [.int w,.int h,.tuple (l.map Q4.d)]
theorem Ly.sheet(w h:Nat) (l:List Q4):Ly 4 (shD w h l):=Ly.tup fun x hx=>by
 simp only[List.mem_cons,List.not_mem_nil,or_false]at hx
 rcases hx with rfl|rfl|rfl
 ·exact Ly.int _ _
 ·exact Ly.int _ _
 ·exact Ly.spots l 0
structure ShOk (k:Nat) (w h:Nat) (l:List Q4):Prop where
 w1:1<=w
 w8:w<=8
 h1:1<=h
 h8:h<=8
 len:l.length=w*h
 ok:∀q∈l,q.ok k
theorem bE2{α:Type}{e:DE}{r:Rho}{h f:α->D}:∀(l:List α) (x:Option B),(∀a∈l,e (‹h a›::r)=some (f a))->V8 (O0 0) U0 e (l.map h) (x::r)=some (l.map f)
 | [],_,_=>rfl
 | a::l,x,H=>by
  simp only[xmc,V8,O0,xw0,xbs,U0,if_true,H a (List.mem_cons_self ..),bE2 l _ (fun b hb=>H b (List.mem_cons_of_mem _ hb)),xms]
theorem bE1{α:Type}{e:DE}{r:Rho}{h1 h2 f:α->D}:∀(l:List α) (x y:Option B),(∀a∈l,e (‹h1 a›::‹h2 a›::r)=some (f a))->V8 (a8 2 (Q2 (O0 0) (Q2 (O0 1) m4))) U0 e (l.map fun a=>.tuple [h1 a,h2 a]) (x::y::r)=some (l.map f)
 | [],_,_,_=>rfl
 | a::l,x,y,H=>by
  have hl:([h1 a,h2 a]:List D).length=2:=rfl
  simp only[xmc,V8,a8,Q2,m4,O0,hl,if_true,xw0,xw1,xbs,U0,if_true,H a (List.mem_cons_self ..),bE1 l _ _ (fun b hb=>H b (List.mem_cons_of_mem _ hb)),xms]
theorem bl1{α:Type}{c:Rho->Option Bool}{e:DE}{r:Rho}{h f:α->D}{p:α->Bool}:∀(l:List α) (x:Option B),(∀a∈l,c (‹h a›::r)=some (p a))->(∀a∈l,e (‹h a›::r)=some (f a))->V8 (O0 0) c e (l.map h) (x::r)=some ((l.filter p).map f)
 | [],_,_,_=>rfl
 | a::l,x,C,H=>by
  have ih:=bl1 l (‹h a›) (fun b hb=>C b (List.mem_cons_of_mem _ hb)) (fun b hb=>H b (List.mem_cons_of_mem _ hb))
  cases q:p a with
  | true =>
   simp only[xmc,V8,O0,xw0,xbs,C a (List.mem_cons_self ..),q,if_true,H a (List.mem_cons_self ..),ih,xms,List.filter_cons_of_pos q]
  | false =>
   have q':¬p a=true:=by rw[q];exact Bool.false_ne_true
   simp only[xmc,V8,O0,xw0,xbs,C a (List.mem_cons_self ..),q,xft,if_false,ih,List.filter_cons_of_neg q']
theorem bP0{α:Type}{caps:List Nat}{src:Rho->Option (List D)}{e:DE}{ρ r:Rho}{l:List α}{h f:α->D}(hr:ab9 1 caps ρ=none::r) (hs:src ρ=some (l.map h)) (hl:l.length<=1000) (H:∀a∈l,e (‹h a›::r)=some (f a)) :
  P2 1 caps src (O0 0) U0 e ρ=some (l.map f):=by
 unfold P2
 rw[hs,xbs,if_pos (by rw[List.length_map];grind),hr,bE2 l _ H]
theorem bO9{α:Type}{caps:List Nat}{src:Rho->Option (List D)}{e:DE}{ρ r:Rho}{l:List α}{h1 h2 f:α->D}(hr:ab9 2 caps ρ=none::none::r) (hs:src ρ=some (l.map fun a=>.tuple [h1 a,h2 a])) (hl:l.length<=1000) (H:∀a∈l,e (‹h1 a›::‹h2 a›::r)=some (f a)) :
  P2 2 caps src (a8 2 (Q2 (O0 0) (Q2 (O0 1) m4))) U0 e ρ=some (l.map f):=by
 unfold P2
 rw[hs,xbs,if_pos (by rw[List.length_map];omega),hr,bE1 l _ _ H]
theorem bv7{α:Type}{caps:List Nat}{src:Rho->Option (List D)}{c:Rho->Option Bool}{e:DE}{ρ r:Rho}{l:List α}{h f:α->D}{p:α->Bool}(hr:ab9 1 caps ρ=none::r) (hs:src ρ=some (l.map h)) (hl:l.length<=1000) (C:∀a∈l,c (‹h a›::r)=some (p a)) (H:∀a∈l,e (‹h a›::r)=some (f a)) :
  P2 1 caps src (O0 0) c e ρ=some ((l.filter p).map f):=by
 unfold P2
 rw[hs,xbs,if_pos (by rw[List.length_map];omega),hr,bl1 l _ C H]
theorem ar3{f:DE}{ρ:Rho}{n:Nat}(h:f ρ=some (.int n)) (hn:n<=1000):Q7 f ρ=some ((List.range n).map fun k:Nat=>PyData.int k):=by
 unfold Q7
 rw[h,xbs]
 show(if -(2 ^ 62)<=(n:Int)/\(n:Int) < 2 ^ 62 then some (T6 0 n) else none)=_
 rw[if_pos ⟨by grind,by grind⟩]
 unfold T6
 congr 1
 have e:((n:Int) - 0).toNat=n:=by grind
 rw[e]
 apply List.map_congr_left
 intro k _
 congr 1
 grind
theorem bP3{i j:Int}(h1:E9 i) (h2:E9 j):U4 (.int i) (.int j)=some (.int (i*j)):=P5 h1 h2
theorem g9{i j:Nat}(h1:i<=1000) (h2:j<=1000):U4 (.int i) (.int j)=some (.int ((i*j:Nat):Int)):=by
 rw[bP3 (W7 (k:=10) (by grind) (by decide)) (W7 (k:=10) (by grind) (by decide)),Int.natCast_mul]
theorem bh2{n:Nat}{i:Int}(h0:0<=i) (h1:i < n):ixN n i=some i.toNat:=by unfold ixN;rw[if_pos h0,if_pos h1]
def Man.bl(m:Man) (a b:Q4):Q4:=⟨m.cov a.c b.c,m.col a.c b.c a.x b.x,m.col a.c b.c a.y b.y,m.col a.c b.c a.z b.z⟩
theorem bm1(m:Man) {k:Nat}{a b:Q4}(S:a.ok k) (T:b.ok k) (l:6*k+4<=8000):X6 [.str m.s,a.d,b.d]=some (m.bl a b).d/\(m.bl a b).ok (6*k+4):=aG7 m S T l
def blL(m:Man) (a b:List Q4):List Q4:=(a.zip b).map fun p=>m.bl p.1 p.2
theorem bX6(a b:List Q4):((a.map Q4.d).zip (b.map Q4.d)).map (fun(x,y)=>PyData.tuple [x,y])=(a.zip b).map fun p=>.tuple [p.1.d,p.2.d]:=by
 rw[List.zip_map,List.map_map];rfl
theorem bV8(m:Man) {k w h:Nat}{a b:List Q4}(S:ShOk k w h a) (T:ShOk k w h b) (l:6*k+4<=8000):K5 [.str m.s,shD w h a,shD w h b]=some (shD w h (blL m a b))/\ShOk (6*k+4) w h (blL m a b):=by
 have wh:w*h<=64:=Nat.mul_le_mul S.w8 S.h8
 have hz:(a.zip b).length=w*h:=by rw[List.length_zip,S.len,T.len,Nat.min_self]
 refine⟨?_,S.w1,S.w8,S.h1,S.h8,by unfold blL;rw[List.length_map,hz],fun q hq=>?_⟩
 ·refine M3 (ρ:=[‹.str m.s›,‹shD w h a›,‹shD w h b›,none]) rfl ?_
  have g:am8 (qE (dIx (C3 1) ⇑2)) (qE (dIx (C3 2) ⇑2)) [‹.str m.s›,‹shD w h a›,‹shD w h b›,none]=some (((a.map Q4.d).zip (b.map Q4.d)).map (fun(x,y)=>PyData.tuple [x,y])):=rfl
  have c:P2 2 [0] (am8 (qE (dIx (C3 1) ⇑2)) (qE (dIx (C3 2) ⇑2))) (a8 2 (Q2 (O0 0) (Q2 (O0 1) m4))) U0 (B0 X6 (A0 (A2 2) (A0 (A2 0) (A0 (A2 1) A8)))) [‹.str m.s›,‹shD w h a›,‹shD w h b›,none]=some ((blL m a b).map Q4.d):=by
   rw[bO9 (l:=a.zip b) (h1:=fun p=>p.1.d) (h2:=fun p=>p.2.d) (f:=fun p=>(m.bl p.1 p.2).d) (r:=[‹.str m.s›]) rfl (by rw[g,bX6]) (by omega) ?_]
   ·unfold blL;rw[List.map_map];rfl
   ·intro p hp
    have pa:=S.ok p.1 (List.of_mem_zip hp).1
    have pb:=T.ok p.2 (List.of_mem_zip hp).2
    wp_walk using evD,(bm1 m pa pb l).1
  have g0:∀v:Option B,dIx (C3 1) ⇑0 [‹.str m.s›,‹shD w h a›,‹shD w h b›,v]=some (.int w):=fun _=>rfl
  have g1:∀v:Option B,dIx (C3 1) ⇑1 [‹.str m.s›,‹shD w h a›,‹shD w h b›,v]=some (.int h):=fun _=>rfl
  simp only[X3,O3,y8,c,g0,g1,N9,Q9,A0,A8,af7,C3,xw0,xw1,xms,xbs,xg0,xg1]
  rfl
 ·obtain⟨p,hp,rfl⟩:=List.mem_map.mp hq
  exact(bm1 m (S.ok p.1 (List.of_mem_zip hp).1) (T.ok p.2 (List.of_mem_zip hp).2) l).2
end Sh
namespace Sh
open PySem G L2
abbrev scr(ns:List Int):D:=.list (ns.map PyData.int)
theorem i6(ns:List Int) (k m:Nat) (hn:ns.length<=63) (hk:k < 2 ^ 60) (hm:0 < m):∃n:Nat,B4 [scr ns,.int k,.int m]=some (.int n)/\n < m:=by
 have a:=ai5 ns k m hn hk (by grind)
 have b:=ah7 ns k m (by grind)
 refine⟨(ab3 ns k m).toNat,?_,by grind⟩
 rw[a]
 congr 2
 grind
theorem au2{h:D->D->Option D}{f g:DE}{ρ:Rho}{x y:D}(h1:f ρ=some x) (h2:g ρ=some y):A6 h f g ρ=h x y:=by unfold A6;rw[h1,xbs,h2,xbs]
theorem W8{α:Type}(a:α):∀n:Nat,(List.replicate n [a]).flatten=List.replicate n a
 | 0=>rfl
 | n+1=>by rw[List.replicate_succ,List.flatten_cons,W8 a n];rfl
theorem bd8{xs:List D}{n:Nat}(hn:n<=1000) (hx:xs.length<=1000):U4 (.list xs) (.int n)=some (.list (List.replicate n xs).flatten):=by
 show(if 0<=(n:Int)/\(n:Int) < 1000000/\xs.length*((n:Int)).toNat<=16777216 then some (PyData.list (List.replicate ((n:Int)).toNat xs).flatten) else none)=_
 rw[Int.toNat_natCast,if_pos ⟨by omega,by omega,Nat.le_trans (Nat.mul_le_mul hx hn) (by decide)⟩]
theorem cn5(a:D) (r:List D):l8 (a::r) none (some 1)=[a]:=by
 unfold l8
 have h1:HT.sIx (a::r).length 0 none=0:=by simp[HT.sIx]
 have h2:HT.sIx (a::r).length (a::r).length (some 1)=1:=by simp only[HT.sIx,List.length_cons];first|omega|(simp;omega)|simp
 rw[h1,h2];rfl
theorem ay6{P:Q4->Prop}(ns:List Int) (at' w h:Nat) (hn:ns.length<=63) (ha:at' < 2 ^ 20) (w1:1<=w) (w8:w<=8) (h1:1<=h) (h8:h<=8) (hf:∃f:Nat->Q4,∀k,k < 1000->X5 [scr ns,.int ((at'+12*k:Nat):Int)]=some (f k).d/\P (f k)):∃l:List Q4,V1 [scr ns,.int at',.int w,.int h]=some (shD w h l)/\l.length=w*h/\∀q∈l,P q:=by
 obtain⟨f,hf⟩:=hf
 have wh:w*h<=64:=Nat.mul_le_mul w8 h8
 have wh1:1<=w*h:=Nat.mul_le_mul w1 h1
 obtain⟨t,et,ht⟩:=i6 ns (at'+7) 3 hn (by grind) (by decide)
 have et':B4 [scr ns,.int ((at':Int)+7),.int 3]=some (.int t):=by rw[← et];simp
 have c:P2 1 [0,1] (Q7 (A6 U4 (A2 2) (A2 3))) (O0 0) U0 (B0 X5 (A0 (A2 1) (A0 (A6 Q3 (A2 2) (A6 U4 ⇑12 (A2 0))) A8))) [‹scr ns›,‹.int at'›,‹.int w›,‹.int h›,none]=some ((List.range (w*h)).map fun k=>(f k).d):=by
  refine bP0 (l:=List.range (w*h)) (h:=fun k:Nat=>PyData.int k) (r:=[‹scr ns›,‹.int at'›]) rfl (ar3 ?_ (by grind)) (by rw[List.length_range];grind) ?_
  ·exact g9 (by grind) (by grind)
  ·intro k hk
   have hk:=List.mem_range.mp hk
   have m12:U4 (.int 12) (.int k)=some (.int ((12*k:Nat):Int)):=g9 (i:=12) (by decide) (by grind)
   have e1:((at':Int)+((12*k:Nat):Int))=((at'+12*k:Nat):Int):=by grind
   wp_walk using evD,m12,e1,(hf k (by grind)).1
 have mwh:U4 (.int w) (.int h)=some (.int ((w*h:Nat):Int)):=g9 (by grind) (by grind)
 have cv:((t:Int)==0)=decide (t=0):=by cases t with
  | zero=>rfl
  | succ n=>rw[decide_eq_false (by grind)];exact beq_eq_false_iff_ne.mpr (by grind)
 obtain⟨n,en⟩:∃n,w*h=n+1:=⟨w*h - 1,by grind⟩
 by_cases t0:t=0
 ·refine⟨List.replicate (w*h) (f 0),?_,List.length_replicate ..,fun q hq=>by rw[(List.mem_replicate.mp hq).2];exact(hf 0 (by decide)).2⟩
  refine M3 (ρ:=[‹scr ns›,‹.int at'›,‹.int w›,‹.int h›,none]) rfl ?_
  have hd:(List.range (w*h)).map (fun k=>(f k).d)=(f 0).d::(List.range n).map (fun k=>(f (k+1)).d):=by
   rw[en,List.range_succ_eq_map,xmc,List.map_map];rfl
  rw[hd]at c
  have v:A6 U4 (bk9 (A2 4) Z7 (Z6 ⇑1)) (A6 U4 (A2 2) (A2 3)) [‹scr ns›,‹.int at'›,‹.int w›,‹.int h›,‹.list ((f 0).d::(List.range n).map (fun k=>(f (k+1)).d))›]=some (.list (List.replicate (w*h) (f 0).d)):=by
   have a1:bk9 (A2 4) Z7 (Z6 ⇑1) [‹scr ns›,‹.int at'›,‹.int w›,‹.int h›,‹.list ((f 0).d::(List.range n).map (fun k=>(f (k+1)).d))›]=some (.list (l8 ((f 0).d::(List.range n).map (fun k=>(f (k+1)).d)) none (some 1))):=rfl
   have a2:A6 U4 (A2 2) (A2 3) [‹scr ns›,‹.int at'›,‹.int w›,‹.int h›,‹.list ((f 0).d::(List.range n).map (fun k=>(f (k+1)).d))›]=some (.int ((w*h:Nat):Int)):=(au2 rfl rfl).trans mwh
   rw[cn5]at a1
   have a3:=bd8 (xs:=[(f 0).d]) (show w*h<=1000 by grind) (show 1<=1000 by decide)
   rw[W8]at a3
   exact(au2 a1 a2).trans a3
  have t1:tB2 eqD (B0 B4 (A0 (A2 0) (A0 (A6 Q3 (A2 1) ⇑7) (A0 ⇑3 A8)))) ⇑0 [‹scr ns›,‹.int at'›,‹.int w›,‹.int h›,‹.list ((f 0).d::(List.range n).map (fun k=>(f (k+1)).d))›]=some true:=by
   simp only[tB2,A6,B0,A0,A8,A2,dC,xms,xbs,xg0,xg1,al8,et',ch3,cv,decide_eq_true t0,i7]
  simp only[ae0,O3,y8,c,sIf,t1,R5,v,N9,Q9,A0,A8,af7,C3,A2,xms,xbs,xw0,xw1,xg0,xg1,if_true,xft,if_false,shD,List.map_replicate]
 ·refine⟨(List.range (w*h)).map f,?_,by rw[List.length_map,List.length_range],fun q hq=>by
   obtain⟨k,hk,rfl⟩:=List.mem_map.mp hq
   exact(hf k (by have:=List.mem_range.mp hk;grind)).2⟩
  refine M3 (ρ:=[‹scr ns›,‹.int at'›,‹.int w›,‹.int h›,none]) rfl ?_
  wp_walk using evD,ae0,c,et',cv,decide_eq_false t0,shD,List.map_map
  rfl
end Sh
namespace Sh
open PySem G L2
theorem q4:(4:Nat)<=16777216:=by decide
theorem q3:(3:Nat)<=16777216:=by decide
end Sh
namespace Sh
open PySem G L2
def Dv(N:Nat) (r:Rat):Prop:=∃z:Int,r*(N:Rat)=(z:Rat)
theorem Dv.add{N:Nat}{r s:Rat}(h:Dv N r) (g:Dv N s):Dv N (r+s):=by
 obtain⟨a,ha⟩:=h;obtain⟨b,hb⟩:=g
 exact⟨a+b,by rw[Rat.add_mul,ha,hb,Rat.intCast_add]⟩
theorem Dv.sub{N:Nat}{r s:Rat}(h:Dv N r) (g:Dv N s):Dv N (r - s):=by
 obtain⟨a,ha⟩:=h;obtain⟨b,hb⟩:=g
 exact⟨a - b,by rw[Rat.intCast_sub,← ha,← hb];grind⟩
theorem Dv.mul{M N:Nat}{r s:Rat}(h:Dv M r) (g:Dv N s):Dv (M*N) (r*s):=by
 obtain⟨a,ha⟩:=h;obtain⟨b,hb⟩:=g
 exact⟨a*b,by rw[Rat.intCast_mul,← ha,← hb,Rat.natCast_mul];grind⟩
theorem Dv.int(N:Nat) (i:Int):Dv N (i:Rat):=⟨i*N,by rw[Rat.intCast_mul];rfl⟩
theorem Dv.one(N:Nat):Dv N 1:=Dv.int N 1
theorem Dv.right{N:Nat}{r:Rat}(h:Dv N r) (M:Nat):Dv (N*M) r:=by
 have:=h.mul (Dv.one M);rwa [Rat.mul_one]at this
theorem Dv.left{N:Nat}{r:Rat}(h:Dv N r) (M:Nat):Dv (M*N) r:=by
 have:=(Dv.one M).mul h;rwa [Rat.one_mul]at this
theorem Dv.comm{M N:Nat}{r:Rat}(h:Dv (M*N) r):Dv (N*M) r:=by rwa [Nat.mul_comm]
theorem Dv.of(a:Int) {N:Nat}(hN:0 < N):Dv N (mkRat a N):=by
 refine⟨a,?_⟩
 have hN':(N:Rat)≠0:=by
  intro h
  have:N=0:=by exact_mod_cast h
  omega
 rw[Rat.mkRat_eq_div]
 exact Rat.div_mul_cancel hN'
theorem Dv.mk{N:Nat}{r:Rat}(hN:0 < N) (h:Dv N r) (h0:0<=r) (h1:r<=1):∃a:Nat,a<=N/\r=mkRat a N:=by
 obtain⟨z,hz⟩:=h
 have hN':(0:Rat) < N:=by exact_mod_cast hN
 have z0:0<=z:=by
  have:(0:Rat)<=(z:Rat):=by rw[← hz];exact Rat.mul_nonneg h0 (Rat.le_of_lt hN')
  exact_mod_cast this
 have z1:z<=N:=by
  have:(z:Rat)<=(N:Rat):=by
   rw[← hz]
   have:=Rat.mul_le_mul_of_nonneg_right h1 (Rat.le_of_lt hN')
   rwa [Rat.one_mul]at this
  exact_mod_cast this
 refine⟨z.toNat,by omega,?_⟩
 have e:((z.toNat:Nat):Int)=z:=by omega
 rw[Rat.mkRat_eq_div]
 have hne:(N:Rat)≠0:=fun h=>by rw[h]at hN';exact absurd hN' (by decide)
 have e2:(((z.toNat:Nat):Int):Rat)=r*N:=by rw[e,hz]
 rw[e2]
 exact(Rat.mul_div_cancel hne).symm
theorem Dv.cap{N:Nat}{r:Rat}(h:Dv N r):Dv N (aB0 r):=by
 unfold aB0;split
 ·exact h
 ·exact Dv.one N
theorem Dv.cov(m:Man) {M N:Nat}{c d:Rat}(hc:Dv M c) (hd:Dv N d):Dv (M*N) (m.cov c d):=by
 cases m
 case plus=>exact((hc.right N).add (hd.left M)).cap
 case atop=>exact hd.left M
 case cut=>exact(hd.mul ((Dv.one M).sub hc)).comm
 all_goals exact((hc.right N).add (hd.left M)).sub (hc.mul hd)
theorem Dv.col(m:Man) {M N:Nat}{c d x y:Rat}(hc:Dv M c) (hd:Dv N d) (hx:Dv M x) (hy:Dv N y):Dv (M*N) (m.col c d x y):=by
 have r:=(hy.mul ((Dv.one M).sub hc)).comm
 cases m
 case over=>exact(hx.right N).add r
 case mult=>exact((hx.mul hy).add (hx.mul ((Dv.one N).sub hd))).add r
 case screen=>exact((hx.right N).add (hy.left M)).sub (hx.mul hy)
 case plus=>exact((hx.right N).add (hy.left M)).cap
 case atop=>exact(hx.mul hd).add r
 case cut=>exact r
def Dn(k:Nat) (q:Q4):Prop:=∃N,0 < N/\N < 2 ^ k/\Dv N q.c/\Dv N q.x/\Dv N q.y/\Dv N q.z
theorem Y2{a b j k:Nat}(h1:a < 2 ^ j) (h2:b < 2 ^ k):a*b < 2 ^ (j+k):=by
 rw[Nat.pow_add]
 exact Nat.mul_lt_mul'' h1 h2
theorem Dn.bl(m:Man) {j k:Nat}{a b:Q4}(h:Dn j a) (g:Dn k b):Dn (j+k) (m.bl a b):=by
 obtain⟨M,m0,m1,hc,hx,hy,hz⟩:=h
 obtain⟨N,n0,n1,gc,gx,gy,gz⟩:=g
 exact⟨M*N,Nat.mul_pos m0 n0,Y2 m1 n1,hc.cov m gc,hc.col m gc hx gx,hc.col m gc hy gy,hc.col m gc hz gz⟩
theorem Dn.mono{j k:Nat}{q:Q4}(h:Dn j q) (l:j<=k):Dn k q:=by
 obtain⟨N,n0,n1,r⟩:=h
 exact⟨N,n0,Nat.lt_of_lt_of_le n1 (Nat.pow_le_pow_right (by decide) l),r⟩
def Q4.or(q:Q4):Prop:=0<=q.x/\0<=q.y/\0<=q.z/\q.x<=q.c/\q.y<=q.c/\q.z<=q.c/\q.c<=1
theorem Q4.ok.or{k:Nat}{q:Q4}(h:q.ok k):q.or:=⟨h.hx.nn,h.hy.nn,h.hz.nn,h.xc,h.yc,h.zc,h.hc.le⟩
structure Dq (k:Nat) (q:Q4):Prop where
 o:q.or
 n:Dn k q
theorem aJ4{k N:Nat}{r:Rat}(n0:0 < N) (n1:N < 2 ^ k) (d:Dv N r) (h0:0<=r) (h1:r<=1):IsSh k r:=by
 obtain⟨a,ha,e⟩:=d.mk n0 h0 h1
 refine⟨?_,h1⟩
 rw[e]
 exact Bd.of n0 (by omega) n1
theorem Dq.ok{k:Nat}{q:Q4}(h:Dq k q):q.ok k:=by
 obtain⟨⟨x0,y0,z0,xc,yc,zc,c1⟩,N,n0,n1,hc,hx,hy,hz⟩:=h
 have c0:=Rat.le_trans x0 xc
 exact⟨aJ4 n0 n1 hc c0 c1,(aJ4 n0 n1 hx x0 (Rat.le_trans xc c1)).bd,(aJ4 n0 n1 hy y0 (Rat.le_trans yc c1)).bd,(aJ4 n0 n1 hz z0 (Rat.le_trans zc c1)).bd,xc,yc,zc⟩
theorem Dq.mono{j k:Nat}{q:Q4}(h:Dq j q) (l:j<=k):Dq k q:=⟨h.o,h.n.mono l⟩
end Sh
namespace Sh
open PySem G L2
theorem aJ5{k:Nat}{r:Rat}(h:IsSh k r):∃N,0 < N/\N < 2 ^ k/\Dv N r:=by
 refine⟨r.den,Rat.den_pos r,h.bd.den,?_⟩
 have:=Dv.of r.num (Rat.den_pos r)
 rwa [Rat.mkRat_self]at this
theorem bC1(ns:List Int) (k:Nat) (hn:ns.length<=63) (hk:k < 2 ^ 30):∃q:Q4,X5 [scr ns,.int k]=some q.d/\Dq 16 q:=by
 obtain⟨c,a0,a1,a2,e,hc,h0,h1,h2⟩:=bB2 ns k hn hk
 refine⟨⟨c,c*a0,c*a1,c*a2⟩,e,?_,?_⟩
 ·exact⟨Rat.mul_nonneg hc.bd.nn h0.bd.nn,Rat.mul_nonneg hc.bd.nn h1.bd.nn,Rat.mul_nonneg hc.bd.nn h2.bd.nn,g8 hc.bd.nn h0.le,g8 hc.bd.nn h1.le,g8 hc.bd.nn h2.le,hc.le⟩
 ·obtain⟨N,n0,n1,d⟩:=aJ5 hc
  obtain⟨N0,m0,k0,d0⟩:=aJ5 h0
  obtain⟨N1,m1,k1,d1⟩:=aJ5 h1
  obtain⟨N2,m2,k2,d2⟩:=aJ5 h2
  refine⟨N*(N0*(N1*N2)),Nat.mul_pos n0 (Nat.mul_pos m0 (Nat.mul_pos m1 m2)),Y2 n1 (Y2 k0 (Y2 k1 k2)),d.right _,d.mul (d0.right _),d.mul ((d1.right _).left _),d.mul ((d2.left _).left _)⟩
structure Sh2 (j:Nat) (l:List Q4):Prop where
 len:l.length=2
 ok:∀q∈l,Dq j q
theorem Sh2.sh(h:Sh2 j l):ShOk j 2 1 l:=⟨by decide,by decide,by decide,by decide,h.len,fun q hq=>(h.ok q hq).ok⟩
theorem Sh2.mono(h:Sh2 j l) (e:j<=k):Sh2 k l:=⟨h.len,fun q hq=>(h.ok q hq).mono e⟩
theorem bJ5(ns:List Int) (at':Nat) (hn:ns.length<=63) (ha:at' < 2 ^ 20):∃l:List Q4,V1 [scr ns,.int at',.int 2,.int 1]=some (shD 2 1 l)/\Sh2 16 l:=by
 obtain⟨l,e,n,hl⟩:=ay6 (P:=Dq 16) ns at' 2 1 hn ha (by decide) (by decide) (by decide) (by decide) ⟨fun k=>if h:k < 1000 then Classical.choose (bC1 ns (at'+12*k) hn (by grind)) else q0,fun k hk=>by
  simp only[dif_pos hk]
  exact Classical.choose_spec (bC1 ns (at'+12*k) hn (by grind))⟩
 exact⟨l,e,n,hl⟩
theorem Dq.bl2(m:Man) {j:Nat}{a b:Q4}(h:Dq j a) (g:Dq j b) (l:j<=1300):Dq (j+j) (m.bl a b):=⟨(bm1 m h.ok g.ok (by omega)).2.or,h.n.bl m g.n⟩
theorem bV7(m:Man) (h:Sh2 j a) (g:Sh2 j b) (l:j<=1300):K5 [.str m.s,shD 2 1 a,shD 2 1 b]=some (shD 2 1 (blL m a b))/\Sh2 (j+j) (blL m a b):=by
 obtain⟨e,S⟩:=bV8 m h.sh g.sh (by omega)
 refine⟨e,S.len,fun q hq=>?_⟩
 obtain⟨p,hp,rfl⟩:=List.mem_map.mp hq
 exact(h.ok p.1 (List.of_mem_zip hp).1).bl2 m (g.ok p.2 (List.of_mem_zip hp).2) l
end Sh
namespace G
open PySem PySem.Spec PyProof.Rows L2
abbrev FnD:=List D->Option D
structure Sg where
 fn:List (Str×FnD×Nat)
 cs:List (Str×D)
 bl:List Str
structure Kx where
 N:List Str
 sc:Scope
 df:Bool
 own:List Nat
 cpt:List Nat
 tx:List Nat
 dx:List Nat
 old:Bool
 fz:List (Nat×List Nat)
 hc:List ((Nat×Nat)×List Nat)
def biS(K:PySem.W.Frag) (n:Nat) (F:List D->Option D):List V->Hp->VK->Prop:=fun vs H Q=>vs.length=n/\∃Hf ds d,B2 Hf H/\Reps K Hf ds vs/\F ds=some d/\∀v H' Hf',Grow H Hf H' Hf'->Rep K Hf' d v->Q v H'
def bX3(x:Str) (F:FnD) (n:Nat):Prop:=0 < n/\x ≠ "__name__" /\ ∃nm,bootBuiltins x=some (.builtin nm)/\∀X:Cx,X.A.units+64 < cLine->a9 X (.builtin nm) (biS X.K n F)
theorem bD6(hb:bX3 x F n) (hu:X.A.units+64 < cLine) (hg:Gl X x) (hm:X.mg x=none) (ha:JA X (e::es) g) (hn:(e::es).length=n) (hdb:(x==("__debug__" : Str))=false)
  (he:starEach (e::es) X.env=(false,eval e X.env)::starEach es X.env) (hpl:(backTo pos (starEach es X.env)).any (·.1)=false):JE X (.Call (.Name x p) (e::es) [] pos) (B0 F g):=fun ρ d q=>by
 obtain⟨ds,h1,h2⟩:=Option.bind_eq_some_iff.mp q
 obtain⟨_,hnn,nm,hv,hc⟩:=hb
 refine A5 (V4 (hc X hu) hg hm hv (ha.run ρ ds h1) hnn hdb he hpl) fun σ H Q ⟨H0,Hf,s,sl,kk⟩=>?_
 exact⟨H0,Hf,s,sl,fun vs H1 Hf1 g1 r1=>⟨by rw[r1.length,ha.len ρ ds h1,hn],Hf1,ds,d,g1.sub,r1,h2,fun v H2 Hf2 g2 r2=>kk v H2 Hf2 (g1.trans g2) r2⟩⟩
def cp1(X:Cx) (x:Str) (F:FnD) (n:Nat):Prop:=(∃(k:Nat) (f:Addr) (fd:FuncData) (ps:List Str),FnOk X.prog X.w X.K X.mg X.base CX0 k f fd ps (spF X.K n F)/\Room k X.A/\X.mg x=some (.ref f)/\PySem.W.keepIn X.K (.ref f)=true/\N7 X.K fd ps [])\/(X.mg x=none/\bX3 x F n)
structure Fit (S:Sg) (c:Kx) (X:Cx):Prop where
 N:X.N=c.N
 sc:X.env.scope=c.sc
 nd:c.N.Nodup
 calm:X.calm=true
 xe:X.xe=fun _ _=>False
 units:X.A.units+64 < cLine
 df:c.df=true->(∀x,X.fn x=true)/\c.sc.kind=.function
 fns:∀x F n,S.fn.lookup x=some (F,n)->cp1 X x F n
 css:∀x d,S.cs.lookup x=some d->∃u,aH4 X.K d u/\X.mg x=some u
 bls:∀x,S.bl.contains x=true->X.mg x=none
def pl:Expr->Bool
 | .Starred ..=>false
 | .Slice ..=>false
 | .Set ..=>false
 | _=>true
def isC:Expr->Bool
 | .ListComp ..=>true
 | .SetComp ..=>true
 | .DictComp ..=>true
 | _=>false
def plT:Expr->Bool
 | .UnaryOp ..=>false
 | .BoolOp ..=>false
 | .IfExp ..=>false
 | .Compare ..=>false
 | _=>true
def T0(x:Str):List Str->Option Nat
 | []=>none
 | y::r=>if y==x then some 0 else(T0 x r).map (·+1)
theorem az3:∀{l:List Str}{i:Nat},T0 x l=some i->l[i]? = some x
 | [],i,h=>by cases h
 | y::r,i,h=>by
  unfold T0 at h
  split at h
  ·rename_i e
   cases h
   simp only[beq_iff_eq]at e
   subst e;rfl
  ·obtain⟨j,h1,h2⟩:=Option.map_eq_some_iff.mp h
   subst h2
   simpa using az3 h1
def o7:List Str->Bool
 | []=>true
 | x::r=>!(r.contains x)&&o7 r
theorem k6:∀{l:List Str},o7 l=true->l.Nodup
 | [],_=>List.nodup_nil
 | x::r,h=>by
  unfold o7 at h
  simp only[Bool.and_eq_true,Bool.not_eq_true']at h
  refine List.nodup_cons.mpr ⟨fun z=>?_,k6 h.2⟩
  have:=h.1
  rw[List.contains_iff_mem.mpr z]at this
  cases this
def l4(sc:Scope) (x:Str):Bool:=(match sc.names.lookup x with|some .local=>true|some .cell=>true|some .free=>true|_=>false) && !(x==("__debug__" : Str)) && !(x==("__classdict__" : Str))
def as6(c:Kx) (x:Str):Bool:=(match c.sc.names.lookup x with|some .local=>true|some .cell=>c.df|_=>false)
def ag2(sc:Scope) (x:Str):Bool:=(match sc.names.lookup x with|some .globalImplicit=>true|_=>false) && !(x==("__debug__" : Str))
def biB(S:Sg) (c:Kx) (w x:Str):Bool:=x==w&&S.bl.contains w&&ag2 c.sc w
section
variable {X:Cx}{S:Sg}{c:Kx}
theorem P0(F:Fit S c X) (h:l4 c.sc x=true):Vis X.env.scope x/\(x==("__debug__" : Str))=false/\(x==("__classdict__" : Str))=false:=by
 unfold l4 at h
 simp only[Bool.and_eq_true,Bool.not_eq_true']at h
 obtain⟨⟨h1,h2⟩,h3⟩:=h
 refine⟨?_,h2,h3⟩
 rw[F.sc]
 unfold Vis
 split at h1
 ·rename_i e;exact .inl e
 ·rename_i e;exact .inr (.inl e)
 ·rename_i e;exact .inr (.inr e)
 ·cases h1
theorem aa5(F:Fit S c X) (h:as6 c x=true):L2.Loc X.env.scope x/\(X.fn x=true\/X.env.scope.names.lookup x=some .local):=by
 unfold as6 at h
 rw[F.sc]
 unfold L2.Loc
 split at h
 ·rename_i e;exact⟨.inl e,.inr e⟩
 ·rename_i e;exact⟨.inr e,.inl ((F.df h).1 x)⟩
 ·cases h
theorem Y4(F:Fit S c X) (h:ag2 c.sc x=true):Gl X x/\(x==("__debug__" : Str))=false:=by
 unfold ag2 at h
 simp only[Bool.and_eq_true,Bool.not_eq_true']at h
 refine⟨?_,h.2⟩
 unfold Gl Env.kindOf
 rw[F.sc]
 have h1:=h.1
 split at h1
 ·rename_i e;exact e
 ·cases h1
theorem K2(F:Fit S c X) (h:biB S c w x=true):x=w/\Gl X w/\X.mg w=none:=by
 unfold biB at h
 simp only[Bool.and_eq_true,beq_iff_eq]at h
 exact⟨h.1.1,(Y4 F h.2).1,F.bls _ h.1.2⟩
theorem D5(h:pl e=true) (es:List Expr) (env:Env):starEach (e::es) env=(false,eval e env)::starEach es env:=by
 cases e<;>first|rfl|cases h
theorem bC4(h:pl e=true):ai1 e:=by
 intro o i
 cases e<;>first|rfl|cases h
theorem ag7(h:pl e=true) (op:CmpOp):behindInMarks op e=false:=by
 cases e<;>first|rfl|cases h
theorem ag8(h:pl e=true) (env:Env) (x:Value):foldedSetIterable e env x=pure x:=by
 cases e<;>first|rfl|cases h
theorem S9(h:isC e=false) (t:Option Expr) (l:Nat) (env:Env):swapsWith e t l env=pure false:=by
 cases e<;>first|rfl|cases h
theorem ba0(h:plT e=true) (env:Env) (whole:Sem Value):isTrue e env whole=(do let v ← whole;standAt e.pos;holding [v] (truthy v)):=by
 cases e<;>first|rfl|cases h
end
end G
namespace G
open PySem PySem.Spec PyProof.Rows L2
abbrev DA:=Rho->Option (List D)
abbrev DQ:=Rho->Option (Bool×List D)
abbrev DT:=Rho->Option Bool
abbrev DG:=D->Rho->Option Rho
def dNo:DE:=fun _=>none
def aNo:DA:=fun _=>none
def qNo:DQ:=fun _=>none
def tNo:DT:=fun _=>none
def gNo:DG:=fun _ _=>none
structure Ev where
 e:Kx->Expr->DE
 q:Kx->Expr->DQ
 n:Kx->Expr->DA
 t:Kx->Expr->DT
 g:Kx->Expr->DG
 b:Kx->List Stmt->DS
def aU3:CmpOp->D->D->Option D
 | .Lt=>ltI | .LtE=>leI | .Gt=>gtI | .GtE=>geI | .Eq=>eqD | .NotEq=>neD | .Is=>isB | .IsNot=>bO7 | .In=>inD false | .NotIn=>inD true
def evA(f:Expr->DE):List Expr->DA
 | []=>A8
 | e::es=>if pl e then A0 (f e) (evA f es) else aNo
def bj4(f:Expr->DE) (op:BoolOp):List Expr->DE
 | []=>dNo
 | [a]=>f a
 | a::b::r=>match op with
  | .And=>bz9 (f a) (bj4 f op (b::r))
  | .Or=>dOr (f a) (bj4 f op (b::r))
def bj3(f:Expr->DT) (op:BoolOp):List Expr->DT
 | []=>tNo
 | [a]=>f a
 | a::b::r=>match op with
  | .And=>av9 (f a) (bj3 f op (b::r))
  | .Or=>bI1 (f a) (bj3 f op (b::r))
def evO(f:Expr->DE):Option Expr->Rho->Option (Option Int)
 | none=>Z7
 | some e=>Z6 (f e)
def by9(f:Expr->DG):List Expr->List D->Rho->Option Rho
 | []=>m4
 | e::es=>Q2 (f e) (by9 f es)
def bj1(f:Expr->DT):List Expr->DT
 | []=>U0
 | [t]=>f t
 | _=>tNo
def T5:Expr->List Str
 | .Name x _=>[x]
 | .Tuple es _ _=>es.filterMap fun | .Name x _=>some x|_=>none
 | _=>[]
def rl(scope sc:Scope):Scope:={ scope with names:=scope.names.map fun(n,k)=>if(k == .free&&sc.kind == .function&&sc.names.lookup n==some .cell) then(n,.cell) else(n,k) }
def aF6(n:Nat) (caps l:List Nat):List Nat:=(List.range caps.length).filterMap fun i=>match caps[i]? with|some j=>if l.contains j then some (n+i) else none|none=>none
def cb3(c:Kx) (j:Nat):Str:=(c.N[j]?).getD ""
def inner(c:Kx) (tn:List Str) (caps:List Nat) (scope:Scope):Kx :=
 { N:=tn++caps.map (cb3 c),sc:=rl scope c.sc,df:=false,own:=aF6 tn.length caps c.own,cpt:=[],tx:=aF6 tn.length caps c.tx,dx:=aF6 tn.length caps c.dx,old:=c.old,fz:=[],hc:=c.hc }
def isList:Expr->Bool
 | .List ..=>true
 | .ListComp ..=>true
 | _=>false
def aa9(c:Kx) (l:List Nat):Expr->Bool
 | .Name x _=>(match T0 x c.N with|some i=>l.contains i|none=>false)
 | _=>false
def bT8:Expr->Bool
 | .Constant (.str _) _ _=>true
 | _=>false
def opW(S:Sg) (c:Kx) (op:CmpOp) (b:Expr):D->D->Option D:=aU3 op
def af2:Expr->Bool
 | .Tuple ..=>true
 | _=>false
def bH6(x:Str):Option String:=if x == "int" then some "int" else if x == "bool" then some "bool" else if x == "str" then some "str" else if x == "tuple" then some "tuple" else if x == "list" then some "list" else none
section
variable (S:Sg) (r:Ev)
def evR(c:Kx) (tg:Expr) (a:Expr):DA:=match a with
 | .Call f as kw _=>(match f,as,kw with
  | .Name y _,[e],[]=>(match e with
   | .Call f2 as2 kw2 _=>(match f2,as2,kw2 with
    | .Name z _,[b],[]=>if biB S c "list" y&&biB S c "enumerate" z&&af2 tg&&pl b then fun _=>none else fun _=>none
    | _,_,_=>fun _=>none)
   | _=>fun _=>none)
  | _,_,_=>fun _=>none)
 | _=>fun _=>none
def evI(c:Kx) (tg it:Expr):DA:=match it with
 | .Call (.Name x _) [a] [] _=>if biB S c "reversed" x then evR S c tg a else if biB S c "range" x&&pl a then Q7 (r.e c a) else if biB S c "enumerate" x&&af2 tg&&pl a then(fun _=>none) else am9 (r.e c it)
 | .Call (.Name x _) [a,b] [] _=>if biB S c "range" x&&pl a&&pl b then az7 (r.e c a) (r.e c b) else if biB S c "zip" x&&af2 tg&&pl a&&pl b then am8 (qE (r.e c a)) (qE (r.e c b)) else am9 (r.e c it)
 | _=>if aa9 c c.tx it then(fun _=>none) else am9 (r.e c it)
def evC(c:Kx) (ex:Expr):DA:=match ex with
 | .ListComp elt [⟨tgt,iter,ifs,0⟩] scope pos =>
  let tn:=T5 tgt
  let caps:=(c.hc.lookup (pos.line,pos.col)).getD []
  let c':=inner c tn caps scope
  if ab7 c.N c'.N tn.length caps c.sc scope&&o7 c'.N&&pl iter then P2 tn.length caps (evI S r c tgt iter) (r.g c' tgt) (bj1 (r.t c') ifs) (r.e c' elt) else aNo
 | _=>aNo
def aC2(c:Kx) (x:Str) (a:Expr):DE :=
 if !(pl a) then dNo
 else if biB S c "len" x then(match a with
  | .Call (.Name y _) [e] [] _=>if biB S c "set" y&&pl e then dNo else ag5 (r.q c a)
  | _=>if aa9 c c.tx a then dNo else ag5 (r.q c a))
 else if biB S c "tuple" x then af7 (r.q c a)
 else if biB S c "all" x then bV1 (r.q c a)
 else if biB S c "int" x then bV0 (r.e c a)
 else if biB S c "str" x then dNo
 else if biB S c "abs" x then dNo
 else if biB S c "min" x then dNo
 else if biB S c "max" x then dNo
 else dNo
def aC1(c:Kx) (x:Str) (a b:Expr):DE :=
 if !(pl a) then dNo
 else if biB S c "isinstance" x then(match b with
  | .Name y _=>(match bH6 y with
   | some T=>if biB S c y y then bU9 T (r.e c a) else dNo
   | none=>dNo)
  | _=>dNo)
 else if !(pl b) then dNo
 else if biB S c "min" x then dNo
 else if biB S c "max" x then dNo
 else dNo
def aV4(c:Kx) (x:Str) (args:List Expr) (ex:Expr):DE:=match S.fn.lookup x with
 | some (F,n)=>if ag2 c.sc x&&args.length==n&&args.all pl then B0 F (evA (r.e c) args) else dNo
 | none=>match args with
  | [a]=>if biB S c "list" x then ab6 (r.n c ex) else aC2 S r c x a
  | [a,b]=>aC1 S r c x a b
  | _=>dNo
def bJ4:Expr->Option (Option Expr×Option Expr×Option Expr)
 | .Slice lo hi st _=>some (lo,hi,st)
 | _=>none
def unE:Expr->Option (UnaryOp×Expr)
 | .UnaryOp o a _=>some (o,a)
 | _=>none
def cn7:Const->Bool
 | .int i=>decide (i=1)
 | _=>false
def cd3:Expr->Bool
 | .Constant k _ _=>cn7 k
 | _=>false
def m1E(e:Expr):Bool:=match unE e with
 | some t=>(match t.1 with
  | .USub=>cd3 t.2
  | _=>false)
 | none=>false
def nmP:Expr->Option (Str×Pos)
 | .Name x p=>some (x,p)
 | _=>none
def bH8:List Expr->Option ((Str×Pos)×Str×Pos)
 | [a,b]=>(nmP a).bind fun x=>(nmP b).map fun y=>(x,y)
 | _=>none
def bH7:Expr->Option (Expr×Expr)
 | .Tuple es _ _=>(match es with
  | [a,b]=>some (a,b)
  | _=>none)
 | _=>none
def bE7(c:Kx) (a i:Expr):DE:=match bJ4 i with
 | some t=>(match t.2.2 with
  | none =>
   if c.old then au1 (r.e c a) (evO (r.e c) t.1) (evO (r.e c) t.2.1)
   else if aa9 c c.tx a then ch6 (r.e c a) (evO (r.e c) t.1) (evO (r.e c) t.2.1)
   else if aa9 c c.own a then ch7 (r.q c a) (evO (r.e c) t.1) (evO (r.e c) t.2.1)
   else bk9 (r.e c a) (evO (r.e c) t.1) (evO (r.e c) t.2.1)
  | some e=>if t.1.isNone&&t.2.1.isNone&&m1E e then bD9 (r.e c a) else dNo)
 | none=>if pl i then(if bT8 a then ch8 (r.e c a) (r.e c i) else dIx (r.q c a) (r.e c i)) else dNo
def xCn(k:Const):DE:=match k with
 | .none=>dC .none
 | .bool b=>dC (.bool b)
 | .int i=>dC (.int i)
 | .str x=>dC (.str x)
 | _=>dNo
def bF4(c:Kx) (a:Expr) (op:Operator) (b:Expr):DE:=match op with
 | .Add=>if c.old && !(isList a || isList b) then A6 Y6 (r.e c a) (r.e c b) else A6 Q3 (r.e c a) (r.e c b)
 | .Sub=>A6 W1 (r.e c a) (r.e c b)
 | .Mult=>if c.old then A6 T8 (r.e c a) (r.e c b) else(match a with
  | .Subscript v _ _=>if aa9 c c.tx v then A6 bP1 (r.e c a) (r.e c b) else A6 U4 (r.e c a) (r.e c b)
  | _=>A6 U4 (r.e c a) (r.e c b))
 | .FloorDiv=>A6 ab4 (r.e c a) (r.e c b)
 | .Mod=>A6 W5 (r.e c a) (r.e c b)
 | .Pow=>dNo
 | _=>dNo
def xUn(c:Kx) (op:UnaryOp) (a:Expr):DE:=match op with
 | .USub=>ag4 (r.e c a)
 | .Not=>bU8 (r.e c a)
 | _=>dNo
def bF2(c:Kx) (a:Expr) (ops:List CmpOp) (bs:List Expr):DE:=match ops,bs with
 | [op],[b]=>if pl b then A6 (opW S c op b) (r.e c a) (r.e c b) else dNo
 | [op,op'],[b,d]=>if pl d then al5 (aU3 op) (aU3 op') (r.e c a) (r.e c b) (r.e c d) else dNo
 | _,_=>dNo
def bY1(c:Kx) (o:Expr) (m:Str) (apos cpos:Pos) (args:List Expr):DE:=(fun(_:Ev)=>dNo) r
def xCl(c:Kx) (f:Expr) (args:List Expr) (kw:List Keyword) (pos:Pos):DE:=match kw with
 | []=>(match f with
  | .Name x p=>aV4 S r c x args (.Call (.Name x p) args [] pos)
  | .Attribute o m apos=>bY1 r c o m apos pos args
  | _=>dNo)
 | _=>dNo
def xDs(ks:List (Option Expr)) (vs:List Expr):DE:=dNo
def xE(c:Kx) (ex:Expr):DE:=match ex with
 | .Constant k _ _=>xCn k
 | .Name x _=>(match T0 x c.N with
  | some i=>if l4 c.sc x then A2 i else dNo
  | none=>(match S.cs.lookup x with
   | some d=>if ag2 c.sc x then dC d else dNo
   | none=>dNo))
 | .Tuple es _ _=>if es.length<=1000 then Q9 (evA (r.e c) es) else dNo
 | .List _ _=>ab6 (r.n c ex)
 | .ListComp _ _ _ _=>ab6 (r.n c ex)
 | .BinOp a op b _=>bF4 r c a op b
 | .UnaryOp op a _=>xUn r c op a
 | .Compare a ops bs _=>bF2 S r c a ops bs
 | .BoolOp op vs _=>bj4 (r.e c) op vs
 | .IfExp t a b _=>ad9 (r.t c t) (r.e c a) (r.e c b)
 | .Subscript a i _=>bE7 r c a i
 | .Call f args kw pos=>xCl S r c f args kw pos
 | .Dict ks vs _=>xDs ks vs
 | _=>dNo
def cm3(c:Kx) (f:Expr) (as:List Expr) (kw:List Keyword):Bool:=match f with
 | .Name x _=>as.length==1&&kw.isEmpty&&biB S c "list" x
 | _=>false
def xQ(c:Kx) (ex:Expr):DQ:=match ex with
 | .Name x _=>(match T0 x c.N with
  | some i=>if l4 c.sc x then C3 i else qNo
  | none=>qE (r.e c ex))
 | .List _ _=>qN (r.n c ex)
 | .ListComp _ _ _ _=>qN (r.n c ex)
 | .Call f as kw _=>if cm3 S c f as kw then qN (r.n c ex) else qE (r.e c ex)
 | _=>qE (r.e c ex)
def xNl(c:Kx) (f:Expr) (as:List Expr) (kw:List Keyword):DA:=match f with
 | .Name x _=>(match as,kw with
  | [a],[]=>if biB S c "list" x&&pl a then(fun ρ=>(r.q c a ρ).map fun q=>q.2) else aNo
  | _,_=>aNo)
 | _=>aNo
def xN(c:Kx) (ex:Expr):DA:=match ex with
 | .List es _=>if es.length<=1000 then evA (r.e c) es else aNo
 | .ListComp _ _ _ _=>evC S r c ex
 | .Call f as kw _=>xNl S r c f as kw
 | .BinOp a op b _=>(match op with
  | .Add=>cf0 (r.q c a) (r.q c b)
  | _=>aNo)
 | _=>aNo
def bB3(c:Kx) (a:Expr) (ops:List CmpOp) (bs:List Expr):DT:=match ops,bs with
 | [op],[b]=>if pl b then tB2 (opW S c op b) (r.e c a) (r.e c b) else tNo
 | [op,op'],[b,d]=>if pl d then aP7 (al5 (aU3 op) (aU3 op') (r.e c a) (r.e c b) (r.e c d)) else tNo
 | _,_=>tNo
def cj4(c:Kx) (op:UnaryOp) (a:Expr):DT:=match op with
 | .Not=>aW4 (r.t c a)
 | _=>tNo
def xT(c:Kx) (ex:Expr):DT:=match ex with
 | .Compare a ops bs _=>bB3 S r c a ops bs
 | .BoolOp op vs _=>bj3 (r.t c) op vs
 | .UnaryOp op a _=>cj4 r c op a
 | _=>if plT ex then aP8 (r.e c ex) else tNo
def xG(c:Kx) (ex:Expr):DG:=match ex with
 | .Name x _=>(match T0 x c.N with
  | some i=>if as6 c x then O0 i else gNo
  | none=>gNo)
 | .Tuple es _ _=>if es.all pl then a8 es.length (by9 (r.g c) es) else gNo
 | _=>gNo
def bt2(c:Kx) (x y:Str) (px py:Pos) (a b:Expr):Bool :=
 c.df&&pl a&&pl b && !(x==y)&&px.line==py.line&&c.sc.names.lookup x==some .local&&c.sc.names.lookup y==some .local && !(([a,b]:List Expr).all (foldedForSure 8)) && !(([a,b]:List Expr).all (constantsAlone 8))
def bF5(c:Kx) (tg v:Expr) (es:List Expr):DS:=match bH8 es with
 | some ((x,px),(y,py))=>if af2 v then(match bH7 v with
  | some (a,b)=>(match T0 x c.N with
   | some i=>(match T0 y c.N with
    | some j=>if bt2 c x y px py a b then aY2 i j (evA (r.e c) [a,b]) else F0
    | none=>F0)
   | none=>F0)
  | none=>F0) else bq6 (r.e c v) (r.g c tg)
 | none=>if af2 v&&(es.length==2 || es.length==3) then F0 else bq6 (r.e c v) (r.g c tg)
def bF7(c:Kx) (x:Str) (p':Pos) (v:Expr):DS:=match T0 x c.N with
 | none=>F0
 | some i=>if !(as6 c x) then F0 else(match v with
  | .ListComp _ _ sc pv=>if c.sc.names.lookup x==some .local then
    (if c.df&&p'.line==pv.line && !(sc.names.any fun(n,k)=>n==x&&(k == .local || k == .cell)) then(if c.own.contains i then aY3 i (evC S r c v) else y8 i (evC S r c v)) else F0)
   else R5 i (r.e c v)
  | _=>if isC v then F0 else if c.own.contains i then aY3 i (r.n c v) else R5 i (r.e c v))
def bF6(c:Kx) (a i v:Expr):DS:=match nmP a with
 | none=>F0
 | some x=>(match bJ4 i with
  | none=>F0
  | some t=>if t.2.2.isSome then F0 else(match T0 x.1 c.N with
   | none=>F0
   | some i=>if l4 c.sc x.1 && !(isC v) then cb4 i (evO (r.e c) t.1) (evO (r.e c) t.2.1) (r.n c v) else F0))
def bY4(c:Kx) (tg v:Expr) (p:Pos):DS:=match tg with
 | .Name x p'=>bF7 S r c x p' v
 | .Subscript a i _=>bF6 r c a i v
 | .Tuple es _ _=>bF5 r c tg v es
 | _=>F0
def bE8(c:Kx) (x m:Str) (e:Expr):DS:=match T0 x c.N with
 | none=>F0
 | some i=>if l4 c.sc x&&pl e then(if m == "append" then bJ9 i (r.e c e) else if m == "extend" then bJ8 i (r.e c e) else F0) else F0
def xEx(c:Kx) (e:Expr):DS:=match e with
 | .Call f args kw cpos=>(match f with
  | .Attribute o m apos=>(match o with
   | .Name x _=>(match args,kw with
    | [e],[]=>if apos.endLine==cpos.line then bE8 r c x m e else F0
    | _,_=>F0)
   | _=>F0)
  | _=>F0)
 | _=>F0
def cj5(c:Kx):Option Expr->DS
 | some e=>N9 (r.e c e)
 | none=>F0
def xWh(c:Kx) (t:Expr) (a:List Stmt):List Stmt->DS
 | []=>X9 (r.t c t) (r.b c a)
 | _=>F0
def xFo(c:Kx) (tg it:Expr) (a:List Stmt):List Stmt->DS
 | []=>if pl it then cb5 (evI S r c tg it) (r.g c tg) (r.b c a) else F0
 | _=>F0
def xAs(c:Kx) (v:Expr) (p:Pos):List Expr->DS
 | [tg]=>bY4 S r c tg v p
 | _=>F0
def xS0(c:Kx) (st:Stmt):DS:=match st with
 | .Return o _=>cj5 r c o
 | .If t a b _=>sIf (r.t c t) (r.b c a) (r.b c b)
 | .While t a o _=>xWh r c t a o
 | .For tg it a o _=>xFo S r c tg it a o
 | .Assign ts v p=>xAs S r c v p ts
 | .Expr e _=>xEx r c e
 | .Continue _=>bC2
 | .Break _=>fun ρ=>some (.bk ρ)
 | .Pass _=>m8
 | _=>F0
def be4:Stmt->Nat
 | .Return _ p=>p.line
 | .If _ _ _ p=>p.line
 | .While _ _ _ p=>p.line
 | .For _ _ _ _ p=>p.line
 | .Assign _ _ p=>p.line
 | .Expr _ p=>p.line
 | _=>0
def fzW(g:DS):Option (List Nat)->DS
 | none=>g
 | some l=>l.foldl (fun g i=>bJ7 i g) g
def xS(c:Kx) (st:Stmt):DS:=fzW (xS0 S r c st) (c.fz.lookup (be4 st))
def evB(f:Stmt->DS):List Stmt->DS
 | []=>m8
 | [s]=>f s
 | s::t::O4=>O3 (f s) (evB f (t::O4))
def step:Ev:=⟨xE S r,xQ S r,xN S r,xT S r,xG r,fun c=>evB (xS S r c)⟩
end
def ev(S:Sg):Nat->Ev
 | 0=>⟨fun _ _=>dNo,fun _ _=>qNo,fun _ _=>aNo,fun _ _=>tNo,fun _ _=>gNo,fun _ _=>F0⟩
 | n+1=>step S (ev S n)
end G
namespace G
open PySem PySem.Spec PyProof.Rows L2
section
variable {X:Cx}{S:Sg}{c:Kx}
theorem G6{e:Expr}:JE X e dNo:=fun ρ d h=>by cases h
theorem bD5{e:Expr}:JQ X e qNo:=fun ρ t d h=>by cases h
theorem aa7{e:Expr}:JN X e aNo:=fun ρ d h=>by cases h
theorem ao4{e:Expr}:JT X e tNo:=fun ρ d h=>by cases h
theorem cf8{e:Expr}:JW X e tNo:=fun ρ d h=>by cases h
theorem az2{e:Expr}:JG X e gNo:=by
 unfold JG PG
 intros
 rename_i h
 obtain⟨d,ρ,ρ',H0,Hf,z,_⟩:=h
 cases z
theorem cg3{es:List Expr}:JA X es aNo:=⟨fun ρ d h=>(nomatch h),fun ρ d h=>(nomatch h)⟩
theorem bQ2{es:List Expr}:JTs X es tNo:=fun pins s σ H Q I ⟨ρ,b,h,_⟩=>by cases h
theorem aa2(hu:X.A.units+64 < cLine):∀op:CmpOp,OpD X (compareOp op) (aU3 op)
 | .Lt=>cd5 | .LtE=>cd6 | .Gt=>cd8 | .GtE=>cd9 | .Eq=>aL5 hu | .NotEq=>bC8 hu | .Is=>bC9 | .IsNot=>ax2 | .In=>cd7 hu | .NotIn=>bc6 hu
theorem bc5(hu:X.A.units+64 < cLine) (S:Sg) (c:Kx) (op:CmpOp) (b:Expr):OpD X (compareOp op) (opW S c op b):=aa2 hu op
theorem aa8{f:Expr->DE}(h:∀e,JE X e (f e)):∀es,JA X es (evA f es)
 | []=>R8
 | e::es=>by
  unfold evA
  split
  ·rename_i p;exact E2 (h e) (aa8 h es) (D5 p es _)
  ·exact cg3
theorem at1{f:Expr->DE}(h:∀e,JE X e (f e)) (op:BoolOp) (pos:Pos):∀vs,JE X (.BoolOp op vs pos) (bj4 f op vs)
 | []=>G6
 | [a]=>bS7 (h a)
 | a::b::r=>by
  unfold bj4
  cases op
  ·exact bT4 (h a) (at1 h .And pos (b::r))
  ·exact cg1 (h a) (at1 h .Or pos (b::r))
theorem as9{f:Expr->DT}(h:∀e,JT X e (f e)) (op:BoolOp) (pos:Pos):∀vs,JW X (.BoolOp op vs pos) (bj3 f op vs)
 | []=>cf8
 | [a]=>by cases op;exact bw0 (h a);exact bQ0 (h a)
 | a::b::r=>by
  unfold bj3
  cases op
  ·exact bQ1 (h a) (as9 h .And pos (b::r))
  ·exact cf7 (h a) (as9 h .Or pos (b::r))
theorem Z9{f:Expr->DE}(h:∀e,JE X e (f e)):∀o,JO X o (evO f o)
 | none=>bw9
 | some e=>bw8 (h e)
theorem bQ3{f:Expr->DT}(h:∀e,JT X e (f e)):∀l,JTs X l (bj1 f l)
 | []=>aM0
 | [t]=>bw1 (h t)
 | _::_::_=>bQ2
theorem bg1{f:Expr->DG}(h:∀e,JG X e (f e)):∀es,es.all pl=true->JGs X es (by9 f es)
 | [],_=>bx2
 | e::es,p=>by
  simp only[List.all_cons,Bool.and_eq_true]at p
  refine bg2 (h e) (bg1 h es p.2) ?_
  have p1:=p.1
  cases e<;>first|rfl|cases p1
theorem aO6{env:Env}:∀{es:List Expr},es.all pl=true->(assignEach es env).length=es.length/\(assignEach es env).findIdx? (·.1)=none
 | [],_=>⟨rfl,rfl⟩
 | e::es,p=>by
  simp only[List.all_cons,Bool.and_eq_true]at p
  obtain⟨h1,h2⟩:=aO6 (env:=env) p.2
  have p1:=p.1
  have q:assignEach (e::es) env=(false,assign e env)::assignEach es env:=by cases e<;>first|rfl|cases p1
  rw[q]
  refine⟨by simp[h1],?_⟩
  simp[List.findIdx?_cons,h2]
structure Sound (S:Sg) (r:Ev):Prop where
 e:∀{c X},Fit S c X->∀ex,JE X ex (r.e c ex)
 q:∀{c X},Fit S c X->∀ex,JQ X ex (r.q c ex)
 n:∀{c X},Fit S c X->∀ex,JN X ex (r.n c ex)
 t:∀{c X},Fit S c X->∀ex,JT X ex (r.t c ex)
 g:∀{c X},Fit S c X->∀ex,JG X ex (r.g c ex)
 b:∀{c X},Fit S c X->∀sts,JSs X sts (r.b c sts)
theorem Fit.hx(F:Fit S c X):∀e s,X.xe e s->False:=fun e s h=>by rw[F.xe]at h;exact h
theorem Fit.po(F:Fit S c X):PassesOwn (model X.prog X.w) X.A X.env X.xe:=by rw[F.xe];exact PassesOwn.never
theorem Fit.slot(F:Fit S c X) {x:Str}{i:Nat}(h:T0 x c.N=some i):X.N[i]? = some x:=by rw[F.N];exact az3 h
theorem Fit.inner{tn:List Str}{caps:List Nat}{scope:Scope}{C:Addr}{s0:Shared}{H0:Hp}{ex:List Addr}(F:Fit S c X) (hn:(G.inner c tn caps scope).N.Nodup):Fit S (G.inner c tn caps scope) (C2 X (G.inner c tn caps scope).N scope C s0 H0 ex) :=
 ⟨rfl,by show relabel scope X.env=rl scope c.sc;rw[← F.sc];rfl,hn,F.calm,rfl,F.units,(fun h=>by cases h),F.fns,F.css,F.bls⟩
variable {r:Ev}
theorem bS1(R:Sound S r) (F:Fit S c X) (tg a:Expr) {p pos:Pos}(hg:Gl X "reversed") (hm:X.mg "reversed" = none):JI X tg (.Call (.Name "reversed" p) [a] [] pos) (evR S c tg a):=by
 have no:∀e:Expr,JI X tg e fun _=>none:=fun e ρ ds q=>nomatch q
 unfold evR
 split
 ·split
  ·split
   ·split
    ·split
     ·rename_i h
      simp only[Bool.and_eq_true]at h
      obtain⟨rfl,h1,h2⟩:=K2 F h.1.1.1
      obtain⟨rfl,h3,h4⟩:=K2 F h.1.1.2
      have ht:=h.1.2
      exact no _
     ·exact no _
    ·exact no _
   ·exact no _
  ·exact no _
 ·exact no _
theorem aM5(R:Sound S r) (F:Fit S c X) (tg it:Expr):JI X tg it (evI S r c tg it):=by
 unfold evI
 split
 ·rename_i x p a pos
  split
  ·rename_i h
   obtain⟨rfl,h1,h2⟩:=K2 F h
   exact bS1 R F tg a h1 h2
  ·split
   ·rename_i h
    simp only[Bool.and_eq_true]at h
    obtain⟨rfl,h1,h2⟩:=K2 F h.1
    exact aS6 h1 h2 (R.e F a) (D5 h.2 _ _)
   ·split
    ·rename_i h
     simp only[Bool.and_eq_true]at h
     obtain⟨rfl,h1,h2⟩:=K2 F h.1.1
     have ht:=h.1.2
     exact fun ρ ds q=>nomatch q
    ·exact aF2 (R.e F _)
 ·rename_i x p a b pos
  split
  ·rename_i h
   simp only[Bool.and_eq_true]at h
   obtain⟨rfl,h1,h2⟩:=K2 F h.1.1
   exact aS5 h1 h2 (R.e F a) (R.e F b) (by rw[D5 h.1.2,D5 h.2];rfl) (D5 h.2 _ _)
  ·split
   ·rename_i h
    simp only[Bool.and_eq_true]at h
    obtain⟨rfl,h1,h2⟩:=K2 F h.1.1.1
    have ht:=h.1.1.2
    cases tg<;>first|(exact bS0 h1 h2 (R.e F a) (R.e F b) (by rw[D5 h.1.2,D5 h.2];rfl) (D5 h.2 _ _))|(exact nomatch ht)
   ·exact aF2 (R.e F _)
 ·split
  ·exact fun ρ ds q=>nomatch q
  ·exact aF2 (R.e F _)
theorem aN7(R:Sound S r) (F:Fit S c X) {elt tgt iter:Expr}{ifs:List Expr}{scope:Scope}{caps:List Nat}
  (h:(ab7 c.N (G.inner c (T5 tgt) caps scope).N (T5 tgt).length caps c.sc scope&&o7 (G.inner c (T5 tgt) caps scope).N&&pl iter)=true) :
  CompSc X (G.inner c (T5 tgt) caps scope).N (T5 tgt).length caps scope/\JI X tgt iter (evI S r c tgt iter)/\(∀C s0 H0 ex,JG (C2 X (G.inner c (T5 tgt) caps scope).N scope C s0 H0 ex) tgt (r.g (G.inner c (T5 tgt) caps scope) tgt)) /\
  (∀C s0 H0 ex,JTs (C2 X (G.inner c (T5 tgt) caps scope).N scope C s0 H0 ex) ifs (bj1 (r.t (G.inner c (T5 tgt) caps scope)) ifs))/\(∀C s0 H0 ex,JE (C2 X (G.inner c (T5 tgt) caps scope).N scope C s0 H0 ex) elt (r.e (G.inner c (T5 tgt) caps scope) elt)) /\
  ∀x,foldedSetIterable iter X.env x=pure x:=by
 simp only[Bool.and_eq_true]at h
 obtain⟨⟨h1,h2⟩,h3⟩:=h
 have hn:=k6 h2
 exact⟨ap0 h1 F.N F.sc,aM5 R F tgt iter,fun C s0 H0 ex=>R.g (F.inner hn) tgt,fun C s0 H0 ex=>bQ3 (R.t (F.inner hn)) ifs,fun C s0 H0 ex=>R.e (F.inner hn) elt,ag8 h3 _⟩
theorem cg0(R:Sound S r) (F:Fit S c X) (ex:Expr):JN X ex (evC S r c ex):=by
 unfold evC
 split
 ·rename_i elt tgt iter ifs scope pos
  dsimp only
  split
  ·rename_i h
   obtain⟨h1,h2,h3,h4,h5,h6⟩:=aN7 (ifs:=ifs) (elt:=elt) R F h
   exact bx1 h1 F.hx h2 h3 h4 h5 F.calm h6
  ·exact aa7
 ·exact aa7
theorem aP2{x:Str}{T:String}(h:bH6 x=some T):bootBuiltins x=some (.type T)/\x ≠ "__name__" /\ (x==("__debug__" : Str))=false:=by
 unfold bH6 at h
 split at h
 ·rename_i e;cases h;simp only[beq_iff_eq]at e;subst e;exact⟨aH0,by decide,by decide⟩
 ·split at h
  ·rename_i e;cases h;simp only[beq_iff_eq]at e;subst e;exact⟨bA7,by decide,by decide⟩
  ·split at h
   ·rename_i e;cases h;simp only[beq_iff_eq]at e;subst e;exact⟨bW1,by decide,by decide⟩
   ·split at h
    ·rename_i e;cases h;simp only[beq_iff_eq]at e;subst e;exact⟨aB3,by decide,by decide⟩
    ·split at h
     ·rename_i e;cases h;simp only[beq_iff_eq]at e;subst e;exact⟨ai0,by decide,by decide⟩
     ·cases h
theorem P1(pos:Pos) (env:Env):∀{es:List Expr},es.all pl=true->(starEach es env).any (·.1)=false
 | [],_=>rfl
 | e::es,h=>by
  simp only[List.all_cons,Bool.and_eq_true]at h
  rw[D5 h.1,List.any_cons,P1 pos env h.2];rfl
end
end G
namespace G
open PySem PySem.Spec PyProof.Rows L2
section
variable {X:Cx}{S:Sg}{c:Kx}{r:Ev}
theorem aJ0(h:bJ4 e=some t):∃p,e=.Slice t.1 t.2.1 t.2.2 p:=by
 cases e<;>first|(cases h;exact⟨_,rfl⟩)|cases h
theorem T7(h:nmP e=some t):e=.Name t.1 t.2:=by
 cases e<;>first|(cases h;rfl)|cases h
theorem bH2(h:unE e=some t):∃p,e=.UnaryOp t.1 t.2 p:=by
 cases e<;>first|(cases h;exact⟨_,rfl⟩)|cases h
theorem bu4(h:cd3 e=true):∃p q,e=.Constant (.int 1) p q:=by
 cases e with
 | Constant k p q =>
  cases k with
  | int i=>cases(show i=1 from of_decide_eq_true h);exact⟨p,q,rfl⟩
  | _=>cases h
 | _=>cases h
theorem bP4(h:m1E e=true):∃p q s,e=.UnaryOp .USub (.Constant (.int 1) p q) s:=by
 unfold m1E at h
 split at h
 ·rename_i t ht
  obtain⟨s,rfl⟩:=bH2 ht
  obtain⟨op,a⟩:=t
  cases op with
  | USub=>obtain⟨p,q,rfl⟩:=bu4 h;exact⟨p,q,s,rfl⟩
  | _=>cases h
 ·cases h
theorem bm8(R:Sound S r) (F:Fit S c X) (a i:Expr) (pos:Pos):JE X (.Subscript a i pos) (bE7 r c a i):=by
 unfold bE7
 split
 ·rename_i t ht
  obtain⟨p,rfl⟩:=aJ0 ht
  obtain⟨lo,hi,st⟩:=t
  cases st with
  | none =>
   dsimp only
   split
   ·exact bg4 (R.e F _) (Z9 (R.e F) _) (Z9 (R.e F) _)
   ·split
    ·exact bS4 (R.e F _) (Z9 (R.e F) _) (Z9 (R.e F) _)
    ·split
     ·exact bS5 (R.q F _) (Z9 (R.e F) _) (Z9 (R.e F) _)
     ·exact bS6 (R.e F _) (Z9 (R.e F) _) (Z9 (R.e F) _)
  | some e =>
   dsimp only
   split
   ·rename_i h
    simp only[Bool.and_eq_true,Option.isNone_iff_eq_none]at h
    obtain⟨⟨h1,h2⟩,h3⟩:=h
    subst h1 h2
    obtain⟨_,_,_,rfl⟩:=bP4 h3
    exact bx4 (R.e F _) (bg5 ad5)
   ·exact G6
 ·split
  ·rename_i h
   split
   ·exact bS9 (R.e F _) (R.e F _) (bC4 h)
   ·exact bg7 (R.q F _) (R.e F _) (bC4 h)
  ·exact G6
theorem aP0(R:Sound S r) (F:Fit S c X) (x:Str) (a:Expr) (p pos:Pos):JE X (.Call (.Name x p) [a] [] pos) (aC2 S r c x a):=by
 unfold aC2
 split
 ·exact G6
 rename_i hp
 have hp:pl a=true:=by simpa using hp
 have hs:=D5 hp [] X.env
 split
 ·rename_i h
  obtain⟨rfl,h1,h2⟩:=K2 F h
  split
  ·rename_i y py e ppos
   split
   ·rename_i hy
    simp only[Bool.and_eq_true]at hy
    obtain⟨rfl,g1,g2⟩:=K2 F hy.1
    exact G6
   ·exact bg6 h1 h2 (R.q F _) hs
  ·split
   ·exact G6
   ·exact bg6 h1 h2 (R.q F a) hs
 split
 ·rename_i h;obtain⟨rfl,h1,h2⟩:=K2 F h;exact bx3 h1 h2 (R.q F a) hs
 split
 ·rename_i h;obtain⟨rfl,h1,h2⟩:=K2 F h;exact bT5 h1 h2 (R.q F a) F.calm hs
 split
 ·rename_i h;obtain⟨rfl,h1,h2⟩:=K2 F h;exact bg8 h1 h2 (R.e F a) hs
 split
 ·rename_i h;obtain⟨rfl,h1,h2⟩:=K2 F h;exact G6
 split
 ·rename_i h;obtain⟨rfl,h1,h2⟩:=K2 F h;exact G6
 split
 ·rename_i h;obtain⟨rfl,h1,h2⟩:=K2 F h;exact G6
 split
 ·rename_i h;obtain⟨rfl,h1,h2⟩:=K2 F h;exact G6
 exact G6
theorem aO9(R:Sound S r) (F:Fit S c X) (x:Str) (a b:Expr) (p pos:Pos):JE X (.Call (.Name x p) [a,b] [] pos) (aC1 S r c x a b):=by
 unfold aC1
 split
 ·exact G6
 rename_i hp
 have hp:pl a=true:=by simpa using hp
 split
 ·rename_i h
  obtain⟨rfl,h1,h2⟩:=K2 F h
  split
  ·rename_i y py
   split
   ·rename_i T hT
    split
    ·rename_i hy
     obtain⟨_,g1,g2⟩:=K2 F hy
     obtain⟨t1,t2,t3⟩:=aP2 hT
     exact bT0 h1 h2 g1 g2 t1 (R.e F a) t2 t3 (D5 hp _ _) rfl rfl
    ·exact G6
   ·exact G6
  ·exact G6
 split
 ·exact G6
 rename_i hb
 have hb:pl b=true:=by simpa using hb
 split
 ·rename_i h;obtain⟨rfl,h1,h2⟩:=K2 F h;exact G6
 split
 ·rename_i h;obtain⟨rfl,h1,h2⟩:=K2 F h;exact G6
 exact G6
theorem T2(pos:Pos):∀l:List (Bool×Sem Value),(backTo pos l).any (·.1)=l.any (·.1)
 | []=>rfl
 | (b,t)::r=>by
  have ih:=T2 pos r
  unfold backTo at ih ⊢
  rw[xmc,List.any_cons,List.any_cons,ih]
theorem aV3(R:Sound S r) (F:Fit S c X) (x:Str) (args:List Expr) (p pos:Pos):JE X (.Call (.Name x p) args [] pos) (aV4 S r c x args (.Call (.Name x p) args [] pos)):=by
 unfold aV4
 split
 ·rename_i Fn n hl
  split
  ·rename_i h
   simp only[Bool.and_eq_true,beq_iff_eq]at h
   obtain⟨⟨hg,hn⟩,hp⟩:=h
   obtain⟨g1,g2⟩:=Y4 F hg
   rcases F.fns _ _ _ hl with⟨k,f,fd,ps,hk,hr,hm,hkp,hb⟩|⟨hm,hb⟩
   case inr =>
    cases args with
    | nil=>cases hn;exact absurd hb.1 (Nat.lt_irrefl _)
    | cons e es =>
     simp only[List.all_cons,Bool.and_eq_true]at hp
     exact bD6 hb F.units g1 hm (aa8 (R.e F) (e::es)) hn g2 (D5 hp.1 _ _) ((T2 pos _).trans (P1 pos _ hp.2))
   cases args with
   | nil=>cases hn;exact bh0 hk hr g1 hm hkp hb g2
   | cons e es =>
    simp only[List.all_cons,Bool.and_eq_true]at hp
    exact aM7 hk hr g1 hm hkp hb (aa8 (R.e F) (e::es)) hn g2 (D5 hp.1 _ _) ((T2 pos _).trans (P1 pos _ hp.2))
  ·exact G6
 ·split
  ·split
   ·exact al0 (R.n F _)
   ·exact aP0 R F _ _ _ _
  ·exact aO9 R F _ _ _ _ _
  ·exact G6
theorem bF1(k:Const) (u:Nat) (pos:Pos):JE X (.Constant k u pos) (xCn k):=by
 unfold xCn
 split
 ·exact aF4
 ·exact cg2
 ·exact ad5
 ·exact at0
 ·exact G6
theorem bn2(R:Sound S r) (F:Fit S c X) (a:Expr) (op:Operator) (b:Expr) (pos:Pos):JE X (.BinOp a op b pos) (bF4 r c a op b):=by
 unfold bF4
 split
 ·split
  ·exact Y3 bc8 (R.e F _) (R.e F _)
  ·exact Y3 bv1 (R.e F _) (R.e F _)
 ·exact Y3 bN0 (R.e F _) (R.e F _)
 ·split
  ·exact Y3 as4 (R.e F _) (R.e F _)
  ·split
   ·split
    ·exact Y3 bv0 (R.e F _) (R.e F _)
    ·exact Y3 aL4 (R.e F _) (R.e F _)
   ·exact Y3 aL4 (R.e F _) (R.e F _)
 ·exact Y3 bN3 (R.e F _) (R.e F _)
 ·exact Y3 bN2 (R.e F _) (R.e F _)
 ·exact G6
 ·exact G6
theorem bE6(R:Sound S r) (F:Fit S c X) (op:UnaryOp) (a:Expr) (pos:Pos):JE X (.UnaryOp op a pos) (xUn r c op a):=by
 unfold xUn
 split
 ·exact bg5 (R.e F _)
 ·exact bS8 (R.e F _)
 ·exact G6
theorem bn1(R:Sound S r) (F:Fit S c X) (a:Expr) (ops:List CmpOp) (bs:List Expr) (pos:Pos):JE X (.Compare a ops bs pos) (bF2 S r c a ops bs):=by
 have hu:=F.units
 unfold bF2
 split
 ·split
  ·rename_i h;exact bT3 (bc5 hu S c _ _) (R.e F _) (R.e F _) (ag7 h _)
  ·exact G6
 ·split
  ·rename_i h;exact bg9 (aa2 hu _) (aa2 hu _) (R.e F _) (R.e F _) (R.e F _) (ag7 h _)
  ·exact G6
 ·exact G6
theorem bn0(R:Sound S r) (F:Fit S c X) (o:Expr) (m:Str) (apos cpos:Pos) (args:List Expr):JE X (.Call (.Attribute o m apos) args [] cpos) (bY1 r c o m apos cpos args):=G6
theorem bF3(R:Sound S r) (F:Fit S c X) (f:Expr) (args:List Expr) (kw:List Keyword) (pos:Pos):JE X (.Call f args kw pos) (xCl S r c f args kw pos):=by
 unfold xCl
 split
 ·split
  ·exact aV3 R F _ _ _ _
  ·exact bn0 R F _ _ _ _ _
  ·exact G6
 ·exact G6
theorem bF0(ks:List (Option Expr)) (vs:List Expr) (pos:Pos):JE X (.Dict ks vs pos) (xDs ks vs):=G6
theorem bY3(R:Sound S r) (F:Fit S c X) (ex:Expr):JE X ex (xE S r c ex):=by
 cases ex
 case Constant=>exact bF1 _ _ _
 case Dict ks vs p=>exact bF0 ks vs p
 case Name x p =>
  unfold xE
  dsimp only
  split
  ·rename_i i h
   split
   ·rename_i v;obtain⟨h1,h2,h3⟩:=P0 F v;exact aF3 i (F.slot h) h1 h2 h3
   ·exact G6
  ·split
   ·rename_i d hd
    split
    ·rename_i g;obtain⟨u,k1,k2⟩:=F.css _ _ hd;obtain⟨g1,g2⟩:=Y4 F g;exact bT2 k1 g1 k2 g2
    ·exact G6
   ·exact G6
 case Tuple es _ _ =>
  unfold xE
  dsimp only
  split
  ·rename_i h;exact bS3 (aa8 (R.e F) _) h
  ·exact G6
 case List=>exact al0 (R.n F _)
 case ListComp=>exact al0 (R.n F _)
 case BinOp=>exact bn2 R F _ _ _ _
 case UnaryOp=>exact bE6 R F _ _ _
 case Compare=>exact bn1 R F _ _ _ _
 case BoolOp=>exact at1 (R.e F) _ _ _
 case IfExp=>exact bT1 (R.t F _) (R.e F _) (R.e F _)
 case Subscript=>exact bm8 R F _ _ _
 case Call=>exact bF3 R F _ _ _ _
 all_goals exact G6
theorem bX9(R:Sound S r) (F:Fit S c X) (ex:Expr):JQ X ex (xQ S r c ex):=by
 cases ex
 case Name x p =>
  unfold xQ
  dsimp only
  split
  ·rename_i i h
   split
   ·rename_i v;obtain⟨h1,h2,h3⟩:=P0 F v;exact bR4 i (F.slot h) h1 h2 h3
   ·exact bD5
  ·exact az1 (R.e F _)
 case List=>exact bR5 (R.n F _)
 case ListComp=>exact bR5 (R.n F _)
 case Call f as kw p =>
  unfold xQ
  dsimp only
  split
  ·exact bR5 (R.n F _)
  ·exact az1 (R.e F _)
 all_goals exact az1 (R.e F _)
theorem bY0(R:Sound S r) (F:Fit S c X) (ex:Expr):JN X ex (xN S r c ex):=by
 cases ex
 case List es p =>
  unfold xN
  dsimp only
  split
  ·rename_i h;exact bR6 (aa8 (R.e F) _) h
  ·exact aa7
 case ListComp=>exact cg0 R F _
 case Call f as kw p =>
  unfold xN
  dsimp only
  unfold xNl
  split
  ·split
   ·split
    ·rename_i h
     simp only[Bool.and_eq_true]at h
     obtain⟨rfl,h1,h2⟩:=K2 F h.1
     exact bx0 h1 h2 (R.q F _) (D5 h.2 _ _)
    ·exact aa7
   ·exact aa7
  ·exact aa7
 case BinOp a op b p =>
  cases op
  case Add=>exact bR7 (R.q F _) (R.q F _)
  all_goals exact aa7
 all_goals exact aa7
theorem bX7(R:Sound S r) (F:Fit S c X) (ex:Expr):JT X ex (xT S r c ex):=by
 have hu:=F.units
 have oth:∀e:Expr,JT X e (if plT e then aP8 (r.e c e) else tNo):=fun e=>by
  split
  ·rename_i h;exact bf1 (R.e F _) (ba0 h _)
  ·exact ao4
 cases ex
 case Compare a ops bs p =>
  unfold xT bB3
  dsimp only
  split
  ·split
   ·rename_i h;exact bQ4 (bc5 hu S c _ _) (R.e F _) (R.e F _) (ag7 h _)
   ·exact ao4
  ·split
   ·rename_i h;exact bf4 (aa2 hu _) (aa2 hu _) (R.e F _) (R.e F _) (R.e F _) (ag7 h _)
   ·exact ao4
  ·exact ao4
 case BoolOp=>exact bf2 (as9 (R.t F) _ _ _)
 case UnaryOp op a p =>
  cases op
  case Not=>exact bf3 (R.t F _)
  all_goals exact ao4
 all_goals exact oth _
theorem bY2(R:Sound S r) (F:Fit S c X) (ex:Expr):JG X ex (xG r c ex):=by
 unfold xG
 split
 ·split
  ·rename_i i h
   split
   ·rename_i v;obtain⟨h1,h2⟩:=aa5 F v;exact aM6 i (by rw[F.N];exact F.nd) (F.slot h) h1 h2
   ·exact az2
  ·exact az2
 ·split
  ·rename_i h
   obtain⟨h1,h2⟩:=aO6 (env:=X.env) h
   exact bS2 (bg1 (R.g F) _ h) F.calm h1 h2
  ·exact az2
 ·exact az2
theorem aM1{st:Stmt}{f:DS}(h:∀ρ,f ρ=none):JS X st f:=fun ρ fl q=>by rw[h ρ]at q;cases q
theorem aG9(F:Fit S c X) (h:c.df=true):X.env.blockKind=.function:=by
 unfold Env.blockKind
 rw[F.sc,(F.df h).2];rfl
theorem an3(elt:Expr) (gens:List Comprehension) (sc:Scope) (pv p':Pos) (x:Str) (l:Nat) (env:Env):swapsWith (.ListComp elt gens sc pv) (some (.Name x p')) l env =
  pure (env.blockKind == .function&&env.kindOf x==some .local&&p'.line==pv.line && !(sc.names.any fun(n,k)=>n==x&&(k == .local || k == .cell))):=rfl
theorem aM2(R:Sound S r) (F:Fit S c X) {x:Str}{p' pv p:Pos}{elt:Expr}{gens:List Comprehension}{sc:Scope}{i:Nat}(hi:T0 x c.N=some i) (hl:(c.sc.names.lookup x==some .local)=true)
  (h:(c.df&&p'.line==pv.line && !(sc.names.any fun(n,k)=>n==x&&(k == .local || k == .cell)))=true) :
  JS X (.Assign [.Name x p'] (.ListComp elt gens sc pv) p) (aY3 i (evC S r c (.ListComp elt gens sc pv)))/\JS X (.Assign [.Name x p'] (.ListComp elt gens sc pv) p) (y8 i (evC S r c (.ListComp elt gens sc pv))):=by
 unfold evC
 simp only[Bool.and_eq_true]at h
 have hl':X.env.scope.names.lookup x=some .local:=by rw[F.sc];simpa using hl
 have hsw:swapsWith (.ListComp elt gens sc pv) (some (.Name x p')) p.line X.env=pure true:=by
  rw[an3,aG9 F h.1.1,h.1.2,h.2]
  unfold Env.kindOf
  rw[hl'];rfl
 split
 ·rename_i elt tgt iter ifs scope pos he
  cases he
  dsimp only
  split
  ·rename_i hc
   obtain⟨h1,h2,h3,h4,h5,h6⟩:=aN7 (ifs:=ifs) (elt:=elt) R F hc
   exact⟨bw5 i (by rw[F.N];exact F.nd) h1 F.hx h2 h3 h4 h5 (F.slot hi) hl' hsw F.calm h6,bw7 i (by rw[F.N];exact F.nd) h1 F.hx h2 h3 h4 h5 (F.slot hi) hl' hsw F.calm h6⟩
  ·exact⟨aM1 fun ρ=>rfl,aM1 fun ρ=>rfl⟩
 ·exact⟨aM1 fun ρ=>rfl,aM1 fun ρ=>rfl⟩
theorem bn6(R:Sound S r) (F:Fit S c X) (x:Str) (p':Pos) (v:Expr) (p:Pos):JS X (.Assign [.Name x p'] v p) (bF7 S r c x p' v):=by
 have nd:X.N.Nodup:=by rw[F.N];exact F.nd
 unfold bF7
 split
 ·exact B7
 ·rename_i i hi
  split
  ·exact B7
  ·rename_i hlo
   have hlo:as6 c x=true:=by simpa using hlo
   obtain⟨l1,l2⟩:=aa5 F hlo
   split
   ·rename_i elt gens sc pv
    split
    ·rename_i hl
     split
     ·rename_i h
      split
      ·exact(aM2 R F hi hl h).1
      ·exact(aM2 R F hi hl h).2
     ·exact B7
    ·rename_i hl
     refine bf7 i nd (R.e F _) (F.slot hi) l1 ?_ l2
     rw[an3]
     have:(X.env.kindOf x==some .local)=false:=by
      unfold Env.kindOf
      rw[F.sc];simpa using hl
     rw[this,Bool.and_false];rfl
   ·split
    ·exact B7
    ·rename_i hc
     have hc:isC v=false:=by simpa using hc
     split
     ·exact bQ8 i nd (R.n F _) (F.slot hi) l1 (S9 hc _ _ _) l2
     ·exact bf7 i nd (R.e F _) (F.slot hi) l1 (S9 hc _ _ _) l2
theorem bn5(R:Sound S r) (F:Fit S c X) (a i v:Expr) (q p:Pos):JS X (.Assign [.Subscript a i q] v p) (bF6 r c a i v):=by
 unfold bF6
 split
 ·exact B7
 ·rename_i x hx
  cases T7 hx
  split
  ·exact B7
  ·rename_i t ht
   obtain⟨p',rfl⟩:=aJ0 ht
   obtain⟨lo,hi,st⟩:=t
   cases st with
   | some e=>exact B7
   | none =>
    dsimp only[Option.isSome]
    rw[if_neg Bool.false_ne_true]
    split
    ·exact B7
    ·rename_i i hi
     split
     ·rename_i h
      simp only[Bool.and_eq_true,Bool.not_eq_true']at h
      obtain⟨h1,h2,h3⟩:=P0 F h.1
      exact bQ5 i (R.n F _) (Z9 (R.e F) _) (Z9 (R.e F) _) (F.slot hi) h1 h2 h3 (S9 h.2 _ _ _)
     ·exact B7
theorem aH7(h:bH8 es=some t):es=[.Name t.1.1 t.1.2,.Name t.2.1 t.2.2]:=by
 match es,h with
 | [a,b],h =>
  obtain⟨x,h1,h⟩:=Option.bind_eq_some_iff.mp h
  obtain⟨y,h2,h⟩:=Option.map_eq_some_iff.mp h
  cases h
  rw[T7 h1,T7 h2]
theorem aH6(h:bH7 e=some t):∃k p,e=.Tuple [t.1,t.2] k p:=by
 cases e with
 | Tuple es k p =>
  match es,h with
  | [a,b],h=>cases h;exact⟨k,p,rfl⟩
  | [],h=>cases h
  | [_],h=>cases h
  | _::_::_::_,h=>cases h
 | _=>cases h
theorem bO8{v:Expr}(h:af2 v=false) (es:List Expr) (k:Nat) (p:Pos) (env:Env):swappedStores [.Tuple es k p] v env=pure none:=by
 cases v<;>first|rfl|cases h
def stB:Expr->Bool
 | .Starred ..=>true
 | _=>false
def swN(env:Env) (x y:Str) (px py:Pos):List Str:=[(x,px),(y,py)].filterMap fun t=>if env.kindOf t.1==some .local&&t.2.line==px.line then some t.1 else none
theorem cb1(env:Env) (x y:Str) (px py pt p2:Pos) (kt k2:Nat) (a b:Expr):swappedStores [.Tuple [.Name x px,.Name y py] kt pt] (.Tuple [a,b] k2 p2) env =
  (if(env.blockKind != .function)=true then pure none else if([a,b].any stB)=true then pure none else if((swN env x y px py).length != 2 || (swN env x y px py).eraseDups.length != (swN env x y px py).length)=true then pure none
   else if([a,b].all (foldedForSure 8))=true then pure none else if([a,b].all (constantsAlone 8))=true then unsupported "assign.tuple-of-constant-expressions:order-of-the-stores" else pure (some (swN env x y px py))):=by rfl
theorem aZ9(h:pl e=true):stB e=false:=by cases e<;>first|rfl|cases h
theorem aW8{env:Env}{x y:Str}{px py pt p2:Pos}{kt k2:Nat}{a b:Expr}(hk:env.blockKind=.function) (ha:pl a=true) (hb:pl b=true) (kx:env.kindOf x=some .local) (ky:env.kindOf y=some .local) (hl:px.line=py.line) (hxy:(x==y)=false)
  (hf:([a,b].all (foldedForSure 8))=false) (hc:([a,b].all (constantsAlone 8))=false):swappedStores [.Tuple [.Name x px,.Name y py] kt pt] (.Tuple [a,b] k2 p2) env=pure (some [x,y]):=by
 have hn:swN env x y px py=[x,y]:=by simp[swN,kx,ky,hl]
 have hyx:(y==x)=false:=by
  cases q:(y==x) with
  | false=>rfl
  | true=>simp only[beq_iff_eq]at q;subst q;simp at hxy
 have hd:([x,y]:List Str).eraseDups=[x,y]:=by simp[List.eraseDups,List.eraseDupsBy,List.eraseDupsBy.loop,hxy,hyx]
 rw[cb1,hk,hn,hd,hf,hc]
 simp[aZ9 ha,aZ9 hb]
theorem bp4{es vs:List Expr}(h:(es.length==2 || es.length==3)=false) (k k3:Nat) (p p3:Pos) (env:Env):swappedStores [.Tuple es k p] (.Tuple vs k3 p3) env=pure none:=by
 show(if(!(es.length==2 || es.length==3) || vs.length != es.length || env.blockKind != .function)=true then _ else _)=_
 rw[if_pos (by rw[h];rfl)]
theorem bn4(R:Sound S r) (F:Fit S c X) (es:List Expr) (kt:Nat) (pt:Pos) (v:Expr) (p:Pos):JS X (.Assign [.Tuple es kt pt] v p) (bF5 r c (.Tuple es kt pt) v es):=by
 have nd:X.N.Nodup:=by rw[F.N];exact F.nd
 unfold bF5
 split
 ·rename_i x px y py ht
  cases aH7 ht
  split
  ·split
   ·rename_i a b hab
    obtain⟨k2,p2,rfl⟩:=aH6 hab
    split
    ·rename_i i hi
     split
     ·rename_i j hj
      split
      ·rename_i h
       unfold bt2 at h
       simp only[Bool.and_eq_true,Bool.not_eq_true',beq_iff_eq]at h
       obtain⟨⟨⟨⟨⟨⟨⟨⟨hd,ha⟩,hb⟩,hxy⟩,hl⟩,hx⟩,hy⟩,hf⟩,hcs⟩:=h
       have hx':X.env.scope.names.lookup x=some .local:=by rw[F.sc];exact hx
       have hy':X.env.scope.names.lookup y=some .local:=by rw[F.sc];exact hy
       have hne:i≠j:=fun z=>by
        subst z
        have:=(F.slot hi).symm.trans (F.slot hj)
        cases this
        simp at hxy
       refine bQ7 nd (aa8 (R.e F) [a,b]) ?_ hne (F.slot hi) (F.slot hj) hx' hy' F.calm rfl
       exact aW8 (aG9 F hd) ha hb hx' hy' hl hxy hf hcs
      ·exact B7
     ·exact B7
    ·exact B7
   ·exact B7
  ·rename_i h
   have h:af2 v=false:=by simpa using h
   refine bf8 (R.e F _) (R.g F _) ?_ (bO8 h _ _ _ _) rfl
   cases v<;>rfl
 ·split
  ·exact B7
  ·rename_i h
   refine bf8 (R.e F _) (R.g F _) ?_ ?_ rfl
   ·cases v<;>rfl
   ·cases v<;>first|rfl|skip
    rename_i vs k3 p3
    have h:(es.length==2 || es.length==3)=false:=by simpa [af2] using h
    exact bp4 h _ _ _ _ _
theorem bn3(R:Sound S r) (F:Fit S c X) (tg v:Expr) (p:Pos):JS X (.Assign [tg] v p) (bY4 S r c tg v p):=by
 cases tg with
 | Name x p'=>exact bn6 R F x p' v p
 | Subscript a i q=>exact bn5 R F a i v q p
 | Tuple es k q=>exact bn4 R F es k q v p
 | _=>exact B7
end
end G
namespace G
open PySem PySem.Spec PyProof.Rows L2
section
variable {X:Cx}{S:Sg}{c:Kx}{r:Ev}
theorem bm9(R:Sound S r) (F:Fit S c X) (x m:Str) (e:Expr) (p apos cpos pos:Pos) (hl:(apos.endLine==cpos.line)=true):JS X (.Expr (.Call (.Attribute (.Name x p) m apos) [e] [] cpos) pos) (bE8 r c x m e):=by
 unfold bE8
 split
 ·exact B7
 ·rename_i i hi
  split
  ·rename_i h
   simp only[Bool.and_eq_true]at h
   obtain⟨h1,h2,h3⟩:=P0 F h.1
   have hs:=D5 h.2 [] X.env
   split
   ·rename_i hm
    simp only[beq_iff_eq]at hm
    subst hm
    exact bR3 i (R.e F e) (F.slot hi) h1 h2 h3 rfl (by rw[hs];rfl) hl hs rfl
   ·split
    ·rename_i hm
     simp only[beq_iff_eq]at hm
     subst hm
     exact bR1 i (R.e F e) (F.slot hi) h1 h2 h3 hl hs
    ·exact B7
  ·exact B7
theorem bE9(R:Sound S r) (F:Fit S c X) (e:Expr) (pos:Pos):JS X (.Expr e pos) (xEx r c e):=by
 unfold xEx
 split
 ·split
  ·split
   ·split
    ·split
     ·rename_i h;exact bm9 R F _ _ _ _ _ _ _ h
     ·exact B7
    ·exact B7
   ·exact B7
  ·exact B7
 ·exact B7
theorem aV2(R:Sound S r) (F:Fit S c X) (st:Stmt):JS X st (xS0 S r c st):=by
 cases st
 case Return o p =>
  cases o
  ·exact B7
  ·exact bQ6 (R.e F _)
 case If=>exact cf9 (R.t F _) (R.b F _) (R.b F _)
 case While t a o p =>
  cases o
  ·exact bf6 (R.t F _) (R.b F _) F.po
  ·exact B7
 case For tg it a o p =>
  cases o
  ·unfold xS0 xFo
   dsimp only
   split
   ·rename_i h;exact bR0 (aM5 R F _ _) (R.g F _) (R.b F _) F.po F.calm (ag8 h _)
   ·exact B7
  ·exact B7
 case Assign ts v p =>
  unfold xS0 xAs
  dsimp only
  split
  ·exact bn3 R F _ _ _
  ·exact B7
 case Expr=>exact bE9 R F _ _
 case Continue=>exact bw6
 case Break=>exact bR2
 case Pass=>exact bw4
 all_goals exact B7
theorem bi3{st:Stmt}:∀(l:List Nat) {g:DS},JS X st g->JS X st (l.foldl (fun g i=>bJ7 i g) g)
 | [],_,h=>h
 | i::l,_,h=>bi3 l (bQ9 i h)
theorem bX8(R:Sound S r) (F:Fit S c X) (st:Stmt):JS X st (xS S r c st):=by
 unfold xS fzW
 split
 ·exact aV2 R F st
 ·exact bi3 _ (aV2 R F st)
theorem bj2(h:∀st,JS X st (f st)):∀sts,JSs X sts (evB f sts)
 | []=>bw3
 | [s]=>bw2 (h s)
 | s::t::O4=>bf5 (h s) (bj2 h (t::O4))
theorem w9(R:Sound S r):Sound S (step S r) :=
 ⟨fun F=>bY3 R F,fun F=>bX9 R F,fun F=>bY0 R F,fun F=>bX7 R F,fun F=>bY2 R F,fun F=>bj2 (bX8 R F)⟩
theorem ab1(S:Sg):∀n,Sound S (ev S n)
 | 0=>⟨fun _ _=>G6,fun _ _=>bD5,fun _ _=>aa7,fun _ _=>ao4,fun _ _=>az2,fun _ _ ρ fl q=>by cases q⟩
 | n+1=>w9 (ab1 S n)
end
structure Fd where
 x:Str
 st:Stmt
 ps:List Str
 N:List Str
 own:List Nat:=[]
 tx:List Nat:=[]
 dx:List Nat:=[]
 old:Bool:=false
 fz:List (Nat×List Nat):=[]
 hc:List ((Nat×Nat)×List Nat):=[]
def fdm(x:Str) (st:Stmt) (n:Nat) (N:List Str) (old:Bool:=false):Fd:={ x,st,ps:=N.take n,N,old }
def Fd.c(d:Fd):Kx:={ N:=d.N,sc:=B3 d.st,df:=true,own:=d.own,cpt:=[],tx:=d.tx,dx:=d.dx,old:=d.old,fz:=d.fz,hc:=d.hc }
def Fd.okB(d:Fd):Bool:=let sc:=B3 d.st
 sc.kind == .function && !sc.isCoroutine && !sc.isGenerator&&o7 d.N&&d.N.take d.ps.length==d.ps&&(d.ps.all fun x=>match sc.names.lookup x with|some .local=>true|some .cell=>true|_=>false)&&sc.names.all fun y=>match y.2 with | .free=>false|_=>true
theorem Fd.sc{d:Fd}(h:d.okB=true):FnScope d.N d.ps (B3 d.st):=by
 unfold Fd.okB at h
 simp only[Bool.and_eq_true,Bool.not_eq_true',beq_iff_eq,List.all_eq_true]at h
 obtain⟨⟨⟨⟨⟨⟨h1,h2⟩,h3⟩,h4⟩,h5⟩,h6⟩,h7⟩:=h
 refine⟨h1,h2,h3,k6 h4,h5,fun x hx=>?_,fun y hy e=>?_⟩
 ·have:=h6 x hx
  split at this
  ·rename_i q;exact .inl q
  ·rename_i q;exact .inr q
  ·cases this
 ·have:=h7 y hy
  rw[e]at this
  cases this
def KF(K:PySem.W.Frag) (x:Str) (st:Stmt):Prop:=∃(f:Addr) (oc:Value) (od:Option Addr) (sl:Array (Option Value)) (kV dc pm:Value) (an:Option Addr) (cd ct:Value),
 PySem.W.nsIn K mainGlobals x=some (some (.ref f))/\K.lookup f=some ⟨oc,od,.func (PySem.W.fnOf x x (Q8 st) (A7 st) (B3 st) .none kV dc pm an cd ct),sl⟩/\PySem.W.codeIn K cd x=true/\PySem.W.keepIn K (.ref f)=true
theorem cf6{K:PySem.W.Frag}{x:Str}{st:Stmt}{f:Addr}{oc:Value}{od:Option Addr}{sl:Array (Option Value)}{kV dc pm:Value}{an:Option Addr}{cd ct:Value}(a:PySem.W.nsIn K mainGlobals x=some (some (.ref f)))
  (l:K.lookup f=some ⟨oc,od,.func (PySem.W.fnOf x x (Q8 st) (A7 st) (B3 st) .none kV dc pm an cd ct),sl⟩) (c:PySem.W.codeIn K cd x=true) (k:PySem.W.keepIn K (.ref f)=true):KF K x st:=⟨f,oc,od,sl,kV,dc,pm,an,cd,ct,a,l,c,k⟩
abbrev Tab:=List (Str×FnD×Nat)
section
variable {P:Program}{w:World}{K:PySem.W.Frag}{mg:Str->Option Value}{base:Heap}{cs:List (Str×D)}{bl:List Str}
structure Md (K:PySem.W.Frag) (mg:Str->Option Value) (cs:List (Str×D)) (bl:List Str):Prop where
 ns:∀x v,PySem.W.nsIn K mainGlobals x=some (some v)->mg x=some v
 css:∀x d,cs.lookup x=some d->∃u,aH4 K d u/\mg x=some u
 bls:∀x,bl.contains x=true->mg x=none
def TOk(P:Program) (w:World) (K:PySem.W.Frag) (mg:Str->Option Value) (base:Heap) (k:Nat) (tab:Tab):Prop:=∀x F n,tab.lookup x=some (F,n)->(∃(f:Addr) (fd:FuncData) (ps:List Str),
 FnOk P w K mg base CX0 k f fd ps (spF K n F)/\mg x=some (.ref f)/\PySem.W.keepIn K (.ref f)=true/\N7 K fd ps [])\/(mg x=none/\bX3 x F n)
theorem TOk.nil:TOk P w K mg base 0 []:=fun x F n h=>by cases h
theorem TOk.mono(T:TOk P w K mg base j tab) (h:j<=k):TOk P w K mg base k tab:=fun x F n e =>
 (T x F n e).imp (fun⟨f,fd,ps,h1,h2,h3,h4⟩=>⟨f,fd,ps,h1.mono h,h2,h3,h4⟩) id
def UA:Nat->(List Value->Prop)->Prop
 | 0,P=>P []
 | n+1,P=>∀a,UA n fun us=>P (a::us)
theorem ua:∀{n:Nat}{P:List Value->Prop},UA n P->∀us:List Value,us.length=n->P us
 | 0,_,h,[],_=>h
 | _+1,P,h,a::us,e=>ua (P:=fun us=>P (a::us)) (h a) us (Nat.succ.inj e)
def Bd(d:Fd):Prop:=∀(kV doc pm:Value) (an:Option Addr) (cdv ct:Value),UA d.ps.length fun us=>bindArgs (PySem.W.fnOf d.x d.x (Q8 d.st) (A7 d.st) (B3 d.st) .none kV doc pm an cdv ct) ⟨us,[]⟩=pure (d.ps.zip us)
def rd(tab:Tab) (cs:List (Str×D)) (bl:List Str) (d:Fd):FnD:=U1 ((ev ⟨tab,cs,bl⟩ 99).b d.c (A7 d.st)) d.N.length
theorem ch2(M:Md K mg cs bl) (T:TOk P w K mg base k tab) (ok:d.okB=true) (Fn:Fun K d.x d.x d.st f fd):FnOk P w K mg base CX0 (k+1) f fd d.ps (spF K d.ps.length (rd tab cs bl d)):=by
 have Sc:=Fd.sc ok
 refine by5 (N:=d.N) Fn Sc fun cdv A outer s H E hr=>(ab1 ⟨tab,cs,bl⟩ 99).b (c:=d.c) ?_ _
 refine⟨rfl,rfl,Sc.nd,rfl,rfl,hr.units,fun _=>⟨fun _=>rfl,Sc.kind⟩,fun x F n h=>?_,M.css,M.bls⟩
 exact(T x F n h).imp (fun⟨f',fd',ps,h1,h2,h3,h4⟩=>⟨k,f',fd',ps,h1,hr,h2,h3,h4⟩) id
theorem as8{x:Str}{st:Stmt}(h:KF K x st) (M:Md K mg cs bl):∃(f:Addr) (kV dc pm:Value) (an:Option Addr) (cd ct:Value),Fun K x x st f (PySem.W.fnOf x x (Q8 st) (A7 st) (B3 st) .none kV dc pm an cd ct)/\mg x=some (.ref f):=by
 obtain⟨f,oc,od,sl,kV,dc,pm,an,cd,ct,a,l,cc,kk⟩:=h
 exact⟨f,kV,dc,pm,an,cd,ct,al3 l cc kk,M.ns _ _ a⟩
theorem TOk.cons{k:Nat}{tab:Tab}{x:Str}{F:FnD}{n:Nat}(T:TOk P w K mg base k tab) (h:∃(f:Addr) (fd:FuncData) (ps:List Str),FnOk P w K mg base CX0 k f fd ps (spF K n F)/\mg x=some (.ref f)/\PySem.W.keepIn K (.ref f)=true/\N7 K fd ps []) :
  TOk P w K mg base k ((x,F,n)::tab):=fun y G m e=>by
 rw[List.lookup_cons]at e
 split at e
 ·rename_i q
  cases e
  simp only[beq_iff_eq]at q
  subst q
  exact .inl h
 ·exact T y G m e
theorem TOk.add(T:TOk P w K mg base k tab) (M:Md K mg cs bl) (d:Fd) (h:KF K d.x d.st) (F:FnD) (e:rd tab cs bl d=F:=by kernel_rfl) (ok:d.okB=true:=by kernel_rfl) (bd:Bd d:=by repeat (first|exact rfl|intro _)):TOk P w K mg base (k+1) ((d.x,F,d.ps.length)::tab):=by
 subst e
 obtain⟨f,kV,dc,pm,an,cd,ct,Fn,hm⟩:=as8 h M
 exact(T.mono (Nat.le_succ k)).cons ⟨f,_,d.ps,ch2 M T ok Fn,hm,Fn.kp,.all (ua (bd kV dc pm an cd ct))⟩
end
end G
namespace G
open PySem PySem.Spec PyProof.Rows L2
structure Fo where
 m:List (D×D)
 b:List D
 f:List D
structure Chg (S:List Addr) (H Hf H' Hf':Hp):Prop where
 big:∀b o,b∉S->H b=some o->H' b=some o
 kp:∀b,H b≠none->H' b≠none
 sub:B2 Hf' H'
 ext:B2 Hf Hf'
 new:∀b,Hf' b≠none->Hf b≠none\/H b=none
theorem X8{α:Type}{o:Option α}{x:α}(h:o=some x):o≠none:=by rw[h];exact fun z=>by cases z
theorem aL8{α:Type}{o:Option α}(h:o≠none):∃x,o=some x:=by cases o with
 | none=>exact absurd rfl h
 | some x=>exact⟨x,rfl⟩
section
variable {K:PySem.W.Frag}{H H' H0 H1 H2 Hf Hf' Hf0 Hf1 Hf2:Hp}{S S' R:List Addr}{C:Addr}{os:List (Addr×Fo)}
theorem Chg.of(g:Grow H Hf H' Hf'):Chg S H Hf H' Hf':=⟨fun b o _ e=>g.big b o e,fun b h=>by obtain⟨x,e⟩:=aL8 h;exact X8 (g.big b x e),g.sub,g.ext,g.new⟩
theorem Chg.trans(a:Chg S H Hf H1 Hf1) (b:Chg S' H1 Hf1 H2 Hf2) (h:∀x∈S',x∈S\/H x=none):Chg S H Hf H2 Hf2 where
 big c o hc e:=b.big c o (fun z=>(h c z).elim hc fun n=>by rw[n]at e;cases e) (a.big c o hc e)
 kp c h:=b.kp c (a.kp c h)
 sub:=b.sub
 ext:=a.ext.trans b.ext
 new c h:=(b.new c h).elim (a.new c) fun n=>.inr (Classical.byContradiction fun z=>a.kp c z n)
theorem Chg.grow(a:Chg [] H Hf H' Hf'):Grow H Hf H' Hf':=⟨fun b o e=>a.big b o (by simp) e,a.sub,a.ext,a.new⟩
theorem Chg.wr(ss:B2 Hf H) (hx:x∈S) (hf:Hf x=none):Chg S H Hf (upd H x o) Hf where
 big b u hb e:=by rw[A4 (fun z=>hb (by rw[z];exact hx))];exact e
 kp b h:=by
  by_cases q:b=x
  ·subst q;rw[A3];exact fun z=>by cases z
  ·rw[A4 q];exact h
 sub b u e:=by rw[A4 (A9 e hf)];exact ss b u e
 ext:=B2.refl _
 new b h:=.inl h
structure Cel where
 dx:Addr
 d:Addr
 lb:Addr
 lf:Addr
abbrev cells(a:Addr) (c:Cel):List Addr:=[a,c.d,c.lb,c.lf]
abbrev Y5(c:Cel):List (Str×V):=[(("sheets" : Str),.ref c.d),("steps_back", .ref c.lb),("steps_forth", .ref c.lf)]
structure FoAt (K:PySem.W.Frag) (C:Addr) (H Hf:Hp) (a:Addr) (c:Cel) (o:Fo):Prop where
 ins:H a=some (.ins C c.dx (Y5 c))
 dic:∃kvs,H c.d=some (.dK kvs)/\RepKs K Hf o.m kvs
 bk:∃vs,H c.lb=some (.lst vs)/\Reps K Hf o.b vs
 fo:∃vs,H c.lf=some (.lst vs)/\Reps K Hf o.f vs
 ne:c.lb≠c.lf
 fr:∀x∈cells a c,Hf x=none
theorem FoAt.there(h:FoAt K C H Hf a c o):∀x∈cells a c,H x≠none:=fun x hx=>by
 obtain⟨_,e1,_⟩:=h.dic
 obtain⟨_,e2,_⟩:=h.bk
 obtain⟨_,e3,_⟩:=h.fo
 simp only[List.mem_cons,List.not_mem_nil,or_false]at hx
 rcases hx with rfl|rfl|rfl|rfl
 ·exact X8 h.ins
 ·exact X8 e1
 ·exact X8 e2
 ·exact X8 e3
theorem FoAt.chg(h:FoAt K C H Hf a c o) (g:Chg S H Hf H' Hf') (hs:∀x∈cells a c,x∉S):FoAt K C H' Hf' a c o:=by
 have th:=h.there
 obtain⟨kvs,e1,r1⟩:=h.dic
 obtain⟨vb,e2,r2⟩:=h.bk
 obtain⟨vf,e3,r3⟩:=h.fo
 refine⟨g.big _ _ (hs _ (by simp)) h.ins,⟨kvs,g.big _ _ (hs _ (by simp)) e1,r1.mono g.ext⟩,⟨vb,g.big _ _ (hs _ (by simp)) e2,r2.mono g.ext⟩,⟨vf,g.big _ _ (hs _ (by simp)) e3,r3.mono g.ext⟩,h.ne,fun x hx=>?_⟩
 exact Classical.byContradiction fun z=>(g.new x z).elim (fun q=>q (h.fr x hx)) (th x hx)
theorem FoAt.grow(h:FoAt K C H Hf a c o) (g:Grow H Hf H' Hf'):FoAt K C H' Hf' a c o:=h.chg (S:=[]) (Chg.of g) fun _ _=>by simp
inductive Objs (K:PySem.W.Frag) (C:Addr) (H Hf:Hp):List (Addr×Fo)->List Addr->Prop
 | nil:Objs K C H Hf [] []
 | cons {a:Addr}{c:Cel}{o:Fo}{os:List (Addr×Fo)}{R:List Addr}:FoAt K C H Hf a c o->(∀x∈cells a c,x∉R)->Objs K C H Hf os R->Objs K C H Hf ((a,o)::os) (cells a c++R)
theorem Objs.there(h:Objs K C H Hf os R):∀x∈R,H x≠none:=by
 induction h with
 | nil=>exact fun _ h=>nomatch h
 | cons f d t ih =>
  intro x hx
  rcases List.mem_append.mp hx with hx|hx
  ·exact f.there x hx
  ·exact ih x hx
theorem Objs.chg(h:Objs K C H Hf os R) (g:Chg S H Hf H' Hf') (hs:∀x∈R,x∉S):Objs K C H' Hf' os R:=by
 induction h with
 | nil=>exact .nil
 | cons f d t ih=>exact .cons (f.chg g fun x hx=>hs x (List.mem_append_left _ hx)) d (ih fun x hx=>hs x (List.mem_append_right _ hx))
theorem Objs.focus(h:Objs K C H Hf os R):∀{j:Nat}{a:Addr}{o:Fo},os[j]? = some (a,o)->∃c,FoAt K C H Hf a c o/\(∀x∈cells a c,x∈R) /\
  ∀{H' Hf':Hp}{c':Cel}{o':Fo},Chg (cells a c) H Hf H' Hf'->FoAt K C H' Hf' a c' o'->(∀x∈cells a c',x∈cells a c\/H x=none)->∃R',Objs K C H' Hf' (os.set j (a,o')) R'/\∀x∈R',x∈R\/H x=none:=by
 induction h with
 | nil=>intro j a o e;simp at e
 | @cons a0 c0 o0 os0 R0 f d t ih =>
  intro j a o e
  cases j with
  | zero =>
   simp at e
   obtain⟨rfl,rfl⟩:=e
   refine⟨c0,f,fun x hx=>List.mem_append_left _ hx,fun{H' Hf' c' o'} g f' n=>⟨cells a0 c'++R0,.cons f' (fun x hx hr=>?_) (t.chg g fun x hx z=>d x z hx),fun x hx=>?_⟩⟩
   ·rcases n x hx with z|z
    ·exact d x z hr
    ·exact t.there x hr z
   ·rcases List.mem_append.mp hx with hx|hx
    ·exact(n x hx).imp (List.mem_append_left _) id
    ·exact .inl (List.mem_append_right _ hx)
  | succ j =>
   obtain⟨c,f1,f2,f3⟩:=ih (j:=j) (a:=a) (o:=o) (by simpa using e)
   refine⟨c,f1,fun x hx=>List.mem_append_right _ (f2 x hx),fun{H' Hf' c' o'} g f' n=>?_⟩
   obtain⟨R',r1,r2⟩:=f3 g f' n
   have dis:∀x∈cells a0 c0,x∉cells a c:=fun x hx z=>d x hx (f2 x z)
   refine⟨cells a0 c0++R',.cons (f.chg g dis) (fun x hx hr=>?_) r1,fun x hx=>?_⟩
   ·rcases r2 x hr with z|z
    ·exact d x hx z
    ·exact f.there x hx z
   ·rcases List.mem_append.mp hx with hx|hx
    ·exact .inl (List.mem_append_left _ hx)
    ·exact(r2 x hx).imp (List.mem_append_right _) id
theorem Objs.snoc(h:Objs K C H Hf os R) (f:FoAt K C H Hf a c o) (d:∀x∈cells a c,x∉R):∃R',Objs K C H Hf (os++[(a,o)]) R'/\∀x∈R',x∈R\/x∈cells a c:=by
 induction h with
 | nil=>exact⟨cells a c++[],.cons f (by simp) .nil,fun x hx=>.inr (by simpa using hx)⟩
 | @cons a0 c0 o0 os0 R0 f0 d0 t ih =>
  obtain⟨R',r1,r2⟩:=ih fun x hx=>fun z=>d x hx (List.mem_append_right _ z)
  refine⟨cells a0 c0++R',.cons f0 (fun x hx hr=>?_) r1,fun x hx=>?_⟩
  ·rcases r2 x hr with z|z
   ·exact d0 x hx z
   ·exact d x z (List.mem_append_left _ hx)
  ·rcases List.mem_append.mp hx with hx|hx
   ·exact .inl (List.mem_append_left _ hx)
   ·exact(r2 x hx).imp (List.mem_append_right _) id
end
structure Bs where
 S:List Addr
 H:Hp
 Hf:Hp
def hid(b:Bs) (R:List Addr):Hp:=fun x=>if x∈R then some (.lst []) else b.H x
structure OSt (K:PySem.W.Frag) (C:Addr) (b:Bs) (ρ:Rho) (os:List (Addr×Fo)) (σ:L2.St) (H Hf:Hp):Prop where
 gr:Chg b.S b.H b.Hf H Hf
 ob:∃R,Objs K C H Hf os R/\(∀x∈R,x∈b.S\/b.H x=none)/\Slots K (hid b R) ρ σ H Hf
section
variable {K:PySem.W.Frag}{C:Addr}{b:Bs}{ρ:Rho}{os:List (Addr×Fo)}{σ:L2.St}{H Hf H' Hf':Hp}
def Z8(_:Rho):Bool:=true
theorem V7(h:hid b R x=none):x∉R/\b.H x=none:=by
 unfold hid at h
 split at h
 ·cases h
 ·rename_i n;exact⟨n,h⟩
theorem at4(h1:x∉R) (h2:b.H x=none):hid b R x=none:=by unfold hid;rw[if_neg h1];exact h2
theorem Slots.chg{H0 H0':Hp}{S:List Addr}(s:Slots K H0 ρ σ H Hf) (g:Chg S H Hf H' Hf') (hS:∀x∈S,H0 x=none->H x=none) (hH:∀x,H0 x=none->H x≠none->H0' x=none):Slots K H0' ρ σ H' Hf':=by
 refine⟨s.len,fun i b e=>?_,s.apart⟩
 obtain⟨v,h1,h2⟩:=s.is i b e
 refine⟨v,h1,?_⟩
 cases b with
 | val d=>exact Rep.mono g.ext h2
 | exc C =>
  obtain⟨a,o,C,e,h1,h2⟩:=h2
  exact⟨a,o,C,e,g.ext _ _ h1,h2⟩
 | opq _=>exact h2
 | own ds =>
  obtain⟨a,us,e,e1,e2,e3,e4⟩:=h2
  have nS:a∉S:=fun z=>by rw[hS a z e3]at e1;cases e1
  have nf:Hf' a=none:=Classical.byContradiction fun z=>(g.new a z).elim (fun q=>q e2) fun q=>by rw[q]at e1;cases e1
  exact⟨a,us,e,g.big a _ nS e1,nf,hH a e3 (X8 e1),e4.mono g.ext⟩
def OSt.R(s:OSt K C b ρ os σ H Hf):List Addr:=s.ob.choose
theorem OSt.obs(s:OSt K C b ρ os σ H Hf):Objs K C H Hf os s.R/\∀x∈s.R,x∈b.S\/b.H x=none:=⟨s.ob.choose_spec.1,s.ob.choose_spec.2.1⟩
theorem OSt.sl(s:OSt K C b ρ os σ H Hf):Slots K (hid b s.R) ρ σ H Hf:=s.ob.choose_spec.2.2
theorem OSt.slots{ρ':Rho}{σ':L2.St}(s:OSt K C b ρ os σ H Hf) (sl:Slots K (hid b s.R) ρ' σ' H Hf):OSt K C b ρ' os σ' H Hf:=⟨s.gr,s.R,s.obs.1,s.obs.2,sl⟩
theorem OSt.same(s:OSt K C b ρ os σ H Hf):B2 Hf H:=s.gr.sub
theorem OSt.grow(s:OSt K C b ρ os σ H Hf) (g:Grow H Hf H' Hf'):OSt K C b ρ os σ H' Hf':=by
 obtain⟨R,r1,r2,r3⟩:=s.ob
 exact⟨s.gr.trans (S':=[]) (Chg.of g) (by simp),R,r1.chg (S:=[]) (Chg.of g) (by simp),r2,r3.grow g⟩
theorem OSt.focus(s:OSt K C b ρ os σ H Hf) (n:Z8 ρ=true) (e:os[j]? = some (a,o)):∃c,FoAt K C H Hf a c o /\
  ∀{H' Hf':Hp}{c':Cel}{o':Fo},Chg (cells a c) H Hf H' Hf'->FoAt K C H' Hf' a c' o'->(∀x∈cells a c',x∈cells a c\/H x=none)->OSt K C b ρ (os.set j (a,o')) σ H' Hf':=by
 obtain⟨R,r1,r2,r3⟩:=s.ob
 obtain⟨c,f1,f2,f3⟩:=r1.focus e
 have old:∀x,x∈R\/H x=none->x∈b.S\/b.H x=none:=fun x h=>h.elim (r2 x) fun z=>.inr (Classical.byContradiction fun q=>s.gr.kp x q z)
 refine⟨c,f1,fun{H' Hf' c' o'} g f' nn=>?_⟩
 obtain⟨R',q1,q2⟩:=f3 g f' nn
 refine⟨s.gr.trans g fun x hx=>r2 x (f2 x hx),R',q1,fun x hx=>old x (q2 x hx),r3.chg g (fun x hx h=>((V7 h).1 (f2 x hx)).elim) fun x h hx=>?_⟩
 obtain⟨h1,h2⟩:=V7 h
 exact at4 (fun z=>(q2 x z).elim h1 hx) h2
end
end G
namespace G
open PySem PySem.Spec PyProof.Rows L2
abbrev Os:=List (Addr×Fo)
def OE(X:Cx) (C:Addr) (b:Bs) (ρ:Rho) (q:Os) (e:Expr) (d:D) (q':Os):Prop:=PE X e (fun σ H Q=>∃Hf,OSt X.K C b ρ q σ H Hf/\∀v H' Hf',OSt X.K C b ρ q' σ H' Hf'->B2 Hf Hf'->Rep X.K Hf' d v->Q v H')
def OT(X:Cx) (C:Addr) (b:Bs) (ρ:Rho) (q:Os) (e:Expr) (c:Bool) (q':Os):Prop:=PT X e (fun σ H Q=>∃Hf,OSt X.K C b ρ q σ H Hf/\∀H' Hf',OSt X.K C b ρ q' σ H' Hf'->B2 Hf Hf'->Q c H')
inductive OF where
 | nx (ρ:Rho) (q:Os)
 | rt (d:D) (q:Os)
def OF.ends(X:Cx) (C:Addr) (b:Bs) (Hf:Hp) (En:Ends):OF->Prop
 | .nx ρ q=>∀σ' H' Hf',OSt X.K C b ρ q σ' H' Hf'->B2 Hf Hf'->En.nx σ' H'
 | .rt d q=>∀ρ' σ' v H' Hf',OSt X.K C b ρ' q σ' H' Hf'->Rep X.K Hf' d v->En.rt v H'
def OS(X:Cx) (C:Addr) (b:Bs) (ρ:Rho) (q:Os) (st:Stmt) (fl:OF):Prop:=PS X st (fun En σ H=>∃Hf,OSt X.K C b ρ q σ H Hf/\fl.ends X C b Hf En)
def OSs(X:Cx) (C:Addr) (b:Bs) (ρ:Rho) (q:Os) (sts:List Stmt) (fl:OF):Prop:=PSs X sts (fun En σ H=>∃Hf,OSt X.K C b ρ q σ H Hf/\fl.ends X C b Hf En)
section
variable {X:Cx}{C:Addr}{b:Bs}{ρ ρ':Rho}{q q' q1 q2:Os}{st:Stmt}{sts:List Stmt}
theorem OF.ends_mono{Hf Hf':Hp}{En:Ends}{fl:OF}(h:fl.ends X C b Hf En) (e:B2 Hf Hf'):fl.ends X C b Hf' En:=by
 cases fl with
 | nx ρ q=>exact fun σ' H' Hf'' o s=>h σ' H' Hf'' o (e.trans s)
 | rt d q=>exact h
theorem S4(h:JE X e f) (w:f ρ=some d):OE X C b ρ q e d q :=
 A5 (h ρ d w) fun σ H Q ⟨Hf,st,k⟩=>⟨_,Hf,st.same,st.sl,fun v H' Hf' g r=>k v H' Hf' (st.grow g) g.ext r⟩
theorem bt3(h:JT X e f) (w:f ρ=some c):OT X C b ρ q e c q :=
 W4 (h ρ c w) fun σ H Q ⟨Hf,st,k⟩=>⟨_,Hf,st.same,st.sl,fun H' Hf' g=>k H' Hf' (st.grow g) g.ext⟩
theorem ar9(o:OpD X (compareOp op) h) (ha:OE X C b ρ q ea x q1) (hb:OE X C b ρ q1 eb y q2) (w:h x y=some (.bool c)) (hm:behindInMarks op eb=false:=by first|exact as5 _|rfl):OT X C b ρ q (.Compare ea [op] [eb] pos) c q2:=by
 refine W4 (aK5 (o x y _ w) ha hb hm) fun σ H Q ⟨Hf,st,k⟩=>⟨Hf,st,fun v H1 Hf1 s1 e1 r1=>⟨Hf1,s1,fun u H2 Hf2 s2 e2 r2=>⟨Hf2,s2.same,r1.mono e2,r2,fun z H3 Hf3 g r3=>⟨c,r3,k H3 Hf3 (s2.grow g) ((e1.trans e2).trans g.ext)⟩⟩⟩⟩
theorem bM9(o:OpD X (compareOp op) h) (ha:OE X C b ρ q ea x q1) (hb:OE X C b ρ q1 eb y q2) (w:h x y=some z) (hm:behindInMarks op eb=false:=by first|exact as5 _|rfl):OE X C b ρ q (.Compare ea [op] [eb] pos) z q2:=by
 refine A5 (aK8 (o x y _ w) ha hb hm) fun σ H Q ⟨Hf,st,k⟩=>⟨Hf,st,fun v H1 Hf1 s1 e1 r1=>⟨Hf1,s1,fun u H2 Hf2 s2 e2 r2=>⟨Hf2,s2.same,r1.mono e2,r2,fun z H3 Hf3 g r3=>k z H3 Hf3 (s2.grow g) ((e1.trans e2).trans g.ext) r3⟩⟩⟩
theorem bL6(ha:OE X C b ρ q e (.bool c) q1) (he:∀whole,isTrue e X.env whole=(do let v ← whole;standAt e.pos;holding [v] (truthy v)):=by intro _;rfl):OT X C b ρ q e c q1 :=
 W4 (aw5 ha he) fun σ H Q ⟨Hf,st,k⟩=>⟨Hf,st,fun v H1 Hf1 s1 e1 r1=>⟨c,by cases r1;rfl,k H1 Hf1 s1 e1⟩⟩
theorem j8(h:OE X C b ρ q e d q') (hs:swapsWith e none pos.line X.env=pure false):OS X C b ρ q (.Expr e pos) (.nx ρ q') :=
 B5 (S3 h hs) fun En σ H ⟨Hf,st,k⟩=>⟨Hf,st,fun v H' Hf' s' e' _=>k σ H' Hf' s' e'⟩
theorem OSt.set(s:OSt X.K C b ρ q σ H Hf) (r:Rep X.K Hf d v):OSt X.K C b (ρ.set i (‹d›)) q (σ.set i (some v)) H Hf:=s.slots (s.sl.set r)
theorem bL7(i:Nat) (hN:X.N.Nodup) (h:OE X C b ρ q e d q') (hi:X.N[i]? = some x) (hx:Loc X.env.scope x) (hs:swapsWith e (some (.Name x pos')) pos.line X.env=pure false) (hf:X.fn x=true):OS X C b ρ q (.Assign [.Name x pos'] e pos) (.nx (ρ.set i (‹d›)) q') :=
 B5 (d9 hN hi hx h hs (.inl hf)) fun En σ H ⟨Hf,st,k⟩=>⟨Hf,st,fun v H' Hf' s' e' r=>k _ H' Hf' (s'.set r) e'⟩
theorem n9(h:OE X C b ρ q e d q'):OS X C b ρ q (.Return (some e) pos) (.rt d q') :=
 B5 (ad0 h) fun En σ H ⟨Hf,st,k⟩=>⟨Hf,st,fun v H' Hf' s' e' r=>k ρ σ v H' Hf' s' r⟩
theorem ao1(t:OT X C b ρ q e c q1) (h1:c=true->OSs X C b ρ q1 s1 fl) (h2:c=false->OSs X C b ρ q1 s2 fl):OS X C b ρ q (.If e s1 s2 pos) fl:=by
 cases c with
 | true=>exact B5 (ao0 t (h1 rfl) M5) fun En σ H ⟨Hf,st,k⟩=>⟨Hf,st,fun H' Hf' s' e'=>i4 ⟨Hf',s',OF.ends_mono k e'⟩⟩
 | false=>exact B5 (ao0 t M5 (h2 rfl)) fun En σ H ⟨Hf,st,k⟩=>⟨Hf,st,fun H' Hf' s' e'=>l6 ⟨Hf',s',OF.ends_mono k e'⟩⟩
theorem ag9:OSs X C b ρ q [] (.nx ρ q):=P4 ar5 fun En σ H ⟨Hf,st,k⟩=>k σ H Hf st (B2.refl _)
theorem aa1(h:OS X C b ρ q st fl):OSs X C b ρ q [st] fl:=j7 h
theorem F7(h:OS X C b ρ q st (.nx ρ' q')) (r:OSs X C b ρ' q' sts fl):OSs X C b ρ q (st::sts) fl :=
 P4 (M0 h r) fun En σ H ⟨Hf,s,k⟩=>⟨Hf,s,fun σ' H' Hf' s' e'=>⟨Hf',s',OF.ends_mono k e'⟩⟩
theorem n8(h:OS X C b ρ q st (.rt d q')):OSs X C b ρ q (st::sts) (.rt d q') :=
 P4 (M0 h M5) fun En σ H ⟨Hf,s,k⟩=>⟨Hf,s,k⟩
end
end G
namespace G
open PySem PySem.Spec PyProof.Rows L2
abbrev MF:=Fo->List D->Option (D×Fo)
def spM(K:PySem.W.Frag) (C:Addr) (n:Nat) (F:MF):Sp:=fun vs H Q _=>∃a us Hf c o ds r o',vs=.ref a::us/\us.length=n/\B2 Hf H/\FoAt K C H Hf a c o/\Reps K Hf ds us/\F o ds=some (r,o') /\
 ∀v H' Hf' c',Chg (cells a c) H Hf H' Hf'->FoAt K C H' Hf' a c' o'->(∀x∈cells a c',x∈cells a c\/H x=none)->Rep K Hf' r v->Q v H'
def m7(X:Cx) (C:Addr) (m:Str) (n:Nat) (F:MF):Prop:=∃k f fd ps,FnOk X.prog X.w X.K X.mg X.base CX0 k f fd ps (spM X.K C n F)/\Room k X.A/\Meth X.K C m f/\N7 X.K fd ps []
structure FoC (K:PySem.W.Frag) (C:Addr):Prop where
 cl:Cls K C
 n1:Z1 K C "sheets"
 n2:Z1 K C "steps_back"
 n3:Z1 K C "steps_forth"
def aa4(m:Str):Bool:=!(m==("sheets" : Str)) && !(m==("steps_back" : Str)) && !(m==("steps_forth" : Str))
theorem ak4(h:aa4 m=true) (c:Cel):(Y5 c).lookup m=none:=by
 unfold aa4 at h
 simp only[Bool.and_eq_true,Bool.not_eq_true']at h
 simp only[Y5,List.lookup_cons,h.1.1,h.1.2,h.2,List.lookup_nil]
section
variable {X:Cx}{C:Addr}{b:Bs}{ρ ρ':Rho}{q q' q1 q2:Os}{o o':Fo}{K:PySem.W.Frag}{σ:L2.St}{H Hf:Hp}
structure At1 (X:Cx) (ρ:Rho) (q:Os) (x:Str) (i j:Nat) (a:Addr) (o:Fo):Prop where
 n:X.N[i]? = some x
 v:Vis X.env.scope x
 d1:(x==("__debug__" : Str))=false
 d2:(x==("__classdict__" : Str))=false
 s:ρ[i]? = some (some (.opq a))
 o:q[j]? = some (a,o)
 w:Z8 ρ=true
theorem P9{i:Nat}{a:Addr}(s:OSt K C b ρ q σ H Hf) (e:ρ[i]? = some (some (B.opq a))):σ[i]? = some (some (V.ref a)):=by
 obtain⟨v,h1,h2⟩:=s.sl.is i _ e
 cases h2;exact h1
theorem ao2{ds:List D}{d:D}{F:MF}{E:XK}{Q:VK}(st:OSt X.K C b ρ q σ H Hf) (A:At1 X ρ q x i j a o) (nf:aa4 m=true) (r:F o ds=some (d,o')) (hn:ds.length=n)
  (k:∀v H' Hf',OSt X.K C b ρ (q.set j (a,o')) σ H' Hf'->B2 Hf Hf'->Rep X.K Hf' d v->Q v H') :
  ∃v,σ[i]? = some (some v)/\∃a dx fs,v=.ref a/\H a=some (.ins C dx fs)/\fs.lookup m=none/\∀vs H1 Hf1,Grow H Hf H1 Hf1->Reps X.K Hf1 ds vs->spM X.K C n F (v::(vs++[])) H1 Q E:=by
 obtain⟨c,f1,f3⟩:=st.focus A.w A.o
 refine⟨_,P9 st A.s,a,c.dx,Y5 c,rfl,f1.ins,ak4 nf c,fun vs H1 Hf1 g1 r1=>⟨a,vs++[],Hf1,c,o,ds,d,o',rfl,by rw[List.append_nil,r1.length,hn],g1.sub,f1.grow g1,by rw[List.append_nil];exact r1,r,fun v H2 Hf2 c' g2 f2 n2 rv=>k v H2 Hf2 (f3 ((Chg.of g1).trans g2 fun _ h=>.inl h) f2 fun y hy=>(n2 y hy).imp id fun z=>Classical.byContradiction fun w=>(Chg.of (S:=[]) g1).kp y w z) (g1.ext.trans g2.ext) rv⟩⟩
theorem ah3{x m:Str}{p apos pos:Pos}{es:List Expr}(hl:(apos.endLine==pos.line)=true) (hf:methodCallForm (es.length+([]:List Keyword).length) (backTo pos (starEach es X.env)) (backToKw pos (keywordEach [] X.env))=true) :
  eval (.Call (.Attribute (.Name x p) m apos) es [] pos) X.env=(do
   let ov ← eval (.Name x p) X.env
   standAt apos.atName
   let(f,first) ← holding [ov] (getMethod ov m (do return (← importBound (.Name x p) X.env).getD true))
   callWith pos f first (backTo pos (starEach es X.env)) (backToKw pos (keywordEach [] X.env))):=by
 show(do let ov ← eval (.Name x p) X.env;standAt apos.atName;methodCall (.Name x p) m apos pos X.env ov (es.length+([]:List Keyword).length) (backTo pos (starEach es X.env)) (backToKw pos (keywordEach [] X.env)))=_
 unfold methodCall
 rw[hf]
 unfold methodCallPos calleeOf
 rw[hl]
 rfl
theorem ax1{ρa:Rho}{x m:Str}{e:Expr}{es:List Expr}{p apos pos:Pos}{ds:List D}{d:D}{F:MF}{f:Rho->Option (List D)}(M:m7 X C m n F) (c:FoC X.K C) (A:At1 X ρ q x i j a o) (nf:aa4 m=true) (ha:JA X (e::es) f) (w:f ρa=some ds) (sb:∀{H0 H Hf:Hp}{σ:L2.St},Slots X.K H0 ρ σ H Hf->Slots X.K H0 ρa σ H Hf) (r:F o ds=some (d,o')) (hn:(e::es).length=n:=by rfl)
  (hst:starEach (e::es) X.env=(false,eval e X.env)::starEach es X.env:=by rfl) (hpl:(backTo pos (starEach es X.env)).any (·.1)=false:=by rfl)
  (hl:(apos.endLine==pos.line)=true:=by first|assumption|rfl) (hfm:methodCallForm ((e::es).length+([]:List Keyword).length) (backTo pos (starEach (e::es) X.env)) (backToKw pos (keywordEach [] X.env))=true:=by rfl) :
  OE X C b ρ q (.Call (.Attribute (.Name x p) m apos) (e::es) [] pos) d (q.set j (a,o')):=by
 obtain⟨k,fa,fd,ps,Fk,hr,hm,hb⟩:=M
 refine A5 (bs7 (M4 A.n A.v A.d1 A.d2) c.cl hm Fk hr hb .nil aa0 (fun pos pins s σ H Q I t=>ha.run ρa ds w pos pins s σ H Q I t) hst hpl (ah3 hl hfm)) fun σ H Q ⟨Hf,st,kk⟩=>?_
 obtain⟨v,h1,a',dx,fs,h2,h3,h4,h5⟩:=ao2 (n:=n) (E:=E0) st A nf r (by rw[ha.len ρa ds w,hn]) kk
 exact⟨v,h1,a',dx,fs,h2,h3,h4,_,Hf,st.same,sb st.sl,fun vs H1 Hf1 g1 r1=>h5 vs H1 Hf1 g1 r1⟩
theorem U2{x m:Str}{e:Expr}{es:List Expr}{p apos pos:Pos}{ds:List D}{d:D}{F:MF}{f:Rho->Option (List D)}(M:m7 X C m n F) (c:FoC X.K C) (A:At1 X ρ q x i j a o) (nf:aa4 m=true) (ha:JA X (e::es) f) (w:f ρ=some ds) (r:F o ds=some (d,o')) (hn:(e::es).length=n:=by rfl)
  (hst:starEach (e::es) X.env=(false,eval e X.env)::starEach es X.env:=by rfl) (hpl:(backTo pos (starEach es X.env)).any (·.1)=false:=by rfl)
  (hl:(apos.endLine==pos.line)=true:=by first|assumption|rfl) (hfm:methodCallForm ((e::es).length+([]:List Keyword).length) (backTo pos (starEach (e::es) X.env)) (backToKw pos (keywordEach [] X.env))=true:=by rfl) :
  OE X C b ρ q (.Call (.Attribute (.Name x p) m apos) (e::es) [] pos) d (q.set j (a,o')) :=
 ax1 M c A nf ha w (fun s=>s) r hn hst hpl hl hfm
theorem bc4{x m:Str}{p apos pos:Pos}{d:D}{F:MF}(M:m7 X C m 0 F) (c:FoC X.K C) (A:At1 X ρ q x i j a o) (nf:aa4 m=true) (r:F o []=some (d,o'))
  (hl:(apos.endLine==pos.line)=true:=by first|assumption|rfl) :
  OE X C b ρ q (.Call (.Attribute (.Name x p) m apos) [] [] pos) d (q.set j (a,o')):=by
 obtain⟨k,fa,fd,ps,Fk,hr,hm,hb⟩:=M
 refine A5 (aj9 (M4 A.n A.v A.d1 A.d2) c.cl hm Fk hr hb .nil aa0 (ah3 hl rfl)) fun σ H Q ⟨Hf,st,kk⟩=>?_
 obtain⟨v,h1,a',dx,fs,h2,h3,h4,h5⟩:=ao2 (n:=0) (E:=E0) st A nf r rfl kk
 exact⟨v,h1,a',dx,fs,h2,h3,h4,h5 [] H Hf (Grow.refl st.same) rfl⟩
def OP(X:Cx) (C:Addr) (b:Bs) (ρ:Rho) (q:Os) (e:Expr) (d:D):Prop:=PE X e (fun σ H Q=>∃Hf,OSt X.K C b ρ q σ H Hf/\∀v H' Hf',Grow H Hf H' Hf'->Rep X.K Hf' d v->Q v H')
theorem OP.oe(h:OP X C b ρ q e d):OE X C b ρ q e d q:=A5 h fun σ H Q ⟨Hf,st,k⟩=>⟨Hf,st,fun v H' Hf' g r=>k v H' Hf' (st.grow g) g.ext r⟩
theorem j9(h:JE X e f) (w:f ρ=some d):OP X C b ρ q e d:=A5 (h ρ d w) fun σ H Q ⟨Hf,st,k⟩=>⟨_,Hf,st.same,st.sl,k⟩
structure OPA (X:Cx) (C:Addr) (b:Bs) (ρ:Rho) (q:Os) (es:List Expr) (ds:List D):Prop where
 len:ds.length=es.length
 run:PA X es (fun σ H Q=>∃Hf,OSt X.K C b ρ q σ H Hf/\∀vs H' Hf',Grow H Hf H' Hf'->Reps X.K Hf' ds vs->Q vs H')
theorem aL0:OPA X C b ρ q [] []:=⟨rfl,fun pos pins s σ H Q I ⟨Hf,st,k⟩=>F6 pos pins s σ H Q I (k [] H Hf (Grow.refl st.same) rfl)⟩
theorem X1(h:OP X C b ρ q e d) (r:OPA X C b ρ q es ds) (hs:starEach (e::es) X.env=(false,eval e X.env)::starEach es X.env:=by rfl):OPA X C b ρ q (e::es) (d::ds) :=
 ⟨by simp[r.len],fun pos pins s σ H Q I ⟨Hf,st,k⟩=>B8 h r.run hs pos pins s σ H Q I ⟨Hf,st,fun v H1 Hf1 g1 r1=>⟨Hf1,st.grow g1,fun vs H2 Hf2 g2 r2=>k (v::vs) H2 Hf2 (g1.trans g2) ⟨v,vs,rfl,r1.mono g2.ext,r2⟩⟩⟩⟩
theorem bb7(h:OPA X C b ρ q es ds) (hn:es.length<=1000:=by decide):OP X C b ρ q (.Tuple es k pos) (.tuple ds) :=
 A5 (aE4 h.run) fun σ H Q ⟨Hf,st,k⟩=>⟨Hf,st,fun vs H1 Hf1 g r=>⟨by rw[r.length,h.len];exact Nat.le_of_lt (O9 hn),fun p hp=>k _ _ _ (g.trans (Grow.laid g.sub hp)) ⟨p,vs,rfl,SqT.of A3,r.mono (Grow.laid (o:=.tup vs) g.sub hp).ext⟩⟩⟩
theorem W9(A:At1 X ρ q x i j a o) (c:FoC X.K C) (hf:f=("sheets" : Str)\/f=("steps_back" : Str)\/f=("steps_forth" : Str)) (hb:attributeBase (.Name x p) f X.env (eval (.Name x p) X.env)=eval (.Name x p) X.env) :
  PE X (.Attribute (.Name x p) f pos) (fun σ H Q=>∃Hf,OSt X.K C b ρ q σ H Hf/\∀cl v,FoAt X.K C H Hf a cl o->(Y5 cl).lookup f=some v->Q v H) :=
 A5 (ba8 (M4 A.n A.v A.d1 A.d2) hb) fun σ H Q ⟨Hf,st,k⟩=>by
  obtain⟨cl,f1,_⟩:=st.focus A.w A.o
  have hl:∃v,(Y5 cl).lookup f=some v:=by
   rcases hf with rfl|rfl|rfl
   ·exact⟨.ref cl.d,rfl⟩
   ·exact⟨.ref cl.lb,rfl⟩
   ·exact⟨.ref cl.lf,rfl⟩
  obtain⟨v,hl⟩:=hl
  exact⟨_,P9 st A.s,a,C,cl.dx,Y5 cl,v,rfl,f1.ins,c.cl,by rcases hf with rfl|rfl|rfl;exact c.n1;exact c.n2;exact c.n3,hl,k cl v f1 hl⟩
theorem k7(f:FoAt K C H Hf a cl o) (x:Str):∃r:Option V,ae5 H cl.d (.str x) r/\((P3 o.m x=none/\r=none)\/∃d v,P3 o.m x=some d/\r=some v/\Rep K Hf d v):=by
 obtain⟨kvs,e1,r1⟩:=f.dic
 refine⟨_,ae5.k (k:=Sum.inr x) e1,?_⟩
 rcases r1.look x with⟨l1,l2⟩|⟨d,v,l1,l2,l3⟩
 ·exact .inl ⟨l1,l2⟩
 ·exact .inr ⟨d,v,l1,l2,l3⟩
theorem bM7(hu:X.A.units+64 < cLine) (A:At1 X ρ q x i j a o) (c:FoC X.K C) (he:JE X e f) (w:f ρ=some (.str k)) (m:M1 X (.Attribute (.Name x p) "sheets" pos) "get" apos e cpos) (hb:attributeBase (.Name x p) "sheets" X.env (eval (.Name x p) X.env)=eval (.Name x p) X.env:=by rfl) :
  OP X C b ρ q (.Call (.Attribute (.Attribute (.Name x p) "sheets" pos) "get" apos) [e] [] cpos) ((P3 o.m k).getD .none) :=
 A5 (bb1 (by omega) (W9 A c (.inl rfl) hb) (he ρ _ w) m) fun σ H Q ⟨Hf,st,kk⟩=>⟨Hf,st,fun cl v f1 hl=>by
  cases hl
  obtain⟨kvs,e1,_⟩:=f1.dic
  refine⟨cl.d,rfl,.inl ⟨kvs,.inl e1⟩,_,Hf,st.same,st.sl,fun u H1 Hf1 g1 r1=>?_⟩
  cases r1
  obtain⟨r,d1,d2⟩:=k7 (f1.grow g1) k
  refine⟨r,d1,?_⟩
  rcases d2 with⟨l1,rfl⟩|⟨d,v,l1,rfl,l3⟩
  ·rw[l1]at kk;exact kk _ _ _ g1 rfl
  ·rw[l1]at kk;exact kk _ _ _ g1 l3⟩
theorem cc9(hu:X.A.units+64 < cLine) (A:At1 X ρ q x i j a o) (c:FoC X.K C) (he:JE X e f) (w:f ρ=some (.str k)) (hb:attributeBase (.Name x p) "sheets" X.env (eval (.Name x p) X.env)=eval (.Name x p) X.env:=by rfl) (h1:behindInMarks .In (.Attribute (.Name x p) "sheets" pos)=false:=by rfl) :
  OP X C b ρ q (.Compare e [.In] [.Attribute (.Name x p) "sheets" pos] cpos) (.bool (P3 o.m k).isSome) :=
 A5 (bL4 (bL5 (by omega) (he ρ _ w) (W9 A c (.inl rfl) hb)) h1) fun σ H Q ⟨Hf,st,kk⟩=>⟨_,Hf,st.same,st.sl,fun u H1 Hf1 g1 r1=>⟨Hf1,st.grow g1,fun cl v f1 hl=>by
  cases hl;cases r1
  obtain⟨r,d1,d2⟩:=k7 f1 k
  refine⟨cl.d,r,rfl,d1,?_⟩
  rcases d2 with⟨l1,rfl⟩|⟨d,v,l1,rfl,l3⟩
  ·rw[l1]at kk;exact kk _ _ _ g1 rfl
  ·rw[l1]at kk;exact kk _ _ _ g1 rfl⟩⟩
theorem bb4(hu:X.A.units+64 < cLine) (A:At1 X ρ q x i j a o) (c:FoC X.K C) (he:JE X e f) (w:f ρ=some (.str k)) (hb:attributeBase (.Name x p) "sheets" X.env (eval (.Name x p) X.env)=eval (.Name x p) X.env:=by rfl) (h1:behindInMarks .NotIn (.Attribute (.Name x p) "sheets" pos)=false:=by rfl) :
  OT X C b ρ q (.Compare e [.NotIn] [.Attribute (.Name x p) "sheets" pos] cpos) (!(P3 o.m k).isSome) q :=
 W4 (bK4 (aR1 (by omega) (he ρ _ w) (W9 A c (.inl rfl) hb)) h1) fun σ H Q ⟨Hf,st,kk⟩=>⟨_,Hf,st.same,st.sl,fun u H1 Hf1 g1 r1=>⟨Hf1,st.grow g1,fun cl v f1 hl=>by
  cases hl;cases r1
  obtain⟨r,d1,d2⟩:=k7 f1 k
  refine⟨cl.d,r,rfl,d1,?_⟩
  rcases d2 with⟨l1,rfl⟩|⟨d,v,l1,rfl,l3⟩
  ·rw[l1]at kk;exact⟨_,rfl,kk _ _ (st.grow g1) g1.ext⟩
  ·rw[l1]at kk;exact⟨_,rfl,kk _ _ (st.grow g1) g1.ext⟩⟩⟩
theorem bu1(hu:X.A.units+64 < cLine) (A:At1 X ρ q x i j a o) (c:FoC X.K C) (he:JE X e f) (w:f ρ=some (.str k)) (l:P3 o.m k=some d) (hs:bX0 e) (hb:attributeBase (.Name x p) "sheets" X.env (eval (.Name x p) X.env)=eval (.Name x p) X.env:=by rfl) :
  OP X C b ρ q (.Subscript (.Attribute (.Name x p) "sheets" pos) e cpos) d :=
 A5 (bs9 (by omega) (W9 A c (.inl rfl) hb) (he ρ _ w) hs) fun σ H Q ⟨Hf,st,kk⟩=>⟨Hf,st,fun cl v f1 hl=>by
  cases hl
  refine⟨_,Hf,st.same,st.sl,fun u H1 Hf1 g1 r1=>?_⟩
  cases r1
  obtain⟨r,d1,d2⟩:=k7 (f1.grow g1) k
  rcases d2 with⟨l1,rfl⟩|⟨d',v,l1,rfl,l3⟩
  ·rw[l]at l1;cases l1
  ·rw[l]at l1;cases l1
   exact⟨cl.d,v,rfl,d1,kk _ _ _ g1 l3⟩⟩
end
end G
namespace G
open PySem PySem.Spec PyProof.Rows L2
def ao8(kvs:List (D×D)) (x:Str):List (D×D):=kvs.filter fun kv=>!Q5 x kv
theorem RepKs.drop{K:PySem.W.Frag}{H:Hp}{x:Str}:∀{kvs:List (D×D)}{m:List (Key×V)},RepKs K H kvs m->RepKs K H (ao8 kvs x) (af3 m (.inr x))
 | [],_,h=>by cases h;rfl
 | (k,e)::r,_,⟨y,w,t,h1,h2,h3,h4⟩=>by
  subst h1 h2
  have ih:=RepKs.drop (x:=x) h4
  unfold ao8 af3 at ih ⊢
  rw[List.filter_cons,List.filter_cons]
  by_cases e:y=x
  ·rw[if_neg (by simp[Q5,e]),if_neg (by simp[e])];exact ih
  ·rw[if_pos (by simp[Q5,e]),if_pos (by simp[e])];exact⟨y,w,_,rfl,rfl,h3,ih⟩
section
variable {X:Cx}{C:Addr}{b:Bs}{ρ ρ':Rho}{q q' q1 q2:Os}{o o':Fo}{K:PySem.W.Frag}{σ:L2.St}{H Hf:Hp}{a:Addr}{c:Cel}
theorem FoAt.same{c c':Cel}{Hf':Hp}(f:FoAt K C H Hf a c o) (g:FoAt K C H Hf' a c' o'):c=c':=by
 have e:=f.ins.symm.trans g.ins
 obtain⟨d1,d2,d3,d4⟩:=c
 obtain⟨x1,x2,x3,x4⟩:=c'
 cases e;rfl
theorem RepKs.length:∀{kvs:List (D×D)}{m:List (Key×V)},RepKs K H kvs m->m.length=kvs.length
 | [],_,h=>by cases h;rfl
 | (k,e)::r,_,⟨y,w,t,h1,h2,h3,h4⟩=>by subst h2;simp[RepKs.length h4]
theorem FoAt.wrD(f:FoAt K C H Hf a c o) (r:RepKs K Hf m kvs):FoAt K C (upd H c.d (.dK kvs)) Hf a c { o with m:=m }:=by
 obtain⟨k0,e1,_⟩:=f.dic
 obtain⟨vb,e2,r2⟩:=f.bk
 obtain⟨vf,e3,r3⟩:=f.fo
 have n:∀{x u},H x=some u->(∀k,u≠HO.dK k)->upd H c.d (.dK kvs) x=some u:=fun{x u} e z=>by rw[A4 (g7 e e1 (z _))];exact e
 exact⟨n f.ins (by intro _ z;cases z),⟨kvs,A3,r⟩,⟨vb,n e2 (by intro _ z;cases z),r2⟩,⟨vf,n e3 (by intro _ z;cases z),r3⟩,f.ne,f.fr⟩
theorem FoAt.wrB(f:FoAt K C H Hf a c o) (r:Reps K Hf ds vs):FoAt K C (upd H c.lb (.lst vs)) Hf a c { o with b:=ds }:=by
 obtain⟨k0,e1,r1⟩:=f.dic
 obtain⟨vb,e2,_⟩:=f.bk
 obtain⟨vf,e3,r3⟩:=f.fo
 have n:∀{x u},H x=some u->x≠c.lb->upd H c.lb (.lst vs) x=some u:=fun{x u} e z=>by rw[A4 z];exact e
 exact⟨n f.ins (g7 f.ins e2 (by intro z;cases z)),⟨k0,n e1 (g7 e1 e2 (by intro z;cases z)),r1⟩,⟨vs,A3,r⟩,⟨vf,n e3 f.ne.symm,r3⟩,f.ne,f.fr⟩
theorem FoAt.wrF(f:FoAt K C H Hf a c o) (r:Reps K Hf ds vs):FoAt K C (upd H c.lf (.lst vs)) Hf a c { o with f:=ds }:=by
 obtain⟨k0,e1,r1⟩:=f.dic
 obtain⟨vb,e2,r2⟩:=f.bk
 obtain⟨vf,e3,_⟩:=f.fo
 have n:∀{x u},H x=some u->x≠c.lf->upd H c.lf (.lst vs) x=some u:=fun{x u} e z=>by rw[A4 z];exact e
 exact⟨n f.ins (g7 f.ins e3 (by intro z;cases z)),⟨k0,n e1 (g7 e1 e3 (by intro z;cases z)),r1⟩,⟨vb,n e2 f.ne,r2⟩,⟨vs,A3,r⟩,f.ne,f.fr⟩
theorem bL8(hu:X.A.units+64 < cLine) (A:At1 X ρ q x i j a o) (cc:FoC X.K C) (he:JE X e f) (w:f ρ=some (.str k)) (hv:OP X C b ρ q v d) (hz:o.m.length < 1000) (hb:attributeBase (.Name x p) "sheets" X.env (eval (.Name x p) X.env)=eval (.Name x p) X.env:=by rfl)
  (hs:swapsWith v (some (.Subscript (.Attribute (.Name x p) "sheets" pos) e pos')) pos2.line X.env=pure false:=by rfl) :
  OS X C b ρ q (.Assign [.Subscript (.Attribute (.Name x p) "sheets" pos) e pos'] v pos2) (.nx ρ (q.set j (a,{ o with m:=aQ7 o.m k d }))) :=
 B5 (bs0 (by omega) (W9 A cc (.inl rfl) hb) (he ρ _ w) hv hs) fun En σ H ⟨Hf,st,kk⟩=>⟨Hf,st,fun u H1 Hf1 g1 r1=>⟨Hf1,st.grow g1,fun cl y f1 hl=>by
  cases hl
  refine⟨_,Hf1,g1.sub,(st.grow g1).sl,fun y H2 Hf2 g2 r2=>?_⟩
  cases r2
  have st2:=(st.grow g1).grow g2
  have f2:=f1.grow g2
  obtain⟨kvs,e1,r3⟩:=f2.dic
  have lz:kvs.length=o.m.length:=RepKs.length r3
  refine⟨cl.d,_,rfl,bm7.k (k:=Sum.inr k) e1 (by rw[lz];exact O9 (Nat.le_of_lt hz)),?_⟩
  obtain⟨c',f3,k3⟩:=st2.focus A.w A.o
  have:c'=cl:=FoAt.same f3 f2
  subst this
  exact kk σ _ Hf2 (k3 (Chg.wr g2.sub (by simp) (f2.fr _ (by simp))) (f2.wrD (r3.put (r1.mono g2.ext))) fun z hz=>.inl hz) (g1.ext.trans g2.ext)⟩⟩
theorem bL9(hu:X.A.units+64 < cLine) (A:At1 X ρ q x i j a o) (cc:FoC X.K C) (he:JE X e f) (w:f ρ=some (.str k)) (hl:(P3 o.m k).isSome=true) (m:M1 X (.Attribute (.Name x p) "sheets" pos) "pop" apos e cpos) (hb:attributeBase (.Name x p) "sheets" X.env (eval (.Name x p) X.env)=eval (.Name x p) X.env:=by rfl)
  (hs:swapsWith (.Call (.Attribute (.Attribute (.Name x p) "sheets" pos) "pop" apos) [e] [] cpos) none pos2.line X.env=pure false:=by rfl) :
  OS X C b ρ q (.Expr (.Call (.Attribute (.Attribute (.Name x p) "sheets" pos) "pop" apos) [e] [] cpos) pos2) (.nx ρ (q.set j (a,{ o with m:=ao8 o.m k }))) :=
 B5 (S3 (ba9 (W9 A cc (.inl rfl) hb) (he ρ _ w) m) hs) fun En σ H ⟨Hf,st,kk⟩=>⟨Hf,st,fun cl y f1 hl'=>by
  cases hl'
  obtain⟨k0,e0,_⟩:=f1.dic
  refine⟨cl.d,rfl,.inl ⟨k0,.inl e0⟩,_,Hf,st.same,st.sl,fun y H2 Hf2 g2 r2=>?_⟩
  cases r2
  have st2:=st.grow g2
  have f2:=f1.grow g2
  obtain⟨kvs,e1,r3⟩:=f2.dic
  rcases r3.look k with⟨l1,_⟩|⟨d,v,l1,l2,l3⟩
  ·rw[l1]at hl;cases hl
  refine⟨kvs,Sum.inr k,v,e1,rfl,l2,?_⟩
  obtain⟨c',f3,k3⟩:=st2.focus A.w A.o
  have:c'=cl:=FoAt.same f3 f2
  subst this
  exact kk σ _ Hf2 (k3 (Chg.wr g2.sub (by simp) (f2.fr _ (by simp))) (f2.wrD r3.drop) fun z hz=>.inl hz) g2.ext⟩
theorem bb6(A:At1 X ρ q x i j a o) (cc:FoC X.K C) (hv:OP X C b ρ q e d) (hz:o.b.length < 1000) (hb:attributeBase (.Name x p) "steps_back" X.env (eval (.Name x p) X.env)=eval (.Name x p) X.env:=by rfl)
  (hbase:attributeBase (.Attribute (.Name x p) "steps_back" pos) "append" X.env (eval (.Attribute (.Name x p) "steps_back" pos) X.env)=eval (.Attribute (.Name x p) "steps_back" pos) X.env:=by rfl)
  (hfew:((backTo cpos (starEach [e] X.env)).all (fun x=>!x.1)&&(backToKw cpos (keywordEach [] X.env)).all (fun x=>x.1.isSome)
   && decide (([e]:List Expr).length+([]:List Keyword).length+(if([]:List Keyword).isEmpty then 0 else 1) < 30))=true:=by rfl)
  (hline:(apos.endLine==cpos.line)=true:=by rfl) (hst:starEach [e] X.env=[(false,eval e X.env)]:=by rfl)
  (hs:swapsWith (.Call (.Attribute (.Attribute (.Name x p) "steps_back" pos) "append" apos) [e] [] cpos) none pos2.line X.env=pure false:=by rfl) :
  OS X C b ρ q (.Expr (.Call (.Attribute (.Attribute (.Name x p) "steps_back" pos) "append" apos) [e] [] cpos) pos2) (.nx ρ (q.set j (a,{ o with b:=o.b++[d] }))) :=
 B5 (S3 (ak1 PySem.F.plainAttrs_list PySem.F.slot_list_append PySem.F.type_list_append U9 (W9 A cc (.inr (.inl rfl)) hb) (B8 hv F6 hst) hbase hfew hline hst (by rfl)) hs) fun En σ H ⟨Hf,st,kk⟩=>⟨Hf,st,fun cl y f1 hl=>by
  cases hl
  obtain⟨vb,e0,_⟩:=f1.bk
  refine⟨.inl ⟨rfl,vb,SqL.of e0⟩,Hf,st,fun v H2 Hf2 g2 r2=>?_⟩
  have st2:=st.grow g2
  have f2:=f1.grow g2
  obtain⟨vs,e1,r3⟩:=f2.bk
  refine⟨cl.lb,vs,v,rfl,rfl,e1,by rw[r3.length];exact O9 (Nat.le_of_lt hz),?_⟩
  obtain⟨c',f3,k3⟩:=st2.focus A.w A.o
  have:c'=cl:=FoAt.same f3 f2
  subst this
  exact kk σ _ Hf2 (k3 (Chg.wr g2.sub (by simp) (f2.fr _ (by simp))) (f2.wrB (r3.append ⟨v,[],rfl,r2,rfl⟩)) fun z hz=>.inl hz) g2.ext⟩
theorem bM3(A:At1 X ρ q x i j a o) (cc:FoC X.K C) (hs:swapsWith (.List [] lp) (some (.Attribute (.Name x p) "steps_forth" pos')) pos.line X.env=pure false:=by rfl) :
  OS X C b ρ q (.Assign [.Attribute (.Name x p) "steps_forth" pos'] (.List [] lp) pos) (.nx ρ (q.set j (a,{ o with f:=[] }))) :=
 B5 (m9 (M4 A.n A.v A.d1 A.d2) (ak0 F6) hs) fun En σ H ⟨Hf,st,kk⟩=>⟨by show 0<=sizeLine;decide,fun l hl=>by
  have g:Grow H Hf (upd H l (.lst [])) Hf:=Grow.made st.same hl
  obtain⟨c',f0,k3⟩:=st.focus A.w A.o
  have f3:=f0.grow g
  obtain⟨k0,e1,r1⟩:=f3.dic
  obtain⟨vb,e2,r2⟩:=f3.bk
  have ne:∀y∈cells a c',l≠y:=fun y hy z=>f0.there y hy (by rw[← z];exact hl)
  refine⟨_,P9 st A.s,a,C,c'.dx,Y5 c',rfl,f3.ins,cc.cl,cc.n3,by show 3 < 1000;decide,?_⟩
  refine kk σ _ Hf (k3 (c':={ c' with lf:=l }) ((Chg.of g).trans (Chg.wr (S:=cells a c') g.sub (by simp) (f3.fr _ (by simp))) fun _ h=>.inl h) ?_ fun z hz=>?_) (B2.refl _)
  ·refine⟨by rw[A3];rfl,⟨k0,by rw[A4 (g7 e1 f3.ins (by intro z;cases z))];exact e1,r1⟩,⟨vb,by rw[A4 (g7 e2 f3.ins (by intro z;cases z))];exact e2,r2⟩,⟨[],by rw[A4 (ne a (by simp)),A3],rfl⟩,(ne c'.lb (by simp)).symm,fun z hz=>?_⟩
   simp only[List.mem_cons,List.not_mem_nil,or_false]at hz
   rcases hz with rfl|rfl|rfl|rfl
   ·exact f3.fr _ (by simp)
   ·exact f3.fr _ (by simp)
   ·exact f3.fr _ (by simp)
   ·exact st.same.free hl
  ·simp only[List.mem_cons,List.not_mem_nil,or_false]at hz
   rcases hz with rfl|rfl|rfl|rfl
   ·exact .inl (by simp)
   ·exact .inl (by simp)
   ·exact .inl (by simp)
   ·exact .inr hl⟩
end
end G
namespace G
open PySem PySem.Spec PyProof.Rows L2
abbrev av1:=List (Str×MF×Nat)
def KM(K:PySem.W.Frag) (C:Addr) (m qual:Str) (st:Stmt):Prop:=∃(f:Addr) (oc:Value) (od:Option Addr) (sl:Array (Option Value)) (kV dc pm:Value) (an:Option Addr) (cd ct:Value),
 PySem.W.findIn K (.ref C) m=some (some (.ref f))/\PySem.W.isFn K (.ref f)=true/\K.lookup f=some ⟨oc,od,.func (PySem.W.fnOf m qual (Q8 st) (A7 st) (B3 st) .none kV dc pm an cd ct),sl⟩/\PySem.W.codeIn K cd qual=true/\PySem.W.keepIn K (.ref f)=true
structure FitO (S:Sg) (ms:av1) (C:Addr) (c:Kx) (X:Cx):Prop where
 fit:Fit S c X
 foc:FoC X.K C
 mts:∀m F n,ms.lookup m=some (F,n)->m7 X C m n F
def OM(X:Cx) (C:Addr) (b:Bs) (ρ:Rho) (q:Os) (sts:List Stmt) (r:D) (q':Os):Prop:=OSs X C b ρ q sts (.rt r q')\/(r=.none/\∃ρ',OSs X C b ρ q sts (.nx ρ' q'))
def O2(n:Nat) (a:Addr) (ds:List D):Rho:=some (.opq a)::P6 n ds
theorem X7{K:PySem.W.Frag}{H0 H Hf:Hp}{x:Str}{N:List Str}{ds:List D}{vs:List V}(r:Reps K Hf ds vs):Slots K H0 (O2 N.length a ds) (L2.start (x::N) (.ref a::vs)) H Hf:=by
 have s:=d6 (H0:=H0) (H:=H) (N:=N) r
 have e:L2.start (x::N) (.ref a::vs)=some (.ref a)::L2.start N vs:=by unfold L2.start;simp
 rw[e]
 refine⟨by unfold O2;simp[s.len],fun i b h=>?_,fun i j d1 d2 a h1 h2 h3 h4=>?_⟩
 ·cases i with
  | zero=>cases h;exact⟨_,rfl,rfl⟩
  | succ i=>exact s.is i b h
 ·cases i with
  | zero=>cases h1
  | succ i=>cases j with
   | zero=>cases h2
   | succ j=>exact congrArg _ (s.apart i j d1 d2 a h1 h2 h3 h4)
section
variable {P:Program}{w:World}{K:PySem.W.Frag}{mg:Str->Option Value}{base:Heap}{cs:List (Str×D)}{bl:List Str}{C:Addr}{ms:av1}
def MOk(P:Program) (w:World) (K:PySem.W.Frag) (mg:Str->Option Value) (base:Heap) (C:Addr) (k:Nat) (ms:av1):Prop:=∀m F n,ms.lookup m=some (F,n)->∃(f:Addr) (fd:FuncData) (ps:List Str),
 FnOk P w K mg base CX0 k f fd ps (spM K C n F)/\Meth K C m f/\N7 K fd ps []
theorem MOk.nil:MOk P w K mg base C 0 []:=fun x F n h=>by cases h
theorem MOk.mono(T:MOk P w K mg base C j ms) (h:j<=k):MOk P w K mg base C k ms:=fun x F n e=>by
 obtain⟨f,fd,ps,h1,h2⟩:=T x F n e
 exact⟨f,fd,ps,h1.mono h,h2⟩
theorem MOk.cons(T:MOk P w K mg base C k ms) (h:∃(f:Addr) (fd:FuncData) (ps:List Str),FnOk P w K mg base CX0 k f fd ps (spM K C n F)/\Meth K C m f/\N7 K fd ps []):MOk P w K mg base C k ((m,F,n)::ms):=fun y G j e=>by
 rw[List.lookup_cons]at e
 split at e
 ·rename_i q
  cases e
  simp only[beq_iff_eq]at q
  subst q
  exact h
 ·exact T y G j e
def BdM(d:Fd) (qual:Str):Prop:=∀(kV doc pm:Value) (an:Option Addr) (cdv ct:Value),UA d.ps.length fun us=>bindArgs (PySem.W.fnOf d.x qual (Q8 d.st) (A7 d.st) (B3 d.st) .none kV doc pm an cdv ct) ⟨us,[]⟩=pure (d.ps.zip us)
theorem cd4(M:Md K mg cs bl) (T:TOk P w K mg base k tab) (Mk:MOk P w K mg base C k ms) (Fc:FoC K C) (d:Fd) (hN:d.N=s0::N) (hp:d.ps.length=n+1) (ok:d.okB=true) (Fn:Fun K d.x qual d.st f fd)
  (js:∀X:Cx,FitO ⟨tab,cs,bl⟩ ms C d.c X->∀b a o ds r o',ds.length=n->F o ds=some (r,o')->OM X C b (O2 N.length a ds) [(a,o)] (A7 d.st) r [(a,o')]):FnOk P w K mg base CX0 (k+1) f fd d.ps (spM K C n F):=by
 have Sc:=Fd.sc ok
 refine Fn.ok Sc (fun vs H Q E h=>?_) fun cdv A outer s H vs Q E hr hsp=>?_
 ·obtain⟨a,us,Hf,c,o,ds,r,o',rfl,h2,_⟩:=h
  simp[h2,hp]
 obtain⟨a,us,Hf,c,o,ds,r,o',rfl,h2,ss,fo,rp,e,kk⟩:=hsp
 have X0:FitO ⟨tab,cs,bl⟩ ms C d.c (t9 CX0 P w K mg base d.N qual (B3 d.st) f cdv A outer s H E).nox:=by
  refine⟨⟨rfl,rfl,Sc.nd,rfl,rfl,hr.units,fun _=>⟨fun _=>rfl,Sc.kind⟩,fun x F n h=>?_,M.css,M.bls⟩,Fc,fun m F n h=>?_⟩
  ·exact(T x F n h).imp (fun⟨f',fd',ps,h1,h2,h3,h4⟩=>⟨k,f',fd',ps,h1,hr,h2,h3,h4⟩) id
  ·obtain⟨f',fd',ps,h1,h2,h3⟩:=Mk m F n h
   exact⟨k,f',fd',ps,h1,hr,h2,h3⟩
 have hl:ds.length=n:=by rw[← h2,rp.length]
 have st:OSt K C ⟨cells a c,H,Hf⟩ (O2 N.length a ds) [(a,o)] (start d.N (.ref a::us)) H Hf:=⟨Chg.of (Grow.refl ss),cells a c++[],.cons fo (by simp) .nil,fun x hx=>.inl (by simpa using hx),by rw[hN];exact X7 rp⟩
 have fin:∀ρ' σ' v H' Hf',OSt K C ⟨cells a c,H,Hf⟩ ρ' [(a,o')] σ' H' Hf'->Rep K Hf' r v->Q v H':=fun ρ' σ' v H' Hf' s' rv=>by
  obtain⟨R,ob,hR,_⟩:=s'.ob
  cases ob with
  | @cons _ c' _ _ R0 fo' _ _=>exact kk v H' Hf' c' s'.gr fo' (fun x hx=>hR x (List.mem_append_left _ hx)) rv
 rcases js _ X0 ⟨cells a c,H,Hf⟩ a o ds r o' hl e with j|⟨rfl,ρ',j⟩
 ·exact⟨_,j,Hf,st,fin⟩
 ·exact⟨_,j,Hf,st,fun σ' H' Hf' s' _=>fin _ _ _ _ _ s' rfl⟩
theorem MOk.add(Mk:MOk P w K mg base C k ms) (M:Md K mg cs bl) (T:TOk P w K mg base k tab) (Fc:FoC K C) (d:Fd) (h:KM K C d.x qual d.st) (F:MF) (n:Nat) (s0:Str) (N:List Str)
  (js:∀X:Cx,FitO ⟨tab,cs,bl⟩ ms C d.c X->∀b a o ds r o',ds.length=n->F o ds=some (r,o')->OM X C b (O2 N.length a ds) [(a,o)] (A7 d.st) r [(a,o')])
  (hN:d.N=s0::N:=by rfl) (hp:d.ps.length=n+1:=by rfl) (ok:d.okB=true:=by kernel_rfl) (bd:BdM d qual:=by repeat (first|exact rfl|intro _)):MOk P w K mg base C (k+1) ((d.x,F,n)::ms):=by
 obtain⟨f,oc,od,sl,kV,dc,pm,an,cd,ct,a,i,l,cc,kk⟩:=h
 have Fn:=al3 l cc kk
 exact(Mk.mono (Nat.le_succ k)).cons ⟨f,_,d.ps,cd4 M T Mk Fc d hN hp ok Fn js,⟨a,i,kk⟩,.all (ua (bd kV dc pm an cd ct))⟩
end
def o8:MF:=fun o ds=>match ds with
 | [.str k,d]=>(isN d .none).bind fun t=>match t with
  | .bool true=>if(P3 o.m k).isSome then some (.none,{ o with m:=ao8 o.m k }) else none
  | _=>if o.m.length < 1000 then some (.none,{ o with m:=aQ7 o.m k d }) else none
 | _=>none
def W2:MF:=fun o ds=>match ds with
 | [w,.str k,d]=>if o.b.length < 1000 then o8 { o with b:=o.b++[.tuple [w,.str k,(P3 o.m k).getD .none,d]],f:=[] } [.str k,d] else none
 | _=>none
def aE9:MF:=fun o ds=>match ds with
 | [.str k,d]=>(W2 o [.str "lay", .str k,d]).map fun r=>(.bool (P3 o.m k).isSome,r.2)
 | _=>none
def K3:MF:=fun o ds=>match ds with
 | [.str k]=>(P3 o.m k).map fun d=>(d,o)
 | _=>none
def ay5:MF:=fun o ds=>match ds with
 | [.str k]=>(P3 o.m k).bind fun d=>(W2 o [.str "take", .str k,.none]).map fun r=>(d,r.2)
 | _=>none
def o9(F1 F2:FnD):MF:=fun o ds=>match ds with
 | [m,.str k,.str j]=>(P3 o.m k).bind fun u=>(P3 o.m j).bind fun l=>(F1 [u,l]).bind fun t=>match t with
  | .bool true=>(F2 [m,u,l]).bind fun s=>(W2 o [.str "blend", .str j,s]).map fun r=>(s,r.2)
  | _=>none
 | _=>none
end G
namespace G
open PySem PySem.Spec PyProof.Rows L2
def Y8(c:Kx):Bool:=c.N.all fun x=>l4 c.sc x&&match c.sc.names.lookup x with|some .local=>true|_=>false
section
variable {X:Cx}{S:Sg}{ms:av1}{C:Addr}{c:Kx}{b:Bs}{a:Addr}{o o':Fo}{ds:List D}{r:D}{ρ:Rho}{q q':Os}
theorem FitO.nm{i:Nat}{x:Str}(F:FitO S ms C c X) (hl:Y8 c=true) (h:c.N[i]? = some x):X.N[i]? = some x/\Vis X.env.scope x/\(x==("__debug__" : Str))=false/\(x==("__classdict__" : Str))=false/\Loc X.env.scope x:=by
 have:=List.all_eq_true.mp hl x (List.mem_of_getElem? h)
 simp only[Bool.and_eq_true]at this
 obtain⟨h1,h2,h3⟩:=P0 F.fit this.1
 refine⟨by rw[F.fit.N];exact h,h1,h2,h3,?_⟩
 have h4:=this.2
 split at h4
 ·rename_i e;rw[← F.fit.sc]at e;exact .inl e
 ·cases h4
theorem FitO.var(F:FitO S ms C c X) (hl:Y8 c=true) (i:Nat) (h:c.N[i]? = some x):JE X (.Name x pos) (A2 i):=by
 obtain⟨h1,h2,h3,h4,_⟩:=F.nm hl h
 exact aF3 i h1 h2 h3 h4
theorem FitO.slf(F:FitO S ms C c X) (hl:Y8 c=true) (h:c.N[0]? = some x) (s:ρ[0]? = some (some (.opq a))) (w:Z8 ρ=true):At1 X ρ [(a,o)] x 0 0 a o:=by
 obtain⟨h1,h2,h3,h4,_⟩:=F.nm hl h
 exact⟨h1,h2,h3,h4,s,rfl,w⟩
theorem bb5(h:JE X e f) (w:f ρ=some d) (n:isN d .none=some (.bool t)):OT X C b ρ q (.Compare e [.Is] [.Constant .none j p] pos) t q:=ar9 bc7 (S4 h w) (S4 aF4 rfl) n
theorem aY0(F:FitO S ms C c X) (hN:c.N=[("self" : Str), "name", "sheet"]) (hl:Y8 c=true) (h1:(p9.endLine==p11.line)=true) (e:o8 o ds=some (r,o')) :
  OM X C b (O2 2 a ds) [(a,o)] [.If (.Compare (.Name "sheet" p1) [.Is] [.Constant .none p2 p3] p4)
   [.Expr (.Call (.Attribute (.Attribute (.Name "self" p6) "sheets" p7) "pop" p9) [.Name "name" p10] [] p11) p12]
   [.Assign [.Subscript (.Attribute (.Name "self" p13) "sheets" p14) (.Name "name" p15) p16] (.Name "sheet" p17) p18] p19] r [(a,o')]:=by
 unfold o8 at e
 split at e
 ·rename_i ds k d
  obtain⟨t,e1,e2⟩:=Option.bind_eq_some_iff.mp e
  have A:At1 X (O2 2 a [.str k,d]) [(a,o)] "self" 0 0 a o:=F.slf hl (by rw[hN];rfl) rfl rfl
  have v1:∀{pos},JE X (.Name "name" pos) (A2 1):=fun{pos}=>F.var hl 1 (by rw[hN];rfl)
  have v2:∀{pos},JE X (.Name "sheet" pos) (A2 2):=fun{pos}=>F.var hl 2 (by rw[hN];rfl)
  have hu:=F.fit.units
  right
  cases t with
  | bool t =>
   cases t with
   | true =>
    dsimp only at e2
    split at e2
    ·rename_i hk
     cases e2
     exact⟨rfl,_,aa1 (ao1 (bb5 v2 rfl e1) (fun _=>aa1 (bL9 hu A F.foc v1 rfl hk ⟨rfl,rfl,h1,rfl⟩)) fun z=>by cases z)⟩
    ·cases e2
   | false =>
    dsimp only at e2
    split at e2
    ·rename_i hk
     cases e2
     exact⟨rfl,_,aa1 (ao1 (bb5 v2 rfl e1) (fun z=>by cases z) fun _=>aa1 (bL8 hu A F.foc v1 rfl (j9 v2 rfl) hk))⟩
    ·cases e2
  | _=>cases d<;>cases e1
 ·cases e
theorem FitO.call{e:Expr}{es:List Expr}(F:FitO S ms C c X) (h:S.fn.lookup x=some (Fx,n)) (hg:ag2 c.sc x=true) (ha:JA X (e::es) g) (hn:(e::es).length=n:=by rfl)
  (he:starEach (e::es) X.env=(false,eval e X.env)::starEach es X.env:=by rfl) (hpl:(backTo pos (starEach es X.env)).any (·.1)=false:=by rfl):JE X (.Call (.Name x p) (e::es) [] pos) (B0 Fx g):=by
 obtain⟨g1,g2⟩:=Y4 F.fit hg
 rcases F.fit.fns _ _ _ h with⟨k,f,fd,ps,hk,hr,hm,hkp,hb⟩|⟨hm,hb⟩
 ·exact aM7 hk hr g1 hm hkp hb ha hn g2 he hpl
 ·exact bD6 hb F.fit.units g1 hm ha hn g2 he hpl
theorem FitO.set(F:FitO S ms C c X) (hd:c.df=true) (hl:Y8 c=true) (i:Nat) (h:c.N[i]? = some x) (he:OE X C b ρ q e d q') (hs:swapsWith e (some (.Name x pos')) pos.line X.env=pure false:=by rfl):OS X C b ρ q (.Assign [.Name x pos'] e pos) (.nx (ρ.set i (‹d›)) q'):=by
 obtain⟨h1,h2,h3,h4,h5⟩:=F.nm hl h
 exact bL7 i (by rw[F.fit.N];exact F.fit.nd) he h1 h5 hs ((F.fit.df hd).1 _)
theorem aQ1(F:FitO S ms C c X) (hN:c.N=[("self" : Str), "word", "name", "sheet"]) (hl:Y8 c=true) (hm:ms.lookup ("set_sheet" : Str)=some (o8,2)) (h1:(p3.endLine==p14.line)=true) (h2:(p8.endLine==p10.line)=true) (h3:(p22.endLine==p25.line)=true) (e:W2 o ds=some (r,o')) :
  OM X C b (O2 3 a ds) [(a,o)] [.Expr (.Call (.Attribute (.Attribute (.Name "self" p1) "steps_back" p2) "append" p3) [.Tuple [.Name "word" p4,.Name "name" p5,.Call (.Attribute (.Attribute (.Name "self" p6) "sheets" p7) "get" p8) [.Name "name" p9] [] p10,.Name "sheet" p11] p12 p13] [] p14) p15,
   .Assign [.Attribute (.Name "self" p16) "steps_forth" p17] (.List [] p18) p20,
   .Expr (.Call (.Attribute (.Name "self" p21) "set_sheet" p22) [.Name "name" p23,.Name "sheet" p24] [] p25) p26] r [(a,o')]:=by
 unfold W2 at e
 split at e
 ·rename_i ds w k d
  split at e
  ·rename_i hb
   have A:∀{o1:Fo},At1 X (O2 3 a [w,.str k,d]) [(a,o1)] "self" 0 0 a o1:=fun{o1}=>F.slf hl (by rw[hN];rfl) rfl rfl
   have v1:∀{pos},JE X (.Name "word" pos) (A2 1):=fun{pos}=>F.var hl 1 (by rw[hN];rfl)
   have v2:∀{pos},JE X (.Name "name" pos) (A2 2):=fun{pos}=>F.var hl 2 (by rw[hN];rfl)
   have v3:∀{pos},JE X (.Name "sheet" pos) (A2 3):=fun{pos}=>F.var hl 3 (by rw[hN];rfl)
   have r0:r=.none:=by
    unfold o8 at e
    dsimp only at e
    obtain⟨t,e1,e2⟩:=Option.bind_eq_some_iff.mp e
    split at e2<;>(split at e2<;>cases e2;rfl)
   refine .inr ⟨r0,_,F7 (bb6 A F.foc (bb7 (X1 (j9 v1 rfl) (X1 (j9 v2 rfl) (X1 (bM7 F.fit.units A F.foc v2 rfl ⟨rfl,rfl,h2,rfl⟩) (X1 (j9 v3 rfl) aL0)))) (by show 4<=1000;decide)) hb (hline:=h1)) (F7 (bM3 A F.foc) (aa1 (j8 (U2 (F.mts _ _ _ hm) F.foc A (by decide) (E2 v2 (E2 v3 R8)) rfl e) rfl)))⟩
  ·cases e
 ·cases e
theorem be6(F:FitO S ms C c X) (hN:c.N=[("self" : Str), "name", "sheet", "was_there"]) (hd:c.df=true) (hl:Y8 c=true) (hm:ms.lookup ("take_step" : Str)=some (W2,3)) (h3:(p22.endLine==p25.line)=true) (e:aE9 o ds=some (r,o')) :
  OM X C b (O2 3 a ds) [(a,o)] [.Assign [.Name "was_there" p1] (.Compare (.Name "name" p2) [.In] [.Attribute (.Name "self" p3) "sheets" p4] p5) p6,
   .Expr (.Call (.Attribute (.Name "self" p21) "take_step" p22) [.Constant (.str "lay") p7 p8,.Name "name" p23,.Name "sheet" p24] [] p25) p26,.Return (some (.Name "was_there" p9)) p10] r [(a,o')]:=by
 unfold aE9 at e
 split at e
 ·rename_i ds k d
  obtain⟨⟨r1,o1⟩,e1,e2⟩:=Option.map_eq_some_iff.mp e
  cases e2
  have A:∀{ρ:Rho},Z8 ρ=true->ρ[0]? = some (some (.opq a))->At1 X ρ [(a,o)] "self" 0 0 a o:=fun{ρ} z1 z2=>F.slf hl (by rw[hN];rfl) z2 z1
  have v1:∀{pos},JE X (.Name "name" pos) (A2 1):=fun{pos}=>F.var hl 1 (by rw[hN];rfl)
  have v2:∀{pos},JE X (.Name "sheet" pos) (A2 2):=fun{pos}=>F.var hl 2 (by rw[hN];rfl)
  have v3:∀{pos},JE X (.Name "was_there" pos) (A2 3):=fun{pos}=>F.var hl 3 (by rw[hN];rfl)
  exact .inl (F7 (F.set hd hl 3 (by rw[hN];rfl) (cc9 F.fit.units (A rfl rfl) F.foc v1 rfl).oe) (F7 (j8 (U2 (F.mts _ _ _ hm) F.foc (A rfl rfl) (by decide) (E2 at0 (E2 v1 (E2 v2 R8))) rfl e1) rfl) (n8 (n9 (S4 v3 rfl)))))
 ·cases e
theorem aG0{rs:List Stmt}(F:FitO S ms C c X) (hN:c.N=[("self" : Str), "name"]) (hl:Y8 c=true) (e:K3 o ds=some (r,o')) :
  OM X C b (O2 1 a ds) [(a,o)] [.If (.Compare (.Name "name" p1) [.NotIn] [.Attribute (.Name "self" p2) "sheets" p3] p4) rs [] p5,.Return (some (.Subscript (.Attribute (.Name "self" p6) "sheets" p7) (.Name "name" p8) p9)) p10] r [(a,o')]:=by
 unfold K3 at e
 split at e
 ·rename_i ds k
  obtain⟨d,e1,e2⟩:=Option.map_eq_some_iff.mp e
  cases e2
  have A:At1 X (O2 1 a [.str k]) [(a,o)] "self" 0 0 a o:=F.slf hl (by rw[hN];rfl) rfl rfl
  have v1:∀{pos},JE X (.Name "name" pos) (A2 1):=fun{pos}=>F.var hl 1 (by rw[hN];rfl)
  exact .inl (F7 (ao1 (bb4 F.fit.units A F.foc v1 rfl) (fun z=>by rw[e1]at z;cases z) fun _=>ag9) (n8 (n9 (bu1 F.fit.units A F.foc v1 rfl e1 fun _ _=>rfl).oe)))
 ·cases e
theorem bc3(F:FitO S ms C c X) (hN:c.N=[("self" : Str), "name", "sheet"]) (hd:c.df=true) (hl:Y8 c=true) (hm:ms.lookup ("take_step" : Str)=some (W2,3)) (hf:ms.lookup ("fetch" : Str)=some (K3,1)) (h3:(p22.endLine==p25.line)=true) (h4:(p3.endLine==p5.line)=true) (e:ay5 o ds=some (r,o')) :
  OM X C b (O2 2 a ds) [(a,o)] [.Assign [.Name "sheet" p1] (.Call (.Attribute (.Name "self" p2) "fetch" p3) [.Name "name" p4] [] p5) p6,
   .Expr (.Call (.Attribute (.Name "self" p21) "take_step" p22) [.Constant (.str "take") p7 p8,.Name "name" p23,.Constant .none p24 p27] [] p25) p26,.Return (some (.Name "sheet" p9)) p10] r [(a,o')]:=by
 unfold ay5 at e
 split at e
 ·rename_i ds k
  obtain⟨d,e0,e⟩:=Option.bind_eq_some_iff.mp e
  obtain⟨⟨r1,o1⟩,e1,e2⟩:=Option.map_eq_some_iff.mp e
  cases e2
  have A:∀{ρ:Rho},Z8 ρ=true->ρ[0]? = some (some (.opq a))->At1 X ρ [(a,o)] "self" 0 0 a o:=fun{ρ} z1 z2=>F.slf hl (by rw[hN];rfl) z2 z1
  have v1:∀{pos},JE X (.Name "name" pos) (A2 1):=fun{pos}=>F.var hl 1 (by rw[hN];rfl)
  have v2:∀{pos},JE X (.Name "sheet" pos) (A2 2):=fun{pos}=>F.var hl 2 (by rw[hN];rfl)
  have f1:K3 o [.str k]=some (r,o):=by unfold K3;simp only[e0,xms]
  exact .inl (F7 (F.set hd hl 2 (by rw[hN];rfl) (U2 (F.mts _ _ _ hf) F.foc (A rfl rfl) (by decide) (E2 v1 R8) rfl f1)) (F7 (j8 (U2 (F.mts _ _ _ hm) F.foc (A rfl rfl) (by decide) (E2 at0 (E2 v1 (E2 aF4 R8))) rfl e1) rfl) (n8 (n9 (S4 v2 rfl)))))
 ·cases e
theorem aG8{rs:List Stmt}{F1 F2:FnD}(F:FitO S ms C c X) (hN:c.N=[("self" : Str), "manner", "above", "below", "upper", "lower", "sheet"]) (hd:c.df=true) (hl:Y8 c=true) (hm:ms.lookup ("take_step" : Str)=some (W2,3)) (hf:ms.lookup ("fetch" : Str)=some (K3,1))
  (h1:S.fn.lookup ("are_of_one_size" : Str)=some (F1,2)) (g1:ag2 c.sc "are_of_one_size" = true) (h2:S.fn.lookup ("blended_sheets" : Str)=some (F2,3)) (g2:ag2 c.sc "blended_sheets" = true) (h3:(p22.endLine==p25.line)=true) (h4:(p3.endLine==p5.line)=true) (h5:(q3.endLine==q5.line)=true) (e:o9 F1 F2 o ds=some (r,o')) :
  OM X C b (O2 6 a ds) [(a,o)] [.Assign [.Name "upper" p1] (.Call (.Attribute (.Name "self" p2) "fetch" p3) [.Name "above" p4] [] p5) p6,.Assign [.Name "lower" q1] (.Call (.Attribute (.Name "self" q2) "fetch" q3) [.Name "below" q4] [] q5) q6,
   .If (.UnaryOp .Not (.Call (.Name "are_of_one_size" r1) [.Name "upper" r2,.Name "lower" r3] [] r4) r5) rs [] r6,
   .Assign [.Name "sheet" s1] (.Call (.Name "blended_sheets" s2) [.Name "manner" s3,.Name "upper" s4,.Name "lower" s5] [] s6) s7,
   .Expr (.Call (.Attribute (.Name "self" p21) "take_step" p22) [.Constant (.str "blend") p7 p8,.Name "below" p23,.Name "sheet" p24] [] p25) p26,.Return (some (.Name "sheet" p9)) p10] r [(a,o')]:=by
 unfold o9 at e
 split at e
 ·rename_i ds m k j
  obtain⟨u,e0,e⟩:=Option.bind_eq_some_iff.mp e
  obtain⟨l,e1,e⟩:=Option.bind_eq_some_iff.mp e
  obtain⟨t,e2,e⟩:=Option.bind_eq_some_iff.mp e
  split at e
  ·obtain⟨s,e3,e⟩:=Option.bind_eq_some_iff.mp e
   obtain⟨⟨r1,o1⟩,e4,e5⟩:=Option.map_eq_some_iff.mp e
   cases e5
   have A:∀{ρ:Rho},Z8 ρ=true->ρ[0]? = some (some (.opq a))->At1 X ρ [(a,o)] "self" 0 0 a o:=fun{ρ} z1 z2=>F.slf hl (by rw[hN];rfl) z2 z1
   have v1:∀{pos},JE X (.Name "manner" pos) (A2 1):=fun{pos}=>F.var hl 1 (by rw[hN];rfl)
   have v2:∀{pos},JE X (.Name "above" pos) (A2 2):=fun{pos}=>F.var hl 2 (by rw[hN];rfl)
   have v3:∀{pos},JE X (.Name "below" pos) (A2 3):=fun{pos}=>F.var hl 3 (by rw[hN];rfl)
   have v4:∀{pos},JE X (.Name "upper" pos) (A2 4):=fun{pos}=>F.var hl 4 (by rw[hN];rfl)
   have v5:∀{pos},JE X (.Name "lower" pos) (A2 5):=fun{pos}=>F.var hl 5 (by rw[hN];rfl)
   have v6:∀{pos},JE X (.Name "sheet" pos) (A2 6):=fun{pos}=>F.var hl 6 (by rw[hN];rfl)
   have f1:K3 o [.str k]=some (u,o):=by unfold K3;simp only[e0,xms]
   have f2:K3 o [.str j]=some (l,o):=by unfold K3;simp only[e1,xms]
   refine .inl (F7 (F.set hd hl 4 (by rw[hN];rfl) (U2 (F.mts _ _ _ hf) F.foc (A rfl rfl) (by decide) (E2 v2 R8) rfl f1)) (F7 (F.set hd hl 5 (by rw[hN];rfl) (U2 (F.mts _ _ _ hf) F.foc (A rfl rfl) (by decide) (E2 v3 R8) rfl f2))
    (F7 (ao1 (c:=false) (bt3 (bf3 (bf1 (F.call h1 g1 (E2 v4 (E2 v5 R8))))) ?_) (fun z=>by cases z) fun _=>ag9) (F7 (F.set hd hl 6 (by rw[hN];rfl) (S4 (F.call h2 g2 (E2 v1 (E2 v4 (E2 v5 R8)))) e3))
     (F7 (j8 (U2 (F.mts _ _ _ hm) F.foc (A rfl rfl) (by decide) (E2 at0 (E2 v3 (E2 v6 R8))) rfl e4) rfl) (n8 (n9 (S4 v6 rfl))))))))
   show Option.map _ (((F1 [u,l])).bind aP6)=_
   rw[e2];rfl
  ·cases e
 ·cases e
end
end G
namespace G
open PySem PySem.Spec PySem.W PyProof.Rows L2
def evT(lt:Nat->Nat->Bool) {α:Type}:KasT α->α
 | .ret a=>a
 | .ask i j k=>evT lt (k (lt i j))
section
variable {lt:Nat->Nat->Bool}
theorem d7(p:Array Nat) (s e:Nat):(kas_rev p s e).Perm p:=mirror_perm ..
end
end G
namespace G
open PySem PySem.Spec PySem.W PyProof.Rows L2 PySem.SeqAt
def Ask(n:Nat) {α:Type}(P:α->Prop):KasT α->Prop
 | .ret a=>P a
 | .ask i j k=>i < n/\j < n/\∀b,Ask n P (k b)
theorem Ask.bind{n:Nat}{α β:Type}{P:α->Prop}{P':β->Prop}{f:α->KasT β}(hf:∀a,P a->Ask n P' (f a)):∀{t:KasT α},Ask n P t->Ask n P' (t.bind f)
 | .ret a,h=>hf a h
 | .ask i j k,h=>⟨h.1,h.2.1,fun b=>Ask.bind hf (h.2.2 b)⟩
theorem Ask.ite{n:Nat}{α:Type}{P:α->Prop}{c:Prop} [Decidable c] {s t:KasT α}(h1:Ask n P s) (h2:Ask n P t):Ask n P (if c then s else t):=by split<;>assumption
def LoP(n:Nat) (p:Array Nat):Prop:=p.size=n/\∀x∈p,x < n
section
variable {n:Nat}(hn:0 < n)
include hn
theorem LoP.get{p:Array Nat}(h:LoP n p) (k:Nat):p.getD k 0 < n:=by
 rw[Array.getD_eq_getD_getElem?]
 rcases Nat.lt_or_ge k p.size with q|q
 ·rw[Array.getElem?_eq_getElem q];exact h.2 _ (Array.getElem_mem q)
 ·rw[Array.getElem?_eq_none q];exact hn
omit hn in
theorem LoP.perm{p q:Array Nat}(h:LoP n p) (e:q.Perm p):LoP n q:=⟨e.size_eq.trans h.1,fun x hx=>h.2 x (e.mem_iff.mp hx)⟩
theorem aH1{p:Array Nat}(h:LoP n p):∀(f m:Nat),Ask n (fun _=>True) (kas_asc p f m)
 | 0,_=>trivial
 | f+1,m=>⟨h.get hn _,h.get hn _,fun b=>.ite (c:=b=true) trivial (aH1 h f (m+1))⟩
theorem ah8:∀(f:Nat) (p:Array Nat) (m q:Nat),LoP n p->Ask n (fun r:Array Nat×Nat×Nat=>LoP n r.1) (kas_desc f p m q)
 | 0,_,_,_,h=>h
 | f+1,p,m,q,h=>⟨h.get hn _,h.get hn _,fun b=>.ite (c:=b=true) (.ite (ah8 f _ _ _ (h.perm (d7 ..))) (ah8 f _ _ _ h)) ⟨h.get hn _,h.get hn _,fun d=>.ite (c:=d=true) h (ah8 f _ _ _ h)⟩⟩
theorem av8{p:Array Nat}(m r:Nat) (h:LoP n p):Ask n (fun r:Nat×Array Nat=>LoP n r.2) (kas_tail3 m r p):=by
 unfold kas_tail3
 refine Ask.bind (P:=fun _=>True) (fun m _=>?_) (aH1 hn (h.perm (d7 ..)) _ _)
 exact h.perm (d7 ..)
theorem af6{p:Array Nat}(m r:Nat) (h:LoP n p):Ask n (fun r:Nat×Array Nat=>LoP n r.2) (kas_descPart m r p):=by
 unfold kas_descPart
 exact Ask.bind (fun x hx=>Ask.ite (av8 hn _ _ (LoP.perm hx (d7 ..))) (av8 hn _ _ hx)) (ah8 hn _ _ _ _ h)
theorem bl0{p:Array Nat}(r:Nat) (h:LoP n p):Ask n (fun r:Nat×Array Nat=>LoP n r.2) (kas_count r p):=by
 unfold kas_count
 refine Ask.bind (fun m _=>?_) (aH1 hn h _ _)
 refine Ask.ite h (Ask.ite ⟨h.get hn _,h.get hn _,fun b=>?_⟩ (af6 hn _ _ h))
 exact Ask.ite (c:=b=true) h (af6 hn _ _ (h.perm (d7 ..)))
theorem aj6{p:Array Nat}(h:LoP n p) (k:Nat):∀(f l r:Nat),Ask n (fun _=>True) (kas_place p k f l r)
 | 0,_,_=>trivial
 | f+1,l,r=>.ite (c:=l ≥ r) trivial ⟨h.get hn _,h.get hn _,fun b=>.ite (c:=b=true) (aj6 h k f _ _) (aj6 h k f _ _)⟩
theorem bm3:∀(f:Nat) (p:Array Nat) (k:Nat),LoP n p->Ask n (LoP n) (kas_bin f p k)
 | 0,_,_,h=>h
 | f+1,p,k,h=>by
  unfold kas_bin
  exact Ask.bind (fun l _=>bm3 f _ _ (h.perm (bubble_perm ..))) (aj6 hn h k _ _ _)
theorem bq2:Ask n (LoP n) (kas_sort n):=by
 unfold kas_sort
 refine Ask.bind (fun r hr=>?_) (bl0 hn n (show LoP n (List.toArray (List.range n)) from⟨by simp,fun x hx=>by simpa using hx⟩))
 exact Ask.ite (bm3 hn _ _ _ hr) hr
end
theorem aO5{n:Nat}{α:Type}{P:α->Prop}{cmp:Nat->Nat->(Bool->Shared->Prop)->Shared->Prop}{lt:Nat->Nat->Bool}{Q:α->Shared->Prop}{s:Shared}(hc:∀i j C,i < n->j < n->C (lt i j) s->cmp i j C s):∀{t:KasT α},Ask n P t->(P (evT lt t)->Q (evT lt t) s)->t.kasWp cmp Q s
 | .ret a,h,q=>q h
 | .ask i j k,h,q=>hc i j _ h.1 h.2.1 (aO5 hc (h.2.2 _) q)
section
variable {prog:Program}{w:World}{A:Around}{E:Value->Shared->Prop}{s:Shared}
theorem be3{a:Addr}{vs out:List Value}{n:Nat}{P:PySem.Fin->Shared->Prop}(ho:s.heap.get? a=some (seqObj "list" vs.toArray n)) (h64:vs.length < 64) (h1:vs.length < 2->out=vs)
  (hk:2<=vs.length->∀h':Heap,(∀b o,b≠a->s.heap.get? b=some o->h'.get? b=some o) ->
   wpAny (model prog w) A (keyKind' vs.toArray) (fun κ s'=>(kas_sort vs.length).kasWp (kas_ask prog w A κ vs) (fun p s''=>s''={ s with heap:=h' }/\(p.toList.map fun i=>vs.getD i Value.none)=out) s') (fun _ _=>False) { s with heap:=h' })
  (h:∀h' c,(∀b o,b≠a->s.heap.get? b=some o->h'.get? b=some o)->h'.get? a=some (seqObj "list" out.toArray c)->P (.done (.ret .none)) { s with heap:=h' }) :
  wpAny (model prog w) A (Builtin.«list.sort» ⟨[.ref a],[]⟩) P E s:=by
 have ha:a < s.heap.objs.size:=Heap.lt_size ho
 have hsz:vs.toArray.size=vs.length:=by simp
 obtain⟨e1,ho1⟩:∃e1,(s.heap.update a (Obj.mapSeq fun _=>(#[]:Array Value))).get? a=some (seqObj "list" #[] e1):=⟨_,get?_update_seq ho fun _=>#[]⟩
 have s1:=Heap.SameBut.update s.heap a (Obj.mapSeq fun _=>(#[]:Array Value))
 rw[list_sort_plain]
 refine wpAny_bind (listItems_at ho rfl ?_)
 refine wpAny_bind (listUpdate_at ho rfl ?_ (by rw[List.size_toArray,sizeLine_eq];omega) (Nat.zero_le _))
 refine wpAny_bind (seqEpoch_at ho1 rfl ?_)
 refine wpAny_bind (wpAny_newTuple ?_ (by show vs.length<=_;rw[sizeLine_eq];omega))
 refine wpAny_bind (wpAny_newList ?_ (Nat.zero_le _))
 refine wpAny_holding ?_
 have keep:∀b o,b≠a->s.heap.get? b=some o->(((s.heap.update a (Obj.mapSeq fun _=>(#[]:Array Value))).push (seqObj "tuple" vs.toArray 0)).push (seqObj "list" #[] 0)).get? b=some o:=fun b o hb q =>
  Heap.get?_push_of_some _ (Heap.get?_push_of_some _ (s1.extBut b o hb q))
 have ho3:(((s.heap.update a (Obj.mapSeq fun _=>(#[]:Array Value))).push (seqObj "tuple" vs.toArray 0)).push (seqObj "list" #[] 0)).get? a=some (seqObj "list" #[] e1):=Heap.get?_push_of_some _ (Heap.get?_push_of_some _ ho1)
 show wpAny _ _ _ _ _ { s with heap:=((s.heap.update a (Obj.mapSeq fun _=>(#[]:Array Value))).push (seqObj "tuple" vs.toArray 0)).push (seqObj "list" #[] 0) }
 generalize ((s.heap.update a (Obj.mapSeq fun _=>(#[]:Array Value))).push (seqObj "tuple" vs.toArray 0)).push (seqObj "list" #[] 0)=h3 at keep ho3
 have fin:∃c,(h3.update a (Obj.mapSeq fun _=>out.toArray)).get? a=some (seqObj "list" out.toArray c):=⟨_,get?_update_seq ho3 fun _=>out.toArray⟩
 obtain⟨c,hc⟩:=fin
 have keep':∀b o,b≠a->s.heap.get? b=some o->(h3.update a (Obj.mapSeq fun _=>out.toArray)).get? b=some o:=fun b o hb q=>(Heap.SameBut.update h3 a _).extBut b o hb (keep b o hb q)
 by_cases h2:vs.toArray.size < 2
 ·rw[if_pos h2,if_pos h2]
  refine wpAny_bind (wpAny_pure ?_)
  dsimp only
  rw[StateT.run_pure]
  refine wpAny_bind (wpAny_pure ?_)
  dsimp only
  have ez:(arrOf (SortSt.mk' general' (vs.toArray.zip vs.toArray) #[] 7 none)).map (·.2)=out.toArray:=by
   rw[h1 (by omega)]
   show(vs.toArray.zip vs.toArray).map (·.2)=vs.toArray
   apply Array.toList_inj.mp
   simp[List.map_snd_zip]
  rw[ez]
  refine wpAny_bind (seqEpoch_at ho3 rfl ?_)
  refine wpAny_bind (listUpdate_at ho3 rfl ?_ (Nat.zero_le _) (by rw[List.size_toArray,sizeLine_eq,h1 (by omega)];omega))
  show wpAny _ _ _ _ _ _
  simp only[bne_self_eq_false,xft,if_false]
  exact wpAny_pure (h _ c keep' hc)
 ·rw[if_neg h2,if_neg h2]
  refine wpAny_bind (wpAny_mono (hk (by omega) h3 keep) (fun κ s' hκ=>?_) fun _ _ x=>x.elim)
  refine wpAny_bind (wpAny_mono (kat_run (E:=E) (Q:=fun st' s''=>∃p:Array Nat,p.size=vs.length/\arrOf st'=p.map (kas_item (vs.toArray.zip vs.toArray))/\failedOf st'=none/\s''={ s with heap:=h3 }/\(p.toList.map fun i=>vs.getD i Value.none)=out) rfl (by omega) h64
   (fun p st' s'' a1 a2 a3 a4=>⟨p,a1,a2,a3,a4⟩) hκ) ?_ fun _ _ e=>e)
  rintro⟨⟨⟩,st'⟩ s'' ⟨p,hp,har,hf,rfl,e⟩
  dsimp only
  have ez:=kat_snds rfl har
  have hol:out.length=vs.length:=by rw[← e,List.length_map,Array.length_toList,hp]
  rw[e]at ez
  rw[ez]
  refine wpAny_bind (seqEpoch_at ho3 rfl ?_)
  refine wpAny_bind (listUpdate_at ho3 rfl ?_ (Nat.zero_le _) (by rw[List.size_toArray,sizeLine_eq];omega))
  rw[hf]
  simp only[bne_self_eq_false,xft,if_false]
  exact wpAny_pure (h _ c keep' hc)
end
theorem bm4{n:Nat}{α:Type}{P:α->Prop}(lt:Nat->Nat->Bool):∀{t:KasT α},Ask n P t->P (evT lt t)
 | .ret _,h=>h
 | .ask i j k,h=>bm4 (n:=n) (P:=P) lt (t:=k (lt i j)) (h.2.2 (lt i j))
end G
namespace G
open PySem PySem.Spec PySem.W PyProof.Rows L2 PySem.SeqAt
theorem aD2{prog:Program}{w:World}{A:Around}{E:Value->Shared->Prop}{s:Shared}{l:Addr}{Q:Value->Shared->Prop}
  (hcol:∀{E:Value->Shared->Prop}{R:List Value->Shared->Prop},(∀(vs out:List Value) (s1:Shared),vs.length < 64->(vs.length < 2->out=vs) ->
   (2<=vs.length->∀h':Heap,(∀b o,s1.heap.get? b=some o->h'.get? b=some o)->wpAny (model prog w) A.in1.in1 (keyKind' vs.toArray) (fun κ s'=>(kas_sort vs.length).kasWp (kas_ask prog w A.in1.in1 κ vs) (fun p s''=>s''={ s1 with heap:=h' }/\(p.toList.map fun i=>vs.getD i Value.none)=out) s') (fun _ _=>False) { s1 with heap:=h' }) ->
   (∀h' c,(∀b o,s1.heap.get? b=some o->h'.get? b=some o)->h'.get? s1.heap.objs.size=some (seqObj "list" out.toArray c)->Q (.ref s1.heap.objs.size) { s1 with heap:=h' })->R vs s1)->wpAny (model prog w) A.in1 (collect (.ref l)) R E s) :
  wpAny (model prog w) A (call (.builtin "sorted") [.ref l]) Q E s:=by
 refine Calls.call_function_entry kind_sorted plain_sorted entry_sorted (args_sorted1 _) ?_
 unfold Builtin.«sorted»
 refine wpAny_bind (m:=checkCount "sorted" 1 1 _) (wpAny_pure ?_)
 refine wpAny_bind (hcol fun vs out s1 h64 h1 hk h=>?_)
 refine wpAny_bind (wpAny_newList ?_ (by rw[sizeLine_eq];omega))
 have hoL:(s1.heap.push (seqObj "list" vs.toArray 0)).get? s1.heap.objs.size=some (seqObj "list" vs.toArray 0):=Heap.get?_push_size _ rfl
 have keep:∀b o,s1.heap.get? b=some o->(s1.heap.push (seqObj "list" vs.toArray 0)).get? b=some o:=fun b o q=>Heap.get?_push_of_some _ q
 show wpAny _ _ _ _ _ { s1 with heap:=s1.heap.push (seqObj "list" vs.toArray 0) }
 generalize s1.heap.push (seqObj "list" vs.toArray 0)=h3 at hoL keep
 have ne:∀b o,s1.heap.get? b=some o->b≠s1.heap.objs.size:=fun b o q=>Nat.ne_of_lt (Heap.lt_size q)
 refine wpAny_bind (wpAny_holding (wpAny_call_entry slot_list_sort ⟨_,hoL,rfl⟩ entry_list_sort ?body (args_list_sort _)))
 case body =>
  refine be3 (s:={ s1 with heap:=h3 }) (out:=out) hoL h64 h1 (fun h2 h' kp=>hk h2 h' fun b o q=>kp b o (ne b o q) (keep b o q)) fun h' c kp e=>⟨_,rfl,wpAny_pure ⟨_,rfl,h h' c (fun b o q=>kp b o (ne b o q) (keep b o q)) e⟩⟩
section
variable {X:Cx}{pins:List (Addr×Obj)}{σ:L2.St}{H Hf:Hp}{s:Shared}
end
end G
namespace G
open PySem PySem.Spec PySem.W PyProof.Rows L2
theorem aA7{prog:Program}{w:World}{A:Around}{E:Value->Shared->Prop}{s:Shared}{T:String}{r d:Addr}{n:Nat}{P:Nat->Value->Prop}{OK:Heap->Prop}{Q:List Value->Shared->Prop}(K:KdlSrc prog w T r d n P OK) (hh:A.handled=none) (hok:OK s.heap) (hn:n<=sizeLine)
  (h:∀h' tk (vs:List Value),(∀b o,s.heap.get? b=some o->h'.get? b=some o)->vs.length=n->(∀j v,vs[j]? = some v->P j v)->Q vs { s with heap:=h',toks:=tk }):wpAny (model prog w) A (collect (.ref r)) Q E s:=by
 have lt:=K.there _ hok
 unfold collect
 refine wpAny_bind (wpAny_runValue (codeAny_builtin entry_proto_collect' ?_))
 rw[Around.under_plainId PySem.F.plain_proto_collect _]
 show wpAny _ A.in1 (newList [] >>= fun l=>again (.builtin "list.__iadd__" ⟨[l,.ref r],[]⟩)) _ _ s
 refine wpAny_bind (wpAny_newObj_type (wpAny_pure ⟨plainId_quiet PySem.F.plain_list_iadd _,codeAny_builtin entry_list_iadd' ?_⟩))
 rw[Around.under_plainId PySem.F.plain_list_iadd _]
 show wpAny _ A.in1 (Builtin.List.listExtendWith (.ref s.heap.objs.size) (.ref r) (.ref s.heap.objs.size)) _ _ { s with heap:=s.heap.push { cls:=.type "list", data:=.seq #[] } }
 have k1:∀b o,s.heap.get? b=some o->(s.heap.push { cls:=.type "list", data:=.seq #[] }).get? b=some o:=fun b o q=>Heap.get?_push_of_some _ q
 refine kdl_extend (R:=fun r s'=>match r with | .ok (.ret v)=>wpAny (model prog w) A (match v with | .ref a=>(do let o ← load a;match o.data with | .seq xs _=>pure xs.toList|_=>unsupported "internal:collect")|_=>unsupported "internal:collect") Q E s' | .ok _=>False | .error e=>E e s') (s:={ s with heap:=s.heap.push { cls:=.type "list", data:=.seq #[] } }) K hh (K.keep _ _ hok fun b _ o e=>k1 b o e) s.heap.objs.size (Nat.ne_of_gt lt.1) (Nat.ne_of_gt lt.2) (.ref s.heap.objs.size) 0 (Heap.get?_push_size _ rfl) (fun h' tk acc' c' hk hS' hacc=>?_) hn
 refine wpAny_bind (wpAny_load hS' (wpAny_pure ?_))
 exact h h' tk acc'.toList (fun b o e=>hk b o (Nat.ne_of_lt (Heap.lt_size e)) (k1 b o e)) (by rw[Array.length_toList];exact hacc.1) fun j v e=>hacc.2 j v (by rw[← Array.getElem?_toList];exact e)
def ltS(ks:List D) (i j:Nat):Bool:=match ks.getD i .none,ks.getD j .none with
 | .str a,.str b=>decide (a.cps.toList < b.cps.toList)
 | _,_=>false
def aq8(ks:List D):Option (List D):=if ks.length < 2 then some ks else if ks.length < 64 then some ((evT (ltS ks) (kas_sort ks.length)).toList.map fun i=>ks.getD i .none) else none
section
variable {X:Cx}{pins:List (Addr×Obj)}{σ:L2.St}{H Hf:Hp}{s:Shared}{K:PySem.W.Frag}
theorem RepKs.key:∀{m:List (D×D)}{kvs:List (Key×V)},RepKs K Hf m kvs->∀(j:Nat) (k:Key) (v:V),kvs[j]? = some (k,v)->∃(x:Str) (e:D),k=Sum.inr x/\m[j]? = some (PyData.str x,e)
 | [],_,h,j,k,v,e=>by cases h;cases e
 | (d,e0)::r,_,⟨y,w,t,h1,h2,h3,h4⟩,j,k,v,e=>by
  subst h1 h2
  cases j with
  | zero=>cases e;exact⟨_,_,rfl,rfl⟩
  | succ j=>exact RepKs.key h4 j k v e
inductive TxA:List D->List Value->Prop
 | nil:TxA [] []
 | cons {x:Str}{t:Tok}{ds:List D}{vs:List Value}:TxA ds vs->TxA (.str x::ds) (.str x t::vs)
theorem TxA.of:∀{ds:List D}{vs:List Value},vs.length=ds.length->(∀(j:Nat) (v:Value),vs[j]? = some v->∃(x:Str) (t:Tok),v=Value.str x t/\ds[j]? = some (PyData.str x))->TxA ds vs
 | [],[],_,_=>.nil
 | [],_::_,h,_=>by cases h
 | _::_,[],h,_=>by cases h
 | d::ds,v::vs,h,a=>by
  obtain⟨x,t,e1,e2⟩:=a 0 v rfl
  cases e1;cases e2
  exact .cons (TxA.of (by simpa using h) fun j v e=>a (j+1) v (by simpa using e))
theorem TxA.len(h:TxA ds vs):vs.length=ds.length:=by
 induction h with
 | nil=>rfl
 | cons _ ih=>simp[ih]
theorem TxA.at(h:TxA ds vs):∀i,i < ds.length->∃(x:Str) (t:Tok),ds.getD i .none=PyData.str x/\vs.getD i .none=Value.str x t:=by
 induction h with
 | nil=>intro i hi;simp at hi
 | @cons x t ds vs h ih =>
  intro i hi
  cases i with
  | zero=>exact⟨x,t,rfl,rfl⟩
  | succ i=>obtain⟨y,u,e1,e2⟩:=ih i (by simpa using hi);exact⟨y,u,by simpa using e1,by simpa using e2⟩
theorem TxA.pick(h:TxA ds vs):∀{p:List Nat},(∀i∈p,i < ds.length)->TxA (p.map fun i=>ds.getD i .none) (p.map fun i=>vs.getD i Value.none)
 | [],_=>.nil
 | i::p,hp=>by
  obtain⟨x,t,e1,e2⟩:=h.at i (hp i (.head _))
  rw[xmc,xmc,e1,e2]
  exact .cons (TxA.pick h fun j hj=>hp j (.tail _ hj))
def bI8:D->V
 | .str x=>.str x
 | _=>.non
theorem TxA.vals(h:TxA ds vs):C1 (ds.map bI8) vs:=by
 induction h with
 | nil=>exact .nil
 | @cons x t ds vs h ih=>exact .cons ⟨t,rfl⟩ ih
theorem TxA.reps(h:TxA ds vs):Reps K Hf ds (ds.map bI8):=by
 induction h with
 | nil=>rfl
 | @cons x t ds vs h ih=>exact⟨_,_,rfl,rfl,ih⟩
theorem kvg{κ:Type}{p:List (κ×V)}{q:List (κ×Value)}(h:KV p q):∀{j:Nat}{y:κ×Value},q[j]? = some y->∃x,p[j]? = some x/\x.1=y.1/\C5 x.2 y.2:=by
 induction h with
 | nil=>intro j y e;cases e
 | cons a _ ih =>
  intro j y e
  cases j with
  | zero=>cases e;exact⟨_,rfl,a⟩
  | succ j=>exact ih e
theorem aX7{Q:VK}{d:Addr}{kvs:List (Key×V)}{m:List (D×D)}{out:List D}(hc:X.A.handled=none) (I:Inv X pins σ H s) (e:H d=some (.dK kvs)) (rk:RepKs X.K Hf m kvs) (e3:aq8 (m.map (·.1))=some out)
  (k:∀l us,H l=none->Reps X.K Hf out us->us.length < 64->Q (.ref l) (upd H l (.lst us))):wpAny (model X.prog X.w) X.A (call (.builtin "sorted") [.ref d]) (EP X pins σ Q) X.xe s:=by
 obtain⟨z1,z2,vs,kv,o,es,ep,hd⟩:=aN3 I.hok e
 have nk:=kv.length
 have nm:=rk.length
 refine aD2 fun{E R} hR=>aA7 (A:=X.A.in1) (kdl_dict (knd:=K7 X.prog X.w) (kvs:=vs) (ep:=ep) z2) hc ⟨o,es,hd⟩ (by rw[← nk];exact z1) fun h' tk its kp hl hP=>?_
 have T:TxA (m.map (·.1)) its:=TxA.of (by simp;omega) fun j v hj=>by
  obtain⟨k,x,hk,hi⟩:=hP j v hj
  obtain⟨⟨k1,y1⟩,hk',r1,r2⟩:=kvg kv hk
  cases r1
  obtain⟨y,ed,h1,h2⟩:=RepKs.key rk j _ _ hk'
  cases h1
  obtain⟨t,rfl⟩:∃t,v=Value.str y t:=by
   rcases L2.L9 (show L2.ak9 (Sum.inr y) v=true from hi) with⟨_,_,z,_⟩|⟨_,t,z,z2⟩
   ·cases z
   ·cases z;exact⟨t,z2⟩
  exact⟨y,t,rfl,by rw[List.getElem?_map,h2];rfl⟩
 have I':Inv X pins σ H { s with heap:=h',toks:=tk }:=al2 (ch:=[]) I (fun _ h=>nomatch h) fun b u _ q=>kp b u q
 have tl:=T.len
 have fin:∀(ds:List D) (ws:List Value),TxA ds ws->ds.length < 64->ds=out->∀(h2:Heap) (c:Nat),(∀b o,h'.get? b=some o->h2.get? b=some o)->h2.get? h'.objs.size=some (seqObj "list" ws.toArray c)->EP X pins σ Q (.ref h'.objs.size) { s with heap:=h2,toks:=tk }:=fun ds ws t hz ho h2 c kp2 eo=>by
  subst ho
  have fr:=I'.hok.fresh (Nat.le_refl h'.objs.size)
  exact⟨.ref h'.objs.size,_,I'.laid (t':=tk) kp2 (Nat.le_refl _) (show O8 X.prog X.w _ h2 _ (.lst (ds.map bI8)) from⟨by rw[List.length_map,sizeLine_eq];omega,_,c,t.vals,eo⟩),rfl,k _ _ fr t.reps (by rw[List.length_map];exact hz)⟩
 unfold aq8 at e3
 split at e3
 ·rename_i h2
  cases e3
  exact hR its its _ (by omega) (fun _=>rfl) (fun h3=>absurd h3 (by omega)) fun h2' c kp2 eo=>fin _ its T (by omega) rfl h2' c kp2 eo
 ·split at e3
  ·rename_i h2 h3
   cases e3
   have pin:=bq2 (n:=(m.map (·.1)).length) (by omega)
   have lo:=bm4 (ltS (m.map (·.1))) pin
   have plo:∀i∈(evT (ltS (m.map (·.1))) (kas_sort (m.map (·.1)).length)).toList,i < (m.map (·.1)).length:=fun i hi=>lo.2 i (by simpa using hi)
   refine hR its ((evT (ltS (m.map (·.1))) (kas_sort (m.map (·.1)).length)).toList.map fun i=>its.getD i Value.none) _ (by omega) (fun h3=>absurd h3 (by omega)) (fun _ h4 kp4=>?_) fun h2' c kp2 eo=>fin _ _ (T.pick plo) (by rw[List.length_map,Array.length_toList,lo.1];exact h3) rfl h2' c kp2 eo
   refine kas_kind (T:=.type "str") (by omega) (fun v hv=>?_) (by rfl) (by rfl) ?_
   ·obtain⟨j,hj,rfl⟩:=List.getElem_of_mem hv
    obtain⟨x,t,e1,e2⟩:=T.at j (by omega)
    have:its[j]=.str x t:=by rw[← e2];simp[hj]
    rw[this]
    exact Looks.of_pure rfl
   ·rw[tl]
    refine aO5 (P:=LoP (m.map (·.1)).length) (lt:=ltS (m.map (·.1))) (fun i j C hi hj hC=>?_) pin fun _=>⟨rfl,rfl⟩
    unfold kas_ask
    obtain⟨x,t,e1,e2⟩:=T.at i hi
    obtain⟨y,u,f1,f2⟩:=T.at j hj
    rw[e2,f2]
    refine kas_lt_str ?_
    unfold ltS at hC
    rw[e1,f1]at hC
    exact hC
  ·cases e3
end
end G
namespace G
open PySem PySem.Spec PyProof.Rows L2
def R7:MF:=fun o ds=>match ds with
 | []=>(aq8 (o.m.map (·.1))).map fun out=>(.list out,o)
 | _=>none
def bq1(K:PySem.W.Frag) (C:Addr):Sp:=fun vs H Q _=>∃a Hf c o out,vs=[.ref a]/\B2 Hf H/\FoAt K C H Hf a c o/\aq8 (o.m.map (·.1))=some out/\∀l us,H l=none->Reps K Hf out us->us.length < 64->Q (.ref l) (upd H l (.lst us))
def bX1(X:Cx) (C:Addr):Prop:=∃k f fd ps,FnOk X.prog X.w X.K X.mg X.base CX0 k f fd ps (bq1 X.K C)/\Room k X.A/\Meth X.K C "names" f/\N7 X.K fd ps []
theorem ce5{K:PySem.W.Frag}{C:Addr}:∀vs H Q E,spM K C 0 R7 vs H Q E->bq1 K C vs H Q E:=fun vs H Q E ⟨a,us,Hf,c,o,ds,r,o',h1,h2,ss,fo,rp,e,kk⟩=>by
 cases List.length_eq_zero_iff.mp h2
 cases ds with
 | cons d ds=>obtain⟨_,_,z,_⟩:=rp;cases z
 | nil =>
  obtain⟨out,e1,e2⟩:=Option.map_eq_some_iff.mp e
  cases e2
  exact⟨a,Hf,c,o,out,h1,ss,fo,e1,fun l us hl rs hz=>kk (.ref l) (upd H l (.lst us)) (upd Hf l (.lst us)) c (Chg.of (Grow.laid ss hl)) (fo.grow (Grow.laid ss hl)) (fun x hx=>.inl hx) ⟨l,us,rfl,SqL.of A3,rs.mono (C4 (ss.free hl))⟩⟩
section
variable {X:Cx}
theorem aU4(hc:X.calm=true):a9 X (.builtin "sorted") (fun vs H Q=>∃d kvs Hf m out,vs=[.ref d]/\H d=some (.dK kvs)/\RepKs X.K Hf m kvs/\aq8 (m.map (·.1))=some out/\∀l us,H l=none->Reps X.K Hf out us->us.length < 64->Q (.ref l) (upd H l (.lst us))):=by
 intro pins s σ H vs us Q I rv ⟨d,kvs,Hf,m,out,e0,e1,rk,e3,k⟩
 subst e0
 obtain⟨u,rfl,rx⟩:=u8 rv
 cases rx
 exact aX7 (I.ok.hd hc) I e1 rk e3 k
end
section
variable {P:Program}{w:World}{K:PySem.W.Frag}{mg:Str->Option Value}{base:Heap}{cs:List (Str×D)}{bl:List Str}{C:Addr}{tab:Tab}{ms:av1}
theorem ce6(M:Md K mg cs bl) (T:TOk P w K mg base k tab) (Fc:FoC K C) (d:Fd) (hN:d.N=[("self" : Str)]) (hp:d.ps.length=1) (ok:d.okB=true) (hl:Y8 d.c=true) (hs:biB ⟨tab,cs,bl⟩ d.c "sorted" "sorted" = true) (Fn:Fun K d.x qual d.st f fd)
  (hb:A7 d.st=[.Return (some (.Call (.Name "sorted" p1) [.Attribute (.Name "self" p2) "sheets" p3] [] p4)) p5]):FnOk P w K mg base CX0 (k+1) f fd d.ps (bq1 K C):=by
 have Sc:=Fd.sc ok
 refine Fn.ok Sc (fun vs H Q E h=>?_) fun cdv A outer s H vs Q E hr hsp=>?_
 ·obtain⟨a,Hf,c,o,out,rfl,_⟩:=h
  simp[hp]
 obtain⟨a,Hf,c,o,out,rfl,ss,fo,e,kk⟩:=hsp
 have F:FitO ⟨tab,cs,bl⟩ [] C d.c (t9 CX0 P w K mg base d.N qual (B3 d.st) f cdv A outer s H E).nox:=by
  refine⟨⟨rfl,rfl,Sc.nd,rfl,rfl,hr.units,fun _=>⟨fun _=>rfl,Sc.kind⟩,fun x F n h=>?_,M.css,M.bls⟩,Fc,fun m F n h=>by cases h⟩
  exact(T x F n h).imp (fun⟨f',fd',ps,h1,h2,h3,h4⟩=>⟨k,f',fd',ps,h1,hr,h2,h3,h4⟩) id
 obtain⟨_,g1,g2⟩:=K2 F.fit hs
 have st:OSt K C ⟨cells a c,H,Hf⟩ (O2 0 a []) [(a,o)] (start d.N [.ref a]) H Hf:=⟨Chg.of (Grow.refl ss),cells a c++[],.cons fo (by simp) .nil,fun x hx=>.inl (by simpa using hx),by rw[hN];exact X7 (N:=[]) (vs:=[]) rfl⟩
 have A1:At1 _ (O2 0 a []) [(a,o)] "self" 0 0 a o:=F.slf hl (show d.N[0]? = _ by rw[hN];rfl) rfl rfl
 rw[hb]
 refine⟨_,j7 (ad0 (V4 (aU4 F.fit.calm) g1 g2 (by rfl) (B8 (W9 (b:=⟨cells a c,H,Hf⟩) A1 Fc (.inl rfl) rfl) F6))),Hf,st,fun cl v fa hv=>?_⟩
 cases hv
 obtain⟨kvs,e1,r1⟩:=fa.dic
 exact⟨cl.d,kvs,Hf,o.m,out,rfl,e1,r1,e,kk⟩
end
theorem by1{H0 Hf0 H Hf:Hp}(g:Grow H0 Hf0 H Hf) (h0:H0 l=none) (hf:Hf l=none):Grow H0 Hf0 (upd H l o) Hf :=
 ⟨fun b u e=>by rw[A4 (A9 e h0)];exact g.big b u e,fun b u e=>by rw[A4 (A9 e hf)];exact g.sub b u e,g.ext,g.new⟩
section
variable {X:Cx}{C:Addr}{b:Bs}{ρ:Rho}{q:Os}{o:Fo}{a:Addr}
theorem bt4{ρa:Rho}(N:bX1 X C) (cc:FoC X.K C) (A:At1 X ρ q x i j a o) (ho:aq8 (o.m.map (·.1))=some out) (he:JE X e f) (w:f ρa=some d) (sb:∀{H0 H Hf:Hp}{σ:L2.St},Slots X.K H0 ρ σ H Hf->Slots X.K H0 ρa σ H Hf) (hl:(p2.endLine==p3.line)=true:=by rfl) (hl2:(p4.endLine==p5.line)=true:=by rfl) (hst:starEach [e] X.env=[(false,eval e X.env)]:=by rfl)
  (hbase:attributeBase (.Call (.Attribute (.Name x p) "names" p2) [] [] p3) "append" X.env (eval (.Call (.Attribute (.Name x p) "names" p2) [] [] p3) X.env)=eval (.Call (.Attribute (.Name x p) "names" p2) [] [] p3) X.env:=by rfl)
  (hfew:((backTo p5 (starEach [e] X.env)).all (fun x=>!x.1)&&(backToKw p5 (keywordEach [] X.env)).all (fun x=>x.1.isSome)
   && decide (([e]:List Expr).length+([]:List Keyword).length+(if([]:List Keyword).isEmpty then 0 else 1) < 30))=true:=by rfl)
  (hs:swapsWith (.Call (.Attribute (.Call (.Attribute (.Name x p) "names" p2) [] [] p3) "append" p4) [e] [] p5) none p6.line X.env=pure false:=by rfl) :
  OS X C b ρ q (.Expr (.Call (.Attribute (.Call (.Attribute (.Name x p) "names" p2) [] [] p3) "append" p4) [e] [] p5) p6) (.nx ρ q):=by
 obtain⟨k,fa,fd,ps,Fk,hr,hm,hb⟩:=N
 refine B5 (S3 (ak1 PySem.F.plainAttrs_list PySem.F.slot_list_append PySem.F.type_list_append U9 (aj9 (E:=E0) (M4 A.n A.v A.d1 A.d2) cc.cl hm Fk hr hb .nil aa0 (ah3 hl rfl)) (B8 (he ρa _ w) F6 hst) hbase hfew hl2 hst (by rfl)) hs) fun En σ H ⟨Hf,st,kk⟩=>?_
 obtain⟨c,f1,f3⟩:=st.focus A.w A.o
 refine⟨_,P9 st A.s,a,c.dx,Y5 c,rfl,f1.ins,ak4 (by decide) c,a,Hf,c,o,out,rfl,st.same,f1,ho,fun l us hl rs hz=>?_⟩
 have g:Grow H Hf (upd H l (.lst us)) Hf:=Grow.made st.same hl
 refine⟨.inl ⟨rfl,us,SqL.of A3⟩,_,Hf,g.sub,sb (st.grow g).sl,fun v H2 Hf2 g2 r2=>?_⟩
 have e2:H2 l=some (.lst us):=g2.big _ _ A3
 have n2:Hf2 l=none:=Classical.byContradiction fun z=>(g2.new l z).elim (fun y=>y (st.same.free hl)) fun y=>by rw[A3]at y;cases y
 refine⟨l,us,v,rfl,rfl,e2,Nat.lt_trans hz (O9 (by decide)),?_⟩
 have g3:=by1 (o:=.lst (us++[v])) (g.trans g2) hl n2
 exact kk σ _ Hf2 (st.grow g3) g3.ext
end
end G
namespace G
open PySem PySem.Spec PyProof.Rows L2
def bp6(as:List Addr):Option B->Option B
 | some (.opq j)=>some (.opq (as.getD j 0))
 | b=>b
abbrev sub(as:List Addr) (ρ:Rho):Rho:=ρ.map (bp6 as)
def P7:Option B->Option B
 | some (.opq _)=>none
 | b=>b
abbrev era(ρ:Rho):Rho:=ρ.map P7
theorem U5(as:List Addr) (ρ:Rho):era (sub as ρ)=era ρ:=by
 unfold era sub
 rw[List.map_map]
 refine List.map_congr_left fun b _=>?_
 cases b with
 | none=>rfl
 | some b=>cases b<;>rfl
theorem aR6(as:List Addr) (ρ:Rho):Z8 (sub as ρ)=Z8 ρ:=rfl
def okR(n:Nat) (ρ:Rho):Bool:=ρ.all fun x=>match x with
 | some (.opq j)=>decide (j < n)
 | _=>true
theorem o6(h:okR n ρ=true):Z8 ρ=true:=rfl
theorem bc2(h:okR n ρ=true) (l:n<=m):okR m ρ=true:=by
 unfold okR at h ⊢
 rw[List.all_eq_true]at h ⊢
 intro x hx
 have:=h x hx
 split
 ·exact decide_eq_true (Nat.lt_of_lt_of_le (of_decide_eq_true this) l)
 ·rfl
theorem ah0{ρ:Rho}{i n:Nat}{x:Option B}(h:okR n ρ=true) (h2:∀j,x=some (.opq j)->j < n):okR n (ρ.set i x)=true:=by
 unfold okR at h ⊢
 rw[List.all_eq_true]at h ⊢
 intro y hy
 rcases List.mem_or_eq_of_mem_set hy with q|rfl
 ·exact h y q
 ·split
  ·exact decide_eq_true (h2 _ rfl)
  ·rfl
theorem as3{ρ:Rho}{i n:Nat}{d:D}(h:okR n ρ=true):okR n (ρ.set i (‹d›))=true:=ah0 h (by intro _ z;cases z)
theorem aw0(h:okR as.length ρ=true) (ex:List Addr):sub (as++ex) ρ=sub as ρ:=by
 unfold sub
 refine List.map_congr_left fun x hx=>?_
 have:=List.all_eq_true.mp h x hx
 cases x with
 | none=>rfl
 | some x =>
  cases x with
  | opq j =>
   have hj:j < as.length:=of_decide_eq_true this
   show some (B.opq _)=some (B.opq _)
   rw[List.getD_eq_getElem?_getD,List.getD_eq_getElem?_getD,List.getElem?_append_left hj]
  | _=>rfl
theorem aq7(as:List Addr) (ρ:Rho) (i:Nat) (d:D):sub as (ρ.set i (‹d›))=(sub as ρ).set i (‹d›):=by unfold sub;rw[List.map_set];rfl
section
variable {K:PySem.W.Frag}{C:Addr}{b:Bs}{ρ:Rho}{q:Os}{σ:L2.St}{H Hf H0:Hp}
theorem Slots.era(s:Slots K H0 ρ σ H Hf):Slots K H0 (era ρ) σ H Hf:=by
 have at_:∀(i:Nat) (b:B),(G.era ρ)[i]? = some (some b)->ρ[i]? = some (some b):=fun i b e=>by
  unfold G.era at e
  rw[List.getElem?_map]at e
  obtain⟨x,e1,e2⟩:=Option.map_eq_some_iff.mp e
  rw[e1]
  cases x with
  | none=>cases e2
  | some x=>cases x<;>first|exact congrArg some e2|cases e2
 exact⟨by rw[List.length_map];exact s.len,fun i b e=>s.is i b (at_ i b e),fun i j d1 d2 a h1 h2=>s.apart i j d1 d2 a (at_ i _ h1) (at_ j _ h2)⟩
end
abbrev Fs:=List Fo
abbrev UD:=Rho->Fs->Option (D×Fs)
abbrev UB:=Rho->Fs->Option (Bool×Fs)
inductive UF where
 | nx (ρ:Rho) (q:Fs)
 | rt (d:D) (q:Fs)
 | ro (j:Nat) (q:Fs)
def UF.own:UF->Bool
 | .nx ρ q=>okR q.length ρ
 | _=>true
def UF.ends(X:Cx) (C:Addr) (b:Bs) (as:List Addr) (Hf:Hp) (En:Ends):UF->Prop
 | .nx ρ q=>∀ex σ H' Hf',(as++ex).length=q.length->OSt X.K C b (sub (as++ex) ρ) ((as++ex).zip q) σ H' Hf'->B2 Hf Hf'->En.nx σ H'
 | .rt d q=>∀ex ρ σ v H' Hf',(as++ex).length=q.length->OSt X.K C b ρ ((as++ex).zip q) σ H' Hf'->Rep X.K Hf' d v->En.rt v H'
 | .ro j q=>∀ex ρ σ a H' Hf',(as++ex).length=q.length->OSt X.K C b ρ ((as++ex).zip q) σ H' Hf'->(as++ex)[j]? = some a->En.rt (.ref a) H'
theorem UF.mono{X:Cx}{fl:UF}(h:fl.ends X C b as Hf En) (e:B2 Hf Hf'):fl.ends X C b as Hf' En:=by
 cases fl with
 | nx ρ q=>exact fun ex σ H' Hf'' l o s=>h ex σ H' Hf'' l o (e.trans s)
 | rt d q=>exact h
 | ro j q=>exact h
theorem UF.more{X:Cx}{fl:UF}(h:fl.ends X C b as Hf En) (ex:List Addr):fl.ends X C b (as++ex) Hf En:=by
 cases fl with
 | nx ρ q=>exact fun ex2 σ H' Hf' l o s=>h (ex++ex2) σ H' Hf' (by rw[← List.append_assoc];exact l) (by rw[← List.append_assoc];exact o) s
 | rt d q=>exact fun ex2 ρ σ v H' Hf' l o=>h (ex++ex2) ρ σ v H' Hf' (by rw[← List.append_assoc];exact l) (by rw[← List.append_assoc];exact o)
 | ro j q=>exact fun ex2 ρ σ a H' Hf' l o z=>h (ex++ex2) ρ σ a H' Hf' (by rw[← List.append_assoc];exact l) (by rw[← List.append_assoc];exact o) (by rw[← List.append_assoc];exact z)
def UE(X:Cx) (C:Addr) (e:Expr) (g:UD):Prop:=∀ρ q d q',g ρ q=some (d,q')->okR q.length ρ=true->q'.length=q.length/\∀b (as:List Addr),as.length=q.length->OE X C b (sub as ρ) (as.zip q) e d (as.zip q')
def UT(X:Cx) (C:Addr) (e:Expr) (g:UB):Prop:=∀ρ q c q',g ρ q=some (c,q')->okR q.length ρ=true->q'.length=q.length/\∀b (as:List Addr),as.length=q.length->OT X C b (sub as ρ) (as.zip q) e c (as.zip q')
def tU(X:Cx) (C:Addr) (b:Bs) (as:List Addr) (ρ:Rho) (q:Fs) (fl:UF):TS:=fun En σ H=>∃Hf,OSt X.K C b (sub as ρ) (as.zip q) σ H Hf/\fl.ends X C b as Hf En
abbrev UX:=Rho->Fs->Option UF
def US(X:Cx) (C:Addr) (st:Stmt) (g:UX):Prop:=∀ρ q fl,g ρ q=some fl->okR q.length ρ=true->fl.own=true/\∀b (as:List Addr),as.length=q.length->PS X st (tU X C b as ρ q fl)
def USs(X:Cx) (C:Addr) (sts:List Stmt) (g:UX):Prop:=∀ρ q fl,g ρ q=some fl->okR q.length ρ=true->fl.own=true/\∀b (as:List Addr),as.length=q.length->PSs X sts (tU X C b as ρ q fl)
section
variable {X:Cx}{C:Addr}{st:Stmt}{sts:List Stmt}
def uP(f:DE):UD:=fun ρ q=>(f (era ρ)).map fun d=>(d,q)
theorem j4(h:JE X e f):UE X C e (uP f):=fun ρ q d q' w _=>by
 obtain⟨d',e1,e2⟩:=Option.map_eq_some_iff.mp w
 cases e2
 exact⟨rfl,fun b as _=>A5 (h (era ρ) d e1) fun σ H Q ⟨Hf,st,k⟩=>⟨_,Hf,st.same,by rw[← U5 as ρ];exact st.sl.era,fun v H' Hf' g r=>k v H' Hf' (st.grow g) g.ext r⟩⟩
def uTP(f:Rho->Option Bool):UB:=fun ρ q=>(f (era ρ)).map fun d=>(d,q)
theorem aq3(h:JT X e f):UT X C e (uTP f):=fun ρ q d q' w _=>by
 obtain⟨d',e1,e2⟩:=Option.map_eq_some_iff.mp w
 cases e2
 exact⟨rfl,fun b as _=>W4 (h (era ρ) d e1) fun σ H Q ⟨Hf,st,k⟩=>⟨_,Hf,st.same,by rw[← U5 as ρ];exact st.sl.era,fun H' Hf' g=>k H' Hf' (st.grow g) g.ext⟩⟩
def F8(i:Nat) (ρ:Rho) (q:Fs):Option (Nat×Fo):=match ρ[i]? with
 | some (some (.opq j))=>(q[j]?).map fun o=>(j,o)
 | _=>none
theorem V3{as:List Addr}(h:F8 i ρ q=some (j,o)) (n:Z8 ρ=true) (l:as.length=q.length) (hn:X.N[i]? = some x) (hv:Vis X.env.scope x) (h1:(x==("__debug__" : Str))=false) (h2:(x==("__classdict__" : Str))=false) :
  ∃a,as[j]? = some a/\At1 X (sub as ρ) (as.zip q) x i j a o:=by
 unfold F8 at h
 split at h
 ·rename_i j' e
  obtain⟨o',e1,e2⟩:=Option.map_eq_some_iff.mp h
  cases e2
  have hj:j < as.length:=by rw[l];exact(List.getElem?_eq_some_iff.mp e1).1
  refine⟨as[j],List.getElem?_eq_getElem hj,hn,hv,h1,h2,?_,?_,by rw[aR6];exact n⟩
  ·unfold sub;rw[List.getElem?_map,e];show some (some (B.opq (as.getD j 0)))=_;rw[List.getD_eq_getElem?_getD,List.getElem?_eq_getElem hj];rfl
  ·rw[List.getElem?_zip_eq_some];exact⟨List.getElem?_eq_getElem hj,e1⟩
 ·cases h
theorem aq2{as:List Addr}{q:Fs}{j:Nat}{o:Fo}(h:as[j]? = some a):as.zip (q.set j o)=(as.zip q).set j (a,o):=by
 apply List.ext_getElem?
 intro i
 rw[List.getElem?_set]
 by_cases e:j=i
 ·subst e
  rw[if_pos rfl]
  by_cases hl:j < (as.zip q).length
  ·rw[if_pos hl]
   have:j < q.length:=by simp at hl;omega
   rw[List.getElem?_zip_eq_some]
   exact⟨h,by rw[List.getElem?_set_self this]⟩
  ·rw[if_neg hl]
   have h1:j < as.length:=(List.getElem?_eq_some_iff.mp h).1
   have:¬j < q.length:=fun z=>hl (by simp;omega)
   rw[List.getElem?_eq_none]
   simp;omega
 ·rw[if_neg e]
  have:(q.set j o)[i]? = q[i]?:=List.getElem?_set_ne e
  rw[List.zip_eq_zipWith,List.zip_eq_zipWith,List.getElem?_zipWith,List.getElem?_zipWith,this]
def uM(i:Nat) (F:MF) (f:Rho->Option (List D)):UD:=fun ρ q=>(F8 i ρ q).bind fun p=>(f (era ρ)).bind fun ds=>(F p.2 ds).map fun r=>(r.1,q.set p.1 r.2)
theorem aH5{e:Expr}{es:List Expr}{f:Rho->Option (List D)}(i:Nat) (M:m7 X C m n F) (c:FoC X.K C) (hn:X.N[i]? = some x) (hv:Vis X.env.scope x) (h1:(x==("__debug__" : Str))=false) (h2:(x==("__classdict__" : Str))=false) (nf:aa4 m=true) (ha:JA X (e::es) f) (hl:(apos.endLine==pos.line)=true) (hz:(e::es).length=n)
  (hst:starEach (e::es) X.env=(false,eval e X.env)::starEach es X.env) (hpl:(backTo pos (starEach es X.env)).any (·.1)=false) (hfm:methodCallForm ((e::es).length+([]:List Keyword).length) (backTo pos (starEach (e::es) X.env)) (backToKw pos (keywordEach [] X.env))=true) :
  UE X C (.Call (.Attribute (.Name x p) m apos) (e::es) [] pos) (uM i F f):=fun ρ q d q' w no=>by
 obtain⟨⟨j,o⟩,e1,w⟩:=Option.bind_eq_some_iff.mp w
 obtain⟨ds,e2,w⟩:=Option.bind_eq_some_iff.mp w
 obtain⟨⟨r,o'⟩,e3,e4⟩:=Option.map_eq_some_iff.mp w
 cases e4
 refine⟨by simp,fun b as l=>?_⟩
 obtain⟨a,ea,A⟩:=V3 e1 (o6 no) l hn hv h1 h2
 rw[aq2 ea]
 exact ax1 M c A nf ha e2 (fun s=>by rw[← U5 as ρ];exact s.era) e3 hz hst hpl hl hfm
def uM0(i:Nat) (F:MF):UD:=fun ρ q=>(F8 i ρ q).bind fun p=>(F p.2 []).map fun r=>(r.1,q.set p.1 r.2)
theorem aV9(i:Nat) (M:m7 X C m 0 F) (c:FoC X.K C) (hn:X.N[i]? = some x) (hv:Vis X.env.scope x) (h1:(x==("__debug__" : Str))=false) (h2:(x==("__classdict__" : Str))=false) (nf:aa4 m=true) (hl:(apos.endLine==pos.line)=true) :
  UE X C (.Call (.Attribute (.Name x p) m apos) [] [] pos) (uM0 i F):=fun ρ q d q' w no=>by
 obtain⟨⟨j,o⟩,e1,w⟩:=Option.bind_eq_some_iff.mp w
 obtain⟨⟨r,o'⟩,e3,e4⟩:=Option.map_eq_some_iff.mp w
 cases e4
 refine⟨by simp,fun b as l=>?_⟩
 obtain⟨a,ea,A⟩:=V3 e1 (o6 no) l hn hv h1 h2
 rw[aq2 ea]
 exact bc4 M c A nf e3 hl
def uB2(h:D->D->Option D) (f g:UD):UD:=fun ρ q=>(f ρ q).bind fun x=>(g ρ x.2).bind fun y=>(h x.1 y.1).map fun z=>(z,y.2)
theorem bH4(o:OpD X (compareOp op) h) (ha:UE X C ea f) (hb:UE X C eb g) (hm:behindInMarks op eb=false):UE X C (.Compare ea [op] [eb] pos) (uB2 h f g):=fun ρ q d q' w no=>by
 obtain⟨⟨x,q1⟩,w1,w⟩:=Option.bind_eq_some_iff.mp w
 obtain⟨⟨y,q2⟩,w2,w⟩:=Option.bind_eq_some_iff.mp w
 obtain⟨z,w3,w4⟩:=Option.map_eq_some_iff.mp w
 cases w4
 obtain⟨l1,a1⟩:=ha ρ q x q1 w1 no
 obtain⟨l2,a2⟩:=hb ρ q1 y q2 w2 (by rw[l1];exact no)
 exact⟨l2.trans l1,fun b as l=>bM9 o (a1 b as l) (a2 b as (l.trans l1.symm)) w3 hm⟩
def am0:D->Option Bool
 | .bool c=>some c
 | _=>none
def uTB(f:UD):UB:=fun ρ q=>(f ρ q).bind fun x=>(am0 x.1).map fun c=>(c,x.2)
theorem bG3(o:OpD X (compareOp op) h) (ha:UE X C ea f) (hb:UE X C eb g) (hm:behindInMarks op eb=false):UT X C (.Compare ea [op] [eb] pos) (uTB (uB2 h f g)):=fun ρ q d q' w no=>by
 obtain⟨⟨z,q2⟩,w0,w⟩:=Option.bind_eq_some_iff.mp w
 obtain⟨c,w4,w5⟩:=Option.map_eq_some_iff.mp w
 cases w5
 obtain⟨⟨x,q1⟩,w1,w0⟩:=Option.bind_eq_some_iff.mp w0
 obtain⟨⟨y,q2⟩,w2,w0⟩:=Option.bind_eq_some_iff.mp w0
 obtain⟨z,w3,w6⟩:=Option.map_eq_some_iff.mp w0
 cases w6
 obtain⟨l1,a1⟩:=ha ρ q x q1 w1 no
 obtain⟨l2,a2⟩:=hb ρ q1 y q2 w2 (by rw[l1];exact no)
 have:z=.bool d:=by cases z<;>cases w4;rfl
 subst this
 exact⟨l2.trans l1,fun b as l=>ar9 o (a1 b as l) (a2 b as (l.trans l1.symm)) w3 hm⟩
theorem bG1(ha:UE X C e f) (he:∀whole,isTrue e X.env whole=(do let v ← whole;standAt e.pos;holding [v] (truthy v))):UT X C e (uTB f):=fun ρ q d q' w no=>by
 obtain⟨⟨z,q2⟩,w0,w⟩:=Option.bind_eq_some_iff.mp w
 obtain⟨c,w4,w5⟩:=Option.map_eq_some_iff.mp w
 cases w5
 have:z=.bool d:=by cases z<;>cases w4;rfl
 subst this
 obtain⟨l1,a1⟩:=ha ρ q _ _ w0 no
 exact⟨l1,fun b as l=>bL6 (a1 b as l) he⟩
def uOr(f g:UB):UB:=fun ρ q=>(f ρ q).bind fun x=>if x.1 then some (true,x.2) else g ρ x.2
def af9(f g:UB):UB:=fun ρ q=>(f ρ q).bind fun x=>if x.1 then g ρ x.2 else some (false,x.2)
end
end G
namespace G
open PySem PySem.Spec PyProof.Rows L2
section
variable {X:Cx}{C:Addr}{st:Stmt}{sts:List Stmt}
def av7(f g:UD):UD:=fun ρ q=>(f ρ q).bind fun x=>(am0 x.1).bind fun c=>if c then g ρ x.2 else some (.bool false,x.2)
theorem ao7{as:List Addr}{q':Fs}(h:UF.ends X C b as Hf En (.nx ρ q')) (l:as.length=q'.length):∀σ H' Hf',OSt X.K C b (sub as ρ) (as.zip q') σ H' Hf'->B2 Hf Hf'->En.nx σ H':=fun σ H' Hf' s e=>h [] σ H' Hf' (by rw[List.append_nil];exact l) (by rw[List.append_nil];exact s) e
def uEx(f:UD):UX:=fun ρ q=>(f ρ q).map fun x=>.nx ρ x.2
theorem bo2(h:UE X C e f) (hs:swapsWith e none pos.line X.env=pure false):US X C (.Expr e pos) (uEx f):=fun ρ q fl w no=>by
 obtain⟨⟨d,q1⟩,w1,w2⟩:=Option.map_eq_some_iff.mp w
 cases w2
 obtain⟨l1,a1⟩:=h ρ q d q1 w1 no
 exact⟨by show okR q1.length ρ=true;rw[l1];exact no,fun b as l=>B5 (S3 (a1 b as l) hs) fun En σ H ⟨Hf,st,k⟩=>⟨Hf,st,fun v H' Hf' s' e' _=>ao7 k (l.trans l1.symm) σ H' Hf' s' e'⟩⟩
def R4(i:Nat) (f:UD):UX:=fun ρ q=>(f ρ q).map fun x=>.nx (ρ.set i (‹x.1›)) x.2
theorem bG4(i:Nat) (hN:X.N.Nodup) (h:UE X C e f) (hi:X.N[i]? = some x) (hx:Loc X.env.scope x) (hs:swapsWith e (some (.Name x pos')) pos.line X.env=pure false) (hf:X.fn x=true\/X.env.scope.names.lookup x=some .local):US X C (.Assign [.Name x pos'] e pos) (R4 i f):=fun ρ q fl w no=>by
 obtain⟨⟨d,q1⟩,w1,w2⟩:=Option.map_eq_some_iff.mp w
 cases w2
 obtain⟨l1,a1⟩:=h ρ q d q1 w1 no
 exact⟨as3 (by rw[l1];exact no),fun b as l=>B5 (d9 hN hi hx (a1 b as l) hs hf) fun En σ H ⟨Hf,st,k⟩=>⟨Hf,st,fun v H' Hf' s' e' r=>ao7 k (l.trans l1.symm) _ H' Hf' (by rw[aq7];exact s'.set r) e'⟩⟩
def T4(f:UD):UX:=fun ρ q=>(f ρ q).map fun x=>.rt x.1 x.2
theorem aC4(h:UE X C e f):US X C (.Return (some e) pos) (T4 f):=fun ρ q fl w no=>by
 obtain⟨⟨d,q1⟩,w1,w2⟩:=Option.map_eq_some_iff.mp w
 cases w2
 obtain⟨l1,a1⟩:=h ρ q d q1 w1 no
 exact⟨rfl,fun b as l=>B5 (ad0 (a1 b as l)) fun En σ H ⟨Hf,st,k⟩=>⟨Hf,st,fun v H' Hf' s' e' r=>k [] _ σ v H' Hf' (by rw[List.append_nil];exact l.trans l1.symm) (by rw[List.append_nil];exact s') r⟩⟩
def uRo(i:Nat):UX:=fun ρ q=>(F8 i ρ q).map fun p=>.ro p.1 q
theorem bY8(i:Nat) (hn:X.N[i]? = some x) (hv:Vis X.env.scope x) (h1:(x==("__debug__" : Str))=false) (h2:(x==("__classdict__" : Str))=false):US X C (.Return (some (.Name x p)) pos) (uRo i):=fun ρ q fl w no=>by
 obtain⟨⟨j,o⟩,w1,w2⟩:=Option.map_eq_some_iff.mp w
 cases w2
 refine⟨rfl,fun b as l=>?_⟩
 obtain⟨a,ea,A⟩:=V3 w1 (o6 no) l hn hv h1 h2
 exact B5 (ad0 (M4 hn hv h1 h2)) fun En σ H ⟨Hf,st,k⟩=>⟨_,P9 st A.s,k [] _ σ a H Hf (by rw[List.append_nil];exact l) (by rw[List.append_nil];exact st) (by rw[List.append_nil];exact ea)⟩
def uIf(t:UB) (f g:UX):UX:=fun ρ q=>(t ρ q).bind fun x=>if x.1 then f ρ x.2 else g ρ x.2
theorem bZ0{s1 s2:List Stmt}(t:UT X C e c) (h1:USs X C s1 f) (h2:USs X C s2 g):US X C (.If e s1 s2 pos) (uIf c f g):=fun ρ q fl w no=>by
 obtain⟨⟨x,q1⟩,w1,w⟩:=Option.bind_eq_some_iff.mp w
 obtain⟨l1,a1⟩:=t ρ q x q1 w1 no
 cases x with
 | true =>
  obtain⟨o1,b1⟩:=h1 ρ q1 fl w (by rw[l1];exact no)
  exact⟨o1,fun b as l=>B5 (ao0 (a1 b as l) (b1 b as (l.trans l1.symm)) M5) fun En σ H ⟨Hf,st,k⟩=>⟨Hf,st,fun H' Hf' s' e'=>i4 ⟨Hf',s',UF.mono (fl:=fl) k e'⟩⟩⟩
 | false =>
  obtain⟨o1,b1⟩:=h2 ρ q1 fl w (by rw[l1];exact no)
  exact⟨o1,fun b as l=>B5 (ao0 (a1 b as l) M5 (b1 b as (l.trans l1.symm))) fun En σ H ⟨Hf,st,k⟩=>⟨Hf,st,fun H' Hf' s' e'=>l6 ⟨Hf',s',UF.mono (fl:=fl) k e'⟩⟩⟩
def W0:UX:=fun ρ q=>some (.nx ρ q)
theorem bo0:USs X C [] W0:=fun ρ q fl w no=>by
 cases w
 exact⟨no,fun b as l=>P4 ar5 fun En σ H ⟨Hf,st,k⟩=>ao7 k l σ H Hf st (B2.refl _)⟩
theorem bn9(h:US X C st g):USs X C [st] g:=fun ρ q fl w no=>by
 obtain⟨h1,h2⟩:=h ρ q fl w no
 exact⟨h1,fun b as l=>j7 (h2 b as l)⟩
def N8(f g:UX):UX:=fun ρ q=>(f ρ q).bind fun fl=>match fl with
 | .nx ρ' q'=>g ρ' q'
 | r=>some r
theorem aZ4{α:Type}{t:α->TS}(h:∀a,PSs X sts (t a)):PSs X sts (fun En σ H=>∃a,t a En σ H):=fun pins s σ H D I ⟨a,q⟩=>h a pins s σ H D I q
theorem br8{P:Prop}{t:TS}(h:P->PSs X sts t):PSs X sts (fun En σ H=>P/\t En σ H):=fun pins s σ H D I ⟨a,q⟩=>h a pins s σ H D I q
theorem aV5(h1:US X C st f) (h2:USs X C sts g):USs X C (st::sts) (N8 f g):=fun ρ q fl w no=>by
 obtain⟨fl1,w1,w⟩:=Option.bind_eq_some_iff.mp w
 obtain⟨o1,a1⟩:=h1 ρ q fl1 w1 no
 cases fl1 with
 | nx ρ' q' =>
  obtain⟨o2,a2⟩:=h2 ρ' q' fl w o1
  exact⟨o2,fun b as l=>P4 (M0 (a1 b as l) (aZ4 fun ex=>br8 fun(l2:(as++ex).length=q'.length)=>a2 b (as++ex) l2)) fun En σ H ⟨Hf,s,k⟩=>⟨Hf,s,fun ex σ' H' Hf' l' s' e'=>⟨ex,l',Hf',s',UF.more (UF.mono (fl:=fl) k e') ex⟩⟩⟩
 | rt d q' =>
  cases w
  exact⟨rfl,fun b as l=>P4 (M0 (a1 b as l) M5) fun En σ H ⟨Hf,s,k⟩=>⟨Hf,s,k⟩⟩
 | ro j q' =>
  cases w
  exact⟨rfl,fun b as l=>P4 (M0 (a1 b as l) M5) fun En σ H ⟨Hf,s,k⟩=>⟨Hf,s,k⟩⟩
def Cm(g:D->Rho->Option Rho):Prop:=∀as d ρ ρ1,g d ρ=some ρ1->g d (sub as ρ)=some (sub as ρ1)/\∀n,okR n ρ=true->okR n ρ1=true
def Cms(g:List D->Rho->Option Rho):Prop:=∀as d ρ ρ1,g d ρ=some ρ1->g d (sub as ρ)=some (sub as ρ1)/\∀n,okR n ρ=true->okR n ρ1=true
theorem bV4(i:Nat):Cm (O0 i):=fun as d ρ ρ1 h=>by
 cases h
 exact⟨by rw[aq7];rfl,fun n h=>as3 h⟩
theorem bA0:Cms m4:=fun as d ρ ρ1 h=>by
 cases d with
 | nil=>cases h;exact⟨rfl,fun _ h=>h⟩
 | cons=>cases h
theorem bl4(h1:Cm f) (h2:Cms g):Cms (Q2 f g):=fun as d ρ ρ1 h=>by
 cases d with
 | nil=>cases h
 | cons d ds =>
  obtain⟨ρ2,e1,e2⟩:=Option.bind_eq_some_iff.mp h
  obtain⟨a1,a2⟩:=h1 as d ρ ρ2 e1
  obtain⟨b1,b2⟩:=h2 as ds ρ2 ρ1 e2
  exact⟨by show(f d (sub as ρ)).bind _=_;rw[a1];exact b1,fun n h=>b2 n (a2 n h)⟩
theorem bV3(h:Cms g):Cm (a8 n g):=fun as d ρ ρ1 e=>by
 unfold a8 at e ⊢
 split at e
 ·split at e
  ·rename_i hl;rw[if_pos hl];exact h as _ ρ ρ1 e
  ·cases e
 ·cases e
def Z4(g:D->Rho->Option Rho) (f:UX):List D->UX
 | [],ρ,q=>some (.nx ρ q)
 | d::ds,ρ,q=>(g d ρ).bind fun ρ1=>(f ρ1 q).bind fun fl=>match fl with
  | .nx ρ' q'=>Z4 g f ds ρ' q'
  | r=>some r
def ai6(src:Rho->Option (List D)) (g:D->Rho->Option Rho) (f:UX):UX:=fun ρ q=>(src (era ρ)).bind fun ds=>Z4 g f ds ρ q
theorem av6{body:List Stmt}(cm:Cm g) (hb:USs X C body f):∀(ds:List D) (ρ:Rho) (q:Fs) (fl:UF),Z4 g f ds ρ q=some fl->okR q.length ρ=true->fl.own=true
 | [],ρ,q,fl,h,n=>by cases h;exact n
 | d::ds,ρ,q,fl,h,n=>by
  obtain⟨ρ1,e1,h⟩:=Option.bind_eq_some_iff.mp h
  obtain⟨fl1,e2,h⟩:=Option.bind_eq_some_iff.mp h
  have n1:=(cm [] d ρ ρ1 e1).2 _ n
  have o:=(hb ρ1 q fl1 e2 n1).1
  cases fl1 with
  | nx ρ' q'=>exact av6 cm hb ds ρ' q' fl h o
  | rt d q'=>cases h;rfl
  | ro j q'=>cases h;rfl
theorem bG9{body:List Stmt}(hi:JI X tg iter src) (hg:JG X tg g) (cm:Cm g) (hb:USs X C body f) (hp:PassesOwn (model X.prog X.w) X.A X.env X.xe) (hc:X.calm=true) (hs:∀x,foldedSetIterable iter X.env x=pure x):US X C (.For tg iter body [] pos) (ai6 src g f):=fun ρ q fl w no=>by
 obtain⟨ds,e1,e2⟩:=Option.bind_eq_some_iff.mp w
 refine⟨av6 cm hb ds ρ q fl e2 no,fun b as l=>?_⟩
 have body':PSs X body (fun En σ H=>∃(as':List Addr) (ρ':Rho) (q':Fs) (fl':UF),f ρ' q'=some fl'/\okR q'.length ρ'=true/\as'.length=q'.length/\tU X C b as' ρ' q' fl' En σ H):=fun pins s σ H D I ⟨as',ρ',q',fl',z1,z2,z3,z4⟩=>(hb ρ' q' fl' z1 z2).2 b as' z3 pins s σ H D I z4
 refine B5 (aZ7 hp hc (hi (era ρ) ds e1) hg body' hs) fun En σ H ⟨Hf,st,e⟩=>⟨_,Hf,st.same,by rw[← U5 as ρ];exact st.sl.era,fun J H1 Hf1 g1 Y=>?_⟩
 refine⟨fun i m σ H=>m=ds.length - i/\i<=ds.length/\∃Hf' ex ρ' q',(as++ex).length=q'.length/\okR q'.length ρ'=true/\OSt X.K C b (sub (as++ex) ρ') ((as++ex).zip q') σ H Hf'/\B2 Hf1 Hf'/\Z4 g f (ds.drop i) ρ' q'=some fl,
  ⟨ds.length,by simp,Nat.zero_le _,Hf1,[],ρ,q,by rw[List.append_nil];exact l,no,by rw[List.append_nil];exact st.grow g1,B2.refl _,by simpa using e2⟩,?_⟩
 rintro i m σ' H' ⟨rfl,hi,Hf',ex,ρ',q',l',no',a',s',hm⟩
 obtain⟨Ys,Yg⟩:=Y i H' Hf' s' a'.same
 rcases Nat.lt_or_ge i ds.length with hlt|hge
 ·right
  obtain⟨go,yl⟩:=Yg ds[i] (by simp[hlt])
  rw[List.drop_eq_getElem_cons hlt]at hm
  obtain⟨ρ1,c1,hm⟩:=Option.bind_eq_some_iff.mp hm
  obtain⟨fl1,c2,hm⟩:=Option.bind_eq_some_iff.mp hm
  obtain⟨c3,c4⟩:=cm (as++ex) _ _ _ c1
  have no1:=c4 _ no'
  have o1:=(hb ρ1 q' fl1 c2 no1).1
  refine⟨go,fun σ3 H3=>∃m',m' < ds.length - i/\m'=ds.length - (i+1)/\i+1<=ds.length/\∃Hf' ex ρ' q',(as++ex).length=q'.length/\okR q'.length ρ'=true/\OSt X.K C b (sub (as++ex) ρ') ((as++ex).zip q') σ3 H3 Hf'/\B2 Hf1 Hf'/\Z4 g f (ds.drop (i+1)) ρ' q'=some fl,fun σ3 H3 ⟨m',z1,z2⟩=>⟨m',z1,z2⟩,fun x H2 hy=>?_⟩
  obtain⟨Hf2,g2,r2⟩:=yl x H2 hy
  have a2:=a'.grow g2
  have s2:=s'.trans g2.ext
  refine⟨ds[i],sub (as++ex) ρ',sub (as++ex) ρ1,_,Hf2,c3,g2.sub,a2.sl,r2,fun σ3 sl3=>⟨as++ex,ρ1,q',fl1,c2,no1,l',Hf2,a2.slots sl3,?_⟩⟩
  cases fl1 with
  | nx ρ3 q3=>exact fun ex2 σ3 H3 Hf3 l3 a3 s3=>⟨_,by omega,rfl,hlt,Hf3,ex++ex2,ρ3,q3,by rw[← List.append_assoc];exact l3,o1,by rw[← List.append_assoc];exact a3,s2.trans s3,hm⟩
  | rt d q3 =>
   cases hm
   exact UF.more (fl:=.rt d q3) e ex
  | ro j q3 =>
   cases hm
   exact UF.more (fl:=.ro j q3) e ex
 ·left
  have:i=ds.length:=by omega
  subst this
  rw[List.drop_length]at hm
  cases hm
  exact⟨Ys (Nat.le_refl _),e ex σ' H' Hf' l' a' (g1.ext.trans s')⟩
end
end G
namespace G
open PySem PySem.Spec PyProof.Rows L2
abbrev fo0:Fo:=⟨[],[],[]⟩
def spI(K:PySem.W.Frag) (C:Addr):Sp:=fun vs H Q _=>∃x dx Hf,vs=[.ref x]/\H x=some (.ins C dx [])/\B2 Hf H/\Hf x=none/\∀H' c,Chg [x] H Hf H' Hf->FoAt K C H' Hf x c fo0->(∀y∈cells x c,y=x\/H y=none)->Q .non H'
theorem S8{H:Hp}{a b:Addr}{o:HO}(h:upd H a o b=none):b≠a/\H b=none:=by
 by_cases e:b=a
 ·subst e;rw[A3]at h;cases h
 ·rw[A4 e]at h;exact⟨e,h⟩
theorem by0{K:PySem.W.Frag}{C x dx d lb lf:Addr}{H Hf:Hp}(hx:H x=some (.ins C dx [])) (ss:B2 Hf H) (fx:Hf x=none) (h1:H d=none) (h2:upd (upd H d (.dK [])) x (.ins C dx [("sheets", .ref d)]) lb=none)
  (h3:upd (upd (upd (upd H d (.dK [])) x (.ins C dx [("sheets", .ref d)])) lb (.lst [])) x (.ins C dx [("sheets", .ref d),("steps_back", .ref lb)]) lf=none) :
  ∃c,Chg [x] H Hf (upd (upd (upd (upd (upd (upd H d (.dK [])) x (.ins C dx [("sheets", .ref d)])) lb (.lst [])) x (.ins C dx [("sheets", .ref d),("steps_back", .ref lb)])) lf (.lst [])) x (.ins C dx [("sheets", .ref d),("steps_back", .ref lb),("steps_forth", .ref lf)])) Hf
   /\ FoAt K C (upd (upd (upd (upd (upd (upd H d (.dK [])) x (.ins C dx [("sheets", .ref d)])) lb (.lst [])) x (.ins C dx [("sheets", .ref d),("steps_back", .ref lb)])) lf (.lst [])) x (.ins C dx [("sheets", .ref d),("steps_back", .ref lb),("steps_forth", .ref lf)])) Hf x c fo0/\∀y∈cells x c,y=x\/H y=none:=by
 obtain⟨n1,h2⟩:=S8 h2
 obtain⟨n2,h2⟩:=S8 h2
 obtain⟨n3,h3⟩:=S8 h3
 obtain⟨n4,h3⟩:=S8 h3
 obtain⟨_,h3⟩:=S8 h3
 obtain⟨n5,h3⟩:=S8 h3
 have nd:d≠x:=fun z=>by rw[z,hx]at h1;cases h1
 have fr:∀y,H y=none->Hf y=none:=fun y h=>ss.free h
 have keep:∀b o,b≠x->H b=some o->upd (upd (upd (upd (upd (upd H d (.dK [])) x (.ins C dx [("sheets", .ref d)])) lb (.lst [])) x (.ins C dx [("sheets", .ref d),("steps_back", .ref lb)])) lf (.lst [])) x (.ins C dx [("sheets", .ref d),("steps_back", .ref lb),("steps_forth", .ref lf)]) b=some o:=fun b o hb e=>by
  rw[A4 hb,A4 (A9 e h3),A4 hb,A4 (A9 e h2),A4 hb,A4 (A9 e h1)];exact e
 refine⟨⟨dx,d,lb,lf⟩,⟨fun b o hb e=>keep b o (by simpa using hb) e,fun b h=>?_,fun b o e=>keep b o (A9 e fx) (ss b o e),B2.refl _,fun b h=>.inl h⟩,⟨A3,⟨[],?_,rfl⟩,⟨[],?_,rfl⟩,⟨[],?_,rfl⟩,n4.symm,fun y hy=>?_⟩,fun y hy=>?_⟩
 ·by_cases e:b=x
  ·rw[e,A3];exact fun z=>by cases z
  ·obtain⟨o,ho⟩:=aL8 h;exact X8 (keep b o e ho)
 ·rw[A4 nd,A4 n5.symm,A4 nd,A4 n2.symm,A4 nd,A3]
 ·rw[A4 n1,A4 n4.symm,A4 n1,A3]
 ·rw[A4 n3,A3]
 ·simp only[List.mem_cons,List.not_mem_nil,or_false]at hy
  rcases hy with rfl|rfl|rfl|rfl
  ·exact fx
  ·exact fr _ h1
  ·exact fr _ h2
  ·exact fr _ h3
 ·simp only[List.mem_cons,List.not_mem_nil,or_false]at hy
  rcases hy with rfl|rfl|rfl|rfl
  ·exact .inl rfl
  ·exact .inr h1
  ·exact .inr h2
  ·exact .inr h3
section
variable {P:Program}{w:World}{K:PySem.W.Frag}{mg:Str->Option Value}{base:Heap}{C:Addr}
theorem bx9(Fc:FoC K C) (d:Fd) (hN:d.N=[("self" : Str)]) (hp:d.ps.length=1) (ok:d.okB=true) (hl:Y8 d.c=true) (Fn:Fun K d.x qual d.st f fd)
  (hb:A7 d.st=[.Assign [.Attribute (.Name "self" p1) "sheets" p2] (.Dict [] [] p3) p4,.Assign [.Attribute (.Name "self" p5) "steps_back" p6] (.List [] p7) p8,.Assign [.Attribute (.Name "self" p9) "steps_forth" p10] (.List [] p11) p12]):FnOk P w K mg base CX0 (k+1) f fd d.ps (spI K C):=by
 have Sc:=Fd.sc ok
 refine Fn.ok Sc (fun vs H Q E h=>?_) fun cdv A outer s H vs Q E hr hsp=>?_
 ·obtain⟨x,dx,Hf,rfl,_⟩:=h
  simp[hp]
 obtain⟨x,dx,Hf,rfl,hx,ss,fx,kk⟩:=hsp
 rw[hb]
 have v:∀{p},PE (t9 CX0 P w K mg base d.N qual (B3 d.st) f cdv A outer s H E).nox (.Name "self" p) (bI0 0):=fun{p}=>by
  have:=List.all_eq_true.mp hl "self" (by show _∈d.N;rw[hN];simp)
  simp only[Bool.and_eq_true]at this
  have h4:=this.2
  refine M4 (show d.N[0]? = _ by rw[hN];rfl) ?_ (by decide) (by decide)
  split at h4
  ·rename_i e;exact .inl e
  ·cases h4
 have s0:(start d.N [V.ref x])[0]? = some (some (.ref x)):=by rw[hN];rfl
 refine⟨_,M0 (m9 v bb0 rfl) (M0 (m9 v (ak0 F6) rfl) (j7 (m9 v (ak0 F6) rfl))),fun d h1=>⟨_,s0,x,C,dx,[],rfl,?_,Fc.cl,Fc.n1,by show 0 < 1000;decide,by show 0<=sizeLine;decide,fun lb h2=>⟨_,s0,x,C,dx,[("sheets", .ref d)],rfl,?_,Fc.cl,Fc.n2,by show 1 < 1000;decide,by show 0<=sizeLine;decide,fun lf h3=>⟨_,s0,x,C,dx,[("sheets", .ref d),("steps_back", .ref lb)],rfl,?_,Fc.cl,Fc.n3,by show 2 < 1000;decide,?_⟩⟩⟩⟩
 ·rw[A4 (A9 hx h1)];exact hx
 ·rw[A4 (fun z=>by rw[← z]at h2;rw[A3]at h2;cases h2),A3];rfl
 ·rw[A4 (fun z=>by rw[← z]at h3;rw[A3]at h3;cases h3),A3];rfl
 ·obtain⟨c,c1,c2,c3⟩:=by0 (K:=K) hx ss fx h1 h2 h3
  exact kk _ c c1 c2 c3
end
section
variable {K:PySem.W.Frag}{C:Addr}{b:Bs}{ρ:Rho}{os:Os}{σ:L2.St}{H Hf H' Hf':Hp}
theorem OSt.add(st:OSt K C b ρ os σ H Hf) (g:Grow H Hf H' Hf') (f:FoAt K C H' Hf' x c o) (fr:∀y∈cells x c,H y=none):OSt K C b ρ (os++[(x,o)]) σ H' Hf':=by
 obtain⟨R,r1,r2,r3⟩:=st.ob
 have st':=st.grow g
 have r1':=r1.chg (S:=[]) (Chg.of g) (by simp)
 obtain⟨R',q1,q2⟩:=r1'.snoc f fun y hy z=>r1.there y z (fr y hy)
 refine⟨st'.gr,R',q1,fun y hy=>(q2 y hy).elim (r2 y) fun z=>.inr ?_,r3.chg (S:=[]) (Chg.of g) (by simp) fun x h hx=>?_⟩
 ·exact Classical.byContradiction fun w=>st.gr.kp y w (fr y z)
 ·obtain⟨h1,h2⟩:=V7 h
  exact at4 (fun z=>(q2 x z).elim h1 fun w=>hx (fr x w)) h2
end
end G
namespace G
open PySem PySem.Spec PyProof.Rows L2
theorem Slots.setO{K:PySem.W.Frag}{H0 H Hf:Hp}{ρ:Rho}{σ:L2.St}{i:Nat}{a:Addr}(s:Slots K H0 ρ σ H Hf):Slots K H0 (ρ.set i (some (.opq a))) (σ.set i (some (.ref a))) H Hf:=by
 have own:∀(j:Nat) (ds:List D),(ρ.set i (some (.opq a)))[j]? = some (some (.own ds))->i≠j/\ρ[j]? = some (some (.own ds)):=fun j ds e=>by
  rw[List.getElem?_set]at e
  split at e
  ·split at e<;>cases e
  ·rename_i h;exact⟨h,e⟩
 refine⟨by simp[s.len],fun j b e=>?_,fun j k d1 d2 c h1 h2 h3 h4=>?_⟩
 ·rw[List.getElem?_set]at e
  split at e
  ·rename_i h
   subst h
   split at e
   ·rename_i hl
    cases e
    exact⟨_,List.getElem?_set_self (by rw[← s.len];exact hl),rfl⟩
   ·cases e
  ·rename_i h
   obtain⟨v,v1,v2⟩:=s.is j b e
   exact⟨v,by rw[List.getElem?_set_ne h];exact v1,v2⟩
 ·obtain⟨n1,e1⟩:=own j d1 h1
  obtain⟨n2,e2⟩:=own k d2 h2
  rw[List.getElem?_set_ne n1]at h3
  rw[List.getElem?_set_ne n2]at h4
  exact s.apart j k d1 d2 c e1 e2 h3 h4
theorem ag6{as:List Addr}{ρ:Rho}{n:Nat}(h:okR n ρ=true) (l:as.length=n) (a:Addr) (i:Nat):sub (as++[a]) (ρ.set i (some (.opq n)))=(sub as ρ).set i (some (.opq a)):=by
 subst l
 have:=aw0 h [a]
 unfold sub at this ⊢
 rw[List.map_set,this]
 congr 1
 show some (B.opq _)=_
 rw[List.getD_eq_getElem?_getD,List.getElem?_append_right (Nat.le_refl _),Nat.sub_self]
 rfl
theorem u6{as:List Addr}{q:Fs}(l:as.length=q.length) (a:Addr) (o:Fo):(as++[a]).zip (q++[o])=as.zip q++[(a,o)]:=by rw[List.zip_append l];rfl
def UN(X:Cx) (C:Addr) (e:Expr) (g:Rho->Option Fo):Prop:=∀ρ q o,g (era ρ)=some o->∀b (as:List Addr),as.length=q.length->PE X e (fun σ H Q=>∃Hf,OSt X.K C b (sub as ρ) (as.zip q) σ H Hf/\∀a c H' Hf',Grow H Hf H' Hf'->FoAt X.K C H' Hf' a c o->(∀y∈cells a c,H y=none)->Q (.ref a) H')
def bJ2(K:PySem.W.Frag) (C:Addr) (n:Nat) (F:List D->Option Fo):Sp:=fun vs H Q _=>vs.length=n/\∃Hf ds o,B2 Hf H/\Reps K Hf ds vs/\F ds=some o/\∀a c H' Hf',Grow H Hf H' Hf'->FoAt K C H' Hf' a c o->(∀y∈cells a c,H y=none)->Q (.ref a) H'
def bB1(X:Cx) (C:Addr) (x:Str):Prop:=∃k f fd ps,FnOk X.prog X.w X.K X.mg X.base CX0 k f fd ps (spI X.K C)/\Room (k+1) X.A/\Mk X.K C f/\N7 X.K fd ps []/\X.mg x=some (.ref C)
def ci9(X:Cx) (C:Addr) (x:Str) (F:List D->Option Fo) (n:Nat):Prop:=∃k f fd ps,FnOk X.prog X.w X.K X.mg X.base CX0 k f fd ps (bJ2 X.K C n F)/\Room k X.A/\X.mg x=some (.ref f)/\PySem.W.keepIn X.K (.ref f)=true/\N7 X.K fd ps []
section
variable {X:Cx}{C:Addr}
theorem ba6(M:bB1 X C x) (hg:Gl X x) (hdb:(x==("__debug__" : Str))=false):PE X (.Call (.Name x p) [] [] pos) (fun σ H Q=>∃Hf,B2 Hf H/\∀a c H' Hf',Grow H Hf H' Hf'->FoAt X.K C H' Hf' a c fo0->(∀y∈cells a c,H y=none)->Q (.ref a) H'):=by
 obtain⟨k,f,fd,ps,F,hr,M,hb,hm⟩:=M
 refine A5 (ba7 M F hr hg hm hb .nil aa0 hdb) fun σ H Q ⟨Hf,ss,kk⟩=>fun y dx h1 h2 h3=>?_
 have g1:Grow H Hf (upd H dx (.own y)) Hf:=Grow.made ss h2
 have g2:Grow (upd H dx (.own y)) Hf (upd (upd H dx (.own y)) y (.ins C dx [])) Hf:=Grow.made g1.sub (by rw[A4 h3.symm];exact h1)
 have g:=g1.trans g2
 refine⟨y,dx,Hf,rfl,A3,g.sub,ss.free h1,fun H' c ch fo cl=>⟨rfl,kk y c H' Hf ⟨fun z u e=>ch.big z u (by simp;exact A9 e h1) (g.big z u e),ch.sub,B2.refl _,fun _ h=>.inl h⟩ fo fun z hz=>?_⟩⟩
 rcases cl z hz with rfl|h
 ·exact h1
 ·exact(S8 (S8 h).2).2
theorem bo4(M:bB1 X C x) (hg:Gl X x) (hdb:(x==("__debug__" : Str))=false):UN X C (.Call (.Name x p) [] [] pos) (fun _=>some fo0):=fun ρ q o w b as l=>by
 cases w
 exact A5 (ba6 M hg hdb) fun σ H Q ⟨Hf,st,kk⟩=>⟨Hf,st.same,kk⟩
theorem bo5{e:Expr}{es:List Expr}(N:ci9 X C x F n) (hg:Gl X x) (ha:JA X (e::es) g) (hn:(e::es).length=n) (hdb:(x==("__debug__" : Str))=false) (he:starEach (e::es) X.env=(false,eval e X.env)::starEach es X.env) (hpl:(backTo pos (starEach es X.env)).any (·.1)=false) :
  UN X C (.Call (.Name x p) (e::es) [] pos) (fun ρ=>(g ρ).bind F):=fun ρ q o w b as l=>by
 obtain⟨ds,h1,h2⟩:=Option.bind_eq_some_iff.mp w
 obtain⟨k,f,fd,ps,Fk,hr,hm,hk,hb⟩:=N
 refine A5 (ar7 Fk hr hg hm hk hb .nil aa0 (fun pos pins s σ H Q I t=>ha.run (era ρ) ds h1 pos pins s σ H Q I t) hdb he hpl) fun σ H Q ⟨Hf,st,kk⟩=>?_
 refine⟨_,Hf,st.same,by rw[← U5 as ρ];exact st.sl.era,fun vs H1 Hf1 g1 r1=>⟨?_,Hf1,ds,o,g1.sub,by rw[List.append_nil];exact r1,h2,fun a c H2 Hf2 g2 fo fr=>kk a c H2 Hf2 (g1.trans g2) fo fun y hy=>g1.big.free (fr y hy)⟩⟩
 rw[List.append_nil,r1.length,ha.len _ ds h1,hn]
def bH5(i:Nat) (g:Rho->Option Fo):UX:=fun ρ q=>(g (era ρ)).map fun o=>.nx (ρ.set i (some (.opq q.length))) (q++[o])
theorem ah1{ρ:Rho}{q:Fs}(h:okR q.length ρ=true) (i:Nat) (o:Fo):okR (q++[o]).length (ρ.set i (some (.opq q.length)))=true:=ah0 (bc2 h (by simp)) (by intro j z;cases z;simp)
theorem bG7(i:Nat) (hN:X.N.Nodup) (h:UN X C e g) (hi:X.N[i]? = some x) (hx:Loc X.env.scope x) (hs:swapsWith e (some (.Name x pos')) pos.line X.env=pure false) (hf:X.fn x=true\/X.env.scope.names.lookup x=some .local):US X C (.Assign [.Name x pos'] e pos) (bH5 i g):=fun ρ q fl w no=>by
 obtain⟨o,w1,w2⟩:=Option.map_eq_some_iff.mp w
 cases w2
 refine⟨ah1 no i o,fun b as l=>B5 (d9 hN hi hx (h ρ q o w1 b as l) hs hf) fun En σ H ⟨Hf,st,k⟩=>⟨Hf,st,fun a c H' Hf' g fo fr=>?_⟩⟩
 have st2:=st.add g fo fr
 exact k [a] _ H' Hf' (by simp[l]) (by rw[ag6 no l,u6 l];exact st2.slots st2.sl.setO) g.ext
def bZ4(i j:Nat) (f g:Rho->Option Fo):UX:=fun ρ q=>(f (era ρ)).bind fun o=>(g (era ρ)).map fun o'=>.nx ((ρ.set i (some (.opq q.length))).set j (some (.opq (q++[o]).length))) (q++[o]++[o'])
theorem bG5{kt k2 pt2} (hN:X.N.Nodup) (h1:UN X C ea f) (h2:UN X C eb g) (hw:swappedStores [.Tuple [.Name x px,.Name y py] kt pt] (.Tuple [ea,eb] k2 pt2) X.env=pure (some [x,y])) (hij:i≠j)
  (hi:X.N[i]? = some x) (hj:X.N[j]? = some y) (hx:X.env.scope.names.lookup x=some .local) (hy:X.env.scope.names.lookup y=some .local) (hc:X.calm=true) (he1:starEach [ea,eb] X.env=(false,eval ea X.env)::starEach [eb] X.env) (he2:starEach [eb] X.env=(false,eval eb X.env)::starEach [] X.env)
  (hs:swapsWithSole [.Tuple [.Name x px,.Name y py] kt pt] (.Tuple [ea,eb] k2 pt2) pos.line X.env=pure false):US X C (.Assign [.Tuple [.Name x px,.Name y py] kt pt] (.Tuple [ea,eb] k2 pt2) pos) (bZ4 i j f g):=fun ρ q fl w no=>by
 obtain⟨o,w1,w⟩:=Option.bind_eq_some_iff.mp w
 obtain⟨o',w2,w3⟩:=Option.map_eq_some_iff.mp w
 cases w3
 have no2:=ah1 no i o
 refine⟨ah1 no2 j o',fun b as l=>?_⟩
 have second:PE X eb (fun σ H Q=>∃a,∃Hf,OSt X.K C b (sub (as++[a]) ρ) ((as++[a]).zip (q++[o])) σ H Hf/\∀a c H' Hf',Grow H Hf H' Hf'->FoAt X.K C H' Hf' a c o'->(∀y∈cells a c,H y=none)->Q (.ref a) H'):=fun pins s σ H Q I ⟨a,t⟩=>h2 ρ (q++[o]) o' w2 b (as++[a]) (by simp[l]) pins s σ H Q I t
 refine B5 (aZ6 hc hN hi hj hij hx hy (B8 (h1 ρ q o w1 b as l) (B8 second F6 he2) he1) hw hs) fun En σ H ⟨Hf,st,k⟩=>⟨Hf,st,fun a c H1 Hf1 g1 fo1 fr1=>?_⟩
 have st1:=st.add g1 fo1 fr1
 refine⟨a,Hf1,by rw[u6 l,aw0 (by rw[l];exact no)];exact st1,fun a' c' H2 Hf2 g2 fo2 fr2=>⟨.ref a,.ref a',rfl,?_⟩⟩
 have st2:=st1.add g2 fo2 fr2
 have l1:(as++[a]).length=(q++[o]).length:=by simp[l]
 refine k [a,a'] _ H2 Hf2 (by simp[l]) ?_ (g1.ext.trans g2.ext)
 rw[show as++[a,a']=as++[a]++[a'] by simp,ag6 no2 l1,ag6 no l,u6 l1,u6 l]
 exact st2.slots st2.sl.setO.setO
def bZ5(i:Nat) (f:DE):UX:=fun ρ q=>(F8 i ρ q).bind fun p=>(aq8 (p.2.m.map (·.1))).bind fun _=>(f (era ρ)).map fun _=>.nx ρ q
end
end G
namespace G
open PySem PySem.Spec PyProof.Rows L2
section
variable {X:Cx}{C:Addr}
theorem bo1(i:Nat) (N:bX1 X C) (cc:FoC X.K C) (hn:X.N[i]? = some x) (hv:Vis X.env.scope x) (h1:(x==("__debug__" : Str))=false) (h2:(x==("__classdict__" : Str))=false) (he:JE X e f) (hl:(p2.endLine==p3.line)=true) (hl2:(p4.endLine==p5.line)=true) (hst:starEach [e] X.env=[(false,eval e X.env)])
  (hfew:((backTo p5 (starEach [e] X.env)).all (fun x=>!x.1)&&(backToKw p5 (keywordEach [] X.env)).all (fun x=>x.1.isSome)
   && decide (([e]:List Expr).length+([]:List Keyword).length+(if([]:List Keyword).isEmpty then 0 else 1) < 30))=true)
  (hs:swapsWith (.Call (.Attribute (.Call (.Attribute (.Name x p) "names" p2) [] [] p3) "append" p4) [e] [] p5) none p6.line X.env=pure false) :
  US X C (.Expr (.Call (.Attribute (.Call (.Attribute (.Name x p) "names" p2) [] [] p3) "append" p4) [e] [] p5) p6) (bZ5 i f):=fun ρ q fl w no=>by
 obtain⟨⟨j,o⟩,w1,w⟩:=Option.bind_eq_some_iff.mp w
 obtain⟨out,w2,w⟩:=Option.bind_eq_some_iff.mp w
 obtain⟨d,w3,w4⟩:=Option.map_eq_some_iff.mp w
 cases w4
 refine⟨no,fun b as l=>?_⟩
 obtain⟨a,ea,A⟩:=V3 w1 (o6 no) l hn hv h1 h2
 exact B5 (bt4 N cc A w2 he w3 (fun s=>by rw[← U5 as ρ];exact s.era) hl hl2 hst (by rfl) hfew hs) fun En σ H ⟨Hf,st,k⟩=>⟨Hf,st,fun σ' H' Hf' s' e'=>ao7 k l σ' H' Hf' s' e'⟩
end
def bq7(g:UX) (n:Nat):List D->Option D:=fun ds=>(g (P6 n ds) []).bind fun fl=>match fl with
 | .rt d _=>some d
 | .nx _ _=>some .none
 | _=>none
def cb7(g:UX) (n:Nat):List D->Option Fo:=fun ds=>(g (P6 n ds) []).bind fun fl=>match fl with
 | .ro j q=>q[j]?
 | _=>none
theorem an5(n m:Nat) (ds:List D):okR m (P6 n ds)=true:=by
 unfold okR P6
 rw[List.all_eq_true]
 intro x hx
 rcases List.mem_append.mp hx with h|h
 ·obtain⟨d,_,rfl⟩:=List.mem_map.mp h;rfl
 ·rw[(List.mem_replicate.mp h).2]
theorem aD1(n:Nat) (ds:List D):sub [] (P6 n ds)=P6 n ds:=by
 unfold sub P6
 rw[List.map_append,List.map_map,List.map_replicate]
 rfl
section
variable {P:Program}{w:World}{K:PySem.W.Frag}{mg:Str->Option Value}{base:Heap}{x qual:Str}{st:Stmt}{f:Addr}{fd:FuncData}{N ps:List Str}{k:Nat}{g:UX}{C:Addr}
theorem aI4{H Hf:Hp}{ds:List D}{vs:List V}(ss:B2 Hf H) (rp:Reps K Hf ds vs):OSt K C ⟨[],H,Hf⟩ (sub [] (P6 N.length ds)) (([]:List Addr).zip ([]:Fs)) (start N vs) H Hf :=
 ⟨Chg.of (Grow.refl ss),[],.nil,by simp,by rw[aD1];exact d6 rp⟩
theorem bi7(F:Fun K x qual st f fd) (S:FnScope N ps (B3 st))
  (hb:∀(cdv:Value) (A:Around) (outer:List Env) (s:Shared) (H:Hp) (E:XK),Room k (A.deeper (envOfC qual (B3 st) s.heap.objs.size f cdv))->USs (t9 CX0 P w K mg base N qual (B3 st) f cdv A outer s H E).nox C (A7 st) g) :
  FnOk P w K mg base CX0 (k+1) f fd ps (spF K ps.length (bq7 g N.length)):=by
 refine F.ok S (fun vs H Q E h=>h.1) fun cdv A outer s H vs Q E hr hsp=>?_
 obtain⟨hlen,Hf,ds,d,ss,rp,e,kk⟩:=hsp
 obtain⟨fl,e1,e2⟩:=Option.bind_eq_some_iff.mp e
 obtain⟨_,h⟩:=hb cdv A outer s H E hr _ [] fl e1 (an5 _ _ _)
 refine⟨_,h ⟨[],H,Hf⟩ [] rfl,Hf,aI4 ss rp,?_⟩
 cases fl with
 | rt d' q=>cases e2;exact fun ex ρ σ v H' Hf' l s' r=>kk v H' Hf' s'.gr.grow r
 | nx ρ q=>cases e2;exact fun ex σ' H' Hf' l s' _=>kk _ H' Hf' s'.gr.grow rfl
 | ro j q=>cases e2
theorem bi8(F:Fun K x qual st f fd) (S:FnScope N ps (B3 st))
  (hb:∀(cdv:Value) (A:Around) (outer:List Env) (s:Shared) (H:Hp) (E:XK),Room k (A.deeper (envOfC qual (B3 st) s.heap.objs.size f cdv))->USs (t9 CX0 P w K mg base N qual (B3 st) f cdv A outer s H E).nox C (A7 st) g) :
  FnOk P w K mg base CX0 (k+1) f fd ps (bJ2 K C ps.length (cb7 g N.length)):=by
 refine F.ok S (fun vs H Q E h=>h.1) fun cdv A outer s H vs Q E hr hsp=>?_
 obtain⟨hlen,Hf,ds,o,ss,rp,e,kk⟩:=hsp
 obtain⟨fl,e1,e2⟩:=Option.bind_eq_some_iff.mp e
 obtain⟨_,h⟩:=hb cdv A outer s H E hr _ [] fl e1 (an5 _ _ _)
 refine⟨_,h ⟨[],H,Hf⟩ [] rfl,Hf,aI4 ss rp,?_⟩
 cases fl with
 | rt d' q=>cases e2
 | nx ρ q=>cases e2
 | ro j q =>
  intro ex ρ σ a H' Hf' l s' hj
  obtain⟨R,r1,r2,_⟩:=s'.ob
  obtain⟨c,f1,f2,_⟩:=r1.focus (List.getElem?_zip_eq_some.mpr ⟨hj,e2⟩)
  exact kk a c H' Hf' s'.gr.grow f1 fun y hy=>(r2 y (f2 y hy)).elim (fun z=>nomatch z) id
end
end G
namespace G
open PySem PySem.Spec PyProof.Rows L2
section
variable {K:PySem.W.Frag}{C:Addr}{b:Bs}{ρ:Rho}{os:List (Addr×Fo)}{σ:L2.St}{H Hf H' Hf' H0:Hp}
theorem OSt.mkOwn{i:Nat}{p:Addr}{ds:List D}{vs:List V}(s:OSt K C b ρ os σ H Hf) (hp:H p=none) (r:Reps K Hf ds vs):OSt K C b (ρ.set i (some (.own ds))) os (σ.set i (some (.ref p))) (upd H p (.lst vs)) Hf:=by
 obtain⟨R,r1,r2,r3⟩:=s.ob
 have g:Grow H Hf (upd H p (.lst vs)) Hf:=Grow.made s.same hp
 refine⟨(s.grow g).gr,R,r1.chg (S:=[]) (Chg.of g) (by simp),r2,r3.setOwn g (at4 (fun z=>r1.there p z hp) ?_) hp A3 (s.same.free hp) r⟩
 exact Classical.byContradiction fun z=>s.gr.kp p z hp
theorem Slots.app{i:Nat}{p:Addr}{ds:List D}{vs:List V}{d:D}{w:V}(s:Slots K H0 ρ σ H Hf) (eo:ρ[i]? = some (some (.own ds))) (h1:σ[i]? = some (some (.ref p))) (h2:H p=some (.lst vs)) (h3:Hf p=none) (h4:H0 p=none) (h5:Reps K Hf ds vs) (r:Rep K Hf d w) :
  Slots K H0 (ρ.set i (some (.own (ds++[d])))) σ (upd H p (.lst (vs++[w]))) Hf:=by
 refine⟨by simpa using s.len,fun j bb z=>?_,fun j k ds1 es c q1 q2 q3 q4=>?_⟩
 ·by_cases qj:i=j
  ·subst qj
   have hi:i < ρ.length:=(List.getElem?_eq_some_iff.mp eo).1
   rw[List.getElem?_set_self hi]at z
   cases z
   exact⟨_,h1,p,vs++[w],rfl,A3,h3,h4,h5.append ⟨w,[],rfl,r,rfl⟩⟩
  ·rw[List.getElem?_set_ne qj]at z
   obtain⟨u,z1,z2⟩:=s.is j bb z
   refine⟨u,z1,?_⟩
   cases bb with
   | val d=>exact z2
   | exc C=>exact z2
   | opq _=>exact z2
   | own dd =>
    obtain⟨a',vs',y1,y2,y3,y4,y5⟩:=z2
    have ne:a'≠p:=fun zz=>by
     subst zz y1
     exact qj (s.apart i j ds dd a' eo z h1 z1)
    exact⟨a',vs',y1,by rw[A4 ne];exact y2,y3,y4,y5⟩
 ·have old:∀n:Nat,(∃dd:List D,(ρ.set i (some (B.own (ds++[d]))))[n]? = some (some (B.own dd)))->∃dd:List D,ρ[n]? = some (some (B.own dd)):=fun n ⟨dd,z⟩=>by
   by_cases qj:i=n
   ·subst qj;exact⟨ds,eo⟩
   ·rw[List.getElem?_set_ne qj]at z;exact⟨_,z⟩
  obtain⟨d1,q1'⟩:=old j ⟨_,q1⟩
  obtain⟨d2,q2'⟩:=old k ⟨_,q2⟩
  exact s.apart j k d1 d2 c q1' q2' q3 q4
theorem OSt.app{i:Nat}{ds:List D}(s:OSt K C b ρ os σ H Hf) (eo:ρ[i]? = some (some (.own ds))):∃p vs,σ[i]? = some (some (.ref p))/\H p=some (.lst vs)/\Reps K Hf ds vs/\∀w d,Rep K Hf d w->OSt K C b (ρ.set i (some (.own (ds++[d])))) os σ (upd H p (.lst (vs++[w]))) Hf:=by
 obtain⟨R,r1,r2,r3⟩:=s.ob
 obtain⟨v,h1,p,vs,rfl,h2,h3,h4,h5⟩:=r3.is i _ eo
 refine⟨p,vs,h1,h2,h5,fun w d r=>?_⟩
 obtain⟨n1,n2⟩:=V7 h4
 have g:Chg [p] H Hf (upd H p (.lst (vs++[w]))) Hf:=Chg.wr s.same (by simp) h3
 exact⟨s.gr.trans g fun x hx=>.inr (by rw[List.mem_singleton.mp hx];exact n2),R,r1.chg g fun x hx z=>n1 (by rw[← List.mem_singleton.mp z];exact hx),r2,r3.app eo h1 h2 h3 h4 h5 r⟩
theorem FoAt.frz(h:FoAt K C H Hf a c o) (e:B2 Hf Hf') (n:∀x∈cells a c,Hf' x≠none->Hf x≠none):FoAt K C H Hf' a c o:=by
 obtain⟨kvs,e1,r1⟩:=h.dic
 obtain⟨vb,e2,r2⟩:=h.bk
 obtain⟨vf,e3,r3⟩:=h.fo
 exact⟨h.ins,⟨kvs,e1,r1.mono e⟩,⟨vb,e2,r2.mono e⟩,⟨vf,e3,r3.mono e⟩,h.ne,fun x hx=>Classical.byContradiction fun z=>n x hx z (h.fr x hx)⟩
theorem Objs.frz(h:Objs K C H Hf os R) (e:B2 Hf Hf') (n:∀x∈R,Hf' x≠none->Hf x≠none):Objs K C H Hf' os R:=by
 induction h with
 | nil=>exact .nil
 | cons f d t ih=>exact .cons (f.frz e fun x hx=>n x (List.mem_append_left _ hx)) d (ih fun x hx=>n x (List.mem_append_right _ hx))
theorem OSt.frz(s:OSt K C b ρ os σ H Hf) (i:Nat):∃Hf',B2 Hf Hf'/\OSt K C b (frz i ρ) os σ H Hf':=by
 obtain⟨R,r1,r2,r3⟩:=s.ob
 let H1:Hp:=fun x=>if(hid b R x).isNone then none else H x
 have h1:∀x,hid b R x=none->H1 x=none:=fun x h=>by show(if _ then _ else _)=_;rw[h];rfl
 have h2:∀x,H1 x=none->H x≠none->hid b R x=none:=fun x h hx=>by
  cases q:hid b R x with
  | none=>rfl
  | some y=>exact(hx (by rw[← h];show _=(if _ then _ else _);rw[q];rfl)).elim
 have g1:Grow H1 Hf H Hf:=⟨fun x o e=>by
  cases q:hid b R x with
  | none=>rw[h1 x q]at e;cases e
  | some y=>rw[← e];show _=(if _ then _ else _);rw[q];rfl,s.same,B2.refl _,fun _ h=>.inl h⟩
 obtain⟨Hf',e,a⟩:=bi4 i (⟨g1,r3.chg (S:=[]) (Chg.of (Grow.refl s.same)) (by simp) fun x h _=>h1 x h⟩:At K H1 Hf ρ σ H Hf)
 have nR:∀x∈R,Hf' x≠none->Hf x≠none:=fun x hx z=>(a.gr.new x z).elim id fun y=>((V7 (h2 x y (r1.there x hx))).1 hx).elim
 refine⟨Hf',e,⟨s.gr.big,s.gr.kp,a.gr.sub,s.gr.ext.trans e,fun x z=>(a.gr.new x z).elim (s.gr.new x) fun y=>.inr ?_⟩,R,r1.frz e nR,r2,a.sl.chg (S:=[]) (Chg.of (Grow.refl a.gr.sub)) (by simp) h2⟩
 by_cases hx:H x=none
 ·exact Classical.byContradiction fun w=>s.gr.kp x w hx
 ·exact(V7 (h2 x y hx)).2
end
theorem aI2(as:List Addr) (ρ:Rho) (i:Nat) (ds:List D):sub as (ρ.set i (some (.own ds)))=(sub as ρ).set i (some (.own ds)):=by unfold sub;rw[List.map_set];rfl
theorem bp5(as:List Addr) (ρ:Rho) (i:Nat):sub as (frz i ρ)=frz i (sub as ρ):=by
 have e:∀ds,(sub as ρ)[i]? = some (some (B.own ds))↔ρ[i]? = some (some (.own ds)):=fun ds=>by
  unfold sub
  rw[List.getElem?_map]
  cases q:ρ[i]? with
  | none=>simp
  | some x =>
   cases x with
   | none=>simp[bp6]
   | some x=>cases x<;>simp[bp6]
 unfold frz
 split
 ·rename_i ds h
  rw[(e ds).mpr h,aq7]
 ·rename_i h
  split
  ·rename_i ds h2
   exact(h ds ((e ds).mp h2)).elim
  ·rfl
theorem bu5{ρ:Rho}{n i:Nat}(h:okR n ρ=true):okR n (frz i ρ)=true:=by
 unfold frz
 split
 ·exact as3 h
 ·exact h
section
variable {X:Cx}{C:Addr}{st:Stmt}{sts:List Stmt}
abbrev UL:=Rho->Fs->Option (List D×Fs)
def UAs(X:Cx) (C:Addr) (es:List Expr) (g:UL):Prop:=∀ρ q ds q',g ρ q=some (ds,q')->okR q.length ρ=true->q'.length=q.length/\ds.length=es.length/\∀b (as:List Addr),as.length=q.length ->
 PA X es (fun σ H Q=>∃Hf,OSt X.K C b (sub as ρ) (as.zip q) σ H Hf/\∀vs H' Hf',OSt X.K C b (sub as ρ) (as.zip q') σ H' Hf'->B2 Hf Hf'->Reps X.K Hf' ds vs->Q vs H')
def ulN:UL:=fun _ q=>some ([],q)
def ulC(f:UD) (g:UL):UL:=fun ρ q=>(f ρ q).bind fun x=>(g ρ x.2).map fun y=>(x.1::y.1,y.2)
theorem aV6:UAs X C [] ulN:=fun ρ q ds q' w _=>by
 cases w
 exact⟨rfl,rfl,fun b as l pos pins s σ H Q I ⟨Hf,st,k⟩=>F6 pos pins s σ H Q I (k [] H Hf st (B2.refl _) rfl)⟩
theorem aq4(h:UE X C e f) (r:UAs X C es g) (hs:starEach (e::es) X.env=(false,eval e X.env)::starEach es X.env):UAs X C (e::es) (ulC f g):=fun ρ q ds q' w no=>by
 obtain⟨⟨x,q1⟩,w1,w⟩:=Option.bind_eq_some_iff.mp w
 obtain⟨⟨y,q2⟩,w2,w3⟩:=Option.map_eq_some_iff.mp w
 cases w3
 obtain⟨l1,a1⟩:=h ρ q x q1 w1 no
 obtain⟨l2,n2,a2⟩:=r ρ q1 y q2 w2 (by rw[l1];exact no)
 refine⟨l2.trans l1,by simp[n2],fun b as l pos pins s σ H Q I ⟨Hf,st,k⟩=>?_⟩
 exact B8 (a1 b as l) (a2 b as (l.trans l1.symm)) hs pos pins s σ H Q I ⟨Hf,st,fun v H1 Hf1 s1 e1 r1=>⟨Hf1,s1,fun vs H2 Hf2 s2 e2 r2=>k (v::vs) H2 Hf2 s2 (e1.trans e2) ⟨v,vs,rfl,r1.mono e2,r2⟩⟩⟩
def ac5(f:UL):UD:=fun ρ q=>(f ρ q).map fun x=>(.tuple x.1,x.2)
theorem aV7(h:UAs X C es f) (hn:es.length<=1000):UE X C (.Tuple es k pos) (ac5 f):=fun ρ q d q' w no=>by
 obtain⟨⟨ds,q1⟩,w1,w2⟩:=Option.map_eq_some_iff.mp w
 cases w2
 obtain⟨l1,n1,a1⟩:=h ρ q ds q1 w1 no
 refine⟨l1,fun b as l=>A5 (aE4 (a1 b as l)) fun σ H Q ⟨Hf,st,k⟩=>⟨Hf,st,fun vs H1 Hf1 s1 e1 r=>⟨?_,fun p hp=>?_⟩⟩⟩
 ·rw[r.length,n1];exact Nat.le_of_lt (O9 hn)
 ·have g:=Grow.laid (o:=.tup vs) s1.same hp
  exact k _ _ _ (s1.grow g) (e1.trans g.ext) ⟨p,vs,rfl,SqT.of A3,r.mono g.ext⟩
def aP1(i:Nat) (f:UL):UX:=fun ρ q=>(f ρ q).map fun x=>.nx (ρ.set i (some (.own x.1))) x.2
theorem bG6(i:Nat) (hN:X.N.Nodup) (h:UAs X C es f) (hn:es.length<=1000) (hi:X.N[i]? = some x) (hx:Loc X.env.scope x) (hs:swapsWith (.List es lpos) (some (.Name x pos')) pos.line X.env=pure false) (hf:X.fn x=true\/X.env.scope.names.lookup x=some .local):US X C (.Assign [.Name x pos'] (.List es lpos) pos) (aP1 i f):=fun ρ q fl w no=>by
 obtain⟨⟨ds,q1⟩,w1,w2⟩:=Option.map_eq_some_iff.mp w
 cases w2
 obtain⟨l1,n1,a1⟩:=h ρ q ds q1 w1 no
 refine⟨ah0 (by rw[l1];exact no) (by intro _ z;cases z),fun b as l=>B5 (d9 hN hi hx (ak0 (a1 b as l)) hs hf) fun En σ H ⟨Hf,st,k⟩=>⟨Hf,st,fun vs H1 Hf1 s1 e1 r=>⟨?_,fun p hp=>?_⟩⟩⟩
 ·rw[r.length,n1];exact Nat.le_of_lt (O9 hn)
 ·exact ao7 k (l.trans l1.symm) _ _ Hf1 (by rw[aI2];exact s1.mkOwn hp r) e1
def aq5(i:Nat) (f:UD):UX:=fun ρ q=>match ρ[i]? with
 | some (some (.own ds))=>if ds.length < 16777216 then(f ρ q).map fun x=>.nx (ρ.set i (some (.own (ds++[x.1])))) x.2 else none
 | _=>none
theorem bH0(i:Nat) (h:UE X C e f) (hN:X.N[i]? = some x) (hv:Vis X.env.scope x) (hd:(x==("__debug__" : Str))=false) (hcd:(x==("__classdict__" : Str))=false)
  (hfew:((backTo cpos (starEach [e] X.env)).all (fun x=>!x.1)&&(backToKw cpos (keywordEach [] X.env)).all (fun x=>x.1.isSome)
   && decide (([e]:List Expr).length+([]:List Keyword).length+(if([]:List Keyword).isEmpty then 0 else 1) < 30))=true)
  (hline:(apos.endLine==cpos.line)=true) (hs:starEach [e] X.env=[(false,eval e X.env)]) (hsw:swapsWith (.Call (.Attribute (.Name x p) "append" apos) [e] [] cpos) none pos.line X.env=pure false) (hbase:attributeBase (.Name x p) "append" X.env (eval (.Name x p) X.env)=eval (.Name x p) X.env:=by rfl) :
  US X C (.Expr (.Call (.Attribute (.Name x p) "append" apos) [e] [] cpos) pos) (aq5 i f):=fun ρ q fl w no=>by
 unfold aq5 at w
 split at w
 ·rename_i ds eo
  split at w
  ·rename_i hz
   obtain⟨⟨d,q1⟩,w1,w2⟩:=Option.map_eq_some_iff.mp w
   cases w2
   obtain⟨l1,a1⟩:=h ρ q d q1 w1 no
   refine⟨ah0 (by rw[l1];exact no) (by intro _ z;cases z),fun b as l=>?_⟩
   have eo':(sub as ρ)[i]? = some (some (.own ds)):=by unfold sub;rw[List.getElem?_map,eo];rfl
   refine B5 (S3 (ak1 PySem.F.plainAttrs_list PySem.F.slot_list_append PySem.F.type_list_append U9 (M4 hN hv hd hcd) (B8 (a1 b as l) F6 hs) hbase hfew hline hs) hsw) fun En σ H ⟨Hf,st,k⟩=>?_
   obtain⟨p0,vs0,g1,g2,_,_⟩:=st.app eo'
   refine⟨_,g1,.inl ⟨rfl,vs0,SqL.of g2⟩,Hf,st,fun v H1 Hf1 s1 e1 r1=>?_⟩
   obtain⟨p1,vs1,g3,g4,g5,g6⟩:=s1.app eo'
   rw[g1]at g3
   cases g3
   refine⟨p0,vs1,v,rfl,rfl,g4,by rw[g5.length,sizeLine_eq];exact hz,ao7 k (l.trans l1.symm) _ _ Hf1 (by rw[aI2];exact g6 v d r1) e1⟩
  ·cases w
 ·cases w
def aC6(i:Nat) (g:UX):UX:=fun ρ q=>g (frz i ρ) q
theorem bG8(i:Nat) (h:US X C st g):US X C st (aC6 i g):=fun ρ q fl w no=>by
 obtain⟨o1,a1⟩:=h (frz i ρ) q fl w (bu5 no)
 refine⟨o1,fun b as l=>B5 (a1 b as l) fun En σ H ⟨Hf,st,k⟩=>?_⟩
 obtain⟨Hf',e,s'⟩:=st.frz i
 exact⟨Hf',by rw[bp5];exact s',UF.mono (fl:=fl) k e⟩
end
end G
namespace G
open PySem PySem.Spec PyProof.Rows L2
abbrev MD:=List (Option D)
def MxV(K:PySem.W.Frag) (Hf:Hp) (a:Addr):Option D->V->Prop
 | some d,v=>Rep K Hf d v
 | none,v=>v=.ref a
def Mxs(K:PySem.W.Frag) (Hf:Hp) (a:Addr):MD->List V->Prop
 | [],vs=>vs=[]
 | m::ms,vs=>∃v r,vs=v::r/\MxV K Hf a m v/\Mxs K Hf a ms r
abbrev DF:=Fo->MD->Option (D×Fo)
def spD(K:PySem.W.Frag) (C:Addr) (n:Nat) (F:DF):Sp:=fun vs H Q _=>vs.length=n/\∃a Hf c o ms r o',B2 Hf H/\FoAt K C H Hf a c o/\Mxs K Hf a ms vs/\F o ms=some (r,o') /\
 ∀v H' Hf' c',Chg (cells a c) H Hf H' Hf'->FoAt K C H' Hf' a c' o'->(∀x∈cells a c',x∈cells a c\/H x=none)->Rep K Hf' r v->Q v H'
def cj1(X:Cx) (C:Addr) (x:Str) (F:DF) (n:Nat):Prop:=∃k f fd ps,FnOk X.prog X.w X.K X.mg X.base CX0 k f fd ps (spD X.K C n F)/\Room k X.A/\X.mg x=some (.ref f)/\PySem.W.keepIn X.K (.ref f)=true/\N7 X.K fd ps []
section
variable {X:Cx}{C:Addr}{K:PySem.W.Frag}{Hf Hf':Hp}{a:Addr}
theorem Mxs.length:∀{ms:MD}{vs:List V},Mxs K Hf a ms vs->vs.length=ms.length
 | [],_,h=>by cases h;rfl
 | m::ms,_,⟨v,r,e,h1,h2⟩=>by subst e;simp[h2.length]
theorem Mxs.get:∀{ms:MD}{vs:List V},Mxs K Hf a ms vs->∀{i:Nat}{m:Option D},ms[i]? = some m->∃v,vs[i]? = some v/\MxV K Hf a m v
 | [],_,h,i,m,e=>by simp at e
 | m::ms,_,⟨v,r,e,h1,h2⟩,i,m',e'=>by
  subst e
  cases i with
  | zero=>simp at e';subst e';exact⟨v,rfl,h1⟩
  | succ i=>exact h2.get (i:=i) (by simpa using e')
structure JM (X:Cx) (i:Nat) (es:List Expr) (g:Rho->Option MD):Prop where
 len:∀ρ ms,g ρ=some ms->ms.length=es.length
 run:∀ρ ms,g ρ=some ms->∀a ρ',ρ'[i]? = some (some (.opq a))->(∀{H0 H Hf:Hp}{σ:L2.St},Slots X.K H0 ρ' σ H Hf->Slots X.K H0 ρ σ H Hf) ->
  PA X es (fun σ H Q=>∃H0 Hf,B2 Hf H/\Slots X.K H0 ρ' σ H Hf/\∀vs H' Hf',Grow H Hf H' Hf'->Mxs X.K Hf' a ms vs->Q vs H')
def mN:Rho->Option MD:=fun _=>some []
def mC(f:DE) (g:Rho->Option MD):Rho->Option MD:=fun ρ=>(f ρ).bind fun d=>(g ρ).map fun ms=>some d::ms
def mO(g:Rho->Option MD):Rho->Option MD:=fun ρ=>(g ρ).map fun ms=>none::ms
theorem bR9:JM X i [] mN:=⟨fun ρ ms h=>by cases h;rfl,fun ρ ms h a ρ' _ _ pos pins s σ H Q I ⟨H0,Hf,ss,sl,k⟩=>by
 cases h
 exact F6 pos pins s σ H Q I (k [] H Hf (Grow.refl ss) rfl)⟩
theorem aM4(h:JE X e f) (r:JM X i es g) (hs:starEach (e::es) X.env=(false,eval e X.env)::starEach es X.env):JM X i (e::es) (mC f g):=by
 refine⟨fun ρ ms q=>?_,fun ρ ms q a ρ' sa sb=>?_⟩
 ·obtain⟨d,h1,h2⟩:=Option.bind_eq_some_iff.mp q
  obtain⟨es',h3,h4⟩:=Option.map_eq_some_iff.mp h2
  subst h4
  simp[r.len ρ es' h3]
 ·obtain⟨d,h1,h2⟩:=Option.bind_eq_some_iff.mp q
  obtain⟨es',h3,h4⟩:=Option.map_eq_some_iff.mp h2
  subst h4
  intro pos pins s σ H Q I ⟨H0,Hf,ss,sl,k⟩
  refine B8 (h ρ d h1) (r.run ρ es' h3 a ρ' sa sb) hs pos pins s σ H Q I ⟨H0,Hf,ss,sb sl,fun v H1 Hf1 g1 r1=>⟨H0,Hf1,g1.sub,sl.grow g1,fun vs H2 Hf2 g2 r2=>?_⟩⟩
  exact k (v::vs) H2 Hf2 (g1.trans g2) ⟨v,vs,rfl,Rep.mono g2.ext r1,r2⟩
theorem bR8(r:JM X i es g) (hn:X.N[i]? = some x) (hv:Vis X.env.scope x) (h1:(x==("__debug__" : Str))=false) (h2:(x==("__classdict__" : Str))=false) (hs:starEach (.Name x p::es) X.env=(false,eval (.Name x p) X.env)::starEach es X.env):JM X i (.Name x p::es) (mO g):=by
 refine⟨fun ρ ms q=>?_,fun ρ ms q a ρ' sa sb=>?_⟩
 ·obtain⟨es',h3,h4⟩:=Option.map_eq_some_iff.mp q
  subst h4
  simp[r.len ρ es' h3]
 ·obtain⟨es',h3,h4⟩:=Option.map_eq_some_iff.mp q
  subst h4
  intro pos pins s σ H Q I ⟨H0,Hf,ss,sl,k⟩
  obtain⟨v,w1,w2⟩:=sl.is i _ sa
  cases w2
  exact B8 (M4 hn hv h1 h2) (r.run ρ es' h3 a ρ' sa sb) hs pos pins s σ H Q I ⟨_,w1,H0,Hf,ss,sl,fun vs H2 Hf2 g2 r2=>k (.ref a::vs) H2 Hf2 g2 ⟨_,vs,rfl,rfl,r2⟩⟩
def uD(i:Nat) (F:DF) (g:Rho->Option MD):UD:=fun ρ q=>(F8 i ρ q).bind fun p=>(g (era ρ)).bind fun ms=>(F p.2 ms).map fun r=>(r.1,q.set p.1 r.2)
theorem bZ3{e:Expr}{es:List Expr}(i:Nat) (N:cj1 X C y F n) (hg:Gl X y) (hdb:(y==("__debug__" : Str))=false) (hn:X.N[i]? = some x) (hv:Vis X.env.scope x) (h1:(x==("__debug__" : Str))=false) (h2:(x==("__classdict__" : Str))=false) (ha:JM X i (e::es) g) (hz:(e::es).length=n)
  (he:starEach (e::es) X.env=(false,eval e X.env)::starEach es X.env) (hpl:(backTo pos (starEach es X.env)).any (·.1)=false):UE X C (.Call (.Name y p) (e::es) [] pos) (uD i F g):=fun ρ q d q' w no=>by
 obtain⟨⟨j,o⟩,w1,w⟩:=Option.bind_eq_some_iff.mp w
 obtain⟨ms,w2,w⟩:=Option.bind_eq_some_iff.mp w
 obtain⟨⟨r,o'⟩,w3,w4⟩:=Option.map_eq_some_iff.mp w
 cases w4
 refine⟨by simp,fun b as l=>?_⟩
 obtain⟨a,ea,A⟩:=V3 w1 (o6 no) l hn hv h1 h2
 rw[aq2 ea]
 obtain⟨k,f,fd,ps,Fk,hr,hm,hk,hb⟩:=N
 refine A5 (ar7 Fk hr hg hm hk hb .nil aa0 (ha.run (era ρ) ms w2 a (sub as ρ) A.s fun s=>by rw[← U5 as ρ];exact s.era) hdb he hpl) fun σ H Q ⟨Hf,st,kk⟩=>?_
 obtain⟨c,f1,f3⟩:=st.focus A.w A.o
 refine⟨_,Hf,st.same,st.sl,fun vs H1 Hf1 g1 r1=>⟨?_,a,Hf1,c,o,ms,r,o',g1.sub,f1.grow g1,by rw[List.append_nil];exact r1,w3,fun v H2 Hf2 c' g2 f2 n2 rv=>kk v H2 Hf2 (f3 ((Chg.of g1).trans g2 fun _ h=>.inl h) f2 fun y hy=>(n2 y hy).imp id fun z=>Classical.byContradiction fun w=>(Chg.of (S:=[]) g1).kp y w z) (g1.ext.trans g2.ext) rv⟩⟩
 rw[List.append_nil,r1.length,ha.len _ ms w2,hz]
end
def ci1:Option D->Option B
 | some d=>‹d›
 | none=>some (.opq 0)
def Q6(n:Nat) (ms:MD):Rho:=ms.map ci1++List.replicate (n - ms.length) none
def l9(g:UX) (n:Nat):DF:=fun o ms=>(g (Q6 n ms) [o]).bind fun fl=>match fl with
 | .rt d q=>(q[0]?).map fun o'=>(d,o')
 | .nx _ q=>(q[0]?).map fun o'=>(.none,o')
 | _=>none
theorem aD0(n:Nat) (ms:MD):okR 1 (Q6 n ms)=true:=by
 unfold okR Q6
 rw[List.all_eq_true]
 intro x hx
 rcases List.mem_append.mp hx with h|h
 ·obtain⟨d,_,rfl⟩:=List.mem_map.mp h
  cases d<;>rfl
 ·rw[(List.mem_replicate.mp h).2]
theorem am6{K:PySem.W.Frag}{H0 H Hf:Hp}{N:List Str}{ms:MD}{vs:List V}(r:Mxs K Hf a ms vs):Slots K H0 (sub [a] (Q6 N.length ms)) (L2.start N vs) H Hf:=by
 have hl:=r.length
 have noown:∀(i:Nat) (b:B),(sub [a] (Q6 N.length ms))[i]? = some (some b)->∃m,ms[i]? = some m/\some b=bp6 [a] (ci1 m):=fun i b h=>by
  unfold Q6 sub at h
  rw[List.map_append]at h
  rcases Nat.lt_or_ge i ms.length with q|q
  ·rw[List.getElem?_append_left (by simpa using q),List.getElem?_map,List.getElem?_map]at h
   rw[List.getElem?_eq_getElem q]at h ⊢
   simp only[xms,Option.some.injEq]at h
   exact⟨ms[i],rfl,h.symm⟩
  ·rw[List.getElem?_append_right (by simpa using q),List.getElem?_map,List.getElem?_replicate]at h
   split at h<;>cases h
 refine⟨by simp[Q6,L2.start,hl],fun i b e=>?_,fun i j d1 d2 a e1 _ _ _=>?_⟩
 ·obtain⟨m,h1,h2⟩:=noown i b e
  obtain⟨v,h3,h4⟩:=r.get h1
  have hi:i < vs.length:=(List.getElem?_eq_some_iff.mp h3).1
  refine⟨v,?_,?_⟩
  ·unfold L2.start
   rw[List.getElem?_append_left (by simpa using hi),List.getElem?_map,h3];rfl
  ·cases m with
   | none=>cases h2;exact h4
   | some d=>cases h2;exact h4
 ·obtain⟨m,_,h2⟩:=noown i _ e1
  cases m<;>cases h2
section
variable {P:Program}{w:World}{K:PySem.W.Frag}{mg:Str->Option Value}{base:Heap}{x qual:Str}{st:Stmt}{f:Addr}{fd:FuncData}{N ps:List Str}{k:Nat}{g:UX}{C:Addr}
theorem bi9(F:Fun K x qual st f fd) (S:FnScope N ps (B3 st))
  (hb:∀(cdv:Value) (A:Around) (outer:List Env) (s:Shared) (H:Hp) (E:XK),Room k (A.deeper (envOfC qual (B3 st) s.heap.objs.size f cdv))->USs (t9 CX0 P w K mg base N qual (B3 st) f cdv A outer s H E).nox C (A7 st) g) :
  FnOk P w K mg base CX0 (k+1) f fd ps (spD K C ps.length (l9 g N.length)):=by
 refine F.ok S (fun vs H Q E h=>h.1) fun cdv A outer s H vs Q E hr hsp=>?_
 obtain⟨hlen,a,Hf,c,o,ms,r,o',ss,fo,rp,e,kk⟩:=hsp
 obtain⟨fl,e1,e2⟩:=Option.bind_eq_some_iff.mp e
 obtain⟨_,h⟩:=hb cdv A outer s H E hr _ [o] fl e1 (aD0 _ _)
 have fin:∀ex q ρ' σ' v H' Hf',q[0]? = some o'->OSt K C ⟨cells a c,H,Hf⟩ ρ' (([a]++ex).zip q) σ' H' Hf'->Rep K Hf' r v->Q v H':=fun ex q ρ' σ' v H' Hf' hq s' rv=>by
  obtain⟨R,r1,r2,_⟩:=s'.ob
  obtain⟨c',f1,f2,_⟩:=r1.focus (j:=0) (a:=a) (o:=o') (List.getElem?_zip_eq_some.mpr ⟨rfl,hq⟩)
  exact kk v H' Hf' c' s'.gr f1 (fun x hx=>r2 x (f2 x hx)) rv
 refine⟨_,h ⟨cells a c,H,Hf⟩ [a] rfl,Hf,⟨Chg.of (Grow.refl ss),cells a c++[],.cons fo (by simp) .nil,fun x hx=>.inl (by simpa using hx),am6 rp⟩,?_⟩
 cases fl with
 | rt d' q =>
  obtain⟨o1,e3,e4⟩:=Option.map_eq_some_iff.mp e2
  cases e4
  exact fun ex ρ σ v H' Hf' l s' r=>fin ex q ρ σ v H' Hf' e3 s' r
 | nx ρ q =>
  obtain⟨o1,e3,e4⟩:=Option.map_eq_some_iff.mp e2
  cases e4
  exact fun ex σ' H' Hf' l s' _=>fin ex q _ σ' _ H' Hf' e3 s' rfl
 | ro j q=>cases e2
end
end G
namespace G
open PySem PySem.Spec PyProof.Rows L2
section
variable {X:Cx}{C:Addr}
def UW(X:Cx) (C:Addr) (op:BoolOp) (es:List Expr) (g:UB):Prop:=∀ρ q c q',g ρ q=some (c,q')->okR q.length ρ=true->q'.length=q.length/\∀b (as:List Addr),as.length=q.length->∀pos,
 PW X (.BoolOp op es pos) (fun σ H Q=>∃Hf,OSt X.K C b (sub as ρ) (as.zip q) σ H Hf/\∀H' Hf',OSt X.K C b (sub as ρ) (as.zip q') σ H' Hf'->B2 Hf Hf'->Q c H')
theorem bn8(h:UT X C e f):UW X C .And [e] f:=fun ρ q c q' w no=>by
 obtain⟨l1,a1⟩:=h ρ q c q' w no
 exact⟨l1,fun b as l pos=>aK4 (a1 b as l)⟩
theorem bF9(h:UT X C e f):UW X C .Or [e] f:=fun ρ q c q' w no=>by
 obtain⟨l1,a1⟩:=h ρ q c q' w no
 exact⟨l1,fun b as l pos=>aZ2 (a1 b as l)⟩
theorem bG0(h:UT X C e f) (r:UW X C .And (eb::es) g):UW X C .And (e::eb::es) (af9 f g):=fun ρ q c q' w no=>by
 obtain⟨⟨x,q1⟩,w1,w⟩:=Option.bind_eq_some_iff.mp w
 obtain⟨l1,a1⟩:=h ρ q x q1 w1 no
 cases x with
 | true =>
  obtain⟨l2,a2⟩:=r ρ q1 c q' w (by rw[l1];exact no)
  exact⟨l2.trans l1,fun b as l pos=>d8 (ar4 (a1 b as l) (a2 b as (l.trans l1.symm) pos)) fun σ H Q ⟨Hf,st,k⟩=>⟨Hf,st,fun H1 Hf1 s1 e1=>i4 ⟨Hf1,s1,fun H2 Hf2 s2 e2=>k H2 Hf2 s2 (e1.trans e2)⟩⟩⟩
 | false =>
  cases w
  exact⟨l1,fun b as l pos=>d8 (ar4 (tB':=fun _ _ _=>False) (a1 b as l) (fun _ _ _ _ _ _ _ h=>h.elim)) fun σ H Q ⟨Hf,st,k⟩=>⟨Hf,st,fun H1 Hf1 s1 e1=>l6 (k H1 Hf1 s1 e1)⟩⟩
theorem bY5(h:UT X C e f) (r:UW X C .Or (eb::es) g):UW X C .Or (e::eb::es) (uOr f g):=fun ρ q c q' w no=>by
 obtain⟨⟨x,q1⟩,w1,w⟩:=Option.bind_eq_some_iff.mp w
 obtain⟨l1,a1⟩:=h ρ q x q1 w1 no
 cases x with
 | false =>
  obtain⟨l2,a2⟩:=r ρ q1 c q' w (by rw[l1];exact no)
  exact⟨l2.trans l1,fun b as l pos=>d8 (aK3 (a1 b as l) (a2 b as (l.trans l1.symm) pos)) fun σ H Q ⟨Hf,st,k⟩=>⟨Hf,st,fun H1 Hf1 s1 e1=>l6 ⟨Hf1,s1,fun H2 Hf2 s2 e2=>k H2 Hf2 s2 (e1.trans e2)⟩⟩⟩
 | true =>
  cases w
  exact⟨l1,fun b as l pos=>d8 (aK3 (tB':=fun _ _ _=>False) (a1 b as l) (fun _ _ _ _ _ _ _ h=>h.elim)) fun σ H Q ⟨Hf,st,k⟩=>⟨Hf,st,fun H1 Hf1 s1 e1=>i4 (k H1 Hf1 s1 e1)⟩⟩
theorem UW.ut(h:UW X C op es g):UT X C (.BoolOp op es pos) g:=fun ρ q c q' w no=>by
 obtain⟨l1,a1⟩:=h ρ q c q' w no
 exact⟨l1,fun b as l=>(a1 b as l pos).pt⟩
def bo8(f:UB):UB:=fun ρ q=>(f ρ q).map fun x=>(!x.1,x.2)
theorem bG2(h:UT X C e f):UT X C (.UnaryOp .Not e pos) (bo8 f):=fun ρ q c q' w no=>by
 obtain⟨⟨x,q1⟩,w1,w2⟩:=Option.map_eq_some_iff.mp w
 cases w2
 obtain⟨l1,a1⟩:=h ρ q x q1 w1 no
 exact⟨l1,fun b as l=>W4 (aZ3 (a1 b as l)) fun σ H Q ⟨Hf,st,k⟩=>⟨Hf,st,fun H1 Hf1 s1 e1=>k H1 Hf1 s1 e1⟩⟩
theorem bH3(h:UE X C e f):UE X C (.BoolOp op [e] pos) f:=fun ρ q d q' w no=>by
 obtain⟨l1,a1⟩:=h ρ q d q' w no
 exact⟨l1,fun b as l=>ba5 (a1 b as l)⟩
theorem bo7(ha:UE X C ea f) (hb:UE X C (.BoolOp .And (eb::es) pos) g):UE X C (.BoolOp .And (ea::eb::es) pos) (av7 f g):=fun ρ q d q' w no=>by
 obtain⟨⟨x,q1⟩,w1,w⟩:=Option.bind_eq_some_iff.mp w
 obtain⟨c,w2,w⟩:=Option.bind_eq_some_iff.mp w
 have:x=.bool c:=by cases x<;>cases w2;rfl
 subst this
 obtain⟨l1,a1⟩:=ha ρ q _ q1 w1 no
 cases c with
 | true =>
  obtain⟨l2,a2⟩:=hb ρ q1 d q' w (by rw[l1];exact no)
  exact⟨l2.trans l1,fun b as l=>A5 (ar8 (a1 b as l) (a2 b as (l.trans l1.symm))) fun σ H Q ⟨Hf,st,k⟩=>⟨Hf,st,fun v H1 Hf1 s1 e1 r1=>⟨true,r1,i4 ⟨Hf1,s1,fun u H2 Hf2 s2 e2 r2=>k u H2 Hf2 s2 (e1.trans e2) r2⟩⟩⟩⟩
 | false =>
  cases w
  exact⟨l1,fun b as l=>A5 (ar8 (tb:=fun _ _ _=>False) (a1 b as l) (fun _ _ _ _ _ _ h=>h.elim)) fun σ H Q ⟨Hf,st,k⟩=>⟨Hf,st,fun v H1 Hf1 s1 e1 r1=>⟨false,r1,l6 (k _ H1 Hf1 s1 e1 rfl)⟩⟩⟩
def bZ7:D->Option (List D)
 | .tuple xs=>some xs
 | _=>none
def uSl(f:UD) (lo hi:Rho->Option (Option Int)):UD:=fun ρ q=>(f ρ q).bind fun x=>(lo (era ρ)).bind fun l=>(hi (era ρ)).bind fun h=>(bZ7 x.1).map fun xs=>(.tuple (l8 xs l h),x.2)
theorem bZ2{lo hi:Option Expr}{l h:Rho->Option (Option Int)}(ha:UE X C e f) (hl:JO X lo l) (hh:JO X hi h):UE X C (.Subscript e (.Slice lo hi none p2) pos) (uSl f l h):=fun ρ q d q' w no=>by
 obtain⟨⟨x,q1⟩,w1,w⟩:=Option.bind_eq_some_iff.mp w
 obtain⟨y,w2,w⟩:=Option.bind_eq_some_iff.mp w
 obtain⟨z,w3,w⟩:=Option.bind_eq_some_iff.mp w
 obtain⟨xs,w4,w5⟩:=Option.map_eq_some_iff.mp w
 cases w5
 have:x=.tuple xs:=by cases x<;>cases w4;rfl
 subst this
 obtain⟨l1,a1⟩:=ha ρ q _ q1 w1 no
 refine⟨l1,fun b as l=>A5 (f6 (aX9.or x9) (a1 b as l) (hl (era ρ) y w2) (hh (era ρ) z w3)) fun σ H Q ⟨Hf,st,k⟩=>⟨Hf,st,fun v H1 Hf1 s1 e1 ⟨p,vs,q1,q2,q3⟩=>?_⟩⟩
 subst q1
 refine⟨_,Hf1,s1.same,by rw[← U5 as ρ];exact s1.sl.era,fun H2 Hf2 g2=>?_⟩
 have s2:=s1.grow g2
 refine⟨_,Hf2,s2.same,by rw[← U5 as ρ];exact s2.sl.era,fun H3 Hf3 g3=>?_⟩
 have s3:=s2.grow g3
 have gg:=g2.trans g3
 have q2':=B6 gg.ext q2
 have q3':=q3.mono gg.ext
 by_cases c:HT.sIx vs.length 0 y=0/\HT.sIx vs.length vs.length z=vs.length
 ·refine .inr ⟨p,vs,rfl,B6 s3.same q2',c,k _ H3 Hf3 s3 (e1.trans gg.ext) ⟨p,vs,rfl,q2',?_⟩⟩
  have:l8 xs y z=xs:=by
   unfold l8
   rw[← q3.length,c.1,c.2]
   simp[q3.length]
  rw[this];exact q3'
 ·refine .inl ⟨p,vs,rfl,B6 s3.same q2',c,fun p' hp=>?_⟩
  have rr:=z8 q3' y z
  exact k _ _ _ (s3.grow (Grow.laid s3.same hp)) (e1.trans (gg.trans (Grow.laid s3.same hp)).ext) ⟨p',_,rfl,SqT.of A3,rr.mono (C4 (s3.same.free hp))⟩
def spT(K:PySem.W.Frag) (C:Addr):Sp:=fun vs H Q _=>∃a Hf c o,vs=[.ref a]/\B2 Hf H/\FoAt K C H Hf a c o/\(o.m.length < 1000/\o.b.length < 1000/\o.f.length < 1000)/\∀a' c' H' Hf',Grow H Hf H' Hf'->FoAt K C H' Hf' a' c' o->(∀y∈cells a' c',H y=none)->Q (.ref a') H'
def ci8(X:Cx) (C:Addr):Prop:=∃k f fd ps,FnOk X.prog X.w X.K X.mg X.base CX0 k f fd ps (spT X.K C)/\Room k X.A/\Meth X.K C "twin" f/\N7 X.K fd ps []
def uTw(i j:Nat):UX:=fun ρ q=>(F8 j ρ q).bind fun p=>if p.2.m.length < 1000/\p.2.b.length < 1000/\p.2.f.length < 1000 then some (.nx (ρ.set i (some (.opq q.length))) (q++[p.2])) else none
theorem bY7(i j:Nat) (N:ci8 X C) (cc:FoC X.K C) (hN:X.N.Nodup) (hi:X.N[i]? = some x) (hx:Loc X.env.scope x) (hf:X.fn x=true\/X.env.scope.names.lookup x=some .local) (hn:X.N[j]? = some y) (hv:Vis X.env.scope y) (h1:(y==("__debug__" : Str))=false) (h2:(y==("__classdict__" : Str))=false) (hl:(p2.endLine==p3.line)=true)
  (hs:swapsWith (.Call (.Attribute (.Name y p) "twin" p2) [] [] p3) (some (.Name x pos')) pos.line X.env=pure false):US X C (.Assign [.Name x pos'] (.Call (.Attribute (.Name y p) "twin" p2) [] [] p3) pos) (uTw i j):=fun ρ q fl w no=>by
 obtain⟨⟨n,o⟩,w1,w⟩:=Option.bind_eq_some_iff.mp w
 split at w
 ·rename_i hz
  cases w
  refine⟨ah1 no i o,fun b as l=>?_⟩
  obtain⟨a,ea,A⟩:=V3 w1 (o6 no) l hn hv h1 h2
  obtain⟨k,fa,fd,ps,Fk,hr,hm,hb⟩:=N
  refine B5 (d9 hN hi hx (aj9 (E:=E0) (M4 A.n A.v A.d1 A.d2) cc.cl hm Fk hr hb .nil aa0 (ah3 hl rfl)) hs hf) fun En σ H ⟨Hf,st,kk⟩=>?_
  obtain⟨c,f1,f3⟩:=st.focus A.w A.o
  refine⟨_,P9 st A.s,a,c.dx,Y5 c,rfl,f1.ins,ak4 (by decide) c,a,Hf,c,o,rfl,st.same,f1,hz,fun a' c' H' Hf' g fo fr=>?_⟩
  have st2:=st.add g fo fr
  exact kk [a'] _ H' Hf' (by simp[l]) (by rw[ag6 no l,u6 l];exact st2.slots st2.sl.setO) g.ext
 ·cases w
end
end G
namespace G
open PySem PySem.Spec PyProof.Rows L2
section
variable {X:Cx}{C:Addr}
theorem bt0{wi:TI}{g:TG}{tc:TT}{te:TE}(S:CompSc X N' n caps scope) (hx:∀e s,X.xe e s->False) (hi:PI X tgt iter wi) (hg:∀C s0 H0 ex,PG (C2 X N' scope C s0 H0 ex) tgt g) (ht:∀C s0 H0 ex,PTs (C2 X N' scope C s0 H0 ex) ifs tc) (he:∀C s0 H0 ex,PE (C2 X N' scope C s0 H0 ex) elt te)
  (hc:X.calm=true) (hs:∀x,foldedSetIterable iter X.env x=pure x):PE X (.ListComp elt [⟨tgt,iter,ifs,0⟩] scope pos) (aI0 n caps wi g tc te):=by
 intro pins s σ H Q I t
 rw[eval_ListComp]
 refine wpAny_comprehension_free (use:=none) rfl hs (au3 S I) S.kind S.loc (al6 (RR:=fun acc C=>compPost (model X.prog X.w) X.A X.xe none (EP X pins σ Q) acc C) S hx hc hi hg ht he I t ?_)
 intro Dd C r s' hr ⟨m,hn,kk⟩ _
 subst hr
 exact⟨m,hn,fun h' sb=>let⟨H',I',q⟩:=kk h' sb;⟨.ref Dd,H',I',rfl,q⟩⟩
def hpX:Hp:=fun _=>some (.lst [])
def tEl(K:PySem.W.Frag) (C:Addr) (a:Addr) (o:Fo) (gU:UD):TE:=fun σ H Q=>∃k y Hf c,gU [‹k›,some (.opq 0)] [o]=some (y,[o])/\B2 Hf H/\Slots K hpX [‹k›,some (.opq a)] σ H Hf/\FoAt K C H Hf a c o /\
 ∀v H' Hf' c',Chg (cells a c) H Hf H' Hf'->FoAt K C H' Hf' a c' o->(∀x∈cells a c',x∈cells a c\/H x=none)->Rep K Hf' y v->Q v H'
theorem cc5(h:UE X C elt gU):PE X elt (tEl X.K C a o gU):=fun pins s σ H Q I ⟨k,y,Hf,c,e1,ss,sl,fo,kk⟩=>by
 obtain⟨_,a1⟩:=h _ _ _ _ e1 rfl
 refine a1 ⟨cells a c,H,Hf⟩ [a] rfl pins s σ H Q I ⟨Hf,⟨Chg.of (Grow.refl ss),cells a c++[],.cons fo (by simp) .nil,fun x hx=>.inl (by simpa using hx),sl.chg (S:=[]) (Chg.of (Grow.refl ss)) (by simp) fun x h _=>nomatch h⟩,fun v H' Hf' s' e' r=>?_⟩
 obtain⟨R,r1,r2,_⟩:=s'.ob
 obtain⟨c',f1,f2,_⟩:=r1.focus (j:=0) (a:=a) (o:=o) rfl
 exact kk v H' Hf' c' s'.gr f1 (fun x hx=>r2 x (f2 x hx)) r
theorem aj1{α:Type}{l:List α}{j:Nat}{x:α}(h:l[j]? = some x):l.set j x=l:=by
 obtain⟨hj,e⟩:=List.getElem?_eq_some_iff.mp h
 subst e
 exact List.set_getElem_self hj
def cm1:D->Option (List D)
 | .list xs=>some xs
 | _=>none
def cpU(g:UD) (o:Fo):List D->Option (List D)
 | []=>some []
 | k::ks=>(g [‹k›,some (.opq 0)] [o]).bind fun r=>(cpU g o ks).map fun l=>r.1::l
def uCp(i:Nat) (f:UD) (g:UD):UD:=fun ρ q=>(f ρ q).bind fun x=>(cm1 x.1).bind fun ks=>(F8 i ρ x.2).bind fun p=>if ks.length<=1000 then(cpU g p.2 ks).map fun l=>(.list l,x.2) else none
theorem Slots.push{K:PySem.W.Frag}{H0 H Hf:Hp}{ρ:Rho}{σ:L2.St}{p:Addr}(s:Slots K H0 ρ σ H Hf) (n0:H0 p=none) (hp:H p=none) (nf:Hf p=none) (sm:B2 Hf H):Slots K H0 (ρ++[some (.own [])]) (σ++[some (.ref p)]) (upd H p (.lst [])) Hf:=by
 have s2:Slots K H0 (ρ++[none]) (σ++[none]) H Hf:=by
  have at_:∀(i:Nat) (b:B),(ρ++[none])[i]? = some (some b)->ρ[i]? = some (some b)/\i < ρ.length:=fun i b e=>by
   rcases Nat.lt_or_ge i ρ.length with q|q
   ·rw[List.getElem?_append_left q]at e;exact⟨e,q⟩
   ·rw[List.getElem?_append_right q]at e
    cases h:i - ρ.length with
    | zero=>rw[h]at e;cases e
    | succ n=>rw[h]at e;cases e
  refine⟨by simp[s.len],fun i b e=>?_,fun i j d1 d2 a h1 h2 h3 h4=>?_⟩
  ·obtain⟨e1,e2⟩:=at_ i b e
   obtain⟨v,v1,v2⟩:=s.is i b e1
   exact⟨v,by rw[List.getElem?_append_left (by rw[← s.len];exact e2)];exact v1,v2⟩
  ·obtain⟨e1,l1⟩:=at_ i _ h1
   obtain⟨e2,l2⟩:=at_ j _ h2
   rw[List.getElem?_append_left (by rw[← s.len];exact l1)]at h3
   rw[List.getElem?_append_left (by rw[← s.len];exact l2)]at h4
   exact s.apart i j d1 d2 a e1 e2 h3 h4
 have:=s2.setOwn (i:=ρ.length) (ds:=[]) (vs:=[]) (Grow.made sm hp) n0 hp A3 nf rfl
 rw[s.len]at this
 simpa [← s.len] using this
theorem Slots.pop{K:PySem.W.Frag}{H0 H Hf:Hp}{ρ:Rho}{σ:L2.St}{x:Option B}{y:Option V}(s:Slots K H0 (ρ++[x]) (σ++[y]) H Hf):Slots K H0 ρ σ H Hf:=by
 have hl:ρ.length=σ.length:=by have:=s.len;simpa using this
 have up:∀(i:Nat) (b:B),ρ[i]? = some (some b)->(ρ++[x])[i]? = some (some b)/\i < ρ.length:=fun i b e=>by
  have:=(List.getElem?_eq_some_iff.mp e).1
  exact⟨by rw[List.getElem?_append_left this];exact e,this⟩
 refine⟨hl,fun i b e=>?_,fun i j d1 d2 a h1 h2 h3 h4=>?_⟩
 ·obtain⟨e1,l1⟩:=up i b e
  obtain⟨v,v1,v2⟩:=s.is i b e1
  rw[List.getElem?_append_left (by rw[← hl];exact l1)]at v1
  exact⟨v,v1,v2⟩
 ·obtain⟨e1,l1⟩:=up i _ h1
  obtain⟨e2,l2⟩:=up j _ h2
  exact s.apart i j d1 d2 a e1 e2 (by rw[List.getElem?_append_left (by rw[← hl];exact l1)];exact h3) (by rw[List.getElem?_append_left (by rw[← hl];exact l2)];exact h4)
theorem OSt.push{K:PySem.W.Frag}{b:Bs}{ρ:Rho}{os:Os}{σ:L2.St}{H Hf:Hp}{p:Addr}(s:OSt K C b ρ os σ H Hf) (hp:H p=none):OSt K C b (ρ++[some (.own [])]) os (σ++[some (.ref p)]) (upd H p (.lst [])) Hf:=by
 obtain⟨R,r1,r2,r3⟩:=s.ob
 have g:Grow H Hf (upd H p (.lst [])) Hf:=Grow.made s.same hp
 refine⟨(s.grow g).gr,R,r1.chg (S:=[]) (Chg.of g) (by simp),r2,r3.push (at4 (fun z=>r1.there p z hp) ?_) hp (s.same.free hp) s.same⟩
 exact Classical.byContradiction fun z=>s.gr.kp p z hp
theorem OSt.pop{K:PySem.W.Frag}{b:Bs}{ρ:Rho}{os:Os}{σ:L2.St}{H Hf:Hp}{x:Option B}{y:Option V}(s:OSt K C b (ρ++[x]) os (σ++[y]) H Hf):OSt K C b ρ os σ H Hf:=by
 obtain⟨R,r1,r2,r3⟩:=s.ob
 exact⟨s.gr,R,r1,r2,r3.pop⟩
theorem bo6{f gU:UD}(i:Nat) (S:CompSc X N' 1 [i] scope) (hx:∀e s,X.xe e s->False) (hit:UE X C iter f) (hg:∀C s0 H0 ex,JG (C2 X N' scope C s0 H0 ex) tgt (O0 0)) (hel:∀C0 s0 H0 ex,UE (C2 X N' scope C0 s0 H0 ex) C elt gU) (keep:∀ρ q d q',gU ρ q=some (d,q')->q'=q)
  (hn:X.N[i]? = some x) (hv:Vis X.env.scope x) (h1:(x==("__debug__" : Str))=false) (h2:(x==("__classdict__" : Str))=false) (hc:X.calm=true) (hs:∀x,foldedSetIterable iter X.env x=pure x):UE X C (.ListComp elt [⟨tgt,iter,[],0⟩] scope pos) (uCp i f gU):=fun ρ q d q' w no=>by
 obtain⟨⟨d0,q1⟩,w1,w⟩:=Option.bind_eq_some_iff.mp w
 obtain⟨ks,w2,w⟩:=Option.bind_eq_some_iff.mp w
 obtain⟨⟨j,o⟩,w3,w⟩:=Option.bind_eq_some_iff.mp w
 split at w
 ·rename_i hz
  obtain⟨l,w4,w5⟩:=Option.map_eq_some_iff.mp w
  cases w5
  have:d0=.list ks:=by cases d0<;>cases w2;rfl
  subst this
  obtain⟨l1,a1⟩:=hit ρ q _ q1 w1 no
  refine⟨l1,fun b as len=>?_⟩
  obtain⟨a,ea,A⟩:=V3 w3 (o6 no) (len.trans l1.symm) hn hv h1 h2
  refine A5 (bt0 S hx (aK7 (a1 b as len)) (g:=tgJ X.K (O0 0)) (tc:=ai8 X.K U0) (te:=tEl X.K C a o gU) hg (fun C s0 H0 ex=>aM0) (fun C0 s0 H0 ex=>cc5 (hel C0 s0 H0 ex)) hc hs) fun σ H Q ⟨Hf,st,kk⟩=>?_
  refine⟨Hf,st,fun v H1 Hf1 st1 e1 r1=>?_⟩
  obtain⟨p,vs,rfl,sq,rs⟩:=r1
  refine⟨p,rfl,⟨vs,D6 st1.same sq⟩,fun Dd hD=>?_⟩
  have c0:Slots X.K hpX [none,some (.opq a)] (al9 1 [i] σ) (upd H1 Dd (.lst [])) Hf1:=by
   have:=P9 st1 A.s
   refine⟨rfl,fun n bb e=>?_,fun n m d1 d2 aa e=>?_⟩
   ·cases n with
    | zero=>cases e
    | succ n=>cases n with
     | zero=>cases e;exact⟨.ref a,by show some (σ[i]?).join=_;rw[this];rfl,rfl⟩
     | succ n=>cases e
   ·cases n with
    | zero=>cases e
    | succ n=>cases n with
     | zero=>cases e
     | succ n=>cases e
  refine⟨fun i m ys σ' H'=>m=ks.length - i/\i<=ks.length/\∃Hf' z o1 o2,OSt X.K C b (sub as ρ++[some (.own o1)]) (as.zip q1) (σ++[some (.ref Dd)]) H' Hf'/\B2 Hf1 Hf'/\H' Dd=some (.lst ys)/\Slots X.K hpX [z,some (.opq a)] σ' H' Hf'/\o1.length=i/\cpU gU o (ks.drop i)=some o2/\o1++o2=l,
   ⟨ks.length,by simp,Nat.zero_le _,Hf1,none,[],l,st1.push hD,B2.refl _,A3,c0,rfl,by simpa using w4,rfl⟩,?_⟩
  rintro n m ys σ' H' ⟨rfl,hi,Hf',z,o1,o2,st',sm,hd,sl',ho,ec,eo⟩
  have own:(sub as ρ++[some (B.own o1)])[(sub as ρ).length]? = some (some (.own o1)):=by rw[List.getElem?_append_right (Nat.le_refl _),Nat.sub_self];rfl
  have hsl:(sub as ρ).length=σ.length:=st1.sl.len
  rcases Nat.lt_or_ge n ks.length with hlt|hge
  ·right
   rw[List.drop_eq_getElem_cons hlt]at ec
   obtain⟨⟨y,qy⟩,c1,ec⟩:=Option.bind_eq_some_iff.mp ec
   obtain⟨o3,c2,c3⟩:=Option.map_eq_some_iff.mp ec
   cases keep _ _ _ _ c1
   obtain⟨u,u1,u2⟩:=rs.get (show ks[n]? = some ks[n] by simp[hlt])
   have sq':=D6 (sm.trans st'.same) sq
   refine⟨⟨vs,u,sq',u1⟩,fun x H2 hy=>?_⟩
   obtain⟨rfl,hy⟩:=hy
   have:=hy vs sq'
   rw[u1]at this;cases this
   refine⟨ks[n],_,_,hpX,Hf',rfl,st'.same,sl',u2.mono sm,fun σ3 sl3=>⟨_,true,rfl,hpX,Hf',st'.same,sl3,fun H4 Hf4 g4=>i4 ?_⟩⟩
   have st4:=st'.grow g4
   have hd4:H4 Dd=some (.lst ys):=g4.big _ _ hd
   obtain⟨c,f1,f3⟩:=st4.focus rfl A.o
   refine⟨ks[n],y,Hf4,c,c1,st4.same,sl3.grow g4,f1,fun v H5 Hf5 c' ch fo n5 r5=>?_⟩
   have st5:=f3 ch fo n5
   rw[aj1 A.o]at st5
   obtain⟨p5,vs5,g1,g2,g3,g6⟩:=st5.app own
   have ep:p5=Dd:=by
    rw[hsl,List.getElem?_append_right (Nat.le_refl _),Nat.sub_self]at g1
    cases g1;rfl
   subst ep
   have eys:vs5=ys:=by
    obtain⟨p4,vs4,k1,k2,k3,_⟩:=st4.app own
    rw[hsl,List.getElem?_append_right (Nat.le_refl _),Nat.sub_self]at k1
    cases k1
    have nc:p5∉cells a c:=fun zz=>by
     obtain⟨R,r1,r2,r3⟩:=st4.ob
     obtain⟨c9,f9,f8,_⟩:=r1.focus A.o
     cases FoAt.same f9 f1
     obtain⟨v9,v1,p9,us9,rfl,_,_,v4,_⟩:=r3.is _ _ own
     rw[hsl,List.getElem?_append_right (Nat.le_refl _),Nat.sub_self]at v1
     cases v1
     exact(V7 v4).1 (f8 _ zz)
    have:=ch.big _ _ nc hd4
    rw[g2]at this;cases this;rfl
   subst eys
   refine⟨g2,by rw[g3.length,ho,sizeLine_eq];omega,ks.length - (n+1),by omega,rfl,hlt,Hf5,some (.val ks[n]),o1++[y],o3,?_,?_,A3,?_,by simp[ho],c2,by rw[← eo,← c3];simp⟩
   ·have:=g6 v y r5
    rw[List.set_append_right _ _ (Nat.le_refl _),Nat.sub_self]at this
    exact this
   ·exact sm.trans (g4.ext.trans ch.ext)
   ·have s5:=(sl3.grow g4).chg (S:=cells a c) ch (fun _ _ h=>nomatch h) (H0':=hpX) fun _ h _=>nomatch h
    exact s5.chg (S:=[p5]) (Chg.wr st5.same (by simp) (by
     obtain⟨R,r1,r2,r3⟩:=st5.ob
     obtain⟨v9,v1,p9,us9,rfl,_,v3,_⟩:=r3.is _ _ own
     rw[hsl,List.getElem?_append_right (Nat.le_refl _),Nat.sub_self]at v1
     cases v1
     exact v3)) (fun _ _ h=>nomatch h) fun _ h _=>nomatch h
  ·left
   have:n=ks.length:=by omega
   subst this
   rw[List.drop_length]at ec
   cases ec
   rw[List.append_nil]at eo
   subst eo
   refine⟨⟨vs,D6 (sm.trans st'.same) sq,by rw[rs.length];exact Nat.le_refl _⟩,?_⟩
   obtain⟨Hf6,e6,s6⟩:=st'.frz (sub as ρ).length
   have fz:frz (sub as ρ).length (sub as ρ++[some (.own o1)])=sub as ρ++[‹.list o1›]:=by
    unfold frz
    rw[own]
    dsimp only
    rw[List.set_append_right _ _ (Nat.le_refl _),Nat.sub_self];rfl
   rw[fz]at s6
   obtain⟨v6,v61,v62⟩:=s6.sl.is (sub as ρ).length (.val (.list o1)) (by rw[List.getElem?_append_right (Nat.le_refl _),Nat.sub_self];rfl)
   rw[hsl,List.getElem?_append_right (Nat.le_refl _),Nat.sub_self]at v61
   cases v61
   exact kk _ H' Hf6 s6.pop (e1.trans (sm.trans e6)) v62
 ·cases w
end
end G
namespace G
open PySem PySem.Spec PyProof.Rows L2
section
variable {X:Cx}{C:Addr}{b:Bs}{ρ:Rho}{q:Os}{o:Fo}{a:Addr}{K:PySem.W.Frag}{H Hf:Hp}{c:Cel}{i j:Nat}{x:Str}
theorem aG6:a9 X (.type "dict") (fun xs H Q=>∃p kvs,xs=[.ref p]/\H p=some (.dK kvs)/\∀l,H l=none->Q (.ref l) (upd H l (.dK kvs))):=by
 intro pins s σ H vs us Q I rv ⟨p,kvs,e0,e1,k⟩
 subst e0
 obtain⟨u,rfl,rx⟩:=u8 rv
 cases rx
 exact bk8 I (.inl e1) fun l s' hl I'=>⟨.ref l,_,I',rfl,k l hl⟩
theorem FoAt.put{l:Addr}{u:HO}{c':Cel}{o':Fo}(f:FoAt K C H Hf a c o) (ss:B2 Hf H) (hl:H l=none) (dx:c'.dx=c.dx) (ne:c'.lb≠c'.lf) (in_:∀x∈[c'.d,c'.lb,c'.lf],x∈[c.d,c.lb,c.lf]\/x=l)
  (hd:∃kvs,upd H l u c'.d=some (.dK kvs)/\RepKs K Hf o'.m kvs) (hb:∃vs,upd H l u c'.lb=some (.lst vs)/\Reps K Hf o'.b vs) (hf:∃vs,upd H l u c'.lf=some (.lst vs)/\Reps K Hf o'.f vs) :
  FoAt K C (upd (upd H l u) a (.ins C c.dx (Y5 c'))) Hf a c' o'/\Chg (cells a c) H Hf (upd (upd H l u) a (.ins C c.dx (Y5 c'))) Hf/\∀x∈cells a c',x∈cells a c\/H x=none:=by
 have la:l≠a:=fun z=>by rw[z,f.ins]at hl;cases hl
 have g:Grow H Hf (upd H l u) Hf:=Grow.made ss hl
 have ea:upd H l u a=some (.ins C c.dx (Y5 c)):=g.big _ _ f.ins
 have mem:∀x∈cells a c',x∈cells a c\/x=l:=fun x hx=>by
  rcases List.mem_cons.mp hx with rfl|hx
  ·exact .inl (by simp)
  ·exact(in_ x hx).imp (fun z=>List.mem_cons_of_mem _ z) id
 obtain⟨kvs,d1,d2⟩:=hd
 obtain⟨vb,b1,b2⟩:=hb
 obtain⟨vf,f1,f2⟩:=hf
 refine⟨⟨by rw[A3,dx],⟨kvs,by rw[A4 (g7 d1 ea (by intro z;cases z))];exact d1,d2⟩,⟨vb,by rw[A4 (g7 b1 ea (by intro z;cases z))];exact b1,b2⟩,⟨vf,by rw[A4 (g7 f1 ea (by intro z;cases z))];exact f1,f2⟩,ne,fun x hx=>?_⟩,(Chg.of g).trans (Chg.wr (S:=cells a c) g.sub (by simp) (f.fr _ (by simp))) fun _ h=>.inl h,fun x hx=>(mem x hx).imp id fun z=>by rw[z];exact hl⟩
 rcases mem x hx with h|rfl
 ·exact f.fr x h
 ·exact ss.free hl
theorem ar6{H0 Hf0:Hp}{cs:Cel}{os:Fo}(cc:FoC X.K C) (fo:FoAt X.K C H0 Hf0 a cs os) (hn:X.N[i]? = some x) (hv:Vis X.env.scope x) (h1:(x==("__debug__" : Str))=false) (h2:(x==("__classdict__" : Str))=false) (hs:ρ[(i:Nat)]? = some (some (B.opq a))) (hf:f=("sheets" : Str)\/f=("steps_back" : Str)\/f=("steps_forth" : Str)) (hb:attributeBase (.Name x p) f X.env (eval (.Name x p) X.env)=eval (.Name x p) X.env) :
  PE X (.Attribute (.Name x p) f pos) (fun σ H Q=>∃Hf,OSt X.K C ⟨[],H0,Hf0⟩ ρ q σ H Hf/\∀v,FoAt X.K C H Hf a cs os->(Y5 cs).lookup f=some v->Q v H) :=
 A5 (ba8 (M4 hn hv h1 h2) hb) fun σ H Q ⟨Hf,st,k⟩=>by
  have f1:=fo.grow st.gr.grow
  have hl:∃v,(Y5 cs).lookup f=some v:=by
   rcases hf with rfl|rfl|rfl
   ·exact⟨.ref cs.d,rfl⟩
   ·exact⟨.ref cs.lb,rfl⟩
   ·exact⟨.ref cs.lf,rfl⟩
  obtain⟨v,hl⟩:=hl
  exact⟨_,P9 st hs,a,C,cs.dx,Y5 cs,v,rfl,f1.ins,cc.cl,by rcases hf with rfl|rfl|rfl;exact cc.n1;exact cc.n2;exact cc.n3,hl,k v f1 hl⟩
variable {H0 Hf0:Hp}{cs:Cel}{os:Fo}
structure Sf (X:Cx) (ρ:Rho) (x:Str) (i:Nat) (a:Addr):Prop where
 n:X.N[i]? = some x
 v:Vis X.env.scope x
 d1:(x==("__debug__" : Str))=false
 d2:(x==("__classdict__" : Str))=false
 s:ρ[i]? = some (some (.opq a))
theorem bM1(cc:FoC X.K C) (fo:FoAt X.K C H0 Hf0 a cs os) (hg:Gl X "dict") (hm:X.mg "dict" = none) (A:At1 X ρ q x i j y o) (Z:Sf X ρ xs is a) (hs:swapsWith (.Call (.Name "dict" p1) [.Attribute (.Name xs p2) "sheets" p3] [] p4) (some (.Attribute (.Name x p) "sheets" p5)) pos.line X.env=pure false:=by rfl) :
  OS X C ⟨[],H0,Hf0⟩ ρ q (.Assign [.Attribute (.Name x p) "sheets" p5] (.Call (.Name "dict" p1) [.Attribute (.Name xs p2) "sheets" p3] [] p4) pos) (.nx ρ (q.set j (y,{ o with m:=os.m }))) :=
 B5 (m9 (M4 A.n A.v A.d1 A.d2) (R6 aG6 hg hm bA6 (B8 (ar6 cc fo Z.n Z.v Z.d1 Z.d2 Z.s (.inl rfl) rfl) F6)) hs) fun En σ H ⟨Hf,st,kk⟩=>⟨Hf,st,fun v f0 hl=>by
  cases hl
  obtain⟨kvs,e1,r1⟩:=f0.dic
  refine⟨cs.d,kvs,rfl,e1,fun l hl=>?_⟩
  obtain⟨c,f1,f3⟩:=st.focus A.w A.o
  have g:Grow H Hf (upd H l (.dK kvs)) Hf:=Grow.made st.same hl
  have ne:∀z∈cells y c,z≠l:=fun z hz e=>f1.there z hz (by rw[e];exact hl)
  obtain⟨vb,b1,b2⟩:=f1.bk
  obtain⟨vf,v1,v2⟩:=f1.fo
  refine⟨_,P9 st A.s,y,C,c.dx,Y5 c,rfl,g.big _ _ f1.ins,cc.cl,cc.n1,by show 3 < 1000;decide,?_⟩
  obtain⟨q1,q2,q3⟩:=f1.put (l:=l) (u:=.dK kvs) (c':={ c with d:=l }) (o':={ o with m:=os.m }) st.same hl rfl f1.ne (fun z hz=>by simp at hz;rcases hz with rfl|rfl|rfl<;>simp) ⟨kvs,A3,r1⟩ ⟨vb,g.big _ _ b1,b2⟩ ⟨vf,g.big _ _ v1,v2⟩
  exact kk σ _ Hf (f3 q2 q1 q3) (B2.refl _)⟩
theorem bM2(cc:FoC X.K C) (fo:FoAt X.K C H0 Hf0 a cs os) (hg:Gl X "list") (hm:X.mg "list" = none) (A:At1 X ρ q x i j y o) (Z:Sf X ρ xs is a) (hs:swapsWith (.Call (.Name "list" p1) [.Attribute (.Name xs p2) "steps_back" p3] [] p4) (some (.Attribute (.Name x p) "steps_back" p5)) pos.line X.env=pure false:=by rfl) :
  OS X C ⟨[],H0,Hf0⟩ ρ q (.Assign [.Attribute (.Name x p) "steps_back" p5] (.Call (.Name "list" p1) [.Attribute (.Name xs p2) "steps_back" p3] [] p4) pos) (.nx ρ (q.set j (y,{ o with b:=os.b }))) :=
 B5 (m9 (M4 A.n A.v A.d1 A.d2) (R6 Y7 hg hm ai0 (B8 (ar6 cc fo Z.n Z.v Z.d1 Z.d2 Z.s (.inr (.inl rfl)) rfl) F6)) hs) fun En σ H ⟨Hf,st,kk⟩=>⟨Hf,st,fun v f0 hl=>by
  cases hl
  obtain⟨vs,e1,r1⟩:=f0.bk
  refine⟨cs.lb,vs,rfl,.inl (SqL.of e1),fun l hl=>?_⟩
  obtain⟨c,f1,f3⟩:=st.focus A.w A.o
  have g:Grow H Hf (upd H l (.lst vs)) Hf:=Grow.made st.same hl
  have ne:∀z∈cells y c,z≠l:=fun z hz e=>f1.there z hz (by rw[e];exact hl)
  obtain⟨kd,d1,d2⟩:=f1.dic
  obtain⟨vf,v1,v2⟩:=f1.fo
  refine⟨_,P9 st A.s,y,C,c.dx,Y5 c,rfl,g.big _ _ f1.ins,cc.cl,cc.n2,by show 3 < 1000;decide,?_⟩
  obtain⟨q1,q2,q3⟩:=f1.put (l:=l) (u:=.lst vs) (c':={ c with lb:=l }) (o':={ o with b:=os.b }) st.same hl rfl (fun e=>ne c.lf (by simp) e.symm) (fun z hz=>by simp at hz;rcases hz with rfl|rfl|rfl<;>simp) ⟨kd,g.big _ _ d1,d2⟩ ⟨vs,A3,r1⟩ ⟨vf,g.big _ _ v1,v2⟩
  exact kk σ _ Hf (f3 q2 q1 q3) (B2.refl _)⟩
theorem bM0(cc:FoC X.K C) (fo:FoAt X.K C H0 Hf0 a cs os) (hg:Gl X "list") (hm:X.mg "list" = none) (A:At1 X ρ q x i j y o) (Z:Sf X ρ xs is a) (hs:swapsWith (.Call (.Name "list" p1) [.Attribute (.Name xs p2) "steps_forth" p3] [] p4) (some (.Attribute (.Name x p) "steps_forth" p5)) pos.line X.env=pure false:=by rfl) :
  OS X C ⟨[],H0,Hf0⟩ ρ q (.Assign [.Attribute (.Name x p) "steps_forth" p5] (.Call (.Name "list" p1) [.Attribute (.Name xs p2) "steps_forth" p3] [] p4) pos) (.nx ρ (q.set j (y,{ o with f:=os.f }))) :=
 B5 (m9 (M4 A.n A.v A.d1 A.d2) (R6 Y7 hg hm ai0 (B8 (ar6 cc fo Z.n Z.v Z.d1 Z.d2 Z.s (.inr (.inr rfl)) rfl) F6)) hs) fun En σ H ⟨Hf,st,kk⟩=>⟨Hf,st,fun v f0 hl=>by
  cases hl
  obtain⟨vs,e1,r1⟩:=f0.fo
  refine⟨cs.lf,vs,rfl,.inl (SqL.of e1),fun l hl=>?_⟩
  obtain⟨c,f1,f3⟩:=st.focus A.w A.o
  have g:Grow H Hf (upd H l (.lst vs)) Hf:=Grow.made st.same hl
  have ne:∀z∈cells y c,z≠l:=fun z hz e=>f1.there z hz (by rw[e];exact hl)
  obtain⟨kd,d1,d2⟩:=f1.dic
  obtain⟨vb,v1,v2⟩:=f1.bk
  refine⟨_,P9 st A.s,y,C,c.dx,Y5 c,rfl,g.big _ _ f1.ins,cc.cl,cc.n3,by show 3 < 1000;decide,?_⟩
  obtain⟨q1,q2,q3⟩:=f1.put (l:=l) (u:=.lst vs) (c':={ c with lf:=l }) (o':={ o with f:=os.f }) st.same hl rfl (fun e=>ne c.lb (by simp) e) (fun z hz=>by simp at hz;rcases hz with rfl|rfl|rfl<;>simp) ⟨kd,g.big _ _ d1,d2⟩ ⟨vb,g.big _ _ v1,v2⟩ ⟨vs,A3,r1⟩
  exact kk σ _ Hf (f3 q2 q1 q3) (B2.refl _)⟩
end
section
variable {P:Program}{w:World}{K:PySem.W.Frag}{mg:Str->Option Value}{base:Heap}{cs:List (Str×D)}{bl:List Str}{C:Addr}{tab:Tab}
theorem bo9(M:Md K mg cs bl) (T:TOk P w K mg base k tab) (Fc:FoC K C) (Mk0:∃j f fd ps,j+1<=k/\FnOk P w K mg base CX0 j f fd ps (spI K C)/\Mk K C f/\N7 K fd ps []/\mg cl=some (.ref C)) (d:Fd) (hN:d.N=[("self" : Str), "other"]) (hp:d.ps.length=1) (ok:d.okB=true) (hl:Y8 d.c=true)
  (hcl:ag2 d.c.sc cl=true) (hd:biB ⟨tab,cs,bl⟩ d.c "dict" "dict" = true) (hli:biB ⟨tab,cs,bl⟩ d.c "list" "list" = true) (hlo:as6 d.c "other" = true) (Fn:Fun K d.x qual d.st f fd)
  (hb:A7 d.st=[.Assign [.Name "other" p1] (.Call (.Name cl p2) [] [] p3) p4,.Assign [.Attribute (.Name "other" p5) "sheets" p6] (.Call (.Name "dict" p7) [.Attribute (.Name "self" p8) "sheets" p9] [] p10) p11,
   .Assign [.Attribute (.Name "other" p12) "steps_back" p13] (.Call (.Name "list" p14) [.Attribute (.Name "self" p15) "steps_back" p16] [] p17) p18,.Assign [.Attribute (.Name "other" p19) "steps_forth" p20] (.Call (.Name "list" p21) [.Attribute (.Name "self" p22) "steps_forth" p23] [] p24) p25,.Return (some (.Name "other" p26)) p27]):FnOk P w K mg base CX0 (k+1) f fd d.ps (spT K C):=by
 have Sc:=Fd.sc ok
 refine Fn.ok Sc (fun vs H Q E h=>?_) fun cdv A outer s H vs Q E hr hsp=>?_
 ·obtain⟨a,Hf,c,o,rfl,_⟩:=h
  simp[hp]
 obtain⟨a,Hf,c,o,rfl,ss,fo,hz,kk⟩:=hsp
 generalize hX:(t9 CX0 P w K mg base d.N qual (B3 d.st) f cdv A outer s H E).nox=X
 have F:FitO ⟨tab,cs,bl⟩ [] C d.c X:=by
  subst hX
  refine⟨⟨rfl,rfl,Sc.nd,rfl,rfl,hr.units,fun _=>⟨fun _=>rfl,Sc.kind⟩,fun x F n h=>?_,M.css,M.bls⟩,Fc,fun m F n h=>by cases h⟩
  exact(T x F n h).imp (fun⟨f',fd',ps,h1,h2,h3,h4⟩=>⟨k,f',fd',ps,h1,hr,h2,h3,h4⟩) id
 have eK:X.K=K:=by subst hX;rfl
 have Mk1:bB1 X C cl:=by
  subst hX
  obtain⟨j,f',fd',ps,h1,h2,h3,h4,h5⟩:=Mk0
  exact⟨j,f',fd',ps,h2,hr.mono h1,h3,h4,h5⟩
 obtain⟨_,g1,g2⟩:=K2 F.fit hd
 obtain⟨_,g3,g4⟩:=K2 F.fit hli
 obtain⟨g5,g6⟩:=Y4 F.fit hcl
 obtain⟨l1,l2⟩:=aa5 F.fit hlo
 subst eK
 have nm:∀y∈d.N,Vis X.env.scope y:=fun y hy=>by
  have:=List.all_eq_true.mp hl y hy
  simp only[Bool.and_eq_true]at this
  have h4:=this.2
  rw[F.fit.sc]
  split at h4
  ·rename_i e;exact .inl e
  ·cases h4
 have XN:X.N=[("self" : Str), "other"]:=by rw[F.fit.N];exact hN
 have n0:X.N[0]? = some ("self" : Str):=by rw[XN];rfl
 have n1:X.N[1]? = some ("other" : Str):=by rw[XN];rfl
 have v0:=nm "self" (by rw[hN];simp)
 have v1:=nm "other" (by rw[hN];simp)
 have nd:X.N.Nodup:=by rw[F.fit.N];exact F.fit.nd
 rw[hb]
 have O4:∀y,PSs X [.Assign [.Attribute (.Name "other" p5) "sheets" p6] (.Call (.Name "dict" p7) [.Attribute (.Name "self" p8) "sheets" p9] [] p10) p11,
   .Assign [.Attribute (.Name "other" p12) "steps_back" p13] (.Call (.Name "list" p14) [.Attribute (.Name "self" p15) "steps_back" p16] [] p17) p18,.Assign [.Attribute (.Name "other" p19) "steps_forth" p20] (.Call (.Name "list" p21) [.Attribute (.Name "self" p22) "steps_forth" p23] [] p24) p25,.Return (some (.Name "other" p26)) p27]
   (fun En σ H1=>∃Hf1,OSt X.K C ⟨[],H,Hf⟩ [some (.opq a),some (.opq y)] [(y,fo0)] σ H1 Hf1/\∀σ' H' Hf',OSt X.K C ⟨[],H,Hf⟩ [some (.opq a),some (.opq y)] [(y,o)] σ' H' Hf'->En.rt (.ref y) H'):=fun y=>by
  have Z:Sf X [some (.opq a),some (.opq y)] "self" 0 a:=⟨n0,v0,by decide,by decide,rfl⟩
  have A:∀o1,At1 X [some (.opq a),some (.opq y)] [(y,o1)] "other" 1 0 y o1:=fun o1=>⟨n1,v1,by decide,by decide,rfl,rfl,rfl⟩
  refine P4 (M0 (bM1 Fc fo g1 g2 (A _) Z) (M0 (bM2 Fc fo g3 g4 (A _) Z) (M0 (bM0 Fc fo g3 g4 (A _) Z) (j7 (ad0 (M4 n1 v1 (by decide) (by decide))))))) fun En σ H1 ⟨Hf1,st,k⟩=>⟨Hf1,st,fun σ2 H2 Hf2 s2 _=>⟨Hf2,s2,fun σ3 H3 Hf3 s3 _=>⟨Hf3,s3,fun σ4 H4 Hf4 s4 _=>⟨_,P9 (i:=1) s4 rfl,k σ4 H4 Hf4 s4⟩⟩⟩⟩
 refine⟨_,M0 (d9 nd n1 l1 (ba6 Mk1 g5 g6) rfl l2) (aZ4 O4),Hf,ss,fun y c1 H1 Hf1 g fo1 fr=>⟨y,Hf1,?_,fun σ' H' Hf' s'=>?_⟩⟩
 ·have st0:OSt X.K C ⟨[],H,Hf⟩ [some (.opq a),none] [] (start d.N [.ref a]) H Hf:=by
   refine⟨Chg.of (Grow.refl ss),[],.nil,(fun x hx=>nomatch hx),?_⟩
   rw[hN]
   exact X7 (N:=[("other" : Str)]) (ds:=[]) (vs:=[]) rfl
  have st1:=st0.add g fo1 fr
  exact st1.slots (st1.sl.setO (i:=1) (a:=y))
 ·obtain⟨R,r1,r2,_⟩:=s'.ob
  obtain⟨c',f1,f2,_⟩:=r1.focus (j:=0) (a:=y) (o:=o) rfl
  exact kk y c' H' Hf' s'.gr.grow f1 fun z hz=>(r2 z (f2 z hz)).elim (fun w=>nomatch w) id
end
end G
namespace G
open PySem PySem.Spec PyProof.Rows L2
structure Og where
 ms:av1
 nf:List (Str×(List D->Option Fo)×Nat)
 cl:Str
 df:List (Str×DF×Nat×Nat)
 tw:Bool
structure FitU (S:Sg) (O:Og) (C:Addr) (c:Kx) (X:Cx):Prop where
 o:FitO S O.ms C c X
 nf:∀x F n,O.nf.lookup x=some (F,n)->ci9 X C x F n
 make:bB1 X C O.cl
 nm:bX1 X C
 df:∀x F n j,O.df.lookup x=some (F,n,j)->cj1 X C x F n
 tw:O.tw=true->ci8 X C/\m7 X C "fetch" 1 K3
def aU6:Expr->Option (Expr×List Expr×List Keyword×Pos)
 | .Call f a k p=>some (f,a,k,p)
 | _=>none
def bW5:Expr->Option (Expr×Str×Pos)
 | .Attribute o m p=>some (o,m,p)
 | _=>none
def bA1:Expr->Option (Expr×CmpOp×Expr×Pos)
 | .Compare l [op] [r] p=>some (l,op,r,p)
 | _=>none
def bV5:Expr->Option (BoolOp×List Expr×Pos)
 | .BoolOp op l p=>some (op,l,p)
 | _=>none
def bv5:Expr->Option (Expr×Pos)
 | .UnaryOp .Not e p=>some (e,p)
 | _=>none
def aW2:Expr->Option (List Expr×Nat×Pos)
 | .Tuple es k p=>some (es,k,p)
 | _=>none
def cb2:Expr->Option (Expr×Expr×Pos)
 | .Subscript a i p=>some (a,i,p)
 | _=>none
def bJ3:Expr->Option (Option Expr×Option Expr×Pos)
 | .Slice lo hi none p=>some (lo,hi,p)
 | _=>none
def lcE:Expr->Option (Expr×Expr×Expr×Scope×Pos)
 | .ListComp elt [⟨tgt,it,[],0⟩] sc p=>some (elt,tgt,it,sc,p)
 | _=>none
theorem aq6(h:aW2 e=some t):e=.Tuple t.1 t.2.1 t.2.2:=by cases e<;>first|(cases h;rfl)|cases h
theorem aO0(h:bV5 e=some t):e=.BoolOp t.1 t.2.1 t.2.2:=by cases e<;>first|(cases h;rfl)|cases h
theorem bp7(h:cb2 e=some t):e=.Subscript t.1 t.2.1 t.2.2:=by cases e<;>first|(cases h;rfl)|cases h
theorem bv4(h:bv5 e=some t):e=.UnaryOp .Not t.1 t.2:=by
 unfold bv5 at h
 split at h
 ·cases h;rfl
 ·cases h
theorem bq3(h:bJ3 e=some t):e=.Slice t.1 t.2.1 none t.2.2:=by
 unfold bJ3 at h
 split at h
 ·cases h;rfl
 ·cases h
theorem bP5(h:lcE e=some t):e=.ListComp t.1 [⟨t.2.1,t.2.2.1,[],0⟩] t.2.2.2.1 t.2.2.2.2:=by
 unfold lcE at h
 split at h
 ·cases h;rfl
 ·cases h
theorem ac0(h:aU6 e=some t):e=.Call t.1 t.2.1 t.2.2.1 t.2.2.2:=by cases e<;>first|(cases h;rfl)|cases h
theorem aO3(h:bW5 e=some t):e=.Attribute t.1 t.2.1 t.2.2:=by cases e<;>first|(cases h;rfl)|cases h
theorem aN8(h:bA1 e=some t):e=.Compare t.1 [t.2.1] [t.2.2.1] t.2.2.2:=by
 unfold bA1 at h
 split at h
 ·cases h;rfl
 ·cases h
structure Mc where
 x:Str
 p:Pos
 m:Str
 ap:Pos
 a:List Expr
 cp:Pos
def mcV(e:Expr):Option Mc:=(aU6 e).bind fun t=>match t.2.2.1 with
 | []=>(bW5 t.1).bind fun u=>(nmP u.1).map fun v=>⟨v.1,v.2,u.2.1,u.2.2,t.2.1,t.2.2.2⟩
 | _=>none
theorem ak6(h:mcV e=some t):e=.Call (.Attribute (.Name t.x t.p) t.m t.ap) t.a [] t.cp:=by
 obtain⟨⟨f,a,k,p⟩,h1,h⟩:=Option.bind_eq_some_iff.mp h
 cases k with
 | cons=>cases h
 | nil =>
  obtain⟨⟨o,m,ap⟩,h2,h⟩:=Option.bind_eq_some_iff.mp h
  obtain⟨⟨x,q⟩,h3,h⟩:=Option.map_eq_some_iff.mp h
  subst h
  rw[ac0 h1,aO3 h2,T7 h3]
def uNo:UD:=fun _ _=>none
def uXo:UX:=fun _ _=>none
def opU:CmpOp->Option (D->D->Option D)
 | .Eq=>some eqD
 | .NotEq=>some neD
 | .Is=>some isB
 | .IsNot=>some bO7
 | _=>none
def lcB(i:Nat) (y z:Str) (it:Expr) (sc:Scope) (c c':Kx):Bool:=(ab7 c.N c'.N 1 [i] c.sc sc&&o7 c'.N&&pl it)&&(l4 c.sc z&&l4 c'.sc y&&l4 c'.sc z&&as6 c' y)&&(T0 y c'.N==some 0&&T0 z c'.N==some 1)
section
variable (S:Sg) (O:Og) (c:Kx)
def pE(e:Expr):DE:=(ev S 99).e c e
def oMb(t:Mc) (n:Nat):Bool:=l4 c.sc t.x&&aa4 t.m&&(t.ap.endLine==t.cp.line)&&t.a.all pl&&t.a.length==n&&decide (n < 20)
def oMc(t:Mc):Option UD:=(T0 t.x c.N).bind fun i=>(O.ms.lookup t.m).bind fun F=>if oMb c t F.2 then some (match t.a with|[]=>uM0 i F.1|_=>uM i F.1 (evA (pE S c) t.a)) else none
def oM(e:Expr):Option UD:=(mcV e).bind (oMc S O c)
def aR7(f:Expr->DE):Nat->List Expr->Rho->Option MD
 | _,[]=>mN
 | 0,_::es=>mO (aR7 f es.length es)
 | j+1,e::es=>mC (f e) (aR7 f j es)
def oDa(y:Str) (a:List Expr):Option UD:=(O.df.lookup y).bind fun F=>(a[F.2.2]?).bind fun ej=>(nmP ej).bind fun v=>(T0 v.1 c.N).bind fun i =>
 if ag2 c.sc y&&l4 c.sc v.1&&a.all pl&&(a.length==F.2.1&&decide (F.2.2 < a.length)) then some (uD i F.1 (aR7 (pE S c) F.2.2 a)) else none
def oDf(e:Expr):Option UD:=(aU6 e).bind fun t=>match t.2.2.1 with
 | []=>(nmP t.1).bind fun y=>oDa S O c y.1 t.2.1
 | _=>none
def elN:UD:=ac5 (ulC (uP (A2 0)) (ulC (uM 1 K3 (A0 (A2 0) A8)) ulN))
def oEl(elt tgt:Expr):Option (Str×Mc):=(aW2 elt).bind fun t=>match t.1 with
 | [e1,e2]=>(nmP e1).bind fun y=>(nmP tgt).bind fun y3=>(mcV e2).bind fun w=>match w.a with
  | [e3]=>(nmP e3).bind fun y2=>if y.1==y2.1&&y.1==y3.1&&w.m == "fetch" && (w.ap.endLine==w.cp.line) then some (y.1,w) else none
  | _=>none
 | _=>none
def oLc(r:Expr->Option UD) (t:Expr×Expr×Expr×Scope×Pos):Option UD:=(oEl t.1 t.2.1).bind fun v=>(r t.2.2.1).bind fun gi=>(T0 v.2.x c.N).bind fun i =>
 if O.tw&&lcB i v.1 v.2.x t.2.2.1 t.2.2.2.1 c (inner c [v.1] [i] t.2.2.2.1) then some (uCp i gi elN) else none
def ulE(f:Expr->UD):List Expr->UL
 | []=>ulN
 | e::es=>ulC (f e) (ulE f es)
def oCc(r:Expr->UD) (t:Expr×CmpOp×Expr×Pos):UD:=match opU t.2.1 with
 | some h=>if behindInMarks t.2.1 t.2.2.1 then uNo else uB2 h (r t.1) (r t.2.2.1)
 | none=>uNo
def orP(r:Expr->Option UD) (e:Expr):UD:=(r e).getD (uP (pE S c e))
def oX1(r:Expr->Option UD) (e:Expr):Option UD:=match bA1 e with
 | some t=>if(r t.1).isSome || (r t.2.2.1).isSome then some (oCc (orP S c r) t) else none
 | none=>(match aW2 e with
  | some t=>if t.1.any (fun x=>(r x).isSome)&&t.1.all pl&&decide (t.1.length<=1000) then some (ac5 (ulE (orP S c r) t.1)) else none
  | none=>(match cb2 e with
   | some t=>(bJ3 t.2.1).bind fun u=>(r t.1).map fun g=>uSl g (evO (pE S c) u.1) (evO (pE S c) u.2.1)
   | none=>(lcE e).bind (oLc O c r)))
def oX:Nat->Expr->Option UD
 | 0,_=>none
 | n+1,e=>match oM S O c e with
  | some g=>some g
  | none=>(match oDf S O c e with
   | some g=>some g
   | none=>oX1 S O c (oX n) e)
def oE(e:Expr):UD:=orP S c (oX S O c 5) e
def aF7(e:Expr):Bool:=(oX S O c 5 e).isSome
def oAn:List Expr->UD
 | []=>uNo
 | [e]=>oE S O c e
 | e::es=>av7 (oE S O c e) (oAn es)
def oV(e:Expr):UD:=match bV5 e with
 | some t=>(match t.1 with
  | .And=>if t.2.1.any (aF7 S O c) then oAn S O c t.2.1 else uP (pE S c e)
  | .Or=>uP (pE S c e))
 | none=>oE S O c e
def bx8(e:Expr):Bool:=(aU6 e).isSome || (bA1 e).isSome
def oT1(e:Expr):UB:=match bv5 e with
 | some t=>if aF7 S O c t.1&&bx8 t.1 then bo8 (uTB (oE S O c t.1)) else uTP ((ev S 99).t c e)
 | none=>if aF7 S O c e&&bx8 e then uTB (oE S O c e) else uTP ((ev S 99).t c e)
def oTa:List Expr->UB
 | []=>fun _ _=>none
 | [e]=>oT1 S O c e
 | e::es=>af9 (oT1 S O c e) (oTa es)
def oTo:List Expr->UB
 | []=>fun _ _=>none
 | [e]=>oT1 S O c e
 | e::es=>uOr (oT1 S O c e) (oTo es)
def cm7(e:Expr):Bool:=match bv5 e with
 | some t=>aF7 S O c t.1
 | none=>aF7 S O c e
def oT(e:Expr):UB:=match bV5 e with
 | some t=>if t.2.1.any (cm7 S O c) then(match t.1 with
  | .And=>oTa S O c t.2.1
  | .Or=>oTo S O c t.2.1) else uTP ((ev S 99).t c e)
 | none=>oT1 S O c e
end
section
variable {X:Cx}{S:Sg}{O:Og}{C:Addr}{c:Kx}
theorem Z5(F:FitU S O C c X) (e:Expr):JE X e (pE S c e):=(ab1 S 99).e F.o.fit e
theorem bU1{args:List Expr}{pos:Pos}(h:args.all pl=true) (n:args.length < 20):methodCallForm (args.length+([]:List Keyword).length) (backTo pos (starEach args X.env)) (backToKw pos (keywordEach [] X.env))=true:=by
 unfold methodCallForm
 have h1:(backTo pos (starEach args X.env)).all (!·.1)=true:=by
  have:=(T2 pos (starEach args X.env)).trans (P1 pos X.env h)
  rw[List.all_eq_not_any_not]
  simpa using this
 rw[h1]
 show(true&&true&&decide _)=true
 simp
 show args.length+0+0 < 30
 omega
theorem ce2(F:FitU S O C c X) (h:oM S O c e=some g):UE X C e g:=by
 obtain⟨t,h1,h0⟩:=Option.bind_eq_some_iff.mp h
 clear h
 rw[ak6 h1]
 obtain⟨i,h2,h⟩:=Option.bind_eq_some_iff.mp h0
 obtain⟨⟨Fm,n⟩,h3,h⟩:=Option.bind_eq_some_iff.mp h
 split at h
 ·rename_i hb
  unfold oMb at hb
  simp only[Bool.and_eq_true,beq_iff_eq,decide_eq_true_eq]at hb
  obtain⟨⟨⟨⟨⟨b1,b2⟩,b3⟩,b4⟩,b5⟩,b6⟩:=hb
  obtain⟨v1,v2,v3⟩:=P0 F.o.fit b1
  have M:=F.o.mts _ _ _ h3
  cases h
  obtain⟨x,p,m,ap,a,cp⟩:=t
  cases a with
  | nil =>
   cases b5
   exact aV9 i M F.o.foc (F.o.fit.slot h2) v1 v2 v3 b2 (by simpa using b3)
  | cons e es =>
   have b4':=b4
   simp only[List.all_cons,Bool.and_eq_true]at b4'
   exact aH5 i M F.o.foc (F.o.fit.slot h2) v1 v2 v3 b2 (aa8 (Z5 F) (e::es)) (by simpa using b3) b5 (D5 b4'.1 _ _) ((T2 cp _).trans (P1 cp _ b4'.2)) (bU1 b4 (by rw[b5];exact b6))
 ·cases h
theorem aV8:UE X C e uNo:=fun _ _ _ _ h _=>nomatch h
theorem bc1(F:FitU S O C c X) (h:opU op=some k):OpD X (compareOp op) k:=by
 cases op<;>cases h
 ·exact aL5 F.o.fit.units
 ·exact bC8 F.o.fit.units
 ·exact bC9
 ·exact ax2
theorem aM3{f:Expr->DE}(h:∀e,JE X e (f e)):∀(es:List Expr) (j:Nat),es.length<=j->es.all pl=true->JM X i es (aR7 f j es)
 | [],_,_,_=>by unfold aR7;exact bR9
 | e::es,0,l,_=>by simp at l
 | e::es,j+1,l,p=>by
  simp only[List.all_cons,Bool.and_eq_true]at p
  exact aM4 (h e) (aM3 h es j (by simpa using l) p.2) (D5 p.1 _ _)
theorem bg0{f:Expr->DE}(h:∀e,JE X e (f e)) (hn:X.N[i]? = some x) (hv:Vis X.env.scope x) (h1:(x==("__debug__" : Str))=false) (h2:(x==("__classdict__" : Str))=false):∀(j:Nat) (es:List Expr),es[j]? = some (.Name x p)->es.all pl=true->JM X i es (aR7 f j es)
 | _,[],e,_=>by simp at e
 | 0,e::es,q,p=>by
  simp at q
  subst q
  simp only[List.all_cons,Bool.and_eq_true]at p
  exact bR8 (aM3 h es _ (Nat.le_refl _) p.2) hn hv h1 h2 (D5 p.1 _ _)
 | j+1,e::es,q,p=>by
  simp only[List.all_cons,Bool.and_eq_true]at p
  exact aM4 (h e) (bg0 h hn hv h1 h2 j es (by simpa using q) p.2) (D5 p.1 _ _)
theorem bO1(F:FitU S O C c X) (h:oDf S O c e=some g):UE X C e g:=by
 obtain⟨⟨f,a,k,p⟩,h1,h0⟩:=Option.bind_eq_some_iff.mp h
 clear h
 rw[ac0 h1]
 cases k with
 | cons=>cases h0
 | nil =>
  obtain⟨⟨y,py⟩,h2,h⟩:=Option.bind_eq_some_iff.mp h0
  rw[T7 h2]
  obtain⟨⟨Fn,n,j⟩,h3,h⟩:=Option.bind_eq_some_iff.mp h
  obtain⟨ej,h4,h⟩:=Option.bind_eq_some_iff.mp h
  obtain⟨⟨v,pv⟩,h5,h⟩:=Option.bind_eq_some_iff.mp h
  obtain⟨i,h6,h⟩:=Option.bind_eq_some_iff.mp h
  split at h
  ·rename_i hb
   cases h
   simp only[Bool.and_eq_true,beq_iff_eq,decide_eq_true_eq]at hb
   obtain⟨⟨⟨b1,b2⟩,b3⟩,b4,b5⟩:=hb
   obtain⟨g1,g2⟩:=Y4 F.o.fit b1
   obtain⟨v1,v2,v3⟩:=P0 F.o.fit b2
   have hj:a[j]? = some (.Name v pv):=by rw[T7 h5]at h4;exact h4
   have J:=bg0 (Z5 F) (F.o.fit.slot h6) v1 v2 v3 j a hj b3
   cases a with
   | nil=>simp at hj
   | cons e es =>
    have b3':=b3
    simp only[List.all_cons,Bool.and_eq_true]at b3'
    exact bZ3 i (F.df _ _ _ _ h3) g1 g2 (F.o.fit.slot h6) v1 v2 v3 J b4 (D5 b3'.1 _ _) ((T2 p _).trans (P1 p _ b3'.2))
  ·cases h
theorem bj7:∀ρ q d q',elN ρ q=some (d,q')->q'=q:=fun ρ q d q' h=>by
 obtain⟨⟨ds,q1⟩,h1,h2⟩:=Option.map_eq_some_iff.mp h
 cases h2
 obtain⟨⟨x,q2⟩,h3,h1⟩:=Option.bind_eq_some_iff.mp h1
 obtain⟨⟨y,q3⟩,h4,h5⟩:=Option.map_eq_some_iff.mp h1
 cases h5
 obtain⟨_,_,h6⟩:=Option.map_eq_some_iff.mp h3
 cases h6
 obtain⟨⟨z,q4⟩,h7,h4⟩:=Option.bind_eq_some_iff.mp h4
 obtain⟨⟨z2,q5⟩,h8,h9⟩:=Option.map_eq_some_iff.mp h4
 cases h9
 cases h8
 obtain⟨⟨j,o⟩,k1,h7⟩:=Option.bind_eq_some_iff.mp h7
 obtain⟨ds,k2,h7⟩:=Option.bind_eq_some_iff.mp h7
 obtain⟨⟨r,o'⟩,k3,k4⟩:=Option.map_eq_some_iff.mp h7
 cases k4
 have:o'=o:=by
  unfold K3 at k3
  split at k3
  ·obtain⟨_,_,k5⟩:=Option.map_eq_some_iff.mp k3
   cases k5;rfl
  ·cases k3
 subst this
 have:q[j]? = some o':=by
  unfold F8 at k1
  split at k1
  ·obtain⟨o1,e1,e2⟩:=Option.map_eq_some_iff.mp k1
   cases e2;exact e1
  ·cases k1
 exact aj1 this
theorem m7.comp(M:m7 X C m n F):m7 (C2 X N' scope C0 s0 H0 ex) C m n F:=M
theorem bO0(h:oEl elt tgt=some (y,w)):∃p1 p2 p3 k0 p0,elt=.Tuple [.Name y p1,.Call (.Attribute (.Name w.x w.p) "fetch" w.ap) [.Name y p2] [] w.cp] k0 p0/\tgt=.Name y p3/\(w.ap.endLine==w.cp.line)=true:=by
 obtain⟨⟨es,k0,p0⟩,h4,h1⟩:=Option.bind_eq_some_iff.mp h
 clear h
 have:=aq6 h4
 subst this
 clear h4
 dsimp only at h1 ⊢
 split at h1
 ·rename_i e1 e2
  obtain⟨⟨y1,p1⟩,h5,h2⟩:=Option.bind_eq_some_iff.mp h1
  clear h1
  obtain⟨⟨y3,p3⟩,h6,h1⟩:=Option.bind_eq_some_iff.mp h2
  clear h2
  obtain⟨w1,h7,h2⟩:=Option.bind_eq_some_iff.mp h1
  clear h1
  split at h2
  ·rename_i e3 h8
   obtain⟨⟨y2,p2⟩,h9,h1⟩:=Option.bind_eq_some_iff.mp h2
   clear h2
   split at h1
   ·rename_i hb
    cases h1
    simp only[Bool.and_eq_true,beq_iff_eq]at hb
    obtain⟨⟨⟨b1,b2⟩,b3⟩,b4⟩:=hb
    subst b1 b2
    refine⟨p1,p2,p3,k0,p0,?_,T7 h6,by simpa using b4⟩
    rw[T7 h5,ak6 h7,h8,T7 h9,b3]
   ·cases h1
  ·cases h2
 ·cases h1
theorem bN6(F:FitU S O C c X) {r:Expr->Option UD}(R:∀e g,r e=some g->UE X C e g) {t:Expr×Expr×Expr×Scope×Pos}(h:oLc O c r t=some g):UE X C (.ListComp t.1 [⟨t.2.1,t.2.2.1,[],0⟩] t.2.2.2.1 t.2.2.2.2) g:=by
 obtain⟨elt,tgt,it,sc,p⟩:=t
 obtain⟨⟨y,w⟩,h1,h0⟩:=Option.bind_eq_some_iff.mp h
 clear h
 obtain⟨gi,h2,h⟩:=Option.bind_eq_some_iff.mp h0
 clear h0
 obtain⟨i,h3,h0⟩:=Option.bind_eq_some_iff.mp h
 clear h
 obtain⟨p1,p2,p3,k0,p0,e1,e2,b4⟩:=bO0 h1
 dsimp only at e1 e2 h0 ⊢
 subst e1 e2
 split at h0
 ·rename_i hc
  cases h0
  unfold lcB at hc
  simp only[Bool.and_eq_true,beq_iff_eq]at hc
  obtain⟨c1,⟨⟨⟨c2,c3⟩,c4⟩,⟨⟨c5,c6⟩,c7⟩,c8⟩,c9,c10⟩:=hc
  have hn:=k6 c3
  obtain⟨v1,v2,v3⟩:=P0 F.o.fit c5
  have M:=(F.tw c1).2
  have Fi:=fun C0 s0 H0 ex=>F.o.fit.inner (C:=C0) (s0:=s0) (H0:=H0) (ex:=ex) hn
  refine bo6 i (ap0 c2 F.o.fit.N F.o.fit.sc) F.o.fit.hx (R _ _ h2) (fun C0 s0 H0 ex=>?_) (fun C0 s0 H0 ex=>?_) bj7 (F.o.fit.slot h3) v1 v2 v3 F.o.fit.calm (ag8 c4 _)
  ·obtain⟨l1,l2⟩:=aa5 (Fi C0 s0 H0 ex) c8
   exact aM6 0 hn ((Fi C0 s0 H0 ex).slot c9) l1 l2
  ·obtain⟨u1,u2,u3⟩:=P0 (Fi C0 s0 H0 ex) c6
   obtain⟨z1,z2,z3⟩:=P0 (Fi C0 s0 H0 ex) c7
   have J:∀p,JE (C2 X (G.inner c [y] [i] sc).N sc C0 s0 H0 ex) (.Name y p) (A2 0):=fun p=>aF3 0 ((Fi C0 s0 H0 ex).slot c9) u1 u2 u3
   exact aV7 (aq4 (j4 (J _)) (aq4 (aH5 1 M.comp F.o.foc ((Fi C0 s0 H0 ex).slot c10) z1 z2 z3 (by decide) (E2 (J _) R8 rfl) b4 rfl rfl rfl rfl) aV6 rfl) rfl) (by show 2<=1000;decide)
 ·cases h0
theorem ad1(F:FitU S O C c X) {r:Expr->Option UD}(R:∀e g,r e=some g->UE X C e g) (e:Expr):UE X C e (orP S c r e):=by
 unfold orP
 cases h:r e with
 | none=>exact j4 (Z5 F e)
 | some g=>exact R e g h
theorem aC5{f:Expr->UD}(h:∀e,UE X C e (f e)):∀es:List Expr,es.all pl=true->UAs X C es (ulE f es)
 | [],_=>aV6
 | e::es,p=>by
  simp only[List.all_cons,Bool.and_eq_true]at p
  exact aq4 (h e) (aC5 h es p.2) (D5 p.1 _ _)
theorem bN4(F:FitU S O C c X) {r:Expr->Option UD}(R:∀e g,r e=some g->UE X C e g) (h:oX1 S O c r e=some g):UE X C e g:=by
 unfold oX1 at h
 split at h
 ·rename_i t ht
  have:=aN8 ht
  subst this
  split at h
  ·cases h
   unfold oCc
   split
   ·rename_i k hk
    split
    ·exact aV8
    ·rename_i hm
     exact bH4 (bc1 F hk) (ad1 F R _) (ad1 F R _) (by simpa using hm)
   ·exact aV8
  ·cases h
 ·split at h
  ·rename_i t ht
   rw[aq6 ht]
   split at h
   ·rename_i hb
    cases h
    simp only[Bool.and_eq_true,decide_eq_true_eq]at hb
    exact aV7 (aC5 (ad1 F R) _ hb.1.2) hb.2
   ·cases h
  ·split at h
   ·rename_i t ht
    obtain⟨u,h1,h⟩:=Option.bind_eq_some_iff.mp h
    obtain⟨g1,h2,h3⟩:=Option.map_eq_some_iff.mp h
    subst h3
    rw[bp7 ht,bq3 h1]
    exact bZ2 (R _ _ h2) (Z9 (Z5 F) _) (Z9 (Z5 F) _)
   ·obtain⟨t,h1,h2⟩:=Option.bind_eq_some_iff.mp h
    rw[bP5 h1]
    exact bN6 F R h2
theorem aL6(F:FitU S O C c X):∀n e g,oX S O c n e=some g->UE X C e g
 | 0,e,g,h=>by cases h
 | n+1,e,g,h=>by
  unfold oX at h
  split at h
  ·rename_i g1 h1
   cases h
   exact ce2 F h1
  ·split at h
   ·rename_i g1 h1
    cases h
    exact bO1 F h1
   ·exact bN4 F (aL6 F n) h
theorem ak3(F:FitU S O C c X) (e:Expr):UE X C e (oE S O c e):=ad1 F (aL6 F 5) e
theorem bd3(F:FitU S O C c X):∀es:List Expr,UE X C (.BoolOp .And es pos) (oAn S O c es)
 | []=>aV8
 | [e]=>bH3 (ak3 F e)
 | e::e'::es=>bo7 (ak3 F e) (bd3 F (e'::es))
theorem bD0(F:FitU S O C c X) (e:Expr):UE X C e (oV S O c e):=by
 unfold oV
 split
 ·rename_i t ht
  have:=aO0 ht
  obtain⟨op,l,p⟩:=t
  subst this
  cases op
  ·dsimp only
   split
   ·exact bd3 F l
   ·exact j4 (Z5 F _)
  ·exact j4 (Z5 F _)
 ·exact ak3 F e
theorem bY6(F:FitU S O C c X) (hh:aF7 S O c e=true) (h:bx8 e=true):UT X C e (uTB (oE S O c e)):=by
 unfold bx8 at h
 simp only[Bool.or_eq_true,Option.isSome_iff_exists]at h
 rcases h with⟨t,h⟩|⟨t,h⟩
 ·refine bG1 (ak3 F e) ?_
  rw[ac0 h]
  intro _;rfl
 ·obtain⟨l,op,r,p⟩:=t
  have:=aN8 h
  subst this
  have hx:oX S O c 5 (.Compare l [op] [r] p)=if(oX S O c 4 l).isSome || (oX S O c 4 r).isSome then some (oCc (orP S c (oX S O c 4)) (l,op,r,p)) else none:=rfl
  unfold aF7 at hh
  unfold oE
  unfold orP
  rw[hx]at hh ⊢
  split at hh
  ·rename_i hb
   rw[if_pos hb,Option.getD_some]
   unfold oCc
   split
   ·rename_i k hk
    split
    ·exact fun _ _ _ _ h _=>nomatch h
    ·rename_i hm
     exact bG3 (bc1 F hk) (ad1 F (aL6 F 4) _) (ad1 F (aL6 F 4) _) (by simpa using hm)
   ·exact fun _ _ _ _ h _=>nomatch h
  ·cases hh
theorem ak2(F:FitU S O C c X) (e:Expr):UT X C e (oT1 S O c e):=by
 unfold oT1
 split
 ·rename_i t ht
  split
  ·rename_i hb
   simp only[Bool.and_eq_true]at hb
   rw[bv4 ht]
   exact bG2 (bY6 F hb.1 hb.2)
  ·exact aq3 ((ab1 S 99).t F.o.fit e)
 ·split
  ·rename_i hb
   simp only[Bool.and_eq_true]at hb
   exact bY6 F hb.1 hb.2
  ·exact aq3 ((ab1 S 99).t F.o.fit e)
theorem bd0(F:FitU S O C c X):∀es:List Expr,UW X C .And es (oTa S O c es)
 | []=>fun _ _ _ _ h _=>nomatch h
 | [e]=>bn8 (ak2 F e)
 | e::e'::es=>bG0 (ak2 F e) (bd0 F (e'::es))
theorem bc9(F:FitU S O C c X):∀es:List Expr,UW X C .Or es (oTo S O c es)
 | []=>fun _ _ _ _ h _=>nomatch h
 | [e]=>bF9 (ak2 F e)
 | e::e'::es=>bY5 (ak2 F e) (bc9 F (e'::es))
theorem ce0(F:FitU S O C c X) (e:Expr):UT X C e (oT S O c e):=by
 unfold oT
 split
 ·rename_i t ht
  split
  ·have:=aO0 ht
   obtain⟨op,l,p⟩:=t
   subst this
   cases op
   ·exact(bd0 F l).ut
   ·exact(bc9 F l).ut
  ·exact aq3 ((ab1 S 99).t F.o.fit e)
 ·exact ak2 F e
end
end G
namespace G
open PySem PySem.Spec PyProof.Rows L2
def uRn(i:Nat) (f:DE):UX:=fun ρ q=>match F8 i ρ q with
 | some p=>some (.ro p.1 q)
 | none=>T4 (uP f) ρ q
def cf2:Expr->Option (List Expr×Pos)
 | .List es p=>some (es,p)
 | _=>none
theorem bv8(h:cf2 e=some t):e=.List t.1 t.2:=by cases e<;>first|(cases h;rfl)|cases h
def bK1:Expr->Option (Str×Pos×List Expr×Pos)
 | .Call (.Name x p) [a,b,d] [] cp=>some (x,p,[a,b,d],cp)
 | _=>none
theorem bq8(h:bK1 e=some t):∃a b d,e=.Call (.Name t.1 t.2.1) [a,b,d] [] t.2.2.2/\t.2.2.1=[a,b,d]:=by
 unfold bK1 at h
 split at h
 ·cases h;exact⟨_,_,_,rfl,rfl⟩
 ·cases h
def oB(f:Stmt->UX):List Stmt->UX
 | []=>W0
 | [s]=>f s
 | s::t::r=>N8 (f s) (oB f (t::r))
section
variable (S:Sg) (O:Og) (c:Kx)
def oNa(x:Str) (a:List Expr):Option (Rho->Option Fo):=if ag2 c.sc x then(match a with
 | []=>if x==O.cl then some (fun _=>some fo0) else none
 | e::es=>(O.nf.lookup x).bind fun F=>if(e::es).all pl&&(e::es).length==F.2 then some (fun ρ=>(evA (pE S c) (e::es) ρ).bind F.1) else none) else none
def oN(e:Expr):Option (Rho->Option Fo):=(aU6 e).bind fun t=>match t.2.2.1 with
 | []=>(nmP t.1).bind fun v=>oNa S O c v.1 t.2.1
 | _=>none
def oTw(i:Nat) (v:Expr):Option UX:=(mcV v).bind fun w=>if O.tw&&w.m == "twin" && w.a.isEmpty&&l4 c.sc w.x&&(w.ap.endLine==w.cp.line) then(T0 w.x c.N).map fun j=>uTw i j else none
def oOw(i:Nat) (v:Expr):Option UX:=(cf2 v).bind fun t=>if c.own.contains i&&t.1.all pl&&decide (t.1.length<=1000) then some (aP1 i (ulE (oE S O c) t.1)) else none
def bO4(x:Str) (v:Expr):UX:=match T0 x c.N with
 | some i=>if as6 c x && !(isC v) then(match oN S O c v with
  | some g=>bH5 i g
  | none=>(match oTw O c i v with
   | some g=>g
   | none=>(match oOw S O c i v with
    | some g=>g
    | none=>R4 i (oV S O c v)))) else uXo
 | none=>uXo
def ce1(x y:Str) (px py:Pos) (a b:Expr):Option UX:=(T0 x c.N).bind fun i=>(T0 y c.N).bind fun j=>(oN S O c a).bind fun f=>(oN S O c b).bind fun g=>if bt2 c x y px py a b then some (bZ4 i j f g) else none
def bO3(es:List Expr) (v:Expr):Option UX:=(bH8 es).bind fun t=>(bH7 v).bind fun u=>ce1 S O c t.1.1 t.2.1 t.1.2 t.2.2 u.1 u.2
def oAs(v:Expr):List Expr->UX
 | [tg]=>(match nmP tg with
  | some t=>bO4 S O c t.1 v
  | none=>((aW2 tg).bind fun t=>bO3 S O c t.1 v).getD uXo)
 | _=>uXo
def oRt:Option Expr->UX
 | some e=>(match nmP e with
  | some t=>(match T0 t.1 c.N with
   | some i=>if l4 c.sc t.1 then uRn i (pE S c e) else uXo
   | none=>T4 (uP (pE S c e)))
  | none=>T4 (oV S O c e))
 | none=>uXo
def oNp(w:Mc) (a:Expr) (ap cp:Pos):Option UX:=if w.m == "names" && w.a.isEmpty&&l4 c.sc w.x&&(w.ap.endLine==w.cp.line)&&(ap.endLine==cp.line)&&pl a then(T0 w.x c.N).map fun i=>bZ5 i (pE S c a) else none
def cl8(e:Expr):Option UX:=(aU6 e).bind fun t=>match t.2.2.1 with
 | []=>(match t.2.1 with
  | [a]=>(bW5 t.1).bind fun u=>if u.2.1 == "append" then(mcV u.1).bind fun w=>oNp S c w a u.2.2 t.2.2.2 else none
  | _=>none)
 | _=>none
def oAp(e:Expr):Option UX:=(mcV e).bind fun w=>match w.a with
 | [a]=>if w.m == "append" && l4 c.sc w.x&&(w.ap.endLine==w.cp.line)&&pl a then(T0 w.x c.N).map fun i=>aq5 i (oE S O c a) else none
 | _=>none
def oEx(e:Expr):UX:=match cl8 S c e with
 | some g=>g
 | none=>(match oAp S O c e with
  | some g=>g
  | none=>if isC e then uXo else uEx (oE S O c e))
def oI(tg it:Expr):DA:=match bK1 it with
 | some t=>if biB S c "range" t.1&&t.2.2.1.all pl then az6 (evA (pE S c) t.2.2.1) else evI S (ev S 98) c tg it
 | none=>evI S (ev S 98) c tg it
def oFo(tg it:Expr) (f:UX):List Stmt->UX
 | []=>if pl it then ai6 (oI S c tg it) ((ev S 98).g c tg) f else uXo
 | _=>uXo
def oFz(g:UX):Option (List Nat)->UX
 | none=>g
 | some l=>l.foldl (fun g i=>aC6 i g) g
def oS:Nat->Stmt->UX
 | 0,_=>uXo
 | n+1,st=>oFz (match st with
  | .Return o _=>oRt S O c o
  | .If t a b _=>uIf (oT S O c t) (oB (oS n) a) (oB (oS n) b)
  | .For tg it a o _=>oFo S c tg it (oB (oS n) a) o
  | .Assign ts v _=>oAs S O c v ts
  | .Expr e _=>oEx S O c e
  | _=>uXo) (c.fz.lookup (be4 st))
end
section
variable {X:Cx}{S:Sg}{O:Og}{C:Addr}{c:Kx}
theorem d5{st:Stmt}:US X C st uXo:=fun _ _ _ h=>nomatch h
theorem bd1(F:FitU S O C c X) (h:oN S O c e=some g):UN X C e g:=by
 obtain⟨⟨f,a,k,p⟩,h1,h0⟩:=Option.bind_eq_some_iff.mp h
 clear h
 rw[ac0 h1]
 cases k with
 | cons=>cases h0
 | nil =>
  obtain⟨⟨x,q⟩,h2,h⟩:=Option.bind_eq_some_iff.mp h0
  rw[T7 h2]
  unfold oNa at h
  split at h
  ·rename_i hg
   obtain⟨g1,g2⟩:=Y4 F.o.fit hg
   cases a with
   | nil =>
    dsimp only at h
    split at h
    ·rename_i hx
     cases h
     simp only[beq_iff_eq]at hx
     subst hx
     exact bo4 F.make g1 g2
    ·cases h
   | cons e es =>
    dsimp only at h
    obtain⟨⟨Fn,n⟩,h3,h⟩:=Option.bind_eq_some_iff.mp h
    split at h
    ·rename_i hb
     cases h
     simp only[Bool.and_eq_true,beq_iff_eq,List.all_cons]at hb
     exact bo5 (F.nf _ _ _ h3) g1 (aa8 (Z5 F) (e::es)) hb.2 g2 (D5 hb.1.1 _ _) ((T2 p _).trans (P1 p _ hb.1.2))
    ·cases h
  ·cases h
theorem bv3(F:FitU S O C c X) (x:Str) (p':Pos) (v:Expr) (p:Pos):US X C (.Assign [.Name x p'] v p) (bO4 S O c x v):=by
 have nd:X.N.Nodup:=by rw[F.o.fit.N];exact F.o.fit.nd
 unfold bO4
 split
 ·rename_i i hi
  split
  ·rename_i h
   simp only[Bool.and_eq_true,Bool.not_eq_true']at h
   obtain⟨l1,l2⟩:=aa5 F.o.fit h.1
   split
   ·rename_i g hg
    exact bG7 i nd (bd1 F hg) (F.o.fit.slot hi) l1 (S9 h.2 _ _ _) l2
   ·split
    ·rename_i g hg
     obtain⟨w,w1,w2⟩:=Option.bind_eq_some_iff.mp hg
     split at w2
     ·rename_i hb
      obtain⟨j,hj,w3⟩:=Option.map_eq_some_iff.mp w2
      subst w3
      simp only[Bool.and_eq_true,beq_iff_eq,List.isEmpty_iff]at hb
      obtain⟨⟨⟨⟨b1,b2⟩,b3⟩,b4⟩,b5⟩:=hb
      obtain⟨v1,v2,v3⟩:=P0 F.o.fit b4
      have hs:=S9 h.2 (some (.Name x p')) p.line X.env
      rw[ak6 w1,b2,b3]at hs ⊢
      exact bY7 i j (F.tw b1).1 F.o.foc nd (F.o.fit.slot hi) l1 l2 (F.o.fit.slot hj) v1 v2 v3 (by simpa using b5) hs
     ·cases w2
    ·split
     ·rename_i g hg
      obtain⟨t,w1,w2⟩:=Option.bind_eq_some_iff.mp hg
      split at w2
      ·rename_i hb
       cases w2
       simp only[Bool.and_eq_true,decide_eq_true_eq]at hb
       have hs:=S9 h.2 (some (.Name x p')) p.line X.env
       rw[bv8 w1]at hs ⊢
       exact bG6 i nd (aC5 (ak3 F) _ hb.1.2) hb.2 (F.o.fit.slot hi) l1 hs l2
      ·cases w2
     ·exact bG4 i nd (bD0 F v) (F.o.fit.slot hi) l1 (S9 h.2 _ _ _) l2
  ·exact d5
 ·exact d5
theorem bv2(F:FitU S O C c X) {es:List Expr}{v:Expr}{kt:Nat}{pt p:Pos}(h:bO3 S O c es v=some g):US X C (.Assign [.Tuple es kt pt] v p) g:=by
 have nd:X.N.Nodup:=by rw[F.o.fit.N];exact F.o.fit.nd
 obtain⟨t,h1,h0⟩:=Option.bind_eq_some_iff.mp h
 clear h
 obtain⟨u,h2,h⟩:=Option.bind_eq_some_iff.mp h0
 clear h0
 rw[aH7 h1]
 obtain⟨k2,p2,e2⟩:=aH6 h2
 rw[e2]
 obtain⟨⟨x,px⟩,y,py⟩:=t
 obtain⟨a,b⟩:=u
 unfold ce1 at h
 obtain⟨i,hi,h⟩:=Option.bind_eq_some_iff.mp h
 obtain⟨j,hj,h⟩:=Option.bind_eq_some_iff.mp h
 obtain⟨f1,hf1,h⟩:=Option.bind_eq_some_iff.mp h
 obtain⟨f2,hf2,h⟩:=Option.bind_eq_some_iff.mp h
 split at h
 ·rename_i hb
  cases h
  unfold bt2 at hb
  simp only[Bool.and_eq_true,Bool.not_eq_true',beq_iff_eq]at hb
  obtain⟨⟨⟨⟨⟨⟨⟨⟨hd,ha⟩,hb⟩,hxy⟩,hl⟩,hx⟩,hy⟩,hf⟩,hcs⟩:=hb
  have hx':X.env.scope.names.lookup x=some .local:=by rw[F.o.fit.sc];exact hx
  have hy':X.env.scope.names.lookup y=some .local:=by rw[F.o.fit.sc];exact hy
  have hne:i≠j:=fun z=>by
   subst z
   have:=(F.o.fit.slot hi).symm.trans (F.o.fit.slot hj)
   cases this
   simp at hxy
  exact bG5 nd (bd1 F hf1) (bd1 F hf2) (aW8 (aG9 F.o.fit hd) ha hb hx' hy' hl hxy hf hcs) hne (F.o.fit.slot hi) (F.o.fit.slot hj) hx' hy' F.o.fit.calm (D5 ha _ _) (D5 hb _ _) rfl
 ·cases h
theorem bO2(F:FitU S O C c X) (v:Expr) (ts:List Expr) (p:Pos):US X C (.Assign ts v p) (oAs S O c v ts):=by
 unfold oAs
 split
 ·rename_i tg
  split
  ·rename_i t ht
   rw[T7 ht]
   exact bv3 F _ _ _ _
  ·cases h:(aW2 tg).bind fun t=>bO3 S O c t.1 v with
   | none=>exact d5
   | some g =>
    obtain⟨t,h1,h2⟩:=Option.bind_eq_some_iff.mp h
    rw[aq6 h1]
    exact bv2 F h2
 ·exact d5
theorem bY9(i:Nat) (hn:X.N[i]? = some x) (hv:Vis X.env.scope x) (h1:(x==("__debug__" : Str))=false) (h2:(x==("__classdict__" : Str))=false) (h:JE X (.Name x p) f):US X C (.Return (some (.Name x p)) pos) (uRn i f):=fun ρ q fl w no=>by
 unfold uRn at w
 split at w
 ·rename_i t ht
  exact bY8 i hn hv h1 h2 ρ q fl (by unfold uRo;rw[ht];exact w) no
 ·exact aC4 (j4 h) ρ q fl w no
theorem bN5(F:FitU S O C c X) (o:Option Expr) (p:Pos):US X C (.Return o p) (oRt S O c o):=by
 unfold oRt
 split
 ·rename_i e
  split
  ·rename_i t ht
   split
   ·rename_i i hi
    split
    ·rename_i hv
     obtain⟨v1,v2,v3⟩:=P0 F.o.fit hv
     have:=Z5 F e
     rw[T7 ht]at this ⊢
     exact bY9 i (F.o.fit.slot hi) v1 v2 v3 this
    ·exact d5
   ·exact aC4 (j4 (Z5 F _))
  ·exact aC4 (bD0 F _)
 ·exact d5
theorem bN9(F:FitU S O C c X) (e:Expr) (p:Pos):US X C (.Expr e p) (oEx S O c e):=by
 unfold oEx
 split
 ·rename_i g h
  obtain⟨⟨f,a,k,cp⟩,h1,h0⟩:=Option.bind_eq_some_iff.mp h
  clear h
  rw[ac0 h1]
  cases k with
  | cons=>cases h0
  | nil =>
   dsimp only at h0 ⊢
   split at h0
   ·rename_i a1
    obtain⟨⟨o1,m1,ap⟩,h2,h⟩:=Option.bind_eq_some_iff.mp h0
    clear h0
    split at h
    ·rename_i hm
     simp only[beq_iff_eq]at hm
     subst hm
     obtain⟨w,h3,h⟩:=Option.bind_eq_some_iff.mp h
     rw[aO3 h2,ak6 h3]
     unfold oNp at h
     split at h
     ·rename_i hb
      simp only[Bool.and_eq_true,beq_iff_eq,List.isEmpty_iff]at hb
      obtain⟨⟨⟨⟨⟨b1,b2⟩,b3⟩,b4⟩,b5⟩,b6⟩:=hb
      obtain⟨i,hi,hg⟩:=Option.map_eq_some_iff.mp h
      subst hg
      obtain⟨v1,v2,v3⟩:=P0 F.o.fit b3
      rw[b1,b2]
      have hst:=D5 b6 [] X.env
      exact bo1 i F.nm F.o.foc (F.o.fit.slot hi) v1 v2 v3 (Z5 F _) (by simpa using b4) (by simpa using b5) hst (by rw[hst];rfl) rfl
     ·cases h
    ·cases h
   ·cases h0
 ·split
  ·rename_i g h
   obtain⟨w,h1,h2⟩:=Option.bind_eq_some_iff.mp h
   clear h
   rw[ak6 h1]
   obtain⟨x,p0,m,ap,a,cp⟩:=w
   dsimp only at h2 ⊢
   split at h2
   ·split at h2
    ·rename_i a1 hb
     obtain⟨i,hi,hg⟩:=Option.map_eq_some_iff.mp h2
     subst hg
     simp only[Bool.and_eq_true,beq_iff_eq]at hb
     obtain⟨⟨⟨b1,b2⟩,b3⟩,b4⟩:=hb
     obtain⟨v1,v2,v3⟩:=P0 F.o.fit b2
     rw[b1]
     have hst:=D5 b4 [] X.env
     exact bH0 i (ak3 F _) (F.o.fit.slot hi) v1 v2 v3 (by rw[hst];rfl) (by simpa using b3) hst rfl
    ·cases h2
   ·cases h2
  ·split
   ·exact d5
   ·rename_i hc
    exact bo2 (ak3 F e) (S9 (by simpa using hc) _ _ _)
theorem aA8:Cm gNo:=fun _ _ _ _ h=>nomatch h
theorem bl3{f:Expr->DG}(h:∀e,Cm (f e)):∀es:List Expr,Cms (by9 f es)
 | []=>bA0
 | e::es=>bl4 (h e) (bl3 h es)
theorem bE3(S:Sg):∀n c ex,Cm ((ev S n).g c ex)
 | 0,c,ex=>aA8
 | n+1,c,ex=>by
  show Cm (xG (ev S n) c ex)
  unfold xG
  split
  ·split
   ·split
    ·exact bV4 _
    ·exact aA8
   ·exact aA8
  ·split
   ·exact bV3 (bl3 (fun e=>bE3 S n c e) _)
   ·exact aA8
  ·exact aA8
theorem ax3{f:Stmt->UX}(h:∀st,US X C st (f st)):∀sts,USs X C sts (oB f sts)
 | []=>bo0
 | [s]=>bn9 (h s)
 | s::t::r=>aV5 (h s) (ax3 h (t::r))
theorem ce3(F:FitU S O C c X) (tg it:Expr):JI X tg it (oI S c tg it):=by
 unfold oI
 split
 ·rename_i t ht
  split
  ·rename_i hb
   simp only[Bool.and_eq_true]at hb
   obtain⟨a,b,d,e1,e2⟩:=bq8 ht
   obtain⟨h0,h1,h2⟩:=K2 F.o.fit hb.1
   rw[e1,e2,h0]
   have hp:=hb.2
   rw[e2]at hp
   have hp':=hp
   simp only[List.all_cons,List.all_nil,Bool.and_eq_true]at hp'
   exact aS4 h1 h2 (aa8 (Z5 F) _) (D5 hp'.1 _ _) ((T2 t.2.2.2 _).trans (P1 t.2.2.2 _ (by simp[hp'.2.1,hp'.2.2.1])))
  ·exact aM5 (ab1 S 98) F.o.fit _ _
 ·exact aM5 (ab1 S 98) F.o.fit _ _
theorem bN8{st:Stmt}(h:US X C st g):∀o,US X C st (oFz g o)
 | none=>h
 | some l=>by
  show US X C st (l.foldl (fun g i=>aC6 i g) g)
  induction l generalizing g with
  | nil=>exact h
  | cons i l ih=>exact ih (bG8 i h)
theorem aL7(F:FitU S O C c X):∀n st,US X C st (oS S O c n st)
 | 0,st=>d5
 | n+1,st=>by
  have ih:=ax3 (aL7 F n)
  refine bN8 ?_ _
  cases st
  case Return=>exact bN5 F _ _
  case If=>exact bZ0 (ce0 F _) (ih _) (ih _)
  case For tg it a o p =>
   cases o
   ·show US X C _ (oFo S c tg it (oB (oS S O c n) a) [])
    unfold oFo
    dsimp only
    split
    ·rename_i h;exact bG9 (ce3 F _ _) ((ab1 S 98).g F.o.fit _) (bE3 S 98 c tg) (ih _) F.o.fit.po F.o.fit.calm (ag8 h _)
    ·exact d5
   ·exact d5
  case Assign=>exact bO2 F _ _ _
  case Expr=>exact bN9 F _ _
  all_goals exact d5
end
end G
namespace G
open PySem PySem.Spec PyProof.Rows L2
section
variable {X:Cx}{C:Addr}{b:Bs}{ρ ρ':Rho}{q q' q1 q2:Os}{o o':Fo}{K:PySem.W.Frag}{σ:L2.St}{H Hf:Hp}{a:Addr}{c:Cel}
theorem aL2(A:At1 X ρ q x i j a o) (c:FoC X.K C) (hg:Gl X "len") (hm:X.mg "len" = none) (hb:attributeBase (.Name x p) "steps_back" X.env (eval (.Name x p) X.env)=eval (.Name x p) X.env:=by rfl):OP X C b ρ q (.Call (.Name "len" p1) [.Attribute (.Name x p) "steps_back" pos] [] cpos) (.int o.b.length) :=
 A5 (V4 aB1 hg hm (by rfl) (B8 (W9 A c (.inr (.inl rfl)) hb) F6)) fun σ H Q ⟨Hf,st,kk⟩=>⟨Hf,st,fun cl v f1 hl=>by
  cases hl
  obtain⟨vs,e0,r0⟩:=f1.bk
  refine⟨_,o.b.length,rfl,?_,kk _ _ _ (Grow.refl st.same) rfl⟩
  exact .inl ⟨vs,SqL.of e0,by rw[r0.length]⟩⟩
theorem aL1(A:At1 X ρ q x i j a o) (c:FoC X.K C) (hg:Gl X "len") (hm:X.mg "len" = none) (hb:attributeBase (.Name x p) "steps_forth" X.env (eval (.Name x p) X.env)=eval (.Name x p) X.env:=by rfl):OP X C b ρ q (.Call (.Name "len" p1) [.Attribute (.Name x p) "steps_forth" pos] [] cpos) (.int o.f.length) :=
 A5 (V4 aB1 hg hm (by rfl) (B8 (W9 A c (.inr (.inr rfl)) hb) F6)) fun σ H Q ⟨Hf,st,kk⟩=>⟨Hf,st,fun cl v f1 hl=>by
  cases hl
  obtain⟨vs,e0,r0⟩:=f1.fo
  refine⟨_,o.f.length,rfl,?_,kk _ _ _ (Grow.refl st.same) rfl⟩
  exact .inl ⟨vs,SqL.of e0,by rw[r0.length]⟩⟩
theorem ac7:∀{bs:List D}{d:D}{vs:List V},Reps K H (bs++[d]) vs->∃us v,vs=us++[v]/\Reps K H bs us/\Rep K H d v
 | [],d,vs,⟨v,r,e,h1,h2⟩=>by cases h2;exact⟨[],v,e,rfl,h1⟩
 | x::bs,d,vs,⟨v,r,e,h1,h2⟩=>by
  obtain⟨us,u,e1,e2,e3⟩:=ac7 h2
  subst e1
  exact⟨v::us,u,e,⟨v,us,rfl,h1,e2⟩,e3⟩
theorem bu8(A:At1 X ρ q x i j a o) (cc:FoC X.K C) (h:o.b=bs++[d]) (hline:(apos.endLine==cpos.line)=true) (hb:attributeBase (.Name x p) "steps_back" X.env (eval (.Name x p) X.env)=eval (.Name x p) X.env:=by rfl)
  (hbase:attributeBase (.Attribute (.Name x p) "steps_back" pos) "pop" X.env (eval (.Attribute (.Name x p) "steps_back" pos) X.env)=eval (.Attribute (.Name x p) "steps_back" pos) X.env:=by rfl) :
  OE X C b ρ q (.Call (.Attribute (.Attribute (.Name x p) "steps_back" pos) "pop" apos) [] [] cpos) d (q.set j (a,{ o with b:=bs })) :=
 A5 (bb3 PySem.F.plainAttrs_list PySem.F.slot_list_pop PySem.F.type_list_pop bd9 (W9 A cc (.inr (.inl rfl)) hb) hbase hline) fun σ H Q ⟨Hf,st,kk⟩=>⟨Hf,st,fun cl y f1 hl=>by
  cases hl
  obtain⟨vb,e0,r0⟩:=f1.bk
  rw[h]at r0
  obtain⟨us,v,rfl,r1,r2⟩:=ac7 r0
  refine⟨.inl ⟨rfl,_,SqL.of e0⟩,cl.lb,us++[v],v,rfl,rfl,e0,by simp,?_⟩
  obtain⟨c',f3,k3⟩:=st.focus A.w A.o
  have:c'=cl:=FoAt.same f3 f1
  subst this
  rw[List.dropLast_concat]
  exact kk v _ Hf (k3 (Chg.wr st.same (by simp) (f1.fr _ (by simp))) (f1.wrB r1) fun z hz=>.inl hz) (B2.refl _) r2⟩
theorem bu7(A:At1 X ρ q x i j a o) (cc:FoC X.K C) (h:o.f=bs++[d]) (hline:(apos.endLine==cpos.line)=true) (hb:attributeBase (.Name x p) "steps_forth" X.env (eval (.Name x p) X.env)=eval (.Name x p) X.env:=by rfl)
  (hbase:attributeBase (.Attribute (.Name x p) "steps_forth" pos) "pop" X.env (eval (.Attribute (.Name x p) "steps_forth" pos) X.env)=eval (.Attribute (.Name x p) "steps_forth" pos) X.env:=by rfl) :
  OE X C b ρ q (.Call (.Attribute (.Attribute (.Name x p) "steps_forth" pos) "pop" apos) [] [] cpos) d (q.set j (a,{ o with f:=bs })) :=
 A5 (bb3 PySem.F.plainAttrs_list PySem.F.slot_list_pop PySem.F.type_list_pop bd9 (W9 A cc (.inr (.inr rfl)) hb) hbase hline) fun σ H Q ⟨Hf,st,kk⟩=>⟨Hf,st,fun cl y f1 hl=>by
  cases hl
  obtain⟨vb,e0,r0⟩:=f1.fo
  rw[h]at r0
  obtain⟨us,v,rfl,r1,r2⟩:=ac7 r0
  refine⟨.inl ⟨rfl,_,SqL.of e0⟩,cl.lf,us++[v],v,rfl,rfl,e0,by simp,?_⟩
  obtain⟨c',f3,k3⟩:=st.focus A.w A.o
  have:c'=cl:=FoAt.same f3 f1
  subst this
  rw[List.dropLast_concat]
  exact kk v _ Hf (k3 (Chg.wr st.same (by simp) (f1.fr _ (by simp))) (f1.wrF r1) fun z hz=>.inl hz) (B2.refl _) r2⟩
theorem bt5(A:At1 X ρ q x i j a o) (cc:FoC X.K C) (hv:OP X C b ρ q e d) (hz:o.f.length < 1000) (hb:attributeBase (.Name x p) "steps_forth" X.env (eval (.Name x p) X.env)=eval (.Name x p) X.env:=by rfl)
  (hbase:attributeBase (.Attribute (.Name x p) "steps_forth" pos) "append" X.env (eval (.Attribute (.Name x p) "steps_forth" pos) X.env)=eval (.Attribute (.Name x p) "steps_forth" pos) X.env:=by rfl)
  (hfew:((backTo cpos (starEach [e] X.env)).all (fun x=>!x.1)&&(backToKw cpos (keywordEach [] X.env)).all (fun x=>x.1.isSome)
   && decide (([e]:List Expr).length+([]:List Keyword).length+(if([]:List Keyword).isEmpty then 0 else 1) < 30))=true:=by rfl)
  (hline:(apos.endLine==cpos.line)=true:=by rfl) (hst:starEach [e] X.env=[(false,eval e X.env)]:=by rfl)
  (hs:swapsWith (.Call (.Attribute (.Attribute (.Name x p) "steps_forth" pos) "append" apos) [e] [] cpos) none pos2.line X.env=pure false:=by rfl) :
  OS X C b ρ q (.Expr (.Call (.Attribute (.Attribute (.Name x p) "steps_forth" pos) "append" apos) [e] [] cpos) pos2) (.nx ρ (q.set j (a,{ o with f:=o.f++[d] }))) :=
 B5 (S3 (ak1 PySem.F.plainAttrs_list PySem.F.slot_list_append PySem.F.type_list_append U9 (W9 A cc (.inr (.inr rfl)) hb) (B8 hv F6 hst) hbase hfew hline hst (by rfl)) hs) fun En σ H ⟨Hf,st,kk⟩=>⟨Hf,st,fun cl y f1 hl=>by
  cases hl
  obtain⟨vb,e0,_⟩:=f1.fo
  refine⟨.inl ⟨rfl,vb,SqL.of e0⟩,Hf,st,fun v H2 Hf2 g2 r2=>?_⟩
  have st2:=st.grow g2
  have f2:=f1.grow g2
  obtain⟨vs,e1,r3⟩:=f2.fo
  refine⟨cl.lf,vs,v,rfl,rfl,e1,by rw[r3.length];exact O9 (Nat.le_of_lt hz),?_⟩
  obtain⟨c',f3,k3⟩:=st2.focus A.w A.o
  have:c'=cl:=FoAt.same f3 f2
  subst this
  exact kk σ _ Hf2 (k3 (Chg.wr g2.sub (by simp) (f2.fr _ (by simp))) (f2.wrF (r3.append ⟨v,[],rfl,r2,rfl⟩)) fun z hz=>.inl hz) g2.ext⟩
end
def ay9(l:List D):Option (List D×D):=l.getLast?.map fun d=>(l.dropLast,d)
theorem ay8{l:List D}(h:ay9 l=some (bs,d)):l=bs++[d]:=by
 obtain⟨x,h1,h2⟩:=Option.map_eq_some_iff.mp h
 cases h2
 cases l with
 | nil=>cases h1
 | cons y r =>
  rw[List.getLast?_eq_some_getLast (by simp)]at h1
  cases h1
  exact(List.dropLast_concat_getLast (by simp)).symm
def V6:MF:=fun o ds=>match ds with
 | []=>(ay9 o.b).bind fun p=>match p.2 with
  | .tuple [w,.str k,x,y]=>(o8 { o with b:=p.1 } [.str k,x]).bind fun r=>if r.2.f.length < 1000 then some (w,{ r.2 with f:=r.2.f++[.tuple [w,.str k,x,y]] }) else none
  | _=>none
 | _=>none
def V5:MF:=fun o ds=>match ds with
 | []=>(ay9 o.f).bind fun p=>match p.2 with
  | .tuple [w,.str k,x,y]=>(o8 { o with f:=p.1 } [.str k,y]).bind fun r=>if r.2.b.length < 1000 then some (w,{ r.2 with b:=r.2.b++[.tuple [w,.str k,x,y]] }) else none
  | _=>none
 | _=>none
def N6:MF:=fun o ds=>match ds with
 | []=>some (.tuple [.int o.b.length,.int o.f.length],o)
 | _=>none
section
variable {X:Cx}{S:Sg}{ms:av1}{C:Addr}{c:Kx}{b:Bs}{a:Addr}{o o':Fo}{ds:List D}{r:D}{ρ:Rho}{q q':Os}
theorem cf3(n:Nat) (h:n≠0):eqD (.int n) (.int 0)=some (.bool false):=by
 show some (PyData.bool (decide ((n:Int)=0)))=_
 rw[decide_eq_false (by omega)]
theorem aU9{rs:List Stmt}(F:FitO S ms C c X) (hN:c.N=[("self" : Str), "step"]) (hd:c.df=true) (hl:Y8 c=true) (hm:ms.lookup ("set_sheet" : Str)=some (o8,2)) (hb:biB S c "len" "len" = true) (h1:(p12.endLine==p13.line)=true) (h3:(p22.endLine==p25.line)=true) (h4:(q3.endLine==q5.line)=true) (e:V6 o ds=some (r,o')) :
  OM X C b (O2 1 a ds) [(a,o)] [.If (.Compare (.Call (.Name "len" p1) [.Attribute (.Name "self" p2) "steps_back" p3] [] p4) [.Eq] [.Constant (.int 0) p5 p6] p7) rs [] p8,
   .Assign [.Name "step" p9] (.Call (.Attribute (.Attribute (.Name "self" p10) "steps_back" p11) "pop" p12) [] [] p13) p14,
   .Expr (.Call (.Attribute (.Name "self" p21) "set_sheet" p22) [.Subscript (.Name "step" r1) (.Constant (.int 1) r2 r3) r4,.Subscript (.Name "step" r5) (.Constant (.int 2) r6 r7) r8] [] p25) p26,
   .Expr (.Call (.Attribute (.Attribute (.Name "self" q1) "steps_forth" q2) "append" q3) [.Name "step" q4] [] q5) q6,
   .Return (some (.Subscript (.Name "step" s1) (.Constant (.int 0) s2 s3) s4)) s5] r [(a,o')]:=by
 unfold V6 at e
 split at e
 ·obtain⟨⟨bs,d⟩,e0,e⟩:=Option.bind_eq_some_iff.mp e
  have el:=ay8 e0
  dsimp only at e
  split at e
  ·rename_i w k x y
   obtain⟨⟨r0,o1⟩,e1,e⟩:=Option.bind_eq_some_iff.mp e
   split at e
   ·rename_i hf
    cases e
    have A:∀{ρ:Rho}{o:Fo},Z8 ρ=true->ρ[0]? = some (some (.opq a))->At1 X ρ [(a,o)] "self" 0 0 a o:=fun{ρ o} z1 z2=>F.slf hl (by rw[hN];rfl) z2 z1
    have v1:∀{pos},JE X (.Name "step" pos) (A2 1):=fun{pos}=>F.var hl 1 (by rw[hN];rfl)
    have ix:∀{n:Int}{p j p' p''},JE X (.Subscript (.Name "step" p) (.Constant (.int n) j p') p'') (dIx (qE (A2 1)) (dC (.int n))):=fun{n p j p' p''}=>bg7 (az1 v1) ad5
    obtain⟨_,g1,g2⟩:=K2 F.fit hb
    exact .inl (F7 (ao1 (c:=false) (ar9 (aL5 F.fit.units) (aL2 (A rfl rfl) F.foc g1 g2).oe (S4 ad5 rfl) (cf3 _ (by rw[el];simp))) (fun z=>by cases z) fun _=>ag9)
     (F7 (F.set hd hl 1 (by rw[hN];rfl) (bu8 (A rfl rfl) F.foc el h1)) (F7 (j8 (U2 (F.mts _ _ _ hm) F.foc (A rfl rfl) (by decide) (E2 ix (E2 ix R8)) rfl e1) rfl)
      (F7 (bt5 (A rfl rfl) F.foc (j9 v1 rfl) hf (hline:=h4)) (n8 (n9 (S4 ix rfl)))))))
   ·cases e
  ·cases e
 ·cases e
theorem aF9{rs:List Stmt}(F:FitO S ms C c X) (hN:c.N=[("self" : Str), "step"]) (hd:c.df=true) (hl:Y8 c=true) (hm:ms.lookup ("set_sheet" : Str)=some (o8,2)) (hb:biB S c "len" "len" = true) (h1:(p12.endLine==p13.line)=true) (h3:(p22.endLine==p25.line)=true) (h4:(q3.endLine==q5.line)=true) (e:V5 o ds=some (r,o')) :
  OM X C b (O2 1 a ds) [(a,o)] [.If (.Compare (.Call (.Name "len" p1) [.Attribute (.Name "self" p2) "steps_forth" p3] [] p4) [.Eq] [.Constant (.int 0) p5 p6] p7) rs [] p8,
   .Assign [.Name "step" p9] (.Call (.Attribute (.Attribute (.Name "self" p10) "steps_forth" p11) "pop" p12) [] [] p13) p14,
   .Expr (.Call (.Attribute (.Name "self" p21) "set_sheet" p22) [.Subscript (.Name "step" r1) (.Constant (.int 1) r2 r3) r4,.Subscript (.Name "step" r5) (.Constant (.int 3) r6 r7) r8] [] p25) p26,
   .Expr (.Call (.Attribute (.Attribute (.Name "self" q1) "steps_back" q2) "append" q3) [.Name "step" q4] [] q5) q6,
   .Return (some (.Subscript (.Name "step" s1) (.Constant (.int 0) s2 s3) s4)) s5] r [(a,o')]:=by
 unfold V5 at e
 split at e
 ·obtain⟨⟨bs,d⟩,e0,e⟩:=Option.bind_eq_some_iff.mp e
  have el:=ay8 e0
  dsimp only at e
  split at e
  ·rename_i w k x y
   obtain⟨⟨r0,o1⟩,e1,e⟩:=Option.bind_eq_some_iff.mp e
   split at e
   ·rename_i hf
    cases e
    have A:∀{ρ:Rho}{o:Fo},Z8 ρ=true->ρ[0]? = some (some (.opq a))->At1 X ρ [(a,o)] "self" 0 0 a o:=fun{ρ o} z1 z2=>F.slf hl (by rw[hN];rfl) z2 z1
    have v1:∀{pos},JE X (.Name "step" pos) (A2 1):=fun{pos}=>F.var hl 1 (by rw[hN];rfl)
    have ix:∀{n:Int}{p j p' p''},JE X (.Subscript (.Name "step" p) (.Constant (.int n) j p') p'') (dIx (qE (A2 1)) (dC (.int n))):=fun{n p j p' p''}=>bg7 (az1 v1) ad5
    obtain⟨_,g1,g2⟩:=K2 F.fit hb
    exact .inl (F7 (ao1 (c:=false) (ar9 (aL5 F.fit.units) (aL1 (A rfl rfl) F.foc g1 g2).oe (S4 ad5 rfl) (cf3 _ (by rw[el];simp))) (fun z=>by cases z) fun _=>ag9)
     (F7 (F.set hd hl 1 (by rw[hN];rfl) (bu7 (A rfl rfl) F.foc el h1)) (F7 (j8 (U2 (F.mts _ _ _ hm) F.foc (A rfl rfl) (by decide) (E2 ix (E2 ix R8)) rfl e1) rfl)
      (F7 (bb6 (A rfl rfl) F.foc (j9 v1 rfl) hf (hline:=h4)) (n8 (n9 (S4 ix rfl)))))))
   ·cases e
  ·cases e
 ·cases e
theorem aA6(F:FitO S ms C c X) (hN:c.N=[("self" : Str)]) (hl:Y8 c=true) (hb:biB S c "len" "len" = true) (e:N6 o ds=some (r,o')) :
  OM X C b (O2 0 a ds) [(a,o)] [.Return (some (.Tuple [.Call (.Name "len" p1) [.Attribute (.Name "self" p2) "steps_back" p3] [] p4,.Call (.Name "len" q1) [.Attribute (.Name "self" q2) "steps_forth" q3] [] q4] k p5)) p6] r [(a,o')]:=by
 unfold N6 at e
 split at e
 ·cases e
  have A:At1 X (O2 0 a []) [(a,o)] "self" 0 0 a o:=F.slf hl (by rw[hN];rfl) rfl rfl
  obtain⟨_,g1,g2⟩:=K2 F.fit hb
  exact .inl (n8 (n9 (bb7 (X1 (aL2 A F.foc g1 g2) (X1 (aL1 A F.foc g1 g2) aL0)) (by show 2<=1000;decide)).oe))
 ·cases e
end
end G
namespace G
open PySem PySem.Spec PyProof.Rows L2
def cn6:Stmt->List Stmt
 | .ClassDef _ _ _ b _ _ _ _ _ _ _=>b
 | _=>[]
def ifB(l:List Stmt) (i:Nat):List Stmt:=match l[i]? with
 | some (.If _ b _ _)=>b
 | _=>[]
structure KCl (K:PySem.W.Frag) (C:Addr) (cl:Str):Prop where
 ns:PySem.W.nsIn K mainGlobals cl=some (some (.ref C))
 make:PySem.W.makesIn K C=true
 kp:PySem.W.keepIn K (.ref C)=true
 foc:FoC K C
theorem bP9{K:PySem.W.Frag}{C:Addr}{cl:Str}(a:PySem.W.nsIn K mainGlobals cl=some (some (.ref C))) (b:PySem.W.makesIn K C=true) (c:PySem.W.keepIn K (.ref C)=true) (pg:PySem.W.plainGet K C Str.empty=true) (hd:PySem.W.hasDictIn K C=true) (po:PySem.W.plainOver K C=true)
  (sa:PySem.W.findIn K (.ref C) "__setattr__" = some (some (.builtin "object.__setattr__"))) (n1:PySem.W.findIn K (.ref C) "sheets" = some none) (n2:PySem.W.findIn K (.ref C) "steps_back" = some none) (n3:PySem.W.findIn K (.ref C) "steps_forth" = some none):KCl K C cl:=⟨a,b,c,⟨pg,hd,po,sa⟩,n1,n2,n3⟩
theorem cf5{K:PySem.W.Frag}{C:Addr}{m qual:Str}{st:Stmt}{f:Addr}{oc:Value}{od:Option Addr}{sl:Array (Option Value)}{kV dc pm:Value}{an:Option Addr}{cd ct:Value}(a:PySem.W.findIn K (.ref C) m=some (some (.ref f))) (i:PySem.W.isFn K (.ref f)=true)
  (l:K.lookup f=some ⟨oc,od,.func (PySem.W.fnOf m qual (Q8 st) (A7 st) (B3 st) .none kV dc pm an cd ct),sl⟩) (c:PySem.W.codeIn K cd qual=true) (k:PySem.W.keepIn K (.ref f)=true):KM K C m qual st:=⟨f,oc,od,sl,kV,dc,pm,an,cd,ct,a,i,l,c,k⟩
section
variable {P:Program}{w:World}{K:PySem.W.Frag}{mg:Str->Option Value}{base:Heap}{cs:List (Str×D)}{bl:List Str}{C:Addr}{tab:Tab}{O:Og}
def IOk(P:Program) (w:World) (K:PySem.W.Frag) (mg:Str->Option Value) (base:Heap) (C:Addr) (k:Nat) (cl:Str):Prop:=∃j f fd ps,j+1<=k/\FnOk P w K mg base CX0 j f fd ps (spI K C)/\Mk K C f/\N7 K fd ps []/\mg cl=some (.ref C)
def NMk(P:Program) (w:World) (K:PySem.W.Frag) (mg:Str->Option Value) (base:Heap) (C:Addr) (k:Nat):Prop:=∃f fd ps,FnOk P w K mg base CX0 k f fd ps (bq1 K C)/\Meth K C "names" f/\N7 K fd ps []
def FOk(P:Program) (w:World) (K:PySem.W.Frag) (mg:Str->Option Value) (base:Heap) (C:Addr) (k:Nat) (nf:List (Str×(List D->Option Fo)×Nat)):Prop:=∀x F n,nf.lookup x=some (F,n)->∃(f:Addr) (fd:FuncData) (ps:List Str),
 FnOk P w K mg base CX0 k f fd ps (bJ2 K C n F)/\mg x=some (.ref f)/\PySem.W.keepIn K (.ref f)=true/\N7 K fd ps []
def cp2(P:Program) (w:World) (K:PySem.W.Frag) (mg:Str->Option Value) (base:Heap) (C:Addr) (k:Nat) (df:List (Str×DF×Nat×Nat)):Prop:=∀x F n j,df.lookup x=some (F,n,j)->∃(f:Addr) (fd:FuncData) (ps:List Str),
 FnOk P w K mg base CX0 k f fd ps (spD K C n F)/\mg x=some (.ref f)/\PySem.W.keepIn K (.ref f)=true/\N7 K fd ps []
def TKk(P:Program) (w:World) (K:PySem.W.Frag) (mg:Str->Option Value) (base:Heap) (C:Addr) (k:Nat):Prop:=(∃f fd ps,FnOk P w K mg base CX0 k f fd ps (spT K C)/\Meth K C "twin" f/\N7 K fd ps [])/\∃f fd ps,FnOk P w K mg base CX0 k f fd ps (spM K C 1 K3)/\Meth K C "fetch" f/\N7 K fd ps []
structure UOk (P:Program) (w:World) (K:PySem.W.Frag) (mg:Str->Option Value) (base:Heap) (C:Addr) (k:Nat) (tab:Tab) (O:Og):Prop where
 t:TOk P w K mg base k tab
 m:MOk P w K mg base C k O.ms
 f:FOk P w K mg base C k O.nf
 i:IOk P w K mg base C k O.cl
 n:NMk P w K mg base C k
 d:cp2 P w K mg base C k O.df
 w:O.tw=true->TKk P w K mg base C k
theorem UOk.mono(U:UOk P w K mg base C j tab O) (h:j<=k):UOk P w K mg base C k tab O where
 t:=U.t.mono h
 m:=U.m.mono h
 f:=fun x F n e=>by obtain⟨f,fd,ps,h1,h2⟩:=U.f x F n e;exact⟨f,fd,ps,h1.mono h,h2⟩
 i:=by obtain⟨i,f,fd,ps,h1,h2⟩:=U.i;exact⟨i,f,fd,ps,Nat.le_trans h1 h,h2⟩
 n:=by obtain⟨f,fd,ps,h1,h2⟩:=U.n;exact⟨f,fd,ps,h1.mono h,h2⟩
 d:=fun x F n j e=>by obtain⟨f,fd,ps,h1,h2⟩:=U.d x F n j e;exact⟨f,fd,ps,h1.mono h,h2⟩
 w:=fun e=>by obtain⟨⟨f,fd,ps,h1,h2⟩,f',fd',ps',h3,h4⟩:=U.w e;exact⟨⟨f,fd,ps,h1.mono h,h2⟩,f',fd',ps',h3.mono h,h4⟩
theorem bU0{f:Addr}{cdv:Value}{A:Around}{outer:List Env}{s:Shared}{H:Hp}{E:XK}(M:Md K mg cs bl) (U:UOk P w K mg base C k tab O) (Fc:FoC K C) {d:Fd}(ok:d.okB=true) (hr:Room k (A.deeper (envOfC d.x (B3 d.st) s.heap.objs.size f cdv))) :
  FitU ⟨tab,cs,bl⟩ O C d.c (t9 CX0 P w K mg base d.N d.x (B3 d.st) f cdv A outer s H E).nox:=by
 have Sc:=Fd.sc ok
 refine⟨⟨⟨rfl,rfl,Sc.nd,rfl,rfl,hr.units,fun _=>⟨fun _=>rfl,Sc.kind⟩,fun x F n h=>?_,M.css,M.bls⟩,Fc,fun m F n h=>?_⟩,fun x F n h=>?_,?_,?_,fun x F n j h=>?_,fun e=>?_⟩
 ·exact(U.t x F n h).imp (fun⟨f',fd',ps,h1,h2,h3,h4⟩=>⟨k,f',fd',ps,h1,hr,h2,h3,h4⟩) id
 ·obtain⟨f',fd',ps,h1,h2,h3⟩:=U.m m F n h
  exact⟨k,f',fd',ps,h1,hr,h2,h3⟩
 ·obtain⟨f',fd',ps,h1,h2,h3,h4⟩:=U.f x F n h
  exact⟨k,f',fd',ps,h1,hr,h2,h3,h4⟩
 ·obtain⟨j,f',fd',ps,h1,h2,h3,h4,h5⟩:=U.i
  exact⟨j,f',fd',ps,h2,hr.mono h1,h3,h4,h5⟩
 ·obtain⟨f',fd',ps,h1,h2,h3⟩:=U.n
  exact⟨k,f',fd',ps,h1,hr,h2,h3⟩
 ·obtain⟨f',fd',ps,h1,h2,h3,h4⟩:=U.d x F n j h
  exact⟨k,f',fd',ps,h1,hr,h2,h3,h4⟩
 ·obtain⟨⟨f1,fd1,ps1,h1,h2,h3⟩,f',fd',ps,h4,h5,h6⟩:=U.w e
  exact⟨⟨k,f1,fd1,ps1,h1,hr,h2,h3⟩,k,f',fd',ps,h4,hr,h5,h6⟩
def rdO(tab:Tab) (cs:List (Str×D)) (bl:List Str) (O:Og) (d:Fd):List D->Option Fo:=cb7 (oB (oS ⟨tab,cs,bl⟩ O d.c 9) (A7 d.st)) d.N.length
def rdU(tab:Tab) (cs:List (Str×D)) (bl:List Str) (O:Og) (d:Fd):FnD:=bq7 (oB (oS ⟨tab,cs,bl⟩ O d.c 9) (A7 d.st)) d.N.length
theorem UOk.addO(U:UOk P w K mg base C k tab O) (M:Md K mg cs bl) (Fc:FoC K C) (d:Fd) (h:KF K d.x d.st) (F:List D->Option Fo) (e:rdO tab cs bl O d=F:=by kernel_rfl) (ok:d.okB=true:=by kernel_rfl) (bd:Bd d:=by repeat (first|exact rfl|intro _)):UOk P w K mg base C (k+1) tab { O with nf:=(d.x,F,d.ps.length)::O.nf }:=by
 subst e
 obtain⟨f,kV,dc,pm,an,cd,ct,Fn,hm⟩:=as8 h M
 have Sc:=Fd.sc ok
 have V:=U.mono (Nat.le_succ k)
 refine⟨V.t,V.m,fun y G n e=>?_,V.i,V.n,V.d,V.w⟩
 rw[List.lookup_cons]at e
 split at e
 ·rename_i q
  cases e
  simp only[beq_iff_eq]at q
  subst q
  exact⟨f,_,d.ps,bi8 (N:=d.N) Fn Sc fun cdv A outer s H E hr=>ax3 (aL7 (bU0 M U Fc ok hr) 9) _,hm,Fn.kp,.all (ua (bd kV dc pm an cd ct))⟩
 ·exact V.f y G n e
def rdD(tab:Tab) (cs:List (Str×D)) (bl:List Str) (O:Og) (d:Fd):DF:=l9 (oB (oS ⟨tab,cs,bl⟩ O d.c 9) (A7 d.st)) d.N.length
theorem UOk.addD(U:UOk P w K mg base C k tab O) (M:Md K mg cs bl) (Fc:FoC K C) (d:Fd) (h:KF K d.x d.st) (F:DF) (j:Nat) (e:rdD tab cs bl O d=F:=by kernel_rfl) (ok:d.okB=true:=by kernel_rfl) (bd:Bd d:=by repeat (first|exact rfl|intro _)):UOk P w K mg base C (k+1) tab { O with df:=(d.x,F,d.ps.length,j)::O.df }:=by
 subst e
 obtain⟨f,kV,dc,pm,an,cd,ct,Fn,hm⟩:=as8 h M
 have Sc:=Fd.sc ok
 have V:=U.mono (Nat.le_succ k)
 refine⟨V.t,V.m,V.f,V.i,V.n,fun y G n j e=>?_,V.w⟩
 rw[List.lookup_cons]at e
 split at e
 ·rename_i q
  cases e
  simp only[beq_iff_eq]at q
  subst q
  exact⟨f,_,d.ps,bi9 (N:=d.N) Fn Sc fun cdv A outer s H E hr=>ax3 (aL7 (bU0 M U Fc ok hr) 9) _,hm,Fn.kp,.all (ua (bd kV dc pm an cd ct))⟩
 ·exact V.d y G n j e
theorem be7(M:Md K mg cs bl) (Fc:FoC K C) (U:∀base:Heap,UOk P w K mg base C k tab O) (d:Fd) (h:KF K d.x d.st) (e:rdU tab cs bl O d=F) (hm:mg d.x=some (.ref fa)) (hp:d.ps=[x]:=by rfl) (ok:d.okB=true:=by kernel_rfl) (bd:Bd d:=by repeat (first|exact rfl|intro _)) :
  ∃fd:FuncData,(∀(s:Shared) (u:Value),BindsTo s fd ⟨[u],[]⟩ [(x,u)])/\∀base:Heap,FnOk P w K mg base CX0 (k+1) fa fd [x] (spF K 1 F):=by
 subst e
 obtain⟨f,kV,dc,pm,an,cd,ct,Fn,hm'⟩:=as8 h M
 cases hm.symm.trans hm'
 have Sc:=Fd.sc ok
 refine⟨PySem.W.fnOf d.x d.x (Q8 d.st) (A7 d.st) (B3 d.st) .none kV dc pm an cd ct,fun s u=>.of_eq ?_,fun base=>?_⟩
 ·have:=ua (bd kV dc pm an cd ct) [u] (by rw[hp];rfl)
  rw[hp]at this
  exact this
 ·have:=bi7 (N:=d.N) (ps:=d.ps) (g:=oB (oS ⟨tab,cs,bl⟩ O d.c 9) (A7 d.st)) Fn Sc fun cdv A outer s H E hr=>ax3 (aL7 (bU0 M (U base) Fc ok hr) 9) _
  rw[hp]at this
  exact this
theorem iok(M:Md K mg cs bl) (c:KCl K C cl) (d:Fd) (h:KM K C "__init__" qual d.st) (hx:d.x = "__init__") (hN:d.N=[("self" : Str)]) (hp:d.ps.length=1) (hl:Y8 d.c=true)
  (hb:A7 d.st=[.Assign [.Attribute (.Name "self" p1) "sheets" p2] (.Dict [] [] p3) p4,.Assign [.Attribute (.Name "self" p5) "steps_back" p6] (.List [] p7) p8,.Assign [.Attribute (.Name "self" p9) "steps_forth" p10] (.List [] p11) p12])
  (ok:d.okB=true) (bd:BdM d qual):IOk P w K mg base C 2 cl:=by
 obtain⟨f,oc,od,sl,kV,dc,pm,an,cd,ct,a,i,l,cc,kk⟩:=h
 rw[← hx]at l
 have Fn:=al3 l cc kk
 exact⟨1,f,_,d.ps,Nat.le_refl _,bx9 c.foc d hN hp ok hl Fn hb,⟨c.make,a,i,c.kp⟩,.all (ua (bd kV dc pm an cd ct)),M.ns _ _ c.ns⟩
theorem nmk(M:Md K mg cs bl) (T:TOk P w K mg base k tab) (c:KCl K C cl) (d:Fd) (h:KM K C "names" qual d.st) (hx:d.x = "names") (hN:d.N=[("self" : Str)]) (hp:d.ps.length=1) (hl:Y8 d.c=true) (hs:biB ⟨tab,cs,bl⟩ d.c "sorted" "sorted" = true)
  (hb:A7 d.st=[.Return (some (.Call (.Name "sorted" p1) [.Attribute (.Name "self" p2) "sheets" p3] [] p4)) p5])
  (ok:d.okB=true) (bd:BdM d qual):NMk P w K mg base C (k+1):=by
 obtain⟨f,oc,od,sl,kV,dc,pm,an,cd,ct,a,i,l,cc,kk⟩:=h
 rw[← hx]at l
 have Fn:=al3 l cc kk
 exact⟨f,_,d.ps,ce6 M T c.foc d hN hp ok hl hs Fn hb,⟨a,i,kk⟩,.all (ua (bd kV dc pm an cd ct))⟩
theorem MOk.names(Mk:MOk P w K mg base C k ms) (N:NMk P w K mg base C k):MOk P w K mg base C k (("names", R7,0)::ms):=by
 obtain⟨f,fd,ps,h1,h2,h3⟩:=N
 exact Mk.cons ⟨f,fd,ps,h1.imp ce5,h2,h3⟩
theorem UOk.start{ms:av1}{cl:Str}(t:TOk P w K mg base j tab) (m:MOk P w K mg base C j ms) (n:NMk P w K mg base C i0) (c:IOk P w K mg base C 2 cl) (h1:i0<=k0) (h2:j<=k0) (h3:2<=k0):UOk P w K mg base C k0 tab ⟨("names", R7,0)::ms,[],cl,[],false⟩:=by
 have n':NMk P w K mg base C k0:=by obtain⟨f,fd,ps,a,b⟩:=n;exact⟨f,fd,ps,a.mono h1,b⟩
 exact⟨t.mono h2,(m.mono h2).names n',(fun x F n e=>by cases e),(by obtain⟨i,f,fd,ps,a,b⟩:=c;exact⟨i,f,fd,ps,Nat.le_trans a h3,b⟩),n',(fun x F n j e=>by cases e),fun e=>nomatch e⟩
theorem UOk.twin{cl:Str}{ms:av1}(U:UOk P w K mg base C k tab ⟨ms,[],cl,[],false⟩) (M:Md K mg cs bl) (c:KCl K C cl) (d:Fd) (h:KM K C "twin" qual d.st) (hx:d.x = "twin") (hN:d.N=[("self" : Str), "other"]) (hp:d.ps.length=1) (hl:Y8 d.c=true)
  (hcl:ag2 d.c.sc cl=true) (hd:biB ⟨tab,cs,bl⟩ d.c "dict" "dict" = true) (hli:biB ⟨tab,cs,bl⟩ d.c "list" "list" = true) (hlo:as6 d.c "other" = true)
  (hb:A7 d.st=[.Assign [.Name "other" p1] (.Call (.Name cl p2) [] [] p3) p4,.Assign [.Attribute (.Name "other" p5) "sheets" p6] (.Call (.Name "dict" p7) [.Attribute (.Name "self" p8) "sheets" p9] [] p10) p11,
   .Assign [.Attribute (.Name "other" p12) "steps_back" p13] (.Call (.Name "list" p14) [.Attribute (.Name "self" p15) "steps_back" p16] [] p17) p18,.Assign [.Attribute (.Name "other" p19) "steps_forth" p20] (.Call (.Name "list" p21) [.Attribute (.Name "self" p22) "steps_forth" p23] [] p24) p25,.Return (some (.Name "other" p26)) p27])
  (hft:ms.lookup ("fetch" : Str)=some (K3,1)) (ok:d.okB=true) (bd:BdM d qual):UOk P w K mg base C (k+1) tab ⟨ms,[],cl,[],true⟩:=by
 obtain⟨f,oc,od,sl,kV,dc,pm,an,cd,ct,a,i,l,cc,kk⟩:=h
 rw[← hx]at l
 have Fn:=al3 l cc kk
 have V:=U.mono (Nat.le_succ k)
 exact⟨V.t,V.m,V.f,V.i,V.n,V.d,fun _=>⟨⟨f,_,d.ps,bo9 M U.t c.foc U.i d hN hp ok hl hcl hd hli hlo Fn hb,⟨a,i,kk⟩,.all (ua (bd kV dc pm an cd ct))⟩,V.m _ _ _ hft⟩⟩
end
end G
namespace Sh
open PySem G L2
inductive Nm
 | a|b|z
 deriving DecidableEq
def Nm.s:Nm->Str
 | .a => "a"
 | .b => "bo"
 | .z => "zzzzzz"
theorem Nm.inj:∀{j k:Nm},(j.s==k.s)=decide (j=k):=fun{j k}=>by cases j<;>cases k<;>kernel_rfl
abbrev Fn3:=Nm->Option D
def Fn3.up(s:Fn3) (k:Nm) (d:Option D):Fn3:=fun j=>if j=k then d else s j
def no3:Fn3:=fun _=>none
theorem bZ1(s:Fn3) (k:Nm) (d e:Option D):(s.up k d).up k e=s.up k e:=by funext j;unfold Fn3.up;split<;>rfl
theorem bo3(s:Fn3) (k:Nm):s.up k (s k)=s:=by
 funext j;unfold Fn3.up;split
 ·rename_i h;rw[h]
 ·rfl
theorem bB5(s:Fn3) (k:Nm) (d:Option D):s.up k d k=d:=by unfold Fn3.up;rw[if_pos rfl]
def enK(s:Fn3) (k:Nm):D×D:=(.str k.s,(s k).getD .none)
def Rp(m:List (D×D)) (s:Fn3):Prop:=∃ks:List Nm,ks.Nodup/\(∀k,k∈ks↔(s k).isSome=true)/\m=ks.map (enK s)
theorem ak8(s:Fn3) (j k:Nm):Q5 k.s (enK s j)=decide (j=k):=by
 show(match (PyData.str j.s:D) with | .str y=>y==k.s|_=>false)=_
 exact Nm.inj
theorem ce4{s:Fn3}{k:Nm}(h:¬(s k).isSome=true):s k=none:=by cases e:s k with
 | none=>rfl
 | some _=>rw[e]at h;exact(h rfl).elim
theorem an6{α:Type}{o:Option α}(h:o.isSome=true) (d:α):some (o.getD d)=o:=by cases o with
 | none=>cases h
 | some _=>rfl
theorem Rp.look(h:Rp m s) (k:Nm):P3 m k.s=s k:=by
 obtain⟨ks,n,i,rfl⟩:=h
 unfold P3
 rw[List.find?_map]
 have:∀l:List Nm,(∀j,j∈l->(s j).isSome=true)->(l.find? (Q5 k.s ∘ enK s))=if k∈l then some k else none:=fun l=>by
  induction l with
  | nil=>intro _;rfl
  | cons j l ih =>
   intro hl
   rw[List.find?_cons]
   show(match Q5 k.s (enK s j) with|true=>some j|false=>_)=_
   rw[ak8]
   by_cases e:j=k
   ·subst e;simp
   ·rw[decide_eq_false e,ih fun x hx=>hl x (List.mem_cons_of_mem _ hx)]
    simp[show ¬k=j from fun z=>e z.symm]
 rw[this ks fun j hj=>(i j).mp hj]
 split
 ·rename_i hk;exact an6 ((i k).mp hk) _
 ·rename_i hk;exact(ce4 fun z=>hk ((i k).mpr z)).symm
theorem Rp.len(h:Rp m s):m.length<=3:=by
 obtain⟨ks,n,_,rfl⟩:=h
 rw[List.length_map]
 match ks,n with
 | [],_=>decide
 | [_],_=>show 1<=3;decide
 | [_,_],_=>show 2<=3;decide
 | [_,_,_],_=>show 3<=3;decide
 | x::y::w::v::r,n =>
  exfalso
  simp only[List.nodup_cons,List.mem_cons,not_or]at n
  obtain⟨⟨n1,n2,n3,_⟩,⟨n4,n5,_⟩,⟨n6,_⟩,_⟩:=n
  cases x<;>cases y<;>first|exact n1 rfl|(cases w<;>first|exact n2 rfl|exact n4 rfl|(cases v<;>first|exact n3 rfl|exact n5 rfl|exact n6 rfl))
theorem Rp.nil:Rp [] no3:=⟨[],.nil,fun k=>by simp[no3],rfl⟩
theorem Rp.put(h:Rp m s) (k:Nm) (d:D):Rp (aQ7 m k.s d) (s.up k (some d)):=by
 obtain⟨ks,n,i,rfl⟩:=h
 have an:(ks.map (enK s)).any (Q5 k.s)=decide (k∈ks):=by
  rw[List.any_map]
  rw[Bool.eq_iff_iff,List.any_eq_true,decide_eq_true_eq]
  constructor
  ·rintro⟨j,hj,e⟩
   rw[Function.comp,ak8,decide_eq_true_eq]at e
   subst e;exact hj
  ·exact fun hk=>⟨k,hk,by rw[Function.comp,ak8,decide_eq_true_eq]⟩
 unfold aQ7
 rw[an]
 by_cases hk:k∈ks
 ·rw[if_pos (decide_eq_true hk)]
  refine⟨ks,n,fun j=>?_,?_⟩
  ·rw[i j];unfold Fn3.up;split
   ·rename_i e;subst e;simp[(i j).mp hk]
   ·rfl
  ·rw[List.map_map]
   refine List.map_congr_left fun j hj=>?_
   show(if Q5 k.s (enK s j) then _ else _)=_
   rw[ak8]
   unfold enK Fn3.up
   by_cases e:j=k
   ·simp[e]
   ·simp[e]
 ·rw[if_neg (by simpa using hk)]
  refine⟨ks++[k],?_,fun j=>?_,?_⟩
  ·rw[List.nodup_append];exact⟨n,by simp,fun x hx y hy=>by rw[List.mem_singleton.mp hy];exact fun e=>hk (e ▸ hx)⟩
  ·rw[List.mem_append,List.mem_singleton,i j];unfold Fn3.up;split
   ·rename_i e;simp[e]
   ·rename_i e;simp[e]
  ·rw[List.map_append]
   congr 1
   ·refine List.map_congr_left fun j hj=>?_
    unfold enK Fn3.up
    rw[if_neg (show ¬j=k from fun e=>hk (e ▸ hj))]
   ·show _=[enK (s.up k (some d)) k]
    unfold enK;rw[bB5];rfl
theorem Rp.drop(h:Rp m s) (k:Nm):Rp (ao8 m k.s) (s.up k none):=by
 obtain⟨ks,n,i,rfl⟩:=h
 refine⟨ks.filter fun j=>!decide (j=k),n.filter _,fun j=>?_,?_⟩
 ·rw[List.mem_filter,i j];unfold Fn3.up;split
  ·rename_i e;simp[e]
  ·rename_i e;simp[e]
 ·unfold ao8
  rw[List.filter_map]
  have:(fun kv=>!Q5 k.s kv) ∘ enK s=fun j=>!decide (j=k):=by funext j;rw[Function.comp,ak8]
  rw[this]
  refine List.map_congr_left fun j hj=>?_
  have:=(List.mem_filter.mp hj).2
  unfold enK Fn3.up
  rw[if_neg (by simpa using this)]
def bt6:List Nm:=[.a,.b,.z]
theorem cl0:∀ks:List Nm,ks.Nodup->aq8 (ks.map fun k=>(.str k.s:D))=some ((bt6.filter fun k=>decide (k∈ks)).map fun k=>.str k.s)
 | [],_=>rfl
 | [x],_=>by cases x<;>kernel_rfl
 | [x,y],n=>by
  simp only[List.nodup_cons,List.mem_cons,List.not_mem_nil,or_false]at n
  obtain⟨n1,_⟩:=n
  cases x<;>cases y<;>first|exact(n1 rfl).elim|kernel_rfl
 | [x,y,w],n=>by
  simp only[List.nodup_cons,List.mem_cons,List.not_mem_nil,or_false,not_or]at n
  obtain⟨⟨n1,n2⟩,n3,_⟩:=n
  cases x<;>cases y<;>first|exact(n1 rfl).elim|(cases w<;>first|exact(n2 rfl).elim|exact(n3 rfl).elim|kernel_rfl)
 | x::y::w::v::r,n=>by
  exfalso
  simp only[List.nodup_cons,List.mem_cons,not_or]at n
  obtain⟨⟨n1,n2,n3,_⟩,⟨n4,n5,_⟩,⟨n6,_⟩,_⟩:=n
  cases x<;>cases y<;>first|exact n1 rfl|(cases w<;>first|exact n2 rfl|exact n4 rfl|(cases v<;>first|exact n3 rfl|exact n5 rfl|exact n6 rfl))
def nms(s:Fn3):List Nm:=bt6.filter fun k=>(s k).isSome
theorem Rp.names(h:Rp m s):aq8 (m.map (·.1))=some ((nms s).map fun k=>.str k.s):=by
 obtain⟨ks,n,i,rfl⟩:=h
 rw[List.map_map]
 refine(cl0 ks n).trans ?_
 congr 2
 unfold nms
 refine List.filter_congr fun k _=>?_
 rw[Bool.eq_iff_iff,decide_eq_true_eq,i k]
theorem ah4{s:Fn3}{k:Nm}:k∈nms s↔(s k).isSome=true:=by
 unfold nms
 rw[List.mem_filter]
 exact⟨fun h=>h.2,fun h=>⟨by cases k<;>simp[bt6],h⟩⟩
def now(s:Fn3):D:=.list ((nms s).map fun k=>.tuple [.str k.s,(s k).getD .none])
theorem ax7{o:Fo}(h:Rp o.m s):R7 o []=some (.list ((nms s).map fun k=>.str k.s),o):=by unfold R7;dsimp only;rw[h.names];rfl
theorem bE0{o:Fo}(h:Rp o.m s):∀l:List Nm,(∀k∈l,(s k).isSome=true)->cpU elN o (l.map fun k=>.str k.s)=some (l.map fun k=>.tuple [.str k.s,(s k).getD .none])
 | [],_=>rfl
 | k::l,hl=>by
  have e:K3 o [.str k.s]=some ((s k).getD .none,o):=by
   unfold K3
   dsimp only
   rw[h.look k,← an6 (hl k (by simp)) .none];rfl
  have el:elN [‹.str k.s›,some (.opq 0)] [o]=some (.tuple [.str k.s,(s k).getD .none],[o]):=by
   show(ac5 (ulC (uP (A2 0)) (ulC (uM 1 K3 (A0 (A2 0) A8)) ulN))) _ _=_
   simp only[ac5,ulC,uP,uM,F8,era,P7,xmc,xmn,A2,A0,A8,xg0,xg1,xms,xbs,e,ulN]
   rfl
  show(elN [‹.str k.s›,some (.opq 0)] [o]).bind _=_
  rw[el,xbs,bE0 h l fun j hj=>hl j (List.mem_cons_of_mem _ hj)];rfl
theorem bO5{o:Fo}(h:Rp o.m s) {i j:Nat}{ρ:Rho}{q:Fs}(e:F8 i ρ q=some (j,o)) (n:(nms s).length<=1000):uCp i (uM0 i R7) elN ρ q=some (now s,q):=by
 have hq:q.set j o=q:=by
  unfold F8 at e
  split at e
  ·obtain⟨o1,e1,e2⟩:=Option.map_eq_some_iff.mp e
   cases e2
   exact aj1 e1
  ·cases e
 have m0:uM0 i R7 ρ q=some (.list ((nms s).map fun k=>.str k.s),q):=by
  unfold uM0
  rw[e,xbs,ax7 h,xms,hq]
 unfold uCp
 rw[m0]
 show(F8 i ρ q).bind _=_
 rw[e,xbs,if_pos (by rw[List.length_map];exact n),bE0 h _ fun k hk=>ah4.mp hk]
 rfl
theorem bv6(s:Fn3):(nms s).length<=3:=by
 unfold nms
 exact List.length_filter_le ..
end Sh
namespace Sh
open PySem G L2
structure Sp where
 w:Str
 k:Nm
 old:Option D
 new:Option D
def Sp.d(p:Sp):D:=.tuple [.str p.w,.str p.k.s,p.old.getD .none,p.new.getD .none]
def noN(x:Option D):Prop:=∀d,x=some d->isN d .none=some (.bool false)
structure Sp.ok (p:Sp):Prop where
 w:p.w = "lay" \/ p.w = "take" \/ p.w = "blend"
 o:noN p.old
 n:noN p.new
 s:p.old.isSome=true\/p.new.isSome=true
theorem aD7{o:Fo}(h:Rp o.m s) (k:Nm) (x:Option D) (hx:noN x) (hn:x=none->(s k).isSome=true):∃m',o8 o [.str k.s,x.getD .none]=some (.none,{ o with m:=m' })/\Rp m' (s.up k x):=by
 cases x with
 | none =>
  refine⟨_,?_,h.drop k⟩
  have e:isN .none .none=some (.bool true):=rfl
  simp only[o8,Option.getD_none,e,xbs,h.look k,hn rfl,if_true]
 | some d =>
  refine⟨_,?_,h.put k d⟩
  have l:=h.len
  simp only[o8,Option.getD_some,hx d rfl,xbs,if_pos (show o.m.length < 1000 by omega)]
def stp(s:Fn3) (p:Sp):Fn3:=s.up p.k p.new
def Ch:Fn3->List Sp->Prop
 | _,[]=>True
 | s,p::l=>s p.k=p.old/\Ch (stp s p) l
abbrev at_(L:List Sp) (i:Nat):Fn3:=(L.take i).foldl stp no3
theorem au4:∀{l:List Sp}{s:Fn3}{r:List Sp},Ch s (l++r)↔Ch s l/\Ch (l.foldl stp s) r
 | [],s,r=>⟨fun h=>⟨trivial,h⟩,fun h=>h.2⟩
 | p::l,s,r=>by
  show(_/\Ch (stp s p) (l++r))↔((_/\_)/\_)
  rw[au4,and_assoc];rfl
structure Fz (o:Fo) (L:List Sp) (i:Nat):Prop where
 le:i<=L.length
 ch:Ch no3 L
 ok:∀p∈L,p.ok
 few:L.length < 100
 m:Rp o.m (at_ L i)
 b:o.b=(L.take i).map Sp.d
 f:o.f=((L.drop i).reverse).map Sp.d
theorem aO4{L:List Sp}{i:Nat}(h:i < L.length):at_ L (i+1)=stp (at_ L i) L[i]:=by
 unfold at_
 rw[List.take_succ_eq_append_getElem h,List.foldl_append];rfl
theorem bE4{L:List Sp}{i:Nat}(c:Ch no3 L) (h:i < L.length):at_ L i L[i].k=L[i].old:=by
 have e:L=L.take i++L[i]::L.drop (i+1):=by rw[← List.drop_eq_getElem_cons h,List.take_append_drop]
 rw[e]at c
 exact(au4.mp c).2.1
theorem ay7(l:List D) (x:D):ay9 (l++[x])=some (l,x):=by
 unfold ay9
 simp
theorem au8{o:Fo}(F:Fz o L (i+1)) (h:i < L.length):∃o',V6 o []=some (.str L[i].w,o')/\Fz o' L i:=by
 have hp:=F.ok L[i] (List.getElem_mem h)
 have eb:o.b=(L.take i).map Sp.d++[L[i].d]:=by rw[F.b,List.take_succ_eq_append_getElem h,List.map_append];rfl
 have ea:=aO4 h
 have c:=bE4 F.ch h
 have R:Rp ({ o with b:=(L.take i).map Sp.d }:Fo).m (at_ L (i+1)):=F.m
 obtain⟨m',e1,R1⟩:=aD7 R L[i].k L[i].old hp.o fun z=>by
  rw[ea];unfold stp;rw[bB5]
  rcases hp.s with q|q
  ·rw[z]at q;cases q
  ·exact q
 have es:(at_ L (i+1)).up L[i].k L[i].old=at_ L i:=by rw[ea];unfold stp;rw[bZ1,← c,bo3]
 rw[es]at R1
 have lf:o.f.length < 100:=by rw[F.f,List.length_map,List.length_reverse,List.length_drop];have:=F.few;omega
 refine⟨⟨m',(L.take i).map Sp.d,o.f++[L[i].d]⟩,?_,by omega,F.ch,F.ok,F.few,R1,rfl,?_⟩
 ·unfold V6
  dsimp only
  rw[eb,ay7]
  show(o8 { o with b:=(L.take i).map Sp.d } [.str L[i].k.s,L[i].old.getD .none]).bind _=_
  rw[e1,xbs,if_pos (show o.f.length < 1000 by omega)];rfl
 ·show o.f++[L[i].d]=_
  rw[F.f,List.drop_eq_getElem_cons h,List.reverse_cons,List.map_append];rfl
theorem az8{o:Fo}(F:Fz o L i) (h:i < L.length):∃o',V5 o []=some (.str L[i].w,o')/\Fz o' L (i+1):=by
 have hp:=F.ok L[i] (List.getElem_mem h)
 have ef:o.f=((L.drop (i+1)).reverse).map Sp.d++[L[i].d]:=by rw[F.f,List.drop_eq_getElem_cons h,List.reverse_cons,List.map_append];rfl
 have ea:=aO4 h
 have c:=bE4 F.ch h
 have R:Rp ({ o with f:=((L.drop (i+1)).reverse).map Sp.d }:Fo).m (at_ L i):=F.m
 obtain⟨m',e1,R1⟩:=aD7 R L[i].k L[i].new hp.n fun z=>by
  rw[c]
  rcases hp.s with q|q
  ·exact q
  ·rw[z]at q;cases q
 have es:(at_ L i).up L[i].k L[i].new=at_ L (i+1):=by rw[ea];rfl
 rw[es]at R1
 have lb:o.b.length < 100:=by rw[F.b,List.length_map,List.length_take];have:=F.few;omega
 refine⟨⟨m',o.b++[L[i].d],((L.drop (i+1)).reverse).map Sp.d⟩,?_,by omega,F.ch,F.ok,F.few,R1,?_,rfl⟩
 ·unfold V5
  dsimp only
  rw[ef,ay7]
  show(o8 { o with f:=((L.drop (i+1)).reverse).map Sp.d } [.str L[i].k.s,L[i].new.getD .none]).bind _=_
  rw[e1,xbs,if_pos (show o.b.length < 1000 by omega)];rfl
 ·show o.b++[L[i].d]=_
  rw[F.b,List.take_succ_eq_append_getElem h,List.map_append];rfl
theorem V0{o:Fo}(F:Fz o L i):N6 o []=some (.tuple [.int i,.int ((L.length - i:Nat):Int)],o):=by
 unfold N6
 dsimp only
 rw[F.b,F.f]
 simp[Nat.min_eq_left F.le]
theorem w9{o:Fo}(F:Fz o L i) (w:Str) (k:Nm) (x:Option D) (hw:w = "lay" \/ w = "take" \/ w = "blend") (ho:noN (at_ L i k)) (hx:noN x) (hs:(at_ L i k).isSome=true\/x.isSome=true) (hf:i < 90) :
  ∃o',W2 o [.str w,.str k.s,x.getD .none]=some (.none,o')/\Fz o' (L.take i++[⟨w,k,at_ L i k,x⟩]) (i+1):=by
 have R:Rp ({ o with b:=o.b++[.tuple [.str w,.str k.s,(at_ L i k).getD .none,x.getD .none]],f:=[] }:Fo).m (at_ L i):=F.m
 obtain⟨m',e1,R1⟩:=aD7 R k x hx fun z=>hs.elim id fun q=>by rw[z]at q;cases q
 have lt:(L.take i).length=i:=by rw[List.length_take,Nat.min_eq_left F.le]
 have lb:o.b.length < 1000:=by rw[F.b,List.length_map,lt];omega
 have tk:(L.take i++[(⟨w,k,at_ L i k,x⟩:Sp)]).take (i+1)=L.take i++[⟨w,k,at_ L i k,x⟩]:=List.take_of_length_le (by rw[List.length_append,lt];exact Nat.le_refl _)
 refine⟨⟨m',o.b++[.tuple [.str w,.str k.s,(at_ L i k).getD .none,x.getD .none]],[]⟩,?_,by rw[List.length_append,lt];exact Nat.le_refl _,au4.mpr ⟨?_,rfl,trivial⟩,fun p hp=>?_,by rw[List.length_append,lt];show i+1 < 100;omega,?_,?_,?_⟩
 ·unfold W2
  dsimp only
  rw[if_pos lb,F.m.look k]
  exact e1
 ·have:=F.ch
  rw[← List.take_append_drop i L]at this
  exact(au4.mp this).1
 ·rcases List.mem_append.mp hp with q|q
  ·exact F.ok p (List.mem_of_mem_take q)
  ·rw[List.mem_singleton.mp q];exact⟨hw,ho,hx,hs⟩
 ·show Rp m' _
  unfold at_
  rw[tk,List.foldl_append];exact R1
 ·show o.b++_=_
  rw[tk,F.b,List.map_append];rfl
 ·show []=_
  rw[List.drop_of_length_le (by rw[List.length_append,lt];exact Nat.le_refl _)];rfl
theorem Fz.new:Fz fo0 [] 0:=⟨Nat.le_refl _,trivial,(fun _ h=>nomatch h),by decide,Rp.nil,rfl,rfl⟩
end Sh
namespace Sh
open PySem PySem.W G L2
end Sh
namespace Sh
open PySem PySem.Spec PyProof.Rows L2 G
end Sh
namespace Sh
open PySem PySem.Spec PyProof.Rows L2 G
end Sh
namespace Sh
open PySem PySem.Spec PyProof.Rows L2 G
end Sh
namespace Sh
open PySem PySem.Spec PyProof.Rows L2 G
end Sh
namespace Sh
open PySem PySem.Spec PyProof.Rows L2 G
end Sh
namespace Sh
open PySem PySem.Spec PyProof.Rows L2 G
end Sh
namespace Sh
open PySem PySem.Spec PyProof.Rows L2 G
end Sh
namespace Sh
open PySem PySem.Spec PyProof.Rows L2 G
end Sh
namespace Sh
open PySem PySem.Spec PyProof.Rows L2 G
end Sh
namespace G
open PySem PySem.Spec PyProof.Rows L2
abbrev co6:=List (Str×(Str->Option D))
abbrev co8:=List (Str×(List D->Option Str)×Nat)
structure Rg where
 rf:co8
 cl:List Str
 tb:List (Str×List (Str×Bool))
 sb:List (Str×List Str)
 nb:List (Str×List Str)
 xf:co6
section
variable (S:Sg) (T:Rg)
end
end G
namespace G
open PySem PySem.Spec PyProof.Rows L2
section
variable {S:Sg}{T:Rg}{c:Kx}{X:Cx}
end
section
variable {P:Program}{w:World}{K:PySem.W.Frag}{mg:Str->Option Value}{base:Heap}{cs:List (Str×D)}{bl:List Str}
end
end G
namespace G
open PySem PySem.Spec PyProof.Rows L2
section
variable {P:Program}{w:World}{K:PySem.W.Frag}{mg:Str->Option Value}{base:Heap}{cs:List (Str×D)}{bl:List Str}
end
end G
namespace Sh
open PySem PySem.Spec PyProof.Rows L2 G
end Sh
namespace Sh
open PySem PySem.Spec PyProof.Rows L2 G
end Sh
namespace Lk73
open PySem PySem.Spec PyProof.Rows L2 G Sh
def top(i:Nat):Stmt:=PySem.Challenge.pw_glazework_k73_whole_back_and_twins.main.body.getD i (.Pass ⟨0,0,0,0⟩)
def W3:DS:=(N9 (bz9 (A6 eqD (dIx (C3 0) ⇑0) (dIx (C3 1) ⇑0)) (A6 eqD (dIx (C3 0) ⇑1) (dIx (C3 1) ⇑1))))
def K8:List D->Option D:=U1 W3 2
def aB5:UX:=(N8 (R4 3 (uM0 2 R7)) (N8 (R4 4 (uP (B0 B4 (A0 (A2 0) (A0 (A2 1) (A0 ⇑5 A8)))))) (N8 (R4 5 (uP (ad9 (tB2 neD (A2 3) (ab6 A8)) (dIx (C3 3) (B0 B4 (A0 (A2 0) (A0 (A6 Q3 (A2 1) ⇑1) (A0 (ag5 (C3 3)) A8))))) (dC (.str ""))))) (N8 (R4 6 (uP (ad9 (tB2 neD (A2 3) (ab6 A8)) (dIx (C3 3) (B0 B4 (A0 (A2 0) (A0 (A6 Q3 (A2 1) ⇑2) (A0 (ag5 (C3 3)) A8))))) (dC (.str ""))))) (uIf (uTP (av9 (tB2 eqD (A2 4) ⇑0) (tB2 neD (A2 5) (dC (.str ""))))) (uEx (uM 2 ay5 (A0 (A2 5) A8))) (uIf (af9 (uTP (tB2 ltI (A2 4) ⇑3)) (af9 (uTP (tB2 neD (A2 5) (dC (.str "")))) (uTB (uB2 eqD (uSl (uM 2 K3 (A0 (A2 5) A8)) Z7 (Z6 ⇑2)) (uSl (uM 2 K3 (A0 (A2 6) A8)) Z7 (Z6 ⇑2)))))) (uEx (uM 2 (o9 K8 K5) (A0 (dIx (qN (A0 (dC (.str "over")) (A0 (dC (.str "multiply")) (A0 (dC (.str "screen")) (A0 (dC (.str "plus")) A8))))) (B0 B4 (A0 (A2 0) (A0 (A6 Q3 (A2 1) ⇑3) (A0 ⇑4 A8))))) (A0 (A2 5) (A0 (A2 6) A8))))) (uEx (uM 2 aE9 (A0 (dIx (qN (A0 (dC (.str "a")) (A0 (dC (.str "bo")) (A0 (dC (.str "zzzzzz")) A8)))) (B0 B4 (A0 (A2 0) (A0 (A6 Q3 (A2 1) ⇑4) (A0 ⇑3 A8))))) (A0 (B0 V1 (A0 (A2 0) (A0 (A6 Q3 (A2 1) ⇑5) (A0 ⇑2 (A0 ⇑1 A8))))) A8))))))))))
def O5:DF:=l9 aB5 7
def aO8:UX:=(T4 (uCp 0 (uM0 0 R7) elN))
def C6:DF:=l9 aO8 1
def k9:UX:=(N8 (ai6 (Q7 ⇑2) (O0 2) (uEx (uD 1 O5 (mC (A2 0) (mC (A6 Q3 ⇑500 (A6 U4 ⇑40 (A2 2))) (mO mN)))))) (T4 (ac5 (ulC (uD 1 C6 (mO mN)) (ulC (uM0 1 N6) ulN)))))
def T3:DF:=l9 k9 3
def ac3:UX:=(N8 (R4 2 (uP (A6 W1 (ag5 (C3 1)) ⇑1))) (N8 (aP1 3 ulN) (N8 (ai6 (az6 (A0 (A6 W1 (A2 2) ⇑1) (A0 (ag4 ⇑1) (A0 (ag4 ⇑1) A8)))) (O0 4) (N8 (aq5 3 (uM0 0 V6)) (uIf (uOr (uTB (uB2 neD (uD 0 C6 (mO mN)) (uP (dIx (C3 1) (A2 4))))) (uTB (uB2 neD (uM0 0 N6) (uP (Q9 (A0 (A2 4) (A0 (A6 W1 (A2 2) (A2 4)) A8))))))) (T4 (uP (dC (.bool false)))) W0))) (N8 (ai6 (az7 ⇑1 (A6 Q3 (A2 2) ⇑1)) (O0 4) (N8 (uIf (uOr (uTB (uB2 neD (uM0 0 V5) (uP (dIx (C3 3) (A6 W1 (A2 2) (A2 4)))))) (uTB (uB2 neD (uD 0 C6 (mO mN)) (uP (dIx (C3 1) (A2 4)))))) (T4 (uP (dC (.bool false)))) W0) (uIf (uTB (uB2 neD (uM0 0 N6) (uP (Q9 (A0 (A2 4) (A0 (A6 W1 (A2 2) (A2 4)) A8)))))) (T4 (uP (dC (.bool false)))) W0))) (aC6 3 (T4 (uP (A6 eqD (ab6 (P2 1 [] (am9 (A2 3)) (O0 0) (tB2 (inD true) (A2 0) (Q9 (A0 (dC (.str "lay")) (A0 (dC (.str "take")) (A0 (dC (.str "blend")) A8))))) (A2 0))) (ab6 A8)))))))))
def Y9:DF:=l9 ac3 5
def bJ1:UX:=(bH5 1 (fun _=>some fo0))
def aX6:UX:=(aP1 2 (ulC (uD 1 C6 (mO mN)) ulN))
def bJ0:UX:=(ai6 (Q7 (A6 Q3 ⇑2 (B0 B4 (A0 (A2 0) (A0 ⇑0 (A0 ⇑6 A8)))))) (O0 3) (N8 (uEx (uD 1 O5 (mC (A2 0) (mC (A6 Q3 ⇑10 (A6 U4 ⇑40 (A2 3))) (mO mN))))) (aq5 2 (uD 1 C6 (mO mN)))))
def aX5:UX:=(R4 4 (uP (A6 W1 (ag5 (C3 2)) ⇑1)))
def aX4:UX:=(aC6 2 (uIf (uOr (uTB (uB2 neD (uM0 1 N6) (uP (Q9 (A0 (A2 4) (A0 ⇑0 A8)))))) (bo8 (uTB (uD 1 Y9 (mO (mC (A2 2) mN)))))) (T4 (uP (dC (.bool false)))) W0))
def aX3:UX:=(R4 5 (uP (A6 Q3 ⇑1 (B0 B4 (A0 (A2 0) (A0 ⇑1 (A0 (A2 4) A8)))))))
def bI9:UX:=(ai6 (Q7 (A2 5)) (O0 6) (uEx (uM0 1 V6)))
def aX2:UX:=(R4 7 (ac5 (ulC (uD 1 C6 (mO mN)) (ulC (uM0 1 N6) ulN))))
def aX1:UX:=(uTw 8 1)
def aX0:UX:=(uTw 9 8)
def aI9:UX:=(uIf (uTP (tB2 neD (A2 7) (Q9 (A0 (dIx (C3 2) (A6 W1 (A2 4) (A2 5))) (A0 (Q9 (A0 (A6 W1 (A2 4) (A2 5)) (A0 (A2 5) A8))) A8))))) (T4 (uP (dC (.bool false)))) W0)
def aI8:UX:=(R4 10 (uD 1 T3 (mC (A2 0) (mO mN))))
def aI7:UX:=(uIf (uOr (uTP (tB2 neD (dIx (C3 10) ⇑1) (Q9 (A0 (A6 Q3 (A6 W1 (A2 4) (A2 5)) ⇑2) (A0 ⇑0 A8))))) (uTB (uB2 neD (ac5 (ulC (uD 8 C6 (mO mN)) (ulC (uM0 8 N6) ulN))) (uP (A2 7))))) (T4 (uP (dC (.bool false)))) W0)
def aI6:UX:=(uIf (uOr (uTB (uB2 neD (uD 8 T3 (mC (A2 0) (mO mN))) (uP (A2 10)))) (uTB (uB2 neD (ac5 (ulC (uD 9 C6 (mO mN)) (ulC (uM0 9 N6) ulN))) (uP (A2 7))))) (T4 (uP (dC (.bool false)))) W0)
def bq0:UX:=(ai6 (Q7 (A2 5)) (O0 6) (uEx (uM0 9 V5)))
def bp9:UX:=(ai6 (Q7 (A6 Q3 (A6 W1 (A2 4) (A2 5)) ⇑2)) (O0 6) (uIf (uOr (uTB (uB2 neD (uM0 8 V6) (uM0 1 V6))) (uTB (uB2 neD (uD 8 C6 (mO mN)) (uD 1 C6 (mO mN))))) (T4 (uP (dC (.bool false)))) W0))
def aI5:UX:=(T4 (av7 (uB2 eqD (uD 9 C6 (mO mN)) (uP (dIx (C3 2) (ag4 ⇑1)))) (av7 (uB2 eqD (uD 8 C6 (mO mN)) (uP (ab6 A8))) (uB2 eqD (uM0 9 N6) (uP (Q9 (A0 (A2 4) (A0 ⇑0 A8))))))))
def aO7:UX:=(N8 bJ1 (N8 aX6 (N8 bJ0 (N8 aX5 (N8 aX4 (N8 aX3 (N8 bI9 (N8 aX2 (N8 aX1 (N8 aX0 (N8 aI9 (N8 aI8 (N8 aI7 (N8 aI6 (N8 bq0 (N8 bp9 aI5))))))))))))))))
def aB7:List D->Option D:=bq7 aO7 11
end Lk73
namespace Lk73
open PySem G L2 Sh
def i9(j:Nat) (s:Fn3):Prop:=∀k d,s k=some d->∃l,d=shD 2 1 l/\Sh2 j l
theorem i9.noN(h:i9 j s) (k:Nm):noN (s k):=fun d e=>by
 obtain⟨l,rfl,_⟩:=h k d e
 rfl
theorem i9.up(h:i9 j s) (k:Nm) (S:Sh2 i l) (a:j<=n) (b:i<=n):i9 n (s.up k (some (shD 2 1 l))):=fun k' d e=>by
 unfold Fn3.up at e
 split at e
 ·cases e;exact⟨l,rfl,S.mono b⟩
 ·obtain⟨l',e1,S'⟩:=h k' d e
  exact⟨l',e1,S'.mono a⟩
theorem i9.off(h:i9 j s) (k:Nm) (a:j<=n):i9 n (s.up k none):=fun k' d e=>by
 unfold Fn3.up at e
 split at e
 ·cases e
 ·obtain⟨l',e1,S'⟩:=h k' d e
  exact⟨l',e1,S'.mono a⟩
abbrev sz(i:Nat):Nat:=16*2 ^ (i - 1)
def Gds(L:List Sh.Sp):Prop:=∀i,i<=L.length->i9 (sz i) (at_ L i)
theorem Gds.nil:Gds []:=fun i h=>by
 have:i=0:=by simpa using h
 subst this
 exact fun k d e=>by cases e
theorem aI1(i:Nat):sz i<=sz (i+1):=by
 show 16*2 ^ (i - 1)<=16*2 ^ i
 exact Nat.mul_le_mul_left _ (Nat.pow_le_pow_right (by decide) (by omega))
theorem bI7(h:0 < i):sz i+sz i=sz (i+1):=by
 show 16*2 ^ (i - 1)+16*2 ^ (i - 1)=16*2 ^ i
 obtain⟨n,rfl⟩:∃n,i=n+1:=⟨i - 1,by omega⟩
 rw[Nat.add_sub_cancel,Nat.pow_succ];omega
theorem ca9(i:Nat):16<=sz i:=Nat.le_mul_of_pos_right _ (Nat.pow_pos (by decide))
theorem cb0(h:i<=7):sz i<=1300:=Nat.le_trans (Nat.mul_le_mul_left _ (Nat.pow_le_pow_right (n:=2) (by decide) (show i - 1<=6 by omega))) (by decide)
theorem by4(G:Gds L) (le:i<=L.length) (p:Sh.Sp) (g:i9 (sz (i+1)) (stp (at_ L i) p)):Gds (L.take i++[p]):=fun n h=>by
 have lt:(L.take i).length=i:=by rw[List.length_take,Nat.min_eq_left le]
 rw[List.length_append,lt]at h
 rcases Nat.lt_or_ge i n with q|q
 ·have:n=i+1:=by simp at h;omega
  subst this
  unfold at_
  rw[List.take_of_length_le (by rw[List.length_append,lt];exact Nat.le_refl _),List.foldl_append]
  exact g
 ·unfold at_
  rw[List.take_append_of_le_length (by rw[lt];exact q),List.take_take,Nat.min_eq_left q]
  exact G n (by omega)
theorem bd5(s:Fn3):neD (.list ((nms s).map fun k=>.str k.s)) (.list [])=some (.bool !(nms s).isEmpty):=by
 unfold nms bt6
 simp only[List.filter_cons,List.filter_nil]
 cases(s .a).isSome<;>cases(s .b).isSome<;>cases(s .z).isSome<;>kernel_rfl
theorem ce9(k:Nm):neD (.str k.s) (.str "")=some (.bool true):=by cases k<;>kernel_rfl
theorem bd6:neD (.str "") (.str "")=some (.bool false):=by kernel_rfl
theorem bW6{l:List Nm}{n:Nat}(h:n < l.length):atI (l.map fun k=>(.str k.s:D)) (n:Int)=some (.str l[n].s):=by
 have:ixN (l.map fun k=>(.str k.s:D)).length (n:Int)=some n:=by
  unfold ixN
  rw[List.length_map]
  simp[h]
 unfold atI
 rw[this,xbs,List.getElem?_map,List.getElem?_eq_getElem h];rfl
theorem nm3:∀n:Nat,n < 3->∃k:Nm,atI ([.str "a", .str "bo", .str "zzzzzz"]:List D) (n:Int)=some (.str k.s)
 | 0,_=>⟨.a,rfl⟩
 | 1,_=>⟨.b,rfl⟩
 | 2,_=>⟨.z,rfl⟩
theorem cl9:∀n:Nat,n < 4->∃m:Man,atI ([.str "over", .str "multiply", .str "screen", .str "plus"]:List D) (n:Int)=some (.str m.s)
 | 0,_=>⟨.over,rfl⟩
 | 1,_=>⟨.mult,rfl⟩
 | 2,_=>⟨.screen,rfl⟩
 | 3,_=>⟨.plus,rfl⟩
end Lk73
namespace Lk73
open PySem G L2 Sh
theorem O1{f g:UX}(h:f ρ q=some (.nx ρ' q')):N8 f g ρ q=g ρ' q':=by unfold N8;rw[h];rfl
section
variable {ns:List Int}{k i:Nat}{o:Fo}{L:List Sh.Sp}
theorem drw(hn:ns.length<=63) (hk:k < 2 ^ 18) (j m:Nat) (hj:j < 10) (hm:0 < m):∃n:Nat,B4 [scr ns,.int ((k:Int)+(j:Nat)),.int m]=some (.int n)/\n < m:=by
 obtain⟨n,e,l⟩:=i6 ns (k+j) m hn (by omega) hm
 exact⟨n,by rw[← e];simp,l⟩
abbrev r4(ns:List Int) (k:Nat) (x:Option B) (y:Option B) (z w:Option B):Rho:=[‹scr ns›,‹.int k›,some (.opq 0),x,y,z,w]
def nmE(j:Int):DE:=ad9 (tB2 neD (A2 3) (ab6 A8)) (dIx (C3 3) (B0 B4 (A0 (A2 0) (A0 (A6 Q3 (A2 1) (dC (.int j))) (A0 (ag5 (C3 3)) A8))))) (dC (.str ""))
theorem bd4(j:Nat) (s:Fn3) (h:nms s=[]) (y z:Option B):nmE j [‹scr ns›,‹.int k›,none,‹.list ((nms s).map fun k=>.str k.s)›,y,z,none]=some (.str ""):=by
 have e:=bd5 s
 rw[h]at e ⊢
 have e:neD (.list []) (.list [])=some (.bool false):=e
 unfold nmE ad9
 wp_walk using evD,xmn,e
theorem ax6(hn:ns.length<=63) (hk:k < 2 ^ 18) (j:Nat) (hj:j < 10) (s:Fn3) (h:(nms s).isEmpty=false) (y z:Option B):∃a∈nms s,nmE j [‹scr ns›,‹.int k›,none,‹.list ((nms s).map fun k=>.str k.s)›,y,z,none]=some (.str a.s):=by
 have e:=bd5 s
 rw[h]at e
 have hl:0 < (nms s).length:=by cases q:nms s with
  | nil=>rw[q]at h;cases h
  | cons=>simp
 obtain⟨n,e1,l1⟩:=drw (k:=k) hn hk j (nms s).length hj hl
 refine⟨(nms s)[n],List.getElem_mem l1,?_⟩
 have e2:=bW6 l1
 have e3:((nms s).map fun k=>(.str k.s:D)).length=(nms s).length:=List.length_map ..
 unfold nmE ad9
 wp_walk using evD,e,xnf,e3,e1,e2
theorem bT9(hn:ns.length<=63) (hk:k < 2 ^ 18) (F:Fz o L i) (g:UX):∃(w:Nat) (nm:D) (x y:Str),w < 5/\((x = "" /\ nms (at_ L i)=[])\/∃a∈nms (at_ L i),∃b∈nms (at_ L i),x=a.s/\y=b.s) /\
  N8 (R4 3 (uM0 2 R7)) (N8 (R4 4 (uP (B0 B4 (A0 (A2 0) (A0 (A2 1) (A0 ⇑5 A8)))))) (N8 (R4 5 (uP (nmE 1))) (N8 (R4 6 (uP (nmE 2))) g))) (r4 ns k none none none none) [o]=g (r4 ns k (‹nm›) (‹.int w›) (‹.str x›) (‹.str y›)) [o]:=by
 obtain⟨w,e0,lw⟩:=i6 ns k 5 hn (by omega) (by decide)
 have e0:B4 [scr ns,.int k,.int 5]=some (.int w):=e0
 have N:=ax7 F.m
 have go:∀x y:Str,nmE 1 [‹scr ns›,‹.int k›,none,‹.list ((nms (at_ L i)).map fun k=>.str k.s)›,‹.int w›,none,none]=some (.str x)->nmE 2 [‹scr ns›,‹.int k›,none,‹.list ((nms (at_ L i)).map fun k=>.str k.s)›,‹.int w›,‹.str x›,none]=some (.str y) ->
   N8 (R4 3 (uM0 2 R7)) (N8 (R4 4 (uP (B0 B4 (A0 (A2 0) (A0 (A2 1) (A0 ⇑5 A8)))))) (N8 (R4 5 (uP (nmE 1))) (N8 (R4 6 (uP (nmE 2))) g))) (r4 ns k none none none none) [o]=g (r4 ns k (‹.list ((nms (at_ L i)).map fun k=>.str k.s)›) (‹.int w›) (‹.str x›) (‹.str y›)) [o]:=fun x y e1 e2=>by
  refine(O1 (ρ':=r4 ns k (‹.list ((nms (at_ L i)).map fun k=>.str k.s)›) none none none) (q':=[o]) (by simp only[R4,uM0,F8,xg0,xg1,xms,xbs,N,xw0,xw1])).trans ?_
  refine(O1 (ρ':=r4 ns k (‹.list ((nms (at_ L i)).map fun k=>.str k.s)›) (‹.int w›) none none) (q':=[o]) (by wp_walk using evD,R4,uP,era,P7,e0)).trans ?_
  refine(O1 (ρ':=r4 ns k (‹.list ((nms (at_ L i)).map fun k=>.str k.s)›) (‹.int w›) (‹.str x›) none) (q':=[o]) (by simp only[R4,uP,era,P7,xmc,xmn,e1,xms,xw0,xw1])).trans ?_
  exact O1 (by simp only[R4,uP,era,P7,xmc,xmn,e2,xms,xw0,xw1])
 cases h:(nms (at_ L i)).isEmpty with
 | true =>
  have h':nms (at_ L i)=[]:=List.isEmpty_iff.mp h
  exact⟨w,_, "", "", lw,.inl ⟨rfl,h'⟩,go "" "" (bd4 1 _ h' _ _) (bd4 2 _ h' _ _)⟩
 | false =>
  obtain⟨a,ha,e1⟩:=ax6 (k:=k) hn hk 1 (by decide) _ h (‹.int w›) none
  obtain⟨b,hb,e2⟩:=ax6 (k:=k) hn hk 2 (by decide) _ h (‹.int w›) (‹.str a.s›)
  exact⟨w,_,a.s,b.s,lw,.inr ⟨a,ha,b,hb,rfl,rfl⟩,go a.s b.s e1 e2⟩
def bN7:UX:=uEx (uM 2 aE9 (A0 (dIx (qN (A0 (dC (.str "a")) (A0 (dC (.str "bo")) (A0 (dC (.str "zzzzzz")) A8)))) (B0 B4 (A0 (A2 0) (A0 (A6 Q3 (A2 1) ⇑4) (A0 ⇑3 A8))))) (A0 (B0 V1 (A0 (A2 0) (A0 (A6 Q3 (A2 1) ⇑5) (A0 ⇑2 (A0 ⇑1 A8))))) A8)))
def oBl:UX:=uEx (uM 2 (o9 K8 K5) (A0 (dIx (qN (A0 (dC (.str "over")) (A0 (dC (.str "multiply")) (A0 (dC (.str "screen")) (A0 (dC (.str "plus")) A8))))) (B0 B4 (A0 (A2 0) (A0 (A6 Q3 (A2 1) ⇑3) (A0 ⇑4 A8))))) (A0 (A2 5) (A0 (A2 6) A8))))
def Res(o:Fo) (L:List Sh.Sp) (i:Nat) (o':Fo):Prop:=∃L',Fz o' L' (i+1)/\Gds L'/\L'.length=i+1/\L'.take i=L.take i
theorem aD9(F:Fz o L i) (G:Gds L) (p:Sh.Sp) (F':Fz o' (L.take i++[p]) (i+1)) (g:i9 (sz (i+1)) (stp (at_ L i) p)):Res o L i o':=by
 have lt:(L.take i).length=i:=by rw[List.length_take,Nat.min_eq_left F.le]
 exact⟨_,F',by4 G F.le p g,by rw[List.length_append,lt];rfl,by rw[List.take_append_of_le_length (by rw[lt];exact Nat.le_refl _),List.take_take,Nat.min_self]⟩
theorem be5(hn:ns.length<=63) (hk:k < 2 ^ 18) (F:Fz o L i) (G:Gds L) (hi:i<=7) (x y z w:Option B):∃o',bN7 (r4 ns k x y z w) [o]=some (.nx (r4 ns k x y z w) [o'])/\Res o L i o':=by
 obtain⟨n,e1,l1⟩:=drw (k:=k) hn hk 4 3 (by decide) (by decide)
 obtain⟨a,e2⟩:=nm3 n l1
 obtain⟨l,e3,S⟩:=bJ5 ns (k+5) hn (by omega)
 have e3:V1 [scr ns,.int ((k:Int)+5),.int 2,.int 1]=some (shD 2 1 l):=by rw[← e3];simp
 have e1:B4 [scr ns,.int ((k:Int)+4),.int 3]=some (.int n):=e1
 have Gs:=G i F.le
 obtain⟨o',e4,F'⟩:=w9 F "lay" a (some (shD 2 1 l)) (.inl rfl) (Gs.noN a) (fun d e=>by cases e;rfl) (.inr rfl) (by omega)
 refine⟨o',?_,aD9 F G _ F' (Gs.up a S (aI1 i) (Nat.le_trans (ca9 i) (aI1 i)))⟩
 have e4:W2 o [.str "lay", .str a.s,shD 2 1 l]=some (.none,o'):=e4
 have e5:aE9 o [.str a.s,shD 2 1 l]=some (.bool (P3 o.m a.s).isSome,o'):=by simp only[aE9,e4,xms]
 wp_walk using evD,bN7,uEx,uM,F8,era,P7,e1,e2,e3,e5
theorem bM8(F:Fz o L i) (G:Gds L) (hi:i<=7) (a:Nm) (ha:(at_ L i a).isSome=true) (x y w:Option B):∃o',uEx (uM 2 ay5 (A0 (A2 5) A8)) (r4 ns k x y (‹.str a.s›) w) [o]=some (.nx (r4 ns k x y (‹.str a.s›) w) [o'])/\Res o L i o':=by
 have Gs:=G i F.le
 obtain⟨o',e4,F'⟩:=w9 F "take" a none (.inr (.inl rfl)) (Gs.noN a) (fun d e=>by cases e) (.inl ha) (by omega)
 refine⟨o',?_,aD9 F G _ F' (Gs.off a (aI1 i))⟩
 obtain⟨d,hd⟩:=Option.isSome_iff_exists.mp ha
 have e4:W2 o [.str "take", .str a.s,.none]=some (.none,o'):=e4
 have e5:ay5 o [.str a.s]=some (d,o'):=by simp only[ay5,F.m.look a,hd,xbs,e4,xms]
 wp_walk using evD,uEx,uM,F8,era,P7,e5
theorem ci2(hn:ns.length<=63) (hk:k < 2 ^ 18) (F:Fz o L i) (G:Gds L) (h0:0 < i) (hi:i<=7) (a b:Nm) (ha:at_ L i a=some (shD 2 1 la)) (Sa:Sh2 (sz i) la) (hb:at_ L i b=some (shD 2 1 lb)) (Sb:Sh2 (sz i) lb) (x y:Option B):∃o',oBl (r4 ns k x y (‹.str a.s›) (‹.str b.s›)) [o]=some (.nx (r4 ns k x y (‹.str a.s›) (‹.str b.s›)) [o'])/\Res o L i o':=by
 obtain⟨n,e1,l1⟩:=drw (k:=k) hn hk 3 4 (by decide) (by decide)
 have e1:B4 [scr ns,.int ((k:Int)+3),.int 4]=some (.int n):=e1
 obtain⟨M,e2⟩:=cl9 n l1
 have Gs:=G i F.le
 obtain⟨eb,S⟩:=bV7 M Sa Sb (cb0 hi)
 rw[bI7 h0]at S
 obtain⟨o',e4,F'⟩:=w9 F "blend" b (some (shD 2 1 (blL M la lb))) (.inr (.inr rfl)) (Gs.noN b) (fun d e=>by cases e;rfl) (.inr rfl) (by omega)
 refine⟨o',?_,aD9 F G _ F' (Gs.up b S (aI1 i) (Nat.le_refl _))⟩
 have e4:W2 o [.str "blend", .str b.s,shD 2 1 (blL M la lb)]=some (.none,o'):=e4
 have z:K8 [shD 2 1 la,shD 2 1 lb]=some (.bool true):=by
  have i1:eqD (.int 2) (.int 2)=some (.bool true):=by kernel_rfl
  have i2:eqD (.int 1) (.int 1)=some (.bool true):=by kernel_rfl
  refine M3 (ρ:=[‹shD 2 1 la›,‹shD 2 1 lb›]) rfl ?_
  wp_walk using evD,W3,shD
  first|rfl|simp
 have e5:o9 K8 K5 o [.str M.s,.str a.s,.str b.s]=some (shD 2 1 (blL M la lb),o'):=by
  simp only[o9,F.m.look a,F.m.look b,ha,hb,xbs,z,eb,e4,xms]
 wp_walk using evD,oBl,uEx,uM,F8,era,P7,e1,e2,e5
end
end Lk73
namespace Lk73
open PySem G L2 Sh
section
variable {ns:List Int}{k i:Nat}{o:Fo}{L:List Sh.Sp}
def oTl:UX:=uIf (uTP (av9 (tB2 eqD (A2 4) ⇑0) (tB2 neD (A2 5) (dC (.str ""))))) (uEx (uM 2 ay5 (A0 (A2 5) A8))) (uIf (af9 (uTP (tB2 ltI (A2 4) ⇑3)) (af9 (uTP (tB2 neD (A2 5) (dC (.str "")))) (uTB (uB2 eqD (uSl (uM 2 K3 (A0 (A2 5) A8)) Z7 (Z6 ⇑2)) (uSl (uM 2 K3 (A0 (A2 6) A8)) Z7 (Z6 ⇑2)))))) oBl bN7)
theorem cn4(x y z:D):l8 [x,y,z] none (some 2)=[x,y]:=rfl
theorem cn2:eqD (.tuple [.int 2,.int 1]) (.tuple [.int 2,.int 1])=some (.bool true):=by kernel_rfl
theorem bZ9(hn:ns.length<=63) (hk:k < 2 ^ 18) (F:Fz o L i) (G:Gds L) (hi:i<=7) {w:Nat}{nm:D}{x y:Str}(h:(x = "" /\ nms (at_ L i)=[])\/∃a∈nms (at_ L i),∃b∈nms (at_ L i),x=a.s/\y=b.s) :
  ∃o',oTl (r4 ns k (‹nm›) (‹.int w›) (‹.str x›) (‹.str y›)) [o]=some (.nx (r4 ns k (‹nm›) (‹.int w›) (‹.str x›) (‹.str y›)) [o'])/\Res o L i o':=by
 have Gs:=G i F.le
 have cw:((w:Int)==0)=decide (w=0):=by cases w with
  | zero=>rfl
  | succ n=>rw[decide_eq_false (by omega)];exact beq_eq_false_iff_ne.mpr (by omega)
 rcases h with⟨rfl,h⟩|⟨a,ha,b,hb,rfl,rfl⟩
 ·obtain⟨o',e,R⟩:=be5 hn hk F G hi (‹nm›) (‹.int w›) (‹.str ""›) (‹.str y›)
  refine⟨o',?_,R⟩
  by_cases w0:w=0
  ·subst w0
   wp_walk using evD,oTl,uIf,uTP,af9,era,P7,bd6,cw,decide_eq_true,e,show((0:Nat):Int)=0 from rfl,beq_self_eq_true,show decide ((0:Int) < 3)=true from rfl
   exact e
  ·by_cases w3:(w:Int) < 3
   ·wp_walk using evD,oTl,uIf,uTP,af9,era,P7,bd6,cw,decide_eq_false w0,decide_eq_true w3,e
   ·wp_walk using evD,oTl,uIf,uTP,af9,era,P7,bd6,cw,decide_eq_false w0,decide_eq_false w3,e
 ·have sa:=ah4.mp ha
  have sb:=ah4.mp hb
  have na:=ce9 a
  by_cases w0:w=0
  ·obtain⟨o',e,R⟩:=bM8 (ns:=ns) (k:=k) F G hi a sa (‹nm›) (‹.int w›) (‹.str b.s›)
   refine⟨o',?_,R⟩
   wp_walk using evD,oTl,uIf,uTP,af9,era,P7,na,cw,decide_eq_true w0,e
  ·by_cases w3:(w:Int) < 3
   ·obtain⟨da,ea⟩:=Option.isSome_iff_exists.mp sa
    obtain⟨db,eb⟩:=Option.isSome_iff_exists.mp sb
    obtain⟨la,rfl,Sa⟩:=Gs a da ea
    obtain⟨lb,rfl,Sb⟩:=Gs b db eb
    have h0:0 < i:=by
     rcases Nat.eq_zero_or_pos i with z|z
     ·subst z;cases ea
     ·exact z
    obtain⟨o',e,R⟩:=ci2 hn hk F G h0 hi a b ea Sa eb Sb (‹nm›) (‹.int w›)
    refine⟨o',?_,R⟩
    have f1:K3 o [.str a.s]=some (shD 2 1 la,o):=by simp only[K3,F.m.look a,ea,xms]
    have f2:K3 o [.str b.s]=some (shD 2 1 lb,o):=by simp only[K3,F.m.look b,eb,xms]
    have t1:∀l:List Q4,bZ7 (shD 2 1 l)=some [.int 2,.int 1,.tuple (l.map Q4.d)]:=fun _=>rfl
    wp_walk using evD,oTl,uIf,uTP,af9,uTB,uB2,uSl,uM,F8,am0,era,P7,na,cw,decide_eq_false w0,decide_eq_true w3,f1,f2,t1,cn4,cn2,e
   ·obtain⟨o',e,R⟩:=be5 hn hk F G hi (‹nm›) (‹.int w›) (‹.str a.s›) (‹.str b.s›)
    refine⟨o',?_,R⟩
    wp_walk using evD,oTl,uIf,uTP,af9,era,P7,na,cw,decide_eq_false w0,decide_eq_false w3,e
theorem aI3(hn:ns.length<=63) (hk:k < 2 ^ 18) (F:Fz o L i) (G:Gds L) (hi:i<=7):∃o',O5 o [some (scr ns),some (.int k),none]=some (.none,o')/\Res o L i o':=by
 obtain⟨w,nm,x,y,_,h,e⟩:=bT9 (k:=k) hn hk F oTl
 obtain⟨o',e1,R⟩:=bZ9 (nm:=nm) (w:=w) hn hk F G hi h
 refine⟨o',?_,R⟩
 unfold O5 l9
 have:aB5 (Q6 7 [some (scr ns),some (.int k),none]) [o]=some (.nx _ [o']):=e.trans e1
 rw[this];rfl
theorem aa3(F:Fz o L i):C6 o [none]=some (now (at_ L i),o):=by
 have:aO8 (Q6 1 [none]) [o]=some (.rt (now (at_ L i)) [o]):=by
  show T4 (uCp 0 (uM0 0 R7) elN) [some (.opq 0)] [o]=_
  unfold T4
  rw[bO5 F.m (i:=0) (j:=0) rfl (Nat.le_trans (bv6 _) (by decide))];rfl
 unfold C6 l9
 rw[this];rfl
end
end Lk73
namespace Lk73
open PySem G L2 Sh
theorem cf1(k:Nm) (n:Nat):Ly n (.str k.s):=by
 cases k<;>exact⟨by kernel_rfl,Nat.zero_le _⟩
theorem aF0(h:i9 j s):Ly 6 (now s):=Ly.lst fun x hx=>by
 obtain⟨k,hk,rfl⟩:=List.mem_map.mp hx
 obtain⟨d,hd⟩:=Option.isSome_iff_exists.mp (ah4.mp hk)
 obtain⟨l,rfl,_⟩:=h k d hd
 rw[hd]
 refine Ly.tup fun x hx=>?_
 simp only[List.mem_cons,List.not_mem_nil,or_false]at hx
 rcases hx with rfl|rfl
 ·exact cf1 k 4
 ·exact Ly.sheet ..
theorem aE6(h:i9 j s):neD (now s) (now s)=some (.bool false):=ah2 (aF0 h) (by decide)
theorem bU4(h:i9 j s):eqD (now s) (now s)=some (.bool true):=aN2 (aF0 h) (by decide)
def rws(L:List Sh.Sp) (i:Nat):List D:=(List.range (i+1)).map fun t=>now (at_ L t)
theorem y9:(rws L i).length=i+1:=by unfold rws;simp
theorem bK0(h:L'.take i=L.take i):rws L' i=rws L i:=by
 unfold rws
 refine List.map_congr_left fun t ht=>?_
 have:t<=i:=by have:=List.mem_range.mp ht;omega
 unfold at_
 rw[← Nat.min_eq_left this,← List.take_take,← List.take_take,h]
theorem aY4:rws L (i+1)=rws L i++[now (at_ L (i+1))]:=by
 unfold rws
 rw[List.range_succ,List.map_append];rfl
theorem aD8(h:t<=i):atI (rws L i) (t:Int)=some (now (at_ L t)):=by
 have hl:(rws L i).length=i+1:=y9
 unfold atI
 rw[hl,bh2 (by omega) (by omega),xbs,Int.toNat_natCast]
 unfold rws
 rw[List.getElem?_map,List.getElem?_range (by omega)];rfl
def rg(i m:Nat):List D:=(List.range m).map fun(j:Nat)=>.int ((i+j:Nat):Int)
theorem aJ7:rg i (m+1)=.int (i:Int)::rg (i+1) m:=by
 unfold rg
 rw[List.range_succ_eq_map,xmc,List.map_map]
 congr 1
 refine List.map_congr_left fun j _=>?_
 show PyData.int ((i+(j+1):Nat):Int)=.int ((i+1+j:Nat):Int)
 congr 2;omega
section
variable {ns:List Int}{i:Nat}{o:Fo}{L:List Sh.Sp}
abbrev q2(ns:List Int) (r:List D) (x:Option B):Rho:=[‹scr ns›,some (.opq 0),some (.own r),x,none,none,none,none,none,none,none]
def bd2:UX:=N8 (uEx (uD 1 O5 (mC (A2 0) (mC (A6 Q3 ⇑10 (A6 U4 ⇑40 (A2 3))) (mO mN))))) (aq5 2 (uD 1 C6 (mO mN)))
theorem it2(hn:ns.length<=63) (F:Fz o L i) (G:Gds L) (hl:L.length=i) (hi:i<=6):∃o' L',bd2 (q2 ns (rws L i) (‹.int i›)) [o]=some (.nx (q2 ns (rws L' (i+1)) (‹.int i›)) [o'])/\Fz o' L' (i+1)/\Gds L'/\L'.length=i+1:=by
 obtain⟨o',e,L',F',G',hl',ht⟩:=aI3 (k:=10+40*i) hn (by omega) F G (by omega)
 have e:O5 o [some (scr ns),some (.int ((10:Int)+((40*i:Nat):Int))),none]=some (.none,o'):=by rw[← e];simp
 have m40:U4 (.int 40) (.int i)=some (.int ((40*i:Nat):Int)):=g9 (i:=40) (by decide) (by omega)
 have n1:=aa3 F'
 have hz:(rws L i).length < 16777216:=by rw[y9];omega
 refine⟨o',L',?_,F',G',hl'⟩
 rw[aY4,bK0 ht]
 unfold bd2
 refine(O1 (ρ':=q2 ns (rws L i) (‹.int i›)) (q':=[o']) (by wp_walk using evD,uEx,uD,F8,mC,mO,mN,era,P7,m40,e)).trans ?_
 simp only[aq5,uD,F8,mO,mN,era,P7,xg0,xg1,xms,xbs,hz,if_true,n1,xw0,xw1]
theorem bD4(hn:ns.length<=63):∀(m i:Nat) (o:Fo) (L:List Sh.Sp) (x:Option B),i+m<=7->Fz o L i->Gds L->L.length=i->∃o' L' x',Z4 (O0 3) bd2 (rg i m) (q2 ns (rws L i) x) [o]=some (.nx (q2 ns (rws L' (i+m)) x') [o'])/\Fz o' L' (i+m)/\Gds L'/\L'.length=i+m
 | 0,i,o,L,x,_,F,G,hl=>⟨o,L,x,rfl,F,G,hl⟩
 | m+1,i,o,L,x,h,F,G,hl=>by
  obtain⟨o1,L1,e1,F1,G1,hl1⟩:=it2 hn F G hl (by omega)
  obtain⟨o2,L2,x2,e2,F2,G2,hl2⟩:=bD4 hn m (i+1) o1 L1 (‹.int i›) (by omega) F1 G1 hl1
  have ea:i+1+m=i+(m+1):=by omega
  rw[ea]at e2 F2 hl2
  refine⟨o2,L2,x2,?_,F2,G2,hl2⟩
  rw[aJ7]
  show(O0 3 (.int i) (q2 ns (rws L i) x)).bind _=_
  show(bd2 (q2 ns (rws L i) (‹.int i›)) [o]).bind _=_
  rw[e1]
  exact e2
end
end Lk73
namespace Lk73
open PySem G L2 Sh
def wOf(L:List Sh.Sp) (j:Nat):Str:=match L[j]? with
 | some p=>p.w
 | none => "lay"
def dn(m:Nat):List D:=(List.range m).map fun(j:Nat)=>.int ((m:Int) - 1 - (j:Int))
theorem bz2:dn (m+1)=.int (m:Int)::dn m:=by
 unfold dn
 rw[List.range_succ_eq_map,xmc,List.map_map]
 congr 1
 ·congr 1;simp
 ·refine List.map_congr_left fun j _=>?_
  show PyData.int (((m+1:Nat):Int) - 1 - ((j+1:Nat):Int))=.int ((m:Int) - 1 - (j:Int))
  congr 1;omega
def bw(L:List Sh.Sp) (m:Nat):List D:=(List.range m).map fun j=>.str (wOf L (m - 1 - j))
theorem bA3:bw L (m+1)=.str (wOf L m)::bw L m:=by
 unfold bw
 rw[List.range_succ_eq_map,xmc,List.map_map]
 congr 1
 refine List.map_congr_left fun j _=>?_
 show PyData.str (wOf L (m+1 - 1 - (j+1)))=.str (wOf L (m - 1 - j))
 congr 2;omega
theorem ci0(h:i < n):atI (bw L n) ((n - 1 - i:Nat):Int)=some (.str (wOf L i)):=by
 have hl:(bw L n).length=n:=by unfold bw;simp
 unfold atI
 rw[hl,bh2 (by omega) (by omega),xbs,Int.toNat_natCast]
 unfold bw
 rw[List.getElem?_map,List.getElem?_range (by omega)]
 show some (PyData.str (wOf L (n - 1 - (n - 1 - i))))=_
 rw[show n - 1 - (n - 1 - i)=i by omega]
theorem bF8{L:List Sh.Sp}(h:∀p∈L,p.ok) (i:Nat):wOf L i = "lay" \/ wOf L i = "take" \/ wOf L i = "blend" := by
 unfold wOf
 split
 ·rename_i p e;exact(h p (List.mem_of_getElem? e)).w
 ·exact .inl rfl
theorem cm4{w:Str}(h:w = "lay" \/ w = "take" \/ w = "blend"):inD true (.str w) (.tuple [.str "lay", .str "take", .str "blend"])=some (.bool false):=by
 rcases h with rfl|rfl|rfl<;>kernel_rfl
theorem ce8{w:Str}(h:w = "lay" \/ w = "take" \/ w = "blend"):neD (.str w) (.str w)=some (.bool false):=by
 rcases h with rfl|rfl|rfl<;>kernel_rfl
theorem aC3{L:List Sh.Sp}(h:i < L.length):wOf L i=L[i].w:=by unfold wOf;rw[List.getElem?_eq_getElem h]
theorem bd7(a b:Int):neD (.tuple [.int a,.int b]) (.tuple [.int a,.int b])=some (.bool false):=ah2 (n:=1) (Ly.tup fun x hx=>by
 simp only[List.mem_cons,List.not_mem_nil,or_false]at hx
 rcases hx with rfl|rfl<;>exact Ly.int _ _) (by decide)
section
variable {i n:Nat}{o:Fo}{L:List Sh.Sp}{R:List D}
abbrev g5(R:List D) (n:Nat) (w:Option B) (x:Option B):Rho:=[some (.opq 0),‹.list R›,‹.int n›,w,x]
def bB:UX:=N8 (aq5 3 (uM0 0 V6)) (uIf (uOr (uTB (uB2 neD (uD 0 C6 (mO mN)) (uP (dIx (C3 1) (A2 4))))) (uTB (uB2 neD (uM0 0 N6) (uP (Q9 (A0 (A2 4) (A0 (A6 W1 (A2 2) (A2 4)) A8))))))) (T4 (uP (dC (.bool false)))) W0)
def bF:UX:=N8 (uIf (uOr (uTB (uB2 neD (uM0 0 V5) (uP (dIx (C3 3) (A6 W1 (A2 2) (A2 4)))))) (uTB (uB2 neD (uD 0 C6 (mO mN)) (uP (dIx (C3 1) (A2 4)))))) (T4 (uP (dC (.bool false)))) W0) (uIf (uTB (uB2 neD (uM0 0 N6) (uP (Q9 (A0 (A2 4) (A0 (A6 W1 (A2 2) (A2 4)) A8)))))) (T4 (uP (dC (.bool false)))) W0)
theorem itB(G:Gds L) (hl:L.length=n) (F:Fz o L (i+1)) (hi:i < n) (hn:n<=90) (ws:List D) (hw:ws.length<=1000):∃o',bB (g5 (rws L n) n (some (.own ws)) (‹.int i›)) [o]=some (.nx (g5 (rws L n) n (some (.own (ws++[.str (wOf L i)]))) (‹.int i›)) [o'])/\Fz o' L i:=by
 obtain⟨o',e1,F'⟩:=au8 F (by omega)
 rw[← aC3]at e1
 have n1:=aa3 F'
 have c1:=V0 F'
 have a1:atI (rws L n) (i:Int)=some (now (at_ L i)):=aD8 (by omega)
 have t1:=aE6 (G i (by omega))
 have s1:(n:Int) - (i:Int)=((L.length - i:Nat):Int):=by omega
 have hz:ws.length < 16777216:=by omega
 refine⟨o',?_,F'⟩
 unfold bB
 refine(O1 (ρ':=g5 (rws L n) n (some (.own (ws++[.str (wOf L i)]))) (‹.int i›)) (q':=[o']) (by simp only[aq5,uM0,F8,xg0,xg1,xms,xbs,hz,if_true,e1,xw0,xw1])).trans ?_
 wp_walk using evD,uIf,uOr,uTB,uB2,uD,uM0,uP,W0,F8,mO,mN,am0,era,P7,n1,c1,a1,t1,s1,bd7
theorem itF(G:Gds L) (hl:L.length=n) (F:Fz o L i) (hi:i < n) (hn:n<=90):∃o',bF (g5 (rws L n) n (some (.own (bw L n))) (‹.int ((i+1:Nat):Int)›)) [o]=some (.nx (g5 (rws L n) n (some (.own (bw L n))) (‹.int ((i+1:Nat):Int)›)) [o'])/\Fz o' L (i+1):=by
 obtain⟨o',e1,F'⟩:=az8 F (by omega)
 rw[← aC3]at e1
 have n1:=aa3 F'
 have c1:=V0 F'
 have a1:atI (rws L n) ((i+1:Nat):Int)=some (now (at_ L (i+1))):=aD8 (by omega)
 have t1:=aE6 (G (i+1) (by omega))
 have s0:(n:Int) - ((i+1:Nat):Int)=((n - 1 - i:Nat):Int):=by omega
 have a2:=ci0 (L:=L) hi
 have t2:=ce8 (bF8 F.ok i)
 have s1:((n - 1 - i:Nat):Int)=((L.length - (i+1):Nat):Int):=by omega
 refine⟨o',?_,F'⟩
 unfold bF
 refine(O1 (ρ':=g5 (rws L n) n (some (.own (bw L n))) (‹.int ((i+1:Nat):Int)›)) (q':=[o']) (by wp_walk using evD,uIf,uOr,uTB,uB2,uD,uM0,uP,W0,F8,mO,mN,am0,era,P7,n1,e1,a1,a2,t1,t2,s0)).trans ?_
 wp_walk using evD,uIf,uOr,uTB,uB2,uD,uM0,uP,W0,F8,mO,mN,am0,era,P7,c1,s0,s1,bd7
theorem bD3(G:Gds L) (hl:L.length=n) (hn:n<=90):∀(m:Nat) (o:Fo) (ws:List D) (x:Option B),m<=n->ws.length+m<=1000->Fz o L m->∃o' x',Z4 (O0 4) bB (dn m) (g5 (rws L n) n (some (.own ws)) x) [o]=some (.nx (g5 (rws L n) n (some (.own (ws++bw L m))) x') [o'])/\Fz o' L 0
 | 0,o,ws,x,_,_,F=>⟨o,x,by show some _=_;rw[show bw L 0=[] from rfl,List.append_nil],F⟩
 | m+1,o,ws,x,h,h2,F=>by
  obtain⟨o1,e1,F1⟩:=itB G hl F (by omega) hn ws (by omega)
  obtain⟨o2,x2,e2,F2⟩:=bD3 G hl hn m o1 (ws++[.str (wOf L m)]) (‹.int m›) (by omega) (by simp;omega) F1
  refine⟨o2,x2,?_,F2⟩
  rw[bz2,bA3]
  show(bB (g5 (rws L n) n (some (.own ws)) (‹.int m›)) [o]).bind _=_
  rw[e1]
  refine Eq.trans e2 ?_
  rw[List.append_assoc];rfl
theorem bD2(G:Gds L) (hl:L.length=n) (hn:n<=90):∀(m i:Nat) (o:Fo) (x:Option B),i+m=n->Fz o L i->∃o' x',Z4 (O0 4) bF (rg (i+1) m) (g5 (rws L n) n (some (.own (bw L n))) x) [o]=some (.nx (g5 (rws L n) n (some (.own (bw L n))) x') [o'])/\Fz o' L n
 | 0,i,o,x,h,F=>⟨o,x,rfl,by rw[← h];exact F⟩
 | m+1,i,o,x,h,F=>by
  obtain⟨o1,e1,F1⟩:=itF G hl F (by omega) hn
  obtain⟨o2,x2,e2,F2⟩:=bD2 G hl hn m (i+1) o1 (‹.int ((i+1:Nat):Int)›) (by omega) F1
  refine⟨o2,x2,?_,F2⟩
  rw[aJ7]
  show(bF (g5 (rws L n) n (some (.own (bw L n))) (‹.int ((i+1:Nat):Int)›)) [o]).bind _=_
  rw[e1]
  exact e2
end
end Lk73
namespace Lk73
open PySem G L2 Sh
theorem V2{src:Rho->Option (List D)}{g:D->Rho->Option Rho}{f:UX}{ds:List D}(h:src (era ρ)=some ds):ai6 src g f ρ q=Z4 g f ds ρ q:=by unfold ai6;rw[h];rfl
theorem bz1(n:Nat):af4 ((n:Int) - 1) (-1)=dn n:=by
 unfold af4 dn
 rw[show((n:Int) - 1 - -1).toNat=n by omega]
theorem br4(n:Nat):T6 1 ((n:Int)+1)=rg 1 n:=by
 unfold T6 rg
 rw[show((n:Int)+1 - 1).toNat=n by omega]
 refine List.map_congr_left fun j _=>?_
 congr 1
section
variable {ns:List Int}{i n:Nat}{o:Fo}{L:List Sh.Sp}
theorem ci4{x:Int}(h1:-100<=x) (h2:x<=100):-(2 ^ 61)<=x/\x < 2 ^ 61:=⟨Int.le_trans (by decide) h1,Int.lt_of_le_of_lt h2 (by decide)⟩
theorem ci3{x:Int}(h1:-100<=x) (h2:x<=100):-(2 ^ 62)<=x/\x < 2 ^ 62:=⟨Int.le_trans (by decide) h1,Int.lt_of_le_of_lt h2 (by decide)⟩
theorem cg7{R ws:List D}{x:Option B}(hn:n<=90):az6 (A0 (A6 W1 (A2 2) ⇑1) (A0 (ag4 ⇑1) (A0 (ag4 ⇑1) A8))) (era (g5 R n (some (.own ws)) x))=some (dn n):=by
 rw[← bz1]
 have c1:=ci4 (x:=(n:Int) - 1) (by omega) (by omega)
 have c2:=ci4 (x:=-1) (by decide) (by decide)
 have n1:-(1:Int) = -1:=rfl
 have a:(A0 (A6 W1 (A2 2) ⇑1) (A0 (ag4 ⇑1) (A0 (ag4 ⇑1) A8))) (era (g5 R n (some (.own ws)) x))=some [.int ((n:Int) - 1),.int (-1),.int (-1)]:=rfl
 unfold az6
 rw[a,xbs]
 dsimp only
 rw[if_pos ⟨n1,c1,c2⟩]
theorem cg8{R ws:List D}{x:Option B}(hn:n<=90):az7 ⇑1 (A6 Q3 (A2 2) ⇑1) (era (g5 R n (some (.own ws)) x))=some (rg 1 n):=by
 rw[← br4]
 have c1:=ci3 (x:=1) (by decide) (by decide)
 have c2:=ci3 (x:=(n:Int)+1) (by omega) (by omega)
 have a:(A6 Q3 (A2 2) ⇑1) (era (g5 R n (some (.own ws)) x))=some (.int ((n:Int)+1)):=rfl
 have b:⇑1 (era (g5 R n (some (.own ws)) x))=some (.int 1):=rfl
 unfold az7
 rw[b,xbs,a,xbs]
 dsimp only
 rw[if_pos ⟨c1,c2⟩]
theorem ch9(h:∀p∈L,p.ok) (hn:n<=90) (a b c d:Option B):P2 1 [] (am9 (A2 3)) (O0 0) (tB2 (inD true) (A2 0) (Q9 (A0 (dC (.str "lay")) (A0 (dC (.str "take")) (A0 (dC (.str "blend")) A8))))) (A2 0) [a,b,c,‹.list (bw L n)›,d]=some []:=by
 have hs:am9 (A2 3) [a,b,c,‹.list (bw L n)›,d]=some ((List.range n).map fun j=>.str (wOf L (n - 1 - j))):=by
  simp only[am9,A2,xg0,xg1,xbs];rfl
 have:=bv7 (l:=List.range n) (h:=fun j=>.str (wOf L (n - 1 - j))) (f:=fun j=>.str (wOf L (n - 1 - j))) (p:=fun _=>false) (caps:=[]) (src:=am9 (A2 3)) (c:=tB2 (inD true) (A2 0) (Q9 (A0 (dC (.str "lay")) (A0 (dC (.str "take")) (A0 (dC (.str "blend")) A8))))) (e:=A2 0) (ρ:=[a,b,c,‹.list (bw L n)›,d]) (r:=[]) rfl hs (by rw[List.length_range];omega) (fun j _=>by wp_walk using evD,cm4 (bF8 h _)) (fun j _=>rfl)
 rw[this,List.filter_eq_nil_iff.mpr (fun _ _=>Bool.false_ne_true)];rfl
theorem by2(G:Gds L) (hl:L.length=n) (hn:n<=90) (F:Fz o L n):∃o',Y9 o [none,some (.list (rws L n))]=some (.bool true,o')/\Fz o' L n:=by
 obtain⟨o1,x1,e1,F1⟩:=bD3 G hl hn n o [] none (Nat.le_refl _) (by simp;omega) F
 rw[xna]at e1
 obtain⟨o2,x2,e2,F2⟩:=bD2 G hl hn n 0 o1 x1 (by omega) F1
 refine⟨o2,?_,F2⟩
 have s1:((n+1:Nat):Int) - 1=(n:Int):=by omega
 have rl:(rws L n).length=n+1:=y9
 have go:ac3 (Q6 5 [none,some (.list (rws L n))]) [o]=some (.rt (.bool true) [o2]):=by
  show ac3 [some (.opq 0),‹.list (rws L n)›,none,none,none] [o]=_
  unfold ac3
  refine(O1 (ρ':=g5 (rws L n) n none none) (q':=[o]) (by wp_walk using evD,R4,uP,era,P7,rl,s1)).trans ?_
  refine(O1 (ρ':=g5 (rws L n) n (some (.own [])) none) (q':=[o]) (by simp only[aP1,ulN,xms,xw0,xw1])).trans ?_
  refine(O1 (ρ':=g5 (rws L n) n (some (.own (bw L n))) x1) (q':=[o1]) ((V2 (cg7 hn)).trans e1)).trans ?_
  refine(O1 (ρ':=g5 (rws L n) n (some (.own (bw L n))) x2) (q':=[o2]) ((V2 (cg8 hn)).trans e2)).trans ?_
  have e0:eqD (.list []) (.list [])=some (.bool true):=rfl
  simp only[aC6,frz,T4,uP,era,P7,xmc,xmn,xg0,xg1,xw0,xw1,A6,ab6,ch9 F.ok hn,A8,xms,xbs,e0]
 unfold Y9 l9
 rw[go];rfl
abbrev q3(ns:List Int) (x:Option B):Rho:=[‹scr ns›,some (.opq 0),x]
def bG:UX:=uEx (uD 1 O5 (mC (A2 0) (mC (A6 Q3 ⇑500 (A6 U4 ⇑40 (A2 2))) (mO mN))))
theorem itG(hn:ns.length<=63) (t:Nat) (ht:t < 2) (F:Fz o L i) (G:Gds L) (hi:i<=7):∃o' L',bG (q3 ns (‹.int t›)) [o]=some (.nx (q3 ns (‹.int t›)) [o'])/\Fz o' L' (i+1)/\Gds L'/\L'.length=i+1:=by
 obtain⟨o',e,L',F',G',hl',_⟩:=aI3 (k:=500+40*t) hn (by omega) F G (by omega)
 have e:O5 o [some (scr ns),some (.int ((500:Int)+((40*t:Nat):Int))),none]=some (.none,o'):=by rw[← e];simp
 have m40:U4 (.int 40) (.int t)=some (.int ((40*t:Nat):Int)):=g9 (i:=40) (by decide) (by omega)
 refine⟨o',L',?_,F',G',hl'⟩
 wp_walk using evD,bG,uEx,uD,F8,mC,mO,mN,era,P7,m40,e
theorem bi0(hn:ns.length<=63) (F:Fz o L i) (G:Gds L) (hi:i<=6):∃o' L',T3 o [some (scr ns),none]=some (.tuple [now (at_ L' (i+2)),.tuple [.int ((i+2:Nat):Int),.int 0]],o')/\Fz o' L' (i+2)/\Gds L'/\L'.length=i+2:=by
 obtain⟨o1,L1,e1,F1,G1,_⟩:=itG hn 0 (by decide) F G (by omega)
 obtain⟨o2,L2,e2,F2,G2,hl2⟩:=itG hn 1 (by decide) F1 G1 (by omega)
 refine⟨o2,L2,?_,F2,G2,hl2⟩
 have n1:=aa3 F2
 have c1:=V0 F2
 rw[hl2,Nat.sub_self]at c1
 have go:k9 (Q6 3 [some (scr ns),none]) [o]=some (.rt (.tuple [now (at_ L2 (i+2)),.tuple [.int ((i+2:Nat):Int),.int 0]]) [o2]):=by
  show k9 [‹scr ns›,some (.opq 0),none] [o]=_
  unfold k9
  refine(O1 (ρ':=q3 ns (‹.int 1›)) (q':=[o2]) ?_).trans ?_
  ·refine(V2 (ds:=[.int 0,.int 1]) rfl).trans ?_
   show(bG (q3 ns (‹.int 0›)) [o]).bind _=_
   have e1:bG (q3 ns (‹.int 0›)) [o]=some (.nx (q3 ns (‹.int 0›)) [o1]):=e1
   rw[e1]
   show(bG (q3 ns (‹.int 1›)) [o1]).bind _=_
   have e2:bG (q3 ns (‹.int 1›)) [o1]=some (.nx (q3 ns (‹.int 1›)) [o2]):=e2
   rw[e2];rfl
  ·simp only[T4,ac5,ulC,ulN,uD,uM0,F8,mO,mN,era,P7,xmc,xmn,xg0,xg1,xms,xbs,n1,c1,xw0]
   rfl
 unfold T3 l9
 rw[go];rfl
end
end Lk73
namespace Lk73
open PySem G L2 Sh
section
variable {ns:List Int}{n i:Nat}{o p:Fo}{L:List Sh.Sp}
abbrev eL(ns:List Int) (r2 r3 r4 r5 r6 r7 r8 r9 r10:Option B):Rho:=[‹scr ns›,some (.opq 0),r2,r3,r4,r5,r6,r7,r8,r9,r10]
theorem aO2{r2 r3 r4 r5 r7 r8 r9 r10:Option B}:∀(ds:List D) (i:Nat) (o:Fo) (x:Option B),i+ds.length<=L.length->Fz o L (i+ds.length)->∃o' x',Z4 (O0 6) (uEx (uM0 1 V6)) ds (eL ns r2 r3 r4 r5 x r7 r8 r9 r10) [o]=some (.nx (eL ns r2 r3 r4 r5 x' r7 r8 r9 r10) [o'])/\Fz o' L i
 | [],i,o,x,_,F=>⟨o,x,rfl,F⟩
 | d::ds,i,o,x,h,F=>by
  rw[List.length_cons]at h F
  obtain⟨o1,e1,F1⟩:=au8 (i:=i+ds.length) F (by omega)
  obtain⟨o2,x2,e2,F2⟩:=aO2 ds i o1 (‹d›) (by omega) F1
  refine⟨o2,x2,?_,F2⟩
  show(uEx (uM0 1 V6) (eL ns r2 r3 r4 r5 (‹d›) r7 r8 r9 r10) [o]).bind _=_
  have:uEx (uM0 1 V6) (eL ns r2 r3 r4 r5 (‹d›) r7 r8 r9 r10) [o]=some (.nx (eL ns r2 r3 r4 r5 (‹d›) r7 r8 r9 r10) [o1]):=by
   simp only[uEx,uM0,F8,xg0,xg1,xms,xbs,e1,xw0]
  rw[this]
  exact e2
theorem aN0{p1 p2:Fo}{r2 r3 r4 r5 r7 r8 r10:Option B}:∀(ds:List D) (i:Nat) (o:Fo) (x:Option B),i+ds.length<=L.length->Fz o L i->∃o' x',Z4 (O0 6) (uEx (uM0 9 V5)) ds (eL ns r2 r3 r4 r5 x r7 r8 (some (.opq 2)) r10) [p1,p2,o]=some (.nx (eL ns r2 r3 r4 r5 x' r7 r8 (some (.opq 2)) r10) [p1,p2,o'])/\Fz o' L (i+ds.length)
 | [],i,o,x,_,F=>⟨o,x,rfl,F⟩
 | d::ds,i,o,x,h,F=>by
  rw[List.length_cons]at h ⊢
  obtain⟨o1,e1,F1⟩:=az8 F (by omega)
  obtain⟨o2,x2,e2,F2⟩:=aN0 ds (i+1) o1 (‹d›) (by omega) F1
  refine⟨o2,x2,?_,by rw[show i+(ds.length+1)=i+1+ds.length by omega];exact F2⟩
  show(uEx (uM0 9 V5) (eL ns r2 r3 r4 r5 (‹d›) r7 r8 (some (.opq 2)) r10) [p1,p2,o]).bind _=_
  have:uEx (uM0 9 V5) (eL ns r2 r3 r4 r5 (‹d›) r7 r8 (some (.opq 2)) r10) [p1,p2,o]=some (.nx (eL ns r2 r3 r4 r5 (‹d›) r7 r8 (some (.opq 2)) r10) [p1,p2,o1]):=by
   simp only[uEx,uM0,F8,xg0,xg1,xms,xbs,e1,xw0,xw1]
  rw[this]
  exact e2
def bT:UX:=uIf (uOr (uTB (uB2 neD (uM0 8 V6) (uM0 1 V6))) (uTB (uB2 neD (uD 8 C6 (mO mN)) (uD 1 C6 (mO mN))))) (T4 (uP (dC (.bool false)))) W0
theorem aH8{r2 r3 r4 r5 r7 r9 r10:Option B}(G:Gds L):∀(ds:List D) (i:Nat) (o:Fo) (x:Option B),i+ds.length<=L.length->Fz o L (i+ds.length)->∃o' x',Z4 (O0 6) bT ds (eL ns r2 r3 r4 r5 x r7 (some (.opq 1)) r9 r10) [o,o,p]=some (.nx (eL ns r2 r3 r4 r5 x' r7 (some (.opq 1)) r9 r10) [o',o',p])/\Fz o' L i
 | [],i,o,x,_,F=>⟨o,x,rfl,F⟩
 | d::ds,i,o,x,h,F=>by
  rw[List.length_cons]at h F
  obtain⟨o1,e1,F1⟩:=au8 (i:=i+ds.length) F (by omega)
  rw[← aC3]at e1
  obtain⟨o2,x2,e2,F2⟩:=aH8 G ds i o1 (‹d›) (by omega) F1
  have n1:=aa3 F1
  have t1:=ce8 (bF8 F.ok (i+ds.length))
  have t2:=aE6 (G (i+ds.length) (by omega))
  refine⟨o2,x2,?_,F2⟩
  show(bT (eL ns r2 r3 r4 r5 (‹d›) r7 (some (.opq 1)) r9 r10) [o,o,p]).bind _=_
  have:bT (eL ns r2 r3 r4 r5 (‹d›) r7 (some (.opq 1)) r9 r10) [o,o,p]=some (.nx (eL ns r2 r3 r4 r5 (‹d›) r7 (some (.opq 1)) r9 r10) [o1,o1,p]):=by
   simp only[bT,uIf,uOr,uTB,uB2,uD,uM0,uP,W0,F8,mO,mN,am0,xg0,xg1,xms,xbs,xw0,xw1,e1,n1,t1,t2,xft,if_false]
  rw[this]
  exact e2
theorem aZ0{f:DE}{ρ:Rho}{n:Nat}(h:f ρ=some (.int n)) (hn:n<=1000):∃ds:List D,Q7 f ρ=some ds/\ds.length=n:=⟨_,ar3 h hn,by simp⟩
theorem cb9{f:DE}{ρ:Rho}{n:Nat}(h:f ρ=some (.int n)) (hn:n<=1000):Q7 f ρ=some (rg 0 n):=by
 rw[ar3 h hn]
 unfold rg
 congr 1
 refine List.map_congr_left fun j _=>?_
 rw[Nat.zero_add]
theorem aY5:atI (rws L n) (-1)=some (now (at_ L n)):=by
 have hl:(rws L n).length=n+1:=y9
 have:ixN (n+1) (-1)=some n:=by
  unfold ixN
  rw[if_neg (by decide),if_pos (by omega)]
  congr 1;omega
 unfold atI
 rw[hl,this,xbs]
 unfold rws
 rw[List.getElem?_map,List.getElem?_range (by omega)];rfl
theorem bZ6(F:Fz o L i):o.m.length < 1000/\o.b.length < 1000/\o.f.length < 1000:=by
 have:=F.m.len
 have:=F.few
 refine⟨by omega,?_,?_⟩
 ·rw[F.b,List.length_map,List.length_take];omega
 ·rw[F.f,List.length_map,List.length_reverse,List.length_drop];omega
theorem aL9(h:i9 j s) (a b:Int):Ly 7 (.tuple [now s,.tuple [.int a,.int b]]):=Ly.tup fun x hx=>by
 simp only[List.mem_cons,List.not_mem_nil,or_false]at hx
 rcases hx with rfl|rfl
 ·exact aF0 h
 ·exact(Ly.tup (n:=1) fun x hx=>by
   simp only[List.mem_cons,List.not_mem_nil,or_false]at hx
   rcases hx with rfl|rfl<;>exact Ly.int _ _).mono (by decide)
theorem cn1(a b:Int):eqD (.tuple [.int a,.int b]) (.tuple [.int a,.int b])=some (.bool true):=aN2 (n:=1) (Ly.tup fun x hx=>by
 simp only[List.mem_cons,List.not_mem_nil,or_false]at hx
 rcases hx with rfl|rfl<;>exact Ly.int _ _) (by decide)
theorem main(ns:List Int) (hn:ns.length<=63):aB7 [.list (ns.map PyData.int)]=some (.bool true):=by
 obtain⟨d,ed,ld⟩:=i6 ns 0 6 hn (by decide) (by decide)
 have ed:B4 [scr ns,.int 0,.int 6]=some (.int d):=ed
 obtain⟨o,L,x3,e2,F,G,hl⟩:=bD4 hn (2+d) 0 fo0 [] none (by omega) Fz.new Gds.nil rfl
 generalize hm:0+(2+d)=n at e2 F hl
 have hn2:2<=n:=by omega
 have hn7:n<=7:=by omega
 have c0:=V0 F
 rw[hl,Nat.sub_self]at c0
 have c0:N6 o []=some (.tuple [.int n,.int 0],o):=c0
 obtain⟨o1,eg,F1⟩:=by2 G hl (by omega) F
 obtain⟨b0,eb,lb⟩:=i6 ns 1 n hn (by decide) (by omega)
 have eb:B4 [scr ns,.int 1,.int n]=some (.int b0):=eb
 have k1:(1:Int)+(b0:Int)=((1+b0:Nat):Int):=by omega
 generalize hb:1+b0=b at k1
 have hb1:1<=b:=by omega
 have hbn:b<=n:=by omega
 obtain⟨a,ha⟩:∃a,n=a+b:=⟨n - b,by omega⟩
 have k2:(n:Int) - (b:Int)=(a:Int):=by omega
 have k3:(a:Int)+2=((a+2:Nat):Int):=by omega
 have Ga:i9 (sz a) (at_ L a):=G a (by omega)
 have Gn:i9 (sz n) (at_ L n):=G n (by omega)
 have s1:((n+1:Nat):Int) - 1=(n:Int):=by omega
 have rl:(rws L n).length=n+1:=y9
 have ra:atI (rws L n) (a:Int)=some (now (at_ L a)):=aD8 (by omega)
 have n0:=aa3 Fz.new
 have R2:Q7 (A6 Q3 ⇑2 (B0 B4 (A0 (A2 0) (A0 ⇑0 (A0 ⇑6 A8))))) (era (q2 ns (rws [] 0) none))=some (rg 0 (2+d)):=cb9 (by
  have k:(2:Int)+(d:Int)=((2+d:Nat):Int):=by omega
  wp_walk using evD,era,P7,ed,k) (by omega)
 obtain⟨db,rb,lb2⟩:=aZ0 (f:=A2 5) (ρ:=era (eL ns (‹.list (rws L n)›) x3 (‹.int n›) (‹.int b›) none none none none none)) (n:=b) rfl (by omega)
 obtain⟨o2,x6,e6,F2⟩:=aO2 (L:=L) (ns:=ns) (r2:=‹.list (rws L n)›) (r3:=x3) (r4:=‹.int n›) (r5:=‹.int b›) (r7:=none) (r8:=none) (r9:=none) (r10:=none) db a o1 none (by omega) (by rw[lb2,← ha];exact F1)
 have n2:=aa3 F2
 have c2:=V0 F2
 rw[hl,show n - a=b by omega]at c2
 have tw:=bZ6 F2
 obtain⟨o3,L3,e11,F3,G3,hl3⟩:=bi0 hn F2 G (by omega)
 have here:=ah2 (aL9 Ga (a:Int) (b:Int)) (by decide)
 have there:=ah2 (aL9 (G3 (a+2) (by omega)) ((a+2:Nat):Int) 0) (by decide)
 generalize hH:(PyData.tuple [now (at_ L a),.tuple [.int a,.int b]]:D)=H at here
 generalize hT:(PyData.tuple [now (at_ L3 (a+2)),.tuple [.int ((a+2:Nat):Int),.int 0]]:D)=T at there e11
 have t1:aY1 T=some (true,[now (at_ L3 (a+2)),.tuple [.int ((a+2:Nat):Int),.int 0]]):=by rw[← hT];rfl
 obtain⟨dc,rc,lc⟩:=aZ0 (f:=A2 5) (ρ:=era (eL ns (‹.list (rws L n)›) x3 (‹.int n›) (‹.int b›) x6 (‹H›) (some (.opq 1)) (some (.opq 2)) (‹T›))) (n:=b) rfl (by omega)
 obtain⟨o4,x7,e14,F4⟩:=aN0 (L:=L) (ns:=ns) (p1:=o3) (p2:=o3) (r2:=‹.list (rws L n)›) (r3:=x3) (r4:=‹.int n›) (r5:=‹.int b›) (r7:=‹H›) (r8:=some (.opq 1)) (r10:=‹T›) dc a o2 x6 (by omega) F2
 rw[lc,← ha]at F4
 obtain⟨de,re,le⟩:=aZ0 (f:=A6 Q3 (A6 W1 (A2 4) (A2 5)) ⇑2) (ρ:=era (eL ns (‹.list (rws L n)›) x3 (‹.int n›) (‹.int b›) x7 (‹H›) (some (.opq 1)) (some (.opq 2)) (‹T›))) (n:=a+2) (by wp_walk using evD,era,P7,k2,k3) (by omega)
 obtain⟨o5,x8,e15,F5⟩:=aH8 (L:=L3) (ns:=ns) (p:=o4) (r2:=‹.list (rws L n)›) (r3:=x3) (r4:=‹.int n›) (r5:=‹.int b›) (r7:=‹H›) (r9:=some (.opq 2)) (r10:=‹T›) G3 de 0 o3 x7 (by omega) (by rw[Nat.zero_add,le];exact F3)
 have n4:=aa3 F4
 have n5:=aa3 F5
 have c4:=V0 F4
 rw[hl,Nat.sub_self]at c4
 have c4:N6 o4 []=some (.tuple [.int n,.int 0],o4):=c4
 have z5:now (at_ L3 0)=.list []:=rfl
 rw[z5]at n5
 have q1:=bU4 Gn
 have q2':eqD (.list []) (.list [])=some (.bool true):=rfl
 have q3':=cn1 (n:Int) 0
 have neg1:-(1:Int) = -1:=rfl
 have go:aO7 (P6 11 [scr ns]) []=some (.rt (.bool true) [o5,o5,o4]):=by
  show aO7 [‹scr ns›,none,none,none,none,none,none,none,none,none,none] []=_
  unfold aO7
  refine(O1 (ρ':=eL ns none none none none none none none none none) (q':=[fo0]) rfl).trans ?_
  refine(O1 (ρ':=q2 ns (rws [] 0) none) (q':=[fo0]) (by simp only[aX6,aP1,ulC,ulN,uD,F8,mO,mN,xg0,xg1,xms,xbs,n0,xw0,xw1];rfl)).trans ?_
  refine(O1 (ρ':=q2 ns (rws L n) x3) (q':=[o]) ((V2 R2).trans e2)).trans ?_
  refine(O1 (ρ':=eL ns (some (.own (rws L n))) x3 (‹.int n›) none none none none none none) (q':=[o]) (by wp_walk using evD,aX5,R4,uP,era,P7,rl,s1)).trans ?_
  refine(O1 (ρ':=eL ns (‹.list (rws L n)›) x3 (‹.int n›) none none none none none none) (q':=[o1]) (by wp_walk using evD,aX4,aC6,frz,uIf,uOr,bo8,uTB,uB2,uD,uM0,uP,W0,F8,mO,mC,mN,am0,era,P7,c0,bd7,eg)).trans ?_
  refine(O1 (ρ':=eL ns (‹.list (rws L n)›) x3 (‹.int n›) (‹.int b›) none none none none none) (q':=[o1]) (by wp_walk using evD,aX3,R4,uP,era,P7,eb,k1)).trans ?_
  refine(O1 (ρ':=eL ns (‹.list (rws L n)›) x3 (‹.int n›) (‹.int b›) x6 none none none none) (q':=[o2]) ((V2 rb).trans e6)).trans ?_
  refine(O1 (ρ':=eL ns (‹.list (rws L n)›) x3 (‹.int n›) (‹.int b›) x6 (‹H›) none none none) (q':=[o2]) (by simp only[aX2,R4,ac5,ulC,ulN,uD,uM0,F8,mO,mN,xg0,xg1,xms,xbs,n2,c2,xw0,xw1,hH])).trans ?_
  refine(O1 (ρ':=eL ns (‹.list (rws L n)›) x3 (‹.int n›) (‹.int b›) x6 (‹H›) (some (.opq 1)) none none) (q':=[o2,o2]) (by simp only[aX1,uTw,F8,xg0,xg1,xms,xbs,if_pos tw,xw0,xw1];rfl)).trans ?_
  refine(O1 (ρ':=eL ns (‹.list (rws L n)›) x3 (‹.int n›) (‹.int b›) x6 (‹H›) (some (.opq 1)) (some (.opq 2)) none) (q':=[o2,o2,o2]) (by simp only[aX0,uTw,F8,xg0,xg1,xms,xbs,if_pos tw,xw0,xw1];rfl)).trans ?_
  refine(O1 (ρ':=eL ns (‹.list (rws L n)›) x3 (‹.int n›) (‹.int b›) x6 (‹H›) (some (.opq 1)) (some (.opq 2)) none) (q':=[o2,o2,o2]) (by wp_walk using evD,aI9,uIf,uTP,uP,W0,era,P7,k2,ra,hH,here)).trans ?_
  refine(O1 (ρ':=eL ns (‹.list (rws L n)›) x3 (‹.int n›) (‹.int b›) x6 (‹H›) (some (.opq 1)) (some (.opq 2)) (‹T›)) (q':=[o3,o2,o2]) (by wp_walk using evD,aI8,R4,uD,F8,mO,mC,mN,era,P7,e11)).trans ?_
  refine(O1 (ρ':=eL ns (‹.list (rws L n)›) x3 (‹.int n›) (‹.int b›) x6 (‹H›) (some (.opq 1)) (some (.opq 2)) (‹T›)) (q':=[o3,o2,o2]) (by
   have t2:∀y3 y6:Option B,dIx (C3 10) ⇑1 [‹scr ns›,none,‹.list (rws L n)›,y3,‹.int n›,‹.int b›,y6,‹H›,none,none,‹T›]=some (.tuple [.int ((a+2:Nat):Int),.int 0]):=fun y3 y6=>by rw[← hT];rfl
   have t3:∀y3 y6:Option B,Q9 (A0 (A6 Q3 (A6 W1 (A2 4) (A2 5)) ⇑2) (A0 ⇑0 A8)) [‹scr ns›,none,‹.list (rws L n)›,y3,‹.int n›,‹.int b›,y6,‹H›,none,none,‹T›]=some (.tuple [.int ((a+2:Nat):Int),.int 0]):=fun y3 y6=>by wp_walk using evD,k2,k3
   simp only[aI7,uIf,uOr,uTB,uTP,tB2,au2 (t2 _ _) (t3 _ _),bd7,i7,uB2,ac5,ulC,ulN,uD,uM0,uP,W0,A2,F8,mO,mN,am0,t2,t3,bd7,xg0,xg1,xms,xbs,n2,c2,xw0,xw1,hH,era,P7,xmc,xmn,here,xft,if_false])).trans ?_
  refine(O1 (ρ':=eL ns (‹.list (rws L n)›) x3 (‹.int n›) (‹.int b›) x6 (‹H›) (some (.opq 1)) (some (.opq 2)) (‹T›)) (q':=[o3,o3,o2]) (by
   simp only[aI6,uIf,uOr,uTB,uB2,ac5,ulC,ulN,uD,uM0,uP,W0,A2,F8,mO,mC,mN,am0,xg0,xg1,xms,xbs,e11,there,n2,c2,xw0,xw1,hH,era,P7,xmc,xmn,here,xft,if_false])).trans ?_
  refine(O1 (ρ':=eL ns (‹.list (rws L n)›) x3 (‹.int n›) (‹.int b›) x7 (‹H›) (some (.opq 1)) (some (.opq 2)) (‹T›)) (q':=[o3,o3,o4]) ((V2 rc).trans e14)).trans ?_
  refine(O1 (ρ':=eL ns (‹.list (rws L n)›) x3 (‹.int n›) (‹.int b›) x8 (‹H›) (some (.opq 1)) (some (.opq 2)) (‹T›)) (q':=[o5,o5,o4]) ((V2 re).trans e15)).trans ?_
  have t4:∀y3 y6:Option B,dIx (C3 2) (ag4 ⇑1) [‹scr ns›,none,‹.list (rws L n)›,y3,‹.int n›,‹.int b›,y6,‹H›,none,none,‹T›]=some (now (at_ L n)):=fun y3 y6=>by
   wp_walk using evD,ag4,neg1,aY5
  simp only[aI5,T4,av7,uB2,uD,uM0,uP,ab6,A8,Q9,A0,A2,dC,F8,mO,mN,am0,t4,xg0,xg1,xms,xbs,n4,n5,c4,q1,q2',q3',era,P7,xmc,xmn,xw0,xw1,if_true]
 unfold aB7 bq7
 rw[show(PyData.list (ns.map PyData.int))=scr ns from rfl,go]
 rfl
end
end Lk73
namespace Lk73
open PySem PySem.Spec PyProof.Rows L2 G Sh
def zcs:List (Str×D):=[("ONE", (.tuple [(.int 1),(.int 1)]))]
def zbl:List Str:=["dict", "len", "list", "range", "sorted", "tuple", "zip"]
def tb0:Tab:=[]
def ad6:Fd:=fdm "common_divisor" (top 7) 2 ["one", "other", "left_over"] true
def at9:Fd:=fdm "least_form" (top 8) 2 ["top", "under", "divisor"] true
def au0:Fd:=fdm "is_at_most" (top 9) 2 ["one", "other"] true
def bz8:Fd:=fdm "added" (top 10) 2 ["one", "other"] true
def aG2:Fd:=fdm "lessened" (top 11) 2 ["one", "other"] true
def bz5:Fd:=fdm "times" (top 12) 2 ["one", "other"] true
def aT4:Fd:=fdm "rest_of" (top 13) 1 ["share"] true
def an0:Fd:=fdm "at_most_one" (top 14) 1 ["fraction"] true
def ag3:Fd:=fdm "blended_cover" (top 16) 3 ["manner", "c", "d"] true
def ad8:Fd:=fdm "blended_colour" (top 17) 5 ["manner", "c", "d", "x", "y", "through"] true
def aU1:Fd:={ fdm "blended" (top 18) 3 ["manner", "above", "below", "c", "d", "colours"] true with hc:=[((58,14),[0,3,4])] }
def ab5:Fd:=fdm "are_of_one_size" (top 20) 2 ["one", "other"]
def ad7:Fd:={ fdm "blended_sheets" (top 21) 3 ["manner", "above", "below", "spots"] with hc:=[((64,12),[0])] }
def bk7:Fd:=fdm "_law_cell" (top 25) 2 ["_law_script", "_law_k"] true
def aT9:Fd:=fdm "_law_drawn" (top 26) 3 ["_law_script", "_law_k", "_law_many", "_law_cell_here"] true
def bk5:Fd:=fdm "_law_made" (top 27) 2 ["_law_top", "_law_under", "_law_one", "_law_by"] true
def aT5:Fd:=fdm "_law_times" (top 28) 2 ["_law_one", "_law_other"] true
def aT7:Fd:=fdm "_law_share" (top 29) 2 ["_law_script", "_law_at", "_law_under", "_law_drawn_here"] true
def bk4:Fd:={ fdm "_law_spot" (top 30) 2 ["_law_script", "_law_at", "_law_cover"] true with hc:=[((160,33),[2,0,1])] }
def aT6:Fd:={ fdm "_law_sheet" (top 31) 4 ["_law_script", "_law_at", "_law_wide", "_law_high", "_law_spots"] with hc:=[((162,17),[0,1])] }
def bk3:Fd:=fdm "_law_step" (top 32) 3 ["_law_script", "_law_at", "_law_folio", "_law_some", "_law_way", "_law_name", "_law_other"]
def bz7:Fd:=fdm "_law_now" (top 33) 1 ["_law_folio"]
def aT8:Fd:=fdm "_law_go_on" (top 34) 2 ["_law_script", "_law_folio", "_law_k"]
def bk6:Fd:={ fdm "_law_goes" (top 35) 2 ["_law_folio", "_law_rows", "_law_many", "_law_words", "_law_k"] with own:=[3],fz:=[(195,[3])] }
def bD8:Fd:={ fdm "law" (top 36) 1 ["_law_script", "_law_folio", "_law_rows", "_law_k", "_law_many", "_law_back", "_law_turn", "_law_here", "_law_twin", "_law_third", "_law_there"] with own:=[2],fz:=[(203,[2])] }
def mth(j:Nat):Stmt:=(cn6 (top 23)).getD j (.Pass ⟨0,0,0,0⟩)
def aT1:Fd:=fdm "__init__" (mth 0) 1 ["self"]
theorem aU7:A7 (mth 0)=[.Assign [(.Attribute (.Name "self" ⟨70,8,70,12⟩) "sheets" ⟨70,8,70,19⟩)] (.Dict [] [] ⟨70,22,70,24⟩) ⟨70,8,70,24⟩,.Assign [(.Attribute (.Name "self" ⟨71,8,71,12⟩) "steps_back" ⟨71,8,71,23⟩)] (.List [] ⟨71,26,71,28⟩) ⟨71,8,71,28⟩,.Assign [(.Attribute (.Name "self" ⟨72,8,72,12⟩) "steps_forth" ⟨72,8,72,24⟩)] (.List [] ⟨72,27,72,29⟩) ⟨72,8,72,29⟩]:=by kernel_rfl
def at7:Fd:=fdm "set_sheet" (mth 1) 3 ["self", "name", "sheet"]
theorem au7:A7 (mth 1)=[.If (.Compare (.Name "sheet" ⟨75,11,75,16⟩) [.Is] [(.Constant .none 0 ⟨75,20,75,24⟩)] ⟨75,11,75,24⟩) [.Expr (.Call (.Attribute (.Attribute (.Name "self" ⟨76,12,76,16⟩) "sheets" ⟨76,12,76,23⟩) "pop" ⟨76,12,76,27⟩) [(.Name "name" ⟨76,28,76,32⟩)] [] ⟨76,12,76,33⟩) ⟨76,12,76,33⟩] [.Assign [(.Subscript (.Attribute (.Name "self" ⟨78,12,78,16⟩) "sheets" ⟨78,12,78,23⟩) (.Name "name" ⟨78,24,78,28⟩) ⟨78,12,78,29⟩)] (.Name "sheet" ⟨78,32,78,37⟩) ⟨78,12,78,37⟩] ⟨75,8,78,37⟩]:=by kernel_rfl
def at6:Fd:=fdm "take_step" (mth 2) 4 ["self", "word", "name", "sheet"]
theorem au6:A7 (mth 2)=[.Expr (.Call (.Attribute (.Attribute (.Name "self" ⟨81,8,81,12⟩) "steps_back" ⟨81,8,81,23⟩) "append" ⟨81,8,81,30⟩) [(.Tuple [(.Name "word" ⟨81,32,81,36⟩),(.Name "name" ⟨81,38,81,42⟩),(.Call (.Attribute (.Attribute (.Name "self" ⟨81,44,81,48⟩) "sheets" ⟨81,44,81,55⟩) "get" ⟨81,44,81,59⟩) [(.Name "name" ⟨81,60,81,64⟩)] [] ⟨81,44,81,65⟩),(.Name "sheet" ⟨81,67,81,72⟩)] 0 ⟨81,31,81,73⟩)] [] ⟨81,8,81,74⟩) ⟨81,8,81,74⟩,.Assign [(.Attribute (.Name "self" ⟨82,8,82,12⟩) "steps_forth" ⟨82,8,82,24⟩)] (.List [] ⟨82,27,82,29⟩) ⟨82,8,82,29⟩,.Expr (.Call (.Attribute (.Name "self" ⟨83,8,83,12⟩) "set_sheet" ⟨83,8,83,22⟩) [(.Name "name" ⟨83,23,83,27⟩),(.Name "sheet" ⟨83,29,83,34⟩)] [] ⟨83,8,83,35⟩) ⟨83,8,83,35⟩]:=by kernel_rfl
def bU6:Fd:=fdm "lay" (mth 3) 3 ["self", "name", "sheet", "was_there"]
theorem bV6:A7 (mth 3)=[.Assign [(.Name "was_there" ⟨86,8,86,17⟩)] (.Compare (.Name "name" ⟨86,20,86,24⟩) [.In] [(.Attribute (.Name "self" ⟨86,28,86,32⟩) "sheets" ⟨86,28,86,39⟩)] ⟨86,20,86,39⟩) ⟨86,8,86,39⟩,.Expr (.Call (.Attribute (.Name "self" ⟨87,8,87,12⟩) "take_step" ⟨87,8,87,22⟩) [(.Constant (.str "lay") 0 ⟨87,23,87,28⟩),(.Name "name" ⟨87,30,87,34⟩),(.Name "sheet" ⟨87,36,87,41⟩)] [] ⟨87,8,87,42⟩) ⟨87,8,87,42⟩,.Return (some (.Name "was_there" ⟨88,15,88,24⟩)) ⟨88,8,88,24⟩]:=by kernel_rfl
def bk0:Fd:=fdm "fetch" (mth 4) 2 ["self", "name"]
theorem bl9:A7 (mth 4)=[.If (.Compare (.Name "name" ⟨91,11,91,15⟩) [.NotIn] [(.Attribute (.Name "self" ⟨91,23,91,27⟩) "sheets" ⟨91,23,91,34⟩)] ⟨91,11,91,34⟩) (ifB (A7 (mth 4)) 0) [] ⟨91,8,92,61⟩,.Return (some (.Subscript (.Attribute (.Name "self" ⟨93,15,93,19⟩) "sheets" ⟨93,15,93,26⟩) (.Name "name" ⟨93,27,93,31⟩) ⟨93,15,93,32⟩)) ⟨93,8,93,32⟩]:=by kernel_rfl
def aA3:Fd:=fdm "take_off" (mth 5) 2 ["self", "name", "sheet"]
theorem aB2:A7 (mth 5)=[.Assign [(.Name "sheet" ⟨96,8,96,13⟩)] (.Call (.Attribute (.Name "self" ⟨96,16,96,20⟩) "fetch" ⟨96,16,96,26⟩) [(.Name "name" ⟨96,27,96,31⟩)] [] ⟨96,16,96,32⟩) ⟨96,8,96,32⟩,.Expr (.Call (.Attribute (.Name "self" ⟨97,8,97,12⟩) "take_step" ⟨97,8,97,22⟩) [(.Constant (.str "take") 0 ⟨97,23,97,29⟩),(.Name "name" ⟨97,31,97,35⟩),(.Constant .none 0 ⟨97,37,97,41⟩)] [] ⟨97,8,97,42⟩) ⟨97,8,97,42⟩,.Return (some (.Name "sheet" ⟨98,15,98,20⟩)) ⟨98,8,98,20⟩]:=by kernel_rfl
def bk1:Fd:=fdm "blend" (mth 6) 4 ["self", "manner", "above", "below", "upper", "lower", "sheet"]
theorem bm0:A7 (mth 6)=[.Assign [(.Name "upper" ⟨101,8,101,13⟩)] (.Call (.Attribute (.Name "self" ⟨101,16,101,20⟩) "fetch" ⟨101,16,101,26⟩) [(.Name "above" ⟨101,27,101,32⟩)] [] ⟨101,16,101,33⟩) ⟨101,8,101,33⟩,.Assign [(.Name "lower" ⟨102,8,102,13⟩)] (.Call (.Attribute (.Name "self" ⟨102,16,102,20⟩) "fetch" ⟨102,16,102,26⟩) [(.Name "below" ⟨102,27,102,32⟩)] [] ⟨102,16,102,33⟩) ⟨102,8,102,33⟩,.If (.UnaryOp .Not (.Call (.Name "are_of_one_size" ⟨103,15,103,30⟩) [(.Name "upper" ⟨103,31,103,36⟩),(.Name "lower" ⟨103,38,103,43⟩)] [] ⟨103,15,103,44⟩) ⟨103,11,103,44⟩) (ifB (A7 (mth 6)) 2) [] ⟨103,8,104,59⟩,.Assign [(.Name "sheet" ⟨105,8,105,13⟩)] (.Call (.Name "blended_sheets" ⟨105,16,105,30⟩) [(.Name "manner" ⟨105,31,105,37⟩),(.Name "upper" ⟨105,39,105,44⟩),(.Name "lower" ⟨105,46,105,51⟩)] [] ⟨105,16,105,52⟩) ⟨105,8,105,52⟩,.Expr (.Call (.Attribute (.Name "self" ⟨106,8,106,12⟩) "take_step" ⟨106,8,106,22⟩) [(.Constant (.str "blend") 0 ⟨106,23,106,30⟩),(.Name "below" ⟨106,32,106,37⟩),(.Name "sheet" ⟨106,39,106,44⟩)] [] ⟨106,8,106,45⟩) ⟨106,8,106,45⟩,.Return (some (.Name "sheet" ⟨107,15,107,20⟩)) ⟨107,8,107,20⟩]:=by kernel_rfl
def bz4:Fd:=fdm "back" (mth 8) 1 ["self", "step"]
theorem bA5:A7 (mth 8)=[.If (.Compare (.Call (.Name "len" ⟨113,11,113,14⟩) [(.Attribute (.Name "self" ⟨113,15,113,19⟩) "steps_back" ⟨113,15,113,30⟩)] [] ⟨113,11,113,31⟩) [.Eq] [(.Constant (.int 0) 0 ⟨113,35,113,36⟩)] ⟨113,11,113,36⟩) (ifB (A7 (mth 8)) 0) [] ⟨113,8,114,53⟩,.Assign [(.Name "step" ⟨115,8,115,12⟩)] (.Call (.Attribute (.Attribute (.Name "self" ⟨115,15,115,19⟩) "steps_back" ⟨115,15,115,30⟩) "pop" ⟨115,15,115,34⟩) [] [] ⟨115,15,115,36⟩) ⟨115,8,115,36⟩,.Expr (.Call (.Attribute (.Name "self" ⟨116,8,116,12⟩) "set_sheet" ⟨116,8,116,22⟩) [(.Subscript (.Name "step" ⟨116,23,116,27⟩) (.Constant (.int 1) 0 ⟨116,28,116,29⟩) ⟨116,23,116,30⟩),(.Subscript (.Name "step" ⟨116,32,116,36⟩) (.Constant (.int 2) 0 ⟨116,37,116,38⟩) ⟨116,32,116,39⟩)] [] ⟨116,8,116,40⟩) ⟨116,8,116,40⟩,.Expr (.Call (.Attribute (.Attribute (.Name "self" ⟨117,8,117,12⟩) "steps_forth" ⟨117,8,117,24⟩) "append" ⟨117,8,117,31⟩) [(.Name "step" ⟨117,32,117,36⟩)] [] ⟨117,8,117,37⟩) ⟨117,8,117,37⟩,.Return (some (.Subscript (.Name "step" ⟨118,15,118,19⟩) (.Constant (.int 0) 0 ⟨118,20,118,21⟩) ⟨118,15,118,22⟩)) ⟨118,8,118,22⟩]:=by kernel_rfl
def bj9:Fd:=fdm "forth" (mth 9) 1 ["self", "step"]
theorem bl8:A7 (mth 9)=[.If (.Compare (.Call (.Name "len" ⟨121,11,121,14⟩) [(.Attribute (.Name "self" ⟨121,15,121,19⟩) "steps_forth" ⟨121,15,121,31⟩)] [] ⟨121,11,121,32⟩) [.Eq] [(.Constant (.int 0) 0 ⟨121,36,121,37⟩)] ⟨121,11,121,37⟩) (ifB (A7 (mth 9)) 0) [] ⟨121,8,122,53⟩,.Assign [(.Name "step" ⟨123,8,123,12⟩)] (.Call (.Attribute (.Attribute (.Name "self" ⟨123,15,123,19⟩) "steps_forth" ⟨123,15,123,31⟩) "pop" ⟨123,15,123,35⟩) [] [] ⟨123,15,123,37⟩) ⟨123,8,123,37⟩,.Expr (.Call (.Attribute (.Name "self" ⟨124,8,124,12⟩) "set_sheet" ⟨124,8,124,22⟩) [(.Subscript (.Name "step" ⟨124,23,124,27⟩) (.Constant (.int 1) 0 ⟨124,28,124,29⟩) ⟨124,23,124,30⟩),(.Subscript (.Name "step" ⟨124,32,124,36⟩) (.Constant (.int 3) 0 ⟨124,37,124,38⟩) ⟨124,32,124,39⟩)] [] ⟨124,8,124,40⟩) ⟨124,8,124,40⟩,.Expr (.Call (.Attribute (.Attribute (.Name "self" ⟨125,8,125,12⟩) "steps_back" ⟨125,8,125,23⟩) "append" ⟨125,8,125,30⟩) [(.Name "step" ⟨125,31,125,35⟩)] [] ⟨125,8,125,36⟩) ⟨125,8,125,36⟩,.Return (some (.Subscript (.Name "step" ⟨126,15,126,19⟩) (.Constant (.int 0) 0 ⟨126,20,126,21⟩) ⟨126,15,126,22⟩)) ⟨126,8,126,22⟩]:=by kernel_rfl
def aT2:Fd:=fdm "counts" (mth 10) 1 ["self"]
theorem aU8:A7 (mth 10)=[.Return (some (.Tuple [(.Call (.Name "len" ⟨129,16,129,19⟩) [(.Attribute (.Name "self" ⟨129,20,129,24⟩) "steps_back" ⟨129,20,129,35⟩)] [] ⟨129,16,129,36⟩),(.Call (.Name "len" ⟨129,38,129,41⟩) [(.Attribute (.Name "self" ⟨129,42,129,46⟩) "steps_forth" ⟨129,42,129,58⟩)] [] ⟨129,38,129,59⟩)] 0 ⟨129,15,129,60⟩)) ⟨129,8,129,60⟩]:=by kernel_rfl
def bj8:Fd:=fdm "names" (mth 7) 1 ["self"]
theorem bl7:A7 (mth 7)=[.Return (some (.Call (.Name "sorted" ⟨110,15,110,21⟩) [(.Attribute (.Name "self" ⟨110,22,110,26⟩) "sheets" ⟨110,22,110,33⟩)] [] ⟨110,15,110,34⟩)) ⟨110,8,110,34⟩]:=by kernel_rfl
def bz3:Fd:=fdm "twin" (mth 11) 1 ["self", "other"]
theorem bA4:A7 (mth 11)=[.Assign [(.Name "other" ⟨132,8,132,13⟩)] (.Call (.Name "Folio" ⟨132,16,132,21⟩) [] [] ⟨132,16,132,23⟩) ⟨132,8,132,23⟩,.Assign [(.Attribute (.Name "other" ⟨133,8,133,13⟩) "sheets" ⟨133,8,133,20⟩)] (.Call (.Name "dict" ⟨133,23,133,27⟩) [(.Attribute (.Name "self" ⟨133,28,133,32⟩) "sheets" ⟨133,28,133,39⟩)] [] ⟨133,23,133,40⟩) ⟨133,8,133,40⟩,.Assign [(.Attribute (.Name "other" ⟨134,8,134,13⟩) "steps_back" ⟨134,8,134,24⟩)] (.Call (.Name "list" ⟨134,27,134,31⟩) [(.Attribute (.Name "self" ⟨134,32,134,36⟩) "steps_back" ⟨134,32,134,47⟩)] [] ⟨134,27,134,48⟩) ⟨134,8,134,48⟩,.Assign [(.Attribute (.Name "other" ⟨135,8,135,13⟩) "steps_forth" ⟨135,8,135,25⟩)] (.Call (.Name "list" ⟨135,28,135,32⟩) [(.Attribute (.Name "self" ⟨135,33,135,37⟩) "steps_forth" ⟨135,33,135,49⟩)] [] ⟨135,28,135,50⟩) ⟨135,8,135,50⟩,.Return (some (.Name "other" ⟨136,15,136,20⟩)) ⟨136,8,136,20⟩]:=by kernel_rfl
structure Ms (K:PySem.W.Frag) (C:Addr):Prop where
 m_init__:KM K C "__init__" "Folio.__init__" (mth 0)
 m_set_sheet:KM K C "set_sheet" "Folio.set_sheet" (mth 1)
 m_take_step:KM K C "take_step" "Folio.take_step" (mth 2)
 m_lay:KM K C "lay" "Folio.lay" (mth 3)
 m_fetch:KM K C "fetch" "Folio.fetch" (mth 4)
 m_take_off:KM K C "take_off" "Folio.take_off" (mth 5)
 m_blend:KM K C "blend" "Folio.blend" (mth 6)
 m_back:KM K C "back" "Folio.back" (mth 8)
 m_forth:KM K C "forth" "Folio.forth" (mth 9)
 m_counts:KM K C "counts" "Folio.counts" (mth 10)
 m_names:KM K C "names" "Folio.names" (mth 7)
 m_twin:KM K C "twin" "Folio.twin" (mth 11)
structure Qs (K:PySem.W.Frag):Prop where
 h_common_divisor:KF K "common_divisor" (top 7)
 h_least_form:KF K "least_form" (top 8)
 h_is_at_most:KF K "is_at_most" (top 9)
 h_added:KF K "added" (top 10)
 h_lessened:KF K "lessened" (top 11)
 h_times:KF K "times" (top 12)
 h_rest_of:KF K "rest_of" (top 13)
 h_at_most_one:KF K "at_most_one" (top 14)
 h_blended_cover:KF K "blended_cover" (top 16)
 h_blended_colour:KF K "blended_colour" (top 17)
 h_blended:KF K "blended" (top 18)
 h_are_of_one_size:KF K "are_of_one_size" (top 20)
 h_blended_sheets:KF K "blended_sheets" (top 21)
 h_l_cell:KF K "_law_cell" (top 25)
 h_l_drawn:KF K "_law_drawn" (top 26)
 h_l_made:KF K "_law_made" (top 27)
 h_l_times:KF K "_law_times" (top 28)
 h_l_share:KF K "_law_share" (top 29)
 h_l_spot:KF K "_law_spot" (top 30)
 h_l_sheet:KF K "_law_sheet" (top 31)
 h_l_step:KF K "_law_step" (top 32)
 h_l_now:KF K "_law_now" (top 33)
 h_l_go_on:KF K "_law_go_on" (top 34)
 h_l_goes:KF K "_law_goes" (top 35)
 h_law:KF K "law" (top 36)
 h_cls:∃C,KCl K C "Folio" /\ Ms K C
theorem cj3{P:Program}{w:World}{K:PySem.W.Frag}{mg:Str->Option Value}(M:Md K mg zcs zbl) (q:Qs K) {C:Addr}(c:KCl K C "Folio") (z:Ms K C):∃tab O,rdU tab zcs zbl O bD8=aB7/\∀base:Heap,UOk P w K mg base C 35 tab O:=by
 refine⟨?tab,?O,?e,fun base=>?t⟩
 case t =>
  have t:TOk P w K mg base 0 tb0:=TOk.nil
  have t:=t.add M ad6 q.h_common_divisor S0
  have t:=t.add M at9 q.h_least_form R3
  have t:=t.add M au0 q.h_is_at_most Z3
  have t:=t.add M bz8 q.h_added S7
  have t:=t.add M aG2 q.h_lessened V9
  have t:=t.add M bz5 q.h_times U8
  have t:=t.add M aT4 q.h_rest_of X4
  have t:=t.add M an0 q.h_at_most_one S6
  have t:=t.add M ag3 q.h_blended_cover T9
  have t:=t.add M ad8 q.h_blended_colour S1
  have t:=t.add M aU1 q.h_blended X6
  have t:=t.add M ab5 q.h_are_of_one_size K8
  have t:=t.add M ad7 q.h_blended_sheets K5
  have t:=t.add M bk7 q.h_l_cell am4
  have t:=t.add M aT9 q.h_l_drawn B4
  have t:=t.add M bk5 q.h_l_made ac4
  have t:=t.add M aT5 q.h_l_times ae4
  have t:=t.add M aT7 q.h_l_share l0
  have t:=t.add M bk4 q.h_l_spot X5
  have t:=t.add M aT6 q.h_l_sheet V1
  have t:TOk P w K mg base 20 _:=t
  have i:=iok (P:=P) (w:=w) (base:=base) M c aT1 z.m_init__ rfl rfl rfl (by kernel_rfl) aU7 (by kernel_rfl) (by repeat (first|exact rfl|intro _))
  have n:=nmk M t c bj8 z.m_names rfl rfl rfl (by kernel_rfl) (by kernel_rfl) bl7 (by kernel_rfl) (by repeat (first|exact rfl|intro _))
  have m:MOk P w K mg base C 20 []:=MOk.nil.mono (Nat.zero_le _)
  have m:MOk P w K mg base C 21 _:=m.add M t c.foc at7 z.m_set_sheet o8 2 "self" ["name", "sheet"] fun X F b a o ds r o' _ e=>(show OM X C b _ _ (A7 (mth 1)) _ _ by rw[au7];exact aY0 F rfl (by kernel_rfl) rfl e)
  have t:TOk P w K mg base 21 _:=t.mono (Nat.le_succ _)
  have m:MOk P w K mg base C 22 _:=m.add M t c.foc at6 z.m_take_step W2 3 "self" ["word", "name", "sheet"] fun X F b a o ds r o' _ e=>(show OM X C b _ _ (A7 (mth 2)) _ _ by rw[au6];exact aQ1 F rfl (by kernel_rfl) rfl rfl rfl rfl e)
  have t:TOk P w K mg base 22 _:=t.mono (Nat.le_succ _)
  have m:MOk P w K mg base C 23 _:=m.add M t c.foc bU6 z.m_lay aE9 2 "self" ["name", "sheet", "was_there"] fun X F b a o ds r o' _ e=>(show OM X C b _ _ (A7 (mth 3)) _ _ by rw[bV6];exact be6 F rfl rfl (by kernel_rfl) rfl rfl e)
  have t:TOk P w K mg base 23 _:=t.mono (Nat.le_succ _)
  have m:MOk P w K mg base C 24 _:=m.add M t c.foc bk0 z.m_fetch K3 1 "self" ["name"] fun X F b a o ds r o' _ e=>(show OM X C b _ _ (A7 (mth 4)) _ _ by rw[bl9];exact aG0 F rfl (by kernel_rfl) e)
  have t:TOk P w K mg base 24 _:=t.mono (Nat.le_succ _)
  have m:MOk P w K mg base C 25 _:=m.add M t c.foc aA3 z.m_take_off ay5 1 "self" ["name", "sheet"] fun X F b a o ds r o' _ e=>(show OM X C b _ _ (A7 (mth 5)) _ _ by rw[aB2];exact bc3 F rfl rfl (by kernel_rfl) rfl rfl rfl rfl e)
  have t:TOk P w K mg base 25 _:=t.mono (Nat.le_succ _)
  have m:MOk P w K mg base C 26 _:=m.add M t c.foc bk1 z.m_blend (o9 K8 K5) 3 "self" ["manner", "above", "below", "upper", "lower", "sheet"] fun X F b a o ds r o' _ e=>(show OM X C b _ _ (A7 (mth 6)) _ _ by rw[bm0];exact aG8 F rfl rfl (by kernel_rfl) rfl rfl rfl (by kernel_rfl) rfl (by kernel_rfl) rfl rfl rfl e)
  have t:TOk P w K mg base 26 _:=t.mono (Nat.le_succ _)
  have m:MOk P w K mg base C 27 _:=m.add M t c.foc bz4 z.m_back V6 0 "self" ["step"] fun X F b a o ds r o' _ e=>(show OM X C b _ _ (A7 (mth 8)) _ _ by rw[bA5];exact aU9 F rfl rfl (by kernel_rfl) rfl (by kernel_rfl) rfl rfl rfl e)
  have t:TOk P w K mg base 27 _:=t.mono (Nat.le_succ _)
  have m:MOk P w K mg base C 28 _:=m.add M t c.foc bj9 z.m_forth V5 0 "self" ["step"] fun X F b a o ds r o' _ e=>(show OM X C b _ _ (A7 (mth 9)) _ _ by rw[bl8];exact aF9 F rfl rfl (by kernel_rfl) rfl (by kernel_rfl) rfl rfl rfl e)
  have t:TOk P w K mg base 28 _:=t.mono (Nat.le_succ _)
  have m:MOk P w K mg base C 29 _:=m.add M t c.foc aT2 z.m_counts N6 0 "self" [] fun X F b a o ds r o' _ e=>(show OM X C b _ _ (A7 (mth 10)) _ _ by rw[aU8];exact aA6 F rfl (by kernel_rfl) (by kernel_rfl) e)
  have t:TOk P w K mg base 29 _:=t.mono (Nat.le_succ _)
  have u:UOk P w K mg base C 30 _ ⟨("names", R7,0)::_,[], "Folio", [],false⟩:=UOk.start t m n i (by decide) (by decide) (by decide)
  have u:UOk P w K mg base C 31 _ _:=u.twin M c bz3 z.m_twin rfl rfl rfl (by kernel_rfl) (by kernel_rfl) (by kernel_rfl) (by kernel_rfl) (by kernel_rfl) bA4 (by rfl) (by kernel_rfl) (by repeat (first|exact rfl|intro _))
  have u:UOk P w K mg base C 32 _ _:=u.addD M c.foc bk3 q.h_l_step O5 2
  have u:UOk P w K mg base C 33 _ _:=u.addD M c.foc bz7 q.h_l_now C6 0
  have u:UOk P w K mg base C 34 _ _:=u.addD M c.foc aT8 q.h_l_go_on T3 1
  have u:UOk P w K mg base C 35 _ _:=u.addD M c.foc bk6 q.h_l_goes Y9 0
  exact u
 case e=>kernel_rfl
theorem zmd{K:PySem.W.Frag}{h:Heap}{mg:Str->Option Value}{q0:Addr}{y0:Array (Option Value)}{g0t0 g0t1:Tok}{n0:Nat}(X:K.In h) (G:h.Ns mainGlobals mg) (p0:PySem.W.nsIn K mainGlobals "ONE" = some (some (.ref q0))) (r0:K.lookup q0=some ⟨.type "tuple", none,.seq #[.int 1 g0t0,.int 1 g0t1] n0,y0⟩) (z0:PySem.W.nsIn K mainGlobals "dict" = some none) (z1:PySem.W.nsIn K mainGlobals "len" = some none) (z2:PySem.W.nsIn K mainGlobals "list" = some none) (z3:PySem.W.nsIn K mainGlobals "range" = some none) (z4:PySem.W.nsIn K mainGlobals "sorted" = some none) (z5:PySem.W.nsIn K mainGlobals "tuple" = some none) (z6:PySem.W.nsIn K mainGlobals "zip" = some none):Md K mg zcs zbl:=by
 refine⟨fun x v e=>PySem.W.mg_of X G e,fun x d e=>?_,fun x e=>?_⟩
 ·unfold zcs at e
  rw[List.lookup_cons]at e
  split at e
  ·rename_i q;cases e;simp only[beq_iff_eq]at q;subst q;exact⟨_,(be9 r0 rfl rfl rfl (by show 2<=1000;decide) (ak7 (az0 1 g0t0) (ak7 (az0 1 g0t1) aS1))),PySem.W.mg_of X G p0⟩
  cases e
 ·unfold zbl at e
  simp only[List.contains_cons,List.contains_nil,Bool.or_false,Bool.or_eq_true,beq_iff_eq]at e
  rcases e with e|e|e|e|e|e|e
  ·subst e;exact PySem.W.mg_none_of X G z0
  ·subst e;exact PySem.W.mg_none_of X G z1
  ·subst e;exact PySem.W.mg_none_of X G z2
  ·subst e;exact PySem.W.mg_none_of X G z3
  ·subst e;exact PySem.W.mg_none_of X G z4
  ·subst e;exact PySem.W.mg_none_of X G z5
  ·subst e;exact PySem.W.mg_none_of X G z6
theorem bX5{l:PySem.W.OpenLaw}{q:Program}{loose:List Str}{XP:(Str->Option Value)->Heap->Prop}{YP:World->Heap->Prop}{d:DefRec}{K:Params->PySem.W.Frag}(hn:l.most=some 63) (hdf:d.params.defaults=[])
  (hY:∀(w:World) (h:Heap),YP w h->(K w.params).In h) (hd:d.name = "law")
  (F:∀(w:World) (mg:Str->Option Value) (h:Heap),(K w.params).In h->h.Ns mainGlobals mg->Md (K w.params) mg zcs zbl)
  (Q:∀w:World,Qs (K w.params))
  (M:∀ns:List Int,ns.length<=63->aB7 [.list (ns.map PyData.int)]=some (.bool true)) :
  PySem.W.WalkO q loose XP YP l.row.toRowW d [] (fun f vs=>PySem.call f vs) :=
 L2.bn7 (n:=63) (k:=36) (x := "_law_script") (CX:=fun _=>CX0) (sp:=fun w=>spF (K w.params) 1 aB7) hn (by decide) hdf ⟨rfl,by decide,by decide⟩ hY
  (fun w mg fa h hk hg hm=>by
   have N:=F w mg h hk hg
   have q:=Q w
   rw[hd]at hm
   obtain⟨C,c,z⟩:=q.h_cls
   obtain⟨_,_,e,t⟩:=cj3 N q c z
   obtain⟨fd,b1,b2⟩:=be7 N c.foc t bD8 q.h_law e hm
   exact⟨fd,b1,fun base _ _=>b2 base⟩)
  (fun w H a ns hl _ hS=>⟨rfl,H,[.list (ns.map PyData.int)],.bool true,B2.refl _,⟨.ref a,[],rfl,⟨a,_,rfl,hS,Reps.ints ns⟩,rfl⟩,M ns hl,fun v H' Hf' g r=>r⟩) fun _ _ _ _ _ z=>z
end Lk73
def PySem.W.Fast.tw8985982136856319900:Unit:=()
def PySem.W.Fast.tw14716768131843721492:Unit:=()
def PySem.W.Fast.tw16239746006389380680:Unit:=()
def PySem.W.Fast.tw10818659103708229754:Unit:=()
def PySem.W.Fast.tw11359936618158666972:Unit:=()
def PySem.W.Fast.tw921831154770663174:Unit:=()
def PySem.W.Fast.tw11626622910873395784:Unit:=()
def PySem.W.Fast.tw545389553206322408:Unit:=()
def PySem.W.Fast.tw10870773388201911452:Unit:=()
def PySem.W.Fast.tw9911486664161696434:Unit:=()
def PySem.W.Fast.tw18234507431078072509:Unit:=()
def PySem.W.Fast.tw4485010776718951435:Unit:=()
def PySem.W.Fast.tw11154605826708600886:Unit:=()
def PySem.W.Fast.tw9065204458204373404:Unit:=()
def PySem.W.Fast.tw10329095011349999053:Unit:=()
def PySem.W.Fast.tw5524947005067232272:Unit:=()
def PySem.W.Fast.tw14464509328994336047:Unit:=()
def PySem.W.Fast.tw16167655585181507787:Unit:=()
def PySem.W.Fast.tw1509307507064615061:Unit:=()
def PySem.W.Fast.tw12849335154081861262:Unit:=()
def PySem.W.Fast.tw17920193888640141933:Unit:=()
def PySem.W.Fast.tw14365507669617672306:Unit:=()
def PySem.W.Fast.tw5649921085355507688:Unit:=()
def PySem.W.Fast.tw7438478566369440223:Unit:=()
def PySem.W.Fast.tw5959102993231627791:Unit:=()
def PySem.W.Fast.tw335877770621093311:Unit:=()
def PySem.W.Fast.tw14589959760478147856:Unit:=()
def PySem.W.Fast.tw9436310596701382027:Unit:=()
def PySem.W.Fast.tw980488253279485051:Unit:=()
def PySem.W.Fast.tw1952413637377189466:Unit:=()
def PySem.W.Fast.tw10170433892636336901:Unit:=()
def PySem.W.Fast.tw5468057020294823597:Unit:=()
def PySem.W.Fast.tw2843103159522269701:Unit:=()
def PySem.W.Fast.tw17048747248752002308:Unit:=()
def PySem.W.Fast.tw16306470454361224122:Unit:=()
def PySem.W.Fast.tw4937067415134318002:Unit:=()
def PySem.W.Fast.tw2347842117187786677:Unit:=()
def PySem.W.Fast.tw16771559297731293863:Unit:=()
def PySem.W.Fast.tw11861161204203606044:Unit:=()
def PySem.W.Fast.tw3159552314004904649:Unit:=()
def PySem.W.Fast.tw4803721233335425516:Unit:=()
def PySem.W.Fast.tw7686635583725470865:Unit:=()
def PySem.W.Fast.tw10709377181545990358:Unit:=()
def PySem.W.Fast.tw10304532596803716937:Unit:=()
def PySem.W.Fast.tw4063763500444682338:Unit:=()
def PySem.W.Fast.tw15404787638177449719:Unit:=()
def PySem.W.Fast.tw2309899185171127820:Unit:=()
def PySem.W.Fast.tw16782008975049357582:Unit:=()
def PySem.W.Fast.tw3917125292079517944:Unit:=()
def PySem.W.Fast.tw16485329409849010133:Unit:=()
def PySem.W.Fast.tw4442472088951859063:Unit:=()
def PySem.W.Fast.tw8179314206699884002:Unit:=()
def PySem.W.Fast.tw16948926177503200009:Unit:=()
def PySem.W.Fast.tw778110726994354929:Unit:=()
def PySem.W.Fast.tw16054459559717992724:Unit:=()
def PySem.W.Fast.tw16794064233418088298:Unit:=()
def PySem.W.Fast.tw14939771511539019397:Unit:=()
def PySem.W.Fast.tw8181740356557428556:Unit:=()
def PySem.W.Fast.tw10198877067706170717:Unit:=()
def PySem.W.Fast.tw8822620001900826669:Unit:=()
def PySem.W.Fast.tw3670236039701440798:Unit:=()
def PySem.W.Fast.tw13578468660502245059:Unit:=()
def PySem.W.Fast.tw11128697193031108662:Unit:=()
def PySem.W.Fast.tw10607804758860300587:Unit:=()
def PySem.W.Fast.tw9521541302458012573:Unit:=()
def PySem.W.Fast.tw1716630759555581065:Unit:=()
def PySem.W.Fast.tw4421643849847879632:Unit:=()
def PySem.W.Fast.tw16244781028163328852:Unit:=()
def PySem.W.Fast.tw17340270717254951787:Unit:=()
def PySem.W.Fast.tw17938255768012892206:Unit:=()
def PySem.W.Fast.tw11705464758925494165:Unit:=()
def PySem.W.Fast.tw12521211341443900590:Unit:=()
def PySem.W.Fast.tw15167251770730696552:Unit:=()
def PySem.W.Fast.tw3796448425621291365:Unit:=()
def PySem.W.Fast.tw18153487573101228045:Unit:=()
def PySem.W.Fast.tw1482653819083438861:Unit:=()
def PySem.W.Fast.tw930642284846286591:Unit:=()
def PySem.W.Fast.tw7954752464271000027:Unit:=()
def PySem.W.Fast.tw1189210522849345059:Unit:=()
def PySem.W.Fast.tw13075249750476325306:Unit:=()
def PySem.W.Fast.tw181235499345455682:Unit:=()
def PySem.W.Fast.tw2464609842897753091:Unit:=()
def PySem.W.Fast.tw1312689742175591910:Unit:=()
def PySem.W.Fast.tw14386355068759673170:Unit:=()
def PySem.W.Fast.tw16642201249172990020:Unit:=()
def PySem.W.Fast.tw6379946037382753469:Unit:=()
def PySem.W.Fast.tw9657540042364663708:Unit:=()
def PySem.W.Fast.tw3614215637391482600:Unit:=()
def PySem.W.Fast.tw15221050582966620456:Unit:=()
def PySem.W.Fast.tw762085260171419393:Unit:=()
def PySem.W.Fast.tw7682148460601710664:Unit:=()
def PySem.W.Fast.tw14349396999790500226:Unit:=()
def PySem.W.Fast.tw18053000462092229076:Unit:=()
def PySem.W.Fast.tw5762000538755088593:Unit:=()
namespace Lk73
open PySem PySem.W PyProof.Rows
set_option maxHeartbeats 0 in
open_top head for PySem.Challenge.rw_glazework_k73_whole_back_and_twins
end Lk73
open PySem PySem.W PyProof.Rows
set_option maxRecDepth 100000 in
set_option maxHeartbeats 0 in
theorem PySem.Challenge.cw_glazework_k73_whole_back_and_twins_holds : PySem.Challenge.rw_glazework_k73_whole_back_and_twins.Holds := by
 refine Lk73.head ?_
 k_fill
 refine Lk73.bX5 (l:=PySem.Challenge.rw_glazework_k73_whole_back_and_twins) rfl rfl (fun w h Y=>PySem.W.kIn_of Y) rfl ?F ?Q Lk73.main
 case F =>
  intro w mg h KX G
  refine' Lk73.zmd KX G ?p0 ?r0 ?z0 ?z1 ?z2 ?z3 ?z4 ?z5 ?z6
  (case p0=>k_is);(case r0=>k_is);(case z0=>k_is);(case z1=>k_is);(case z2=>k_is);(case z3=>k_is);(case z4=>k_is);(case z5=>k_is);(case z6=>k_is)
 case Q =>
  intro w
  constructor
  case h_cls =>
   refine' ⟨_,G.bP9 ?a ?b ?c ?pg ?hd ?po ?sa ?n1 ?n2 ?n3,?ms⟩
   (case a=>k_is);(case b=>k_is);(case c=>k_is);(case pg=>k_is);(case hd=>k_is);(case po=>k_is);(case sa=>k_is);(case n1=>k_is);(case n2=>k_is);(case n3=>k_is)
   case ms =>
    constructor
    all_goals (refine' G.cf5 ?a ?i ?l ?c ?k;(case a=>k_is);(case i=>k_is);(case l=>k_is);(case c=>k_is);(case k=>k_is))
  all_goals (refine' G.cf6 ?a ?l ?c ?k;(case a=>k_is);(case l=>k_is);(case c=>k_is);(case k=>k_is))
