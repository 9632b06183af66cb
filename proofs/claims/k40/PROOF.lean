import PyProof.Rows.All
import Wide.All
import OpenK.AllK
import Wide.FinOn
import Lean
import PyProof.EqAt
import PyProof.EqKinds
import PyProof.TupleCall
import PySem.Challenge.RW_glazework_k40_needless
set_option compiler.extract_closed false
noncomputable section
set_option Elab.async false
set_option linter.all false
set_option maxRecDepth 100000
theorem xbo{α β:Type}{o:Option α}{f:α->Option β}{b:β}(h:o.bind f=some b):∃a,o=some a/\f a=some b:=Option.bind_eq_some_iff.mp h
theorem xmo{α β:Type}{o:Option α}{f:α->β}{b:β}(h:o.map f=some b):∃a,o=some a/\f a=b:=Option.map_eq_some_iff.mp h
theorem xmm{α:Type}{a:α}{l:List α}(b:α)(h:a∈l):a∈b::l:=List.mem_cons_of_mem b h
namespace L2
open PySem PySem.Spec PyProof.Rows
noncomputable abbrev Key:=Sum Int Str
noncomputable def bU2:Key->Value->Bool
 | .inl k,v=>Value.isInt k v
 | .inr x,v=>Value.isStrOf x v
noncomputable def cv9(w:World):Key->Int
 | .inl k=>hashInt k
 | .inr x=>hashStr w x
theorem Q3:∀{k:Key}{v:Value},bU2 k v=true->(∃i t,k=Sum.inl i/\v=Value.int i t)\/(∃x t,k=Sum.inr x/\v=Value.str x t)
 | .inl i,v,h=>by
  obtain⟨t,e⟩:=Value.isInt_shape (k:=i) (v:=v) h
  exact .inl ⟨i,t,rfl,e⟩
 | .inr x,v,h=>by
  obtain⟨t,e⟩:=Value.isStrOf_shape (x:=x) (v:=v) h
  exact .inr ⟨x,t,rfl,e⟩
theorem cd4(a b:Int):decide ((Sum.inl a:Key)=Sum.inl b)=(a==b):=by
 by_cases e:a=b
 ·subst e;simp
 ·have h:¬(Sum.inl a:Key)=Sum.inl b:=fun q=>e (Sum.inl.inj q)
  rw[decide_eq_false h]
  exact(beq_eq_false_iff_ne.mpr e).symm
theorem cd1(a b:Str):decide ((Sum.inr a:Key)=Sum.inr b)=decide (a=b):=by
 by_cases e:a=b
 ·subst e;simp
 ·have h:¬(Sum.inr a:Key)=Sum.inr b:=fun q=>e (Sum.inr.inj q)
  rw[decide_eq_false h,decide_eq_false e]
theorem cd3(a:Int) (b:Str):decide ((Sum.inl a:Key)=Sum.inr b)=false:=decide_eq_false (fun q=>nomatch q)
theorem cd2(a:Str) (b:Int):decide ((Sum.inr a:Key)=Sum.inl b)=false:=decide_eq_false (fun q=>nomatch q)
noncomputable def aJ6(prog:Program) (w:World):PySem.KeyKind prog w Key where
 is:=bU2
 hash:=cv9 w
 inj:=fun v a b ha hb=>by
  rcases Q3 ha with⟨i,t,rfl,rfl⟩|⟨x,t,rfl,rfl⟩
  ·rcases Q3 hb with⟨j,u,rfl,e⟩|⟨y,u,rfl,e⟩
   ·injection e with e1 _;rw[e1]
   ·exact nomatch e
  ·rcases Q3 hb with⟨j,u,rfl,e⟩|⟨y,u,rfl,e⟩
   ·exact nomatch e
   ·injection e with e1 _;rw[e1]
 byValue:=fun k v h=>by rcases Q3 h with⟨i,t,rfl,rfl⟩|⟨x,t,rfl,rfl⟩<;>rfl
 pyHash:=fun hv h=>by
  rcases Q3 hv with⟨i,t,rfl,rfl⟩|⟨x,t,rfl,rfl⟩
  ·exact wpAny_pyHash_int h
  ·exact wpAny_pyHash_str h
 eqBool:=fun hu hv h=>by
  rcases Q3 hu with⟨i,t,rfl,rfl⟩|⟨x,t,rfl,rfl⟩
  ·rcases Q3 hv with⟨j,u,rfl,rfl⟩|⟨y,u,rfl,rfl⟩
   ·rw[cd4]at h;exact wpAny_eqBool_int h
   ·rw[cd3]at h;exact SeqAt.EqAt.int_str i t y u _ _ _ _ h
  ·rcases Q3 hv with⟨j,u,rfl,rfl⟩|⟨y,u,rfl,rfl⟩
   ·rw[cd2]at h;exact SeqAt.EqAt.str_int x t j u _ _ _ _ h
   ·rw[cd1]at h;exact wpAny_eqBool_str h
 «strs»:=fun k x t v h=>by
  rcases Q3 h with⟨i,u,rfl,e⟩|⟨y,u,rfl,e⟩
  ·exact nomatch e
  ·injection e with e1 _
   subst e1
   cases v<;>rfl
inductive V where
 | non|bl (b:Bool)|int (i:Int)|str (x:Str)|byt (b:Array UInt8)|flt (b:UInt64)|ref (a:Addr)|ty (n:String)
 deriving DecidableEq
noncomputable def O2:V->Value->Prop
 | .non,u=>u=Value.none
 | .bl b,u=>u=Value.bool b
 | .int i,u=>∃t,u=Value.int i t
 | .str x,u=>∃t,u=Value.str x t
 | .byt b,u=>∃t,u=Value.bytes b t
 | .flt b,u=>∃t,u=Value.float b t
 | .ref a,u=>u=Value.ref a
 | .ty n,u=>u=Value.type n
noncomputable abbrev M0:List V->List Value->Prop:=Paired O2
theorem M0.length{xs:List V}{us:List Value}(r:M0 xs us):xs.length=us.length:=Paired.length r
theorem M0.get:∀{xs:List V}{us:List Value}{i:Nat}{x:V},M0 xs us->xs[i]? = some x->∃u,us[i]? = some u/\O2 x u
 | _,_,_,_,.nil,e=>by simp at e
 | _,_,0,_,.cons r _,e=>by simp at e;subst e;exact⟨_,rfl,r⟩
 | _,_,i+1,x,.cons _ t,e=>by
  obtain⟨u,h1,h2⟩:=M0.get (i:=i) (x:=x) t (by simpa using e)
  exact⟨u,by simpa using h1,h2⟩
theorem M0.append:∀{xs ys:List V}{us ws:List Value},M0 xs us->M0 ys ws->M0 (xs++ys) (us++ws)
 | _,_,_,_,.nil,s=>s
 | _,_,_,_,.cons r t,s=>.cons r (M0.append t s)
theorem M0.take:∀{xs:List V}{us:List Value}(n:Nat),M0 xs us->M0 (xs.take n) (us.take n)
 | _,_,0,_=>.nil
 | _,_,_+1,.nil=>.nil
 | _,_,n+1,.cons r t=>.cons r (M0.take n t)
theorem M0.drop:∀{xs:List V}{us:List Value}(n:Nat),M0 xs us->M0 (xs.drop n) (us.drop n)
 | _,_,0,r=>r
 | _,_,_+1,.nil=>.nil
 | _,_,n+1,.cons _ t=>M0.drop n t
noncomputable def ct3:Option V->Option Value->Prop
 | some v,some u=>O2 v u
 | none,none=>True
 | _,_=>False
noncomputable def KV{κ:Type}:List (κ×V)->List (κ×Value)->Prop:=Paired fun(p:κ×V) (q:κ×Value)=>p.1=q.1/\O2 p.2 q.2
noncomputable def kV:Key->V
 | .inl i=>.int i
 | .inr x=>.str x
inductive HO where
 /-- a list -/
 | lst (xs:List V)
 /-- a tuple (never changes) -/
 | tup (xs:List V)
 /-- a dict whose keys are ints and texts;one whose keys are tuples of ints and texts (the empty one is both) -/
 | dK (kvs:List (Key×V))|dT (kvs:List (List Key×V))
 /-- a set of ints: its members,its size -/
 | set (S:Int->Bool) (n:Nat)
 /-- an instance of the class at C,its dict at dx,its attributes -/
 | ins (C dx:Addr) (fs:List (Str×V))
 /-- the dict of the instance at x -/
 | own (x:Addr)
 /-- the dict of an exception -/
 | xd (fs:List (Str×V))
 /-- a bound method,f of x -/
 | met (f x:Addr)
 /-- a range object lo,lo+1,.. below hi -/
 | rng (lo hi:Int)
 /-- a thing that is known to the object (the script;a dict while a loop walks it): read,never written while it is so -/
 | frz (o:Obj) (u:HO)
 /-- a code object's table -/
 | tbl (ps:Array Value)
 /-- any other thing,by what is true of its one object (a def of one's own: SetO a S n:=HO.ext fun h=>..) -/
 | ext (φ:Heap->Prop)
noncomputable abbrev Hp:=Addr->Option HO
noncomputable def upd(H:Hp) (a:Addr) (o:HO):Hp:=fun b=>if b=a then some o else H b
theorem J9{H:Hp}{a:Addr}{o:HO}:upd H a o a=some o:=by unfold upd;rw[if_pos rfl]
theorem J0{H:Hp}{a b:Addr}{o:HO}(h:b≠a):upd H a o b=H b:=by unfold upd;rw[if_neg h]
theorem K2{H:Hp}{a b:Addr}{o:HO}(h:H a=some o) (h':H b=none):a≠b:=by intro e;subst e;rw[h]at h';cases h'
noncomputable def az3(h:Heap) (a:Addr) (items:Array Value):Prop:=∃o,h.get? a=some o/\o.cls=.type "tuple" /\ (∃n,o.data=.seq items n)/\o.dict=none
theorem az3.tup{h:Heap}{a:Addr}{items:Array Value}(p:az3 h a items):IsTup h a items:=let⟨o,e,c,d,_⟩:=p;⟨o,e,c,d⟩
theorem az3.new(h:Heap) (items:Array Value) (n:Nat:=0):az3 (h.push { cls:=.type "tuple", data:=.seq items n }) h.objs.size items:=⟨_,Heap.get?_push_size _ rfl,rfl,⟨_,rfl⟩,rfl⟩
section
variable (P:Program) (w:World)
noncomputable def V8(H:Hp) (h:Heap) (a:Addr):HO->Prop
 | .lst xs=>xs.length<=sizeLine/\∃(its:List Value) (n:Nat),M0 xs its/\h.get? a=some { cls:=.type "list", data:=.seq its.toArray n }
 | .tup xs=>xs.length<=sizeLine/\∃its:List Value,M0 xs its/\az3 h a its.toArray
 | .dK kvs=>kvs.length<=sizeLine/\(a==sysModules)=false/\∃vs,KV kvs vs/\h.DictOf (aJ6 P w) a vs
 | .dT kvs=>kvs.length<=sizeLine/\(a==sysModules)=false/\∃xs:List (List Key×Addr×Value),
   Paired (fun(p:List Key×V) (q:List Key×Addr×Value)=>p.1=q.1/\H q.2.1=some (.tup (p.1.map kV))/\O2 p.2 q.2.2) kvs xs /\
   ∃o es ep,h.get? a=some o/\o.ExactDict/\o.data=.dict es ep/\es.toList=xs.map (entryOfKey (tupleKind (aJ6 P w)))/\(xs.map (·.1)).Nodup
 | .set S n=>h.SetOf (intKind P w) a S n
 | .ins C dx fs=>H dx=some (.own a)/\fs.length<=1000/\dx≠a/\h.get? a=some (PySem.W.instObj C dx) /\
   ∃mA,h.Ns1 dx mA/\(∀f,ct3 (fs.lookup f) (mA f))/\PySem.Within mA (fs.map (·.1))
 | .own _=>∃o,h.get? a=some o
 | .xd fs=>∃mA,h.Ns1 a mA/\∀f,ct3 (fs.lookup f) (mA f)
 | .rng lo hi=>∃t u v,h.get? a=some { cls:=.type "range", data:=.fields #[.int lo t,.int hi u,.int 1 v] }
 | .frz o u=>h.get? a=some o/\V8 H h a u
 | .tbl ps=>h.get? a=some { cls:=.none,data:=.fields ps }
 | .met f x=>h.get? a=some (PySem.W.methodObj (.ref f) (.ref x))
 | .ext φ=>φ h/\(∃o,h.get? a=some o)/\∀h1 h2:Heap,φ h1->(∀o,h1.get? a=some o->h2.get? a=some o)->φ h2
noncomputable def HOk(H:Hp) (h:Heap):Prop:=∀a o,H a=some o->V8 P w H h a o
end
section
variable {P:Program}{w:World}{H H':Hp}{h h':Heap}{a:Addr}{o:HO}
theorem V8.lt(x:V8 P w H h a o):a < h.objs.size:=by
 cases o with
 | lst xs=>obtain⟨_,_,_,_,e⟩:=x;exact Heap.lt_size e
 | tup xs=>obtain⟨_,_,_,p⟩:=x;exact p.tup.lt
 | dK kvs=>obtain⟨_,_,_,_,o,_,_,e,_⟩:=x;exact Heap.lt_size e
 | dT kvs=>obtain⟨_,_,_,_,o,_,_,e,_⟩:=x;exact Heap.lt_size e
 | set S n=>obtain⟨o,_,_,_,e,_⟩:=x;exact Heap.lt_size e
 | ins C dx fs=>obtain⟨_,_,_,e,_⟩:=x;exact Heap.lt_size e
 | own y=>obtain⟨_,e⟩:=x;exact Heap.lt_size e
 | xd fs=>obtain⟨_,⟨_,_,_,e,_⟩,_⟩:=x;exact Heap.lt_size e
 | rng lo hi=>obtain⟨_,_,_,e⟩:=x;exact Heap.lt_size e
 | frz ob u=>obtain⟨e,_⟩:=x;exact Heap.lt_size e
 | tbl ps=>exact Heap.lt_size (show h.get? a=some _ from x)
 | met f y=>exact Heap.lt_size (show h.get? a=some _ from x)
 | ext φ=>obtain⟨_,⟨_,e⟩,_⟩:=x;exact Heap.lt_size e
theorem Paired.mapP{α β:Type}{F G:α->β->Prop}:∀{l₁:List α}{l₂:List β},Paired F l₁ l₂->(∀a b,F a b->G a b)->Paired G l₁ l₂
 | _,_,.nil,_=>.nil
 | _,_,.cons r t,f=>.cons (f _ _ r) (Paired.mapP t f)
theorem V8.stay(x:V8 P w H h a o) (k:∀b u,(b=a\/H b=some (.own a))->h.get? b=some u->h'.get? b=some u)
  (ho:∀b,H b=some (.own a)->H' b=some (.own a)) (ht:∀b xs,H b=some (.tup xs)->H' b=some (.tup xs)):V8 P w H' h' a o:=by
 induction o with
 | lst xs=>obtain⟨z,its,n,r,e⟩:=x;exact⟨z,its,n,r,k _ _ (.inl rfl) e⟩
 | tup xs=>obtain⟨z,its,r,ob,e,c⟩:=x;exact⟨z,its,r,ob,k _ _ (.inl rfl) e,c⟩
 | dK kvs=>obtain⟨z,y,vs,r,ob,es,ep,e,c⟩:=x;exact⟨z,y,vs,r,ob,es,ep,k _ _ (.inl rfl) e,c⟩
 | dT kvs =>
  obtain⟨z,y,xs,r,ob,es,ep,e,c⟩:=x
  exact⟨z,y,xs,Paired.mapP r fun p q z=>⟨z.1,ht _ _ z.2.1,z.2.2⟩,ob,es,ep,k _ _ (.inl rfl) e,c⟩
 | set S n=>obtain⟨ob,es,ep,t,e,c⟩:=x;exact⟨ob,es,ep,t,k _ _ (.inl rfl) e,c⟩
 | ins C dx fs =>
  obtain⟨d,z,ne,e,mA,⟨od,es,ep,e2,c⟩,r⟩:=x
  exact⟨ho _ d,z,ne,k _ _ (.inl rfl) e,mA,⟨od,es,ep,k _ _ (.inr d) e2,c⟩,r⟩
 | own y=>obtain⟨ob,e⟩:=x;exact⟨ob,k _ _ (.inl rfl) e⟩
 | xd fs=>obtain⟨mA,⟨od,es,ep,e,c⟩,r⟩:=x;exact⟨mA,⟨od,es,ep,k _ _ (.inl rfl) e,c⟩,r⟩
 | rng lo hi=>obtain⟨t,u,v,e⟩:=x;exact⟨t,u,v,k _ _ (.inl rfl) e⟩
 | frz ob u ih=>obtain⟨e,q⟩:=x;exact⟨k _ _ (.inl rfl) e,ih q⟩
 | tbl ps =>
  have e:h.get? a=some { cls:=.none,data:=.fields ps }:=x
  show h'.get? a=some { cls:=.none,data:=.fields ps }
  exact k a _ (.inl rfl) e
 | met f y =>
  have e:h.get? a=some (PySem.W.methodObj (.ref f) (.ref y)):=x
  show h'.get? a=some (PySem.W.methodObj (.ref f) (.ref y))
  exact k a _ (.inl rfl) e
 | ext φ=>obtain⟨p,⟨o,e⟩,st⟩:=x;exact⟨st _ _ p fun o q=>k _ _ (.inl rfl) q,⟨o,k _ _ (.inl rfl) e⟩,st⟩
theorem HOk.lt(x:HOk P w H h) (e:H a=some o):a < h.objs.size:=(x a o e).lt
theorem HOk.fresh(x:HOk P w H h) (e:h.objs.size<=a):H a=none:=by
 cases q:H a with
 | none=>rfl
 | some u=>exact absurd (Nat.lt_of_lt_of_le (x.lt q) e) (Nat.lt_irrefl _)
theorem HOk.kept(x:HOk P w H h) (k:∀b u,h.get? b=some u->h'.get? b=some u):HOk P w H h':=fun a o e =>(x a o e).stay (fun b u _ q=>k b u q) (fun _ q=>q) fun _ _ q=>q
theorem HOk.laid(x:HOk P w H h) (k:∀b u,h.get? b=some u->h'.get? b=some u) (hp:h.objs.size<=a) (new:V8 P w (upd H a o) h' a o):HOk P w (upd H a o) h':=fun b u e=>by
 have hn:=x.fresh hp
 by_cases hb:b=a
 ·subst hb;rw[J9]at e;cases e;exact new
 ·rw[J0 hb]at e
  exact(x b u e).stay (fun c v _ q=>k c v q) (fun c q=>by rw[J0 (K2 q hn)];exact q) fun c xs q=>by rw[J0 (K2 q hn)];exact q
end
noncomputable def Rd(H:Hp) (a:Addr) (u:HO):Prop:=H a=some u\/∃o,H a=some (.frz o u)
theorem Rd.ok{P:Program}{w:World}{H:Hp}{h:Heap}{a:Addr}{u:HO}(r:Rd H a u) (x:HOk P w H h):V8 P w H h a u:=by
 rcases r with r|⟨o,r⟩
 ·exact x a u r
 ·obtain⟨_,q⟩:=x a _ r
  exact q
noncomputable def Mut:Option HO->Prop
 | some (.lst _)=>True
 | some (.dK _)=>True
 | some (.dT _)=>True
 | some (.set _ _)=>True
 | some (.ins _ _ _)=>True
 | some (.ext _)=>True
 | _=>False
section
variable {P:Program}{w:World}{H:Hp}{h h':Heap}{x e:Addr}{o':HO}
theorem HOk.write(ok:HOk P w H h) (mu:Mut (H x)) (he:e=x\/H e=some (.own x)) (k:∀b u,b≠e->h.get? b=some u->h'.get? b=some u) (heo:∃u,h'.get? e=some u)
  (new:V8 P w (upd H x o') h' x o'):HOk P w (upd H x o') h':=fun b u q=>by
 have nown:∀c y,H c=some (.own y)->c≠x:=fun c y r z=>by subst z;rw[r]at mu;exact mu
 have ntup:∀c xs,H c=some (.tup xs)->c≠x:=fun c xs r z=>by subst z;rw[r]at mu;exact mu
 by_cases hb:b=x
 ·subst hb;rw[J9]at q;cases q;exact new
 ·rw[J0 hb]at q
  by_cases hbe:b=e
  ·have q':H b=some (.own x):=by
    rcases he with z|z
    ·exact absurd (hbe.trans z) hb
    ·rw[hbe];exact z
   rw[q]at q';cases q'
   obtain⟨v,hv⟩:=heo
   exact⟨v,by rw[hbe];exact hv⟩
  ·refine(ok b u q).stay (fun c v hc r=>k c v ?_ r) (fun c r=>by rw[J0 (nown c b r)];exact r) fun c xs r=>by rw[J0 (ntup c xs r)];exact r
   rcases hc with rfl|hc
   ·exact hbe
   ·rintro rfl
    rcases he with z|z
    ·exact nown c b hc z
    ·rw[hc]at z;cases z;exact hb rfl
end
structure Un (fs ex:List Addr) (H H':Hp) (h h':Heap):Prop where
 keep:∀b o,h.get? b=some o->H b=none->b∉fs->b∉ex->h'.get? b=some o
 slot:∀b o,h.get? b=some o->H b=none->b∈fs->b∉ex->∃sl,h'.get? b=some { o with slots:=sl }
 free:∀b o,h.get? b=some o->H b=none->b∉ex->H' b=none
 there:∀b o,h.get? b=some o->b∉ex->∃o',h'.get? b=some o'
 tups:∀b xs,H b=some (.tup xs)->H' b=some (.tup xs)
 frzs:∀b o u,H b=some (.frz o u)->H' b=some (.frz o u)
 tbls:∀b ps,H b=some (.tbl ps)->∃more,H' b=some (.tbl (ps++more))
section
variable {fs fs' ex ex':List Addr}{H H1 H2:Hp}{h h1 h2 h':Heap}{a x e:Addr}{o:HO}
theorem Un.any(u:Un fs ex H H1 h h1) {b:Addr}{ob:Obj}(q:h.get? b=some ob) (n:H b=none) (hx:b∉ex):∃sl,h1.get? b=some { ob with slots:=sl }:=by
 by_cases hb:b∈fs
 ·exact u.slot b ob q n hb hx
 ·exact⟨ob.slots,u.keep b ob q n hb hx⟩
theorem Un.kept(k:∀b u,h.get? b=some u->h'.get? b=some u):Un fs ex H H h h' :=
 ⟨fun b ob q _ _ _=>k b ob q,fun b ob q _ _ _=>⟨ob.slots,k b ob q⟩,fun _ _ _ n _=>n,fun b ob q _=>⟨ob,k b ob q⟩,fun _ _ q=>q,fun _ _ _ q=>q,fun _ ps q=>⟨#[],by rw[q];simp⟩⟩
theorem Un.refl:Un fs ex H H h h:=Un.kept fun _ _ q=>q
theorem Un.laid(k:∀b u,h.get? b=some u->h'.get? b=some u) (hp:h.objs.size<=a) (hn:H a=none):Un fs ex H (upd H a o) h h' where
 keep:=fun b u q _ _ _=>k b u q
 slot:=fun b u q _ _ _=>⟨u.slots,k b u q⟩
 free:=fun b u q n _=>by rw[J0 (Nat.ne_of_lt (Nat.lt_of_lt_of_le (Heap.lt_size q) hp))];exact n
 there:=fun b u q _=>⟨u,k b u q⟩
 tups:=fun b xs q=>by rw[J0 (K2 q hn)];exact q
 frzs:=fun b u xs q=>by rw[J0 (K2 q hn)];exact q
 tbls:=fun b ps q=>⟨#[],by rw[J0 (K2 q hn),q];simp⟩
theorem Un.write(mu:Mut (H x)) (he:e=x\/H e=some (.own x)) (k:∀b u,b≠e->h.get? b=some u->h'.get? b=some u) (heo:∃u,h'.get? e=some u):Un fs ex H (upd H x o) h h':=by
 have hx:∀b,H b=none->b≠x:=fun b n z=>by subst z;rw[n]at mu;exact mu
 have hb:∀b,H b=none->b≠e:=fun b n z=>by
  subst z
  rcases he with r|r
  ·exact hx b n r
  ·rw[n]at r;cases r
 have hm:∀b u,H b=some u->¬Mut (some u)->b≠x:=fun b u q nm z=>by subst z;rw[q]at mu;exact nm mu
 refine⟨fun b u q n _ _=>k b u (hb b n) q,fun b u q n _ _=>⟨u.slots,k b u (hb b n) q⟩,fun b u q n _=>by rw[J0 (hx b n)];exact n,fun b u q _=>?_,
  fun b xs q=>by rw[J0 (hm b _ q fun z=>z)];exact q,fun b u xs q=>by rw[J0 (hm b _ q fun z=>z)];exact q,fun b ps q=>⟨#[],by rw[J0 (hm b _ q fun z=>z),q];simp⟩⟩
 by_cases hbe:b=e
 ·subst hbe;exact heo
 ·exact⟨u,k b u hbe q⟩
end
noncomputable def trk(h:Heap) (H:Hp):List Addr:=(List.range h.objs.size).filter fun a=>(H a).isSome
noncomputable def aK6(h:Heap) (H:Hp):Heap:=PySem.W.hideAll h (trk h H)
theorem bl9(h:Heap) (H:Hp):(aK6 h H).objs.size=h.objs.size:=PySem.W.hideAll_size _ _
theorem bB9{h:Heap}{H:Hp}{b:Addr}{o:Obj}(e:h.get? b=some o) (n:H b=none):(aK6 h H).get? b=some o :=
 PySem.W.hideAll_get _ e fun hm=>by
  have q:(H b).isSome=true:=(List.mem_filter.mp hm).2
  rw[n]at q;simp at q
theorem bM2{h:Heap}{H:Hp}{b:Addr}{o:Obj}(e:(aK6 h H).get? b=some o):h.get? b=some o/\H b=none:=by
 have e':h.get? b=some o:=PySem.W.of_hideAll (trk h H) e
 refine⟨e',?_⟩
 cases q:H b with
 | none=>rfl
 | some x =>
  have hm:b∈trk h H:=List.mem_filter.mpr ⟨List.mem_range.mpr (Heap.lt_size e'),by simp[q]⟩
  have z:(aK6 h H).get? b=none:=PySem.W.hideAll_none (trk h H) hm
  rw[z]at e;cases e
noncomputable def bS4(g h:Heap) (L:Addr):List (Addr×Obj):=(List.range h.objs.size).filterMap fun a=>if a=L\/(g.get? a).isSome=true then none else(h.get? a).map fun o=>(a,o)
noncomputable def U8(g h:Heap) (L d:Addr):List (Addr×Obj):=(bS4 g h L).filter fun p=>decide (p.1≠d)
structure Mod (K:PySem.W.Frag) (mg:Str->Option Value) (base:Heap):Prop where
 kin:K.In base
 glob:base.Ns mainGlobals mg
 blt:∃mb,base.Ns builtinsNs mb/\∀x:Str,x ≠ "__name__" -> mb x=bootBuiltins x
 nolimit:base.NoLimit
structure Cx where
 prog:Program
 w:World
 K:PySem.W.Frag
 mg:Str->Option Value
 base:Heap
 A:Around
 N:List Str
 s₀:Shared
 H₀:Hp
 env:Env
 outer:List Env
 stack:List Env
 ex:List Addr
 fn:Str->Bool
 calm:Bool
 pn:List (Addr×Obj)
 xe:Value->Shared->Prop
noncomputable def frs(l:List Env):List Addr:=l.filterMap (·.frame)
noncomputable abbrev Cx.fs(X:Cx):List Addr:=frs X.outer
noncomputable def Vis(sc:Scope) (x:Str):Prop:=sc.names.lookup x=some .local\/sc.names.lookup x=some .cell\/sc.names.lookup x=some .free
noncomputable def Loc(sc:Scope) (x:Str):Prop:=sc.names.lookup x=some .local\/sc.names.lookup x=some .cell
noncomputable def cx4(env:Env) (h:Heap) (m:Str->Option Value) (x:Str) (u:Value):Prop :=
 (env.kindOf x=some .local/\m x=some u)\/((env.kindOf x=some .cell\/env.kindOf x=some .free)/\∃c,env.cells.lookup x=some c/\h.IsCell c (some u))
structure Cx.Ok (X:Cx):Prop where
 mod:Mod X.K X.mg X.base
 kind:X.env.scope.kind=.function
 glob:X.env.globals=mainGlobals
 blt:X.env.builtins=builtinsNs
 above:X.s₀.heap.objs.size<=X.env.locals
 inj:∀x y c,X.env.cells.lookup x=some c->X.env.cells.lookup y=some c->x=y
 has:∀x,(X.env.kindOf x=some .cell\/X.env.kindOf x=some .free)->∃c,X.env.cells.lookup x=some c
 cab:∀x c,X.fn x=true->X.env.cells.lookup x=some c->X.s₀.heap.objs.size<=c
 hd:X.calm=true->X.A.handled=none
 frames:X.A.frames=some X.stack
 stk:X.stack=X.outer\/(X.stack=X.env::X.outer/\X.env.frame=some X.env.locals)
 exf:∀b∈X.ex,b≠X.env.locals/\∀x c,X.env.cells.lookup x=some c->c≠b
 bs:∀b o,X.base.get? b=some o->X.s₀.heap.get? b=some o/\X.H₀ b=none
 bsz:X.base.objs.size<=X.s₀.heap.objs.size
 noex:∀b o,X.base.get? b=some o->b∉X.ex
 exfs:∀b∈X.ex,b∉X.fs
 funs:X.s₀.heap.FunFrames X.base X.outer
 frf:∀b∈X.fs,X.H₀ b=none
structure Inv (X:Cx) (pins:List (Addr×Obj)) (σ:List (Option V)) (H:Hp) (s:Shared):Prop where
 ok:X.Ok
 os:s.os=X.s₀.os
 bare:AllBare s.gens
 base:Un X.fs X.ex X.H₀ H X.s₀.heap s.heap
 loc:∃m,s.heap.Ns X.env.locals m/\∀(i:Nat) (x:Str) (v:V),X.N[i]? = some x->σ[i]? = some (some v)->Vis X.env.scope x->∃u,O2 v u/\cx4 X.env s.heap m x u
 cell:∀x c,X.env.cells.lookup x=some c->∃v,s.heap.IsCell c v
 free:H X.env.locals=none
 freeC:∀x c,X.env.cells.lookup x=some c->H c=none
 pin:∀p∈X.pn++pins,s.heap.get? p.1=some p.2/\H p.1=none/\p.1≠X.env.locals/\p.1∉X.fs/\∀v,p.2.data≠.cell v
 hok:HOk X.prog X.w H s.heap
 len:σ.length=X.N.length
section
variable {X:Cx}{pins:List (Addr×Obj)}{σ:List (Option V)}{H H':Hp}{s:Shared}{h':Heap}
theorem Cx.Ok.nofr(ok:X.Ok) {b:Addr}{o:Obj}(e:X.base.get? b=some o):b∉X.fs:=fun hb=>by
 have:=(ok.funs.mem hb).1
 rw[e]at this;cases this
theorem Inv.bs(I:Inv X pins σ H s):∀b o,X.base.get? b=some o->s.heap.get? b=some o/\H b=none:=fun b o e =>⟨I.base.keep b o (I.ok.bs b o e).1 (I.ok.bs b o e).2 (I.ok.nofr e) (I.ok.noex b o e),I.base.free b o (I.ok.bs b o e).1 (I.ok.bs b o e).2 (I.ok.noex b o e)⟩
theorem Inv.bk(I:Inv X pins σ H s):∀b o,X.base.get? b=some o->s.heap.get? b=some o:=fun b o e=>(I.bs b o e).1
theorem Inv.mod(I:Inv X pins σ H s):Mod X.K X.mg X.base:=I.ok.mod
theorem Inv.kIn(I:Inv X pins σ H s):X.K.In s.heap:=I.ok.mod.kin.keeps I.bk
theorem Inv.lt(I:Inv X pins σ H s):X.env.locals < s.heap.objs.size:=let⟨_,hn,_⟩:=I.loc;hn.lt
theorem Inv.sz(I:Inv X pins σ H s):X.s₀.heap.objs.size<=s.heap.objs.size:=Nat.le_trans I.ok.above (Nat.le_of_lt I.lt)
theorem Inv.nofs(I:Inv X pins σ H s) {a:Addr}(h:s.heap.objs.size<=a):a∉X.fs:=fun hb=>by
 obtain⟨_,o,ho,_⟩:=I.ok.funs.mem hb
 exact absurd (Nat.lt_of_lt_of_le (Heap.lt_size ho) (Nat.le_trans I.sz h)) (Nat.lt_irrefl _)
theorem Inv.cne(I:Inv X pins σ H s):∀x c,X.env.cells.lookup x=some c->c≠X.env.locals:=fun x c e z=>by
 obtain⟨v,o,ho,hd⟩:=I.cell x c e
 obtain⟨m,⟨o',es,ep,ho',hd',_⟩,_⟩:=I.loc
 rw[z,ho']at ho;cases ho;rw[hd']at hd;cases hd
theorem Inv.funs(I:Inv X pins σ H s):s.heap.FunFrames X.base X.outer:=by
 have all:∀(l:List Env),(∀b∈frs l,b∈X.fs)->X.s₀.heap.FunFrames X.base l->s.heap.FunFrames X.base l:=by
  intro l
  induction l with
  | nil=>intro _ _;trivial
  | cons env r ih =>
   intro hs hl
   obtain⟨hk,⟨L,o,hf,hn,ho,hd⟩,hr⟩:=hl
   have hL:L∈X.fs:=hs L (by unfold frs;rw[List.filterMap_cons,hf];exact List.mem_cons_self)
   obtain⟨sl,e⟩:=I.base.slot L o ho (I.ok.frf L hL) hL fun z=>I.ok.exfs L z hL
   exact⟨hk,⟨L,_,hf,hn,e,hd⟩,ih (fun b hb=>hs b (by unfold frs;rw[List.filterMap_cons,hf];exact xmm _ hb)) hr⟩
 exact all X.outer (fun _ hb=>hb) I.ok.funs
theorem Inv.stack(I:Inv X pins σ H s):s.heap.FunFrames X.base X.stack:=by
 rcases I.ok.stk with e|⟨e,hf⟩
 ·rw[e];exact I.funs
 ·rw[e]
  obtain⟨m,hn,_⟩:=I.loc
  refine .cons (by rw[I.ok.kind];decide) hf hn ?_ I.funs
  exact Heap.get?_none_of_le (Nat.le_trans I.ok.bsz I.ok.above)
theorem Inv.stkSub(I:Inv X pins σ H s):∀b∈frs X.stack,b∈X.env.locals::X.fs:=fun b hb=>by
 rcases I.ok.stk with e|⟨e,hf⟩
 ·rw[e]at hb;exact xmm _ hb
 ·rw[e]at hb
  unfold frs at hb
  rw[List.filterMap_cons,hf]at hb
  exact hb
theorem Inv.stkFree(I:Inv X pins σ H s):∀b∈frs X.stack,H b=none:=fun b hb=>by
 rcases List.mem_cons.mp (I.stkSub b hb) with e|hb
 ·rw[e];exact I.free
 ·obtain⟨_,o,ho,_⟩:=I.ok.funs.mem hb
  exact I.base.free b o ho (I.ok.frf b hb) fun z=>I.ok.exfs b z hb
theorem Inv.step{g':Array GenState}{t':Nat}{d':Drawn}{ch:List Addr}(I:Inv X pins σ H s)
  (hch:∀b∈ch,(b∈X.ex\/X.s₀.heap.objs.size<=b)/\b≠X.env.locals/\(∀x c,X.env.cells.lookup x=some c->c≠b)/\∀p∈X.pn++pins,p.1≠b)
  (keep:∀b o,b≠X.env.locals->b∉X.fs->b∉ch->s.heap.get? b=some o->H b=none->h'.get? b=some o)
  (slot:∀b o,b≠X.env.locals->b∈X.fs->b∉ch->s.heap.get? b=some o->H b=none->∃sl,h'.get? b=some { o with slots:=sl }) (free:∀b o,b∉ch->s.heap.get? b=some o->H b=none->H' b=none)
  (there:∀b o,b∉ch->s.heap.get? b=some o->∃o',h'.get? b=some o')
  (tups:∀b xs,H b=some (.tup xs)->H' b=some (.tup xs)) (frzs:∀b o u,H b=some (.frz o u)->H' b=some (.frz o u)) (tbls:∀b ps,H b=some (.tbl ps)->∃more,H' b=some (.tbl (ps++more)))
  (ns:∀m,s.heap.Ns X.env.locals m->h'.Ns X.env.locals m) (hok:HOk X.prog X.w H' h') (hg:AllBare g') :
  Inv X pins σ H' { s with heap:=h',gens:=g',drawn:=d',toks:=t' }:=by
 have neL:∀b o,X.s₀.heap.get? b=some o->b≠X.env.locals:=fun b o e=>Nat.ne_of_lt (Nat.lt_of_lt_of_le (Heap.lt_size e) I.ok.above)
 have neC:∀b o,X.s₀.heap.get? b=some o->b∉X.ex->b∉ch:=fun b o e hx hb=>by
  rcases(hch b hb).1 with z|z
  ·exact hx z
  ·exact absurd (Nat.lt_of_lt_of_le (Heap.lt_size e) z) (Nat.lt_irrefl _)
 have cellK:∀x c,X.env.cells.lookup x=some c->∀v,s.heap.IsCell c v->h'.IsCell c v:=fun x c e v ⟨o,ho,hd⟩=>by
  have nch:c∉ch:=fun z=>(hch c z).2.2.1 x c e rfl
  by_cases hc:c∈X.fs
  ·obtain⟨sl,q⟩:=slot c o (I.cne x c e) hc nch ho (I.freeC x c e)
   exact⟨_,q,hd⟩
  ·exact⟨o,keep c o (I.cne x c e) hc nch ho (I.freeC x c e),hd⟩
 refine⟨I.ok,I.os,hg,⟨fun b o e n hb hx=>?_,fun b o e n hb hx=>?_,fun b o e n hx=>?_,fun b o e hx=>?_,fun b xs e=>tups b xs (I.base.tups b xs e),fun b o xs e=>frzs b o xs (I.base.frzs b o xs e),fun b ps e=>?_⟩,?_,fun x c e=>?_,?_,fun x c e=>?_,fun p hp=>?_,hok,I.len⟩
 ·exact keep b o (neL b o e) hb (neC b o e hx) (I.base.keep b o e n hb hx) (I.base.free b o e n hx)
 ·obtain⟨sl,e1⟩:=I.base.slot b o e n hb hx
  obtain⟨sl',e2⟩:=slot b _ (neL b o e) hb (neC b o e hx) e1 (I.base.free b o e n hx)
  exact⟨sl',e2⟩
 ·obtain⟨o',e1⟩:=I.base.there b o e hx
  exact free b o' (neC b o e hx) e1 (I.base.free b o e n hx)
 ·obtain⟨o',e1⟩:=I.base.there b o e hx
  exact there b o' (neC b o e hx) e1
 ·obtain⟨m1,e1⟩:=I.base.tbls b ps e
  obtain⟨m2,e2⟩:=tbls b _ e1
  exact⟨m1++m2,by rw[e2,Array.append_assoc]⟩
 ·obtain⟨m,hn,hl⟩:=I.loc
  refine⟨m,ns m hn,fun i x v e1 e2 e3=>?_⟩
  obtain⟨u,r,l⟩:=hl i x v e1 e2 e3
  refine⟨u,r,?_⟩
  rcases l with l|⟨k,c,e,z⟩
  ·exact .inl l
  ·exact .inr ⟨k,c,e,cellK x c e _ z⟩
 ·obtain⟨v,z⟩:=I.cell x c e
  exact⟨v,cellK x c e v z⟩
 ·obtain⟨m,⟨o,_,_,ho,_⟩,_⟩:=I.loc
  exact free _ o (fun z=>(hch _ z).2.1 rfl) ho I.free
 ·obtain⟨v,o,ho,hd⟩:=I.cell x c e
  exact free c o (fun z=>(hch c z).2.2.1 x c e rfl) ho (I.freeC x c e)
 ·obtain⟨e,n,ne,nf,d⟩:=I.pin p hp
  have nch:p.1∉ch:=fun z=>(hch p.1 z).2.2.2 p hp rfl
  exact⟨keep p.1 p.2 ne nf nch e n,free p.1 p.2 nch e n,ne,nf,d⟩
theorem Inv.un{t':Nat}(I:Inv X pins σ H s) (u:Un X.fs [] H H' s.heap h') (hok:HOk X.prog X.w H' h'):Inv X pins σ H' { s with heap:=h',toks:=t' }:=by
 obtain⟨m,⟨o,es,ep,ho,r⟩,_⟩:=id I.loc
 obtain⟨sl,hL⟩:=u.any ho I.free (by simp)
 exact I.step (g':=s.gens) (d':=s.drawn) (ch:=[]) (fun _ z=>nomatch z) (fun b o _ hb _ e n=>u.keep b o e n hb (by simp)) (fun b o _ hb _ e n=>u.slot b o e n hb (by simp)) (fun b o _ e n=>u.free b o e n (by simp)) (fun b o _ e=>u.there b o e (by simp)) u.tups u.frzs u.tbls (fun m' hm=>by
  obtain⟨o',es',ep',ho',r'⟩:=hm
  rw[ho]at ho';cases ho'
  exact⟨_,es',ep',hL,r'⟩) hok I.bare
theorem Inv.call{g':Array GenState}{t':Nat}{d':Drawn}{ch:List Addr}(I:Inv X pins σ H s) (u:Un (frs X.stack) ch H H' s.heap h') (hok:HOk X.prog X.w H' h') (hg:AllBare g')
  (hch:∀b∈ch,(b∈X.ex\/X.s₀.heap.objs.size<=b)/\b≠X.env.locals/\(∀x c,X.env.cells.lookup x=some c->c≠b)/\∀p∈X.pn++pins,p.1≠b) :
  Inv X pins σ H' { s with heap:=h',gens:=g',drawn:=d',toks:=t' }:=by
 obtain⟨m,⟨o,es,ep,ho,r⟩,_⟩:=id I.loc
 obtain⟨sl,hL⟩:=u.any ho I.free fun z=>(hch _ z).2.1 rfl
 exact I.step (ch:=ch) hch (fun b o hL hb hc e n=>u.keep b o e n (fun z=>(List.mem_cons.mp (I.stkSub b z)).elim hL hb) hc) (fun b o _ _ hc e n=>u.any e n hc) (fun b o hc e n=>u.free b o e n hc) (fun b o hc e=>u.there b o e hc) u.tups u.frzs u.tbls (fun m' hm=>by
  obtain⟨o',es',ep',ho',r'⟩:=hm
  rw[ho]at ho';cases ho'
  exact⟨_,es',ep',hL,r'⟩) hok hg
theorem Inv.turned{t':Nat}{it:Addr}(I:Inv X pins σ H s) (k:∀b o,b≠it->s.heap.get? b=some o->h'.get? b=some o) (hn:H it=none) (hL:it≠X.env.locals)
  (h1:it∈X.ex\/X.s₀.heap.objs.size<=it) (h2:∀x c,X.env.cells.lookup x=some c->c≠it) (h3:∀p∈X.pn++pins,p.1≠it):Inv X pins σ H { s with heap:=h',toks:=t' }:=by
 have nit:∀b u,H b=some u->b≠it:=fun b u e z=>by rw[z,hn]at e;cases e
 refine I.step (g':=s.gens) (d':=s.drawn) (ch:=[it]) (fun b hb=>?_) (fun b o _ _ hc e _=>k b o (fun z=>hc (by simp[z])) e) (fun b o _ _ hc e _=>⟨o.slots,k b o (fun z=>hc (by simp[z])) e⟩) (fun _ _ _ _ n=>n)
  (fun b o hc e=>⟨o,k b o (fun z=>hc (by simp[z])) e⟩) (fun _ _ e=>e) (fun _ _ _ e=>e) (fun b ps e=>⟨#[],by rw[e];simp⟩) (fun m hm=>?_) (fun b u e=>?_) I.bare
 ·have e:b=it:=by simpa using hb
  subst e
  exact⟨h1,hL,h2,h3⟩
 ·obtain⟨o,es,ep,ho,r⟩:=hm
  exact⟨o,es,ep,k _ o (Ne.symm hL) ho,r⟩
 ·refine(I.hok b u e).stay (fun c v hc q=>k c v ?_ q) (fun _ q=>q) fun _ _ q=>q
  rcases hc with z|z
  ·rw[z];exact nit b u e
  ·exact nit c _ z
theorem Inv.tok(I:Inv X pins σ H s) (t:Nat):Inv X pins σ H { s with toks:=t }:=I.un (h':=s.heap) (t':=t) Un.refl I.hok
theorem Inv.kept{t':Nat}(I:Inv X pins σ H s) (k:∀b u,s.heap.get? b=some u->h'.get? b=some u):Inv X pins σ H { s with heap:=h',toks:=t' }:=I.un (Un.kept k) (I.hok.kept k)
theorem Inv.laid{a:Addr}{o:HO}{t':Nat}(I:Inv X pins σ H s) (k:∀b u,s.heap.get? b=some u->h'.get? b=some u) (hp:s.heap.objs.size<=a) (new:V8 X.prog X.w (upd H a o) h' a o) :
  Inv X pins σ (upd H a o) { s with heap:=h',toks:=t' }:=I.un (Un.laid k hp (I.hok.fresh hp)) (I.hok.laid k hp new)
theorem Inv.write{x e:Addr}{o:HO}{t':Nat}(I:Inv X pins σ H s) (mu:Mut (H x)) (he:e=x\/H e=some (.own x)) (k:∀b u,b≠e->s.heap.get? b=some u->h'.get? b=some u) (heo:∃u,h'.get? e=some u)
  (new:V8 X.prog X.w (upd H x o) h' x o):Inv X pins σ (upd H x o) { s with heap:=h',toks:=t' }:=I.un (Un.write mu he k heo) (I.hok.write mu he k heo new)
theorem Inv.pins_of{pins':List (Addr×Obj)}(I:Inv X pins σ H s) (h:∀p∈pins',s.heap.get? p.1=some p.2/\H p.1=none/\p.1≠X.env.locals/\p.1∉X.fs/\∀v,p.2.data≠.cell v):Inv X pins' σ H s :=
 ⟨I.ok,I.os,I.bare,I.base,I.loc,I.cell,I.free,I.freeC,fun p hp=>(List.mem_append.mp hp).elim (fun z=>I.pin p (List.mem_append_left _ z)) (h p),I.hok,I.len⟩
theorem aP5{N:List Str}(hN:N.Nodup) {i j:Nat}{x:Str}(a:N[i]? = some x) (b:N[j]? = some x):i=j:=by
 obtain⟨h1,e1⟩:=List.getElem?_eq_some_iff.mp a
 obtain⟨h2,e2⟩:=List.getElem?_eq_some_iff.mp b
 exact(List.getElem_inj hN).mp (e1.trans e2.symm)
theorem aD3{M:Model}{A:Around}{E:Value->Shared->Prop}{i:Nat}{x:Str}{v:V}{u:Value}{Q:Unit->Shared->Prop}(I:Inv X pins σ H s) (hN:X.N.Nodup) (hi:X.N[i]? = some x) (hx:Loc X.env.scope x) (r:O2 v u)
  (h:∀s',Inv X pins (σ.set i (some v)) H s'->(∃a,Heap.SameBut a s.heap s'.heap/\(a=X.env.locals\/X.env.cells.lookup x=some a))->Q () s') (hf:X.fn x=true\/X.env.scope.names.lookup x=some .local:=by first|exact .inl rfl|exact .inr rfl|assumption):wpAny M A (storeName X.env x u) Q E s:=by
 obtain⟨m,hn,hl⟩:=id I.loc
 have hcls:(X.env.scope.kind == .class || (X.env.scope.kind == .module&&X.env.locals != X.env.globals))=false:=by rw[I.ok.kind];rfl
 have hiσ:i < σ.length:=by rw[I.len];exact(List.getElem?_eq_some_iff.mp hi).1
 have cne:=I.cne
 have tracked:∀{a:Addr}{h':Heap},(∃o,s.heap.get? a=some o/\H a=none)->Heap.SameBut a s.heap h'->HOk X.prog X.w H h':=fun{a h'} ha hs b ob e=>by
  obtain⟨_,_,hfree⟩:=ha
  refine(I.hok b ob e).stay (fun c w' hc q=>(hs.2 c ?_).trans q) (fun _ q=>q) fun _ _ q=>q
  rintro rfl
  rcases hc with rfl|hc
  ·rw[hfree]at e;cases e
  ·rw[hfree]at hc;cases hc
 rcases hx with hk|hk
 ·refine wpAny_storeName_local hk hn (fun h' hn' hs=>?_) hcls
  obtain⟨oL,_,_,hoL,_⟩:=id hn
  refine h _ ⟨I.ok,I.os,I.bare,⟨fun b o e n hb hx=>?_,fun b o e n hb hx=>?_,I.base.free,fun b o e hx=>?_,I.base.tups,I.base.frzs,I.base.tbls⟩,⟨_,hn',fun j y v' e1 e2 e3=>?_⟩,fun y c e=>?_,I.free,I.freeC,fun p hp=>?_,tracked ⟨oL,hoL,I.free⟩ hs,by simpa using I.len⟩ ⟨_,hs,.inl rfl⟩
  ·exact(hs.2 b (Nat.ne_of_lt (Nat.lt_of_lt_of_le (Heap.lt_size e) I.ok.above))).trans (I.base.keep b o e n hb hx)
  ·obtain⟨sl,e1⟩:=I.base.slot b o e n hb hx
   exact⟨sl,(hs.2 b (Nat.ne_of_lt (Nat.lt_of_lt_of_le (Heap.lt_size e) I.ok.above))).trans e1⟩
  ·obtain⟨o',e1⟩:=I.base.there b o e hx
   exact⟨o',(hs.2 b (Nat.ne_of_lt (Nat.lt_of_lt_of_le (Heap.lt_size e) I.ok.above))).trans e1⟩
  ·by_cases hj:j=i
   ·subst hj
    rw[hi]at e1;cases e1
    rw[List.getElem?_set_self hiσ]at e2
    cases e2
    exact⟨u,r,.inl ⟨hk,by simp⟩⟩
   ·rw[List.getElem?_set_ne (Ne.symm hj)]at e2
    obtain⟨u',r',q⟩:=hl j y v' e1 e2 e3
    refine⟨u',r',?_⟩
    rcases q with⟨k,e⟩|⟨k,c,e,z⟩
    ·refine .inl ⟨k,?_⟩
     have:y≠x:=fun e=>hj (aP5 hN e1 (e ▸ hi))
     simp[this,e]
    ·exact .inr ⟨k,c,e,z.sameBut hs (cne y c e)⟩
  ·obtain⟨w',z⟩:=I.cell y c e
   exact⟨w',z.sameBut hs (cne y c e)⟩
  ·obtain⟨e,n,ne,nf,d⟩:=I.pin p hp
   exact⟨(hs.2 p.1 ne).trans e,n,ne,nf,d⟩
 ·have hfn:X.fn x=true:=by
   rcases hf with z|z
   ·exact z
   ·rw[z]at hk;cases hk
  obtain⟨c,hc⟩:=I.ok.has x (.inl hk)
  obtain⟨w',z⟩:=I.cell x c hc
  refine wpAny_storeName_cell I.ok.kind hk hc z (fun h' hc' hs=>?_)
  obtain⟨oc,hoc,hocd⟩:=id z
  refine h { s with heap:=h' } ⟨I.ok,I.os,I.bare,⟨fun b o e n hb hx=>?_,fun b o e n hb hx=>?_,I.base.free,fun b o e hx=>?_,I.base.tups,I.base.frzs,I.base.tbls⟩,⟨m,hn.sameBut hs (Ne.symm (cne x c hc)),fun j y v' e1 e2 e3=>?_⟩,fun y c' e=>?_,I.free,I.freeC,fun p hp=>?_,tracked ⟨oc,hoc,I.freeC x c hc⟩ hs,by simpa using I.len⟩ ⟨c,hs,.inr hc⟩
  ·exact(hs.2 b (Nat.ne_of_lt (Nat.lt_of_lt_of_le (Heap.lt_size e) (I.ok.cab x c hfn hc)))).trans (I.base.keep b o e n hb hx)
  ·obtain⟨sl,e1⟩:=I.base.slot b o e n hb hx
   exact⟨sl,(hs.2 b (Nat.ne_of_lt (Nat.lt_of_lt_of_le (Heap.lt_size e) (I.ok.cab x c hfn hc)))).trans e1⟩
  ·obtain⟨o',e1⟩:=I.base.there b o e hx
   exact⟨o',(hs.2 b (Nat.ne_of_lt (Nat.lt_of_lt_of_le (Heap.lt_size e) (I.ok.cab x c hfn hc)))).trans e1⟩
  ·by_cases hj:j=i
   ·subst hj
    rw[hi]at e1;cases e1
    rw[List.getElem?_set_self hiσ]at e2
    cases e2
    exact⟨u,r,.inr ⟨.inl hk,c,hc,hc'⟩⟩
   ·rw[List.getElem?_set_ne (Ne.symm hj)]at e2
    obtain⟨u',r',q⟩:=hl j y v' e1 e2 e3
    refine⟨u',r',?_⟩
    rcases q with q|⟨k,c',e,z'⟩
    ·exact .inl q
    ·refine .inr ⟨k,c',e,z'.sameBut hs ?_⟩
     rintro rfl
     exact hj (aP5 hN e1 (I.ok.inj _ _ _ e hc ▸ hi))
  ·by_cases hcc:c'=c
   ·subst hcc;exact⟨_,hc'⟩
   ·obtain⟨w2,z2⟩:=I.cell y c' e
    exact⟨w2,z2.sameBut hs hcc⟩
  ·obtain⟨e,n,ne,nf,d⟩:=I.pin p hp
   refine⟨(hs.2 p.1 ?_).trans e,n,ne,nf,d⟩
   intro q
   rw[q,hoc]at e
   have q':oc=p.2:=Option.some.inj e
   exact d w' (by rw[← q'];exact hocd)
theorem ac9{M:Model}{A:Around}{E:Value->Shared->Prop}{i:Nat}{x:Str}{v:V}{u:Value}{Q:Unit->Shared->Prop}(I:Inv X pins σ H s) (hN:X.N.Nodup) (hi:X.N[i]? = some x) (hx:Loc X.env.scope x) (r:O2 v u)
  (h:∀s',Inv X pins (σ.set i (some v)) H s'->Q () s') (hf:X.fn x=true\/X.env.scope.names.lookup x=some .local:=by first|exact .inl rfl|exact .inr rfl|assumption):wpAny M A (storeName X.env x u) Q E s :=
 aD3 I hN hi hx r (fun s' I' _=>h s' I') hf
theorem Inv.call'{s':Shared}{ch:List Addr}(I:Inv X pins σ H s) (ho:s'.os=s.os) (u:Un (frs X.stack) ch H H' s.heap s'.heap) (hok:HOk X.prog X.w H' s'.heap) (hg:AllBare s'.gens)
  (hch:∀b∈ch,(b∈X.ex\/X.s₀.heap.objs.size<=b)/\b≠X.env.locals/\(∀x c,X.env.cells.lookup x=some c->c≠b)/\∀p∈X.pn++pins,p.1≠b):Inv X pins σ H' s':=by
 obtain⟨h',g',d',t',o'⟩:=s'
 have e:o'=s.os:=ho
 subst e
 exact I.call (g':=g') (t':=t') (d':=d') u hok hg hch
end
noncomputable abbrev XK:=Value->Option Addr->Hp->Prop
noncomputable abbrev St:=List (Option V)
noncomputable abbrev VK:=V->Hp->Prop
noncomputable abbrev TE:=St->Hp->VK->Prop
noncomputable abbrev TT:=St->Hp->(Bool->Hp->Prop)->Prop
noncomputable abbrev TA:=St->Hp->(List V->Hp->Prop)->Prop
structure Ends where
 nx:St->Hp->Prop
 rt:VK
 bk:St->Hp->Prop:=fun _ _=>False
 ct:St->Hp->Prop:=fun _ _=>False
noncomputable abbrev TS:=Ends->St->Hp->Prop
noncomputable def EP(X:Cx) (pins:List (Addr×Obj)) (σ:St) (Q:VK) (u:Value) (s':Shared):Prop:=∃v H',Inv X pins σ H' s'/\O2 v u/\Q v H'
noncomputable def TP(X:Cx) (pins:List (Addr×Obj)) (σ:St) (Q:Bool->Hp->Prop) (b:Bool) (s':Shared):Prop:=∃H',Inv X pins σ H' s'/\Q b H'
noncomputable def AP(X:Cx) (pins:List (Addr×Obj)) (σ:St) (Q:List V->Hp->Prop) (us:List Value) (s':Shared):Prop:=∃vs H',Inv X pins σ H' s'/\M0 vs us/\Q vs H'
noncomputable def SP(X:Cx) (pins:List (Addr×Obj)) (D:Ends) (f:Flow) (s':Shared):Prop :=
 match f with
 | .next=>∃σ' H',Inv X pins σ' H' s'/\D.nx σ' H'
 | .brk=>∃σ' H',Inv X pins σ' H' s'/\D.bk σ' H'
 | .cont=>∃σ' H',Inv X pins σ' H' s'/\D.ct σ' H'
 | .ret u=>∃v σ' H',Inv X pins σ' H' s'/\O2 v u/\D.rt v H'
noncomputable def PE(X:Cx) (e:Expr) (t:TE):Prop :=
 ∀(pins:List (Addr×Obj)) (s:Shared) (σ:St) (H:Hp) (Q:VK),Inv X pins σ H s->t σ H Q->wpAny (model X.prog X.w) X.A (eval e X.env) (EP X pins σ Q) X.xe s
noncomputable def PT(X:Cx) (e:Expr) (t:TT):Prop :=
 ∀(pins:List (Addr×Obj)) (s:Shared) (σ:St) (H:Hp) (Q:Bool->Hp->Prop),Inv X pins σ H s->t σ H Q->wpAny (model X.prog X.w) X.A (isTrue e X.env (eval e X.env)) (TP X pins σ Q) X.xe s
noncomputable def PW(X:Cx) (e:Expr) (t:TT):Prop :=
 ∀(whole:Sem Value) (pins:List (Addr×Obj)) (s:Shared) (σ:St) (H:Hp) (Q:Bool->Hp->Prop),Inv X pins σ H s->t σ H Q->wpAny (model X.prog X.w) X.A (isTrue e X.env whole) (TP X pins σ Q) X.xe s
theorem PW.pt{X:Cx}{e:Expr}{t:TT}(h:PW X e t):PT X e t:=h _
noncomputable def PA(X:Cx) (es:List Expr) (t:TA):Prop :=
 ∀(pos:Pos) (pins:List (Addr×Obj)) (s:Shared) (σ:St) (H:Hp) (Q:List V->Hp->Prop),Inv X pins σ H s->t σ H Q->wpAny (model X.prog X.w) X.A (spliced (backTo pos (starEach es X.env))) (AP X pins σ Q) X.xe s
noncomputable def PS(X:Cx) (st:Stmt) (t:TS):Prop :=
 ∀(pins:List (Addr×Obj)) (s:Shared) (σ:St) (H:Hp) (D:Ends),Inv X pins σ H s->t D σ H->wpAny (model X.prog X.w) X.A (exec st X.env) (SP X pins D) X.xe s
noncomputable def PSs(X:Cx) (st:List Stmt) (t:TS):Prop :=
 ∀(pins:List (Addr×Obj)) (s:Shared) (σ:St) (H:Hp) (D:Ends),Inv X pins σ H s->t D σ H->wpAny (model X.prog X.w) X.A (execs st X.env) (SP X pins D) X.xe s
theorem thn{α:Type}{t:Sem α}{Q Q':α->Shared->Prop}{M:Model}{A:Around}{E:Value->Shared->Prop}{s:Shared}(h:wpAny M A t Q E s) (hQ:∀a s,Q a s->Q' a s):wpAny M A t Q' E s:=wpAny_mono h hQ fun _ _ x=>x
section
variable {X:Cx}
theorem bin{a b:Expr}{ta tb:TE}(ha:PE X a ta) (hb:PE X b tb) {pins:List (Addr×Obj)}{s:Shared}{σ:St}{H:Hp}{R:V->V->Hp->Prop}(I:Inv X pins σ H s) (h:ta σ H fun x H1=>tb σ H1 fun y H2=>R x y H2)
  {α:Type}{Q:α->Shared->Prop}{f:Value->Value->Sem α}
  (hf:∀v u s2 x y H2,Inv X pins σ H2 s2->O2 x v->O2 y u->R x y H2->wpAny (model X.prog X.w) X.A (f v u) Q X.xe s2) :
  wpAny (model X.prog X.w) X.A (eval a X.env) (fun v s₁=>wpAny (model X.prog X.w) X.A (eval b X.env) (fun u s₂=>wpAny (model X.prog X.w) X.A (f v u) Q X.xe s₂) X.xe s₁) X.xe s:=by
 refine thn (ha pins s σ H _ I h) fun v s1 ⟨x,H1,I1,r1,q1⟩=>?_
 refine thn (hb pins s1 σ H1 _ I1 q1) fun u s2 ⟨y,H2,I2,r2,q2⟩=>?_
 exact hf v u s2 x y H2 I2 r1 r2 q2
noncomputable def cl8(i:Nat):TE:=fun σ H Q=>∃v,σ[i]? = some (some v)/\Q v H
noncomputable def tC(v:V):TE:=fun _ H Q=>Q v H
theorem ae2{i:Nat}{x:Str}{pos:Pos}(hN:X.N[i]? = some x) (hv:Vis X.env.scope x) (hd:(x==("__debug__" : Str))=false:=by decide) (hcd:(x==("__classdict__" : Str))=false:=by decide):PE X (.Name x pos) (cl8 i):=by
 intro pins s σ H Q I h
 obtain⟨v,e,h⟩:=h
 obtain⟨m,hn,hl⟩:=I.loc
 obtain⟨u,r,l⟩:=hl i x v hN e hv
 have fin:EP X pins σ Q u s:=⟨v,H,I,r,h⟩
 rcases l with⟨hk,hm⟩|⟨hk,c,hc,hcell⟩
 ·exact wpAny_Name (wpAny_loadName_local I.ok.kind hk hn hm fin) hd
 ·rcases hk with hk|hk
  ·exact wpAny_Name (wpAny_loadName_cell I.ok.kind hk hc hcell fin) hd
  ·exact wpAny_Name (wpAny_loadName_free I.ok.kind hk hc hcell fin hcd) hd
theorem ca0{i j pos}:PE X (.Constant (.int i) j pos) (tC (.int i)):=fun _ _ _ H _ I h=>wpAny_Constant_int ⟨.int i,H,I.tok _,⟨_,rfl⟩,h⟩
theorem cn9{b j pos}:PE X (.Constant (.bool b) j pos) (tC (.bl b)):=fun _ _ _ H _ I h=>Constant_bool ⟨.bl b,H,I,rfl,h⟩
theorem bZ8{j pos}:PE X (.Constant .none j pos) (tC .non):=fun _ _ _ H _ I h=>Constant_none ⟨.non,H,I,rfl,h⟩
theorem bZ4{x j pos}:PE X (.Constant (.str x) j pos) (tC (.str x)):=fun _ _ _ H _ I h=>Calls.Constant_str ⟨.str x,H,I.tok _,⟨_,rfl⟩,h⟩
noncomputable def Gl(X:Cx) (x:Str):Prop:=X.env.kindOf x=some .globalImplicit
theorem aa7{E:Value->Shared->Prop}{pins:List (Addr×Obj)}{s:Shared}{σ:St}{H:Hp}{x:Str}{u:Value}{pos:Pos}{Q:Value->Shared->Prop}(I:Inv X pins σ H s) (hg:Gl X x) (hm:X.mg x=some u) (h:Q u s)
  (hd:(x==("__debug__" : Str))=false:=by decide):wpAny (model X.prog X.w) X.A (eval (.Name x pos) X.env) Q E s :=
 Calls.Name_function_global I.ok.kind hg (Calls.loadGlobal_global (by rw[I.ok.glob];exact I.mod.glob.keeps I.bk) hm h) hd
theorem ai9{E:Value->Shared->Prop}{pins:List (Addr×Obj)}{s:Shared}{σ:St}{H:Hp}{x:Str}{u:Value}{pos:Pos}{Q:Value->Shared->Prop}(I:Inv X pins σ H s) (hg:Gl X x) (hm:X.mg x=none) (hv:bootBuiltins x=some u) (h:Q u s)
  (hn:x ≠ "__name__" := by decide) (hd:(x==("__debug__" : Str))=false:=by decide):wpAny (model X.prog X.w) X.A (eval (.Name x pos) X.env) Q E s:=by
 obtain⟨mb,h1,h2⟩:=I.mod.blt
 exact Calls.Name_function_global I.ok.kind hg (Calls.loadGlobal_builtin (by rw[I.ok.glob];exact I.mod.glob.keeps I.bk) hm (by rw[I.ok.blt];exact h1.keeps I.bk) ((h2 x hn).trans hv) h) hd
theorem bL0{x:Str}{v:V}{u:Value}{pos:Pos}(hg:Gl X x) (hm:X.mg x=some u) (r:O2 v u) (hd:(x==("__debug__" : Str))=false:=by decide):PE X (.Name x pos) (tC v) :=
 fun _ _ _ H _ I h=>aa7 I hg hm ⟨v,H,I,r,h⟩ hd
theorem be3{x:Str}{v:V}{u:Value}{pos:Pos}(hg:Gl X x) (hm:X.mg x=none) (hv:bootBuiltins x=some u) (r:O2 v u) (hn:x ≠ "__name__" := by decide) (hd:(x==("__debug__" : Str))=false:=by decide):PE X (.Name x pos) (tC v) :=
 fun _ _ _ H _ I h=>ai9 I hg hm hv ⟨v,H,I,r,h⟩ hn hd
variable {a b:Expr}{ta tb:TE}{pos:Pos}
variable {tA tB':TT}{U8:List Expr}
noncomputable def cv0(t u:TT):TT:=fun σ H Q=>t σ H fun c H1=>if c=true then u σ H1 Q else Q false H1
noncomputable def tOr(t u:TT):TT:=fun σ H Q=>t σ H fun c H1=>if c=true then Q true H1 else u σ H1 Q
noncomputable def cu6(t:TT):TT:=fun σ H Q=>t σ H fun c H1=>Q (!c) H1
theorem bJ8(ha:PT X a tA):PW X (.BoolOp .And [a] pos) tA:=by
 intro wh pins s σ H Q I h
 refine isTrue_and (thn (ha pins s σ H Q I h) fun c s1 e=>?_)
 cases c with
 | true=>exact isTrue_and_nil e
 | false=>exact e
theorem bY5(ha:PT X a tA):PW X (.BoolOp .Or [a] pos) tA:=by
 intro wh pins s σ H Q I h
 refine isTrue_or (thn (ha pins s σ H Q I h) fun c s1 e=>?_)
 cases c with
 | false=>exact isTrue_or_nil e
 | true=>exact e
theorem bu2(ha:PT X a tA) (hb:PW X (.BoolOp .And (b::U8) pos) tB'):PW X (.BoolOp .And (a::b::U8) pos) (cv0 tA tB'):=by
 intro wh pins s σ H Q I h
 refine isTrue_and (thn (ha pins s σ H _ I h) fun c s1 ⟨H1,I1,q1⟩=>?_)
 cases c with
 | true=>exact hb wh pins s1 σ H1 Q I1 q1
 | false=>exact⟨H1,I1,q1⟩
theorem bT5(ha:PT X a tA) (hb:PW X (.BoolOp .Or (b::U8) pos) tB'):PW X (.BoolOp .Or (a::b::U8) pos) (tOr tA tB'):=by
 intro wh pins s σ H Q I h
 refine isTrue_or (thn (ha pins s σ H _ I h) fun c s1 ⟨H1,I1,q1⟩=>?_)
 cases c with
 | true=>exact⟨H1,I1,q1⟩
 | false=>exact hb wh pins s1 σ H1 Q I1 q1
theorem bY6(ha:PT X a tA):PT X (.UnaryOp .Not a pos) (cu6 tA):=by
 intro pins s σ H Q I h
 exact isTrue_not (ha pins s σ H (fun c H1=>Q (!c) H1) I h)
noncomputable def cm6(ta tb:TE):TE:=fun σ H Q=>ta σ H fun x H1=>∃c,x=.bl c/\if c=true then tb σ H1 Q else Q (.bl false) H1
noncomputable def cu5(ta tb:TE):TE:=fun σ H Q=>ta σ H fun x H1=>∃c,x=.bl c/\if c=true then Q (.bl true) H1 else tb σ H1 Q
noncomputable def cm0(ta:TE):TE:=fun σ H Q=>ta σ H fun x H1=>∃c,x=.bl c/\Q (.bl (!c)) H1
theorem bZ6{op} {t:TE}(h:PE X a t):PE X (.BoolOp op [a] pos) t:=fun pins s σ H Q I hw=>BoolOp_one (h pins s σ H Q I hw)
theorem bv3(ha:PE X a ta) (hb:PE X (.BoolOp .And (b::U8) pos) tb):PE X (.BoolOp .And (a::b::U8) pos) (cm6 ta tb):=by
 intro pins s σ H Q I h
 refine BoolOp_and (thn (ha pins s σ H _ I h) fun v s1 ⟨x,H1,I1,r1,q1⟩=>?_)
 obtain⟨c,rfl,q1⟩:=q1
 cases r1
 refine wpAny_truthy_bool ?_
 cases c with
 | true=>exact hb pins s1 σ H1 Q I1 q1
 | false=>exact⟨.bl false,H1,I1,rfl,q1⟩
theorem bT8(ha:PE X a ta) (hb:PE X (.BoolOp .Or (b::U8) pos) tb):PE X (.BoolOp .Or (a::b::U8) pos) (cu5 ta tb):=by
 intro pins s σ H Q I h
 refine BoolOp_or (thn (ha pins s σ H _ I h) fun v s1 ⟨x,H1,I1,r1,q1⟩=>?_)
 obtain⟨c,rfl,q1⟩:=q1
 cases r1
 refine wpAny_truthy_bool ?_
 cases c with
 | false=>exact hb pins s1 σ H1 Q I1 q1
 | true=>exact⟨.bl true,H1,I1,rfl,q1⟩
theorem bZ7(ha:PE X a ta):PE X (.UnaryOp .Not a pos) (cm0 ta):=by
 intro pins s σ H Q I h
 refine UnaryOp_ (thn (ha pins s σ H _ I h) fun v s1 ⟨x,H1,I1,r1,q1⟩=>?_)
 obtain⟨c,rfl,q1⟩:=q1
 cases r1
 exact not_of (wpAny_truthy_bool ⟨.bl (!c),H1,I1,rfl,q1⟩)
noncomputable def tIf(t:TT) (ta tb:TE):TE:=fun σ H Q=>t σ H fun c H1=>if c=true then ta σ H1 Q else tb σ H1 Q
theorem aP2{c:Expr}(hc:PT X c tA) (ha:PE X a ta) (hb:PE X b tb):PE X (.IfExp c a b pos) (tIf tA ta tb):=by
 intro pins s σ H Q I h
 refine wpAny_IfExp (thn (hc pins s σ H _ I h) fun d s1 ⟨H1,I1,q1⟩=>?_)
 cases d with
 | true=>exact ha pins s1 σ H1 Q I1 q1
 | false=>exact hb pins s1 σ H1 Q I1 q1
end
noncomputable def SqL(K:PySem.W.Frag) (H:Hp) (a:Addr) (xs:List V):Prop :=
 Rd H a (.lst xs) \/
  ∃(o:Obj) (its:Array Value) (n:Nat),K.lookup a=some o/\o.cls=.type "list" /\ o.dict=none/\o.data=.seq its n/\its.size<=sizeLine/\M0 xs its.toList
noncomputable def SqT(K:PySem.W.Frag) (H:Hp) (a:Addr) (xs:List V):Prop :=
 Rd H a (.tup xs) \/
  ∃(o:Obj) (its:Array Value) (n:Nat),K.lookup a=some o/\o.cls=.type "tuple" /\ o.dict=none/\o.data=.seq its n/\its.size<=sizeLine/\M0 xs its.toList
noncomputable def cx2:Value->Option V
 | .none=>some .non
 | .bool b=>some (.bl b)
 | .int i _=>some (.int i)
 | .str x _=>some (.str x)
 | .bytes b _=>some (.byt b)
 | .float b _=>some (.flt b)
 | .ref a=>some (.ref a)
 | .type n=>some (.ty n)
 | _=>none
theorem O2.abs{x:V}{u:Value}(r:O2 x u):cx2 u=some x:=by
 cases x with
 | non=>cases r;rfl
 | bl _=>cases r;rfl
 | int _=>obtain⟨t,rfl⟩:=r;rfl
 | str _=>obtain⟨t,rfl⟩:=r;rfl
 | byt _=>obtain⟨t,rfl⟩:=r;rfl
 | flt _=>obtain⟨t,rfl⟩:=r;rfl
 | ref _=>cases r;rfl
 | ty _=>cases r;rfl
theorem O2.inj{x y:V}{u:Value}(r:O2 x u) (q:O2 y u):x=y:=Option.some.inj (r.abs.symm.trans q.abs)
theorem M0.inj:∀{xs ys:List V}{us:List Value},M0 xs us->M0 ys us->xs=ys
 | _,_,_,.nil,.nil=>rfl
 | _,_,_,.cons r t,.cons r' t'=>by rw[r.inj r',M0.inj t t']
section
variable {X:Cx}{pins:List (Addr×Obj)}{σ:St}{H:Hp}{s:Shared}{a:Addr}{xs ys:List V}
theorem SqL.of{K:PySem.W.Frag}(h:H a=some (.lst xs)):SqL K H a xs:=.inl (.inl h)
theorem SqT.of{K:PySem.W.Frag}(h:H a=some (.tup xs)):SqT K H a xs:=.inl (.inl h)
theorem Inv.list(I:Inv X pins σ H s) (h:SqL X.K H a xs):∃its:List Value,M0 xs its/\PlainL s.heap a its.toArray/\xs.length<=sizeLine:=by
 rcases h with h|⟨o,its,n,hk,hc,hd,hs,hz,r⟩
 ·obtain⟨z,its,n,r,e⟩:=h.ok I.hok
  exact⟨its,r,⟨_,n,e,rfl,rfl,rfl⟩,z⟩
 ·refine⟨its.toList,r,⟨o,n,I.kIn a o hk,hc,hd,by simpa using hs⟩,?_⟩
  have e:=r.length
  simp only[Array.length_toList]at e
  omega
theorem Inv.tupN(I:Inv X pins σ H s) (h:SqT X.K H a xs):∃its:List Value,M0 xs its/\az3 s.heap a its.toArray/\xs.length<=sizeLine:=by
 rcases h with h|⟨o,its,n,hk,hc,hd,hs,hz,r⟩
 ·obtain⟨z,its,r,p⟩:=h.ok I.hok
  exact⟨its,r,p,z⟩
 ·refine⟨its.toList,r,⟨o,I.kIn a o hk,hc,⟨n,by simpa using hs⟩,hd⟩,?_⟩
  have e:=r.length
  simp only[Array.length_toList]at e
  omega
theorem Inv.tuple(I:Inv X pins σ H s) (h:SqT X.K H a xs):∃its:List Value,M0 xs its/\IsTup s.heap a its.toArray/\xs.length<=sizeLine :=
 let⟨its,r,p,z⟩:=I.tupN h;⟨its,r,p.tup,z⟩
theorem Inv.list_inj(I:Inv X pins σ H s) (h:SqL X.K H a xs) (h':SqL X.K H a ys):xs=ys:=by
 obtain⟨its,r,⟨o,n,e,_,_,d⟩,_⟩:=I.list h
 obtain⟨its',r',⟨o',n',e',_,_,d'⟩,_⟩:=I.list h'
 rw[e]at e';cases e'
 rw[d]at d'
 injection d' with d1 _
 have:its=its':=by simpa using congrArg Array.toList d1
 subst this
 exact r.inj r'
theorem Inv.tuple_inj(I:Inv X pins σ H s) (h:SqT X.K H a xs) (h':SqT X.K H a ys):xs=ys:=by
 obtain⟨its,r,⟨o,e,_,n,d⟩,_⟩:=I.tuple h
 obtain⟨its',r',⟨o',e',_,n',d'⟩,_⟩:=I.tuple h'
 rw[e]at e';cases e'
 rw[d]at d'
 injection d' with d1 _
 have:its=its':=by simpa using congrArg Array.toList d1
 subst this
 exact r.inj r'
end
noncomputable abbrev Cx.wish(X:Cx) (E:Value->Shared->Prop):Cx:={ X with xe:=E }
noncomputable abbrev Cx.nox(X:Cx):Cx:=X.wish fun _ _=>False
theorem Cx.Ok.wish{X:Cx}(ok:X.Ok) (E:Value->Shared->Prop):(X.wish E).Ok :=
 ⟨ok.mod,ok.kind,ok.glob,ok.blt,ok.above,ok.inj,ok.has,ok.cab,ok.hd,ok.frames,ok.stk,ok.exf,ok.bs,ok.bsz,ok.noex,ok.exfs,ok.funs,ok.frf⟩
theorem Cx.Ok.unwish{X:Cx}{E:Value->Shared->Prop}(ok:(X.wish E).Ok):X.Ok :=
 ⟨ok.mod,ok.kind,ok.glob,ok.blt,ok.above,ok.inj,ok.has,ok.cab,ok.hd,ok.frames,ok.stk,ok.exf,ok.bs,ok.bsz,ok.noex,ok.exfs,ok.funs,ok.frf⟩
section
variable {X:Cx}{pins:List (Addr×Obj)}{σ:St}{H:Hp}{s:Shared}{E:Value->Shared->Prop}
theorem Inv.wish(I:Inv X pins σ H s) (E:Value->Shared->Prop):Inv (X.wish E) pins σ H s:=⟨I.ok.wish E,I.os,I.bare,I.base,I.loc,I.cell,I.free,I.freeC,I.pin,I.hok,I.len⟩
theorem Inv.unwish(I:Inv (X.wish E) pins σ H s):Inv X pins σ H s:=⟨I.ok.unwish,I.os,I.bare,I.base,I.loc,I.cell,I.free,I.freeC,I.pin,I.hok,I.len⟩
theorem SP.unwish{D:Ends}{f:Flow}{s':Shared}(h:SP (X.wish E) pins D f s'):SP X pins D f s':=by
 cases f with
 | next=>obtain⟨σ',H',I,q⟩:=h;exact⟨σ',H',I.unwish,q⟩
 | brk=>obtain⟨σ',H',I,q⟩:=h;exact⟨σ',H',I.unwish,q⟩
 | cont=>obtain⟨σ',H',I,q⟩:=h;exact⟨σ',H',I.unwish,q⟩
 | ret u=>obtain⟨v,σ',H',I,r,q⟩:=h;exact⟨v,σ',H',I.unwish,r,q⟩
theorem PSs.nox{st:List Stmt}{t:TS}(h:PSs X.nox st t):PSs X st t:=fun pins s σ H D I hw =>wpAny_mono (h pins s σ H D (I.wish _) hw) (fun _ _ q=>q.unwish) fun _ _ z=>False.elim z
end
section
variable {X:Cx}{st:Stmt}{U8:List Stmt}{t u:TS}{e:Expr}{te:TE}{pos:Pos}
noncomputable def bT1:TS:=fun D σ H=>D.nx σ H
noncomputable def cu2(t u:TS):TS:=fun D σ H=>t { D with nx:=u D } σ H
theorem bK3:PSs X [] bT1:=fun _ _ σ H _ I h=>wpAny_execs_nil ⟨σ,H,I,h⟩
theorem al5(h1:PS X st t) (h2:PSs X U8 u):PSs X (st::U8) (cu2 t u):=by
 intro pins s σ H D I h
 refine wpAny_execs_cons (thn (h1 pins s σ H { D with nx:=u D } I h) fun f s1 q=>?_)
 cases f with
 | next =>
  obtain⟨σ',H',I',q⟩:=q
  exact h2 pins s1 σ' H' D I' q
 | ret v=>exact q
 | brk=>exact q
 | cont=>exact q
theorem bK2(h1:PS X st t):PSs X [st] t:=by
 intro pins s σ H D I h
 refine wpAny_execs_cons (thn (h1 pins s σ H D I h) fun f s1 q=>?_)
 cases f with
 | next=>exact wpAny_execs_nil q
 | ret v=>exact q
 | brk=>exact q
 | cont=>exact q
noncomputable def bX7:TS:=fun D σ H=>D.bk σ H
noncomputable def cm3:TS:=fun D σ H=>D.ct σ H
theorem bK4:PS X (.Pass pos) bT1:=fun _ _ σ H _ I h=>wpAny_Pass ⟨σ,H,I,h⟩
theorem bu7:PS X (.Break pos) bX7:=fun _ _ σ H _ I h=>wpAny_Break ⟨σ,H,I,h⟩
theorem aP0:PS X (.Continue pos) cm3:=fun _ _ σ H _ I h=>wpAny_Continue ⟨σ,H,I,h⟩
theorem Inv.quiet{pins:List (Addr×Obj)}{σ:St}{H:Hp}{s:Shared}(I:Inv X pins σ H s):interactive X.env=false:=by simp[interactive,I.ok.kind]
noncomputable def cm2(te:TE):TS:=fun D σ H=>te σ H fun _ H1=>D.nx σ H1
theorem aJ0(he:PE X e te) (hs:swapsWith e none pos.line X.env=pure false:=by rfl):PS X (.Expr e pos) (cm2 te):=by
 intro pins s σ H D I h
 exact wpAny_Expr_any (thn (he pins s σ H _ I h) fun v s1 ⟨x,H1,I1,r1,q1⟩=>⟨σ,H1,I1,q1⟩) I.quiet hs
noncomputable def cu3(te:TE):TS:=fun D σ H=>te σ H D.rt
theorem bY8(he:PE X e te):PS X (.Return (some e) pos) (cu3 te):=by
 intro pins s σ H D I h
 exact wpAny_Return_some (thn (he pins s σ H _ I h) fun v s1 ⟨x,H1,I1,r1,q1⟩=>⟨x,σ,H1,I1,r1,q1⟩)
noncomputable def cu8(c:TT) (t u:TS):TS:=fun D σ H=>c σ H fun b H1=>if b=true then t D σ H1 else u D σ H1
theorem bT6{c:Expr}{a b:List Stmt}{tc:TT}(hc:PT X c tc) (ha:PSs X a t) (hb:PSs X b u):PS X (.If c a b pos) (cu8 tc t u):=by
 intro pins s σ H D I h
 refine wpAny_If (thn (hc pins s σ H _ I h) fun d s1 ⟨H1,I1,q1⟩=>?_)
 cases d with
 | true=>exact ha pins s1 σ H1 D I1 q1
 | false=>exact hb pins s1 σ H1 D I1 q1
noncomputable def bX6:TS:=fun _ _ _=>False
theorem u5{sts:List Stmt}:PSs X sts bX6:=fun _ _ _ _ _ _ h=>h.elim
end
noncomputable abbrev TG:=V->St->Hp->(St->Hp->Prop)->Prop
noncomputable abbrev TGs:=List V->St->Hp->(St->Hp->Prop)->Prop
noncomputable def PG(X:Cx) (target:Expr) (t:TG):Prop :=
 ∀(pins:List (Addr×Obj)) (s:Shared) (σ:St) (H:Hp) (v:V) (u:Value) (Q:St->Hp->Prop),Inv X pins σ H s->O2 v u->t v σ H Q ->
  wpAny (model X.prog X.w) X.A (assign target X.env u) (fun _ s'=>∃σ' H',Inv X pins σ' H' s'/\Q σ' H') X.xe s
noncomputable def PGs(X:Cx) (ts:List Expr) (t:TGs):Prop :=
 ∀(pins:List (Addr×Obj)) (s:Shared) (σ:St) (H:Hp) (vs:List V) (us:List Value) (Q:St->Hp->Prop),Inv X pins σ H s->M0 vs us->t vs σ H Q ->
  wpAny (model X.prog X.w) X.A (assignInOrder ((assignEach ts X.env).map (·.2)) us) (fun _ s'=>∃σ' H',Inv X pins σ' H' s'/\Q σ' H') X.xe s
section
variable {X:Cx}{pos:Pos}
noncomputable def bU5(i:Nat):TG:=fun v σ H Q=>Q (σ.set i (some v)) H
theorem bK9{i:Nat}{x:Str}(hN:X.N.Nodup) (hi:X.N[i]? = some x) (hx:Loc X.env.scope x) (hf:X.fn x=true\/X.env.scope.names.lookup x=some .local:=by first|exact .inl rfl|exact .inr rfl|assumption):PG X (.Name x pos) (bU5 i):=by
 intro pins s σ H v u Q I r h
 exact wpAny_assign_Name (ac9 I hN hi hx r (fun s' I'=>⟨_,H,I',h⟩) hf)
noncomputable def cw5:TGs:=fun vs σ H Q=>vs=[]/\Q σ H
noncomputable def cs1(t:TG) (u:TGs):TGs:=fun vs σ H Q=>∃v r,vs=v::r/\t v σ H fun σ' H'=>u r σ' H' Q
theorem bK8:PGs X [] cw5:=by
 intro pins s σ H vs us Q I r h
 obtain⟨e,h⟩:=h
 subst e
 cases r
 exact assignInOrder_nil ⟨σ,H,I,h⟩
theorem bv1{e:Expr}{es:List Expr}{t:TG}{u:TGs}(h1:PG X e t) (h2:PGs X es u)
  (hs:(assignEach (e::es) X.env).map (·.2)=assign e X.env::(assignEach es X.env).map (·.2):=by rfl):PGs X (e::es) (cs1 t u):=by
 intro pins s σ H vs us Q I r h
 obtain⟨v,vr,e1,h⟩:=h
 subst e1
 cases r with
 | cons r rr =>
  rw[hs]
  refine assignInOrder_cons (thn (h1 pins s σ H _ _ _ I r h) fun _ s1 ⟨σ1,H1,I1,q1⟩=>?_)
  exact h2 pins s1 σ1 H1 _ _ Q I1 rr q1
noncomputable def cw4(K:PySem.W.Frag) (n:Nat) (t:TGs):TG:=fun v σ H Q=>∃a xs,v=.ref a/\SqT K H a xs/\xs.length=n/\t xs σ H Q
theorem bZ2{es:List Expr}{k:Nat}{t:TGs}{n:Nat}(hc:X.calm=true) (h:PGs X es t)
  (hn:(assignEach es X.env).length=n:=by rfl) (hst:(assignEach es X.env).findIdx? (·.1)=none:=by rfl):PG X (.Tuple es k pos) (cw4 X.K n t):=by
 intro pins s σ H v u Q I r hw
 obtain⟨a,xs,e1,hq,hl,hw⟩:=hw
 subst e1
 cases r
 obtain⟨its,rv,ht,hz⟩:=I.tuple hq
 refine assign_Tuple_tuple (I.ok.hd hc) ht (by simp[hn,← hl,rv.length]) hst fun h' hx=>?_
 have I1:Inv X pins σ H { s with heap:=h' }:=I.kept (t':=s.toks) fun b o e=>hx b o (Nat.ne_of_lt (Heap.lt_size e)) e
 exact h pins _ σ H xs _ Q I1 (by simpa using rv) hw
noncomputable def cm5(te:TE) (g:TG):TS:=fun D σ H=>te σ H fun x H1=>g x σ H1 D.nx
theorem bZ0{tg e:Expr}{te:TE}{g:TG}(he:PE X e te) (hg:PG X tg g) (hs:swapsWithSole [tg] e pos.line X.env=pure false:=by rfl) (hw:swappedStores [tg] e X.env=pure none:=by rfl)
  (h1:(assignEach [tg] X.env).map (·.2)=[assign tg X.env]:=by rfl):PS X (.Assign [tg] e pos) (cm5 te g):=by
 intro pins s σ H D I h
 refine wpAny_Assign_stores (thn (he pins s σ H _ I h) fun v s1 ⟨x,H1,I1,r1,q1⟩=>?_) hs hw
 rw[h1]
 exact thn (hg pins s1 σ H1 x v _ I1 r1 q1) fun _ s2 q=>q
theorem bu5{i:Nat}{x:Str}{e:Expr}{te:TE}{pos':Pos}(hN:X.N.Nodup) (hi:X.N[i]? = some x) (hx:Loc X.env.scope x) (he:PE X e te) (hs:swapsWith e (some (.Name x pos')) pos.line X.env=pure false:=by rfl) (hf:X.fn x=true\/X.env.scope.names.lookup x=some .local:=by first|exact .inl rfl|exact .inr rfl|assumption) :
  PS X (.Assign [.Name x pos'] e pos) (cm5 te (bU5 i)):=by
 intro pins s σ H D I h
 refine wpAny_Assign_Name (thn (he pins s σ H _ I h) fun v s1 ⟨y,H1,I1,r1,q1⟩=>?_) hs
 exact ac9 I1 hN hi hx r1 (fun s2 I2=>⟨_,H1,I2,q1⟩) hf
noncomputable def cu4(i j:Nat) (ta:TA):TS:=fun D σ H=>ta σ H fun vs H1=>∃v w,vs=[v,w]/\D.nx ((σ.set i (some v)).set j (some w)) H1
theorem bY9{i j:Nat}{x y:Str}{a b:Expr}{ta:TA}{px py pt:Pos}{kt k2 pt2} (hc:X.calm=true) (hN:X.N.Nodup) (hi:X.N[i]? = some x) (hj:X.N[j]? = some y) (hij:i≠j)
  (hx:X.env.scope.names.lookup x=some .local) (hy:X.env.scope.names.lookup y=some .local) (ha:PA X [a,b] ta)
  (hw:swappedStores [.Tuple [.Name x px,.Name y py] kt pt] (.Tuple [a,b] k2 pt2) X.env=pure (some [x,y]))
  (hs:swapsWithSole [.Tuple [.Name x px,.Name y py] kt pt] (.Tuple [a,b] k2 pt2) pos.line X.env=pure false:=by rfl) :
  PS X (.Assign [.Tuple [.Name x px,.Name y py] kt pt] (.Tuple [a,b] k2 pt2) pos) (cu4 i j ta):=by
 intro pins s σ H D I h
 rw[exec_Assign_arm]
 refine wpAny_bind (wpAny_standAt ?_)
 rw[hs]
 refine wpAny_bind (wpAny_pure ?_)
 rw[if_neg (by decide)]
 refine wpAny_bind (Tuple_ (thn (ha _ pins s σ H _ I h) fun us s1 ⟨vs,H1,I1,r1,q1⟩=>?_))
 obtain⟨v,w,e1,q1⟩:=q1
 subst e1
 obtain⟨u1,u2,rfl,rv,rw'⟩:∃u1 u2,us=[u1,u2]/\O2 v u1/\O2 w u2:=by
  cases r1 with
  | cons p q =>
   cases q with
   | cons p' q' =>
    cases q'
    exact⟨_,_,rfl,p,p'⟩
 refine wpAny_newObj_type ?_ (by show 2<=sizeLine;decide)
 have I2:Inv X pins σ H1 { s1 with heap:=s1.heap.push { cls:=.type "tuple", data:=.seq [u1,u2].toArray } }:=I1.kept (t':=s1.toks) fun b o e=>Heap.get?_push_of_some _ e
 rw[hw]
 refine wpAny_bind (wpAny_pure ?_)
 show wpAny (model X.prog X.w) X.A (do rule "assign.swapped-stores";let items ← unpackItems (.ref s1.heap.objs.size) 2 none;assignInOrder [fun v=>bindName X.env y v,fun v=>bindName X.env x v] items.reverse;pure Flow.next) _ _ _
 refine wpAny_bind (wpAny_rule (wpAny_bind (unpackItems_tuple (items:=#[u1,u2]) (I.ok.hd hc) (IsTup.new s1.heap _) fun h' hx'=>?_)))
 have I3:=I2.kept (h':=h') (t':=s1.toks) fun b o e=>hx' b o (Nat.ne_of_lt (Heap.lt_size e)) e
 show wpAny _ _ (assignInOrder [fun v=>bindName X.env y v,fun v=>bindName X.env x v] [u2,u1] >>= fun _=>pure Flow.next) _ _ _
 refine wpAny_bind (assignInOrder_cons (wpAny_bindName (ac9 I3 hN hj (.inl hy) rw' (fun s2 I4=>?_) (.inr hy))))
 refine assignInOrder_cons (wpAny_bindName (ac9 I4 hN hi (.inl hx) rv (fun s3 I5=>assignInOrder_nil (wpAny_pure ?_)) (.inr hx)))
 rw[List.set_comm _ _ (Ne.symm hij)]at I5
 exact⟨_,H1,I5,q1⟩
end
section
variable {X:Cx}{pos:Pos}
noncomputable def bX5(c:TT) (tb:TS):TS:=fun D σ H=>∃W:Nat->St->Hp->Prop,(∃m,W m σ H)/\∀m σ H,W m σ H ->
 c σ H fun b H1=>if b=true then ∃N:St->Hp->Prop,(∀σ' H',N σ' H'->∃m',m' < m/\W m' σ' H')/\tb { D with nx:=N,ct:=N,bk:=D.nx } σ H1 else D.nx σ H1
theorem bu4{c:Expr}{body:List Stmt}{tc:TT}{tb:TS}(hp:PassesOwn (model X.prog X.w) X.A X.env X.xe) (hc:PT X c tc) (hb:PSs X body tb):PS X (.While c body [] pos) (bX5 tc tb):=by
 intro pins s σ H D I h
 obtain⟨W,⟨m0,w0⟩,turn⟩:=h
 refine wpAny_While (codeAny_whileLoop (fun n s'=>∃σ' H',Inv X pins σ' H' s'/\W n σ' H') ?_ m0 ⟨σ,H,I,w0⟩)
 rintro n s1 ⟨σ1,H1,I1,w1⟩
 refine wpAny_passesOwn hp (thn (hc pins s1 σ1 H1 _ I1 (turn n σ1 H1 w1)) fun b s2 ⟨H2,I2,q2⟩=>?_)
 cases b with
 | true =>
  obtain⟨N,hN,q2⟩:=q2
  rw[if_pos rfl]
  refine wpAny_passesOwn hp (thn (hb pins s2 σ1 H2 _ I2 q2) fun f s3 q3=>?_)
  cases f with
  | next =>
   obtain⟨σ3,H3,I3,n3⟩:=q3
   obtain⟨m',hm,w3⟩:=hN σ3 H3 n3
   exact⟨m',hm,σ3,H3,I3,w3⟩
  | cont =>
   obtain⟨σ3,H3,I3,n3⟩:=q3
   obtain⟨m',hm,w3⟩:=hN σ3 H3 n3
   exact⟨m',hm,σ3,H3,I3,w3⟩
  | brk=>exact q3
  | ret v=>exact q3
 | false =>
  rw[if_neg Bool.false_ne_true]
  exact wpAny_execs_nil ⟨σ1,H2,I2,q2⟩
end
structure It where
 go:Nat->Hp->Prop
 yld:Nat->Hp->V->Hp->Prop
 stop:Nat->Hp->Prop
noncomputable def o9(X:Cx) (pins:List (Addr×Obj)) (H:Hp) (b:Addr):Prop :=
 H b=none/\b≠X.env.locals/\b∉X.fs/\(b∈X.ex\/X.s₀.heap.objs.size<=b)/\(∀x c,X.env.cells.lookup x=some c->c≠b)/\∀p∈X.pn++pins,p.1≠b
theorem Inv.fpOk{X:Cx}{pins:List (Addr×Obj)}{σ:St}{H H':Hp}{s:Shared}{b:Addr}(I:Inv X pins σ H s) (hb:s.heap.objs.size<=b) (hn:H' b=none):o9 X pins H' b:=by
 refine⟨hn,Nat.ne_of_gt (Nat.lt_of_lt_of_le I.lt hb),I.nofs hb,.inr (Nat.le_trans I.sz hb),fun x c e z=>?_,fun p hp z=>?_⟩
 ·obtain⟨v,q⟩:=I.cell x c e
  exact absurd (Nat.lt_of_lt_of_le q.lt (by rw[z];exact hb)) (Nat.lt_irrefl _)
 ·exact absurd (Nat.lt_of_lt_of_le (Heap.lt_size (I.pin p hp).1) (by rw[z];exact hb)) (Nat.lt_irrefl _)
structure Turn (P:Program) (w:World) (K:PySem.W.Frag) (tg:Expr) (J:It) (fp:List Addr) (it:Addr) (tn:Nat->Heap->Prop):Prop where
 mem:it∈fp
 obj:∀i h,tn i h->∀b∈fp,∃o,h.get? b=some o/\∀v,o.data≠.cell v
 keep:∀i h h',tn i h->(∀b∈fp,∀o,h.get? b=some o->h'.get? b=some o)->tn i h'
 item:∀(X:Cx),X.prog=P->X.w=w->X.K=K->X.calm=true->∀(i:Nat) (pins:List (Addr×Obj)) (s:Shared) (σ:St) (H:Hp) (E:Value->Shared->Prop),Inv X pins σ H s->(∀b∈fp,o9 X pins H b)->tn i s.heap->J.go i H ->
  wpAny (model P w) X.A (pyNext (.ref it)) (fun r s1=>∃u,r=some u /\
   wpAny (model P w) X.A (letOwnedTupleGo tg (.ref it) u) (fun _ s2=>∃x H',Inv X pins σ H' s2/\O2 x u/\J.yld i H x H'/\tn (i+1) s2.heap/\∀b∈fp,H' b=none) E s1) E s
 done:∀(X:Cx),X.prog=P->X.w=w->X.K=K->X.calm=true->∀(i:Nat) (pins:List (Addr×Obj)) (s:Shared) (σ:St) (H:Hp) (E:Value->Shared->Prop),Inv X pins σ H s->(∀b∈fp,o9 X pins H b)->tn i s.heap->J.stop i H ->
  wpAny (model P w) X.A (pyNext (.ref it)) (fun r s1=>r=none/\Inv X pins σ H s1) E s
 self:∀(A:Around) (i:Nat) (s:Shared) (Q:Value->Shared->Prop) (E:Value->Shared->Prop),tn i s.heap->Q (.ref it) s->wpAny (model P w) A (pyIter (.ref it)) Q E s
noncomputable abbrev TI:=St->Hp->(It->Hp->Prop)->Prop
noncomputable def PIE(X:Cx) (pins:List (Addr×Obj)) (σ:St) (tg:Expr) (R:It->Hp->Prop) (itv:Value) (s2:Shared):Prop :=
 ∃(it:Addr) (fp:List Addr) (tn:Nat->Heap->Prop) (J:It) (H':Hp),itv=.ref it/\Inv X pins σ H' s2/\Turn X.prog X.w X.K tg J fp it tn/\tn 0 s2.heap/\(∀b∈fp,o9 X pins H' b)/\R J H'
noncomputable def PI(X:Cx) (tg iter:Expr) (wi:TI):Prop :=
 ∀(pins:List (Addr×Obj)) (s:Shared) (σ:St) (H:Hp) (R:It->Hp->Prop),Inv X pins σ H s->wi σ H R ->
  wpAny (model X.prog X.w) X.A (eval iter X.env) (fun v s1=>wpAny (model X.prog X.w) X.A (pyIter v) (PIE X pins σ tg R) X.xe s1) X.xe s
theorem bg4{M:Model}{A:Around}{E:Value->Shared->Prop}{s:Shared}{tg:Expr}{it:Addr}{u:Value}{o:Obj}{n:String}{vs:Array Value}{Q:Unit->Shared->Prop}(ho:s.heap.get? it=some o) (hc:o.cls=.type n) (hd:o.data=.fields vs)
    (hn:["enumerate", "zip", "dict_itemiterator", "dict_reverseitemiterator", "odict_iterator", "itertools.zip_longest", "itertools.pairwise"].contains n=false) (hQ:Q () s):wpAny M A (letOwnedTupleGo tg (.ref it) u) Q E s:=by
  unfold letOwnedTupleGo
  cases tg<;>first
    | exact wpAny_pure hQ
    | (cases u<;>first
        | exact wpAny_pure hQ
        | (refine wpAny_bind (wpAny_load ho ?_)
           rw[hc,hd]
           show wpAny M A (if(["enumerate", "zip", "dict_itemiterator", "dict_reverseitemiterator", "odict_iterator", "itertools.zip_longest", "itertools.pairwise"].contains n&&vs[0]? == some (rawInt _))=true then _ else _) Q E s
           rw[if_neg (by intro h;rw[hn,Bool.false_and]at h;cases h)]
           exact wpAny_pure hQ))
noncomputable def Itl(K:PySem.W.Frag) (a:Addr):It :=
 ⟨fun i H=>∃xs x,SqL K H a xs/\xs[i]? = some x,fun i H x H'=>H'=H/\∀xs,SqL K H a xs->xs[i]? = some x,fun i H=>∃xs,SqL K H a xs/\xs.length<=i⟩
noncomputable def Itt(K:PySem.W.Frag) (a:Addr):It :=
 ⟨fun i H=>∃xs x,SqT K H a xs/\xs[i]? = some x,fun i H x H'=>H'=H/\∀xs,SqT K H a xs->xs[i]? = some x,fun i H=>∃xs,SqT K H a xs/\xs.length<=i⟩
noncomputable def Itr(lo:Int) (n:Nat):It:=⟨fun i _=>i < n,fun i H x H'=>H'=H/\x=.int (lo+i),fun i _=>n<=i⟩
theorem bi9{P:Program}{w:World}{K:PySem.W.Frag}{tg:Expr}(a it:Addr):Turn P w K tg (Itl K a) [it] it (fun i h=>h.IsListIter it a i) where
 mem:=by simp
 obj:=fun i h st b hb=>by
  have e:b=it:=by simpa using hb
  subst e
  obtain⟨o,e,c,d⟩:=st
  exact⟨o,e,fun v z=>by rw[d]at z;cases z⟩
 keep:=fun i h h' st k=>st.at fun o e=>k it (by simp) o e
 item:=by
  intro X hP hw hK hc i pins s σ H E I hf st hg
  subst hP hw hK
  obtain⟨xs,x,hq,hx⟩:=hg
  obtain⟨its,rv,p,hz⟩:=I.list hq
  obtain⟨u,hu,ru⟩:=rv.get hx
  obtain⟨f0,f1,f2,f3,f4,f5⟩:=hf it (by simp)
  refine wpAny_pyNext_list_item st p.isList (x:=u) (by simpa using hu) fun h' st' sb=>?_
  have I1:Inv X pins σ H { s with heap:=h' }:=I.turned (t':=s.toks) (fun b o hb e=>(sb.2 b hb).trans e) f0 f1 f3 f4 f5
  obtain⟨o,e,c,d⟩:=id st'
  exact⟨u,rfl,bg4 (s:={ s with heap:=h' }) e c d (by decide) ⟨x,H,I1,ru,⟨rfl,fun ys hy=>by rw[I.list_inj hy hq];exact hx⟩,st',fun b hb=>(hf b hb).1⟩⟩
 done:=by
  intro X hP hw hK hc i pins s σ H E I hf st hg
  subst hP hw hK
  obtain⟨xs,hq,hx⟩:=hg
  obtain⟨its,rv,p,hz⟩:=I.list hq
  obtain⟨f0,f1,f2,f3,f4,f5⟩:=hf it (by simp)
  have hl:=rv.length
  exact wpAny_pyNext_list_end (I.ok.hd hc) st p.isList (by simp;omega) fun h' eb=>⟨rfl,I.turned (t':=s.toks) (fun b o hb e=>eb b o hb e) f0 f1 f3 f4 f5⟩
 self:=fun _ _ _ _ _ st h=>wpAny_pyIter_listiter st h
theorem aW0{P:Program}{w:World}{K:PySem.W.Frag}{tg:Expr}(a it:Addr):Turn P w K tg (Itt K a) [it] it (fun i h=>h.IsTupleIter it a i) where
 mem:=by simp
 obj:=fun i h st b hb=>by
  have e:b=it:=by simpa using hb
  subst e
  obtain⟨o,e,c,d⟩:=st
  exact⟨o,e,fun v z=>by rw[d]at z;cases z⟩
 keep:=fun i h h' st k=>st.at fun o e=>k it (by simp) o e
 item:=by
  intro X hP hw hK hc i pins s σ H E I hf st hg
  subst hP hw hK
  obtain⟨xs,x,hq,hx⟩:=hg
  obtain⟨its,rv,p,hz⟩:=I.tuple hq
  obtain⟨u,hu,ru⟩:=rv.get hx
  obtain⟨f0,f1,f2,f3,f4,f5⟩:=hf it (by simp)
  refine wpAny_pyNext_tuple_item st (show s.heap.IsTuple a its.toArray from p) (x:=u) (by simpa using hu) fun h' st' sb=>?_
  have I1:Inv X pins σ H { s with heap:=h' }:=I.turned (t':=s.toks) (fun b o hb e=>(sb.2 b hb).trans e) f0 f1 f3 f4 f5
  obtain⟨o,e,c,d⟩:=id st'
  exact⟨u,rfl,bg4 (s:={ s with heap:=h' }) e c d (by decide) ⟨x,H,I1,ru,⟨rfl,fun ys hy=>by rw[I.tuple_inj hy hq];exact hx⟩,st',fun b hb=>(hf b hb).1⟩⟩
 done:=by
  intro X hP hw hK hc i pins s σ H E I hf st hg
  subst hP hw hK
  obtain⟨xs,hq,hx⟩:=hg
  obtain⟨its,rv,p,hz⟩:=I.tuple hq
  obtain⟨f0,f1,f2,f3,f4,f5⟩:=hf it (by simp)
  have hl:=rv.length
  exact wpAny_pyNext_tuple_end (I.ok.hd hc) st (show s.heap.IsTuple a its.toArray from p) (by simp;omega) fun h' eb=>⟨rfl,I.turned (t':=s.toks) (fun b o hb e=>eb b o hb e) f0 f1 f3 f4 f5⟩
 self:=fun _ _ _ _ _ st h=>wpAny_pyIter_tupleiter st h
theorem aW1{P:Program}{w:World}{K:PySem.W.Frag}{tg:Expr}(it:Addr) (lo:Int) (n:Nat):Turn P w K tg (Itr lo n) [it] it (fun i h=>IsRangeIter h it (lo+(i:Nat)*1) ((n:Int) - (i:Nat)) 1) where
 mem:=by simp
 obj:=fun i h st b hb=>by
  have e:b=it:=by simpa using hb
  subst e
  exact⟨_,st,fun v z=>by
   have z':Data.fields _=Data.cell v:=z
   cases z'⟩
 keep:=fun i h h' st k=>k it (by simp) _ st
 item:=by
  intro X hP hw hK hc i pins s σ H E I hf st hg
  subst hP hw hK
  obtain⟨f0,f1,f2,f3,f4,f5⟩:=hf it (by simp)
  have W:=Walks.range (prog:=X.prog) (w:=X.w) (I.ok.hd hc) it lo 1 n
  refine W.item i s _ _ hg st fun v h' tk hv st' kk=>?_
  obtain⟨t,rfl⟩:=hv
  have I1:Inv X pins σ H { s with heap:=h',toks:=tk }:=I.turned (fun b o hb e=>kk b o (by simpa using hb) e) f0 f1 f3 f4 f5
  refine⟨_,rfl,bg4 (s:={ s with heap:=h',toks:=tk }) (n := "range_iterator") st' rfl rfl (by decide) ⟨.int (lo+i),H,I1,⟨t,?_⟩,⟨rfl,rfl⟩,st',fun b hb=>(hf b hb).1⟩⟩
  rw[Int.mul_one]
 done:=by
  intro X hP hw hK hc i pins s σ H E I hf st hg
  subst hP hw hK
  obtain⟨f0,f1,f2,f3,f4,f5⟩:=hf it (by simp)
  exact wpAny_pyNext_range_end (I.ok.hd hc) st (by have:n<=i:=hg;omega) fun h' eb=>⟨rfl,I.turned (t':=s.toks) (fun b o hb e=>eb b o hb e) f0 f1 f3 f4 f5⟩
 self:=fun _ _ _ _ _ st h=>wpAny_pyIter_rangeiter st h
section
variable {X:Cx}{tg:Expr}
noncomputable def cr8(K:PySem.W.Frag) (tl:TE):TI:=fun σ H R=>tl σ H fun x H1=>∃a,x=.ref a/\(∃xs,SqL K H1 a xs)/\R (Itl K a) H1
noncomputable def cw2(K:PySem.W.Frag) (tl:TE):TI:=fun σ H R=>tl σ H fun x H1=>∃a,x=.ref a/\(∃xs,SqT K H1 a xs)/\R (Itt K a) H1
theorem bK7{l:Expr}{tl:TE}(hl:PE X l tl):PI X tg l (cr8 X.K tl):=by
 intro pins s σ H R I h
 refine thn (hl pins s σ H _ I h) fun v s1 ⟨x,H1,I1,r1,q1⟩=>?_
 obtain⟨a,e,⟨xs,hq⟩,q⟩:=q1
 subst e
 cases r1
 obtain⟨its,rv,p,hz⟩:=I1.list hq
 refine wpAny_pyIter_list p.isList ?_
 refine⟨s1.heap.objs.size,[s1.heap.objs.size],_,_,H1,rfl,I1.kept (t':=s1.toks) fun b o e=>Heap.get?_push_of_some _ e,bi9 a _,⟨_,Heap.get?_push_size _ rfl,rfl,rfl⟩,fun b hb=>?_,q⟩
 have e:b=s1.heap.objs.size:=by simpa using hb
 subst e
 exact I1.fpOk (Nat.le_refl _) (I1.hok.fresh (Nat.le_refl _))
theorem bZ1{l:Expr}{tl:TE}(hl:PE X l tl):PI X tg l (cw2 X.K tl):=by
 intro pins s σ H R I h
 refine thn (hl pins s σ H _ I h) fun v s1 ⟨x,H1,I1,r1,q1⟩=>?_
 obtain⟨a,e,⟨xs,hq⟩,q⟩:=q1
 subst e
 cases r1
 obtain⟨its,rv,p,hz⟩:=I1.tuple hq
 refine wpAny_pyIter_tuple (show s1.heap.IsTuple a its.toArray from p) ?_
 refine⟨s1.heap.objs.size,[s1.heap.objs.size],_,_,H1,rfl,I1.kept (t':=s1.toks) fun b o e=>Heap.get?_push_of_some _ e,aW0 a _,⟨_,Heap.get?_push_size _ rfl,rfl,rfl⟩,fun b hb=>?_,q⟩
 have e:b=s1.heap.objs.size:=by simpa using hb
 subst e
 exact I1.fpOk (Nat.le_refl _) (I1.hok.fresh (Nat.le_refl _))
theorem bu1{pins:List (Addr×Obj)}{σ:St}{H:Hp}{s:Shared}{R:It->Hp->Prop}{E:Value->Shared->Prop}{lo hi:Int}{t u v:Tok}{tk:Nat}(I:Inv X pins σ H s) (h1:-(2 ^ 62)<=lo) (h2:lo < 2 ^ 62) (h3:-(2 ^ 62)<=hi) (h4:hi < 2 ^ 62)
  (q:R (Itr lo (hi - lo).toNat) H):wpAny (model X.prog X.w) X.A (pyIter (.ref s.heap.objs.size)) (PIE X pins σ tg R) E { s with heap:=s.heap.push { cls:=.type "range", data:=.fields #[.int lo t,.int hi u,.int 1 v] },toks:=tk }:=by
 refine wpAny_pyIter_range (IsRange.new ..) (small_one h1 h2 h3 h4) ?_
 have I1:Inv X pins σ H { s with heap:=s.heap.push { cls:=.type "range", data:=.fields #[.int lo t,.int hi u,.int 1 v] },toks:=tk }:=I.kept fun b o e=>Heap.get?_push_of_some _ e
 refine⟨(s.heap.push { cls:=.type "range", data:=.fields #[.int lo t,.int hi u,.int 1 v] }).objs.size,[(s.heap.push { cls:=.type "range", data:=.fields #[.int lo t,.int hi u,.int 1 v] }).objs.size],_,_,H,rfl,
  I1.kept (t':=tk) fun b o e=>Heap.get?_push_of_some _ e,aW1 _ lo (hi - lo).toNat,?_,fun b hb=>?_,q⟩
 ·have e1:lo+((0:Nat):Int)*1=lo:=by simp
  have e2:(((hi - lo).toNat:Nat):Int) - ((0:Nat):Int)=Builtin.Range.rangeSize lo hi 1:=by rw[rangeSize_one];split<;>omega
  show IsRangeIter _ _ (lo+((0:Nat):Int)*1) ((((hi - lo).toNat:Nat):Int) - ((0:Nat):Int)) 1
  rw[e1,e2]
  exact Heap.get?_push_size _ rfl
 ·have e:b=(s.heap.push { cls:=.type "range", data:=.fields #[.int lo t,.int hi u,.int 1 v] }).objs.size:=by simpa using hb
  subst e
  exact I1.fpOk (Nat.le_refl _) (I1.hok.fresh (Nat.le_refl _))
noncomputable def cr7(ta:TA):TI:=fun σ H R=>ta σ H fun vs H1=>∃j:Int,vs=[.int j]/\-(2 ^ 62)<=j/\j < 2 ^ 62/\R (Itr 0 j.toNat) H1
theorem bk1{a:Expr}{ta:TA}{p pos:Pos}(hg:Gl X "range") (hm:X.mg "range" = none) (ha:PA X [a] ta) (hs:starEach [a] X.env=[(false,eval a X.env)]:=by rfl):PI X tg (.Call (.Name "range" p) [a] [] pos) (cr7 ta):=by
 intro pins s σ H R I h
 refine Call_ (ai9 I hg hm boot_range (PyProof.Rows.callWith_type1 (thn (ha pos pins s σ H _ I h) fun us s1 ⟨vs,H1,I1,r1,q1⟩=>?_) hs rfl))
 obtain⟨j,e,q1,q2,q⟩:=q1
 subst e
 cases r1 with
 | cons r rr =>
  cases rr
  obtain⟨t,rfl⟩:=r
  exact call_range_1 (bu1 I1 (by omega) (by omega) q1 q2 (by simpa using q))
noncomputable def cu9(wi:TI) (g:TG) (tb:TS):TS:=fun D σ H=>wi σ H fun J H1=>∃W:Nat->Nat->St->Hp->Prop,(∃m,W 0 m σ H1)/\∀i m σ H,W i m σ H ->
 (J.stop i H/\D.nx σ H)\/(J.go i H/\∃N:St->Hp->Prop,(∀σ' H',N σ' H'->∃m',m' < m/\W (i+1) m' σ' H')/\∀x H',J.yld i H x H'->g x σ H' fun σ2 H2=>tb { D with nx:=N,ct:=N,bk:=D.nx } σ2 H2)
noncomputable def aw8(fp:List Addr) (h:Heap):List (Addr×Obj):=fp.filterMap fun b=>(h.get? b).map fun o=>(b,o)
theorem aa6{fp:List Addr}{h:Heap}{b:Addr}{o:Obj}(hb:b∈fp) (e:h.get? b=some o):(b,o)∈aw8 fp h:=List.mem_filterMap.mpr ⟨b,hb,by rw[e];rfl⟩
theorem bk5{fp:List Addr}{h:Heap}{p:Addr×Obj}(hp:p∈aw8 fp h):p.1∈fp/\h.get? p.1=some p.2:=by
 obtain⟨b,hb,e⟩:=List.mem_filterMap.mp hp
 cases q:h.get? b with
 | none=>rw[q]at e;cases e
 | some o =>
  rw[q]at e
  have e':(b,o)=p:=Option.some.inj e
  subst e'
  exact⟨hb,q⟩
theorem Inv.pinned{pins:List (Addr×Obj)}{σ:St}{H:Hp}{s:Shared}{fp:List Addr}(I:Inv X pins σ H s) (hf:∀b∈fp,o9 X pins H b) (ho:∀b∈fp,∃o,s.heap.get? b=some o/\∀v,o.data≠.cell v):Inv X (pins++aw8 fp s.heap) σ H s :=
 I.pins_of fun p hp=>(List.mem_append.mp hp).elim (fun z=>I.pin p (List.mem_append_right _ z)) fun z=>by
  obtain⟨hb,e⟩:=bk5 z
  obtain⟨f0,f1,f2,_⟩:=hf p.1 hb
  obtain⟨o,e',d⟩:=ho p.1 hb
  rw[e]at e';cases e'
  exact⟨e,f0,f1,f2,d⟩
theorem Inv.unpinned{pins pl:List (Addr×Obj)}{σ:St}{H:Hp}{s:Shared}(I:Inv X (pins++pl) σ H s):Inv X pins σ H s:=I.pins_of fun p hp=>I.pin p (List.mem_append_right _ (List.mem_append_left _ hp))
theorem bu6{iter:Expr}{body:List Stmt}{wi:TI}{g:TG}{tb:TS}{pos:Pos}(hp:PassesOwn (model X.prog X.w) X.A X.env X.xe) (hc:X.calm=true) (hi:PI X tg iter wi) (hg:PG X tg g) (hb:PSs X body tb)
  (hs:∀x,foldedSetIterable iter X.env x=pure x:=by intro _;rfl):PS X (.For tg iter body [] pos) (cu9 wi g tb):=by
 intro pins s σ H D I h
 refine wpAny_For (thn (hi pins s σ H _ I h) fun v s1 h1=>thn h1 fun itv s2 h2=>?_) hs
 obtain⟨it,fp,tn,J,H2,e,I2,T,st2,f2,W,⟨m0,w0⟩,turn⟩:=h2
 subst e
 have stat:∀{H':Hp},(∀b∈fp,H' b=none)->∀b∈fp,o9 X pins H' b:=fun hn b hb=>⟨hn b hb,(f2 b hb).2⟩
 refine codeAny_forLoop_any (fun n s'=>∃i σ' H',Inv X pins σ' H' s'/\tn i s'.heap/\(∀b∈fp,H' b=none)/\W i n σ' H') ?_ m0 ⟨0,σ,H2,I2,st2,fun b hb=>(f2 b hb).1,w0⟩
 rintro n s3 ⟨i,σ3,H3,I3,st3,fr3,w3⟩
 rcases turn i n σ3 H3 w3 with⟨stop,qn⟩|⟨go,N,hN,step⟩
 ·refine wpAny_passesOwn hp (thn (T.done X rfl rfl rfl hc i pins s3 σ3 H3 X.xe I3 (stat fr3) st3 stop) fun r s4 ⟨hr,I4⟩=>?_)
  subst hr
  exact wpAny_execs_nil ⟨σ3,H3,I4,qn⟩
 ·refine wpAny_passesOwn hp (thn (T.item X rfl rfl rfl hc i pins s3 σ3 H3 X.xe I3 (stat fr3) st3 go) fun r s4 ⟨u,hr,h4⟩=>?_)
  subst hr
  refine wpAny_passesOwn hp (thn h4 fun _ s5 ⟨x,H5,I5,r5,y5,st5,fr5⟩=>?_)
  have I5':=I5.pinned (stat fr5) (T.obj _ _ st5)
  refine wpAny_passesOwn hp (thn (hg _ s5 σ3 H5 x u _ I5' r5 (step x H5 y5)) fun _ s6 ⟨σ6,H6,I6,q6⟩=>?_)
  refine wpAny_passesOwn hp (thn (hb _ s6 σ6 H6 _ I6 q6) fun f s7 q7=>?_)
  have again:∀{σ7:St}{H7:Hp},Inv X (pins++aw8 fp s5.heap) σ7 H7 s7->N σ7 H7->∃m,m < n/\∃i σ' H',Inv X pins σ' H' s7/\tn i s7.heap/\(∀b∈fp,H' b=none)/\W i m σ' H':=fun{σ7 H7} I7 n7=>by
   obtain⟨m',hm,w7⟩:=hN σ7 H7 n7
   refine⟨m',hm,i+1,σ7,H7,I7.unpinned,T.keep _ _ _ st5 fun b hb o e=>(I7.pin (b,o) (List.mem_append_right _ (List.mem_append_right _ (aa6 hb e)))).1,fun b hb=>?_,w7⟩
   obtain⟨o,e,d⟩:=T.obj _ _ st5 b hb
   exact(I7.pin (b,o) (List.mem_append_right _ (List.mem_append_right _ (aa6 hb e)))).2.1
  cases f with
  | next=>obtain⟨σ7,H7,I7,n7⟩:=q7;exact again I7 n7
  | cont=>obtain⟨σ7,H7,I7,n7⟩:=q7;exact again I7 n7
  | brk=>obtain⟨σ7,H7,I7,q7⟩:=q7;exact⟨σ7,H7,I7.unpinned,q7⟩
  | ret v=>obtain⟨x7,σ7,H7,I7,r7,q7⟩:=q7;exact⟨x7,σ7,H7,I7.unpinned,r7,q7⟩
end
noncomputable abbrev R2:=V->V->Hp->VK->Prop
noncomputable def OpR(X:Cx) (f:Value->Value->Sem Value) (r:R2):Prop :=
 ∀(pins:List (Addr×Obj)) (s:Shared) (σ:St) (H:Hp) (x y:V) (v u:Value) (Q:VK),Inv X pins σ H s->O2 x v->O2 y u->r x y H Q ->
  wpAny (model X.prog X.w) X.A (f v u) (EP X pins σ Q) X.xe s
noncomputable def UnR(X:Cx) (f:Value->Sem Value) (r:V->Hp->VK->Prop):Prop :=
 ∀(pins:List (Addr×Obj)) (s:Shared) (σ:St) (H:Hp) (x:V) (v:Value) (Q:VK),Inv X pins σ H s->O2 x v->r x H Q ->
  wpAny (model X.prog X.w) X.A (f v) (EP X pins σ Q) X.xe s
noncomputable def ai5(X:Cx) (f:Value) (r:List V->Hp->VK->Prop):Prop :=
 ∀(pins:List (Addr×Obj)) (s:Shared) (σ:St) (H:Hp) (xs:List V) (us:List Value) (Q:VK),Inv X pins σ H s->M0 xs us->r xs H Q ->
  wpAny (model X.prog X.w) X.A (call f us) (EP X pins σ Q) X.xe s
noncomputable def cx3(X:Cx) (r:V->Hp->(Bool->Hp->Prop)->Prop):Prop :=
 ∀(pins:List (Addr×Obj)) (s:Shared) (σ:St) (H:Hp) (x:V) (v:Value) (Q:Bool->Hp->Prop),Inv X pins σ H s->O2 x v->r x H Q ->
  wpAny (model X.prog X.w) X.A (truthy v) (TP X pins σ Q) X.xe s
noncomputable def tOp(r:R2) (ta tb:TE):TE:=fun σ H Q=>ta σ H fun x H1=>tb σ H1 fun y H2=>r x y H2 Q
noncomputable def tUn(r:V->Hp->VK->Prop) (ta:TE):TE:=fun σ H Q=>ta σ H fun x H1=>r x H1 Q
noncomputable def rI(C:Int->Int->Prop) (g:Int->Int->V):R2:=fun x y H Q=>∃i j,x=.int i/\y=.int j/\C i j/\Q (g i j) H
noncomputable def rI0(g:Int->Int->V):R2:=fun x y H Q=>∃i j,x=.int i/\y=.int j/\Q (g i j) H
noncomputable def rU(g:Int->V):V->Hp->VK->Prop:=fun x H Q=>∃i,x=.int i/\Q (g i) H
section
variable {X:Cx}{a b c:Expr}{ta tb tc:TE}{pos:Pos}
theorem cj2(ha:PE X a ta) (hb:PE X b tb) {pins:List (Addr×Obj)}{s:Shared}{σ:St}{H:Hp}{R:V->V->Hp->Prop}(I:Inv X pins σ H s)
  (h:ta σ H fun x H1=>tb σ H1 fun y H2=>R x y H2) {Q:Value->Shared->Prop}{f:Value->Value->Sem Value}
  (hf:∀v u s2 x y H2,Inv X pins σ H2 s2->O2 x v->O2 y u->R x y H2->wpAny (model X.prog X.w) X.A (f v u) Q X.xe s2) :
  wpAny (model X.prog X.w) X.A (eval a X.env) (fun v s₁=>wpAny (model X.prog X.w) X.A (eval b X.env) (fun u s₂=>wpAny (model X.prog X.w) X.A (f v u) Q X.xe s₂) X.xe s₁) X.xe s:=by
 refine thn (ha pins s σ H _ I h) fun v s1 ⟨x,H1,I1,r1,q1⟩=>?_
 refine thn (hb pins s1 σ H1 _ I1 q1) fun u s2 ⟨y,H2,I2,r2,q2⟩=>?_
 exact hf v u s2 x y H2 I2 r1 r2 q2
theorem bT9{op:Operator}{r:R2}(ho:OpR X (binaryOp op) r) (ha:PE X a ta) (hb:PE X b tb):PE X (.BinOp a op b pos) (tOp r ta tb):=by
 intro pins s σ H Q I h
 exact wpAny_BinOp (cj2 ha hb I h fun v u s2 x y H2 I2 rx ry q=>ho pins s2 σ H2 x y v u Q I2 rx ry q)
theorem cn8{op:UnaryOp}{r:V->Hp->VK->Prop}(ho:UnR X (unaryOp op) r) (ha:PE X a ta):PE X (.UnaryOp op a pos) (tUn r ta):=by
 intro pins s σ H Q I h
 exact UnaryOp_ (thn (ha pins s σ H _ I h) fun v s1 ⟨x,H1,I1,r1,q1⟩=>ho pins s1 σ H1 x v Q I1 r1 q1)
theorem opI{f:Value->Value->Sem Value}{C:Int->Int->Prop}{g:Int->Int->Int}
  (rule:∀(i j:Int) (t u:Tok) (s:Shared) (Q:Value->Shared->Prop) (E:Value->Shared->Prop),C i j->Q (.int (g i j) s.toks) { s with toks:=s.toks+1 }->wpAny (model X.prog X.w) X.A (f (.int i t) (.int j u)) Q E s) :
  OpR X f (rI C fun i j=>.int (g i j)):=by
 intro pins s σ H x y v u Q I rx ry h
 obtain⟨i,j,rfl,rfl,hc,q⟩:=h
 obtain⟨t,rfl⟩:=rx
 obtain⟨t',rfl⟩:=ry
 exact rule i j t t' s _ _ hc ⟨.int (g i j),H,I.tok _,⟨_,rfl⟩,q⟩
theorem co5{f:Value->Value->Sem Value}{g:Int->Int->Int}
  (rule:∀(i j:Int) (t u:Tok) (s:Shared) (Q:Value->Shared->Prop) (E:Value->Shared->Prop),Q (.int (g i j) s.toks) { s with toks:=s.toks+1 }->wpAny (model X.prog X.w) X.A (f (.int i t) (.int j u)) Q E s) :
  OpR X f (rI0 fun i j=>.int (g i j)):=by
 intro pins s σ H x y v u Q I rx ry h
 obtain⟨i,j,rfl,rfl,q⟩:=h
 obtain⟨t,rfl⟩:=rx
 obtain⟨t',rfl⟩:=ry
 exact rule i j t t' s _ _ ⟨.int (g i j),H,I.tok _,⟨_,rfl⟩,q⟩
theorem bL9{f:Value->Value->Sem Value}{g:Int->Int->Bool}
  (rule:∀(i j:Int) (t u:Tok) (s:Shared) (Q:Value->Shared->Prop) (E:Value->Shared->Prop),Q (.bool (g i j)) s->wpAny (model X.prog X.w) X.A (f (.int i t) (.int j u)) Q E s) :
  OpR X f (rI0 fun i j=>.bl (g i j)):=by
 intro pins s σ H x y v u Q I rx ry h
 obtain⟨i,j,rfl,rfl,q⟩:=h
 obtain⟨t,rfl⟩:=rx
 obtain⟨t',rfl⟩:=ry
 exact rule i j t t' s _ _ ⟨.bl (g i j),H,I,rfl,q⟩
theorem bv6:OpR X (binaryOp .Add) (rI0 fun i j=>.int (i+j)):=co5 fun _ _ _ _ _ _ _ q=>add_int q
theorem ca2:OpR X (binaryOp .Sub) (rI0 fun i j=>.int (i - j)):=co5 fun _ _ _ _ _ _ _ q=>sub_int q
theorem ca3:OpR X (binaryOp .Mod) (rI (fun _ j=>0 < j) fun i j=>.int (i % j)):=opI fun i j _ _ _ _ _ hc q=>by
 have h1:(0:Int) < j:=hc
 exact mod_int' (by omega) (by rw[Int.fmod_eq_emod_of_nonneg i (by omega)];exact q)
theorem unI{f:Value->Sem Value}{g:Int->Int}
  (rule:∀(i:Int) (t:Tok) (s:Shared) (Q:Value->Shared->Prop) (E:Value->Shared->Prop),Q (.int (g i) s.toks) { s with toks:=s.toks+1 }->wpAny (model X.prog X.w) X.A (f (.int i t)) Q E s) :
  UnR X f (rU fun i=>.int (g i)):=by
 intro pins s σ H x v Q I rx h
 obtain⟨i,rfl,q⟩:=h
 obtain⟨t,rfl⟩:=rx
 exact rule i t s _ _ ⟨.int (g i),H,I.tok _,⟨_,rfl⟩,q⟩
theorem bW8:UnR X (unaryOp .USub) (rU fun i=>.int (-i)):=unI fun _ _ _ _ _ q=>neg_int q
end
section
variable {X:Cx}{a b c:Expr}{ta tb tc:TE}{pos:Pos}
theorem bD2{pins:List (Addr×Obj)}{σ:St}{H:Hp}{s:Shared}{Q:VK}{k k':Bool}(I:Inv X pins σ H s) (q:Q (.bl k) H) (e:k=k'):EP X pins σ Q (.bool k') s:=by
 subst e
 exact⟨.bl k,H,I,rfl,q⟩
theorem co1:OpR X (compareOp .Lt) (rI0 fun i j=>.bl (decide (i < j))):=bL9 fun _ _ _ _ _ _ _ q=>lt_int q
theorem co2:OpR X (compareOp .LtE) (rI0 fun i j=>.bl (decide (i<=j))):=bL9 fun _ _ _ _ _ _ _ q=>le_int q
theorem co3:OpR X (compareOp .Gt) (rI0 fun i j=>.bl (decide (j < i))):=bL9 fun _ _ _ _ _ _ _ q=>gt_int q
theorem co4:OpR X (compareOp .GtE) (rI0 fun i j=>.bl (decide (j<=i))):=bL9 fun _ _ _ _ _ _ _ q=>ge_int q
theorem ca4:OpR X (compareOp .Is) (fun x y H Q=>y=.non/\Q (.bl (decide (x=.non))) H):=by
 intro pins s σ H x y v u Q I rx ry h
 obtain⟨rfl,q⟩:=h
 cases ry
 refine is_none_gen (bD2 I q ?_)
 cases x<;>first
  | (cases rx;rfl)
  | (obtain⟨t,rfl⟩:=rx;rfl)
theorem bL6:OpR X (compareOp .IsNot) (fun x y H Q=>y=.non/\Q (.bl (!decide (x=.non))) H):=by
 intro pins s σ H x y v u Q I rx ry h
 obtain⟨rfl,q⟩:=h
 cases ry
 refine isnot_none_gen (bD2 I q ?_)
 cases x<;>first
  | (cases rx;rfl)
  | (obtain⟨t,rfl⟩:=rx;rfl)
theorem bw1(b:Expr) {op:CmpOp}(h:op≠.In:=by decide) (h2:op≠.NotIn:=by decide):behindInMarks op b=false:=by
 have e1:(op==CmpOp.In)=false:=by cases op<;>first|rfl|exact absurd rfl h
 have e2:(op==CmpOp.NotIn)=false:=by cases op<;>first|rfl|exact absurd rfl h2
 cases b<;>simp[behindInMarks,e1,e2]
theorem bL1{op:CmpOp}{r:R2}(ho:OpR X (compareOp op) r) (ha:PE X a ta) (hb:PE X b tb) (hm:behindInMarks op b=false):PE X (.Compare a [op] [b] pos) (tOp r ta tb):=by
 intro pins s σ H Q I h
 exact wpAny_Compare1 (cj2 ha hb I h fun v u s2 x y H2 I2 rx ry q=>ho pins s2 σ H2 x y v u Q I2 rx ry q) hm
noncomputable def bT0(t:TE):TT:=fun σ H Q=>t σ H fun x H'=>∃k,x=.bl k/\Q k H'
theorem bK1{op:CmpOp}{r:R2}(ho:OpR X (compareOp op) r) (ha:PE X a ta) (hb:PE X b tb) (hm:behindInMarks op b=false):PT X (.Compare a [op] [b] pos) (bT0 (tOp r ta tb)):=by
 intro pins s σ H Q I h
 refine wpAny_isTrue_Compare1 (thn (ha pins s σ H _ I h) fun v s1 ⟨x,H1,I1,r1,q1⟩=>thn (hb pins s1 σ H1 _ I1 q1) fun u s2 ⟨y,H2,I2,r2,q2⟩ =>thn (ho pins s2 σ H2 x y v u _ I2 r1 r2 q2) fun c s3 ⟨z,H3,I3,r3,k,e,q3⟩=>?_) hm
 subst e
 cases r3
 exact wpAny_truthy_bool ⟨H3,I3,q3⟩
noncomputable def bs7(r r':R2) (ta tb tc:TE):TE:=fun σ H Q=>ta σ H fun x H1=>tb σ H1 fun y H2=>r x y H2 fun z H3=>∃k,z=.bl k /\
 (if k=true then tc σ H3 fun w' H4=>r' y w' H4 Q else Q (.bl false) H3)
theorem aP3{op op':CmpOp}{r r':R2}(ho:OpR X (compareOp op) r) (ho':OpR X (compareOp op') r') (ha:PE X a ta) (hb:PE X b tb) (hc:PE X c tc)
  (hm:lastMarks [op,op'] [b,c]=false:=by with_unfolding_all rfl):PE X (.Compare a [op,op'] [b,c] pos) (bs7 r r' ta tb tc):=by
 intro pins s σ H Q I h
 refine Compare_chain (thn (ha pins s σ H _ I h) fun v s1 ⟨x,H1,I1,r1,q1⟩=>chain_link (thn (hb pins s1 σ H1 _ I1 q1) fun u s2 ⟨y,H2,I2,r2,q2⟩ =>thn (ho pins s2 σ H2 x y v u _ I2 r1 r2 q2) fun d s3 ⟨z,H3,I3,r3,k,e,q3⟩=>?_)) hm
 subst e
 cases r3
 refine wpAny_truthy_bool ?_
 cases k with
 | false=>exact ite_ff ⟨.bl false,H3,I3,rfl,q3⟩
 | true=>exact ite_tt (chain_last (thn (hc pins s3 σ H3 _ I3 q3) fun w' s4 ⟨z',H4,I4,r4,q4⟩=>ho' pins s4 σ H4 y z' u w' Q I4 r2 r4 q4))
theorem aO9{op op':CmpOp}{r r':R2}(ho:OpR X (compareOp op) r) (ho':OpR X (compareOp op') r') (ha:PE X a ta) (hb:PE X b tb) (hc:PE X c tc)
  (hm:lastMarks [op,op'] [b,c]=false:=by with_unfolding_all rfl):PT X (.Compare a [op,op'] [b,c] pos) (bT0 (bs7 r r' ta tb tc)):=by
 intro pins s σ H Q I h
 refine isTrue_chain (thn (ha pins s σ H _ I h) fun v s1 ⟨x,H1,I1,r1,q1⟩=>test_link (thn (hb pins s1 σ H1 _ I1 q1) fun u s2 ⟨y,H2,I2,r2,q2⟩ =>thn (ho pins s2 σ H2 x y v u _ I2 r1 r2 q2) fun d s3 ⟨z,H3,I3,r3,k,e,q3⟩=>?_)) hm
 subst e
 cases r3
 refine wpAny_truthy_bool ?_
 cases k with
 | false =>
  obtain⟨k',e',q'⟩:=q3
  cases e'
  exact ite_ff ⟨H3,I3,q'⟩
 | true =>
  refine ite_tt (test_last (thn (hc pins s3 σ H3 _ I3 q3) fun w' s4 ⟨z',H4,I4,r4,q4⟩=>thn (ho' pins s4 σ H4 y z' u w' _ I4 r2 r4 q4) fun d' s5 ⟨z2,H5,I5,r5,k2,e2,q5⟩=>?_))
  subst e2
  cases r5
  exact wpAny_truthy_bool ⟨H5,I5,q5⟩
noncomputable def ct1(K:PySem.W.Frag) (x:V) (H:Hp) (k:Bool):Prop :=
 match x with
 | .non=>k=false
 | .bl b=>k=b
 | .int i=>k=(i != 0)
 | .str y=>y.length<=sizeLine/\k=((y.length:Int) != 0)
 | .byt y=>y.size<=sizeLine/\k=((y.size:Int) != 0)
 | .ref p=>(∃xs,SqL K H p xs/\k = !xs.isEmpty)\/(∃xs,SqT K H p xs/\k = !xs.isEmpty)\/∃kvs,H p=some (.dK kvs)/\k = !kvs.isEmpty
 | _=>False
theorem aZ0{κ:Type}{kvs:List (κ×V)}{vs:List (κ×Value)}(r:KV kvs vs):(!vs.isEmpty) = !kvs.isEmpty:=by cases r<;>rfl
theorem ax6{xs:List V}{its:List Value}(r:M0 xs its):(!its.toArray.isEmpty) = !xs.isEmpty:=by cases r<;>simp
theorem ax2:(sizeLine:Nat) < 2 ^ 63:=by rw[sizeLine_eq];decide
theorem bX3:cx3 X (fun x H Q=>∃k,ct1 X.K x H k/\Q k H):=by
 intro pins s σ H x v Q I rx h
 obtain⟨k,e,q⟩:=h
 have hl:=ax2
 have hs:sizeLine=16777216:=sizeLine_eq
 cases x with
 | non =>
  cases rx
  have e':k=false:=e
  subst e'
  exact truthy_none ⟨H,I,q⟩
 | bl b =>
  cases rx
  have e':k=b:=e
  subst e'
  exact wpAny_truthy_bool ⟨H,I,q⟩
 | int i =>
  obtain⟨t,rfl⟩:=rx
  have e':k=(i != 0):=e
  subst e'
  exact PySem.P.truthy_int ⟨H,I,q⟩
 | str y =>
  obtain⟨t,rfl⟩:=rx
  obtain⟨hy,e'⟩:y.length<=sizeLine/\k=((y.length:Int) != 0):=e
  subst e'
  exact PySem.P.truthy_str (by omega) ⟨H,I.tok _,q⟩
 | byt y =>
  obtain⟨t,rfl⟩:=rx
  obtain⟨hy,e'⟩:y.size<=sizeLine/\k=((y.size:Int) != 0):=e
  subst e'
  exact PySem.W.truthy_bytes (by omega) ⟨H,I.tok _,q⟩
 | ref p =>
  cases rx
  have e':(∃xs,SqL X.K H p xs/\k = !xs.isEmpty)\/(∃xs,SqT X.K H p xs/\k = !xs.isEmpty)\/∃kvs,H p=some (.dK kvs)/\k = !kvs.isEmpty:=e
  rcases e' with⟨xs,hx,e'⟩|⟨xs,hx,e'⟩|⟨kvs,hx,e'⟩
  ·subst e'
   obtain⟨its,r,pl,hz⟩:=I.list hx
   have hlen:=r.length
   exact wpAny_truthy_list pl.isList (by simp only[List.size_toArray];omega) ⟨H,I.tok _,by rw[ax6 r];exact q⟩
  ·subst e'
   obtain⟨its,r,pl,hz⟩:=I.tuple hx
   have hlen:=r.length
   exact truthy_tuple pl (by simp only[List.size_toArray];omega) ⟨H,I.tok _,by rw[ax6 r];exact q⟩
  ·subst e'
   obtain⟨hz,hS,vs,r,m⟩:kvs.length<=sizeLine/\(p==sysModules)=false/\∃vs,KV kvs vs/\s.heap.DictOf (aJ6 X.prog X.w) p vs:=I.hok p _ hx
   have hlen:kvs.length=vs.length:=Paired.length r
   exact wpAny_truthy_dict hS m (by omega) ⟨H,I.tok _,by rw[aZ0 r];exact q⟩
 | _=>exact(show False from e).elim
theorem bu3(ha:PE X a ta) (he:∀whole,isTrue a X.env whole=(do let v ← whole;standAt a.pos;holding [v] (truthy v))) :
  PT X a (fun σ H Q=>ta σ H fun x H'=>∃k,ct1 X.K x H' k/\Q k H'):=by
 intro pins s σ H Q I h
 exact isTrue_plain (thn (ha pins s σ H _ I h) fun v s1 ⟨x,H1,I1,r1,q1⟩=>bX3 pins s1 σ H1 x v Q I1 r1 q1) (he _)
theorem aX7:OpR X (binaryOp .Add) (fun x y H Q=>∃i j,x=.str i/\y=.str j/\i.length+j.length<=sizeLine/\Q (.str (i++j)) H):=by
 intro pins s σ H x y v u Q I rx ry h
 obtain⟨i,j,rfl,rfl,hz,q⟩:=h
 obtain⟨t,rfl⟩:=rx
 obtain⟨t',rfl⟩:=ry
 exact add_str (fun t' tk=>⟨.str (i++j),H,I.tok _,⟨_,rfl⟩,q⟩) hz
theorem aD0{x:V}{us:List Value}(r:M0 [x] us):∃u,us=[u]/\O2 x u:=by
 cases r with
 | cons r1 r2=>cases r2;exact⟨_,rfl,r1⟩
theorem br9{x y:V}{us:List Value}(r:M0 [x,y] us):∃u w',us=[u,w']/\O2 x u/\O2 y w':=by
 cases r with
 | cons r1 r2 =>
  cases r2 with
  | cons r3 r4=>cases r4;exact⟨_,_,rfl,r1,r3⟩
theorem aF4:ai5 X (.type "int") (fun xs H Q=>(∃i,xs=[.int i]/\Q (.int i) H)\/∃k,xs=[.bl k]/\Q (.int (if k then 1 else 0)) H):=by
 intro pins s σ H xs us Q I r h
 rcases h with⟨i,rfl,q⟩|⟨k,rfl,q⟩
 ·obtain⟨u,rfl,t,rfl⟩:=aD0 r
  exact call_int_int ⟨.int i,H,I,⟨_,rfl⟩,q⟩
 ·obtain⟨u,rfl,r1⟩:=aD0 r
  cases r1
  exact call_int_bool ⟨.int (if k then 1 else 0),H,I.tok _,⟨_,rfl⟩,q⟩
end
section
variable {prog:Program}{w:World}{A:Around}{E:Value->Shared->Prop}{s:Shared}{K:PySem.W.Frag}{x dx C f:Addr}{mA:Str->Option Value}{name:Str}{v:Value}
end
section
variable {P:Program}{w:World}{H H':Hp}{h h':Heap}{a C dx:Addr}{fs fs':List (Str×V)}
end
section
variable {X:Cx}{pins:List (Addr×Obj)}{σ:St}{H:Hp}{s:Shared}{a C dx:Addr}{fs:List (Str×V)}{f:Str}{v:V}{A:Around}{E:Value->Shared->Prop}
end
section
variable {X:Cx}{o e value:Expr}{f:Str}{pos pos' tpos:Pos}{ta tv:TE}
end
section
variable {X:Cx}{pins:List (Addr×Obj)}{σ:St}{H:Hp}{s:Shared}{A:Around}{E:Value->Shared->Prop}{Q:Value->Shared->Prop}{c:Value}{b:Bool}
end
structure Room (k:Nat) (A:Around):Prop where
 hd:A.handled=none
 dp:A.depth+3*k+5 < recursionLimit
 un:A.units+16*k+200 < cLine
theorem Room.mono{j k:Nat}{A:Around}(r:Room k A) (h:j<=k):Room j A:=⟨r.hd,by have:=r.dp;omega,by have:=r.un;omega⟩
theorem Room.deeper{k:Nat}{A:Around}(r:Room (k+1) A) (env:Env):Room k (A.deeper env) :=
 ⟨r.hd,by have:=r.dp;show A.depth+1+3*k+5 < _;omega,by have:=r.un;show A.units+3+16*k+200 < _;omega⟩
theorem Room.depth{k:Nat}{A:Around}(r:Room k A):A.depth < recursionLimit:=by have:=r.dp;omega
theorem Room.units{k:Nat}{A:Around}(r:Room k A):A.units+64 < cLine:=by have:=r.un;omega
noncomputable def cm1:TA:=fun _ H Q=>Q [] H
noncomputable def cm4(ta:TE) (tr:TA):TA:=fun σ H Q=>ta σ H fun x H1=>tr σ H1 fun xs H2=>Q (x::xs) H2
section
variable {X:Cx}{e:Expr}{es:List Expr}{te:TE}{t:TA}{pos:Pos}
theorem T7:PA X [] cm1:=fun _ _ _ _ H Q I h=>Calls.spliced_nil ⟨[],H,I,.nil,h⟩
theorem P4(ha:PE X e te) (hr:PA X es t) (hs:starEach (e::es) X.env=(false,eval e X.env)::starEach es X.env:=by rfl):PA X (e::es) (cm4 te t):=by
 intro pos pins s σ H Q I h
 rw[hs]
 show wpAny _ _ (spliced ((false,eval e X.env)::backTo pos (starEach es X.env))) _ _ s
 refine Calls.spliced_cons (thn (ha pins s σ H _ I h) fun u s1 ⟨x,H1,I1,r1,q1⟩=>?_)
 exact thn (hr pos pins s1 σ H1 _ I1 q1) fun us s2 ⟨xs,H2,I2,r2,q2⟩=>⟨x::xs,H2,I2,.cons r1 r2,q2⟩
noncomputable def cu1(t:TA):TE:=fun σ H Q=>t σ H fun xs H1=>xs.length<=sizeLine/\∀p,H1 p=none->Q (.ref p) (upd H1 p (.tup xs))
noncomputable def cu7(t:TA):TE:=fun σ H Q=>t σ H fun xs H1=>xs.length<=sizeLine/\∀p,H1 p=none->Q (.ref p) (upd H1 p (.lst xs))
theorem bZ3{x1} (h:PA X es t):PE X (.Tuple es x1 pos) (cu1 t):=by
 intro pins s σ H Q I hq
 refine wpAny_Tuple_spliced (thn (h pos pins s σ H _ I hq) fun us s1 ⟨xs,H1,I1,r,z,q⟩=>⟨by rw[← r.length];exact z,?_⟩)
 have hf:H1 s1.heap.objs.size=none:=I1.hok.fresh (Nat.le_refl _)
 refine⟨.ref s1.heap.objs.size,upd H1 s1.heap.objs.size (.tup xs),I1.laid (t':=s1.toks) (fun b u e=>Heap.get?_push_of_some _ e) (Nat.le_refl _) ?_,rfl,q _ hf⟩
 exact⟨z,us,r,⟨_,Heap.get?_push_size _ rfl,rfl,⟨_,rfl⟩,rfl⟩⟩
theorem bZ9(h:PA X es t):PE X (.List es pos) (cu7 t):=by
 intro pins s σ H Q I hq
 refine wpAny_List_spliced (thn (h pos pins s σ H _ I hq) fun us s1 ⟨xs,H1,I1,r,z,q⟩=>⟨by rw[← r.length];exact z,?_⟩)
 have hf:H1 s1.heap.objs.size=none:=I1.hok.fresh (Nat.le_refl _)
 refine⟨.ref s1.heap.objs.size,upd H1 s1.heap.objs.size (.lst xs),I1.laid (t':=s1.toks) (fun b u e=>Heap.get?_push_of_some _ e) (Nat.le_refl _) ?_,rfl,q _ hf⟩
 exact⟨z,us,0,r,Heap.get?_push_size _ rfl⟩
end
noncomputable abbrev Sp:=List V->Hp->VK->XK->Prop
noncomputable abbrev CXT:=List Env->Hp->Shared->XK->Value->Shared->Prop
structure Env0 (P:Program) (w:World) (K:PySem.W.Frag) (mg:Str->Option Value) (base:Heap) (A:Around) (outer:List Env) (s:Shared) (H:Hp):Prop where
 frames:A.frames=some outer
 mod:Mod K mg base
 bs:∀b o,base.get? b=some o->s.heap.get? b=some o/\H b=none
 bsz:base.objs.size<=s.heap.objs.size
 funs:s.heap.FunFrames base outer
 frf:∀b∈frs outer,H b=none
 hok:HOk P w H s.heap
 bare:AllBare s.gens
noncomputable def CE(outer:List Env) (P:Program) (w:World) (H:Hp) (s:Shared) (Q:VK) (u:Value) (s':Shared):Prop :=
 ∃v H',s'.os=s.os/\AllBare s'.gens/\Un (frs outer) [] H H' s.heap s'.heap/\HOk P w H' s'.heap/\O2 v u/\Q v H'
noncomputable def CR(CX:CXT) (outer:List Env) (P:Program) (w:World) (H:Hp) (s:Shared) (Q:VK) (E:XK) (r:Result) (s':Shared):Prop :=
 match r with
 | .ok (.ret u)=>CE outer P w H s Q u s'
 | .ok _=>False
 | .error e=>CX outer H s E e s'
structure FnOk (P:Program) (w:World) (K:PySem.W.Frag) (mg:Str->Option Value) (base:Heap) (CX:CXT) (k:Nat) (f:Addr) (fd:FuncData) (ps:List Str) (sp:Sp):Prop where
 len:∀vs H Q E,sp vs H Q E->vs.length=ps.length
 run:∀(A:Around) (outer:List Env) (s:Shared) (H:Hp) (args:Args) (us:List Value) (vs:List V) (Q:VK) (E:XK),Room k A->Env0 P w K mg base A outer s H->BindsTo s fd args (ps.zip us)->M0 vs us->sp vs H Q E ->
  codeAny (model P w) A (.call (.ref f) args) (CR CX outer P w H s Q E) s
theorem FnOk.mono{P:Program}{w:World}{K:PySem.W.Frag}{mg:Str->Option Value}{base:Heap}{CX:CXT}{j k:Nat}{f:Addr}{fd:FuncData}{ps:List Str}{sp:Sp}(F:FnOk P w K mg base CX j f fd ps sp) (h:j<=k) :
  FnOk P w K mg base CX k f fd ps sp:=⟨F.len,fun A outer s H args us vs Q E hr=>F.run A outer s H args us vs Q E (hr.mono h)⟩
section
variable {X:Cx}{pins:List (Addr×Obj)}{σ:St}{H:Hp}{s s':Shared}
theorem Inv.env0(I:Inv X pins σ H s):Env0 X.prog X.w X.K X.mg X.base X.A X.stack s H :=
 ⟨I.ok.frames,I.ok.mod,I.bs,Nat.le_trans I.ok.bsz I.sz,I.stack,I.stkFree,I.hok,I.bare⟩
theorem Inv.after{Q:VK}{u:Value}(I:Inv X pins σ H s) (h:CE X.stack X.prog X.w H s Q u s'):EP X pins σ Q u s':=by
 obtain⟨v,H',os,bare,un,hok,r,q⟩:=h
 obtain⟨hh,g,d,t,os'⟩:=s'
 obtain rfl:os'=s.os:=os
 exact⟨v,H',I.call (h':=hh) (g':=g) (d':=d) (t':=t) (ch:=[]) un hok bare (fun b z=>absurd z (by simp)),r,q⟩
end
noncomputable def bT2(sp:Sp) (dvs:List V) (E:XK) (t:TA):TE:=fun σ H Q=>t σ H fun vs H1=>sp (vs++dvs) H1 Q E
noncomputable def T6(K:PySem.W.Frag) (fd:FuncData) (ps:List Str) (ds:List Value):Prop :=
 ∀(s:Shared) (us:List Value),K.In s.heap->(us++ds).length=ps.length->BindsTo s fd ⟨us,[]⟩ (ps.zip (us++ds))
theorem T6.all{K:PySem.W.Frag}{fd:FuncData}{ps:List Str}(h:∀us:List Value,us.length=ps.length->bindArgs fd ⟨us,[]⟩=pure (ps.zip us)):T6 K fd ps []:=fun s us _ hl=>by
 rw[List.append_nil]at hl ⊢
 exact .of_eq (h us hl)
noncomputable def aM7(CX:CXT) (X:Cx) (E:XK):Prop:=∀(pins:List (Addr×Obj)) (σ:St) (H:Hp) (s:Shared) (e:Value) (s':Shared),Inv X pins σ H s->CX X.stack H s E e s'->X.xe e s'
section
variable {X:Cx}{CX:CXT}{k:Nat}{f C:Addr}{fd:FuncData}{ps:List Str}{sp:Sp}{dvs:List V}{ds:List Value}{E:XK}{x m:Str}{p pos apos:Pos}{e o:Expr}{es:List Expr}{ta:TE}{t:TA}
theorem bt7{pins:List (Addr×Obj)}{σ:St}{H:Hp}{s:Shared}{Q:VK}{us:List Value}{vs:List V}(F:FnOk X.prog X.w X.K X.mg X.base CX k f fd ps sp) (hr:Room k X.A) (hb:T6 X.K fd ps ds) (hd:M0 dvs ds) (hx:aM7 CX X E)
  (I:Inv X pins σ H s) (r:M0 vs us) (h:sp (vs++dvs) H Q E):wpAny (model X.prog X.w) X.A (call (.ref f) us) (EP X pins σ Q) X.xe s:=by
 have r2:M0 (vs++dvs) (us++ds):=r.append hd
 have hl:(us++ds).length=ps.length:=by rw[← r2.length];exact F.len _ _ _ _ h
 refine wpAny_call (codeAny_mono (F.run X.A X.stack s H ⟨us,[]⟩ (us++ds) (vs++dvs) Q E hr I.env0 (hb s us I.kIn hl) r2 h) fun r s' hq=>?_)
 cases r with
 | error e=>exact hx pins σ H s e s' I hq
 | ok fl =>
  cases fl with
  | ret u=>exact I.after hq
  | next=>exact False.elim hq
  | brk=>exact False.elim hq
  | cont=>exact False.elim hq
theorem bL3(F:FnOk X.prog X.w X.K X.mg X.base CX k f fd ps sp) (hr:Room k X.A) (hg:Gl X x) (hm:X.mg x=some (.ref f)) (hk:PySem.W.keepIn X.K (.ref f)=true) (hb:T6 X.K fd ps ds) (hd:M0 dvs ds) (hx:aM7 CX X E)
  (ha:PA X (e::es) t) (hdb:(x==("__debug__" : Str))=false:=by decide) (he:starEach (e::es) X.env=(false,eval e X.env)::starEach es X.env:=by rfl) (hpl:(backTo pos (starEach es X.env)).any (·.1)=false:=by rfl) :
  PE X (.Call (.Name x p) (e::es) [] pos) (bT2 sp dvs E t):=by
 intro pins s σ H Q I h
 refine wpAny_Call_Name_kw (aa7 I hg hm ?_ hdb)
 refine PySem.W.callWith_K (h₀:=X.base) I.ok.mod.kin hk (thn (ha pos pins s σ H _ I h) fun us s1 ⟨vs,H1,I1,r,q⟩=>⟨I1.kIn,?_⟩) he hpl
 exact bt7 F hr hb hd hx I1 r q
theorem bv2(F:FnOk X.prog X.w X.K X.mg X.base CX k f fd ps sp) (hr:Room k X.A) (hg:Gl X x) (hm:X.mg x=some (.ref f)) (hk:PySem.W.keepIn X.K (.ref f)=true) (hb:T6 X.K fd ps ds) (hd:M0 dvs ds) (hx:aM7 CX X E)
  (hdb:(x==("__debug__" : Str))=false:=by decide):PE X (.Call (.Name x p) [] [] pos) (bT2 sp dvs E cm1):=by
 intro pins s σ H Q I h
 refine wpAny_Call_Name_kw (aa7 I hg hm ?_ hdb)
 exact PySem.W.callWith_K0 I.kIn hk (bt7 (us:=[]) F hr hb hd hx I .nil h)
end
section
variable {X:Cx}{CX:CXT}{k:Nat}{f C:Addr}{fd:FuncData}{ps ks:List Str}{sp:Sp}{E:XK}{x m:Str}{p pos apos kpos:Pos}{e o:Expr}{es:List Expr}{kws:List Keyword}{te ta:TE}{t tk:TA}{nm:Option Str}
variable {g:List Value->List Value->List Value}{gV:List V->List V->List V}
end
structure FnScope (N P:List Str) (sc:Scope):Prop where
 kind:sc.kind=.function
 co:sc.isCoroutine=false
 gen:sc.isGenerator=false
 nd:N.Nodup
 pre:N.take P.length=P
 par:∀x∈P,sc.names.lookup x=some .local\/sc.names.lookup x=some .cell
 nofree:∀y∈sc.names,y.2≠.free
theorem aF5{kindOf:Str->Option NameKind}{x:Str}:∀{binds:List (Str×Value)}{m:Str->Option Value},(∀v,(x,v)∉binds)->bindL kindOf binds m x=m x
 | [],_,_=>rfl
 | (n,v)::r,m,h=>by
  unfold bindL
  rw[aF5 fun w hw=>h w (xmm _ hw)]
  split
  ·have:x≠n:=by rintro rfl;exact h v List.mem_cons_self
   simp[this]
  ·rfl
theorem aF7{kindOf:Str->Option NameKind}{x:Str}:∀{binds:List (Str×Value)}{m:Str->Option Value},(∀v,(x,v)∉binds)->bindC kindOf binds m x=m x
 | [],_,_=>rfl
 | (n,v)::r,m,h=>by
  unfold bindC
  rw[aF7 fun w hw=>h w (xmm _ hw)]
  split
  ·rfl
  ·have:x≠n:=by rintro rfl;exact h v List.mem_cons_self
   simp[this]
theorem aF6{kindOf:Str->Option NameKind}{x:Str}{v:Value}:∀{P:List Str}{vs:List Value}{i:Nat}{m:Str->Option Value},P.Nodup->P[i]? = some x->vs[i]? = some v->kindOf x=some .local ->
  bindL kindOf (P.zip vs) m x=some v
 | [],_,_,_,_,h,_,_=>by simp at h
 | _::_,[],_,_,_,_,h,_=>by simp at h
 | p::P,w::vs,0,m,nd,h1,h2,hk=>by
  simp at h1 h2;subst h1;subst h2
  show bindL kindOf ((p,w)::P.zip vs) m p=_
  unfold bindL
  rw[aF5 fun v hv=>(List.nodup_cons.mp nd).1 (List.of_mem_zip hv).1,if_pos hk]
  simp
 | p::P,w::vs,i+1,m,nd,h1,h2,hk=>by
  show bindL kindOf ((p,w)::P.zip vs) m x=_
  unfold bindL
  exact aF6 (i:=i) (List.nodup_cons.mp nd).2 (by simpa using h1) (by simpa using h2) hk
theorem aF8{kindOf:Str->Option NameKind}{x:Str}{v:Value}:∀{P:List Str}{vs:List Value}{i:Nat}{m:Str->Option Value},P.Nodup->P[i]? = some x->vs[i]? = some v->kindOf x≠some .local ->
  bindC kindOf (P.zip vs) m x=some v
 | [],_,_,_,_,h,_,_=>by simp at h
 | _::_,[],_,_,_,_,h,_=>by simp at h
 | p::P,w::vs,0,m,nd,h1,h2,hk=>by
  simp at h1 h2;subst h1;subst h2
  show bindC kindOf ((p,w)::P.zip vs) m p=_
  unfold bindC
  rw[aF7 fun v hv=>(List.nodup_cons.mp nd).1 (List.of_mem_zip hv).1,if_neg hk]
  simp
 | p::P,w::vs,i+1,m,nd,h1,h2,hk=>by
  show bindC kindOf ((p,w)::P.zip vs) m x=_
  unfold bindC
  exact aF8 (i:=i) (List.nodup_cons.mp nd).2 (by simpa using h1) (by simpa using h2) hk
noncomputable def i9(N:List Str) (vs:List V):St:=vs.map some++List.replicate (N.length - vs.length) none
noncomputable def aT3(CX:CXT) (P:Program) (w:World) (K:PySem.W.Frag) (mg:Str->Option Value) (base:Heap) (N:List Str) (qual:Str) (scope:Scope) (f:Addr) (cd:Value) (A:Around) (outer:List Env) (s:Shared) (H:Hp) (E:XK):Cx where
 prog:=P
 w:=w
 K:=K
 mg:=mg
 base:=base
 A:=A.deeper (envOfC qual scope s.heap.objs.size f cd)
 N:=N
 s₀:=s
 H₀:=H
 env:=envOfC qual scope s.heap.objs.size f cd
 outer:=outer
 stack:=envOfC qual scope s.heap.objs.size f cd::outer
 ex:=[]
 calm:=true
 fn:=fun _=>true
 pn:=[]
 xe:=fun e s'=>wpAny (model P w) (A.deeper (envOfC qual scope s.heap.objs.size f cd)) (leaving (envOfC qual scope s.heap.objs.size f cd) e) (fun _ s''=>CX outer H s E e s'') (fun e' s''=>CX outer H s E e' s'') s'
theorem aT6{sc:Scope}{n:Nat}{x:Str}(h:sc.names.lookup x=some .cell):∃c,(cellsFrom n sc.names []).lookup x=some c:=by
 have q:=PySem.W.cellsFrom_some sc.names n [] (.inl h)
 exact Option.isSome_iff_exists.mp q
theorem bl8{CX:CXT}{P:Program}{w:World}{K:PySem.W.Frag}{mg:Str->Option Value}{base:Heap}{N ps:List Str}{qual:Str}{scope:Scope}{f:Addr}{cd:Value}{A:Around}{outer:List Env}{s s1:Shared}{H:Hp}{E:XK}{us:List Value}{vs:List V}
  (S:FnScope N ps scope) (hd:A.handled=none) (e0:Env0 P w K mg base A outer s H) (hl:vs.length=ps.length) (r:M0 vs us)
  (x:InCallC s s.heap.objs.size (bindL (envOfC qual scope s.heap.objs.size f cd).kindOf (ps.zip us) fun _=>none) (cellsFrom (s.heap.objs.size+1) scope.names []) (bindC (envOfC qual scope s.heap.objs.size f cd).kindOf (ps.zip us) fun _=>none) s1) :
  Inv (aT3 CX P w K mg base N qual scope f cd A outer s H E) [] (i9 N vs) H s1:=by
 have hpl:ps.length<=N.length:=by have:=congrArg List.length S.pre;rw[List.length_take]at this;omega
 obtain⟨h1,tk,rfl,hk⟩:=x.done
 have noA:∀b:Addr,b∉(aT3 CX P w K mg base N qual scope f cd A outer s H E).ex:=fun b z=>absurd (show b∈([]:List Addr) from z) (by simp)
 refine⟨⟨e0.mod,S.kind,rfl,rfl,Nat.le_refl _,fun y z c h1 h2=>?_,fun y hy=>?_,fun y c _ h=>?_,fun _=>hd,Around.frames_deeper e0.frames,.inr ⟨rfl,rfl⟩,fun b z=>absurd z (noA b),e0.bs,e0.bsz,fun b _ _=>noA b,fun b z=>absurd z (noA b),e0.funs,e0.frf⟩,
  rfl,e0.bare,Un.kept hk,⟨_,x.toInCall.ns,fun i y v h1 h2 h3=>?_⟩,fun y c h=>⟨_,x.cell y c h⟩,e0.hok.fresh (Nat.le_refl _),fun y c h=>?_,fun p hp=>absurd (show p∈([]:List (Addr×Obj)) from hp) (by simp),e0.hok.kept hk,?_⟩
 ·exact name_of_addr x.apart (PySem.mem_of_lookup h1) (PySem.mem_of_lookup h2)
 ·have hy:scope.names.lookup y=some .cell\/scope.names.lookup y=some .free:=hy
  rcases hy with hy|hy
  ·exact aT6 hy
  ·exact absurd rfl (S.nofree _ (PySem.mem_of_lookup hy))
 ·exact Nat.le_of_lt (x.above y c (PySem.mem_of_lookup h))
 ·have hi:i < vs.length:=by
   unfold i9 at h2
   by_cases hi:i < vs.length
   ·exact hi
   ·rw[List.getElem?_append_right (by simpa using hi)]at h2
    rw[List.getElem?_replicate]at h2
    split at h2<;>cases h2
  have ha:vs[i]? = some v:=by
   unfold i9 at h2
   rw[List.getElem?_append_left (by simpa using hi),List.getElem?_map]at h2
   cases e:vs[i]? with
   | none=>rw[e]at h2;cases h2
   | some a=>rw[e]at h2;cases h2;rfl
  obtain⟨u,hu,rv⟩:=r.get ha
  have hp:ps[i]? = some y:=by rw[← S.pre,List.getElem?_take_of_lt (by omega)];exact h1
  have ndP:ps.Nodup:=by rw[← S.pre];exact S.nd.sublist (List.take_sublist _ _)
  refine⟨u,rv,?_⟩
  rcases S.par y (List.mem_of_getElem? hp) with k|k
  ·exact .inl ⟨k,aF6 ndP hp hu k⟩
  ·obtain⟨c,e⟩:=aT6 (n:=s.heap.objs.size+1) k
   refine .inr ⟨.inl k,c,e,?_⟩
   have q:=x.cell y c e
   rw[aF8 ndP hp hu (by show scope.names.lookup y≠_;rw[k];decide)]at q
   exact q
 ·exact e0.hok.fresh (Nat.le_of_lt (x.above y c (PySem.mem_of_lookup h)))
 ·unfold i9
  show _=N.length
  rw[List.length_append,List.length_map,List.length_replicate]
  omega
theorem aE7{CX:CXT}{P:Program}{w:World}{K:PySem.W.Frag}{mg:Str->Option Value}{base:Heap}{k:Nat}{f:Addr}{name qual:Str}{params:Arguments}{body:List Stmt}{scope:Scope}{dV kV doc pm cdv ct oc:Value}{an od:Option Addr}
  {osl:Array (Option Value)}{N ps:List Str}{sp:Sp}(lk:K.lookup f=some ⟨oc,od,.func (PySem.W.fnOf name qual params body scope dV kV doc pm an cdv ct),osl⟩) (hcd:PySem.W.codeIn K cdv qual=true) (S:FnScope N ps scope)
  (len:∀vs H Q E,sp vs H Q E->vs.length=ps.length)
  (hbody:∀(A:Around) (outer:List Env) (s:Shared) (H:Hp) (vs:List V) (Q:VK) (E:XK),Room k (A.deeper (envOfC qual scope s.heap.objs.size f cdv))->sp vs H Q E ->
   ∃t,PSs (aT3 CX P w K mg base N qual scope f cdv A outer s H E) body t/\t { nx:=fun _ H'=>Q .non H',rt:=Q } (i9 N vs) H) :
  FnOk P w K mg base CX (k+1) f (PySem.W.fnOf name qual params body scope dV kV doc pm an cdv ct) ps sp:=by
 refine⟨len,fun A outer s H args us vs Q E hr e0 hb r hsp=>?_⟩
 have hl:=len _ _ _ _ hsp
 have KX:K.In s.heap:=e0.mod.kin.keeps fun b o e=>(e0.bs b o e).1
 have lim:s.heap.NoLimit:=e0.mod.nolimit.keeps fun b o e=>(e0.bs b o e).1
 have hkind:∀y∈ps.zip us,scope.names.lookup y.1=some .local\/(scope.names.lookup y.1=some .cell/\((cellsFrom (s.heap.objs.size+1) scope.names []).lookup y.1).isSome=true):=fun⟨n,v⟩ hy=>by
  rcases S.par n (List.of_mem_zip hy).1 with q|q
  ·exact .inl q
  ·exact .inr ⟨q,PySem.W.cellsFrom_some _ _ _ (.inl q)⟩
 refine codeAny_call_function hr.depth (KX _ _ lk) rfl S.co S.gen rfl (PySem.W.codeRec_of KX hcd) (hb _ _ _ _ ?_)
 refine wpAny_newFunctionEnv_cells S.kind hkind fun env he s1 x=>?_
 subst he
 refine⟨lim.keeps x.toInCall.keep,codeAny_func ?_⟩
 obtain⟨t,ht,hq⟩:=hbody A outer s H vs Q E (hr.deeper _) hsp
 have I:Inv (aT3 CX P w K mg base N qual scope f cdv A outer s H E) [] (i9 N vs) H s1:=bl8 S hr.hd e0 hl r x
 refine wpAny_mono (ht [] s1 (i9 N vs) H _ I hq) (fun fl s' hs=>?_) fun e s' hs=>hs
 have fin:∀{σ':St}{H':Hp}{v:V}{u:Value},Inv (aT3 CX P w K mg base N qual scope f cdv A outer s H E) [] σ' H' s'->O2 v u->Q v H'->CE outer P w H s Q u s' :=
  fun{σ' H' v u} J rv q=>⟨v,H',J.os,J.bare,J.base,J.hok,rv,q⟩
 cases fl with
 | ret u =>
  obtain⟨v,σ',H',J,rv,q⟩:=hs
  exact fin J rv q
 | next =>
  obtain⟨σ',H',J,q⟩:=hs
  exact fin (v:=V.non) (u:=Value.none) J rfl q
 | brk =>
  obtain⟨_,_,_,q⟩:=hs
  exact False.elim q
 | cont =>
  obtain⟨_,_,_,q⟩:=hs
  exact False.elim q
section
variable {X:Cx}{x:Str}{p pos:Pos}{e:Expr}{es:List Expr}{t:TA}{id T:String}{r:List V->Hp->VK->Prop}
noncomputable def tCB(r:List V->Hp->VK->Prop) (t:TA):TE:=fun σ H Q=>t σ H fun vs H1=>r vs H1 Q
theorem ae3(hc:ai5 X (.builtin id) r) (hg:Gl X x) (hm:X.mg x=none) (hv:bootBuiltins x=some (.builtin id)) (ha:PA X (e::es) t) (hn:x ≠ "__name__" := by decide) (hdb:(x==("__debug__" : Str))=false:=by decide)
  (he:starEach (e::es) X.env=(false,eval e X.env)::starEach es X.env:=by rfl) (hpl:(backTo pos (starEach es X.env)).any (·.1)=false:=by rfl):PE X (.Call (.Name x p) (e::es) [] pos) (tCB r t):=by
 intro pins s σ H Q I h
 refine wpAny_Call_Name_kw (ai9 I hg hm hv ?_ hn hdb)
 exact PyProof.Rows.callWith_builtin1 (thn (ha pos pins s σ H _ I h) fun us s1 ⟨vs,H1,I1,r1,q1⟩=>hc pins s1 σ H1 vs us Q I1 r1 q1) he hpl
theorem af7(hc:ai5 X (.type T) r) (hg:Gl X x) (hm:X.mg x=none) (hv:bootBuiltins x=some (.type T)) (ha:PA X (e::es) t) (hn:x ≠ "__name__" := by decide) (hdb:(x==("__debug__" : Str))=false:=by decide)
  (he:starEach (e::es) X.env=(false,eval e X.env)::starEach es X.env:=by rfl) (hpl:(backTo pos (starEach es X.env)).any (·.1)=false:=by rfl):PE X (.Call (.Name x p) (e::es) [] pos) (tCB r t):=by
 intro pins s σ H Q I h
 refine wpAny_Call_Name_kw (ai9 I hg hm hv ?_ hn hdb)
 exact PyProof.Rows.callWith_type1 (thn (ha pos pins s σ H _ I h) fun us s1 ⟨vs,H1,I1,r1,q1⟩=>hc pins s1 σ H1 vs us Q I1 r1 q1) he hpl
end
end L2
namespace HT
open PySem PyProof.Rows
section
open PySem.SeqAt
open PySem.AutoSeq1 (wpAny_loadPart')
open PySem.MeetsSeq PySem.MeetsSeq2 PySem.MeetsSeq3
end
section
variable {prog:Program}{w:World}{A:Around}{E:Value->Shared->Prop}{s:Shared}
theorem cat_tup{t b:Addr}{vs ws:List Value}{Q:Value->Shared->Prop}(ht:IsTup s.heap t vs.toArray) (hb:IsTup s.heap b ws.toArray) (hv:vs≠[])
  (h1:ws=[]->Q (.ref t) s) (h2:ws≠[]->Q (.ref s.heap.objs.size) { s with heap:=s.heap.push { cls:=.type "tuple", data:=.seq (vs++ws).toArray } })
  (hsz:vs.length+ws.length<=sizeLine):wpAny (model prog w) A (binaryOp .Add (.ref t) (.ref b)) Q E s:=by
 obtain⟨⟨cls,dd,data,sl⟩,ho,hc,n,hd⟩:=id ht
 obtain⟨⟨cls2,dd2,data2,sl2⟩,ho2,hc2,n2,hd2⟩:=id hb
 simp only at hc hd hc2 hd2
 subst hc hd hc2 hd2
 have e:vs.toArray++ws.toArray=(vs++ws).toArray:=by simp
 by_cases hw:ws=[]
 ·exact concat_meets ⟨_,ho,rfl⟩ ⟨_,ho2,rfl⟩ noFill_tuple_add seq_tuple_add PySem.F.slot_tuple_add PySem.F.entry_tuple_add (PySem.F.args_tuple_add_2 _ _)
   (tuple_addW1 t b vs.toArray ws.toArray n n2 dd dd2 sl sl2 (by simpa using hv) (by simp[hw])) ⟨ho,ho2,h1 hw⟩
 ·refine concat_meets ⟨_,ho,rfl⟩ ⟨_,ho2,rfl⟩ noFill_tuple_add seq_tuple_add PySem.F.slot_tuple_add PySem.F.entry_tuple_add (PySem.F.args_tuple_add_2 _ _)
   (tuple_addW2 t b vs.toArray ws.toArray n n2 dd dd2 sl sl2 (by simpa using hv) (by simpa using hw) (by rw[List.size_toArray,List.size_toArray];exact hsz)) ⟨ho,ho2,?_⟩
  rw[e]
  exact h2 hw
noncomputable def sIx(n d:Nat):Option Int->Nat
 | none=>d
 | some v=>if v < 0 then(v+(n:Int)).toNat else min v.toNat n
theorem sIx_none(n d:Nat):sIx n d none=d:=rfl
theorem sIx_nat(n d k:Nat):sIx n d (some (k:Int))=min k n:=by
 show(if(k:Int) < 0 then((k:Int)+(n:Int)).toNat else min (k:Int).toNat n)=min k n
 rw[if_neg (by omega),Int.toNat_natCast]
theorem bY1(n d:Nat) (hd:d<=n) (o:Option Int):sIx n d o<=n:=by
 cases o with
 | none=>exact hd
 | some v =>
  show(if v < 0 then(v+(n:Int)).toNat else min v.toNat n)<=n
  by_cases hv:v < 0
  ·rw[if_pos hv];omega
  ·rw[if_neg hv];exact Nat.min_le_right _ _
theorem bh6(v:Int) (n d:Nat):(if v < 0 then max (v+(n:Int)) 0 else min v (n:Int))=((sIx n d (some v):Nat):Int):=by
 show(if v < 0 then max (v+(n:Int)) 0 else min v (n:Int))=(((if v < 0 then(v+(n:Int)).toNat else min v.toNat n):Nat):Int)
 by_cases hv:v < 0
 ·simp only[if_pos hv];omega
 ·simp only[if_neg hv];omega
theorem bb6(lo hi:Option Int) (n:Nat):Builtin.Slice.sliceAdjust lo hi 1 (n:Int)=(((sIx n 0 lo:Nat):Int),((sIx n n hi:Nat):Int)):=by
 have h1:¬((1:Int) < 0):=by omega
 unfold Builtin.Slice.sliceAdjust
 simp only[h1,if_false]
 refine Prod.ext ?_ ?_
 ·cases lo with
  | none=>rfl
  | some v=>exact bh6 v n 0
 ·cases hi with
  | none=>rfl
  | some v=>exact bh6 v n n
theorem aX4(i j:Nat):Builtin.Slice.slicePlaces (i:Int) (j:Int) 1=j - i:=by
 unfold Builtin.Slice.slicePlaces
 have h1:(1:Int) > 0:=by omega
 simp only[h1,if_true,Int.ediv_one]
 split<;>omega
theorem aw0{v:Value}{o:Option Int}{Q:Option Int->Shared->Prop}(p:IsPart v o) (h:Q o s):wpAny (model prog w) A (Builtin.Slice.slicePartIndex v) Q E s:=by
 cases p with
 | none=>exact slicePart_none h
 | int i t=>exact slicePart_int h
theorem sliceApplied_gen{sl:Addr}{vl vu:Value}{lo hi:Option Int}{n:Nat}{Q:Int×Int×Nat->Shared->Prop}(hs:s.heap.IsSliceOf sl vl vu .none) (pl:IsPart vl lo) (pu:IsPart vu hi)
  (h:Q (((sIx n 0 lo:Nat):Int),1,sIx n n hi - sIx n 0 lo) s):wpAny (model prog w) A (Builtin.Slice.sliceApplied (.ref sl) (pure (n:Int))) Q E s:=by
 obtain⟨os,hos,hcs,hds⟩:=id hs
 unfold Builtin.Slice.sliceApplied Builtin.Slice.sliceFields
 refine wpAny_bind (wpAny_bind (wpAny_field hos hds (x:=vl) rfl (wpAny_bind (wpAny_field hos hds (x:=vu) rfl (wpAny_bind (wpAny_field hos hds (x:=.none) rfl (wpAny_pure ?_)))))))
 refine wpAny_bind (slicePart_none ?_)
 show wpAny _ _ (if((1:Int)==0)=true then _ else _) _ _ s
 rw[if_neg (by decide)]
 refine wpAny_bind (aw0 pl (wpAny_bind (aw0 pu (wpAny_bind (wpAny_pure ?_)))))
 show wpAny _ _ (match Builtin.Slice.sliceAdjust lo hi 1 (n:Int) with|(lo,hi)=>pure (lo,(1:Int),Builtin.Slice.slicePlaces lo hi 1)) _ _ s
 rw[bb6 lo hi n]
 show wpAny _ _ (pure (((sIx n 0 lo:Nat):Int),(1:Int),Builtin.Slice.slicePlaces ((sIx n 0 lo:Nat):Int) ((sIx n n hi:Nat):Int) 1)) _ _ s
 rw[aX4]
 exact wpAny_pure h
theorem bv0(xs:Array Value) (i k:Nat):((List.range k).filterMap fun(m:Nat)=>xs[((i:Int)+(m:Int)*1).toNat]?).toArray=((xs.toList.drop i).take k).toArray:=by
 have e:(fun(m:Nat)=>xs[((i:Int)+(m:Int)*1).toNat]?)=fun m=>xs[i+m]?:=by
  funext m
  have:((i:Int)+(m:Int)*1).toNat=i+m:=by omega
  rw[this]
 rw[e]
 have:=pick_run xs i k
 rw[List.filterMap_map]at this
 have e2:((fun x=>xs[x]?) ∘ fun x=>i+x)=fun m=>xs[i+m]?:=rfl
 rw[e2]at this
 rw[this]
theorem getItem_tuple_cut{t sl:Addr}{items:Array Value}{vl vu:Value}{lo hi:Option Int}{Q:Value->Shared->Prop}(ht:IsTup s.heap t items) (hs:s.heap.IsSliceOf sl vl vu .none) (pl:IsPart vl lo) (pu:IsPart vu hi)
  (hw:¬(sIx items.size 0 lo=0/\sIx items.size items.size hi=items.size))
  (h:Q (.ref s.heap.objs.size) { s with heap:=s.heap.push { cls:=.type "tuple", data:=.seq ((items.toList.drop (sIx items.size 0 lo)).take (sIx items.size items.size hi - sIx items.size 0 lo)).toArray } })
  (hsz:items.size<=sizeLine):wpAny (model prog w) A (getItem (.ref t) (.ref sl)) Q E s:=by
 have htake:sizeOk (.seq ((items.toList.drop (sIx items.size 0 lo)).take (sIx items.size items.size hi - sIx items.size 0 lo)).toArray):=by
  show((items.toList.drop (sIx items.size 0 lo)).take (sIx items.size items.size hi - sIx items.size 0 lo)).toArray.size<=sizeLine
  rw[List.size_toArray,List.length_take,List.length_drop,Array.length_toList]
  omega
 have hj:sIx items.size items.size hi<=items.size:=bY1 _ _ (Nat.le_refl _) hi
 obtain⟨os,hos,hcs,hds⟩:=id hs
 have hTs:s.TypeIs (.ref sl) "slice" := ⟨os,hos,hcs⟩
 unfold getItem
 try with_reducible refine wpAny_holding ?_
 first|refine wpAny_bind (wpAny_pure ?_)|skip
 refine wpAny_bind (wpAny_sequenceKey ht.typeIs (by decide) ?_)
 refine wpAny_bind (wpAny_callSpecial?_slot (name:=Str.ofString "__getitem__") ht.typeIs PyProof.Rows.slot_tuple_getitem
  (wpAny_call_entry PyProof.Rows.slot_tuple_getitem ht.typeIs entry_tuple_getitem ?_ (args_tuple_getitem _ _)))
 show wpAny _ _ (Builtin.Tuple.tupleItemsOf (.ref t) >>= _) _ _ s
 refine wpAny_bind (tupleItemsOf_ ht ?_)
 refine wpAny_bind (wpAny_typeOf hTs ?_)
 rw[if_pos (by decide)]
 refine wpAny_bind (sliceApplied_gen hs pl pu ?_)
 have hno:¬((((sIx items.size 0 lo:Nat):Int)==0&&(1:Int)==1&&(sIx items.size items.size hi - sIx items.size 0 lo)==items.size)=true):=by
  intro q
  rw[Bool.and_eq_true,Bool.and_eq_true]at q
  have q1:((sIx items.size 0 lo:Nat):Int)=0:=eq_of_beq q.1.1
  have q2:sIx items.size items.size hi - sIx items.size 0 lo=items.size:=eq_of_beq q.2
  exact hw ⟨by omega,by omega⟩
 show wpAny _ _ (if(((sIx items.size 0 lo:Nat):Int)==0&&(1:Int)==1&&(sIx items.size items.size hi - sIx items.size 0 lo)==items.size)=true then _ else _) _ _ s
 rw[if_neg hno,bv0]
 first
  | exact wpAny_bind (m:=Builtin.Tuple.tupleExact _) (wpAny_newObj_type (wpAny_pure ⟨_,rfl,wpAny_pure h⟩) htake)
  | exact wpAny_bind (m:=Builtin.Tuple.tupleExact _) (wpAny_newObj_type (wpAny_bind (wpAny_pure (wpAny_pure ⟨_,rfl,wpAny_pure h⟩))) htake)
  | exact wpAny_bind (wpAny_bind (m:=Builtin.Tuple.tupleExact _) (wpAny_newObj_type (wpAny_pure (wpAny_pure ⟨_,rfl,wpAny_pure h⟩)) htake))
  | exact wpAny_bind (wpAny_bind (m:=Builtin.Tuple.tupleExact _) (wpAny_newObj_type (wpAny_pure ⟨_,rfl,wpAny_pure h⟩) htake))
end
end HT
namespace L2
open PySem PySem.Spec PyProof.Rows
noncomputable abbrev TO:=St->Hp->(Option Int->Hp->Prop)->Prop
noncomputable def PO(X:Cx) (e:Option Expr) (t:TO):Prop :=
 ∀(pins:List (Addr×Obj)) (s:Shared) (σ:St) (H:Hp) (Q:Option Int->Hp->Prop),Inv X pins σ H s->t σ H Q ->
  wpAny (model X.prog X.w) X.A (evalPart e X.env) (fun u s'=>∃o H',Inv X pins σ H' s'/\IsPart u o/\Q o H') X.xe s
noncomputable def bI8:TO:=fun _ H Q=>Q none H
noncomputable def cl9(t:TE):TO:=fun σ H Q=>t σ H fun x H1=>∃i,x=.int i/\Q (some i) H1
section
variable {X:Cx}{e:Expr}{te:TE}{lo hi:Option Expr}{tl th:TO}{pos p2:Pos}
theorem bK6:PO X none bI8:=by
 intro pins s σ H Q I h
 rw[evalPart_none]
 exact wpAny_pure ⟨none,H,I,.none,h⟩
theorem bK5(h:PE X e te):PO X (some e) (cl9 te):=by
 intro pins s σ H Q I hw
 rw[evalPart_some]
 refine thn (h pins s σ H _ I hw) fun u s1 ⟨x,H1,I1,r1,q1⟩=>?_
 obtain⟨i,rfl,q⟩:=q1
 obtain⟨t,rfl⟩:=r1
 exact⟨some i,H1,I1,.int i t,q⟩
noncomputable def SlR(X:Cx) (r:V->Option Int->Option Int->Hp->VK->Prop):Prop :=
 ∀(pins:List (Addr×Obj)) (s:Shared) (σ:St) (H:Hp) (x:V) (v vl vu:Value) (lo hi:Option Int) (sl:Addr) (Q:VK),Inv X pins σ H s->O2 x v->s.heap.IsSliceOf sl vl vu .none->IsPart vl lo->IsPart vu hi->r x lo hi H Q ->
  ∃T id,typeLookup (.type T) "__getitem__" = pure (some (.builtin id))/\s.TypeIs v T/\wpAny (model X.prog X.w) X.A (getItem v (.ref sl)) (EP X pins σ Q) X.xe s
theorem SlR.or{r r':V->Option Int->Option Int->Hp->VK->Prop}(h:SlR X r) (h':SlR X r'):SlR X (fun x lo hi H Q=>r x lo hi H Q\/r' x lo hi H Q):=by
 intro pins s σ H x v vl vu lo hi sl Q I rx hs pl pu q
 rcases q with q|q
 ·exact h pins s σ H x v vl vu lo hi sl Q I rx hs pl pu q
 ·exact h' pins s σ H x v vl vu lo hi sl Q I rx hs pl pu q
noncomputable def tSl(r:V->Option Int->Option Int->Hp->VK->Prop) (te:TE) (tl th:TO):TE:=fun σ H Q=>te σ H fun x H1=>tl σ H1 fun l H2=>th σ H2 fun u H3=>r x l u H3 Q
theorem al7{r:V->Option Int->Option Int->Hp->VK->Prop}(hr:SlR X r) (he:PE X e te) (hl:PO X lo tl) (hu:PO X hi th):PE X (.Subscript e (.Slice lo hi none p2) pos) (tSl r te tl th):=by
 intro pins s σ H Q I h
 refine Subscript_ (thn (he pins s σ H _ I h) fun v s1 ⟨x,H1,I1,r1,q1⟩=>?_)
 refine wpAny_Slice (thn (hl pins s1 σ H1 _ I1 q1) fun vl s2 ⟨l,H2,I2,pl,q2⟩=>thn (hu pins s2 σ H2 _ I2 q2) fun vu s3 ⟨u,H3,I3,pu,q3⟩=>?_)
 rw[evalPart_none]
 refine wpAny_pure ?_
 have I4:Inv X pins σ H3 { s3 with heap:=s3.heap.push { cls:=.type "slice", data:=.fields #[vl,vu,.none] } }:=I3.kept (t':=s3.toks) fun b ob q=>Heap.get?_push_of_some _ q
 obtain⟨T,id,hT,ht,hg⟩:=hr pins { s3 with heap:=s3.heap.push { cls:=.type "slice", data:=.fields #[vl,vu,.none] } } σ H3 x v vl vu l u s3.heap.objs.size Q I4 r1 (Heap.IsSliceOf.new ..) pl pu q3
 show wpAny (model X.prog X.w) X.A (subscriptTail e (.Slice lo hi none p2) v (.ref s3.heap.objs.size)) (EP X pins σ Q) X.xe { s3 with heap:=s3.heap.push { cls:=.type "slice", data:=.fields #[vl,vu,.none] } }
 exact tail_any (ops:=[.ref s3.heap.objs.size,v]) ht hT hg (by with_unfolding_all rfl)
noncomputable def aT4(xs:List V) (lo hi:Option Int):List V:=(xs.drop (HT.sIx xs.length 0 lo)).take (HT.sIx xs.length xs.length hi - HT.sIx xs.length 0 lo)
theorem ar7(xs:List V) (lo hi:Option Int):(aT4 xs lo hi).length<=xs.length:=by
 unfold aT4
 rw[List.length_take,List.length_drop]
 omega
noncomputable def cv3(K:PySem.W.Frag):V->Option Int->Option Int->Hp->VK->Prop:=fun x lo hi H Q=>∃a xs,x=.ref a/\SqT K H a xs /\
 ¬(HT.sIx xs.length 0 lo=0/\HT.sIx xs.length xs.length hi=xs.length)/\∀p,H p=none->Q (.ref p) (upd H p (.tup (aT4 xs lo hi)))
theorem bY0:SlR X (cv3 X.K):=by
 intro pins s σ H x v vl vu lo hi sl Q I rx hs pl pu h
 obtain⟨a,xs,rfl,hx,hw,q⟩:=h
 cases rx
 obtain⟨its,r,ht,hz⟩:=I.tuple hx
 have hlen:its.toArray.size=xs.length:=by rw[List.size_toArray];exact r.length.symm
 refine⟨"tuple", _,PyProof.Rows.slot_tuple_getitem.lookup,ht.typeIs,?_⟩
 refine HT.getItem_tuple_cut ht hs pl pu (by rw[hlen];exact hw) ?_ (by rw[hlen];exact hz)
 rw[hlen]
 refine⟨.ref s.heap.objs.size,_,I.laid (t':=s.toks) (o:=.tup (aT4 xs lo hi)) (fun b ob q=>Heap.get?_push_of_some _ q) (Nat.le_refl _) ?_,rfl,q _ (I.hok.fresh (Nat.le_refl _))⟩
 exact⟨Nat.le_trans (ar7 xs lo hi) hz,_,(r.drop (HT.sIx xs.length 0 lo)).take (HT.sIx xs.length xs.length hi - HT.sIx xs.length 0 lo),az3.new _ _⟩
noncomputable def cn5(K:PySem.W.Frag):R2:=fun x y H Q=>∃a b xs ys,x=.ref a/\y=.ref b/\SqT K H a xs/\SqT K H b ys/\xs≠[]/\xs.length+ys.length<=sizeLine /\
 (ys=[]->Q (.ref a) H)/\(ys≠[]->∀p,H p=none->Q (.ref p) (upd H p (.tup (xs++ys))))
theorem M0.nil_iff{xs:List V}{us:List Value}(r:M0 xs us):us=[]↔xs=[]:=by
 cases r with
 | nil=>simp
 | cons _ _=>simp
theorem bL8:OpR X (binaryOp .Add) (cn5 X.K):=by
 intro pins s σ H x y v u Q I rx ry h
 obtain⟨a,b,xs,ys,rfl,rfl,ha,hb,hx,hz,q1,q2⟩:=h
 cases rx
 cases ry
 obtain⟨its,r1,p1,_⟩:=I.tuple ha
 obtain⟨its2,r2,p2,_⟩:=I.tuple hb
 refine HT.cat_tup p1 p2 (fun z=>hx (r1.nil_iff.mp z)) (fun z=>⟨.ref a,H,I,rfl,q1 (r2.nil_iff.mp z)⟩) (fun z=>?_) (by rw[← r1.length,← r2.length];exact hz)
 refine⟨.ref s.heap.objs.size,_,I.laid (t':=s.toks) (o:=.tup (xs++ys)) (fun b ob q=>Heap.get?_push_of_some _ q) (Nat.le_refl _) ?_,rfl,q2 (fun w=>z (r2.nil_iff.mpr w)) _ (I.hok.fresh (Nat.le_refl _))⟩
 exact⟨by rw[List.length_append];exact hz,_,r1.append r2,az3.new _ _⟩
end
noncomputable def ixN(n:Nat) (i:Int):Option Nat:=if 0<=i then(if i < n then some i.toNat else none) else if -(n:Int)<=i then some (i+n).toNat else none
noncomputable def atI{α:Type}(xs:List α) (i:Int):Option α:=(ixN xs.length i).bind fun j=>xs[j]?
theorem bQ3{n:Nat}{i:Int}{j:Nat}(h:ixN n i=some j):seqIndex? i n=some j/\j < n/\-(n:Int)<=i/\i < n:=by
 unfold ixN at h
 by_cases h0:0<=i
 ·rw[if_pos h0]at h
  by_cases h1:i < n
  ·rw[if_pos h1]at h
   have e:i.toNat=j:=Option.some.inj h
   exact⟨by rw[seqIndex_of h0 h1,e],by omega,by omega,h1⟩
  ·rw[if_neg h1]at h;cases h
 ·rw[if_neg h0]at h
  by_cases h1:-(n:Int)<=i
  ·rw[if_pos h1]at h
   have e:(i+n).toNat=j:=Option.some.inj h
   exact⟨by rw[seqIndex_neg (by omega) h1,e],by omega,h1,by omega⟩
  ·rw[if_neg h1]at h;cases h
theorem aL9{α:Type}{xs:List α}{i:Int}{v:α}(h:atI xs i=some v):∃j,seqIndex? i xs.length=some j/\xs[j]? = some v/\j < xs.length/\-(xs.length:Int)<=i/\i < xs.length:=by
 unfold atI at h
 cases e:ixN xs.length i with
 | none=>rw[e]at h;cases h
 | some j =>
  rw[e]at h
  obtain⟨h1,h2,h3,h4⟩:=bQ3 e
  exact⟨j,h1,h,h2,h3,h4⟩
theorem bS3{α:Type}{xs:List α}{j:Nat}{v:α}(h:xs[j]? = some v):atI xs (j:Int)=some v:=by
 have hj:j < xs.length:=(List.getElem?_eq_some_iff.mp h).1
 have e:ixN xs.length (j:Int)=some j:=by
  unfold ixN
  rw[if_pos (by omega),if_pos (by omega)];simp
 unfold atI;rw[e];exact h
noncomputable def av1(b:Expr):Prop:=∀o i,subscripted b false o i=operate [o,i] (getItem o i)
noncomputable def IxR(X:Cx) (r:R2):Prop :=
 ∀(value slice:Expr) (pins:List (Addr×Obj)) (s:Shared) (σ:St) (H:Hp) (x y:V) (v u:Value) (Q:VK),Inv X pins σ H s->O2 x v->O2 y u->r x y H Q ->
  subscripted slice false v u=operate [v,u] (getItem v u)->wpAny (model X.prog X.w) X.A (subscriptTail value slice v u) (EP X pins σ Q) X.xe s
noncomputable def MtR(X:Cx) (id:String) (r:V->List V->Hp->VK->Prop):Prop :=
 ∀(pins:List (Addr×Obj)) (s:Shared) (σ:St) (H:Hp) (x:V) (xs:List V) (v:Value) (us:List Value) (Q:VK),Inv X pins σ H s->O2 x v->M0 xs us->r x xs H Q ->
  wpAny (model X.prog X.w) X.A (call (.builtin id) (v::us)) (EP X pins σ Q) X.xe s
section
variable {X:Cx}{a b:Expr}{ta tb:TE}{pos:Pos}
theorem IxR.or{r r':R2}(h:IxR X r) (h':IxR X r'):IxR X (fun x y H Q=>r x y H Q\/r' x y H Q):=by
 intro value slice pins s σ H x y v u Q I rx ry q hs
 rcases q with q|q
 ·exact h value slice pins s σ H x y v u Q I rx ry q hs
 ·exact h' value slice pins s σ H x y v u Q I rx ry q hs
theorem bU0{r:R2}(hr:IxR X r) (ha:PE X a ta) (hb:PE X b tb) (hs:av1 b):PE X (.Subscript a b pos) (tOp r ta tb):=by
 intro pins s σ H Q I h
 exact Subscript_ (cj2 ha hb I h fun v u s2 x y H2 I2 rx ry q=>hr a b pins s2 σ H2 x y v u Q I2 rx ry q (hs _ _))
noncomputable def cn4(K:PySem.W.Frag):R2:=fun x y H Q=>∃p xs i v,x=.ref p/\y=.int i/\SqL K H p xs/\atI xs i=some v/\Q v H
noncomputable def cn2(K:PySem.W.Frag):R2:=fun x y H Q=>∃p xs i v,x=.ref p/\y=.int i/\SqT K H p xs/\atI xs i=some v/\Q v H
noncomputable def cn3:R2:=fun x y H Q=>∃z i c,x=.str z/\y=.int i/\z.length<=sizeLine/\atI z.cps.toList i=some c/\Q (.str ⟨#[c]⟩) H
theorem bQ2:IxR X (cn4 X.K):=by
 intro value slice pins s σ H x y v u Q I rx ry h hs
 obtain⟨p,xs,i,z,rfl,rfl,hq,he,q⟩:=h
 cases rx
 obtain⟨t,rfl⟩:=ry
 obtain⟨its,r,pl,hz⟩:=I.list hq
 obtain⟨j,h1,h2,h3,h4,h5⟩:=aL9 he
 obtain⟨w,ew,rw'⟩:=r.get h2
 have hl:=r.length
 have hn:=ax2
 have fin:EP X pins σ Q w s:=⟨z,H,I,rw',q⟩
 by_cases h0:0<=i
 ·have hj:i.toNat=j:=by
   rw[seqIndex_of h0 h5]at h1
   exact Option.some.inj h1
  exact item_listR pl.isList h0 (by omega) (by rw[hj];simpa using ew) fin hs
 ·have hj:(i+(its.toArray.size:Int)).toNat=j:=by
   rw[seqIndex_neg (by omega) h4]at h1
   rw[List.size_toArray,← hl]
   exact Option.some.inj h1
  exact subscriptTail_builtinR (x:=w) pl.isList.typeIs slot_list_getitem.lookup
   (wpAny_getItem_list_neg (Q:=fun r s'=>r=w/\EP X pins σ Q r s') pl.isList (by omega) (by rw[List.size_toArray]<;>omega) (by omega) (by rw[hj];simpa using ew) ⟨rfl,fin⟩) hs
theorem ch2:IxR X (cn2 X.K):=by
 intro value slice pins s σ H x y v u Q I rx ry h hs
 obtain⟨p,xs,i,z,rfl,rfl,hq,he,q⟩:=h
 cases rx
 obtain⟨t,rfl⟩:=ry
 obtain⟨its,r,pl,hz⟩:=I.tuple hq
 obtain⟨j,h1,h2,h3,h4,h5⟩:=aL9 he
 obtain⟨w,ew,rw'⟩:=r.get h2
 have hl:=r.length
 have hn:=ax2
 have fin:EP X pins σ Q w s:=⟨z,H,I,rw',q⟩
 exact subscriptTail_builtinR (x:=w) pl.typeIs slot_tuple_getitem.lookup
  (getItem_tuple (j:=j) (Q:=fun r s'=>r=w/\EP X pins σ Q r s') pl (by omega) (by omega) (by rw[List.size_toArray,← hl];exact h1) (by simpa using ew) ⟨rfl,fin⟩) hs
theorem ch3:IxR X cn3:=by
 intro value slice pins s σ H x y v u Q I rx ry h hs
 obtain⟨z,i,c,rfl,rfl,hz,he,q⟩:=h
 obtain⟨t,rfl⟩:=rx
 obtain⟨t',rfl⟩:=ry
 obtain⟨j,h1,h2,h3,h4,h5⟩:=aL9 he
 have hl:z.cps.toList.length=z.length:=by simp[Str.length]
 rw[hl]at h1 h4 h5
 have hn:=ax2
 exact tail_any (typeIs_str s z t) slot_str_getitem.lookup (getItem_str (c:=c) (by
  have e1:decide (i < -(2 ^ 63:Int))=false:=decide_eq_false (by omega)
  have e2:decide (i ≥ 2 ^ 63)=false:=decide_eq_false (by omega)
  rw[e1,e2,Bool.or_false]) (by rw[h1];simpa using h2) ⟨.str ⟨#[c]⟩,H,I.tok _,⟨_,rfl⟩,q⟩) hs
noncomputable def rIx(K:PySem.W.Frag):R2:=fun x y H Q=>cn4 K x y H Q\/cn2 K x y H Q\/cn3 x y H Q
theorem bA7:IxR X (rIx X.K):=bQ2.or (ch2.or ch3)
theorem al0(lo hi:Option Int) (n:Nat):(sliceBounds lo hi none n).1=((HT.sIx n 0 lo:Nat):Int)/\(sliceBounds lo hi none n).2.1=((HT.sIx n n hi:Nat):Int)/\(sliceBounds lo hi none n).2.2=1:=by
 refine⟨?_,?_,rfl⟩
 ·cases lo with
  | none=>simp[sliceBounds,HT.sIx]
  | some i =>
   simp only[sliceBounds,HT.sIx,Option.getD_none,show(1:Int) > 0 by decide,if_true]
   by_cases h:i < 0
   ·simp only[h,if_true]<;>omega
   ·simp only[h,if_false]<;>omega
 ·cases hi with
  | none=>simp[sliceBounds,HT.sIx]
  | some i =>
   simp only[sliceBounds,HT.sIx,Option.getD_none,show(1:Int) > 0 by decide,if_true]
   by_cases h:i < 0
   ·simp only[h,if_true]<;>omega
   ·simp only[h,if_false]<;>omega
theorem aA9(its:List Value) (lo hi:Option Int):slicePick its.toArray lo hi none=((its.drop (HT.sIx its.length 0 lo)).take (HT.sIx its.length its.length hi - HT.sIx its.length 0 lo)).toArray:=by
 obtain⟨h1,h2,h3⟩:=al0 lo hi its.toArray.size
 unfold slicePick
 rw[h1,h2,h3]
 simp only[sliceRange_one,pick_run,List.size_toArray]<;>rfl
noncomputable def cv4(K:PySem.W.Frag):V->Option Int->Option Int->Hp->VK->Prop:=fun x lo hi H Q=>∃a xs,x=.ref a/\SqL K H a xs/\∀p,H p=none->Q (.ref p) (upd H p (.lst (aT4 xs lo hi)))
theorem bd5:SlR X (cv4 X.K):=by
 intro pins s σ H x v vl vu lo hi sl Q I rx hs pl pu h
 obtain⟨a,xs,rfl,hx,q⟩:=h
 cases rx
 obtain⟨its,r,ht,hz⟩:=I.list hx
 have hlen:=r.length
 refine⟨"list", _,slot_list_getitem.lookup,ht.isList.typeIs,?_⟩
 refine wpAny_getItem_list_slice ht.isList hs pl pu .none (by simp) ?_ (by rw[List.size_toArray]<;>omega)
 rw[aA9,← hlen]
 refine⟨.ref s.heap.objs.size,_,I.laid (t':=s.toks) (o:=.lst (aT4 xs lo hi)) (fun b ob q=>Heap.get?_push_of_some _ q) (Nat.le_refl _) ?_,rfl,q _ (I.hok.fresh (Nat.le_refl _))⟩
 exact⟨Nat.le_trans (ar7 xs lo hi) hz,_,0,(r.drop (HT.sIx xs.length 0 lo)).take (HT.sIx xs.length xs.length hi - HT.sIx xs.length 0 lo),Heap.get?_push_size _ rfl⟩
noncomputable def ah6:V->Bool
 | .non=>true
 | .bl _=>true
 | .int _=>true
 | .str _=>true
 | _=>false
noncomputable def eqV:V->V->Bool
 | .non,.non=>true
 | .bl a,.bl b=>a==b
 | .bl a,.int b=>(if a then 1 else 0)==b
 | .int a,.bl b=>a==(if b then 1 else 0)
 | .int a,.int b=>a==b
 | .str a,.str b=>a==b
 | _,_=>false
theorem ci6{A:Around}{s:Shared}{y x:V}{u v:Value}(ry:O2 y u) (rx:O2 x v) (fy:ah6 y=true) (fx:ah6 x=true):SeqAt.EqAt A s u v (eqV y x):=by
 cases y with
 | non =>
  cases ry
  cases x with
  | non=>cases rx;exact SeqAt.EqAt.same _
  | bl b=>cases rx;exact SeqAt.EqAt.none_bool b
  | int b=>obtain⟨t,rfl⟩:=rx;exact SeqAt.EqAt.none_int b t
  | str b=>obtain⟨t,rfl⟩:=rx;exact SeqAt.EqAt.none_str b t
  | _=>exact absurd (show false=true from fx) Bool.false_ne_true
 | bl a =>
  cases ry
  cases x with
  | non=>cases rx;exact SeqAt.EqAt.bool_none a
  | bl b=>cases rx;exact SeqAt.EqAt.bool_bool a b
  | int b=>obtain⟨t,rfl⟩:=rx;exact SeqAt.EqAt.bool_int a b t
  | str b=>obtain⟨t,rfl⟩:=rx;exact SeqAt.EqAt.bool_str a b t
  | _=>exact absurd (show false=true from fx) Bool.false_ne_true
 | int a =>
  obtain⟨t',rfl⟩:=ry
  cases x with
  | non=>cases rx;exact SeqAt.EqAt.int_none a t'
  | bl b=>cases rx;exact SeqAt.EqAt.int_bool a t' b
  | int b=>obtain⟨t,rfl⟩:=rx;exact SeqAt.EqAt.int_int a t' b t
  | str b=>obtain⟨t,rfl⟩:=rx;exact SeqAt.EqAt.int_str a t' b t
  | _=>exact absurd (show false=true from fx) Bool.false_ne_true
 | str a =>
  obtain⟨t',rfl⟩:=ry
  cases x with
  | non=>cases rx;exact SeqAt.EqAt.str_none a t'
  | bl b=>cases rx;exact SeqAt.EqAt.str_bool a t' b
  | int b=>obtain⟨t,rfl⟩:=rx;exact SeqAt.EqAt.str_int a t' b t
  | str b=>obtain⟨t,rfl⟩:=rx;exact SeqAt.EqAt.str_str a t' b t
  | _=>exact absurd (show false=true from fx) Bool.false_ne_true
 | _=>exact absurd (show false=true from fy) Bool.false_ne_true
noncomputable def eqU(x:V) (u:Value):Bool:=match u with
 | .none=>eqV .non x
 | .bool b=>eqV (.bl b) x
 | .int i _=>eqV (.int i) x
 | .str z _=>eqV (.str z) x
 | _=>false
theorem bD9{x y:V}{u:Value}(r:O2 y u) (f:ah6 y=true):eqU x u=eqV y x:=by
 cases y with
 | non=>cases r;rfl
 | bl b=>cases r;rfl
 | int i=>obtain⟨t,rfl⟩:=r;rfl
 | str z=>obtain⟨t,rfl⟩:=r;rfl
 | _=>exact absurd (show false=true from f) Bool.false_ne_true
theorem ao3{x:V}:∀{xs:List V}{us:List Value},M0 xs us->xs.all ah6=true->us.any (eqU x)=xs.any fun y=>eqV y x
 | _,_,.nil,_=>rfl
 | y::xs,u::us,.cons r t,f=>by
  rw[List.all_cons,Bool.and_eq_true]at f
  rw[List.any_cons,List.any_cons,bD9 r f.1,ao3 t f.2]
theorem ae5{A:Around}{s:Shared}{x:V}{v:Value}(rx:O2 x v) (fx:ah6 x=true):∀{xs:List V}{us:List Value},M0 xs us->xs.all ah6=true->∀u∈us,SeqAt.EqAt A s u v (eqU x u)
 | _,_,.nil,_=>fun u hu=>by cases hu
 | y::xs,u::us,.cons r t,f=>fun u' hu=>by
  rw[List.all_cons,Bool.and_eq_true]at f
  rcases List.mem_cons.mp hu with rfl|hu
  ·rw[bD9 r f.1];exact ci6 r rx f.1 fx
  ·exact ae5 rx fx t f.2 u' hu
noncomputable def inV(x:V) (xs:List V):Bool:=xs.any fun y=>eqV y x
noncomputable def rIn(K:PySem.W.Frag) (neg:Bool):R2:=fun x y H Q=>∃p xs,y=.ref p/\(SqL K H p xs\/SqT K H p xs)/\ah6 x=true/\xs.all ah6=true/\Q (.bl (if neg then !inV x xs else inV x xs)) H
theorem bk2:OpR X (compareOp .In) (rIn X.K false):=by
 intro pins s σ H x y v u Q I rx ry h
 obtain⟨p,xs,rfl,hq,fx,fs,q⟩:=h
 cases ry
 rcases hq with hq|hq
 ·obtain⟨its,r,pl,hz⟩:=I.list hq
  refine SeqAt.in_listAt (eqU x) pl.isList (fun w hw=>ae5 rx fx r fs w (by simpa using hw)) ⟨.bl _,H,I,rfl,?_⟩
  rw[show its.toArray.any (eqU x)=its.any (eqU x) by simp,ao3 r fs]
  exact q
 ·obtain⟨its,r,pl,hz⟩:=I.tuple hq
  refine SeqAt.in_tupleAt (eqU x) pl (fun w hw=>ae5 rx fx r fs w (by simpa using hw)) ⟨.bl _,H,I,rfl,?_⟩
  rw[show its.toArray.any (eqU x)=its.any (eqU x) by simp,ao3 r fs]
  exact q
theorem aJ3:OpR X (compareOp .NotIn) (rIn X.K true):=by
 intro pins s σ H x y v u Q I rx ry h
 obtain⟨p,xs,rfl,hq,fx,fs,q⟩:=h
 cases ry
 rcases hq with hq|hq
 ·obtain⟨its,r,pl,hz⟩:=I.list hq
  refine SeqAt.notIn_listAt (eqU x) pl.isList (fun w hw=>ae5 rx fx r fs w (by simpa using hw)) ⟨.bl _,H,I,rfl,?_⟩
  rw[show its.toArray.any (eqU x)=its.any (eqU x) by simp,ao3 r fs]
  exact q
 ·obtain⟨its,r,pl,hz⟩:=I.tuple hq
  refine SeqAt.notIn_tupleAt (eqU x) pl (fun w hw=>ae5 rx fx r fs w (by simpa using hw)) ⟨.bl _,H,I,rfl,?_⟩
  rw[show its.toArray.any (eqU x)=its.any (eqU x) by simp,ao3 r fs]
  exact q
theorem aL7:ai5 X (.builtin "len") (fun xs H Q=>∃p ys,xs=[.ref p]/\(SqL X.K H p ys\/SqT X.K H p ys)/\Q (.int ys.length) H):=by
 intro pins s σ H xs us Q I r h
 obtain⟨p,ys,rfl,hq,q⟩:=h
 obtain⟨u,rfl,rx⟩:=aD0 r
 cases rx
 have hn:=ax2
 rcases hq with hq|hq
 ·obtain⟨its,r',pl,hz⟩:=I.list hq
  have hlen:=r'.length
  exact Calls.call_len_list pl.isList (by simp only[List.size_toArray]<;>omega) ⟨.int ys.length,H,I.tok _,⟨s.toks+1,by rw[List.size_toArray,hlen]⟩,q⟩
 ·obtain⟨its,r',pl,hz⟩:=I.tuple hq
  have hlen:=r'.length
  exact len_tuple pl (by simp only[List.size_toArray]<;>omega) ⟨.int ys.length,H,I.tok _,⟨s.toks+1,by rw[List.size_toArray,hlen]⟩,q⟩
theorem aL6:ai5 X (.type "list") (fun xs H Q=>∃p ys,xs=[.ref p]/\(SqL X.K H p ys\/SqT X.K H p ys)/\∀l,H l=none->Q (.ref l) (upd H l (.lst ys))):=by
 intro pins s σ H xs us Q I r h
 obtain⟨p,ys,rfl,hq,q⟩:=h
 obtain⟨u,rfl,rx⟩:=aD0 r
 cases rx
 have fin:∀(its:List Value),M0 ys its->ys.length<=sizeLine->∀(h':Heap) (c':Nat),(∀b o',s.heap.get? b=some o'->h'.get? b=some o') ->
   h'.get? s.heap.objs.size=some { cls:=.type "list", dict:=none,data:=.seq its.toArray c',slots:=#[] }->EP X pins σ Q (.ref s.heap.objs.size) { s with heap:=h' }:=fun its r' hz h' c' kp e =>
  ⟨.ref s.heap.objs.size,_,I.laid (t':=s.toks) kp (Nat.le_refl _) (show V8 X.prog X.w _ h' _ (.lst ys) from⟨hz,its,c',r',e⟩),rfl,q _ (I.hok.fresh (Nat.le_refl _))⟩
 rcases hq with hq|hq
 ·obtain⟨its,r',pl,hz⟩:=I.list hq
  have hlen:=r'.length
  obtain⟨o,ho,hc,n,hd⟩:=pl.isList
  exact call_list_seq p (.inl rfl) ho hc hd (fun h' c' kp e=>fin its r' hz h' c' kp e) (by simp only[List.size_toArray]<;>omega)
 ·obtain⟨its,r',pl,hz⟩:=I.tuple hq
  have hlen:=r'.length
  obtain⟨o,ho,hc,n,hd⟩:=pl
  exact call_list_seq p (.inr rfl) ho hc hd (fun h' c' kp e=>fin its r' hz h' c' kp e) (by simp only[List.size_toArray]<;>omega)
theorem aC4:ai5 X (.type "tuple") (fun xs H Q=>∃p ys,xs=[.ref p]/\((SqL X.K H p ys/\∀l,H l=none->Q (.ref l) (upd H l (.tup ys)))\/(SqT X.K H p ys/\Q (.ref p) H))):=by
 intro pins s σ H xs us Q I r h
 obtain⟨p,ys,rfl,h⟩:=h
 obtain⟨u,rfl,rx⟩:=aD0 r
 cases rx
 rcases h with⟨hq,q⟩|⟨hq,q⟩
 ·obtain⟨its,r',pl,hz⟩:=I.list hq
  have hlen:=r'.length
  refine call_tuple_list pl.isList (fun h' kp=>?_) (by simp only[List.size_toArray]<;>omega)
  have I1:Inv X pins σ H { s with heap:=h' }:=I.kept (t':=s.toks) kp
  have I2:Inv X pins σ (upd H h'.objs.size (.tup ys)) { s with heap:=h'.push { cls:=.type "tuple", data:=.seq its.toArray } } :=
   I1.laid (t':=s.toks) (fun b o e=>Heap.get?_push_of_some _ e) (Nat.le_refl _) (show V8 X.prog X.w _ _ _ (.tup ys) from⟨hz,its,r',az3.new _ _⟩)
  exact⟨.ref h'.objs.size,_,I2,rfl,q _ (I1.hok.fresh (Nat.le_refl _))⟩
 ·obtain⟨its,r',pl,hz⟩:=I.tuple hq
  exact call_tuple_same pl ⟨.ref p,H,I,rfl,q⟩
noncomputable def tyV(K:PySem.W.Frag) (T:String) (x:V) (H:Hp):Prop:=match x with
 | .str _=>T = "str"
 | .int _=>T = "int"
 | .ref p=>(T = "list" /\ ∃xs,SqL K H p xs)\/(T = "tuple" /\ ∃o,K.lookup p=some o/\o.cls=.type "tuple" /\ o.dict=none) \/
   (T = "dict" /\ ((∃kvs,H p=some (.dK kvs))\/∃kvs,H p=some (.dT kvs)))\/(T = "set" /\ ∃S n,H p=some (.set S n))
 | _=>False
theorem bW9{pins:List (Addr×Obj)}{σ:St}{H:Hp}{s:Shared}{T:String}{x:V}{v:Value}(I:Inv X pins σ H s) (r:O2 x v) (ty:tyV X.K T x H) :
  s.TypeIs v T/\∀a,v=.ref a->∃ob,s.heap.get? a=some ob/\ob.dict=none:=by
 cases x with
 | str z =>
  obtain⟨t,rfl⟩:=r
  cases(show T = "str" from ty)
  exact⟨typeIs_str s z t,fun _ e=>nomatch e⟩
 | int i =>
  obtain⟨t,rfl⟩:=r
  cases(show T = "int" from ty)
  exact⟨typeIs_int s i t,fun _ e=>nomatch e⟩
 | ref p =>
  cases r
  rcases ty with⟨rfl,xs,hq⟩|⟨rfl,o,hk,hc,hd⟩|⟨rfl,hk⟩|⟨rfl,S,n,hk⟩
  ·obtain⟨its,_,pl,_⟩:=I.list hq
   refine⟨pl.isList.typeIs,fun a e=>?_⟩
   cases e
   obtain⟨o,n,e,c,hd,_⟩:=pl
   exact⟨o,e,hd⟩
  ·refine⟨⟨o,I.kIn p o hk,hc⟩,fun a e=>?_⟩
   cases e
   exact⟨o,I.kIn _ o hk,hd⟩
  ·have z:∃o,s.heap.get? p=some o/\o.ExactDict:=by
    rcases hk with⟨kvs,hk⟩|⟨kvs,hk⟩
    ·obtain⟨_,_,_,_,o,_,_,e,ex,_⟩:=I.hok p _ hk
     exact⟨o,e,ex⟩
    ·obtain⟨_,_,_,_,o,_,_,e,ex,_⟩:=I.hok p _ hk
     exact⟨o,e,ex⟩
   obtain⟨o,e,ex⟩:=z
   refine⟨⟨o,e,ex.1⟩,fun a e2=>?_⟩
   cases e2
   exact⟨o,e,ex.2.1⟩
  ·obtain⟨o,_,_,_,e,ex,_⟩:=I.hok p _ hk
   refine⟨⟨o,e,ex.1⟩,fun a e2=>?_⟩
   cases e2
   exact⟨o,e,ex.2.1⟩
 | _=>exact False.elim ty
noncomputable def tBM(K:PySem.W.Frag) (T:String) (r:V->List V->Hp->VK->Prop) (to:TE) (t:TA):TE:=fun σ H Q=>to σ H fun x H1=>tyV K T x H1/\t σ H1 fun xs H2=>r x xs H2 Q
variable {o e:Expr}{es:List Expr}{to:TE}{t:TA}{name:Str}{apos cpos:Pos}{T id:String}{r:V->List V->Hp->VK->Prop}
theorem be2(pa:PlainAttrs T) (slot:Slot T name id) (hty:typeOf (.builtin id)=pure (.type "method_descriptor")) (hm:MtR X id r) (ho:PE X o to) (ha:PA X (e::es) t)
  (hbase:attributeBase o name X.env (eval o X.env)=eval o X.env:=by rfl)
  (hfew:((backTo cpos (starEach (e::es) X.env)).all (fun x=>!x.1)&&(backToKw cpos (keywordEach [] X.env)).all (fun x=>x.1.isSome)
   && decide ((e::es).length+([]:List Keyword).length+(if([]:List Keyword).isEmpty then 0 else 1) < 30))=true:=by rfl)
  (hline:(apos.endLine==cpos.line)=true:=by rfl) (hs:starEach (e::es) X.env=(false,eval e X.env)::starEach es X.env:=by rfl) (hplain:(backTo cpos (starEach es X.env)).any (·.1)=false:=by rfl) :
  PE X (.Call (.Attribute o name apos) (e::es) [] cpos) (tBM X.K T r to t):=by
 intro pins s σ H Q I h
 refine wpAny_Call_method_late hbase hfew hline rfl (thn (ho pins s σ H _ I h) fun v s1 ⟨x,H1,I1,r1,ty,q1⟩=>?_)
 obtain⟨h1,h2⟩:=bW9 I1 r1 ty
 refine⟨T,id,pa,slot,hty,h1,h2,?_⟩
 have hA:=ha cpos pins s1 σ H1 _ I1 q1
 rw[hs]at hA ⊢
 refine Calls.callWith_builtin (by show(false || (backTo cpos (starEach es X.env)).any (·.1))=false;rw[hplain]<;>rfl) (Calls.evalArgs_plain ?_)
 exact thn hA fun us s2 ⟨vs,H2,I2,r2,q2⟩=>hm pins s2 σ H2 x vs v us Q I2 r1 r2 q2
end
noncomputable def MtM(X:Cx) (id:String) (r:V->List V->Hp->VK->Prop):Prop :=
 ∀(pins:List (Addr×Obj)) (s:Shared) (σ:St) (H:Hp) (x:V) (xs:List V) (v:Value) (us:List Value) (Q:VK),Inv X pins σ H s->O2 x v->M0 xs us->r x xs H Q ->
  wpAny (model X.prog X.w) X.A (call (.builtin id) (v::us)) (EP X pins σ Q) X.xe s
theorem M0.one:∀{x:V}{us:List Value},M0 [x] us->∃u,us=[u]/\O2 x u
 | _,_,.cons r .nil=>⟨_,rfl,r⟩
theorem M0.rep{xs:List V}{us:List Value}(h:M0 xs us):∀k:Nat,M0 (List.replicate k xs).flatten (List.replicate k us).flatten
 | 0=>.nil
 | k+1=>by
  rw[List.replicate_succ,List.replicate_succ,List.flatten_cons,List.flatten_cons]
  exact M0.append h (M0.rep h k)
theorem aE6(its:List Value):∀(k:Nat) (acc:List Value),
  List.foldl (fun x1 x2=>x1++x2) acc.toArray (List.replicate k its.toArray)=(acc++(List.replicate k its).flatten).toArray
 | 0,acc=>by simp
 | k+1,acc=>by
  have e:acc.toArray++its.toArray=(acc++its).toArray:=by simp
  have e2:(acc++its)++(List.replicate k its).flatten=acc++(List.replicate (k+1) its).flatten:=by rw[List.replicate_succ,List.flatten_cons,List.append_assoc]
  rw[← e2,← aE6 its k (acc++its),← e,List.replicate_succ,List.foldl_cons]
section
variable {X:Cx}{pins:List (Addr×Obj)}{σ:St}{H:Hp}{s:Shared}{l b:Addr}{xs ys zs:List V}
theorem Inv.lset{its its':List Value}{n:Nat}{f:Array Value->Array Value}{t':Nat}(I:Inv X pins σ H s) (hH:H l=some (.lst xs))
  (e:s.heap.get? l=some { cls:=.type "list", data:=.seq its.toArray n }) (hf:f its.toArray=its'.toArray) (hv:M0 ys its') (hz:ys.length<=sizeLine) :
  Inv X pins σ (upd H l (.lst ys)) { s with heap:=s.heap.update l (Obj.mapSeq f),toks:=t' }:=by
 have q:=PySem.IsL.update e f
 rw[hf]at q
 refine I.write (x:=l) (e:=l) (by rw[hH];exact trivial) (.inl rfl) (fun b' u hb hu=>(Heap.get?_update_other s.heap (Obj.mapSeq f) (Ne.symm hb)).trans hu) ⟨_,q⟩ ?_
 exact⟨hz,its',_,hv,q⟩
theorem Inv.lnew{its:List Value}{t':Nat}(I:Inv X pins σ H s) (hv:M0 ys its) (hz:ys.length<=sizeLine) :
  Inv X pins σ (upd H s.heap.objs.size (.lst ys)) { s with heap:=s.heap.push { cls:=.type "list", data:=.seq its.toArray },toks:=t' } :=
 I.laid (fun _ _ q=>Heap.get?_push_of_some _ q) (Nat.le_refl _) ⟨hz,its,0,hv,Heap.get?_push_size _ rfl⟩
theorem Inv.fresh(I:Inv X pins σ H s):H s.heap.objs.size=none:=I.hok.fresh (Nat.le_refl _)
theorem Inv.lstM(I:Inv X pins σ H s) (hH:H l=some (.lst xs)):xs.length<=sizeLine/\∃(its:List Value) (n:Nat),M0 xs its/\xs.length=its.length/\s.heap.get? l=some { cls:=.type "list", data:=.seq its.toArray n }:=by
 obtain⟨z,its,n,r,e⟩:=I.hok l _ hH
 exact⟨z,its,n,r,r.length,e⟩
theorem ae4{n:Nat}(h:n<=sizeLine):Builtin.List.listTooLong n=false:=by
 unfold Builtin.List.listTooLong
 exact decide_eq_false (by omega)
end
section
variable {X:Cx}
noncomputable def bJ6:V->List V->Hp->VK->Prop:=fun x vs H Q=>∃l xs y,x=.ref l/\vs=[y]/\H l=some (.lst xs)/\xs.length < sizeLine/\Q .non (upd H l (.lst (xs++[y])))
theorem aE0:MtM X "list.append" bJ6:=by
 intro pins s σ H x vs v us Q I rx rv h
 obtain⟨l,xs,y,rfl,rfl,hH,hz,q⟩:=h
 cases rx
 obtain⟨u,rfl,ru⟩:=rv.one
 obtain⟨z,its,n,r,hl,e⟩:=I.lstM hH
 refine call_meets F.slot_list_append ⟨_,e,rfl⟩ F.entry_list_append (F.args_list_append_2 _ _) (PySem.list_append l its.toArray n u (by rw[List.size_toArray];omega)) ⟨e,?_⟩
 refine⟨.non,_,I.lset (its':=its++[u]) hH e (by simp) (r.append (.cons ru .nil)) ?_,rfl,q⟩
 rw[List.length_append,List.length_singleton]
 omega
theorem aJ9{α:Type}(xs:List α) (k:Nat):(List.replicate k xs).flatten.length=k*xs.length:=by
 induction k with
 | zero=>simp
 | succ k ih=>rw[List.replicate_succ,List.flatten_cons,List.length_append,ih,Nat.succ_mul,Nat.add_comm]
end
section
variable {prog:Program}{w:World}{A:Around}{E:Value->Shared->Prop}{s:Shared}
theorem bj4(its its2:List Value) (a c:Nat):its.toArray.extract 0 a++its2.toArray++its.toArray.extract c its.toArray.size=(its.take a++its2++its.drop c).toArray:=by
  apply Array.toList_inj.mp
  first
    | (simp
       exact List.take_of_length_le (by simp))
    | simp[List.take_of_length_le]
    | simp
set_option maxRecDepth 100000 in
end
section
variable {X:Cx}
end
end L2
namespace Att
open PySem PySem.W PySem.Calls PyProof.Rows
theorem as8{P:Params}{h:Heap}:∀(ns:List Int) (vs:List Value),WellAll P h vs (ns.map WData.int)->IntsAre vs ns:=by
 intro ns
 induction ns with
 | nil =>
  intro vs w
  rw[List.map_nil]at w
  cases w
  exact .nil
 | cons n ns ih =>
  intro vs w
  rw[List.map_cons]at w
  cases w with
  | cons a b =>
   cases a
   exact .cons _ _ (ih _ b)
theorem bj7{l:OpenLaw}{n:Nat}(hn:l.most=some n) {P:Params}{h:Heap}{args:List WData}{vals:List Value}
  (hpre:l.row.toRowW.claim.pre args=true) (hwl:WellAll P h vals args) :
  ∃a vs ns,vals=[Value.ref a]/\args=[WData.list (ns.map WData.int)]/\h.get? a=some { cls:=.type "list", data:=.seq vs.toArray }/\IntsAre vs ns/\ns.length<=n:=by
 have hsh:WShape.hasAll [] args [.list .int]=true:=(pre_splitW hpre).1
 have hc:l.pre.holds [] { args:=args }=true:=(pre_splitW hpre).2
 obtain⟨d,r,rfl,h1,h2⟩:=hasAllW_cons hsh
 obtain rfl:=hasAllW_nil h2
 obtain⟨xs,rfl,h3⟩:=hasW_list h1
 obtain⟨ns,rfl⟩:=items_int h3
 have hlen:ns.length<=n:=by
  unfold OpenLaw.pre at hc
  have h4:(WTm.not (.lt (.lit (.int (n:Int))) (.len (.arg 0)))).holds [] { args:=[.list (ns.map .int)] }=true:=by
   have h4:=(holds_andW hc).1
   rw[hn]at h4
   exact h4
  have h5:=condW_of h4 (w_not (w_lt w_lit (w_len_list (w_arg rfl))))
  rw[List.length_map]at h5
  refine Nat.le_of_not_lt fun q=>?_
  have q':(n:Int) < ((ns.length:Nat):Int):=by omega
  first
   | (rw[decide_eq_true q']at h5;exact absurd h5 (by decide))
   | (simp at h5;omega)
 cases hwl with
 | cons w1 w2 =>
  cases w2
  cases w1 with
  | list ho hall=>exact⟨_,_,ns,rfl,rfl,ho,as8 ns _ hall,hlen⟩
theorem bj9(l:OpenLaw) (args:List WData):l.row.toRowW.claim.post args (.bool true) args=true :=
 postW_of (r:=l.row.toRowW) (X:=(true==true))
  (show WShape.has [] (.bool true) .bool=true by first|rfl|decide|simp[WShape.has,WShape.arms,WShape.armsAll])
  (show(WTm.eq .res (.lit (.bool true))).value [] { args:=args,res:=some (.bool true),after:=args }=some (.bool (true==true)) from w_eq_bool (w_res rfl) w_lit) rfl
theorem attach_call{l:OpenLaw}{n:Nat}{q:Program}{loose:List Str}{XP:(Str->Option Value)->Heap->Prop}{YP:World->Heap->Prop}{d:DefRec}
  (hn:l.most=some n) (hdf:d.params.defaults=[])
  (call:∀(w:World) (s₀ s₁:Shared) (mg mb:Str->Option Value) (fa:Addr) (o:Obj) (pm cd doc:Value) (a:Addr) (vs:List Value) (ns:List Int),
   Ground q loose [] XP w s₀ mg mb s₁.heap->YP w s₁.heap ->
   s₁.heap.get? fa=some o->o.data=.func (docDef d.name d.params d.body d.scope pm cd doc)->s₁.heap.CodeRec cd d.name->mg d.name=some (.ref fa) ->
   s₁.heap.get? a=some { cls:=.type "list", data:=.seq vs.toArray }->IntsAre vs ns->ns.length<=n->s₁.gens = #[] ->
   codeAny (model l.prog w) callerA (.call (.ref fa) ⟨[.ref a],[]⟩) (fun r s'=>r=.ok (.ret (.bool true))/\OldK s₁.heap s'.heap/\s'.os=s₁.os/\AllBare s'.gens) s₁) :
  WalkO q loose XP YP l.row.toRowW d [] (fun f vs=>PySem.call f vs):=by
 intro w s₀ s₁ mg mb G Y fa o pm cd doc dV kV ho hd hcd hD hmg hg args vals as hpre hlay hrd hwl hlo
 obtain rfl:dV=.none:=Dflts.none hD hdf
 obtain rfl:kV=.none:=Dflts.noKw hD
 obtain⟨a,vs,ns,rfl,rfl,hobj,hints,hlen⟩:=bj7 hn hpre hwl
 refine enter_call (codeAny_mono (call w s₀ s₁ mg mb fa o pm cd doc a vs ns G Y ho (fd_plain hd) hcd hmg hobj hints hlen hg) fun r s' hq=>?_)
 obtain⟨rfl,h2,h3,h4⟩:=hq
 exact⟨.inl ⟨.bool true,.bool true,[],rfl,fun _=>rfl,.bool true,bj9 l _,fun _=>⟨List.Pairwise.nil,fun _ hm=>(nomatch hm)⟩⟩,h2,h3,h4⟩
section
variable {prog:Program}{w:World}{A:Around}{E:Value->Shared->Prop}{s:Shared}{K:Frag}
end
end Att
namespace L2
open PySem PySem.Spec PyProof.Rows
theorem aC9:∀{vs:List Value}{ns:List Int},IntsAre vs ns->M0 (ns.map V.int) vs
 | _,_,.nil=>.nil
 | _,_,.cons n t h=>.cons ⟨t,rfl⟩ (aC9 h)
noncomputable def ck0(H:Hp):Prop:=∀b,H b=none\/∃o xs,H b=some (.frz o (.lst xs))
theorem bx8{P:Program}{w:World}{K:PySem.W.Frag}{mg mb:Str->Option Value}{CX:CXT}{k:Nat}{fa a:Addr}{fd:FuncData}{x:Str}{sp:Sp}{s₁:Shared}{vs:List Value}{ns:List Int}
  (KX:K.In s₁.heap) (hns:s₁.heap.Ns mainGlobals mg) (hb:s₁.heap.Ns builtinsNs mb) (hbb:∀x:Str,x ≠ "__name__" -> mb x=bootBuiltins x) (hlim:s₁.heap.NoLimit) (hg:s₁.gens = #[])
  (ha:s₁.heap.get? a=some { cls:=.type "list", data:=.seq vs.toArray }) (hi:IntsAre vs ns) (hl:ns.length<=sizeLine) (hr:Room k callerA)
  (F:∀base:Heap,K.In base->base.Ns mainGlobals mg->FnOk P w K mg base CX k fa fd [x] sp) (hbind:∀(s:Shared) (u:Value),BindsTo s fd ⟨[u],[]⟩ [(x,u)])
  (hsp:∀H:Hp,ck0 H->SqL K H a (ns.map V.int)->sp [.ref a] H (fun v _=>v=.bl true) fun _ _ _=>False)
  (hCX:∀H e s',CX [] H s₁ (fun _ _ _=>False) e s'->False) :
  codeAny (model P w) callerA (.call (.ref fa) ⟨[.ref a],[]⟩) (fun r s'=>r=.ok (.ret (.bool true))/\OldK s₁.heap s'.heap/\s'.os=s₁.os/\AllBare s'.gens) s₁:=by
 have rv:=aC9 hi
 have lenV:=hi.length
 have core:∀H:Hp,ck0 H->SqL K H a (ns.map V.int)->HOk P w H s₁.heap->(∀b,H b≠none->b=a)->(H a≠none->K.lookup a=none) ->
   codeAny (model P w) callerA (.call (.ref fa) ⟨[.ref a],[]⟩) (fun r s'=>r=.ok (.ret (.bool true))/\OldK s₁.heap s'.heap/\s'.os=s₁.os/\AllBare s'.gens) s₁:=by
  intro H hO hS hok hA hK
  have base_of:∀{b:Addr}{o:Obj},s₁.heap.get? b=some o->H b=none->(aK6 s₁.heap H).get? b=some o:=fun e n=>bB9 e n
  have noA:∀{b:Addr}{o:Obj}{es:Array DictEntry}{ep:Nat},s₁.heap.get? b=some o->o.data=.dict es ep->H b=none:=fun{b o es ep} e d=>by
   cases q:H b with
   | none=>rfl
   | some u =>
    have e':b=a:=hA b (by rw[q];simp)
    subst e'
    rw[ha]at e;cases e
    have d':Data.seq vs.toArray _=Data.dict es ep:=d
    cases d'
  have nsK:∀{b:Addr}{m:Str->Option Value},s₁.heap.Ns b m->(aK6 s₁.heap H).Ns b m:=fun{b m} ⟨o,es,ep,e,d,r⟩=>⟨o,es,ep,base_of e (noA e d),d,r⟩
  have hKb:K.In (aK6 s₁.heap H):=fun b o e=>base_of (KX b o e) (by
   cases q:H b with
   | none=>rfl
   | some u =>
    have e':b=a:=hA b (by rw[q];simp)
    subst e'
    rw[hK (by rw[q];simp)]at e;cases e)
  have hM:Mod K mg (aK6 s₁.heap H):=⟨hKb,nsK hns,⟨mb,nsK hb,hbb⟩,let⟨mc,h1,h2⟩:=hlim;⟨mc,nsK h1,h2⟩⟩
  have e0:Env0 P w K mg (aK6 s₁.heap H) callerA [] s₁ H:=⟨rfl,hM,fun b o e=>bM2 e,Nat.le_of_eq (bl9 _ _),trivial,fun b hb=>absurd (show b∈([]:List Addr) from hb) (by simp),hok,.of_eq hg⟩
  refine codeAny_mono ((F _ hKb (nsK hns)).run callerA [] s₁ H ⟨[.ref a],[]⟩ [.ref a] [.ref a] _ _ hr e0 (hbind s₁ (.ref a)) (.cons rfl .nil) (hsp H hO hS)) fun r s' h=>?_
  cases r with
  | error e=>exact(hCX H e s' h).elim
  | ok fl =>
   cases fl with
   | next=>exact False.elim h
   | brk=>exact False.elim h
   | cont=>exact False.elim h
   | ret u =>
    obtain⟨v,H',os,bare,un,hok',r',q⟩:=h
    have q':v=.bl true:=q
    subst q'
    obtain rfl:u=Value.bool true:=r'
    refine⟨rfl,OldK.of_keep fun b o e=>?_,os,bare⟩
    cases q:H b with
    | none=>exact un.keep b o e q (by intro z;exact absurd (show b∈([]:List Addr) from z) (by simp)) (by simp)
    | some u =>
     rcases hO b with z|⟨ob,xs,z⟩
     ·rw[q]at z;cases z
     ·have z2:=un.frzs b ob _ z
      obtain⟨e1,_⟩:=hok b _ z
      obtain⟨e2,_⟩:=hok' b _ z2
      rw[e]at e1;cases e1
      exact e2
 cases hk:K.lookup a with
 | some o =>
  have e:=KX a o hk
  rw[ha]at e
  cases e
  refine core (fun _=>none) (fun _=>.inl rfl) (.inr ⟨_,vs.toArray,_,hk,rfl,rfl,rfl,by rw[List.size_toArray,lenV];exact hl,by simpa using rv⟩) (fun b u z=>by have z':(none:Option HO)=some u:=z;cases z') (fun b z=>absurd rfl z) fun z=>absurd rfl z
 | none =>
  refine core (fun b=>if b=a then some (.frz { cls:=.type "list", data:=.seq vs.toArray } (.lst (ns.map V.int))) else none) (fun b=>?_) (.inl (.inr ⟨{ cls:=.type "list", data:=.seq vs.toArray },if_pos rfl⟩)) (fun b u z=>?_) (fun b z=>?_) fun _=>hk
  ·by_cases hb:b=a
   ·exact .inr ⟨_,_,if_pos hb⟩
   ·exact .inl (if_neg hb)
  ·by_cases hb:b=a
   ·have z':=(if_pos hb).symm.trans z
    cases z'
    subst hb
    exact⟨ha,by rw[List.length_map];exact hl,vs,_,rv,ha⟩
   ·have z':=(if_neg hb).symm.trans z
    cases z'
  ·by_cases hb:b=a
   ·exact hb
   ·exact absurd (if_neg hb) z
theorem bI6{l:PySem.W.OpenLaw}{n k:Nat}{q:Program}{loose:List Str}{XP:(Str->Option Value)->Heap->Prop}{YP:World->Heap->Prop}{d:DefRec}{K:Params->PySem.W.Frag}{CX:World->CXT}{sp:World->Sp}{x:Str}
  (hn:l.most=some n) (hn2:n<=sizeLine) (hdf:d.params.defaults=[]) (hr:Room k callerA)
  (hY:∀(w:World) (h:Heap),YP w h->(K w.params).In h)
  (F:∀(w:World) (mg:Str->Option Value) (fa:Addr) (h:Heap),(K w.params).In h->h.Ns mainGlobals mg->mg d.name=some (.ref fa) ->
   ∃fd:FuncData,(∀(s:Shared) (u:Value),BindsTo s fd ⟨[u],[]⟩ [(x,u)]) /\
    ∀base:Heap,(K w.params).In base->base.Ns mainGlobals mg->FnOk l.prog w (K w.params) mg base (CX w) k fa fd [x] (sp w))
  (hsp:∀(w:World) (H:Hp) (a:Addr) (ns:List Int),ns.length<=n->ck0 H->SqL (K w.params) H a (ns.map V.int)->sp w [.ref a] H (fun v _=>v=.bl true) fun _ _ _=>False)
  (hCX:∀(w:World) (H:Hp) (s:Shared) (e:Value) (s':Shared),CX w [] H s (fun _ _ _=>False) e s'->False) :
  PySem.W.WalkO q loose XP YP l.row.toRowW d [] (fun f vs=>PySem.call f vs):=by
 refine Att.attach_call hn hdf fun w s₀ s₁ mg mb fa o pm cd doc a vs ns G Y ho hd hcd hmg hobj hints hlen hg=>?_
 have KX:=hY w _ Y
 obtain⟨fd,hb,hF⟩:=F w mg fa _ KX G.T.g hmg
 exact bx8 KX G.T.g G.T.b G.T.builtins G.T.nolimit hg hobj hints (Nat.le_trans hlen hn2) hr hF hb (fun H hO hS=>hsp w H a ns hlen hO hS) fun H e s'=>hCX w H s₁ e s'
noncomputable def Y6(s:Stmt):Arguments:=match s with
 | .FunctionDef _ a _ _ _ _ _ _ _ _=>a
 | _=>{ posonlyargs:=[],args:=[],vararg:=none,kwonlyargs:=[],kw_defaults:=[],kwarg:=none,defaults:=[] }
noncomputable def R6(s:Stmt):List Stmt:=match s with
 | .FunctionDef _ _ b _ _ _ _ _ _ _=>b
 | _=>[]
noncomputable def M8(s:Stmt):Scope:=match s with
 | .FunctionDef _ _ _ _ _ _ sc _ _ _=>sc
 | _=>{ kind:=.function,names:=[],isGenerator:=false,isCoroutine:=false }
noncomputable abbrev CX0:CXT:=fun _ _ _ _ _ _=>False
noncomputable abbrev E0:XK:=fun _ _ _=>False
theorem bU1{X:Cx}:aM7 CX0 X E0:=fun _ _ _ _ _ _ _ h=>h.elim
structure Fun (K:PySem.W.Frag) (x qual:Str) (st:Stmt) (f:Addr) (fd:FuncData):Prop where
 ex:∃(oc:Value) (od:Option Addr) (kV doc pm:Value) (an:Option Addr) (cdv ct:Value) (osl:Array (Option Value)),
  fd=PySem.W.fnOf x qual (Y6 st) (R6 st) (M8 st) .none kV doc pm an cdv ct/\K.lookup f=some ⟨oc,od,.func fd,osl⟩/\PySem.W.codeIn K cdv qual=true
 kp:PySem.W.keepIn K (.ref f)=true
section
variable {P:Program}{w:World}{K:PySem.W.Frag}{mg:Str->Option Value}{base:Heap}
theorem Fun.ok{x qual:Str}{st:Stmt}{f:Addr}{fd:FuncData}{N ps:List Str}{k:Nat}{sp:Sp}(F:Fun K x qual st f fd) (S:FnScope N ps (M8 st)) (len:∀vs H Q E,sp vs H Q E->vs.length=ps.length)
  (hbody:∀(cdv:Value) (A:Around) (outer:List Env) (s:Shared) (H:Hp) (vs:List V) (Q:VK) (E:XK),Room k (A.deeper (envOfC qual (M8 st) s.heap.objs.size f cdv))->sp vs H Q E ->
   ∃t,PSs (aT3 CX0 P w K mg base N qual (M8 st) f cdv A outer s H E).nox (R6 st) t/\t { nx:=fun _ H'=>Q .non H',rt:=Q } (i9 N vs) H):FnOk P w K mg base CX0 (k+1) f fd ps sp:=by
 obtain⟨oc,od,kV,doc,pm,an,cdv,ct,osl,rfl,lk,hcd⟩:=F.ex
 refine aE7 lk hcd S len fun A outer s H vs Q E hr hsp=>?_
 obtain⟨t,h,q⟩:=hbody cdv A outer s H vs Q E hr hsp
 exact⟨t,h.nox,q⟩
theorem ch9{x qual:Str}{st:Stmt}{f:Addr}{oc:Value}{od an:Option Addr}{osl:Array (Option Value)}{kV doc pm cdv ct:Value}(l:K.lookup f=some ⟨oc,od,.func (PySem.W.fnOf x qual (Y6 st) (R6 st) (M8 st) .none kV doc pm an cdv ct),osl⟩)
  (c:PySem.W.codeIn K cdv qual=true) (k:PySem.W.keepIn K (.ref f)=true):Fun K x qual st f (PySem.W.fnOf x qual (Y6 st) (R6 st) (M8 st) .none kV doc pm an cdv ct):=⟨⟨oc,od,kV,doc,pm,an,cdv,ct,osl,rfl,l,c⟩,k⟩
end
theorem ap1{n:Nat}(h:n<=1000):n < sizeLine:=Nat.lt_of_le_of_lt h (by decide)
section
variable {X:Cx}
theorem pv(i:Nat) {x:Str}{pos:Pos}(hN:X.N[i]? = some x:=by rfl) (hv:Vis X.env.scope x:=by first|exact Or.inl rfl|exact Or.inr (Or.inl rfl)|exact Or.inr (Or.inr rfl)) (hd:(x==("__debug__" : Str))=false:=by decide)
  (hcd:(x==("__classdict__" : Str))=false:=by decide):PE X (.Name x pos) (cl8 i):=ae2 hN hv hd hcd
end
theorem aB6{A B:Prop}(h:B):if false=true then A else B:=by
 rw[if_neg Bool.false_ne_true]
 exact h
theorem aB5{A B:Prop}(h:A):if true=true then A else B:=by
 rw[if_pos rfl]
 exact h
noncomputable def L0(H H':Hp):Prop:=∀b o,H b=some o->H' b=some o
theorem L0.refl(H:Hp):L0 H H:=fun _ _ h=>h
theorem L0.trans{H H1 H2:Hp}(a:L0 H H1) (b:L0 H1 H2):L0 H H2:=fun c o h=>b c o (a c o h)
theorem L0.free{H H':Hp}(e:L0 H H') {l:Addr}(h:H' l=Option.none):H l=Option.none:=by
 cases q:H l with
 | none=>rfl
 | some o =>
  rw[e l o q]at h
  cases h
end L2
set_option maxHeartbeats 4000000
namespace G
theorem xbm{α β:Type}{o:Option α}{f:α->Option β}{b:β}(h:o.bind f=some b):∃a,o=some a/\f a=some b:=xbo h
open PySem PySem.Spec PyProof.Rows L2
noncomputable abbrev D:=PyData
mutual
noncomputable def Rep(K:PySem.W.Frag) (H:Hp):D->V->Prop
 | .none,v=>v=.non
 | .bool b,v=>v=.bl b
 | .int i,v=>v=.int i
 | .str x,v=>v=.str x
 | .tuple ds,v=>∃a vs,v=.ref a/\SqT K H a vs/\Reps K H ds vs
 | .list ds,v=>∃a vs,v=.ref a/\SqL K H a vs/\Reps K H ds vs
 | .dict _,_=>False
noncomputable def Reps(K:PySem.W.Frag) (H:Hp):List D->List V->Prop
 | [],vs=>vs=[]
 | d::ds,vs=>∃v r,vs=v::r/\Rep K H d v/\Reps K H ds r
end
section
variable {K:PySem.W.Frag}{H H' H0 H1 H2 Hf Hf' Hf1 Hf2:Hp}
theorem bd6{a:Addr}{u:HO}(e:L0 H H') (h:Rd H a u):Rd H' a u:=by
 rcases h with h|⟨o,h⟩
 ·exact .inl (e _ _ h)
 ·exact .inr ⟨o,e _ _ h⟩
theorem K8{a:Addr}{xs:List V}(e:L0 H H') (h:SqT K H a xs):SqT K H' a xs:=h.imp (bd6 e) id
theorem M7{a:Addr}{xs:List V}(e:L0 H H') (h:SqL K H a xs):SqL K H' a xs:=h.imp (bd6 e) id
mutual
theorem Rep.mono(e:L0 H H'):∀{d:D}{v:V},Rep K H d v->Rep K H' d v
 | .none,_,h=>h
 | .bool _,_,h=>h
 | .int _,_,h=>h
 | .str _,_,h=>h
 | .tuple _,_,⟨a,vs,h1,h2,h3⟩=>⟨a,vs,h1,K8 e h2,Reps.mono e h3⟩
 | .list _,_,⟨a,vs,h1,h2,h3⟩=>⟨a,vs,h1,M7 e h2,Reps.mono e h3⟩
 | .dict _,_,h=>h
theorem Reps.mono(e:L0 H H'):∀{ds:List D}{vs:List V},Reps K H ds vs->Reps K H' ds vs
 | [],_,h=>h
 | _::_,_,⟨v,r,h1,h2,h3⟩=>⟨v,r,h1,Rep.mono e h2,Reps.mono e h3⟩
end
theorem Reps.length:∀{ds:List D}{vs:List V},Reps K H ds vs->vs.length=ds.length
 | [],_,h=>by cases h;rfl
 | _::_,_,⟨v,r,h1,h2,h3⟩=>by subst h1;simp[Reps.length h3]
theorem Reps.get:∀{ds:List D}{vs:List V}{i:Nat}{d:D},Reps K H ds vs->ds[i]? = some d->∃v,vs[i]? = some v/\Rep K H d v
 | [],_,_,_,_,e=>by simp at e
 | x::_,_,0,_,⟨v,r,h1,h2,h3⟩,e=>by subst h1;simp at e;subst e;exact⟨v,rfl,h2⟩
 | x::_,_,i+1,_,⟨v,r,h1,h2,h3⟩,e=>by
  subst h1
  obtain⟨u,q1,q2⟩:=Reps.get (i:=i) h3 (by simpa using e)
  exact⟨u,by simpa using q1,q2⟩
theorem Reps.append:∀{ds es:List D}{vs us:List V},Reps K H ds vs->Reps K H es us->Reps K H (ds++es) (vs++us)
 | [],_,_,_,h,q=>by cases h;exact q
 | _::_,_,_,_,⟨v,r,h1,h2,h3⟩,q=>by subst h1;exact⟨v,r++_,rfl,h2,Reps.append h3 q⟩
theorem Reps.take:∀{ds:List D}{vs:List V}(n:Nat),Reps K H ds vs->Reps K H (ds.take n) (vs.take n)
 | [],_,n,h=>by cases h;simp[Reps]
 | _::_,_,0,h=>by simp[Reps]
 | _::_,_,n+1,⟨v,r,h1,h2,h3⟩=>by subst h1;exact⟨v,r.take n,rfl,h2,Reps.take n h3⟩
theorem Reps.drop:∀{ds:List D}{vs:List V}(n:Nat),Reps K H ds vs->Reps K H (ds.drop n) (vs.drop n)
 | [],_,n,h=>by cases h;simp[Reps]
 | _::_,_,0,h=>h
 | _::_,_,n+1,⟨v,r,h1,h2,h3⟩=>by subst h1;exact Reps.drop n h3
theorem Reps.ints:∀(ns:List Int),Reps K H (ns.map PyData.int) (ns.map V.int)
 | []=>rfl
 | n::r=>⟨.int n,r.map V.int,rfl,rfl,Reps.ints r⟩
theorem Reps.flatten{ds:List D}{vs:List V}(h:Reps K H ds vs):∀k:Nat,Reps K H (List.replicate k ds).flatten (List.replicate k vs).flatten
 | 0=>rfl
 | k+1=>by simp only[List.replicate_succ,List.flatten_cons];exact h.append (Reps.flatten h k)
structure Grow (H Hf H' Hf':Hp):Prop where
 big:L0 H H'
 sub:L0 Hf' H'
 ext:L0 Hf Hf'
 new:∀b,Hf' b≠none->Hf b≠none\/H b=none
theorem Grow.refl(h:L0 Hf H):Grow H Hf H Hf:=⟨L0.refl _,h,L0.refl _,fun _ h=>.inl h⟩
theorem Grow.trans(a:Grow H Hf H1 Hf1) (b:Grow H1 Hf1 H2 Hf2):Grow H Hf H2 Hf2 :=
 ⟨a.big.trans b.big,b.sub,a.ext.trans b.ext,fun x h=>(b.new x h).elim (a.new x) fun z=>.inr (a.big.free z)⟩
theorem L5{p:Addr}{o:HO}(h:H p=none):L0 H (upd H p o):=fun b u e=>by rw[J0 (K2 e h)];exact e
theorem Grow.laid{p:Addr}{o:HO}(s:L0 Hf H) (h:H p=none):Grow H Hf (upd H p o) (upd Hf p o):=by
 refine⟨L5 h,fun b u e=>?_,L5 (s.free h),fun b e=>?_⟩
 ·by_cases q:b=p
  ·subst q;rw[J9]at e;rw[J9];exact e
  ·rw[J0 q]at e;rw[J0 q];exact s b u e
 ·by_cases q:b=p
  ·subst q;exact .inr h
  ·rw[J0 q]at e;exact .inl e
theorem Grow.made{p:Addr}{o:HO}(s:L0 Hf H) (h:H p=none):Grow H Hf (upd H p o) Hf :=
 ⟨L5 h,s.trans (L5 h),L0.refl _,fun _ e=>.inl e⟩
theorem Grow.freeze{p:Addr}{o:HO}(g:Grow H Hf H1 Hf1) (h:H1 p=some o) (n:Hf1 p=none) (f:H p=none):Grow H Hf H1 (upd Hf1 p o):=by
 refine⟨g.big,fun b u e=>?_,g.ext.trans (L5 n),fun b e=>?_⟩
 ·by_cases q:b=p
  ·subst q;rw[J9]at e;rw[h];exact e
  ·rw[J0 q]at e;exact g.sub b u e
 ·by_cases q:b=p
  ·subst q;exact .inr f
  ·rw[J0 q]at e;exact g.new b e
end
inductive B where
 | val (d:D)
 | own (ds:List D)
 | exc (x:Str)
noncomputable abbrev Rho:=List (Option B)
noncomputable def clA(K:PySem.W.Frag) (x:Str):Option Addr:=match PySem.W.nsIn K mainGlobals x with
 | some (some (.ref C))=>some C
 | _=>none
noncomputable def SB(K:PySem.W.Frag) (H0 H Hf:Hp):B->V->Prop
 | .val d,v=>Rep K Hf d v
 | .own ds,v=>∃a vs,v=.ref a/\H a=some (.lst vs)/\Hf a=none/\H0 a=none/\Reps K Hf ds vs
 | .exc x,v=>∃a o C,v=.ref a/\Hf a=some (.frz o (.own a))/\clA K x=some C/\o.cls=.ref C
structure Slots (K:PySem.W.Frag) (H0:Hp) (ρ:Rho) (σ:L2.St) (H Hf:Hp):Prop where
 len:ρ.length=σ.length
 is:∀(i:Nat) (b:B),ρ[i]? = some (some b)->∃v,σ[i]? = some (some v)/\SB K H0 H Hf b v
 apart:∀(i j:Nat) (ds es:List D) (a:Addr),ρ[i]? = some (some (.own ds))->ρ[j]? = some (some (.own es))->σ[i]? = some (some (V.ref a))->σ[j]? = some (some (V.ref a))->i=j
section
variable {K:PySem.W.Frag}{H H' H0 H1 H2 Hf Hf' Hf1 Hf2:Hp}{ρ:Rho}{σ:L2.St}
theorem SB.grow{b:B}{v:V}(h:SB K H0 H Hf b v) (g:Grow H Hf H' Hf'):SB K H0 H' Hf' b v:=by
 cases b with
 | val d=>exact Rep.mono g.ext h
 | exc C =>
  obtain⟨a,o,C,e,h1,h2⟩:=h
  exact⟨a,o,C,e,g.ext _ _ h1,h2⟩
 | own ds =>
  obtain⟨a,vs,e,h1,h2,h3,h4⟩:=h
  refine⟨a,vs,e,g.big _ _ h1,?_,h3,h4.mono g.ext⟩
  cases q:Hf' a with
  | none=>rfl
  | some u =>
   rcases g.new a (by rw[q];simp) with z|z
   ·exact absurd h2 z
   ·rw[h1]at z;cases z
theorem Slots.grow(s:Slots K H0 ρ σ H Hf) (g:Grow H Hf H' Hf'):Slots K H0 ρ σ H' Hf' :=
 ⟨s.len,fun i b e=>let⟨v,h1,h2⟩:=s.is i b e;⟨v,h1,h2.grow g⟩,s.apart⟩
end
noncomputable abbrev DE:=Rho->Option D
noncomputable def tJ(K:PySem.W.Frag) (ρ:Rho) (R:Hp->V->Hp->Hp->Prop):TE:=fun σ H Q=>∃H0 Hf,L0 Hf H/\Slots K H0 ρ σ H Hf/\∀v H' Hf',Grow H Hf H' Hf'->R H v H' Hf'->Q v H'
noncomputable def JE(X:Cx) (e:Expr) (f:DE):Prop:=∀ρ d,f ρ=some d->PE X e (tJ X.K ρ fun _ v _ Hf=>Rep X.K Hf d v)
noncomputable def Sq(K:PySem.W.Frag):Bool->Hp->Addr->List V->Prop
 | true=>SqT K
 | false=>SqL K
noncomputable def RQ(K:PySem.W.Frag) (t:Bool) (ds:List D) (v:V) (H Hf:Hp):Prop:=∃a vs,v=.ref a/\Sq K t H a vs/\Reps K Hf ds vs
noncomputable def JQ(X:Cx) (e:Expr) (f:Rho->Option (Bool×List D)):Prop:=∀ρ t ds,f ρ=some (t,ds)->PE X e (tJ X.K ρ fun _ v H Hf=>RQ X.K t ds v H Hf)
noncomputable def JN(X:Cx) (e:Expr) (f:Rho->Option (List D)):Prop:=∀ρ ds,f ρ=some ds->PE X e (tJ X.K ρ fun H v H' Hf'=>∃a vs,v=.ref a/\H a=none/\H' a=some (.lst vs)/\Hf' a=none/\Reps X.K Hf' ds vs)
noncomputable def tJA(K:PySem.W.Frag) (ρ:Rho) (ds:List D):TA:=fun σ H Q=>∃H0 Hf,L0 Hf H/\Slots K H0 ρ σ H Hf/\∀vs H' Hf',Grow H Hf H' Hf'->Reps K Hf' ds vs->Q vs H'
structure JA (X:Cx) (es:List Expr) (f:Rho->Option (List D)):Prop where
 len:∀ρ ds,f ρ=some ds->ds.length=es.length
 run:∀ρ ds,f ρ=some ds->PA X es (tJA X.K ρ ds)
noncomputable def JT(X:Cx) (e:Expr) (f:Rho->Option Bool):Prop:=∀ρ c,f ρ=some c->PT X e (fun σ H Q=>∃H0 Hf,L0 Hf H/\Slots X.K H0 ρ σ H Hf/\∀H' Hf',Grow H Hf H' Hf'->Q c H')
noncomputable def JW(X:Cx) (e:Expr) (f:Rho->Option Bool):Prop:=∀ρ c,f ρ=some c->PW X e (fun σ H Q=>∃H0 Hf,L0 Hf H/\Slots X.K H0 ρ σ H Hf/\∀H' Hf',Grow H Hf H' Hf'->Q c H')
section
variable {X:Cx}
theorem K7{e:Expr}{t t':TE}(h:PE X e t) (i:∀σ H Q,t' σ H Q->t σ H Q):PE X e t':=fun pins s σ H Q I q=>h pins s σ H Q I (i σ H Q q)
theorem aI9{e:Expr}{t t':TT}(h:PT X e t) (i:∀σ H Q,t' σ H Q->t σ H Q):PT X e t':=fun pins s σ H Q I q=>h pins s σ H Q I (i σ H Q q)
noncomputable def dC(d:D):DE:=fun _=>some d
noncomputable def A1(i:Nat):DE:=fun ρ=>match ρ[i]? with
 | some (some (.val d))=>some d
 | _=>none
noncomputable def A5(i:Nat):Rho->Option (Bool×List D):=fun ρ=>match ρ[i]? with
 | some (some (.own ds))=>some (false,ds)
 | some (some (.val (.list ds)))=>some (false,ds)
 | some (some (.val (.tuple ds)))=>some (true,ds)
 | _=>none
noncomputable def ae0:D->Option (Bool×List D)
 | .list ds=>some (false,ds)
 | .tuple ds=>some (true,ds)
 | _=>none
theorem bA2{i:Int}{j:Nat}{pos:Pos}:JE X (.Constant (.int i) j pos) (dC (.int i)):=fun ρ d h=>by
 cases h
 exact K7 ca0 fun σ H Q ⟨H0,Hf,s,sl,k⟩=>k _ H Hf (Grow.refl s) rfl
theorem cr3{b:Bool}{j:Nat}{pos:Pos}:JE X (.Constant (.bool b) j pos) (dC (.bool b)):=fun ρ d h=>by
 cases h
 exact K7 cn9 fun σ H Q ⟨H0,Hf,s,sl,k⟩=>k _ H Hf (Grow.refl s) rfl
theorem cg5{j:Nat}{pos:Pos}:JE X (.Constant .none j pos) (dC .none):=fun ρ d h=>by
 cases h
 exact K7 bZ8 fun σ H Q ⟨H0,Hf,s,sl,k⟩=>k _ H Hf (Grow.refl s) rfl
theorem cg0{x:Str}{j:Nat}{pos:Pos}:JE X (.Constant (.str x) j pos) (dC (.str x)):=fun ρ d h=>by
 cases h
 exact K7 bZ4 fun σ H Q ⟨H0,Hf,s,sl,k⟩=>k _ H Hf (Grow.refl s) rfl
theorem bz4(i:Nat) {x:Str}{pos:Pos}(hN:X.N[i]? = some x:=by rfl) (hv:Vis X.env.scope x:=by first|exact Or.inl rfl|exact Or.inr (Or.inl rfl)|exact Or.inr (Or.inr rfl)) (hd:(x==("__debug__" : Str))=false:=by decide)
  (hcd:(x==("__classdict__" : Str))=false:=by decide):JE X (.Name x pos) (A1 i):=fun ρ d h=>by
 refine K7 (ae2 hN hv hd hcd) fun σ H Q ⟨H0,Hf,s,sl,k⟩=>?_
 unfold A1 at h
 split at h
 ·rename_i d' e
  cases h
  obtain⟨v,h1,h2⟩:=sl.is i _ e
  exact⟨v,h1,k v H Hf (Grow.refl s) h2⟩
 ·cases h
theorem cf4(i:Nat) {x:Str}{pos:Pos}(hN:X.N[i]? = some x:=by rfl) (hv:Vis X.env.scope x:=by first|exact Or.inl rfl|exact Or.inr (Or.inl rfl)|exact Or.inr (Or.inr rfl)) (hd:(x==("__debug__" : Str))=false:=by decide)
  (hcd:(x==("__classdict__" : Str))=false:=by decide):JQ X (.Name x pos) (A5 i):=fun ρ t ds h=>by
 refine K7 (ae2 hN hv hd hcd) fun σ H Q ⟨H0,Hf,s,sl,k⟩=>?_
 unfold A5 at h
 split at h
 ·rename_i d' e
  cases h
  obtain⟨v,h1,a,vs,rfl,h2,h3,h4,h5⟩:=sl.is i _ e
  exact⟨_,h1,k _ H Hf (Grow.refl s) ⟨a,vs,rfl,SqL.of h2,h5⟩⟩
 ·rename_i d' e
  cases h
  obtain⟨v,h1,a,vs,rfl,h2,h3⟩:=sl.is i _ e
  exact⟨_,h1,k _ H Hf (Grow.refl s) ⟨a,vs,rfl,M7 s h2,h3⟩⟩
 ·rename_i d' e
  cases h
  obtain⟨v,h1,a,vs,rfl,h2,h3⟩:=sl.is i _ e
  exact⟨_,h1,k _ H Hf (Grow.refl s) ⟨a,vs,rfl,K8 s h2,h3⟩⟩
 ·cases h
theorem Rep.seq{K:PySem.W.Frag}{H Hf:Hp}{d:D}{v:V}{t:Bool}{ds:List D}(h:Rep K Hf d v) (s:L0 Hf H) (e:ae0 d=some (t,ds)):RQ K t ds v H Hf:=by
 cases d with
 | list xs=>cases e;obtain⟨a,vs,e1,e2,e3⟩:=h;exact⟨a,vs,e1,M7 s e2,e3⟩
 | tuple xs=>cases e;obtain⟨a,vs,e1,e2,e3⟩:=h;exact⟨a,vs,e1,K8 s e2,e3⟩
 | _=>cases e
noncomputable def qE(f:DE):Rho->Option (Bool×List D):=fun ρ=>(f ρ).bind ae0
theorem by9{e:Expr}{f:DE}(h:JE X e f):JQ X e (qE f):=fun ρ t ds q=>by
 obtain⟨d,h1,h2⟩:=xbm q
 exact K7 (h ρ d h1) fun σ H Q ⟨H0,Hf,s,sl,k⟩=>⟨H0,Hf,s,sl,fun v H' Hf' g r=>k v H' Hf' g (r.seq g.sub h2)⟩
noncomputable def A2:Rho->Option (List D):=fun _=>some []
noncomputable def A0(f:DE) (g:Rho->Option (List D)):Rho->Option (List D):=fun ρ=>(f ρ).bind fun d=>(g ρ).map fun ds=>d::ds
theorem bA6:JA X [] A2:=⟨fun ρ ds h=>by cases h;rfl,fun ρ ds h pos pins s σ H Q I ⟨H0,Hf,ss,sl,k⟩=>by
 cases h
 exact T7 pos pins s σ H Q I (k [] H Hf (Grow.refl ss) rfl)⟩
theorem bf9{e:Expr}{es:List Expr}{f:DE}{g:Rho->Option (List D)}(h:JE X e f) (r:JA X es g) (hs:starEach (e::es) X.env=(false,eval e X.env)::starEach es X.env:=by rfl):JA X (e::es) (A0 f g):=by
 refine⟨fun ρ ds q=>?_,fun ρ ds q=>?_⟩
 ·obtain⟨d,h1,h2⟩:=xbm q
  obtain⟨es',h3,h4⟩:=xmo h2
  subst h4
  simp[r.len ρ es' h3]
 ·obtain⟨d,h1,h2⟩:=xbm q
  obtain⟨es',h3,h4⟩:=xmo h2
  subst h4
  intro pos pins s σ H Q I ⟨H0,Hf,ss,sl,k⟩
  refine P4 (h ρ d h1) (r.run ρ es' h3) hs pos pins s σ H Q I ⟨H0,Hf,ss,sl,fun v H1 Hf1 g1 r1=>⟨H0,Hf1,g1.sub,sl.grow g1,fun vs H2 Hf2 g2 r2=>?_⟩⟩
  exact k (v::vs) H2 Hf2 (g1.trans g2) ⟨v,vs,rfl,r1.mono g2.ext,r2⟩
noncomputable def D4(f:Rho->Option (List D)):DE:=fun ρ=>(f ρ).map PyData.tuple
theorem bz6{es:List Expr}{f:Rho->Option (List D)}{k:Nat}{pos:Pos}(h:JA X es f) (hn:es.length<=1000:=by decide):JE X (.Tuple es k pos) (D4 f):=fun ρ d q=>by
 obtain⟨ds,h1,h2⟩:=xmo q
 subst h2
 refine K7 (bZ3 fun pos pins s σ H Q I t=>h.run ρ ds h1 pos pins s σ H Q I t) fun σ H Q ⟨H0,Hf,s,sl,k⟩=>?_
 refine⟨H0,Hf,s,sl,fun vs H1 Hf1 g r=>⟨?_,fun p hp=>?_⟩⟩
 ·rw[r.length,h.len ρ ds h1];exact Nat.le_of_lt (ap1 hn)
 ·exact k _ _ _ (g.trans (Grow.laid g.sub hp)) ⟨p,vs,rfl,SqT.of J9,r.mono (Grow.laid (o:=.tup vs) g.sub hp).ext⟩
theorem bz0{es:List Expr}{f:Rho->Option (List D)}{pos:Pos}(h:JA X es f) (hn:es.length<=1000:=by decide):JN X (.List es pos) f:=fun ρ ds h1=>by
 refine K7 (bZ9 fun pos pins s σ H Q I t=>h.run ρ ds h1 pos pins s σ H Q I t) fun σ H Q ⟨H0,Hf,s,sl,k⟩=>?_
 refine⟨H0,Hf,s,sl,fun vs H1 Hf1 g r=>⟨?_,fun p hp=>?_⟩⟩
 ·rw[r.length,h.len ρ ds h1];exact Nat.le_of_lt (ap1 hn)
 ·exact k _ _ _ (g.trans (Grow.made g.sub hp)) ⟨p,vs,rfl,g.big.free hp,J9,g.sub.free hp,r⟩
noncomputable def P0(f:Rho->Option (List D)):DE:=fun ρ=>(f ρ).map PyData.list
theorem am3{e:Expr}{f:Rho->Option (List D)}(h:JN X e f):JE X e (P0 f):=fun ρ d q=>by
 obtain⟨ds,h1,h2⟩:=xmo q
 subst h2
 refine K7 (h ρ ds h1) fun σ H Q ⟨H0,Hf,s,sl,k⟩=>⟨H0,Hf,s,sl,fun v H' Hf' g ⟨a,vs,e1,e2,e3,e4,e5⟩=>?_⟩
 subst e1
 exact k _ _ _ (g.freeze e3 e4 e2) ⟨a,vs,rfl,SqL.of J9,e5.mono (L5 e4)⟩
theorem by8{e:Expr}{f:Rho->Option (List D)}(h:JN X e f):JQ X e (fun ρ=>(f ρ).map fun ds=>(false,ds)):=fun ρ t ds q=>by
 obtain⟨ds',h1,h2⟩:=xmo q
 cases h2
 refine K7 (h ρ ds h1) fun σ H Q ⟨H0,Hf,s,sl,k⟩=>⟨H0,Hf,s,sl,fun v H' Hf' g ⟨a,vs,e1,e2,e3,e4,e5⟩=>?_⟩
 subst e1
 exact k _ _ _ g ⟨a,vs,rfl,SqL.of e3,e5⟩
noncomputable def OpD(X:Cx) (F:Value->Value->Sem Value) (h:D->D->Option D):Prop:=∀x y z,h x y=some z ->
 OpR X F fun vx vy H Q=>∃Hf,L0 Hf H/\Rep X.K Hf x vx/\Rep X.K Hf y vy/\∀v H' Hf',Grow H Hf H' Hf'->Rep X.K Hf' z v->Q v H'
noncomputable def A4(h:D->D->Option D) (f g:DE):DE:=fun ρ=>(f ρ).bind fun x=>(g ρ).bind fun y=>h x y
theorem o6{op:Operator}{h:D->D->Option D}{a b:Expr}{f g:DE}{pos:Pos}(o:OpD X (binaryOp op) h) (ha:JE X a f) (hb:JE X b g):JE X (.BinOp a op b pos) (A4 h f g):=fun ρ d q=>by
 obtain⟨x,h1,q⟩:=xbm q
 obtain⟨y,h2,h3⟩:=xbm q
 refine K7 (bT9 (o x y d h3) (ha ρ x h1) (hb ρ y h2)) fun σ H Q ⟨H0,Hf,s,sl,k⟩=>?_
 refine⟨H0,Hf,s,sl,fun v H1 Hf1 g1 r1=>⟨H0,Hf1,g1.sub,sl.grow g1,fun u H2 Hf2 g2 r2=>?_⟩⟩
 exact⟨Hf2,g2.sub,r1.mono g2.ext,r2,fun w H3 Hf3 g3 r3=>k w H3 Hf3 ((g1.trans g2).trans g3) r3⟩
theorem bA3{op:CmpOp}{h:D->D->Option D}{a b:Expr}{f g:DE}{pos:Pos}(o:OpD X (compareOp op) h) (ha:JE X a f) (hb:JE X b g) (hm:behindInMarks op b=false:=by first|exact bw1 _|rfl):JE X (.Compare a [op] [b] pos) (A4 h f g):=fun ρ d q=>by
 obtain⟨x,h1,q⟩:=xbm q
 obtain⟨y,h2,h3⟩:=xbm q
 refine K7 (bL1 (o x y d h3) (ha ρ x h1) (hb ρ y h2) hm) fun σ H Q ⟨H0,Hf,s,sl,k⟩=>?_
 refine⟨H0,Hf,s,sl,fun v H1 Hf1 g1 r1=>⟨H0,Hf1,g1.sub,sl.grow g1,fun u H2 Hf2 g2 r2=>?_⟩⟩
 exact⟨Hf2,g2.sub,r1.mono g2.ext,r2,fun w H3 Hf3 g3 r3=>k w H3 Hf3 ((g1.trans g2).trans g3) r3⟩
theorem OpR.imp{F:Value->Value->Sem Value}{r r':R2}(h:OpR X F r) (i:∀x y H Q,r' x y H Q->r x y H Q):OpR X F r':=fun pins s σ H x y v u Q I rx ry q=>h pins s σ H x y v u Q I rx ry (i x y H Q q)
end
section
variable {X:Cx}
noncomputable def N0(i:Int):Prop:=i.natAbs < 2 ^ 8000
instance:DecidablePred N0:=fun i=>inferInstanceAs (Decidable (i.natAbs < 2 ^ 8000))
theorem N0.log{i:Int}(h:N0 i) (h0:i.natAbs≠0):i.natAbs.log2 < 8000:=(Nat.log2_lt h0).mpr h
theorem N0.bits{i:Int}(h:N0 i):Builtin.Int.intBits i<=2 ^ 20:=by
 unfold Builtin.Int.intBits
 split
 ·exact Nat.zero_le _
 ·rename_i h0
  have:=h.log (by simpa using h0)
  omega
theorem bL7{X:Cx}:OpR X (binaryOp .Mult) (rI (fun i j=>N0 i/\N0 j) fun i j=>.int (i*j)):=opI fun _ _ _ _ _ _ _ hc q=>mul_int q (PySem.IntMulOk.of_bits hc.1.bits hc.2.bits)
noncomputable def ct0(x y:D):Option D:=match x,y with
 | .int i,.int j=>some (.int (i+j))
 | _,_=>none
noncomputable def ac8(x y:D):Option D:=match x,y with
 | .int i,.int j=>some (.int (i - j))
 | .int i,.bool b=>some (.int (i - if b=true then 1 else 0))
 | .bool a,.int j=>some (.int ((if a=true then 1 else 0) - j))
 | _,_=>none
noncomputable def cc0(x y:D):Option D:=match x,y with
 | .int i,.int j=>if N0 i/\N0 j then some (.int (i*j)) else none
 | _,_=>none
noncomputable def ac7(x y:D):Option D:=match x,y with
 | .int i,.int j=>if 0 < j/\N0 j then some (.int (i / j)) else none
 | _,_=>none
noncomputable def Y1(x y:D):Option D:=match x,y with
 | .int i,.int j=>if 0 < j then some (.int (i % j)) else none
 | _,_=>none
theorem cv6:OpD X (binaryOp .Add) ct0:=fun x y z h=>by
 unfold ct0 at h
 split at h
 ·cases h
  exact OpR.imp bv6 fun vx vy H Q ⟨Hf,s,r1,r2,k⟩=>⟨_,_,r1,r2,k _ H Hf (Grow.refl s) rfl⟩
 ·cases h
theorem ca6:OpD X (binaryOp .Sub) ac8:=fun x y z h=>by
 unfold ac8 at h
 split at h
 ·cases h
  exact OpR.imp ca2 fun vx vy H Q ⟨Hf,s,r1,r2,k⟩=>⟨_,_,r1,r2,k _ H Hf (Grow.refl s) rfl⟩
 ·cases h
  intro pins s σ H vx vy v u Q I rx ry ⟨Hf,ss,r1,r2,k⟩
  cases r1;cases r2
  obtain⟨t,rfl⟩:=rx
  obtain rfl:u=Value.bool _:=ry
  exact PySem.IntBool.sub_int_bool ⟨.int _,H,I.tok _,⟨_,rfl⟩,k _ H Hf (Grow.refl ss) rfl⟩
 ·cases h
  intro pins s σ H vx vy v u Q I rx ry ⟨Hf,ss,r1,r2,k⟩
  cases r1;cases r2
  obtain⟨t,rfl⟩:=ry
  obtain rfl:v=Value.bool _:=rx
  exact PySem.IntBool.sub_bool_int ⟨.int _,H,I.tok _,⟨_,rfl⟩,k _ H Hf (Grow.refl ss) rfl⟩
 ·cases h
theorem ca7:OpD X (binaryOp .Mult) cc0:=fun x y z h=>by
 unfold cc0 at h
 split at h
 ·split at h
  ·rename_i c
   cases h
   exact OpR.imp bL7 fun vx vy H Q ⟨Hf,s,r1,r2,k⟩=>⟨_,_,r1,r2,c,k _ H Hf (Grow.refl s) rfl⟩
  ·cases h
 ·cases h
theorem bk3:OpR X (binaryOp .FloorDiv) (rI (fun _ j=>0 < j/\N0 j) fun i j=>.int (i / j)):=opI fun i j _ _ s Q E hc q=>by
 have e:i.fdiv j=i / j:=Int.fdiv_eq_ediv_of_nonneg i (Int.le_of_lt hc.1)
 refine floordiv_int (by omega) (by rw[e];exact q) (.inl (PyProof.noPylong_of_log2 ?_))
 have h2:=hc.2.log (by omega)
 omega
theorem cb0:OpD X (binaryOp .FloorDiv) ac7:=fun x y z h=>by
 unfold ac7 at h
 split at h
 ·split at h
  ·rename_i c
   cases h
   exact OpR.imp bk3 fun vx vy H Q ⟨Hf,s,r1,r2,k⟩=>⟨_,_,r1,r2,c,k _ H Hf (Grow.refl s) rfl⟩
  ·cases h
 ·cases h
theorem ca8:OpD X (binaryOp .Mod) Y1:=fun x y z h=>by
 unfold Y1 at h
 split at h
 ·split at h
  ·rename_i c
   cases h
   exact OpR.imp ca3 fun vx vy H Q ⟨Hf,s,r1,r2,k⟩=>⟨_,_,r1,r2,c,k _ H Hf (Grow.refl s) rfl⟩
  ·cases h
 ·cases h
theorem bv5:OpR X (binaryOp .Add) (fun x y H Q=>∃a b ys,x=.ref a/\y=.ref b/\SqT X.K H a []/\SqT X.K H b ys/\Q (.ref b) H):=by
 intro pins s σ H x y v u Q I rx ry h
 obtain⟨a,b,ys,rfl,rfl,ha,hb,q⟩:=h
 cases rx
 cases ry
 obtain⟨its,r1,p1,_⟩:=I.tuple ha
 obtain⟨its2,r2,p2,_⟩:=I.tuple hb
 cases r1
 obtain⟨⟨cls,dd,data,sl⟩,ho,hc,n,hd⟩:=id p1
 obtain⟨⟨cls2,dd2,data2,sl2⟩,ho2,hc2,n2,hd2⟩:=id p2
 simp only at hc hd hc2 hd2
 subst hc hd hc2 hd2
 exact concat_meets ⟨_,ho,rfl⟩ ⟨_,ho2,rfl⟩ noFill_tuple_add seq_tuple_add PySem.F.slot_tuple_add PySem.F.entry_tuple_add (PySem.F.args_tuple_add_2 _ _)
   (tuple_addW0 a b _ its2.toArray n n2 dd dd2 sl sl2 (by rfl)) ⟨ho,ho2,⟨.ref b,H,I,rfl,q⟩⟩
noncomputable def Z9(x y:D):Option D:=match x,y with
 | .tuple xs,.tuple ys=>if xs.length+ys.length<=16777216 then some (.tuple (xs++ys)) else none
 | .str a,.str b=>if a.length+b.length<=16777216 then some (.str (a++b)) else none
 | .int i,.int j=>some (.int (i+j))
 | .bool a,.int j=>some (.int ((if a=true then 1 else 0)+j))
 | _,_=>none
theorem bw0:OpD X (binaryOp .Add) Z9:=fun x y z h=>by
 unfold Z9 at h
 split at h
 ·split at h
  ·rename_i xs ys c
   cases h
   cases xs with
   | nil =>
    refine OpR.imp bv5 fun vx vy H Q ⟨Hf,s,r1,r2,k⟩=>?_
    obtain⟨a,vs,rfl,h2,h3⟩:=r1
    obtain⟨b,us,rfl,h5,h6⟩:=r2
    cases h3
    exact⟨a,b,us,rfl,rfl,K8 s h2,K8 s h5,k _ H Hf (Grow.refl s) ⟨b,us,rfl,h5,h6⟩⟩
   | cons d0 ds0 =>
    refine OpR.imp bL8 fun vx vy H Q ⟨Hf,s,r1,r2,k⟩=>?_
    obtain⟨a,vs,rfl,h2,h3⟩:=r1
    obtain⟨b,us,rfl,h5,h6⟩:=r2
    have l1:=h3.length
    have l2:=h6.length
    refine⟨a,b,vs,us,rfl,rfl,K8 s h2,K8 s h5,?_,by rw[sizeLine_eq];omega,fun e=>?_,fun e p hp=>?_⟩
    ·intro e;subst e;simp at l1
    ·subst e
     have:ys=[]:=by cases ys<;>simp_all
     subst this
     exact k _ H Hf (Grow.refl s) ⟨a,vs,rfl,h2,by rw[List.append_nil];exact h3⟩
    ·exact k _ _ _ (Grow.laid s hp) ⟨p,vs++us,rfl,SqT.of J9,(h3.append h6).mono (L5 (s.free hp))⟩
  ·cases h
 ·split at h
  ·rename_i c
   cases h
   exact OpR.imp aX7 fun vx vy H Q ⟨Hf,s,r1,r2,k⟩=>⟨_,_,r1,r2,by rw[sizeLine_eq];exact c,k _ H Hf (Grow.refl s) rfl⟩
  ·cases h
 ·cases h
  exact OpR.imp bv6 fun vx vy H Q ⟨Hf,s,r1,r2,k⟩=>⟨_,_,r1,r2,k _ H Hf (Grow.refl s) rfl⟩
 ·cases h
  intro pins s σ H vx vy v u Q I rx ry ⟨Hf,ss,r1,r2,k⟩
  cases r1;cases r2
  obtain⟨t,rfl⟩:=ry
  obtain rfl:v=Value.bool _:=rx
  exact PySem.IntBool.add_bool_int ⟨.int _,H,I.tok _,⟨_,rfl⟩,k _ H Hf (Grow.refl ss) rfl⟩
 ·cases h
noncomputable def ltI(x y:D):Option D:=match x,y with
 | .int i,.int j=>some (.bool (decide (i < j)))
 | _,_=>none
noncomputable def leI(x y:D):Option D:=match x,y with
 | .int i,.int j=>some (.bool (decide (i<=j)))
 | _,_=>none
noncomputable def gtI(x y:D):Option D:=match x,y with
 | .int i,.int j=>some (.bool (decide (j < i)))
 | _,_=>none
noncomputable def geI(x y:D):Option D:=match x,y with
 | .int i,.int j=>some (.bool (decide (j<=i)))
 | _,_=>none
theorem co7:OpD X (compareOp .Lt) ltI:=fun x y z h=>by
 unfold ltI at h
 split at h
 ·cases h
  exact OpR.imp co1 fun vx vy H Q ⟨Hf,s,r1,r2,k⟩=>⟨_,_,r1,r2,k _ H Hf (Grow.refl s) rfl⟩
 ·cases h
theorem co8:OpD X (compareOp .LtE) leI:=fun x y z h=>by
 unfold leI at h
 split at h
 ·cases h
  exact OpR.imp co2 fun vx vy H Q ⟨Hf,s,r1,r2,k⟩=>⟨_,_,r1,r2,k _ H Hf (Grow.refl s) rfl⟩
 ·cases h
theorem cp1:OpD X (compareOp .Gt) gtI:=fun x y z h=>by
 unfold gtI at h
 split at h
 ·cases h
  exact OpR.imp co3 fun vx vy H Q ⟨Hf,s,r1,r2,k⟩=>⟨_,_,r1,r2,k _ H Hf (Grow.refl s) rfl⟩
 ·cases h
theorem cp2:OpD X (compareOp .GtE) geI:=fun x y z h=>by
 unfold geI at h
 split at h
 ·cases h
  exact OpR.imp co4 fun vx vy H Q ⟨Hf,s,r1,r2,k⟩=>⟨_,_,r1,r2,k _ H Hf (Grow.refl s) rfl⟩
 ·cases h
mutual
theorem Rep.reads{pins:List (Addr×Obj)}{σ:L2.St}{H:Hp}{s:Shared}(I:Inv X pins σ H s):∀{d:D}{v:V}{u:Value},Rep X.K H d v->O2 v u->∃as,Reads s.heap u d as
 | .none,_,_,h,r=>by cases h;cases r;exact⟨_,.none⟩
 | .bool b,_,_,h,r=>by cases h;cases r;exact⟨_,.bool b⟩
 | .int i,_,_,h,r=>by cases h;obtain⟨t,rfl⟩:=r;exact⟨_,.int i t⟩
 | .str x,_,_,h,r=>by cases h;obtain⟨t,rfl⟩:=r;exact⟨_,.str x t⟩
 | .tuple ds,_,_,⟨a,vs,h1,h2,h3⟩,r=>by
  subst h1;cases r
  obtain⟨its,rv,⟨o,ho,hc,n,hd⟩,_⟩:=I.tuple h2
  obtain⟨as,q⟩:=Reps.reads I h3 rv
  exact⟨_,.tuple ho hc hd (by simpa using q)⟩
 | .list ds,_,_,⟨a,vs,h1,h2,h3⟩,r=>by
  subst h1;cases r
  obtain⟨its,rv,pl,_⟩:=I.list h2
  obtain⟨o,ho,hc,n,hd⟩:=pl.isList
  obtain⟨as,q⟩:=Reps.reads I h3 rv
  exact⟨_,.list ho hc hd (by simpa using q)⟩
 | .dict _,_,_,h,_=>h.elim
theorem Reps.reads{pins:List (Addr×Obj)}{σ:L2.St}{H:Hp}{s:Shared}(I:Inv X pins σ H s):∀{ds:List D}{vs:List V}{us:List Value},Reps X.K H ds vs->M0 vs us->∃as,ReadsAll s.heap us ds as
 | [],_,_,h,r=>by cases h;cases r;exact⟨_,.nil⟩
 | d::ds,_,_,⟨v,vr,h1,h2,h3⟩,r=>by
  subst h1
  cases r with
  | cons r1 r2 =>
   obtain⟨as,q1⟩:=Rep.reads I h2 r1
   obtain⟨bs,q2⟩:=Reps.reads I h3 r2
   exact⟨_,.cons q1 q2⟩
end
noncomputable def eqD(x y:D):Option D:=if SeqAt.shaped x=true/\SeqAt.shaped y=true then some (.bool (PyData.eqv x y)) else none
noncomputable def neD(x y:D):Option D:=if SeqAt.shaped x=true/\SeqAt.shaped y=true then some (.bool (!PyData.eqv x y)) else none
theorem cp3(hu:X.A.units+64 < cLine):OpD X (compareOp .Eq) eqD:=fun x y z h=>by
 unfold eqD at h
 split at h
 ·rename_i c
  cases h
  intro pins s σ H vx vy v u Q I rx ry ⟨Hf,ss,r1,r2,k⟩
  obtain⟨as,q1⟩:=Rep.reads I (r1.mono ss) rx
  obtain⟨bs,q2⟩:=Rep.reads I (r2.mono ss) ry
  exact eq_dataH q1 q2 c.1 c.2 hu ⟨.bl _,H,I,rfl,k _ H Hf (Grow.refl ss) rfl⟩
 ·cases h
theorem co6(hu:X.A.units+64 < cLine):OpD X (compareOp .NotEq) neD:=fun x y z h=>by
 unfold neD at h
 split at h
 ·rename_i c
  cases h
  intro pins s σ H vx vy v u Q I rx ry ⟨Hf,ss,r1,r2,k⟩
  obtain⟨as,q1⟩:=Rep.reads I (r1.mono ss) rx
  obtain⟨bs,q2⟩:=Rep.reads I (r2.mono ss) ry
  exact ne_dataH q1 q2 c.1 c.2 hu ⟨.bl _,H,I,rfl,k _ H Hf (Grow.refl ss) rfl⟩
 ·cases h
noncomputable def isN(x y:D):Option D:=match x,y with
 | .none,.none=>some (.bool true)
 | .dict _,_=>none
 | _,.none=>some (.bool false)
 | _,_=>none
theorem bd9{K:PySem.W.Frag}{H:Hp}{d:D}{v:V}(h:Rep K H d v):(decide (v=.non))=(match d with | .none=>true|_=>false):=by
 cases d with
 | none=>cases h;rfl
 | bool b=>cases h;rfl
 | int b=>cases h;rfl
 | str b=>cases h;rfl
 | tuple ds=>obtain⟨a,vs,rfl,_⟩:=h;rfl
 | list ds=>obtain⟨a,vs,rfl,_⟩:=h;rfl
 | dict ds=>exact h.elim
theorem ca9:OpD X (compareOp .Is) isN:=fun x y z h=>by
 refine OpR.imp ca4 fun vx vy H Q ⟨Hf,s,r1,r2,k⟩=>?_
 have e:=bd9 r1
 cases y<;>cases x<;>simp only[isN,Option.some.injEq,reduceCtorEq]at h <;>
  (subst h;simp only at e;rw[e];exact⟨r2,k _ H Hf (Grow.refl s) rfl⟩)
noncomputable def cb1(x y:D):Option D:=match x,y with
 | .none,.none=>some (.bool false)
 | .dict _,_=>none
 | _,.none=>some (.bool true)
 | _,_=>none
theorem bM3:OpD X (compareOp .IsNot) cb1:=fun x y z h=>by
 refine OpR.imp bL6 fun vx vy H Q ⟨Hf,s,r1,r2,k⟩=>?_
 have e:=bd9 r1
 cases y<;>cases x<;>simp only[cb1,Option.some.injEq,reduceCtorEq]at h <;>
  (subst h;simp only at e;rw[e];exact⟨r2,k _ H Hf (Grow.refl s) rfl⟩)
noncomputable def P6(h1 h2:D->D->Option D) (f g k:DE):DE:=fun ρ=>(f ρ).bind fun x=>(g ρ).bind fun y=>(h1 x y).bind fun z=>match z with
 | .bool true=>(k ρ).bind fun w=>h2 y w
 | .bool false=>some (.bool false)
 | _=>none
theorem bA4{op op':CmpOp}{h1 h2:D->D->Option D}{a b c:Expr}{f g k:DE}{pos:Pos}(o1:OpD X (compareOp op) h1) (o2:OpD X (compareOp op') h2) (ha:JE X a f) (hb:JE X b g) (hc:JE X c k)
  (hm:lastMarks [op,op'] [b,c]=false:=by with_unfolding_all rfl):JE X (.Compare a [op,op'] [b,c] pos) (P6 h1 h2 f g k):=fun ρ d q=>by
 obtain⟨x,e1,q⟩:=xbm q
 obtain⟨y,e2,q⟩:=xbm q
 obtain⟨z,e3,q⟩:=xbm q
 split at q
 ·obtain⟨w,e4,e5⟩:=xbm q
  refine K7 (aP3 (o1 x y _ e3) (o2 y w d e5) (ha ρ x e1) (hb ρ y e2) (hc ρ w e4) hm) fun σ H Q ⟨H0,Hf,s,sl,kk⟩=>?_
  refine⟨H0,Hf,s,sl,fun v H1 Hf1 g1 r1=>⟨H0,Hf1,g1.sub,sl.grow g1,fun u H2 Hf2 g2 r2=>⟨Hf2,g2.sub,r1.mono g2.ext,r2,fun z' H3 Hf3 g3 r3=>?_⟩⟩⟩
  refine⟨true,r3,aB5 ⟨H0,Hf3,g3.sub,sl.grow ((g1.trans g2).trans g3),fun w' H4 Hf4 g4 r4=>⟨Hf4,g4.sub,r2.mono (g3.trans g4).ext,r4,fun z2 H5 Hf5 g5 r5=>?_⟩⟩⟩
  exact kk z2 H5 Hf5 ((((g1.trans g2).trans g3).trans g4).trans g5) r5
 ·cases q
  intro pins s σ H Q I ⟨H0,Hf,ss,sl,kk⟩
  refine aP3 (tc:=fun _ _ _=>False) (r':=fun _ _ _ _=>False) (o1 x y _ e3) (fun _ _ _ _ _ _ _ _ _ _ _ _ h=>h.elim) (ha ρ x e1) (hb ρ y e2) (fun _ _ _ _ _ _ h=>h.elim) hm pins s σ H Q I ?_
  refine⟨H0,Hf,ss,sl,fun v H1 Hf1 g1 r1=>⟨H0,Hf1,g1.sub,sl.grow g1,fun u H2 Hf2 g2 r2=>⟨Hf2,g2.sub,r1.mono g2.ext,r2,fun z' H3 Hf3 g3 r3=>?_⟩⟩⟩
  exact⟨false,r3,aB6 (kk _ H3 Hf3 ((g1.trans g2).trans g3) rfl)⟩
 ·cases q
theorem cg4{op:BoolOp}{a:Expr}{f:DE}{pos:Pos}(h:JE X a f):JE X (.BoolOp op [a] pos) f:=fun ρ d q=>bZ6 (h ρ d q)
noncomputable def T8(f g:DE):DE:=fun ρ=>(f ρ).bind fun x=>match x with
 | .bool true=>g ρ
 | .bool false=>some (.bool false)
 | _=>none
noncomputable def dOr(f g:DE):DE:=fun ρ=>(f ρ).bind fun x=>match x with
 | .bool true=>some (.bool true)
 | .bool false=>g ρ
 | _=>none
noncomputable def aq3(f:DE):DE:=fun ρ=>(f ρ).bind fun x=>match x with
 | .bool c=>some (.bool (!c))
 | _=>none
theorem ch0{a b:Expr}{U8:List Expr}{f g:DE}{pos:Pos}(ha:JE X a f) (hb:JE X (.BoolOp .And (b::U8) pos) g):JE X (.BoolOp .And (a::b::U8) pos) (T8 f g):=fun ρ d q=>by
 obtain⟨x,e1,q⟩:=xbm q
 split at q
 ·refine K7 (bv3 (ha ρ _ e1) (hb ρ d q)) fun σ H Q ⟨H0,Hf,s,sl,k⟩=>⟨H0,Hf,s,sl,fun v H1 Hf1 g1 r1=>⟨true,r1,aB5 ⟨H0,Hf1,g1.sub,sl.grow g1,fun u H2 Hf2 g2 r2=>k u H2 Hf2 (g1.trans g2) r2⟩⟩⟩
 ·cases q
  refine K7 (bv3 (tb:=fun _ _ _=>False) (ha ρ _ e1) (fun _ _ _ _ _ _ h=>h.elim)) fun σ H Q ⟨H0,Hf,s,sl,k⟩=>⟨H0,Hf,s,sl,fun v H1 Hf1 g1 r1=>⟨false,r1,aB6 (k _ H1 Hf1 g1 rfl)⟩⟩
 ·cases q
theorem cr0{a b:Expr}{U8:List Expr}{f g:DE}{pos:Pos}(ha:JE X a f) (hb:JE X (.BoolOp .Or (b::U8) pos) g):JE X (.BoolOp .Or (a::b::U8) pos) (dOr f g):=fun ρ d q=>by
 obtain⟨x,e1,q⟩:=xbm q
 split at q
 ·cases q
  refine K7 (bT8 (tb:=fun _ _ _=>False) (ha ρ _ e1) (fun _ _ _ _ _ _ h=>h.elim)) fun σ H Q ⟨H0,Hf,s,sl,k⟩=>⟨H0,Hf,s,sl,fun v H1 Hf1 g1 r1=>⟨true,r1,aB5 (k _ H1 Hf1 g1 rfl)⟩⟩
 ·refine K7 (bT8 (ha ρ _ e1) (hb ρ d q)) fun σ H Q ⟨H0,Hf,s,sl,k⟩=>⟨H0,Hf,s,sl,fun v H1 Hf1 g1 r1=>⟨false,r1,aB6 ⟨H0,Hf1,g1.sub,sl.grow g1,fun u H2 Hf2 g2 r2=>k u H2 Hf2 (g1.trans g2) r2⟩⟩⟩
 ·cases q
theorem bz8{a:Expr}{f:DE}{pos:Pos}(ha:JE X a f):JE X (.UnaryOp .Not a pos) (aq3 f):=fun ρ d q=>by
 obtain⟨x,e1,q⟩:=xbm q
 split at q
 ·cases q
  exact K7 (bZ7 (ha ρ _ e1)) fun σ H Q ⟨H0,Hf,s,sl,k⟩=>⟨H0,Hf,s,sl,fun v H1 Hf1 g1 r1=>⟨_,r1,k _ H1 Hf1 g1 rfl⟩⟩
 ·cases q
noncomputable def ai6:D->Option Bool
 | .none=>some false
 | .bool b=>some b
 | .int i=>some (i != 0)
 | .str x=>if x.length<=16777216 then some ((x.length:Int) != 0) else none
 | .list ds=>some (!ds.isEmpty)
 | .tuple ds=>some (!ds.isEmpty)
 | .dict _=>none
noncomputable def M1(f:DE):Rho->Option Bool:=fun ρ=>(f ρ).bind ai6
theorem cd9{a:Expr}{f:DE}(ha:JE X a f) (he:∀whole,isTrue a X.env whole=(do let v ← whole;standAt a.pos;holding [v] (truthy v)):=by intro _;rfl):JT X a (M1 f):=fun ρ c q=>by
 obtain⟨d,e1,e2⟩:=xbm q
 refine aI9 (bu3 (ha ρ d e1) he) fun σ H Q ⟨H0,Hf,s,sl,k⟩=>⟨H0,Hf,s,sl,fun v H1 Hf1 g1 r1=>⟨c,?_,k H1 Hf1 g1⟩⟩
 cases d with
 | none=>cases e2;cases r1;rfl
 | bool b=>cases e2;cases r1;rfl
 | int i=>cases e2;cases r1;rfl
 | str x =>
  simp only[ai6]at e2
  split at e2
  ·rename_i hx;cases e2;cases r1;exact⟨by rw[sizeLine_eq];exact hx,rfl⟩
  ·cases e2
 | list ds =>
  cases e2
  obtain⟨a,vs,rfl,h2,h3⟩:=r1
  refine .inl ⟨vs,M7 g1.sub h2,?_⟩
  have:=h3.length
  cases ds<;>cases vs<;>simp_all
 | tuple ds =>
  cases e2
  obtain⟨a,vs,rfl,h2,h3⟩:=r1
  refine .inr (.inl ⟨vs,K8 g1.sub h2,?_⟩)
  have:=h3.length
  cases ds<;>cases vs<;>simp_all
 | dict _=>cases e2
noncomputable def N9:D->Option Bool
 | .bool b=>some b
 | _=>none
noncomputable def tB2(h:D->D->Option D) (f g:DE):Rho->Option Bool:=fun ρ=>(A4 h f g ρ).bind N9
theorem bh7{d:D}{c:Bool}(h:N9 d=some c):d=.bool c:=by
 cases d<;>simp[N9]at h
 subst h;rfl
theorem ce1{op:CmpOp}{h:D->D->Option D}{a b:Expr}{f g:DE}{pos:Pos}(o:OpD X (compareOp op) h) (ha:JE X a f) (hb:JE X b g) (hm:behindInMarks op b=false:=by first|exact bw1 _|rfl):JT X (.Compare a [op] [b] pos) (tB2 h f g):=fun ρ c q=>by
 obtain⟨d,q,e⟩:=xbm q
 obtain⟨x,h1,q⟩:=xbm q
 obtain⟨y,h2,h3⟩:=xbm q
 have:=bh7 e
 subst this
 refine aI9 (bK1 (o x y _ h3) (ha ρ x h1) (hb ρ y h2) hm) fun σ H Q ⟨H0,Hf,s,sl,k⟩=>?_
 refine⟨H0,Hf,s,sl,fun v H1 Hf1 g1 r1=>⟨H0,Hf1,g1.sub,sl.grow g1,fun u H2 Hf2 g2 r2=>?_⟩⟩
 exact⟨Hf2,g2.sub,r1.mono g2.ext,r2,fun w H3 Hf3 g3 r3=>⟨c,r3,k H3 Hf3 ((g1.trans g2).trans g3)⟩⟩
noncomputable def U0(f g:Rho->Option Bool):Rho->Option Bool:=fun ρ=>(f ρ).bind fun c=>if c then g ρ else some false
noncomputable def P8(f g:Rho->Option Bool):Rho->Option Bool:=fun ρ=>(f ρ).bind fun c=>if c then some true else g ρ
noncomputable def M5(f:Rho->Option Bool):Rho->Option Bool:=fun ρ=>(f ρ).map fun c=>!c
theorem aI8{e:Expr}{t t':TT}(h:PW X e t) (i:∀σ H Q,t' σ H Q->t σ H Q):PW X e t':=fun whole pins s σ H Q I q=>h whole pins s σ H Q I (i σ H Q q)
theorem by1{e:Expr}{f:Rho->Option Bool}(h:JW X e f):JT X e f:=fun ρ c q=>(h ρ c q).pt
theorem bN7{a:Expr}{f:Rho->Option Bool}{pos:Pos}(h:JT X a f):JW X (.BoolOp .And [a] pos) f:=fun ρ c q=>bJ8 (h ρ c q)
theorem cd5{a:Expr}{f:Rho->Option Bool}{pos:Pos}(h:JT X a f):JW X (.BoolOp .Or [a] pos) f:=fun ρ c q=>bY5 (h ρ c q)
theorem cd6{a b:Expr}{U8:List Expr}{f g:Rho->Option Bool}{pos:Pos}(ha:JT X a f) (hb:JW X (.BoolOp .And (b::U8) pos) g):JW X (.BoolOp .And (a::b::U8) pos) (U0 f g):=fun ρ c q=>by
 obtain⟨x,e1,q⟩:=xbm q
 cases x with
 | true=>exact aI8 (bu2 (ha ρ _ e1) (hb ρ c (by simpa using q))) fun σ H Q ⟨H0,Hf,s,sl,k⟩=>⟨H0,Hf,s,sl,fun H1 Hf1 g1=>aB5 ⟨H0,Hf1,g1.sub,sl.grow g1,fun H2 Hf2 g2=>k H2 Hf2 (g1.trans g2)⟩⟩
 | false =>
  have:c=false:=by simpa using q.symm
  subst this
  exact aI8 (bu2 (tB':=fun _ _ _=>False) (ha ρ _ e1) (fun _ _ _ _ _ _ _ h=>h.elim)) fun σ H Q ⟨H0,Hf,s,sl,k⟩=>⟨H0,Hf,s,sl,fun H1 Hf1 g1=>aB6 (k H1 Hf1 g1)⟩
theorem cq3{a b:Expr}{U8:List Expr}{f g:Rho->Option Bool}{pos:Pos}(ha:JT X a f) (hb:JW X (.BoolOp .Or (b::U8) pos) g):JW X (.BoolOp .Or (a::b::U8) pos) (P8 f g):=fun ρ c q=>by
 obtain⟨x,e1,q⟩:=xbm q
 cases x with
 | false=>exact aI8 (bT5 (ha ρ _ e1) (hb ρ c (by simpa using q))) fun σ H Q ⟨H0,Hf,s,sl,k⟩=>⟨H0,Hf,s,sl,fun H1 Hf1 g1=>aB6 ⟨H0,Hf1,g1.sub,sl.grow g1,fun H2 Hf2 g2=>k H2 Hf2 (g1.trans g2)⟩⟩
 | true =>
  have:c=true:=by simpa using q.symm
  subst this
  exact aI8 (bT5 (tB':=fun _ _ _=>False) (ha ρ _ e1) (fun _ _ _ _ _ _ _ h=>h.elim)) fun σ H Q ⟨H0,Hf,s,sl,k⟩=>⟨H0,Hf,s,sl,fun H1 Hf1 g1=>aB5 (k H1 Hf1 g1)⟩
theorem ce0{a:Expr}{f:Rho->Option Bool}{pos:Pos}(ha:JT X a f):JT X (.UnaryOp .Not a pos) (M5 f):=fun ρ c q=>by
 obtain⟨x,e1,e2⟩:=xmo q
 subst e2
 exact aI9 (bY6 (ha ρ x e1)) fun σ H Q ⟨H0,Hf,s,sl,k⟩=>⟨H0,Hf,s,sl,fun H1 Hf1 g1=>k H1 Hf1 g1⟩
noncomputable def ab0(t:Rho->Option Bool) (f g:DE):DE:=fun ρ=>(t ρ).bind fun c=>if c then f ρ else g ρ
theorem cg8{c a b:Expr}{t:Rho->Option Bool}{f g:DE}{pos:Pos}(hc:JT X c t) (ha:JE X a f) (hb:JE X b g):JE X (.IfExp c a b pos) (ab0 t f g):=fun ρ d q=>by
 obtain⟨x,e1,q⟩:=xbm q
 cases x with
 | true=>exact K7 (aP2 (tb:=fun _ _ _=>False) (hc ρ _ e1) (ha ρ d (by simpa using q)) (fun _ _ _ _ _ _ h=>h.elim)) fun σ H Q ⟨H0,Hf,s,sl,k⟩=>⟨H0,Hf,s,sl,fun H1 Hf1 g1=>aB5 ⟨H0,Hf1,g1.sub,sl.grow g1,fun u H2 Hf2 g2 r2=>k u H2 Hf2 (g1.trans g2) r2⟩⟩
 | false=>exact K7 (aP2 (ta:=fun _ _ _=>False) (hc ρ _ e1) (fun _ _ _ _ _ _ h=>h.elim) (hb ρ d (by simpa using q))) fun σ H Q ⟨H0,Hf,s,sl,k⟩=>⟨H0,Hf,s,sl,fun H1 Hf1 g1=>aB6 ⟨H0,Hf1,g1.sub,sl.grow g1,fun u H2 Hf2 g2 r2=>k u H2 Hf2 (g1.trans g2) r2⟩⟩
noncomputable def dIx(f:Rho->Option (Bool×List D)) (g:DE):DE:=fun ρ=>(f ρ).bind fun q=>(g ρ).bind fun i=>match i with
 | .int i=>atI q.2 i
 | _=>none
theorem bJ4{K:PySem.W.Frag}{H:Hp}{ds:List D}{vs:List V}{i:Int}{d:D}(h:Reps K H ds vs) (e:atI ds i=some d):∃v,atI vs i=some v/\Rep K H d v:=by
 unfold atI at e ⊢
 rw[h.length]
 obtain⟨j,h1,h2⟩:=xbm e
 obtain⟨v,h3,h4⟩:=h.get h2
 exact⟨v,by rw[h1];exact h3,h4⟩
theorem cr1{a b:Expr}{f:Rho->Option (Bool×List D)}{g:DE}{pos:Pos}(ha:JQ X a f) (hb:JE X b g) (hs:av1 b:=by intro _ _;rfl):JE X (.Subscript a b pos) (dIx f g):=fun ρ d q=>by
 obtain⟨⟨t,ds⟩,h1,q⟩:=xbm q
 obtain⟨y,h2,h3⟩:=xbm q
 split at h3
 ·refine K7 (bU0 bA7 (ha ρ t ds h1) (hb ρ _ h2) hs) fun σ H Q ⟨H0,Hf,s,sl,k⟩=>?_
  refine⟨H0,Hf,s,sl,fun v H1 Hf1 g1 ⟨p,vs,e1,e2,e3⟩=>⟨H0,Hf1,g1.sub,sl.grow g1,fun u H2 Hf2 g2 r2=>?_⟩⟩
  obtain⟨w,q1,q2⟩:=bJ4 (e3.mono g2.ext) h3
  cases t with
  | true=>exact .inr (.inl ⟨p,vs,_,w,e1,r2,K8 g2.big e2,q1,k w H2 Hf2 (g1.trans g2) q2⟩)
  | false=>exact .inl ⟨p,vs,_,w,e1,r2,M7 g2.big e2,q1,k w H2 Hf2 (g1.trans g2) q2⟩
 ·cases h3
noncomputable def ab3(xs:List D) (lo hi:Option Int):List D:=(xs.drop (HT.sIx xs.length 0 lo)).take (HT.sIx xs.length xs.length hi - HT.sIx xs.length 0 lo)
theorem aw4{K:PySem.W.Frag}{H:Hp}{ds:List D}{vs:List V}(h:Reps K H ds vs) (lo hi:Option Int):Reps K H (ab3 ds lo hi) (aT4 vs lo hi):=by
 unfold ab3 aT4
 rw[h.length]
 exact(h.drop _).take _
noncomputable def JO(X:Cx) (e:Option Expr) (f:Rho->Option (Option Int)):Prop:=∀ρ o,f ρ=some o->PO X e (fun σ H Q=>∃H0 Hf,L0 Hf H/\Slots X.K H0 ρ σ H Hf/\∀H' Hf',Grow H Hf H' Hf'->Q o H')
noncomputable def N6:Rho->Option (Option Int):=fun _=>some none
noncomputable def ae7:D->Option Int
 | .int i=>some i
 | _=>none
noncomputable def L4(f:DE):Rho->Option (Option Int):=fun ρ=>(f ρ).bind fun d=>(ae7 d).map some
theorem bP1:JO X none N6:=fun ρ o q=>by
 cases q
 intro pins s σ H Q I ⟨H0,Hf,ss,sl,k⟩
 exact bK6 pins s σ H Q I (k H Hf (Grow.refl ss))
theorem bP0{e:Expr}{f:DE}(h:JE X e f):JO X (some e) (L4 f):=fun ρ o q=>by
 obtain⟨d,e1,e2⟩:=xbm q
 obtain⟨i,e3,e4⟩:=xmo e2
 subst e4
 cases d<;>simp[ae7]at e3
 subst e3
 intro pins s σ H Q I ⟨H0,Hf,ss,sl,k⟩
 exact bK5 (h ρ _ e1) pins s σ H Q I ⟨H0,Hf,ss,sl,fun v H1 Hf1 g1 r1=>⟨_,r1,k H1 Hf1 g1⟩⟩
noncomputable def Z7(f:DE) (lo hi:Rho->Option (Option Int)):DE:=fun ρ=>(f ρ).bind fun d=>(lo ρ).bind fun l=>(hi ρ).bind fun h=>match d with
 | .tuple xs=>some (.tuple (ab3 xs l h))
 | _=>none
theorem ah0{prog:Program}{w:World}{A:Around}{E:Value->Shared->Prop}{s:Shared}{t sl:Addr}{items:Array Value}{vl vu:Value}{lo hi:Option Int}{Q:Value->Shared->Prop}(ht:IsTup s.heap t items) (hs:s.heap.IsSliceOf sl vl vu .none) (pl:IsPart vl lo) (pu:IsPart vu hi)
  (hw:HT.sIx items.size 0 lo=0/\HT.sIx items.size items.size hi=items.size) (h:Q (.ref t) s):wpAny (model prog w) A (getItem (.ref t) (.ref sl)) Q E s:=by
 obtain⟨os,hos,hcs,hds⟩:=id hs
 have hTs:s.TypeIs (.ref sl) "slice" := ⟨os,hos,hcs⟩
 unfold getItem
 try with_reducible refine wpAny_holding ?_
 first|refine wpAny_bind (wpAny_pure ?_)|skip
 refine wpAny_bind (wpAny_sequenceKey ht.typeIs (by decide) ?_)
 refine wpAny_bind (wpAny_callSpecial?_slot (name:=Str.ofString "__getitem__") ht.typeIs PyProof.Rows.slot_tuple_getitem
  (wpAny_call_entry PyProof.Rows.slot_tuple_getitem ht.typeIs entry_tuple_getitem ?_ (args_tuple_getitem _ _)))
 show wpAny _ _ (Builtin.Tuple.tupleItemsOf (.ref t) >>= _) _ _ s
 refine wpAny_bind (tupleItemsOf_ ht ?_)
 refine wpAny_bind (wpAny_typeOf hTs ?_)
 rw[if_pos (by decide)]
 refine wpAny_bind (HT.sliceApplied_gen hs pl pu ?_)
 have hyes:((((HT.sIx items.size 0 lo:Nat):Int)==0&&(1:Int)==1&&(HT.sIx items.size items.size hi - HT.sIx items.size 0 lo)==items.size)=true):=by rw[hw.1,hw.2];simp
 show wpAny _ _ (if(((HT.sIx items.size 0 lo:Nat):Int)==0&&(1:Int)==1&&(HT.sIx items.size items.size hi - HT.sIx items.size 0 lo)==items.size)=true then _ else _) _ _ s
 rw[if_pos hyes]
 unfold Builtin.Tuple.tupleIsExact
 refine wpAny_bind (wpAny_bind (wpAny_typeOf ht.typeIs (wpAny_pure ?_)))
 rw[if_pos (by decide +kernel)]
 exact wpAny_bind (wpAny_rule (wpAny_pure ⟨_,rfl,wpAny_pure h⟩))
theorem aI0:SlR X (fun x lo hi H Q=>∃a xs,x=.ref a/\SqT X.K H a xs/\(HT.sIx xs.length 0 lo=0/\HT.sIx xs.length xs.length hi=xs.length)/\Q (.ref a) H):=by
 intro pins s σ H x v vl vu lo hi sl Q I rx hs pl pu h
 obtain⟨a,xs,rfl,hx,hw,q⟩:=h
 cases rx
 obtain⟨its,r,ht,hz⟩:=I.tuple hx
 have hlen:its.toArray.size=xs.length:=by rw[List.size_toArray];exact r.length.symm
 refine⟨"tuple", _,PyProof.Rows.slot_tuple_getitem.lookup,ht.typeIs,?_⟩
 exact ah0 ht hs pl pu (by rw[hlen];exact hw) ⟨.ref a,H,I,rfl,q⟩
theorem bz7{a:Expr}{lo hi:Option Expr}{f:DE}{l h:Rho->Option (Option Int)}{pos p2:Pos}(ha:JE X a f) (hl:JO X lo l) (hh:JO X hi h):JE X (.Subscript a (.Slice lo hi none p2) pos) (Z7 f l h):=fun ρ d q=>by
 obtain⟨x,e1,q⟩:=xbm q
 obtain⟨y,e2,q⟩:=xbm q
 obtain⟨z,e3,q⟩:=xbm q
 cases x with
 | tuple xs =>
  cases q
  refine K7 (al7 (bY0.or aI0) (ha ρ _ e1) (hl ρ y e2) (hh ρ z e3)) fun σ H Q ⟨H0,Hf,s,sl,k⟩=>?_
  refine⟨H0,Hf,s,sl,fun v H1 Hf1 g1 ⟨p,vs,q1,q2,q3⟩=>⟨H0,Hf1,g1.sub,sl.grow g1,fun H2 Hf2 g2=>⟨H0,Hf2,g2.sub,sl.grow (g1.trans g2),fun H3 Hf3 g3=>?_⟩⟩⟩
  subst q1
  have q2':=K8 (g2.trans g3).ext q2
  have q3':=q3.mono (g2.trans g3).ext
  by_cases c:HT.sIx vs.length 0 y=0/\HT.sIx vs.length vs.length z=vs.length
  ·refine .inr ⟨p,vs,rfl,K8 g3.sub q2',c,k _ H3 Hf3 ((g1.trans g2).trans g3) ⟨p,vs,rfl,q2',?_⟩⟩
   have:ab3 xs y z=xs:=by
    unfold ab3
    rw[← q3.length,c.1,c.2]
    simp[q3.length]
   rw[this];exact q3'
  ·refine .inl ⟨p,vs,rfl,K8 g3.sub q2',c,fun p' hp=>?_⟩
   exact k _ _ _ (((g1.trans g2).trans g3).trans (Grow.laid g3.sub hp)) ⟨p',_,rfl,SqT.of J9,(aw4 q3' y z).mono (L5 (g3.sub.free hp))⟩
 | _=>cases q
end
section
variable {X:Cx}
theorem cj5:bootBuiltins "len" = some (.builtin "len"):=PySem.boot_len
theorem cj6:bootBuiltins "all" = some (.builtin "all"):=by decide +kernel
theorem bG5:bootBuiltins "isinstance" = some (.builtin "isinstance"):=by decide +kernel
theorem bb4:bootBuiltins "int" = some (.type "int"):=by decide +kernel
theorem bS2:bootBuiltins "bool" = some (.type "bool"):=by decide +kernel
theorem cj4:bootBuiltins "str" = some (.type "str"):=by decide +kernel
theorem bh8:bootBuiltins "list" = some (.type "list"):=by decide +kernel
theorem aU0:bootBuiltins "tuple" = some (.type "tuple"):=by decide +kernel
theorem cj3:bootBuiltins "zip" = some (.type "zip"):=by decide +kernel
noncomputable def V5(f:Rho->Option (Bool×List D)):DE:=fun ρ=>(f ρ).map fun q=>.int q.2.length
theorem bz9{e:Expr}{f:Rho->Option (Bool×List D)}{p pos:Pos}(hg:Gl X "len") (hm:X.mg "len" = none) (h:JQ X e f) (he:starEach [e] X.env=[(false,eval e X.env)]:=by rfl):JE X (.Call (.Name "len" p) [e] [] pos) (V5 f):=fun ρ d q=>by
 obtain⟨⟨t,ds⟩,h1,h2⟩:=xmo q
 subst h2
 refine K7 (ae3 aL7 hg hm cj5 (P4 (h ρ t ds h1) T7 he) (he:=he)) fun σ H Q ⟨H0,Hf,s,sl,k⟩=>?_
 refine⟨H0,Hf,s,sl,fun v H1 Hf1 g1 ⟨a,vs,e1,e2,e3⟩=>⟨a,vs,by rw[e1],?_,?_⟩⟩
 ·cases t with
  | true=>exact .inr e2
  | false=>exact .inl e2
 ·exact k _ H1 Hf1 g1 (by rw[e3.length];rfl)
theorem bz5{e:Expr}{f:Rho->Option (Bool×List D)}{p pos:Pos}(hg:Gl X "tuple") (hm:X.mg "tuple" = none) (h:JQ X e f) (hz:∀ρ ds,f ρ≠some (true,ds)\/True:=by intros;exact .inr trivial) (he:starEach [e] X.env=[(false,eval e X.env)]:=by rfl) :
  JE X (.Call (.Name "tuple" p) [e] [] pos) (fun ρ=>(f ρ).bind fun q=>if q.1=true then none else some (.tuple q.2)):=fun ρ d q=>by
 obtain⟨⟨t,ds⟩,h1,h2⟩:=xbm q
 cases t with
 | true=>simp at h2
 | false =>
  simp only[Bool.false_eq_true,if_false,Option.some.injEq]at h2
  subst h2
  refine K7 (af7 aC4 hg hm aU0 (P4 (h ρ false ds h1) T7 he) (he:=he)) fun σ H Q ⟨H0,Hf,s,sl,k⟩=>?_
  refine⟨H0,Hf,s,sl,fun v H1 Hf1 g1 ⟨a,vs,e1,e2,e3⟩=>⟨a,vs,by rw[e1],.inl ⟨e2,fun l hl=>?_⟩⟩⟩
  exact k _ _ _ (g1.trans (Grow.laid g1.sub hl)) ⟨l,vs,rfl,SqT.of J9,e3.mono (L5 (g1.sub.free hl))⟩
theorem bP2{e:Expr}{f:Rho->Option (Bool×List D)}{p pos:Pos}(hg:Gl X "list") (hm:X.mg "list" = none) (h:JQ X e f) (he:starEach [e] X.env=[(false,eval e X.env)]:=by rfl):JN X (.Call (.Name "list" p) [e] [] pos) (fun ρ=>(f ρ).map fun q=>q.2):=fun ρ ds' q=>by
 obtain⟨⟨t,ds⟩,h1,h2⟩:=xmo q
 subst h2
 refine K7 (af7 aL6 hg hm bh8 (P4 (h ρ t ds h1) T7 he) (he:=he)) fun σ H Q ⟨H0,Hf,s,sl,k⟩=>?_
 refine⟨H0,Hf,s,sl,fun v H1 Hf1 g1 ⟨a,vs,e1,e2,e3⟩=>⟨a,vs,by rw[e1],?_,fun l hl=>?_⟩⟩
 ·cases t with
  | true=>exact .inr e2
  | false=>exact .inl e2
 ·exact k _ _ _ (g1.trans (Grow.made g1.sub hl)) ⟨l,vs,rfl,g1.big.free hl,J9,g1.sub.free hl,e3⟩
noncomputable def u9(f:DE):DE:=fun ρ=>(f ρ).bind fun d=>match d with
 | .int i=>some (.int i)
 | .bool b=>some (.int (if b then 1 else 0))
 | _=>none
theorem bA1{e:Expr}{f:DE}{p pos:Pos}(hg:Gl X "int") (hm:X.mg "int" = none) (h:JE X e f) (he:starEach [e] X.env=[(false,eval e X.env)]:=by rfl):JE X (.Call (.Name "int" p) [e] [] pos) (u9 f):=fun ρ d q=>by
 obtain⟨x,h1,h2⟩:=xbm q
 split at h2
 ·cases h2
  exact K7 (af7 aF4 hg hm bb4 (P4 (h ρ _ h1) T7 he) (he:=he)) fun σ H Q ⟨H0,Hf,s,sl,k⟩ =>⟨H0,Hf,s,sl,fun v H1 Hf1 g1 r=>.inl ⟨_,by rw[show v=_ from r],k _ H1 Hf1 g1 rfl⟩⟩
 ·cases h2
  exact K7 (af7 aF4 hg hm bb4 (P4 (h ρ _ h1) T7 he) (he:=he)) fun σ H Q ⟨H0,Hf,s,sl,k⟩ =>⟨H0,Hf,s,sl,fun v H1 Hf1 g1 r=>.inr ⟨_,by rw[show v=_ from r],k _ H1 Hf1 g1 rfl⟩⟩
 ·cases h2
noncomputable def bG6:List D->Option Bool
 | []=>some true
 | .bool b::r=>(bG6 r).map fun c=>b&&c
 | _::_=>none
theorem aU1:∀{ds:List D}{c:Bool},bG6 ds=some c->∃bs:List Bool,ds=bs.map PyData.bool/\c=bs.all id
 | [],c,h=>by cases h;exact⟨[],rfl,rfl⟩
 | .bool b::r,c,h=>by
  obtain⟨c',h1,h2⟩:=xmo h
  obtain⟨bs,h3,h4⟩:=aU1 h1
  exact⟨b::bs,by simp[h3],by simp[← h2,h4]⟩
theorem aw5{K:PySem.W.Frag}{H:Hp}:∀{bs:List Bool}{vs:List V},Reps K H (bs.map PyData.bool) vs->vs=bs.map V.bl
 | [],_,h=>h
 | _::_,_,⟨v,r,h1,h2,h3⟩=>by subst h1;rw[show v=_ from h2,aw5 h3];rfl
theorem bp0:ai5 X (.builtin "all") (fun xs H Q=>X.calm=true/\∃(p:Addr) (bs:List Bool),xs=[.ref p]/\SqL X.K H p (bs.map V.bl)/\Q (.bl (bs.all id)) H):=by
 intro pins s σ H xs us Q I r h
 obtain⟨hc,p,bs,rfl,hq,q⟩:=h
 obtain⟨u,rfl,rx⟩:=aD0 r
 cases rx
 obtain⟨its,rv,pl,hz⟩:=I.list hq
 have hlen:=rv.length
 have hh:X.A.in1.handled=none:=I.ok.hd hc
 have hlt:p < s.heap.objs.size:=by obtain⟨_,e,_⟩:=pl.isList;exact Heap.lt_size e
 refine call_all_walk (wpAny_pyIter_list pl.isList ?_)
 refine⟨s.heap.objs.size,_,_,_,_,_,fun i=>(bs[i]?).getD false,rfl,Walks.list hh _ p (Nat.ne_of_lt hlt) its.toArray,⟨⟨_,Heap.get?_push_size _ rfl,rfl,rfl⟩,pl.isList.at fun o e=>Heap.get?_push_of_some _ e⟩,?_,?_⟩
 ·intro i v s' Q' E' hv hQ
  have hv':its[i]? = some v:=by simpa using hv
  have:∃b,bs[i]? = some b:=by
   have:i < its.length:=(List.getElem?_eq_some_iff.mp hv').1
   have:i < bs.length:=by simpa using (by omega:i < (bs.map V.bl).length)
   exact⟨bs[i],by simp[this]⟩
  obtain⟨b,hb⟩:=this
  obtain⟨u,hu,ru⟩:=rv.get (i:=i) (x:=.bl b) (by simp[hb])
  rw[hv']at hu;cases hu
  cases ru
  exact wpAny_truthy_bool (by simpa [hb] using hQ)
 ·intro h' tk hk
  have e:((List.range its.toArray.size).all fun i=>(bs[i]?).getD false)=bs.all id:=by
   have hn:its.toArray.size=bs.length:=by simpa using hlen.symm
   rw[hn,Bool.eq_iff_iff]
   simp only[List.all_eq_true,List.mem_range,id]
   constructor
   ·intro h x hx
    obtain⟨i,hi,rfl⟩:=List.mem_iff_getElem.mp hx
    simpa [hi] using h i hi
   ·intro h i hi
    simpa [hi] using h bs[i] (List.getElem_mem hi)
  rw[e]
  have I1:Inv X pins σ H { s with heap:=h',toks:=tk }:=by
   have I0:Inv X pins σ H { s with heap:=s.heap.push { cls:=.type "list_iterator", data:=.fields #[.ref p,rawInt 0] } }:=I.kept (t':=s.toks) fun b o e=>Heap.get?_push_of_some _ e
   refine I.kept (t':=tk) fun b o e=>hk b o ?_ (Heap.get?_push_of_some _ e)
   intro hb
   have:b=s.heap.objs.size:=by simpa using hb
   subst this
   exact absurd (Heap.lt_size e) (Nat.lt_irrefl _)
  exact⟨.bl (bs.all id),H,I1,rfl,q⟩
noncomputable def ab1(f:Rho->Option (Bool×List D)):DE:=fun ρ=>(f ρ).bind fun q=>if q.1=true then none else(bG6 q.2).map PyData.bool
theorem ch1{e:Expr}{f:Rho->Option (Bool×List D)}{p pos:Pos}(hg:Gl X "all") (hm:X.mg "all" = none) (h:JQ X e f) (hc:X.calm=true:=by rfl) (he:starEach [e] X.env=[(false,eval e X.env)]:=by rfl):JE X (.Call (.Name "all" p) [e] [] pos) (ab1 f):=fun ρ d q=>by
 obtain⟨⟨t,ds⟩,h1,h2⟩:=xbm q
 cases t with
 | true=>simp at h2
 | false =>
  simp only[Bool.false_eq_true,if_false]at h2
  obtain⟨c,h3,h4⟩:=xmo h2
  subst h4
  obtain⟨bs,h5,h6⟩:=aU1 h3
  subst h5 h6
  refine K7 (ae3 bp0 hg hm cj6 (P4 (h ρ false _ h1) T7 he) (he:=he)) fun σ H Q ⟨H0,Hf,s,sl,k⟩=>?_
  refine⟨H0,Hf,s,sl,fun v H1 Hf1 g1 ⟨a,vs,e1,e2,e3⟩=>⟨hc,a,bs,by rw[e1],?_,k _ H1 Hf1 g1 rfl⟩⟩
  rw[aw5 e3]at e2
  exact e2
noncomputable def ap8(T:String) (d:D):Option Bool:=match d with
 | .int _=>(match T with | "int" => some true | "bool" => some false | "str" => some false | "tuple" => some false | "list" => some false|_=>none)
 | .bool _=>(match T with | "int" => some true | "bool" => some true | "str" => some false | "tuple" => some false | "list" => some false|_=>none)
 | .none=>(match T with | "int" => some false | "bool" => some false | "str" => some false | "tuple" => some false | "list" => some false|_=>none)
 | .str _=>(match T with | "int" => some false | "bool" => some false | "str" => some true | "tuple" => some false | "list" => some false|_=>none)
 | .tuple _=>(match T with | "int" => some false | "bool" => some false | "str" => some false | "tuple" => some true | "list" => some false|_=>none)
 | .list _=>(match T with | "int" => some false | "bool" => some false | "str" => some false | "tuple" => some false | "list" => some true|_=>none)
 | _=>none
noncomputable def tyD:D->String
 | .int _ => "int"
 | .bool _ => "bool"
 | .none => "NoneType"
 | .str _ => "str"
 | .tuple _ => "tuple"
 | .list _ => "list"
 | .dict _ => "dict"
theorem bQ5{K:PySem.W.Frag}{T:String}{d:D}{b:Bool}(h:ap8 T d=some b):PySem.W.kitOne K (.type (tyD d)) (.type T)=some b:=by
 unfold ap8 at h
 cases d<;>first
  | (dsimp only at h;split at h<;>first
   | (cases h;rfl)
   | cases h)
  | cases h
theorem bG2{T:String}:ai5 X (.builtin "isinstance") (fun xs H Q=>∃d x b,xs=[x,.ty T]/\Rep X.K H d x/\ap8 T d=some b/\Q (.bl b) H):=by
 intro pins s σ H xs us Q I r h
 obtain⟨d,x,b,rfl,hd,hb,q⟩:=h
 obtain⟨u,c,rfl,rx,rc⟩:=br9 r
 cases rc
 have e:=bQ5 (K:=X.K) hb
 have fin:∀tk,EP X pins σ Q (.bool b) { s with toks:=tk }:=fun tk=>⟨.bl b,H,I.tok tk,rfl,q⟩
 cases d with
 | none=>cases hd;cases rx;exact PySem.W.kia_one PySem.W.kitx_none I.kIn True.intro e (fun z=>nomatch z) fin
 | bool y=>cases hd;cases rx;exact PySem.W.kia_one PySem.W.kitx_bool I.kIn True.intro e (fun z=>nomatch z) fin
 | int i=>cases hd;obtain⟨t,rfl⟩:=rx;exact PySem.W.kia_one PySem.W.kitx_int I.kIn True.intro e (fun z=>nomatch z) fin
 | str i=>cases hd;obtain⟨t,rfl⟩:=rx;exact PySem.W.kia_one PySem.W.kitx_str I.kIn True.intro e (fun z=>nomatch z) fin
 | tuple ds =>
  obtain⟨a,vs,rfl,h2,h3⟩:=hd
  cases rx
  obtain⟨its,rv,⟨o,ho,hc,_⟩,_⟩:=I.tuple h2
  exact PySem.W.kia_one PySem.W.kitx_tuple I.kIn ⟨o,ho,hc⟩ e (fun z=>nomatch z) fin
 | list ds =>
  obtain⟨a,vs,rfl,h2,h3⟩:=hd
  cases rx
  obtain⟨its,rv,pl,_⟩:=I.list h2
  obtain⟨o,ho,hc,_⟩:=pl.isList
  exact PySem.W.kia_one PySem.W.kitx_list I.kIn ⟨o,ho,hc⟩ e (fun z=>nomatch z) fin
 | dict ds=>exact hd.elim
noncomputable def Z8(T:String) (f:DE):DE:=fun ρ=>(f ρ).bind fun d=>(ap8 T d).map PyData.bool
theorem cg7{e:Expr}{f:DE}{x:Str}{T:String}{p p2 pos:Pos}(hg:Gl X "isinstance") (hm:X.mg "isinstance" = none) (hgT:Gl X x) (hmT:X.mg x=none) (hvT:bootBuiltins x=some (.type T)) (h:JE X e f)
  (hn:x ≠ "__name__" := by decide) (hd:(x==("__debug__" : Str))=false:=by decide)
  (he:starEach [e,.Name x p2] X.env=(false,eval e X.env)::starEach [.Name x p2] X.env:=by rfl) (he2:starEach [.Name x p2] X.env=[(false,eval (.Name x p2) X.env)]:=by rfl) (hpl:(backTo pos (starEach [.Name x p2] X.env)).any (·.1)=false:=by rfl) :
  JE X (.Call (.Name "isinstance" p) [e,.Name x p2] [] pos) (Z8 T f):=fun ρ d q=>by
 obtain⟨y,h1,h2⟩:=xbm q
 obtain⟨b,h3,h4⟩:=xmo h2
 subst h4
 refine K7 (ae3 (bG2 (T:=T)) hg hm bG5 (P4 (h ρ y h1) (P4 (be3 (v:=.ty T) hgT hmT hvT rfl hn hd) T7 he2) he) (he:=he) (hpl:=hpl)) fun σ H Q ⟨H0,Hf,s,sl,k⟩=>?_
 exact⟨H0,Hf,s,sl,fun v H1 Hf1 g1 r=>⟨y,v,b,rfl,r.mono g1.sub,h3,k _ H1 Hf1 g1 rfl⟩⟩
noncomputable def spF(K:PySem.W.Frag) (n:Nat) (F:List D->Option D):Sp:=fun vs H Q _=>vs.length=n/\∃Hf ds d,L0 Hf H/\Reps K Hf ds vs/\F ds=some d/\∀v H' Hf',Grow H Hf H' Hf'->Rep K Hf' d v->Q v H'
noncomputable def A3(F:List D->Option D) (f:Rho->Option (List D)):DE:=fun ρ=>(f ρ).bind F
theorem bQ1{k:Nat}{f:Addr}{fd:FuncData}{ps:List Str}{n:Nat}{F:List D->Option D}{x:Str}{e:Expr}{es:List Expr}{g:Rho->Option (List D)}{p pos:Pos}(Fk:FnOk X.prog X.w X.K X.mg X.base CX0 k f fd ps (spF X.K n F)) (hr:Room k X.A) (hg:Gl X x) (hm:X.mg x=some (.ref f)) (hk:PySem.W.keepIn X.K (.ref f)=true) (hb:T6 X.K fd ps [])
  (ha:JA X (e::es) g) (hn:(e::es).length=n:=by rfl) (hdb:(x==("__debug__" : Str))=false:=by decide) (he:starEach (e::es) X.env=(false,eval e X.env)::starEach es X.env:=by rfl) (hpl:(backTo pos (starEach es X.env)).any (·.1)=false:=by rfl) :
  JE X (.Call (.Name x p) (e::es) [] pos) (A3 F g):=fun ρ d q=>by
 obtain⟨ds,h1,h2⟩:=xbm q
 refine K7 (bL3 Fk hr hg hm hk hb .nil bU1 (fun pos pins s σ H Q I t=>ha.run ρ ds h1 pos pins s σ H Q I t) hdb he hpl) fun σ H Q ⟨H0,Hf,s,sl,kk⟩=>?_
 refine⟨H0,Hf,s,sl,fun vs H1 Hf1 g1 r1=>⟨?_,Hf1,ds,d,g1.sub,by rw[List.append_nil];exact r1,h2,fun v H2 Hf2 g2 r2=>kk v H2 Hf2 (g1.trans g2) r2⟩⟩
 rw[List.append_nil,r1.length,ha.len ρ ds h1,hn]
inductive Fl where
 | nx (ρ:Rho)
 | rt (d:D)
 | bk (ρ:Rho)
 | ct (ρ:Rho)
noncomputable abbrev DS:=Rho->Option Fl
structure At (K:PySem.W.Frag) (H0 Hf0:Hp) (ρ:Rho) (σ:L2.St) (H Hf:Hp):Prop where
 gr:Grow H0 Hf0 H Hf
 sl:Slots K H0 ρ σ H Hf
noncomputable def Fl.ends(K:PySem.W.Frag) (H0 Hf0 Hf:Hp) (En:Ends):Fl->Prop
 | .nx ρ=>∀σ' H' Hf',At K H0 Hf0 ρ σ' H' Hf'->L0 Hf Hf'->En.nx σ' H'
 | .bk ρ=>∀σ' H' Hf',At K H0 Hf0 ρ σ' H' Hf'->L0 Hf Hf'->En.bk σ' H'
 | .ct ρ=>∀σ' H' Hf',At K H0 Hf0 ρ σ' H' Hf'->L0 Hf Hf'->En.ct σ' H'
 | .rt d=>∀v H' Hf',Grow H0 Hf0 H' Hf'->Rep K Hf' d v->En.rt v H'
noncomputable def tJS(K:PySem.W.Frag) (H0 Hf0:Hp) (ρ:Rho) (fl:Fl):TS:=fun En σ H=>∃Hf,At K H0 Hf0 ρ σ H Hf/\fl.ends K H0 Hf0 Hf En
noncomputable def JS(X:Cx) (st:Stmt) (f:DS):Prop:=∀ρ fl,f ρ=some fl->∀H0 Hf0,PS X st (tJS X.K H0 Hf0 ρ fl)
noncomputable def JSs(X:Cx) (sts:List Stmt) (f:DS):Prop:=∀ρ fl,f ρ=some fl->∀H0 Hf0,PSs X sts (tJS X.K H0 Hf0 ρ fl)
theorem S2{st:Stmt}{t t':TS}(h:PS X st t) (i:∀En σ H,t' En σ H->t En σ H):PS X st t':=fun pins s σ H En I q=>h pins s σ H En I (i En σ H q)
theorem al4{st:List Stmt}{t t':TS}(h:PSs X st t) (i:∀En σ H,t' En σ H->t En σ H):PSs X st t':=fun pins s σ H En I q=>h pins s σ H En I (i En σ H q)
theorem At.grow{K:PySem.W.Frag}{H0 Hf0 H Hf H' Hf':Hp}{ρ:Rho}{σ:L2.St}(a:At K H0 Hf0 ρ σ H Hf) (g:Grow H Hf H' Hf'):At K H0 Hf0 ρ σ H' Hf':=⟨a.gr.trans g,a.sl.grow g⟩
theorem Fl.ends_mono{K:PySem.W.Frag}{H0 Hf0 Hf Hf':Hp}{En:Ends}{fl:Fl}(h:fl.ends K H0 Hf0 Hf En) (e:L0 Hf Hf'):fl.ends K H0 Hf0 Hf' En:=by
 cases fl with
 | nx ρ=>exact fun σ' H' Hf'' a s=>h σ' H' Hf'' a (e.trans s)
 | bk ρ=>exact fun σ' H' Hf'' a s=>h σ' H' Hf'' a (e.trans s)
 | ct ρ=>exact fun σ' H' Hf'' a s=>h σ' H' Hf'' a (e.trans s)
 | rt d=>exact h
noncomputable def G7:DS:=fun ρ=>some (.nx ρ)
noncomputable def A6(f g:DS):DS:=fun ρ=>(f ρ).bind fun fl=>match fl with
 | .nx ρ'=>g ρ'
 | fl=>some fl
theorem bO1:JSs X [] G7:=fun ρ fl q H0 Hf0=>by
 cases q
 exact al4 bK3 fun En σ H ⟨Hf,a,e⟩=>e σ H Hf a (L0.refl _)
theorem by3{st:Stmt}{sts:List Stmt}{f g:DS}(h1:JS X st f) (h2:JSs X sts g):JSs X (st::sts) (A6 f g):=fun ρ fl q H0 Hf0=>by
 obtain⟨fl1,e1,q⟩:=xbm q
 cases fl1 with
 | nx ρ' =>refine al4 (al5 (h1 ρ _ e1 H0 Hf0) (h2 ρ' fl q H0 Hf0)) fun En σ H ⟨Hf,a,e⟩=>⟨Hf,a,fun σ' H' Hf' a' s'=>⟨Hf',a',Fl.ends_mono e s'⟩⟩
 | rt d=>cases q;exact al4 (al5 (h1 ρ _ e1 H0 Hf0) u5) fun En σ H ⟨Hf,a,e⟩=>⟨Hf,a,e⟩
 | bk ρ'=>cases q;exact al4 (al5 (h1 ρ _ e1 H0 Hf0) u5) fun En σ H ⟨Hf,a,e⟩=>⟨Hf,a,e⟩
 | ct ρ'=>cases q;exact al4 (al5 (h1 ρ _ e1 H0 Hf0) u5) fun En σ H ⟨Hf,a,e⟩=>⟨Hf,a,e⟩
theorem bO0{st:Stmt}{f:DS}(h1:JS X st f):JSs X [st] f:=fun ρ fl q H0 Hf0=>bK2 (h1 ρ fl q H0 Hf0)
noncomputable def A9(f:DE):DS:=fun ρ=>(f ρ).map Fl.rt
theorem aY7{e:Expr}{f:DE}{pos:Pos}(h:JE X e f):JS X (.Return (some e) pos) (A9 f):=fun ρ fl q H0 Hf0=>by
 obtain⟨d,e1,e2⟩:=xmo q
 subst e2
 exact S2 (bY8 (h ρ d e1)) fun En σ H ⟨Hf,a,e⟩=>⟨H0,Hf,a.gr.sub,a.sl,fun v H' Hf' g r=>e v H' Hf' (a.gr.trans g) r⟩
noncomputable def sIf(t:Rho->Option Bool) (f g:DS):DS:=fun ρ=>(t ρ).bind fun c=>if c then f ρ else g ρ
theorem cq5{c:Expr}{a b:List Stmt}{t:Rho->Option Bool}{f g:DS}{pos:Pos}(hc:JT X c t) (ha:JSs X a f) (hb:JSs X b g):JS X (.If c a b pos) (sIf t f g):=fun ρ fl q H0 Hf0=>by
 obtain⟨x,e1,q⟩:=xbm q
 cases x with
 | true =>refine S2 (bT6 (hc ρ _ e1) (ha ρ fl (by simpa using q) H0 Hf0) u5) fun En σ H ⟨Hf,a,e⟩=>⟨H0,Hf,a.gr.sub,a.sl,fun H' Hf' g=>aB5 ⟨Hf',a.grow g,Fl.ends_mono e g.ext⟩⟩
 | false =>refine S2 (bT6 (hc ρ _ e1) u5 (hb ρ fl (by simpa using q) H0 Hf0)) fun En σ H ⟨Hf,a,e⟩=>⟨H0,Hf,a.gr.sub,a.sl,fun H' Hf' g=>aB6 ⟨Hf',a.grow g,Fl.ends_mono e g.ext⟩⟩
theorem Slots.set{K:PySem.W.Frag}{H0 H Hf:Hp}{ρ:Rho}{σ:L2.St}{i:Nat}{d:D}{v:V}(s:Slots K H0 ρ σ H Hf) (r:Rep K Hf d v):Slots K H0 (ρ.set i (some (.val d))) (σ.set i (some v)) H Hf:=by
 refine⟨by simp[s.len],fun j b e=>?_,fun j k ds es a h1 h2 h3 h4=>?_⟩
 ·by_cases q:i=j
  ·subst q
   have hi:i < ρ.length:=by
    have:=(List.getElem?_eq_some_iff.mp e).1
    simpa using this
   have hi':i < σ.length:=by rw[← s.len];exact hi
   rw[List.getElem?_set_self hi]at e
   cases e
   exact⟨v,List.getElem?_set_self hi',r⟩
  ·rw[List.getElem?_set_ne q]at e
   obtain⟨u,h1,h2⟩:=s.is j b e
   exact⟨u,by rw[List.getElem?_set_ne q];exact h1,h2⟩
 ·have hj:i≠j:=by
   intro q;subst q
   have hi:i < ρ.length:=by
    have:=(List.getElem?_eq_some_iff.mp h1).1
    simpa using this
   rw[List.getElem?_set_self hi]at h1
   cases h1
  have hk:i≠k:=by
   intro q;subst q
   have hi:i < ρ.length:=by
    have:=(List.getElem?_eq_some_iff.mp h2).1
    simpa using this
   rw[List.getElem?_set_self hi]at h2
   cases h2
  rw[List.getElem?_set_ne hj]at h1 h3
  rw[List.getElem?_set_ne hk]at h2 h4
  exact s.apart j k ds es a h1 h2 h3 h4
noncomputable def B0(i:Nat) (f:DE):DS:=fun ρ=>(f ρ).map fun d=>.nx (ρ.set i (some (.val d)))
theorem aY6(i:Nat) {x:Str}{e:Expr}{f:DE}{pos pos':Pos}(hN:X.N.Nodup) (h:JE X e f) (hi:X.N[i]? = some x:=by rfl) (hx:Loc X.env.scope x:=by first|exact Or.inl rfl|exact Or.inr rfl)
  (hs:swapsWith e (some (.Name x pos')) pos.line X.env=pure false:=by rfl) (hf:X.fn x=true\/X.env.scope.names.lookup x=some .local:=by first|exact .inl rfl|exact .inr rfl):JS X (.Assign [.Name x pos'] e pos) (B0 i f):=fun ρ fl q H0 Hf0=>by
 obtain⟨d,e1,e2⟩:=xmo q
 subst e2
 exact S2 (bu5 hN hi hx (h ρ d e1) hs hf) fun En σ H ⟨Hf,a,e⟩=>⟨H0,Hf,a.gr.sub,a.sl,fun v H' Hf' g r=>e _ H' Hf' ⟨a.gr.trans g,(a.sl.grow g).set r⟩ g.ext⟩
noncomputable def bt5(i j:Nat) (f:Rho->Option (List D)):DS:=fun ρ=>(f ρ).bind fun ds=>match ds with
 | [a,b]=>some (.nx ((ρ.set i (some (.val a))).set j (some (.val b))))
 | _=>none
end
theorem bo8{prog:Program}{w:World}{A:Around}{R:Result->Shared->Prop}{s:Shared}{elt target iter:Expr}{ifs:List Expr}{scope:Scope}{pos:Pos}{it acc:Value}{env:Env}(I:Nat->Shared->Prop)
  (turn:∀n s,I n s->wpAny (model prog w) A (pyNext it) (fun r s1=>match r with
   | none=>R (.ok .next) s1
   | some v=>wpAny (model prog w) A (letOwnedTupleGo target it v) (fun _ s1'=>wpAny (model prog w) A (assign target env v) (fun _ s2 =>
     wpAny (model prog w) A (forIn ifs true fun c r=>if r=true then do let ok ← isTrue c env (eval c env);pure (ForInStep.yield ok) else pure (ForInStep.yield r)) (fun ok s3 =>
      if ok=true then wpAny (model prog w) A (eval elt env) (fun x s4 =>wpAny (model prog w) A (call (.builtin "list.append") [acc,x]) (fun _ s5=>∃m,m < n/\I m s5) (fun _ _=>False) s4) (fun _ _=>False) s3
      else ∃m,m < n/\I m s3) (fun _ _=>False) s2) (fun _ _=>False) s1') (fun _ _=>False) s1) (fun _ _=>False) s)
  (n:Nat) (h:I n s) :
  codeAny (model prog w) A (.compLoop (.ListComp elt [⟨target,iter,ifs,0⟩] scope pos) 0 it acc env) R s:=by
 refine codeAny_loop rfl I (fun n s hI=>?_) n h
 show wpAny _ A ((compTurn (.ListComp elt [⟨target,iter,ifs,0⟩] scope pos) 0 it acc env).onRaise (fun x=>do noteFrame x env;theTreesLotGoes x)) _ _ s
 refine wpAny_noted ?_
 rw[compTurn_list]
 refine wpAny_bind (wpAny_standAt (wpAny_bind (wpAny_mono (turn n s hI) (fun r s1 h1=>?_) fun _ _ h'=>h'.elim)))
 cases r with
 | none=>exact wpAny_pure h1
 | some v =>
  refine wpAny_bind (wpAny_mono h1 (fun _ s1' h1'=>?_) fun _ _ h'=>h'.elim)
  refine wpAny_bind (wpAny_mono h1' (fun _ s2 h2=>wpAny_bind (wpAny_mono h2 (fun ok s3 h3=>?_) fun _ _ h'=>h'.elim)) fun _ _ h'=>h'.elim)
  cases ok with
  | false=>exact wpAny_pure ⟨rfl,h3⟩
  | true =>exact wpAny_bind (wpAny_bind (wpAny_mono h3 (fun x s4 h4=>wpAny_bind (wpAny_mono h4 (fun _ s5 h5=>wpAny_pure (wpAny_pure ⟨rfl,h5⟩)) fun _ _ h'=>h'.elim)) fun _ _ h'=>h'.elim))
noncomputable def T9(cells:List (Str×Addr)):List (Str×NameKind)->List (Str×Addr)->List (Str×Addr)
 | [],cs=>cs
 | (n,k)::r,cs=>if(k==NameKind.free)=true then T9 cells r ((n,(cells.lookup n).getD 0)::cs) else T9 cells r cs
theorem ay6{env:Env}:∀(names:List (Str×NameKind)) (cs:List (Str×Addr)),(∀y∈names,y.2=.free->∃c,env.cells.lookup y.1=some c) ->
  (forIn names cs fun(x:Str×NameKind) (r:List (Str×Addr))=>if(x.2==NameKind.free)=true then do let a ← cellOf env x.1;pure (ForInStep.yield ((x.1,a)::r)) else pure (ForInStep.yield r):Sem (List (Str×Addr)))=pure (T9 env.cells names cs)
 | [],cs,_=>rfl
 | (n,k)::r,cs,h=>by
  rw[List.forIn_cons]
  have hr:∀y∈r,y.2=.free->∃c,env.cells.lookup y.1=some c:=fun y hy=>h y (xmm _ hy)
  by_cases hk:(k==NameKind.free)=true
  ·obtain⟨c,hc⟩:=h (n,k) List.mem_cons_self (by simpa using hk)
   have hc':env.cells.lookup n=some c:=hc
   simp only[hk,if_true]
   have e:cellOf env n=pure c:=by unfold cellOf;rw[hc']
   rw[e]
   show(forIn r ((n,c)::cs) _:Sem _)=_
   rw[ay6 r _ hr]
   simp only[T9,hk,if_true,hc',Option.getD_some]
  ·have hk':(k==NameKind.free)=false:=by simpa using hk
   simp only[hk',Bool.false_eq_true,if_false]
   show(forIn r cs _:Sem _)=_
   rw[ay6 r _ hr]
   simp only[T9,hk',Bool.false_eq_true,if_false]
theorem bS1{scope:Scope}{env:Env}(h:∀y∈scope.names,y.2=.free->∃c,env.cells.lookup y.1=some c):closureFor scope env=pure (T9 env.cells scope.names []):=by
 have:=ay6 (env:=env) scope.names [] h
 unfold closureFor
 exact congrArg (fun z=>z >>= fun cs=>pure cs) this
theorem an3{cells:List (Str×Addr)}:∀{names:List (Str×NameKind)}{cs:List (Str×Addr)}{x:Str}{c:Addr},(x,c)∈T9 cells names cs->(x,c)∈cs\/((x,NameKind.free)∈names/\c=(cells.lookup x).getD 0)
 | [],cs,x,c,h=>.inl h
 | (n,k)::r,cs,x,c,h=>by
  unfold T9 at h
  split at h
  ·rename_i hk
   rcases an3 h with q|⟨q1,q2⟩
   ·rcases List.mem_cons.mp q with q|q
    ·cases q
     have:k=.free:=by simpa using hk
     subst this
     exact .inr ⟨List.mem_cons_self,rfl⟩
    ·exact .inl q
   ·exact .inr ⟨xmm _ q1,q2⟩
  ·rcases an3 h with q|⟨q1,q2⟩
   ·exact .inl q
   ·exact .inr ⟨xmm _ q1,q2⟩
theorem v4{cells:List (Str×Addr)}:∀{names:List (Str×NameKind)}{cs:List (Str×Addr)}{x:Str},((x,NameKind.free)∈names\/∃c,(x,c)∈cs)->∃c,(x,c)∈T9 cells names cs
 | [],cs,x,h=>by
  rcases h with h|h
  ·cases h
  ·exact h
 | (n,k)::r,cs,x,h=>by
  unfold T9
  rcases h with h|⟨c,h⟩
  ·rcases List.mem_cons.mp h with q|q
   ·cases q
    rw[if_pos (by rfl)]
    exact v4 (.inr ⟨_,List.mem_cons_self⟩)
   ·split
    ·exact v4 (.inl q)
    ·exact v4 (.inl q)
  ·split
   ·exact v4 (.inr ⟨c,xmm _ h⟩)
   ·exact v4 (.inr ⟨c,h⟩)
theorem ai8{l:List (Str×Addr)}{x:Str}{c:Addr}(h:(x,c)∈l):∃c',l.lookup x=some c':=by
 induction l with
 | nil=>cases h
 | cons p r ih =>
  obtain⟨n,a⟩:=p
  rw[List.lookup_cons]
  cases e:x==n with
  | true=>exact⟨a,rfl⟩
  | false =>
   rcases List.mem_cons.mp h with q|q
   ·cases q;simp at e
   ·exact ih q
theorem al3{scope:Scope}{env:Env}{x:Str}{k:NameKind}:(relabel scope env).names.lookup x=some k->∃k0,scope.names.lookup x=some k0/\(k=k0\/k0=.free):=by
 unfold relabel
 simp only
 generalize scope.names=names
 induction names with
 | nil=>intro h;simp at h
 | cons p r ih =>
  obtain⟨n,k1⟩:=p
  intro h
  rw[List.map_cons]at h
  by_cases hc:(k1==NameKind.free&&env.scope.kind == .function&&env.kindOf n==some .cell)=true
  ·simp only[hc,if_true,List.lookup_cons]at h
   rw[List.lookup_cons]
   cases e:x==n with
   | true =>
    rw[e]at h
    rw[Bool.and_eq_true,Bool.and_eq_true]at hc
    exact⟨k1,rfl,.inr (by simpa using hc.1.1)⟩
   | false=>rw[e]at h;exact ih h
  ·have hc':(k1==NameKind.free&&env.scope.kind == .function&&env.kindOf n==some .cell)=false:=by simpa using hc
   simp only[hc',Bool.false_eq_true,if_false,List.lookup_cons]at h
   rw[List.lookup_cons]
   cases e:x==n with
   | true=>rw[e]at h;cases h;exact⟨_,rfl,.inl rfl⟩
   | false=>rw[e]at h;exact ih h
theorem aI5{scope:Scope}{env:Env}{x:Str}:scope.names.lookup x=some .free->(relabel scope env).names.lookup x=some .cell\/(relabel scope env).names.lookup x=some .free:=by
 unfold relabel
 simp only
 generalize scope.names=names
 induction names with
 | nil=>intro h;simp at h
 | cons p r ih =>
  obtain⟨n,k1⟩:=p
  intro h
  rw[List.lookup_cons]at h
  rw[List.map_cons]
  cases e:x==n with
  | true =>
   rw[e]at h
   cases h
   have en:x=n:=by simpa using e
   subst en
   by_cases hc:(NameKind.free==NameKind.free&&env.scope.kind == .function&&env.kindOf x==some .cell)=true
   ·simp only[hc,if_true,List.lookup_cons,e];exact .inl trivial
   ·have hc':(NameKind.free==NameKind.free&&env.scope.kind == .function&&env.kindOf x==some .cell)=false:=by simpa using hc
    simp only[hc',Bool.false_eq_true,if_false,List.lookup_cons,e];exact .inr trivial
  | false =>
   rw[e]at h
   by_cases hc:(k1==NameKind.free&&env.scope.kind == .function&&env.kindOf n==some .cell)=true
   ·simp only[hc,if_true,List.lookup_cons,e];exact ih h
   ·have hc':(k1==NameKind.free&&env.scope.kind == .function&&env.kindOf n==some .cell)=false:=by simpa using hc
    simp only[hc',Bool.false_eq_true,if_false,List.lookup_cons,e];exact ih h
noncomputable def M9(X:Cx) (N':List Str) (scope:Scope) (C:Addr) (s₀:Shared) (H₀:Hp) (ex:List Addr):Cx where
 prog:=X.prog
 w:=X.w
 K:=X.K
 mg:=X.mg
 base:=X.base
 A:=X.A
 N:=N'
 s₀:=s₀
 H₀:=H₀
 env:=compEnvC scope (T9 X.env.cells scope.names []) C X.env
 outer:=X.stack
 stack:=X.stack
 ex:=ex
 fn:=fun _=>false
 calm:=X.calm
 pn:=[]
 xe:=fun _ _=>False
structure CompSc (X:Cx) (N':List Str) (n:Nat) (caps:List Nat) (scope:Scope):Prop where
 kind:scope.kind=.function
 cell:∀y∈scope.names,y.2≠.cell
 loc:∀y∈scope.names,y.2=.local->scope.names.lookup y.1=some .local
 free:∀y∈scope.names,y.2=.free->X.env.scope.names.lookup y.1=some .cell\/X.env.scope.names.lookup y.1=some .free
 len:N'.length=n+caps.length
 cap:∀(i j:Nat),caps[i]? = some j->∃x,X.N[j]? = some x/\N'[n+i]? = some x/\scope.names.lookup x=some .free
section
variable {X:Cx}{N':List Str}{n:Nat}{caps:List Nat}{scope:Scope}
theorem U9{l:List (Str×NameKind)}{x:Str}{k:NameKind}(h:l.lookup x=some k):(x,k)∈l:=PySem.mem_of_lookup h
noncomputable def aC3(n:Nat) (caps:List Nat) (σ:L2.St):L2.St:=List.replicate n none++caps.map fun j=>(σ[j]?).join
theorem ba9{pins:List (Addr×Obj)}{σ:L2.St}{H:Hp}{s:Shared}{h1:Heap}{tk:Nat}{fp:List Addr}{m:Str->Option Value}(S:CompSc X N' n caps scope) (I:Inv X pins σ H s) (hf:∀b∈fp,o9 X pins H b) (hlt:∀b∈fp,b < s.heap.objs.size)
  (hns:h1.Ns s.heap.objs.size m) (hk:∀b o,s.heap.get? b=some o->h1.get? b=some o) :
  Inv (M9 X N' scope s.heap.objs.size s H fp) [] (aC3 n caps σ) H { s with heap:=h1,toks:=tk }:=by
 have cl_of:∀x c,(T9 X.env.cells scope.names []).lookup x=some c->X.env.cells.lookup x=some c:=fun x c h=>by
  have hm:=PySem.mem_of_lookup h
  rcases an3 hm with q|⟨q1,q2⟩
  ·cases q
  ·obtain⟨c',hc'⟩:=I.ok.has x (S.free _ q1 rfl)
   rw[hc']at q2
   rw[hc',q2];rfl
 have cl_has:∀x,(x,NameKind.free)∈scope.names->∃c,(T9 X.env.cells scope.names []).lookup x=some c:=fun x h=>by
  obtain⟨c,hc⟩:=v4 (cells:=X.env.cells) (cs:=[]) (.inl h)
  exact ai8 hc
 have kind_free:∀x,((relabel scope X.env).names.lookup x=some .cell\/(relabel scope X.env).names.lookup x=some .free)->(x,NameKind.free)∈scope.names:=fun x h=>by
  rcases h with h|h
  ·obtain⟨k0,e1,e2⟩:=al3 h
   rcases e2 with e2|e2
   ·subst e2;exact absurd rfl (S.cell _ (U9 e1))
   ·subst e2;exact U9 e1
  ·obtain⟨k0,e1,e2⟩:=al3 h
   rcases e2 with e2|e2
   ·subst e2;exact U9 e1
   ·subst e2;exact U9 e1
 have cell_lt:∀x c,X.env.cells.lookup x=some c->c < s.heap.objs.size:=fun x c e=>by
  obtain⟨v,q⟩:=I.cell x c e
  exact q.lt
 have ok:(M9 X N' scope s.heap.objs.size s H fp).Ok:=by
  refine⟨I.ok.mod,S.kind,I.ok.glob,I.ok.blt,Nat.le_refl _,fun x y c e1 e2=>I.ok.inj x y c (cl_of x c e1) (cl_of y c e2),fun x hx=>cl_has x (kind_free x hx),fun x c e _=>(Bool.false_ne_true e).elim,I.ok.hd,I.ok.frames,.inl rfl,fun b hb=>⟨Nat.ne_of_lt (hlt b hb),fun x c e=>(hf b hb).2.2.2.2.1 x c (cl_of x c e)⟩,
   I.bs,Nat.le_trans I.ok.bsz I.sz,fun b o e hb=>?_,fun b hb hb2=>?_,I.stack,I.stkFree⟩
  ·rcases(hf b hb).2.2.2.1 with z|z
   ·exact I.ok.noex b o e z
   ·exact absurd (Nat.lt_of_lt_of_le (Heap.lt_size e) (Nat.le_trans I.ok.bsz z)) (Nat.lt_irrefl _)
  ·rcases List.mem_cons.mp (I.stkSub b hb2) with z|z
   ·exact(hf b hb).2.1 z
   ·exact(hf b hb).2.2.1 z
 refine⟨ok,rfl,I.bare,Un.kept hk,⟨m,hns,fun i x v e1 e2 e3=>?_⟩,fun x c e=>?_,I.hok.fresh (Nat.le_refl _),fun x c e=>I.freeC x c (cl_of x c e),fun p hp=>absurd (show p∈([]:List (Addr×Obj)) from hp) (by simp),I.hok.kept hk,?_⟩
 ·have hi:n<=i:=by
   rcases Nat.lt_or_ge i n with h|h
   ·unfold aC3 at e2
    rw[List.getElem?_append_left (by simpa using h),List.getElem?_replicate,if_pos h]at e2
    cases e2
   ·exact h
  unfold aC3 at e2
  rw[List.getElem?_append_right (by simpa using hi),List.getElem?_map]at e2
  simp only[List.length_replicate]at e2
  cases hj:caps[i - n]? with
  | none=>rw[hj]at e2;cases e2
  | some j =>
   rw[hj]at e2
   have e2':(σ[j]?).join=some v:=by simpa using e2
   have e2'':σ[j]? = some (some v):=by
    cases q:σ[j]? with
    | none=>rw[q]at e2';cases e2'
    | some o=>rw[q]at e2';simp at e2';rw[e2']
   obtain⟨y,q1,q2,q3⟩:=S.cap _ _ hj
   have:y=x:=by
    have e1':N'[i]? = some x:=e1
    rw[show n+(i - n)=i by omega,e1']at q2
    cases q2;rfl
   subst this
   obtain⟨m0,hn0,hl0⟩:=I.loc
   have hv:Vis X.env.scope y:=by
    rcases S.free _ (U9 q3) rfl with z|z
    ·exact .inr (.inl z)
    ·exact .inr (.inr z)
   obtain⟨u,ru,lk⟩:=hl0 j y v q1 e2'' hv
   refine⟨u,ru,.inr ⟨aI5 q3,?_⟩⟩
   rcases lk with⟨lk,_⟩|⟨_,c,hc,hcell⟩
   ·rcases S.free _ (U9 q3) rfl with z|z
    ·have:X.env.scope.names.lookup y=some .local:=lk
     rw[z]at this;cases this
    ·have:X.env.scope.names.lookup y=some .local:=lk
     rw[z]at this;cases this
   ·obtain⟨c',hc'⟩:=cl_has y (U9 q3)
    have:=cl_of y c' hc'
    rw[hc]at this;cases this
    obtain⟨o,ho,hd⟩:=hcell
    exact⟨c,hc',o,hk c o ho,hd⟩
 ·obtain⟨v,o,ho,hd⟩:=I.cell x c (cl_of x c e)
  exact⟨v,o,hk c o ho,hd⟩
 ·show(aC3 n caps σ).length=N'.length
  unfold aC3
  rw[S.len];simp
theorem aF2{pins:List (Addr×Obj)}{σ σ':L2.St}{H H':Hp}{s s':Shared}{h':Heap}{fp:List Addr}(I:Inv X pins σ H s) (hf:∀b∈fp,o9 X pins H b)
  (I':Inv (M9 X N' scope s.heap.objs.size s H fp) [] σ' H' s') (sb:Heap.SameBut s.heap.objs.size s'.heap h'):Inv X pins σ H' { s' with heap:=h' }:=by
 have ne:∀b o,s.heap.get? b=some o->b≠s.heap.objs.size:=fun b o e=>Nat.ne_of_lt (Heap.lt_size e)
 refine I.call' (s':={ s' with heap:=h' }) (ch:=fp) I'.os ?_ ?_ I'.bare fun b hb=>⟨(hf b hb).2.2.2.1,(hf b hb).2.1,(hf b hb).2.2.2.2.1,(hf b hb).2.2.2.2.2⟩
 ·refine⟨fun b o e n hb hx=>sb.extBut b o (ne b o e) (I'.base.keep b o e n hb hx),fun b o e n hb hx=>?_,I'.base.free,fun b o e hx=>?_,I'.base.tups,I'.base.frzs,I'.base.tbls⟩
  ·obtain⟨sl,q⟩:=I'.base.slot b o e n hb hx
   exact⟨sl,sb.extBut b _ (ne b o e) q⟩
  ·obtain⟨o',q⟩:=I'.base.there b o e hx
   exact⟨o',sb.extBut b _ (ne b o e) q⟩
 ·intro b u e
  have nC:∀c v,H' c=some v->c≠s.heap.objs.size:=fun c v q z=>by
   have:=I'.free
   have z':H' c=none:=by rw[z];exact this
   rw[z']at q;cases q
  refine(I'.hok b u e).stay (fun c v hc q=>sb.extBut c v ?_ q) (fun _ q=>q) fun _ _ q=>q
  rcases hc with z|z
  ·rw[z];exact nC b u e
  ·exact nC c _ z
noncomputable def PTs(X:Cx) (ifs:List Expr) (t:TT):Prop :=
 ∀(pins:List (Addr×Obj)) (s:Shared) (σ:L2.St) (H:Hp) (Q:Bool->Hp->Prop),Inv X pins σ H s->t σ H Q ->
  wpAny (model X.prog X.w) X.A (forIn ifs true fun c r=>if r=true then do let ok ← isTrue c X.env (eval c X.env);pure (ForInStep.yield ok) else pure (ForInStep.yield r)) (TP X pins σ Q) X.xe s
theorem bK0:PTs X [] (fun _ H Q=>Q true H):=fun pins s σ H Q I h=>wpAny_tests_nil ⟨H,I,h⟩
theorem bJ9{c:Expr}{t:TT}(h:PT X c t):PTs X [c] t:=fun pins s σ H Q I q=>wpAny_tests_one (h pins s σ H Q I q)
noncomputable def bs6(n:Nat) (caps:List Nat) (wi:TI) (g:TG) (tc:TT) (te:TE):TE:=fun σ H Q=>wi σ H fun J H1=>∀Dd,H1 Dd=none->∃W:Nat->Nat->List V->L2.St->Hp->Prop,
 (∃m,W 0 m [] (aC3 n caps σ) (upd H1 Dd (.lst []))) /\
 ∀i m ys σ' H',W i m ys σ' H' ->
  (J.stop i H'/\Q (.ref Dd) H') \/
  (J.go i H'/\∀x H2,J.yld i H' x H2->g x σ' H2 fun σ3 H3=>tc σ3 H3 fun b H4 =>
   if b=true then te σ3 H4 fun y H5=>H5 Dd=some (.lst ys)/\ys.length < sizeLine/\∃m',m' < m/\W (i+1) m' (ys++[y]) σ3 (upd H5 Dd (.lst (ys++[y])))
   else ∃m',m' < m/\W (i+1) m' ys σ3 H4)
theorem aT5{elt tgt iter:Expr}{ifs:List Expr}{pos:Pos}{wi:TI}{g:TG}{tc:TT}{te:TE}{RR:Value->Addr->Result->Shared->Prop}{E:Value->Shared->Prop}(S:CompSc X N' n caps scope) (hx:∀e s,X.xe e s->False) (hc:X.calm=true)
  (hi:PI X tgt iter wi) (hg:∀C s0 H0 ex,PG (M9 X N' scope C s0 H0 ex) tgt g) (ht:∀C s0 H0 ex,PTs (M9 X N' scope C s0 H0 ex) ifs tc) (he:∀C s0 H0 ex,PE (M9 X N' scope C s0 H0 ex) elt te)
  {pins:List (Addr×Obj)}{s:Shared}{σ:L2.St}{H:Hp}{Q:VK}(I:Inv X pins σ H s) (h:bs6 n caps wi g tc te σ H Q)
  (hRR:∀D C r s',r=.ok .next->(∃m,s'.heap.Ns C m/\∀h',Heap.SameBut C s'.heap h'->∃H',Inv X pins σ H' { s' with heap:=h' }/\Q (.ref D) H') ->
   (∃s2 fp σ' H2 H',s2.heap.objs.size=C/\Inv X pins σ H2 s2/\(∀b∈fp,o9 X pins H2 b)/\Inv (M9 X N' scope s2.heap.objs.size s2 H2 fp) [] σ' H' s'/\Q (.ref D) H')->RR (.ref D) C r s') :
  wpAny (model X.prog X.w) X.A (eval iter X.env) (fun x s₁=>wpAny (model X.prog X.w) X.A (pyIter x) (fun it s₂=>wpAny (model X.prog X.w) X.A (newList []) (fun acc s₃ =>
   wpAny (model X.prog X.w) X.A (newFunctionEnv scope X.env.globals (T9 X.env.cells scope.names []) [] X.env.qual none .none (some X.env)) (fun cenv s₄ =>
    codeAny (model X.prog X.w) X.A (.compStart (.ListComp elt [⟨tgt,iter,ifs,0⟩] scope pos) 0 it acc { cenv with scope:=relabel scope X.env }) (RR acc cenv.locals) s₄) E s₃) E s₂) E s₁) E s:=by
 refine wpAny_mono (hi pins s σ H _ I h) (fun v s1 h1=>wpAny_mono h1 (fun itv s2 h2=>?_) fun _ _ z=>(hx _ _ z).elim) fun _ _ z=>(hx _ _ z).elim
 obtain⟨it,fp,tn,J,H2,e,I2,T,st2,f2,R⟩:=h2
 subst e
 refine wpAny_newObj_type (wpAny_newFunctionEnv S.cell (by intro y hy;simp at hy) (fun h₁ hns₁ hsb₁=>?_) S.kind)
 dsimp only at hns₁ hsb₁ ⊢
 obtain⟨W,⟨m0,w0⟩,turn⟩:=R s2.heap.objs.size (I2.hok.fresh (Nat.le_refl _))
 have lt2:∀b∈fp,b < s2.heap.objs.size:=fun b hb=>by
  obtain⟨o,ho,_⟩:=T.obj _ _ st2 b hb
  exact Heap.lt_size ho
 have I3:Inv X pins σ (upd H2 s2.heap.objs.size (.lst [])) { s2 with heap:=s2.heap.push { cls:=.type "list", dict:=none,data:=.seq ([]:List Value).toArray } } :=
  I2.laid (t':=s2.toks) (fun b u e=>Heap.get?_push_of_some _ e) (Nat.le_refl _) ⟨Nat.zero_le _,[],0,.nil,Heap.get?_push_size _ rfl⟩
 generalize hs3:({ s2 with heap:=s2.heap.push { cls:=.type "list", dict:=none,data:=.seq ([]:List Value).toArray } }:Shared)=s3 at I3
 have es3:s3.heap=s2.heap.push { cls:=.type "list", dict:=none,data:=.seq ([]:List Value).toArray }:=by rw[← hs3]
 rw[← es3]at hns₁ hsb₁ ⊢
 have keep3:∀b o,s3.heap.get? b=some o->h₁.get? b=some o:=fun b o e=>hsb₁.extBut b o (Nat.ne_of_lt (Heap.lt_size e)) (Heap.get?_push_of_some _ e)
 have lt3:∀b∈fp,b < s3.heap.objs.size:=fun b hb=>by rw[es3,Heap.size_push];exact Nat.lt_succ_of_lt (lt2 b hb)
 have f3:∀b∈fp,o9 X pins (upd H2 s2.heap.objs.size (.lst [])) b:=fun b hb=>⟨by rw[J0 (Nat.ne_of_lt (lt2 b hb))];exact(f2 b hb).1,(f2 b hb).2⟩
 generalize hH3:upd H2 s2.heap.objs.size (HO.lst [])=H3 at I3 f3 w0
 have fin3:∀{σ':L2.St}{H':Hp}{pl:List (Addr×Obj)},(∀b∈fp,H' b=none)->(∀p∈pl,False)->∀b∈fp,o9 (M9 X N' scope s3.heap.objs.size s3 H3 fp) pl H' b:=fun{σ' H' pl} hn hp b hb=>by
  refine⟨hn b hb,Nat.ne_of_lt (lt3 b hb),fun z=>?_,.inl hb,fun x c e=>?_,fun p hp'=>?_⟩
  ·rcases List.mem_cons.mp (I3.stkSub b z) with z|z
   ·exact(f3 b hb).2.1 z
   ·exact(f3 b hb).2.2.1 z
  ·have hm:=PySem.mem_of_lookup e
   rcases an3 hm with q|⟨q1,q2⟩
   ·cases q
   ·obtain⟨c',hc'⟩:=I3.ok.has x (S.free _ q1 rfl)
    rw[hc']at q2
    have q2':c=c':=q2
    subst q2'
    exact(f3 b hb).2.2.2.2.1 x c hc'
  ·exact(hp p (by simpa [M9] using hp')).elim
 have toks:∃tk,({ s2 with heap:=h₁,toks:=s2.toks+([]:List (Str×Value)).length }:Shared)={ s3 with heap:=h₁,toks:=tk }:=⟨s2.toks,by rw[← hs3];rfl⟩
 obtain⟨tk,htk⟩:=toks
 have st4:tn 0 h₁:=T.keep 0 s2.heap h₁ st2 fun b hb o e=>keep3 b o (by rw[es3];exact Heap.get?_push_of_some _ e)
 have I4:Inv (M9 X N' scope s3.heap.objs.size s3 H3 fp) [] (aC3 n caps σ) H3 { s3 with heap:=h₁,toks:=tk }:=ba9 S I3 f3 lt3 hns₁ keep3
 have loop:codeAny (model X.prog X.w) X.A (.compLoop (.ListComp elt [⟨tgt,iter,ifs,0⟩] scope pos) 0 (.ref it) (.ref s2.heap.objs.size) (compEnvC scope (T9 X.env.cells scope.names []) s3.heap.objs.size X.env)) (RR (.ref s2.heap.objs.size) s3.heap.objs.size) { s3 with heap:=h₁,toks:=tk }:=by
  refine bo8 (fun k s'=>∃i ys σ' H',Inv (M9 X N' scope s3.heap.objs.size s3 H3 fp) [] σ' H' s'/\tn i s'.heap/\(∀b∈fp,H' b=none)/\W i k ys σ' H') ?_ m0 ⟨0,[],_,H3,I4,st4,fun b hb=>(f3 b hb).1,w0⟩
  rintro k s5 ⟨i,ys,σ5,H5,I5,st5,fr5,w5⟩
  have pz:∀p∈([]:List (Addr×Obj)),False:=fun p hp=>by cases hp
  rcases turn i k ys σ5 H5 w5 with⟨stop,qn⟩|⟨go,step⟩
  ·refine wpAny_mono (T.done (M9 X N' scope s3.heap.objs.size s3 H3 fp) rfl rfl rfl hc i [] s5 σ5 H5 (fun _ _=>False) I5 (fin3 (σ':=σ5) fr5 pz) st5 stop) (fun r s6 ⟨hr,I6⟩=>?_) fun _ _ z=>z
   subst hr
   obtain⟨m6,hn6,_⟩:=I6.loc
   refine hRR _ _ _ s6 rfl ⟨m6,hn6,fun h' sb=>⟨H5,aF2 I3 f3 I6 sb,qn⟩⟩ ⟨s3,fp,σ5,H3,H5,rfl,I3,f3,I6,qn⟩
  ·refine wpAny_mono (T.item (M9 X N' scope s3.heap.objs.size s3 H3 fp) rfl rfl rfl hc i [] s5 σ5 H5 (fun _ _=>False) I5 (fin3 (σ':=σ5) fr5 pz) st5 go) (fun r s6 ⟨u,hr,h6⟩=>?_) fun _ _ z=>z
   subst hr
   refine wpAny_mono h6 (fun _ s7 ⟨x,H7,I7,r7,y7,st7,fr7⟩=>?_) fun _ _ z=>z
   have I7':=I7.pinned (fin3 (σ':=σ5) fr7 pz) (T.obj _ _ st7)
   refine wpAny_mono (hg _ _ _ _ _ s7 σ5 H7 x u _ I7' r7 (step x H7 y7)) (fun _ s8 ⟨σ8,H8,I8,q8⟩=>?_) fun _ _ z=>z
   refine wpAny_mono (ht _ _ _ _ _ s8 σ8 H8 _ I8 q8) (fun ok s9 ⟨H9,I9,q9⟩=>?_) fun _ _ z=>z
   have again:∀{σ':L2.St}{H':Hp}{s':Shared},Inv (M9 X N' scope s3.heap.objs.size s3 H3 fp) ([]++aw8 fp s7.heap) σ' H' s'->Inv (M9 X N' scope s3.heap.objs.size s3 H3 fp) [] σ' H' s'/\tn (i+1) s'.heap/\∀b∈fp,H' b=none:=fun{σ' H' s'} I'=>by
    refine⟨I'.unpinned,T.keep _ _ _ st7 fun b hb o e=>(I'.pin (b,o) (List.mem_append_right _ (List.mem_append_right _ (aa6 hb e)))).1,fun b hb=>?_⟩
    obtain⟨o,e,d⟩:=T.obj _ _ st7 b hb
    exact(I'.pin (b,o) (List.mem_append_right _ (List.mem_append_right _ (aa6 hb e)))).2.1
   cases ok with
   | false =>
    rw[if_neg Bool.false_ne_true]at q9 ⊢
    obtain⟨m',hm,w'⟩:=q9
    obtain⟨a1,a2,a3⟩:=again I9
    exact⟨m',hm,i+1,ys,σ8,H9,a1,a2,a3,w'⟩
   | true =>
    rw[if_pos rfl]at q9 ⊢
    refine wpAny_mono (he _ _ _ _ _ s9 σ8 H9 _ I9 q9) (fun y s10 ⟨vy,H10,I10,r10,q10,z10,m',hm,w'⟩=>?_) fun _ _ z=>z
    refine wpAny_mono (aE0 (X:=M9 X N' scope s3.heap.objs.size s3 H3 fp) _ s10 σ8 H10 (.ref s2.heap.objs.size) [vy] _ _ (fun v H'=>v=.non/\H'=upd H10 s2.heap.objs.size (.lst (ys++[vy]))) I10 rfl (.cons r10 .nil) ⟨_,ys,vy,rfl,rfl,q10,z10,rfl,rfl⟩) (fun _ s11 ⟨v11,H11,I11,r11,e11,e12⟩=>?_) fun _ _ z=>z
    subst e12
    obtain⟨a1,a2,a3⟩:=again I11
    exact⟨m',hm,i+1,ys++[vy],σ8,_,a1,a2,a3,w'⟩
 show codeAny (model X.prog X.w) X.A _ _ ({ s2 with heap:=h₁,toks:=s2.toks+([]:List (Str×Value)).length }:Shared)
 rw[htk]
 exact codeAny_compStart_list loop (T.self _ _ _ _ _ st4 loop)
end
section
variable {X:Cx}
noncomputable def tgJ(K:PySem.W.Frag) (f:D->Rho->Option Rho):TG:=fun v σ H Q=>∃d ρ ρ' H0 Hf,f d ρ=some ρ'/\L0 Hf H/\Slots K H0 ρ σ H Hf/\Rep K Hf d v/\∀σ',Slots K H0 ρ' σ' H Hf->Q σ' H
noncomputable def JG(X:Cx) (tg:Expr) (f:D->Rho->Option Rho):Prop:=PG X tg (tgJ X.K f)
noncomputable def cu0(K:PySem.W.Frag) (f:List D->Rho->Option Rho):TGs:=fun vs σ H Q=>∃ds ρ ρ' H0 Hf,f ds ρ=some ρ'/\L0 Hf H/\Slots K H0 ρ σ H Hf/\Reps K Hf ds vs/\∀σ',Slots K H0 ρ' σ' H Hf->Q σ' H
noncomputable def JGs(X:Cx) (tg:List Expr) (f:List D->Rho->Option Rho):Prop:=PGs X tg (cu0 X.K f)
noncomputable def B1(i:Nat):D->Rho->Option Rho:=fun d ρ=>some (ρ.set i (some (.val d)))
theorem bP7(i:Nat) {x:Str}{pos:Pos}(hN:X.N.Nodup) (hi:X.N[i]? = some x:=by rfl) (hx:Loc X.env.scope x:=by first|exact Or.inl rfl|exact Or.inr rfl) (hf:X.fn x=true\/X.env.scope.names.lookup x=some .local:=by first|exact .inl rfl|exact .inr rfl):JG X (.Name x pos) (B1 i):=by
 intro pins s σ H v u Q I r ⟨d,ρ,ρ',H0,Hf,e,ss,sl,rp,k⟩
 cases e
 exact bK9 hN hi hx hf pins s σ H v u Q I r (k _ (sl.set rp))
noncomputable def N4:List D->Rho->Option Rho:=fun ds ρ=>match ds with
 | []=>some ρ
 | _=>none
noncomputable def C2(f:D->Rho->Option Rho) (g:List D->Rho->Option Rho):List D->Rho->Option Rho:=fun ds ρ=>match ds with
 | d::r=>(f d ρ).bind fun ρ'=>g r ρ'
 | []=>none
theorem bP6:JGs X [] N4:=by
 intro pins s σ H vs us Q I r ⟨ds,ρ,ρ',H0,Hf,e,ss,sl,rp,k⟩
 cases ds with
 | nil=>cases e;exact bK8 pins s σ H vs us Q I r ⟨rp,k _ sl⟩
 | cons d ds=>cases e
theorem bz3{e:Expr}{es:List Expr}{f:D->Rho->Option Rho}{g:List D->Rho->Option Rho}(h1:JG X e f) (h2:JGs X es g) (hs:(assignEach (e::es) X.env).map (·.2)=assign e X.env::(assignEach es X.env).map (·.2):=by rfl):JGs X (e::es) (C2 f g):=by
 intro pins s σ H vs us Q I r ⟨ds,ρ,ρ',H0,Hf,e,ss,sl,rp,k⟩
 cases ds with
 | nil=>cases e
 | cons d ds =>
  obtain⟨ρ1,e1,e2⟩:=xbm e
  obtain⟨v,vr,rfl,q1,q2⟩:=rp
  exact bv1 h1 h2 hs pins s σ H _ us Q I r ⟨v,vr,rfl,d,ρ,ρ1,H0,Hf,e1,ss,sl,q1,fun σ' sl'=>⟨ds,ρ1,ρ',H0,Hf,e2,ss,sl',q2,k⟩⟩
noncomputable def M6(n:Nat) (g:List D->Rho->Option Rho):D->Rho->Option Rho:=fun d ρ=>match d with
 | .tuple ds=>if ds.length=n then g ds ρ else none
 | _=>none
theorem cf9{es:List Expr}{k n:Nat}{pos:Pos}{g:List D->Rho->Option Rho}(h:JGs X es g) (hc:X.calm=true:=by rfl) (hn:(assignEach es X.env).length=n:=by rfl) (hst:(assignEach es X.env).findIdx? (·.1)=none:=by rfl):JG X (.Tuple es k pos) (M6 n g):=by
 intro pins s σ H v u Q I r ⟨d,ρ,ρ',H0,Hf,e,ss,sl,rp,kk⟩
 cases d with
 | tuple ds =>
  simp only[M6]at e
  split at e
  ·rename_i hl
   obtain⟨a,vs,rfl,q1,q2⟩:=rp
   exact bZ2 hc h hn hst pins s σ H _ u Q I r ⟨a,vs,rfl,K8 ss q1,by rw[q2.length,hl],ds,ρ,ρ',H0,Hf,e,ss,sl,q2,kk⟩
  ·cases e
 | _=>cases e
noncomputable def aM6(K:PySem.W.Frag) (J:It) (ds:List D) (Hf1:Hp):Prop:=∀(i:Nat) (H Hf:Hp),L0 Hf1 Hf->L0 Hf H->(ds.length<=i->J.stop i H)/\∀d,ds[i]? = some d->J.go i H/\∀x H',J.yld i H x H'->∃Hf',Grow H Hf H' Hf'/\Rep K Hf' d x
noncomputable def tiJ(K:PySem.W.Frag) (ρ:Rho) (ds:List D):TI:=fun σ H R=>∃H0 Hf,L0 Hf H/\Slots K H0 ρ σ H Hf/\∀J H' Hf',Grow H Hf H' Hf'->aM6 K J ds Hf'->R J H'
noncomputable def JI(X:Cx) (tg iter:Expr) (f:Rho->Option (List D)):Prop:=∀ρ ds,f ρ=some ds->PI X tg iter (tiJ X.K ρ ds)
theorem aX6{tg iter:Expr}{t t':TI}(h:PI X tg iter t) (i:∀σ H R,t' σ H R->t σ H R):PI X tg iter t':=fun pins s σ H R I q=>h pins s σ H R I (i σ H R q)
noncomputable def L7(f:DE):Rho->Option (List D):=fun ρ=>(f ρ).bind fun d=>match d with
 | .list ds=>some ds
 | .tuple ds=>some ds
 | _=>none
theorem aY8{tg e:Expr}{f:DE}(h:JE X e f):JI X tg e (L7 f):=fun ρ ds q=>by
 obtain⟨d,e1,e2⟩:=xbm q
 cases d with
 | list xs =>
  cases e2
  refine aX6 (bK7 (h ρ _ e1)) fun σ H R ⟨H0,Hf,s,sl,k⟩=>⟨H0,Hf,s,sl,fun v H1 Hf1 g1 ⟨a,vs,h1,h2,h3⟩=>⟨a,h1,⟨vs,M7 g1.sub h2⟩,k _ H1 Hf1 g1 ?_⟩⟩
  intro i H' Hf' sa sb
  have q':SqL X.K H' a vs:=M7 (sa.trans sb) h2
  refine⟨fun hi=>⟨vs,q',by rw[h3.length];exact hi⟩,fun d hd=>?_⟩
  obtain⟨v,w1,w2⟩:=h3.get hd
  refine⟨⟨vs,v,q',w1⟩,fun x H'' hy=>?_⟩
  obtain⟨rfl,hy⟩:=hy
  have:=hy vs q'
  rw[w1]at this;cases this
  exact⟨Hf',Grow.refl sb,w2.mono sa⟩
 | tuple xs =>
  cases e2
  refine aX6 (bZ1 (h ρ _ e1)) fun σ H R ⟨H0,Hf,s,sl,k⟩=>⟨H0,Hf,s,sl,fun v H1 Hf1 g1 ⟨a,vs,h1,h2,h3⟩=>⟨a,h1,⟨vs,K8 g1.sub h2⟩,k _ H1 Hf1 g1 ?_⟩⟩
  intro i H' Hf' sa sb
  have q':SqT X.K H' a vs:=K8 (sa.trans sb) h2
  refine⟨fun hi=>⟨vs,q',by rw[h3.length];exact hi⟩,fun d hd=>?_⟩
  obtain⟨v,w1,w2⟩:=h3.get hd
  refine⟨⟨vs,v,q',w1⟩,fun x H'' hy=>?_⟩
  obtain⟨rfl,hy⟩:=hy
  have:=hy vs q'
  rw[w1]at this;cases this
  exact⟨Hf',Grow.refl sb,w2.mono sa⟩
 | _=>cases e2
noncomputable def aa4(lo hi:Int):List D:=(List.range (hi - lo).toNat).map fun(i:Nat)=>PyData.int (lo+i)
theorem aG9{K:PySem.W.Frag}{lo hi:Int}{Hf1:Hp}:aM6 K (Itr lo (hi - lo).toNat) (aa4 lo hi) Hf1:=by
 intro i H Hf sa sb
 have hl:(aa4 lo hi).length=(hi - lo).toNat:=by simp[aa4]
 refine⟨fun h=>by rw[hl]at h;exact h,fun d hd=>?_⟩
 have hi':i < (hi - lo).toNat:=by
  have:=(List.getElem?_eq_some_iff.mp hd).1
  rw[hl]at this;exact this
 refine⟨hi',fun x H' hy=>?_⟩
 obtain⟨e1,e2⟩:=hy
 subst e1 e2
 have:d=.int (lo+i):=by
  have:(aa4 lo hi)[i]? = some (.int (lo+i)):=by simp[aa4,hi']
  rw[hd]at this;cases this;rfl
 subst this
 exact⟨Hf,Grow.refl sb,rfl⟩
noncomputable def O1(f:DE):Rho->Option (List D):=fun ρ=>(f ρ).bind fun d=>match d with
 | .int j=>if -(2 ^ 62)<=j/\j < 2 ^ 62 then some (aa4 0 j) else none
 | _=>none
theorem bl7{tg e:Expr}{f:DE}{p pos:Pos}(hg:Gl X "range") (hm:X.mg "range" = none) (h:JE X e f) (hs:starEach [e] X.env=[(false,eval e X.env)]:=by rfl):JI X tg (.Call (.Name "range" p) [e] [] pos) (O1 f):=fun ρ ds q=>by
 obtain⟨d,e1,e2⟩:=xbm q
 split at e2
 ·split at e2
  ·rename_i j c
   cases e2
   refine aX6 (bk1 hg hm (P4 (h ρ _ e1) T7 hs) hs) fun σ H R ⟨H0,Hf,s,sl,k⟩=>⟨H0,Hf,s,sl,fun v H1 Hf1 g1 r=>⟨j,by rw[show v=_ from r],c.1,c.2,k _ H1 Hf1 g1 ?_⟩⟩
   have:=aG9 (K:=X.K) (lo:=0) (hi:=j) (Hf1:=Hf1)
   rw[Int.sub_zero]at this
   exact this
  ·cases e2
 ·cases e2
theorem Grow.nofr{H Hf H' Hf':Hp}{a:Addr}{o:HO}(g:Grow H Hf H' Hf') (h:H a=some o) (n:Hf a=none):Hf' a=none:=by
 cases q:Hf' a with
 | none=>rfl
 | some u =>
  rcases g.new a (by rw[q];simp) with z|z
  ·exact absurd n z
  ·rw[h]at z;cases z
noncomputable def i8(n:Nat) (caps:List Nat) (ρ:Rho):Rho:=List.replicate n none++caps.map fun j=>match ρ[j]? with
 | some (some (.val d))=>some (.val d)
 | _=>none
noncomputable def R4(g:D->Rho->Option Rho) (c:Rho->Option Bool) (e:DE):List D->Rho->Option (List D)
 | [],_=>some []
 | d::ds,ρ=>(g d ρ).bind fun ρ1=>(c ρ1).bind fun b=>if b then(e ρ1).bind fun y=>(R4 g c e ds ρ1).map fun r=>y::r else R4 g c e ds ρ1
noncomputable def G8(n:Nat) (caps:List Nat) (src:Rho->Option (List D)) (g:D->Rho->Option Rho) (c:Rho->Option Bool) (e:DE):Rho->Option (List D):=fun ρ=>(src ρ).bind fun ds=>if ds.length<=16777216 then R4 g c e ds (i8 n caps ρ) else none
noncomputable def aD1(K:PySem.W.Frag) (c:Rho->Option Bool):TT:=fun σ H Q=>∃ρ b,c ρ=some b/\∃H0 Hf,L0 Hf H/\Slots K H0 ρ σ H Hf/\∀H' Hf',Grow H Hf H' Hf'->Q b H'
noncomputable def bd3(K:PySem.W.Frag) (e:DE):TE:=fun σ H Q=>∃ρ d,e ρ=some d/\tJ K ρ (fun _ v _ Hf=>Rep K Hf d v) σ H Q
noncomputable def JTs(X:Cx) (ifs:List Expr) (c:Rho->Option Bool):Prop:=PTs X ifs (aD1 X.K c)
noncomputable def K3:Rho->Option Bool:=fun _=>some true
theorem bN9:JTs X [] K3:=fun pins s σ H Q I ⟨ρ,b,e,H0,Hf,ss,sl,k⟩=>by
 cases e
 exact bK0 pins s σ H Q I (k H Hf (Grow.refl ss))
theorem bN8{e:Expr}{c:Rho->Option Bool}(h:JT X e c):JTs X [e] c:=fun pins s σ H Q I ⟨ρ,b,e,H0,Hf,ss,sl,k⟩=>bJ9 (h ρ b e) pins s σ H Q I ⟨H0,Hf,ss,sl,k⟩
theorem bb2{K:PySem.W.Frag}{n:Nat}{caps:List Nat}{H0 H H1 H' Hf:Hp}{ρ:Rho}{σ:L2.St}(sl:Slots K H0 ρ σ H Hf):Slots K H1 (i8 n caps ρ) (aC3 n caps σ) H' Hf:=by
 have noown:∀(i:Nat) (ds:List D),(i8 n caps ρ)[i]?≠some (some (.own ds)):=fun i ds h=>by
  unfold i8 at h
  rcases Nat.lt_or_ge i n with q|q
  ·rw[List.getElem?_append_left (by simpa using q),List.getElem?_replicate,if_pos q]at h;cases h
  ·rw[List.getElem?_append_right (by simpa using q),List.getElem?_map]at h
   cases hj:caps[i - (List.replicate n (none:Option B)).length]? with
   | none=>rw[hj]at h;cases h
   | some j =>
    rw[hj]at h
    simp only[Option.map_some,Option.some.injEq]at h
    split at h<;>cases h
 refine⟨by simp[i8,aC3],fun i b e=>?_,fun i j ds es a h1=>(noown i ds h1).elim⟩
 unfold i8 at e
 unfold aC3
 rcases Nat.lt_or_ge i n with q|q
 ·rw[List.getElem?_append_left (by simpa using q),List.getElem?_replicate,if_pos q]at e;cases e
 ·rw[List.getElem?_append_right (by simpa using q),List.getElem?_map]at e
  rw[List.getElem?_append_right (by simpa using q),List.getElem?_map]
  simp only[List.length_replicate]at e ⊢
  cases hj:caps[i - n]? with
  | none=>rw[hj]at e;cases e
  | some j =>
   rw[hj]at e
   simp only[Option.map_some,Option.some.injEq]at e ⊢
   split at e
   ·rename_i d hd
    cases e
    obtain⟨v,h1,h2⟩:=sl.is j _ hd
    exact⟨v,by rw[h1];rfl,h2⟩
   ·cases e
theorem aj4{K:PySem.W.Frag}{n:Nat}{caps:List Nat}{ρ:Rho}{src:Rho->Option (List D)}{g:D->Rho->Option Rho}{c:Rho->Option Bool}{e:DE}{out:List D}(h:G8 n caps src g c e ρ=some out) :
  ∃ds,src ρ=some ds/\∀σ H Q,tJ K ρ (fun H v H' Hf'=>∃a vs,v=.ref a/\H a=none/\H' a=some (.lst vs)/\Hf' a=none/\Reps K Hf' out vs) σ H Q->bs6 n caps (tiJ K ρ ds) (tgJ K g) (aD1 K c) (bd3 K e) σ H Q:=by
 obtain⟨ds,e1,e2⟩:=xbm h
 split at e2
 ·rename_i hz
  refine⟨ds,e1,fun σ H Q ⟨H0,Hf,s,sl,k⟩=>⟨H0,Hf,s,sl,fun J H1 Hf1 g1 Y Dd hD=>?_⟩⟩
  refine⟨fun i m ys σ' H'=>m=ds.length - i/\i<=ds.length/\∃Hf' ρ' o1 o2,Grow H1 Hf1 H' Hf'/\H' Dd=some (.lst ys)/\Hf' Dd=none/\Slots K (upd H1 Dd (.lst [])) ρ' σ' H' Hf'/\Reps K Hf' o1 ys/\o1.length<=i/\R4 g c e (ds.drop i) ρ'=some o2/\o1++o2=out,
   ⟨ds.length,by simp,Nat.zero_le _,Hf1,i8 n caps ρ,[],out,Grow.made g1.sub hD,J9,g1.sub.free hD,bb2 (sl.grow g1),rfl,Nat.le_refl _,by simpa using e2,rfl⟩,?_⟩
  rintro i m ys σ' H' ⟨rfl,hi,Hf',ρ',o1,o2,gr,hd1,hd2,sl',rp,ho,ec,eo⟩
  obtain⟨Ys,Yg⟩:=Y i H' Hf' gr.ext gr.sub
  rcases Nat.lt_or_ge i ds.length with hlt|hge
  ·right
   obtain⟨go,yl⟩:=Yg ds[i] (by simp[hlt])
   refine⟨go,fun x H2 hy=>?_⟩
   obtain⟨Hf2,g2,r2⟩:=yl x H2 hy
   rw[List.drop_eq_getElem_cons hlt]at ec
   obtain⟨ρ1,c1,ec⟩:=xbm ec
   obtain⟨b,c2,ec⟩:=xbm ec
   refine⟨ds[i],ρ',ρ1,_,Hf2,c1,g2.sub,sl'.grow g2,r2,fun σ3 sl3=>⟨ρ1,b,c2,_,Hf2,g2.sub,sl3,fun H4 Hf4 g4=>?_⟩⟩
   have gr4:=(gr.trans g2).trans g4
   have hd4:H4 Dd=some (.lst ys):=g4.big _ _ (g2.big _ _ hd1)
   have hf4:Hf4 Dd=none:=(g2.trans g4).nofr hd1 hd2
   have rp4:=rp.mono (g2.trans g4).ext
   cases b with
   | false =>
    rw[if_neg Bool.false_ne_true]at ec
    refine aB6 ?_
    exact⟨ds.length - (i+1),by omega,rfl,hlt,Hf4,ρ1,o1,o2,gr4,hd4,hf4,sl3.grow g4,rp4,by omega,ec,eo⟩
   | true =>
    rw[if_pos rfl]at ec
    refine aB5 ?_
    obtain⟨y,c3,ec⟩:=xbm ec
    obtain⟨o3,c4,rfl⟩:=xmo ec
    refine⟨ρ1,y,c3,_,Hf4,g4.sub,sl3.grow g4,fun v H5 Hf5 g5 r5=>⟨g5.big _ _ hd4,?_,?_⟩⟩
    ·rw[rp.length,sizeLine_eq];omega
    ·have hf5:Hf5 Dd=none:=g5.nofr hd4 hf4
     have gr5:=gr4.trans g5
     refine⟨ds.length - (i+1),by omega,rfl,hlt,Hf5,ρ1,o1++[y],o3,⟨fun b u q=>?_,fun b u q=>?_,gr5.ext,gr5.new⟩,J9,hf5,?_,(rp4.mono g5.ext).append ⟨v,[],rfl,r5,rfl⟩,by simp;omega,c4,by simp[← eo]⟩
     ·rw[J0 (K2 q hD)];exact gr5.big b u q
     ·rw[J0 (K2 q hf5)];exact gr5.sub b u q
     ·have sl5:=(sl3.grow g4).grow g5
      refine⟨sl5.len,fun j bb q=>?_,sl5.apart⟩
      obtain⟨w,q1,q2⟩:=sl5.is j bb q
      refine⟨w,q1,?_⟩
      cases bb with
      | val d=>exact q2
      | exc C=>exact q2
      | own dd =>
       obtain⟨a,vs,z1,z2,z3,z4,z5⟩:=q2
       have ne:a≠Dd:=fun z=>by rw[z,J9]at z4;cases z4
       exact⟨a,vs,z1,by rw[J0 ne];exact z2,z3,z4,z5⟩
  ·left
   have:i=ds.length:=by omega
   subst this
   rw[List.drop_length]at ec
   cases ec
   rw[List.append_nil]at eo
   subst eo
   exact⟨Ys (Nat.le_refl _),k _ H' Hf' (g1.trans gr) ⟨Dd,ys,rfl,g1.big.free hD,hd1,hd2,rp⟩⟩
 ·cases e2
end
section
variable {X:Cx}
noncomputable def av0(N N':List Str) (n:Nat) (caps:List Nat) (sc scope:Scope):Bool :=
 (match scope.kind with | .function=>true|_=>false) &&
 (scope.names.all fun y=>(match y.2 with | .cell=>false | .local=>scope.names.lookup y.1==some .local | .free=>sc.names.lookup y.1==some .cell || sc.names.lookup y.1==some .free|_=>true)) &&
 (N'.length==n+caps.length) &&
 ((List.range caps.length).all fun i=>match caps[i]? with
  | some j=>(match N[j]? with|some x=>N'[n+i]? == some x&&scope.names.lookup x==some .free|none=>false)
  | none=>true)
theorem bo9{N N':List Str}{n:Nat}{caps:List Nat}{sc scope:Scope}(h:av0 N N' n caps sc scope=true) (hN:X.N=N) (hS:X.env.scope=sc):CompSc X N' n caps scope:=by
 subst hN hS
 unfold av0 at h
 simp only[Bool.and_eq_true,List.all_eq_true]at h
 obtain⟨⟨⟨h1,h2⟩,h3⟩,h4⟩:=h
 refine⟨?_,fun y hy e=>?_,fun y hy e=>?_,fun y hy e=>?_,by simpa using h3,fun i j e=>?_⟩
 ·cases q:scope.kind<;>rw[q]at h1<;>first|rfl|cases h1
 ·have:=h2 y hy
  rw[e]at this;cases this
 ·have:=h2 y hy
  rw[e]at this;simpa using this
 ·have:=h2 y hy
  rw[e]at this;simpa using this
 ·have hi:i < caps.length:=(List.getElem?_eq_some_iff.mp e).1
  have:=h4 i (by simpa using hi)
  rw[e]at this
  simp only at this
  cases q:X.N[j]? with
  | none=>rw[q]at this;cases this
  | some x =>
   rw[q]at this
   simp only[Bool.and_eq_true]at this
   exact⟨x,rfl,by simpa using this.1,by simpa using this.2⟩
theorem bh5{N':List Str}{n:Nat}{caps:List Nat}{scope:Scope}{pins:List (Addr×Obj)}{σ:L2.St}{H:Hp}{s:Shared}(S:CompSc X N' n caps scope) (I:Inv X pins σ H s):closureFor scope X.env=pure (T9 X.env.cells scope.names []) :=
 bS1 fun y hy e=>I.ok.has y.1 (S.free y hy e)
theorem bP3{N':List Str}{n:Nat}{caps:List Nat}{scope:Scope}{elt tgt iter:Expr}{ifs:List Expr}{pos:Pos}{src:Rho->Option (List D)}{g:D->Rho->Option Rho}{c:Rho->Option Bool}{e:DE}(S:CompSc X N' n caps scope) (hx:∀e s,X.xe e s->False)
  (hi:JI X tgt iter src) (hg:∀C s0 H0 ex,JG (M9 X N' scope C s0 H0 ex) tgt g) (ht:∀C s0 H0 ex,JTs (M9 X N' scope C s0 H0 ex) ifs c) (he:∀C s0 H0 ex,JE (M9 X N' scope C s0 H0 ex) elt e)
  (hc:X.calm=true:=by rfl) (hs:∀x,foldedSetIterable iter X.env x=pure x:=by intro _;rfl):JN X (.ListComp elt [⟨tgt,iter,ifs,0⟩] scope pos) (G8 n caps src g c e):=by
 intro ρ out h
 obtain⟨ds,e1,k⟩:=aj4 (K:=X.K) h
 intro pins s σ H Q I t
 rw[eval_ListComp]
 refine wpAny_comprehension_free (use:=none) rfl hs (bh5 S I) S.kind S.loc (aT5 (RR:=fun acc C=>compPost (model X.prog X.w) X.A X.xe none (EP X pins σ Q) acc C) S hx hc (hi ρ ds e1) (g:=tgJ X.K g) (tc:=aD1 X.K c) (te:=bd3 X.K e) hg ht (fun C s0 H0 ex pins s σ H Q I ⟨ρ,d,e,t⟩=>he C s0 H0 ex ρ d e pins s σ H Q I t) I (k σ H Q t) ?_)
 intro Dd C r s' hr ⟨m,hn,kk⟩ _
 subst hr
 exact⟨m,hn,fun h' sb=>let⟨H',I',q⟩:=kk h' sb;⟨.ref Dd,H',I',rfl,q⟩⟩
theorem aw7{N':List Str}{n:Nat}{caps:List Nat}{scope:Scope}{elt tgt iter:Expr}{ifs:List Expr}{pos pos' spos:Pos}{i:Nat}{x:Str}{wi:TI}{g:TG}{tc:TT}{te:TE}(S:CompSc X N' n caps scope) (hx:∀e s,X.xe e s->False) (hc:X.calm=true)
  (hN:X.N.Nodup) (hi:X.N[i]? = some x) (hl:X.env.scope.names.lookup x=some .local) (hsrc:PI X tgt iter wi) (hg:∀C s0 H0 ex,PG (M9 X N' scope C s0 H0 ex) tgt g) (ht:∀C s0 H0 ex,PTs (M9 X N' scope C s0 H0 ex) ifs tc) (he:∀C s0 H0 ex,PE (M9 X N' scope C s0 H0 ex) elt te)
  (hsw:swapsWith (.ListComp elt [⟨tgt,iter,ifs,0⟩] scope pos) (some (.Name x pos')) spos.line X.env=pure true) (hs:∀x,foldedSetIterable iter X.env x=pure x) :
  PS X (.Assign [.Name x pos'] (.ListComp elt [⟨tgt,iter,ifs,0⟩] scope pos) spos) (fun En σ H=>bs6 n caps wi g tc te σ H fun v H'=>En.nx (σ.set i (some v)) H'):=by
 intro pins s σ H En I h
 rw[exec_Assign_Name_used _ _ _ _ hsw]
 refine wpAny_bind (wpAny_standAt (wpAny_bind ?_))
 show wpAny _ X.A (do let _ ← comprehension (.ListComp elt [⟨tgt,iter,ifs,0⟩] scope pos) scope X.env _ (newList []) false (eval iter X.env) (some (assign (.Name x pos') X.env))) _ _ s
 refine wpAny_bind (wpAny_mono (wpAny_comprehension_free (use:=some (assign (.Name x pos') X.env)) (Q:=fun _ s'=>SP X pins En .next s') rfl hs (bh5 S I) S.kind S.loc
  (aT5 (RR:=fun acc C=>compPost (model X.prog X.w) X.A X.xe (some (assign (.Name x pos') X.env)) (fun _ s'=>SP X pins En .next s') acc C) S hx hc hsrc hg ht he I h ?_)) (fun _ s' hq=>wpAny_pure (wpAny_pure hq)) fun _ _ z=>z)
 intro Dd C r s' hr _ ⟨s2,fp,σ',H2,H',eC,I2,f2,I',q⟩
 subst hr eC
 have IX:Inv X pins σ H' s':=aF2 (h':=s'.heap) I2 f2 I' (Heap.SameBut.refl ..)
 obtain⟨mC,hnC,_⟩:=I'.loc
 have hCL:s2.heap.objs.size≠X.env.locals:=fun z=>by
  have:=I2.lt
  rw[← z]at this
  exact Nat.lt_irrefl _ this
 show wpAny _ X.A (assign (.Name x pos') X.env (.ref Dd)) _ _ _
 refine wpAny_assign_Name (aD3 (v:=.ref Dd) IX hN hi (.inl hl) rfl (fun s3 I3 ⟨a,sb,ha⟩=>?_) (.inr hl))
 have hCa:s2.heap.objs.size≠a:=fun z=>by
  rcases ha with ha|ha
  ·exact hCL (z.trans ha)
  ·obtain⟨v,q'⟩:=I2.cell x a ha
   have:=q'.lt
   rw[← z]at this
   exact Nat.lt_irrefl _ this
 refine⟨mC,hnC.sameBut sb hCa,fun h' sb'=>?_⟩
 refine⟨_,H',I3.turned (t':=s3.toks) (it:=s2.heap.objs.size) (fun b o hb e=>sb'.extBut b o hb e) I'.free hCL (.inr I2.sz) (fun y c e z=>?_) (fun p hp z=>?_),q⟩
 ·obtain⟨v,q'⟩:=I2.cell y c e
  have:=q'.lt
  rw[z]at this
  exact Nat.lt_irrefl _ this
 ·have:=Heap.lt_size (I2.pin p hp).1
  rw[z]at this
  exact Nat.lt_irrefl _ this
noncomputable def V3(i:Nat) (f:Rho->Option (List D)):DS:=fun ρ=>(f ρ).map fun ds=>.nx (ρ.set i (some (.val (.list ds))))
theorem bO6(i:Nat) {N':List Str}{n:Nat}{caps:List Nat}{scope:Scope}{elt tgt iter:Expr}{ifs:List Expr}{pos pos' spos:Pos}{x:Str}{src:Rho->Option (List D)}{g:D->Rho->Option Rho}{c:Rho->Option Bool}{e:DE}(hN:X.N.Nodup) (S:CompSc X N' n caps scope) (hx:∀e s,X.xe e s->False)
  (hi:JI X tgt iter src) (hg:∀C s0 H0 ex,JG (M9 X N' scope C s0 H0 ex) tgt g) (ht:∀C s0 H0 ex,JTs (M9 X N' scope C s0 H0 ex) ifs c) (he:∀C s0 H0 ex,JE (M9 X N' scope C s0 H0 ex) elt e)
  (hi2:X.N[i]? = some x:=by rfl) (hl:X.env.scope.names.lookup x=some .local:=by rfl) (hsw:swapsWith (.ListComp elt [⟨tgt,iter,ifs,0⟩] scope pos) (some (.Name x pos')) spos.line X.env=pure true:=by rfl)
  (hc:X.calm=true:=by rfl) (hs:∀x,foldedSetIterable iter X.env x=pure x:=by intro _;rfl):JS X (.Assign [.Name x pos'] (.ListComp elt [⟨tgt,iter,ifs,0⟩] scope pos) spos) (V3 i (G8 n caps src g c e)):=fun ρ fl q H0 Hf0=>by
 obtain⟨out,e1,e2⟩:=xmo q
 subst e2
 obtain⟨ds,e3,k⟩:=aj4 (K:=X.K) e1
 refine S2 (aw7 S hx hc hN hi2 hl (hi ρ ds e3) (g:=tgJ X.K g) (tc:=aD1 X.K c) (te:=bd3 X.K e) hg ht (fun C s0 H0 ex pins s σ H Q I ⟨ρ,d,e,t⟩=>he C s0 H0 ex ρ d e pins s σ H Q I t) hsw hs) fun En σ H ⟨Hf,a,ee⟩=>k σ H _ ⟨H0,Hf,a.gr.sub,a.sl,fun v H' Hf' gg ⟨p,vs,z1,z2,z3,z4,z5⟩=>?_⟩
 subst z1
 have g2:=gg.freeze z3 z4 z2
 exact ee _ H' _ ⟨a.gr.trans g2,(a.sl.grow g2).set ⟨p,vs,rfl,SqL.of J9,z5.mono (L5 z4)⟩⟩ g2.ext
theorem ce3{i j:Nat}{x y:Str}{a b:Expr}{f:Rho->Option (List D)}{px py pt:Pos}{kt k2 pt2} {pos:Pos}(hN:X.N.Nodup) (ha:JA X [a,b] f) (hw:swappedStores [.Tuple [.Name x px,.Name y py] kt pt] (.Tuple [a,b] k2 pt2) X.env=pure (some [x,y])) (hij:i≠j)
  (hi:X.N[i]? = some x:=by rfl) (hj:X.N[j]? = some y:=by rfl) (hx:X.env.scope.names.lookup x=some .local:=by rfl) (hy:X.env.scope.names.lookup y=some .local:=by rfl) (hc:X.calm=true:=by rfl)
  (hs:swapsWithSole [.Tuple [.Name x px,.Name y py] kt pt] (.Tuple [a,b] k2 pt2) pos.line X.env=pure false:=by rfl):JS X (.Assign [.Tuple [.Name x px,.Name y py] kt pt] (.Tuple [a,b] k2 pt2) pos) (bt5 i j f):=fun ρ fl q H0 Hf0=>by
 obtain⟨ds,e1,e2⟩:=xbm q
 split at e2
 ·cases e2
  refine S2 (bY9 hc hN hi hj hij hx hy (fun pos pins s σ H Q I t=>ha.run ρ _ e1 pos pins s σ H Q I t) hw hs) fun En σ H ⟨Hf,at',e⟩=>⟨H0,Hf,at'.gr.sub,at'.sl,fun vs H' Hf' gg rp=>?_⟩
  obtain⟨v,r,rfl,r1,w,r',rfl,r2,r3⟩:=rp
  cases r3
  exact⟨v,w,rfl,e _ H' Hf' ⟨at'.gr.trans gg,((at'.sl.grow gg).set r1).set r2⟩ gg.ext⟩
 ·cases e2
noncomputable def ac5(f:DE) (g:D->Rho->Option Rho):DS:=fun ρ=>(f ρ).bind fun d=>(g d ρ).map Fl.nx
theorem by5{tg e:Expr}{f:DE}{g:D->Rho->Option Rho}{pos:Pos}(he:JE X e f) (hg:JG X tg g) (hs:swapsWithSole [tg] e pos.line X.env=pure false:=by rfl) (hw:swappedStores [tg] e X.env=pure none:=by rfl)
  (h1:(assignEach [tg] X.env).map (·.2)=[assign tg X.env]:=by rfl):JS X (.Assign [tg] e pos) (ac5 f g):=fun ρ fl q H0 Hf0=>by
 obtain⟨d,e1,e2⟩:=xbm q
 obtain⟨ρ',e3,e4⟩:=xmo e2
 subst e4
 exact S2 (bZ0 (he ρ d e1) hg hs hw h1) fun En σ H ⟨Hf,a,ee⟩=>⟨H0,Hf,a.gr.sub,a.sl,fun v H' Hf' gg r=>⟨d,ρ,ρ',H0,Hf',e3,gg.sub,a.sl.grow gg,r,fun σ' sl'=>ee σ' H' Hf' ⟨a.gr.trans gg,sl'⟩ gg.ext⟩⟩
noncomputable def U1(i:Nat) (f:Rho->Option (List D)):DS:=fun ρ=>(f ρ).map fun ds=>.nx (ρ.set i (some (.own ds)))
theorem Slots.setOwn{K:PySem.W.Frag}{H0 H H' Hf Hf':Hp}{ρ:Rho}{σ:L2.St}{i:Nat}{ds:List D}{a:Addr}{vs:List V}(s:Slots K H0 ρ σ H Hf) (g:Grow H Hf H' Hf') (n0:H0 a=none) (n:H a=none) (h:H' a=some (.lst vs)) (nf:Hf' a=none) (r:Reps K Hf' ds vs) :
  Slots K H0 (ρ.set i (some (.own ds))) (σ.set i (some (.ref a))) H' Hf':=by
 have s':=s.grow g
 have old:∀(j:Nat) (es:List D),i≠j->ρ[j]? = some (some (.own es))->σ[j]?≠some (some (.ref a)):=fun j es hj e z=>by
  obtain⟨v,h1,b,us,e1,h2,_⟩:=s.is j _ e
  rw[z]at h1;cases h1;cases e1
  rw[n]at h2;cases h2
 refine⟨by simp[s.len],fun j b e=>?_,fun j k ds1 es b h1 h2 h3 h4=>?_⟩
 ·by_cases q:i=j
  ·subst q
   have hi:i < ρ.length:=by simpa using (List.getElem?_eq_some_iff.mp e).1
   have hi':i < σ.length:=by rw[← s.len];exact hi
   rw[List.getElem?_set_self hi]at e
   cases e
   exact⟨_,List.getElem?_set_self hi',a,vs,rfl,h,nf,n0,r⟩
  ·rw[List.getElem?_set_ne q]at e
   obtain⟨u,h1,h2⟩:=s'.is j b e
   exact⟨u,by rw[List.getElem?_set_ne q];exact h1,h2⟩
 ·by_cases qj:i=j
  ·by_cases qk:i=k
   ·rw[← qj,← qk]
   ·subst qj
    have hi:i < ρ.length:=by simpa using (List.getElem?_eq_some_iff.mp h1).1
    rw[List.getElem?_set_self (by rw[← s.len];exact hi)]at h3
    rw[List.getElem?_set_ne qk]at h2 h4
    cases h3
    exact(old k es qk h2 h4).elim
  ·rw[List.getElem?_set_ne qj]at h1 h3
   by_cases qk:i=k
   ·subst qk
    have hi:i < ρ.length:=by simpa using (List.getElem?_eq_some_iff.mp h2).1
    rw[List.getElem?_set_self (by rw[← s.len];exact hi)]at h4
    cases h4
    exact(old j ds1 qj h1 h3).elim
   ·rw[List.getElem?_set_ne qk]at h2 h4
    exact s.apart j k ds1 es b h1 h2 h3 h4
theorem ce4(i:Nat) {x:Str}{e:Expr}{f:Rho->Option (List D)}{pos pos':Pos}(hN:X.N.Nodup) (h:JN X e f) (hi:X.N[i]? = some x:=by rfl) (hx:Loc X.env.scope x:=by first|exact Or.inl rfl|exact Or.inr rfl)
  (hs:swapsWith e (some (.Name x pos')) pos.line X.env=pure false:=by rfl) (hf:X.fn x=true\/X.env.scope.names.lookup x=some .local:=by first|exact .inl rfl|exact .inr rfl):JS X (.Assign [.Name x pos'] e pos) (U1 i f):=fun ρ fl q H0 Hf0=>by
 obtain⟨ds,e1,e2⟩:=xmo q
 subst e2
 refine S2 (bu5 hN hi hx (h ρ ds e1) hs hf) fun En σ H ⟨Hf,a,e⟩=>⟨H0,Hf,a.gr.sub,a.sl,fun v H' Hf' g ⟨p,vs,z1,z2,z3,z4,z5⟩=>?_⟩
 subst z1
 exact e _ H' Hf' ⟨a.gr.trans g,a.sl.setOwn g (a.gr.big.free z2) z2 z3 z4 z5⟩ g.ext
noncomputable def O9(i:Nat) (f:DE):DS:=fun ρ=>match ρ[i]? with
 | some (some (.own ds))=>if ds.length < 16777216 then(f ρ).map fun d=>.nx (ρ.set i (some (.own (ds++[d])))) else none
 | _=>none
theorem ce9(i:Nat) {x:Str}{e:Expr}{f:DE}{p apos cpos pos:Pos}(h:JE X e f) (hN:X.N[i]? = some x:=by rfl) (hv:Vis X.env.scope x:=by first|exact Or.inl rfl|exact Or.inr (Or.inl rfl)|exact Or.inr (Or.inr rfl)) (hd:(x==("__debug__" : Str))=false:=by decide)
  (hcd:(x==("__classdict__" : Str))=false:=by decide) (hbase:attributeBase (.Name x p) "append" X.env (eval (.Name x p) X.env)=eval (.Name x p) X.env:=by rfl)
  (hfew:((backTo cpos (starEach [e] X.env)).all (fun x=>!x.1)&&(backToKw cpos (keywordEach [] X.env)).all (fun x=>x.1.isSome)
   && decide (([e]:List Expr).length+([]:List Keyword).length+(if([]:List Keyword).isEmpty then 0 else 1) < 30))=true:=by rfl)
  (hline:(apos.endLine==cpos.line)=true:=by rfl) (hs:starEach [e] X.env=[(false,eval e X.env)]:=by rfl) (hsw:swapsWith (.Call (.Attribute (.Name x p) "append" apos) [e] [] cpos) none pos.line X.env=pure false:=by rfl) :
  JS X (.Expr (.Call (.Attribute (.Name x p) "append" apos) [e] [] cpos) pos) (O9 i f):=fun ρ fl q H0 Hf0=>by
 unfold O9 at q
 split at q
 ·rename_i ds eo
  split at q
  ·rename_i hz
   obtain⟨d,e1,e2⟩:=xmo q
   subst e2
   refine S2 (aJ0 (be2 PySem.F.plainAttrs_list PySem.F.slot_list_append PySem.F.type_list_append aE0 (ae2 hN hv hd hcd) (P4 (h ρ d e1) T7 hs) hbase hfew hline hs) hsw) fun En σ H ⟨Hf,a,ee⟩=>?_
   obtain⟨v,h1,b,vs,rfl,h2,h3,h4,h5⟩:=a.sl.is i _ eo
   refine⟨_,h1,.inl ⟨rfl,vs,SqL.of h2⟩,H0,Hf,a.gr.sub,a.sl,fun w H' Hf' gg r=>?_⟩
   have hb:H' b=some (.lst vs):=gg.big _ _ h2
   have hfb:Hf' b=none:=gg.nofr h2 h3
   have g2:=a.gr.trans gg
   have sl2:=a.sl.grow gg
   refine⟨b,vs,w,rfl,rfl,hb,by rw[h5.length,sizeLine_eq];exact hz,ee _ _ Hf' ⟨⟨fun c u z=>?_,fun c u z=>?_,g2.ext,g2.new⟩,?_⟩ gg.ext⟩
   ·rw[J0 (K2 z h4)];exact g2.big c u z
   ·rw[J0 (K2 z hfb)];exact g2.sub c u z
   ·refine⟨by simpa using sl2.len,fun j bb z=>?_,fun j k ds1 es c q1 q2 q3 q4=>?_⟩
    ·by_cases qj:i=j
     ·subst qj
      have hi:i < ρ.length:=(List.getElem?_eq_some_iff.mp eo).1
      rw[List.getElem?_set_self hi]at z
      cases z
      exact⟨_,h1,b,vs++[w],rfl,J9,hfb,h4,(h5.mono gg.ext).append ⟨w,[],rfl,r,rfl⟩⟩
     ·rw[List.getElem?_set_ne qj]at z
      obtain⟨u,z1,z2⟩:=sl2.is j bb z
      refine⟨u,z1,?_⟩
      cases bb with
      | val d=>exact z2
      | exc C=>exact z2
      | own dd =>
       obtain⟨a',vs',y1,y2,y3,y4,y5⟩:=z2
       have ne:a'≠b:=fun zz=>by
        subst zz y1
        exact qj (a.sl.apart i j ds dd a' eo z h1 z1)
       exact⟨a',vs',y1,by rw[J0 ne];exact y2,y3,y4,y5⟩
    ·have q1':∃dd,ρ[j]? = some (some (.own dd)):=by
      by_cases qj:i=j
      ·subst qj;exact⟨ds,eo⟩
      ·rw[List.getElem?_set_ne qj]at q1;exact⟨_,q1⟩
     have q2':∃dd,ρ[k]? = some (some (.own dd)):=by
      by_cases qj:i=k
      ·subst qj;exact⟨ds,eo⟩
      ·rw[List.getElem?_set_ne qj]at q2;exact⟨_,q2⟩
     obtain⟨d1,q1'⟩:=q1'
     obtain⟨d2,q2'⟩:=q2'
     exact a.sl.apart j k d1 d2 c q1' q2' q3 q4
  ·cases q
 ·cases q
noncomputable def frz(i:Nat) (ρ:Rho):Rho:=match ρ[i]? with
 | some (some (.own ds))=>ρ.set i (some (.val (.list ds)))
 | _=>ρ
theorem ci1{K:PySem.W.Frag}{H0 Hf0 H Hf:Hp}{ρ:Rho}{σ:L2.St}(i:Nat) (a:At K H0 Hf0 ρ σ H Hf):∃Hf',L0 Hf Hf'/\At K H0 Hf0 (frz i ρ) σ H Hf':=by
 unfold frz
 split
 ·rename_i ds eo
  obtain⟨v,h1,b,vs,rfl,h2,h3,h4,h5⟩:=a.sl.is i _ eo
  have g:Grow H0 Hf0 H (upd Hf b (.lst vs)):=a.gr.freeze h2 h3 h4
  refine⟨upd Hf b (.lst vs),L5 h3,g,⟨by simpa using a.sl.len,fun j bb z=>?_,fun j k ds1 es c q1 q2 q3 q4=>?_⟩⟩
  ·have hi:i < ρ.length:=(List.getElem?_eq_some_iff.mp eo).1
   by_cases qj:i=j
   ·subst qj
    rw[List.getElem?_set_self hi]at z
    cases z
    exact⟨_,h1,b,vs,rfl,SqL.of J9,h5.mono (L5 h3)⟩
   ·rw[List.getElem?_set_ne qj]at z
    obtain⟨u,z1,z2⟩:=a.sl.is j bb z
    refine⟨u,z1,?_⟩
    cases bb with
    | val d=>exact Rep.mono (L5 h3) z2
    | exc C =>
     obtain⟨a',o',C',y1,y2,y3⟩:=z2
     exact⟨a',o',C',y1,L5 h3 _ _ y2,y3⟩
    | own dd =>
     obtain⟨a',vs',y1,y2,y3,y4,y5⟩:=z2
     have ne:a'≠b:=fun zz=>by
      subst zz y1
      exact qj (a.sl.apart i j ds dd a' eo z h1 z1)
     exact⟨a',vs',y1,y2,by rw[J0 ne];exact y3,y4,y5.mono (L5 h3)⟩
  ·have hi:i < ρ.length:=(List.getElem?_eq_some_iff.mp eo).1
   have qj:i≠j:=fun z=>by subst z;rw[List.getElem?_set_self hi]at q1;cases q1
   have qk:i≠k:=fun z=>by subst z;rw[List.getElem?_set_self hi]at q2;cases q2
   rw[List.getElem?_set_ne qj]at q1
   rw[List.getElem?_set_ne qk]at q2
   exact a.sl.apart j k ds1 es c q1 q2 q3 q4
 ·exact⟨Hf,L0.refl _,a⟩
noncomputable def ag9(i:Nat) (f:DS):DS:=fun ρ=>f (frz i ρ)
theorem ce5(i:Nat) {st:Stmt}{f:DS}(h:JS X st f):JS X st (ag9 i f):=fun ρ fl q H0 Hf0=>S2 (h (frz i ρ) fl q H0 Hf0) fun En σ H ⟨Hf,a,e⟩=>by
 obtain⟨Hf',s,a'⟩:=ci1 i a
 exact⟨Hf',a',Fl.ends_mono e s⟩
noncomputable def cl7(K:PySem.W.Frag) (H0 Hf0:Hp) (f:DS):TS:=fun En σ H=>∃ρ fl,f ρ=some fl/\tJS K H0 Hf0 ρ fl En σ H
theorem be1{sts:List Stmt}{f:DS}{H0 Hf0:Hp}(h:JSs X sts f):PSs X sts (cl7 X.K H0 Hf0 f):=fun pins s σ H En I ⟨ρ,fl,e,t⟩=>h ρ fl e H0 Hf0 pins s σ H En I t
theorem bY7{e:Expr}{c:Rho->Option Bool}(h:JT X e c):PT X e (aD1 X.K c):=fun pins s σ H Q I ⟨ρ,b,e,t⟩=>h ρ b e pins s σ H Q I t
noncomputable def X7(t:Rho->Option Bool) (f:DS):Nat->DS
 | 0=>fun _=>none
 | n+1=>fun ρ=>(t ρ).bind fun c=>if c then(f ρ).bind fun fl=>match fl with
   | .nx ρ'=>X7 t f n ρ'
   | .ct ρ'=>X7 t f n ρ'
   | .bk ρ'=>some (.nx ρ')
   | .rt d=>some (.rt d)
  else some (.nx ρ)
theorem aj1{t:Rho->Option Bool}{f:DS}:∀{n:Nat}{ρ:Rho}{fl:Fl},X7 t f n ρ=some fl->X7 t f (n+1) ρ=some fl
 | 0,_,_,h=>by cases h
 | n+1,ρ,fl,h=>by
  obtain⟨c,e1,h⟩:=xbm h
  show(t ρ).bind _=_
  rw[e1]
  cases c with
  | false=>exact h
  | true =>
   obtain⟨fl1,e2,h⟩:=xbm h
   show(f ρ).bind _=_
   rw[e2]
   cases fl1 with
   | nx ρ'=>exact aj1 (n:=n) h
   | ct ρ'=>exact aj1 (n:=n) h
   | bk ρ'=>exact h
   | rt d=>exact h
theorem aR1{t:Rho->Option Bool}{f:DS}{n m:Nat}{ρ:Rho}{fl:Fl}(h:X7 t f n ρ=some fl) (l:n<=m):X7 t f m ρ=some fl:=by
 induction l with
 | refl=>exact h
 | step _ ih=>exact aj1 ih
open Classical in
noncomputable def aa3(t:Rho->Option Bool) (f:DS):DS:=fun ρ=>if h:∃fl n,X7 t f n ρ=some fl then some h.choose else none
theorem aD4{t:Rho->Option Bool}{f:DS}{n:Nat}{ρ:Rho}{fl:Fl}(h:X7 t f n ρ=some fl):aa3 t f ρ=some fl:=by
 have hx:∃fl n,X7 t f n ρ=some fl:=⟨fl,n,h⟩
 unfold aa3
 rw[dif_pos hx]
 obtain⟨m,hm⟩:=hx.choose_spec
 have h1:=aR1 h (Nat.le_max_left n m)
 have h2:=aR1 hm (Nat.le_max_right n m)
 rw[h1]at h2
 exact h2.symm
theorem bk4{t:Rho->Option Bool}{f:DS}{ρ:Rho}{fl:Fl}(h:aa3 t f ρ=some fl):∃n,X7 t f n ρ=some fl:=by
 unfold aa3 at h
 split at h
 ·rename_i hx
  cases h
  exact hx.choose_spec
 ·cases h
theorem by4{c:Expr}{body:List Stmt}{t:Rho->Option Bool}{f:DS}{pos:Pos}(hc:JT X c t) (hb:JSs X body f) (hp:PassesOwn (model X.prog X.w) X.A X.env X.xe:=by exact PassesOwn.never):JS X (.While c body [] pos) (aa3 t f):=fun ρ fl q H0 Hf0=>by
 obtain⟨n,hn⟩:=bk4 q
 refine S2 (bu4 hp (bY7 hc) (be1 (H0:=H0) (Hf0:=Hf0) hb)) fun En σ H ⟨Hf,a,e⟩=>?_
 refine⟨fun m σ H=>∃Hf' ρ',At X.K H0 Hf0 ρ' σ H Hf'/\L0 Hf Hf'/\X7 t f m ρ'=some fl,⟨n,Hf,ρ,a,L0.refl _,hn⟩,?_⟩
 rintro m σ' H' ⟨Hf',ρ',a',s',hm⟩
 cases m with
 | zero=>cases hm
 | succ m =>
  obtain⟨b,e1,hm⟩:=xbm hm
  refine⟨ρ',b,e1,H0,Hf',a'.gr.sub,a'.sl,fun H2 Hf2 g2=>?_⟩
  have a2:=a'.grow g2
  have s2:=s'.trans g2.ext
  cases b with
  | false =>
   have:fl=.nx ρ':=by simpa using hm.symm
   subst this
   exact aB6 (e σ' H2 Hf2 a2 s2)
  | true =>
   obtain⟨fl1,e2,hm⟩:=xbm (show(f ρ').bind _=some fl from hm)
   refine aB5 ⟨fun σ3 H3=>∃m',m' < m+1/\∃Hf' ρ',At X.K H0 Hf0 ρ' σ3 H3 Hf'/\L0 Hf Hf'/\X7 t f m' ρ'=some fl,fun σ3 H3 z=>z,ρ',fl1,e2,Hf2,a2,?_⟩
   cases fl1 with
   | nx ρ3=>exact fun σ3 H3 Hf3 a3 s3=>⟨m,Nat.lt_succ_self _,Hf3,ρ3,a3,s2.trans s3,hm⟩
   | ct ρ3=>exact fun σ3 H3 Hf3 a3 s3=>⟨m,Nat.lt_succ_self _,Hf3,ρ3,a3,s2.trans s3,hm⟩
   | bk ρ3 =>
    cases hm
    exact fun σ3 H3 Hf3 a3 s3=>e σ3 H3 Hf3 a3 (s2.trans s3)
   | rt d =>
    cases hm
    exact e
noncomputable def V6(g:D->Rho->Option Rho) (f:DS):List D->DS
 | []=>fun ρ=>some (.nx ρ)
 | d::ds=>fun ρ=>(g d ρ).bind fun ρ1=>(f ρ1).bind fun fl=>match fl with
   | .nx ρ'=>V6 g f ds ρ'
   | .ct ρ'=>V6 g f ds ρ'
   | .bk ρ'=>some (.nx ρ')
   | .rt d=>some (.rt d)
noncomputable def P9(src:Rho->Option (List D)) (g:D->Rho->Option Rho) (f:DS):DS:=fun ρ=>(src ρ).bind fun ds=>V6 g f ds ρ
theorem ce6{tg iter:Expr}{body:List Stmt}{src:Rho->Option (List D)}{g:D->Rho->Option Rho}{f:DS}{pos:Pos}(hi:JI X tg iter src) (hg:JG X tg g) (hb:JSs X body f) (hp:PassesOwn (model X.prog X.w) X.A X.env X.xe:=by exact PassesOwn.never) (hc:X.calm=true:=by rfl)
  (hs:∀x,foldedSetIterable iter X.env x=pure x:=by intro _;rfl):JS X (.For tg iter body [] pos) (P9 src g f):=fun ρ fl q H0 Hf0=>by
 obtain⟨ds,e1,e2⟩:=xbm q
 refine S2 (bu6 hp hc (hi ρ ds e1) hg (be1 (H0:=H0) (Hf0:=Hf0) hb) hs) fun En σ H ⟨Hf,a,e⟩=>⟨H0,Hf,a.gr.sub,a.sl,fun J H1 Hf1 g1 Y=>?_⟩
 refine⟨fun i m σ H=>m=ds.length - i/\i<=ds.length/\∃Hf' ρ',At X.K H0 Hf0 ρ' σ H Hf'/\L0 Hf1 Hf'/\V6 g f (ds.drop i) ρ'=some fl,⟨ds.length,by simp,Nat.zero_le _,Hf1,ρ,a.grow g1,L0.refl _,by simpa using e2⟩,?_⟩
 rintro i m σ' H' ⟨rfl,hi,Hf',ρ',a',s',hm⟩
 obtain⟨Ys,Yg⟩:=Y i H' Hf' s' a'.gr.sub
 rcases Nat.lt_or_ge i ds.length with hlt|hge
 ·right
  obtain⟨go,yl⟩:=Yg ds[i] (by simp[hlt])
  rw[List.drop_eq_getElem_cons hlt]at hm
  obtain⟨ρ1,c1,hm⟩:=xbm hm
  obtain⟨fl1,c2,hm⟩:=xbm hm
  refine⟨go,fun σ3 H3=>∃m',m' < ds.length - i/\m'=ds.length - (i+1)/\i+1<=ds.length/\∃Hf' ρ',At X.K H0 Hf0 ρ' σ3 H3 Hf'/\L0 Hf1 Hf'/\V6 g f (ds.drop (i+1)) ρ'=some fl,fun σ3 H3 ⟨m',z1,z2⟩=>⟨m',z1,z2⟩,fun x H2 hy=>?_⟩
  obtain⟨Hf2,g2,r2⟩:=yl x H2 hy
  have a2:=a'.grow g2
  refine⟨ds[i],ρ',ρ1,H0,Hf2,c1,g2.sub,a2.sl,r2,fun σ3 sl3=>⟨ρ1,fl1,c2,Hf2,⟨a2.gr,sl3⟩,?_⟩⟩
  have s2:=s'.trans g2.ext
  cases fl1 with
  | nx ρ3=>exact fun σ3 H3 Hf3 a3 s3=>⟨_,by omega,rfl,hlt,Hf3,ρ3,a3,s2.trans s3,hm⟩
  | ct ρ3=>exact fun σ3 H3 Hf3 a3 s3=>⟨_,by omega,rfl,hlt,Hf3,ρ3,a3,s2.trans s3,hm⟩
  | bk ρ3 =>
   cases hm
   exact fun σ3 H3 Hf3 a3 s3=>e σ3 H3 Hf3 a3 (g1.ext.trans (s2.trans s3))
  | rt d =>
   cases hm
   exact e
 ·left
  have:i=ds.length:=by omega
  subst this
  rw[List.drop_length]at hm
  cases hm
  exact⟨Ys (Nat.le_refl _),e σ' H' Hf' a' (g1.ext.trans s')⟩
theorem bO3{pos:Pos}:JS X (.Pass pos) G7:=fun ρ fl q H0 Hf0=>by
 cases q
 exact S2 bK4 fun En σ H ⟨Hf,a,e⟩=>e σ H Hf a (L0.refl _)
theorem ce8{pos:Pos}:JS X (.Break pos) (fun ρ=>some (.bk ρ)):=fun ρ fl q H0 Hf0=>by
 cases q
 exact S2 bu7 fun En σ H ⟨Hf,a,e⟩=>e σ H Hf a (L0.refl _)
end
noncomputable def y9(n:Nat) (ds:List D):Rho:=ds.map (fun d=>some (B.val d))++List.replicate (n - ds.length) none
noncomputable def J8(g:DS) (n:Nat):List D->Option D:=fun ds=>(g (y9 n ds)).bind fun fl=>match fl with
 | .rt d=>some d
 | .nx _=>some .none
 | _=>none
theorem ar0{K:PySem.W.Frag}{H0 H Hf:Hp}{N:List Str}{ds:List D}{vs:List V}(r:Reps K Hf ds vs):Slots K H0 (y9 N.length ds) (L2.i9 N vs) H Hf:=by
 have hl:=r.length
 have noown:∀(i:Nat) (b:B),(y9 N.length ds)[i]? = some (some b)->∃d,ds[i]? = some d/\b=.val d:=fun i b h=>by
  unfold y9 at h
  rcases Nat.lt_or_ge i ds.length with q|q
  ·rw[List.getElem?_append_left (by simpa using q),List.getElem?_map]at h
   rw[List.getElem?_eq_getElem q]at h ⊢
   simp only[Option.map_some,Option.some.injEq]at h
   exact⟨ds[i],rfl,h.symm⟩
  ·rw[List.getElem?_append_right (by simpa using q),List.getElem?_replicate]at h
   split at h<;>cases h
 refine⟨by simp[y9,L2.i9,hl],fun i b e=>?_,fun i j d1 d2 a e1 _ _ _=>?_⟩
 ·obtain⟨d,h1,h2⟩:=noown i b e
  subst h2
  obtain⟨v,h3,h4⟩:=r.get h1
  refine⟨v,?_,h4⟩
  have hi:i < vs.length:=(List.getElem?_eq_some_iff.mp h3).1
  unfold L2.i9
  rw[List.getElem?_append_left (by simpa using hi),List.getElem?_map,h3];rfl
 ·obtain⟨d,_,h2⟩:=noown i _ e1
  cases h2
theorem bg7{P:Program}{w:World}{K:PySem.W.Frag}{mg:Str->Option Value}{base:Heap}{x qual:Str}{st:Stmt}{f:Addr}{fd:FuncData}{N ps:List Str}{k:Nat}{g:DS}(F:Fun K x qual st f fd) (S:FnScope N ps (M8 st))
  (hb:∀(cdv:Value) (A:Around) (outer:List Env) (s:Shared) (H:Hp) (E:XK),Room k (A.deeper (envOfC qual (M8 st) s.heap.objs.size f cdv))->JSs (aT3 CX0 P w K mg base N qual (M8 st) f cdv A outer s H E).nox (R6 st) g) :
  FnOk P w K mg base CX0 (k+1) f fd ps (spF K ps.length (J8 g N.length)):=by
 refine F.ok S (fun vs H Q E h=>h.1) fun cdv A outer s H vs Q E hr hsp=>?_
 obtain⟨hlen,Hf,ds,d,ss,rp,e,kk⟩:=hsp
 obtain⟨fl,e1,e2⟩:=xbm e
 refine⟨_,hb cdv A outer s H E hr _ fl e1 H Hf,Hf,⟨Grow.refl ss,ar0 rp⟩,?_⟩
 cases fl with
 | rt d'=>cases e2;exact fun v H' Hf' g r=>kk v H' Hf' g r
 | nx ρ=>cases e2;exact fun σ' H' Hf' a _=>kk _ H' Hf' a.gr rfl
 | bk ρ=>cases e2
 | ct ρ=>cases e2
noncomputable def SIt:Bool->Heap->Addr->Addr->Nat->Prop
 | true=>Heap.IsTupleIter
 | false=>Heap.IsListIter
noncomputable def SSq:Bool->Heap->Addr->Array Value->Prop
 | true=>Heap.IsTuple
 | false=>Heap.IsList
section
variable {prog:Program}{w:World}{A:Around}{E:Value->Shared->Prop}{s:Shared}{t t1 t2:Bool}
theorem SIt.ext{h h':Heap}{it l:Addr}{k:Nat}(x:SIt t h it l k) (e:∀o,h.get? it=some o->h'.get? it=some o):SIt t h' it l k:=by
 cases t with
 | true=>obtain⟨o,ho,r⟩:=x;exact⟨o,e o ho,r⟩
 | false=>obtain⟨o,ho,r⟩:=x;exact⟨o,e o ho,r⟩
theorem SSq.ext{h h':Heap}{l:Addr}{xs:Array Value}(x:SSq t h l xs) (e:∀o,h.get? l=some o->h'.get? l=some o):SSq t h' l xs:=by
 cases t with
 | true=>obtain⟨o,ho,r⟩:=x;exact⟨o,e o ho,r⟩
 | false=>obtain⟨o,ho,r⟩:=x;exact⟨o,e o ho,r⟩
theorem SIt.lt{h:Heap}{it l:Addr}{k:Nat}(x:SIt t h it l k):it < h.objs.size:=by
 cases t with
 | true=>obtain⟨o,ho,_⟩:=x;exact Heap.lt_size ho
 | false=>obtain⟨o,ho,_⟩:=x;exact Heap.lt_size ho
theorem aW2{it l:Addr}{k:Nat}{xs:Array Value}{x:Value}{Q:Value->Shared->Prop}(hit:s.heap.IsTupleIter it l k) (hl:s.heap.IsTuple l xs) (hx:xs[k]? = some x)
  (hQ:∀h',h'.IsTupleIter it l (k+1)->Heap.SameBut it s.heap h'->Q x { s with heap:=h' }):wpAny (model prog w) A (Builtin.SmallTypes.nextOf (.ref it)) Q E s:=by
 obtain⟨o,ho,hc,hd⟩:=id hit;obtain⟨ol,hol,_,nl,hdl⟩:=hl;unfold Builtin.SmallTypes.nextOf
 refine wpAny_bind (wpAny_callSpecial?_slot (name:=Str.ofString "__next__") hit.typeIs F.slot_tuple_iterator_next (wpAny_call_entry F.slot_tuple_iterator_next hit.typeIs F.entry_tuple_iterator_next ?_ (F.args_tuple_iterator_next_1 _)))
 show wpAny _ _ (field (.ref it) 0 >>= _) _ _ s;refine wpAny_bind (wpAny_field ho hd (x:=.ref l) rfl ?_);show wpAny _ _ (if(Value.ref l==Value.none)=true then _ else _) _ _ s
 rw[if_neg (show ¬((Value.ref l==Value.none)=true) from Bool.false_ne_true)];show wpAny _ _ (field (.ref it) 1 >>= _) _ _ s
 refine wpAny_bind (wpAny_field ho hd (x:=.int k 0) rfl ?_);show wpAny _ _ (seqItems? (.ref l) >>= _) _ _ s;refine wpAny_bind (wpAny_seqItems hol hdl ?_);simp only[Int.toNat_natCast,hx]
 refine wpAny_bind (wpAny_setField ho hd (by simp) (wpAny_pure ⟨x,rfl,wpAny_pure (hQ _ ⟨_,Heap.get?_update_self _ ho (Obj.isFreed_of_fields (Obj.data_mapFields hd _)),(Obj.cls_mapFields ..).trans hc,?_⟩ (Heap.SameBut.update ..))⟩))
 rw[Obj.data_mapFields hd];simp[rawInt]
theorem bj1{it l:Addr}{k:Nat}{xs:Array Value}{Q:Value->Shared->Prop}(hh:A.handled=none) (hit:s.heap.IsTupleIter it l k) (hl:s.heap.IsTuple l xs) (hx:xs[k]? = none)
  (hE:∀h' e,Heap.ExtBut it s.heap h'->(∃o,h'.get? e=some o/\o.cls=.type "StopIteration")->E (.ref e) { s with heap:=h' }):wpAny (model prog w) A (Builtin.SmallTypes.nextOf (.ref it)) Q E s:=by
 obtain⟨o,ho,hc,hd⟩:=id hit;obtain⟨ol,hol,_,nl,hdl⟩:=hl;unfold Builtin.SmallTypes.nextOf
 refine wpAny_bind (wpAny_callSpecial?_slot (name:=Str.ofString "__next__") hit.typeIs F.slot_tuple_iterator_next (wpAny_call_entry F.slot_tuple_iterator_next hit.typeIs F.entry_tuple_iterator_next ?_ (F.args_tuple_iterator_next_1 _)))
 show wpAny _ _ (field (.ref it) 0 >>= _) _ _ s;refine wpAny_bind (wpAny_field ho hd (x:=.ref l) rfl ?_);show wpAny _ _ (if(Value.ref l==Value.none)=true then _ else _) _ _ s
 rw[if_neg (show ¬((Value.ref l==Value.none)=true) from Bool.false_ne_true)];show wpAny _ _ (field (.ref it) 1 >>= _) _ _ s
 refine wpAny_bind (wpAny_field ho hd (x:=.int k 0) rfl ?_);show wpAny _ _ (seqItems? (.ref l) >>= _) _ _ s;refine wpAny_bind (wpAny_seqItems hol hdl ?_);simp only[Int.toNat_natCast,hx]
 refine wpAny_bind (wpAny_rule (wpAny_bind (wpAny_setField ho hd (by simp) ?_)));show wpAny _ _ (newExc (.type "StopIteration") [] >>= _) _ _ _;refine wpAny_bind ?_;simp only[newExc,newTuple]
 refine wpAny_bind (wpAny_newObj_type ?_ (by size_fits));refine wpAny_bind (m:=firstArgMember _ _) (wpAny_of_eq (a:=Value.none) (by first|rfl|(simp only[firstArgMember];rfl)) ?_);refine wpAny_newObj_type ?_ (by size_fits)
 simp only[raiseNew];refine wpAny_bind (wpAny_handled ?_);first|rw[show A.in1.handled=none from hh]|rw[hh]
 refine wpAny_bind (wpAny_pure (wpAny_throw ?_));exact hE _ _ (((Heap.SameBut.update ..).extBut.push _).push _) ⟨_,Heap.get?_push_size _ rfl,rfl⟩
theorem ad8{it l:Addr}{k:Nat}{xs:Array Value}{x:Value}{Q:Value->Shared->Prop}(hit:SIt t s.heap it l k) (hl:SSq t s.heap l xs) (hx:xs[k]? = some x)
  (hQ:∀h',SIt t h' it l (k+1)->Heap.SameBut it s.heap h'->Q x { s with heap:=h' }):wpAny (model prog w) A (Builtin.SmallTypes.nextOf (.ref it)) Q E s:=by
 cases t with
 | true=>exact aW2 hit hl hx hQ
 | false=>exact wpAny_nextOf_list_item hit hl hx hQ
theorem al1{it l:Addr}{k:Nat}{xs:Array Value}{Q:Value->Shared->Prop}(hh:A.handled=none) (hit:SIt t s.heap it l k) (hl:SSq t s.heap l xs) (hx:xs[k]? = none)
  (hE:∀h' e,Heap.ExtBut it s.heap h'->(∃o,h'.get? e=some o/\o.cls=.type "StopIteration")->E (.ref e) { s with heap:=h' }):wpAny (model prog w) A (Builtin.SmallTypes.nextOf (.ref it)) Q E s:=by
 cases t with
 | true=>exact bj1 hh hit hl hx hE
 | false=>exact wpAny_nextOf_list_end hh hit hl hx hE
theorem bj2{z TI TO i1 i2 l1 l2:Addr}{k1 k2:Nat}{xs ys:Array Value}{x y a b:Value}{Q:Value->Shared->Prop}(Z:ZipApart z TI TO i1 i2 l1 l2)
  (hz:IsZip s.heap z TI TO .none) (hTI:IsPair s.heap TI (.ref i1) (.ref i2)) (hTO:IsPair s.heap TO a b) (h1:SIt t1 s.heap i1 l1 k1) (h2:SIt t2 s.heap i2 l2 k2) (hl1:SSq t1 s.heap l1 xs) (hl2:SSq t2 s.heap l2 ys) (hx:xs[k1]? = some x) (hy:ys[k2]? = some y)
  (hQ:∀h',IsZip h' z TI TO (rawInt s.heap.objs.size)->IsPair h' TO x y->SIt t1 h' i1 l1 (k1+1)->SIt t2 h' i2 l2 (k2+1)->IsPair h' s.heap.objs.size x y->h'.objs.size=s.heap.objs.size+1 ->
   (∀c o,c≠z->c≠TO->c≠i1->c≠i2->s.heap.get? c=some o->h'.get? c=some o)->Q (.ref s.heap.objs.size) { s with heap:=h' }) :
  wpAny (model prog w) A (Builtin.«zip.__next__» ⟨[.ref z],[]⟩) (fun fin s'=>∃v,fin=.done (.ret v)/\Q v s') E s:=by
 show wpAny _ _ (field (.ref z) 2 >>= _) _ _ _;refine wpAny_bind (wpAny_field hz rfl (x:=.bool false) rfl ?_);show wpAny _ _ (field (.ref z) 3 >>= _) _ _ _;refine wpAny_bind (wpAny_field hz rfl (x:=.ref TI) rfl ?_)
 refine wpAny_bind (wpAny_seqItems hTI rfl ?_);show wpAny _ _ (Builtin.SmallTypes.ownedTupleIsFree (.ref z) >>= _) _ _ _;refine wpAny_bind ?_;unfold Builtin.SmallTypes.ownedTupleIsFree
 refine wpAny_bind (wpAny_field hz rfl (x:=.none) rfl (wpAny_pure ?_));simp only[if_true];refine wpAny_bind (wpAny_rule ?_);refine wpAny_bind (wpAny_field hz rfl (x:=.ref TO) rfl ?_)
 refine wpAny_bind (wpAny_setField_rec hz (by simp) fun ha za sa=>?_);have za':IsZip ha z TI TO .ellipsis:=za
 refine wpAny_bind ?_;simp only[List.zipIdx_cons,List.zipIdx_nil,List.forIn_cons,List.forIn_nil];refine wpAny_bind (wpAny_bind (wpAny_onRaise ?_));show wpAny _ _ (Builtin.SmallTypes.nextOf (.ref i1) >>= _) _ _ _
 refine wpAny_bind (ad8 (h1.ext fun o e=>sa.extBut _ _ Z.i1z e) (hl1.ext fun o e=>sa.extBut _ _ Z.l1z e) hx fun hb h1b sb=>wpAny_pure ?_)
 have hTOb:IsPair hb TO a b:=sb.extBut _ _ Z.TOi1 (sa.extBut _ _ Z.TOz hTO)
 refine wpAny_bind (wpAny_seqItems hTOb rfl ?_);refine wpAny_bind (wpAny_updateSeq_pair hTOb fun hcc TOc sc=>?_);have TOc':IsPair hcc TO x b:=TOc
 refine wpAny_bind (wpAny_letGo (wpAny_pure ?_));refine wpAny_bind (wpAny_bind (wpAny_onRaise ?_));show wpAny _ _ (Builtin.SmallTypes.nextOf (.ref i2) >>= _) _ _ _
 refine wpAny_bind (ad8 (((h2.ext fun o e=>sa.extBut _ _ Z.i2z e).ext fun o e=>sb.extBut _ _ Z.i12.symm e).ext fun o e=>sc.extBut _ _ Z.TOi2.symm e) (((hl2.ext fun o e=>sa.extBut _ _ Z.l2z e).ext fun o e=>sb.extBut _ _ Z.l2i1 e).ext fun o e=>sc.extBut _ _ Z.l2TO e) hy fun hd h2d sd=>wpAny_pure ?_)
 have hTOd:IsPair hd TO x b:=sd.extBut _ _ Z.TOi2 TOc'
 refine wpAny_bind (wpAny_seqItems hTOd rfl ?_);refine wpAny_bind (wpAny_updateSeq_pair hTOd fun he TOe se=>?_);have TOe':IsPair he TO x y:=TOe
 refine wpAny_bind (wpAny_letGo (wpAny_pure (wpAny_pure ?_)));refine wpAny_bind (wpAny_seqItems TOe' rfl ?_);refine wpAny_bind (wpAny_newTuple ?_)
 have sz:he.objs.size=s.heap.objs.size:=by rw[se.1,sd.1,sc.1,sb.1,sa.1]
 have ze:IsZip he z TI TO .ellipsis:=se.extBut _ _ Z.TOz.symm (sd.extBut _ _ Z.i2z.symm (sc.extBut _ _ Z.TOz.symm (sb.extBut _ _ Z.i1z.symm za')))
 have ke:∀c o,c≠z->c≠TO->c≠i1->c≠i2->s.heap.get? c=some o->he.get? c=some o:=fun c o c1 c2 c3 c4 e=>se.extBut _ _ c2 (sd.extBut _ _ c4 (sc.extBut _ _ c2 (sb.extBut _ _ c3 (sa.extBut _ _ c1 e))))
 have h1e:SIt t1 he i1 l1 (k1+1):=((h1b.ext fun o e=>sc.extBut _ _ Z.TOi1.symm e).ext fun o e=>sd.extBut _ _ Z.i12 e).ext fun o e=>se.extBut _ _ Z.TOi1.symm e
 have h2e:SIt t2 he i2 l2 (k2+1):=h2d.ext fun o e=>se.extBut _ _ Z.TOi2.symm e
 have zlt:z < he.objs.size:=Heap.lt_size ze
 show wpAny _ _ (Builtin.SmallTypes.ownedTupleHandOut (.ref z) (.ref he.objs.size) >>= _) _ _ _;refine wpAny_bind ?_;unfold Builtin.SmallTypes.ownedTupleHandOut
 have zf:IsZip (he.push { cls:=.type "tuple", data:=.seq #[x,y] }) z TI TO .ellipsis:=Heap.get?_push_of_some _ ze
 refine wpAny_bind (wpAny_setField_rec zf (by simp) fun hg zg sg=>?_);have zg':IsZip hg z TI TO (rawInt he.objs.size):=zg
 refine wpAny_setField_rec zg' (by simp) fun hi zi si=>?_;have zi':IsZip hi z TI TO (rawInt he.objs.size):=zi
 have up:∀c o,c≠z->he.get? c=some o->hi.get? c=some o:=fun c o c1 e=>si.extBut _ _ c1 (sg.extBut _ _ c1 (Heap.get?_push_of_some _ e))
 have hT:IsPair hi he.objs.size x y:=si.extBut _ _ (Nat.ne_of_gt zlt) (sg.extBut _ _ (Nat.ne_of_gt zlt) (Heap.get?_push_size _ rfl))
 have szi:hi.objs.size=he.objs.size+1:=by rw[si.1,sg.1,Heap.size_push]
 rw[sz]at zi' hT szi
 refine wpAny_pure ⟨_,rfl,?_⟩;show Q (.ref he.objs.size) _;rw[sz]
 exact hQ hi zi' (up _ _ Z.TOz TOe') (h1e.ext fun o e=>up _ o Z.i1z e) (h2e.ext fun o e=>up _ o Z.i2z e) hT szi fun c o c1 c2 c3 c4 e=>up c o c1 (ke c o c1 c2 c3 c4 e)
theorem bs9{z TI TO i1 i2 l1 l2:Addr}{k1 k2:Nat}{xs ys:Array Value}{a b:Value}{Q:Fin->Shared->Prop}(hh:A.handled=none) (Z:ZipApart z TI TO i1 i2 l1 l2)
  (hz:IsZip s.heap z TI TO .none) (hTI:IsPair s.heap TI (.ref i1) (.ref i2)) (hTO:IsPair s.heap TO a b) (h1:SIt t1 s.heap i1 l1 k1) (h2:SIt t2 s.heap i2 l2 k2) (hl1:SSq t1 s.heap l1 xs) (hl2:SSq t2 s.heap l2 ys) (hend:xs[k1]? = none\/ys[k2]? = none)
  (hE:∀h' e,(∀c o,c≠z->c≠TO->c≠i1->c≠i2->s.heap.get? c=some o->h'.get? c=some o)->(∃o,h'.get? e=some o/\o.cls=.type "StopIteration")->E (.ref e) { s with heap:=h' }) :
  wpAny (model prog w) A (Builtin.«zip.__next__» ⟨[.ref z],[]⟩) Q E s:=by
 show wpAny _ _ (field (.ref z) 2 >>= _) _ _ _;refine wpAny_bind (wpAny_field hz rfl (x:=.bool false) rfl ?_);show wpAny _ _ (field (.ref z) 3 >>= _) _ _ _;refine wpAny_bind (wpAny_field hz rfl (x:=.ref TI) rfl ?_)
 refine wpAny_bind (wpAny_seqItems hTI rfl ?_);show wpAny _ _ (Builtin.SmallTypes.ownedTupleIsFree (.ref z) >>= _) _ _ _;refine wpAny_bind ?_;unfold Builtin.SmallTypes.ownedTupleIsFree
 refine wpAny_bind (wpAny_field hz rfl (x:=.none) rfl (wpAny_pure ?_));simp only[if_true];refine wpAny_bind (wpAny_rule ?_);refine wpAny_bind (wpAny_field hz rfl (x:=.ref TO) rfl ?_)
 refine wpAny_bind (wpAny_setField_rec hz (by simp) fun ha za sa=>?_);have za':IsZip ha z TI TO .ellipsis:=za
 refine wpAny_bind ?_;simp only[List.zipIdx_cons,List.zipIdx_nil,List.forIn_cons,List.forIn_nil];refine wpAny_bind (wpAny_bind (wpAny_onRaise ?_));show wpAny _ _ (Builtin.SmallTypes.nextOf (.ref i1) >>= _) _ _ _
 cases hx:xs[k1]? with
 | none =>
  refine wpAny_bind (al1 hh (h1.ext fun o e=>sa.extBut _ _ Z.i1z e) (hl1.ext fun o e=>sa.extBut _ _ Z.l1z e) hx fun hb e sb he=>?_)
  obtain⟨oe,hoe,hce⟩:=he;have zb:IsZip hb z TI TO .ellipsis:=sb _ _ Z.i1z.symm za';have hez:e≠z:=fun q=>by subst q;rw[zb]at hoe;cases hoe;simp at hce
  exact wpAny_setField_rec zb (by simp) fun hcc _ sc=>hE hcc e (fun c o c1 _ c3 _ q=>sc.extBut _ _ c1 (sb _ _ c3 (sa.extBut _ _ c1 q))) ⟨oe,sc.extBut _ _ hez hoe,hce⟩
 | some x =>
  have hy:ys[k2]? = none:=by rcases hend with h|h;rw[hx]at h;cases h;exact h
  refine wpAny_bind (ad8 (h1.ext fun o e=>sa.extBut _ _ Z.i1z e) (hl1.ext fun o e=>sa.extBut _ _ Z.l1z e) hx fun hb h1b sb=>wpAny_pure ?_)
  have hTOb:IsPair hb TO a b:=sb.extBut _ _ Z.TOi1 (sa.extBut _ _ Z.TOz hTO)
  refine wpAny_bind (wpAny_seqItems hTOb rfl ?_);refine wpAny_bind (wpAny_updateSeq_pair hTOb fun hcc TOc sc=>?_)
  refine wpAny_bind (wpAny_letGo (wpAny_pure ?_));refine wpAny_bind (wpAny_bind (wpAny_onRaise ?_));show wpAny _ _ (Builtin.SmallTypes.nextOf (.ref i2) >>= _) _ _ _
  refine wpAny_bind (al1 hh (((h2.ext fun o e=>sa.extBut _ _ Z.i2z e).ext fun o e=>sb.extBut _ _ Z.i12.symm e).ext fun o e=>sc.extBut _ _ Z.TOi2.symm e) (((hl2.ext fun o e=>sa.extBut _ _ Z.l2z e).ext fun o e=>sb.extBut _ _ Z.l2i1 e).ext fun o e=>sc.extBut _ _ Z.l2TO e) hy fun hd e sd he=>?_)
  obtain⟨oe,hoe,hce⟩:=he;have zd:IsZip hd z TI TO .ellipsis:=sd _ _ Z.i2z.symm (sc.extBut _ _ Z.TOz.symm (sb.extBut _ _ Z.i1z.symm za'));have hez:e≠z:=fun q=>by subst q;rw[zd]at hoe;cases hoe;simp at hce
  exact wpAny_setField_rec zd (by simp) fun hf _ sf=>hE hf e (fun c o c1 c2 c3 c4 q=>sf.extBut _ _ c1 (sd _ _ c4 (sc.extBut _ _ c2 (sb.extBut _ _ c3 (sa.extBut _ _ c1 q))))) ⟨oe,sf.extBut _ _ hez hoe,hce⟩
theorem aW8{z TI TO i1 i2 l1 l2:Addr}{k1 k2:Nat}{xs ys:Array Value}{x y a b:Value}{Q:Option Value->Shared->Prop}(Z:ZipApart z TI TO i1 i2 l1 l2)
  (hz:IsZip s.heap z TI TO .none) (hTI:IsPair s.heap TI (.ref i1) (.ref i2)) (hTO:IsPair s.heap TO a b) (h1:SIt t1 s.heap i1 l1 k1) (h2:SIt t2 s.heap i2 l2 k2) (hl1:SSq t1 s.heap l1 xs) (hl2:SSq t2 s.heap l2 ys) (hx:xs[k1]? = some x) (hy:ys[k2]? = some y)
  (hQ:∀h',IsZip h' z TI TO (rawInt s.heap.objs.size)->IsPair h' TO x y->SIt t1 h' i1 l1 (k1+1)->SIt t2 h' i2 l2 (k2+1)->IsPair h' s.heap.objs.size x y->h'.objs.size=s.heap.objs.size+1 ->
   (∀c o,c≠z->c≠TO->c≠i1->c≠i2->s.heap.get? c=some o->h'.get? c=some o)->Q (some (.ref s.heap.objs.size)) { s with heap:=h' }):wpAny (model prog w) A (pyNext (.ref z)) Q E s:=by
 have hT:s.TypeIs (.ref z) "zip" := ⟨_,hz,rfl⟩
 unfold pyNext
 refine wpAny_bind (wpAny_attempt (wpAny_callSpecial?_slot (name:=Str.ofString "__next__") hT F.slot_zip_next (wpAny_call_entry F.slot_zip_next hT F.entry_zip_next (bj2 Z hz hTI hTO h1 h2 hl1 hl2 hx hy ?_) (F.args_zip_next_1 _))))
 exact fun h' a1 a2 a3 a4 a5 a6 a7=>wpAny_pure (hQ h' a1 a2 a3 a4 a5 a6 a7)
theorem bj5{z TI TO i1 i2 l1 l2:Addr}{k1 k2:Nat}{xs ys:Array Value}{a b:Value}{Q:Option Value->Shared->Prop}(hh:A.handled=none) (Z:ZipApart z TI TO i1 i2 l1 l2)
  (hz:IsZip s.heap z TI TO .none) (hTI:IsPair s.heap TI (.ref i1) (.ref i2)) (hTO:IsPair s.heap TO a b) (h1:SIt t1 s.heap i1 l1 k1) (h2:SIt t2 s.heap i2 l2 k2) (hl1:SSq t1 s.heap l1 xs) (hl2:SSq t2 s.heap l2 ys) (hend:xs[k1]? = none\/ys[k2]? = none)
  (hQ:∀h',(∀c o,c≠z->c≠TO->c≠i1->c≠i2->s.heap.get? c=some o->h'.get? c=some o)->Q none { s with heap:=h' }):wpAny (model prog w) A (pyNext (.ref z)) Q E s:=by
 have hT:s.TypeIs (.ref z) "zip" := ⟨_,hz,rfl⟩
 unfold pyNext
 refine wpAny_bind (wpAny_attempt (wpAny_callSpecial?_slot (name:=Str.ofString "__next__") hT F.slot_zip_next (wpAny_call_entry F.slot_zip_next hT F.entry_zip_next (bs9 hh Z hz hTI hTO h1 h2 hl1 hl2 hend fun h' e hk he=>?_) (F.args_zip_next_1 _))))
 obtain⟨o,ho,hc⟩:=he
 exact wpAny_bind (wpAny_isInstance (T := "StopIteration") (b:=true) ⟨o,ho,hc⟩ isSubtype_stop (wpAny_pure (hQ _ hk)))
noncomputable def am5(t:Bool) (l:Addr):Obj:={ cls:=.type (if t then "tuple_iterator" else "list_iterator"),data:=.fields #[.ref l,.int 0 0] }
theorem aI1{h:Heap}{l:Addr}(t:Bool):SIt t (h.push (am5 t l)) h.objs.size l 0:=by
 cases t with
 | true=>exact⟨_,Heap.get?_push_size _ rfl,rfl,rfl⟩
 | false=>exact⟨_,Heap.get?_push_size _ rfl,rfl,rfl⟩
theorem ad9{l:Addr}{xs:Array Value}{Q:Value->Shared->Prop}(hl:SSq t s.heap l xs) (hQ:Q (.ref s.heap.objs.size) { s with heap:=s.heap.push (am5 t l) }):wpAny (model prog w) A (pyIter (.ref l)) Q E s:=by
 cases t with
 | true=>exact wpAny_pyIter_tuple hl hQ
 | false=>exact wpAny_pyIter_list hl hQ
end
noncomputable abbrev zp1(h:Heap) (t1:Bool) (l1:Addr):Heap:=h.push (am5 t1 l1)
noncomputable abbrev zp2(h:Heap) (t1 t2:Bool) (l1 l2:Addr):Heap:=(zp1 h t1 l1).push (am5 t2 l2)
noncomputable abbrev zp3(h:Heap) (t1 t2:Bool) (l1 l2:Addr):Heap:=(zp2 h t1 t2 l1 l2).push { cls:=.type "tuple", data:=.seq #[.ref h.objs.size,.ref (zp1 h t1 l1).objs.size] }
noncomputable abbrev zp4(h:Heap) (t1 t2:Bool) (l1 l2:Addr):Heap:=(zp3 h t1 t2 l1 l2).push { cls:=.type "tuple", data:=.seq #[.none,.none] }
noncomputable abbrev zp5(h:Heap) (t1 t2:Bool) (l1 l2:Addr):Heap:=(zp4 h t1 t2 l1 l2).push { cls:=.type "zip", data:=.fields #[.none,.bool false,.bool false,.ref (zp2 h t1 t2 l1 l2).objs.size,.ref (zp3 h t1 t2 l1 l2).objs.size] }
theorem bs8(l1 l2:Addr) (xs ys:Array Value) (t1 t2:Bool) :
  Meets (Builtin.«zip.__new__» ⟨[.type "zip", .ref l1,.ref l2],[]⟩) (fun _ R s=>SSq t1 s.heap l1 xs/\SSq t2 s.heap l2 ys/\∀h',IsZip h' (s.heap.objs.size+4) (s.heap.objs.size+2) (s.heap.objs.size+3) .none->IsPair h' (s.heap.objs.size+2) (.ref s.heap.objs.size) (.ref (s.heap.objs.size+1)) ->
   IsPair h' (s.heap.objs.size+3) .none .none->SIt t1 h' s.heap.objs.size l1 0->SIt t2 h' (s.heap.objs.size+1) l2 0->(∀c o,s.heap.get? c=some o->h'.get? c=some o)->R (.ok (.ret (.ref (s.heap.objs.size+4)))) { s with heap:=h' }) :=
 .of_wp fun prog w A R s h=>by
  obtain⟨hp,g,d,tk,os⟩:=s
  obtain⟨hl1,hl2,h⟩:=h
  have hsub:=sub_zip
  have q1:SSq t1 (Shared.heap ⟨hp,g,d,tk,os⟩) l1 xs:=hl1
  have q2:SSq t2 (Shared.heap ⟨hp.push (am5 t1 l1),g,d,tk,os⟩) l2 ys:=SSq.ext hl2 fun o e=>Heap.get?_push_of_some _ e
  wp_walk using ad9 q1,ad9 q2
  refine⟨_,rfl,?_⟩
  have z1:(zp1 hp t1 l1).objs.size=hp.objs.size+1:=Heap.size_push ..
  have z2:(zp2 hp t1 t2 l1 l2).objs.size=hp.objs.size+2:=by rw[Heap.size_push,z1]
  have z3:(zp3 hp t1 t2 l1 l2).objs.size=hp.objs.size+3:=by rw[Heap.size_push,z2]
  have z4:(zp4 hp t1 t2 l1 l2).objs.size=hp.objs.size+4:=by rw[Heap.size_push,z3]
  show R (.ok (.ret (.ref (zp4 hp t1 t2 l1 l2).objs.size))) ⟨zp5 hp t1 t2 l1 l2,g,d,tk,os⟩
  rw[z4]
  have g5:(zp5 hp t1 t2 l1 l2).get? (zp4 hp t1 t2 l1 l2).objs.size=some _:=Heap.get?_push_size _ rfl
  have g4:(zp5 hp t1 t2 l1 l2).get? (zp3 hp t1 t2 l1 l2).objs.size=some _:=Heap.get?_push_of_some _ (Heap.get?_push_size _ rfl)
  have g3:(zp5 hp t1 t2 l1 l2).get? (zp2 hp t1 t2 l1 l2).objs.size=some _:=Heap.get?_push_of_some _ (Heap.get?_push_of_some _ (Heap.get?_push_size _ rfl))
  rw[z4,z2,z3]at g5
  rw[z3]at g4
  rw[z2,z1]at g3
  have k1:∀c o,hp.get? c=some o->(zp5 hp t1 t2 l1 l2).get? c=some o:=fun c o e=>Heap.get?_push_of_some _ (Heap.get?_push_of_some _ (Heap.get?_push_of_some _ (Heap.get?_push_of_some _ (Heap.get?_push_of_some _ e))))
  have s1:SIt t1 (zp5 hp t1 t2 l1 l2) hp.objs.size l1 0:=(aI1 (h:=hp) (l:=l1) t1).ext fun o e=>Heap.get?_push_of_some _ (Heap.get?_push_of_some _ (Heap.get?_push_of_some _ (Heap.get?_push_of_some _ e)))
  have s2:SIt t2 (zp5 hp t1 t2 l1 l2) (zp1 hp t1 l1).objs.size l2 0:=(aI1 (h:=zp1 hp t1 l1) (l:=l2) t2).ext fun o e=>Heap.get?_push_of_some _ (Heap.get?_push_of_some _ (Heap.get?_push_of_some _ e))
  rw[z1]at s2
  exact h _ g5 g3 g4 s1 s2 k1
section
variable {prog:Program}{w:World}{A:Around}{E:Value->Shared->Prop}{s:Shared}{t1 t2:Bool}
theorem bj3{l1 l2:Addr}{xs ys:Array Value}{Q:Value->Shared->Prop}(hl1:SSq t1 s.heap l1 xs) (hl2:SSq t2 s.heap l2 ys)
  (h:∀h',IsZip h' (s.heap.objs.size+4) (s.heap.objs.size+2) (s.heap.objs.size+3) .none->IsPair h' (s.heap.objs.size+2) (.ref s.heap.objs.size) (.ref (s.heap.objs.size+1)) ->
   IsPair h' (s.heap.objs.size+3) .none .none->SIt t1 h' s.heap.objs.size l1 0->SIt t2 h' (s.heap.objs.size+1) l2 0->(∀c o,s.heap.get? c=some o->h'.get? c=some o)->Q (.ref (s.heap.objs.size+4)) { s with heap:=h' }) :
  wpAny (model prog w) A (call (.type "zip") [.ref l1,.ref l2]) Q E s:=by
 refine callType_new F.called_zip (by decide) (F.typeCall_zip_2 _ _) (F.newCall_zip_2 _ _) (fun obj=>F.args_object_init_3 obj _ _) F.entry_zip_new (bs8 l1 l2 xs ys t1 t2) ⟨hl1,hl2,fun h' a1 a2 a3 a4 a5 a6=>?_⟩
 exact⟨⟨_,a1,rfl⟩,h h' a1 a2 a3 a4 a5 a6⟩
end
noncomputable def Itz(K:PySem.W.Frag) (t1 t2:Bool) (a1 a2:Addr):It :=
  ⟨fun i H=>∃xs ys x y,Sq K t1 H a1 xs/\Sq K t2 H a2 ys/\xs[i]? = some x/\ys[i]? = some y,
   fun i H v H'=>∃T x y,v=.ref T/\H T=none/\H'=upd H T (.tup [x,y])/\(∀xs,Sq K t1 H a1 xs->xs[i]? = some x)/\∀ys,Sq K t2 H a2 ys->ys[i]? = some y,
   fun i H=>∃xs ys,Sq K t1 H a1 xs/\Sq K t2 H a2 ys/\(xs.length<=i\/ys.length<=i)⟩
theorem aW6{X:Cx}{pins:List (Addr×Obj)}{σ:L2.St}{H:Hp}{s:Shared}{t:Bool}{a:Addr}{xs ys:List V}(I:Inv X pins σ H s) (h:Sq X.K t H a xs) (h':Sq X.K t H a ys):xs=ys:=by
 cases t with
 | true=>exact I.tuple_inj h h'
 | false=>exact I.list_inj h h'
theorem U5{X:Cx}{pins:List (Addr×Obj)}{σ:L2.St}{H:Hp}{s:Shared}{t:Bool}{a:Addr}{xs:List V}(I:Inv X pins σ H s) (h:Sq X.K t H a xs):∃its:List Value,M0 xs its/\SSq t s.heap a its.toArray/\a < s.heap.objs.size:=by
 cases t with
 | true =>
  obtain⟨its,r,p,_⟩:=I.tuple h
  exact⟨its,r,p,by obtain⟨o,ho,_⟩:=p;exact Heap.lt_size ho⟩
 | false =>
  obtain⟨its,r,p,_⟩:=I.list h
  exact⟨its,r,p.isList,by obtain⟨o,ho,_⟩:=p.isList;exact Heap.lt_size ho⟩
theorem Y2{X:Cx}{pins:List (Addr×Obj)}{σ:L2.St}{H:Hp}{s:Shared}{h':Heap}{t':Nat}{ch:List Addr}{T:Addr}{o:HO}(I:Inv X pins σ H s) (hf:∀b∈ch,o9 X pins H b) (hT:s.heap.objs.size<=T)
  (k:∀b u,b∉ch->s.heap.get? b=some u->h'.get? b=some u) (new:V8 X.prog X.w (upd H T o) h' T o):Inv X pins σ (upd H T o) { s with heap:=h',toks:=t' }:=by
 have hn:H T=none:=I.hok.fresh hT
 have neT:∀b u,s.heap.get? b=some u->b≠T:=fun b u e=>Nat.ne_of_lt (Nat.lt_of_lt_of_le (Heap.lt_size e) hT)
 have nch:∀b u,H b=some u->b∉ch:=fun b u e z=>by rw[(hf b z).1]at e;cases e
 refine I.step (g':=s.gens) (d':=s.drawn) (ch:=ch) (fun b hb=>⟨(hf b hb).2.2.2.1,(hf b hb).2.1,(hf b hb).2.2.2.2.1,(hf b hb).2.2.2.2.2⟩) (fun b u _ _ hc e _=>k b u hc e) (fun b u _ _ hc e _=>⟨u.slots,k b u hc e⟩)
  (fun b u _ e n=>by rw[J0 (neT b u e)];exact n) (fun b u hc e=>⟨u,k b u hc e⟩) (fun b xs e=>by rw[J0 (K2 e hn)];exact e) (fun b ob u e=>by rw[J0 (K2 e hn)];exact e)
  (fun b ps e=>⟨#[],by rw[J0 (K2 e hn),e];simp⟩) (fun m hm=>?_) (fun b u e=>?_) I.bare
 ·obtain⟨ob,es,ep,ho,r⟩:=hm
  exact⟨ob,es,ep,k _ ob (fun z=>(hf _ z).2.1 rfl) ho,r⟩
 ·by_cases hb:b=T
  ·subst hb;rw[J9]at e;cases e;exact new
  ·rw[J0 hb]at e
   refine(I.hok b u e).stay (fun c v hc q=>k c v ?_ q) (fun c q=>by rw[J0 (K2 q hn)];exact q) fun c xs q=>by rw[J0 (K2 q hn)];exact q
   rcases hc with z|z
   ·rw[z];exact nch b u e
   ·exact nch c _ z
theorem V1{X:Cx}{pins:List (Addr×Obj)}{σ:L2.St}{H:Hp}{s:Shared}{h':Heap}{t':Nat}{ch:List Addr}(I:Inv X pins σ H s) (hf:∀b∈ch,o9 X pins H b)
  (k:∀b u,b∉ch->s.heap.get? b=some u->h'.get? b=some u):Inv X pins σ H { s with heap:=h',toks:=t' }:=by
 have nch:∀b u,H b=some u->b∉ch:=fun b u e z=>by rw[(hf b z).1]at e;cases e
 refine I.step (g':=s.gens) (d':=s.drawn) (ch:=ch) (fun b hb=>⟨(hf b hb).2.2.2.1,(hf b hb).2.1,(hf b hb).2.2.2.2.1,(hf b hb).2.2.2.2.2⟩) (fun b u _ _ hc e _=>k b u hc e) (fun b u _ _ hc e _=>⟨u.slots,k b u hc e⟩)
  (fun b u _ e n=>n) (fun b u hc e=>⟨u,k b u hc e⟩) (fun b xs e=>e) (fun b ob u e=>e) (fun b ps e=>⟨#[],by rw[e];simp⟩) (fun m hm=>?_) (fun b u e=>?_) I.bare
 ·obtain⟨ob,es,ep,ho,r⟩:=hm
  exact⟨ob,es,ep,k _ ob (fun z=>(hf _ z).2.1 rfl) ho,r⟩
 ·refine(I.hok b u e).stay (fun c v hc q=>k c v ?_ q) (fun c q=>q) fun c xs q=>q
  rcases hc with z|z
  ·rw[z];exact nch b u e
  ·exact nch c _ z
theorem bs0{P:Program}{w:World}{K:PySem.W.Frag}{elts:List Expr}{k0:Nat}{pos:Pos}{t1 t2:Bool}{z TI TO i1 i2 a1 a2:Addr}(Z:ZipApart z TI TO i1 i2 a1 a2) :
  Turn P w K (.Tuple elts k0 pos) (Itz K t1 t2 a1 a2) [z,TI,TO,i1,i2] z (fun i h=>IsZip h z TI TO .none/\IsPair h TI (.ref i1) (.ref i2)/\(∃a b,IsPair h TO a b)/\SIt t1 h i1 a1 i/\SIt t2 h i2 a2 i) where
 mem:=by simp
 obj:=fun i h ⟨hz,hTI,⟨a,b,hTO⟩,h1,h2⟩ c hc=>by
  simp only[List.mem_cons,List.not_mem_nil,or_false]at hc
  rcases hc with rfl|rfl|rfl|rfl|rfl
  ·exact⟨_,hz,fun v q=>by cases q⟩
  ·exact⟨_,hTI,fun v q=>by cases q⟩
  ·exact⟨_,hTO,fun v q=>by cases q⟩
  ·cases t1 with
   | true=>obtain⟨o,ho,_,hd⟩:=h1;exact⟨o,ho,fun v q=>by rw[hd]at q;cases q⟩
   | false=>obtain⟨o,ho,_,hd⟩:=h1;exact⟨o,ho,fun v q=>by rw[hd]at q;cases q⟩
  ·cases t2 with
   | true=>obtain⟨o,ho,_,hd⟩:=h2;exact⟨o,ho,fun v q=>by rw[hd]at q;cases q⟩
   | false=>obtain⟨o,ho,_,hd⟩:=h2;exact⟨o,ho,fun v q=>by rw[hd]at q;cases q⟩
 keep:=fun i h h' ⟨hz,hTI,⟨a,b,hTO⟩,h1,h2⟩ hk=>⟨hk z (by simp) _ hz,hk TI (by simp) _ hTI,⟨a,b,hk TO (by simp) _ hTO⟩,h1.ext fun o e=>hk i1 (by simp) o e,h2.ext fun o e=>hk i2 (by simp) o e⟩
 item:=by
  intro X hP hw hK hc i pins s σ H E I hf ⟨hz,hTI,⟨a,b,hTO⟩,h1,h2⟩ hg
  subst hP hw hK
  obtain⟨xs,ys,x,y,q1,q2,ex,ey⟩:=hg
  obtain⟨us,r1,p1,lt1⟩:=U5 I q1
  obtain⟨ws,r2,p2,lt2⟩:=U5 I q2
  obtain⟨ux,eux,rx⟩:=r1.get ex
  obtain⟨uy,euy,ry⟩:=r2.get ey
  refine aW8 Z hz hTI hTO h1 h2 p1 p2 (x:=ux) (y:=uy) (by simpa using eux) (by simpa using euy) fun h' b1 b2 b3 b4 b5 b6 b7=>⟨_,rfl,wpAny_letOwnedTupleGo_zip b1 fun h'' c1 c2=>?_⟩
  have neT:∀c o,s.heap.get? c=some o->c≠s.heap.objs.size:=fun c o e=>Nat.ne_of_lt (Heap.lt_size e)
  have up:∀c o,c≠z->h'.get? c=some o->h''.get? c=some o:=fun c o n e=>c2.extBut c o n e
  refine⟨.ref s.heap.objs.size,upd H s.heap.objs.size (.tup [x,y]),Y2 (s:=s) (h':=h'') (t':=s.toks) (ch:=[z,TI,TO,i1,i2]) I hf (Nat.le_refl _) (fun c u hc e=>?_) ?_,rfl,⟨_,x,y,rfl,I.hok.fresh (Nat.le_refl _),rfl,fun zs hz'=>by rw[aW6 I hz' q1];exact ex,fun zs hz'=>by rw[aW6 I hz' q2];exact ey⟩,⟨c1,?_,⟨_,_,up TO _ Z.TOz b2⟩,b3.ext fun o e=>up i1 o Z.i1z e,b4.ext fun o e=>up i2 o Z.i2z e⟩,fun c hc=>?_⟩
  ·simp only[List.mem_cons,List.not_mem_nil,or_false,not_or]at hc
   exact up c u hc.1 (b7 c u hc.1 hc.2.2.1 hc.2.2.2.1 hc.2.2.2.2 e)
  ·refine⟨by show 2<=sizeLine;decide,[ux,uy],.cons rx (.cons ry .nil),_,up _ _ ?_ b5,rfl,⟨_,rfl⟩,rfl⟩
   exact fun q=>neT z _ hz q.symm
  ·exact up TI _ Z.TIz (b7 TI _ Z.TIz Z.TITO Z.TIi1 Z.TIi2 hTI)
  ·have e:c < s.heap.objs.size:=by
    simp only[List.mem_cons,List.not_mem_nil,or_false]at hc
    rcases hc with rfl|rfl|rfl|rfl|rfl
    ·exact Heap.lt_size hz
    ·exact Heap.lt_size hTI
    ·exact Heap.lt_size hTO
    ·exact h1.lt
    ·exact h2.lt
   rw[J0 (Nat.ne_of_lt e)]
   exact(hf c hc).1
 done:=by
  intro X hP hw hK hc i pins s σ H E I hf ⟨hz,hTI,⟨a,b,hTO⟩,h1,h2⟩ hg
  subst hP hw hK
  obtain⟨xs,ys,q1,q2,hl⟩:=hg
  obtain⟨us,r1,p1,lt1⟩:=U5 I q1
  obtain⟨ws,r2,p2,lt2⟩:=U5 I q2
  have l1:=r1.length
  have l2:=r2.length
  refine bj5 (I.ok.hd hc) Z hz hTI hTO h1 h2 p1 p2 ?_ fun h' hk=>⟨rfl,V1 (t':=s.toks) (ch:=[z,TI,TO,i1,i2]) I hf fun c u hc e=>?_⟩
  ·rcases hl with h|h
   ·left;simp;omega
   ·right;simp;omega
  ·simp only[List.mem_cons,List.not_mem_nil,or_false,not_or]at hc
   exact hk c u hc.1 hc.2.2.1 hc.2.2.2.1 hc.2.2.2.2 e
 self:=fun _ _ _ _ _ st h=>wpAny_pyIter_zip st.1 h
section
variable {X:Cx}
noncomputable def ac6(f g:Rho->Option (Bool×List D)):Rho->Option (List D):=fun ρ=>(f ρ).bind fun p=>(g ρ).bind fun q=>some ((p.2.zip q.2).map fun(x,y)=>PyData.tuple [x,y])
theorem aV4{K:PySem.W.Frag}{t1 t2:Bool}{a1 a2:Addr}{vs us:List V}{ds es:List D}{Hf1:Hp}(h1:Sq K t1 Hf1 a1 vs) (h2:Sq K t2 Hf1 a2 us) (r1:Reps K Hf1 ds vs) (r2:Reps K Hf1 es us) :
  aM6 K (Itz K t1 t2 a1 a2) ((ds.zip es).map fun(x,y)=>PyData.tuple [x,y]) Hf1:=by
 have mono:∀{t:Bool}{a:Addr}{xs:List V}{H H':Hp},L0 H H'->Sq K t H a xs->Sq K t H' a xs:=fun{t a xs H H'} e h=>by
  cases t with
  | true=>exact K8 e h
  | false=>exact M7 e h
 intro i H Hf sa sb
 have m1:=mono (sa.trans sb) h1
 have m2:=mono (sa.trans sb) h2
 have l1:=r1.length
 have l2:=r2.length
 refine⟨fun hi=>⟨vs,us,m1,m2,?_⟩,fun d hd=>?_⟩
 ·simp at hi;omega
 ·rw[List.getElem?_map]at hd
  obtain⟨⟨x,y⟩,q1,q2⟩:=xmo hd
  subst q2
  obtain⟨q1,q2⟩:=List.getElem?_zip_eq_some.mp q1
  obtain⟨vx,e1,e2⟩:=r1.get q1
  obtain⟨vy,e3,e4⟩:=r2.get q2
  refine⟨⟨vs,us,vx,vy,m1,m2,e1,e3⟩,fun v H' ⟨T,x',y',z1,z2,z3,z4,z5⟩=>?_⟩
  subst z1 z3
  have w1:=z4 vs m1
  have w2:=z5 us m2
  rw[e1]at w1
  rw[e3]at w2
  cases w1
  cases w2
  have nf:Hf T=none:=sb.free z2
  refine⟨upd Hf T (.tup [vx,vy]),Grow.laid sb z2,T,[vx,vy],rfl,SqT.of J9,vx,[vy],rfl,(e2.mono sa).mono (L5 nf),vy,[],rfl,(e4.mono sa).mono (L5 nf),rfl⟩
theorem cf7{elts:List Expr}{k0:Nat}{tpos:Pos}{a b:Expr}{f g:DE}{p pos:Pos}(hg:Gl X "zip") (hm:X.mg "zip" = none) (ha:JE X a f) (hb:JE X b g) (hs:starEach [a,b] X.env=[(false,eval a X.env),(false,eval b X.env)]:=by rfl) (hs2:starEach [b] X.env=[(false,eval b X.env)]:=by rfl) :
  JI X (.Tuple elts k0 tpos) (.Call (.Name "zip" p) [a,b] [] pos) (ac6 (qE f) (qE g)):=fun ρ out q=>by
 obtain⟨⟨t1,ds⟩,e1,q⟩:=xbm q
 obtain⟨⟨t2,es⟩,e2,q⟩:=xbm q
 cases q
 obtain⟨d1,e1,e1'⟩:=xbm e1
 obtain⟨d2,e2,e2'⟩:=xbm e2
 intro pins s σ H R I ⟨H0,Hf,ss,sl,k⟩
 refine Call_ (ai9 I hg hm cj3 (PyProof.Rows.callWith_type1 (thn (P4 (ha ρ d1 e1) (P4 (hb ρ d2 e2) T7 hs2) (by rw[hs,hs2]) pos pins s σ H
  (fun vs H'=>∃v u Hf',vs=[v,u]/\Grow H Hf H' Hf'/\Rep X.K Hf' d1 v/\Rep X.K Hf' d2 u) I ⟨H0,Hf,ss,sl,fun v H1 Hf1 g1 r1=>⟨H0,Hf1,g1.sub,sl.grow g1,fun u H2 Hf2 g2 r2=>⟨v,u,Hf2,rfl,g1.trans g2,r1.mono g2.ext,r2⟩⟩⟩) fun us s1 ⟨vs,H1,I1,r1,v,u,Hf1,ev,gr,p1,p2⟩=>?_) (by rw[hs,hs2]) (by rw[hs2];rfl)))
 subst ev
 obtain⟨uv,uu,rfl,rv,ru⟩:=br9 r1
 obtain⟨a1,vs1,rfl,w1,w2⟩:=p1.seq (L0.refl Hf1) e1'
 obtain⟨a2,vs2,rfl,w3,w4⟩:=p2.seq (L0.refl Hf1) e2'
 cases rv
 cases ru
 have mono:∀{t:Bool}{a:Addr}{xs:List V}{H H':Hp},L0 H H'->Sq X.K t H a xs->Sq X.K t H' a xs:=fun{t a xs H H'} e h=>by
  cases t with
  | true=>exact K8 e h
  | false=>exact M7 e h
 obtain⟨us1,rr1,hp1,lt1⟩:=U5 I1 (mono gr.sub w1)
 obtain⟨us2,rr2,hp2,lt2⟩:=U5 I1 (mono gr.sub w3)
 refine bj3 hp1 hp2 fun h' b1 b2 b3 b4 b5 b6=>?_
 have I2:Inv X pins σ H1 { s1 with heap:=h' }:=I1.kept (t':=s1.toks) b6
 refine wpAny_pyIter_zip b1 ⟨_,_,_,_,H1,rfl,I2,bs0 (zipApart_new lt1 lt2),⟨b1,b2,⟨_,_,b3⟩,b4,b5⟩,fun b hb=>?_,k _ H1 Hf1 gr (aV4 w1 w3 w2 w4)⟩
 have hb':s1.heap.objs.size<=b:=by
  simp only[List.mem_cons,List.not_mem_nil,or_false]at hb
  rcases hb with rfl|rfl|rfl|rfl|rfl
  ·exact Nat.le_add_right _ _
  ·exact Nat.le_add_right _ _
  ·exact Nat.le_add_right _ _
  ·exact Nat.le_refl _
  ·exact Nat.le_add_right _ _
 exact I1.fpOk hb' (I1.hok.fresh hb')
end
theorem ar4:fillsNumberSlot (.type "tuple") "mul" = pure false:=PySem.fillsNumberSlot_seq (id := "tuple.__mul__") (r:=some (.builtin "tuple.__rmul__")) F.slot_tuple_mul.lookup (by decide +kernel) F.slot_tuple_rmul.lookup (by decide +kernel)
theorem aD6:seqRepeat? (.type "tuple")=pure (some (.builtin "tuple.__mul__")):=by
 unfold seqRepeat?
 rw[PySem.seqSlot_of (T := "tuple") (name := "__mul__") (id := "tuple.__mul__") F.slot_tuple_mul.lookup (by decide +kernel),PySem.seqSlot_of (T := "tuple") (name := "__rmul__") (id := "tuple.__rmul__") F.slot_tuple_rmul.lookup (by decide +kernel)];rfl
theorem al2(a:Int) (t:Tok) (l:Addr) (items:Array Value) (n:Nat) (dd:Option Addr) (sl:Array (Option Value)) :
  Meets (Builtin.«int.__rmul__» ⟨[.int a t,.ref l],[]⟩) (fun _ R s=>s.heap.get? l=some ⟨.type "tuple", dd,.seq items n,sl⟩/\R (.ok (.ret Value.notImplemented)) s) :=
 .of_wp fun prog w A R s h=>by obtain⟨hp,g,d,tk,os⟩:=s;obtain⟨hl,h⟩:=h;wp_walk;exact⟨_,rfl,h⟩
theorem aX2(items:Array Value) (k:Nat):List.foldl (fun x1 x2=>x1++x2) #[] (List.replicate k items)=(List.replicate k items.toList).flatten.toArray:=by
 have:=aE6 items.toList k []
 rw[List.nil_append]at this
 simpa using this
theorem aQ2(l:Addr) (items:Array Value) (n:Nat) (dd:Option Addr) (sl:Array (Option Value)) (x:Int) (u:Tok) (h2:2<=x) (h3:x < 1000000) (he:items.isEmpty=false) (hz:items.size*x.toNat<=sizeLine) :
  Meets (Builtin.«tuple.__mul__» ⟨[.ref l,.int x u],[]⟩) (fun _ R s=>s.heap.get? l=some ⟨.type "tuple", dd,.seq items n,sl⟩/\R (.ok (.ret (Value.ref s.heap.objs.size))) { s with heap:=s.heap.push { cls:=Value.type "tuple", data:=Data.seq (List.foldl (fun x1 x2=>x1++x2) #[] (List.replicate x.toNat items)) } }) :=
 .of_wp fun prog w A R s h=>by
  obtain⟨hp,g,d,tk,os⟩:=s
  obtain⟨hl,h⟩:=h
  have hm:(items.size:Int)*x<=16777216:=by
   have e:((items.size*x.toNat:Nat):Int)=(items.size:Int)*x:=by rw[Int.natCast_mul,Int.toNat_of_nonneg (by omega)]
   have:items.size*x.toNat<=16777216:=by rw[← sizeLine_eq];exact hz
   omega
  wp_walk
  refine wpAny_ite_false (by simp;omega) ?_
  have ht:Heap.IsTuple (Shared.heap ⟨hp,g,d,tk,os⟩) l items:=⟨_,hl,rfl,n,rfl⟩
  refine wpAny_bind (tupleItemsOf_ ht ?_)
  refine wpAny_ite_false (by rw[he];simp;omega) ?_
  show wpAny _ _ (if(decide (x<=0) || items.isEmpty)=true then _ else _) _ _ _
  refine wpAny_ite_false (by rw[he];simp;omega) ?_
  show wpAny _ _ (if(items.size:Int)*x > (2 ^ 63 - 1) / 8 then _ else _) _ _ _
  rw[if_neg (by omega)]
  show wpAny _ _ (if Builtin.Tuple.tupleTooMany ((items.size:Int)*x)=true then _ else _) _ _ _
  rw[if_neg (by unfold Builtin.Tuple.tupleTooMany;rw[sizeLine_eq];simp;omega)]
  refine wpAny_bind (m:=Builtin.Tuple.tupleExact _) (wpAny_newObj_type (wpAny_pure ⟨_,rfl,h⟩) ?_)
  show(List.foldl (fun x1 x2=>x1++x2) #[] (List.replicate x.toNat items)).size<=sizeLine
  rw[aX2 items x.toNat,List.size_toArray,aJ9,Array.length_toList,Nat.mul_comm]
  exact hz
section
variable {X:Cx}
theorem bL4:OpR X (binaryOp .Mult) (fun x y H Q=>∃l k xs,x=.ref l/\y=.int k/\SqT X.K H l xs/\xs≠[]/\2<=k/\k < 1000000/\xs.length*k.toNat<=sizeLine/\∀p,H p=none->Q (.ref p) (upd H p (.tup (List.replicate k.toNat xs).flatten))):=by
 intro pins s σ H x y v u Q I rx ry h
 obtain⟨l,k,xs,rfl,rfl,hq,hx,h2,h3,hz,q⟩:=h
 cases rx
 obtain⟨t,rfl⟩:=ry
 obtain⟨its,r,p1,_⟩:=I.tuple hq
 obtain⟨⟨cls,dd,data,sl⟩,ho,hc,n,hd⟩:=id p1
 simp only at hc hd
 subst hc hd
 have hl:=r.length
 have he:its.toArray.isEmpty=false:=by
  cases its with
  | nil=>exact absurd (r.nil_iff.mp rfl) hx
  | cons a b=>rfl
 refine wpAny_binaryOp_repeat_ref (T := "tuple") (U := "int") (by decide) ⟨_,ho,rfl⟩ (fun s'=>typeIs_int s' k t) ar4 F.fills_int_mul F.slot_int_rmul aD6 F.slot_int_index.lookup
  (call_meets F.slot_int_rmul (typeIs_int s k t) F.entry_int_rmul (F.args_int_rmul_2 _ _) (al2 k t l its.toArray n dd sl) ⟨ho,rfl,⟨_,ho,rfl⟩,
   call_meets F.slot_tuple_mul ⟨_,ho,rfl⟩ F.entry_tuple_mul (F.args_tuple_mul_2 _ _) (aQ2 l its.toArray n dd sl k t h2 h3 he (by rw[List.size_toArray,← hl];exact hz)) ⟨ho,?_⟩⟩)
 rw[aX2]
 refine⟨.ref _,_,I.laid (t':=s.toks) (o:=.tup (List.replicate k.toNat xs).flatten) (fun b ob q=>Heap.get?_push_of_some _ q) (Nat.le_refl _) ⟨?_,_,r.rep k.toNat,az3.new _ _⟩,rfl,q _ (I.hok.fresh (Nat.le_refl _))⟩
 rw[aJ9,Nat.mul_comm];exact hz
noncomputable def S8(x y:D):Option D:=match x,y with
 | .int i,.int j=>if N0 i/\N0 j then some (.int (i*j)) else none
 | .tuple xs,.int k=>if xs.isEmpty=false/\2<=k/\k < 1000000/\xs.length*k.toNat<=16777216 then some (.tuple (List.replicate k.toNat xs).flatten) else none
 | _,_=>none
theorem aJ4:OpD X (binaryOp .Mult) S8:=fun x y z h=>by
 unfold S8 at h
 split at h
 ·exact ca7 _ _ z (by unfold cc0;exact h)
 ·split at h
  ·rename_i xs k c
   cases h
   refine OpR.imp bL4 fun vx vy H Q ⟨Hf,s,r1,r2,kk⟩=>?_
   obtain⟨a,vs,rfl,h2,h3⟩:=r1
   refine⟨a,k,vs,rfl,r2,K8 s h2,?_,c.2.1,c.2.2.1,by rw[h3.length,sizeLine_eq];exact c.2.2.2,fun p hp=>?_⟩
   ·intro e
    subst e
    have:=h3.length
    cases xs with
    | nil=>exact absurd c.1 (by simp)
    | cons a b=>simp at this
   ·exact kk _ _ _ (Grow.laid s hp) ⟨p,_,rfl,SqT.of J9,(h3.flatten k.toNat).mono (L5 (s.free hp))⟩
  ·cases h
 ·cases h
noncomputable def at7(f:DE):DE:=fun ρ=>(f ρ).bind fun d=>match d with
 | .int i=>some (.int (-i))
 | _=>none
theorem aY9{a:Expr}{f:DE}{pos:Pos}(h:JE X a f):JE X (.UnaryOp .USub a pos) (at7 f):=fun ρ d q=>by
 obtain⟨x,e1,e2⟩:=xbm q
 cases x with
 | int i =>
  cases e2
  exact K7 (cn8 bW8 (h ρ _ e1)) fun σ H Q ⟨H0,Hf,s,sl,k⟩=>⟨H0,Hf,s,sl,fun v H1 Hf1 g1 r1=>⟨_,r1,k _ H1 Hf1 g1 rfl⟩⟩
 | _=>cases e2
noncomputable def isB(x y:D):Option D:=match y with
 | .bool b=>(match x with
  | .bool c=>some (.bool (c==b))
  | .dict _=>none
  | _=>some (.bool false))
 | .none=>isN x .none
 | _=>none
noncomputable def aX9(x y:D):Option D:=match y with
 | .bool b=>(match x with
  | .bool c=>some (.bool (!(c==b)))
  | .dict _=>none
  | _=>some (.bool true))
 | .none=>cb1 x .none
 | _=>none
theorem co9:OpD X (compareOp .Is) isB:=fun x y z h=>by
 cases y with
 | none=>exact ca9 x .none z h
 | bool b =>
  intro pins s σ H vx vy v u Q I rx ry ⟨Hf,ss,r1,r2,k⟩
  cases r2
  cases ry
  have fin:∀c,z=.bool c->(v==Value.bool b)=c->EP X pins σ Q (.bool (v==Value.bool b)) s:=fun c e1 e2=>by rw[e2];subst e1;exact⟨.bl c,H,I,rfl,k _ H Hf (Grow.refl ss) rfl⟩
  cases x with
  | none=>cases r1;cases rx;cases h;exact wpAny_is_plain rfl (fin _ rfl rfl)
  | bool c=>cases r1;cases rx;cases h;exact wpAny_is_plain rfl (fin _ rfl (by cases c<;>cases b<;>rfl))
  | int i=>cases r1;obtain⟨t,rfl⟩:=rx;cases h;exact wpAny_is_plain rfl (fin _ rfl rfl)
  | str i=>cases r1;obtain⟨t,rfl⟩:=rx;cases h;exact wpAny_is_plain rfl (fin _ rfl rfl)
  | tuple ds=>obtain⟨a,vs,rfl,_⟩:=r1;cases rx;cases h;exact wpAny_is_plain rfl (fin _ rfl rfl)
  | list ds=>obtain⟨a,vs,rfl,_⟩:=r1;cases rx;cases h;exact wpAny_is_plain rfl (fin _ rfl rfl)
  | dict ds=>cases h
 | _=>cases h
theorem bv9:OpD X (compareOp .IsNot) aX9:=fun x y z h=>by
 cases y with
 | none=>exact bM3 x .none z h
 | bool b =>
  intro pins s σ H vx vy v u Q I rx ry ⟨Hf,ss,r1,r2,k⟩
  cases r2
  cases ry
  have fin:∀c,z=.bool c->(!(v==Value.bool b))=c->EP X pins σ Q (.bool (!(v==Value.bool b))) s:=fun c e1 e2=>by rw[e2];subst e1;exact⟨.bl c,H,I,rfl,k _ H Hf (Grow.refl ss) rfl⟩
  cases x with
  | none=>cases r1;cases rx;cases h;exact wpAny_isNot_plain rfl (fin _ rfl rfl)
  | bool c=>cases r1;cases rx;cases h;exact wpAny_isNot_plain rfl (fin _ rfl (by cases c<;>cases b<;>rfl))
  | int i=>cases r1;obtain⟨t,rfl⟩:=rx;cases h;exact wpAny_isNot_plain rfl (fin _ rfl rfl)
  | str i=>cases r1;obtain⟨t,rfl⟩:=rx;cases h;exact wpAny_isNot_plain rfl (fin _ rfl rfl)
  | tuple ds=>obtain⟨a,vs,rfl,_⟩:=r1;cases rx;cases h;exact wpAny_isNot_plain rfl (fin _ rfl rfl)
  | list ds=>obtain⟨a,vs,rfl,_⟩:=r1;cases rx;cases h;exact wpAny_isNot_plain rfl (fin _ rfl rfl)
  | dict ds=>cases h
 | _=>cases h
noncomputable def bb8(K:PySem.W.Frag) (d:D) (u:Value):Prop:=∃v,O2 v u/\∀H:Hp,Rep K H d v
theorem cg9{x:Str}{d:D}{u:Value}{pos:Pos}(r:bb8 X.K d u) (hg:Gl X x) (hm:X.mg x=some u) (hd:(x==("__debug__" : Str))=false:=by decide):JE X (.Name x pos) (dC d):=fun ρ d' q=>by
 cases q
 obtain⟨v,rv,rp⟩:=r
 exact K7 (bL0 hg hm rv hd) fun σ H Q ⟨H0,Hf,s,sl,k⟩=>k _ H Hf (Grow.refl s) (rp Hf)
noncomputable def qN(f:Rho->Option (List D)):Rho->Option (Bool×List D):=fun ρ=>(f ρ).map fun ds=>(false,ds)
theorem cf5{e:Expr}{f:Rho->Option (List D)}(h:JN X e f):JQ X e (qN f):=by8 h
noncomputable def O0(f:Rho->Option (Bool×List D)):DE:=fun ρ=>(f ρ).bind fun q=>if q.1=true then none else some (.tuple q.2)
theorem bP8{e:Expr}{f:Rho->Option (Bool×List D)}{p pos:Pos}(hg:Gl X "tuple") (hm:X.mg "tuple" = none) (h:JQ X e f) (he:starEach [e] X.env=[(false,eval e X.env)]:=by rfl):JE X (.Call (.Name "tuple" p) [e] [] pos) (O0 f):=bz5 hg hm h (he:=he)
end
theorem bp3(l b:Addr) (items items2:Array Value) (n n2:Nat) (dd dd2:Option Addr) (sl sl2:Array (Option Value)) (hz:items.size+items2.size<=sizeLine) :
  Meets (Builtin.«list.__add__» ⟨[.ref l,.ref b],[]⟩) (fun _ R s=>s.heap.get? l=some ⟨.type "list", dd,.seq items n,sl⟩/\s.heap.get? b=some ⟨.type "list", dd2,.seq items2 n2,sl2⟩/\R (.ok (.ret (Value.ref s.heap.objs.size))) { s with heap:=s.heap.push { cls:=Value.type "list", data:=Data.seq (items++items2) } }) :=
 .of_wp fun prog w A R s h=>by
  obtain⟨hp,g,d,tk,os⟩:=s
  obtain⟨hl,hb,h⟩:=h
  have hsub:isSubtype (.type "list") (.type "list")=pure true:=by rw[isSubtype_type];kernel_rfl
  have hsz:=hz
  wp_walk
  exact⟨_,rfl,h⟩
section
variable {X:Cx}
theorem be6:OpR X (binaryOp .Add) (fun x y H Q=>∃a b xs ys,x=.ref a/\y=.ref b/\SqL X.K H a xs/\SqL X.K H b ys/\xs.length+ys.length<=sizeLine/\∀p,H p=none->Q (.ref p) (upd H p (.lst (xs++ys)))):=by
 intro pins s σ H x y v u Q I rx ry h
 obtain⟨a,b,xs,ys,rfl,rfl,ha,hb,hz,q⟩:=h
 cases rx
 cases ry
 obtain⟨its,r1,p1,_⟩:=I.list ha
 obtain⟨its2,r2,p2,_⟩:=I.list hb
 obtain⟨⟨cls,dd,data,sl⟩,ho,hc,n,hd⟩:=p1.isList
 obtain⟨⟨cls2,dd2,data2,sl2⟩,ho2,hc2,n2,hd2⟩:=p2.isList
 simp only at hc hd hc2 hd2
 subst hc hd hc2 hd2
 have l1:=r1.length
 have l2:=r2.length
 refine concat_meets ⟨_,ho,rfl⟩ ⟨_,ho2,rfl⟩ noFill_list_add seq_list_add PySem.F.slot_list_add PySem.F.entry_list_add (PySem.F.args_list_add_2 _ _) (bp3 a b its.toArray its2.toArray n n2 dd dd2 sl sl2 (by simp only[List.size_toArray];omega)) ⟨ho,ho2,?_⟩
 have ea:its.toArray++its2.toArray=(its++its2).toArray:=by simp
 rw[ea]
 exact⟨.ref _,_,I.lnew (t':=s.toks) (r1.append r2) (by rw[List.length_append];omega),rfl,q _ I.fresh⟩
noncomputable def C0(x y:D):Option D:=match x,y with
 | .list xs,.list ys=>if xs.length+ys.length<=16777216 then some (.list (xs++ys)) else none
 | x,y=>Z9 x y
theorem be8:OpD X (binaryOp .Add) C0:=fun x y z h=>by
 unfold C0 at h
 split at h
 ·split at h
  ·rename_i c
   cases h
   refine OpR.imp be6 fun vx vy H Q ⟨Hf,s,r1,r2,k⟩=>?_
   obtain⟨a,vs,rfl,h2,h3⟩:=r1
   obtain⟨b,us,rfl,h5,h6⟩:=r2
   refine⟨a,b,vs,us,rfl,rfl,M7 s h2,M7 s h5,by rw[h3.length,h6.length,sizeLine_eq];exact c,fun p hp=>?_⟩
   exact k _ _ _ (Grow.laid s hp) ⟨p,vs++us,rfl,SqL.of J9,(h3.append h6).mono (L5 (s.free hp))⟩
  ·cases h
 ·exact bw0 _ _ z h
noncomputable def bh0(f:DE):DE:=fun ρ=>(f ρ).bind fun d=>match d with
 | .tuple xs=>some (.tuple xs.reverse)
 | _=>none
end
end G
namespace G
theorem xg0{α:Type}{a:α}{l:List α}:(a::l)[0]? = some a:=rfl
theorem xg1{α:Type}{a:α}{i:Nat}{l:List α}:(a::l)[i+1]? = l[i]?:=rfl
theorem xw0{α:Type}{a b:α}{l:List α}:(a::l).set 0 b=b::l:=rfl
theorem xw1{α:Type}{a b:α}{i:Nat}{l:List α}:(a::l).set (i+1) b=a::l.set i b:=rfl
theorem xbs{α β:Type}{a:α}{f:α->Option β}:(some a).bind f=f a:=rfl
theorem xms{α β:Type}{a:α}{f:α->β}:(some a).map f=some (f a):=rfl
theorem xca{α:Type}{a:α}{l m:List α}:(a::l)++m=a::(l++m):=rfl
theorem xna{α:Type}{l:List α}:[]++l=l:=rfl
theorem xmc{α β:Type}{f:α->β}{a:α}{l:List α}:(a::l).map f=f a::l.map f:=rfl
theorem xmn{α β:Type}{f:α->β}:[].map f=[]:=rfl
theorem xnf:(!false)=true:=rfl
theorem xnt:(!true)=false:=rfl
theorem xft:(false=true)=False:=by simp
end G
local macro_rules
  | `(‹$x›) => `(some (G.B.val $x))
local macro_rules
  | `(⇑$x) => `(G.dC (PySem.PyData.int $x))
noncomputable section
namespace Sh
open PySem PySem.Spec PyProof.Rows L2 G
def aq6:DS:=(A6 (aa3 (tB2 neD (A1 1) ⇑0) (A6 (B0 2 (A4 Y1 (A1 0) (A1 1))) (A6 (B0 0 (A1 1)) (B0 1 (A1 2))))) (A9 (A1 0)))
def T3:List D->Option D:=J8 aq6 3
def Y7:DS:=(A6 (B0 2 (A3 T3 (A0 (A1 0) (A0 (A1 1) A2)))) (A9 (D4 (A0 (A4 ac7 (A1 0) (A1 2)) (A0 (A4 ac7 (A1 1) (A1 2)) A2)))))
def W1:List D->Option D:=J8 Y7 3
def Y8:DS:=(A9 (A4 leI (A4 S8 (dIx (A5 0) ⇑0) (dIx (A5 1) ⇑1)) (A4 S8 (dIx (A5 1) ⇑0) (dIx (A5 0) ⇑1))))
def Y9:List D->Option D:=J8 Y8 2
def av3:DS:=(A9 (A3 W1 (A0 (A4 Z9 (A4 S8 (dIx (A5 0) ⇑0) (dIx (A5 1) ⇑1)) (A4 S8 (dIx (A5 1) ⇑0) (dIx (A5 0) ⇑1))) (A0 (A4 S8 (dIx (A5 0) ⇑1) (dIx (A5 1) ⇑1)) A2))))
def T5:List D->Option D:=J8 av3 2
def ab5:DS:=(A9 (A3 W1 (A0 (A4 ac8 (A4 S8 (dIx (A5 0) ⇑0) (dIx (A5 1) ⇑1)) (A4 S8 (dIx (A5 1) ⇑0) (dIx (A5 0) ⇑1))) (A0 (A4 S8 (dIx (A5 0) ⇑1) (dIx (A5 1) ⇑1)) A2))))
def T0:List D->Option D:=J8 ab5 2
def av2:DS:=(A9 (A3 W1 (A0 (A4 S8 (dIx (A5 0) ⇑0) (dIx (A5 1) ⇑0)) (A0 (A4 S8 (dIx (A5 0) ⇑1) (dIx (A5 1) ⇑1)) A2))))
def T2:List D->Option D:=J8 av2 2
def ag0:DS:=(A9 (A3 T0 (A0 (dC (.tuple [(.int 1),(.int 1)])) (A0 (A1 0) A2))))
def Z0:List D->Option D:=J8 ag0 1
def X3:DS:=(A9 (ab0 (M1 (A3 Y9 (A0 (A1 0) (A0 (dC (.tuple [(.int 1),(.int 1)])) A2)))) (A1 0) (dC (.tuple [(.int 1),(.int 1)]))))
def X4:List D->Option D:=J8 X3 1
def P1:DS:=(A6 (sIf (tB2 eqD (A1 0) (dC (.str "plus"))) (A9 (A3 X4 (A0 (A3 T5 (A0 (A1 1) (A0 (A1 2) A2))) A2))) G7) (A6 (sIf (tB2 eqD (A1 0) (dC (.str "atop"))) (A9 (A1 2)) G7) (A6 (sIf (tB2 eqD (A1 0) (dC (.str "cut"))) (A9 (A3 T2 (A0 (A1 2) (A0 (A3 Z0 (A0 (A1 1) A2)) A2)))) G7) (A9 (A3 T0 (A0 (A3 T5 (A0 (A1 1) (A0 (A1 2) A2))) (A0 (A3 T2 (A0 (A1 1) (A0 (A1 2) A2))) A2)))))))
def Y3:List D->Option D:=J8 P1 3
def O4:DS:=(A6 (sIf (tB2 eqD (A1 0) (dC (.str "plus"))) (A9 (A3 X4 (A0 (A3 T5 (A0 (A1 3) (A0 (A1 4) A2))) A2))) G7) (A6 (sIf (tB2 eqD (A1 0) (dC (.str "screen"))) (A9 (A3 T0 (A0 (A3 T5 (A0 (A1 3) (A0 (A1 4) A2))) (A0 (A3 T2 (A0 (A1 3) (A0 (A1 4) A2))) A2)))) G7) (A6 (B0 5 (A3 T2 (A0 (A1 4) (A0 (A3 Z0 (A0 (A1 1) A2)) A2)))) (A6 (sIf (tB2 eqD (A1 0) (dC (.str "over"))) (A9 (A3 T5 (A0 (A1 3) (A0 (A1 5) A2)))) G7) (A6 (sIf (tB2 eqD (A1 0) (dC (.str "multiply"))) (A9 (A3 T5 (A0 (A3 T5 (A0 (A3 T2 (A0 (A1 3) (A0 (A1 4) A2))) (A0 (A3 T2 (A0 (A1 3) (A0 (A3 Z0 (A0 (A1 2) A2)) A2))) A2))) (A0 (A1 5) A2)))) G7) (A6 (sIf (tB2 eqD (A1 0) (dC (.str "atop"))) (A9 (A3 T5 (A0 (A3 T2 (A0 (A1 3) (A0 (A1 2) A2))) (A0 (A1 5) A2)))) G7) (A9 (A1 5))))))))
def W9:List D->Option D:=J8 O4 6
def aG7:DS:=(A6 (B0 3 (dIx (A5 1) ⇑0)) (A6 (B0 4 (dIx (A5 2) ⇑0)) (A6 (V3 5 (G8 2 [0,3,4] (ac6 (qE (Z7 (A1 1) (L4 ⇑1) N6)) (qE (Z7 (A1 2) (L4 ⇑1) N6))) (M6 2 (C2 (B1 0) (C2 (B1 1) N4))) K3 (A3 W9 (A0 (A1 2) (A0 (A1 3) (A0 (A1 4) (A0 (A1 0) (A0 (A1 1) A2)))))))) (A9 (D4 (A0 (A3 Y3 (A0 (A1 0) (A0 (A1 3) (A0 (A1 4) A2)))) (A0 (dIx (A5 5) ⇑0) (A0 (dIx (A5 5) ⇑1) (A0 (dIx (A5 5) ⇑2) A2)))))))))
def y6:List D->Option D:=J8 aG7 6
def aA0:DS:=(A6 (sIf (tB2 eqD (A1 0) (P0 A2)) (A9 (A4 S8 ⇑7 (A1 1))) G7) (A9 (A4 Z9 (dIx (A5 0) (A4 Y1 (A1 1) (V5 (A5 0)))) (A4 S8 ⇑6553 (A4 ac7 (A1 1) (V5 (A5 0)))))))
def aA5:List D->Option D:=J8 aA0 2
def aG5:DS:=(A6 (B0 3 (A4 Y1 (A4 Z9 (A4 S8 (A4 Y1 (A3 aA5 (A0 (A1 0) (A0 (A1 1) A2))) ⇑2147483563) ⇑69069) (A4 S8 ⇑104723 (A4 Z9 (A1 1) ⇑1))) ⇑2147483563)) (A6 (B0 3 (A4 Y1 (A4 Z9 (A4 S8 (A1 3) (A1 3)) (A4 ac7 (A1 3) ⇑3)) ⇑2147483399)) (A9 (A4 Y1 (A4 ac7 (A4 Y1 (A4 Z9 (A4 S8 (A1 3) (A1 3)) (A4 ac7 (A1 3) ⇑7)) ⇑2147483647) ⇑11) (A1 2)))))
def A7:List D->Option D:=J8 aG5 4
def ao8:DS:=(A6 (B0 2 (A1 0)) (A6 (B0 3 (A1 1)) (A6 (aa3 (tB2 gtI (A1 2) ⇑0) (bt5 2 3 (A0 (A4 Y1 (A1 3) (A1 2)) (A0 (A1 2) A2)))) (A9 (D4 (A0 (A4 ac7 (A1 0) (A1 3)) (A0 (A4 ac7 (A1 1) (A1 3)) A2)))))))
def U4:List D->Option D:=J8 ao8 4
def aU7:DS:=(A9 (A3 U4 (A0 (A4 Z9 (A4 S8 (dIx (A5 0) ⇑0) (dIx (A5 1) ⇑1)) (A4 S8 (dIx (A5 1) ⇑0) (dIx (A5 0) ⇑1))) (A0 (A4 S8 (dIx (A5 0) ⇑1) (dIx (A5 1) ⇑1)) A2))))
def M3:List D->Option D:=J8 aU7 2
def aG1:DS:=(A9 (A3 U4 (A0 (A4 S8 (dIx (A5 0) ⇑0) (dIx (A5 1) ⇑0)) (A0 (A4 S8 (dIx (A5 0) ⇑1) (dIx (A5 1) ⇑1)) A2))))
def K1:List D->Option D:=J8 aG1 2
def aU6:DS:=(A9 (A3 U4 (A0 (A4 ac8 (dIx (A5 0) ⇑1) (dIx (A5 0) ⇑0)) (A0 (dIx (A5 0) ⇑1) A2))))
def W2:List D->Option D:=J8 aU6 1
def aG2:DS:=(A6 (B0 2 (A4 Z9 ⇑1 (A3 A7 (A0 (A1 0) (A0 (A1 1) (A0 ⇑12 A2)))))) (A6 (B0 3 (A3 U4 (A0 (A3 A7 (A0 (A1 0) (A0 (A4 Z9 (A1 1) ⇑1) (A0 (A4 Z9 (A1 2) ⇑1) A2)))) (A0 (A1 2) A2)))) (A9 (dIx (qN (A0 (A1 3) (A0 (A1 3) (A0 (A1 3) (A0 (D4 (A0 ⇑0 (A0 ⇑1 A2))) (A0 (D4 (A0 ⇑1 (A0 ⇑1 A2))) A2)))))) (A3 A7 (A0 (A1 0) (A0 (A4 Z9 (A1 1) ⇑2) (A0 ⇑5 A2))))))))
def Q1:List D->Option D:=J8 aG2 4
def aU5:DS:=(A6 (B0 2 (A3 Q1 (A0 (A1 0) (A0 (A1 1) A2)))) (A9 (A4 Z9 (D4 (A0 (A1 2) A2)) (O0 (qN (G8 1 [2,0,1] (O1 ⇑3) (B1 0) K3 (A3 K1 (A0 (A1 1) (A0 (A3 Q1 (A0 (A1 2) (A0 (A4 Z9 (A4 Z9 (A1 3) ⇑3) (A4 S8 ⇑3 (A1 0))) A2))) A2)))))))))
def U3:List D->Option D:=J8 aU5 3
def aG6:DS:=(A6 (B0 3 (dIx (A5 1) ⇑0)) (A6 (B0 4 (dIx (A5 2) ⇑0)) (A6 (B0 5 (A3 W2 (A0 (A1 3) A2))) (A6 (sIf (P8 (tB2 eqD (A1 0) (dC (.str "atop"))) (tB2 eqD (A1 0) (dC (.str "cut")))) (B0 6 (dIx (qN (A0 (A1 4) (A0 (A3 K1 (A0 (A1 4) (A0 (A1 5) A2))) A2))) (u9 (A4 eqD (A1 0) (dC (.str "cut")))))) (B0 6 (A3 M3 (A0 (A1 3) (A0 (A3 K1 (A0 (A1 4) (A0 (A1 5) A2))) A2))))) (A6 (sIf (tB2 eqD (A1 0) (dC (.str "plus"))) (B0 6 (A3 M3 (A0 (A1 3) (A0 (A1 4) A2)))) G7) (A6 (U1 7 (A0 (A1 6) A2)) (A6 (P9 (ac6 (qE (Z7 (A1 1) (L4 ⇑1) N6)) (qE (Z7 (A1 2) (L4 ⇑1) N6))) (M6 2 (C2 (B1 8) (C2 (B1 9) N4))) (A6 (B0 10 (A3 K1 (A0 (A1 9) (A0 (A1 5) A2)))) (A6 (sIf (tB2 eqD (A1 0) (dC (.str "over"))) (O9 7 (A3 M3 (A0 (A1 8) (A0 (A1 10) A2)))) G7) (A6 (sIf (tB2 eqD (A1 0) (dC (.str "multiply"))) (O9 7 (A3 M3 (A0 (A3 K1 (A0 (A1 8) (A0 (A1 9) A2))) (A0 (A3 M3 (A0 (A3 K1 (A0 (A1 8) (A0 (A3 W2 (A0 (A1 4) A2)) A2))) (A0 (A1 10) A2))) A2)))) G7) (A6 (sIf (tB2 eqD (A1 0) (dC (.str "screen"))) (O9 7 (A3 M3 (A0 (A1 8) (A0 (A3 K1 (A0 (A1 9) (A0 (A3 W2 (A0 (A1 8) A2)) A2))) A2)))) G7) (A6 (sIf (tB2 eqD (A1 0) (dC (.str "plus"))) (O9 7 (A3 M3 (A0 (A1 8) (A0 (A1 9) A2)))) G7) (A6 (sIf (tB2 eqD (A1 0) (dC (.str "atop"))) (O9 7 (A3 M3 (A0 (A3 K1 (A0 (A1 8) (A0 (A1 4) A2))) (A0 (A1 10) A2)))) G7) (sIf (tB2 eqD (A1 0) (dC (.str "cut"))) (O9 7 (A1 10)) G7)))))))) (ag9 7 (A9 (O0 (qN (G8 1 [] (L7 (A1 7)) (B1 0) K3 (dIx (qN (A0 (A1 0) (A0 (D4 (A0 ⇑1 (A0 ⇑1 A2))) A2))) (u9 (A4 gtI (dIx (A5 0) ⇑0) (dIx (A5 0) ⇑1))))))))))))))))
def Z1:List D->Option D:=J8 aG6 11
def bc0:DS:=(A9 (T8 (Z8 "int" (A1 0)) (aq3 (Z8 "bool" (A1 0)))))
def ab8:List D->Option D:=J8 bc0 1
def bc5:DS:=(A6 (sIf (P8 (M5 (M1 (Z8 "tuple" (A1 0)))) (tB2 neD (V5 (A5 0)) ⇑2)) (A9 (dC (.bool false))) G7) (A6 (B0 1 (dIx (A5 0) ⇑0)) (A6 (B0 2 (dIx (A5 0) ⇑1)) (A6 (sIf (P8 (M5 (M1 (A3 ab8 (A0 (A1 1) A2)))) (M5 (M1 (A3 ab8 (A0 (A1 2) A2))))) (A9 (dC (.bool false))) G7) (A9 (T8 (A4 gtI (A1 2) ⇑0) (T8 (P6 leI leI ⇑0 (A1 1) (A1 2)) (A4 eqD (A3 T3 (A0 (A1 1) (A0 (A1 2) A2))) ⇑1))))))))
def aj6:List D->Option D:=J8 bc5 3
def bq0:DS:=(A6 (sIf (P8 (M5 (M1 (Z8 "tuple" (A1 0)))) (tB2 neD (V5 (A5 0)) ⇑4)) (A9 (dC (.bool false))) G7) (A6 (sIf (M5 (M1 (ab1 (qN (G8 1 [] (L7 (A1 0)) (B1 0) K3 (A3 aj6 (A0 (A1 0) A2))))))) (A9 (dC (.bool false))) G7) (A9 (ab1 (qN (G8 1 [0] (L7 (Z7 (A1 0) (L4 ⇑1) N6)) (B1 0) K3 (A3 Y9 (A0 (A1 0) (A0 (dIx (A5 1) ⇑0) A2)))))))))
def bq5:List D->Option D:=J8 bq0 1
def ag1:DS:=(A6 (B0 2 (dIx (A5 1) ⇑0)) (A6 (B0 3 (dIx (A5 1) ⇑1)) (A6 (B0 4 (dIx (A5 1) ⇑2)) (A6 (B0 5 (dIx (A5 1) ⇑3)) (A6 (sIf (tB2 eqD (A1 0) (dC (.str "turn"))) (A9 (D4 (A0 (A1 2) (A0 (A3 T0 (A0 (A1 2) (A0 (A1 3) A2))) (A0 (A3 T0 (A0 (A1 2) (A0 (A1 4) A2))) (A0 (A3 T0 (A0 (A1 2) (A0 (A1 5) A2))) A2)))))) G7) (A6 (sIf (tB2 eqD (A1 0) (dC (.str "grey"))) (A6 (B0 6 (A3 T2 (A0 (A3 T5 (A0 (A3 T5 (A0 (A1 3) (A0 (A1 4) A2))) (A0 (A1 5) A2))) (A0 (dC (.tuple [(.int 1),(.int 3)])) A2)))) (A9 (D4 (A0 (A1 2) (A0 (A1 6) (A0 (A1 6) (A0 (A1 6) A2))))))) G7) (A9 (D4 (A0 (A1 2) (A0 (A1 4) (A0 (A1 5) (A0 (A1 3) A2))))))))))))
def aq9:List D->Option D:=J8 ag1 7
def bi1:DS:=(A9 (A3 T5 (A0 (A3 T2 (A0 (A1 0) (A0 (A1 1) A2))) (A0 (A3 T2 (A0 (A3 Z0 (A0 (A1 0) A2)) (A0 (A1 2) A2))) A2))))
def aN3:List D->Option D:=J8 bi1 3
def bi0:DS:=(A9 (O0 (qN (G8 2 [2] (ac6 (qE (A3 aq9 (A0 (A1 0) (A0 (A1 1) A2)))) (qE (A1 1))) (M6 2 (C2 (B1 0) (C2 (B1 1) N4))) K3 (A3 aN3 (A0 (A1 2) (A0 (A1 0) (A0 (A1 1) A2))))))))
def av4:List D->Option D:=J8 bi0 3
def ao7:DS:=(A6 (ac5 (A1 1) (M6 4 (C2 (B1 3) (C2 (B1 4) (C2 (B1 5) (C2 (B1 6) N4)))))) (A6 (B0 7 (A3 K1 (A0 (A3 M3 (A0 (A1 4) (A0 (A3 M3 (A0 (A1 5) (A0 (A1 6) A2))) A2))) (A0 (D4 (A0 ⇑1 (A0 ⇑3 A2))) A2)))) (A6 (B0 8 (D4 (A0 (A1 3) (A0 (A1 7) (A0 (A1 7) (A0 (A1 7) A2)))))) (A6 (sIf (tB2 eqD (A1 0) (dC (.str "turn"))) (B0 8 (A4 Z9 (D4 (A0 (A1 3) A2)) (O0 (qN (G8 1 [3] (L7 (Z7 (A1 1) (L4 ⇑1) N6)) (B1 0) K3 (A3 U4 (A0 (A4 ac8 (A4 S8 (dIx (A5 1) ⇑0) (dIx (A5 0) ⇑1)) (A4 S8 (dIx (A5 0) ⇑0) (dIx (A5 1) ⇑1))) (A0 (A4 S8 (dIx (A5 1) ⇑1) (dIx (A5 0) ⇑1)) A2)))))))) G7) (A6 (sIf (tB2 eqD (A1 0) (dC (.str "round"))) (B0 8 (D4 (A0 (A1 3) (A0 (A1 5) (A0 (A1 6) (A0 (A1 4) A2)))))) G7) (A6 (B0 9 (A3 W2 (A0 (A1 2) A2))) (A9 (O0 (qN (G8 2 [2,9] (ac6 (qE (A1 8)) (qE (A1 1))) (M6 2 (C2 (B1 0) (C2 (B1 1) N4))) K3 (A3 M3 (A0 (A3 K1 (A0 (A1 0) (A0 (A1 2) A2))) (A0 (A3 K1 (A0 (A1 1) (A0 (A1 3) A2))) A2)))))))))))))
def af4:List D->Option D:=J8 ao7 10
end Sh
namespace G
open PySem PySem.Spec PyProof.Rows L2
section
variable {prog:Program}{w:World}{A:Around}{E:Value->Shared->Prop}{s:Shared}
theorem bb5(n:Nat):Builtin.Slice.sliceAdjust none none (-1) (n:Int)=((n:Int) - 1,-1):=by
 unfold Builtin.Slice.sliceAdjust
 have h1:(-1:Int) < 0:=by omega
 simp only[h1,if_true]
theorem aX3(n:Nat):Builtin.Slice.slicePlaces ((n:Int) - 1) (-1) (-1)=n:=by
 unfold Builtin.Slice.slicePlaces
 have h1:¬(-1:Int) > 0:=by omega
 have h2:-(-1:Int)=1:=by omega
 simp only[h1,if_false,h2,Int.ediv_one]
 split<;>omega
theorem ap2{sl:Addr}{t:Tok}{n:Nat}{Q:Int×Int×Nat->Shared->Prop}(hs:s.heap.IsSliceOf sl .none .none (.int (-1) t))
  (h:Q ((n:Int) - 1,-1,n) s):wpAny (model prog w) A (Builtin.Slice.sliceApplied (.ref sl) (pure (n:Int))) Q E s:=by
 obtain⟨os,hos,hcs,hds⟩:=id hs
 unfold Builtin.Slice.sliceApplied Builtin.Slice.sliceFields
 refine wpAny_bind (wpAny_bind (wpAny_field hos hds (x:=.none) rfl (wpAny_bind (wpAny_field hos hds (x:=.none) rfl (wpAny_bind (wpAny_field hos hds (x:=.int (-1) t) rfl (wpAny_pure ?_)))))))
 refine wpAny_bind (slicePart_int ?_)
 show wpAny _ _ (if((-1:Int)==0)=true then _ else _) _ _ s
 rw[if_neg (by decide)]
 refine wpAny_bind (slicePart_none (wpAny_bind (slicePart_none (wpAny_bind (wpAny_pure ?_)))))
 show wpAny _ _ (match Builtin.Slice.sliceAdjust none none (-1) (n:Int) with|(lo,hi)=>pure (lo,(-1:Int),Builtin.Slice.slicePlaces lo hi (-1))) _ _ s
 rw[bb5 n]
 show wpAny _ _ (pure ((n:Int) - 1,(-1:Int),Builtin.Slice.slicePlaces ((n:Int) - 1) (-1) (-1))) _ _ s
 rw[aX3]
 exact wpAny_pure h
theorem aP1{α:Type}:∀l:List α,(List.range l.length).filterMap (fun k=>l[k]?)=l
 | []=>rfl
 | a::l=>by
  rw[List.length_cons,List.range_succ_eq_map,List.filterMap_cons,List.filterMap_map]
  simp only[xg0]
  congr 1
  exact aP1 l
theorem aR9{α β:Type}{f g:α->Option β}:∀{l:List α},(∀x∈l,f x=g x)->l.filterMap f=l.filterMap g
 | [],_=>rfl
 | a::l,h=>by rw[List.filterMap_cons,List.filterMap_cons,h a (List.mem_cons_self ..),aR9 fun x hx=>h x (xmm _ hx)]
theorem bu9(xs:Array Value):((List.range xs.size).filterMap fun(k:Nat)=>xs[(((xs.size:Int) - 1)+(k:Int) * -1).toNat]?).toArray=xs.toList.reverse.toArray:=by
 congr 1
 have e:∀k∈List.range xs.size,xs[(((xs.size:Int) - 1)+(k:Int) * -1).toNat]? = xs.toList.reverse[k]?:=by
  intro k hk
  have hk:=List.mem_range.mp hk
  have:(((xs.size:Int) - 1)+(k:Int) * -1).toNat=xs.size - 1 - k:=by omega
  rw[this,List.getElem?_reverse (by rw[Array.length_toList];exact hk),Array.length_toList,Array.getElem?_toList]
 rw[aR9 e]
 have:=aP1 xs.toList.reverse
 rw[List.length_reverse,Array.length_toList]at this
 exact this
theorem am9{t sl:Addr}{items:Array Value}{k:Tok}{Q:Value->Shared->Prop}(ht:IsTup s.heap t items) (hs:s.heap.IsSliceOf sl .none .none (.int (-1) k))
  (h:Q (.ref s.heap.objs.size) { s with heap:=s.heap.push { cls:=.type "tuple", data:=.seq items.toList.reverse.toArray } })
  (hsz:items.size<=sizeLine):wpAny (model prog w) A (getItem (.ref t) (.ref sl)) Q E s:=by
 have htake:sizeOk (.seq items.toList.reverse.toArray):=by
  show items.toList.reverse.toArray.size<=sizeLine
  rw[List.size_toArray,List.length_reverse,Array.length_toList]
  omega
 obtain⟨os,hos,hcs,hds⟩:=id hs
 have hTs:s.TypeIs (.ref sl) "slice" := ⟨os,hos,hcs⟩
 unfold getItem
 try with_reducible refine wpAny_holding ?_
 first|refine wpAny_bind (wpAny_pure ?_)|skip
 refine wpAny_bind (wpAny_sequenceKey ht.typeIs (by decide) ?_)
 refine wpAny_bind (wpAny_callSpecial?_slot (name:=Str.ofString "__getitem__") ht.typeIs PyProof.Rows.slot_tuple_getitem
  (wpAny_call_entry PyProof.Rows.slot_tuple_getitem ht.typeIs entry_tuple_getitem ?_ (args_tuple_getitem _ _)))
 show wpAny _ _ (Builtin.Tuple.tupleItemsOf (.ref t) >>= _) _ _ s
 refine wpAny_bind (tupleItemsOf_ ht ?_)
 refine wpAny_bind (wpAny_typeOf hTs ?_)
 rw[if_pos (by decide)]
 refine wpAny_bind (ap2 hs ?_)
 have hno:¬((((items.size:Int) - 1)==0&&(-1:Int)==1&&items.size==items.size)=true):=by
  have:((-1:Int)==1)=false:=rfl
  rw[this];simp
 show wpAny _ _ (if(((items.size:Int) - 1)==0&&(-1:Int)==1&&items.size==items.size)=true then _ else _) _ _ s
 rw[if_neg hno,bu9]
 first
  | exact wpAny_bind (m:=Builtin.Tuple.tupleExact _) (wpAny_newObj_type (wpAny_pure ⟨_,rfl,wpAny_pure h⟩) htake)
  | exact wpAny_bind (m:=Builtin.Tuple.tupleExact _) (wpAny_newObj_type (wpAny_bind (wpAny_pure (wpAny_pure ⟨_,rfl,wpAny_pure h⟩))) htake)
  | exact wpAny_bind (wpAny_bind (m:=Builtin.Tuple.tupleExact _) (wpAny_newObj_type (wpAny_pure (wpAny_pure ⟨_,rfl,wpAny_pure h⟩)) htake))
  | exact wpAny_bind (wpAny_bind (m:=Builtin.Tuple.tupleExact _) (wpAny_newObj_type (wpAny_pure ⟨_,rfl,wpAny_pure h⟩) htake))
end
section
variable {X:Cx}{e st:Expr}{te ts:TE}{p2 pos:Pos}
theorem aO1:∀{xs:List V}{us:List Value},M0 xs us->M0 xs.reverse us.reverse
 | [],[],h=>h
 | x::xs,u::us,h=>by
  cases h with
  | cons a b=>rw[List.reverse_cons,List.reverse_cons];exact(aO1 b).append (.cons a .nil)
theorem bZ5(he:PE X e te) (hs:PE X st ts):PE X (.Subscript e (.Slice none none (some st) p2) pos)
  (fun σ H Q=>te σ H fun x H1=>ts σ H1 fun y H2=>∃a xs,x=.ref a/\y=.int (-1)/\SqT X.K H2 a xs/\∀p,H2 p=none->Q (.ref p) (upd H2 p (.tup xs.reverse))):=by
 intro pins s σ H Q I h
 refine Subscript_ (thn (he pins s σ H _ I h) fun v s1 ⟨x,H1,I1,r1,q1⟩=>?_)
 refine wpAny_Slice ?_
 rw[evalPart_none]
 refine wpAny_pure (wpAny_pure ?_)
 rw[evalPart_some]
 refine thn (hs pins s1 σ H1 _ I1 q1) fun vs s3 ⟨y,H3,I3,r3,a,xs,e1,e2,hx,q⟩=>?_
 subst e1 e2
 cases r1
 obtain⟨tk,rfl⟩:=r3
 have I4:Inv X pins σ H3 { s3 with heap:=s3.heap.push { cls:=.type "slice", data:=.fields #[.none,.none,.int (-1) tk] } }:=I3.kept (t':=s3.toks) fun b ob q=>Heap.get?_push_of_some _ q
 obtain⟨its,r,ht,hz⟩:=I4.tuple hx
 have hlen:its.toArray.size=xs.length:=by rw[List.size_toArray];exact r.length.symm
 show wpAny (model X.prog X.w) X.A (subscriptTail e (.Slice none none (some st) p2) (.ref a) (.ref s3.heap.objs.size)) (EP X pins σ Q) X.xe { s3 with heap:=s3.heap.push { cls:=.type "slice", data:=.fields #[.none,.none,.int (-1) tk] } }
 refine tail_any (ops:=[.ref a,.ref s3.heap.objs.size]) ht.typeIs PyProof.Rows.slot_tuple_getitem.lookup ?_ (by with_unfolding_all rfl)
 refine am9 ht (Heap.IsSliceOf.new ..) ?_ (by rw[hlen];exact hz)
 refine⟨.ref _,_,I4.laid (t':=s3.toks) (o:=.tup xs.reverse) (fun b ob q=>Heap.get?_push_of_some _ q) (Nat.le_refl _) ?_,rfl,q _ (I4.hok.fresh (Nat.le_refl _))⟩
 exact⟨by rw[List.length_reverse];exact hz,_,aO1 r,az3.new _ _⟩
theorem bt9{K:PySem.W.Frag}{H:Hp}{ds:List D}{vs:List V}(h:Reps K H ds vs):Reps K H ds.reverse vs.reverse:=by
 induction ds generalizing vs with
 | nil=>cases vs with
  | nil=>exact h
  | cons _ _=>exact absurd h.length (by simp)
 | cons d ds ih=>cases vs with
  | nil=>exact absurd h.length (by simp)
  | cons v vs =>
   obtain⟨v',r',e,h1,h2⟩:=h
   cases e
   rw[List.reverse_cons,List.reverse_cons]
   exact(ih h2).append ⟨_,_,rfl,h1,rfl⟩
theorem bP9{a st:Expr}{f:DE}{pos p2:Pos}(ha:JE X a f) (hs:JE X st (at7 ⇑1)):JE X (.Subscript a (.Slice none none (some st) p2) pos) (bh0 f):=fun ρ d q=>by
 obtain⟨x,e1,q⟩:=xbo q
 cases x with
 | tuple xs =>
  cases q
  refine K7 (bZ5 (ha ρ _ e1) (hs ρ (.int (-1)) rfl)) fun σ H Q ⟨H0,Hf,s,sl,k⟩=>?_
  refine⟨H0,Hf,s,sl,fun v H1 Hf1 g1 ⟨p,vs,q1,q2,q3⟩=>⟨H0,Hf1,g1.sub,sl.grow g1,fun u H2 Hf2 g2 r2=>?_⟩⟩
  subst q1
  cases r2
  have q2':=K8 g2.ext q2
  have q3':=q3.mono g2.ext
  refine⟨p,vs,rfl,rfl,K8 g2.sub q2',fun p' hp=>?_⟩
  exact k _ _ _ ((g1.trans g2).trans (Grow.laid g2.sub hp)) ⟨p',_,rfl,SqT.of J9,(bt9 q3').mono (L5 (g2.sub.free hp))⟩
 | _=>cases q
end
end G
namespace Sh
open PySem PySem.Spec PyProof.Rows L2 G
def az5:DS:=(A9 (O0 (qN (G8 1 [1] (L7 (A1 0)) (B1 0) K3 (A3 T2 (A0 (A1 0) (A0 (A1 1) A2)))))))
def ab6:List D->Option D:=J8 az5 2
end Sh
namespace G
open PySem PySem.Spec PyProof.Rows L2
section
variable {X:Cx}
def atS(x:Str) (i:Int):Option D:=if x.length<=16777216 then(atI x.cps.toList i).map fun c=>.str ⟨#[c]⟩ else none
def aj3(f g:DE):DE:=fun ρ=>(f ρ).bind fun x=>(g ρ).bind fun i=>match x,i with
 | .str x,.int i=>atS x i
 | _,_=>none
theorem cg6{a b:Expr}{f g:DE}{pos:Pos}(ha:JE X a f) (hb:JE X b g) (hs:av1 b:=by intro _ _;rfl):JE X (.Subscript a b pos) (aj3 f g):=fun ρ d q=>by
 obtain⟨x,h1,q⟩:=xbo q
 obtain⟨y,h2,h3⟩:=xbo q
 split at h3
 ·rename_i x i
  unfold atS at h3
  split at h3
  ·rename_i hz
   obtain⟨c,e1,e2⟩:=xmo h3
   subst e2
   refine K7 (bU0 bA7 (ha ρ _ h1) (hb ρ _ h2) hs) fun σ H Q ⟨H0,Hf,s,sl,k⟩=>?_
   refine⟨H0,Hf,s,sl,fun v H1 Hf1 g1 r1=>⟨H0,Hf1,g1.sub,sl.grow g1,fun u H2 Hf2 g2 r2=>?_⟩⟩
   exact .inr (.inr ⟨x,i,c,r1,r2,by rw[sizeLine_eq];exact hz,e1,k _ H2 Hf2 (g1.trans g2) rfl⟩)
  ·cases h3
 ·cases h3
def u8(f:DE) (lo hi:Rho->Option (Option Int)):DE:=fun ρ=>(f ρ).bind fun d=>(lo ρ).bind fun l=>(hi ρ).bind fun h=>match d with
 | .tuple xs=>some (.tuple (ab3 xs l h))
 | .list xs=>some (.list (ab3 xs l h))
 | _=>none
theorem cg3{a:Expr}{lo hi:Option Expr}{f:DE}{l h:Rho->Option (Option Int)}{pos p2:Pos}(ha:JE X a f) (hl:JO X lo l) (hh:JO X hi h):JE X (.Subscript a (.Slice lo hi none p2) pos) (u8 f l h):=fun ρ d q=>by
 obtain⟨x,e1,q⟩:=xbo q
 obtain⟨y,e2,q⟩:=xbo q
 obtain⟨z,e3,q⟩:=xbo q
 cases x with
 | tuple xs =>
  cases q
  refine bz7 ha hl hh ρ _ ?_
  unfold Z7
  rw[e1,xbs,e2,xbs,e3,xbs]
 | list xs =>
  cases q
  refine K7 (al7 bd5 (ha ρ _ e1) (hl ρ y e2) (hh ρ z e3)) fun σ H Q ⟨H0,Hf,s,sl,k⟩=>?_
  refine⟨H0,Hf,s,sl,fun v H1 Hf1 g1 ⟨p,vs,q1,q2,q3⟩=>⟨H0,Hf1,g1.sub,sl.grow g1,fun H2 Hf2 g2=>⟨H0,Hf2,g2.sub,sl.grow (g1.trans g2),fun H3 Hf3 g3=>?_⟩⟩⟩
  subst q1
  have q2':=M7 (g2.trans g3).ext q2
  have q3':=q3.mono (g2.trans g3).ext
  refine⟨p,vs,rfl,M7 g3.sub q2',fun p' hp=>?_⟩
  exact k _ _ _ (((g1.trans g2).trans g3).trans (Grow.laid g3.sub hp)) ⟨p',_,rfl,SqL.of J9,(aw4 q3' y z).mono (L5 (g3.sub.free hp))⟩
 | _=>cases q
end
section
variable {X:Cx}
theorem bd4:∀{ys:List Str}{us:List Value},M0 (ys.map V.str) us->∃l:List (Str×Tok),us=strValues l/\l.map (·.1)=ys
 | [],[],_=>⟨[],rfl,rfl⟩
 | y::ys,u::us,h=>by
  cases h with
  | cons a b =>
   obtain⟨t,rfl⟩:=a
   obtain⟨l,rfl,rfl⟩:=bd4 b
   exact⟨(y,t)::l,rfl,rfl⟩
def am1(sep:Str) (ys:List Str):Nat:=ys.toArray.foldl (fun n y=>n+y.length+sep.length) 0
def cn1(K:PySem.W.Frag):V->List V->Hp->VK->Prop:=fun x vs H Q=>∃sep p ys,x=.str sep/\vs=[.ref p]/\SqL K H p (ys.map V.str)/\am1 sep ys<=sizeLine/\(Builtin.Str.glued sep ys).length<=sizeLine/\Q (.str (Builtin.Str.glued sep ys)) H
theorem bN1:MtR X "str.join" (cn1 X.K):=by
 intro pins s σ H x vs v us Q I rx rv h
 obtain⟨sep,p,ys,rfl,rfl,hq,hz,hg,q⟩:=h
 obtain⟨t,rfl⟩:=rx
 obtain⟨u,rfl,ru⟩:=rv.one
 cases ru
 obtain⟨its,r,pl,_⟩:=I.list hq
 obtain⟨l,rfl,rfl⟩:=bd4 r
 refine call_meets F.slot_str_join (typeIs_str s sep t) F.entry_str_join (F.args_str_join_2 _ _) (meets_str_join_list sep t p l ?_) ⟨pl.isList,?_⟩
 ·show decide (am1 sep (l.map (·.1)) > sizeLine)=false
  exact decide_eq_false (by omega)
 ·match l,q,hg with
  | [],q,hg=>exact⟨hg,.str _,H,I.tok _,⟨_,rfl⟩,q⟩
  | [a],q,_=>exact⟨.str _,H,I,⟨_,rfl⟩,q⟩
  | a::b::r,q,hg=>exact⟨hg,.str _,H,I.tok _,⟨_,rfl⟩,q⟩
def bt1:List D->Option (List Str)
 | []=>some []
 | .str x::r=>(bt1 r).map fun ys=>x::ys
 | _::_=>none
theorem aD5{K:PySem.W.Frag}{H:Hp}:∀{ds:List D}{ys:List Str}{vs:List V},bt1 ds=some ys->Reps K H ds vs->vs=ys.map V.str
 | [],ys,vs,h,r=>by cases h;exact r
 | .str x::ds,ys,vs,h,r=>by
  obtain⟨zs,e1,e2⟩:=xmo h
  subst e2
  obtain⟨v,r',e,h1,h2⟩:=r
  subst e
  rw[aD5 e1 h2]
  cases h1
  rfl
def ay5(f:DE) (g:Rho->Option (Bool×List D)):DE:=fun ρ=>(f ρ).bind fun s=>(g ρ).bind fun q=>match s with
 | .str sep=>if q.1=true then none else(bt1 q.2).bind fun ys=>if am1 sep ys<=16777216/\(Builtin.Str.glued sep ys).length<=16777216 then some (.str (Builtin.Str.glued sep ys)) else none
 | _=>none
theorem bQ0{o e:Expr}{f:DE}{g:Rho->Option (Bool×List D)}{apos cpos:Pos}(ho:JE X o f) (h:JQ X e g)
  (hbase:attributeBase o "join" X.env (eval o X.env)=eval o X.env:=by rfl)
  (hfew:((backTo cpos (starEach [e] X.env)).all (fun x=>!x.1)&&(backToKw cpos (keywordEach [] X.env)).all (fun x=>x.1.isSome)
   && decide (([e]:List Expr).length+([]:List Keyword).length+(if([]:List Keyword).isEmpty then 0 else 1) < 30))=true:=by rfl)
  (hline:(apos.endLine==cpos.line)=true:=by rfl) (hs:starEach [e] X.env=[(false,eval e X.env)]:=by rfl) :
  JE X (.Call (.Attribute o "join" apos) [e] [] cpos) (ay5 f g):=fun ρ d q=>by
 obtain⟨s,e1,q⟩:=xbo q
 obtain⟨⟨t,ds⟩,e2,q⟩:=xbo q
 cases s with
 | str sep =>
  cases t with
  | true=>simp at q
  | false =>
   simp only[xft,if_false]at q
   obtain⟨ys,e3,q⟩:=xbo q
   split at q
   ·rename_i hz
    cases q
    refine K7 (be2 F.plainAttrs_str F.slot_str_join F.type_str_join bN1 (ho ρ _ e1) (P4 (h ρ false ds e2) T7 hs) hbase hfew hline hs) fun σ H Q ⟨H0,Hf,s,sl,k⟩=>?_
    refine⟨H0,Hf,s,sl,fun v H1 Hf1 g1 r1=>?_⟩
    cases r1
    refine⟨rfl,H0,Hf1,g1.sub,sl.grow g1,fun w H2 Hf2 g2 ⟨p,vs,z1,z2,z3⟩=>?_⟩
    subst z1
    rw[aD5 e3 z3]at z2
    exact⟨sep,p,ys,rfl,rfl,z2,by rw[sizeLine_eq];exact hz.1,by rw[sizeLine_eq];exact hz.2,k _ H2 Hf2 (g1.trans g2) rfl⟩
   ·cases q
 | _=>cases q
end
section
open PySem.SeqAt PySem.MeetsSeq PySem.MeetsSeq2 PySem.MeetsSeq3 PySem.SeqRoads2
open PySem.AutoSeq1 (wpAny_loadPart')
theorem av6(l:Addr) (items:Array Value) (n:Nat) (dd:Option Addr) (sl:Array (Option Value)) (x:Value) (e:Nat->Bool) :
  Meets (Builtin.«tuple.__contains__» ⟨[.ref l,x],[]⟩)
   (fun A R s=>s.heap.get? l=some { cls:=.type "tuple", dict:=dd,data:=.seq items n,slots:=sl }/\(∀j (h:j < items.size),EqAt A.in1 s items[j] x (e j))/\R (.ok (.ret (.bool ((List.range items.size).any e)))) s) :=
 .of_wp fun prog w A R s h=>by
  obtain⟨hp,g,d,tk,os⟩:=s;obtain⟨hl,he,h⟩:=h
  wp_walk using wpAny_loadPart' hl,wpAny_forIn_array _ (fun U8 b s'=>b.1=none/\s'=⟨hp,g,d,tk,os⟩/\∃i,U8=items.toList.drop i/\R (.ok (.ret (.bool (((List.range items.size).drop i).any e)))) ⟨hp,g,d,tk,os⟩) _
  case turn =>
   rintro y U8 b s' ⟨hb,rfl,i,hz,hR⟩
   have hlt:i < items.toList.length:=by
    rcases Nat.lt_or_ge i items.toList.length with h'|h'
    ·exact h'
    ·rw[List.drop_of_length_le h']at hz;cases hz
   have hi:i < items.size:=by simpa using hlt
   rw[List.drop_eq_getElem_cons hlt]at hz
   injection hz with hy hrest
   have hy:y=items[i]:=by simpa using hy
   subst hy
   have hd:(List.range items.size).drop i=i::(List.range items.size).drop (i+1):=by simp[List.drop_eq_getElem_cons,hi]
   rw[hd,List.any_cons]at hR
   refine wpAny_bind (he i hi prog w _ _ ?_)
   cases hy:e i with
   | true =>
    rw[hy]at hR
    wp_walk
    exact⟨_,rfl,by simpa using hR⟩
   | false =>
    rw[hy]at hR
    wp_walk
    exact⟨rfl,rfl,i+1,hrest,by simpa using hR⟩
  case fin =>
   rintro⟨b1,b2⟩ s' ⟨hb,rfl,i,hz,hR⟩
   simp only at hb
   subst hb
   have hge:items.size<=i:=by
    rcases Nat.lt_or_ge i items.toList.length with h'|h'
    ·rw[List.drop_eq_getElem_cons h']at hz;cases hz
    ·simpa using h'
   rw[List.drop_of_length_le (by simpa using hge)]at hR
   wp_walk
   exact⟨_,rfl,by simpa using hR⟩
  case h =>exact⟨rfl,rfl,0,by simp,by simpa using h⟩
end
section
variable {X:Cx}
def U2:D->Bool
 | .none=>true
 | .bool _=>true
 | .int _=>true
 | .str _=>true
 | _=>false
def toV:D->V
 | .none=>.non
 | .bool b=>.bl b
 | .int i=>.int i
 | .str x=>.str x
 | _=>.non
theorem Z3{K:PySem.W.Frag}{H:Hp}{d:D}{v:V}(f:U2 d=true) (r:Rep K H d v):v=toV d/\ah6 v=true:=by
 cases d with
 | none=>cases r;exact⟨rfl,rfl⟩
 | bool b=>cases r;exact⟨rfl,rfl⟩
 | int i=>cases r;exact⟨rfl,rfl⟩
 | str x=>cases r;exact⟨rfl,rfl⟩
 | tuple _=>cases f
 | list _=>cases f
 | dict _=>cases f
theorem ap3{K:PySem.W.Frag}{H:Hp}:∀{ds:List D}{vs:List V},ds.all U2=true->Reps K H ds vs->vs=ds.map toV/\vs.all ah6=true
 | [],vs,_,r=>by cases(show vs=[] from r);exact⟨rfl,rfl⟩
 | d::ds,vs,f,r=>by
  rw[List.all_cons,Bool.and_eq_true]at f
  obtain⟨v,r',e,h1,h2⟩:=r
  subst e
  obtain⟨e1,e2⟩:=Z3 f.1 h1
  obtain⟨e3,e4⟩:=ap3 f.2 h2
  subst e1 e3
  exact⟨rfl,by rw[List.all_cons,e2,e4];rfl⟩
def isS:D->Bool
 | .str _=>true
 | _=>false
def inD(neg:Bool) (x y:D):Option D:=match y with
 | .list ds=>if U2 x=true/\ds.all U2=true then some (.bool (if neg then !inV (toV x) (ds.map toV) else inV (toV x) (ds.map toV))) else none
 | .tuple ds=>if U2 x=true/\ds.all U2=true then some (.bool (if neg then !inV (toV x) (ds.map toV) else inV (toV x) (ds.map toV))) else if U2 x=false/\SeqAt.shaped x=true/\ds.all isS=true then some (.bool neg) else if SeqAt.shaped x=true/\x.depth<=60/\ds.all SeqAt.shaped=true then some (.bool (if neg then !(ds.any fun y=>PyData.eqv y x) else ds.any fun y=>PyData.eqv y x)) else none
 | _=>none
theorem bQ8{A:Around}{s:Shared}{x:D}{v:Value}{as:List Addr}(f:U2 x=false) (sh:SeqAt.shaped x=true) (r:Reads s.heap v x as) (hu:A.units < cLine) (a:Str) (t:Tok):SeqAt.EqAt A s (.str a t) v false:=by
 cases r with
 | none=>cases f
 | bool _=>cases f
 | int _ _=>cases f
 | str _ _=>cases f
 | list h1 h2 h3 _=>exact SeqAt.EqAt.str_list a t ⟨_,h1,h2,_,h3⟩ hu
 | tuple h1 h2 h3 _=>exact SeqAt.EqAt.str_tuple a t ⟨_,h1,h2,_,h3⟩ hu
 | dict _ _ _ _ _=>exact absurd (SeqAt.canLay_of_shaped sh) (by simp[PyData.canLay0])
theorem aS1{K:PySem.W.Frag}{H:Hp}:∀{ds:List D}{vs:List V}{us:List Value},ds.all isS=true->Reps K H ds vs->M0 vs us->∀y∈us,∃a t,y=Value.str a t
 | [],_,_,_,r,w=>by cases(show _=[] from r);cases w;intro y hy;cases hy
 | d::ds,_,_,f,r,w=>by
  rw[List.all_cons,Bool.and_eq_true]at f
  obtain⟨v,r',rfl,h1,h2⟩:=r
  cases w with
  | cons w1 w2 =>
   intro y hy
   rcases List.mem_cons.mp hy with rfl|hy
   ·cases d with
    | str a =>
     cases(show v=.str a from h1)
     obtain⟨t,e⟩:=w1
     exact⟨a,t,e⟩
    | _=>cases f.1
   ·exact aS1 f.2 h2 w2 y hy
theorem bB2{x:D}{ds:List D}{vx vy:V}{v u:Value}{pins:List (Addr×Obj)}{s:Shared}{σ:L2.St}{H Hf:Hp}{Q:Value->Shared->Prop}(hu:X.A.units+64 < cLine) (f:U2 x=false) (sh:SeqAt.shaped x=true) (a:ds.all isS=true) (I:L2.Inv X pins σ H s) (rx:O2 vx v) (ry:O2 vy u) (ss:L0 Hf H) (r1:Rep X.K Hf x vx) (r2:Rep X.K Hf (.tuple ds) vy) :
  (Q (.bool false) s->wpAny (model X.prog X.w) X.A (compareOp .In v u) Q X.xe s)/\(Q (.bool true) s->wpAny (model X.prog X.w) X.A (compareOp .NotIn v u) Q X.xe s):=by
 obtain⟨p,vs,rfl,h2,h3⟩:=r2
 obtain rfl:u=Value.ref p:=ry
 obtain⟨its,rv,pl,_⟩:=I.tuple (K8 ss h2)
 obtain⟨as,rd⟩:=Rep.reads I (r1.mono ss) rx
 have st:=aS1 a h3 rv
 have he:∀y,y∈its.toArray->SeqAt.EqAt X.A.in1 s y v ((fun _=>false) y):=fun y hy=>by
  obtain⟨b,t,rfl⟩:=st y (by simpa using hy)
  exact bQ8 f sh rd (by show X.A.units+1 < _;omega) b t
 have no:its.toArray.any (fun _=>false)=false:=by simp
 refine⟨fun q=>SeqAt.in_tupleAt (fun _=>false) pl he (by rw[no];exact q),fun q=>SeqAt.notIn_tupleAt (fun _=>false) pl he (by rw[no];exact q)⟩
theorem cn0{h:Heap}:∀{vs:List Value}{ds:List D}{as:List Addr},ReadsAll h vs ds as->vs.length=ds.length/\∀(j:Nat) (hj:j < vs.length),∃bs,Reads h vs[j] (ds.getD j .none) bs
 | [],_,_,r=>by cases r;exact⟨rfl,fun j hj=>absurd hj (Nat.not_lt_zero _)⟩
 | v::vs,_,_,r=>by
  cases r with
  | cons r1 r2 =>
   obtain⟨h1,h2⟩:=cn0 r2
   refine⟨by rw[List.length_cons,List.length_cons,h1],fun j hj=>?_⟩
   cases j with
   | zero=>exact⟨_,r1⟩
   | succ j=>exact h2 j (by simpa using hj)
theorem bp1{α:Type}(p:α->Bool) (z:α) (l:List α):(List.range l.length).any (fun j=>p (l.getD j z))=l.any p:=by
 rw[Bool.eq_iff_iff,List.any_eq_true,List.any_eq_true]
 constructor
 ·rintro⟨j,hj,h⟩
  have hj:=List.mem_range.mp hj
  exact⟨l[j],List.getElem_mem hj,by simpa [hj] using h⟩
 ·rintro⟨x,hx,h⟩
  obtain⟨j,hj,rfl⟩:=List.getElem_of_mem hx
  exact⟨j,List.mem_range.mpr hj,by simpa [hj] using h⟩
theorem bI7{x:D}{ds:List D}{vx:V}{v:Value}{pins:List (Addr×Obj)}{s:Shared}{σ:L2.St}{H Hf:Hp}{p:Addr}{vs:List V}(hu:X.A.units+64 < cLine) (sx:SeqAt.shaped x=true) (dx:x.depth<=60) (sd:ds.all SeqAt.shaped=true) (I:L2.Inv X pins σ H s) (rx:O2 vx v) (ss:L0 Hf H) (r1:Rep X.K Hf x vx) (h2:SqT X.K Hf p vs) (h3:Reps X.K Hf ds vs) :
  ∃its:List Value,IsTup s.heap p its.toArray/\its.length=ds.length/\∀j (h:j < its.toArray.size),SeqAt.EqAt X.A.in1 s its.toArray[j] v (PyData.eqv (ds.getD j .none) x):=by
 obtain⟨its,rv,pl,_⟩:=I.tuple (K8 ss h2)
 obtain⟨as,rd⟩:=Rep.reads I (r1.mono ss) rx
 obtain⟨bs,ra⟩:=Reps.reads I (h3.mono ss) rv
 obtain⟨e1,e2⟩:=cn0 ra
 refine⟨its,pl,e1,fun j hj=>?_⟩
 have hj':j < its.length:=by simpa using hj
 obtain⟨cs,q⟩:=e2 j hj'
 have hd:j < ds.length:=by omega
 have sj:=List.all_eq_true.mp sd _ (List.getElem_mem hd)
 have ej:ds.getD j .none=ds[j]:=by simp[hd]
 rw[ej]at q ⊢
 have:=SeqAt.eqAt_reads ds[j] x X.A.in1 s _ _ _ _ q rd (SeqAt.canLay_of_shaped sj) (SeqAt.canLay_of_shaped sx) (by show X.A.units+1+_ < _;have:=Nat.min_le_right ds[j].depth x.depth;omega)
 simpa using this
theorem bB1{x:D}{ds:List D}{vx vy:V}{v u:Value}{pins:List (Addr×Obj)}{s:Shared}{σ:L2.St}{H Hf:Hp}{Q:Value->Shared->Prop}(hu:X.A.units+64 < cLine) (sx:SeqAt.shaped x=true) (dx:x.depth<=60) (sd:ds.all SeqAt.shaped=true) (I:L2.Inv X pins σ H s) (rx:O2 vx v) (ry:O2 vy u) (ss:L0 Hf H) (r1:Rep X.K Hf x vx) (r2:Rep X.K Hf (.tuple ds) vy) :
  (Q (.bool (ds.any fun y=>PyData.eqv y x)) s->wpAny (model X.prog X.w) X.A (compareOp .In v u) Q X.xe s)/\(Q (.bool (!(ds.any fun y=>PyData.eqv y x))) s->wpAny (model X.prog X.w) X.A (compareOp .NotIn v u) Q X.xe s):=by
 obtain⟨p,vs,rfl,h2,h3⟩:=r2
 obtain rfl:u=Value.ref p:=ry
 obtain⟨its,pl,ln,he⟩:=bI7 hu sx dx sd I rx ss r1 h2 h3
 obtain⟨⟨cls,dd,data,sl⟩,ho,hc,n,hd⟩:=id pl
 simp only at hc hd
 subst hc hd
 have ea:(List.range its.toArray.size).any (fun j=>PyData.eqv (ds.getD j .none) x)=ds.any fun y=>PyData.eqv y x:=by
  rw[List.size_toArray,ln]
  exact bp1 (fun y=>PyData.eqv y x) .none ds
 refine⟨fun q=>SeqRoads2.in_meets ⟨_,ho,rfl⟩ F.slot_tuple_contains F.entry_tuple_contains (F.args_tuple_contains_2 _ _) (av6 p its.toArray n dd sl v _) ⟨ho,he,_,rfl,by rw[ea];exact q⟩,
  fun q=>SeqRoads2.notIn_meets ⟨_,ho,rfl⟩ F.slot_tuple_contains F.entry_tuple_contains (F.args_tuple_contains_2 _ _) (av6 p its.toArray n dd sl v _) ⟨ho,he,_,rfl,by rw[ea];exact q⟩⟩
theorem bB5{op:CmpOp}{neg:Bool}(o:OpR X (compareOp op) (rIn X.K neg)) (o2:∀x ds,U2 x=false->SeqAt.shaped x=true->ds.all isS=true->OpR X (compareOp op) (fun vx vy H Q=>∃Hf,L0 Hf H/\Rep X.K Hf x vx/\Rep X.K Hf (.tuple ds) vy/\∀v H' Hf',Grow H Hf H' Hf'->Rep X.K Hf' (.bool neg) v->Q v H'))
  (o3:∀x ds,SeqAt.shaped x=true->x.depth<=60->ds.all SeqAt.shaped=true->OpR X (compareOp op) (fun vx vy H Q=>∃Hf,L0 Hf H/\Rep X.K Hf x vx/\Rep X.K Hf (.tuple ds) vy/\∀v H' Hf',Grow H Hf H' Hf'->Rep X.K Hf' (.bool (if neg then !(ds.any fun y=>PyData.eqv y x) else ds.any fun y=>PyData.eqv y x)) v->Q v H')):OpD X (compareOp op) (inD neg):=fun x y z h=>by
 unfold inD at h
 split at h
 ·split at h
  ·rename_i c
   cases h
   refine OpR.imp o fun vx vy H Q ⟨Hf,s,r1,r2,k⟩=>?_
   obtain⟨p,vs,rfl,h2,h3⟩:=r2
   obtain⟨e1,e2⟩:=Z3 c.1 r1
   obtain⟨e3,e4⟩:=ap3 c.2 h3
   subst e1 e3
   exact⟨p,_,rfl,.inl (M7 s h2),e2,e4,k _ H Hf (Grow.refl s) rfl⟩
  ·cases h
 ·split at h
  ·rename_i c
   cases h
   refine OpR.imp o fun vx vy H Q ⟨Hf,s,r1,r2,k⟩=>?_
   obtain⟨p,vs,rfl,h2,h3⟩:=r2
   obtain⟨e1,e2⟩:=Z3 c.1 r1
   obtain⟨e3,e4⟩:=ap3 c.2 h3
   subst e1 e3
   exact⟨p,_,rfl,.inr (K8 s h2),e2,e4,k _ H Hf (Grow.refl s) rfl⟩
  ·split at h
   ·rename_i c
    cases h
    exact o2 _ _ c.1 c.2.1 c.2.2
   ·split at h
    ·rename_i c
     cases h
     exact o3 _ _ c.1 c.2.1 c.2.2
    ·cases h
 ·cases h
theorem cp0(hu:X.A.units+64 < cLine):OpD X (compareOp .In) (inD false):=bB5 bk2 (fun x ds f sh a pins s σ H vx vy v u Q I rx ry ⟨Hf,ss,r1,r2,k⟩=>(bB2 hu f sh a I rx ry ss r1 r2).1 ⟨.bl false,H,I,rfl,k _ H Hf (Grow.refl ss) rfl⟩)
 fun x ds sx dx sd pins s σ H vx vy v u Q I rx ry ⟨Hf,ss,r1,r2,k⟩=>(bB1 hu sx dx sd I rx ry ss r1 r2).1 ⟨.bl _,H,I,rfl,k _ H Hf (Grow.refl ss) rfl⟩
theorem bv8(hu:X.A.units+64 < cLine):OpD X (compareOp .NotIn) (inD true):=bB5 aJ3 (fun x ds f sh a pins s σ H vx vy v u Q I rx ry ⟨Hf,ss,r1,r2,k⟩=>(bB2 hu f sh a I rx ry ss r1 r2).2 ⟨.bl true,H,I,rfl,k _ H Hf (Grow.refl ss) rfl⟩)
 fun x ds sx dx sd pins s σ H vx vy v u Q I rx ry ⟨Hf,ss,r1,r2,k⟩=>(bB1 hu sx dx sd I rx ry ss r1 r2).2 ⟨.bl _,H,I,rfl,k _ H Hf (Grow.refl ss) rfl⟩
end
section
variable {X:Cx}
def bh1(f g:DE):DE:=fun ρ=>(f ρ).bind fun x=>(g ρ).bind fun y=>match x,y with
 | .int i,.int j=>some (.int (if j < i then j else i))
 | _,_=>none
def bh2(f g:DE):DE:=fun ρ=>(f ρ).bind fun x=>(g ρ).bind fun y=>match x,y with
 | .int i,.int j=>some (.int (if j > i then j else i))
 | _,_=>none
theorem bA5{k:Nat}{f:Addr}{fd:FuncData}{ps:List Str}{F:List D->Option D}{x:Str}{p pos:Pos}(Fk:FnOk X.prog X.w X.K X.mg X.base CX0 k f fd ps (spF X.K 0 F)) (hr:Room k X.A) (hg:Gl X x) (hm:X.mg x=some (.ref f)) (hk:PySem.W.keepIn X.K (.ref f)=true) (hb:T6 X.K fd ps [])
  (hdb:(x==("__debug__" : Str))=false:=by decide):JE X (.Call (.Name x p) [] [] pos) (A3 F A2):=fun ρ d q=>by
 have h2:F []=some d:=q
 refine K7 (bv2 Fk hr hg hm hk hb .nil bU1 hdb) fun σ H Q ⟨H0,Hf,s,sl,kk⟩=>?_
 exact⟨rfl,Hf,[],d,s,rfl,h2,fun v H2 Hf2 g2 r2=>kk v H2 Hf2 g2 r2⟩
end
def aF9(K:PySem.W.Frag):List D->List Value->Prop
 | [],us=>us=[]
 | d::ds,us=>∃u r,us=u::r/\bb8 K d u/\aF9 K ds r
section
variable {K:PySem.W.Frag}
theorem W6:aF9 K [] []:=rfl
theorem M4{d:D}{ds:List D}{u:Value}{us:List Value}(h:bb8 K d u) (t:aF9 K ds us):aF9 K (d::ds) (u::us):=⟨u,us,rfl,h,t⟩
theorem aE3:∀{ds:List D}{us:List Value},aF9 K ds us->∃vs,M0 vs us/\∀H:Hp,Reps K H ds vs
 | [],_,h=>by cases h;exact⟨[],.nil,fun _=>rfl⟩
 | d::ds,_,⟨u,r,e,⟨v,h1,h2⟩,h3⟩=>by
  subst e
  obtain⟨vs,q1,q2⟩:=aE3 h3
  exact⟨v::vs,.cons h1 q1,fun H=>⟨v,vs,rfl,h2 H,q2 H⟩⟩
theorem R9(i:Int) (t:Tok):bb8 K (.int i) (.int i t):=⟨.int i,⟨t,rfl⟩,fun _=>rfl⟩
theorem Z5{a:Addr}{o:Obj}{its:Array Value}{n:Nat}{ds:List D}(h:K.lookup a=some o) (hc:o.cls=.type "tuple") (hn:o.dict=none) (hd:o.data=.seq its n) (hz:its.size<=1000) (hi:aF9 K ds its.toList):bb8 K (.tuple ds) (.ref a):=by
 obtain⟨vs,q1,q2⟩:=aE3 hi
 exact⟨.ref a,rfl,fun H=>⟨a,vs,rfl,.inr ⟨o,its,n,h,hc,hn,hd,Nat.le_of_lt (ap1 hz),q1⟩,q2 H⟩⟩
end
theorem aQ1(l:Addr) (items:Array Value) (n:Nat) (dd:Option Addr) (sl:Array (Option Value)) (u:Tok) :
  Meets (Builtin.«tuple.__mul__» ⟨[.ref l,.int 1 u],[]⟩) (fun _ R s=>s.heap.get? l=some ⟨.type "tuple", dd,.seq items n,sl⟩/\R (.ok (.ret (Value.ref l))) s) :=
 .of_wp fun prog w A R s h=>by
  obtain⟨hp,g,d,tk,os⟩:=s
  obtain⟨hl,h⟩:=h
  wp_walk
  exact⟨_,rfl,h⟩
section
variable {X:Cx}
theorem bv4:OpR X (binaryOp .Mult) (fun x y H Q=>∃l xs,x=.ref l/\y=.int 1/\SqT X.K H l xs/\Q (.ref l) H):=by
 intro pins s σ H x y v u Q I rx ry h
 obtain⟨l,xs,rfl,rfl,hq,q⟩:=h
 cases rx
 obtain⟨t,rfl⟩:=ry
 obtain⟨its,r,p1,_⟩:=I.tuple hq
 obtain⟨⟨cls,dd,data,sl⟩,ho,hc,n,hd⟩:=id p1
 simp only at hc hd
 subst hc hd
 exact wpAny_binaryOp_repeat_ref (T := "tuple") (U := "int") (by decide) ⟨_,ho,rfl⟩ (fun s'=>typeIs_int s' 1 t) ar4 F.fills_int_mul F.slot_int_rmul aD6 F.slot_int_index.lookup
  (call_meets F.slot_int_rmul (typeIs_int s 1 t) F.entry_int_rmul (F.args_int_rmul_2 _ _) (al2 1 t l its.toArray n dd sl) ⟨ho,rfl,⟨_,ho,rfl⟩,
   call_meets F.slot_tuple_mul ⟨_,ho,rfl⟩ F.entry_tuple_mul (F.args_tuple_mul_2 _ _) (aQ1 l its.toArray n dd sl t) ⟨ho,⟨.ref l,H,I,rfl,q⟩⟩⟩)
theorem aI4(a:Int) (t:Tok) (l:Addr) (items:Array Value) (n:Nat) (dd:Option Addr) (sl:Array (Option Value)) :
  Meets (Builtin.«int.__rmul__» ⟨[.int a t,.ref l],[]⟩) (fun _ R s=>s.heap.get? l=some ⟨.type "list", dd,.seq items n,sl⟩/\R (.ok (.ret Value.notImplemented)) s):=Meets.of_wp fun prog w A R s h=>by
 obtain⟨hp,g,d,tk,os⟩:=s
 obtain⟨hl,h⟩:=h
 wp_walk
 exact⟨_,rfl,h⟩
theorem aQ3(l:Addr) (items:Array Value) (n:Nat) (dd:Option Addr) (sl:Array (Option Value)) (x:Int) (u:Tok) (c0:¬(!Builtin.List.listFitsIndex x)=true) (c1:¬items.size*x.toNat > (2 ^ 63 - 1) / 8) (c2:¬Builtin.List.listTooLong (items.size*x.toNat)=true) :
  Meets (Builtin.«list.__mul__» ⟨[.ref l,.int x u],[]⟩) (fun _ R s=>s.heap.get? l=some ⟨.type "list", dd,.seq items n,sl⟩/\R (.ok (.ret (Value.ref s.heap.objs.size))) { s with heap:=s.heap.push { cls:=Value.type "list", data:=Data.seq (List.foldl (fun x1 x2=>x1++x2) #[] (List.replicate (if items.isEmpty=true then 0 else x.toNat) items)) } }):=Meets.of_wp fun prog w A R s h=>by
 obtain⟨hp,g,d,tk,os⟩:=s
 obtain⟨hl,h⟩:=h
 have hsz:=AutoListH.joined_fits c2
 wp_walk
 refine wpAny_ite_false (decide_eq_false (Nat.not_lt.mpr hsz)) ?_
 wp_walk
 exact⟨_,rfl,h⟩
theorem bL5:OpR X (binaryOp .Mult) (fun x y H Q=>∃l k xs,x=.ref l/\y=.int k/\SqL X.K H l xs/\0<=k/\k < 1000000/\xs.length*k.toNat<=sizeLine/\∀p,H p=none->Q (.ref p) (upd H p (.lst (List.replicate k.toNat xs).flatten))):=by
 intro pins s σ H x y v u Q I rx ry h
 obtain⟨l,k,xs,rfl,rfl,hq,h1,h2,hz,q⟩:=h
 cases rx
 obtain⟨t,rfl⟩:=ry
 obtain⟨its,r,p1,_⟩:=I.list hq
 obtain⟨⟨cls,dd,data,sl⟩,ho,hc,n,hd⟩:=p1.isList
 simp only at hc hd
 subst hc hd
 have hl:=r.length
 have hlen:its.toArray.size*k.toNat<=sizeLine:=by rw[List.size_toArray,← hl];exact hz
 have hcap:¬its.toArray.size*k.toNat > (2 ^ 63 - 1) / 8:=by
  have:(sizeLine:Nat)<=(2 ^ 63 - 1) / 8:=by decide
  omega
 have hfit:¬(!Builtin.List.listFitsIndex k)=true:=by rw[fitsIndex_both (by omega) (by omega)];exact Bool.false_ne_true
 have hlong:¬Builtin.List.listTooLong (its.toArray.size*k.toNat)=true:=by rw[ae4 hlen];exact Bool.false_ne_true
 have hnew:List.foldl (fun x1 x2=>x1++x2) #[] (List.replicate (if its.toArray.isEmpty=true then 0 else k.toNat) its.toArray)=(List.replicate k.toNat its).flatten.toArray:=by
  rw[aX2]
  cases its with
  | nil=>simp
  | cons a r'=>rw[if_neg (by simp)]
 refine wpAny_binaryOp_repeat_ref (T := "list") (U := "int") (by decide) ⟨_,ho,rfl⟩ (fun s'=>typeIs_int s' k t) noFill_list_mul F.fills_int_mul F.slot_int_rmul repeat_list F.slot_int_index.lookup
  (call_meets F.slot_int_rmul (typeIs_int s k t) F.entry_int_rmul (F.args_int_rmul_2 _ _) (aI4 k t l its.toArray n dd sl) ⟨ho,rfl,⟨_,ho,rfl⟩,
   call_meets F.slot_list_mul ⟨_,ho,rfl⟩ F.entry_list_mul (F.args_list_mul_2 _ _) (aQ3 l its.toArray n dd sl k t hfit hcap hlong) ⟨ho,?_⟩⟩)
 rw[hnew]
 exact⟨.ref _,_,I.lnew (t':=s.toks) (r.rep k.toNat) (by rw[aJ9,Nat.mul_comm];exact hz),rfl,q _ I.fresh⟩
def L6(x y:D):Option D:=match x,y with
 | .tuple xs,.int k=>if k=1 then some (.tuple xs) else S8 (.tuple xs) (.int k)
 | .list xs,.int k=>if 0<=k/\k < 1000000/\xs.length*k.toNat<=16777216 then some (.list (List.replicate k.toNat xs).flatten) else none
 | x,y=>S8 x y
theorem be7:OpD X (binaryOp .Mult) L6:=fun x y z h=>by
 unfold L6 at h
 split at h
 ·split at h
  ·rename_i xs k c
   subst c
   cases h
   refine OpR.imp bv4 fun vx vy H Q ⟨Hf,s,r1,r2,kk⟩=>?_
   obtain⟨a,vs,rfl,h2,h3⟩:=r1
   exact⟨a,vs,rfl,r2,K8 s h2,kk _ _ _ (Grow.refl s) ⟨a,vs,rfl,h2,h3⟩⟩
  ·exact aJ4 _ _ z h
 ·split at h
  ·rename_i xs k c
   cases h
   refine OpR.imp bL5 fun vx vy H Q ⟨Hf,s,r1,r2,kk⟩=>?_
   obtain⟨a,vs,rfl,h2,h3⟩:=r1
   refine⟨a,k,vs,rfl,r2,M7 s h2,c.1,c.2.1,by rw[h3.length,sizeLine_eq];exact c.2.2,fun p hp=>?_⟩
   exact kk _ _ _ (Grow.laid s hp) ⟨p,_,rfl,SqL.of J9,(h3.flatten k.toNat).mono (L5 (s.free hp))⟩
  ·cases h
 ·exact aJ4 _ _ z h
theorem ab4(i j:Int):C0 (.int i) (.int j)=some (.int (i+j)):=rfl
def bo6(f:Rho->Option (Bool×List D)) (lo hi:Rho->Option (Option Int)):DE:=fun ρ=>(f ρ).bind fun q=>(lo ρ).bind fun l=>(hi ρ).bind fun h=>if q.1=true then none else some (.list (ab3 q.2 l h))
theorem cg2{a:Expr}{lo hi:Option Expr}{f:Rho->Option (Bool×List D)}{l h:Rho->Option (Option Int)}{pos p2:Pos}(ha:JQ X a f) (hl:JO X lo l) (hh:JO X hi h):JE X (.Subscript a (.Slice lo hi none p2) pos) (bo6 f l h):=fun ρ d q=>by
 obtain⟨⟨t,xs⟩,e1,q⟩:=xbo q
 obtain⟨y,e2,q⟩:=xbo q
 obtain⟨z,e3,q⟩:=xbo q
 cases t with
 | true=>simp at q
 | false =>
  simp only[xft,if_false]at q
  cases q
  refine K7 (al7 bd5 (ha ρ _ _ e1) (hl ρ y e2) (hh ρ z e3)) fun σ H Q ⟨H0,Hf,s,sl,k⟩=>?_
  refine⟨H0,Hf,s,sl,fun v H1 Hf1 g1 ⟨p,vs,q1,q2,q3⟩=>⟨H0,Hf1,g1.sub,sl.grow g1,fun H2 Hf2 g2=>⟨H0,Hf2,g2.sub,sl.grow (g1.trans g2),fun H3 Hf3 g3=>?_⟩⟩⟩
  subst q1
  have q3':=q3.mono (g2.trans g3).ext
  refine⟨p,vs,rfl,M7 (g2.trans g3).big q2,fun p' hp=>?_⟩
  exact k _ _ _ (((g1.trans g2).trans g3).trans (Grow.laid g3.sub hp)) ⟨p',_,rfl,SqL.of J9,(aw4 q3' y z).mono (L5 (g3.sub.free hp))⟩
def K0:DS:=fun _=>none
theorem G9{st:Stmt}:JS X st K0:=fun ρ fl q=>by cases q
def as5(f:DE):Rho->Option Bool:=fun ρ=>(f ρ).bind N9
theorem by2{op op':CmpOp}{h1 h2:D->D->Option D}{a b c:Expr}{f g k:DE}{pos:Pos}(o1:OpD X (compareOp op) h1) (o2:OpD X (compareOp op') h2) (ha:JE X a f) (hb:JE X b g) (hc:JE X c k)
  (hm:lastMarks [op,op'] [b,c]=false:=by with_unfolding_all rfl):JT X (.Compare a [op,op'] [b,c] pos) (as5 (P6 h1 h2 f g k)):=fun ρ d q=>by
 obtain⟨dd,q,ed⟩:=xbo q
 have ed:=bh7 ed
 subst ed
 obtain⟨x,e1,q⟩:=xbo q
 obtain⟨y,e2,q⟩:=xbo q
 obtain⟨z,e3,q⟩:=xbo q
 split at q
 ·obtain⟨w,e4,e5⟩:=xbo q
  refine aI9 (aO9 (o1 x y _ e3) (o2 y w _ e5) (ha ρ x e1) (hb ρ y e2) (hc ρ w e4) hm) fun σ H Q ⟨H0,Hf,s,sl,kk⟩=>?_
  refine⟨H0,Hf,s,sl,fun v H1 Hf1 g1 r1=>⟨H0,Hf1,g1.sub,sl.grow g1,fun u H2 Hf2 g2 r2=>⟨Hf2,g2.sub,r1.mono g2.ext,r2,fun z' H3 Hf3 g3 r3=>?_⟩⟩⟩
  refine⟨true,r3,aB5 ⟨H0,Hf3,g3.sub,sl.grow ((g1.trans g2).trans g3),fun w' H4 Hf4 g4 r4=>⟨Hf4,g4.sub,r2.mono (g3.trans g4).ext,r4,fun z2 H5 Hf5 g5 r5=>?_⟩⟩⟩
  exact⟨d,r5,kk H5 Hf5 ((((g1.trans g2).trans g3).trans g4).trans g5)⟩
 ·cases q
  intro pins s σ H Q I ⟨H0,Hf,ss,sl,kk⟩
  refine aO9 (tc:=fun _ _ _=>False) (r':=fun _ _ _ _=>False) (o1 x y _ e3) (fun _ _ _ _ _ _ _ _ _ _ _ _ h=>h.elim) (ha ρ x e1) (hb ρ y e2) (fun _ _ _ _ _ _ h=>h.elim) hm pins s σ H Q I ?_
  refine⟨H0,Hf,ss,sl,fun v H1 Hf1 g1 r1=>⟨H0,Hf1,g1.sub,sl.grow g1,fun u H2 Hf2 g2 r2=>⟨Hf2,g2.sub,r1.mono g2.ext,r2,fun z' H3 Hf3 g3 r3=>?_⟩⟩⟩
  exact⟨false,r3,aB6 ⟨false,rfl,kk H3 Hf3 ((g1.trans g2).trans g3)⟩⟩
 ·cases q
end
end G
namespace Sh
open PySem PySem.Spec PyProof.Rows L2 G
def bq1:DS:=(A9 (T8 (A3 ab8 (A0 (A1 0) A2)) (P6 leI leI ⇑1 (A1 0) ⇑8)))
def aG8:List D->Option D:=J8 bq1 1
def bc2:DS:=(A6 (sIf (P8 (M5 (M1 (Z8 "tuple" (A1 0)))) (tB2 neD (V5 (A5 0)) ⇑3)) (A9 (dC (.bool false))) G7) (A9 (T8 (A3 aG8 (A0 (dIx (A5 0) ⇑0) A2)) (T8 (A3 aG8 (A0 (dIx (A5 0) ⇑1) A2)) (Z8 "tuple" (dIx (A5 0) ⇑2))))))
def bc9:List D->Option D:=J8 bc2 1
def bc4:DS:=(A6 (sIf (M5 (M1 (A3 bc9 (A0 (A1 0) A2)))) (A9 (dC (.bool false))) G7) (A6 (B0 1 (dIx (A5 0) ⇑2)) (A9 (T8 (A4 eqD (V5 (A5 1)) (A4 L6 (dIx (A5 0) ⇑0) (dIx (A5 0) ⇑1))) (ab1 (qN (G8 1 [] (L7 (A1 1)) (B1 0) K3 (A3 bq5 (A0 (A1 0) A2)))))))))
def bd0:List D->Option D:=J8 bc4 2
def ar9:DS:=(A9 (P0 (G8 1 [0] (O1 (A4 L6 (A1 0) (A1 1))) (B1 0) K3 (D4 (A0 (A4 Y1 (A1 0) (A1 1)) (A0 (A4 ac7 (A1 0) (A1 1)) A2))))))
def X8:List D->Option D:=J8 ar9 2
def as3:DS:=(A9 (T8 (P6 leI ltI ⇑0 (A1 1) (dIx (A5 0) ⇑0)) (P6 leI ltI ⇑0 (A1 2) (dIx (A5 0) ⇑1))))
def X9:List D->Option D:=J8 as3 3
def m8:DS:=(A9 (A4 C0 (A4 L6 (A1 2) (dIx (A5 0) ⇑0)) (A1 1)))
def Q5:List D->Option D:=J8 m8 3
def aq4:DS:=(A6 (sIf (M5 (M1 (A3 X9 (A0 (A1 0) (A0 (A1 1) (A0 (A1 2) A2)))))) (A9 (dC (.tuple [(.tuple [(.int 0),(.int 1)]),(.tuple [(.int 0),(.int 1)]),(.tuple [(.int 0),(.int 1)]),(.tuple [(.int 0),(.int 1)])]))) G7) (A9 (dIx (qE (dIx (A5 0) ⇑2)) (A3 Q5 (A0 (A1 0) (A0 (A1 1) (A0 (A1 2) A2)))))))
def aq7:List D->Option D:=J8 aq4 3
def aq5:DS:=(A6 (V3 4 (G8 1 [0,1] (O1 (A4 L6 (A1 2) (A1 3))) (B1 0) K3 (A3 U3 (A0 (A1 1) (A0 (A4 C0 (A1 2) (A4 L6 ⇑12 (A1 0))) A2))))) (A6 (sIf (tB2 eqD (A3 A7 (A0 (A1 0) (A0 (A4 C0 (A1 1) ⇑7) (A0 ⇑3 A2)))) ⇑0) (B0 4 (A4 L6 (u8 (A1 4) N6 (L4 ⇑1)) (A4 L6 (A1 2) (A1 3)))) G7) (A9 (D4 (A0 (A1 2) (A0 (A1 3) (A0 (O0 (A5 4)) A2)))))))
def ag6:List D->Option D:=J8 aq5 5
end Sh
namespace G
open PySem PySem.Spec PyProof.Rows L2
theorem aE9{prog:Program}{w:World}{A:Around}(hh:A.handled=none) (t:Bool) (it l:Addr) (hne:l≠it) (xs:Array Value):Draws prog w A it [it,l] xs.size (fun i x=>xs[i]? = some x) (fun i h=>SIt t h it l i/\SSq t h l xs):=by
 refine⟨fun i h ⟨a,_⟩=>?_,fun i h h' ⟨a,b⟩ k=>⟨a.ext fun o e=>k it (by simp) o e,b.ext fun o e=>k l (by simp) o e⟩,fun i s Q E hi ⟨a,b⟩ hQ=>?_,fun s Q E ⟨a,b⟩ hE=>al1 hh a b (by simp) hE⟩
 ·cases t with
  | true=>obtain⟨o,ho,_⟩:=a;exact⟨o,ho⟩
  | false=>obtain⟨o,ho,_⟩:=a;exact⟨o,ho⟩
 ·have hx:xs[i]? = some xs[i]:=by simp[hi]
  exact ad8 a b hx fun h' c sb=>hQ _ h' s.toks hx ⟨c,b.ext fun o e=>sb.extBut l o hne e⟩ sb
theorem bj6(l:Addr) (items:Array Value) (n:Nat) (dd:Option Addr) (sl:Array (Option Value)) :
  Meets (Builtin.«enumerate.__new__» ⟨[.type "enumerate", .ref l],[]⟩) (fun _ R s=>s.heap.get? l=some ⟨.type "tuple", dd,.seq items n,sl⟩ /\
   R (.ok (.ret (.ref (s.heap.push (am5 true l)).objs.size))) { s with heap:=(s.heap.push (am5 true l)).push { cls:=.type "enumerate", data:=.fields #[.none,.bool false,.ref s.heap.objs.size,rawInt 0,.none,.none] } }):=Meets.of_wp fun prog w A R s h=>by
 obtain⟨hp,g,d,tk,os⟩:=s
 obtain⟨hl,h⟩:=h
 have hsub:=sub_enumerate
 have q1:SSq true (Shared.heap ⟨hp,g,d,tk,os⟩) l items:=⟨_,hl,rfl,n,rfl⟩
 wp_walk using AutoSeq1.wpAny_loadPart' hl
 refine wpAny_stack_any fun st=>wpAny_pure ?_
 split
 ·rename_i c _ _ _ _ _
  cases(c==Value.type "enumerate")
  ·wp_walk using AutoSeq1.wpAny_loadPart' hl,ad9 q1
   exact⟨_,rfl,h⟩
  ·wp_walk using AutoSeq1.wpAny_loadPart' hl,ad9 q1
   exact⟨_,rfl,h⟩
 ·wp_walk using AutoSeq1.wpAny_loadPart' hl,ad9 q1
  exact⟨_,rfl,h⟩
section
variable {prog:Program}{w:World}{A:Around}{E:Value->Shared->Prop}{s:Shared}{t:Bool}
theorem aw2{l:Addr}{xs:Array Value}{Q:Value->Shared->Prop}(hl:SSq t s.heap l xs)
  (h:∀h',IsEnum h' (s.heap.objs.size+1) s.heap.objs.size 0 .none->SIt t h' s.heap.objs.size l 0->(∀c o,s.heap.get? c=some o->h'.get? c=some o)->Q (.ref (s.heap.objs.size+1)) { s with heap:=h' }) :
  wpAny (model prog w) A (call (.type "enumerate") [.ref l]) Q E s:=by
 cases t with
 | false=>exact call_enumerate_list hl fun h' a b _ d=>h h' a b d
 | true =>
  obtain⟨⟨cls,dd,data,sl⟩,ho,hc,n,hd⟩:=hl
  simp only at hc hd
  subst hc hd
  refine callType_new F.called_enumerate (by decide) (F.typeCall_enumerate_1 _) (F.newCall_enumerate_1 _) (fun obj=>F.args_object_init_2 obj _) F.entry_enumerate_new (bj6 l xs n dd sl) ⟨ho,?_⟩
  have z1:(s.heap.push (am5 true l)).objs.size=s.heap.objs.size+1:=Heap.size_push ..
  show _/\_
  rw[z1]
  have he:=Heap.get?_push_size (s.heap.push (am5 true l)) (o:={ cls:=.type "enumerate", data:=.fields #[.none,.bool false,.ref s.heap.objs.size,rawInt 0,.none,.none] }) rfl
  rw[z1]at he
  exact⟨⟨_,he,rfl⟩,h _ he ((aI1 (h:=s.heap) (l:=l) true).ext fun o e=>Heap.get?_push_of_some _ e) fun c o e=>Heap.get?_push_of_some _ (Heap.get?_push_of_some _ e)⟩
theorem aE8{e it l:Addr}{i:Int}{k:Nat}{xs:Array Value}{old:Value}{Q:Option Value->Shared->Prop}(hh:A.handled=none) (he:IsEnum s.heap e it i old) (hit:SIt t s.heap it l k) (hl:SSq t s.heap l xs) (hx:xs[k]? = none)
  (hQ:∀h',Heap.ExtBut it s.heap h'->Q none { s with heap:=h' }):wpAny (model prog w) A (pyNext (.ref e)) Q E s:=by
 have hT:s.TypeIs (.ref e) "enumerate" := ⟨_,he,rfl⟩
 unfold pyNext
 refine wpAny_bind (wpAny_attempt (wpAny_callSpecial?_slot (name:=Str.ofString "__next__") hT F.slot_enumerate_next (wpAny_call_entry F.slot_enumerate_next hT F.entry_enumerate_next ?_ (F.args_enumerate_next_1 _))))
 show wpAny _ _ (field (.ref e) 2 >>= _) _ _ _
 refine wpAny_bind (wpAny_field he rfl (x:=.ref it) rfl (wpAny_bind (al1 hh hit hl hx fun h' x he' hx'=>?_)))
 obtain⟨o,ho,hc⟩:=hx'
 exact wpAny_bind (wpAny_isInstance (T := "StopIteration") (b:=true) ⟨o,ho,hc⟩ isSubtype_stop (wpAny_pure (hQ _ he')))
end
def Ite(K:PySem.W.Frag) (t:Bool) (a:Addr):It :=
  ⟨fun i H=>∃xs x,Sq K t H a xs/\xs[i]? = some x,
   fun i H v H'=>∃T x,v=.ref T/\H T=none/\H'=upd H T (.tup [.int i,x])/\∀xs,Sq K t H a xs->xs[i]? = some x,
   fun i H=>∃xs,Sq K t H a xs/\xs.length<=i⟩
theorem bj0{P:Program}{w:World}{K:PySem.W.Frag}{elts:List Expr}{k0:Nat}{pos:Pos}{t:Bool}{e it a:Addr}(h1:e≠it) (h2:a≠e) (h3:a≠it) :
  Turn P w K (.Tuple elts k0 pos) (Ite K t a) [e,it] e (fun i h=>(∃old,IsEnum h e it i old)/\SIt t h it a i) where
 mem:=by simp
 obj:=fun i h ⟨⟨old,he⟩,hi⟩ c hc=>by
  simp only[List.mem_cons,List.not_mem_nil,or_false]at hc
  rcases hc with rfl|rfl
  ·exact⟨_,he,fun v q=>by cases q⟩
  ·cases t with
   | true=>obtain⟨o,ho,_,hd⟩:=hi;exact⟨o,ho,fun v q=>by rw[hd]at q;cases q⟩
   | false=>obtain⟨o,ho,_,hd⟩:=hi;exact⟨o,ho,fun v q=>by rw[hd]at q;cases q⟩
 keep:=fun i h h' ⟨⟨old,he⟩,hi⟩ hk=>⟨⟨old,hk e (by simp) _ he⟩,hi.ext fun o q=>hk it (by simp) o q⟩
 item:=by
  intro X hP hw hK hc i pins s σ H E I hf ⟨⟨old,he⟩,hi⟩ hg
  subst hP hw hK
  obtain⟨xs,x,q1,ex⟩:=hg
  obtain⟨us,r1,p1,lt1⟩:=U5 I q1
  obtain⟨ux,eux,rx⟩:=r1.get ex
  have hlt:i < us.toArray.size:=by rw[List.size_toArray];exact(List.getElem?_eq_some_iff.mp eux).1
  refine wpAny_pyNext_enum_itemD (aE9 (A:=X.A.in1) (I.ok.hd hc) t it a h3 us.toArray) he ⟨hi,p1⟩ hlt h1 (by simp only[List.mem_cons,List.not_mem_nil,or_false,not_or];exact⟨h1,fun z=>h2 z.symm⟩) fun y h' tk hy ho hst hT hsz hk=>⟨_,rfl,wpAny_letOwnedTupleGo_enum ho fun h'' c1 c2=>?_⟩
  have ey:y=ux:=by
   have:us[i]? = some y:=by simpa using hy
   rw[eux]at this
   exact(Option.some.inj this).symm
  subst ey
  have neT:∀c o,s.heap.get? c=some o->c≠s.heap.objs.size:=fun c o q=>Nat.ne_of_lt (Heap.lt_size q)
  have up:∀c o,c≠e->h'.get? c=some o->h''.get? c=some o:=fun c o n q=>c2.extBut c o n q
  refine⟨.ref s.heap.objs.size,upd H s.heap.objs.size (.tup [.int i,x]),Y2 (s:=s) (h':=h'') (t':=tk+1) (ch:=[e,it]) I hf (Nat.le_refl _) (fun c u hc q=>?_) ?_,rfl,⟨_,x,rfl,I.hok.fresh (Nat.le_refl _),rfl,fun zs hz'=>by rw[aW6 I hz' q1];exact ex⟩,⟨⟨_,by simpa using c1⟩,hst.1.ext fun o q=>up it o h1.symm q⟩,fun c hc=>?_⟩
  ·simp only[List.mem_cons,List.not_mem_nil,or_false,not_or]at hc
   exact up c u hc.1 (hk c u hc.1 hc.2 q)
  ·refine⟨by show 2<=sizeLine;decide,[.int i tk,y],.cons ⟨tk,rfl⟩ (.cons rx .nil),_,up _ _ ?_ hT,rfl,⟨_,rfl⟩,rfl⟩
   exact fun q=>neT e _ he q.symm
  ·have lt:c < s.heap.objs.size:=by
    simp only[List.mem_cons,List.not_mem_nil,or_false]at hc
    rcases hc with rfl|rfl
    ·exact Heap.lt_size he
    ·exact hi.lt
   rw[J0 (Nat.ne_of_lt lt)]
   exact(hf c hc).1
 done:=by
  intro X hP hw hK hc i pins s σ H E I hf ⟨⟨old,he⟩,hi⟩ hg
  subst hP hw hK
  obtain⟨xs,q1,hl⟩:=hg
  obtain⟨us,r1,p1,lt1⟩:=U5 I q1
  have l1:=r1.length
  refine aE8 (I.ok.hd hc) he hi p1 (by simp;omega) fun h' hk=>⟨rfl,V1 (t':=s.toks) (ch:=[e,it]) I hf fun c u hc q=>?_⟩
  simp only[List.mem_cons,List.not_mem_nil,or_false,not_or]at hc
  exact hk c u hc.2 q
 self:=fun _ _ _ _ _ st h=>by
  obtain⟨⟨old,he⟩,_⟩:=st
  exact wpAny_pyIter_enum he h
section
variable {X:Cx}
def Y4(ds:List D):List D:=(List.range ds.length).zip ds |>.map fun(k,d)=>PyData.tuple [.int (k:Nat),d]
def am7(f:Rho->Option (Bool×List D)):Rho->Option (List D):=fun ρ=>(f ρ).map fun q=>Y4 q.2
theorem ae8(ds:List D) (i:Nat):(Y4 ds)[i]? = (ds[i]?).map fun d=>.tuple [.int i,d]:=by
 unfold Y4
 rw[List.getElem?_map]
 cases e:ds[i]? with
 | none =>
  have:ds.length<=i:=by simpa using e
  have z:((List.range ds.length).zip ds)[i]? = none:=by simp;omega
  rw[z];rfl
 | some d =>
  have hi:=(List.getElem?_eq_some_iff.mp e).1
  have z:((List.range ds.length).zip ds)[i]? = some (i,d):=List.getElem?_zip_eq_some.mpr ⟨by simp[hi],e⟩
  rw[z];rfl
theorem V7(ds:List D):(Y4 ds).length=ds.length:=by unfold Y4;simp
theorem aN7{K:PySem.W.Frag}{t:Bool}{a:Addr}{vs:List V}{ds:List D}{Hf1:Hp}(h1:Sq K t Hf1 a vs) (r1:Reps K Hf1 ds vs):aM6 K (Ite K t a) (Y4 ds) Hf1:=by
 have mono:∀{t:Bool}{a:Addr}{xs:List V}{H H':Hp},L0 H H'->Sq K t H a xs->Sq K t H' a xs:=fun{t a xs H H'} e h=>by
  cases t with
  | true=>exact K8 e h
  | false=>exact M7 e h
 intro i H Hf sa sb
 have m1:=mono (sa.trans sb) h1
 have l1:=r1.length
 refine⟨fun hi=>⟨vs,m1,by rw[V7]at hi;omega⟩,fun d hd=>?_⟩
 rw[ae8]at hd
 obtain⟨x,q1,q2⟩:=xmo hd
 subst q2
 obtain⟨vx,e1,e2⟩:=r1.get q1
 refine⟨⟨vs,vx,m1,e1⟩,fun v H' ⟨T,x',z1,z2,z3,z4⟩=>?_⟩
 subst z1 z3
 have w1:=z4 vs m1
 rw[e1]at w1
 cases w1
 have nf:Hf T=none:=sb.free z2
 exact⟨upd Hf T (.tup [.int i,vx]),Grow.laid sb z2,T,[.int i,vx],rfl,SqT.of J9,.int i,[vx],rfl,rfl,vx,[],rfl,(e2.mono sa).mono (L5 nf),rfl⟩
theorem bP5{elts:List Expr}{k0:Nat}{tpos:Pos}{a:Expr}{f:DE}{p pos:Pos}(hg:Gl X "enumerate") (hm:X.mg "enumerate" = none) (ha:JE X a f) (hs:starEach [a] X.env=[(false,eval a X.env)]:=by rfl) :
  JI X (.Tuple elts k0 tpos) (.Call (.Name "enumerate" p) [a] [] pos) (am7 (qE f)):=fun ρ out q=>by
 obtain⟨⟨t1,ds⟩,e1,q⟩:=xmo q
 subst q
 obtain⟨d1,e1,e1'⟩:=xbo e1
 intro pins s σ H R I ⟨H0,Hf,ss,sl,k⟩
 refine Call_ (ai9 I hg hm rfl (PyProof.Rows.callWith_type1 (thn (P4 (ha ρ d1 e1) T7 (by rw[hs];rfl) pos pins s σ H
  (fun vs H'=>∃v Hf',vs=[v]/\Grow H Hf H' Hf'/\Rep X.K Hf' d1 v) I ⟨H0,Hf,ss,sl,fun v H1 Hf1 g1 r1=>⟨v,Hf1,rfl,g1,r1⟩⟩) fun us s1 ⟨vs,H1,I1,r1,v,Hf1,ev,gr,p1⟩=>?_) (by rw[hs];rfl) (by rfl)))
 subst ev
 obtain⟨uv,rfl,rv⟩:=r1.one
 obtain⟨a1,vs1,rfl,w1,w2⟩:=p1.seq (L0.refl Hf1) e1'
 cases rv
 have mono:∀{t:Bool}{a:Addr}{xs:List V}{H H':Hp},L0 H H'->Sq X.K t H a xs->Sq X.K t H' a xs:=fun{t a xs H H'} e h=>by
  cases t with
  | true=>exact K8 e h
  | false=>exact M7 e h
 obtain⟨us1,rr1,hp1,lt1⟩:=U5 I1 (mono gr.sub w1)
 refine aw2 hp1 fun h' b1 b2 b3=>?_
 have I2:Inv X pins σ H1 { s1 with heap:=h' }:=I1.kept (t':=s1.toks) b3
 refine wpAny_pyIter_enum b1 ⟨_,_,_,_,H1,rfl,I2,bj0 (e:=s1.heap.objs.size+1) (it:=s1.heap.objs.size) (a:=a1) (Nat.succ_ne_self _) (Nat.ne_of_lt (Nat.lt_succ_of_lt lt1)) (Nat.ne_of_lt lt1),⟨⟨_,b1⟩,b2⟩,fun b hb=>?_,k _ H1 Hf1 gr (aN7 w1 w2)⟩
 have hb':s1.heap.objs.size<=b:=by
  simp only[List.mem_cons,List.not_mem_nil,or_false]at hb
  rcases hb with rfl|rfl
  ·exact Nat.le_add_right _ _
  ·exact Nat.le_refl _
 exact I1.fpOk hb' (I1.hok.fresh hb')
end
section
variable {prog:Program}{w:World}{A:Around}{E:Value->Shared->Prop}{s:Shared}
theorem aw1{l b sl:Addr}{items new:Array Value}{n n2:Nat}{vl vu:Value}{lo hi:Option Int}{Q:Unit->Shared->Prop}
    (e:s.heap.get? l=some { cls:=.type "list", data:=.seq items n }) (e2:s.heap.get? b=some { cls:=.type "list", data:=.seq new n2 }) (hne:l≠b)
    (hs:s.heap.IsSliceOf sl vl vu .none) (pl:IsPart vl lo) (pu:IsPart vu hi) (hsz:items.size+new.size<=sizeLine)
    (h:Q () { s with heap:=s.heap.update l (Obj.mapSeq fun xs=>xs.extract 0 (HT.sIx items.size 0 lo)++new++xs.extract (max (HT.sIx items.size 0 lo) (HT.sIx items.size items.size hi)) xs.size) }) :
    wpAny (model prog w) A (setItem (.ref l) (.ref sl) (.ref b)) Q E s:=by
  have hl:s.heap.IsList l items:=PySem.IsL.isList e
  have hb:s.heap.IsList b new:=PySem.IsL.isList e2
  obtain⟨os,hos,hcs,hds⟩:=id hs
  have hTs:s.TypeIs (.ref sl) "slice" := ⟨os,hos,hcs⟩
  have hstep:¬((rawPart none==rawInt 0)=true):=Bool.false_ne_true
  have hsame:Builtin.List.listSameRef (.ref l) (.ref b)=false:=by
    unfold Builtin.List.listSameRef
    exact beq_eq_false_iff_ne.mpr hne
  have hbd:sliceBounds lo hi none items.size=(((HT.sIx items.size 0 lo:Nat):Int),((HT.sIx items.size items.size hi:Nat):Int),1):=by
    obtain⟨h1,h2,h3⟩:=al0 lo hi items.size
    exact Prod.ext h1 (Prod.ext h2 h3)
  have hmax:(max ((HT.sIx items.size 0 lo:Nat):Int) ((HT.sIx items.size items.size hi:Nat):Int)).toNat=max (HT.sIx items.size 0 lo) (HT.sIx items.size items.size hi):=by omega
  have hz':((fun xs:Array Value=>xs.extract 0 (HT.sIx items.size 0 lo)++new++xs.extract (max (HT.sIx items.size 0 lo) (HT.sIx items.size items.size hi)) xs.size) items).size<=sizeLine+1:=by
    simp only[Array.size_append,Array.size_extract]
    omega
  unfold setItem
  try with_reducible refine wpAny_holding ?_
  first|refine wpAny_bind (wpAny_pure ?_)|skip
  refine wpAny_bind (wpAny_sequenceKey hl.typeIs (by decide) ?_)
  refine wpAny_bind (wpAny_callSpecial?_slot (name:=Str.ofString "__setitem__") hl.typeIs slot_list_setitem (wpAny_call_entry slot_list_setitem hl.typeIs entry_list_setitem ?_ (args_list_setitem _ _ _)))
  show wpAny _ _ (Builtin.List.listSubscript? (.ref sl) >>= _) _ _ s
  refine wpAny_bind ?_
  unfold Builtin.List.listSubscript?
  refine wpAny_bind (wpAny_specialOf hTs slice_no_index ?_)
  simp only[Option.isNone_none,if_true]
  refine wpAny_pure ?_
  show wpAny _ _ (typeOf (.ref sl) >>= _) _ _ s
  refine wpAny_bind (wpAny_typeOf hTs ?_)
  first
    | rw[if_neg (by decide)]
    | refine PySem.W.KFB.if_not (by decide) ?_
  rw[listSliceParts_eq]
  refine wpAny_bind (wpAny_bind (wpAny_field hos hds (x:=.none) rfl (wpAny_bind (wpAny_listPart .none ?_))))
  rw[if_neg hstep]
  refine wpAny_bind (wpAny_field hos hds (x:=vl) rfl (wpAny_bind (wpAny_listPart pl ?_)))
  refine wpAny_bind (wpAny_field hos hds (x:=vu) rfl (wpAny_bind (wpAny_listPart pu (wpAny_pure ?_))))
  first
    | simp only[hsame,xft,if_false]
    | refine PySem.W.KFB.if_not hsame ?_
    | (dsimp only
       rw[if_neg (by rw[hsame];exact Bool.false_ne_true)])
  refine wpAny_bind (m:=Builtin.List.listAllItems (.ref b) "must assign iterable to extended slice") ?_
  unfold Builtin.List.listAllItems
  refine wpAny_bind (wpAny_typeOf hb.typeIs ?_)
  first
    | refine PySem.W.KFB.if_so (by decide) ?_
    | rw[if_pos (by decide)]
    | simp only[beq_self_eq_true,Bool.true_or,if_true]
  unfold Builtin.List.listItems
  refine wpAny_bind (wpAny_seqItems e2 rfl (wpAny_pure ?_))
  refine wpAny_bind (wpAny_bind (wpAny_seqItems e rfl (wpAny_pure ?_)))
  refine wpAny_bind (wpAny_of_eq ((sliceIndices_raw lo hi none items.size (by simp)).trans (congrArg (pure:Int×Int×Int->Sem (Int×Int×Int)) hbd)) ?_)
  show wpAny _ _ (if((1:Int)==1)=true then _ else _) _ _ s
  rw[if_pos (by decide)]
  refine wpAny_bind (wpAny_rule ?_)
  first
    | simp only[ae4 hsz,xft,if_false]
    | refine PySem.W.KFB.if_not (ae4 hsz) ?_
  first|refine wpAny_bind (wpAny_pure ?_)|skip
  show wpAny _ _ (updateSeq l (fun xs=>xs.extract 0 (((HT.sIx items.size 0 lo:Nat):Int)).toNat++new++xs.extract (max ((HT.sIx items.size 0 lo:Nat):Int) ((HT.sIx items.size items.size hi:Nat):Int)).toNat xs.size) >>= _) _ _ s
  rw[hmax,Int.toNat_natCast]
  refine wpAny_bind (wpAny_updateSeq (hz:=Nat.le_trans (Nat.le_add_right _ _) hsz) (_hz':=hz') e rfl ?_)
  refine wpAny_bind (wpAny_letGo ?_)
  first
    | exact wpAny_bind (wpAny_pure (wpAny_pure ⟨.none,rfl,wpAny_pure h⟩))
    | exact wpAny_pure ⟨.none,rfl,wpAny_pure h⟩
end
section
variable {X:Cx}
def av8{α:Type}(xs:List α) (lo hi:Option Int) (ys:List α):List α:=xs.take (HT.sIx xs.length 0 lo)++ys++xs.drop (max (HT.sIx xs.length 0 lo) (HT.sIx xs.length xs.length hi))
theorem aW9{pins:List (Addr×Obj)}{s:Shared}{σ:L2.St}{H:Hp}{l b sl:Addr}{xs ys:List V}{lo hi:Option Int}{vl vu:Value}{Q:Unit->Shared->Prop}(I:Inv X pins σ H s)
  (hH:H l=some (.lst xs)) (hB:H b=some (.lst ys)) (hne:l≠b) (hs:s.heap.IsSliceOf sl vl vu .none) (pl:IsPart vl lo) (pu:IsPart vu hi)
  (hz:xs.length+ys.length<=sizeLine) (h:∀s',Inv X pins σ (upd H l (.lst (av8 xs lo hi ys))) s'->Q () s') :
  wpAny (model X.prog X.w) X.A (setItem (.ref l) (.ref sl) (.ref b)) Q X.xe s:=by
 obtain⟨z,its,n,r,hl,e⟩:=I.lstM hH
 obtain⟨z2,its2,n2,r2,hl2,e2⟩:=I.lstM hB
 refine aw1 e e2 hne hs pl pu (by rw[List.size_toArray,List.size_toArray];omega) (h _ ?_)
 have hz0:its.toArray.size=xs.length:=by rw[List.size_toArray];exact hl.symm
 refine I.lset (its':=its.take (HT.sIx xs.length 0 lo)++its2++its.drop (max (HT.sIx xs.length 0 lo) (HT.sIx xs.length xs.length hi))) (t':=s.toks) hH e ?_ (M0.append (M0.append (r.take _) r2) (r.drop _)) ?_
 ·have e0:=bj4 its its2 (HT.sIx xs.length 0 lo) (max (HT.sIx xs.length 0 lo) (HT.sIx xs.length xs.length hi))
  rw[hz0]at e0 ⊢
  exact e0
 ·unfold av8
  rw[List.length_append,List.length_append,List.length_take,List.length_drop]
  omega
theorem bt8{K:PySem.W.Frag}{H:Hp}{ds es:List D}{vs us:List V}(h:Reps K H ds vs) (g:Reps K H es us) (lo hi:Option Int):Reps K H (av8 ds lo hi es) (av8 vs lo hi us):=by
 unfold av8
 rw[h.length]
 exact((h.take _).append g).append (h.drop _)
theorem Slots.reOwn{K:PySem.W.Frag}{H0 H Hf:Hp}{ρ:Rho}{σ:L2.St}{i:Nat}{ds ds':List D}{b:Addr}{vs':List V}(sl:Slots K H0 ρ σ H Hf) (eo:ρ[i]? = some (some (.own ds))) (h1:σ[i]? = some (some (.ref b))) (hf:Hf b=none) (h0:H0 b=none) (r:Reps K Hf ds' vs') :
  Slots K H0 (ρ.set i (some (.own ds'))) σ (upd H b (.lst vs')) Hf:=by
 refine⟨by simpa using sl.len,fun j bb z=>?_,fun j k ds1 es c q1 q2 q3 q4=>?_⟩
 ·by_cases qj:i=j
  ·subst qj
   have hi:i < ρ.length:=(List.getElem?_eq_some_iff.mp eo).1
   rw[List.getElem?_set_self hi]at z
   cases z
   exact⟨_,h1,b,vs',rfl,J9,hf,h0,r⟩
  ·rw[List.getElem?_set_ne qj]at z
   obtain⟨u,z1,z2⟩:=sl.is j bb z
   refine⟨u,z1,?_⟩
   cases bb with
   | val d=>exact z2
   | exc C=>exact z2
   | own dd =>
    obtain⟨a',us',y1,y2,y3,y4,y5⟩:=z2
    have ne:a'≠b:=fun zz=>by
     subst zz y1
     exact qj (sl.apart i j ds dd a' eo z h1 z1)
    exact⟨a',us',y1,by rw[J0 ne];exact y2,y3,y4,y5⟩
 ·have f:∀(j:Nat) (es:List D),(ρ.set i (some (B.own ds')))[j]? = some (some (B.own es))->∃dd:List D,ρ[j]? = some (some (B.own dd)):=fun j es q=>by
   by_cases qj:i=j
   ·subst qj;exact⟨ds,eo⟩
   ·rw[List.getElem?_set_ne qj]at q;exact⟨_,q⟩
  obtain⟨d1,q1'⟩:=f j _ q1
  obtain⟨d2,q2'⟩:=f k _ q2
  exact sl.apart j k d1 d2 c q1' q2' q3 q4
def bt4(i:Nat) (lo hi:Rho->Option (Option Int)) (f:Rho->Option (List D)):DS:=fun ρ=>(f ρ).bind fun es=>(lo ρ).bind fun l=>(hi ρ).bind fun h=>match ρ[i]? with
 | some (some (.own ds))=>if ds.length+es.length<=16777216 then some (.nx (ρ.set i (some (.own (av8 ds l h es))))) else none
 | _=>none
theorem ce2(i:Nat) {x:Str}{e:Expr}{lo hi:Option Expr}{f:Rho->Option (List D)}{l h:Rho->Option (Option Int)}{p p2 pos' pos:Pos}(he:JN X e f) (hl:JO X lo l) (hh:JO X hi h) (hN:X.N[i]? = some x:=by rfl)
  (hv:Vis X.env.scope x:=by first|exact Or.inl rfl|exact Or.inr (Or.inl rfl)|exact Or.inr (Or.inr rfl)) (hd:(x==("__debug__" : Str))=false:=by decide) (hcd:(x==("__classdict__" : Str))=false:=by decide)
  (hsw:swapsWith e (some (.Subscript (.Name x p) (.Slice lo hi none p2) pos')) pos.line X.env=pure false:=by rfl):JS X (.Assign [.Subscript (.Name x p) (.Slice lo hi none p2) pos'] e pos) (bt4 i l h f):=fun ρ fl q H0 Hf0=>by
 obtain⟨es,e1,q⟩:=xbo q
 obtain⟨y,e2,q⟩:=xbo q
 obtain⟨z,e3,q⟩:=xbo q
 split at q
 ·rename_i ds eo
  split at q
  ·rename_i hz
   cases q
   intro pins s σ H En I ⟨Hf,a,ee⟩
   refine wpAny_Assign_Subscript (thn (he ρ es e1 pins s σ H (fun v H'=>∃Hf',Grow H Hf H' Hf'/\∃b us,v=.ref b/\H b=none/\H' b=some (.lst us)/\Hf' b=none/\Reps X.K Hf' es us) I ⟨H0,Hf,a.gr.sub,a.sl,fun v H' Hf' g r=>⟨Hf',g,r⟩⟩) fun v s1 ⟨x1,H1,I1,r1,Hf1,g1,b,us,ev,b1,b2,b3,b4⟩=>?_) hsw
   subst ev
   cases r1
   obtain⟨vl0,h1,c,vs,ev,h2,h3,h4,h5⟩:=a.sl.is i _ eo
   subst ev
   refine thn (ae2 hN hv hd hcd pins s1 σ H1 (fun v H'=>v=.ref c/\H'=H1) I1 ⟨_,h1,rfl,rfl⟩) fun ov s2 ⟨x2,H2,I2,r2,ex,eH⟩=>?_
   subst ex eH
   cases r2
   have sl1:=a.sl.grow g1
   refine wpAny_Slice (thn (hl ρ y e2 pins s2 σ H2 (fun o H'=>o=y/\∃Hf',Grow H2 Hf1 H' Hf') I2 ⟨H0,Hf1,g1.sub,sl1,fun H' Hf' g=>⟨rfl,Hf',g⟩⟩) fun wl s3 ⟨o3,H3,I3,pl,eo3,Hf3,g3⟩=>?_)
   subst eo3
   have sl3:=sl1.grow g3
   refine thn (hh ρ z e3 pins s3 σ H3 (fun o H'=>o=z/\∃Hf',Grow H3 Hf3 H' Hf') I3 ⟨H0,Hf3,g3.sub,sl3,fun H' Hf' g=>⟨rfl,Hf',g⟩⟩) fun wu s4 ⟨o4,H4,I4,pu,eo4,Hf4,g4⟩=>?_
   subst eo4
   have sl4:=sl3.grow g4
   have gg:Grow H Hf H4 Hf4:=(g1.trans g3).trans g4
   rw[evalPart_none]
   refine wpAny_pure ?_
   have I5:Inv X pins σ H4 { s4 with heap:=s4.heap.push { cls:=.type "slice", data:=.fields #[wl,wu,.none] } }:=I4.kept (t':=s4.toks) fun b ob q=>Heap.get?_push_of_some _ q
   have hc:H4 c=some (.lst vs):=gg.big _ _ h2
   have hb:H4 b=some (.lst us):=(g3.trans g4).big _ _ b2
   have hcb:c≠b:=fun zz=>by subst zz;rw[h2]at b1;cases b1
   have hfc:Hf4 c=none:=gg.nofr h2 h3
   have rd:Reps X.K Hf4 (av8 ds o3 o4 es) (av8 vs o3 o4 us):=bt8 (h5.mono gg.ext) (b4.mono (g3.trans g4).ext) _ _
   refine aW9 I5 hc hb hcb (Heap.IsSliceOf.new ..) pl pu (by rw[h5.length,b4.length,sizeLine_eq];exact hz) fun s' I'=>?_
   have ga:=a.gr.trans gg
   refine⟨σ,_,I',ee σ _ Hf4 ⟨⟨fun d u zz=>?_,fun d u zz=>?_,ga.ext,ga.new⟩,sl4.reOwn eo h1 hfc h4 rd⟩ gg.ext⟩
   ·rw[J0 (K2 zz h4)];exact ga.big d u zz
   ·rw[J0 (K2 zz hfc)];exact ga.sub d u zz
  ·cases q
 ·cases q
theorem bO4(i:Nat) {N':List Str}{n:Nat}{caps:List Nat}{scope:Scope}{elt tgt iter:Expr}{ifs:List Expr}{pos pos' spos:Pos}{x:Str}{src:Rho->Option (List D)}{g:D->Rho->Option Rho}{c:Rho->Option Bool}{e:DE}(hN:X.N.Nodup) (S:CompSc X N' n caps scope) (hx:∀e s,X.xe e s->False)
  (hi:JI X tgt iter src) (hg:∀C s0 H0 ex,JG (M9 X N' scope C s0 H0 ex) tgt g) (ht:∀C s0 H0 ex,JTs (M9 X N' scope C s0 H0 ex) ifs c) (he:∀C s0 H0 ex,JE (M9 X N' scope C s0 H0 ex) elt e)
  (hi2:X.N[i]? = some x:=by rfl) (hl:X.env.scope.names.lookup x=some .local:=by rfl) (hsw:swapsWith (.ListComp elt [⟨tgt,iter,ifs,0⟩] scope pos) (some (.Name x pos')) spos.line X.env=pure true:=by rfl)
  (hc:X.calm=true:=by rfl) (hs:∀x,foldedSetIterable iter X.env x=pure x:=by intro _;rfl):JS X (.Assign [.Name x pos'] (.ListComp elt [⟨tgt,iter,ifs,0⟩] scope pos) spos) (U1 i (G8 n caps src g c e)):=fun ρ fl q H0 Hf0=>by
 obtain⟨out,e1,e2⟩:=xmo q
 subst e2
 obtain⟨ds,e3,k⟩:=aj4 (K:=X.K) e1
 refine S2 (aw7 S hx hc hN hi2 hl (hi ρ ds e3) (g:=tgJ X.K g) (tc:=aD1 X.K c) (te:=bd3 X.K e) hg ht (fun C s0 H0 ex pins s σ H Q I ⟨ρ,d,e,t⟩=>he C s0 H0 ex ρ d e pins s σ H Q I t) hsw hs) fun En σ H ⟨Hf,a,ee⟩=>k σ H _ ⟨H0,Hf,a.gr.sub,a.sl,fun v H' Hf' gg ⟨p,vs,z1,z2,z3,z4,z5⟩=>?_⟩
 subst z1
 exact ee _ H' Hf' ⟨a.gr.trans gg,a.sl.setOwn gg (a.gr.big.free z2) z2 z3 z4 z5⟩ gg.ext
def aO6:DS:=fun ρ=>some (.ct ρ)
theorem bO5{pos:Pos}:JS X (.Continue pos) aO6:=fun ρ fl q H0 Hf0=>by
 cases q
 exact S2 aP0 fun En σ H ⟨Hf,a,e⟩=>e σ H Hf a (L0.refl _)
end
section
variable {X:Cx}
def as6(x:Str) (k:Int):Str:=if(k==1 || x.length==0)=true then x else⟨(List.replicate k.toNat x.cps).foldl (·++·) #[]⟩
def bk7(x y:D):Option D:=match x,y with
 | .str x,.int k=>if 1<=k/\k<=2/\x.length<=1000/\(as6 x k).length<=16777216 then some (.str (as6 x k)) else none
 | _,_=>none
theorem bM4:OpD X (binaryOp .Mult) bk7:=fun x y z h=>by
 unfold bk7 at h
 split at h
 ·split at h
  ·rename_i x k c
   cases h
   intro pins s σ H vx vy v u Q I rx ry ⟨Hf,ss,r1,r2,kk⟩
   cases r1
   cases r2
   obtain⟨t,rfl⟩:=rx
   obtain⟨t2,rfl⟩:=ry
   have w:=kk (.str (as6 x k)) H Hf (Grow.refl ss) rfl
   have k12:k=1\/k=2:=by omega
   refine P.mul_str (by rw[decide_eq_false (by omega),decide_eq_false (by omega)];rfl) (fun _ _=>by rcases k12 with rfl|rfl<;>omega) (fun _ _=>?_) ?_
   ·unfold Builtin.Str.tooLong
    rw[sizeLine_eq]
    refine decide_eq_false ?_
    rcases k12 with rfl|rfl<;>simp<;>omega
   ·rw[if_neg (by omega)]
    unfold as6 at w c
    split
    ·rename_i e
     rw[if_pos e]at w
     exact⟨.str x,H,I,⟨_,rfl⟩,w⟩
    ·rename_i e
     rw[if_neg e]at w c
     exact⟨by rw[sizeLine_eq];exact c.2.2.2,.str _,H,I.tok _,⟨_,rfl⟩,w⟩
  ·cases h
 ·cases h
def slS(x:Str) (lo hi:Option Int):Str:=if((1:Int)==1&&(Builtin.Str.strSliceIndices lo hi 1 x.length).length==x.length)=true then x else⟨((Builtin.Str.strSliceIndices lo hi 1 x.length).filterMap (x.cps[·]?)).toArray⟩
def bo5(f:DE) (lo hi:Rho->Option (Option Int)):DE:=fun ρ=>(f ρ).bind fun d=>(lo ρ).bind fun l=>(hi ρ).bind fun h=>match d with
 | .str x=>if x.length<=1000/\(slS x l h).length<=16777216 then some (.str (slS x l h)) else none
 | _=>none
theorem be5{u:Value}{o:Option Int}(h:IsPart u o):∃p:Option (Int×Tok),u=partValue p/\p.map (·.1)=o:=by
 cases h with
 | none=>exact⟨none,rfl,rfl⟩
 | int i t=>exact⟨some (i,t),rfl,rfl⟩
theorem bJ0:SlR X (fun x lo hi H Q=>∃z,x=.str z/\(slS z lo hi).length<=16777216/\Q (.str (slS z lo hi)) H):=by
 intro pins s σ H x v vl vu lo hi sl Q I rx hs pl pu h
 obtain⟨z,rfl,hz,q⟩:=h
 obtain⟨t,rfl⟩:=rx
 obtain⟨pl',rfl,rfl⟩:=be5 pl
 obtain⟨pu',rfl,rfl⟩:=be5 pu
 refine⟨"str", _,F.slot_str_getitem.lookup,typeIs_str s z t,wpAny_getItem_str_slice (l:=pl') (u:=pu') (st:=none) hs rfl ?_⟩
 show(if((1:Int)==1&&(Builtin.Str.strSliceIndices (pl'.map (·.1)) (pu'.map (·.1)) 1 z.length).length==z.length)=true then Made.val (.str z t) else Made.str ⟨((Builtin.Str.strSliceIndices (pl'.map (·.1)) (pu'.map (·.1)) 1 z.length).filterMap (z.cps[·]?)).toArray⟩).post _ _
 unfold slS at q hz
 by_cases e:((1:Int)==1&&(Builtin.Str.strSliceIndices (pl'.map (·.1)) (pu'.map (·.1)) 1 z.length).length==z.length)=true
 ·rw[if_pos e]at q ⊢
  exact⟨.str z,H,I,⟨_,rfl⟩,q⟩
 ·rw[if_neg e]at q hz ⊢
  exact⟨by rw[sizeLine_eq];exact hz,.str _,H,I.tok _,⟨_,rfl⟩,q⟩
theorem cg1{a:Expr}{lo hi:Option Expr}{f:DE}{l h:Rho->Option (Option Int)}{pos p2:Pos}(ha:JE X a f) (hl:JO X lo l) (hh:JO X hi h):JE X (.Subscript a (.Slice lo hi none p2) pos) (bo5 f l h):=fun ρ d q=>by
 obtain⟨x,e1,q⟩:=xbo q
 obtain⟨y,e2,q⟩:=xbo q
 obtain⟨z,e3,q⟩:=xbo q
 cases x with
 | str x =>
  simp only at q
  split at q
  ·rename_i c
   cases q
   refine K7 (al7 bJ0 (ha ρ _ e1) (hl ρ y e2) (hh ρ z e3)) fun σ H Q ⟨H0,Hf,s,sl,k⟩=>?_
   refine⟨H0,Hf,s,sl,fun v H1 Hf1 g1 r1=>⟨H0,Hf1,g1.sub,sl.grow g1,fun H2 Hf2 g2=>⟨H0,Hf2,g2.sub,sl.grow (g1.trans g2),fun H3 Hf3 g3=>?_⟩⟩⟩
   exact⟨x,r1,c.2,k _ H3 Hf3 ((g1.trans g2).trans g3) rfl⟩
  ·cases q
 | _=>cases q
def aI2(i:Nat) (f:DE):DS:=fun ρ=>match ρ[i]? with
 | some (some (.own ds))=>(f ρ).bind fun d=>match d with
  | .list es=>if ds.length+es.length<=16777216 then some (.nx (ρ.set i (some (.own (ds++es))))) else none
  | .tuple es=>if ds.length+es.length<=16777216 then some (.nx (ρ.set i (some (.own (ds++es))))) else none
  | _=>none
 | _=>none
end
end G
namespace Sh
open PySem PySem.Spec PyProof.Rows L2 G
def bp8:DS:=(A9 (dIx (A5 0) ⇑0))
def ag8:List D->Option D:=J8 bp8 1
def bc6:DS:=(A9 (A4 eqD (A3 ag8 (A0 (A1 0) A2)) (dC (.str "layer"))))
def i7:List D->Option D:=J8 bc6 1
def bp9:DS:=(A9 (A4 eqD (A3 ag8 (A0 (A1 0) A2)) (dC (.str "tone"))))
def O6:List D->Option D:=J8 bp9 1
def aU4:DS:=(A9 (dIx (A5 0) ⇑2))
def R5:List D->Option D:=J8 aU4 1
def bp4:DS:=(A9 (dIx (A5 0) ⇑2))
def ag3:List D->Option D:=J8 bp4 1
def aC6:DS:=(A9 (dIx (A5 0) ⇑3))
def N8:List D->Option D:=J8 aC6 1
def bc3:DS:=(A9 (dIx (A5 0) ⇑4))
def Q6:List D->Option D:=J8 bc3 1
def bp7:DS:=(A9 (dIx (A5 0) ⇑5))
def x6:List D->Option D:=J8 bp7 1
def bG9:DS:=(A9 (dIx (A5 0) ⇑6))
def af3:List D->Option D:=J8 bG9 1
def bp6:DS:=(A9 (dIx (A5 0) ⇑7))
def ag5:List D->Option D:=J8 bp6 1
def bb9:DS:=(A9 (dIx (A5 0) ⇑8))
def W8:List D->Option D:=J8 bb9 1
def aC7:DS:=(A9 (dIx (A5 0) ⇑5))
def K9:List D->Option D:=J8 aC7 1
def X2:DS:=(A6 (B0 3 (A3 W8 (A0 (A1 0) A2))) (A6 (B0 4 (A3 ag5 (A0 (A1 0) A2))) (A6 (B0 5 (A3 aq7 (A0 (A1 3) (A0 (A1 1) (A0 (A1 2) A2))))) (A6 (sIf (P8 (tB2 isB (A1 4) (dC .none)) (M5 (M1 (A3 X9 (A0 (A1 3) (A0 (A1 1) (A0 (A1 2) A2))))))) (A9 (A1 5)) G7) (A9 (A3 ab6 (A0 (A1 5) (A0 (dIx (A5 4) (A3 Q5 (A0 (A1 3) (A0 (A1 1) (A0 (A1 2) A2))))) A2))))))))
def p7:List D->Option D:=J8 X2 6
def w9(self:Nat->List D->Option D):DS:=(A6 (sIf (M1 (A3 i7 (A0 (A1 0) A2))) (B0 3 (A3 p7 (A0 (A1 0) (A0 (A4 ac8 (A1 1) (A3 x6 (A0 (A1 0) A2))) (A0 (A4 ac8 (A1 2) (A3 af3 (A0 (A1 0) A2))) A2))))) (B0 3 (A3 (self 2) (A0 (A3 K9 (A0 (A1 0) A2)) (A0 (A1 1) (A0 (A1 2) A2)))))) (A9 (A3 ab6 (A0 (A1 3) (A0 (A3 N8 (A0 (A1 0) A2)) A2)))))
def N7(self:Nat->List D->Option D):DS:=(A6 (sIf (M5 (M1 (A3 Q6 (A0 (A1 0) A2)))) (A9 (A1 1)) G7) (A6 (sIf (M1 (A3 O6 (A0 (A1 0) A2))) (A9 (A3 av4 (A0 (A3 ag3 (A0 (A1 0) A2)) (A0 (A1 1) (A0 (A3 N8 (A0 (A1 0) A2)) A2))))) G7) (A9 (A3 y6 (A0 (A3 R5 (A0 (A1 0) A2)) (A0 (A3 (self 0) (A0 (A1 0) (A0 (A1 2) (A0 (A1 3) A2)))) (A0 (A1 1) A2)))))))
def g7(self:Nat->List D->Option D):DS:=(A6 (B0 3 (dC (.tuple [(.tuple [(.int 0),(.int 1)]),(.tuple [(.int 0),(.int 1)]),(.tuple [(.int 0),(.int 1)]),(.tuple [(.int 0),(.int 1)])]))) (A6 (P9 (L7 (A1 0)) (B1 4) (B0 3 (A3 (self 1) (A0 (A1 4) (A0 (A1 3) (A0 (A1 1) (A0 (A1 2) A2))))))) (A9 (A1 3))))
def W5:Nat->Nat->List D->Option D
 | 0=>fun _ _=>none
 | k+1=>fun i=>match i with
  | 0=>J8 (w9 (W5 k)) 4
  | 1=>J8 (N7 (W5 k)) 4
  | 2=>J8 (g7 (W5 k)) 5
  | _=>fun _=>none
def Z2(k:Nat):List D->Option D:=W5 k 0
def ai3(k:Nat):List D->Option D:=W5 k 1
def g8(k:Nat):List D->Option D:=W5 k 2
def bq4:DS:=(A9 (A3 (g8 12) (A0 (dIx (A5 0) ⇑2) (A0 (A1 1) (A0 (A1 2) A2)))))
def bq8:List D->Option D:=J8 bq4 3
def ck1:DS:=(A6 (V3 1 (G8 2 [0] (L7 (A3 X8 (A0 (dIx (A5 0) ⇑0) (A0 (dIx (A5 0) ⇑1) A2)))) (M6 2 (C2 (B1 0) (C2 (B1 1) N4))) K3 (A3 bq8 (A0 (A1 2) (A0 (A1 0) (A0 (A1 1) A2)))))) (A9 (D4 (A0 (dIx (A5 0) ⇑0) (A0 (dIx (A5 0) ⇑1) (A0 (O0 (A5 1)) A2))))))
def ck3:List D->Option D:=J8 ck1 2
def aG4:DS:=(A6 (B0 3 (A4 eqD (A3 A7 (A0 (A1 0) (A0 (A1 1) (A0 ⇑2 A2)))) ⇑0)) (A6 (U1 4 A2) (A6 (P9 (O1 (A1 2)) (B1 5) (A6 (B0 6 (ay5 (dC (.str "")) (qN (G8 1 [0,1,5] (O1 ⇑2) (B1 0) K3 (aj3 (dC (.str "abcdefghijklmnopqrstuvwxyz")) (A3 A7 (A0 (A1 1) (A0 (A4 C0 (A4 C0 (A4 C0 (A1 2) ⇑1) (A4 L6 ⇑3 (A1 3))) (A1 0)) (A0 ⇑26 A2))))))))) (A6 (B0 6 (A4 bk7 (bo5 (A1 6) N6 (L4 (A3 A7 (A0 (A1 0) (A0 (A4 C0 (A4 C0 (A1 1) ⇑3) (A4 L6 ⇑3 (A1 5))) (A0 ⇑3 A2)))))) (dIx (qN (A0 ⇑1 (A0 ⇑2 A2))) (A3 A7 (A0 (A1 0) (A0 (A4 C0 (A4 C0 (A1 1) ⇑2) (A4 L6 ⇑3 (A1 5))) (A0 ⇑2 A2))))))) (O9 4 (dIx (qN (A0 (A4 C0 (A1 6) (aj3 (dC (.str "abcdefghijklmn")) (A1 5))) (A0 (A4 C0 (aj3 (dC (.str "abcdefghijklmn")) (A1 5)) (A1 6)) A2))) (u9 (A1 3))))))) (ag9 4 (A9 (A1 4))))))
def ag7:List D->Option D:=J8 aG4 7
def ad7:DS:=(B0 4 (A3 Q1 (A0 (A1 0) (A0 (A1 1) A2))))
def ad6:DS:=(B0 5 (A4 gtI (A3 A7 (A0 (A1 0) (A0 (A4 C0 (A1 1) ⇑3) (A0 ⇑6 A2)))) ⇑0))
def X5:DS:=(sIf (tB2 eqD (A3 A7 (A0 (A1 0) (A0 (A4 C0 (A1 1) ⇑4) (A0 ⇑6 A2)))) ⇑0) (A9 (D4 (A0 (dC (.str "tone")) (A0 (A1 2) (A0 (dIx (qN (A0 (dC (.str "turn")) (A0 (dC (.str "grey")) (A0 (dC (.str "round")) A2)))) (A3 A7 (A0 (A1 0) (A0 (A4 C0 (A1 1) ⇑5) (A0 ⇑3 A2))))) (A0 (A1 4) (A0 (A1 5) A2))))))) G7)
def ad5:DS:=(B0 6 (dIx (qN (A0 (dC (.str "over")) (A0 (dC (.str "multiply")) (A0 (dC (.str "screen")) (A0 (dC (.str "plus")) (A0 (dC (.str "atop")) (A0 (dC (.str "cut")) A2))))))) (A3 A7 (A0 (A1 0) (A0 (A4 C0 (A1 1) ⇑5) (A0 ⇑6 A2))))))
def j8:DS:=(sIf (tB2 gtI (A3 A7 (A0 (A1 0) (A0 (A4 C0 (A1 1) ⇑6) (A0 ⇑3 A2)))) ⇑0) (B0 6 (A1 3)) G7)
def ad4:DS:=(B0 7 (A4 C0 ⇑1 (A3 A7 (A0 (A1 0) (A0 (A4 C0 (A1 1) ⇑7) (A0 ⇑3 A2))))))
def ad3:DS:=(B0 8 (A4 C0 ⇑1 (A3 A7 (A0 (A1 0) (A0 (A4 C0 (A1 1) ⇑8) (A0 ⇑3 A2))))))
def ad2:DS:=(B0 9 (dC .none))
def j7:DS:=(sIf (tB2 eqD (A3 A7 (A0 (A1 0) (A0 (A4 C0 (A1 1) ⇑9) (A0 ⇑3 A2)))) ⇑0) (B0 9 (O0 (qN (G8 1 [0,1] (O1 (A4 L6 (A1 7) (A1 8))) (B1 0) K3 (A3 Q1 (A0 (A1 1) (A0 (A4 C0 (A4 C0 (A1 2) ⇑20) (A4 L6 ⇑3 (A1 0))) A2))))))) G7)
def ad0:DS:=(B0 10 (A4 ac8 (A3 A7 (A0 (A1 0) (A0 (A4 C0 (A1 1) ⇑10) (A0 ⇑4 A2)))) ⇑1))
def aa2:DS:=(B0 11 (A4 ac8 (A3 A7 (A0 (A1 0) (A0 (A4 C0 (A1 1) ⇑11) (A0 ⇑4 A2)))) ⇑1))
def Y5:DS:=(sIf (tB2 eqD (A3 A7 (A0 (A1 0) (A0 (A4 C0 (A1 1) ⇑12) (A0 ⇑3 A2)))) ⇑0) (ac5 (D4 (A0 ⇑3 (A0 ⇑3 (A0 ⇑0 (A0 ⇑0 (A0 (dC .none) A2)))))) (M6 5 (C2 (B1 7) (C2 (B1 8) (C2 (B1 10) (C2 (B1 11) (C2 (B1 9) N4))))))) G7)
def aa1:DS:=(B0 12 (A3 ag6 (A0 (A1 0) (A0 (A4 C0 (A1 1) ⇑50) (A0 (A1 7) (A0 (A1 8) A2))))))
def aa0:DS:=(A9 (D4 (A0 (dC (.str "layer")) (A0 (A1 2) (A0 (A1 6) (A0 (A1 4) (A0 (A1 5) (A0 (A1 10) (A0 (A1 11) (A0 (A1 9) (A0 (A1 12) A2)))))))))))
def az9:DS:=(A6 ad7 (A6 ad6 (A6 X5 (A6 ad5 (A6 j8 (A6 ad4 (A6 ad3 (A6 ad2 (A6 j7 (A6 ad0 (A6 aa2 (A6 Y5 (A6 aa1 aa0)))))))))))))
def x9:List D->Option D:=J8 az9 13
def aG3:DS:=(A6 (B0 4 (dIx (qN (A0 (dC (.str "over")) (A0 (dC (.str "multiply")) (A0 (dC (.str "screen")) (A0 (dC (.str "plus")) A2))))) (A3 A7 (A0 (A1 0) (A0 (A1 1) (A0 ⇑4 A2)))))) (A6 (B0 5 (A3 A7 (A0 (A1 0) (A0 (A4 C0 (A1 1) ⇑1) (A0 (A4 C0 (A1 2) ⇑1) A2))))) (A6 (U1 6 (G8 1 [0,4,3,1] (O1 (A1 5)) (B1 0) K3 (A3 x9 (A0 (A1 1) (A0 (A4 C0 (A4 C0 (A1 4) ⇑20) (A4 L6 ⇑170 (A1 0))) (A0 (dIx (A5 3) (A1 0)) (A0 (A1 2) A2))))))) (A6 (P9 (O1 (A3 A7 (A0 (A1 0) (A0 (A4 C0 (A1 1) ⇑2) (A0 ⇑3 A2))))) (B1 7) (A6 (B0 8 (A3 A7 (A0 (A1 0) (A0 (A4 C0 (A4 C0 (A1 1) ⇑3) (A4 L6 ⇑5 (A1 7))) (A0 (A4 C0 (V5 (A5 6)) ⇑1) A2))))) (A6 (B0 9 (A4 C0 (A1 8) (A3 A7 (A0 (A1 0) (A0 (A4 C0 (A4 C0 (A1 1) ⇑4) (A4 L6 ⇑5 (A1 7))) (A0 ⇑3 A2)))))) (A6 (B0 10 (dIx (qN (A0 (D4 (A0 ⇑1 (A0 ⇑1 A2))) (A0 (A3 Q1 (A0 (A1 0) (A0 (A4 C0 (A4 C0 (A1 1) ⇑5) (A4 L6 ⇑5 (A1 7))) A2))) A2))) (A3 A7 (A0 (A1 0) (A0 (A4 C0 (A4 C0 (A1 1) ⇑6) (A4 L6 ⇑5 (A1 7))) (A0 ⇑2 A2)))))) (A6 (B0 11 (dIx (qN (A0 (A1 4) (A0 (dC (.str "atop")) (A0 (A1 4) (A0 (dC (.str "cut")) A2))))) (A3 A7 (A0 (A1 0) (A0 (A4 C0 (A4 C0 (A1 1) ⇑7) (A4 L6 ⇑5 (A1 7))) (A0 ⇑4 A2)))))) (A6 (B0 12 (D4 (A0 (dC (.str "group")) (A0 (dIx (A5 3) (A4 C0 (A1 2) (A1 7))) (A0 (A1 11) (A0 (A1 10) (A0 (A4 gtI (A3 A7 (A0 (A1 0) (A0 (A4 C0 (A4 C0 (A1 1) ⇑14) (A1 7)) (A0 ⇑7 A2)))) ⇑0) A2))))))) (bt4 6 (L4 (A1 8)) (L4 (A1 9)) (A0 (A4 C0 (A1 12) (D4 (A0 (O0 (qE (bo6 (A5 6) (L4 (A1 8)) (L4 (A1 9))))) A2))) A2)))))))) (A9 (O0 (A5 6)))))))
def aq8:List D->Option D:=J8 aG3 13
def as1:DS:=(A6 (B0 4 (A4 C0 ⇑1 (A3 A7 (A0 (A1 0) (A0 (A1 1) (A0 ⇑3 A2)))))) (A6 (B0 5 (A4 C0 ⇑1 (A3 A7 (A0 (A1 0) (A0 (A4 C0 (A1 1) ⇑1) (A0 ⇑3 A2)))))) (A9 (D4 (A0 (A1 4) (A0 (A1 5) (A0 (A3 aq8 (A0 (A1 0) (A0 (A4 C0 (A1 1) ⇑2) (A0 (A1 2) (A0 (A1 3) A2))))) A2)))))))
def n8:List D->Option D:=J8 as1 6
def S9(self:Nat->List D->Option D):DS:=(A6 (sIf (tB2 eqD (dIx (A5 0) ⇑0) (dC (.str "group"))) (A9 (O0 (qN (G8 1 [0] (L7 (A3 (self 1) (A0 (dIx (A5 0) ⇑5) (A0 (A1 1) (A0 (A1 2) A2))))) (B1 0) K3 (A3 K1 (A0 (A1 0) (A0 (dIx (A5 1) ⇑3) A2))))))) G7) (A6 (ac5 (dIx (A5 0) ⇑8) (M6 3 (C2 (B1 3) (C2 (B1 4) (C2 (B1 5) N4))))) (A6 (B0 6 (A4 ac8 (A1 1) (dIx (A5 0) ⇑5))) (A6 (B0 7 (A4 ac8 (A1 2) (dIx (A5 0) ⇑6))) (A6 (sIf (P8 (M5 (as5 (P6 leI ltI ⇑0 (A1 6) (A1 3)))) (M5 (as5 (P6 leI ltI ⇑0 (A1 7) (A1 4))))) (A9 (A4 L6 (D4 (A0 (D4 (A0 ⇑0 (A0 ⇑1 A2))) A2)) ⇑4)) G7) (A6 (B0 8 (dIx (A5 0) ⇑3)) (A6 (sIf (tB2 aX9 (dIx (A5 0) ⇑7) (dC .none)) (B0 8 (A3 K1 (A0 (A1 8) (A0 (dIx (qE (dIx (A5 0) ⇑7)) (A4 C0 (A4 L6 (A1 7) (A1 3)) (A1 6))) A2)))) G7) (A9 (O0 (qN (G8 1 [8] (L7 (dIx (A5 5) (A4 C0 (A4 L6 (A1 7) (A1 3)) (A1 6)))) (B1 0) K3 (A3 K1 (A0 (A1 0) (A0 (A1 1) A2))))))))))))))
def w6(self:Nat->List D->Option D):DS:=(A6 (B0 3 (A4 L6 (D4 (A0 (D4 (A0 ⇑0 (A0 ⇑1 A2))) A2)) ⇑4)) (A6 (P9 (L7 (A1 0)) (B1 4) (sIf (U0 (M1 (dIx (A5 4) ⇑4)) (tB2 eqD (dIx (A5 4) ⇑0) (dC (.str "tone")))) (B0 3 (A3 af4 (A0 (dIx (A5 4) ⇑2) (A0 (A1 3) (A0 (dIx (A5 4) ⇑3) A2))))) (sIf (M1 (dIx (A5 4) ⇑4)) (B0 3 (A3 Z1 (A0 (dIx (A5 4) ⇑2) (A0 (A3 (self 0) (A0 (A1 4) (A0 (A1 1) (A0 (A1 2) A2)))) (A0 (A1 3) A2))))) G7))) (A9 (A1 3))))
def n4:Nat->Nat->List D->Option D
 | 0=>fun _ _=>none
 | k+1=>fun i=>match i with
  | 0=>J8 (S9 (n4 k)) 9
  | 1=>J8 (w6 (n4 k)) 5
  | _=>fun _=>none
def V4(k:Nat):List D->Option D:=n4 k 0
def x8(k:Nat):List D->Option D:=n4 k 1
def bH0:DS:=(A6 (ac5 (A1 0) (M6 3 (C2 (B1 1) (C2 (B1 2) (C2 (B1 3) N4))))) (A9 (D4 (A0 (A1 1) (A0 (A1 2) (A0 (O0 (qN (G8 1 [3,1] (O1 (A4 L6 (A1 1) (A1 2))) (B1 0) K3 (A3 (x8 12) (A0 (A1 1) (A0 (A4 Y1 (A1 0) (A1 2)) (A0 (A4 ac7 (A1 0) (A1 2)) A2))))))) A2))))))
def bH2:List D->Option D:=J8 bH0 4
def W0:DS:=(A6 (B0 0 (D4 (A0 ⇑1 (A0 ⇑1 (A0 (D4 (A0 (D4 (A0 (D4 (A0 ⇑1 (A0 ⇑1 A2))) (A0 (D4 (A0 ⇑1 (A0 ⇑1 A2))) (A0 (D4 (A0 ⇑0 (A0 ⇑1 A2))) (A0 (D4 (A0 ⇑0 (A0 ⇑1 A2))) A2))))) A2)) A2))))) (A6 (B0 1 (D4 (A0 (dC (.str "layer")) (A0 (dC (.str "a")) (A0 (dC (.str "over")) (A0 (D4 (A0 ⇑1 (A0 ⇑1 A2))) (A0 (dC (.bool true)) (A0 ⇑0 (A0 ⇑0 (A0 (dC .none) (A0 (A1 0) A2))))))))))) (A6 (P9 (L7 (D4 (A0 (D4 (A0 ⇑0 (A0 ⇑1 A2))) (A0 (D4 (A0 ⇑1 (A0 ⇑2 A2))) (A0 (D4 (A0 ⇑1 (A0 ⇑1 A2))) A2))))) (B1 2) (P9 (L7 (D4 (A0 (dC (.bool true)) (A0 (dC (.bool false)) A2)))) (B1 3) (A6 (B0 4 (D4 (A0 ⇑1 (A0 ⇑1 (A0 (D4 (A0 (D4 (A0 (dC (.str "group")) (A0 (dC (.str "g")) (A0 (dC (.str "over")) (A0 (A1 2) (A0 (A1 3) (A0 (D4 (A0 (A1 1) A2)) A2))))))) A2)) A2))))) (sIf (tB2 neD (A3 ck3 (A0 (A1 4) A2)) (A3 bH2 (A0 (A1 4) A2))) (A9 (dC (.bool false))) G7)))) (A9 (dC (.bool true))))))
def W4:List D->Option D:=J8 W0 5
end Sh
namespace G
open PySem PySem.Spec PyProof.Rows L2
section
variable {X:Cx}
def aY1(f g:Rho->Option (Bool×List D)):Rho->Option (List D):=fun ρ=>(f ρ).bind fun p=>(g ρ).bind fun q=>if p.1=false/\q.1=false/\p.2.length+q.2.length<=16777216 then some (p.2++q.2) else none
theorem cf6{a b:Expr}{f g:Rho->Option (Bool×List D)}{pos:Pos}(ha:JQ X a f) (hb:JQ X b g):JN X (.BinOp a .Add b pos) (aY1 f g):=fun ρ out q=>by
 obtain⟨⟨t1,xs⟩,e1,q⟩:=xbo q
 obtain⟨⟨t2,ys⟩,e2,q⟩:=xbo q
 split at q
 ·rename_i c
  obtain⟨c1,c2,c3⟩:=c
  simp only at c1 c2 c3
  subst c1 c2
  cases q
  refine K7 (bT9 be6 (ha ρ _ _ e1) (hb ρ _ _ e2)) fun σ H Q ⟨H0,Hf,s,sl,k⟩=>?_
  refine⟨H0,Hf,s,sl,fun v H1 Hf1 g1 ⟨p,vs,z1,z2,z3⟩=>⟨H0,Hf1,g1.sub,sl.grow g1,fun u H2 Hf2 g2 ⟨p',us,z1',z2',z3'⟩=>?_⟩⟩
  subst z1 z1'
  refine⟨p,p',vs,us,rfl,rfl,M7 g2.big z2,z2',by rw[z3.length,z3'.length,sizeLine_eq];exact c3,fun n hn=>?_⟩
  exact k _ _ _ ((g1.trans g2).trans (Grow.made g2.sub hn)) ⟨n,vs++us,rfl,(g1.trans g2).big.free hn,J9,g2.sub.free hn,(z3.mono g2.ext).append z3'⟩
 ·cases q
end
end G
namespace Sh
open PySem PySem.Spec PyProof.Rows L2 G
def bc7:DS:=(A9 (A4 eqD (A3 ag8 (A0 (A1 0) A2)) (dC (.str "group"))))
def P2:List D->Option D:=J8 bc7 1
def bp5:DS:=(A9 (dIx (A5 0) ⇑1))
def R3:List D->Option D:=J8 bp5 1
def aj5:DS:=(A9 (A4 C0 (u8 (A1 0) N6 (L4 ⇑5)) (D4 (A0 (A1 1) A2))))
def R7:List D->Option D:=J8 aj5 2
def az6:DS:=(A6 (P9 (am7 (qE (A1 0))) (M6 2 (C2 (B1 2) (C2 (B1 3) N4))) (sIf (tB2 eqD (A3 R3 (A0 (A1 3) A2)) (A1 1)) (A9 (A1 2)) G7)) (A9 (dC .none)))
def aA3:List D->Option D:=J8 az6 4
def aM8(self:List D->Option D):DS:=(A6 (sIf (tB2 aX9 (A3 aA3 (A0 (A1 0) (A0 (A1 1) A2))) (dC .none)) (A9 (A1 0)) G7) (A6 (P9 (L7 (A1 0)) (B1 2) (sIf (M1 (A3 P2 (A0 (A1 2) A2))) (A6 (B0 3 (A3 self (A0 (A3 K9 (A0 (A1 2) A2)) (A0 (A1 1) A2)))) (sIf (tB2 aX9 (A1 3) (dC .none)) (A9 (A1 3)) G7)) G7)) (A9 (dC .none))))
def aN1:Nat->List D->Option D
 | 0=>fun _=>none
 | k+1=>J8 (aM8 (aN1 k)) 4
def aM9(self:List D->Option D):DS:=(A6 (U1 1 A2) (A6 (P9 (L7 (A1 0)) (B1 2) (A6 (O9 1 (A1 2)) (sIf (tB2 eqD (dIx (A5 2) ⇑0) (dC (.str "group"))) (U1 1 (aY1 (A5 1) (qE (A3 self (A0 (dIx (A5 2) ⇑5) A2))))) G7))) (ag9 1 (A9 (A1 1)))))
def U6:Nat->List D->Option D
 | 0=>fun _=>none
 | k+1=>J8 (aM9 (U6 k)) 3
end Sh
namespace G
open PySem PySem.Spec PyProof.Rows L2
section
variable {X:Cx}
theorem bR0(l b:Addr) (xs ys:Array Value) (n m:Nat) (dd:Option Addr) (sl:Array (Option Value)) (h0:¬(!xs.isEmpty&&Builtin.List.listTooLong (xs.size+ys.size))=true) (h1:xs.size<=sizeLine) (h2:xs.size+ys.size<=sizeLine+1) :
  Meets (Builtin.«list.extend» ⟨[.ref l,.ref b],[]⟩) (fun _ R s=>s.heap.get? l=some { cls:=.type "list", data:=.seq xs n }/\s.heap.get? b=some ⟨.type "list", dd,.seq ys m,sl⟩ /\
   R (.ok (.ret Value.none)) { s with heap:=s.heap.update l (Obj.mapSeq fun x=>x++ys),toks:=s.toks }) :=
 .of_wp fun prog w A R s h=>by
  obtain⟨hp,g,d,tk,os⟩:=s
  obtain⟨hl,hb,h⟩:=h
  have f1:=AutoSeq1.idx_int
  have f2:=AutoSeq1.sub_tuple_tuple
  have f3:=AutoSeq1.sub_list_list
  have f4:=AutoSeq1.sub_tuple_list
  have f5:=AutoSeq1.sub_list_tuple
  have hz':(xs++ys).size<=sizeLine+1:=by rw[Array.size_append];exact h2
  wp_walk using (wpAny_updateSeq hl rfl (hz:=h1) (_hz':=hz')),AutoSeq1.wpAny_loadPart' hl,AutoSeq1.wpAny_loadPart' hb
  exact⟨_,rfl,h⟩
theorem bQ9(l b:Addr) (xs ys:Array Value) (n m:Nat) (dd:Option Addr) (sl:Array (Option Value)) (h0:¬(!xs.isEmpty&&Builtin.List.listTooLong (xs.size+ys.size))=true) (h1:xs.size<=sizeLine) (h2:xs.size+ys.size<=sizeLine+1) :
  Meets (Builtin.«list.extend» ⟨[.ref l,.ref b],[]⟩) (fun _ R s=>s.heap.get? l=some { cls:=.type "list", data:=.seq xs n }/\s.heap.get? b=some ⟨.type "tuple", dd,.seq ys m,sl⟩ /\
   R (.ok (.ret Value.none)) { s with heap:=s.heap.update l (Obj.mapSeq fun x=>x++ys),toks:=s.toks }) :=
 .of_wp fun prog w A R s h=>by
  obtain⟨hp,g,d,tk,os⟩:=s
  obtain⟨hl,hb,h⟩:=h
  have f1:=AutoSeq1.idx_int
  have f2:=AutoSeq1.sub_tuple_tuple
  have f3:=AutoSeq1.sub_list_list
  have f4:=AutoSeq1.sub_tuple_list
  have f5:=AutoSeq1.sub_list_tuple
  have hz':(xs++ys).size<=sizeLine+1:=by rw[Array.size_append];exact h2
  wp_walk using (wpAny_updateSeq hl rfl (hz:=h1) (_hz':=hz')),AutoSeq1.wpAny_loadPart' hl,AutoSeq1.wpAny_loadPart' hb
  exact⟨_,rfl,h⟩
def cv5(K:PySem.W.Frag):V->List V->Hp->VK->Prop:=fun x vs H Q=>∃l b xs zs,x=.ref l/\vs=[.ref b]/\H l=some (.lst xs)/\(SqL K H b zs\/SqT K H b zs)/\xs.length+zs.length<=sizeLine/\Q .non (upd H l (.lst (xs++zs)))
theorem bx2:MtM X "list.extend" (cv5 X.K):=by
 intro pins s σ H x vs v us Q I rx rv h
 obtain⟨l,b,xs,zs,rfl,rfl,hH,hB,hz,q⟩:=h
 cases rx
 obtain⟨u,rfl,ru⟩:=rv.one
 cases ru
 obtain⟨z,its,n,r,hl,e⟩:=I.lstM hH
 rcases hB with hB|hB
 ·obtain⟨its2,r2,pl,_⟩:=I.list hB
  obtain⟨⟨cls,dd,data,sl⟩,ho,hc,m,hd⟩:=pl.isList
  simp only at hc hd
  subst hc hd
  have hl2:=r2.length
  have hsz:its.toArray.size+its2.toArray.size<=sizeLine:=by rw[List.size_toArray,List.size_toArray];omega
  have hlong:¬(!its.toArray.isEmpty&&Builtin.List.listTooLong (its.toArray.size+its2.toArray.size))=true:=by rw[ae4 hsz,Bool.and_false];exact Bool.false_ne_true
  refine call_meets F.slot_list_extend ⟨_,e,rfl⟩ F.entry_list_extend (F.args_list_extend_2 _ _) (bR0 l b its.toArray its2.toArray n m dd sl hlong (by rw[List.size_toArray];omega) (by omega)) ⟨e,ho,?_⟩
  refine⟨.non,_,I.lset (its':=its++its2) hH e (by simp) (r.append r2) ?_,rfl,q⟩
  rw[List.length_append];omega
 ·obtain⟨its2,r2,pl,_⟩:=I.tuple hB
  obtain⟨⟨cls,dd,data,sl⟩,ho,hc,m,hd⟩:=pl
  simp only at hc hd
  subst hc hd
  have hl2:=r2.length
  have hsz:its.toArray.size+its2.toArray.size<=sizeLine:=by rw[List.size_toArray,List.size_toArray];omega
  have hlong:¬(!its.toArray.isEmpty&&Builtin.List.listTooLong (its.toArray.size+its2.toArray.size))=true:=by rw[ae4 hsz,Bool.and_false];exact Bool.false_ne_true
  refine call_meets F.slot_list_extend ⟨_,e,rfl⟩ F.entry_list_extend (F.args_list_extend_2 _ _) (bQ9 l b its.toArray its2.toArray n m dd sl hlong (by rw[List.size_toArray];omega) (by omega)) ⟨e,ho,?_⟩
  refine⟨.non,_,I.lset (its':=its++its2) hH e (by simp) (r.append r2) ?_,rfl,q⟩
  rw[List.length_append];omega
theorem ce7(i:Nat) {x:Str}{e:Expr}{f:DE}{p apos cpos pos:Pos}(h:JE X e f) (hN:X.N[i]? = some x) (hv:Vis X.env.scope x) (hd:(x==("__debug__" : Str))=false)
  (hcd:(x==("__classdict__" : Str))=false) (hline:(apos.endLine==cpos.line)=true) (hs:starEach [e] X.env=[(false,eval e X.env)]) :
  JS X (.Expr (.Call (.Attribute (.Name x p) "extend" apos) [e] [] cpos) pos) (aI2 i f):=fun ρ fl q H0 Hf0=>by
 unfold aI2 at q
 split at q
 ·rename_i ds eo
  obtain⟨d,e1,q⟩:=xbo q
  split at q
  ·rename_i es
   split at q
   ·rename_i hz
    cases q
    refine S2 (aJ0 (be2 PySem.F.plainAttrs_list PySem.F.slot_list_extend PySem.F.type_list_extend bx2 (ae2 hN hv hd hcd) (P4 (h ρ _ e1) T7 hs) rfl (by rw[hs];rfl) hline hs) rfl) fun En σ H ⟨Hf,a,ee⟩=>?_
    obtain⟨v,h1,b,vs,rfl,h2,h3,h4,h5⟩:=a.sl.is i _ eo
    refine⟨_,h1,.inl ⟨rfl,vs,SqL.of h2⟩,H0,Hf,a.gr.sub,a.sl,fun w H' Hf' gg r=>?_⟩
    obtain⟨b2,us,rfl,r1,r2⟩:=r
    have hb:H' b=some (.lst vs):=gg.big _ _ h2
    have hfb:Hf' b=none:=gg.nofr h2 h3
    have g2:=a.gr.trans gg
    have sl2:=a.sl.grow gg
    refine⟨b,b2,vs,us,rfl,rfl,hb,.inl (M7 gg.sub r1),by rw[h5.length,r2.length,sizeLine_eq];exact hz,ee _ _ Hf' ⟨⟨fun c u z=>?_,fun c u z=>?_,g2.ext,g2.new⟩,?_⟩ gg.ext⟩
    ·rw[J0 (K2 z h4)];exact g2.big c u z
    ·rw[J0 (K2 z hfb)];exact g2.sub c u z
    ·exact sl2.reOwn eo h1 hfb h4 ((h5.mono gg.ext).append r2)
   ·cases q
  ·rename_i es
   split at q
   ·rename_i hz
    cases q
    refine S2 (aJ0 (be2 PySem.F.plainAttrs_list PySem.F.slot_list_extend PySem.F.type_list_extend bx2 (ae2 hN hv hd hcd) (P4 (h ρ _ e1) T7 hs) rfl (by rw[hs];rfl) hline hs) rfl) fun En σ H ⟨Hf,a,ee⟩=>?_
    obtain⟨v,h1,b,vs,rfl,h2,h3,h4,h5⟩:=a.sl.is i _ eo
    refine⟨_,h1,.inl ⟨rfl,vs,SqL.of h2⟩,H0,Hf,a.gr.sub,a.sl,fun w H' Hf' gg r=>?_⟩
    obtain⟨b2,us,rfl,r1,r2⟩:=r
    have hb:H' b=some (.lst vs):=gg.big _ _ h2
    have hfb:Hf' b=none:=gg.nofr h2 h3
    have g2:=a.gr.trans gg
    have sl2:=a.sl.grow gg
    refine⟨b,b2,vs,us,rfl,rfl,hb,.inr (K8 gg.sub r1),by rw[h5.length,r2.length,sizeLine_eq];exact hz,ee _ _ Hf' ⟨⟨fun c u z=>?_,fun c u z=>?_,g2.ext,g2.new⟩,?_⟩ gg.ext⟩
    ·rw[J0 (K2 z h4)];exact g2.big c u z
    ·rw[J0 (K2 z hfb)];exact g2.sub c u z
    ·exact sl2.reOwn eo h1 hfb h4 ((h5.mono gg.ext).append r2)
   ·cases q
  ·cases q
 ·cases q
end
section
variable {prog:Program}{w:World}{A:Around}{R:Result->Shared->Prop}{J:Addr}{fp wr:List Addr}{Gn:Array GenState->Array GenState->Prop}{n:Nat}{P:Nat->Value->Prop}{St:Nat->Shared->Prop}
end
section
variable {prog:Program}{w:World}{A:Around}{E:Value->Shared->Prop}{s:Shared}
end
section
variable {X:Cx}
end
section
variable {X:Cx}
def cs0(x y:Str):Bool:=!(Builtin.Str.occurrences y x 0 y.length 1).isEmpty
def inS(neg:Bool) (x y:D):Option D:=match x,y with
 | .str i,.str j=>some (.bool (if neg then !cs0 i j else cs0 i j))
 | _,_=>none
def cs6(f:DE):DE:=fun ρ=>(f ρ).bind fun d=>match d with
 | .str x=>if x.length<=16777216 then some (.int x.length) else none
 | _=>none
def cm8(x:Str):List D:=x.cps.toList.map fun c=>.str ⟨#[c]⟩
def cw3(f:DE):Rho->Option (List D):=fun ρ=>(f ρ).bind fun d=>match d with
 | .str x=>if x.cps.all (· < 128)=true then some (cm8 x) else none
 | _=>none
end
end G
namespace G
open PySem PySem.Spec PyProof PyProof.Rows L2
section
variable {X:Cx}
end
end G
namespace G
open PySem PySem.Spec PyProof.Rows L2
section
variable {prog:Program}{w:World}{A:Around}{E:Value->Shared->Prop}{s:Shared}{t:Bool}
theorem aN8{M:Model}{a:Addr}{Q:Option Obj->Shared->Prop}(h:Q (s.heap.get? a) s):wpAny M A (loadIfAlive a) Q E s:=fun Γ p _=>by
 show Sem.wp M Γ (.loadIfAlive a .pure) _ _ p s
 rw[Sem.wp_loadIfAlive]
 exact(Sem.wp_pure ..).mpr h
def bi4(h:Heap) (e it:Addr) (i:Int):Prop:=∃(a:Addr) (b:Bool) (x:Value) (u:Obj),
 h.get? e=some { cls:=.type "enumerate", dict:=none,data:=.fields #[rawInt a,.bool b,.ref it,rawInt i,.none,x],slots:=#[] }/\a≠e/\a≠it/\h.get? a=some u
theorem bm3{e it l:Addr}{i:Nat}{xs:Array Value}{x:Value}{Q:Option Value->Shared->Prop}(he:bi4 s.heap e it i) (hit:SIt t s.heap it l i) (hl:SSq t s.heap l xs) (hx:xs[i]? = some x) (hne:e≠it)
  (hQ:∀h' tk,bi4 h' e it ((i:Int)+1)->SIt t h' it l (i+1)->h'.get? s.heap.objs.size=some { cls:=.type "tuple", data:=.seq #[.int i tk,x] }->h'.objs.size=s.heap.objs.size+1 ->
   (∀b o,b≠e->b≠it->s.heap.get? b=some o->h'.get? b=some o)->Q (some (.ref s.heap.objs.size)) { s with heap:=h',toks:=tk+1 }) :
  wpAny (model prog w) A (pyNext (.ref e)) Q E s:=by
 obtain⟨a,b,x0,u,he,ae,ai,ha⟩:=he
 have hT:s.TypeIs (.ref e) "enumerate" := ⟨_,he,rfl⟩
 unfold pyNext
 refine wpAny_bind (wpAny_attempt (wpAny_callSpecial?_slot (name:=Str.ofString "__next__") hT F.slot_enumerate_next (wpAny_call_entry F.slot_enumerate_next hT F.entry_enumerate_next ?_ (F.args_enumerate_next_1 _))))
 obtain⟨hp,g,d,tk,os⟩:=s
 show wpAny _ _ (field (.ref e) 2 >>= _) _ _ _
 refine wpAny_bind (wpAny_field he rfl (x:=.ref it) rfl ?_)
 refine wpAny_bind (ad8 hit hl hx fun h₁ hit₁ hs₁=>?_)
 replace hs₁:Heap.SameBut it hp h₁:=hs₁
 have he₁:=(hs₁.2 e hne).trans he
 show wpAny _ _ (field (.ref e) 3 >>= _) _ _ ⟨h₁,g,d,tk,os⟩
 refine wpAny_bind (wpAny_field he₁ rfl (x:=rawInt i) rfl ?_)
 show wpAny _ _ (field (.ref e) 4 >>= _) _ _ ⟨h₁,g,d,tk,os⟩
 refine wpAny_bind (wpAny_field he₁ rfl (x:=.none) rfl ?_)
 show wpAny _ _ (mkInt i >>= _) _ _ ⟨h₁,g,d,tk,os⟩
 refine wpAny_bind (wpAny_mkInt ?_)
 show wpAny _ _ (setField (.ref e) 3 (rawInt ((i:Int)+1)) >>= _) _ _ ⟨h₁,g,d,tk+1,os⟩
 refine wpAny_bind (wpAny_setField_rec he₁ (by simp) fun h₂ he₂ hs₂=>?_)
 replace hs₂:Heap.SameBut e h₁ h₂:=hs₂
 replace he₂:h₂.get? e=some { cls:=.type "enumerate", dict:=none,data:=.fields #[rawInt a,.bool b,.ref it,rawInt ((i:Int)+1),.none,x0],slots:=#[] }:=he₂
 show wpAny _ _ (setField (.ref e) 4 .none >>= _) _ _ ⟨h₂,g,d,tk+1,os⟩
 refine wpAny_bind (wpAny_setField_rec he₂ (by simp) fun h₃ he₃ hs₃=>?_)
 replace hs₃:Heap.SameBut e h₂ h₃:=hs₃
 replace he₃:h₃.get? e=some { cls:=.type "enumerate", dict:=none,data:=.fields #[rawInt a,.bool b,.ref it,rawInt ((i:Int)+1),.none,x0],slots:=#[] }:=he₃
 show wpAny _ _ (newTuple [.int i tk,x] >>= _) _ _ ⟨h₃,g,d,tk+1,os⟩
 refine wpAny_bind (wpAny_newTuple ?_)
 have he₄:=Heap.get?_push_of_some { cls:=.type "tuple", data:=.seq #[.int i tk,x] } he₃
 generalize hh₄:h₃.push { cls:=.type "tuple", data:=.seq #[.int i tk,x] }=h₄ at he₄
 have hsz:h₃.objs.size=hp.objs.size:=by rw[hs₃.1,hs₂.1,hs₁.1]
 have hel:e < hp.objs.size:=Heap.lt_size he
 have ht₄:h₄.get? hp.objs.size=some { cls:=.type "tuple", data:=.seq #[.int i tk,x] }:=by rw[← hh₄,← hsz];exact Heap.get?_push_size _ rfl
 have hz₄:h₄.objs.size=hp.objs.size+1:=by rw[← hh₄,Heap.size_push,hsz]
 have hk₄:∀b o,b≠e->b≠it->hp.get? b=some o->h₄.get? b=some o:=fun b o hbe hbi hb=>by rw[← hh₄];exact Heap.get?_push_of_some _ (hs₃.extBut b o hbe (hs₂.extBut b o hbe (hs₁.extBut b o hbi hb)))
 have hit₄:SIt t h₄ it l (i+1):=hit₁.ext fun o y=>by rw[← hh₄];exact Heap.get?_push_of_some _ (hs₃.extBut it o hne.symm (hs₂.extBut it o hne.symm y))
 have ha₄:=hk₄ a u ae ai ha
 show wpAny _ _ (Builtin.SmallTypes.ownedTupleIsFree (.ref e) >>= _) _ _ ⟨h₄,g,d,tk+1,os⟩
 rw[hsz]
 clear hh₄ he₃ hs₃ he₂ hs₂ he₁ hs₁ hit₁ hsz h₃ h₂ h₁
 refine wpAny_bind ?_
 unfold Builtin.SmallTypes.ownedTupleIsFree
 refine wpAny_bind (wpAny_field he₄ rfl (x:=rawInt a) rfl ?_)
 show wpAny _ _ (loadIfAlive ((a:Int)).toNat >>= _) _ _ _
 refine wpAny_bind (aN8 ?_)
 rw[Int.toNat_natCast]
 rw[show(Shared.heap ⟨h₄,g,d,tk+1,os⟩).get? a=some u from ha₄]
 show wpAny _ _ (field (.ref e) 1 >>= _) _ _ ⟨h₄,g,d,tk+1,os⟩
 refine wpAny_bind (wpAny_field he₄ rfl (x:=.bool b) rfl ?_)
 cases b with
 | false =>
  show wpAny _ _ (setField (.ref e) 1 (.bool true) >>= _) _ _ ⟨h₄,g,d,tk+1,os⟩
  refine wpAny_bind (wpAny_setField_rec he₄ (by simp) fun h₅ he₅ hs₅=>?_)
  replace hs₅:Heap.SameBut e h₄ h₅:=hs₅
  refine wpAny_pure (wpAny_pure ⟨_,rfl,wpAny_pure (hQ h₅ tk ⟨a,true,x0,u,he₅,ae,ai,hs₅.extBut a u ae ha₄⟩ (hit₄.ext fun o y=>hs₅.extBut it o hne.symm y) (hs₅.extBut _ _ (Nat.ne_of_gt hel) ht₄) (by rw[hs₅.1,hz₄]) fun b o hbe hbi hb=>hs₅.extBut b o hbe (hk₄ b o hbe hbi hb))⟩)
 | true =>exact wpAny_pure (wpAny_pure ⟨_,rfl,wpAny_pure (hQ h₄ tk ⟨a,true,x0,u,he₄,ae,ai,ha₄⟩ hit₄ ht₄ hz₄ hk₄)⟩)
theorem aZ6{e it l:Addr}{i:Int}{k:Nat}{xs:Array Value}{Q:Option Value->Shared->Prop}(hh:A.handled=none) (he:bi4 s.heap e it i) (hit:SIt t s.heap it l k) (hl:SSq t s.heap l xs) (hx:xs[k]? = none)
  (hQ:∀h',Heap.ExtBut it s.heap h'->Q none { s with heap:=h' }):wpAny (model prog w) A (pyNext (.ref e)) Q E s:=by
 obtain⟨a,b,x0,u,he,_⟩:=he
 have hT:s.TypeIs (.ref e) "enumerate" := ⟨_,he,rfl⟩
 unfold pyNext
 refine wpAny_bind (wpAny_attempt (wpAny_callSpecial?_slot (name:=Str.ofString "__next__") hT F.slot_enumerate_next (wpAny_call_entry F.slot_enumerate_next hT F.entry_enumerate_next ?_ (F.args_enumerate_next_1 _))))
 show wpAny _ _ (field (.ref e) 2 >>= _) _ _ _
 refine wpAny_bind (wpAny_field he rfl (x:=.ref it) rfl (wpAny_bind (al1 hh hit hl hx fun h' x he' hx'=>?_)))
 obtain⟨o,ho,hc⟩:=hx'
 exact wpAny_bind (wpAny_isInstance (T := "StopIteration") (b:=true) ⟨o,ho,hc⟩ isSubtype_stop (wpAny_pure (hQ _ he')))
def ap0(h:Heap) (e it:Addr) (i:Int):Prop:=(∃old,IsEnum h e it i old)\/bi4 h e it i
theorem ap0.obj{h:Heap}{e it:Addr}{i:Int}(x:ap0 h e it i):∃fs,h.get? e=some { cls:=.type "enumerate", dict:=none,data:=.fields fs,slots:=#[] }:=by
 rcases x with⟨old,x⟩|⟨a,b,x0,u,x,_⟩
 ·exact⟨_,x⟩
 ·exact⟨_,x⟩
theorem ap0.ext{h h':Heap}{e it:Addr}{i:Int}(x:ap0 h e it i) {S:Addr}{o:Obj}(hS:h.get? S=some o) (hS':∃o',h'.get? S=some o') (hne:S≠e) (k:∀b o,b≠S->h.get? b=some o->h'.get? b=some o):ap0 h' e it i:=by
 rcases x with⟨old,x⟩|⟨a,b,x0,u,x,ae,ai,ha⟩
 ·exact .inl ⟨old,k _ _ hne.symm x⟩
 ·by_cases q:a=S
  ·subst q
   obtain⟨o',hS'⟩:=hS'
   exact .inr ⟨a,b,x0,o',k _ _ hne.symm x,ae,ai,hS'⟩
  ·exact .inr ⟨a,b,x0,u,k _ _ hne.symm x,ae,ai,k _ _ q ha⟩
theorem bm4{e it l:Addr}{i:Nat}{xs:Array Value}{x:Value}{Q:Option Value->Shared->Prop}(hh:A.handled=none) (he:ap0 s.heap e it i) (hit:SIt t s.heap it l i) (hl:SSq t s.heap l xs) (hx:xs[i]? = some x) (hne:e≠it) (hle:l≠e) (hli:l≠it)
  (hQ:∀h' tk,ap0 h' e it ((i+1:Nat):Int)->SIt t h' it l (i+1)->h'.get? s.heap.objs.size=some { cls:=.type "tuple", data:=.seq #[.int i tk,x] }->h'.objs.size=s.heap.objs.size+1 ->
   (∀b o,b≠e->b≠it->s.heap.get? b=some o->h'.get? b=some o)->Q (some (.ref s.heap.objs.size)) { s with heap:=h',toks:=tk+1 }) :
  wpAny (model prog w) A (pyNext (.ref e)) Q E s:=by
 have ei:(((i+1:Nat)):Int)=(i:Int)+1:=by omega
 rcases he with⟨old,he⟩|he
 ·have hlt:i < xs.size:=by
   rcases Nat.lt_or_ge i xs.size with h|h
   ·exact h
   ·rw[Array.getElem?_eq_none h]at hx;cases hx
  have el:=Heap.lt_size he
  have il:=hit.lt
  refine wpAny_pyNext_enum_itemD (aE9 (A:=A.in1) hh t it l hli xs) he ⟨hit,hl⟩ hlt hne (by simp only[List.mem_cons,List.not_mem_nil,or_false,not_or];exact⟨hne,hle.symm⟩) fun y h' tk hy ho hst hT hsz hk=>?_
  rw[hx]at hy
  cases hy
  exact hQ h' tk (.inr ⟨_,false,x,_,by rw[ei];exact ho,Nat.ne_of_gt el,Nat.ne_of_gt il,hT⟩) hst.1 hT hsz hk
 ·exact bm3 he hit hl hx hne fun h' tk a b c d k=>hQ h' tk (.inr (by rw[ei];exact a)) b c d k
theorem aZ7{e it l:Addr}{i:Int}{k:Nat}{xs:Array Value}{Q:Option Value->Shared->Prop}(hh:A.handled=none) (he:ap0 s.heap e it i) (hit:SIt t s.heap it l k) (hl:SSq t s.heap l xs) (hx:xs[k]? = none)
  (hQ:∀h',Heap.ExtBut it s.heap h'->Q none { s with heap:=h' }):wpAny (model prog w) A (pyNext (.ref e)) Q E s:=by
 rcases he with⟨old,he⟩|he
 ·exact aE8 hh he hit hl hx hQ
 ·exact aZ6 hh he hit hl hx hQ
theorem aS2:typeLookup (.type "enumerate") "__len__" = pure none:=by rw[typeLookup_type,builtinLookup_eq_fast];kernel_rfl
theorem aL2:typeLookup (.type "enumerate") "__length_hint__" = pure none:=by rw[typeLookup_type,builtinLookup_eq_fast];kernel_rfl
end
def cj9(Hf:Hp) (ws:List V) (Ts:List Addr) (i:Nat):Prop:=Ts.length=i/\∀(j:Nat) (T:Addr),Ts[j]? = some T->∃x,ws[j]? = some x/\Hf T=some (.tup [.int j,x])
abbrev aQ6(Ts:List Addr) (c:Nat):Obj:={ cls:=.type "list", dict:=none,data:=.seq (Ts.map Value.ref).toArray c,slots:=#[] }
section
variable {X:Cx}{pins:List (Addr×Obj)}{σ:L2.St}{A:Around}{t:Bool}{S e it a:Addr}{ws:List V}
theorem au2{K:PySem.W.Frag}{t:Bool}{a:Addr}{xs:List V}{H H':Hp}(e:L0 H H') (h:Sq K t H a xs):Sq K t H' a xs:=by
 cases t with
 | true=>exact K8 e h
 | false=>exact M7 e h
theorem bD0{H:Hp}{T:Addr}{o:HO}{b:Addr}(h:o9 X pins H b) (n:b≠T):o9 X pins (upd H T o) b:=⟨by rw[J0 n];exact h.1,h.2⟩
theorem bl2{R:Result->Shared->Prop}{res:Value}(hc:A.handled=none) (h1:e≠it) (h2:a≠e) (h3:a≠it) (h4:S≠e) (h5:S≠it) (hz:ws.length<=1000) {H0 Hf0:Hp} :
    ∀(k i:Nat) (s:Shared) (H Hf:Hp) (Ts:List Addr) (c:Nat),ws.length - i=k->i<=ws.length->Inv X pins σ H s->(∀b∈[e,it,S],o9 X pins H b)->ap0 s.heap e it i->SIt t s.heap it a i->Sq X.K t Hf a ws->Grow H0 Hf0 H Hf->s.heap.get? S=some (aQ6 Ts c)->cj9 Hf ws Ts i ->
    (∀s' H' Hf' Ts' c',Inv X pins σ H' s'->(∀b∈[e,it,S],o9 X pins H' b)->Grow H0 Hf0 H' Hf'->s'.heap.get? S=some (aQ6 Ts' c')->cj9 Hf' ws Ts' ws.length->R (.ok (.ret res)) s') ->
    codeAny (model X.prog X.w) A (.builtin "list.extend.loop" ⟨[.ref S,.ref e,res],[]⟩) R s:=by
  intro k
  induction k with
  | zero =>
    intro i s H Hf Ts c hk hi I hf he hit sq g hS ht hR
    have hin:i=ws.length:=by omega
    obtain⟨us,r1,p1,lt1⟩:=U5 I (au2 g.sub sq)
    have l1:=r1.length
    refine codeAny_builtin F.entry_extend_loop ?_
    rw[Around.under_plainId F.plain_extend_loop _]
    show wpAny _ A.in1 (pyNext (.ref e) >>= _) _ _ s
    refine wpAny_bind (aZ7 hc he hit p1 (by simp;omega) fun h' hk'=>?_)
    have I':Inv X pins σ H { s with heap:=h',toks:=s.toks }:=V1 (ch:=[e,it]) I (fun b hb=>hf b (by simp at hb;rcases hb with rfl|rfl<;>simp)) fun b u hb q=>hk' b u (fun z=>hb (by simp[z])) q
    exact wpAny_pure (hR _ H Hf Ts c I' hf g (hk' S _ h5 hS) (by rw[← hin];exact ht))
  | succ k ih =>
    intro i s H Hf Ts c hk hi I hf he hit sq g hS ht hR
    have hlt:i < ws.length:=by omega
    obtain⟨us,r1,p1,lt1⟩:=U5 I (au2 g.sub sq)
    obtain⟨ux,eux,rx⟩:=r1.get (List.getElem?_eq_getElem hlt)
    refine codeAny_builtin F.entry_extend_loop ?_
    rw[Around.under_plainId F.plain_extend_loop _]
    show wpAny _ A.in1 (pyNext (.ref e) >>= _) _ _ s
    refine wpAny_bind (bm4 hc he hit p1 (by simpa using eux) h1 h2 h3 fun h' tk he' hit' hT hsz hkp=>?_)
    have hn:H s.heap.objs.size=none:=I.hok.fresh (Nat.le_refl _)
    have neT:∀c o,s.heap.get? c=some o->c≠s.heap.objs.size:=fun c o q=>Nat.ne_of_lt (Heap.lt_size q)
    obtain⟨fs,eo⟩:=he.obj
    have I1:Inv X pins σ (upd H s.heap.objs.size (.tup [.int i,ws[i]])) { s with heap:=h',toks:=tk+1 }:=Y2 (s:=s) (h':=h') (t':=tk+1) (ch:=[e,it]) I (fun b hb=>hf b (by simp at hb;rcases hb with rfl|rfl<;>simp)) (Nat.le_refl _) (fun b u hb q=>hkp b u (fun z=>hb (by simp[z])) (fun z=>hb (by simp[z])) q)
      ⟨by show 2<=sizeLine;decide,[.int i tk,ux],.cons ⟨tk,rfl⟩ (.cons rx .nil),_,hT,rfl,⟨_,rfl⟩,rfl⟩
    have hS':=hkp S _ h4 h5 hS
    show wpAny _ A.in1 (updateSeq S (·.push (.ref s.heap.objs.size)) >>= _) _ _ _
    refine wpAny_bind (wpAny_updateSeq hS' rfl ?_ (by
                                                      simp[ht.1];have:(1000:Nat) < sizeLine:=by decide
                                                      omega) (by
                                                                 simp[ht.1];have:(1000:Nat) < sizeLine:=by decide
                                                                 omega))
    have hf1:∀b∈[e,it,S],o9 X pins (upd H s.heap.objs.size (.tup [.int i,ws[i]])) b:=fun b hb=>bD0 (hf b hb) (by
      simp at hb
      rcases hb with rfl|rfl|rfl
      · exact neT _ _ eo
      · exact Nat.ne_of_lt hit.lt
      · exact neT _ _ hS)
    have oth:∀b o,b≠S->h'.get? b=some o->(h'.update S (Obj.mapSeq (·.push (.ref s.heap.objs.size)))).get? b=some o:=fun b o hb q=>(Heap.get?_update_other _ _ (Ne.symm hb)).trans q
    have hSn:=Heap.get?_update_self (Obj.mapSeq (·.push (Value.ref s.heap.objs.size))) hS' rfl
    have I2:=V1 (t':=tk+1) (h':=h'.update S (Obj.mapSeq (·.push (.ref s.heap.objs.size)))) (ch:=[S]) I1 (fun b hb=>hf1 b (by simp at hb;simp[hb])) fun b u hb q=>oth b u (fun z=>hb (by simp[z])) q
    have hnf:Hf s.heap.objs.size=none:=g.sub.free hn
    refine wpAny_pure ⟨plainId_quiet F.plain_extend_loop _,ih (i+1) _ _ (upd Hf s.heap.objs.size (.tup [.int i,ws[i]])) (Ts++[s.heap.objs.size]) (c+1) (by omega) (by omega) I2 hf1 (he'.ext hS' ⟨_,hSn⟩ h4 oth) (hit'.ext fun o q=>oth it o h5.symm q) (au2 (L5 hnf) sq) (g.trans (Grow.laid g.sub hn)) ?_ ?_ hR⟩
    · simpa [aQ6,Obj.mapSeq] using hSn
    · refine⟨by rw[List.length_append,ht.1];rfl,fun j T hj=>?_⟩
      rcases Nat.lt_or_ge j Ts.length with q|q
      · rw[List.getElem?_append_left q]at hj
        obtain⟨x,ex,hx⟩:=ht.2 j T hj
        exact⟨x,ex,by rw[J0 (K2 hx hnf)];exact hx⟩
      · rw[List.getElem?_append_right q]at hj
        have hj0:j - Ts.length=0:=by
          rcases Nat.eq_zero_or_pos (j - Ts.length) with z|z
          · exact z
          · rw[List.getElem?_eq_none (by simp;omega)]at hj;cases hj
        rw[hj0]at hj
        cases hj
        have:j=i:=by have:=ht.1;omega
        subst this
        exact⟨_,List.getElem?_eq_getElem hlt,J9⟩
theorem ay7{H Hf:Hp}{s:Shared}{E:Value->Shared->Prop}{Q:Value->Shared->Prop}(hc:A.handled=none) (h1:e≠it) (h2:a≠e) (h3:a≠it) (hz:ws.length<=1000) (I:Inv X pins σ H s) (hf:∀b∈[e,it],o9 X pins H b) (he:IsEnum s.heap e it 0 .none) (hit:SIt t s.heap it a 0) (sq:Sq X.K t Hf a ws) (g:L0 Hf H)
  (hQ:∀s' H' Hf' Ts c,Inv X pins σ H' s'->(∀b∈[e,it,s.heap.objs.size],o9 X pins H' b)->Grow H Hf H' Hf'->s'.heap.get? s.heap.objs.size=some (aQ6 Ts c)->cj9 Hf' ws Ts ws.length->Q (.ref s.heap.objs.size) s') :
  wpAny (model X.prog X.w) A (call (.type "list") [.ref e]) Q E s:=by
 have el:=Heap.lt_size he
 have il:=hit.lt
 obtain⟨S,eS⟩:∃S,S=s.heap.objs.size:=⟨_,rfl⟩
 have fS:o9 X pins H S:=I.fpOk (by omega) (I.hok.fresh (by omega))
 have h4:S≠e:=by rw[eS];exact Nat.ne_of_gt el
 have h5:S≠it:=by rw[eS];exact Nat.ne_of_gt il
 rw[← eS]at hQ
 refine callType_codes (Q₁:=fun obj s₁=>obj=.ref S/\s₁={ s with heap:=s.heap.push { cls:=.type "list", data:=.seq #[] } }) F.called_list (F.typeCall_list_1 _) F.entry_list_init (code_list_new _ ⟨by rw[eS],rfl⟩) fun obj s₁ hh=>?_
 obtain⟨rfl,rfl⟩:=hh
 have hS:(s.heap.push { cls:=.type "list", data:=.seq #[] }).get? S=some { cls:=.type "list", data:=.seq #[] }:=by rw[eS];exact Heap.get?_push_size _ rfl
 refine⟨⟨_,hS,rfl⟩,F.args_list_init_2 _ _,?_⟩
 show wpAny _ _ (do let old ← Builtin.List.listItems (.ref S);Builtin.List.listUpdate (.ref S) (fun _=>#[]);letGo old.toList.reverse;Builtin.List.listExtendWith (.ref S) (.ref e) .none) _ _ _
 refine wpAny_bind ?_
 unfold Builtin.List.listItems
 refine wpAny_bind (wpAny_seqItems hS rfl (wpAny_pure ?_))
 show wpAny _ _ (updateSeq S (fun _=>#[]) >>= fun _=>letGo (#[]:Array Value).toList.reverse >>= fun _=>Builtin.List.listExtendWith (.ref S) (.ref e) .none) _ _ _
 refine wpAny_bind (wpAny_updateSeq hS rfl ?_)
 have hS₂:=Heap.get?_update_self (Obj.mapSeq (fun _=>(#[]:Array Value))) hS rfl
 refine wpAny_bind (wpAny_letGo ?_)
 have k2:∀b o,b≠S->s.heap.get? b=some o->((s.heap.push { cls:=.type "list", data:=.seq #[] }).update S (Obj.mapSeq (fun _=>(#[]:Array Value)))).get? b=some o:=fun b o hb q=>(Heap.get?_update_other _ _ (Ne.symm hb)).trans (Heap.get?_push_of_some _ q)
 generalize (s.heap.push { cls:=.type "list", data:=.seq #[] }).update S (Obj.mapSeq (fun _=>(#[]:Array Value)))=h₂ at hS₂ k2
 have he₂:IsEnum h₂ e it 0 .none:=k2 e _ h4.symm he
 unfold Builtin.List.listExtendWith
 refine wpAny_bind (wpAny_typeOf ⟨_,he₂,rfl⟩ ?_)
 have q1:Builtin.List.listSameRef (.ref S) (.ref e)=false:=by simp[Builtin.List.listSameRef,h4]
 have q2:(Value.type "enumerate" == Value.type "list")=false:=by decide
 have q3:(Value.type "enumerate" == Value.type "tuple")=false:=by decide
 simp only[q1,q2,q3,Bool.or_false,xft,if_false]
 refine wpAny_bind (wpAny_pyIter_enum he₂ ?_)
 refine wpAny_bind (wpAny_holding ?_)
 unfold Builtin.List.listLengthHint
 refine wpAny_bind (wpAny_specialOf ⟨_,he₂,rfl⟩ aS2 ?_)
 show wpAny _ _ (specialOf (Value.ref e) (Str.ofString "__length_hint__") >>= _) _ _ _
 refine wpAny_bind (wpAny_specialOf ⟨_,he₂,rfl⟩ aL2 ?_)
 refine wpAny_pure ?_
 show wpAny _ _ (rule "list.extend.makes-room" >>= fun _=>Builtin.List.listTouch (.ref S) >>= fun _=>again (.builtin "list.extend.loop" ⟨[.ref S,.ref e,.none],[]⟩)) _ _ _
 refine wpAny_bind (wpAny_rule ?_)
 refine wpAny_bind ?_
 show wpAny _ _ (updateSeq S (·.push .none) >>= fun _=>updateSeq S (·.pop)) _ _ _
 refine wpAny_bind (wpAny_updateSeq hS₂ rfl ?_)
 have hS₃:=Heap.get?_update_self (Obj.mapSeq (·.push Value.none)) hS₂ rfl
 refine wpAny_updateSeq (hz:=by seq_fits) hS₃ rfl ?_
 have hS₄:=Heap.get?_update_self (Obj.mapSeq (·.pop)) hS₃ rfl
 have k4:∀b o,b≠S->s.heap.get? b=some o->((h₂.update S (Obj.mapSeq (·.push Value.none))).update S (Obj.mapSeq (·.pop))).get? b=some o :=
  fun b o hb q=>(Heap.get?_update_other _ _ (Ne.symm hb)).trans ((Heap.get?_update_other _ _ (Ne.symm hb)).trans (k2 b o hb q))
 generalize (h₂.update S (Obj.mapSeq (·.push Value.none))).update S (Obj.mapSeq (·.pop))=h₄ at hS₄ k4
 have I4:Inv X pins σ H { s with heap:=h₄,toks:=s.toks }:=V1 (ch:=[S]) I (fun b hb=>by simp at hb;rw[hb];exact fS) fun b u hb q=>k4 b u (fun z=>hb (by simp[z])) q
 refine wpAny_pure ⟨plainId_quiet F.plain_extend_loop _,bl2 (S:=S) (A:=A.in1) hc h1 h2 h3 h4 h5 hz ws.length 0 _ H Hf [] _ (by omega) (by omega) I4 (fun b hb=>by
  simp at hb
  rcases hb with rfl|rfl|rfl
  ·exact hf _ (by simp)
  ·exact hf _ (by simp)
  ·exact fS) (.inl ⟨_,k4 e _ h4.symm he⟩) (hit.ext fun o q=>k4 it o h5.symm q) sq (Grow.refl g) hS₄ ⟨rfl,fun j T hj=>by simp at hj⟩ fun s' H' Hf' Ts c I' f' g' hS' t'=>?_⟩
 exact⟨rfl,hQ s' H' Hf' Ts c I' f' g' hS' t'⟩
def cx5(vs:List V):It:=⟨fun i _=>i < vs.length,fun i H x H'=>H'=H/\vs[vs.length - 1 - i]? = some x,fun i _=>vs.length<=i⟩
theorem bs1{P:Program}{w:World}{K:PySem.W.Frag}{tg:Expr}(R S:Addr) (hne:S≠R) (Ts:List Addr) (c:Nat) :
  Turn P w K tg (cx5 (Ts.map V.ref)) [R,S] R (fun i h=>i<=Ts.length/\h.IsRevIter R S ((Ts.length:Int) - 1 - (i:Int))/\h.get? S=some (aQ6 Ts c)) where
 mem:=by simp
 obj:=fun i h ⟨_,hr,hl⟩ b hb=>by
  simp only[List.mem_cons,List.not_mem_nil,or_false]at hb
  rcases hb with rfl|rfl
  ·obtain⟨o,ho,_,hd⟩:=hr;exact⟨o,ho,fun v q=>by rw[hd]at q;cases q⟩
  ·exact⟨_,hl,fun v q=>by cases q⟩
 keep:=fun i h h' ⟨hi,hr,hl⟩ k=>⟨hi,hr.at fun o q=>k R (by simp) o q,k S (by simp) _ hl⟩
 item:=by
  intro X hP hw hK hc i pins s σ H E I hf ⟨hi,hr,hl⟩ hg
  subst hP hw hK
  have hg:i < Ts.length:=by
   have:i < (Ts.map V.ref).length:=hg
   rwa [List.length_map]at this
  have e:(Ts.length:Int) - 1 - (i:Int)=((Ts.length - 1 - i:Nat):Int):=by omega
  rw[e]at hr
  have hx:(Ts.map Value.ref).toArray[Ts.length - 1 - i]? = some (.ref (Ts[Ts.length - 1 - i]'(by omega))):=by simp
  refine wpAny_pyNext_rev_item hr (items:=(Ts.map Value.ref).toArray) ⟨_,hl,rfl,_,rfl⟩ hx fun h' hr' sb=>?_
  have I1:Inv X pins σ H { s with heap:=h',toks:=s.toks }:=V1 (ch:=[R,S]) I hf fun b u hb q=>sb.extBut b u (fun z=>hb (by simp[z])) q
  obtain⟨o,ho,hc',hd⟩:=id hr'
  refine⟨_,rfl,bg4 (s:={ s with heap:=h' }) ho hc' hd (by decide) ⟨.ref (Ts[Ts.length - 1 - i]'(by omega)),H,I1,rfl,⟨rfl,?_⟩,⟨by omega,?_,sb.extBut S _ hne hl⟩,fun b hb=>(hf b hb).1⟩⟩
  ·rw[List.length_map,List.getElem?_map,List.getElem?_eq_getElem (by omega)];rfl
  ·have e2:((Ts.length - 1 - i:Nat):Int) - 1=(Ts.length:Int) - 1 - ((i+1:Nat):Int):=by omega
   rw[← e2];exact hr'
 done:=by
  intro X hP hw hK hc i pins s σ H E I hf ⟨hi,hr,hl⟩ hg
  subst hP hw hK
  have hg:Ts.length<=i:=by
   have:(Ts.map V.ref).length<=i:=hg
   rwa [List.length_map]at this
  have e:(Ts.length:Int) - 1 - (i:Int) = -1:=by omega
  rw[e]at hr
  exact wpAny_pyNext_rev_end (I.ok.hd hc) hr fun h' eb=>⟨rfl,V1 (t':=s.toks) (ch:=[R,S]) I hf fun b u hb q=>eb b u (fun z=>hb (by simp[z])) q⟩
 self:=fun _ _ _ _ _ ⟨_,hr,_⟩ h=>wpAny_pyIter_revIter hr h
end
section
variable {X:Cx}
theorem ty1{pins:List (Addr×Obj)}{s:Shared}{σ:L2.St}{H:Hp}{T:String}{x:Str}{a:Expr}{p pos:Pos}{Q:Value->Shared->Prop}{E:Value->Shared->Prop}(I:Inv X pins σ H s) (hg:Gl X x) (hm:X.mg x=none) (hv:bootBuiltins x=some (.type T)) (hn:x ≠ "__name__") (hd:(x==("__debug__" : Str))=false)
  (hs:starEach [a] X.env=[(false,eval a X.env)]) (h:wpAny (model X.prog X.w) X.A (eval a X.env) (fun v s1=>wpAny (model X.prog X.w) X.A (call (.type T) [v]) Q E s1) E s):wpAny (model X.prog X.w) X.A (eval (.Call (.Name x p) [a] [] pos) X.env) Q E s:=by
 refine Call_ (ai9 I hg hm hv (PyProof.Rows.callWith_type1 ?_ (by rw[hs];rfl) (by rfl)) hn hd)
 rw[hs]
 exact Calls.spliced_cons (thn h fun v s1 q=>Calls.spliced_nil q)
def bB6(f:Rho->Option (Bool×List D)):Rho->Option (List D):=fun ρ=>(f ρ).bind fun q=>if q.2.length<=1000 then some (Y4 q.2).reverse else none
theorem bP4{elts:List Expr}{k0:Nat}{tpos:Pos}{a:Expr}{f:DE}{p1 p2 p3 q1 q2 q3:Pos}(ge:Gl X "enumerate") (me:X.mg "enumerate" = none) (gl:Gl X "list") (ml:X.mg "list" = none) (gr:Gl X "reversed") (mr:X.mg "reversed" = none) (hc:X.calm=true) (ha:JE X a f) (hs:starEach [a] X.env=[(false,eval a X.env)]:=by rfl) :
  JI X (.Tuple elts k0 tpos) (.Call (.Name "reversed" p1) [.Call (.Name "list" p2) [.Call (.Name "enumerate" p3) [a] [] q3] [] q2] [] q1) (bB6 (qE f)):=fun ρ out q=>by
 obtain⟨⟨t1,ds⟩,e1,q⟩:=xbo q
 simp only at q
 split at q
 ·rename_i hz
  cases q
  obtain⟨d1,e1,e1'⟩:=xbo e1
  intro pins s σ H R I ⟨H0,Hf,ss,sl,k⟩
  refine ty1 I gr mr rfl (by decide) (by decide) rfl (ty1 I gl ml rfl (by decide) (by decide) rfl (ty1 I ge me rfl (by decide) (by decide) hs ?_))
  refine thn (ha ρ d1 e1 pins s σ H (fun v H'=>∃Hf',Grow H Hf H' Hf'/\Rep X.K Hf' d1 v) I ⟨H0,Hf,ss,sl,fun v H1 Hf1 g1 r1=>⟨Hf1,g1,r1⟩⟩) fun u s1 ⟨v,H1,I1,rv,Hf1,gr1,p1⟩=>?_
  obtain⟨a1,vs1,rfl,w1,w2⟩:=p1.seq (L0.refl Hf1) e1'
  cases rv
  obtain⟨us1,rr1,hp1,lt1⟩:=U5 I1 (au2 gr1.sub w1)
  have hz':vs1.length<=1000:=by have:=w2.length;omega
  refine aw2 hp1 fun h' b1 b2 b3=>?_
  have I2:Inv X pins σ H1 { s1 with heap:=h' }:=I1.kept (t':=s1.toks) b3
  refine ay7 (e:=s1.heap.objs.size+1) (it:=s1.heap.objs.size) (a:=a1) (I.ok.hd hc) (Nat.succ_ne_self _) (Nat.ne_of_lt (Nat.lt_succ_of_lt lt1)) (Nat.ne_of_lt lt1) hz' I2 (fun b hb=>?_) b1 b2 w1 gr1.sub fun s3 H3 Hf3 Ts c I3 f3 g3 hS3 t3=>?_
  ·have hb':s1.heap.objs.size<=b:=by
    simp only[List.mem_cons,List.not_mem_nil,or_false]at hb
    rcases hb with rfl|rfl
    ·exact Nat.le_add_right _ _
    ·exact Nat.le_refl _
   exact I1.fpOk hb' (I1.hok.fresh hb')
  obtain⟨S,eS⟩:∃S,S=h'.objs.size:=⟨_,rfl⟩
  rw[show(Shared.heap { s1 with heap:=h' }).objs.size=S from eS.symm]at hS3 f3 ⊢
  refine call_reversed_list (items:=(Ts.map Value.ref).toArray) ⟨_,hS3,rfl,_,rfl⟩ ?_
  have kp:∀b o,s3.heap.get? b=some o->(s3.heap.push (revObj S (((Ts.map Value.ref).toArray.size:Int) - 1))).get? b=some o:=fun b o q=>Heap.get?_push_of_some _ q
  have I4:Inv X pins σ H3 { s3 with heap:=s3.heap.push (revObj S (((Ts.map Value.ref).toArray.size:Int) - 1)),toks:=s3.toks }:=I3.kept kp
  have lS:=Heap.lt_size hS3
  have rv:(s3.heap.push (revObj S (((Ts.map Value.ref).toArray.size:Int) - 1))).IsRevIter s3.heap.objs.size S ((Ts.length:Int) - 1 - ((0:Nat):Int)):=⟨_,Heap.get?_push_size _ rfl,rfl,by simp[revObj]⟩
  refine wpAny_pyIter_revIter rv ⟨_,_,_,_,H3,rfl,I4,bs1 s3.heap.objs.size S (Nat.ne_of_lt lS) Ts c,⟨Nat.zero_le _,rv,kp _ _ hS3⟩,fun b hb=>?_,k _ H3 Hf3 (gr1.trans g3) ?_⟩
  ·simp only[List.mem_cons,List.not_mem_nil,or_false]at hb
   rcases hb with rfl|rfl
   ·exact I3.fpOk (Nat.le_refl _) (I3.hok.fresh (Nat.le_refl _))
   ·exact f3 _ (by simp)
  ·intro i H4 Hf4 sa sb
   have l1:=w2.length
   have tl:=t3.1
   have el:(Ts.map V.ref).length=ds.length:=by rw[List.length_map,tl,l1]
   refine⟨fun hi=>?_,fun d hd=>?_⟩
   ·rw[List.length_reverse,V7]at hi
    show(Ts.map V.ref).length<=i
    omega
   ·have hlt:i < ds.length:=by
     have:=(List.getElem?_eq_some_iff.mp hd).1
     rwa [List.length_reverse,V7]at this
    refine⟨show i < (Ts.map V.ref).length by omega,fun x H' ⟨z1,z2⟩=>?_⟩
    subst z1
    rw[List.getElem?_reverse (by rw[V7];exact hlt),V7,ae8]at hd
    obtain⟨d0,ed,rfl⟩:=xmo hd
    rw[el,List.getElem?_map]at z2
    obtain⟨T,eT,rfl⟩:=xmo z2
    obtain⟨x0,ex0,hT⟩:=t3.2 _ T eT
    obtain⟨v0,ev0,rv0⟩:=w2.get ed
    rw[ev0]at ex0
    obtain rfl:=Option.some.inj ex0
    exact⟨Hf4,Grow.refl sb,T,_,rfl,SqT.of (sa _ _ hT),.int _,[v0],rfl,rfl,v0,[],rfl,(rv0.mono g3.ext).mono sa,rfl⟩
 ·cases q
end
section
open PySem.SeqAt PySem.MeetsSeq PySem.MeetsSeq2 PySem.MeetsSeq3 PySem.SeqRoads2
open PySem.AutoSeq1 (wpAny_loadPart')
end
section
variable {X:Cx}
end
section
variable {X:Cx}
def lsB(x:D) (ds:List D):Prop:=SeqAt.shaped x=true/\x.depth<=60/\ds.all SeqAt.shaped=true/\ds.all U2=true
instance (x:D) (ds:List D):Decidable (lsB x ds):=by unfold lsB;exact inferInstance
end
abbrev FnD:=List D->Option D
structure Sg where
 fn:List (Str×FnD×Nat)
 cs:List (Str×D)
 bl:List Str
structure Kx where
 N:List Str
 sc:Scope
 df:Bool
 own:List Nat
 cpt:List Nat
 tx:List Nat
 old:Bool
 fz:List (Nat×List Nat)
 hc:List ((Nat×Nat)×List Nat)
def biS(K:PySem.W.Frag) (n:Nat) (F:List D->Option D):List V->Hp->VK->Prop:=fun vs H Q=>vs.length=n/\∃Hf ds d,L0 Hf H/\Reps K Hf ds vs/\F ds=some d/\∀v H' Hf',Grow H Hf H' Hf'->Rep K Hf' d v->Q v H'
def ck5(x:Str) (F:FnD) (n:Nat):Prop:=0 < n/\x ≠ "__name__" /\ ∃nm,bootBuiltins x=some (.builtin nm)/\∀X:Cx,X.A.units+64 < cLine->ai5 X (.builtin nm) (biS X.K n F)
theorem cr4{X:Cx}{n:Nat}{F:FnD}{x:Str}{e:Expr}{es:List Expr}{g:Rho->Option (List D)}{p pos:Pos}(hb:ck5 x F n) (hu:X.A.units+64 < cLine) (hg:Gl X x) (hm:X.mg x=none) (ha:JA X (e::es) g) (hn:(e::es).length=n) (hdb:(x==("__debug__" : Str))=false)
  (he:starEach (e::es) X.env=(false,eval e X.env)::starEach es X.env) (hpl:(backTo pos (starEach es X.env)).any (·.1)=false):JE X (.Call (.Name x p) (e::es) [] pos) (A3 F g):=fun ρ d q=>by
 obtain⟨ds,h1,h2⟩:=xbo q
 obtain⟨_,hnn,nm,hv,hc⟩:=hb
 refine K7 (ae3 (hc X hu) hg hm hv (ha.run ρ ds h1) hnn hdb he hpl) fun σ H Q ⟨H0,Hf,s,sl,kk⟩=>?_
 exact⟨H0,Hf,s,sl,fun vs H1 Hf1 g1 r1=>⟨by rw[r1.length,ha.len ρ ds h1,hn],Hf1,ds,d,g1.sub,r1,h2,fun v H2 Hf2 g2 r2=>kk v H2 Hf2 (g1.trans g2) r2⟩⟩
def cx6(X:Cx) (x:Str) (F:FnD) (n:Nat):Prop:=(∃(k:Nat) (f:Addr) (fd:FuncData) (ps:List Str),FnOk X.prog X.w X.K X.mg X.base CX0 k f fd ps (spF X.K n F)/\Room k X.A/\X.mg x=some (.ref f)/\PySem.W.keepIn X.K (.ref f)=true/\T6 X.K fd ps [])\/(X.mg x=none/\ck5 x F n)
structure Fit (S:Sg) (c:Kx) (X:Cx):Prop where
 N:X.N=c.N
 sc:X.env.scope=c.sc
 nd:c.N.Nodup
 calm:X.calm=true
 xe:X.xe=fun _ _=>False
 units:X.A.units+64 < cLine
 df:c.df=true->(∀x,X.fn x=true)/\c.sc.kind=.function
 fns:∀x F n,S.fn.lookup x=some (F,n)->cx6 X x F n
 css:∀x d,S.cs.lookup x=some d->∃u,bb8 X.K d u/\X.mg x=some u
 bls:∀x,S.bl.contains x=true->X.mg x=none
def pl:Expr->Bool
 | .Starred ..=>false
 | .Slice ..=>false
 | .Set ..=>false
 | _=>true
def aY0:Expr->Bool
 | .Call ..=>false
 | _=>true
def isC:Expr->Bool
 | .ListComp ..=>true
 | .SetComp ..=>true
 | .DictComp ..=>true
 | _=>false
def plT:Expr->Bool
 | .UnaryOp ..=>false
 | .BoolOp ..=>false
 | .IfExp ..=>false
 | .Compare ..=>false
 | _=>true
def aa8(x:Str):List Str->Option Nat
 | []=>none
 | y::r=>if y==x then some 0 else(aa8 x r).map (·+1)
theorem aR0{x:Str}:∀{l:List Str}{i:Nat},aa8 x l=some i->l[i]? = some x
 | [],i,h=>by cases h
 | y::r,i,h=>by
  unfold aa8 at h
  split at h
  ·rename_i e
   cases h
   simp only[beq_iff_eq]at e
   subst e;rfl
  ·obtain⟨j,h1,h2⟩:=xmo h
   subst h2
   simpa using aR0 h1
def ap5:List Str->Bool
 | []=>true
 | x::r=>!(r.contains x)&&ap5 r
theorem ap4:∀{l:List Str},ap5 l=true->l.Nodup
 | [],_=>List.nodup_nil
 | x::r,h=>by
  unfold ap5 at h
  simp only[Bool.and_eq_true,Bool.not_eq_true']at h
  refine List.nodup_cons.mpr ⟨fun z=>?_,ap4 h.2⟩
  have:=h.1
  rw[List.contains_iff_mem.mpr z]at this
  cases this
def aO0(sc:Scope) (x:Str):Bool:=(match sc.names.lookup x with|some .local=>true|some .cell=>true|some .free=>true|_=>false) && !(x==("__debug__" : Str)) && !(x==("__classdict__" : Str))
def bl3(c:Kx) (x:Str):Bool:=(match c.sc.names.lookup x with|some .local=>true|some .cell=>c.df|_=>false)
def ax9(sc:Scope) (x:Str):Bool:=(match sc.names.lookup x with|some .globalImplicit=>true|_=>false) && !(x==("__debug__" : Str))
def biB(S:Sg) (c:Kx) (w x:Str):Bool:=x==w&&S.bl.contains w&&ax9 c.sc w
section
variable {X:Cx}{S:Sg}{c:Kx}
theorem af5{x:Str}(F:Fit S c X) (h:aO0 c.sc x=true):Vis X.env.scope x/\(x==("__debug__" : Str))=false/\(x==("__classdict__" : Str))=false:=by
 unfold aO0 at h
 simp only[Bool.and_eq_true,Bool.not_eq_true']at h
 obtain⟨⟨h1,h2⟩,h3⟩:=h
 refine⟨?_,h2,h3⟩
 rw[F.sc]
 unfold Vis
 split at h1
 ·rename_i e;exact .inl e
 ·rename_i e;exact .inr (.inl e)
 ·rename_i e;exact .inr (.inr e)
 ·cases h1
theorem aJ8{x:Str}(F:Fit S c X) (h:bl3 c x=true):L2.Loc X.env.scope x/\(X.fn x=true\/X.env.scope.names.lookup x=some .local):=by
 unfold bl3 at h
 rw[F.sc]
 unfold L2.Loc
 split at h
 ·rename_i e;exact⟨.inl e,.inr e⟩
 ·rename_i e;exact⟨.inr e,.inl ((F.df h).1 x)⟩
 ·cases h
theorem aa9{x:Str}(F:Fit S c X) (h:ax9 c.sc x=true):Gl X x/\(x==("__debug__" : Str))=false:=by
 unfold ax9 at h
 simp only[Bool.and_eq_true,Bool.not_eq_true']at h
 refine⟨?_,h.2⟩
 unfold Gl Env.kindOf
 rw[F.sc]
 have h1:=h.1
 split at h1
 ·rename_i e;exact e
 ·cases h1
theorem Q0{w x:Str}(F:Fit S c X) (h:biB S c w x=true):x=w/\Gl X w/\X.mg w=none:=by
 unfold biB at h
 simp only[Bool.and_eq_true,beq_iff_eq]at h
 exact⟨h.1.1,(aa9 F h.2).1,F.bls _ h.1.2⟩
theorem P7{e:Expr}(h:pl e=true) (es:List Expr) (env:Env):starEach (e::es) env=(false,eval e env)::starEach es env:=by cases e<;>first|rfl|cases h
theorem bT7{e:Expr}(h:pl e=true):av1 e:=by
 intro o i
 cases e<;>first|rfl|cases h
theorem al6{e:Expr}(h:pl e=true) (op:CmpOp):behindInMarks op e=false:=by cases e<;>first|rfl|cases h
theorem aJ2{e:Expr}(h:pl e=true) (env:Env) (x:Value):foldedSetIterable e env x=pure x:=by cases e<;>first|rfl|cases h
theorem aP6{o:Expr}(h:aY0 o=true) (attr:Str) (env:Env) (t:Sem Value):attributeBase o attr env t=t:=by cases o<;>first|rfl|cases h
theorem al8{e:Expr}(h:isC e=false) (t:Option Expr) (l:Nat) (env:Env):swapsWith e t l env=pure false:=by cases e<;>first|rfl|cases h
theorem bu8{e:Expr}(h:plT e=true) (env:Env) (whole:Sem Value):isTrue e env whole=(do let v ← whole;standAt e.pos;holding [v] (truthy v)):=by cases e<;>first|rfl|cases h
end
abbrev DA:=Rho->Option (List D)
abbrev DQ:=Rho->Option (Bool×List D)
abbrev DT:=Rho->Option Bool
abbrev DG:=D->Rho->Option Rho
def dNo:DE:=fun _=>none
def aNo:DA:=fun _=>none
def qNo:DQ:=fun _=>none
def tNo:DT:=fun _=>none
def gNo:DG:=fun _ _=>none
structure Ev where
 e:Kx->Expr->DE
 q:Kx->Expr->DQ
 n:Kx->Expr->DA
 t:Kx->Expr->DT
 g:Kx->Expr->DG
 b:Kx->List Stmt->DS
def bb1:CmpOp->D->D->Option D
 | .Lt=>ltI | .LtE=>leI | .Gt=>gtI | .GtE=>geI | .Eq=>eqD | .NotEq=>neD | .Is=>isB | .IsNot=>aX9 | .In=>inD false | .NotIn=>inD true
def evA(f:Expr->DE):List Expr->DA
 | []=>A2
 | e::es=>if pl e then A0 (f e) (evA f es) else aNo
def bm0(f:Expr->DE) (op:BoolOp):List Expr->DE
 | []=>dNo
 | [a]=>f a
 | a::b::r=>match op with
  | .And=>T8 (f a) (bm0 f op (b::r))
  | .Or=>dOr (f a) (bm0 f op (b::r))
def bD4(f:Expr->DT) (op:BoolOp):List Expr->DT
 | []=>tNo
 | [a]=>f a
 | a::b::r=>match op with
  | .And=>U0 (f a) (bD4 f op (b::r))
  | .Or=>P8 (f a) (bD4 f op (b::r))
def evO(f:Expr->DE):Option Expr->Rho->Option (Option Int)
 | none=>N6
 | some e=>L4 (f e)
def ci4(f:Expr->DG):List Expr->List D->Rho->Option Rho
 | []=>N4
 | e::es=>C2 (f e) (ci4 f es)
def bD3(f:Expr->DT):List Expr->DT
 | []=>K3
 | [t]=>f t
 | _=>tNo
def Y0:Expr->List Str
 | .Name x _=>[x]
 | .Tuple es _ _=>es.filterMap fun | .Name x _=>some x|_=>none
 | _=>[]
def rl(scope sc:Scope):Scope:={ scope with names:=scope.names.map fun(n,k)=>if(k == .free&&sc.kind == .function&&sc.names.lookup n==some .cell) then(n,.cell) else(n,k) }
def bB8(n:Nat) (caps l:List Nat):List Nat:=(List.range caps.length).filterMap fun i=>match caps[i]? with|some j=>if l.contains j then some (n+i) else none|none=>none
def cm7(c:Kx) (j:Nat):Str:=(c.N[j]?).getD ""
def inner(c:Kx) (tn:List Str) (caps:List Nat) (scope:Scope):Kx :=
 { N:=tn++caps.map (cm7 c),sc:=rl scope c.sc,df:=false,own:=bB8 tn.length caps c.own,cpt:=[],tx:=bB8 tn.length caps c.tx,old:=c.old,fz:=[],hc:=c.hc }
def isList:Expr->Bool
 | .List ..=>true
 | .ListComp ..=>true
 | _=>false
def am6(c:Kx) (l:List Nat):Expr->Bool
 | .Name x _=>(match aa8 x c.N with|some i=>l.contains i|none=>false)
 | _=>false
def ch5:Expr->Bool
 | .Constant (.str _) _ _=>true
 | _=>false
def cx7(S:Sg) (c:Kx):Expr->Bool
 | .Constant (.str _) _ _=>true
 | .Name x _=>(match aa8 x c.N with|some _=>false|none=>(match S.cs.lookup x with|some (.str _)=>true|_=>false))
 | _=>false
def opW(S:Sg) (c:Kx) (op:CmpOp) (b:Expr):D->D->Option D:=bb1 op
def aR2:Expr->Bool
 | .Tuple ..=>true
 | _=>false
def bX0(x:Str):Option String:=if x == "int" then some "int" else if x == "bool" then some "bool" else if x == "str" then some "str" else if x == "tuple" then some "tuple" else if x == "list" then some "list" else none
section
variable (S:Sg) (r:Ev)
def evR(c:Kx) (tg:Expr) (a:Expr):DA:=match a with
 | .Call f as kw _=>(match f,as,kw with
  | .Name y _,[e],[]=>(match e with
   | .Call f2 as2 kw2 _=>(match f2,as2,kw2 with
    | .Name z _,[b],[]=>if biB S c "list" y&&biB S c "enumerate" z&&aR2 tg&&pl b then bB6 (qE (r.e c b)) else fun _=>none
    | _,_,_=>fun _=>none)
   | _=>fun _=>none)
  | _,_,_=>fun _=>none)
 | _=>fun _=>none
def evI(c:Kx) (tg it:Expr):DA:=match it with
 | .Call (.Name x _) [a] [] _=>if biB S c "reversed" x then evR S r c tg a else if biB S c "range" x&&pl a then O1 (r.e c a) else if biB S c "enumerate" x&&aR2 tg&&pl a then am7 (qE (r.e c a)) else L7 (r.e c it)
 | .Call (.Name x _) [a,b] [] _=>if biB S c "range" x&&pl a&&pl b then(fun _=>none) else if biB S c "zip" x&&aR2 tg&&pl a&&pl b then ac6 (qE (r.e c a)) (qE (r.e c b)) else L7 (r.e c it)
 | _=>if am6 c c.tx it then(fun _=>none) else L7 (r.e c it)
def evC(c:Kx) (ex:Expr):DA:=match ex with
 | .ListComp elt [⟨tgt,iter,ifs,0⟩] scope pos =>
  let tn:=Y0 tgt
  let caps:=(c.hc.lookup (pos.line,pos.col)).getD []
  let c':=inner c tn caps scope
  if av0 c.N c'.N tn.length caps c.sc scope&&ap5 c'.N&&pl iter then G8 tn.length caps (evI S r c tgt iter) (r.g c' tgt) (bD3 (r.t c') ifs) (r.e c' elt) else aNo
 | _=>aNo
def aV7(c:Kx) (x:Str) (a:Expr):DE :=
 if !(pl a) then dNo
 else if biB S c "len" x then(match a with
  | .Call (.Name y _) [e] [] _=>if biB S c "set" y&&pl e then dNo else V5 (r.q c a)
  | _=>if am6 c c.tx a then dNo else V5 (r.q c a))
 else if biB S c "tuple" x then O0 (r.q c a)
 else if biB S c "all" x then ab1 (r.q c a)
 else if biB S c "int" x then u9 (r.e c a)
 else if biB S c "str" x then dNo
 else if biB S c "abs" x then dNo
 else if biB S c "min" x then dNo
 else if biB S c "max" x then dNo
 else dNo
def aV6(c:Kx) (x:Str) (a b:Expr):DE :=
 if !(pl a) then dNo
 else if biB S c "isinstance" x then(match b with
  | .Name y _=>(match bX0 y with
   | some T=>if biB S c y y then Z8 T (r.e c a) else dNo
   | none=>dNo)
  | _=>dNo)
 else if !(pl b) then dNo
 else if biB S c "min" x then dNo
 else if biB S c "max" x then dNo
 else dNo
def br4(c:Kx) (x:Str) (args:List Expr) (ex:Expr):DE:=match S.fn.lookup x with
 | some (F,n)=>if ax9 c.sc x&&args.length==n&&args.all pl then A3 F (evA (r.e c) args) else dNo
 | none=>match args with
  | [a]=>if biB S c "list" x then P0 (r.n c ex) else aV7 S r c x a
  | [a,b]=>aV6 S r c x a b
  | _=>dNo
def bV8(c:Kx) (a i:Expr):DE:=match i with
 | .Slice lo hi none _ =>
  if c.old then Z7 (r.e c a) (evO (r.e c) lo) (evO (r.e c) hi)
  else if am6 c c.tx a then bo5 (r.e c a) (evO (r.e c) lo) (evO (r.e c) hi)
  else if am6 c c.own a then bo6 (r.q c a) (evO (r.e c) lo) (evO (r.e c) hi)
  else u8 (r.e c a) (evO (r.e c) lo) (evO (r.e c) hi)
 | .Slice none none (some (.UnaryOp .USub (.Constant (.int 1) _ _) _)) _=>bh0 (r.e c a)
 | _=>if pl i then(if ch5 a then aj3 (r.e c a) (r.e c i) else dIx (r.q c a) (r.e c i)) else dNo
def xCn(k:Const):DE:=match k with
 | .none=>dC .none
 | .bool b=>dC (.bool b)
 | .int i=>dC (.int i)
 | .str x=>dC (.str x)
 | _=>dNo
def bW4(c:Kx) (a:Expr) (op:Operator) (b:Expr):DE:=match op with
 | .Add=>if c.old && !(isList a || isList b) then A4 Z9 (r.e c a) (r.e c b) else A4 C0 (r.e c a) (r.e c b)
 | .Sub=>A4 ac8 (r.e c a) (r.e c b)
 | .Mult=>if c.old then A4 S8 (r.e c a) (r.e c b) else(match a with
  | .Subscript v _ _=>if am6 c c.tx v then A4 bk7 (r.e c a) (r.e c b) else A4 L6 (r.e c a) (r.e c b)
  | _=>A4 L6 (r.e c a) (r.e c b))
 | .FloorDiv=>A4 ac7 (r.e c a) (r.e c b)
 | .Mod=>A4 Y1 (r.e c a) (r.e c b)
 | .Pow=>dNo
 | _=>dNo
def xUn(c:Kx) (op:UnaryOp) (a:Expr):DE:=match op with
 | .USub=>at7 (r.e c a)
 | .Not=>aq3 (r.e c a)
 | _=>dNo
def bW2(c:Kx) (a:Expr) (ops:List CmpOp) (bs:List Expr):DE:=match ops,bs with
 | [op],[b]=>if pl b then A4 (opW S c op b) (r.e c a) (r.e c b) else dNo
 | [op,op'],[b,d]=>if pl d then P6 (bb1 op) (bb1 op') (r.e c a) (r.e c b) (r.e c d) else dNo
 | _,_=>dNo
def bW0(c:Kx) (o:Expr) (m:Str) (apos cpos:Pos) (args:List Expr):DE:=match args with
 | [a]=>if m == "join" && aY0 o&&apos.endLine==cpos.line&&pl a then ay5 (r.e c o) (r.q c a) else if m == "index" && aY0 o&&apos.endLine==cpos.line&&pl a then dNo else dNo
 | _=>dNo
def xCl(c:Kx) (f:Expr) (args:List Expr) (kw:List Keyword) (pos:Pos):DE:=match kw with
 | []=>(match f with
  | .Name x p=>br4 S r c x args (.Call (.Name x p) args [] pos)
  | .Attribute o m apos=>bW0 r c o m apos pos args
  | _=>dNo)
 | _=>dNo
def xE(c:Kx) (ex:Expr):DE:=match ex with
 | .Constant k _ _=>xCn k
 | .Name x _=>(match aa8 x c.N with
  | some i=>if aO0 c.sc x then A1 i else dNo
  | none=>(match S.cs.lookup x with
   | some d=>if ax9 c.sc x then dC d else dNo
   | none=>dNo))
 | .Tuple es _ _=>if es.length<=1000 then D4 (evA (r.e c) es) else dNo
 | .List _ _=>P0 (r.n c ex)
 | .ListComp _ _ _ _=>P0 (r.n c ex)
 | .BinOp a op b _=>bW4 r c a op b
 | .UnaryOp op a _=>xUn r c op a
 | .Compare a ops bs _=>bW2 S r c a ops bs
 | .BoolOp op vs _=>bm0 (r.e c) op vs
 | .IfExp t a b _=>ab0 (r.t c t) (r.e c a) (r.e c b)
 | .Subscript a i _=>bV8 r c a i
 | .Call f args kw pos=>xCl S r c f args kw pos
 | _=>dNo
def cw1(c:Kx) (f:Expr) (as:List Expr) (kw:List Keyword):Bool:=match f with
 | .Name x _=>as.length==1&&kw.isEmpty&&biB S c "list" x
 | _=>false
def xQ(c:Kx) (ex:Expr):DQ:=match ex with
 | .Name x _=>(match aa8 x c.N with
  | some i=>if aO0 c.sc x then A5 i else qNo
  | none=>qE (r.e c ex))
 | .List _ _=>qN (r.n c ex)
 | .ListComp _ _ _ _=>qN (r.n c ex)
 | .Call f as kw _=>if cw1 S c f as kw then qN (r.n c ex) else qE (r.e c ex)
 | _=>qE (r.e c ex)
def xNl(c:Kx) (f:Expr) (as:List Expr) (kw:List Keyword):DA:=match f with
 | .Name x _=>(match as,kw with
  | [a],[]=>if biB S c "list" x&&pl a then(fun ρ=>(r.q c a ρ).map fun q=>q.2) else aNo
  | _,_=>aNo)
 | _=>aNo
def xN(c:Kx) (ex:Expr):DA:=match ex with
 | .List es _=>if es.length<=1000 then evA (r.e c) es else aNo
 | .ListComp _ _ _ _=>evC S r c ex
 | .Call f as kw _=>xNl S r c f as kw
 | .BinOp a op b _=>(match op with
  | .Add=>aY1 (r.q c a) (r.q c b)
  | _=>aNo)
 | _=>aNo
def bS9(c:Kx) (a:Expr) (ops:List CmpOp) (bs:List Expr):DT:=match ops,bs with
 | [op],[b]=>if pl b then tB2 (opW S c op b) (r.e c a) (r.e c b) else tNo
 | [op,op'],[b,d]=>if pl d then as5 (P6 (bb1 op) (bb1 op') (r.e c a) (r.e c b) (r.e c d)) else tNo
 | _,_=>tNo
def ct8(c:Kx) (op:UnaryOp) (a:Expr):DT:=match op with
 | .Not=>M5 (r.t c a)
 | _=>tNo
def xT(c:Kx) (ex:Expr):DT:=match ex with
 | .Compare a ops bs _=>bS9 S r c a ops bs
 | .BoolOp op vs _=>bD4 (r.t c) op vs
 | .UnaryOp op a _=>ct8 r c op a
 | _=>if plT ex then M1 (r.e c ex) else tNo
def xG(c:Kx) (ex:Expr):DG:=match ex with
 | .Name x _=>(match aa8 x c.N with
  | some i=>if bl3 c x then B1 i else gNo
  | none=>gNo)
 | .Tuple es _ _=>if es.all pl then M6 es.length (ci4 (r.g c) es) else gNo
 | _=>gNo
def co0(c:Kx) (x y:Str) (px py:Pos) (a b:Expr):Bool :=
 c.df&&pl a&&pl b && !(x==y)&&px.line==py.line&&c.sc.names.lookup x==some .local&&c.sc.names.lookup y==some .local && !(([a,b]:List Expr).all (foldedForSure 8)) && !(([a,b]:List Expr).all (constantsAlone 8))
def bW5(c:Kx) (tg v:Expr) (p:Pos):DS:=match tg with
 | .Name x p'=>(match aa8 x c.N with
  | none=>K0
  | some i=>if !(bl3 c x) then K0 else(match v with
   | .ListComp _ _ sc pv=>if c.sc.names.lookup x==some .local then
     (if c.df&&p'.line==pv.line && !(sc.names.any fun(n,k)=>n==x&&(k == .local || k == .cell)) then(if c.own.contains i then U1 i (evC S r c v) else V3 i (evC S r c v)) else K0)
    else B0 i (r.e c v)
   | _=>if isC v then K0 else if c.own.contains i then U1 i (r.n c v) else B0 i (r.e c v)))
 | .Subscript (.Name x _) (.Slice lo hi none _) _=>(match aa8 x c.N with
  | none=>K0
  | some i=>if aO0 c.sc x && !(isC v) then bt4 i (evO (r.e c) lo) (evO (r.e c) hi) (r.n c v) else K0)
 | .Tuple [.Name x px,.Name y py] _ _=>(match v with
  | .Tuple [a,b] _ _=>(match aa8 x c.N,aa8 y c.N with
   | some i,some j=>if co0 c x y px py a b then bt5 i j (evA (r.e c) [a,b]) else K0
   | _,_=>K0)
  | .Tuple _ _ _=>K0
  | _=>ac5 (r.e c v) (r.g c tg))
 | .Tuple es _ _=>if aR2 v&&(es.length==2 || es.length==3) then K0 else ac5 (r.e c v) (r.g c tg)
 | _=>K0
def bV9(c:Kx) (x m:Str) (e:Expr):DS:=match aa8 x c.N with
 | none=>K0
 | some i=>if aO0 c.sc x&&pl e then(if m == "append" then O9 i (r.e c e) else if m == "extend" then aI2 i (r.e c e) else K0) else K0
def xEx(c:Kx) (e:Expr):DS:=match e with
 | .Call f args kw cpos=>(match f with
  | .Attribute o m apos=>(match o with
   | .Name x _=>(match args,kw with
    | [e],[]=>if apos.endLine==cpos.line then bV9 r c x m e else K0
    | _,_=>K0)
   | _=>K0)
  | _=>K0)
 | _=>K0
def ct9(c:Kx):Option Expr->DS
 | some e=>A9 (r.e c e)
 | none=>K0
def xWh(c:Kx) (t:Expr) (a:List Stmt):List Stmt->DS
 | []=>aa3 (r.t c t) (r.b c a)
 | _=>K0
def xFo(c:Kx) (tg it:Expr) (a:List Stmt):List Stmt->DS
 | []=>if pl it then P9 (evI S r c tg it) (r.g c tg) (r.b c a) else K0
 | _=>K0
def xAs(c:Kx) (v:Expr) (p:Pos):List Expr->DS
 | [tg]=>bW5 S r c tg v p
 | _=>K0
def xS0(c:Kx) (st:Stmt):DS:=match st with
 | .Return o _=>ct9 r c o
 | .If t a b _=>sIf (r.t c t) (r.b c a) (r.b c b)
 | .While t a o _=>xWh r c t a o
 | .For tg it a o _=>xFo S r c tg it a o
 | .Assign ts v p=>xAs S r c v p ts
 | .Expr e _=>xEx r c e
 | .Continue _=>aO6
 | .Break _=>fun ρ=>some (.bk ρ)
 | .Pass _=>G7
 | _=>K0
def cc7:Stmt->Nat
 | .Return _ p=>p.line
 | .If _ _ _ p=>p.line
 | .While _ _ _ p=>p.line
 | .For _ _ _ _ p=>p.line
 | .Assign _ _ p=>p.line
 | .Expr _ p=>p.line
 | _=>0
def fzW(g:DS):Option (List Nat)->DS
 | none=>g
 | some l=>l.foldl (fun g i=>ag9 i g) g
def xS(c:Kx) (st:Stmt):DS:=fzW (xS0 S r c st) (c.fz.lookup (cc7 st))
def evB(f:Stmt->DS):List Stmt->DS
 | []=>G7
 | [s]=>f s
 | s::t::U8=>A6 (f s) (evB f (t::U8))
def step:Ev:=⟨xE S r,xQ S r,xN S r,xT S r,xG r,fun c=>evB (xS S r c)⟩
end
def ev(S:Sg):Nat->Ev
 | 0=>⟨fun _ _=>dNo,fun _ _=>qNo,fun _ _=>aNo,fun _ _=>tNo,fun _ _=>gNo,fun _ _=>K0⟩
 | n+1=>step S (ev S n)
end G
namespace Sh
open PySem PySem.Spec PyProof.Rows L2 G
def bq2:DS:=(A9 (T8 (Z8 "str" (A1 0)) (T8 (P6 leI leI ⇑1 (cs6 (A1 0)) ⇑6) (ab1 (qN (G8 1 [] (cw3 (A1 0)) (B1 0) K3 (A4 (inS false) (A1 0) (dC (.str "abcdefghijklmnopqrstuvwxyz")))))))))
def bq6:List D->Option D:=J8 bq2 1
def bc1:DS:=(A9 (Z8 "bool" (A1 0)))
def bc8:List D->Option D:=J8 bc1 1
def aU9:DS:=(A9 (T8 (A3 ab8 (A0 (A1 0) A2)) (P6 leI leI (at7 ⇑9) (A1 0) ⇑9)))
def as4:List D->Option D:=J8 aU9 1
def bq3:DS:=(A6 (sIf (tB2 isB (A1 0) (dC .none)) (A9 (dC (.bool true))) G7) (A6 (sIf (P8 (M5 (M1 (Z8 "tuple" (A1 0)))) (tB2 neD (V5 (A5 0)) (V5 (qE (dIx (A5 1) ⇑2))))) (A9 (dC (.bool false))) G7) (A9 (ab1 (qN (G8 1 [] (L7 (A1 0)) (B1 0) K3 (A3 aj6 (A0 (A1 0) A2))))))))
def bq7:List D->Option D:=J8 bq3 2
def ah1:DS:=(A6 (sIf (P8 (tB2 neD (V5 (A5 0)) ⇑9) (P8 (tB2 (inD true) (A3 R5 (A0 (A1 0) A2)) (dC (.tuple [(.str "over"),(.str "multiply"),(.str "screen"),(.str "plus"),(.str "atop"),(.str "cut")]))) (M5 (M1 (A3 bd0 (A0 (A3 W8 (A0 (A1 0) A2)) A2)))))) (A9 (dC (.bool false))) G7) (A9 (T8 (A3 as4 (A0 (A3 x6 (A0 (A1 0) A2)) A2)) (T8 (A3 as4 (A0 (A3 af3 (A0 (A1 0) A2)) A2)) (A3 bq7 (A0 (A3 ag5 (A0 (A1 0) A2)) (A0 (A3 W8 (A0 (A1 0) A2)) A2)))))))
def ah3:List D->Option D:=J8 ah1 1
def ah2(self:Nat->List D->Option D):DS:=(A6 (sIf (P8 (tB2 neD (V5 (A5 0)) ⇑6) (P8 (tB2 (inD true) (A3 R5 (A0 (A1 0) A2)) (dC (.tuple [(.str "over"),(.str "multiply"),(.str "screen"),(.str "plus"),(.str "atop"),(.str "cut")]))) (tB2 eqD (A1 1) ⇑0))) (A9 (dC (.bool false))) G7) (A9 (A3 (self 2) (A0 (A3 K9 (A0 (A1 0) A2)) (A0 (A4 ac8 (A1 1) ⇑1) A2)))))
def au0(self:Nat->List D->Option D):DS:=(A6 (sIf (P8 (M5 (M1 (Z8 "tuple" (A1 0)))) (tB2 ltI (V5 (A5 0)) ⇑5)) (A9 (dC (.bool false))) G7) (A6 (sIf (P8 (M5 (M1 (A3 bq6 (A0 (A3 R3 (A0 (A1 0) A2)) A2)))) (P8 (M5 (M1 (A3 aj6 (A0 (A3 N8 (A0 (A1 0) A2)) A2)))) (M5 (M1 (A3 bc8 (A0 (A3 Q6 (A0 (A1 0) A2)) A2)))))) (A9 (dC (.bool false))) G7) (A6 (sIf (M1 (A3 i7 (A0 (A1 0) A2))) (A9 (A3 ah3 (A0 (A1 0) A2))) G7) (A6 (sIf (M1 (A3 P2 (A0 (A1 0) A2))) (A9 (A3 (self 0) (A0 (A1 0) (A0 (A1 1) A2)))) G7) (A9 (T8 (A3 O6 (A0 (A1 0) A2)) (T8 (A4 eqD (V5 (A5 0)) ⇑5) (A4 (inD false) (A3 ag3 (A0 (A1 0) A2)) (dC (.tuple [(.str "turn"),(.str "grey"),(.str "round")]))))))))))
def aV0(self:Nat->List D->Option D):DS:=(A9 (T8 (Z8 "tuple" (A1 0)) (ab1 (qN (G8 1 [1] (L7 (A1 0)) (B1 0) K3 (A3 (self 1) (A0 (A1 0) (A0 (A1 1) A2))))))))
def L3:Nat->Nat->List D->Option D
 | 0=>fun _ _=>none
 | k+1=>fun i=>match i with
  | 0=>J8 (ah2 (L3 k)) 2
  | 1=>J8 (au0 (L3 k)) 2
  | 2=>J8 (aV0 (L3 k)) 2
  | _=>fun _=>none
def ai2(self:List D->Option D):DS:=(A6 (U1 1 A2) (A6 (P9 (L7 (A1 0)) (B1 2) (A6 (O9 1 (A3 R3 (A0 (A1 2) A2))) (sIf (M1 (A3 P2 (A0 (A1 2) A2))) (aI2 1 (A3 self (A0 (A3 K9 (A0 (A1 2) A2)) A2))) G7))) (ag9 1 (A9 (A1 1)))))
def O7:Nat->List D->Option D
 | 0=>fun _=>none
 | k+1=>J8 (ai2 (O7 k)) 3
def ac4:DS:=(A6 (V3 2 (G8 2 [1] (L7 (A3 X8 (A0 (dIx (A5 0) ⇑0) (A0 (dIx (A5 0) ⇑1) A2)))) (M6 2 (C2 (B1 0) (C2 (B1 1) N4))) K3 (A3 (Z2 12) (A0 (A1 2) (A0 (A1 0) (A0 (A1 1) A2)))))) (A9 (D4 (A0 (dIx (A5 0) ⇑0) (A0 (dIx (A5 0) ⇑1) (A0 (O0 (A5 2)) A2))))))
def Q2:List D->Option D:=J8 ac4 3
def az8:DS:=(A9 (A3 (O7 12) (A0 (dIx (A5 0) ⇑2) A2)))
def h9:List D->Option D:=J8 az8 1
def aC8:DS:=(A6 (sIf (P8 (tB2 leI (A1 2) (A1 0)) (tB2 leI (A1 3) (A1 1))) (A9 (dC .none)) G7) (A9 (D4 (A0 (A1 0) (A0 (A1 1) (A0 (A4 ac8 (A1 2) (A1 0)) (A0 (A4 ac8 (A1 3) (A1 1)) A2)))))))
def ai4:List D->Option D:=J8 aC8 4
def aN0:DS:=(A6 (sIf (tB2 isB (A1 0) (dC .none)) (A9 (A1 1)) G7) (A6 (sIf (tB2 isB (A1 1) (dC .none)) (A9 (A1 0)) G7) (A6 (B0 2 (bh2 (A4 C0 (dIx (A5 0) ⇑0) (dIx (A5 0) ⇑2)) (A4 C0 (dIx (A5 1) ⇑0) (dIx (A5 1) ⇑2)))) (A6 (B0 3 (bh2 (A4 C0 (dIx (A5 0) ⇑1) (dIx (A5 0) ⇑3)) (A4 C0 (dIx (A5 1) ⇑1) (dIx (A5 1) ⇑3)))) (A9 (A3 ai4 (A0 (bh1 (dIx (A5 0) ⇑0) (dIx (A5 1) ⇑0)) (A0 (bh1 (dIx (A5 0) ⇑1) (dIx (A5 1) ⇑1)) (A0 (A1 2) (A0 (A1 3) A2))))))))))
def aN5:List D->Option D:=J8 aN0 4
def aA1:DS:=(A6 (B0 1 (dC .none)) (A6 (P9 (L7 (A1 0)) (B1 2) (B0 1 (A3 aN5 (A0 (A1 1) (A0 (A1 2) A2))))) (A9 (A1 1))))
def aA6:List D->Option D:=J8 aA1 3
def aU3:DS:=(A9 (D4 (A0 ⇑0 (A0 ⇑0 (A0 (dIx (A5 0) ⇑0) (A0 (dIx (A5 0) ⇑1) A2))))))
def aV1:List D->Option D:=J8 aU3 1
def ak9:DS:=(B0 2 (A3 x6 (A0 (A1 1) A2)))
def ak8:DS:=(B0 3 (A3 af3 (A0 (A1 1) A2)))
def ak7:DS:=(B0 4 (A3 W8 (A0 (A1 1) A2)))
def ak6:DS:=(B0 5 (bh1 (A4 C0 (A1 2) (dIx (A5 4) ⇑0)) (dIx (A5 0) ⇑0)))
def ak5:DS:=(B0 6 (bh1 (A4 C0 (A1 3) (dIx (A5 4) ⇑1)) (dIx (A5 0) ⇑1)))
def ak4:DS:=(A9 (A3 ai4 (A0 (bh2 (A1 2) ⇑0) (A0 (bh2 (A1 3) ⇑0) (A0 (A1 5) (A0 (A1 6) A2))))))
def aA2:DS:=(A6 ak9 (A6 ak8 (A6 ak7 (A6 ak6 (A6 ak5 ak4)))))
def aA8:List D->Option D:=J8 aA2 7
def bH1(self:List D->Option D):DS:=(A6 (sIf (M5 (M1 (A3 Q6 (A0 (A1 1) A2)))) (A9 (dC .none)) G7) (A6 (sIf (M1 (A3 O6 (A0 (A1 1) A2))) (A9 (A3 aV1 (A0 (A1 0) A2))) G7) (A6 (sIf (M1 (A3 P2 (A0 (A1 1) A2))) (A9 (A3 aA6 (A0 (P0 (G8 1 [0] (L7 (A3 K9 (A0 (A1 1) A2))) (B1 0) (M5 (M1 (A3 O6 (A0 (A1 0) A2)))) (A3 self (A0 (A1 1) (A0 (A1 0) A2))))) A2))) G7) (A9 (A3 aA8 (A0 (A1 0) (A0 (A1 1) A2)))))))
def bH4:Nat->List D->Option D
 | 0=>fun _=>none
 | k+1=>J8 (bH1 (bH4 k)) 2
def ac2(self:List D->Option D):DS:=(A6 (U1 2 A2) (A6 (P9 (L7 (A1 0)) (B1 3) (A6 (sIf (tB2 (inD false) (A3 R3 (A0 (A1 3) A2)) (A1 1)) aO6 G7) (sIf (M1 (A3 P2 (A0 (A1 3) A2))) (O9 2 (A3 R7 (A0 (A1 3) (A0 (A3 self (A0 (A3 K9 (A0 (A1 3) A2)) (A0 (A1 1) A2))) A2)))) (O9 2 (A1 3))))) (A9 (O0 (A5 2)))))
def N3:Nat->List D->Option D
 | 0=>fun _=>none
 | k+1=>J8 (ac2 (N3 k)) 4
def aG0:DS:=(A6 (B0 2 (A3 h9 (A0 (A1 0) A2))) (A6 (P9 (L7 (A1 1)) (B1 3) (sIf (tB2 (inD true) (A1 3) (A1 2)) K0 G7)) (A9 (D4 (A0 (dIx (A5 0) ⇑0) (A0 (dIx (A5 0) ⇑1) (A0 (A3 (N3 12) (A0 (dIx (A5 0) ⇑2) (A0 (A1 1) A2))) A2)))))))
def x5:List D->Option D:=J8 aG0 4
def af2:DS:=(A6 (sIf (P8 (M1 (A3 O6 (A0 (A1 1) A2))) (P8 (M5 (M1 (A3 Q6 (A0 (A1 1) A2)))) (tB2 neD (A3 R5 (A0 (A1 1) A2)) (dC (.str "over"))))) (A9 (dC (.bool false))) G7) (A9 (ab1 (qN (G8 1 [] (L7 (dIx (qE (A3 Q2 (A0 (A1 0) (A0 (A1 1) A2)))) ⇑2)) (B1 0) K3 (A4 eqD (dIx (A5 0) ⇑0) (dC (.tuple [(.int 1),(.int 1)]))))))))
def ao9:List D->Option D:=J8 af2 2
def R1:DS:=(A6 (sIf (P8 (M5 (M1 (A3 Q6 (A0 (A1 1) A2)))) (tB2 eqD (dIx (qE (A3 N8 (A0 (A1 1) A2))) ⇑0) ⇑0)) (A9 (dC (.bool true))) G7) (A6 (sIf (M1 (A3 O6 (A0 (A1 1) A2))) (A9 (dC (.bool false))) G7) (A9 (ab1 (qN (G8 1 [] (L7 (dIx (qE (A3 Q2 (A0 (A1 0) (A0 (A1 1) A2)))) ⇑2)) (B1 0) K3 (A4 eqD (A1 0) (dC (.tuple [(.tuple [(.int 0),(.int 1)]),(.tuple [(.int 0),(.int 1)]),(.tuple [(.int 0),(.int 1)]),(.tuple [(.int 0),(.int 1)])])))))))))
def T4:List D->Option D:=J8 R1 2
def at9:DS:=(A6 (P9 (bB6 (qE (A1 1))) (M6 2 (C2 (B1 2) (C2 (B1 3) N4))) (sIf (M1 (A3 ao9 (A0 (A1 0) (A0 (A1 3) A2)))) (A9 (A1 2)) G7)) (A9 ⇑0))
def U7:List D->Option D:=J8 at9 4
def v9(self:List D->Option D):DS:=(A6 (U1 2 A2) (A6 (B0 3 (A3 U7 (A0 (A1 0) (A0 (A1 1) A2)))) (A6 (P9 (am7 (qE (A1 1))) (M6 2 (C2 (B1 4) (C2 (B1 5) N4))) (sIf (P8 (tB2 ltI (A1 4) (A1 3)) (M1 (A3 T4 (A0 (A1 0) (A0 (A1 5) A2))))) (O9 2 (A3 R3 (A0 (A1 5) A2))) (sIf (M1 (A3 P2 (A0 (A1 5) A2))) (aI2 2 (A3 self (A0 (A1 0) (A0 (A3 K9 (A0 (A1 5) A2)) A2)))) G7))) (ag9 2 (A9 (A1 2))))))
def M2:Nat->List D->Option D
 | 0=>fun _=>none
 | k+1=>J8 (v9 (M2 k)) 6
def az7:DS:=(A9 (A3 (M2 12) (A0 (A1 0) (A0 (dIx (A5 0) ⇑2) A2))))
def V2:List D->Option D:=J8 az7 1
end Sh
namespace G
open PySem PySem.Spec PyProof.Rows L2
section
variable {X:Cx}{S:Sg}{c:Kx}
theorem K6{e:Expr}:JE X e dNo:=fun ρ d h=>by cases h
theorem bU3{e:Expr}:JQ X e qNo:=fun ρ t d h=>by cases h
theorem am2{e:Expr}:JN X e aNo:=fun ρ d h=>by cases h
theorem aE4{e:Expr}:JT X e tNo:=fun ρ d h=>by cases h
theorem cq4{e:Expr}:JW X e tNo:=fun ρ d h=>by cases h
theorem aQ9{e:Expr}:JG X e gNo:=by
 unfold JG PG
 intros
 rename_i h
 obtain⟨d,ρ,ρ',H0,Hf,z,_⟩:=h
 cases z
theorem cr5{es:List Expr}:JA X es aNo:=⟨fun ρ d h=>(nomatch h),fun ρ d h=>(nomatch h)⟩
theorem cd7{es:List Expr}:JTs X es tNo:=fun pins s σ H Q I ⟨ρ,b,h,_⟩=>by cases h
theorem af8(hu:X.A.units+64 < cLine):∀op:CmpOp,OpD X (compareOp op) (bb1 op)
 | .Lt=>co7 | .LtE=>co8 | .Gt=>cp1 | .GtE=>cp2 | .Eq=>cp3 hu | .NotEq=>co6 hu | .Is=>co9 | .IsNot=>bv9 | .In=>cp0 hu | .NotIn=>bv8 hu
theorem bv7(hu:X.A.units+64 < cLine) (S:Sg) (c:Kx) (op:CmpOp) (b:Expr):OpD X (compareOp op) (opW S c op b):=af8 hu op
theorem am4{f:Expr->DE}(h:∀e,JE X e (f e)):∀es,JA X es (evA f es)
 | []=>bA6
 | e::es=>by
  unfold evA
  split
  ·rename_i p;exact bf9 (h e) (am4 h es) (P7 p es _)
  ·exact cr5
theorem au7{f:Expr->DE}(h:∀e,JE X e (f e)) (op:BoolOp) (pos:Pos):∀vs,JE X (.BoolOp op vs pos) (bm0 f op vs)
 | []=>K6
 | [a]=>cg4 (h a)
 | a::b::r=>by
  unfold bm0
  cases op
  ·exact ch0 (h a) (au7 h .And pos (b::r))
  ·exact cr0 (h a) (au7 h .Or pos (b::r))
theorem aK4{f:Expr->DT}(h:∀e,JT X e (f e)) (op:BoolOp) (pos:Pos):∀vs,JW X (.BoolOp op vs pos) (bD4 f op vs)
 | []=>cq4
 | [a]=>by cases op;exact bN7 (h a);exact cd5 (h a)
 | a::b::r=>by
  unfold bD4
  cases op
  ·exact cd6 (h a) (aK4 h .And pos (b::r))
  ·exact cq3 (h a) (aK4 h .Or pos (b::r))
theorem ah5{f:Expr->DE}(h:∀e,JE X e (f e)):∀o,JO X o (evO f o)
 | none=>bP1
 | some e=>bP0 (h e)
theorem cd8{f:Expr->DT}(h:∀e,JT X e (f e)):∀l,JTs X l (bD3 f l)
 | []=>bN9
 | [t]=>bN8 (h t)
 | _::_::_=>cd7
theorem bz2{f:Expr->DG}(h:∀e,JG X e (f e)):∀es,es.all pl=true->JGs X es (ci4 f es)
 | [],_=>bP6
 | e::es,p=>by
  simp only[List.all_cons,Bool.and_eq_true]at p
  refine bz3 (h e) (bz2 h es p.2) ?_
  have p1:=p.1
  cases e<;>first|rfl|cases p1
theorem bh9{env:Env}:∀{es:List Expr},es.all pl=true->(assignEach es env).length=es.length/\(assignEach es env).findIdx? (·.1)=none
 | [],_=>⟨rfl,rfl⟩
 | e::es,p=>by
  simp only[List.all_cons,Bool.and_eq_true]at p
  obtain⟨h1,h2⟩:=bh9 (env:=env) p.2
  have p1:=p.1
  have q:assignEach (e::es) env=(false,assign e env)::assignEach es env:=by cases e<;>first|rfl|cases p1
  rw[q]
  refine⟨by simp[h1],?_⟩
  simp[List.findIdx?_cons,h2]
structure Sound (S:Sg) (r:Ev):Prop where
 e:∀{c X},Fit S c X->∀ex,JE X ex (r.e c ex)
 q:∀{c X},Fit S c X->∀ex,JQ X ex (r.q c ex)
 n:∀{c X},Fit S c X->∀ex,JN X ex (r.n c ex)
 t:∀{c X},Fit S c X->∀ex,JT X ex (r.t c ex)
 g:∀{c X},Fit S c X->∀ex,JG X ex (r.g c ex)
 b:∀{c X},Fit S c X->∀sts,JSs X sts (r.b c sts)
theorem Fit.hx(F:Fit S c X):∀e s,X.xe e s->False:=fun e s h=>by rw[F.xe]at h;exact h
theorem Fit.po(F:Fit S c X):PassesOwn (model X.prog X.w) X.A X.env X.xe:=by rw[F.xe];exact PassesOwn.never
theorem Fit.slot(F:Fit S c X) {x:Str}{i:Nat}(h:aa8 x c.N=some i):X.N[i]? = some x:=by rw[F.N];exact aR0 h
theorem Fit.inner{tn:List Str}{caps:List Nat}{scope:Scope}{C:Addr}{s0:Shared}{H0:Hp}{ex:List Addr}(F:Fit S c X) (hn:(G.inner c tn caps scope).N.Nodup):Fit S (G.inner c tn caps scope) (M9 X (G.inner c tn caps scope).N scope C s0 H0 ex) :=
 ⟨rfl,by show relabel scope X.env=rl scope c.sc;rw[← F.sc];rfl,hn,F.calm,rfl,F.units,(fun h=>by cases h),F.fns,F.css,F.bls⟩
variable {r:Ev}
theorem cf8(R:Sound S r) (F:Fit S c X) (tg a:Expr) {p pos:Pos}(hg:Gl X "reversed") (hm:X.mg "reversed" = none):JI X tg (.Call (.Name "reversed" p) [a] [] pos) (evR S r c tg a):=by
 have no:∀e:Expr,JI X tg e fun _=>none:=fun e ρ ds q=>nomatch q
 unfold evR
 split
 ·split
  ·split
   ·split
    ·split
     ·rename_i h
      simp only[Bool.and_eq_true]at h
      obtain⟨rfl,h1,h2⟩:=Q0 F h.1.1.1
      obtain⟨rfl,h3,h4⟩:=Q0 F h.1.1.2
      have ht:=h.1.2
      cases tg<;>first|(exact bP4 h3 h4 h1 h2 hg hm F.calm (R.e F _) (P7 h.2 _ _))|(exact nomatch ht)
     ·exact no _
    ·exact no _
   ·exact no _
  ·exact no _
 ·exact no _
theorem bz1(R:Sound S r) (F:Fit S c X) (tg it:Expr):JI X tg it (evI S r c tg it):=by
 unfold evI
 split
 ·rename_i x p a pos
  split
  ·rename_i h
   obtain⟨rfl,h1,h2⟩:=Q0 F h
   exact cf8 R F tg a h1 h2
  ·split
   ·rename_i h
    simp only[Bool.and_eq_true]at h
    obtain⟨rfl,h1,h2⟩:=Q0 F h.1
    exact bl7 h1 h2 (R.e F a) (P7 h.2 _ _)
   ·split
    ·rename_i h
     simp only[Bool.and_eq_true]at h
     obtain⟨rfl,h1,h2⟩:=Q0 F h.1.1
     have ht:=h.1.2
     cases tg<;>first|(exact bP5 h1 h2 (R.e F a) (P7 h.2 _ _))|(exact nomatch ht)
    ·exact aY8 (R.e F _)
 ·rename_i x p a b pos
  split
  ·rename_i h
   simp only[Bool.and_eq_true]at h
   obtain⟨rfl,h1,h2⟩:=Q0 F h.1.1
   exact fun ρ ds q=>nomatch q
  ·split
   ·rename_i h
    simp only[Bool.and_eq_true]at h
    obtain⟨rfl,h1,h2⟩:=Q0 F h.1.1.1
    have ht:=h.1.1.2
    cases tg<;>first|(exact cf7 h1 h2 (R.e F a) (R.e F b) (by rw[P7 h.1.2,P7 h.2];rfl) (P7 h.2 _ _))|(exact nomatch ht)
   ·exact aY8 (R.e F _)
 ·split
  ·exact fun ρ ds q=>nomatch q
  ·exact aY8 (R.e F _)
theorem bh4(R:Sound S r) (F:Fit S c X) {elt tgt iter:Expr}{ifs:List Expr}{scope:Scope}{caps:List Nat}
  (h:(av0 c.N (G.inner c (Y0 tgt) caps scope).N (Y0 tgt).length caps c.sc scope&&ap5 (G.inner c (Y0 tgt) caps scope).N&&pl iter)=true) :
  CompSc X (G.inner c (Y0 tgt) caps scope).N (Y0 tgt).length caps scope/\JI X tgt iter (evI S r c tgt iter)/\(∀C s0 H0 ex,JG (M9 X (G.inner c (Y0 tgt) caps scope).N scope C s0 H0 ex) tgt (r.g (G.inner c (Y0 tgt) caps scope) tgt)) /\
  (∀C s0 H0 ex,JTs (M9 X (G.inner c (Y0 tgt) caps scope).N scope C s0 H0 ex) ifs (bD3 (r.t (G.inner c (Y0 tgt) caps scope)) ifs))/\(∀C s0 H0 ex,JE (M9 X (G.inner c (Y0 tgt) caps scope).N scope C s0 H0 ex) elt (r.e (G.inner c (Y0 tgt) caps scope) elt)) /\
  ∀x,foldedSetIterable iter X.env x=pure x:=by
 simp only[Bool.and_eq_true]at h
 obtain⟨⟨h1,h2⟩,h3⟩:=h
 have hn:=ap4 h2
 exact⟨bo9 h1 F.N F.sc,bz1 R F tgt iter,fun C s0 H0 ex=>R.g (F.inner hn) tgt,fun C s0 H0 ex=>cd8 (R.t (F.inner hn)) ifs,fun C s0 H0 ex=>R.e (F.inner hn) elt,aJ2 h3 _⟩
theorem cq8(R:Sound S r) (F:Fit S c X) (ex:Expr):JN X ex (evC S r c ex):=by
 unfold evC
 split
 ·rename_i elt tgt iter ifs scope pos
  dsimp only
  split
  ·rename_i h
   obtain⟨h1,h2,h3,h4,h5,h6⟩:=bh4 (ifs:=ifs) (elt:=elt) R F h
   exact bP3 h1 F.hx h2 h3 h4 h5 F.calm h6
  ·exact am2
 ·exact am2
theorem bi8{x:Str}{T:String}(h:bX0 x=some T):bootBuiltins x=some (.type T)/\x ≠ "__name__" /\ (x==("__debug__" : Str))=false:=by
 unfold bX0 at h
 split at h
 ·rename_i e;cases h;simp only[beq_iff_eq]at e;subst e;exact⟨bb4,by decide,by decide⟩
 ·split at h
  ·rename_i e;cases h;simp only[beq_iff_eq]at e;subst e;exact⟨bS2,by decide,by decide⟩
  ·split at h
   ·rename_i e;cases h;simp only[beq_iff_eq]at e;subst e;exact⟨cj4,by decide,by decide⟩
   ·split at h
    ·rename_i e;cases h;simp only[beq_iff_eq]at e;subst e;exact⟨aU0,by decide,by decide⟩
    ·split at h
     ·rename_i e;cases h;simp only[beq_iff_eq]at e;subst e;exact⟨bh8,by decide,by decide⟩
     ·cases h
theorem aa5(pos:Pos) (env:Env):∀{es:List Expr},es.all pl=true->(starEach es env).any (·.1)=false
 | [],_=>rfl
 | e::es,h=>by
  simp only[List.all_cons,Bool.and_eq_true]at h
  rw[P7 h.1,List.any_cons,aa5 pos env h.2];rfl
end
section
variable {X:Cx}{S:Sg}{c:Kx}{r:Ev}
theorem bH9(R:Sound S r) (F:Fit S c X) (a i:Expr) (pos:Pos):JE X (.Subscript a i pos) (bV8 r c a i):=by
 unfold bV8
 split
 ·split
  ·exact bz7 (R.e F _) (ah5 (R.e F) _) (ah5 (R.e F) _)
  ·split
   ·exact cg1 (R.e F _) (ah5 (R.e F) _) (ah5 (R.e F) _)
   ·split
    ·exact cg2 (R.q F _) (ah5 (R.e F) _) (ah5 (R.e F) _)
    ·exact cg3 (R.e F _) (ah5 (R.e F) _) (ah5 (R.e F) _)
 ·exact bP9 (R.e F _) (aY9 bA2)
 ·split
  ·rename_i h
   split
   ·exact cg6 (R.e F _) (R.e F _) (bT7 h)
   ·exact cr1 (R.q F _) (R.e F _) (bT7 h)
  ·exact K6
theorem bi7(R:Sound S r) (F:Fit S c X) (x:Str) (a:Expr) (p pos:Pos):JE X (.Call (.Name x p) [a] [] pos) (aV7 S r c x a):=by
 unfold aV7
 split
 ·exact K6
 rename_i hp
 have hp:pl a=true:=by simpa using hp
 have hs:=P7 hp [] X.env
 split
 ·rename_i h
  obtain⟨rfl,h1,h2⟩:=Q0 F h
  split
  ·rename_i y py e ppos
   split
   ·rename_i hy
    simp only[Bool.and_eq_true]at hy
    obtain⟨rfl,g1,g2⟩:=Q0 F hy.1
    exact K6
   ·exact bz9 h1 h2 (R.q F _) hs
  ·split
   ·exact K6
   ·exact bz9 h1 h2 (R.q F a) hs
 split
 ·rename_i h;obtain⟨rfl,h1,h2⟩:=Q0 F h;exact bP8 h1 h2 (R.q F a) hs
 split
 ·rename_i h;obtain⟨rfl,h1,h2⟩:=Q0 F h;exact ch1 h1 h2 (R.q F a) F.calm hs
 split
 ·rename_i h;obtain⟨rfl,h1,h2⟩:=Q0 F h;exact bA1 h1 h2 (R.e F a) hs
 split
 ·rename_i h;obtain⟨rfl,h1,h2⟩:=Q0 F h;exact K6
 split
 ·rename_i h;obtain⟨rfl,h1,h2⟩:=Q0 F h;exact K6
 split
 ·rename_i h;obtain⟨rfl,h1,h2⟩:=Q0 F h;exact K6
 split
 ·rename_i h;obtain⟨rfl,h1,h2⟩:=Q0 F h;exact K6
 exact K6
theorem bi6(R:Sound S r) (F:Fit S c X) (x:Str) (a b:Expr) (p pos:Pos):JE X (.Call (.Name x p) [a,b] [] pos) (aV6 S r c x a b):=by
 unfold aV6
 split
 ·exact K6
 rename_i hp
 have hp:pl a=true:=by simpa using hp
 split
 ·rename_i h
  obtain⟨rfl,h1,h2⟩:=Q0 F h
  split
  ·rename_i y py
   split
   ·rename_i T hT
    split
    ·rename_i hy
     obtain⟨_,g1,g2⟩:=Q0 F hy
     obtain⟨t1,t2,t3⟩:=bi8 hT
     exact cg7 h1 h2 g1 g2 t1 (R.e F a) t2 t3 (P7 hp _ _) rfl rfl
    ·exact K6
   ·exact K6
  ·exact K6
 split
 ·exact K6
 rename_i hb
 have hb:pl b=true:=by simpa using hb
 split
 ·rename_i h;obtain⟨rfl,h1,h2⟩:=Q0 F h;exact K6
 split
 ·rename_i h;obtain⟨rfl,h1,h2⟩:=Q0 F h;exact K6
 exact K6
theorem ao4(pos:Pos):∀l:List (Bool×Sem Value),(backTo pos l).any (·.1)=l.any (·.1)
 | []=>rfl
 | (b,t)::r=>by
  have ih:=ao4 pos r
  unfold backTo at ih ⊢
  rw[xmc,List.any_cons,List.any_cons,ih]
theorem br3(R:Sound S r) (F:Fit S c X) (x:Str) (args:List Expr) (p pos:Pos):JE X (.Call (.Name x p) args [] pos) (br4 S r c x args (.Call (.Name x p) args [] pos)):=by
 unfold br4
 split
 ·rename_i Fn n hl
  split
  ·rename_i h
   simp only[Bool.and_eq_true,beq_iff_eq]at h
   obtain⟨⟨hg,hn⟩,hp⟩:=h
   obtain⟨g1,g2⟩:=aa9 F hg
   rcases F.fns _ _ _ hl with⟨k,f,fd,ps,hk,hr,hm,hkp,hb⟩|⟨hm,hb⟩
   case inr =>
    cases args with
    | nil=>cases hn;exact absurd hb.1 (Nat.lt_irrefl _)
    | cons e es =>
     simp only[List.all_cons,Bool.and_eq_true]at hp
     exact cr4 hb F.units g1 hm (am4 (R.e F) (e::es)) hn g2 (P7 hp.1 _ _) ((ao4 pos _).trans (aa5 pos _ hp.2))
   cases args with
   | nil=>cases hn;exact bA5 hk hr g1 hm hkp hb g2
   | cons e es =>
    simp only[List.all_cons,Bool.and_eq_true]at hp
    exact bQ1 hk hr g1 hm hkp hb (am4 (R.e F) (e::es)) hn g2 (P7 hp.1 _ _) ((ao4 pos _).trans (aa5 pos _ hp.2))
  ·exact K6
 ·split
  ·split
   ·exact am3 (R.n F _)
   ·exact bi7 R F _ _ _ _
  ·exact bi6 R F _ _ _ _ _
  ·exact K6
theorem aV5(k:Const) (u:Nat) (pos:Pos):JE X (.Constant k u pos) (xCn k):=by
 unfold xCn
 split
 ·exact cg5
 ·exact cr3
 ·exact bA2
 ·exact cg0
 ·exact K6
theorem bI3(R:Sound S r) (F:Fit S c X) (a:Expr) (op:Operator) (b:Expr) (pos:Pos):JE X (.BinOp a op b pos) (bW4 r c a op b):=by
 unfold bW4
 split
 ·split
  ·exact o6 bw0 (R.e F _) (R.e F _)
  ·exact o6 be8 (R.e F _) (R.e F _)
 ·exact o6 ca6 (R.e F _) (R.e F _)
 ·split
  ·exact o6 aJ4 (R.e F _) (R.e F _)
  ·split
   ·split
    ·exact o6 bM4 (R.e F _) (R.e F _)
    ·exact o6 be7 (R.e F _) (R.e F _)
   ·exact o6 be7 (R.e F _) (R.e F _)
 ·exact o6 cb0 (R.e F _) (R.e F _)
 ·exact o6 ca8 (R.e F _) (R.e F _)
 ·exact K6
 ·exact K6
theorem bV7(R:Sound S r) (F:Fit S c X) (op:UnaryOp) (a:Expr) (pos:Pos):JE X (.UnaryOp op a pos) (xUn r c op a):=by
 unfold xUn
 split
 ·exact aY9 (R.e F _)
 ·exact bz8 (R.e F _)
 ·exact K6
theorem bI2(R:Sound S r) (F:Fit S c X) (a:Expr) (ops:List CmpOp) (bs:List Expr) (pos:Pos):JE X (.Compare a ops bs pos) (bW2 S r c a ops bs):=by
 have hu:=F.units
 unfold bW2
 split
 ·split
  ·rename_i h;exact bA3 (bv7 hu S c _ _) (R.e F _) (R.e F _) (al6 h _)
  ·exact K6
 ·split
  ·rename_i h;exact bA4 (af8 hu _) (af8 hu _) (R.e F _) (R.e F _) (R.e F _) (al6 h _)
  ·exact K6
 ·exact K6
theorem bI1(R:Sound S r) (F:Fit S c X) (o:Expr) (m:Str) (apos cpos:Pos) (args:List Expr):JE X (.Call (.Attribute o m apos) args [] cpos) (bW0 r c o m apos cpos args):=by
 have hu:=F.units
 unfold bW0
 split
 ·split
  ·rename_i h
   simp only[Bool.and_eq_true,beq_iff_eq]at h
   obtain⟨⟨⟨hm,hn⟩,hl⟩,hp⟩:=h
   subst hm
   have hs:=P7 hp [] X.env
   exact bQ0 (R.e F _) (R.q F _) (aP6 hn _ _ _) (by rw[hs];rfl) (by simpa using hl) hs
  ·split
   ·rename_i h
    simp only[Bool.and_eq_true,beq_iff_eq]at h
    obtain⟨⟨⟨hm,hn⟩,hl⟩,hp⟩:=h
    subst hm
    have hs:=P7 hp [] X.env
    exact K6
   ·exact K6
 ·exact K6
theorem bW3(R:Sound S r) (F:Fit S c X) (f:Expr) (args:List Expr) (kw:List Keyword) (pos:Pos):JE X (.Call f args kw pos) (xCl S r c f args kw pos):=by
 unfold xCl
 split
 ·split
  ·exact br3 R F _ _ _ _
  ·exact bI1 R F _ _ _ _ _
  ·exact K6
 ·exact K6
theorem cl2(R:Sound S r) (F:Fit S c X) (ex:Expr):JE X ex (xE S r c ex):=by
 cases ex
 case Constant=>exact aV5 _ _ _
 case Name x p =>
  unfold xE
  dsimp only
  split
  ·rename_i i h
   split
   ·rename_i v;obtain⟨h1,h2,h3⟩:=af5 F v;exact bz4 i (F.slot h) h1 h2 h3
   ·exact K6
  ·split
   ·rename_i d hd
    split
    ·rename_i g;obtain⟨u,k1,k2⟩:=F.css _ _ hd;obtain⟨g1,g2⟩:=aa9 F g;exact cg9 k1 g1 k2 g2
    ·exact K6
   ·exact K6
 case Tuple es _ _ =>
  unfold xE
  dsimp only
  split
  ·rename_i h;exact bz6 (am4 (R.e F) _) h
  ·exact K6
 case List=>exact am3 (R.n F _)
 case ListComp=>exact am3 (R.n F _)
 case BinOp=>exact bI3 R F _ _ _ _
 case UnaryOp=>exact bV7 R F _ _ _
 case Compare=>exact bI2 R F _ _ _ _
 case BoolOp=>exact au7 (R.e F) _ _ _
 case IfExp=>exact cg8 (R.t F _) (R.e F _) (R.e F _)
 case Subscript=>exact bH9 R F _ _ _
 case Call=>exact bW3 R F _ _ _ _
 all_goals exact K6
theorem ck9(R:Sound S r) (F:Fit S c X) (ex:Expr):JQ X ex (xQ S r c ex):=by
 cases ex
 case Name x p =>
  unfold xQ
  dsimp only
  split
  ·rename_i i h
   split
   ·rename_i v;obtain⟨h1,h2,h3⟩:=af5 F v;exact cf4 i (F.slot h) h1 h2 h3
   ·exact bU3
  ·exact by9 (R.e F _)
 case List=>exact cf5 (R.n F _)
 case ListComp=>exact cf5 (R.n F _)
 case Call f as kw p =>
  unfold xQ
  dsimp only
  split
  ·exact cf5 (R.n F _)
  ·exact by9 (R.e F _)
 all_goals exact by9 (R.e F _)
theorem cl0(R:Sound S r) (F:Fit S c X) (ex:Expr):JN X ex (xN S r c ex):=by
 cases ex
 case List es p =>
  unfold xN
  dsimp only
  split
  ·rename_i h;exact bz0 (am4 (R.e F) _) h
  ·exact am2
 case ListComp=>exact cq8 R F _
 case Call f as kw p =>
  unfold xN
  dsimp only
  unfold xNl
  split
  ·split
   ·split
    ·rename_i h
     simp only[Bool.and_eq_true]at h
     obtain⟨rfl,h1,h2⟩:=Q0 F h.1
     exact bP2 h1 h2 (R.q F _) (P7 h.2 _ _)
    ·exact am2
   ·exact am2
  ·exact am2
 case BinOp a op b p =>
  cases op
  case Add=>exact cf6 (R.q F _) (R.q F _)
  all_goals exact am2
 all_goals exact am2
theorem ck8(R:Sound S r) (F:Fit S c X) (ex:Expr):JT X ex (xT S r c ex):=by
 have hu:=F.units
 have oth:∀e:Expr,JT X e (if plT e then M1 (r.e c e) else tNo):=fun e=>by
  split
  ·rename_i h;exact cd9 (R.e F _) (bu8 h _)
  ·exact aE4
 cases ex
 case Compare a ops bs p =>
  unfold xT bS9
  dsimp only
  split
  ·split
   ·rename_i h;exact ce1 (bv7 hu S c _ _) (R.e F _) (R.e F _) (al6 h _)
   ·exact aE4
  ·split
   ·rename_i h;exact by2 (af8 hu _) (af8 hu _) (R.e F _) (R.e F _) (R.e F _) (al6 h _)
   ·exact aE4
  ·exact aE4
 case BoolOp=>exact by1 (aK4 (R.t F) _ _ _)
 case UnaryOp op a p =>
  cases op
  case Not=>exact ce0 (R.t F _)
  all_goals exact aE4
 all_goals exact oth _
theorem cl1(R:Sound S r) (F:Fit S c X) (ex:Expr):JG X ex (xG r c ex):=by
 unfold xG
 split
 ·split
  ·rename_i i h
   split
   ·rename_i v;obtain⟨h1,h2⟩:=aJ8 F v;exact bP7 i (by rw[F.N];exact F.nd) (F.slot h) h1 h2
   ·exact aQ9
  ·exact aQ9
 ·split
  ·rename_i h
   obtain⟨h1,h2⟩:=bh9 (env:=X.env) h
   exact cf9 (bz2 (R.g F) _ h) F.calm h1 h2
  ·exact aQ9
 ·exact aQ9
theorem bf6{st:Stmt}{f:DS}(h:∀ρ,f ρ=none):JS X st f:=fun ρ fl q=>by rw[h ρ]at q;cases q
theorem bG4(F:Fit S c X) (h:c.df=true):X.env.blockKind=.function:=by
 unfold Env.blockKind
 rw[F.sc,(F.df h).2];rfl
theorem aD2(elt:Expr) (gens:List Comprehension) (sc:Scope) (pv p':Pos) (x:Str) (l:Nat) (env:Env):swapsWith (.ListComp elt gens sc pv) (some (.Name x p')) l env =
  pure (env.blockKind == .function&&env.kindOf x==some .local&&p'.line==pv.line && !(sc.names.any fun(n,k)=>n==x&&(k == .local || k == .cell))):=rfl
theorem bf7(R:Sound S r) (F:Fit S c X) {x:Str}{p' pv p:Pos}{elt:Expr}{gens:List Comprehension}{sc:Scope}{i:Nat}(hi:aa8 x c.N=some i) (hl:(c.sc.names.lookup x==some .local)=true)
  (h:(c.df&&p'.line==pv.line && !(sc.names.any fun(n,k)=>n==x&&(k == .local || k == .cell)))=true) :
  JS X (.Assign [.Name x p'] (.ListComp elt gens sc pv) p) (U1 i (evC S r c (.ListComp elt gens sc pv)))/\JS X (.Assign [.Name x p'] (.ListComp elt gens sc pv) p) (V3 i (evC S r c (.ListComp elt gens sc pv))):=by
 unfold evC
 simp only[Bool.and_eq_true]at h
 have hl':X.env.scope.names.lookup x=some .local:=by rw[F.sc];simpa using hl
 have hsw:swapsWith (.ListComp elt gens sc pv) (some (.Name x p')) p.line X.env=pure true:=by
  rw[aD2,bG4 F h.1.1,h.1.2,h.2]
  unfold Env.kindOf
  rw[hl'];rfl
 split
 ·rename_i elt tgt iter ifs scope pos he
  cases he
  dsimp only
  split
  ·rename_i hc
   obtain⟨h1,h2,h3,h4,h5,h6⟩:=bh4 (ifs:=ifs) (elt:=elt) R F hc
   exact⟨bO4 i (by rw[F.N];exact F.nd) h1 F.hx h2 h3 h4 h5 (F.slot hi) hl' hsw F.calm h6,bO6 i (by rw[F.N];exact F.nd) h1 F.hx h2 h3 h4 h5 (F.slot hi) hl' hsw F.calm h6⟩
  ·exact⟨bf6 fun ρ=>rfl,bf6 fun ρ=>rfl⟩
 ·exact⟨bf6 fun ρ=>rfl,bf6 fun ρ=>rfl⟩
theorem bI4(R:Sound S r) (F:Fit S c X) (tg v:Expr) (p:Pos):JS X (.Assign [tg] v p) (bW5 S r c tg v p):=by
 have nd:X.N.Nodup:=by rw[F.N];exact F.nd
 unfold bW5
 split
 ·rename_i x p'
  split
  ·exact G9
  ·rename_i i hi
   split
   ·exact G9
   ·rename_i hlo
    have hlo:bl3 c x=true:=by simpa using hlo
    obtain⟨l1,l2⟩:=aJ8 F hlo
    split
    ·rename_i elt gens sc pv
     split
     ·rename_i hl
      split
      ·rename_i h
       split
       ·exact(bf7 R F hi hl h).1
       ·exact(bf7 R F hi hl h).2
      ·exact G9
     ·rename_i hl
      refine aY6 i nd (R.e F _) (F.slot hi) l1 ?_ l2
      rw[aD2]
      have:(X.env.kindOf x==some .local)=false:=by
       unfold Env.kindOf
       rw[F.sc];simpa using hl
      rw[this,Bool.and_false];rfl
    ·split
     ·exact G9
     ·rename_i hc
      have hc:isC v=false:=by simpa using hc
      split
      ·exact ce4 i nd (R.n F _) (F.slot hi) l1 (al8 hc _ _ _) l2
      ·exact aY6 i nd (R.e F _) (F.slot hi) l1 (al8 hc _ _ _) l2
 ·split
  ·exact G9
  ·rename_i i hi
   split
   ·rename_i h
    simp only[Bool.and_eq_true,Bool.not_eq_true']at h
    obtain⟨h1,h2,h3⟩:=af5 F h.1
    exact ce2 i (R.n F _) (ah5 (R.e F) _) (ah5 (R.e F) _) (F.slot hi) h1 h2 h3 (al8 h.2 _ _ _)
   ·exact G9
 ·rename_i x px y py kt pt
  split
  ·rename_i a b k2 p2
   split
   ·rename_i i j hi hj
    split
    ·rename_i h
     unfold co0 at h
     simp only[Bool.and_eq_true,Bool.not_eq_true',beq_iff_eq]at h
     obtain⟨⟨⟨⟨⟨⟨⟨⟨hd,ha⟩,hb⟩,hxy⟩,hl⟩,hx⟩,hy⟩,hf⟩,hcs⟩:=h
     have hx':X.env.scope.names.lookup x=some .local:=by rw[F.sc];exact hx
     have hy':X.env.scope.names.lookup y=some .local:=by rw[F.sc];exact hy
     have hne:i≠j:=fun z=>by
      subst z
      have:=(F.slot hi).symm.trans (F.slot hj)
      cases this
      simp at hxy
     refine ce3 nd (am4 (R.e F) [a,b]) ?_ hne (F.slot hi) (F.slot hj) hx' hy' F.calm rfl
     have kx:X.env.kindOf x=some .local:=hx'
     have ky:X.env.kindOf y=some .local:=hy'
     have st:∀e:Expr,pl e=true->(match e with | .Starred ..=>true|_=>false)=false:=fun e he=>by cases e<;>first|rfl|cases he
     have sa:=st a ha
     have sb:=st b hb
     have hyx:(y==x)=false:=by
      cases q:(y==x) with
      | false=>rfl
      | true=>simp only[beq_iff_eq]at q;subst q;simp at hxy
     simp only[swappedStores,List.length_cons,List.length_nil,List.head?_cons,xms,Option.getD_some,Expr.pos,List.filterMap_cons,List.filterMap_nil,kx,ky,bG4 F hd,hf,hcs,hl,sa,sb,List.any_cons,List.any_nil]
     simp[List.eraseDups,List.eraseDupsBy,List.eraseDupsBy.loop,hxy,hyx]
     intro z
     rcases z with z|z
     ·cases a<;>first|exact absurd (show false=true from z) Bool.false_ne_true|exact nomatch ha
     ·cases b<;>first|exact absurd (show false=true from z) Bool.false_ne_true|exact nomatch hb
    ·exact G9
   ·exact G9
  ·exact G9
  ·rename_i h1 h2
   refine by5 (R.e F _) (R.g F _) ?_ ?_ rfl
   ·cases v<;>rfl
   ·cases v<;>first|rfl|exact(h2 _ _ _ rfl).elim
 ·rename_i es kt pt _
  split
  ·exact G9
  ·rename_i h
   refine by5 (R.e F _) (R.g F _) ?_ ?_ rfl
   ·cases v<;>rfl
   ·cases v<;>first|rfl|skip
    rename_i vs k3 p3
    have h:(es.length==2 || es.length==3)=false:=by simpa [aR2] using h
    unfold swappedStores
    simp only[h,xnf,Bool.true_or,if_true]
 ·exact G9
end
section
variable {X:Cx}{S:Sg}{c:Kx}{r:Ev}
theorem bI0(R:Sound S r) (F:Fit S c X) (x m:Str) (e:Expr) (p apos cpos pos:Pos) (hl:(apos.endLine==cpos.line)=true):JS X (.Expr (.Call (.Attribute (.Name x p) m apos) [e] [] cpos) pos) (bV9 r c x m e):=by
 unfold bV9
 split
 ·exact G9
 ·rename_i i hi
  split
  ·rename_i h
   simp only[Bool.and_eq_true]at h
   obtain⟨h1,h2,h3⟩:=af5 F h.1
   have hs:=P7 h.2 [] X.env
   split
   ·rename_i hm
    simp only[beq_iff_eq]at hm
    subst hm
    exact ce9 i (R.e F e) (F.slot hi) h1 h2 h3 rfl (by rw[hs];rfl) hl hs rfl
   ·split
    ·rename_i hm
     simp only[beq_iff_eq]at hm
     subst hm
     exact ce7 i (R.e F e) (F.slot hi) h1 h2 h3 hl hs
    ·exact G9
  ·exact G9
theorem bW1(R:Sound S r) (F:Fit S c X) (e:Expr) (pos:Pos):JS X (.Expr e pos) (xEx r c e):=by
 unfold xEx
 split
 ·split
  ·split
   ·split
    ·split
     ·rename_i h;exact bI0 R F _ _ _ _ _ _ _ h
     ·exact G9
    ·exact G9
   ·exact G9
  ·exact G9
 ·exact G9
theorem br2(R:Sound S r) (F:Fit S c X) (st:Stmt):JS X st (xS0 S r c st):=by
 cases st
 case Return o p =>
  cases o
  ·exact G9
  ·exact aY7 (R.e F _)
 case If=>exact cq5 (R.t F _) (R.b F _) (R.b F _)
 case While t a o p =>
  cases o
  ·exact by4 (R.t F _) (R.b F _) F.po
  ·exact G9
 case For tg it a o p =>
  cases o
  ·unfold xS0 xFo
   dsimp only
   split
   ·rename_i h;exact ce6 (bz1 R F _ _) (R.g F _) (R.b F _) F.po F.calm (aJ2 h _)
   ·exact G9
  ·exact G9
 case Assign ts v p =>
  unfold xS0 xAs
  dsimp only
  split
  ·exact bI4 R F _ _ _
  ·exact G9
 case Expr=>exact bW1 R F _ _
 case Continue=>exact bO5
 case Break=>exact ce8
 case Pass=>exact bO3
 all_goals exact G9
theorem bC8{st:Stmt}:∀(l:List Nat) {g:DS},JS X st g->JS X st (l.foldl (fun g i=>ag9 i g) g)
 | [],_,h=>h
 | i::l,_,h=>bC8 l (ce5 i h)
theorem bd1(R:Sound S r) (F:Fit S c X) (st:Stmt):JS X st (xS S r c st):=by
 unfold xS fzW
 split
 ·exact br2 R F st
 ·exact bC8 _ (br2 R F st)
theorem ay3{f:Stmt->DS}(h:∀st,JS X st (f st)):∀sts,JSs X sts (evB f sts)
 | []=>bO1
 | [s]=>bO0 (h s)
 | s::t::U8=>by3 (h s) (ay3 h (t::U8))
theorem bI9(R:Sound S r):Sound S (step S r) :=
 ⟨fun F=>cl2 R F,fun F=>ck9 R F,fun F=>cl0 R F,fun F=>ck8 R F,fun F=>cl1 R F,fun F=>ay3 (bd1 R F)⟩
theorem u7(S:Sg):∀n,Sound S (ev S n)
 | 0=>⟨fun _ _=>K6,fun _ _=>bU3,fun _ _=>am2,fun _ _=>aE4,fun _ _=>aQ9,fun _ _ ρ fl q=>by cases q⟩
 | n+1=>bI9 (u7 S n)
end
structure Fd where
 x:Str
 st:Stmt
 ps:List Str
 N:List Str
 own:List Nat:=[]
 tx:List Nat:=[]
 old:Bool:=false
 fz:List (Nat×List Nat):=[]
 hc:List ((Nat×Nat)×List Nat):=[]
def fdm(x:Str) (st:Stmt) (n:Nat) (N:List Str) (old:Bool:=false):Fd:={ x,st,ps:=N.take n,N,old }
def Fd.c(d:Fd):Kx:={ N:=d.N,sc:=M8 d.st,df:=true,own:=d.own,cpt:=[],tx:=d.tx,old:=d.old,fz:=d.fz,hc:=d.hc }
def Fd.okB(d:Fd):Bool:=let sc:=M8 d.st
 sc.kind == .function && !sc.isCoroutine && !sc.isGenerator&&ap5 d.N&&d.N.take d.ps.length==d.ps&&(d.ps.all fun x=>match sc.names.lookup x with|some .local=>true|some .cell=>true|_=>false)&&sc.names.all fun y=>match y.2 with | .free=>false|_=>true
theorem Fd.sc{d:Fd}(h:d.okB=true):FnScope d.N d.ps (M8 d.st):=by
 unfold Fd.okB at h
 simp only[Bool.and_eq_true,Bool.not_eq_true',beq_iff_eq,List.all_eq_true]at h
 obtain⟨⟨⟨⟨⟨⟨h1,h2⟩,h3⟩,h4⟩,h5⟩,h6⟩,h7⟩:=h
 refine⟨h1,h2,h3,ap4 h4,h5,fun x hx=>?_,fun y hy e=>?_⟩
 ·have:=h6 x hx
  split at this
  ·rename_i q;exact .inl q
  ·rename_i q;exact .inr q
  ·cases this
 ·have:=h7 y hy
  rw[e]at this
  cases this
def KF(K:PySem.W.Frag) (x:Str) (st:Stmt):Prop:=∃(f:Addr) (oc:Value) (od:Option Addr) (sl:Array (Option Value)) (kV dc pm:Value) (an:Option Addr) (cd ct:Value),
 PySem.W.nsIn K mainGlobals x=some (some (.ref f))/\K.lookup f=some ⟨oc,od,.func (PySem.W.fnOf x x (Y6 st) (R6 st) (M8 st) .none kV dc pm an cd ct),sl⟩/\PySem.W.codeIn K cd x=true/\PySem.W.keepIn K (.ref f)=true
theorem cq2{K:PySem.W.Frag}{x:Str}{st:Stmt}{f:Addr}{oc:Value}{od:Option Addr}{sl:Array (Option Value)}{kV dc pm:Value}{an:Option Addr}{cd ct:Value}(a:PySem.W.nsIn K mainGlobals x=some (some (.ref f)))
  (l:K.lookup f=some ⟨oc,od,.func (PySem.W.fnOf x x (Y6 st) (R6 st) (M8 st) .none kV dc pm an cd ct),sl⟩) (c:PySem.W.codeIn K cd x=true) (k:PySem.W.keepIn K (.ref f)=true):KF K x st:=⟨f,oc,od,sl,kV,dc,pm,an,cd,ct,a,l,c,k⟩
abbrev Tab:=List (Str×FnD×Nat)
section
variable {P:Program}{w:World}{K:PySem.W.Frag}{mg:Str->Option Value}{base:Heap}{cs:List (Str×D)}{bl:List Str}
structure Md (K:PySem.W.Frag) (mg:Str->Option Value) (cs:List (Str×D)) (bl:List Str):Prop where
 ns:∀x v,PySem.W.nsIn K mainGlobals x=some (some v)->mg x=some v
 css:∀x d,cs.lookup x=some d->∃u,bb8 K d u/\mg x=some u
 bls:∀x,bl.contains x=true->mg x=none
def TOk(P:Program) (w:World) (K:PySem.W.Frag) (mg:Str->Option Value) (base:Heap) (k:Nat) (tab:Tab):Prop:=∀x F n,tab.lookup x=some (F,n)->(∃(f:Addr) (fd:FuncData) (ps:List Str),
 FnOk P w K mg base CX0 k f fd ps (spF K n F)/\mg x=some (.ref f)/\PySem.W.keepIn K (.ref f)=true/\T6 K fd ps [])\/(mg x=none/\ck5 x F n)
theorem TOk.nil:TOk P w K mg base 0 []:=fun x F n h=>by cases h
theorem TOk.mono{j k:Nat}{tab:Tab}(T:TOk P w K mg base j tab) (h:j<=k):TOk P w K mg base k tab:=fun x F n e =>(T x F n e).imp (fun⟨f,fd,ps,h1,h2,h3,h4⟩=>⟨f,fd,ps,h1.mono h,h2,h3,h4⟩) id
def UA:Nat->(List Value->Prop)->Prop
 | 0,P=>P []
 | n+1,P=>∀a,UA n fun us=>P (a::us)
theorem ua:∀{n:Nat}{P:List Value->Prop},UA n P->∀us:List Value,us.length=n->P us
 | 0,_,h,[],_=>h
 | _+1,P,h,a::us,e=>ua (P:=fun us=>P (a::us)) (h a) us (Nat.succ.inj e)
def Bd(d:Fd):Prop:=∀(kV doc pm:Value) (an:Option Addr) (cdv ct:Value),UA d.ps.length fun us=>bindArgs (PySem.W.fnOf d.x d.x (Y6 d.st) (R6 d.st) (M8 d.st) .none kV doc pm an cdv ct) ⟨us,[]⟩=pure (d.ps.zip us)
def rd(tab:Tab) (cs:List (Str×D)) (bl:List Str) (d:Fd):FnD:=J8 ((ev ⟨tab,cs,bl⟩ 99).b d.c (R6 d.st)) d.N.length
theorem ar6{k:Nat}{tab:Tab}{d:Fd}{f:Addr}{fd:FuncData}(M:Md K mg cs bl) (T:TOk P w K mg base k tab) (ok:d.okB=true) (Fn:Fun K d.x d.x d.st f fd):FnOk P w K mg base CX0 (k+1) f fd d.ps (spF K d.ps.length (rd tab cs bl d)):=by
 have Sc:=Fd.sc ok
 refine bg7 (N:=d.N) Fn Sc fun cdv A outer s H E hr=>(u7 ⟨tab,cs,bl⟩ 99).b (c:=d.c) ?_ _
 refine⟨rfl,rfl,Sc.nd,rfl,rfl,hr.units,fun _=>⟨fun _=>rfl,Sc.kind⟩,fun x F n h=>?_,M.css,M.bls⟩
 exact(T x F n h).imp (fun⟨f',fd',ps,h1,h2,h3,h4⟩=>⟨k,f',fd',ps,h1,hr,h2,h3,h4⟩) id
theorem o5{x:Str}{st:Stmt}(h:KF K x st) (M:Md K mg cs bl):∃(f:Addr) (kV dc pm:Value) (an:Option Addr) (cd ct:Value),Fun K x x st f (PySem.W.fnOf x x (Y6 st) (R6 st) (M8 st) .none kV dc pm an cd ct)/\mg x=some (.ref f):=by
 obtain⟨f,oc,od,sl,kV,dc,pm,an,cd,ct,a,l,cc,kk⟩:=h
 exact⟨f,kV,dc,pm,an,cd,ct,ch9 l cc kk,M.ns _ _ a⟩
theorem TOk.cons{k:Nat}{tab:Tab}{x:Str}{F:FnD}{n:Nat}(T:TOk P w K mg base k tab) (h:∃(f:Addr) (fd:FuncData) (ps:List Str),FnOk P w K mg base CX0 k f fd ps (spF K n F)/\mg x=some (.ref f)/\PySem.W.keepIn K (.ref f)=true/\T6 K fd ps []) :
  TOk P w K mg base k ((x,F,n)::tab):=fun y G m e=>by
 rw[List.lookup_cons]at e
 split at e
 ·rename_i q
  cases e
  simp only[beq_iff_eq]at q
  subst q
  exact .inl h
 ·exact T y G m e
theorem TOk.add{k:Nat}{tab:Tab}(T:TOk P w K mg base k tab) (M:Md K mg cs bl) (d:Fd) (h:KF K d.x d.st) (F:FnD) (e:rd tab cs bl d=F:=by kernel_rfl) (ok:d.okB=true:=by kernel_rfl) (bd:Bd d:=by repeat (first|exact rfl|intro _)):TOk P w K mg base (k+1) ((d.x,F,d.ps.length)::tab):=by
 subst e
 obtain⟨f,kV,dc,pm,an,cd,ct,Fn,hm⟩:=o5 h M
 exact(T.mono (Nat.le_succ k)).cons ⟨f,_,d.ps,ar6 M T ok Fn,hm,Fn.kp,.all (ua (bd kV dc pm an cd ct))⟩
theorem TOk.rec{k:Nat}{tab:Tab}(T:TOk P w K mg base k tab) (M:Md K mg cs bl) (d:Fd) (h:KF K d.x d.st) (F:Nat->FnD) (j:Nat) (e0:F 0=fun _=>none:=by rfl) (e:∀j,rd ((d.x,F j,d.ps.length)::tab) cs bl d=F (j+1):=by intro;kernel_rfl) (ok:d.okB=true:=by kernel_rfl) (bd:Bd d:=by repeat (first|exact rfl|intro _)) :
  TOk P w K mg base (k+j) ((d.x,F j,d.ps.length)::tab):=by
 obtain⟨f,kV,dc,pm,an,cd,ct,Fn,hm⟩:=o5 h M
 have bb:T6 K _ d.ps []:=.all (ua (bd kV dc pm an cd ct))
 have main:∀j,FnOk P w K mg base CX0 (k+j) f (PySem.W.fnOf d.x d.x (Y6 d.st) (R6 d.st) (M8 d.st) .none kV dc pm an cd ct) d.ps (spF K d.ps.length (F j)):=fun j=>by
  induction j with
  | zero =>
   rw[e0]
   exact⟨fun vs H Q E h=>h.1,fun A outer s H args us vs Q E hr e0 hb hv hs=>by obtain⟨_,Hf,ds,d,_,_,e,_⟩:=hs;cases e⟩
  | succ j ih =>
   rw[← e j]
   exact ar6 M ((T.mono (Nat.le_add_right k j)).cons ⟨f,_,d.ps,ih,hm,Fn.kp,bb⟩) ok Fn
 exact(T.mono (Nat.le_add_right k j)).cons ⟨f,_,d.ps,main j,hm,Fn.kp,bb⟩
theorem TOk.rec2{k:Nat}{tab:Tab}(T:TOk P w K mg base k tab) (M:Md K mg cs bl) (d d':Fd) (h:KF K d.x d.st) (h':KF K d'.x d'.st) (F F':Nat->FnD) (j:Nat) (e0:F 0=fun _=>none:=by rfl) (e0':F' 0=fun _=>none:=by rfl)
  (e:∀j,rd ((d.x,F j,d.ps.length)::(d'.x,F' j,d'.ps.length)::tab) cs bl d=F (j+1):=by intro;kernel_rfl) (e':∀j,rd ((d.x,F j,d.ps.length)::(d'.x,F' j,d'.ps.length)::tab) cs bl d'=F' (j+1):=by intro;kernel_rfl) (ok:d.okB=true:=by kernel_rfl) (ok':d'.okB=true:=by kernel_rfl) (bd:Bd d:=by repeat (first|exact rfl|intro _)) (bd':Bd d':=by repeat (first|exact rfl|intro _)) :
  TOk P w K mg base (k+j) ((d.x,F j,d.ps.length)::(d'.x,F' j,d'.ps.length)::tab):=by
 obtain⟨f,kV,dc,pm,an,cd,ct,Fn,hm⟩:=o5 h M
 obtain⟨f',kV',dc',pm',an',cd',ct',Fn',hm'⟩:=o5 h' M
 have b1:T6 K _ d.ps []:=.all (ua (bd kV dc pm an cd ct))
 have b2:T6 K _ d'.ps []:=.all (ua (bd' kV' dc' pm' an' cd' ct'))
 have none_ok:∀{f:Addr}{fd:FuncData}{ps:List Str},FnOk P w K mg base CX0 (k+0) f fd ps (spF K ps.length fun _=>none):=fun{f fd ps} =>⟨fun vs H Q E h=>h.1,fun A outer s H args us vs Q E hr e0 hb hv hs=>by obtain⟨_,Hf,ds,d,_,_,e,_⟩:=hs;cases e⟩
 have main:∀j,TOk P w K mg base (k+j) ((d.x,F j,d.ps.length)::(d'.x,F' j,d'.ps.length)::tab):=fun j=>by
  induction j with
  | zero=>rw[e0,e0'];exact((T.mono (Nat.le_refl _)).cons ⟨f',_,d'.ps,none_ok,hm',Fn'.kp,b2⟩).cons ⟨f,_,d.ps,none_ok,hm,Fn.kp,b1⟩
  | succ j ih =>
   have o1:=ar6 M ih ok Fn
   have o2:=ar6 M ih ok' Fn'
   rw[e j]at o1
   rw[e' j]at o2
   exact((T.mono (Nat.le_add_right k (j+1))).cons ⟨f',_,d'.ps,o2,hm',Fn'.kp,b2⟩).cons ⟨f,_,d.ps,o1,hm,Fn.kp,b1⟩
 exact main j
theorem TOk.rec3{k:Nat}{tab:Tab}(T:TOk P w K mg base k tab) (M:Md K mg cs bl) (d1 d2 d3:Fd) (h1:KF K d1.x d1.st) (h2:KF K d2.x d2.st) (h3:KF K d3.x d3.st) (F1 F2 F3:Nat->FnD) (j:Nat) (z1:F1 0=fun _=>none:=by rfl) (z2:F2 0=fun _=>none:=by rfl) (z3:F3 0=fun _=>none:=by rfl)
  (e1:∀j,rd ((d1.x,F1 j,d1.ps.length)::(d2.x,F2 j,d2.ps.length)::(d3.x,F3 j,d3.ps.length)::tab) cs bl d1=F1 (j+1):=by intro;kernel_rfl) (e2:∀j,rd ((d1.x,F1 j,d1.ps.length)::(d2.x,F2 j,d2.ps.length)::(d3.x,F3 j,d3.ps.length)::tab) cs bl d2=F2 (j+1):=by intro;kernel_rfl) (e3:∀j,rd ((d1.x,F1 j,d1.ps.length)::(d2.x,F2 j,d2.ps.length)::(d3.x,F3 j,d3.ps.length)::tab) cs bl d3=F3 (j+1):=by intro;kernel_rfl) (ok1:d1.okB=true:=by kernel_rfl) (ok2:d2.okB=true:=by kernel_rfl) (ok3:d3.okB=true:=by kernel_rfl) (q1:Bd d1:=by repeat (first|exact rfl|intro _)) (q2:Bd d2:=by repeat (first|exact rfl|intro _)) (q3:Bd d3:=by repeat (first|exact rfl|intro _)) :
  TOk P w K mg base (k+j) ((d1.x,F1 j,d1.ps.length)::(d2.x,F2 j,d2.ps.length)::(d3.x,F3 j,d3.ps.length)::tab):=by
 obtain⟨f1,a1,a2,a3,a4,a5,a6,Fn1,hm1⟩:=o5 h1 M
 obtain⟨f2,c1,c2,c3,c4,c5,c6,Fn2,hm2⟩:=o5 h2 M
 obtain⟨f3,g1,g2,g3,g4,g5,g6,Fn3,hm3⟩:=o5 h3 M
 have b1:T6 K _ d1.ps []:=.all (ua (q1 a1 a2 a3 a4 a5 a6))
 have b2:T6 K _ d2.ps []:=.all (ua (q2 c1 c2 c3 c4 c5 c6))
 have b3:T6 K _ d3.ps []:=.all (ua (q3 g1 g2 g3 g4 g5 g6))
 have none_ok:∀{f:Addr}{fd:FuncData}{ps:List Str},FnOk P w K mg base CX0 (k+0) f fd ps (spF K ps.length fun _=>none):=fun{f fd ps} =>⟨fun vs H Q E h=>h.1,fun A outer s H args us vs Q E hr e0 hb hv hs=>by obtain⟨_,Hf,ds,d,_,_,e,_⟩:=hs;cases e⟩
 induction j with
 | zero=>rw[z1,z2,z3];exact(((T.mono (Nat.le_refl _)).cons ⟨f3,_,d3.ps,none_ok,hm3,Fn3.kp,b3⟩).cons ⟨f2,_,d2.ps,none_ok,hm2,Fn2.kp,b2⟩).cons ⟨f1,_,d1.ps,none_ok,hm1,Fn1.kp,b1⟩
 | succ j ih =>
  have o1:=ar6 M ih ok1 Fn1
  have o2:=ar6 M ih ok2 Fn2
  have o3:=ar6 M ih ok3 Fn3
  rw[e1 j]at o1
  rw[e2 j]at o2
  rw[e3 j]at o3
  exact(((T.mono (Nat.le_add_right k (j+1))).cons ⟨f3,_,d3.ps,o3,hm3,Fn3.kp,b3⟩).cons ⟨f2,_,d2.ps,o2,hm2,Fn2.kp,b2⟩).cons ⟨f1,_,d1.ps,o1,hm1,Fn1.kp,b1⟩
theorem bN4{k:Nat}{tab:Tab}{F:FnD}{fa:Addr}{x:Str}(M:Md K mg cs bl) (T:∀base:Heap,TOk P w K mg base k tab) (d:Fd) (h:KF K d.x d.st) (e:rd tab cs bl d=F) (hm:mg d.x=some (.ref fa)) (hp:d.ps=[x]:=by rfl) (ok:d.okB=true:=by kernel_rfl) (bd:Bd d:=by repeat (first|exact rfl|intro _)) :
  ∃fd:FuncData,(∀(s:Shared) (u:Value),BindsTo s fd ⟨[u],[]⟩ [(x,u)])/\∀base:Heap,FnOk P w K mg base CX0 (k+1) fa fd [x] (spF K 1 F):=by
 subst e
 obtain⟨f,kV,dc,pm,an,cd,ct,Fn,hm'⟩:=o5 h M
 cases hm.symm.trans hm'
 refine⟨PySem.W.fnOf d.x d.x (Y6 d.st) (R6 d.st) (M8 d.st) .none kV dc pm an cd ct,fun s u=>.of_eq ?_,fun base=>?_⟩
 ·have:=ua (bd kV dc pm an cd ct) [u] (by rw[hp];rfl)
  rw[hp]at this
  exact this
 ·have:=ar6 M (T base) ok Fn
  rw[hp]at this
  exact this
end
theorem ay2{K:PySem.W.Frag}{h:Heap}{C:Addr}{bb:List Value}{nid:String}(kin:K.In h) (q:PySem.W.excIn K C bb nid=true) :
  ∃nm qn N bs bm hd sn sub ab col dd k0 k1 k2 k3 k5 mN,h.get? C=some (excClassObj nm qn C N bs bm hd sn sub ab col dd k0 k1 k2 k3 k5 nid)/\h.Ns N mN/\mN "__init__" = none/\OwnTail h bb bm:=by
 unfold PySem.W.excIn at q
 split at q
 case h_2=>cases q
 rename_i d0 c0 sl0 lk
 split at q
 case h_2=>cases q
 rename_i C1 tl p0 p1 p2 p3 n1 p5 e1 e2
 simp only[Bool.and_eq_true,beq_iff_eq,Bool.not_eq_true']at q
 obtain⟨⟨⟨⟨⟨q1,q2⟩,q3⟩,q4⟩,q5⟩,q6⟩:=q
 subst q1 q2
 obtain⟨f1,f2,f3,f4,f5,f6,f7,f8,f9,f10,f11⟩:=c0
 dsimp only at e1 q3 q5 q6
 subst e1 q3
 obtain⟨sll⟩:=sl0
 dsimp only at e2
 subst e2
 exact⟨f1,f5,f4,f2,tl,f6,f7,f8,f9,f10,d0,p0,p1,p2,p3,p5,_,kin _ _ lk,.of_isNs (PySem.W.isNs_of_in kin q5),PySem.W.nsMap_none_of_in kin q5 q6,PySem.W.tail_of_in kin q4⟩
structure Fly (R:Addr->Prop) (l:List Env) (g B:Heap) (C a:Addr) (h:Heap):Prop where
 keep:∀b o,R b->g.get? b=some o->b∉frs l->B.get? b=some o
 fly:∃t,Heap.FlyingW B l a (.ref C) (.ref t) h
 sl:∀b o,g.get? b=some o->b∈frs l->∃z,h.get? b=some { o with slots:=z }
def Rl(s:Shared) (H':Hp) (b:Addr):Prop:=s.heap.get? b≠none\/H' b≠none
def CX1(P:Program) (w:World):CXT:=fun outer H s E e s'=>∃a C g B H',e=.ref a/\s'.os=s.os/\AllBare s'.gens/\Un (frs outer) [] H H' s.heap g/\HOk P w H' g/\Fly (Rl s H') outer g B C a s'.heap/\E (.ref C) none H'
section
variable {X:Cx}{pins:List (Addr×Obj)}{σ:L2.St}{H H':Hp}{s s':Shared}{g B:Heap}
theorem bQ7(I:Inv X pins σ H s) (os:s'.os=s.os) (bare:AllBare s'.gens) (un:Un (frs X.stack) [] H H' s.heap g) (hok:HOk X.prog X.w H' g) (keep:∀b o,Rl s H' b->g.get? b=some o->b∉frs X.stack->B.get? b=some o)
  (hB:B.StaysIn s'.heap) (sl:∀b o,g.get? b=some o->b∈frs X.stack->∃z,s'.heap.get? b=some { o with slots:=z }):Inv X pins σ H' s':=by
 have nx:∀b:Addr,b∉([]:List Addr):=fun b z=>absurd z (by simp)
 refine I.call' (ch:=[]) os ⟨fun b o e n m z=>hB b o (keep b o (.inl (by rw[e];simp)) (un.keep b o e n m z) m),fun b o e n m z=>?_,un.free,fun b o e z=>?_,un.tups,un.frzs,un.tbls⟩ ?_ bare (fun b z=>absurd z (nx b))
 ·obtain⟨z1,q⟩:=un.slot b o e n m z
  obtain⟨z2,q2⟩:=sl b _ q m
  exact⟨z2,q2⟩
 ·obtain⟨o',q⟩:=un.there b o e z
  by_cases m:b∈frs X.stack
  ·obtain⟨z2,q2⟩:=sl b _ q m;exact⟨_,q2⟩
  ·exact⟨o',hB b o' (keep b o' (.inl (by rw[e];simp)) q m)⟩
 ·intro a o e
  have fr0:∀b,b∈frs X.stack->H' b=none:=fun b m=>by
   obtain⟨_,o1,h1,_⟩:=I.stack.mem m
   exact un.free b o1 h1 (I.stkFree b m) (nx b)
  refine(hok a o e).stay (fun b u hb q=>?_) (fun _ q=>q) fun _ _ q=>q
  have hn:H' b≠none:=by
   rcases hb with rfl|hb
   ·rw[e];simp
   ·rw[hb];simp
  exact hB b u (keep b u (.inr hn) q fun m=>hn (fr0 b m))
end
section
variable {P:Program}{w:World}{K:PySem.W.Frag}{mg:Str->Option Value}{base:Heap}{N:List Str}{qual:Str}{scope:Scope}{f:Addr}{cd:Value}{A:Around}{outer:List Env}{s:Shared}{H H1:Hp}{E:XK}
 {pins:List (Addr×Obj)}{σ:L2.St}{s1 s':Shared}{h2:Heap}{a C:Addr}{vs:List Value}
abbrev cx1(P:Program) (w:World) (K:PySem.W.Frag) (mg:Str->Option Value) (base:Heap) (N:List Str) (qual:Str) (scope:Scope) (f:Addr) (cd:Value) (A:Around) (outer:List Env) (s:Shared) (H:Hp) (E:XK):Cx:=aT3 (CX1 P w) P w K mg base N qual scope f cd A outer s H E
theorem bT4(I:Inv (cx1 P w K mg base N qual scope f cd A outer s H E) pins σ H1 s1) {b:Addr}(r:Rl s H1 b):b≠s.heap.objs.size:=by
 rintro rfl
 rcases r with r|r
 ·exact r (Heap.get?_none_of_le (Nat.le_refl _))
 ·exact r I.free
theorem aD9{b:Addr}(h1:b∉frs outer) (h2:b≠s.heap.objs.size):b∉frs (cx1 P w K mg base N qual scope f cd A outer s H E).stack:=fun m=>by
 have m:b∈s.heap.objs.size::frs outer:=m
 rcases List.mem_cons.mp m with z|z
 ·exact h2 z
 ·exact h1 z
theorem aQ5(I:Inv (cx1 P w K mg base N qual scope f cd A outer s H E) pins σ H1 s1) (hm:Heap.MadeExcOf s1.heap h2 a (.ref C) vs) (hE:E (.ref C) none H1):(cx1 P w K mg base N qual scope f cd A outer s H E).xe (.ref a) { s1 with heap:=h2 }:=by
 have hin:∀env∈(cx1 P w K mg base N qual scope f cd A outer s H E).stack,∀b,env.frame=some b->b∈frs (cx1 P w K mg base N qual scope f cd A outer s H E).stack:=fun env he b hb=>List.mem_filterMap.mpr ⟨env,he,hb⟩
 refine wpAny_leaves_madeW (base:=PySem.W.hideAll s1.heap (frs (cx1 P w K mg base N qual scope f cd A outer s H E).stack)) (h:=s1.heap) (outer:=outer) I.ok.frames rfl (fun b o q=>PySem.W.of_hideAll _ q) (PySem.W.funFrames_hide I.stack hin) hm fun h' t x1 _ _ x4=>?_
 refine⟨a,C,s1.heap,_,H1,rfl,I.os,I.bare,I.base,I.hok,⟨fun b o r e m=>PySem.W.hideAll_get _ e (aD9 m (bT4 I r)),⟨t,x1⟩,fun b o e m=>?_⟩,hE⟩
 obtain⟨_,o',e',hd⟩:=I.stack.mem (xmm _ m)
 rw[e]at e';cases e'
 exact x4 b o (hm.keeps b o e) hd
theorem be4(I:Inv (cx1 P w K mg base N qual scope f cd A outer s H E) pins σ H1 s1) {e:Value}(hx:CX1 P w (cx1 P w K mg base N qual scope f cd A outer s H E).stack H1 s1 E e s'):(cx1 P w K mg base N qual scope f cd A outer s H E).xe e s':=by
 obtain⟨a,C,g,B,H',rfl,os,bare,un,hok,F,hE⟩:=hx
 have J:Inv (cx1 P w K mg base N qual scope f cd A outer s H E) pins σ H' { s' with heap:=g }:=I.call' (s':={ s' with heap:=g }) (ch:=[]) os un hok bare (fun b z=>absurd z (by simp))
 obtain⟨t,fl⟩:=F.fly
 refine wpAny_leaves_onW (outer:=outer) I.ok.frames rfl fl fun h' x1 x2=>?_
 have up:∀b,Rl s H' b->Rl s1 H' b:=fun b r=>r.imp (fun z q=>by
  cases e:s.heap.get? b with
  | none=>exact z e
  | some o =>
   obtain⟨o',q'⟩:=I.base.there b o e (fun z=>absurd (show b∈([]:List Addr) from z) (by simp))
   rw[q]at q';cases q') id
 refine⟨a,C,g,B,H',rfl,J.os,bare,J.base,J.hok,⟨fun b o r e m=>F.keep b o (up b r) e (aD9 m (bT4 J r)),⟨t,x1⟩,fun b o e m=>?_⟩,hE⟩
 obtain⟨z,e2⟩:=F.sl b o e (xmm _ m)
 obtain⟨_,o',e',hd⟩:=J.stack.mem (xmm _ m)
 have e':g.get? b=some o':=e'
 rw[e]at e';cases e'
 obtain⟨z2,q⟩:=x2 b _ e2 hd
 exact⟨z2,q⟩
end
abbrev veB:List Value:=[.type "ValueError", .type "Exception", .type "BaseException", .type "object"]
def y8(K:PySem.W.Frag) (x:Str):Bool:=match clA K x with
 | some C=>PySem.W.excIn K C veB "ValueError.__new__"
 | none=>false
abbrev RD:=Rho->Option (Str×Rho)
def EC(C:Addr) (H1:Hp):XK:=fun cls _ H'=>cls=.ref C/\L0 H1 H'
def Ou(X:Cx) (m:Bool) (pins:List (Addr×Obj)) (ρ1:Rho) (C:Addr) (H0 Hf0:Hp) (e:Value) (s':Shared):Prop:=∃σ1 H1 Hf1 s1,Inv X pins σ1 H1 s1/\At X.K H0 Hf0 ρ1 σ1 H1 Hf1 /\
 ((m=true/\∃h' a vs,s'={ s1 with heap:=h' }/\e=.ref a/\Heap.MadeExcOf s1.heap h' a (.ref C) vs)\/CX1 X.prog X.w X.stack H1 s1 (EC C H1) e s')
def Lo(X:Cx) (C:Addr) (H0:Hp) (e:Value) (s':Shared):Prop:=wpAny (model X.prog X.w) X.A (leaving X.env e) (fun _ s''=>CX1 X.prog X.w X.outer X.H₀ X.s₀ (EC C H0) e s'') (fun e' s''=>CX1 X.prog X.w X.outer X.H₀ X.s₀ (EC C H0) e' s'') s'
def Ot(X:Cx) (m:Bool) (pins:List (Addr×Obj)) (ρ1:Rho) (C:Addr) (H0 Hf0:Hp) (e:Value) (s':Shared):Prop:=Ou X m pins ρ1 C H0 Hf0 e s'\/(m=true/\Lo X C H0 e s')
def JR(X:Cx) (m:Bool) (st:Stmt) (r:RD):Prop:=∀ρ x ρ1 C,r ρ=some (x,ρ1)->clA X.K x=some C->∀H0 Hf0 pins s σ H Hf,Inv X pins σ H s->At X.K H0 Hf0 ρ σ H Hf ->
 wpAny (model X.prog X.w) X.A (exec st X.env) (fun _ _=>False) (Ot X m pins ρ1 C H0 Hf0) s
def JRs(X:Cx) (m:Bool) (sts:List Stmt) (r:RD):Prop:=∀ρ x ρ1 C,r ρ=some (x,ρ1)->clA X.K x=some C->∀H0 Hf0 pins s σ H Hf,Inv X pins σ H s->At X.K H0 Hf0 ρ σ H Hf ->
 wpAny (model X.prog X.w) X.A (execs sts X.env) (fun _ _=>False) (Ot X m pins ρ1 C H0 Hf0) s
def PX(X:Cx) (m:Bool) (e:Expr) (r:RD):Prop:=∀ρ x ρ1 C,r ρ=some (x,ρ1)->clA X.K x=some C->∀H0 Hf0 pins s σ H Hf,Inv X pins σ H s->At X.K H0 Hf0 ρ σ H Hf ->
 wpAny (model X.prog X.w) X.A (eval e X.env) (fun _ _=>False) (Ot X m pins ρ1 C H0 Hf0) s
theorem noX{α:Type}{t:Sem α}{Q Q':α->Shared->Prop}{M:Model}{A:Around}{E E':Value->Shared->Prop}{s:Shared}(hx:∀e s,E e s->False) (h:wpAny M A t Q E s) (hQ:∀a s,Q a s->Q' a s):wpAny M A t Q' E' s:=wpAny_mono h hQ fun e s z=>(hx e s z).elim
section
variable {X:Cx}{m:Bool}(hx:∀e s,X.xe e s->False)
include hx
def ae1(x:Str) (f:DE):RD:=fun ρ=>(f ρ).map fun _=>(x,ρ)
theorem by7{x:Str}{e:Expr}{f:DE}{np cpos pos:Pos}(hq:y8 X.K x=true) (hg:Gl X x) (hm:∀C,clA X.K x=some C->X.mg x=some (.ref C)) (hc:X.calm=true) (he:JE X e f) (hd:(x==("__debug__" : Str))=false)
  (hs:starEach [e] X.env=[(false,eval e X.env)]):JR X true (.Raise (some (.Call (.Name x np) [e] [] cpos)) none pos) (ae1 x f):=by
 intro ρ y ρ1 C q hC H0 Hf0 pins s σ H Hf I at_
 obtain⟨d,q1,q2⟩:=xmo q
 cases q2
 have hq:PySem.W.excIn X.K C veB "ValueError.__new__" = true:=by unfold y8 at hq;rw[hC]at hq;exact hq
 obtain⟨nm,qn,N,bs,bm,hd',sn,sub,ab,col,dd,k0,k1,k2,k3,k5,mN,g1,g2,g3,g4⟩:=ay2 I.mod.kin hq
 refine wpAny_Raise_call_subT (C:=C) (bm:=bm) (nm:=nm) (q:=qn) (N:=N) (bs:=bs) (hdct:=hd') (sn:=sn) (sub:=sub) (ab:=ab) (col:=col) (dd:=dd) (k0:=k0) (k1:=k1) (k2:=k2) (k3:=k3) (k5:=k5) F.excBase_ValueError (g4.hasType (by decide)) (I.ok.hd hc) (by rw[hs];rfl) g3 ?_
 refine aa7 I hg (hm C hC) ⟨rfl,?_⟩ hd
 have hA:=(bf9 he bA6 (by rw[hs];rfl)).run ρ [d] (by simp only[A0,A2,q1,xbs,xms]) cpos pins s σ H (fun vs H'=>(∃Hf',At X.K H0 Hf0 ρ σ H' Hf')/\vs.length=1) I ⟨H0,Hf,at_.gr.sub,at_.sl,fun vs H' Hf' gr rs=>⟨⟨Hf',at_.grow gr⟩,rs.length⟩⟩
 rw[hs]at hA ⊢
 refine Calls.evalArgs_plain (noX hx hA fun us s2 ⟨vs,H2,I2,r2,⟨Hf2,a2⟩,l1⟩=>?_)
 have ln:us.length=1:=by rw[← r2.length];exact l1
 exact⟨rfl,by show us.length<=_;rw[ln];decide,I2.bk _ _ g1,g2.keeps I2.bk,g4.keeps I2.bk,fun h' a hm'=>.inl ⟨σ,H2,Hf2,s2,I2,a2,.inl ⟨rfl,h',a,us,rfl,rfl,hm'⟩⟩⟩
def rNo:RD:=fun _=>none
omit hx in
theorem k8{st:Stmt}:JR X m st rNo:=fun ρ x ρ1 C q=>by cases q
omit hx in
theorem cf0{sts:List Stmt}:JRs X m sts rNo:=fun ρ x ρ1 C q=>by cases q
def rIf(t:Rho->Option Bool) (a b:RD):RD:=fun ρ=>(t ρ).bind fun c=>if c=true then a ρ else b ρ
theorem cq6{c:Expr}{a b:List Stmt}{t:Rho->Option Bool}{f g:RD}{pos:Pos}(hc:JT X c t) (ha:JRs X m a f) (hb:JRs X m b g):JR X m (.If c a b pos) (rIf t f g):=by
 intro ρ x ρ1 C q hC H0 Hf0 pins s σ H Hf I at_
 obtain⟨d,q1,q2⟩:=xbo q
 refine wpAny_If (noX hx (hc ρ d q1 pins s σ H (fun d' H'=>d'=d/\∃Hf',Grow H Hf H' Hf') I ⟨H0,Hf,at_.gr.sub,at_.sl,fun H' Hf' gr=>⟨rfl,Hf',gr⟩⟩) fun d' s1 ⟨H1,I1,e,Hf1,gr⟩=>?_)
 subst e
 cases d' with
 | true=>exact ha ρ x ρ1 C q2 hC H0 Hf0 pins s1 σ H1 Hf1 I1 (at_.grow gr)
 | false=>exact hb ρ x ρ1 C q2 hC H0 Hf0 pins s1 σ H1 Hf1 I1 (at_.grow gr)
def bj8(r:RD) (f:DS) (r2:RD):RD:=fun ρ=>match r ρ with
 | some x=>some x
 | none=>match f ρ with
  | some (.nx ρ')=>r2 ρ'
  | _=>none
theorem by6{st:Stmt}{sts:List Stmt}{r r2:RD}{f:DS}(h1:JR X m st r) (h2:JS X st f) (h3:JRs X m sts r2):JRs X m (st::sts) (bj8 r f r2):=by
 intro ρ x ρ1 C q hC H0 Hf0 pins s σ H Hf I at_
 unfold bj8 at q
 split at q
 ·rename_i y e
  cases q
  exact wpAny_execs_cons (thn (h1 ρ x ρ1 C e hC H0 Hf0 pins s σ H Hf I at_) fun _ _ z=>z.elim)
 ·split at q
  ·rename_i ρ' e
   refine wpAny_execs_cons (noX hx (h2 ρ _ e H0 Hf0 pins s σ H { nx:=fun σ' H'=>∃Hf',At X.K H0 Hf0 ρ' σ' H' Hf',rt:=fun _ _=>False } I ⟨Hf,at_,fun σ' H' Hf' a _=>⟨Hf',a⟩⟩) fun fl s1 z=>?_)
   cases fl with
   | next =>
    obtain⟨σ1,H1,I1,Hf1,a1⟩:=z
    exact h3 ρ' x ρ1 C q hC H0 Hf0 pins s1 σ1 H1 Hf1 I1 a1
   | ret v=>obtain⟨_,_,_,_,_,z⟩:=z;exact z.elim
   | brk=>obtain⟨_,_,_,z⟩:=z;exact z.elim
   | cont=>obtain⟨_,_,_,z⟩:=z;exact z.elim
  ·cases q
omit hx in
theorem bO7{st:Stmt}{r:RD}(h1:JR X m st r):JRs X m [st] r:=fun ρ x ρ1 C q hC H0 Hf0 pins s σ H Hf I at_ =>wpAny_execs_cons (thn (h1 ρ x ρ1 C q hC H0 Hf0 pins s σ H Hf I at_) fun _ _ z=>z.elim)
def spR(K:PySem.W.Frag) (n:Nat) (R:List D->Option Str):Sp:=fun vs H _ E=>vs.length=n/\∃Hf ds x C,L0 Hf H/\Reps K Hf ds vs/\R ds=some x/\clA K x=some C/\∀H',L0 H H'->E (.ref C) none H'
def aD7(R:List D->Option Str) (g:Rho->Option (List D)):RD:=fun ρ=>(g ρ).bind fun ds=>(R ds).map fun x=>(x,ρ)
theorem bJ7{k:Nat}{f:Addr}{fd:FuncData}{ps:List Str}{n:Nat}{R:List D->Option Str}{x:Str}{e:Expr}{es:List Expr}{g:Rho->Option (List D)}{p pos:Pos}(Fk:FnOk X.prog X.w X.K X.mg X.base (CX1 X.prog X.w) k f fd ps (spR X.K n R)) (hr:Room k X.A) (hg:Gl X x) (hm:X.mg x=some (.ref f)) (hk:PySem.W.keepIn X.K (.ref f)=true) (hb:T6 X.K fd ps [])
  (ha:JA X (e::es) g) (hn:(e::es).length=n) (hdb:(x==("__debug__" : Str))=false) (he:starEach (e::es) X.env=(false,eval e X.env)::starEach es X.env) (hpl:(backTo pos (starEach es X.env)).any (·.1)=false) :
  PX X m (.Call (.Name x p) (e::es) [] pos) (aD7 R g):=by
 intro ρ y ρ1 C q hC H0 Hf0 pins s σ H Hf I at_
 obtain⟨ds,h1,h2⟩:=xbo q
 obtain⟨y',h4,h3⟩:=xmo h2
 cases h3
 refine wpAny_Call_Name_kw (aa7 I hg hm ?_ hdb)
 refine PySem.W.callWith_K (h₀:=X.base) I.ok.mod.kin hk (noX hx (ha.run ρ ds h1 pos pins s σ H (fun vs H'=>∃Hf',At X.K H0 Hf0 ρ σ H' Hf'/\Reps X.K Hf' ds vs) I ⟨H0,Hf,at_.gr.sub,at_.sl,fun vs H1 Hf1 g1 r1=>⟨Hf1,at_.grow g1,r1⟩⟩) fun us s1 ⟨vs,H1,I1,r,Hf1,a1,rp⟩=>⟨I1.kIn,?_⟩) he hpl
 have hl:vs.length=n:=by rw[rp.length,ha.len ρ ds h1,hn]
 have sp:spR X.K n R vs H1 (fun _ _=>False) (EC C H1):=⟨hl,Hf1,ds,y,C,a1.gr.sub,rp,h4,hC,fun H' sm=>⟨rfl,sm⟩⟩
 have hl2:us.length=ps.length:=by rw[← r.length];exact Fk.len vs H1 (fun _ _=>False) (EC C H1) sp
 have bd:BindsTo s1 fd ⟨us,[]⟩ (ps.zip us):=by
  have:=hb s1 us I1.kIn (by rw[List.append_nil];exact hl2)
  rwa [List.append_nil]at this
 refine wpAny_call (codeAny_mono (Fk.run X.A X.stack s1 H1 ⟨us,[]⟩ us vs (fun _ _=>False) (EC C H1) hr I1.env0 bd r sp) fun rs s' hq=>?_)
 cases rs with
 | error e=>exact .inl ⟨σ,H1,Hf1,s1,I1,a1,.inr hq⟩
 | ok fl =>
  cases fl with
  | ret u=>obtain⟨_,_,_,_,_,_,_,z⟩:=hq;exact z.elim
  | next=>exact False.elim hq
  | brk=>exact False.elim hq
  | cont=>exact False.elim hq
omit hx in
theorem bO8{e:Expr}{r:RD}{pos:Pos}(h:PX X m e r) (hs:swapsWith e none pos.line X.env=pure false):JR X m (.Expr e pos) r:=fun ρ x ρ1 C q hC H0 Hf0 pins s σ H Hf I at_ =>wpAny_Expr_any (thn (h ρ x ρ1 C q hC H0 Hf0 pins s σ H Hf I at_) fun _ _ z=>z.elim) I.quiet hs
omit hx in
theorem cf2{e:Expr}{r:RD}{pos:Pos}(h:PX X m e r):JR X m (.Return (some e) pos) r:=fun ρ x ρ1 C q hC H0 Hf0 pins s σ H Hf I at_ =>wpAny_Return_some (thn (h ρ x ρ1 C q hC H0 Hf0 pins s σ H Hf I at_) fun _ _ z=>z.elim)
omit hx in
theorem cf1{x:Str}{e:Expr}{r:RD}{pos pos':Pos}(h:PX X m e r) (hs:swapsWith e (some (.Name x pos')) pos.line X.env=pure false):JR X m (.Assign [.Name x pos'] e pos) r:=fun ρ y ρ1 C q hC H0 Hf0 pins s σ H Hf I at_ =>wpAny_Assign_Name (thn (h ρ y ρ1 C q hC H0 Hf0 pins s σ H Hf I at_) fun _ _ z=>z.elim) hs
end
theorem CX1.mono{P:Program}{w:World}{outer:List Env}{H:Hp}{s:Shared}{E E':XK}{e:Value}{s':Shared}(h:CX1 P w outer H s E e s') (m:∀cls H',E cls none H'->E' cls none H'):CX1 P w outer H s E' e s':=by
 obtain⟨a,C,g,B,H',q1,q2,q3,q4,q5,q6,q7⟩:=h
 exact⟨a,C,g,B,H',q1,q2,q3,q4,q5,q6,m _ _ q7⟩
def bJ3(r:RD) (n:Nat):List D->Option Str:=fun ds=>(r (y9 n ds)).map (·.1)
theorem bD1{P:Program}{w:World}{K:PySem.W.Frag}{mg:Str->Option Value}{base:Heap}{x qual:Str}{st:Stmt}{f:Addr}{fd:FuncData}{N ps:List Str}{k:Nat}{r:RD}(F:Fun K x qual st f fd) (S:FnScope N ps (M8 st))
  (hb:∀(cdv:Value) (A:Around) (outer:List Env) (s:Shared) (H:Hp) (E:XK),Room k (A.deeper (envOfC qual (M8 st) s.heap.objs.size f cdv))->JRs (cx1 P w K mg base N qual (M8 st) f cdv A outer s H E).nox true (R6 st) r) :
  FnOk P w K mg base (CX1 P w) (k+1) f fd ps (spR K ps.length (bJ3 r N.length)):=by
 obtain⟨oc,od,kV,doc,pm,an,cdv,ct,osl,rfl,lk,hcd⟩:=F.ex
 refine aE7 lk hcd S (fun vs H Q E h=>h.1) fun A outer s H vs Q E hr hsp=>?_
 obtain⟨hlen,Hf,ds,y,C,ss,rp,e,hC,hE⟩:=hsp
 obtain⟨⟨y',ρ1⟩,e1,e2⟩:=xmo e
 cases e2
 refine⟨fun _ σ H'=>σ=L2.i9 N vs/\H'=H,fun pins s1 σ H1 D I z=>?_,rfl,rfl⟩
 obtain⟨rfl,rfl⟩:=z
 refine wpAny_mono (hb cdv A outer s H1 E hr (y9 N.length ds) y' ρ1 C e1 hC H1 Hf pins s1 _ H1 Hf (I.wish _) ⟨Grow.refl ss,ar0 rp⟩) (fun _ _ z=>z.elim) fun ex s' ho=>?_
 rcases ho with ho|⟨_,lo⟩
 case inr =>exact wpAny_mono lo (fun _ s'' z=>CX1.mono z fun cls H' q=>by obtain⟨rfl,sm⟩:=q;exact hE H' sm) fun e' s'' z=>CX1.mono z fun cls H' q=>by obtain⟨rfl,sm⟩:=q;exact hE H' sm
 obtain⟨σ1,H2,Hf2,s2,I2,a2,o⟩:=ho
 have I2:=I2.unwish
 rcases o with⟨_,h',a,vs',rfl,rfl,hm⟩|hc
 ·exact aQ5 I2 hm (hE H2 a2.gr.big)
 ·refine be4 I2 ?_
  obtain⟨a,C',g,B,H',q1,q2,q3,q4,q5,q6,q7,q8⟩:=hc
  cases q7
  exact⟨a,C,g,B,H',q1,q2,q3,q4,q5,q6,hE H' (a2.gr.big.trans q8)⟩
section
variable {M:Model}{A:Around}{E:Value->Shared->Prop}{h:Heap}{g:Array GenState}{d:Drawn}{t:Nat}{os:OsState}
variable {nm qn nm2 qn2:Str}{C N D N2:Addr}{bs bm bs2 bm2:List Value}{hd hd2:Bool}{sn sn2:List Str}{sub sub2:List Value}{ab ab2:Bool}{col col2:Option Bool}{dd dd2:Option Addr}{k0 k1 k2 k3 k5 j0 j1 j2 j3 j5:Option Value}{nid nid2:String}
theorem cw6{e:Addr}{oe:Obj}{Q:Bool->Shared->Prop}(hC:h.get? C=some (excClassObj nm qn C N bs bm hd sn sub ab col dd k0 k1 k2 k3 k5 nid)) (hD:h.get? D=some (excClassObj nm2 qn2 D N2 bs2 bm2 hd2 sn2 sub2 ab2 col2 dd2 j0 j1 j2 j3 j5 nid2))
  (he:h.get? e=some oe) (hcls:oe.cls=.ref C) (hb:bm2.contains (.type "BaseException")=true) (hq:Q ((Value.ref C::bm).contains (.ref D)) ⟨h,g,d,t,os⟩):wpAny M A (excMatches (.ref e) (.ref D)) Q E ⟨h,g,d,t,os⟩:=by
 have cB:(Value.ref D::bm2).contains (.type "BaseException")=true:=by rw[List.contains_cons,hb,Bool.or_true]
 have f:=tc_notTuple
 generalize hb:(Value.ref C::bm).contains (.ref D)=b at hq
 unfold excMatches
 repeat (first|(with_reducible refine wpAny_loadPart_at he ?_;rw[hcls])|with_reducible refine wpAny_loadPart_at hD ?_|(with_reducible refine wpAny_isSubtype_exc hD ?_;rw[cB])|(with_reducible refine wpAny_isSubtype_exc hC ?_;rw[hb])|wp_step)
 cases b<;>(wp_walk;exact hq)
end
abbrev Cx.held(X:Cx) (e:Value):Cx:={ X with A:=X.A.mark (some e),calm:=false }
section
variable {X:Cx}{pins:List (Addr×Obj)}{σ:L2.St}{H:Hp}{s:Shared}
theorem Inv.held(I:Inv X pins σ H s) (e:Value):Inv (Cx.held X e) pins σ H s :=
 ⟨⟨I.ok.mod,I.ok.kind,I.ok.glob,I.ok.blt,I.ok.above,I.ok.inj,I.ok.has,I.ok.cab,(fun z=>by cases z),I.ok.frames,I.ok.stk,I.ok.exf,I.ok.bs,I.ok.bsz,I.ok.noex,I.ok.exfs,I.ok.funs,I.ok.frf⟩,I.os,I.bare,I.base,I.loc,I.cell,I.free,I.freeC,I.pin,I.hok,I.len⟩
theorem Inv.unheld{e:Value}(I:Inv (Cx.held X e) pins σ H s) (ok:X.Ok):Inv X pins σ H s:=⟨ok,I.os,I.bare,I.base,I.loc,I.cell,I.free,I.freeC,I.pin,I.hok,I.len⟩
theorem Inv.wipe(I:Inv X pins σ H s) {h':Heap}{m':Str->Option Value}{tk:Nat}(hn:h'.Ns X.env.locals m') (hs:Heap.SameBut X.env.locals s.heap h'):Inv X pins (List.replicate σ.length none) H { s with heap:=h',toks:=tk }:=by
 have ne0:∀b o,X.s₀.heap.get? b=some o->b≠X.env.locals:=fun b o e z=>by
  have:=Heap.lt_size e
  rw[z]at this
  exact absurd (Nat.lt_of_lt_of_le this I.ok.above) (Nat.lt_irrefl _)
 have eq:∀b,b≠X.env.locals->h'.get? b=s.heap.get? b:=fun b hb=>hs.2 b hb
 refine⟨I.ok,I.os,I.bare,⟨fun b o e n hb hx=>?_,fun b o e n hb hx=>?_,I.base.free,fun b o e hx=>?_,I.base.tups,I.base.frzs,I.base.tbls⟩,⟨m',hn,fun i x v _ e _=>?_⟩,fun x c e=>?_,I.free,I.freeC,fun p hp=>?_,fun a o e=>?_,by rw[List.length_replicate];exact I.len⟩
 ·show h'.get? b=_
  rw[eq b (ne0 b o e)];exact I.base.keep b o e n hb hx
 ·obtain⟨sl,q⟩:=I.base.slot b o e n hb hx
  exact⟨sl,by show h'.get? b=_;rw[eq b (ne0 b o e)];exact q⟩
 ·obtain⟨o',q⟩:=I.base.there b o e hx
  exact⟨o',by show h'.get? b=_;rw[eq b (ne0 b o e)];exact q⟩
 ·rw[List.getElem?_replicate]at e
  split at e<;>cases e
 ·obtain⟨v,o,q1,q2⟩:=I.cell x c e
  exact⟨v,o,by show h'.get? c=_;rw[eq c (I.cne x c e)];exact q1,q2⟩
 ·obtain⟨q1,q2,q3,q4,q5⟩:=I.pin p hp
  exact⟨by show h'.get? p.1=_;rw[eq p.1 q3];exact q1,q2,q3,q4,q5⟩
 ·refine(I.hok a o e).stay (fun b u hb q=>?_) (fun _ q=>q) fun _ _ q=>q
  show h'.get? b=_
  rw[eq b fun z=>?_]
  ·exact q
  ·have f:=I.free
   rcases hb with rfl|hb
   ·rw[z,f]at e;cases e
   ·rw[z,f]at hb;cases hb
end
theorem V8.is{P:Program}{w:World}{H:Hp}{h:Heap}{a:Addr}{o:HO}(x:V8 P w H h a o):∃u,h.get? a=some u:=by
 cases o with
 | lst xs=>obtain⟨_,_,_,_,e⟩:=x;exact⟨_,e⟩
 | tup xs=>obtain⟨_,_,_,ob,e,_⟩:=x;exact⟨_,e⟩
 | dK kvs=>obtain⟨_,_,_,_,ob,_,_,e,_⟩:=x;exact⟨_,e⟩
 | dT kvs=>obtain⟨_,_,_,_,ob,_,_,e,_⟩:=x;exact⟨_,e⟩
 | set S n=>obtain⟨ob,_,_,_,e,_⟩:=x;exact⟨_,e⟩
 | ins C dx fs=>obtain⟨_,_,_,e,_⟩:=x;exact⟨_,e⟩
 | own y=>exact x
 | xd fs=>obtain⟨_,⟨ob,_,_,e,_⟩,_⟩:=x;exact⟨_,e⟩
 | rng lo hi=>obtain⟨_,_,_,e⟩:=x;exact⟨_,e⟩
 | frz ob u=>obtain⟨e,_⟩:=x;exact⟨_,e⟩
 | tbl ps=>exact⟨_,x⟩
 | met f y=>exact⟨_,x⟩
 | ext φ=>obtain⟨_,e,_⟩:=x;exact e
section
variable {X:Cx}{pins:List (Addr×Obj)}{σ:L2.St}{H:Hp}{s:Shared}{a:Addr}{oe:Obj}
abbrev fz(oe:Obj) (a:Addr):HO:=.frz oe (.own a)
theorem Inv.track(I:Inv X pins σ H s) (ha:H a=none) (e:s.heap.get? a=some oe) (n0:X.s₀.heap.get? a=none) (np:∀p∈X.pn++pins,p.1≠a) (nl:X.env.locals≠a) (nc:∀x c,X.env.cells.lookup x=some c->c≠a):Inv X pins σ (upd H a (fz oe a)) s:=by
 have nb:∀b o,X.s₀.heap.get? b=some o->b≠a:=fun b o q z=>by rw[z,n0]at q;cases q
 have up:∀b o,H b=some o->upd H a (fz oe a) b=some o:=fun b o q=>by rw[J0 (fun z=>by rw[z,ha]at q;cases q)];exact q
 refine⟨I.ok,I.os,I.bare,⟨I.base.keep,I.base.slot,fun b o q n hx=>?_,I.base.there,fun b xs q=>up b _ (I.base.tups b xs q),fun b o u q=>up b _ (I.base.frzs b o u q),fun b ps q=>?_⟩,I.loc,I.cell,?_,fun x c q=>?_,fun p hp=>?_,fun b o q=>?_,I.len⟩
 ·rw[J0 (nb b o q)];exact I.base.free b o q n hx
 ·obtain⟨more,z⟩:=I.base.tbls b ps q
  exact⟨more,up b _ z⟩
 ·rw[J0 nl];exact I.free
 ·rw[J0 (nc x c q)];exact I.freeC x c q
 ·obtain⟨q1,q2,q3⟩:=I.pin p hp
  exact⟨q1,by rw[J0 (np p hp)];exact q2,q3⟩
 ·by_cases hb:b=a
  ·subst hb
   rw[J9]at q;cases q
   exact⟨e,oe,e⟩
  ·rw[J0 hb]at q
   exact(I.hok b o q).stay (fun _ _ _ z=>z) (fun c z=>up c _ z) fun c xs z=>up c _ z
theorem aZ3{H1 Hf1 H':Hp}(sm:L0 H1 H') (sb:L0 Hf1 H1) (ha:H' a=none):Grow H1 Hf1 (upd H' a (fz oe a)) (upd Hf1 a (fz oe a)):=by
 have h1:H1 a=none:=sm.free ha
 have h2:Hf1 a=none:=sb.free h1
 refine⟨fun b o q=>?_,fun b o q=>?_,fun b o q=>?_,fun b q=>?_⟩
 ·rw[J0 (K2 q h1)];exact sm b o q
 ·by_cases hb:b=a
  ·subst hb;rw[J9]at q ⊢;exact q
  ·rw[J0 hb]at q ⊢;exact sm b o (sb b o q)
 ·rw[J0 (K2 q h2)];exact q
 ·by_cases hb:b=a
  ·subst hb;exact .inr h1
  ·rw[J0 hb]at q;exact .inl q
end
def bt0(K:PySem.W.Frag) (x c:Str):Bool:=match clA K x,clA K c with
 | some C,some D=>(match K.lookup C with
  | some ⟨_,_,.cls cd,_⟩=>cd.mro.contains (.ref D)
  | _=>false)
 | _,_=>false
def aO5(r:RD) (f:DS) (i:Nat) (g:DS):DS:=fun ρ=>match r ρ with
 | some (x,ρ1)=>(match g (ρ1.set i (some (.exc x))) with
  | some (.rt d)=>some (.rt d)
  | _=>none)
 | none=>f ρ
theorem Slots.setExc{K:PySem.W.Frag}{H0 H Hf:Hp}{ρ:Rho}{σ:L2.St}(s:Slots K H0 ρ σ H Hf) {i:Nat}{x:Str}{v:V}(hb:SB K H0 H Hf (.exc x) v):Slots K H0 (ρ.set i (some (.exc x))) (σ.set i (some v)) H Hf:=by
 have own:∀(j:Nat) (ds:List D),(ρ.set i (some (B.exc x)))[j]? = some (some (.own ds))->i≠j/\ρ[j]? = some (some (.own ds)):=fun j ds h=>by
  rw[List.getElem?_set]at h
  split at h
  ·split at h<;>cases h
  ·rename_i n;exact⟨n,h⟩
 have gt:∀j,i≠j->(σ.set i (some v))[j]? = σ[j]?:=fun j n=>by rw[List.getElem?_set,if_neg n]
 refine⟨by rw[List.length_set,List.length_set];exact s.len,fun j b h=>?_,fun j k ds es c h1 h2 h3 h4=>?_⟩
 ·by_cases q:i=j
  ·subst q
   rw[List.getElem?_set,if_pos rfl]at h
   split at h
   ·rename_i l
    cases h
    exact⟨v,by rw[List.getElem?_set,if_pos rfl,if_pos (by rw[← s.len];exact l)],hb⟩
   ·cases h
  ·rw[List.getElem?_set,if_neg q]at h
   rw[gt j q];exact s.is j b h
 ·obtain⟨n1,h1⟩:=own j _ h1
  obtain⟨n2,h2⟩:=own k _ h2
  rw[gt j n1]at h3
  rw[gt k n2]at h4
  exact s.apart j k ds es c h1 h2 h3 h4
section
variable {X:Cx}
theorem bO2{body:List Stmt}{b₀:Stmt}{suite:List Stmt}{c n:Str}{i:Nat}{r:RD}{f:DS}{gd:DS}{np hpos pos:Pos}(hx:∀e s,X.xe e s->False) (hex:X.ex=[]) (hst:X.stack=X.env::X.outer) (hfr:X.env.frame=some X.env.locals)
  (hb:JSs X body f) (hr:JRs X false body r) (hgc:Gl X c) (hmc:∀D,clA X.K c=some D->X.mg c=some (.ref D)) (hdc:(c==("__debug__" : Str))=false) (hcb:y8 X.K c=true)
  (hsub:∀ρ x ρ1,r ρ=some (x,ρ1)->y8 X.K x=true/\bt0 X.K x c=true)
  (hN:X.N.Nodup) (hi:X.N[i]? = some n) (hl:X.env.scope.names.lookup n=some .local) (hh:∀a:Addr,JSs (Cx.held X (.ref a)) (b₀::suite) gd) :
  JS X (.Try body [.ExceptHandler (some (.Name c np)) (some n) (b₀::suite) hpos] [] [] pos) (aO5 r f i gd):=by
 intro ρ fl q H0 Hf0 pins s σ H En I hw
 obtain⟨Hf,at_,ends⟩:=hw
 unfold aO5 at q
 split at q
 case h_2 =>
  refine wpAny_Try_except (noX hx (hb ρ fl q H0 Hf0 pins s σ H En I ⟨Hf,at_,ends⟩) fun f' s1 z=>?_)
  cases f' with
  | next=>exact wpAny_execs_nil z
  | ret v=>exact z
  | brk=>exact z
  | cont=>exact z
 rename_i x ρ1 er
 obtain⟨d,hd,rfl⟩:∃d,gd (ρ1.set i (some (.exc x)))=some (.rt d)/\fl=.rt d:=by
  split at q
  ·rename_i d e;cases q;exact⟨d,e,rfl⟩
  ·cases q
 obtain⟨hxb,hsb⟩:=hsub ρ x ρ1 er
 obtain⟨C,hC⟩:∃C,clA X.K x=some C:=by
  unfold y8 at hxb
  cases e:clA X.K x with
  | none=>rw[e]at hxb;cases hxb
  | some C=>exact⟨C,rfl⟩
 obtain⟨D,hD⟩:∃D,clA X.K c=some D:=by
  unfold y8 at hcb
  cases e:clA X.K c with
  | none=>rw[e]at hcb;cases hcb
  | some C=>exact⟨C,rfl⟩
 have qC:PySem.W.excIn X.K C veB "ValueError.__new__" = true:=by unfold y8 at hxb;rw[hC]at hxb;exact hxb
 have qD:PySem.W.excIn X.K D veB "ValueError.__new__" = true:=by unfold y8 at hcb;rw[hD]at hcb;exact hcb
 obtain⟨nm,qn,N,bs,bm,hd',sn,sub,ab,col,dd,k0,k1,k2,k3,k5,mN,c1,c2,c3,c4⟩:=ay2 I.mod.kin qC
 obtain⟨nm',qn',N',bs',bm',hd'',sn',sub',ab',col',dd',j0,j1,j2,j3,j5,mN',d1,d2,d3,d4⟩:=ay2 I.mod.kin qD
 have hin:(Value.ref C::bm).contains (.ref D)=true:=by
  unfold bt0 at hsb
  rw[hC,hD]at hsb
  dsimp only at hsb
  split at hsb
  ·rename_i lk
   have z:=I.mod.kin _ _ lk
   rw[c1]at z
   cases z
   exact hsb
  ·cases hsb
 refine wpAny_Try_except (wpAny_mono (hr ρ x ρ1 C er hC H0 Hf0 pins s σ H Hf I at_) (fun _ _ z=>z.elim) fun ex s1 ho=>?_)
 rcases ho with ho|⟨z,_⟩
 case inr=>cases z
 obtain⟨σ1,H1,Hf1,s0,I1,a1,o⟩:=ho
 rcases o with⟨z,_⟩|hc
 ·cases z
 obtain⟨a,C',g,B,H',rfl,os,bare,un,hok,F,cE,sm⟩:=hc
 cases cE
 obtain⟨t,fl0⟩:=F.fly
 have nx:∀b:Addr,b∉([]:List Addr):=fun b z=>absurd z (by simp)
 have J:Inv X pins σ1 H' { s1 with heap:=g }:=I1.call' (s':={ s1 with heap:=g }) (ch:=[]) os un hok bare (fun b z=>absurd z (nx b))
 have key:∀h'':Heap,B.StaysIn h''->s1.heap.UpToSlots h''->Inv X pins σ1 H' { s1 with heap:=h'' }:=fun h'' k1 k2=>by
  refine bQ7 (s':={ s1 with heap:=h'' }) I1 os bare un hok F.keep k1 fun b o e m=>?_
  obtain⟨z,e2⟩:=F.sl b o e m
  obtain⟨_,o',e',hd⟩:=J.stack.mem m
  have e':g.get? b=some o':=e'
  rw[e]at e';cases e'
  obtain⟨z2,q⟩:=k2 b _ e2 hd
  exact⟨z2,q⟩
 rw[hst]at fl0
 refine wpAny_looks_onW (outer:=X.outer) (by rw[← hst];exact I.ok.frames) hfr fl0 fun h4 held4 up4=>?_
 refine wpAny_landsW held4 fun h5 fl5 up5=>?_
 have I5:=key h5 fl5.1 (up4.trans up5)
 obtain⟨ob,hob,hobc⟩:=fl5.there
 refine wpAny_handleBy_cons (codeAny_handlers_test (aa7 (Inv.held I5 (.ref a)) hgc (hmc D hD) ?_ hdc)) (by intro q;cases q)
 refine cw6 (I5.bk _ _ c1) (I5.bk _ _ d1) hob hobc (d4.hasType (by decide)) ?_
 rw[hin]
 refine codeAny_handlers_suite_as (lands_againW fl5 fun h6 fl6 up6=>?_)
 have I6:=key h6 fl6.1 ((up4.trans up5).trans up6)
 obtain⟨oe,ws,e6,ec6,ed6,_⟩:=fl6.first
 have nB:B.get? a=none:=fl6.2.1
 have nf:a∉frs X.stack:=fun m=>by
  obtain⟨_,o',e',hd⟩:=I6.stack.mem m
  have e':h6.get? a=some o':=e'
  rw[e6]at e';cases e'
  exact hd ws ed6
 have ng:∀o,Rl s0 H' a->g.get? a=some o->False:=fun o rr e=>by
  have:=F.keep a o rr e nf
  rw[nB]at this;cases this
 have ha:H' a=none:=by
  cases e:H' a with
  | none=>rfl
  | some o =>
   obtain⟨u,e'⟩:=V8.is (hok a o e)
   exact(ng u (.inr (by rw[e];simp)) e').elim
 have n0:s0.heap.get? a=none:=by
  cases e:s0.heap.get? a with
  | none=>rfl
  | some o =>
   obtain⟨u,e'⟩:=un.there a o e (nx a)
   exact(ng u (.inl (by rw[e];simp)) e').elim
 have n00:X.s₀.heap.get? a=none:=by
  cases e:X.s₀.heap.get? a with
  | none=>rfl
  | some o =>
   obtain⟨u,e'⟩:=I1.base.there a o e (by rw[hex];exact nx a)
   rw[n0]at e';cases e'
 have I7:Inv X pins σ1 (upd H' a (fz oe a)) { s1 with heap:=h6 }:=by
  refine Inv.track I6 ha e6 n00 (fun p hp z=>?_) (fun z=>?_) fun y cc e z=>?_
  ·have:=(I1.pin p hp).1
   rw[z,n0]at this;cases this
  ·obtain⟨m,⟨o',_,_,e',_⟩,_⟩:=I1.loc
   rw[z,n0]at e';cases e'
  ·obtain⟨v,o',e',_⟩:=I1.cell y cc e
   rw[z,n0]at e';cases e'
 have gr:Grow H1 Hf1 (upd H' a (fz oe a)) (upd Hf1 a (fz oe a)):=aZ3 sm a1.gr.sub ha
 have a7:=a1.grow gr
 refine ac9 (X:=Cx.held X (.ref a)) (v:=.ref a) (Inv.held I7 (.ref a)) hN hi (.inl hl) rfl (fun s8 I8=>?_) (.inr hl)
 refine wpAny_mono (hh a _ _ hd H0 Hf0 pins s8 _ _ { nx:=fun _ _=>False,rt:=fun v H'=>∃Hf',Grow H0 Hf0 H' Hf'/\Rep X.K Hf' d v } I8 ⟨_,⟨a7.gr,Slots.setExc a7.sl ⟨a,oe,C,rfl,J9,hC,ec6⟩⟩,fun v H' Hf' g r=>⟨Hf',g,r⟩⟩) (fun fl' s9 z=>?_) fun e s z=>(hx e s z).elim
 cases fl' with
 | next=>obtain⟨_,_,_,z⟩:=z;exact z.elim
 | brk=>obtain⟨_,_,_,z⟩:=z;exact z.elim
 | cont=>obtain⟨_,_,_,z⟩:=z;exact z.elim
 | ret u =>
 obtain⟨v,σ9,H9,I9,rv,Hf9,g9,rp⟩:=z
 have I9:=Inv.unheld I9 I.ok
 obtain⟨m9,hn9,_⟩:=I9.loc
 refine wpAny_nameGoes (m:=m9) (by show X.env.scope.names.lookup n=_;exact hl) hn9 (by rw[I.ok.kind];rfl) fun h' m' hn' hs'=>?_
 exact⟨v,_,H9,Inv.wipe I9 hn' hs',rv,ends v H9 Hf9 g9 rp⟩
end
section
variable {prog:Program}{w:World}{A:Around}{E:Value->Shared->Prop}{h:Heap}{g:Array GenState}{d:Drawn}{t:Nat}{os:OsState}{a C:Addr}{o:Obj}{K:PySem.W.Frag}
def xcB(K:PySem.W.Frag) (C:Addr):Bool:=PySem.W.findIn K (.ref C) "__class__" == some (some (.builtin "object.__class__"))&&PySem.W.findIn K (.ref C) "__getattribute__" == some (some (.builtin "BaseException.__getattribute__")) &&
 PySem.W.findIn K (.ref C) "__getattr__" == some none&&PySem.W.mroIn K C (.type "object")==some true&&PySem.W.mroIn K C (.type "BaseException")==some true
theorem bV6{R:Result->Shared->Prop}(kin:K.In h) (hx:h.get? a=some o) (hc:o.cls=.ref C) (hm:PySem.W.mroIn K C (.type "object")=some true) (hq:R (.ok (.ret (.ref C))) ⟨h,g,d,t,os⟩) :
  codeAny (model prog w) A (.call (.builtin "getset_descriptor.__get__") ⟨[.builtin "object.__class__", .ref a,.ref C],[]⟩) R ⟨h,g,d,t,os⟩:=by
 have hT5:(⟨h,g,d,t,os⟩:Shared).TypeIs (.builtin "object.__class__") "getset_descriptor" := F.typeOf_object_class
 have L:PySem.W.Looks (model prog w) h (isSubtype (.ref C) (.type (".".intercalate ("object.__class__".cutAt '.').dropLast))) true:=by rw[F.owner_object_class];exact PySem.W.looks_mroIn kin hm
 refine codeAny_call_builtin F.slot_gs_get.plain F.entry_gs_get (F.slot_gs_get.check _ _ _ _ _ _ _ _ hT5 (F.args_gs_get _ _ _) ?_)
 repeat (any_goals (first|assumption|(with_reducible refine wpAny_loadPart_at hx ?_;rw[hc])|with_reducible refine L.at ?_|wp_step))
 refine⟨Code.quiet_builtin _ (by decide +kernel),codeAny_builtin F.entry_object_class ?_⟩
 repeat (any_goals (first|assumption|(with_reducible refine wpAny_loadPart_at hx ?_;rw[hc])|wp_step))
theorem br0{tk:Tok}{Q:Fin->Shared->Prop}(kin:K.In h) (hx:h.get? a=some o) (hc:o.cls=.ref C) (hf:PySem.W.findIn K (.ref C) "__class__" = some (some (.builtin "object.__class__"))) (hm:PySem.W.mroIn K C (.type "object")=some true) (hq:Q (.done (.ret (.ref C))) ⟨h,g,d,t,os⟩) :
  wpAny (model prog w) A (Builtin.«object.__getattribute__» ⟨[.ref a,.str "__class__" tk],[]⟩) Q E ⟨h,g,d,t,os⟩:=by
 have hT5:(⟨h,g,d,t,os⟩:Shared).TypeIs (.builtin "object.__class__") "getset_descriptor" := F.typeOf_object_class
 have f5:=F.typeOf_object_class
 have f6:=F.slot_gs_get.lookup
 have f7:=F.slot_gs_set.lookup
 have L:=PySem.W.looks_findIn (M:=model prog w) kin hf
 repeat (any_goals (first|assumption|(with_reducible refine wpAny_loadPart_at hx ?_;rw[hc])|with_reducible refine L.at ?_|wp_step))
 refine bV6 kin hx hc hm ?_
 repeat (any_goals (first|assumption|wp_step))
theorem br1{M:Model}{nameV:Value}{Q:Unit->Shared->Prop}(kin:K.In h) (hx:h.get? a=some o) (hc:o.cls=.ref C) (hm:PySem.W.mroIn K C (.type "BaseException")=some true) (hq:Q () ⟨h,g,d,t,os⟩):wpAny M A (checkBuiltinCall "BaseException.__getattribute__" ⟨[.ref a,nameV],[]⟩) Q E ⟨h,g,d,t,os⟩:=by
 have hk:builtinKind "BaseException.__getattribute__" = some .slot:=by decide +kernel
 have hsplit:splitId "BaseException.__getattribute__" = some ("BaseException", "__getattribute__"):=by decide +kernel
 have ha:=F.args_bexc_ga (.ref a) nameV
 have L:=PySem.W.looks_mroIn (M:=M) kin hm
 simp only[checkBuiltinCall,hk,hsplit]
 refine wpAny_bind ?_
 unfold isInstance
 repeat (first|(with_reducible refine wpAny_loadPart_at hx ?_;rw[hc])|with_reducible refine L.at ?_|wp_step)
 exact hq
theorem bH7{tk:Tok}{R:Result->Shared->Prop}(kin:K.In h) (hx:h.get? a=some o) (hc:o.cls=.ref C) (hb:xcB K C=true) (hq:R (.ok (.ret (.ref C))) ⟨h,g,d,t,os⟩) :
  codeAny (model prog w) A (.call (.builtin "BaseException.__getattribute__") ⟨[.ref a,.str "__class__" tk],[]⟩) R ⟨h,g,d,t,os⟩:=by
 simp only[xcB,Bool.and_eq_true,beq_iff_eq]at hb
 exact codeAny_call_builtin F.attr_ValueError.ga.plain F.entry_bexc_ga (br1 kin hx hc hb.2 (br0 kin hx hc hb.1.1.1.1 hb.1.2 hq))
theorem ck7{tk:Tok}{fill expr:Bool}{Q:Value->Shared->Prop}(kin:K.In h) (hx:h.get? a=some o) (hc:o.cls=.ref C) (hb:xcB K C=true) (hq:Q (.ref C) ⟨h,g,d,t,os⟩):wpAny (model prog w) A (getAttrBy (.ref a) (.str "__class__" tk) fill expr) Q E ⟨h,g,d,t,os⟩:=by
 have hb':=hb
 simp only[xcB,Bool.and_eq_true,beq_iff_eq]at hb'
 have L1:=PySem.W.looks_findIn (M:=model prog w) kin hb'.1.1.1.2
 have L2:=PySem.W.looks_findIn (M:=model prog w) kin hb'.1.1.2
 have f3:=F.attr_ValueError.ga.bind (.ref a)
 have z0:(expr&&onTheHeap (Value.builtin "BaseException.__getattribute__"))=false:=by cases expr<;>rfl
 have z2:(Value.builtin "BaseException.__getattribute__" == Value.builtin "object.__getattribute__")=false:=by decide +kernel
 have z1:(onTheHeap (Value.ref C)&&Value.builtin "BaseException.__getattribute__" == Value.builtin "object.__getattribute__")=false:=by rw[z2];rfl
 repeat (any_goals (first|assumption|(with_reducible refine wpAny_loadPart_at hx ?_;rw[hc])|with_reducible refine L1.at ?_|with_reducible refine L2.at ?_|wp_step))
 refine bH7 kin hx hc hb ?_
 repeat (any_goals (first|assumption|wp_step))
theorem bH8{Q:Option Value->Shared->Prop}(kin:K.In h) (hx:h.get? a=some o) (hc:o.cls=.ref C) (hb:xcB K C=true) (hq:Q (some (.ref C)) ⟨h,g,d,t+1,os⟩):wpAny (model prog w) A (getAttr? (.ref a) "__class__") Q E ⟨h,g,d,t,os⟩:=by
 unfold getAttr? getAttrBy?
 repeat (any_goals (first|assumption|with_reducible apply ck7 kin hx hc hb|wp_step))
theorem by0(hb:xcB K C=true) {bb:List Value}{nid:String}(hq:PySem.W.excIn K C bb nid=true):PySem.W.KitX K (.ref a) (.ref C) (fun h=>∃o,h.get? a=some o/\o.cls=.ref C) where
 ty:=fun _ _ _ ⟨o,h1,h2⟩=>h2 ▸ (PySem.W.Looks.ld h1).andThen .now
 it:=fun _ _ kin _=>by
  obtain⟨nm,qn,N,bs,bm,hd,sn,sub,ab,col,dd,k0,k1,k2,k3,k5,mN,g1,_⟩:=ay2 kin hq
  intro A' Q' E' s' k q
  unfold isType loadHead
  exact wpAny_bind (wpAny_loadPart (k _ _ g1) (wpAny_pure q))
 ne:=fun h tp dd its n sl kin htp=>by
  obtain⟨nm,qn,N,bs,bm,hd,sn,sub,ab,col,dd',k0,k1,k2,k3,k5,mN,g1,_⟩:=ay2 kin hq
  refine Bool.eq_false_iff.mpr fun q=>?_
  have e:C=tp:=Value.ref.inj (beq_iff_eq.mp q)
  subst e
  rw[g1]at htp
  have z:=congrArg Obj.data (Option.some.inj htp)
  cases z
 ca:=fun{_ _ _ _ _ s} kin ⟨o,h1,h2⟩ k=>by
  obtain⟨h,g,d,t,os⟩:=s
  exact bH8 kin h1 h2 hb k
end
section
variable {X:Cx}
def ba7(i:Nat) (tb:Str->Option Bool):DE:=fun ρ=>match ρ[i]? with
 | some (some (.exc x))=>(tb x).map PyData.bool
 | _=>none
def ao6(K:PySem.W.Frag) (cv:Value) (tb:Str->Option Bool):Prop:=∀x b,tb x=some b->∃C,clA K x=some C/\xcB K C=true/\PySem.W.excIn K C veB "ValueError.__new__" = true/\PySem.W.kitOne K (.ref C) cv=some b
theorem bG1{cv:Value}{v:V}(hv:O2 v cv) (hv':∀u,O2 v u->u=cv) {tb:Str->Option Bool}(ok:ao6 X.K cv tb):ai5 X (.builtin "isinstance") (fun xs H Q=>∃x y b H0 Hf,xs=[y,v]/\L0 Hf H/\SB X.K H0 H Hf (.exc x) y/\tb x=some b/\Q (.bl b) H):=by
 intro pins s σ H xs us Q I r h
 obtain⟨x,y,b,H0,Hf,rfl,sm,⟨a,o,C,rfl,e1,e2,e3⟩,hb,q⟩:=h
 obtain⟨u,c,rfl,rx,rc⟩:=br9 r
 cases rx
 obtain rfl:=hv' c rc
 obtain⟨C',f1,f2,f3,f4⟩:=ok x b hb
 rw[e2]at f1;cases f1
 obtain⟨z,_⟩:=(show V8 X.prog X.w H s.heap a (.frz o (.own a)) from I.hok a _ (sm _ _ e1))
 exact PySem.W.kia_one (by0 f2 f3) I.kIn ⟨o,z,e3⟩ f4 (fun z=>nomatch z) fun tk=>⟨.bl b,H,I.tok tk,rfl,q⟩
end
section
variable {X:Cx}
theorem bL2{y:Str}{D:Addr}{pos:Pos}(hg:Gl X y) (hm:X.mg y=some (.ref D)) (hd:(y==("__debug__" : Str))=false):PE X (.Name y pos) (tC (.ref D)):=fun pins s σ H Q I h=>aa7 I hg hm ⟨.ref D,H,I,rfl,h⟩ hd
theorem bA0{n y:Str}{i:Nat}{v:V}{cv:Value}{tb:Str->Option Bool}{p p1 p2 pos:Pos}(hg:Gl X "isinstance") (hm:X.mg "isinstance" = none) (hN:X.N[i]? = some n) (hv:Vis X.env.scope n) (hd:(n==("__debug__" : Str))=false) (hcd:(n==("__classdict__" : Str))=false)
  (hc:PE X (.Name y p2) (tC v)) (r1:O2 v cv) (r2:∀u,O2 v u->u=cv) (ok:ao6 X.K cv tb)
  (he:starEach [.Name n p1,.Name y p2] X.env=(false,eval (.Name n p1) X.env)::starEach [.Name y p2] X.env:=by rfl) (he2:starEach [.Name y p2] X.env=[(false,eval (.Name y p2) X.env)]:=by rfl) (hpl:(backTo pos (starEach [.Name y p2] X.env)).any (·.1)=false:=by rfl) :
  JE X (.Call (.Name "isinstance" p) [.Name n p1,.Name y p2] [] pos) (ba7 i tb):=fun ρ d q=>by
 unfold ba7 at q
 split at q
 case h_2=>cases q
 rename_i x e
 obtain⟨b,hb,rfl⟩:=xmo q
 refine K7 (ae3 (bG1 r1 r2 ok) hg hm bG5 (P4 (ae2 hN hv hd hcd) (P4 hc T7 he2) he) (he:=he) (hpl:=hpl)) fun σ H Q ⟨H0,Hf,s,sl,k⟩=>?_
 obtain⟨v0,h1,sb⟩:=sl.is i _ e
 exact⟨v0,h1,x,v0,b,H0,Hf,rfl,s,sb,hb,k _ H Hf (Grow.refl s) rfl⟩
def dRp(f:DE):DE:=fun ρ=>(f ρ).bind fun d=>match d with
 | .str x=>if x.length<=1000/\x.cps.all (· < 1114112)=true then some (.str (reprText x)) else none
 | _=>none
theorem cq9{e:Expr}{f:DE}{pos:Pos}(h:JE X e f):JE X (.FormattedValue e 114 none pos) (dRp f):=fun ρ d q=>by
 obtain⟨y,h1,h2⟩:=xbo q
 cases y with
 | str x =>
  dsimp only at h2
  split at h2
  case isFalse=>cases h2
  rename_i c
  cases h2
  have ln:(reprText x).length<=sizeLine:=by
   refine Nat.le_trans (PySem.StrLaws.reprText_len x fun z hz=>?_) ?_
   ·have:=c.2
    rw[← Array.all_toList,List.all_eq_true]at this
    have:=of_decide_eq_true (this z hz)
    omega
   ·have:=c.1
    exact Nat.le_trans (show 10*x.length+2<=10002 by omega) (by decide)
  intro pins s σ H Q I hw
  obtain⟨H0,Hf,sm,sl,k⟩:=hw
  refine wpAny_FormattedValue_repr (thn (h ρ _ h1 pins s σ H (fun v H'=>v=.str x/\∃Hf',Grow H Hf H' Hf') I ⟨H0,Hf,sm,sl,fun v H' Hf' g r=>⟨r,Hf',g⟩⟩) fun v s1 ⟨v',H1,I1,r1,e1,Hf1,g1⟩=>?_)
  subst e1
  obtain⟨t,rfl⟩:=(show ∃t,v=Value.str x t from r1)
  refine wpAny_pyReprObj_str ?_ ln
  exact wpAny_formatField_str ⟨.str (reprText x),H1,I1.tok _,⟨_,rfl⟩,k _ H1 Hf1 g1 rfl⟩ ⟨.str (reprText x),H1,(I1.tok _).tok _,⟨_,rfl⟩,k _ H1 Hf1 g1 rfl⟩ ln
 | none=>cases h2
 | bool b=>cases h2
 | int i=>cases h2
 | tuple xs=>cases h2
 | list xs=>cases h2
 | dict xs=>cases h2
def at8:Str->List DE->DE
 | acc,[]=>fun _=>some (.str acc)
 | acc,f::fs=>fun ρ=>(f ρ).bind fun d=>match d with
  | .str y=>if(acc++y).length<=16777216 then at8 (acc++y) fs ρ else none
  | _=>none
inductive JEs (X:Cx):List Expr->List DE->Prop
 | nil:JEs X [] []
 | cons {e:Expr}{es:List Expr}{f:DE}{fs:List DE}:JE X e f->JEs X es fs->JEs X (e::es) (f::fs)
theorem aj0:∀(ps:List (Sem Value)) (a:Str) (Q Q':Str->Shared->Prop) (s:Shared),(∀o s,Q o s->Q' o s)->Joins (model X.prog X.w) X.A X.xe ps a Q s->Joins (model X.prog X.w) X.A X.xe ps a Q' s
 | [],_,_,_,_,hq,z=>hq _ _ z
 | _::ps,_,Q,Q',_,hq,z=>thn z fun _ s1 ⟨y,t,e,c,z⟩=>⟨y,t,e,c,aj0 ps _ Q Q' s1 hq z⟩
theorem bg6:∀(fs:List DE) (acc:Str) (ρ:Rho) (d:D),at8 acc fs ρ=some d->acc.length<=16777216->∃x:Str,d=.str x/\x.length<=16777216
 | [],acc,ρ,d,q,l=>by cases q;exact⟨acc,rfl,l⟩
 | f::fs,acc,ρ,d,q,l=>by
  obtain⟨y,h1,h2⟩:=xbo q
  cases y<;>dsimp only at h2
  case str x =>
   split at h2
   ·rename_i c;exact bg6 fs (acc++x) ρ d h2 c
   ·cases h2
  all_goals cases h2
theorem cq7{es:List Expr}{fs:List DE}(h:JEs X es fs):∀(acc:Str) (ρ:Rho) (d:D),at8 acc fs ρ=some d->∀(pins:List (Addr×Obj)) (s:Shared) (σ:L2.St) (H0 H Hf:Hp),Inv X pins σ H s->L0 Hf H->Slots X.K H0 ρ σ H Hf ->
  Joins (model X.prog X.w) X.A X.xe (evalEach es X.env) acc (fun out s1=>d=.str out/\∃H1 Hf1,Inv X pins σ H1 s1/\Grow H Hf H1 Hf1) s:=by
 induction h with
 | nil =>
  intro acc ρ d q pins s σ H0 H Hf I sm sl
  cases q
  exact⟨rfl,H,Hf,I,Grow.refl sm⟩
 | @cons e es f fs he hs ih =>
  intro acc ρ d q pins s σ H0 H Hf I sm sl
  obtain⟨y,h1,h2⟩:=xbo q
  cases y with
  | str x =>
   dsimp only at h2
   split at h2
   case isFalse=>cases h2
   rename_i c
   refine thn (he ρ _ h1 pins s σ H (fun v H'=>v=.str x/\∃Hf',Grow H Hf H' Hf') I ⟨H0,Hf,sm,sl,fun v H' Hf' g r=>⟨r,Hf',g⟩⟩) fun v s1 ⟨v',H1,I1,r1,e1,Hf1,g1⟩=>?_
   subst e1
   obtain⟨t,rfl⟩:=(show ∃t,v=Value.str x t from r1)
   refine⟨x,t,rfl,c,?_⟩
   have z:=ih (acc++x) ρ d h2 pins s1 σ H0 H1 Hf1 I1 g1.sub (sl.grow g1)
   exact aj0 _ _ _ _ _ (fun o s ⟨z1,H2,Hf2,I2,g2⟩=>⟨z1,H2,Hf2,I2,g1.trans g2⟩) z
  | none=>cases h2
  | bool b=>cases h2
  | int i=>cases h2
  | tuple xs=>cases h2
  | list xs=>cases h2
  | dict xs=>cases h2
theorem cr2{e1 e2:Expr}{es:List Expr}{fs:List DE}{pos:Pos}(h:JEs X (e1::e2::es) fs):JE X (.JoinedStr (e1::e2::es) pos) (at8 Str.empty fs):=fun ρ d q=>by
 intro pins s σ H Q I hw
 obtain⟨H0,Hf,sm,sl,k⟩:=hw
 obtain⟨x,rfl,lx⟩:=bg6 fs _ ρ d q (by decide)
 refine wpAny_JoinedStr (aj0 _ _ _ _ _ (fun o s1 z=>?_) (cq7 h Str.empty ρ _ q pins s σ H0 H Hf I sm sl))
 obtain⟨e,H1,Hf1,I1,g1⟩:=z
 cases e
 exact⟨lx,.str x,H1,I1.tok _,⟨_,rfl⟩,k _ H1 Hf1 g1 rfl⟩
end
def ar3(g:D->Rho->Option Rho) (f:DS) (r:RD):List D->RD
 | [],_=>none
 | d::ds,ρ=>(g d ρ).bind fun ρ1=>match r ρ1 with
  | some x=>some x
  | none=>match f ρ1 with
   | some (.nx ρ2)=>ar3 g f r ds ρ2
   | some (.ct ρ2)=>ar3 g f r ds ρ2
   | _=>none
def bJ5(src:Rho->Option (List D)) (g:D->Rho->Option Rho) (f:DS) (r:RD):RD:=fun ρ=>(src ρ).bind fun ds=>ar3 g f r ds ρ
def bS6(X:Cx):Prop:=∀pins ρ1 C H0 Hf0 e s',Ou X true pins ρ1 C H0 Hf0 e s'->Lo X C H0 e s'
section
variable {X:Cx}
theorem PI.wish{tg iter:Expr}{wi:TI}{E:Value->Shared->Prop}(hx:∀e s,X.xe e s->False) (h:PI X tg iter wi):PI (X.wish E) tg iter wi:=fun pins s σ H R I hw =>noX hx (h pins s σ H R (I.unwish) hw) fun v s1 z=>noX hx z fun itv s2 ⟨it,fp,tn,J,H',e,I2,T,t0,fo,rj⟩=>⟨it,fp,tn,J,H',e,I2.wish E,T,t0,fo,rj⟩
theorem PG.wish{tg:Expr}{t:TG}{E:Value->Shared->Prop}(hx:∀e s,X.xe e s->False) (h:PG X tg t):PG (X.wish E) tg t:=fun pins s σ H v u Q I r hw =>noX hx (h pins s σ H v u Q I.unwish r hw) fun _ s1 ⟨σ',H',I',q⟩=>⟨σ',H',I'.wish E,q⟩
theorem SP.wish{pins:List (Addr×Obj)}{D:Ends}{f:Flow}{s':Shared}{E:Value->Shared->Prop}(h:SP X pins D f s'):SP (X.wish E) pins D f s':=by
 cases f with
 | next=>obtain⟨σ',H',I,q⟩:=h;exact⟨σ',H',I.wish E,q⟩
 | brk=>obtain⟨σ',H',I,q⟩:=h;exact⟨σ',H',I.wish E,q⟩
 | cont=>obtain⟨σ',H',I,q⟩:=h;exact⟨σ',H',I.wish E,q⟩
 | ret u=>obtain⟨v,σ',H',I,r,q⟩:=h;exact⟨v,σ',H',I.wish E,r,q⟩
theorem cf3{tg iter:Expr}{body:List Stmt}{src:Rho->Option (List D)}{g:D->Rho->Option Rho}{f:DS}{r:RD}{pos:Pos}(hx:∀e s,X.xe e s->False) (lo:bS6 X) (hi:JI X tg iter src) (hg:JG X tg g) (hb:JSs X body f) (hr:JRs X true body r) (hc:X.calm=true)
  (hs:∀x,foldedSetIterable iter X.env x=pure x):JR X true (.For tg iter body [] pos) (bJ5 src g f r):=by
 intro ρ x ρ1 C q hC H0 Hf0 pins s σ H Hf I at_
 obtain⟨ds,e1,e2⟩:=xbo q
 have tb:PSs (X.wish (Lo X C H0)) body (fun En σ H=>∃ρ' Hf',At X.K H0 Hf0 ρ' σ H Hf'/\((∃fl,f ρ'=some fl/\fl.ends X.K H0 Hf0 Hf' En)\/(∃y,r ρ'=some (x,y)))):=fun pins s σ H En I hw=>by
  obtain⟨ρ',Hf',a',o⟩:=hw
  rcases o with⟨fl,e,en⟩|⟨y,e⟩
  ·exact noX hx (hb ρ' fl e H0 Hf0 pins s σ H En I.unwish ⟨Hf',a',en⟩) fun fl' s1 z=>SP.wish z
  ·refine wpAny_mono (hr ρ' x y C e hC H0 Hf0 pins s σ H Hf' I.unwish a') (fun _ _ z=>z.elim) fun ex s1 z=>?_
   rcases z with z|⟨_,z⟩
   ·exact lo _ _ _ _ _ _ _ z
   ·exact z
 have pf:=bu6 (X:=X.wish (Lo X C H0)) (pos:=pos) PassesOwn.leaving hc (PI.wish hx (hi ρ ds e1)) (PG.wish hx hg) tb hs
 have en:wpAny (model X.prog X.w) X.A (exec (.For tg iter body [] pos) X.env) (SP (X.wish (Lo X C H0)) pins { nx:=fun _ _=>False,rt:=fun _ _=>False }) (Lo X C H0) s:=by
  refine pf pins s σ H _ (I.wish _) ⟨H0,Hf,at_.gr.sub,at_.sl,fun J H1 Hf1 g1 Y=>?_⟩
  refine⟨fun i m σ H=>m=ds.length - i/\i<=ds.length/\∃Hf' ρ',At X.K H0 Hf0 ρ' σ H Hf'/\L0 Hf1 Hf'/\ar3 g f r (ds.drop i) ρ'=some (x,ρ1),⟨ds.length,by simp,Nat.zero_le _,Hf1,ρ,at_.grow g1,L0.refl _,by simpa using e2⟩,?_⟩
  rintro i m σ' H' ⟨rfl,hi,Hf',ρ',a',s',hm⟩
  obtain⟨Ys,Yg⟩:=Y i H' Hf' s' a'.gr.sub
  rcases Nat.lt_or_ge i ds.length with hlt|hge
  ·right
   obtain⟨go,yl⟩:=Yg ds[i] (by simp[hlt])
   rw[List.drop_eq_getElem_cons hlt]at hm
   obtain⟨ρ2,c1,hm⟩:=xbo hm
   refine⟨go,fun σ3 H3=>∃m',m' < ds.length - i/\m'=ds.length - (i+1)/\i+1<=ds.length/\∃Hf' ρ',At X.K H0 Hf0 ρ' σ3 H3 Hf'/\L0 Hf1 Hf'/\ar3 g f r (ds.drop (i+1)) ρ'=some (x,ρ1),fun σ3 H3 ⟨m',z1,z2⟩=>⟨m',z1,z2⟩,fun v H2 hy=>?_⟩
   obtain⟨Hf2,g2,r2⟩:=yl v H2 hy
   have a2:=a'.grow g2
   refine⟨ds[i],ρ',ρ2,H0,Hf2,c1,g2.sub,a2.sl,r2,fun σ3 sl3=>⟨ρ2,Hf2,⟨a2.gr,sl3⟩,?_⟩⟩
   have s2:=s'.trans g2.ext
   split at hm
   ·rename_i y e
    cases hm
    exact .inr ⟨ρ1,e⟩
   ·split at hm
    ·rename_i ρ3 e
     exact .inl ⟨_,e,fun σ3 H3 Hf3 a3 s3=>⟨_,by omega,rfl,hlt,Hf3,ρ3,a3,s2.trans s3,hm⟩⟩
    ·rename_i ρ3 e
     exact .inl ⟨_,e,fun σ3 H3 Hf3 a3 s3=>⟨_,by omega,rfl,hlt,Hf3,ρ3,a3,s2.trans s3,hm⟩⟩
    ·cases hm
  ·have:i=ds.length:=by omega
   subst this
   rw[List.drop_length]at hm
   cases hm
 refine wpAny_mono en (fun fl s1 z=>?_) fun e s1 z=>.inr ⟨rfl,z⟩
 cases fl with
 | next=>obtain⟨_,_,_,z⟩:=z;exact z
 | brk=>obtain⟨_,_,_,z⟩:=z;exact z
 | cont=>obtain⟨_,_,_,z⟩:=z;exact z
 | ret u=>obtain⟨_,_,_,_,_,z⟩:=z;exact z
theorem cc5{P:Program}{w:World}{K:PySem.W.Frag}{mg:Str->Option Value}{base:Heap}{N:List Str}{qual:Str}{scope:Scope}{f:Addr}{cd:Value}{A:Around}{outer:List Env}{s:Shared}{H:Hp}{E:XK}:bS6 (cx1 P w K mg base N qual scope f cd A outer s H E).nox:=by
 intro pins ρ1 C H0 Hf0 e s' h
 obtain⟨σ1,H2,Hf2,s2,I2,a2,o⟩:=h
 have I3:Inv (cx1 P w K mg base N qual scope f cd A outer s H (EC C H0)) pins σ1 H2 s2:=(I2.unwish).wish (cx1 P w K mg base N qual scope f cd A outer s H (EC C H0)).xe
 rcases o with⟨_,h',a,vs',rfl,rfl,hm⟩|hc
 ·exact aQ5 I3 hm ⟨rfl,a2.gr.big⟩
 ·exact be4 I3 (CX1.mono hc fun cls H' q=>⟨q.1,a2.gr.big.trans q.2⟩)
end
def bX8(K:PySem.W.Frag) (x c:Str):Bool:=match clA K x,clA K c with
 | some C,some D=>(match K.lookup C with
  | some ⟨_,_,.cls cd,_⟩=>!cd.mro.contains (.ref D)
  | _=>false)
 | _,_=>false
section
variable {X:Cx}
end
section
variable {X:Cx}
end
structure RoomQ (k:Nat) (A:Around):Prop where
 dp:A.depth+3*k+5 < recursionLimit
 un:A.units+16*k+200 < cLine
structure FnQ (P:Program) (w:World) (K:PySem.W.Frag) (mg:Str->Option Value) (base:Heap) (k:Nat) (f:Addr) (fd:FuncData) (ps:List Str) (sp:Sp):Prop where
 len:∀vs H Q E,sp vs H Q E->vs.length=ps.length
 run:∀(A:Around) (outer:List Env) (s:Shared) (H:Hp) (args:Args) (us:List Value) (vs:List V) (Q:VK),RoomQ k A->Env0 P w K mg base A outer s H->BindsTo s fd args (ps.zip us)->M0 vs us->sp vs H Q E0->codeAny (model P w) A (.call (.ref f) args) (CR CX0 outer P w H s Q E0) s
theorem FnQ.mono{P:Program}{w:World}{K:PySem.W.Frag}{mg:Str->Option Value}{base:Heap}{j k:Nat}{f:Addr}{fd:FuncData}{ps:List Str}{sp:Sp}(F:FnQ P w K mg base j f fd ps sp) (h:j<=k):FnQ P w K mg base k f fd ps sp :=
 ⟨F.len,fun A outer s H args us vs Q hr=>F.run A outer s H args us vs Q ⟨by have:=hr.dp;omega,by have:=hr.un;omega⟩⟩
def spX(K:PySem.W.Frag) (F:Str->Option D):Sp:=fun vs H Q _=>∃Hf x v d,vs=[v]/\L0 Hf H/\SB K H H Hf (.exc x) v/\F x=some d/\∀u H' Hf',Grow H Hf H' Hf'->Rep K Hf' d u->Q u H'
section
variable {X:Cx}
end
abbrev bG8:=List (Str×(Str->Option D))
abbrev bb7:=List (Str×(List D->Option Str)×Nat)
structure Rg where
 rf:bb7
 cl:List Str
 tb:List (Str×List (Str×Bool))
 sb:List (Str×List Str)
 nb:List (Str×List Str)
 xf:bG8
structure FitR (S:Sg) (T:Rg) (c:Kx) (X:Cx):Prop where
 fit:Fit S c X
 ns:∀x C,clA X.K x=some C->X.mg x=some (.ref C)
 rfs:∀x R n,T.rf.lookup x=some (R,n)->∃(k:Nat) (f:Addr) (fd:FuncData) (ps:List Str),FnOk X.prog X.w X.K X.mg X.base (CX1 X.prog X.w) k f fd ps (spR X.K n R)/\Room k X.A/\X.mg x=some (.ref f)/\PySem.W.keepIn X.K (.ref f)=true/\T6 X.K fd ps []
 cls:∀x,T.cl.contains x=true->y8 X.K x=true
 tbs:∀y l,T.tb.lookup y=some l->(∃D,clA X.K y=some D/\ao6 X.K (.ref D) fun x=>l.lookup x)\/(y = "ValueError" /\ X.mg y=none/\ao6 X.K (.type "ValueError") fun x=>l.lookup x)
 sbs:∀y l,T.sb.lookup y=some l->y8 X.K y=true/\∀x∈l,y8 X.K x=true/\bt0 X.K x y=true
 nbs:∀y l,T.nb.lookup y=some l->∀x∈l,y8 X.K x=true/\bX8 X.K x y=true
 xfs:∀x F,T.xf.lookup x=some F->∃(k:Nat) (f:Addr) (fd:FuncData) (ps:List Str),FnQ X.prog X.w X.K X.mg X.base k f fd ps (spX X.K F)/\RoomQ k X.A/\X.mg x=some (.ref f)/\PySem.W.keepIn X.K (.ref f)=true/\T6 X.K fd ps []
section
variable (S:Sg) (T:Rg)
def fsP(c:Kx) (e:Expr):DE:=match e with
 | .FormattedValue v k sp _=>if k==114 then(match sp with
  | none=>dRp ((ev S 99).e c v)
  | some _=>dNo) else dNo
 | .Constant k _ _=>xCn k
 | _=>dNo
def msE(c:Kx) (e:Expr):DE:=match e with
 | .JoinedStr (e1::e2::es) _=>at8 Str.empty ((e1::e2::es).map (fsP S c))
 | _=>(ev S 99).e c e
def fnL(c:Kx) (n:Nat):List Expr->Option (List (FnD×(List D->Option Str)))
 | []=>some []
 | .Name x _::es=>(match S.fn.lookup x,T.rf.lookup x with
  | some (F,m),some (R,m')=>if ax9 c.sc x&&m==n&&m'==n then(fnL c n es).map fun r=>(F,R)::r else none
  | _,_=>none)
 | _::_=>none
def xvE(c:Kx) (e:Expr):DE:=(fun _:Rg=>(ev S 99).e c e) T
def xvS(c:Kx) (st:Stmt):DS:=match st with
 | .Return o _=>(match o with
  | some e=>A9 (xvE S T c e)
  | none=>K0)
 | _=>xS S (ev S 99) c st
def rvN(c:Kx) (f a:Expr) (args:List Expr):RD:=match f with
 | .Name x _=>(match T.rf.lookup x with
  | some (R,n)=>if ax9 c.sc x&&(a::args).length==n&&(a::args).all pl then aD7 R (evA ((ev S 99).e c) (a::args)) else rNo
  | none=>rNo)
 | _=>rNo
def rvE(c:Kx) (e:Expr):RD:=match e with
 | .Call f as kw _=>(match as,kw with
  | a::args,[]=>rvN S T c f a args
  | _,_=>rNo)
 | _=>rNo
def rvL(f:Stmt->RD) (c:Kx):List Stmt->RD
 | []=>rNo
 | [s]=>f s
 | s::t::r=>bj8 (f s) (xS S (ev S 99) c s) (rvL f c (t::r))
def rvR(mk:Bool) (c:Kx) (a b:Option Expr):RD:=match a,b with
 | some e,none=>(match e with
  | .Call f as kw _=>(match f with
   | .Name x _=>(match as,kw with
    | [e],[]=>if mk&&T.cl.contains x&&ax9 c.sc x&&pl e then ae1 x (msE S c e) else rNo
    | _,_=>rNo)
   | _=>rNo)
  | _=>rNo)
 | _,_=>rNo
def rvX(c:Kx) (e:Expr):RD:=match e with
 | .Call f as kw q=>rvE S T c (.Call f as kw q)
 | _=>rNo
def rvA(c:Kx) (v:Expr):List Expr->RD
 | [t]=>(match t with
  | .Name _ _=>rvX S T c v
  | _=>rNo)
 | _=>rNo
def rvS(mk:Bool):Nat->Kx->Stmt->RD
 | 0,_,_=>rNo
 | n+1,c,st=>match st with
  | .Raise a b _=>rvR S T mk c a b
  | .If t a b _=>rIf ((ev S 99).t c t) (rvL S (rvS mk n c) c a) (rvL S (rvS mk n c) c b)
  | .For tg it a o _=>(match o with
   | []=>if mk&&pl it then bJ5 (evI S (ev S 99) c tg it) ((ev S 99).g c tg) ((ev S 99).b c a) (rvL S (rvS mk n c) c a) else rNo
   | _=>rNo)
  | .Expr e _=>rvX S T c e
  | .Return o _=>(match o with
   | some e=>rvE S T c e
   | none=>rNo)
  | .Assign ts v _=>rvA S T c v ts
  | _=>rNo
def rvB(mk:Bool) (c:Kx) (sts:List Stmt):RD:=rvL S (rvS S T mk 9 c) c sts
def zvI(c:Kx) (w:Str) (a b:Expr):DE:=match a with
 | .Name x _=>(match b with
  | .Name y _=>if biB S c "isinstance" w&&aO0 c.sc x&&ax9 c.sc y then(match aa8 x c.N,T.tb.lookup y with
   | some i,some l=>ba7 i fun x=>l.lookup x
   | _,_=>dNo) else dNo
  | _=>dNo)
 | _=>dNo
def zvE(c:Kx):Nat->Expr->DE
 | 0,_=>dNo
 | n+1,ex=>match ex with
  | .Call f as kw cpos=>(match kw with
   | []=>(match f with
    | .Name w _=>(match as with
     | [a,b]=>zvI S T c w a b
     | _=>dNo)
    | _=>dNo)
   | _=>dNo)
  | .Constant k _ _=>xCn k
  | .Name x _=>(match aa8 x c.N with
   | some i=>if aO0 c.sc x then A1 i else dNo
   | none=>dNo)
  | .Tuple es _ _=>if es.length<=1000 then D4 (evA (zvE c n) es) else dNo
  | .List es _=>if es.length<=1000 then P0 (evA (zvE c n) es) else dNo
  | .UnaryOp op a _=>(match op with
   | .USub=>at7 (zvE c n a)
   | .Not=>aq3 (zvE c n a)
   | _=>dNo)
  | .BinOp a op b _=>(match op with
   | .Add=>A4 C0 (zvE c n a) (zvE c n b)
   | _=>dNo)
  | .Compare a ops bs _=>(match ops,bs with
   | [op],[b]=>if pl b then A4 (bb1 op) (zvE c n a) (zvE c n b) else dNo
   | _,_=>dNo)
  | .BoolOp op vs _=>bm0 (zvE c n) op vs
  | _=>dNo
def zvA(c:Kx) (d:DE) (v:Expr):List Expr->DS
 | [t]=>(match t with
  | .Name x _=>(match aa8 x c.N with
   | some i=>if bl3 c x && !(isC v) then B0 i d else K0
   | none=>K0)
  | _=>K0)
 | _=>K0
def hvE(c:Kx) (ex:Expr):DE:=zvE ⟨[],[],S.bl⟩ T c 9 ex
def hvS(c:Kx) (st:Stmt):DS:=match st with
 | .Assign ts v _=>zvA c (hvE S T c v) v ts
 | .Return o _=>(match o with
  | some e=>A9 (hvE S T c e)
  | none=>K0)
 | _=>K0
def ar2(l:List Str) (r:RD):RD:=fun ρ=>match r ρ with
 | some (x,ρ1)=>if l.contains x then some (x,ρ1) else none
 | none=>none
def hnd:ExceptHandler->Option (Str×Option Str×Stmt×List Stmt)
 | .ExceptHandler t nm su _=>(match t with
  | some e=>(match e with
   | .Name y _=>(match su with
    | b0::suite=>some (y,nm,b0,suite)
    | []=>none)
   | _=>none)
  | none=>none)
def hc1(c:Kx) (h:ExceptHandler):Option (List Str×List Str×DS):=match hnd h with
 | some (y,none,b0,suite)=>(match T.sb.lookup y,T.nb.lookup y with
  | some l,some nl=>if ax9 c.sc y then some (l,nl,evB (hvS S T c) (b0::suite)) else none
  | _,_=>none)
 | _=>none
def hcL(c:Kx):List ExceptHandler->Option (List (List Str×List Str×DS))
 | []=>some []
 | h::hs=>(hc1 S T c h).bind fun x=>(hcL c hs).map fun r=>x::r
def tvA(c:Kx) (body:List Stmt) (h:ExceptHandler):DS:=match hnd h with
 | some (y,some n,b0,suite)=>(match T.sb.lookup y,aa8 n c.N with
  | some l,some i=>if ax9 c.sc y&&c.sc.names.lookup n==some .local then aO5 (ar2 l (rvB S T false c body)) (evB (xvS S T c) body) i (evB (hvS S T c) (b0::suite)) else K0
  | _,_=>K0)
 | _=>K0
def tvH(c:Kx) (body:List Stmt):List ExceptHandler->DS
 | []=>K0
 | h0::hs=>(match hs with
  | []=>tvA S T c body h0
  | _=>K0)
def tvS(c:Kx) (st:Stmt):DS:=match st with
 | .Try body hs oe fi _=>(match oe,fi with
  | [],[]=>tvH S T c body hs
  | _,_=>K0)
 | _=>xS S (ev S 99) c st
def rdT(tab:Tab) (cs:List (Str×D)) (bl:List Str) (T:Rg) (d:Fd):FnD:=J8 (evB (tvS ⟨tab,cs,bl⟩ T d.c) (R6 d.st)) d.N.length
def rdR(tab:Tab) (cs:List (Str×D)) (bl:List Str) (T:Rg) (d:Fd):List D->Option Str:=bJ3 (rvB ⟨tab,cs,bl⟩ T true d.c (R6 d.st)) d.N.length
end
section
variable {S:Sg}{T:Rg}{c:Kx}{X:Cx}
theorem ci0(F:Fit S c X) (e:Expr):JE X e (fsP S c e):=by
 unfold fsP
 split
 ·split
  ·rename_i h
   simp only[beq_iff_eq]at h
   subst h
   split
   ·exact cq9 ((u7 S 99).e F _)
   ·exact K6
  ·exact K6
 ·exact aV5 _ _ _
 ·exact K6
theorem bf8(F:Fit S c X):∀es:List Expr,JEs X es (es.map (fsP S c))
 | []=>.nil
 | e::es=>.cons (ci0 F e) (bf8 F es)
theorem cc1(F:Fit S c X) (e:Expr):JE X e (msE S c e):=by
 unfold msE
 split
 ·exact cr2 (bf8 F _)
 ·exact(u7 S 99).e F e
theorem bV5(F:FitR S T c X) (e:Expr):JE X e (xvE S T c e):=(u7 S 99).e F.fit e
theorem bV4(F:FitR S T c X) (st:Stmt):JS X st (xvS S T c st):=by
 unfold xvS
 split
 ·split
  ·exact aY7 (bV5 F _)
  ·exact G9
 ·exact bd1 (u7 S 99) F.fit st
theorem aO8{m:Bool}{e:Expr}:PX X m e rNo:=fun ρ x ρ1 C q=>by cases q
theorem aX1{m:Bool}(F:FitR S T c X) (e:Expr):PX X m e (rvE S T c e):=by
 unfold rvE
 split
 ·rename_i f as kw pos
  split
  ·rename_i a args
   unfold rvN
   split
   ·rename_i x p
    split
    ·rename_i R n hl
     split
     ·rename_i h
      simp only[Bool.and_eq_true,beq_iff_eq]at h
      obtain⟨⟨hg,hn⟩,hp⟩:=h
      obtain⟨g1,g2⟩:=aa9 F.fit hg
      obtain⟨k,f,fd,ps,hk,hr,hm,hkp,hb⟩:=F.rfs _ _ _ hl
      simp only[List.all_cons,Bool.and_eq_true]at hp
      exact bJ7 F.fit.hx hk hr g1 hm hkp hb (am4 ((u7 S 99).e F.fit) (a::args)) hn g2 (P7 hp.1 _ _) ((ao4 pos _).trans (aa5 pos _ hp.2))
     ·exact aO8
    ·exact aO8
   ·exact aO8
  ·exact aO8
 ·exact aO8
theorem aw3{m:Bool}{f:Stmt->RD}(F:FitR S T c X) (h:∀st,JR X m st (f st)):∀sts,JRs X m sts (rvL S f c sts)
 | []=>cf0
 | [s]=>bO7 (h s)
 | s::t::r=>by6 F.fit.hx (h s) (bd1 (u7 S 99) F.fit s) (aw3 F h (t::r))
theorem bY2(F:FitR S T c X) (mk:Bool) (a b:Option Expr) (pos:Pos):JR X mk (.Raise a b pos) (rvR S T mk c a b):=by
 unfold rvR
 split
 ·split
  ·split
   ·rename_i x p
    split
    ·split
     ·rename_i h
      simp only[Bool.and_eq_true]at h
      obtain⟨⟨⟨rfl,hc⟩,hg⟩,hp⟩:=h
      obtain⟨g1,g2⟩:=aa9 F.fit hg
      exact by7 F.fit.hx (F.cls x hc) g1 (fun C=>F.ns x C) F.fit.calm (cc1 F.fit _) g2 (P7 hp [] _)
     ·exact k8
    ·exact k8
   ·exact k8
  ·exact k8
 ·exact k8
theorem aI3(F:FitR S T c X) (mk:Bool) (hlo:mk=true->bS6 X):∀(n:Nat) (st:Stmt),JR X mk st (rvS S T mk n c st)
 | 0,st=>k8
 | n+1,st=>by
  cases st
  case Raise=>exact bY2 F mk _ _ _
  case If=>exact cq6 F.fit.hx ((u7 S 99).t F.fit _) (aw3 F (aI3 F mk hlo n) _) (aw3 F (aI3 F mk hlo n) _)
  case For tg it a o p =>
   cases o
   ·unfold rvS
    dsimp only
    split
    ·rename_i h
     simp only[Bool.and_eq_true]at h
     obtain⟨rfl,hp⟩:=h
     exact cf3 F.fit.hx (hlo rfl) (bz1 (u7 S 99) F.fit _ _) ((u7 S 99).g F.fit _) ((u7 S 99).b F.fit _) (aw3 F (aI3 F true hlo n) _) F.fit.calm (aJ2 hp _)
    ·exact k8
   ·exact k8
  case Expr e p =>
   cases e
   case Call=>exact bO8 (aX1 F _) rfl
   all_goals exact k8
  case Return o p =>
   cases o
   ·exact k8
   ·exact cf2 (aX1 F _)
  case Assign ts v p =>
   unfold rvS rvA
   dsimp only
   split
   ·split
    ·cases v
     case Call=>exact cf1 (aX1 F _) rfl
     all_goals exact k8
    ·exact k8
   ·exact k8
  all_goals exact k8
theorem bt6(F:FitR S T c X) (mk:Bool) (hlo:mk=true->bS6 X) (sts:List Stmt):JRs X mk sts (rvB S T mk c sts):=aw3 F (aI3 F mk hlo 9) sts
abbrev Cx.quiet(X:Cx):Cx:={ X with calm:=true }
abbrev ct2(T:Rg) (X:Cx):Prop:=(∀x C,clA X.K x=some C->X.mg x=some (.ref C))/\∀y l,T.tb.lookup y=some l->(∃D,clA X.K y=some D/\ao6 X.K (.ref D) fun x=>l.lookup x)\/(y = "ValueError" /\ X.mg y=none/\ao6 X.K (.type "ValueError") fun x=>l.lookup x)
theorem bV2(F:Fit S c (Cx.quiet X)) (tb:ct2 T X) (w:Str) (a b:Expr) (p pos:Pos):JE X (.Call (.Name w p) [a,b] [] pos) (zvI S T c w a b):=by
 unfold zvI
 split
 ·split
  ·rename_i x p1 y p2
   split
   ·rename_i h
    simp only[Bool.and_eq_true]at h
    obtain⟨rfl,h1,h2⟩:=Q0 F h.1.1
    obtain⟨v1,v2,v3⟩:=af5 F h.1.2
    obtain⟨g1,g2⟩:=aa9 F h.2
    split
    ·rename_i i l hi hl
     rcases tb.2 y l hl with⟨D,hD,ok⟩|⟨rfl,hm,ok⟩
     ·exact bA0 (X:=X) (v:=.ref D) h1 h2 (F.slot hi) v1 v2 v3 (bL2 g1 (tb.1 y D hD) g2) rfl (fun u r=>r) ok
     ·exact bA0 (X:=X) (v:=.ty "ValueError") h1 h2 (F.slot hi) v1 v2 v3 (be3 (v:=.ty "ValueError") g1 hm (by decide +kernel) rfl (by decide) g2) rfl (fun u r=>r) ok
    ·exact K6
   ·exact K6
  ·exact K6
 ·exact K6
theorem bq9(F:Fit S c (Cx.quiet X)) (tb:ct2 T X):∀(n:Nat) (ex:Expr),JE X ex (zvE S T c n ex)
 | 0,ex=>K6
 | n+1,ex=>by
  have hu:X.A.units+64 < cLine:=F.units
  have R:=bq9 F tb n
  cases ex
  case Call f as kw cpos =>
   cases kw
   ·cases f
    case Name w p =>
     unfold zvE
     dsimp only
     split
     ·exact bV2 F tb _ _ _ _ _
     ·exact K6
    all_goals exact K6
   ·exact K6
  case Constant=>exact aV5 _ _ _
  case Name x p =>
   unfold zvE
   dsimp only
   split
   ·rename_i i hi
    split
    ·rename_i v;obtain⟨h1,h2,h3⟩:=af5 F v;exact bz4 (X:=X) i (F.slot hi) h1 h2 h3
    ·exact K6
   ·exact K6
  case Tuple es _ _ =>
   unfold zvE
   dsimp only
   split
   ·rename_i h;exact bz6 (am4 R _) h
   ·exact K6
  case List es _ =>
   unfold zvE
   dsimp only
   split
   ·rename_i h;exact am3 (bz0 (am4 R _) h)
   ·exact K6
  case UnaryOp op a p =>
   cases op
   case USub=>exact aY9 (R _)
   case Not=>exact bz8 (R _)
   all_goals exact K6
  case BinOp a op b p =>
   cases op
   case Add=>exact o6 be8 (R _) (R _)
   all_goals exact K6
  case Compare a ops bs p =>
   unfold zvE
   dsimp only
   split
   ·split
    ·rename_i h;exact bA3 (af8 hu _) (R _) (R _) (al6 h _)
    ·exact K6
   ·exact K6
  case BoolOp=>exact au7 R _ _ _
  all_goals exact K6
theorem bV3(F:Fit S c (Cx.quiet X)) {d:DE}{v:Expr}(h:JE X v d) (ts:List Expr) (pos:Pos):JS X (.Assign ts v pos) (zvA c d v ts):=by
 have nd:X.N.Nodup:=by have:X.N=c.N:=F.N;rw[this];exact F.nd
 unfold zvA
 split
 ·split
  ·split
   ·rename_i i hi
    split
    ·rename_i hc
     simp only[Bool.and_eq_true,Bool.not_eq_true']at hc
     obtain⟨l1,l2⟩:=aJ8 F hc.1
     exact aY6 (X:=X) i nd h (F.slot hi) l1 (al8 hc.2 _ _ _) l2
    ·exact G9
   ·exact G9
  ·exact G9
 ·exact G9
theorem FitR.hf(F:FitR S T c X) (a:Addr):Fit ⟨[],[],S.bl⟩ c (Cx.quiet (Cx.held X (.ref a))) :=
 ⟨F.fit.N,F.fit.sc,F.fit.nd,rfl,F.fit.xe,F.fit.units,F.fit.df,(fun x F n h=>nomatch h),(fun x d h=>nomatch h),F.fit.bls⟩
theorem bB7(F:FitR S T c X) (a:Addr) (ex:Expr):JE (Cx.held X (.ref a)) ex (hvE S T c ex):=bq9 (F.hf a) ⟨F.ns,F.tbs⟩ 9 ex
theorem ch7(F:FitR S T c X) (a:Addr) (st:Stmt):JS (Cx.held X (.ref a)) st (hvS S T c st):=by
 unfold hvS
 split
 ·exact bV3 (F.hf a) (bB7 F a _) _ _
 ·split
  ·exact aY7 (bB7 F a _)
  ·exact G9
 ·exact G9
theorem bM0{m:Bool}{sts:List Stmt}{r:RD}{l:List Str}(h:JRs X m sts r):JRs X m sts (ar2 l r):=fun ρ x ρ1 C q=>by
 unfold ar2 at q
 split at q
 ·rename_i x' ρ' e
  split at q
  ·cases q;exact h ρ x ρ1 C e
  ·cases q
 ·cases q
theorem bM1{r:RD}{l:List Str}{ρ ρ1:Rho}{x:Str}(h:ar2 l r ρ=some (x,ρ1)):x∈l:=by
 unfold ar2 at h
 split at h
 ·split at h
  ·rename_i c;cases h;exact List.contains_iff_mem.mp c
  ·cases h
 ·cases h
theorem ch8{h:ExceptHandler}{y:Str}{nm:Option Str}{b0:Stmt}{suite:List Stmt}(e:hnd h=some (y,nm,b0,suite)):∃np hp,h=.ExceptHandler (some (.Name y np)) nm (b0::suite) hp:=by
 unfold hnd at e
 split at e
 split at e
 ·split at e
  ·split at e
   ·cases e;exact⟨_,_,rfl⟩
   ·cases e
  ·cases e
 ·cases e
theorem bX2(F:FitR S T c X) (hex:X.ex=[]) (hst:X.stack=X.env::X.outer) (hfr:X.env.frame=some X.env.locals) (body:List Stmt) (h:ExceptHandler) (pos:Pos):JS X (.Try body [h] [] [] pos) (tvA S T c body h):=by
 unfold tvA
 split
 ·rename_i y n b0 suite e
  obtain⟨np,hp,rfl⟩:=ch8 e
  split
  ·rename_i l i hl hi
   split
   ·rename_i h
    simp only[Bool.and_eq_true,beq_iff_eq]at h
    obtain⟨g1,g2⟩:=aa9 F.fit h.1
    obtain⟨c1,c2⟩:=F.sbs y l hl
    exact bO2 F.fit.hx hex hst hfr (ay3 (bV4 F) body) (bM0 (bt6 F false (fun z=>by cases z) body)) g1 (fun D hD=>F.ns y D hD) g2 c1 (fun ρ x ρ1 e=>c2 x (bM1 e)) (by rw[F.fit.N];exact F.fit.nd) (F.fit.slot hi) (by rw[F.fit.sc];exact h.2) fun a=>ay3 (ch7 F a) (b0::suite)
   ·exact G9
  ·exact G9
 ·exact G9
theorem bX1(F:FitR S T c X) (hex:X.ex=[]) (hst:X.stack=X.env::X.outer) (hfr:X.env.frame=some X.env.locals) (st:Stmt):JS X st (tvS S T c st):=by
 unfold tvS
 split
 ·split
  ·unfold tvH
   split
   ·exact G9
   ·split
    ·exact bX2 F hex hst hfr _ _ _
    ·exact G9
  ·exact G9
 ·exact bd1 (u7 S 99) F.fit st
end
section
variable {P:Program}{w:World}{K:PySem.W.Frag}{mg:Str->Option Value}{base:Heap}{cs:List (Str×D)}{bl:List Str}
def TRk(P:Program) (w:World) (K:PySem.W.Frag) (mg:Str->Option Value) (base:Heap) (k:Nat) (rt:bb7):Prop:=∀x R n,rt.lookup x=some (R,n)->∃(f:Addr) (fd:FuncData) (ps:List Str),
 FnOk P w K mg base (CX1 P w) k f fd ps (spR K n R)/\mg x=some (.ref f)/\PySem.W.keepIn K (.ref f)=true/\T6 K fd ps []
theorem TRk.nil:TRk P w K mg base 0 []:=fun x R n h=>by cases h
theorem TRk.mono{j k:Nat}{rt:bb7}(T:TRk P w K mg base j rt) (h:j<=k):TRk P w K mg base k rt:=fun x R n e =>
 let⟨f,fd,ps,h1,h2,h3,h4⟩:=T x R n e
 ⟨f,fd,ps,h1.mono h,h2,h3,h4⟩
theorem TRk.cons{k:Nat}{rt:bb7}{x:Str}{R:List D->Option Str}{n:Nat}(T:TRk P w K mg base k rt) (h:∃(f:Addr) (fd:FuncData) (ps:List Str),FnOk P w K mg base (CX1 P w) k f fd ps (spR K n R)/\mg x=some (.ref f)/\PySem.W.keepIn K (.ref f)=true/\T6 K fd ps []) :
  TRk P w K mg base k ((x,R,n)::rt):=fun y G m e=>by
 rw[List.lookup_cons]at e
 split at e
 ·rename_i q
  cases e
  simp only[beq_iff_eq]at q
  subst q
  exact h
 ·exact T y G m e
structure Cl (K:PySem.W.Frag) (mg:Str->Option Value) (T:Rg):Prop where
 cls:∀x,T.cl.contains x=true->y8 K x=true
 tbs:∀y l,T.tb.lookup y=some l->(∃D,clA K y=some D/\ao6 K (.ref D) fun x=>l.lookup x)\/(y = "ValueError" /\ mg y=none/\ao6 K (.type "ValueError") fun x=>l.lookup x)
 sbs:∀y l,T.sb.lookup y=some l->y8 K y=true/\∀x∈l,y8 K x=true/\bt0 K x y=true
 nbs:∀y l,T.nb.lookup y=some l->∀x∈l,y8 K x=true/\bX8 K x y=true
theorem bF8{x:Str}{C:Addr}(M:Md K mg cs bl) (h:clA K x=some C):mg x=some (.ref C):=by
 unfold clA at h
 split at h
 ·rename_i C' e;cases h;exact M.ns _ _ e
 ·cases h
def TXk(P:Program) (w:World) (K:PySem.W.Frag) (mg:Str->Option Value) (base:Heap) (k:Nat) (xt:bG8):Prop:=∀x F,xt.lookup x=some F->∃(f:Addr) (fd:FuncData) (ps:List Str),
 FnQ P w K mg base k f fd ps (spX K F)/\mg x=some (.ref f)/\PySem.W.keepIn K (.ref f)=true/\T6 K fd ps []
theorem TXk.nil:TXk P w K mg base 0 []:=fun x R h=>by cases h
theorem TXk.mono{j k:Nat}{xt:bG8}(T:TXk P w K mg base j xt) (h:j<=k):TXk P w K mg base k xt:=fun x F e =>
 let⟨f,fd,ps,h1,h2,h3,h4⟩:=T x F e
 ⟨f,fd,ps,h1.mono h,h2,h3,h4⟩
theorem ci3{k:Nat}{tab:Tab}{T:Rg}{d:Fd}{f:Addr}{fd:FuncData}(M:Md K mg cs bl) (Tk:TOk P w K mg base k tab) (Rk:TRk P w K mg base k T.rf) (Xk:TXk P w K mg base k T.xf) (Ck:Cl K mg T) (ok:d.okB=true) (Fn:Fun K d.x d.x d.st f fd):FnOk P w K mg base (CX1 P w) (k+1) f fd d.ps (spR K d.ps.length (rdR tab cs bl T d)):=by
 have Sc:=Fd.sc ok
 refine bD1 (N:=d.N) Fn Sc fun cdv A outer s H E hr=>bt6 (c:=d.c) ⟨?_,fun x C h=>bF8 M h,fun x R n h=>?_,Ck.cls,Ck.tbs,Ck.sbs,Ck.nbs,fun x F h=>?_⟩ true (fun _=>cc5) _
 ·refine⟨rfl,rfl,Sc.nd,rfl,rfl,hr.units,fun _=>⟨fun _=>rfl,Sc.kind⟩,fun x F n h=>?_,M.css,M.bls⟩
  exact(Tk x F n h).imp (fun⟨f',fd',ps,h1,h2,h3,h4⟩=>⟨k,f',fd',ps,h1,hr,h2,h3,h4⟩) id
 ·obtain⟨f',fd',ps,h1,h2,h3,h4⟩:=Rk x R n h
  exact⟨k,f',fd',ps,h1,hr,h2,h3,h4⟩
 ·obtain⟨f',fd',ps,h1,h2,h3,h4⟩:=Xk x F h
  exact⟨k,f',fd',ps,h1,⟨hr.dp,hr.un⟩,h2,h3,h4⟩
theorem ci2{k:Nat}{tab:Tab}{T:Rg}{d:Fd}{f:Addr}{fd:FuncData}(M:Md K mg cs bl) (Tk:TOk P w K mg base k tab) (Rk:TRk P w K mg base k T.rf) (Xk:TXk P w K mg base k T.xf) (Ck:Cl K mg T) (ok:d.okB=true) (Fn:Fun K d.x d.x d.st f fd):FnOk P w K mg base CX0 (k+1) f fd d.ps (spF K d.ps.length (rdT tab cs bl T d)):=by
 have Sc:=Fd.sc ok
 refine bg7 (N:=d.N) Fn Sc fun cdv A outer s H E hr=>ay3 (fun st=>bX1 (c:=d.c) ⟨?_,fun x C h=>bF8 M h,fun x R n h=>?_,Ck.cls,Ck.tbs,Ck.sbs,Ck.nbs,fun x F h=>?_⟩ rfl rfl rfl st) _
 ·refine⟨rfl,rfl,Sc.nd,rfl,rfl,hr.units,fun _=>⟨fun _=>rfl,Sc.kind⟩,fun x F n h=>?_,M.css,M.bls⟩
  exact(Tk x F n h).imp (fun⟨f',fd',ps,h1,h2,h3,h4⟩=>⟨k,f',fd',ps,h1,hr,h2,h3,h4⟩) id
 ·obtain⟨f',fd',ps,h1,h2,h3,h4⟩:=Rk x R n h
  exact⟨k,f',fd',ps,h1,hr,h2,h3,h4⟩
 ·obtain⟨f',fd',ps,h1,h2,h3,h4⟩:=Xk x F h
  exact⟨k,f',fd',ps,h1,⟨hr.dp,hr.un⟩,h2,h3,h4⟩
end
def bQ4(K:PySem.W.Frag) (cv:Value) (p:Str×Bool):Bool:=match clA K p.1 with
 | some C=>xcB K C&&PySem.W.excIn K C veB "ValueError.__new__" && PySem.W.kitOne K (.ref C) cv==some p.2
 | none=>false
def clB(K:PySem.W.Frag) (cl:List Str) (tb:List (Str×List (Str×Bool))) (sb nb:List (Str×List Str)):Bool :=
 cl.all (y8 K)&&tb.all (fun p=>match clA K p.1 with
  | some D=>p.2.all (bQ4 K (.ref D))
  | none=>p.1 == "ValueError" && p.2.all (bQ4 K (.type "ValueError")))&&(sb.all fun p=>y8 K p.1&&p.2.all fun x=>y8 K x&&bt0 K x p.1)&&nb.all fun p=>p.2.all fun x=>y8 K x&&bX8 K x p.1
theorem Z4{α:Type}{x:Str}{a:α}:∀{l:List (Str×α)},l.lookup x=some a->(x,a)∈l
 | [],h=>by cases h
 | (y,b)::l,h=>by
  rw[List.lookup_cons]at h
  split at h
  ·rename_i q
   simp only[beq_iff_eq]at q
   cases h;subst q;exact List.mem_cons_self ..
  ·exact xmm _ (Z4 h)
theorem bA8{K:PySem.W.Frag}{cv:Value}{l:List (Str×Bool)}(h:l.all (bQ4 K cv)=true):ao6 K cv fun x=>l.lookup x:=fun x b e=>by
 have:=List.all_eq_true.mp h _ (Z4 e)
 unfold bQ4 at this
 split at this
 ·rename_i C hC
  simp only[Bool.and_eq_true,beq_iff_eq]at this
  exact⟨C,hC,this.1.1,this.1.2,this.2⟩
 ·cases this
section
variable {P:Program}{w:World}{K:PySem.W.Frag}{mg:Str->Option Value}{base:Heap}{cs:List (Str×D)}{bl:List Str}
theorem Cl.of{T:Rg}(M:Md K mg cs bl) (hv:bl.contains "ValueError" = true) (h:clB K T.cl T.tb T.sb T.nb=true):Cl K mg T:=by
 simp only[clB,Bool.and_eq_true]at h
 obtain⟨⟨⟨h1,h2⟩,h3⟩,h4⟩:=h
 refine⟨fun x hx=>List.all_eq_true.mp h1 x (List.contains_iff_mem.mp hx),fun y l e=>?_,fun y l e=>?_,fun y l e=>?_⟩
 ·have:=List.all_eq_true.mp h2 _ (Z4 e)
  dsimp only at this
  split at this
  ·rename_i D hD;exact .inl ⟨D,hD,bA8 this⟩
  ·simp only[Bool.and_eq_true,beq_iff_eq]at this
   exact .inr ⟨this.1,by rw[this.1];exact M.bls _ hv,bA8 this.2⟩
 ·have:=List.all_eq_true.mp h3 _ (Z4 e)
  simp only[Bool.and_eq_true,List.all_eq_true]at this
  exact this
 ·have:=List.all_eq_true.mp h4 _ (Z4 e)
  simp only[Bool.and_eq_true,List.all_eq_true]at this
  exact this
theorem TRk.add{k:Nat}{tab:Tab}{T:Rg}(Rk:TRk P w K mg base k T.rf) (Tk:TOk P w K mg base k tab) (Xk:TXk P w K mg base k T.xf) (M:Md K mg cs bl) (Ck:Cl K mg T) (d:Fd) (h:KF K d.x d.st) (R:List D->Option Str) (e:rdR tab cs bl T d=R:=by kernel_rfl) (ok:d.okB=true:=by kernel_rfl) (bd:Bd d:=by repeat (first|exact rfl|intro _)):TRk P w K mg base (k+1) ((d.x,R,d.ps.length)::T.rf):=by
 subst e
 obtain⟨f,kV,dc,pm,an,cd,ct,Fn,hm⟩:=o5 h M
 exact(Rk.mono (Nat.le_succ k)).cons ⟨f,_,d.ps,ci3 M Tk Rk Xk Ck ok Fn,hm,Fn.kp,.all (ua (bd kV dc pm an cd ct))⟩
theorem TOk.addT{k:Nat}{tab:Tab}{T:Rg}(Tk:TOk P w K mg base k tab) (Rk:TRk P w K mg base k T.rf) (Xk:TXk P w K mg base k T.xf) (M:Md K mg cs bl) (Ck:Cl K mg T) (d:Fd) (h:KF K d.x d.st) (F:FnD) (e:rdT tab cs bl T d=F:=by kernel_rfl) (ok:d.okB=true:=by kernel_rfl) (bd:Bd d:=by repeat (first|exact rfl|intro _)):TOk P w K mg base (k+1) ((d.x,F,d.ps.length)::tab):=by
 subst e
 obtain⟨f,kV,dc,pm,an,cd,ct,Fn,hm⟩:=o5 h M
 exact(Tk.mono (Nat.le_succ k)).cons ⟨f,_,d.ps,ci2 M Tk Rk Xk Ck ok Fn,hm,Fn.kp,.all (ua (bd kV dc pm an cd ct))⟩
end
end G
namespace Lk40
open PySem PySem.Spec PyProof.Rows L2 G Sh
def top(i:Nat):Stmt:=PySem.Challenge.pw_glazework_k40_needless.main.body.getD i (.Pass ⟨0,0,0,0⟩)
def W7:List D->Option Str:=bJ3 (bj8 rNo (B0 2 (A3 h9 (A0 (A1 0) A2))) (bj8 (bJ5 (L7 (A1 1)) (B1 3) (sIf (tB2 (inD true) (A1 3) (A1 2)) K0 G7) (rIf (tB2 (inD true) (A1 3) (A1 2)) (ae1 "NoName" (at8 Str.empty [dC (.str "no node has the name "),dRp (A1 3)])) rNo)) (P9 (L7 (A1 1)) (B1 3) (sIf (tB2 (inD true) (A1 3) (A1 2)) K0 G7)) rNo)) 4
def ac3:DS:=(A9 (P0 (G8 1 [1,0] (O1 (A4 L6 (dIx (A5 0) ⇑0) (dIx (A5 0) ⇑1))) (B1 0) K3 (A3 (V4 12) (A0 (A1 1) (A0 (A4 Y1 (A1 0) (dIx (A5 2) ⇑0)) (A0 (A4 ac7 (A1 0) (dIx (A5 2) ⇑0)) A2)))))))
def S0:List D->Option D:=J8 ac3 2
def bi2(self:List D->Option D):DS:=(A6 (B0 2 (P0 A2)) (A6 (B0 3 (dC (.bool true))) (A6 (P9 (L7 (bh0 (A1 1))) (B1 4) (A6 (B0 5 (ab0 (tB2 neD (dIx (A5 4) ⇑0) (dC (.str "tone"))) (A3 S0 (A0 (A1 0) (A0 (A1 4) A2))) (P0 A2))) (A6 (B0 6 (T8 (A4 neD (A1 5) (P0 A2)) (A4 eqD (P0 (G8 1 [] (L7 (A1 5)) (B1 0) (tB2 neD (A1 0) (A4 L6 (D4 (A0 (D4 (A0 ⇑0 (A0 ⇑1 A2))) A2)) ⇑4)) (A1 0))) (P0 A2)))) (sIf (P8 (M5 (M1 (A1 3))) (P8 (M5 (M1 (dIx (A5 4) ⇑4))) (P8 (tB2 eqD (dIx (A5 4) ⇑3) (D4 (A0 ⇑0 (A0 ⇑1 A2)))) (M1 (A1 6))))) (B0 2 (A4 C0 (P0 (A0 (dIx (A5 4) ⇑1) A2)) (A1 2))) (A6 (sIf (tB2 eqD (dIx (A5 4) ⇑0) (dC (.str "group"))) (B0 2 (A4 C0 (A3 self (A0 (A1 0) (A0 (dIx (A5 4) ⇑5) A2))) (A1 2))) G7) (sIf (U0 (tB2 eqD (dIx (A5 4) ⇑2) (dC (.str "over"))) (tB2 eqD (P0 (G8 1 [] (L7 (A1 5)) (B1 0) (tB2 neD (dIx (A5 0) ⇑0) (D4 (A0 ⇑1 (A0 ⇑1 A2)))) (A1 0))) (P0 A2))) (B0 3 (dC (.bool false))) G7)))))) (A9 (A1 2)))))
def S6:Nat->List D->Option D
 | 0=>fun _=>none
 | k+1=>J8 (bi2 (S6 k)) 7
def as0:DS:=(A6 (aO5 (ar2 ["NoName"] (aD7 W7 (A0 (A1 0) (A0 (A1 1) A2)))) K0 2 (A6 (B0 3 (P0 (A0 (ba7 2 fun x=>([("NoName", true)]:List (Str×Bool)).lookup x) (A0 (ba7 2 fun x=>([("NoName", false)]:List (Str×Bool)).lookup x) (A0 (ba7 2 fun x=>([("NoName", false)]:List (Str×Bool)).lookup x) A2))))) (A9 (T8 (ba7 2 fun x=>([("NoName", true)]:List (Str×Bool)).lookup x) (A4 eqD (A1 3) (P0 (A0 (dC (.bool true)) (A0 (dC (.bool false)) (A0 (dC (.bool false)) A2))))))))) (A9 (dC (.bool false))))
def n5:List D->Option D:=J8 as0 4
def aU8(self:List D->Option D):DS:=(A6 (U1 2 A2) (A6 (P9 (L7 (A1 0)) (B1 3) (sIf (U0 (tB2 (inD true) (dIx (A5 3) ⇑1) (A1 1)) (tB2 eqD (dIx (A5 3) ⇑0) (dC (.str "group")))) (O9 2 (A4 C0 (u8 (A1 3) N6 (L4 ⇑5)) (D4 (A0 (A3 self (A0 (dIx (A5 3) ⇑5) (A0 (A1 1) A2))) A2)))) (sIf (tB2 (inD true) (dIx (A5 3) ⇑1) (A1 1)) (O9 2 (A1 3)) G7))) (A9 (O0 (A5 2)))))
def W3:Nat->List D->Option D
 | 0=>fun _=>none
 | k+1=>J8 (aU8 (W3 k)) 4
def ak3:DS:=(B0 0 (D4 (A0 ⇑1 (A0 ⇑1 (A0 (D4 (A0 (D4 (A0 (D4 (A0 ⇑1 (A0 ⇑1 A2))) (A0 (D4 (A0 ⇑1 (A0 ⇑1 A2))) (A0 (D4 (A0 ⇑0 (A0 ⇑1 A2))) (A0 (D4 (A0 ⇑0 (A0 ⇑1 A2))) A2))))) A2)) A2)))))
def ak2:DS:=(B0 1 (D4 (A0 (dC (.str "layer")) (A0 (dC (.str "a")) (A0 (dC (.str "over")) (A0 (D4 (A0 ⇑1 (A0 ⇑1 A2))) (A0 (dC (.bool true)) (A0 ⇑0 (A0 ⇑0 (A0 (dC .none) (A0 (A1 0) A2)))))))))))
def ak1:DS:=(U1 2 (G8 1 [] (L7 (D4 (A0 (D4 (A0 ⇑0 (A0 ⇑1 A2))) (A0 (D4 (A0 ⇑1 (A0 ⇑1 A2))) A2)))) (B1 0) K3 (D4 (A0 (dC (.str "tone")) (A0 (dC (.str "b")) (A0 (dC (.str "grey")) (A0 (A1 0) (A0 (dC (.bool true)) A2))))))))
def ak0:DS:=(O9 2 (D4 (A0 (dC (.str "group")) (A0 (dC (.str "b")) (A0 (dC (.str "over")) (A0 (D4 (A0 ⇑1 (A0 ⇑1 A2))) (A0 (dC (.bool true)) (A0 (D4 A2) A2))))))))
def aj9:DS:=(P9 (L7 (D4 (A0 (D4 (A0 ⇑0 (A0 ⇑1 A2))) (A0 (D4 (A0 ⇑1 (A0 ⇑2 A2))) (A0 (D4 (A0 ⇑1 (A0 ⇑1 A2))) A2))))) (B1 3) (P9 (L7 (D4 (A0 (dC (.bool true)) (A0 (dC (.bool false)) A2)))) (B1 4) (U1 2 (aY1 (A5 2) (qN (G8 1 [3,4,0] (L7 (D4 (A0 (dC (.str "over")) (A0 (dC (.str "plus")) A2)))) (B1 0) K3 (D4 (A0 (dC (.str "layer")) (A0 (dC (.str "b")) (A0 (A1 0) (A0 (A1 1) (A0 (A1 2) (A0 ⇑0 (A0 ⇑0 (A0 (dC .none) (A0 (A1 3) A2))))))))))))))))
def j9:DS:=(ag9 2 (P9 (L7 (A1 2)) (B1 5) (A6 (B0 6 (D4 (A0 ⇑1 (A0 ⇑1 (A0 (D4 (A0 (A1 1) (A0 (A1 5) A2))) A2))))) (sIf (tB2 neD (A3 V2 (A0 (A1 6) A2)) (A3 (S6 12) (A0 (A1 6) (A0 (dIx (A5 6) ⇑2) A2)))) (A9 (dC (.bool false))) G7))))
def aj8:DS:=(A9 (dC (.bool true)))
def W0:DS:=(A6 ak3 (A6 ak2 (A6 ak1 (A6 ak0 (A6 aj9 (A6 j9 aj8))))))
def W4:List D->Option D:=J8 W0 7
def aW5:DS:=(B0 1 (A3 ag7 (A0 (A1 0) (A0 ⇑0 (A0 ⇑7 A2)))))
def aW4:DS:=(B0 2 (A3 n8 (A0 (A1 0) (A0 ⇑30 (A0 ⇑4 (A0 (A1 1) A2))))))
def aW3:DS:=(ac5 (A1 2) (M6 3 (C2 (B1 3) (C2 (B1 4) (C2 (B1 5) N4)))))
def aH9:DS:=(sIf (tB2 eqD (A3 A7 (A0 (A1 0) (A0 ⇑27 (A0 ⇑2 A2)))) ⇑0) (A6 (B0 6 (A4 L6 (D4 (A0 (A4 C0 (D4 (A0 (D4 (A0 ⇑1 (A0 ⇑1 A2))) A2)) (u8 (A3 U3 (A0 (A1 0) (A0 ⇑800 A2))) (L4 ⇑1) N6)) A2)) ⇑64)) (A6 (B0 7 (A3 A7 (A0 (A1 0) (A0 ⇑28 (A0 (A4 C0 (V5 (A5 5)) ⇑1) A2))))) (A6 (B0 8 (D4 (A0 (dC (.str "layer")) (A0 (dIx (A5 1) ⇑6) (A0 (dC (.str "over")) (A0 (D4 (A0 ⇑1 (A0 ⇑1 A2))) (A0 (dC (.bool true)) (A0 (at7 ⇑1) (A0 (at7 ⇑1) (A0 (dC .none) (A0 (D4 (A0 ⇑8 (A0 ⇑8 (A0 (A1 6) A2)))) A2))))))))))) (A6 (B0 5 (A4 C0 (A4 C0 (u8 (A1 5) N6 (L4 (A1 7))) (D4 (A0 (A1 8) A2))) (u8 (A1 5) (L4 (A1 7)) N6))) (B0 2 (D4 (A0 (A1 3) (A0 (A1 4) (A0 (A1 5) A2))))))))) G7)
def aH8:DS:=(sIf (M5 (M1 (A3 W4 A2))) (A9 (dC (.bool false))) G7)
def aH7:DS:=(B0 9 (A3 V2 (A0 (A1 2) A2)))
def aH6:DS:=(sIf (P8 (M5 (M1 (Z8 "list" (A1 9)))) (tB2 neD (A1 9) (A3 (S6 12) (A0 (A1 2) (A0 (A1 5) A2))))) (A9 (dC (.bool false))) G7)
def aH5:DS:=(V3 10 (G8 2 [0] (am7 (qE (A3 (U6 12) (A0 (A1 5) A2)))) (M6 2 (C2 (B1 0) (C2 (B1 1) N4))) (tB2 eqD (A3 A7 (A0 (A1 2) (A0 (A4 C0 ⇑820 (A1 0)) (A0 ⇑3 A2)))) ⇑0) (dIx (A5 1) ⇑1)))
def aH4:DS:=(sIf (P8 (tB2 neD (A3 x5 (A0 (A1 2) (A0 (A1 10) A2))) (D4 (A0 (A1 3) (A0 (A1 4) (A0 (A3 (W3 12) (A0 (A1 5) (A0 (A1 10) A2))) A2))))) (tB2 neD (A3 x5 (A0 (A1 2) (A0 (P0 A2) A2))) (A1 2))) (A9 (dC (.bool false))) G7)
def aH3:DS:=(A9 (T8 (A3 n5 (A0 (A1 2) (A0 (A4 C0 (A1 10) (P0 (A0 (A4 C0 (dC (.str "zzzzzz")) (dC (.str "z"))) A2))) A2))) (A3 n5 (A0 (A1 2) (A0 (A4 C0 (P0 (A0 (dC (.str "")) A2)) (A1 10)) A2)))))
def bV1:DS:=(A6 aW5 (A6 aW4 (A6 aW3 (A6 aH9 (A6 aH8 (A6 aH7 (A6 aH6 (A6 aH5 (A6 aH4 aH3)))))))))
def bi3:List D->Option D:=J8 bV1 11
end Lk40
namespace Sh
open PySem G
theorem aB2(i j:Int):neD (.int i) (.int j)=some (.bool (!(i==j))):=rfl
theorem at0(i j:Int):eqD (.int i) (.int j)=some (.bool (i==j)):=rfl
theorem bg0{t:Rho->Option Bool}{f:DS}{n:Nat}{ρ ρ':Rho}(h1:t ρ=some true) (h2:f ρ=some (.nx ρ')):X7 t f (n+1) ρ=X7 t f n ρ':=by simp only[X7,h1,h2,xbs,if_true]
theorem bC5:∀(b a:Nat) (x:Option B),∃n x',X7 (tB2 neD (A1 1) ⇑0) (A6 (B0 2 (A4 Y1 (A1 0) (A1 1))) (A6 (B0 0 (A1 1)) (B0 1 (A1 2)))) n [‹.int a›,‹.int b›,x]
  = some (.nx [‹.int (Nat.gcd a b)›,‹.int 0›,x']):=by
 intro b
 induction b using Nat.strongRecOn with
 | _ b ih =>
  intro a x
  by_cases hb:b=0
  ·subst hb
   refine⟨1,x,?_⟩
   rw[Nat.gcd_zero_right]
   rfl
  ·obtain⟨n,x',h⟩:=ih (a % b) (Nat.mod_lt _ (Nat.pos_of_ne_zero hb)) b (‹.int ((a % b:Nat):Int)›)
   refine⟨n+1,x',?_⟩
   have e1:tB2 neD (A1 1) ⇑0 [‹.int a›,‹.int b›,x]=some true:=by
    show(neD (.int b) (.int 0)).bind N9=some true
    rw[aB2]
    have:((b:Int)==0)=false:=by simp;omega
    rw[this];rfl
   have e2:Y1 (.int a) (.int b)=some (.int ((a % b:Nat):Int)):=by
    show(if(0:Int) < (b:Int) then some (PyData.int ((a:Int) % (b:Int))) else none)=_
    rw[if_pos (by omega)]
    simp
   have e3:A6 (B0 2 (A4 Y1 (A1 0) (A1 1))) (A6 (B0 0 (A1 1)) (B0 1 (A1 2))) [‹.int a›,‹.int b›,x]=some (.nx [‹.int b›,‹.int ((a % b:Nat):Int)›,‹.int ((a % b:Nat):Int)›]):=by
    show((((Y1 (.int a) (.int b))).map fun d=>Fl.nx [‹.int a›,‹.int b›,‹d›]).bind _)=_
    rw[e2]
    rfl
   rw[bg0 e1 e3,h,Nat.gcd_comm b,Nat.gcd_comm a b,← Nat.gcd_rec]
theorem ct5(a b:Nat):T3 [.int a,.int b]=some (.int (Nat.gcd a b)):=by
 obtain⟨n,x',h⟩:=bC5 b a none
 show((aa3 _ _ [‹.int a›,‹.int b›,none]).bind _).bind _=_
 rw[aD4 h]
 rfl
theorem bl0:∀(a b:Nat) (t u:D),∃n,X7 (tB2 gtI (A1 2) ⇑0) (bt5 2 3 (A0 (A4 Y1 (A1 3) (A1 2)) (A0 (A1 2) A2))) n [‹t›,‹u›,‹.int a›,‹.int b›]
  = some (.nx [‹t›,‹u›,‹.int 0›,‹.int (Nat.gcd a b)›]):=by
 intro a
 induction a using Nat.strongRecOn with
 | _ a ih =>
  intro b t u
  by_cases ha:a=0
  ·subst ha
   refine⟨1,?_⟩
   rw[Nat.gcd_zero_left]
   rfl
  ·obtain⟨n,h⟩:=ih (b % a) (Nat.mod_lt _ (Nat.pos_of_ne_zero ha)) a t u
   refine⟨n+1,?_⟩
   have e1:tB2 gtI (A1 2) ⇑0 [‹t›,‹u›,‹.int a›,‹.int b›]=some true:=by
    show some (decide ((0:Int) < (a:Int)))=some true
    rw[decide_eq_true (by omega)]
   have e2:Y1 (.int b) (.int a)=some (.int ((b % a:Nat):Int)):=by
    show(if(0:Int) < (a:Int) then some (PyData.int ((b:Int) % (a:Int))) else none)=_
    rw[if_pos (by omega)]
    simp
   have e3:bt5 2 3 (A0 (A4 Y1 (A1 3) (A1 2)) (A0 (A1 2) A2)) [‹t›,‹u›,‹.int a›,‹.int b›]=some (.nx [‹t›,‹u›,‹.int ((b % a:Nat):Int)›,‹.int a›]):=by
    show((Y1 (.int b) (.int a)).bind fun d=>(some [PyData.int (a:Int)]).map fun ds=>d::ds).bind _=_
    rw[e2]
    rfl
   rw[bg0 e1 e3,h,← Nat.gcd_rec]
def fr(r:Rat):D:=.tuple [.int r.num,.int r.den]
theorem O8{i:Int}{k:Nat}(h:i.natAbs < 2 ^ k) (hk:k<=8000):N0 i:=Nat.lt_of_lt_of_le h (Nat.pow_le_pow_right (by decide) hk)
theorem aQ4(a b:Nat) (hb:0 < b):fr (mkRat a b)=.tuple [.int ((a / Nat.gcd a b:Nat):Int),.int ((b / Nat.gcd a b:Nat):Int)]:=by
 unfold fr
 rw[Rat.num_mkRat,Rat.den_mkRat,if_neg (by omega),if_neg (by omega)]
 have e:b.gcd (a:Int).natAbs=Nat.gcd a b:=by rw[Int.natAbs_natCast,Nat.gcd_comm]
 rw[e]
 simp
theorem bg9(a b x k:Nat) (hb:0 < b) (hk:b < 2 ^ k) (hk8:k<=8000):ac7 (.int x) (.int (Nat.gcd a b))=some (.int ((x / Nat.gcd a b:Nat):Int)):=by
 have g0:0 < Nat.gcd a b:=Nat.gcd_pos_of_pos_right _ hb
 have gs:N0 (Nat.gcd a b:Nat):=O8 (k:=k) (by rw[Int.natAbs_natCast];exact Nat.lt_of_le_of_lt (Nat.le_of_dvd hb (Nat.gcd_dvd_right a b)) hk) hk8
 show(if(0:Int) < ((Nat.gcd a b:Nat):Int)/\N0 (Nat.gcd a b:Nat) then some (PyData.int ((x:Int) / ((Nat.gcd a b:Nat):Int))) else none)=_
 rw[if_pos ⟨by omega,gs⟩]
 simp
theorem aN4(a b k:Nat) (hb:0 < b) (hk:b < 2 ^ k) (hk8:k<=8000):W1 [.int a,.int b]=some (fr (mkRat a b)):=by
 have d:=fun x=>bg9 a b x k hb hk hk8
 have e:Y7 [‹.int a›,‹.int b›,none]=some (.rt (fr (mkRat a b))):=by
  rw[aQ4 a b hb]
  simp only[Y7,A6,B0,A3,A0,A2,A1,xg0,xg1,xbs,xms,ct5,xw1,xw0,A9,D4,A4,d]
 show(Y7 [‹.int a›,‹.int b›,none]).bind _=_
 rw[e];rfl
theorem aA4(a b k:Nat) (hb:0 < b) (hk:b < 2 ^ k) (hk8:k<=8000):U4 [.int a,.int b]=some (fr (mkRat a b)):=by
 have d:=fun x=>bg9 a b x k hb hk hk8
 obtain⟨n,h⟩:=bl0 a b (.int a) (.int b)
 have e:ao8 [‹.int a›,‹.int b›,none,none]=some (.rt (fr (mkRat a b))):=by
  rw[aQ4 a b hb]
  simp only[ao8,A6,B0,A3,A0,A2,A1,xg0,xg1,xbs,xms,xw1,xw0,A9,D4,A4,d,aD4 h]
 show(ao8 [‹.int a›,‹.int b›,none,none]).bind _=_
 rw[e];rfl
structure Bd (k:Nat) (r:Rat):Prop where
 nn:0<=r
 num:r.num.natAbs < 2 ^ k
 den:r.den < 2 ^ k
theorem Bd.mono{j k:Nat}{r:Rat}(h:Bd j r) (l:j<=k):Bd k r:=⟨h.nn,Nat.lt_of_lt_of_le h.num (Nat.pow_le_pow_right (by decide) l),Nat.lt_of_lt_of_le h.den (Nat.pow_le_pow_right (by decide) l)⟩
theorem Bd.nat{k:Nat}{r:Rat}(h:Bd k r):r.num=(r.num.natAbs:Int):=by
 have:=Rat.num_nonneg.mpr h.nn
 omega
theorem bx3(a b:Nat):0<=mkRat (a:Int) b:=by
 rw[← Rat.num_nonneg,Rat.num_mkRat]
 split
 ·exact Int.le_refl _
 ·exact Int.ediv_nonneg (by omega) (by omega)
theorem Bd.of{a b k:Nat}(hb:0 < b) (h1:a < 2 ^ k) (h2:b < 2 ^ k):Bd k (mkRat a b):=by
 refine⟨bx3 a b,?_,?_⟩
 ·rw[Rat.num_mkRat,if_neg (by omega)]
  rw[show((a:Int) / ((b.gcd (a:Int).natAbs:Nat):Int))=((a / b.gcd (a:Int).natAbs:Nat):Int) by simp,Int.natAbs_natCast]
  exact Nat.lt_of_le_of_lt (Nat.div_le_self _ _) h1
 ·rw[Rat.den_mkRat,if_neg (by omega)]
  exact Nat.lt_of_le_of_lt (Nat.div_le_self _ _) h2
theorem O3{a b j k:Nat}(h1:a < 2 ^ j) (h2:b < 2 ^ k):a*b < 2 ^ (j+k):=by
 rw[Nat.pow_add]
 exact Nat.mul_lt_mul'' h1 h2
theorem aI6{j k:Nat}{r s:Rat}(hr:Bd j r) (hs:Bd k s):r*s=mkRat ((r.num.natAbs*s.num.natAbs:Nat):Int) (r.den*s.den):=by rw[Rat.mul_def,Rat.normalize_eq_mkRat,Int.natCast_mul,← hr.nat,← hs.nat]
theorem aI7{j k:Nat}{r s:Rat}(hr:Bd j r) (hs:Bd k s):r+s=mkRat ((r.num.natAbs*s.den+s.num.natAbs*r.den:Nat):Int) (r.den*s.den):=by rw[Rat.add_def,Rat.normalize_eq_mkRat,Int.natCast_add,Int.natCast_mul,Int.natCast_mul,← hr.nat,← hs.nat]
theorem aH2{j k:Nat}{r s:Rat}(hr:Bd j r) (hs:Bd k s) (l:s<=r):s.num.natAbs*r.den<=r.num.natAbs*s.den:=by
 have:=(Rat.le_iff s r).mp l
 rw[hr.nat,hs.nat]at this
 exact_mod_cast this
theorem au3{j k:Nat}{r s:Rat}(hr:Bd j r) (hs:Bd k s) (l:s<=r):r - s=mkRat ((r.num.natAbs*s.den - s.num.natAbs*r.den:Nat):Int) (r.den*s.den):=by rw[Rat.sub_def,Rat.normalize_eq_mkRat,Int.ofNat_sub (aH2 hr hs l),Int.natCast_mul,Int.natCast_mul,← hr.nat,← hs.nat]
theorem N1(r:Rat):0 < r.den:=Nat.pos_of_ne_zero r.den_nz
theorem Bd.mul{j k:Nat}{r s:Rat}(hr:Bd j r) (hs:Bd k s):Bd (j+k) (r*s):=by
 rw[aI6 hr hs]
 exact Bd.of (Nat.mul_pos (N1 r) (N1 s)) (O3 hr.num hs.num) (O3 hr.den hs.den)
theorem Bd.add{j k:Nat}{r s:Rat}(hr:Bd j r) (hs:Bd k s):Bd (j+k+1) (r+s):=by
 rw[aI7 hr hs]
 have h1:=O3 hr.num hs.den
 have h2:=O3 hs.num hr.den
 have h3:=O3 hr.den hs.den
 rw[Nat.add_comm k j]at h2
 exact Bd.of (Nat.mul_pos (N1 r) (N1 s)) (by rw[Nat.pow_succ];omega) (by rw[Nat.pow_succ];omega)
theorem Bd.sub{j k:Nat}{r s:Rat}(hr:Bd j r) (hs:Bd k s) (l:s<=r):Bd (j+k) (r - s):=by
 rw[au3 hr hs l]
 have h1:=O3 hr.num hs.den
 have h3:=O3 hr.den hs.den
 exact Bd.of (Nat.mul_pos (N1 r) (N1 s)) (by omega) (by omega)
theorem Bd.one:Bd 1 1:=⟨by decide,by decide,by decide⟩
theorem Bd.zero:Bd 1 0:=⟨by decide,by decide,by decide⟩
theorem bC9:fr 1=.tuple [.int 1,.int 1]:=rfl
theorem Bd.sn{k:Nat}{r:Rat}(h:Bd k r) (hk:k<=8000):N0 r.num:=O8 h.num hk
theorem Bd.sd{k:Nat}{r:Rat}(h:Bd k r) (hk:k<=8000):N0 r.den:=O8 (k:=k) (by rw[Int.natAbs_natCast];exact h.den) hk
theorem Q7{i j:Int}(h1:N0 i) (h2:N0 j):S8 (.int i) (.int j)=some (.int (i*j)):=by
 show(if N0 i/\N0 j then some (PyData.int (i*j)) else none)=_
 rw[if_pos ⟨h1,h2⟩]
theorem ae9(i j:Int):Z9 (.int i) (.int j)=some (.int (i+j)):=rfl
theorem p8(i j:Int):ac8 (.int i) (.int j)=some (.int (i - j)):=rfl
theorem aB4(i j:Int):leI (.int i) (.int j)=some (.bool (decide (i<=j))):=rfl
theorem az0(a b:D):L2.atI [a,b] 0=some a:=rfl
theorem ay9(a b:D):L2.atI [a,b] 1=some b:=rfl
theorem ix0{ρ:Rho}{i:Nat}{r:Rat}(h:ρ[i]? = some (‹fr r›)):dIx (A5 i) ⇑0 ρ=some (.int r.num):=by simp only[dIx,A5,h,fr,dC,xbs,az0]
theorem ix1{ρ:Rho}{i:Nat}{r:Rat}(h:ρ[i]? = some (‹fr r›)):dIx (A5 i) ⇑1 ρ=some (.int r.den):=by simp only[dIx,A5,h,fr,dC,xbs,ay9]
theorem v0(x:Option B) (l:Rho):(x::l)[0]? = some x:=rfl
theorem v1(y x:Option B) (l:Rho):(y::x::l)[1]? = some x:=rfl
theorem O5{j k:Nat}{r s:Rat}(hr:Bd j r) (hs:Bd k s) (l:j+k<=8000):T2 [fr r,fr s]=some (fr (r*s)):=by
 have e:av2 [‹fr r›,‹fr s›]=some (.rt (fr (r*s))):=by
  simp only[av2,A9,A3,A0,A2,A4,ix0 (v0 _ _),ix1 (v0 _ _),ix0 (v1 _ _ _),ix1 (v1 _ _ _),xbs,xms,Q7 (hr.sn (by omega)) (hs.sn (by omega)),Q7 (hr.sd (by omega)) (hs.sd (by omega))]
  have:=aN4 (r.num.natAbs*s.num.natAbs) (r.den*s.den) (j+k) (Nat.mul_pos (N1 r) (N1 s)) (O3 hr.den hs.den) l
  rw[← aI6 hr hs,Int.natCast_mul,Int.natCast_mul,← hr.nat,← hs.nat]at this
  rw[this];rfl
 show(av2 [‹fr r›,‹fr s›]).bind _=_
 rw[e];rfl
theorem R8{j k:Nat}{r s:Rat}(hr:Bd j r) (hs:Bd k s) (l:j+k<=8000):T5 [fr r,fr s]=some (fr (r+s)):=by
 have e:av3 [‹fr r›,‹fr s›]=some (.rt (fr (r+s))):=by
  simp only[av3,A9,A3,A0,A2,A4,ix0 (v0 _ _),ix1 (v0 _ _),ix0 (v1 _ _ _),ix1 (v1 _ _ _),xbs,xms,Q7 (hr.sn (by omega)) (hs.sd (by omega)),Q7 (hs.sn (by omega)) (hr.sd (by omega)),Q7 (hr.sd (by omega)) (hs.sd (by omega)),ae9]
  have:=aN4 (r.num.natAbs*s.den+s.num.natAbs*r.den) (r.den*s.den) (j+k) (Nat.mul_pos (N1 r) (N1 s)) (O3 hr.den hs.den) l
  rw[← aI7 hr hs,Int.natCast_add,Int.natCast_mul,Int.natCast_mul,Int.natCast_mul,← hr.nat,← hs.nat]at this
  rw[this];rfl
 show(av3 [‹fr r›,‹fr s›]).bind _=_
 rw[e];rfl
theorem S1{j k:Nat}{r s:Rat}(hr:Bd j r) (hs:Bd k s) (l:j+k<=8000) (hl:s<=r):T0 [fr r,fr s]=some (fr (r - s)):=by
 have e:ab5 [‹fr r›,‹fr s›]=some (.rt (fr (r - s))):=by
  simp only[ab5,A9,A3,A0,A2,A4,ix0 (v0 _ _),ix1 (v0 _ _),ix0 (v1 _ _ _),ix1 (v1 _ _ _),xbs,xms,Q7 (hr.sn (by omega)) (hs.sd (by omega)),Q7 (hs.sn (by omega)) (hr.sd (by omega)),Q7 (hr.sd (by omega)) (hs.sd (by omega)),p8]
  have:=aN4 (r.num.natAbs*s.den - s.num.natAbs*r.den) (r.den*s.den) (j+k) (Nat.mul_pos (N1 r) (N1 s)) (O3 hr.den hs.den) l
  rw[← au3 hr hs hl,Int.ofNat_sub (aH2 hr hs hl),Int.natCast_mul,Int.natCast_mul,Int.natCast_mul,← hr.nat,← hs.nat]at this
  rw[this];rfl
 show(ab5 [‹fr r›,‹fr s›]).bind _=_
 rw[e];rfl
theorem ag4{k:Nat}{s:Rat}(hs:Bd k s) (l:k+1<=8000) (hl:s<=1):Z0 [fr s]=some (fr (1 - s)):=by
 have e:ag0 [‹fr s›]=some (.rt (fr (1 - s))):=by
  simp only[ag0,A9,A3,A0,A2,dC,A1,xg0,xbs,xms]
  rw[← bC9,S1 Bd.one hs (by omega) hl];rfl
 show(ag0 [‹fr s›]).bind _=_
 rw[e];rfl
theorem aV2{j k:Nat}{r s:Rat}(hr:Bd j r) (hs:Bd k s) (l:j+k<=8000):Y9 [fr r,fr s]=some (.bool (decide (r<=s))):=by
 have e:Y8 [‹fr r›,‹fr s›]=some (.rt (.bool (decide (r<=s)))):=by
  simp only[Y8,A9,A3,A0,A2,A4,ix0 (v0 _ _),ix1 (v0 _ _),ix0 (v1 _ _ _),ix1 (v1 _ _ _),xbs,xms,Q7 (hr.sn (by omega)) (hs.sd (by omega)),Q7 (hs.sn (by omega)) (hr.sd (by omega)),aB4]
  simp only[← Rat.le_iff]
 show(Y8 [‹fr r›,‹fr s›]).bind _=_
 rw[e];rfl
theorem aV3{k:Nat}{r:Rat}(hr:Bd k r) (l:k+1<=8000):X4 [fr r]=some (fr (if r<=1 then r else 1)):=by
 have e:X3 [‹fr r›]=some (.rt (fr (if r<=1 then r else 1))):=by
  simp only[X3,A9,ab0,M1,A3,A0,A2,dC,A1,xg0,xbs,xms]
  rw[← bC9,aV2 hr Bd.one l]
  by_cases h:r<=1
  ·simp[h,ai6]
  ·simp[h,ai6]
 show(X3 [‹fr r›]).bind _=_
 rw[e];rfl
end Sh
set_option exponentiation.threshold 9000
namespace Sh
open PySem G L2
theorem aJ7(i j:Int):ltI (.int i) (.int j)=some (.bool (decide (i < j))):=rfl
theorem ax8(i j:Int):gtI (.int i) (.int j)=some (.bool (decide (j < i))):=rfl
theorem aB1{α:Type}(x:α):List.replicate 0 x=[]:=rfl
theorem aw6{α:Type}(x:α):List.replicate 1 x=[x]:=rfl
theorem aB0{α:Type}(x:α):List.replicate 2 x=[x,x]:=rfl
theorem ah7(a b c d:D):ab3 [a,b,c,d] (some 1) none=[b,c,d]:=rfl
theorem aM3(a b c d:D):L2.atI [a,b,c,d] 0=some a:=rfl
theorem aM2(a b c d:D):L2.atI [a,b,c,d] 1=some b:=rfl
theorem aM1(a b c d:D):L2.atI [a,b,c,d] 2=some c:=rfl
theorem aM0(a b c d:D):L2.atI [a,b,c,d] 3=some d:=rfl
theorem aM5(a b c:D):L2.atI [a,b,c] 0=some a:=rfl
theorem aM4(a b c:D):L2.atI [a,b,c] 1=some b:=rfl
theorem aC5(a b c:D):L2.atI [a,b,c] 2=some c:=rfl
theorem p9{n k:Nat}(h:n < 2 ^ k) (hk:k<=8000):N0 (n:Int):=O8 (k:=k) (by rw[Int.natAbs_natCast];exact h) hk
theorem ax1{i j:Int}(h:0 < j):Y1 (.int i) (.int j)=some (.int (i % j)):=by
 show(if(0:Int) < j then some (PyData.int (i % j)) else none)=_
 rw[if_pos h]
theorem aF0{i j:Int}(h:0 < j) (s:N0 j):ac7 (.int i) (.int j)=some (.int (i / j)):=by
 show(if(0:Int) < j/\N0 j then some (PyData.int (i / j)) else none)=_
 rw[if_pos ⟨h,s⟩]
theorem C3{g:DS}{n:Nat}{ds:List D}{ρ:Rho}{d:D}(h:y9 n ds=ρ) (e:g ρ=some (.rt d)):J8 g n ds=some d:=by
 unfold J8
 rw[h,e];rfl
theorem N5{j k:Nat}{r s:Rat}(hr:Bd j r) (hs:Bd k s) (l:j+k<=8000):K1 [fr r,fr s]=some (fr (r*s)):=by
 refine C3 (ρ:=[‹fr r›,‹fr s›]) rfl ?_
 simp only[aG1,A9,A3,A0,A2,A4,ix0 (v0 _ _),ix1 (v0 _ _),ix0 (v1 _ _ _),ix1 (v1 _ _ _),xbs,xms,Q7 (hr.sn (by omega)) (hs.sn (by omega)),Q7 (hr.sd (by omega)) (hs.sd (by omega))]
 have:=aA4 (r.num.natAbs*s.num.natAbs) (r.den*s.den) (j+k) (Nat.mul_pos (N1 r) (N1 s)) (O3 hr.den hs.den) l
 rw[← aI6 hr hs,Int.natCast_mul,Int.natCast_mul,← hr.nat,← hs.nat]at this
 rw[this];rfl
theorem R0{j k:Nat}{r s:Rat}(hr:Bd j r) (hs:Bd k s) (l:j+k<=8000):M3 [fr r,fr s]=some (fr (r+s)):=by
 refine C3 (ρ:=[‹fr r›,‹fr s›]) rfl ?_
 simp only[aU7,A9,A3,A0,A2,A4,ix0 (v0 _ _),ix1 (v0 _ _),ix0 (v1 _ _ _),ix1 (v1 _ _ _),xbs,xms,Q7 (hr.sn (by omega)) (hs.sd (by omega)),Q7 (hs.sn (by omega)) (hr.sd (by omega)),Q7 (hr.sd (by omega)) (hs.sd (by omega)),ae9]
 have:=aA4 (r.num.natAbs*s.den+s.num.natAbs*r.den) (r.den*s.den) (j+k) (Nat.mul_pos (N1 r) (N1 s)) (O3 hr.den hs.den) l
 rw[← aI7 hr hs,Int.natCast_add,Int.natCast_mul,Int.natCast_mul,Int.natCast_mul,← hr.nat,← hs.nat]at this
 rw[this];rfl
theorem af9{k:Nat}{s:Rat}(hs:Bd k s) (l:k+1<=8000) (hl:s<=1):W2 [fr s]=some (fr (1 - s)):=by
 refine C3 (ρ:=[‹fr s›]) rfl ?_
 simp only[aU6,A9,A3,A0,A2,A4,ix0 (v0 _ _),ix1 (v0 _ _),xbs,xms,p8]
 have l0:=aH2 Bd.one hs hl
 have e0:(1:Rat).num.natAbs=1:=rfl
 have e1:(1:Rat).den=1:=rfl
 rw[e0,e1,Nat.one_mul,Nat.mul_one]at l0
 have:=aA4 (s.den - s.num.natAbs) s.den k (N1 s) hs.den (by omega)
 have e:=au3 Bd.one hs hl
 rw[e0,e1,Nat.one_mul,Nat.mul_one]at e
 rw[← e,Int.ofNat_sub l0,← hs.nat]at this
 rw[this];rfl
def aF3(ns:List Int) (k:Nat):Int:=if ns.length=0 then 7*(k:Int) else ns.getD (k % ns.length) 0+6553*((k / ns.length:Nat):Int)
theorem bD6(ns:List Int):eqD (.list (ns.map PyData.int)) (.list [])=some (.bool (decide (ns.length=0))):=by
 have h1:SeqAt.shaped (.list (ns.map PyData.int))=true:=by
  have c:∀l:List Int,PyData.canLayAll0 (l.map PyData.int)=true:=fun l=>by
   induction l with
   | nil=>rfl
   | cons a r ih=>simp only[xmc,PyData.canLayAll0,PyData.canLay0,ih];rfl
  have d:∀l:List Int,PyData.depthAll (l.map PyData.int)=0:=fun l=>by
   induction l with
   | nil=>rfl
   | cons a r ih=>simp only[xmc,PyData.depthAll,PyData.depth,ih];rfl
  unfold SeqAt.shaped
  simp only[PyData.canLay0,c,PyData.depth,d]
  rfl
 unfold eqD
 rw[if_pos ⟨h1,rfl⟩]
 cases ns with
 | nil=>rfl
 | cons a r=>simp[PyData.eqv,PyData.eqvAll]
theorem ck4(ns:List Int) (k:Nat) (hn:ns.length<=63) (hk:k < 2 ^ 60):aA5 [.list (ns.map PyData.int),.int k]=some (.int (aF3 ns k)):=by
 refine C3 (ρ:=[‹.list (ns.map PyData.int)›,‹.int k›]) rfl ?_
 have sk:N0 (k:Int):=p9 hk (by decide)
 by_cases h:ns.length=0
 ·have e:aF3 ns k=7*(k:Int):=by unfold aF3;rw[if_pos h]
  simp only[aA0,A6,B0,A9,sIf,G7,V3,ac5,A1,dC,D4,P0,A4,A3,ab0,T8,dOr,aq3,P6,dIx,Z7,V5,O0,ab1,u9,Z8,A5,qE,qN,ae0,N6,L4,ae7,A2,A0,M1,tB2,U0,P8,M5,ai6,N9,G8,R4,i8,K3,B1,M6,C2,N4,L7,O1,ac6,ap8,xg0,xg1,xw0,xw1,xbs,xms,xmc,xmn,xna,xca,ae9,p8,aB4,aB2,at0,aJ7,ax8,aB1,aw6,aB0,ah7,aM3,aM2,aM1,aM0,aM5,aM4,aC5,az0,ay9,xnt,xnf,xft,if_true,if_false,ite_true,ite_false,bD6,h,decide_true,Q7 (i:=7) (O8 (k:=3) (by decide) (by decide)) sk,e]
 ·have e:aF3 ns k=ns.getD (k % ns.length) 0+6553*((k / ns.length:Nat):Int):=by unfold aF3;rw[if_neg h]
  have hl:(List.map PyData.int ns).length=ns.length:=List.length_map ..
  have hp:0 < ns.length:=Nat.pos_of_ne_zero h
  have m1:Y1 (.int k) (.int ns.length)=some (.int ((k % ns.length:Nat):Int)):=by rw[ax1 (by omega)];simp
  have m2:ac7 (.int k) (.int ns.length)=some (.int ((k / ns.length:Nat):Int)):=by rw[aF0 (by omega) (p9 (k:=6) (by omega) (by decide))];simp
  have m3:L2.atI (List.map PyData.int ns) ((k % ns.length:Nat):Int)=some (.int (ns.getD (k % ns.length) 0)):=by
   refine L2.bS3 ?_
   have hlt:k % ns.length < ns.length:=Nat.mod_lt _ hp
   rw[List.getElem?_map,List.getElem?_eq_getElem hlt]
   simp[List.getD,hlt]
  have sq:N0 ((k / ns.length:Nat):Int):=p9 (k:=60) (Nat.lt_of_le_of_lt (Nat.div_le_self _ _) hk) (by decide)
  simp only[aA0,A6,B0,A9,sIf,G7,V3,ac5,A1,dC,D4,P0,A4,A3,ab0,T8,dOr,aq3,P6,dIx,Z7,V5,O0,ab1,u9,Z8,A5,qE,qN,ae0,N6,L4,ae7,A2,A0,M1,tB2,U0,P8,M5,ai6,N9,G8,R4,i8,K3,B1,M6,C2,N4,L7,O1,ac6,ap8,xg0,xg1,xw0,xw1,xbs,xms,xmc,xmn,xna,xca,ae9,p8,aB4,aB2,at0,aJ7,ax8,aB1,aw6,aB0,ah7,aM3,aM2,aM1,aM0,aM5,aM4,aC5,az0,ay9,xnt,xnf,xft,if_true,if_false,ite_true,ite_false,bD6,h,decide_false,hl,m1,m2,m3,Q7 (i:=6553) (O8 (k:=13) (by decide) (by decide)) sq,e]
def an1(ns:List Int) (k:Nat) (m:Int):Int :=
 let c:=(aF3 ns k % 2147483563*69069+104723*((k:Int)+1)) % 2147483563
 let c:=(c*c+c / 3) % 2147483399
 (c*c+c / 7) % 2147483647 / 11 % m
theorem av9{i:Int}(h0:0<=i) (h:i < 4294967296):N0 i:=O8 (k:=32) (by omega) (by decide)
theorem av5(ns:List Int) (k:Nat) (m:Int) (hn:ns.length<=63) (hk:k < 2 ^ 60) (hm:0 < m):A7 [.list (ns.map PyData.int),.int k,.int m]=some (.int (an1 ns k m)):=by
 refine C3 (ρ:=[‹.list (ns.map PyData.int)›,‹.int k›,‹.int m›,none]) rfl ?_
 have c0:∀x:Int,N0 (x % 2147483563):=fun x=>av9 (by omega) (by omega)
 have c1:∀x:Int,N0 (x % 2147483399):=fun x=>av9 (by omega) (by omega)
 have sk:N0 ((k:Int)+1):=O8 (k:=61) (by omega) (by decide)
 have s1:N0 69069:=O8 (k:=17) (by decide) (by decide)
 have s2:N0 104723:=O8 (k:=17) (by decide) (by decide)
 have s3:N0 3:=O8 (k:=2) (by decide) (by decide)
 have s7:N0 7:=O8 (k:=3) (by decide) (by decide)
 have s11:N0 11:=O8 (k:=4) (by decide) (by decide)
 simp only[aG5,A6,B0,A9,sIf,G7,V3,ac5,A1,dC,D4,P0,A4,A3,ab0,T8,dOr,aq3,P6,dIx,Z7,V5,O0,ab1,u9,Z8,A5,qE,qN,ae0,N6,L4,ae7,A2,A0,M1,tB2,U0,P8,M5,ai6,N9,G8,R4,i8,K3,B1,M6,C2,N4,L7,O1,ac6,ap8,xg0,xg1,xw0,xw1,xbs,xms,xmc,xmn,xna,xca,ae9,p8,aB4,aB2,at0,aJ7,ax8,aB1,aw6,aB0,ah7,aM3,aM2,aM1,aM0,aM5,aM4,aC5,az0,ay9,xnt,xnf,xft,if_true,if_false,ite_true,ite_false,ck4 ns k hn hk,ax1 (show(0:Int) < 2147483563 by decide),ax1 (show(0:Int) < 2147483399 by decide),ax1 (show(0:Int) < 2147483647 by decide),ax1 hm,Q7 (c0 _) s1,Q7 s2 sk,Q7 (c0 _) (c0 _),Q7 (c1 _) (c1 _),aF0 (show(0:Int) < 3 by decide) s3,aF0 (show(0:Int) < 7 by decide) s7,aF0 (show(0:Int) < 11 by decide) s11]
 rfl
theorem au8(ns:List Int) (k:Nat) (m:Int) (hm:0 < m):0<=an1 ns k m/\an1 ns k m < m:=by
 unfold an1
 exact⟨Int.emod_nonneg _ (by omega),Int.emod_lt_of_pos _ hm⟩
structure IsSh (k:Nat) (r:Rat):Prop where
 bd:Bd k r
 le:r<=1
theorem bl4{a b:Nat}(hb:0 < b) (h:a<=b):mkRat (a:Int) b<=1:=by
 rw[Rat.le_iff,Rat.num_mkRat,Rat.den_mkRat,if_neg (by omega),if_neg (by omega)]
 have e0:(1:Rat).num=1:=rfl
 have e1:(1:Rat).den=1:=rfl
 rw[e0,e1]
 have:a / b.gcd a<=b / b.gcd a:=Nat.div_le_div_right h
 simp
 exact_mod_cast this
theorem ag2(ns:List Int) (at':Nat) (hn:ns.length<=63) (hk:at' < 2 ^ 40):∃r,Q1 [.list (ns.map PyData.int),.int at']=some (fr r)/\IsSh 4 r:=by
 obtain⟨u0,u1⟩:=au8 ns at' 12 (by decide)
 obtain⟨u,hu⟩:∃u:Nat,(1:Int)+an1 ns at' 12=u/\0 < u/\u<=12:=⟨(1+an1 ns at' 12).toNat,by omega,by omega,by omega⟩
 obtain⟨t0,t1⟩:=au8 ns (at'+1) ((u:Int)+1) (by omega)
 obtain⟨t,ht⟩:∃t:Nat,an1 ns (at'+1) ((u:Int)+1)=t/\t<=u:=⟨(an1 ns (at'+1) ((u:Int)+1)).toNat,by omega,by omega⟩
 obtain⟨p0,p1⟩:=au8 ns (at'+2) 5 (by decide)
 have hs:IsSh 4 (mkRat (t:Int) u):=⟨Bd.of (by omega) (by omega) (by omega),bl4 (by omega) (by omega)⟩
 have e1:=av5 ns at' 12 hn (by omega) (by decide)
 have e2:=av5 ns (at'+1) ((u:Int)+1) hn (by omega) (by omega)
 have e3:=av5 ns (at'+2) 5 hn (by omega) (by decide)
 have e4:=aA4 t u 4 (by omega) (by omega) (by decide)
 have c1:((at':Int)+1)=((at'+1:Nat):Int):=by omega
 have c2:((at':Int)+2)=((at'+2:Nat):Int):=by omega
 rw[ht.1]at e2
 have pick:∀(j:Int),0<=j->j < 5->∃r,L2.atI [fr (mkRat (t:Int) u),fr (mkRat (t:Int) u),fr (mkRat (t:Int) u),.tuple [.int 0,.int 1],.tuple [.int 1,.int 1]] j=some (fr r)/\IsSh 4 r:=fun j h0 h5=>by
  have:j=0\/j=1\/j=2\/j=3\/j=4:=by omega
  rcases this with rfl|rfl|rfl|rfl|rfl
  ·exact⟨_,rfl,hs⟩
  ·exact⟨_,rfl,hs⟩
  ·exact⟨_,rfl,hs⟩
  ·exact⟨0,rfl,Bd.zero.mono (by decide),by decide⟩
  ·exact⟨1,rfl,Bd.one.mono (by decide),by decide⟩
 obtain⟨r,hr1,hr2⟩:=pick _ p0 p1
 refine⟨r,C3 (ρ:=[‹.list (ns.map PyData.int)›,‹.int at'›,none,none]) rfl ?_,hr2⟩
 simp only[aG2,A6,B0,A9,sIf,G7,V3,ac5,A1,dC,D4,P0,A4,A3,ab0,T8,dOr,aq3,P6,dIx,Z7,V5,O0,ab1,u9,Z8,A5,qE,qN,ae0,N6,L4,ae7,A2,A0,M1,tB2,U0,P8,M5,ai6,N9,G8,R4,i8,K3,B1,M6,C2,N4,L7,O1,ac6,ap8,xg0,xg1,xw0,xw1,xbs,xms,xmc,xmn,xna,xca,ae9,p8,aB4,aB2,at0,aJ7,ax8,aB1,aw6,aB0,ah7,aM3,aM2,aM1,aM0,aM5,aM4,aC5,az0,ay9,xnt,xnf,xft,if_true,if_false,ite_true,ite_false,e1,hu.1,c1,c2,e2,e3,e4,hr1]
def sp(c x y z:Rat):D:=.tuple [fr c,fr x,fr y,fr z]
structure Spot (k:Nat) (c x y z:Rat):Prop where
 hc:IsSh k c
 hx:Bd k x
 hy:Bd k y
 hz:Bd k z
 xc:x<=c
 yc:y<=c
 zc:z<=c
theorem IsSh.mono{j k:Nat}{r:Rat}(h:IsSh j r) (l:j<=k):IsSh k r:=⟨h.bd.mono l,h.le⟩
theorem Spot.mono{j k:Nat}{c x y z:Rat}(h:Spot j c x y z) (l:j<=k):Spot k c x y z:=⟨h.hc.mono l,h.hx.mono l,h.hy.mono l,h.hz.mono l,h.xc,h.yc,h.zc⟩
theorem X6{c r:Rat}(hc:0<=c) (hr:r<=1):c*r<=c:=by
 have:=Rat.mul_le_mul_of_nonneg_right hr hc
 grind
theorem cv2:aa4 0 3=[.int 0,.int 1,.int 2]:=rfl
theorem ck2(ns:List Int) (k:Nat) (hn:ns.length<=63) (hk:k < 2 ^ 30):∃c x y z,U3 [.list (ns.map PyData.int),.int k]=some (sp c x y z)/\Spot 8 c x y z:=by
 obtain⟨c,ec,hc⟩:=ag2 ns k hn (by omega)
 obtain⟨a0,e0,h0⟩:=ag2 ns (k+3) hn (by omega)
 obtain⟨a1,e1,h1⟩:=ag2 ns (k+6) hn (by omega)
 obtain⟨a2,e2,h2⟩:=ag2 ns (k+9) hn (by omega)
 refine⟨c,c*a0,c*a1,c*a2,?_,⟨hc.mono (by decide),hc.bd.mul h0.bd,hc.bd.mul h1.bd,hc.bd.mul h2.bd,X6 hc.bd.nn h0.le,X6 hc.bd.nn h1.le,X6 hc.bd.nn h2.le⟩⟩
 refine C3 (ρ:=[‹.list (ns.map PyData.int)›,‹.int k›,none]) rfl ?_
 have i0:(k:Int)+3+3*0=((k+3:Nat):Int):=by omega
 have i1:(k:Int)+3+3*1=((k+6:Nat):Int):=by omega
 have i2:(k:Int)+3+3*2=((k+9:Nat):Int):=by omega
 have s0:N0 0:=O8 (k:=2) (by decide) (by decide)
 have s1:N0 1:=O8 (k:=2) (by decide) (by decide)
 have s2:N0 2:=O8 (k:=2) (by decide) (by decide)
 have s3:N0 3:=O8 (k:=2) (by decide) (by decide)
 have m0:=Q7 s3 s0
 have m1:=Q7 s3 s1
 have m2:=Q7 s3 s2
 have r3:((-(2 ^ 62):Int)<=3/\(3:Int) < 2 ^ 62):=by decide
 have l3:([PyData.int 0,.int 1,.int 2]:List D).length<=16777216:=by decide
 have ct:∀a b c d:D,Z9 (.tuple [a]) (.tuple [b,c,d])=some (.tuple [a,b,c,d]):=fun a b c d=>rfl
 simp only[aU5,A6,B0,A9,sIf,G7,V3,ac5,A1,dC,D4,P0,A4,A3,ab0,T8,dOr,aq3,P6,dIx,Z7,V5,O0,ab1,u9,Z8,A5,qE,qN,ae0,N6,L4,ae7,A2,A0,M1,tB2,U0,P8,M5,ai6,N9,G8,R4,i8,K3,B1,M6,C2,N4,L7,O1,ac6,ap8,xg0,xg1,xw0,xw1,xbs,xms,xmc,xmn,xna,xca,ae9,p8,aB4,aB2,at0,aJ7,ax8,aB1,aw6,aB0,ah7,aM3,aM2,aM1,aM0,aM5,aM4,aC5,az0,ay9,xnt,xnf,xft,if_true,if_false,ite_true,ite_false,ec,r3,and_self,cv2,l3,m0,m1,m2,i0,i1,i2,e0,e1,e2,N5 hc.bd h0.bd (by decide),N5 hc.bd h1.bd (by decide),N5 hc.bd h2.bd (by decide),ct,sp]
theorem aE5(r:Rat):SeqAt.shaped (fr r)=true:=rfl
theorem bD7(r s:Rat):eqD (fr r) (fr s)=some (.bool (decide (r=s))):=by
 unfold eqD
 rw[if_pos ⟨aE5 r,aE5 s⟩]
 congr 2
 show((r.num==s.num)&&(((r.den:Int)==(s.den:Int))&&true))=_
 rw[Bool.eq_iff_iff]
 simp only[Bool.and_true,Bool.and_eq_true,beq_iff_eq,decide_eq_true_eq]
 constructor
 ·intro h;exact Rat.ext h.1 (by exact_mod_cast h.2)
 ·intro h;subst h;exact⟨rfl,rfl⟩
end Sh
local macro_rules
  | `(tactic| wp_walk using evP, $ts,*) => `(tactic| simp only [G.A6, G.B0, G.A9, G.sIf, G.G7, G.V3, G.ac5, G.A1, G.dC, G.D4, G.P0, G.A4, G.A3, G.T8, G.dOr, G.aq3, G.P6, G.O0, G.ab1, G.u9, G.Z8, G.N6, G.L4, G.ae7, G.A2, G.A0, G.M1, G.tB2, G.U0, G.P8, G.M5, G.ai6, G.N9, G.K3, G.B1, G.M6, G.C2, G.N4, G.L7, G.ap8, G.xg0, G.xg1, G.xw0, G.xw1, G.xbs, G.xms, G.xmc, G.xmn, G.xna, G.xca, Sh.ae9, Sh.p8, Sh.aB4, Sh.aB2, Sh.at0, Sh.aJ7, Sh.ax8, Sh.aM3, Sh.aM2, Sh.aM1, Sh.aM0, Sh.aM5, Sh.aM4, Sh.aC5, Sh.az0, Sh.ay9, G.xnt, G.xnf, G.xft, if_true, if_false, $[$ts:term],*])
local macro_rules
  | `(tactic| wp_walk using evB) => `(tactic| wp_walk using evP, G.dIx, G.V5, G.A5, G.qE, G.qN, G.ae0)
  | `(tactic| wp_walk using evB, $ts,*) => `(tactic| wp_walk using evP, G.dIx, G.V5, G.A5, G.qE, G.qN, G.ae0, $ts,*)
local macro_rules
  | `(tactic| wp_walk using evA) => `(tactic| wp_walk using evB, G.ab0, G.Z7, G.G8, G.R4, G.i8, G.O1, G.ac6, Sh.aB1, Sh.aw6, Sh.aB0, Sh.ah7, ite_true, ite_false)
  | `(tactic| wp_walk using evA, $ts,*) => `(tactic| wp_walk using evB, G.ab0, G.Z7, G.G8, G.R4, G.i8, G.O1, G.ac6, Sh.aB1, Sh.aw6, Sh.aB0, Sh.ah7, ite_true, ite_false, $ts,*)
local macro_rules
  | `(tactic| wp_walk using evD) => `(tactic| wp_walk using evB, G.ab4, G.as5)
  | `(tactic| wp_walk using evD, $ts,*) => `(tactic| wp_walk using evB, G.ab4, G.as5, $ts,*)
local macro_rules
  | `(tactic| wp_walk using evC) => `(tactic| wp_walk using evD, G.ab0, G.Z7, G.G8, G.R4, G.i8, G.O1, G.ac6, Sh.aB1, Sh.aw6, Sh.aB0, Sh.ah7, ite_true, ite_false)
  | `(tactic| wp_walk using evC, $ts,*) => `(tactic| wp_walk using evD, G.ab0, G.Z7, G.G8, G.R4, G.i8, G.O1, G.ac6, Sh.aB1, Sh.aw6, Sh.aB0, Sh.ah7, ite_true, ite_false, $ts,*)
local macro_rules
  | `(tactic| wp_walk using evQ) => `(tactic| wp_walk using evP, G.ab4, G.as5)
  | `(tactic| wp_walk using evQ, $ts,*) => `(tactic| wp_walk using evP, G.ab4, G.as5, $ts,*)
namespace Sh
open PySem G L2
theorem D6{x y:Str}{b:Bool}(hx:PyData.canLay0 (.str x)=true) (hy:PyData.canLay0 (.str y)=true) (e:(x==y)=b):eqD (.str x) (.str y)=some (.bool b):=by
 unfold eqD
 have s:∀z:Str,PyData.canLay0 (.str z)=true->SeqAt.shaped (.str z)=true:=fun z h=>by unfold SeqAt.shaped;rw[h];rfl
 rw[if_pos ⟨s x hx,s y hy⟩]
 show some (PyData.bool (x==y))=_
 rw[e]
theorem D6z{x y:Str}{b:Bool}(hx:PyData.canLay0 (.str x)=true:=by decide +kernel)(hy:PyData.canLay0 (.str y)=true:=by decide +kernel)(e:(x==y)=b:=by decide +kernel):eqD (.str x) (.str y)=some (.bool b):=D6 hx hy e
theorem S5{x y:Str}{b:Bool}(hx:PyData.canLay0 (.str x)=true) (hy:PyData.canLay0 (.str y)=true) (e:(!(x==y))=b):neD (.str x) (.str y)=some (.bool b):=by
 unfold neD
 have s:∀z:Str,PyData.canLay0 (.str z)=true->SeqAt.shaped (.str z)=true:=fun z h=>by unfold SeqAt.shaped;rw[h];rfl
 rw[if_pos ⟨s x hx,s y hy⟩]
 show some (PyData.bool (!(x==y)))=_
 rw[e]
theorem S5z{x y:Str}{b:Bool}(hx:PyData.canLay0 (.str x)=true:=by decide +kernel)(hy:PyData.canLay0 (.str y)=true:=by decide +kernel)(e:(!(x==y))=b:=by decide +kernel):neD (.str x) (.str y)=some (.bool b):=S5 hx hy e
theorem E9:eqD (.str "over") (.str "over")=some (.bool true):=D6z
theorem J2:eqD (.str "over") (.str "multiply")=some (.bool false):=D6z
theorem B8:eqD (.str "over") (.str "screen")=some (.bool false):=D6z
theorem E8:eqD (.str "over") (.str "plus")=some (.bool false):=D6z
theorem F0:eqD (.str "over") (.str "atop")=some (.bool false):=D6z
theorem G2:eqD (.str "over") (.str "cut")=some (.bool false):=D6z
theorem J4:eqD (.str "multiply") (.str "over")=some (.bool false):=D6z
theorem L8:eqD (.str "multiply") (.str "multiply")=some (.bool true):=D6z
theorem F4:eqD (.str "multiply") (.str "screen")=some (.bool false):=D6z
theorem J3:eqD (.str "multiply") (.str "plus")=some (.bool false):=D6z
theorem J5:eqD (.str "multiply") (.str "atop")=some (.bool false):=D6z
theorem K4:eqD (.str "multiply") (.str "cut")=some (.bool false):=D6z
theorem B4:eqD (.str "screen") (.str "over")=some (.bool false):=D6z
theorem E4:eqD (.str "screen") (.str "multiply")=some (.bool false):=D6z
theorem A8:eqD (.str "screen") (.str "screen")=some (.bool true):=D6z
theorem B3:eqD (.str "screen") (.str "plus")=some (.bool false):=D6z
theorem B5:eqD (.str "screen") (.str "atop")=some (.bool false):=D6z
theorem C9:eqD (.str "screen") (.str "cut")=some (.bool false):=D6z
theorem E6:eqD (.str "plus") (.str "over")=some (.bool false):=D6z
theorem J1:eqD (.str "plus") (.str "multiply")=some (.bool false):=D6z
theorem B7:eqD (.str "plus") (.str "screen")=some (.bool false):=D6z
theorem E5:eqD (.str "plus") (.str "plus")=some (.bool true):=D6z
theorem E7:eqD (.str "plus") (.str "atop")=some (.bool false):=D6z
theorem G1:eqD (.str "plus") (.str "cut")=some (.bool false):=D6z
theorem F8:eqD (.str "atop") (.str "over")=some (.bool false):=D6z
theorem J7:eqD (.str "atop") (.str "multiply")=some (.bool false):=D6z
theorem B9:eqD (.str "atop") (.str "screen")=some (.bool false):=D6z
theorem F7:eqD (.str "atop") (.str "plus")=some (.bool false):=D6z
theorem F9:eqD (.str "atop") (.str "atop")=some (.bool true):=D6z
theorem G6:eqD (.str "atop") (.str "cut")=some (.bool false):=D6z
theorem G4:eqD (.str "cut") (.str "over")=some (.bool false):=D6z
theorem K5:eqD (.str "cut") (.str "multiply")=some (.bool false):=D6z
theorem D3:eqD (.str "cut") (.str "screen")=some (.bool false):=D6z
theorem G3:eqD (.str "cut") (.str "plus")=some (.bool false):=D6z
theorem G5:eqD (.str "cut") (.str "atop")=some (.bool false):=D6z
theorem J6:eqD (.str "cut") (.str "cut")=some (.bool true):=D6z
theorem E2:eqD (.str "turn") (.str "turn")=some (.bool true):=D6z
theorem E3:eqD (.str "turn") (.str "grey")=some (.bool false):=D6z
theorem C8:eqD (.str "turn") (.str "round")=some (.bool false):=D6z
theorem F5:eqD (.str "grey") (.str "turn")=some (.bool false):=D6z
theorem F6:eqD (.str "grey") (.str "grey")=some (.bool true):=D6z
theorem D2:eqD (.str "grey") (.str "round")=some (.bool false):=D6z
theorem D0:eqD (.str "round") (.str "turn")=some (.bool false):=D6z
theorem D1:eqD (.str "round") (.str "grey")=some (.bool false):=D6z
theorem B6:eqD (.str "round") (.str "round")=some (.bool true):=D6z
theorem D7:neD (.str "turn") (.str "turn")=some (.bool false):=S5z
theorem D8:neD (.str "turn") (.str "grey")=some (.bool true):=S5z
theorem C4:neD (.str "turn") (.str "round")=some (.bool true):=S5z
theorem D9:neD (.str "grey") (.str "turn")=some (.bool true):=S5z
theorem E1:neD (.str "grey") (.str "grey")=some (.bool false):=S5z
theorem C7:neD (.str "grey") (.str "round")=some (.bool true):=S5z
theorem C5:neD (.str "round") (.str "turn")=some (.bool true):=S5z
theorem C6:neD (.str "round") (.str "grey")=some (.bool true):=S5z
theorem B2:neD (.str "round") (.str "round")=some (.bool false):=S5z
inductive Man where
 | over|mult|screen|plus|atop|cut
def Man.s:Man->Str
 | .over => "over"
 | .mult => "multiply"
 | .screen => "screen"
 | .plus => "plus"
 | .atop => "atop"
 | .cut => "cut"
def v7(r:Rat):Rat:=if r<=1 then r else 1
def Man.cov:Man->Rat->Rat->Rat
 | .plus,c,d=>v7 (c+d)
 | .atop,c,d=>d
 | .cut,c,d=>d*(1 - c)
 | _,c,d=>c+d - c*d
def Man.col:Man->Rat->Rat->Rat->Rat->Rat
 | .over,c,d,x,y=>x+y*(1 - c)
 | .mult,c,d,x,y=>x*y+x*(1 - d)+y*(1 - c)
 | .screen,c,d,x,y=>x+y - x*y
 | .plus,c,d,x,y=>v7 (x+y)
 | .atop,c,d,x,y=>x*d+y*(1 - c)
 | .cut,c,d,x,y=>y*(1 - c)
theorem S4{k:Nat}{c:Rat}(h:IsSh k c):IsSh (k+1) (1 - c):=by
 have b:=Bd.one.sub h.bd h.le
 rw[Nat.add_comm]at b
 exact⟨b,by have:=h.bd.nn;grind⟩
theorem ax0{a b:Rat}(ha:0<=a) (hb:0<=b) (ha1:a<=1) (hb1:b<=1):a*b<=a+b:=by
 have:=Rat.mul_le_mul_of_nonneg_right ha1 hb
 grind
theorem bG0{k:Nat}{r:Rat}(h:Bd k r) (hk:1<=k):IsSh k (v7 r):=by
 unfold v7
 split
 ·rename_i l;exact⟨h,l⟩
 ·exact⟨Bd.one.mono hk,Rat.le_refl⟩
local macro_rules
  | `(tactic| wp_walk using evS, $ts,*) => `(tactic| wp_walk using evA, E9, J2, B8, E8, F0, G2, J4, L8, F4, J3, J5, K4, B4, E4, A8, B3, B5, C9, E6, J1, B7, E5, E7, G1, F8, J7, B9, F7, F9, G6, G4, K5, D3, G3, G5, J6, E2, E3, C8, F5, F6, D2, D0, D1, B6, D7, D8, C4, D9, E1, C7, C5, C6, B2, $ts,*)
theorem bH3(m:Man) {k:Nat}{c d:Rat}(hc:IsSh k c) (hd:IsSh k d) (l:6*k+4<=8000):Y3 [.str m.s,fr c,fr d]=some (fr (m.cov c d))/\Bd (6*k+4) (m.cov c d):=by
 have r1:=ag4 hc.bd (by omega) hc.le
 have h1:=(S4 hc)
 have ml:=ax0 hc.bd.nn hd.bd.nn hc.le hd.le
 have e1:=R8 hc.bd hd.bd (by omega)
 have e2:=O5 hc.bd hd.bd (by omega)
 have b1:=hc.bd.add hd.bd
 have b2:=hc.bd.mul hd.bd
 have e3:=S1 b1 b2 (by omega) ml
 have e4:=aV3 b1 (by omega)
 have e5:=O5 hd.bd h1.bd (by omega)
 cases m with
 | plus=>exact⟨C3 (ρ:=[‹.str "plus"›,‹fr c›,‹fr d›]) rfl (by wp_walk using evS,P1,e1,e4;rfl),(bG0 b1 (by omega)).bd.mono (by omega)⟩
 | atop=>exact⟨C3 (ρ:=[‹.str "atop"›,‹fr c›,‹fr d›]) rfl (by wp_walk using evS,P1;rfl),hd.bd.mono (by omega)⟩
 | cut=>exact⟨C3 (ρ:=[‹.str "cut"›,‹fr c›,‹fr d›]) rfl (by wp_walk using evS,P1,r1,e5;rfl),(hd.bd.mul h1.bd).mono (by omega)⟩
 | over=>exact⟨C3 (ρ:=[‹.str "over"›,‹fr c›,‹fr d›]) rfl (by wp_walk using evS,P1,e1,e2,e3;rfl),(b1.sub b2 ml).mono (by omega)⟩
 | mult=>exact⟨C3 (ρ:=[‹.str "multiply"›,‹fr c›,‹fr d›]) rfl (by wp_walk using evS,P1,e1,e2,e3;rfl),(b1.sub b2 ml).mono (by omega)⟩
 | screen=>exact⟨C3 (ρ:=[‹.str "screen"›,‹fr c›,‹fr d›]) rfl (by wp_walk using evS,P1,e1,e2,e3;rfl),(b1.sub b2 ml).mono (by omega)⟩
theorem aA7(m:Man) {k:Nat}{c d x y:Rat}(hc:IsSh k c) (hd:IsSh k d) (hx:IsSh k x) (hy:IsSh k y) (l:6*k+4<=8000):W9 [.str m.s,fr c,fr d,fr x,fr y]=some (fr (m.col c d x y))/\Bd (6*k+4) (m.col c d x y):=by
 have r1:=ag4 hc.bd (by omega) hc.le
 have r2:=ag4 hd.bd (by omega) hd.le
 have h1:=S4 hc
 have h2:=S4 hd
 have ml:=ax0 hx.bd.nn hy.bd.nn hx.le hy.le
 have e1:=R8 hx.bd hy.bd (by omega)
 have e2:=O5 hx.bd hy.bd (by omega)
 have b1:=hx.bd.add hy.bd
 have b2:=hx.bd.mul hy.bd
 have e3:=S1 b1 b2 (by omega) ml
 have e4:=aV3 b1 (by omega)
 have bt:=hy.bd.mul h1.bd
 have et:=O5 hy.bd h1.bd (by omega)
 have e6:=R8 hx.bd bt (by omega)
 have bd:=hx.bd.mul h2.bd
 have e7:=O5 hx.bd h2.bd (by omega)
 have b8:=b2.add bd
 have e8:=R8 b2 bd (by omega)
 have e9:=R8 b8 bt (by omega)
 have b10:=hx.bd.mul hd.bd
 have e10:=O5 hx.bd hd.bd (by omega)
 have e11:=R8 b10 bt (by omega)
 cases m with
 | plus=>exact⟨C3 (ρ:=[‹.str "plus"›,‹fr c›,‹fr d›,‹fr x›,‹fr y›,none]) rfl (by wp_walk using evS,O4,e1,e4;rfl),(bG0 b1 (by omega)).bd.mono (by omega)⟩
 | screen=>exact⟨C3 (ρ:=[‹.str "screen"›,‹fr c›,‹fr d›,‹fr x›,‹fr y›,none]) rfl (by wp_walk using evS,O4,e1,e2,e3;rfl),(b1.sub b2 ml).mono (by omega)⟩
 | over=>exact⟨C3 (ρ:=[‹.str "over"›,‹fr c›,‹fr d›,‹fr x›,‹fr y›,none]) rfl (by wp_walk using evS,O4,r1,et,e6;rfl),(hx.bd.add bt).mono (by omega)⟩
 | mult=>exact⟨C3 (ρ:=[‹.str "multiply"›,‹fr c›,‹fr d›,‹fr x›,‹fr y›,none]) rfl (by wp_walk using evS,O4,r1,r2,et,e2,e7,e8,e9;rfl),(b8.add bt).mono (by omega)⟩
 | atop=>exact⟨C3 (ρ:=[‹.str "atop"›,‹fr c›,‹fr d›,‹fr x›,‹fr y›,none]) rfl (by wp_walk using evS,O4,r1,et,e10,e11;rfl),(b10.add bt).mono (by omega)⟩
 | cut=>exact⟨C3 (ρ:=[‹.str "cut"›,‹fr c›,‹fr d›,‹fr x›,‹fr y›,none]) rfl (by wp_walk using evS,O4,r1,et;rfl),bt.mono (by omega)⟩
theorem ba8(m:Man) {c d:Rat}(hc:0<=c) (hd:0<=d) (hc1:c<=1) (hd1:d<=1):m.cov c d<=1:=by
 have p:0<=(1 - c)*(1 - d):=Rat.mul_nonneg (by grind) (by grind)
 have q:d*(1 - c)<=1*(1 - c):=Rat.mul_le_mul_of_nonneg_right hd1 (by grind)
 cases m<;>simp only[Man.cov,v7]<;>grind
theorem aL5(m:Man) {c d x y:Rat}(hc:0<=c) (hd:0<=d) (hc1:c<=1) (hd1:d<=1) (hx:0<=x) (hy:0<=y) (xc:x<=c) (yd:y<=d):m.col c d x y<=m.cov c d:=by
 have q1:y*(1 - c)<=d*(1 - c):=Rat.mul_le_mul_of_nonneg_right yd (by grind)
 have q2:x*(y+1 - d)<=c*(y+1 - d):=Rat.mul_le_mul_of_nonneg_right xc (by grind)
 have q3:x*d<=c*d:=Rat.mul_le_mul_of_nonneg_right xc hd
 have q4:(1 - c)*(1 - d)<=(1 - x)*(1 - d):=Rat.mul_le_mul_of_nonneg_right (by grind) (by grind)
 have q5:(1 - d)*(1 - x)<=(1 - y)*(1 - x):=Rat.mul_le_mul_of_nonneg_right (by grind) (by grind)
 cases m<;>simp only[Man.cov,Man.col,v7]<;>grind
theorem ct6(a b c d e f:D):(List.zip [a,b,c] [d,e,f])=[(a,d),(b,e),(c,f)]:=rfl
theorem ln2(a b:D):([a,b]:List D).length=2:=rfl
theorem bb3(m:Man) {k:Nat}{c x1 x2 x3 d y1 y2 y3:Rat}(S:Spot k c x1 x2 x3) (T:Spot k d y1 y2 y3) (l:6*k+4<=8000) :
  y6 [.str m.s,sp c x1 x2 x3,sp d y1 y2 y3]=some (sp (m.cov c d) (m.col c d x1 y1) (m.col c d x2 y2) (m.col c d x3 y3))/\Spot (6*k+4) (m.cov c d) (m.col c d x1 y1) (m.col c d x2 y2) (m.col c d x3 y3):=by
 have s1:IsSh k x1:=⟨S.hx,Rat.le_trans S.xc S.hc.le⟩
 have s2:IsSh k x2:=⟨S.hy,Rat.le_trans S.yc S.hc.le⟩
 have s3:IsSh k x3:=⟨S.hz,Rat.le_trans S.zc S.hc.le⟩
 have t1:IsSh k y1:=⟨T.hx,Rat.le_trans T.xc T.hc.le⟩
 have t2:IsSh k y2:=⟨T.hy,Rat.le_trans T.yc T.hc.le⟩
 have t3:IsSh k y3:=⟨T.hz,Rat.le_trans T.zc T.hc.le⟩
 have a0:=bH3 m S.hc T.hc l
 have a1:=aA7 m S.hc T.hc s1 t1 l
 have a2:=aA7 m S.hc T.hc s2 t2 l
 have a3:=aA7 m S.hc T.hc s3 t3 l
 refine⟨?_,⟨⟨a0.2,ba8 m S.hc.bd.nn T.hc.bd.nn S.hc.le T.hc.le⟩,a1.2,a2.2,a3.2,aL5 m S.hc.bd.nn T.hc.bd.nn S.hc.le T.hc.le S.hx.nn T.hx.nn S.xc T.xc,aL5 m S.hc.bd.nn T.hc.bd.nn S.hc.le T.hc.le S.hy.nn T.hy.nn S.yc T.yc,aL5 m S.hc.bd.nn T.hc.bd.nn S.hc.le T.hc.le S.hz.nn T.hz.nn S.zc T.zc⟩⟩
 refine C3 (ρ:=[‹.str m.s›,‹sp c x1 x2 x3›,‹sp d y1 y2 y3›,none,none,none]) rfl ?_
 have f3:∀a b c:D,([a,b,c]:List D).length<=16777216:=fun a b c=>by show 3<=16777216;decide
 wp_walk using evA,aG7,sp,ct6,f3,ln2,a0.1,a1.1,a2.1,a3.1
inductive Rul where
 | turn|grey|round
def Rul.s:Rul->Str
 | .turn => "turn"
 | .grey => "grey"
 | .round => "round"
def third:Rat:=mkRat 1 3
theorem aR8:fr third=.tuple [.int 1,.int 3]:=by
 show PyData.tuple [.int (mkRat 1 3).num,.int (mkRat 1 3).den]=_
 rw[show(mkRat 1 3).num=1 by decide +kernel,show(mkRat 1 3).den=3 by decide +kernel];rfl
theorem bs4:third*3=1:=by decide +kernel
theorem aj7:IsSh 2 third:=⟨⟨by decide +kernel,by decide +kernel,by decide +kernel⟩,by decide +kernel⟩
def Rul.new:Rul->Rat->Rat->Rat->Rat->Rat
 | .turn,c,x,y,z=>c - x
 | .grey,c,x,y,z=>(x+y+z)*third
 | .round,c,x,y,z=>y
def Rul.mix(r:Rul) (s c x y z:Rat):Rat:=s*r.new c x y z+(1 - s)*x
theorem ab7{j k:Nat}{s n o:Rat}(hs:IsSh k s) (hn:Bd j n) (ho:Bd k o) (l:k+j+2*k+1<=8000):aN3 [fr s,fr n,fr o]=some (fr (s*n+(1 - s)*o)):=by
 have e1:=O5 hs.bd hn (by omega)
 have r1:=ag4 hs.bd (by omega) hs.le
 have e2:=O5 (S4 hs).bd ho (by omega)
 have e3:=R8 (hs.bd.mul hn) ((S4 hs).bd.mul ho) (by omega)
 refine C3 (ρ:=[‹fr s›,‹fr n›,‹fr o›]) rfl ?_
 wp_walk using evA,bi1,e1,r1,e2,e3
theorem aN6(r:Rul) {k:Nat}{c x y z:Rat}(S:Spot k c x y z) (l:6*k+6<=8000):aq9 [.str r.s,sp c x y z]=some (sp c (r.new c x y z) (r.new c y z x) (r.new c z x y)):=by
 have e1:=S1 S.hc.bd S.hx (by omega) S.xc
 have e2:=S1 S.hc.bd S.hy (by omega) S.yc
 have e3:=S1 S.hc.bd S.hz (by omega) S.zc
 have b4:=S.hx.add S.hy
 have e4:=R8 S.hx S.hy (by omega)
 have e5:=R8 b4 S.hz (by omega)
 have e6:=O5 (b4.add S.hz) aj7.bd (by omega)
 rw[aR8]at e6
 have g1:(y+z+x)*third=(x+y+z)*third:=by grind
 have g2:(z+x+y)*third=(x+y+z)*third:=by grind
 cases r with
 | turn =>
  refine C3 (ρ:=[‹.str "turn"›,‹sp c x y z›,none,none,none,none,none]) rfl ?_
  wp_walk using evS,ag1,sp,e1,e2,e3;rfl
 | grey =>
  refine C3 (ρ:=[‹.str "grey"›,‹sp c x y z›,none,none,none,none,none]) rfl ?_
  wp_walk using evS,ag1,sp,e4,e5,e6
  simp only[Rul.new,g1,g2]
 | round =>
  refine C3 (ρ:=[‹.str "round"›,‹sp c x y z›,none,none,none,none,none]) rfl ?_
  wp_walk using evS,ag1,sp;rfl
theorem ai7(r:Rul) {k:Nat}{c x y z:Rat}(S:Spot k c x y z):Bd (3*k+4) (r.new c x y z):=by
 cases r with
 | turn=>exact(S.hc.bd.sub S.hx S.xc).mono (by omega)
 | grey=>exact(((S.hx.add S.hy).add S.hz).mul aj7.bd).mono (by omega)
 | round=>exact S.hy.mono (by omega)
theorem Spot.rot{k:Nat}{c x y z:Rat}(S:Spot k c x y z):Spot k c y z x:=⟨S.hc,S.hy,S.hz,S.hx,S.yc,S.zc,S.xc⟩
theorem cb4(r:Rul) {k:Nat}{c x y z:Rat}(S:Spot k c x y z):r.new c x y z<=c:=by
 have h1:=S.xc
 have h2:=S.yc
 have h3:=S.zc
 have h4:=S.hx.nn
 cases r with
 | turn=>simp only[Rul.new];grind
 | grey =>
  simp only[Rul.new]
  have:(x+y+z)*third<=(c+c+c)*third:=Rat.mul_le_mul_of_nonneg_right (by grind) aj7.bd.nn
  have e:(c+c+c)*third=c:=by have:=bs4;grind
  rw[e]at this
  exact this
 | round=>exact h2
theorem aY3(r:Rul) {k:Nat}{s c x y z:Rat}(S:Spot k c x y z) (hs:IsSh k s):r.mix s c x y z<=c:=by
 have h1:r.new c x y z*s<=c*s:=Rat.mul_le_mul_of_nonneg_right (cb4 r S) hs.bd.nn
 have h2:x*(1 - s)<=c*(1 - s):=Rat.mul_le_mul_of_nonneg_right S.xc (by have:=hs.le;grind)
 unfold Rul.mix
 grind
theorem aY4(r:Rul) {k:Nat}{s c x y z:Rat}(S:Spot k c x y z) (hs:IsSh k s):Bd (6*k+6) (r.mix s c x y z):=by
 unfold Rul.mix
 exact((hs.bd.mul (ai7 r S)).add ((S4 hs).bd.mul S.hx)).mono (by omega)
theorem bH5(a b c d e f g h:D):(List.zip [a,b,c,d] [e,f,g,h])=[(a,e),(b,f),(c,g),(d,h)]:=rfl
theorem bs3(r:Rul) {k:Nat}{s c x y z:Rat}(S:Spot k c x y z) (hs:IsSh k s) (l:6*k+6<=8000) :
  av4 [.str r.s,sp c x y z,fr s]=some (sp c (r.mix s c x y z) (r.mix s c y z x) (r.mix s c z x y))/\Spot (6*k+6) c (r.mix s c x y z) (r.mix s c y z x) (r.mix s c z x y):=by
 refine⟨?_,⟨S.hc.mono (by omega),aY4 r S hs,aY4 r S.rot hs,aY4 r S.rot.rot hs,aY3 r S hs,aY3 r S.rot hs,aY3 r S.rot.rot hs⟩⟩
 have e0:=aN6 r S l
 have ec:=ab7 hs S.hc.bd S.hc.bd (by omega)
 have e1:=ab7 hs (ai7 r S) S.hx (by omega)
 have e2:=ab7 hs (ai7 r S.rot) S.hy (by omega)
 have e3:=ab7 hs (ai7 r S.rot.rot) S.hz (by omega)
 have cc:s*c+(1 - s)*c=c:=by grind
 rw[cc]at ec
 refine C3 (ρ:=[‹.str r.s›,‹sp c x y z›,‹fr s›]) rfl ?_
 have f4:∀a b c d:D,([a,b,c,d]:List D).length<=16777216:=fun a b c d=>by show 4<=16777216;decide
 simp only[sp]at e0
 wp_walk using evA,bi0,sp,bH5,f4,ln2,e0,ec,e1,e2,e3
 rfl
theorem cat_tup{xs ys:List D}(h:xs.length+ys.length<=16777216):Z9 (.tuple xs) (.tuple ys)=some (.tuple (xs++ys)):=if_pos h
theorem cx0{k:Nat}{r:Rat}(h:Bd k r):L2.atI [fr r,.tuple [.int 1,.int 1]] (if decide ((r.den:Int) < r.num)=true then(1:Int) else 0)=some (fr (v7 r)):=by
 have e0:(1:Rat).num=1:=rfl
 have e1:(1:Rat).den=1:=rfl
 have q:=Rat.le_iff r 1
 rw[e0,e1]at q
 by_cases l:r<=1
 ·have:¬((r.den:Int) < r.num):=by have:=q.mp l;omega
  rw[decide_eq_false this,if_neg Bool.false_ne_true]
  unfold v7
  rw[if_pos l];rfl
 ·have:(r.den:Int) < r.num:=by
   apply Classical.byContradiction
   intro h
   exact l (q.mpr (by omega))
  rw[decide_eq_true this,if_pos rfl]
  unfold v7
  rw[if_neg l];rfl
def Man.cov':Man->Rat->Rat->Rat
 | .plus,c,d=>c+d
 | .atop,c,d=>d
 | .cut,c,d=>d*(1 - c)
 | _,c,d=>c+d*(1 - c)
def Man.col':Man->Rat->Rat->Rat->Rat->Rat
 | .over,c,d,x,y=>x+y*(1 - c)
 | .mult,c,d,x,y=>x*y+(x*(1 - d)+y*(1 - c))
 | .screen,c,d,x,y=>x+y*(1 - x)
 | .plus,c,d,x,y=>x+y
 | .atop,c,d,x,y=>x*d+y*(1 - c)
 | .cut,c,d,x,y=>y*(1 - c)
theorem o8{r:Rat}(h:r<=1):v7 r=r:=by unfold v7;rw[if_pos h]
theorem ci9(m:Man) {c d:Rat}(hc:0<=c) (hd:0<=d) (hc1:c<=1) (hd1:d<=1):v7 (Man.cov' m c d)=m.cov c d:=by
  have q:=ba8 m hc hd hc1 hd1
  cases m with
  | plus=>rfl
  | atop=>exact o8 q
  | cut=>exact o8 q
  | over =>
            have e:Man.cov' .over c d=Man.cov .over c d:=by simp only[Man.cov',Man.cov];grind
            rw[e];exact o8 q
  | mult =>
            have e:Man.cov' .mult c d=Man.cov .mult c d:=by simp only[Man.cov',Man.cov];grind
            rw[e];exact o8 q
  | screen =>
              have e:Man.cov' .screen c d=Man.cov .screen c d:=by simp only[Man.cov',Man.cov];grind
              rw[e];exact o8 q
theorem bb0(m:Man) {c d x y:Rat}(hc:0<=c) (hd:0<=d) (hc1:c<=1) (hd1:d<=1) (hx:0<=x) (hy:0<=y) (xc:x<=c) (yd:y<=d):v7 (Man.col' m c d x y)=m.col c d x y:=by
  have q:=Rat.le_trans (aL5 m hc hd hc1 hd1 hx hy xc yd) (ba8 m hc hd hc1 hd1)
  cases m with
  | plus=>rfl
  | atop=>exact o8 q
  | cut=>exact o8 q
  | over=>exact o8 q
  | mult =>
            have e:Man.col' .mult c d x y=Man.col .mult c d x y:=by simp only[Man.col',Man.col];grind
            rw[e];exact o8 q
  | screen =>
              have e:Man.col' .screen c d x y=Man.col .screen c d x y:=by simp only[Man.col',Man.col];grind
              rw[e];exact o8 q
theorem z3(a b c d e f:D):(List.zip [a,b,c] [d,e,f]).map (fun(x,y)=>PyData.tuple [x,y])=[.tuple [a,d],.tuple [b,e],.tuple [c,f]]:=rfl
def bS8:DS:=(ag9 7 (A9 (O0 (qN (G8 1 [] (L7 (A1 7)) (B1 0) K3 (dIx (qN (A0 (A1 0) (A0 (D4 (A0 ⇑1 (A0 ⇑1 A2))) A2))) (u9 (A4 gtI (dIx (A5 0) ⇑0) (dIx (A5 0) ⇑1)))))))))
def ar8:DS:=(A6 (B0 10 (A3 K1 (A0 (A1 9) (A0 (A1 5) A2)))) (A6 (sIf (tB2 eqD (A1 0) (dC (.str "over"))) (O9 7 (A3 M3 (A0 (A1 8) (A0 (A1 10) A2)))) G7) (A6 (sIf (tB2 eqD (A1 0) (dC (.str "multiply"))) (O9 7 (A3 M3 (A0 (A3 K1 (A0 (A1 8) (A0 (A1 9) A2))) (A0 (A3 M3 (A0 (A3 K1 (A0 (A1 8) (A0 (A3 W2 (A0 (A1 4) A2)) A2))) (A0 (A1 10) A2))) A2)))) G7) (A6 (sIf (tB2 eqD (A1 0) (dC (.str "screen"))) (O9 7 (A3 M3 (A0 (A1 8) (A0 (A3 K1 (A0 (A1 9) (A0 (A3 W2 (A0 (A1 8) A2)) A2))) A2)))) G7) (A6 (sIf (tB2 eqD (A1 0) (dC (.str "plus"))) (O9 7 (A3 M3 (A0 (A1 8) (A0 (A1 9) A2)))) G7) (A6 (sIf (tB2 eqD (A1 0) (dC (.str "atop"))) (O9 7 (A3 M3 (A0 (A3 K1 (A0 (A1 8) (A0 (A1 4) A2))) (A0 (A1 10) A2)))) G7) (sIf (tB2 eqD (A1 0) (dC (.str "cut"))) (O9 7 (A1 10)) G7)))))))
def Lhd(g:DS):DS:=(A6 (B0 3 (dIx (A5 1) ⇑0)) (A6 (B0 4 (dIx (A5 2) ⇑0)) (A6 (B0 5 (A3 W2 (A0 (A1 3) A2))) (A6 (sIf (P8 (tB2 eqD (A1 0) (dC (.str "atop"))) (tB2 eqD (A1 0) (dC (.str "cut")))) (B0 6 (dIx (qN (A0 (A1 4) (A0 (A3 K1 (A0 (A1 4) (A0 (A1 5) A2))) A2))) (u9 (A4 eqD (A1 0) (dC (.str "cut")))))) (B0 6 (A3 M3 (A0 (A1 3) (A0 (A3 K1 (A0 (A1 4) (A0 (A1 5) A2))) A2))))) (A6 (sIf (tB2 eqD (A1 0) (dC (.str "plus"))) (B0 6 (A3 M3 (A0 (A1 3) (A0 (A1 4) A2)))) G7) (A6 (U1 7 (A0 (A1 6) A2)) g))))))
def bS7:DS:=(P9 (ac6 (qE (Z7 (A1 1) (L4 ⇑1) N6)) (qE (Z7 (A1 2) (L4 ⇑1) N6))) (M6 2 (C2 (B1 8) (C2 (B1 9) N4))) ar8)
theorem bC3:aG6=Lhd (A6 bS7 bS8):=rfl
theorem aL0{g:D->Rho->Option Rho}{f:DS}{d:D}{ds:List D}{ρ ρ1 ρ':Rho}(h1:g d ρ=some ρ1) (h2:f ρ1=some (.nx ρ')):V6 g f (d::ds) ρ=V6 g f ds ρ':=by simp only[V6,h1,xbs,h2]
theorem ax3(m:Man) {k:Nat}{c d x y:Rat}(hc:IsSh k c) (hd:IsSh k d) (hx:IsSh k x) (hy:IsSh k y) (l:6*k+4<=8000) {X:List D}(hX:X.length < 16777216) (a1 a2 a6 a10:Option B) :
  ar8 [‹.str m.s›,a1,a2,‹fr c›,‹fr d›,‹fr (1 - c)›,a6,some (.own X),‹fr x›,‹fr y›,a10]=some (.nx [‹.str m.s›,a1,a2,‹fr c›,‹fr d›,‹fr (1 - c)›,a6,some (.own (X++[fr (Man.col' m c d x y)])),‹fr x›,‹fr y›,‹fr (y*(1 - c))›])/\Bd (6*k+4) (Man.col' m c d x y):=by
 have h1:=S4 hc
 have h2:=S4 hd
 have ek:=N5 hy.bd h1.bd (by omega)
 cases m with
 | over =>
  have e:=R0 hx.bd (hy.bd.mul h1.bd) (by omega)
  exact⟨by(wp_walk using evS,ar8,Man.s,Man.col',O9,ek,e,if_pos hX),(hx.bd.add (hy.bd.mul h1.bd)).mono (by omega)⟩
 | mult =>
  have r2:=af9 hd.bd (by omega) hd.le
  have e1:=N5 hx.bd hy.bd (by omega)
  have e2:=N5 hx.bd h2.bd (by omega)
  have e3:=R0 (hx.bd.mul h2.bd) (hy.bd.mul h1.bd) (by omega)
  have e4:=R0 (hx.bd.mul hy.bd) ((hx.bd.mul h2.bd).add (hy.bd.mul h1.bd)) (by omega)
  exact⟨by(wp_walk using evS,ar8,Man.s,Man.col',O9,ek,r2,e1,e2,e3,e4,if_pos hX),((hx.bd.mul hy.bd).add ((hx.bd.mul h2.bd).add (hy.bd.mul h1.bd))).mono (by omega)⟩
 | screen =>
  have e1:=af9 hx.bd (by omega) hx.le
  have e2:=N5 hy.bd (S4 hx).bd (by omega)
  have e3:=R0 hx.bd (hy.bd.mul (S4 hx).bd) (by omega)
  exact⟨by(wp_walk using evS,ar8,Man.s,Man.col',O9,ek,e1,e2,e3,if_pos hX),(hx.bd.add (hy.bd.mul (S4 hx).bd)).mono (by omega)⟩
 | plus =>
  have e:=R0 hx.bd hy.bd (by omega)
  exact⟨by(wp_walk using evS,ar8,Man.s,Man.col',O9,ek,e,if_pos hX),(hx.bd.add hy.bd).mono (by omega)⟩
 | atop =>
  have e1:=N5 hx.bd hd.bd (by omega)
  have e2:=R0 (hx.bd.mul hd.bd) (hy.bd.mul h1.bd) (by omega)
  exact⟨by(wp_walk using evS,ar8,Man.s,Man.col',O9,ek,e1,e2,if_pos hX),((hx.bd.mul hd.bd).add (hy.bd.mul h1.bd)).mono (by omega)⟩
 | cut=>exact⟨by(wp_walk using evS,ar8,Man.s,Man.col',O9,ek,if_pos hX),(hy.bd.mul h1.bd).mono (by omega)⟩
theorem cc8(m:Man) {k:Nat}{c d:Rat}{x y:List D}(hc:IsSh k c) (hd:IsSh k d) (l:6*k+4<=8000) (g:DS) :
  Lhd g [‹.str m.s›,‹.tuple (fr c::x)›,‹.tuple (fr d::y)›,none,none,none,none,none,none,none,none]=g [‹.str m.s›,‹.tuple (fr c::x)›,‹.tuple (fr d::y)›,‹fr c›,‹fr d›,‹fr (1 - c)›,‹fr (Man.cov' m c d)›,some (.own [fr (Man.cov' m c d)]),none,none,none]/\Bd (6*k+4) (Man.cov' m c d):=by
 have h1:=S4 hc
 have r1:=af9 hc.bd (by omega) hc.le
 have q0:=N5 hd.bd h1.bd (by omega)
 have q1:=R0 hc.bd (hd.bd.mul h1.bd) (by omega)
 have q2:=R0 hc.bd hd.bd (by omega)
 have i0:∀(a:D) (z:List D),L2.atI (a::z) 0=some a:=fun a z=>by unfold L2.atI L2.ixN;simp
 have b1:=(hc.bd.add (hd.bd.mul h1.bd)).mono (k:=6*k+4) (by omega)
 cases m with
 | plus=>exact⟨by(wp_walk using evS,Lhd,Man.s,Man.cov',U1,i0,r1,q0,q1,q2),(hc.bd.add hd.bd).mono (by omega)⟩
 | atop=>exact⟨by(wp_walk using evS,Lhd,Man.s,Man.cov',U1,i0,r1,q0),hd.bd.mono (by omega)⟩
 | cut=>exact⟨by(wp_walk using evS,Lhd,Man.s,Man.cov',U1,i0,r1,q0),(hd.bd.mul h1.bd).mono (by omega)⟩
 | over=>exact⟨by(wp_walk using evS,Lhd,Man.s,Man.cov',U1,i0,r1,q0,q1),b1⟩
 | mult=>exact⟨by(wp_walk using evS,Lhd,Man.s,Man.cov',U1,i0,r1,q0,q1),b1⟩
 | screen=>exact⟨by(wp_walk using evS,Lhd,Man.s,Man.cov',U1,i0,r1,q0,q1),b1⟩
theorem aK1(m:Man) {k:Nat}{c x1 x2 x3 d y1 y2 y3:Rat}(S:Spot k c x1 x2 x3) (T:Spot k d y1 y2 y3) (l:6*k+4<=8000) :
  Z1 [.str m.s,sp c x1 x2 x3,sp d y1 y2 y3]=some (sp (m.cov c d) (m.col c d x1 y1) (m.col c d x2 y2) (m.col c d x3 y3)):=by
 have s1:IsSh k x1:=⟨S.hx,Rat.le_trans S.xc S.hc.le⟩
 have s2:IsSh k x2:=⟨S.hy,Rat.le_trans S.yc S.hc.le⟩
 have s3:IsSh k x3:=⟨S.hz,Rat.le_trans S.zc S.hc.le⟩
 have t1:IsSh k y1:=⟨T.hx,Rat.le_trans T.xc T.hc.le⟩
 have t2:IsSh k y2:=⟨T.hy,Rat.le_trans T.yc T.hc.le⟩
 have t3:IsSh k y3:=⟨T.hz,Rat.le_trans T.zc T.hc.le⟩
 have n:=S.hc.bd.nn
 have n':=T.hc.bd.nn
 have z4:∀a b c d:D,([a,b,c,d]:List D).length<=16777216:=fun a b c d=>by show 4<=16777216;decide
 have fin:∀{k0:Nat}{r0 r1 r2 r3:Rat},Bd k0 r0->Bd k0 r1->Bd k0 r2->Bd k0 r3->∀ρ:Rho,ρ[7]? = some (some (.own [fr r0,fr r1,fr r2,fr r3]))->ρ.length=11 ->
   bS8 ρ=some (.rt (sp (v7 r0) (v7 r1) (v7 r2) (v7 r3))):=by
  intro k0 r0 r1 r2 r3 b0 b1 b2 b3 ρ hρ hl
  have e:(frz 7 ρ)[7]? = some (‹.list [fr r0,fr r1,fr r2,fr r3]›):=by
   unfold frz
   rw[hρ]
   simp only
   rw[List.getElem?_set_self (by omega)]
  have one:∀{r:Rat}(ρ':Rho),Bd k0 r->ρ'=[‹fr r›]->dIx (qN (A0 (A1 0) (A0 (D4 (A0 ⇑1 (A0 ⇑1 A2))) A2))) (u9 (A4 gtI (dIx (A5 0) ⇑0) (dIx (A5 0) ⇑1))) ρ'=some (fr (v7 r)):=by
   intro r ρ' b e
   subst e
   have:=cx0 b
   simp only[dIx,qN,A0,A2,A1,D4,dC,u9,A4,ix0 (v0 _ _),ix1 (v0 _ _),xg0,xbs,xms,ax8]
   have f:A5 0 [some (B.val (fr r))]=some (true,[.int r.num,.int r.den]):=rfl
   simp only[f,az0,ay9,xbs,ax8]
   exact this
  simp only[bS8,ag9,A9,O0,qN,G8,L7,A1,e,xbs,xms,z4,if_true,R4,B1,K3,i8,aw6,xmn,xna,List.append_nil,xw0,one _ b0 rfl,one _ b1 rfl,one _ b2 rfl,one _ b3 rfl,xft,if_false]
  rfl
 have cc:=ci9 m n n' S.hc.le T.hc.le
 have c1:=bb0 m n n' S.hc.le T.hc.le S.hx.nn T.hx.nn S.xc T.xc
 have c2:=bb0 m n n' S.hc.le T.hc.le S.hy.nn T.hy.nn S.yc T.yc
 have c3:=bb0 m n n' S.hc.le T.hc.le S.hz.nn T.hz.nn S.zc T.zc
 rw[← cc,← c1,← c2,← c3]
 refine C3 (ρ:=[‹.str m.s›,‹sp c x1 x2 x3›,‹sp d y1 y2 y3›,none,none,none,none,none,none,none,none]) rfl ?_
 obtain⟨eh,b0⟩:=cc8 m (x:=[fr x1,fr x2,fr x3]) (y:=[fr y1,fr y2,fr y3]) S.hc T.hc l (A6 bS7 bS8)
 rw[bC3]
 refine Eq.trans eh ?_
 obtain⟨e1,b1⟩:=ax3 m S.hc T.hc s1 t1 l (X:=[fr (Man.cov' m c d)]) (by show 1 < _;decide) (‹sp c x1 x2 x3›) (‹sp d y1 y2 y3›) (‹fr (Man.cov' m c d)›) none
 obtain⟨e2,b2⟩:=ax3 m S.hc T.hc s2 t2 l (X:=[fr (Man.cov' m c d),fr (Man.col' m c d x1 y1)]) (by show 2 < _;decide) (‹sp c x1 x2 x3›) (‹sp d y1 y2 y3›) (‹fr (Man.cov' m c d)›) (‹fr (y1*(1 - c))›)
 obtain⟨e3,b3⟩:=ax3 m S.hc T.hc s3 t3 l (X:=[fr (Man.cov' m c d),fr (Man.col' m c d x1 y1),fr (Man.col' m c d x2 y2)]) (by show 3 < _;decide) (‹sp c x1 x2 x3›) (‹sp d y1 y2 y3›) (‹fr (Man.cov' m c d)›) (‹fr (y2*(1 - c))›)
 have s7:bS7 [‹.str m.s›,‹sp c x1 x2 x3›,‹sp d y1 y2 y3›,‹fr c›,‹fr d›,‹fr (1 - c)›,‹fr (Man.cov' m c d)›,some (.own [fr (Man.cov' m c d)]),none,none,none]=some (.nx [‹.str m.s›,‹sp c x1 x2 x3›,‹sp d y1 y2 y3›,‹fr c›,‹fr d›,‹fr (1 - c)›,‹fr (Man.cov' m c d)›,some (.own [fr (Man.cov' m c d),fr (Man.col' m c d x1 y1),fr (Man.col' m c d x2 y2),fr (Man.col' m c d x3 y3)]),‹fr x3›,‹fr y3›,‹fr (y3*(1 - c))›]):=by
  have zi:∀(a:Option B) (r:Rho),ac6 (qE (Z7 (A1 1) (L4 ⇑1) N6)) (qE (Z7 (A1 2) (L4 ⇑1) N6)) (a::‹sp c x1 x2 x3›::‹sp d y1 y2 y3›::r)=some [.tuple [fr x1,fr y1],.tuple [fr x2,fr y2],.tuple [fr x3,fr y3]]:=fun a r=>by wp_walk using evA,sp,z3,ln2
  unfold bS7 P9
  rw[zi,xbs,aL0 rfl e1,aL0 rfl e2,aL0 rfl e3]
  rfl
 have s8:∀{f g:DS}{ρ ρ':Rho},f ρ=some (.nx ρ')->A6 f g ρ=g ρ':=fun{f g ρ ρ'} h=>by unfold A6;rw[h];rfl
 exact(s8 s7).trans (fin b0 b1 b2 b3 _ rfl rfl)
structure Q4 where
 c:Rat
 x:Rat
 y:Rat
 z:Rat
def Q4.d(q:Q4):D:=sp q.c q.x q.y q.z
def Q4.ok(k:Nat) (q:Q4):Prop:=Spot k q.c q.x q.y q.z
def q0:Q4:=⟨0,0,0,0⟩
theorem bY4:q0.d=.tuple [.tuple [.int 0,.int 1],.tuple [.int 0,.int 1],.tuple [.int 0,.int 1],.tuple [.int 0,.int 1]]:=rfl
theorem cn7{k:Nat}(hk:1<=k):q0.ok k:=by
 have z:IsSh k 0:=⟨Bd.zero.mono hk,by decide⟩
 exact⟨z,z.bd,z.bd,z.bd,Rat.le_refl,Rat.le_refl,Rat.le_refl⟩
theorem Q4.ok.mono{j k:Nat}{q:Q4}(h:q.ok j) (l:j<=k):q.ok k:=Spot.mono h l
def Ly(n:Nat) (d:D):Prop:=PyData.canLay0 d=true/\PyData.depth d<=n
theorem az1{n:Nat}:∀xs:List D,(∀x∈xs,Ly n x)->PyData.canLayAll0 xs=true/\PyData.depthAll xs<=n
 | [],_=>⟨rfl,Nat.zero_le _⟩
 | x::xs,g=>by
  have a:=g x (List.mem_cons_self ..)
  have b:=az1 xs fun y hy=>g y (xmm _ hy)
  refine⟨?_,?_⟩
  ·show(PyData.canLay0 x&&PyData.canLayAll0 xs)=true
   rw[a.1,b.1];rfl
  ·show max (PyData.depth x) (PyData.depthAll xs)<=n
   have:=a.2;have:=b.2;omega
theorem Ly.tup{n:Nat}{xs:List D}(h:∀x∈xs,Ly n x):Ly (n+1) (.tuple xs):=⟨(az1 xs h).1,Nat.succ_le_succ (az1 xs h).2⟩
theorem Ly.lst{n:Nat}{xs:List D}(h:∀x∈xs,Ly n x):Ly (n+1) (.list xs):=⟨(az1 xs h).1,Nat.succ_le_succ (az1 xs h).2⟩
theorem Ly.int(n:Nat) (i:Int):Ly n (.int i):=⟨rfl,Nat.zero_le _⟩
theorem Ly.mono{m n:Nat}{d:D}(h:Ly m d) (l:m<=n):Ly n d:=⟨h.1,Nat.le_trans h.2 l⟩
theorem Ly.shaped{n:Nat}{d:D}(g:Ly n d) (hn:n<=64):SeqAt.shaped d=true:=by
 unfold SeqAt.shaped
 rw[g.1,Bool.true_and]
 exact decide_eq_true (by have:=g.2;omega)
theorem Ly.q4(q:Q4) (n:Nat):Ly (n+2) q.d:=⟨rfl,by show 2<=n+2;omega⟩
theorem Ly.spots(l:List Q4) (n:Nat):Ly (n+3) (.tuple (l.map Q4.d)):=Ly.tup fun x hx=>by
 obtain⟨q,_,rfl⟩:=List.mem_map.mp hx
 exact Ly.q4 q n
theorem au4{n:Nat}{d:D}(g:Ly n d) (hn:n<=64):neD d d=some (.bool false):=by
 unfold neD
 rw[if_pos ⟨g.shaped hn,g.shaped hn⟩,SeqAt.eqv_refl d g.1];rfl
def shD(w h:Nat) (l:List Q4):D:=.tuple [.int w,.int h,.tuple (l.map Q4.d)]
theorem Ly.sheet(w h:Nat) (l:List Q4):Ly 4 (shD w h l):=Ly.tup fun x hx=>by
 simp only[List.mem_cons,List.not_mem_nil,or_false]at hx
 rcases hx with rfl|rfl|rfl
 ·exact Ly.int _ _
 ·exact Ly.int _ _
 ·exact Ly.spots l 0
def atQ(w h:Nat) (l:List Q4) (x y:Int):Q4:=if 0<=x/\x < w/\0<=y/\y < h then l.getD (y*w+x).toNat q0 else q0
structure ShOk (k:Nat) (w h:Nat) (l:List Q4):Prop where
 w1:1<=w
 w8:w<=8
 h1:1<=h
 h8:h<=8
 len:l.length=w*h
 ok:∀q∈l,q.ok k
theorem bU9{α:Type}{e:DE}{r:Rho}{h f:α->D}:∀(l:List α) (x:Option B),(∀a∈l,e (‹h a›::r)=some (f a))->R4 (B1 0) K3 e (l.map h) (x::r)=some (l.map f)
 | [],_,_=>rfl
 | a::l,x,H=>by simp only[xmc,R4,B1,xw0,xbs,K3,if_true,H a (List.mem_cons_self ..),bU9 l _ (fun b hb=>H b (xmm _ hb)),xms]
theorem bU8{α:Type}{e:DE}{r:Rho}{h1 h2 f:α->D}:∀(l:List α) (x y:Option B),(∀a∈l,e (‹h1 a›::‹h2 a›::r)=some (f a))->R4 (M6 2 (C2 (B1 0) (C2 (B1 1) N4))) K3 e (l.map fun a=>.tuple [h1 a,h2 a]) (x::y::r)=some (l.map f)
 | [],_,_,_=>rfl
 | a::l,x,y,H=>by
  have hl:([h1 a,h2 a]:List D).length=2:=rfl
  simp only[xmc,R4,M6,C2,N4,B1,hl,if_true,xw0,xw1,xbs,K3,if_true,H a (List.mem_cons_self ..),bU8 l _ _ (fun b hb=>H b (xmm _ hb)),xms]
theorem bF6{α:Type}{c:Rho->Option Bool}{e:DE}{r:Rho}{h f:α->D}{p:α->Bool}:∀(l:List α) (x:Option B),(∀a∈l,c (‹h a›::r)=some (p a))->(∀a∈l,e (‹h a›::r)=some (f a))->R4 (B1 0) c e (l.map h) (x::r)=some ((l.filter p).map f)
 | [],_,_,_=>rfl
 | a::l,x,C,H=>by
  have ih:=bF6 l (‹h a›) (fun b hb=>C b (xmm _ hb)) (fun b hb=>H b (xmm _ hb))
  cases q:p a with
  | true =>simp only[xmc,R4,B1,xw0,xbs,C a (List.mem_cons_self ..),q,if_true,H a (List.mem_cons_self ..),ih,xms,List.filter_cons_of_pos q]
  | false =>
   have q':¬p a=true:=by rw[q];exact Bool.false_ne_true
   simp only[xmc,R4,B1,xw0,xbs,C a (List.mem_cons_self ..),q,xft,if_false,ih,List.filter_cons_of_neg q']
theorem n9{α:Type}{caps:List Nat}{src:Rho->Option (List D)}{e:DE}{ρ r:Rho}{l:List α}{h f:α->D}(hr:i8 1 caps ρ=none::r) (hs:src ρ=some (l.map h)) (hl:l.length<=1000) (H:∀a∈l,e (‹h a›::r)=some (f a)) :
  G8 1 caps src (B1 0) K3 e ρ=some (l.map f):=by
 unfold G8
 rw[hs,xbs,if_pos (by rw[List.length_map];omega),hr,bU9 l _ H]
theorem cb9{α:Type}{caps:List Nat}{src:Rho->Option (List D)}{e:DE}{ρ r:Rho}{l:List α}{h1 h2 f:α->D}(hr:i8 2 caps ρ=none::none::r) (hs:src ρ=some (l.map fun a=>.tuple [h1 a,h2 a])) (hl:l.length<=1000) (H:∀a∈l,e (‹h1 a›::‹h2 a›::r)=some (f a)) :
  G8 2 caps src (M6 2 (C2 (B1 0) (C2 (B1 1) N4))) K3 e ρ=some (l.map f):=by
 unfold G8
 rw[hs,xbs,if_pos (by rw[List.length_map];omega),hr,bU8 l _ _ H]
theorem bf1{α:Type}{caps:List Nat}{src:Rho->Option (List D)}{c:Rho->Option Bool}{e:DE}{ρ r:Rho}{l:List α}{h f:α->D}{p:α->Bool}(hr:i8 1 caps ρ=none::r) (hs:src ρ=some (l.map h)) (hl:l.length<=1000) (C:∀a∈l,c (‹h a›::r)=some (p a)) (H:∀a∈l,e (‹h a›::r)=some (f a)) :
  G8 1 caps src (B1 0) c e ρ=some ((l.filter p).map f):=by
 unfold G8
 rw[hs,xbs,if_pos (by rw[List.length_map];omega),hr,bF6 l _ C H]
theorem k7{f:DE}{ρ:Rho}{n:Nat}(h:f ρ=some (.int n)) (hn:n<=1000):O1 f ρ=some ((List.range n).map fun k:Nat=>PyData.int k):=by
 unfold O1
 rw[h,xbs]
 show(if -(2 ^ 62)<=(n:Int)/\(n:Int) < 2 ^ 62 then some (aa4 0 n) else none)=_
 rw[if_pos ⟨by omega,by omega⟩]
 unfold aa4
 congr 1
 have e:((n:Int) - 0).toNat=n:=by omega
 rw[e]
 apply List.map_congr_left
 intro k _
 congr 1
 omega
theorem aY2{i j:Int}(h1:N0 i) (h2:N0 j):L6 (.int i) (.int j)=some (.int (i*j)):=Q7 h1 h2
theorem S7{i j:Nat}(h1:i<=1000) (h2:j<=1000):L6 (.int i) (.int j)=some (.int ((i*j:Nat):Int)):=by rw[aY2 (p9 (k:=10) (by omega) (by decide)) (p9 (k:=10) (by omega) (by decide)),Int.natCast_mul]
theorem sm8{i:Int}(h0:0<=i) (h:i<=1000):N0 i:=av9 h0 (by omega)
def plc(w n:Nat):List (Int×Int):=(List.range n).map fun k=>(((k % w:Nat):Int),((k / w:Nat):Int))
theorem bk0{w h:Nat}(w1:1<=w) (w8:w<=8) (h8:h<=8):X8 [.int w,.int h]=some (.list ((plc w (w*h)).map fun p=>.tuple [.int p.1,.int p.2])):=by
 refine C3 (ρ:=[‹.int w›,‹.int h›]) rfl ?_
 have hm:(A4 L6 (A1 0) (A1 1)) [‹.int w›,‹.int h›]=some (.int ((w*h:Nat):Int)):=S7 (by omega) (by omega)
 have wh:w*h<=64:=Nat.mul_le_mul w8 h8
 unfold ar9 A9 P0
 rw[n9 (l:=List.range (w*h)) (h:=fun k:Nat=>PyData.int k) (f:=fun k=>.tuple [.int ((k % w:Nat):Int),.int ((k / w:Nat):Int)]) (r:=[‹.int w›]) rfl (k7 hm (by omega)) (by rw[List.length_range];omega) ?_]
 ·unfold plc
  rw[List.map_map];rfl
 ·intro k _
  have wp:(0:Int) < (w:Int):=by omega
  simp only[D4,A0,A2,A4,A1,xg0,xg1,xbs,xms,ax1 wp,aF0 wp (sm8 (by omega) (by omega))]
  rfl
theorem aJ1(w n:Nat):(plc w n).length=n:=by unfold plc;rw[List.length_map,List.length_range]
theorem am8(w h:Int) (s:D) (x y:Int):X9 [.tuple [.int w,.int h,s],.int x,.int y]=some (.bool (decide (0<=x/\x < w/\0<=y/\y < h))):=by
 refine C3 (ρ:=[‹.tuple [.int w,.int h,s]›,‹.int x›,‹.int y›]) rfl ?_
 by_cases a:0<=x<;>by_cases b:x < w<;>by_cases c:0<=y<;>by_cases e:y < h<;>simp[as3,A6,B0,A9,sIf,G7,V3,ac5,A1,dC,D4,P0,A4,A3,T8,dOr,aq3,P6,dIx,V5,O0,ab1,u9,Z8,A5,qE,qN,ae0,N6,L4,ae7,A2,A0,M1,tB2,U0,P8,M5,ai6,N9,K3,B1,M6,C2,N4,L7,ap8,xg0,xg1,xw0,xw1,xbs,xms,xmc,xmn,xna,xca,ae9,p8,aB4,aB2,at0,aJ7,ax8,aM3,aM2,aM1,aM0,aM5,aM4,aC5,az0,ay9,xnt,xnf,xft,if_true,if_false,ab4,as5,a,b,c,e]
theorem ap7{n:Nat}{i:Int}(h0:0<=i) (h1:i < n):ixN n i=some i.toNat:=by unfold ixN;rw[if_pos h0,if_pos h1]
theorem atD(l:List Q4) {i:Int}(h0:0<=i) (h1:i < l.length):L2.atI (l.map Q4.d) i=some (l.getD i.toNat q0).d:=by
 unfold L2.atI
 rw[List.length_map,ap7 h0 h1,xbs,List.getElem?_map,List.getD_eq_getElem?_getD]
 have:i.toNat < l.length:=by omega
 rw[List.getElem?_eq_getElem this];rfl
theorem af6{w h:Nat}{x y:Int}(b:0<=x/\x < w/\0<=y/\y < h):0<=y*w+x/\y*w+x < ((w*h:Nat):Int):=by
 obtain⟨a,b,c,e⟩:=b
 have p:0<=y*(w:Int):=Int.mul_nonneg c (by omega)
 refine⟨by omega,?_⟩
 have:(y+1)*(w:Int)<=h*(w:Int):=Int.mul_le_mul_of_nonneg_right (by omega) (by omega)
 have e2:(y+1)*(w:Int)=y*w+w:=by rw[Int.add_mul,Int.one_mul]
 have e3:((w*h:Nat):Int)=h*w:=by rw[Int.natCast_mul,Int.mul_comm]
 omega
theorem aD8{w h:Nat}{x y:Int}(s:D) (w8:w<=8) (h8:h<=8) (b:0<=x/\x < w/\0<=y/\y < h):Q5 [.tuple [.int w,.int h,s],.int x,.int y]=some (.int (y*w+x)):=by
 refine C3 (ρ:=[‹.tuple [.int w,.int h,s]›,‹.int x›,‹.int y›]) rfl ?_
 wp_walk using evD,m8,aY2 (sm8 b.2.2.1 (by omega)) (sm8 (show(0:Int)<=w by omega) (by omega))
theorem aW7{k w h:Nat}{l:List Q4}(S:ShOk k w h l) (x y:Int):aq7 [shD w h l,.int x,.int y]=some (atQ w h l x y).d:=by
 refine C3 (ρ:=[‹shD w h l›,‹.int x›,‹.int y›]) rfl ?_
 have hp:=am8 w h (.tuple (l.map Q4.d)) x y
 unfold atQ
 by_cases b:0<=x/\x < w/\0<=y/\y < h
 ·rw[if_pos b]
  rw[decide_eq_true b]at hp
  have nm:=aD8 (.tuple (l.map Q4.d)) S.w8 S.h8 b
  have pn:=af6 b
  have e:=atD l pn.1 (by rw[S.len];exact pn.2)
  wp_walk using evD,aq4,shD,hp,nm,e
 ·rw[if_neg b]
  rw[decide_eq_false b]at hp
  wp_walk using evD,aq4,shD,hp
  rfl
theorem bY3:L6 (.tuple [.tuple [.int 0,.int 1]]) (.int 4)=some q0.d:=rfl
def Man.bl(m:Man) (a b:Q4):Q4:=⟨m.cov a.c b.c,m.col a.c b.c a.x b.x,m.col a.c b.c a.y b.y,m.col a.c b.c a.z b.z⟩
theorem cs9(m:Man) {k:Nat}{a b:Q4}(S:a.ok k) (T:b.ok k) (l:6*k+4<=8000):y6 [.str m.s,a.d,b.d]=some (m.bl a b).d/\(m.bl a b).ok (6*k+4):=bb3 m S T l
theorem bl5(m:Man) {k:Nat}{a b:Q4}(S:a.ok k) (T:b.ok k) (l:6*k+4<=8000):Z1 [.str m.s,a.d,b.d]=some (m.bl a b).d:=aK1 m S T l
abbrev scr(ns:List Int):D:=.list (ns.map PyData.int)
theorem aS5(ns:List Int) (k m:Nat) (hn:ns.length<=63) (hk:k < 2 ^ 60) (hm:0 < m):∃n:Nat,A7 [scr ns,.int k,.int m]=some (.int n)/\n < m:=by
 have a:=av5 ns k m hn hk (by omega)
 have b:=au8 ns k m (by omega)
 refine⟨(an1 ns k m).toNat,?_,by omega⟩
 rw[a]
 congr 2
 omega
theorem au9{h:D->D->Option D}{f g:DE}{ρ:Rho}{x y:D}(h1:f ρ=some x) (h2:g ρ=some y):A4 h f g ρ=h x y:=by unfold A4;rw[h1,xbs,h2,xbs]
theorem Z3{α:Type}(a:α):∀n:Nat,(List.replicate n [a]).flatten=List.replicate n a
 | 0=>rfl
 | n+1=>by rw[List.replicate_succ,List.flatten_cons,Z3 a n];rfl
theorem bx1{xs:List D}{n:Nat}(hn:n<=1000) (hx:xs.length<=1000):L6 (.list xs) (.int n)=some (.list (List.replicate n xs).flatten):=by
 show(if 0<=(n:Int)/\(n:Int) < 1000000/\xs.length*((n:Int)).toNat<=16777216 then some (PyData.list (List.replicate ((n:Int)).toNat xs).flatten) else none)=_
 rw[Int.toNat_natCast,if_pos ⟨by omega,by omega,Nat.le_trans (Nat.mul_le_mul hx hn) (by decide)⟩]
theorem cw9(a:D) (r:List D):ab3 (a::r) none (some 1)=[a]:=by
 unfold ab3
 have h1:HT.sIx (a::r).length 0 none=0:=by simp[HT.sIx]
 have h2:HT.sIx (a::r).length (a::r).length (some 1)=1:=by simp only[HT.sIx,List.length_cons];first|omega|(simp;omega)|simp
 rw[h1,h2];rfl
theorem aN2(ns:List Int) (k:Nat) (hn:ns.length<=63) (hk:k < 2 ^ 30):∃q:Q4,U3 [scr ns,.int k]=some q.d/\q.ok 8:=by
 obtain⟨c,x,y,z,e,S⟩:=ck2 ns k hn hk
 exact⟨⟨c,x,y,z⟩,e,S⟩
theorem bt2(ns:List Int) (at':Nat) (hn:ns.length<=63) (ha:at' < 2 ^ 20):∃f:Nat->Q4,∀k,k < 1000->U3 [scr ns,.int ((at'+12*k:Nat):Int)]=some (f k).d/\(f k).ok 8:=by
 refine⟨fun k=>if h:k < 1000 then Classical.choose (aN2 ns (at'+12*k) hn (by omega)) else q0,fun k hk=>?_⟩
 simp only[dif_pos hk]
 exact Classical.choose_spec (aN2 ns (at'+12*k) hn (by omega))
theorem aK0(ns:List Int) (at' w h:Nat) (hn:ns.length<=63) (ha:at' < 2 ^ 20) (w1:1<=w) (w8:w<=8) (h1:1<=h) (h8:h<=8):∃l:List Q4,ag6 [scr ns,.int at',.int w,.int h]=some (shD w h l)/\ShOk 8 w h l:=by
 obtain⟨f,hf⟩:=bt2 ns at' hn ha
 have wh:w*h<=64:=Nat.mul_le_mul w8 h8
 have wh1:1<=w*h:=Nat.mul_le_mul w1 h1
 obtain⟨t,et,ht⟩:=aS5 ns (at'+7) 3 hn (by omega) (by decide)
 have et':A7 [scr ns,.int ((at':Int)+7),.int 3]=some (.int t):=by rw[← et];simp
 have c:G8 1 [0,1] (O1 (A4 L6 (A1 2) (A1 3))) (B1 0) K3 (A3 U3 (A0 (A1 1) (A0 (A4 C0 (A1 2) (A4 L6 ⇑12 (A1 0))) A2))) [‹scr ns›,‹.int at'›,‹.int w›,‹.int h›,none]=some ((List.range (w*h)).map fun k=>(f k).d):=by
  refine n9 (l:=List.range (w*h)) (h:=fun k:Nat=>PyData.int k) (r:=[‹scr ns›,‹.int at'›]) rfl (k7 ?_ (by omega)) (by rw[List.length_range];omega) ?_
  ·exact S7 (by omega) (by omega)
  ·intro k hk
   have hk:=List.mem_range.mp hk
   have m12:L6 (.int 12) (.int k)=some (.int ((12*k:Nat):Int)):=S7 (i:=12) (by decide) (by omega)
   have e1:((at':Int)+((12*k:Nat):Int))=((at'+12*k:Nat):Int):=by omega
   wp_walk using evD,m12,e1,(hf k (by omega)).1
 have mwh:L6 (.int w) (.int h)=some (.int ((w*h:Nat):Int)):=S7 (by omega) (by omega)
 have cv:((t:Int)==0)=decide (t=0):=by cases t with
  | zero=>rfl
  | succ n=>rw[decide_eq_false (by omega)];exact beq_eq_false_iff_ne.mpr (by omega)
 obtain⟨n,en⟩:∃n,w*h=n+1:=⟨w*h - 1,by omega⟩
 by_cases t0:t=0
 ·refine⟨List.replicate (w*h) (f 0),?_,w1,w8,h1,h8,List.length_replicate ..,fun q hq=>by rw[(List.mem_replicate.mp hq).2];exact(hf 0 (by decide)).2⟩
  refine C3 (ρ:=[‹scr ns›,‹.int at'›,‹.int w›,‹.int h›,none]) rfl ?_
  have hd:(List.range (w*h)).map (fun k=>(f k).d)=(f 0).d::(List.range n).map (fun k=>(f (k+1)).d):=by rw[en,List.range_succ_eq_map,xmc,List.map_map];rfl
  rw[hd]at c
  have v:A4 L6 (u8 (A1 4) N6 (L4 ⇑1)) (A4 L6 (A1 2) (A1 3)) [‹scr ns›,‹.int at'›,‹.int w›,‹.int h›,‹.list ((f 0).d::(List.range n).map (fun k=>(f (k+1)).d))›]=some (.list (List.replicate (w*h) (f 0).d)):=by
   have a1:u8 (A1 4) N6 (L4 ⇑1) [‹scr ns›,‹.int at'›,‹.int w›,‹.int h›,‹.list ((f 0).d::(List.range n).map (fun k=>(f (k+1)).d))›]=some (.list (ab3 ((f 0).d::(List.range n).map (fun k=>(f (k+1)).d)) none (some 1))):=rfl
   have a2:A4 L6 (A1 2) (A1 3) [‹scr ns›,‹.int at'›,‹.int w›,‹.int h›,‹.list ((f 0).d::(List.range n).map (fun k=>(f (k+1)).d))›]=some (.int ((w*h:Nat):Int)):=(au9 rfl rfl).trans mwh
   rw[cw9]at a1
   have a3:=bx1 (xs:=[(f 0).d]) (show w*h<=1000 by omega) (show 1<=1000 by decide)
   rw[Z3]at a3
   exact(au9 a1 a2).trans a3
  have t1:tB2 eqD (A3 A7 (A0 (A1 0) (A0 (A4 C0 (A1 1) ⇑7) (A0 ⇑3 A2)))) ⇑0 [‹scr ns›,‹.int at'›,‹.int w›,‹.int h›,‹.list ((f 0).d::(List.range n).map (fun k=>(f (k+1)).d))›]=some true:=by simp only[tB2,A4,A3,A0,A2,A1,dC,xms,xbs,xg0,xg1,ab4,et',at0,cv,decide_eq_true t0,N9]
  simp only[aq5,A6,V3,c,sIf,t1,B0,v,A9,D4,A0,A2,O0,A5,A1,xms,xbs,xw0,xw1,xg0,xg1,if_true,xft,if_false,shD,List.map_replicate]
 ·refine⟨(List.range (w*h)).map f,?_,w1,w8,h1,h8,by rw[List.length_map,List.length_range],fun q hq=>by
   obtain⟨k,hk,rfl⟩:=List.mem_map.mp hq
   exact(hf k (by have:=List.mem_range.mp hk;omega)).2⟩
  refine C3 (ρ:=[‹scr ns›,‹.int at'›,‹.int w›,‹.int h›,none]) rfl ?_
  wp_walk using evD,aq5,c,et',cv,decide_eq_false t0,shD,List.map_map
  rfl
theorem az2{α:Type}(f:α->Bool):∀l:List α,bG6 (l.map fun a=>PyData.bool (f a))=some (l.all f)
 | []=>rfl
 | a::l=>by
  show(bG6 (l.map fun a=>PyData.bool (f a))).map (fun c=>f a&&c)=_
  rw[az2 f l];rfl
theorem az4{j k:Nat}{r s:Rat}(hr:Bd j r) (hs:Bd k s) (l:j+k<=8000) (hl:s<=r):U4 [.int (r.num*s.den - s.num*r.den),.int (r.den*s.den)]=some (fr (r - s)):=by
 have:=aA4 (r.num.natAbs*s.den - s.num.natAbs*r.den) (r.den*s.den) (j+k) (Nat.mul_pos (N1 r) (N1 s)) (O3 hr.den hs.den) l
 rw[← au3 hr hs hl,Int.ofNat_sub (aH2 hr hs hl),Int.natCast_mul,Int.natCast_mul,Int.natCast_mul,← hr.nat,← hs.nat]at this
 exact this
theorem ao5{j k:Nat}{s n o:Rat}(hs:IsSh k s) (hn:Bd j n) (ho:Bd k o) (l:k+j+2*k+1<=8000) :
  K1 [fr n,fr s]=some (fr (n*s))/\K1 [fr o,fr (1 - s)]=some (fr (o*(1 - s)))/\M3 [fr (n*s),fr (o*(1 - s))]=some (fr (s*n+(1 - s)*o)):=by
 have e:s*n+(1 - s)*o=n*s+o*(1 - s):=by grind
 rw[e]
 exact⟨N5 hn hs.bd (by omega),N5 ho (S4 hs).bd (by omega),R0 (hn.mul hs.bd) (ho.mul (S4 hs).bd) (by omega)⟩
theorem cs8(a b c d:D):Z9 (.tuple [a]) (.tuple [b,c,d])=some (.tuple [a,b,c,d]):=rfl
theorem ln4(a b c d:D):([a,b,c,d]:List D).length=4:=rfl
theorem bg3(a b c d:D) (g:List D->Rho->Option Rho) (ρ:Rho):M6 4 g (.tuple [a,b,c,d]) ρ=g [a,b,c,d] ρ:=rfl
theorem q4:(4:Nat)<=16777216:=by decide
theorem q3:(3:Nat)<=16777216:=by decide
theorem cs7{e:DE}{x y z X Y Z:D}{t:Option B}(h1:e [‹x›,t]=some X) (h2:e [‹y›,t]=some Y) (h3:e [‹z›,t]=some Z):R4 (B1 0) K3 e [x,y,z] [none,t]=some [X,Y,Z]:=by simp only[R4,B1,K3,xbs,xms,xw0,h1,h2,h3,if_true]
theorem aQ7(r:Rul) {k:Nat}{s c x y z:Rat}(S:Spot k c x y z) (hs:IsSh k s) (l:6*k+6<=8000) :
  af4 [.str r.s,sp c x y z,fr s]=some (sp c (r.mix s c x y z) (r.mix s c y z x) (r.mix s c z x y)):=by
 have f4:∀a b c d:D,([a,b,c,d]:List D).length<=16777216:=fun a b c d=>by show 4<=16777216;decide
 have f3:∀a b c:D,([a,b,c]:List D).length<=16777216:=fun a b c=>by show 3<=16777216;decide
 have p1:=R0 S.hy S.hz (by omega)
 have b1:=S.hy.add S.hz
 have p2:=R0 S.hx b1 (by omega)
 have b2:=S.hx.add b1
 have p3:=N5 b2 aj7.bd (by omega)
 rw[aR8]at p3
 have g0:(x+(y+z))*third=(x+y+z)*third:=by grind
 have g1:(y+z+x)*third=(x+y+z)*third:=by grind
 have g2:(z+x+y)*third=(x+y+z)*third:=by grind
 rw[g0]at p3
 have rs:=af9 hs.bd (by omega) hs.le
 obtain⟨c1,c2,c3⟩:=ao5 hs S.hc.bd S.hc.bd (by omega)
 have cc:s*c+(1 - s)*c=c:=by grind
 rw[cc]at c3
 obtain⟨x1,x2,x3⟩:=ao5 hs (ai7 r S) S.hx (by omega)
 obtain⟨y1,y2,y3⟩:=ao5 hs (ai7 r S.rot) S.hy (by omega)
 obtain⟨z1,z2,z3⟩:=ao5 hs (ai7 r S.rot.rot) S.hz (by omega)
 refine C3 (ρ:=[‹.str r.s›,‹sp c x y z›,‹fr s›,none,none,none,none,none,none,none]) rfl ?_
 cases r with
 | turn =>
  have t1:=az4 S.hc.bd S.hx (by omega) S.xc
  have t2:=az4 S.hc.bd S.hy (by omega) S.yc
  have t3:=az4 S.hc.bd S.hz (by omega) S.zc
  simp only[Rul.new]at x1 y1 z1 x3 y3 z3
  have one:∀{u:Rat},Bd k u->∀v:D,U4 [.int (c.num*u.den - u.num*c.den),.int (c.den*u.den)]=some v->A3 U4 (A0 (A4 ac8 (A4 S8 (dIx (A5 1) ⇑0) (dIx (A5 0) ⇑1)) (A4 S8 (dIx (A5 0) ⇑0) (dIx (A5 1) ⇑1))) (A0 (A4 S8 (dIx (A5 1) ⇑1) (dIx (A5 0) ⇑1)) A2)) [‹fr u›,‹fr c›]=some v:=by
   intro u hu v hv
   simp only[A3,A0,A2,A4,ix0 (v0 _ _),ix1 (v0 _ _),ix0 (v1 _ _ _),ix1 (v1 _ _ _),xbs,xms,Q7 (S.hc.bd.sn (by omega)) (hu.sd (by omega)),Q7 (hu.sn (by omega)) (S.hc.bd.sd (by omega)),Q7 (S.hc.bd.sd (by omega)) (hu.sd (by omega)),p8]
   exact hv
  have inner:=cs7 (one S.hx _ t1) (one S.hy _ t2) (one S.hz _ t3)
  simp only[ao7,Rul.s,sp,A6,B0,A9,sIf,G7,V3,ac5,A1,dC,D4,P0,A4,A3,ab0,T8,dOr,aq3,P6,dIx,Z7,V5,O0,ab1,u9,Z8,A5,qE,qN,ae0,N6,L4,ae7,A2,A0,M1,tB2,U0,P8,M5,ai6,N9,G8,i8,K3,B1,M6,C2,N4,L7,O1,ac6,ap8,xg0,xg1,xw0,xw1,xbs,xms,xmc,xmn,xna,xca,ae9,p8,aB4,aB2,at0,aJ7,ax8,aB1,aw6,aB0,ah7,aM3,aM2,aM1,aM0,aM5,aM4,aC5,az0,ay9,xnt,xnf,xft,if_true,if_false,ite_true,ite_false,bg3,ln4,ln2,q4,q3,f4,f3,E9,J2,B8,E8,F0,G2,J4,L8,F4,J3,J5,K4,B4,E4,A8,B3,B5,C9,E6,J1,B7,E5,E7,G1,F8,J7,B9,F7,F9,G6,G4,K5,D3,G3,G5,J6,E2,E3,C8,F5,F6,D2,D0,D1,B6,D7,D8,C4,D9,E1,C7,C5,C6,B2,p1,p2,p3,inner,cs8,bH5,rs,c1,c2,c3,x1,x2,x3,y1,y2,y3,z1,z2,z3,Rul.mix,Rul.new]
  wp_walk using evA,bg3,ln4,ln2,q4,q3,f4,f3,c1,c2,c3,x1,x2,x3,y1,y2,y3,z1,z2,z3
 | grey =>
  simp only[Rul.new,g1,g2]at x1 y1 z1 x3 y3 z3
  wp_walk using evS,ao7,Rul.s,sp,bg3,ln4,q4,ln2,p1,p2,p3,bH5,f4,rs,c1,c2,c3,x1,x2,x3,y1,y2,y3,z1,z2,z3,Rul.mix,Rul.new,g1,g2
 | round =>
  simp only[Rul.new]at x1 y1 z1 x3 y3 z3
  wp_walk using evS,ao7,Rul.s,sp,bg3,ln4,q4,ln2,p1,p2,p3,bH5,f4,rs,c1,c2,c3,x1,x2,x3,y1,y2,y3,z1,z2,z3,Rul.mix,Rul.new
def Dv(N:Nat) (r:Rat):Prop:=∃z:Int,r*(N:Rat)=(z:Rat)
theorem Dv.add{N:Nat}{r s:Rat}(h:Dv N r) (g:Dv N s):Dv N (r+s):=by
 obtain⟨a,ha⟩:=h;obtain⟨b,hb⟩:=g
 exact⟨a+b,by rw[Rat.add_mul,ha,hb,Rat.intCast_add]⟩
theorem Dv.sub{N:Nat}{r s:Rat}(h:Dv N r) (g:Dv N s):Dv N (r - s):=by
 obtain⟨a,ha⟩:=h;obtain⟨b,hb⟩:=g
 exact⟨a - b,by rw[Rat.intCast_sub,← ha,← hb];grind⟩
theorem Dv.mul{M N:Nat}{r s:Rat}(h:Dv M r) (g:Dv N s):Dv (M*N) (r*s):=by
 obtain⟨a,ha⟩:=h;obtain⟨b,hb⟩:=g
 exact⟨a*b,by rw[Rat.intCast_mul,← ha,← hb,Rat.natCast_mul];grind⟩
theorem Dv.int(N:Nat) (i:Int):Dv N (i:Rat):=⟨i*N,by rw[Rat.intCast_mul];rfl⟩
theorem Dv.one(N:Nat):Dv N 1:=Dv.int N 1
theorem Dv.zero(N:Nat):Dv N 0:=Dv.int N 0
theorem Dv.right{N:Nat}{r:Rat}(h:Dv N r) (M:Nat):Dv (N*M) r:=by have:=h.mul (Dv.one M);rwa [Rat.mul_one]at this
theorem Dv.left{N:Nat}{r:Rat}(h:Dv N r) (M:Nat):Dv (M*N) r:=by have:=(Dv.one M).mul h;rwa [Rat.one_mul]at this
theorem Dv.comm{M N:Nat}{r:Rat}(h:Dv (M*N) r):Dv (N*M) r:=by rwa [Nat.mul_comm]
theorem Dv.of(a:Int) {N:Nat}(hN:0 < N):Dv N (mkRat a N):=by
 refine⟨a,?_⟩
 have hN':(N:Rat)≠0:=by
  intro h
  have:N=0:=by exact_mod_cast h
  omega
 rw[Rat.mkRat_eq_div]
 exact Rat.div_mul_cancel hN'
theorem Dv.mk{N:Nat}{r:Rat}(hN:0 < N) (h:Dv N r) (h0:0<=r) (h1:r<=1):∃a:Nat,a<=N/\r=mkRat a N:=by
 obtain⟨z,hz⟩:=h
 have hN':(0:Rat) < N:=by exact_mod_cast hN
 have z0:0<=z:=by
  have:(0:Rat)<=(z:Rat):=by rw[← hz];exact Rat.mul_nonneg h0 (Rat.le_of_lt hN')
  exact_mod_cast this
 have z1:z<=N:=by
  have:(z:Rat)<=(N:Rat):=by
   rw[← hz]
   have:=Rat.mul_le_mul_of_nonneg_right h1 (Rat.le_of_lt hN')
   rwa [Rat.one_mul]at this
  exact_mod_cast this
 refine⟨z.toNat,by omega,?_⟩
 have e:((z.toNat:Nat):Int)=z:=by omega
 rw[Rat.mkRat_eq_div]
 have hne:(N:Rat)≠0:=fun h=>by rw[h]at hN';exact absurd hN' (by decide)
 have e2:(((z.toNat:Nat):Int):Rat)=r*N:=by rw[e,hz]
 rw[e2]
 exact(Rat.mul_div_cancel hne).symm
theorem Dv.cap{N:Nat}{r:Rat}(h:Dv N r):Dv N (v7 r):=by
 unfold v7;split
 ·exact h
 ·exact Dv.one N
theorem Dv.cov(m:Man) {M N:Nat}{c d:Rat}(hc:Dv M c) (hd:Dv N d):Dv (M*N) (m.cov c d):=by
 cases m
 case plus=>exact((hc.right N).add (hd.left M)).cap
 case atop=>exact hd.left M
 case cut=>exact(hd.mul ((Dv.one M).sub hc)).comm
 all_goals exact((hc.right N).add (hd.left M)).sub (hc.mul hd)
theorem Dv.col(m:Man) {M N:Nat}{c d x y:Rat}(hc:Dv M c) (hd:Dv N d) (hx:Dv M x) (hy:Dv N y):Dv (M*N) (m.col c d x y):=by
 have r:=(hy.mul ((Dv.one M).sub hc)).comm
 cases m
 case over=>exact(hx.right N).add r
 case mult=>exact((hx.mul hy).add (hx.mul ((Dv.one N).sub hd))).add r
 case screen=>exact((hx.right N).add (hy.left M)).sub (hx.mul hy)
 case plus=>exact((hx.right N).add (hy.left M)).cap
 case atop=>exact(hx.mul hd).add r
 case cut=>exact r
def Dn(k:Nat) (q:Q4):Prop:=∃N,0 < N/\N < 2 ^ k/\Dv N q.c/\Dv N q.x/\Dv N q.y/\Dv N q.z
def Ds(k:Nat) (s:Rat):Prop:=∃N,0 < N/\N < 2 ^ k/\Dv N s
theorem V0{a b j k:Nat}(h1:a < 2 ^ j) (h2:b < 2 ^ k):a*b < 2 ^ (j+k):=by
 rw[Nat.pow_add]
 exact Nat.mul_lt_mul'' h1 h2
theorem Dn.bl(m:Man) {j k:Nat}{a b:Q4}(h:Dn j a) (g:Dn k b):Dn (j+k) (m.bl a b):=by
 obtain⟨M,m0,m1,hc,hx,hy,hz⟩:=h
 obtain⟨N,n0,n1,gc,gx,gy,gz⟩:=g
 exact⟨M*N,Nat.mul_pos m0 n0,V0 m1 n1,hc.cov m gc,hc.col m gc hx gx,hc.col m gc hy gy,hc.col m gc hz gz⟩
def Q4.wt(q:Q4) (s:Rat):Q4:=⟨q.c*s,q.x*s,q.y*s,q.z*s⟩
theorem Dn.wt{j k:Nat}{q:Q4}{s:Rat}(h:Dn j q) (g:Ds k s):Dn (j+k) (q.wt s):=by
 obtain⟨M,m0,m1,hc,hx,hy,hz⟩:=h
 obtain⟨N,n0,n1,gs⟩:=g
 exact⟨M*N,Nat.mul_pos m0 n0,V0 m1 n1,hc.mul gs,hx.mul gs,hy.mul gs,hz.mul gs⟩
def Rul.tn(r:Rul) (s:Rat) (q:Q4):Q4:=⟨q.c,r.mix s q.c q.x q.y q.z,r.mix s q.c q.y q.z q.x,r.mix s q.c q.z q.x q.y⟩
theorem Dv.third:Dv 3 third:=Dv.of 1 (by decide)
theorem Dv.new(r:Rul) {N:Nat}{c x y z:Rat}(hc:Dv N c) (hx:Dv N x) (hy:Dv N y) (hz:Dv N z):Dv (N*3) (r.new c x y z):=by
 cases r
 ·exact(hc.sub hx).right 3
 ·exact((hx.add hy).add hz).mul Dv.third
 ·exact hy.right 3
theorem Dv.mix(r:Rul) {M N:Nat}{s c x y z:Rat}(hs:Dv M s) (hc:Dv N c) (hx:Dv N x) (hy:Dv N y) (hz:Dv N z):Dv (M*(N*3)) (r.mix s c x y z) :=
 (hs.mul (Dv.new r hc hx hy hz)).add (((Dv.one M).sub hs).mul (hx.right 3))
theorem Dn.tn(r:Rul) {j k:Nat}{q:Q4}{s:Rat}(h:Dn j q) (g:Ds k s):Dn (k+(j+2)) (r.tn s q):=by
 obtain⟨N,n0,n1,hc,hx,hy,hz⟩:=h
 obtain⟨M,m0,m1,gs⟩:=g
 exact⟨M*(N*3),Nat.mul_pos m0 (Nat.mul_pos n0 (by decide)),V0 m1 (V0 n1 (by decide)),(hc.right 3).left M,gs.mix r hc hx hy hz,gs.mix r hc hy hz hx,gs.mix r hc hz hx hy⟩
theorem Dn.mono{j k:Nat}{q:Q4}(h:Dn j q) (l:j<=k):Dn k q:=by
 obtain⟨N,n0,n1,r⟩:=h
 exact⟨N,n0,Nat.lt_of_lt_of_le n1 (Nat.pow_le_pow_right (by decide) l),r⟩
def Q4.or(q:Q4):Prop:=0<=q.x/\0<=q.y/\0<=q.z/\q.x<=q.c/\q.y<=q.c/\q.z<=q.c/\q.c<=1
theorem Q4.ok.or{k:Nat}{q:Q4}(h:q.ok k):q.or:=⟨h.hx.nn,h.hy.nn,h.hz.nn,h.xc,h.yc,h.zc,h.hc.le⟩
structure Dq (k:Nat) (q:Q4):Prop where
 o:q.or
 n:Dn k q
theorem aO4{k N:Nat}{r:Rat}(n0:0 < N) (n1:N < 2 ^ k) (d:Dv N r) (h0:0<=r) (h1:r<=1):IsSh k r:=by
 obtain⟨a,ha,e⟩:=d.mk n0 h0 h1
 refine⟨?_,h1⟩
 rw[e]
 exact Bd.of n0 (by omega) n1
theorem Dq.ok{k:Nat}{q:Q4}(h:Dq k q):q.ok k:=by
 obtain⟨⟨x0,y0,z0,xc,yc,zc,c1⟩,N,n0,n1,hc,hx,hy,hz⟩:=h
 have c0:=Rat.le_trans x0 xc
 exact⟨aO4 n0 n1 hc c0 c1,(aO4 n0 n1 hx x0 (Rat.le_trans xc c1)).bd,(aO4 n0 n1 hy y0 (Rat.le_trans yc c1)).bd,(aO4 n0 n1 hz z0 (Rat.le_trans zc c1)).bd,xc,yc,zc⟩
theorem Dq.mono{j k:Nat}{q:Q4}(h:Dq j q) (l:j<=k):Dq k q:=⟨h.o,h.n.mono l⟩
theorem Dq.zero(k:Nat):Dq (k+1) q0:=⟨(cn7 (k:=1) (by decide)).or,1,by decide,Nat.one_lt_two_pow (by omega),Dv.zero 1,Dv.zero 1,Dv.zero 1,Dv.zero 1⟩
structure Sr (k:Nat) (s:Rat):Prop where
 h:IsSh k s
 n:Ds k s
theorem Dq.bl(m:Man) {j k:Nat}{a b:Q4}(h:Dq j a) (g:Dq k b) (l:j+k<=1000):Dq (j+k) (m.bl a b)/\y6 [.str m.s,a.d,b.d]=some (m.bl a b).d:=by
 have r:=cs9 m (h.ok.mono (k:=j+k) (by omega)) (g.ok.mono (k:=j+k) (by omega)) (by omega)
 exact⟨⟨r.2.or,h.n.bl m g.n⟩,r.1⟩
theorem Dq.lbl(m:Man) {j k:Nat}{a b:Q4}(h:Dq j a) (g:Dq k b) (l:j+k<=1000):Z1 [.str m.s,a.d,b.d]=some (m.bl a b).d:=bl5 m (h.ok.mono (k:=j+k) (by omega)) (g.ok.mono (k:=j+k) (by omega)) (by omega)
theorem br5{j k:Nat}{q:Q4}{s:Rat}(S:q.ok j) (hs:IsSh k s) (l:j+k<=8000):ab6 [q.d,fr s]=some (q.wt s).d:=by
 refine C3 (ρ:=[‹q.d›,‹fr s›]) rfl ?_
 have f4:∀a b c d:D,([a,b,c,d]:List D).length<=16777216:=fun a b c d=>by show 4<=16777216;decide
 wp_walk using evC,az5,Q4.d,Q4.wt,sp,f4,O5 S.hc.bd hs.bd l,O5 S.hx hs.bd l,O5 S.hy hs.bd l,O5 S.hz hs.bd l
theorem cl4{q:Q4}{s:Rat}(h:q.or) (s0:0<=s) (s1:s<=1):(q.wt s).or:=by
 obtain⟨x0,y0,z0,xc,yc,zc,c1⟩:=h
 have mono:∀{u v:Rat},u<=v->u*s<=v*s:=fun h=>Rat.mul_le_mul_of_nonneg_right h s0
 exact⟨Rat.mul_nonneg x0 s0,Rat.mul_nonneg y0 s0,Rat.mul_nonneg z0 s0,mono xc,mono yc,mono zc,Rat.le_trans (X6 (Rat.le_trans x0 xc) s1) c1⟩
theorem Dq.wt{j k:Nat}{q:Q4}{s:Rat}(h:Dq j q) (g:Sr k s):Dq (j+k) (q.wt s):=⟨cl4 h.o g.h.bd.nn g.h.le,h.n.wt g.n⟩
theorem Dq.tn(r:Rul) {j k:Nat}{q:Q4}{s:Rat}(h:Dq j q) (g:Sr k s) (l:j+k+2<=1000):Dq (j+k+2) (r.tn s q)/\av4 [.str r.s,q.d,fr s]=some (r.tn s q).d:=by
 have t:=bs3 r (h.ok.mono (k:=j+k) (by omega)) (g.h.mono (k:=j+k) (by omega)) (by omega)
 refine⟨⟨Q4.ok.or (q:=r.tn s q) t.2,?_⟩,t.1⟩
 have:=h.n.tn r g.n
 rwa [show k+(j+2)=j+k+2 by omega]at this
theorem Dq.ltn(r:Rul) {j k:Nat}{q:Q4}{s:Rat}(h:Dq j q) (g:Sr k s) (l:j+k+2<=1000):af4 [.str r.s,q.d,fr s]=some (r.tn s q).d:=aQ7 r (h.ok.mono (k:=j+k) (by omega)) (g.h.mono (k:=j+k) (by omega)) (by omega)
inductive Nd where
 | layer (nm:D) (m:Man) (s:Rat) (sh:Bool) (lf tp:Int) (mk:Option (List Rat)) (w h:Nat) (l:List Q4) (kb:Nat)
 | tone (nm:D) (r:Rul) (s:Rat) (sh:Bool)
 | group (nm:D) (m:Man) (s:Rat) (sh:Bool) (ns:List Nd)
def mkD:Option (List Rat)->D
 | none=>.none
 | some ms=>.tuple (ms.map fr)
mutual
def Nd.d:Nd->D
 | .layer nm m s sh lf tp mk w h l _=>.tuple [.str "layer", nm,.str m.s,fr s,.bool sh,.int lf,.int tp,mkD mk,shD w h l]
 | .tone nm r s sh=>.tuple [.str "tone", nm,.str r.s,fr s,.bool sh]
 | .group nm m s sh ns=>.tuple [.str "group", nm,.str m.s,fr s,.bool sh,.tuple (Nd.ds ns)]
def Nd.ds:List Nd->List D
 | []=>[]
 | n::r=>n.d::Nd.ds r
end
def aB3(mk:Option (List Rat)) (w h:Nat) (l:List Q4) (x y:Int):Q4:=match mk with
 | none=>atQ w h l x y
 | some ms=>if 0<=x/\x < w/\0<=y/\y < h then(atQ w h l x y).wt (ms.getD (y*w+x).toNat 1) else atQ w h l x y
def as7(s:Rat) (lf tp:Int) (mk:Option (List Rat)) (w h:Nat) (l:List Q4) (x y:Int):Q4:=(aB3 mk w h l (x - lf) (y - tp)).wt s
mutual
def Nd.ab(x y:Int):Nd->Q4->Q4
 | .layer _ m s sh lf tp mk w h l _,q=>if sh=true then m.bl (as7 s lf tp mk w h l x y) q else q
 | .tone _ r s sh,q=>if sh=true then r.tn s q else q
 | .group _ m s sh ns,q=>if sh=true then m.bl ((Nd.sw x y ns q0).wt s) q else q
def Nd.sw(x y:Int):List Nd->Q4->Q4
 | [],q=>q
 | n::r,q=>Nd.sw x y r (Nd.ab x y n q)
end
mutual
def Nd.Ok:Nd->Prop
 | .layer _ _ s _ _ _ mk w h l kb=>Sr 4 s/\ShOk kb w h l/\(∀q∈l,Dq kb q)/\(∀ms,mk=some ms->ms.length=w*h/\∀r∈ms,Sr 4 r)/\1<=kb
 | .tone _ _ s _=>Sr 4 s
 | .group _ _ s _ ns=>Sr 4 s/\Nd.Oks ns
def Nd.Oks:List Nd->Prop
 | []=>True
 | n::r=>n.Ok/\Nd.Oks r
end
mutual
def Nd.wg:Nd->Nat
 | .layer _ _ _ _ _ _ _ _ _ _ kb=>kb+8
 | .tone ..=>6
 | .group _ _ _ _ ns=>5+Nd.wgs ns
def Nd.wgs:List Nd->Nat
 | []=>0
 | n::r=>n.wg+Nd.wgs r
end
mutual
def Nd.dp:Nd->Nat
 | .layer ..=>0
 | .tone ..=>0
 | .group _ _ _ _ ns=>1+Nd.dps ns
def Nd.dps:List Nd->Nat
 | []=>0
 | n::r=>max n.dp (Nd.dps r)
end
theorem cs4:eqD (.str "layer") (.str "tone")=some (.bool false):=D6z
theorem cs3:eqD (.str "tone") (.str "tone")=some (.bool true):=D6z
theorem cs5:eqD (.str "group") (.str "tone")=some (.bool false):=D6z
theorem cw7:eqD (.str "layer") (.str "layer")=some (.bool true):=D6z
theorem cw8:eqD (.str "group") (.str "layer")=some (.bool false):=D6z
theorem aS3:eqD (.str "layer") (.str "group")=some (.bool false):=D6z
theorem bm5:eqD (.str "group") (.str "group")=some (.bool true):=D6z
section
variable {nm:D}{m:Man}{r:Rul}{s:Rat}{sh:Bool}{lf tp:Int}{mk:Option (List Rat)}{w h:Nat}{l:List Q4}{kb:Nat}{ns:List Nd}
theorem aK2:Q6 [Nd.d (.layer nm m s sh lf tp mk w h l kb)]=some (.bool sh):=by rw[Nd.d];rfl
theorem aH1:Q6 [Nd.d (.tone nm r s sh)]=some (.bool sh):=by rw[Nd.d];rfl
theorem aK8:Q6 [Nd.d (.group nm m s sh ns)]=some (.bool sh):=by rw[Nd.d];rfl
theorem bx9:O6 [Nd.d (.layer nm m s sh lf tp mk w h l kb)]=some (.bool false):=by rw[Nd.d];exact C3 (ρ:=[‹.tuple [.str "layer", nm,.str m.s,fr s,.bool sh,.int lf,.int tp,mkD mk,shD w h l]›]) rfl (congrArg (Option.map Fl.rt) cs4)
theorem bs5:O6 [Nd.d (.tone nm r s sh)]=some (.bool true):=by rw[Nd.d];exact C3 (ρ:=[‹.tuple [.str "tone", nm,.str r.s,fr s,.bool sh]›]) rfl (congrArg (Option.map Fl.rt) cs3)
theorem bC7:O6 [Nd.d (.group nm m s sh ns)]=some (.bool false):=by rw[Nd.d];exact C3 (ρ:=[‹.tuple [.str "group", nm,.str m.s,fr s,.bool sh,.tuple (Nd.ds ns)]›]) rfl (congrArg (Option.map Fl.rt) cs5)
theorem bN6:i7 [Nd.d (.layer nm m s sh lf tp mk w h l kb)]=some (.bool true):=by rw[Nd.d];exact C3 (ρ:=[‹.tuple [.str "layer", nm,.str m.s,fr s,.bool sh,.int lf,.int tp,mkD mk,shD w h l]›]) rfl (congrArg (Option.map Fl.rt) cw7)
theorem bQ6:i7 [Nd.d (.group nm m s sh ns)]=some (.bool false):=by rw[Nd.d];exact C3 (ρ:=[‹.tuple [.str "group", nm,.str m.s,fr s,.bool sh,.tuple (Nd.ds ns)]›]) rfl (congrArg (Option.map Fl.rt) cw8)
theorem aQ8:R5 [Nd.d (.layer nm m s sh lf tp mk w h l kb)]=some (.str m.s):=by rw[Nd.d];rfl
theorem aR7:R5 [Nd.d (.group nm m s sh ns)]=some (.str m.s):=by rw[Nd.d];rfl
theorem bX4:ag3 [Nd.d (.tone nm r s sh)]=some (.str r.s):=by rw[Nd.d];rfl
theorem ax4:N8 [Nd.d (.layer nm m s sh lf tp mk w h l kb)]=some (fr s):=by rw[Nd.d];rfl
theorem av7:N8 [Nd.d (.tone nm r s sh)]=some (fr s):=by rw[Nd.d];rfl
theorem ay0:N8 [Nd.d (.group nm m s sh ns)]=some (fr s):=by rw[Nd.d];rfl
theorem cd0:x6 [Nd.d (.layer nm m s sh lf tp mk w h l kb)]=some (.int lf):=by rw[Nd.d];rfl
theorem cq1:af3 [Nd.d (.layer nm m s sh lf tp mk w h l kb)]=some (.int tp):=by rw[Nd.d];rfl
theorem aY5:ag5 [Nd.d (.layer nm m s sh lf tp mk w h l kb)]=some (mkD mk):=by rw[Nd.d];rfl
theorem aK3:W8 [Nd.d (.layer nm m s sh lf tp mk w h l kb)]=some (shD w h l):=by rw[Nd.d];rfl
theorem aK9:K9 [Nd.d (.group nm m s sh ns)]=some (.tuple (Nd.ds ns)):=by rw[Nd.d];rfl
end
theorem atF(ms:List Rat) {i:Int}(h0:0<=i) (h1:i < ms.length):L2.atI (ms.map fr) i=some (fr (ms.getD i.toNat 1)):=by
 unfold L2.atI
 rw[List.length_map,ap7 h0 h1,xbs,List.getElem?_map,List.getD_eq_getElem?_getD]
 have:i.toNat < ms.length:=by omega
 rw[List.getElem?_eq_getElem this];rfl
theorem aK7{k:Nat}{ms:List Rat}(h:∀r∈ms,Sr k r) {i:Nat}(hi:i < ms.length):Sr k (ms.getD i 1):=by
 rw[List.getD_eq_getElem?_getD,List.getElem?_eq_getElem hi]
 exact h _ (List.getElem_mem hi)
theorem ay8{w h kb:Nat}{l:List Q4}(k1:1<=kb) (H:∀q∈l,Dq kb q) (x y:Int):Dq kb (atQ w h l x y):=by
 unfold atQ
 split
 ·rw[List.getD_eq_getElem?_getD]
  cases e:l[(y*(w:Int)+x).toNat]? with
  | none=>exact(Dq.zero 0).mono (by omega)
  | some q=>exact H q (List.mem_of_getElem? e)
 ·exact(Dq.zero 0).mono (by omega)
theorem bf2{mk:Option (List Rat)}{w h kb:Nat}{l:List Q4}(k1:1<=kb) (H:∀q∈l,Dq kb q) (M:∀ms,mk=some ms->ms.length=w*h/\∀r∈ms,Sr 4 r) (x y:Int):Dq (kb+4) (aB3 mk w h l x y):=by
 unfold aB3
 split
 ·exact(ay8 k1 H x y).mono (by omega)
 ·rename_i ms
  split
  ·rename_i b
   have pn:=af6 b
   have hl:=(M ms rfl).1
   exact(ay8 k1 H x y).wt (aK7 (M ms rfl).2 (by omega))
  ·exact(ay8 k1 H x y).mono (by omega)
theorem au6{s:Rat}{lf tp:Int}{mk:Option (List Rat)}{w h kb:Nat}{l:List Q4}(k1:1<=kb) (hs:Sr 4 s) (H:∀q∈l,Dq kb q) (M:∀ms,mk=some ms->ms.length=w*h/\∀r∈ms,Sr 4 r) (x y:Int):Dq (kb+8) (as7 s lf tp mk w h l x y):=(bf2 k1 H M _ _).wt hs
theorem ch6:isB .none .none=some (.bool true):=rfl
theorem bA9(ds:List D):isB (.tuple ds) .none=some (.bool false):=rfl
theorem bk9{nm:D}{m:Man}{s:Rat}{sh:Bool}{lf tp:Int}{mk:Option (List Rat)}{w h kb:Nat}{l:List Q4}(k1:1<=kb) (k9:kb<=900) (S:ShOk kb w h l) (H:∀q∈l,Dq kb q) (M:∀ms,mk=some ms->ms.length=w*h/\∀r∈ms,Sr 4 r) (x y:Int) :
  p7 [Nd.d (.layer nm m s sh lf tp mk w h l kb),.int x,.int y]=some (aB3 mk w h l x y).d:=by
 have hp:X9 [shD w h l,.int x,.int y]=_:=am8 w h (.tuple (l.map Q4.d)) x y
 have sa:=aW7 S x y
 refine C3 (ρ:=[‹Nd.d (.layer nm m s sh lf tp mk w h l kb)›,‹.int x›,‹.int y›,none,none,none]) rfl ?_
 cases mk with
 | none=>wp_walk using evD,X2,aK3,aY5,sa,mkD,ch6,aB3
 | some ms =>
  by_cases b:0<=x/\x < w/\0<=y/\y < h
  ·rw[decide_eq_true b]at hp
   have nm:Q5 [shD w h l,.int x,.int y]=_:=aD8 (.tuple (l.map Q4.d)) S.w8 S.h8 b
   have pn:=af6 b
   have hl:=(M ms rfl).1
   have af:=atF ms pn.1 (by rw[hl];exact pn.2)
   have hs:=aK7 (M ms rfl).2 (show(y*(w:Int)+x).toNat < ms.length by omega)
   have wo:=br5 (ay8 (w:=w) (h:=h) k1 H x y).ok hs.h (by omega)
   wp_walk using evD,X2,aK3,aY5,sa,mkD,bA9,hp,nm,af,wo,aB3,if_pos b
  ·rw[decide_eq_false b]at hp
   wp_walk using evD,X2,aK3,aY5,sa,mkD,bA9,hp,aB3,if_neg b
theorem aT8{nm:D}{m:Man}{s:Rat}{sh:Bool}{lf tp:Int}{mk:Option (List Rat)}{w h kb:Nat}{l:List Q4}(k1:1<=kb) (k9:kb<=900) (hs:Sr 4 s) (S:ShOk kb w h l) (H:∀q∈l,Dq kb q) (M:∀ms,mk=some ms->ms.length=w*h/\∀r∈ms,Sr 4 r) (f:Nat) (x y:Int) :
  Z2 (f+1) [Nd.d (.layer nm m s sh lf tp mk w h l kb),.int x,.int y]=some (as7 s lf tp mk w h l x y).d:=by
 refine C3 (g:=w9 (W5 f)) (ρ:=[‹Nd.d (.layer nm m s sh lf tp mk w h l kb)›,‹.int x›,‹.int y›,none]) rfl ?_
 have mo:=bk9 (nm:=nm) (m:=m) (s:=s) (sh:=sh) (lf:=lf) (tp:=tp) k1 k9 S H M (x - lf) (y - tp)
 have wo:=br5 (bf2 k1 H M (x - lf) (y - tp)).ok hs.h (by omega)
 wp_walk using evD,w9,bN6,cd0,cq1,mo,ax4,wo,as7
theorem aT9{nm:D}{m:Man}{s:Rat}{sh:Bool}{ns:List Nd}{q:Q4}{j:Nat}(hs:Sr 4 s) (f:Nat) (x y:Int) (e:g8 f [.tuple (Nd.ds ns),.int x,.int y]=some q.d) (hq:Dq j q) (l:j+4<=8000) :
  Z2 (f+1) [Nd.d (.group nm m s sh ns),.int x,.int y]=some (q.wt s).d:=by
 refine C3 (g:=w9 (W5 f)) (ρ:=[‹Nd.d (.group nm m s sh ns)›,‹.int x›,‹.int y›,none]) rfl ?_
 have e':W5 f 2 [.tuple (Nd.ds ns),.int x,.int y]=some q.d:=e
 have wo:=br5 hq.ok hs.h l
 wp_walk using evD,w9,bQ6,aK9,e',ay0,wo
mutual
theorem bG7(x y:Int):∀(n:Nd) (f:Nat) (q:Q4) (j:Nat),n.Ok->3*n.dp+2<=f->Dq j q->j+n.wg<=900->ai3 f [n.d,q.d,.int x,.int y]=some (Nd.ab x y n q).d/\Dq (j+n.wg) (Nd.ab x y n q)
 | .layer nm m s sh lf tp mk w h l kb,f,q,j,ok,hf,hq,hj=>by
  obtain⟨f,rfl⟩:∃g,f=g+2:=⟨f - 2,by omega⟩
  simp only[Nd.Ok]at ok
  simp only[Nd.wg]at hj
  obtain⟨hs,S,H,M,k1⟩:=ok
  have bo:W5 (f+1) 0 [Nd.d (.layer nm m s sh lf tp mk w h l kb),.int x,.int y]=_:=aT8 (nm:=nm) (m:=m) (sh:=sh) k1 (by omega) hs S H M f x y
  have b:=Dq.bl m (au6 (lf:=lf) (tp:=tp) k1 hs H M x y) hq (by omega)
  have st:J8 (N7 (W5 (f+1))) 4 [Nd.d (.layer nm m s sh lf tp mk w h l kb),q.d,.int x,.int y]=some (Nd.ab x y (.layer nm m s sh lf tp mk w h l kb) q).d:=by
   refine C3 (ρ:=[‹Nd.d (.layer nm m s sh lf tp mk w h l kb)›,‹q.d›,‹.int x›,‹.int y›]) rfl ?_
   cases sh with
   | true=>wp_walk using evD,N7,aK2,bx9,aQ8,bo,b.2,Nd.ab
   | false=>wp_walk using evD,N7,aK2,Nd.ab
  refine⟨st,?_⟩
  simp only[Nd.ab,Nd.wg]
  split
  ·exact b.1.mono (by omega)
  ·exact hq.mono (by omega)
 | .tone nm r s sh,f,q,j,ok,hf,hq,hj=>by
  obtain⟨f,rfl⟩:∃g,f=g+2:=⟨f - 2,by omega⟩
  simp only[Nd.Ok]at ok
  simp only[Nd.wg]at hj
  have b:=Dq.tn r hq ok (by omega)
  have st:J8 (N7 (W5 (f+1))) 4 [Nd.d (.tone nm r s sh),q.d,.int x,.int y]=some (Nd.ab x y (.tone nm r s sh) q).d:=by
   refine C3 (ρ:=[‹Nd.d (.tone nm r s sh)›,‹q.d›,‹.int x›,‹.int y›]) rfl ?_
   cases sh with
   | true=>wp_walk using evD,N7,aH1,bs5,bX4,av7,b.2,Nd.ab
   | false=>wp_walk using evD,N7,aH1,Nd.ab
  refine⟨st,?_⟩
  simp only[Nd.ab,Nd.wg]
  split
  ·exact b.1.mono (by omega)
  ·exact hq.mono (by omega)
 | .group nm m s sh ns,f,q,j,ok,hf,hq,hj=>by
  simp only[Nd.dp]at hf
  obtain⟨f,rfl⟩:∃g,f=g+3:=⟨f - 3,by omega⟩
  simp only[Nd.Ok]at ok
  simp only[Nd.wg]at hj
  obtain⟨hs,oks⟩:=ok
  have lp:=loop_ok x y ns f q0 1 oks (by omega) (Dq.zero 0) (by omega)
  have sb:g8 (f+1) [.tuple (Nd.ds ns),.int x,.int y]=some (Nd.sw x y ns q0).d:=by
   obtain⟨a4,e4⟩:=lp.1 (‹.tuple (Nd.ds ns)›) none
   refine C3 (g:=g7 (W5 f)) (ρ:=[‹.tuple (Nd.ds ns)›,‹.int x›,‹.int y›,none,none]) rfl ?_
   simp only[bY4]at e4
   simp only[g7,A6,B0,dC,P9,L7,A1,A9,xms,xbs,xw0,xw1,xg0,xg1,e4]
  have bo:W5 (f+2) 0 [Nd.d (.group nm m s sh ns),.int x,.int y]=_:=aT9 (nm:=nm) (m:=m) (sh:=sh) hs (f+1) x y sb lp.2 (by omega)
  have b:=Dq.bl m (lp.2.wt hs) hq (by omega)
  have st:J8 (N7 (W5 (f+2))) 4 [Nd.d (.group nm m s sh ns),q.d,.int x,.int y]=some (Nd.ab x y (.group nm m s sh ns) q).d:=by
   refine C3 (ρ:=[‹Nd.d (.group nm m s sh ns)›,‹q.d›,‹.int x›,‹.int y›]) rfl ?_
   cases sh with
   | true=>wp_walk using evD,N7,aK8,bC7,aR7,bo,b.2,Nd.ab
   | false=>wp_walk using evD,N7,aK8,Nd.ab
  refine⟨st,?_⟩
  simp only[Nd.ab,Nd.wg]
  split
  ·exact b.1.mono (by omega)
  ·exact hq.mono (by omega)
theorem loop_ok(x y:Int):∀(ns:List Nd) (f:Nat) (q:Q4) (j:Nat),Nd.Oks ns->3*Nd.dps ns+2<=f->Dq j q->j+Nd.wgs ns<=900 ->
  (∀a0 a4:Option B,∃a4',V6 (B1 4) (B0 3 (A3 (W5 f 1) (A0 (A1 4) (A0 (A1 3) (A0 (A1 1) (A0 (A1 2) A2)))))) (Nd.ds ns) [a0,‹.int x›,‹.int y›,‹q.d›,a4]=some (.nx [a0,‹.int x›,‹.int y›,some (.val (Nd.sw x y ns q).d),a4']))/\Dq (j+Nd.wgs ns) (Nd.sw x y ns q)
 | [],f,q,j,ok,hf,hq,hj=>by
  simp only[Nd.sw,Nd.wgs]
  exact⟨fun a0 a4=>⟨a4,by simp only[Nd.ds];rfl⟩,hq⟩
 | n::r,f,q,j,ok,hf,hq,hj=>by
  simp only[Nd.Oks]at ok
  simp only[Nd.dps]at hf
  simp only[Nd.wgs]at hj
  have a:=bG7 x y n f q j ok.1 (by omega) hq (by omega)
  have b:=loop_ok x y r f (Nd.ab x y n q) (j+n.wg) ok.2 (by omega) a.2 (by omega)
  have e:W5 f 1 [n.d,q.d,.int x,.int y]=_:=a.1
  simp only[Nd.sw,Nd.wgs]
  refine⟨fun a0 a4=>?_,by rw[← Nat.add_assoc];exact b.2⟩
  obtain⟨a4',e'⟩:=b.1 a0 (‹n.d›)
  refine⟨a4',?_⟩
  simp only[Nd.ds,V6,B1,B0,A3,A0,A2,A1,xbs,xms,xw0,xw1,xg0,xg1,e,e']
end
theorem aO2(x y:Int) (ns:List Nd) (f:Nat) (ok:Nd.Oks ns) (hf:3*Nd.dps ns+2<=f) (hj:1+Nd.wgs ns<=900):g8 (f+1) [.tuple (Nd.ds ns),.int x,.int y]=some (Nd.sw x y ns q0).d/\Dq (1+Nd.wgs ns) (Nd.sw x y ns q0):=by
 have lp:=loop_ok x y ns f q0 1 ok hf (Dq.zero 0) hj
 refine⟨?_,lp.2⟩
 obtain⟨a4,e4⟩:=lp.1 (‹.tuple (Nd.ds ns)›) none
 refine C3 (g:=g7 (W5 f)) (ρ:=[‹.tuple (Nd.ds ns)›,‹.int x›,‹.int y›,none,none]) rfl ?_
 simp only[bY4]at e4
 simp only[g7,A6,B0,dC,P9,L7,A1,A9,xms,xbs,xw0,xw1,xg0,xg1,e4]
end Sh
local macro_rules
  | `(↥$x) => `(PySem.PyData.tuple (Sh.Nd.ds $x))
namespace Sh
open PySem G L2
theorem v8(a b c d e f g h i:D):L2.atI [a,b,c,d,e,f,g,h,i] 0=some a:=rfl
theorem af0(a b c d e f g h i:D):L2.atI [a,b,c,d,e,f,g,h,i] 1=some b:=rfl
theorem ao0(a b c d e f g h i:D):L2.atI [a,b,c,d,e,f,g,h,i] 2=some c:=rfl
theorem an9(a b c d e f g h i:D):L2.atI [a,b,c,d,e,f,g,h,i] 3=some d:=rfl
theorem an8(a b c d e f g h i:D):L2.atI [a,b,c,d,e,f,g,h,i] 4=some e:=rfl
theorem an7(a b c d e f g h i:D):L2.atI [a,b,c,d,e,f,g,h,i] 5=some f:=rfl
theorem an6(a b c d e f g h i:D):L2.atI [a,b,c,d,e,f,g,h,i] 6=some g:=rfl
theorem an5(a b c d e f g h i:D):L2.atI [a,b,c,d,e,f,g,h,i] 7=some h:=rfl
theorem an4(a b c d e f g h i:D):L2.atI [a,b,c,d,e,f,g,h,i] 8=some i:=rfl
theorem m7(a b c d e f:D):L2.atI [a,b,c,d,e,f] 0=some a:=rfl
theorem af1(a b c d e f:D):L2.atI [a,b,c,d,e,f] 1=some b:=rfl
theorem ao2(a b c d e f:D):L2.atI [a,b,c,d,e,f] 2=some c:=rfl
theorem ah8(a b c d e f:D):L2.atI [a,b,c,d,e,f] 3=some d:=rfl
theorem ao1(a b c d e f:D):L2.atI [a,b,c,d,e,f] 4=some e:=rfl
theorem ab9(a b c d e f:D):L2.atI [a,b,c,d,e,f] 5=some f:=rfl
theorem ac1(a b c d e:D):L2.atI [a,b,c,d,e] 0=some a:=rfl
theorem ac0(a b c d e:D):L2.atI [a,b,c,d,e] 1=some b:=rfl
theorem ai1(a b c d e:D):L2.atI [a,b,c,d,e] 2=some c:=rfl
theorem ai0(a b c d e:D):L2.atI [a,b,c,d,e] 3=some d:=rfl
theorem ah9(a b c d e:D):L2.atI [a,b,c,d,e] 4=some e:=rfl
theorem cl3(q:Q4) (a b:Rat):(q.wt a).wt b=q.wt (b*a):=by
 unfold Q4.wt
 simp only[Rat.mul_assoc,Rat.mul_comm a b]
theorem bd2(s:Rat):q0.wt s=q0:=by
 unfold Q4.wt q0
 simp only[Rat.zero_mul]
theorem bI5{e:Rho->Option (List D)}{caps:List Nat}{ρ:Rho}{q:Q4}{S:Rat}{j k:Nat}(hr:i8 1 caps ρ=[none,‹fr S›]) (he:e ρ=some [fr q.c,fr q.x,fr q.y,fr q.z]) (hq:q.ok j) (hS:IsSh k S) (l:j+k<=8000) :
  G8 1 caps e (B1 0) K3 (A3 K1 (A0 (A1 0) (A0 (A1 1) A2))) ρ=some [fr (q.c*S),fr (q.x*S),fr (q.y*S),fr (q.z*S)]:=by
 refine n9 (l:=[q.c,q.x,q.y,q.z]) (h:=fr) (f:=fun r=>fr (r*S)) (r:=[‹fr S›]) hr he (by show 4<=1000;decide) ?_
 intro r hr
 have b:Bd j r:=by
  simp only[List.mem_cons,List.not_mem_nil,or_false]at hr
  rcases hr with rfl|rfl|rfl|rfl
  ·exact hq.hc.bd
  ·exact hq.hx
  ·exact hq.hy
  ·exact hq.hz
 simp only[A3,A0,A2,A1,xg0,xg1,xbs,xms,N5 b hS.bd l]
theorem cp8:aX9 .none .none=some (.bool false):=rfl
theorem cp7(ds:List D):aX9 (.tuple ds) .none=some (.bool true):=rfl
theorem cc6(a b c:D):([a,b,c]:List D).length=3:=rfl
theorem ca1{w h:Nat}{X Y:Int}{a0 a1 a2 a5 a8:Option B}:(P8 (M5 (as5 (P6 leI ltI ⇑0 (A1 6) (A1 3)))) (M5 (as5 (P6 leI ltI ⇑0 (A1 7) (A1 4))))) [a0,a1,a2,‹.int w›,‹.int h›,a5,‹.int X›,‹.int Y›,a8]=some (!decide (0<=X/\X < w/\0<=Y/\Y < h)):=by by_cases a:0<=X<;>by_cases b:X < w<;>by_cases c:0<=Y<;>by_cases e:Y < h<;>simp[A6,B0,A9,sIf,G7,V3,ac5,A1,dC,D4,P0,A4,A3,T8,dOr,aq3,P6,dIx,V5,O0,ab1,u9,Z8,A5,qE,qN,ae0,N6,L4,ae7,A2,A0,M1,tB2,U0,P8,M5,ai6,N9,K3,B1,M6,C2,N4,L7,ap8,xg0,xg1,xw0,xw1,xbs,xms,xmc,xmn,xna,xca,ae9,p8,aB4,aB2,at0,aJ7,ax8,aM3,aM2,aM1,aM0,aM5,aM4,aC5,az0,ay9,xnt,xnf,xft,if_true,if_false,ab4,as5,a,b,c,e]
theorem aE1{nm:D}{m:Man}{s:Rat}{sh:Bool}{lf tp:Int}{mk:Option (List Rat)}{w h kb:Nat}{l:List Q4}(k1:1<=kb) (k9:kb<=900) (hs:Sr 4 s) (S:ShOk kb w h l) (H:∀q∈l,Dq kb q) (M:∀ms,mk=some ms->ms.length=w*h/\∀r∈ms,Sr 4 r) (f:Nat) (x y:Int) :
  V4 (f+1) [Nd.d (.layer nm m s sh lf tp mk w h l kb),.int x,.int y]=some (as7 s lf tp mk w h l x y).d:=by
 rw[Nd.d]
 refine C3 (g:=S9 (n4 f)) (ρ:=[‹.tuple [.str "layer", nm,.str m.s,fr s,.bool sh,.int lf,.int tp,mkD mk,shD w h l]›,‹.int x›,‹.int y›,none,none,none,none,none,none]) rfl ?_
 by_cases b:0<=x - lf/\x - lf < w/\0<=y - tp/\y - tp < h
 ·obtain⟨b1,b2,b3,b4⟩:=id b
  have pn:=af6 b
  have w8:=S.w8
  have h8:=S.h8
  have mu:=aY2 (sm8 b3 (show y - tp<=1000 by omega)) (sm8 (show(0:Int)<=w by omega) (by omega))
  have ad:=atD l pn.1 (by rw[S.len];exact pn.2)
  have aq:atQ w h l (x - lf) (y - tp)=l.getD ((y - tp)*w+(x - lf)).toNat q0:=by unfold atQ;rw[if_pos b]
  have dq:=ay8 (w:=w) (h:=h) k1 H (x - lf) (y - tp)
  rw[aq]at dq
  have c:∀(S':Rat) (k:Nat) (a0 a1 a2 a3 a4:Option B),IsSh k S'->kb+k<=8000->G8 1 [8] (L7 (dIx (A5 5) (A4 C0 (A4 L6 (A1 7) (A1 3)) (A1 6)))) (B1 0) K3 (A3 K1 (A0 (A1 0) (A0 (A1 1) A2))) [a0,a1,a2,‹.int w›,a4,‹.tuple (l.map Q4.d)›,‹.int (x - lf)›,‹.int (y - tp)›,‹fr S'›]=some [fr ((l.getD ((y - tp)*w+(x - lf)).toNat q0).c*S'),fr ((l.getD ((y - tp)*w+(x - lf)).toNat q0).x*S'),fr ((l.getD ((y - tp)*w+(x - lf)).toNat q0).y*S'),fr ((l.getD ((y - tp)*w+(x - lf)).toNat q0).z*S')]:=fun S' k a0 a1 a2 a3 a4 hS hk=>by
   refine bI5 rfl ?_ dq.ok hS hk
   simp only[L7,dIx,A5,A4,A1,xg0,xg1,xbs,mu,ab4,ad,Q4.d,sp]
  cases mk with
  | none =>
   have r:as7 s lf tp none w h l x y=(l.getD ((y - tp)*w+(x - lf)).toNat q0).wt s:=by unfold as7 aB3;rw[aq]
   rw[r]
   wp_walk using evD,S9,v8,af0,ao0,an9,an8,an7,an6,an5,an4,m7,af1,ao2,ah8,ao1,ab9,ac1,ac0,ai1,ai0,ah9,shD,cc6,aS3,mkD,cp8,b1,b2,b3,b4,decide_true,c s 4 _ _ _ none _ hs.h (by omega)
   rfl
  | some ms =>
   have hl:=(M ms rfl).1
   have af:=atF ms pn.1 (by rw[hl];exact pn.2)
   have hm:=aK7 (M ms rfl).2 (show((y - tp)*(w:Int)+(x - lf)).toNat < ms.length by omega)
   have lt:=N5 hs.h.bd hm.h.bd (by decide)
   have sm:IsSh 8 (s*ms.getD ((y - tp)*(w:Int)+(x - lf)).toNat 1):=⟨hs.h.bd.mul hm.h.bd,Rat.le_trans (X6 hs.h.bd.nn hm.h.le) hs.h.le⟩
   have r:as7 s lf tp (some ms) w h l x y=(l.getD ((y - tp)*w+(x - lf)).toNat q0).wt (s*ms.getD ((y - tp)*(w:Int)+(x - lf)).toNat 1):=by
    unfold as7 aB3
    simp only[if_pos b]
    rw[aq,cl3]
   rw[r]
   wp_walk using evD,S9,v8,af0,ao0,an9,an8,an7,an6,an5,an4,m7,af1,ao2,ah8,ao1,ab9,ac1,ac0,ai1,ai0,ah9,shD,cc6,aS3,mkD,cp7,b1,b2,b3,b4,decide_true,mu,af,lt,c _ 8 _ _ _ none _ sm (by omega)
   rfl
 ·have r:as7 s lf tp mk w h l x y=q0:=by
   unfold as7 aB3
   have aq:atQ w h l (x - lf) (y - tp)=q0:=by unfold atQ;rw[if_neg b]
   cases mk with
   | none=>simp only[aq,bd2]
   | some ms=>simp only[if_neg b,aq,bd2]
  rw[r]
  have cd:=fun a0 a1 a2 a5 a8=>(ca1 (w:=w) (h:=h) (X:=x - lf) (Y:=y - tp) (a0:=a0) (a1:=a1) (a2:=a2) (a5:=a5) (a8:=a8)).trans (congrArg (fun t=>some (!t)) (decide_eq_false b))
  simp only[xnf]at cd
  simp only[S9,A6,sIf,G7,A9,ac5,B0,M6,C2,N4,B1,tB2,A4,dIx,A5,dC,A1,D4,A0,A2,N9,xg0,xg1,xw0,xw1,xbs,xms,xft,if_false,if_true,p8,v8,af0,ao0,an9,an8,an7,an6,an5,an4,m7,af1,ao2,ah8,ao1,ab9,ac1,ac0,ai1,ai0,ah9,shD,cc6,aS3,cd,bY3]
theorem aE2{nm:D}{m:Man}{s:Rat}{sh:Bool}{ns:List Nd}{q:Q4}{j:Nat}(hs:Sr 4 s) (f:Nat) (x y:Int) (e:x8 f [↥ns,.int x,.int y]=some q.d) (hq:Dq j q) (l:j+4<=8000) :
  V4 (f+1) [Nd.d (.group nm m s sh ns),.int x,.int y]=some (q.wt s).d:=by
 rw[Nd.d]
 refine C3 (g:=S9 (n4 f)) (ρ:=[‹.tuple [.str "group", nm,.str m.s,fr s,.bool sh,↥ns]›,‹.int x›,‹.int y›,none,none,none,none,none,none]) rfl ?_
 have e':n4 f 1 [↥ns,.int x,.int y]=some q.d:=e
 have he:(L7 (A3 (n4 f 1) (A0 (dIx (A5 0) ⇑5) (A0 (A1 1) (A0 (A1 2) A2))))) [‹.tuple [.str "group", nm,.str m.s,fr s,.bool sh,↥ns]›,‹.int x›,‹.int y›,none,none,none,none,none,none]=some [fr q.c,fr q.x,fr q.y,fr q.z]:=by simp only[L7,A3,A0,A2,dIx,A5,dC,A1,xg0,xg1,xbs,xms,ab9,e',Q4.d,sp]
 have c:G8 1 [0] (L7 (A3 (n4 f 1) (A0 (dIx (A5 0) ⇑5) (A0 (A1 1) (A0 (A1 2) A2))))) (B1 0) K3 (A3 K1 (A0 (A1 0) (A0 (dIx (A5 1) ⇑3) A2))) [‹.tuple [.str "group", nm,.str m.s,fr s,.bool sh,↥ns]›,‹.int x›,‹.int y›,none,none,none,none,none,none]=some [fr (q.c*s),fr (q.x*s),fr (q.y*s),fr (q.z*s)]:=by
  refine n9 (l:=[q.c,q.x,q.y,q.z]) (h:=fr) (f:=fun r=>fr (r*s)) (r:=[‹.tuple [.str "group", nm,.str m.s,fr s,.bool sh,↥ns]›]) rfl he (by show 4<=1000;decide) ?_
  intro r hr
  have b:Bd j r:=by
   have ok:=hq.ok
   simp only[List.mem_cons,List.not_mem_nil,or_false]at hr
   rcases hr with rfl|rfl|rfl|rfl
   ·exact ok.hc.bd
   ·exact ok.hx
   ·exact ok.hy
   ·exact ok.hz
  simp only[A3,A0,A2,A1,dIx,A5,dC,xg0,xg1,xbs,xms,ah8,N5 b hs.h.bd l]
 simp only[S9,A6,sIf,A9,O0,qN,tB2,A4,dIx,A5,dC,xg0,xbs,xms,m7,bm5,N9,if_true,c,xft,if_false]
 rfl
def ah4(f:Nat):DS:=(sIf (U0 (M1 (dIx (A5 4) ⇑4)) (tB2 eqD (dIx (A5 4) ⇑0) (dC (.str "tone")))) (B0 3 (A3 af4 (A0 (dIx (A5 4) ⇑2) (A0 (A1 3) (A0 (dIx (A5 4) ⇑3) A2))))) (sIf (M1 (dIx (A5 4) ⇑4)) (B0 3 (A3 Z1 (A0 (dIx (A5 4) ⇑2) (A0 (A3 (n4 f 0) (A0 (A1 4) (A0 (A1 1) (A0 (A1 2) A2)))) (A0 (A1 3) A2))))) G7))
mutual
theorem bl6(x y:Int):∀(n:Nd) (f:Nat) (q:Q4) (j:Nat),n.Ok->2*n.dp+1<=f->Dq j q->j+n.wg<=900->(∀a0:Option B,ah4 f [a0,‹.int x›,‹.int y›,‹q.d›,‹n.d›]=some (.nx [a0,‹.int x›,‹.int y›,some (.val (Nd.ab x y n q).d),‹n.d›]))/\Dq (j+n.wg) (Nd.ab x y n q)
 | .layer nm m s sh lf tp mk w h l kb,f,q,j,ok,hf,hq,hj=>by
  obtain⟨f,rfl⟩:∃g,f=g+1:=⟨f - 1,by omega⟩
  simp only[Nd.Ok]at ok
  simp only[Nd.wg]at hj
  obtain⟨hs,S,H,M,k1⟩:=ok
  have bo:n4 (f+1) 0 [Nd.d (.layer nm m s sh lf tp mk w h l kb),.int x,.int y]=_:=aE1 (nm:=nm) (m:=m) (sh:=sh) k1 (by omega) hs S H M f x y
  have b:=Dq.bl m (au6 (lf:=lf) (tp:=tp) k1 hs H M x y) hq (by omega)
  have b':=Dq.lbl m (au6 (lf:=lf) (tp:=tp) k1 hs H M x y) hq (by omega)
  refine⟨fun a0=>?_,?_⟩
  ·rw[Nd.d]at bo ⊢
   cases sh with
   | true=>wp_walk using evD,ah4,v8,af0,ao0,an9,an8,an7,an6,an5,an4,m7,af1,ao2,ah8,ao1,ab9,ac1,ac0,ai1,ai0,ah9,cs4,bo,b',Nd.ab
   | false=>wp_walk using evD,ah4,v8,af0,ao0,an9,an8,an7,an6,an5,an4,m7,af1,ao2,ah8,ao1,ab9,ac1,ac0,ai1,ai0,ah9,Nd.ab
  ·simp only[Nd.ab,Nd.wg]
   split
   ·exact b.1.mono (by omega)
   ·exact hq.mono (by omega)
 | .tone nm r s sh,f,q,j,ok,hf,hq,hj=>by
  simp only[Nd.Ok]at ok
  simp only[Nd.wg]at hj
  have b:=Dq.tn r hq ok (by omega)
  have b':=Dq.ltn r hq ok (by omega)
  refine⟨fun a0=>?_,?_⟩
  ·rw[Nd.d]
   cases sh with
   | true=>wp_walk using evD,ah4,v8,af0,ao0,an9,an8,an7,an6,an5,an4,m7,af1,ao2,ah8,ao1,ab9,ac1,ac0,ai1,ai0,ah9,cs3,b',Nd.ab
   | false=>wp_walk using evD,ah4,v8,af0,ao0,an9,an8,an7,an6,an5,an4,m7,af1,ao2,ah8,ao1,ab9,ac1,ac0,ai1,ai0,ah9,Nd.ab
  ·simp only[Nd.ab,Nd.wg]
   split
   ·exact b.1.mono (by omega)
   ·exact hq.mono (by omega)
 | .group nm m s sh ns,f,q,j,ok,hf,hq,hj=>by
  simp only[Nd.dp]at hf
  obtain⟨f,rfl⟩:∃g,f=g+2:=⟨f - 2,by omega⟩
  simp only[Nd.Ok]at ok
  simp only[Nd.wg]at hj
  obtain⟨hs,oks⟩:=ok
  have lp:=lloop_ok x y ns f q0 1 oks (by omega) (Dq.zero 0) (by omega)
  have sb:x8 (f+1) [↥ns,.int x,.int y]=some (Nd.sw x y ns q0).d:=by
   obtain⟨a4,e4⟩:=lp.1 (‹↥ns›) none
   refine C3 (g:=w6 (n4 f)) (ρ:=[‹↥ns›,‹.int x›,‹.int y›,none,none]) rfl ?_
   unfold ah4 at e4
   simp only[w6,A6,B0,A4,D4,A0,A2,dC,bY3,P9,L7,A1,A9,xms,xbs,xw0,xw1,xg0,xg1,e4]
  have bo:n4 (f+2) 0 [Nd.d (.group nm m s sh ns),.int x,.int y]=_:=aE2 (nm:=nm) (m:=m) (sh:=sh) hs (f+1) x y sb lp.2 (by omega)
  have b:=Dq.bl m (lp.2.wt hs) hq (by omega)
  have b':=Dq.lbl m (lp.2.wt hs) hq (by omega)
  refine⟨fun a0=>?_,?_⟩
  ·rw[Nd.d]at bo ⊢
   cases sh with
   | true=>wp_walk using evD,ah4,v8,af0,ao0,an9,an8,an7,an6,an5,an4,m7,af1,ao2,ah8,ao1,ab9,ac1,ac0,ai1,ai0,ah9,cs5,bo,b',Nd.ab
   | false=>wp_walk using evD,ah4,v8,af0,ao0,an9,an8,an7,an6,an5,an4,m7,af1,ao2,ah8,ao1,ab9,ac1,ac0,ai1,ai0,ah9,Nd.ab
  ·simp only[Nd.ab,Nd.wg]
   split
   ·exact b.1.mono (by omega)
   ·exact hq.mono (by omega)
theorem lloop_ok(x y:Int):∀(ns:List Nd) (f:Nat) (q:Q4) (j:Nat),Nd.Oks ns->2*Nd.dps ns+1<=f->Dq j q->j+Nd.wgs ns<=900 ->
  (∀a0 a4:Option B,∃a4',V6 (B1 4) (ah4 f) (Nd.ds ns) [a0,‹.int x›,‹.int y›,‹q.d›,a4]=some (.nx [a0,‹.int x›,‹.int y›,some (.val (Nd.sw x y ns q).d),a4']))/\Dq (j+Nd.wgs ns) (Nd.sw x y ns q)
 | [],f,q,j,ok,hf,hq,hj=>by
  simp only[Nd.sw,Nd.wgs]
  exact⟨fun a0 a4=>⟨a4,by simp only[Nd.ds];rfl⟩,hq⟩
 | n::r,f,q,j,ok,hf,hq,hj=>by
  simp only[Nd.Oks]at ok
  simp only[Nd.dps]at hf
  simp only[Nd.wgs]at hj
  have a:=bl6 x y n f q j ok.1 (by omega) hq (by omega)
  have b:=lloop_ok x y r f (Nd.ab x y n q) (j+n.wg) ok.2 (by omega) a.2 (by omega)
  simp only[Nd.sw,Nd.wgs]
  refine⟨fun a0 a4=>?_,by rw[← Nat.add_assoc];exact b.2⟩
  obtain⟨a4',e'⟩:=b.1 a0 (‹n.d›)
  refine⟨a4',?_⟩
  simp only[Nd.ds,V6,B1,xbs,xw0,xw1,a.1 a0,e']
end
theorem bl1(x y:Int) (ns:List Nd) (f:Nat) (ok:Nd.Oks ns) (hf:2*Nd.dps ns+1<=f) (hj:1+Nd.wgs ns<=900):x8 (f+1) [↥ns,.int x,.int y]=some (Nd.sw x y ns q0).d:=by
 have lp:=lloop_ok x y ns f q0 1 ok hf (Dq.zero 0) hj
 obtain⟨a4,e4⟩:=lp.1 (‹↥ns›) none
 refine C3 (g:=w6 (n4 f)) (ρ:=[‹↥ns›,‹.int x›,‹.int y›,none,none]) rfl ?_
 unfold ah4 at e4
 simp only[w6,A6,B0,A4,D4,A0,A2,dC,bY3,P9,L7,A1,A9,xms,xbs,xw0,xw1,xg0,xg1,e4]
theorem D5{f g:DS}{ρ ρ':Rho}(h:f ρ=some (.nx ρ')):A6 f g ρ=g ρ':=by unfold A6;rw[h];rfl
theorem aX0{f g:DS}{ρ:Rho}{d:D}(h:f ρ=some (.rt d)):A6 f g ρ=some (.rt d):=by unfold A6;rw[h];rfl
theorem Z6{α:Type}{g:D->Rho->Option Rho}{f:DS}{h:α->D}{I:Nat->Rho->Prop}:∀(l:List α) (i:Nat) (ρ:Rho),I i ρ->(∀(j:Nat) (a:α),l[j]? = some a->∀ρ,I (i+j) ρ->∃ρ1,g (h a) ρ=some ρ1/\∃ρ',f ρ1=some (.nx ρ')/\I (i+j+1) ρ')->∃ρ',V6 g f (l.map h) ρ=some (.nx ρ')/\I (i+l.length) ρ'
 | [],i,ρ,h0,_=>⟨ρ,rfl,h0⟩
 | a::l,i,ρ,h0,H=>by
  obtain⟨ρ1,e1,ρ2,e2,h2⟩:=H 0 a rfl ρ h0
  obtain⟨ρ',e3,h3⟩:=Z6 l (i+1) ρ2 (by simpa using h2) (fun j b hb ρ hρ=>by
   have:=H (j+1) b (by simpa using hb) ρ (by rwa [show i+(j+1)=i+1+j by omega])
   rwa [show i+(j+1)+1=i+1+j+1 by omega]at this)
  refine⟨ρ',?_,by rw[List.length_cons,show i+(l.length+1)=i+1+l.length by omega];exact h3⟩
  simp only[xmc,V6,e1,xbs,e2,e3]
theorem aE7{α:Type}(x:α) {n:Nat}{P:Nat->α->Prop}(h:∀j,j < n->∃a,P j a):∃f:Nat->α,∀j,j < n->P j (f j):=by
 refine⟨fun j=>if hj:j < n then Classical.choose (h j hj) else x,fun j hj=>?_⟩
 simp only[dif_pos hj]
 exact Classical.choose_spec (h j hj)
theorem L9(ns:List Int) (hn:ns.length<=63) {e m':Int}(k m:Nat) (he:e=(k:Int)) (hm':m'=(m:Int)) (hk:k < 2 ^ 60) (hm:0 < m):∃n:Nat,A7 [scr ns,.int e,.int m']=some (.int n)/\n < m:=by
 subst he hm'
 exact aS5 ns k m hn hk hm
theorem aO3(ns:List Int) (hn:ns.length<=63) {e:Int}(k:Nat) (he:e=(k:Int)) (hk:k < 2 ^ 40):∃r,Q1 [scr ns,.int e]=some (fr r)/\IsSh 4 r:=by
 subst he
 exact ag2 ns k hn hk
theorem bt3(ns:List Int) (hn:ns.length<=63) {e:Int}(k w h:Nat) (he:e=(k:Int)) (hk:k < 2 ^ 20) (w1:1<=w) (w8:w<=8) (h1:1<=h) (h8:h<=8):∃l:List Q4,ag6 [scr ns,.int e,.int w,.int h]=some (shD w h l)/\ShOk 8 w h l:=by
 subst he
 exact aK0 ns k w h hn hk w1 w8 h1 h8
theorem an0(r:Rat):Dv r.den r:=by
 have:=Dv.of r.num (N1 r)
 rwa [Rat.mkRat_self]at this
theorem ar1{k:Nat}{s:Rat}(h:IsSh k s):Sr k s:=⟨h,s.den,N1 s,h.bd.den,an0 s⟩
theorem bE3{q:Q4}(h:q.ok 8):Dq 32 q :=
 ⟨h.or,q.c.den*q.x.den*(q.y.den*q.z.den),Nat.mul_pos (Nat.mul_pos (N1 _) (N1 _)) (Nat.mul_pos (N1 _) (N1 _)),V0 (V0 h.hc.bd.den h.hx.den) (V0 h.hy.den h.hz.den),
  ((an0 q.c).right _).right _,((an0 q.x).left _).right _,((an0 q.y).right _).left _,((an0 q.z).left _).left _⟩
def SOk(s:Str):Prop:=∀c∈s.cps.toList,97<=c/\c<=122
theorem SOk.ok{s:Str}(h:SOk s):PyData.canLay0 (.str s)=true:=by
 show s.cps.all (· < 0x110000)=true
 rw[Array.all_eq_true']
 intro c hc
 exact decide_eq_true (by have:=h c (Array.mem_toList_iff.mpr hc);omega)
theorem SOk.app{a b:Str}(ha:SOk a) (hb:SOk b):SOk (a++b):=by
 intro c hc
 have:c∈(a.cps++b.cps).toList:=hc
 rw[Array.toList_append]at this
 rcases List.mem_append.mp this with h|h
 ·exact ha c h
 ·exact hb c h
theorem ch4(x:Str) (n:Nat) (h:n < x.length) (hx:x.length<=1000):∃s:Str,atS x (n:Int)=some (.str s)/\s.length=1/\(SOk x->SOk s):=by
 unfold atS
 rw[if_pos (by omega)]
 have hl:x.cps.toList.length=x.length:=by unfold Str.length;simp
 have h':n < x.cps.toList.length:=by omega
 have:atI x.cps.toList (n:Int)=some x.cps.toList[n]:=by
  unfold atI
  rw[ap7 (by omega) (by omega),xbs,Int.toNat_natCast,List.getElem?_eq_getElem h']
 rw[this]
 refine⟨⟨#[x.cps.toList[n]]⟩,rfl,rfl,fun hs c hc=>?_⟩
 have:c=x.cps.toList[n]:=by simpa using hc
 rw[this]
 exact hs _ (List.getElem_mem h')
theorem bJ2(x:Str) (lo hi:Option Int):(slS x lo hi).length<=x.length:=by
 unfold slS
 split
 ·exact Nat.le_refl _
 ·unfold Str.length
  rw[List.size_toArray]
  exact Nat.le_trans (List.length_filterMap_le ..) (PyProof.Rows.indices_len_le ..)
theorem bJ1{x:Str}(h:SOk x) (lo hi:Option Int):SOk (slS x lo hi):=by
 unfold slS
 split
 ·exact h
 ·intro c hc
  simp only[List.toList_toArray]at hc
  obtain⟨i,_,e⟩:=List.mem_filterMap.mp hc
  exact h c (Array.mem_toList_iff.mpr (Array.mem_of_getElem? e))
theorem bu0{x:Str}(h:SOk x) (k:Int) (hk:k=1\/k=2):SOk (as6 x k):=by
 unfold as6
 split
 ·exact h
 ·rename_i e
  rcases hk with rfl|rfl
  ·simp at e
  ·intro c hc
   have:c∈((#[]++x.cps)++x.cps).toList:=hc
   simp at this
   exact h c (Array.mem_toList_iff.mpr this)
theorem bC4{a b:Str}(ha:SOk a) (hb:SOk b):SOk (Builtin.Str.glued "" [a,b]):=by
 intro c hc
 have:c∈(a.cps++("" : Str).cps++b.cps).toList:=hc
 rw[Array.toList_append,Array.toList_append]at this
 rcases List.mem_append.mp this with h|h
 ·rcases List.mem_append.mp h with h|h
  ·exact ha c h
  ·exact absurd h (by simp[show("" : Str).cps = #[] from rfl])
 ·exact hb c h
theorem bS5:SOk "abcdefghijklmnopqrstuvwxyz" := by
 have:("abcdefghijklmnopqrstuvwxyz" : Str).cps.toList.all (fun c=>decide (97<=c/\c<=122))=true:=by decide +kernel
 intro c hc
 exact of_decide_eq_true (List.all_eq_true.mp this c hc)
def ltr(k:Nat):Str:=⟨#[97+k]⟩
theorem cc4:∀k:Nat,k < 14->atS "abcdefghijklmn" (k:Int)=some (.str (ltr k)):=by
 have e:("abcdefghijklmn" : Str)=⟨#[97,98,99,100,101,102,103,104,105,106,107,108,109,110]⟩:=by decide +kernel
 intro k hk
 rw[e]
 rcases k with _|_|_|_|_|_|_|_|_|_|_|_|_|_|k
 all_goals first|rfl|omega
theorem bf5(k:Nat) (h:k < 14):SOk (ltr k):=by
 intro c hc
 have:c=97+k:=by simpa [ltr] using hc
 omega
def nmS(b:Bool) (k:Nat) (y:Str):Str:=if b=true then ltr k++y else y++ltr k
theorem bM7(b:Bool) {k:Nat}{y:Str}(hk:k < 14) (hy:SOk y):SOk (nmS b k y):=by
 unfold nmS
 split
 ·exact(bf5 k hk).app hy
 ·exact hy.app (bf5 k hk)
theorem be9{b:Bool}{i j:Nat}{y z:Str}(e:nmS b i y=nmS b j z):i=j:=by
 unfold nmS at e
 cases b with
 | true =>
  have e:(ltr i).cps++y.cps=(ltr j).cps++z.cps:=congrArg Str.cps e
  have e:=congrArg (fun a=>a.toList.head?) e
  simp[ltr]at e
  omega
 | false =>
  have e:y.cps++(ltr i).cps=z.cps++(ltr j).cps:=congrArg Str.cps e
  have e:=congrArg (fun a=>a.toList.getLast?) e
  simp[ltr]at e
  omega
theorem aO7(x:Str) (k:Int) (hk:k=1\/k=2):(as6 x k).length<=2*x.length:=by
 unfold as6
 split
 ·omega
 ·rename_i e
  rcases hk with rfl|rfl
  ·simp at e
  ·show((#[]++x.cps)++x.cps).size<=2*x.cps.size
   simp;omega
theorem bU4(a b:Str) (ha:a.length=1) (hb:b.length=1):ay5 (dC (.str "")) (fun _=>some (false,[.str a,.str b])) []=some (.str (Builtin.Str.glued "" [a,b]))/\(Builtin.Str.glued "" [a,b]).length=2:=by
 have h2:(Builtin.Str.glued "" [a,b]).length=2:=by
  show(a.cps++("" : Str).cps++b.cps).size=2
  unfold Str.length at ha hb
  rw[Array.size_append,Array.size_append,ha,hb]
  rfl
 have h1:am1 "" [a,b]<=16777216:=by
  show 0+a.length+("" : Str).length+b.length+("" : Str).length<=16777216
  have:("" : Str).length=0:=rfl
  omega
 refine⟨?_,h2⟩
 show(if am1 "" [a,b]<=16777216/\(Builtin.Str.glued "" [a,b]).length<=16777216 then some (PyData.str (Builtin.Str.glued "" [a,b])) else none)=_
 rw[if_pos ⟨h1,by omega⟩]
theorem bO9{f:DE}{g:Rho->Option (Bool×List D)}{ρ:Rho}{a b:Str}(hf:f ρ=some (.str "")) (hg:g ρ=some (false,[.str a,.str b])) (ha:a.length=1) (hb:b.length=1):ay5 f g ρ=some (.str (Builtin.Str.glued "" [a,b])):=by
 rw[← (bU4 a b ha hb).1]
 unfold ay5
 rw[hf,hg]
 rfl
theorem bN0(x:Str) (k:Int) (hk:k=1\/k=2) (hx:x.length<=1000):bk7 (.str x) (.int k)=some (.str (as6 x k)):=by
 show(if 1<=k/\k<=2/\x.length<=1000/\(as6 x k).length<=16777216 then some (PyData.str (as6 x k)) else none)=_
 have:=aO7 x k hk
 rw[if_pos ⟨by omega,by omega,hx,by omega⟩]
theorem aT7(a b:Str) (ha:a.length<=1000) (hb:b.length<=1000):C0 (.str a) (.str b)=some (.str (a++b)):=by
 show(if a.length+b.length<=16777216 then some (PyData.str (a++b)) else none)=_
 rw[if_pos (by omega)]
theorem cw0:∀n:Nat,n < 2->∃k:Int,atI ([.int 1,.int 2]:List D) (n:Int)=some (.int k)/\(k=1\/k=2)
 | 0,_=>⟨1,rfl,.inl rfl⟩
 | 1,_=>⟨2,rfl,.inr rfl⟩
 | n+2,h=>absurd h (by omega)
def nbA:DS:=(B0 6 (ay5 (dC (.str "")) (qN (G8 1 [0,1,5] (O1 ⇑2) (B1 0) K3 (aj3 (dC (.str "abcdefghijklmnopqrstuvwxyz")) (A3 A7 (A0 (A1 1) (A0 (A4 C0 (A4 C0 (A4 C0 (A1 2) ⇑1) (A4 L6 ⇑3 (A1 3))) (A1 0)) (A0 ⇑26 A2)))))))))
def nbB:DS:=(B0 6 (A4 bk7 (bo5 (A1 6) N6 (L4 (A3 A7 (A0 (A1 0) (A0 (A4 C0 (A4 C0 (A1 1) ⇑3) (A4 L6 ⇑3 (A1 5))) (A0 ⇑3 A2)))))) (dIx (qN (A0 ⇑1 (A0 ⇑2 A2))) (A3 A7 (A0 (A1 0) (A0 (A4 C0 (A4 C0 (A1 1) ⇑2) (A4 L6 ⇑3 (A1 5))) (A0 ⇑2 A2)))))))
def nbC:DS:=(O9 4 (dIx (qN (A0 (A4 C0 (A1 6) (aj3 (dC (.str "abcdefghijklmn")) (A1 5))) (A0 (A4 C0 (aj3 (dC (.str "abcdefghijklmn")) (A1 5)) (A1 6)) A2))) (u9 (A1 3))))
def aQ0:DS:=A6 nbA (A6 nbB nbC)
theorem bC2:aG4=(A6 (B0 3 (A4 eqD (A3 A7 (A0 (A1 0) (A0 (A1 1) (A0 ⇑2 A2)))) ⇑0)) (A6 (U1 4 A2) (A6 (P9 (O1 (A1 2)) (B1 5) aQ0) (ag9 4 (A9 (A1 4)))))):=rfl
def gb0:DS:=(B0 8 (A3 A7 (A0 (A1 0) (A0 (A4 C0 (A4 C0 (A1 1) ⇑3) (A4 L6 ⇑5 (A1 7))) (A0 (A4 C0 (V5 (A5 6)) ⇑1) A2)))))
def gb1:DS:=(B0 9 (A4 C0 (A1 8) (A3 A7 (A0 (A1 0) (A0 (A4 C0 (A4 C0 (A1 1) ⇑4) (A4 L6 ⇑5 (A1 7))) (A0 ⇑3 A2))))))
def gb2:DS:=(B0 10 (dIx (qN (A0 (D4 (A0 ⇑1 (A0 ⇑1 A2))) (A0 (A3 Q1 (A0 (A1 0) (A0 (A4 C0 (A4 C0 (A1 1) ⇑5) (A4 L6 ⇑5 (A1 7))) A2))) A2))) (A3 A7 (A0 (A1 0) (A0 (A4 C0 (A4 C0 (A1 1) ⇑6) (A4 L6 ⇑5 (A1 7))) (A0 ⇑2 A2))))))
def gb3:DS:=(B0 11 (dIx (qN (A0 (A1 4) (A0 (dC (.str "atop")) (A0 (A1 4) (A0 (dC (.str "cut")) A2))))) (A3 A7 (A0 (A1 0) (A0 (A4 C0 (A4 C0 (A1 1) ⇑7) (A4 L6 ⇑5 (A1 7))) (A0 ⇑4 A2))))))
def gb4:DS:=(B0 12 (D4 (A0 (dC (.str "group")) (A0 (dIx (A5 3) (A4 C0 (A1 2) (A1 7))) (A0 (A1 11) (A0 (A1 10) (A0 (A4 gtI (A3 A7 (A0 (A1 0) (A0 (A4 C0 (A4 C0 (A1 1) ⇑14) (A1 7)) (A0 ⇑7 A2)))) ⇑0) A2)))))))
def gb5:DS:=(bt4 6 (L4 (A1 8)) (L4 (A1 9)) (A0 (A4 C0 (A1 12) (D4 (A0 (O0 (qE (bo6 (A5 6) (L4 (A1 8)) (L4 (A1 9))))) A2))) A2))
def bg5:DS:=(A6 gb0 (A6 gb1 (A6 gb2 (A6 gb3 (A6 gb4 gb5)))))
def gn0:DS:=(B0 4 (dIx (qN (A0 (dC (.str "over")) (A0 (dC (.str "multiply")) (A0 (dC (.str "screen")) (A0 (dC (.str "plus")) A2))))) (A3 A7 (A0 (A1 0) (A0 (A1 1) (A0 ⇑4 A2))))))
def gn1:DS:=(B0 5 (A3 A7 (A0 (A1 0) (A0 (A4 C0 (A1 1) ⇑1) (A0 (A4 C0 (A1 2) ⇑1) A2)))))
def gn2:DS:=(U1 6 (G8 1 [0,4,3,1] (O1 (A1 5)) (B1 0) K3 (A3 x9 (A0 (A1 1) (A0 (A4 C0 (A4 C0 (A1 4) ⇑20) (A4 L6 ⇑170 (A1 0))) (A0 (dIx (A5 3) (A1 0)) (A0 (A1 2) A2)))))))
def gn3:DS:=(P9 (O1 (A3 A7 (A0 (A1 0) (A0 (A4 C0 (A1 1) ⇑2) (A0 ⇑3 A2))))) (B1 7) bg5)
def gn4:DS:=(A9 (O0 (A5 6)))
theorem bC1:aG3=(A6 gn0 (A6 gn1 (A6 gn2 (A6 gn3 gn4)))):=rfl
theorem cb8(ns:List Int) (hn:ns.length<=63) (at' k:Nat) (ha:at' < 2 ^ 20) (hk:k < 14) (a2:Option B) (b:Bool) (L:List D) (a6:Option B):∃x:Str,nbA [‹scr ns›,‹.int at'›,a2,‹.bool b›,some (.own L),‹.int k›,a6]=some (.nx [‹scr ns›,‹.int at'›,a2,‹.bool b›,some (.own L),‹.int k›,‹.str x›])/\x.length=2/\SOk x:=by
 have m3:L6 (.int 3) (.int k)=some (.int ((3*k:Nat):Int)):=S7 (i:=3) (by decide) (by omega)
 have P:∀j,j < 2->∃s:Str,aj3 (dC (.str "abcdefghijklmnopqrstuvwxyz")) (A3 A7 (A0 (A1 1) (A0 (A4 C0 (A4 C0 (A4 C0 (A1 2) ⇑1) (A4 L6 ⇑3 (A1 3))) (A1 0)) (A0 ⇑26 A2)))) [‹.int (j:Nat)›,‹scr ns›,‹.int at'›,‹.int k›]=some (.str s)/\s.length=1/\SOk s:=fun j hj=>by
  obtain⟨d,ed,ld⟩:=L9 ns hn (e:=(at':Int)+1+((3*k:Nat):Int)+(j:Int)) (m':=26) (at'+1+3*k+j) 26 (by omega) rfl (by omega) (by decide)
  obtain⟨s,es,ls,ss⟩:=ch4 "abcdefghijklmnopqrstuvwxyz" d ld (by decide)
  refine⟨s,?_,ls,ss bS5⟩
  wp_walk using evD,aj3,m3,ed,es
 obtain⟨S,hS⟩:=aE7 (x:=("" : Str)) P
 have c:G8 1 [0,1,5] (O1 ⇑2) (B1 0) K3 (aj3 (dC (.str "abcdefghijklmnopqrstuvwxyz")) (A3 A7 (A0 (A1 1) (A0 (A4 C0 (A4 C0 (A4 C0 (A1 2) ⇑1) (A4 L6 ⇑3 (A1 3))) (A1 0)) (A0 ⇑26 A2))))) [‹scr ns›,‹.int at'›,a2,‹.bool b›,some (.own L),‹.int k›,a6]=some ((List.range 2).map fun j=>.str (S j)) :=
  n9 (l:=List.range 2) (h:=fun j:Nat=>PyData.int j) (r:=[‹scr ns›,‹.int at'›,‹.int k›]) rfl (k7 (n:=2) rfl (by decide)) (by decide) fun j hj=>(hS j (List.mem_range.mp hj)).1
 refine⟨Builtin.Str.glued "" [S 0,S 1],?_,(bU4 _ _ (hS 0 (by decide)).2.1 (hS 1 (by decide)).2.1).2,bC4 (hS 0 (by decide)).2.2 (hS 1 (by decide)).2.2⟩
 have jn:=bO9 (f:=dC (.str "")) (g:=qN (G8 1 [0,1,5] (O1 ⇑2) (B1 0) K3 (aj3 (dC (.str "abcdefghijklmnopqrstuvwxyz")) (A3 A7 (A0 (A1 1) (A0 (A4 C0 (A4 C0 (A4 C0 (A1 2) ⇑1) (A4 L6 ⇑3 (A1 3))) (A1 0)) (A0 ⇑26 A2))))))) (ρ:=[‹scr ns›,‹.int at'›,a2,‹.bool b›,some (.own L),‹.int k›,a6]) rfl (by unfold qN;rw[c];rfl) (hS 0 (by decide)).2.1 (hS 1 (by decide)).2.1
 unfold nbA B0
 rw[jn]
 rfl
theorem cb7(ns:List Int) (hn:ns.length<=63) (at' k:Nat) (ha:at' < 2 ^ 20) (hk:k < 14) (a2:Option B) (b:Bool) (L:List D) (x:Str) (hx:x.length=2) (sx:SOk x):∃y:Str,nbB [‹scr ns›,‹.int at'›,a2,‹.bool b›,some (.own L),‹.int k›,‹.str x›]=some (.nx [‹scr ns›,‹.int at'›,a2,‹.bool b›,some (.own L),‹.int k›,‹.str y›])/\y.length<=4/\SOk y:=by
 have m3:L6 (.int 3) (.int k)=some (.int ((3*k:Nat):Int)):=S7 (i:=3) (by decide) (by omega)
 obtain⟨d,ed,ld⟩:=L9 ns hn (e:=(at':Int)+3+((3*k:Nat):Int)) (m':=3) (at'+3+3*k) 3 (by omega) rfl (by omega) (by decide)
 obtain⟨d',ed',ld'⟩:=L9 ns hn (e:=(at':Int)+2+((3*k:Nat):Int)) (m':=2) (at'+2+3*k) 2 (by omega) rfl (by omega) (by decide)
 obtain⟨kk,ek,hk'⟩:=cw0 d' ld'
 have sl:=bJ2 x none (some (d:Int))
 have rl:=aO7 (slS x none (some (d:Int))) kk hk'
 refine⟨as6 (slS x none (some (d:Int))) kk,?_,by omega,bu0 (bJ1 sx _ _) kk hk'⟩
 have a1:bo5 (A1 6) N6 (L4 (A3 A7 (A0 (A1 0) (A0 (A4 C0 (A4 C0 (A1 1) ⇑3) (A4 L6 ⇑3 (A1 5))) (A0 ⇑3 A2))))) [‹scr ns›,‹.int at'›,a2,‹.bool b›,some (.own L),‹.int k›,‹.str x›]=some (.str (slS x none (some (d:Int)))):=by
  have cnd:x.length<=1000/\(slS x none (some (d:Int))).length<=16777216:=⟨by omega,by omega⟩
  wp_walk using evD,bo5,m3,ed,if_pos cnd
 have a2:dIx (qN (A0 ⇑1 (A0 ⇑2 A2))) (A3 A7 (A0 (A1 0) (A0 (A4 C0 (A4 C0 (A1 1) ⇑2) (A4 L6 ⇑3 (A1 5))) (A0 ⇑2 A2)))) [‹scr ns›,‹.int at'›,a2,‹.bool b›,some (.own L),‹.int k›,‹.str x›]=some (.int kk):=by wp_walk using evD,m3,ed',ek
 unfold nbB B0
 rw[au9 a1 a2,bN0 _ kk hk' (by omega)]
 rfl
theorem ifb(b:Bool) (x y:D):atI [x,y] (if b=true then 1 else 0)=some (if b=true then y else x):=by cases b<;>rfl
theorem cb6(ns:List Int) (at' k:Nat) (hk:k < 14) (a2:Option B) (b:Bool) (L:List D) (hL:L.length<=100) (y:Str) (hy:y.length<=4):nbC [‹scr ns›,‹.int at'›,a2,‹.bool b›,some (.own L),‹.int k›,‹.str y›]=some (.nx [‹scr ns›,‹.int at'›,a2,‹.bool b›,some (.own (L++[.str (nmS b k y)])),‹.int k›,‹.str y›]):=by
 have ec:=cc4 k hk
 have lc:(ltr k).length=1:=rfl
 have c1:=aT7 y (ltr k) (by omega) (by omega)
 have c2:=aT7 (ltr k) y (by omega) (by omega)
 have hl:L.length < 16777216:=by omega
 have e:dIx (qN (A0 (A4 C0 (A1 6) (aj3 (dC (.str "abcdefghijklmn")) (A1 5))) (A0 (A4 C0 (aj3 (dC (.str "abcdefghijklmn")) (A1 5)) (A1 6)) A2))) (u9 (A1 3)) [‹scr ns›,‹.int at'›,a2,‹.bool b›,some (.own L),‹.int k›,‹.str y›]=some (.str (nmS b k y)):=by
  wp_walk using evD,aj3,ec,c1,c2,ifb
  cases b<;>rfl
 unfold nbC O9
 simp only[xg0,xg1,if_pos hl,e,xms,xw0,xw1]
theorem bx0(ns:List Int) (hn:ns.length<=63) (at' many:Nat) (ha:at' < 2 ^ 20) (hm:many<=14):∃L:List D,ag7 [scr ns,.int at',.int many]=some (.list L)/\L.length=many/\∃b:Bool,∀i,i < many->∃y,L[i]? = some (.str (nmS b i y))/\SOk y/\y.length<=4:=by
 obtain⟨d,ed,ld⟩:=L9 ns hn (e:=(at':Int)) (m':=2) at' 2 rfl rfl (by omega) (by decide)
 obtain⟨ρ',e,L,a5,a6,hρ,hL,hP⟩:=Z6 (g:=B1 5) (f:=aQ0) (h:=fun j:Nat=>PyData.int j) (I:=fun i ρ=>∃(L:List D) (a5 a6:Option B),ρ=[‹scr ns›,‹.int at'›,‹.int many›,‹.bool ((d:Int)==0)›,some (.own L),a5,a6]/\L.length=i/\∀n,n < i->∃y,L[n]? = some (.str (nmS ((d:Int)==0) n y))/\SOk y/\y.length<=4) (List.range many) 0 [‹scr ns›,‹.int at'›,‹.int many›,‹.bool ((d:Int)==0)›,some (.own []),none,none] ⟨[],none,none,rfl,rfl,fun n h=>absurd h (Nat.not_lt_zero n)⟩ (fun j a hj ρ hρ=>by
  obtain⟨L,a5,a6,rfl,hL,hP⟩:=hρ
  obtain⟨hj1,hj2⟩:=List.getElem?_eq_some_iff.mp hj
  rw[List.length_range]at hj1
  rw[List.getElem_range]at hj2
  subst hj2
  refine⟨_,rfl,?_⟩
  simp only[xw0,xw1]
  obtain⟨x,e1,hx,sx⟩:=cb8 ns hn at' j ha (by omega) (‹.int many›) ((d:Int)==0) L a6
  obtain⟨y,e2,hy,sy⟩:=cb7 ns hn at' j ha (by omega) (‹.int many›) ((d:Int)==0) L x hx sx
  have e3:=cb6 ns at' j (by omega) (‹.int many›) ((d:Int)==0) L (by omega) y hy
  have eb:aQ0 [‹scr ns›,‹.int at'›,‹.int many›,‹.bool ((d:Int)==0)›,some (.own L),‹.int j›,a6]=some (.nx [‹scr ns›,‹.int at'›,‹.int many›,‹.bool ((d:Int)==0)›,some (.own (L++[.str (nmS ((d:Int)==0) j y)])),‹.int j›,‹.str y›]):=by
   unfold aQ0
   rw[D5 e1,D5 e2,e3]
  refine⟨_,eb,L++[.str (nmS ((d:Int)==0) j y)],_,_,rfl,by rw[List.length_append,hL];rfl,fun n hn=>?_⟩
  by_cases q:n < 0+j
  ·obtain⟨z,e1,e2⟩:=hP n q
   exact⟨z,by rw[List.getElem?_append_left (by omega)];exact e1,e2⟩
  ·have:n=L.length:=by omega
   refine⟨y,?_,sy,hy⟩
   rw[this,List.getElem?_append_right (Nat.le_refl _),Nat.sub_self]
   rw[show L.length=j by omega]
   rfl)
 subst hρ
 rw[List.length_range,Nat.zero_add]at hL hP
 refine⟨L,?_,hL,_,hP⟩
 refine C3 (ρ:=[‹scr ns›,‹.int at'›,‹.int many›,none,none,none,none]) rfl ?_
 have rn:O1 (A1 2) [‹scr ns›,‹.int at'›,‹.int many›,‹.bool ((d:Int)==0)›,some (.own []),none,none]=_:=k7 (n:=many) rfl (by omega)
 have s0:(B0 3 (A4 eqD (A3 A7 (A0 (A1 0) (A0 (A1 1) (A0 ⇑2 A2)))) ⇑0)) [‹scr ns›,‹.int at'›,‹.int many›,none,none,none,none]=some (.nx [‹scr ns›,‹.int at'›,‹.int many›,‹.bool ((d:Int)==0)›,none,none,none]):=by simp only[B0,A4,A3,A0,A2,A1,dC,xbs,xms,xg0,xg1,xw0,xw1,ed,at0]
 have s1:(U1 4 A2) [‹scr ns›,‹.int at'›,‹.int many›,‹.bool ((d:Int)==0)›,none,none,none]=some (.nx [‹scr ns›,‹.int at'›,‹.int many›,‹.bool ((d:Int)==0)›,some (.own []),none,none]):=rfl
 have s2:(P9 (O1 (A1 2)) (B1 5) aQ0) [‹scr ns›,‹.int at'›,‹.int many›,‹.bool ((d:Int)==0)›,some (.own []),none,none]=some (.nx [‹scr ns›,‹.int at'›,‹.int many›,‹.bool ((d:Int)==0)›,some (.own L),a5,a6]):=by
  unfold P9
  rw[rn]
  exact e
 have s3:(ag9 4 (A9 (A1 4))) [‹scr ns›,‹.int at'›,‹.int many›,‹.bool ((d:Int)==0)›,some (.own L),a5,a6]=some (.rt (.list L)):=rfl
 rw[bC2,D5 s0,D5 s1,D5 s2]
 exact s3
theorem cv7:∀n:Nat,n < 6->∃m:Man,atI ([.str "over", .str "multiply", .str "screen", .str "plus", .str "atop", .str "cut"]:List D) (n:Int)=some (.str m.s)
 | 0,_=>⟨.over,rfl⟩
 | 1,_=>⟨.mult,rfl⟩
 | 2,_=>⟨.screen,rfl⟩
 | 3,_=>⟨.plus,rfl⟩
 | 4,_=>⟨.atop,rfl⟩
 | 5,_=>⟨.cut,rfl⟩
 | n+6,h=>absurd h (by omega)
theorem cv8:∀n:Nat,n < 4->∃m:Man,atI ([.str "over", .str "multiply", .str "screen", .str "plus"]:List D) (n:Int)=some (.str m.s)
 | 0,_=>⟨.over,rfl⟩
 | 1,_=>⟨.mult,rfl⟩
 | 2,_=>⟨.screen,rfl⟩
 | 3,_=>⟨.plus,rfl⟩
 | n+4,h=>absurd h (by omega)
theorem cp9(m:Man):∀n:Nat,n < 4->∃m':Man,atI ([.str m.s,.str "atop", .str m.s,.str "cut"]:List D) (n:Int)=some (.str m'.s)
 | 0,_=>⟨m,rfl⟩
 | 1,_=>⟨.atop,rfl⟩
 | 2,_=>⟨m,rfl⟩
 | 3,_=>⟨.cut,rfl⟩
 | n+4,h=>absurd h (by omega)
theorem cv1:∀n:Nat,n < 3->∃r:Rul,atI ([.str "turn", .str "grey", .str "round"]:List D) (n:Int)=some (.str r.s)
 | 0,_=>⟨.turn,rfl⟩
 | 1,_=>⟨.grey,rfl⟩
 | 2,_=>⟨.round,rfl⟩
 | n+3,h=>absurd h (by omega)
theorem bi5(n:Nat):((n:Int)==0)=decide (n=0):=by
 cases n with
 | zero=>rfl
 | succ n=>rw[decide_eq_false (by omega)];exact beq_eq_false_iff_ne.mpr (by omega)
theorem bH6(n:Nat):(decide ((0:Int) < (n:Int)))=decide (0 < n):=by
 cases n with
 | zero=>rfl
 | succ n=>rw[decide_eq_true (by omega),decide_eq_true (by omega)]
theorem ad1(n:Nat):(1:Int)+(n:Int)=((1+n:Nat):Int):=by omega
def Nd.nm:Nd->D
 | .layer nm ..=>nm
 | .tone nm ..=>nm
 | .group nm ..=>nm
mutual
def Nd.near:Nd->Prop
 | .layer _ _ _ _ lf tp _ w h l kb=>-2<=lf/\lf<=2/\-2<=tp/\tp<=2/\kb<=40/\w<=3/\h<=3/\∀q∈l,q.ok 8
 | .tone ..=>True
 | .group _ _ _ _ ns=>Nd.nears ns
def Nd.nears:List Nd->Prop
 | []=>True
 | n::r=>n.near/\Nd.nears r
end
theorem u6:∀l:List Nd,Nd.nears l↔∀n∈l,n.near
 | []=>by simp[Nd.nears]
 | n::r=>by simp[Nd.nears,u6 r]
theorem bN3(ns:List Int) (hn:ns.length<=63) (at':Nat) (ha:at' < 2 ^ 19) (nm:D) (m:Man):∃n:Nd,x9 [scr ns,.int at',nm,.str m.s]=some n.d/\n.Ok/\n.dp=0/\n.wg<=40/\n.nm=nm/\n.near:=by
 obtain⟨s,es,hs⟩:=ag2 ns at' hn (by omega)
 have es:Q1 [scr ns,.int at']=some (fr s):=es
 obtain⟨d3,e3,l3⟩:=L9 ns hn (e:=(at':Int)+3) (m':=6) (at'+3) 6 (by omega) rfl (by omega) (by decide)
 obtain⟨d4,e4,l4⟩:=L9 ns hn (e:=(at':Int)+4) (m':=6) (at'+4) 6 (by omega) rfl (by omega) (by decide)
 obtain⟨d6,e6,l6⟩:=L9 ns hn (e:=(at':Int)+6) (m':=3) (at'+6) 3 (by omega) rfl (by omega) (by decide)
 obtain⟨d7,e7,l7⟩:=L9 ns hn (e:=(at':Int)+7) (m':=3) (at'+7) 3 (by omega) rfl (by omega) (by decide)
 obtain⟨d8,e8,l8⟩:=L9 ns hn (e:=(at':Int)+8) (m':=3) (at'+8) 3 (by omega) rfl (by omega) (by decide)
 obtain⟨d9,e9,l9⟩:=L9 ns hn (e:=(at':Int)+9) (m':=3) (at'+9) 3 (by omega) rfl (by omega) (by decide)
 obtain⟨d10,e10,l10⟩:=L9 ns hn (e:=(at':Int)+10) (m':=4) (at'+10) 4 (by omega) rfl (by omega) (by decide)
 obtain⟨d11,e11,l11⟩:=L9 ns hn (e:=(at':Int)+11) (m':=4) (at'+11) 4 (by omega) rfl (by omega) (by decide)
 obtain⟨d12,e12,l12⟩:=L9 ns hn (e:=(at':Int)+12) (m':=3) (at'+12) 3 (by omega) rfl (by omega) (by decide)
 obtain⟨d5,e5,l5⟩:=L9 ns hn (e:=(at':Int)+5) (m':=3) (at'+5) 3 (by omega) rfl (by omega) (by decide)
 obtain⟨d5',e5',l5'⟩:=L9 ns hn (e:=(at':Int)+5) (m':=6) (at'+5) 6 (by omega) rfl (by omega) (by decide)
 have s0:ad7 [‹scr ns›,‹.int at'›,‹nm›,‹.str m.s›,none,none,none,none,none,none,none,none,none]=some (.nx [‹scr ns›,‹.int at'›,‹nm›,‹.str m.s›,‹fr s›,none,none,none,none,none,none,none,none]):=by wp_walk using evD,ad7,es
 have s1:ad6 [‹scr ns›,‹.int at'›,‹nm›,‹.str m.s›,‹fr s›,none,none,none,none,none,none,none,none]=some (.nx [‹scr ns›,‹.int at'›,‹nm›,‹.str m.s›,‹fr s›,‹.bool (decide (0 < d3))›,none,none,none,none,none,none,none]):=by wp_walk using evD,ad6,e3,bH6
 by_cases t4:d4=0
 ·obtain⟨r,er⟩:=cv1 d5 l5
  refine⟨.tone nm r s (decide (0 < d3)),?_,ar1 hs,rfl,by show 6<=40;decide,rfl,by rw[Nd.near];trivial⟩
  have s2:X5 [‹scr ns›,‹.int at'›,‹nm›,‹.str m.s›,‹fr s›,‹.bool (decide (0 < d3))›,none,none,none,none,none,none,none]=some (.rt (.tuple [.str "tone", nm,.str r.s,fr s,.bool (decide (0 < d3))])):=by wp_walk using evD,X5,e4,bi5,decide_eq_true t4,e5,er
  refine C3 (ρ:=[‹scr ns›,‹.int at'›,‹nm›,‹.str m.s›,none,none,none,none,none,none,none,none,none]) rfl ?_
  unfold az9
  rw[D5 s0,D5 s1,aX0 s2,Nd.d]
 have s2:X5 [‹scr ns›,‹.int at'›,‹nm›,‹.str m.s›,‹fr s›,‹.bool (decide (0 < d3))›,none,none,none,none,none,none,none]=some (.nx [‹scr ns›,‹.int at'›,‹nm›,‹.str m.s›,‹fr s›,‹.bool (decide (0 < d3))›,none,none,none,none,none,none,none]):=by wp_walk using evD,X5,e4,bi5,decide_eq_false t4
 obtain⟨m0,em0⟩:=cv7 d5' l5'
 have s3:ad5 [‹scr ns›,‹.int at'›,‹nm›,‹.str m.s›,‹fr s›,‹.bool (decide (0 < d3))›,none,none,none,none,none,none,none]=some (.nx [‹scr ns›,‹.int at'›,‹nm›,‹.str m.s›,‹fr s›,‹.bool (decide (0 < d3))›,‹.str m0.s›,none,none,none,none,none,none]):=by wp_walk using evD,ad5,e5',em0
 obtain⟨m1,s4⟩:∃m1:Man,j8 [‹scr ns›,‹.int at'›,‹nm›,‹.str m.s›,‹fr s›,‹.bool (decide (0 < d3))›,‹.str m0.s›,none,none,none,none,none,none]=some (.nx [‹scr ns›,‹.int at'›,‹nm›,‹.str m.s›,‹fr s›,‹.bool (decide (0 < d3))›,‹.str m1.s›,none,none,none,none,none,none]):=by
  by_cases t6:0 < d6
  ·exact⟨m,by wp_walk using evD,j8,e6,bH6,decide_eq_true t6⟩
  ·exact⟨m0,by wp_walk using evD,j8,e6,bH6,decide_eq_false t6⟩
 have s5:ad4 [‹scr ns›,‹.int at'›,‹nm›,‹.str m.s›,‹fr s›,‹.bool (decide (0 < d3))›,‹.str m1.s›,none,none,none,none,none,none]=some (.nx [‹scr ns›,‹.int at'›,‹nm›,‹.str m.s›,‹fr s›,‹.bool (decide (0 < d3))›,‹.str m1.s›,‹.int ((1+d7:Nat):Int)›,none,none,none,none,none]):=by wp_walk using evD,ad4,e7,ad1
 have s6:ad3 [‹scr ns›,‹.int at'›,‹nm›,‹.str m.s›,‹fr s›,‹.bool (decide (0 < d3))›,‹.str m1.s›,‹.int ((1+d7:Nat):Int)›,none,none,none,none,none]=some (.nx [‹scr ns›,‹.int at'›,‹nm›,‹.str m.s›,‹fr s›,‹.bool (decide (0 < d3))›,‹.str m1.s›,‹.int ((1+d7:Nat):Int)›,‹.int ((1+d8:Nat):Int)›,none,none,none,none]):=by wp_walk using evD,ad3,e8,ad1
 have s7:ad2 [‹scr ns›,‹.int at'›,‹nm›,‹.str m.s›,‹fr s›,‹.bool (decide (0 < d3))›,‹.str m1.s›,‹.int ((1+d7:Nat):Int)›,‹.int ((1+d8:Nat):Int)›,none,none,none,none]=some (.nx [‹scr ns›,‹.int at'›,‹nm›,‹.str m.s›,‹fr s›,‹.bool (decide (0 < d3))›,‹.str m1.s›,‹.int ((1+d7:Nat):Int)›,‹.int ((1+d8:Nat):Int)›,some (.val .none),none,none,none]):=by wp_walk using evD,ad2
 have wh:(1+d7)*(1+d8)<=9:=Nat.mul_le_mul (show 1+d7<=3 by omega) (show 1+d8<=3 by omega)
 have mwh:L6 (.int ((1+d7:Nat):Int)) (.int ((1+d8:Nat):Int))=some (.int (((1+d7)*(1+d8):Nat):Int)):=S7 (by omega) (by omega)
 obtain⟨mk,s8,hmk⟩:∃mk:Option (List Rat),j7 [‹scr ns›,‹.int at'›,‹nm›,‹.str m.s›,‹fr s›,‹.bool (decide (0 < d3))›,‹.str m1.s›,‹.int ((1+d7:Nat):Int)›,‹.int ((1+d8:Nat):Int)›,some (.val .none),none,none,none]=some (.nx [‹scr ns›,‹.int at'›,‹nm›,‹.str m.s›,‹fr s›,‹.bool (decide (0 < d3))›,‹.str m1.s›,‹.int ((1+d7:Nat):Int)›,‹.int ((1+d8:Nat):Int)›,‹mkD mk›,none,none,none])/\∀ms,mk=some ms->ms.length=(1+d7)*(1+d8)/\∀r∈ms,Sr 4 r:=by
  by_cases t9:d9=0
  ·have P:∀j,j < 9->∃r:Rat,Q1 [scr ns,.int ((at':Int)+20+((3*j:Nat):Int))]=some (fr r)/\IsSh 4 r:=fun j hj=>aO3 ns hn (at'+20+3*j) (by omega) (by omega)
   obtain⟨R,hR⟩:=aE7 (x:=(0:Rat)) P
   have c:G8 1 [0,1] (O1 (A4 L6 (A1 7) (A1 8))) (B1 0) K3 (A3 Q1 (A0 (A1 1) (A0 (A4 C0 (A4 C0 (A1 2) ⇑20) (A4 L6 ⇑3 (A1 0))) A2))) [‹scr ns›,‹.int at'›,‹nm›,‹.str m.s›,‹fr s›,‹.bool (decide (0 < d3))›,‹.str m1.s›,‹.int ((1+d7:Nat):Int)›,‹.int ((1+d8:Nat):Int)›,some (.val .none),none,none,none]=some ((List.range ((1+d7)*(1+d8))).map fun j=>fr (R j)):=by
    refine n9 (l:=List.range ((1+d7)*(1+d8))) (h:=fun j:Nat=>PyData.int j) (r:=[‹scr ns›,‹.int at'›]) rfl (k7 ((au9 rfl rfl).trans mwh) (by omega)) (by rw[List.length_range];omega) fun j hj=>?_
    have hj:=List.mem_range.mp hj
    have m3:L6 (.int 3) (.int j)=some (.int ((3*j:Nat):Int)):=S7 (i:=3) (by decide) (by omega)
    wp_walk using evD,m3,(hR j (by omega)).1
   refine⟨some ((List.range ((1+d7)*(1+d8))).map R),?_,fun ms e=>?_⟩
   ·simp only[j7,sIf,tB2,B0,O0,qN,c,A4,A3,A0,A2,A1,dC,ab4,e9,at0,bi5,decide_eq_true t9,N9,xbs,xms,xg0,xg1,xw0,xw1,if_true,xft,if_false,mkD,List.map_map]
    rfl
   ·cases e
    refine⟨by rw[List.length_map,List.length_range],fun r hr=>?_⟩
    obtain⟨j,hj,rfl⟩:=List.mem_map.mp hr
    exact ar1 (hR j (by have:=List.mem_range.mp hj;omega)).2
  ·exact⟨none,by(wp_walk using evD,j7,e9,bi5,decide_eq_false t9,mkD),fun ms e=>by cases e⟩
 have s9:ad0 [‹scr ns›,‹.int at'›,‹nm›,‹.str m.s›,‹fr s›,‹.bool (decide (0 < d3))›,‹.str m1.s›,‹.int ((1+d7:Nat):Int)›,‹.int ((1+d8:Nat):Int)›,‹mkD mk›,none,none,none]=some (.nx [‹scr ns›,‹.int at'›,‹nm›,‹.str m.s›,‹fr s›,‹.bool (decide (0 < d3))›,‹.str m1.s›,‹.int ((1+d7:Nat):Int)›,‹.int ((1+d8:Nat):Int)›,‹mkD mk›,‹.int ((d10:Int) - 1)›,none,none]):=by wp_walk using evD,ad0,e10
 have s10:aa2 [‹scr ns›,‹.int at'›,‹nm›,‹.str m.s›,‹fr s›,‹.bool (decide (0 < d3))›,‹.str m1.s›,‹.int ((1+d7:Nat):Int)›,‹.int ((1+d8:Nat):Int)›,‹mkD mk›,‹.int ((d10:Int) - 1)›,none,none]=some (.nx [‹scr ns›,‹.int at'›,‹nm›,‹.str m.s›,‹fr s›,‹.bool (decide (0 < d3))›,‹.str m1.s›,‹.int ((1+d7:Nat):Int)›,‹.int ((1+d8:Nat):Int)›,‹mkD mk›,‹.int ((d10:Int) - 1)›,‹.int ((d11:Int) - 1)›,none]):=by wp_walk using evD,aa2,e11
 obtain⟨w,h,lf,tp,mk',s11,hw,hh,hmk',hof⟩:∃(w h:Nat) (lf tp:Int) (mk':Option (List Rat)),Y5 [‹scr ns›,‹.int at'›,‹nm›,‹.str m.s›,‹fr s›,‹.bool (decide (0 < d3))›,‹.str m1.s›,‹.int ((1+d7:Nat):Int)›,‹.int ((1+d8:Nat):Int)›,‹mkD mk›,‹.int ((d10:Int) - 1)›,‹.int ((d11:Int) - 1)›,none]=some (.nx [‹scr ns›,‹.int at'›,‹nm›,‹.str m.s›,‹fr s›,‹.bool (decide (0 < d3))›,‹.str m1.s›,‹.int (w:Nat)›,‹.int (h:Nat)›,‹mkD mk'›,‹.int lf›,‹.int tp›,none])/\(1<=w/\w<=3)/\(1<=h/\h<=3)/\(∀ms,mk'=some ms->ms.length=w*h/\∀r∈ms,Sr 4 r)/\(-2<=lf/\lf<=2/\-2<=tp/\tp<=2):=by
  by_cases t12:d12=0
  ·refine⟨3,3,0,0,none,?_,by decide,by decide,(fun ms e=>by cases e),by decide⟩
   have l5:∀a b c d e:D,([a,b,c,d,e]:List D).length=5:=fun _ _ _ _ _=>rfl
   wp_walk using evD,Y5,e12,bi5,decide_eq_true t12,l5,mkD
   rfl
  ·exact⟨1+d7,1+d8,(d10:Int) - 1,(d11:Int) - 1,mk,by(wp_walk using evD,Y5,e12,bi5,decide_eq_false t12),by omega,by omega,hmk,by omega⟩
 obtain⟨l,el,S⟩:=bt3 ns hn (e:=(at':Int)+50) (at'+50) w h (by omega) (by omega) hw.1 (by omega) hh.1 (by omega)
 have s12:aa1 [‹scr ns›,‹.int at'›,‹nm›,‹.str m.s›,‹fr s›,‹.bool (decide (0 < d3))›,‹.str m1.s›,‹.int (w:Nat)›,‹.int (h:Nat)›,‹mkD mk'›,‹.int lf›,‹.int tp›,none]=some (.nx [‹scr ns›,‹.int at'›,‹nm›,‹.str m.s›,‹fr s›,‹.bool (decide (0 < d3))›,‹.str m1.s›,‹.int (w:Nat)›,‹.int (h:Nat)›,‹mkD mk'›,‹.int lf›,‹.int tp›,‹shD w h l›]):=by wp_walk using evD,aa1,el
 refine⟨.layer nm m1 s (decide (0 < d3)) lf tp mk' w h l 32,?_,?_,rfl,Nat.le_refl _,rfl,by rw[Nd.near];exact⟨hof.1,hof.2.1,hof.2.2.1,hof.2.2.2,by decide,by omega,by omega,S.ok⟩⟩
 ·have s13:aa0 [‹scr ns›,‹.int at'›,‹nm›,‹.str m.s›,‹fr s›,‹.bool (decide (0 < d3))›,‹.str m1.s›,‹.int (w:Nat)›,‹.int (h:Nat)›,‹mkD mk'›,‹.int lf›,‹.int tp›,‹shD w h l›]=some (.rt (.tuple [.str "layer", nm,.str m1.s,fr s,.bool (decide (0 < d3)),.int lf,.int tp,mkD mk',shD w h l])):=by
   wp_walk using evD,aa0
  refine C3 (ρ:=[‹scr ns›,‹.int at'›,‹nm›,‹.str m.s›,none,none,none,none,none,none,none,none,none]) rfl ?_
  unfold az9
  rw[D5 s0,D5 s1,D5 s2,D5 s3,D5 s4,D5 s5,D5 s6,D5 s7,D5 s8,D5 s9,D5 s10,D5 s11,D5 s12,s13,Nd.d]
 ·rw[Nd.Ok]
  exact⟨ar1 hs,⟨S.w1,S.w8,S.h1,S.h8,S.len,fun q hq=>(S.ok q hq).mono (by decide)⟩,fun q hq=>bE3 (S.ok q hq),hmk',by decide⟩
theorem P5:∀l:List Nd,Nd.ds l=l.map Nd.d
 | []=>by rw[Nd.ds];rfl
 | n::r=>by rw[Nd.ds,P5 r];rfl
theorem X0:∀l:List Nd,Nd.Oks l↔∀n∈l,n.Ok
 | []=>by simp[Nd.Oks]
 | n::r=>by simp[Nd.Oks,X0 r]
theorem S3:∀a b:List Nd,Nd.wgs (a++b)=Nd.wgs a+Nd.wgs b
 | [],b=>by simp[Nd.wgs]
 | n::a,b=>by rw[xca,Nd.wgs,Nd.wgs,S3 a b];omega
theorem X1:∀a b:List Nd,Nd.dps (a++b)=max (Nd.dps a) (Nd.dps b)
 | [],b=>by simp[Nd.dps]
 | n::a,b=>by rw[xca,Nd.dps,Nd.dps,X1 a b,Nat.max_assoc]
theorem br8:∀l:List Nd,(∀n∈l,n.wg<=40)->Nd.wgs l<=40*l.length
 | [],_=>by simp[Nd.wgs]
 | n::l,h=>by
  have a:=h n (List.mem_cons_self ..)
  have b:=br8 l fun m hm=>h m (xmm _ hm)
  rw[Nd.wgs,List.length_cons];omega
theorem aS6:∀l:List Nd,(∀n∈l,n.dp=0)->Nd.dps l=0
 | [],_=>by simp[Nd.dps]
 | n::l,h=>by
  have a:=h n (List.mem_cons_self ..)
  have b:=aS6 l fun m hm=>h m (xmm _ hm)
  rw[Nd.dps];omega
mutual
def Nd.nms:Nd->List D
 | .layer nm _ _ _ _ _ _ _ _ _ _=>[nm]
 | .tone nm _ _ _=>[nm]
 | .group nm _ _ _ ns=>nm::Nd.nmss ns
def Nd.nmss:List Nd->List D
 | []=>[]
 | n::r=>n.nms++Nd.nmss r
end
theorem P3:∀a b:List Nd,Nd.nmss (a++b)=Nd.nmss a++Nd.nmss b
 | [],b=>by simp[Nd.nmss]
 | n::a,b=>by rw[xca,Nd.nmss,Nd.nmss,P3 a b,List.append_assoc]
mutual
def Nd.thin:Nd->Prop
 | .layer ..=>True
 | .tone ..=>True
 | .group _ _ _ _ ns=>ns.length<=1000/\Nd.thins ns
def Nd.thins:List Nd->Prop
 | []=>True
 | n::r=>n.thin/\Nd.thins r
end
theorem Q9:∀l:List Nd,Nd.thins l↔∀n∈l,n.thin
 | []=>by simp[Nd.thins]
 | n::r=>by simp[Nd.thins,Q9 r]
def as9(l:List Nd) (a c:Nat) (g:List Nd->Nd):List Nd:=l.take a++[g ((l.drop a).take (c - a))]++l.drop c
theorem bX9(l:List Nd) {a c:Nat}(h:a<=c):l.take a++(l.drop a).take (c - a)++l.drop c=l:=by
 have e:l.drop c=(l.drop a).drop (c - a):=by rw[List.drop_drop];congr 1;omega
 rw[e,List.append_assoc,List.take_append_drop,List.take_append_drop]
theorem bS0{ds:List D}{a b:Nat}(ha:a<=ds.length):ab3 ds (some (a:Int)) (some (b:Int))=(ds.drop a).take (min b ds.length - a)/\∀es:List D,av8 ds (some (a:Int)) (some (b:Int)) es=ds.take a++es++ds.drop (max a (min b ds.length)):=by
 have h1:HT.sIx ds.length 0 (some (a:Int))=a:=by rw[HT.sIx_nat];omega
 have h2:HT.sIx ds.length ds.length (some (b:Int))=min b ds.length:=HT.sIx_nat ..
 refine⟨?_,fun es=>?_⟩
 ·unfold ab3;rw[h1,h2]
 ·unfold av8;rw[h1,h2]
theorem bC6(ns:List Int) (hn:ns.length<=63) (at' most k:Nat) (ha:at' < 2 ^ 18) (hk:k < 2) (hmost:most<=6) (N:List D) (hN:most+2<=N.length) (m:Man) (l:List Nd) (hl:l.length<=100) (a5 a8 a9 a10 a11 a12:Option B) :
  ∃(a c:Nat) (nm:D) (m':Man) (s:Rat) (sh:Bool) (b8 b9 b10 b11 b12:Option B),bg5 [‹scr ns›,‹.int at'›,‹.int most›,‹.list N›,‹.str m.s›,a5,some (.own (Nd.ds l)),‹.int k›,a8,a9,a10,a11,a12]=some (.nx [‹scr ns›,‹.int at'›,‹.int most›,‹.list N›,‹.str m.s›,a5,some (.own (Nd.ds (as9 l a c (Nd.group nm m' s sh)))),‹.int k›,b8,b9,b10,b11,b12])/\a<=c/\c<=l.length/\IsSh 4 s/\nm=N.getD (most+k) .none:=by
 have m5:L6 (.int 5) (.int k)=some (.int ((5*k:Nat):Int)):=S7 (i:=5) (by decide) (by omega)
 have hds:(Nd.ds l).length=l.length:=by rw[P5,List.length_map]
 obtain⟨f,ef,lf⟩:=L9 ns hn (e:=(at':Int)+3+((5*k:Nat):Int)) (m':=(((Nd.ds l).length:Nat):Int)+1) (at'+3+5*k) (l.length+1) (by omega) (by rw[hds];omega) (by omega) (by omega)
 obtain⟨d,ed,ld⟩:=L9 ns hn (e:=(at':Int)+4+((5*k:Nat):Int)) (m':=3) (at'+4+5*k) 3 (by omega) rfl (by omega) (by decide)
 obtain⟨s0,es0,hs0⟩:=aO3 ns hn (e:=(at':Int)+5+((5*k:Nat):Int)) (at'+5+5*k) (by omega) (by omega)
 obtain⟨d6,e6,l6⟩:=L9 ns hn (e:=(at':Int)+6+((5*k:Nat):Int)) (m':=2) (at'+6+5*k) 2 (by omega) rfl (by omega) (by decide)
 obtain⟨d7,e7,l7⟩:=L9 ns hn (e:=(at':Int)+7+((5*k:Nat):Int)) (m':=4) (at'+7+5*k) 4 (by omega) rfl (by omega) (by decide)
 obtain⟨d14,e14,l14⟩:=L9 ns hn (e:=(at':Int)+14+(k:Int)) (m':=7) (at'+14+k) 7 (by omega) rfl (by omega) (by decide)
 obtain⟨m',em'⟩:=cp9 m d7 l7
 obtain⟨s,est,hs⟩:∃s:Rat,atI ([.tuple [.int 1,.int 1],fr s0]:List D) (d6:Int)=some (fr s)/\IsSh 4 s:=by
  rcases(show d6=0\/d6=1 by omega) with rfl|rfl
  ·exact⟨1,rfl,Bd.one.mono (by decide),Rat.le_refl⟩
  ·exact⟨s0,rfl,hs0⟩
 obtain⟨nm,enm,hnm⟩:∃nm,atI N ((most:Int)+(k:Int))=some nm/\nm=N.getD (most+k) .none:=by
  unfold atI
  rw[ap7 (by omega) (by omega),xbs]
  have h':((most:Int)+(k:Int)).toNat=most+k:=by omega
  rw[h']
  exact⟨N[most+k]'(by omega),List.getElem?_eq_getElem (by omega),by rw[List.getD_eq_getElem?_getD,List.getElem?_eq_getElem (by omega)];rfl⟩
 refine⟨f,max f (min (f+d) l.length),nm,m',s,decide (0 < d14),?_⟩
 have s0:gb0 [‹scr ns›,‹.int at'›,‹.int most›,‹.list N›,‹.str m.s›,a5,some (.own (Nd.ds l)),‹.int k›,a8,a9,a10,a11,a12]=some (.nx [‹scr ns›,‹.int at'›,‹.int most›,‹.list N›,‹.str m.s›,a5,some (.own (Nd.ds l)),‹.int k›,‹.int f›,a9,a10,a11,a12]):=by wp_walk using evD,gb0,m5,ef
 have fd:(f:Int)+(d:Int)=((f+d:Nat):Int):=by omega
 have s1:gb1 [‹scr ns›,‹.int at'›,‹.int most›,‹.list N›,‹.str m.s›,a5,some (.own (Nd.ds l)),‹.int k›,‹.int f›,a9,a10,a11,a12]=some (.nx [‹scr ns›,‹.int at'›,‹.int most›,‹.list N›,‹.str m.s›,a5,some (.own (Nd.ds l)),‹.int k›,‹.int f›,‹.int ((f+d:Nat):Int)›,a10,a11,a12]):=by wp_walk using evD,gb1,m5,ed,fd
 have s2:gb2 [‹scr ns›,‹.int at'›,‹.int most›,‹.list N›,‹.str m.s›,a5,some (.own (Nd.ds l)),‹.int k›,‹.int f›,‹.int ((f+d:Nat):Int)›,a10,a11,a12]=some (.nx [‹scr ns›,‹.int at'›,‹.int most›,‹.list N›,‹.str m.s›,a5,some (.own (Nd.ds l)),‹.int k›,‹.int f›,‹.int ((f+d:Nat):Int)›,‹fr s›,a11,a12]):=by wp_walk using evD,gb2,m5,es0,e6,est
 have s3:gb3 [‹scr ns›,‹.int at'›,‹.int most›,‹.list N›,‹.str m.s›,a5,some (.own (Nd.ds l)),‹.int k›,‹.int f›,‹.int ((f+d:Nat):Int)›,‹fr s›,a11,a12]=some (.nx [‹scr ns›,‹.int at'›,‹.int most›,‹.list N›,‹.str m.s›,a5,some (.own (Nd.ds l)),‹.int k›,‹.int f›,‹.int ((f+d:Nat):Int)›,‹fr s›,‹.str m'.s›,a12]):=by wp_walk using evD,gb3,m5,e7,em'
 have s4:gb4 [‹scr ns›,‹.int at'›,‹.int most›,‹.list N›,‹.str m.s›,a5,some (.own (Nd.ds l)),‹.int k›,‹.int f›,‹.int ((f+d:Nat):Int)›,‹fr s›,‹.str m'.s›,a12]=some (.nx [‹scr ns›,‹.int at'›,‹.int most›,‹.list N›,‹.str m.s›,a5,some (.own (Nd.ds l)),‹.int k›,‹.int f›,‹.int ((f+d:Nat):Int)›,‹fr s›,‹.str m'.s›,‹.tuple [.str "group", nm,.str m'.s,fr s,.bool (decide (0 < d14))]›]):=by wp_walk using evD,gb4,enm,e14,bH6
 obtain⟨q1,q2⟩:=bS0 (ds:=Nd.ds l) (a:=f) (b:=f+d) (by omega)
 have mid:((Nd.ds l).drop f).take (min (f+d) (Nd.ds l).length - f)=Nd.ds ((l.drop f).take (max f (min (f+d) l.length) - f)):=by
  rw[hds,P5,P5,← List.map_drop,← List.map_take]
  congr 2;omega
 have s5:gb5 [‹scr ns›,‹.int at'›,‹.int most›,‹.list N›,‹.str m.s›,a5,some (.own (Nd.ds l)),‹.int k›,‹.int f›,‹.int ((f+d:Nat):Int)›,‹fr s›,‹.str m'.s›,‹.tuple [.str "group", nm,.str m'.s,fr s,.bool (decide (0 < d14))]›]=some (.nx [‹scr ns›,‹.int at'›,‹.int most›,‹.list N›,‹.str m.s›,a5,some (.own (Nd.ds (as9 l f (max f (min (f+d) l.length)) (Nd.group nm m' s (decide (0 < d14)))))),‹.int k›,‹.int f›,‹.int ((f+d:Nat):Int)›,‹fr s›,‹.str m'.s›,‹.tuple [.str "group", nm,.str m'.s,fr s,.bool (decide (0 < d14))]›]):=by
  have x1:bo6 (A5 6) (L4 (A1 8)) (L4 (A1 9)) [‹scr ns›,‹.int at'›,‹.int most›,‹.list N›,‹.str m.s›,a5,some (.own (Nd.ds l)),‹.int k›,‹.int f›,‹.int ((f+d:Nat):Int)›,‹fr s›,‹.str m'.s›,‹.tuple [.str "group", nm,.str m'.s,fr s,.bool (decide (0 < d14))]›]=some (.list (Nd.ds ((l.drop f).take (max f (min (f+d) l.length) - f)))):=by rw[← mid,← q1];rfl
  have x2:(A0 (A4 C0 (A1 12) (D4 (A0 (O0 (qE (bo6 (A5 6) (L4 (A1 8)) (L4 (A1 9))))) A2))) A2) [‹scr ns›,‹.int at'›,‹.int most›,‹.list N›,‹.str m.s›,a5,some (.own (Nd.ds l)),‹.int k›,‹.int f›,‹.int ((f+d:Nat):Int)›,‹fr s›,‹.str m'.s›,‹.tuple [.str "group", nm,.str m'.s,fr s,.bool (decide (0 < d14))]›]=some [Nd.d (Nd.group nm m' s (decide (0 < d14)) ((l.drop f).take (max f (min (f+d) l.length) - f)))]:=by
   have cc:∀a b c d e g:D,C0 (.tuple [a,b,c,d,e]) (.tuple [g])=some (.tuple [a,b,c,d,e,g]):=fun _ _ _ _ _ _=>rfl
   simp only[A0,A2,A4,D4,O0,qE,x1,ae0,A1,xbs,xms,xg0,xg1,xft,if_false,cc,Nd.d]
  have sz:(Nd.ds l).length+1<=16777216:=by omega
  have fin:av8 (Nd.ds l) (some (f:Int)) (some ((f+d:Nat):Int)) [Nd.d (Nd.group nm m' s (decide (0 < d14)) ((l.drop f).take (max f (min (f+d) l.length) - f)))]=Nd.ds (as9 l f (max f (min (f+d) l.length)) (Nd.group nm m' s (decide (0 < d14)))):=by
   rw[q2,hds]
   unfold as9
   rw[P5,P5,List.map_append,List.map_append,List.map_take,List.map_drop]
   rfl
  rw[← fin]
  unfold gb5 bt4
  rw[x2,xbs]
  show(if(Nd.ds l).length+1<=16777216 then some (Fl.nx _) else none)=_
  rw[if_pos sz]
  rfl
 refine⟨‹.int f›,‹.int ((f+d:Nat):Int)›,‹fr s›,‹.str m'.s›,‹.tuple [.str "group", nm,.str m'.s,fr s,.bool (decide (0 < d14))]›,?_,by omega,by omega,hs,hnm⟩
 unfold bg5
 rw[D5 s0,D5 s1,D5 s2,D5 s3,D5 s4,s5]
structure NOk (N:List D) (i:Nat) (most:Nat) (l:List Nd):Prop where
 ok:Nd.Oks l
 wg:Nd.wgs l<=40*most+5*i
 dp:Nd.dps l<=i
 len:l.length<=most+i
 th:Nd.thins l
 nr:Nd.nears l
 ix:∃is:List Nat,Nd.nmss l=is.map (fun j=>N.getD j .none)/\is.Nodup/\∀j∈is,j < most+i
theorem NOk.grp{N:List D}{i most:Nat}{l:List Nd}(h:NOk N i most l) {a c:Nat}{nm:D}{m:Man}{s:Rat}{sh:Bool}(ac:a<=c) (hs:IsSh 4 s) (hnm:nm=N.getD (most+i) .none) (h100:l.length<=100):NOk N (i+1) most (as9 l a c (Nd.group nm m s sh)):=by
 have e:=bX9 l ac
 have w1:=congrArg Nd.wgs e
 have w2:=congrArg Nd.dps e
 rw[S3,S3]at w1
 rw[X1,X1]at w2
 have hw:=h.wg
 have hd:=h.dp
 refine⟨?_,?_,?_,?_,?_,?_,?_⟩
 ·rw[X0]
  have ok:=(X0 l).mp h.ok
  intro n hn
  unfold as9 at hn
  rcases List.mem_append.mp hn with hn|hn
  ·rcases List.mem_append.mp hn with hn|hn
   ·exact ok n (List.mem_of_mem_take hn)
   ·rw[List.mem_singleton.mp hn]
    rw[Nd.Ok]
    exact⟨ar1 hs,(X0 _).mpr fun n' hn'=>ok n' (List.mem_of_mem_drop (List.mem_of_mem_take hn'))⟩
  ·exact ok n (List.mem_of_mem_drop hn)
 ·unfold as9
  rw[S3,S3]
  simp only[Nd.wgs,Nd.wg]
  omega
 ·unfold as9
  rw[X1,X1]
  simp only[Nd.dps,Nd.dp]
  omega
 ·unfold as9
  rw[List.length_append,List.length_append,List.length_take,List.length_drop,List.length_singleton]
  have:=h.len
  omega
 ·rw[Q9]
  have th:=(Q9 l).mp h.th
  intro n hn
  unfold as9 at hn
  rcases List.mem_append.mp hn with hn|hn
  ·rcases List.mem_append.mp hn with hn|hn
   ·exact th n (List.mem_of_mem_take hn)
   ·rw[List.mem_singleton.mp hn,Nd.thin]
    exact⟨Nat.le_trans (List.length_take_le' ..) (by rw[List.length_drop];omega),(Q9 _).mpr fun n' hn'=>th n' (List.mem_of_mem_drop (List.mem_of_mem_take hn'))⟩
  ·exact th n (List.mem_of_mem_drop hn)
 ·rw[u6]
  have th:=(u6 l).mp h.nr
  intro n hn
  unfold as9 at hn
  rcases List.mem_append.mp hn with hn|hn
  ·rcases List.mem_append.mp hn with hn|hn
   ·exact th n (List.mem_of_mem_take hn)
   ·rw[List.mem_singleton.mp hn,Nd.near]
    exact(u6 _).mpr fun n' hn'=>th n' (List.mem_of_mem_drop (List.mem_of_mem_take hn'))
  ·exact th n (List.mem_of_mem_drop hn)
 ·obtain⟨is,e1,e2,e3⟩:=h.ix
  have w3:=congrArg Nd.nmss e
  rw[P3,P3,e1]at w3
  obtain⟨i12,i3,q1,q2,q3⟩:=List.map_eq_append_iff.mp w3.symm
  obtain⟨i1,i2,p1,p2,p3⟩:=List.map_eq_append_iff.mp q2
  subst p1 q1
  refine⟨i1++((most+i)::i2)++i3,?_,?_,?_⟩
  ·unfold as9
   rw[P3,P3,← q3,← p2]
   simp only[Nd.nmss,Nd.nms,List.append_nil,List.map_append,xmc,p3,hnm]
  ·have pm:(i1++((most+i)::i2)++i3).Perm ((most+i)::(i1++i2++i3)):=by
    rw[List.append_assoc,xca,List.append_assoc i1 i2 i3]
    exact List.perm_middle
   rw[pm.nodup_iff,List.nodup_cons]
   exact⟨fun z=>by have:=e3 _ z;omega,e2⟩
  ·intro j hj
   have:j=most+i\/j∈i1++i2++i3:=by
    simp only[List.mem_append,List.mem_cons]at hj ⊢
    rcases hj with(h|h|h)|h
    ·exact .inr (.inl (.inl h))
    ·exact .inl h
    ·exact .inr (.inl (.inr h))
    ·exact .inr (.inr h)
   rcases this with rfl|h
   ·omega
   ·have:=e3 j h;omega
theorem bw2(ns:List Int) (hn:ns.length<=63) (at' most:Nat) (ha:at' < 2 ^ 18) (hmost:most<=6) (N:List D) (hN:most+2<=N.length):∃l:List Nd,aq8 [scr ns,.int at',.int most,.list N]=some ↥l/\NOk N 2 most l:=by
 obtain⟨d0,e0,l0⟩:=L9 ns hn (e:=(at':Int)) (m':=4) at' 4 rfl rfl (by omega) (by decide)
 obtain⟨d1,e1,l1⟩:=L9 ns hn (e:=(at':Int)+1) (m':=(most:Int)+1) (at'+1) (most+1) (by omega) (by omega) (by omega) (by omega)
 obtain⟨d2,e2,l2⟩:=L9 ns hn (e:=(at':Int)+2) (m':=3) (at'+2) 3 (by omega) rfl (by omega) (by decide)
 obtain⟨m,em⟩:=cv8 d0 l0
 have P:∀j,j < d1->∃n:Nd,A3 x9 (A0 (A1 1) (A0 (A4 C0 (A4 C0 (A1 4) ⇑20) (A4 L6 ⇑170 (A1 0))) (A0 (dIx (A5 3) (A1 0)) (A0 (A1 2) A2)))) [‹.int (j:Nat)›,‹scr ns›,‹.str m.s›,‹.list N›,‹.int at'›]=some n.d/\n.Ok/\n.dp=0/\n.wg<=40/\n.nm=N.getD j .none/\n.near:=fun j hj=>by
  have m170:L6 (.int 170) (.int j)=some (.int ((170*j:Nat):Int)):=S7 (i:=170) (by decide) (by omega)
  have en:atI N (j:Int)=some (N[j]'(by omega)):=by
   unfold atI
   rw[ap7 (by omega) (by omega),xbs,Int.toNat_natCast]
   exact List.getElem?_eq_getElem (by omega)
  obtain⟨n,en',hn'⟩:=bN3 ns hn (at'+20+170*j) (by omega) (N[j]'(by omega)) m
  have ei:(at':Int)+20+((170*j:Nat):Int)=((at'+20+170*j:Nat):Int):=by omega
  refine⟨n,?_,hn'.1,hn'.2.1,hn'.2.2.1,by rw[hn'.2.2.2.1,List.getD_eq_getElem?_getD,List.getElem?_eq_getElem (by omega)];rfl,hn'.2.2.2.2⟩
  wp_walk using evD,m170,en,ei,en'
 obtain⟨f,hf⟩:=aE7 (x:=Nd.tone .none .turn 0 true) P
 have g0:gn0 [‹scr ns›,‹.int at'›,‹.int most›,‹.list N›,none,none,none,none,none,none,none,none,none]=some (.nx [‹scr ns›,‹.int at'›,‹.int most›,‹.list N›,‹.str m.s›,none,none,none,none,none,none,none,none]):=by wp_walk using evD,gn0,e0,em
 have g1:gn1 [‹scr ns›,‹.int at'›,‹.int most›,‹.list N›,‹.str m.s›,none,none,none,none,none,none,none,none]=some (.nx [‹scr ns›,‹.int at'›,‹.int most›,‹.list N›,‹.str m.s›,‹.int d1›,none,none,none,none,none,none,none]):=by wp_walk using evD,gn1,e1
 have g2:gn2 [‹scr ns›,‹.int at'›,‹.int most›,‹.list N›,‹.str m.s›,‹.int d1›,none,none,none,none,none,none,none]=some (.nx [‹scr ns›,‹.int at'›,‹.int most›,‹.list N›,‹.str m.s›,‹.int d1›,some (.own (Nd.ds ((List.range d1).map f))),none,none,none,none,none,none]):=by
  have c:G8 1 [0,4,3,1] (O1 (A1 5)) (B1 0) K3 (A3 x9 (A0 (A1 1) (A0 (A4 C0 (A4 C0 (A1 4) ⇑20) (A4 L6 ⇑170 (A1 0))) (A0 (dIx (A5 3) (A1 0)) (A0 (A1 2) A2))))) [‹scr ns›,‹.int at'›,‹.int most›,‹.list N›,‹.str m.s›,‹.int d1›,none,none,none,none,none,none,none]=some ((List.range d1).map fun j=>(f j).d) :=
   n9 (l:=List.range d1) (h:=fun j:Nat=>PyData.int j) (r:=[‹scr ns›,‹.str m.s›,‹.list N›,‹.int at'›]) rfl (k7 (n:=d1) rfl (by omega)) (by rw[List.length_range];omega) fun j hj=>(hf j (List.mem_range.mp hj)).1
  unfold gn2 U1
  rw[c,P5,List.map_map]
  rfl
 have i9:NOk N 0 most ((List.range d1).map f):=by
  refine⟨(X0 _).mpr fun n h=>?_,?_,?_,?_,(Q9 _).mpr fun n h=>?_,(u6 _).mpr fun n h=>?_,List.range d1,?_,List.nodup_range,fun j hj=>by have:=List.mem_range.mp hj;omega⟩
  ·obtain⟨j,hj,rfl⟩:=List.mem_map.mp h
   exact(hf j (List.mem_range.mp hj)).2.1
  ·have:=br8 ((List.range d1).map f) fun n h=>by
    obtain⟨j,hj,rfl⟩:=List.mem_map.mp h
    exact(hf j (List.mem_range.mp hj)).2.2.2.1
   rw[List.length_map,List.length_range]at this
   omega
  ·rw[aS6 _ fun n h=>by
    obtain⟨j,hj,rfl⟩:=List.mem_map.mp h
    exact(hf j (List.mem_range.mp hj)).2.2.1]
   exact Nat.le_refl _
  ·rw[List.length_map,List.length_range];omega
  ·obtain⟨j,hj,rfl⟩:=List.mem_map.mp h
   have:=(hf j (List.mem_range.mp hj)).2.2.1
   cases q:f j with
   | group=>rw[q,Nd.dp]at this;omega
   | layer=>rw[Nd.thin];trivial
   | tone=>rw[Nd.thin];trivial
  ·obtain⟨j,hj,rfl⟩:=List.mem_map.mp h
   exact(hf j (List.mem_range.mp hj)).2.2.2.2.2
  ·have key:∀is:List Nat,(∀j∈is,j < d1)->Nd.nmss (is.map f)=is.map fun j=>N.getD j .none:=by
    intro is
    induction is with
    | nil=>intro _;simp[Nd.nmss]
    | cons j is ih =>
     intro hj
     have a:=hf j (hj j (List.mem_cons_self ..))
     rw[xmc,Nd.nmss,ih fun i hi=>hj i (xmm _ hi),xmc,← a.2.2.2.2.1]
     cases q:f j with
     | group=>have:=a.2.2.1;rw[q,Nd.dp]at this;omega
     | layer=>simp[Nd.nms,Nd.nm]
     | tone=>simp[Nd.nms,Nd.nm]
   exact key _ fun j hj=>List.mem_range.mp hj
 obtain⟨ρ',e3,l,b7,b8,b9,b10,b11,b12,hρ,hl⟩:=Z6 (g:=B1 7) (f:=bg5) (h:=fun j:Nat=>PyData.int j) (I:=fun i ρ=>∃(l:List Nd) (b7 b8 b9 b10 b11 b12:Option B),ρ=[‹scr ns›,‹.int at'›,‹.int most›,‹.list N›,‹.str m.s›,‹.int d1›,some (.own (Nd.ds l)),b7,b8,b9,b10,b11,b12]/\NOk N i most l) (List.range d2) 0 [‹scr ns›,‹.int at'›,‹.int most›,‹.list N›,‹.str m.s›,‹.int d1›,some (.own (Nd.ds ((List.range d1).map f))),none,none,none,none,none,none] ⟨_,_,_,_,_,_,_,rfl,i9⟩ (fun j a hj ρ hρ=>by
  obtain⟨l,b7,b8,b9,b10,b11,b12,rfl,hl⟩:=hρ
  obtain⟨hj1,hj2⟩:=List.getElem?_eq_some_iff.mp hj
  rw[List.length_range]at hj1
  rw[List.getElem_range]at hj2
  subst hj2
  refine⟨_,rfl,?_⟩
  simp only[xw0,xw1]
  have hll:=hl.len
  obtain⟨a,c,nm,m',s,sh,c8,c9,c10,c11,c12,eb,ac,cl,hs,hnm⟩:=bC6 ns hn at' most j ha (by omega) hmost N hN m l (by omega) (‹.int d1›) b8 b9 b10 b11 b12
  exact⟨_,eb,_,_,_,_,_,_,_,rfl,hl.grp ac hs (by rw[hnm,Nat.zero_add]) (by omega)⟩)
 subst hρ
 rw[List.length_range,Nat.zero_add]at hl
 refine⟨l,?_,hl.ok,by have:=hl.wg;omega,by have:=hl.dp;omega,by have:=hl.len;omega,hl.th,hl.nr,by
  obtain⟨is,q1,q2,q3⟩:=hl.ix
  exact⟨is,q1,q2,fun j hj=>by have:=q3 j hj;omega⟩⟩
 have rn:O1 (A3 A7 (A0 (A1 0) (A0 (A4 C0 (A1 1) ⇑2) (A0 ⇑3 A2)))) [‹scr ns›,‹.int at'›,‹.int most›,‹.list N›,‹.str m.s›,‹.int d1›,some (.own (Nd.ds ((List.range d1).map f))),none,none,none,none,none,none]=_:=k7 (n:=d2) (by wp_walk using evD,e2) (by omega)
 have g3:gn3 [‹scr ns›,‹.int at'›,‹.int most›,‹.list N›,‹.str m.s›,‹.int d1›,some (.own (Nd.ds ((List.range d1).map f))),none,none,none,none,none,none]=some (.nx [‹scr ns›,‹.int at'›,‹.int most›,‹.list N›,‹.str m.s›,‹.int d1›,some (.own (Nd.ds l)),b7,b8,b9,b10,b11,b12]):=by
  unfold gn3 P9
  rw[rn]
  exact e3
 have g4:gn4 [‹scr ns›,‹.int at'›,‹.int most›,‹.list N›,‹.str m.s›,‹.int d1›,some (.own (Nd.ds l)),b7,b8,b9,b10,b11,b12]=some (.rt ↥l):=rfl
 refine C3 (ρ:=[‹scr ns›,‹.int at'›,‹.int most›,‹.list N›,none,none,none,none,none,none,none,none,none]) rfl ?_
 rw[bC1,D5 g0,D5 g1,D5 g2,D5 g3]
 exact g4
def G0(w h:Nat) (l:List Nd):D:=.tuple [.int w,.int h,↥l]
theorem aX5(ns:List Int) (hn:ns.length<=63) (at' most:Nat) (ha:at' < 2 ^ 17) (hmost:most<=6) (N:List D) (hN:most+2<=N.length):∃(w h:Nat) (l:List Nd),n8 [scr ns,.int at',.int most,.list N]=some (G0 w h l)/\NOk N 2 most l/\(1<=w/\w<=3)/\(1<=h/\h<=3):=by
 obtain⟨d0,e0,l0⟩:=L9 ns hn (e:=(at':Int)) (m':=3) at' 3 rfl rfl (by omega) (by decide)
 obtain⟨d1,e1,l1⟩:=L9 ns hn (e:=(at':Int)+1) (m':=3) (at'+1) 3 (by omega) rfl (by omega) (by decide)
 obtain⟨l,el,hl⟩:=bw2 ns hn (at'+2) most (by omega) hmost N hN
 have e2:(at':Int)+2=((at'+2:Nat):Int):=by omega
 refine⟨1+d0,1+d1,l,?_,hl,by omega,by omega⟩
 refine C3 (ρ:=[‹scr ns›,‹.int at'›,‹.int most›,‹.list N›,none,none]) rfl ?_
 wp_walk using evD,as1,e0,e1,ad1,e2,el,G0
theorem bw4(n:Nd):n.nm∈n.nms:=by cases n<;>simp[Nd.nm,Nd.nms]
theorem aJ5{n:Nd}{l:List Nd}(h:n∈l) {d:D}(hd:d∈n.nms):d∈Nd.nmss l:=by
 obtain⟨a,b,rfl⟩:=List.append_of_mem h
 rw[P3,Nd.nmss]
 simp[hd]
def V9(d:D):Prop:=∃s:Str,d=.str s/\SOk s
theorem ay1{g:D->Rho->Option Rho}{f:DS}{I:Rho->Prop}:∀(X:List D) (ρ:Rho),I ρ->(∀x∈X,∀ρ,I ρ->∃ρ1,g x ρ=some ρ1/\∃ρ',f ρ1=some (.nx ρ')/\I ρ')->∃ρ',V6 g f X ρ=some (.nx ρ')/\I ρ'
 | [],ρ,h,_=>⟨ρ,rfl,h⟩
 | x::X,ρ,h,H=>by
  obtain⟨ρ1,e1,ρ2,e2,h2⟩:=H x (List.mem_cons_self ..) ρ h
  obtain⟨ρ',e3,h3⟩:=ay1 X ρ2 h2 fun y hy=>H y (xmm _ hy)
  exact⟨ρ',by simp only[V6,e1,xbs,e2,e3],h3⟩
theorem name_of(n:Nd):R3 [n.d]=some n.nm:=by cases n<;>(rw[Nd.d];rfl)
theorem bE2(l:List Nd) (j:Nat):(Nd.ds l)[j]? = (l[j]?).map Nd.d:=by rw[P5,List.getElem?_map]
theorem ae6(n:Nd):P2 [n.d]=some (.bool (match n with | .group ..=>true|_=>false)):=by
 have e_tg:eqD (.str "tone") (.str "group")=some (.bool false):=D6z
 cases n with
 | layer nm m s sh lf tp mk w h l kb=>rw[Nd.d];exact C3 (ρ:=[‹.tuple [.str "layer", nm,.str m.s,fr s,.bool sh,.int lf,.int tp,mkD mk,shD w h l]›]) rfl (congrArg (Option.map Fl.rt) aS3)
 | tone nm r s sh=>rw[Nd.d];exact C3 (ρ:=[‹.tuple [.str "tone", nm,.str r.s,fr s,.bool sh]›]) rfl (congrArg (Option.map Fl.rt) e_tg)
 | group nm m s sh ns=>rw[Nd.d];exact C3 (ρ:=[‹.tuple [.str "group", nm,.str m.s,fr s,.bool sh,↥ns]›]) rfl (congrArg (Option.map Fl.rt) bm5)
theorem bw3{l:List Nd}(h:∀d∈Nd.nmss l,V9 d):∀n∈l,V9 n.nm:=fun n hn=>h _ (aJ5 hn (bw4 n))
theorem T1{l:List Nd}{n:Nd}(h:n∈l):n.dp<=Nd.dps l:=by
 obtain⟨a,b,rfl⟩:=List.append_of_mem h
 rw[X1,Nd.dps];omega
inductive Stands (a:List Nd) (n:Nd) (b:List Nd):List Nd->Prop
 | top:Stands a n b (a++n::b)
 | deep {c e:List Nd}{nm:D}{m:Man}{s:Rat}{sh:Bool}{ns:List Nd}:Stands a n b ns->Stands a n b (c ++ .group nm m s sh ns::e)
theorem aV8{nm:D}{m:Man}{s:Rat}{sh:Bool}{ns ns':List Nd}:R7 [Nd.d (.group nm m s sh ns),↥ns']=some (Nd.d (.group nm m s sh ns')):=by
 rw[Nd.d,Nd.d]
 rfl
structure StProps (a:List Nd) (n:Nd) (b l:List Nd):Prop where
 ok:Nd.Oks l->n.Ok
 wg:n.wg<=Nd.wgs l
 dp:n.dp<=Nd.dps l
 nd:(Nd.nmss l).Nodup->(Nd.nmss (a++n::b)).Nodup
 sub:∀d∈Nd.nmss (a++n::b),d∈Nd.nmss l
 len:l.length<=1000->Nd.thins l->(a++n::b).length<=1000
theorem Stands.props{a b l:List Nd}{n:Nd}(h:Stands a n b l):StProps a n b l:=by
 induction h with
 | top =>
  refine⟨fun o=>(X0 _).mp o n (by simp),?_,?_,fun h=>h,fun d h=>h,fun h _=>h⟩
  ·rw[S3,Nd.wgs];omega
  ·rw[X1,Nd.dps];omega
 | @deep c e nm m s sh ns h ih =>
  refine⟨fun o=>?_,?_,?_,fun hd=>?_,fun d hd=>?_,fun hl ht=>?_⟩
  ·have og:=(X0 _).mp o (.group nm m s sh ns) (by simp)
   rw[Nd.Ok]at og
   exact ih.ok og.2
  ·have:=ih.wg
   rw[S3,Nd.wgs,Nd.wg];omega
  ·have:=ih.dp
   rw[X1,Nd.dps,Nd.dp];omega
  ·rw[P3,Nd.nmss,Nd.nms]at hd
   exact ih.nd (List.nodup_cons.mp (List.nodup_append.mp (List.nodup_append.mp hd).2.1).1).2
  ·rw[P3,Nd.nmss,Nd.nms]
   simp[ih.sub d hd]
  ·have tg:=(Q9 _).mp ht (.group nm m s sh ns) (by simp)
   rw[Nd.thin]at tg
   exact ih.len tg.1 tg.2
def alb(f:Nat):DS:=(A6 (O9 1 (A1 2)) (sIf (tB2 eqD (dIx (A5 2) ⇑0) (dC (.str "group"))) (U1 1 (aY1 (A5 1) (qE (A3 (U6 f) (A0 (dIx (A5 2) ⇑5) A2))))) G7))
theorem e_tg:eqD (.str "tone") (.str "group")=some (.bool false):=D6z
theorem aU2{n:Nd}(f:Nat) (h:n.dp=0) (a0:Option B) (X:List D) (hX:X.length < 1000):alb f [a0,some (.own X),‹n.d›]=some (.nx [a0,some (.own (X++[n.d])),‹n.d›]):=by
 have hx:X.length < 16777216:=by omega
 have s0:(O9 1 (A1 2)) [a0,some (.own X),‹n.d›]=some (.nx [a0,some (.own (X++[n.d])),‹n.d›]):=by simp only[O9,xg0,xg1,if_pos hx,A1,xms,xw0,xw1]
 unfold alb
 rw[D5 s0]
 cases n with
 | group=>rw[Nd.dp]at h;omega
 | layer=>rw[Nd.d];wp_walk using evD,v8,aS3
 | tone=>rw[Nd.d];wp_walk using evD,ac1,e_tg
theorem bp2{nm:D}{m:Man}{s:Rat}{sh:Bool}{ns:List Nd}(f:Nat) (a0:Option B) (X Y:List D) (hX:X.length < 1000) (hY:Y.length < 1000) (e:U6 f [↥ns]=some (.list Y)):alb f [a0,some (.own X),‹Nd.d (.group nm m s sh ns)›]=some (.nx [a0,some (.own (X++[Nd.d (.group nm m s sh ns)]++Y)),‹Nd.d (.group nm m s sh ns)›]):=by
 have hx:X.length < 16777216:=by omega
 have s0:(O9 1 (A1 2)) [a0,some (.own X),‹Nd.d (.group nm m s sh ns)›]=some (.nx [a0,some (.own (X++[Nd.d (.group nm m s sh ns)])),‹Nd.d (.group nm m s sh ns)›]):=by simp only[O9,xg0,xg1,if_pos hx,A1,xms,xw0,xw1]
 unfold alb
 rw[D5 s0]
 have hc:aY1 (A5 1) (qE (A3 (U6 f) (A0 (dIx (A5 2) ⇑5) A2))) [a0,some (.own (X++[Nd.d (.group nm m s sh ns)])),‹Nd.d (.group nm m s sh ns)›]=some (X++[Nd.d (.group nm m s sh ns)]++Y):=by
  have q2:qE (A3 (U6 f) (A0 (dIx (A5 2) ⇑5) A2)) [a0,some (.own (X++[Nd.d (.group nm m s sh ns)])),‹Nd.d (.group nm m s sh ns)›]=some (false,Y):=by
   rw[show Nd.d (.group nm m s sh ns)=.tuple [.str "group", nm,.str m.s,fr s,.bool sh,↥ns] by rw[Nd.d]]
   wp_walk using evD,ab9,e
  unfold aY1
  rw[q2]
  show(if false=false/\false=false/\(X++[Nd.d (.group nm m s sh ns)]).length+Y.length<=16777216 then some (X++[Nd.d (.group nm m s sh ns)]++Y) else none)=_
  rw[if_pos ⟨rfl,rfl,by rw[List.length_append];show X.length+1+Y.length<=_;omega⟩]
 have ht:tB2 eqD (dIx (A5 2) ⇑0) (dC (.str "group")) [a0,some (.own (X++[Nd.d (.group nm m s sh ns)])),‹Nd.d (.group nm m s sh ns)›]=some true:=by
  rw[show Nd.d (.group nm m s sh ns)=.tuple [.str "group", nm,.str m.s,fr s,.bool sh,↥ns] by rw[Nd.d]]
  wp_walk using evD,m7,bm5
 simp only[sIf,ht,xbs,if_true,U1,hc,xms,xw0,xw1]
theorem aV9(n:Nd):1<=n.wg:=by cases n<;>(rw[Nd.wg];omega)
theorem cj7:∀(k:Nat) (l:List Nd) (f:Nat),Nd.dps l<=k->k+1<=f->Nd.wgs l<=900->∃X:List D,U6 f [↥l]=some (.list X)/\X.length<=Nd.wgs l/\∀d∈X,∃a n b,d=Nd.d n/\Stands a n b l:=by
 intro k
 induction k with
 | zero =>
  intro l f hd hf hw
  obtain⟨f,rfl⟩:∃g,f=g+1:=⟨f - 1,by omega⟩
  obtain⟨ρ',e,X,a2,hρ,hX,hP⟩:=Z6 (g:=B1 2) (f:=alb f) (h:=Nd.d) (I:=fun i ρ=>∃X a2,ρ=[‹↥l›,some (.own X),a2]/\X.length<=Nd.wgs (l.take i)/\∀d∈X,∃a n b,d=Nd.d n/\Stands a n b l) l 0 [‹↥l›,some (.own []),none] ⟨[],none,rfl,Nat.zero_le _,fun d h=>absurd h (by simp)⟩ (fun j n hj ρ hρ=>by
   obtain⟨X,a2,rfl,hX,hP⟩:=hρ
   rw[Nat.zero_add]at hX ⊢
   obtain⟨hjl,rfl⟩:=List.getElem?_eq_some_iff.mp hj
   have hsp:l=l.take j++l[j]::l.drop (j+1):=by rw[← List.drop_eq_getElem_cons hjl,List.take_append_drop]
   have ww:Nd.wgs (l.take (j+1))=Nd.wgs (l.take j)+(l[j]).wg:=by rw[List.take_succ_eq_append_getElem hjl,S3,Nd.wgs,Nd.wgs,Nat.add_zero]
   have wl:Nd.wgs (l.take j)<=Nd.wgs l:=by
    have:=congrArg Nd.wgs (List.take_append_drop j l)
    rw[S3]at this;omega
   have hdp:=T1 (List.getElem_mem hjl)
   have wp:=aV9 l[j]
   refine⟨_,rfl,_,aU2 f (by omega) _ X (by omega),_,_,rfl,by rw[List.length_append,ww];show X.length+1<=_;omega,fun d hd=>?_⟩
   rcases List.mem_append.mp hd with q|q
   ·exact hP d q
   ·rw[List.mem_singleton.mp q]
    exact⟨l.take j,l[j],l.drop (j+1),rfl,by
     have:=Stands.top (a:=l.take j) (n:=l[j]) (b:=l.drop (j+1))
     rwa [← hsp]at this⟩)
  subst hρ
  rw[Nat.zero_add,List.take_of_length_le (Nat.le_refl _)]at hX
  refine⟨X,?_,hX,hP⟩
  rw[← P5]at e
  refine C3 (g:=aM9 (U6 f)) (ρ:=[‹↥l›,none,none]) rfl ?_
  have s0:(U1 1 A2) [‹↥l›,none,none]=some (.nx [‹↥l›,some (.own []),none]):=rfl
  have s1:(P9 (L7 (A1 0)) (B1 2) (alb f)) [‹↥l›,some (.own []),none]=some (.nx [‹↥l›,some (.own X),a2]):=e
  have s2:(ag9 1 (A9 (A1 1))) [‹↥l›,some (.own X),a2]=some (.rt (.list X)):=rfl
  exact(D5 s0).trans ((D5 s1).trans s2)
 | succ k ih =>
  intro l f hd hf hw
  obtain⟨f,rfl⟩:∃g,f=g+1:=⟨f - 1,by omega⟩
  obtain⟨ρ',e,X,a2,hρ,hX,hP⟩:=Z6 (g:=B1 2) (f:=alb f) (h:=Nd.d) (I:=fun i ρ=>∃X a2,ρ=[‹↥l›,some (.own X),a2]/\X.length<=Nd.wgs (l.take i)/\∀d∈X,∃a n b,d=Nd.d n/\Stands a n b l) l 0 [‹↥l›,some (.own []),none] ⟨[],none,rfl,Nat.zero_le _,fun d h=>absurd h (by simp)⟩ (fun j n hj ρ hρ=>by
   obtain⟨X,a2,rfl,hX,hP⟩:=hρ
   rw[Nat.zero_add]at hX ⊢
   obtain⟨hjl,hn⟩:=List.getElem?_eq_some_iff.mp hj
   have hsp:l=l.take j++l[j]::l.drop (j+1):=by rw[← List.drop_eq_getElem_cons hjl,List.take_append_drop]
   have ww:Nd.wgs (l.take (j+1))=Nd.wgs (l.take j)+(l[j]).wg:=by rw[List.take_succ_eq_append_getElem hjl,S3,Nd.wgs,Nd.wgs,Nat.add_zero]
   have wt:Nd.wgs (l.take j)+(l[j]).wg<=Nd.wgs l:=by
    have:=congrArg Nd.wgs (List.take_append_drop (j+1) l)
    rw[S3]at this;omega
   have hdp:=T1 (List.getElem_mem hjl)
   rw[hn]at hsp ww wt hdp
   have wp:=aV9 n
   have tp:Stands (l.take j) n (l.drop (j+1)) l:=by
    have:=Stands.top (a:=l.take j) (n:=n) (b:=l.drop (j+1))
    rwa [← hsp]at this
   by_cases hg:n.dp=0
   ·refine⟨_,rfl,_,aU2 f hg _ X (by omega),_,_,rfl,by rw[List.length_append,ww];show X.length+1<=_;omega,fun d hd=>?_⟩
    rcases List.mem_append.mp hd with q|q
    ·exact hP d q
    ·rw[List.mem_singleton.mp q];exact⟨_,n,_,rfl,tp⟩
   ·cases n with
    | layer=>exact absurd rfl hg
    | tone=>exact absurd rfl hg
    | group nm m s sh ns =>
     rw[Nd.dp]at hdp
     rw[Nd.wg]at ww wt
     obtain⟨Y,eY,lY,hY⟩:=ih ns f (by omega) (by omega) (by omega)
     refine⟨_,rfl,_,bp2 f _ X Y (by omega) (by omega) eY,_,_,rfl,by rw[List.length_append,List.length_append,ww];show X.length+1+Y.length<=_;omega,fun d hd=>?_⟩
     rcases List.mem_append.mp hd with q|q
     ·rcases List.mem_append.mp q with q|q
      ·exact hP d q
      ·rw[List.mem_singleton.mp q];exact⟨_,_,_,rfl,tp⟩
     ·obtain⟨a,n,b,rfl,st⟩:=hY d q
      refine⟨a,n,b,rfl,?_⟩
      have:=Stands.deep (c:=l.take j) (e:=l.drop (j+1)) (nm:=nm) (m:=m) (s:=s) (sh:=sh) st
      rwa [← hsp]at this)
  subst hρ
  rw[Nat.zero_add,List.take_of_length_le (Nat.le_refl _)]at hX
  refine⟨X,?_,hX,hP⟩
  rw[← P5]at e
  refine C3 (g:=aM9 (U6 f)) (ρ:=[‹↥l›,none,none]) rfl ?_
  have s0:(U1 1 A2) [‹↥l›,none,none]=some (.nx [‹↥l›,some (.own []),none]):=rfl
  have s1:(P9 (L7 (A1 0)) (B1 2) (alb f)) [‹↥l›,some (.own []),none]=some (.nx [‹↥l›,some (.own X),a2]):=e
  have s2:(ag9 1 (A9 (A1 1))) [‹↥l›,some (.own X),a2]=some (.rt (.list X)):=rfl
  exact(D5 s0).trans ((D5 s1).trans s2)
def Low(s:Str):Prop:=∀c∈s.cps.toList,97<=c/\c<=122
def Nm(d:D):Prop:=∃s:Str,d=.str s/\Low s/\1<=s.length/\s.length<=6
mutual
def Nd.off:Nd->Prop
 | .layer _ _ _ _ lf tp _ _ _ _ kb=>-9<=lf/\lf<=9/\-9<=tp/\tp<=9/\kb<=4000
 | .tone ..=>True
 | .group _ _ _ _ ns=>ns.length<=1000/\Nd.offs ns
def Nd.offs:List Nd->Prop
 | []=>True
 | n::r=>n.off/\Nd.offs r
end
theorem aw9:∀l:List Nd,Nd.offs l↔∀n∈l,n.off
 | []=>by simp[Nd.offs]
 | n::r=>by simp[Nd.offs,aw9 r]
theorem strength_of(n:Nd):∃s,N8 [n.d]=some (fr s)/\(n.Ok->Sr 4 s):=by
 cases n with
 | layer nm m s sh lf tp mk w h l kb=>exact⟨s,by rw[Nd.d];rfl,fun o=>by rw[Nd.Ok]at o;exact o.1⟩
 | tone nm r s sh=>exact⟨s,by rw[Nd.d];rfl,fun o=>by rw[Nd.Ok]at o;exact o⟩
 | group nm m s sh ns=>exact⟨s,by rw[Nd.d];rfl,fun o=>by rw[Nd.Ok]at o;exact o.1⟩
def nmb(f:Nat):DS:=(A6 (O9 1 (A3 R3 (A0 (A1 2) A2))) (sIf (M1 (A3 P2 (A0 (A1 2) A2))) (aI2 1 (A3 (O7 f) (A0 (A3 K9 (A0 (A1 2) A2)) A2))) G7))
theorem cb3{n:Nd}(f:Nat) (a0:Option B) (X:List D) (hX:X.length+n.nms.length<=1000) (H:∀nm m s sh ns,n=.group nm m s sh ns->O7 f [↥ns]=some (.list (Nd.nmss ns))):nmb f [a0,some (.own X),‹n.d›]=some (.nx [a0,some (.own (X++n.nms)),‹n.d›]):=by
 have hx:X.length < 16777216:=by omega
 have en:=name_of n
 have eg:=ae6 n
 have s0:(O9 1 (A3 R3 (A0 (A1 2) A2))) [a0,some (.own X),‹n.d›]=some (.nx [a0,some (.own (X++[n.nm])),‹n.d›]):=by simp only[O9,A3,A0,A2,en,xg0,xg1,if_pos hx,A1,xms,xbs,xw0,xw1]
 unfold nmb
 rw[D5 s0]
 cases n with
 | layer=>wp_walk using evD,eg;rw[Nd.nm,Nd.nms]
 | tone=>wp_walk using evD,eg;rw[Nd.nm,Nd.nms]
 | group nm m s sh ns =>
  have e1:K9 [Nd.d (.group nm m s sh ns)]=some ↥ns:=by rw[Nd.d];rfl
  have e2:=H nm m s sh ns rfl
  rw[Nd.nms]at hX
  have e3:(X++[nm]).length+(Nd.nmss ns).length<=16777216:=by simp at hX ⊢;omega
  rw[Nd.nm]
  wp_walk using evD,aI2,eg,e1,e2,if_pos e3
  rw[Nd.nms,List.append_assoc];rfl
theorem bf0{l:List Nd}{f:Nat}(hw:(Nd.nmss l).length<=1000) (H:∀n∈l,∀nm m s sh ns,n=.group nm m s sh ns->O7 f [↥ns]=some (.list (Nd.nmss ns))):O7 (f+1) [↥l]=some (.list (Nd.nmss l)):=by
 obtain⟨ρ',e,a2,hρ⟩:=Z6 (g:=B1 2) (f:=nmb f) (h:=Nd.d) (I:=fun i ρ=>∃a2,ρ=[‹↥l›,some (.own (Nd.nmss (l.take i))),a2]) l 0 [‹↥l›,some (.own []),none] ⟨none,rfl⟩ (fun j n hj ρ hρ=>by
  obtain⟨a2,rfl⟩:=hρ
  rw[Nat.zero_add]
  obtain⟨hjl,rfl⟩:=List.getElem?_eq_some_iff.mp hj
  have ww:Nd.nmss (l.take (j+1))=Nd.nmss (l.take j)++(l[j]).nms:=by rw[List.take_succ_eq_append_getElem hjl,P3,Nd.nmss,Nd.nmss,List.append_nil]
  have wl:=congrArg (fun x=>(Nd.nmss x).length) (List.take_append_drop (j+1) l)
  simp only[P3,ww,List.length_append]at wl
  exact⟨_,rfl,_,cb3 f _ _ (by omega) (H _ (List.getElem_mem hjl)),_,by rw[ww]⟩)
 subst hρ
 rw[Nat.zero_add,List.take_of_length_le (Nat.le_refl _),← P5]at e
 refine C3 (g:=ai2 (O7 f)) (ρ:=[‹↥l›,none,none]) rfl ?_
 have s0:(U1 1 A2) [‹↥l›,none,none]=some (.nx [‹↥l›,some (.own []),none]):=rfl
 have s1:(P9 (L7 (A1 0)) (B1 2) (nmb f)) [‹↥l›,some (.own []),none]=some (.nx [‹↥l›,some (.own (Nd.nmss l)),a2]):=e
 have s2:(ag9 1 (A9 (A1 1))) [‹↥l›,some (.own (Nd.nmss l)),a2]=some (.rt (.list (Nd.nmss l))):=rfl
 exact(D5 s0).trans ((D5 s1).trans s2)
theorem al9{n:Nd}{l:List Nd}(h:n∈l):n.nms.length<=(Nd.nmss l).length:=by
 obtain⟨a,b,rfl⟩:=List.append_of_mem h
 rw[P3,Nd.nmss,List.length_append,List.length_append];omega
theorem names_among:∀(k:Nat) (l:List Nd) (f:Nat),Nd.dps l<=k->k+1<=f->(Nd.nmss l).length<=1000->O7 f [↥l]=some (.list (Nd.nmss l)):=by
 intro k
 induction k with
 | zero =>
  intro l f hd hf hw
  obtain⟨f,rfl⟩:∃g,f=g+1:=⟨f - 1,by omega⟩
  refine bf0 hw fun n hn nm m s sh ns e=>?_
  have:=T1 hn
  rw[e,Nd.dp]at this;omega
 | succ k ih =>
  intro l f hd hf hw
  obtain⟨f,rfl⟩:∃g,f=g+1:=⟨f - 1,by omega⟩
  refine bf0 hw fun n hn nm m s sh ns e=>?_
  have h1:=T1 hn
  have h2:=al9 hn
  rw[e,Nd.dp]at h1
  rw[e,Nd.nms,List.length_cons]at h2
  exact ih ns f (by omega) (by omega) (by omega)
theorem bF4(l:List Nd) (a:Nat):ab3 (Nd.ds l) none (some (a:Int))=Nd.ds (l.take a):=by
 unfold ab3
 rw[HT.sIx_none,HT.sIx_nat,List.drop_zero,P5,P5,List.length_map,← List.map_take,Nat.sub_zero]
 congr 1
 rcases Nat.le_total a l.length with h|h
 ·rw[Nat.min_eq_left h]
 ·rw[Nat.min_eq_right h,List.take_of_length_le (Nat.le_refl _),List.take_of_length_le h]
theorem bF5(l:List Nd) (a:Nat):ab3 (Nd.ds l) (some (a:Int)) none=Nd.ds (l.drop a):=by
 unfold ab3
 rw[HT.sIx_none,HT.sIx_nat,P5,P5,List.length_map]
 rcases Nat.le_total a l.length with h|h
 ·rw[Nat.min_eq_left h,← List.map_drop,List.take_of_length_le (by rw[List.length_map,List.length_drop];exact Nat.le_refl _)]
 ·rw[Nat.min_eq_right h,Nat.sub_self,List.take_zero,List.drop_of_length_le h];rfl
theorem bF9(a b:List Nd) (h:a.length+b.length<=1000):C0 ↥a ↥b=some ↥(a++b):=by
 have:=cat_tup (xs:=Nd.ds a) (ys:=Nd.ds b) (by rw[P5,P5,List.length_map,List.length_map];omega)
 have e:Nd.ds a++Nd.ds b=Nd.ds (a++b):=by simp[P5]
 rw[e]at this
 exact this
def Nd.isM(m:Man):Nd->Prop
 | .layer _ m' _ sh _ _ _ _ _ _ _=>m'=m/\sh=true
 | .tone ..=>False
 | .group _ m' _ sh _=>m'=m/\sh=true
def Nd.br(x y:Int):Nd->Q4
 | .layer _ _ s _ lf tp mk w h l _=>as7 s lf tp mk w h l x y
 | .tone ..=>q0
 | .group _ _ s _ ns=>(Nd.sw x y ns q0).wt s
theorem cj8{m:Man}{n:Nd}(h:n.isM m) (x y:Int) (q:Q4):Nd.ab x y n q=m.bl (n.br x y) q:=by
 cases n with
 | layer=>rw[Nd.isM]at h;rw[Nd.ab,h.1,h.2];rfl
 | tone=>rw[Nd.isM]at h;exact h.elim
 | group=>rw[Nd.isM]at h;rw[Nd.ab,h.1,h.2];rfl
theorem bV0{m:Man}{n:Nd}(h:n.isM m) (o:n.Ok) (hd:n.dp<=3) (hw:n.wg<=800) (x y:Int):Z2 12 [n.d,.int x,.int y]=some (n.br x y).d/\Dq n.wg (n.br x y):=by
 cases n with
 | layer nm m s sh lf tp mk w h l kb =>
  rw[Nd.Ok]at o
  rw[Nd.wg]at hw ⊢
  obtain⟨hs,S,H,M,k1⟩:=o
  exact⟨aT8 k1 (by omega) hs S H M 11 x y,au6 k1 hs H M x y⟩
 | tone=>rw[Nd.isM]at h;exact h.elim
 | group nm m s sh ns =>
  rw[Nd.Ok]at o
  rw[Nd.wg]at hw ⊢
  rw[Nd.dp]at hd
  have so:=aO2 x y ns 10 o.2 (by omega) (by omega)
  exact⟨aT9 o.1 11 x y so.1 so.2 (by omega),(so.2.wt o.1).mono (by omega)⟩
def brL(w h:Nat) (n:Nd):List Q4:=(plc w (w*h)).map fun p=>n.br p.1 p.2
theorem bG3{m:Man}{n:Nd}(hm:n.isM m) (o:n.Ok) (hd:n.dp<=3) (hw:n.wg<=800) {w h:Nat}(l:List Nd) (w1:1<=w) (w8:w<=8) (h1:1<=h) (h8:h<=8):Q2 [G0 w h l,n.d]=some (shD w h (brL w h n))/\ShOk 800 w h (brL w h n):=by
 have wh:w*h<=64:=Nat.mul_le_mul w8 h8
 refine⟨?_,⟨w1,w8,h1,h8,by unfold brL;rw[List.length_map,aJ1],fun q hq=>?_⟩⟩
 ·refine C3 (ρ:=[‹G0 w h l›,‹n.d›,none]) rfl ?_
  have c:G8 2 [1] (L7 (A3 X8 (A0 (dIx (A5 0) ⇑0) (A0 (dIx (A5 0) ⇑1) A2)))) (M6 2 (C2 (B1 0) (C2 (B1 1) N4))) K3 (A3 (Z2 12) (A0 (A1 2) (A0 (A1 0) (A0 (A1 1) A2)))) [‹G0 w h l›,‹n.d›,none]=some ((brL w h n).map Q4.d):=by
   rw[cb9 (l:=plc w (w*h)) (h1:=fun p=>.int p.1) (h2:=fun p=>.int p.2) (f:=fun p=>(n.br p.1 p.2).d) (r:=[‹n.d›]) rfl ?_ (by rw[aJ1];omega) ?_]
   ·unfold brL;rw[List.map_map];rfl
   ·wp_walk using evD,G0,bk0 w1 w8 h8
   ·intro p _
    wp_walk using evD,(bV0 hm o hd hw p.1 p.2).1
  have g0:∀u v:Option B,dIx (A5 0) ⇑0 [‹G0 w h l›,u,v]=some (.int w):=fun _ _=>rfl
  have g1:∀u v:Option B,dIx (A5 0) ⇑1 [‹G0 w h l›,u,v]=some (.int h):=fun _ _=>rfl
  simp only[ac4,A6,V3,c,g0,g1,A9,D4,A0,A2,O0,A5,xw0,xw1,xms,xbs,xg0,xg1]
  rfl
 ·obtain⟨p,_,rfl⟩:=List.mem_map.mp hq
  exact((bV0 hm o hd hw p.1 p.2).2.mono hw).ok
theorem ca5:Sr 4 1:=ar1 ⟨⟨by decide +kernel,by decide +kernel,by decide +kernel⟩,by decide +kernel⟩
def mn(i j:Int):Int:=if j < i then j else i
abbrev Bx:=Option (Int×Int×Int×Int)
def Bx.le(A B:Bx):Prop:=match A,B with
 | none,_=>True
 | some _,none=>False
 | some (l,t,r,b),some (l',t',r',b')=>l'<=l/\t'<=t/\r<=r'/\b<=b'
theorem le_refl(A:Bx):Bx.le A A:=by
 cases A with
 | none=>exact trivial
 | some a=>show _/\_/\_/\_;omega
theorem le_trans{A B C:Bx}(h1:Bx.le A B) (h2:Bx.le B C):Bx.le A C:=by
 cases A with
 | none=>exact trivial
 | some a =>
  cases B with
  | none=>exact h1.elim
  | some b =>
   cases C with
   | none=>exact h2.elim
   | some c =>
    obtain⟨a1,a2,a3,a4⟩:=h1
    obtain⟨b1,b2,b3,b4⟩:=h2
    exact⟨Int.le_trans b1 a1,Int.le_trans b2 a2,Int.le_trans a3 b3,Int.le_trans a4 b4⟩
def Nd.isT:Nd->Bool
 | .tone ..=>true
 | _=>false
theorem ax5(n:Nd):O6 [n.d]=some (.bool n.isT):=by
 cases n with
 | layer=>exact bx9
 | tone=>exact bs5
 | group=>exact bC7
theorem bw6(q q':Q4):∃b,neD q.d q'.d=some (.bool b)/\(b=true->q≠q'):=by
 have:∃b,neD q.d q'.d=some (.bool b):=by
  unfold neD
  rw[if_pos ⟨(Ly.q4 q 0).shaped (by decide),(Ly.q4 q' 0).shaped (by decide)⟩]
  exact⟨_,rfl⟩
 obtain⟨b,e⟩:=this
 refine⟨b,e,fun hb he=>?_⟩
 subst he hb
 rw[au4 (Ly.q4 q 0) (by decide)]at e
 cases e
def neB(q q':Q4):Bool:=(bw6 q q').choose
theorem bw7(q q':Q4):neD q.d q'.d=some (.bool (neB q q')):=(bw6 q q').choose_spec.1
theorem aZ1{neg v:Bool}{x:D}{ds:List D}(hx:U2 x=true) (hd:ds.all U2=true) (h:inV (toV x) (ds.map toV)=v):inD neg x (.list ds)=some (.bool (if neg then !v else v)):=by
 subst h
 show(if U2 x=true/\ds.all U2=true then _ else _)=_
 rw[if_pos ⟨hx,hd⟩]
theorem bB0{d:D}{L:List D}(hd:d∈L) (hL:∀x∈L,V9 x):inD true d (.list L)=some (.bool false):=by
 obtain⟨s,rfl,_⟩:=hL d hd
 refine aZ1 (v:=true) rfl (List.all_eq_true.mpr fun x hx=>?_) (List.any_eq_true.mpr ⟨.str s,List.mem_map.mpr ⟨.str s,hd,rfl⟩,?_⟩)
 ·obtain⟨t,rfl,_⟩:=hL x hx;rfl
 ·exact beq_self_eq_true s
def wob(f:Nat):DS:=(A6 (sIf (tB2 (inD false) (A3 R3 (A0 (A1 3) A2)) (A1 1)) aO6 G7) (sIf (M1 (A3 P2 (A0 (A1 3) A2))) (O9 2 (A3 R7 (A0 (A1 3) (A0 (A3 (N3 f) (A0 (A3 K9 (A0 (A1 3) A2)) (A0 (A1 1) A2))) A2)))) (O9 2 (A1 3))))
theorem ar5{w h:Nat}{l:List Nd}(hd:Nd.dps l<=3) (hl:(Nd.nmss l).length<=1000):h9 [G0 w h l]=some (.list (Nd.nmss l)):=by
 have na:=names_among 3 l 12 hd (by decide) hl
 refine C3 (ρ:=[‹G0 w h l›]) rfl ?_
 wp_walk using evD,az8,G0,na
def Nd.shB:Nd->Bool
 | .layer _ _ _ sh _ _ _ _ _ _ _=>sh
 | .tone _ _ _ sh=>sh
 | .group _ _ _ sh _=>sh
def Nd.mn:Nd->Option Man
 | .layer _ m _ _ _ _ _ _ _ _ _=>some m
 | .tone ..=>none
 | .group _ m _ _ _=>some m
def Nd.stg:Nd->Rat
 | .layer _ _ s _ _ _ _ _ _ _ _=>s
 | .tone _ _ s _=>s
 | .group _ _ s _ _=>s
def Nd.isG:Nd->Bool
 | .group ..=>true
 | _=>false
def Nd.inn:Nd->List Nd
 | .group _ _ _ _ ns=>ns
 | _=>[]
def Man.isO:Man->Bool
 | .over=>true
 | _=>false
theorem aP9(n:Nd):Q6 [n.d]=some (.bool n.shB):=by
 cases n with
 | layer=>exact aK2
 | tone=>exact aH1
 | group=>exact aK8
theorem aP8(n:Nd):N8 [n.d]=some (fr n.stg):=by
 cases n with
 | layer=>exact ax4
 | tone=>exact av7
 | group=>exact ay0
theorem bk6{n:Nd}{m:Man}(h:n.mn=some m):R5 [n.d]=some (.str m.s):=by
 cases n with
 | layer=>cases h;exact aQ8
 | tone=>cases h
 | group=>cases h;exact aR7
theorem bw9(n:Nd):P2 [n.d]=some (.bool n.isG):=by rw[ae6];cases n<;>rfl
theorem bw8{n:Nd}(h:n.isG=true):K9 [n.d]=some ↥n.inn:=by
 cases n with
 | layer=>cases h
 | tone=>cases h
 | group=>exact aK9
theorem bf3{n:Nd}:n.isT=n.mn.isNone:=by cases n<;>rfl
theorem aK5{n:Nd}{m:Man}(h:n.mn=some m) (s:n.shB=true):n.isM m:=by
 cases n with
 | layer=>cases h;exact⟨rfl,s⟩
 | tone=>cases h
 | group=>cases h;exact⟨rfl,s⟩
theorem bD8(q q':Q4):∃b,eqD q.d q'.d=some (.bool b):=by
 unfold eqD
 rw[if_pos ⟨(Ly.q4 q 0).shaped (by decide),(Ly.q4 q' 0).shaped (by decide)⟩]
 exact⟨_,rfl⟩
def eqB(q q':Q4):Bool:=(bD8 q q').choose
theorem aZ5(q q':Q4):eqD q.d q'.d=some (.bool (eqB q q')):=(bD8 q q').choose_spec
def Nd.cvr(w h:Nat) (n:Nd):Bool:=match n.mn with
 | none=>false
 | some m=>n.shB&&(m.isO&&(brL w h n).all fun q=>decide (q.c=1))
def Nd.nth(w h:Nat) (n:Nd):Bool:=!n.shB || ((n.stg.num==0) || (match n.mn with
 | none=>false
 | some _=>(brL w h n).all fun q=>eqB q q0))
structure Fits (w h:Nat):Prop where
 w1:1<=w
 w8:w<=8
 h1:1<=h
 h8:h<=8
theorem aL8(w h:Nat) (n:Nd):(brL w h n).length=w*h:=by unfold brL;rw[List.length_map,aJ1]
theorem bM9(m:Man):neD (.str m.s) (.str "over")=some (.bool (!m.isO)):=by
 cases m
 ·exact S5 (b:=false) (by decide +kernel) (by decide +kernel) (by decide +kernel)
 all_goals exact S5 (b:=true) (by decide +kernel) (by decide +kernel) (by decide +kernel)
theorem bD5(c:Rat):eqD (fr c) (.tuple [.int 1,.int 1])=some (.bool (decide (c=1))):=bD7 c 1
theorem bo7{w h:Nat}(W:Fits w h) (l0:List Nd) {n:Nd}(o:n.Ok) (hd:n.dp<=3) (hw:n.wg<=800):ao9 [G0 w h l0,n.d]=some (.bool (n.cvr w h)):=by
 refine C3 (ρ:=[‹G0 w h l0›,‹n.d›]) rfl ?_
 have et:=ax5 n
 have es:=aP9 n
 rw[bf3]at et
 unfold Nd.cvr
 cases q:n.mn with
 | none =>
  rw[q]at et
  have et:O6 [n.d]=some (.bool true):=et
  wp_walk using evD,af2,et
 | some m =>
  rw[q]at et
  have et:O6 [n.d]=some (.bool false):=et
  have em:=bk6 q
  have ne:=bM9 m
  cases r:n.shB with
  | false =>
   rw[r]at es
   wp_walk using evD,af2,et,es,Bool.false_and
  | true =>
   rw[r]at es
   cases p:m.isO with
   | false =>
    rw[p]at ne
    wp_walk using evD,af2,et,es,em,ne,p,Bool.true_and,Bool.false_and
   | true =>
    rw[p]at ne
    have bs:=(bG3 (aK5 q r) o hd hw l0 W.w1 W.w8 W.h1 W.h8).1
    have wh:w*h<=64:=Nat.mul_le_mul W.w8 W.h8
    have cm:G8 1 [] (L7 (dIx (qE (A3 Q2 (A0 (A1 0) (A0 (A1 1) A2)))) ⇑2)) (B1 0) K3 (A4 eqD (dIx (A5 0) ⇑0) (dC (.tuple [(.int 1),(.int 1)]))) [‹G0 w h l0›,‹n.d›]=some ((brL w h n).map fun q=>.bool (decide (q.c=1))):=by
     refine n9 (l:=brL w h n) (h:=Q4.d) (r:=[]) rfl ?_ (by rw[aL8];omega) fun q _=>?_
     ·wp_walk using evD,bs,shD
     ·wp_walk using evD,Q4.d,sp,bD5
    wp_walk using evD,af2,et,es,em,ne,cm,p,az2,Bool.true_and
theorem aX8{w h:Nat}(W:Fits w h) (l0:List Nd) {n:Nd}(o:n.Ok) (hd:n.dp<=3) (hw:n.wg<=800):T4 [G0 w h l0,n.d]=some (.bool (n.nth w h)):=by
 refine C3 (ρ:=[‹G0 w h l0›,‹n.d›]) rfl ?_
 have et:=ax5 n
 have es:=aP9 n
 have eg:=aP8 n
 rw[bf3]at et
 unfold fr at eg
 unfold Nd.nth
 cases r:n.shB with
 | false =>
  rw[r]at es
  wp_walk using evD,R1,es,Bool.true_or
 | true =>
  rw[r]at es
  cases z:(n.stg.num==0) with
  | true=>wp_walk using evD,R1,es,eg,z,Bool.false_or,Bool.true_or
  | false =>
   cases q:n.mn with
   | none =>
    rw[q]at et
    have et:O6 [n.d]=some (.bool true):=et
    wp_walk using evD,R1,es,eg,z,et,Bool.false_or
   | some m =>
    rw[q]at et
    have et:O6 [n.d]=some (.bool false):=et
    have bs:=(bG3 (aK5 q r) o hd hw l0 W.w1 W.w8 W.h1 W.h8).1
    have wh:w*h<=64:=Nat.mul_le_mul W.w8 W.h8
    have cm:G8 1 [] (L7 (dIx (qE (A3 Q2 (A0 (A1 0) (A0 (A1 1) A2)))) ⇑2)) (B1 0) K3 (A4 eqD (A1 0) (dC (.tuple [(.tuple [(.int 0),(.int 1)]),(.tuple [(.int 0),(.int 1)]),(.tuple [(.int 0),(.int 1)]),(.tuple [(.int 0),(.int 1)])]))) [‹G0 w h l0›,‹n.d›]=some ((brL w h n).map fun q=>.bool (eqB q q0)):=by
     refine n9 (l:=brL w h n) (h:=Q4.d) (r:=[]) rfl ?_ (by rw[aL8];omega) fun q _=>?_
     ·wp_walk using evD,bs,shD
     ·have:=aZ5 q q0
      rw[bY4]at this
      wp_walk using evD,this
    wp_walk using evD,R1,es,eg,z,et,cm,az2,Bool.false_or
def hiF(w h:Nat):Nat->List Nd->Nat->Nat
 | _,[],a=>a
 | i,n::r,a=>hiF w h (i+1) r (if n.cvr w h=true then i else a)
def Q8(w h:Nat) (l:List Nd):Nat:=hiF w h 0 l 0
theorem aR4(w h:Nat) (n:Nd):∀(l:List Nd) (i a:Nat),hiF w h i (l++[n]) a=if n.cvr w h=true then i+l.length else hiF w h i l a
 | [],i,a=>rfl
 | m::l,i,a=>by
  rw[xca,hiF,aR4 w h n l,hiF,List.length_cons]
  split
  ·omega
  ·rfl
theorem ax7(w h:Nat):∀(l:List Nd) (i a:Nat),(∀n∈l,n.cvr w h=false)->hiF w h i l a=a
 | [],_,_,_=>rfl
 | n::l,i,a,H=>by rw[hiF,ax7 w h l _ _ fun m hm=>H m (xmm _ hm),H n (List.mem_cons_self ..)];rfl
theorem aR3(w h:Nat):∀(l:List Nd) (i a:Nat),(∃n∈l,n.cvr w h=true)->i<=hiF w h i l a
 | [],_,_,⟨n,hn,_⟩=>by simp at hn
 | n::l,i,a,H=>by
  rw[hiF]
  by_cases q:∃m∈l,m.cvr w h=true
  ·exact Nat.le_trans (Nat.le_succ _) (aR3 w h l (i+1) _ q)
  ·have hn:∀m∈l,m.cvr w h=false:=fun m hm=>by
    cases e:m.cvr w h with
    | false=>rfl
    | true=>exact absurd ⟨m,hm,e⟩ q
   rw[ax7 w h l _ _ hn]
   obtain⟨m,hm,e⟩:=H
   rcases List.mem_cons.mp hm with rfl|hm
   ·rw[e];exact Nat.le_refl _
   ·rw[hn m hm]at e;cases e
def hcb:DS:=(sIf (M1 (A3 ao9 (A0 (A1 0) (A0 (A1 3) A2)))) (A9 (A1 2)) G7)
structure Tame (l:List Nd):Prop where
 ok:∀n∈l,n.Ok
 dp:∀n∈l,n.dp<=3
 wg:∀n∈l,n.wg<=800
 len:l.length<=1000
theorem aZ2{w h:Nat}(W:Fits w h) (l0:List Nd) {ns:List Nd}(T:Tame ns):U7 [G0 w h l0,↥ns]=some (.int (Q8 w h ns)):=by
 have lp:∀(k:Nat),k<=ns.length->∀a2 a3:Option B,(∃a2' a3',V6 (M6 2 (C2 (B1 2) (C2 (B1 3) N4))) hcb ((Y4 (Nd.ds ns)).take k).reverse [‹G0 w h l0›,‹↥ns›,a2,a3]=some (.nx [‹G0 w h l0›,‹↥ns›,a2',a3'])/\Q8 w h (ns.take k)=0)\/V6 (M6 2 (C2 (B1 2) (C2 (B1 3) N4))) hcb ((Y4 (Nd.ds ns)).take k).reverse [‹G0 w h l0›,‹↥ns›,a2,a3]=some (.rt (.int (Q8 w h (ns.take k)))):=by
  intro k
  induction k with
  | zero=>intro _ a2 a3;exact .inl ⟨a2,a3,by rw[List.take_zero];rfl,by rw[List.take_zero];rfl⟩
  | succ k ih =>
   intro hk a2 a3
   have hk':k < ns.length:=by omega
   have he:(Y4 (Nd.ds ns))[k]? = some (.tuple [.int k,(ns[k]).d]):=by rw[ae8,bE2,List.getElem?_eq_getElem hk'];rfl
   obtain⟨hkl,hke⟩:=List.getElem?_eq_some_iff.mp he
   have hh:Q8 w h (ns.take (k+1))=if(ns[k]).cvr w h=true then k else Q8 w h (ns.take k):=by
    unfold Q8
    rw[List.take_succ_eq_append_getElem hk',aR4,Nat.zero_add,List.length_take,Nat.min_eq_left (by omega)]
   have ec:=bo7 W l0 (T.ok _ (List.getElem_mem hk')) (T.dp _ (List.getElem_mem hk')) (T.wg _ (List.getElem_mem hk'))
   have tl:([PyData.int k,(ns[k]).d]:List D).length=2:=rfl
   rw[List.take_succ_eq_append_getElem hkl,List.reverse_append,List.reverse_singleton,List.singleton_append,hke,hh]
   cases q:(ns[k]).cvr w h with
   | true =>
    rw[q]at ec
    refine .inr ?_
    wp_walk using evD,V6,hcb,tl,ec
   | false =>
    rw[q]at ec
    have b:hcb [‹G0 w h l0›,‹↥ns›,‹.int k›,some (.val (ns[k]).d)]=some (.nx [‹G0 w h l0›,‹↥ns›,‹.int k›,some (.val (ns[k]).d)]):=by wp_walk using evD,hcb,ec
    have i:=ih (by omega) (‹.int k›) (some (.val (ns[k]).d))
    simp only[V6,M6,C2,N4,B1,tl,if_true,xw0,xw1,xbs,b,xft,if_false]
    exact i
 have e:=lp ns.length (Nat.le_refl _) none none
 rw[List.take_of_length_le (Nat.le_refl _),List.take_of_length_le (by rw[V7,P5,List.length_map];exact Nat.le_refl _)]at e
 refine C3 (ρ:=[‹G0 w h l0›,‹↥ns›,none,none]) rfl ?_
 have src:bB6 (qE (A1 1)) [‹G0 w h l0›,‹↥ns›,none,none]=some (Y4 (Nd.ds ns)).reverse:=by
  show(if(Nd.ds ns).length<=1000 then some (Y4 (Nd.ds ns)).reverse else none)=_
  rw[if_pos (by rw[P5,List.length_map];exact T.len)]
 have lpe:(P9 (bB6 (qE (A1 1))) (M6 2 (C2 (B1 2) (C2 (B1 3) N4))) hcb) [‹G0 w h l0›,‹↥ns›,none,none]=V6 (M6 2 (C2 (B1 2) (C2 (B1 3) N4))) hcb (Y4 (Nd.ds ns)).reverse [‹G0 w h l0›,‹↥ns›,none,none]:=by
  unfold P9
  rw[src,xbs]
 rcases e with⟨a2',a3',e,z⟩|e
 ·rw[z]
  exact(D5 (lpe.trans e)).trans rfl
 ·exact aX0 (lpe.trans e)
mutual
def Nd.gl(w h:Nat):Nd->List D
 | .layer ..=>[]
 | .tone ..=>[]
 | .group _ _ _ _ ns=>Nd.gls w h (Q8 w h ns) 0 ns
def Nd.gls(w h lo:Nat) (j:Nat):List Nd->List D
 | []=>[]
 | n::r=>(if(decide (j < lo) || n.nth w h)=true then [n.nm] else n.gl w h)++Nd.gls w h lo (j+1) r
end
theorem aR5(w h lo:Nat) (n:Nd):∀(l:List Nd) (j:Nat),Nd.gls w h lo j (l++[n])=Nd.gls w h lo j l++(if(decide (j+l.length < lo) || n.nth w h)=true then [n.nm] else n.gl w h)
 | [],j=>by rw[xna,Nd.gls,Nd.gls,Nd.gls,List.append_nil];rfl
 | m::l,j=>by rw[xca,Nd.gls,aR5 w h lo n l (j+1),Nd.gls,List.length_cons,List.append_assoc,show j+(l.length+1)=j+1+l.length by omega]
mutual
theorem aZ4(w h:Nat):∀n:Nd,(n.gl w h).length+1<=n.nms.length/\∀d∈n.gl w h,d∈n.nms
 | .layer ..=>by rw[Nd.gl,Nd.nms];exact⟨Nat.le_refl _,fun d hd=>by simp at hd⟩
 | .tone ..=>by rw[Nd.gl,Nd.nms];exact⟨Nat.le_refl _,fun d hd=>by simp at hd⟩
 | .group nm m s sh ns=>by
  rw[Nd.gl,Nd.nms,List.length_cons]
  have i:=gls_sub w h ns (Q8 w h ns) 0
  exact⟨by omega,fun d hd=>xmm _ (i.2 d hd)⟩
theorem gls_sub(w h:Nat):∀(l:List Nd) (lo j:Nat),(Nd.gls w h lo j l).length<=(Nd.nmss l).length/\∀d∈Nd.gls w h lo j l,d∈Nd.nmss l
 | [],lo,j=>by rw[Nd.gls];exact⟨Nat.zero_le _,fun d hd=>by simp at hd⟩
 | n::r,lo,j=>by
  have i1:=aZ4 w h n
  have i2:=gls_sub w h r lo (j+1)
  rw[Nd.gls,Nd.nmss,List.length_append,List.length_append]
  split
  ·refine⟨by show 1+_<=_;omega,fun d hd=>?_⟩
   rcases List.mem_append.mp hd with q|q
   ·rw[List.mem_singleton.mp q];exact List.mem_append_left _ (bw4 n)
   ·exact List.mem_append_right _ (i2.2 d q)
  ·refine⟨by omega,fun d hd=>?_⟩
   rcases List.mem_append.mp hd with q|q
   ·exact List.mem_append_left _ (i1.2 d q)
   ·exact List.mem_append_right _ (i2.2 d q)
end
theorem au1{l:List Nd}(o:Nd.Oks l) (hd:Nd.dps l<=3) (hw:Nd.wgs l<=800) (hl:l.length<=1000):Tame l:=by
 refine⟨(X0 l).mp o,fun n hn=>by have:=T1 hn;omega,fun n hn=>?_,hl⟩
 obtain⟨a,b,rfl⟩:=List.append_of_mem hn
 rw[S3,Nd.wgs]at hw
 omega
def nlb(f:Nat):DS:=(sIf (P8 (tB2 ltI (A1 4) (A1 3)) (M1 (A3 T4 (A0 (A1 0) (A0 (A1 5) A2))))) (O9 2 (A3 R3 (A0 (A1 5) A2))) (sIf (M1 (A3 P2 (A0 (A1 5) A2))) (aI2 2 (A3 (M2 f) (A0 (A1 0) (A0 (A3 K9 (A0 (A1 5) A2)) A2)))) G7))
theorem bM8{w h:Nat}(W:Fits w h) (l0:List Nd) {n:Nd}(o:n.Ok) (hd:n.dp<=3) (hw:n.wg<=800) (f lo j:Nat) (X:List D) (a1:Option B) (hX:X.length<=1000) (hN:n.nms.length<=1000) (H:n.isG=true->M2 f [G0 w h l0,↥n.inn]=some (.list (n.gl w h))) :
  nlb f [‹G0 w h l0›,a1,some (.own X),‹.int lo›,‹.int j›,‹n.d›]=some (.nx [‹G0 w h l0›,a1,some (.own (X++(if(decide (j < lo) || n.nth w h)=true then [n.nm] else n.gl w h))),‹.int lo›,‹.int j›,‹n.d›]):=by
 have hx:X.length < 16777216:=by omega
 have en:=name_of n
 have e0:=aX8 W l0 o hd hw
 have eg:=bw9 n
 by_cases q:j < lo
 ·have q':decide ((j:Int) < (lo:Int))=true:=decide_eq_true (by omega)
  rw[decide_eq_true q]
  wp_walk using evD,nlb,q',en,O9,if_pos hx,Bool.true_or
 ·have q':decide ((j:Int) < (lo:Int))=false:=decide_eq_false (by omega)
  rw[decide_eq_false q,Bool.false_or]
  cases r:n.nth w h with
  | true =>
   rw[r]at e0
   wp_walk using evD,nlb,q',e0,en,O9,if_pos hx
  | false =>
   rw[r]at e0
   cases g:n.isG with
   | true =>
    rw[g]at eg
    have ei:=bw8 g
    have hl:=(aZ4 w h n).1
    have hx':X.length+(n.gl w h).length<=16777216:=by omega
    wp_walk using evD,nlb,q',e0,eg,ei,H g,aI2,if_pos hx'
   | false =>
    rw[g]at eg
    have z:n.gl w h=[]:=by
     cases n with
     | layer=>rw[Nd.gl]
     | tone=>rw[Nd.gl]
     | group=>cases g
    rw[z]
    wp_walk using evD,nlb,q',e0,eg,List.append_nil
theorem aP7{w h:Nat}(W:Fits w h) (l0:List Nd):∀(k:Nat) (ns:List Nd) (f:Nat),Nd.dps ns<=k->k<=3->k+1<=f->Nd.Oks ns->Nd.wgs ns<=800->ns.length<=1000->Nd.thins ns->(Nd.nmss ns).length<=1000->M2 f [G0 w h l0,↥ns]=some (.list (Nd.gls w h (Q8 w h ns) 0 ns)):=by
 have step:∀(ns:List Nd) (f:Nat),Tame ns->(Nd.nmss ns).length<=1000->(∀n∈ns,n.isG=true->M2 f [G0 w h l0,↥n.inn]=some (.list (n.gl w h)))->M2 (f+1) [G0 w h l0,↥ns]=some (.list (Nd.gls w h (Q8 w h ns) 0 ns)):=fun ns f T hN H=>by
  obtain⟨ρ',e,a4,a5,hρ⟩:=Z6 (g:=M6 2 (C2 (B1 4) (C2 (B1 5) N4))) (f:=nlb f) (h:=id) (I:=fun i ρ=>∃a4 a5,ρ=[‹G0 w h l0›,‹↥ns›,some (.own (Nd.gls w h (Q8 w h ns) 0 (ns.take i))),‹.int (Q8 w h ns)›,a4,a5]) (Y4 (Nd.ds ns)) 0 [‹G0 w h l0›,‹↥ns›,some (.own []),‹.int (Q8 w h ns)›,none,none] ⟨none,none,by rw[List.take_zero,Nd.gls]⟩ (fun j d hj ρ hρ=>by
   obtain⟨a4,a5,rfl⟩:=hρ
   rw[Nat.zero_add]
   rw[ae8,bE2]at hj
   obtain⟨d',e1,rfl⟩:=xmo hj
   obtain⟨n,e2,rfl⟩:=xmo e1
   obtain⟨hjl,hn⟩:=List.getElem?_eq_some_iff.mp e2
   have hm:n∈ns:=by rw[← hn];exact List.getElem_mem hjl
   have sb:=gls_sub w h (ns.take j) (Q8 w h ns) 0
   have tk:=congrArg (fun l=>(Nd.nmss l).length) (List.take_append_drop j ns)
   simp only[P3,List.length_append]at tk
   have nn:n.nms.length<=(Nd.nmss ns).length:=al9 hm
   have st:=bM8 W l0 (T.ok n hm) (T.dp n hm) (T.wg n hm) f (Q8 w h ns) j (Nd.gls w h (Q8 w h ns) 0 (ns.take j)) (‹↥ns›) (by omega) (by omega) (H n hm)
   refine⟨_,rfl,_,st,‹.int j›,‹n.d›,?_⟩
   rw[List.take_succ_eq_append_getElem hjl,hn,aR5,Nat.zero_add,List.length_take,Nat.min_eq_left (by omega)])
  subst hρ
  rw[Nat.zero_add,List.map_id,V7,P5,List.length_map,List.take_of_length_le (Nat.le_refl _),← P5]at e
  refine C3 (g:=v9 (M2 f)) (ρ:=[‹G0 w h l0›,‹↥ns›,none,none,none,none]) rfl ?_
  have hi:=aZ2 W l0 T
  have s1:(B0 3 (A3 U7 (A0 (A1 0) (A0 (A1 1) A2)))) [‹G0 w h l0›,‹↥ns›,some (.own []),none,none,none]=some (.nx [‹G0 w h l0›,‹↥ns›,some (.own []),‹.int (Q8 w h ns)›,none,none]):=by wp_walk using evD,hi
  have s2:(P9 (am7 (qE (A1 1))) (M6 2 (C2 (B1 4) (C2 (B1 5) N4))) (nlb f)) [‹G0 w h l0›,‹↥ns›,some (.own []),‹.int (Q8 w h ns)›,none,none]=some (.nx [‹G0 w h l0›,‹↥ns›,some (.own (Nd.gls w h (Q8 w h ns) 0 ns)),‹.int (Q8 w h ns)›,a4,a5]):=e
  exact(D5 (ρ':=[‹G0 w h l0›,‹↥ns›,some (.own []),none,none,none]) rfl).trans ((D5 s1).trans ((D5 s2).trans rfl))
 intro k
 induction k with
 | zero =>
  intro ns f hd hk hf o hw hl ht hN
  obtain⟨f,rfl⟩:∃g,f=g+1:=⟨f - 1,by omega⟩
  refine step ns f (au1 o (by omega) hw hl) hN fun n hn g=>?_
  have:=T1 hn
  cases n with
  | layer=>cases g
  | tone=>cases g
  | group=>rw[Nd.dp]at this;omega
 | succ k ih =>
  intro ns f hd hk hf o hw hl ht hN
  obtain⟨f,rfl⟩:∃g,f=g+1:=⟨f - 1,by omega⟩
  have T:=au1 o (by omega) hw hl
  refine step ns f T hN fun n hn g=>?_
  have h1:=T1 hn
  have h2:=(Q9 ns).mp ht n hn
  have h3:=T.wg n hn
  have h4:=T.ok n hn
  have h5:n.nms.length<=(Nd.nmss ns).length:=al9 hn
  cases n with
  | layer=>cases g
  | tone=>cases g
  | group nm m s sh ns' =>
   rw[Nd.dp]at h1
   rw[Nd.thin]at h2
   rw[Nd.wg]at h3
   rw[Nd.Ok]at h4
   rw[Nd.nms,List.length_cons]at h5
   rw[Nd.gl]
   exact ih ns' f (by omega) (by omega) (by omega) h4.2 (by omega) h2.1 h2.2 (by omega)
def inK(K:List D) (d:D):Bool:=@decide (d∈K) (Classical.propDecidable _)
theorem cr6{K:List D}{d:D}(h:d∈K):inK K d=true:=@decide_eq_true _ (Classical.propDecidable _) h
theorem bB4{K:List D}{d:D}(h:d∉K):inK K d=false:=@decide_eq_false _ (Classical.propDecidable _) h
theorem bM6{K:List D}{d:D}(h:inK K d=false):d∉K:=@of_decide_eq_false _ (Classical.propDecidable _) h
mutual
def Nd.wk(K:List D):Nd->Nd
 | .layer n m s sh lf tp mk w h l kb=>.layer n m s sh lf tp mk w h l kb
 | .tone n r s sh=>.tone n r s sh
 | .group n m s sh ns=>.group n m s sh (Nd.wks K ns)
def Nd.wks(K:List D):List Nd->List Nd
 | []=>[]
 | n::r=>if inK K n.nm=true then Nd.wks K r else n.wk K::Nd.wks K r
end
theorem bB3{d:D}{K:List D}(hd:V9 d) (hK:∀x∈K,V9 x):inD false d (.list K)=some (.bool (inK K d)):=by
 obtain⟨s,rfl,_⟩:=hd
 have fl:K.all U2=true:=List.all_eq_true.mpr fun x hx=>by obtain⟨t,rfl,_⟩:=hK x hx;rfl
 by_cases h:(PyData.str s:D)∈K
 ·rw[cr6 h]
  exact aZ1 (v:=true) rfl fl (List.any_eq_true.mpr ⟨.str s,List.mem_map.mpr ⟨.str s,h,rfl⟩,beq_self_eq_true s⟩)
 ·rw[bB4 h]
  refine aZ1 (v:=false) rfl fl (List.any_eq_false.mpr fun y hy=>?_)
  obtain⟨x,hx,rfl⟩:=List.mem_map.mp hy
  obtain⟨t,rfl,_⟩:=hK x hx
  show ¬(t==s)=true
  intro e
  exact h (by rw[← eq_of_beq e];exact hx)
theorem aH0{K:List D}(hK:∀x∈K,V9 x) (f:Nat):∀(l:List Nd) (X:List D) (a0 a3:Option B),(∀n∈l,V9 n.nm)->X.length+l.length<=1000->(∀n∈l,∀nm' m s sh ns,n=.group nm' m s sh ns->N3 f [↥ns,.list K]=some ↥(Nd.wks K ns)) ->
  ∃a3',V6 (B1 3) (wob f) (Nd.ds l) [a0,‹.list K›,some (.own X),a3]=some (.nx [a0,‹.list K›,some (.own (X++Nd.ds (Nd.wks K l))),a3'])
 | [],X,a0,a3,_,_,_=>⟨a3,by rw[Nd.wks,Nd.ds,List.append_nil];rfl⟩
 | n::l,X,a0,a3,hs,hl,H=>by
  have hi:=bB3 (hs n (List.mem_cons_self ..)) hK
  have en:=name_of n
  rw[List.length_cons]at hl
  have hx:X.length < 16777216:=by omega
  rw[Nd.ds,Nd.wks]
  cases q:inK K n.nm with
  | true =>
   rw[q]at hi
   obtain⟨a3',e⟩:=aH0 hK f l X a0 (‹n.d›) (fun x hx=>hs x (xmm _ hx)) (by omega) (fun x hx=>H x (xmm _ hx))
   refine⟨a3',?_⟩
   have b:wob f [a0,‹.list K›,some (.own X),‹n.d›]=some (.ct [a0,‹.list K›,some (.own X),‹n.d›]):=by wp_walk using evD,wob,en,hi,aO6
   simp only[V6,B1,xw0,xw1,xbs,b,if_true]
   exact e
  | false =>
   rw[q]at hi
   obtain⟨a3',e⟩:=aH0 hK f l (X++[(n.wk K).d]) a0 (‹n.d›) (fun x hx=>hs x (xmm _ hx)) (by rw[List.length_append];show X.length+1+l.length<=1000;omega) (fun x hx=>H x (xmm _ hx))
   refine⟨a3',?_⟩
   have ig:=ae6 n
   have b:wob f [a0,‹.list K›,some (.own X),‹n.d›]=some (.nx [a0,‹.list K›,some (.own (X++[(n.wk K).d])),‹n.d›]):=by
    cases n with
    | layer=>rw[Nd.wk];wp_walk using evD,wob,en,hi,ig,O9,if_pos hx
    | tone=>rw[Nd.wk];wp_walk using evD,wob,en,hi,ig,O9,if_pos hx
    | group nm' m s sh ns =>
     have e1:=H _ (List.mem_cons_self ..) nm' m s sh ns rfl
     rw[Nd.wk]
     wp_walk using evD,wob,en,hi,ig,O9,if_pos hx,aK9,e1,aV8
   simp only[V6,B1,xw0,xw1,xbs,b,xft,if_false,Nd.ds]
   rw[List.append_assoc]at e
   exact e
theorem bW6{K:List D}(hK:∀x∈K,V9 x):∀(k:Nat) (l:List Nd) (f:Nat),Nd.dps l<=k->k+1<=f->l.length<=1000->Nd.thins l->(∀d∈Nd.nmss l,V9 d)->N3 f [↥l,.list K]=some ↥(Nd.wks K l):=by
 have step:∀(l:List Nd) (f:Nat),l.length<=1000->(∀d∈Nd.nmss l,V9 d)->(∀n∈l,∀nm' m s sh ns,n=.group nm' m s sh ns->N3 f [↥ns,.list K]=some ↥(Nd.wks K ns))->N3 (f+1) [↥l,.list K]=some ↥(Nd.wks K l):=fun l f hl hs H=>by
  obtain⟨a3',e⟩:=aH0 hK f l [] (‹↥l›) none (bw3 hs) (by simpa using hl) H
  refine C3 (g:=ac2 (N3 f)) (ρ:=[‹↥l›,‹.list K›,none,none]) rfl ?_
  have s1:(P9 (L7 (A1 0)) (B1 3) (wob f)) [‹↥l›,‹.list K›,some (.own []),none]=some (.nx [‹↥l›,‹.list K›,some (.own ([]++Nd.ds (Nd.wks K l))),a3']):=e
  exact(D5 (ρ':=[‹↥l›,‹.list K›,some (.own []),none]) rfl).trans ((D5 s1).trans rfl)
 intro k
 induction k with
 | zero =>
  intro l f hd hf hl ht hs
  obtain⟨f,rfl⟩:∃g,f=g+1:=⟨f - 1,by omega⟩
  refine step l f hl hs fun n hn' nm' m s sh ns e=>?_
  have:=T1 hn'
  rw[e,Nd.dp]at this;omega
 | succ k ih =>
  intro l f hd hf hl ht hs
  obtain⟨f,rfl⟩:∃g,f=g+1:=⟨f - 1,by omega⟩
  refine step l f hl hs fun n hn' nm' m s sh ns e=>?_
  have h1:=T1 hn'
  have h2:=(Q9 l).mp ht n hn'
  rw[e,Nd.dp]at h1
  rw[e,Nd.thin]at h2
  exact ih ns f (by omega) (by omega) h2.1 h2.2 fun d hd'=>hs d (aJ5 hn' (by rw[e,Nd.nms];exact xmm _ hd'))
theorem aN9{w h:Nat}{l:List Nd}{K:List D}(hm:∀d∈K,d∈Nd.nmss l) (hs:∀d∈Nd.nmss l,V9 d) (hd:Nd.dps l<=3) (hn:(Nd.nmss l).length<=1000) (hl:l.length<=1000) (ht:Nd.thins l):x5 [G0 w h l,.list K]=some (G0 w h (Nd.wks K l)):=by
 have e1:=ar5 (w:=w) (h:=h) hd hn
 have e2:=bW6 (fun x hx=>hs x (hm x hx)) 3 l 12 hd (by decide) hl ht hs
 refine C3 (ρ:=[‹G0 w h l›,‹.list K›,none,none]) rfl ?_
 unfold aG0
 rw[D5 (ρ':=[‹G0 w h l›,‹.list K›,‹.list (Nd.nmss l)›,none]) (by wp_walk using evD,e1)]
 obtain⟨ρ',e3,a3,hρ⟩:=ay1 (g:=B1 3) (f:=sIf (tB2 (inD true) (A1 3) (A1 2)) K0 G7) (I:=fun ρ=>∃a3,ρ=[‹G0 w h l›,‹.list K›,‹.list (Nd.nmss l)›,a3]) K [‹G0 w h l›,‹.list K›,‹.list (Nd.nmss l)›,none] ⟨none,rfl⟩ (fun d hd' ρ hρ=>by
  obtain⟨a3,rfl⟩:=hρ
  have e3:=bB0 (hm d hd') hs
  refine⟨_,rfl,[‹G0 w h l›,‹.list K›,‹.list (Nd.nmss l)›,‹d›],?_,‹d›,rfl⟩
  show(sIf (tB2 (inD true) (A1 3) (A1 2)) K0 G7) [‹G0 w h l›,‹.list K›,‹.list (Nd.nmss l)›,‹d›]=_
  wp_walk using evD,e3)
 subst hρ
 have s1:(P9 (L7 (A1 1)) (B1 3) (sIf (tB2 (inD true) (A1 3) (A1 2)) K0 G7)) [‹G0 w h l›,‹.list K›,‹.list (Nd.nmss l)›,none]=some (.nx [‹G0 w h l›,‹.list K›,‹.list (Nd.nmss l)›,a3]):=e3
 rw[D5 s1]
 wp_walk using evD,G0,e2
theorem bR1(r s:Rat):PyData.eqv (fr r) (fr s)=decide (r=s):=by
 have e:=bD7 r s
 unfold eqD at e
 split at e
 ·exact PyData.bool.inj (Option.some.inj e)
 ·cases e
theorem ci5{q q':Q4}(h:eqB q q'=true):q=q':=by
 have e:=aZ5 q q'
 rw[h]at e
 unfold eqD at e
 rw[if_pos ⟨(Ly.q4 q 0).shaped (by decide),(Ly.q4 q' 0).shaped (by decide)⟩]at e
 have e:PyData.eqv q.d q'.d=true:=PyData.bool.inj (Option.some.inj e)
 have e:(PyData.eqv (fr q.c) (fr q'.c)&&(PyData.eqv (fr q.x) (fr q'.x)&&(PyData.eqv (fr q.y) (fr q'.y)&&(PyData.eqv (fr q.z) (fr q'.z)&&true))))=true:=e
 simp only[bR1,Bool.and_eq_true,decide_eq_true_eq]at e
 obtain⟨c,x,y,z⟩:=q
 obtain⟨c',x',y',z'⟩:=q'
 obtain⟨rfl,rfl,rfl,rfl,_⟩:=e
 rfl
theorem br6(q:Q4):q.wt 0=q0:=by
 obtain⟨c,x,y,z⟩:=q
 simp only[Q4.wt,q0,Q4.mk.injEq]
 refine⟨?_,?_,?_,?_⟩<;>grind
theorem aP4{s:Rat}(h:(s.num==0)=true):s=0:=Rat.num_eq_zero.mp (eq_of_beq h)
theorem cj0{n:Nd}(h:n.stg=0) {m:Man}(hm:n.mn=some m) (x y:Int):n.br x y=q0:=by
 cases n with
 | layer nm m s =>
  have h:s=0:=h
  subst h
  exact br6 _
 | tone=>cases hm
 | group nm m s sh ns =>
  have h:s=0:=h
  subst h
  exact br6 _
theorem cj1{a b:Q4}(h:a.c=1):Man.over.bl a b=a:=by
 obtain⟨c,x,y,z⟩:=a
 obtain⟨d,x',y',z'⟩:=b
 simp only at h
 subst h
 simp only[Man.bl,Man.cov,Man.col,Q4.mk.injEq]
 refine⟨?_,?_,?_,?_⟩<;>grind
theorem ci8{w h:Nat}{n:Nd}(hc:n.cvr w h=true) {p:Int×Int}(hp:p∈plc w (w*h)) (q:Q4):Nd.ab p.1 p.2 n q=n.br p.1 p.2/\(n.br p.1 p.2).c=1/\n.isM .over:=by
 unfold Nd.cvr at hc
 split at hc
 ·cases hc
 ·rename_i m e
  rw[Bool.and_eq_true,Bool.and_eq_true]at hc
  obtain⟨h1,h2,h3⟩:=hc
  have hm:m=.over:=by cases m<;>first|rfl|cases h2
  subst hm
  have c:=of_decide_eq_true (List.all_eq_true.mp h3 _ (List.mem_map.mpr ⟨p,hp,rfl⟩))
  refine⟨?_,c,aK5 e h1⟩
  rw[cj8 (aK5 e h1)]
  exact cj1 c
theorem bR9{w h:Nat}(W:Fits w h) {n:Nd}(hc:n.cvr w h=true):n.nth w h=false:=by
 have hp:(0,0)∈plc w (w*h):=by
  have:=Nat.mul_le_mul W.w1 W.h1
  exact List.mem_map.mpr ⟨0,List.mem_range.mpr (by omega),by simp⟩
 obtain⟨_,c,i⟩:=ci8 hc hp q0
 have ne:n.br 0 0≠q0:=fun z=>by
  rw[show n.br (0,0).1 (0,0).2=n.br 0 0 from rfl,z]at c
  exact absurd c (by decide)
 obtain⟨m,hm⟩:∃m,n.mn=some m:=by
  cases n with
  | layer=>exact⟨_,rfl⟩
  | tone=>exact i.elim
  | group=>exact⟨_,rfl⟩
 have s:n.shB=true:=by
  cases n with
  | layer=>exact i.2
  | tone=>exact i.elim
  | group=>exact i.2
 unfold Nd.nth
 rw[s,hm]
 have z1:(n.stg.num==0)=false:=by
  cases z:(n.stg.num==0) with
  | false=>rfl
  | true=>exact absurd (cj0 (aP4 z) hm 0 0) ne
 have z2:((brL w h n).all fun q=>eqB q q0)=false:=by
  cases z:(brL w h n).all fun q=>eqB q q0 with
  | false=>rfl
  | true=>exact absurd (ci5 (List.all_eq_true.mp z _ (List.mem_map.mpr ⟨(0,0),hp,rfl⟩))) ne
 rw[z1]
 simp only[xnt,Bool.false_or]
 exact z2
theorem bx7:∀l:List Nd,l.length<=Nd.wgs l
 | []=>Nat.zero_le _
 | n::r=>by
  rw[Nd.wgs,List.length_cons]
  have:=bx7 r
  have:=aV9 n
  omega
theorem cb2(n:Nd):n.nms=n.nm::Nd.nmss n.inn:=by
 cases n with
 | layer=>rw[Nd.nms];rfl
 | tone=>rw[Nd.nms];rfl
 | group=>rw[Nd.nms];rfl
section
variable {w h:Nat}{K:List D}{p:Int×Int}
theorem cl6(n:Nd):(n.wk K).mn=n.mn/\(n.wk K).shB=n.shB/\(n.wk K).stg=n.stg/\(n.wk K).nm=n.nm:=by
 cases n with
 | layer=>rw[Nd.wk];exact⟨rfl,rfl,rfl,rfl⟩
 | tone=>rw[Nd.wk];exact⟨rfl,rfl,rfl,rfl⟩
 | group=>rw[Nd.wk];exact⟨rfl,rfl,rfl,rfl⟩
mutual
theorem bW7:∀n:Nd,List.Sublist (n.wk K).nms n.nms/\∀d∈Nd.nmss (n.wk K).inn,d∉K
 | .layer ..=>by rw[Nd.wk];exact⟨List.Sublist.refl _,fun d hd=>by rw[show Nd.inn _=[] from rfl,Nd.nmss]at hd;simp at hd⟩
 | .tone ..=>by rw[Nd.wk];exact⟨List.Sublist.refl _,fun d hd=>by rw[show Nd.inn _=[] from rfl,Nd.nmss]at hd;simp at hd⟩
 | .group nm m s sh ns=>by
  obtain⟨i1,i2⟩:=wks_nms ns
  rw[Nd.wk,Nd.nms,Nd.nms]
  exact⟨i1.cons₂ nm,i2⟩
theorem wks_nms:∀l:List Nd,List.Sublist (Nd.nmss (Nd.wks K l)) (Nd.nmss l)/\∀d∈Nd.nmss (Nd.wks K l),d∉K
 | []=>by rw[Nd.wks,Nd.nmss];exact⟨List.Sublist.refl _,fun d hd=>by simp at hd⟩
 | n::r=>by
  obtain⟨i1,i2⟩:=bW7 n
  obtain⟨j1,j2⟩:=wks_nms r
  rw[Nd.wks,Nd.nmss]
  cases k:inK K n.nm with
  | true=>rw[if_pos rfl];exact⟨j1.trans (List.sublist_append_right _ _),j2⟩
  | false =>
   rw[if_neg (by simp),Nd.nmss]
   refine⟨i1.append j1,fun d hd=>?_⟩
   rcases List.mem_append.mp hd with q|q
   ·rw[cb2,(cl6 n).2.2.2]at q
    rcases List.mem_cons.mp q with rfl|q
    ·exact bM6 k
    ·exact i2 d q
   ·exact j2 d q
end
mutual
theorem br7:∀n:Nd,(n.Ok->(n.wk K).Ok)/\(n.wk K).dp<=n.dp/\(n.wk K).wg<=n.wg/\(n.off->(n.wk K).off)/\(n.thin->(n.wk K).thin)
 | .layer ..=>by rw[Nd.wk];exact⟨id,Nat.le_refl _,Nat.le_refl _,id,id⟩
 | .tone ..=>by rw[Nd.wk];exact⟨id,Nat.le_refl _,Nat.le_refl _,id,id⟩
 | .group nm m s sh ns=>by
  obtain⟨i1,i2,i3,i4,i5,i6⟩:=wks_props ns
  rw[Nd.wk,Nd.Ok,Nd.Ok,Nd.dp,Nd.dp,Nd.wg,Nd.wg,Nd.off,Nd.off,Nd.thin,Nd.thin]
  exact⟨fun z=>⟨z.1,i1 z.2⟩,by omega,by omega,fun z=>⟨Nat.le_trans i6 z.1,i4 z.2⟩,fun z=>⟨Nat.le_trans i6 z.1,i5 z.2⟩⟩
theorem wks_props:∀l:List Nd,(Nd.Oks l->Nd.Oks (Nd.wks K l))/\Nd.dps (Nd.wks K l)<=Nd.dps l/\Nd.wgs (Nd.wks K l)<=Nd.wgs l/\(Nd.offs l->Nd.offs (Nd.wks K l))/\(Nd.thins l->Nd.thins (Nd.wks K l))/\(Nd.wks K l).length<=l.length
 | []=>by rw[Nd.wks];exact⟨id,Nat.le_refl _,Nat.le_refl _,id,id,Nat.le_refl _⟩
 | n::r=>by
  obtain⟨i1,i2,i3,i4,i5⟩:=br7 n
  obtain⟨j1,j2,j3,j4,j5,j6⟩:=wks_props r
  rw[Nd.wks,Nd.Oks,Nd.dps,Nd.wgs,Nd.offs,Nd.thins,List.length_cons]
  cases k:inK K n.nm with
  | true=>rw[if_pos rfl];exact⟨fun z=>j1 z.2,by omega,by omega,fun z=>j4 z.2,fun z=>j5 z.2,by omega⟩
  | false =>
   rw[if_neg (by simp),Nd.Oks,Nd.dps,Nd.wgs,Nd.offs,Nd.thins,List.length_cons]
   exact⟨fun z=>⟨i1 z.1,j1 z.2⟩,by omega,by omega,fun z=>⟨i4 z.1,j4 z.2⟩,fun z=>⟨i5 z.1,j5 z.2⟩,by omega⟩
end
end
end Sh
namespace Lk40
open PySem G L2 Sh
theorem cc9{n:Nd}{m:Man}(hm:n.mn=some m) (o:n.Ok) (hd:n.dp<=3) (hw:n.wg<=800) (x y:Int):V4 12 [n.d,.int x,.int y]=some (n.br x y).d:=by
 cases n with
 | tone=>cases hm
 | layer nm m' s sh lf tp mk w h l kb =>
  rw[Nd.Ok]at o
  rw[Nd.wg]at hw
  exact aE1 o.2.2.2.2 (by omega) o.1 o.2.1 o.2.2.1 o.2.2.2.1 11 x y
 | group nm m' s sh ns =>
  rw[Nd.Ok]at o
  rw[Nd.dp]at hd
  rw[Nd.wg]at hw
  have e:=bl1 x y ns 10 o.2 (by omega) (by omega)
  exact aE2 o.1 11 x y e (aO2 x y ns 10 o.2 (by omega) (by omega)).2 (by omega)
theorem bN5{w h:Nat}(W:Fits w h) (l0:List Nd) {n:Nd}{m:Man}(hm:n.mn=some m) (o:n.Ok) (hd:n.dp<=3) (hw:n.wg<=800):S0 [G0 w h l0,n.d]=some (.list ((brL w h n).map Q4.d)):=by
 refine C3 (ρ:=[‹G0 w h l0›,‹n.d›]) rfl ?_
 have wh:w*h<=64:=Nat.mul_le_mul W.w8 W.h8
 have i0:∀ρ:Rho,ρ[0]? = some (‹G0 w h l0›)->dIx (A5 0) ⇑0 ρ=some (.int w)/\dIx (A5 0) ⇑1 ρ=some (.int h):=fun ρ e=>by
  unfold dIx A5
  rw[e]
  exact⟨rfl,rfl⟩
 have mm:A4 L6 (dIx (A5 0) ⇑0) (dIx (A5 0) ⇑1) [‹G0 w h l0›,‹n.d›]=some (.int ((w*h:Nat):Int)):=by
  unfold A4
  rw[(i0 _ rfl).1,(i0 _ rfl).2]
  exact S7 (by have:=W.w8;omega) (by have:=W.h8;omega)
 have wp:(0:Int) < (w:Int):=by have:=W.w1;omega
 have w8:=W.w8
 have ix:∀(a b:Option B),dIx (A5 2) ⇑0 [a,b,‹G0 w h l0›]=some (.int w):=fun a b=>rfl
 have c:G8 1 [1,0] (O1 (A4 L6 (dIx (A5 0) ⇑0) (dIx (A5 0) ⇑1))) (B1 0) K3 (A3 (V4 12) (A0 (A1 1) (A0 (A4 Y1 (A1 0) (dIx (A5 2) ⇑0)) (A0 (A4 ac7 (A1 0) (dIx (A5 2) ⇑0)) A2)))) [‹G0 w h l0›,‹n.d›]=some ((List.range (w*h)).map fun k=>(n.br ((k % w:Nat):Int) ((k / w:Nat):Int)).d):=by
  refine n9 (l:=List.range (w*h)) (h:=fun k:Nat=>PyData.int k) (r:=[‹n.d›,‹G0 w h l0›]) rfl (k7 mm (by omega)) (by rw[List.length_range];omega) fun k _=>?_
  have b:=cc9 hm o hd hw ((k % w:Nat):Int) ((k / w:Nat):Int)
  simp only[A3,A0,A2,A4,ix,A1,xg0,xg1,xbs,xms,ax1 wp,aF0 wp (sm8 (by omega) (by omega))]
  exact b
 unfold ac3 A9 P0
 rw[c]
 unfold brL plc
 rw[List.map_map,List.map_map]
 rfl
theorem bg2(w h:Nat):∀(a b:List Nd) (i acc:Nat),hiF w h i (a++b) acc=hiF w h (i+a.length) b (hiF w h i a acc)
 | [],b,i,acc=>rfl
 | n::a,b,i,acc=>by rw[xca,hiF,bg2 w h a b,hiF,List.length_cons,show i+(a.length+1)=i+1+a.length by omega]
theorem bC0(w h:Nat):∀(l:List Nd) (i acc:Nat),acc<=i->hiF w h i l acc<=i+l.length - 1\/hiF w h i l acc<=i
 | [],i,acc,l=>.inr l
 | n::l,i,acc,hl=>by
  rw[hiF,List.length_cons]
  have:=bC0 w h l (i+1) (if n.cvr w h=true then i else acc) (by split<;>omega)
  have z:(if n.cvr w h=true then i else acc)<=i:=by split<;>omega
  rcases this with q|q
  ·exact .inl (by omega)
  ·cases l with
   | nil=>right;rw[hiF];exact z
   | cons m l=>left;rw[List.length_cons];omega
theorem cr9(w h:Nat) (x y:List Nd) (n:Nd):decide (x.length < Q8 w h (x++n::y))=y.any (fun m=>m.cvr w h):=by
 unfold Q8
 rw[show x++n::y=(x++[n])++y by simp,bg2,List.length_append,List.length_singleton,Nat.zero_add]
 have b:hiF w h 0 (x++[n]) 0<=x.length:=by
  have:=bC0 w h (x++[n]) 0 0 (Nat.le_refl _)
  rw[List.length_append,List.length_singleton]at this
  omega
 cases e:y.any (fun m=>m.cvr w h) with
 | true =>
  obtain⟨m,hm,hc⟩:=List.any_eq_true.mp e
  have:=aR3 w h y (x.length+1) (hiF w h 0 (x++[n]) 0) ⟨m,hm,hc⟩
  exact decide_eq_true (by omega)
 | false =>
  rw[ax7 w h y _ _ fun m hm=>by
   rw[List.any_eq_false]at e
   have:=e m hm
   simpa using this]
  exact decide_eq_false (by omega)
def db(self:List D->Option D):DS:=(A6 (B0 5 (ab0 (tB2 neD (dIx (A5 4) ⇑0) (dC (.str "tone"))) (A3 S0 (A0 (A1 0) (A0 (A1 4) A2))) (P0 A2))) (A6 (B0 6 (T8 (A4 neD (A1 5) (P0 A2)) (A4 eqD (P0 (G8 1 [] (L7 (A1 5)) (B1 0) (tB2 neD (A1 0) (A4 L6 (D4 (A0 (D4 (A0 ⇑0 (A0 ⇑1 A2))) A2)) ⇑4)) (A1 0))) (P0 A2)))) (sIf (P8 (M5 (M1 (A1 3))) (P8 (M5 (M1 (dIx (A5 4) ⇑4))) (P8 (tB2 eqD (dIx (A5 4) ⇑3) (D4 (A0 ⇑0 (A0 ⇑1 A2)))) (M1 (A1 6))))) (B0 2 (A4 C0 (P0 (A0 (dIx (A5 4) ⇑1) A2)) (A1 2))) (A6 (sIf (tB2 eqD (dIx (A5 4) ⇑0) (dC (.str "group"))) (B0 2 (A4 C0 (A3 self (A0 (A1 0) (A0 (dIx (A5 4) ⇑5) A2))) (A1 2))) G7) (sIf (U0 (tB2 eqD (dIx (A5 4) ⇑2) (dC (.str "over"))) (tB2 eqD (P0 (G8 1 [] (L7 (A1 5)) (B1 0) (tB2 neD (dIx (A5 0) ⇑0) (D4 (A0 ⇑1 (A0 ⇑1 A2)))) (A1 0))) (P0 A2))) (B0 3 (dC (.bool false))) G7)))))
theorem cs2(q q':Q4):eqB q q'=PyData.eqv q.d q'.d:=by
 have:=aZ5 q q'
 unfold eqD at this
 rw[if_pos ⟨(Ly.q4 q 0).shaped (by decide),(Ly.q4 q' 0).shaped (by decide)⟩]at this
 exact(PyData.bool.inj (Option.some.inj this)).symm
theorem bw7(q q':Q4):neD q.d q'.d=some (.bool (!eqB q q')):=by
 unfold neD
 rw[if_pos ⟨(Ly.q4 q 0).shaped (by decide),(Ly.q4 q' 0).shaped (by decide)⟩,cs2]
theorem cb5(c:Rat):neD (fr c) (.tuple [.int 1,.int 1])=some (.bool (!decide (c=1))):=by
 have e:=bD5 c
 unfold eqD at e
 unfold neD
 split at e
 ·rename_i z
  rw[if_pos z]
  have:PyData.eqv (fr c) (.tuple [.int 1,.int 1])=decide (c=1):=PyData.bool.inj (Option.some.inj e)
  rw[this]
 ·cases e
theorem aL1{X:List D}(h:∀x∈X,Ly 30 x):eqD (.list X) (.list [])=some (.bool X.isEmpty)/\neD (.list X) (.list [])=some (.bool (!X.isEmpty)):=by
 unfold eqD neD
 rw[if_pos ⟨(Ly.lst h).shaped (by decide),rfl⟩,if_pos ⟨(Ly.lst h).shaped (by decide),rfl⟩]
 cases X<;>exact⟨rfl,rfl⟩
theorem bR2(m:Man):eqD (.str m.s) (.str "over")=some (.bool m.isO):=by cases m<;>exact D6 (by decide +kernel) (by decide +kernel) (by decide +kernel)
theorem bm1(r:Rul):eqD (.str r.s) (.str "over")=some (.bool false):=by cases r<;>exact D6 (by decide +kernel) (by decide +kernel) (by decide +kernel)
theorem aS0{α:Type}(p:α->Bool) (l:List α):(l.filter fun q=>!p q).isEmpty=l.all p:=by
 induction l with
 | nil=>rfl
 | cons a l ih =>
  cases h:p a
  ·simp[h]
  ·simp only[List.all_cons,h,Bool.true_and]
   rw[List.filter_cons_of_neg (by simp[h])]
   exact ih
theorem m4:L6 (.tuple [.tuple [.int 0,.int 1]]) (.int 4)=some q0.d:=rfl
theorem cp5:neD (.str "layer") (.str "tone")=some (.bool true):=S5z
theorem cp6:neD (.str "group") (.str "tone")=some (.bool true):=S5z
theorem cp4:neD (.str "tone") (.str "tone")=some (.bool false):=S5z
theorem aS3:eqD (.str "layer") (.str "group")=some (.bool false):=D6z
theorem bm5:eqD (.str "group") (.str "group")=some (.bool true):=D6z
theorem e_tg:eqD (.str "tone") (.str "group")=some (.bool false):=D6z
theorem bU6(s:Rat):eqD (fr s) (.tuple [.int 0,.int 1])=some (.bool (s.num==0)):=by
 have e:=bD7 s 0
 have f0:fr 0=.tuple [.int 0,.int 1]:=rfl
 rw[f0]at e
 rw[e]
 congr 2
 cases z:(s.num==0) with
 | true=>exact decide_eq_true (aP4 z)
 | false =>
  refine decide_eq_false fun q=>?_
  subst q
  cases z
abbrev dn(w h:Nat) (l0:List Nd) (a1:Option B) (X:List D) (fl:Bool) (n:Nd) (b5 b6:Option B):Rho:=[‹G0 w h l0›,a1,‹.list X›,‹.bool fl›,‹n.d›,b5,b6]
theorem bF7{Y X:List D}(h:Y.length+X.length<=3000):C0 (.list Y) (.list X)=some (.list (Y++X)):=by
 show(if Y.length+X.length<=16777216 then _ else none)=_
 rw[if_pos (by omega)]
theorem bE0{w h:Nat}(l0:List Nd) {nm:D}{r:Rul}{s:Rat}{sh:Bool}(self:List D->Option D) (X:List D) (fl:Bool) (a1 b5 b6:Option B) (hX:X.length<=1000) :
  db self (dn w h l0 a1 X fl (.tone nm r s sh) b5 b6)=some (.nx (dn w h l0 a1 ((if(!fl || Nd.nth w h (.tone nm r s sh))=true then [nm] else [])++X) fl (.tone nm r s sh) (‹.list []›) (‹.bool false›))):=by
 have cl:C0 (.list [nm]) (.list X)=some (.list ([nm]++X)):=bF7 (by rw[List.length_singleton];omega)
 have nn:neD (.list []) (.list [])=some (.bool false):=rfl
 have e0:=bU6 s
 have e1:=bm1 r
 unfold dn
 rw[Nd.d]
 cases z:(s.num==0)<;>cases fl<;>cases sh<;>wp_walk using evD,db,ab0,ac1,ac0,ai1,ai0,ah9,cp4,nn,e0,e1,e_tg,z,cl,Nd.nth,Nd.shB,Nd.stg,Nd.mn,Bool.true_or,Bool.false_or,Bool.or_true,Bool.or_false,xna
theorem bE1{w h:Nat}(W:Fits w h) (l0:List Nd) {n:Nd}{m:Man}(hm:n.mn=some m) (o:n.Ok) (hd:n.dp<=3) (hw:n.wg<=800) (self:List D->Option D) (X:List D) (fl:Bool) (a1 b5 b6:Option B) (hX:X.length<=1000) (hG:(n.gl w h).length<=1000)
  (H:n.isG=true->self [G0 w h l0,↥n.inn]=some (.list (n.gl w h))) :
  ∃a5 a6,db self (dn w h l0 a1 X fl n b5 b6)=some (.nx (dn w h l0 a1 ((if(!fl || n.nth w h)=true then [n.nm] else n.gl w h)++X) (fl && !n.cvr w h) n a5 a6)):=by
 have wh:w*h<=64:=Nat.mul_le_mul W.w8 W.h8
 have wh1:1<=w*h:=Nat.mul_pos W.w1 W.h1
 have eb:=bN5 W l0 hm o hd hw
 obtain⟨Bl,hBl⟩:∃Bl,Bl=brL w h n:=⟨_,rfl⟩
 have lB:Bl.length=w*h:=by rw[hBl,aL8]
 rw[← hBl]at eb
 have ly:∀(l:List Q4),∀x∈l.map Q4.d,Ly 30 x:=fun l x hx=>by
  obtain⟨q,_,rfl⟩:=List.mem_map.mp hx
  exact(Ly.q4 q 0).mono (by decide)
 have ne5:neD (.list (Bl.map Q4.d)) (.list [])=some (.bool true):=by
  rw[(aL1 (ly Bl)).2]
  cases Bl with
  | nil=>rw[List.length_nil]at lB;omega
  | cons=>rfl
 have kt:∀ρ:Rho,ρ[4]? = some (‹n.d›)->tB2 neD (dIx (A5 4) ⇑0) (dC (.str "tone")) ρ=some true:=fun ρ e=>by
  cases n with
  | tone=>cases hm
  | layer=>rw[Nd.d]at e;simp only[tB2,A4,dIx,A5,dC,ae0,e,xbs,v8,cp5,N9]
  | group=>rw[Nd.d]at e;simp only[tB2,A4,dIx,A5,dC,ae0,e,xbs,m7,cp6,N9]
 have kg:∀ρ:Rho,ρ[4]? = some (‹n.d›)->tB2 eqD (dIx (A5 4) ⇑0) (dC (.str "group")) ρ=some n.isG:=fun ρ e=>by
  cases n with
  | tone=>cases hm
  | layer=>rw[Nd.d]at e;simp only[tB2,A4,dIx,A5,dC,ae0,e,xbs,v8,aS3,N9,Nd.isG]
  | group=>rw[Nd.d]at e;simp only[tB2,A4,dIx,A5,dC,ae0,e,xbs,m7,bm5,N9,Nd.isG]
 have k1:∀ρ:Rho,ρ[4]? = some (‹n.d›)->dIx (A5 4) ⇑1 ρ=some n.nm/\dIx (A5 4) ⇑2 ρ=some (.str m.s)/\dIx (A5 4) ⇑3 ρ=some (fr n.stg)/\dIx (A5 4) ⇑4 ρ=some (.bool n.shB):=fun ρ e=>by
  cases n with
  | tone=>cases hm
  | layer=>cases hm;rw[Nd.d]at e;unfold dIx A5;rw[e];exact⟨rfl,rfl,rfl,rfl⟩
  | group=>cases hm;rw[Nd.d]at e;unfold dIx A5;rw[e];exact⟨rfl,rfl,rfl,rfl⟩
 have k5:n.isG=true->∀ρ:Rho,ρ[4]? = some (‹n.d›)->dIx (A5 4) ⇑5 ρ=some ↥n.inn:=fun g ρ e=>by
  cases n with
  | tone=>cases hm
  | layer=>cases g
  | group=>rw[Nd.d]at e;unfold dIx A5;rw[e];rfl
 have s5:(B0 5 (ab0 (tB2 neD (dIx (A5 4) ⇑0) (dC (.str "tone"))) (A3 S0 (A0 (A1 0) (A0 (A1 4) A2))) (P0 A2))) (dn w h l0 a1 X fl n b5 b6)=some (.nx (dn w h l0 a1 X fl n (‹.list (Bl.map Q4.d)›) b6)):=by
  have kt0:=kt (dn w h l0 a1 X fl n b5 b6) rfl
  simp only[B0,ab0,kt0,xbs,if_true,A3,A0,A2,A1,xg0,xg1,xms,eb,xw0,xw1]
 have c6:∀(a6:Option B),G8 1 [] (L7 (A1 5)) (B1 0) (tB2 neD (A1 0) (A4 L6 (D4 (A0 (D4 (A0 ⇑0 (A0 ⇑1 A2))) A2)) ⇑4)) (A1 0) (dn w h l0 a1 X fl n (‹.list (Bl.map Q4.d)›) a6)=some ((Bl.filter fun q=>!eqB q q0).map Q4.d):=fun a6=>by
  refine bf1 (l:=Bl) (h:=Q4.d) (p:=fun q=>!eqB q q0) (r:=[]) rfl rfl (by omega) (fun q _=>?_) fun q _=>rfl
  have:=bw7 q q0
  simp only[tB2,A4,A1,D4,A0,A2,dC,xg0,xbs,xms,m4,this,N9]
 have e6:eqD (.list ((Bl.filter fun q=>!eqB q q0).map Q4.d)) (.list [])=some (.bool (Bl.all fun q=>eqB q q0)):=by rw[(aL1 (ly _)).1,List.isEmpty_map,aS0]
 have s6:(B0 6 (T8 (A4 neD (A1 5) (P0 A2)) (A4 eqD (P0 (G8 1 [] (L7 (A1 5)) (B1 0) (tB2 neD (A1 0) (A4 L6 (D4 (A0 (D4 (A0 ⇑0 (A0 ⇑1 A2))) A2)) ⇑4)) (A1 0))) (P0 A2)))) (dn w h l0 a1 X fl n (‹.list (Bl.map Q4.d)›) b6)=some (.nx (dn w h l0 a1 X fl n (‹.list (Bl.map Q4.d)›) (‹.bool (Bl.all fun q=>eqB q q0)›))):=by
  have v5:A1 5 (dn w h l0 a1 X fl n (‹.list (Bl.map Q4.d)›) b6)=some (.list (Bl.map Q4.d)):=rfl
  simp only[B0,T8,A4,v5,P0,A2,c6,xbs,xms,ne5,e6,ai6,N9,if_true,xw0,xw1]
 have c7:∀(X:List D) (fl:Bool) (a6:Option B),G8 1 [] (L7 (A1 5)) (B1 0) (tB2 neD (dIx (A5 0) ⇑0) (D4 (A0 ⇑1 (A0 ⇑1 A2)))) (A1 0) (dn w h l0 a1 X fl n (‹.list (Bl.map Q4.d)›) a6)=some ((Bl.filter fun q=>!decide (q.c=1)).map Q4.d):=fun X fl a6=>by
  refine bf1 (l:=Bl) (h:=Q4.d) (p:=fun q=>!decide (q.c=1)) (r:=[]) rfl rfl (by omega) (fun q _=>?_) fun q _=>rfl
  have i0:dIx (A5 0) ⇑0 [‹q.d›]=some (fr q.c):=rfl
  simp only[tB2,A4,i0,D4,A0,A2,dC,xbs,xms,cb5,N9]
 have e7:eqD (.list ((Bl.filter fun q=>!decide (q.c=1)).map Q4.d)) (.list [])=some (.bool (Bl.all fun q=>decide (q.c=1))):=by rw[(aL1 (ly _)).1,List.isEmpty_map,aS0]
 have nth:n.nth w h=(!n.shB || ((n.stg.num==0) || (Bl.all fun q=>eqB q q0))):=by unfold Nd.nth;rw[hm,hBl]
 have cvr:n.cvr w h=(n.shB&&(m.isO&&(Bl.all fun q=>decide (q.c=1)))):=by unfold Nd.cvr;rw[hm,hBl]
 refine⟨‹.list (Bl.map Q4.d)›,‹.bool (Bl.all fun q=>eqB q q0)›,?_⟩
 unfold db
 rw[D5 s5,D5 s6]
 obtain⟨i1,i2,i3,i4⟩:=k1 (dn w h l0 a1 X fl n (‹.list (Bl.map Q4.d)›) (‹.bool (Bl.all fun q=>eqB q q0)›)) rfl
 have v3:A1 3 (dn w h l0 a1 X fl n (‹.list (Bl.map Q4.d)›) (‹.bool (Bl.all fun q=>eqB q q0)›))=some (.bool fl):=rfl
 have v6:A1 6 (dn w h l0 a1 X fl n (‹.list (Bl.map Q4.d)›) (‹.bool (Bl.all fun q=>eqB q q0)›))=some (.bool (Bl.all fun q=>eqB q q0)):=rfl
 have v2:A1 2 (dn w h l0 a1 X fl n (‹.list (Bl.map Q4.d)›) (‹.bool (Bl.all fun q=>eqB q q0)›))=some (.list X):=rfl
 have cond:(P8 (M5 (M1 (A1 3))) (P8 (M5 (M1 (dIx (A5 4) ⇑4))) (P8 (tB2 eqD (dIx (A5 4) ⇑3) (D4 (A0 ⇑0 (A0 ⇑1 A2)))) (M1 (A1 6))))) (dn w h l0 a1 X fl n (‹.list (Bl.map Q4.d)›) (‹.bool (Bl.all fun q=>eqB q q0)›))=some (!fl || n.nth w h):=by
  rw[nth]
  have e0:=bU6 n.stg
  cases fl<;>cases q:n.shB<;>cases z:(n.stg.num==0)<;>rw[q]at i4<;>rw[z]at e0<;>simp only[P8,M5,M1,tB2,A4,v3,v6,i3,i4,D4,A0,A2,dC,ai6,N9,e0,xbs,xms,xnt,xnf,Bool.true_or,Bool.false_or,xft,if_true,if_false]
 have cl:C0 (.list [n.nm]) (.list X)=some (.list ([n.nm]++X)):=bF7 (by rw[List.length_singleton];omega)
 cases q:(!fl || n.nth w h) with
 | true =>
  rw[q]at cond
  have keep:(fl && !n.cvr w h)=fl:=by
   cases fl with
   | false=>rfl
   | true =>
    have:n.nth w h=true:=q
    cases c:n.cvr w h with
    | false=>rfl
    | true=>rw[bR9 W c]at this;cases this
  rw[keep]
  simp only[sIf,cond,xbs,if_true,B0,A4,P0,A0,A2,i1,v2,xms,cl,xw0,xw1]
 | false =>
  rw[q]at cond
  simp only[Bool.or_eq_false_iff,Bool.not_eq_false']at q
  obtain⟨rfl,q⟩:=q
  have sb:n.shB=true:=by
   rw[nth]at q
   simp only[Bool.or_eq_false_iff,Bool.not_eq_false']at q
   exact q.1
  have cg:n.isG=true->C0 (.list (n.gl w h)) (.list X)=some (.list (n.gl w h++X)):=fun _=>bF7 (by omega)
  have gl0:n.isG=false->n.gl w h=[]:=fun g=>by
   cases n with
   | tone=>cases hm
   | layer=>rw[Nd.gl]
   | group=>cases g
  have s8:(sIf (tB2 eqD (dIx (A5 4) ⇑0) (dC (.str "group"))) (B0 2 (A4 C0 (A3 self (A0 (A1 0) (A0 (dIx (A5 4) ⇑5) A2))) (A1 2))) G7) (dn w h l0 a1 X true n (‹.list (Bl.map Q4.d)›) (‹.bool (Bl.all fun q=>eqB q q0)›))=some (.nx (dn w h l0 a1 (n.gl w h++X) true n (‹.list (Bl.map Q4.d)›) (‹.bool (Bl.all fun q=>eqB q q0)›))):=by
   cases g:n.isG with
   | true =>
    have kk:=kg (dn w h l0 a1 X true n (‹.list (Bl.map Q4.d)›) (‹.bool (Bl.all fun q=>eqB q q0)›)) rfl
    rw[g]at kk
    have i5:=k5 g (dn w h l0 a1 X true n (‹.list (Bl.map Q4.d)›) (‹.bool (Bl.all fun q=>eqB q q0)›)) rfl
    have v0:A1 0 (dn w h l0 a1 X true n (‹.list (Bl.map Q4.d)›) (‹.bool (Bl.all fun q=>eqB q q0)›))=some (G0 w h l0):=rfl
    simp only[sIf,kk,xbs,if_true,B0,A4,A3,A0,A2,v0,i5,v2,xms,H g,cg g,xw0,xw1]
   | false =>
    have kk:=kg (dn w h l0 a1 X true n (‹.list (Bl.map Q4.d)›) (‹.bool (Bl.all fun q=>eqB q q0)›)) rfl
    rw[g]at kk
    rw[gl0 g]
    simp only[sIf,kk,xbs,xft,if_false,G7,xna]
  have s9:(sIf (U0 (tB2 eqD (dIx (A5 4) ⇑2) (dC (.str "over"))) (tB2 eqD (P0 (G8 1 [] (L7 (A1 5)) (B1 0) (tB2 neD (dIx (A5 0) ⇑0) (D4 (A0 ⇑1 (A0 ⇑1 A2)))) (A1 0))) (P0 A2))) (B0 3 (dC (.bool false))) G7) (dn w h l0 a1 (n.gl w h++X) true n (‹.list (Bl.map Q4.d)›) (‹.bool (Bl.all fun q=>eqB q q0)›))=some (.nx (dn w h l0 a1 (n.gl w h++X) (!n.cvr w h) n (‹.list (Bl.map Q4.d)›) (‹.bool (Bl.all fun q=>eqB q q0)›))):=by
   rw[cvr,sb]
   have j2:=(k1 (dn w h l0 a1 (n.gl w h++X) true n (‹.list (Bl.map Q4.d)›) (‹.bool (Bl.all fun q=>eqB q q0)›)) rfl).2.1
   have eo:=bR2 m
   cases mo:m.isO with
   | false =>
    rw[mo]at eo
    simp only[sIf,U0,tB2,A4,j2,dC,eo,xbs,N9,xft,if_false,G7,Bool.false_and,Bool.and_false,xnf]
   | true =>
    rw[mo]at eo
    cases al:(Bl.all fun q=>decide (q.c=1)) with
    | false =>
     rw[al]at e7
     simp only[sIf,U0,tB2,A4,j2,dC,eo,P0,A2,c7,e7,xbs,xms,N9,xft,if_true,if_false,G7,Bool.and_false,xnf]
    | true =>
     rw[al]at e7
     simp only[sIf,U0,tB2,A4,j2,dC,eo,P0,A2,c7,e7,xbs,xms,N9,if_true,B0,xw0,xw1,Bool.and_self,xnt]
  unfold sIf
  rw[cond,xbs,if_neg Bool.false_ne_true]
  exact(D5 s8).trans s9
theorem aS4{w h:Nat}(W:Fits w h) (l0:List Nd) (self:List D->Option D) {ns:List Nd}(T:Tame ns) (hN:(Nd.nmss ns).length<=1000) (H:∀n∈ns,n.isG=true->self [G0 w h l0,↥n.inn]=some (.list (n.gl w h))) (a1:Option B) :
  ∀(r y:List Nd),r.reverse++y=ns->∀b4 b5 b6:Option B,∃(fl:Bool) (c4 c5 c6:Option B),V6 (B1 4) (db self) (r.map Nd.d) [‹G0 w h l0›,a1,‹.list (Nd.gls w h (Q8 w h ns) r.length y)›,‹.bool (!y.any fun m=>m.cvr w h)›,b4,b5,b6]=some (.nx [‹G0 w h l0›,a1,‹.list (Nd.gls w h (Q8 w h ns) 0 ns)›,‹.bool fl›,c4,c5,c6])
 | [],y,e,b4,b5,b6=>by
  rw[List.reverse_nil,xna]at e
  subst e
  exact⟨_,b4,b5,b6,rfl⟩
 | n::r,y,e,b4,b5,b6=>by
  have e2:r.reverse++(n::y)=ns:=by rw[← e];simp
  have hn:n∈ns:=by rw[← e2];simp
  have sub:∀d∈Nd.gls w h (Q8 w h ns) (r.length+1) y,True:=fun _ _=>trivial
  have ly:(Nd.gls w h (Q8 w h ns) (r.length+1) y).length<=1000:=by
   have a:=(gls_sub w h y (Q8 w h ns) (r.length+1)).1
   have b:=congrArg (fun l=>(Nd.nmss l).length) e2
   simp only[P3,Nd.nmss,List.length_append]at b
   omega
  have lg:(n.gl w h).length<=1000:=by
   have a:=(aZ4 w h n).1
   have b:=al9 hn
   omega
  have hj:=cr9 w h r.reverse y n
  rw[e2,List.length_reverse]at hj
  have one:∃a5 a6,db self (dn w h l0 a1 (Nd.gls w h (Q8 w h ns) (r.length+1) y) (!y.any fun m=>m.cvr w h) n b5 b6)=some (.nx (dn w h l0 a1 (Nd.gls w h (Q8 w h ns) r.length (n::y)) (!(n::y).any fun m=>m.cvr w h) n a5 a6)):=by
   have g1:Nd.gls w h (Q8 w h ns) r.length (n::y)=(if(!(!y.any fun m=>m.cvr w h) || n.nth w h)=true then [n.nm] else n.gl w h)++Nd.gls w h (Q8 w h ns) (r.length+1) y:=by rw[Nd.gls,hj,Bool.not_not]
   have g2:(!(n::y).any fun m=>m.cvr w h)=((!y.any fun m=>m.cvr w h) && !n.cvr w h):=by rw[List.any_cons,Bool.not_or,Bool.and_comm]
   rw[g1,g2]
   cases hm:n.mn with
   | some m=>exact bE1 W l0 hm (T.ok n hn) (T.dp n hn) (T.wg n hn) self _ _ a1 b5 b6 ly lg (H n hn)
   | none =>
    cases n with
    | tone nm rr s sh =>
     have c0:Nd.cvr w h (.tone nm rr s sh)=false:=rfl
     have g0:Nd.gl w h (.tone nm rr s sh)=[]:=by rw[Nd.gl]
     rw[c0,g0,xnf,Bool.and_true]
     exact⟨_,_,bE0 l0 self _ _ a1 b5 b6 ly⟩
    | layer=>cases hm
    | group=>cases hm
  obtain⟨a5,a6,one⟩:=one
  obtain⟨fl,c4,c5,c6,ih⟩:=aS4 W l0 self T hN H a1 r (n::y) e2 (‹n.d›) a5 a6
  refine⟨fl,c4,c5,c6,?_⟩
  rw[xmc,V6,List.length_cons]
  show((db self (dn w h l0 a1 (Nd.gls w h (Q8 w h ns) (r.length+1) y) (!y.any fun m=>m.cvr w h) n b5 b6)).bind _)=_
  rw[one]
  exact ih
theorem ci7{w h:Nat}(W:Fits w h) (l0:List Nd):∀(k:Nat) (ns:List Nd) (f:Nat),Nd.dps ns<=k->k<=3->k+1<=f->Nd.Oks ns->Nd.wgs ns<=800->ns.length<=1000->(Nd.nmss ns).length<=1000->S6 f [G0 w h l0,↥ns]=some (.list (Nd.gls w h (Q8 w h ns) 0 ns)):=by
 have step:∀(ns:List Nd) (f:Nat),Tame ns->(Nd.nmss ns).length<=1000->(∀n∈ns,n.isG=true->S6 f [G0 w h l0,↥n.inn]=some (.list (n.gl w h)))->S6 (f+1) [G0 w h l0,↥ns]=some (.list (Nd.gls w h (Q8 w h ns) 0 ns)):=fun ns f T hN H=>by
  refine C3 (g:=bi2 (S6 f)) (ρ:=[‹G0 w h l0›,‹↥ns›,none,none,none,none,none]) rfl ?_
  obtain⟨fl,c4,c5,c6,e⟩:=aS4 W l0 (S6 f) T hN H (‹↥ns›) ns.reverse [] (by rw[List.reverse_reverse,List.append_nil]) none none none
  have s0:(B0 2 (P0 A2)) [‹G0 w h l0›,‹↥ns›,none,none,none,none,none]=some (.nx [‹G0 w h l0›,‹↥ns›,‹.list []›,none,none,none,none]):=rfl
  have s1:(B0 3 (dC (.bool true))) [‹G0 w h l0›,‹↥ns›,‹.list []›,none,none,none,none]=some (.nx [‹G0 w h l0›,‹↥ns›,‹.list []›,‹.bool true›,none,none,none]):=rfl
  have s2:(P9 (L7 (bh0 (A1 1))) (B1 4) (db (S6 f))) [‹G0 w h l0›,‹↥ns›,‹.list []›,‹.bool true›,none,none,none]=some (.nx [‹G0 w h l0›,‹↥ns›,‹.list (Nd.gls w h (Q8 w h ns) 0 ns)›,‹.bool fl›,c4,c5,c6]):=by
   rw[Nd.gls,List.map_reverse,← P5]at e
   exact e
  have s3:(A9 (A1 2)) [‹G0 w h l0›,‹↥ns›,‹.list (Nd.gls w h (Q8 w h ns) 0 ns)›,‹.bool fl›,c4,c5,c6]=some (.rt (.list (Nd.gls w h (Q8 w h ns) 0 ns))):=rfl
  exact(D5 s0).trans ((D5 s1).trans ((D5 s2).trans s3))
 intro k
 induction k with
 | zero =>
  intro ns f hd hk hf o hw hl hN
  obtain⟨f,rfl⟩:∃g,f=g+1:=⟨f - 1,by omega⟩
  refine step ns f (au1 o (by omega) hw hl) hN fun n hn g=>?_
  have:=T1 hn
  cases n with
  | layer=>cases g
  | tone=>cases g
  | group=>rw[Nd.dp]at this;omega
 | succ k ih =>
  intro ns f hd hk hf o hw hl hN
  obtain⟨f,rfl⟩:∃g,f=g+1:=⟨f - 1,by omega⟩
  have T:=au1 o (by omega) hw hl
  refine step ns f T hN fun n hn g=>?_
  have h1:=T1 hn
  have h3:=T.wg n hn
  have h4:=T.ok n hn
  have h5:n.nms.length<=(Nd.nmss ns).length:=al9 hn
  cases n with
  | layer=>cases g
  | tone=>cases g
  | group nm m s sh ns' =>
   rw[Nd.dp]at h1
   rw[Nd.wg]at h3
   rw[Nd.Ok]at h4
   rw[Nd.nms,List.length_cons]at h5
   have h6:=bx7 ns'
   rw[Nd.gl]
   exact ih ns' f (by omega) (by omega) (by omega) h4.2 (by omega) (by omega) (by omega)
theorem bg1{d:D}{K:List D}(hd:V9 d) (hK:∀x∈K,V9 x):inD true d (.list K)=some (.bool (!inK K d)):=by
 have e:=bB3 hd hK
 obtain⟨s,rfl,_⟩:=hd
 have fl:K.all U2=true:=List.all_eq_true.mpr fun x hx=>by obtain⟨t,rfl,_⟩:=hK x hx;rfl
 have e1:inD false (.str s) (.list K)=some (.bool (inV (toV (.str s)) (K.map toV))):=by
  show(if U2 (.str s)=true/\K.all U2=true then some (PyData.bool (if false=true then !inV (toV (.str s)) (K.map toV) else inV (toV (.str s)) (K.map toV))) else none)=_
  rw[if_pos ⟨rfl,fl⟩];rfl
 rw[e1]at e
 have e2:=PyData.bool.inj (Option.some.inj e)
 show(if U2 (.str s)=true/\K.all U2=true then some (PyData.bool (if true=true then !inV (toV (.str s)) (K.map toV) else inV (toV (.str s)) (K.map toV))) else none)=_
 rw[if_pos ⟨rfl,fl⟩,if_pos rfl,e2]
def lb(self:List D->Option D):DS:=(sIf (U0 (tB2 (inD true) (dIx (A5 3) ⇑1) (A1 1)) (tB2 eqD (dIx (A5 3) ⇑0) (dC (.str "group")))) (O9 2 (A4 C0 (u8 (A1 3) N6 (L4 ⇑5)) (D4 (A0 (A3 self (A0 (dIx (A5 3) ⇑5) (A0 (A1 1) A2))) A2)))) (sIf (tB2 (inD true) (dIx (A5 3) ⇑1) (A1 1)) (O9 2 (A1 3)) G7))
theorem ap6{K:List D}(hK:∀x∈K,V9 x) (self:List D->Option D):∀(l:List Nd) (X:List D) (a0 a3:Option B),(∀n∈l,V9 n.nm)->X.length+l.length<=1000->(∀n∈l,∀nm' m s sh ns,n=.group nm' m s sh ns->self [↥ns,.list K]=some ↥(Nd.wks K ns)) ->
  ∃a3',V6 (B1 3) (lb self) (Nd.ds l) [a0,‹.list K›,some (.own X),a3]=some (.nx [a0,‹.list K›,some (.own (X++Nd.ds (Nd.wks K l))),a3'])
 | [],X,a0,a3,_,_,_=>⟨a3,by rw[Nd.wks,Nd.ds,List.append_nil];rfl⟩
 | n::l,X,a0,a3,hs,hl,H=>by
  have hi:=bg1 (hs n (List.mem_cons_self ..)) hK
  rw[List.length_cons]at hl
  have hx:X.length < 16777216:=by omega
  rw[Nd.ds,Nd.wks]
  cases q:inK K n.nm with
  | true =>
   rw[q]at hi
   obtain⟨a3',e⟩:=ap6 hK self l X a0 (‹n.d›) (fun x hx=>hs x (xmm _ hx)) (by omega) (fun x hx=>H x (xmm _ hx))
   refine⟨a3',?_⟩
   have b:lb self [a0,‹.list K›,some (.own X),‹n.d›]=some (.nx [a0,‹.list K›,some (.own X),‹n.d›]):=by
    cases n with
    | layer=>rw[Nd.nm]at hi;rw[Nd.d];wp_walk using evD,lb,af0,hi
    | tone=>rw[Nd.nm]at hi;rw[Nd.d];wp_walk using evD,lb,ac0,hi
    | group=>rw[Nd.nm]at hi;rw[Nd.d];wp_walk using evD,lb,af1,hi
   simp only[V6,B1,xw0,xw1,xbs,b,if_true]
   exact e
  | false =>
   rw[q]at hi
   obtain⟨a3',e⟩:=ap6 hK self l (X++[(n.wk K).d]) a0 (‹n.d›) (fun x hx=>hs x (xmm _ hx)) (by rw[List.length_append];show X.length+1+l.length<=1000;omega) (fun x hx=>H x (xmm _ hx))
   refine⟨a3',?_⟩
   have b:lb self [a0,‹.list K›,some (.own X),‹n.d›]=some (.nx [a0,‹.list K›,some (.own (X++[(n.wk K).d])),‹n.d›]):=by
    cases n with
    | layer=>rw[Nd.wk];rw[Nd.nm]at hi;rw[Nd.d];wp_walk using evD,lb,v8,af0,hi,aS3,O9,if_pos hx
    | tone=>rw[Nd.wk];rw[Nd.nm]at hi;rw[Nd.d];wp_walk using evD,lb,ac1,ac0,hi,e_tg,O9,if_pos hx
    | group nm' m s sh ns =>
     have e1:=H _ (List.mem_cons_self ..) nm' m s sh ns rfl
     rw[Nd.wk]
     rw[Nd.nm]at hi
     rw[Nd.d,Nd.d]
     have sl:u8 (A1 3) N6 (L4 ⇑5) [a0,‹.list K›,some (.own X),‹.tuple [.str "group", nm',.str m.s,fr s,.bool sh,↥ns]›]=some (.tuple [.str "group", nm',.str m.s,fr s,.bool sh]):=rfl
     have ct:∀y:D,C0 (.tuple [.str "group", nm',.str m.s,fr s,.bool sh]) (.tuple [y])=some (.tuple [.str "group", nm',.str m.s,fr s,.bool sh,y]):=fun y=>rfl
     wp_walk using evD,lb,m7,af1,ab9,hi,bm5,O9,if_pos hx,sl,e1,ct
   simp only[V6,B1,xw0,xw1,xbs,b,xft,if_false,Nd.ds]
   rw[List.append_assoc]at e
   exact e
theorem bN2{K:List D}(hK:∀x∈K,V9 x):∀(k:Nat) (l:List Nd) (f:Nat),Nd.dps l<=k->k+1<=f->l.length<=1000->Nd.thins l->(∀d∈Nd.nmss l,V9 d)->W3 f [↥l,.list K]=some ↥(Nd.wks K l):=by
 have step:∀(l:List Nd) (f:Nat),l.length<=1000->(∀d∈Nd.nmss l,V9 d)->(∀n∈l,∀nm' m s sh ns,n=.group nm' m s sh ns->W3 f [↥ns,.list K]=some ↥(Nd.wks K ns))->W3 (f+1) [↥l,.list K]=some ↥(Nd.wks K l):=fun l f hl hs H=>by
  obtain⟨a3',e⟩:=ap6 hK (W3 f) l [] (‹↥l›) none (bw3 hs) (by simpa using hl) H
  refine C3 (g:=aU8 (W3 f)) (ρ:=[‹↥l›,‹.list K›,none,none]) rfl ?_
  have s1:(P9 (L7 (A1 0)) (B1 3) (lb (W3 f))) [‹↥l›,‹.list K›,some (.own []),none]=some (.nx [‹↥l›,‹.list K›,some (.own ([]++Nd.ds (Nd.wks K l))),a3']):=e
  exact(D5 (ρ':=[‹↥l›,‹.list K›,some (.own []),none]) rfl).trans ((D5 s1).trans rfl)
 intro k
 induction k with
 | zero =>
  intro l f hd hf hl ht hs
  obtain⟨f,rfl⟩:∃g,f=g+1:=⟨f - 1,by omega⟩
  refine step l f hl hs fun n hn' nm' m s sh ns e=>?_
  have:=T1 hn'
  rw[e,Nd.dp]at this;omega
 | succ k ih =>
  intro l f hd hf hl ht hs
  obtain⟨f,rfl⟩:∃g,f=g+1:=⟨f - 1,by omega⟩
  refine step l f hl hs fun n hn' nm' m s sh ns e=>?_
  have h1:=T1 hn'
  have h2:=(Q9 l).mp ht n hn'
  rw[e,Nd.dp]at h1
  rw[e,Nd.thin]at h2
  exact ih ns f (by omega) (by omega) h2.1 h2.2 fun d hd'=>hs d (aJ5 hn' (by rw[e,Nd.nms];exact xmm _ hd'))
mutual
theorem cl5:∀n:Nd,n.wk []=n
 | .layer ..=>by rw[Nd.wk]
 | .tone ..=>by rw[Nd.wk]
 | .group nm m s sh ns=>by rw[Nd.wk,wks_no ns]
theorem wks_no:∀l:List Nd,Nd.wks [] l=l
 | []=>by rw[Nd.wks]
 | n::r=>by rw[Nd.wks,if_neg (by rw[bB4 (by simp)];simp),cl5 n,wks_no r]
end
theorem be0{w h:Nat}{l:List Nd}(gd:Nd.dps l<=3) (gn:(Nd.nmss l).length<=1000) (hs:∀d∈Nd.nmss l,V9 d) {A Z:List D}{x:Str}(hA:∀d∈A,d∈Nd.nmss l) (hx:V9 (.str x)) (hl:x.length<=1000) (ha:x.cps.all (· < 1114112)=true) (hn:(.str x:D)∉Nd.nmss l) :
  n5 [G0 w h l,.list (A ++ .str x::Z)]=some (.bool true):=by
 have e1:=ar5 (w:=w) (h:=h) gd gn
 have lp:∀(A':List D) (a3:Option B),(∀d∈A',d∈Nd.nmss l)->∃ρ1,ar3 (B1 3) (sIf (tB2 (inD true) (A1 3) (A1 2)) K0 G7) (rIf (tB2 (inD true) (A1 3) (A1 2)) (ae1 "NoName" (at8 Str.empty [dC (.str "no node has the name "),dRp (A1 3)])) rNo) (A' ++ .str x::Z) [‹G0 w h l›,‹.list (A ++ .str x::Z)›,‹.list (Nd.nmss l)›,a3]=some (("NoName" : Str),ρ1):=by
  intro A'
  induction A' with
  | nil =>
   intro a3 _
   have i:=bg1 hx hs
   rw[bB4 hn]at i
   have t:tB2 (inD true) (A1 3) (A1 2) [‹G0 w h l›,‹.list (A ++ .str x::Z)›,‹.list (Nd.nmss l)›,‹.str x›]=some true:=by wp_walk using evD,i
   have fs:∃d,at8 Str.empty [dC (.str "no node has the name "),dRp (A1 3)] [‹G0 w h l›,‹.list (A ++ .str x::Z)›,‹.list (Nd.nmss l)›,‹.str x›]=some d:=by
    have rp:dRp (A1 3) [‹G0 w h l›,‹.list (A ++ .str x::Z)›,‹.list (Nd.nmss l)›,‹.str x›]=some (.str (reprText x)):=by
     show(if x.length<=1000/\x.cps.all (· < 1114112)=true then some (PyData.str (reprText x)) else none)=_
     rw[if_pos ⟨hl,ha⟩]
    have ln:(reprText x).length<=10002:=by
     refine Nat.le_trans (PySem.StrLaws.reprText_len x fun z hz=>?_) (by omega)
     rw[← Array.all_toList,List.all_eq_true]at ha
     have:=of_decide_eq_true (ha z hz)
     omega
    have l1:((Str.empty++("no node has the name " : Str))++reprText x).length<=16777216:=by
     have:((Str.empty++("no node has the name " : Str))++reprText x).length=(Str.empty++("no node has the name " : Str)).length+(reprText x).length:=Array.size_append ..
     have k:(Str.empty++("no node has the name " : Str)).length=21:=by decide +kernel
     omega
    have l0:(Str.empty++("no node has the name " : Str)).length<=16777216:=by
     have k:(Str.empty++("no node has the name " : Str)).length=21:=by decide +kernel
     omega
    exact⟨.str ((Str.empty++("no node has the name " : Str))++reprText x),by simp only[at8,dC,rp,xbs,if_pos l0,if_pos l1]⟩
   obtain⟨d,fs⟩:=fs
   refine⟨[‹G0 w h l›,‹.list (A ++ .str x::Z)›,‹.list (Nd.nmss l)›,‹.str x›],?_⟩
   have rr:rIf (tB2 (inD true) (A1 3) (A1 2)) (ae1 "NoName" (at8 Str.empty [dC (.str "no node has the name "),dRp (A1 3)])) rNo [‹G0 w h l›,‹.list (A ++ .str x::Z)›,‹.list (Nd.nmss l)›,‹.str x›]=some (("NoName" : Str),[‹G0 w h l›,‹.list (A ++ .str x::Z)›,‹.list (Nd.nmss l)›,‹.str x›]):=by simp only[rIf,t,xbs,if_true,ae1,fs,xms]
   rw[xna,ar3]
   simp only[B1,xw0,xw1,xbs,rr]
  | cons d A' ih =>
   intro a3 hA'
   obtain⟨ρ1,e⟩:=ih (‹d›) fun y hy=>hA' y (xmm _ hy)
   refine⟨ρ1,?_⟩
   have i:=bB0 (hA' d (List.mem_cons_self ..)) hs
   have t:tB2 (inD true) (A1 3) (A1 2) [‹G0 w h l›,‹.list (A ++ .str x::Z)›,‹.list (Nd.nmss l)›,‹d›]=some false:=by wp_walk using evD,i
   rw[xca,ar3]
   have rr:rIf (tB2 (inD true) (A1 3) (A1 2)) (ae1 "NoName" (at8 Str.empty [dC (.str "no node has the name "),dRp (A1 3)])) rNo [‹G0 w h l›,‹.list (A ++ .str x::Z)›,‹.list (Nd.nmss l)›,‹d›]=none:=by simp only[rIf,t,xbs,xft,if_false,rNo]
   have ff:(sIf (tB2 (inD true) (A1 3) (A1 2)) K0 G7) [‹G0 w h l›,‹.list (A ++ .str x::Z)›,‹.list (Nd.nmss l)›,‹d›]=some (.nx [‹G0 w h l›,‹.list (A ++ .str x::Z)›,‹.list (Nd.nmss l)›,‹d›]):=by simp only[sIf,t,xbs,xft,if_false,G7]
   simp only[B1,xw0,xw1,xbs,rr,ff]
   exact e
 obtain⟨ρ1,e2⟩:=lp A none hA
 have rw0:W7 [G0 w h l,.list (A ++ .str x::Z)]=some (("NoName" : Str)):=by
  have st:(B0 2 (A3 h9 (A0 (A1 0) A2))) [‹G0 w h l›,‹.list (A ++ .str x::Z)›,none,none]=some (.nx [‹G0 w h l›,‹.list (A ++ .str x::Z)›,‹.list (Nd.nmss l)›,none]):=by wp_walk using evD,e1
  have ef:bJ5 (L7 (A1 1)) (B1 3) (sIf (tB2 (inD true) (A1 3) (A1 2)) K0 G7) (rIf (tB2 (inD true) (A1 3) (A1 2)) (ae1 "NoName" (at8 Str.empty [dC (.str "no node has the name "),dRp (A1 3)])) rNo) [‹G0 w h l›,‹.list (A ++ .str x::Z)›,‹.list (Nd.nmss l)›,none]=some (("NoName" : Str),ρ1):=e2
  have st0:y9 4 [G0 w h l,.list (A ++ .str x::Z)]=[‹G0 w h l›,‹.list (A ++ .str x::Z)›,none,none]:=rfl
  unfold W7 bJ3
  rw[st0]
  simp only[bj8,rNo,st,ef,xms]
 refine C3 (ρ:=[‹G0 w h l›,‹.list (A ++ .str x::Z)›,none,none]) rfl ?_
 have rc:ar2 ["NoName"] (aD7 W7 (A0 (A1 0) (A0 (A1 1) A2))) [‹G0 w h l›,‹.list (A ++ .str x::Z)›,none,none]=some (("NoName" : Str),[‹G0 w h l›,‹.list (A ++ .str x::Z)›,none,none]):=by
  have c:aD7 W7 (A0 (A1 0) (A0 (A1 1) A2)) [‹G0 w h l›,‹.list (A ++ .str x::Z)›,none,none]=some (("NoName" : Str),[‹G0 w h l›,‹.list (A ++ .str x::Z)›,none,none]):=by simp only[aD7,A0,A2,A1,xg0,xg1,xbs,xms,rw0]
  unfold ar2
  rw[c]
  rfl
 unfold as0
 refine aX0 ?_
 unfold aO5
 rw[rc]
 rfl
theorem au5{d:D}(h:V9 d) (n:Nat):Ly n d:=by
 obtain⟨s,rfl,o⟩:=h
 exact⟨o.ok,Nat.zero_le _⟩
theorem am0{w h:Nat}(W:Fits w h) {l:List Nd}(o:Nd.Oks l) (hd:Nd.dps l<=3) (hw:Nd.wgs l<=800) (hl:l.length<=1000) (ht:Nd.thins l) (hN:(Nd.nmss l).length<=1000):V2 [G0 w h l]=some (.list (Nd.gls w h (Q8 w h l) 0 l)):=by
 have e:=aP7 W l 3 l 12 hd (by decide) (by decide) o hw hl ht hN
 refine C3 (ρ:=[‹G0 w h l›]) rfl ?_
 have p2:dIx (A5 0) ⇑2 [‹G0 w h l›]=some ↥l:=rfl
 simp only[az7,A9,A3,A0,A2,A1,p2,xg0,xbs,xms,e]
theorem bg8{w h:Nat}(W:Fits w h) {l:List Nd}(o:Nd.Oks l) (hd:Nd.dps l<=3) (hw:Nd.wgs l<=800) (hl:l.length<=1000) (hN:(Nd.nmss l).length<=1000):S6 12 [G0 w h l,↥l]=some (.list (Nd.gls w h (Q8 w h l) 0 l)):=ci7 W l 3 l 12 hd (by decide) (by decide) o hw hl hN
theorem aR6{w h:Nat}{l:List Nd}(hs:∀d∈Nd.nmss l,V9 d):neD (.list (Nd.gls w h (Q8 w h l) 0 l)) (.list (Nd.gls w h (Q8 w h l) 0 l))=some (.bool false) :=
 au4 (n:=1) (Ly.lst fun d hd=>au5 (hs d ((gls_sub w h l _ 0).2 d hd)) 0) (by decide)
def qs:Q4:=⟨1,1,0,0⟩
def hf:Rat:=mkRat 1 2
theorem cn6:qs.ok 8:=by
 have o:IsSh 8 (1:Rat):=⟨Bd.one.mono (by decide),Rat.le_refl⟩
 have z:IsSh 8 (0:Rat):=⟨Bd.zero.mono (by decide),by decide⟩
 exact⟨o,o.bd,z.bd,z.bd,Rat.le_refl,by decide,by decide⟩
theorem bT3:Sr 4 (0:Rat):=ar1 ⟨Bd.zero.mono (by decide),by decide⟩
theorem bd7:Sr 4 (1:Rat):=ar1 ⟨Bd.one.mono (by decide),Rat.le_refl⟩
theorem cm9:Sr 4 hf:=ar1 (aO4 (N:=2) (by decide) (by decide) (Dv.of 1 (by decide)) (by decide) (by decide))
def tn(s:Rat):Nd:=.tone (.str "b") .grey s true
def gn:Nd:=.group (.str "b") .over 1 true []
def lyN(nm:D) (m:Man) (s:Rat) (sh:Bool):Nd:=.layer nm m s sh 0 0 none 1 1 [qs] 32
theorem bx6(nm:D) (m:Man) {s:Rat}(sh:Bool) (hs:Sr 4 s):(lyN nm m s sh).Ok:=by
 have d:=bE3 cn6
 unfold lyN
 rw[Nd.Ok]
 exact⟨hs,⟨by decide,by decide,by decide,by decide,rfl,fun q hq=>by rw[List.mem_singleton.mp hq];exact d.ok⟩,fun q hq=>by rw[List.mem_singleton.mp hq];exact d,(fun ms e=>nomatch e),by decide⟩
def N15:List Nd:=[tn 0,tn 1,gn,lyN (.str "b") .over 0 true,lyN (.str "b") .plus 0 true,lyN (.str "b") .over 0 false,lyN (.str "b") .plus 0 false,lyN (.str "b") .over hf true,lyN (.str "b") .plus hf true,lyN (.str "b") .over hf false,lyN (.str "b") .plus hf false,lyN (.str "b") .over 1 true,lyN (.str "b") .plus 1 true,lyN (.str "b") .over 1 false,lyN (.str "b") .plus 1 false]
theorem n15:∀n∈N15,n.Ok/\n.dp<=1/\n.wg<=40/\n.thin/\n.nms=[.str "b"]:=by
 have T:∀s:Rat,Sr 4 s->(tn s).Ok/\(tn s).dp<=1/\(tn s).wg<=40/\(tn s).thin/\(tn s).nms=[.str "b"]:=fun s hs=>by
  unfold tn
  refine⟨by rw[Nd.Ok];exact hs,by rw[Nd.dp];decide,by rw[Nd.wg];decide,by rw[Nd.thin];trivial,by rw[Nd.nms]⟩
 have Y:∀(m:Man) (s:Rat) (sh:Bool),Sr 4 s->(lyN (.str "b") m s sh).Ok/\(lyN (.str "b") m s sh).dp<=1/\(lyN (.str "b") m s sh).wg<=40/\(lyN (.str "b") m s sh).thin/\(lyN (.str "b") m s sh).nms=[.str "b"]:=fun m s sh hs=>by
  refine⟨bx6 _ m sh hs,?_⟩
  unfold lyN
  exact⟨by rw[Nd.dp];decide,by rw[Nd.wg];decide,by rw[Nd.thin];trivial,by rw[Nd.nms]⟩
 have Gg:gn.Ok/\gn.dp<=1/\gn.wg<=40/\gn.thin/\gn.nms=[.str "b"]:=by
  unfold gn
  refine⟨by rw[Nd.Ok,Nd.Oks];exact⟨bd7,trivial⟩,by rw[Nd.dp,Nd.dps];decide,by rw[Nd.wg,Nd.wgs];decide,by rw[Nd.thin,Nd.thins];exact⟨by decide,trivial⟩,by rw[Nd.nms,Nd.nmss]⟩
 intro n hn
 simp only[N15,List.mem_cons,List.not_mem_nil,or_false]at hn
 rcases hn with rfl|rfl|rfl|rfl|rfl|rfl|rfl|rfl|rfl|rfl|rfl|rfl|rfl|rfl|rfl
 ·exact T _ bT3
 ·exact T _ bd7
 ·exact Gg
 all_goals first|exact Y _ _ _ bT3|exact Y _ _ _ cm9|exact Y _ _ _ bd7
theorem known:W4 []=some (.bool true):=by
 have st:∀n∈N15,∃K:List D,V2 [G0 1 1 [lyN (.str "a") .over 1 true,n]]=some (.list K)/\S6 12 [G0 1 1 [lyN (.str "a") .over 1 true,n],.tuple (Nd.ds [lyN (.str "a") .over 1 true,n])]=some (.list K)/\neD (.list K) (.list K)=some (.bool false):=fun n hn=>by
  obtain⟨a1,a2,a3,a4,a5⟩:=n15 n hn
  have W:Fits 1 1:=⟨by decide,by decide,by decide,by decide⟩
  have l1:=bx6 (.str "a") .over true bd7
  have o:Nd.Oks [lyN (.str "a") .over 1 true,n]:=by rw[Nd.Oks,Nd.Oks,Nd.Oks];exact⟨l1,a1,trivial⟩
  have d0:(lyN (.str "a") .over 1 true).dp=0:=by unfold lyN;rw[Nd.dp]
  have w0:(lyN (.str "a") .over 1 true).wg=40:=by unfold lyN;rw[Nd.wg]
  have t0:(lyN (.str "a") .over 1 true).thin:=by unfold lyN;rw[Nd.thin];trivial
  have n0:(lyN (.str "a") .over 1 true).nms=[.str "a"]:=by unfold lyN;rw[Nd.nms]
  have hd:Nd.dps [lyN (.str "a") .over 1 true,n]<=3:=by rw[Nd.dps,Nd.dps,Nd.dps];omega
  have hw:Nd.wgs [lyN (.str "a") .over 1 true,n]<=800:=by rw[Nd.wgs,Nd.wgs,Nd.wgs];omega
  have ht:Nd.thins [lyN (.str "a") .over 1 true,n]:=by rw[Nd.thins,Nd.thins,Nd.thins];exact⟨t0,a4,trivial⟩
  have nn:Nd.nmss [lyN (.str "a") .over 1 true,n]=[.str "a", .str "b"]:=by rw[Nd.nmss,Nd.nmss,Nd.nmss,n0,a5];rfl
  have hN:(Nd.nmss [lyN (.str "a") .over 1 true,n]).length<=1000:=by rw[nn];decide
  refine⟨_,am0 W o hd hw (by show 2<=1000;decide) ht hN,bg8 W o hd hw (by show 2<=1000;decide) hN,aR6 fun d hd'=>?_⟩
  rw[nn]at hd'
  simp only[List.mem_cons,List.not_mem_nil,or_false]at hd'
  rcases hd' with rfl|rfl
  ·exact⟨_,rfl,by unfold SOk;decide +kernel⟩
  ·exact⟨_,rfl,by unfold SOk;decide +kernel⟩
 refine C3 (ρ:=[none,none,none,none,none,none,none]) rfl ?_
 unfold W0
 rw[D5 (ρ':=[‹shD 1 1 [qs]›,none,none,none,none,none,none]) rfl]
 rw[D5 (ρ':=[‹shD 1 1 [qs]›,some (.val (lyN (.str "a") .over 1 true).d),none,none,none,none,none]) (by unfold lyN;rw[Nd.d];rfl)]
 rw[D5 (ρ':=[‹shD 1 1 [qs]›,some (.val (lyN (.str "a") .over 1 true).d),some (.own [(tn 0).d,(tn 1).d]),none,none,none,none]) (by kernel_rfl)]
 rw[D5 (ρ':=[‹shD 1 1 [qs]›,some (.val (lyN (.str "a") .over 1 true).d),some (.own [(tn 0).d,(tn 1).d,gn.d]),none,none,none,none]) (by kernel_rfl)]
 rw[D5 (ρ':=[‹shD 1 1 [qs]›,some (.val (lyN (.str "a") .over 1 true).d),some (.own (N15.map Nd.d)),‹.tuple [.int 1,.int 1]›,‹.bool false›,none,none]) (by kernel_rfl)]
 have e5:∃a5 a6,j9 [‹shD 1 1 [qs]›,some (.val (lyN (.str "a") .over 1 true).d),some (.own (N15.map Nd.d)),‹.tuple [.int 1,.int 1]›,‹.bool false›,none,none]=some (.nx [‹shD 1 1 [qs]›,some (.val (lyN (.str "a") .over 1 true).d),‹.list (N15.map Nd.d)›,‹.tuple [.int 1,.int 1]›,‹.bool false›,a5,a6]):=by
  obtain⟨ρ',e,a5,a6,rfl⟩:=ay1 (g:=B1 5) (f:=(A6 (B0 6 (D4 (A0 ⇑1 (A0 ⇑1 (A0 (D4 (A0 (A1 1) (A0 (A1 5) A2))) A2))))) (sIf (tB2 neD (A3 V2 (A0 (A1 6) A2)) (A3 (S6 12) (A0 (A1 6) (A0 (dIx (A5 6) ⇑2) A2)))) (A9 (dC (.bool false))) G7)))
   (I:=fun ρ=>∃a5 a6,ρ=[‹shD 1 1 [qs]›,some (.val (lyN (.str "a") .over 1 true).d),‹.list (N15.map Nd.d)›,‹.tuple [.int 1,.int 1]›,‹.bool false›,a5,a6]) (N15.map Nd.d) [‹shD 1 1 [qs]›,some (.val (lyN (.str "a") .over 1 true).d),‹.list (N15.map Nd.d)›,‹.tuple [.int 1,.int 1]›,‹.bool false›,none,none] ⟨none,none,rfl⟩ (fun x hx ρ hρ=>by
   obtain⟨a5,a6,rfl⟩:=hρ
   obtain⟨n,hn,rfl⟩:=List.mem_map.mp hx
   obtain⟨K,k1,k2,k3⟩:=st n hn
   refine⟨_,rfl,[‹shD 1 1 [qs]›,some (.val (lyN (.str "a") .over 1 true).d),‹.list (N15.map Nd.d)›,‹.tuple [.int 1,.int 1]›,‹.bool false›,‹n.d›,‹G0 1 1 [lyN (.str "a") .over 1 true,n]›],?_,_,_,rfl⟩
   have pd:G0 1 1 [lyN (.str "a") .over 1 true,n]=.tuple [.int 1,.int 1,.tuple [(lyN (.str "a") .over 1 true).d,n.d]]:=by
    unfold G0
    rw[Nd.ds,Nd.ds,Nd.ds]
    rfl
   have dd:Nd.ds [lyN (.str "a") .over 1 true,n]=[(lyN (.str "a") .over 1 true).d,n.d]:=by rw[Nd.ds,Nd.ds,Nd.ds]
   rw[dd]at k2
   rw[pd]at k1 k2 ⊢
   wp_walk using evD,B1,aC5,k1,k2,k3)
  exact⟨a5,a6,e⟩
 obtain⟨a5,a6,e5⟩:=e5
 rw[D5 e5]
 rfl
theorem ix1(n:Nd):∃ds:List D,n.d=.tuple ds/\atI ds 1=some n.nm:=by cases n<;>exact⟨_,by rw[Nd.d],rfl⟩
theorem bk8(x:D) {n:Nat}(h1:1<=n) (h2:n<=1000):L6 (.tuple [x]) (.int n)=some (.tuple (List.replicate n x)):=by
 show(if(n:Int)=1 then some (PyData.tuple [x]) else S8 (.tuple [x]) (.int n))=_
 by_cases e:n=1
 ·subst e;rfl
 ·rw[if_neg (by omega)]
  show(if([x]:List D).isEmpty=false/\2<=(n:Int)/\(n:Int) < 1000000/\([x]:List D).length*((n:Int)).toNat<=16777216 then some (PyData.tuple (List.replicate ((n:Int)).toNat [x]).flatten) else none)=_
  rw[Int.toNat_natCast,if_pos ⟨rfl,by omega,by omega,by show 1*n<=_;omega⟩,Sh.Z3]
def Lq(nm:D) (q:Q4):Nd:=.layer nm .over 1 true (-1) (-1) none 8 8 (List.replicate 64 q) 32
theorem ct4(nm:D) {q:Q4}(h:q.ok 8):(Lq nm q).Ok:=by
 have d:=bE3 h
 have m:∀p∈List.replicate 64 q,p=q:=fun p hp=>(List.mem_replicate.mp hp).2
 exact⟨ca5,⟨by decide,by decide,by decide,by decide,List.length_replicate,fun p hp=>by rw[m p hp];exact d.ok⟩,fun p hp=>by rw[m p hp];exact d,(fun ms e=>nomatch e),by decide⟩
mutual
theorem bw5:∀n:Nd,n.near->n.thin->n.off
 | .layer ..,o,_=>by rw[Nd.near]at o;rw[Nd.off];omega
 | .tone ..,_,_=>by rw[Nd.off];trivial
 | .group nm m s sh ns,o,t=>by
  rw[Nd.near]at o;rw[Nd.thin]at t;rw[Nd.off]
  exact⟨t.1,nears_off ns o t.2⟩
theorem nears_off:∀l:List Nd,Nd.nears l->Nd.thins l->Nd.offs l
 | [],_,_=>by rw[Nd.offs];trivial
 | n::r,o,t=>by
  rw[Nd.nears]at o;rw[Nd.thins]at t;rw[Nd.offs]
  exact⟨bw5 n o.1 t.1,nears_off r o.2 t.2⟩
end
theorem bM5{d:D}(h:Nm d):V9 d:=by
 obtain⟨s,e,o,_⟩:=h
 exact⟨s,e,o⟩
structure Good (l:List Nd):Prop where
 ok:Nd.Oks l
 wg:Nd.wgs l<=400
 dp:Nd.dps l<=3
 len:l.length<=100
 th:Nd.thins l
 off:Nd.offs l
 nm:∀d∈Nd.nmss l,Nm d
 nd:(Nd.nmss l).Nodup
 nl:(Nd.nmss l).length<=1000
theorem Good.hs{l:List Nd}(g:Good l):∀d∈Nd.nmss l,V9 d:=fun d hd=>bM5 (g.nm d hd)
theorem bf4(r:Rat):Ly 1 (fr r):=Ly.tup fun x hx=>by
 simp only[List.mem_cons,List.not_mem_nil,or_false]at hx
 rcases hx with rfl|rfl<;>exact Ly.int _ _
theorem bx5(m:Man) (n:Nat):Ly n (.str m.s):=⟨by cases m<;>decide +kernel,Nat.zero_le _⟩
theorem cc3{nm:D}{m:Man}{s:Rat}{sh:Bool}{lf tp:Int}{mk:Option (List Rat)}{w h:Nat}{l:List Q4}{kb:Nat}(hn:V9 nm):Ly 5 (Nd.d (.layer nm m s sh lf tp mk w h l kb)):=by
 rw[Nd.d]
 refine Ly.tup fun x hx=>?_
 simp only[List.mem_cons,List.not_mem_nil,or_false]at hx
 rcases hx with rfl|rfl|rfl|rfl|rfl|rfl|rfl|rfl|rfl
 ·exact⟨by decide +kernel,Nat.zero_le _⟩
 ·exact au5 hn _
 ·exact bx5 m _
 ·exact(bf4 s).mono (by decide)
 ·exact⟨rfl,Nat.zero_le _⟩
 ·exact Ly.int _ _
 ·exact Ly.int _ _
 ·cases mk with
  | none=>exact⟨rfl,Nat.zero_le _⟩
  | some ms =>
   refine Ly.mono (m:=2) (Ly.tup fun x hx=>?_) (by decide)
   obtain⟨r,_,rfl⟩:=List.mem_map.mp hx
   exact bf4 r
 ·exact Ly.sheet w h l
theorem cc2(r:Rul) (n:Nat):Ly n (.str r.s):=⟨by cases r<;>decide +kernel,Nat.zero_le _⟩
mutual
theorem cq0:∀n:Nd,(∀d∈n.nms,V9 d)->Ly (5+2*n.dp) n.d
 | .layer nm m s sh lf tp mk w h l kb,hs=>(cc3 (hs nm (by rw[Nd.nms];simp))).mono (by omega)
 | .tone nm r s sh,hs=>by
  rw[Nd.d,Nd.dp]
  refine Ly.tup fun x hx=>?_
  simp only[List.mem_cons,List.not_mem_nil,or_false]at hx
  rcases hx with rfl|rfl|rfl|rfl|rfl
  ·exact⟨by decide +kernel,Nat.zero_le _⟩
  ·exact au5 (hs _ (by rw[Nd.nms];simp)) _
  ·exact cc2 r _
  ·exact(bf4 s).mono (by decide)
  ·exact⟨rfl,Nat.zero_le _⟩
 | .group nm m s sh ns,hs=>by
  rw[Nd.nms]at hs
  have i:=ly_nds ns fun d hd=>hs d (xmm _ hd)
  rw[Nd.d,Nd.dp]
  refine Ly.mono (m:=6+2*Nd.dps ns+1) (Ly.tup fun x hx=>?_) (by omega)
  simp only[List.mem_cons,List.not_mem_nil,or_false]at hx
  rcases hx with rfl|rfl|rfl|rfl|rfl|rfl
  ·exact⟨by decide +kernel,Nat.zero_le _⟩
  ·exact au5 (hs _ (List.mem_cons_self ..)) _
  ·exact bx5 m _
  ·exact(bf4 s).mono (by omega)
  ·exact⟨rfl,Nat.zero_le _⟩
  ·exact⟨i.1,by show PyData.depthAll (Nd.ds ns)+1<=_;omega⟩
theorem ly_nds:∀l:List Nd,(∀d∈Nd.nmss l,V9 d)->PyData.canLayAll0 (Nd.ds l)=true/\PyData.depthAll (Nd.ds l)<=5+2*Nd.dps l
 | [],_=>by rw[Nd.ds];exact⟨rfl,Nat.zero_le _⟩
 | n::r,hs=>by
  rw[Nd.nmss]at hs
  obtain⟨i1,i2⟩:=cq0 n fun d hd=>hs d (List.mem_append_left _ hd)
  obtain⟨j1,j2⟩:=ly_nds r fun d hd=>hs d (List.mem_append_right _ hd)
  rw[Nd.ds,Nd.dps]
  refine⟨?_,?_⟩
  ·show(PyData.canLay0 n.d&&PyData.canLayAll0 (Nd.ds r))=true
   rw[i1,j1];rfl
  ·show max (PyData.depth n.d) (PyData.depthAll (Nd.ds r))<=_
   omega
end
theorem bx4{w h:Nat}{l:List Nd}(hs:∀d∈Nd.nmss l,V9 d):Ly (7+2*Nd.dps l) (G0 w h l):=by
 have i:=ly_nds l hs
 unfold G0
 refine Ly.mono (m:=6+2*Nd.dps l+1) (Ly.tup fun x hx=>?_) (by omega)
 simp only[List.mem_cons,List.not_mem_nil,or_false]at hx
 rcases hx with rfl|rfl|rfl
 ·exact Ly.int _ _
 ·exact Ly.int _ _
 ·exact⟨i.1,by show PyData.depthAll (Nd.ds l)+1<=_;omega⟩
abbrev en(ns:List Int) (N:List D) (w h:Nat) (l:List Nd) (r6 r7 r8 r9 r10:Option B):Rho:=[‹scr ns›,‹.list N›,‹G0 w h l›,‹.int w›,‹.int h›,‹↥l›,r6,r7,r8,r9,r10]
theorem bh3(ns:List Int) (hn:ns.length<=63) (l:List Nd):∀(P:List D) (a b:Option B),(∀p∈P,∃(k:Nat) (n:Nd),k < 1000/\p=.tuple [.int k,n.d]/\n.nm∈Nd.nmss l) ->
  ∃S:List D,R4 (M6 2 (C2 (B1 0) (C2 (B1 1) N4))) (tB2 eqD (A3 A7 (A0 (A1 2) (A0 (A4 C0 ⇑820 (A1 0)) (A0 ⇑3 A2)))) ⇑0) (dIx (A5 1) ⇑1) P [a,b,‹scr ns›]=some S/\S.length<=P.length/\∀d∈S,d∈Nd.nmss l
 | [],a,b,_=>⟨[],rfl,Nat.le_refl _,fun d hd=>absurd hd (by simp)⟩
 | p::P,a,b,H=>by
  obtain⟨k,n,hk,rfl,hm⟩:=H p (List.mem_cons_self ..)
  obtain⟨S,e,hl,hS⟩:=bh3 ns hn l P (‹.int k›) (‹n.d›) fun q hq=>H q (xmm _ hq)
  obtain⟨d,ed,_⟩:=L9 ns hn (e:=820+(k:Int)) (m':=3) (820+k) 3 (by omega) rfl (by omega) (by decide)
  obtain⟨ds,en',ei⟩:=ix1 n
  have c:(tB2 eqD (A3 A7 (A0 (A1 2) (A0 (A4 C0 ⇑820 (A1 0)) (A0 ⇑3 A2)))) ⇑0) [‹.int k›,‹n.d›,‹scr ns›]=some ((d:Int)==0):=by wp_walk using evD,ed
  have x:dIx (A5 1) ⇑1 [‹.int k›,‹n.d›,‹scr ns›]=some n.nm:=by rw[en'];wp_walk using evD,ei
  have s:(M6 2 (C2 (B1 0) (C2 (B1 1) N4))) (.tuple [.int k,n.d]) [a,b,‹scr ns›]=some [‹.int k›,‹n.d›,‹scr ns›]:=rfl
  cases q:((d:Int)==0) with
  | true =>
   refine⟨n.nm::S,?_,by rw[List.length_cons,List.length_cons];omega,fun d hd=>?_⟩
   ·rw[R4,s,xbs,c,q,xbs,if_pos rfl,x,xbs,e];rfl
   ·rcases List.mem_cons.mp hd with z|z
    ·rw[z];exact hm
    ·exact hS d z
  | false =>
   refine⟨S,?_,by rw[List.length_cons];omega,hS⟩
   rw[R4,s,xbs,c,q,xbs,if_neg (by simp),e]
theorem bd8(ns:List Int) (hn:ns.length<=63) (N:List D) {w h:Nat}(W:Fits w h) {l:List Nd}(g:Good l) (r6 r7 r8:Option B):(A6 aH8 (A6 aH7 (A6 aH6 (A6 aH5 (A6 aH4 aH3))))) (en ns N w h l r6 r7 r8 none none)=some (.rt (.bool true)):=by
 have gw:=g.wg
 have gd:=g.dp
 have gl:=g.len
 have gn:=g.nl
 have hs:=g.hs
 obtain⟨K,hK⟩:∃K,K=Nd.gls w h (Q8 w h l) 0 l:=⟨_,rfl⟩
 have e4:V2 [G0 w h l]=some (.list K):=by rw[hK];exact am0 W g.ok gd (by omega) (by omega) g.th gn
 have e6:S6 12 [G0 w h l,↥l]=some (.list K):=by rw[hK];exact bg8 W g.ok gd (by omega) (by omega) gn
 have k6:neD (.list K) (.list K)=some (.bool false):=by rw[hK];exact aR6 hs
 have t4:aH8 (en ns N w h l r6 r7 r8 none none)=some (.nx (en ns N w h l r6 r7 r8 none none)):=by wp_walk using evD,aH8,en,known
 have t5:aH7 (en ns N w h l r6 r7 r8 none none)=some (.nx (en ns N w h l r6 r7 r8 (‹.list K›) none)):=by wp_walk using evD,aH7,en,e4
 have t6:aH6 (en ns N w h l r6 r7 r8 (‹.list K›) none)=some (.nx (en ns N w h l r6 r7 r8 (‹.list K›) none)):=by wp_walk using evD,aH6,en,e6,k6
 obtain⟨X,eX,lX,hX⟩:=cj7 3 l 12 (by omega) (by decide) (by omega)
 have c7:∃S:List D,aH5 (en ns N w h l r6 r7 r8 (‹.list K›) none)=some (.nx (en ns N w h l r6 r7 r8 (‹.list K›) (‹.list S›)))/\S.length<=1000/\∀d∈S,d∈Nd.nmss l:=by
  obtain⟨S,e,h1,h2⟩:=bh3 ns hn l (Y4 X) none none fun p hp=>by
   obtain⟨i,hi⟩:=List.mem_iff_getElem?.mp hp
   rw[ae8]at hi
   cases q:X[i]? with
   | none=>rw[q]at hi;exact nomatch hi
   | some d =>
    rw[q]at hi
    obtain⟨a,n,b,ed,st⟩:=hX d (List.mem_of_getElem? q)
    have hi':i < X.length:=(List.getElem?_eq_some_iff.mp q).1
    refine⟨i,n,by omega,?_,st.props.sub _ ?_⟩
    ·rw[← ed];exact(Option.some.inj hi).symm
    ·rw[P3,Nd.nmss]
     refine List.mem_append_right _ (List.mem_append_left _ ?_)
     cases n<;>rw[Nd.nm,Nd.nms]<;>simp
  rw[V7]at h1
  refine⟨S,?_,by omega,h2⟩
  have src:(am7 (qE (A3 (U6 12) (A0 (A1 5) A2)))) (en ns N w h l r6 r7 r8 (‹.list K›) none)=some (Y4 X):=by wp_walk using evD,en,am7,eX
  have cc:G8 2 [0] (am7 (qE (A3 (U6 12) (A0 (A1 5) A2)))) (M6 2 (C2 (B1 0) (C2 (B1 1) N4))) (tB2 eqD (A3 A7 (A0 (A1 2) (A0 (A4 C0 ⇑820 (A1 0)) (A0 ⇑3 A2)))) ⇑0) (dIx (A5 1) ⇑1) (en ns N w h l r6 r7 r8 (‹.list K›) none)=some S:=by
   unfold G8
   rw[src,xbs,if_pos (by rw[V7];omega)]
   exact e
  unfold aH5 V3
  rw[cc]
  rfl
 obtain⟨S,t7,lS,hS⟩:=c7
 have SS:∀d∈S,V9 d:=fun d hd=>hs d (hS d hd)
 have f1:=aN9 (w:=w) (h:=h) hS hs gd gn (by omega) g.th
 have f2:=bN2 SS 3 l 12 gd (by decide) (by omega) g.th hs
 have f3:x5 [G0 w h l,.list []]=some (G0 w h l):=by
  have:=aN9 (w:=w) (h:=h) (K:=[]) (fun d hd=>absurd hd (by simp)) hs gd gn (by omega) g.th
  rwa [wks_no]at this
 obtain⟨p1,p2,p3,p4,p5,p6⟩:=wks_props (K:=S) l
 obtain⟨n1,n2⟩:=wks_nms (K:=S) l
 have z1:neD (G0 w h (Nd.wks S l)) (G0 w h (Nd.wks S l))=some (.bool false):=au4 (bx4 fun d hd=>hs d (n1.subset hd)) (by omega)
 have z2:neD (G0 w h l) (G0 w h l)=some (.bool false):=au4 (bx4 hs) (by omega)
 have t8:aH4 (en ns N w h l r6 r7 r8 (‹.list K›) (‹.list S›))=some (.nx (en ns N w h l r6 r7 r8 (‹.list K›) (‹.list S›))):=by
  have z1':neD (G0 w h (Nd.wks S l)) (.tuple [.int w,.int h,↥(Nd.wks S l)])=some (.bool false):=z1
  wp_walk using evD,aH4,en,f1,f2,f3,z1',z2
 have low:∀s:Str,(.str s:D)∈Nd.nmss l->1<=s.length/\s.length<=6:=fun s hd=>by
  obtain⟨y,e,_,a,b⟩:=g.nm _ hd
  cases e
  exact⟨a,b⟩
 have sk:∀x:Str,SOk x->x.cps.all (· < 1114112)=true:=fun x hx=>by
  rw[← Array.all_toList,List.all_eq_true]
  intro c hc
  have:=hx c hc
  exact decide_eq_true (by omega)
 have o7:SOk ("zzzzzzz" : Str):=by unfold SOk;decide +kernel
 have o0:SOk ("" : Str):=by unfold SOk;decide +kernel
 have l7:("zzzzzzz" : Str).length=7:=by decide +kernel
 have l0:("" : Str).length=0:=by decide +kernel
 have r1:=be0 (w:=w) (h:=h) (A:=S) (Z:=[]) (x := "zzzzzzz") gd gn hs hS ⟨_,rfl,o7⟩ (by omega) (sk _ o7) fun z=>by have:=low _ z;omega
 have r2:=be0 (w:=w) (h:=h) (A:=[]) (Z:=S) (x := "") gd gn hs (fun d hd=>absurd hd (by simp)) ⟨_,rfl,o0⟩ (by omega) (sk _ o0) fun z=>by have:=low _ z;omega
 rw[xna]at r2
 have k1:C0 (.str "zzzzzz") (.str "z")=some (.str "zzzzzzz"):=by kernel_rfl
 have k2:C0 (.list S) (.list [.str "zzzzzzz"])=some (.list (S++[.str "zzzzzzz"])):=by
  show(if S.length+1<=16777216 then some (PyData.list (S++[.str "zzzzzzz"])) else none)=_
  rw[if_pos (by omega)]
 have k3:C0 (.list [.str ""]) (.list S)=some (.list (.str "" :: S)):=by
  show(if 1+S.length<=16777216 then some (PyData.list ([.str ""]++S)) else none)=_
  rw[if_pos (by omega)];rfl
 have t9:aH3 (en ns N w h l r6 r7 r8 (‹.list K›) (‹.list S›))=some (.rt (.bool true)):=by wp_walk using evD,aH3,en,k1,k2,k3,r1,r2
 rw[D5 t4,D5 t5,D5 t6,D5 t7,D5 t8]
 exact t9
theorem main:∀ns:List Int,ns.length<=63->bi3 [.list (ns.map PyData.int)]=some (.bool true):=by
 intro ns hn
 obtain⟨N,eN,hN,b,hP⟩:=bx0 ns hn 0 7 (by decide) (by decide)
 have eN:ag7 [scr ns,.int 0,.int 7]=some (.list N):=eN
 obtain⟨w,h,l,ep,hl,hw,hh⟩:=aX5 ns hn 30 4 (by decide) (by decide) N (by omega)
 have ep:n8 [scr ns,.int 30,.int 4,.list N]=some (G0 w h l):=ep
 have w1:=hw.1
 have w8:w<=8:=by omega
 have h1:=hh.1
 have h8:h<=8:=by omega
 have W:Fits w h:=⟨w1,w8,h1,h8⟩
 obtain⟨is,q1_ix,q2,q3⟩:=hl.ix
 have nmv:∀j,j < 7->∃y,N.getD j .none=.str (nmS b j y)/\SOk y/\y.length<=4:=fun j hj=>by
  obtain⟨y,e1,e2⟩:=hP j hj
  exact⟨y,by rw[List.getD_eq_getElem?_getD,e1];rfl,e2⟩
 have lw:=hl.wg
 have ld:=hl.dp
 have ll:=hl.len
 have nm7:∀j,j < 7->Nm (N.getD j .none):=fun j hj=>by
  obtain⟨y,e1,e2,e3⟩:=nmv j hj
  have z:(nmS b j y).length=y.length+1:=by
   have lc:(ltr j).cps.size=1:=rfl
   cases b
   ·show(y.cps++(ltr j).cps).size=_
    rw[Array.size_append,lc];rfl
   ·show((ltr j).cps++y.cps).size=_
    rw[Array.size_append,lc,Nat.add_comm];rfl
  exact⟨_,e1,bM7 b (by omega) e2,by omega,by omega⟩
 have g:Good l:=by
  refine⟨hl.ok,by omega,by omega,by omega,hl.th,nears_off l hl.nr hl.th,fun d hd=>?_,?_,?_⟩
  ·rw[q1_ix]at hd
   obtain⟨j,hj,rfl⟩:=List.mem_map.mp hd
   exact nm7 j (by have:=q3 j hj;omega)
  ·rw[q1_ix]
   refine List.pairwise_map.mpr (List.Pairwise.imp_of_mem (fun{i j} hi hj ne e=>?_) q2)
   obtain⟨y,e1,_⟩:=nmv i (by have:=q3 i hi;omega)
   obtain⟨z,e2,_⟩:=nmv j (by have:=q3 j hj;omega)
   rw[e1,e2]at e
   exact ne (be9 (PyData.str.inj e))
  ·rw[q1_ix,List.length_map]
   have:=List.Nodup.length_le_of_subset (l₂:=List.range 7) q2 fun j hj=>List.mem_range.mpr (by have:=q3 j hj;omega)
   rw[List.length_range]at this;omega
 obtain⟨q,eq,oq⟩:=aN2 ns 800 hn (by decide)
 have eq:U3 [scr ns,.int 800]=some (.tuple [fr q.c,fr q.x,fr q.y,fr q.z]):=eq
 obtain⟨q1,hq1⟩:∃q1:Q4,q1=⟨1,q.x,q.y,q.z⟩:=⟨_,rfl⟩
 have o1:q1.ok 8:=by
  rw[hq1]
  exact⟨⟨Bd.one.mono (by decide),Rat.le_refl⟩,oq.hx,oq.hy,oq.hz,Rat.le_trans oq.xc oq.hc.le,Rat.le_trans oq.yc oq.hc.le,Rat.le_trans oq.zc oq.hc.le⟩
 obtain⟨n6,at6,hg6⟩:∃n6,atI N 6=some n6/\N.getD 6 .none=n6:=⟨N[6]'(by omega),by unfold atI;rw[ap7 (by decide) (by omega)];exact List.getElem?_eq_getElem (by show 6 < N.length;omega),by rw[List.getD_eq_getElem?_getD,List.getElem?_eq_getElem (show 6 < N.length by omega)];rfl⟩
 have f6:n6∉Nd.nmss l:=fun z=>by
  rw[q1_ix]at z
  obtain⟨j,hj,e⟩:=List.mem_map.mp z
  have hj6:=q3 j hj
  obtain⟨y,e1,_⟩:=nmv j (by omega)
  obtain⟨z,e2,_⟩:=nmv 6 (by decide)
  rw[← hg6,e1,e2]at e
  have:=be9 (PyData.str.inj e)
  omega
 obtain⟨d7,e7,l7⟩:=L9 ns hn (e:=27) (m':=2) 27 2 rfl rfl (by decide) (by decide)
 obtain⟨dk,ek,lk⟩:=L9 ns hn (e:=28) (m':=(((Nd.ds l).length:Nat):Int)+1) 28 (l.length+1) rfl (by rw[P5,List.length_map];omega) (by decide) (by omega)
 refine C3 (ρ:=[‹scr ns›,none,none,none,none,none,none,none,none,none,none]) rfl ?_
 have t0:aW5 [‹scr ns›,none,none,none,none,none,none,none,none,none,none]=some (.nx [‹scr ns›,‹.list N›,none,none,none,none,none,none,none,none,none]):=by wp_walk using evD,aW5,eN
 have t1:aW4 [‹scr ns›,‹.list N›,none,none,none,none,none,none,none,none,none]=some (.nx [‹scr ns›,‹.list N›,‹G0 w h l›,none,none,none,none,none,none,none,none]):=by wp_walk using evD,aW4,ep
 have t2:aW3 [‹scr ns›,‹.list N›,‹G0 w h l›,none,none,none,none,none,none,none,none]=some (.nx (en ns N w h l none none none none none)):=by
  wp_walk using evD,aW3,en,G0
  rfl
 unfold bV1
 rw[D5 t0,D5 t1,D5 t2]
 by_cases z7:d7=0
 ·subst z7
  have cd:(tB2 eqD (A3 A7 (A0 (A1 0) (A0 ⇑27 (A0 ⇑2 A2)))) ⇑0) (en ns N w h l none none none none none)=some true:=by
   wp_walk using evD,en,e7
   rfl
  obtain⟨l2,hl2⟩:∃l2,l2=l.take dk++Lq n6 q1::l.drop dk:=⟨_,rfl⟩
  have tk:=List.take_append_drop dk l
  have ra:L6 (.tuple [q1.d]) (.int 64)=some (.tuple (List.replicate 64 q1.d)):=bk8 q1.d (n:=64) (by decide) (by decide)
  have lD:(Lq n6 q1).d=.tuple [.str "layer", n6,.str "over", .tuple [.int 1,.int 1],.bool true,.int (-1),.int (-1),.none,.tuple [.int 8,.int 8,.tuple (List.replicate 64 q1.d)]]:=by
   unfold Lq
   rw[Nd.d]
   show PyData.tuple [_,n6,_,_,_,_,_,_,.tuple [.int 8,.int 8,.tuple ((List.replicate 64 q1).map Q4.d)]]=_
   rw[List.map_replicate];rfl
  have cut:∀a b c d:D,ab3 [a,b,c,d] (some 1) none=[b,c,d]:=fun _ _ _ _=>rfl
  have ct:∀a b c d:D,C0 (.tuple [a]) (.tuple [b,c,d])=some (.tuple [a,b,c,d]):=fun _ _ _ _=>rfl
  have dq1:q1.d=.tuple [.tuple [.int 1,.int 1],fr q.x,fr q.y,fr q.z]:=by rw[hq1];rfl
  have u0:(B0 6 (A4 L6 (D4 (A0 (A4 C0 (D4 (A0 (D4 (A0 ⇑1 (A0 ⇑1 A2))) A2)) (u8 (A3 U3 (A0 (A1 0) (A0 ⇑800 A2))) (L4 ⇑1) N6)) A2)) ⇑64)) (en ns N w h l none none none none none)=some (.nx [‹scr ns›,‹.list N›,‹G0 w h l›,‹.int w›,‹.int h›,‹↥l›,‹.tuple (List.replicate 64 q1.d)›,none,none,none,none]):=by
   have:=ra
   rw[dq1]at this
   rw[dq1]
   wp_walk using evD,en,eq,u8,cut,ct,this
  have u1:(B0 7 (A3 A7 (A0 (A1 0) (A0 ⇑28 (A0 (A4 C0 (V5 (A5 5)) ⇑1) A2))))) [‹scr ns›,‹.list N›,‹G0 w h l›,‹.int w›,‹.int h›,‹↥l›,‹.tuple (List.replicate 64 q1.d)›,none,none,none,none]=some (.nx [‹scr ns›,‹.list N›,‹G0 w h l›,‹.int w›,‹.int h›,‹↥l›,‹.tuple (List.replicate 64 q1.d)›,‹.int dk›,none,none,none]):=by wp_walk using evD,ek
  have u2:(B0 8 (D4 (A0 (dC (.str "layer")) (A0 (dIx (A5 1) ⇑6) (A0 (dC (.str "over")) (A0 (D4 (A0 ⇑1 (A0 ⇑1 A2))) (A0 (dC (.bool true)) (A0 (at7 ⇑1) (A0 (at7 ⇑1) (A0 (dC .none) (A0 (D4 (A0 ⇑8 (A0 ⇑8 (A0 (A1 6) A2)))) A2))))))))))) [‹scr ns›,‹.list N›,‹G0 w h l›,‹.int w›,‹.int h›,‹↥l›,‹.tuple (List.replicate 64 q1.d)›,‹.int dk›,none,none,none]=some (.nx [‹scr ns›,‹.list N›,‹G0 w h l›,‹.int w›,‹.int h›,‹↥l›,‹.tuple (List.replicate 64 q1.d)›,‹.int dk›,some (.val (Lq n6 q1).d),none,none]):=by
   rw[lD]
   have i6:dIx (A5 1) ⇑6 [‹scr ns›,‹.list N›,‹G0 w h l›,‹.int w›,‹.int h›,‹↥l›,‹.tuple (List.replicate 64 q1.d)›,‹.int dk›,none,none,none]=some n6:=by wp_walk using evD,at6
   have ng:at7 ⇑1 [‹scr ns›,‹.list N›,‹G0 w h l›,‹.int w›,‹.int h›,‹↥l›,‹.tuple (List.replicate 64 q1.d)›,‹.int dk›,none,none,none]=some (.int (-1)):=rfl
   have v6:A1 6 [‹scr ns›,‹.list N›,‹G0 w h l›,‹.int w›,‹.int h›,‹↥l›,‹.tuple (List.replicate 64 q1.d)›,‹.int dk›,none,none,none]=some (.tuple (List.replicate 64 q1.d)):=rfl
   simp only[B0,D4,A0,A2,i6,ng,v6,dC,xbs,xms]
   rfl
  have u3:(B0 5 (A4 C0 (A4 C0 (u8 (A1 5) N6 (L4 (A1 7))) (D4 (A0 (A1 8) A2))) (u8 (A1 5) (L4 (A1 7)) N6))) [‹scr ns›,‹.list N›,‹G0 w h l›,‹.int w›,‹.int h›,‹↥l›,‹.tuple (List.replicate 64 q1.d)›,‹.int dk›,some (.val (Lq n6 q1).d),none,none]=some (.nx [‹scr ns›,‹.list N›,‹G0 w h l›,‹.int w›,‹.int h›,‹↥l2›,‹.tuple (List.replicate 64 q1.d)›,‹.int dk›,some (.val (Lq n6 q1).d),none,none]):=by
   have k1:C0 ↥(l.take dk) (.tuple [(Lq n6 q1).d])=some ↥(l.take dk++[Lq n6 q1]):=by
    have:=bF9 (l.take dk) [Lq n6 q1] (by rw[List.length_take];simp;omega)
    rwa [show Nd.ds [Lq n6 q1]=[(Lq n6 q1).d] by rw[Nd.ds,Nd.ds]]at this
   have k2:C0 ↥(l.take dk++[Lq n6 q1]) ↥(l.drop dk)=some ↥l2:=by
    have:=bF9 (l.take dk++[Lq n6 q1]) (l.drop dk) (by rw[List.length_append,List.length_take,List.length_drop];simp;omega)
    rwa [show l.take dk++[Lq n6 q1]++l.drop dk=l2 by rw[hl2];simp]at this
   wp_walk using evD,u8,bF4,bF5,k1,k2
  have u4:(B0 2 (D4 (A0 (A1 3) (A0 (A1 4) (A0 (A1 5) A2))))) [‹scr ns›,‹.list N›,‹G0 w h l›,‹.int w›,‹.int h›,‹↥l2›,‹.tuple (List.replicate 64 q1.d)›,‹.int dk›,some (.val (Lq n6 q1).d),none,none]=some (.nx [‹scr ns›,‹.list N›,‹G0 w h l2›,‹.int w›,‹.int h›,‹↥l2›,‹.tuple (List.replicate 64 q1.d)›,‹.int dk›,some (.val (Lq n6 q1).d),none,none]):=by
   wp_walk using evD
   rfl
  have t3:aH9 (en ns N w h l none none none none none)=some (.nx (en ns N w h l2 (‹.tuple (List.replicate 64 q1.d)›) (‹.int dk›) (some (.val (Lq n6 q1).d)) none none)):=by
   show sIf (tB2 eqD (A3 A7 (A0 (A1 0) (A0 ⇑27 (A0 ⇑2 A2)))) ⇑0) (A6 (B0 6 (A4 L6 (D4 (A0 (A4 C0 (D4 (A0 (D4 (A0 ⇑1 (A0 ⇑1 A2))) A2)) (u8 (A3 U3 (A0 (A1 0) (A0 ⇑800 A2))) (L4 ⇑1) N6)) A2)) ⇑64)) (A6 (B0 7 (A3 A7 (A0 (A1 0) (A0 ⇑28 (A0 (A4 C0 (V5 (A5 5)) ⇑1) A2))))) (A6 (B0 8 (D4 (A0 (dC (.str "layer")) (A0 (dIx (A5 1) ⇑6) (A0 (dC (.str "over")) (A0 (D4 (A0 ⇑1 (A0 ⇑1 A2))) (A0 (dC (.bool true)) (A0 (at7 ⇑1) (A0 (at7 ⇑1) (A0 (dC .none) (A0 (D4 (A0 ⇑8 (A0 ⇑8 (A0 (A1 6) A2)))) A2))))))))))) (A6 (B0 5 (A4 C0 (A4 C0 (u8 (A1 5) N6 (L4 (A1 7))) (D4 (A0 (A1 8) A2))) (u8 (A1 5) (L4 (A1 7)) N6))) (B0 2 (D4 (A0 (A1 3) (A0 (A1 4) (A0 (A1 5) A2))))))))) G7 (en ns N w h l none none none none none)=_
   unfold sIf
   rw[cd,xbs,if_pos rfl,D5 u0,D5 u1,D5 u2,D5 u3]
   exact u4
  rw[D5 t3]
  refine bd8 ns hn N W ?_ _ _ _
  have oL:=ct4 n6 o1
  have nL:(Lq n6 q1).nms=[n6]:=by unfold Lq;rw[Nd.nms]
  have wL:(Lq n6 q1).wg=40:=by unfold Lq;rw[Nd.wg]
  have dL:(Lq n6 q1).dp=0:=by unfold Lq;rw[Nd.dp]
  have ww:=congrArg Nd.wgs tk
  have dd:=congrArg Nd.dps tk
  have nn:=congrArg Nd.nmss tk
  rw[S3]at ww
  rw[X1]at dd
  rw[P3]at nn
  have mem:∀n∈l2,n∈l\/n=Lq n6 q1:=fun n hn=>by
   rw[hl2]at hn
   rcases List.mem_append.mp hn with z|z
   ·exact .inl (List.mem_of_mem_take z)
   ·rcases List.mem_cons.mp z with z|z
    ·exact .inr z
    ·exact .inl (List.mem_of_mem_drop z)
  have n2:List.Perm (Nd.nmss l2) (n6::Nd.nmss l):=by
   rw[hl2,P3,Nd.nmss,nL,← nn]
   exact List.perm_middle
  refine⟨(X0 _).mpr fun n hn=>?_,by rw[hl2,S3,Nd.wgs,wL];omega,by rw[hl2,X1,Nd.dps,dL];omega,by rw[hl2,List.length_append,List.length_cons,List.length_take,List.length_drop];omega,(Q9 _).mpr fun n hn=>?_,(aw9 _).mpr fun n hn=>?_,fun d hd=>?_,n2.nodup_iff.mpr (List.nodup_cons.mpr ⟨f6,g.nd⟩),by rw[n2.length_eq,List.length_cons];have:=q1_ix;have:=List.Nodup.length_le_of_subset (l₂:=List.range 7) q2 fun j hj=>List.mem_range.mpr (by have:=q3 j hj;omega);rw[q1_ix,List.length_map];rw[List.length_range]at this;omega⟩
  ·rcases mem n hn with z|z
   ·exact(X0 l).mp hl.ok n z
   ·rw[z];exact oL
  ·rcases mem n hn with z|z
   ·exact(Q9 l).mp hl.th n z
   ·rw[z];unfold Lq;rw[Nd.thin];trivial
  ·rcases mem n hn with z|z
   ·exact(aw9 l).mp g.off n z
   ·rw[z];unfold Lq;rw[Nd.off];omega
  ·rcases List.mem_cons.mp (n2.mem_iff.mp hd) with z|z
   ·rw[z,← hg6];exact nm7 6 (by decide)
   ·exact g.nm d z
 ·have z:((d7:Int)==0)=false:=beq_eq_false_iff_ne.mpr (by omega)
  have t3:aH9 (en ns N w h l none none none none none)=some (.nx (en ns N w h l none none none none none)):=by wp_walk using evD,aH9,en,e7,z
  rw[D5 t3]
  exact bd8 ns hn N W g _ _ _
end Lk40
namespace Lk40
open PySem PySem.Spec PyProof.Rows L2 G Sh
def zcs:List (Str×D):=[("ONE", (.tuple [(.int 1),(.int 1)])),("CLEAR", (.tuple [(.tuple [(.int 0),(.int 1)]),(.tuple [(.int 0),(.int 1)]),(.tuple [(.int 0),(.int 1)]),(.tuple [(.int 0),(.int 1)])])),("THIRD", (.tuple [(.int 1),(.int 3)]))]
def zbl:List Str:=["ValueError", "all", "enumerate", "int", "isinstance", "len", "list", "range", "reversed", "tuple", "zip"]
def tb0:Tab:=[]
def zcl:List Str:=["NoName"]
def ztb:List (Str×List (Str×Bool)):=[("NoMerge", [("NoName", false)]),("NoName", [("NoName", true)]),("NoText", [("NoName", false)]),("ValueError", [("NoName", true)])]
def zsb:List (Str×List Str):=[("GlazeError", ["NoName"])]
def znb:List (Str×List Str):=[("GlazeError", [])]
def zT(rt:bb7) (xt:bG8):Rg:=⟨rt,zcl,ztb,zsb,znb,xt⟩
def rt0:bb7:=[]
def xt0:bG8:=[]
def aq0:Fd:=fdm "common_divisor" (top 7) 2 ["one", "other", "left_over"] true
def aL3:Fd:=fdm "least_form" (top 8) 2 ["top", "under", "divisor"] true
def aL4:Fd:=fdm "is_at_most" (top 9) 2 ["one", "other"] true
def bR8:Fd:=fdm "added" (top 10) 2 ["one", "other"] true
def ba3:Fd:=fdm "lessened" (top 11) 2 ["one", "other"] true
def bR4:Fd:=fdm "times" (top 12) 2 ["one", "other"] true
def bm8:Fd:=fdm "rest_of" (top 13) 1 ["share"] true
def aC2:Fd:=fdm "at_most_one" (top 14) 1 ["fraction"] true
def bo0:Fd:=fdm "kind_of" (top 16) 1 ["node"]
def ba5:Fd:=fdm "is_layer" (top 17) 1 ["node"]
def ba6:Fd:=fdm "is_group" (top 18) 1 ["node"]
def bo1:Fd:=fdm "is_tone" (top 19) 1 ["node"]
def bm9:Fd:=fdm "name_of" (top 20) 1 ["node"]
def aS8:Fd:=fdm "manner_of" (top 21) 1 ["node"]
def bm7:Fd:=fdm "rule_of" (top 22) 1 ["tone"]
def aB7:Fd:=fdm "strength_of" (top 23) 1 ["node"]
def ba4:Fd:=fdm "is_shown" (top 24) 1 ["node"]
def bn1:Fd:=fdm "left_of" (top 25) 1 ["layer"]
def bE4:Fd:=fdm "top_of" (top 26) 1 ["layer"]
def bn0:Fd:=fdm "mask_of" (top 27) 1 ["layer"]
def ba0:Fd:=fdm "sheet_of" (top 28) 1 ["layer"]
def aC1:Fd:=fdm "inner_nodes" (top 29) 1 ["group"]
def aj2:Fd:=fdm "with_inner_nodes" (top 30) 2 ["group", "nodes"]
def aZ8:Fd:={ fdm "weighted" (top 34) 2 ["spot", "share"] true with hc:=[((68,17),[1])] }
def at5:Fd:=fdm "blended_cover" (top 35) 3 ["manner", "c", "d"] true
def aq2:Fd:=fdm "blended_colour" (top 36) 5 ["manner", "c", "d", "x", "y", "through"] true
def bo4:Fd:={ fdm "blended" (top 37) 3 ["manner", "above", "below", "c", "d", "colours"] true with hc:=[((93,14),[0,3,4])] }
def bo2:Fd:=fdm "by_rule" (top 38) 2 ["rule", "spot", "cover", "red", "green", "blue", "mean"] true
def bR5:Fd:=fdm "mixed" (top 39) 3 ["strength", "new", "old"] true
def bR3:Fd:={ fdm "toned" (top 40) 3 ["rule", "spot", "strength"] true with hc:=[((109,17),[2])] }
def aS7:Fd:={ fdm "places_of" (top 42) 2 ["wide", "high"] with hc:=[((112,11),[0])] }
def aT2:Fd:=fdm "has_place" (top 43) 3 ["sheet", "x", "y"]
def an2:Fd:=fdm "number_of_place" (top 44) 3 ["sheet", "x", "y"]
def bm6:Fd:=fdm "spot_at" (top 45) 3 ["sheet", "x", "y"]
def aC0:Fd:=fdm "masked_spot" (top 47) 3 ["layer", "x", "y", "sheet", "mask", "spot"]
def bo3:Fd:=fdm "brought" (top 48) 3 ["node", "x", "y", "spot"]
def aB8:Fd:=fdm "shown_above" (top 49) 4 ["node", "below", "x", "y"]
def aZ9:Fd:=fdm "shown_by" (top 50) 3 ["nodes", "x", "y", "spot", "node"]
def at4:Fd:={ fdm "brought_sheet" (top 51) 2 ["picture", "node", "spots"] with hc:=[((147,12),[1])] }
def aB9:Fd:={ fdm "names_among" (top 53) 1 ["nodes", "names", "node"] with own:=[1],fz:=[(156,[1])] }
def ba2:Fd:=fdm "names_in" (top 54) 1 ["picture"]
def bF3:Fd:=fdm "covers" (top 56) 2 ["picture", "node"]
def aq1:Fd:=fdm "brings_nothing" (top 57) 2 ["picture", "node"]
def at3:Fd:=fdm "highest_cover" (top 58) 2 ["picture", "nodes", "number", "node"]
def ap9:Fd:={ fdm "needless_among" (top 59) 2 ["picture", "nodes", "names", "lowest_seen", "number", "node"] with own:=[2],fz:=[(183,[2])] }
def ba1:Fd:=fdm "needless" (top 60) 1 ["picture"]
def at1:Fd:={ fdm "nodes_without" (top 61) 2 ["nodes", "names", "kept", "node"] with own:=[2] }
def aF1:Fd:=fdm "without" (top 62) 2 ["picture", "names", "known", "name"]
def rt1:bb7:=("without", W7,2)::rt0
def bF2:Fd:=fdm "_law_cell" (top 64) 2 ["_law_script", "_law_k"] true
def bn8:Fd:=fdm "_law_drawn" (top 65) 3 ["_law_script", "_law_k", "_law_many", "_law_cell_here"] true
def bE9:Fd:=fdm "_law_made" (top 66) 2 ["_law_top", "_law_under", "_law_one", "_law_by"] true
def bE8:Fd:=fdm "_law_plus" (top 67) 2 ["_law_one", "_law_other"] true
def bn2:Fd:=fdm "_law_times" (top 68) 2 ["_law_one", "_law_other"] true
def bE7:Fd:=fdm "_law_rest" (top 69) 1 ["_law_one"] true
def bn5:Fd:=fdm "_law_share" (top 70) 2 ["_law_script", "_law_at", "_law_under", "_law_drawn_here"] true
def bE6:Fd:={ fdm "_law_spot" (top 71) 2 ["_law_script", "_law_at", "_law_cover"] true with hc:=[((229,33),[2,0,1])] }
def bn4:Fd:={ fdm "_law_sheet" (top 72) 4 ["_law_script", "_law_at", "_law_wide", "_law_high", "_law_spots"] with hc:=[((231,17),[0,1])] }
def bn9:Fd:={ fdm "_law_blend" (top 73) 3 ["_law_manner", "_law_above", "_law_below", "_law_c", "_law_d", "_law_left_here", "_law_cover", "_law_found", "_law_x", "_law_y", "_law_kept"] true with own:=[7],fz:=[(260,[7])] }
def bE5:Fd:={ fdm "_law_tone" (top 74) 3 ["_law_rule", "_law_spot_here", "_law_strength", "_law_cover", "_law_red", "_law_green", "_law_blue", "_law_third", "_law_ruled", "_law_left_here"] true with hc:=[((266,43),[3]),((270,17),[2,9])] }
def bn7:Fd:={ fdm "_law_names" (top 75) 3 ["_law_script", "_law_at", "_law_many", "_law_is_first", "_law_found", "_law_k", "_law_word"] with own:=[4],tx:=[6],fz:=[(278,[4])],hc:=[((275,28),[0,1,5])] }
def bF1:Fd:={ fdm "_law_leaf" (top 76) 4 ["_law_script", "_law_at", "_law_name", "_law_main", "_law_strength", "_law_is_shown", "_law_manner", "_law_wide", "_law_high", "_law_mask", "_law_left_here", "_law_top", "_law_sheet_here"] with hc:=[((291,26),[0,1])] }
def bn6:Fd:={ fdm "_law_nodes" (top 77) 4 ["_law_script", "_law_at", "_law_most", "_law_names_here", "_law_main", "_law_many", "_law_found", "_law_k", "_law_first", "_law_last", "_law_strength", "_law_manner", "_law_group"] with own:=[6],hc:=[((301,17),[0,4,3,1])] }
def aT0:Fd:=fdm "_law_picture" (top 78) 4 ["_law_script", "_law_at", "_law_most", "_law_names_here", "_law_wide", "_law_high"]
def aT1:Fd:={ fdm "_law_brought" (top 79) 3 ["_law_node", "_law_x", "_law_y", "_law_wide", "_law_high", "_law_spots", "_law_across", "_law_down", "_law_share_here"] with hc:=[((316,21),[0]),((325,17),[8])] }
def bn3:Fd:=fdm "_law_shown" (top 80) 3 ["_law_nodes_here", "_law_x", "_law_y", "_law_found", "_law_node"]
def bR7:Fd:={ fdm "_law_all" (top 82) 1 ["_law_nodes_here", "_law_found", "_law_node"] with own:=[1],fz:=[(343,[1])] }
def at2:Fd:={ fdm "_law_all_brought" (top 83) 2 ["_law_picture_here", "_law_node"] with hc:=[((345,11),[1,0])] }
def bR6:Fd:=fdm "_law_due" (top 84) 2 ["_law_picture_here", "_law_nodes_here", "_law_found", "_law_is_seen", "_law_node", "_law_brought_here", "_law_is_clear"]
def aS9:Fd:=fdm "_law_refused" (top 85) 2 ["_law_picture_here", "_law_names_here", "e", "_law_flags"]
def bF0:Fd:={ fdm "_law_left" (top 86) 2 ["_law_nodes_here", "_law_names_here", "_law_found", "_law_node"] with own:=[2] }
def ay4:Fd:={ fdm "_law_known_ones" (top 87) 0 ["_law_sheet_here", "_law_low", "_law_some", "_law_strength", "_law_shown_here", "_law_node", "_law_picture_here"] with own:=[2],fz:=[(383,[2])],hc:=[((382,36),[3,4,0])] }
def bU7:Fd:={ fdm "law" (top 88) 1 ["_law_script", "_law_names_here", "_law_picture_here", "_law_wide", "_law_high", "_law_nodes_here", "_law_solid", "_law_at", "_law_layer", "_law_told", "_law_some"] with hc:=[((403,16),[0])] }
structure Qs (K:PySem.W.Frag):Prop where
 h_common_divisor:KF K "common_divisor" (top 7)
 h_least_form:KF K "least_form" (top 8)
 h_is_at_most:KF K "is_at_most" (top 9)
 h_added:KF K "added" (top 10)
 h_lessened:KF K "lessened" (top 11)
 h_times:KF K "times" (top 12)
 h_rest_of:KF K "rest_of" (top 13)
 h_at_most_one:KF K "at_most_one" (top 14)
 h_kind_of:KF K "kind_of" (top 16)
 h_is_layer:KF K "is_layer" (top 17)
 h_is_group:KF K "is_group" (top 18)
 h_is_tone:KF K "is_tone" (top 19)
 h_name_of:KF K "name_of" (top 20)
 h_manner_of:KF K "manner_of" (top 21)
 h_rule_of:KF K "rule_of" (top 22)
 h_strength_of:KF K "strength_of" (top 23)
 h_is_shown:KF K "is_shown" (top 24)
 h_left_of:KF K "left_of" (top 25)
 h_top_of:KF K "top_of" (top 26)
 h_mask_of:KF K "mask_of" (top 27)
 h_sheet_of:KF K "sheet_of" (top 28)
 h_inner_nodes:KF K "inner_nodes" (top 29)
 h_with_inner_nodes:KF K "with_inner_nodes" (top 30)
 h_weighted:KF K "weighted" (top 34)
 h_blended_cover:KF K "blended_cover" (top 35)
 h_blended_colour:KF K "blended_colour" (top 36)
 h_blended:KF K "blended" (top 37)
 h_by_rule:KF K "by_rule" (top 38)
 h_mixed:KF K "mixed" (top 39)
 h_toned:KF K "toned" (top 40)
 h_places_of:KF K "places_of" (top 42)
 h_has_place:KF K "has_place" (top 43)
 h_number_of_place:KF K "number_of_place" (top 44)
 h_spot_at:KF K "spot_at" (top 45)
 h_masked_spot:KF K "masked_spot" (top 47)
 h_brought:KF K "brought" (top 48)
 h_shown_above:KF K "shown_above" (top 49)
 h_shown_by:KF K "shown_by" (top 50)
 h_brought_sheet:KF K "brought_sheet" (top 51)
 h_names_among:KF K "names_among" (top 53)
 h_names_in:KF K "names_in" (top 54)
 h_covers:KF K "covers" (top 56)
 h_brings_nothing:KF K "brings_nothing" (top 57)
 h_highest_cover:KF K "highest_cover" (top 58)
 h_needless_among:KF K "needless_among" (top 59)
 h_needless:KF K "needless" (top 60)
 h_nodes_without:KF K "nodes_without" (top 61)
 h_without:KF K "without" (top 62)
 h_l_cell:KF K "_law_cell" (top 64)
 h_l_drawn:KF K "_law_drawn" (top 65)
 h_l_made:KF K "_law_made" (top 66)
 h_l_plus:KF K "_law_plus" (top 67)
 h_l_times:KF K "_law_times" (top 68)
 h_l_rest:KF K "_law_rest" (top 69)
 h_l_share:KF K "_law_share" (top 70)
 h_l_spot:KF K "_law_spot" (top 71)
 h_l_sheet:KF K "_law_sheet" (top 72)
 h_l_blend:KF K "_law_blend" (top 73)
 h_l_tone:KF K "_law_tone" (top 74)
 h_l_names:KF K "_law_names" (top 75)
 h_l_leaf:KF K "_law_leaf" (top 76)
 h_l_nodes:KF K "_law_nodes" (top 77)
 h_l_picture:KF K "_law_picture" (top 78)
 h_l_brought:KF K "_law_brought" (top 79)
 h_l_shown:KF K "_law_shown" (top 80)
 h_l_all:KF K "_law_all" (top 82)
 h_l_all_brought:KF K "_law_all_brought" (top 83)
 h_l_due:KF K "_law_due" (top 84)
 h_l_refused:KF K "_law_refused" (top 85)
 h_l_left:KF K "_law_left" (top 86)
 h_l_known_ones:KF K "_law_known_ones" (top 87)
 h_law:KF K "law" (top 88)
theorem ct7{P:Program}{w:World}{K:PySem.W.Frag}{mg:Str->Option Value}(M:Md K mg zcs zbl) (C:∀rt xt,Cl K mg (zT rt xt)) (q:Qs K):∃tab,rd tab zcs zbl bU7=bi3/\∀base:Heap,TOk P w K mg base 156 tab:=by
 refine⟨?tab,?e,fun base=>?t⟩
 case t =>
  have t:TOk P w K mg base 0 tb0:=TOk.nil
  have r:TRk P w K mg base 0 rt0:=TRk.nil
  have x:TXk P w K mg base 0 xt0:=TXk.nil
  have t:=t.add M aq0 q.h_common_divisor T3
  have t:=t.add M aL3 q.h_least_form W1
  have t:=t.add M aL4 q.h_is_at_most Y9
  have t:=t.add M bR8 q.h_added T5
  have t:=t.add M ba3 q.h_lessened T0
  have t:=t.add M bR4 q.h_times T2
  have t:=t.add M bm8 q.h_rest_of Z0
  have t:=t.add M aC2 q.h_at_most_one X4
  have t:=t.add M bo0 q.h_kind_of ag8
  have t:=t.add M ba5 q.h_is_layer i7
  have t:=t.add M ba6 q.h_is_group P2
  have t:=t.add M bo1 q.h_is_tone O6
  have t:=t.add M bm9 q.h_name_of R3
  have t:=t.add M aS8 q.h_manner_of R5
  have t:=t.add M bm7 q.h_rule_of ag3
  have t:=t.add M aB7 q.h_strength_of N8
  have t:=t.add M ba4 q.h_is_shown Q6
  have t:=t.add M bn1 q.h_left_of x6
  have t:=t.add M bE4 q.h_top_of af3
  have t:=t.add M bn0 q.h_mask_of ag5
  have t:=t.add M ba0 q.h_sheet_of W8
  have t:=t.add M aC1 q.h_inner_nodes K9
  have t:=t.add M aj2 q.h_with_inner_nodes R7
  have t:=t.add M aZ8 q.h_weighted ab6
  have t:=t.add M at5 q.h_blended_cover Y3
  have t:=t.add M aq2 q.h_blended_colour W9
  have t:=t.add M bo4 q.h_blended y6
  have t:=t.add M bo2 q.h_by_rule aq9
  have t:=t.add M bR5 q.h_mixed aN3
  have t:=t.add M bR3 q.h_toned av4
  have t:=t.add M aS7 q.h_places_of X8
  have t:=t.add M aT2 q.h_has_place X9
  have t:=t.add M an2 q.h_number_of_place Q5
  have t:=t.add M bm6 q.h_spot_at aq7
  have t:=t.add M aC0 q.h_masked_spot p7
  have t:=TOk.rec3 t M bo3 aB8 aZ9 q.h_brought q.h_shown_above q.h_shown_by Z2 ai3 g8 12
  have t:=t.add M at4 q.h_brought_sheet Q2
  have t:=TOk.rec t M aB9 q.h_names_among O7 12
  have t:=t.add M ba2 q.h_names_in h9
  have t:=t.add M bF3 q.h_covers ao9
  have t:=t.add M aq1 q.h_brings_nothing T4
  have t:=t.add M at3 q.h_highest_cover U7
  have t:=TOk.rec t M ap9 q.h_needless_among M2 12
  have t:=t.add M ba1 q.h_needless V2
  have t:=TOk.rec t M at1 q.h_nodes_without N3 12
  have t:TOk P w K mg base 89 _:=t
  have r:TRk P w K mg base 90 rt1:=TRk.add (T:=zT rt0 xt0) (r.mono (by decide)) t (x.mono (by decide)) M (C _ _) aF1 q.h_without W7
  have t:=t.add M aF1 q.h_without x5
  have t:=t.add M bF2 q.h_l_cell aA5
  have t:=t.add M bn8 q.h_l_drawn A7
  have t:=t.add M bE9 q.h_l_made U4
  have t:=t.add M bE8 q.h_l_plus M3
  have t:=t.add M bn2 q.h_l_times K1
  have t:=t.add M bE7 q.h_l_rest W2
  have t:=t.add M bn5 q.h_l_share Q1
  have t:=t.add M bE6 q.h_l_spot U3
  have t:=t.add M bn4 q.h_l_sheet ag6
  have t:=t.add M bn9 q.h_l_blend Z1
  have t:=t.add M bE5 q.h_l_tone af4
  have t:=t.add M bn7 q.h_l_names ag7
  have t:=t.add M bF1 q.h_l_leaf x9
  have t:=t.add M bn6 q.h_l_nodes aq8
  have t:=t.add M aT0 q.h_l_picture n8
  have t:=TOk.rec2 t M aT1 bn3 q.h_l_brought q.h_l_shown V4 x8 12
  have t:=TOk.rec t M bR7 q.h_l_all U6 12
  have t:=t.add M at2 q.h_l_all_brought S0
  have t:=TOk.rec t M bR6 q.h_l_due S6 12
  have t:TOk P w K mg base 142 _:=t
  have t:=t.addT (T:=zT rt1 xt0) (r.mono (by decide)) (x.mono (by decide)) M (C _ _) aS9 q.h_l_refused n5
  have t:=TOk.rec t M bF0 q.h_l_left W3 12
  have t:=t.add M ay4 q.h_l_known_ones W4
  exact t
 case e=>kernel_rfl
theorem zmd{K:PySem.W.Frag}{h:Heap}{mg:Str->Option Value}{q0 q1t0 q1t1 q1t2 q1t3 q1 q2:Addr}{y0 y1t0 y1t1 y1t2 y1t3 y1 y2:Array (Option Value)}{g0t0 g0t1 g1t0t0 g1t0t1 g1t1t0 g1t1t1 g1t2t0 g1t2t1 g1t3t0 g1t3t1 g2t0 g2t1:Tok}{n0 n1t0 n1t1 n1t2 n1t3 n1 n2:Nat}(X:K.In h) (G:h.Ns mainGlobals mg) (p0:PySem.W.nsIn K mainGlobals "ONE" = some (some (.ref q0))) (r0:K.lookup q0=some ⟨.type "tuple", none,.seq #[.int 1 g0t0,.int 1 g0t1] n0,y0⟩) (p1:PySem.W.nsIn K mainGlobals "CLEAR" = some (some (.ref q1))) (r1:K.lookup q1=some ⟨.type "tuple", none,.seq #[.ref q1t0,.ref q1t1,.ref q1t2,.ref q1t3] n1,y1⟩) (r1t3:K.lookup q1t3=some ⟨.type "tuple", none,.seq #[.int 0 g1t3t0,.int 1 g1t3t1] n1t3,y1t3⟩) (r1t2:K.lookup q1t2=some ⟨.type "tuple", none,.seq #[.int 0 g1t2t0,.int 1 g1t2t1] n1t2,y1t2⟩) (r1t1:K.lookup q1t1=some ⟨.type "tuple", none,.seq #[.int 0 g1t1t0,.int 1 g1t1t1] n1t1,y1t1⟩) (r1t0:K.lookup q1t0=some ⟨.type "tuple", none,.seq #[.int 0 g1t0t0,.int 1 g1t0t1] n1t0,y1t0⟩) (p2:PySem.W.nsIn K mainGlobals "THIRD" = some (some (.ref q2))) (r2:K.lookup q2=some ⟨.type "tuple", none,.seq #[.int 1 g2t0,.int 3 g2t1] n2,y2⟩) (z0:PySem.W.nsIn K mainGlobals "ValueError" = some none) (z1:PySem.W.nsIn K mainGlobals "all" = some none) (z2:PySem.W.nsIn K mainGlobals "enumerate" = some none) (z3:PySem.W.nsIn K mainGlobals "int" = some none) (z4:PySem.W.nsIn K mainGlobals "isinstance" = some none) (z5:PySem.W.nsIn K mainGlobals "len" = some none) (z6:PySem.W.nsIn K mainGlobals "list" = some none) (z7:PySem.W.nsIn K mainGlobals "range" = some none) (z8:PySem.W.nsIn K mainGlobals "reversed" = some none) (z9:PySem.W.nsIn K mainGlobals "tuple" = some none) (z10:PySem.W.nsIn K mainGlobals "zip" = some none):Md K mg zcs zbl:=by
 refine⟨fun x v e=>PySem.W.mg_of X G e,fun x d e=>?_,fun x e=>?_⟩
 ·unfold zcs at e
  rw[List.lookup_cons]at e
  split at e
  ·rename_i q;cases e;simp only[beq_iff_eq]at q;subst q;exact⟨_,(Z5 r0 rfl rfl rfl (by show 2<=1000;decide) (M4 (R9 1 g0t0) (M4 (R9 1 g0t1) W6))),PySem.W.mg_of X G p0⟩
  rw[List.lookup_cons]at e
  split at e
  ·rename_i q;cases e;simp only[beq_iff_eq]at q;subst q;exact⟨_,(Z5 r1 rfl rfl rfl (by show 4<=1000;decide) (M4 (Z5 r1t0 rfl rfl rfl (by show 2<=1000;decide) (M4 (R9 0 g1t0t0) (M4 (R9 1 g1t0t1) W6))) (M4 (Z5 r1t1 rfl rfl rfl (by show 2<=1000;decide) (M4 (R9 0 g1t1t0) (M4 (R9 1 g1t1t1) W6))) (M4 (Z5 r1t2 rfl rfl rfl (by show 2<=1000;decide) (M4 (R9 0 g1t2t0) (M4 (R9 1 g1t2t1) W6))) (M4 (Z5 r1t3 rfl rfl rfl (by show 2<=1000;decide) (M4 (R9 0 g1t3t0) (M4 (R9 1 g1t3t1) W6))) W6))))),PySem.W.mg_of X G p1⟩
  rw[List.lookup_cons]at e
  split at e
  ·rename_i q;cases e;simp only[beq_iff_eq]at q;subst q;exact⟨_,(Z5 r2 rfl rfl rfl (by show 2<=1000;decide) (M4 (R9 1 g2t0) (M4 (R9 3 g2t1) W6))),PySem.W.mg_of X G p2⟩
  cases e
 ·unfold zbl at e
  simp only[List.contains_cons,List.contains_nil,Bool.or_false,Bool.or_eq_true,beq_iff_eq]at e
  rcases e with e|e|e|e|e|e|e|e|e|e|e
  ·subst e;exact PySem.W.mg_none_of X G z0
  ·subst e;exact PySem.W.mg_none_of X G z1
  ·subst e;exact PySem.W.mg_none_of X G z2
  ·subst e;exact PySem.W.mg_none_of X G z3
  ·subst e;exact PySem.W.mg_none_of X G z4
  ·subst e;exact PySem.W.mg_none_of X G z5
  ·subst e;exact PySem.W.mg_none_of X G z6
  ·subst e;exact PySem.W.mg_none_of X G z7
  ·subst e;exact PySem.W.mg_none_of X G z8
  ·subst e;exact PySem.W.mg_none_of X G z9
  ·subst e;exact PySem.W.mg_none_of X G z10
theorem ck6{l:PySem.W.OpenLaw}{q:Program}{loose:List Str}{XP:(Str->Option Value)->Heap->Prop}{YP:World->Heap->Prop}{d:DefRec}{K:Params->PySem.W.Frag}(hn:l.most=some 63) (hdf:d.params.defaults=[])
  (hY:∀(w:World) (h:Heap),YP w h->(K w.params).In h) (hd:d.name = "law")
  (F:∀(w:World) (mg:Str->Option Value) (h:Heap),(K w.params).In h->h.Ns mainGlobals mg->Md (K w.params) mg zcs zbl)
  (Q:∀w:World,Qs (K w.params)) (B:∀w:World,clB (K w.params) zcl ztb zsb znb=true)
  (M:∀ns:List Int,ns.length<=63->bi3 [.list (ns.map PyData.int)]=some (.bool true)) :
  PySem.W.WalkO q loose XP YP l.row.toRowW d [] (fun f vs=>PySem.call f vs) :=
 L2.bI6 (n:=63) (k:=157) (x := "_law_script") (CX:=fun _=>CX0) (sp:=fun w=>spF (K w.params) 1 bi3) hn (by decide) hdf ⟨rfl,by decide,by decide⟩ hY
  (fun w mg fa h hk hg hm=>by
   have N:=F w mg h hk hg
   have q:=Q w
   rw[hd]at hm
   obtain⟨_,e,t⟩:=ct7 N (fun rt xt=>Cl.of N (by decide +kernel) (B w)) q
   obtain⟨fd,b1,b2⟩:=bN4 N t bU7 q.h_law e hm
   exact⟨fd,b1,fun base _ _=>b2 base⟩)
  (fun w H a ns hl _ hS=>⟨rfl,H,[.list (ns.map PyData.int)],.bool true,L0.refl _,⟨.ref a,[],rfl,⟨a,_,rfl,hS,Reps.ints ns⟩,rfl⟩,M ns hl,fun v H' Hf' g r=>r⟩) fun _ _ _ _ _ z=>z
end Lk40
def PySem.W.Fast.tw12808861442313920171:Unit:=()
def PySem.W.Fast.tw6372886355727652278:Unit:=()
def PySem.W.Fast.tw17268185831739319311:Unit:=()
def PySem.W.Fast.tw2673772322862857323:Unit:=()
def PySem.W.Fast.tw12030143524008885535:Unit:=()
def PySem.W.Fast.tw10263814785383412838:Unit:=()
def PySem.W.Fast.tw16493326060358182779:Unit:=()
def PySem.W.Fast.tw8331062513731190900:Unit:=()
def PySem.W.Fast.tw14877635624004135000:Unit:=()
def PySem.W.Fast.tw4044616010380441338:Unit:=()
def PySem.W.Fast.tw6269580393659045186:Unit:=()
def PySem.W.Fast.tw17342357224910260693:Unit:=()
def PySem.W.Fast.tw4108472843514908381:Unit:=()
def PySem.W.Fast.tw7054939586783422505:Unit:=()
def PySem.W.Fast.tw11049095633499206650:Unit:=()
def PySem.W.Fast.tw14891411710265916592:Unit:=()
def PySem.W.Fast.tw15918158203716280517:Unit:=()
def PySem.W.Fast.tw5943721925533805371:Unit:=()
def PySem.W.Fast.tw18262213053724956971:Unit:=()
def PySem.W.Fast.tw11017358360844438394:Unit:=()
def PySem.W.Fast.tw4327771587526958423:Unit:=()
def PySem.W.Fast.tw3135108678792569456:Unit:=()
def PySem.W.Fast.tw3591640401961219382:Unit:=()
def PySem.W.Fast.tw2144366135617507076:Unit:=()
def PySem.W.Fast.tw8896908558321992342:Unit:=()
def PySem.W.Fast.tw10270568178641730515:Unit:=()
def PySem.W.Fast.tw14710334935034418071:Unit:=()
def PySem.W.Fast.tw3055101214872461481:Unit:=()
def PySem.W.Fast.tw16520081060512238452:Unit:=()
def PySem.W.Fast.tw1484618661824825184:Unit:=()
def PySem.W.Fast.tw7967133967403595808:Unit:=()
def PySem.W.Fast.tw13488702305845228203:Unit:=()
def PySem.W.Fast.tw15592947306407368359:Unit:=()
def PySem.W.Fast.tw12138618334311958572:Unit:=()
def PySem.W.Fast.tw7900907807381271125:Unit:=()
def PySem.W.Fast.tw18023506919078405907:Unit:=()
def PySem.W.Fast.tw1236457743442640525:Unit:=()
def PySem.W.Fast.tw13563294628314210880:Unit:=()
def PySem.W.Fast.tw17114514459547010156:Unit:=()
def PySem.W.Fast.tw10192415038893813393:Unit:=()
def PySem.W.Fast.tw5103397966377915182:Unit:=()
def PySem.W.Fast.tw6139678201174487547:Unit:=()
def PySem.W.Fast.tw2312787740973476520:Unit:=()
def PySem.W.Fast.tw7613904160851523415:Unit:=()
def PySem.W.Fast.tw15799292679164329512:Unit:=()
def PySem.W.Fast.tw14245900926955361229:Unit:=()
def PySem.W.Fast.tw8159692282523607098:Unit:=()
def PySem.W.Fast.tw8875676769607725446:Unit:=()
def PySem.W.Fast.tw3237564346134915611:Unit:=()
def PySem.W.Fast.tw17146506659029414097:Unit:=()
def PySem.W.Fast.tw11128240433044776395:Unit:=()
def PySem.W.Fast.tw9006143412219605737:Unit:=()
def PySem.W.Fast.tw9610275124508458400:Unit:=()
def PySem.W.Fast.tw7482144795744087497:Unit:=()
def PySem.W.Fast.tw3240960257042136004:Unit:=()
def PySem.W.Fast.tw4267898834667056110:Unit:=()
def PySem.W.Fast.tw2975903677100392659:Unit:=()
def PySem.W.Fast.tw4637969240259032322:Unit:=()
def PySem.W.Fast.tw8041591740686077541:Unit:=()
def PySem.W.Fast.tw5525730162636136810:Unit:=()
def PySem.W.Fast.tw14382947891557836385:Unit:=()
def PySem.W.Fast.tw7287232898094202430:Unit:=()
def PySem.W.Fast.tw6263117613400132814:Unit:=()
def PySem.W.Fast.tw7173794944903513302:Unit:=()
def PySem.W.Fast.tw7680464287057586256:Unit:=()
def PySem.W.Fast.tw4030623030125194997:Unit:=()
def PySem.W.Fast.tw13347376199055897813:Unit:=()
def PySem.W.Fast.tw5882698097796791468:Unit:=()
def PySem.W.Fast.tw3843070491070138996:Unit:=()
def PySem.W.Fast.tw4754588562773070542:Unit:=()
def PySem.W.Fast.tw8652586345245020974:Unit:=()
def PySem.W.Fast.tw7710932740697056219:Unit:=()
def PySem.W.Fast.tw13812717319373334788:Unit:=()
def PySem.W.Fast.tw4971982980033849283:Unit:=()
def PySem.W.Fast.tw7115621475489559817:Unit:=()
def PySem.W.Fast.tw4541509388853101960:Unit:=()
def PySem.W.Fast.tw9041118440615978643:Unit:=()
def PySem.W.Fast.tw3558131940411087587:Unit:=()
def PySem.W.Fast.tw11701298743618566653:Unit:=()
def PySem.W.Fast.tw8951871364786701376:Unit:=()
def PySem.W.Fast.tw4984399723216289477:Unit:=()
namespace Lk40
open PySem PySem.W PyProof.Rows
set_option maxHeartbeats 0 in
open_top head for PySem.Challenge.rw_glazework_k40_needless
end Lk40
open PySem PySem.W PyProof.Rows
set_option maxRecDepth 100000 in
set_option maxHeartbeats 0 in
theorem PySem.Challenge.cw_glazework_k40_needless_holds : PySem.Challenge.rw_glazework_k40_needless.Holds := by
 refine Lk40.head ?_
 k_fill
 refine Lk40.ck6 (l:=PySem.Challenge.rw_glazework_k40_needless) rfl rfl (fun w h Y=>PySem.W.kIn_of Y) rfl ?F ?Q ?B Lk40.main
 case F =>
  intro w mg h KX G
  refine' Lk40.zmd KX G ?p0 ?r0 ?p1 ?r1 ?r1t3 ?r1t2 ?r1t1 ?r1t0 ?p2 ?r2 ?z0 ?z1 ?z2 ?z3 ?z4 ?z5 ?z6 ?z7 ?z8 ?z9 ?z10
  (case p0=>k_is);(case r0=>k_is);(case p1=>k_is);(case r1=>k_is);(case r1t3=>k_is);(case r1t2=>k_is);(case r1t1=>k_is);(case r1t0=>k_is);(case p2=>k_is);(case r2=>k_is);(case z0=>k_is);(case z1=>k_is);(case z2=>k_is);(case z3=>k_is);(case z4=>k_is);(case z5=>k_is);(case z6=>k_is);(case z7=>k_is);(case z8=>k_is);(case z9=>k_is);(case z10=>k_is)
 case Q =>
  intro w
  constructor
  all_goals (refine' G.cq2 ?a ?l ?c ?k;(case a=>k_is);(case l=>k_is);(case c=>k_is);(case k=>k_is))
 case B=>intro w;kernel_rfl
