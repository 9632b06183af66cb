import PyProof.Rows.All
import Wide.All
import OpenK.AllK
import Wide.FinOn
import Lean
import PyProof.EqAt
import PyProof.EqKinds
import PyProof.TupleCall
import PySem.Challenge.RW_glazework_k21_names
set_option compiler.extract_closed false
noncomputable section
set_option Elab.async false
set_option linter.all false
set_option maxRecDepth 100000
theorem xbo{α β:Type}{o:Option α}{f:α->Option β}{b:β}(h:o.bind f=some b):∃a,o=some a/\f a=some b:=Option.bind_eq_some_iff.mp h
theorem xmo{α β:Type}{o:Option α}{f:α->β}{b:β}(h:o.map f=some b):∃a,o=some a/\f a=b:=Option.map_eq_some_iff.mp h
theorem xmm{α:Type}{a:α}{l:List α}(b:α)(h:a∈l):a∈b::l:=List.mem_cons_of_mem b h
namespace L2
open PySem PySem.Spec PyProof.Rows
noncomputable abbrev Key:=Sum Int Str
noncomputable def bx3:Key->Value->Bool
 | .inl k,v=>Value.isInt k v
 | .inr x,v=>Value.isStrOf x v
noncomputable def bY4(w:World):Key->Int
 | .inl k=>hashInt k
 | .inr x=>hashStr w x
theorem J0:∀{k:Key}{v:Value},bx3 k v=true->(∃i t,k=Sum.inl i/\v=Value.int i t)\/(∃x t,k=Sum.inr x/\v=Value.str x t)
 | .inl i,v,h=>by
  obtain⟨t,e⟩:=Value.isInt_shape (k:=i) (v:=v) h
  exact .inl ⟨i,t,rfl,e⟩
 | .inr x,v,h=>by
  obtain⟨t,e⟩:=Value.isStrOf_shape (x:=x) (v:=v) h
  exact .inr ⟨x,t,rfl,e⟩
theorem bG8(a b:Int):decide ((Sum.inl a:Key)=Sum.inl b)=(a==b):=by
 by_cases e:a=b
 ·subst e;simp
 ·have h:¬(Sum.inl a:Key)=Sum.inl b:=fun q=>e (Sum.inl.inj q)
  rw[decide_eq_false h]
  exact(beq_eq_false_iff_ne.mpr e).symm
theorem bG5(a b:Str):decide ((Sum.inr a:Key)=Sum.inr b)=decide (a=b):=by
 by_cases e:a=b
 ·subst e;simp
 ·have h:¬(Sum.inr a:Key)=Sum.inr b:=fun q=>e (Sum.inr.inj q)
  rw[decide_eq_false h,decide_eq_false e]
theorem bG7(a:Int) (b:Str):decide ((Sum.inl a:Key)=Sum.inr b)=false:=decide_eq_false (fun q=>nomatch q)
theorem bG6(a:Str) (b:Int):decide ((Sum.inr a:Key)=Sum.inl b)=false:=decide_eq_false (fun q=>nomatch q)
noncomputable def at5(prog:Program) (w:World):PySem.KeyKind prog w Key where
 is:=bx3
 hash:=bY4 w
 inj:=fun v a b ha hb=>by
  rcases J0 ha with⟨i,t,rfl,rfl⟩|⟨x,t,rfl,rfl⟩
  ·rcases J0 hb with⟨j,u,rfl,e⟩|⟨y,u,rfl,e⟩
   ·injection e with e1 _;rw[e1]
   ·exact nomatch e
  ·rcases J0 hb with⟨j,u,rfl,e⟩|⟨y,u,rfl,e⟩
   ·exact nomatch e
   ·injection e with e1 _;rw[e1]
 byValue:=fun k v h=>by rcases J0 h with⟨i,t,rfl,rfl⟩|⟨x,t,rfl,rfl⟩<;>rfl
 pyHash:=fun hv h=>by
  rcases J0 hv with⟨i,t,rfl,rfl⟩|⟨x,t,rfl,rfl⟩
  ·exact wpAny_pyHash_int h
  ·exact wpAny_pyHash_str h
 eqBool:=fun hu hv h=>by
  rcases J0 hu with⟨i,t,rfl,rfl⟩|⟨x,t,rfl,rfl⟩
  ·rcases J0 hv with⟨j,u,rfl,rfl⟩|⟨y,u,rfl,rfl⟩
   ·rw[bG8]at h;exact wpAny_eqBool_int h
   ·rw[bG7]at h;exact SeqAt.EqAt.int_str i t y u _ _ _ _ h
  ·rcases J0 hv with⟨j,u,rfl,rfl⟩|⟨y,u,rfl,rfl⟩
   ·rw[bG6]at h;exact SeqAt.EqAt.str_int x t j u _ _ _ _ h
   ·rw[bG5]at h;exact wpAny_eqBool_str h
 «strs»:=fun k x t v h=>by
  rcases J0 h with⟨i,u,rfl,e⟩|⟨y,u,rfl,e⟩
  ·exact nomatch e
  ·injection e with e1 _
   subst e1
   cases v<;>rfl
inductive V where
 | non|bl (b:Bool)|int (i:Int)|str (x:Str)|byt (b:Array UInt8)|flt (b:UInt64)|ref (a:Addr)|ty (n:String)
 deriving DecidableEq
noncomputable def E9:V->Value->Prop
 | .non,u=>u=Value.none
 | .bl b,u=>u=Value.bool b
 | .int i,u=>∃t,u=Value.int i t
 | .str x,u=>∃t,u=Value.str x t
 | .byt b,u=>∃t,u=Value.bytes b t
 | .flt b,u=>∃t,u=Value.float b t
 | .ref a,u=>u=Value.ref a
 | .ty n,u=>u=Value.type n
noncomputable abbrev D2:List V->List Value->Prop:=Paired E9
theorem D2.length{xs:List V}{us:List Value}(r:D2 xs us):xs.length=us.length:=Paired.length r
theorem D2.get:∀{xs:List V}{us:List Value}{i:Nat}{x:V},D2 xs us->xs[i]? = some x->∃u,us[i]? = some u/\E9 x u
 | _,_,_,_,.nil,e=>by simp at e
 | _,_,0,_,.cons r _,e=>by simp at e;subst e;exact⟨_,rfl,r⟩
 | _,_,i+1,x,.cons _ t,e=>by
  obtain⟨u,h1,h2⟩:=D2.get (i:=i) (x:=x) t (by simpa using e)
  exact⟨u,by simpa using h1,h2⟩
theorem D2.append:∀{xs ys:List V}{us ws:List Value},D2 xs us->D2 ys ws->D2 (xs++ys) (us++ws)
 | _,_,_,_,.nil,s=>s
 | _,_,_,_,.cons r t,s=>.cons r (D2.append t s)
theorem D2.take:∀{xs:List V}{us:List Value}(n:Nat),D2 xs us->D2 (xs.take n) (us.take n)
 | _,_,0,_=>.nil
 | _,_,_+1,.nil=>.nil
 | _,_,n+1,.cons r t=>.cons r (D2.take n t)
theorem D2.drop:∀{xs:List V}{us:List Value}(n:Nat),D2 xs us->D2 (xs.drop n) (us.drop n)
 | _,_,0,r=>r
 | _,_,_+1,.nil=>.nil
 | _,_,n+1,.cons _ t=>D2.drop n t
noncomputable def bV7:Option V->Option Value->Prop
 | some v,some u=>E9 v u
 | none,none=>True
 | _,_=>False
noncomputable def KV{κ:Type}:List (κ×V)->List (κ×Value)->Prop:=Paired fun(p:κ×V) (q:κ×Value)=>p.1=q.1/\E9 p.2 q.2
noncomputable def kV:Key->V
 | .inl i=>.int i
 | .inr x=>.str x
inductive HO where
 /-- a list -/
 | lst (xs:List V)
 /-- a tuple (never changes) -/
 | tup (xs:List V)
 /-- a dict whose keys are ints and texts;one whose keys are tuples of ints and texts (the empty one is both) -/
 | dK (kvs:List (Key×V))|dT (kvs:List (List Key×V))
 /-- a set of ints: its members,its size -/
 | set (S:Int->Bool) (n:Nat)
 /-- an instance of the class at C,its dict at dx,its attributes -/
 | ins (C dx:Addr) (fs:List (Str×V))
 /-- the dict of the instance at x -/
 | own (x:Addr)
 /-- the dict of an exception -/
 | xd (fs:List (Str×V))
 /-- a bound method,f of x -/
 | met (f x:Addr)
 /-- a range object lo,lo+1,.. below hi -/
 | rng (lo hi:Int)
 /-- a thing that is known to the object (the script;a dict while a loop walks it): read,never written while it is so -/
 | frz (o:Obj) (u:HO)
 /-- a code object's table -/
 | tbl (ps:Array Value)
 /-- any other thing,by what is true of its one object (a def of one's own: SetO a S n:=HO.ext fun h=>..) -/
 | ext (φ:Heap->Prop)
noncomputable abbrev Hp:=Addr->Option HO
noncomputable def upd(H:Hp) (a:Addr) (o:HO):Hp:=fun b=>if b=a then some o else H b
theorem B7{H:Hp}{a:Addr}{o:HO}:upd H a o a=some o:=by unfold upd;rw[if_pos rfl]
theorem B4{H:Hp}{a b:Addr}{o:HO}(h:b≠a):upd H a o b=H b:=by unfold upd;rw[if_neg h]
theorem B9{H:Hp}{a b:Addr}{o:HO}(h:H a=some o) (h':H b=none):a≠b:=by intro e;subst e;rw[h]at h';cases h'
noncomputable def al0(h:Heap) (a:Addr) (items:Array Value):Prop:=∃o,h.get? a=some o/\o.cls=.type "tuple" /\ (∃n,o.data=.seq items n)/\o.dict=none
theorem al0.tup{h:Heap}{a:Addr}{items:Array Value}(p:al0 h a items):IsTup h a items:=let⟨o,e,c,d,_⟩:=p;⟨o,e,c,d⟩
theorem al0.new(h:Heap) (items:Array Value) (n:Nat:=0):al0 (h.push { cls:=.type "tuple", data:=.seq items n }) h.objs.size items:=⟨_,Heap.get?_push_size _ rfl,rfl,⟨_,rfl⟩,rfl⟩
section
variable (P:Program) (w:World)
noncomputable def O7(H:Hp) (h:Heap) (a:Addr):HO->Prop
 | .lst xs=>xs.length<=sizeLine/\∃(its:List Value) (n:Nat),D2 xs its/\h.get? a=some { cls:=.type "list", data:=.seq its.toArray n }
 | .tup xs=>xs.length<=sizeLine/\∃its:List Value,D2 xs its/\al0 h a its.toArray
 | .dK kvs=>kvs.length<=sizeLine/\(a==sysModules)=false/\∃vs,KV kvs vs/\h.DictOf (at5 P w) a vs
 | .dT kvs=>kvs.length<=sizeLine/\(a==sysModules)=false/\∃xs:List (List Key×Addr×Value),
   Paired (fun(p:List Key×V) (q:List Key×Addr×Value)=>p.1=q.1/\H q.2.1=some (.tup (p.1.map kV))/\E9 p.2 q.2.2) kvs xs /\
   ∃o es ep,h.get? a=some o/\o.ExactDict/\o.data=.dict es ep/\es.toList=xs.map (entryOfKey (tupleKind (at5 P w)))/\(xs.map (·.1)).Nodup
 | .set S n=>h.SetOf (intKind P w) a S n
 | .ins C dx fs=>H dx=some (.own a)/\fs.length<=1000/\dx≠a/\h.get? a=some (PySem.W.instObj C dx) /\
   ∃mA,h.Ns1 dx mA/\(∀f,bV7 (fs.lookup f) (mA f))/\PySem.Within mA (fs.map (·.1))
 | .own _=>∃o,h.get? a=some o
 | .xd fs=>∃mA,h.Ns1 a mA/\∀f,bV7 (fs.lookup f) (mA f)
 | .rng lo hi=>∃t u v,h.get? a=some { cls:=.type "range", data:=.fields #[.int lo t,.int hi u,.int 1 v] }
 | .frz o u=>h.get? a=some o/\O7 H h a u
 | .tbl ps=>h.get? a=some { cls:=.none,data:=.fields ps }
 | .met f x=>h.get? a=some (PySem.W.methodObj (.ref f) (.ref x))
 | .ext φ=>φ h/\(∃o,h.get? a=some o)/\∀h1 h2:Heap,φ h1->(∀o,h1.get? a=some o->h2.get? a=some o)->φ h2
noncomputable def HOk(H:Hp) (h:Heap):Prop:=∀a o,H a=some o->O7 P w H h a o
end
section
variable {P:Program}{w:World}{H H':Hp}{h h':Heap}{a:Addr}{o:HO}
theorem O7.lt(x:O7 P w H h a o):a < h.objs.size:=by
 cases o with
 | lst xs=>obtain⟨_,_,_,_,e⟩:=x;exact Heap.lt_size e
 | tup xs=>obtain⟨_,_,_,p⟩:=x;exact p.tup.lt
 | dK kvs=>obtain⟨_,_,_,_,o,_,_,e,_⟩:=x;exact Heap.lt_size e
 | dT kvs=>obtain⟨_,_,_,_,o,_,_,e,_⟩:=x;exact Heap.lt_size e
 | set S n=>obtain⟨o,_,_,_,e,_⟩:=x;exact Heap.lt_size e
 | ins C dx fs=>obtain⟨_,_,_,e,_⟩:=x;exact Heap.lt_size e
 | own y=>obtain⟨_,e⟩:=x;exact Heap.lt_size e
 | xd fs=>obtain⟨_,⟨_,_,_,e,_⟩,_⟩:=x;exact Heap.lt_size e
 | rng lo hi=>obtain⟨_,_,_,e⟩:=x;exact Heap.lt_size e
 | frz ob u=>obtain⟨e,_⟩:=x;exact Heap.lt_size e
 | tbl ps=>exact Heap.lt_size (show h.get? a=some _ from x)
 | met f y=>exact Heap.lt_size (show h.get? a=some _ from x)
 | ext φ=>obtain⟨_,⟨_,e⟩,_⟩:=x;exact Heap.lt_size e
theorem Paired.mapP{α β:Type}{F G:α->β->Prop}:∀{l₁:List α}{l₂:List β},Paired F l₁ l₂->(∀a b,F a b->G a b)->Paired G l₁ l₂
 | _,_,.nil,_=>.nil
 | _,_,.cons r t,f=>.cons (f _ _ r) (Paired.mapP t f)
theorem O7.stay(x:O7 P w H h a o) (k:∀b u,(b=a\/H b=some (.own a))->h.get? b=some u->h'.get? b=some u)
  (ho:∀b,H b=some (.own a)->H' b=some (.own a)) (ht:∀b xs,H b=some (.tup xs)->H' b=some (.tup xs)):O7 P w H' h' a o:=by
 induction o with
 | lst xs=>obtain⟨z,its,n,r,e⟩:=x;exact⟨z,its,n,r,k _ _ (.inl rfl) e⟩
 | tup xs=>obtain⟨z,its,r,ob,e,c⟩:=x;exact⟨z,its,r,ob,k _ _ (.inl rfl) e,c⟩
 | dK kvs=>obtain⟨z,y,vs,r,ob,es,ep,e,c⟩:=x;exact⟨z,y,vs,r,ob,es,ep,k _ _ (.inl rfl) e,c⟩
 | dT kvs =>
  obtain⟨z,y,xs,r,ob,es,ep,e,c⟩:=x
  exact⟨z,y,xs,Paired.mapP r fun p q z=>⟨z.1,ht _ _ z.2.1,z.2.2⟩,ob,es,ep,k _ _ (.inl rfl) e,c⟩
 | set S n=>obtain⟨ob,es,ep,t,e,c⟩:=x;exact⟨ob,es,ep,t,k _ _ (.inl rfl) e,c⟩
 | ins C dx fs =>
  obtain⟨d,z,ne,e,mA,⟨od,es,ep,e2,c⟩,r⟩:=x
  exact⟨ho _ d,z,ne,k _ _ (.inl rfl) e,mA,⟨od,es,ep,k _ _ (.inr d) e2,c⟩,r⟩
 | own y=>obtain⟨ob,e⟩:=x;exact⟨ob,k _ _ (.inl rfl) e⟩
 | xd fs=>obtain⟨mA,⟨od,es,ep,e,c⟩,r⟩:=x;exact⟨mA,⟨od,es,ep,k _ _ (.inl rfl) e,c⟩,r⟩
 | rng lo hi=>obtain⟨t,u,v,e⟩:=x;exact⟨t,u,v,k _ _ (.inl rfl) e⟩
 | frz ob u ih=>obtain⟨e,q⟩:=x;exact⟨k _ _ (.inl rfl) e,ih q⟩
 | tbl ps =>
  have e:h.get? a=some { cls:=.none,data:=.fields ps }:=x
  show h'.get? a=some { cls:=.none,data:=.fields ps }
  exact k a _ (.inl rfl) e
 | met f y =>
  have e:h.get? a=some (PySem.W.methodObj (.ref f) (.ref y)):=x
  show h'.get? a=some (PySem.W.methodObj (.ref f) (.ref y))
  exact k a _ (.inl rfl) e
 | ext φ=>obtain⟨p,⟨o,e⟩,st⟩:=x;exact⟨st _ _ p fun o q=>k _ _ (.inl rfl) q,⟨o,k _ _ (.inl rfl) e⟩,st⟩
theorem HOk.lt(x:HOk P w H h) (e:H a=some o):a < h.objs.size:=(x a o e).lt
theorem HOk.fresh(x:HOk P w H h) (e:h.objs.size<=a):H a=none:=by
 cases q:H a with
 | none=>rfl
 | some u=>exact absurd (Nat.lt_of_lt_of_le (x.lt q) e) (Nat.lt_irrefl _)
theorem HOk.kept(x:HOk P w H h) (k:∀b u,h.get? b=some u->h'.get? b=some u):HOk P w H h':=fun a o e =>(x a o e).stay (fun b u _ q=>k b u q) (fun _ q=>q) fun _ _ q=>q
theorem HOk.laid(x:HOk P w H h) (k:∀b u,h.get? b=some u->h'.get? b=some u) (hp:h.objs.size<=a) (new:O7 P w (upd H a o) h' a o):HOk P w (upd H a o) h':=fun b u e=>by
 have hn:=x.fresh hp
 by_cases hb:b=a
 ·subst hb;rw[B7]at e;cases e;exact new
 ·rw[B4 hb]at e
  exact(x b u e).stay (fun c v _ q=>k c v q) (fun c q=>by rw[B4 (B9 q hn)];exact q) fun c xs q=>by rw[B4 (B9 q hn)];exact q
end
noncomputable def Rd(H:Hp) (a:Addr) (u:HO):Prop:=H a=some u\/∃o,H a=some (.frz o u)
theorem Rd.ok{P:Program}{w:World}{H:Hp}{h:Heap}{a:Addr}{u:HO}(r:Rd H a u) (x:HOk P w H h):O7 P w H h a u:=by
 rcases r with r|⟨o,r⟩
 ·exact x a u r
 ·obtain⟨_,q⟩:=x a _ r
  exact q
noncomputable def Mut:Option HO->Prop
 | some (.lst _)=>True
 | some (.dK _)=>True
 | some (.dT _)=>True
 | some (.set _ _)=>True
 | some (.ins _ _ _)=>True
 | some (.ext _)=>True
 | _=>False
section
variable {P:Program}{w:World}{H:Hp}{h h':Heap}{x e:Addr}{o':HO}
theorem HOk.write(ok:HOk P w H h) (mu:Mut (H x)) (he:e=x\/H e=some (.own x)) (k:∀b u,b≠e->h.get? b=some u->h'.get? b=some u) (heo:∃u,h'.get? e=some u)
  (new:O7 P w (upd H x o') h' x o'):HOk P w (upd H x o') h':=fun b u q=>by
 have nown:∀c y,H c=some (.own y)->c≠x:=fun c y r z=>by subst z;rw[r]at mu;exact mu
 have ntup:∀c xs,H c=some (.tup xs)->c≠x:=fun c xs r z=>by subst z;rw[r]at mu;exact mu
 by_cases hb:b=x
 ·subst hb;rw[B7]at q;cases q;exact new
 ·rw[B4 hb]at q
  by_cases hbe:b=e
  ·have q':H b=some (.own x):=by
    rcases he with z|z
    ·exact absurd (hbe.trans z) hb
    ·rw[hbe];exact z
   rw[q]at q';cases q'
   obtain⟨v,hv⟩:=heo
   exact⟨v,by rw[hbe];exact hv⟩
  ·refine(ok b u q).stay (fun c v hc r=>k c v ?_ r) (fun c r=>by rw[B4 (nown c b r)];exact r) fun c xs r=>by rw[B4 (ntup c xs r)];exact r
   rcases hc with rfl|hc
   ·exact hbe
   ·rintro rfl
    rcases he with z|z
    ·exact nown c b hc z
    ·rw[hc]at z;cases z;exact hb rfl
end
structure Un (fs ex:List Addr) (H H':Hp) (h h':Heap):Prop where
 keep:∀b o,h.get? b=some o->H b=none->b∉fs->b∉ex->h'.get? b=some o
 slot:∀b o,h.get? b=some o->H b=none->b∈fs->b∉ex->∃sl,h'.get? b=some { o with slots:=sl }
 free:∀b o,h.get? b=some o->H b=none->b∉ex->H' b=none
 there:∀b o,h.get? b=some o->b∉ex->∃o',h'.get? b=some o'
 tups:∀b xs,H b=some (.tup xs)->H' b=some (.tup xs)
 frzs:∀b o u,H b=some (.frz o u)->H' b=some (.frz o u)
 tbls:∀b ps,H b=some (.tbl ps)->∃more,H' b=some (.tbl (ps++more))
section
variable {fs fs' ex ex':List Addr}{H H1 H2:Hp}{h h1 h2 h':Heap}{a x e:Addr}{o:HO}
theorem Un.any(u:Un fs ex H H1 h h1) {b:Addr}{ob:Obj}(q:h.get? b=some ob) (n:H b=none) (hx:b∉ex):∃sl,h1.get? b=some { ob with slots:=sl }:=by
 by_cases hb:b∈fs
 ·exact u.slot b ob q n hb hx
 ·exact⟨ob.slots,u.keep b ob q n hb hx⟩
theorem Un.kept(k:∀b u,h.get? b=some u->h'.get? b=some u):Un fs ex H H h h' :=
 ⟨fun b ob q _ _ _=>k b ob q,fun b ob q _ _ _=>⟨ob.slots,k b ob q⟩,fun _ _ _ n _=>n,fun b ob q _=>⟨ob,k b ob q⟩,fun _ _ q=>q,fun _ _ _ q=>q,fun _ ps q=>⟨#[],by rw[q];simp⟩⟩
theorem Un.refl:Un fs ex H H h h:=Un.kept fun _ _ q=>q
theorem Un.laid(k:∀b u,h.get? b=some u->h'.get? b=some u) (hp:h.objs.size<=a) (hn:H a=none):Un fs ex H (upd H a o) h h' where
 keep:=fun b u q _ _ _=>k b u q
 slot:=fun b u q _ _ _=>⟨u.slots,k b u q⟩
 free:=fun b u q n _=>by rw[B4 (Nat.ne_of_lt (Nat.lt_of_lt_of_le (Heap.lt_size q) hp))];exact n
 there:=fun b u q _=>⟨u,k b u q⟩
 tups:=fun b xs q=>by rw[B4 (B9 q hn)];exact q
 frzs:=fun b u xs q=>by rw[B4 (B9 q hn)];exact q
 tbls:=fun b ps q=>⟨#[],by rw[B4 (B9 q hn),q];simp⟩
theorem Un.write(mu:Mut (H x)) (he:e=x\/H e=some (.own x)) (k:∀b u,b≠e->h.get? b=some u->h'.get? b=some u) (heo:∃u,h'.get? e=some u):Un fs ex H (upd H x o) h h':=by
 have hx:∀b,H b=none->b≠x:=fun b n z=>by subst z;rw[n]at mu;exact mu
 have hb:∀b,H b=none->b≠e:=fun b n z=>by
  subst z
  rcases he with r|r
  ·exact hx b n r
  ·rw[n]at r;cases r
 have hm:∀b u,H b=some u->¬Mut (some u)->b≠x:=fun b u q nm z=>by subst z;rw[q]at mu;exact nm mu
 refine⟨fun b u q n _ _=>k b u (hb b n) q,fun b u q n _ _=>⟨u.slots,k b u (hb b n) q⟩,fun b u q n _=>by rw[B4 (hx b n)];exact n,fun b u q _=>?_,
  fun b xs q=>by rw[B4 (hm b _ q fun z=>z)];exact q,fun b u xs q=>by rw[B4 (hm b _ q fun z=>z)];exact q,fun b ps q=>⟨#[],by rw[B4 (hm b _ q fun z=>z),q];simp⟩⟩
 by_cases hbe:b=e
 ·subst hbe;exact heo
 ·exact⟨u,k b u hbe q⟩
end
noncomputable def trk(h:Heap) (H:Hp):List Addr:=(List.range h.objs.size).filter fun a=>(H a).isSome
noncomputable def au2(h:Heap) (H:Hp):Heap:=PySem.W.hideAll h (trk h H)
theorem aR5(h:Heap) (H:Hp):(au2 h H).objs.size=h.objs.size:=PySem.W.hideAll_size _ _
theorem bg2{h:Heap}{H:Hp}{b:Addr}{o:Obj}(e:h.get? b=some o) (n:H b=none):(au2 h H).get? b=some o :=
 PySem.W.hideAll_get _ e fun hm=>by
  have q:(H b).isSome=true:=(List.mem_filter.mp hm).2
  rw[n]at q;simp at q
theorem bo9{h:Heap}{H:Hp}{b:Addr}{o:Obj}(e:(au2 h H).get? b=some o):h.get? b=some o/\H b=none:=by
 have e':h.get? b=some o:=PySem.W.of_hideAll (trk h H) e
 refine⟨e',?_⟩
 cases q:H b with
 | none=>rfl
 | some x =>
  have hm:b∈trk h H:=List.mem_filter.mpr ⟨List.mem_range.mpr (Heap.lt_size e'),by simp[q]⟩
  have z:(au2 h H).get? b=none:=PySem.W.hideAll_none (trk h H) hm
  rw[z]at e;cases e
noncomputable def bv0(g h:Heap) (L:Addr):List (Addr×Obj):=(List.range h.objs.size).filterMap fun a=>if a=L\/(g.get? a).isSome=true then none else(h.get? a).map fun o=>(a,o)
noncomputable def M1(g h:Heap) (L d:Addr):List (Addr×Obj):=(bv0 g h L).filter fun p=>decide (p.1≠d)
structure Mod (K:PySem.W.Frag) (mg:Str->Option Value) (base:Heap):Prop where
 kin:K.In base
 glob:base.Ns mainGlobals mg
 blt:∃mb,base.Ns builtinsNs mb/\∀x:Str,x ≠ "__name__" -> mb x=bootBuiltins x
 nolimit:base.NoLimit
structure Cx where
 prog:Program
 w:World
 K:PySem.W.Frag
 mg:Str->Option Value
 base:Heap
 A:Around
 N:List Str
 s₀:Shared
 H₀:Hp
 env:Env
 outer:List Env
 stack:List Env
 ex:List Addr
 fn:Str->Bool
 calm:Bool
 pn:List (Addr×Obj)
 xe:Value->Shared->Prop
noncomputable def frs(l:List Env):List Addr:=l.filterMap (·.frame)
noncomputable abbrev Cx.fs(X:Cx):List Addr:=frs X.outer
noncomputable def Vis(sc:Scope) (x:Str):Prop:=sc.names.lookup x=some .local\/sc.names.lookup x=some .cell\/sc.names.lookup x=some .free
noncomputable def Loc(sc:Scope) (x:Str):Prop:=sc.names.lookup x=some .local\/sc.names.lookup x=some .cell
noncomputable def bZ7(env:Env) (h:Heap) (m:Str->Option Value) (x:Str) (u:Value):Prop :=
 (env.kindOf x=some .local/\m x=some u)\/((env.kindOf x=some .cell\/env.kindOf x=some .free)/\∃c,env.cells.lookup x=some c/\h.IsCell c (some u))
structure Cx.Ok (X:Cx):Prop where
 mod:Mod X.K X.mg X.base
 kind:X.env.scope.kind=.function
 glob:X.env.globals=mainGlobals
 blt:X.env.builtins=builtinsNs
 above:X.s₀.heap.objs.size<=X.env.locals
 inj:∀x y c,X.env.cells.lookup x=some c->X.env.cells.lookup y=some c->x=y
 has:∀x,(X.env.kindOf x=some .cell\/X.env.kindOf x=some .free)->∃c,X.env.cells.lookup x=some c
 cab:∀x c,X.fn x=true->X.env.cells.lookup x=some c->X.s₀.heap.objs.size<=c
 hd:X.calm=true->X.A.handled=none
 frames:X.A.frames=some X.stack
 stk:X.stack=X.outer\/(X.stack=X.env::X.outer/\X.env.frame=some X.env.locals)
 exf:∀b∈X.ex,b≠X.env.locals/\∀x c,X.env.cells.lookup x=some c->c≠b
 bs:∀b o,X.base.get? b=some o->X.s₀.heap.get? b=some o/\X.H₀ b=none
 bsz:X.base.objs.size<=X.s₀.heap.objs.size
 noex:∀b o,X.base.get? b=some o->b∉X.ex
 exfs:∀b∈X.ex,b∉X.fs
 funs:X.s₀.heap.FunFrames X.base X.outer
 frf:∀b∈X.fs,X.H₀ b=none
structure Inv (X:Cx) (pins:List (Addr×Obj)) (σ:List (Option V)) (H:Hp) (s:Shared):Prop where
 ok:X.Ok
 os:s.os=X.s₀.os
 bare:AllBare s.gens
 base:Un X.fs X.ex X.H₀ H X.s₀.heap s.heap
 loc:∃m,s.heap.Ns X.env.locals m/\∀(i:Nat) (x:Str) (v:V),X.N[i]? = some x->σ[i]? = some (some v)->Vis X.env.scope x->∃u,E9 v u/\bZ7 X.env s.heap m x u
 cell:∀x c,X.env.cells.lookup x=some c->∃v,s.heap.IsCell c v
 free:H X.env.locals=none
 freeC:∀x c,X.env.cells.lookup x=some c->H c=none
 pin:∀p∈X.pn++pins,s.heap.get? p.1=some p.2/\H p.1=none/\p.1≠X.env.locals/\p.1∉X.fs/\∀v,p.2.data≠.cell v
 hok:HOk X.prog X.w H s.heap
 len:σ.length=X.N.length
section
variable {X:Cx}{pins:List (Addr×Obj)}{σ:List (Option V)}{H H':Hp}{s:Shared}{h':Heap}
theorem Cx.Ok.nofr(ok:X.Ok) {b:Addr}{o:Obj}(e:X.base.get? b=some o):b∉X.fs:=fun hb=>by
 have:=(ok.funs.mem hb).1
 rw[e]at this;cases this
theorem Inv.bs(I:Inv X pins σ H s):∀b o,X.base.get? b=some o->s.heap.get? b=some o/\H b=none:=fun b o e =>⟨I.base.keep b o (I.ok.bs b o e).1 (I.ok.bs b o e).2 (I.ok.nofr e) (I.ok.noex b o e),I.base.free b o (I.ok.bs b o e).1 (I.ok.bs b o e).2 (I.ok.noex b o e)⟩
theorem Inv.bk(I:Inv X pins σ H s):∀b o,X.base.get? b=some o->s.heap.get? b=some o:=fun b o e=>(I.bs b o e).1
theorem Inv.mod(I:Inv X pins σ H s):Mod X.K X.mg X.base:=I.ok.mod
theorem Inv.kIn(I:Inv X pins σ H s):X.K.In s.heap:=I.ok.mod.kin.keeps I.bk
theorem Inv.lt(I:Inv X pins σ H s):X.env.locals < s.heap.objs.size:=let⟨_,hn,_⟩:=I.loc;hn.lt
theorem Inv.sz(I:Inv X pins σ H s):X.s₀.heap.objs.size<=s.heap.objs.size:=Nat.le_trans I.ok.above (Nat.le_of_lt I.lt)
theorem Inv.nofs(I:Inv X pins σ H s) {a:Addr}(h:s.heap.objs.size<=a):a∉X.fs:=fun hb=>by
 obtain⟨_,o,ho,_⟩:=I.ok.funs.mem hb
 exact absurd (Nat.lt_of_lt_of_le (Heap.lt_size ho) (Nat.le_trans I.sz h)) (Nat.lt_irrefl _)
theorem Inv.cne(I:Inv X pins σ H s):∀x c,X.env.cells.lookup x=some c->c≠X.env.locals:=fun x c e z=>by
 obtain⟨v,o,ho,hd⟩:=I.cell x c e
 obtain⟨m,⟨o',es,ep,ho',hd',_⟩,_⟩:=I.loc
 rw[z,ho']at ho;cases ho;rw[hd']at hd;cases hd
theorem Inv.funs(I:Inv X pins σ H s):s.heap.FunFrames X.base X.outer:=by
 have all:∀(l:List Env),(∀b∈frs l,b∈X.fs)->X.s₀.heap.FunFrames X.base l->s.heap.FunFrames X.base l:=by
  intro l
  induction l with
  | nil=>intro _ _;trivial
  | cons env r ih =>
   intro hs hl
   obtain⟨hk,⟨L,o,hf,hn,ho,hd⟩,hr⟩:=hl
   have hL:L∈X.fs:=hs L (by unfold frs;rw[List.filterMap_cons,hf];exact List.mem_cons_self)
   obtain⟨sl,e⟩:=I.base.slot L o ho (I.ok.frf L hL) hL fun z=>I.ok.exfs L z hL
   exact⟨hk,⟨L,_,hf,hn,e,hd⟩,ih (fun b hb=>hs b (by unfold frs;rw[List.filterMap_cons,hf];exact xmm _ hb)) hr⟩
 exact all X.outer (fun _ hb=>hb) I.ok.funs
theorem Inv.stack(I:Inv X pins σ H s):s.heap.FunFrames X.base X.stack:=by
 rcases I.ok.stk with e|⟨e,hf⟩
 ·rw[e];exact I.funs
 ·rw[e]
  obtain⟨m,hn,_⟩:=I.loc
  refine .cons (by rw[I.ok.kind];decide) hf hn ?_ I.funs
  exact Heap.get?_none_of_le (Nat.le_trans I.ok.bsz I.ok.above)
theorem Inv.stkSub(I:Inv X pins σ H s):∀b∈frs X.stack,b∈X.env.locals::X.fs:=fun b hb=>by
 rcases I.ok.stk with e|⟨e,hf⟩
 ·rw[e]at hb;exact xmm _ hb
 ·rw[e]at hb
  unfold frs at hb
  rw[List.filterMap_cons,hf]at hb
  exact hb
theorem Inv.stkFree(I:Inv X pins σ H s):∀b∈frs X.stack,H b=none:=fun b hb=>by
 rcases List.mem_cons.mp (I.stkSub b hb) with e|hb
 ·rw[e];exact I.free
 ·obtain⟨_,o,ho,_⟩:=I.ok.funs.mem hb
  exact I.base.free b o ho (I.ok.frf b hb) fun z=>I.ok.exfs b z hb
theorem Inv.step{g':Array GenState}{t':Nat}{d':Drawn}{ch:List Addr}(I:Inv X pins σ H s)
  (hch:∀b∈ch,(b∈X.ex\/X.s₀.heap.objs.size<=b)/\b≠X.env.locals/\(∀x c,X.env.cells.lookup x=some c->c≠b)/\∀p∈X.pn++pins,p.1≠b)
  (keep:∀b o,b≠X.env.locals->b∉X.fs->b∉ch->s.heap.get? b=some o->H b=none->h'.get? b=some o)
  (slot:∀b o,b≠X.env.locals->b∈X.fs->b∉ch->s.heap.get? b=some o->H b=none->∃sl,h'.get? b=some { o with slots:=sl }) (free:∀b o,b∉ch->s.heap.get? b=some o->H b=none->H' b=none)
  (there:∀b o,b∉ch->s.heap.get? b=some o->∃o',h'.get? b=some o')
  (tups:∀b xs,H b=some (.tup xs)->H' b=some (.tup xs)) (frzs:∀b o u,H b=some (.frz o u)->H' b=some (.frz o u)) (tbls:∀b ps,H b=some (.tbl ps)->∃more,H' b=some (.tbl (ps++more)))
  (ns:∀m,s.heap.Ns X.env.locals m->h'.Ns X.env.locals m) (hok:HOk X.prog X.w H' h') (hg:AllBare g') :
  Inv X pins σ H' { s with heap:=h',gens:=g',drawn:=d',toks:=t' }:=by
 have neL:∀b o,X.s₀.heap.get? b=some o->b≠X.env.locals:=fun b o e=>Nat.ne_of_lt (Nat.lt_of_lt_of_le (Heap.lt_size e) I.ok.above)
 have neC:∀b o,X.s₀.heap.get? b=some o->b∉X.ex->b∉ch:=fun b o e hx hb=>by
  rcases(hch b hb).1 with z|z
  ·exact hx z
  ·exact absurd (Nat.lt_of_lt_of_le (Heap.lt_size e) z) (Nat.lt_irrefl _)
 have cellK:∀x c,X.env.cells.lookup x=some c->∀v,s.heap.IsCell c v->h'.IsCell c v:=fun x c e v ⟨o,ho,hd⟩=>by
  have nch:c∉ch:=fun z=>(hch c z).2.2.1 x c e rfl
  by_cases hc:c∈X.fs
  ·obtain⟨sl,q⟩:=slot c o (I.cne x c e) hc nch ho (I.freeC x c e)
   exact⟨_,q,hd⟩
  ·exact⟨o,keep c o (I.cne x c e) hc nch ho (I.freeC x c e),hd⟩
 refine⟨I.ok,I.os,hg,⟨fun b o e n hb hx=>?_,fun b o e n hb hx=>?_,fun b o e n hx=>?_,fun b o e hx=>?_,fun b xs e=>tups b xs (I.base.tups b xs e),fun b o xs e=>frzs b o xs (I.base.frzs b o xs e),fun b ps e=>?_⟩,?_,fun x c e=>?_,?_,fun x c e=>?_,fun p hp=>?_,hok,I.len⟩
 ·exact keep b o (neL b o e) hb (neC b o e hx) (I.base.keep b o e n hb hx) (I.base.free b o e n hx)
 ·obtain⟨sl,e1⟩:=I.base.slot b o e n hb hx
  obtain⟨sl',e2⟩:=slot b _ (neL b o e) hb (neC b o e hx) e1 (I.base.free b o e n hx)
  exact⟨sl',e2⟩
 ·obtain⟨o',e1⟩:=I.base.there b o e hx
  exact free b o' (neC b o e hx) e1 (I.base.free b o e n hx)
 ·obtain⟨o',e1⟩:=I.base.there b o e hx
  exact there b o' (neC b o e hx) e1
 ·obtain⟨m1,e1⟩:=I.base.tbls b ps e
  obtain⟨m2,e2⟩:=tbls b _ e1
  exact⟨m1++m2,by rw[e2,Array.append_assoc]⟩
 ·obtain⟨m,hn,hl⟩:=I.loc
  refine⟨m,ns m hn,fun i x v e1 e2 e3=>?_⟩
  obtain⟨u,r,l⟩:=hl i x v e1 e2 e3
  refine⟨u,r,?_⟩
  rcases l with l|⟨k,c,e,z⟩
  ·exact .inl l
  ·exact .inr ⟨k,c,e,cellK x c e _ z⟩
 ·obtain⟨v,z⟩:=I.cell x c e
  exact⟨v,cellK x c e v z⟩
 ·obtain⟨m,⟨o,_,_,ho,_⟩,_⟩:=I.loc
  exact free _ o (fun z=>(hch _ z).2.1 rfl) ho I.free
 ·obtain⟨v,o,ho,hd⟩:=I.cell x c e
  exact free c o (fun z=>(hch c z).2.2.1 x c e rfl) ho (I.freeC x c e)
 ·obtain⟨e,n,ne,nf,d⟩:=I.pin p hp
  have nch:p.1∉ch:=fun z=>(hch p.1 z).2.2.2 p hp rfl
  exact⟨keep p.1 p.2 ne nf nch e n,free p.1 p.2 nch e n,ne,nf,d⟩
theorem Inv.un{t':Nat}(I:Inv X pins σ H s) (u:Un X.fs [] H H' s.heap h') (hok:HOk X.prog X.w H' h'):Inv X pins σ H' { s with heap:=h',toks:=t' }:=by
 obtain⟨m,⟨o,es,ep,ho,r⟩,_⟩:=id I.loc
 obtain⟨sl,hL⟩:=u.any ho I.free (by simp)
 exact I.step (g':=s.gens) (d':=s.drawn) (ch:=[]) (fun _ z=>nomatch z) (fun b o _ hb _ e n=>u.keep b o e n hb (by simp)) (fun b o _ hb _ e n=>u.slot b o e n hb (by simp)) (fun b o _ e n=>u.free b o e n (by simp)) (fun b o _ e=>u.there b o e (by simp)) u.tups u.frzs u.tbls (fun m' hm=>by
  obtain⟨o',es',ep',ho',r'⟩:=hm
  rw[ho]at ho';cases ho'
  exact⟨_,es',ep',hL,r'⟩) hok I.bare
theorem Inv.call{g':Array GenState}{t':Nat}{d':Drawn}{ch:List Addr}(I:Inv X pins σ H s) (u:Un (frs X.stack) ch H H' s.heap h') (hok:HOk X.prog X.w H' h') (hg:AllBare g')
  (hch:∀b∈ch,(b∈X.ex\/X.s₀.heap.objs.size<=b)/\b≠X.env.locals/\(∀x c,X.env.cells.lookup x=some c->c≠b)/\∀p∈X.pn++pins,p.1≠b) :
  Inv X pins σ H' { s with heap:=h',gens:=g',drawn:=d',toks:=t' }:=by
 obtain⟨m,⟨o,es,ep,ho,r⟩,_⟩:=id I.loc
 obtain⟨sl,hL⟩:=u.any ho I.free fun z=>(hch _ z).2.1 rfl
 exact I.step (ch:=ch) hch (fun b o hL hb hc e n=>u.keep b o e n (fun z=>(List.mem_cons.mp (I.stkSub b z)).elim hL hb) hc) (fun b o _ _ hc e n=>u.any e n hc) (fun b o hc e n=>u.free b o e n hc) (fun b o hc e=>u.there b o e hc) u.tups u.frzs u.tbls (fun m' hm=>by
  obtain⟨o',es',ep',ho',r'⟩:=hm
  rw[ho]at ho';cases ho'
  exact⟨_,es',ep',hL,r'⟩) hok hg
theorem Inv.turned{t':Nat}{it:Addr}(I:Inv X pins σ H s) (k:∀b o,b≠it->s.heap.get? b=some o->h'.get? b=some o) (hn:H it=none) (hL:it≠X.env.locals)
  (h1:it∈X.ex\/X.s₀.heap.objs.size<=it) (h2:∀x c,X.env.cells.lookup x=some c->c≠it) (h3:∀p∈X.pn++pins,p.1≠it):Inv X pins σ H { s with heap:=h',toks:=t' }:=by
 have nit:∀b u,H b=some u->b≠it:=fun b u e z=>by rw[z,hn]at e;cases e
 refine I.step (g':=s.gens) (d':=s.drawn) (ch:=[it]) (fun b hb=>?_) (fun b o _ _ hc e _=>k b o (fun z=>hc (by simp[z])) e) (fun b o _ _ hc e _=>⟨o.slots,k b o (fun z=>hc (by simp[z])) e⟩) (fun _ _ _ _ n=>n)
  (fun b o hc e=>⟨o,k b o (fun z=>hc (by simp[z])) e⟩) (fun _ _ e=>e) (fun _ _ _ e=>e) (fun b ps e=>⟨#[],by rw[e];simp⟩) (fun m hm=>?_) (fun b u e=>?_) I.bare
 ·have e:b=it:=by simpa using hb
  subst e
  exact⟨h1,hL,h2,h3⟩
 ·obtain⟨o,es,ep,ho,r⟩:=hm
  exact⟨o,es,ep,k _ o (Ne.symm hL) ho,r⟩
 ·refine(I.hok b u e).stay (fun c v hc q=>k c v ?_ q) (fun _ q=>q) fun _ _ q=>q
  rcases hc with z|z
  ·rw[z];exact nit b u e
  ·exact nit c _ z
theorem Inv.tok(I:Inv X pins σ H s) (t:Nat):Inv X pins σ H { s with toks:=t }:=I.un (h':=s.heap) (t':=t) Un.refl I.hok
theorem Inv.kept{t':Nat}(I:Inv X pins σ H s) (k:∀b u,s.heap.get? b=some u->h'.get? b=some u):Inv X pins σ H { s with heap:=h',toks:=t' }:=I.un (Un.kept k) (I.hok.kept k)
theorem Inv.laid{a:Addr}{o:HO}{t':Nat}(I:Inv X pins σ H s) (k:∀b u,s.heap.get? b=some u->h'.get? b=some u) (hp:s.heap.objs.size<=a) (new:O7 X.prog X.w (upd H a o) h' a o) :
  Inv X pins σ (upd H a o) { s with heap:=h',toks:=t' }:=I.un (Un.laid k hp (I.hok.fresh hp)) (I.hok.laid k hp new)
theorem Inv.write{x e:Addr}{o:HO}{t':Nat}(I:Inv X pins σ H s) (mu:Mut (H x)) (he:e=x\/H e=some (.own x)) (k:∀b u,b≠e->s.heap.get? b=some u->h'.get? b=some u) (heo:∃u,h'.get? e=some u)
  (new:O7 X.prog X.w (upd H x o) h' x o):Inv X pins σ (upd H x o) { s with heap:=h',toks:=t' }:=I.un (Un.write mu he k heo) (I.hok.write mu he k heo new)
theorem Inv.pins_of{pins':List (Addr×Obj)}(I:Inv X pins σ H s) (h:∀p∈pins',s.heap.get? p.1=some p.2/\H p.1=none/\p.1≠X.env.locals/\p.1∉X.fs/\∀v,p.2.data≠.cell v):Inv X pins' σ H s :=
 ⟨I.ok,I.os,I.bare,I.base,I.loc,I.cell,I.free,I.freeC,fun p hp=>(List.mem_append.mp hp).elim (fun z=>I.pin p (List.mem_append_left _ z)) (h p),I.hok,I.len⟩
theorem ay5{N:List Str}(hN:N.Nodup) {i j:Nat}{x:Str}(a:N[i]? = some x) (b:N[j]? = some x):i=j:=by
 obtain⟨h1,e1⟩:=List.getElem?_eq_some_iff.mp a
 obtain⟨h2,e2⟩:=List.getElem?_eq_some_iff.mp b
 exact(List.getElem_inj hN).mp (e1.trans e2.symm)
theorem ao3{M:Model}{A:Around}{E:Value->Shared->Prop}{i:Nat}{x:Str}{v:V}{u:Value}{Q:Unit->Shared->Prop}(I:Inv X pins σ H s) (hN:X.N.Nodup) (hi:X.N[i]? = some x) (hx:Loc X.env.scope x) (r:E9 v u)
  (h:∀s',Inv X pins (σ.set i (some v)) H s'->(∃a,Heap.SameBut a s.heap s'.heap/\(a=X.env.locals\/X.env.cells.lookup x=some a))->Q () s') (hf:X.fn x=true\/X.env.scope.names.lookup x=some .local:=by first|exact .inl rfl|exact .inr rfl|assumption):wpAny M A (storeName X.env x u) Q E s:=by
 obtain⟨m,hn,hl⟩:=id I.loc
 have hcls:(X.env.scope.kind == .class || (X.env.scope.kind == .module&&X.env.locals != X.env.globals))=false:=by rw[I.ok.kind];rfl
 have hiσ:i < σ.length:=by rw[I.len];exact(List.getElem?_eq_some_iff.mp hi).1
 have cne:=I.cne
 have tracked:∀{a:Addr}{h':Heap},(∃o,s.heap.get? a=some o/\H a=none)->Heap.SameBut a s.heap h'->HOk X.prog X.w H h':=fun{a h'} ha hs b ob e=>by
  obtain⟨_,_,hfree⟩:=ha
  refine(I.hok b ob e).stay (fun c w' hc q=>(hs.2 c ?_).trans q) (fun _ q=>q) fun _ _ q=>q
  rintro rfl
  rcases hc with rfl|hc
  ·rw[hfree]at e;cases e
  ·rw[hfree]at hc;cases hc
 rcases hx with hk|hk
 ·refine wpAny_storeName_local hk hn (fun h' hn' hs=>?_) hcls
  obtain⟨oL,_,_,hoL,_⟩:=id hn
  refine h _ ⟨I.ok,I.os,I.bare,⟨fun b o e n hb hx=>?_,fun b o e n hb hx=>?_,I.base.free,fun b o e hx=>?_,I.base.tups,I.base.frzs,I.base.tbls⟩,⟨_,hn',fun j y v' e1 e2 e3=>?_⟩,fun y c e=>?_,I.free,I.freeC,fun p hp=>?_,tracked ⟨oL,hoL,I.free⟩ hs,by simpa using I.len⟩ ⟨_,hs,.inl rfl⟩
  ·exact(hs.2 b (Nat.ne_of_lt (Nat.lt_of_lt_of_le (Heap.lt_size e) I.ok.above))).trans (I.base.keep b o e n hb hx)
  ·obtain⟨sl,e1⟩:=I.base.slot b o e n hb hx
   exact⟨sl,(hs.2 b (Nat.ne_of_lt (Nat.lt_of_lt_of_le (Heap.lt_size e) I.ok.above))).trans e1⟩
  ·obtain⟨o',e1⟩:=I.base.there b o e hx
   exact⟨o',(hs.2 b (Nat.ne_of_lt (Nat.lt_of_lt_of_le (Heap.lt_size e) I.ok.above))).trans e1⟩
  ·by_cases hj:j=i
   ·subst hj
    rw[hi]at e1;cases e1
    rw[List.getElem?_set_self hiσ]at e2
    cases e2
    exact⟨u,r,.inl ⟨hk,by simp⟩⟩
   ·rw[List.getElem?_set_ne (Ne.symm hj)]at e2
    obtain⟨u',r',q⟩:=hl j y v' e1 e2 e3
    refine⟨u',r',?_⟩
    rcases q with⟨k,e⟩|⟨k,c,e,z⟩
    ·refine .inl ⟨k,?_⟩
     have:y≠x:=fun e=>hj (ay5 hN e1 (e ▸ hi))
     simp[this,e]
    ·exact .inr ⟨k,c,e,z.sameBut hs (cne y c e)⟩
  ·obtain⟨w',z⟩:=I.cell y c e
   exact⟨w',z.sameBut hs (cne y c e)⟩
  ·obtain⟨e,n,ne,nf,d⟩:=I.pin p hp
   exact⟨(hs.2 p.1 ne).trans e,n,ne,nf,d⟩
 ·have hfn:X.fn x=true:=by
   rcases hf with z|z
   ·exact z
   ·rw[z]at hk;cases hk
  obtain⟨c,hc⟩:=I.ok.has x (.inl hk)
  obtain⟨w',z⟩:=I.cell x c hc
  refine wpAny_storeName_cell I.ok.kind hk hc z (fun h' hc' hs=>?_)
  obtain⟨oc,hoc,hocd⟩:=id z
  refine h { s with heap:=h' } ⟨I.ok,I.os,I.bare,⟨fun b o e n hb hx=>?_,fun b o e n hb hx=>?_,I.base.free,fun b o e hx=>?_,I.base.tups,I.base.frzs,I.base.tbls⟩,⟨m,hn.sameBut hs (Ne.symm (cne x c hc)),fun j y v' e1 e2 e3=>?_⟩,fun y c' e=>?_,I.free,I.freeC,fun p hp=>?_,tracked ⟨oc,hoc,I.freeC x c hc⟩ hs,by simpa using I.len⟩ ⟨c,hs,.inr hc⟩
  ·exact(hs.2 b (Nat.ne_of_lt (Nat.lt_of_lt_of_le (Heap.lt_size e) (I.ok.cab x c hfn hc)))).trans (I.base.keep b o e n hb hx)
  ·obtain⟨sl,e1⟩:=I.base.slot b o e n hb hx
   exact⟨sl,(hs.2 b (Nat.ne_of_lt (Nat.lt_of_lt_of_le (Heap.lt_size e) (I.ok.cab x c hfn hc)))).trans e1⟩
  ·obtain⟨o',e1⟩:=I.base.there b o e hx
   exact⟨o',(hs.2 b (Nat.ne_of_lt (Nat.lt_of_lt_of_le (Heap.lt_size e) (I.ok.cab x c hfn hc)))).trans e1⟩
  ·by_cases hj:j=i
   ·subst hj
    rw[hi]at e1;cases e1
    rw[List.getElem?_set_self hiσ]at e2
    cases e2
    exact⟨u,r,.inr ⟨.inl hk,c,hc,hc'⟩⟩
   ·rw[List.getElem?_set_ne (Ne.symm hj)]at e2
    obtain⟨u',r',q⟩:=hl j y v' e1 e2 e3
    refine⟨u',r',?_⟩
    rcases q with q|⟨k,c',e,z'⟩
    ·exact .inl q
    ·refine .inr ⟨k,c',e,z'.sameBut hs ?_⟩
     rintro rfl
     exact hj (ay5 hN e1 (I.ok.inj _ _ _ e hc ▸ hi))
  ·by_cases hcc:c'=c
   ·subst hcc;exact⟨_,hc'⟩
   ·obtain⟨w2,z2⟩:=I.cell y c' e
    exact⟨w2,z2.sameBut hs hcc⟩
  ·obtain⟨e,n,ne,nf,d⟩:=I.pin p hp
   refine⟨(hs.2 p.1 ?_).trans e,n,ne,nf,d⟩
   intro q
   rw[q,hoc]at e
   have q':oc=p.2:=Option.some.inj e
   exact d w' (by rw[← q'];exact hocd)
theorem X7{M:Model}{A:Around}{E:Value->Shared->Prop}{i:Nat}{x:Str}{v:V}{u:Value}{Q:Unit->Shared->Prop}(I:Inv X pins σ H s) (hN:X.N.Nodup) (hi:X.N[i]? = some x) (hx:Loc X.env.scope x) (r:E9 v u)
  (h:∀s',Inv X pins (σ.set i (some v)) H s'->Q () s') (hf:X.fn x=true\/X.env.scope.names.lookup x=some .local:=by first|exact .inl rfl|exact .inr rfl|assumption):wpAny M A (storeName X.env x u) Q E s :=
 ao3 I hN hi hx r (fun s' I' _=>h s' I') hf
theorem Inv.call'{s':Shared}{ch:List Addr}(I:Inv X pins σ H s) (ho:s'.os=s.os) (u:Un (frs X.stack) ch H H' s.heap s'.heap) (hok:HOk X.prog X.w H' s'.heap) (hg:AllBare s'.gens)
  (hch:∀b∈ch,(b∈X.ex\/X.s₀.heap.objs.size<=b)/\b≠X.env.locals/\(∀x c,X.env.cells.lookup x=some c->c≠b)/\∀p∈X.pn++pins,p.1≠b):Inv X pins σ H' s':=by
 obtain⟨h',g',d',t',o'⟩:=s'
 have e:o'=s.os:=ho
 subst e
 exact I.call (g':=g') (t':=t') (d':=d') u hok hg hch
end
noncomputable abbrev XK:=Value->Option Addr->Hp->Prop
noncomputable abbrev St:=List (Option V)
noncomputable abbrev VK:=V->Hp->Prop
noncomputable abbrev TE:=St->Hp->VK->Prop
noncomputable abbrev TT:=St->Hp->(Bool->Hp->Prop)->Prop
noncomputable abbrev TA:=St->Hp->(List V->Hp->Prop)->Prop
structure Ends where
 nx:St->Hp->Prop
 rt:VK
 bk:St->Hp->Prop:=fun _ _=>False
 ct:St->Hp->Prop:=fun _ _=>False
noncomputable abbrev TS:=Ends->St->Hp->Prop
noncomputable def EP(X:Cx) (pins:List (Addr×Obj)) (σ:St) (Q:VK) (u:Value) (s':Shared):Prop:=∃v H',Inv X pins σ H' s'/\E9 v u/\Q v H'
noncomputable def TP(X:Cx) (pins:List (Addr×Obj)) (σ:St) (Q:Bool->Hp->Prop) (b:Bool) (s':Shared):Prop:=∃H',Inv X pins σ H' s'/\Q b H'
noncomputable def AP(X:Cx) (pins:List (Addr×Obj)) (σ:St) (Q:List V->Hp->Prop) (us:List Value) (s':Shared):Prop:=∃vs H',Inv X pins σ H' s'/\D2 vs us/\Q vs H'
noncomputable def SP(X:Cx) (pins:List (Addr×Obj)) (D:Ends) (f:Flow) (s':Shared):Prop :=
 match f with
 | .next=>∃σ' H',Inv X pins σ' H' s'/\D.nx σ' H'
 | .brk=>∃σ' H',Inv X pins σ' H' s'/\D.bk σ' H'
 | .cont=>∃σ' H',Inv X pins σ' H' s'/\D.ct σ' H'
 | .ret u=>∃v σ' H',Inv X pins σ' H' s'/\E9 v u/\D.rt v H'
noncomputable def PE(X:Cx) (e:Expr) (t:TE):Prop :=
 ∀(pins:List (Addr×Obj)) (s:Shared) (σ:St) (H:Hp) (Q:VK),Inv X pins σ H s->t σ H Q->wpAny (model X.prog X.w) X.A (eval e X.env) (EP X pins σ Q) X.xe s
noncomputable def PT(X:Cx) (e:Expr) (t:TT):Prop :=
 ∀(pins:List (Addr×Obj)) (s:Shared) (σ:St) (H:Hp) (Q:Bool->Hp->Prop),Inv X pins σ H s->t σ H Q->wpAny (model X.prog X.w) X.A (isTrue e X.env (eval e X.env)) (TP X pins σ Q) X.xe s
noncomputable def PW(X:Cx) (e:Expr) (t:TT):Prop :=
 ∀(whole:Sem Value) (pins:List (Addr×Obj)) (s:Shared) (σ:St) (H:Hp) (Q:Bool->Hp->Prop),Inv X pins σ H s->t σ H Q->wpAny (model X.prog X.w) X.A (isTrue e X.env whole) (TP X pins σ Q) X.xe s
theorem PW.pt{X:Cx}{e:Expr}{t:TT}(h:PW X e t):PT X e t:=h _
noncomputable def PA(X:Cx) (es:List Expr) (t:TA):Prop :=
 ∀(pos:Pos) (pins:List (Addr×Obj)) (s:Shared) (σ:St) (H:Hp) (Q:List V->Hp->Prop),Inv X pins σ H s->t σ H Q->wpAny (model X.prog X.w) X.A (spliced (backTo pos (starEach es X.env))) (AP X pins σ Q) X.xe s
noncomputable def PS(X:Cx) (st:Stmt) (t:TS):Prop :=
 ∀(pins:List (Addr×Obj)) (s:Shared) (σ:St) (H:Hp) (D:Ends),Inv X pins σ H s->t D σ H->wpAny (model X.prog X.w) X.A (exec st X.env) (SP X pins D) X.xe s
noncomputable def PSs(X:Cx) (st:List Stmt) (t:TS):Prop :=
 ∀(pins:List (Addr×Obj)) (s:Shared) (σ:St) (H:Hp) (D:Ends),Inv X pins σ H s->t D σ H->wpAny (model X.prog X.w) X.A (execs st X.env) (SP X pins D) X.xe s
theorem thn{α:Type}{t:Sem α}{Q Q':α->Shared->Prop}{M:Model}{A:Around}{E:Value->Shared->Prop}{s:Shared}(h:wpAny M A t Q E s) (hQ:∀a s,Q a s->Q' a s):wpAny M A t Q' E s:=wpAny_mono h hQ fun _ _ x=>x
section
variable {X:Cx}
theorem bin{a b:Expr}{ta tb:TE}(ha:PE X a ta) (hb:PE X b tb) {pins:List (Addr×Obj)}{s:Shared}{σ:St}{H:Hp}{R:V->V->Hp->Prop}(I:Inv X pins σ H s) (h:ta σ H fun x H1=>tb σ H1 fun y H2=>R x y H2)
  {α:Type}{Q:α->Shared->Prop}{f:Value->Value->Sem α}
  (hf:∀v u s2 x y H2,Inv X pins σ H2 s2->E9 x v->E9 y u->R x y H2->wpAny (model X.prog X.w) X.A (f v u) Q X.xe s2) :
  wpAny (model X.prog X.w) X.A (eval a X.env) (fun v s₁=>wpAny (model X.prog X.w) X.A (eval b X.env) (fun u s₂=>wpAny (model X.prog X.w) X.A (f v u) Q X.xe s₂) X.xe s₁) X.xe s:=by
 refine thn (ha pins s σ H _ I h) fun v s1 ⟨x,H1,I1,r1,q1⟩=>?_
 refine thn (hb pins s1 σ H1 _ I1 q1) fun u s2 ⟨y,H2,I2,r2,q2⟩=>?_
 exact hf v u s2 x y H2 I2 r1 r2 q2
noncomputable def bP0(i:Nat):TE:=fun σ H Q=>∃v,σ[i]? = some (some v)/\Q v H
noncomputable def tC(v:V):TE:=fun _ H Q=>Q v H
theorem W3{i:Nat}{x:Str}{pos:Pos}(hN:X.N[i]? = some x) (hv:Vis X.env.scope x) (hd:(x==("__debug__" : Str))=false:=by decide) (hcd:(x==("__classdict__" : Str))=false:=by decide):PE X (.Name x pos) (bP0 i):=by
 intro pins s σ H Q I h
 obtain⟨v,e,h⟩:=h
 obtain⟨m,hn,hl⟩:=I.loc
 obtain⟨u,r,l⟩:=hl i x v hN e hv
 have fin:EP X pins σ Q u s:=⟨v,H,I,r,h⟩
 rcases l with⟨hk,hm⟩|⟨hk,c,hc,hcell⟩
 ·exact wpAny_Name (wpAny_loadName_local I.ok.kind hk hn hm fin) hd
 ·rcases hk with hk|hk
  ·exact wpAny_Name (wpAny_loadName_cell I.ok.kind hk hc hcell fin) hd
  ·exact wpAny_Name (wpAny_loadName_free I.ok.kind hk hc hcell fin hcd) hd
theorem bD5{i j pos}:PE X (.Constant (.int i) j pos) (tC (.int i)):=fun _ _ _ H _ I h=>wpAny_Constant_int ⟨.int i,H,I.tok _,⟨_,rfl⟩,h⟩
theorem bQ7{b j pos}:PE X (.Constant (.bool b) j pos) (tC (.bl b)):=fun _ _ _ H _ I h=>Constant_bool ⟨.bl b,H,I,rfl,h⟩
theorem bD3{j pos}:PE X (.Constant .none j pos) (tC .non):=fun _ _ _ H _ I h=>Constant_none ⟨.non,H,I,rfl,h⟩
theorem bC9{x j pos}:PE X (.Constant (.str x) j pos) (tC (.str x)):=fun _ _ _ H _ I h=>Calls.Constant_str ⟨.str x,H,I.tok _,⟨_,rfl⟩,h⟩
noncomputable def Gl(X:Cx) (x:Str):Prop:=X.env.kindOf x=some .globalImplicit
theorem W7{E:Value->Shared->Prop}{pins:List (Addr×Obj)}{s:Shared}{σ:St}{H:Hp}{x:Str}{u:Value}{pos:Pos}{Q:Value->Shared->Prop}(I:Inv X pins σ H s) (hg:Gl X x) (hm:X.mg x=some u) (h:Q u s)
  (hd:(x==("__debug__" : Str))=false:=by decide):wpAny (model X.prog X.w) X.A (eval (.Name x pos) X.env) Q E s :=
 Calls.Name_function_global I.ok.kind hg (Calls.loadGlobal_global (by rw[I.ok.glob];exact I.mod.glob.keeps I.bk) hm h) hd
theorem aj6{E:Value->Shared->Prop}{pins:List (Addr×Obj)}{s:Shared}{σ:St}{H:Hp}{x:Str}{u:Value}{pos:Pos}{Q:Value->Shared->Prop}(I:Inv X pins σ H s) (hg:Gl X x) (hm:X.mg x=none) (hv:bootBuiltins x=some u) (h:Q u s)
  (hn:x ≠ "__name__" := by decide) (hd:(x==("__debug__" : Str))=false:=by decide):wpAny (model X.prog X.w) X.A (eval (.Name x pos) X.env) Q E s:=by
 obtain⟨mb,h1,h2⟩:=I.mod.blt
 exact Calls.Name_function_global I.ok.kind hg (Calls.loadGlobal_builtin (by rw[I.ok.glob];exact I.mod.glob.keeps I.bk) hm (by rw[I.ok.blt];exact h1.keeps I.bk) ((h2 x hn).trans hv) h) hd
theorem bn8{x:Str}{v:V}{u:Value}{pos:Pos}(hg:Gl X x) (hm:X.mg x=some u) (r:E9 v u) (hd:(x==("__debug__" : Str))=false:=by decide):PE X (.Name x pos) (tC v) :=
 fun _ _ _ H _ I h=>W7 I hg hm ⟨v,H,I,r,h⟩ hd
theorem aL0{x:Str}{v:V}{u:Value}{pos:Pos}(hg:Gl X x) (hm:X.mg x=none) (hv:bootBuiltins x=some u) (r:E9 v u) (hn:x ≠ "__name__" := by decide) (hd:(x==("__debug__" : Str))=false:=by decide):PE X (.Name x pos) (tC v) :=
 fun _ _ _ H _ I h=>aj6 I hg hm hv ⟨v,H,I,r,h⟩ hn hd
variable {a b:Expr}{ta tb:TE}{pos:Pos}
variable {tA tB':TT}{M1:List Expr}
noncomputable def bX2(t u:TT):TT:=fun σ H Q=>t σ H fun c H1=>if c=true then u σ H1 Q else Q false H1
noncomputable def tOr(t u:TT):TT:=fun σ H Q=>t σ H fun c H1=>if c=true then Q true H1 else u σ H1 Q
noncomputable def bW8(t:TT):TT:=fun σ H Q=>t σ H fun c H1=>Q (!c) H1
theorem bm7(ha:PT X a tA):PW X (.BoolOp .And [a] pos) tA:=by
 intro wh pins s σ H Q I h
 refine isTrue_and (thn (ha pins s σ H Q I h) fun c s1 e=>?_)
 cases c with
 | true=>exact isTrue_and_nil e
 | false=>exact e
theorem bC0(ha:PT X a tA):PW X (.BoolOp .Or [a] pos) tA:=by
 intro wh pins s σ H Q I h
 refine isTrue_or (thn (ha pins s σ H Q I h) fun c s1 e=>?_)
 cases c with
 | false=>exact isTrue_or_nil e
 | true=>exact e
theorem aY9(ha:PT X a tA) (hb:PW X (.BoolOp .And (b::M1) pos) tB'):PW X (.BoolOp .And (a::b::M1) pos) (bX2 tA tB'):=by
 intro wh pins s σ H Q I h
 refine isTrue_and (thn (ha pins s σ H _ I h) fun c s1 ⟨H1,I1,q1⟩=>?_)
 cases c with
 | true=>exact hb wh pins s1 σ H1 Q I1 q1
 | false=>exact⟨H1,I1,q1⟩
theorem bw6(ha:PT X a tA) (hb:PW X (.BoolOp .Or (b::M1) pos) tB'):PW X (.BoolOp .Or (a::b::M1) pos) (tOr tA tB'):=by
 intro wh pins s σ H Q I h
 refine isTrue_or (thn (ha pins s σ H _ I h) fun c s1 ⟨H1,I1,q1⟩=>?_)
 cases c with
 | true=>exact⟨H1,I1,q1⟩
 | false=>exact hb wh pins s1 σ H1 Q I1 q1
theorem bC1(ha:PT X a tA):PT X (.UnaryOp .Not a pos) (bW8 tA):=by
 intro pins s σ H Q I h
 exact isTrue_not (ha pins s σ H (fun c H1=>Q (!c) H1) I h)
noncomputable def bP8(ta tb:TE):TE:=fun σ H Q=>ta σ H fun x H1=>∃c,x=.bl c/\if c=true then tb σ H1 Q else Q (.bl false) H1
noncomputable def bW7(ta tb:TE):TE:=fun σ H Q=>ta σ H fun x H1=>∃c,x=.bl c/\if c=true then Q (.bl true) H1 else tb σ H1 Q
noncomputable def bP2(ta:TE):TE:=fun σ H Q=>ta σ H fun x H1=>∃c,x=.bl c/\Q (.bl (!c)) H1
theorem bD1{op} {t:TE}(h:PE X a t):PE X (.BoolOp op [a] pos) t:=fun pins s σ H Q I hw=>BoolOp_one (h pins s σ H Q I hw)
theorem aZ9(ha:PE X a ta) (hb:PE X (.BoolOp .And (b::M1) pos) tb):PE X (.BoolOp .And (a::b::M1) pos) (bP8 ta tb):=by
 intro pins s σ H Q I h
 refine BoolOp_and (thn (ha pins s σ H _ I h) fun v s1 ⟨x,H1,I1,r1,q1⟩=>?_)
 obtain⟨c,rfl,q1⟩:=q1
 cases r1
 refine wpAny_truthy_bool ?_
 cases c with
 | true=>exact hb pins s1 σ H1 Q I1 q1
 | false=>exact⟨.bl false,H1,I1,rfl,q1⟩
theorem bw9(ha:PE X a ta) (hb:PE X (.BoolOp .Or (b::M1) pos) tb):PE X (.BoolOp .Or (a::b::M1) pos) (bW7 ta tb):=by
 intro pins s σ H Q I h
 refine BoolOp_or (thn (ha pins s σ H _ I h) fun v s1 ⟨x,H1,I1,r1,q1⟩=>?_)
 obtain⟨c,rfl,q1⟩:=q1
 cases r1
 refine wpAny_truthy_bool ?_
 cases c with
 | false=>exact hb pins s1 σ H1 Q I1 q1
 | true=>exact⟨.bl true,H1,I1,rfl,q1⟩
theorem bD2(ha:PE X a ta):PE X (.UnaryOp .Not a pos) (bP2 ta):=by
 intro pins s σ H Q I h
 refine UnaryOp_ (thn (ha pins s σ H _ I h) fun v s1 ⟨x,H1,I1,r1,q1⟩=>?_)
 obtain⟨c,rfl,q1⟩:=q1
 cases r1
 exact not_of (wpAny_truthy_bool ⟨.bl (!c),H1,I1,rfl,q1⟩)
noncomputable def tIf(t:TT) (ta tb:TE):TE:=fun σ H Q=>t σ H fun c H1=>if c=true then ta σ H1 Q else tb σ H1 Q
theorem ay2{c:Expr}(hc:PT X c tA) (ha:PE X a ta) (hb:PE X b tb):PE X (.IfExp c a b pos) (tIf tA ta tb):=by
 intro pins s σ H Q I h
 refine wpAny_IfExp (thn (hc pins s σ H _ I h) fun d s1 ⟨H1,I1,q1⟩=>?_)
 cases d with
 | true=>exact ha pins s1 σ H1 Q I1 q1
 | false=>exact hb pins s1 σ H1 Q I1 q1
end
noncomputable def SqL(K:PySem.W.Frag) (H:Hp) (a:Addr) (xs:List V):Prop :=
 Rd H a (.lst xs) \/
  ∃(o:Obj) (its:Array Value) (n:Nat),K.lookup a=some o/\o.cls=.type "list" /\ o.dict=none/\o.data=.seq its n/\its.size<=sizeLine/\D2 xs its.toList
noncomputable def SqT(K:PySem.W.Frag) (H:Hp) (a:Addr) (xs:List V):Prop :=
 Rd H a (.tup xs) \/
  ∃(o:Obj) (its:Array Value) (n:Nat),K.lookup a=some o/\o.cls=.type "tuple" /\ o.dict=none/\o.data=.seq its n/\its.size<=sizeLine/\D2 xs its.toList
noncomputable def bZ5:Value->Option V
 | .none=>some .non
 | .bool b=>some (.bl b)
 | .int i _=>some (.int i)
 | .str x _=>some (.str x)
 | .bytes b _=>some (.byt b)
 | .float b _=>some (.flt b)
 | .ref a=>some (.ref a)
 | .type n=>some (.ty n)
 | _=>none
theorem E9.abs{x:V}{u:Value}(r:E9 x u):bZ5 u=some x:=by
 cases x with
 | non=>cases r;rfl
 | bl _=>cases r;rfl
 | int _=>obtain⟨t,rfl⟩:=r;rfl
 | str _=>obtain⟨t,rfl⟩:=r;rfl
 | byt _=>obtain⟨t,rfl⟩:=r;rfl
 | flt _=>obtain⟨t,rfl⟩:=r;rfl
 | ref _=>cases r;rfl
 | ty _=>cases r;rfl
theorem E9.inj{x y:V}{u:Value}(r:E9 x u) (q:E9 y u):x=y:=Option.some.inj (r.abs.symm.trans q.abs)
theorem D2.inj:∀{xs ys:List V}{us:List Value},D2 xs us->D2 ys us->xs=ys
 | _,_,_,.nil,.nil=>rfl
 | _,_,_,.cons r t,.cons r' t'=>by rw[r.inj r',D2.inj t t']
section
variable {X:Cx}{pins:List (Addr×Obj)}{σ:St}{H:Hp}{s:Shared}{a:Addr}{xs ys:List V}
theorem SqL.of{K:PySem.W.Frag}(h:H a=some (.lst xs)):SqL K H a xs:=.inl (.inl h)
theorem SqT.of{K:PySem.W.Frag}(h:H a=some (.tup xs)):SqT K H a xs:=.inl (.inl h)
theorem Inv.list(I:Inv X pins σ H s) (h:SqL X.K H a xs):∃its:List Value,D2 xs its/\PlainL s.heap a its.toArray/\xs.length<=sizeLine:=by
 rcases h with h|⟨o,its,n,hk,hc,hd,hs,hz,r⟩
 ·obtain⟨z,its,n,r,e⟩:=h.ok I.hok
  exact⟨its,r,⟨_,n,e,rfl,rfl,rfl⟩,z⟩
 ·refine⟨its.toList,r,⟨o,n,I.kIn a o hk,hc,hd,by simpa using hs⟩,?_⟩
  have e:=r.length
  simp only[Array.length_toList]at e
  omega
theorem Inv.tupN(I:Inv X pins σ H s) (h:SqT X.K H a xs):∃its:List Value,D2 xs its/\al0 s.heap a its.toArray/\xs.length<=sizeLine:=by
 rcases h with h|⟨o,its,n,hk,hc,hd,hs,hz,r⟩
 ·obtain⟨z,its,r,p⟩:=h.ok I.hok
  exact⟨its,r,p,z⟩
 ·refine⟨its.toList,r,⟨o,I.kIn a o hk,hc,⟨n,by simpa using hs⟩,hd⟩,?_⟩
  have e:=r.length
  simp only[Array.length_toList]at e
  omega
theorem Inv.tuple(I:Inv X pins σ H s) (h:SqT X.K H a xs):∃its:List Value,D2 xs its/\IsTup s.heap a its.toArray/\xs.length<=sizeLine :=
 let⟨its,r,p,z⟩:=I.tupN h;⟨its,r,p.tup,z⟩
theorem Inv.list_inj(I:Inv X pins σ H s) (h:SqL X.K H a xs) (h':SqL X.K H a ys):xs=ys:=by
 obtain⟨its,r,⟨o,n,e,_,_,d⟩,_⟩:=I.list h
 obtain⟨its',r',⟨o',n',e',_,_,d'⟩,_⟩:=I.list h'
 rw[e]at e';cases e'
 rw[d]at d'
 injection d' with d1 _
 have:its=its':=by simpa using congrArg Array.toList d1
 subst this
 exact r.inj r'
theorem Inv.tuple_inj(I:Inv X pins σ H s) (h:SqT X.K H a xs) (h':SqT X.K H a ys):xs=ys:=by
 obtain⟨its,r,⟨o,e,_,n,d⟩,_⟩:=I.tuple h
 obtain⟨its',r',⟨o',e',_,n',d'⟩,_⟩:=I.tuple h'
 rw[e]at e';cases e'
 rw[d]at d'
 injection d' with d1 _
 have:its=its':=by simpa using congrArg Array.toList d1
 subst this
 exact r.inj r'
end
noncomputable abbrev Cx.wish(X:Cx) (E:Value->Shared->Prop):Cx:={ X with xe:=E }
noncomputable abbrev Cx.nox(X:Cx):Cx:=X.wish fun _ _=>False
theorem Cx.Ok.wish{X:Cx}(ok:X.Ok) (E:Value->Shared->Prop):(X.wish E).Ok :=
 ⟨ok.mod,ok.kind,ok.glob,ok.blt,ok.above,ok.inj,ok.has,ok.cab,ok.hd,ok.frames,ok.stk,ok.exf,ok.bs,ok.bsz,ok.noex,ok.exfs,ok.funs,ok.frf⟩
theorem Cx.Ok.unwish{X:Cx}{E:Value->Shared->Prop}(ok:(X.wish E).Ok):X.Ok :=
 ⟨ok.mod,ok.kind,ok.glob,ok.blt,ok.above,ok.inj,ok.has,ok.cab,ok.hd,ok.frames,ok.stk,ok.exf,ok.bs,ok.bsz,ok.noex,ok.exfs,ok.funs,ok.frf⟩
section
variable {X:Cx}{pins:List (Addr×Obj)}{σ:St}{H:Hp}{s:Shared}{E:Value->Shared->Prop}
theorem Inv.wish(I:Inv X pins σ H s) (E:Value->Shared->Prop):Inv (X.wish E) pins σ H s:=⟨I.ok.wish E,I.os,I.bare,I.base,I.loc,I.cell,I.free,I.freeC,I.pin,I.hok,I.len⟩
theorem Inv.unwish(I:Inv (X.wish E) pins σ H s):Inv X pins σ H s:=⟨I.ok.unwish,I.os,I.bare,I.base,I.loc,I.cell,I.free,I.freeC,I.pin,I.hok,I.len⟩
theorem SP.unwish{D:Ends}{f:Flow}{s':Shared}(h:SP (X.wish E) pins D f s'):SP X pins D f s':=by
 cases f with
 | next=>obtain⟨σ',H',I,q⟩:=h;exact⟨σ',H',I.unwish,q⟩
 | brk=>obtain⟨σ',H',I,q⟩:=h;exact⟨σ',H',I.unwish,q⟩
 | cont=>obtain⟨σ',H',I,q⟩:=h;exact⟨σ',H',I.unwish,q⟩
 | ret u=>obtain⟨v,σ',H',I,r,q⟩:=h;exact⟨v,σ',H',I.unwish,r,q⟩
theorem PSs.nox{st:List Stmt}{t:TS}(h:PSs X.nox st t):PSs X st t:=fun pins s σ H D I hw =>wpAny_mono (h pins s σ H D (I.wish _) hw) (fun _ _ q=>q.unwish) fun _ _ z=>False.elim z
end
section
variable {X:Cx}{st:Stmt}{M1:List Stmt}{t u:TS}{e:Expr}{te:TE}{pos:Pos}
noncomputable def bw2:TS:=fun D σ H=>D.nx σ H
noncomputable def bW4(t u:TS):TS:=fun D σ H=>t { D with nx:=u D } σ H
theorem bn1:PSs X [] bw2:=fun _ _ σ H _ I h=>wpAny_execs_nil ⟨σ,H,I,h⟩
theorem Y6(h1:PS X st t) (h2:PSs X M1 u):PSs X (st::M1) (bW4 t u):=by
 intro pins s σ H D I h
 refine wpAny_execs_cons (thn (h1 pins s σ H { D with nx:=u D } I h) fun f s1 q=>?_)
 cases f with
 | next =>
  obtain⟨σ',H',I',q⟩:=q
  exact h2 pins s1 σ' H' D I' q
 | ret v=>exact q
 | brk=>exact q
 | cont=>exact q
theorem as9(h1:PS X st t):PSs X [st] t:=by
 intro pins s σ H D I h
 refine wpAny_execs_cons (thn (h1 pins s σ H D I h) fun f s1 q=>?_)
 cases f with
 | next=>exact wpAny_execs_nil q
 | ret v=>exact q
 | brk=>exact q
 | cont=>exact q
noncomputable def bB2:TS:=fun D σ H=>D.bk σ H
noncomputable def bP5:TS:=fun D σ H=>D.ct σ H
theorem bn2:PS X (.Pass pos) bw2:=fun _ _ σ H _ I h=>wpAny_Pass ⟨σ,H,I,h⟩
theorem aZ3:PS X (.Break pos) bB2:=fun _ _ σ H _ I h=>wpAny_Break ⟨σ,H,I,h⟩
theorem ay0:PS X (.Continue pos) bP5:=fun _ _ σ H _ I h=>wpAny_Continue ⟨σ,H,I,h⟩
theorem Inv.quiet{pins:List (Addr×Obj)}{σ:St}{H:Hp}{s:Shared}(I:Inv X pins σ H s):interactive X.env=false:=by simp[interactive,I.ok.kind]
noncomputable def bP4(te:TE):TS:=fun D σ H=>te σ H fun _ H1=>D.nx σ H1
theorem at0(he:PE X e te) (hs:swapsWith e none pos.line X.env=pure false:=by rfl):PS X (.Expr e pos) (bP4 te):=by
 intro pins s σ H D I h
 exact wpAny_Expr_any (thn (he pins s σ H _ I h) fun v s1 ⟨x,H1,I1,r1,q1⟩=>⟨σ,H1,I1,q1⟩) I.quiet hs
noncomputable def bW5(te:TE):TS:=fun D σ H=>te σ H D.rt
theorem aF5(he:PE X e te):PS X (.Return (some e) pos) (bW5 te):=by
 intro pins s σ H D I h
 exact wpAny_Return_some (thn (he pins s σ H _ I h) fun v s1 ⟨x,H1,I1,r1,q1⟩=>⟨x,σ,H1,I1,r1,q1⟩)
noncomputable def bX0(c:TT) (t u:TS):TS:=fun D σ H=>c σ H fun b H1=>if b=true then t D σ H1 else u D σ H1
theorem bw7{c:Expr}{a b:List Stmt}{tc:TT}(hc:PT X c tc) (ha:PSs X a t) (hb:PSs X b u):PS X (.If c a b pos) (bX0 tc t u):=by
 intro pins s σ H D I h
 refine wpAny_If (thn (hc pins s σ H _ I h) fun d s1 ⟨H1,I1,q1⟩=>?_)
 cases d with
 | true=>exact ha pins s1 σ H1 D I1 q1
 | false=>exact hb pins s1 σ H1 D I1 q1
noncomputable def bB1:TS:=fun _ _ _=>False
theorem U4{sts:List Stmt}:PSs X sts bB1:=fun _ _ _ _ _ _ h=>h.elim
end
noncomputable abbrev TG:=V->St->Hp->(St->Hp->Prop)->Prop
noncomputable abbrev TGs:=List V->St->Hp->(St->Hp->Prop)->Prop
noncomputable def PG(X:Cx) (target:Expr) (t:TG):Prop :=
 ∀(pins:List (Addr×Obj)) (s:Shared) (σ:St) (H:Hp) (v:V) (u:Value) (Q:St->Hp->Prop),Inv X pins σ H s->E9 v u->t v σ H Q ->
  wpAny (model X.prog X.w) X.A (assign target X.env u) (fun _ s'=>∃σ' H',Inv X pins σ' H' s'/\Q σ' H') X.xe s
noncomputable def PGs(X:Cx) (ts:List Expr) (t:TGs):Prop :=
 ∀(pins:List (Addr×Obj)) (s:Shared) (σ:St) (H:Hp) (vs:List V) (us:List Value) (Q:St->Hp->Prop),Inv X pins σ H s->D2 vs us->t vs σ H Q ->
  wpAny (model X.prog X.w) X.A (assignInOrder ((assignEach ts X.env).map (·.2)) us) (fun _ s'=>∃σ' H',Inv X pins σ' H' s'/\Q σ' H') X.xe s
section
variable {X:Cx}{pos:Pos}
noncomputable def bx9(i:Nat):TG:=fun v σ H Q=>Q (σ.set i (some v)) H
theorem bn7{i:Nat}{x:Str}(hN:X.N.Nodup) (hi:X.N[i]? = some x) (hx:Loc X.env.scope x) (hf:X.fn x=true\/X.env.scope.names.lookup x=some .local:=by first|exact .inl rfl|exact .inr rfl|assumption):PG X (.Name x pos) (bx9 i):=by
 intro pins s σ H v u Q I r h
 exact wpAny_assign_Name (X7 I hN hi hx r (fun s' I'=>⟨_,H,I',h⟩) hf)
noncomputable def bY9:TGs:=fun vs σ H Q=>vs=[]/\Q σ H
noncomputable def bU2(t:TG) (u:TGs):TGs:=fun vs σ H Q=>∃v r,vs=v::r/\t v σ H fun σ' H'=>u r σ' H' Q
theorem bn6:PGs X [] bY9:=by
 intro pins s σ H vs us Q I r h
 obtain⟨e,h⟩:=h
 subst e
 cases r
 exact assignInOrder_nil ⟨σ,H,I,h⟩
theorem aZ7{e:Expr}{es:List Expr}{t:TG}{u:TGs}(h1:PG X e t) (h2:PGs X es u)
  (hs:(assignEach (e::es) X.env).map (·.2)=assign e X.env::(assignEach es X.env).map (·.2):=by rfl):PGs X (e::es) (bU2 t u):=by
 intro pins s σ H vs us Q I r h
 obtain⟨v,vr,e1,h⟩:=h
 subst e1
 cases r with
 | cons r rr =>
  rw[hs]
  refine assignInOrder_cons (thn (h1 pins s σ H _ _ _ I r h) fun _ s1 ⟨σ1,H1,I1,q1⟩=>?_)
  exact h2 pins s1 σ1 H1 _ _ Q I1 rr q1
noncomputable def bY8(K:PySem.W.Frag) (n:Nat) (t:TGs):TG:=fun v σ H Q=>∃a xs,v=.ref a/\SqT K H a xs/\xs.length=n/\t xs σ H Q
theorem bC7{es:List Expr}{k:Nat}{t:TGs}{n:Nat}(hc:X.calm=true) (h:PGs X es t)
  (hn:(assignEach es X.env).length=n:=by rfl) (hst:(assignEach es X.env).findIdx? (·.1)=none:=by rfl):PG X (.Tuple es k pos) (bY8 X.K n t):=by
 intro pins s σ H v u Q I r hw
 obtain⟨a,xs,e1,hq,hl,hw⟩:=hw
 subst e1
 cases r
 obtain⟨its,rv,ht,hz⟩:=I.tuple hq
 refine assign_Tuple_tuple (I.ok.hd hc) ht (by simp[hn,← hl,rv.length]) hst fun h' hx=>?_
 have I1:Inv X pins σ H { s with heap:=h' }:=I.kept (t':=s.toks) fun b o e=>hx b o (Nat.ne_of_lt (Heap.lt_size e)) e
 exact h pins _ σ H xs _ Q I1 (by simpa using rv) hw
noncomputable def bP7(te:TE) (g:TG):TS:=fun D σ H=>te σ H fun x H1=>g x σ H1 D.nx
theorem bC5{tg e:Expr}{te:TE}{g:TG}(he:PE X e te) (hg:PG X tg g) (hs:swapsWithSole [tg] e pos.line X.env=pure false:=by rfl) (hw:swappedStores [tg] e X.env=pure none:=by rfl)
  (h1:(assignEach [tg] X.env).map (·.2)=[assign tg X.env]:=by rfl):PS X (.Assign [tg] e pos) (bP7 te g):=by
 intro pins s σ H D I h
 refine wpAny_Assign_stores (thn (he pins s σ H _ I h) fun v s1 ⟨x,H1,I1,r1,q1⟩=>?_) hs hw
 rw[h1]
 exact thn (hg pins s1 σ H1 x v _ I1 r1 q1) fun _ s2 q=>q
theorem aZ2{i:Nat}{x:Str}{e:Expr}{te:TE}{pos':Pos}(hN:X.N.Nodup) (hi:X.N[i]? = some x) (hx:Loc X.env.scope x) (he:PE X e te) (hs:swapsWith e (some (.Name x pos')) pos.line X.env=pure false:=by rfl) (hf:X.fn x=true\/X.env.scope.names.lookup x=some .local:=by first|exact .inl rfl|exact .inr rfl|assumption) :
  PS X (.Assign [.Name x pos'] e pos) (bP7 te (bx9 i)):=by
 intro pins s σ H D I h
 refine wpAny_Assign_Name (thn (he pins s σ H _ I h) fun v s1 ⟨y,H1,I1,r1,q1⟩=>?_) hs
 exact X7 I1 hN hi hx r1 (fun s2 I2=>⟨_,H1,I2,q1⟩) hf
noncomputable def bW6(i j:Nat) (ta:TA):TS:=fun D σ H=>ta σ H fun vs H1=>∃v w,vs=[v,w]/\D.nx ((σ.set i (some v)).set j (some w)) H1
theorem bC3{i j:Nat}{x y:Str}{a b:Expr}{ta:TA}{px py pt:Pos}{kt k2 pt2} (hc:X.calm=true) (hN:X.N.Nodup) (hi:X.N[i]? = some x) (hj:X.N[j]? = some y) (hij:i≠j)
  (hx:X.env.scope.names.lookup x=some .local) (hy:X.env.scope.names.lookup y=some .local) (ha:PA X [a,b] ta)
  (hw:swappedStores [.Tuple [.Name x px,.Name y py] kt pt] (.Tuple [a,b] k2 pt2) X.env=pure (some [x,y]))
  (hs:swapsWithSole [.Tuple [.Name x px,.Name y py] kt pt] (.Tuple [a,b] k2 pt2) pos.line X.env=pure false:=by rfl) :
  PS X (.Assign [.Tuple [.Name x px,.Name y py] kt pt] (.Tuple [a,b] k2 pt2) pos) (bW6 i j ta):=by
 intro pins s σ H D I h
 rw[exec_Assign_arm]
 refine wpAny_bind (wpAny_standAt ?_)
 rw[hs]
 refine wpAny_bind (wpAny_pure ?_)
 rw[if_neg (by decide)]
 refine wpAny_bind (Tuple_ (thn (ha _ pins s σ H _ I h) fun us s1 ⟨vs,H1,I1,r1,q1⟩=>?_))
 obtain⟨v,w,e1,q1⟩:=q1
 subst e1
 obtain⟨u1,u2,rfl,rv,rw'⟩:∃u1 u2,us=[u1,u2]/\E9 v u1/\E9 w u2:=by
  cases r1 with
  | cons p q =>
   cases q with
   | cons p' q' =>
    cases q'
    exact⟨_,_,rfl,p,p'⟩
 refine wpAny_newObj_type ?_ (by show 2<=sizeLine;decide)
 have I2:Inv X pins σ H1 { s1 with heap:=s1.heap.push { cls:=.type "tuple", data:=.seq [u1,u2].toArray } }:=I1.kept (t':=s1.toks) fun b o e=>Heap.get?_push_of_some _ e
 rw[hw]
 refine wpAny_bind (wpAny_pure ?_)
 show wpAny (model X.prog X.w) X.A (do rule "assign.swapped-stores";let items ← unpackItems (.ref s1.heap.objs.size) 2 none;assignInOrder [fun v=>bindName X.env y v,fun v=>bindName X.env x v] items.reverse;pure Flow.next) _ _ _
 refine wpAny_bind (wpAny_rule (wpAny_bind (unpackItems_tuple (items:=#[u1,u2]) (I.ok.hd hc) (IsTup.new s1.heap _) fun h' hx'=>?_)))
 have I3:=I2.kept (h':=h') (t':=s1.toks) fun b o e=>hx' b o (Nat.ne_of_lt (Heap.lt_size e)) e
 show wpAny _ _ (assignInOrder [fun v=>bindName X.env y v,fun v=>bindName X.env x v] [u2,u1] >>= fun _=>pure Flow.next) _ _ _
 refine wpAny_bind (assignInOrder_cons (wpAny_bindName (X7 I3 hN hj (.inl hy) rw' (fun s2 I4=>?_) (.inr hy))))
 refine assignInOrder_cons (wpAny_bindName (X7 I4 hN hi (.inl hx) rv (fun s3 I5=>assignInOrder_nil (wpAny_pure ?_)) (.inr hx)))
 rw[List.set_comm _ _ (Ne.symm hij)]at I5
 exact⟨_,H1,I5,q1⟩
end
section
variable {X:Cx}{pos:Pos}
noncomputable def bB0(c:TT) (tb:TS):TS:=fun D σ H=>∃W:Nat->St->Hp->Prop,(∃m,W m σ H)/\∀m σ H,W m σ H ->
 c σ H fun b H1=>if b=true then ∃N:St->Hp->Prop,(∀σ' H',N σ' H'->∃m',m' < m/\W m' σ' H')/\tb { D with nx:=N,ct:=N,bk:=D.nx } σ H1 else D.nx σ H1
theorem aZ1{c:Expr}{body:List Stmt}{tc:TT}{tb:TS}(hp:PassesOwn (model X.prog X.w) X.A X.env X.xe) (hc:PT X c tc) (hb:PSs X body tb):PS X (.While c body [] pos) (bB0 tc tb):=by
 intro pins s σ H D I h
 obtain⟨W,⟨m0,w0⟩,turn⟩:=h
 refine wpAny_While (codeAny_whileLoop (fun n s'=>∃σ' H',Inv X pins σ' H' s'/\W n σ' H') ?_ m0 ⟨σ,H,I,w0⟩)
 rintro n s1 ⟨σ1,H1,I1,w1⟩
 refine wpAny_passesOwn hp (thn (hc pins s1 σ1 H1 _ I1 (turn n σ1 H1 w1)) fun b s2 ⟨H2,I2,q2⟩=>?_)
 cases b with
 | true =>
  obtain⟨N,hN,q2⟩:=q2
  rw[if_pos rfl]
  refine wpAny_passesOwn hp (thn (hb pins s2 σ1 H2 _ I2 q2) fun f s3 q3=>?_)
  cases f with
  | next =>
   obtain⟨σ3,H3,I3,n3⟩:=q3
   obtain⟨m',hm,w3⟩:=hN σ3 H3 n3
   exact⟨m',hm,σ3,H3,I3,w3⟩
  | cont =>
   obtain⟨σ3,H3,I3,n3⟩:=q3
   obtain⟨m',hm,w3⟩:=hN σ3 H3 n3
   exact⟨m',hm,σ3,H3,I3,w3⟩
  | brk=>exact q3
  | ret v=>exact q3
 | false =>
  rw[if_neg Bool.false_ne_true]
  exact wpAny_execs_nil ⟨σ1,H2,I2,q2⟩
end
structure It where
 go:Nat->Hp->Prop
 yld:Nat->Hp->V->Hp->Prop
 stop:Nat->Hp->Prop
noncomputable def ad7(X:Cx) (pins:List (Addr×Obj)) (H:Hp) (b:Addr):Prop :=
 H b=none/\b≠X.env.locals/\b∉X.fs/\(b∈X.ex\/X.s₀.heap.objs.size<=b)/\(∀x c,X.env.cells.lookup x=some c->c≠b)/\∀p∈X.pn++pins,p.1≠b
theorem Inv.fpOk{X:Cx}{pins:List (Addr×Obj)}{σ:St}{H H':Hp}{s:Shared}{b:Addr}(I:Inv X pins σ H s) (hb:s.heap.objs.size<=b) (hn:H' b=none):ad7 X pins H' b:=by
 refine⟨hn,Nat.ne_of_gt (Nat.lt_of_lt_of_le I.lt hb),I.nofs hb,.inr (Nat.le_trans I.sz hb),fun x c e z=>?_,fun p hp z=>?_⟩
 ·obtain⟨v,q⟩:=I.cell x c e
  exact absurd (Nat.lt_of_lt_of_le q.lt (by rw[z];exact hb)) (Nat.lt_irrefl _)
 ·exact absurd (Nat.lt_of_lt_of_le (Heap.lt_size (I.pin p hp).1) (by rw[z];exact hb)) (Nat.lt_irrefl _)
structure Turn (P:Program) (w:World) (K:PySem.W.Frag) (tg:Expr) (J:It) (fp:List Addr) (it:Addr) (tn:Nat->Heap->Prop):Prop where
 mem:it∈fp
 obj:∀i h,tn i h->∀b∈fp,∃o,h.get? b=some o/\∀v,o.data≠.cell v
 keep:∀i h h',tn i h->(∀b∈fp,∀o,h.get? b=some o->h'.get? b=some o)->tn i h'
 item:∀(X:Cx),X.prog=P->X.w=w->X.K=K->X.calm=true->∀(i:Nat) (pins:List (Addr×Obj)) (s:Shared) (σ:St) (H:Hp) (E:Value->Shared->Prop),Inv X pins σ H s->(∀b∈fp,ad7 X pins H b)->tn i s.heap->J.go i H ->
  wpAny (model P w) X.A (pyNext (.ref it)) (fun r s1=>∃u,r=some u /\
   wpAny (model P w) X.A (letOwnedTupleGo tg (.ref it) u) (fun _ s2=>∃x H',Inv X pins σ H' s2/\E9 x u/\J.yld i H x H'/\tn (i+1) s2.heap/\∀b∈fp,H' b=none) E s1) E s
 done:∀(X:Cx),X.prog=P->X.w=w->X.K=K->X.calm=true->∀(i:Nat) (pins:List (Addr×Obj)) (s:Shared) (σ:St) (H:Hp) (E:Value->Shared->Prop),Inv X pins σ H s->(∀b∈fp,ad7 X pins H b)->tn i s.heap->J.stop i H ->
  wpAny (model P w) X.A (pyNext (.ref it)) (fun r s1=>r=none/\Inv X pins σ H s1) E s
 self:∀(A:Around) (i:Nat) (s:Shared) (Q:Value->Shared->Prop) (E:Value->Shared->Prop),tn i s.heap->Q (.ref it) s->wpAny (model P w) A (pyIter (.ref it)) Q E s
noncomputable abbrev TI:=St->Hp->(It->Hp->Prop)->Prop
noncomputable def PIE(X:Cx) (pins:List (Addr×Obj)) (σ:St) (tg:Expr) (R:It->Hp->Prop) (itv:Value) (s2:Shared):Prop :=
 ∃(it:Addr) (fp:List Addr) (tn:Nat->Heap->Prop) (J:It) (H':Hp),itv=.ref it/\Inv X pins σ H' s2/\Turn X.prog X.w X.K tg J fp it tn/\tn 0 s2.heap/\(∀b∈fp,ad7 X pins H' b)/\R J H'
noncomputable def PI(X:Cx) (tg iter:Expr) (wi:TI):Prop :=
 ∀(pins:List (Addr×Obj)) (s:Shared) (σ:St) (H:Hp) (R:It->Hp->Prop),Inv X pins σ H s->wi σ H R ->
  wpAny (model X.prog X.w) X.A (eval iter X.env) (fun v s1=>wpAny (model X.prog X.w) X.A (pyIter v) (PIE X pins σ tg R) X.xe s1) X.xe s
theorem aM7{M:Model}{A:Around}{E:Value->Shared->Prop}{s:Shared}{tg:Expr}{it:Addr}{u:Value}{o:Obj}{n:String}{vs:Array Value}{Q:Unit->Shared->Prop}(ho:s.heap.get? it=some o) (hc:o.cls=.type n) (hd:o.data=.fields vs)
    (hn:["enumerate", "zip", "dict_itemiterator", "dict_reverseitemiterator", "odict_iterator", "itertools.zip_longest", "itertools.pairwise"].contains n=false) (hQ:Q () s):wpAny M A (letOwnedTupleGo tg (.ref it) u) Q E s:=by
  unfold letOwnedTupleGo
  cases tg<;>first
    | exact wpAny_pure hQ
    | (cases u<;>first
        | exact wpAny_pure hQ
        | (refine wpAny_bind (wpAny_load ho ?_)
           rw[hc,hd]
           show wpAny M A (if(["enumerate", "zip", "dict_itemiterator", "dict_reverseitemiterator", "odict_iterator", "itertools.zip_longest", "itertools.pairwise"].contains n&&vs[0]? == some (rawInt _))=true then _ else _) Q E s
           rw[if_neg (by intro h;rw[hn,Bool.false_and]at h;cases h)]
           exact wpAny_pure hQ))
noncomputable def Itl(K:PySem.W.Frag) (a:Addr):It :=
 ⟨fun i H=>∃xs x,SqL K H a xs/\xs[i]? = some x,fun i H x H'=>H'=H/\∀xs,SqL K H a xs->xs[i]? = some x,fun i H=>∃xs,SqL K H a xs/\xs.length<=i⟩
noncomputable def Itt(K:PySem.W.Frag) (a:Addr):It :=
 ⟨fun i H=>∃xs x,SqT K H a xs/\xs[i]? = some x,fun i H x H'=>H'=H/\∀xs,SqT K H a xs->xs[i]? = some x,fun i H=>∃xs,SqT K H a xs/\xs.length<=i⟩
noncomputable def Itr(lo:Int) (n:Nat):It:=⟨fun i _=>i < n,fun i H x H'=>H'=H/\x=.int (lo+i),fun i _=>n<=i⟩
theorem aO8{P:Program}{w:World}{K:PySem.W.Frag}{tg:Expr}(a it:Addr):Turn P w K tg (Itl K a) [it] it (fun i h=>h.IsListIter it a i) where
 mem:=by simp
 obj:=fun i h st b hb=>by
  have e:b=it:=by simpa using hb
  subst e
  obtain⟨o,e,c,d⟩:=st
  exact⟨o,e,fun v z=>by rw[d]at z;cases z⟩
 keep:=fun i h h' st k=>st.at fun o e=>k it (by simp) o e
 item:=by
  intro X hP hw hK hc i pins s σ H E I hf st hg
  subst hP hw hK
  obtain⟨xs,x,hq,hx⟩:=hg
  obtain⟨its,rv,p,hz⟩:=I.list hq
  obtain⟨u,hu,ru⟩:=rv.get hx
  obtain⟨f0,f1,f2,f3,f4,f5⟩:=hf it (by simp)
  refine wpAny_pyNext_list_item st p.isList (x:=u) (by simpa using hu) fun h' st' sb=>?_
  have I1:Inv X pins σ H { s with heap:=h' }:=I.turned (t':=s.toks) (fun b o hb e=>(sb.2 b hb).trans e) f0 f1 f3 f4 f5
  obtain⟨o,e,c,d⟩:=id st'
  exact⟨u,rfl,aM7 (s:={ s with heap:=h' }) e c d (by decide) ⟨x,H,I1,ru,⟨rfl,fun ys hy=>by rw[I.list_inj hy hq];exact hx⟩,st',fun b hb=>(hf b hb).1⟩⟩
 done:=by
  intro X hP hw hK hc i pins s σ H E I hf st hg
  subst hP hw hK
  obtain⟨xs,hq,hx⟩:=hg
  obtain⟨its,rv,p,hz⟩:=I.list hq
  obtain⟨f0,f1,f2,f3,f4,f5⟩:=hf it (by simp)
  have hl:=rv.length
  exact wpAny_pyNext_list_end (I.ok.hd hc) st p.isList (by simp;omega) fun h' eb=>⟨rfl,I.turned (t':=s.toks) (fun b o hb e=>eb b o hb e) f0 f1 f3 f4 f5⟩
 self:=fun _ _ _ _ _ st h=>wpAny_pyIter_listiter st h
theorem aD5{P:Program}{w:World}{K:PySem.W.Frag}{tg:Expr}(a it:Addr):Turn P w K tg (Itt K a) [it] it (fun i h=>h.IsTupleIter it a i) where
 mem:=by simp
 obj:=fun i h st b hb=>by
  have e:b=it:=by simpa using hb
  subst e
  obtain⟨o,e,c,d⟩:=st
  exact⟨o,e,fun v z=>by rw[d]at z;cases z⟩
 keep:=fun i h h' st k=>st.at fun o e=>k it (by simp) o e
 item:=by
  intro X hP hw hK hc i pins s σ H E I hf st hg
  subst hP hw hK
  obtain⟨xs,x,hq,hx⟩:=hg
  obtain⟨its,rv,p,hz⟩:=I.tuple hq
  obtain⟨u,hu,ru⟩:=rv.get hx
  obtain⟨f0,f1,f2,f3,f4,f5⟩:=hf it (by simp)
  refine wpAny_pyNext_tuple_item st (show s.heap.IsTuple a its.toArray from p) (x:=u) (by simpa using hu) fun h' st' sb=>?_
  have I1:Inv X pins σ H { s with heap:=h' }:=I.turned (t':=s.toks) (fun b o hb e=>(sb.2 b hb).trans e) f0 f1 f3 f4 f5
  obtain⟨o,e,c,d⟩:=id st'
  exact⟨u,rfl,aM7 (s:={ s with heap:=h' }) e c d (by decide) ⟨x,H,I1,ru,⟨rfl,fun ys hy=>by rw[I.tuple_inj hy hq];exact hx⟩,st',fun b hb=>(hf b hb).1⟩⟩
 done:=by
  intro X hP hw hK hc i pins s σ H E I hf st hg
  subst hP hw hK
  obtain⟨xs,hq,hx⟩:=hg
  obtain⟨its,rv,p,hz⟩:=I.tuple hq
  obtain⟨f0,f1,f2,f3,f4,f5⟩:=hf it (by simp)
  have hl:=rv.length
  exact wpAny_pyNext_tuple_end (I.ok.hd hc) st (show s.heap.IsTuple a its.toArray from p) (by simp;omega) fun h' eb=>⟨rfl,I.turned (t':=s.toks) (fun b o hb e=>eb b o hb e) f0 f1 f3 f4 f5⟩
 self:=fun _ _ _ _ _ st h=>wpAny_pyIter_tupleiter st h
theorem aD6{P:Program}{w:World}{K:PySem.W.Frag}{tg:Expr}(it:Addr) (lo:Int) (n:Nat):Turn P w K tg (Itr lo n) [it] it (fun i h=>IsRangeIter h it (lo+(i:Nat)*1) ((n:Int) - (i:Nat)) 1) where
 mem:=by simp
 obj:=fun i h st b hb=>by
  have e:b=it:=by simpa using hb
  subst e
  exact⟨_,st,fun v z=>by
   have z':Data.fields _=Data.cell v:=z
   cases z'⟩
 keep:=fun i h h' st k=>k it (by simp) _ st
 item:=by
  intro X hP hw hK hc i pins s σ H E I hf st hg
  subst hP hw hK
  obtain⟨f0,f1,f2,f3,f4,f5⟩:=hf it (by simp)
  have W:=Walks.range (prog:=X.prog) (w:=X.w) (I.ok.hd hc) it lo 1 n
  refine W.item i s _ _ hg st fun v h' tk hv st' kk=>?_
  obtain⟨t,rfl⟩:=hv
  have I1:Inv X pins σ H { s with heap:=h',toks:=tk }:=I.turned (fun b o hb e=>kk b o (by simpa using hb) e) f0 f1 f3 f4 f5
  refine⟨_,rfl,aM7 (s:={ s with heap:=h',toks:=tk }) (n := "range_iterator") st' rfl rfl (by decide) ⟨.int (lo+i),H,I1,⟨t,?_⟩,⟨rfl,rfl⟩,st',fun b hb=>(hf b hb).1⟩⟩
  rw[Int.mul_one]
 done:=by
  intro X hP hw hK hc i pins s σ H E I hf st hg
  subst hP hw hK
  obtain⟨f0,f1,f2,f3,f4,f5⟩:=hf it (by simp)
  exact wpAny_pyNext_range_end (I.ok.hd hc) st (by have:n<=i:=hg;omega) fun h' eb=>⟨rfl,I.turned (t':=s.toks) (fun b o hb e=>eb b o hb e) f0 f1 f3 f4 f5⟩
 self:=fun _ _ _ _ _ st h=>wpAny_pyIter_rangeiter st h
section
variable {X:Cx}{tg:Expr}
noncomputable def bU1(K:PySem.W.Frag) (tl:TE):TI:=fun σ H R=>tl σ H fun x H1=>∃a,x=.ref a/\(∃xs,SqL K H1 a xs)/\R (Itl K a) H1
noncomputable def bY7(K:PySem.W.Frag) (tl:TE):TI:=fun σ H R=>tl σ H fun x H1=>∃a,x=.ref a/\(∃xs,SqT K H1 a xs)/\R (Itt K a) H1
theorem bn5{l:Expr}{tl:TE}(hl:PE X l tl):PI X tg l (bU1 X.K tl):=by
 intro pins s σ H R I h
 refine thn (hl pins s σ H _ I h) fun v s1 ⟨x,H1,I1,r1,q1⟩=>?_
 obtain⟨a,e,⟨xs,hq⟩,q⟩:=q1
 subst e
 cases r1
 obtain⟨its,rv,p,hz⟩:=I1.list hq
 refine wpAny_pyIter_list p.isList ?_
 refine⟨s1.heap.objs.size,[s1.heap.objs.size],_,_,H1,rfl,I1.kept (t':=s1.toks) fun b o e=>Heap.get?_push_of_some _ e,aO8 a _,⟨_,Heap.get?_push_size _ rfl,rfl,rfl⟩,fun b hb=>?_,q⟩
 have e:b=s1.heap.objs.size:=by simpa using hb
 subst e
 exact I1.fpOk (Nat.le_refl _) (I1.hok.fresh (Nat.le_refl _))
theorem bC6{l:Expr}{tl:TE}(hl:PE X l tl):PI X tg l (bY7 X.K tl):=by
 intro pins s σ H R I h
 refine thn (hl pins s σ H _ I h) fun v s1 ⟨x,H1,I1,r1,q1⟩=>?_
 obtain⟨a,e,⟨xs,hq⟩,q⟩:=q1
 subst e
 cases r1
 obtain⟨its,rv,p,hz⟩:=I1.tuple hq
 refine wpAny_pyIter_tuple (show s1.heap.IsTuple a its.toArray from p) ?_
 refine⟨s1.heap.objs.size,[s1.heap.objs.size],_,_,H1,rfl,I1.kept (t':=s1.toks) fun b o e=>Heap.get?_push_of_some _ e,aD5 a _,⟨_,Heap.get?_push_size _ rfl,rfl,rfl⟩,fun b hb=>?_,q⟩
 have e:b=s1.heap.objs.size:=by simpa using hb
 subst e
 exact I1.fpOk (Nat.le_refl _) (I1.hok.fresh (Nat.le_refl _))
theorem aY8{pins:List (Addr×Obj)}{σ:St}{H:Hp}{s:Shared}{R:It->Hp->Prop}{E:Value->Shared->Prop}{lo hi:Int}{t u v:Tok}{tk:Nat}(I:Inv X pins σ H s) (h1:-(2 ^ 62)<=lo) (h2:lo < 2 ^ 62) (h3:-(2 ^ 62)<=hi) (h4:hi < 2 ^ 62)
  (q:R (Itr lo (hi - lo).toNat) H):wpAny (model X.prog X.w) X.A (pyIter (.ref s.heap.objs.size)) (PIE X pins σ tg R) E { s with heap:=s.heap.push { cls:=.type "range", data:=.fields #[.int lo t,.int hi u,.int 1 v] },toks:=tk }:=by
 refine wpAny_pyIter_range (IsRange.new ..) (small_one h1 h2 h3 h4) ?_
 have I1:Inv X pins σ H { s with heap:=s.heap.push { cls:=.type "range", data:=.fields #[.int lo t,.int hi u,.int 1 v] },toks:=tk }:=I.kept fun b o e=>Heap.get?_push_of_some _ e
 refine⟨(s.heap.push { cls:=.type "range", data:=.fields #[.int lo t,.int hi u,.int 1 v] }).objs.size,[(s.heap.push { cls:=.type "range", data:=.fields #[.int lo t,.int hi u,.int 1 v] }).objs.size],_,_,H,rfl,
  I1.kept (t':=tk) fun b o e=>Heap.get?_push_of_some _ e,aD6 _ lo (hi - lo).toNat,?_,fun b hb=>?_,q⟩
 ·have e1:lo+((0:Nat):Int)*1=lo:=by simp
  have e2:(((hi - lo).toNat:Nat):Int) - ((0:Nat):Int)=Builtin.Range.rangeSize lo hi 1:=by rw[rangeSize_one];split<;>omega
  show IsRangeIter _ _ (lo+((0:Nat):Int)*1) ((((hi - lo).toNat:Nat):Int) - ((0:Nat):Int)) 1
  rw[e1,e2]
  exact Heap.get?_push_size _ rfl
 ·have e:b=(s.heap.push { cls:=.type "range", data:=.fields #[.int lo t,.int hi u,.int 1 v] }).objs.size:=by simpa using hb
  subst e
  exact I1.fpOk (Nat.le_refl _) (I1.hok.fresh (Nat.le_refl _))
noncomputable def bU0(ta:TA):TI:=fun σ H R=>ta σ H fun vs H1=>∃j:Int,vs=[.int j]/\-(2 ^ 62)<=j/\j < 2 ^ 62/\R (Itr 0 j.toNat) H1
theorem aP7{a:Expr}{ta:TA}{p pos:Pos}(hg:Gl X "range") (hm:X.mg "range" = none) (ha:PA X [a] ta) (hs:starEach [a] X.env=[(false,eval a X.env)]:=by rfl):PI X tg (.Call (.Name "range" p) [a] [] pos) (bU0 ta):=by
 intro pins s σ H R I h
 refine Call_ (aj6 I hg hm boot_range (PyProof.Rows.callWith_type1 (thn (ha pos pins s σ H _ I h) fun us s1 ⟨vs,H1,I1,r1,q1⟩=>?_) hs rfl))
 obtain⟨j,e,q1,q2,q⟩:=q1
 subst e
 cases r1 with
 | cons r rr =>
  cases rr
  obtain⟨t,rfl⟩:=r
  exact call_range_1 (aY8 I1 (by omega) (by omega) q1 q2 (by simpa using q))
noncomputable def bX1(wi:TI) (g:TG) (tb:TS):TS:=fun D σ H=>wi σ H fun J H1=>∃W:Nat->Nat->St->Hp->Prop,(∃m,W 0 m σ H1)/\∀i m σ H,W i m σ H ->
 (J.stop i H/\D.nx σ H)\/(J.go i H/\∃N:St->Hp->Prop,(∀σ' H',N σ' H'->∃m',m' < m/\W (i+1) m' σ' H')/\∀x H',J.yld i H x H'->g x σ H' fun σ2 H2=>tb { D with nx:=N,ct:=N,bk:=D.nx } σ2 H2)
noncomputable def aj1(fp:List Addr) (h:Heap):List (Addr×Obj):=fp.filterMap fun b=>(h.get? b).map fun o=>(b,o)
theorem W6{fp:List Addr}{h:Heap}{b:Addr}{o:Obj}(hb:b∈fp) (e:h.get? b=some o):(b,o)∈aj1 fp h:=List.mem_filterMap.mpr ⟨b,hb,by rw[e];rfl⟩
theorem aQ2{fp:List Addr}{h:Heap}{p:Addr×Obj}(hp:p∈aj1 fp h):p.1∈fp/\h.get? p.1=some p.2:=by
 obtain⟨b,hb,e⟩:=List.mem_filterMap.mp hp
 cases q:h.get? b with
 | none=>rw[q]at e;cases e
 | some o =>
  rw[q]at e
  have e':(b,o)=p:=Option.some.inj e
  subst e'
  exact⟨hb,q⟩
theorem Inv.pinned{pins:List (Addr×Obj)}{σ:St}{H:Hp}{s:Shared}{fp:List Addr}(I:Inv X pins σ H s) (hf:∀b∈fp,ad7 X pins H b) (ho:∀b∈fp,∃o,s.heap.get? b=some o/\∀v,o.data≠.cell v):Inv X (pins++aj1 fp s.heap) σ H s :=
 I.pins_of fun p hp=>(List.mem_append.mp hp).elim (fun z=>I.pin p (List.mem_append_right _ z)) fun z=>by
  obtain⟨hb,e⟩:=aQ2 z
  obtain⟨f0,f1,f2,_⟩:=hf p.1 hb
  obtain⟨o,e',d⟩:=ho p.1 hb
  rw[e]at e';cases e'
  exact⟨e,f0,f1,f2,d⟩
theorem Inv.unpinned{pins pl:List (Addr×Obj)}{σ:St}{H:Hp}{s:Shared}(I:Inv X (pins++pl) σ H s):Inv X pins σ H s:=I.pins_of fun p hp=>I.pin p (List.mem_append_right _ (List.mem_append_left _ hp))
theorem bC4{iter:Expr}{body:List Stmt}{wi:TI}{g:TG}{tb:TS}{pos:Pos}(hp:PassesOwn (model X.prog X.w) X.A X.env X.xe) (hc:X.calm=true) (hi:PI X tg iter wi) (hg:PG X tg g) (hb:PSs X body tb)
  (hs:∀x,foldedSetIterable iter X.env x=pure x:=by intro _;rfl):PS X (.For tg iter body [] pos) (bX1 wi g tb):=by
 intro pins s σ H D I h
 refine wpAny_For (thn (hi pins s σ H _ I h) fun v s1 h1=>thn h1 fun itv s2 h2=>?_) hs
 obtain⟨it,fp,tn,J,H2,e,I2,T,st2,f2,W,⟨m0,w0⟩,turn⟩:=h2
 subst e
 have stat:∀{H':Hp},(∀b∈fp,H' b=none)->∀b∈fp,ad7 X pins H' b:=fun hn b hb=>⟨hn b hb,(f2 b hb).2⟩
 refine codeAny_forLoop_any (fun n s'=>∃i σ' H',Inv X pins σ' H' s'/\tn i s'.heap/\(∀b∈fp,H' b=none)/\W i n σ' H') ?_ m0 ⟨0,σ,H2,I2,st2,fun b hb=>(f2 b hb).1,w0⟩
 rintro n s3 ⟨i,σ3,H3,I3,st3,fr3,w3⟩
 rcases turn i n σ3 H3 w3 with⟨stop,qn⟩|⟨go,N,hN,step⟩
 ·refine wpAny_passesOwn hp (thn (T.done X rfl rfl rfl hc i pins s3 σ3 H3 X.xe I3 (stat fr3) st3 stop) fun r s4 ⟨hr,I4⟩=>?_)
  subst hr
  exact wpAny_execs_nil ⟨σ3,H3,I4,qn⟩
 ·refine wpAny_passesOwn hp (thn (T.item X rfl rfl rfl hc i pins s3 σ3 H3 X.xe I3 (stat fr3) st3 go) fun r s4 ⟨u,hr,h4⟩=>?_)
  subst hr
  refine wpAny_passesOwn hp (thn h4 fun _ s5 ⟨x,H5,I5,r5,y5,st5,fr5⟩=>?_)
  have I5':=I5.pinned (stat fr5) (T.obj _ _ st5)
  refine wpAny_passesOwn hp (thn (hg _ s5 σ3 H5 x u _ I5' r5 (step x H5 y5)) fun _ s6 ⟨σ6,H6,I6,q6⟩=>?_)
  refine wpAny_passesOwn hp (thn (hb _ s6 σ6 H6 _ I6 q6) fun f s7 q7=>?_)
  have again:∀{σ7:St}{H7:Hp},Inv X (pins++aj1 fp s5.heap) σ7 H7 s7->N σ7 H7->∃m,m < n/\∃i σ' H',Inv X pins σ' H' s7/\tn i s7.heap/\(∀b∈fp,H' b=none)/\W i m σ' H':=fun{σ7 H7} I7 n7=>by
   obtain⟨m',hm,w7⟩:=hN σ7 H7 n7
   refine⟨m',hm,i+1,σ7,H7,I7.unpinned,T.keep _ _ _ st5 fun b hb o e=>(I7.pin (b,o) (List.mem_append_right _ (List.mem_append_right _ (W6 hb e)))).1,fun b hb=>?_,w7⟩
   obtain⟨o,e,d⟩:=T.obj _ _ st5 b hb
   exact(I7.pin (b,o) (List.mem_append_right _ (List.mem_append_right _ (W6 hb e)))).2.1
  cases f with
  | next=>obtain⟨σ7,H7,I7,n7⟩:=q7;exact again I7 n7
  | cont=>obtain⟨σ7,H7,I7,n7⟩:=q7;exact again I7 n7
  | brk=>obtain⟨σ7,H7,I7,q7⟩:=q7;exact⟨σ7,H7,I7.unpinned,q7⟩
  | ret v=>obtain⟨x7,σ7,H7,I7,r7,q7⟩:=q7;exact⟨x7,σ7,H7,I7.unpinned,r7,q7⟩
end
noncomputable abbrev R2:=V->V->Hp->VK->Prop
noncomputable def OpR(X:Cx) (f:Value->Value->Sem Value) (r:R2):Prop :=
 ∀(pins:List (Addr×Obj)) (s:Shared) (σ:St) (H:Hp) (x y:V) (v u:Value) (Q:VK),Inv X pins σ H s->E9 x v->E9 y u->r x y H Q ->
  wpAny (model X.prog X.w) X.A (f v u) (EP X pins σ Q) X.xe s
noncomputable def UnR(X:Cx) (f:Value->Sem Value) (r:V->Hp->VK->Prop):Prop :=
 ∀(pins:List (Addr×Obj)) (s:Shared) (σ:St) (H:Hp) (x:V) (v:Value) (Q:VK),Inv X pins σ H s->E9 x v->r x H Q ->
  wpAny (model X.prog X.w) X.A (f v) (EP X pins σ Q) X.xe s
noncomputable def V6(X:Cx) (f:Value) (r:List V->Hp->VK->Prop):Prop :=
 ∀(pins:List (Addr×Obj)) (s:Shared) (σ:St) (H:Hp) (xs:List V) (us:List Value) (Q:VK),Inv X pins σ H s->D2 xs us->r xs H Q ->
  wpAny (model X.prog X.w) X.A (call f us) (EP X pins σ Q) X.xe s
noncomputable def bZ6(X:Cx) (r:V->Hp->(Bool->Hp->Prop)->Prop):Prop :=
 ∀(pins:List (Addr×Obj)) (s:Shared) (σ:St) (H:Hp) (x:V) (v:Value) (Q:Bool->Hp->Prop),Inv X pins σ H s->E9 x v->r x H Q ->
  wpAny (model X.prog X.w) X.A (truthy v) (TP X pins σ Q) X.xe s
noncomputable def tOp(r:R2) (ta tb:TE):TE:=fun σ H Q=>ta σ H fun x H1=>tb σ H1 fun y H2=>r x y H2 Q
noncomputable def tUn(r:V->Hp->VK->Prop) (ta:TE):TE:=fun σ H Q=>ta σ H fun x H1=>r x H1 Q
noncomputable def rI(C:Int->Int->Prop) (g:Int->Int->V):R2:=fun x y H Q=>∃i j,x=.int i/\y=.int j/\C i j/\Q (g i j) H
noncomputable def rI0(g:Int->Int->V):R2:=fun x y H Q=>∃i j,x=.int i/\y=.int j/\Q (g i j) H
noncomputable def rU(g:Int->V):V->Hp->VK->Prop:=fun x H Q=>∃i,x=.int i/\Q (g i) H
section
variable {X:Cx}{a b c:Expr}{ta tb tc:TE}{pos:Pos}
theorem bM7(ha:PE X a ta) (hb:PE X b tb) {pins:List (Addr×Obj)}{s:Shared}{σ:St}{H:Hp}{R:V->V->Hp->Prop}(I:Inv X pins σ H s)
  (h:ta σ H fun x H1=>tb σ H1 fun y H2=>R x y H2) {Q:Value->Shared->Prop}{f:Value->Value->Sem Value}
  (hf:∀v u s2 x y H2,Inv X pins σ H2 s2->E9 x v->E9 y u->R x y H2->wpAny (model X.prog X.w) X.A (f v u) Q X.xe s2) :
  wpAny (model X.prog X.w) X.A (eval a X.env) (fun v s₁=>wpAny (model X.prog X.w) X.A (eval b X.env) (fun u s₂=>wpAny (model X.prog X.w) X.A (f v u) Q X.xe s₂) X.xe s₁) X.xe s:=by
 refine thn (ha pins s σ H _ I h) fun v s1 ⟨x,H1,I1,r1,q1⟩=>?_
 refine thn (hb pins s1 σ H1 _ I1 q1) fun u s2 ⟨y,H2,I2,r2,q2⟩=>?_
 exact hf v u s2 x y H2 I2 r1 r2 q2
theorem bx0{op:Operator}{r:R2}(ho:OpR X (binaryOp op) r) (ha:PE X a ta) (hb:PE X b tb):PE X (.BinOp a op b pos) (tOp r ta tb):=by
 intro pins s σ H Q I h
 exact wpAny_BinOp (bM7 ha hb I h fun v u s2 x y H2 I2 rx ry q=>ho pins s2 σ H2 x y v u Q I2 rx ry q)
theorem bQ6{op:UnaryOp}{r:V->Hp->VK->Prop}(ho:UnR X (unaryOp op) r) (ha:PE X a ta):PE X (.UnaryOp op a pos) (tUn r ta):=by
 intro pins s σ H Q I h
 exact UnaryOp_ (thn (ha pins s σ H _ I h) fun v s1 ⟨x,H1,I1,r1,q1⟩=>ho pins s1 σ H1 x v Q I1 r1 q1)
theorem opI{f:Value->Value->Sem Value}{C:Int->Int->Prop}{g:Int->Int->Int}
  (rule:∀(i j:Int) (t u:Tok) (s:Shared) (Q:Value->Shared->Prop) (E:Value->Shared->Prop),C i j->Q (.int (g i j) s.toks) { s with toks:=s.toks+1 }->wpAny (model X.prog X.w) X.A (f (.int i t) (.int j u)) Q E s) :
  OpR X f (rI C fun i j=>.int (g i j)):=by
 intro pins s σ H x y v u Q I rx ry h
 obtain⟨i,j,rfl,rfl,hc,q⟩:=h
 obtain⟨t,rfl⟩:=rx
 obtain⟨t',rfl⟩:=ry
 exact rule i j t t' s _ _ hc ⟨.int (g i j),H,I.tok _,⟨_,rfl⟩,q⟩
theorem bR3{f:Value->Value->Sem Value}{g:Int->Int->Int}
  (rule:∀(i j:Int) (t u:Tok) (s:Shared) (Q:Value->Shared->Prop) (E:Value->Shared->Prop),Q (.int (g i j) s.toks) { s with toks:=s.toks+1 }->wpAny (model X.prog X.w) X.A (f (.int i t) (.int j u)) Q E s) :
  OpR X f (rI0 fun i j=>.int (g i j)):=by
 intro pins s σ H x y v u Q I rx ry h
 obtain⟨i,j,rfl,rfl,q⟩:=h
 obtain⟨t,rfl⟩:=rx
 obtain⟨t',rfl⟩:=ry
 exact rule i j t t' s _ _ ⟨.int (g i j),H,I.tok _,⟨_,rfl⟩,q⟩
theorem bo6{f:Value->Value->Sem Value}{g:Int->Int->Bool}
  (rule:∀(i j:Int) (t u:Tok) (s:Shared) (Q:Value->Shared->Prop) (E:Value->Shared->Prop),Q (.bool (g i j)) s->wpAny (model X.prog X.w) X.A (f (.int i t) (.int j u)) Q E s) :
  OpR X f (rI0 fun i j=>.bl (g i j)):=by
 intro pins s σ H x y v u Q I rx ry h
 obtain⟨i,j,rfl,rfl,q⟩:=h
 obtain⟨t,rfl⟩:=rx
 obtain⟨t',rfl⟩:=ry
 exact rule i j t t' s _ _ ⟨.bl (g i j),H,I,rfl,q⟩
theorem ba3:OpR X (binaryOp .Add) (rI0 fun i j=>.int (i+j)):=bR3 fun _ _ _ _ _ _ _ q=>add_int q
theorem bD6:OpR X (binaryOp .Sub) (rI0 fun i j=>.int (i - j)):=bR3 fun _ _ _ _ _ _ _ q=>sub_int q
theorem bD7:OpR X (binaryOp .Mod) (rI (fun _ j=>0 < j) fun i j=>.int (i % j)):=opI fun i j _ _ _ _ _ hc q=>by
 have h1:(0:Int) < j:=hc
 exact mod_int' (by omega) (by rw[Int.fmod_eq_emod_of_nonneg i (by omega)];exact q)
theorem unI{f:Value->Sem Value}{g:Int->Int}
  (rule:∀(i:Int) (t:Tok) (s:Shared) (Q:Value->Shared->Prop) (E:Value->Shared->Prop),Q (.int (g i) s.toks) { s with toks:=s.toks+1 }->wpAny (model X.prog X.w) X.A (f (.int i t)) Q E s) :
  UnR X f (rU fun i=>.int (g i)):=by
 intro pins s σ H x v Q I rx h
 obtain⟨i,rfl,q⟩:=h
 obtain⟨t,rfl⟩:=rx
 exact rule i t s _ _ ⟨.int (g i),H,I.tok _,⟨_,rfl⟩,q⟩
theorem bA3:UnR X (unaryOp .USub) (rU fun i=>.int (-i)):=unI fun _ _ _ _ _ q=>neg_int q
end
section
variable {X:Cx}{a b c:Expr}{ta tb tc:TE}{pos:Pos}
theorem au6{pins:List (Addr×Obj)}{σ:St}{H:Hp}{s:Shared}{Q:VK}{k k':Bool}(I:Inv X pins σ H s) (q:Q (.bl k) H) (e:k=k'):EP X pins σ Q (.bool k') s:=by
 subst e
 exact⟨.bl k,H,I,rfl,q⟩
theorem bQ9:OpR X (compareOp .Lt) (rI0 fun i j=>.bl (decide (i < j))):=bo6 fun _ _ _ _ _ _ _ q=>lt_int q
theorem bR0:OpR X (compareOp .LtE) (rI0 fun i j=>.bl (decide (i<=j))):=bo6 fun _ _ _ _ _ _ _ q=>le_int q
theorem bR1:OpR X (compareOp .Gt) (rI0 fun i j=>.bl (decide (j < i))):=bo6 fun _ _ _ _ _ _ _ q=>gt_int q
theorem bR2:OpR X (compareOp .GtE) (rI0 fun i j=>.bl (decide (j<=i))):=bo6 fun _ _ _ _ _ _ _ q=>ge_int q
theorem aP8:OpR X (compareOp .In) (fun x y H Q=>∃i j,x=.str i/\y=.str j/\Q (.bl (!(Builtin.Str.occurrences j i 0 j.length 1).isEmpty)) H):=by
 intro pins s σ H x y v u Q I rx ry h
 obtain⟨i,j,rfl,rfl,q⟩:=h
 obtain⟨t,rfl⟩:=rx
 obtain⟨t',rfl⟩:=ry
 exact in_str (au6 I q rfl)
theorem bD8:OpR X (compareOp .Is) (fun x y H Q=>y=.non/\Q (.bl (decide (x=.non))) H):=by
 intro pins s σ H x y v u Q I rx ry h
 obtain⟨rfl,q⟩:=h
 cases ry
 refine is_none_gen (au6 I q ?_)
 cases x<;>first
  | (cases rx;rfl)
  | (obtain⟨t,rfl⟩:=rx;rfl)
theorem bo3:OpR X (compareOp .IsNot) (fun x y H Q=>y=.non/\Q (.bl (!decide (x=.non))) H):=by
 intro pins s σ H x y v u Q I rx ry h
 obtain⟨rfl,q⟩:=h
 cases ry
 refine isnot_none_gen (au6 I q ?_)
 cases x<;>first
  | (cases rx;rfl)
  | (obtain⟨t,rfl⟩:=rx;rfl)
theorem at2:OpR X (compareOp .NotIn) (fun x y H Q=>∃i j,x=.str i/\y=.str j/\Q (.bl (!(!(Builtin.Str.occurrences j i 0 j.length 1).isEmpty))) H):=by
 intro pins s σ H x y v u Q I rx ry h
 obtain⟨i,j,rfl,rfl,q⟩:=h
 obtain⟨t,rfl⟩:=rx
 obtain⟨t',rfl⟩:=ry
 exact notIn_str (au6 I q rfl)
theorem bb0(b:Expr) {op:CmpOp}(h:op≠.In:=by decide) (h2:op≠.NotIn:=by decide):behindInMarks op b=false:=by
 have e1:(op==CmpOp.In)=false:=by cases op<;>first|rfl|exact absurd rfl h
 have e2:(op==CmpOp.NotIn)=false:=by cases op<;>first|rfl|exact absurd rfl h2
 cases b<;>simp[behindInMarks,e1,e2]
theorem bn9{op:CmpOp}{r:R2}(ho:OpR X (compareOp op) r) (ha:PE X a ta) (hb:PE X b tb) (hm:behindInMarks op b=false):PE X (.Compare a [op] [b] pos) (tOp r ta tb):=by
 intro pins s σ H Q I h
 exact wpAny_Compare1 (bM7 ha hb I h fun v u s2 x y H2 I2 rx ry q=>ho pins s2 σ H2 x y v u Q I2 rx ry q) hm
noncomputable def bw1(t:TE):TT:=fun σ H Q=>t σ H fun x H'=>∃k,x=.bl k/\Q k H'
theorem bn0{op:CmpOp}{r:R2}(ho:OpR X (compareOp op) r) (ha:PE X a ta) (hb:PE X b tb) (hm:behindInMarks op b=false):PT X (.Compare a [op] [b] pos) (bw1 (tOp r ta tb)):=by
 intro pins s σ H Q I h
 refine wpAny_isTrue_Compare1 (thn (ha pins s σ H _ I h) fun v s1 ⟨x,H1,I1,r1,q1⟩=>thn (hb pins s1 σ H1 _ I1 q1) fun u s2 ⟨y,H2,I2,r2,q2⟩ =>thn (ho pins s2 σ H2 x y v u _ I2 r1 r2 q2) fun c s3 ⟨z,H3,I3,r3,k,e,q3⟩=>?_) hm
 subst e
 cases r3
 exact wpAny_truthy_bool ⟨H3,I3,q3⟩
noncomputable def aX3(r r':R2) (ta tb tc:TE):TE:=fun σ H Q=>ta σ H fun x H1=>tb σ H1 fun y H2=>r x y H2 fun z H3=>∃k,z=.bl k /\
 (if k=true then tc σ H3 fun w' H4=>r' y w' H4 Q else Q (.bl false) H3)
theorem ay3{op op':CmpOp}{r r':R2}(ho:OpR X (compareOp op) r) (ho':OpR X (compareOp op') r') (ha:PE X a ta) (hb:PE X b tb) (hc:PE X c tc)
  (hm:lastMarks [op,op'] [b,c]=false:=by with_unfolding_all rfl):PE X (.Compare a [op,op'] [b,c] pos) (aX3 r r' ta tb tc):=by
 intro pins s σ H Q I h
 refine Compare_chain (thn (ha pins s σ H _ I h) fun v s1 ⟨x,H1,I1,r1,q1⟩=>chain_link (thn (hb pins s1 σ H1 _ I1 q1) fun u s2 ⟨y,H2,I2,r2,q2⟩ =>thn (ho pins s2 σ H2 x y v u _ I2 r1 r2 q2) fun d s3 ⟨z,H3,I3,r3,k,e,q3⟩=>?_)) hm
 subst e
 cases r3
 refine wpAny_truthy_bool ?_
 cases k with
 | false=>exact ite_ff ⟨.bl false,H3,I3,rfl,q3⟩
 | true=>exact ite_tt (chain_last (thn (hc pins s3 σ H3 _ I3 q3) fun w' s4 ⟨z',H4,I4,r4,q4⟩=>ho' pins s4 σ H4 y z' u w' Q I4 r2 r4 q4))
theorem ax9{op op':CmpOp}{r r':R2}(ho:OpR X (compareOp op) r) (ho':OpR X (compareOp op') r') (ha:PE X a ta) (hb:PE X b tb) (hc:PE X c tc)
  (hm:lastMarks [op,op'] [b,c]=false:=by with_unfolding_all rfl):PT X (.Compare a [op,op'] [b,c] pos) (bw1 (aX3 r r' ta tb tc)):=by
 intro pins s σ H Q I h
 refine isTrue_chain (thn (ha pins s σ H _ I h) fun v s1 ⟨x,H1,I1,r1,q1⟩=>test_link (thn (hb pins s1 σ H1 _ I1 q1) fun u s2 ⟨y,H2,I2,r2,q2⟩ =>thn (ho pins s2 σ H2 x y v u _ I2 r1 r2 q2) fun d s3 ⟨z,H3,I3,r3,k,e,q3⟩=>?_)) hm
 subst e
 cases r3
 refine wpAny_truthy_bool ?_
 cases k with
 | false =>
  obtain⟨k',e',q'⟩:=q3
  cases e'
  exact ite_ff ⟨H3,I3,q'⟩
 | true =>
  refine ite_tt (test_last (thn (hc pins s3 σ H3 _ I3 q3) fun w' s4 ⟨z',H4,I4,r4,q4⟩=>thn (ho' pins s4 σ H4 y z' u w' _ I4 r2 r4 q4) fun d' s5 ⟨z2,H5,I5,r5,k2,e2,q5⟩=>?_))
  subst e2
  cases r5
  exact wpAny_truthy_bool ⟨H5,I5,q5⟩
noncomputable def bV5(K:PySem.W.Frag) (x:V) (H:Hp) (k:Bool):Prop :=
 match x with
 | .non=>k=false
 | .bl b=>k=b
 | .int i=>k=(i != 0)
 | .str y=>y.length<=sizeLine/\k=((y.length:Int) != 0)
 | .byt y=>y.size<=sizeLine/\k=((y.size:Int) != 0)
 | .ref p=>(∃xs,SqL K H p xs/\k = !xs.isEmpty)\/(∃xs,SqT K H p xs/\k = !xs.isEmpty)\/∃kvs,H p=some (.dK kvs)/\k = !kvs.isEmpty
 | _=>False
theorem aG9{κ:Type}{kvs:List (κ×V)}{vs:List (κ×Value)}(r:KV kvs vs):(!vs.isEmpty) = !kvs.isEmpty:=by cases r<;>rfl
theorem aj8{xs:List V}{its:List Value}(r:D2 xs its):(!its.toArray.isEmpty) = !xs.isEmpty:=by cases r<;>simp
theorem ac7:(sizeLine:Nat) < 2 ^ 63:=by rw[sizeLine_eq];decide
theorem bA8:bZ6 X (fun x H Q=>∃k,bV5 X.K x H k/\Q k H):=by
 intro pins s σ H x v Q I rx h
 obtain⟨k,e,q⟩:=h
 have hl:=ac7
 have hs:sizeLine=16777216:=sizeLine_eq
 cases x with
 | non =>
  cases rx
  have e':k=false:=e
  subst e'
  exact truthy_none ⟨H,I,q⟩
 | bl b =>
  cases rx
  have e':k=b:=e
  subst e'
  exact wpAny_truthy_bool ⟨H,I,q⟩
 | int i =>
  obtain⟨t,rfl⟩:=rx
  have e':k=(i != 0):=e
  subst e'
  exact PySem.P.truthy_int ⟨H,I,q⟩
 | str y =>
  obtain⟨t,rfl⟩:=rx
  obtain⟨hy,e'⟩:y.length<=sizeLine/\k=((y.length:Int) != 0):=e
  subst e'
  exact PySem.P.truthy_str (by omega) ⟨H,I.tok _,q⟩
 | byt y =>
  obtain⟨t,rfl⟩:=rx
  obtain⟨hy,e'⟩:y.size<=sizeLine/\k=((y.size:Int) != 0):=e
  subst e'
  exact PySem.W.truthy_bytes (by omega) ⟨H,I.tok _,q⟩
 | ref p =>
  cases rx
  have e':(∃xs,SqL X.K H p xs/\k = !xs.isEmpty)\/(∃xs,SqT X.K H p xs/\k = !xs.isEmpty)\/∃kvs,H p=some (.dK kvs)/\k = !kvs.isEmpty:=e
  rcases e' with⟨xs,hx,e'⟩|⟨xs,hx,e'⟩|⟨kvs,hx,e'⟩
  ·subst e'
   obtain⟨its,r,pl,hz⟩:=I.list hx
   have hlen:=r.length
   exact wpAny_truthy_list pl.isList (by simp only[List.size_toArray];omega) ⟨H,I.tok _,by rw[aj8 r];exact q⟩
  ·subst e'
   obtain⟨its,r,pl,hz⟩:=I.tuple hx
   have hlen:=r.length
   exact truthy_tuple pl (by simp only[List.size_toArray];omega) ⟨H,I.tok _,by rw[aj8 r];exact q⟩
  ·subst e'
   obtain⟨hz,hS,vs,r,m⟩:kvs.length<=sizeLine/\(p==sysModules)=false/\∃vs,KV kvs vs/\s.heap.DictOf (at5 X.prog X.w) p vs:=I.hok p _ hx
   have hlen:kvs.length=vs.length:=Paired.length r
   exact wpAny_truthy_dict hS m (by omega) ⟨H,I.tok _,by rw[aG9 r];exact q⟩
 | _=>exact(show False from e).elim
theorem aZ0(ha:PE X a ta) (he:∀whole,isTrue a X.env whole=(do let v ← whole;standAt a.pos;holding [v] (truthy v))) :
  PT X a (fun σ H Q=>ta σ H fun x H'=>∃k,bV5 X.K x H' k/\Q k H'):=by
 intro pins s σ H Q I h
 exact isTrue_plain (thn (ha pins s σ H _ I h) fun v s1 ⟨x,H1,I1,r1,q1⟩=>bA8 pins s1 σ H1 x v Q I1 r1 q1) (he _)
theorem aG0:OpR X (binaryOp .Add) (fun x y H Q=>∃i j,x=.str i/\y=.str j/\i.length+j.length<=sizeLine/\Q (.str (i++j)) H):=by
 intro pins s σ H x y v u Q I rx ry h
 obtain⟨i,j,rfl,rfl,hz,q⟩:=h
 obtain⟨t,rfl⟩:=rx
 obtain⟨t',rfl⟩:=ry
 exact add_str (fun t' tk=>⟨.str (i++j),H,I.tok _,⟨_,rfl⟩,q⟩) hz
theorem t5{x:V}{us:List Value}(r:D2 [x] us):∃u,us=[u]/\E9 x u:=by
 cases r with
 | cons r1 r2=>cases r2;exact⟨_,rfl,r1⟩
theorem bw0{x y:V}{us:List Value}(r:D2 [x,y] us):∃u w',us=[u,w']/\E9 x u/\E9 y w':=by
 cases r with
 | cons r1 r2 =>
  cases r2 with
  | cons r3 r4=>cases r4;exact⟨_,_,rfl,r1,r3⟩
theorem ap9:V6 X (.type "int") (fun xs H Q=>(∃i,xs=[.int i]/\Q (.int i) H)\/∃k,xs=[.bl k]/\Q (.int (if k then 1 else 0)) H):=by
 intro pins s σ H xs us Q I r h
 rcases h with⟨i,rfl,q⟩|⟨k,rfl,q⟩
 ·obtain⟨u,rfl,t,rfl⟩:=t5 r
  exact call_int_int ⟨.int i,H,I,⟨_,rfl⟩,q⟩
 ·obtain⟨u,rfl,r1⟩:=t5 r
  cases r1
  exact call_int_bool ⟨.int (if k then 1 else 0),H,I.tok _,⟨_,rfl⟩,q⟩
end
section
variable {prog:Program}{w:World}{A:Around}{E:Value->Shared->Prop}{s:Shared}{K:PySem.W.Frag}{x dx C f:Addr}{mA:Str->Option Value}{name:Str}{v:Value}
end
section
variable {P:Program}{w:World}{H H':Hp}{h h':Heap}{a C dx:Addr}{fs fs':List (Str×V)}
end
section
variable {X:Cx}{pins:List (Addr×Obj)}{σ:St}{H:Hp}{s:Shared}{a C dx:Addr}{fs:List (Str×V)}{f:Str}{v:V}{A:Around}{E:Value->Shared->Prop}
end
section
variable {X:Cx}{o e value:Expr}{f:Str}{pos pos' tpos:Pos}{ta tv:TE}
end
section
variable {X:Cx}{pins:List (Addr×Obj)}{σ:St}{H:Hp}{s:Shared}{A:Around}{E:Value->Shared->Prop}{Q:Value->Shared->Prop}{c:Value}{b:Bool}
end
structure Room (k:Nat) (A:Around):Prop where
 hd:A.handled=none
 dp:A.depth+3*k+5 < recursionLimit
 un:A.units+16*k+200 < cLine
theorem Room.mono{j k:Nat}{A:Around}(r:Room k A) (h:j<=k):Room j A:=⟨r.hd,by have:=r.dp;omega,by have:=r.un;omega⟩
theorem Room.deeper{k:Nat}{A:Around}(r:Room (k+1) A) (env:Env):Room k (A.deeper env) :=
 ⟨r.hd,by have:=r.dp;show A.depth+1+3*k+5 < _;omega,by have:=r.un;show A.units+3+16*k+200 < _;omega⟩
theorem Room.depth{k:Nat}{A:Around}(r:Room k A):A.depth < recursionLimit:=by have:=r.dp;omega
theorem Room.units{k:Nat}{A:Around}(r:Room k A):A.units+64 < cLine:=by have:=r.un;omega
noncomputable def bP3:TA:=fun _ H Q=>Q [] H
noncomputable def bP6(ta:TE) (tr:TA):TA:=fun σ H Q=>ta σ H fun x H1=>tr σ H1 fun xs H2=>Q (x::xs) H2
section
variable {X:Cx}{e:Expr}{es:List Expr}{te:TE}{t:TA}{pos:Pos}
theorem L0:PA X [] bP3:=fun _ _ _ _ H Q I h=>Calls.spliced_nil ⟨[],H,I,.nil,h⟩
theorem G0(ha:PE X e te) (hr:PA X es t) (hs:starEach (e::es) X.env=(false,eval e X.env)::starEach es X.env:=by rfl):PA X (e::es) (bP6 te t):=by
 intro pos pins s σ H Q I h
 rw[hs]
 show wpAny _ _ (spliced ((false,eval e X.env)::backTo pos (starEach es X.env))) _ _ s
 refine Calls.spliced_cons (thn (ha pins s σ H _ I h) fun u s1 ⟨x,H1,I1,r1,q1⟩=>?_)
 exact thn (hr pos pins s1 σ H1 _ I1 q1) fun us s2 ⟨xs,H2,I2,r2,q2⟩=>⟨x::xs,H2,I2,.cons r1 r2,q2⟩
noncomputable def bW3(t:TA):TE:=fun σ H Q=>t σ H fun xs H1=>xs.length<=sizeLine/\∀p,H1 p=none->Q (.ref p) (upd H1 p (.tup xs))
noncomputable def bW9(t:TA):TE:=fun σ H Q=>t σ H fun xs H1=>xs.length<=sizeLine/\∀p,H1 p=none->Q (.ref p) (upd H1 p (.lst xs))
theorem bC8{x1} (h:PA X es t):PE X (.Tuple es x1 pos) (bW3 t):=by
 intro pins s σ H Q I hq
 refine wpAny_Tuple_spliced (thn (h pos pins s σ H _ I hq) fun us s1 ⟨xs,H1,I1,r,z,q⟩=>⟨by rw[← r.length];exact z,?_⟩)
 have hf:H1 s1.heap.objs.size=none:=I1.hok.fresh (Nat.le_refl _)
 refine⟨.ref s1.heap.objs.size,upd H1 s1.heap.objs.size (.tup xs),I1.laid (t':=s1.toks) (fun b u e=>Heap.get?_push_of_some _ e) (Nat.le_refl _) ?_,rfl,q _ hf⟩
 exact⟨z,us,r,⟨_,Heap.get?_push_size _ rfl,rfl,⟨_,rfl⟩,rfl⟩⟩
theorem bD4(h:PA X es t):PE X (.List es pos) (bW9 t):=by
 intro pins s σ H Q I hq
 refine wpAny_List_spliced (thn (h pos pins s σ H _ I hq) fun us s1 ⟨xs,H1,I1,r,z,q⟩=>⟨by rw[← r.length];exact z,?_⟩)
 have hf:H1 s1.heap.objs.size=none:=I1.hok.fresh (Nat.le_refl _)
 refine⟨.ref s1.heap.objs.size,upd H1 s1.heap.objs.size (.lst xs),I1.laid (t':=s1.toks) (fun b u e=>Heap.get?_push_of_some _ e) (Nat.le_refl _) ?_,rfl,q _ hf⟩
 exact⟨z,us,0,r,Heap.get?_push_size _ rfl⟩
end
noncomputable abbrev Sp:=List V->Hp->VK->XK->Prop
noncomputable abbrev CXT:=List Env->Hp->Shared->XK->Value->Shared->Prop
structure Env0 (P:Program) (w:World) (K:PySem.W.Frag) (mg:Str->Option Value) (base:Heap) (A:Around) (outer:List Env) (s:Shared) (H:Hp):Prop where
 frames:A.frames=some outer
 mod:Mod K mg base
 bs:∀b o,base.get? b=some o->s.heap.get? b=some o/\H b=none
 bsz:base.objs.size<=s.heap.objs.size
 funs:s.heap.FunFrames base outer
 frf:∀b∈frs outer,H b=none
 hok:HOk P w H s.heap
 bare:AllBare s.gens
noncomputable def CE(outer:List Env) (P:Program) (w:World) (H:Hp) (s:Shared) (Q:VK) (u:Value) (s':Shared):Prop :=
 ∃v H',s'.os=s.os/\AllBare s'.gens/\Un (frs outer) [] H H' s.heap s'.heap/\HOk P w H' s'.heap/\E9 v u/\Q v H'
noncomputable def CR(CX:CXT) (outer:List Env) (P:Program) (w:World) (H:Hp) (s:Shared) (Q:VK) (E:XK) (r:Result) (s':Shared):Prop :=
 match r with
 | .ok (.ret u)=>CE outer P w H s Q u s'
 | .ok _=>False
 | .error e=>CX outer H s E e s'
structure FnOk (P:Program) (w:World) (K:PySem.W.Frag) (mg:Str->Option Value) (base:Heap) (CX:CXT) (k:Nat) (f:Addr) (fd:FuncData) (ps:List Str) (sp:Sp):Prop where
 len:∀vs H Q E,sp vs H Q E->vs.length=ps.length
 run:∀(A:Around) (outer:List Env) (s:Shared) (H:Hp) (args:Args) (us:List Value) (vs:List V) (Q:VK) (E:XK),Room k A->Env0 P w K mg base A outer s H->BindsTo s fd args (ps.zip us)->D2 vs us->sp vs H Q E ->
  codeAny (model P w) A (.call (.ref f) args) (CR CX outer P w H s Q E) s
theorem FnOk.mono{P:Program}{w:World}{K:PySem.W.Frag}{mg:Str->Option Value}{base:Heap}{CX:CXT}{j k:Nat}{f:Addr}{fd:FuncData}{ps:List Str}{sp:Sp}(F:FnOk P w K mg base CX j f fd ps sp) (h:j<=k) :
  FnOk P w K mg base CX k f fd ps sp:=⟨F.len,fun A outer s H args us vs Q E hr=>F.run A outer s H args us vs Q E (hr.mono h)⟩
section
variable {X:Cx}{pins:List (Addr×Obj)}{σ:St}{H:Hp}{s s':Shared}
theorem Inv.env0(I:Inv X pins σ H s):Env0 X.prog X.w X.K X.mg X.base X.A X.stack s H :=
 ⟨I.ok.frames,I.ok.mod,I.bs,Nat.le_trans I.ok.bsz I.sz,I.stack,I.stkFree,I.hok,I.bare⟩
theorem Inv.after{Q:VK}{u:Value}(I:Inv X pins σ H s) (h:CE X.stack X.prog X.w H s Q u s'):EP X pins σ Q u s':=by
 obtain⟨v,H',os,bare,un,hok,r,q⟩:=h
 obtain⟨hh,g,d,t,os'⟩:=s'
 obtain rfl:os'=s.os:=os
 exact⟨v,H',I.call (h':=hh) (g':=g) (d':=d) (t':=t) (ch:=[]) un hok bare (fun b z=>absurd z (by simp)),r,q⟩
end
noncomputable def bw3(sp:Sp) (dvs:List V) (E:XK) (t:TA):TE:=fun σ H Q=>t σ H fun vs H1=>sp (vs++dvs) H1 Q E
noncomputable def K3(K:PySem.W.Frag) (fd:FuncData) (ps:List Str) (ds:List Value):Prop :=
 ∀(s:Shared) (us:List Value),K.In s.heap->(us++ds).length=ps.length->BindsTo s fd ⟨us,[]⟩ (ps.zip (us++ds))
theorem K3.all{K:PySem.W.Frag}{fd:FuncData}{ps:List Str}(h:∀us:List Value,us.length=ps.length->bindArgs fd ⟨us,[]⟩=pure (ps.zip us)):K3 K fd ps []:=fun s us _ hl=>by
 rw[List.append_nil]at hl ⊢
 exact .of_eq (h us hl)
noncomputable def aw4(CX:CXT) (X:Cx) (E:XK):Prop:=∀(pins:List (Addr×Obj)) (σ:St) (H:Hp) (s:Shared) (e:Value) (s':Shared),Inv X pins σ H s->CX X.stack H s E e s'->X.xe e s'
section
variable {X:Cx}{CX:CXT}{k:Nat}{f C:Addr}{fd:FuncData}{ps:List Str}{sp:Sp}{dvs:List V}{ds:List Value}{E:XK}{x m:Str}{p pos apos:Pos}{e o:Expr}{es:List Expr}{ta:TE}{t:TA}
theorem aY4{pins:List (Addr×Obj)}{σ:St}{H:Hp}{s:Shared}{Q:VK}{us:List Value}{vs:List V}(F:FnOk X.prog X.w X.K X.mg X.base CX k f fd ps sp) (hr:Room k X.A) (hb:K3 X.K fd ps ds) (hd:D2 dvs ds) (hx:aw4 CX X E)
  (I:Inv X pins σ H s) (r:D2 vs us) (h:sp (vs++dvs) H Q E):wpAny (model X.prog X.w) X.A (call (.ref f) us) (EP X pins σ Q) X.xe s:=by
 have r2:D2 (vs++dvs) (us++ds):=r.append hd
 have hl:(us++ds).length=ps.length:=by rw[← r2.length];exact F.len _ _ _ _ h
 refine wpAny_call (codeAny_mono (F.run X.A X.stack s H ⟨us,[]⟩ (us++ds) (vs++dvs) Q E hr I.env0 (hb s us I.kIn hl) r2 h) fun r s' hq=>?_)
 cases r with
 | error e=>exact hx pins σ H s e s' I hq
 | ok fl =>
  cases fl with
  | ret u=>exact I.after hq
  | next=>exact False.elim hq
  | brk=>exact False.elim hq
  | cont=>exact False.elim hq
theorem aK8(F:FnOk X.prog X.w X.K X.mg X.base CX k f fd ps sp) (hr:Room k X.A) (hg:Gl X x) (hm:X.mg x=some (.ref f)) (hk:PySem.W.keepIn X.K (.ref f)=true) (hb:K3 X.K fd ps ds) (hd:D2 dvs ds) (hx:aw4 CX X E)
  (ha:PA X (e::es) t) (hdb:(x==("__debug__" : Str))=false:=by decide) (he:starEach (e::es) X.env=(false,eval e X.env)::starEach es X.env:=by rfl) (hpl:(backTo pos (starEach es X.env)).any (·.1)=false:=by rfl) :
  PE X (.Call (.Name x p) (e::es) [] pos) (bw3 sp dvs E t):=by
 intro pins s σ H Q I h
 refine wpAny_Call_Name_kw (W7 I hg hm ?_ hdb)
 refine PySem.W.callWith_K (h₀:=X.base) I.ok.mod.kin hk (thn (ha pos pins s σ H _ I h) fun us s1 ⟨vs,H1,I1,r,q⟩=>⟨I1.kIn,?_⟩) he hpl
 exact aY4 F hr hb hd hx I1 r q
theorem aZ8(F:FnOk X.prog X.w X.K X.mg X.base CX k f fd ps sp) (hr:Room k X.A) (hg:Gl X x) (hm:X.mg x=some (.ref f)) (hk:PySem.W.keepIn X.K (.ref f)=true) (hb:K3 X.K fd ps ds) (hd:D2 dvs ds) (hx:aw4 CX X E)
  (hdb:(x==("__debug__" : Str))=false:=by decide):PE X (.Call (.Name x p) [] [] pos) (bw3 sp dvs E bP3):=by
 intro pins s σ H Q I h
 refine wpAny_Call_Name_kw (W7 I hg hm ?_ hdb)
 exact PySem.W.callWith_K0 I.kIn hk (aY4 (us:=[]) F hr hb hd hx I .nil h)
end
section
variable {X:Cx}{CX:CXT}{k:Nat}{f C:Addr}{fd:FuncData}{ps ks:List Str}{sp:Sp}{E:XK}{x m:Str}{p pos apos kpos:Pos}{e o:Expr}{es:List Expr}{kws:List Keyword}{te ta:TE}{t tk:TA}{nm:Option Str}
variable {g:List Value->List Value->List Value}{gV:List V->List V->List V}
end
structure FnScope (N P:List Str) (sc:Scope):Prop where
 kind:sc.kind=.function
 co:sc.isCoroutine=false
 gen:sc.isGenerator=false
 nd:N.Nodup
 pre:N.take P.length=P
 par:∀x∈P,sc.names.lookup x=some .local\/sc.names.lookup x=some .cell
 nofree:∀y∈sc.names,y.2≠.free
theorem aq0{kindOf:Str->Option NameKind}{x:Str}:∀{binds:List (Str×Value)}{m:Str->Option Value},(∀v,(x,v)∉binds)->bindL kindOf binds m x=m x
 | [],_,_=>rfl
 | (n,v)::r,m,h=>by
  unfold bindL
  rw[aq0 fun w hw=>h w (xmm _ hw)]
  split
  ·have:x≠n:=by rintro rfl;exact h v List.mem_cons_self
   simp[this]
  ·rfl
theorem aq2{kindOf:Str->Option NameKind}{x:Str}:∀{binds:List (Str×Value)}{m:Str->Option Value},(∀v,(x,v)∉binds)->bindC kindOf binds m x=m x
 | [],_,_=>rfl
 | (n,v)::r,m,h=>by
  unfold bindC
  rw[aq2 fun w hw=>h w (xmm _ hw)]
  split
  ·rfl
  ·have:x≠n:=by rintro rfl;exact h v List.mem_cons_self
   simp[this]
theorem aq1{kindOf:Str->Option NameKind}{x:Str}{v:Value}:∀{P:List Str}{vs:List Value}{i:Nat}{m:Str->Option Value},P.Nodup->P[i]? = some x->vs[i]? = some v->kindOf x=some .local ->
  bindL kindOf (P.zip vs) m x=some v
 | [],_,_,_,_,h,_,_=>by simp at h
 | _::_,[],_,_,_,_,h,_=>by simp at h
 | p::P,w::vs,0,m,nd,h1,h2,hk=>by
  simp at h1 h2;subst h1;subst h2
  show bindL kindOf ((p,w)::P.zip vs) m p=_
  unfold bindL
  rw[aq0 fun v hv=>(List.nodup_cons.mp nd).1 (List.of_mem_zip hv).1,if_pos hk]
  simp
 | p::P,w::vs,i+1,m,nd,h1,h2,hk=>by
  show bindL kindOf ((p,w)::P.zip vs) m x=_
  unfold bindL
  exact aq1 (i:=i) (List.nodup_cons.mp nd).2 (by simpa using h1) (by simpa using h2) hk
theorem aq3{kindOf:Str->Option NameKind}{x:Str}{v:Value}:∀{P:List Str}{vs:List Value}{i:Nat}{m:Str->Option Value},P.Nodup->P[i]? = some x->vs[i]? = some v->kindOf x≠some .local ->
  bindC kindOf (P.zip vs) m x=some v
 | [],_,_,_,_,h,_,_=>by simp at h
 | _::_,[],_,_,_,_,h,_=>by simp at h
 | p::P,w::vs,0,m,nd,h1,h2,hk=>by
  simp at h1 h2;subst h1;subst h2
  show bindC kindOf ((p,w)::P.zip vs) m p=_
  unfold bindC
  rw[aq2 fun v hv=>(List.nodup_cons.mp nd).1 (List.of_mem_zip hv).1,if_neg hk]
  simp
 | p::P,w::vs,i+1,m,nd,h1,h2,hk=>by
  show bindC kindOf ((p,w)::P.zip vs) m x=_
  unfold bindC
  exact aq3 (i:=i) (List.nodup_cons.mp nd).2 (by simpa using h1) (by simpa using h2) hk
noncomputable def S9(N:List Str) (vs:List V):St:=vs.map some++List.replicate (N.length - vs.length) none
noncomputable def am9(CX:CXT) (P:Program) (w:World) (K:PySem.W.Frag) (mg:Str->Option Value) (base:Heap) (N:List Str) (qual:Str) (scope:Scope) (f:Addr) (cd:Value) (A:Around) (outer:List Env) (s:Shared) (H:Hp) (E:XK):Cx where
 prog:=P
 w:=w
 K:=K
 mg:=mg
 base:=base
 A:=A.deeper (envOfC qual scope s.heap.objs.size f cd)
 N:=N
 s₀:=s
 H₀:=H
 env:=envOfC qual scope s.heap.objs.size f cd
 outer:=outer
 stack:=envOfC qual scope s.heap.objs.size f cd::outer
 ex:=[]
 calm:=true
 fn:=fun _=>true
 pn:=[]
 xe:=fun e s'=>wpAny (model P w) (A.deeper (envOfC qual scope s.heap.objs.size f cd)) (leaving (envOfC qual scope s.heap.objs.size f cd) e) (fun _ s''=>CX outer H s E e s'') (fun e' s''=>CX outer H s E e' s'') s'
theorem aB8{sc:Scope}{n:Nat}{x:Str}(h:sc.names.lookup x=some .cell):∃c,(cellsFrom n sc.names []).lookup x=some c:=by
 have q:=PySem.W.cellsFrom_some sc.names n [] (.inl h)
 exact Option.isSome_iff_exists.mp q
theorem aR4{CX:CXT}{P:Program}{w:World}{K:PySem.W.Frag}{mg:Str->Option Value}{base:Heap}{N ps:List Str}{qual:Str}{scope:Scope}{f:Addr}{cd:Value}{A:Around}{outer:List Env}{s s1:Shared}{H:Hp}{E:XK}{us:List Value}{vs:List V}
  (S:FnScope N ps scope) (hd:A.handled=none) (e0:Env0 P w K mg base A outer s H) (hl:vs.length=ps.length) (r:D2 vs us)
  (x:InCallC s s.heap.objs.size (bindL (envOfC qual scope s.heap.objs.size f cd).kindOf (ps.zip us) fun _=>none) (cellsFrom (s.heap.objs.size+1) scope.names []) (bindC (envOfC qual scope s.heap.objs.size f cd).kindOf (ps.zip us) fun _=>none) s1) :
  Inv (am9 CX P w K mg base N qual scope f cd A outer s H E) [] (S9 N vs) H s1:=by
 have hpl:ps.length<=N.length:=by have:=congrArg List.length S.pre;rw[List.length_take]at this;omega
 obtain⟨h1,tk,rfl,hk⟩:=x.done
 have noA:∀b:Addr,b∉(am9 CX P w K mg base N qual scope f cd A outer s H E).ex:=fun b z=>absurd (show b∈([]:List Addr) from z) (by simp)
 refine⟨⟨e0.mod,S.kind,rfl,rfl,Nat.le_refl _,fun y z c h1 h2=>?_,fun y hy=>?_,fun y c _ h=>?_,fun _=>hd,Around.frames_deeper e0.frames,.inr ⟨rfl,rfl⟩,fun b z=>absurd z (noA b),e0.bs,e0.bsz,fun b _ _=>noA b,fun b z=>absurd z (noA b),e0.funs,e0.frf⟩,
  rfl,e0.bare,Un.kept hk,⟨_,x.toInCall.ns,fun i y v h1 h2 h3=>?_⟩,fun y c h=>⟨_,x.cell y c h⟩,e0.hok.fresh (Nat.le_refl _),fun y c h=>?_,fun p hp=>absurd (show p∈([]:List (Addr×Obj)) from hp) (by simp),e0.hok.kept hk,?_⟩
 ·exact name_of_addr x.apart (PySem.mem_of_lookup h1) (PySem.mem_of_lookup h2)
 ·have hy:scope.names.lookup y=some .cell\/scope.names.lookup y=some .free:=hy
  rcases hy with hy|hy
  ·exact aB8 hy
  ·exact absurd rfl (S.nofree _ (PySem.mem_of_lookup hy))
 ·exact Nat.le_of_lt (x.above y c (PySem.mem_of_lookup h))
 ·have hi:i < vs.length:=by
   unfold S9 at h2
   by_cases hi:i < vs.length
   ·exact hi
   ·rw[List.getElem?_append_right (by simpa using hi)]at h2
    rw[List.getElem?_replicate]at h2
    split at h2<;>cases h2
  have ha:vs[i]? = some v:=by
   unfold S9 at h2
   rw[List.getElem?_append_left (by simpa using hi),List.getElem?_map]at h2
   cases e:vs[i]? with
   | none=>rw[e]at h2;cases h2
   | some a=>rw[e]at h2;cases h2;rfl
  obtain⟨u,hu,rv⟩:=r.get ha
  have hp:ps[i]? = some y:=by rw[← S.pre,List.getElem?_take_of_lt (by omega)];exact h1
  have ndP:ps.Nodup:=by rw[← S.pre];exact S.nd.sublist (List.take_sublist _ _)
  refine⟨u,rv,?_⟩
  rcases S.par y (List.mem_of_getElem? hp) with k|k
  ·exact .inl ⟨k,aq1 ndP hp hu k⟩
  ·obtain⟨c,e⟩:=aB8 (n:=s.heap.objs.size+1) k
   refine .inr ⟨.inl k,c,e,?_⟩
   have q:=x.cell y c e
   rw[aq3 ndP hp hu (by show scope.names.lookup y≠_;rw[k];decide)]at q
   exact q
 ·exact e0.hok.fresh (Nat.le_of_lt (x.above y c (PySem.mem_of_lookup h)))
 ·unfold S9
  show _=N.length
  rw[List.length_append,List.length_map,List.length_replicate]
  omega
theorem ap6{CX:CXT}{P:Program}{w:World}{K:PySem.W.Frag}{mg:Str->Option Value}{base:Heap}{k:Nat}{f:Addr}{name qual:Str}{params:Arguments}{body:List Stmt}{scope:Scope}{dV kV doc pm cdv ct oc:Value}{an od:Option Addr}
  {osl:Array (Option Value)}{N ps:List Str}{sp:Sp}(lk:K.lookup f=some ⟨oc,od,.func (PySem.W.fnOf name qual params body scope dV kV doc pm an cdv ct),osl⟩) (hcd:PySem.W.codeIn K cdv qual=true) (S:FnScope N ps scope)
  (len:∀vs H Q E,sp vs H Q E->vs.length=ps.length)
  (hbody:∀(A:Around) (outer:List Env) (s:Shared) (H:Hp) (vs:List V) (Q:VK) (E:XK),Room k (A.deeper (envOfC qual scope s.heap.objs.size f cdv))->sp vs H Q E ->
   ∃t,PSs (am9 CX P w K mg base N qual scope f cdv A outer s H E) body t/\t { nx:=fun _ H'=>Q .non H',rt:=Q } (S9 N vs) H) :
  FnOk P w K mg base CX (k+1) f (PySem.W.fnOf name qual params body scope dV kV doc pm an cdv ct) ps sp:=by
 refine⟨len,fun A outer s H args us vs Q E hr e0 hb r hsp=>?_⟩
 have hl:=len _ _ _ _ hsp
 have KX:K.In s.heap:=e0.mod.kin.keeps fun b o e=>(e0.bs b o e).1
 have lim:s.heap.NoLimit:=e0.mod.nolimit.keeps fun b o e=>(e0.bs b o e).1
 have hkind:∀y∈ps.zip us,scope.names.lookup y.1=some .local\/(scope.names.lookup y.1=some .cell/\((cellsFrom (s.heap.objs.size+1) scope.names []).lookup y.1).isSome=true):=fun⟨n,v⟩ hy=>by
  rcases S.par n (List.of_mem_zip hy).1 with q|q
  ·exact .inl q
  ·exact .inr ⟨q,PySem.W.cellsFrom_some _ _ _ (.inl q)⟩
 refine codeAny_call_function hr.depth (KX _ _ lk) rfl S.co S.gen rfl (PySem.W.codeRec_of KX hcd) (hb _ _ _ _ ?_)
 refine wpAny_newFunctionEnv_cells S.kind hkind fun env he s1 x=>?_
 subst he
 refine⟨lim.keeps x.toInCall.keep,codeAny_func ?_⟩
 obtain⟨t,ht,hq⟩:=hbody A outer s H vs Q E (hr.deeper _) hsp
 have I:Inv (am9 CX P w K mg base N qual scope f cdv A outer s H E) [] (S9 N vs) H s1:=aR4 S hr.hd e0 hl r x
 refine wpAny_mono (ht [] s1 (S9 N vs) H _ I hq) (fun fl s' hs=>?_) fun e s' hs=>hs
 have fin:∀{σ':St}{H':Hp}{v:V}{u:Value},Inv (am9 CX P w K mg base N qual scope f cdv A outer s H E) [] σ' H' s'->E9 v u->Q v H'->CE outer P w H s Q u s' :=
  fun{σ' H' v u} J rv q=>⟨v,H',J.os,J.bare,J.base,J.hok,rv,q⟩
 cases fl with
 | ret u =>
  obtain⟨v,σ',H',J,rv,q⟩:=hs
  exact fin J rv q
 | next =>
  obtain⟨σ',H',J,q⟩:=hs
  exact fin (v:=V.non) (u:=Value.none) J rfl q
 | brk =>
  obtain⟨_,_,_,q⟩:=hs
  exact False.elim q
 | cont =>
  obtain⟨_,_,_,q⟩:=hs
  exact False.elim q
section
variable {X:Cx}{x:Str}{p pos:Pos}{e:Expr}{es:List Expr}{t:TA}{id T:String}{r:List V->Hp->VK->Prop}
noncomputable def tCB(r:List V->Hp->VK->Prop) (t:TA):TE:=fun σ H Q=>t σ H fun vs H1=>r vs H1 Q
theorem R9(hc:V6 X (.builtin id) r) (hg:Gl X x) (hm:X.mg x=none) (hv:bootBuiltins x=some (.builtin id)) (ha:PA X (e::es) t) (hn:x ≠ "__name__" := by decide) (hdb:(x==("__debug__" : Str))=false:=by decide)
  (he:starEach (e::es) X.env=(false,eval e X.env)::starEach es X.env:=by rfl) (hpl:(backTo pos (starEach es X.env)).any (·.1)=false:=by rfl):PE X (.Call (.Name x p) (e::es) [] pos) (tCB r t):=by
 intro pins s σ H Q I h
 refine wpAny_Call_Name_kw (aj6 I hg hm hv ?_ hn hdb)
 exact PyProof.Rows.callWith_builtin1 (thn (ha pos pins s σ H _ I h) fun us s1 ⟨vs,H1,I1,r1,q1⟩=>hc pins s1 σ H1 vs us Q I1 r1 q1) he hpl
theorem U5(hc:V6 X (.type T) r) (hg:Gl X x) (hm:X.mg x=none) (hv:bootBuiltins x=some (.type T)) (ha:PA X (e::es) t) (hn:x ≠ "__name__" := by decide) (hdb:(x==("__debug__" : Str))=false:=by decide)
  (he:starEach (e::es) X.env=(false,eval e X.env)::starEach es X.env:=by rfl) (hpl:(backTo pos (starEach es X.env)).any (·.1)=false:=by rfl):PE X (.Call (.Name x p) (e::es) [] pos) (tCB r t):=by
 intro pins s σ H Q I h
 refine wpAny_Call_Name_kw (aj6 I hg hm hv ?_ hn hdb)
 exact PyProof.Rows.callWith_type1 (thn (ha pos pins s σ H _ I h) fun us s1 ⟨vs,H1,I1,r1,q1⟩=>hc pins s1 σ H1 vs us Q I1 r1 q1) he hpl
end
end L2
namespace HT
open PySem PyProof.Rows
section
open PySem.SeqAt
open PySem.AutoSeq1 (wpAny_loadPart')
open PySem.MeetsSeq PySem.MeetsSeq2 PySem.MeetsSeq3
end
section
variable {prog:Program}{w:World}{A:Around}{E:Value->Shared->Prop}{s:Shared}
theorem cat_tup{t b:Addr}{vs ws:List Value}{Q:Value->Shared->Prop}(ht:IsTup s.heap t vs.toArray) (hb:IsTup s.heap b ws.toArray) (hv:vs≠[])
  (h1:ws=[]->Q (.ref t) s) (h2:ws≠[]->Q (.ref s.heap.objs.size) { s with heap:=s.heap.push { cls:=.type "tuple", data:=.seq (vs++ws).toArray } })
  (hsz:vs.length+ws.length<=sizeLine):wpAny (model prog w) A (binaryOp .Add (.ref t) (.ref b)) Q E s:=by
 obtain⟨⟨cls,dd,data,sl⟩,ho,hc,n,hd⟩:=id ht
 obtain⟨⟨cls2,dd2,data2,sl2⟩,ho2,hc2,n2,hd2⟩:=id hb
 simp only at hc hd hc2 hd2
 subst hc hd hc2 hd2
 have e:vs.toArray++ws.toArray=(vs++ws).toArray:=by simp
 by_cases hw:ws=[]
 ·exact concat_meets ⟨_,ho,rfl⟩ ⟨_,ho2,rfl⟩ noFill_tuple_add seq_tuple_add PySem.F.slot_tuple_add PySem.F.entry_tuple_add (PySem.F.args_tuple_add_2 _ _)
   (tuple_addW1 t b vs.toArray ws.toArray n n2 dd dd2 sl sl2 (by simpa using hv) (by simp[hw])) ⟨ho,ho2,h1 hw⟩
 ·refine concat_meets ⟨_,ho,rfl⟩ ⟨_,ho2,rfl⟩ noFill_tuple_add seq_tuple_add PySem.F.slot_tuple_add PySem.F.entry_tuple_add (PySem.F.args_tuple_add_2 _ _)
   (tuple_addW2 t b vs.toArray ws.toArray n n2 dd dd2 sl sl2 (by simpa using hv) (by simpa using hw) (by rw[List.size_toArray,List.size_toArray];exact hsz)) ⟨ho,ho2,?_⟩
  rw[e]
  exact h2 hw
noncomputable def sIx(n d:Nat):Option Int->Nat
 | none=>d
 | some v=>if v < 0 then(v+(n:Int)).toNat else min v.toNat n
theorem sIx_none(n d:Nat):sIx n d none=d:=rfl
theorem sIx_nat(n d k:Nat):sIx n d (some (k:Int))=min k n:=by
 show(if(k:Int) < 0 then((k:Int)+(n:Int)).toNat else min (k:Int).toNat n)=min k n
 rw[if_neg (by omega),Int.toNat_natCast]
theorem bB7(n d:Nat) (hd:d<=n) (o:Option Int):sIx n d o<=n:=by
 cases o with
 | none=>exact hd
 | some v =>
  show(if v < 0 then(v+(n:Int)).toNat else min v.toNat n)<=n
  by_cases hv:v < 0
  ·rw[if_pos hv];omega
  ·rw[if_neg hv];exact Nat.min_le_right _ _
theorem aN5(v:Int) (n d:Nat):(if v < 0 then max (v+(n:Int)) 0 else min v (n:Int))=((sIx n d (some v):Nat):Int):=by
 show(if v < 0 then max (v+(n:Int)) 0 else min v (n:Int))=(((if v < 0 then(v+(n:Int)).toNat else min v.toNat n):Nat):Int)
 by_cases hv:v < 0
 ·simp only[if_pos hv];omega
 ·simp only[if_neg hv];omega
theorem aI8(lo hi:Option Int) (n:Nat):Builtin.Slice.sliceAdjust lo hi 1 (n:Int)=(((sIx n 0 lo:Nat):Int),((sIx n n hi:Nat):Int)):=by
 have h1:¬((1:Int) < 0):=by omega
 unfold Builtin.Slice.sliceAdjust
 simp only[h1,if_false]
 refine Prod.ext ?_ ?_
 ·cases lo with
  | none=>rfl
  | some v=>exact aN5 v n 0
 ·cases hi with
  | none=>rfl
  | some v=>exact aN5 v n n
theorem aF7(i j:Nat):Builtin.Slice.slicePlaces (i:Int) (j:Int) 1=j - i:=by
 unfold Builtin.Slice.slicePlaces
 have h1:(1:Int) > 0:=by omega
 simp only[h1,if_true,Int.ediv_one]
 split<;>omega
theorem ai4{v:Value}{o:Option Int}{Q:Option Int->Shared->Prop}(p:IsPart v o) (h:Q o s):wpAny (model prog w) A (Builtin.Slice.slicePartIndex v) Q E s:=by
 cases p with
 | none=>exact slicePart_none h
 | int i t=>exact slicePart_int h
theorem sliceApplied_gen{sl:Addr}{vl vu:Value}{lo hi:Option Int}{n:Nat}{Q:Int×Int×Nat->Shared->Prop}(hs:s.heap.IsSliceOf sl vl vu .none) (pl:IsPart vl lo) (pu:IsPart vu hi)
  (h:Q (((sIx n 0 lo:Nat):Int),1,sIx n n hi - sIx n 0 lo) s):wpAny (model prog w) A (Builtin.Slice.sliceApplied (.ref sl) (pure (n:Int))) Q E s:=by
 obtain⟨os,hos,hcs,hds⟩:=id hs
 unfold Builtin.Slice.sliceApplied Builtin.Slice.sliceFields
 refine wpAny_bind (wpAny_bind (wpAny_field hos hds (x:=vl) rfl (wpAny_bind (wpAny_field hos hds (x:=vu) rfl (wpAny_bind (wpAny_field hos hds (x:=.none) rfl (wpAny_pure ?_)))))))
 refine wpAny_bind (slicePart_none ?_)
 show wpAny _ _ (if((1:Int)==0)=true then _ else _) _ _ s
 rw[if_neg (by decide)]
 refine wpAny_bind (ai4 pl (wpAny_bind (ai4 pu (wpAny_bind (wpAny_pure ?_)))))
 show wpAny _ _ (match Builtin.Slice.sliceAdjust lo hi 1 (n:Int) with|(lo,hi)=>pure (lo,(1:Int),Builtin.Slice.slicePlaces lo hi 1)) _ _ s
 rw[aI8 lo hi n]
 show wpAny _ _ (pure (((sIx n 0 lo:Nat):Int),(1:Int),Builtin.Slice.slicePlaces ((sIx n 0 lo:Nat):Int) ((sIx n n hi:Nat):Int) 1)) _ _ s
 rw[aF7]
 exact wpAny_pure h
theorem aZ6(xs:Array Value) (i k:Nat):((List.range k).filterMap fun(m:Nat)=>xs[((i:Int)+(m:Int)*1).toNat]?).toArray=((xs.toList.drop i).take k).toArray:=by
 have e:(fun(m:Nat)=>xs[((i:Int)+(m:Int)*1).toNat]?)=fun m=>xs[i+m]?:=by
  funext m
  have:((i:Int)+(m:Int)*1).toNat=i+m:=by omega
  rw[this]
 rw[e]
 have:=pick_run xs i k
 rw[List.filterMap_map]at this
 have e2:((fun x=>xs[x]?) ∘ fun x=>i+x)=fun m=>xs[i+m]?:=rfl
 rw[e2]at this
 rw[this]
theorem getItem_tuple_cut{t sl:Addr}{items:Array Value}{vl vu:Value}{lo hi:Option Int}{Q:Value->Shared->Prop}(ht:IsTup s.heap t items) (hs:s.heap.IsSliceOf sl vl vu .none) (pl:IsPart vl lo) (pu:IsPart vu hi)
  (hw:¬(sIx items.size 0 lo=0/\sIx items.size items.size hi=items.size))
  (h:Q (.ref s.heap.objs.size) { s with heap:=s.heap.push { cls:=.type "tuple", data:=.seq ((items.toList.drop (sIx items.size 0 lo)).take (sIx items.size items.size hi - sIx items.size 0 lo)).toArray } })
  (hsz:items.size<=sizeLine):wpAny (model prog w) A (getItem (.ref t) (.ref sl)) Q E s:=by
 have htake:sizeOk (.seq ((items.toList.drop (sIx items.size 0 lo)).take (sIx items.size items.size hi - sIx items.size 0 lo)).toArray):=by
  show((items.toList.drop (sIx items.size 0 lo)).take (sIx items.size items.size hi - sIx items.size 0 lo)).toArray.size<=sizeLine
  rw[List.size_toArray,List.length_take,List.length_drop,Array.length_toList]
  omega
 have hj:sIx items.size items.size hi<=items.size:=bB7 _ _ (Nat.le_refl _) hi
 obtain⟨os,hos,hcs,hds⟩:=id hs
 have hTs:s.TypeIs (.ref sl) "slice" := ⟨os,hos,hcs⟩
 unfold getItem
 try with_reducible refine wpAny_holding ?_
 first|refine wpAny_bind (wpAny_pure ?_)|skip
 refine wpAny_bind (wpAny_sequenceKey ht.typeIs (by decide) ?_)
 refine wpAny_bind (wpAny_callSpecial?_slot (name:=Str.ofString "__getitem__") ht.typeIs PyProof.Rows.slot_tuple_getitem
  (wpAny_call_entry PyProof.Rows.slot_tuple_getitem ht.typeIs entry_tuple_getitem ?_ (args_tuple_getitem _ _)))
 show wpAny _ _ (Builtin.Tuple.tupleItemsOf (.ref t) >>= _) _ _ s
 refine wpAny_bind (tupleItemsOf_ ht ?_)
 refine wpAny_bind (wpAny_typeOf hTs ?_)
 rw[if_pos (by decide)]
 refine wpAny_bind (sliceApplied_gen hs pl pu ?_)
 have hno:¬((((sIx items.size 0 lo:Nat):Int)==0&&(1:Int)==1&&(sIx items.size items.size hi - sIx items.size 0 lo)==items.size)=true):=by
  intro q
  rw[Bool.and_eq_true,Bool.and_eq_true]at q
  have q1:((sIx items.size 0 lo:Nat):Int)=0:=eq_of_beq q.1.1
  have q2:sIx items.size items.size hi - sIx items.size 0 lo=items.size:=eq_of_beq q.2
  exact hw ⟨by omega,by omega⟩
 show wpAny _ _ (if(((sIx items.size 0 lo:Nat):Int)==0&&(1:Int)==1&&(sIx items.size items.size hi - sIx items.size 0 lo)==items.size)=true then _ else _) _ _ s
 rw[if_neg hno,aZ6]
 first
  | exact wpAny_bind (m:=Builtin.Tuple.tupleExact _) (wpAny_newObj_type (wpAny_pure ⟨_,rfl,wpAny_pure h⟩) htake)
  | exact wpAny_bind (m:=Builtin.Tuple.tupleExact _) (wpAny_newObj_type (wpAny_bind (wpAny_pure (wpAny_pure ⟨_,rfl,wpAny_pure h⟩))) htake)
  | exact wpAny_bind (wpAny_bind (m:=Builtin.Tuple.tupleExact _) (wpAny_newObj_type (wpAny_pure (wpAny_pure ⟨_,rfl,wpAny_pure h⟩)) htake))
  | exact wpAny_bind (wpAny_bind (m:=Builtin.Tuple.tupleExact _) (wpAny_newObj_type (wpAny_pure ⟨_,rfl,wpAny_pure h⟩) htake))
end
end HT
namespace L2
open PySem PySem.Spec PyProof.Rows
noncomputable abbrev TO:=St->Hp->(Option Int->Hp->Prop)->Prop
noncomputable def PO(X:Cx) (e:Option Expr) (t:TO):Prop :=
 ∀(pins:List (Addr×Obj)) (s:Shared) (σ:St) (H:Hp) (Q:Option Int->Hp->Prop),Inv X pins σ H s->t σ H Q ->
  wpAny (model X.prog X.w) X.A (evalPart e X.env) (fun u s'=>∃o H',Inv X pins σ H' s'/\IsPart u o/\Q o H') X.xe s
noncomputable def bl6:TO:=fun _ H Q=>Q none H
noncomputable def bP1(t:TE):TO:=fun σ H Q=>t σ H fun x H1=>∃i,x=.int i/\Q (some i) H1
section
variable {X:Cx}{e:Expr}{te:TE}{lo hi:Option Expr}{tl th:TO}{pos p2:Pos}
theorem bn4:PO X none bl6:=by
 intro pins s σ H Q I h
 rw[evalPart_none]
 exact wpAny_pure ⟨none,H,I,.none,h⟩
theorem bn3(h:PE X e te):PO X (some e) (bP1 te):=by
 intro pins s σ H Q I hw
 rw[evalPart_some]
 refine thn (h pins s σ H _ I hw) fun u s1 ⟨x,H1,I1,r1,q1⟩=>?_
 obtain⟨i,rfl,q⟩:=q1
 obtain⟨t,rfl⟩:=r1
 exact⟨some i,H1,I1,.int i t,q⟩
noncomputable def SlR(X:Cx) (r:V->Option Int->Option Int->Hp->VK->Prop):Prop :=
 ∀(pins:List (Addr×Obj)) (s:Shared) (σ:St) (H:Hp) (x:V) (v vl vu:Value) (lo hi:Option Int) (sl:Addr) (Q:VK),Inv X pins σ H s->E9 x v->s.heap.IsSliceOf sl vl vu .none->IsPart vl lo->IsPart vu hi->r x lo hi H Q ->
  ∃T id,typeLookup (.type T) "__getitem__" = pure (some (.builtin id))/\s.TypeIs v T/\wpAny (model X.prog X.w) X.A (getItem v (.ref sl)) (EP X pins σ Q) X.xe s
theorem SlR.or{r r':V->Option Int->Option Int->Hp->VK->Prop}(h:SlR X r) (h':SlR X r'):SlR X (fun x lo hi H Q=>r x lo hi H Q\/r' x lo hi H Q):=by
 intro pins s σ H x v vl vu lo hi sl Q I rx hs pl pu q
 rcases q with q|q
 ·exact h pins s σ H x v vl vu lo hi sl Q I rx hs pl pu q
 ·exact h' pins s σ H x v vl vu lo hi sl Q I rx hs pl pu q
noncomputable def tSl(r:V->Option Int->Option Int->Hp->VK->Prop) (te:TE) (tl th:TO):TE:=fun σ H Q=>te σ H fun x H1=>tl σ H1 fun l H2=>th σ H2 fun u H3=>r x l u H3 Q
theorem u9{r:V->Option Int->Option Int->Hp->VK->Prop}(hr:SlR X r) (he:PE X e te) (hl:PO X lo tl) (hu:PO X hi th):PE X (.Subscript e (.Slice lo hi none p2) pos) (tSl r te tl th):=by
 intro pins s σ H Q I h
 refine Subscript_ (thn (he pins s σ H _ I h) fun v s1 ⟨x,H1,I1,r1,q1⟩=>?_)
 refine wpAny_Slice (thn (hl pins s1 σ H1 _ I1 q1) fun vl s2 ⟨l,H2,I2,pl,q2⟩=>thn (hu pins s2 σ H2 _ I2 q2) fun vu s3 ⟨u,H3,I3,pu,q3⟩=>?_)
 rw[evalPart_none]
 refine wpAny_pure ?_
 have I4:Inv X pins σ H3 { s3 with heap:=s3.heap.push { cls:=.type "slice", data:=.fields #[vl,vu,.none] } }:=I3.kept (t':=s3.toks) fun b ob q=>Heap.get?_push_of_some _ q
 obtain⟨T,id,hT,ht,hg⟩:=hr pins { s3 with heap:=s3.heap.push { cls:=.type "slice", data:=.fields #[vl,vu,.none] } } σ H3 x v vl vu l u s3.heap.objs.size Q I4 r1 (Heap.IsSliceOf.new ..) pl pu q3
 show wpAny (model X.prog X.w) X.A (subscriptTail e (.Slice lo hi none p2) v (.ref s3.heap.objs.size)) (EP X pins σ Q) X.xe { s3 with heap:=s3.heap.push { cls:=.type "slice", data:=.fields #[vl,vu,.none] } }
 exact tail_any (ops:=[.ref s3.heap.objs.size,v]) ht hT hg (by with_unfolding_all rfl)
noncomputable def aB5(xs:List V) (lo hi:Option Int):List V:=(xs.drop (HT.sIx xs.length 0 lo)).take (HT.sIx xs.length xs.length hi - HT.sIx xs.length 0 lo)
theorem ae7(xs:List V) (lo hi:Option Int):(aB5 xs lo hi).length<=xs.length:=by
 unfold aB5
 rw[List.length_take,List.length_drop]
 omega
noncomputable def bX5(K:PySem.W.Frag):V->Option Int->Option Int->Hp->VK->Prop:=fun x lo hi H Q=>∃a xs,x=.ref a/\SqT K H a xs /\
 ¬(HT.sIx xs.length 0 lo=0/\HT.sIx xs.length xs.length hi=xs.length)/\∀p,H p=none->Q (.ref p) (upd H p (.tup (aB5 xs lo hi)))
theorem bB6:SlR X (bX5 X.K):=by
 intro pins s σ H x v vl vu lo hi sl Q I rx hs pl pu h
 obtain⟨a,xs,rfl,hx,hw,q⟩:=h
 cases rx
 obtain⟨its,r,ht,hz⟩:=I.tuple hx
 have hlen:its.toArray.size=xs.length:=by rw[List.size_toArray];exact r.length.symm
 refine⟨"tuple", _,PyProof.Rows.slot_tuple_getitem.lookup,ht.typeIs,?_⟩
 refine HT.getItem_tuple_cut ht hs pl pu (by rw[hlen];exact hw) ?_ (by rw[hlen];exact hz)
 rw[hlen]
 refine⟨.ref s.heap.objs.size,_,I.laid (t':=s.toks) (o:=.tup (aB5 xs lo hi)) (fun b ob q=>Heap.get?_push_of_some _ q) (Nat.le_refl _) ?_,rfl,q _ (I.hok.fresh (Nat.le_refl _))⟩
 exact⟨Nat.le_trans (ae7 xs lo hi) hz,_,(r.drop (HT.sIx xs.length 0 lo)).take (HT.sIx xs.length xs.length hi - HT.sIx xs.length 0 lo),al0.new _ _⟩
noncomputable def bQ5(K:PySem.W.Frag):R2:=fun x y H Q=>∃a b xs ys,x=.ref a/\y=.ref b/\SqT K H a xs/\SqT K H b ys/\xs≠[]/\xs.length+ys.length<=sizeLine /\
 (ys=[]->Q (.ref a) H)/\(ys≠[]->∀p,H p=none->Q (.ref p) (upd H p (.tup (xs++ys))))
theorem D2.nil_iff{xs:List V}{us:List Value}(r:D2 xs us):us=[]↔xs=[]:=by
 cases r with
 | nil=>simp
 | cons _ _=>simp
theorem bo5:OpR X (binaryOp .Add) (bQ5 X.K):=by
 intro pins s σ H x y v u Q I rx ry h
 obtain⟨a,b,xs,ys,rfl,rfl,ha,hb,hx,hz,q1,q2⟩:=h
 cases rx
 cases ry
 obtain⟨its,r1,p1,_⟩:=I.tuple ha
 obtain⟨its2,r2,p2,_⟩:=I.tuple hb
 refine HT.cat_tup p1 p2 (fun z=>hx (r1.nil_iff.mp z)) (fun z=>⟨.ref a,H,I,rfl,q1 (r2.nil_iff.mp z)⟩) (fun z=>?_) (by rw[← r1.length,← r2.length];exact hz)
 refine⟨.ref s.heap.objs.size,_,I.laid (t':=s.toks) (o:=.tup (xs++ys)) (fun b ob q=>Heap.get?_push_of_some _ q) (Nat.le_refl _) ?_,rfl,q2 (fun w=>z (r2.nil_iff.mpr w)) _ (I.hok.fresh (Nat.le_refl _))⟩
 exact⟨by rw[List.length_append];exact hz,_,r1.append r2,al0.new _ _⟩
end
noncomputable def ixN(n:Nat) (i:Int):Option Nat:=if 0<=i then(if i < n then some i.toNat else none) else if -(n:Int)<=i then some (i+n).toNat else none
noncomputable def atI{α:Type}(xs:List α) (i:Int):Option α:=(ixN xs.length i).bind fun j=>xs[j]?
theorem bt2{n:Nat}{i:Int}{j:Nat}(h:ixN n i=some j):seqIndex? i n=some j/\j < n/\-(n:Int)<=i/\i < n:=by
 unfold ixN at h
 by_cases h0:0<=i
 ·rw[if_pos h0]at h
  by_cases h1:i < n
  ·rw[if_pos h1]at h
   have e:i.toNat=j:=Option.some.inj h
   exact⟨by rw[seqIndex_of h0 h1,e],by omega,by omega,h1⟩
  ·rw[if_neg h1]at h;cases h
 ·rw[if_neg h0]at h
  by_cases h1:-(n:Int)<=i
  ·rw[if_pos h1]at h
   have e:(i+n).toNat=j:=Option.some.inj h
   exact⟨by rw[seqIndex_neg (by omega) h1,e],by omega,h1,by omega⟩
  ·rw[if_neg h1]at h;cases h
theorem av3{α:Type}{xs:List α}{i:Int}{v:α}(h:atI xs i=some v):∃j,seqIndex? i xs.length=some j/\xs[j]? = some v/\j < xs.length/\-(xs.length:Int)<=i/\i < xs.length:=by
 unfold atI at h
 cases e:ixN xs.length i with
 | none=>rw[e]at h;cases h
 | some j =>
  rw[e]at h
  obtain⟨h1,h2,h3,h4⟩:=bt2 e
  exact⟨j,h1,h,h2,h3,h4⟩
theorem bu8{α:Type}{xs:List α}{j:Nat}{v:α}(h:xs[j]? = some v):atI xs (j:Int)=some v:=by
 have hj:j < xs.length:=(List.getElem?_eq_some_iff.mp h).1
 have e:ixN xs.length (j:Int)=some j:=by
  unfold ixN
  rw[if_pos (by omega),if_pos (by omega)];simp
 unfold atI;rw[e];exact h
noncomputable def ah8(b:Expr):Prop:=∀o i,subscripted b false o i=operate [o,i] (getItem o i)
noncomputable def IxR(X:Cx) (r:R2):Prop :=
 ∀(value slice:Expr) (pins:List (Addr×Obj)) (s:Shared) (σ:St) (H:Hp) (x y:V) (v u:Value) (Q:VK),Inv X pins σ H s->E9 x v->E9 y u->r x y H Q ->
  subscripted slice false v u=operate [v,u] (getItem v u)->wpAny (model X.prog X.w) X.A (subscriptTail value slice v u) (EP X pins σ Q) X.xe s
noncomputable def MtR(X:Cx) (id:String) (r:V->List V->Hp->VK->Prop):Prop :=
 ∀(pins:List (Addr×Obj)) (s:Shared) (σ:St) (H:Hp) (x:V) (xs:List V) (v:Value) (us:List Value) (Q:VK),Inv X pins σ H s->E9 x v->D2 xs us->r x xs H Q ->
  wpAny (model X.prog X.w) X.A (call (.builtin id) (v::us)) (EP X pins σ Q) X.xe s
section
variable {X:Cx}{a b:Expr}{ta tb:TE}{pos:Pos}
theorem IxR.or{r r':R2}(h:IxR X r) (h':IxR X r'):IxR X (fun x y H Q=>r x y H Q\/r' x y H Q):=by
 intro value slice pins s σ H x y v u Q I rx ry q hs
 rcases q with q|q
 ·exact h value slice pins s σ H x y v u Q I rx ry q hs
 ·exact h' value slice pins s σ H x y v u Q I rx ry q hs
theorem bx1{r:R2}(hr:IxR X r) (ha:PE X a ta) (hb:PE X b tb) (hs:ah8 b):PE X (.Subscript a b pos) (tOp r ta tb):=by
 intro pins s σ H Q I h
 exact Subscript_ (bM7 ha hb I h fun v u s2 x y H2 I2 rx ry q=>hr a b pins s2 σ H2 x y v u Q I2 rx ry q (hs _ _))
noncomputable def bQ4(K:PySem.W.Frag):R2:=fun x y H Q=>∃p xs i v,x=.ref p/\y=.int i/\SqL K H p xs/\atI xs i=some v/\Q v H
noncomputable def bQ2(K:PySem.W.Frag):R2:=fun x y H Q=>∃p xs i v,x=.ref p/\y=.int i/\SqT K H p xs/\atI xs i=some v/\Q v H
noncomputable def bQ3:R2:=fun x y H Q=>∃z i c,x=.str z/\y=.int i/\z.length<=sizeLine/\atI z.cps.toList i=some c/\Q (.str ⟨#[c]⟩) H
theorem bt1:IxR X (bQ4 X.K):=by
 intro value slice pins s σ H x y v u Q I rx ry h hs
 obtain⟨p,xs,i,z,rfl,rfl,hq,he,q⟩:=h
 cases rx
 obtain⟨t,rfl⟩:=ry
 obtain⟨its,r,pl,hz⟩:=I.list hq
 obtain⟨j,h1,h2,h3,h4,h5⟩:=av3 he
 obtain⟨w,ew,rw'⟩:=r.get h2
 have hl:=r.length
 have hn:=ac7
 have fin:EP X pins σ Q w s:=⟨z,H,I,rw',q⟩
 by_cases h0:0<=i
 ·have hj:i.toNat=j:=by
   rw[seqIndex_of h0 h5]at h1
   exact Option.some.inj h1
  exact item_listR pl.isList h0 (by omega) (by rw[hj];simpa using ew) fin hs
 ·have hj:(i+(its.toArray.size:Int)).toNat=j:=by
   rw[seqIndex_neg (by omega) h4]at h1
   rw[List.size_toArray,← hl]
   exact Option.some.inj h1
  exact subscriptTail_builtinR (x:=w) pl.isList.typeIs slot_list_getitem.lookup
   (wpAny_getItem_list_neg (Q:=fun r s'=>r=w/\EP X pins σ Q r s') pl.isList (by omega) (by rw[List.size_toArray]<;>omega) (by omega) (by rw[hj];simpa using ew) ⟨rfl,fin⟩) hs
theorem bK5:IxR X (bQ2 X.K):=by
 intro value slice pins s σ H x y v u Q I rx ry h hs
 obtain⟨p,xs,i,z,rfl,rfl,hq,he,q⟩:=h
 cases rx
 obtain⟨t,rfl⟩:=ry
 obtain⟨its,r,pl,hz⟩:=I.tuple hq
 obtain⟨j,h1,h2,h3,h4,h5⟩:=av3 he
 obtain⟨w,ew,rw'⟩:=r.get h2
 have hl:=r.length
 have hn:=ac7
 have fin:EP X pins σ Q w s:=⟨z,H,I,rw',q⟩
 exact subscriptTail_builtinR (x:=w) pl.typeIs slot_tuple_getitem.lookup
  (getItem_tuple (j:=j) (Q:=fun r s'=>r=w/\EP X pins σ Q r s') pl (by omega) (by omega) (by rw[List.size_toArray,← hl];exact h1) (by simpa using ew) ⟨rfl,fin⟩) hs
theorem bK6:IxR X bQ3:=by
 intro value slice pins s σ H x y v u Q I rx ry h hs
 obtain⟨z,i,c,rfl,rfl,hz,he,q⟩:=h
 obtain⟨t,rfl⟩:=rx
 obtain⟨t',rfl⟩:=ry
 obtain⟨j,h1,h2,h3,h4,h5⟩:=av3 he
 have hl:z.cps.toList.length=z.length:=by simp[Str.length]
 rw[hl]at h1 h4 h5
 have hn:=ac7
 exact tail_any (typeIs_str s z t) slot_str_getitem.lookup (getItem_str (c:=c) (by
  have e1:decide (i < -(2 ^ 63:Int))=false:=decide_eq_false (by omega)
  have e2:decide (i ≥ 2 ^ 63)=false:=decide_eq_false (by omega)
  rw[e1,e2,Bool.or_false]) (by rw[h1];simpa using h2) ⟨.str ⟨#[c]⟩,H,I.tok _,⟨_,rfl⟩,q⟩) hs
noncomputable def rIx(K:PySem.W.Frag):R2:=fun x y H Q=>bQ4 K x y H Q\/bQ2 K x y H Q\/bQ3 x y H Q
theorem bf3:IxR X (rIx X.K):=bt1.or (bK5.or bK6)
theorem u3(lo hi:Option Int) (n:Nat):(sliceBounds lo hi none n).1=((HT.sIx n 0 lo:Nat):Int)/\(sliceBounds lo hi none n).2.1=((HT.sIx n n hi:Nat):Int)/\(sliceBounds lo hi none n).2.2=1:=by
 refine⟨?_,?_,rfl⟩
 ·cases lo with
  | none=>simp[sliceBounds,HT.sIx]
  | some i =>
   simp only[sliceBounds,HT.sIx,Option.getD_none,show(1:Int) > 0 by decide,if_true]
   by_cases h:i < 0
   ·simp only[h,if_true]<;>omega
   ·simp only[h,if_false]<;>omega
 ·cases hi with
  | none=>simp[sliceBounds,HT.sIx]
  | some i =>
   simp only[sliceBounds,HT.sIx,Option.getD_none,show(1:Int) > 0 by decide,if_true]
   by_cases h:i < 0
   ·simp only[h,if_true]<;>omega
   ·simp only[h,if_false]<;>omega
theorem am1(its:List Value) (lo hi:Option Int):slicePick its.toArray lo hi none=((its.drop (HT.sIx its.length 0 lo)).take (HT.sIx its.length its.length hi - HT.sIx its.length 0 lo)).toArray:=by
 obtain⟨h1,h2,h3⟩:=u3 lo hi its.toArray.size
 unfold slicePick
 rw[h1,h2,h3]
 simp only[sliceRange_one,pick_run,List.size_toArray]<;>rfl
noncomputable def bX6(K:PySem.W.Frag):V->Option Int->Option Int->Hp->VK->Prop:=fun x lo hi H Q=>∃a xs,x=.ref a/\SqL K H a xs/\∀p,H p=none->Q (.ref p) (upd H p (.lst (aB5 xs lo hi)))
theorem aK2:SlR X (bX6 X.K):=by
 intro pins s σ H x v vl vu lo hi sl Q I rx hs pl pu h
 obtain⟨a,xs,rfl,hx,q⟩:=h
 cases rx
 obtain⟨its,r,ht,hz⟩:=I.list hx
 have hlen:=r.length
 refine⟨"list", _,slot_list_getitem.lookup,ht.isList.typeIs,?_⟩
 refine wpAny_getItem_list_slice ht.isList hs pl pu .none (by simp) ?_ (by rw[List.size_toArray]<;>omega)
 rw[am1,← hlen]
 refine⟨.ref s.heap.objs.size,_,I.laid (t':=s.toks) (o:=.lst (aB5 xs lo hi)) (fun b ob q=>Heap.get?_push_of_some _ q) (Nat.le_refl _) ?_,rfl,q _ (I.hok.fresh (Nat.le_refl _))⟩
 exact⟨Nat.le_trans (ae7 xs lo hi) hz,_,0,(r.drop (HT.sIx xs.length 0 lo)).take (HT.sIx xs.length xs.length hi - HT.sIx xs.length 0 lo),Heap.get?_push_size _ rfl⟩
noncomputable def k7:V->Bool
 | .non=>true
 | .bl _=>true
 | .int _=>true
 | .str _=>true
 | _=>false
noncomputable def eqV:V->V->Bool
 | .non,.non=>true
 | .bl a,.bl b=>a==b
 | .bl a,.int b=>(if a then 1 else 0)==b
 | .int a,.bl b=>a==(if b then 1 else 0)
 | .int a,.int b=>a==b
 | .str a,.str b=>a==b
 | _,_=>false
theorem bL9{A:Around}{s:Shared}{y x:V}{u v:Value}(ry:E9 y u) (rx:E9 x v) (fy:k7 y=true) (fx:k7 x=true):SeqAt.EqAt A s u v (eqV y x):=by
 cases y with
 | non =>
  cases ry
  cases x with
  | non=>cases rx;exact SeqAt.EqAt.same _
  | bl b=>cases rx;exact SeqAt.EqAt.none_bool b
  | int b=>obtain⟨t,rfl⟩:=rx;exact SeqAt.EqAt.none_int b t
  | str b=>obtain⟨t,rfl⟩:=rx;exact SeqAt.EqAt.none_str b t
  | _=>exact absurd (show false=true from fx) Bool.false_ne_true
 | bl a =>
  cases ry
  cases x with
  | non=>cases rx;exact SeqAt.EqAt.bool_none a
  | bl b=>cases rx;exact SeqAt.EqAt.bool_bool a b
  | int b=>obtain⟨t,rfl⟩:=rx;exact SeqAt.EqAt.bool_int a b t
  | str b=>obtain⟨t,rfl⟩:=rx;exact SeqAt.EqAt.bool_str a b t
  | _=>exact absurd (show false=true from fx) Bool.false_ne_true
 | int a =>
  obtain⟨t',rfl⟩:=ry
  cases x with
  | non=>cases rx;exact SeqAt.EqAt.int_none a t'
  | bl b=>cases rx;exact SeqAt.EqAt.int_bool a t' b
  | int b=>obtain⟨t,rfl⟩:=rx;exact SeqAt.EqAt.int_int a t' b t
  | str b=>obtain⟨t,rfl⟩:=rx;exact SeqAt.EqAt.int_str a t' b t
  | _=>exact absurd (show false=true from fx) Bool.false_ne_true
 | str a =>
  obtain⟨t',rfl⟩:=ry
  cases x with
  | non=>cases rx;exact SeqAt.EqAt.str_none a t'
  | bl b=>cases rx;exact SeqAt.EqAt.str_bool a t' b
  | int b=>obtain⟨t,rfl⟩:=rx;exact SeqAt.EqAt.str_int a t' b t
  | str b=>obtain⟨t,rfl⟩:=rx;exact SeqAt.EqAt.str_str a t' b t
  | _=>exact absurd (show false=true from fx) Bool.false_ne_true
 | _=>exact absurd (show false=true from fy) Bool.false_ne_true
noncomputable def eqU(x:V) (u:Value):Bool:=match u with
 | .none=>eqV .non x
 | .bool b=>eqV (.bl b) x
 | .int i _=>eqV (.int i) x
 | .str z _=>eqV (.str z) x
 | _=>false
theorem bh6{x y:V}{u:Value}(r:E9 y u) (f:k7 y=true):eqU x u=eqV y x:=by
 cases y with
 | non=>cases r;rfl
 | bl b=>cases r;rfl
 | int i=>obtain⟨t,rfl⟩:=r;rfl
 | str z=>obtain⟨t,rfl⟩:=r;rfl
 | _=>exact absurd (show false=true from f) Bool.false_ne_true
theorem aa5{x:V}:∀{xs:List V}{us:List Value},D2 xs us->xs.all k7=true->us.any (eqU x)=xs.any fun y=>eqV y x
 | _,_,.nil,_=>rfl
 | y::xs,u::us,.cons r t,f=>by
  rw[List.all_cons,Bool.and_eq_true]at f
  rw[List.any_cons,List.any_cons,bh6 r f.1,aa5 t f.2]
theorem Z1{A:Around}{s:Shared}{x:V}{v:Value}(rx:E9 x v) (fx:k7 x=true):∀{xs:List V}{us:List Value},D2 xs us->xs.all k7=true->∀u∈us,SeqAt.EqAt A s u v (eqU x u)
 | _,_,.nil,_=>fun u hu=>by cases hu
 | y::xs,u::us,.cons r t,f=>fun u' hu=>by
  rw[List.all_cons,Bool.and_eq_true]at f
  rcases List.mem_cons.mp hu with rfl|hu
  ·rw[bh6 r f.1];exact bL9 r rx f.1 fx
  ·exact Z1 rx fx t f.2 u' hu
noncomputable def inV(x:V) (xs:List V):Bool:=xs.any fun y=>eqV y x
noncomputable def rIn(K:PySem.W.Frag) (neg:Bool):R2:=fun x y H Q=>∃p xs,y=.ref p/\(SqL K H p xs\/SqT K H p xs)/\k7 x=true/\xs.all k7=true/\Q (.bl (if neg then !inV x xs else inV x xs)) H
theorem aP9:OpR X (compareOp .In) (rIn X.K false):=by
 intro pins s σ H x y v u Q I rx ry h
 obtain⟨p,xs,rfl,hq,fx,fs,q⟩:=h
 cases ry
 rcases hq with hq|hq
 ·obtain⟨its,r,pl,hz⟩:=I.list hq
  refine SeqAt.in_listAt (eqU x) pl.isList (fun w hw=>Z1 rx fx r fs w (by simpa using hw)) ⟨.bl _,H,I,rfl,?_⟩
  rw[show its.toArray.any (eqU x)=its.any (eqU x) by simp,aa5 r fs]
  exact q
 ·obtain⟨its,r,pl,hz⟩:=I.tuple hq
  refine SeqAt.in_tupleAt (eqU x) pl (fun w hw=>Z1 rx fx r fs w (by simpa using hw)) ⟨.bl _,H,I,rfl,?_⟩
  rw[show its.toArray.any (eqU x)=its.any (eqU x) by simp,aa5 r fs]
  exact q
theorem at3:OpR X (compareOp .NotIn) (rIn X.K true):=by
 intro pins s σ H x y v u Q I rx ry h
 obtain⟨p,xs,rfl,hq,fx,fs,q⟩:=h
 cases ry
 rcases hq with hq|hq
 ·obtain⟨its,r,pl,hz⟩:=I.list hq
  refine SeqAt.notIn_listAt (eqU x) pl.isList (fun w hw=>Z1 rx fx r fs w (by simpa using hw)) ⟨.bl _,H,I,rfl,?_⟩
  rw[show its.toArray.any (eqU x)=its.any (eqU x) by simp,aa5 r fs]
  exact q
 ·obtain⟨its,r,pl,hz⟩:=I.tuple hq
  refine SeqAt.notIn_tupleAt (eqU x) pl (fun w hw=>Z1 rx fx r fs w (by simpa using hw)) ⟨.bl _,H,I,rfl,?_⟩
  rw[show its.toArray.any (eqU x)=its.any (eqU x) by simp,aa5 r fs]
  exact q
theorem av2:V6 X (.builtin "len") (fun xs H Q=>∃p ys,xs=[.ref p]/\(SqL X.K H p ys\/SqT X.K H p ys)/\Q (.int ys.length) H):=by
 intro pins s σ H xs us Q I r h
 obtain⟨p,ys,rfl,hq,q⟩:=h
 obtain⟨u,rfl,rx⟩:=t5 r
 cases rx
 have hn:=ac7
 rcases hq with hq|hq
 ·obtain⟨its,r',pl,hz⟩:=I.list hq
  have hlen:=r'.length
  exact Calls.call_len_list pl.isList (by simp only[List.size_toArray]<;>omega) ⟨.int ys.length,H,I.tok _,⟨s.toks+1,by rw[List.size_toArray,hlen]⟩,q⟩
 ·obtain⟨its,r',pl,hz⟩:=I.tuple hq
  have hlen:=r'.length
  exact len_tuple pl (by simp only[List.size_toArray]<;>omega) ⟨.int ys.length,H,I.tok _,⟨s.toks+1,by rw[List.size_toArray,hlen]⟩,q⟩
theorem av1:V6 X (.builtin "len") (fun xs H Q=>∃z,xs=[.str z]/\z.length<=sizeLine/\Q (.int z.length) H):=by
 intro pins s σ H xs us Q I r h
 obtain⟨z,rfl,hz,q⟩:=h
 obtain⟨u,rfl,t,rfl⟩:=t5 r
 have hn:=ac7
 exact len_str (by omega) ⟨.int z.length,H,I.tok _,⟨_,rfl⟩,q⟩
theorem av0:V6 X (.type "list") (fun xs H Q=>∃p ys,xs=[.ref p]/\(SqL X.K H p ys\/SqT X.K H p ys)/\∀l,H l=none->Q (.ref l) (upd H l (.lst ys))):=by
 intro pins s σ H xs us Q I r h
 obtain⟨p,ys,rfl,hq,q⟩:=h
 obtain⟨u,rfl,rx⟩:=t5 r
 cases rx
 have fin:∀(its:List Value),D2 ys its->ys.length<=sizeLine->∀(h':Heap) (c':Nat),(∀b o',s.heap.get? b=some o'->h'.get? b=some o') ->
   h'.get? s.heap.objs.size=some { cls:=.type "list", dict:=none,data:=.seq its.toArray c',slots:=#[] }->EP X pins σ Q (.ref s.heap.objs.size) { s with heap:=h' }:=fun its r' hz h' c' kp e =>
  ⟨.ref s.heap.objs.size,_,I.laid (t':=s.toks) kp (Nat.le_refl _) (show O7 X.prog X.w _ h' _ (.lst ys) from⟨hz,its,c',r',e⟩),rfl,q _ (I.hok.fresh (Nat.le_refl _))⟩
 rcases hq with hq|hq
 ·obtain⟨its,r',pl,hz⟩:=I.list hq
  have hlen:=r'.length
  obtain⟨o,ho,hc,n,hd⟩:=pl.isList
  exact call_list_seq p (.inl rfl) ho hc hd (fun h' c' kp e=>fin its r' hz h' c' kp e) (by simp only[List.size_toArray]<;>omega)
 ·obtain⟨its,r',pl,hz⟩:=I.tuple hq
  have hlen:=r'.length
  obtain⟨o,ho,hc,n,hd⟩:=pl
  exact call_list_seq p (.inr rfl) ho hc hd (fun h' c' kp e=>fin its r' hz h' c' kp e) (by simp only[List.size_toArray]<;>omega)
theorem an1:V6 X (.type "tuple") (fun xs H Q=>∃p ys,xs=[.ref p]/\((SqL X.K H p ys/\∀l,H l=none->Q (.ref l) (upd H l (.tup ys)))\/(SqT X.K H p ys/\Q (.ref p) H))):=by
 intro pins s σ H xs us Q I r h
 obtain⟨p,ys,rfl,h⟩:=h
 obtain⟨u,rfl,rx⟩:=t5 r
 cases rx
 rcases h with⟨hq,q⟩|⟨hq,q⟩
 ·obtain⟨its,r',pl,hz⟩:=I.list hq
  have hlen:=r'.length
  refine call_tuple_list pl.isList (fun h' kp=>?_) (by simp only[List.size_toArray]<;>omega)
  have I1:Inv X pins σ H { s with heap:=h' }:=I.kept (t':=s.toks) kp
  have I2:Inv X pins σ (upd H h'.objs.size (.tup ys)) { s with heap:=h'.push { cls:=.type "tuple", data:=.seq its.toArray } } :=
   I1.laid (t':=s.toks) (fun b o e=>Heap.get?_push_of_some _ e) (Nat.le_refl _) (show O7 X.prog X.w _ _ _ (.tup ys) from⟨hz,its,r',al0.new _ _⟩)
  exact⟨.ref h'.objs.size,_,I2,rfl,q _ (I1.hok.fresh (Nat.le_refl _))⟩
 ·obtain⟨its,r',pl,hz⟩:=I.tuple hq
  exact call_tuple_same pl ⟨.ref p,H,I,rfl,q⟩
noncomputable def tyV(K:PySem.W.Frag) (T:String) (x:V) (H:Hp):Prop:=match x with
 | .str _=>T = "str"
 | .int _=>T = "int"
 | .ref p=>(T = "list" /\ ∃xs,SqL K H p xs)\/(T = "tuple" /\ ∃o,K.lookup p=some o/\o.cls=.type "tuple" /\ o.dict=none) \/
   (T = "dict" /\ ((∃kvs,H p=some (.dK kvs))\/∃kvs,H p=some (.dT kvs)))\/(T = "set" /\ ∃S n,H p=some (.set S n))
 | _=>False
theorem bA4{pins:List (Addr×Obj)}{σ:St}{H:Hp}{s:Shared}{T:String}{x:V}{v:Value}(I:Inv X pins σ H s) (r:E9 x v) (ty:tyV X.K T x H) :
  s.TypeIs v T/\∀a,v=.ref a->∃ob,s.heap.get? a=some ob/\ob.dict=none:=by
 cases x with
 | str z =>
  obtain⟨t,rfl⟩:=r
  cases(show T = "str" from ty)
  exact⟨typeIs_str s z t,fun _ e=>nomatch e⟩
 | int i =>
  obtain⟨t,rfl⟩:=r
  cases(show T = "int" from ty)
  exact⟨typeIs_int s i t,fun _ e=>nomatch e⟩
 | ref p =>
  cases r
  rcases ty with⟨rfl,xs,hq⟩|⟨rfl,o,hk,hc,hd⟩|⟨rfl,hk⟩|⟨rfl,S,n,hk⟩
  ·obtain⟨its,_,pl,_⟩:=I.list hq
   refine⟨pl.isList.typeIs,fun a e=>?_⟩
   cases e
   obtain⟨o,n,e,c,hd,_⟩:=pl
   exact⟨o,e,hd⟩
  ·refine⟨⟨o,I.kIn p o hk,hc⟩,fun a e=>?_⟩
   cases e
   exact⟨o,I.kIn _ o hk,hd⟩
  ·have z:∃o,s.heap.get? p=some o/\o.ExactDict:=by
    rcases hk with⟨kvs,hk⟩|⟨kvs,hk⟩
    ·obtain⟨_,_,_,_,o,_,_,e,ex,_⟩:=I.hok p _ hk
     exact⟨o,e,ex⟩
    ·obtain⟨_,_,_,_,o,_,_,e,ex,_⟩:=I.hok p _ hk
     exact⟨o,e,ex⟩
   obtain⟨o,e,ex⟩:=z
   refine⟨⟨o,e,ex.1⟩,fun a e2=>?_⟩
   cases e2
   exact⟨o,e,ex.2.1⟩
  ·obtain⟨o,_,_,_,e,ex,_⟩:=I.hok p _ hk
   refine⟨⟨o,e,ex.1⟩,fun a e2=>?_⟩
   cases e2
   exact⟨o,e,ex.2.1⟩
 | _=>exact False.elim ty
noncomputable def tBM(K:PySem.W.Frag) (T:String) (r:V->List V->Hp->VK->Prop) (to:TE) (t:TA):TE:=fun σ H Q=>to σ H fun x H1=>tyV K T x H1/\t σ H1 fun xs H2=>r x xs H2 Q
variable {o e:Expr}{es:List Expr}{to:TE}{t:TA}{name:Str}{apos cpos:Pos}{T id:String}{r:V->List V->Hp->VK->Prop}
theorem aK9(pa:PlainAttrs T) (slot:Slot T name id) (hty:typeOf (.builtin id)=pure (.type "method_descriptor")) (hm:MtR X id r) (ho:PE X o to) (ha:PA X (e::es) t)
  (hbase:attributeBase o name X.env (eval o X.env)=eval o X.env:=by rfl)
  (hfew:((backTo cpos (starEach (e::es) X.env)).all (fun x=>!x.1)&&(backToKw cpos (keywordEach [] X.env)).all (fun x=>x.1.isSome)
   && decide ((e::es).length+([]:List Keyword).length+(if([]:List Keyword).isEmpty then 0 else 1) < 30))=true:=by rfl)
  (hline:(apos.endLine==cpos.line)=true:=by rfl) (hs:starEach (e::es) X.env=(false,eval e X.env)::starEach es X.env:=by rfl) (hplain:(backTo cpos (starEach es X.env)).any (·.1)=false:=by rfl) :
  PE X (.Call (.Attribute o name apos) (e::es) [] cpos) (tBM X.K T r to t):=by
 intro pins s σ H Q I h
 refine wpAny_Call_method_late hbase hfew hline rfl (thn (ho pins s σ H _ I h) fun v s1 ⟨x,H1,I1,r1,ty,q1⟩=>?_)
 obtain⟨h1,h2⟩:=bA4 I1 r1 ty
 refine⟨T,id,pa,slot,hty,h1,h2,?_⟩
 have hA:=ha cpos pins s1 σ H1 _ I1 q1
 rw[hs]at hA ⊢
 refine Calls.callWith_builtin (by show(false || (backTo cpos (starEach es X.env)).any (·.1))=false;rw[hplain]<;>rfl) (Calls.evalArgs_plain ?_)
 exact thn hA fun us s2 ⟨vs,H2,I2,r2,q2⟩=>hm pins s2 σ H2 x vs v us Q I2 r1 r2 q2
end
noncomputable def MtM(X:Cx) (id:String) (r:V->List V->Hp->VK->Prop):Prop :=
 ∀(pins:List (Addr×Obj)) (s:Shared) (σ:St) (H:Hp) (x:V) (xs:List V) (v:Value) (us:List Value) (Q:VK),Inv X pins σ H s->E9 x v->D2 xs us->r x xs H Q ->
  wpAny (model X.prog X.w) X.A (call (.builtin id) (v::us)) (EP X pins σ Q) X.xe s
theorem D2.one:∀{x:V}{us:List Value},D2 [x] us->∃u,us=[u]/\E9 x u
 | _,_,.cons r .nil=>⟨_,rfl,r⟩
theorem D2.rep{xs:List V}{us:List Value}(h:D2 xs us):∀k:Nat,D2 (List.replicate k xs).flatten (List.replicate k us).flatten
 | 0=>.nil
 | k+1=>by
  rw[List.replicate_succ,List.replicate_succ,List.flatten_cons,List.flatten_cons]
  exact D2.append h (D2.rep h k)
theorem ap5(its:List Value):∀(k:Nat) (acc:List Value),
  List.foldl (fun x1 x2=>x1++x2) acc.toArray (List.replicate k its.toArray)=(acc++(List.replicate k its).flatten).toArray
 | 0,acc=>by simp
 | k+1,acc=>by
  have e:acc.toArray++its.toArray=(acc++its).toArray:=by simp
  have e2:(acc++its)++(List.replicate k its).flatten=acc++(List.replicate (k+1) its).flatten:=by rw[List.replicate_succ,List.flatten_cons,List.append_assoc]
  rw[← e2,← ap5 its k (acc++its),← e,List.replicate_succ,List.foldl_cons]
section
variable {X:Cx}{pins:List (Addr×Obj)}{σ:St}{H:Hp}{s:Shared}{l b:Addr}{xs ys zs:List V}
theorem Inv.lset{its its':List Value}{n:Nat}{f:Array Value->Array Value}{t':Nat}(I:Inv X pins σ H s) (hH:H l=some (.lst xs))
  (e:s.heap.get? l=some { cls:=.type "list", data:=.seq its.toArray n }) (hf:f its.toArray=its'.toArray) (hv:D2 ys its') (hz:ys.length<=sizeLine) :
  Inv X pins σ (upd H l (.lst ys)) { s with heap:=s.heap.update l (Obj.mapSeq f),toks:=t' }:=by
 have q:=PySem.IsL.update e f
 rw[hf]at q
 refine I.write (x:=l) (e:=l) (by rw[hH];exact trivial) (.inl rfl) (fun b' u hb hu=>(Heap.get?_update_other s.heap (Obj.mapSeq f) (Ne.symm hb)).trans hu) ⟨_,q⟩ ?_
 exact⟨hz,its',_,hv,q⟩
theorem Inv.lnew{its:List Value}{t':Nat}(I:Inv X pins σ H s) (hv:D2 ys its) (hz:ys.length<=sizeLine) :
  Inv X pins σ (upd H s.heap.objs.size (.lst ys)) { s with heap:=s.heap.push { cls:=.type "list", data:=.seq its.toArray },toks:=t' } :=
 I.laid (fun _ _ q=>Heap.get?_push_of_some _ q) (Nat.le_refl _) ⟨hz,its,0,hv,Heap.get?_push_size _ rfl⟩
theorem Inv.fresh(I:Inv X pins σ H s):H s.heap.objs.size=none:=I.hok.fresh (Nat.le_refl _)
theorem Inv.lstM(I:Inv X pins σ H s) (hH:H l=some (.lst xs)):xs.length<=sizeLine/\∃(its:List Value) (n:Nat),D2 xs its/\xs.length=its.length/\s.heap.get? l=some { cls:=.type "list", data:=.seq its.toArray n }:=by
 obtain⟨z,its,n,r,e⟩:=I.hok l _ hH
 exact⟨z,its,n,r,r.length,e⟩
theorem Y8{n:Nat}(h:n<=sizeLine):Builtin.List.listTooLong n=false:=by
 unfold Builtin.List.listTooLong
 exact decide_eq_false (by omega)
end
section
variable {X:Cx}
noncomputable def bm5:V->List V->Hp->VK->Prop:=fun x vs H Q=>∃l xs y,x=.ref l/\vs=[y]/\H l=some (.lst xs)/\xs.length < sizeLine/\Q .non (upd H l (.lst (xs++[y])))
theorem ao9:MtM X "list.append" bm5:=by
 intro pins s σ H x vs v us Q I rx rv h
 obtain⟨l,xs,y,rfl,rfl,hH,hz,q⟩:=h
 cases rx
 obtain⟨u,rfl,ru⟩:=rv.one
 obtain⟨z,its,n,r,hl,e⟩:=I.lstM hH
 refine call_meets F.slot_list_append ⟨_,e,rfl⟩ F.entry_list_append (F.args_list_append_2 _ _) (PySem.list_append l its.toArray n u (by rw[List.size_toArray];omega)) ⟨e,?_⟩
 refine⟨.non,_,I.lset (its':=its++[u]) hH e (by simp) (r.append (.cons ru .nil)) ?_,rfl,q⟩
 rw[List.length_append,List.length_singleton]
 omega
theorem at8{α:Type}(xs:List α) (k:Nat):(List.replicate k xs).flatten.length=k*xs.length:=by
 induction k with
 | zero=>simp
 | succ k ih=>rw[List.replicate_succ,List.flatten_cons,List.length_append,ih,Nat.succ_mul,Nat.add_comm]
end
section
variable {prog:Program}{w:World}{A:Around}{E:Value->Shared->Prop}{s:Shared}
theorem aP2(its its2:List Value) (a c:Nat):its.toArray.extract 0 a++its2.toArray++its.toArray.extract c its.toArray.size=(its.take a++its2++its.drop c).toArray:=by
  apply Array.toList_inj.mp
  first
    | (simp
       exact List.take_of_length_le (by simp))
    | simp[List.take_of_length_le]
    | simp
set_option maxRecDepth 100000 in
end
section
variable {X:Cx}
end
end L2
namespace Att
open PySem PySem.W PySem.Calls PyProof.Rows
theorem af9{P:Params}{h:Heap}:∀(ns:List Int) (vs:List Value),WellAll P h vs (ns.map WData.int)->IntsAre vs ns:=by
 intro ns
 induction ns with
 | nil =>
  intro vs w
  rw[List.map_nil]at w
  cases w
  exact .nil
 | cons n ns ih =>
  intro vs w
  rw[List.map_cons]at w
  cases w with
  | cons a b =>
   cases a
   exact .cons _ _ (ih _ b)
theorem aP5{l:OpenLaw}{n:Nat}(hn:l.most=some n) {P:Params}{h:Heap}{args:List WData}{vals:List Value}
  (hpre:l.row.toRowW.claim.pre args=true) (hwl:WellAll P h vals args) :
  ∃a vs ns,vals=[Value.ref a]/\args=[WData.list (ns.map WData.int)]/\h.get? a=some { cls:=.type "list", data:=.seq vs.toArray }/\IntsAre vs ns/\ns.length<=n:=by
 have hsh:WShape.hasAll [] args [.list .int]=true:=(pre_splitW hpre).1
 have hc:l.pre.holds [] { args:=args }=true:=(pre_splitW hpre).2
 obtain⟨d,r,rfl,h1,h2⟩:=hasAllW_cons hsh
 obtain rfl:=hasAllW_nil h2
 obtain⟨xs,rfl,h3⟩:=hasW_list h1
 obtain⟨ns,rfl⟩:=items_int h3
 have hlen:ns.length<=n:=by
  unfold OpenLaw.pre at hc
  have h4:(WTm.not (.lt (.lit (.int (n:Int))) (.len (.arg 0)))).holds [] { args:=[.list (ns.map .int)] }=true:=by
   have h4:=(holds_andW hc).1
   rw[hn]at h4
   exact h4
  have h5:=condW_of h4 (w_not (w_lt w_lit (w_len_list (w_arg rfl))))
  rw[List.length_map]at h5
  refine Nat.le_of_not_lt fun q=>?_
  have q':(n:Int) < ((ns.length:Nat):Int):=by omega
  first
   | (rw[decide_eq_true q']at h5;exact absurd h5 (by decide))
   | (simp at h5;omega)
 cases hwl with
 | cons w1 w2 =>
  cases w2
  cases w1 with
  | list ho hall=>exact⟨_,_,ns,rfl,rfl,ho,af9 ns _ hall,hlen⟩
theorem aP6(l:OpenLaw) (args:List WData):l.row.toRowW.claim.post args (.bool true) args=true :=
 postW_of (r:=l.row.toRowW) (X:=(true==true))
  (show WShape.has [] (.bool true) .bool=true by first|rfl|decide|simp[WShape.has,WShape.arms,WShape.armsAll])
  (show(WTm.eq .res (.lit (.bool true))).value [] { args:=args,res:=some (.bool true),after:=args }=some (.bool (true==true)) from w_eq_bool (w_res rfl) w_lit) rfl
theorem attach_call{l:OpenLaw}{n:Nat}{q:Program}{loose:List Str}{XP:(Str->Option Value)->Heap->Prop}{YP:World->Heap->Prop}{d:DefRec}
  (hn:l.most=some n) (hdf:d.params.defaults=[])
  (call:∀(w:World) (s₀ s₁:Shared) (mg mb:Str->Option Value) (fa:Addr) (o:Obj) (pm cd doc:Value) (a:Addr) (vs:List Value) (ns:List Int),
   Ground q loose [] XP w s₀ mg mb s₁.heap->YP w s₁.heap ->
   s₁.heap.get? fa=some o->o.data=.func (docDef d.name d.params d.body d.scope pm cd doc)->s₁.heap.CodeRec cd d.name->mg d.name=some (.ref fa) ->
   s₁.heap.get? a=some { cls:=.type "list", data:=.seq vs.toArray }->IntsAre vs ns->ns.length<=n->s₁.gens = #[] ->
   codeAny (model l.prog w) callerA (.call (.ref fa) ⟨[.ref a],[]⟩) (fun r s'=>r=.ok (.ret (.bool true))/\OldK s₁.heap s'.heap/\s'.os=s₁.os/\AllBare s'.gens) s₁) :
  WalkO q loose XP YP l.row.toRowW d [] (fun f vs=>PySem.call f vs):=by
 intro w s₀ s₁ mg mb G Y fa o pm cd doc dV kV ho hd hcd hD hmg hg args vals as hpre hlay hrd hwl hlo
 obtain rfl:dV=.none:=Dflts.none hD hdf
 obtain rfl:kV=.none:=Dflts.noKw hD
 obtain⟨a,vs,ns,rfl,rfl,hobj,hints,hlen⟩:=aP5 hn hpre hwl
 refine enter_call (codeAny_mono (call w s₀ s₁ mg mb fa o pm cd doc a vs ns G Y ho (fd_plain hd) hcd hmg hobj hints hlen hg) fun r s' hq=>?_)
 obtain⟨rfl,h2,h3,h4⟩:=hq
 exact⟨.inl ⟨.bool true,.bool true,[],rfl,fun _=>rfl,.bool true,aP6 l _,fun _=>⟨List.Pairwise.nil,fun _ hm=>(nomatch hm)⟩⟩,h2,h3,h4⟩
section
variable {prog:Program}{w:World}{A:Around}{E:Value->Shared->Prop}{s:Shared}{K:Frag}
end
end Att
namespace L2
open PySem PySem.Spec PyProof.Rows
theorem ao0:∀{vs:List Value}{ns:List Int},IntsAre vs ns->D2 (ns.map V.int) vs
 | _,_,.nil=>.nil
 | _,_,.cons n t h=>.cons ⟨t,rfl⟩ (ao0 h)
noncomputable def bN4(H:Hp):Prop:=∀b,H b=none\/∃o xs,H b=some (.frz o (.lst xs))
theorem bc4{P:Program}{w:World}{K:PySem.W.Frag}{mg mb:Str->Option Value}{CX:CXT}{k:Nat}{fa a:Addr}{fd:FuncData}{x:Str}{sp:Sp}{s₁:Shared}{vs:List Value}{ns:List Int}
  (KX:K.In s₁.heap) (hns:s₁.heap.Ns mainGlobals mg) (hb:s₁.heap.Ns builtinsNs mb) (hbb:∀x:Str,x ≠ "__name__" -> mb x=bootBuiltins x) (hlim:s₁.heap.NoLimit) (hg:s₁.gens = #[])
  (ha:s₁.heap.get? a=some { cls:=.type "list", data:=.seq vs.toArray }) (hi:IntsAre vs ns) (hl:ns.length<=sizeLine) (hr:Room k callerA)
  (F:∀base:Heap,K.In base->base.Ns mainGlobals mg->FnOk P w K mg base CX k fa fd [x] sp) (hbind:∀(s:Shared) (u:Value),BindsTo s fd ⟨[u],[]⟩ [(x,u)])
  (hsp:∀H:Hp,bN4 H->SqL K H a (ns.map V.int)->sp [.ref a] H (fun v _=>v=.bl true) fun _ _ _=>False)
  (hCX:∀H e s',CX [] H s₁ (fun _ _ _=>False) e s'->False) :
  codeAny (model P w) callerA (.call (.ref fa) ⟨[.ref a],[]⟩) (fun r s'=>r=.ok (.ret (.bool true))/\OldK s₁.heap s'.heap/\s'.os=s₁.os/\AllBare s'.gens) s₁:=by
 have rv:=ao0 hi
 have lenV:=hi.length
 have core:∀H:Hp,bN4 H->SqL K H a (ns.map V.int)->HOk P w H s₁.heap->(∀b,H b≠none->b=a)->(H a≠none->K.lookup a=none) ->
   codeAny (model P w) callerA (.call (.ref fa) ⟨[.ref a],[]⟩) (fun r s'=>r=.ok (.ret (.bool true))/\OldK s₁.heap s'.heap/\s'.os=s₁.os/\AllBare s'.gens) s₁:=by
  intro H hO hS hok hA hK
  have base_of:∀{b:Addr}{o:Obj},s₁.heap.get? b=some o->H b=none->(au2 s₁.heap H).get? b=some o:=fun e n=>bg2 e n
  have noA:∀{b:Addr}{o:Obj}{es:Array DictEntry}{ep:Nat},s₁.heap.get? b=some o->o.data=.dict es ep->H b=none:=fun{b o es ep} e d=>by
   cases q:H b with
   | none=>rfl
   | some u =>
    have e':b=a:=hA b (by rw[q];simp)
    subst e'
    rw[ha]at e;cases e
    have d':Data.seq vs.toArray _=Data.dict es ep:=d
    cases d'
  have nsK:∀{b:Addr}{m:Str->Option Value},s₁.heap.Ns b m->(au2 s₁.heap H).Ns b m:=fun{b m} ⟨o,es,ep,e,d,r⟩=>⟨o,es,ep,base_of e (noA e d),d,r⟩
  have hKb:K.In (au2 s₁.heap H):=fun b o e=>base_of (KX b o e) (by
   cases q:H b with
   | none=>rfl
   | some u =>
    have e':b=a:=hA b (by rw[q];simp)
    subst e'
    rw[hK (by rw[q];simp)]at e;cases e)
  have hM:Mod K mg (au2 s₁.heap H):=⟨hKb,nsK hns,⟨mb,nsK hb,hbb⟩,let⟨mc,h1,h2⟩:=hlim;⟨mc,nsK h1,h2⟩⟩
  have e0:Env0 P w K mg (au2 s₁.heap H) callerA [] s₁ H:=⟨rfl,hM,fun b o e=>bo9 e,Nat.le_of_eq (aR5 _ _),trivial,fun b hb=>absurd (show b∈([]:List Addr) from hb) (by simp),hok,.of_eq hg⟩
  refine codeAny_mono ((F _ hKb (nsK hns)).run callerA [] s₁ H ⟨[.ref a],[]⟩ [.ref a] [.ref a] _ _ hr e0 (hbind s₁ (.ref a)) (.cons rfl .nil) (hsp H hO hS)) fun r s' h=>?_
  cases r with
  | error e=>exact(hCX H e s' h).elim
  | ok fl =>
   cases fl with
   | next=>exact False.elim h
   | brk=>exact False.elim h
   | cont=>exact False.elim h
   | ret u =>
    obtain⟨v,H',os,bare,un,hok',r',q⟩:=h
    have q':v=.bl true:=q
    subst q'
    obtain rfl:u=Value.bool true:=r'
    refine⟨rfl,OldK.of_keep fun b o e=>?_,os,bare⟩
    cases q:H b with
    | none=>exact un.keep b o e q (by intro z;exact absurd (show b∈([]:List Addr) from z) (by simp)) (by simp)
    | some u =>
     rcases hO b with z|⟨ob,xs,z⟩
     ·rw[q]at z;cases z
     ·have z2:=un.frzs b ob _ z
      obtain⟨e1,_⟩:=hok b _ z
      obtain⟨e2,_⟩:=hok' b _ z2
      rw[e]at e1;cases e1
      exact e2
 cases hk:K.lookup a with
 | some o =>
  have e:=KX a o hk
  rw[ha]at e
  cases e
  refine core (fun _=>none) (fun _=>.inl rfl) (.inr ⟨_,vs.toArray,_,hk,rfl,rfl,rfl,by rw[List.size_toArray,lenV];exact hl,by simpa using rv⟩) (fun b u z=>by have z':(none:Option HO)=some u:=z;cases z') (fun b z=>absurd rfl z) fun z=>absurd rfl z
 | none =>
  refine core (fun b=>if b=a then some (.frz { cls:=.type "list", data:=.seq vs.toArray } (.lst (ns.map V.int))) else none) (fun b=>?_) (.inl (.inr ⟨{ cls:=.type "list", data:=.seq vs.toArray },if_pos rfl⟩)) (fun b u z=>?_) (fun b z=>?_) fun _=>hk
  ·by_cases hb:b=a
   ·exact .inr ⟨_,_,if_pos hb⟩
   ·exact .inl (if_neg hb)
  ·by_cases hb:b=a
   ·have z':=(if_pos hb).symm.trans z
    cases z'
    subst hb
    exact⟨ha,by rw[List.length_map];exact hl,vs,_,rv,ha⟩
   ·have z':=(if_neg hb).symm.trans z
    cases z'
  ·by_cases hb:b=a
   ·exact hb
   ·exact absurd (if_neg hb) z
theorem bl0{l:PySem.W.OpenLaw}{n k:Nat}{q:Program}{loose:List Str}{XP:(Str->Option Value)->Heap->Prop}{YP:World->Heap->Prop}{d:DefRec}{K:Params->PySem.W.Frag}{CX:World->CXT}{sp:World->Sp}{x:Str}
  (hn:l.most=some n) (hn2:n<=sizeLine) (hdf:d.params.defaults=[]) (hr:Room k callerA)
  (hY:∀(w:World) (h:Heap),YP w h->(K w.params).In h)
  (F:∀(w:World) (mg:Str->Option Value) (fa:Addr) (h:Heap),(K w.params).In h->h.Ns mainGlobals mg->mg d.name=some (.ref fa) ->
   ∃fd:FuncData,(∀(s:Shared) (u:Value),BindsTo s fd ⟨[u],[]⟩ [(x,u)]) /\
    ∀base:Heap,(K w.params).In base->base.Ns mainGlobals mg->FnOk l.prog w (K w.params) mg base (CX w) k fa fd [x] (sp w))
  (hsp:∀(w:World) (H:Hp) (a:Addr) (ns:List Int),ns.length<=n->bN4 H->SqL (K w.params) H a (ns.map V.int)->sp w [.ref a] H (fun v _=>v=.bl true) fun _ _ _=>False)
  (hCX:∀(w:World) (H:Hp) (s:Shared) (e:Value) (s':Shared),CX w [] H s (fun _ _ _=>False) e s'->False) :
  PySem.W.WalkO q loose XP YP l.row.toRowW d [] (fun f vs=>PySem.call f vs):=by
 refine Att.attach_call hn hdf fun w s₀ s₁ mg mb fa o pm cd doc a vs ns G Y ho hd hcd hmg hobj hints hlen hg=>?_
 have KX:=hY w _ Y
 obtain⟨fd,hb,hF⟩:=F w mg fa _ KX G.T.g hmg
 exact bc4 KX G.T.g G.T.b G.T.builtins G.T.nolimit hg hobj hints (Nat.le_trans hlen hn2) hr hF hb (fun H hO hS=>hsp w H a ns hlen hO hS) fun H e s'=>hCX w H s₁ e s'
noncomputable def R1(s:Stmt):Arguments:=match s with
 | .FunctionDef _ a _ _ _ _ _ _ _ _=>a
 | _=>{ posonlyargs:=[],args:=[],vararg:=none,kwonlyargs:=[],kw_defaults:=[],kwarg:=none,defaults:=[] }
noncomputable def G5(s:Stmt):List Stmt:=match s with
 | .FunctionDef _ _ b _ _ _ _ _ _ _=>b
 | _=>[]
noncomputable def C6(s:Stmt):Scope:=match s with
 | .FunctionDef _ _ _ _ _ _ sc _ _ _=>sc
 | _=>{ kind:=.function,names:=[],isGenerator:=false,isCoroutine:=false }
noncomputable abbrev CX0:CXT:=fun _ _ _ _ _ _=>False
noncomputable abbrev E0:XK:=fun _ _ _=>False
theorem ba0{X:Cx}:aw4 CX0 X E0:=fun _ _ _ _ _ _ _ h=>h.elim
structure Fun (K:PySem.W.Frag) (x qual:Str) (st:Stmt) (f:Addr) (fd:FuncData):Prop where
 ex:∃(oc:Value) (od:Option Addr) (kV doc pm:Value) (an:Option Addr) (cdv ct:Value) (osl:Array (Option Value)),
  fd=PySem.W.fnOf x qual (R1 st) (G5 st) (C6 st) .none kV doc pm an cdv ct/\K.lookup f=some ⟨oc,od,.func fd,osl⟩/\PySem.W.codeIn K cdv qual=true
 kp:PySem.W.keepIn K (.ref f)=true
section
variable {P:Program}{w:World}{K:PySem.W.Frag}{mg:Str->Option Value}{base:Heap}
theorem Fun.ok{x qual:Str}{st:Stmt}{f:Addr}{fd:FuncData}{N ps:List Str}{k:Nat}{sp:Sp}(F:Fun K x qual st f fd) (S:FnScope N ps (C6 st)) (len:∀vs H Q E,sp vs H Q E->vs.length=ps.length)
  (hbody:∀(cdv:Value) (A:Around) (outer:List Env) (s:Shared) (H:Hp) (vs:List V) (Q:VK) (E:XK),Room k (A.deeper (envOfC qual (C6 st) s.heap.objs.size f cdv))->sp vs H Q E ->
   ∃t,PSs (am9 CX0 P w K mg base N qual (C6 st) f cdv A outer s H E).nox (G5 st) t/\t { nx:=fun _ H'=>Q .non H',rt:=Q } (S9 N vs) H):FnOk P w K mg base CX0 (k+1) f fd ps sp:=by
 obtain⟨oc,od,kV,doc,pm,an,cdv,ct,osl,rfl,lk,hcd⟩:=F.ex
 refine ap6 lk hcd S len fun A outer s H vs Q E hr hsp=>?_
 obtain⟨t,h,q⟩:=hbody cdv A outer s H vs Q E hr hsp
 exact⟨t,h.nox,q⟩
theorem bL4{x qual:Str}{st:Stmt}{f:Addr}{oc:Value}{od an:Option Addr}{osl:Array (Option Value)}{kV doc pm cdv ct:Value}(l:K.lookup f=some ⟨oc,od,.func (PySem.W.fnOf x qual (R1 st) (G5 st) (C6 st) .none kV doc pm an cdv ct),osl⟩)
  (c:PySem.W.codeIn K cdv qual=true) (k:PySem.W.keepIn K (.ref f)=true):Fun K x qual st f (PySem.W.fnOf x qual (R1 st) (G5 st) (C6 st) .none kV doc pm an cdv ct):=⟨⟨oc,od,kV,doc,pm,an,cdv,ct,osl,rfl,l,c⟩,k⟩
end
theorem ab5{n:Nat}(h:n<=1000):n < sizeLine:=Nat.lt_of_le_of_lt h (by decide)
section
variable {X:Cx}
theorem pv(i:Nat) {x:Str}{pos:Pos}(hN:X.N[i]? = some x:=by rfl) (hv:Vis X.env.scope x:=by first|exact Or.inl rfl|exact Or.inr (Or.inl rfl)|exact Or.inr (Or.inr rfl)) (hd:(x==("__debug__" : Str))=false:=by decide)
  (hcd:(x==("__classdict__" : Str))=false:=by decide):PE X (.Name x pos) (bP0 i):=W3 hN hv hd hcd
end
theorem am5{A B:Prop}(h:B):if false=true then A else B:=by
 rw[if_neg Bool.false_ne_true]
 exact h
theorem am4{A B:Prop}(h:A):if true=true then A else B:=by
 rw[if_pos rfl]
 exact h
noncomputable def D0(H H':Hp):Prop:=∀b o,H b=some o->H' b=some o
theorem D0.refl(H:Hp):D0 H H:=fun _ _ h=>h
theorem D0.trans{H H1 H2:Hp}(a:D0 H H1) (b:D0 H1 H2):D0 H H2:=fun c o h=>b c o (a c o h)
theorem D0.free{H H':Hp}(e:D0 H H') {l:Addr}(h:H' l=Option.none):H l=Option.none:=by
 cases q:H l with
 | none=>rfl
 | some o =>
  rw[e l o q]at h
  cases h
end L2
set_option maxHeartbeats 4000000
namespace G
theorem xbm{α β:Type}{o:Option α}{f:α->Option β}{b:β}(h:o.bind f=some b):∃a,o=some a/\f a=some b:=xbo h
open PySem PySem.Spec PyProof.Rows L2
noncomputable abbrev D:=PyData
mutual
noncomputable def Rep(K:PySem.W.Frag) (H:Hp):D->V->Prop
 | .none,v=>v=.non
 | .bool b,v=>v=.bl b
 | .int i,v=>v=.int i
 | .str x,v=>v=.str x
 | .tuple ds,v=>∃a vs,v=.ref a/\SqT K H a vs/\Reps K H ds vs
 | .list ds,v=>∃a vs,v=.ref a/\SqL K H a vs/\Reps K H ds vs
 | .dict _,_=>False
noncomputable def Reps(K:PySem.W.Frag) (H:Hp):List D->List V->Prop
 | [],vs=>vs=[]
 | d::ds,vs=>∃v r,vs=v::r/\Rep K H d v/\Reps K H ds r
end
section
variable {K:PySem.W.Frag}{H H' H0 H1 H2 Hf Hf' Hf1 Hf2:Hp}
theorem aK4{a:Addr}{u:HO}(e:D0 H H') (h:Rd H a u):Rd H' a u:=by
 rcases h with h|⟨o,h⟩
 ·exact .inl (e _ _ h)
 ·exact .inr ⟨o,e _ _ h⟩
theorem C8{a:Addr}{xs:List V}(e:D0 H H') (h:SqT K H a xs):SqT K H' a xs:=h.imp (aK4 e) id
theorem E7{a:Addr}{xs:List V}(e:D0 H H') (h:SqL K H a xs):SqL K H' a xs:=h.imp (aK4 e) id
mutual
theorem Rep.mono(e:D0 H H'):∀{d:D}{v:V},Rep K H d v->Rep K H' d v
 | .none,_,h=>h
 | .bool _,_,h=>h
 | .int _,_,h=>h
 | .str _,_,h=>h
 | .tuple _,_,⟨a,vs,h1,h2,h3⟩=>⟨a,vs,h1,C8 e h2,Reps.mono e h3⟩
 | .list _,_,⟨a,vs,h1,h2,h3⟩=>⟨a,vs,h1,E7 e h2,Reps.mono e h3⟩
 | .dict _,_,h=>h
theorem Reps.mono(e:D0 H H'):∀{ds:List D}{vs:List V},Reps K H ds vs->Reps K H' ds vs
 | [],_,h=>h
 | _::_,_,⟨v,r,h1,h2,h3⟩=>⟨v,r,h1,Rep.mono e h2,Reps.mono e h3⟩
end
theorem Reps.length:∀{ds:List D}{vs:List V},Reps K H ds vs->vs.length=ds.length
 | [],_,h=>by cases h;rfl
 | _::_,_,⟨v,r,h1,h2,h3⟩=>by subst h1;simp[Reps.length h3]
theorem Reps.get:∀{ds:List D}{vs:List V}{i:Nat}{d:D},Reps K H ds vs->ds[i]? = some d->∃v,vs[i]? = some v/\Rep K H d v
 | [],_,_,_,_,e=>by simp at e
 | x::_,_,0,_,⟨v,r,h1,h2,h3⟩,e=>by subst h1;simp at e;subst e;exact⟨v,rfl,h2⟩
 | x::_,_,i+1,_,⟨v,r,h1,h2,h3⟩,e=>by
  subst h1
  obtain⟨u,q1,q2⟩:=Reps.get (i:=i) h3 (by simpa using e)
  exact⟨u,by simpa using q1,q2⟩
theorem Reps.append:∀{ds es:List D}{vs us:List V},Reps K H ds vs->Reps K H es us->Reps K H (ds++es) (vs++us)
 | [],_,_,_,h,q=>by cases h;exact q
 | _::_,_,_,_,⟨v,r,h1,h2,h3⟩,q=>by subst h1;exact⟨v,r++_,rfl,h2,Reps.append h3 q⟩
theorem Reps.take:∀{ds:List D}{vs:List V}(n:Nat),Reps K H ds vs->Reps K H (ds.take n) (vs.take n)
 | [],_,n,h=>by cases h;simp[Reps]
 | _::_,_,0,h=>by simp[Reps]
 | _::_,_,n+1,⟨v,r,h1,h2,h3⟩=>by subst h1;exact⟨v,r.take n,rfl,h2,Reps.take n h3⟩
theorem Reps.drop:∀{ds:List D}{vs:List V}(n:Nat),Reps K H ds vs->Reps K H (ds.drop n) (vs.drop n)
 | [],_,n,h=>by cases h;simp[Reps]
 | _::_,_,0,h=>h
 | _::_,_,n+1,⟨v,r,h1,h2,h3⟩=>by subst h1;exact Reps.drop n h3
theorem Reps.ints:∀(ns:List Int),Reps K H (ns.map PyData.int) (ns.map V.int)
 | []=>rfl
 | n::r=>⟨.int n,r.map V.int,rfl,rfl,Reps.ints r⟩
theorem Reps.flatten{ds:List D}{vs:List V}(h:Reps K H ds vs):∀k:Nat,Reps K H (List.replicate k ds).flatten (List.replicate k vs).flatten
 | 0=>rfl
 | k+1=>by simp only[List.replicate_succ,List.flatten_cons];exact h.append (Reps.flatten h k)
structure Grow (H Hf H' Hf':Hp):Prop where
 big:D0 H H'
 sub:D0 Hf' H'
 ext:D0 Hf Hf'
 new:∀b,Hf' b≠none->Hf b≠none\/H b=none
theorem Grow.refl(h:D0 Hf H):Grow H Hf H Hf:=⟨D0.refl _,h,D0.refl _,fun _ h=>.inl h⟩
theorem Grow.trans(a:Grow H Hf H1 Hf1) (b:Grow H1 Hf1 H2 Hf2):Grow H Hf H2 Hf2 :=
 ⟨a.big.trans b.big,b.sub,a.ext.trans b.ext,fun x h=>(b.new x h).elim (a.new x) fun z=>.inr (a.big.free z)⟩
theorem D8{p:Addr}{o:HO}(h:H p=none):D0 H (upd H p o):=fun b u e=>by rw[B4 (B9 e h)];exact e
theorem Grow.laid{p:Addr}{o:HO}(s:D0 Hf H) (h:H p=none):Grow H Hf (upd H p o) (upd Hf p o):=by
 refine⟨D8 h,fun b u e=>?_,D8 (s.free h),fun b e=>?_⟩
 ·by_cases q:b=p
  ·subst q;rw[B7]at e;rw[B7];exact e
  ·rw[B4 q]at e;rw[B4 q];exact s b u e
 ·by_cases q:b=p
  ·subst q;exact .inr h
  ·rw[B4 q]at e;exact .inl e
theorem Grow.made{p:Addr}{o:HO}(s:D0 Hf H) (h:H p=none):Grow H Hf (upd H p o) Hf :=
 ⟨D8 h,s.trans (D8 h),D0.refl _,fun _ e=>.inl e⟩
theorem Grow.freeze{p:Addr}{o:HO}(g:Grow H Hf H1 Hf1) (h:H1 p=some o) (n:Hf1 p=none) (f:H p=none):Grow H Hf H1 (upd Hf1 p o):=by
 refine⟨g.big,fun b u e=>?_,g.ext.trans (D8 n),fun b e=>?_⟩
 ·by_cases q:b=p
  ·subst q;rw[B7]at e;rw[h];exact e
  ·rw[B4 q]at e;exact g.sub b u e
 ·by_cases q:b=p
  ·subst q;exact .inr f
  ·rw[B4 q]at e;exact g.new b e
end
inductive B where
 | val (d:D)
 | own (ds:List D)
 | exc (x:Str)
noncomputable abbrev Rho:=List (Option B)
noncomputable def clA(K:PySem.W.Frag) (x:Str):Option Addr:=match PySem.W.nsIn K mainGlobals x with
 | some (some (.ref C))=>some C
 | _=>none
noncomputable def SB(K:PySem.W.Frag) (H0 H Hf:Hp):B->V->Prop
 | .val d,v=>Rep K Hf d v
 | .own ds,v=>∃a vs,v=.ref a/\H a=some (.lst vs)/\Hf a=none/\H0 a=none/\Reps K Hf ds vs
 | .exc x,v=>∃a o C,v=.ref a/\Hf a=some (.frz o (.own a))/\clA K x=some C/\o.cls=.ref C
structure Slots (K:PySem.W.Frag) (H0:Hp) (ρ:Rho) (σ:L2.St) (H Hf:Hp):Prop where
 len:ρ.length=σ.length
 is:∀(i:Nat) (b:B),ρ[i]? = some (some b)->∃v,σ[i]? = some (some v)/\SB K H0 H Hf b v
 apart:∀(i j:Nat) (ds es:List D) (a:Addr),ρ[i]? = some (some (.own ds))->ρ[j]? = some (some (.own es))->σ[i]? = some (some (V.ref a))->σ[j]? = some (some (V.ref a))->i=j
section
variable {K:PySem.W.Frag}{H H' H0 H1 H2 Hf Hf' Hf1 Hf2:Hp}{ρ:Rho}{σ:L2.St}
theorem SB.grow{b:B}{v:V}(h:SB K H0 H Hf b v) (g:Grow H Hf H' Hf'):SB K H0 H' Hf' b v:=by
 cases b with
 | val d=>exact Rep.mono g.ext h
 | exc C =>
  obtain⟨a,o,C,e,h1,h2⟩:=h
  exact⟨a,o,C,e,g.ext _ _ h1,h2⟩
 | own ds =>
  obtain⟨a,vs,e,h1,h2,h3,h4⟩:=h
  refine⟨a,vs,e,g.big _ _ h1,?_,h3,h4.mono g.ext⟩
  cases q:Hf' a with
  | none=>rfl
  | some u =>
   rcases g.new a (by rw[q];simp) with z|z
   ·exact absurd h2 z
   ·rw[h1]at z;cases z
theorem Slots.grow(s:Slots K H0 ρ σ H Hf) (g:Grow H Hf H' Hf'):Slots K H0 ρ σ H' Hf' :=
 ⟨s.len,fun i b e=>let⟨v,h1,h2⟩:=s.is i b e;⟨v,h1,h2.grow g⟩,s.apart⟩
end
noncomputable abbrev DE:=Rho->Option D
noncomputable def tJ(K:PySem.W.Frag) (ρ:Rho) (R:Hp->V->Hp->Hp->Prop):TE:=fun σ H Q=>∃H0 Hf,D0 Hf H/\Slots K H0 ρ σ H Hf/\∀v H' Hf',Grow H Hf H' Hf'->R H v H' Hf'->Q v H'
noncomputable def JE(X:Cx) (e:Expr) (f:DE):Prop:=∀ρ d,f ρ=some d->PE X e (tJ X.K ρ fun _ v _ Hf=>Rep X.K Hf d v)
noncomputable def Sq(K:PySem.W.Frag):Bool->Hp->Addr->List V->Prop
 | true=>SqT K
 | false=>SqL K
noncomputable def RQ(K:PySem.W.Frag) (t:Bool) (ds:List D) (v:V) (H Hf:Hp):Prop:=∃a vs,v=.ref a/\Sq K t H a vs/\Reps K Hf ds vs
noncomputable def JQ(X:Cx) (e:Expr) (f:Rho->Option (Bool×List D)):Prop:=∀ρ t ds,f ρ=some (t,ds)->PE X e (tJ X.K ρ fun _ v H Hf=>RQ X.K t ds v H Hf)
noncomputable def JN(X:Cx) (e:Expr) (f:Rho->Option (List D)):Prop:=∀ρ ds,f ρ=some ds->PE X e (tJ X.K ρ fun H v H' Hf'=>∃a vs,v=.ref a/\H a=none/\H' a=some (.lst vs)/\Hf' a=none/\Reps X.K Hf' ds vs)
noncomputable def tJA(K:PySem.W.Frag) (ρ:Rho) (ds:List D):TA:=fun σ H Q=>∃H0 Hf,D0 Hf H/\Slots K H0 ρ σ H Hf/\∀vs H' Hf',Grow H Hf H' Hf'->Reps K Hf' ds vs->Q vs H'
structure JA (X:Cx) (es:List Expr) (f:Rho->Option (List D)):Prop where
 len:∀ρ ds,f ρ=some ds->ds.length=es.length
 run:∀ρ ds,f ρ=some ds->PA X es (tJA X.K ρ ds)
noncomputable def JT(X:Cx) (e:Expr) (f:Rho->Option Bool):Prop:=∀ρ c,f ρ=some c->PT X e (fun σ H Q=>∃H0 Hf,D0 Hf H/\Slots X.K H0 ρ σ H Hf/\∀H' Hf',Grow H Hf H' Hf'->Q c H')
noncomputable def JW(X:Cx) (e:Expr) (f:Rho->Option Bool):Prop:=∀ρ c,f ρ=some c->PW X e (fun σ H Q=>∃H0 Hf,D0 Hf H/\Slots X.K H0 ρ σ H Hf/\∀H' Hf',Grow H Hf H' Hf'->Q c H')
section
variable {X:Cx}
theorem C0{e:Expr}{t t':TE}(h:PE X e t) (i:∀σ H Q,t' σ H Q->t σ H Q):PE X e t':=fun pins s σ H Q I q=>h pins s σ H Q I (i σ H Q q)
theorem ai9{e:Expr}{t t':TT}(h:PT X e t) (i:∀σ H Q,t' σ H Q->t σ H Q):PT X e t':=fun pins s σ H Q I q=>h pins s σ H Q I (i σ H Q q)
noncomputable def dC(d:D):DE:=fun _=>some d
noncomputable def A1(i:Nat):DE:=fun ρ=>match ρ[i]? with
 | some (some (.val d))=>some d
 | _=>none
noncomputable def A7(i:Nat):Rho->Option (Bool×List D):=fun ρ=>match ρ[i]? with
 | some (some (.own ds))=>some (false,ds)
 | some (some (.val (.list ds)))=>some (false,ds)
 | some (some (.val (.tuple ds)))=>some (true,ds)
 | _=>none
noncomputable def ab7:D->Option (Bool×List D)
 | .list ds=>some (false,ds)
 | .tuple ds=>some (true,ds)
 | _=>none
theorem be8{i:Int}{j:Nat}{pos:Pos}:JE X (.Constant (.int i) j pos) (dC (.int i)):=fun ρ d h=>by
 cases h
 exact C0 bD5 fun σ H Q ⟨H0,Hf,s,sl,k⟩=>k _ H Hf (Grow.refl s) rfl
theorem bT7{b:Bool}{j:Nat}{pos:Pos}:JE X (.Constant (.bool b) j pos) (dC (.bool b)):=fun ρ d h=>by
 cases h
 exact C0 bQ7 fun σ H Q ⟨H0,Hf,s,sl,k⟩=>k _ H Hf (Grow.refl s) rfl
theorem bJ8{j:Nat}{pos:Pos}:JE X (.Constant .none j pos) (dC .none):=fun ρ d h=>by
 cases h
 exact C0 bD3 fun σ H Q ⟨H0,Hf,s,sl,k⟩=>k _ H Hf (Grow.refl s) rfl
theorem bJ3{x:Str}{j:Nat}{pos:Pos}:JE X (.Constant (.str x) j pos) (dC (.str x)):=fun ρ d h=>by
 cases h
 exact C0 bC9 fun σ H Q ⟨H0,Hf,s,sl,k⟩=>k _ H Hf (Grow.refl s) rfl
theorem be0(i:Nat) {x:Str}{pos:Pos}(hN:X.N[i]? = some x:=by rfl) (hv:Vis X.env.scope x:=by first|exact Or.inl rfl|exact Or.inr (Or.inl rfl)|exact Or.inr (Or.inr rfl)) (hd:(x==("__debug__" : Str))=false:=by decide)
  (hcd:(x==("__classdict__" : Str))=false:=by decide):JE X (.Name x pos) (A1 i):=fun ρ d h=>by
 refine C0 (W3 hN hv hd hcd) fun σ H Q ⟨H0,Hf,s,sl,k⟩=>?_
 unfold A1 at h
 split at h
 ·rename_i d' e
  cases h
  obtain⟨v,h1,h2⟩:=sl.is i _ e
  exact⟨v,h1,k v H Hf (Grow.refl s) h2⟩
 ·cases h
theorem bI7(i:Nat) {x:Str}{pos:Pos}(hN:X.N[i]? = some x:=by rfl) (hv:Vis X.env.scope x:=by first|exact Or.inl rfl|exact Or.inr (Or.inl rfl)|exact Or.inr (Or.inr rfl)) (hd:(x==("__debug__" : Str))=false:=by decide)
  (hcd:(x==("__classdict__" : Str))=false:=by decide):JQ X (.Name x pos) (A7 i):=fun ρ t ds h=>by
 refine C0 (W3 hN hv hd hcd) fun σ H Q ⟨H0,Hf,s,sl,k⟩=>?_
 unfold A7 at h
 split at h
 ·rename_i d' e
  cases h
  obtain⟨v,h1,a,vs,rfl,h2,h3,h4,h5⟩:=sl.is i _ e
  exact⟨_,h1,k _ H Hf (Grow.refl s) ⟨a,vs,rfl,SqL.of h2,h5⟩⟩
 ·rename_i d' e
  cases h
  obtain⟨v,h1,a,vs,rfl,h2,h3⟩:=sl.is i _ e
  exact⟨_,h1,k _ H Hf (Grow.refl s) ⟨a,vs,rfl,E7 s h2,h3⟩⟩
 ·rename_i d' e
  cases h
  obtain⟨v,h1,a,vs,rfl,h2,h3⟩:=sl.is i _ e
  exact⟨_,h1,k _ H Hf (Grow.refl s) ⟨a,vs,rfl,C8 s h2,h3⟩⟩
 ·cases h
theorem Rep.seq{K:PySem.W.Frag}{H Hf:Hp}{d:D}{v:V}{t:Bool}{ds:List D}(h:Rep K Hf d v) (s:D0 Hf H) (e:ab7 d=some (t,ds)):RQ K t ds v H Hf:=by
 cases d with
 | list xs=>cases e;obtain⟨a,vs,e1,e2,e3⟩:=h;exact⟨a,vs,e1,E7 s e2,e3⟩
 | tuple xs=>cases e;obtain⟨a,vs,e1,e2,e3⟩:=h;exact⟨a,vs,e1,C8 s e2,e3⟩
 | _=>cases e
noncomputable def qE(f:DE):Rho->Option (Bool×List D):=fun ρ=>(f ρ).bind ab7
theorem bd6{e:Expr}{f:DE}(h:JE X e f):JQ X e (qE f):=fun ρ t ds q=>by
 obtain⟨d,h1,h2⟩:=xbm q
 exact C0 (h ρ d h1) fun σ H Q ⟨H0,Hf,s,sl,k⟩=>⟨H0,Hf,s,sl,fun v H' Hf' g r=>k v H' Hf' g (r.seq g.sub h2)⟩
noncomputable def A3:Rho->Option (List D):=fun _=>some []
noncomputable def A0(f:DE) (g:Rho->Option (List D)):Rho->Option (List D):=fun ρ=>(f ρ).bind fun d=>(g ρ).map fun ds=>d::ds
theorem bf2:JA X [] A3:=⟨fun ρ ds h=>by cases h;rfl,fun ρ ds h pos pins s σ H Q I ⟨H0,Hf,ss,sl,k⟩=>by
 cases h
 exact L0 pos pins s σ H Q I (k [] H Hf (Grow.refl ss) rfl)⟩
theorem aM4{e:Expr}{es:List Expr}{f:DE}{g:Rho->Option (List D)}(h:JE X e f) (r:JA X es g) (hs:starEach (e::es) X.env=(false,eval e X.env)::starEach es X.env:=by rfl):JA X (e::es) (A0 f g):=by
 refine⟨fun ρ ds q=>?_,fun ρ ds q=>?_⟩
 ·obtain⟨d,h1,h2⟩:=xbm q
  obtain⟨es',h3,h4⟩:=xmo h2
  subst h4
  simp[r.len ρ es' h3]
 ·obtain⟨d,h1,h2⟩:=xbm q
  obtain⟨es',h3,h4⟩:=xmo h2
  subst h4
  intro pos pins s σ H Q I ⟨H0,Hf,ss,sl,k⟩
  refine G0 (h ρ d h1) (r.run ρ es' h3) hs pos pins s σ H Q I ⟨H0,Hf,ss,sl,fun v H1 Hf1 g1 r1=>⟨H0,Hf1,g1.sub,sl.grow g1,fun vs H2 Hf2 g2 r2=>?_⟩⟩
  exact k (v::vs) H2 Hf2 (g1.trans g2) ⟨v,vs,rfl,r1.mono g2.ext,r2⟩
noncomputable def F0(f:Rho->Option (List D)):DE:=fun ρ=>(f ρ).map PyData.tuple
theorem be2{es:List Expr}{f:Rho->Option (List D)}{k:Nat}{pos:Pos}(h:JA X es f) (hn:es.length<=1000:=by decide):JE X (.Tuple es k pos) (F0 f):=fun ρ d q=>by
 obtain⟨ds,h1,h2⟩:=xmo q
 subst h2
 refine C0 (bC8 fun pos pins s σ H Q I t=>h.run ρ ds h1 pos pins s σ H Q I t) fun σ H Q ⟨H0,Hf,s,sl,k⟩=>?_
 refine⟨H0,Hf,s,sl,fun vs H1 Hf1 g r=>⟨?_,fun p hp=>?_⟩⟩
 ·rw[r.length,h.len ρ ds h1];exact Nat.le_of_lt (ab5 hn)
 ·exact k _ _ _ (g.trans (Grow.laid g.sub hp)) ⟨p,vs,rfl,SqT.of B7,r.mono (Grow.laid (o:=.tup vs) g.sub hp).ext⟩
theorem bd7{es:List Expr}{f:Rho->Option (List D)}{pos:Pos}(h:JA X es f) (hn:es.length<=1000:=by decide):JN X (.List es pos) f:=fun ρ ds h1=>by
 refine C0 (bD4 fun pos pins s σ H Q I t=>h.run ρ ds h1 pos pins s σ H Q I t) fun σ H Q ⟨H0,Hf,s,sl,k⟩=>?_
 refine⟨H0,Hf,s,sl,fun vs H1 Hf1 g r=>⟨?_,fun p hp=>?_⟩⟩
 ·rw[r.length,h.len ρ ds h1];exact Nat.le_of_lt (ab5 hn)
 ·exact k _ _ _ (g.trans (Grow.made g.sub hp)) ⟨p,vs,rfl,g.big.free hp,B7,g.sub.free hp,r⟩
noncomputable def Q0(f:Rho->Option (List D)):DE:=fun ρ=>(f ρ).map PyData.list
theorem v9{e:Expr}{f:Rho->Option (List D)}(h:JN X e f):JE X e (Q0 f):=fun ρ d q=>by
 obtain⟨ds,h1,h2⟩:=xmo q
 subst h2
 refine C0 (h ρ ds h1) fun σ H Q ⟨H0,Hf,s,sl,k⟩=>⟨H0,Hf,s,sl,fun v H' Hf' g ⟨a,vs,e1,e2,e3,e4,e5⟩=>?_⟩
 subst e1
 exact k _ _ _ (g.freeze e3 e4 e2) ⟨a,vs,rfl,SqL.of B7,e5.mono (D8 e4)⟩
theorem bd5{e:Expr}{f:Rho->Option (List D)}(h:JN X e f):JQ X e (fun ρ=>(f ρ).map fun ds=>(false,ds)):=fun ρ t ds q=>by
 obtain⟨ds',h1,h2⟩:=xmo q
 cases h2
 refine C0 (h ρ ds h1) fun σ H Q ⟨H0,Hf,s,sl,k⟩=>⟨H0,Hf,s,sl,fun v H' Hf' g ⟨a,vs,e1,e2,e3,e4,e5⟩=>?_⟩
 subst e1
 exact k _ _ _ g ⟨a,vs,rfl,SqL.of e3,e5⟩
noncomputable def OpD(X:Cx) (F:Value->Value->Sem Value) (h:D->D->Option D):Prop:=∀x y z,h x y=some z ->
 OpR X F fun vx vy H Q=>∃Hf,D0 Hf H/\Rep X.K Hf x vx/\Rep X.K Hf y vy/\∀v H' Hf',Grow H Hf H' Hf'->Rep X.K Hf' z v->Q v H'
noncomputable def A5(h:D->D->Option D) (f g:DE):DE:=fun ρ=>(f ρ).bind fun x=>(g ρ).bind fun y=>h x y
theorem T8{op:Operator}{h:D->D->Option D}{a b:Expr}{f g:DE}{pos:Pos}(o:OpD X (binaryOp op) h) (ha:JE X a f) (hb:JE X b g):JE X (.BinOp a op b pos) (A5 h f g):=fun ρ d q=>by
 obtain⟨x,h1,q⟩:=xbm q
 obtain⟨y,h2,h3⟩:=xbm q
 refine C0 (bx0 (o x y d h3) (ha ρ x h1) (hb ρ y h2)) fun σ H Q ⟨H0,Hf,s,sl,k⟩=>?_
 refine⟨H0,Hf,s,sl,fun v H1 Hf1 g1 r1=>⟨H0,Hf1,g1.sub,sl.grow g1,fun u H2 Hf2 g2 r2=>?_⟩⟩
 exact⟨Hf2,g2.sub,r1.mono g2.ext,r2,fun w H3 Hf3 g3 r3=>k w H3 Hf3 ((g1.trans g2).trans g3) r3⟩
theorem be9{op:CmpOp}{h:D->D->Option D}{a b:Expr}{f g:DE}{pos:Pos}(o:OpD X (compareOp op) h) (ha:JE X a f) (hb:JE X b g) (hm:behindInMarks op b=false:=by first|exact bb0 _|rfl):JE X (.Compare a [op] [b] pos) (A5 h f g):=fun ρ d q=>by
 obtain⟨x,h1,q⟩:=xbm q
 obtain⟨y,h2,h3⟩:=xbm q
 refine C0 (bn9 (o x y d h3) (ha ρ x h1) (hb ρ y h2) hm) fun σ H Q ⟨H0,Hf,s,sl,k⟩=>?_
 refine⟨H0,Hf,s,sl,fun v H1 Hf1 g1 r1=>⟨H0,Hf1,g1.sub,sl.grow g1,fun u H2 Hf2 g2 r2=>?_⟩⟩
 exact⟨Hf2,g2.sub,r1.mono g2.ext,r2,fun w H3 Hf3 g3 r3=>k w H3 Hf3 ((g1.trans g2).trans g3) r3⟩
theorem OpR.imp{F:Value->Value->Sem Value}{r r':R2}(h:OpR X F r) (i:∀x y H Q,r' x y H Q->r x y H Q):OpR X F r':=fun pins s σ H x y v u Q I rx ry q=>h pins s σ H x y v u Q I rx ry (i x y H Q q)
end
section
variable {X:Cx}
noncomputable def E3(i:Int):Prop:=i.natAbs < 2 ^ 8000
instance:DecidablePred E3:=fun i=>inferInstanceAs (Decidable (i.natAbs < 2 ^ 8000))
theorem E3.log{i:Int}(h:E3 i) (h0:i.natAbs≠0):i.natAbs.log2 < 8000:=(Nat.log2_lt h0).mpr h
theorem E3.bits{i:Int}(h:E3 i):Builtin.Int.intBits i<=2 ^ 20:=by
 unfold Builtin.Int.intBits
 split
 ·exact Nat.zero_le _
 ·rename_i h0
  have:=h.log (by simpa using h0)
  omega
theorem bo4{X:Cx}:OpR X (binaryOp .Mult) (rI (fun i j=>E3 i/\E3 j) fun i j=>.int (i*j)):=opI fun _ _ _ _ _ _ _ hc q=>mul_int q (PySem.IntMulOk.of_bits hc.1.bits hc.2.bits)
noncomputable def bV4(x y:D):Option D:=match x,y with
 | .int i,.int j=>some (.int (i+j))
 | _,_=>none
noncomputable def am0(x y:D):Option D:=match x,y with
 | .int i,.int j=>some (.int (i - j))
 | .int i,.bool b=>some (.int (i - if b=true then 1 else 0))
 | .bool a,.int j=>some (.int ((if a=true then 1 else 0) - j))
 | _,_=>none
noncomputable def bF5(x y:D):Option D:=match x,y with
 | .int i,.int j=>if E3 i/\E3 j then some (.int (i*j)) else none
 | _,_=>none
noncomputable def n8(x y:D):Option D:=match x,y with
 | .int i,.int j=>if 0 < j/\E3 j then some (.int (i / j)) else none
 | _,_=>none
noncomputable def S8(x y:D):Option D:=match x,y with
 | .int i,.int j=>if 0 < j then some (.int (i % j)) else none
 | _,_=>none
theorem bX8:OpD X (binaryOp .Add) bV4:=fun x y z h=>by
 unfold bV4 at h
 split at h
 ·cases h
  exact OpR.imp ba3 fun vx vy H Q ⟨Hf,s,r1,r2,k⟩=>⟨_,_,r1,r2,k _ H Hf (Grow.refl s) rfl⟩
 ·cases h
theorem bD9:OpD X (binaryOp .Sub) am0:=fun x y z h=>by
 unfold am0 at h
 split at h
 ·cases h
  exact OpR.imp bD6 fun vx vy H Q ⟨Hf,s,r1,r2,k⟩=>⟨_,_,r1,r2,k _ H Hf (Grow.refl s) rfl⟩
 ·cases h
  intro pins s σ H vx vy v u Q I rx ry ⟨Hf,ss,r1,r2,k⟩
  cases r1;cases r2
  obtain⟨t,rfl⟩:=rx
  obtain rfl:u=Value.bool _:=ry
  exact PySem.IntBool.sub_int_bool ⟨.int _,H,I.tok _,⟨_,rfl⟩,k _ H Hf (Grow.refl ss) rfl⟩
 ·cases h
  intro pins s σ H vx vy v u Q I rx ry ⟨Hf,ss,r1,r2,k⟩
  cases r1;cases r2
  obtain⟨t,rfl⟩:=ry
  obtain rfl:v=Value.bool _:=rx
  exact PySem.IntBool.sub_bool_int ⟨.int _,H,I.tok _,⟨_,rfl⟩,k _ H Hf (Grow.refl ss) rfl⟩
 ·cases h
theorem bE0:OpD X (binaryOp .Mult) bF5:=fun x y z h=>by
 unfold bF5 at h
 split at h
 ·split at h
  ·rename_i c
   cases h
   exact OpR.imp bo4 fun vx vy H Q ⟨Hf,s,r1,r2,k⟩=>⟨_,_,r1,r2,c,k _ H Hf (Grow.refl s) rfl⟩
  ·cases h
 ·cases h
theorem aQ0:OpR X (binaryOp .FloorDiv) (rI (fun _ j=>0 < j/\E3 j) fun i j=>.int (i / j)):=opI fun i j _ _ s Q E hc q=>by
 have e:i.fdiv j=i / j:=Int.fdiv_eq_ediv_of_nonneg i (Int.le_of_lt hc.1)
 refine floordiv_int (by omega) (by rw[e];exact q) (.inl (PyProof.noPylong_of_log2 ?_))
 have h2:=hc.2.log (by omega)
 omega
theorem bE4:OpD X (binaryOp .FloorDiv) n8:=fun x y z h=>by
 unfold n8 at h
 split at h
 ·split at h
  ·rename_i c
   cases h
   exact OpR.imp aQ0 fun vx vy H Q ⟨Hf,s,r1,r2,k⟩=>⟨_,_,r1,r2,c,k _ H Hf (Grow.refl s) rfl⟩
  ·cases h
 ·cases h
theorem bE1:OpD X (binaryOp .Mod) S8:=fun x y z h=>by
 unfold S8 at h
 split at h
 ·split at h
  ·rename_i c
   cases h
   exact OpR.imp bD7 fun vx vy H Q ⟨Hf,s,r1,r2,k⟩=>⟨_,_,r1,r2,c,k _ H Hf (Grow.refl s) rfl⟩
  ·cases h
 ·cases h
theorem ba2:OpR X (binaryOp .Add) (fun x y H Q=>∃a b ys,x=.ref a/\y=.ref b/\SqT X.K H a []/\SqT X.K H b ys/\Q (.ref b) H):=by
 intro pins s σ H x y v u Q I rx ry h
 obtain⟨a,b,ys,rfl,rfl,ha,hb,q⟩:=h
 cases rx
 cases ry
 obtain⟨its,r1,p1,_⟩:=I.tuple ha
 obtain⟨its2,r2,p2,_⟩:=I.tuple hb
 cases r1
 obtain⟨⟨cls,dd,data,sl⟩,ho,hc,n,hd⟩:=id p1
 obtain⟨⟨cls2,dd2,data2,sl2⟩,ho2,hc2,n2,hd2⟩:=id p2
 simp only at hc hd hc2 hd2
 subst hc hd hc2 hd2
 exact concat_meets ⟨_,ho,rfl⟩ ⟨_,ho2,rfl⟩ noFill_tuple_add seq_tuple_add PySem.F.slot_tuple_add PySem.F.entry_tuple_add (PySem.F.args_tuple_add_2 _ _)
   (tuple_addW0 a b _ its2.toArray n n2 dd dd2 sl sl2 (by rfl)) ⟨ho,ho2,⟨.ref b,H,I,rfl,q⟩⟩
noncomputable def V0(x y:D):Option D:=match x,y with
 | .tuple xs,.tuple ys=>if xs.length+ys.length<=16777216 then some (.tuple (xs++ys)) else none
 | .str a,.str b=>if a.length+b.length<=16777216 then some (.str (a++b)) else none
 | .int i,.int j=>some (.int (i+j))
 | .bool a,.int j=>some (.int ((if a=true then 1 else 0)+j))
 | _,_=>none
theorem ba7:OpD X (binaryOp .Add) V0:=fun x y z h=>by
 unfold V0 at h
 split at h
 ·split at h
  ·rename_i xs ys c
   cases h
   cases xs with
   | nil =>
    refine OpR.imp ba2 fun vx vy H Q ⟨Hf,s,r1,r2,k⟩=>?_
    obtain⟨a,vs,rfl,h2,h3⟩:=r1
    obtain⟨b,us,rfl,h5,h6⟩:=r2
    cases h3
    exact⟨a,b,us,rfl,rfl,C8 s h2,C8 s h5,k _ H Hf (Grow.refl s) ⟨b,us,rfl,h5,h6⟩⟩
   | cons d0 ds0 =>
    refine OpR.imp bo5 fun vx vy H Q ⟨Hf,s,r1,r2,k⟩=>?_
    obtain⟨a,vs,rfl,h2,h3⟩:=r1
    obtain⟨b,us,rfl,h5,h6⟩:=r2
    have l1:=h3.length
    have l2:=h6.length
    refine⟨a,b,vs,us,rfl,rfl,C8 s h2,C8 s h5,?_,by rw[sizeLine_eq];omega,fun e=>?_,fun e p hp=>?_⟩
    ·intro e;subst e;simp at l1
    ·subst e
     have:ys=[]:=by cases ys<;>simp_all
     subst this
     exact k _ H Hf (Grow.refl s) ⟨a,vs,rfl,h2,by rw[List.append_nil];exact h3⟩
    ·exact k _ _ _ (Grow.laid s hp) ⟨p,vs++us,rfl,SqT.of B7,(h3.append h6).mono (D8 (s.free hp))⟩
  ·cases h
 ·split at h
  ·rename_i c
   cases h
   exact OpR.imp aG0 fun vx vy H Q ⟨Hf,s,r1,r2,k⟩=>⟨_,_,r1,r2,by rw[sizeLine_eq];exact c,k _ H Hf (Grow.refl s) rfl⟩
  ·cases h
 ·cases h
  exact OpR.imp ba3 fun vx vy H Q ⟨Hf,s,r1,r2,k⟩=>⟨_,_,r1,r2,k _ H Hf (Grow.refl s) rfl⟩
 ·cases h
  intro pins s σ H vx vy v u Q I rx ry ⟨Hf,ss,r1,r2,k⟩
  cases r1;cases r2
  obtain⟨t,rfl⟩:=ry
  obtain rfl:v=Value.bool _:=rx
  exact PySem.IntBool.add_bool_int ⟨.int _,H,I.tok _,⟨_,rfl⟩,k _ H Hf (Grow.refl ss) rfl⟩
 ·cases h
noncomputable def ltI(x y:D):Option D:=match x,y with
 | .int i,.int j=>some (.bool (decide (i < j)))
 | _,_=>none
noncomputable def leI(x y:D):Option D:=match x,y with
 | .int i,.int j=>some (.bool (decide (i<=j)))
 | _,_=>none
noncomputable def gtI(x y:D):Option D:=match x,y with
 | .int i,.int j=>some (.bool (decide (j < i)))
 | _,_=>none
noncomputable def geI(x y:D):Option D:=match x,y with
 | .int i,.int j=>some (.bool (decide (j<=i)))
 | _,_=>none
theorem bR5:OpD X (compareOp .Lt) ltI:=fun x y z h=>by
 unfold ltI at h
 split at h
 ·cases h
  exact OpR.imp bQ9 fun vx vy H Q ⟨Hf,s,r1,r2,k⟩=>⟨_,_,r1,r2,k _ H Hf (Grow.refl s) rfl⟩
 ·cases h
theorem bR6:OpD X (compareOp .LtE) leI:=fun x y z h=>by
 unfold leI at h
 split at h
 ·cases h
  exact OpR.imp bR0 fun vx vy H Q ⟨Hf,s,r1,r2,k⟩=>⟨_,_,r1,r2,k _ H Hf (Grow.refl s) rfl⟩
 ·cases h
theorem bR9:OpD X (compareOp .Gt) gtI:=fun x y z h=>by
 unfold gtI at h
 split at h
 ·cases h
  exact OpR.imp bR1 fun vx vy H Q ⟨Hf,s,r1,r2,k⟩=>⟨_,_,r1,r2,k _ H Hf (Grow.refl s) rfl⟩
 ·cases h
theorem bS0:OpD X (compareOp .GtE) geI:=fun x y z h=>by
 unfold geI at h
 split at h
 ·cases h
  exact OpR.imp bR2 fun vx vy H Q ⟨Hf,s,r1,r2,k⟩=>⟨_,_,r1,r2,k _ H Hf (Grow.refl s) rfl⟩
 ·cases h
mutual
theorem Rep.reads{pins:List (Addr×Obj)}{σ:L2.St}{H:Hp}{s:Shared}(I:Inv X pins σ H s):∀{d:D}{v:V}{u:Value},Rep X.K H d v->E9 v u->∃as,Reads s.heap u d as
 | .none,_,_,h,r=>by cases h;cases r;exact⟨_,.none⟩
 | .bool b,_,_,h,r=>by cases h;cases r;exact⟨_,.bool b⟩
 | .int i,_,_,h,r=>by cases h;obtain⟨t,rfl⟩:=r;exact⟨_,.int i t⟩
 | .str x,_,_,h,r=>by cases h;obtain⟨t,rfl⟩:=r;exact⟨_,.str x t⟩
 | .tuple ds,_,_,⟨a,vs,h1,h2,h3⟩,r=>by
  subst h1;cases r
  obtain⟨its,rv,⟨o,ho,hc,n,hd⟩,_⟩:=I.tuple h2
  obtain⟨as,q⟩:=Reps.reads I h3 rv
  exact⟨_,.tuple ho hc hd (by simpa using q)⟩
 | .list ds,_,_,⟨a,vs,h1,h2,h3⟩,r=>by
  subst h1;cases r
  obtain⟨its,rv,pl,_⟩:=I.list h2
  obtain⟨o,ho,hc,n,hd⟩:=pl.isList
  obtain⟨as,q⟩:=Reps.reads I h3 rv
  exact⟨_,.list ho hc hd (by simpa using q)⟩
 | .dict _,_,_,h,_=>h.elim
theorem Reps.reads{pins:List (Addr×Obj)}{σ:L2.St}{H:Hp}{s:Shared}(I:Inv X pins σ H s):∀{ds:List D}{vs:List V}{us:List Value},Reps X.K H ds vs->D2 vs us->∃as,ReadsAll s.heap us ds as
 | [],_,_,h,r=>by cases h;cases r;exact⟨_,.nil⟩
 | d::ds,_,_,⟨v,vr,h1,h2,h3⟩,r=>by
  subst h1
  cases r with
  | cons r1 r2 =>
   obtain⟨as,q1⟩:=Rep.reads I h2 r1
   obtain⟨bs,q2⟩:=Reps.reads I h3 r2
   exact⟨_,.cons q1 q2⟩
end
noncomputable def eqD(x y:D):Option D:=if SeqAt.shaped x=true/\SeqAt.shaped y=true then some (.bool (PyData.eqv x y)) else none
noncomputable def neD(x y:D):Option D:=if SeqAt.shaped x=true/\SeqAt.shaped y=true then some (.bool (!PyData.eqv x y)) else none
theorem bS1(hu:X.A.units+64 < cLine):OpD X (compareOp .Eq) eqD:=fun x y z h=>by
 unfold eqD at h
 split at h
 ·rename_i c
  cases h
  intro pins s σ H vx vy v u Q I rx ry ⟨Hf,ss,r1,r2,k⟩
  obtain⟨as,q1⟩:=Rep.reads I (r1.mono ss) rx
  obtain⟨bs,q2⟩:=Rep.reads I (r2.mono ss) ry
  exact eq_dataH q1 q2 c.1 c.2 hu ⟨.bl _,H,I,rfl,k _ H Hf (Grow.refl ss) rfl⟩
 ·cases h
theorem bR4(hu:X.A.units+64 < cLine):OpD X (compareOp .NotEq) neD:=fun x y z h=>by
 unfold neD at h
 split at h
 ·rename_i c
  cases h
  intro pins s σ H vx vy v u Q I rx ry ⟨Hf,ss,r1,r2,k⟩
  obtain⟨as,q1⟩:=Rep.reads I (r1.mono ss) rx
  obtain⟨bs,q2⟩:=Rep.reads I (r2.mono ss) ry
  exact ne_dataH q1 q2 c.1 c.2 hu ⟨.bl _,H,I,rfl,k _ H Hf (Grow.refl ss) rfl⟩
 ·cases h
noncomputable def isN(x y:D):Option D:=match x,y with
 | .none,.none=>some (.bool true)
 | .dict _,_=>none
 | _,.none=>some (.bool false)
 | _,_=>none
theorem aK5{K:PySem.W.Frag}{H:Hp}{d:D}{v:V}(h:Rep K H d v):(decide (v=.non))=(match d with | .none=>true|_=>false):=by
 cases d with
 | none=>cases h;rfl
 | bool b=>cases h;rfl
 | int b=>cases h;rfl
 | str b=>cases h;rfl
 | tuple ds=>obtain⟨a,vs,rfl,_⟩:=h;rfl
 | list ds=>obtain⟨a,vs,rfl,_⟩:=h;rfl
 | dict ds=>exact h.elim
theorem bE2:OpD X (compareOp .Is) isN:=fun x y z h=>by
 refine OpR.imp bD8 fun vx vy H Q ⟨Hf,s,r1,r2,k⟩=>?_
 have e:=aK5 r1
 cases y<;>cases x<;>simp only[isN,Option.some.injEq,reduceCtorEq]at h <;>
  (subst h;simp only at e;rw[e];exact⟨r2,k _ H Hf (Grow.refl s) rfl⟩)
noncomputable def bE9(x y:D):Option D:=match x,y with
 | .none,.none=>some (.bool false)
 | .dict _,_=>none
 | _,.none=>some (.bool true)
 | _,_=>none
theorem bp0:OpD X (compareOp .IsNot) bE9:=fun x y z h=>by
 refine OpR.imp bo3 fun vx vy H Q ⟨Hf,s,r1,r2,k⟩=>?_
 have e:=aK5 r1
 cases y<;>cases x<;>simp only[bE9,Option.some.injEq,reduceCtorEq]at h <;>
  (subst h;simp only at e;rw[e];exact⟨r2,k _ H Hf (Grow.refl s) rfl⟩)
noncomputable def J9(h1 h2:D->D->Option D) (f g k:DE):DE:=fun ρ=>(f ρ).bind fun x=>(g ρ).bind fun y=>(h1 x y).bind fun z=>match z with
 | .bool true=>(k ρ).bind fun w=>h2 y w
 | .bool false=>some (.bool false)
 | _=>none
theorem bf0{op op':CmpOp}{h1 h2:D->D->Option D}{a b c:Expr}{f g k:DE}{pos:Pos}(o1:OpD X (compareOp op) h1) (o2:OpD X (compareOp op') h2) (ha:JE X a f) (hb:JE X b g) (hc:JE X c k)
  (hm:lastMarks [op,op'] [b,c]=false:=by with_unfolding_all rfl):JE X (.Compare a [op,op'] [b,c] pos) (J9 h1 h2 f g k):=fun ρ d q=>by
 obtain⟨x,e1,q⟩:=xbm q
 obtain⟨y,e2,q⟩:=xbm q
 obtain⟨z,e3,q⟩:=xbm q
 split at q
 ·obtain⟨w,e4,e5⟩:=xbm q
  refine C0 (ay3 (o1 x y _ e3) (o2 y w d e5) (ha ρ x e1) (hb ρ y e2) (hc ρ w e4) hm) fun σ H Q ⟨H0,Hf,s,sl,kk⟩=>?_
  refine⟨H0,Hf,s,sl,fun v H1 Hf1 g1 r1=>⟨H0,Hf1,g1.sub,sl.grow g1,fun u H2 Hf2 g2 r2=>⟨Hf2,g2.sub,r1.mono g2.ext,r2,fun z' H3 Hf3 g3 r3=>?_⟩⟩⟩
  refine⟨true,r3,am4 ⟨H0,Hf3,g3.sub,sl.grow ((g1.trans g2).trans g3),fun w' H4 Hf4 g4 r4=>⟨Hf4,g4.sub,r2.mono (g3.trans g4).ext,r4,fun z2 H5 Hf5 g5 r5=>?_⟩⟩⟩
  exact kk z2 H5 Hf5 ((((g1.trans g2).trans g3).trans g4).trans g5) r5
 ·cases q
  intro pins s σ H Q I ⟨H0,Hf,ss,sl,kk⟩
  refine ay3 (tc:=fun _ _ _=>False) (r':=fun _ _ _ _=>False) (o1 x y _ e3) (fun _ _ _ _ _ _ _ _ _ _ _ _ h=>h.elim) (ha ρ x e1) (hb ρ y e2) (fun _ _ _ _ _ _ h=>h.elim) hm pins s σ H Q I ?_
  refine⟨H0,Hf,ss,sl,fun v H1 Hf1 g1 r1=>⟨H0,Hf1,g1.sub,sl.grow g1,fun u H2 Hf2 g2 r2=>⟨Hf2,g2.sub,r1.mono g2.ext,r2,fun z' H3 Hf3 g3 r3=>?_⟩⟩⟩
  exact⟨false,r3,am5 (kk _ H3 Hf3 ((g1.trans g2).trans g3) rfl)⟩
 ·cases q
theorem bJ7{op:BoolOp}{a:Expr}{f:DE}{pos:Pos}(h:JE X a f):JE X (.BoolOp op [a] pos) f:=fun ρ d q=>bD1 (h ρ d q)
noncomputable def L3(f g:DE):DE:=fun ρ=>(f ρ).bind fun x=>match x with
 | .bool true=>g ρ
 | .bool false=>some (.bool false)
 | _=>none
noncomputable def dOr(f g:DE):DE:=fun ρ=>(f ρ).bind fun x=>match x with
 | .bool true=>some (.bool true)
 | .bool false=>g ρ
 | _=>none
noncomputable def aa1(f:DE):DE:=fun ρ=>(f ρ).bind fun x=>match x with
 | .bool c=>some (.bool (!c))
 | _=>none
theorem bK3{a b:Expr}{M1:List Expr}{f g:DE}{pos:Pos}(ha:JE X a f) (hb:JE X (.BoolOp .And (b::M1) pos) g):JE X (.BoolOp .And (a::b::M1) pos) (L3 f g):=fun ρ d q=>by
 obtain⟨x,e1,q⟩:=xbm q
 split at q
 ·refine C0 (aZ9 (ha ρ _ e1) (hb ρ d q)) fun σ H Q ⟨H0,Hf,s,sl,k⟩=>⟨H0,Hf,s,sl,fun v H1 Hf1 g1 r1=>⟨true,r1,am4 ⟨H0,Hf1,g1.sub,sl.grow g1,fun u H2 Hf2 g2 r2=>k u H2 Hf2 (g1.trans g2) r2⟩⟩⟩
 ·cases q
  refine C0 (aZ9 (tb:=fun _ _ _=>False) (ha ρ _ e1) (fun _ _ _ _ _ _ h=>h.elim)) fun σ H Q ⟨H0,Hf,s,sl,k⟩=>⟨H0,Hf,s,sl,fun v H1 Hf1 g1 r1=>⟨false,r1,am5 (k _ H1 Hf1 g1 rfl)⟩⟩
 ·cases q
theorem bT4{a b:Expr}{M1:List Expr}{f g:DE}{pos:Pos}(ha:JE X a f) (hb:JE X (.BoolOp .Or (b::M1) pos) g):JE X (.BoolOp .Or (a::b::M1) pos) (dOr f g):=fun ρ d q=>by
 obtain⟨x,e1,q⟩:=xbm q
 split at q
 ·cases q
  refine C0 (bw9 (tb:=fun _ _ _=>False) (ha ρ _ e1) (fun _ _ _ _ _ _ h=>h.elim)) fun σ H Q ⟨H0,Hf,s,sl,k⟩=>⟨H0,Hf,s,sl,fun v H1 Hf1 g1 r1=>⟨true,r1,am4 (k _ H1 Hf1 g1 rfl)⟩⟩
 ·refine C0 (bw9 (ha ρ _ e1) (hb ρ d q)) fun σ H Q ⟨H0,Hf,s,sl,k⟩=>⟨H0,Hf,s,sl,fun v H1 Hf1 g1 r1=>⟨false,r1,am5 ⟨H0,Hf1,g1.sub,sl.grow g1,fun u H2 Hf2 g2 r2=>k u H2 Hf2 (g1.trans g2) r2⟩⟩⟩
 ·cases q
theorem be4{a:Expr}{f:DE}{pos:Pos}(ha:JE X a f):JE X (.UnaryOp .Not a pos) (aa1 f):=fun ρ d q=>by
 obtain⟨x,e1,q⟩:=xbm q
 split at q
 ·cases q
  exact C0 (bD2 (ha ρ _ e1)) fun σ H Q ⟨H0,Hf,s,sl,k⟩=>⟨H0,Hf,s,sl,fun v H1 Hf1 g1 r1=>⟨_,r1,k _ H1 Hf1 g1 rfl⟩⟩
 ·cases q
noncomputable def ab4:D->Option Bool
 | .none=>some false
 | .bool b=>some b
 | .int i=>some (i != 0)
 | .str x=>if x.length<=16777216 then some ((x.length:Int) != 0) else none
 | .list ds=>some (!ds.isEmpty)
 | .tuple ds=>some (!ds.isEmpty)
 | .dict _=>none
noncomputable def G1(f:DE):Rho->Option Bool:=fun ρ=>(f ρ).bind ab4
theorem bH3{a:Expr}{f:DE}(ha:JE X a f) (he:∀whole,isTrue a X.env whole=(do let v ← whole;standAt a.pos;holding [v] (truthy v)):=by intro _;rfl):JT X a (G1 f):=fun ρ c q=>by
 obtain⟨d,e1,e2⟩:=xbm q
 refine ai9 (aZ0 (ha ρ d e1) he) fun σ H Q ⟨H0,Hf,s,sl,k⟩=>⟨H0,Hf,s,sl,fun v H1 Hf1 g1 r1=>⟨c,?_,k H1 Hf1 g1⟩⟩
 cases d with
 | none=>cases e2;cases r1;rfl
 | bool b=>cases e2;cases r1;rfl
 | int i=>cases e2;cases r1;rfl
 | str x =>
  simp only[ab4]at e2
  split at e2
  ·rename_i hx;cases e2;cases r1;exact⟨by rw[sizeLine_eq];exact hx,rfl⟩
  ·cases e2
 | list ds =>
  cases e2
  obtain⟨a,vs,rfl,h2,h3⟩:=r1
  refine .inl ⟨vs,E7 g1.sub h2,?_⟩
  have:=h3.length
  cases ds<;>cases vs<;>simp_all
 | tuple ds =>
  cases e2
  obtain⟨a,vs,rfl,h2,h3⟩:=r1
  refine .inr (.inl ⟨vs,C8 g1.sub h2,?_⟩)
  have:=h3.length
  cases ds<;>cases vs<;>simp_all
 | dict _=>cases e2
noncomputable def G4:D->Option Bool
 | .bool b=>some b
 | _=>none
noncomputable def tB2(h:D->D->Option D) (f g:DE):Rho->Option Bool:=fun ρ=>(A5 h f g ρ).bind G4
theorem aN6{d:D}{c:Bool}(h:G4 d=some c):d=.bool c:=by
 cases d<;>simp[G4]at h
 subst h;rfl
theorem bH5{op:CmpOp}{h:D->D->Option D}{a b:Expr}{f g:DE}{pos:Pos}(o:OpD X (compareOp op) h) (ha:JE X a f) (hb:JE X b g) (hm:behindInMarks op b=false:=by first|exact bb0 _|rfl):JT X (.Compare a [op] [b] pos) (tB2 h f g):=fun ρ c q=>by
 obtain⟨d,q,e⟩:=xbm q
 obtain⟨x,h1,q⟩:=xbm q
 obtain⟨y,h2,h3⟩:=xbm q
 have:=aN6 e
 subst this
 refine ai9 (bn0 (o x y _ h3) (ha ρ x h1) (hb ρ y h2) hm) fun σ H Q ⟨H0,Hf,s,sl,k⟩=>?_
 refine⟨H0,Hf,s,sl,fun v H1 Hf1 g1 r1=>⟨H0,Hf1,g1.sub,sl.grow g1,fun u H2 Hf2 g2 r2=>?_⟩⟩
 exact⟨Hf2,g2.sub,r1.mono g2.ext,r2,fun w H3 Hf3 g3 r3=>⟨c,r3,k H3 Hf3 ((g1.trans g2).trans g3)⟩⟩
noncomputable def X6(f g:Rho->Option Bool):Rho->Option Bool:=fun ρ=>(f ρ).bind fun c=>if c then g ρ else some false
noncomputable def L5(f g:Rho->Option Bool):Rho->Option Bool:=fun ρ=>(f ρ).bind fun c=>if c then some true else g ρ
noncomputable def F7(f:Rho->Option Bool):Rho->Option Bool:=fun ρ=>(f ρ).map fun c=>!c
theorem as8{e:Expr}{t t':TT}(h:PW X e t) (i:∀σ H Q,t' σ H Q->t σ H Q):PW X e t':=fun whole pins s σ H Q I q=>h whole pins s σ H Q I (i σ H Q q)
theorem bc6{e:Expr}{f:Rho->Option Bool}(h:JW X e f):JT X e f:=fun ρ c q=>(h ρ c q).pt
theorem bq2{a:Expr}{f:Rho->Option Bool}{pos:Pos}(h:JT X a f):JW X (.BoolOp .And [a] pos) f:=fun ρ c q=>bm7 (h ρ c q)
theorem bG9{a:Expr}{f:Rho->Option Bool}{pos:Pos}(h:JT X a f):JW X (.BoolOp .Or [a] pos) f:=fun ρ c q=>bC0 (h ρ c q)
theorem bH0{a b:Expr}{M1:List Expr}{f g:Rho->Option Bool}{pos:Pos}(ha:JT X a f) (hb:JW X (.BoolOp .And (b::M1) pos) g):JW X (.BoolOp .And (a::b::M1) pos) (X6 f g):=fun ρ c q=>by
 obtain⟨x,e1,q⟩:=xbm q
 cases x with
 | true=>exact as8 (aY9 (ha ρ _ e1) (hb ρ c (by simpa using q))) fun σ H Q ⟨H0,Hf,s,sl,k⟩=>⟨H0,Hf,s,sl,fun H1 Hf1 g1=>am4 ⟨H0,Hf1,g1.sub,sl.grow g1,fun H2 Hf2 g2=>k H2 Hf2 (g1.trans g2)⟩⟩
 | false =>
  have:c=false:=by simpa using q.symm
  subst this
  exact as8 (aY9 (tB':=fun _ _ _=>False) (ha ρ _ e1) (fun _ _ _ _ _ _ _ h=>h.elim)) fun σ H Q ⟨H0,Hf,s,sl,k⟩=>⟨H0,Hf,s,sl,fun H1 Hf1 g1=>am5 (k H1 Hf1 g1)⟩
theorem bS8{a b:Expr}{M1:List Expr}{f g:Rho->Option Bool}{pos:Pos}(ha:JT X a f) (hb:JW X (.BoolOp .Or (b::M1) pos) g):JW X (.BoolOp .Or (a::b::M1) pos) (L5 f g):=fun ρ c q=>by
 obtain⟨x,e1,q⟩:=xbm q
 cases x with
 | false=>exact as8 (bw6 (ha ρ _ e1) (hb ρ c (by simpa using q))) fun σ H Q ⟨H0,Hf,s,sl,k⟩=>⟨H0,Hf,s,sl,fun H1 Hf1 g1=>am5 ⟨H0,Hf1,g1.sub,sl.grow g1,fun H2 Hf2 g2=>k H2 Hf2 (g1.trans g2)⟩⟩
 | true =>
  have:c=true:=by simpa using q.symm
  subst this
  exact as8 (bw6 (tB':=fun _ _ _=>False) (ha ρ _ e1) (fun _ _ _ _ _ _ _ h=>h.elim)) fun σ H Q ⟨H0,Hf,s,sl,k⟩=>⟨H0,Hf,s,sl,fun H1 Hf1 g1=>am4 (k H1 Hf1 g1)⟩
theorem bH4{a:Expr}{f:Rho->Option Bool}{pos:Pos}(ha:JT X a f):JT X (.UnaryOp .Not a pos) (F7 f):=fun ρ c q=>by
 obtain⟨x,e1,e2⟩:=xmo q
 subst e2
 exact ai9 (bC1 (ha ρ x e1)) fun σ H Q ⟨H0,Hf,s,sl,k⟩=>⟨H0,Hf,s,sl,fun H1 Hf1 g1=>k H1 Hf1 g1⟩
noncomputable def o7(t:Rho->Option Bool) (f g:DE):DE:=fun ρ=>(t ρ).bind fun c=>if c then f ρ else g ρ
theorem bK1{c a b:Expr}{t:Rho->Option Bool}{f g:DE}{pos:Pos}(hc:JT X c t) (ha:JE X a f) (hb:JE X b g):JE X (.IfExp c a b pos) (o7 t f g):=fun ρ d q=>by
 obtain⟨x,e1,q⟩:=xbm q
 cases x with
 | true=>exact C0 (ay2 (tb:=fun _ _ _=>False) (hc ρ _ e1) (ha ρ d (by simpa using q)) (fun _ _ _ _ _ _ h=>h.elim)) fun σ H Q ⟨H0,Hf,s,sl,k⟩=>⟨H0,Hf,s,sl,fun H1 Hf1 g1=>am4 ⟨H0,Hf1,g1.sub,sl.grow g1,fun u H2 Hf2 g2 r2=>k u H2 Hf2 (g1.trans g2) r2⟩⟩
 | false=>exact C0 (ay2 (ta:=fun _ _ _=>False) (hc ρ _ e1) (fun _ _ _ _ _ _ h=>h.elim) (hb ρ d (by simpa using q))) fun σ H Q ⟨H0,Hf,s,sl,k⟩=>⟨H0,Hf,s,sl,fun H1 Hf1 g1=>am5 ⟨H0,Hf1,g1.sub,sl.grow g1,fun u H2 Hf2 g2 r2=>k u H2 Hf2 (g1.trans g2) r2⟩⟩
noncomputable def dIx(f:Rho->Option (Bool×List D)) (g:DE):DE:=fun ρ=>(f ρ).bind fun q=>(g ρ).bind fun i=>match i with
 | .int i=>atI q.2 i
 | _=>none
theorem bm4{K:PySem.W.Frag}{H:Hp}{ds:List D}{vs:List V}{i:Int}{d:D}(h:Reps K H ds vs) (e:atI ds i=some d):∃v,atI vs i=some v/\Rep K H d v:=by
 unfold atI at e ⊢
 rw[h.length]
 obtain⟨j,h1,h2⟩:=xbm e
 obtain⟨v,h3,h4⟩:=h.get h2
 exact⟨v,by rw[h1];exact h3,h4⟩
theorem bT5{a b:Expr}{f:Rho->Option (Bool×List D)}{g:DE}{pos:Pos}(ha:JQ X a f) (hb:JE X b g) (hs:ah8 b:=by intro _ _;rfl):JE X (.Subscript a b pos) (dIx f g):=fun ρ d q=>by
 obtain⟨⟨t,ds⟩,h1,q⟩:=xbm q
 obtain⟨y,h2,h3⟩:=xbm q
 split at h3
 ·refine C0 (bx1 bf3 (ha ρ t ds h1) (hb ρ _ h2) hs) fun σ H Q ⟨H0,Hf,s,sl,k⟩=>?_
  refine⟨H0,Hf,s,sl,fun v H1 Hf1 g1 ⟨p,vs,e1,e2,e3⟩=>⟨H0,Hf1,g1.sub,sl.grow g1,fun u H2 Hf2 g2 r2=>?_⟩⟩
  obtain⟨w,q1,q2⟩:=bm4 (e3.mono g2.ext) h3
  cases t with
  | true=>exact .inr (.inl ⟨p,vs,_,w,e1,r2,C8 g2.big e2,q1,k w H2 Hf2 (g1.trans g2) q2⟩)
  | false=>exact .inl ⟨p,vs,_,w,e1,r2,E7 g2.big e2,q1,k w H2 Hf2 (g1.trans g2) q2⟩
 ·cases h3
noncomputable def U0(xs:List D) (lo hi:Option Int):List D:=(xs.drop (HT.sIx xs.length 0 lo)).take (HT.sIx xs.length xs.length hi - HT.sIx xs.length 0 lo)
theorem ai7{K:PySem.W.Frag}{H:Hp}{ds:List D}{vs:List V}(h:Reps K H ds vs) (lo hi:Option Int):Reps K H (U0 ds lo hi) (aB5 vs lo hi):=by
 unfold U0 aB5
 rw[h.length]
 exact(h.drop _).take _
noncomputable def JO(X:Cx) (e:Option Expr) (f:Rho->Option (Option Int)):Prop:=∀ρ o,f ρ=some o->PO X e (fun σ H Q=>∃H0 Hf,D0 Hf H/\Slots X.K H0 ρ σ H Hf/\∀H' Hf',Grow H Hf H' Hf'->Q o H')
noncomputable def K8:Rho->Option (Option Int):=fun _=>some none
noncomputable def Z3:D->Option Int
 | .int i=>some i
 | _=>none
noncomputable def E8(f:DE):Rho->Option (Option Int):=fun ρ=>(f ρ).bind fun d=>(Z3 d).map some
theorem br8:JO X none K8:=fun ρ o q=>by
 cases q
 intro pins s σ H Q I ⟨H0,Hf,ss,sl,k⟩
 exact bn4 pins s σ H Q I (k H Hf (Grow.refl ss))
theorem br7{e:Expr}{f:DE}(h:JE X e f):JO X (some e) (E8 f):=fun ρ o q=>by
 obtain⟨d,e1,e2⟩:=xbm q
 obtain⟨i,e3,e4⟩:=xmo e2
 subst e4
 cases d<;>simp[Z3]at e3
 subst e3
 intro pins s σ H Q I ⟨H0,Hf,ss,sl,k⟩
 exact bn3 (h ρ _ e1) pins s σ H Q I ⟨H0,Hf,ss,sl,fun v H1 Hf1 g1 r1=>⟨_,r1,k H1 Hf1 g1⟩⟩
noncomputable def X3(f:DE) (lo hi:Rho->Option (Option Int)):DE:=fun ρ=>(f ρ).bind fun d=>(lo ρ).bind fun l=>(hi ρ).bind fun h=>match d with
 | .tuple xs=>some (.tuple (U0 xs l h))
 | _=>none
theorem i9{prog:Program}{w:World}{A:Around}{E:Value->Shared->Prop}{s:Shared}{t sl:Addr}{items:Array Value}{vl vu:Value}{lo hi:Option Int}{Q:Value->Shared->Prop}(ht:IsTup s.heap t items) (hs:s.heap.IsSliceOf sl vl vu .none) (pl:IsPart vl lo) (pu:IsPart vu hi)
  (hw:HT.sIx items.size 0 lo=0/\HT.sIx items.size items.size hi=items.size) (h:Q (.ref t) s):wpAny (model prog w) A (getItem (.ref t) (.ref sl)) Q E s:=by
 obtain⟨os,hos,hcs,hds⟩:=id hs
 have hTs:s.TypeIs (.ref sl) "slice" := ⟨os,hos,hcs⟩
 unfold getItem
 try with_reducible refine wpAny_holding ?_
 first|refine wpAny_bind (wpAny_pure ?_)|skip
 refine wpAny_bind (wpAny_sequenceKey ht.typeIs (by decide) ?_)
 refine wpAny_bind (wpAny_callSpecial?_slot (name:=Str.ofString "__getitem__") ht.typeIs PyProof.Rows.slot_tuple_getitem
  (wpAny_call_entry PyProof.Rows.slot_tuple_getitem ht.typeIs entry_tuple_getitem ?_ (args_tuple_getitem _ _)))
 show wpAny _ _ (Builtin.Tuple.tupleItemsOf (.ref t) >>= _) _ _ s
 refine wpAny_bind (tupleItemsOf_ ht ?_)
 refine wpAny_bind (wpAny_typeOf hTs ?_)
 rw[if_pos (by decide)]
 refine wpAny_bind (HT.sliceApplied_gen hs pl pu ?_)
 have hyes:((((HT.sIx items.size 0 lo:Nat):Int)==0&&(1:Int)==1&&(HT.sIx items.size items.size hi - HT.sIx items.size 0 lo)==items.size)=true):=by rw[hw.1,hw.2];simp
 show wpAny _ _ (if(((HT.sIx items.size 0 lo:Nat):Int)==0&&(1:Int)==1&&(HT.sIx items.size items.size hi - HT.sIx items.size 0 lo)==items.size)=true then _ else _) _ _ s
 rw[if_pos hyes]
 unfold Builtin.Tuple.tupleIsExact
 refine wpAny_bind (wpAny_bind (wpAny_typeOf ht.typeIs (wpAny_pure ?_)))
 rw[if_pos (by decide +kernel)]
 exact wpAny_bind (wpAny_rule (wpAny_pure ⟨_,rfl,wpAny_pure h⟩))
theorem ar9:SlR X (fun x lo hi H Q=>∃a xs,x=.ref a/\SqT X.K H a xs/\(HT.sIx xs.length 0 lo=0/\HT.sIx xs.length xs.length hi=xs.length)/\Q (.ref a) H):=by
 intro pins s σ H x v vl vu lo hi sl Q I rx hs pl pu h
 obtain⟨a,xs,rfl,hx,hw,q⟩:=h
 cases rx
 obtain⟨its,r,ht,hz⟩:=I.tuple hx
 have hlen:its.toArray.size=xs.length:=by rw[List.size_toArray];exact r.length.symm
 refine⟨"tuple", _,PyProof.Rows.slot_tuple_getitem.lookup,ht.typeIs,?_⟩
 exact i9 ht hs pl pu (by rw[hlen];exact hw) ⟨.ref a,H,I,rfl,q⟩
theorem be3{a:Expr}{lo hi:Option Expr}{f:DE}{l h:Rho->Option (Option Int)}{pos p2:Pos}(ha:JE X a f) (hl:JO X lo l) (hh:JO X hi h):JE X (.Subscript a (.Slice lo hi none p2) pos) (X3 f l h):=fun ρ d q=>by
 obtain⟨x,e1,q⟩:=xbm q
 obtain⟨y,e2,q⟩:=xbm q
 obtain⟨z,e3,q⟩:=xbm q
 cases x with
 | tuple xs =>
  cases q
  refine C0 (u9 (bB6.or ar9) (ha ρ _ e1) (hl ρ y e2) (hh ρ z e3)) fun σ H Q ⟨H0,Hf,s,sl,k⟩=>?_
  refine⟨H0,Hf,s,sl,fun v H1 Hf1 g1 ⟨p,vs,q1,q2,q3⟩=>⟨H0,Hf1,g1.sub,sl.grow g1,fun H2 Hf2 g2=>⟨H0,Hf2,g2.sub,sl.grow (g1.trans g2),fun H3 Hf3 g3=>?_⟩⟩⟩
  subst q1
  have q2':=C8 (g2.trans g3).ext q2
  have q3':=q3.mono (g2.trans g3).ext
  by_cases c:HT.sIx vs.length 0 y=0/\HT.sIx vs.length vs.length z=vs.length
  ·refine .inr ⟨p,vs,rfl,C8 g3.sub q2',c,k _ H3 Hf3 ((g1.trans g2).trans g3) ⟨p,vs,rfl,q2',?_⟩⟩
   have:U0 xs y z=xs:=by
    unfold U0
    rw[← q3.length,c.1,c.2]
    simp[q3.length]
   rw[this];exact q3'
  ·refine .inl ⟨p,vs,rfl,C8 g3.sub q2',c,fun p' hp=>?_⟩
   exact k _ _ _ (((g1.trans g2).trans g3).trans (Grow.laid g3.sub hp)) ⟨p',_,rfl,SqT.of B7,(ai7 q3' y z).mono (D8 (g3.sub.free hp))⟩
 | _=>cases q
end
section
variable {X:Cx}
theorem aI5:bootBuiltins "len" = some (.builtin "len"):=PySem.boot_len
theorem bN0:bootBuiltins "all" = some (.builtin "all"):=by decide +kernel
theorem bj4:bootBuiltins "isinstance" = some (.builtin "isinstance"):=by decide +kernel
theorem aI6:bootBuiltins "int" = some (.type "int"):=by decide +kernel
theorem bu7:bootBuiltins "bool" = some (.type "bool"):=by decide +kernel
theorem bM8:bootBuiltins "str" = some (.type "str"):=by decide +kernel
theorem aN7:bootBuiltins "list" = some (.type "list"):=by decide +kernel
theorem aC0:bootBuiltins "tuple" = some (.type "tuple"):=by decide +kernel
noncomputable def N6(f:Rho->Option (Bool×List D)):DE:=fun ρ=>(f ρ).map fun q=>.int q.2.length
theorem be5{e:Expr}{f:Rho->Option (Bool×List D)}{p pos:Pos}(hg:Gl X "len") (hm:X.mg "len" = none) (h:JQ X e f) (he:starEach [e] X.env=[(false,eval e X.env)]:=by rfl):JE X (.Call (.Name "len" p) [e] [] pos) (N6 f):=fun ρ d q=>by
 obtain⟨⟨t,ds⟩,h1,h2⟩:=xmo q
 subst h2
 refine C0 (R9 av2 hg hm aI5 (G0 (h ρ t ds h1) L0 he) (he:=he)) fun σ H Q ⟨H0,Hf,s,sl,k⟩=>?_
 refine⟨H0,Hf,s,sl,fun v H1 Hf1 g1 ⟨a,vs,e1,e2,e3⟩=>⟨a,vs,by rw[e1],?_,?_⟩⟩
 ·cases t with
  | true=>exact .inr e2
  | false=>exact .inl e2
 ·exact k _ H1 Hf1 g1 (by rw[e3.length];rfl)
theorem be1{e:Expr}{f:Rho->Option (Bool×List D)}{p pos:Pos}(hg:Gl X "tuple") (hm:X.mg "tuple" = none) (h:JQ X e f) (hz:∀ρ ds,f ρ≠some (true,ds)\/True:=by intros;exact .inr trivial) (he:starEach [e] X.env=[(false,eval e X.env)]:=by rfl) :
  JE X (.Call (.Name "tuple" p) [e] [] pos) (fun ρ=>(f ρ).bind fun q=>if q.1=true then none else some (.tuple q.2)):=fun ρ d q=>by
 obtain⟨⟨t,ds⟩,h1,h2⟩:=xbm q
 cases t with
 | true=>simp at h2
 | false =>
  simp only[Bool.false_eq_true,if_false,Option.some.injEq]at h2
  subst h2
  refine C0 (U5 an1 hg hm aC0 (G0 (h ρ false ds h1) L0 he) (he:=he)) fun σ H Q ⟨H0,Hf,s,sl,k⟩=>?_
  refine⟨H0,Hf,s,sl,fun v H1 Hf1 g1 ⟨a,vs,e1,e2,e3⟩=>⟨a,vs,by rw[e1],.inl ⟨e2,fun l hl=>?_⟩⟩⟩
  exact k _ _ _ (g1.trans (Grow.laid g1.sub hl)) ⟨l,vs,rfl,SqT.of B7,e3.mono (D8 (g1.sub.free hl))⟩
theorem br9{e:Expr}{f:Rho->Option (Bool×List D)}{p pos:Pos}(hg:Gl X "list") (hm:X.mg "list" = none) (h:JQ X e f) (he:starEach [e] X.env=[(false,eval e X.env)]:=by rfl):JN X (.Call (.Name "list" p) [e] [] pos) (fun ρ=>(f ρ).map fun q=>q.2):=fun ρ ds' q=>by
 obtain⟨⟨t,ds⟩,h1,h2⟩:=xmo q
 subst h2
 refine C0 (U5 av0 hg hm aN7 (G0 (h ρ t ds h1) L0 he) (he:=he)) fun σ H Q ⟨H0,Hf,s,sl,k⟩=>?_
 refine⟨H0,Hf,s,sl,fun v H1 Hf1 g1 ⟨a,vs,e1,e2,e3⟩=>⟨a,vs,by rw[e1],?_,fun l hl=>?_⟩⟩
 ·cases t with
  | true=>exact .inr e2
  | false=>exact .inl e2
 ·exact k _ _ _ (g1.trans (Grow.made g1.sub hl)) ⟨l,vs,rfl,g1.big.free hl,B7,g1.sub.free hl,e3⟩
noncomputable def aa2(f:DE):DE:=fun ρ=>(f ρ).bind fun d=>match d with
 | .int i=>some (.int i)
 | .bool b=>some (.int (if b then 1 else 0))
 | _=>none
theorem be7{e:Expr}{f:DE}{p pos:Pos}(hg:Gl X "int") (hm:X.mg "int" = none) (h:JE X e f) (he:starEach [e] X.env=[(false,eval e X.env)]:=by rfl):JE X (.Call (.Name "int" p) [e] [] pos) (aa2 f):=fun ρ d q=>by
 obtain⟨x,h1,h2⟩:=xbm q
 split at h2
 ·cases h2
  exact C0 (U5 ap9 hg hm aI6 (G0 (h ρ _ h1) L0 he) (he:=he)) fun σ H Q ⟨H0,Hf,s,sl,k⟩ =>⟨H0,Hf,s,sl,fun v H1 Hf1 g1 r=>.inl ⟨_,by rw[show v=_ from r],k _ H1 Hf1 g1 rfl⟩⟩
 ·cases h2
  exact C0 (U5 ap9 hg hm aI6 (G0 (h ρ _ h1) L0 he) (he:=he)) fun σ H Q ⟨H0,Hf,s,sl,k⟩ =>⟨H0,Hf,s,sl,fun v H1 Hf1 g1 r=>.inr ⟨_,by rw[show v=_ from r],k _ H1 Hf1 g1 rfl⟩⟩
 ·cases h2
noncomputable def aw2:List D->Option Bool
 | []=>some true
 | .bool b::r=>(aw2 r).map fun c=>b&&c
 | _::_=>none
theorem aC1:∀{ds:List D}{c:Bool},aw2 ds=some c->∃bs:List Bool,ds=bs.map PyData.bool/\c=bs.all id
 | [],c,h=>by cases h;exact⟨[],rfl,rfl⟩
 | .bool b::r,c,h=>by
  obtain⟨c',h1,h2⟩:=xmo h
  obtain⟨bs,h3,h4⟩:=aC1 h1
  exact⟨b::bs,by simp[h3],by simp[← h2,h4]⟩
theorem ai8{K:PySem.W.Frag}{H:Hp}:∀{bs:List Bool}{vs:List V},Reps K H (bs.map PyData.bool) vs->vs=bs.map V.bl
 | [],_,h=>h
 | _::_,_,⟨v,r,h1,h2,h3⟩=>by subst h1;rw[show v=_ from h2,ai8 h3];rfl
theorem aU2:V6 X (.builtin "all") (fun xs H Q=>X.calm=true/\∃(p:Addr) (bs:List Bool),xs=[.ref p]/\SqL X.K H p (bs.map V.bl)/\Q (.bl (bs.all id)) H):=by
 intro pins s σ H xs us Q I r h
 obtain⟨hc,p,bs,rfl,hq,q⟩:=h
 obtain⟨u,rfl,rx⟩:=t5 r
 cases rx
 obtain⟨its,rv,pl,hz⟩:=I.list hq
 have hlen:=rv.length
 have hh:X.A.in1.handled=none:=I.ok.hd hc
 have hlt:p < s.heap.objs.size:=by obtain⟨_,e,_⟩:=pl.isList;exact Heap.lt_size e
 refine call_all_walk (wpAny_pyIter_list pl.isList ?_)
 refine⟨s.heap.objs.size,_,_,_,_,_,fun i=>(bs[i]?).getD false,rfl,Walks.list hh _ p (Nat.ne_of_lt hlt) its.toArray,⟨⟨_,Heap.get?_push_size _ rfl,rfl,rfl⟩,pl.isList.at fun o e=>Heap.get?_push_of_some _ e⟩,?_,?_⟩
 ·intro i v s' Q' E' hv hQ
  have hv':its[i]? = some v:=by simpa using hv
  have:∃b,bs[i]? = some b:=by
   have:i < its.length:=(List.getElem?_eq_some_iff.mp hv').1
   have:i < bs.length:=by simpa using (by omega:i < (bs.map V.bl).length)
   exact⟨bs[i],by simp[this]⟩
  obtain⟨b,hb⟩:=this
  obtain⟨u,hu,ru⟩:=rv.get (i:=i) (x:=.bl b) (by simp[hb])
  rw[hv']at hu;cases hu
  cases ru
  exact wpAny_truthy_bool (by simpa [hb] using hQ)
 ·intro h' tk hk
  have e:((List.range its.toArray.size).all fun i=>(bs[i]?).getD false)=bs.all id:=by
   have hn:its.toArray.size=bs.length:=by simpa using hlen.symm
   rw[hn,Bool.eq_iff_iff]
   simp only[List.all_eq_true,List.mem_range,id]
   constructor
   ·intro h x hx
    obtain⟨i,hi,rfl⟩:=List.mem_iff_getElem.mp hx
    simpa [hi] using h i hi
   ·intro h i hi
    simpa [hi] using h bs[i] (List.getElem_mem hi)
  rw[e]
  have I1:Inv X pins σ H { s with heap:=h',toks:=tk }:=by
   have I0:Inv X pins σ H { s with heap:=s.heap.push { cls:=.type "list_iterator", data:=.fields #[.ref p,rawInt 0] } }:=I.kept (t':=s.toks) fun b o e=>Heap.get?_push_of_some _ e
   refine I.kept (t':=tk) fun b o e=>hk b o ?_ (Heap.get?_push_of_some _ e)
   intro hb
   have:b=s.heap.objs.size:=by simpa using hb
   subst this
   exact absurd (Heap.lt_size e) (Nat.lt_irrefl _)
  exact⟨.bl (bs.all id),H,I1,rfl,q⟩
noncomputable def X4(f:Rho->Option (Bool×List D)):DE:=fun ρ=>(f ρ).bind fun q=>if q.1=true then none else(aw2 q.2).map PyData.bool
theorem bK4{e:Expr}{f:Rho->Option (Bool×List D)}{p pos:Pos}(hg:Gl X "all") (hm:X.mg "all" = none) (h:JQ X e f) (hc:X.calm=true:=by rfl) (he:starEach [e] X.env=[(false,eval e X.env)]:=by rfl):JE X (.Call (.Name "all" p) [e] [] pos) (X4 f):=fun ρ d q=>by
 obtain⟨⟨t,ds⟩,h1,h2⟩:=xbm q
 cases t with
 | true=>simp at h2
 | false =>
  simp only[Bool.false_eq_true,if_false]at h2
  obtain⟨c,h3,h4⟩:=xmo h2
  subst h4
  obtain⟨bs,h5,h6⟩:=aC1 h3
  subst h5 h6
  refine C0 (R9 aU2 hg hm bN0 (G0 (h ρ false _ h1) L0 he) (he:=he)) fun σ H Q ⟨H0,Hf,s,sl,k⟩=>?_
  refine⟨H0,Hf,s,sl,fun v H1 Hf1 g1 ⟨a,vs,e1,e2,e3⟩=>⟨hc,a,bs,by rw[e1],?_,k _ H1 Hf1 g1 rfl⟩⟩
  rw[ai8 e3]at e2
  exact e2
noncomputable def w4(T:String) (d:D):Option Bool:=match d with
 | .int _=>(match T with | "int" => some true | "bool" => some false | "str" => some false | "tuple" => some false | "list" => some false|_=>none)
 | .bool _=>(match T with | "int" => some true | "bool" => some true | "str" => some false | "tuple" => some false | "list" => some false|_=>none)
 | .none=>(match T with | "int" => some false | "bool" => some false | "str" => some false | "tuple" => some false | "list" => some false|_=>none)
 | .str _=>(match T with | "int" => some false | "bool" => some false | "str" => some true | "tuple" => some false | "list" => some false|_=>none)
 | .tuple _=>(match T with | "int" => some false | "bool" => some false | "str" => some false | "tuple" => some true | "list" => some false|_=>none)
 | .list _=>(match T with | "int" => some false | "bool" => some false | "str" => some false | "tuple" => some false | "list" => some true|_=>none)
 | _=>none
noncomputable def tyD:D->String
 | .int _ => "int"
 | .bool _ => "bool"
 | .none => "NoneType"
 | .str _ => "str"
 | .tuple _ => "tuple"
 | .list _ => "list"
 | .dict _ => "dict"
theorem bt5{K:PySem.W.Frag}{T:String}{d:D}{b:Bool}(h:w4 T d=some b):PySem.W.kitOne K (.type (tyD d)) (.type T)=some b:=by
 unfold w4 at h
 cases d<;>first
  | (dsimp only at h;split at h<;>first
   | (cases h;rfl)
   | cases h)
  | cases h
theorem bj2{T:String}:V6 X (.builtin "isinstance") (fun xs H Q=>∃d x b,xs=[x,.ty T]/\Rep X.K H d x/\w4 T d=some b/\Q (.bl b) H):=by
 intro pins s σ H xs us Q I r h
 obtain⟨d,x,b,rfl,hd,hb,q⟩:=h
 obtain⟨u,c,rfl,rx,rc⟩:=bw0 r
 cases rc
 have e:=bt5 (K:=X.K) hb
 have fin:∀tk,EP X pins σ Q (.bool b) { s with toks:=tk }:=fun tk=>⟨.bl b,H,I.tok tk,rfl,q⟩
 cases d with
 | none=>cases hd;cases rx;exact PySem.W.kia_one PySem.W.kitx_none I.kIn True.intro e (fun z=>nomatch z) fin
 | bool y=>cases hd;cases rx;exact PySem.W.kia_one PySem.W.kitx_bool I.kIn True.intro e (fun z=>nomatch z) fin
 | int i=>cases hd;obtain⟨t,rfl⟩:=rx;exact PySem.W.kia_one PySem.W.kitx_int I.kIn True.intro e (fun z=>nomatch z) fin
 | str i=>cases hd;obtain⟨t,rfl⟩:=rx;exact PySem.W.kia_one PySem.W.kitx_str I.kIn True.intro e (fun z=>nomatch z) fin
 | tuple ds =>
  obtain⟨a,vs,rfl,h2,h3⟩:=hd
  cases rx
  obtain⟨its,rv,⟨o,ho,hc,_⟩,_⟩:=I.tuple h2
  exact PySem.W.kia_one PySem.W.kitx_tuple I.kIn ⟨o,ho,hc⟩ e (fun z=>nomatch z) fin
 | list ds =>
  obtain⟨a,vs,rfl,h2,h3⟩:=hd
  cases rx
  obtain⟨its,rv,pl,_⟩:=I.list h2
  obtain⟨o,ho,hc,_⟩:=pl.isList
  exact PySem.W.kia_one PySem.W.kitx_list I.kIn ⟨o,ho,hc⟩ e (fun z=>nomatch z) fin
 | dict ds=>exact hd.elim
noncomputable def P0(T:String) (f:DE):DE:=fun ρ=>(f ρ).bind fun d=>(w4 T d).map PyData.bool
theorem bK0{e:Expr}{f:DE}{x:Str}{T:String}{p p2 pos:Pos}(hg:Gl X "isinstance") (hm:X.mg "isinstance" = none) (hgT:Gl X x) (hmT:X.mg x=none) (hvT:bootBuiltins x=some (.type T)) (h:JE X e f)
  (hn:x ≠ "__name__" := by decide) (hd:(x==("__debug__" : Str))=false:=by decide)
  (he:starEach [e,.Name x p2] X.env=(false,eval e X.env)::starEach [.Name x p2] X.env:=by rfl) (he2:starEach [.Name x p2] X.env=[(false,eval (.Name x p2) X.env)]:=by rfl) (hpl:(backTo pos (starEach [.Name x p2] X.env)).any (·.1)=false:=by rfl) :
  JE X (.Call (.Name "isinstance" p) [e,.Name x p2] [] pos) (P0 T f):=fun ρ d q=>by
 obtain⟨y,h1,h2⟩:=xbm q
 obtain⟨b,h3,h4⟩:=xmo h2
 subst h4
 refine C0 (R9 (bj2 (T:=T)) hg hm bj4 (G0 (h ρ y h1) (G0 (aL0 (v:=.ty T) hgT hmT hvT rfl hn hd) L0 he2) he) (he:=he) (hpl:=hpl)) fun σ H Q ⟨H0,Hf,s,sl,k⟩=>?_
 exact⟨H0,Hf,s,sl,fun v H1 Hf1 g1 r=>⟨y,v,b,rfl,r.mono g1.sub,h3,k _ H1 Hf1 g1 rfl⟩⟩
noncomputable def spF(K:PySem.W.Frag) (n:Nat) (F:List D->Option D):Sp:=fun vs H Q _=>vs.length=n/\∃Hf ds d,D0 Hf H/\Reps K Hf ds vs/\F ds=some d/\∀v H' Hf',Grow H Hf H' Hf'->Rep K Hf' d v->Q v H'
noncomputable def A2(F:List D->Option D) (f:Rho->Option (List D)):DE:=fun ρ=>(f ρ).bind F
theorem bt0{k:Nat}{f:Addr}{fd:FuncData}{ps:List Str}{n:Nat}{F:List D->Option D}{x:Str}{e:Expr}{es:List Expr}{g:Rho->Option (List D)}{p pos:Pos}(Fk:FnOk X.prog X.w X.K X.mg X.base CX0 k f fd ps (spF X.K n F)) (hr:Room k X.A) (hg:Gl X x) (hm:X.mg x=some (.ref f)) (hk:PySem.W.keepIn X.K (.ref f)=true) (hb:K3 X.K fd ps [])
  (ha:JA X (e::es) g) (hn:(e::es).length=n:=by rfl) (hdb:(x==("__debug__" : Str))=false:=by decide) (he:starEach (e::es) X.env=(false,eval e X.env)::starEach es X.env:=by rfl) (hpl:(backTo pos (starEach es X.env)).any (·.1)=false:=by rfl) :
  JE X (.Call (.Name x p) (e::es) [] pos) (A2 F g):=fun ρ d q=>by
 obtain⟨ds,h1,h2⟩:=xbm q
 refine C0 (aK8 Fk hr hg hm hk hb .nil ba0 (fun pos pins s σ H Q I t=>ha.run ρ ds h1 pos pins s σ H Q I t) hdb he hpl) fun σ H Q ⟨H0,Hf,s,sl,kk⟩=>?_
 refine⟨H0,Hf,s,sl,fun vs H1 Hf1 g1 r1=>⟨?_,Hf1,ds,d,g1.sub,by rw[List.append_nil];exact r1,h2,fun v H2 Hf2 g2 r2=>kk v H2 Hf2 (g1.trans g2) r2⟩⟩
 rw[List.append_nil,r1.length,ha.len ρ ds h1,hn]
inductive Fl where
 | nx (ρ:Rho)
 | rt (d:D)
 | bk (ρ:Rho)
 | ct (ρ:Rho)
noncomputable abbrev DS:=Rho->Option Fl
structure At (K:PySem.W.Frag) (H0 Hf0:Hp) (ρ:Rho) (σ:L2.St) (H Hf:Hp):Prop where
 gr:Grow H0 Hf0 H Hf
 sl:Slots K H0 ρ σ H Hf
noncomputable def Fl.ends(K:PySem.W.Frag) (H0 Hf0 Hf:Hp) (En:Ends):Fl->Prop
 | .nx ρ=>∀σ' H' Hf',At K H0 Hf0 ρ σ' H' Hf'->D0 Hf Hf'->En.nx σ' H'
 | .bk ρ=>∀σ' H' Hf',At K H0 Hf0 ρ σ' H' Hf'->D0 Hf Hf'->En.bk σ' H'
 | .ct ρ=>∀σ' H' Hf',At K H0 Hf0 ρ σ' H' Hf'->D0 Hf Hf'->En.ct σ' H'
 | .rt d=>∀v H' Hf',Grow H0 Hf0 H' Hf'->Rep K Hf' d v->En.rt v H'
noncomputable def tJS(K:PySem.W.Frag) (H0 Hf0:Hp) (ρ:Rho) (fl:Fl):TS:=fun En σ H=>∃Hf,At K H0 Hf0 ρ σ H Hf/\fl.ends K H0 Hf0 Hf En
noncomputable def JS(X:Cx) (st:Stmt) (f:DS):Prop:=∀ρ fl,f ρ=some fl->∀H0 Hf0,PS X st (tJS X.K H0 Hf0 ρ fl)
noncomputable def JSs(X:Cx) (sts:List Stmt) (f:DS):Prop:=∀ρ fl,f ρ=some fl->∀H0 Hf0,PSs X sts (tJS X.K H0 Hf0 ρ fl)
theorem J7{st:Stmt}{t t':TS}(h:PS X st t) (i:∀En σ H,t' En σ H->t En σ H):PS X st t':=fun pins s σ H En I q=>h pins s σ H En I (i En σ H q)
theorem b6{st:List Stmt}{t t':TS}(h:PSs X st t) (i:∀En σ H,t' En σ H->t En σ H):PSs X st t':=fun pins s σ H En I q=>h pins s σ H En I (i En σ H q)
theorem At.grow{K:PySem.W.Frag}{H0 Hf0 H Hf H' Hf':Hp}{ρ:Rho}{σ:L2.St}(a:At K H0 Hf0 ρ σ H Hf) (g:Grow H Hf H' Hf'):At K H0 Hf0 ρ σ H' Hf':=⟨a.gr.trans g,a.sl.grow g⟩
theorem Fl.ends_mono{K:PySem.W.Frag}{H0 Hf0 Hf Hf':Hp}{En:Ends}{fl:Fl}(h:fl.ends K H0 Hf0 Hf En) (e:D0 Hf Hf'):fl.ends K H0 Hf0 Hf' En:=by
 cases fl with
 | nx ρ=>exact fun σ' H' Hf'' a s=>h σ' H' Hf'' a (e.trans s)
 | bk ρ=>exact fun σ' H' Hf'' a s=>h σ' H' Hf'' a (e.trans s)
 | ct ρ=>exact fun σ' H' Hf'' a s=>h σ' H' Hf'' a (e.trans s)
 | rt d=>exact h
noncomputable def C7:DS:=fun ρ=>some (.nx ρ)
noncomputable def A8(f g:DS):DS:=fun ρ=>(f ρ).bind fun fl=>match fl with
 | .nx ρ'=>g ρ'
 | fl=>some fl
theorem bq6:JSs X [] C7:=fun ρ fl q H0 Hf0=>by
 cases q
 exact b6 bn1 fun En σ H ⟨Hf,a,e⟩=>e σ H Hf a (D0.refl _)
theorem bc8{st:Stmt}{sts:List Stmt}{f g:DS}(h1:JS X st f) (h2:JSs X sts g):JSs X (st::sts) (A8 f g):=fun ρ fl q H0 Hf0=>by
 obtain⟨fl1,e1,q⟩:=xbm q
 cases fl1 with
 | nx ρ' =>refine b6 (Y6 (h1 ρ _ e1 H0 Hf0) (h2 ρ' fl q H0 Hf0)) fun En σ H ⟨Hf,a,e⟩=>⟨Hf,a,fun σ' H' Hf' a' s'=>⟨Hf',a',Fl.ends_mono e s'⟩⟩
 | rt d=>cases q;exact b6 (Y6 (h1 ρ _ e1 H0 Hf0) U4) fun En σ H ⟨Hf,a,e⟩=>⟨Hf,a,e⟩
 | bk ρ'=>cases q;exact b6 (Y6 (h1 ρ _ e1 H0 Hf0) U4) fun En σ H ⟨Hf,a,e⟩=>⟨Hf,a,e⟩
 | ct ρ'=>cases q;exact b6 (Y6 (h1 ρ _ e1 H0 Hf0) U4) fun En σ H ⟨Hf,a,e⟩=>⟨Hf,a,e⟩
theorem bq5{st:Stmt}{f:DS}(h1:JS X st f):JSs X [st] f:=fun ρ fl q H0 Hf0=>as9 (h1 ρ fl q H0 Hf0)
noncomputable def A9(f:DE):DS:=fun ρ=>(f ρ).map Fl.rt
theorem aG6{e:Expr}{f:DE}{pos:Pos}(h:JE X e f):JS X (.Return (some e) pos) (A9 f):=fun ρ fl q H0 Hf0=>by
 obtain⟨d,e1,e2⟩:=xmo q
 subst e2
 exact J7 (aF5 (h ρ d e1)) fun En σ H ⟨Hf,a,e⟩=>⟨H0,Hf,a.gr.sub,a.sl,fun v H' Hf' g r=>e v H' Hf' (a.gr.trans g) r⟩
noncomputable def sIf(t:Rho->Option Bool) (f g:DS):DS:=fun ρ=>(t ρ).bind fun c=>if c then f ρ else g ρ
theorem bx4{c:Expr}{a b:List Stmt}{t:Rho->Option Bool}{f g:DS}{pos:Pos}(hc:JT X c t) (ha:JSs X a f) (hb:JSs X b g):JS X (.If c a b pos) (sIf t f g):=fun ρ fl q H0 Hf0=>by
 obtain⟨x,e1,q⟩:=xbm q
 cases x with
 | true =>refine J7 (bw7 (hc ρ _ e1) (ha ρ fl (by simpa using q) H0 Hf0) U4) fun En σ H ⟨Hf,a,e⟩=>⟨H0,Hf,a.gr.sub,a.sl,fun H' Hf' g=>am4 ⟨Hf',a.grow g,Fl.ends_mono e g.ext⟩⟩
 | false =>refine J7 (bw7 (hc ρ _ e1) U4 (hb ρ fl (by simpa using q) H0 Hf0)) fun En σ H ⟨Hf,a,e⟩=>⟨H0,Hf,a.gr.sub,a.sl,fun H' Hf' g=>am5 ⟨Hf',a.grow g,Fl.ends_mono e g.ext⟩⟩
theorem Slots.set{K:PySem.W.Frag}{H0 H Hf:Hp}{ρ:Rho}{σ:L2.St}{i:Nat}{d:D}{v:V}(s:Slots K H0 ρ σ H Hf) (r:Rep K Hf d v):Slots K H0 (ρ.set i (some (.val d))) (σ.set i (some v)) H Hf:=by
 refine⟨by simp[s.len],fun j b e=>?_,fun j k ds es a h1 h2 h3 h4=>?_⟩
 ·by_cases q:i=j
  ·subst q
   have hi:i < ρ.length:=by
    have:=(List.getElem?_eq_some_iff.mp e).1
    simpa using this
   have hi':i < σ.length:=by rw[← s.len];exact hi
   rw[List.getElem?_set_self hi]at e
   cases e
   exact⟨v,List.getElem?_set_self hi',r⟩
  ·rw[List.getElem?_set_ne q]at e
   obtain⟨u,h1,h2⟩:=s.is j b e
   exact⟨u,by rw[List.getElem?_set_ne q];exact h1,h2⟩
 ·have hj:i≠j:=by
   intro q;subst q
   have hi:i < ρ.length:=by
    have:=(List.getElem?_eq_some_iff.mp h1).1
    simpa using this
   rw[List.getElem?_set_self hi]at h1
   cases h1
  have hk:i≠k:=by
   intro q;subst q
   have hi:i < ρ.length:=by
    have:=(List.getElem?_eq_some_iff.mp h2).1
    simpa using this
   rw[List.getElem?_set_self hi]at h2
   cases h2
  rw[List.getElem?_set_ne hj]at h1 h3
  rw[List.getElem?_set_ne hk]at h2 h4
  exact s.apart j k ds es a h1 h2 h3 h4
noncomputable def B3(i:Nat) (f:DE):DS:=fun ρ=>(f ρ).map fun d=>.nx (ρ.set i (some (.val d)))
theorem aG5(i:Nat) {x:Str}{e:Expr}{f:DE}{pos pos':Pos}(hN:X.N.Nodup) (h:JE X e f) (hi:X.N[i]? = some x:=by rfl) (hx:Loc X.env.scope x:=by first|exact Or.inl rfl|exact Or.inr rfl)
  (hs:swapsWith e (some (.Name x pos')) pos.line X.env=pure false:=by rfl) (hf:X.fn x=true\/X.env.scope.names.lookup x=some .local:=by first|exact .inl rfl|exact .inr rfl):JS X (.Assign [.Name x pos'] e pos) (B3 i f):=fun ρ fl q H0 Hf0=>by
 obtain⟨d,e1,e2⟩:=xmo q
 subst e2
 exact J7 (aZ2 hN hi hx (h ρ d e1) hs hf) fun En σ H ⟨Hf,a,e⟩=>⟨H0,Hf,a.gr.sub,a.sl,fun v H' Hf' g r=>e _ H' Hf' ⟨a.gr.trans g,(a.sl.grow g).set r⟩ g.ext⟩
noncomputable def aY2(i j:Nat) (f:Rho->Option (List D)):DS:=fun ρ=>(f ρ).bind fun ds=>match ds with
 | [a,b]=>some (.nx ((ρ.set i (some (.val a))).set j (some (.val b))))
 | _=>none
end
theorem aT8{prog:Program}{w:World}{A:Around}{R:Result->Shared->Prop}{s:Shared}{elt target iter:Expr}{ifs:List Expr}{scope:Scope}{pos:Pos}{it acc:Value}{env:Env}(I:Nat->Shared->Prop)
  (turn:∀n s,I n s->wpAny (model prog w) A (pyNext it) (fun r s1=>match r with
   | none=>R (.ok .next) s1
   | some v=>wpAny (model prog w) A (letOwnedTupleGo target it v) (fun _ s1'=>wpAny (model prog w) A (assign target env v) (fun _ s2 =>
     wpAny (model prog w) A (forIn ifs true fun c r=>if r=true then do let ok ← isTrue c env (eval c env);pure (ForInStep.yield ok) else pure (ForInStep.yield r)) (fun ok s3 =>
      if ok=true then wpAny (model prog w) A (eval elt env) (fun x s4 =>wpAny (model prog w) A (call (.builtin "list.append") [acc,x]) (fun _ s5=>∃m,m < n/\I m s5) (fun _ _=>False) s4) (fun _ _=>False) s3
      else ∃m,m < n/\I m s3) (fun _ _=>False) s2) (fun _ _=>False) s1') (fun _ _=>False) s1) (fun _ _=>False) s)
  (n:Nat) (h:I n s) :
  codeAny (model prog w) A (.compLoop (.ListComp elt [⟨target,iter,ifs,0⟩] scope pos) 0 it acc env) R s:=by
 refine codeAny_loop rfl I (fun n s hI=>?_) n h
 show wpAny _ A ((compTurn (.ListComp elt [⟨target,iter,ifs,0⟩] scope pos) 0 it acc env).onRaise (fun x=>do noteFrame x env;theTreesLotGoes x)) _ _ s
 refine wpAny_noted ?_
 rw[compTurn_list]
 refine wpAny_bind (wpAny_standAt (wpAny_bind (wpAny_mono (turn n s hI) (fun r s1 h1=>?_) fun _ _ h'=>h'.elim)))
 cases r with
 | none=>exact wpAny_pure h1
 | some v =>
  refine wpAny_bind (wpAny_mono h1 (fun _ s1' h1'=>?_) fun _ _ h'=>h'.elim)
  refine wpAny_bind (wpAny_mono h1' (fun _ s2 h2=>wpAny_bind (wpAny_mono h2 (fun ok s3 h3=>?_) fun _ _ h'=>h'.elim)) fun _ _ h'=>h'.elim)
  cases ok with
  | false=>exact wpAny_pure ⟨rfl,h3⟩
  | true =>exact wpAny_bind (wpAny_bind (wpAny_mono h3 (fun x s4 h4=>wpAny_bind (wpAny_mono h4 (fun _ s5 h5=>wpAny_pure (wpAny_pure ⟨rfl,h5⟩)) fun _ _ h'=>h'.elim)) fun _ _ h'=>h'.elim))
noncomputable def M2(cells:List (Str×Addr)):List (Str×NameKind)->List (Str×Addr)->List (Str×Addr)
 | [],cs=>cs
 | (n,k)::r,cs=>if(k==NameKind.free)=true then M2 cells r ((n,(cells.lookup n).getD 0)::cs) else M2 cells r cs
theorem ak5{env:Env}:∀(names:List (Str×NameKind)) (cs:List (Str×Addr)),(∀y∈names,y.2=.free->∃c,env.cells.lookup y.1=some c) ->
  (forIn names cs fun(x:Str×NameKind) (r:List (Str×Addr))=>if(x.2==NameKind.free)=true then do let a ← cellOf env x.1;pure (ForInStep.yield ((x.1,a)::r)) else pure (ForInStep.yield r):Sem (List (Str×Addr)))=pure (M2 env.cells names cs)
 | [],cs,_=>rfl
 | (n,k)::r,cs,h=>by
  rw[List.forIn_cons]
  have hr:∀y∈r,y.2=.free->∃c,env.cells.lookup y.1=some c:=fun y hy=>h y (xmm _ hy)
  by_cases hk:(k==NameKind.free)=true
  ·obtain⟨c,hc⟩:=h (n,k) List.mem_cons_self (by simpa using hk)
   have hc':env.cells.lookup n=some c:=hc
   simp only[hk,if_true]
   have e:cellOf env n=pure c:=by unfold cellOf;rw[hc']
   rw[e]
   show(forIn r ((n,c)::cs) _:Sem _)=_
   rw[ak5 r _ hr]
   simp only[M2,hk,if_true,hc',Option.getD_some]
  ·have hk':(k==NameKind.free)=false:=by simpa using hk
   simp only[hk',Bool.false_eq_true,if_false]
   show(forIn r cs _:Sem _)=_
   rw[ak5 r _ hr]
   simp only[M2,hk',Bool.false_eq_true,if_false]
theorem bu6{scope:Scope}{env:Env}(h:∀y∈scope.names,y.2=.free->∃c,env.cells.lookup y.1=some c):closureFor scope env=pure (M2 env.cells scope.names []):=by
 have:=ak5 (env:=env) scope.names [] h
 unfold closureFor
 exact congrArg (fun z=>z >>= fun cs=>pure cs) this
theorem aa3{cells:List (Str×Addr)}:∀{names:List (Str×NameKind)}{cs:List (Str×Addr)}{x:Str}{c:Addr},(x,c)∈M2 cells names cs->(x,c)∈cs\/((x,NameKind.free)∈names/\c=(cells.lookup x).getD 0)
 | [],cs,x,c,h=>.inl h
 | (n,k)::r,cs,x,c,h=>by
  unfold M2 at h
  split at h
  ·rename_i hk
   rcases aa3 h with q|⟨q1,q2⟩
   ·rcases List.mem_cons.mp q with q|q
    ·cases q
     have:k=.free:=by simpa using hk
     subst this
     exact .inr ⟨List.mem_cons_self,rfl⟩
    ·exact .inl q
   ·exact .inr ⟨xmm _ q1,q2⟩
  ·rcases aa3 h with q|⟨q1,q2⟩
   ·exact .inl q
   ·exact .inr ⟨xmm _ q1,q2⟩
theorem U9{cells:List (Str×Addr)}:∀{names:List (Str×NameKind)}{cs:List (Str×Addr)}{x:Str},((x,NameKind.free)∈names\/∃c,(x,c)∈cs)->∃c,(x,c)∈M2 cells names cs
 | [],cs,x,h=>by
  rcases h with h|h
  ·cases h
  ·exact h
 | (n,k)::r,cs,x,h=>by
  unfold M2
  rcases h with h|⟨c,h⟩
  ·rcases List.mem_cons.mp h with q|q
   ·cases q
    rw[if_pos (by rfl)]
    exact U9 (.inr ⟨_,List.mem_cons_self⟩)
   ·split
    ·exact U9 (.inl q)
    ·exact U9 (.inl q)
  ·split
   ·exact U9 (.inr ⟨c,xmm _ h⟩)
   ·exact U9 (.inr ⟨c,h⟩)
theorem n4{l:List (Str×Addr)}{x:Str}{c:Addr}(h:(x,c)∈l):∃c',l.lookup x=some c':=by
 induction l with
 | nil=>cases h
 | cons p r ih =>
  obtain⟨n,a⟩:=p
  rw[List.lookup_cons]
  cases e:x==n with
  | true=>exact⟨a,rfl⟩
  | false =>
   rcases List.mem_cons.mp h with q|q
   ·cases q;simp at e
   ·exact ih q
theorem u6{scope:Scope}{env:Env}{x:Str}{k:NameKind}:(relabel scope env).names.lookup x=some k->∃k0,scope.names.lookup x=some k0/\(k=k0\/k0=.free):=by
 unfold relabel
 simp only
 generalize scope.names=names
 induction names with
 | nil=>intro h;simp at h
 | cons p r ih =>
  obtain⟨n,k1⟩:=p
  intro h
  rw[List.map_cons]at h
  by_cases hc:(k1==NameKind.free&&env.scope.kind == .function&&env.kindOf n==some .cell)=true
  ·simp only[hc,if_true,List.lookup_cons]at h
   rw[List.lookup_cons]
   cases e:x==n with
   | true =>
    rw[e]at h
    rw[Bool.and_eq_true,Bool.and_eq_true]at hc
    exact⟨k1,rfl,.inr (by simpa using hc.1.1)⟩
   | false=>rw[e]at h;exact ih h
  ·have hc':(k1==NameKind.free&&env.scope.kind == .function&&env.kindOf n==some .cell)=false:=by simpa using hc
   simp only[hc',Bool.false_eq_true,if_false,List.lookup_cons]at h
   rw[List.lookup_cons]
   cases e:x==n with
   | true=>rw[e]at h;cases h;exact⟨_,rfl,.inl rfl⟩
   | false=>rw[e]at h;exact ih h
theorem as5{scope:Scope}{env:Env}{x:Str}:scope.names.lookup x=some .free->(relabel scope env).names.lookup x=some .cell\/(relabel scope env).names.lookup x=some .free:=by
 unfold relabel
 simp only
 generalize scope.names=names
 induction names with
 | nil=>intro h;simp at h
 | cons p r ih =>
  obtain⟨n,k1⟩:=p
  intro h
  rw[List.lookup_cons]at h
  rw[List.map_cons]
  cases e:x==n with
  | true =>
   rw[e]at h
   cases h
   have en:x=n:=by simpa using e
   subst en
   by_cases hc:(NameKind.free==NameKind.free&&env.scope.kind == .function&&env.kindOf x==some .cell)=true
   ·simp only[hc,if_true,List.lookup_cons,e];exact .inl trivial
   ·have hc':(NameKind.free==NameKind.free&&env.scope.kind == .function&&env.kindOf x==some .cell)=false:=by simpa using hc
    simp only[hc',Bool.false_eq_true,if_false,List.lookup_cons,e];exact .inr trivial
  | false =>
   rw[e]at h
   by_cases hc:(k1==NameKind.free&&env.scope.kind == .function&&env.kindOf n==some .cell)=true
   ·simp only[hc,if_true,List.lookup_cons,e];exact ih h
   ·have hc':(k1==NameKind.free&&env.scope.kind == .function&&env.kindOf n==some .cell)=false:=by simpa using hc
    simp only[hc',Bool.false_eq_true,if_false,List.lookup_cons,e];exact ih h
noncomputable def E2(X:Cx) (N':List Str) (scope:Scope) (C:Addr) (s₀:Shared) (H₀:Hp) (ex:List Addr):Cx where
 prog:=X.prog
 w:=X.w
 K:=X.K
 mg:=X.mg
 base:=X.base
 A:=X.A
 N:=N'
 s₀:=s₀
 H₀:=H₀
 env:=compEnvC scope (M2 X.env.cells scope.names []) C X.env
 outer:=X.stack
 stack:=X.stack
 ex:=ex
 fn:=fun _=>false
 calm:=X.calm
 pn:=[]
 xe:=fun _ _=>False
structure CompSc (X:Cx) (N':List Str) (n:Nat) (caps:List Nat) (scope:Scope):Prop where
 kind:scope.kind=.function
 cell:∀y∈scope.names,y.2≠.cell
 loc:∀y∈scope.names,y.2=.local->scope.names.lookup y.1=some .local
 free:∀y∈scope.names,y.2=.free->X.env.scope.names.lookup y.1=some .cell\/X.env.scope.names.lookup y.1=some .free
 len:N'.length=n+caps.length
 cap:∀(i j:Nat),caps[i]? = some j->∃x,X.N[j]? = some x/\N'[n+i]? = some x/\scope.names.lookup x=some .free
section
variable {X:Cx}{N':List Str}{n:Nat}{caps:List Nat}{scope:Scope}
theorem N5{l:List (Str×NameKind)}{x:Str}{k:NameKind}(h:l.lookup x=some k):(x,k)∈l:=PySem.mem_of_lookup h
noncomputable def an0(n:Nat) (caps:List Nat) (σ:L2.St):L2.St:=List.replicate n none++caps.map fun j=>(σ[j]?).join
theorem aI3{pins:List (Addr×Obj)}{σ:L2.St}{H:Hp}{s:Shared}{h1:Heap}{tk:Nat}{fp:List Addr}{m:Str->Option Value}(S:CompSc X N' n caps scope) (I:Inv X pins σ H s) (hf:∀b∈fp,ad7 X pins H b) (hlt:∀b∈fp,b < s.heap.objs.size)
  (hns:h1.Ns s.heap.objs.size m) (hk:∀b o,s.heap.get? b=some o->h1.get? b=some o) :
  Inv (E2 X N' scope s.heap.objs.size s H fp) [] (an0 n caps σ) H { s with heap:=h1,toks:=tk }:=by
 have cl_of:∀x c,(M2 X.env.cells scope.names []).lookup x=some c->X.env.cells.lookup x=some c:=fun x c h=>by
  have hm:=PySem.mem_of_lookup h
  rcases aa3 hm with q|⟨q1,q2⟩
  ·cases q
  ·obtain⟨c',hc'⟩:=I.ok.has x (S.free _ q1 rfl)
   rw[hc']at q2
   rw[hc',q2];rfl
 have cl_has:∀x,(x,NameKind.free)∈scope.names->∃c,(M2 X.env.cells scope.names []).lookup x=some c:=fun x h=>by
  obtain⟨c,hc⟩:=U9 (cells:=X.env.cells) (cs:=[]) (.inl h)
  exact n4 hc
 have kind_free:∀x,((relabel scope X.env).names.lookup x=some .cell\/(relabel scope X.env).names.lookup x=some .free)->(x,NameKind.free)∈scope.names:=fun x h=>by
  rcases h with h|h
  ·obtain⟨k0,e1,e2⟩:=u6 h
   rcases e2 with e2|e2
   ·subst e2;exact absurd rfl (S.cell _ (N5 e1))
   ·subst e2;exact N5 e1
  ·obtain⟨k0,e1,e2⟩:=u6 h
   rcases e2 with e2|e2
   ·subst e2;exact N5 e1
   ·subst e2;exact N5 e1
 have cell_lt:∀x c,X.env.cells.lookup x=some c->c < s.heap.objs.size:=fun x c e=>by
  obtain⟨v,q⟩:=I.cell x c e
  exact q.lt
 have ok:(E2 X N' scope s.heap.objs.size s H fp).Ok:=by
  refine⟨I.ok.mod,S.kind,I.ok.glob,I.ok.blt,Nat.le_refl _,fun x y c e1 e2=>I.ok.inj x y c (cl_of x c e1) (cl_of y c e2),fun x hx=>cl_has x (kind_free x hx),fun x c e _=>(Bool.false_ne_true e).elim,I.ok.hd,I.ok.frames,.inl rfl,fun b hb=>⟨Nat.ne_of_lt (hlt b hb),fun x c e=>(hf b hb).2.2.2.2.1 x c (cl_of x c e)⟩,
   I.bs,Nat.le_trans I.ok.bsz I.sz,fun b o e hb=>?_,fun b hb hb2=>?_,I.stack,I.stkFree⟩
  ·rcases(hf b hb).2.2.2.1 with z|z
   ·exact I.ok.noex b o e z
   ·exact absurd (Nat.lt_of_lt_of_le (Heap.lt_size e) (Nat.le_trans I.ok.bsz z)) (Nat.lt_irrefl _)
  ·rcases List.mem_cons.mp (I.stkSub b hb2) with z|z
   ·exact(hf b hb).2.1 z
   ·exact(hf b hb).2.2.1 z
 refine⟨ok,rfl,I.bare,Un.kept hk,⟨m,hns,fun i x v e1 e2 e3=>?_⟩,fun x c e=>?_,I.hok.fresh (Nat.le_refl _),fun x c e=>I.freeC x c (cl_of x c e),fun p hp=>absurd (show p∈([]:List (Addr×Obj)) from hp) (by simp),I.hok.kept hk,?_⟩
 ·have hi:n<=i:=by
   rcases Nat.lt_or_ge i n with h|h
   ·unfold an0 at e2
    rw[List.getElem?_append_left (by simpa using h),List.getElem?_replicate,if_pos h]at e2
    cases e2
   ·exact h
  unfold an0 at e2
  rw[List.getElem?_append_right (by simpa using hi),List.getElem?_map]at e2
  simp only[List.length_replicate]at e2
  cases hj:caps[i - n]? with
  | none=>rw[hj]at e2;cases e2
  | some j =>
   rw[hj]at e2
   have e2':(σ[j]?).join=some v:=by simpa using e2
   have e2'':σ[j]? = some (some v):=by
    cases q:σ[j]? with
    | none=>rw[q]at e2';cases e2'
    | some o=>rw[q]at e2';simp at e2';rw[e2']
   obtain⟨y,q1,q2,q3⟩:=S.cap _ _ hj
   have:y=x:=by
    have e1':N'[i]? = some x:=e1
    rw[show n+(i - n)=i by omega,e1']at q2
    cases q2;rfl
   subst this
   obtain⟨m0,hn0,hl0⟩:=I.loc
   have hv:Vis X.env.scope y:=by
    rcases S.free _ (N5 q3) rfl with z|z
    ·exact .inr (.inl z)
    ·exact .inr (.inr z)
   obtain⟨u,ru,lk⟩:=hl0 j y v q1 e2'' hv
   refine⟨u,ru,.inr ⟨as5 q3,?_⟩⟩
   rcases lk with⟨lk,_⟩|⟨_,c,hc,hcell⟩
   ·rcases S.free _ (N5 q3) rfl with z|z
    ·have:X.env.scope.names.lookup y=some .local:=lk
     rw[z]at this;cases this
    ·have:X.env.scope.names.lookup y=some .local:=lk
     rw[z]at this;cases this
   ·obtain⟨c',hc'⟩:=cl_has y (N5 q3)
    have:=cl_of y c' hc'
    rw[hc]at this;cases this
    obtain⟨o,ho,hd⟩:=hcell
    exact⟨c,hc',o,hk c o ho,hd⟩
 ·obtain⟨v,o,ho,hd⟩:=I.cell x c (cl_of x c e)
  exact⟨v,o,hk c o ho,hd⟩
 ·show(an0 n caps σ).length=N'.length
  unfold an0
  rw[S.len];simp
theorem ap7{pins:List (Addr×Obj)}{σ σ':L2.St}{H H':Hp}{s s':Shared}{h':Heap}{fp:List Addr}(I:Inv X pins σ H s) (hf:∀b∈fp,ad7 X pins H b)
  (I':Inv (E2 X N' scope s.heap.objs.size s H fp) [] σ' H' s') (sb:Heap.SameBut s.heap.objs.size s'.heap h'):Inv X pins σ H' { s' with heap:=h' }:=by
 have ne:∀b o,s.heap.get? b=some o->b≠s.heap.objs.size:=fun b o e=>Nat.ne_of_lt (Heap.lt_size e)
 refine I.call' (s':={ s' with heap:=h' }) (ch:=fp) I'.os ?_ ?_ I'.bare fun b hb=>⟨(hf b hb).2.2.2.1,(hf b hb).2.1,(hf b hb).2.2.2.2.1,(hf b hb).2.2.2.2.2⟩
 ·refine⟨fun b o e n hb hx=>sb.extBut b o (ne b o e) (I'.base.keep b o e n hb hx),fun b o e n hb hx=>?_,I'.base.free,fun b o e hx=>?_,I'.base.tups,I'.base.frzs,I'.base.tbls⟩
  ·obtain⟨sl,q⟩:=I'.base.slot b o e n hb hx
   exact⟨sl,sb.extBut b _ (ne b o e) q⟩
  ·obtain⟨o',q⟩:=I'.base.there b o e hx
   exact⟨o',sb.extBut b _ (ne b o e) q⟩
 ·intro b u e
  have nC:∀c v,H' c=some v->c≠s.heap.objs.size:=fun c v q z=>by
   have:=I'.free
   have z':H' c=none:=by rw[z];exact this
   rw[z']at q;cases q
  refine(I'.hok b u e).stay (fun c v hc q=>sb.extBut c v ?_ q) (fun _ q=>q) fun _ _ q=>q
  rcases hc with z|z
  ·rw[z];exact nC b u e
  ·exact nC c _ z
noncomputable def PTs(X:Cx) (ifs:List Expr) (t:TT):Prop :=
 ∀(pins:List (Addr×Obj)) (s:Shared) (σ:L2.St) (H:Hp) (Q:Bool->Hp->Prop),Inv X pins σ H s->t σ H Q ->
  wpAny (model X.prog X.w) X.A (forIn ifs true fun c r=>if r=true then do let ok ← isTrue c X.env (eval c X.env);pure (ForInStep.yield ok) else pure (ForInStep.yield r)) (TP X pins σ Q) X.xe s
theorem bm9:PTs X [] (fun _ H Q=>Q true H):=fun pins s σ H Q I h=>wpAny_tests_nil ⟨H,I,h⟩
theorem bm8{c:Expr}{t:TT}(h:PT X c t):PTs X [c] t:=fun pins s σ H Q I q=>wpAny_tests_one (h pins s σ H Q I q)
noncomputable def aX2(n:Nat) (caps:List Nat) (wi:TI) (g:TG) (tc:TT) (te:TE):TE:=fun σ H Q=>wi σ H fun J H1=>∀Dd,H1 Dd=none->∃W:Nat->Nat->List V->L2.St->Hp->Prop,
 (∃m,W 0 m [] (an0 n caps σ) (upd H1 Dd (.lst []))) /\
 ∀i m ys σ' H',W i m ys σ' H' ->
  (J.stop i H'/\Q (.ref Dd) H') \/
  (J.go i H'/\∀x H2,J.yld i H' x H2->g x σ' H2 fun σ3 H3=>tc σ3 H3 fun b H4 =>
   if b=true then te σ3 H4 fun y H5=>H5 Dd=some (.lst ys)/\ys.length < sizeLine/\∃m',m' < m/\W (i+1) m' (ys++[y]) σ3 (upd H5 Dd (.lst (ys++[y])))
   else ∃m',m' < m/\W (i+1) m' ys σ3 H4)
theorem aB6{elt tgt iter:Expr}{ifs:List Expr}{pos:Pos}{wi:TI}{g:TG}{tc:TT}{te:TE}{RR:Value->Addr->Result->Shared->Prop}{E:Value->Shared->Prop}(S:CompSc X N' n caps scope) (hx:∀e s,X.xe e s->False) (hc:X.calm=true)
  (hi:PI X tgt iter wi) (hg:∀C s0 H0 ex,PG (E2 X N' scope C s0 H0 ex) tgt g) (ht:∀C s0 H0 ex,PTs (E2 X N' scope C s0 H0 ex) ifs tc) (he:∀C s0 H0 ex,PE (E2 X N' scope C s0 H0 ex) elt te)
  {pins:List (Addr×Obj)}{s:Shared}{σ:L2.St}{H:Hp}{Q:VK}(I:Inv X pins σ H s) (h:aX2 n caps wi g tc te σ H Q)
  (hRR:∀D C r s',r=.ok .next->(∃m,s'.heap.Ns C m/\∀h',Heap.SameBut C s'.heap h'->∃H',Inv X pins σ H' { s' with heap:=h' }/\Q (.ref D) H') ->
   (∃s2 fp σ' H2 H',s2.heap.objs.size=C/\Inv X pins σ H2 s2/\(∀b∈fp,ad7 X pins H2 b)/\Inv (E2 X N' scope s2.heap.objs.size s2 H2 fp) [] σ' H' s'/\Q (.ref D) H')->RR (.ref D) C r s') :
  wpAny (model X.prog X.w) X.A (eval iter X.env) (fun x s₁=>wpAny (model X.prog X.w) X.A (pyIter x) (fun it s₂=>wpAny (model X.prog X.w) X.A (newList []) (fun acc s₃ =>
   wpAny (model X.prog X.w) X.A (newFunctionEnv scope X.env.globals (M2 X.env.cells scope.names []) [] X.env.qual none .none (some X.env)) (fun cenv s₄ =>
    codeAny (model X.prog X.w) X.A (.compStart (.ListComp elt [⟨tgt,iter,ifs,0⟩] scope pos) 0 it acc { cenv with scope:=relabel scope X.env }) (RR acc cenv.locals) s₄) E s₃) E s₂) E s₁) E s:=by
 refine wpAny_mono (hi pins s σ H _ I h) (fun v s1 h1=>wpAny_mono h1 (fun itv s2 h2=>?_) fun _ _ z=>(hx _ _ z).elim) fun _ _ z=>(hx _ _ z).elim
 obtain⟨it,fp,tn,J,H2,e,I2,T,st2,f2,R⟩:=h2
 subst e
 refine wpAny_newObj_type (wpAny_newFunctionEnv S.cell (by intro y hy;simp at hy) (fun h₁ hns₁ hsb₁=>?_) S.kind)
 dsimp only at hns₁ hsb₁ ⊢
 obtain⟨W,⟨m0,w0⟩,turn⟩:=R s2.heap.objs.size (I2.hok.fresh (Nat.le_refl _))
 have lt2:∀b∈fp,b < s2.heap.objs.size:=fun b hb=>by
  obtain⟨o,ho,_⟩:=T.obj _ _ st2 b hb
  exact Heap.lt_size ho
 have I3:Inv X pins σ (upd H2 s2.heap.objs.size (.lst [])) { s2 with heap:=s2.heap.push { cls:=.type "list", dict:=none,data:=.seq ([]:List Value).toArray } } :=
  I2.laid (t':=s2.toks) (fun b u e=>Heap.get?_push_of_some _ e) (Nat.le_refl _) ⟨Nat.zero_le _,[],0,.nil,Heap.get?_push_size _ rfl⟩
 generalize hs3:({ s2 with heap:=s2.heap.push { cls:=.type "list", dict:=none,data:=.seq ([]:List Value).toArray } }:Shared)=s3 at I3
 have es3:s3.heap=s2.heap.push { cls:=.type "list", dict:=none,data:=.seq ([]:List Value).toArray }:=by rw[← hs3]
 rw[← es3]at hns₁ hsb₁ ⊢
 have keep3:∀b o,s3.heap.get? b=some o->h₁.get? b=some o:=fun b o e=>hsb₁.extBut b o (Nat.ne_of_lt (Heap.lt_size e)) (Heap.get?_push_of_some _ e)
 have lt3:∀b∈fp,b < s3.heap.objs.size:=fun b hb=>by rw[es3,Heap.size_push];exact Nat.lt_succ_of_lt (lt2 b hb)
 have f3:∀b∈fp,ad7 X pins (upd H2 s2.heap.objs.size (.lst [])) b:=fun b hb=>⟨by rw[B4 (Nat.ne_of_lt (lt2 b hb))];exact(f2 b hb).1,(f2 b hb).2⟩
 generalize hH3:upd H2 s2.heap.objs.size (HO.lst [])=H3 at I3 f3 w0
 have fin3:∀{σ':L2.St}{H':Hp}{pl:List (Addr×Obj)},(∀b∈fp,H' b=none)->(∀p∈pl,False)->∀b∈fp,ad7 (E2 X N' scope s3.heap.objs.size s3 H3 fp) pl H' b:=fun{σ' H' pl} hn hp b hb=>by
  refine⟨hn b hb,Nat.ne_of_lt (lt3 b hb),fun z=>?_,.inl hb,fun x c e=>?_,fun p hp'=>?_⟩
  ·rcases List.mem_cons.mp (I3.stkSub b z) with z|z
   ·exact(f3 b hb).2.1 z
   ·exact(f3 b hb).2.2.1 z
  ·have hm:=PySem.mem_of_lookup e
   rcases aa3 hm with q|⟨q1,q2⟩
   ·cases q
   ·obtain⟨c',hc'⟩:=I3.ok.has x (S.free _ q1 rfl)
    rw[hc']at q2
    have q2':c=c':=q2
    subst q2'
    exact(f3 b hb).2.2.2.2.1 x c hc'
  ·exact(hp p (by simpa [E2] using hp')).elim
 have toks:∃tk,({ s2 with heap:=h₁,toks:=s2.toks+([]:List (Str×Value)).length }:Shared)={ s3 with heap:=h₁,toks:=tk }:=⟨s2.toks,by rw[← hs3];rfl⟩
 obtain⟨tk,htk⟩:=toks
 have st4:tn 0 h₁:=T.keep 0 s2.heap h₁ st2 fun b hb o e=>keep3 b o (by rw[es3];exact Heap.get?_push_of_some _ e)
 have I4:Inv (E2 X N' scope s3.heap.objs.size s3 H3 fp) [] (an0 n caps σ) H3 { s3 with heap:=h₁,toks:=tk }:=aI3 S I3 f3 lt3 hns₁ keep3
 have loop:codeAny (model X.prog X.w) X.A (.compLoop (.ListComp elt [⟨tgt,iter,ifs,0⟩] scope pos) 0 (.ref it) (.ref s2.heap.objs.size) (compEnvC scope (M2 X.env.cells scope.names []) s3.heap.objs.size X.env)) (RR (.ref s2.heap.objs.size) s3.heap.objs.size) { s3 with heap:=h₁,toks:=tk }:=by
  refine aT8 (fun k s'=>∃i ys σ' H',Inv (E2 X N' scope s3.heap.objs.size s3 H3 fp) [] σ' H' s'/\tn i s'.heap/\(∀b∈fp,H' b=none)/\W i k ys σ' H') ?_ m0 ⟨0,[],_,H3,I4,st4,fun b hb=>(f3 b hb).1,w0⟩
  rintro k s5 ⟨i,ys,σ5,H5,I5,st5,fr5,w5⟩
  have pz:∀p∈([]:List (Addr×Obj)),False:=fun p hp=>by cases hp
  rcases turn i k ys σ5 H5 w5 with⟨stop,qn⟩|⟨go,step⟩
  ·refine wpAny_mono (T.done (E2 X N' scope s3.heap.objs.size s3 H3 fp) rfl rfl rfl hc i [] s5 σ5 H5 (fun _ _=>False) I5 (fin3 (σ':=σ5) fr5 pz) st5 stop) (fun r s6 ⟨hr,I6⟩=>?_) fun _ _ z=>z
   subst hr
   obtain⟨m6,hn6,_⟩:=I6.loc
   refine hRR _ _ _ s6 rfl ⟨m6,hn6,fun h' sb=>⟨H5,ap7 I3 f3 I6 sb,qn⟩⟩ ⟨s3,fp,σ5,H3,H5,rfl,I3,f3,I6,qn⟩
  ·refine wpAny_mono (T.item (E2 X N' scope s3.heap.objs.size s3 H3 fp) rfl rfl rfl hc i [] s5 σ5 H5 (fun _ _=>False) I5 (fin3 (σ':=σ5) fr5 pz) st5 go) (fun r s6 ⟨u,hr,h6⟩=>?_) fun _ _ z=>z
   subst hr
   refine wpAny_mono h6 (fun _ s7 ⟨x,H7,I7,r7,y7,st7,fr7⟩=>?_) fun _ _ z=>z
   have I7':=I7.pinned (fin3 (σ':=σ5) fr7 pz) (T.obj _ _ st7)
   refine wpAny_mono (hg _ _ _ _ _ s7 σ5 H7 x u _ I7' r7 (step x H7 y7)) (fun _ s8 ⟨σ8,H8,I8,q8⟩=>?_) fun _ _ z=>z
   refine wpAny_mono (ht _ _ _ _ _ s8 σ8 H8 _ I8 q8) (fun ok s9 ⟨H9,I9,q9⟩=>?_) fun _ _ z=>z
   have again:∀{σ':L2.St}{H':Hp}{s':Shared},Inv (E2 X N' scope s3.heap.objs.size s3 H3 fp) ([]++aj1 fp s7.heap) σ' H' s'->Inv (E2 X N' scope s3.heap.objs.size s3 H3 fp) [] σ' H' s'/\tn (i+1) s'.heap/\∀b∈fp,H' b=none:=fun{σ' H' s'} I'=>by
    refine⟨I'.unpinned,T.keep _ _ _ st7 fun b hb o e=>(I'.pin (b,o) (List.mem_append_right _ (List.mem_append_right _ (W6 hb e)))).1,fun b hb=>?_⟩
    obtain⟨o,e,d⟩:=T.obj _ _ st7 b hb
    exact(I'.pin (b,o) (List.mem_append_right _ (List.mem_append_right _ (W6 hb e)))).2.1
   cases ok with
   | false =>
    rw[if_neg Bool.false_ne_true]at q9 ⊢
    obtain⟨m',hm,w'⟩:=q9
    obtain⟨a1,a2,a3⟩:=again I9
    exact⟨m',hm,i+1,ys,σ8,H9,a1,a2,a3,w'⟩
   | true =>
    rw[if_pos rfl]at q9 ⊢
    refine wpAny_mono (he _ _ _ _ _ s9 σ8 H9 _ I9 q9) (fun y s10 ⟨vy,H10,I10,r10,q10,z10,m',hm,w'⟩=>?_) fun _ _ z=>z
    refine wpAny_mono (ao9 (X:=E2 X N' scope s3.heap.objs.size s3 H3 fp) _ s10 σ8 H10 (.ref s2.heap.objs.size) [vy] _ _ (fun v H'=>v=.non/\H'=upd H10 s2.heap.objs.size (.lst (ys++[vy]))) I10 rfl (.cons r10 .nil) ⟨_,ys,vy,rfl,rfl,q10,z10,rfl,rfl⟩) (fun _ s11 ⟨v11,H11,I11,r11,e11,e12⟩=>?_) fun _ _ z=>z
    subst e12
    obtain⟨a1,a2,a3⟩:=again I11
    exact⟨m',hm,i+1,ys++[vy],σ8,_,a1,a2,a3,w'⟩
 show codeAny (model X.prog X.w) X.A _ _ ({ s2 with heap:=h₁,toks:=s2.toks+([]:List (Str×Value)).length }:Shared)
 rw[htk]
 exact codeAny_compStart_list loop (T.self _ _ _ _ _ st4 loop)
end
section
variable {X:Cx}
noncomputable def tgJ(K:PySem.W.Frag) (f:D->Rho->Option Rho):TG:=fun v σ H Q=>∃d ρ ρ' H0 Hf,f d ρ=some ρ'/\D0 Hf H/\Slots K H0 ρ σ H Hf/\Rep K Hf d v/\∀σ',Slots K H0 ρ' σ' H Hf->Q σ' H
noncomputable def JG(X:Cx) (tg:Expr) (f:D->Rho->Option Rho):Prop:=PG X tg (tgJ X.K f)
noncomputable def bW2(K:PySem.W.Frag) (f:List D->Rho->Option Rho):TGs:=fun vs σ H Q=>∃ds ρ ρ' H0 Hf,f ds ρ=some ρ'/\D0 Hf H/\Slots K H0 ρ σ H Hf/\Reps K Hf ds vs/\∀σ',Slots K H0 ρ' σ' H Hf->Q σ' H
noncomputable def JGs(X:Cx) (tg:List Expr) (f:List D->Rho->Option Rho):Prop:=PGs X tg (bW2 X.K f)
noncomputable def B6(i:Nat):D->Rho->Option Rho:=fun d ρ=>some (ρ.set i (some (.val d)))
theorem bs5(i:Nat) {x:Str}{pos:Pos}(hN:X.N.Nodup) (hi:X.N[i]? = some x:=by rfl) (hx:Loc X.env.scope x:=by first|exact Or.inl rfl|exact Or.inr rfl) (hf:X.fn x=true\/X.env.scope.names.lookup x=some .local:=by first|exact .inl rfl|exact .inr rfl):JG X (.Name x pos) (B6 i):=by
 intro pins s σ H v u Q I r ⟨d,ρ,ρ',H0,Hf,e,ss,sl,rp,k⟩
 cases e
 exact bn7 hN hi hx hf pins s σ H v u Q I r (k _ (sl.set rp))
noncomputable def O0:List D->Rho->Option Rho:=fun ds ρ=>match ds with
 | []=>some ρ
 | _=>none
noncomputable def E1(f:D->Rho->Option Rho) (g:List D->Rho->Option Rho):List D->Rho->Option Rho:=fun ds ρ=>match ds with
 | d::r=>(f d ρ).bind fun ρ'=>g r ρ'
 | []=>none
theorem bs4:JGs X [] O0:=by
 intro pins s σ H vs us Q I r ⟨ds,ρ,ρ',H0,Hf,e,ss,sl,rp,k⟩
 cases ds with
 | nil=>cases e;exact bn6 pins s σ H vs us Q I r ⟨rp,k _ sl⟩
 | cons d ds=>cases e
theorem bd9{e:Expr}{es:List Expr}{f:D->Rho->Option Rho}{g:List D->Rho->Option Rho}(h1:JG X e f) (h2:JGs X es g) (hs:(assignEach (e::es) X.env).map (·.2)=assign e X.env::(assignEach es X.env).map (·.2):=by rfl):JGs X (e::es) (E1 f g):=by
 intro pins s σ H vs us Q I r ⟨ds,ρ,ρ',H0,Hf,e,ss,sl,rp,k⟩
 cases ds with
 | nil=>cases e
 | cons d ds =>
  obtain⟨ρ1,e1,e2⟩:=xbm e
  obtain⟨v,vr,rfl,q1,q2⟩:=rp
  exact aZ7 h1 h2 hs pins s σ H _ us Q I r ⟨v,vr,rfl,d,ρ,ρ1,H0,Hf,e1,ss,sl,q1,fun σ' sl'=>⟨ds,ρ1,ρ',H0,Hf,e2,ss,sl',q2,k⟩⟩
noncomputable def M7(n:Nat) (g:List D->Rho->Option Rho):D->Rho->Option Rho:=fun d ρ=>match d with
 | .tuple ds=>if ds.length=n then g ds ρ else none
 | _=>none
theorem bJ2{es:List Expr}{k n:Nat}{pos:Pos}{g:List D->Rho->Option Rho}(h:JGs X es g) (hc:X.calm=true:=by rfl) (hn:(assignEach es X.env).length=n:=by rfl) (hst:(assignEach es X.env).findIdx? (·.1)=none:=by rfl):JG X (.Tuple es k pos) (M7 n g):=by
 intro pins s σ H v u Q I r ⟨d,ρ,ρ',H0,Hf,e,ss,sl,rp,kk⟩
 cases d with
 | tuple ds =>
  simp only[M7]at e
  split at e
  ·rename_i hl
   obtain⟨a,vs,rfl,q1,q2⟩:=rp
   exact bC7 hc h hn hst pins s σ H _ u Q I r ⟨a,vs,rfl,C8 ss q1,by rw[q2.length,hl],ds,ρ,ρ',H0,Hf,e,ss,sl,q2,kk⟩
  ·cases e
 | _=>cases e
noncomputable def aI9(K:PySem.W.Frag) (J:It) (ds:List D) (Hf1:Hp):Prop:=∀(i:Nat) (H Hf:Hp),D0 Hf1 Hf->D0 Hf H->(ds.length<=i->J.stop i H)/\∀d,ds[i]? = some d->J.go i H/\∀x H',J.yld i H x H'->∃Hf',Grow H Hf H' Hf'/\Rep K Hf' d x
noncomputable def tiJ(K:PySem.W.Frag) (ρ:Rho) (ds:List D):TI:=fun σ H R=>∃H0 Hf,D0 Hf H/\Slots K H0 ρ σ H Hf/\∀J H' Hf',Grow H Hf H' Hf'->aI9 K J ds Hf'->R J H'
noncomputable def JI(X:Cx) (tg iter:Expr) (f:Rho->Option (List D)):Prop:=∀ρ ds,f ρ=some ds->PI X tg iter (tiJ X.K ρ ds)
theorem aF9{tg iter:Expr}{t t':TI}(h:PI X tg iter t) (i:∀σ H R,t' σ H R->t σ H R):PI X tg iter t':=fun pins s σ H R I q=>h pins s σ H R I (i σ H R q)
noncomputable def G6(f:DE):Rho->Option (List D):=fun ρ=>(f ρ).bind fun d=>match d with
 | .list ds=>some ds
 | .tuple ds=>some ds
 | _=>none
theorem aG7{tg e:Expr}{f:DE}(h:JE X e f):JI X tg e (G6 f):=fun ρ ds q=>by
 obtain⟨d,e1,e2⟩:=xbm q
 cases d with
 | list xs =>
  cases e2
  refine aF9 (bn5 (h ρ _ e1)) fun σ H R ⟨H0,Hf,s,sl,k⟩=>⟨H0,Hf,s,sl,fun v H1 Hf1 g1 ⟨a,vs,h1,h2,h3⟩=>⟨a,h1,⟨vs,E7 g1.sub h2⟩,k _ H1 Hf1 g1 ?_⟩⟩
  intro i H' Hf' sa sb
  have q':SqL X.K H' a vs:=E7 (sa.trans sb) h2
  refine⟨fun hi=>⟨vs,q',by rw[h3.length];exact hi⟩,fun d hd=>?_⟩
  obtain⟨v,w1,w2⟩:=h3.get hd
  refine⟨⟨vs,v,q',w1⟩,fun x H'' hy=>?_⟩
  obtain⟨rfl,hy⟩:=hy
  have:=hy vs q'
  rw[w1]at this;cases this
  exact⟨Hf',Grow.refl sb,w2.mono sa⟩
 | tuple xs =>
  cases e2
  refine aF9 (bC6 (h ρ _ e1)) fun σ H R ⟨H0,Hf,s,sl,k⟩=>⟨H0,Hf,s,sl,fun v H1 Hf1 g1 ⟨a,vs,h1,h2,h3⟩=>⟨a,h1,⟨vs,C8 g1.sub h2⟩,k _ H1 Hf1 g1 ?_⟩⟩
  intro i H' Hf' sa sb
  have q':SqT X.K H' a vs:=C8 (sa.trans sb) h2
  refine⟨fun hi=>⟨vs,q',by rw[h3.length];exact hi⟩,fun d hd=>?_⟩
  obtain⟨v,w1,w2⟩:=h3.get hd
  refine⟨⟨vs,v,q',w1⟩,fun x H'' hy=>?_⟩
  obtain⟨rfl,hy⟩:=hy
  have:=hy vs q'
  rw[w1]at this;cases this
  exact⟨Hf',Grow.refl sb,w2.mono sa⟩
 | _=>cases e2
noncomputable def W2(lo hi:Int):List D:=(List.range (hi - lo).toNat).map fun(i:Nat)=>PyData.int (lo+i)
theorem ar4{K:PySem.W.Frag}{lo hi:Int}{Hf1:Hp}:aI9 K (Itr lo (hi - lo).toNat) (W2 lo hi) Hf1:=by
 intro i H Hf sa sb
 have hl:(W2 lo hi).length=(hi - lo).toNat:=by simp[W2]
 refine⟨fun h=>by rw[hl]at h;exact h,fun d hd=>?_⟩
 have hi':i < (hi - lo).toNat:=by
  have:=(List.getElem?_eq_some_iff.mp hd).1
  rw[hl]at this;exact this
 refine⟨hi',fun x H' hy=>?_⟩
 obtain⟨e1,e2⟩:=hy
 subst e1 e2
 have:d=.int (lo+i):=by
  have:(W2 lo hi)[i]? = some (.int (lo+i)):=by simp[W2,hi']
  rw[hd]at this;cases this;rfl
 subst this
 exact⟨Hf,Grow.refl sb,rfl⟩
noncomputable def F6(f:DE):Rho->Option (List D):=fun ρ=>(f ρ).bind fun d=>match d with
 | .int j=>if -(2 ^ 62)<=j/\j < 2 ^ 62 then some (W2 0 j) else none
 | _=>none
theorem aR2{tg e:Expr}{f:DE}{p pos:Pos}(hg:Gl X "range") (hm:X.mg "range" = none) (h:JE X e f) (hs:starEach [e] X.env=[(false,eval e X.env)]:=by rfl):JI X tg (.Call (.Name "range" p) [e] [] pos) (F6 f):=fun ρ ds q=>by
 obtain⟨d,e1,e2⟩:=xbm q
 split at e2
 ·split at e2
  ·rename_i j c
   cases e2
   refine aF9 (aP7 hg hm (G0 (h ρ _ e1) L0 hs) hs) fun σ H R ⟨H0,Hf,s,sl,k⟩=>⟨H0,Hf,s,sl,fun v H1 Hf1 g1 r=>⟨j,by rw[show v=_ from r],c.1,c.2,k _ H1 Hf1 g1 ?_⟩⟩
   have:=ar4 (K:=X.K) (lo:=0) (hi:=j) (Hf1:=Hf1)
   rw[Int.sub_zero]at this
   exact this
  ·cases e2
 ·cases e2
theorem Grow.nofr{H Hf H' Hf':Hp}{a:Addr}{o:HO}(g:Grow H Hf H' Hf') (h:H a=some o) (n:Hf a=none):Hf' a=none:=by
 cases q:Hf' a with
 | none=>rfl
 | some u =>
  rcases g.new a (by rw[q];simp) with z|z
  ·exact absurd n z
  ·rw[h]at z;cases z
noncomputable def U1(n:Nat) (caps:List Nat) (ρ:Rho):Rho:=List.replicate n none++caps.map fun j=>match ρ[j]? with
 | some (some (.val d))=>some (.val d)
 | _=>none
noncomputable def M8(g:D->Rho->Option Rho) (c:Rho->Option Bool) (e:DE):List D->Rho->Option (List D)
 | [],_=>some []
 | d::ds,ρ=>(g d ρ).bind fun ρ1=>(c ρ1).bind fun b=>if b then(e ρ1).bind fun y=>(M8 g c e ds ρ1).map fun r=>y::r else M8 g c e ds ρ1
noncomputable def C4(n:Nat) (caps:List Nat) (src:Rho->Option (List D)) (g:D->Rho->Option Rho) (c:Rho->Option Bool) (e:DE):Rho->Option (List D):=fun ρ=>(src ρ).bind fun ds=>if ds.length<=16777216 then M8 g c e ds (U1 n caps ρ) else none
noncomputable def ao1(K:PySem.W.Frag) (c:Rho->Option Bool):TT:=fun σ H Q=>∃ρ b,c ρ=some b/\∃H0 Hf,D0 Hf H/\Slots K H0 ρ σ H Hf/\∀H' Hf',Grow H Hf H' Hf'->Q b H'
noncomputable def aK0(K:PySem.W.Frag) (e:DE):TE:=fun σ H Q=>∃ρ d,e ρ=some d/\tJ K ρ (fun _ v _ Hf=>Rep K Hf d v) σ H Q
noncomputable def JTs(X:Cx) (ifs:List Expr) (c:Rho->Option Bool):Prop:=PTs X ifs (ao1 X.K c)
noncomputable def C9:Rho->Option Bool:=fun _=>some true
theorem bq4:JTs X [] C9:=fun pins s σ H Q I ⟨ρ,b,e,H0,Hf,ss,sl,k⟩=>by
 cases e
 exact bm9 pins s σ H Q I (k H Hf (Grow.refl ss))
theorem bq3{e:Expr}{c:Rho->Option Bool}(h:JT X e c):JTs X [e] c:=fun pins s σ H Q I ⟨ρ,b,e,H0,Hf,ss,sl,k⟩=>bm8 (h ρ b e) pins s σ H Q I ⟨H0,Hf,ss,sl,k⟩
theorem aI4{K:PySem.W.Frag}{n:Nat}{caps:List Nat}{H0 H H1 H' Hf:Hp}{ρ:Rho}{σ:L2.St}(sl:Slots K H0 ρ σ H Hf):Slots K H1 (U1 n caps ρ) (an0 n caps σ) H' Hf:=by
 have noown:∀(i:Nat) (ds:List D),(U1 n caps ρ)[i]?≠some (some (.own ds)):=fun i ds h=>by
  unfold U1 at h
  rcases Nat.lt_or_ge i n with q|q
  ·rw[List.getElem?_append_left (by simpa using q),List.getElem?_replicate,if_pos q]at h;cases h
  ·rw[List.getElem?_append_right (by simpa using q),List.getElem?_map]at h
   cases hj:caps[i - (List.replicate n (none:Option B)).length]? with
   | none=>rw[hj]at h;cases h
   | some j =>
    rw[hj]at h
    simp only[Option.map_some,Option.some.injEq]at h
    split at h<;>cases h
 refine⟨by simp[U1,an0],fun i b e=>?_,fun i j ds es a h1=>(noown i ds h1).elim⟩
 unfold U1 at e
 unfold an0
 rcases Nat.lt_or_ge i n with q|q
 ·rw[List.getElem?_append_left (by simpa using q),List.getElem?_replicate,if_pos q]at e;cases e
 ·rw[List.getElem?_append_right (by simpa using q),List.getElem?_map]at e
  rw[List.getElem?_append_right (by simpa using q),List.getElem?_map]
  simp only[List.length_replicate]at e ⊢
  cases hj:caps[i - n]? with
  | none=>rw[hj]at e;cases e
  | some j =>
   rw[hj]at e
   simp only[Option.map_some,Option.some.injEq]at e ⊢
   split at e
   ·rename_i d hd
    cases e
    obtain⟨v,h1,h2⟩:=sl.is j _ hd
    exact⟨v,by rw[h1];rfl,h2⟩
   ·cases e
theorem o8{K:PySem.W.Frag}{n:Nat}{caps:List Nat}{ρ:Rho}{src:Rho->Option (List D)}{g:D->Rho->Option Rho}{c:Rho->Option Bool}{e:DE}{out:List D}(h:C4 n caps src g c e ρ=some out) :
  ∃ds,src ρ=some ds/\∀σ H Q,tJ K ρ (fun H v H' Hf'=>∃a vs,v=.ref a/\H a=none/\H' a=some (.lst vs)/\Hf' a=none/\Reps K Hf' out vs) σ H Q->aX2 n caps (tiJ K ρ ds) (tgJ K g) (ao1 K c) (aK0 K e) σ H Q:=by
 obtain⟨ds,e1,e2⟩:=xbm h
 split at e2
 ·rename_i hz
  refine⟨ds,e1,fun σ H Q ⟨H0,Hf,s,sl,k⟩=>⟨H0,Hf,s,sl,fun J H1 Hf1 g1 Y Dd hD=>?_⟩⟩
  refine⟨fun i m ys σ' H'=>m=ds.length - i/\i<=ds.length/\∃Hf' ρ' o1 o2,Grow H1 Hf1 H' Hf'/\H' Dd=some (.lst ys)/\Hf' Dd=none/\Slots K (upd H1 Dd (.lst [])) ρ' σ' H' Hf'/\Reps K Hf' o1 ys/\o1.length<=i/\M8 g c e (ds.drop i) ρ'=some o2/\o1++o2=out,
   ⟨ds.length,by simp,Nat.zero_le _,Hf1,U1 n caps ρ,[],out,Grow.made g1.sub hD,B7,g1.sub.free hD,aI4 (sl.grow g1),rfl,Nat.le_refl _,by simpa using e2,rfl⟩,?_⟩
  rintro i m ys σ' H' ⟨rfl,hi,Hf',ρ',o1,o2,gr,hd1,hd2,sl',rp,ho,ec,eo⟩
  obtain⟨Ys,Yg⟩:=Y i H' Hf' gr.ext gr.sub
  rcases Nat.lt_or_ge i ds.length with hlt|hge
  ·right
   obtain⟨go,yl⟩:=Yg ds[i] (by simp[hlt])
   refine⟨go,fun x H2 hy=>?_⟩
   obtain⟨Hf2,g2,r2⟩:=yl x H2 hy
   rw[List.drop_eq_getElem_cons hlt]at ec
   obtain⟨ρ1,c1,ec⟩:=xbm ec
   obtain⟨b,c2,ec⟩:=xbm ec
   refine⟨ds[i],ρ',ρ1,_,Hf2,c1,g2.sub,sl'.grow g2,r2,fun σ3 sl3=>⟨ρ1,b,c2,_,Hf2,g2.sub,sl3,fun H4 Hf4 g4=>?_⟩⟩
   have gr4:=(gr.trans g2).trans g4
   have hd4:H4 Dd=some (.lst ys):=g4.big _ _ (g2.big _ _ hd1)
   have hf4:Hf4 Dd=none:=(g2.trans g4).nofr hd1 hd2
   have rp4:=rp.mono (g2.trans g4).ext
   cases b with
   | false =>
    rw[if_neg Bool.false_ne_true]at ec
    refine am5 ?_
    exact⟨ds.length - (i+1),by omega,rfl,hlt,Hf4,ρ1,o1,o2,gr4,hd4,hf4,sl3.grow g4,rp4,by omega,ec,eo⟩
   | true =>
    rw[if_pos rfl]at ec
    refine am4 ?_
    obtain⟨y,c3,ec⟩:=xbm ec
    obtain⟨o3,c4,rfl⟩:=xmo ec
    refine⟨ρ1,y,c3,_,Hf4,g4.sub,sl3.grow g4,fun v H5 Hf5 g5 r5=>⟨g5.big _ _ hd4,?_,?_⟩⟩
    ·rw[rp.length,sizeLine_eq];omega
    ·have hf5:Hf5 Dd=none:=g5.nofr hd4 hf4
     have gr5:=gr4.trans g5
     refine⟨ds.length - (i+1),by omega,rfl,hlt,Hf5,ρ1,o1++[y],o3,⟨fun b u q=>?_,fun b u q=>?_,gr5.ext,gr5.new⟩,B7,hf5,?_,(rp4.mono g5.ext).append ⟨v,[],rfl,r5,rfl⟩,by simp;omega,c4,by simp[← eo]⟩
     ·rw[B4 (B9 q hD)];exact gr5.big b u q
     ·rw[B4 (B9 q hf5)];exact gr5.sub b u q
     ·have sl5:=(sl3.grow g4).grow g5
      refine⟨sl5.len,fun j bb q=>?_,sl5.apart⟩
      obtain⟨w,q1,q2⟩:=sl5.is j bb q
      refine⟨w,q1,?_⟩
      cases bb with
      | val d=>exact q2
      | exc C=>exact q2
      | own dd =>
       obtain⟨a,vs,z1,z2,z3,z4,z5⟩:=q2
       have ne:a≠Dd:=fun z=>by rw[z,B7]at z4;cases z4
       exact⟨a,vs,z1,by rw[B4 ne];exact z2,z3,z4,z5⟩
  ·left
   have:i=ds.length:=by omega
   subst this
   rw[List.drop_length]at ec
   cases ec
   rw[List.append_nil]at eo
   subst eo
   exact⟨Ys (Nat.le_refl _),k _ H' Hf' (g1.trans gr) ⟨Dd,ys,rfl,g1.big.free hD,hd1,hd2,rp⟩⟩
 ·cases e2
end
section
variable {X:Cx}
noncomputable def ah7(N N':List Str) (n:Nat) (caps:List Nat) (sc scope:Scope):Bool :=
 (match scope.kind with | .function=>true|_=>false) &&
 (scope.names.all fun y=>(match y.2 with | .cell=>false | .local=>scope.names.lookup y.1==some .local | .free=>sc.names.lookup y.1==some .cell || sc.names.lookup y.1==some .free|_=>true)) &&
 (N'.length==n+caps.length) &&
 ((List.range caps.length).all fun i=>match caps[i]? with
  | some j=>(match N[j]? with|some x=>N'[n+i]? == some x&&scope.names.lookup x==some .free|none=>false)
  | none=>true)
theorem aT9{N N':List Str}{n:Nat}{caps:List Nat}{sc scope:Scope}(h:ah7 N N' n caps sc scope=true) (hN:X.N=N) (hS:X.env.scope=sc):CompSc X N' n caps scope:=by
 subst hN hS
 unfold ah7 at h
 simp only[Bool.and_eq_true,List.all_eq_true]at h
 obtain⟨⟨⟨h1,h2⟩,h3⟩,h4⟩:=h
 refine⟨?_,fun y hy e=>?_,fun y hy e=>?_,fun y hy e=>?_,by simpa using h3,fun i j e=>?_⟩
 ·cases q:scope.kind<;>rw[q]at h1<;>first|rfl|cases h1
 ·have:=h2 y hy
  rw[e]at this;cases this
 ·have:=h2 y hy
  rw[e]at this;simpa using this
 ·have:=h2 y hy
  rw[e]at this;simpa using this
 ·have hi:i < caps.length:=(List.getElem?_eq_some_iff.mp e).1
  have:=h4 i (by simpa using hi)
  rw[e]at this
  simp only at this
  cases q:X.N[j]? with
  | none=>rw[q]at this;cases this
  | some x =>
   rw[q]at this
   simp only[Bool.and_eq_true]at this
   exact⟨x,rfl,by simpa using this.1,by simpa using this.2⟩
theorem aN4{N':List Str}{n:Nat}{caps:List Nat}{scope:Scope}{pins:List (Addr×Obj)}{σ:L2.St}{H:Hp}{s:Shared}(S:CompSc X N' n caps scope) (I:Inv X pins σ H s):closureFor scope X.env=pure (M2 X.env.cells scope.names []) :=
 bu6 fun y hy e=>I.ok.has y.1 (S.free y hy e)
theorem bs0{N':List Str}{n:Nat}{caps:List Nat}{scope:Scope}{elt tgt iter:Expr}{ifs:List Expr}{pos:Pos}{src:Rho->Option (List D)}{g:D->Rho->Option Rho}{c:Rho->Option Bool}{e:DE}(S:CompSc X N' n caps scope) (hx:∀e s,X.xe e s->False)
  (hi:JI X tgt iter src) (hg:∀C s0 H0 ex,JG (E2 X N' scope C s0 H0 ex) tgt g) (ht:∀C s0 H0 ex,JTs (E2 X N' scope C s0 H0 ex) ifs c) (he:∀C s0 H0 ex,JE (E2 X N' scope C s0 H0 ex) elt e)
  (hc:X.calm=true:=by rfl) (hs:∀x,foldedSetIterable iter X.env x=pure x:=by intro _;rfl):JN X (.ListComp elt [⟨tgt,iter,ifs,0⟩] scope pos) (C4 n caps src g c e):=by
 intro ρ out h
 obtain⟨ds,e1,k⟩:=o8 (K:=X.K) h
 intro pins s σ H Q I t
 rw[eval_ListComp]
 refine wpAny_comprehension_free (use:=none) rfl hs (aN4 S I) S.kind S.loc (aB6 (RR:=fun acc C=>compPost (model X.prog X.w) X.A X.xe none (EP X pins σ Q) acc C) S hx hc (hi ρ ds e1) (g:=tgJ X.K g) (tc:=ao1 X.K c) (te:=aK0 X.K e) hg ht (fun C s0 H0 ex pins s σ H Q I ⟨ρ,d,e,t⟩=>he C s0 H0 ex ρ d e pins s σ H Q I t) I (k σ H Q t) ?_)
 intro Dd C r s' hr ⟨m,hn,kk⟩ _
 subst hr
 exact⟨m,hn,fun h' sb=>let⟨H',I',q⟩:=kk h' sb;⟨.ref Dd,H',I',rfl,q⟩⟩
theorem aj0{N':List Str}{n:Nat}{caps:List Nat}{scope:Scope}{elt tgt iter:Expr}{ifs:List Expr}{pos pos' spos:Pos}{i:Nat}{x:Str}{wi:TI}{g:TG}{tc:TT}{te:TE}(S:CompSc X N' n caps scope) (hx:∀e s,X.xe e s->False) (hc:X.calm=true)
  (hN:X.N.Nodup) (hi:X.N[i]? = some x) (hl:X.env.scope.names.lookup x=some .local) (hsrc:PI X tgt iter wi) (hg:∀C s0 H0 ex,PG (E2 X N' scope C s0 H0 ex) tgt g) (ht:∀C s0 H0 ex,PTs (E2 X N' scope C s0 H0 ex) ifs tc) (he:∀C s0 H0 ex,PE (E2 X N' scope C s0 H0 ex) elt te)
  (hsw:swapsWith (.ListComp elt [⟨tgt,iter,ifs,0⟩] scope pos) (some (.Name x pos')) spos.line X.env=pure true) (hs:∀x,foldedSetIterable iter X.env x=pure x) :
  PS X (.Assign [.Name x pos'] (.ListComp elt [⟨tgt,iter,ifs,0⟩] scope pos) spos) (fun En σ H=>aX2 n caps wi g tc te σ H fun v H'=>En.nx (σ.set i (some v)) H'):=by
 intro pins s σ H En I h
 rw[exec_Assign_Name_used _ _ _ _ hsw]
 refine wpAny_bind (wpAny_standAt (wpAny_bind ?_))
 show wpAny _ X.A (do let _ ← comprehension (.ListComp elt [⟨tgt,iter,ifs,0⟩] scope pos) scope X.env _ (newList []) false (eval iter X.env) (some (assign (.Name x pos') X.env))) _ _ s
 refine wpAny_bind (wpAny_mono (wpAny_comprehension_free (use:=some (assign (.Name x pos') X.env)) (Q:=fun _ s'=>SP X pins En .next s') rfl hs (aN4 S I) S.kind S.loc
  (aB6 (RR:=fun acc C=>compPost (model X.prog X.w) X.A X.xe (some (assign (.Name x pos') X.env)) (fun _ s'=>SP X pins En .next s') acc C) S hx hc hsrc hg ht he I h ?_)) (fun _ s' hq=>wpAny_pure (wpAny_pure hq)) fun _ _ z=>z)
 intro Dd C r s' hr _ ⟨s2,fp,σ',H2,H',eC,I2,f2,I',q⟩
 subst hr eC
 have IX:Inv X pins σ H' s':=ap7 (h':=s'.heap) I2 f2 I' (Heap.SameBut.refl ..)
 obtain⟨mC,hnC,_⟩:=I'.loc
 have hCL:s2.heap.objs.size≠X.env.locals:=fun z=>by
  have:=I2.lt
  rw[← z]at this
  exact Nat.lt_irrefl _ this
 show wpAny _ X.A (assign (.Name x pos') X.env (.ref Dd)) _ _ _
 refine wpAny_assign_Name (ao3 (v:=.ref Dd) IX hN hi (.inl hl) rfl (fun s3 I3 ⟨a,sb,ha⟩=>?_) (.inr hl))
 have hCa:s2.heap.objs.size≠a:=fun z=>by
  rcases ha with ha|ha
  ·exact hCL (z.trans ha)
  ·obtain⟨v,q'⟩:=I2.cell x a ha
   have:=q'.lt
   rw[← z]at this
   exact Nat.lt_irrefl _ this
 refine⟨mC,hnC.sameBut sb hCa,fun h' sb'=>?_⟩
 refine⟨_,H',I3.turned (t':=s3.toks) (it:=s2.heap.objs.size) (fun b o hb e=>sb'.extBut b o hb e) I'.free hCL (.inr I2.sz) (fun y c e z=>?_) (fun p hp z=>?_),q⟩
 ·obtain⟨v,q'⟩:=I2.cell y c e
  have:=q'.lt
  rw[z]at this
  exact Nat.lt_irrefl _ this
 ·have:=Heap.lt_size (I2.pin p hp).1
  rw[z]at this
  exact Nat.lt_irrefl _ this
noncomputable def Q6(i:Nat) (f:Rho->Option (List D)):DS:=fun ρ=>(f ρ).map fun ds=>.nx (ρ.set i (some (.val (.list ds))))
theorem br3(i:Nat) {N':List Str}{n:Nat}{caps:List Nat}{scope:Scope}{elt tgt iter:Expr}{ifs:List Expr}{pos pos' spos:Pos}{x:Str}{src:Rho->Option (List D)}{g:D->Rho->Option Rho}{c:Rho->Option Bool}{e:DE}(hN:X.N.Nodup) (S:CompSc X N' n caps scope) (hx:∀e s,X.xe e s->False)
  (hi:JI X tgt iter src) (hg:∀C s0 H0 ex,JG (E2 X N' scope C s0 H0 ex) tgt g) (ht:∀C s0 H0 ex,JTs (E2 X N' scope C s0 H0 ex) ifs c) (he:∀C s0 H0 ex,JE (E2 X N' scope C s0 H0 ex) elt e)
  (hi2:X.N[i]? = some x:=by rfl) (hl:X.env.scope.names.lookup x=some .local:=by rfl) (hsw:swapsWith (.ListComp elt [⟨tgt,iter,ifs,0⟩] scope pos) (some (.Name x pos')) spos.line X.env=pure true:=by rfl)
  (hc:X.calm=true:=by rfl) (hs:∀x,foldedSetIterable iter X.env x=pure x:=by intro _;rfl):JS X (.Assign [.Name x pos'] (.ListComp elt [⟨tgt,iter,ifs,0⟩] scope pos) spos) (Q6 i (C4 n caps src g c e)):=fun ρ fl q H0 Hf0=>by
 obtain⟨out,e1,e2⟩:=xmo q
 subst e2
 obtain⟨ds,e3,k⟩:=o8 (K:=X.K) e1
 refine J7 (aj0 S hx hc hN hi2 hl (hi ρ ds e3) (g:=tgJ X.K g) (tc:=ao1 X.K c) (te:=aK0 X.K e) hg ht (fun C s0 H0 ex pins s σ H Q I ⟨ρ,d,e,t⟩=>he C s0 H0 ex ρ d e pins s σ H Q I t) hsw hs) fun En σ H ⟨Hf,a,ee⟩=>k σ H _ ⟨H0,Hf,a.gr.sub,a.sl,fun v H' Hf' gg ⟨p,vs,z1,z2,z3,z4,z5⟩=>?_⟩
 subst z1
 have g2:=gg.freeze z3 z4 z2
 exact ee _ H' _ ⟨a.gr.trans g2,(a.sl.grow g2).set ⟨p,vs,rfl,SqL.of B7,z5.mono (D8 z4)⟩⟩ g2.ext
theorem bH8{i j:Nat}{x y:Str}{a b:Expr}{f:Rho->Option (List D)}{px py pt:Pos}{kt k2 pt2} {pos:Pos}(hN:X.N.Nodup) (ha:JA X [a,b] f) (hw:swappedStores [.Tuple [.Name x px,.Name y py] kt pt] (.Tuple [a,b] k2 pt2) X.env=pure (some [x,y])) (hij:i≠j)
  (hi:X.N[i]? = some x:=by rfl) (hj:X.N[j]? = some y:=by rfl) (hx:X.env.scope.names.lookup x=some .local:=by rfl) (hy:X.env.scope.names.lookup y=some .local:=by rfl) (hc:X.calm=true:=by rfl)
  (hs:swapsWithSole [.Tuple [.Name x px,.Name y py] kt pt] (.Tuple [a,b] k2 pt2) pos.line X.env=pure false:=by rfl):JS X (.Assign [.Tuple [.Name x px,.Name y py] kt pt] (.Tuple [a,b] k2 pt2) pos) (aY2 i j f):=fun ρ fl q H0 Hf0=>by
 obtain⟨ds,e1,e2⟩:=xbm q
 split at e2
 ·cases e2
  refine J7 (bC3 hc hN hi hj hij hx hy (fun pos pins s σ H Q I t=>ha.run ρ _ e1 pos pins s σ H Q I t) hw hs) fun En σ H ⟨Hf,at',e⟩=>⟨H0,Hf,at'.gr.sub,at'.sl,fun vs H' Hf' gg rp=>?_⟩
  obtain⟨v,r,rfl,r1,w,r',rfl,r2,r3⟩:=rp
  cases r3
  exact⟨v,w,rfl,e _ H' Hf' ⟨at'.gr.trans gg,((at'.sl.grow gg).set r1).set r2⟩ gg.ext⟩
 ·cases e2
noncomputable def ab9(f:DE) (g:D->Rho->Option Rho):DS:=fun ρ=>(f ρ).bind fun d=>(g d ρ).map Fl.nx
theorem bd2{tg e:Expr}{f:DE}{g:D->Rho->Option Rho}{pos:Pos}(he:JE X e f) (hg:JG X tg g) (hs:swapsWithSole [tg] e pos.line X.env=pure false:=by rfl) (hw:swappedStores [tg] e X.env=pure none:=by rfl)
  (h1:(assignEach [tg] X.env).map (·.2)=[assign tg X.env]:=by rfl):JS X (.Assign [tg] e pos) (ab9 f g):=fun ρ fl q H0 Hf0=>by
 obtain⟨d,e1,e2⟩:=xbm q
 obtain⟨ρ',e3,e4⟩:=xmo e2
 subst e4
 exact J7 (bC5 (he ρ d e1) hg hs hw h1) fun En σ H ⟨Hf,a,ee⟩=>⟨H0,Hf,a.gr.sub,a.sl,fun v H' Hf' gg r=>⟨d,ρ,ρ',H0,Hf',e3,gg.sub,a.sl.grow gg,r,fun σ' sl'=>ee σ' H' Hf' ⟨a.gr.trans gg,sl'⟩ gg.ext⟩⟩
noncomputable def S7(i:Nat) (f:Rho->Option (List D)):DS:=fun ρ=>(f ρ).map fun ds=>.nx (ρ.set i (some (.own ds)))
theorem Slots.setOwn{K:PySem.W.Frag}{H0 H H' Hf Hf':Hp}{ρ:Rho}{σ:L2.St}{i:Nat}{ds:List D}{a:Addr}{vs:List V}(s:Slots K H0 ρ σ H Hf) (g:Grow H Hf H' Hf') (n0:H0 a=none) (n:H a=none) (h:H' a=some (.lst vs)) (nf:Hf' a=none) (r:Reps K Hf' ds vs) :
  Slots K H0 (ρ.set i (some (.own ds))) (σ.set i (some (.ref a))) H' Hf':=by
 have s':=s.grow g
 have old:∀(j:Nat) (es:List D),i≠j->ρ[j]? = some (some (.own es))->σ[j]?≠some (some (.ref a)):=fun j es hj e z=>by
  obtain⟨v,h1,b,us,e1,h2,_⟩:=s.is j _ e
  rw[z]at h1;cases h1;cases e1
  rw[n]at h2;cases h2
 refine⟨by simp[s.len],fun j b e=>?_,fun j k ds1 es b h1 h2 h3 h4=>?_⟩
 ·by_cases q:i=j
  ·subst q
   have hi:i < ρ.length:=by simpa using (List.getElem?_eq_some_iff.mp e).1
   have hi':i < σ.length:=by rw[← s.len];exact hi
   rw[List.getElem?_set_self hi]at e
   cases e
   exact⟨_,List.getElem?_set_self hi',a,vs,rfl,h,nf,n0,r⟩
  ·rw[List.getElem?_set_ne q]at e
   obtain⟨u,h1,h2⟩:=s'.is j b e
   exact⟨u,by rw[List.getElem?_set_ne q];exact h1,h2⟩
 ·by_cases qj:i=j
  ·by_cases qk:i=k
   ·rw[← qj,← qk]
   ·subst qj
    have hi:i < ρ.length:=by simpa using (List.getElem?_eq_some_iff.mp h1).1
    rw[List.getElem?_set_self (by rw[← s.len];exact hi)]at h3
    rw[List.getElem?_set_ne qk]at h2 h4
    cases h3
    exact(old k es qk h2 h4).elim
  ·rw[List.getElem?_set_ne qj]at h1 h3
   by_cases qk:i=k
   ·subst qk
    have hi:i < ρ.length:=by simpa using (List.getElem?_eq_some_iff.mp h2).1
    rw[List.getElem?_set_self (by rw[← s.len];exact hi)]at h4
    cases h4
    exact(old j ds1 qj h1 h3).elim
   ·rw[List.getElem?_set_ne qk]at h2 h4
    exact s.apart j k ds1 es b h1 h2 h3 h4
theorem bd1(i:Nat) {x:Str}{e:Expr}{f:Rho->Option (List D)}{pos pos':Pos}(hN:X.N.Nodup) (h:JN X e f) (hi:X.N[i]? = some x:=by rfl) (hx:Loc X.env.scope x:=by first|exact Or.inl rfl|exact Or.inr rfl)
  (hs:swapsWith e (some (.Name x pos')) pos.line X.env=pure false:=by rfl) (hf:X.fn x=true\/X.env.scope.names.lookup x=some .local:=by first|exact .inl rfl|exact .inr rfl):JS X (.Assign [.Name x pos'] e pos) (S7 i f):=fun ρ fl q H0 Hf0=>by
 obtain⟨ds,e1,e2⟩:=xmo q
 subst e2
 refine J7 (aZ2 hN hi hx (h ρ ds e1) hs hf) fun En σ H ⟨Hf,a,e⟩=>⟨H0,Hf,a.gr.sub,a.sl,fun v H' Hf' g ⟨p,vs,z1,z2,z3,z4,z5⟩=>?_⟩
 subst z1
 exact e _ H' Hf' ⟨a.gr.trans g,a.sl.setOwn g (a.gr.big.free z2) z2 z3 z4 z5⟩ g.ext
noncomputable def P8(i:Nat) (f:DE):DS:=fun ρ=>match ρ[i]? with
 | some (some (.own ds))=>if ds.length < 16777216 then(f ρ).map fun d=>.nx (ρ.set i (some (.own (ds++[d])))) else none
 | _=>none
theorem bI3(i:Nat) {x:Str}{e:Expr}{f:DE}{p apos cpos pos:Pos}(h:JE X e f) (hN:X.N[i]? = some x:=by rfl) (hv:Vis X.env.scope x:=by first|exact Or.inl rfl|exact Or.inr (Or.inl rfl)|exact Or.inr (Or.inr rfl)) (hd:(x==("__debug__" : Str))=false:=by decide)
  (hcd:(x==("__classdict__" : Str))=false:=by decide) (hbase:attributeBase (.Name x p) "append" X.env (eval (.Name x p) X.env)=eval (.Name x p) X.env:=by rfl)
  (hfew:((backTo cpos (starEach [e] X.env)).all (fun x=>!x.1)&&(backToKw cpos (keywordEach [] X.env)).all (fun x=>x.1.isSome)
   && decide (([e]:List Expr).length+([]:List Keyword).length+(if([]:List Keyword).isEmpty then 0 else 1) < 30))=true:=by rfl)
  (hline:(apos.endLine==cpos.line)=true:=by rfl) (hs:starEach [e] X.env=[(false,eval e X.env)]:=by rfl) (hsw:swapsWith (.Call (.Attribute (.Name x p) "append" apos) [e] [] cpos) none pos.line X.env=pure false:=by rfl) :
  JS X (.Expr (.Call (.Attribute (.Name x p) "append" apos) [e] [] cpos) pos) (P8 i f):=fun ρ fl q H0 Hf0=>by
 unfold P8 at q
 split at q
 ·rename_i ds eo
  split at q
  ·rename_i hz
   obtain⟨d,e1,e2⟩:=xmo q
   subst e2
   refine J7 (at0 (aK9 PySem.F.plainAttrs_list PySem.F.slot_list_append PySem.F.type_list_append ao9 (W3 hN hv hd hcd) (G0 (h ρ d e1) L0 hs) hbase hfew hline hs) hsw) fun En σ H ⟨Hf,a,ee⟩=>?_
   obtain⟨v,h1,b,vs,rfl,h2,h3,h4,h5⟩:=a.sl.is i _ eo
   refine⟨_,h1,.inl ⟨rfl,vs,SqL.of h2⟩,H0,Hf,a.gr.sub,a.sl,fun w H' Hf' gg r=>?_⟩
   have hb:H' b=some (.lst vs):=gg.big _ _ h2
   have hfb:Hf' b=none:=gg.nofr h2 h3
   have g2:=a.gr.trans gg
   have sl2:=a.sl.grow gg
   refine⟨b,vs,w,rfl,rfl,hb,by rw[h5.length,sizeLine_eq];exact hz,ee _ _ Hf' ⟨⟨fun c u z=>?_,fun c u z=>?_,g2.ext,g2.new⟩,?_⟩ gg.ext⟩
   ·rw[B4 (B9 z h4)];exact g2.big c u z
   ·rw[B4 (B9 z hfb)];exact g2.sub c u z
   ·refine⟨by simpa using sl2.len,fun j bb z=>?_,fun j k ds1 es c q1 q2 q3 q4=>?_⟩
    ·by_cases qj:i=j
     ·subst qj
      have hi:i < ρ.length:=(List.getElem?_eq_some_iff.mp eo).1
      rw[List.getElem?_set_self hi]at z
      cases z
      exact⟨_,h1,b,vs++[w],rfl,B7,hfb,h4,(h5.mono gg.ext).append ⟨w,[],rfl,r,rfl⟩⟩
     ·rw[List.getElem?_set_ne qj]at z
      obtain⟨u,z1,z2⟩:=sl2.is j bb z
      refine⟨u,z1,?_⟩
      cases bb with
      | val d=>exact z2
      | exc C=>exact z2
      | own dd =>
       obtain⟨a',vs',y1,y2,y3,y4,y5⟩:=z2
       have ne:a'≠b:=fun zz=>by
        subst zz y1
        exact qj (a.sl.apart i j ds dd a' eo z h1 z1)
       exact⟨a',vs',y1,by rw[B4 ne];exact y2,y3,y4,y5⟩
    ·have q1':∃dd,ρ[j]? = some (some (.own dd)):=by
      by_cases qj:i=j
      ·subst qj;exact⟨ds,eo⟩
      ·rw[List.getElem?_set_ne qj]at q1;exact⟨_,q1⟩
     have q2':∃dd,ρ[k]? = some (some (.own dd)):=by
      by_cases qj:i=k
      ·subst qj;exact⟨ds,eo⟩
      ·rw[List.getElem?_set_ne qj]at q2;exact⟨_,q2⟩
     obtain⟨d1,q1'⟩:=q1'
     obtain⟨d2,q2'⟩:=q2'
     exact a.sl.apart j k d1 d2 c q1' q2' q3 q4
  ·cases q
 ·cases q
noncomputable def frz(i:Nat) (ρ:Rho):Rho:=match ρ[i]? with
 | some (some (.own ds))=>ρ.set i (some (.val (.list ds)))
 | _=>ρ
theorem bg9{K:PySem.W.Frag}{H0 Hf0 H Hf:Hp}{ρ:Rho}{σ:L2.St}(i:Nat) (a:At K H0 Hf0 ρ σ H Hf):∃Hf',D0 Hf Hf'/\At K H0 Hf0 (frz i ρ) σ H Hf':=by
 unfold frz
 split
 ·rename_i ds eo
  obtain⟨v,h1,b,vs,rfl,h2,h3,h4,h5⟩:=a.sl.is i _ eo
  have g:Grow H0 Hf0 H (upd Hf b (.lst vs)):=a.gr.freeze h2 h3 h4
  refine⟨upd Hf b (.lst vs),D8 h3,g,⟨by simpa using a.sl.len,fun j bb z=>?_,fun j k ds1 es c q1 q2 q3 q4=>?_⟩⟩
  ·have hi:i < ρ.length:=(List.getElem?_eq_some_iff.mp eo).1
   by_cases qj:i=j
   ·subst qj
    rw[List.getElem?_set_self hi]at z
    cases z
    exact⟨_,h1,b,vs,rfl,SqL.of B7,h5.mono (D8 h3)⟩
   ·rw[List.getElem?_set_ne qj]at z
    obtain⟨u,z1,z2⟩:=a.sl.is j bb z
    refine⟨u,z1,?_⟩
    cases bb with
    | val d=>exact Rep.mono (D8 h3) z2
    | exc C =>
     obtain⟨a',o',C',y1,y2,y3⟩:=z2
     exact⟨a',o',C',y1,D8 h3 _ _ y2,y3⟩
    | own dd =>
     obtain⟨a',vs',y1,y2,y3,y4,y5⟩:=z2
     have ne:a'≠b:=fun zz=>by
      subst zz y1
      exact qj (a.sl.apart i j ds dd a' eo z h1 z1)
     exact⟨a',vs',y1,y2,by rw[B4 ne];exact y3,y4,y5.mono (D8 h3)⟩
  ·have hi:i < ρ.length:=(List.getElem?_eq_some_iff.mp eo).1
   have qj:i≠j:=fun z=>by subst z;rw[List.getElem?_set_self hi]at q1;cases q1
   have qk:i≠k:=fun z=>by subst z;rw[List.getElem?_set_self hi]at q2;cases q2
   rw[List.getElem?_set_ne qj]at q1
   rw[List.getElem?_set_ne qk]at q2
   exact a.sl.apart j k ds1 es c q1 q2 q3 q4
 ·exact⟨Hf,D0.refl _,a⟩
noncomputable def as0(i:Nat) (f:DS):DS:=fun ρ=>f (frz i ρ)
theorem bH9(i:Nat) {st:Stmt}{f:DS}(h:JS X st f):JS X st (as0 i f):=fun ρ fl q H0 Hf0=>J7 (h (frz i ρ) fl q H0 Hf0) fun En σ H ⟨Hf,a,e⟩=>by
 obtain⟨Hf',s,a'⟩:=bg9 i a
 exact⟨Hf',a',Fl.ends_mono e s⟩
noncomputable def bO8(K:PySem.W.Frag) (H0 Hf0:Hp) (f:DS):TS:=fun En σ H=>∃ρ fl,f ρ=some fl/\tJS K H0 Hf0 ρ fl En σ H
theorem aK6{sts:List Stmt}{f:DS}{H0 Hf0:Hp}(h:JSs X sts f):PSs X sts (bO8 X.K H0 Hf0 f):=fun pins s σ H En I ⟨ρ,fl,e,t⟩=>h ρ fl e H0 Hf0 pins s σ H En I t
theorem bC2{e:Expr}{c:Rho->Option Bool}(h:JT X e c):PT X e (ao1 X.K c):=fun pins s σ H Q I ⟨ρ,b,e,t⟩=>h ρ b e pins s σ H Q I t
noncomputable def P9(t:Rho->Option Bool) (f:DS):Nat->DS
 | 0=>fun _=>none
 | n+1=>fun ρ=>(t ρ).bind fun c=>if c then(f ρ).bind fun fl=>match fl with
   | .nx ρ'=>P9 t f n ρ'
   | .ct ρ'=>P9 t f n ρ'
   | .bk ρ'=>some (.nx ρ')
   | .rt d=>some (.rt d)
  else some (.nx ρ)
theorem n6{t:Rho->Option Bool}{f:DS}:∀{n:Nat}{ρ:Rho}{fl:Fl},P9 t f n ρ=some fl->P9 t f (n+1) ρ=some fl
 | 0,_,_,h=>by cases h
 | n+1,ρ,fl,h=>by
  obtain⟨c,e1,h⟩:=xbm h
  show(t ρ).bind _=_
  rw[e1]
  cases c with
  | false=>exact h
  | true =>
   obtain⟨fl1,e2,h⟩:=xbm h
   show(f ρ).bind _=_
   rw[e2]
   cases fl1 with
   | nx ρ'=>exact n6 (n:=n) h
   | ct ρ'=>exact n6 (n:=n) h
   | bk ρ'=>exact h
   | rt d=>exact h
theorem aA0{t:Rho->Option Bool}{f:DS}{n m:Nat}{ρ:Rho}{fl:Fl}(h:P9 t f n ρ=some fl) (l:n<=m):P9 t f m ρ=some fl:=by
 induction l with
 | refl=>exact h
 | step _ ih=>exact n6 ih
open Classical in
noncomputable def W1(t:Rho->Option Bool) (f:DS):DS:=fun ρ=>if h:∃fl n,P9 t f n ρ=some fl then some h.choose else none
theorem ao4{t:Rho->Option Bool}{f:DS}{n:Nat}{ρ:Rho}{fl:Fl}(h:P9 t f n ρ=some fl):W1 t f ρ=some fl:=by
 have hx:∃fl n,P9 t f n ρ=some fl:=⟨fl,n,h⟩
 unfold W1
 rw[dif_pos hx]
 obtain⟨m,hm⟩:=hx.choose_spec
 have h1:=aA0 h (Nat.le_max_left n m)
 have h2:=aA0 hm (Nat.le_max_right n m)
 rw[h1]at h2
 exact h2.symm
theorem aQ1{t:Rho->Option Bool}{f:DS}{ρ:Rho}{fl:Fl}(h:W1 t f ρ=some fl):∃n,P9 t f n ρ=some fl:=by
 unfold W1 at h
 split at h
 ·rename_i hx
  cases h
  exact hx.choose_spec
 ·cases h
theorem bd0{c:Expr}{body:List Stmt}{t:Rho->Option Bool}{f:DS}{pos:Pos}(hc:JT X c t) (hb:JSs X body f) (hp:PassesOwn (model X.prog X.w) X.A X.env X.xe:=by exact PassesOwn.never):JS X (.While c body [] pos) (W1 t f):=fun ρ fl q H0 Hf0=>by
 obtain⟨n,hn⟩:=aQ1 q
 refine J7 (aZ1 hp (bC2 hc) (aK6 (H0:=H0) (Hf0:=Hf0) hb)) fun En σ H ⟨Hf,a,e⟩=>?_
 refine⟨fun m σ H=>∃Hf' ρ',At X.K H0 Hf0 ρ' σ H Hf'/\D0 Hf Hf'/\P9 t f m ρ'=some fl,⟨n,Hf,ρ,a,D0.refl _,hn⟩,?_⟩
 rintro m σ' H' ⟨Hf',ρ',a',s',hm⟩
 cases m with
 | zero=>cases hm
 | succ m =>
  obtain⟨b,e1,hm⟩:=xbm hm
  refine⟨ρ',b,e1,H0,Hf',a'.gr.sub,a'.sl,fun H2 Hf2 g2=>?_⟩
  have a2:=a'.grow g2
  have s2:=s'.trans g2.ext
  cases b with
  | false =>
   have:fl=.nx ρ':=by simpa using hm.symm
   subst this
   exact am5 (e σ' H2 Hf2 a2 s2)
  | true =>
   obtain⟨fl1,e2,hm⟩:=xbm (show(f ρ').bind _=some fl from hm)
   refine am4 ⟨fun σ3 H3=>∃m',m' < m+1/\∃Hf' ρ',At X.K H0 Hf0 ρ' σ3 H3 Hf'/\D0 Hf Hf'/\P9 t f m' ρ'=some fl,fun σ3 H3 z=>z,ρ',fl1,e2,Hf2,a2,?_⟩
   cases fl1 with
   | nx ρ3=>exact fun σ3 H3 Hf3 a3 s3=>⟨m,Nat.lt_succ_self _,Hf3,ρ3,a3,s2.trans s3,hm⟩
   | ct ρ3=>exact fun σ3 H3 Hf3 a3 s3=>⟨m,Nat.lt_succ_self _,Hf3,ρ3,a3,s2.trans s3,hm⟩
   | bk ρ3 =>
    cases hm
    exact fun σ3 H3 Hf3 a3 s3=>e σ3 H3 Hf3 a3 (s2.trans s3)
   | rt d =>
    cases hm
    exact e
noncomputable def Z4(g:D->Rho->Option Rho) (f:DS):List D->DS
 | []=>fun ρ=>some (.nx ρ)
 | d::ds=>fun ρ=>(g d ρ).bind fun ρ1=>(f ρ1).bind fun fl=>match fl with
   | .nx ρ'=>Z4 g f ds ρ'
   | .ct ρ'=>Z4 g f ds ρ'
   | .bk ρ'=>some (.nx ρ')
   | .rt d=>some (.rt d)
noncomputable def P7(src:Rho->Option (List D)) (g:D->Rho->Option Rho) (f:DS):DS:=fun ρ=>(src ρ).bind fun ds=>Z4 g f ds ρ
theorem bI0{tg iter:Expr}{body:List Stmt}{src:Rho->Option (List D)}{g:D->Rho->Option Rho}{f:DS}{pos:Pos}(hi:JI X tg iter src) (hg:JG X tg g) (hb:JSs X body f) (hp:PassesOwn (model X.prog X.w) X.A X.env X.xe:=by exact PassesOwn.never) (hc:X.calm=true:=by rfl)
  (hs:∀x,foldedSetIterable iter X.env x=pure x:=by intro _;rfl):JS X (.For tg iter body [] pos) (P7 src g f):=fun ρ fl q H0 Hf0=>by
 obtain⟨ds,e1,e2⟩:=xbm q
 refine J7 (bC4 hp hc (hi ρ ds e1) hg (aK6 (H0:=H0) (Hf0:=Hf0) hb) hs) fun En σ H ⟨Hf,a,e⟩=>⟨H0,Hf,a.gr.sub,a.sl,fun J H1 Hf1 g1 Y=>?_⟩
 refine⟨fun i m σ H=>m=ds.length - i/\i<=ds.length/\∃Hf' ρ',At X.K H0 Hf0 ρ' σ H Hf'/\D0 Hf1 Hf'/\Z4 g f (ds.drop i) ρ'=some fl,⟨ds.length,by simp,Nat.zero_le _,Hf1,ρ,a.grow g1,D0.refl _,by simpa using e2⟩,?_⟩
 rintro i m σ' H' ⟨rfl,hi,Hf',ρ',a',s',hm⟩
 obtain⟨Ys,Yg⟩:=Y i H' Hf' s' a'.gr.sub
 rcases Nat.lt_or_ge i ds.length with hlt|hge
 ·right
  obtain⟨go,yl⟩:=Yg ds[i] (by simp[hlt])
  rw[List.drop_eq_getElem_cons hlt]at hm
  obtain⟨ρ1,c1,hm⟩:=xbm hm
  obtain⟨fl1,c2,hm⟩:=xbm hm
  refine⟨go,fun σ3 H3=>∃m',m' < ds.length - i/\m'=ds.length - (i+1)/\i+1<=ds.length/\∃Hf' ρ',At X.K H0 Hf0 ρ' σ3 H3 Hf'/\D0 Hf1 Hf'/\Z4 g f (ds.drop (i+1)) ρ'=some fl,fun σ3 H3 ⟨m',z1,z2⟩=>⟨m',z1,z2⟩,fun x H2 hy=>?_⟩
  obtain⟨Hf2,g2,r2⟩:=yl x H2 hy
  have a2:=a'.grow g2
  refine⟨ds[i],ρ',ρ1,H0,Hf2,c1,g2.sub,a2.sl,r2,fun σ3 sl3=>⟨ρ1,fl1,c2,Hf2,⟨a2.gr,sl3⟩,?_⟩⟩
  have s2:=s'.trans g2.ext
  cases fl1 with
  | nx ρ3=>exact fun σ3 H3 Hf3 a3 s3=>⟨_,by omega,rfl,hlt,Hf3,ρ3,a3,s2.trans s3,hm⟩
  | ct ρ3=>exact fun σ3 H3 Hf3 a3 s3=>⟨_,by omega,rfl,hlt,Hf3,ρ3,a3,s2.trans s3,hm⟩
  | bk ρ3 =>
   cases hm
   exact fun σ3 H3 Hf3 a3 s3=>e σ3 H3 Hf3 a3 (g1.ext.trans (s2.trans s3))
  | rt d =>
   cases hm
   exact e
 ·left
  have:i=ds.length:=by omega
  subst this
  rw[List.drop_length]at hm
  cases hm
  exact⟨Ys (Nat.le_refl _),e σ' H' Hf' a' (g1.ext.trans s')⟩
theorem br0{pos:Pos}:JS X (.Pass pos) C7:=fun ρ fl q H0 Hf0=>by
 cases q
 exact J7 bn2 fun En σ H ⟨Hf,a,e⟩=>e σ H Hf a (D0.refl _)
theorem bI2{pos:Pos}:JS X (.Break pos) (fun ρ=>some (.bk ρ)):=fun ρ fl q H0 Hf0=>by
 cases q
 exact J7 aZ3 fun En σ H ⟨Hf,a,e⟩=>e σ H Hf a (D0.refl _)
end
noncomputable def L6(n:Nat) (ds:List D):Rho:=ds.map (fun d=>some (B.val d))++List.replicate (n - ds.length) none
noncomputable def C3(g:DS) (n:Nat):List D->Option D:=fun ds=>(g (L6 n ds)).bind fun fl=>match fl with
 | .rt d=>some d
 | .nx _=>some .none
 | _=>none
theorem X8{K:PySem.W.Frag}{H0 H Hf:Hp}{N:List Str}{ds:List D}{vs:List V}(r:Reps K Hf ds vs):Slots K H0 (L6 N.length ds) (L2.S9 N vs) H Hf:=by
 have hl:=r.length
 have noown:∀(i:Nat) (b:B),(L6 N.length ds)[i]? = some (some b)->∃d,ds[i]? = some d/\b=.val d:=fun i b h=>by
  unfold L6 at h
  rcases Nat.lt_or_ge i ds.length with q|q
  ·rw[List.getElem?_append_left (by simpa using q),List.getElem?_map]at h
   rw[List.getElem?_eq_getElem q]at h ⊢
   simp only[Option.map_some,Option.some.injEq]at h
   exact⟨ds[i],rfl,h.symm⟩
  ·rw[List.getElem?_append_right (by simpa using q),List.getElem?_replicate]at h
   split at h<;>cases h
 refine⟨by simp[L6,L2.S9,hl],fun i b e=>?_,fun i j d1 d2 a e1 _ _ _=>?_⟩
 ·obtain⟨d,h1,h2⟩:=noown i b e
  subst h2
  obtain⟨v,h3,h4⟩:=r.get h1
  refine⟨v,?_,h4⟩
  have hi:i < vs.length:=(List.getElem?_eq_some_iff.mp h3).1
  unfold L2.S9
  rw[List.getElem?_append_left (by simpa using hi),List.getElem?_map,h3];rfl
 ·obtain⟨d,_,h2⟩:=noown i _ e1
  cases h2
theorem au5{P:Program}{w:World}{K:PySem.W.Frag}{mg:Str->Option Value}{base:Heap}{x qual:Str}{st:Stmt}{f:Addr}{fd:FuncData}{N ps:List Str}{k:Nat}{g:DS}(F:Fun K x qual st f fd) (S:FnScope N ps (C6 st))
  (hb:∀(cdv:Value) (A:Around) (outer:List Env) (s:Shared) (H:Hp) (E:XK),Room k (A.deeper (envOfC qual (C6 st) s.heap.objs.size f cdv))->JSs (am9 CX0 P w K mg base N qual (C6 st) f cdv A outer s H E).nox (G5 st) g) :
  FnOk P w K mg base CX0 (k+1) f fd ps (spF K ps.length (C3 g N.length)):=by
 refine F.ok S (fun vs H Q E h=>h.1) fun cdv A outer s H vs Q E hr hsp=>?_
 obtain⟨hlen,Hf,ds,d,ss,rp,e,kk⟩:=hsp
 obtain⟨fl,e1,e2⟩:=xbm e
 refine⟨_,hb cdv A outer s H E hr _ fl e1 H Hf,Hf,⟨Grow.refl ss,X8 rp⟩,?_⟩
 cases fl with
 | rt d'=>cases e2;exact fun v H' Hf' g r=>kk v H' Hf' g r
 | nx ρ=>cases e2;exact fun σ' H' Hf' a _=>kk _ H' Hf' a.gr rfl
 | bk ρ=>cases e2
 | ct ρ=>cases e2
noncomputable def SIt:Bool->Heap->Addr->Addr->Nat->Prop
 | true=>Heap.IsTupleIter
 | false=>Heap.IsListIter
noncomputable def SSq:Bool->Heap->Addr->Array Value->Prop
 | true=>Heap.IsTuple
 | false=>Heap.IsList
section
variable {prog:Program}{w:World}{A:Around}{E:Value->Shared->Prop}{s:Shared}{t t1 t2:Bool}
theorem SIt.ext{h h':Heap}{it l:Addr}{k:Nat}(x:SIt t h it l k) (e:∀o,h.get? it=some o->h'.get? it=some o):SIt t h' it l k:=by
 cases t with
 | true=>obtain⟨o,ho,r⟩:=x;exact⟨o,e o ho,r⟩
 | false=>obtain⟨o,ho,r⟩:=x;exact⟨o,e o ho,r⟩
theorem SSq.ext{h h':Heap}{l:Addr}{xs:Array Value}(x:SSq t h l xs) (e:∀o,h.get? l=some o->h'.get? l=some o):SSq t h' l xs:=by
 cases t with
 | true=>obtain⟨o,ho,r⟩:=x;exact⟨o,e o ho,r⟩
 | false=>obtain⟨o,ho,r⟩:=x;exact⟨o,e o ho,r⟩
theorem SIt.lt{h:Heap}{it l:Addr}{k:Nat}(x:SIt t h it l k):it < h.objs.size:=by
 cases t with
 | true=>obtain⟨o,ho,_⟩:=x;exact Heap.lt_size ho
 | false=>obtain⟨o,ho,_⟩:=x;exact Heap.lt_size ho
theorem aD7{it l:Addr}{k:Nat}{xs:Array Value}{x:Value}{Q:Value->Shared->Prop}(hit:s.heap.IsTupleIter it l k) (hl:s.heap.IsTuple l xs) (hx:xs[k]? = some x)
  (hQ:∀h',h'.IsTupleIter it l (k+1)->Heap.SameBut it s.heap h'->Q x { s with heap:=h' }):wpAny (model prog w) A (Builtin.SmallTypes.nextOf (.ref it)) Q E s:=by
 obtain⟨o,ho,hc,hd⟩:=id hit;obtain⟨ol,hol,_,nl,hdl⟩:=hl;unfold Builtin.SmallTypes.nextOf
 refine wpAny_bind (wpAny_callSpecial?_slot (name:=Str.ofString "__next__") hit.typeIs F.slot_tuple_iterator_next (wpAny_call_entry F.slot_tuple_iterator_next hit.typeIs F.entry_tuple_iterator_next ?_ (F.args_tuple_iterator_next_1 _)))
 show wpAny _ _ (field (.ref it) 0 >>= _) _ _ s;refine wpAny_bind (wpAny_field ho hd (x:=.ref l) rfl ?_);show wpAny _ _ (if(Value.ref l==Value.none)=true then _ else _) _ _ s
 rw[if_neg (show ¬((Value.ref l==Value.none)=true) from Bool.false_ne_true)];show wpAny _ _ (field (.ref it) 1 >>= _) _ _ s
 refine wpAny_bind (wpAny_field ho hd (x:=.int k 0) rfl ?_);show wpAny _ _ (seqItems? (.ref l) >>= _) _ _ s;refine wpAny_bind (wpAny_seqItems hol hdl ?_);simp only[Int.toNat_natCast,hx]
 refine wpAny_bind (wpAny_setField ho hd (by simp) (wpAny_pure ⟨x,rfl,wpAny_pure (hQ _ ⟨_,Heap.get?_update_self _ ho (Obj.isFreed_of_fields (Obj.data_mapFields hd _)),(Obj.cls_mapFields ..).trans hc,?_⟩ (Heap.SameBut.update ..))⟩))
 rw[Obj.data_mapFields hd];simp[rawInt]
theorem aP0{it l:Addr}{k:Nat}{xs:Array Value}{Q:Value->Shared->Prop}(hh:A.handled=none) (hit:s.heap.IsTupleIter it l k) (hl:s.heap.IsTuple l xs) (hx:xs[k]? = none)
  (hE:∀h' e,Heap.ExtBut it s.heap h'->(∃o,h'.get? e=some o/\o.cls=.type "StopIteration")->E (.ref e) { s with heap:=h' }):wpAny (model prog w) A (Builtin.SmallTypes.nextOf (.ref it)) Q E s:=by
 obtain⟨o,ho,hc,hd⟩:=id hit;obtain⟨ol,hol,_,nl,hdl⟩:=hl;unfold Builtin.SmallTypes.nextOf
 refine wpAny_bind (wpAny_callSpecial?_slot (name:=Str.ofString "__next__") hit.typeIs F.slot_tuple_iterator_next (wpAny_call_entry F.slot_tuple_iterator_next hit.typeIs F.entry_tuple_iterator_next ?_ (F.args_tuple_iterator_next_1 _)))
 show wpAny _ _ (field (.ref it) 0 >>= _) _ _ s;refine wpAny_bind (wpAny_field ho hd (x:=.ref l) rfl ?_);show wpAny _ _ (if(Value.ref l==Value.none)=true then _ else _) _ _ s
 rw[if_neg (show ¬((Value.ref l==Value.none)=true) from Bool.false_ne_true)];show wpAny _ _ (field (.ref it) 1 >>= _) _ _ s
 refine wpAny_bind (wpAny_field ho hd (x:=.int k 0) rfl ?_);show wpAny _ _ (seqItems? (.ref l) >>= _) _ _ s;refine wpAny_bind (wpAny_seqItems hol hdl ?_);simp only[Int.toNat_natCast,hx]
 refine wpAny_bind (wpAny_rule (wpAny_bind (wpAny_setField ho hd (by simp) ?_)));show wpAny _ _ (newExc (.type "StopIteration") [] >>= _) _ _ _;refine wpAny_bind ?_;simp only[newExc,newTuple]
 refine wpAny_bind (wpAny_newObj_type ?_ (by size_fits));refine wpAny_bind (m:=firstArgMember _ _) (wpAny_of_eq (a:=Value.none) (by first|rfl|(simp only[firstArgMember];rfl)) ?_);refine wpAny_newObj_type ?_ (by size_fits)
 simp only[raiseNew];refine wpAny_bind (wpAny_handled ?_);first|rw[show A.in1.handled=none from hh]|rw[hh]
 refine wpAny_bind (wpAny_pure (wpAny_throw ?_));exact hE _ _ (((Heap.SameBut.update ..).extBut.push _).push _) ⟨_,Heap.get?_push_size _ rfl,rfl⟩
theorem aX7{it l:Addr}{k:Nat}{xs:Array Value}{x:Value}{Q:Value->Shared->Prop}(hit:SIt t s.heap it l k) (hl:SSq t s.heap l xs) (hx:xs[k]? = some x)
  (hQ:∀h',SIt t h' it l (k+1)->Heap.SameBut it s.heap h'->Q x { s with heap:=h' }):wpAny (model prog w) A (Builtin.SmallTypes.nextOf (.ref it)) Q E s:=by
 cases t with
 | true=>exact aD7 hit hl hx hQ
 | false=>exact wpAny_nextOf_list_item hit hl hx hQ
theorem aK3{it l:Addr}{k:Nat}{xs:Array Value}{Q:Value->Shared->Prop}(hh:A.handled=none) (hit:SIt t s.heap it l k) (hl:SSq t s.heap l xs) (hx:xs[k]? = none)
  (hE:∀h' e,Heap.ExtBut it s.heap h'->(∃o,h'.get? e=some o/\o.cls=.type "StopIteration")->E (.ref e) { s with heap:=h' }):wpAny (model prog w) A (Builtin.SmallTypes.nextOf (.ref it)) Q E s:=by
 cases t with
 | true=>exact aP0 hh hit hl hx hE
 | false=>exact wpAny_nextOf_list_end hh hit hl hx hE
noncomputable def ap3(t:Bool) (l:Addr):Obj:={ cls:=.type (if t then "tuple_iterator" else "list_iterator"),data:=.fields #[.ref l,.int 0 0] }
theorem bm3{h:Heap}{l:Addr}(t:Bool):SIt t (h.push (ap3 t l)) h.objs.size l 0:=by
 cases t with
 | true=>exact⟨_,Heap.get?_push_size _ rfl,rfl,rfl⟩
 | false=>exact⟨_,Heap.get?_push_size _ rfl,rfl,rfl⟩
theorem ai5{l:Addr}{xs:Array Value}{Q:Value->Shared->Prop}(hl:SSq t s.heap l xs) (hQ:Q (.ref s.heap.objs.size) { s with heap:=s.heap.push (ap3 t l) }):wpAny (model prog w) A (pyIter (.ref l)) Q E s:=by
 cases t with
 | true=>exact wpAny_pyIter_tuple hl hQ
 | false=>exact wpAny_pyIter_list hl hQ
end
section
variable {prog:Program}{w:World}{A:Around}{E:Value->Shared->Prop}{s:Shared}{t1 t2:Bool}
end
theorem bB4{X:Cx}{pins:List (Addr×Obj)}{σ:L2.St}{H:Hp}{s:Shared}{t:Bool}{a:Addr}{xs ys:List V}(I:Inv X pins σ H s) (h:Sq X.K t H a xs) (h':Sq X.K t H a ys):xs=ys:=by
 cases t with
 | true=>exact I.tuple_inj h h'
 | false=>exact I.list_inj h h'
theorem ar8{X:Cx}{pins:List (Addr×Obj)}{σ:L2.St}{H:Hp}{s:Shared}{t:Bool}{a:Addr}{xs:List V}(I:Inv X pins σ H s) (h:Sq X.K t H a xs):∃its:List Value,D2 xs its/\SSq t s.heap a its.toArray/\a < s.heap.objs.size:=by
 cases t with
 | true =>
  obtain⟨its,r,p,_⟩:=I.tuple h
  exact⟨its,r,p,by obtain⟨o,ho,_⟩:=p;exact Heap.lt_size ho⟩
 | false =>
  obtain⟨its,r,p,_⟩:=I.list h
  exact⟨its,r,p.isList,by obtain⟨o,ho,_⟩:=p.isList;exact Heap.lt_size ho⟩
theorem af8{X:Cx}{pins:List (Addr×Obj)}{σ:L2.St}{H:Hp}{s:Shared}{h':Heap}{t':Nat}{ch:List Addr}{T:Addr}{o:HO}(I:Inv X pins σ H s) (hf:∀b∈ch,ad7 X pins H b) (hT:s.heap.objs.size<=T)
  (k:∀b u,b∉ch->s.heap.get? b=some u->h'.get? b=some u) (new:O7 X.prog X.w (upd H T o) h' T o):Inv X pins σ (upd H T o) { s with heap:=h',toks:=t' }:=by
 have hn:H T=none:=I.hok.fresh hT
 have neT:∀b u,s.heap.get? b=some u->b≠T:=fun b u e=>Nat.ne_of_lt (Nat.lt_of_lt_of_le (Heap.lt_size e) hT)
 have nch:∀b u,H b=some u->b∉ch:=fun b u e z=>by rw[(hf b z).1]at e;cases e
 refine I.step (g':=s.gens) (d':=s.drawn) (ch:=ch) (fun b hb=>⟨(hf b hb).2.2.2.1,(hf b hb).2.1,(hf b hb).2.2.2.2.1,(hf b hb).2.2.2.2.2⟩) (fun b u _ _ hc e _=>k b u hc e) (fun b u _ _ hc e _=>⟨u.slots,k b u hc e⟩)
  (fun b u _ e n=>by rw[B4 (neT b u e)];exact n) (fun b u hc e=>⟨u,k b u hc e⟩) (fun b xs e=>by rw[B4 (B9 e hn)];exact e) (fun b ob u e=>by rw[B4 (B9 e hn)];exact e)
  (fun b ps e=>⟨#[],by rw[B4 (B9 e hn),e];simp⟩) (fun m hm=>?_) (fun b u e=>?_) I.bare
 ·obtain⟨ob,es,ep,ho,r⟩:=hm
  exact⟨ob,es,ep,k _ ob (fun z=>(hf _ z).2.1 rfl) ho,r⟩
 ·by_cases hb:b=T
  ·subst hb;rw[B7]at e;cases e;exact new
  ·rw[B4 hb]at e
   refine(I.hok b u e).stay (fun c v hc q=>k c v ?_ q) (fun c q=>by rw[B4 (B9 q hn)];exact q) fun c xs q=>by rw[B4 (B9 q hn)];exact q
   rcases hc with z|z
   ·rw[z];exact nch b u e
   ·exact nch c _ z
theorem aH0{X:Cx}{pins:List (Addr×Obj)}{σ:L2.St}{H:Hp}{s:Shared}{h':Heap}{t':Nat}{ch:List Addr}(I:Inv X pins σ H s) (hf:∀b∈ch,ad7 X pins H b)
  (k:∀b u,b∉ch->s.heap.get? b=some u->h'.get? b=some u):Inv X pins σ H { s with heap:=h',toks:=t' }:=by
 have nch:∀b u,H b=some u->b∉ch:=fun b u e z=>by rw[(hf b z).1]at e;cases e
 refine I.step (g':=s.gens) (d':=s.drawn) (ch:=ch) (fun b hb=>⟨(hf b hb).2.2.2.1,(hf b hb).2.1,(hf b hb).2.2.2.2.1,(hf b hb).2.2.2.2.2⟩) (fun b u _ _ hc e _=>k b u hc e) (fun b u _ _ hc e _=>⟨u.slots,k b u hc e⟩)
  (fun b u _ e n=>n) (fun b u hc e=>⟨u,k b u hc e⟩) (fun b xs e=>e) (fun b ob u e=>e) (fun b ps e=>⟨#[],by rw[e];simp⟩) (fun m hm=>?_) (fun b u e=>?_) I.bare
 ·obtain⟨ob,es,ep,ho,r⟩:=hm
  exact⟨ob,es,ep,k _ ob (fun z=>(hf _ z).2.1 rfl) ho,r⟩
 ·refine(I.hok b u e).stay (fun c v hc q=>k c v ?_ q) (fun c q=>q) fun c xs q=>q
  rcases hc with z|z
  ·rw[z];exact nch b u e
  ·exact nch c _ z
section
variable {X:Cx}
noncomputable def w9(f g:Rho->Option (Bool×List D)):Rho->Option (List D):=fun ρ=>(f ρ).bind fun p=>(g ρ).bind fun q=>some ((p.2.zip q.2).map fun(x,y)=>PyData.tuple [x,y])
end
theorem ae4:fillsNumberSlot (.type "tuple") "mul" = pure false:=PySem.fillsNumberSlot_seq (id := "tuple.__mul__") (r:=some (.builtin "tuple.__rmul__")) F.slot_tuple_mul.lookup (by decide +kernel) F.slot_tuple_rmul.lookup (by decide +kernel)
theorem ao5:seqRepeat? (.type "tuple")=pure (some (.builtin "tuple.__mul__")):=by
 unfold seqRepeat?
 rw[PySem.seqSlot_of (T := "tuple") (name := "__mul__") (id := "tuple.__mul__") F.slot_tuple_mul.lookup (by decide +kernel),PySem.seqSlot_of (T := "tuple") (name := "__rmul__") (id := "tuple.__rmul__") F.slot_tuple_rmul.lookup (by decide +kernel)];rfl
theorem u5(a:Int) (t:Tok) (l:Addr) (items:Array Value) (n:Nat) (dd:Option Addr) (sl:Array (Option Value)) :
  Meets (Builtin.«int.__rmul__» ⟨[.int a t,.ref l],[]⟩) (fun _ R s=>s.heap.get? l=some ⟨.type "tuple", dd,.seq items n,sl⟩/\R (.ok (.ret Value.notImplemented)) s) :=
 .of_wp fun prog w A R s h=>by obtain⟨hp,g,d,tk,os⟩:=s;obtain⟨hl,h⟩:=h;wp_walk;exact⟨_,rfl,h⟩
theorem aF4(items:Array Value) (k:Nat):List.foldl (fun x1 x2=>x1++x2) #[] (List.replicate k items)=(List.replicate k items.toList).flatten.toArray:=by
 have:=ap5 items.toList k []
 rw[List.nil_append]at this
 simpa using this
theorem az1(l:Addr) (items:Array Value) (n:Nat) (dd:Option Addr) (sl:Array (Option Value)) (x:Int) (u:Tok) (h2:2<=x) (h3:x < 1000000) (he:items.isEmpty=false) (hz:items.size*x.toNat<=sizeLine) :
  Meets (Builtin.«tuple.__mul__» ⟨[.ref l,.int x u],[]⟩) (fun _ R s=>s.heap.get? l=some ⟨.type "tuple", dd,.seq items n,sl⟩/\R (.ok (.ret (Value.ref s.heap.objs.size))) { s with heap:=s.heap.push { cls:=Value.type "tuple", data:=Data.seq (List.foldl (fun x1 x2=>x1++x2) #[] (List.replicate x.toNat items)) } }) :=
 .of_wp fun prog w A R s h=>by
  obtain⟨hp,g,d,tk,os⟩:=s
  obtain⟨hl,h⟩:=h
  have hm:(items.size:Int)*x<=16777216:=by
   have e:((items.size*x.toNat:Nat):Int)=(items.size:Int)*x:=by rw[Int.natCast_mul,Int.toNat_of_nonneg (by omega)]
   have:items.size*x.toNat<=16777216:=by rw[← sizeLine_eq];exact hz
   omega
  wp_walk
  refine wpAny_ite_false (by simp;omega) ?_
  have ht:Heap.IsTuple (Shared.heap ⟨hp,g,d,tk,os⟩) l items:=⟨_,hl,rfl,n,rfl⟩
  refine wpAny_bind (tupleItemsOf_ ht ?_)
  refine wpAny_ite_false (by rw[he];simp;omega) ?_
  show wpAny _ _ (if(decide (x<=0) || items.isEmpty)=true then _ else _) _ _ _
  refine wpAny_ite_false (by rw[he];simp;omega) ?_
  show wpAny _ _ (if(items.size:Int)*x > (2 ^ 63 - 1) / 8 then _ else _) _ _ _
  rw[if_neg (by omega)]
  show wpAny _ _ (if Builtin.Tuple.tupleTooMany ((items.size:Int)*x)=true then _ else _) _ _ _
  rw[if_neg (by unfold Builtin.Tuple.tupleTooMany;rw[sizeLine_eq];simp;omega)]
  refine wpAny_bind (m:=Builtin.Tuple.tupleExact _) (wpAny_newObj_type (wpAny_pure ⟨_,rfl,h⟩) ?_)
  show(List.foldl (fun x1 x2=>x1++x2) #[] (List.replicate x.toNat items)).size<=sizeLine
  rw[aF4 items x.toNat,List.size_toArray,at8,Array.length_toList,Nat.mul_comm]
  exact hz
section
variable {X:Cx}
theorem bo1:OpR X (binaryOp .Mult) (fun x y H Q=>∃l k xs,x=.ref l/\y=.int k/\SqT X.K H l xs/\xs≠[]/\2<=k/\k < 1000000/\xs.length*k.toNat<=sizeLine/\∀p,H p=none->Q (.ref p) (upd H p (.tup (List.replicate k.toNat xs).flatten))):=by
 intro pins s σ H x y v u Q I rx ry h
 obtain⟨l,k,xs,rfl,rfl,hq,hx,h2,h3,hz,q⟩:=h
 cases rx
 obtain⟨t,rfl⟩:=ry
 obtain⟨its,r,p1,_⟩:=I.tuple hq
 obtain⟨⟨cls,dd,data,sl⟩,ho,hc,n,hd⟩:=id p1
 simp only at hc hd
 subst hc hd
 have hl:=r.length
 have he:its.toArray.isEmpty=false:=by
  cases its with
  | nil=>exact absurd (r.nil_iff.mp rfl) hx
  | cons a b=>rfl
 refine wpAny_binaryOp_repeat_ref (T := "tuple") (U := "int") (by decide) ⟨_,ho,rfl⟩ (fun s'=>typeIs_int s' k t) ae4 F.fills_int_mul F.slot_int_rmul ao5 F.slot_int_index.lookup
  (call_meets F.slot_int_rmul (typeIs_int s k t) F.entry_int_rmul (F.args_int_rmul_2 _ _) (u5 k t l its.toArray n dd sl) ⟨ho,rfl,⟨_,ho,rfl⟩,
   call_meets F.slot_tuple_mul ⟨_,ho,rfl⟩ F.entry_tuple_mul (F.args_tuple_mul_2 _ _) (az1 l its.toArray n dd sl k t h2 h3 he (by rw[List.size_toArray,← hl];exact hz)) ⟨ho,?_⟩⟩)
 rw[aF4]
 refine⟨.ref _,_,I.laid (t':=s.toks) (o:=.tup (List.replicate k.toNat xs).flatten) (fun b ob q=>Heap.get?_push_of_some _ q) (Nat.le_refl _) ⟨?_,_,r.rep k.toNat,al0.new _ _⟩,rfl,q _ (I.hok.fresh (Nat.le_refl _))⟩
 rw[at8,Nat.mul_comm];exact hz
noncomputable def Q3(x y:D):Option D:=match x,y with
 | .int i,.int j=>if E3 i/\E3 j then some (.int (i*j)) else none
 | .tuple xs,.int k=>if xs.isEmpty=false/\2<=k/\k < 1000000/\xs.length*k.toNat<=16777216 then some (.tuple (List.replicate k.toNat xs).flatten) else none
 | _,_=>none
theorem at4:OpD X (binaryOp .Mult) Q3:=fun x y z h=>by
 unfold Q3 at h
 split at h
 ·exact bE0 _ _ z (by unfold bF5;exact h)
 ·split at h
  ·rename_i xs k c
   cases h
   refine OpR.imp bo1 fun vx vy H Q ⟨Hf,s,r1,r2,kk⟩=>?_
   obtain⟨a,vs,rfl,h2,h3⟩:=r1
   refine⟨a,k,vs,rfl,r2,C8 s h2,?_,c.2.1,c.2.2.1,by rw[h3.length,sizeLine_eq];exact c.2.2.2,fun p hp=>?_⟩
   ·intro e
    subst e
    have:=h3.length
    cases xs with
    | nil=>exact absurd c.1 (by simp)
    | cons a b=>simp at this
   ·exact kk _ _ _ (Grow.laid s hp) ⟨p,_,rfl,SqT.of B7,(h3.flatten k.toNat).mono (D8 (s.free hp))⟩
  ·cases h
 ·cases h
noncomputable def aT7(f:DE):DE:=fun ρ=>(f ρ).bind fun d=>match d with
 | .int i=>some (.int (-i))
 | _=>none
theorem aG8{a:Expr}{f:DE}{pos:Pos}(h:JE X a f):JE X (.UnaryOp .USub a pos) (aT7 f):=fun ρ d q=>by
 obtain⟨x,e1,e2⟩:=xbm q
 cases x with
 | int i =>
  cases e2
  exact C0 (bQ6 bA3 (h ρ _ e1)) fun σ H Q ⟨H0,Hf,s,sl,k⟩=>⟨H0,Hf,s,sl,fun v H1 Hf1 g1 r1=>⟨_,r1,k _ H1 Hf1 g1 rfl⟩⟩
 | _=>cases e2
noncomputable def isB(x y:D):Option D:=match y with
 | .bool b=>(match x with
  | .bool c=>some (.bool (c==b))
  | .dict _=>none
  | _=>some (.bool false))
 | .none=>isN x .none
 | _=>none
noncomputable def ac4(x y:D):Option D:=match y with
 | .bool b=>(match x with
  | .bool c=>some (.bool (!(c==b)))
  | .dict _=>none
  | _=>some (.bool true))
 | .none=>bE9 x .none
 | _=>none
theorem bR7:OpD X (compareOp .Is) isB:=fun x y z h=>by
 cases y with
 | none=>exact bE2 x .none z h
 | bool b =>
  intro pins s σ H vx vy v u Q I rx ry ⟨Hf,ss,r1,r2,k⟩
  cases r2
  cases ry
  have fin:∀c,z=.bool c->(v==Value.bool b)=c->EP X pins σ Q (.bool (v==Value.bool b)) s:=fun c e1 e2=>by rw[e2];subst e1;exact⟨.bl c,H,I,rfl,k _ H Hf (Grow.refl ss) rfl⟩
  cases x with
  | none=>cases r1;cases rx;cases h;exact wpAny_is_plain rfl (fin _ rfl rfl)
  | bool c=>cases r1;cases rx;cases h;exact wpAny_is_plain rfl (fin _ rfl (by cases c<;>cases b<;>rfl))
  | int i=>cases r1;obtain⟨t,rfl⟩:=rx;cases h;exact wpAny_is_plain rfl (fin _ rfl rfl)
  | str i=>cases r1;obtain⟨t,rfl⟩:=rx;cases h;exact wpAny_is_plain rfl (fin _ rfl rfl)
  | tuple ds=>obtain⟨a,vs,rfl,_⟩:=r1;cases rx;cases h;exact wpAny_is_plain rfl (fin _ rfl rfl)
  | list ds=>obtain⟨a,vs,rfl,_⟩:=r1;cases rx;cases h;exact wpAny_is_plain rfl (fin _ rfl rfl)
  | dict ds=>cases h
 | _=>cases h
theorem ba6:OpD X (compareOp .IsNot) ac4:=fun x y z h=>by
 cases y with
 | none=>exact bp0 x .none z h
 | bool b =>
  intro pins s σ H vx vy v u Q I rx ry ⟨Hf,ss,r1,r2,k⟩
  cases r2
  cases ry
  have fin:∀c,z=.bool c->(!(v==Value.bool b))=c->EP X pins σ Q (.bool (!(v==Value.bool b))) s:=fun c e1 e2=>by rw[e2];subst e1;exact⟨.bl c,H,I,rfl,k _ H Hf (Grow.refl ss) rfl⟩
  cases x with
  | none=>cases r1;cases rx;cases h;exact wpAny_isNot_plain rfl (fin _ rfl rfl)
  | bool c=>cases r1;cases rx;cases h;exact wpAny_isNot_plain rfl (fin _ rfl (by cases c<;>cases b<;>rfl))
  | int i=>cases r1;obtain⟨t,rfl⟩:=rx;cases h;exact wpAny_isNot_plain rfl (fin _ rfl rfl)
  | str i=>cases r1;obtain⟨t,rfl⟩:=rx;cases h;exact wpAny_isNot_plain rfl (fin _ rfl rfl)
  | tuple ds=>obtain⟨a,vs,rfl,_⟩:=r1;cases rx;cases h;exact wpAny_isNot_plain rfl (fin _ rfl rfl)
  | list ds=>obtain⟨a,vs,rfl,_⟩:=r1;cases rx;cases h;exact wpAny_isNot_plain rfl (fin _ rfl rfl)
  | dict ds=>cases h
 | _=>cases h
noncomputable def aC3(K:PySem.W.Frag) (d:D) (u:Value):Prop:=∃v,E9 v u/\∀H:Hp,Rep K H d v
theorem bK2{x:Str}{d:D}{u:Value}{pos:Pos}(r:aC3 X.K d u) (hg:Gl X x) (hm:X.mg x=some u) (hd:(x==("__debug__" : Str))=false:=by decide):JE X (.Name x pos) (dC d):=fun ρ d' q=>by
 cases q
 obtain⟨v,rv,rp⟩:=r
 exact C0 (bn8 hg hm rv hd) fun σ H Q ⟨H0,Hf,s,sl,k⟩=>k _ H Hf (Grow.refl s) (rp Hf)
noncomputable def qN(f:Rho->Option (List D)):Rho->Option (Bool×List D):=fun ρ=>(f ρ).map fun ds=>(false,ds)
theorem bI8{e:Expr}{f:Rho->Option (List D)}(h:JN X e f):JQ X e (qN f):=bd5 h
noncomputable def J3(f:Rho->Option (Bool×List D)):DE:=fun ρ=>(f ρ).bind fun q=>if q.1=true then none else some (.tuple q.2)
theorem bs6{e:Expr}{f:Rho->Option (Bool×List D)}{p pos:Pos}(hg:Gl X "tuple") (hm:X.mg "tuple" = none) (h:JQ X e f) (he:starEach [e] X.env=[(false,eval e X.env)]:=by rfl):JE X (.Call (.Name "tuple" p) [e] [] pos) (J3 f):=be1 hg hm h (he:=he)
end
theorem aU5(l b:Addr) (items items2:Array Value) (n n2:Nat) (dd dd2:Option Addr) (sl sl2:Array (Option Value)) (hz:items.size+items2.size<=sizeLine) :
  Meets (Builtin.«list.__add__» ⟨[.ref l,.ref b],[]⟩) (fun _ R s=>s.heap.get? l=some ⟨.type "list", dd,.seq items n,sl⟩/\s.heap.get? b=some ⟨.type "list", dd2,.seq items2 n2,sl2⟩/\R (.ok (.ret (Value.ref s.heap.objs.size))) { s with heap:=s.heap.push { cls:=Value.type "list", data:=Data.seq (items++items2) } }) :=
 .of_wp fun prog w A R s h=>by
  obtain⟨hp,g,d,tk,os⟩:=s
  obtain⟨hl,hb,h⟩:=h
  have hsub:isSubtype (.type "list") (.type "list")=pure true:=by rw[isSubtype_type];kernel_rfl
  have hsz:=hz
  wp_walk
  exact⟨_,rfl,h⟩
section
variable {X:Cx}
theorem aL3:OpR X (binaryOp .Add) (fun x y H Q=>∃a b xs ys,x=.ref a/\y=.ref b/\SqL X.K H a xs/\SqL X.K H b ys/\xs.length+ys.length<=sizeLine/\∀p,H p=none->Q (.ref p) (upd H p (.lst (xs++ys)))):=by
 intro pins s σ H x y v u Q I rx ry h
 obtain⟨a,b,xs,ys,rfl,rfl,ha,hb,hz,q⟩:=h
 cases rx
 cases ry
 obtain⟨its,r1,p1,_⟩:=I.list ha
 obtain⟨its2,r2,p2,_⟩:=I.list hb
 obtain⟨⟨cls,dd,data,sl⟩,ho,hc,n,hd⟩:=p1.isList
 obtain⟨⟨cls2,dd2,data2,sl2⟩,ho2,hc2,n2,hd2⟩:=p2.isList
 simp only at hc hd hc2 hd2
 subst hc hd hc2 hd2
 have l1:=r1.length
 have l2:=r2.length
 refine concat_meets ⟨_,ho,rfl⟩ ⟨_,ho2,rfl⟩ noFill_list_add seq_list_add PySem.F.slot_list_add PySem.F.entry_list_add (PySem.F.args_list_add_2 _ _) (aU5 a b its.toArray its2.toArray n n2 dd dd2 sl sl2 (by simp only[List.size_toArray];omega)) ⟨ho,ho2,?_⟩
 have ea:its.toArray++its2.toArray=(its++its2).toArray:=by simp
 rw[ea]
 exact⟨.ref _,_,I.lnew (t':=s.toks) (r1.append r2) (by rw[List.length_append];omega),rfl,q _ I.fresh⟩
noncomputable def B0(x y:D):Option D:=match x,y with
 | .list xs,.list ys=>if xs.length+ys.length<=16777216 then some (.list (xs++ys)) else none
 | x,y=>V0 x y
theorem aL5:OpD X (binaryOp .Add) B0:=fun x y z h=>by
 unfold B0 at h
 split at h
 ·split at h
  ·rename_i c
   cases h
   refine OpR.imp aL3 fun vx vy H Q ⟨Hf,s,r1,r2,k⟩=>?_
   obtain⟨a,vs,rfl,h2,h3⟩:=r1
   obtain⟨b,us,rfl,h5,h6⟩:=r2
   refine⟨a,b,vs,us,rfl,rfl,E7 s h2,E7 s h5,by rw[h3.length,h6.length,sizeLine_eq];exact c,fun p hp=>?_⟩
   exact k _ _ _ (Grow.laid s hp) ⟨p,vs++us,rfl,SqL.of B7,(h3.append h6).mono (D8 (s.free hp))⟩
  ·cases h
 ·exact ba7 _ _ z h
noncomputable def by1(f:DE):DE:=fun ρ=>(f ρ).bind fun d=>match d with
 | .tuple xs=>some (.tuple xs.reverse)
 | _=>none
end
end G
namespace G
theorem xg0{α:Type}{a:α}{l:List α}:(a::l)[0]? = some a:=rfl
theorem xg1{α:Type}{a:α}{i:Nat}{l:List α}:(a::l)[i+1]? = l[i]?:=rfl
theorem xw0{α:Type}{a b:α}{l:List α}:(a::l).set 0 b=b::l:=rfl
theorem xw1{α:Type}{a b:α}{i:Nat}{l:List α}:(a::l).set (i+1) b=a::l.set i b:=rfl
theorem xbs{α β:Type}{a:α}{f:α->Option β}:(some a).bind f=f a:=rfl
theorem xms{α β:Type}{a:α}{f:α->β}:(some a).map f=some (f a):=rfl
theorem xca{α:Type}{a:α}{l m:List α}:(a::l)++m=a::(l++m):=rfl
theorem xna{α:Type}{l:List α}:[]++l=l:=rfl
theorem xmc{α β:Type}{f:α->β}{a:α}{l:List α}:(a::l).map f=f a::l.map f:=rfl
theorem xmn{α β:Type}{f:α->β}:[].map f=[]:=rfl
theorem xnf:(!false)=true:=rfl
theorem xnt:(!true)=false:=rfl
theorem xft:(false=true)=False:=by simp
end G
local macro_rules
  | `(‹$x›) => `(some (G.B.val $x))
local macro_rules
  | `(⇑$x) => `(G.dC (PySem.PyData.int $x))
noncomputable section
namespace Sh
open PySem PySem.Spec PyProof.Rows L2 G
def ad5:DS:=(A8 (W1 (tB2 neD (A1 1) ⇑0) (A8 (B3 2 (A5 S8 (A1 0) (A1 1))) (A8 (B3 0 (A1 1)) (B3 1 (A1 2))))) (A9 (A1 0)))
def K2:List D->Option D:=C3 ad5 3
def R3:DS:=(A8 (B3 2 (A2 K2 (A0 (A1 0) (A0 (A1 1) A3)))) (A9 (F0 (A0 (A5 n8 (A1 0) (A1 2)) (A0 (A5 n8 (A1 1) (A1 2)) A3)))))
def R5:List D->Option D:=C3 R3 3
def R4:DS:=(A9 (A5 leI (A5 Q3 (dIx (A7 0) ⇑0) (dIx (A7 1) ⇑1)) (A5 Q3 (dIx (A7 1) ⇑0) (dIx (A7 0) ⇑1))))
def R6:List D->Option D:=C3 R4 2
def bv4:DS:=(A9 (A2 R5 (A0 (A5 V0 (A5 Q3 (dIx (A7 0) ⇑0) (dIx (A7 1) ⇑1)) (A5 Q3 (dIx (A7 1) ⇑0) (dIx (A7 0) ⇑1))) (A0 (A5 Q3 (dIx (A7 0) ⇑1) (dIx (A7 1) ⇑1)) A3))))
def O9:List D->Option D:=C3 bv4 2
def aJ2:DS:=(A9 (A2 R5 (A0 (A5 am0 (A5 Q3 (dIx (A7 0) ⇑0) (dIx (A7 1) ⇑1)) (A5 Q3 (dIx (A7 1) ⇑0) (dIx (A7 0) ⇑1))) (A0 (A5 Q3 (dIx (A7 0) ⇑1) (dIx (A7 1) ⇑1)) A3))))
def P3:List D->Option D:=C3 aJ2 2
def ah9:DS:=(A9 (A2 R5 (A0 (A5 Q3 (dIx (A7 0) ⇑0) (dIx (A7 1) ⇑0)) (A0 (A5 Q3 (dIx (A7 0) ⇑1) (dIx (A7 1) ⇑1)) A3))))
def N3:List D->Option D:=C3 ah9 2
def aV0:DS:=(A9 (A2 P3 (A0 (dC (.tuple [(.int 1),(.int 1)])) (A0 (A1 0) A3))))
def g7:List D->Option D:=C3 aV0 1
def an8:DS:=(A9 (o7 (G1 (A2 R6 (A0 (A1 0) (A0 (dC (.tuple [(.int 1),(.int 1)])) A3)))) (A1 0) (dC (.tuple [(.int 1),(.int 1)]))))
def m7:List D->Option D:=C3 an8 1
def ag6:DS:=(A8 (sIf (tB2 eqD (A1 0) (dC (.str "plus"))) (A9 (A2 m7 (A0 (A2 O9 (A0 (A1 1) (A0 (A1 2) A3))) A3))) C7) (A8 (sIf (tB2 eqD (A1 0) (dC (.str "atop"))) (A9 (A1 2)) C7) (A8 (sIf (tB2 eqD (A1 0) (dC (.str "cut"))) (A9 (A2 N3 (A0 (A1 2) (A0 (A2 g7 (A0 (A1 1) A3)) A3)))) C7) (A9 (A2 P3 (A0 (A2 O9 (A0 (A1 1) (A0 (A1 2) A3))) (A0 (A2 N3 (A0 (A1 1) (A0 (A1 2) A3))) A3)))))))
def ag8:List D->Option D:=C3 ag6 3
def ad6:DS:=(A8 (sIf (tB2 eqD (A1 0) (dC (.str "plus"))) (A9 (A2 m7 (A0 (A2 O9 (A0 (A1 3) (A0 (A1 4) A3))) A3))) C7) (A8 (sIf (tB2 eqD (A1 0) (dC (.str "screen"))) (A9 (A2 P3 (A0 (A2 O9 (A0 (A1 3) (A0 (A1 4) A3))) (A0 (A2 N3 (A0 (A1 3) (A0 (A1 4) A3))) A3)))) C7) (A8 (B3 5 (A2 N3 (A0 (A1 4) (A0 (A2 g7 (A0 (A1 1) A3)) A3)))) (A8 (sIf (tB2 eqD (A1 0) (dC (.str "over"))) (A9 (A2 O9 (A0 (A1 3) (A0 (A1 5) A3)))) C7) (A8 (sIf (tB2 eqD (A1 0) (dC (.str "multiply"))) (A9 (A2 O9 (A0 (A2 O9 (A0 (A2 N3 (A0 (A1 3) (A0 (A1 4) A3))) (A0 (A2 N3 (A0 (A1 3) (A0 (A2 g7 (A0 (A1 2) A3)) A3))) A3))) (A0 (A1 5) A3)))) C7) (A8 (sIf (tB2 eqD (A1 0) (dC (.str "atop"))) (A9 (A2 O9 (A0 (A2 N3 (A0 (A1 3) (A0 (A1 2) A3))) (A0 (A1 5) A3)))) C7) (A9 (A1 5))))))))
def ae2:List D->Option D:=C3 ad6 6
def aV8:DS:=(A8 (B3 3 (dIx (A7 1) ⇑0)) (A8 (B3 4 (dIx (A7 2) ⇑0)) (A8 (Q6 5 (C4 2 [0,3,4] (w9 (qE (X3 (A1 1) (E8 ⇑1) K8)) (qE (X3 (A1 2) (E8 ⇑1) K8))) (M7 2 (E1 (B6 0) (E1 (B6 1) O0))) C9 (A2 ae2 (A0 (A1 2) (A0 (A1 3) (A0 (A1 4) (A0 (A1 0) (A0 (A1 1) A3)))))))) (A9 (F0 (A0 (A2 ag8 (A0 (A1 0) (A0 (A1 3) (A0 (A1 4) A3)))) (A0 (dIx (A7 5) ⇑0) (A0 (dIx (A7 5) ⇑1) (A0 (dIx (A7 5) ⇑2) A3)))))))))
def aW2:List D->Option D:=C3 aV8 6
def al6:DS:=(A8 (sIf (tB2 eqD (A1 0) (Q0 A3)) (A9 (A5 Q3 ⇑7 (A1 1))) C7) (A9 (A5 V0 (dIx (A7 0) (A5 S8 (A1 1) (N6 (A7 0)))) (A5 Q3 ⇑6553 (A5 n8 (A1 1) (N6 (A7 0)))))))
def al9:List D->Option D:=C3 al6 2
def ar0:DS:=(A8 (B3 3 (A5 S8 (A5 V0 (A5 Q3 (A5 S8 (A2 al9 (A0 (A1 0) (A0 (A1 1) A3))) ⇑2147483563) ⇑69069) (A5 Q3 ⇑104723 (A5 V0 (A1 1) ⇑1))) ⇑2147483563)) (A8 (B3 3 (A5 S8 (A5 V0 (A5 Q3 (A1 3) (A1 3)) (A5 n8 (A1 3) ⇑3)) ⇑2147483399)) (A9 (A5 S8 (A5 n8 (A5 S8 (A5 V0 (A5 Q3 (A1 3) (A1 3)) (A5 n8 (A1 3) ⇑7)) ⇑2147483647) ⇑11) (A1 2)))))
def A6:List D->Option D:=C3 ar0 4
def aa9:DS:=(A8 (B3 2 (A1 0)) (A8 (B3 3 (A1 1)) (A8 (W1 (tB2 gtI (A1 2) ⇑0) (aY2 2 3 (A0 (A5 S8 (A1 3) (A1 2)) (A0 (A1 2) A3)))) (A9 (F0 (A0 (A5 n8 (A1 0) (A1 3)) (A0 (A5 n8 (A1 1) (A1 3)) A3)))))))
def V3:List D->Option D:=C3 aa9 4
def aq6:DS:=(A9 (A2 V3 (A0 (A5 Q3 (dIx (A7 0) ⇑0) (dIx (A7 1) ⇑0)) (A0 (A5 Q3 (dIx (A7 0) ⇑1) (dIx (A7 1) ⇑1)) A3))))
def ad8:List D->Option D:=C3 aq6 2
def aq7:DS:=(A8 (B3 2 (A5 V0 ⇑1 (A2 A6 (A0 (A1 0) (A0 (A1 1) (A0 ⇑12 A3)))))) (A8 (B3 3 (A2 V3 (A0 (A2 A6 (A0 (A1 0) (A0 (A5 V0 (A1 1) ⇑1) (A0 (A5 V0 (A1 2) ⇑1) A3)))) (A0 (A1 2) A3)))) (A9 (dIx (qN (A0 (A1 3) (A0 (A1 3) (A0 (A1 3) (A0 (F0 (A0 ⇑0 (A0 ⇑1 A3))) (A0 (F0 (A0 ⇑1 (A0 ⇑1 A3))) A3)))))) (A2 A6 (A0 (A1 0) (A0 (A5 V0 (A1 1) ⇑2) (A0 ⇑5 A3))))))))
def G9:List D->Option D:=C3 aq7 4
def aC7:DS:=(A8 (B3 2 (A2 G9 (A0 (A1 0) (A0 (A1 1) A3)))) (A9 (A5 V0 (F0 (A0 (A1 2) A3)) (J3 (qN (C4 1 [2,0,1] (F6 ⇑3) (B6 0) C9 (A2 ad8 (A0 (A1 1) (A0 (A2 G9 (A0 (A1 2) (A0 (A5 V0 (A5 V0 (A1 3) ⇑3) (A5 Q3 ⇑3 (A1 0))) A3))) A3)))))))))
def V2:List D->Option D:=C3 aC7 3
def aw5:DS:=(A9 (L3 (P0 "int" (A1 0)) (aa1 (P0 "bool" (A1 0)))))
def W9:List D->Option D:=C3 aw5 1
def ab0:DS:=(A8 (sIf (L5 (F7 (G1 (P0 "tuple" (A1 0)))) (L5 (tB2 neD (N6 (A7 0)) ⇑2) (L5 (F7 (G1 (A2 W9 (A0 (dIx (A7 0) ⇑0) A3)))) (F7 (G1 (A2 W9 (A0 (dIx (A7 0) ⇑1) A3))))))) (A9 (dC (.bool false))) C7) (A9 (L3 (A5 gtI (dIx (A7 0) ⇑1) ⇑0) (L3 (J9 leI leI ⇑0 (dIx (A7 0) ⇑0) (dIx (A7 0) ⇑1)) (A5 eqD (A2 V3 (A0 (dIx (A7 0) ⇑0) (A0 (dIx (A7 0) ⇑1) A3))) (A1 0))))))
def aw6:List D->Option D:=C3 ab0 1
def aJ3:DS:=(A9 (L3 (P0 "int" (A1 0)) (aa1 (P0 "bool" (A1 0)))))
def K6:List D->Option D:=C3 aJ3 1
def al8:DS:=(A8 (sIf (L5 (F7 (G1 (P0 "tuple" (A1 0)))) (tB2 neD (N6 (A7 0)) ⇑2)) (A9 (dC (.bool false))) C7) (A8 (B3 1 (dIx (A7 0) ⇑0)) (A8 (B3 2 (dIx (A7 0) ⇑1)) (A8 (sIf (L5 (F7 (G1 (A2 K6 (A0 (A1 1) A3)))) (F7 (G1 (A2 K6 (A0 (A1 2) A3))))) (A9 (dC (.bool false))) C7) (A9 (L3 (A5 gtI (A1 2) ⇑0) (L3 (J9 leI leI ⇑0 (A1 1) (A1 2)) (A5 eqD (A2 K2 (A0 (A1 1) (A0 (A1 2) A3))) ⇑1))))))))
def P4:List D->Option D:=C3 al8 3
def ar1:DS:=(A8 (sIf (L5 (F7 (G1 (P0 "tuple" (A1 0)))) (tB2 neD (N6 (A7 0)) ⇑4)) (A9 (dC (.bool false))) C7) (A8 (sIf (F7 (G1 (X4 (qN (C4 1 [] (G6 (A1 0)) (B6 0) C9 (A2 P4 (A0 (A1 0) A3))))))) (A9 (dC (.bool false))) C7) (A9 (X4 (qN (C4 1 [0] (G6 (X3 (A1 0) (E8 ⇑1) K8)) (B6 0) C9 (A2 R6 (A0 (A1 0) (A0 (dIx (A7 1) ⇑0) A3)))))))))
def i8:List D->Option D:=C3 ar1 1
def aV6:DS:=(A8 (B3 2 (dIx (A7 1) ⇑0)) (A8 (B3 3 (dIx (A7 1) ⇑1)) (A8 (B3 4 (dIx (A7 1) ⇑2)) (A8 (B3 5 (dIx (A7 1) ⇑3)) (A8 (sIf (tB2 eqD (A1 0) (dC (.str "turn"))) (A9 (F0 (A0 (A1 2) (A0 (A2 P3 (A0 (A1 2) (A0 (A1 3) A3))) (A0 (A2 P3 (A0 (A1 2) (A0 (A1 4) A3))) (A0 (A2 P3 (A0 (A1 2) (A0 (A1 5) A3))) A3)))))) C7) (A8 (sIf (tB2 eqD (A1 0) (dC (.str "grey"))) (A8 (B3 6 (A2 N3 (A0 (A2 O9 (A0 (A2 O9 (A0 (A1 3) (A0 (A1 4) A3))) (A0 (A1 5) A3))) (A0 (dC (.tuple [(.int 1),(.int 3)])) A3)))) (A9 (F0 (A0 (A1 2) (A0 (A1 6) (A0 (A1 6) (A0 (A1 6) A3))))))) C7) (A9 (F0 (A0 (A1 2) (A0 (A1 4) (A0 (A1 5) (A0 (A1 3) A3))))))))))))
def aW0:List D->Option D:=C3 aV6 7
def bv3:DS:=(A9 (A2 O9 (A0 (A2 N3 (A0 (A1 0) (A0 (A1 1) A3))) (A0 (A2 N3 (A0 (A2 g7 (A0 (A1 0) A3)) (A0 (A1 2) A3))) A3))))
def bv6:List D->Option D:=C3 bv3 3
def bv2:DS:=(A9 (J3 (qN (C4 2 [2] (w9 (qE (A2 aW0 (A0 (A1 0) (A0 (A1 1) A3)))) (qE (A1 1))) (M7 2 (E1 (B6 0) (E1 (B6 1) O0))) C9 (A2 bv6 (A0 (A1 2) (A0 (A1 0) (A0 (A1 1) A3))))))))
def bv5:List D->Option D:=C3 bv2 3
end Sh
namespace G
open PySem PySem.Spec PyProof.Rows L2
section
variable {prog:Program}{w:World}{A:Around}{E:Value->Shared->Prop}{s:Shared}
theorem aI7(n:Nat):Builtin.Slice.sliceAdjust none none (-1) (n:Int)=((n:Int) - 1,-1):=by
 unfold Builtin.Slice.sliceAdjust
 have h1:(-1:Int) < 0:=by omega
 simp only[h1,if_true]
theorem aF6(n:Nat):Builtin.Slice.slicePlaces ((n:Int) - 1) (-1) (-1)=n:=by
 unfold Builtin.Slice.slicePlaces
 have h1:¬(-1:Int) > 0:=by omega
 have h2:-(-1:Int)=1:=by omega
 simp only[h1,if_false,h2,Int.ediv_one]
 split<;>omega
theorem ab6{sl:Addr}{t:Tok}{n:Nat}{Q:Int×Int×Nat->Shared->Prop}(hs:s.heap.IsSliceOf sl .none .none (.int (-1) t))
  (h:Q ((n:Int) - 1,-1,n) s):wpAny (model prog w) A (Builtin.Slice.sliceApplied (.ref sl) (pure (n:Int))) Q E s:=by
 obtain⟨os,hos,hcs,hds⟩:=id hs
 unfold Builtin.Slice.sliceApplied Builtin.Slice.sliceFields
 refine wpAny_bind (wpAny_bind (wpAny_field hos hds (x:=.none) rfl (wpAny_bind (wpAny_field hos hds (x:=.none) rfl (wpAny_bind (wpAny_field hos hds (x:=.int (-1) t) rfl (wpAny_pure ?_)))))))
 refine wpAny_bind (slicePart_int ?_)
 show wpAny _ _ (if((-1:Int)==0)=true then _ else _) _ _ s
 rw[if_neg (by decide)]
 refine wpAny_bind (slicePart_none (wpAny_bind (slicePart_none (wpAny_bind (wpAny_pure ?_)))))
 show wpAny _ _ (match Builtin.Slice.sliceAdjust none none (-1) (n:Int) with|(lo,hi)=>pure (lo,(-1:Int),Builtin.Slice.slicePlaces lo hi (-1))) _ _ s
 rw[aI7 n]
 show wpAny _ _ (pure ((n:Int) - 1,(-1:Int),Builtin.Slice.slicePlaces ((n:Int) - 1) (-1) (-1))) _ _ s
 rw[aF6]
 exact wpAny_pure h
theorem ay1{α:Type}:∀l:List α,(List.range l.length).filterMap (fun k=>l[k]?)=l
 | []=>rfl
 | a::l=>by
  rw[List.length_cons,List.range_succ_eq_map,List.filterMap_cons,List.filterMap_map]
  simp only[xg0]
  congr 1
  exact ay1 l
theorem aA4{α β:Type}{f g:α->Option β}:∀{l:List α},(∀x∈l,f x=g x)->l.filterMap f=l.filterMap g
 | [],_=>rfl
 | a::l,h=>by rw[List.filterMap_cons,List.filterMap_cons,h a (List.mem_cons_self ..),aA4 fun x hx=>h x (xmm _ hx)]
theorem aZ5(xs:Array Value):((List.range xs.size).filterMap fun(k:Nat)=>xs[(((xs.size:Int) - 1)+(k:Int) * -1).toNat]?).toArray=xs.toList.reverse.toArray:=by
 congr 1
 have e:∀k∈List.range xs.size,xs[(((xs.size:Int) - 1)+(k:Int) * -1).toNat]? = xs.toList.reverse[k]?:=by
  intro k hk
  have hk:=List.mem_range.mp hk
  have:(((xs.size:Int) - 1)+(k:Int) * -1).toNat=xs.size - 1 - k:=by omega
  rw[this,List.getElem?_reverse (by rw[Array.length_toList];exact hk),Array.length_toList,Array.getElem?_toList]
 rw[aA4 e]
 have:=ay1 xs.toList.reverse
 rw[List.length_reverse,Array.length_toList]at this
 exact this
theorem x0{t sl:Addr}{items:Array Value}{k:Tok}{Q:Value->Shared->Prop}(ht:IsTup s.heap t items) (hs:s.heap.IsSliceOf sl .none .none (.int (-1) k))
  (h:Q (.ref s.heap.objs.size) { s with heap:=s.heap.push { cls:=.type "tuple", data:=.seq items.toList.reverse.toArray } })
  (hsz:items.size<=sizeLine):wpAny (model prog w) A (getItem (.ref t) (.ref sl)) Q E s:=by
 have htake:sizeOk (.seq items.toList.reverse.toArray):=by
  show items.toList.reverse.toArray.size<=sizeLine
  rw[List.size_toArray,List.length_reverse,Array.length_toList]
  omega
 obtain⟨os,hos,hcs,hds⟩:=id hs
 have hTs:s.TypeIs (.ref sl) "slice" := ⟨os,hos,hcs⟩
 unfold getItem
 try with_reducible refine wpAny_holding ?_
 first|refine wpAny_bind (wpAny_pure ?_)|skip
 refine wpAny_bind (wpAny_sequenceKey ht.typeIs (by decide) ?_)
 refine wpAny_bind (wpAny_callSpecial?_slot (name:=Str.ofString "__getitem__") ht.typeIs PyProof.Rows.slot_tuple_getitem
  (wpAny_call_entry PyProof.Rows.slot_tuple_getitem ht.typeIs entry_tuple_getitem ?_ (args_tuple_getitem _ _)))
 show wpAny _ _ (Builtin.Tuple.tupleItemsOf (.ref t) >>= _) _ _ s
 refine wpAny_bind (tupleItemsOf_ ht ?_)
 refine wpAny_bind (wpAny_typeOf hTs ?_)
 rw[if_pos (by decide)]
 refine wpAny_bind (ab6 hs ?_)
 have hno:¬((((items.size:Int) - 1)==0&&(-1:Int)==1&&items.size==items.size)=true):=by
  have:((-1:Int)==1)=false:=rfl
  rw[this];simp
 show wpAny _ _ (if(((items.size:Int) - 1)==0&&(-1:Int)==1&&items.size==items.size)=true then _ else _) _ _ s
 rw[if_neg hno,aZ5]
 first
  | exact wpAny_bind (m:=Builtin.Tuple.tupleExact _) (wpAny_newObj_type (wpAny_pure ⟨_,rfl,wpAny_pure h⟩) htake)
  | exact wpAny_bind (m:=Builtin.Tuple.tupleExact _) (wpAny_newObj_type (wpAny_bind (wpAny_pure (wpAny_pure ⟨_,rfl,wpAny_pure h⟩))) htake)
  | exact wpAny_bind (wpAny_bind (m:=Builtin.Tuple.tupleExact _) (wpAny_newObj_type (wpAny_pure (wpAny_pure ⟨_,rfl,wpAny_pure h⟩)) htake))
  | exact wpAny_bind (wpAny_bind (m:=Builtin.Tuple.tupleExact _) (wpAny_newObj_type (wpAny_pure ⟨_,rfl,wpAny_pure h⟩) htake))
end
section
variable {X:Cx}{e st:Expr}{te ts:TE}{p2 pos:Pos}
theorem aw9:∀{xs:List V}{us:List Value},D2 xs us->D2 xs.reverse us.reverse
 | [],[],h=>h
 | x::xs,u::us,h=>by
  cases h with
  | cons a b=>rw[List.reverse_cons,List.reverse_cons];exact(aw9 b).append (.cons a .nil)
theorem bD0(he:PE X e te) (hs:PE X st ts):PE X (.Subscript e (.Slice none none (some st) p2) pos)
  (fun σ H Q=>te σ H fun x H1=>ts σ H1 fun y H2=>∃a xs,x=.ref a/\y=.int (-1)/\SqT X.K H2 a xs/\∀p,H2 p=none->Q (.ref p) (upd H2 p (.tup xs.reverse))):=by
 intro pins s σ H Q I h
 refine Subscript_ (thn (he pins s σ H _ I h) fun v s1 ⟨x,H1,I1,r1,q1⟩=>?_)
 refine wpAny_Slice ?_
 rw[evalPart_none]
 refine wpAny_pure (wpAny_pure ?_)
 rw[evalPart_some]
 refine thn (hs pins s1 σ H1 _ I1 q1) fun vs s3 ⟨y,H3,I3,r3,a,xs,e1,e2,hx,q⟩=>?_
 subst e1 e2
 cases r1
 obtain⟨tk,rfl⟩:=r3
 have I4:Inv X pins σ H3 { s3 with heap:=s3.heap.push { cls:=.type "slice", data:=.fields #[.none,.none,.int (-1) tk] } }:=I3.kept (t':=s3.toks) fun b ob q=>Heap.get?_push_of_some _ q
 obtain⟨its,r,ht,hz⟩:=I4.tuple hx
 have hlen:its.toArray.size=xs.length:=by rw[List.size_toArray];exact r.length.symm
 show wpAny (model X.prog X.w) X.A (subscriptTail e (.Slice none none (some st) p2) (.ref a) (.ref s3.heap.objs.size)) (EP X pins σ Q) X.xe { s3 with heap:=s3.heap.push { cls:=.type "slice", data:=.fields #[.none,.none,.int (-1) tk] } }
 refine tail_any (ops:=[.ref a,.ref s3.heap.objs.size]) ht.typeIs PyProof.Rows.slot_tuple_getitem.lookup ?_ (by with_unfolding_all rfl)
 refine x0 ht (Heap.IsSliceOf.new ..) ?_ (by rw[hlen];exact hz)
 refine⟨.ref _,_,I4.laid (t':=s3.toks) (o:=.tup xs.reverse) (fun b ob q=>Heap.get?_push_of_some _ q) (Nat.le_refl _) ?_,rfl,q _ (I4.hok.fresh (Nat.le_refl _))⟩
 exact⟨by rw[List.length_reverse];exact hz,_,aw9 r,al0.new _ _⟩
theorem aY6{K:PySem.W.Frag}{H:Hp}{ds:List D}{vs:List V}(h:Reps K H ds vs):Reps K H ds.reverse vs.reverse:=by
 induction ds generalizing vs with
 | nil=>cases vs with
  | nil=>exact h
  | cons _ _=>exact absurd h.length (by simp)
 | cons d ds ih=>cases vs with
  | nil=>exact absurd h.length (by simp)
  | cons v vs =>
   obtain⟨v',r',e,h1,h2⟩:=h
   cases e
   rw[List.reverse_cons,List.reverse_cons]
   exact(ih h2).append ⟨_,_,rfl,h1,rfl⟩
theorem bs7{a st:Expr}{f:DE}{pos p2:Pos}(ha:JE X a f) (hs:JE X st (aT7 ⇑1)):JE X (.Subscript a (.Slice none none (some st) p2) pos) (by1 f):=fun ρ d q=>by
 obtain⟨x,e1,q⟩:=xbo q
 cases x with
 | tuple xs =>
  cases q
  refine C0 (bD0 (ha ρ _ e1) (hs ρ (.int (-1)) rfl)) fun σ H Q ⟨H0,Hf,s,sl,k⟩=>?_
  refine⟨H0,Hf,s,sl,fun v H1 Hf1 g1 ⟨p,vs,q1,q2,q3⟩=>⟨H0,Hf1,g1.sub,sl.grow g1,fun u H2 Hf2 g2 r2=>?_⟩⟩
  subst q1
  cases r2
  have q2':=C8 g2.ext q2
  have q3':=q3.mono g2.ext
  refine⟨p,vs,rfl,rfl,C8 g2.sub q2',fun p' hp=>?_⟩
  exact k _ _ _ ((g1.trans g2).trans (Grow.laid g2.sub hp)) ⟨p',_,rfl,SqT.of B7,(aY6 q3').mono (D8 (g2.sub.free hp))⟩
 | _=>cases q
end
end G
namespace Sh
open PySem PySem.Spec PyProof.Rows L2 G
def al2:DS:=(A9 (J3 (qN (C4 1 [1] (G6 (A1 0)) (B6 0) C9 (A2 N3 (A0 (A1 0) (A0 (A1 1) A3)))))))
def p9:List D->Option D:=C3 al2 2
end Sh
namespace G
open PySem PySem.Spec PyProof.Rows L2
section
variable {X:Cx}
def atS(x:Str) (i:Int):Option D:=if x.length<=16777216 then(atI x.cps.toList i).map fun c=>.str ⟨#[c]⟩ else none
def o6(f g:DE):DE:=fun ρ=>(f ρ).bind fun x=>(g ρ).bind fun i=>match x,i with
 | .str x,.int i=>atS x i
 | _,_=>none
theorem bJ9{a b:Expr}{f g:DE}{pos:Pos}(ha:JE X a f) (hb:JE X b g) (hs:ah8 b:=by intro _ _;rfl):JE X (.Subscript a b pos) (o6 f g):=fun ρ d q=>by
 obtain⟨x,h1,q⟩:=xbo q
 obtain⟨y,h2,h3⟩:=xbo q
 split at h3
 ·rename_i x i
  unfold atS at h3
  split at h3
  ·rename_i hz
   obtain⟨c,e1,e2⟩:=xmo h3
   subst e2
   refine C0 (bx1 bf3 (ha ρ _ h1) (hb ρ _ h2) hs) fun σ H Q ⟨H0,Hf,s,sl,k⟩=>?_
   refine⟨H0,Hf,s,sl,fun v H1 Hf1 g1 r1=>⟨H0,Hf1,g1.sub,sl.grow g1,fun u H2 Hf2 g2 r2=>?_⟩⟩
   exact .inr (.inr ⟨x,i,c,r1,r2,by rw[sizeLine_eq];exact hz,e1,k _ H2 Hf2 (g1.trans g2) rfl⟩)
  ·cases h3
 ·cases h3
def ag4(f:DE) (lo hi:Rho->Option (Option Int)):DE:=fun ρ=>(f ρ).bind fun d=>(lo ρ).bind fun l=>(hi ρ).bind fun h=>match d with
 | .tuple xs=>some (.tuple (U0 xs l h))
 | .list xs=>some (.list (U0 xs l h))
 | _=>none
theorem bJ6{a:Expr}{lo hi:Option Expr}{f:DE}{l h:Rho->Option (Option Int)}{pos p2:Pos}(ha:JE X a f) (hl:JO X lo l) (hh:JO X hi h):JE X (.Subscript a (.Slice lo hi none p2) pos) (ag4 f l h):=fun ρ d q=>by
 obtain⟨x,e1,q⟩:=xbo q
 obtain⟨y,e2,q⟩:=xbo q
 obtain⟨z,e3,q⟩:=xbo q
 cases x with
 | tuple xs =>
  cases q
  refine be3 ha hl hh ρ _ ?_
  unfold X3
  rw[e1,xbs,e2,xbs,e3,xbs]
 | list xs =>
  cases q
  refine C0 (u9 aK2 (ha ρ _ e1) (hl ρ y e2) (hh ρ z e3)) fun σ H Q ⟨H0,Hf,s,sl,k⟩=>?_
  refine⟨H0,Hf,s,sl,fun v H1 Hf1 g1 ⟨p,vs,q1,q2,q3⟩=>⟨H0,Hf1,g1.sub,sl.grow g1,fun H2 Hf2 g2=>⟨H0,Hf2,g2.sub,sl.grow (g1.trans g2),fun H3 Hf3 g3=>?_⟩⟩⟩
  subst q1
  have q2':=E7 (g2.trans g3).ext q2
  have q3':=q3.mono (g2.trans g3).ext
  refine⟨p,vs,rfl,E7 g3.sub q2',fun p' hp=>?_⟩
  exact k _ _ _ (((g1.trans g2).trans g3).trans (Grow.laid g3.sub hp)) ⟨p',_,rfl,SqL.of B7,(ai7 q3' y z).mono (D8 (g3.sub.free hp))⟩
 | _=>cases q
end
section
variable {X:Cx}
theorem t8:∀{ys:List Str}{us:List Value},D2 (ys.map V.str) us->∃l:List (Str×Tok),us=strValues l/\l.map (·.1)=ys
 | [],[],_=>⟨[],rfl,rfl⟩
 | y::ys,u::us,h=>by
  cases h with
  | cons a b =>
   obtain⟨t,rfl⟩:=a
   obtain⟨l,rfl,rfl⟩:=t8 b
   exact⟨(y,t)::l,rfl,rfl⟩
def v6(sep:Str) (ys:List Str):Nat:=ys.toArray.foldl (fun n y=>n+y.length+sep.length) 0
def bQ1(K:PySem.W.Frag):V->List V->Hp->VK->Prop:=fun x vs H Q=>∃sep p ys,x=.str sep/\vs=[.ref p]/\SqL K H p (ys.map V.str)/\v6 sep ys<=sizeLine/\(Builtin.Str.glued sep ys).length<=sizeLine/\Q (.str (Builtin.Str.glued sep ys)) H
theorem bq0:MtR X "str.join" (bQ1 X.K):=by
 intro pins s σ H x vs v us Q I rx rv h
 obtain⟨sep,p,ys,rfl,rfl,hq,hz,hg,q⟩:=h
 obtain⟨t,rfl⟩:=rx
 obtain⟨u,rfl,ru⟩:=rv.one
 cases ru
 obtain⟨its,r,pl,_⟩:=I.list hq
 obtain⟨l,rfl,rfl⟩:=t8 r
 refine call_meets F.slot_str_join (typeIs_str s sep t) F.entry_str_join (F.args_str_join_2 _ _) (meets_str_join_list sep t p l ?_) ⟨pl.isList,?_⟩
 ·show decide (v6 sep (l.map (·.1)) > sizeLine)=false
  exact decide_eq_false (by omega)
 ·match l,q,hg with
  | [],q,hg=>exact⟨hg,.str _,H,I.tok _,⟨_,rfl⟩,q⟩
  | [a],q,_=>exact⟨.str _,H,I,⟨_,rfl⟩,q⟩
  | a::b::r,q,hg=>exact⟨hg,.str _,H,I.tok _,⟨_,rfl⟩,q⟩
def ai2:List D->Option (List Str)
 | []=>some []
 | .str x::r=>(ai2 r).map fun ys=>x::ys
 | _::_=>none
theorem ac0{K:PySem.W.Frag}{H:Hp}:∀{ds:List D}{ys:List Str}{vs:List V},ai2 ds=some ys->Reps K H ds vs->vs=ys.map V.str
 | [],ys,vs,h,r=>by cases h;exact r
 | .str x::ds,ys,vs,h,r=>by
  obtain⟨zs,e1,e2⟩:=xmo h
  subst e2
  obtain⟨v,r',e,h1,h2⟩:=r
  subst e
  rw[ac0 e1 h2]
  cases h1
  rfl
def ak4(f:DE) (g:Rho->Option (Bool×List D)):DE:=fun ρ=>(f ρ).bind fun s=>(g ρ).bind fun q=>match s with
 | .str sep=>if q.1=true then none else(ai2 q.2).bind fun ys=>if v6 sep ys<=16777216/\(Builtin.Str.glued sep ys).length<=16777216 then some (.str (Builtin.Str.glued sep ys)) else none
 | _=>none
theorem bs9{o e:Expr}{f:DE}{g:Rho->Option (Bool×List D)}{apos cpos:Pos}(ho:JE X o f) (h:JQ X e g)
  (hbase:attributeBase o "join" X.env (eval o X.env)=eval o X.env:=by rfl)
  (hfew:((backTo cpos (starEach [e] X.env)).all (fun x=>!x.1)&&(backToKw cpos (keywordEach [] X.env)).all (fun x=>x.1.isSome)
   && decide (([e]:List Expr).length+([]:List Keyword).length+(if([]:List Keyword).isEmpty then 0 else 1) < 30))=true:=by rfl)
  (hline:(apos.endLine==cpos.line)=true:=by rfl) (hs:starEach [e] X.env=[(false,eval e X.env)]:=by rfl) :
  JE X (.Call (.Attribute o "join" apos) [e] [] cpos) (ak4 f g):=fun ρ d q=>by
 obtain⟨s,e1,q⟩:=xbo q
 obtain⟨⟨t,ds⟩,e2,q⟩:=xbo q
 cases s with
 | str sep =>
  cases t with
  | true=>simp at q
  | false =>
   simp only[xft,if_false]at q
   obtain⟨ys,e3,q⟩:=xbo q
   split at q
   ·rename_i hz
    cases q
    refine C0 (aK9 F.plainAttrs_str F.slot_str_join F.type_str_join bq0 (ho ρ _ e1) (G0 (h ρ false ds e2) L0 hs) hbase hfew hline hs) fun σ H Q ⟨H0,Hf,s,sl,k⟩=>?_
    refine⟨H0,Hf,s,sl,fun v H1 Hf1 g1 r1=>?_⟩
    cases r1
    refine⟨rfl,H0,Hf1,g1.sub,sl.grow g1,fun w H2 Hf2 g2 ⟨p,vs,z1,z2,z3⟩=>?_⟩
    subst z1
    rw[ac0 e3 z3]at z2
    exact⟨sep,p,ys,rfl,rfl,z2,by rw[sizeLine_eq];exact hz.1,by rw[sizeLine_eq];exact hz.2,k _ H2 Hf2 (g1.trans g2) rfl⟩
   ·cases q
 | _=>cases q
end
section
open PySem.SeqAt PySem.MeetsSeq PySem.MeetsSeq2 PySem.MeetsSeq3 PySem.SeqRoads2
open PySem.AutoSeq1 (wpAny_loadPart')
theorem ai1(l:Addr) (items:Array Value) (n:Nat) (dd:Option Addr) (sl:Array (Option Value)) (x:Value) (e:Nat->Bool) :
  Meets (Builtin.«tuple.__contains__» ⟨[.ref l,x],[]⟩)
   (fun A R s=>s.heap.get? l=some { cls:=.type "tuple", dict:=dd,data:=.seq items n,slots:=sl }/\(∀j (h:j < items.size),EqAt A.in1 s items[j] x (e j))/\R (.ok (.ret (.bool ((List.range items.size).any e)))) s) :=
 .of_wp fun prog w A R s h=>by
  obtain⟨hp,g,d,tk,os⟩:=s;obtain⟨hl,he,h⟩:=h
  wp_walk using wpAny_loadPart' hl,wpAny_forIn_array _ (fun M1 b s'=>b.1=none/\s'=⟨hp,g,d,tk,os⟩/\∃i,M1=items.toList.drop i/\R (.ok (.ret (.bool (((List.range items.size).drop i).any e)))) ⟨hp,g,d,tk,os⟩) _
  case turn =>
   rintro y M1 b s' ⟨hb,rfl,i,hz,hR⟩
   have hlt:i < items.toList.length:=by
    rcases Nat.lt_or_ge i items.toList.length with h'|h'
    ·exact h'
    ·rw[List.drop_of_length_le h']at hz;cases hz
   have hi:i < items.size:=by simpa using hlt
   rw[List.drop_eq_getElem_cons hlt]at hz
   injection hz with hy hrest
   have hy:y=items[i]:=by simpa using hy
   subst hy
   have hd:(List.range items.size).drop i=i::(List.range items.size).drop (i+1):=by simp[List.drop_eq_getElem_cons,hi]
   rw[hd,List.any_cons]at hR
   refine wpAny_bind (he i hi prog w _ _ ?_)
   cases hy:e i with
   | true =>
    rw[hy]at hR
    wp_walk
    exact⟨_,rfl,by simpa using hR⟩
   | false =>
    rw[hy]at hR
    wp_walk
    exact⟨rfl,rfl,i+1,hrest,by simpa using hR⟩
  case fin =>
   rintro⟨b1,b2⟩ s' ⟨hb,rfl,i,hz,hR⟩
   simp only at hb
   subst hb
   have hge:items.size<=i:=by
    rcases Nat.lt_or_ge i items.toList.length with h'|h'
    ·rw[List.drop_eq_getElem_cons h']at hz;cases hz
    ·simpa using h'
   rw[List.drop_of_length_le (by simpa using hge)]at hR
   wp_walk
   exact⟨_,rfl,by simpa using hR⟩
  case h =>exact⟨rfl,rfl,0,by simp,by simpa using h⟩
end
section
variable {X:Cx}
def S2:D->Bool
 | .none=>true
 | .bool _=>true
 | .int _=>true
 | .str _=>true
 | _=>false
def toV:D->V
 | .none=>.non
 | .bool b=>.bl b
 | .int i=>.int i
 | .str x=>.str x
 | _=>.non
theorem U3{K:PySem.W.Frag}{H:Hp}{d:D}{v:V}(f:S2 d=true) (r:Rep K H d v):v=toV d/\k7 v=true:=by
 cases d with
 | none=>cases r;exact⟨rfl,rfl⟩
 | bool b=>cases r;exact⟨rfl,rfl⟩
 | int i=>cases r;exact⟨rfl,rfl⟩
 | str x=>cases r;exact⟨rfl,rfl⟩
 | tuple _=>cases f
 | list _=>cases f
 | dict _=>cases f
theorem ac1{K:PySem.W.Frag}{H:Hp}:∀{ds:List D}{vs:List V},ds.all S2=true->Reps K H ds vs->vs=ds.map toV/\vs.all k7=true
 | [],vs,_,r=>by cases(show vs=[] from r);exact⟨rfl,rfl⟩
 | d::ds,vs,f,r=>by
  rw[List.all_cons,Bool.and_eq_true]at f
  obtain⟨v,r',e,h1,h2⟩:=r
  subst e
  obtain⟨e1,e2⟩:=U3 f.1 h1
  obtain⟨e3,e4⟩:=ac1 f.2 h2
  subst e1 e3
  exact⟨rfl,by rw[List.all_cons,e2,e4];rfl⟩
def isS:D->Bool
 | .str _=>true
 | _=>false
def inD(neg:Bool) (x y:D):Option D:=match y with
 | .list ds=>if S2 x=true/\ds.all S2=true then some (.bool (if neg then !inV (toV x) (ds.map toV) else inV (toV x) (ds.map toV))) else none
 | .tuple ds=>if S2 x=true/\ds.all S2=true then some (.bool (if neg then !inV (toV x) (ds.map toV) else inV (toV x) (ds.map toV))) else if S2 x=false/\SeqAt.shaped x=true/\ds.all isS=true then some (.bool neg) else if SeqAt.shaped x=true/\x.depth<=60/\ds.all SeqAt.shaped=true then some (.bool (if neg then !(ds.any fun y=>PyData.eqv y x) else ds.any fun y=>PyData.eqv y x)) else none
 | _=>none
theorem bu0{A:Around}{s:Shared}{x:D}{v:Value}{as:List Addr}(f:S2 x=false) (sh:SeqAt.shaped x=true) (r:Reads s.heap v x as) (hu:A.units < cLine) (a:Str) (t:Tok):SeqAt.EqAt A s (.str a t) v false:=by
 cases r with
 | none=>cases f
 | bool _=>cases f
 | int _ _=>cases f
 | str _ _=>cases f
 | list h1 h2 h3 _=>exact SeqAt.EqAt.str_list a t ⟨_,h1,h2,_,h3⟩ hu
 | tuple h1 h2 h3 _=>exact SeqAt.EqAt.str_tuple a t ⟨_,h1,h2,_,h3⟩ hu
 | dict _ _ _ _ _=>exact absurd (SeqAt.canLay_of_shaped sh) (by simp[PyData.canLay0])
theorem aA5{K:PySem.W.Frag}{H:Hp}:∀{ds:List D}{vs:List V}{us:List Value},ds.all isS=true->Reps K H ds vs->D2 vs us->∀y∈us,∃a t,y=Value.str a t
 | [],_,_,_,r,w=>by cases(show _=[] from r);cases w;intro y hy;cases hy
 | d::ds,_,_,f,r,w=>by
  rw[List.all_cons,Bool.and_eq_true]at f
  obtain⟨v,r',rfl,h1,h2⟩:=r
  cases w with
  | cons w1 w2 =>
   intro y hy
   rcases List.mem_cons.mp hy with rfl|hy
   ·cases d with
    | str a =>
     cases(show v=.str a from h1)
     obtain⟨t,e⟩:=w1
     exact⟨a,t,e⟩
    | _=>cases f.1
   ·exact aA5 f.2 h2 w2 y hy
theorem bf8{x:D}{ds:List D}{vx vy:V}{v u:Value}{pins:List (Addr×Obj)}{s:Shared}{σ:L2.St}{H Hf:Hp}{Q:Value->Shared->Prop}(hu:X.A.units+64 < cLine) (f:S2 x=false) (sh:SeqAt.shaped x=true) (a:ds.all isS=true) (I:L2.Inv X pins σ H s) (rx:E9 vx v) (ry:E9 vy u) (ss:D0 Hf H) (r1:Rep X.K Hf x vx) (r2:Rep X.K Hf (.tuple ds) vy) :
  (Q (.bool false) s->wpAny (model X.prog X.w) X.A (compareOp .In v u) Q X.xe s)/\(Q (.bool true) s->wpAny (model X.prog X.w) X.A (compareOp .NotIn v u) Q X.xe s):=by
 obtain⟨p,vs,rfl,h2,h3⟩:=r2
 obtain rfl:u=Value.ref p:=ry
 obtain⟨its,rv,pl,_⟩:=I.tuple (C8 ss h2)
 obtain⟨as,rd⟩:=Rep.reads I (r1.mono ss) rx
 have st:=aA5 a h3 rv
 have he:∀y,y∈its.toArray->SeqAt.EqAt X.A.in1 s y v ((fun _=>false) y):=fun y hy=>by
  obtain⟨b,t,rfl⟩:=st y (by simpa using hy)
  exact bu0 f sh rd (by show X.A.units+1 < _;omega) b t
 have no:its.toArray.any (fun _=>false)=false:=by simp
 refine⟨fun q=>SeqAt.in_tupleAt (fun _=>false) pl he (by rw[no];exact q),fun q=>SeqAt.notIn_tupleAt (fun _=>false) pl he (by rw[no];exact q)⟩
theorem bQ0{h:Heap}:∀{vs:List Value}{ds:List D}{as:List Addr},ReadsAll h vs ds as->vs.length=ds.length/\∀(j:Nat) (hj:j < vs.length),∃bs,Reads h vs[j] (ds.getD j .none) bs
 | [],_,_,r=>by cases r;exact⟨rfl,fun j hj=>absurd hj (Nat.not_lt_zero _)⟩
 | v::vs,_,_,r=>by
  cases r with
  | cons r1 r2 =>
   obtain⟨h1,h2⟩:=bQ0 r2
   refine⟨by rw[List.length_cons,List.length_cons,h1],fun j hj=>?_⟩
   cases j with
   | zero=>exact⟨_,r1⟩
   | succ j=>exact h2 j (by simpa using hj)
theorem aU3{α:Type}(p:α->Bool) (z:α) (l:List α):(List.range l.length).any (fun j=>p (l.getD j z))=l.any p:=by
 rw[Bool.eq_iff_iff,List.any_eq_true,List.any_eq_true]
 constructor
 ·rintro⟨j,hj,h⟩
  have hj:=List.mem_range.mp hj
  exact⟨l[j],List.getElem_mem hj,by simpa [hj] using h⟩
 ·rintro⟨x,hx,h⟩
  obtain⟨j,hj,rfl⟩:=List.getElem_of_mem hx
  exact⟨j,List.mem_range.mpr hj,by simpa [hj] using h⟩
theorem bl3{x:D}{ds:List D}{vx:V}{v:Value}{pins:List (Addr×Obj)}{s:Shared}{σ:L2.St}{H Hf:Hp}{p:Addr}{vs:List V}(hu:X.A.units+64 < cLine) (sx:SeqAt.shaped x=true) (dx:x.depth<=60) (sd:ds.all SeqAt.shaped=true) (I:L2.Inv X pins σ H s) (rx:E9 vx v) (ss:D0 Hf H) (r1:Rep X.K Hf x vx) (h2:SqT X.K Hf p vs) (h3:Reps X.K Hf ds vs) :
  ∃its:List Value,IsTup s.heap p its.toArray/\its.length=ds.length/\∀j (h:j < its.toArray.size),SeqAt.EqAt X.A.in1 s its.toArray[j] v (PyData.eqv (ds.getD j .none) x):=by
 obtain⟨its,rv,pl,_⟩:=I.tuple (C8 ss h2)
 obtain⟨as,rd⟩:=Rep.reads I (r1.mono ss) rx
 obtain⟨bs,ra⟩:=Reps.reads I (h3.mono ss) rv
 obtain⟨e1,e2⟩:=bQ0 ra
 refine⟨its,pl,e1,fun j hj=>?_⟩
 have hj':j < its.length:=by simpa using hj
 obtain⟨cs,q⟩:=e2 j hj'
 have hd:j < ds.length:=by omega
 have sj:=List.all_eq_true.mp sd _ (List.getElem_mem hd)
 have ej:ds.getD j .none=ds[j]:=by simp[hd]
 rw[ej]at q ⊢
 have:=SeqAt.eqAt_reads ds[j] x X.A.in1 s _ _ _ _ q rd (SeqAt.canLay_of_shaped sj) (SeqAt.canLay_of_shaped sx) (by show X.A.units+1+_ < _;have:=Nat.min_le_right ds[j].depth x.depth;omega)
 simpa using this
theorem bf7{x:D}{ds:List D}{vx vy:V}{v u:Value}{pins:List (Addr×Obj)}{s:Shared}{σ:L2.St}{H Hf:Hp}{Q:Value->Shared->Prop}(hu:X.A.units+64 < cLine) (sx:SeqAt.shaped x=true) (dx:x.depth<=60) (sd:ds.all SeqAt.shaped=true) (I:L2.Inv X pins σ H s) (rx:E9 vx v) (ry:E9 vy u) (ss:D0 Hf H) (r1:Rep X.K Hf x vx) (r2:Rep X.K Hf (.tuple ds) vy) :
  (Q (.bool (ds.any fun y=>PyData.eqv y x)) s->wpAny (model X.prog X.w) X.A (compareOp .In v u) Q X.xe s)/\(Q (.bool (!(ds.any fun y=>PyData.eqv y x))) s->wpAny (model X.prog X.w) X.A (compareOp .NotIn v u) Q X.xe s):=by
 obtain⟨p,vs,rfl,h2,h3⟩:=r2
 obtain rfl:u=Value.ref p:=ry
 obtain⟨its,pl,ln,he⟩:=bl3 hu sx dx sd I rx ss r1 h2 h3
 obtain⟨⟨cls,dd,data,sl⟩,ho,hc,n,hd⟩:=id pl
 simp only at hc hd
 subst hc hd
 have ea:(List.range its.toArray.size).any (fun j=>PyData.eqv (ds.getD j .none) x)=ds.any fun y=>PyData.eqv y x:=by
  rw[List.size_toArray,ln]
  exact aU3 (fun y=>PyData.eqv y x) .none ds
 refine⟨fun q=>SeqRoads2.in_meets ⟨_,ho,rfl⟩ F.slot_tuple_contains F.entry_tuple_contains (F.args_tuple_contains_2 _ _) (ai1 p its.toArray n dd sl v _) ⟨ho,he,_,rfl,by rw[ea];exact q⟩,
  fun q=>SeqRoads2.notIn_meets ⟨_,ho,rfl⟩ F.slot_tuple_contains F.entry_tuple_contains (F.args_tuple_contains_2 _ _) (ai1 p its.toArray n dd sl v _) ⟨ho,he,_,rfl,by rw[ea];exact q⟩⟩
theorem bf9{op:CmpOp}{neg:Bool}(o:OpR X (compareOp op) (rIn X.K neg)) (o2:∀x ds,S2 x=false->SeqAt.shaped x=true->ds.all isS=true->OpR X (compareOp op) (fun vx vy H Q=>∃Hf,D0 Hf H/\Rep X.K Hf x vx/\Rep X.K Hf (.tuple ds) vy/\∀v H' Hf',Grow H Hf H' Hf'->Rep X.K Hf' (.bool neg) v->Q v H'))
  (o3:∀x ds,SeqAt.shaped x=true->x.depth<=60->ds.all SeqAt.shaped=true->OpR X (compareOp op) (fun vx vy H Q=>∃Hf,D0 Hf H/\Rep X.K Hf x vx/\Rep X.K Hf (.tuple ds) vy/\∀v H' Hf',Grow H Hf H' Hf'->Rep X.K Hf' (.bool (if neg then !(ds.any fun y=>PyData.eqv y x) else ds.any fun y=>PyData.eqv y x)) v->Q v H')):OpD X (compareOp op) (inD neg):=fun x y z h=>by
 unfold inD at h
 split at h
 ·split at h
  ·rename_i c
   cases h
   refine OpR.imp o fun vx vy H Q ⟨Hf,s,r1,r2,k⟩=>?_
   obtain⟨p,vs,rfl,h2,h3⟩:=r2
   obtain⟨e1,e2⟩:=U3 c.1 r1
   obtain⟨e3,e4⟩:=ac1 c.2 h3
   subst e1 e3
   exact⟨p,_,rfl,.inl (E7 s h2),e2,e4,k _ H Hf (Grow.refl s) rfl⟩
  ·cases h
 ·split at h
  ·rename_i c
   cases h
   refine OpR.imp o fun vx vy H Q ⟨Hf,s,r1,r2,k⟩=>?_
   obtain⟨p,vs,rfl,h2,h3⟩:=r2
   obtain⟨e1,e2⟩:=U3 c.1 r1
   obtain⟨e3,e4⟩:=ac1 c.2 h3
   subst e1 e3
   exact⟨p,_,rfl,.inr (C8 s h2),e2,e4,k _ H Hf (Grow.refl s) rfl⟩
  ·split at h
   ·rename_i c
    cases h
    exact o2 _ _ c.1 c.2.1 c.2.2
   ·split at h
    ·rename_i c
     cases h
     exact o3 _ _ c.1 c.2.1 c.2.2
    ·cases h
 ·cases h
theorem bR8(hu:X.A.units+64 < cLine):OpD X (compareOp .In) (inD false):=bf9 aP9 (fun x ds f sh a pins s σ H vx vy v u Q I rx ry ⟨Hf,ss,r1,r2,k⟩=>(bf8 hu f sh a I rx ry ss r1 r2).1 ⟨.bl false,H,I,rfl,k _ H Hf (Grow.refl ss) rfl⟩)
 fun x ds sx dx sd pins s σ H vx vy v u Q I rx ry ⟨Hf,ss,r1,r2,k⟩=>(bf7 hu sx dx sd I rx ry ss r1 r2).1 ⟨.bl _,H,I,rfl,k _ H Hf (Grow.refl ss) rfl⟩
theorem ba5(hu:X.A.units+64 < cLine):OpD X (compareOp .NotIn) (inD true):=bf9 at3 (fun x ds f sh a pins s σ H vx vy v u Q I rx ry ⟨Hf,ss,r1,r2,k⟩=>(bf8 hu f sh a I rx ry ss r1 r2).2 ⟨.bl true,H,I,rfl,k _ H Hf (Grow.refl ss) rfl⟩)
 fun x ds sx dx sd pins s σ H vx vy v u Q I rx ry ⟨Hf,ss,r1,r2,k⟩=>(bf7 hu sx dx sd I rx ry ss r1 r2).2 ⟨.bl _,H,I,rfl,k _ H Hf (Grow.refl ss) rfl⟩
end
section
variable {X:Cx}
theorem bf1{k:Nat}{f:Addr}{fd:FuncData}{ps:List Str}{F:List D->Option D}{x:Str}{p pos:Pos}(Fk:FnOk X.prog X.w X.K X.mg X.base CX0 k f fd ps (spF X.K 0 F)) (hr:Room k X.A) (hg:Gl X x) (hm:X.mg x=some (.ref f)) (hk:PySem.W.keepIn X.K (.ref f)=true) (hb:K3 X.K fd ps [])
  (hdb:(x==("__debug__" : Str))=false:=by decide):JE X (.Call (.Name x p) [] [] pos) (A2 F A3):=fun ρ d q=>by
 have h2:F []=some d:=q
 refine C0 (aZ8 Fk hr hg hm hk hb .nil ba0 hdb) fun σ H Q ⟨H0,Hf,s,sl,kk⟩=>?_
 exact⟨rfl,Hf,[],d,s,rfl,h2,fun v H2 Hf2 g2 r2=>kk v H2 Hf2 g2 r2⟩
end
def aq5(K:PySem.W.Frag):List D->List Value->Prop
 | [],us=>us=[]
 | d::ds,us=>∃u r,us=u::r/\aC3 K d u/\aq5 K ds r
section
variable {K:PySem.W.Frag}
theorem ap0:aq5 K [] []:=rfl
theorem K4{d:D}{ds:List D}{u:Value}{us:List Value}(h:aC3 K d u) (t:aq5 K ds us):aq5 K (d::ds) (u::us):=⟨u,us,rfl,h,t⟩
theorem ap1:∀{ds:List D}{us:List Value},aq5 K ds us->∃vs,D2 vs us/\∀H:Hp,Reps K H ds vs
 | [],_,h=>by cases h;exact⟨[],.nil,fun _=>rfl⟩
 | d::ds,_,⟨u,r,e,⟨v,h1,h2⟩,h3⟩=>by
  subst e
  obtain⟨vs,q1,q2⟩:=ap1 h3
  exact⟨v::vs,.cons h1 q1,fun H=>⟨v,vs,rfl,h2 H,q2 H⟩⟩
theorem aj7(i:Int) (t:Tok):aC3 K (.int i) (.int i t):=⟨.int i,⟨t,rfl⟩,fun _=>rfl⟩
theorem az7{a:Addr}{o:Obj}{its:Array Value}{n:Nat}{ds:List D}(h:K.lookup a=some o) (hc:o.cls=.type "tuple") (hn:o.dict=none) (hd:o.data=.seq its n) (hz:its.size<=1000) (hi:aq5 K ds its.toList):aC3 K (.tuple ds) (.ref a):=by
 obtain⟨vs,q1,q2⟩:=ap1 hi
 exact⟨.ref a,rfl,fun H=>⟨a,vs,rfl,.inr ⟨o,its,n,h,hc,hn,hd,Nat.le_of_lt (ab5 hz),q1⟩,q2 H⟩⟩
end
theorem az0(l:Addr) (items:Array Value) (n:Nat) (dd:Option Addr) (sl:Array (Option Value)) (u:Tok) :
  Meets (Builtin.«tuple.__mul__» ⟨[.ref l,.int 1 u],[]⟩) (fun _ R s=>s.heap.get? l=some ⟨.type "tuple", dd,.seq items n,sl⟩/\R (.ok (.ret (Value.ref l))) s) :=
 .of_wp fun prog w A R s h=>by
  obtain⟨hp,g,d,tk,os⟩:=s
  obtain⟨hl,h⟩:=h
  wp_walk
  exact⟨_,rfl,h⟩
section
variable {X:Cx}
theorem ba1:OpR X (binaryOp .Mult) (fun x y H Q=>∃l xs,x=.ref l/\y=.int 1/\SqT X.K H l xs/\Q (.ref l) H):=by
 intro pins s σ H x y v u Q I rx ry h
 obtain⟨l,xs,rfl,rfl,hq,q⟩:=h
 cases rx
 obtain⟨t,rfl⟩:=ry
 obtain⟨its,r,p1,_⟩:=I.tuple hq
 obtain⟨⟨cls,dd,data,sl⟩,ho,hc,n,hd⟩:=id p1
 simp only at hc hd
 subst hc hd
 exact wpAny_binaryOp_repeat_ref (T := "tuple") (U := "int") (by decide) ⟨_,ho,rfl⟩ (fun s'=>typeIs_int s' 1 t) ae4 F.fills_int_mul F.slot_int_rmul ao5 F.slot_int_index.lookup
  (call_meets F.slot_int_rmul (typeIs_int s 1 t) F.entry_int_rmul (F.args_int_rmul_2 _ _) (u5 1 t l its.toArray n dd sl) ⟨ho,rfl,⟨_,ho,rfl⟩,
   call_meets F.slot_tuple_mul ⟨_,ho,rfl⟩ F.entry_tuple_mul (F.args_tuple_mul_2 _ _) (az0 l its.toArray n dd sl t) ⟨ho,⟨.ref l,H,I,rfl,q⟩⟩⟩)
theorem as4(a:Int) (t:Tok) (l:Addr) (items:Array Value) (n:Nat) (dd:Option Addr) (sl:Array (Option Value)) :
  Meets (Builtin.«int.__rmul__» ⟨[.int a t,.ref l],[]⟩) (fun _ R s=>s.heap.get? l=some ⟨.type "list", dd,.seq items n,sl⟩/\R (.ok (.ret Value.notImplemented)) s):=Meets.of_wp fun prog w A R s h=>by
 obtain⟨hp,g,d,tk,os⟩:=s
 obtain⟨hl,h⟩:=h
 wp_walk
 exact⟨_,rfl,h⟩
theorem az2(l:Addr) (items:Array Value) (n:Nat) (dd:Option Addr) (sl:Array (Option Value)) (x:Int) (u:Tok) (c0:¬(!Builtin.List.listFitsIndex x)=true) (c1:¬items.size*x.toNat > (2 ^ 63 - 1) / 8) (c2:¬Builtin.List.listTooLong (items.size*x.toNat)=true) :
  Meets (Builtin.«list.__mul__» ⟨[.ref l,.int x u],[]⟩) (fun _ R s=>s.heap.get? l=some ⟨.type "list", dd,.seq items n,sl⟩/\R (.ok (.ret (Value.ref s.heap.objs.size))) { s with heap:=s.heap.push { cls:=Value.type "list", data:=Data.seq (List.foldl (fun x1 x2=>x1++x2) #[] (List.replicate (if items.isEmpty=true then 0 else x.toNat) items)) } }):=Meets.of_wp fun prog w A R s h=>by
 obtain⟨hp,g,d,tk,os⟩:=s
 obtain⟨hl,h⟩:=h
 have hsz:=AutoListH.joined_fits c2
 wp_walk
 refine wpAny_ite_false (decide_eq_false (Nat.not_lt.mpr hsz)) ?_
 wp_walk
 exact⟨_,rfl,h⟩
theorem bo2:OpR X (binaryOp .Mult) (fun x y H Q=>∃l k xs,x=.ref l/\y=.int k/\SqL X.K H l xs/\0<=k/\k < 1000000/\xs.length*k.toNat<=sizeLine/\∀p,H p=none->Q (.ref p) (upd H p (.lst (List.replicate k.toNat xs).flatten))):=by
 intro pins s σ H x y v u Q I rx ry h
 obtain⟨l,k,xs,rfl,rfl,hq,h1,h2,hz,q⟩:=h
 cases rx
 obtain⟨t,rfl⟩:=ry
 obtain⟨its,r,p1,_⟩:=I.list hq
 obtain⟨⟨cls,dd,data,sl⟩,ho,hc,n,hd⟩:=p1.isList
 simp only at hc hd
 subst hc hd
 have hl:=r.length
 have hlen:its.toArray.size*k.toNat<=sizeLine:=by rw[List.size_toArray,← hl];exact hz
 have hcap:¬its.toArray.size*k.toNat > (2 ^ 63 - 1) / 8:=by
  have:(sizeLine:Nat)<=(2 ^ 63 - 1) / 8:=by decide
  omega
 have hfit:¬(!Builtin.List.listFitsIndex k)=true:=by rw[fitsIndex_both (by omega) (by omega)];exact Bool.false_ne_true
 have hlong:¬Builtin.List.listTooLong (its.toArray.size*k.toNat)=true:=by rw[Y8 hlen];exact Bool.false_ne_true
 have hnew:List.foldl (fun x1 x2=>x1++x2) #[] (List.replicate (if its.toArray.isEmpty=true then 0 else k.toNat) its.toArray)=(List.replicate k.toNat its).flatten.toArray:=by
  rw[aF4]
  cases its with
  | nil=>simp
  | cons a r'=>rw[if_neg (by simp)]
 refine wpAny_binaryOp_repeat_ref (T := "list") (U := "int") (by decide) ⟨_,ho,rfl⟩ (fun s'=>typeIs_int s' k t) noFill_list_mul F.fills_int_mul F.slot_int_rmul repeat_list F.slot_int_index.lookup
  (call_meets F.slot_int_rmul (typeIs_int s k t) F.entry_int_rmul (F.args_int_rmul_2 _ _) (as4 k t l its.toArray n dd sl) ⟨ho,rfl,⟨_,ho,rfl⟩,
   call_meets F.slot_list_mul ⟨_,ho,rfl⟩ F.entry_list_mul (F.args_list_mul_2 _ _) (az2 l its.toArray n dd sl k t hfit hcap hlong) ⟨ho,?_⟩⟩)
 rw[hnew]
 exact⟨.ref _,_,I.lnew (t':=s.toks) (r.rep k.toNat) (by rw[at8,Nat.mul_comm];exact hz),rfl,q _ I.fresh⟩
def E6(x y:D):Option D:=match x,y with
 | .tuple xs,.int k=>if k=1 then some (.tuple xs) else Q3 (.tuple xs) (.int k)
 | .list xs,.int k=>if 0<=k/\k < 1000000/\xs.length*k.toNat<=16777216 then some (.list (List.replicate k.toNat xs).flatten) else none
 | x,y=>Q3 x y
theorem aL4:OpD X (binaryOp .Mult) E6:=fun x y z h=>by
 unfold E6 at h
 split at h
 ·split at h
  ·rename_i xs k c
   subst c
   cases h
   refine OpR.imp ba1 fun vx vy H Q ⟨Hf,s,r1,r2,kk⟩=>?_
   obtain⟨a,vs,rfl,h2,h3⟩:=r1
   exact⟨a,vs,rfl,r2,C8 s h2,kk _ _ _ (Grow.refl s) ⟨a,vs,rfl,h2,h3⟩⟩
  ·exact at4 _ _ z h
 ·split at h
  ·rename_i xs k c
   cases h
   refine OpR.imp bo2 fun vx vy H Q ⟨Hf,s,r1,r2,kk⟩=>?_
   obtain⟨a,vs,rfl,h2,h3⟩:=r1
   refine⟨a,k,vs,rfl,r2,E7 s h2,c.1,c.2.1,by rw[h3.length,sizeLine_eq];exact c.2.2,fun p hp=>?_⟩
   exact kk _ _ _ (Grow.laid s hp) ⟨p,_,rfl,SqL.of B7,(h3.flatten k.toNat).mono (D8 (s.free hp))⟩
  ·cases h
 ·exact at4 _ _ z h
theorem ad2(i j:Int):B0 (.int i) (.int j)=some (.int (i+j)):=rfl
def aT6(f:Rho->Option (Bool×List D)) (lo hi:Rho->Option (Option Int)):DE:=fun ρ=>(f ρ).bind fun q=>(lo ρ).bind fun l=>(hi ρ).bind fun h=>if q.1=true then none else some (.list (U0 q.2 l h))
theorem bJ5{a:Expr}{lo hi:Option Expr}{f:Rho->Option (Bool×List D)}{l h:Rho->Option (Option Int)}{pos p2:Pos}(ha:JQ X a f) (hl:JO X lo l) (hh:JO X hi h):JE X (.Subscript a (.Slice lo hi none p2) pos) (aT6 f l h):=fun ρ d q=>by
 obtain⟨⟨t,xs⟩,e1,q⟩:=xbo q
 obtain⟨y,e2,q⟩:=xbo q
 obtain⟨z,e3,q⟩:=xbo q
 cases t with
 | true=>simp at q
 | false =>
  simp only[xft,if_false]at q
  cases q
  refine C0 (u9 aK2 (ha ρ _ _ e1) (hl ρ y e2) (hh ρ z e3)) fun σ H Q ⟨H0,Hf,s,sl,k⟩=>?_
  refine⟨H0,Hf,s,sl,fun v H1 Hf1 g1 ⟨p,vs,q1,q2,q3⟩=>⟨H0,Hf1,g1.sub,sl.grow g1,fun H2 Hf2 g2=>⟨H0,Hf2,g2.sub,sl.grow (g1.trans g2),fun H3 Hf3 g3=>?_⟩⟩⟩
  subst q1
  have q3':=q3.mono (g2.trans g3).ext
  refine⟨p,vs,rfl,E7 (g2.trans g3).big q2,fun p' hp=>?_⟩
  exact k _ _ _ (((g1.trans g2).trans g3).trans (Grow.laid g3.sub hp)) ⟨p',_,rfl,SqL.of B7,(ai7 q3' y z).mono (D8 (g3.sub.free hp))⟩
def C2:DS:=fun _=>none
theorem B1{st:Stmt}:JS X st C2:=fun ρ fl q=>by cases q
def aP1(f:DE):Rho->Option Bool:=fun ρ=>(f ρ).bind G4
theorem bc7{op op':CmpOp}{h1 h2:D->D->Option D}{a b c:Expr}{f g k:DE}{pos:Pos}(o1:OpD X (compareOp op) h1) (o2:OpD X (compareOp op') h2) (ha:JE X a f) (hb:JE X b g) (hc:JE X c k)
  (hm:lastMarks [op,op'] [b,c]=false:=by with_unfolding_all rfl):JT X (.Compare a [op,op'] [b,c] pos) (aP1 (J9 h1 h2 f g k)):=fun ρ d q=>by
 obtain⟨dd,q,ed⟩:=xbo q
 have ed:=aN6 ed
 subst ed
 obtain⟨x,e1,q⟩:=xbo q
 obtain⟨y,e2,q⟩:=xbo q
 obtain⟨z,e3,q⟩:=xbo q
 split at q
 ·obtain⟨w,e4,e5⟩:=xbo q
  refine ai9 (ax9 (o1 x y _ e3) (o2 y w _ e5) (ha ρ x e1) (hb ρ y e2) (hc ρ w e4) hm) fun σ H Q ⟨H0,Hf,s,sl,kk⟩=>?_
  refine⟨H0,Hf,s,sl,fun v H1 Hf1 g1 r1=>⟨H0,Hf1,g1.sub,sl.grow g1,fun u H2 Hf2 g2 r2=>⟨Hf2,g2.sub,r1.mono g2.ext,r2,fun z' H3 Hf3 g3 r3=>?_⟩⟩⟩
  refine⟨true,r3,am4 ⟨H0,Hf3,g3.sub,sl.grow ((g1.trans g2).trans g3),fun w' H4 Hf4 g4 r4=>⟨Hf4,g4.sub,r2.mono (g3.trans g4).ext,r4,fun z2 H5 Hf5 g5 r5=>?_⟩⟩⟩
  exact⟨d,r5,kk H5 Hf5 ((((g1.trans g2).trans g3).trans g4).trans g5)⟩
 ·cases q
  intro pins s σ H Q I ⟨H0,Hf,ss,sl,kk⟩
  refine ax9 (tc:=fun _ _ _=>False) (r':=fun _ _ _ _=>False) (o1 x y _ e3) (fun _ _ _ _ _ _ _ _ _ _ _ _ h=>h.elim) (ha ρ x e1) (hb ρ y e2) (fun _ _ _ _ _ _ h=>h.elim) hm pins s σ H Q I ?_
  refine⟨H0,Hf,ss,sl,fun v H1 Hf1 g1 r1=>⟨H0,Hf1,g1.sub,sl.grow g1,fun u H2 Hf2 g2 r2=>⟨Hf2,g2.sub,r1.mono g2.ext,r2,fun z' H3 Hf3 g3 r3=>?_⟩⟩⟩
  exact⟨false,r3,am5 ⟨false,rfl,kk H3 Hf3 ((g1.trans g2).trans g3)⟩⟩
 ·cases q
end
end G
namespace Sh
open PySem PySem.Spec PyProof.Rows L2 G
def ad4:DS:=(A9 (L3 (A2 K6 (A0 (A1 0) A3)) (J9 leI leI ⇑1 (A1 0) ⇑8)))
def V4:List D->Option D:=C3 ad4 1
def p8:DS:=(A8 (sIf (L5 (F7 (G1 (P0 "tuple" (A1 0)))) (tB2 neD (N6 (A7 0)) ⇑3)) (A9 (dC (.bool false))) C7) (A9 (L3 (A2 V4 (A0 (dIx (A7 0) ⇑0) A3)) (L3 (A2 V4 (A0 (dIx (A7 0) ⇑1) A3)) (P0 "tuple" (dIx (A7 0) ⇑2))))))
def S5:List D->Option D:=C3 p8 1
def al7:DS:=(A8 (sIf (F7 (G1 (A2 S5 (A0 (A1 0) A3)))) (A9 (dC (.bool false))) C7) (A8 (B3 1 (dIx (A7 0) ⇑2)) (A9 (L3 (A5 eqD (N6 (A7 1)) (A5 E6 (dIx (A7 0) ⇑0) (dIx (A7 0) ⇑1))) (X4 (qN (C4 1 [] (G6 (A1 1)) (B6 0) C9 (A2 i8 (A0 (A1 0) A3)))))))))
def r9:List D->Option D:=C3 al7 2
def aC4:DS:=(A9 (Q0 (C4 1 [0] (F6 (A5 E6 (A1 0) (A1 1))) (B6 0) C9 (F0 (A0 (A5 S8 (A1 0) (A1 1)) (A0 (A5 n8 (A1 0) (A1 1)) A3))))))
def aC9:List D->Option D:=C3 aC4 2
def aC8:DS:=(A9 (L3 (J9 leI ltI ⇑0 (A1 1) (dIx (A7 0) ⇑0)) (J9 leI ltI ⇑0 (A1 2) (dIx (A7 0) ⇑1))))
def af2:List D->Option D:=C3 aC8 3
def aa7:DS:=(A9 (A5 B0 (A5 E6 (A1 2) (dIx (A7 0) ⇑0)) (A1 1)))
def T3:List D->Option D:=C3 aa7 3
def aU8:DS:=(A8 (sIf (F7 (G1 (A2 af2 (A0 (A1 0) (A0 (A1 1) (A0 (A1 2) A3)))))) (A9 (dC (.tuple [(.tuple [(.int 0),(.int 1)]),(.tuple [(.int 0),(.int 1)]),(.tuple [(.int 0),(.int 1)]),(.tuple [(.int 0),(.int 1)])]))) C7) (A9 (dIx (qE (dIx (A7 0) ⇑2)) (A2 T3 (A0 (A1 0) (A0 (A1 1) (A0 (A1 2) A3)))))))
def aV9:List D->Option D:=C3 aU8 3
def ad3:DS:=(A8 (Q6 4 (C4 1 [0,1] (F6 (A5 E6 (A1 2) (A1 3))) (B6 0) C9 (A2 V2 (A0 (A1 1) (A0 (A5 B0 (A1 2) (A5 E6 ⇑12 (A1 0))) A3))))) (A8 (sIf (tB2 eqD (A2 A6 (A0 (A1 0) (A0 (A5 B0 (A1 1) ⇑7) (A0 ⇑3 A3)))) ⇑0) (B3 4 (A5 E6 (ag4 (A1 4) K8 (E8 ⇑1)) (A5 E6 (A1 2) (A1 3)))) C7) (A9 (F0 (A0 (A1 2) (A0 (A1 3) (A0 (J3 (A7 4)) A3)))))))
def i5:List D->Option D:=C3 ad3 5
end Sh
namespace G
open PySem PySem.Spec PyProof.Rows L2
theorem aR8{prog:Program}{w:World}{A:Around}(hh:A.handled=none) (t:Bool) (it l:Addr) (hne:l≠it) (xs:Array Value):Draws prog w A it [it,l] xs.size (fun i x=>xs[i]? = some x) (fun i h=>SIt t h it l i/\SSq t h l xs):=by
 refine⟨fun i h ⟨a,_⟩=>?_,fun i h h' ⟨a,b⟩ k=>⟨a.ext fun o e=>k it (by simp) o e,b.ext fun o e=>k l (by simp) o e⟩,fun i s Q E hi ⟨a,b⟩ hQ=>?_,fun s Q E ⟨a,b⟩ hE=>aK3 hh a b (by simp) hE⟩
 ·cases t with
  | true=>obtain⟨o,ho,_⟩:=a;exact⟨o,ho⟩
  | false=>obtain⟨o,ho,_⟩:=a;exact⟨o,ho⟩
 ·have hx:xs[i]? = some xs[i]:=by simp[hi]
  exact aX7 a b hx fun h' c sb=>hQ _ h' s.toks hx ⟨c,b.ext fun o e=>sb.extBut l o hne e⟩ sb
theorem aP4(l:Addr) (items:Array Value) (n:Nat) (dd:Option Addr) (sl:Array (Option Value)) :
  Meets (Builtin.«enumerate.__new__» ⟨[.type "enumerate", .ref l],[]⟩) (fun _ R s=>s.heap.get? l=some ⟨.type "tuple", dd,.seq items n,sl⟩ /\
   R (.ok (.ret (.ref (s.heap.push (ap3 true l)).objs.size))) { s with heap:=(s.heap.push (ap3 true l)).push { cls:=.type "enumerate", data:=.fields #[.none,.bool false,.ref s.heap.objs.size,rawInt 0,.none,.none] } }):=Meets.of_wp fun prog w A R s h=>by
 obtain⟨hp,g,d,tk,os⟩:=s
 obtain⟨hl,h⟩:=h
 have hsub:=sub_enumerate
 have q1:SSq true (Shared.heap ⟨hp,g,d,tk,os⟩) l items:=⟨_,hl,rfl,n,rfl⟩
 wp_walk using AutoSeq1.wpAny_loadPart' hl
 refine wpAny_stack_any fun st=>wpAny_pure ?_
 split
 ·rename_i c _ _ _ _ _
  cases(c==Value.type "enumerate")
  ·wp_walk using AutoSeq1.wpAny_loadPart' hl,ai5 q1
   exact⟨_,rfl,h⟩
  ·wp_walk using AutoSeq1.wpAny_loadPart' hl,ai5 q1
   exact⟨_,rfl,h⟩
 ·wp_walk using AutoSeq1.wpAny_loadPart' hl,ai5 q1
  exact⟨_,rfl,h⟩
section
variable {prog:Program}{w:World}{A:Around}{E:Value->Shared->Prop}{s:Shared}{t:Bool}
theorem aF1{l:Addr}{xs:Array Value}{Q:Value->Shared->Prop}(hl:SSq t s.heap l xs)
  (h:∀h',IsEnum h' (s.heap.objs.size+1) s.heap.objs.size 0 .none->SIt t h' s.heap.objs.size l 0->(∀c o,s.heap.get? c=some o->h'.get? c=some o)->Q (.ref (s.heap.objs.size+1)) { s with heap:=h' }) :
  wpAny (model prog w) A (call (.type "enumerate") [.ref l]) Q E s:=by
 cases t with
 | false=>exact call_enumerate_list hl fun h' a b _ d=>h h' a b d
 | true =>
  obtain⟨⟨cls,dd,data,sl⟩,ho,hc,n,hd⟩:=hl
  simp only at hc hd
  subst hc hd
  refine callType_new F.called_enumerate (by decide) (F.typeCall_enumerate_1 _) (F.newCall_enumerate_1 _) (fun obj=>F.args_object_init_2 obj _) F.entry_enumerate_new (aP4 l xs n dd sl) ⟨ho,?_⟩
  have z1:(s.heap.push (ap3 true l)).objs.size=s.heap.objs.size+1:=Heap.size_push ..
  show _/\_
  rw[z1]
  have he:=Heap.get?_push_size (s.heap.push (ap3 true l)) (o:={ cls:=.type "enumerate", data:=.fields #[.none,.bool false,.ref s.heap.objs.size,rawInt 0,.none,.none] }) rfl
  rw[z1]at he
  exact⟨⟨_,he,rfl⟩,h _ he ((bm3 (h:=s.heap) (l:=l) true).ext fun o e=>Heap.get?_push_of_some _ e) fun c o e=>Heap.get?_push_of_some _ (Heap.get?_push_of_some _ e)⟩
theorem aR7{e it l:Addr}{i:Int}{k:Nat}{xs:Array Value}{old:Value}{Q:Option Value->Shared->Prop}(hh:A.handled=none) (he:IsEnum s.heap e it i old) (hit:SIt t s.heap it l k) (hl:SSq t s.heap l xs) (hx:xs[k]? = none)
  (hQ:∀h',Heap.ExtBut it s.heap h'->Q none { s with heap:=h' }):wpAny (model prog w) A (pyNext (.ref e)) Q E s:=by
 have hT:s.TypeIs (.ref e) "enumerate" := ⟨_,he,rfl⟩
 unfold pyNext
 refine wpAny_bind (wpAny_attempt (wpAny_callSpecial?_slot (name:=Str.ofString "__next__") hT F.slot_enumerate_next (wpAny_call_entry F.slot_enumerate_next hT F.entry_enumerate_next ?_ (F.args_enumerate_next_1 _))))
 show wpAny _ _ (field (.ref e) 2 >>= _) _ _ _
 refine wpAny_bind (wpAny_field he rfl (x:=.ref it) rfl (wpAny_bind (aK3 hh hit hl hx fun h' x he' hx'=>?_)))
 obtain⟨o,ho,hc⟩:=hx'
 exact wpAny_bind (wpAny_isInstance (T := "StopIteration") (b:=true) ⟨o,ho,hc⟩ isSubtype_stop (wpAny_pure (hQ _ he')))
end
def Ite(K:PySem.W.Frag) (t:Bool) (a:Addr):It :=
  ⟨fun i H=>∃xs x,Sq K t H a xs/\xs[i]? = some x,
   fun i H v H'=>∃T x,v=.ref T/\H T=none/\H'=upd H T (.tup [.int i,x])/\∀xs,Sq K t H a xs->xs[i]? = some x,
   fun i H=>∃xs,Sq K t H a xs/\xs.length<=i⟩
theorem aO9{P:Program}{w:World}{K:PySem.W.Frag}{elts:List Expr}{k0:Nat}{pos:Pos}{t:Bool}{e it a:Addr}(h1:e≠it) (h2:a≠e) (h3:a≠it) :
  Turn P w K (.Tuple elts k0 pos) (Ite K t a) [e,it] e (fun i h=>(∃old,IsEnum h e it i old)/\SIt t h it a i) where
 mem:=by simp
 obj:=fun i h ⟨⟨old,he⟩,hi⟩ c hc=>by
  simp only[List.mem_cons,List.not_mem_nil,or_false]at hc
  rcases hc with rfl|rfl
  ·exact⟨_,he,fun v q=>by cases q⟩
  ·cases t with
   | true=>obtain⟨o,ho,_,hd⟩:=hi;exact⟨o,ho,fun v q=>by rw[hd]at q;cases q⟩
   | false=>obtain⟨o,ho,_,hd⟩:=hi;exact⟨o,ho,fun v q=>by rw[hd]at q;cases q⟩
 keep:=fun i h h' ⟨⟨old,he⟩,hi⟩ hk=>⟨⟨old,hk e (by simp) _ he⟩,hi.ext fun o q=>hk it (by simp) o q⟩
 item:=by
  intro X hP hw hK hc i pins s σ H E I hf ⟨⟨old,he⟩,hi⟩ hg
  subst hP hw hK
  obtain⟨xs,x,q1,ex⟩:=hg
  obtain⟨us,r1,p1,lt1⟩:=ar8 I q1
  obtain⟨ux,eux,rx⟩:=r1.get ex
  have hlt:i < us.toArray.size:=by rw[List.size_toArray];exact(List.getElem?_eq_some_iff.mp eux).1
  refine wpAny_pyNext_enum_itemD (aR8 (A:=X.A.in1) (I.ok.hd hc) t it a h3 us.toArray) he ⟨hi,p1⟩ hlt h1 (by simp only[List.mem_cons,List.not_mem_nil,or_false,not_or];exact⟨h1,fun z=>h2 z.symm⟩) fun y h' tk hy ho hst hT hsz hk=>⟨_,rfl,wpAny_letOwnedTupleGo_enum ho fun h'' c1 c2=>?_⟩
  have ey:y=ux:=by
   have:us[i]? = some y:=by simpa using hy
   rw[eux]at this
   exact(Option.some.inj this).symm
  subst ey
  have neT:∀c o,s.heap.get? c=some o->c≠s.heap.objs.size:=fun c o q=>Nat.ne_of_lt (Heap.lt_size q)
  have up:∀c o,c≠e->h'.get? c=some o->h''.get? c=some o:=fun c o n q=>c2.extBut c o n q
  refine⟨.ref s.heap.objs.size,upd H s.heap.objs.size (.tup [.int i,x]),af8 (s:=s) (h':=h'') (t':=tk+1) (ch:=[e,it]) I hf (Nat.le_refl _) (fun c u hc q=>?_) ?_,rfl,⟨_,x,rfl,I.hok.fresh (Nat.le_refl _),rfl,fun zs hz'=>by rw[bB4 I hz' q1];exact ex⟩,⟨⟨_,by simpa using c1⟩,hst.1.ext fun o q=>up it o h1.symm q⟩,fun c hc=>?_⟩
  ·simp only[List.mem_cons,List.not_mem_nil,or_false,not_or]at hc
   exact up c u hc.1 (hk c u hc.1 hc.2 q)
  ·refine⟨by show 2<=sizeLine;decide,[.int i tk,y],.cons ⟨tk,rfl⟩ (.cons rx .nil),_,up _ _ ?_ hT,rfl,⟨_,rfl⟩,rfl⟩
   exact fun q=>neT e _ he q.symm
  ·have lt:c < s.heap.objs.size:=by
    simp only[List.mem_cons,List.not_mem_nil,or_false]at hc
    rcases hc with rfl|rfl
    ·exact Heap.lt_size he
    ·exact hi.lt
   rw[B4 (Nat.ne_of_lt lt)]
   exact(hf c hc).1
 done:=by
  intro X hP hw hK hc i pins s σ H E I hf ⟨⟨old,he⟩,hi⟩ hg
  subst hP hw hK
  obtain⟨xs,q1,hl⟩:=hg
  obtain⟨us,r1,p1,lt1⟩:=ar8 I q1
  have l1:=r1.length
  refine aR7 (I.ok.hd hc) he hi p1 (by simp;omega) fun h' hk=>⟨rfl,aH0 (t':=s.toks) (ch:=[e,it]) I hf fun c u hc q=>?_⟩
  simp only[List.mem_cons,List.not_mem_nil,or_false,not_or]at hc
  exact hk c u hc.2 q
 self:=fun _ _ _ _ _ st h=>by
  obtain⟨⟨old,he⟩,_⟩:=st
  exact wpAny_pyIter_enum he h
section
variable {X:Cx}
def ae5(ds:List D):List D:=(List.range ds.length).zip ds |>.map fun(k,d)=>PyData.tuple [.int (k:Nat),d]
def aA3(f:Rho->Option (Bool×List D)):Rho->Option (List D):=fun ρ=>(f ρ).map fun q=>ae5 q.2
theorem x9(ds:List D) (i:Nat):(ae5 ds)[i]? = (ds[i]?).map fun d=>.tuple [.int i,d]:=by
 unfold ae5
 rw[List.getElem?_map]
 cases e:ds[i]? with
 | none =>
  have:ds.length<=i:=by simpa using e
  have z:((List.range ds.length).zip ds)[i]? = none:=by simp;omega
  rw[z];rfl
 | some d =>
  have hi:=(List.getElem?_eq_some_iff.mp e).1
  have z:((List.range ds.length).zip ds)[i]? = some (i,d):=List.getElem?_zip_eq_some.mpr ⟨by simp[hi],e⟩
  rw[z];rfl
theorem aA6(ds:List D):(ae5 ds).length=ds.length:=by unfold ae5;simp
theorem aw7{K:PySem.W.Frag}{t:Bool}{a:Addr}{vs:List V}{ds:List D}{Hf1:Hp}(h1:Sq K t Hf1 a vs) (r1:Reps K Hf1 ds vs):aI9 K (Ite K t a) (ae5 ds) Hf1:=by
 have mono:∀{t:Bool}{a:Addr}{xs:List V}{H H':Hp},D0 H H'->Sq K t H a xs->Sq K t H' a xs:=fun{t a xs H H'} e h=>by
  cases t with
  | true=>exact C8 e h
  | false=>exact E7 e h
 intro i H Hf sa sb
 have m1:=mono (sa.trans sb) h1
 have l1:=r1.length
 refine⟨fun hi=>⟨vs,m1,by rw[aA6]at hi;omega⟩,fun d hd=>?_⟩
 rw[x9]at hd
 obtain⟨x,q1,q2⟩:=xmo hd
 subst q2
 obtain⟨vx,e1,e2⟩:=r1.get q1
 refine⟨⟨vs,vx,m1,e1⟩,fun v H' ⟨T,x',z1,z2,z3,z4⟩=>?_⟩
 subst z1 z3
 have w1:=z4 vs m1
 rw[e1]at w1
 cases w1
 have nf:Hf T=none:=sb.free z2
 exact⟨upd Hf T (.tup [.int i,vx]),Grow.laid sb z2,T,[.int i,vx],rfl,SqT.of B7,.int i,[vx],rfl,rfl,vx,[],rfl,(e2.mono sa).mono (D8 nf),rfl⟩
theorem bs3{elts:List Expr}{k0:Nat}{tpos:Pos}{a:Expr}{f:DE}{p pos:Pos}(hg:Gl X "enumerate") (hm:X.mg "enumerate" = none) (ha:JE X a f) (hs:starEach [a] X.env=[(false,eval a X.env)]:=by rfl) :
  JI X (.Tuple elts k0 tpos) (.Call (.Name "enumerate" p) [a] [] pos) (aA3 (qE f)):=fun ρ out q=>by
 obtain⟨⟨t1,ds⟩,e1,q⟩:=xmo q
 subst q
 obtain⟨d1,e1,e1'⟩:=xbo e1
 intro pins s σ H R I ⟨H0,Hf,ss,sl,k⟩
 refine Call_ (aj6 I hg hm rfl (PyProof.Rows.callWith_type1 (thn (G0 (ha ρ d1 e1) L0 (by rw[hs];rfl) pos pins s σ H
  (fun vs H'=>∃v Hf',vs=[v]/\Grow H Hf H' Hf'/\Rep X.K Hf' d1 v) I ⟨H0,Hf,ss,sl,fun v H1 Hf1 g1 r1=>⟨v,Hf1,rfl,g1,r1⟩⟩) fun us s1 ⟨vs,H1,I1,r1,v,Hf1,ev,gr,p1⟩=>?_) (by rw[hs];rfl) (by rfl)))
 subst ev
 obtain⟨uv,rfl,rv⟩:=r1.one
 obtain⟨a1,vs1,rfl,w1,w2⟩:=p1.seq (D0.refl Hf1) e1'
 cases rv
 have mono:∀{t:Bool}{a:Addr}{xs:List V}{H H':Hp},D0 H H'->Sq X.K t H a xs->Sq X.K t H' a xs:=fun{t a xs H H'} e h=>by
  cases t with
  | true=>exact C8 e h
  | false=>exact E7 e h
 obtain⟨us1,rr1,hp1,lt1⟩:=ar8 I1 (mono gr.sub w1)
 refine aF1 hp1 fun h' b1 b2 b3=>?_
 have I2:Inv X pins σ H1 { s1 with heap:=h' }:=I1.kept (t':=s1.toks) b3
 refine wpAny_pyIter_enum b1 ⟨_,_,_,_,H1,rfl,I2,aO9 (e:=s1.heap.objs.size+1) (it:=s1.heap.objs.size) (a:=a1) (Nat.succ_ne_self _) (Nat.ne_of_lt (Nat.lt_succ_of_lt lt1)) (Nat.ne_of_lt lt1),⟨⟨_,b1⟩,b2⟩,fun b hb=>?_,k _ H1 Hf1 gr (aw7 w1 w2)⟩
 have hb':s1.heap.objs.size<=b:=by
  simp only[List.mem_cons,List.not_mem_nil,or_false]at hb
  rcases hb with rfl|rfl
  ·exact Nat.le_add_right _ _
  ·exact Nat.le_refl _
 exact I1.fpOk hb' (I1.hok.fresh hb')
end
section
variable {prog:Program}{w:World}{A:Around}{E:Value->Shared->Prop}{s:Shared}
theorem ai6{l b sl:Addr}{items new:Array Value}{n n2:Nat}{vl vu:Value}{lo hi:Option Int}{Q:Unit->Shared->Prop}
    (e:s.heap.get? l=some { cls:=.type "list", data:=.seq items n }) (e2:s.heap.get? b=some { cls:=.type "list", data:=.seq new n2 }) (hne:l≠b)
    (hs:s.heap.IsSliceOf sl vl vu .none) (pl:IsPart vl lo) (pu:IsPart vu hi) (hsz:items.size+new.size<=sizeLine)
    (h:Q () { s with heap:=s.heap.update l (Obj.mapSeq fun xs=>xs.extract 0 (HT.sIx items.size 0 lo)++new++xs.extract (max (HT.sIx items.size 0 lo) (HT.sIx items.size items.size hi)) xs.size) }) :
    wpAny (model prog w) A (setItem (.ref l) (.ref sl) (.ref b)) Q E s:=by
  have hl:s.heap.IsList l items:=PySem.IsL.isList e
  have hb:s.heap.IsList b new:=PySem.IsL.isList e2
  obtain⟨os,hos,hcs,hds⟩:=id hs
  have hTs:s.TypeIs (.ref sl) "slice" := ⟨os,hos,hcs⟩
  have hstep:¬((rawPart none==rawInt 0)=true):=Bool.false_ne_true
  have hsame:Builtin.List.listSameRef (.ref l) (.ref b)=false:=by
    unfold Builtin.List.listSameRef
    exact beq_eq_false_iff_ne.mpr hne
  have hbd:sliceBounds lo hi none items.size=(((HT.sIx items.size 0 lo:Nat):Int),((HT.sIx items.size items.size hi:Nat):Int),1):=by
    obtain⟨h1,h2,h3⟩:=u3 lo hi items.size
    exact Prod.ext h1 (Prod.ext h2 h3)
  have hmax:(max ((HT.sIx items.size 0 lo:Nat):Int) ((HT.sIx items.size items.size hi:Nat):Int)).toNat=max (HT.sIx items.size 0 lo) (HT.sIx items.size items.size hi):=by omega
  have hz':((fun xs:Array Value=>xs.extract 0 (HT.sIx items.size 0 lo)++new++xs.extract (max (HT.sIx items.size 0 lo) (HT.sIx items.size items.size hi)) xs.size) items).size<=sizeLine+1:=by
    simp only[Array.size_append,Array.size_extract]
    omega
  unfold setItem
  try with_reducible refine wpAny_holding ?_
  first|refine wpAny_bind (wpAny_pure ?_)|skip
  refine wpAny_bind (wpAny_sequenceKey hl.typeIs (by decide) ?_)
  refine wpAny_bind (wpAny_callSpecial?_slot (name:=Str.ofString "__setitem__") hl.typeIs slot_list_setitem (wpAny_call_entry slot_list_setitem hl.typeIs entry_list_setitem ?_ (args_list_setitem _ _ _)))
  show wpAny _ _ (Builtin.List.listSubscript? (.ref sl) >>= _) _ _ s
  refine wpAny_bind ?_
  unfold Builtin.List.listSubscript?
  refine wpAny_bind (wpAny_specialOf hTs slice_no_index ?_)
  simp only[Option.isNone_none,if_true]
  refine wpAny_pure ?_
  show wpAny _ _ (typeOf (.ref sl) >>= _) _ _ s
  refine wpAny_bind (wpAny_typeOf hTs ?_)
  first
    | rw[if_neg (by decide)]
    | refine PySem.W.KFB.if_not (by decide) ?_
  rw[listSliceParts_eq]
  refine wpAny_bind (wpAny_bind (wpAny_field hos hds (x:=.none) rfl (wpAny_bind (wpAny_listPart .none ?_))))
  rw[if_neg hstep]
  refine wpAny_bind (wpAny_field hos hds (x:=vl) rfl (wpAny_bind (wpAny_listPart pl ?_)))
  refine wpAny_bind (wpAny_field hos hds (x:=vu) rfl (wpAny_bind (wpAny_listPart pu (wpAny_pure ?_))))
  first
    | simp only[hsame,xft,if_false]
    | refine PySem.W.KFB.if_not hsame ?_
    | (dsimp only
       rw[if_neg (by rw[hsame];exact Bool.false_ne_true)])
  refine wpAny_bind (m:=Builtin.List.listAllItems (.ref b) "must assign iterable to extended slice") ?_
  unfold Builtin.List.listAllItems
  refine wpAny_bind (wpAny_typeOf hb.typeIs ?_)
  first
    | refine PySem.W.KFB.if_so (by decide) ?_
    | rw[if_pos (by decide)]
    | simp only[beq_self_eq_true,Bool.true_or,if_true]
  unfold Builtin.List.listItems
  refine wpAny_bind (wpAny_seqItems e2 rfl (wpAny_pure ?_))
  refine wpAny_bind (wpAny_bind (wpAny_seqItems e rfl (wpAny_pure ?_)))
  refine wpAny_bind (wpAny_of_eq ((sliceIndices_raw lo hi none items.size (by simp)).trans (congrArg (pure:Int×Int×Int->Sem (Int×Int×Int)) hbd)) ?_)
  show wpAny _ _ (if((1:Int)==1)=true then _ else _) _ _ s
  rw[if_pos (by decide)]
  refine wpAny_bind (wpAny_rule ?_)
  first
    | simp only[Y8 hsz,xft,if_false]
    | refine PySem.W.KFB.if_not (Y8 hsz) ?_
  first|refine wpAny_bind (wpAny_pure ?_)|skip
  show wpAny _ _ (updateSeq l (fun xs=>xs.extract 0 (((HT.sIx items.size 0 lo:Nat):Int)).toNat++new++xs.extract (max ((HT.sIx items.size 0 lo:Nat):Int) ((HT.sIx items.size items.size hi:Nat):Int)).toNat xs.size) >>= _) _ _ s
  rw[hmax,Int.toNat_natCast]
  refine wpAny_bind (wpAny_updateSeq (hz:=Nat.le_trans (Nat.le_add_right _ _) hsz) (_hz':=hz') e rfl ?_)
  refine wpAny_bind (wpAny_letGo ?_)
  first
    | exact wpAny_bind (wpAny_pure (wpAny_pure ⟨.none,rfl,wpAny_pure h⟩))
    | exact wpAny_pure ⟨.none,rfl,wpAny_pure h⟩
end
section
variable {X:Cx}
def ai3{α:Type}(xs:List α) (lo hi:Option Int) (ys:List α):List α:=xs.take (HT.sIx xs.length 0 lo)++ys++xs.drop (max (HT.sIx xs.length 0 lo) (HT.sIx xs.length xs.length hi))
theorem aE9{pins:List (Addr×Obj)}{s:Shared}{σ:L2.St}{H:Hp}{l b sl:Addr}{xs ys:List V}{lo hi:Option Int}{vl vu:Value}{Q:Unit->Shared->Prop}(I:Inv X pins σ H s)
  (hH:H l=some (.lst xs)) (hB:H b=some (.lst ys)) (hne:l≠b) (hs:s.heap.IsSliceOf sl vl vu .none) (pl:IsPart vl lo) (pu:IsPart vu hi)
  (hz:xs.length+ys.length<=sizeLine) (h:∀s',Inv X pins σ (upd H l (.lst (ai3 xs lo hi ys))) s'->Q () s') :
  wpAny (model X.prog X.w) X.A (setItem (.ref l) (.ref sl) (.ref b)) Q X.xe s:=by
 obtain⟨z,its,n,r,hl,e⟩:=I.lstM hH
 obtain⟨z2,its2,n2,r2,hl2,e2⟩:=I.lstM hB
 refine ai6 e e2 hne hs pl pu (by rw[List.size_toArray,List.size_toArray];omega) (h _ ?_)
 have hz0:its.toArray.size=xs.length:=by rw[List.size_toArray];exact hl.symm
 refine I.lset (its':=its.take (HT.sIx xs.length 0 lo)++its2++its.drop (max (HT.sIx xs.length 0 lo) (HT.sIx xs.length xs.length hi))) (t':=s.toks) hH e ?_ (D2.append (D2.append (r.take _) r2) (r.drop _)) ?_
 ·have e0:=aP2 its its2 (HT.sIx xs.length 0 lo) (max (HT.sIx xs.length 0 lo) (HT.sIx xs.length xs.length hi))
  rw[hz0]at e0 ⊢
  exact e0
 ·unfold ai3
  rw[List.length_append,List.length_append,List.length_take,List.length_drop]
  omega
theorem aY5{K:PySem.W.Frag}{H:Hp}{ds es:List D}{vs us:List V}(h:Reps K H ds vs) (g:Reps K H es us) (lo hi:Option Int):Reps K H (ai3 ds lo hi es) (ai3 vs lo hi us):=by
 unfold ai3
 rw[h.length]
 exact((h.take _).append g).append (h.drop _)
theorem Slots.reOwn{K:PySem.W.Frag}{H0 H Hf:Hp}{ρ:Rho}{σ:L2.St}{i:Nat}{ds ds':List D}{b:Addr}{vs':List V}(sl:Slots K H0 ρ σ H Hf) (eo:ρ[i]? = some (some (.own ds))) (h1:σ[i]? = some (some (.ref b))) (hf:Hf b=none) (h0:H0 b=none) (r:Reps K Hf ds' vs') :
  Slots K H0 (ρ.set i (some (.own ds'))) σ (upd H b (.lst vs')) Hf:=by
 refine⟨by simpa using sl.len,fun j bb z=>?_,fun j k ds1 es c q1 q2 q3 q4=>?_⟩
 ·by_cases qj:i=j
  ·subst qj
   have hi:i < ρ.length:=(List.getElem?_eq_some_iff.mp eo).1
   rw[List.getElem?_set_self hi]at z
   cases z
   exact⟨_,h1,b,vs',rfl,B7,hf,h0,r⟩
  ·rw[List.getElem?_set_ne qj]at z
   obtain⟨u,z1,z2⟩:=sl.is j bb z
   refine⟨u,z1,?_⟩
   cases bb with
   | val d=>exact z2
   | exc C=>exact z2
   | own dd =>
    obtain⟨a',us',y1,y2,y3,y4,y5⟩:=z2
    have ne:a'≠b:=fun zz=>by
     subst zz y1
     exact qj (sl.apart i j ds dd a' eo z h1 z1)
    exact⟨a',us',y1,by rw[B4 ne];exact y2,y3,y4,y5⟩
 ·have f:∀(j:Nat) (es:List D),(ρ.set i (some (B.own ds')))[j]? = some (some (B.own es))->∃dd:List D,ρ[j]? = some (some (B.own dd)):=fun j es q=>by
   by_cases qj:i=j
   ·subst qj;exact⟨ds,eo⟩
   ·rw[List.getElem?_set_ne qj]at q;exact⟨_,q⟩
  obtain⟨d1,q1'⟩:=f j _ q1
  obtain⟨d2,q2'⟩:=f k _ q2
  exact sl.apart j k d1 d2 c q1' q2' q3 q4
def aY1(i:Nat) (lo hi:Rho->Option (Option Int)) (f:Rho->Option (List D)):DS:=fun ρ=>(f ρ).bind fun es=>(lo ρ).bind fun l=>(hi ρ).bind fun h=>match ρ[i]? with
 | some (some (.own ds))=>if ds.length+es.length<=16777216 then some (.nx (ρ.set i (some (.own (ai3 ds l h es))))) else none
 | _=>none
theorem bH7(i:Nat) {x:Str}{e:Expr}{lo hi:Option Expr}{f:Rho->Option (List D)}{l h:Rho->Option (Option Int)}{p p2 pos' pos:Pos}(he:JN X e f) (hl:JO X lo l) (hh:JO X hi h) (hN:X.N[i]? = some x:=by rfl)
  (hv:Vis X.env.scope x:=by first|exact Or.inl rfl|exact Or.inr (Or.inl rfl)|exact Or.inr (Or.inr rfl)) (hd:(x==("__debug__" : Str))=false:=by decide) (hcd:(x==("__classdict__" : Str))=false:=by decide)
  (hsw:swapsWith e (some (.Subscript (.Name x p) (.Slice lo hi none p2) pos')) pos.line X.env=pure false:=by rfl):JS X (.Assign [.Subscript (.Name x p) (.Slice lo hi none p2) pos'] e pos) (aY1 i l h f):=fun ρ fl q H0 Hf0=>by
 obtain⟨es,e1,q⟩:=xbo q
 obtain⟨y,e2,q⟩:=xbo q
 obtain⟨z,e3,q⟩:=xbo q
 split at q
 ·rename_i ds eo
  split at q
  ·rename_i hz
   cases q
   intro pins s σ H En I ⟨Hf,a,ee⟩
   refine wpAny_Assign_Subscript (thn (he ρ es e1 pins s σ H (fun v H'=>∃Hf',Grow H Hf H' Hf'/\∃b us,v=.ref b/\H b=none/\H' b=some (.lst us)/\Hf' b=none/\Reps X.K Hf' es us) I ⟨H0,Hf,a.gr.sub,a.sl,fun v H' Hf' g r=>⟨Hf',g,r⟩⟩) fun v s1 ⟨x1,H1,I1,r1,Hf1,g1,b,us,ev,b1,b2,b3,b4⟩=>?_) hsw
   subst ev
   cases r1
   obtain⟨vl0,h1,c,vs,ev,h2,h3,h4,h5⟩:=a.sl.is i _ eo
   subst ev
   refine thn (W3 hN hv hd hcd pins s1 σ H1 (fun v H'=>v=.ref c/\H'=H1) I1 ⟨_,h1,rfl,rfl⟩) fun ov s2 ⟨x2,H2,I2,r2,ex,eH⟩=>?_
   subst ex eH
   cases r2
   have sl1:=a.sl.grow g1
   refine wpAny_Slice (thn (hl ρ y e2 pins s2 σ H2 (fun o H'=>o=y/\∃Hf',Grow H2 Hf1 H' Hf') I2 ⟨H0,Hf1,g1.sub,sl1,fun H' Hf' g=>⟨rfl,Hf',g⟩⟩) fun wl s3 ⟨o3,H3,I3,pl,eo3,Hf3,g3⟩=>?_)
   subst eo3
   have sl3:=sl1.grow g3
   refine thn (hh ρ z e3 pins s3 σ H3 (fun o H'=>o=z/\∃Hf',Grow H3 Hf3 H' Hf') I3 ⟨H0,Hf3,g3.sub,sl3,fun H' Hf' g=>⟨rfl,Hf',g⟩⟩) fun wu s4 ⟨o4,H4,I4,pu,eo4,Hf4,g4⟩=>?_
   subst eo4
   have sl4:=sl3.grow g4
   have gg:Grow H Hf H4 Hf4:=(g1.trans g3).trans g4
   rw[evalPart_none]
   refine wpAny_pure ?_
   have I5:Inv X pins σ H4 { s4 with heap:=s4.heap.push { cls:=.type "slice", data:=.fields #[wl,wu,.none] } }:=I4.kept (t':=s4.toks) fun b ob q=>Heap.get?_push_of_some _ q
   have hc:H4 c=some (.lst vs):=gg.big _ _ h2
   have hb:H4 b=some (.lst us):=(g3.trans g4).big _ _ b2
   have hcb:c≠b:=fun zz=>by subst zz;rw[h2]at b1;cases b1
   have hfc:Hf4 c=none:=gg.nofr h2 h3
   have rd:Reps X.K Hf4 (ai3 ds o3 o4 es) (ai3 vs o3 o4 us):=aY5 (h5.mono gg.ext) (b4.mono (g3.trans g4).ext) _ _
   refine aE9 I5 hc hb hcb (Heap.IsSliceOf.new ..) pl pu (by rw[h5.length,b4.length,sizeLine_eq];exact hz) fun s' I'=>?_
   have ga:=a.gr.trans gg
   refine⟨σ,_,I',ee σ _ Hf4 ⟨⟨fun d u zz=>?_,fun d u zz=>?_,ga.ext,ga.new⟩,sl4.reOwn eo h1 hfc h4 rd⟩ gg.ext⟩
   ·rw[B4 (B9 zz h4)];exact ga.big d u zz
   ·rw[B4 (B9 zz hfc)];exact ga.sub d u zz
  ·cases q
 ·cases q
theorem br1(i:Nat) {N':List Str}{n:Nat}{caps:List Nat}{scope:Scope}{elt tgt iter:Expr}{ifs:List Expr}{pos pos' spos:Pos}{x:Str}{src:Rho->Option (List D)}{g:D->Rho->Option Rho}{c:Rho->Option Bool}{e:DE}(hN:X.N.Nodup) (S:CompSc X N' n caps scope) (hx:∀e s,X.xe e s->False)
  (hi:JI X tgt iter src) (hg:∀C s0 H0 ex,JG (E2 X N' scope C s0 H0 ex) tgt g) (ht:∀C s0 H0 ex,JTs (E2 X N' scope C s0 H0 ex) ifs c) (he:∀C s0 H0 ex,JE (E2 X N' scope C s0 H0 ex) elt e)
  (hi2:X.N[i]? = some x:=by rfl) (hl:X.env.scope.names.lookup x=some .local:=by rfl) (hsw:swapsWith (.ListComp elt [⟨tgt,iter,ifs,0⟩] scope pos) (some (.Name x pos')) spos.line X.env=pure true:=by rfl)
  (hc:X.calm=true:=by rfl) (hs:∀x,foldedSetIterable iter X.env x=pure x:=by intro _;rfl):JS X (.Assign [.Name x pos'] (.ListComp elt [⟨tgt,iter,ifs,0⟩] scope pos) spos) (S7 i (C4 n caps src g c e)):=fun ρ fl q H0 Hf0=>by
 obtain⟨out,e1,e2⟩:=xmo q
 subst e2
 obtain⟨ds,e3,k⟩:=o8 (K:=X.K) e1
 refine J7 (aj0 S hx hc hN hi2 hl (hi ρ ds e3) (g:=tgJ X.K g) (tc:=ao1 X.K c) (te:=aK0 X.K e) hg ht (fun C s0 H0 ex pins s σ H Q I ⟨ρ,d,e,t⟩=>he C s0 H0 ex ρ d e pins s σ H Q I t) hsw hs) fun En σ H ⟨Hf,a,ee⟩=>k σ H _ ⟨H0,Hf,a.gr.sub,a.sl,fun v H' Hf' gg ⟨p,vs,z1,z2,z3,z4,z5⟩=>?_⟩
 subst z1
 exact ee _ H' Hf' ⟨a.gr.trans gg,a.sl.setOwn gg (a.gr.big.free z2) z2 z3 z4 z5⟩ gg.ext
def bw4:DS:=fun ρ=>some (.ct ρ)
theorem br2{pos:Pos}:JS X (.Continue pos) bw4:=fun ρ fl q H0 Hf0=>by
 cases q
 exact J7 ay0 fun En σ H ⟨Hf,a,e⟩=>e σ H Hf a (D0.refl _)
end
section
variable {X:Cx}
def af3(x:Str) (k:Int):Str:=if(k==1 || x.length==0)=true then x else⟨(List.replicate k.toNat x.cps).foldl (·++·) #[]⟩
def aQ8(x y:D):Option D:=match x,y with
 | .str x,.int k=>if 1<=k/\k<=2/\x.length<=1000/\(af3 x k).length<=16777216 then some (.str (af3 x k)) else none
 | _,_=>none
theorem bp1:OpD X (binaryOp .Mult) aQ8:=fun x y z h=>by
 unfold aQ8 at h
 split at h
 ·split at h
  ·rename_i x k c
   cases h
   intro pins s σ H vx vy v u Q I rx ry ⟨Hf,ss,r1,r2,kk⟩
   cases r1
   cases r2
   obtain⟨t,rfl⟩:=rx
   obtain⟨t2,rfl⟩:=ry
   have w:=kk (.str (af3 x k)) H Hf (Grow.refl ss) rfl
   have k12:k=1\/k=2:=by omega
   refine P.mul_str (by rw[decide_eq_false (by omega),decide_eq_false (by omega)];rfl) (fun _ _=>by rcases k12 with rfl|rfl<;>omega) (fun _ _=>?_) ?_
   ·unfold Builtin.Str.tooLong
    rw[sizeLine_eq]
    refine decide_eq_false ?_
    rcases k12 with rfl|rfl<;>simp<;>omega
   ·rw[if_neg (by omega)]
    unfold af3 at w c
    split
    ·rename_i e
     rw[if_pos e]at w
     exact⟨.str x,H,I,⟨_,rfl⟩,w⟩
    ·rename_i e
     rw[if_neg e]at w c
     exact⟨by rw[sizeLine_eq];exact c.2.2.2,.str _,H,I.tok _,⟨_,rfl⟩,w⟩
  ·cases h
 ·cases h
def slS(x:Str) (lo hi:Option Int):Str:=if((1:Int)==1&&(Builtin.Str.strSliceIndices lo hi 1 x.length).length==x.length)=true then x else⟨((Builtin.Str.strSliceIndices lo hi 1 x.length).filterMap (x.cps[·]?)).toArray⟩
def aT5(f:DE) (lo hi:Rho->Option (Option Int)):DE:=fun ρ=>(f ρ).bind fun d=>(lo ρ).bind fun l=>(hi ρ).bind fun h=>match d with
 | .str x=>if x.length<=1000/\(slS x l h).length<=16777216 then some (.str (slS x l h)) else none
 | _=>none
theorem aL2{u:Value}{o:Option Int}(h:IsPart u o):∃p:Option (Int×Tok),u=partValue p/\p.map (·.1)=o:=by
 cases h with
 | none=>exact⟨none,rfl,rfl⟩
 | int i t=>exact⟨some (i,t),rfl,rfl⟩
theorem bl9:SlR X (fun x lo hi H Q=>∃z,x=.str z/\(slS z lo hi).length<=16777216/\Q (.str (slS z lo hi)) H):=by
 intro pins s σ H x v vl vu lo hi sl Q I rx hs pl pu h
 obtain⟨z,rfl,hz,q⟩:=h
 obtain⟨t,rfl⟩:=rx
 obtain⟨pl',rfl,rfl⟩:=aL2 pl
 obtain⟨pu',rfl,rfl⟩:=aL2 pu
 refine⟨"str", _,F.slot_str_getitem.lookup,typeIs_str s z t,wpAny_getItem_str_slice (l:=pl') (u:=pu') (st:=none) hs rfl ?_⟩
 show(if((1:Int)==1&&(Builtin.Str.strSliceIndices (pl'.map (·.1)) (pu'.map (·.1)) 1 z.length).length==z.length)=true then Made.val (.str z t) else Made.str ⟨((Builtin.Str.strSliceIndices (pl'.map (·.1)) (pu'.map (·.1)) 1 z.length).filterMap (z.cps[·]?)).toArray⟩).post _ _
 unfold slS at q hz
 by_cases e:((1:Int)==1&&(Builtin.Str.strSliceIndices (pl'.map (·.1)) (pu'.map (·.1)) 1 z.length).length==z.length)=true
 ·rw[if_pos e]at q ⊢
  exact⟨.str z,H,I,⟨_,rfl⟩,q⟩
 ·rw[if_neg e]at q hz ⊢
  exact⟨by rw[sizeLine_eq];exact hz,.str _,H,I.tok _,⟨_,rfl⟩,q⟩
theorem bJ4{a:Expr}{lo hi:Option Expr}{f:DE}{l h:Rho->Option (Option Int)}{pos p2:Pos}(ha:JE X a f) (hl:JO X lo l) (hh:JO X hi h):JE X (.Subscript a (.Slice lo hi none p2) pos) (aT5 f l h):=fun ρ d q=>by
 obtain⟨x,e1,q⟩:=xbo q
 obtain⟨y,e2,q⟩:=xbo q
 obtain⟨z,e3,q⟩:=xbo q
 cases x with
 | str x =>
  simp only at q
  split at q
  ·rename_i c
   cases q
   refine C0 (u9 bl9 (ha ρ _ e1) (hl ρ y e2) (hh ρ z e3)) fun σ H Q ⟨H0,Hf,s,sl,k⟩=>?_
   refine⟨H0,Hf,s,sl,fun v H1 Hf1 g1 r1=>⟨H0,Hf1,g1.sub,sl.grow g1,fun H2 Hf2 g2=>⟨H0,Hf2,g2.sub,sl.grow (g1.trans g2),fun H3 Hf3 g3=>?_⟩⟩⟩
   exact⟨x,r1,c.2,k _ H3 Hf3 ((g1.trans g2).trans g3) rfl⟩
  ·cases q
 | _=>cases q
def am2(i:Nat) (f:DE):DS:=fun ρ=>match ρ[i]? with
 | some (some (.own ds))=>(f ρ).bind fun d=>match d with
  | .list es=>if ds.length+es.length<=16777216 then some (.nx (ρ.set i (some (.own (ds++es))))) else none
  | .tuple es=>if ds.length+es.length<=16777216 then some (.nx (ρ.set i (some (.own (ds++es))))) else none
  | _=>none
 | _=>none
end
end G
namespace Sh
open PySem PySem.Spec PyProof.Rows L2 G
def aV4:DS:=(A9 (dIx (A7 0) ⇑0))
def i7:List D->Option D:=C3 aV4 1
def aJ6:DS:=(A9 (A5 eqD (A2 i7 (A0 (A1 0) A3)) (dC (.str "layer"))))
def N8:List D->Option D:=C3 aJ6 1
def aV5:DS:=(A9 (A5 eqD (A2 i7 (A0 (A1 0) A3)) (dC (.str "tone"))))
def R7:List D->Option D:=C3 aV5 1
def aC5:DS:=(A9 (dIx (A7 0) ⇑2))
def L7:List D->Option D:=C3 aC5 1
def aU9:DS:=(A9 (dIx (A7 0) ⇑2))
def V1:List D->Option D:=C3 aU9 1
def an4:DS:=(A9 (dIx (A7 0) ⇑3))
def M9:List D->Option D:=C3 an4 1
def aJ5:DS:=(A9 (dIx (A7 0) ⇑4))
def S6:List D->Option D:=C3 aJ5 1
def aV3:DS:=(A9 (dIx (A7 0) ⇑5))
def h9:List D->Option D:=C3 aV3 1
def bj7:DS:=(A9 (dIx (A7 0) ⇑6))
def ab3:List D->Option D:=C3 bj7 1
def aV2:DS:=(A9 (dIx (A7 0) ⇑7))
def g8:List D->Option D:=C3 aV2 1
def aJ1:DS:=(A9 (dIx (A7 0) ⇑8))
def S4:List D->Option D:=C3 aJ1 1
def an7:DS:=(A9 (dIx (A7 0) ⇑5))
def D5:List D->Option D:=C3 an7 1
def an6:DS:=(A8 (B3 3 (A2 S4 (A0 (A1 0) A3))) (A8 (B3 4 (A2 g8 (A0 (A1 0) A3))) (A8 (B3 5 (A2 aV9 (A0 (A1 3) (A0 (A1 1) (A0 (A1 2) A3))))) (A8 (sIf (L5 (tB2 isB (A1 4) (dC .none)) (F7 (G1 (A2 af2 (A0 (A1 3) (A0 (A1 1) (A0 (A1 2) A3))))))) (A9 (A1 5)) C7) (A9 (A2 p9 (A0 (A1 5) (A0 (dIx (A7 4) (A2 T3 (A0 (A1 3) (A0 (A1 1) (A0 (A1 2) A3))))) A3))))))))
def an9:List D->Option D:=C3 an6 6
def aV7(self:Nat->List D->Option D):DS:=(A8 (sIf (G1 (A2 N8 (A0 (A1 0) A3))) (B3 3 (A2 an9 (A0 (A1 0) (A0 (A5 am0 (A1 1) (A2 h9 (A0 (A1 0) A3))) (A0 (A5 am0 (A1 2) (A2 ab3 (A0 (A1 0) A3))) A3))))) (B3 3 (A2 (self 2) (A0 (A2 D5 (A0 (A1 0) A3)) (A0 (A1 1) (A0 (A1 2) A3)))))) (A9 (A2 p9 (A0 (A1 3) (A0 (A2 M9 (A0 (A1 0) A3)) A3)))))
def an5(self:Nat->List D->Option D):DS:=(A8 (sIf (F7 (G1 (A2 S6 (A0 (A1 0) A3)))) (A9 (A1 1)) C7) (A8 (sIf (G1 (A2 R7 (A0 (A1 0) A3))) (A9 (A2 bv5 (A0 (A2 V1 (A0 (A1 0) A3)) (A0 (A1 1) (A0 (A2 M9 (A0 (A1 0) A3)) A3))))) C7) (A9 (A2 aW2 (A0 (A2 L7 (A0 (A1 0) A3)) (A0 (A2 (self 0) (A0 (A1 0) (A0 (A1 2) (A0 (A1 3) A3)))) (A0 (A1 1) A3)))))))
def aJ0(self:Nat->List D->Option D):DS:=(A8 (B3 3 (dC (.tuple [(.tuple [(.int 0),(.int 1)]),(.tuple [(.int 0),(.int 1)]),(.tuple [(.int 0),(.int 1)]),(.tuple [(.int 0),(.int 1)])]))) (A8 (P7 (G6 (A1 0)) (B6 4) (B3 3 (A2 (self 1) (A0 (A1 4) (A0 (A1 3) (A0 (A1 1) (A0 (A1 2) A3))))))) (A9 (A1 3))))
def aO3:Nat->Nat->List D->Option D
 | 0=>fun _ _=>none
 | k+1=>fun i=>match i with
  | 0=>C3 (aV7 (aO3 k)) 4
  | 1=>C3 (an5 (aO3 k)) 4
  | 2=>C3 (aJ0 (aO3 k)) 5
  | _=>fun _=>none
def aW1(k:Nat):List D->Option D:=aO3 k 0
def aq9:DS:=(A8 (B3 3 (A5 eqD (A2 A6 (A0 (A1 0) (A0 (A1 1) (A0 ⇑2 A3)))) ⇑0)) (A8 (S7 4 A3) (A8 (P7 (F6 (A1 2)) (B6 5) (A8 (B3 6 (ak4 (dC (.str "")) (qN (C4 1 [0,1,5] (F6 ⇑2) (B6 0) C9 (o6 (dC (.str "abcdefghijklmnopqrstuvwxyz")) (A2 A6 (A0 (A1 1) (A0 (A5 B0 (A5 B0 (A5 B0 (A1 2) ⇑1) (A5 E6 ⇑3 (A1 3))) (A1 0)) (A0 ⇑26 A3))))))))) (A8 (B3 6 (A5 aQ8 (aT5 (A1 6) K8 (E8 (A2 A6 (A0 (A1 0) (A0 (A5 B0 (A5 B0 (A1 1) ⇑3) (A5 E6 ⇑3 (A1 5))) (A0 ⇑3 A3)))))) (dIx (qN (A0 ⇑1 (A0 ⇑2 A3))) (A2 A6 (A0 (A1 0) (A0 (A5 B0 (A5 B0 (A1 1) ⇑2) (A5 E6 ⇑3 (A1 5))) (A0 ⇑2 A3))))))) (P8 4 (dIx (qN (A0 (A5 B0 (A1 6) (o6 (dC (.str "abcdefghijklmn")) (A1 5))) (A0 (A5 B0 (o6 (dC (.str "abcdefghijklmn")) (A1 5)) (A1 6)) A3))) (aa2 (A1 3))))))) (as0 4 (A9 (A1 4))))))
def i6:List D->Option D:=C3 aq9 7
def Y5:DS:=(B3 4 (A2 G9 (A0 (A1 0) (A0 (A1 1) A3))))
def Y4:DS:=(B3 5 (A5 gtI (A2 A6 (A0 (A1 0) (A0 (A5 B0 (A1 1) ⇑3) (A0 ⇑6 A3)))) ⇑0))
def P6:DS:=(sIf (tB2 eqD (A2 A6 (A0 (A1 0) (A0 (A5 B0 (A1 1) ⇑4) (A0 ⇑6 A3)))) ⇑0) (A9 (F0 (A0 (dC (.str "tone")) (A0 (A1 2) (A0 (dIx (qN (A0 (dC (.str "turn")) (A0 (dC (.str "grey")) (A0 (dC (.str "round")) A3)))) (A2 A6 (A0 (A1 0) (A0 (A5 B0 (A1 1) ⇑5) (A0 ⇑3 A3))))) (A0 (A1 4) (A0 (A1 5) A3))))))) C7)
def Y3:DS:=(B3 6 (dIx (qN (A0 (dC (.str "over")) (A0 (dC (.str "multiply")) (A0 (dC (.str "screen")) (A0 (dC (.str "plus")) (A0 (dC (.str "atop")) (A0 (dC (.str "cut")) A3))))))) (A2 A6 (A0 (A1 0) (A0 (A5 B0 (A1 1) ⇑5) (A0 ⇑6 A3))))))
def T1:DS:=(sIf (tB2 gtI (A2 A6 (A0 (A1 0) (A0 (A5 B0 (A1 1) ⇑6) (A0 ⇑3 A3)))) ⇑0) (B3 6 (A1 3)) C7)
def Y2:DS:=(B3 7 (A5 B0 ⇑1 (A2 A6 (A0 (A1 0) (A0 (A5 B0 (A1 1) ⇑7) (A0 ⇑3 A3))))))
def Y1:DS:=(B3 8 (A5 B0 ⇑1 (A2 A6 (A0 (A1 0) (A0 (A5 B0 (A1 1) ⇑8) (A0 ⇑3 A3))))))
def Y0:DS:=(B3 9 (dC .none))
def T0:DS:=(sIf (tB2 eqD (A2 A6 (A0 (A1 0) (A0 (A5 B0 (A1 1) ⇑9) (A0 ⇑3 A3)))) ⇑0) (B3 9 (J3 (qN (C4 1 [0,1] (F6 (A5 E6 (A1 7) (A1 8))) (B6 0) C9 (A2 G9 (A0 (A1 1) (A0 (A5 B0 (A5 B0 (A1 2) ⇑20) (A5 E6 ⇑3 (A1 0))) A3))))))) C7)
def X9:DS:=(B3 10 (A5 am0 (A2 A6 (A0 (A1 0) (A0 (A5 B0 (A1 1) ⇑10) (A0 ⇑4 A3)))) ⇑1))
def W0:DS:=(B3 11 (A5 am0 (A2 A6 (A0 (A1 0) (A0 (A5 B0 (A1 1) ⇑11) (A0 ⇑4 A3)))) ⇑1))
def R0:DS:=(sIf (tB2 eqD (A2 A6 (A0 (A1 0) (A0 (A5 B0 (A1 1) ⇑12) (A0 ⇑3 A3)))) ⇑0) (ab9 (F0 (A0 ⇑3 (A0 ⇑3 (A0 ⇑0 (A0 ⇑0 (A0 (dC .none) A3)))))) (M7 5 (E1 (B6 7) (E1 (B6 8) (E1 (B6 10) (E1 (B6 11) (E1 (B6 9) O0))))))) C7)
def V9:DS:=(B3 12 (A2 i5 (A0 (A1 0) (A0 (A5 B0 (A1 1) ⇑50) (A0 (A1 7) (A0 (A1 8) A3))))))
def V8:DS:=(A9 (F0 (A0 (dC (.str "layer")) (A0 (A1 2) (A0 (A1 6) (A0 (A1 4) (A0 (A1 5) (A0 (A1 10) (A0 (A1 11) (A0 (A1 9) (A0 (A1 12) A3)))))))))))
def al5:DS:=(A8 Y5 (A8 Y4 (A8 P6 (A8 Y3 (A8 T1 (A8 Y2 (A8 Y1 (A8 Y0 (A8 T0 (A8 X9 (A8 W0 (A8 R0 (A8 V9 V8)))))))))))))
def N0:List D->Option D:=C3 al5 13
def aq8:DS:=(A8 (B3 4 (dIx (qN (A0 (dC (.str "over")) (A0 (dC (.str "multiply")) (A0 (dC (.str "screen")) (A0 (dC (.str "plus")) A3))))) (A2 A6 (A0 (A1 0) (A0 (A1 1) (A0 ⇑4 A3)))))) (A8 (B3 5 (A2 A6 (A0 (A1 0) (A0 (A5 B0 (A1 1) ⇑1) (A0 (A5 B0 (A1 2) ⇑1) A3))))) (A8 (S7 6 (C4 1 [0,4,3,1] (F6 (A1 5)) (B6 0) C9 (A2 N0 (A0 (A1 1) (A0 (A5 B0 (A5 B0 (A1 4) ⇑20) (A5 E6 ⇑170 (A1 0))) (A0 (dIx (A7 3) (A1 0)) (A0 (A1 2) A3))))))) (A8 (P7 (F6 (A2 A6 (A0 (A1 0) (A0 (A5 B0 (A1 1) ⇑2) (A0 ⇑3 A3))))) (B6 7) (A8 (B3 8 (A2 A6 (A0 (A1 0) (A0 (A5 B0 (A5 B0 (A1 1) ⇑3) (A5 E6 ⇑5 (A1 7))) (A0 (A5 B0 (N6 (A7 6)) ⇑1) A3))))) (A8 (B3 9 (A5 B0 (A1 8) (A2 A6 (A0 (A1 0) (A0 (A5 B0 (A5 B0 (A1 1) ⇑4) (A5 E6 ⇑5 (A1 7))) (A0 ⇑3 A3)))))) (A8 (B3 10 (dIx (qN (A0 (F0 (A0 ⇑1 (A0 ⇑1 A3))) (A0 (A2 G9 (A0 (A1 0) (A0 (A5 B0 (A5 B0 (A1 1) ⇑5) (A5 E6 ⇑5 (A1 7))) A3))) A3))) (A2 A6 (A0 (A1 0) (A0 (A5 B0 (A5 B0 (A1 1) ⇑6) (A5 E6 ⇑5 (A1 7))) (A0 ⇑2 A3)))))) (A8 (B3 11 (dIx (qN (A0 (A1 4) (A0 (dC (.str "atop")) (A0 (A1 4) (A0 (dC (.str "cut")) A3))))) (A2 A6 (A0 (A1 0) (A0 (A5 B0 (A5 B0 (A1 1) ⇑7) (A5 E6 ⇑5 (A1 7))) (A0 ⇑4 A3)))))) (A8 (B3 12 (F0 (A0 (dC (.str "group")) (A0 (dIx (A7 3) (A5 B0 (A1 2) (A1 7))) (A0 (A1 11) (A0 (A1 10) (A0 (A5 gtI (A2 A6 (A0 (A1 0) (A0 (A5 B0 (A5 B0 (A1 1) ⇑14) (A1 7)) (A0 ⇑7 A3)))) ⇑0) A3))))))) (aY1 6 (E8 (A1 8)) (E8 (A1 9)) (A0 (A5 B0 (A1 12) (F0 (A0 (J3 (qE (aT6 (A7 6) (E8 (A1 8)) (E8 (A1 9))))) A3))) A3)))))))) (A9 (J3 (A7 6)))))))
def ad9:List D->Option D:=C3 aq8 13
def af0:DS:=(A8 (B3 4 (A5 B0 ⇑1 (A2 A6 (A0 (A1 0) (A0 (A1 1) (A0 ⇑3 A3)))))) (A8 (B3 5 (A5 B0 ⇑1 (A2 A6 (A0 (A1 0) (A0 (A5 B0 (A1 1) ⇑1) (A0 ⇑3 A3)))))) (A9 (F0 (A0 (A1 4) (A0 (A1 5) (A0 (A2 ad9 (A0 (A1 0) (A0 (A5 B0 (A1 1) ⇑2) (A0 (A1 2) (A0 (A1 3) A3))))) A3)))))))
def T4:List D->Option D:=C3 af0 6
end Sh
namespace G
open PySem PySem.Spec PyProof.Rows L2
section
variable {X:Cx}
def aQ7(f g:Rho->Option (Bool×List D)):Rho->Option (List D):=fun ρ=>(f ρ).bind fun p=>(g ρ).bind fun q=>if p.1=false/\q.1=false/\p.2.length+q.2.length<=16777216 then some (p.2++q.2) else none
theorem bI9{a b:Expr}{f g:Rho->Option (Bool×List D)}{pos:Pos}(ha:JQ X a f) (hb:JQ X b g):JN X (.BinOp a .Add b pos) (aQ7 f g):=fun ρ out q=>by
 obtain⟨⟨t1,xs⟩,e1,q⟩:=xbo q
 obtain⟨⟨t2,ys⟩,e2,q⟩:=xbo q
 split at q
 ·rename_i c
  obtain⟨c1,c2,c3⟩:=c
  simp only at c1 c2 c3
  subst c1 c2
  cases q
  refine C0 (bx0 aL3 (ha ρ _ _ e1) (hb ρ _ _ e2)) fun σ H Q ⟨H0,Hf,s,sl,k⟩=>?_
  refine⟨H0,Hf,s,sl,fun v H1 Hf1 g1 ⟨p,vs,z1,z2,z3⟩=>⟨H0,Hf1,g1.sub,sl.grow g1,fun u H2 Hf2 g2 ⟨p',us,z1',z2',z3'⟩=>?_⟩⟩
  subst z1 z1'
  refine⟨p,p',vs,us,rfl,rfl,E7 g2.big z2,z2',by rw[z3.length,z3'.length,sizeLine_eq];exact c3,fun n hn=>?_⟩
  exact k _ _ _ ((g1.trans g2).trans (Grow.made g2.sub hn)) ⟨n,vs++us,rfl,(g1.trans g2).big.free hn,B7,g2.sub.free hn,(z3.mono g2.ext).append z3'⟩
 ·cases q
end
end G
namespace Sh
open PySem PySem.Spec PyProof.Rows L2 G
def aJ7:DS:=(A9 (A5 eqD (A2 i7 (A0 (A1 0) A3)) (dC (.str "group"))))
def J2:List D->Option D:=C3 aJ7 1
def aV1:DS:=(A9 (dIx (A7 0) ⇑1))
def M0:List D->Option D:=C3 aV1 1
def p7:DS:=(A9 (A5 B0 (ag4 (A1 0) K8 (E8 ⇑5)) (F0 (A0 (A1 1) A3))))
def N7:List D->Option D:=C3 p7 2
def al3:DS:=(A8 (P7 (aA3 (qE (A1 0))) (M7 2 (E1 (B6 2) (E1 (B6 3) O0))) (sIf (tB2 eqD (A2 M0 (A0 (A1 3) A3)) (A1 1)) (A9 (A1 2)) C7)) (A9 (dC .none)))
def D3:List D->Option D:=C3 al3 4
def G3(self:List D->Option D):DS:=(A8 (sIf (tB2 ac4 (A2 D3 (A0 (A1 0) (A0 (A1 1) A3))) (dC .none)) (A9 (A1 0)) C7) (A8 (P7 (G6 (A1 0)) (B6 2) (sIf (G1 (A2 J2 (A0 (A1 2) A3))) (A8 (B3 3 (A2 self (A0 (A2 D5 (A0 (A1 2) A3)) (A0 (A1 1) A3)))) (sIf (tB2 ac4 (A1 3) (dC .none)) (A9 (A1 3)) C7)) C7)) (A9 (dC .none))))
def D7:Nat->List D->Option D
 | 0=>fun _=>none
 | k+1=>C3 (G3 (D7 k)) 4
def Z7:DS:=(A8 (B3 2 (A2 (D7 12) (A0 (dIx (A7 0) ⇑2) (A0 (A1 1) A3)))) (A8 (sIf (tB2 isB (A1 2) (dC .none)) C2 C7) (A9 (A1 2))))
def K0:List D->Option D:=C3 Z7 3
def G2(self:Nat->List D->Option D):DS:=(A8 (sIf (tB2 ac4 (A2 D3 (A0 (A1 0) (A0 (A1 1) A3))) (dC .none)) (A9 (A1 2)) C7) (A9 (J3 (qN (C4 1 [1,2] (G6 (A1 0)) (B6 0) C9 (A2 (self 1) (A0 (A1 0) (A0 (A1 1) (A0 (A1 2) A3)))))))))
def F4(self:Nat->List D->Option D):DS:=(A8 (sIf (F7 (G1 (A2 J2 (A0 (A1 0) A3)))) (A9 (A1 0)) C7) (A9 (A2 N7 (A0 (A1 0) (A0 (A2 (self 0) (A0 (A2 D5 (A0 (A1 0) A3)) (A0 (A1 1) (A0 (A1 2) A3)))) A3)))))
def m4:Nat->Nat->List D->Option D
 | 0=>fun _ _=>none
 | k+1=>fun i=>match i with
  | 0=>C3 (G2 (m4 k)) 3
  | 1=>C3 (F4 (m4 k)) 3
  | _=>fun _=>none
def E5(k:Nat):List D->Option D:=m4 k 0
def F5(k:Nat):List D->Option D:=m4 k 1
def Q8:DS:=(A9 (F0 (A0 (dIx (A7 0) ⇑0) (A0 (dIx (A7 0) ⇑1) (A0 (A2 (E5 12) (A0 (dIx (A7 0) ⇑2) (A0 (A1 1) (A0 (A1 2) A3)))) A3)))))
def M4:List D->Option D:=C3 Q8 3
def ae8:DS:=(A8 (B3 3 (A2 K0 (A0 (A1 0) (A0 (A1 1) A3)))) (A8 (B3 4 (A2 D3 (A0 (A1 3) (A0 (A1 1) A3)))) (A9 (A2 M4 (A0 (A1 0) (A0 (A1 1) (A0 (A5 B0 (A5 B0 (ag4 (A1 3) K8 (E8 (A1 4))) (F0 (A0 (A1 2) A3))) (ag4 (A1 3) (E8 (A5 B0 (A1 4) ⇑1)) K8)) A3)))))))
def O2:List D->Option D:=C3 ae8 5
def aO0(self:List D->Option D):DS:=(A8 (S7 1 A3) (A8 (P7 (G6 (A1 0)) (B6 2) (A8 (P8 1 (A1 2)) (sIf (tB2 eqD (dIx (A7 2) ⇑0) (dC (.str "group"))) (S7 1 (aQ7 (A7 1) (qE (A2 self (A0 (dIx (A7 2) ⇑5) A3))))) C7))) (as0 1 (A9 (A1 1)))))
def N4:Nat->List D->Option D
 | 0=>fun _=>none
 | k+1=>C3 (aO0 (N4 k)) 3
end Sh
namespace G
open PySem PySem.Spec PyProof.Rows L2
section
variable {X:Cx}
theorem bu2(l b:Addr) (xs ys:Array Value) (n m:Nat) (dd:Option Addr) (sl:Array (Option Value)) (h0:¬(!xs.isEmpty&&Builtin.List.listTooLong (xs.size+ys.size))=true) (h1:xs.size<=sizeLine) (h2:xs.size+ys.size<=sizeLine+1) :
  Meets (Builtin.«list.extend» ⟨[.ref l,.ref b],[]⟩) (fun _ R s=>s.heap.get? l=some { cls:=.type "list", data:=.seq xs n }/\s.heap.get? b=some ⟨.type "list", dd,.seq ys m,sl⟩ /\
   R (.ok (.ret Value.none)) { s with heap:=s.heap.update l (Obj.mapSeq fun x=>x++ys),toks:=s.toks }) :=
 .of_wp fun prog w A R s h=>by
  obtain⟨hp,g,d,tk,os⟩:=s
  obtain⟨hl,hb,h⟩:=h
  have f1:=AutoSeq1.idx_int
  have f2:=AutoSeq1.sub_tuple_tuple
  have f3:=AutoSeq1.sub_list_list
  have f4:=AutoSeq1.sub_tuple_list
  have f5:=AutoSeq1.sub_list_tuple
  have hz':(xs++ys).size<=sizeLine+1:=by rw[Array.size_append];exact h2
  wp_walk using (wpAny_updateSeq hl rfl (hz:=h1) (_hz':=hz')),AutoSeq1.wpAny_loadPart' hl,AutoSeq1.wpAny_loadPart' hb
  exact⟨_,rfl,h⟩
theorem bu1(l b:Addr) (xs ys:Array Value) (n m:Nat) (dd:Option Addr) (sl:Array (Option Value)) (h0:¬(!xs.isEmpty&&Builtin.List.listTooLong (xs.size+ys.size))=true) (h1:xs.size<=sizeLine) (h2:xs.size+ys.size<=sizeLine+1) :
  Meets (Builtin.«list.extend» ⟨[.ref l,.ref b],[]⟩) (fun _ R s=>s.heap.get? l=some { cls:=.type "list", data:=.seq xs n }/\s.heap.get? b=some ⟨.type "tuple", dd,.seq ys m,sl⟩ /\
   R (.ok (.ret Value.none)) { s with heap:=s.heap.update l (Obj.mapSeq fun x=>x++ys),toks:=s.toks }) :=
 .of_wp fun prog w A R s h=>by
  obtain⟨hp,g,d,tk,os⟩:=s
  obtain⟨hl,hb,h⟩:=h
  have f1:=AutoSeq1.idx_int
  have f2:=AutoSeq1.sub_tuple_tuple
  have f3:=AutoSeq1.sub_list_list
  have f4:=AutoSeq1.sub_tuple_list
  have f5:=AutoSeq1.sub_list_tuple
  have hz':(xs++ys).size<=sizeLine+1:=by rw[Array.size_append];exact h2
  wp_walk using (wpAny_updateSeq hl rfl (hz:=h1) (_hz':=hz')),AutoSeq1.wpAny_loadPart' hl,AutoSeq1.wpAny_loadPart' hb
  exact⟨_,rfl,h⟩
def bX7(K:PySem.W.Frag):V->List V->Hp->VK->Prop:=fun x vs H Q=>∃l b xs zs,x=.ref l/\vs=[.ref b]/\H l=some (.lst xs)/\(SqL K H b zs\/SqT K H b zs)/\xs.length+zs.length<=sizeLine/\Q .non (upd H l (.lst (xs++zs)))
theorem bb8:MtM X "list.extend" (bX7 X.K):=by
 intro pins s σ H x vs v us Q I rx rv h
 obtain⟨l,b,xs,zs,rfl,rfl,hH,hB,hz,q⟩:=h
 cases rx
 obtain⟨u,rfl,ru⟩:=rv.one
 cases ru
 obtain⟨z,its,n,r,hl,e⟩:=I.lstM hH
 rcases hB with hB|hB
 ·obtain⟨its2,r2,pl,_⟩:=I.list hB
  obtain⟨⟨cls,dd,data,sl⟩,ho,hc,m,hd⟩:=pl.isList
  simp only at hc hd
  subst hc hd
  have hl2:=r2.length
  have hsz:its.toArray.size+its2.toArray.size<=sizeLine:=by rw[List.size_toArray,List.size_toArray];omega
  have hlong:¬(!its.toArray.isEmpty&&Builtin.List.listTooLong (its.toArray.size+its2.toArray.size))=true:=by rw[Y8 hsz,Bool.and_false];exact Bool.false_ne_true
  refine call_meets F.slot_list_extend ⟨_,e,rfl⟩ F.entry_list_extend (F.args_list_extend_2 _ _) (bu2 l b its.toArray its2.toArray n m dd sl hlong (by rw[List.size_toArray];omega) (by omega)) ⟨e,ho,?_⟩
  refine⟨.non,_,I.lset (its':=its++its2) hH e (by simp) (r.append r2) ?_,rfl,q⟩
  rw[List.length_append];omega
 ·obtain⟨its2,r2,pl,_⟩:=I.tuple hB
  obtain⟨⟨cls,dd,data,sl⟩,ho,hc,m,hd⟩:=pl
  simp only at hc hd
  subst hc hd
  have hl2:=r2.length
  have hsz:its.toArray.size+its2.toArray.size<=sizeLine:=by rw[List.size_toArray,List.size_toArray];omega
  have hlong:¬(!its.toArray.isEmpty&&Builtin.List.listTooLong (its.toArray.size+its2.toArray.size))=true:=by rw[Y8 hsz,Bool.and_false];exact Bool.false_ne_true
  refine call_meets F.slot_list_extend ⟨_,e,rfl⟩ F.entry_list_extend (F.args_list_extend_2 _ _) (bu1 l b its.toArray its2.toArray n m dd sl hlong (by rw[List.size_toArray];omega) (by omega)) ⟨e,ho,?_⟩
  refine⟨.non,_,I.lset (its':=its++its2) hH e (by simp) (r.append r2) ?_,rfl,q⟩
  rw[List.length_append];omega
theorem bI1(i:Nat) {x:Str}{e:Expr}{f:DE}{p apos cpos pos:Pos}(h:JE X e f) (hN:X.N[i]? = some x) (hv:Vis X.env.scope x) (hd:(x==("__debug__" : Str))=false)
  (hcd:(x==("__classdict__" : Str))=false) (hline:(apos.endLine==cpos.line)=true) (hs:starEach [e] X.env=[(false,eval e X.env)]) :
  JS X (.Expr (.Call (.Attribute (.Name x p) "extend" apos) [e] [] cpos) pos) (am2 i f):=fun ρ fl q H0 Hf0=>by
 unfold am2 at q
 split at q
 ·rename_i ds eo
  obtain⟨d,e1,q⟩:=xbo q
  split at q
  ·rename_i es
   split at q
   ·rename_i hz
    cases q
    refine J7 (at0 (aK9 PySem.F.plainAttrs_list PySem.F.slot_list_extend PySem.F.type_list_extend bb8 (W3 hN hv hd hcd) (G0 (h ρ _ e1) L0 hs) rfl (by rw[hs];rfl) hline hs) rfl) fun En σ H ⟨Hf,a,ee⟩=>?_
    obtain⟨v,h1,b,vs,rfl,h2,h3,h4,h5⟩:=a.sl.is i _ eo
    refine⟨_,h1,.inl ⟨rfl,vs,SqL.of h2⟩,H0,Hf,a.gr.sub,a.sl,fun w H' Hf' gg r=>?_⟩
    obtain⟨b2,us,rfl,r1,r2⟩:=r
    have hb:H' b=some (.lst vs):=gg.big _ _ h2
    have hfb:Hf' b=none:=gg.nofr h2 h3
    have g2:=a.gr.trans gg
    have sl2:=a.sl.grow gg
    refine⟨b,b2,vs,us,rfl,rfl,hb,.inl (E7 gg.sub r1),by rw[h5.length,r2.length,sizeLine_eq];exact hz,ee _ _ Hf' ⟨⟨fun c u z=>?_,fun c u z=>?_,g2.ext,g2.new⟩,?_⟩ gg.ext⟩
    ·rw[B4 (B9 z h4)];exact g2.big c u z
    ·rw[B4 (B9 z hfb)];exact g2.sub c u z
    ·exact sl2.reOwn eo h1 hfb h4 ((h5.mono gg.ext).append r2)
   ·cases q
  ·rename_i es
   split at q
   ·rename_i hz
    cases q
    refine J7 (at0 (aK9 PySem.F.plainAttrs_list PySem.F.slot_list_extend PySem.F.type_list_extend bb8 (W3 hN hv hd hcd) (G0 (h ρ _ e1) L0 hs) rfl (by rw[hs];rfl) hline hs) rfl) fun En σ H ⟨Hf,a,ee⟩=>?_
    obtain⟨v,h1,b,vs,rfl,h2,h3,h4,h5⟩:=a.sl.is i _ eo
    refine⟨_,h1,.inl ⟨rfl,vs,SqL.of h2⟩,H0,Hf,a.gr.sub,a.sl,fun w H' Hf' gg r=>?_⟩
    obtain⟨b2,us,rfl,r1,r2⟩:=r
    have hb:H' b=some (.lst vs):=gg.big _ _ h2
    have hfb:Hf' b=none:=gg.nofr h2 h3
    have g2:=a.gr.trans gg
    have sl2:=a.sl.grow gg
    refine⟨b,b2,vs,us,rfl,rfl,hb,.inr (C8 gg.sub r1),by rw[h5.length,r2.length,sizeLine_eq];exact hz,ee _ _ Hf' ⟨⟨fun c u z=>?_,fun c u z=>?_,g2.ext,g2.new⟩,?_⟩ gg.ext⟩
    ·rw[B4 (B9 z h4)];exact g2.big c u z
    ·rw[B4 (B9 z hfb)];exact g2.sub c u z
    ·exact sl2.reOwn eo h1 hfb h4 ((h5.mono gg.ext).append r2)
   ·cases q
  ·cases q
 ·cases q
end
def am6(a:List Str) (x:Str):List Str:=if a.any (· == x) then a else a++[x]
def ddN(v:Nat->Str) (i:Nat):List Str:=((List.range i).map v).foldl am6 []
def ddS(l:List Str):List Str:=l.foldl am6 []
theorem ak1(v:Nat->Str) (i:Nat):ddN v (i+1)=am6 (ddN v i) (v i):=by
 unfold ddN
 rw[List.range_succ,List.map_append,List.foldl_append]
 rfl
theorem bh8(v:Nat->Str):∀i,(ddN v i).length<=i
 | 0=>Nat.le_refl 0
 | i+1=>by
  have ih:=bh8 v i
  rw[ak1]
  unfold am6
  split
  ·omega
  ·rw[List.length_append,List.length_singleton]
   omega
theorem bM5(a:List Str) (x y:Str):(am6 a x).any (· == y)=(a.any (· == y) || decide (y=x)):=by
 unfold am6
 by_cases q:a.any (· == x)=true
 ·rw[if_pos q]
  by_cases e:y=x
  ·subst e;rw[q];simp
  ·simp[e]
 ·rw[if_neg q,List.any_append]
  by_cases e:y=x
  ·subst e;simp
  ·have:(x==y)=false:=by simpa [beq_iff_eq] using fun z:x=y=>e z.symm
   simp[this,e]
theorem bM4(a:List Str) (x:Str):(am6 a x).length=if a.any (· == x) then a.length else a.length+1:=by
 unfold am6
 split<;>simp
theorem bM6(l:List Str) (d:Str):ddN (fun i=>l.getD i d) l.length=ddS l:=by
 unfold ddN ddS
 congr 1
 refine List.ext_getElem? fun i=>?_
 rw[List.getElem?_map]
 by_cases hi:i < l.length
 ·rw[List.getElem?_range hi,List.getElem?_eq_getElem hi]
  simp[List.getD,List.getElem?_eq_getElem hi]
 ·rw[List.getElem?_eq_none (by simpa using hi),List.getElem?_eq_none (by simpa using hi)]
  rfl
section
variable {prog:Program}{w:World}{A:Around}{R:Result->Shared->Prop}{J:Addr}{fp wr:List Addr}{Gn:Array GenState->Array GenState->Prop}{n:Nat}{P:Nat->Value->Prop}{St:Nat->Shared->Prop}
theorem aY0(W:WalksS prog w A.in1 J fp wr Gn n P St) (S:Addr) (hS1:S∉fp) (v:Nat->Str) (hv:∀i u,P i u->∃t,u=.str (v i) t) (hb:n+1 < scanBound) :
  ∀(k i:Nat) (s:Shared),n - i=k->i<=n->St i s->s.heap.SetOf (strKind prog w) S (fun y=>(ddN v i).any (· == y)) (ddN v i).length ->
   (∀s',Moved (S::wr) Gn s s'->s'.heap.SetOf (strKind prog w) S (fun y=>(ddN v n).any (· == y)) (ddN v n).length->R (.ok (.ret .none)) s') ->
   codeAny (model prog w) A (.builtin "set.update.loop" ⟨[.ref S,.ref J],[]⟩) R s:=by
 have hS2:S∉wr:=fun z=>hS1 (W.sub _ z)
 have more:∀b∈wr,b∈S::wr:=fun b z=>xmm _ z
 intro k
 induction k with
 | zero =>
  intro i s e1 e2 q1 q2 q3
  obtain rfl:i=n:=by omega
  refine codeAny_builtin PyProof.Rows.F.entry_set_update_loop ?_
  rw[Around.under_plainId PyProof.Rows.F.plain_set_update_loop _]
  show wpAny _ _ (pyNext (.ref J) >>= _) _ _ _
  refine wpAny_bind (W.done s _ _ q1 fun s' mv=>?_)
  show wpAny _ _ (ret Value.none) _ _ _
  refine wpAny_pure (q3 s' (mv.mono more) ?_)
  obtain⟨o,es,ep,tb,ho,more'⟩:=q2
  exact⟨o,es,ep,tb,mv.heap S _ hS2 ho,more'⟩
 | succ k ih =>
  intro i s e1 e2 q1 q2 q3
  have lt:i < n:=by omega
  refine codeAny_builtin PyProof.Rows.F.entry_set_update_loop ?_
  rw[Around.under_plainId PyProof.Rows.F.plain_set_update_loop _]
  show wpAny _ _ (pyNext (.ref J) >>= _) _ _ _
  refine wpAny_bind (W.item i s _ _ lt q1 fun u s' hP q1' mv=>?_)
  obtain⟨t,rfl⟩:=hv i u hP
  have q2':s'.heap.SetOf (strKind prog w) S (fun y=>(ddN v i).any (· == y)) (ddN v i).length:=by
   obtain⟨o,es,ep,tb,ho,more'⟩:=q2
   exact⟨o,es,ep,tb,mv.heap S _ hS2 ho,more'⟩
  show wpAny _ _ (holding [Value.str (v i) t] (setAdd S (.str (v i) t)) >>= _) _ _ _
  refine wpAny_bind (wpAny_holding ?_)
  unfold setAdd
  refine wpAny_holding (wpAny_bind ((strKind prog w).pyHash (k:=v i) (strKind_is _ _ _ _) ?_))
  have room:(ddN v i).length+1 < scanBound:=by have:=bh8 v i;omega
  refine wpAny_setAddHashed_of (knd:=strKind prog w) (s:={ s' with toks:=s'.toks+1 }) (strKind_is _ _ _ _) rfl q2' room fun h' sb q4=>?_
  have q5:h'.SetOf (strKind prog w) S (fun y=>(ddN v (i+1)).any (· == y)) (ddN v (i+1)).length:=SetOf_congr q4 (fun y=>by rw[ak1,bM5]) (by rw[ak1,bM4])
  refine wpAny_pure ⟨plainId_quiet PyProof.Rows.F.plain_set_update_loop _,ih (i+1) _ (by omega) lt (W.frame _ s' _ _ q1' (Nat.le_succ _) fun b z o e=>?_) q5 fun s2 mv2 q6=>?_⟩
  ·rw[sb.2 b (fun y:b=S=>hS1 (by rw[← y];exact z))];exact e
  ·refine q3 s2 (Moved.trans W.gtrans ((mv.mono more).then_heap (Nat.le_succ _) fun b o z e=>?_) mv2) q6
   rw[sb.2 b (fun y:b=S=>z (by rw[y];exact List.mem_cons_self))];exact e
end
section
variable {prog:Program}{w:World}{A:Around}{E:Value->Shared->Prop}{s:Shared}
abbrev O5(b:Bool):Obj:={ cls:=.type "set", dict:=none,data:=.set #[] 0 (.fresh 0 0 b) }
theorem ax5{l:Addr}{its:Array Value}{xs:List Str}{Q:Value->Shared->Prop}(hh:A.handled=none) (hl:s.heap.IsList l its) (hi:∀(i:Nat) (u:Value),its[i]? = some u->∃t,u=.str (xs.getD i "") t) (hb:its.size+1 < scanBound)
  (h:∀(h':Heap) (tk:Nat),h'.SetOf (strKind prog w) s.heap.objs.size (fun y=>(ddN (fun i=>xs.getD i "") its.size).any (· == y)) (ddN (fun i=>xs.getD i "") its.size).length ->
   (∀b o,b < s.heap.objs.size->s.heap.get? b=some o->h'.get? b=some o)->Q (.ref s.heap.objs.size) { s with heap:=h',toks:=tk }) :
  wpAny (model prog w) A (call (.type "set") [.ref l]) Q E s:=by
 obtain⟨c,tl,hmro⟩:=F.called_set.mro
 have hmade:=F.called_set.made
 have hsub:=F.called_set.sub
 refine wpAny_call (codeAny_of_tree ?_)
 show wpAny _ _ (callAny (.type "set") _) _ _ _
 refine wpAny_pure ⟨Code.quiet_builtin _ (by decide +kernel),codeAny_builtin F.entry_type_call ?_⟩
 rw[Around.under_plain (weight_type_call_type "set" [.ref l] []) rfl]
 have n1:=F.called_set.notType
 have n2:=F.called_set.canCreate
 have n3:=F.typeCall_set_1 (.ref l)
 repeat (any_goals (first|assumption|wp_step))
 refine codeAny_mono (code_set_new_1 (.ref l) (E:=E) (Q₁:=fun ob s1=>∃b:Bool,ob=.ref s.heap.objs.size/\s1={ s with heap:=s.heap.push (O5 b) }) fun b=>⟨b,rfl,rfl⟩) fun r s1 hr=>?_
 cases r with
 | error e=>exact hr
 | ok fl =>
  cases fl with
  | ret ob =>
   obtain⟨b,rfl,rfl⟩:=hr
   have g0:(s.heap.push (O5 b)).get? s.heap.objs.size=some (O5 b):=Heap.get?_push_size _ rfl
   have hT:Shared.TypeIs { s with heap:=s.heap.push (O5 b) } (.ref s.heap.objs.size) "set" := ⟨_,g0,rfl⟩
   have li:=F.called_set.init.lookup
   have bi:=F.called_set.init.bind (.ref s.heap.objs.size)
   repeat (any_goals (first|assumption|wp_step))
   refine codeAny_mono (codeAny_call_builtin (R:=wants (fun r s2=>r=.none/\∃h' tk,s2={ s with heap:=h',toks:=tk }/\h'.SetOf (strKind prog w) s.heap.objs.size (fun y=>(ddN (fun i=>xs.getD i "") its.size).any (· == y)) (ddN (fun i=>xs.getD i "") its.size).length /\
     (∀b o,b < s.heap.objs.size->s.heap.get? b=some o->h'.get? b=some o)) E) F.called_set.init.plain F.entry_set_init (check_set_init_1 hT ?_)) fun r2 s2 hr2=>?_
   ·obtain⟨⟨c0,d0,dt0,sl0⟩,hol,hcl,nl,hdl⟩:=hl
    simp only at hcl hdl
    subst hcl hdl
    have hol':(s.heap.push (O5 b)).get? l=some { cls:=.type "list", dict:=d0,data:=.seq its nl,slots:=sl0 }:=Heap.get?_push_of_some _ hol
    have f1:=F.sub_list_set
    have f2:=F.sub_list_frozenset
    have f3:(Value.type "list" == Value.type "dict")=false:=by decide
    have hl1:(s.heap.push (O5 b)).IsList l its:=⟨_,hol',rfl,nl,rfl⟩
    unfold Builtin.«set.__init__» noKeywords Builtin.Frozenset.updateFrom
    generalize hPI:pyIter=PI
    wp_walk
    subst hPI
    refine wpAny_pyIter_list hl1 (wpAny_bind (wpAny_runValue ?_))
    have lS:l < s.heap.objs.size:=Heap.lt_size hol
    have h3:A.in1.in1.in1.handled=none:=by simp[hh]
    have nI:l≠(s.heap.push (O5 b)).objs.size:=by
     rw[Heap.size_push]
     exact Nat.ne_of_lt (Nat.lt_succ_of_lt lS)
    have nf:s.heap.objs.size∉[(s.heap.push (O5 b)).objs.size,l]:=by
     rw[Heap.size_push]
     simp only[List.mem_cons,List.mem_singleton,List.not_mem_nil,or_false,not_or]
     exact⟨Nat.ne_of_lt (Nat.lt_succ_self _),Nat.ne_of_gt lS⟩
    refine aY0 ((Walks.list h3 _ l nI its).toS) s.heap.objs.size nf (fun i=>xs.getD i "") hi hb (its.size - 0) 0 _ (by omega) (Nat.zero_le _) ⟨⟨_,Heap.get?_push_size _ rfl,rfl,rfl⟩,(hl1.push _)⟩ ?hS0 ?hR
    case hS0 =>
     have gt:((s.heap.push (O5 b)).push { cls:=.type "list_iterator", data:=.fields #[.ref l,.int 0 0] }).get? s.heap.objs.size=some (O5 b):=Heap.get?_push_of_some _ g0
     exact SetOf_congr ((setObjOf_fresh (knd:=strKind prog w) b).setOf gt (by unfold scanBound;omega)) (fun _=>rfl) rfl
    case hR =>
     intro s' mv q
     obtain⟨h',g',d',tk',os'⟩:=s'
     have eg:g'=s.gens:=mv.gens
     have ed:d'=s.drawn:=mv.drawn
     have eo:os'=s.os:=mv.os
     subst eg ed eo
     show wpAny _ _ _ _ _ _
     refine wpAny_pure ?_
     show wpAny _ _ (ret Value.none) _ _ _
     refine wpAny_pure ⟨rfl,h',tk',rfl,q,fun c o hc e=>?_⟩
     have c1:c≠s.heap.objs.size:=Nat.ne_of_lt hc
     have c2:c≠(s.heap.push (O5 b)).objs.size:=by
      rw[Heap.size_push]
      exact Nat.ne_of_lt (Nat.lt_succ_of_lt hc)
     exact mv.heap c o (by simp only[List.mem_cons,List.mem_singleton,List.not_mem_nil,or_false,not_or];exact⟨c1,c2⟩) (Heap.get?_push_of_some _ (Heap.get?_push_of_some _ e))
   ·cases r2 with
    | error e=>exact hr2
    | ok fl2 =>
     cases fl2 with
     | ret r =>
      obtain⟨rfl,h',tk,rfl,q1,q2⟩:=hr2
      repeat (any_goals (first|assumption|wp_step))
      exact h _ _ q1 q2
     | _=>exact hr2.elim
  | _=>exact hr.elim
end
section
variable {X:Cx}
def SetO(X:Cx) (a:Addr) (n:Nat):HO:=.ext fun h=>∃S,h.SetOf (strKind X.prog X.w) a S n
theorem bM9:bootBuiltins "set" = some (.type "set"):=by decide +kernel
theorem aw8:∀{ys:List Str}{us:List Value},D2 (ys.map V.str) us->∀(i:Nat) (u:Value),us[i]? = some u->∃t,u=.str (ys.getD i "") t
 | [],[],_,i,u,h=>by simp at h
 | y::ys,u::us,h,i,v,e=>by
  cases h with
  | cons a b =>
   cases i with
   | zero =>
    simp only[xg0,Option.some.injEq]at e
    subst e
    obtain⟨t,e⟩:=a
    exact⟨t,e⟩
   | succ i =>
    simp only[xg1]at e
    obtain⟨t,e'⟩:=aw8 b i v e
    exact⟨t,e'⟩
theorem aU0(hc:X.calm=true):V6 X (.type "set") (fun xs H Q=>∃p ys,xs=[.ref p]/\SqL X.K H p (ys.map V.str)/\ys.length<=4000/\∀l,H l=none->Q (.ref l) (upd H l (SetO X l (ddS ys).length))):=by
 intro pins s σ H xs us Q I r h
 obtain⟨p,ys,rfl,hq,hz,q⟩:=h
 obtain⟨u,rfl,rx⟩:=t5 r
 cases rx
 obtain⟨its,rv,pl,_⟩:=I.list hq
 have hl:its.length=ys.length:=by have:=rv.length;rw[List.length_map]at this;exact this.symm
 have hs:its.toArray.size=ys.length:=by rw[List.size_toArray];exact hl
 refine ax5 (xs:=ys) (I.ok.hd hc) pl.isList (fun i u e=>aw8 rv i u (by rw[List.getElem?_toArray]at e;exact e)) (by rw[hs];unfold scanBound;omega) fun h' tk q1 q2=>?_
 rw[hs,bM6]at q1
 refine⟨.ref _,_,I.laid (a:=s.heap.objs.size) (o:=SetO X s.heap.objs.size (ddS ys).length) (h':=h') (t':=tk) (fun b o e=>q2 b o (Heap.lt_size e) e) (Nat.le_refl _) ⟨⟨_,q1⟩,?_,?_⟩,rfl,q _ I.fresh⟩
 ·obtain⟨o,es,ep,t,ho,_⟩:=q1
  exact⟨o,ho⟩
 ·intro h1 h2 ⟨S,o,es,ep,t,ho,M1⟩ k
  exact⟨S,o,es,ep,t,k o ho,M1⟩
theorem aU1:V6 X (.builtin "len") (fun xs H Q=>∃p n,xs=[.ref p]/\H p=some (SetO X p n)/\Q (.int n) H):=by
 intro pins s σ H xs us Q I r h
 obtain⟨p,n,rfl,hp,q⟩:=h
 obtain⟨u,rfl,rx⟩:=t5 r
 cases rx
 obtain⟨⟨S,o,es,ep,t,ho,hex,hd,_,_,hb,hf,hn⟩,_,_⟩:=I.hok p _ hp
 have:es.size < 4096:=hb
 exact call_len_set ho hex hd hf (by omega) ⟨.int n,H,I.tok _,⟨_,by rw[hn]⟩,q⟩
def ah5(f:Rho->Option (Bool×List D)):DE:=fun ρ=>(f ρ).bind fun q=>if q.1=true then none else(ai2 q.2).bind fun ys=>if ys.length<=4000 then some (.int (ddS ys).length) else none
theorem aR3{e:Expr}{f:Rho->Option (Bool×List D)}{p p2 pos pos2:Pos}(hg:Gl X "len") (hm:X.mg "len" = none) (hg2:Gl X "set") (hm2:X.mg "set" = none) (h:JQ X e f) (hc:X.calm=true) (he:starEach [e] X.env=[(false,eval e X.env)]) :
  JE X (.Call (.Name "len" p) [.Call (.Name "set" p2) [e] [] pos2] [] pos) (ah5 f):=fun ρ d q=>by
 obtain⟨⟨t,ds⟩,h1,q⟩:=xbo q
 split at q
 ·cases q
 ·rename_i ht
  have ht:t=false:=by simpa using ht
  subst ht
  obtain⟨ys,h2,q⟩:=xbo q
  split at q
  ·rename_i hz
   cases q
   refine C0 (R9 aU1 hg hm aI5 (G0 (U5 (aU0 hc) hg2 hm2 bM9 (G0 (h ρ false ds h1) L0 he) (he:=he)) L0 rfl)) fun σ H Q ⟨H0,Hf,s,sl,k⟩=>?_
   refine⟨H0,Hf,s,sl,fun v H1 Hf1 g1 ⟨a,vs,e1,e2,e3⟩=>⟨a,ys,by rw[e1],?_,hz,fun l hl=>⟨l,_,rfl,B7,?_⟩⟩⟩
   ·rw[← ac0 h2 e3];exact e2
   ·exact k _ _ _ (g1.trans (Grow.made g1.sub hl)) rfl
  ·cases q
end
section
variable {X:Cx}
def bt7(x y:Str):Bool:=!(Builtin.Str.occurrences y x 0 y.length 1).isEmpty
def inS(neg:Bool) (x y:D):Option D:=match x,y with
 | .str i,.str j=>some (.bool (if neg then !bt7 i j else bt7 i j))
 | _,_=>none
theorem bE3:OpD X (compareOp .In) (inS false):=fun x y z h=>by
 cases x<;>cases y<;>first|(cases h;done)|skip
 rename_i i j
 cases h
 refine OpR.imp aP8 fun vx vy H Q ⟨Hf,s,rx,ry,k⟩=>?_
 cases rx
 cases ry
 exact⟨i,j,rfl,rfl,k _ H Hf (Grow.refl s) rfl⟩
theorem aQ3:OpD X (compareOp .NotIn) (inS true):=fun x y z h=>by
 cases x<;>cases y<;>first|(cases h;done)|skip
 rename_i i j
 cases h
 refine OpR.imp at2 fun vx vy H Q ⟨Hf,s,rx,ry,k⟩=>?_
 cases rx
 cases ry
 exact⟨i,j,rfl,rfl,k _ H Hf (Grow.refl s) rfl⟩
def aN2(f:DE):DE:=fun ρ=>(f ρ).bind fun d=>match d with
 | .str x=>if x.length<=16777216 then some (.int x.length) else none
 | _=>none
theorem bs8{e:Expr}{f:DE}{p pos:Pos}(hg:Gl X "len") (hm:X.mg "len" = none) (h:JE X e f) (he:starEach [e] X.env=[(false,eval e X.env)]):JE X (.Call (.Name "len" p) [e] [] pos) (aN2 f):=fun ρ d q=>by
 obtain⟨y,h1,h2⟩:=xbo q
 obtain⟨x,rfl⟩:∃x,y=.str x:=by
  cases y with
  | str x=>exact⟨x,rfl⟩
  | _=>cases h2
 have h2:(if x.length<=16777216 then some (PyData.int x.length) else none)=some d:=h2
 split at h2
 ·rename_i hz
  cases h2
  refine C0 (R9 av1 hg hm aI5 (G0 (h ρ _ h1) L0 he) (he:=he)) fun σ H Q ⟨H0,Hf,s,sl,k⟩=>?_
  refine⟨H0,Hf,s,sl,fun v H1 Hf1 g1 r=>⟨x,?_,by rw[sizeLine_eq];exact hz,k _ H1 Hf1 g1 rfl⟩⟩
  cases r;rfl
 ·cases h2
def Its(x:Str):It:=⟨fun i _=>i < x.cps.size,fun i H v H'=>H'=H/\∃c,x.cps[i]? = some c/\v=.str ⟨#[c]⟩,fun i _=>x.cps.size<=i⟩
theorem aX0{P:Program}{w:World}{K:PySem.W.Frag}{tg:Expr}(x:Str) (t:Tok) (it:Addr):Turn P w K tg (Its x) [it] it (fun i h=>h.IsStrIter it "str_ascii_iterator" x t i) where
 mem:=by simp
 obj:=fun i h st b hb=>by
  have e:b=it:=by simpa using hb
  subst e
  obtain⟨o,e,c,d⟩:=st
  exact⟨o,e,fun v z=>by rw[d]at z;cases z⟩
 keep:=fun i h h' st k=>by
  obtain⟨o,e,r⟩:=st
  exact⟨o,k it (by simp) o e,r⟩
 item:=by
  intro X hP hw hK hc i pins s σ H E I hf st hg
  subst hP hw hK
  obtain⟨f0,f1,f2,f3,f4,f5⟩:=hf it (by simp)
  have hi:i < x.cps.size:=hg
  refine wpAny_pyNext_ascii_item st (c:=x.cps[i]) (by simp[hi]) fun h' st' sb=>?_
  have I1:Inv X pins σ H { s with heap:=h',toks:=s.toks+1 }:=I.turned (t':=s.toks+1) (fun b o hb e=>(sb.2 b hb).trans e) f0 f1 f3 f4 f5
  obtain⟨o,e,c,d⟩:=id st'
  exact⟨_,rfl,aM7 (s:={ s with heap:=h',toks:=s.toks+1 }) e c d (by decide) ⟨.str ⟨#[x.cps[i]]⟩,H,I1,⟨_,rfl⟩,⟨rfl,_,by simp[hi],rfl⟩,st',fun b hb=>(hf b hb).1⟩⟩
 done:=by
  intro X hP hw hK hc i pins s σ H E I hf st hg
  subst hP hw hK
  obtain⟨f0,f1,f2,f3,f4,f5⟩:=hf it (by simp)
  have hi:x.cps.size<=i:=hg
  exact wpAny_pyNext_ascii_end (I.ok.hd hc) st (by simp[hi]) fun h' eb=>⟨rfl,I.turned (t':=s.toks) (fun b o hb e=>eb b o hb e) f0 f1 f3 f4 f5⟩
 self:=fun _ _ _ _ _ st h=>wpAny_pyIter_striter_ascii st h
def ax3(x:Str):List D:=x.cps.toList.map fun c=>.str ⟨#[c]⟩
def bt6(f:DE):Rho->Option (List D):=fun ρ=>(f ρ).bind fun d=>match d with
 | .str x=>if x.cps.all (· < 128)=true then some (ax3 x) else none
 | _=>none
theorem bJ0{tg e:Expr}{f:DE}(h:JE X e f):JI X tg e (bt6 f):=fun ρ ds q=>by
 obtain⟨d,e1,e2⟩:=xbo q
 obtain⟨x,rfl⟩:∃x,d=.str x:=by
  cases d with
  | str x=>exact⟨x,rfl⟩
  | _=>cases e2
 have e2:(if x.cps.all (· < 128)=true then some (ax3 x) else none)=some ds:=e2
 split at e2
 ·rename_i ha
  cases e2
  intro pins s σ H R I ⟨H0,Hf,ss,sl,k⟩
  refine thn (h ρ _ e1 pins s σ H (fun v H'=>∃Hf',Grow H Hf H' Hf'/\v=.str x) I ⟨H0,Hf,ss,sl,fun v H' Hf' g r=>⟨Hf',g,r⟩⟩) fun v s1 ⟨y,H1,I1,r1,Hf1,g1,ey⟩=>?_
  subst ey
  obtain⟨t,rfl⟩:=r1
  refine wpAny_pyIter_ascii ha ?_
  have I2:Inv X pins σ H1 { s1 with heap:=s1.heap.push { cls:=.type "str_ascii_iterator", data:=.fields #[.str x t,.int 0 0] } }:=I1.kept (t':=s1.toks) fun b u e=>Heap.get?_push_of_some _ e
  refine⟨_,_,_,Its x,H1,rfl,I2,aX0 x t s1.heap.objs.size,⟨_,Heap.get?_push_size _ rfl,rfl,rfl⟩,fun b hb=>?_,k _ H1 Hf1 g1 fun i H' Hf' sa sb=>⟨fun hi=>?_,fun d hd=>?_⟩⟩
  ·have hb':s1.heap.objs.size<=b:=by rw[List.mem_singleton]at hb;rw[hb];exact Nat.le_refl _
   exact I1.fpOk hb' (I1.hok.fresh hb')
  ·show x.cps.size<=i
   simpa [ax3] using hi
  ·unfold ax3 at hd
   rw[List.getElem?_map]at hd
   obtain⟨c,c1,c2⟩:=xmo hd
   have c1':x.cps[i]? = some c:=by rw[← Array.getElem?_toList];exact c1
   refine⟨(Array.getElem?_eq_some_iff.mp c1').1,fun v H'' ⟨h1,c',h2,h3⟩=>?_⟩
   subst h1 h3 c2
   rw[c1']at h2
   cases h2
   exact⟨Hf',Grow.refl sb,rfl⟩
 ·cases e2
end
end G
namespace G
open PySem PySem.Spec PyProof PyProof.Rows L2
section
variable {X:Cx}
end
end G
namespace G
open PySem PySem.Spec PyProof.Rows L2
section
variable {prog:Program}{w:World}{A:Around}{E:Value->Shared->Prop}{s:Shared}{t:Bool}
end
section
variable {X:Cx}{pins:List (Addr×Obj)}{σ:L2.St}{A:Around}{t:Bool}{S e it a:Addr}{ws:List V}
end
section
variable {X:Cx}
end
section
open PySem.SeqAt PySem.MeetsSeq PySem.MeetsSeq2 PySem.MeetsSeq3 PySem.SeqRoads2
open PySem.AutoSeq1 (wpAny_loadPart')
end
section
variable {X:Cx}
end
section
variable {X:Cx}
def lsB(x:D) (ds:List D):Prop:=SeqAt.shaped x=true/\x.depth<=60/\ds.all SeqAt.shaped=true/\ds.all S2=true
instance (x:D) (ds:List D):Decidable (lsB x ds):=by unfold lsB;exact inferInstance
end
abbrev FnD:=List D->Option D
structure Sg where
 fn:List (Str×FnD×Nat)
 cs:List (Str×D)
 bl:List Str
structure Kx where
 N:List Str
 sc:Scope
 df:Bool
 own:List Nat
 cpt:List Nat
 tx:List Nat
 old:Bool
 fz:List (Nat×List Nat)
 hc:List ((Nat×Nat)×List Nat)
def biS(K:PySem.W.Frag) (n:Nat) (F:List D->Option D):List V->Hp->VK->Prop:=fun vs H Q=>vs.length=n/\∃Hf ds d,D0 Hf H/\Reps K Hf ds vs/\F ds=some d/\∀v H' Hf',Grow H Hf H' Hf'->Rep K Hf' d v->Q v H'
def bN9(x:Str) (F:FnD) (n:Nat):Prop:=0 < n/\x ≠ "__name__" /\ ∃nm,bootBuiltins x=some (.builtin nm)/\∀X:Cx,X.A.units+64 < cLine->V6 X (.builtin nm) (biS X.K n F)
theorem bT8{X:Cx}{n:Nat}{F:FnD}{x:Str}{e:Expr}{es:List Expr}{g:Rho->Option (List D)}{p pos:Pos}(hb:bN9 x F n) (hu:X.A.units+64 < cLine) (hg:Gl X x) (hm:X.mg x=none) (ha:JA X (e::es) g) (hn:(e::es).length=n) (hdb:(x==("__debug__" : Str))=false)
  (he:starEach (e::es) X.env=(false,eval e X.env)::starEach es X.env) (hpl:(backTo pos (starEach es X.env)).any (·.1)=false):JE X (.Call (.Name x p) (e::es) [] pos) (A2 F g):=fun ρ d q=>by
 obtain⟨ds,h1,h2⟩:=xbo q
 obtain⟨_,hnn,nm,hv,hc⟩:=hb
 refine C0 (R9 (hc X hu) hg hm hv (ha.run ρ ds h1) hnn hdb he hpl) fun σ H Q ⟨H0,Hf,s,sl,kk⟩=>?_
 exact⟨H0,Hf,s,sl,fun vs H1 Hf1 g1 r1=>⟨by rw[r1.length,ha.len ρ ds h1,hn],Hf1,ds,d,g1.sub,r1,h2,fun v H2 Hf2 g2 r2=>kk v H2 Hf2 (g1.trans g2) r2⟩⟩
def bZ8(X:Cx) (x:Str) (F:FnD) (n:Nat):Prop:=(∃(k:Nat) (f:Addr) (fd:FuncData) (ps:List Str),FnOk X.prog X.w X.K X.mg X.base CX0 k f fd ps (spF X.K n F)/\Room k X.A/\X.mg x=some (.ref f)/\PySem.W.keepIn X.K (.ref f)=true/\K3 X.K fd ps [])\/(X.mg x=none/\bN9 x F n)
structure Fit (S:Sg) (c:Kx) (X:Cx):Prop where
 N:X.N=c.N
 sc:X.env.scope=c.sc
 nd:c.N.Nodup
 calm:X.calm=true
 xe:X.xe=fun _ _=>False
 units:X.A.units+64 < cLine
 df:c.df=true->(∀x,X.fn x=true)/\c.sc.kind=.function
 fns:∀x F n,S.fn.lookup x=some (F,n)->bZ8 X x F n
 css:∀x d,S.cs.lookup x=some d->∃u,aC3 X.K d u/\X.mg x=some u
 bls:∀x,S.bl.contains x=true->X.mg x=none
def pl:Expr->Bool
 | .Starred ..=>false
 | .Slice ..=>false
 | .Set ..=>false
 | _=>true
def aG1:Expr->Bool
 | .Call ..=>false
 | _=>true
def isC:Expr->Bool
 | .ListComp ..=>true
 | .SetComp ..=>true
 | .DictComp ..=>true
 | _=>false
def plT:Expr->Bool
 | .UnaryOp ..=>false
 | .BoolOp ..=>false
 | .IfExp ..=>false
 | .Compare ..=>false
 | _=>true
def T9(x:Str):List Str->Option Nat
 | []=>none
 | y::r=>if y==x then some 0 else(T9 x r).map (·+1)
theorem az9{x:Str}:∀{l:List Str}{i:Nat},T9 x l=some i->l[i]? = some x
 | [],i,h=>by cases h
 | y::r,i,h=>by
  unfold T9 at h
  split at h
  ·rename_i e
   cases h
   simp only[beq_iff_eq]at e
   subst e;rfl
  ·obtain⟨j,h1,h2⟩:=xmo h
   subst h2
   simpa using az9 h1
def ac6:List Str->Bool
 | []=>true
 | x::r=>!(r.contains x)&&ac6 r
theorem ac5:∀{l:List Str},ac6 l=true->l.Nodup
 | [],_=>List.nodup_nil
 | x::r,h=>by
  unfold ac6 at h
  simp only[Bool.and_eq_true,Bool.not_eq_true']at h
  refine List.nodup_cons.mpr ⟨fun z=>?_,ac5 h.2⟩
  have:=h.1
  rw[List.contains_iff_mem.mpr z]at this
  cases this
def ar6(sc:Scope) (x:Str):Bool:=(match sc.names.lookup x with|some .local=>true|some .cell=>true|some .free=>true|_=>false) && !(x==("__debug__" : Str)) && !(x==("__classdict__" : Str))
def aG4(c:Kx) (x:Str):Bool:=(match c.sc.names.lookup x with|some .local=>true|some .cell=>c.df|_=>false)
def ag1(sc:Scope) (x:Str):Bool:=(match sc.names.lookup x with|some .globalImplicit=>true|_=>false) && !(x==("__debug__" : Str))
def biB(S:Sg) (c:Kx) (w x:Str):Bool:=x==w&&S.bl.contains w&&ag1 c.sc w
section
variable {X:Cx}{S:Sg}{c:Kx}
theorem V7{x:Str}(F:Fit S c X) (h:ar6 c.sc x=true):Vis X.env.scope x/\(x==("__debug__" : Str))=false/\(x==("__classdict__" : Str))=false:=by
 unfold ar6 at h
 simp only[Bool.and_eq_true,Bool.not_eq_true']at h
 obtain⟨⟨h1,h2⟩,h3⟩:=h
 refine⟨?_,h2,h3⟩
 rw[F.sc]
 unfold Vis
 split at h1
 ·rename_i e;exact .inl e
 ·rename_i e;exact .inr (.inl e)
 ·rename_i e;exact .inr (.inr e)
 ·cases h1
theorem ah1{x:Str}(F:Fit S c X) (h:aG4 c x=true):L2.Loc X.env.scope x/\(X.fn x=true\/X.env.scope.names.lookup x=some .local):=by
 unfold aG4 at h
 rw[F.sc]
 unfold L2.Loc
 split at h
 ·rename_i e;exact⟨.inl e,.inr e⟩
 ·rename_i e;exact⟨.inr e,.inl ((F.df h).1 x)⟩
 ·cases h
theorem T2{x:Str}(F:Fit S c X) (h:ag1 c.sc x=true):Gl X x/\(x==("__debug__" : Str))=false:=by
 unfold ag1 at h
 simp only[Bool.and_eq_true,Bool.not_eq_true']at h
 refine⟨?_,h.2⟩
 unfold Gl Env.kindOf
 rw[F.sc]
 have h1:=h.1
 split at h1
 ·rename_i e;exact e
 ·cases h1
theorem G7{w x:Str}(F:Fit S c X) (h:biB S c w x=true):x=w/\Gl X w/\X.mg w=none:=by
 unfold biB at h
 simp only[Bool.and_eq_true,beq_iff_eq]at h
 exact⟨h.1.1,(T2 F h.2).1,F.bls _ h.1.2⟩
theorem J4{e:Expr}(h:pl e=true) (es:List Expr) (env:Env):starEach (e::es) env=(false,eval e env)::starEach es env:=by cases e<;>first|rfl|cases h
theorem bw8{e:Expr}(h:pl e=true):ah8 e:=by
 intro o i
 cases e<;>first|rfl|cases h
theorem u8{e:Expr}(h:pl e=true) (op:CmpOp):behindInMarks op e=false:=by cases e<;>first|rfl|cases h
theorem aK7{e:Expr}(h:pl e=true) (env:Env) (x:Value):foldedSetIterable e env x=pure x:=by cases e<;>first|rfl|cases h
theorem ay6{o:Expr}(h:aG1 o=true) (attr:Str) (env:Env) (t:Sem Value):attributeBase o attr env t=t:=by cases o<;>first|rfl|cases h
theorem Y9{e:Expr}(h:isC e=false) (t:Option Expr) (l:Nat) (env:Env):swapsWith e t l env=pure false:=by cases e<;>first|rfl|cases h
theorem aZ4{e:Expr}(h:plT e=true) (env:Env) (whole:Sem Value):isTrue e env whole=(do let v ← whole;standAt e.pos;holding [v] (truthy v)):=by cases e<;>first|rfl|cases h
end
abbrev DA:=Rho->Option (List D)
abbrev DQ:=Rho->Option (Bool×List D)
abbrev DT:=Rho->Option Bool
abbrev DG:=D->Rho->Option Rho
def dNo:DE:=fun _=>none
def aNo:DA:=fun _=>none
def qNo:DQ:=fun _=>none
def tNo:DT:=fun _=>none
def gNo:DG:=fun _ _=>none
structure Ev where
 e:Kx->Expr->DE
 q:Kx->Expr->DQ
 n:Kx->Expr->DA
 t:Kx->Expr->DT
 g:Kx->Expr->DG
 b:Kx->List Stmt->DS
def aB7:CmpOp->D->D->Option D
 | .Lt=>ltI | .LtE=>leI | .Gt=>gtI | .GtE=>geI | .Eq=>eqD | .NotEq=>neD | .Is=>isB | .IsNot=>ac4 | .In=>inD false | .NotIn=>inD true
def evA(f:Expr->DE):List Expr->DA
 | []=>A3
 | e::es=>if pl e then A0 (f e) (evA f es) else aNo
def aR6(f:Expr->DE) (op:BoolOp):List Expr->DE
 | []=>dNo
 | [a]=>f a
 | a::b::r=>match op with
  | .And=>L3 (f a) (aR6 f op (b::r))
  | .Or=>dOr (f a) (aR6 f op (b::r))
def bh3(f:Expr->DT) (op:BoolOp):List Expr->DT
 | []=>tNo
 | [a]=>f a
 | a::b::r=>match op with
  | .And=>X6 (f a) (bh3 f op (b::r))
  | .Or=>L5 (f a) (bh3 f op (b::r))
def evO(f:Expr->DE):Option Expr->Rho->Option (Option Int)
 | none=>K8
 | some e=>E8 (f e)
def bL8(f:Expr->DG):List Expr->List D->Rho->Option Rho
 | []=>O0
 | e::es=>E1 (f e) (bL8 f es)
def bh2(f:Expr->DT):List Expr->DT
 | []=>C9
 | [t]=>f t
 | _=>tNo
def Q2:Expr->List Str
 | .Name x _=>[x]
 | .Tuple es _ _=>es.filterMap fun | .Name x _=>some x|_=>none
 | _=>[]
def rl(scope sc:Scope):Scope:={ scope with names:=scope.names.map fun(n,k)=>if(k == .free&&sc.kind == .function&&sc.names.lookup n==some .cell) then(n,.cell) else(n,k) }
def bg1(n:Nat) (caps l:List Nat):List Nat:=(List.range caps.length).filterMap fun i=>match caps[i]? with|some j=>if l.contains j then some (n+i) else none|none=>none
def bP9(c:Kx) (j:Nat):Str:=(c.N[j]?).getD ""
def inner(c:Kx) (tn:List Str) (caps:List Nat) (scope:Scope):Kx :=
 { N:=tn++caps.map (bP9 c),sc:=rl scope c.sc,df:=false,own:=bg1 tn.length caps c.own,cpt:=[],tx:=bg1 tn.length caps c.tx,old:=c.old,fz:=[],hc:=c.hc }
def isList:Expr->Bool
 | .List ..=>true
 | .ListComp ..=>true
 | _=>false
def w6(c:Kx) (l:List Nat):Expr->Bool
 | .Name x _=>(match T9 x c.N with|some i=>l.contains i|none=>false)
 | _=>false
def bK8:Expr->Bool
 | .Constant (.str _) _ _=>true
 | _=>false
def bO9(S:Sg) (c:Kx):Expr->Bool
 | .Constant (.str _) _ _=>true
 | .Name x _=>(match T9 x c.N with|some _=>false|none=>(match S.cs.lookup x with|some (.str _)=>true|_=>false))
 | _=>false
def opW(S:Sg) (c:Kx) (op:CmpOp) (b:Expr):D->D->Option D:=if bO9 S c b then(match op with
 | .In=>inS false
 | .NotIn=>inS true
 | _=>aB7 op) else aB7 op
def aA2:Expr->Bool
 | .Tuple ..=>true
 | _=>false
def bA5(x:Str):Option String:=if x == "int" then some "int" else if x == "bool" then some "bool" else if x == "str" then some "str" else if x == "tuple" then some "tuple" else if x == "list" then some "list" else none
section
variable (S:Sg) (r:Ev)
def evR(c:Kx) (tg:Expr) (a:Expr):DA:=match a with
 | .Call f as kw _=>(match f,as,kw with
  | .Name y _,[e],[]=>(match e with
   | .Call f2 as2 kw2 _=>(match f2,as2,kw2 with
    | .Name z _,[b],[]=>if biB S c "list" y&&biB S c "enumerate" z&&aA2 tg&&pl b then fun _=>none else fun _=>none
    | _,_,_=>fun _=>none)
   | _=>fun _=>none)
  | _,_,_=>fun _=>none)
 | _=>fun _=>none
def evI(c:Kx) (tg it:Expr):DA:=match it with
 | .Call (.Name x _) [a] [] _=>if biB S c "reversed" x then evR S c tg a else if biB S c "range" x&&pl a then F6 (r.e c a) else if biB S c "enumerate" x&&aA2 tg&&pl a then aA3 (qE (r.e c a)) else G6 (r.e c it)
 | .Call (.Name x _) [a,b] [] _=>if biB S c "range" x&&pl a&&pl b then(fun _=>none) else if biB S c "zip" x&&aA2 tg&&pl a&&pl b then(fun _=>none) else G6 (r.e c it)
 | _=>if w6 c c.tx it then bt6 (r.e c it) else G6 (r.e c it)
def evC(c:Kx) (ex:Expr):DA:=match ex with
 | .ListComp elt [⟨tgt,iter,ifs,0⟩] scope pos =>
  let tn:=Q2 tgt
  let caps:=(c.hc.lookup (pos.line,pos.col)).getD []
  let c':=inner c tn caps scope
  if ah7 c.N c'.N tn.length caps c.sc scope&&ac6 c'.N&&pl iter then C4 tn.length caps (evI S r c tgt iter) (r.g c' tgt) (bh2 (r.t c') ifs) (r.e c' elt) else aNo
 | _=>aNo
def aD2(c:Kx) (x:Str) (a:Expr):DE :=
 if !(pl a) then dNo
 else if biB S c "len" x then(match a with
  | .Call (.Name y _) [e] [] _=>if biB S c "set" y&&pl e then ah5 (r.q c e) else N6 (r.q c a)
  | _=>if w6 c c.tx a then aN2 (r.e c a) else N6 (r.q c a))
 else if biB S c "tuple" x then J3 (r.q c a)
 else if biB S c "all" x then X4 (r.q c a)
 else if biB S c "int" x then aa2 (r.e c a)
 else if biB S c "str" x then dNo
 else if biB S c "abs" x then dNo
 else if biB S c "min" x then dNo
 else if biB S c "max" x then dNo
 else dNo
def aD1(c:Kx) (x:Str) (a b:Expr):DE :=
 if !(pl a) then dNo
 else if biB S c "isinstance" x then(match b with
  | .Name y _=>(match bA5 y with
   | some T=>if biB S c y y then P0 T (r.e c a) else dNo
   | none=>dNo)
  | _=>dNo)
 else if !(pl b) then dNo
 else if biB S c "min" x then dNo
 else if biB S c "max" x then dNo
 else dNo
def aW8(c:Kx) (x:Str) (args:List Expr) (ex:Expr):DE:=match S.fn.lookup x with
 | some (F,n)=>if ag1 c.sc x&&args.length==n&&args.all pl then A2 F (evA (r.e c) args) else dNo
 | none=>match args with
  | [a]=>if biB S c "list" x then Q0 (r.n c ex) else aD2 S r c x a
  | [a,b]=>aD1 S r c x a b
  | _=>dNo
def bz4(c:Kx) (a i:Expr):DE:=match i with
 | .Slice lo hi none _ =>
  if c.old then X3 (r.e c a) (evO (r.e c) lo) (evO (r.e c) hi)
  else if w6 c c.tx a then aT5 (r.e c a) (evO (r.e c) lo) (evO (r.e c) hi)
  else if w6 c c.own a then aT6 (r.q c a) (evO (r.e c) lo) (evO (r.e c) hi)
  else ag4 (r.e c a) (evO (r.e c) lo) (evO (r.e c) hi)
 | .Slice none none (some (.UnaryOp .USub (.Constant (.int 1) _ _) _)) _=>by1 (r.e c a)
 | _=>if pl i then(if bK8 a then o6 (r.e c a) (r.e c i) else dIx (r.q c a) (r.e c i)) else dNo
def xCn(k:Const):DE:=match k with
 | .none=>dC .none
 | .bool b=>dC (.bool b)
 | .int i=>dC (.int i)
 | .str x=>dC (.str x)
 | _=>dNo
def bA0(c:Kx) (a:Expr) (op:Operator) (b:Expr):DE:=match op with
 | .Add=>if c.old && !(isList a || isList b) then A5 V0 (r.e c a) (r.e c b) else A5 B0 (r.e c a) (r.e c b)
 | .Sub=>A5 am0 (r.e c a) (r.e c b)
 | .Mult=>if c.old then A5 Q3 (r.e c a) (r.e c b) else(match a with
  | .Subscript v _ _=>if w6 c c.tx v then A5 aQ8 (r.e c a) (r.e c b) else A5 E6 (r.e c a) (r.e c b)
  | _=>A5 E6 (r.e c a) (r.e c b))
 | .FloorDiv=>A5 n8 (r.e c a) (r.e c b)
 | .Mod=>A5 S8 (r.e c a) (r.e c b)
 | .Pow=>dNo
 | _=>dNo
def xUn(c:Kx) (op:UnaryOp) (a:Expr):DE:=match op with
 | .USub=>aT7 (r.e c a)
 | .Not=>aa1 (r.e c a)
 | _=>dNo
def bz8(c:Kx) (a:Expr) (ops:List CmpOp) (bs:List Expr):DE:=match ops,bs with
 | [op],[b]=>if pl b then A5 (opW S c op b) (r.e c a) (r.e c b) else dNo
 | [op,op'],[b,d]=>if pl d then J9 (aB7 op) (aB7 op') (r.e c a) (r.e c b) (r.e c d) else dNo
 | _,_=>dNo
def bz6(c:Kx) (o:Expr) (m:Str) (apos cpos:Pos) (args:List Expr):DE:=match args with
 | [a]=>if m == "join" && aG1 o&&apos.endLine==cpos.line&&pl a then ak4 (r.e c o) (r.q c a) else if m == "index" && aG1 o&&apos.endLine==cpos.line&&pl a then dNo else dNo
 | _=>dNo
def xCl(c:Kx) (f:Expr) (args:List Expr) (kw:List Keyword) (pos:Pos):DE:=match kw with
 | []=>(match f with
  | .Name x p=>aW8 S r c x args (.Call (.Name x p) args [] pos)
  | .Attribute o m apos=>bz6 r c o m apos pos args
  | _=>dNo)
 | _=>dNo
def xE(c:Kx) (ex:Expr):DE:=match ex with
 | .Constant k _ _=>xCn k
 | .Name x _=>(match T9 x c.N with
  | some i=>if ar6 c.sc x then A1 i else dNo
  | none=>(match S.cs.lookup x with
   | some d=>if ag1 c.sc x then dC d else dNo
   | none=>dNo))
 | .Tuple es _ _=>if es.length<=1000 then F0 (evA (r.e c) es) else dNo
 | .List _ _=>Q0 (r.n c ex)
 | .ListComp _ _ _ _=>Q0 (r.n c ex)
 | .BinOp a op b _=>bA0 r c a op b
 | .UnaryOp op a _=>xUn r c op a
 | .Compare a ops bs _=>bz8 S r c a ops bs
 | .BoolOp op vs _=>aR6 (r.e c) op vs
 | .IfExp t a b _=>o7 (r.t c t) (r.e c a) (r.e c b)
 | .Subscript a i _=>bz4 r c a i
 | .Call f args kw pos=>xCl S r c f args kw pos
 | _=>dNo
def bY6(c:Kx) (f:Expr) (as:List Expr) (kw:List Keyword):Bool:=match f with
 | .Name x _=>as.length==1&&kw.isEmpty&&biB S c "list" x
 | _=>false
def xQ(c:Kx) (ex:Expr):DQ:=match ex with
 | .Name x _=>(match T9 x c.N with
  | some i=>if ar6 c.sc x then A7 i else qNo
  | none=>qE (r.e c ex))
 | .List _ _=>qN (r.n c ex)
 | .ListComp _ _ _ _=>qN (r.n c ex)
 | .Call f as kw _=>if bY6 S c f as kw then qN (r.n c ex) else qE (r.e c ex)
 | _=>qE (r.e c ex)
def xNl(c:Kx) (f:Expr) (as:List Expr) (kw:List Keyword):DA:=match f with
 | .Name x _=>(match as,kw with
  | [a],[]=>if biB S c "list" x&&pl a then(fun ρ=>(r.q c a ρ).map fun q=>q.2) else aNo
  | _,_=>aNo)
 | _=>aNo
def xN(c:Kx) (ex:Expr):DA:=match ex with
 | .List es _=>if es.length<=1000 then evA (r.e c) es else aNo
 | .ListComp _ _ _ _=>evC S r c ex
 | .Call f as kw _=>xNl S r c f as kw
 | .BinOp a op b _=>(match op with
  | .Add=>aQ7 (r.q c a) (r.q c b)
  | _=>aNo)
 | _=>aNo
def bv8(c:Kx) (a:Expr) (ops:List CmpOp) (bs:List Expr):DT:=match ops,bs with
 | [op],[b]=>if pl b then tB2 (opW S c op b) (r.e c a) (r.e c b) else tNo
 | [op,op'],[b,d]=>if pl d then aP1 (J9 (aB7 op) (aB7 op') (r.e c a) (r.e c b) (r.e c d)) else tNo
 | _,_=>tNo
def bW0(c:Kx) (op:UnaryOp) (a:Expr):DT:=match op with
 | .Not=>F7 (r.t c a)
 | _=>tNo
def xT(c:Kx) (ex:Expr):DT:=match ex with
 | .Compare a ops bs _=>bv8 S r c a ops bs
 | .BoolOp op vs _=>bh3 (r.t c) op vs
 | .UnaryOp op a _=>bW0 r c op a
 | _=>if plT ex then G1 (r.e c ex) else tNo
def xG(c:Kx) (ex:Expr):DG:=match ex with
 | .Name x _=>(match T9 x c.N with
  | some i=>if aG4 c x then B6 i else gNo
  | none=>gNo)
 | .Tuple es _ _=>if es.all pl then M7 es.length (bL8 (r.g c) es) else gNo
 | _=>gNo
def bQ8(c:Kx) (x y:Str) (px py:Pos) (a b:Expr):Bool :=
 c.df&&pl a&&pl b && !(x==y)&&px.line==py.line&&c.sc.names.lookup x==some .local&&c.sc.names.lookup y==some .local && !(([a,b]:List Expr).all (foldedForSure 8)) && !(([a,b]:List Expr).all (constantsAlone 8))
def bA1(c:Kx) (tg v:Expr) (p:Pos):DS:=match tg with
 | .Name x p'=>(match T9 x c.N with
  | none=>C2
  | some i=>if !(aG4 c x) then C2 else(match v with
   | .ListComp _ _ sc pv=>if c.sc.names.lookup x==some .local then
     (if c.df&&p'.line==pv.line && !(sc.names.any fun(n,k)=>n==x&&(k == .local || k == .cell)) then(if c.own.contains i then S7 i (evC S r c v) else Q6 i (evC S r c v)) else C2)
    else B3 i (r.e c v)
   | _=>if isC v then C2 else if c.own.contains i then S7 i (r.n c v) else B3 i (r.e c v)))
 | .Subscript (.Name x _) (.Slice lo hi none _) _=>(match T9 x c.N with
  | none=>C2
  | some i=>if ar6 c.sc x && !(isC v) then aY1 i (evO (r.e c) lo) (evO (r.e c) hi) (r.n c v) else C2)
 | .Tuple [.Name x px,.Name y py] _ _=>(match v with
  | .Tuple [a,b] _ _=>(match T9 x c.N,T9 y c.N with
   | some i,some j=>if bQ8 c x y px py a b then aY2 i j (evA (r.e c) [a,b]) else C2
   | _,_=>C2)
  | .Tuple _ _ _=>C2
  | _=>ab9 (r.e c v) (r.g c tg))
 | .Tuple es _ _=>if aA2 v&&(es.length==2 || es.length==3) then C2 else ab9 (r.e c v) (r.g c tg)
 | _=>C2
def bz5(c:Kx) (x m:Str) (e:Expr):DS:=match T9 x c.N with
 | none=>C2
 | some i=>if ar6 c.sc x&&pl e then(if m == "append" then P8 i (r.e c e) else if m == "extend" then am2 i (r.e c e) else C2) else C2
def xEx(c:Kx) (e:Expr):DS:=match e with
 | .Call f args kw cpos=>(match f with
  | .Attribute o m apos=>(match o with
   | .Name x _=>(match args,kw with
    | [e],[]=>if apos.endLine==cpos.line then bz5 r c x m e else C2
    | _,_=>C2)
   | _=>C2)
  | _=>C2)
 | _=>C2
def bW1(c:Kx):Option Expr->DS
 | some e=>A9 (r.e c e)
 | none=>C2
def xWh(c:Kx) (t:Expr) (a:List Stmt):List Stmt->DS
 | []=>W1 (r.t c t) (r.b c a)
 | _=>C2
def xFo(c:Kx) (tg it:Expr) (a:List Stmt):List Stmt->DS
 | []=>if pl it then P7 (evI S r c tg it) (r.g c tg) (r.b c a) else C2
 | _=>C2
def xAs(c:Kx) (v:Expr) (p:Pos):List Expr->DS
 | [tg]=>bA1 S r c tg v p
 | _=>C2
def xS0(c:Kx) (st:Stmt):DS:=match st with
 | .Return o _=>bW1 r c o
 | .If t a b _=>sIf (r.t c t) (r.b c a) (r.b c b)
 | .While t a o _=>xWh r c t a o
 | .For tg it a o _=>xFo S r c tg it a o
 | .Assign ts v p=>xAs S r c v p ts
 | .Expr e _=>xEx r c e
 | .Continue _=>bw4
 | .Break _=>fun ρ=>some (.bk ρ)
 | .Pass _=>C7
 | _=>C2
def bG4:Stmt->Nat
 | .Return _ p=>p.line
 | .If _ _ _ p=>p.line
 | .While _ _ _ p=>p.line
 | .For _ _ _ _ p=>p.line
 | .Assign _ _ p=>p.line
 | .Expr _ p=>p.line
 | _=>0
def fzW(g:DS):Option (List Nat)->DS
 | none=>g
 | some l=>l.foldl (fun g i=>as0 i g) g
def xS(c:Kx) (st:Stmt):DS:=fzW (xS0 S r c st) (c.fz.lookup (bG4 st))
def evB(f:Stmt->DS):List Stmt->DS
 | []=>C7
 | [s]=>f s
 | s::t::M1=>A8 (f s) (evB f (t::M1))
def step:Ev:=⟨xE S r,xQ S r,xN S r,xT S r,xG r,fun c=>evB (xS S r c)⟩
end
def ev(S:Sg):Nat->Ev
 | 0=>⟨fun _ _=>dNo,fun _ _=>qNo,fun _ _=>aNo,fun _ _=>tNo,fun _ _=>gNo,fun _ _=>C2⟩
 | n+1=>step S (ev S n)
end G
namespace Sh
open PySem PySem.Spec PyProof.Rows L2 G
def ar2:DS:=(A9 (L3 (P0 "str" (A1 0)) (L3 (J9 leI leI ⇑1 (aN2 (A1 0)) ⇑6) (X4 (qN (C4 1 [] (bt6 (A1 0)) (B6 0) C9 (A5 (inS false) (A1 0) (dC (.str "abcdefghijklmnopqrstuvwxyz")))))))))
def ae0:List D->Option D:=C3 ar2 1
def aJ4:DS:=(A9 (P0 "bool" (A1 0)))
def r8:List D->Option D:=C3 aJ4 1
def af1:DS:=(A9 (L3 (A2 K6 (A0 (A1 0) A3)) (J9 leI leI (aT7 ⇑9) (A1 0) ⇑9)))
def T5:List D->Option D:=C3 af1 1
def ar3:DS:=(A8 (sIf (tB2 isB (A1 0) (dC .none)) (A9 (dC (.bool true))) C7) (A8 (sIf (L5 (F7 (G1 (P0 "tuple" (A1 0)))) (tB2 neD (N6 (A7 0)) (N6 (qE (dIx (A7 1) ⇑2))))) (A9 (dC (.bool false))) C7) (A9 (X4 (qN (C4 1 [] (G6 (A1 0)) (B6 0) C9 (A2 P4 (A0 (A1 0) A3))))))))
def ae1:List D->Option D:=C3 ar3 2
def Q9:DS:=(A8 (sIf (L5 (tB2 neD (N6 (A7 0)) ⇑9) (L5 (tB2 (inD true) (A2 L7 (A0 (A1 0) A3)) (dC (.tuple [(.str "over"),(.str "multiply"),(.str "screen"),(.str "plus"),(.str "atop"),(.str "cut")]))) (F7 (G1 (A2 r9 (A0 (A2 S4 (A0 (A1 0) A3)) A3)))))) (A9 (dC (.bool false))) C7) (A9 (L3 (A2 T5 (A0 (A2 h9 (A0 (A1 0) A3)) A3)) (L3 (A2 T5 (A0 (A2 ab3 (A0 (A1 0) A3)) A3)) (A2 ae1 (A0 (A2 g8 (A0 (A1 0) A3)) (A0 (A2 S4 (A0 (A1 0) A3)) A3)))))))
def J6:List D->Option D:=C3 Q9 1
def M3(self:Nat->List D->Option D):DS:=(A8 (sIf (L5 (tB2 neD (N6 (A7 0)) ⇑6) (L5 (tB2 (inD true) (A2 L7 (A0 (A1 0) A3)) (dC (.tuple [(.str "over"),(.str "multiply"),(.str "screen"),(.str "plus"),(.str "atop"),(.str "cut")]))) (tB2 eqD (A1 1) ⇑0))) (A9 (dC (.bool false))) C7) (A9 (A2 (self 2) (A0 (A2 D5 (A0 (A1 0) A3)) (A0 (A5 am0 (A1 1) ⇑1) A3)))))
def K9(self:Nat->List D->Option D):DS:=(A8 (sIf (L5 (F7 (G1 (P0 "tuple" (A1 0)))) (tB2 ltI (N6 (A7 0)) ⇑5)) (A9 (dC (.bool false))) C7) (A8 (sIf (L5 (F7 (G1 (A2 ae0 (A0 (A2 M0 (A0 (A1 0) A3)) A3)))) (L5 (F7 (G1 (A2 P4 (A0 (A2 M9 (A0 (A1 0) A3)) A3)))) (F7 (G1 (A2 r8 (A0 (A2 S6 (A0 (A1 0) A3)) A3)))))) (A9 (dC (.bool false))) C7) (A8 (sIf (G1 (A2 N8 (A0 (A1 0) A3))) (A9 (A2 J6 (A0 (A1 0) A3))) C7) (A8 (sIf (G1 (A2 J2 (A0 (A1 0) A3))) (A9 (A2 (self 0) (A0 (A1 0) (A0 (A1 1) A3)))) C7) (A9 (L3 (A2 R7 (A0 (A1 0) A3)) (L3 (A5 eqD (N6 (A7 0)) ⇑5) (A5 (inD false) (A2 V1 (A0 (A1 0) A3)) (dC (.tuple [(.str "turn"),(.str "grey"),(.str "round")]))))))))))
def Z8(self:Nat->List D->Option D):DS:=(A9 (L3 (P0 "tuple" (A1 0)) (X4 (qN (C4 1 [1] (G6 (A1 0)) (B6 0) C9 (A2 (self 1) (A0 (A1 0) (A0 (A1 1) A3))))))))
def A4:Nat->Nat->List D->Option D
 | 0=>fun _ _=>none
 | k+1=>fun i=>match i with
  | 0=>C3 (M3 (A4 k)) 2
  | 1=>C3 (K9 (A4 k)) 2
  | 2=>C3 (Z8 (A4 k)) 2
  | _=>fun _=>none
def j9(k:Nat):List D->Option D:=A4 k 0
def Q5(k:Nat):List D->Option D:=A4 k 1
def Q1(k:Nat):List D->Option D:=A4 k 2
def k9(self:List D->Option D):DS:=(A8 (S7 1 A3) (A8 (P7 (G6 (A1 0)) (B6 2) (A8 (P8 1 (A2 M0 (A0 (A1 2) A3))) (sIf (G1 (A2 J2 (A0 (A1 2) A3))) (am2 1 (A2 self (A0 (A2 D5 (A0 (A1 2) A3)) A3))) C7))) (as0 1 (A9 (A1 1)))))
def D4:Nat->List D->Option D
 | 0=>fun _=>none
 | k+1=>C3 (k9 (D4 k)) 3
def S3:DS:=(A8 (B3 1 (A2 (D4 12) (A0 (A1 0) A3))) (A9 (A5 eqD (ah5 (A7 1)) (N6 (A7 1)))))
def N9:List D->Option D:=C3 S3 2
def ab1:DS:=(A9 (L3 (A2 S5 (A0 (A1 0) A3)) (L3 (A2 (Q1 12) (A0 (dIx (A7 0) ⇑2) (A0 ⇑3 A3))) (A2 N9 (A0 (dIx (A7 0) ⇑2) A3)))))
def K7:List D->Option D:=C3 ab1 1
def ag5:DS:=(A8 (Q6 2 (C4 2 [1] (G6 (A2 aC9 (A0 (dIx (A7 0) ⇑0) (A0 (dIx (A7 0) ⇑1) A3)))) (M7 2 (E1 (B6 0) (E1 (B6 1) O0))) C9 (A2 (aW1 12) (A0 (A1 2) (A0 (A1 0) (A0 (A1 1) A3)))))) (A9 (F0 (A0 (dIx (A7 0) ⇑0) (A0 (dIx (A7 0) ⇑1) (A0 (J3 (A7 2)) A3))))))
def ag7:List D->Option D:=C3 ag5 3
def al4:DS:=(A9 (A2 (D4 12) (A0 (dIx (A7 0) ⇑2) A3)))
def r6:List D->Option D:=C3 al4 1
def aC6(self:List D->Option D):DS:=(A8 (S7 3 A3) (A8 (P7 (G6 (A1 0)) (B6 4) (sIf (tB2 eqD (dIx (A7 4) ⇑1) (A1 1)) (am2 3 (A1 2)) (sIf (tB2 eqD (dIx (A7 4) ⇑0) (dC (.str "group"))) (P8 3 (A5 B0 (ag4 (A1 4) K8 (E8 ⇑5)) (F0 (A0 (A2 self (A0 (dIx (A7 4) ⇑5) (A0 (A1 1) (A0 (A1 2) A3)))) A3)))) (P8 3 (A1 4))))) (A9 (J3 (A7 3)))))
def K1:Nat->List D->Option D
 | 0=>fun _=>none
 | k+1=>C3 (aC6 (K1 k)) 5
def bj8:DS:=(A8 (sIf (L5 (G1 (A2 R7 (A0 (A1 1) A3))) (L5 (F7 (G1 (A2 S6 (A0 (A1 1) A3)))) (tB2 neD (A2 L7 (A0 (A1 1) A3)) (dC (.str "over"))))) (A9 (dC (.bool false))) C7) (A9 (X4 (qN (C4 1 [] (G6 (dIx (qE (A2 ag7 (A0 (A1 0) (A0 (A1 1) A3)))) ⇑2)) (B6 0) C9 (A5 eqD (dIx (A7 0) ⇑0) (dC (.tuple [(.int 1),(.int 1)]))))))))
def bj9:List D->Option D:=C3 bj8 2
def aa8:DS:=(A8 (B3 2 (A2 K0 (A0 (A1 0) (A0 (A1 1) A3)))) (A9 (dIx (A7 2) (A2 D3 (A0 (A1 2) (A0 (A1 1) A3))))))
def O8:List D->Option D:=C3 aa8 3
end Sh
namespace Sh
open PySem G
theorem aj5(i j:Int):neD (.int i) (.int j)=some (.bool (!(i==j))):=rfl
theorem ag2(i j:Int):eqD (.int i) (.int j)=some (.bool (i==j)):=rfl
theorem aM5{t:Rho->Option Bool}{f:DS}{n:Nat}{ρ ρ':Rho}(h1:t ρ=some true) (h2:f ρ=some (.nx ρ')):P9 t f (n+1) ρ=P9 t f n ρ':=by simp only[P9,h1,h2,xbs,if_true]
theorem bg6:∀(b a:Nat) (x:Option B),∃n x',P9 (tB2 neD (A1 1) ⇑0) (A8 (B3 2 (A5 S8 (A1 0) (A1 1))) (A8 (B3 0 (A1 1)) (B3 1 (A1 2)))) n [‹.int a›,‹.int b›,x]
  = some (.nx [‹.int (Nat.gcd a b)›,‹.int 0›,x']):=by
 intro b
 induction b using Nat.strongRecOn with
 | _ b ih =>
  intro a x
  by_cases hb:b=0
  ·subst hb
   refine⟨1,x,?_⟩
   rw[Nat.gcd_zero_right]
   rfl
  ·obtain⟨n,x',h⟩:=ih (a % b) (Nat.mod_lt _ (Nat.pos_of_ne_zero hb)) b (‹.int ((a % b:Nat):Int)›)
   refine⟨n+1,x',?_⟩
   have e1:tB2 neD (A1 1) ⇑0 [‹.int a›,‹.int b›,x]=some true:=by
    show(neD (.int b) (.int 0)).bind G4=some true
    rw[aj5]
    have:((b:Int)==0)=false:=by simp;omega
    rw[this];rfl
   have e2:S8 (.int a) (.int b)=some (.int ((a % b:Nat):Int)):=by
    show(if(0:Int) < (b:Int) then some (PyData.int ((a:Int) % (b:Int))) else none)=_
    rw[if_pos (by omega)]
    simp
   have e3:A8 (B3 2 (A5 S8 (A1 0) (A1 1))) (A8 (B3 0 (A1 1)) (B3 1 (A1 2))) [‹.int a›,‹.int b›,x]=some (.nx [‹.int b›,‹.int ((a % b:Nat):Int)›,‹.int ((a % b:Nat):Int)›]):=by
    show((((S8 (.int a) (.int b))).map fun d=>Fl.nx [‹.int a›,‹.int b›,‹d›]).bind _)=_
    rw[e2]
    rfl
   rw[aM5 e1 e3,h,Nat.gcd_comm b,Nat.gcd_comm a b,← Nat.gcd_rec]
theorem by7(a b:Nat):K2 [.int a,.int b]=some (.int (Nat.gcd a b)):=by
 obtain⟨n,x',h⟩:=bg6 b a none
 show((W1 _ _ [‹.int a›,‹.int b›,none]).bind _).bind _=_
 rw[ao4 h]
 rfl
theorem aR0:∀(a b:Nat) (t u:D),∃n,P9 (tB2 gtI (A1 2) ⇑0) (aY2 2 3 (A0 (A5 S8 (A1 3) (A1 2)) (A0 (A1 2) A3))) n [‹t›,‹u›,‹.int a›,‹.int b›]
  = some (.nx [‹t›,‹u›,‹.int 0›,‹.int (Nat.gcd a b)›]):=by
 intro a
 induction a using Nat.strongRecOn with
 | _ a ih =>
  intro b t u
  by_cases ha:a=0
  ·subst ha
   refine⟨1,?_⟩
   rw[Nat.gcd_zero_left]
   rfl
  ·obtain⟨n,h⟩:=ih (b % a) (Nat.mod_lt _ (Nat.pos_of_ne_zero ha)) a t u
   refine⟨n+1,?_⟩
   have e1:tB2 gtI (A1 2) ⇑0 [‹t›,‹u›,‹.int a›,‹.int b›]=some true:=by
    show some (decide ((0:Int) < (a:Int)))=some true
    rw[decide_eq_true (by omega)]
   have e2:S8 (.int b) (.int a)=some (.int ((b % a:Nat):Int)):=by
    show(if(0:Int) < (a:Int) then some (PyData.int ((b:Int) % (a:Int))) else none)=_
    rw[if_pos (by omega)]
    simp
   have e3:aY2 2 3 (A0 (A5 S8 (A1 3) (A1 2)) (A0 (A1 2) A3)) [‹t›,‹u›,‹.int a›,‹.int b›]=some (.nx [‹t›,‹u›,‹.int ((b % a:Nat):Int)›,‹.int a›]):=by
    show((S8 (.int b) (.int a)).bind fun d=>(some [PyData.int (a:Int)]).map fun ds=>d::ds).bind _=_
    rw[e2]
    rfl
   rw[aM5 e1 e3,h,← Nat.gcd_rec]
def fr(r:Rat):D:=.tuple [.int r.num,.int r.den]
theorem F8{i:Int}{k:Nat}(h:i.natAbs < 2 ^ k) (hk:k<=8000):E3 i:=Nat.lt_of_lt_of_le h (Nat.pow_le_pow_right (by decide) hk)
theorem az5(a b:Nat) (hb:0 < b):fr (mkRat a b)=.tuple [.int ((a / Nat.gcd a b:Nat):Int),.int ((b / Nat.gcd a b:Nat):Int)]:=by
 unfold fr
 rw[Rat.num_mkRat,Rat.den_mkRat,if_neg (by omega),if_neg (by omega)]
 have e:b.gcd (a:Int).natAbs=Nat.gcd a b:=by rw[Int.natAbs_natCast,Nat.gcd_comm]
 rw[e]
 simp
theorem aN1(a b x k:Nat) (hb:0 < b) (hk:b < 2 ^ k) (hk8:k<=8000):n8 (.int x) (.int (Nat.gcd a b))=some (.int ((x / Nat.gcd a b:Nat):Int)):=by
 have g0:0 < Nat.gcd a b:=Nat.gcd_pos_of_pos_right _ hb
 have gs:E3 (Nat.gcd a b:Nat):=F8 (k:=k) (by rw[Int.natAbs_natCast];exact Nat.lt_of_le_of_lt (Nat.le_of_dvd hb (Nat.gcd_dvd_right a b)) hk) hk8
 show(if(0:Int) < ((Nat.gcd a b:Nat):Int)/\E3 (Nat.gcd a b:Nat) then some (PyData.int ((x:Int) / ((Nat.gcd a b:Nat):Int))) else none)=_
 rw[if_pos ⟨by omega,gs⟩]
 simp
theorem bv7(a b k:Nat) (hb:0 < b) (hk:b < 2 ^ k) (hk8:k<=8000):R5 [.int a,.int b]=some (fr (mkRat a b)):=by
 have d:=fun x=>aN1 a b x k hb hk hk8
 have e:R3 [‹.int a›,‹.int b›,none]=some (.rt (fr (mkRat a b))):=by
  rw[az5 a b hb]
  simp only[R3,A8,B3,A2,A0,A3,A1,xg0,xg1,xbs,xms,by7,xw1,xw0,A9,F0,A5,d]
 show(R3 [‹.int a›,‹.int b›,none]).bind _=_
 rw[e];rfl
theorem aJ8(a b k:Nat) (hb:0 < b) (hk:b < 2 ^ k) (hk8:k<=8000):V3 [.int a,.int b]=some (fr (mkRat a b)):=by
 have d:=fun x=>aN1 a b x k hb hk hk8
 obtain⟨n,h⟩:=aR0 a b (.int a) (.int b)
 have e:aa9 [‹.int a›,‹.int b›,none,none]=some (.rt (fr (mkRat a b))):=by
  rw[az5 a b hb]
  simp only[aa9,A8,B3,A2,A0,A3,A1,xg0,xg1,xbs,xms,xw1,xw0,A9,F0,A5,d,ao4 h]
 show(aa9 [‹.int a›,‹.int b›,none,none]).bind _=_
 rw[e];rfl
structure Bd (k:Nat) (r:Rat):Prop where
 nn:0<=r
 num:r.num.natAbs < 2 ^ k
 den:r.den < 2 ^ k
theorem Bd.mono{j k:Nat}{r:Rat}(h:Bd j r) (l:j<=k):Bd k r:=⟨h.nn,Nat.lt_of_lt_of_le h.num (Nat.pow_le_pow_right (by decide) l),Nat.lt_of_lt_of_le h.den (Nat.pow_le_pow_right (by decide) l)⟩
theorem Bd.nat{k:Nat}{r:Rat}(h:Bd k r):r.num=(r.num.natAbs:Int):=by
 have:=Rat.num_nonneg.mpr h.nn
 omega
theorem bb9(a b:Nat):0<=mkRat (a:Int) b:=by
 rw[← Rat.num_nonneg,Rat.num_mkRat]
 split
 ·exact Int.le_refl _
 ·exact Int.ediv_nonneg (by omega) (by omega)
theorem Bd.of{a b k:Nat}(hb:0 < b) (h1:a < 2 ^ k) (h2:b < 2 ^ k):Bd k (mkRat a b):=by
 refine⟨bb9 a b,?_,?_⟩
 ·rw[Rat.num_mkRat,if_neg (by omega)]
  rw[show((a:Int) / ((b.gcd (a:Int).natAbs:Nat):Int))=((a / b.gcd (a:Int).natAbs:Nat):Int) by simp,Int.natAbs_natCast]
  exact Nat.lt_of_le_of_lt (Nat.div_le_self _ _) h1
 ·rw[Rat.den_mkRat,if_neg (by omega)]
  exact Nat.lt_of_le_of_lt (Nat.div_le_self _ _) h2
theorem W5{a b j k:Nat}(h1:a < 2 ^ j) (h2:b < 2 ^ k):a*b < 2 ^ (j+k):=by
 rw[Nat.pow_add]
 exact Nat.mul_lt_mul'' h1 h2
theorem as6{j k:Nat}{r s:Rat}(hr:Bd j r) (hs:Bd k s):r*s=mkRat ((r.num.natAbs*s.num.natAbs:Nat):Int) (r.den*s.den):=by rw[Rat.mul_def,Rat.normalize_eq_mkRat,Int.natCast_mul,← hr.nat,← hs.nat]
theorem K5(r:Rat):0 < r.den:=Nat.pos_of_ne_zero r.den_nz
theorem Bd.mul{j k:Nat}{r s:Rat}(hr:Bd j r) (hs:Bd k s):Bd (j+k) (r*s):=by
 rw[as6 hr hs]
 exact Bd.of (Nat.mul_pos (K5 r) (K5 s)) (W5 hr.num hs.num) (W5 hr.den hs.den)
theorem Bd.one:Bd 1 1:=⟨by decide,by decide,by decide⟩
theorem Bd.zero:Bd 1 0:=⟨by decide,by decide,by decide⟩
theorem Bd.sn{k:Nat}{r:Rat}(h:Bd k r) (hk:k<=8000):E3 r.num:=F8 h.num hk
theorem Bd.sd{k:Nat}{r:Rat}(h:Bd k r) (hk:k<=8000):E3 r.den:=F8 (k:=k) (by rw[Int.natAbs_natCast];exact h.den) hk
theorem Q7{i j:Int}(h1:E3 i) (h2:E3 j):Q3 (.int i) (.int j)=some (.int (i*j)):=by
 show(if E3 i/\E3 j then some (PyData.int (i*j)) else none)=_
 rw[if_pos ⟨h1,h2⟩]
theorem aa4(i j:Int):V0 (.int i) (.int j)=some (.int (i+j)):=rfl
theorem t7(i j:Int):am0 (.int i) (.int j)=some (.int (i - j)):=rfl
theorem am3(i j:Int):leI (.int i) (.int j)=some (.bool (decide (i<=j))):=rfl
theorem an3(a b:D):L2.atI [a,b] 0=some a:=rfl
theorem an2(a b:D):L2.atI [a,b] 1=some b:=rfl
theorem ix0{ρ:Rho}{i:Nat}{r:Rat}(h:ρ[i]? = some (‹fr r›)):dIx (A7 i) ⇑0 ρ=some (.int r.num):=by simp only[dIx,A7,h,fr,dC,xbs,an3]
theorem ix1{ρ:Rho}{i:Nat}{r:Rat}(h:ρ[i]? = some (‹fr r›)):dIx (A7 i) ⇑1 ρ=some (.int r.den):=by simp only[dIx,A7,h,fr,dC,xbs,an2]
theorem v0(x:Option B) (l:Rho):(x::l)[0]? = some x:=rfl
theorem v1(y x:Option B) (l:Rho):(y::x::l)[1]? = some x:=rfl
theorem W8{j k:Nat}{r s:Rat}(hr:Bd j r) (hs:Bd k s) (l:j+k<=8000):N3 [fr r,fr s]=some (fr (r*s)):=by
 have e:ah9 [‹fr r›,‹fr s›]=some (.rt (fr (r*s))):=by
  simp only[ah9,A9,A2,A0,A3,A5,ix0 (v0 _ _),ix1 (v0 _ _),ix0 (v1 _ _ _),ix1 (v1 _ _ _),xbs,xms,Q7 (hr.sn (by omega)) (hs.sn (by omega)),Q7 (hr.sd (by omega)) (hs.sd (by omega))]
  have:=bv7 (r.num.natAbs*s.num.natAbs) (r.den*s.den) (j+k) (Nat.mul_pos (K5 r) (K5 s)) (W5 hr.den hs.den) l
  rw[← as6 hr hs,Int.natCast_mul,Int.natCast_mul,← hr.nat,← hs.nat]at this
  rw[this];rfl
 show(ah9 [‹fr r›,‹fr s›]).bind _=_
 rw[e];rfl
theorem Z9{j k:Nat}{r s:Rat}(hr:Bd j r) (hs:Bd k s) (l:j+k<=8000):R6 [fr r,fr s]=some (.bool (decide (r<=s))):=by
 have e:R4 [‹fr r›,‹fr s›]=some (.rt (.bool (decide (r<=s)))):=by
  simp only[R4,A9,A2,A0,A3,A5,ix0 (v0 _ _),ix1 (v0 _ _),ix0 (v1 _ _ _),ix1 (v1 _ _ _),xbs,xms,Q7 (hr.sn (by omega)) (hs.sd (by omega)),Q7 (hs.sn (by omega)) (hr.sd (by omega)),am3]
  simp only[← Rat.le_iff]
 show(R4 [‹fr r›,‹fr s›]).bind _=_
 rw[e];rfl
end Sh
set_option exponentiation.threshold 9000
namespace Sh
open PySem G L2
theorem at7(i j:Int):ltI (.int i) (.int j)=some (.bool (decide (i < j))):=rfl
theorem au3(i j:Int):gtI (.int i) (.int j)=some (.bool (decide (j < i))):=rfl
theorem af6{α:Type}(x:α):List.replicate 0 x=[]:=rfl
theorem af5{α:Type}(x:α):List.replicate 1 x=[x]:=rfl
theorem af4{α:Type}(x:α):List.replicate 2 x=[x,x]:=rfl
theorem X2(a b c d:D):U0 [a,b,c,d] (some 1) none=[b,c,d]:=rfl
theorem av7(a b c d:D):L2.atI [a,b,c,d] 0=some a:=rfl
theorem av6(a b c d:D):L2.atI [a,b,c,d] 1=some b:=rfl
theorem av5(a b c d:D):L2.atI [a,b,c,d] 2=some c:=rfl
theorem av4(a b c d:D):L2.atI [a,b,c,d] 3=some d:=rfl
theorem aw0(a b c:D):L2.atI [a,b,c] 0=some a:=rfl
theorem av9(a b c:D):L2.atI [a,b,c] 1=some b:=rfl
theorem av8(a b c:D):L2.atI [a,b,c] 2=some c:=rfl
theorem U2{n k:Nat}(h:n < 2 ^ k) (hk:k<=8000):E3 (n:Int):=F8 (k:=k) (by rw[Int.natAbs_natCast];exact h) hk
theorem az3{i j:Int}(h:0 < j):S8 (.int i) (.int j)=some (.int (i % j)):=by
 show(if(0:Int) < j then some (PyData.int (i % j)) else none)=_
 rw[if_pos h]
theorem aN0{i j:Int}(h:0 < j) (s:E3 j):n8 (.int i) (.int j)=some (.int (i / j)):=by
 show(if(0:Int) < j/\E3 j then some (PyData.int (i / j)) else none)=_
 rw[if_pos ⟨h,s⟩]
theorem B2{g:DS}{n:Nat}{ds:List D}{ρ:Rho}{d:D}(h:L6 n ds=ρ) (e:g ρ=some (.rt d)):C3 g n ds=some d:=by
 unfold C3
 rw[h,e];rfl
theorem p6{j k:Nat}{r s:Rat}(hr:Bd j r) (hs:Bd k s) (l:j+k<=8000):ad8 [fr r,fr s]=some (fr (r*s)):=by
 refine B2 (ρ:=[‹fr r›,‹fr s›]) rfl ?_
 simp only[aq6,A9,A2,A0,A3,A5,ix0 (v0 _ _),ix1 (v0 _ _),ix0 (v1 _ _ _),ix1 (v1 _ _ _),xbs,xms,Q7 (hr.sn (by omega)) (hs.sn (by omega)),Q7 (hr.sd (by omega)) (hs.sd (by omega))]
 have:=aJ8 (r.num.natAbs*s.num.natAbs) (r.den*s.den) (j+k) (Nat.mul_pos (K5 r) (K5 s)) (W5 hr.den hs.den) l
 rw[← as6 hr hs,Int.natCast_mul,Int.natCast_mul,← hr.nat,← hs.nat]at this
 rw[this];rfl
def ap8(ns:List Int) (k:Nat):Int:=if ns.length=0 then 7*(k:Int) else ns.getD (k % ns.length) 0+6553*((k / ns.length:Nat):Int)
theorem bh5(ns:List Int):eqD (.list (ns.map PyData.int)) (.list [])=some (.bool (decide (ns.length=0))):=by
 have h1:SeqAt.shaped (.list (ns.map PyData.int))=true:=by
  have c:∀l:List Int,PyData.canLayAll0 (l.map PyData.int)=true:=fun l=>by
   induction l with
   | nil=>rfl
   | cons a r ih=>simp only[xmc,PyData.canLayAll0,PyData.canLay0,ih];rfl
  have d:∀l:List Int,PyData.depthAll (l.map PyData.int)=0:=fun l=>by
   induction l with
   | nil=>rfl
   | cons a r ih=>simp only[xmc,PyData.depthAll,PyData.depth,ih];rfl
  unfold SeqAt.shaped
  simp only[PyData.canLay0,c,PyData.depth,d]
  rfl
 unfold eqD
 rw[if_pos ⟨h1,rfl⟩]
 cases ns with
 | nil=>rfl
 | cons a r=>simp[PyData.eqv,PyData.eqvAll]
theorem bN8(ns:List Int) (k:Nat) (hn:ns.length<=63) (hk:k < 2 ^ 60):al9 [.list (ns.map PyData.int),.int k]=some (.int (ap8 ns k)):=by
 refine B2 (ρ:=[‹.list (ns.map PyData.int)›,‹.int k›]) rfl ?_
 have sk:E3 (k:Int):=U2 hk (by decide)
 by_cases h:ns.length=0
 ·have e:ap8 ns k=7*(k:Int):=by unfold ap8;rw[if_pos h]
  simp only[al6,A8,B3,A9,sIf,C7,Q6,ab9,A1,dC,F0,Q0,A5,A2,o7,L3,dOr,aa1,J9,dIx,X3,N6,J3,X4,aa2,P0,A7,qE,qN,ab7,K8,E8,Z3,A3,A0,G1,tB2,X6,L5,F7,ab4,G4,C4,M8,U1,C9,B6,M7,E1,O0,G6,F6,w9,w4,xg0,xg1,xw0,xw1,xbs,xms,xmc,xmn,xna,xca,aa4,t7,am3,aj5,ag2,at7,au3,af6,af5,af4,X2,av7,av6,av5,av4,aw0,av9,av8,an3,an2,xnt,xnf,xft,if_true,if_false,ite_true,ite_false,bh5,h,decide_true,Q7 (i:=7) (F8 (k:=3) (by decide) (by decide)) sk,e]
 ·have e:ap8 ns k=ns.getD (k % ns.length) 0+6553*((k / ns.length:Nat):Int):=by unfold ap8;rw[if_neg h]
  have hl:(List.map PyData.int ns).length=ns.length:=List.length_map ..
  have hp:0 < ns.length:=Nat.pos_of_ne_zero h
  have m1:S8 (.int k) (.int ns.length)=some (.int ((k % ns.length:Nat):Int)):=by rw[az3 (by omega)];simp
  have m2:n8 (.int k) (.int ns.length)=some (.int ((k / ns.length:Nat):Int)):=by rw[aN0 (by omega) (U2 (k:=6) (by omega) (by decide))];simp
  have m3:L2.atI (List.map PyData.int ns) ((k % ns.length:Nat):Int)=some (.int (ns.getD (k % ns.length) 0)):=by
   refine L2.bu8 ?_
   have hlt:k % ns.length < ns.length:=Nat.mod_lt _ hp
   rw[List.getElem?_map,List.getElem?_eq_getElem hlt]
   simp[List.getD,hlt]
  have sq:E3 ((k / ns.length:Nat):Int):=U2 (k:=60) (Nat.lt_of_le_of_lt (Nat.div_le_self _ _) hk) (by decide)
  simp only[al6,A8,B3,A9,sIf,C7,Q6,ab9,A1,dC,F0,Q0,A5,A2,o7,L3,dOr,aa1,J9,dIx,X3,N6,J3,X4,aa2,P0,A7,qE,qN,ab7,K8,E8,Z3,A3,A0,G1,tB2,X6,L5,F7,ab4,G4,C4,M8,U1,C9,B6,M7,E1,O0,G6,F6,w9,w4,xg0,xg1,xw0,xw1,xbs,xms,xmc,xmn,xna,xca,aa4,t7,am3,aj5,ag2,at7,au3,af6,af5,af4,X2,av7,av6,av5,av4,aw0,av9,av8,an3,an2,xnt,xnf,xft,if_true,if_false,ite_true,ite_false,bh5,h,decide_false,hl,m1,m2,m3,Q7 (i:=6553) (F8 (k:=13) (by decide) (by decide)) sq,e]
def y9(ns:List Int) (k:Nat) (m:Int):Int :=
 let c:=(ap8 ns k % 2147483563*69069+104723*((k:Int)+1)) % 2147483563
 let c:=(c*c+c / 3) % 2147483399
 (c*c+c / 7) % 2147483647 / 11 % m
theorem ax2{i:Int}(h0:0<=i) (h:i < 4294967296):E3 i:=F8 (k:=32) (by omega) (by decide)
theorem ai0(ns:List Int) (k:Nat) (m:Int) (hn:ns.length<=63) (hk:k < 2 ^ 60) (hm:0 < m):A6 [.list (ns.map PyData.int),.int k,.int m]=some (.int (y9 ns k m)):=by
 refine B2 (ρ:=[‹.list (ns.map PyData.int)›,‹.int k›,‹.int m›,none]) rfl ?_
 have c0:∀x:Int,E3 (x % 2147483563):=fun x=>ax2 (by omega) (by omega)
 have c1:∀x:Int,E3 (x % 2147483399):=fun x=>ax2 (by omega) (by omega)
 have sk:E3 ((k:Int)+1):=F8 (k:=61) (by omega) (by decide)
 have s1:E3 69069:=F8 (k:=17) (by decide) (by decide)
 have s2:E3 104723:=F8 (k:=17) (by decide) (by decide)
 have s3:E3 3:=F8 (k:=2) (by decide) (by decide)
 have s7:E3 7:=F8 (k:=3) (by decide) (by decide)
 have s11:E3 11:=F8 (k:=4) (by decide) (by decide)
 simp only[ar0,A8,B3,A9,sIf,C7,Q6,ab9,A1,dC,F0,Q0,A5,A2,o7,L3,dOr,aa1,J9,dIx,X3,N6,J3,X4,aa2,P0,A7,qE,qN,ab7,K8,E8,Z3,A3,A0,G1,tB2,X6,L5,F7,ab4,G4,C4,M8,U1,C9,B6,M7,E1,O0,G6,F6,w9,w4,xg0,xg1,xw0,xw1,xbs,xms,xmc,xmn,xna,xca,aa4,t7,am3,aj5,ag2,at7,au3,af6,af5,af4,X2,av7,av6,av5,av4,aw0,av9,av8,an3,an2,xnt,xnf,xft,if_true,if_false,ite_true,ite_false,bN8 ns k hn hk,az3 (show(0:Int) < 2147483563 by decide),az3 (show(0:Int) < 2147483399 by decide),az3 (show(0:Int) < 2147483647 by decide),az3 hm,Q7 (c0 _) s1,Q7 s2 sk,Q7 (c0 _) (c0 _),Q7 (c1 _) (c1 _),aN0 (show(0:Int) < 3 by decide) s3,aN0 (show(0:Int) < 7 by decide) s7,aN0 (show(0:Int) < 11 by decide) s11]
 rfl
theorem ah4(ns:List Int) (k:Nat) (m:Int) (hm:0 < m):0<=y9 ns k m/\y9 ns k m < m:=by
 unfold y9
 exact⟨Int.emod_nonneg _ (by omega),Int.emod_lt_of_pos _ hm⟩
structure IsSh (k:Nat) (r:Rat):Prop where
 bd:Bd k r
 le:r<=1
theorem aR1{a b:Nat}(hb:0 < b) (h:a<=b):mkRat (a:Int) b<=1:=by
 rw[Rat.le_iff,Rat.num_mkRat,Rat.den_mkRat,if_neg (by omega),if_neg (by omega)]
 have e0:(1:Rat).num=1:=rfl
 have e1:(1:Rat).den=1:=rfl
 rw[e0,e1]
 have:a / b.gcd a<=b / b.gcd a:=Nat.div_le_div_right h
 simp
 exact_mod_cast this
theorem c7(ns:List Int) (at':Nat) (hn:ns.length<=63) (hk:at' < 2 ^ 40):∃r,G9 [.list (ns.map PyData.int),.int at']=some (fr r)/\IsSh 4 r:=by
 obtain⟨u0,u1⟩:=ah4 ns at' 12 (by decide)
 obtain⟨u,hu⟩:∃u:Nat,(1:Int)+y9 ns at' 12=u/\0 < u/\u<=12:=⟨(1+y9 ns at' 12).toNat,by omega,by omega,by omega⟩
 obtain⟨t0,t1⟩:=ah4 ns (at'+1) ((u:Int)+1) (by omega)
 obtain⟨t,ht⟩:∃t:Nat,y9 ns (at'+1) ((u:Int)+1)=t/\t<=u:=⟨(y9 ns (at'+1) ((u:Int)+1)).toNat,by omega,by omega⟩
 obtain⟨p0,p1⟩:=ah4 ns (at'+2) 5 (by decide)
 have hs:IsSh 4 (mkRat (t:Int) u):=⟨Bd.of (by omega) (by omega) (by omega),aR1 (by omega) (by omega)⟩
 have e1:=ai0 ns at' 12 hn (by omega) (by decide)
 have e2:=ai0 ns (at'+1) ((u:Int)+1) hn (by omega) (by omega)
 have e3:=ai0 ns (at'+2) 5 hn (by omega) (by decide)
 have e4:=aJ8 t u 4 (by omega) (by omega) (by decide)
 have c1:((at':Int)+1)=((at'+1:Nat):Int):=by omega
 have c2:((at':Int)+2)=((at'+2:Nat):Int):=by omega
 rw[ht.1]at e2
 have pick:∀(j:Int),0<=j->j < 5->∃r,L2.atI [fr (mkRat (t:Int) u),fr (mkRat (t:Int) u),fr (mkRat (t:Int) u),.tuple [.int 0,.int 1],.tuple [.int 1,.int 1]] j=some (fr r)/\IsSh 4 r:=fun j h0 h5=>by
  have:j=0\/j=1\/j=2\/j=3\/j=4:=by omega
  rcases this with rfl|rfl|rfl|rfl|rfl
  ·exact⟨_,rfl,hs⟩
  ·exact⟨_,rfl,hs⟩
  ·exact⟨_,rfl,hs⟩
  ·exact⟨0,rfl,Bd.zero.mono (by decide),by decide⟩
  ·exact⟨1,rfl,Bd.one.mono (by decide),by decide⟩
 obtain⟨r,hr1,hr2⟩:=pick _ p0 p1
 refine⟨r,B2 (ρ:=[‹.list (ns.map PyData.int)›,‹.int at'›,none,none]) rfl ?_,hr2⟩
 simp only[aq7,A8,B3,A9,sIf,C7,Q6,ab9,A1,dC,F0,Q0,A5,A2,o7,L3,dOr,aa1,J9,dIx,X3,N6,J3,X4,aa2,P0,A7,qE,qN,ab7,K8,E8,Z3,A3,A0,G1,tB2,X6,L5,F7,ab4,G4,C4,M8,U1,C9,B6,M7,E1,O0,G6,F6,w9,w4,xg0,xg1,xw0,xw1,xbs,xms,xmc,xmn,xna,xca,aa4,t7,am3,aj5,ag2,at7,au3,af6,af5,af4,X2,av7,av6,av5,av4,aw0,av9,av8,an3,an2,xnt,xnf,xft,if_true,if_false,ite_true,ite_false,e1,hu.1,c1,c2,e2,e3,e4,hr1]
def sp(c x y z:Rat):D:=.tuple [fr c,fr x,fr y,fr z]
structure Spot (k:Nat) (c x y z:Rat):Prop where
 hc:IsSh k c
 hx:Bd k x
 hy:Bd k y
 hz:Bd k z
 xc:x<=c
 yc:y<=c
 zc:z<=c
theorem IsSh.mono{j k:Nat}{r:Rat}(h:IsSh j r) (l:j<=k):IsSh k r:=⟨h.bd.mono l,h.le⟩
theorem Spot.mono{j k:Nat}{c x y z:Rat}(h:Spot j c x y z) (l:j<=k):Spot k c x y z:=⟨h.hc.mono l,h.hx.mono l,h.hy.mono l,h.hz.mono l,h.xc,h.yc,h.zc⟩
theorem Z0{c r:Rat}(hc:0<=c) (hr:r<=1):c*r<=c:=by
 have:=Rat.mul_le_mul_of_nonneg_right hr hc
 grind
theorem bX4:W2 0 3=[.int 0,.int 1,.int 2]:=rfl
theorem bN7(ns:List Int) (k:Nat) (hn:ns.length<=63) (hk:k < 2 ^ 30):∃c x y z,V2 [.list (ns.map PyData.int),.int k]=some (sp c x y z)/\Spot 8 c x y z:=by
 obtain⟨c,ec,hc⟩:=c7 ns k hn (by omega)
 obtain⟨a0,e0,h0⟩:=c7 ns (k+3) hn (by omega)
 obtain⟨a1,e1,h1⟩:=c7 ns (k+6) hn (by omega)
 obtain⟨a2,e2,h2⟩:=c7 ns (k+9) hn (by omega)
 refine⟨c,c*a0,c*a1,c*a2,?_,⟨hc.mono (by decide),hc.bd.mul h0.bd,hc.bd.mul h1.bd,hc.bd.mul h2.bd,Z0 hc.bd.nn h0.le,Z0 hc.bd.nn h1.le,Z0 hc.bd.nn h2.le⟩⟩
 refine B2 (ρ:=[‹.list (ns.map PyData.int)›,‹.int k›,none]) rfl ?_
 have i0:(k:Int)+3+3*0=((k+3:Nat):Int):=by omega
 have i1:(k:Int)+3+3*1=((k+6:Nat):Int):=by omega
 have i2:(k:Int)+3+3*2=((k+9:Nat):Int):=by omega
 have s0:E3 0:=F8 (k:=2) (by decide) (by decide)
 have s1:E3 1:=F8 (k:=2) (by decide) (by decide)
 have s2:E3 2:=F8 (k:=2) (by decide) (by decide)
 have s3:E3 3:=F8 (k:=2) (by decide) (by decide)
 have m0:=Q7 s3 s0
 have m1:=Q7 s3 s1
 have m2:=Q7 s3 s2
 have r3:((-(2 ^ 62):Int)<=3/\(3:Int) < 2 ^ 62):=by decide
 have l3:([PyData.int 0,.int 1,.int 2]:List D).length<=16777216:=by decide
 have ct:∀a b c d:D,V0 (.tuple [a]) (.tuple [b,c,d])=some (.tuple [a,b,c,d]):=fun a b c d=>rfl
 simp only[aC7,A8,B3,A9,sIf,C7,Q6,ab9,A1,dC,F0,Q0,A5,A2,o7,L3,dOr,aa1,J9,dIx,X3,N6,J3,X4,aa2,P0,A7,qE,qN,ab7,K8,E8,Z3,A3,A0,G1,tB2,X6,L5,F7,ab4,G4,C4,M8,U1,C9,B6,M7,E1,O0,G6,F6,w9,w4,xg0,xg1,xw0,xw1,xbs,xms,xmc,xmn,xna,xca,aa4,t7,am3,aj5,ag2,at7,au3,af6,af5,af4,X2,av7,av6,av5,av4,aw0,av9,av8,an3,an2,xnt,xnf,xft,if_true,if_false,ite_true,ite_false,ec,r3,and_self,bX4,l3,m0,m1,m2,i0,i1,i2,e0,e1,e2,p6 hc.bd h0.bd (by decide),p6 hc.bd h1.bd (by decide),p6 hc.bd h2.bd (by decide),ct,sp]
theorem bt4(i:Int):W9 [.int i]=some (.bool true):=rfl
theorem bf5(i:Int):K6 [.int i]=some (.bool true):=rfl
theorem ap4(r:Rat):SeqAt.shaped (fr r)=true:=rfl
theorem bU5(r s:Rat):eqD (fr r) (fr s)=some (.bool (decide (r=s))):=by
 unfold eqD
 rw[if_pos ⟨ap4 r,ap4 s⟩]
 congr 2
 show((r.num==s.num)&&(((r.den:Int)==(s.den:Int))&&true))=_
 rw[Bool.eq_iff_iff]
 simp only[Bool.and_true,Bool.and_eq_true,beq_iff_eq,decide_eq_true_eq]
 constructor
 ·intro h;exact Rat.ext h.1 (by exact_mod_cast h.2)
 ·intro h;subst h;exact⟨rfl,rfl⟩
theorem az4{k:Nat}{r:Rat}(h:Bd k r):mkRat ((r.num.natAbs:Nat):Int) r.den=r:=by rw[← h.nat];exact Rat.mkRat_self r
theorem aj4{k:Nat}{r:Rat}(h:IsSh k r):r.num<=r.den:=by
 have:=(Rat.le_iff r 1).mp h.le
 have e0:(1:Rat).num=1:=rfl
 have e1:(1:Rat).den=1:=rfl
 rw[e0,e1]at this
 omega
theorem bS6(a b:D):((([a,b]:List D).length:Nat):Int)=2:=rfl
theorem bY3(a b c d:D):((([a,b,c,d]:List D).length:Nat):Int)=4:=rfl
theorem bb2:((2:Int)==2)=true:=rfl
theorem bb4:((4:Int)==4)=true:=rfl
theorem bN6{k:Nat}{r:Rat}(h:IsSh k r) (hk:k<=8000):aw6 [fr r]=some (.bool true):=by
 have n0:=Rat.num_nonneg.mpr h.bd.nn
 have nd:=aj4 h
 have d0:(0:Int) < r.den:=by have:=K5 r;omega
 have e:=aJ8 r.num.natAbs r.den k (K5 r) h.bd.den hk
 rw[az4 h.bd,← h.bd.nat]at e
 have e2:=bU5 r r
 refine B2 (ρ:=[‹fr r›]) rfl ?_
 have e':V3 [PyData.int r.num,PyData.int r.den]=some (.tuple [.int r.num,.int r.den]):=e
 have e2':eqD (.tuple [.int r.num,.int r.den]) (.tuple [.int r.num,.int r.den])=some (.bool true):=by
  have:=e2
  simp only[decide_true]at this
  exact this
 simp only[ab0,fr,A8,B3,A9,sIf,C7,Q6,ab9,A1,dC,F0,Q0,A5,A2,o7,L3,dOr,aa1,J9,dIx,X3,N6,J3,X4,aa2,P0,A7,qE,qN,ab7,K8,E8,Z3,A3,A0,G1,tB2,X6,L5,F7,ab4,G4,C4,M8,U1,C9,B6,M7,E1,O0,G6,F6,w9,w4,xg0,xg1,xw0,xw1,xbs,xms,xmc,xmn,xna,xca,aa4,t7,am3,aj5,ag2,at7,au3,af6,af5,af4,X2,av7,av6,av5,av4,aw0,av9,av8,an3,an2,xnt,xnf,xft,if_true,if_false,ite_true,ite_false,bS6,bb2,bt4,d0,decide_true,n0,nd,e',e2']
theorem P2{k:Nat}{r:Rat}(h:IsSh k r) (hk:k<=8000):P4 [fr r]=some (.bool true):=by
 have n0:=Rat.num_nonneg.mpr h.bd.nn
 have nd:=aj4 h
 have d0:(0:Int) < r.den:=by have:=K5 r;omega
 have e:=by7 r.num.natAbs r.den
 rw[← h.bd.nat,show Nat.gcd r.num.natAbs r.den=1 from r.reduced]at e
 have e':K2 [PyData.int r.num,PyData.int r.den]=some (.int 1):=e
 have b1:((1:Int)==1)=true:=rfl
 refine B2 (ρ:=[‹fr r›,none,none]) rfl ?_
 simp only[al8,fr,A8,B3,A9,sIf,C7,Q6,ab9,A1,dC,F0,Q0,A5,A2,o7,L3,dOr,aa1,J9,dIx,X3,N6,J3,X4,aa2,P0,A7,qE,qN,ab7,K8,E8,Z3,A3,A0,G1,tB2,X6,L5,F7,ab4,G4,C4,M8,U1,C9,B6,M7,E1,O0,G6,F6,w9,w4,xg0,xg1,xw0,xw1,xbs,xms,xmc,xmn,xna,xca,aa4,t7,am3,aj5,ag2,at7,au3,af6,af5,af4,X2,av7,av6,av5,av4,aw0,av9,av8,an3,an2,xnt,xnf,xft,if_true,if_false,ite_true,ite_false,bS6,bb2,bf5,d0,decide_true,n0,nd,e',b1]
theorem bV3:aw2 [.bool true,.bool true,.bool true]=some true:=rfl
theorem bV2:aw2 [.bool true,.bool true,.bool true,.bool true]=some true:=rfl
theorem aU6{k:Nat}{c x y z:Rat}(S:Spot k c x y z) (hk:k+k<=8000):i8 [sp c x y z]=some (.bool true):=by
 have hk1:k<=8000:=by omega
 have lx:IsSh k x:=⟨S.hx,Rat.le_trans S.xc S.hc.le⟩
 have ly:IsSh k y:=⟨S.hy,Rat.le_trans S.yc S.hc.le⟩
 have lz:IsSh k z:=⟨S.hz,Rat.le_trans S.zc S.hc.le⟩
 refine B2 (ρ:=[‹sp c x y z›]) rfl ?_
 have f4:([fr c,fr x,fr y,fr z]:List D).length<=16777216:=by show 4<=16777216;decide
 have f3:([fr x,fr y,fr z]:List D).length<=16777216:=by show 3<=16777216;decide
 simp only[ar1,sp,A8,B3,A9,sIf,C7,Q6,ab9,A1,dC,F0,Q0,A5,A2,o7,L3,dOr,aa1,J9,dIx,X3,N6,J3,X4,aa2,P0,A7,qE,qN,ab7,K8,E8,Z3,A3,A0,G1,tB2,X6,L5,F7,ab4,G4,C4,M8,U1,C9,B6,M7,E1,O0,G6,F6,w9,w4,xg0,xg1,xw0,xw1,xbs,xms,xmc,xmn,xna,xca,aa4,t7,am3,aj5,ag2,at7,au3,af6,af5,af4,X2,av7,av6,av5,av4,aw0,av9,av8,an3,an2,xnt,xnf,xft,if_true,if_false,ite_true,ite_false,bY3,bb4,f4,f3,P2 S.hc hk1,P2 lx hk1,P2 ly hk1,P2 lz hk1,bV3,bV2,Z9 S.hx S.hc.bd hk,Z9 S.hy S.hc.bd hk,Z9 S.hz S.hc.bd hk,S.xc,S.yc,S.zc,decide_true]
end Sh
local macro_rules
  | `(tactic| wp_walk using evP, $ts,*) => `(tactic| simp only [G.A8, G.B3, G.A9, G.sIf, G.C7, G.Q6, G.ab9, G.A1, G.dC, G.F0, G.Q0, G.A5, G.A2, G.L3, G.dOr, G.aa1, G.J9, G.J3, G.X4, G.aa2, G.P0, G.K8, G.E8, G.Z3, G.A3, G.A0, G.G1, G.tB2, G.X6, G.L5, G.F7, G.ab4, G.G4, G.C9, G.B6, G.M7, G.E1, G.O0, G.G6, G.w4, G.xg0, G.xg1, G.xw0, G.xw1, G.xbs, G.xms, G.xmc, G.xmn, G.xna, G.xca, Sh.aa4, Sh.t7, Sh.am3, Sh.aj5, Sh.ag2, Sh.at7, Sh.au3, Sh.av7, Sh.av6, Sh.av5, Sh.av4, Sh.aw0, Sh.av9, Sh.av8, Sh.an3, Sh.an2, G.xnt, G.xnf, G.xft, if_true, if_false, $[$ts:term],*])
local macro_rules
  | `(tactic| wp_walk using evB) => `(tactic| wp_walk using evP, G.dIx, G.N6, G.A7, G.qE, G.qN, G.ab7)
  | `(tactic| wp_walk using evB, $ts,*) => `(tactic| wp_walk using evP, G.dIx, G.N6, G.A7, G.qE, G.qN, G.ab7, $ts,*)
local macro_rules
  | `(tactic| wp_walk using evA) => `(tactic| wp_walk using evB, G.o7, G.X3, G.C4, G.M8, G.U1, G.F6, G.w9, Sh.af6, Sh.af5, Sh.af4, Sh.X2, ite_true, ite_false)
  | `(tactic| wp_walk using evA, $ts,*) => `(tactic| wp_walk using evB, G.o7, G.X3, G.C4, G.M8, G.U1, G.F6, G.w9, Sh.af6, Sh.af5, Sh.af4, Sh.X2, ite_true, ite_false, $ts,*)
local macro_rules
  | `(tactic| wp_walk using evD) => `(tactic| wp_walk using evB, G.ad2, G.aP1)
  | `(tactic| wp_walk using evD, $ts,*) => `(tactic| wp_walk using evB, G.ad2, G.aP1, $ts,*)
local macro_rules
  | `(tactic| wp_walk using evC) => `(tactic| wp_walk using evD, G.o7, G.X3, G.C4, G.M8, G.U1, G.F6, G.w9, Sh.af6, Sh.af5, Sh.af4, Sh.X2, ite_true, ite_false)
  | `(tactic| wp_walk using evC, $ts,*) => `(tactic| wp_walk using evD, G.o7, G.X3, G.C4, G.M8, G.U1, G.F6, G.w9, Sh.af6, Sh.af5, Sh.af4, Sh.X2, ite_true, ite_false, $ts,*)
local macro_rules
  | `(tactic| wp_walk using evQ) => `(tactic| wp_walk using evP, G.ad2, G.aP1)
  | `(tactic| wp_walk using evQ, $ts,*) => `(tactic| wp_walk using evP, G.ad2, G.aP1, $ts,*)
namespace Sh
open PySem G L2
theorem O6{x y:Str}{b:Bool}(hx:PyData.canLay0 (.str x)=true) (hy:PyData.canLay0 (.str y)=true) (e:(x==y)=b):eqD (.str x) (.str y)=some (.bool b):=by
 unfold eqD
 have s:∀z:Str,PyData.canLay0 (.str z)=true->SeqAt.shaped (.str z)=true:=fun z h=>by unfold SeqAt.shaped;rw[h];rfl
 rw[if_pos ⟨s x hx,s y hy⟩]
 show some (PyData.bool (x==y))=_
 rw[e]
inductive Man where
 | over|mult|screen|plus|atop|cut
def Man.s:Man->Str
 | .over => "over"
 | .mult => "multiply"
 | .screen => "screen"
 | .plus => "plus"
 | .atop => "atop"
 | .cut => "cut"
inductive Rul where
 | turn|grey|round
def Rul.s:Rul->Str
 | .turn => "turn"
 | .grey => "grey"
 | .round => "round"
def Gd:Nat->D->Prop
 | _,.none=>True
 | _,.bool _=>True
 | _,.int i=>i.natAbs < 2 ^ 40
 | _,.str x=>PyData.strOk x=true
 | n+1,.tuple xs=>xs.length<=64/\∀x∈xs,Gd n x
 | n+1,.list xs=>xs.length<=64/\∀x∈xs,Gd n x
 | _,_=>False
theorem O6z{x y:Str}{b:Bool}(hx:PyData.canLay0 (.str x)=true:=by decide +kernel)(hy:PyData.canLay0 (.str y)=true:=by decide +kernel)(e:(x==y)=b:=by decide +kernel):eqD (.str x) (.str y)=some (.bool b):=O6 hx hy e
theorem cat_tup{xs ys:List D}(h:xs.length+ys.length<=16777216):V0 (.tuple xs) (.tuple ys)=some (.tuple (xs++ys)):=if_pos h
theorem z3(a b c d e f:D):(List.zip [a,b,c] [d,e,f]).map (fun(x,y)=>PyData.tuple [x,y])=[.tuple [a,d],.tuple [b,e],.tuple [c,f]]:=rfl
structure Q4 where
 c:Rat
 x:Rat
 y:Rat
 z:Rat
def Q4.d(q:Q4):D:=sp q.c q.x q.y q.z
def Q4.ok(k:Nat) (q:Q4):Prop:=Spot k q.c q.x q.y q.z
def q0:Q4:=⟨0,0,0,0⟩
theorem Q4.ok.mono{j k:Nat}{q:Q4}(h:q.ok j) (l:j<=k):q.ok k:=Spot.mono h l
def Ly(n:Nat) (d:D):Prop:=PyData.canLay0 d=true/\PyData.depth d<=n
theorem ak8{n:Nat}:∀xs:List D,(∀x∈xs,Ly n x)->PyData.canLayAll0 xs=true/\PyData.depthAll xs<=n
 | [],_=>⟨rfl,Nat.zero_le _⟩
 | x::xs,g=>by
  have a:=g x (List.mem_cons_self ..)
  have b:=ak8 xs fun y hy=>g y (xmm _ hy)
  refine⟨?_,?_⟩
  ·show(PyData.canLay0 x&&PyData.canLayAll0 xs)=true
   rw[a.1,b.1];rfl
  ·show max (PyData.depth x) (PyData.depthAll xs)<=n
   have:=a.2;have:=b.2;omega
theorem Ly.tup{n:Nat}{xs:List D}(h:∀x∈xs,Ly n x):Ly (n+1) (.tuple xs):=⟨(ak8 xs h).1,Nat.succ_le_succ (ak8 xs h).2⟩
theorem Ly.lst{n:Nat}{xs:List D}(h:∀x∈xs,Ly n x):Ly (n+1) (.list xs):=⟨(ak8 xs h).1,Nat.succ_le_succ (ak8 xs h).2⟩
theorem Ly.int(n:Nat) (i:Int):Ly n (.int i):=⟨rfl,Nat.zero_le _⟩
theorem Ly.mono{m n:Nat}{d:D}(h:Ly m d) (l:m<=n):Ly n d:=⟨h.1,Nat.le_trans h.2 l⟩
theorem Ly.shaped{n:Nat}{d:D}(g:Ly n d) (hn:n<=64):SeqAt.shaped d=true:=by
 unfold SeqAt.shaped
 rw[g.1,Bool.true_and]
 exact decide_eq_true (by have:=g.2;omega)
theorem Ly.q4(q:Q4) (n:Nat):Ly (n+2) q.d:=⟨rfl,by show 2<=n+2;omega⟩
theorem Ly.spots(l:List Q4) (n:Nat):Ly (n+3) (.tuple (l.map Q4.d)):=Ly.tup fun x hx=>by
 obtain⟨q,_,rfl⟩:=List.mem_map.mp hx
 exact Ly.q4 q n
theorem ah0{n:Nat}{d:D}(g:Ly n d) (hn:n<=64):neD d d=some (.bool false):=by
 unfold neD
 rw[if_pos ⟨g.shaped hn,g.shaped hn⟩,SeqAt.eqv_refl d g.1];rfl
def shD(w h:Nat) (l:List Q4):D:=.tuple [.int w,.int h,.tuple (l.map Q4.d)]
theorem Ly.sheet(w h:Nat) (l:List Q4):Ly 4 (shD w h l):=Ly.tup fun x hx=>by
 simp only[List.mem_cons,List.not_mem_nil,or_false]at hx
 rcases hx with rfl|rfl|rfl
 ·exact Ly.int _ _
 ·exact Ly.int _ _
 ·exact Ly.spots l 0
structure ShOk (k:Nat) (w h:Nat) (l:List Q4):Prop where
 w1:1<=w
 w8:w<=8
 h1:1<=h
 h8:h<=8
 len:l.length=w*h
 ok:∀q∈l,q.ok k
theorem by2{α:Type}{e:DE}{r:Rho}{h f:α->D}:∀(l:List α) (x:Option B),(∀a∈l,e (‹h a›::r)=some (f a))->M8 (B6 0) C9 e (l.map h) (x::r)=some (l.map f)
 | [],_,_=>rfl
 | a::l,x,H=>by simp only[xmc,M8,B6,xw0,xbs,C9,if_true,H a (List.mem_cons_self ..),by2 l _ (fun b hb=>H b (xmm _ hb)),xms]
theorem bi8{α:Type}{c:Rho->Option Bool}{e:DE}{r:Rho}{h f:α->D}{p:α->Bool}:∀(l:List α) (x:Option B),(∀a∈l,c (‹h a›::r)=some (p a))->(∀a∈l,e (‹h a›::r)=some (f a))->M8 (B6 0) c e (l.map h) (x::r)=some ((l.filter p).map f)
 | [],_,_,_=>rfl
 | a::l,x,C,H=>by
  have ih:=bi8 l (‹h a›) (fun b hb=>C b (xmm _ hb)) (fun b hb=>H b (xmm _ hb))
  cases q:p a with
  | true =>simp only[xmc,M8,B6,xw0,xbs,C a (List.mem_cons_self ..),q,if_true,H a (List.mem_cons_self ..),ih,xms,List.filter_cons_of_pos q]
  | false =>
   have q':¬p a=true:=by rw[q];exact Bool.false_ne_true
   simp only[xmc,M8,B6,xw0,xbs,C a (List.mem_cons_self ..),q,xft,if_false,ih,List.filter_cons_of_neg q']
theorem T7{α:Type}{caps:List Nat}{src:Rho->Option (List D)}{e:DE}{ρ r:Rho}{l:List α}{h f:α->D}(hr:U1 1 caps ρ=none::r) (hs:src ρ=some (l.map h)) (hl:l.length<=1000) (H:∀a∈l,e (‹h a›::r)=some (f a)) :
  C4 1 caps src (B6 0) C9 e ρ=some (l.map f):=by
 unfold C4
 rw[hs,xbs,if_pos (by rw[List.length_map];omega),hr,by2 l _ H]
theorem bp8{α:Type}{caps:List Nat}{src:Rho->Option (List D)}{c:Rho->Option Bool}{e:DE}{ρ r:Rho}{l:List α}{h f:α->D}{p:α->Bool}(hr:U1 1 caps ρ=none::r) (hs:src ρ=some (l.map h)) (hl:l.length<=1000) (C:∀a∈l,c (‹h a›::r)=some (p a)) (H:∀a∈l,e (‹h a›::r)=some (f a)) :
  C4 1 caps src (B6 0) c e ρ=some ((l.filter p).map f):=by
 unfold C4
 rw[hs,xbs,if_pos (by rw[List.length_map];omega),hr,bi8 l _ C H]
theorem b5{f:DE}{ρ:Rho}{n:Nat}(h:f ρ=some (.int n)) (hn:n<=1000):F6 f ρ=some ((List.range n).map fun k:Nat=>PyData.int k):=by
 unfold F6
 rw[h,xbs]
 show(if -(2 ^ 62)<=(n:Int)/\(n:Int) < 2 ^ 62 then some (W2 0 n) else none)=_
 rw[if_pos ⟨by omega,by omega⟩]
 unfold W2
 congr 1
 have e:((n:Int) - 0).toNat=n:=by omega
 rw[e]
 apply List.map_congr_left
 intro k _
 congr 1
 omega
theorem bF6{i j:Int}(h1:E3 i) (h2:E3 j):E6 (.int i) (.int j)=some (.int (i*j)):=Q7 h1 h2
theorem M5{i j:Nat}(h1:i<=1000) (h2:j<=1000):E6 (.int i) (.int j)=some (.int ((i*j:Nat):Int)):=by rw[bF6 (U2 (k:=10) (by omega) (by decide)) (U2 (k:=10) (by omega) (by decide)),Int.natCast_mul]
theorem au1{n:Nat}{i:Int}(h0:0<=i) (h1:i < n):ixN n i=some i.toNat:=by unfold ixN;rw[if_pos h0,if_pos h1]
abbrev scr(ns:List Int):D:=.list (ns.map PyData.int)
theorem aA7(ns:List Int) (k m:Nat) (hn:ns.length<=63) (hk:k < 2 ^ 60) (hm:0 < m):∃n:Nat,A6 [scr ns,.int k,.int m]=some (.int n)/\n < m:=by
 have a:=ai0 ns k m hn hk (by omega)
 have b:=ah4 ns k m (by omega)
 refine⟨(y9 ns k m).toNat,?_,by omega⟩
 rw[a]
 congr 2
 omega
theorem ah6{h:D->D->Option D}{f g:DE}{ρ:Rho}{x y:D}(h1:f ρ=some x) (h2:g ρ=some y):A5 h f g ρ=h x y:=by unfold A5;rw[h1,xbs,h2,xbs]
theorem U3{α:Type}(a:α):∀n:Nat,(List.replicate n [a]).flatten=List.replicate n a
 | 0=>rfl
 | n+1=>by rw[List.replicate_succ,List.flatten_cons,U3 a n];rfl
theorem bb7{xs:List D}{n:Nat}(hn:n<=1000) (hx:xs.length<=1000):E6 (.list xs) (.int n)=some (.list (List.replicate n xs).flatten):=by
 show(if 0<=(n:Int)/\(n:Int) < 1000000/\xs.length*((n:Int)).toNat<=16777216 then some (PyData.list (List.replicate ((n:Int)).toNat xs).flatten) else none)=_
 rw[Int.toNat_natCast,if_pos ⟨by omega,by omega,Nat.le_trans (Nat.mul_le_mul hx hn) (by decide)⟩]
theorem bZ4(a:D) (r:List D):U0 (a::r) none (some 1)=[a]:=by
 unfold U0
 have h1:HT.sIx (a::r).length 0 none=0:=by simp[HT.sIx]
 have h2:HT.sIx (a::r).length (a::r).length (some 1)=1:=by simp only[HT.sIx,List.length_cons];first|omega|(simp;omega)|simp
 rw[h1,h2];rfl
theorem aO1(ns:List Int) (k:Nat) (hn:ns.length<=63) (hk:k < 2 ^ 30):∃q:Q4,V2 [scr ns,.int k]=some q.d/\q.ok 8:=by
 obtain⟨c,x,y,z,e,S⟩:=bN7 ns k hn hk
 exact⟨⟨c,x,y,z⟩,e,S⟩
theorem aX6(ns:List Int) (at':Nat) (hn:ns.length<=63) (ha:at' < 2 ^ 20):∃f:Nat->Q4,∀k,k < 1000->V2 [scr ns,.int ((at'+12*k:Nat):Int)]=some (f k).d/\(f k).ok 8:=by
 refine⟨fun k=>if h:k < 1000 then Classical.choose (aO1 ns (at'+12*k) hn (by omega)) else q0,fun k hk=>?_⟩
 simp only[dif_pos hk]
 exact Classical.choose_spec (aO1 ns (at'+12*k) hn (by omega))
theorem at9(ns:List Int) (at' w h:Nat) (hn:ns.length<=63) (ha:at' < 2 ^ 20) (w1:1<=w) (w8:w<=8) (h1:1<=h) (h8:h<=8):∃l:List Q4,i5 [scr ns,.int at',.int w,.int h]=some (shD w h l)/\ShOk 8 w h l:=by
 obtain⟨f,hf⟩:=aX6 ns at' hn ha
 have wh:w*h<=64:=Nat.mul_le_mul w8 h8
 have wh1:1<=w*h:=Nat.mul_le_mul w1 h1
 obtain⟨t,et,ht⟩:=aA7 ns (at'+7) 3 hn (by omega) (by decide)
 have et':A6 [scr ns,.int ((at':Int)+7),.int 3]=some (.int t):=by rw[← et];simp
 have c:C4 1 [0,1] (F6 (A5 E6 (A1 2) (A1 3))) (B6 0) C9 (A2 V2 (A0 (A1 1) (A0 (A5 B0 (A1 2) (A5 E6 ⇑12 (A1 0))) A3))) [‹scr ns›,‹.int at'›,‹.int w›,‹.int h›,none]=some ((List.range (w*h)).map fun k=>(f k).d):=by
  refine T7 (l:=List.range (w*h)) (h:=fun k:Nat=>PyData.int k) (r:=[‹scr ns›,‹.int at'›]) rfl (b5 ?_ (by omega)) (by rw[List.length_range];omega) ?_
  ·exact M5 (by omega) (by omega)
  ·intro k hk
   have hk:=List.mem_range.mp hk
   have m12:E6 (.int 12) (.int k)=some (.int ((12*k:Nat):Int)):=M5 (i:=12) (by decide) (by omega)
   have e1:((at':Int)+((12*k:Nat):Int))=((at'+12*k:Nat):Int):=by omega
   wp_walk using evD,m12,e1,(hf k (by omega)).1
 have mwh:E6 (.int w) (.int h)=some (.int ((w*h:Nat):Int)):=M5 (by omega) (by omega)
 have cv:((t:Int)==0)=decide (t=0):=by cases t with
  | zero=>rfl
  | succ n=>rw[decide_eq_false (by omega)];exact beq_eq_false_iff_ne.mpr (by omega)
 obtain⟨n,en⟩:∃n,w*h=n+1:=⟨w*h - 1,by omega⟩
 by_cases t0:t=0
 ·refine⟨List.replicate (w*h) (f 0),?_,w1,w8,h1,h8,List.length_replicate ..,fun q hq=>by rw[(List.mem_replicate.mp hq).2];exact(hf 0 (by decide)).2⟩
  refine B2 (ρ:=[‹scr ns›,‹.int at'›,‹.int w›,‹.int h›,none]) rfl ?_
  have hd:(List.range (w*h)).map (fun k=>(f k).d)=(f 0).d::(List.range n).map (fun k=>(f (k+1)).d):=by rw[en,List.range_succ_eq_map,xmc,List.map_map];rfl
  rw[hd]at c
  have v:A5 E6 (ag4 (A1 4) K8 (E8 ⇑1)) (A5 E6 (A1 2) (A1 3)) [‹scr ns›,‹.int at'›,‹.int w›,‹.int h›,‹.list ((f 0).d::(List.range n).map (fun k=>(f (k+1)).d))›]=some (.list (List.replicate (w*h) (f 0).d)):=by
   have a1:ag4 (A1 4) K8 (E8 ⇑1) [‹scr ns›,‹.int at'›,‹.int w›,‹.int h›,‹.list ((f 0).d::(List.range n).map (fun k=>(f (k+1)).d))›]=some (.list (U0 ((f 0).d::(List.range n).map (fun k=>(f (k+1)).d)) none (some 1))):=rfl
   have a2:A5 E6 (A1 2) (A1 3) [‹scr ns›,‹.int at'›,‹.int w›,‹.int h›,‹.list ((f 0).d::(List.range n).map (fun k=>(f (k+1)).d))›]=some (.int ((w*h:Nat):Int)):=(ah6 rfl rfl).trans mwh
   rw[bZ4]at a1
   have a3:=bb7 (xs:=[(f 0).d]) (show w*h<=1000 by omega) (show 1<=1000 by decide)
   rw[U3]at a3
   exact(ah6 a1 a2).trans a3
  have t1:tB2 eqD (A2 A6 (A0 (A1 0) (A0 (A5 B0 (A1 1) ⇑7) (A0 ⇑3 A3)))) ⇑0 [‹scr ns›,‹.int at'›,‹.int w›,‹.int h›,‹.list ((f 0).d::(List.range n).map (fun k=>(f (k+1)).d))›]=some true:=by simp only[tB2,A5,A2,A0,A3,A1,dC,xms,xbs,xg0,xg1,ad2,et',ag2,cv,decide_eq_true t0,G4]
  simp only[ad3,A8,Q6,c,sIf,t1,B3,v,A9,F0,A0,A3,J3,A7,A1,xms,xbs,xw0,xw1,xg0,xg1,if_true,xft,if_false,shD,List.map_replicate]
 ·refine⟨(List.range (w*h)).map f,?_,w1,w8,h1,h8,by rw[List.length_map,List.length_range],fun q hq=>by
   obtain⟨k,hk,rfl⟩:=List.mem_map.mp hq
   exact(hf k (by have:=List.mem_range.mp hk;omega)).2⟩
  refine B2 (ρ:=[‹scr ns›,‹.int at'›,‹.int w›,‹.int h›,none]) rfl ?_
  wp_walk using evD,ad3,c,et',cv,decide_eq_false t0,shD,List.map_map
  rfl
theorem ak9{α:Type}(f:α->Bool):∀l:List α,aw2 (l.map fun a=>PyData.bool (f a))=some (l.all f)
 | []=>rfl
 | a::l=>by
  show(aw2 (l.map fun a=>PyData.bool (f a))).map (fun c=>f a&&c)=_
  rw[ak9 f l];rfl
theorem aA1{k w h:Nat}{l:List Q4}(S:ShOk k w h l) (hk:k+k<=8000):r9 [shD w h l]=some (.bool true):=by
 have sz:∀n:Nat,1<=n->n<=8->V4 [.int n]=some (.bool true):=fun n a b=>by
  refine B2 (ρ:=[‹.int n›]) rfl ?_
  have w1:K6 [.int n]=some (.bool true):=rfl
  have a':(1:Int)<=n:=by omega
  have b':(n:Int)<=8:=by omega
  wp_walk using evD,ad4,w1,a',b',decide_true
 have l3:((([.int w,.int h,.tuple (l.map Q4.d)]:List D).length:Nat):Int)=3:=rfl
 have b3:((3:Int)==3)=true:=rfl
 have w8:=S.w8
 have h8:=S.h8
 have wh:w*h<=64:=Nat.mul_le_mul w8 h8
 have zz:S5 [shD w h l]=some (.bool true):=by
  refine B2 (ρ:=[‹shD w h l›]) rfl ?_
  wp_walk using evD,p8,shD,l3,b3,sz w S.w1 S.w8,sz h S.h1 S.h8
 have al:∀q:Option B,C4 1 [] (G6 (A1 1)) (B6 0) C9 (A2 i8 (A0 (A1 0) A3)) [q,‹.tuple (l.map Q4.d)›]=some (l.map fun x=>.bool true):=fun q=>by
  refine T7 (l:=l) (h:=Q4.d) (r:=[]) rfl rfl (by rw[S.len];omega) fun x hx=>?_
  have:=aU6 (S.ok x hx) hk
  wp_walk using evD,Q4.d,this
 have mwh:E6 (.int w) (.int h)=some (.int ((w*h:Nat):Int)):=M5 (by omega) (by omega)
 have hb:((((l.map Q4.d).length:Nat):Int)==((w*h:Nat):Int))=true:=by rw[List.length_map,S.len];simp
 have ab:aw2 (l.map fun x=>.bool true)=some true:=by rw[ak9 (fun _=>true)];simp
 refine B2 (ρ:=[‹shD w h l›,none]) rfl ?_
 simp only[shD]at zz
 wp_walk using evD,al7,shD,zz,al,mwh,hb,ab
theorem q4:(4:Nat)<=16777216:=by decide
theorem q3:(3:Nat)<=16777216:=by decide
def Dv(N:Nat) (r:Rat):Prop:=∃z:Int,r*(N:Rat)=(z:Rat)
theorem Dv.mul{M N:Nat}{r s:Rat}(h:Dv M r) (g:Dv N s):Dv (M*N) (r*s):=by
 obtain⟨a,ha⟩:=h;obtain⟨b,hb⟩:=g
 exact⟨a*b,by rw[Rat.intCast_mul,← ha,← hb,Rat.natCast_mul];grind⟩
theorem Dv.int(N:Nat) (i:Int):Dv N (i:Rat):=⟨i*N,by rw[Rat.intCast_mul];rfl⟩
theorem Dv.one(N:Nat):Dv N 1:=Dv.int N 1
theorem Dv.right{N:Nat}{r:Rat}(h:Dv N r) (M:Nat):Dv (N*M) r:=by have:=h.mul (Dv.one M);rwa [Rat.mul_one]at this
theorem Dv.left{N:Nat}{r:Rat}(h:Dv N r) (M:Nat):Dv (M*N) r:=by have:=(Dv.one M).mul h;rwa [Rat.one_mul]at this
theorem Dv.of(a:Int) {N:Nat}(hN:0 < N):Dv N (mkRat a N):=by
 refine⟨a,?_⟩
 have hN':(N:Rat)≠0:=by
  intro h
  have:N=0:=by exact_mod_cast h
  omega
 rw[Rat.mkRat_eq_div]
 exact Rat.div_mul_cancel hN'
def Dn(k:Nat) (q:Q4):Prop:=∃N,0 < N/\N < 2 ^ k/\Dv N q.c/\Dv N q.x/\Dv N q.y/\Dv N q.z
def Ds(k:Nat) (s:Rat):Prop:=∃N,0 < N/\N < 2 ^ k/\Dv N s
theorem m8{a b j k:Nat}(h1:a < 2 ^ j) (h2:b < 2 ^ k):a*b < 2 ^ (j+k):=by
 rw[Nat.pow_add]
 exact Nat.mul_lt_mul'' h1 h2
def Q4.wt(q:Q4) (s:Rat):Q4:=⟨q.c*s,q.x*s,q.y*s,q.z*s⟩
def Q4.or(q:Q4):Prop:=0<=q.x/\0<=q.y/\0<=q.z/\q.x<=q.c/\q.y<=q.c/\q.z<=q.c/\q.c<=1
theorem Q4.ok.or{k:Nat}{q:Q4}(h:q.ok k):q.or:=⟨h.hx.nn,h.hy.nn,h.hz.nn,h.xc,h.yc,h.zc,h.hc.le⟩
structure Dq (k:Nat) (q:Q4):Prop where
 o:q.or
 n:Dn k q
structure Sr (k:Nat) (s:Rat):Prop where
 h:IsSh k s
 n:Ds k s
theorem bv9{j k:Nat}{q:Q4}{s:Rat}(S:q.ok j) (hs:IsSh k s) (l:j+k<=8000):p9 [q.d,fr s]=some (q.wt s).d:=by
 refine B2 (ρ:=[‹q.d›,‹fr s›]) rfl ?_
 have f4:∀a b c d:D,([a,b,c,d]:List D).length<=16777216:=fun a b c d=>by show 4<=16777216;decide
 wp_walk using evC,al2,Q4.d,Q4.wt,sp,f4,W8 S.hc.bd hs.bd l,W8 S.hx hs.bd l,W8 S.hy hs.bd l,W8 S.hz hs.bd l
inductive Nd where
 | layer (nm:D) (m:Man) (s:Rat) (sh:Bool) (lf tp:Int) (mk:Option (List Rat)) (w h:Nat) (l:List Q4) (kb:Nat)
 | tone (nm:D) (r:Rul) (s:Rat) (sh:Bool)
 | group (nm:D) (m:Man) (s:Rat) (sh:Bool) (ns:List Nd)
def mkD:Option (List Rat)->D
 | none=>.none
 | some ms=>.tuple (ms.map fr)
mutual
def Nd.d:Nd->D
 | .layer nm m s sh lf tp mk w h l _=>.tuple [.str "layer", nm,.str m.s,fr s,.bool sh,.int lf,.int tp,mkD mk,shD w h l]
 | .tone nm r s sh=>.tuple [.str "tone", nm,.str r.s,fr s,.bool sh]
 | .group nm m s sh ns=>.tuple [.str "group", nm,.str m.s,fr s,.bool sh,.tuple (Nd.ds ns)]
def Nd.ds:List Nd->List D
 | []=>[]
 | n::r=>n.d::Nd.ds r
end
mutual
def Nd.Ok:Nd->Prop
 | .layer _ _ s _ _ _ mk w h l kb=>Sr 4 s/\ShOk kb w h l/\(∀q∈l,Dq kb q)/\(∀ms,mk=some ms->ms.length=w*h/\∀r∈ms,Sr 4 r)/\1<=kb
 | .tone _ _ s _=>Sr 4 s
 | .group _ _ s _ ns=>Sr 4 s/\Nd.Oks ns
def Nd.Oks:List Nd->Prop
 | []=>True
 | n::r=>n.Ok/\Nd.Oks r
end
mutual
def Nd.wg:Nd->Nat
 | .layer _ _ _ _ _ _ _ _ _ _ kb=>kb+8
 | .tone ..=>6
 | .group _ _ _ _ ns=>5+Nd.wgs ns
def Nd.wgs:List Nd->Nat
 | []=>0
 | n::r=>n.wg+Nd.wgs r
end
mutual
def Nd.dp:Nd->Nat
 | .layer ..=>0
 | .tone ..=>0
 | .group _ _ _ _ ns=>1+Nd.dps ns
def Nd.dps:List Nd->Nat
 | []=>0
 | n::r=>max n.dp (Nd.dps r)
end
theorem bZ9:eqD (.str "layer") (.str "tone")=some (.bool false):=O6z
theorem bZ1:eqD (.str "tone") (.str "tone")=some (.bool true):=O6z
theorem ca0:eqD (.str "group") (.str "tone")=some (.bool false):=O6z
theorem bZ2:eqD (.str "layer") (.str "layer")=some (.bool true):=O6z
theorem bZ3:eqD (.str "group") (.str "layer")=some (.bool false):=O6z
theorem bM0:eqD (.str "layer") (.str "group")=some (.bool false):=O6z
theorem bM1:eqD (.str "group") (.str "group")=some (.bool true):=O6z
section
variable {nm:D}{m:Man}{r:Rul}{s:Rat}{sh:Bool}{lf tp:Int}{mk:Option (List Rat)}{w h:Nat}{l:List Q4}{kb:Nat}{ns:List Nd}
theorem bA9:R7 [Nd.d (.tone nm r s sh)]=some (.bool true):=by rw[Nd.d];exact B2 (ρ:=[‹.tuple [.str "tone", nm,.str r.s,fr s,.bool sh]›]) rfl (congrArg (Option.map Fl.rt) bZ1)
theorem bq1:N8 [Nd.d (.layer nm m s sh lf tp mk w h l kb)]=some (.bool true):=by rw[Nd.d];exact B2 (ρ:=[‹.tuple [.str "layer", nm,.str m.s,fr s,.bool sh,.int lf,.int tp,mkD mk,shD w h l]›]) rfl (congrArg (Option.map Fl.rt) bZ2)
theorem bt8:N8 [Nd.d (.group nm m s sh ns)]=some (.bool false):=by rw[Nd.d];exact B2 (ρ:=[‹.tuple [.str "group", nm,.str m.s,fr s,.bool sh,.tuple (Nd.ds ns)]›]) rfl (congrArg (Option.map Fl.rt) bZ3)
theorem ah3:D5 [Nd.d (.group nm m s sh ns)]=some (.tuple (Nd.ds ns)):=by rw[Nd.d];rfl
end
theorem bf6(ds:List D):isB (.tuple ds) .none=some (.bool false):=rfl
end Sh
local macro_rules
  | `(↥$x) => `(PySem.PyData.tuple (Sh.Nd.ds $x))
namespace Sh
open PySem G L2
theorem by3(a b c d e f g h i:D):L2.atI [a,b,c,d,e,f,g,h,i] 0=some a:=rfl
theorem bU9(a b c d e f g h i:D):L2.atI [a,b,c,d,e,f,g,h,i] 1=some b:=rfl
theorem by5(a b c d e f:D):L2.atI [a,b,c,d,e,f] 0=some a:=rfl
theorem bV0(a b c d e f:D):L2.atI [a,b,c,d,e,f] 1=some b:=rfl
theorem by4(a b c d e f:D):L2.atI [a,b,c,d,e,f] 5=some f:=rfl
theorem by6(a b c d e:D):L2.atI [a,b,c,d,e] 0=some a:=rfl
theorem bV1(a b c d e:D):L2.atI [a,b,c,d,e] 1=some b:=rfl
theorem ao8:ac4 .none .none=some (.bool false):=rfl
theorem B5{f g:DS}{ρ ρ':Rho}(h:f ρ=some (.nx ρ')):A8 f g ρ=g ρ':=by unfold A8;rw[h];rfl
theorem aF0{f g:DS}{ρ:Rho}{d:D}(h:f ρ=some (.rt d)):A8 f g ρ=some (.rt d):=by unfold A8;rw[h];rfl
theorem U8{α:Type}{g:D->Rho->Option Rho}{f:DS}{h:α->D}{I:Nat->Rho->Prop}:∀(l:List α) (i:Nat) (ρ:Rho),I i ρ->(∀(j:Nat) (a:α),l[j]? = some a->∀ρ,I (i+j) ρ->∃ρ1,g (h a) ρ=some ρ1/\∃ρ',f ρ1=some (.nx ρ')/\I (i+j+1) ρ')->∃ρ',Z4 g f (l.map h) ρ=some (.nx ρ')/\I (i+l.length) ρ'
 | [],i,ρ,h0,_=>⟨ρ,rfl,h0⟩
 | a::l,i,ρ,h0,H=>by
  obtain⟨ρ1,e1,ρ2,e2,h2⟩:=H 0 a rfl ρ h0
  obtain⟨ρ',e3,h3⟩:=U8 l (i+1) ρ2 (by simpa using h2) (fun j b hb ρ hρ=>by
   have:=H (j+1) b (by simpa using hb) ρ (by rwa [show i+(j+1)=i+1+j by omega])
   rwa [show i+(j+1)+1=i+1+j+1 by omega]at this)
  refine⟨ρ',?_,by rw[List.length_cons,show i+(l.length+1)=i+1+l.length by omega];exact h3⟩
  simp only[xmc,Z4,e1,xbs,e2,e3]
theorem ap6{α:Type}(x:α) {n:Nat}{P:Nat->α->Prop}(h:∀j,j < n->∃a,P j a):∃f:Nat->α,∀j,j < n->P j (f j):=by
 refine⟨fun j=>if hj:j < n then Classical.choose (h j hj) else x,fun j hj=>?_⟩
 simp only[dif_pos hj]
 exact Classical.choose_spec (h j hj)
theorem D9(ns:List Int) (hn:ns.length<=63) {e m':Int}(k m:Nat) (he:e=(k:Int)) (hm':m'=(m:Int)) (hk:k < 2 ^ 60) (hm:0 < m):∃n:Nat,A6 [scr ns,.int e,.int m']=some (.int n)/\n < m:=by
 subst he hm'
 exact aA7 ns k m hn hk hm
theorem ax4(ns:List Int) (hn:ns.length<=63) {e:Int}(k:Nat) (he:e=(k:Int)) (hk:k < 2 ^ 40):∃r,G9 [scr ns,.int e]=some (fr r)/\IsSh 4 r:=by
 subst he
 exact c7 ns k hn hk
theorem aX9(ns:List Int) (hn:ns.length<=63) {e:Int}(k w h:Nat) (he:e=(k:Int)) (hk:k < 2 ^ 20) (w1:1<=w) (w8:w<=8) (h1:1<=h) (h8:h<=8):∃l:List Q4,i5 [scr ns,.int e,.int w,.int h]=some (shD w h l)/\ShOk 8 w h l:=by
 subst he
 exact at9 ns k w h hn hk w1 w8 h1 h8
theorem y8(r:Rat):Dv r.den r:=by
 have:=Dv.of r.num (K5 r)
 rwa [Rat.mkRat_self]at this
theorem aK1{k:Nat}{s:Rat}(h:IsSh k s):Sr k s:=⟨h,s.den,K5 s,h.bd.den,y8 s⟩
theorem bU6{q:Q4}(h:q.ok 8):Dq 32 q :=
 ⟨h.or,q.c.den*q.x.den*(q.y.den*q.z.den),Nat.mul_pos (Nat.mul_pos (K5 _) (K5 _)) (Nat.mul_pos (K5 _) (K5 _)),m8 (m8 h.hc.bd.den h.hx.den) (m8 h.hy.den h.hz.den),
  ((y8 q.c).right _).right _,((y8 q.x).left _).right _,((y8 q.y).right _).left _,((y8 q.z).left _).left _⟩
def SOk(s:Str):Prop:=∀c∈s.cps.toList,97<=c/\c<=122
theorem SOk.ok{s:Str}(h:SOk s):PyData.canLay0 (.str s)=true:=by
 show s.cps.all (· < 0x110000)=true
 rw[Array.all_eq_true']
 intro c hc
 exact decide_eq_true (by have:=h c (Array.mem_toList_iff.mpr hc);omega)
theorem SOk.app{a b:Str}(ha:SOk a) (hb:SOk b):SOk (a++b):=by
 intro c hc
 have:c∈(a.cps++b.cps).toList:=hc
 rw[Array.toList_append]at this
 rcases List.mem_append.mp this with h|h
 ·exact ha c h
 ·exact hb c h
theorem bK7(x:Str) (n:Nat) (h:n < x.length) (hx:x.length<=1000):∃s:Str,atS x (n:Int)=some (.str s)/\s.length=1/\(SOk x->SOk s):=by
 unfold atS
 rw[if_pos (by omega)]
 have hl:x.cps.toList.length=x.length:=by unfold Str.length;simp
 have h':n < x.cps.toList.length:=by omega
 have:atI x.cps.toList (n:Int)=some x.cps.toList[n]:=by
  unfold atI
  rw[au1 (by omega) (by omega),xbs,Int.toNat_natCast,List.getElem?_eq_getElem h']
 rw[this]
 refine⟨⟨#[x.cps.toList[n]]⟩,rfl,rfl,fun hs c hc=>?_⟩
 have:c=x.cps.toList[n]:=by simpa using hc
 rw[this]
 exact hs _ (List.getElem_mem h')
theorem bm1(x:Str) (lo hi:Option Int):(slS x lo hi).length<=x.length:=by
 unfold slS
 split
 ·exact Nat.le_refl _
 ·unfold Str.length
  rw[List.size_toArray]
  exact Nat.le_trans (List.length_filterMap_le ..) (PyProof.Rows.indices_len_le ..)
theorem bm0{x:Str}(h:SOk x) (lo hi:Option Int):SOk (slS x lo hi):=by
 unfold slS
 split
 ·exact h
 ·intro c hc
  simp only[List.toList_toArray]at hc
  obtain⟨i,_,e⟩:=List.mem_filterMap.mp hc
  exact h c (Array.mem_toList_iff.mpr (Array.mem_of_getElem? e))
theorem aY7{x:Str}(h:SOk x) (k:Int) (hk:k=1\/k=2):SOk (af3 x k):=by
 unfold af3
 split
 ·exact h
 ·rename_i e
  rcases hk with rfl|rfl
  ·simp at e
  ·intro c hc
   have:c∈((#[]++x.cps)++x.cps).toList:=hc
   simp at this
   exact h c (Array.mem_toList_iff.mpr this)
theorem bg5{a b:Str}(ha:SOk a) (hb:SOk b):SOk (Builtin.Str.glued "" [a,b]):=by
 intro c hc
 have:c∈(a.cps++("" : Str).cps++b.cps).toList:=hc
 rw[Array.toList_append,Array.toList_append]at this
 rcases List.mem_append.mp this with h|h
 ·rcases List.mem_append.mp h with h|h
  ·exact ha c h
  ·exact absurd h (by simp[show("" : Str).cps = #[] from rfl])
 ·exact hb c h
theorem bv1:SOk "abcdefghijklmnopqrstuvwxyz" := by
 have:("abcdefghijklmnopqrstuvwxyz" : Str).cps.toList.all (fun c=>decide (97<=c/\c<=122))=true:=by decide +kernel
 intro c hc
 exact of_decide_eq_true (List.all_eq_true.mp this c hc)
def ltr(k:Nat):Str:=⟨#[97+k]⟩
theorem bG1:∀k:Nat,k < 14->atS "abcdefghijklmn" (k:Int)=some (.str (ltr k)):=by
 have e:("abcdefghijklmn" : Str)=⟨#[97,98,99,100,101,102,103,104,105,106,107,108,109,110]⟩:=by decide +kernel
 intro k hk
 rw[e]
 rcases k with _|_|_|_|_|_|_|_|_|_|_|_|_|_|k
 all_goals first|rfl|omega
theorem aL9(k:Nat) (h:k < 14):SOk (ltr k):=by
 intro c hc
 have:c=97+k:=by simpa [ltr] using hc
 omega
def nmS(b:Bool) (k:Nat) (y:Str):Str:=if b=true then ltr k++y else y++ltr k
theorem bp5(b:Bool) {k:Nat}{y:Str}(hk:k < 14) (hy:SOk y):SOk (nmS b k y):=by
 unfold nmS
 split
 ·exact(aL9 k hk).app hy
 ·exact hy.app (aL9 k hk)
theorem bp6{b:Bool}{i j:Nat}{y z:Str}(e:nmS b i y=nmS b j z):i=j:=by
 unfold nmS at e
 cases b with
 | true =>
  have e:(ltr i).cps++y.cps=(ltr j).cps++z.cps:=congrArg Str.cps e
  have e:=congrArg (fun a=>a.toList.head?) e
  simp[ltr]at e
  omega
 | false =>
  have e:y.cps++(ltr i).cps=z.cps++(ltr j).cps:=congrArg Str.cps e
  have e:=congrArg (fun a=>a.toList.getLast?) e
  simp[ltr]at e
  omega
theorem ax7(x:Str) (k:Int) (hk:k=1\/k=2):(af3 x k).length<=2*x.length:=by
 unfold af3
 split
 ·omega
 ·rename_i e
  rcases hk with rfl|rfl
  ·simp at e
  ·show((#[]++x.cps)++x.cps).size<=2*x.cps.size
   simp;omega
theorem bx6(a b:Str) (ha:a.length=1) (hb:b.length=1):ak4 (dC (.str "")) (fun _=>some (false,[.str a,.str b])) []=some (.str (Builtin.Str.glued "" [a,b]))/\(Builtin.Str.glued "" [a,b]).length=2:=by
 have h2:(Builtin.Str.glued "" [a,b]).length=2:=by
  show(a.cps++("" : Str).cps++b.cps).size=2
  unfold Str.length at ha hb
  rw[Array.size_append,Array.size_append,ha,hb]
  rfl
 have h1:v6 "" [a,b]<=16777216:=by
  show 0+a.length+("" : Str).length+b.length+("" : Str).length<=16777216
  have:("" : Str).length=0:=rfl
  omega
 refine⟨?_,h2⟩
 show(if v6 "" [a,b]<=16777216/\(Builtin.Str.glued "" [a,b]).length<=16777216 then some (PyData.str (Builtin.Str.glued "" [a,b])) else none)=_
 rw[if_pos ⟨h1,by omega⟩]
theorem br6{f:DE}{g:Rho->Option (Bool×List D)}{ρ:Rho}{a b:Str}(hf:f ρ=some (.str "")) (hg:g ρ=some (false,[.str a,.str b])) (ha:a.length=1) (hb:b.length=1):ak4 f g ρ=some (.str (Builtin.Str.glued "" [a,b])):=by
 rw[← (bx6 a b ha hb).1]
 unfold ak4
 rw[hf,hg]
 rfl
theorem bp9(x:Str) (k:Int) (hk:k=1\/k=2) (hx:x.length<=1000):aQ8 (.str x) (.int k)=some (.str (af3 x k)):=by
 show(if 1<=k/\k<=2/\x.length<=1000/\(af3 x k).length<=16777216 then some (PyData.str (af3 x k)) else none)=_
 have:=ax7 x k hk
 rw[if_pos ⟨by omega,by omega,hx,by omega⟩]
theorem aB9(a b:Str) (ha:a.length<=1000) (hb:b.length<=1000):B0 (.str a) (.str b)=some (.str (a++b)):=by
 show(if a.length+b.length<=16777216 then some (PyData.str (a++b)) else none)=_
 rw[if_pos (by omega)]
theorem bY5:∀n:Nat,n < 2->∃k:Int,atI ([.int 1,.int 2]:List D) (n:Int)=some (.int k)/\(k=1\/k=2)
 | 0,_=>⟨1,rfl,.inl rfl⟩
 | 1,_=>⟨2,rfl,.inr rfl⟩
 | n+2,h=>absurd h (by omega)
def nbA:DS:=(B3 6 (ak4 (dC (.str "")) (qN (C4 1 [0,1,5] (F6 ⇑2) (B6 0) C9 (o6 (dC (.str "abcdefghijklmnopqrstuvwxyz")) (A2 A6 (A0 (A1 1) (A0 (A5 B0 (A5 B0 (A5 B0 (A1 2) ⇑1) (A5 E6 ⇑3 (A1 3))) (A1 0)) (A0 ⇑26 A3)))))))))
def nbB:DS:=(B3 6 (A5 aQ8 (aT5 (A1 6) K8 (E8 (A2 A6 (A0 (A1 0) (A0 (A5 B0 (A5 B0 (A1 1) ⇑3) (A5 E6 ⇑3 (A1 5))) (A0 ⇑3 A3)))))) (dIx (qN (A0 ⇑1 (A0 ⇑2 A3))) (A2 A6 (A0 (A1 0) (A0 (A5 B0 (A5 B0 (A1 1) ⇑2) (A5 E6 ⇑3 (A1 5))) (A0 ⇑2 A3)))))))
def nbC:DS:=(P8 4 (dIx (qN (A0 (A5 B0 (A1 6) (o6 (dC (.str "abcdefghijklmn")) (A1 5))) (A0 (A5 B0 (o6 (dC (.str "abcdefghijklmn")) (A1 5)) (A1 6)) A3))) (aa2 (A1 3))))
def ay7:DS:=A8 nbA (A8 nbB nbC)
theorem bg4:aq9=(A8 (B3 3 (A5 eqD (A2 A6 (A0 (A1 0) (A0 (A1 1) (A0 ⇑2 A3)))) ⇑0)) (A8 (S7 4 A3) (A8 (P7 (F6 (A1 2)) (B6 5) ay7) (as0 4 (A9 (A1 4)))))):=rfl
def gb0:DS:=(B3 8 (A2 A6 (A0 (A1 0) (A0 (A5 B0 (A5 B0 (A1 1) ⇑3) (A5 E6 ⇑5 (A1 7))) (A0 (A5 B0 (N6 (A7 6)) ⇑1) A3)))))
def gb1:DS:=(B3 9 (A5 B0 (A1 8) (A2 A6 (A0 (A1 0) (A0 (A5 B0 (A5 B0 (A1 1) ⇑4) (A5 E6 ⇑5 (A1 7))) (A0 ⇑3 A3))))))
def gb2:DS:=(B3 10 (dIx (qN (A0 (F0 (A0 ⇑1 (A0 ⇑1 A3))) (A0 (A2 G9 (A0 (A1 0) (A0 (A5 B0 (A5 B0 (A1 1) ⇑5) (A5 E6 ⇑5 (A1 7))) A3))) A3))) (A2 A6 (A0 (A1 0) (A0 (A5 B0 (A5 B0 (A1 1) ⇑6) (A5 E6 ⇑5 (A1 7))) (A0 ⇑2 A3))))))
def gb3:DS:=(B3 11 (dIx (qN (A0 (A1 4) (A0 (dC (.str "atop")) (A0 (A1 4) (A0 (dC (.str "cut")) A3))))) (A2 A6 (A0 (A1 0) (A0 (A5 B0 (A5 B0 (A1 1) ⇑7) (A5 E6 ⇑5 (A1 7))) (A0 ⇑4 A3))))))
def gb4:DS:=(B3 12 (F0 (A0 (dC (.str "group")) (A0 (dIx (A7 3) (A5 B0 (A1 2) (A1 7))) (A0 (A1 11) (A0 (A1 10) (A0 (A5 gtI (A2 A6 (A0 (A1 0) (A0 (A5 B0 (A5 B0 (A1 1) ⇑14) (A1 7)) (A0 ⇑7 A3)))) ⇑0) A3)))))))
def gb5:DS:=(aY1 6 (E8 (A1 8)) (E8 (A1 9)) (A0 (A5 B0 (A1 12) (F0 (A0 (J3 (qE (aT6 (A7 6) (E8 (A1 8)) (E8 (A1 9))))) A3))) A3))
def aM8:DS:=(A8 gb0 (A8 gb1 (A8 gb2 (A8 gb3 (A8 gb4 gb5)))))
def gn0:DS:=(B3 4 (dIx (qN (A0 (dC (.str "over")) (A0 (dC (.str "multiply")) (A0 (dC (.str "screen")) (A0 (dC (.str "plus")) A3))))) (A2 A6 (A0 (A1 0) (A0 (A1 1) (A0 ⇑4 A3))))))
def gn1:DS:=(B3 5 (A2 A6 (A0 (A1 0) (A0 (A5 B0 (A1 1) ⇑1) (A0 (A5 B0 (A1 2) ⇑1) A3)))))
def gn2:DS:=(S7 6 (C4 1 [0,4,3,1] (F6 (A1 5)) (B6 0) C9 (A2 N0 (A0 (A1 1) (A0 (A5 B0 (A5 B0 (A1 4) ⇑20) (A5 E6 ⇑170 (A1 0))) (A0 (dIx (A7 3) (A1 0)) (A0 (A1 2) A3)))))))
def gn3:DS:=(P7 (F6 (A2 A6 (A0 (A1 0) (A0 (A5 B0 (A1 1) ⇑2) (A0 ⇑3 A3))))) (B6 7) aM8)
def gn4:DS:=(A9 (J3 (A7 6)))
theorem bg3:aq8=(A8 gn0 (A8 gn1 (A8 gn2 (A8 gn3 gn4)))):=rfl
theorem bF4(ns:List Int) (hn:ns.length<=63) (at' k:Nat) (ha:at' < 2 ^ 20) (hk:k < 14) (a2:Option B) (b:Bool) (L:List D) (a6:Option B):∃x:Str,nbA [‹scr ns›,‹.int at'›,a2,‹.bool b›,some (.own L),‹.int k›,a6]=some (.nx [‹scr ns›,‹.int at'›,a2,‹.bool b›,some (.own L),‹.int k›,‹.str x›])/\x.length=2/\SOk x:=by
 have m3:E6 (.int 3) (.int k)=some (.int ((3*k:Nat):Int)):=M5 (i:=3) (by decide) (by omega)
 have P:∀j,j < 2->∃s:Str,o6 (dC (.str "abcdefghijklmnopqrstuvwxyz")) (A2 A6 (A0 (A1 1) (A0 (A5 B0 (A5 B0 (A5 B0 (A1 2) ⇑1) (A5 E6 ⇑3 (A1 3))) (A1 0)) (A0 ⇑26 A3)))) [‹.int (j:Nat)›,‹scr ns›,‹.int at'›,‹.int k›]=some (.str s)/\s.length=1/\SOk s:=fun j hj=>by
  obtain⟨d,ed,ld⟩:=D9 ns hn (e:=(at':Int)+1+((3*k:Nat):Int)+(j:Int)) (m':=26) (at'+1+3*k+j) 26 (by omega) rfl (by omega) (by decide)
  obtain⟨s,es,ls,ss⟩:=bK7 "abcdefghijklmnopqrstuvwxyz" d ld (by decide)
  refine⟨s,?_,ls,ss bv1⟩
  wp_walk using evD,o6,m3,ed,es
 obtain⟨S,hS⟩:=ap6 (x:=("" : Str)) P
 have c:C4 1 [0,1,5] (F6 ⇑2) (B6 0) C9 (o6 (dC (.str "abcdefghijklmnopqrstuvwxyz")) (A2 A6 (A0 (A1 1) (A0 (A5 B0 (A5 B0 (A5 B0 (A1 2) ⇑1) (A5 E6 ⇑3 (A1 3))) (A1 0)) (A0 ⇑26 A3))))) [‹scr ns›,‹.int at'›,a2,‹.bool b›,some (.own L),‹.int k›,a6]=some ((List.range 2).map fun j=>.str (S j)) :=
  T7 (l:=List.range 2) (h:=fun j:Nat=>PyData.int j) (r:=[‹scr ns›,‹.int at'›,‹.int k›]) rfl (b5 (n:=2) rfl (by decide)) (by decide) fun j hj=>(hS j (List.mem_range.mp hj)).1
 refine⟨Builtin.Str.glued "" [S 0,S 1],?_,(bx6 _ _ (hS 0 (by decide)).2.1 (hS 1 (by decide)).2.1).2,bg5 (hS 0 (by decide)).2.2 (hS 1 (by decide)).2.2⟩
 have jn:=br6 (f:=dC (.str "")) (g:=qN (C4 1 [0,1,5] (F6 ⇑2) (B6 0) C9 (o6 (dC (.str "abcdefghijklmnopqrstuvwxyz")) (A2 A6 (A0 (A1 1) (A0 (A5 B0 (A5 B0 (A5 B0 (A1 2) ⇑1) (A5 E6 ⇑3 (A1 3))) (A1 0)) (A0 ⇑26 A3))))))) (ρ:=[‹scr ns›,‹.int at'›,a2,‹.bool b›,some (.own L),‹.int k›,a6]) rfl (by unfold qN;rw[c];rfl) (hS 0 (by decide)).2.1 (hS 1 (by decide)).2.1
 unfold nbA B3
 rw[jn]
 rfl
theorem bF3(ns:List Int) (hn:ns.length<=63) (at' k:Nat) (ha:at' < 2 ^ 20) (hk:k < 14) (a2:Option B) (b:Bool) (L:List D) (x:Str) (hx:x.length=2) (sx:SOk x):∃y:Str,nbB [‹scr ns›,‹.int at'›,a2,‹.bool b›,some (.own L),‹.int k›,‹.str x›]=some (.nx [‹scr ns›,‹.int at'›,a2,‹.bool b›,some (.own L),‹.int k›,‹.str y›])/\y.length<=4/\SOk y:=by
 have m3:E6 (.int 3) (.int k)=some (.int ((3*k:Nat):Int)):=M5 (i:=3) (by decide) (by omega)
 obtain⟨d,ed,ld⟩:=D9 ns hn (e:=(at':Int)+3+((3*k:Nat):Int)) (m':=3) (at'+3+3*k) 3 (by omega) rfl (by omega) (by decide)
 obtain⟨d',ed',ld'⟩:=D9 ns hn (e:=(at':Int)+2+((3*k:Nat):Int)) (m':=2) (at'+2+3*k) 2 (by omega) rfl (by omega) (by decide)
 obtain⟨kk,ek,hk'⟩:=bY5 d' ld'
 have sl:=bm1 x none (some (d:Int))
 have rl:=ax7 (slS x none (some (d:Int))) kk hk'
 refine⟨af3 (slS x none (some (d:Int))) kk,?_,by omega,aY7 (bm0 sx _ _) kk hk'⟩
 have a1:aT5 (A1 6) K8 (E8 (A2 A6 (A0 (A1 0) (A0 (A5 B0 (A5 B0 (A1 1) ⇑3) (A5 E6 ⇑3 (A1 5))) (A0 ⇑3 A3))))) [‹scr ns›,‹.int at'›,a2,‹.bool b›,some (.own L),‹.int k›,‹.str x›]=some (.str (slS x none (some (d:Int)))):=by
  have cnd:x.length<=1000/\(slS x none (some (d:Int))).length<=16777216:=⟨by omega,by omega⟩
  wp_walk using evD,aT5,m3,ed,if_pos cnd
 have a2:dIx (qN (A0 ⇑1 (A0 ⇑2 A3))) (A2 A6 (A0 (A1 0) (A0 (A5 B0 (A5 B0 (A1 1) ⇑2) (A5 E6 ⇑3 (A1 5))) (A0 ⇑2 A3)))) [‹scr ns›,‹.int at'›,a2,‹.bool b›,some (.own L),‹.int k›,‹.str x›]=some (.int kk):=by wp_walk using evD,m3,ed',ek
 unfold nbB B3
 rw[ah6 a1 a2,bp9 _ kk hk' (by omega)]
 rfl
theorem ifb(b:Bool) (x y:D):atI [x,y] (if b=true then 1 else 0)=some (if b=true then y else x):=by cases b<;>rfl
theorem bF2(ns:List Int) (at' k:Nat) (hk:k < 14) (a2:Option B) (b:Bool) (L:List D) (hL:L.length<=100) (y:Str) (hy:y.length<=4):nbC [‹scr ns›,‹.int at'›,a2,‹.bool b›,some (.own L),‹.int k›,‹.str y›]=some (.nx [‹scr ns›,‹.int at'›,a2,‹.bool b›,some (.own (L++[.str (nmS b k y)])),‹.int k›,‹.str y›]):=by
 have ec:=bG1 k hk
 have lc:(ltr k).length=1:=rfl
 have c1:=aB9 y (ltr k) (by omega) (by omega)
 have c2:=aB9 (ltr k) y (by omega) (by omega)
 have hl:L.length < 16777216:=by omega
 have e:dIx (qN (A0 (A5 B0 (A1 6) (o6 (dC (.str "abcdefghijklmn")) (A1 5))) (A0 (A5 B0 (o6 (dC (.str "abcdefghijklmn")) (A1 5)) (A1 6)) A3))) (aa2 (A1 3)) [‹scr ns›,‹.int at'›,a2,‹.bool b›,some (.own L),‹.int k›,‹.str y›]=some (.str (nmS b k y)):=by
  wp_walk using evD,o6,ec,c1,c2,ifb
  cases b<;>rfl
 unfold nbC P8
 simp only[xg0,xg1,if_pos hl,e,xms,xw0,xw1]
theorem bb6(ns:List Int) (hn:ns.length<=63) (at' many:Nat) (ha:at' < 2 ^ 20) (hm:many<=14):∃L:List D,i6 [scr ns,.int at',.int many]=some (.list L)/\L.length=many/\∃b:Bool,∀i,i < many->∃y,L[i]? = some (.str (nmS b i y))/\SOk y/\y.length<=4:=by
 obtain⟨d,ed,ld⟩:=D9 ns hn (e:=(at':Int)) (m':=2) at' 2 rfl rfl (by omega) (by decide)
 obtain⟨ρ',e,L,a5,a6,hρ,hL,hP⟩:=U8 (g:=B6 5) (f:=ay7) (h:=fun j:Nat=>PyData.int j) (I:=fun i ρ=>∃(L:List D) (a5 a6:Option B),ρ=[‹scr ns›,‹.int at'›,‹.int many›,‹.bool ((d:Int)==0)›,some (.own L),a5,a6]/\L.length=i/\∀n,n < i->∃y,L[n]? = some (.str (nmS ((d:Int)==0) n y))/\SOk y/\y.length<=4) (List.range many) 0 [‹scr ns›,‹.int at'›,‹.int many›,‹.bool ((d:Int)==0)›,some (.own []),none,none] ⟨[],none,none,rfl,rfl,fun n h=>absurd h (Nat.not_lt_zero n)⟩ (fun j a hj ρ hρ=>by
  obtain⟨L,a5,a6,rfl,hL,hP⟩:=hρ
  obtain⟨hj1,hj2⟩:=List.getElem?_eq_some_iff.mp hj
  rw[List.length_range]at hj1
  rw[List.getElem_range]at hj2
  subst hj2
  refine⟨_,rfl,?_⟩
  simp only[xw0,xw1]
  obtain⟨x,e1,hx,sx⟩:=bF4 ns hn at' j ha (by omega) (‹.int many›) ((d:Int)==0) L a6
  obtain⟨y,e2,hy,sy⟩:=bF3 ns hn at' j ha (by omega) (‹.int many›) ((d:Int)==0) L x hx sx
  have e3:=bF2 ns at' j (by omega) (‹.int many›) ((d:Int)==0) L (by omega) y hy
  have eb:ay7 [‹scr ns›,‹.int at'›,‹.int many›,‹.bool ((d:Int)==0)›,some (.own L),‹.int j›,a6]=some (.nx [‹scr ns›,‹.int at'›,‹.int many›,‹.bool ((d:Int)==0)›,some (.own (L++[.str (nmS ((d:Int)==0) j y)])),‹.int j›,‹.str y›]):=by
   unfold ay7
   rw[B5 e1,B5 e2,e3]
  refine⟨_,eb,L++[.str (nmS ((d:Int)==0) j y)],_,_,rfl,by rw[List.length_append,hL];rfl,fun n hn=>?_⟩
  by_cases q:n < 0+j
  ·obtain⟨z,e1,e2⟩:=hP n q
   exact⟨z,by rw[List.getElem?_append_left (by omega)];exact e1,e2⟩
  ·have:n=L.length:=by omega
   refine⟨y,?_,sy,hy⟩
   rw[this,List.getElem?_append_right (Nat.le_refl _),Nat.sub_self]
   rw[show L.length=j by omega]
   rfl)
 subst hρ
 rw[List.length_range,Nat.zero_add]at hL hP
 refine⟨L,?_,hL,_,hP⟩
 refine B2 (ρ:=[‹scr ns›,‹.int at'›,‹.int many›,none,none,none,none]) rfl ?_
 have rn:F6 (A1 2) [‹scr ns›,‹.int at'›,‹.int many›,‹.bool ((d:Int)==0)›,some (.own []),none,none]=_:=b5 (n:=many) rfl (by omega)
 have s0:(B3 3 (A5 eqD (A2 A6 (A0 (A1 0) (A0 (A1 1) (A0 ⇑2 A3)))) ⇑0)) [‹scr ns›,‹.int at'›,‹.int many›,none,none,none,none]=some (.nx [‹scr ns›,‹.int at'›,‹.int many›,‹.bool ((d:Int)==0)›,none,none,none]):=by simp only[B3,A5,A2,A0,A3,A1,dC,xbs,xms,xg0,xg1,xw0,xw1,ed,ag2]
 have s1:(S7 4 A3) [‹scr ns›,‹.int at'›,‹.int many›,‹.bool ((d:Int)==0)›,none,none,none]=some (.nx [‹scr ns›,‹.int at'›,‹.int many›,‹.bool ((d:Int)==0)›,some (.own []),none,none]):=rfl
 have s2:(P7 (F6 (A1 2)) (B6 5) ay7) [‹scr ns›,‹.int at'›,‹.int many›,‹.bool ((d:Int)==0)›,some (.own []),none,none]=some (.nx [‹scr ns›,‹.int at'›,‹.int many›,‹.bool ((d:Int)==0)›,some (.own L),a5,a6]):=by
  unfold P7
  rw[rn]
  exact e
 have s3:(as0 4 (A9 (A1 4))) [‹scr ns›,‹.int at'›,‹.int many›,‹.bool ((d:Int)==0)›,some (.own L),a5,a6]=some (.rt (.list L)):=rfl
 rw[bg4,B5 s0,B5 s1,B5 s2]
 exact s3
theorem bY0:∀n:Nat,n < 6->∃m:Man,atI ([.str "over", .str "multiply", .str "screen", .str "plus", .str "atop", .str "cut"]:List D) (n:Int)=some (.str m.s)
 | 0,_=>⟨.over,rfl⟩
 | 1,_=>⟨.mult,rfl⟩
 | 2,_=>⟨.screen,rfl⟩
 | 3,_=>⟨.plus,rfl⟩
 | 4,_=>⟨.atop,rfl⟩
 | 5,_=>⟨.cut,rfl⟩
 | n+6,h=>absurd h (by omega)
theorem bY1:∀n:Nat,n < 4->∃m:Man,atI ([.str "over", .str "multiply", .str "screen", .str "plus"]:List D) (n:Int)=some (.str m.s)
 | 0,_=>⟨.over,rfl⟩
 | 1,_=>⟨.mult,rfl⟩
 | 2,_=>⟨.screen,rfl⟩
 | 3,_=>⟨.plus,rfl⟩
 | n+4,h=>absurd h (by omega)
theorem bS5(m:Man):∀n:Nat,n < 4->∃m':Man,atI ([.str m.s,.str "atop", .str m.s,.str "cut"]:List D) (n:Int)=some (.str m'.s)
 | 0,_=>⟨m,rfl⟩
 | 1,_=>⟨.atop,rfl⟩
 | 2,_=>⟨m,rfl⟩
 | 3,_=>⟨.cut,rfl⟩
 | n+4,h=>absurd h (by omega)
theorem bX3:∀n:Nat,n < 3->∃r:Rul,atI ([.str "turn", .str "grey", .str "round"]:List D) (n:Int)=some (.str r.s)
 | 0,_=>⟨.turn,rfl⟩
 | 1,_=>⟨.grey,rfl⟩
 | 2,_=>⟨.round,rfl⟩
 | n+3,h=>absurd h (by omega)
theorem aO4(n:Nat):((n:Int)==0)=decide (n=0):=by
 cases n with
 | zero=>rfl
 | succ n=>rw[decide_eq_false (by omega)];exact beq_eq_false_iff_ne.mpr (by omega)
theorem bk0(n:Nat):(decide ((0:Int) < (n:Int)))=decide (0 < n):=by
 cases n with
 | zero=>rfl
 | succ n=>rw[decide_eq_true (by omega),decide_eq_true (by omega)]
theorem ad1(n:Nat):(1:Int)+(n:Int)=((1+n:Nat):Int):=by omega
def Nd.nm:Nd->D
 | .layer nm ..=>nm
 | .tone nm ..=>nm
 | .group nm ..=>nm
mutual
def Nd.near:Nd->Prop
 | .layer _ _ _ _ lf tp _ w h l kb=>-2<=lf/\lf<=2/\-2<=tp/\tp<=2/\kb<=40/\w<=3/\h<=3/\∀q∈l,q.ok 8
 | .tone ..=>True
 | .group _ _ _ _ ns=>Nd.nears ns
def Nd.nears:List Nd->Prop
 | []=>True
 | n::r=>n.near/\Nd.nears r
end
theorem U7:∀l:List Nd,Nd.nears l↔∀n∈l,n.near
 | []=>by simp[Nd.nears]
 | n::r=>by simp[Nd.nears,U7 r]
theorem aM0(ns:List Int) (hn:ns.length<=63) (at':Nat) (ha:at' < 2 ^ 19) (nm:D) (m:Man):∃n:Nd,N0 [scr ns,.int at',nm,.str m.s]=some n.d/\n.Ok/\n.dp=0/\n.wg<=40/\n.nm=nm/\n.near:=by
 obtain⟨s,es,hs⟩:=c7 ns at' hn (by omega)
 have es:G9 [scr ns,.int at']=some (fr s):=es
 obtain⟨d3,e3,l3⟩:=D9 ns hn (e:=(at':Int)+3) (m':=6) (at'+3) 6 (by omega) rfl (by omega) (by decide)
 obtain⟨d4,e4,l4⟩:=D9 ns hn (e:=(at':Int)+4) (m':=6) (at'+4) 6 (by omega) rfl (by omega) (by decide)
 obtain⟨d6,e6,l6⟩:=D9 ns hn (e:=(at':Int)+6) (m':=3) (at'+6) 3 (by omega) rfl (by omega) (by decide)
 obtain⟨d7,e7,l7⟩:=D9 ns hn (e:=(at':Int)+7) (m':=3) (at'+7) 3 (by omega) rfl (by omega) (by decide)
 obtain⟨d8,e8,l8⟩:=D9 ns hn (e:=(at':Int)+8) (m':=3) (at'+8) 3 (by omega) rfl (by omega) (by decide)
 obtain⟨d9,e9,l9⟩:=D9 ns hn (e:=(at':Int)+9) (m':=3) (at'+9) 3 (by omega) rfl (by omega) (by decide)
 obtain⟨d10,e10,l10⟩:=D9 ns hn (e:=(at':Int)+10) (m':=4) (at'+10) 4 (by omega) rfl (by omega) (by decide)
 obtain⟨d11,e11,l11⟩:=D9 ns hn (e:=(at':Int)+11) (m':=4) (at'+11) 4 (by omega) rfl (by omega) (by decide)
 obtain⟨d12,e12,l12⟩:=D9 ns hn (e:=(at':Int)+12) (m':=3) (at'+12) 3 (by omega) rfl (by omega) (by decide)
 obtain⟨d5,e5,l5⟩:=D9 ns hn (e:=(at':Int)+5) (m':=3) (at'+5) 3 (by omega) rfl (by omega) (by decide)
 obtain⟨d5',e5',l5'⟩:=D9 ns hn (e:=(at':Int)+5) (m':=6) (at'+5) 6 (by omega) rfl (by omega) (by decide)
 have s0:Y5 [‹scr ns›,‹.int at'›,‹nm›,‹.str m.s›,none,none,none,none,none,none,none,none,none]=some (.nx [‹scr ns›,‹.int at'›,‹nm›,‹.str m.s›,‹fr s›,none,none,none,none,none,none,none,none]):=by wp_walk using evD,Y5,es
 have s1:Y4 [‹scr ns›,‹.int at'›,‹nm›,‹.str m.s›,‹fr s›,none,none,none,none,none,none,none,none]=some (.nx [‹scr ns›,‹.int at'›,‹nm›,‹.str m.s›,‹fr s›,‹.bool (decide (0 < d3))›,none,none,none,none,none,none,none]):=by wp_walk using evD,Y4,e3,bk0
 by_cases t4:d4=0
 ·obtain⟨r,er⟩:=bX3 d5 l5
  refine⟨.tone nm r s (decide (0 < d3)),?_,aK1 hs,rfl,by show 6<=40;decide,rfl,by rw[Nd.near];trivial⟩
  have s2:P6 [‹scr ns›,‹.int at'›,‹nm›,‹.str m.s›,‹fr s›,‹.bool (decide (0 < d3))›,none,none,none,none,none,none,none]=some (.rt (.tuple [.str "tone", nm,.str r.s,fr s,.bool (decide (0 < d3))])):=by wp_walk using evD,P6,e4,aO4,decide_eq_true t4,e5,er
  refine B2 (ρ:=[‹scr ns›,‹.int at'›,‹nm›,‹.str m.s›,none,none,none,none,none,none,none,none,none]) rfl ?_
  unfold al5
  rw[B5 s0,B5 s1,aF0 s2,Nd.d]
 have s2:P6 [‹scr ns›,‹.int at'›,‹nm›,‹.str m.s›,‹fr s›,‹.bool (decide (0 < d3))›,none,none,none,none,none,none,none]=some (.nx [‹scr ns›,‹.int at'›,‹nm›,‹.str m.s›,‹fr s›,‹.bool (decide (0 < d3))›,none,none,none,none,none,none,none]):=by wp_walk using evD,P6,e4,aO4,decide_eq_false t4
 obtain⟨m0,em0⟩:=bY0 d5' l5'
 have s3:Y3 [‹scr ns›,‹.int at'›,‹nm›,‹.str m.s›,‹fr s›,‹.bool (decide (0 < d3))›,none,none,none,none,none,none,none]=some (.nx [‹scr ns›,‹.int at'›,‹nm›,‹.str m.s›,‹fr s›,‹.bool (decide (0 < d3))›,‹.str m0.s›,none,none,none,none,none,none]):=by wp_walk using evD,Y3,e5',em0
 obtain⟨m1,s4⟩:∃m1:Man,T1 [‹scr ns›,‹.int at'›,‹nm›,‹.str m.s›,‹fr s›,‹.bool (decide (0 < d3))›,‹.str m0.s›,none,none,none,none,none,none]=some (.nx [‹scr ns›,‹.int at'›,‹nm›,‹.str m.s›,‹fr s›,‹.bool (decide (0 < d3))›,‹.str m1.s›,none,none,none,none,none,none]):=by
  by_cases t6:0 < d6
  ·exact⟨m,by wp_walk using evD,T1,e6,bk0,decide_eq_true t6⟩
  ·exact⟨m0,by wp_walk using evD,T1,e6,bk0,decide_eq_false t6⟩
 have s5:Y2 [‹scr ns›,‹.int at'›,‹nm›,‹.str m.s›,‹fr s›,‹.bool (decide (0 < d3))›,‹.str m1.s›,none,none,none,none,none,none]=some (.nx [‹scr ns›,‹.int at'›,‹nm›,‹.str m.s›,‹fr s›,‹.bool (decide (0 < d3))›,‹.str m1.s›,‹.int ((1+d7:Nat):Int)›,none,none,none,none,none]):=by wp_walk using evD,Y2,e7,ad1
 have s6:Y1 [‹scr ns›,‹.int at'›,‹nm›,‹.str m.s›,‹fr s›,‹.bool (decide (0 < d3))›,‹.str m1.s›,‹.int ((1+d7:Nat):Int)›,none,none,none,none,none]=some (.nx [‹scr ns›,‹.int at'›,‹nm›,‹.str m.s›,‹fr s›,‹.bool (decide (0 < d3))›,‹.str m1.s›,‹.int ((1+d7:Nat):Int)›,‹.int ((1+d8:Nat):Int)›,none,none,none,none]):=by wp_walk using evD,Y1,e8,ad1
 have s7:Y0 [‹scr ns›,‹.int at'›,‹nm›,‹.str m.s›,‹fr s›,‹.bool (decide (0 < d3))›,‹.str m1.s›,‹.int ((1+d7:Nat):Int)›,‹.int ((1+d8:Nat):Int)›,none,none,none,none]=some (.nx [‹scr ns›,‹.int at'›,‹nm›,‹.str m.s›,‹fr s›,‹.bool (decide (0 < d3))›,‹.str m1.s›,‹.int ((1+d7:Nat):Int)›,‹.int ((1+d8:Nat):Int)›,some (.val .none),none,none,none]):=by wp_walk using evD,Y0
 have wh:(1+d7)*(1+d8)<=9:=Nat.mul_le_mul (show 1+d7<=3 by omega) (show 1+d8<=3 by omega)
 have mwh:E6 (.int ((1+d7:Nat):Int)) (.int ((1+d8:Nat):Int))=some (.int (((1+d7)*(1+d8):Nat):Int)):=M5 (by omega) (by omega)
 obtain⟨mk,s8,hmk⟩:∃mk:Option (List Rat),T0 [‹scr ns›,‹.int at'›,‹nm›,‹.str m.s›,‹fr s›,‹.bool (decide (0 < d3))›,‹.str m1.s›,‹.int ((1+d7:Nat):Int)›,‹.int ((1+d8:Nat):Int)›,some (.val .none),none,none,none]=some (.nx [‹scr ns›,‹.int at'›,‹nm›,‹.str m.s›,‹fr s›,‹.bool (decide (0 < d3))›,‹.str m1.s›,‹.int ((1+d7:Nat):Int)›,‹.int ((1+d8:Nat):Int)›,‹mkD mk›,none,none,none])/\∀ms,mk=some ms->ms.length=(1+d7)*(1+d8)/\∀r∈ms,Sr 4 r:=by
  by_cases t9:d9=0
  ·have P:∀j,j < 9->∃r:Rat,G9 [scr ns,.int ((at':Int)+20+((3*j:Nat):Int))]=some (fr r)/\IsSh 4 r:=fun j hj=>ax4 ns hn (at'+20+3*j) (by omega) (by omega)
   obtain⟨R,hR⟩:=ap6 (x:=(0:Rat)) P
   have c:C4 1 [0,1] (F6 (A5 E6 (A1 7) (A1 8))) (B6 0) C9 (A2 G9 (A0 (A1 1) (A0 (A5 B0 (A5 B0 (A1 2) ⇑20) (A5 E6 ⇑3 (A1 0))) A3))) [‹scr ns›,‹.int at'›,‹nm›,‹.str m.s›,‹fr s›,‹.bool (decide (0 < d3))›,‹.str m1.s›,‹.int ((1+d7:Nat):Int)›,‹.int ((1+d8:Nat):Int)›,some (.val .none),none,none,none]=some ((List.range ((1+d7)*(1+d8))).map fun j=>fr (R j)):=by
    refine T7 (l:=List.range ((1+d7)*(1+d8))) (h:=fun j:Nat=>PyData.int j) (r:=[‹scr ns›,‹.int at'›]) rfl (b5 ((ah6 rfl rfl).trans mwh) (by omega)) (by rw[List.length_range];omega) fun j hj=>?_
    have hj:=List.mem_range.mp hj
    have m3:E6 (.int 3) (.int j)=some (.int ((3*j:Nat):Int)):=M5 (i:=3) (by decide) (by omega)
    wp_walk using evD,m3,(hR j (by omega)).1
   refine⟨some ((List.range ((1+d7)*(1+d8))).map R),?_,fun ms e=>?_⟩
   ·simp only[T0,sIf,tB2,B3,J3,qN,c,A5,A2,A0,A3,A1,dC,ad2,e9,ag2,aO4,decide_eq_true t9,G4,xbs,xms,xg0,xg1,xw0,xw1,if_true,xft,if_false,mkD,List.map_map]
    rfl
   ·cases e
    refine⟨by rw[List.length_map,List.length_range],fun r hr=>?_⟩
    obtain⟨j,hj,rfl⟩:=List.mem_map.mp hr
    exact aK1 (hR j (by have:=List.mem_range.mp hj;omega)).2
  ·exact⟨none,by(wp_walk using evD,T0,e9,aO4,decide_eq_false t9,mkD),fun ms e=>by cases e⟩
 have s9:X9 [‹scr ns›,‹.int at'›,‹nm›,‹.str m.s›,‹fr s›,‹.bool (decide (0 < d3))›,‹.str m1.s›,‹.int ((1+d7:Nat):Int)›,‹.int ((1+d8:Nat):Int)›,‹mkD mk›,none,none,none]=some (.nx [‹scr ns›,‹.int at'›,‹nm›,‹.str m.s›,‹fr s›,‹.bool (decide (0 < d3))›,‹.str m1.s›,‹.int ((1+d7:Nat):Int)›,‹.int ((1+d8:Nat):Int)›,‹mkD mk›,‹.int ((d10:Int) - 1)›,none,none]):=by wp_walk using evD,X9,e10
 have s10:W0 [‹scr ns›,‹.int at'›,‹nm›,‹.str m.s›,‹fr s›,‹.bool (decide (0 < d3))›,‹.str m1.s›,‹.int ((1+d7:Nat):Int)›,‹.int ((1+d8:Nat):Int)›,‹mkD mk›,‹.int ((d10:Int) - 1)›,none,none]=some (.nx [‹scr ns›,‹.int at'›,‹nm›,‹.str m.s›,‹fr s›,‹.bool (decide (0 < d3))›,‹.str m1.s›,‹.int ((1+d7:Nat):Int)›,‹.int ((1+d8:Nat):Int)›,‹mkD mk›,‹.int ((d10:Int) - 1)›,‹.int ((d11:Int) - 1)›,none]):=by wp_walk using evD,W0,e11
 obtain⟨w,h,lf,tp,mk',s11,hw,hh,hmk',hof⟩:∃(w h:Nat) (lf tp:Int) (mk':Option (List Rat)),R0 [‹scr ns›,‹.int at'›,‹nm›,‹.str m.s›,‹fr s›,‹.bool (decide (0 < d3))›,‹.str m1.s›,‹.int ((1+d7:Nat):Int)›,‹.int ((1+d8:Nat):Int)›,‹mkD mk›,‹.int ((d10:Int) - 1)›,‹.int ((d11:Int) - 1)›,none]=some (.nx [‹scr ns›,‹.int at'›,‹nm›,‹.str m.s›,‹fr s›,‹.bool (decide (0 < d3))›,‹.str m1.s›,‹.int (w:Nat)›,‹.int (h:Nat)›,‹mkD mk'›,‹.int lf›,‹.int tp›,none])/\(1<=w/\w<=3)/\(1<=h/\h<=3)/\(∀ms,mk'=some ms->ms.length=w*h/\∀r∈ms,Sr 4 r)/\(-2<=lf/\lf<=2/\-2<=tp/\tp<=2):=by
  by_cases t12:d12=0
  ·refine⟨3,3,0,0,none,?_,by decide,by decide,(fun ms e=>by cases e),by decide⟩
   have l5:∀a b c d e:D,([a,b,c,d,e]:List D).length=5:=fun _ _ _ _ _=>rfl
   wp_walk using evD,R0,e12,aO4,decide_eq_true t12,l5,mkD
   rfl
  ·exact⟨1+d7,1+d8,(d10:Int) - 1,(d11:Int) - 1,mk,by(wp_walk using evD,R0,e12,aO4,decide_eq_false t12),by omega,by omega,hmk,by omega⟩
 obtain⟨l,el,S⟩:=aX9 ns hn (e:=(at':Int)+50) (at'+50) w h (by omega) (by omega) hw.1 (by omega) hh.1 (by omega)
 have s12:V9 [‹scr ns›,‹.int at'›,‹nm›,‹.str m.s›,‹fr s›,‹.bool (decide (0 < d3))›,‹.str m1.s›,‹.int (w:Nat)›,‹.int (h:Nat)›,‹mkD mk'›,‹.int lf›,‹.int tp›,none]=some (.nx [‹scr ns›,‹.int at'›,‹nm›,‹.str m.s›,‹fr s›,‹.bool (decide (0 < d3))›,‹.str m1.s›,‹.int (w:Nat)›,‹.int (h:Nat)›,‹mkD mk'›,‹.int lf›,‹.int tp›,‹shD w h l›]):=by wp_walk using evD,V9,el
 refine⟨.layer nm m1 s (decide (0 < d3)) lf tp mk' w h l 32,?_,?_,rfl,Nat.le_refl _,rfl,by rw[Nd.near];exact⟨hof.1,hof.2.1,hof.2.2.1,hof.2.2.2,by decide,by omega,by omega,S.ok⟩⟩
 ·have s13:V8 [‹scr ns›,‹.int at'›,‹nm›,‹.str m.s›,‹fr s›,‹.bool (decide (0 < d3))›,‹.str m1.s›,‹.int (w:Nat)›,‹.int (h:Nat)›,‹mkD mk'›,‹.int lf›,‹.int tp›,‹shD w h l›]=some (.rt (.tuple [.str "layer", nm,.str m1.s,fr s,.bool (decide (0 < d3)),.int lf,.int tp,mkD mk',shD w h l])):=by
   wp_walk using evD,V8
  refine B2 (ρ:=[‹scr ns›,‹.int at'›,‹nm›,‹.str m.s›,none,none,none,none,none,none,none,none,none]) rfl ?_
  unfold al5
  rw[B5 s0,B5 s1,B5 s2,B5 s3,B5 s4,B5 s5,B5 s6,B5 s7,B5 s8,B5 s9,B5 s10,B5 s11,B5 s12,s13,Nd.d]
 ·rw[Nd.Ok]
  exact⟨aK1 hs,⟨S.w1,S.w8,S.h1,S.h8,S.len,fun q hq=>(S.ok q hq).mono (by decide)⟩,fun q hq=>bU6 (S.ok q hq),hmk',by decide⟩
theorem E4:∀l:List Nd,Nd.ds l=l.map Nd.d
 | []=>by rw[Nd.ds];rfl
 | n::r=>by rw[Nd.ds,E4 r];rfl
theorem N1:∀l:List Nd,Nd.Oks l↔∀n∈l,n.Ok
 | []=>by simp[Nd.Oks]
 | n::r=>by simp[Nd.Oks,N1 r]
theorem O4:∀a b:List Nd,Nd.wgs (a++b)=Nd.wgs a+Nd.wgs b
 | [],b=>by simp[Nd.wgs]
 | n::a,b=>by rw[xca,Nd.wgs,Nd.wgs,O4 a b];omega
theorem L4:∀a b:List Nd,Nd.dps (a++b)=max (Nd.dps a) (Nd.dps b)
 | [],b=>by simp[Nd.dps]
 | n::a,b=>by rw[xca,Nd.dps,Nd.dps,L4 a b,Nat.max_assoc]
theorem aW9:∀l:List Nd,(∀n∈l,n.wg<=40)->Nd.wgs l<=40*l.length
 | [],_=>by simp[Nd.wgs]
 | n::l,h=>by
  have a:=h n (List.mem_cons_self ..)
  have b:=aW9 l fun m hm=>h m (xmm _ hm)
  rw[Nd.wgs,List.length_cons];omega
theorem aA8:∀l:List Nd,(∀n∈l,n.dp=0)->Nd.dps l=0
 | [],_=>by simp[Nd.dps]
 | n::l,h=>by
  have a:=h n (List.mem_cons_self ..)
  have b:=aA8 l fun m hm=>h m (xmm _ hm)
  rw[Nd.dps];omega
mutual
def Nd.nms:Nd->List D
 | .layer nm _ _ _ _ _ _ _ _ _ _=>[nm]
 | .tone nm _ _ _=>[nm]
 | .group nm _ _ _ ns=>nm::Nd.nmss ns
def Nd.nmss:List Nd->List D
 | []=>[]
 | n::r=>n.nms++Nd.nmss r
end
theorem B8:∀a b:List Nd,Nd.nmss (a++b)=Nd.nmss a++Nd.nmss b
 | [],b=>by simp[Nd.nmss]
 | n::a,b=>by rw[xca,Nd.nmss,Nd.nmss,B8 a b,List.append_assoc]
mutual
def Nd.thin:Nd->Prop
 | .layer ..=>True
 | .tone ..=>True
 | .group _ _ _ _ ns=>ns.length<=1000/\Nd.thins ns
def Nd.thins:List Nd->Prop
 | []=>True
 | n::r=>n.thin/\Nd.thins r
end
theorem L8:∀l:List Nd,Nd.thins l↔∀n∈l,n.thin
 | []=>by simp[Nd.thins]
 | n::r=>by simp[Nd.thins,L8 r]
def ag0(l:List Nd) (a c:Nat) (g:List Nd->Nd):List Nd:=l.take a++[g ((l.drop a).take (c - a))]++l.drop c
theorem bB5(l:List Nd) {a c:Nat}(h:a<=c):l.take a++(l.drop a).take (c - a)++l.drop c=l:=by
 have e:l.drop c=(l.drop a).drop (c - a):=by rw[List.drop_drop];congr 1;omega
 rw[e,List.append_assoc,List.take_append_drop,List.take_append_drop]
theorem bu5{ds:List D}{a b:Nat}(ha:a<=ds.length):U0 ds (some (a:Int)) (some (b:Int))=(ds.drop a).take (min b ds.length - a)/\∀es:List D,ai3 ds (some (a:Int)) (some (b:Int)) es=ds.take a++es++ds.drop (max a (min b ds.length)):=by
 have h1:HT.sIx ds.length 0 (some (a:Int))=a:=by rw[HT.sIx_nat];omega
 have h2:HT.sIx ds.length ds.length (some (b:Int))=min b ds.length:=HT.sIx_nat ..
 refine⟨?_,fun es=>?_⟩
 ·unfold U0;rw[h1,h2]
 ·unfold ai3;rw[h1,h2]
theorem bg7(ns:List Int) (hn:ns.length<=63) (at' most k:Nat) (ha:at' < 2 ^ 18) (hk:k < 2) (hmost:most<=6) (N:List D) (hN:most+2<=N.length) (m:Man) (l:List Nd) (hl:l.length<=100) (a5 a8 a9 a10 a11 a12:Option B) :
  ∃(a c:Nat) (nm:D) (m':Man) (s:Rat) (sh:Bool) (b8 b9 b10 b11 b12:Option B),aM8 [‹scr ns›,‹.int at'›,‹.int most›,‹.list N›,‹.str m.s›,a5,some (.own (Nd.ds l)),‹.int k›,a8,a9,a10,a11,a12]=some (.nx [‹scr ns›,‹.int at'›,‹.int most›,‹.list N›,‹.str m.s›,a5,some (.own (Nd.ds (ag0 l a c (Nd.group nm m' s sh)))),‹.int k›,b8,b9,b10,b11,b12])/\a<=c/\c<=l.length/\IsSh 4 s/\nm=N.getD (most+k) .none:=by
 have m5:E6 (.int 5) (.int k)=some (.int ((5*k:Nat):Int)):=M5 (i:=5) (by decide) (by omega)
 have hds:(Nd.ds l).length=l.length:=by rw[E4,List.length_map]
 obtain⟨f,ef,lf⟩:=D9 ns hn (e:=(at':Int)+3+((5*k:Nat):Int)) (m':=(((Nd.ds l).length:Nat):Int)+1) (at'+3+5*k) (l.length+1) (by omega) (by rw[hds];omega) (by omega) (by omega)
 obtain⟨d,ed,ld⟩:=D9 ns hn (e:=(at':Int)+4+((5*k:Nat):Int)) (m':=3) (at'+4+5*k) 3 (by omega) rfl (by omega) (by decide)
 obtain⟨s0,es0,hs0⟩:=ax4 ns hn (e:=(at':Int)+5+((5*k:Nat):Int)) (at'+5+5*k) (by omega) (by omega)
 obtain⟨d6,e6,l6⟩:=D9 ns hn (e:=(at':Int)+6+((5*k:Nat):Int)) (m':=2) (at'+6+5*k) 2 (by omega) rfl (by omega) (by decide)
 obtain⟨d7,e7,l7⟩:=D9 ns hn (e:=(at':Int)+7+((5*k:Nat):Int)) (m':=4) (at'+7+5*k) 4 (by omega) rfl (by omega) (by decide)
 obtain⟨d14,e14,l14⟩:=D9 ns hn (e:=(at':Int)+14+(k:Int)) (m':=7) (at'+14+k) 7 (by omega) rfl (by omega) (by decide)
 obtain⟨m',em'⟩:=bS5 m d7 l7
 obtain⟨s,est,hs⟩:∃s:Rat,atI ([.tuple [.int 1,.int 1],fr s0]:List D) (d6:Int)=some (fr s)/\IsSh 4 s:=by
  rcases(show d6=0\/d6=1 by omega) with rfl|rfl
  ·exact⟨1,rfl,Bd.one.mono (by decide),Rat.le_refl⟩
  ·exact⟨s0,rfl,hs0⟩
 obtain⟨nm,enm,hnm⟩:∃nm,atI N ((most:Int)+(k:Int))=some nm/\nm=N.getD (most+k) .none:=by
  unfold atI
  rw[au1 (by omega) (by omega),xbs]
  have h':((most:Int)+(k:Int)).toNat=most+k:=by omega
  rw[h']
  exact⟨N[most+k]'(by omega),List.getElem?_eq_getElem (by omega),by rw[List.getD_eq_getElem?_getD,List.getElem?_eq_getElem (by omega)];rfl⟩
 refine⟨f,max f (min (f+d) l.length),nm,m',s,decide (0 < d14),?_⟩
 have s0:gb0 [‹scr ns›,‹.int at'›,‹.int most›,‹.list N›,‹.str m.s›,a5,some (.own (Nd.ds l)),‹.int k›,a8,a9,a10,a11,a12]=some (.nx [‹scr ns›,‹.int at'›,‹.int most›,‹.list N›,‹.str m.s›,a5,some (.own (Nd.ds l)),‹.int k›,‹.int f›,a9,a10,a11,a12]):=by wp_walk using evD,gb0,m5,ef
 have fd:(f:Int)+(d:Int)=((f+d:Nat):Int):=by omega
 have s1:gb1 [‹scr ns›,‹.int at'›,‹.int most›,‹.list N›,‹.str m.s›,a5,some (.own (Nd.ds l)),‹.int k›,‹.int f›,a9,a10,a11,a12]=some (.nx [‹scr ns›,‹.int at'›,‹.int most›,‹.list N›,‹.str m.s›,a5,some (.own (Nd.ds l)),‹.int k›,‹.int f›,‹.int ((f+d:Nat):Int)›,a10,a11,a12]):=by wp_walk using evD,gb1,m5,ed,fd
 have s2:gb2 [‹scr ns›,‹.int at'›,‹.int most›,‹.list N›,‹.str m.s›,a5,some (.own (Nd.ds l)),‹.int k›,‹.int f›,‹.int ((f+d:Nat):Int)›,a10,a11,a12]=some (.nx [‹scr ns›,‹.int at'›,‹.int most›,‹.list N›,‹.str m.s›,a5,some (.own (Nd.ds l)),‹.int k›,‹.int f›,‹.int ((f+d:Nat):Int)›,‹fr s›,a11,a12]):=by wp_walk using evD,gb2,m5,es0,e6,est
 have s3:gb3 [‹scr ns›,‹.int at'›,‹.int most›,‹.list N›,‹.str m.s›,a5,some (.own (Nd.ds l)),‹.int k›,‹.int f›,‹.int ((f+d:Nat):Int)›,‹fr s›,a11,a12]=some (.nx [‹scr ns›,‹.int at'›,‹.int most›,‹.list N›,‹.str m.s›,a5,some (.own (Nd.ds l)),‹.int k›,‹.int f›,‹.int ((f+d:Nat):Int)›,‹fr s›,‹.str m'.s›,a12]):=by wp_walk using evD,gb3,m5,e7,em'
 have s4:gb4 [‹scr ns›,‹.int at'›,‹.int most›,‹.list N›,‹.str m.s›,a5,some (.own (Nd.ds l)),‹.int k›,‹.int f›,‹.int ((f+d:Nat):Int)›,‹fr s›,‹.str m'.s›,a12]=some (.nx [‹scr ns›,‹.int at'›,‹.int most›,‹.list N›,‹.str m.s›,a5,some (.own (Nd.ds l)),‹.int k›,‹.int f›,‹.int ((f+d:Nat):Int)›,‹fr s›,‹.str m'.s›,‹.tuple [.str "group", nm,.str m'.s,fr s,.bool (decide (0 < d14))]›]):=by wp_walk using evD,gb4,enm,e14,bk0
 obtain⟨q1,q2⟩:=bu5 (ds:=Nd.ds l) (a:=f) (b:=f+d) (by omega)
 have mid:((Nd.ds l).drop f).take (min (f+d) (Nd.ds l).length - f)=Nd.ds ((l.drop f).take (max f (min (f+d) l.length) - f)):=by
  rw[hds,E4,E4,← List.map_drop,← List.map_take]
  congr 2;omega
 have s5:gb5 [‹scr ns›,‹.int at'›,‹.int most›,‹.list N›,‹.str m.s›,a5,some (.own (Nd.ds l)),‹.int k›,‹.int f›,‹.int ((f+d:Nat):Int)›,‹fr s›,‹.str m'.s›,‹.tuple [.str "group", nm,.str m'.s,fr s,.bool (decide (0 < d14))]›]=some (.nx [‹scr ns›,‹.int at'›,‹.int most›,‹.list N›,‹.str m.s›,a5,some (.own (Nd.ds (ag0 l f (max f (min (f+d) l.length)) (Nd.group nm m' s (decide (0 < d14)))))),‹.int k›,‹.int f›,‹.int ((f+d:Nat):Int)›,‹fr s›,‹.str m'.s›,‹.tuple [.str "group", nm,.str m'.s,fr s,.bool (decide (0 < d14))]›]):=by
  have x1:aT6 (A7 6) (E8 (A1 8)) (E8 (A1 9)) [‹scr ns›,‹.int at'›,‹.int most›,‹.list N›,‹.str m.s›,a5,some (.own (Nd.ds l)),‹.int k›,‹.int f›,‹.int ((f+d:Nat):Int)›,‹fr s›,‹.str m'.s›,‹.tuple [.str "group", nm,.str m'.s,fr s,.bool (decide (0 < d14))]›]=some (.list (Nd.ds ((l.drop f).take (max f (min (f+d) l.length) - f)))):=by rw[← mid,← q1];rfl
  have x2:(A0 (A5 B0 (A1 12) (F0 (A0 (J3 (qE (aT6 (A7 6) (E8 (A1 8)) (E8 (A1 9))))) A3))) A3) [‹scr ns›,‹.int at'›,‹.int most›,‹.list N›,‹.str m.s›,a5,some (.own (Nd.ds l)),‹.int k›,‹.int f›,‹.int ((f+d:Nat):Int)›,‹fr s›,‹.str m'.s›,‹.tuple [.str "group", nm,.str m'.s,fr s,.bool (decide (0 < d14))]›]=some [Nd.d (Nd.group nm m' s (decide (0 < d14)) ((l.drop f).take (max f (min (f+d) l.length) - f)))]:=by
   have cc:∀a b c d e g:D,B0 (.tuple [a,b,c,d,e]) (.tuple [g])=some (.tuple [a,b,c,d,e,g]):=fun _ _ _ _ _ _=>rfl
   simp only[A0,A3,A5,F0,J3,qE,x1,ab7,A1,xbs,xms,xg0,xg1,xft,if_false,cc,Nd.d]
  have sz:(Nd.ds l).length+1<=16777216:=by omega
  have fin:ai3 (Nd.ds l) (some (f:Int)) (some ((f+d:Nat):Int)) [Nd.d (Nd.group nm m' s (decide (0 < d14)) ((l.drop f).take (max f (min (f+d) l.length) - f)))]=Nd.ds (ag0 l f (max f (min (f+d) l.length)) (Nd.group nm m' s (decide (0 < d14)))):=by
   rw[q2,hds]
   unfold ag0
   rw[E4,E4,List.map_append,List.map_append,List.map_take,List.map_drop]
   rfl
  rw[← fin]
  unfold gb5 aY1
  rw[x2,xbs]
  show(if(Nd.ds l).length+1<=16777216 then some (Fl.nx _) else none)=_
  rw[if_pos sz]
  rfl
 refine⟨‹.int f›,‹.int ((f+d:Nat):Int)›,‹fr s›,‹.str m'.s›,‹.tuple [.str "group", nm,.str m'.s,fr s,.bool (decide (0 < d14))]›,?_,by omega,by omega,hs,hnm⟩
 unfold aM8
 rw[B5 s0,B5 s1,B5 s2,B5 s3,B5 s4,s5]
structure NOk (N:List D) (i:Nat) (most:Nat) (l:List Nd):Prop where
 ok:Nd.Oks l
 wg:Nd.wgs l<=40*most+5*i
 dp:Nd.dps l<=i
 len:l.length<=most+i
 th:Nd.thins l
 nr:Nd.nears l
 ix:∃is:List Nat,Nd.nmss l=is.map (fun j=>N.getD j .none)/\is.Nodup/\∀j∈is,j < most+i
theorem NOk.grp{N:List D}{i most:Nat}{l:List Nd}(h:NOk N i most l) {a c:Nat}{nm:D}{m:Man}{s:Rat}{sh:Bool}(ac:a<=c) (hs:IsSh 4 s) (hnm:nm=N.getD (most+i) .none) (h100:l.length<=100):NOk N (i+1) most (ag0 l a c (Nd.group nm m s sh)):=by
 have e:=bB5 l ac
 have w1:=congrArg Nd.wgs e
 have w2:=congrArg Nd.dps e
 rw[O4,O4]at w1
 rw[L4,L4]at w2
 have hw:=h.wg
 have hd:=h.dp
 refine⟨?_,?_,?_,?_,?_,?_,?_⟩
 ·rw[N1]
  have ok:=(N1 l).mp h.ok
  intro n hn
  unfold ag0 at hn
  rcases List.mem_append.mp hn with hn|hn
  ·rcases List.mem_append.mp hn with hn|hn
   ·exact ok n (List.mem_of_mem_take hn)
   ·rw[List.mem_singleton.mp hn]
    rw[Nd.Ok]
    exact⟨aK1 hs,(N1 _).mpr fun n' hn'=>ok n' (List.mem_of_mem_drop (List.mem_of_mem_take hn'))⟩
  ·exact ok n (List.mem_of_mem_drop hn)
 ·unfold ag0
  rw[O4,O4]
  simp only[Nd.wgs,Nd.wg]
  omega
 ·unfold ag0
  rw[L4,L4]
  simp only[Nd.dps,Nd.dp]
  omega
 ·unfold ag0
  rw[List.length_append,List.length_append,List.length_take,List.length_drop,List.length_singleton]
  have:=h.len
  omega
 ·rw[L8]
  have th:=(L8 l).mp h.th
  intro n hn
  unfold ag0 at hn
  rcases List.mem_append.mp hn with hn|hn
  ·rcases List.mem_append.mp hn with hn|hn
   ·exact th n (List.mem_of_mem_take hn)
   ·rw[List.mem_singleton.mp hn,Nd.thin]
    exact⟨Nat.le_trans (List.length_take_le' ..) (by rw[List.length_drop];omega),(L8 _).mpr fun n' hn'=>th n' (List.mem_of_mem_drop (List.mem_of_mem_take hn'))⟩
  ·exact th n (List.mem_of_mem_drop hn)
 ·rw[U7]
  have th:=(U7 l).mp h.nr
  intro n hn
  unfold ag0 at hn
  rcases List.mem_append.mp hn with hn|hn
  ·rcases List.mem_append.mp hn with hn|hn
   ·exact th n (List.mem_of_mem_take hn)
   ·rw[List.mem_singleton.mp hn,Nd.near]
    exact(U7 _).mpr fun n' hn'=>th n' (List.mem_of_mem_drop (List.mem_of_mem_take hn'))
  ·exact th n (List.mem_of_mem_drop hn)
 ·obtain⟨is,e1,e2,e3⟩:=h.ix
  have w3:=congrArg Nd.nmss e
  rw[B8,B8,e1]at w3
  obtain⟨i12,i3,q1,q2,q3⟩:=List.map_eq_append_iff.mp w3.symm
  obtain⟨i1,i2,p1,p2,p3⟩:=List.map_eq_append_iff.mp q2
  subst p1 q1
  refine⟨i1++((most+i)::i2)++i3,?_,?_,?_⟩
  ·unfold ag0
   rw[B8,B8,← q3,← p2]
   simp only[Nd.nmss,Nd.nms,List.append_nil,List.map_append,xmc,p3,hnm]
  ·have pm:(i1++((most+i)::i2)++i3).Perm ((most+i)::(i1++i2++i3)):=by
    rw[List.append_assoc,xca,List.append_assoc i1 i2 i3]
    exact List.perm_middle
   rw[pm.nodup_iff,List.nodup_cons]
   exact⟨fun z=>by have:=e3 _ z;omega,e2⟩
  ·intro j hj
   have:j=most+i\/j∈i1++i2++i3:=by
    simp only[List.mem_append,List.mem_cons]at hj ⊢
    rcases hj with(h|h|h)|h
    ·exact .inr (.inl (.inl h))
    ·exact .inl h
    ·exact .inr (.inl (.inr h))
    ·exact .inr (.inr h)
   rcases this with rfl|h
   ·omega
   ·have:=e3 j h;omega
theorem bb1(ns:List Int) (hn:ns.length<=63) (at' most:Nat) (ha:at' < 2 ^ 18) (hmost:most<=6) (N:List D) (hN:most+2<=N.length):∃l:List Nd,ad9 [scr ns,.int at',.int most,.list N]=some ↥l/\NOk N 2 most l:=by
 obtain⟨d0,e0,l0⟩:=D9 ns hn (e:=(at':Int)) (m':=4) at' 4 rfl rfl (by omega) (by decide)
 obtain⟨d1,e1,l1⟩:=D9 ns hn (e:=(at':Int)+1) (m':=(most:Int)+1) (at'+1) (most+1) (by omega) (by omega) (by omega) (by omega)
 obtain⟨d2,e2,l2⟩:=D9 ns hn (e:=(at':Int)+2) (m':=3) (at'+2) 3 (by omega) rfl (by omega) (by decide)
 obtain⟨m,em⟩:=bY1 d0 l0
 have P:∀j,j < d1->∃n:Nd,A2 N0 (A0 (A1 1) (A0 (A5 B0 (A5 B0 (A1 4) ⇑20) (A5 E6 ⇑170 (A1 0))) (A0 (dIx (A7 3) (A1 0)) (A0 (A1 2) A3)))) [‹.int (j:Nat)›,‹scr ns›,‹.str m.s›,‹.list N›,‹.int at'›]=some n.d/\n.Ok/\n.dp=0/\n.wg<=40/\n.nm=N.getD j .none/\n.near:=fun j hj=>by
  have m170:E6 (.int 170) (.int j)=some (.int ((170*j:Nat):Int)):=M5 (i:=170) (by decide) (by omega)
  have en:atI N (j:Int)=some (N[j]'(by omega)):=by
   unfold atI
   rw[au1 (by omega) (by omega),xbs,Int.toNat_natCast]
   exact List.getElem?_eq_getElem (by omega)
  obtain⟨n,en',hn'⟩:=aM0 ns hn (at'+20+170*j) (by omega) (N[j]'(by omega)) m
  have ei:(at':Int)+20+((170*j:Nat):Int)=((at'+20+170*j:Nat):Int):=by omega
  refine⟨n,?_,hn'.1,hn'.2.1,hn'.2.2.1,by rw[hn'.2.2.2.1,List.getD_eq_getElem?_getD,List.getElem?_eq_getElem (by omega)];rfl,hn'.2.2.2.2⟩
  wp_walk using evD,m170,en,ei,en'
 obtain⟨f,hf⟩:=ap6 (x:=Nd.tone .none .turn 0 true) P
 have g0:gn0 [‹scr ns›,‹.int at'›,‹.int most›,‹.list N›,none,none,none,none,none,none,none,none,none]=some (.nx [‹scr ns›,‹.int at'›,‹.int most›,‹.list N›,‹.str m.s›,none,none,none,none,none,none,none,none]):=by wp_walk using evD,gn0,e0,em
 have g1:gn1 [‹scr ns›,‹.int at'›,‹.int most›,‹.list N›,‹.str m.s›,none,none,none,none,none,none,none,none]=some (.nx [‹scr ns›,‹.int at'›,‹.int most›,‹.list N›,‹.str m.s›,‹.int d1›,none,none,none,none,none,none,none]):=by wp_walk using evD,gn1,e1
 have g2:gn2 [‹scr ns›,‹.int at'›,‹.int most›,‹.list N›,‹.str m.s›,‹.int d1›,none,none,none,none,none,none,none]=some (.nx [‹scr ns›,‹.int at'›,‹.int most›,‹.list N›,‹.str m.s›,‹.int d1›,some (.own (Nd.ds ((List.range d1).map f))),none,none,none,none,none,none]):=by
  have c:C4 1 [0,4,3,1] (F6 (A1 5)) (B6 0) C9 (A2 N0 (A0 (A1 1) (A0 (A5 B0 (A5 B0 (A1 4) ⇑20) (A5 E6 ⇑170 (A1 0))) (A0 (dIx (A7 3) (A1 0)) (A0 (A1 2) A3))))) [‹scr ns›,‹.int at'›,‹.int most›,‹.list N›,‹.str m.s›,‹.int d1›,none,none,none,none,none,none,none]=some ((List.range d1).map fun j=>(f j).d) :=
   T7 (l:=List.range d1) (h:=fun j:Nat=>PyData.int j) (r:=[‹scr ns›,‹.str m.s›,‹.list N›,‹.int at'›]) rfl (b5 (n:=d1) rfl (by omega)) (by rw[List.length_range];omega) fun j hj=>(hf j (List.mem_range.mp hj)).1
  unfold gn2 S7
  rw[c,E4,List.map_map]
  rfl
 have S9:NOk N 0 most ((List.range d1).map f):=by
  refine⟨(N1 _).mpr fun n h=>?_,?_,?_,?_,(L8 _).mpr fun n h=>?_,(U7 _).mpr fun n h=>?_,List.range d1,?_,List.nodup_range,fun j hj=>by have:=List.mem_range.mp hj;omega⟩
  ·obtain⟨j,hj,rfl⟩:=List.mem_map.mp h
   exact(hf j (List.mem_range.mp hj)).2.1
  ·have:=aW9 ((List.range d1).map f) fun n h=>by
    obtain⟨j,hj,rfl⟩:=List.mem_map.mp h
    exact(hf j (List.mem_range.mp hj)).2.2.2.1
   rw[List.length_map,List.length_range]at this
   omega
  ·rw[aA8 _ fun n h=>by
    obtain⟨j,hj,rfl⟩:=List.mem_map.mp h
    exact(hf j (List.mem_range.mp hj)).2.2.1]
   exact Nat.le_refl _
  ·rw[List.length_map,List.length_range];omega
  ·obtain⟨j,hj,rfl⟩:=List.mem_map.mp h
   have:=(hf j (List.mem_range.mp hj)).2.2.1
   cases q:f j with
   | group=>rw[q,Nd.dp]at this;omega
   | layer=>rw[Nd.thin];trivial
   | tone=>rw[Nd.thin];trivial
  ·obtain⟨j,hj,rfl⟩:=List.mem_map.mp h
   exact(hf j (List.mem_range.mp hj)).2.2.2.2.2
  ·have key:∀is:List Nat,(∀j∈is,j < d1)->Nd.nmss (is.map f)=is.map fun j=>N.getD j .none:=by
    intro is
    induction is with
    | nil=>intro _;simp[Nd.nmss]
    | cons j is ih =>
     intro hj
     have a:=hf j (hj j (List.mem_cons_self ..))
     rw[xmc,Nd.nmss,ih fun i hi=>hj i (xmm _ hi),xmc,← a.2.2.2.2.1]
     cases q:f j with
     | group=>have:=a.2.2.1;rw[q,Nd.dp]at this;omega
     | layer=>simp[Nd.nms,Nd.nm]
     | tone=>simp[Nd.nms,Nd.nm]
   exact key _ fun j hj=>List.mem_range.mp hj
 obtain⟨ρ',e3,l,b7,b8,b9,b10,b11,b12,hρ,hl⟩:=U8 (g:=B6 7) (f:=aM8) (h:=fun j:Nat=>PyData.int j) (I:=fun i ρ=>∃(l:List Nd) (b7 b8 b9 b10 b11 b12:Option B),ρ=[‹scr ns›,‹.int at'›,‹.int most›,‹.list N›,‹.str m.s›,‹.int d1›,some (.own (Nd.ds l)),b7,b8,b9,b10,b11,b12]/\NOk N i most l) (List.range d2) 0 [‹scr ns›,‹.int at'›,‹.int most›,‹.list N›,‹.str m.s›,‹.int d1›,some (.own (Nd.ds ((List.range d1).map f))),none,none,none,none,none,none] ⟨_,_,_,_,_,_,_,rfl,S9⟩ (fun j a hj ρ hρ=>by
  obtain⟨l,b7,b8,b9,b10,b11,b12,rfl,hl⟩:=hρ
  obtain⟨hj1,hj2⟩:=List.getElem?_eq_some_iff.mp hj
  rw[List.length_range]at hj1
  rw[List.getElem_range]at hj2
  subst hj2
  refine⟨_,rfl,?_⟩
  simp only[xw0,xw1]
  have hll:=hl.len
  obtain⟨a,c,nm,m',s,sh,c8,c9,c10,c11,c12,eb,ac,cl,hs,hnm⟩:=bg7 ns hn at' most j ha (by omega) hmost N hN m l (by omega) (‹.int d1›) b8 b9 b10 b11 b12
  exact⟨_,eb,_,_,_,_,_,_,_,rfl,hl.grp ac hs (by rw[hnm,Nat.zero_add]) (by omega)⟩)
 subst hρ
 rw[List.length_range,Nat.zero_add]at hl
 refine⟨l,?_,hl.ok,by have:=hl.wg;omega,by have:=hl.dp;omega,by have:=hl.len;omega,hl.th,hl.nr,by
  obtain⟨is,q1,q2,q3⟩:=hl.ix
  exact⟨is,q1,q2,fun j hj=>by have:=q3 j hj;omega⟩⟩
 have rn:F6 (A2 A6 (A0 (A1 0) (A0 (A5 B0 (A1 1) ⇑2) (A0 ⇑3 A3)))) [‹scr ns›,‹.int at'›,‹.int most›,‹.list N›,‹.str m.s›,‹.int d1›,some (.own (Nd.ds ((List.range d1).map f))),none,none,none,none,none,none]=_:=b5 (n:=d2) (by wp_walk using evD,e2) (by omega)
 have g3:gn3 [‹scr ns›,‹.int at'›,‹.int most›,‹.list N›,‹.str m.s›,‹.int d1›,some (.own (Nd.ds ((List.range d1).map f))),none,none,none,none,none,none]=some (.nx [‹scr ns›,‹.int at'›,‹.int most›,‹.list N›,‹.str m.s›,‹.int d1›,some (.own (Nd.ds l)),b7,b8,b9,b10,b11,b12]):=by
  unfold gn3 P7
  rw[rn]
  exact e3
 have g4:gn4 [‹scr ns›,‹.int at'›,‹.int most›,‹.list N›,‹.str m.s›,‹.int d1›,some (.own (Nd.ds l)),b7,b8,b9,b10,b11,b12]=some (.rt ↥l):=rfl
 refine B2 (ρ:=[‹scr ns›,‹.int at'›,‹.int most›,‹.list N›,none,none,none,none,none,none,none,none,none]) rfl ?_
 rw[bg3,B5 g0,B5 g1,B5 g2,B5 g3]
 exact g4
def D6(w h:Nat) (l:List Nd):D:=.tuple [.int w,.int h,↥l]
theorem aF8(ns:List Int) (hn:ns.length<=63) (at' most:Nat) (ha:at' < 2 ^ 17) (hmost:most<=6) (N:List D) (hN:most+2<=N.length):∃(w h:Nat) (l:List Nd),T4 [scr ns,.int at',.int most,.list N]=some (D6 w h l)/\NOk N 2 most l/\(1<=w/\w<=3)/\(1<=h/\h<=3):=by
 obtain⟨d0,e0,l0⟩:=D9 ns hn (e:=(at':Int)) (m':=3) at' 3 rfl rfl (by omega) (by decide)
 obtain⟨d1,e1,l1⟩:=D9 ns hn (e:=(at':Int)+1) (m':=3) (at'+1) 3 (by omega) rfl (by omega) (by decide)
 obtain⟨l,el,hl⟩:=bb1 ns hn (at'+2) most (by omega) hmost N hN
 have e2:(at':Int)+2=((at'+2:Nat):Int):=by omega
 refine⟨1+d0,1+d1,l,?_,hl,by omega,by omega⟩
 refine B2 (ρ:=[‹scr ns›,‹.int at'›,‹.int most›,‹.list N›,none,none]) rfl ?_
 wp_walk using evD,af0,e0,e1,ad1,e2,el,D6
theorem J8(n:Nd):n.nm∈n.nms:=by cases n<;>simp[Nd.nm,Nd.nms]
theorem J5{n:Nd}{l:List Nd}(h:n∈l) {d:D}(hd:d∈n.nms):d∈Nd.nmss l:=by
 obtain⟨a,b,rfl⟩:=List.append_of_mem h
 rw[B8,Nd.nmss]
 simp[hd]
def G8(d:D):Prop:=∃s:Str,d=.str s/\SOk s
def same(a b:D):Bool:=@decide (a=b) (Classical.propDecidable _)
theorem ab8(a:D):same a a=true:=@decide_eq_true _ (Classical.propDecidable _) rfl
theorem u4{a b:D}(h:a≠b):same a b=false:=@decide_eq_false _ (Classical.propDecidable _) h
def aU7(d:D):Prop:=∃s:Str,d=.str s/\PyData.canLay0 (.str s)=true
theorem G8.l{d:D}(h:G8 d):aU7 d:=by
 obtain⟨s,rfl,hs⟩:=h
 exact⟨s,rfl,hs.ok⟩
theorem bh4{a b:D}(ha:G8 a) (hb:aU7 b):eqD a b=some (.bool (same a b)):=by
 obtain⟨s,rfl,hs⟩:=ha
 obtain⟨t,rfl,ht⟩:=hb
 refine O6 hs.ok ht ?_
 by_cases e:s=t
 ·subst e;rw[ab8];simp
 ·rw[u4 (fun z=>e (by cases z;rfl))];simp[e]
theorem bU4{a b:D}(ha:G8 a) (hb:G8 b):eqD a b=some (.bool (same a b)):=bh4 ha hb.l
theorem au4{g:D->Rho->Option Rho}{f:DS}{I:Rho->Prop}{d:D}:∀(X:List D) (i:Nat) (ρ:Rho),I ρ->(∀j x,j < i->X[j]? = some x->∀ρ,I ρ->∃ρ1,g x ρ=some ρ1/\∃ρ',f ρ1=some (.nx ρ')/\I ρ')->(∀x,X[i]? = some x->∀ρ,I ρ->∃ρ1,g x ρ=some ρ1/\f ρ1=some (.rt d))->i < X.length->Z4 g f X ρ=some (.rt d)
 | [],i,ρ,_,_,_,h=>absurd h (Nat.not_lt_zero i)
 | x::X,0,ρ,h0,_,H,_=>by
  obtain⟨ρ1,e1,e2⟩:=H x rfl ρ h0
  simp only[Z4,e1,xbs,e2]
 | x::X,i+1,ρ,h0,S,H,hl=>by
  obtain⟨ρ1,e1,ρ',e2,h2⟩:=S 0 x (by omega) rfl ρ h0
  have:=au4 X i ρ' h2 (fun j y hj hy=>S (j+1) y (by omega) (by simpa using hy)) (fun y hy=>H y (by simpa using hy)) (by simpa using hl)
  simp only[Z4,e1,xbs,e2,this]
theorem x3{g:D->Rho->Option Rho}{f:DS}{I:Rho->Prop}:∀(X:List D) (ρ:Rho),I ρ->(∀x∈X,∀ρ,I ρ->∃ρ1,g x ρ=some ρ1/\∃ρ',f ρ1=some (.nx ρ')/\I ρ')->∃ρ',Z4 g f X ρ=some (.nx ρ')/\I ρ'
 | [],ρ,h,_=>⟨ρ,rfl,h⟩
 | x::X,ρ,h,H=>by
  obtain⟨ρ1,e1,ρ2,e2,h2⟩:=H x (List.mem_cons_self ..) ρ h
  obtain⟨ρ',e3,h3⟩:=x3 X ρ2 h2 fun y hy=>H y (xmm _ hy)
  exact⟨ρ',by simp only[Z4,e1,xbs,e2,e3],h3⟩
theorem name_of(n:Nd):M0 [n.d]=some n.nm:=by cases n<;>(rw[Nd.d];rfl)
def nab:DS:=(sIf (tB2 eqD (A2 M0 (A0 (A1 3) A3)) (A1 1)) (A9 (A1 2)) C7)
theorem aG3{n:Nd}{nm:D}(h1:G8 n.nm) (h2:aU7 nm) (a0 a2:Option B) (k:D):nab [a0,‹nm›,‹k›,‹n.d›]=if same n.nm nm=true then some (.rt k) else some (.nx [a0,‹nm›,‹k›,‹n.d›]):=by simp only[nab,sIf,tB2,A5,A2,A0,A3,A1,name_of,bh4 h1 h2,G4,A9,C7,xbs,xms,xg0,xg1]
theorem ac9(l:List Nd) (j:Nat):(Nd.ds l)[j]? = (l[j]?).map Nd.d:=by rw[E4,List.getElem?_map]
theorem ac2{l:List Nd}{nm:D}(hs:∀n∈l,G8 n.nm) (hn:aU7 nm) (h:∀n∈l,n.nm≠nm):D3 [↥l,nm]=some .none:=by
 refine B2 (ρ:=[‹↥l›,‹nm›,none,none]) rfl ?_
 obtain⟨ρ',e,_⟩:=U8 (g:=M7 2 (E1 (B6 2) (E1 (B6 3) O0))) (f:=nab) (h:=id) (I:=fun _ ρ=>∃a2 a3,ρ=[‹↥l›,‹nm›,a2,a3]) (ae5 (Nd.ds l)) 0 [‹↥l›,‹nm›,none,none] ⟨none,none,rfl⟩ (fun j d hj ρ hρ=>by
  obtain⟨a2,a3,rfl⟩:=hρ
  rw[x9,ac9]at hj
  cases q:l[j]? with
  | none=>rw[q]at hj;cases hj
  | some n =>
   rw[q]at hj
   cases hj
   have hm:=List.mem_of_getElem? q
   refine⟨_,rfl,[‹↥l›,‹nm›,‹.int j›,‹n.d›],?_,_,_,rfl⟩
   have:=aG3 (hs n hm) hn (‹↥l›) none (.int j)
   rw[u4 (h n hm)]at this
   exact this)
 rw[List.map_id]at e
 have s0:(P7 (aA3 (qE (A1 0))) (M7 2 (E1 (B6 2) (E1 (B6 3) O0))) nab) [‹↥l›,‹nm›,none,none]=some (.nx ρ'):=e
 exact(B5 s0).trans rfl
theorem v5{l:List Nd}{nm:D}(hs:∀n∈l,G8 n.nm) (hn:G8 nm) (h:∀n∈l,n.nm≠nm):D3 [↥l,nm]=some .none:=ac2 hs hn.l h
theorem aj3{a b:List Nd}{n:Nd}(hs:∀n'∈a,G8 n'.nm) (hn:G8 n.nm) (h:∀n'∈a,n'.nm≠n.nm):D3 [↥(a++n::b),n.nm]=some (.int a.length):=by
 refine B2 (ρ:=[‹↥(a++n::b)›,‹n.nm›,none,none]) rfl ?_
 have e:=au4 (g:=M7 2 (E1 (B6 2) (E1 (B6 3) O0))) (f:=nab) (d:=.int a.length) (I:=fun ρ=>∃a2 a3,ρ=[‹↥(a++n::b)›,‹n.nm›,a2,a3]) (ae5 (Nd.ds (a++n::b))) a.length [‹↥(a++n::b)›,‹n.nm›,none,none] ⟨none,none,rfl⟩ (fun j x hj hx ρ hρ=>by
  obtain⟨a2,a3,rfl⟩:=hρ
  rw[x9,ac9,List.getElem?_append_left hj,List.getElem?_eq_getElem hj]at hx
  cases hx
  have hm:=List.getElem_mem hj
  refine⟨_,rfl,[‹↥(a++n::b)›,‹n.nm›,‹.int j›,some (.val (a[j]).d)],?_,_,_,rfl⟩
  have:=aG3 (hs _ hm) hn.l (‹↥(a++n::b)›) none (.int j)
  rw[u4 (h _ hm)]at this
  exact this) (fun x hx ρ hρ=>by
  obtain⟨a2,a3,rfl⟩:=hρ
  rw[x9,ac9,List.getElem?_append_right (Nat.le_refl _),Nat.sub_self]at hx
  cases hx
  refine⟨_,rfl,?_⟩
  have:=aG3 hn hn.l (‹↥(a++n::b)›) none (.int a.length)
  rw[ab8]at this
  exact this) (by rw[aA6,E4,List.length_map,List.length_append];simp)
 have s0:(P7 (aA3 (qE (A1 0))) (M7 2 (E1 (B6 2) (E1 (B6 3) O0))) nab) [‹↥(a++n::b)›,‹n.nm›,none,none]=some (.rt (.int a.length)):=e
 exact aF0 s0
theorem D1(n:Nd):J2 [n.d]=some (.bool (match n with | .group ..=>true|_=>false)):=by
 have e_tg:eqD (.str "tone") (.str "group")=some (.bool false):=O6z
 cases n with
 | layer nm m s sh lf tp mk w h l kb=>rw[Nd.d];exact B2 (ρ:=[‹.tuple [.str "layer", nm,.str m.s,fr s,.bool sh,.int lf,.int tp,mkD mk,shD w h l]›]) rfl (congrArg (Option.map Fl.rt) bM0)
 | tone nm r s sh=>rw[Nd.d];exact B2 (ρ:=[‹.tuple [.str "tone", nm,.str r.s,fr s,.bool sh]›]) rfl (congrArg (Option.map Fl.rt) e_tg)
 | group nm m s sh ns=>rw[Nd.d];exact B2 (ρ:=[‹.tuple [.str "group", nm,.str m.s,fr s,.bool sh,↥ns]›]) rfl (congrArg (Option.map Fl.rt) bM1)
theorem bX9(ds:List D):ac4 (.tuple ds) .none=some (.bool true):=rfl
theorem bS4(i:Int):ac4 (.int i) .none=some (.bool true):=rfl
theorem X5{l:List Nd}{nm:D}(h:nm∉Nd.nmss l):∀n∈l,n.nm≠nm:=fun n hn e=>h (e ▸ J5 hn (J8 n))
theorem T6{l:List Nd}(h:∀d∈Nd.nmss l,G8 d):∀n∈l,G8 n.nm:=fun n hn=>h _ (J5 hn (J8 n))
def twb(f:Nat):DS:=(sIf (G1 (A2 J2 (A0 (A1 2) A3))) (A8 (B3 3 (A2 (D7 f) (A0 (A2 D5 (A0 (A1 2) A3)) (A0 (A1 1) A3)))) (sIf (tB2 ac4 (A1 3) (dC .none)) (A9 (A1 3)) C7)) C7)
theorem J1{l:List Nd}{n:Nd}(h:n∈l):n.dp<=Nd.dps l:=by
 obtain⟨a,b,rfl⟩:=List.append_of_mem h
 rw[L4,Nd.dps];omega
theorem ax1(nm:D) (hn:aU7 nm):∀(k:Nat) (l:List Nd) (f:Nat),Nd.dps l<=k->k+1<=f->(∀d∈Nd.nmss l,G8 d)->nm∉Nd.nmss l->D7 f [↥l,nm]=some .none:=by
 intro k
 induction k with
 | zero =>
  intro l f hd hf hs hni
  obtain⟨f,rfl⟩:∃g,f=g+1:=⟨f - 1,by omega⟩
  have e0:=ac2 (T6 hs) hn (X5 hni)
  obtain⟨ρ',e,a2,a3,hρ⟩:=x3 (g:=B6 2) (f:=twb f) (I:=fun ρ=>∃a2 a3,ρ=[‹↥l›,‹nm›,a2,a3]) (Nd.ds l) [‹↥l›,‹nm›,none,none] ⟨none,none,rfl⟩ (fun x hx ρ hρ=>by
   obtain⟨a2,a3,rfl⟩:=hρ
   rw[E4]at hx
   obtain⟨n,hm,rfl⟩:=List.mem_map.mp hx
   refine⟨_,rfl,[‹↥l›,‹nm›,‹n.d›,a3],?_,_,_,rfl⟩
   have:=J1 hm
   cases n with
   | group _ _ _ _ _=>rw[Nd.dp]at this;omega
   | layer=>wp_walk using evD,twb,D1
   | tone=>wp_walk using evD,twb,D1)
  subst hρ
  refine B2 (g:=G3 (D7 f)) (ρ:=[‹↥l›,‹nm›,none,none]) rfl ?_
  unfold twb at e
  wp_walk using evD,G3,P7,e0,ao8,e
 | succ k ih =>
  intro l f hd hf hs hni
  obtain⟨f,rfl⟩:∃g,f=g+1:=⟨f - 1,by omega⟩
  have e0:=ac2 (T6 hs) hn (X5 hni)
  obtain⟨ρ',e,a2,a3,hρ⟩:=x3 (g:=B6 2) (f:=twb f) (I:=fun ρ=>∃a2 a3,ρ=[‹↥l›,‹nm›,a2,a3]) (Nd.ds l) [‹↥l›,‹nm›,none,none] ⟨none,none,rfl⟩ (fun x hx ρ hρ=>by
   obtain⟨a2,a3,rfl⟩:=hρ
   rw[E4]at hx
   obtain⟨n,hm,rfl⟩:=List.mem_map.mp hx
   have hdp:=J1 hm
   refine⟨_,rfl,?_⟩
   cases n with
   | group nm' m s sh ns =>
    rw[Nd.dp]at hdp
    have sub:∀d∈Nd.nmss ns,d∈Nd.nmss l:=fun d hd=>J5 hm (by rw[Nd.nms];exact xmm _ hd)
    have e1:=ih ns f (by omega) (by omega) (fun d hd=>hs d (sub d hd)) (fun z=>hni (sub _ z))
    refine⟨[‹↥l›,‹nm›,‹Nd.d (.group nm' m s sh ns)›,some (.val .none)],?_,_,_,rfl⟩
    wp_walk using evD,twb,D1,ah3,e1,ao8
   | layer=>exact⟨_,by wp_walk using evD,twb,D1;rfl,_,_,rfl⟩
   | tone=>exact⟨_,by wp_walk using evD,twb,D1;rfl,_,_,rfl⟩)
  subst hρ
  refine B2 (g:=G3 (D7 f)) (ρ:=[‹↥l›,‹nm›,none,none]) rfl ?_
  unfold twb at e
  wp_walk using evD,G3,P7,e0,ao8,e
theorem bl2(nm:D) (hn:G8 nm) (k:Nat) (l:List Nd) (f:Nat):Nd.dps l<=k->k+1<=f->(∀d∈Nd.nmss l,G8 d)->nm∉Nd.nmss l->D7 f [↥l,nm]=some .none:=ax1 nm hn.l k l f
inductive Stands (a:List Nd) (n:Nd) (b:List Nd):List Nd->Prop
 | top:Stands a n b (a++n::b)
 | deep {c e:List Nd}{nm:D}{m:Man}{s:Rat}{sh:Bool}{ns:List Nd}:Stands a n b ns->Stands a n b (c ++ .group nm m s sh ns::e)
theorem Stands.nm{a:List Nd}{n:Nd}{b l:List Nd}(h:Stands a n b l):∀d∈n.nms,d∈Nd.nmss l:=by
 induction h with
 | top=>intro d hd;rw[B8,Nd.nmss];simp[hd]
 | deep _ ih=>intro d hd;rw[B8,Nd.nmss,Nd.nms];simp[ih d hd]
theorem bl1{a b:List Nd}{n:Nd}(hn:G8 n.nm) {l:List Nd}(h:Stands a n b l):∀f:Nat,Nd.dps l+1<=f->(∀d∈Nd.nmss l,G8 d)->(Nd.nmss l).Nodup->D7 f [↥l,n.nm]=some ↥(a++n::b):=by
 induction h with
 | top =>
  intro f hf hs hd
  obtain⟨f,rfl⟩:∃g,f=g+1:=⟨f - 1,by omega⟩
  rw[B8,Nd.nmss]at hd
  have e0:=aj3 (a:=a) (b:=b) (n:=n) (fun n' hn'=>T6 hs n' (List.mem_append_left _ hn')) hn (fun n' hn' e=>by
   have d1:=(List.nodup_append.mp hd).2.2
   exact d1 n'.nm (J5 hn' (J8 n')) n.nm (List.mem_append_left _ (J8 n)) e)
  refine B2 (g:=G3 (D7 f)) (ρ:=[‹↥(a++n::b)›,‹n.nm›,none,none]) rfl ?_
  wp_walk using evD,G3,e0,bS4
 | @deep c e nm m s sh ns h ih =>
  intro f hf hs hd
  obtain⟨f,rfl⟩:∃g,f=g+1:=⟨f - 1,by omega⟩
  rw[L4,Nd.dps,Nd.dp]at hf
  have hin:=h.nm n.nm (J8 n)
  rw[B8,Nd.nmss,Nd.nms]at hd
  have dc:=(List.nodup_append.mp hd)
  have dg:=(List.nodup_append.mp dc.2.1)
  have dn:=List.nodup_cons.mp dg.1
  have hc:n.nm∉Nd.nmss c:=fun z=>dc.2.2 n.nm z n.nm (by simp[hin]) rfl
  have hg:nm≠n.nm:=fun z=>dn.1 (z ▸ hin)
  have he:n.nm∉Nd.nmss e:=fun z=>dg.2.2 n.nm (by simp[hin]) n.nm z rfl
  have hsc:∀d∈Nd.nmss c,G8 d:=fun d hd=>hs d (by rw[B8];simp[hd])
  have hsn:∀d∈Nd.nmss ns,G8 d:=fun d hd=>hs d (by rw[B8,Nd.nmss,Nd.nms];simp[hd])
  have e0:=v5 (l:=c ++ .group nm m s sh ns::e) (T6 hs) hn (fun n' hn' z=>by
   rcases List.mem_append.mp hn' with q|q
   ·exact X5 hc n' q z
   ·rcases List.mem_cons.mp q with rfl|q
    ·exact hg z
    ·exact X5 he n' q z)
  have e1:=ih f (by omega) hsn dn.2
  have e2:=au4 (g:=B6 2) (f:=twb f) (d:=.tuple (Nd.ds (a++n::b))) (I:=fun ρ=>∃a2 a3,ρ=[‹↥(c ++ .group nm m s sh ns::e)›,‹n.nm›,a2,a3]) (Nd.ds (c ++ .group nm m s sh ns::e)) c.length [‹↥(c ++ .group nm m s sh ns::e)›,‹n.nm›,none,none] ⟨none,none,rfl⟩ (fun j x hj hx ρ hρ=>by
   obtain⟨a2,a3,rfl⟩:=hρ
   rw[ac9,List.getElem?_append_left hj,List.getElem?_eq_getElem hj]at hx
   cases hx
   have hm:=List.getElem_mem hj
   have hdp:=J1 hm
   refine⟨_,rfl,?_⟩
   cases q:c[j] with
   | group nm' m' s' sh' ns' =>
    rw[q]at hm hdp
    rw[Nd.dp]at hdp
    have sub:∀d∈Nd.nmss ns',d∈Nd.nmss c:=fun d hd=>J5 hm (by rw[Nd.nms];exact xmm _ hd)
    have e3:=bl2 n.nm hn (Nd.dps ns') ns' f (Nat.le_refl _) (by omega) (fun d hd=>hsc d (sub d hd)) (fun z=>hc (sub _ z))
    refine⟨[‹↥(c ++ .group nm m s sh ns::e)›,‹n.nm›,‹Nd.d (.group nm' m' s' sh' ns')›,some (.val .none)],?_,_,_,rfl⟩
    wp_walk using evD,twb,D1,ah3,e3,ao8
   | layer=>exact⟨_,by wp_walk using evD,twb,D1;rfl,_,_,rfl⟩
   | tone=>exact⟨_,by wp_walk using evD,twb,D1;rfl,_,_,rfl⟩) (fun x hx ρ hρ=>by
   obtain⟨a2,a3,rfl⟩:=hρ
   rw[ac9,List.getElem?_append_right (Nat.le_refl _),Nat.sub_self]at hx
   cases hx
   refine⟨_,rfl,?_⟩
   wp_walk using evD,twb,D1,ah3,e1,bX9) (by rw[E4,List.length_map,List.length_append];simp)
  refine B2 (g:=G3 (D7 f)) (ρ:=[‹↥(c ++ .group nm m s sh ns::e)›,‹n.nm›,none,none]) rfl ?_
  unfold twb at e2
  wp_walk using evD,G3,P7,e0,ao8,e2
theorem aD4{nm:D}{m:Man}{s:Rat}{sh:Bool}{ns ns':List Nd}:N7 [Nd.d (.group nm m s sh ns),↥ns']=some (Nd.d (.group nm m s sh ns')):=by
 rw[Nd.d,Nd.d]
 rfl
theorem aj2{l l':List Nd}{nm oth:D}{f:Nat}(hl:l.length<=1000) (e0:D3 [↥l,nm]=some .none) (hz:l'.length=l.length) (H:∀(j:Nat) (hj:j < l.length),F5 f [(l[j]).d,nm,oth]=some ((l'[j]'(by omega)).d)) :
  E5 (f+1) [↥l,nm,oth]=some ↥l':=by
 refine B2 (g:=G2 (m4 f)) (ρ:=[‹↥l›,‹nm›,‹oth›]) rfl ?_
 have c:C4 1 [1,2] (G6 (A1 0)) (B6 0) C9 (A2 (m4 f 1) (A0 (A1 0) (A0 (A1 1) (A0 (A1 2) A3)))) [‹↥l›,‹nm›,‹oth›]=some (Nd.ds l'):=by
  have q:Nd.ds l=(List.range l.length).map fun j=>((l[j]?).map Nd.d).getD .none:=by
   rw[E4]
   apply List.ext_getElem?
   intro j
   rw[List.getElem?_map,List.getElem?_map]
   by_cases hj:j < l.length
   ·simp[List.getElem?_range hj,List.getElem?_eq_getElem hj]
   ·rw[List.getElem?_eq_none (by omega),List.getElem?_eq_none (by rw[List.length_range];omega)];rfl
  have q':Nd.ds l'=(List.range l.length).map fun j=>((l'[j]?).map Nd.d).getD .none:=by
   rw[E4]
   apply List.ext_getElem?
   intro j
   rw[List.getElem?_map,List.getElem?_map]
   by_cases hj:j < l.length
   ·have hj':j < l'.length:=by omega
    simp[List.getElem?_range hj,List.getElem?_eq_getElem hj']
   ·rw[List.getElem?_eq_none (by omega),List.getElem?_eq_none (by rw[List.length_range];omega)];rfl
  rw[q']
  refine T7 (l:=List.range l.length) (h:=fun j=>((l[j]?).map Nd.d).getD .none) (r:=[‹nm›,‹oth›]) rfl (by rw[← q];rfl) (by rw[List.length_range];exact hl) fun j hj=>?_
  have hj:=List.mem_range.mp hj
  have:=H j hj
  rw[List.getElem?_eq_getElem hj,List.getElem?_eq_getElem (by omega)]
  exact this
 simp only[G2,A8,sIf,C7,tB2,A5,A2,A0,A3,A1,dC,e0,ao8,G4,A9,J3,qN,c,xbs,xms,xg0,xg1,xft,if_false]
theorem Y7{n:Nd}{nm oth:D}{f:Nat}(h:n.dp=0):F5 (f+1) [n.d,nm,oth]=some n.d:=by
 refine B2 (g:=F4 (m4 f)) (ρ:=[‹n.d›,‹nm›,‹oth›]) rfl ?_
 cases n with
 | group=>rw[Nd.dp]at h;omega
 | layer=>wp_walk using evD,F4,D1
 | tone=>wp_walk using evD,F4,D1
theorem ac3{nm':D}{m:Man}{s:Rat}{sh:Bool}{ns ns':List Nd}{nm oth:D}{f:Nat}(h:E5 f [↥ns,nm,oth]=some ↥ns'):F5 (f+1) [Nd.d (.group nm' m s sh ns),nm,oth]=some (Nd.d (.group nm' m s sh ns')):=by
 refine B2 (g:=F4 (m4 f)) (ρ:=[‹Nd.d (.group nm' m s sh ns)›,‹nm›,‹oth›]) rfl ?_
 have h':m4 f 0 [↥ns,nm,oth]=some ↥ns':=h
 wp_walk using evD,F4,D1,ah3,h',aD4
theorem bE5(nm:D) (hn:G8 nm) (oth:D):∀(k:Nat) (l:List Nd) (f:Nat),Nd.dps l<=k->2*k+2<=f->(∀d∈Nd.nmss l,G8 d)->nm∉Nd.nmss l->l.length<=1000->Nd.thins l->E5 f [↥l,nm,oth]=some ↥l:=by
 intro k
 induction k with
 | zero =>
  intro l f hd hf hs hni hl ht
  obtain⟨f,rfl⟩:∃g,f=g+2:=⟨f - 2,by omega⟩
  refine aj2 hl (v5 (T6 hs) hn (X5 hni)) rfl fun j hj=>?_
  have:=J1 (List.getElem_mem hj)
  exact Y7 (by omega)
 | succ k ih =>
  intro l f hd hf hs hni hl ht
  obtain⟨f,rfl⟩:∃g,f=g+2:=⟨f - 2,by omega⟩
  refine aj2 hl (v5 (T6 hs) hn (X5 hni)) rfl fun j hj=>?_
  have hm:=List.getElem_mem hj
  have hdp:=J1 hm
  have htn:=(L8 l).mp ht _ hm
  generalize l[j]=n at hm hdp htn
  cases n with
  | group nm' m s sh ns =>
   rw[Nd.dp]at hdp
   rw[Nd.thin]at htn
   have sub:∀d∈Nd.nmss ns,d∈Nd.nmss l:=fun d hd=>J5 hm (by rw[Nd.nms];exact xmm _ hd)
   exact ac3 (ih ns f (by omega) (by omega) (fun d hd=>hs d (sub d hd)) (fun z=>hni (sub _ z)) htn.1 htn.2)
  | layer=>exact Y7 rfl
  | tone=>exact Y7 rfl
theorem bE8(nm:D) (hn:G8 nm) (oth:D) (n:Nd) (f:Nat) (hf:2*n.dp+1<=f) (hs:∀d∈n.nms,G8 d) (hni:nm∉n.nms) (ht:n.thin):F5 f [n.d,nm,oth]=some n.d:=by
 obtain⟨f,rfl⟩:∃g,f=g+1:=⟨f - 1,by omega⟩
 cases n with
 | group nm' m s sh ns =>
  rw[Nd.dp]at hf
  rw[Nd.thin]at ht
  rw[Nd.nms]at hs hni
  exact ac3 (bE5 nm hn oth (Nd.dps ns) ns f (Nat.le_refl _) (by omega) (fun d hd=>hs d (xmm _ hd)) (fun z=>hni (xmm _ z)) ht.1 ht.2)
 | layer=>exact Y7 rfl
 | tone=>exact Y7 rfl
structure StProps (a:List Nd) (n:Nd) (b l:List Nd):Prop where
 ok:Nd.Oks l->n.Ok
 wg:n.wg<=Nd.wgs l
 dp:n.dp<=Nd.dps l
 nd:(Nd.nmss l).Nodup->(Nd.nmss (a++n::b)).Nodup
 sub:∀d∈Nd.nmss (a++n::b),d∈Nd.nmss l
 len:l.length<=1000->Nd.thins l->(a++n::b).length<=1000
theorem Stands.props{a b l:List Nd}{n:Nd}(h:Stands a n b l):StProps a n b l:=by
 induction h with
 | top =>
  refine⟨fun o=>(N1 _).mp o n (by simp),?_,?_,fun h=>h,fun d h=>h,fun h _=>h⟩
  ·rw[O4,Nd.wgs];omega
  ·rw[L4,Nd.dps];omega
 | @deep c e nm m s sh ns h ih =>
  refine⟨fun o=>?_,?_,?_,fun hd=>?_,fun d hd=>?_,fun hl ht=>?_⟩
  ·have og:=(N1 _).mp o (.group nm m s sh ns) (by simp)
   rw[Nd.Ok]at og
   exact ih.ok og.2
  ·have:=ih.wg
   rw[O4,Nd.wgs,Nd.wg];omega
  ·have:=ih.dp
   rw[L4,Nd.dps,Nd.dp];omega
  ·rw[B8,Nd.nmss,Nd.nms]at hd
   exact ih.nd (List.nodup_cons.mp (List.nodup_append.mp (List.nodup_append.mp hd).2.1).1).2
  ·rw[B8,Nd.nmss,Nd.nms]
   simp[ih.sub d hd]
  ·have tg:=(L8 _).mp ht (.group nm m s sh ns) (by simp)
   rw[Nd.thin]at tg
   exact ih.len tg.1 tg.2
def alb(f:Nat):DS:=(A8 (P8 1 (A1 2)) (sIf (tB2 eqD (dIx (A7 2) ⇑0) (dC (.str "group"))) (S7 1 (aQ7 (A7 1) (qE (A2 (N4 f) (A0 (dIx (A7 2) ⇑5) A3))))) C7))
theorem e_tg:eqD (.str "tone") (.str "group")=some (.bool false):=O6z
theorem aC2{n:Nd}(f:Nat) (h:n.dp=0) (a0:Option B) (X:List D) (hX:X.length < 1000):alb f [a0,some (.own X),‹n.d›]=some (.nx [a0,some (.own (X++[n.d])),‹n.d›]):=by
 have hx:X.length < 16777216:=by omega
 have s0:(P8 1 (A1 2)) [a0,some (.own X),‹n.d›]=some (.nx [a0,some (.own (X++[n.d])),‹n.d›]):=by simp only[P8,xg0,xg1,if_pos hx,A1,xms,xw0,xw1]
 unfold alb
 rw[B5 s0]
 cases n with
 | group=>rw[Nd.dp]at h;omega
 | layer=>rw[Nd.d];wp_walk using evD,by3,bM0
 | tone=>rw[Nd.d];wp_walk using evD,by6,e_tg
theorem aU4{nm:D}{m:Man}{s:Rat}{sh:Bool}{ns:List Nd}(f:Nat) (a0:Option B) (X Y:List D) (hX:X.length < 1000) (hY:Y.length < 1000) (e:N4 f [↥ns]=some (.list Y)):alb f [a0,some (.own X),‹Nd.d (.group nm m s sh ns)›]=some (.nx [a0,some (.own (X++[Nd.d (.group nm m s sh ns)]++Y)),‹Nd.d (.group nm m s sh ns)›]):=by
 have hx:X.length < 16777216:=by omega
 have s0:(P8 1 (A1 2)) [a0,some (.own X),‹Nd.d (.group nm m s sh ns)›]=some (.nx [a0,some (.own (X++[Nd.d (.group nm m s sh ns)])),‹Nd.d (.group nm m s sh ns)›]):=by simp only[P8,xg0,xg1,if_pos hx,A1,xms,xw0,xw1]
 unfold alb
 rw[B5 s0]
 have hc:aQ7 (A7 1) (qE (A2 (N4 f) (A0 (dIx (A7 2) ⇑5) A3))) [a0,some (.own (X++[Nd.d (.group nm m s sh ns)])),‹Nd.d (.group nm m s sh ns)›]=some (X++[Nd.d (.group nm m s sh ns)]++Y):=by
  have q2:qE (A2 (N4 f) (A0 (dIx (A7 2) ⇑5) A3)) [a0,some (.own (X++[Nd.d (.group nm m s sh ns)])),‹Nd.d (.group nm m s sh ns)›]=some (false,Y):=by
   rw[show Nd.d (.group nm m s sh ns)=.tuple [.str "group", nm,.str m.s,fr s,.bool sh,↥ns] by rw[Nd.d]]
   wp_walk using evD,by4,e
  unfold aQ7
  rw[q2]
  show(if false=false/\false=false/\(X++[Nd.d (.group nm m s sh ns)]).length+Y.length<=16777216 then some (X++[Nd.d (.group nm m s sh ns)]++Y) else none)=_
  rw[if_pos ⟨rfl,rfl,by rw[List.length_append];show X.length+1+Y.length<=_;omega⟩]
 have ht:tB2 eqD (dIx (A7 2) ⇑0) (dC (.str "group")) [a0,some (.own (X++[Nd.d (.group nm m s sh ns)])),‹Nd.d (.group nm m s sh ns)›]=some true:=by
  rw[show Nd.d (.group nm m s sh ns)=.tuple [.str "group", nm,.str m.s,fr s,.bool sh,↥ns] by rw[Nd.d]]
  wp_walk using evD,by5,bM1
 simp only[sIf,ht,xbs,if_true,S7,hc,xms,xw0,xw1]
def Low(s:Str):Prop:=∀c∈s.cps.toList,97<=c/\c<=122
def Nm(d:D):Prop:=∃s:Str,d=.str s/\Low s/\1<=s.length/\s.length<=6
theorem bG2(c:Nat) (h1:97<=c) (h2:c<=122):inS false (.str ⟨#[c]⟩) (.str "abcdefghijklmnopqrstuvwxyz")=some (.bool true):=by
 have h:∀k:Fin 26,bt7 ⟨#[97+k.val]⟩ "abcdefghijklmnopqrstuvwxyz" = true:=by decide +kernel
 have:=h ⟨c - 97,by omega⟩
 simp only[show 97+(c - 97)=c by omega]at this
 show some (PyData.bool (bt7 ⟨#[c]⟩ "abcdefghijklmnopqrstuvwxyz"))=_
 rw[this]
theorem ak7{α:Type}(l:List α):aw2 (l.map fun _=>PyData.bool true)=some true:=by rw[ak9 (fun _=>true)];simp
theorem aQ5{d:D}(h:Nm d):ae0 [d]=some (.bool true):=by
 obtain⟨s,rfl,lo,l1,l6⟩:=h
 have as:s.cps.all (· < 128)=true:=by
  rw[Array.all_eq_true']
  intro c hc
  have:=lo c (Array.mem_toList_iff.mpr hc)
  exact decide_eq_true (by omega)
 have ll:s.cps.toList.length=s.length:=by unfold Str.length;simp
 have al:C4 1 [] (bt6 (A1 0)) (B6 0) C9 (A5 (inS false) (A1 0) (dC (.str "abcdefghijklmnopqrstuvwxyz"))) [‹.str s›]=some (s.cps.toList.map fun _=>.bool true):=by
  refine T7 (l:=s.cps.toList) (h:=fun c=>.str ⟨#[c]⟩) (r:=[]) rfl ?_ (by omega) fun c hc=>bG2 c (lo c hc).1 (lo c hc).2
  show(if s.cps.all (· < 128)=true then some (ax3 s) else none)=_
  rw[if_pos as];rfl
 have z:s.length<=16777216:=by omega
 have a':(1:Int)<=s.length:=by omega
 have b':(s.length:Int)<=6:=by omega
 refine B2 (ρ:=[‹.str s›]) rfl ?_
 wp_walk using evD,ar2,aN2,if_pos z,al,ak7,a',b',decide_true
theorem ay4{i:Int}(h1:-9<=i) (h2:i<=9):T5 [.int i]=some (.bool true):=by
 refine B2 (ρ:=[‹.int i›]) rfl ?_
 have w1:K6 [.int i]=some (.bool true):=rfl
 wp_walk using evD,af1,aT7,w1,h1,h2,decide_true
theorem aQ9{mk:Option (List Rat)}{w h:Nat}{l:List Q4}(w8:w<=8) (h8:h<=8) (len:l.length=w*h) (hm:∀ms,mk=some ms->ms.length=w*h/\∀r∈ms,Sr 4 r):ae1 [mkD mk,shD w h l]=some (.bool true):=by
 refine B2 (ρ:=[‹mkD mk›,‹shD w h l›]) rfl ?_
 cases mk with
 | none=>rfl
 | some ms =>
  obtain⟨lm,hr⟩:=hm ms rfl
  have wh:w*h<=64:=Nat.mul_le_mul w8 h8
  have al:∀q:Option B,C4 1 [] (G6 (A1 0)) (B6 0) C9 (A2 P4 (A0 (A1 0) A3)) [‹.tuple (ms.map fr)›,q]=some (ms.map fun _=>.bool true):=fun q=>by
   refine T7 (l:=ms) (h:=fr) (r:=[]) rfl rfl (by omega) fun x hx=>?_
   have:=P2 (hr x hx).h (by decide)
   wp_walk using evD,this
  have i1:isB (.tuple (ms.map fr)) .none=some (.bool false):=rfl
  have n1:(((ms.map fr).length:Nat):Int)=((w*h:Nat):Int):=by rw[List.length_map,lm]
  have n2:(((l.map Q4.d).length:Nat):Int)=((w*h:Nat):Int):=by rw[List.length_map,len]
  have n3:neD (.int ((w*h:Nat):Int)) (.int ((w*h:Nat):Int))=some (.bool false):=by rw[aj5];simp
  wp_walk using evD,ar3,mkD,shD,al,ak7,i1,n1,n2,beq_self_eq_true
theorem bx8{neg v:Bool}{x:D}{ds:List D}(hx:S2 x=true) (hd:ds.all S2=true) (h:inV (toV x) (ds.map toV)=v):inD neg x (.tuple ds)=some (.bool (if neg then !v else v)):=by
 subst h
 show(if S2 x=true/\ds.all S2=true then _ else _)=_
 rw[if_pos ⟨hx,hd⟩]
theorem bc0(m:Man):inD true (.str m.s) (.tuple [.str "over", .str "multiply", .str "screen", .str "plus", .str "atop", .str "cut"])=some (.bool false) :=
 bx8 (v:=true) rfl rfl (by cases m<;>decide +kernel)
theorem bB9(r:Rul):inD false (.str r.s) (.tuple [.str "turn", .str "grey", .str "round"])=some (.bool true) :=
 bx8 (v:=true) rfl rfl (by cases r<;>decide +kernel)
mutual
def Nd.off:Nd->Prop
 | .layer _ _ _ _ lf tp _ _ _ _ kb=>-9<=lf/\lf<=9/\-9<=tp/\tp<=9/\kb<=4000
 | .tone ..=>True
 | .group _ _ _ _ ns=>ns.length<=1000/\Nd.offs ns
def Nd.offs:List Nd->Prop
 | []=>True
 | n::r=>n.off/\Nd.offs r
end
theorem U6:∀l:List Nd,Nd.offs l↔∀n∈l,n.off
 | []=>by simp[Nd.offs]
 | n::r=>by simp[Nd.offs,U6 r]
theorem strength_of(n:Nd):∃s,M9 [n.d]=some (fr s)/\(n.Ok->Sr 4 s):=by
 cases n with
 | layer nm m s sh lf tp mk w h l kb=>exact⟨s,by rw[Nd.d];rfl,fun o=>by rw[Nd.Ok]at o;exact o.1⟩
 | tone nm r s sh=>exact⟨s,by rw[Nd.d];rfl,fun o=>by rw[Nd.Ok]at o;exact o⟩
 | group nm m s sh ns=>exact⟨s,by rw[Nd.d];rfl,fun o=>by rw[Nd.Ok]at o;exact o.1⟩
theorem aX8(n:Nd):∃b,S6 [n.d]=some (.bool b):=by cases n<;>exact⟨_,by rw[Nd.d];rfl⟩
theorem aX1(b:Bool):r8 [.bool b]=some (.bool true):=rfl
theorem bc2{nm:D}{m:Man}{s:Rat}{sh:Bool}{lf tp:Int}{mk:Option (List Rat)}{w h:Nat}{l:List Q4}{kb:Nat}(o:(Nd.layer nm m s sh lf tp mk w h l kb).Ok) (f:(Nd.layer nm m s sh lf tp mk w h l kb).off):J6 [(Nd.layer nm m s sh lf tp mk w h l kb).d]=some (.bool true):=by
 rw[Nd.Ok]at o
 rw[Nd.off]at f
 obtain⟨hs,S,_,hm,_⟩:=o
 obtain⟨f1,f2,f3,f4,f5⟩:=f
 rw[Nd.d]
 refine B2 (ρ:=[‹.tuple [.str "layer", nm,.str m.s,fr s,.bool sh,.int lf,.int tp,mkD mk,shD w h l]›]) rfl ?_
 have e1:∀a b c d e f g h i:D,L7 [.tuple [a,b,c,d,e,f,g,h,i]]=some c:=fun _ _ _ _ _ _ _ _ _=>rfl
 have e2:∀a b c d e f g h i:D,S4 [.tuple [a,b,c,d,e,f,g,h,i]]=some i:=fun _ _ _ _ _ _ _ _ _=>rfl
 have e3:∀a b c d e f g h i:D,h9 [.tuple [a,b,c,d,e,f,g,h,i]]=some f:=fun _ _ _ _ _ _ _ _ _=>rfl
 have e4:∀a b c d e f g h i:D,ab3 [.tuple [a,b,c,d,e,f,g,h,i]]=some g:=fun _ _ _ _ _ _ _ _ _=>rfl
 have e5:∀a b c d e f g h i:D,g8 [.tuple [a,b,c,d,e,f,g,h,i]]=some h:=fun _ _ _ _ _ _ _ _ _=>rfl
 have e6:∀a b c d e f g h i:D,((([a,b,c,d,e,f,g,h,i]:List D).length:Nat):Int)=9:=fun _ _ _ _ _ _ _ _ _=>rfl
 wp_walk using evD,Q9,e1,e2,e3,e4,e5,e6,beq_self_eq_true,bc0,aA1 S (by omega),ay4 f1 f2,ay4 f3 f4,aQ9 S.w8 S.h8 S.len hm
theorem bl5{nm:D}{r:Rul}{s:Rat}{sh:Bool}:N8 [Nd.d (.tone nm r s sh)]=some (.bool false):=by
 have e:eqD (.str "tone") (.str "layer")=some (.bool false):=O6z
 rw[Nd.d];exact B2 (ρ:=[‹.tuple [.str "tone", nm,.str r.s,fr s,.bool sh]›]) rfl (congrArg (Option.map Fl.rt) e)
theorem bY2(n:Nd):∃ds:List D,n.d=.tuple ds/\5<=ds.length/\(∀nm r s sh,n=.tone nm r s sh->ds.length=5):=by
 cases n with
 | layer=>exact⟨_,by rw[Nd.d],by simp,fun _ _ _ _ h=>by cases h⟩
 | tone=>exact⟨_,by rw[Nd.d],by simp,fun _ _ _ _ _=>rfl⟩
 | group=>exact⟨_,by rw[Nd.d],by simp,fun _ _ _ _ h=>by cases h⟩
theorem aM6(n:Nd) (f:Nat) (dd:D) (o:n.Ok) (hn:Nm n.nm) {z:Option Fl}(h:(A8 (sIf (G1 (A2 N8 (A0 (A1 0) A3))) (A9 (A2 J6 (A0 (A1 0) A3))) C7) (A8 (sIf (G1 (A2 J2 (A0 (A1 0) A3))) (A9 (A2 (A4 f 0) (A0 (A1 0) (A0 (A1 1) A3)))) C7) (A9 (L3 (A2 R7 (A0 (A1 0) A3)) (L3 (A5 eqD (N6 (A7 0)) ⇑5) (A5 (inD false) (A2 V1 (A0 (A1 0) A3)) (dC (.tuple [(.str "turn"),(.str "grey"),(.str "round")])))))))) [‹n.d›,‹dd›]=z):K9 (A4 f) [‹n.d›,‹dd›]=z:=by
 obtain⟨s,es,hs⟩:=strength_of n
 obtain⟨b,eb⟩:=aX8 n
 have en:=name_of n
 have et:=aQ5 hn
 have eh:=P2 (hs o).h (by decide)
 obtain⟨ds,ed,l5,_⟩:=bY2 n
 unfold K9
 rw[B5 (ρ':=[‹n.d›,‹dd›]),B5 (ρ':=[‹n.d›,‹dd›])]
 ·exact h
 ·wp_walk using evD,en,et,es,eh,eb,aX1
 ·have l5':¬((ds.length:Nat):Int) < 5:=by omega
  rw[ed]
  wp_walk using evD,decide_eq_false l5'
theorem bj5{l:List Nd}{f:Nat}{dd:D}(hl:l.length<=1000) (H:∀n∈l,Q5 f [n.d,dd]=some (.bool true)):Q1 (f+1) [↥l,dd]=some (.bool true):=by
 refine B2 (g:=Z8 (A4 f)) (ρ:=[‹↥l›,‹dd›]) rfl ?_
 have al:C4 1 [1] (G6 (A1 0)) (B6 0) C9 (A2 (A4 f 1) (A0 (A1 0) (A0 (A1 1) A3))) [‹↥l›,‹dd›]=some (l.map fun _=>.bool true):=by
  refine T7 (l:=l) (h:=Nd.d) (r:=[‹dd›]) rfl (by rw[E4];rfl) hl fun x hx=>?_
  exact H x hx
 wp_walk using evD,Z8,al,ak7
theorem bL2:∀(k:Nat) (n:Nd) (f:Nat) (dd:Nat),n.dp<=k->k<=dd->3*k+1<=f->n.Ok->n.off->(∀d∈n.nms,Nm d)->Q5 f [n.d,.int dd]=some (.bool true):=by
 intro k
 induction k with
 | zero =>
  intro n f dd hd hk hf o of hn
  obtain⟨f,rfl⟩:∃g,f=g+1:=⟨f - 1,by omega⟩
  refine B2 (g:=K9 (A4 f)) (ρ:=[‹n.d›,‹.int dd›]) rfl (aM6 n f _ o (hn _ (J8 n)) ?_)
  cases n with
  | group=>rw[Nd.dp]at hd;omega
  | layer nm m s sh lf tp mk w h l kb =>
   have el:=bc2 o of
   wp_walk using evD,bq1,el
  | tone nm r s sh =>
   have e1:V1 [Nd.d (.tone nm r s sh)]=some (.str r.s):=by rw[Nd.d];rfl
   have e2:=D1 (.tone nm r s sh)
   have e3:N6 (A7 0) [‹Nd.d (.tone nm r s sh)›,‹.int dd›]=some (.int 5):=by rw[Nd.d];rfl
   have e4:eqD (.int 5) (.int 5)=some (.bool true):=rfl
   simp only[A8,B3,A9,sIf,C7,A1,dC,A5,A2,L3,A3,A0,G1,ab4,G4,xg0,xg1,xbs,xms,xw0,bl5,e2,e1,e3,e4,bA9,bB9,xft,if_true,if_false]
 | succ k ih =>
  intro n f dd hd hk hf o of hn
  obtain⟨f,rfl⟩:∃g,f=g+3:=⟨f - 3,by omega⟩
  by_cases hz:n.dp<=k
  ·exact ih n (f+3) dd hz (by omega) (by omega) o of hn
  refine B2 (g:=K9 (A4 (f+2))) (ρ:=[‹n.d›,‹.int dd›]) rfl (aM6 n (f+2) _ o (hn _ (J8 n)) ?_)
  cases n with
  | layer=>rw[Nd.dp]at hz;omega
  | tone=>rw[Nd.dp]at hz;omega
  | group nm m s sh ns =>
   rw[Nd.dp]at hd
   rw[Nd.Ok]at o
   rw[Nd.off]at of
   have oks:=(N1 ns).mp o.2
   have ofs:=(U6 ns).mp of.2
   obtain⟨d',rfl⟩:∃d',dd=d'+1:=⟨dd - 1,by omega⟩
   have ea:Q1 (f+1) [↥ns,.int d']=some (.bool true):=bj5 of.1 fun n' h'=>ih n' f d' (by have:=J1 h';omega) (by omega) (by omega) (oks n' h') (ofs n' h') fun d hd'=>hn d (by rw[Nd.nms];exact xmm _ (J5 h' hd'))
   have eg:A4 (f+2) 0 [Nd.d (.group nm m s sh ns),.int ((d'+1:Nat):Int)]=some (.bool true):=by
    rw[Nd.d]
    refine B2 (g:=M3 (A4 (f+1))) (ρ:=[‹.tuple [.str "group", nm,.str m.s,fr s,.bool sh,↥ns]›,‹.int ((d'+1:Nat):Int)›]) rfl ?_
    have e1:∀a b c d e f:D,L7 [.tuple [a,b,c,d,e,f]]=some c:=fun _ _ _ _ _ _=>rfl
    have e2:∀a b c d e f:D,D5 [.tuple [a,b,c,d,e,f]]=some f:=fun _ _ _ _ _ _=>rfl
    have e3:∀a b c d e f:D,((([a,b,c,d,e,f]:List D).length:Nat):Int)=6:=fun _ _ _ _ _ _=>rfl
    have e4:(((d'+1:Nat):Int)==0)=false:=by simp;omega
    have e5:((d'+1:Nat):Int) - 1=(d':Int):=by omega
    have ea':A4 (f+1) 2 [↥ns,.int d']=some (.bool true):=ea
    wp_walk using evD,M3,e1,e2,e3,e4,e5,beq_self_eq_true,bc0,ea'
   have e2:=D1 (.group nm m s sh ns)
   wp_walk using evD,bt8,e2,eg
def nmb(f:Nat):DS:=(A8 (P8 1 (A2 M0 (A0 (A1 2) A3))) (sIf (G1 (A2 J2 (A0 (A1 2) A3))) (am2 1 (A2 (D4 f) (A0 (A2 D5 (A0 (A1 2) A3)) A3))) C7))
theorem bb3{n:Nd}(f:Nat) (a0:Option B) (X:List D) (hX:X.length+n.nms.length<=1000) (H:∀nm m s sh ns,n=.group nm m s sh ns->D4 f [↥ns]=some (.list (Nd.nmss ns))):nmb f [a0,some (.own X),‹n.d›]=some (.nx [a0,some (.own (X++n.nms)),‹n.d›]):=by
 have hx:X.length < 16777216:=by omega
 have en:=name_of n
 have eg:=D1 n
 have s0:(P8 1 (A2 M0 (A0 (A1 2) A3))) [a0,some (.own X),‹n.d›]=some (.nx [a0,some (.own (X++[n.nm])),‹n.d›]):=by simp only[P8,A2,A0,A3,en,xg0,xg1,if_pos hx,A1,xms,xbs,xw0,xw1]
 unfold nmb
 rw[B5 s0]
 cases n with
 | layer=>wp_walk using evD,eg;rw[Nd.nm,Nd.nms]
 | tone=>wp_walk using evD,eg;rw[Nd.nm,Nd.nms]
 | group nm m s sh ns =>
  have e1:D5 [Nd.d (.group nm m s sh ns)]=some ↥ns:=by rw[Nd.d];rfl
  have e2:=H nm m s sh ns rfl
  rw[Nd.nms]at hX
  have e3:(X++[nm]).length+(Nd.nmss ns).length<=16777216:=by simp at hX ⊢;omega
  rw[Nd.nm]
  wp_walk using evD,am2,eg,e1,e2,if_pos e3
  rw[Nd.nms,List.append_assoc];rfl
theorem aL7{l:List Nd}{f:Nat}(hw:(Nd.nmss l).length<=1000) (H:∀n∈l,∀nm m s sh ns,n=.group nm m s sh ns->D4 f [↥ns]=some (.list (Nd.nmss ns))):D4 (f+1) [↥l]=some (.list (Nd.nmss l)):=by
 obtain⟨ρ',e,a2,hρ⟩:=U8 (g:=B6 2) (f:=nmb f) (h:=Nd.d) (I:=fun i ρ=>∃a2,ρ=[‹↥l›,some (.own (Nd.nmss (l.take i))),a2]) l 0 [‹↥l›,some (.own []),none] ⟨none,rfl⟩ (fun j n hj ρ hρ=>by
  obtain⟨a2,rfl⟩:=hρ
  rw[Nat.zero_add]
  obtain⟨hjl,rfl⟩:=List.getElem?_eq_some_iff.mp hj
  have ww:Nd.nmss (l.take (j+1))=Nd.nmss (l.take j)++(l[j]).nms:=by rw[List.take_succ_eq_append_getElem hjl,B8,Nd.nmss,Nd.nmss,List.append_nil]
  have wl:=congrArg (fun x=>(Nd.nmss x).length) (List.take_append_drop (j+1) l)
  simp only[B8,ww,List.length_append]at wl
  exact⟨_,rfl,_,bb3 f _ _ (by omega) (H _ (List.getElem_mem hjl)),_,by rw[ww]⟩)
 subst hρ
 rw[Nat.zero_add,List.take_of_length_le (Nat.le_refl _),← E4]at e
 refine B2 (g:=k9 (D4 f)) (ρ:=[‹↥l›,none,none]) rfl ?_
 have s0:(S7 1 A3) [‹↥l›,none,none]=some (.nx [‹↥l›,some (.own []),none]):=rfl
 have s1:(P7 (G6 (A1 0)) (B6 2) (nmb f)) [‹↥l›,some (.own []),none]=some (.nx [‹↥l›,some (.own (Nd.nmss l)),a2]):=e
 have s2:(as0 1 (A9 (A1 1))) [‹↥l›,some (.own (Nd.nmss l)),a2]=some (.rt (.list (Nd.nmss l))):=rfl
 exact(B5 s0).trans ((B5 s1).trans s2)
theorem aL6{n:Nd}{l:List Nd}(h:n∈l):n.nms.length<=(Nd.nmss l).length:=by
 obtain⟨a,b,rfl⟩:=List.append_of_mem h
 rw[B8,Nd.nmss,List.length_append,List.length_append];omega
theorem names_among:∀(k:Nat) (l:List Nd) (f:Nat),Nd.dps l<=k->k+1<=f->(Nd.nmss l).length<=1000->D4 f [↥l]=some (.list (Nd.nmss l)):=by
 intro k
 induction k with
 | zero =>
  intro l f hd hf hw
  obtain⟨f,rfl⟩:∃g,f=g+1:=⟨f - 1,by omega⟩
  refine aL7 hw fun n hn nm m s sh ns e=>?_
  have:=J1 hn
  rw[e,Nd.dp]at this;omega
 | succ k ih =>
  intro l f hd hf hw
  obtain⟨f,rfl⟩:∃g,f=g+1:=⟨f - 1,by omega⟩
  refine aL7 hw fun n hn nm m s sh ns e=>?_
  have h1:=J1 hn
  have h2:=aL6 hn
  rw[e,Nd.dp]at h1
  rw[e,Nd.nms,List.length_cons]at h2
  exact ih ns f (by omega) (by omega) (by omega)
theorem t8:∀L:List D,(∀d∈L,Nm d)->∃ys:List Str,L=ys.map PyData.str/\ai2 L=some ys
 | [],_=>⟨[],rfl,rfl⟩
 | d::L,h=>by
  obtain⟨ys,e1,e2⟩:=t8 L fun x hx=>h x (xmm _ hx)
  obtain⟨s,rfl,_⟩:=h d (List.mem_cons_self ..)
  exact⟨s::ys,by rw[e1];rfl,by unfold ai2;rw[e2];rfl⟩
theorem aA9:∀(l a:List Str),(a++l).Nodup->l.foldl am6 a=a++l
 | [],a,_=>by simp
 | x::l,a,h=>by
  have hx:a.any (· == x)=false:=by
   rw[List.any_eq_false]
   intro y hy e
   have e:y=x:=by simpa using e
   subst e
   exact(List.nodup_append.mp h).2.2 y hy y (List.mem_cons_self ..) rfl
  rw[List.foldl_cons,am6,hx]
  simp only[xft,if_false]
  rw[aA9 l (a++[x]) (by rwa [List.append_assoc]),List.append_assoc];rfl
theorem ax0{l:List Nd}(hd:Nd.dps l<=3) (hw:(Nd.nmss l).length<=1000) (hn:∀d∈Nd.nmss l,Nm d) (nd:(Nd.nmss l).Nodup):N9 [↥l]=some (.bool true):=by
 have e:=names_among 3 l 12 hd (by decide) hw
 obtain⟨ys,e1,e2⟩:=t8 _ hn
 have ny:ys.Nodup:=by
  rw[e1]at nd
  exact List.Pairwise.imp (fun h e=>h (congrArg PyData.str e)) (List.pairwise_map.mp nd)
 have ed:ddS ys=ys:=by have:=aA9 ys [] (by simpa using ny);simpa [ddS] using this
 have ly:(Nd.nmss l).length=ys.length:=by rw[e1,List.length_map]
 have l4:ys.length<=4000:=by omega
 have es:∀q:Option B,ah5 (A7 1) [q,‹.list (Nd.nmss l)›]=some (.int ys.length):=fun q=>by
  show((ai2 (Nd.nmss l)).bind fun ys=>if ys.length<=4000 then some (PyData.int (ddS ys).length) else none)=_
  rw[e2,xbs,if_pos l4,ed]
 refine B2 (ρ:=[‹↥l›,none]) rfl ?_
 wp_walk using evD,S3,e,es,ly,beq_self_eq_true
theorem aE8{w h:Nat}(l:List Nd) (w1:1<=w) (w8:w<=8) (h1:1<=h) (h8:h<=8):S5 [D6 w h l]=some (.bool true):=by
 have sz:∀n:Nat,1<=n->n<=8->V4 [.int n]=some (.bool true):=fun n a b=>by
  refine B2 (ρ:=[‹.int n›]) rfl ?_
  have w1:K6 [.int n]=some (.bool true):=rfl
  have a':(1:Int)<=n:=by omega
  have b':(n:Int)<=8:=by omega
  wp_walk using evD,ad4,w1,a',b',decide_true
 have l3:∀a b c:D,((([a,b,c]:List D).length:Nat):Int)=3:=fun _ _ _=>rfl
 refine B2 (ρ:=[‹D6 w h l›]) rfl ?_
 wp_walk using evD,p8,D6,l3,beq_self_eq_true,sz w w1 w8,sz h h1 h8
theorem at1{w h:Nat}{l:List Nd}(w1:1<=w) (w8:w<=8) (h1:1<=h) (h8:h<=8) (hd:Nd.dps l<=3) (hl:l.length<=1000) (o:Nd.Oks l) (of:Nd.offs l) (hw:(Nd.nmss l).length<=1000) (hn:∀d∈Nd.nmss l,Nm d) (nd:(Nd.nmss l).Nodup):K7 [D6 w h l]=some (.bool true):=by
 have e1:=aE8 l w1 w8 h1 h8
 have oks:=(N1 l).mp o
 have ofs:=(U6 l).mp of
 have e2:Q1 12 [↥l,.int 3]=some (.bool true):=bj5 hl fun n hn'=>bL2 3 n 11 3 (by have:=J1 hn';omega) (by decide) (by decide) (oks n hn') (ofs n hn') fun d hd'=>hn d (J5 hn' hd')
 have e3:=ax0 hd hw hn nd
 refine B2 (ρ:=[‹D6 w h l›]) rfl ?_
 unfold D6 at e1 ⊢
 wp_walk using evD,ab1,e1,e2,e3
theorem bi5(l:List Nd) (a:Nat):U0 (Nd.ds l) none (some (a:Int))=Nd.ds (l.take a):=by
 unfold U0
 rw[HT.sIx_none,HT.sIx_nat,List.drop_zero,E4,E4,List.length_map,← List.map_take,Nat.sub_zero]
 congr 1
 rcases Nat.le_total a l.length with h|h
 ·rw[Nat.min_eq_left h]
 ·rw[Nat.min_eq_right h,List.take_of_length_le (Nat.le_refl _),List.take_of_length_le h]
theorem bi6(l:List Nd) (a:Nat):U0 (Nd.ds l) (some (a:Int)) none=Nd.ds (l.drop a):=by
 unfold U0
 rw[HT.sIx_none,HT.sIx_nat,E4,E4,List.length_map]
 rcases Nat.le_total a l.length with h|h
 ·rw[Nat.min_eq_left h,← List.map_drop,List.take_of_length_le (by rw[List.length_map,List.length_drop];exact Nat.le_refl _)]
 ·rw[Nat.min_eq_right h,Nat.sub_self,List.take_zero,List.drop_of_length_le h];rfl
theorem bj0(a b:List Nd) (h:a.length+b.length<=1000):B0 ↥a ↥b=some ↥(a++b):=by
 have:=cat_tup (xs:=Nd.ds a) (ys:=Nd.ds b) (by rw[E4,E4,List.length_map,List.length_map];omega)
 have e:Nd.ds a++Nd.ds b=Nd.ds (a++b):=by simp[E4]
 rw[e]at this
 exact this
theorem bU8{l:List Nd}{i:Nat}{n:Nd}(h:l[i]? = some n):atI (Nd.ds l) (i:Int)=some n.d:=by
 obtain⟨hi,_⟩:=List.getElem?_eq_some_iff.mp h
 unfold atI
 rw[au1 (by omega) (by rw[E4,List.length_map];omega),xbs,Int.toNat_natCast,ac9,h];rfl
abbrev Bx:=Option (Int×Int×Int×Int)
def Bx.le(A B:Bx):Prop:=match A,B with
 | none,_=>True
 | some _,none=>False
 | some (l,t,r,b),some (l',t',r',b')=>l'<=l/\t'<=t/\r<=r'/\b<=b'
theorem le_refl(A:Bx):Bx.le A A:=by
 cases A with
 | none=>exact trivial
 | some a=>show _/\_/\_/\_;omega
theorem le_trans{A B C:Bx}(h1:Bx.le A B) (h2:Bx.le B C):Bx.le A C:=by
 cases A with
 | none=>exact trivial
 | some a =>
  cases B with
  | none=>exact h1.elim
  | some b =>
   cases C with
   | none=>exact h2.elim
   | some c =>
    obtain⟨a1,a2,a3,a4⟩:=h1
    obtain⟨b1,b2,b3,b4⟩:=h2
    exact⟨Int.le_trans b1 a1,Int.le_trans b2 a2,Int.le_trans a3 b3,Int.le_trans a4 b4⟩
theorem ay8{w h:Nat}{l:List Nd}(hd:Nd.dps l<=3) (hl:(Nd.nmss l).length<=1000):r6 [D6 w h l]=some (.list (Nd.nmss l)):=by
 have na:=names_among 3 l 12 hd (by decide) hl
 refine B2 (ρ:=[‹D6 w h l›]) rfl ?_
 wp_walk using evD,al4,D6,na
structure Fits (w h:Nat):Prop where
 w1:1<=w
 w8:w<=8
 h1:1<=h
 h8:h<=8
def hcb:DS:=(sIf (G1 (A2 bj9 (A0 (A1 0) (A0 (A1 3) A3)))) (A9 (A1 2)) C7)
section
variable {w h:Nat}{K:List D}{p:Int×Int}
mutual
theorem aQ4(c e:List Nd):∀n:Nd,∀d∈n.nms,∃a n' b,Stands a n' b (c++n::e)/\n'.nm=d
 | .layer nm m s sh lf tp mk w h l kb,d,hd=>by
  rw[Nd.nms]at hd
  exact⟨c,_,e,.top,(List.mem_singleton.mp hd).symm⟩
 | .tone nm r s sh,d,hd=>by
  rw[Nd.nms]at hd
  exact⟨c,_,e,.top,(List.mem_singleton.mp hd).symm⟩
 | .group nm m s sh ns,d,hd=>by
  rw[Nd.nms]at hd
  rcases List.mem_cons.mp hd with q|q
  ·exact⟨c,_,e,.top,q.symm⟩
  ·obtain⟨a,n',b,st,en⟩:=nms_stands [] ns d q
   exact⟨a,n',b,.deep st,en⟩
theorem nms_stands(c:List Nd):∀l:List Nd,∀d∈Nd.nmss l,∃a n' b,Stands a n' b (c++l)/\n'.nm=d
 | [],d,hd=>by rw[Nd.nmss]at hd;simp at hd
 | n::r,d,hd=>by
  rw[Nd.nmss]at hd
  rcases List.mem_append.mp hd with q|q
  ·exact aQ4 c r n d q
  ·have:=nms_stands (c++[n]) r d q
   rwa [List.append_assoc]at this
end
end
end Sh
namespace Sh
open PySem PySem.Spec PyProof.Rows L2 G
end Sh
namespace G
open PySem PySem.Spec PyProof.Rows L2
section
variable {X:Cx}{S:Sg}{c:Kx}
theorem C5{e:Expr}:JE X e dNo:=fun ρ d h=>by cases h
theorem bx5{e:Expr}:JQ X e qNo:=fun ρ t d h=>by cases h
theorem v8{e:Expr}:JN X e aNo:=fun ρ d h=>by cases h
theorem ap2{e:Expr}:JT X e tNo:=fun ρ d h=>by cases h
theorem bS9{e:Expr}:JW X e tNo:=fun ρ d h=>by cases h
theorem az8{e:Expr}:JG X e gNo:=by
 unfold JG PG
 intros
 rename_i h
 obtain⟨d,ρ,ρ',H0,Hf,z,_⟩:=h
 cases z
theorem bT9{es:List Expr}:JA X es aNo:=⟨fun ρ d h=>(nomatch h),fun ρ d h=>(nomatch h)⟩
theorem bH1{es:List Expr}:JTs X es tNo:=fun pins s σ H Q I ⟨ρ,b,h,_⟩=>by cases h
theorem W4(hu:X.A.units+64 < cLine):∀op:CmpOp,OpD X (compareOp op) (aB7 op)
 | .Lt=>bR5 | .LtE=>bR6 | .Gt=>bR9 | .GtE=>bS0 | .Eq=>bS1 hu | .NotEq=>bR4 hu | .Is=>bR7 | .IsNot=>ba6 | .In=>bR8 hu | .NotIn=>ba5 hu
theorem ba4(hu:X.A.units+64 < cLine) (S:Sg) (c:Kx) (op:CmpOp) (b:Expr):OpD X (compareOp op) (opW S c op b):=by
 unfold opW
 split
 ·split
  ·exact bE3
  ·exact aQ3
  ·exact W4 hu _
 ·exact W4 hu op
theorem k6{f:Expr->DE}(h:∀e,JE X e (f e)):∀es,JA X es (evA f es)
 | []=>bf2
 | e::es=>by
  unfold evA
  split
  ·rename_i p;exact aM4 (h e) (k6 h es) (J4 p es _)
  ·exact bT9
theorem ah2{f:Expr->DE}(h:∀e,JE X e (f e)) (op:BoolOp) (pos:Pos):∀vs,JE X (.BoolOp op vs pos) (aR6 f op vs)
 | []=>C5
 | [a]=>bJ7 (h a)
 | a::b::r=>by
  unfold aR6
  cases op
  ·exact bK3 (h a) (ah2 h .And pos (b::r))
  ·exact bT4 (h a) (ah2 h .Or pos (b::r))
theorem au0{f:Expr->DT}(h:∀e,JT X e (f e)) (op:BoolOp) (pos:Pos):∀vs,JW X (.BoolOp op vs pos) (bh3 f op vs)
 | []=>bS9
 | [a]=>by cases op;exact bq2 (h a);exact bG9 (h a)
 | a::b::r=>by
  unfold bh3
  cases op
  ·exact bH0 (h a) (au0 h .And pos (b::r))
  ·exact bS8 (h a) (au0 h .Or pos (b::r))
theorem k4{f:Expr->DE}(h:∀e,JE X e (f e)):∀o,JO X o (evO f o)
 | none=>br8
 | some e=>br7 (h e)
theorem bH2{f:Expr->DT}(h:∀e,JT X e (f e)):∀l,JTs X l (bh2 f l)
 | []=>bq4
 | [t]=>bq3 (h t)
 | _::_::_=>bH1
theorem bd8{f:Expr->DG}(h:∀e,JG X e (f e)):∀es,es.all pl=true->JGs X es (bL8 f es)
 | [],_=>bs4
 | e::es,p=>by
  simp only[List.all_cons,Bool.and_eq_true]at p
  refine bd9 (h e) (bd8 h es p.2) ?_
  have p1:=p.1
  cases e<;>first|rfl|cases p1
theorem aN8{env:Env}:∀{es:List Expr},es.all pl=true->(assignEach es env).length=es.length/\(assignEach es env).findIdx? (·.1)=none
 | [],_=>⟨rfl,rfl⟩
 | e::es,p=>by
  simp only[List.all_cons,Bool.and_eq_true]at p
  obtain⟨h1,h2⟩:=aN8 (env:=env) p.2
  have p1:=p.1
  have q:assignEach (e::es) env=(false,assign e env)::assignEach es env:=by cases e<;>first|rfl|cases p1
  rw[q]
  refine⟨by simp[h1],?_⟩
  simp[List.findIdx?_cons,h2]
structure Sound (S:Sg) (r:Ev):Prop where
 e:∀{c X},Fit S c X->∀ex,JE X ex (r.e c ex)
 q:∀{c X},Fit S c X->∀ex,JQ X ex (r.q c ex)
 n:∀{c X},Fit S c X->∀ex,JN X ex (r.n c ex)
 t:∀{c X},Fit S c X->∀ex,JT X ex (r.t c ex)
 g:∀{c X},Fit S c X->∀ex,JG X ex (r.g c ex)
 b:∀{c X},Fit S c X->∀sts,JSs X sts (r.b c sts)
theorem Fit.hx(F:Fit S c X):∀e s,X.xe e s->False:=fun e s h=>by rw[F.xe]at h;exact h
theorem Fit.po(F:Fit S c X):PassesOwn (model X.prog X.w) X.A X.env X.xe:=by rw[F.xe];exact PassesOwn.never
theorem Fit.slot(F:Fit S c X) {x:Str}{i:Nat}(h:T9 x c.N=some i):X.N[i]? = some x:=by rw[F.N];exact az9 h
theorem Fit.inner{tn:List Str}{caps:List Nat}{scope:Scope}{C:Addr}{s0:Shared}{H0:Hp}{ex:List Addr}(F:Fit S c X) (hn:(G.inner c tn caps scope).N.Nodup):Fit S (G.inner c tn caps scope) (E2 X (G.inner c tn caps scope).N scope C s0 H0 ex) :=
 ⟨rfl,by show relabel scope X.env=rl scope c.sc;rw[← F.sc];rfl,hn,F.calm,rfl,F.units,(fun h=>by cases h),F.fns,F.css,F.bls⟩
variable {r:Ev}
theorem bJ1(R:Sound S r) (F:Fit S c X) (tg a:Expr) {p pos:Pos}(hg:Gl X "reversed") (hm:X.mg "reversed" = none):JI X tg (.Call (.Name "reversed" p) [a] [] pos) (evR S c tg a):=by
 have no:∀e:Expr,JI X tg e fun _=>none:=fun e ρ ds q=>nomatch q
 unfold evR
 split
 ·split
  ·split
   ·split
    ·split
     ·rename_i h
      simp only[Bool.and_eq_true]at h
      obtain⟨rfl,h1,h2⟩:=G7 F h.1.1.1
      obtain⟨rfl,h3,h4⟩:=G7 F h.1.1.2
      have ht:=h.1.2
      exact no _
     ·exact no _
    ·exact no _
   ·exact no _
  ·exact no _
 ·exact no _
theorem bx7(R:Sound S r) (F:Fit S c X) (tg it:Expr):JI X tg it (evI S r c tg it):=by
 unfold evI
 split
 ·rename_i x p a pos
  split
  ·rename_i h
   obtain⟨rfl,h1,h2⟩:=G7 F h
   exact bJ1 R F tg a h1 h2
  ·split
   ·rename_i h
    simp only[Bool.and_eq_true]at h
    obtain⟨rfl,h1,h2⟩:=G7 F h.1
    exact aR2 h1 h2 (R.e F a) (J4 h.2 _ _)
   ·split
    ·rename_i h
     simp only[Bool.and_eq_true]at h
     obtain⟨rfl,h1,h2⟩:=G7 F h.1.1
     have ht:=h.1.2
     cases tg<;>first|(exact bs3 h1 h2 (R.e F a) (J4 h.2 _ _))|(exact nomatch ht)
    ·exact aG7 (R.e F _)
 ·rename_i x p a b pos
  split
  ·rename_i h
   simp only[Bool.and_eq_true]at h
   obtain⟨rfl,h1,h2⟩:=G7 F h.1.1
   exact fun ρ ds q=>nomatch q
  ·split
   ·rename_i h
    simp only[Bool.and_eq_true]at h
    obtain⟨rfl,h1,h2⟩:=G7 F h.1.1.1
    have ht:=h.1.1.2
    exact fun ρ ds q=>nomatch q
   ·exact aG7 (R.e F _)
 ·split
  ·exact bJ0 (R.e F _)
  ·exact aG7 (R.e F _)
theorem aN3(R:Sound S r) (F:Fit S c X) {elt tgt iter:Expr}{ifs:List Expr}{scope:Scope}{caps:List Nat}
  (h:(ah7 c.N (G.inner c (Q2 tgt) caps scope).N (Q2 tgt).length caps c.sc scope&&ac6 (G.inner c (Q2 tgt) caps scope).N&&pl iter)=true) :
  CompSc X (G.inner c (Q2 tgt) caps scope).N (Q2 tgt).length caps scope/\JI X tgt iter (evI S r c tgt iter)/\(∀C s0 H0 ex,JG (E2 X (G.inner c (Q2 tgt) caps scope).N scope C s0 H0 ex) tgt (r.g (G.inner c (Q2 tgt) caps scope) tgt)) /\
  (∀C s0 H0 ex,JTs (E2 X (G.inner c (Q2 tgt) caps scope).N scope C s0 H0 ex) ifs (bh2 (r.t (G.inner c (Q2 tgt) caps scope)) ifs))/\(∀C s0 H0 ex,JE (E2 X (G.inner c (Q2 tgt) caps scope).N scope C s0 H0 ex) elt (r.e (G.inner c (Q2 tgt) caps scope) elt)) /\
  ∀x,foldedSetIterable iter X.env x=pure x:=by
 simp only[Bool.and_eq_true]at h
 obtain⟨⟨h1,h2⟩,h3⟩:=h
 have hn:=ac5 h2
 exact⟨aT9 h1 F.N F.sc,bx7 R F tgt iter,fun C s0 H0 ex=>R.g (F.inner hn) tgt,fun C s0 H0 ex=>bH2 (R.t (F.inner hn)) ifs,fun C s0 H0 ex=>R.e (F.inner hn) elt,aK7 h3 _⟩
theorem bT2(R:Sound S r) (F:Fit S c X) (ex:Expr):JN X ex (evC S r c ex):=by
 unfold evC
 split
 ·rename_i elt tgt iter ifs scope pos
  dsimp only
  split
  ·rename_i h
   obtain⟨h1,h2,h3,h4,h5,h6⟩:=aN3 (ifs:=ifs) (elt:=elt) R F h
   exact bs0 h1 F.hx h2 h3 h4 h5 F.calm h6
  ·exact v8
 ·exact v8
theorem aO7{x:Str}{T:String}(h:bA5 x=some T):bootBuiltins x=some (.type T)/\x ≠ "__name__" /\ (x==("__debug__" : Str))=false:=by
 unfold bA5 at h
 split at h
 ·rename_i e;cases h;simp only[beq_iff_eq]at e;subst e;exact⟨aI6,by decide,by decide⟩
 ·split at h
  ·rename_i e;cases h;simp only[beq_iff_eq]at e;subst e;exact⟨bu7,by decide,by decide⟩
  ·split at h
   ·rename_i e;cases h;simp only[beq_iff_eq]at e;subst e;exact⟨bM8,by decide,by decide⟩
   ·split at h
    ·rename_i e;cases h;simp only[beq_iff_eq]at e;subst e;exact⟨aC0,by decide,by decide⟩
    ·split at h
     ·rename_i e;cases h;simp only[beq_iff_eq]at e;subst e;exact⟨aN7,by decide,by decide⟩
     ·cases h
theorem R8(pos:Pos) (env:Env):∀{es:List Expr},es.all pl=true->(starEach es env).any (·.1)=false
 | [],_=>rfl
 | e::es,h=>by
  simp only[List.all_cons,Bool.and_eq_true]at h
  rw[J4 h.1,List.any_cons,R8 pos env h.2];rfl
end
section
variable {X:Cx}{S:Sg}{c:Kx}{r:Ev}
theorem bk3(R:Sound S r) (F:Fit S c X) (a i:Expr) (pos:Pos):JE X (.Subscript a i pos) (bz4 r c a i):=by
 unfold bz4
 split
 ·split
  ·exact be3 (R.e F _) (k4 (R.e F) _) (k4 (R.e F) _)
  ·split
   ·exact bJ4 (R.e F _) (k4 (R.e F) _) (k4 (R.e F) _)
   ·split
    ·exact bJ5 (R.q F _) (k4 (R.e F) _) (k4 (R.e F) _)
    ·exact bJ6 (R.e F _) (k4 (R.e F) _) (k4 (R.e F) _)
 ·exact bs7 (R.e F _) (aG8 be8)
 ·split
  ·rename_i h
   split
   ·exact bJ9 (R.e F _) (R.e F _) (bw8 h)
   ·exact bT5 (R.q F _) (R.e F _) (bw8 h)
  ·exact C5
theorem aO6(R:Sound S r) (F:Fit S c X) (x:Str) (a:Expr) (p pos:Pos):JE X (.Call (.Name x p) [a] [] pos) (aD2 S r c x a):=by
 unfold aD2
 split
 ·exact C5
 rename_i hp
 have hp:pl a=true:=by simpa using hp
 have hs:=J4 hp [] X.env
 split
 ·rename_i h
  obtain⟨rfl,h1,h2⟩:=G7 F h
  split
  ·rename_i y py e ppos
   split
   ·rename_i hy
    simp only[Bool.and_eq_true]at hy
    obtain⟨rfl,g1,g2⟩:=G7 F hy.1
    exact aR3 h1 h2 g1 g2 (R.q F _) F.calm (J4 hy.2 _ _)
   ·exact be5 h1 h2 (R.q F _) hs
  ·split
   ·exact bs8 h1 h2 (R.e F a) hs
   ·exact be5 h1 h2 (R.q F a) hs
 split
 ·rename_i h;obtain⟨rfl,h1,h2⟩:=G7 F h;exact bs6 h1 h2 (R.q F a) hs
 split
 ·rename_i h;obtain⟨rfl,h1,h2⟩:=G7 F h;exact bK4 h1 h2 (R.q F a) F.calm hs
 split
 ·rename_i h;obtain⟨rfl,h1,h2⟩:=G7 F h;exact be7 h1 h2 (R.e F a) hs
 split
 ·rename_i h;obtain⟨rfl,h1,h2⟩:=G7 F h;exact C5
 split
 ·rename_i h;obtain⟨rfl,h1,h2⟩:=G7 F h;exact C5
 split
 ·rename_i h;obtain⟨rfl,h1,h2⟩:=G7 F h;exact C5
 split
 ·rename_i h;obtain⟨rfl,h1,h2⟩:=G7 F h;exact C5
 exact C5
theorem aO5(R:Sound S r) (F:Fit S c X) (x:Str) (a b:Expr) (p pos:Pos):JE X (.Call (.Name x p) [a,b] [] pos) (aD1 S r c x a b):=by
 unfold aD1
 split
 ·exact C5
 rename_i hp
 have hp:pl a=true:=by simpa using hp
 split
 ·rename_i h
  obtain⟨rfl,h1,h2⟩:=G7 F h
  split
  ·rename_i y py
   split
   ·rename_i T hT
    split
    ·rename_i hy
     obtain⟨_,g1,g2⟩:=G7 F hy
     obtain⟨t1,t2,t3⟩:=aO7 hT
     exact bK0 h1 h2 g1 g2 t1 (R.e F a) t2 t3 (J4 hp _ _) rfl rfl
    ·exact C5
   ·exact C5
  ·exact C5
 split
 ·exact C5
 rename_i hb
 have hb:pl b=true:=by simpa using hb
 split
 ·rename_i h;obtain⟨rfl,h1,h2⟩:=G7 F h;exact C5
 split
 ·rename_i h;obtain⟨rfl,h1,h2⟩:=G7 F h;exact C5
 exact C5
theorem Z6(pos:Pos):∀l:List (Bool×Sem Value),(backTo pos l).any (·.1)=l.any (·.1)
 | []=>rfl
 | (b,t)::r=>by
  have ih:=Z6 pos r
  unfold backTo at ih ⊢
  rw[xmc,List.any_cons,List.any_cons,ih]
theorem aW7(R:Sound S r) (F:Fit S c X) (x:Str) (args:List Expr) (p pos:Pos):JE X (.Call (.Name x p) args [] pos) (aW8 S r c x args (.Call (.Name x p) args [] pos)):=by
 unfold aW8
 split
 ·rename_i Fn n hl
  split
  ·rename_i h
   simp only[Bool.and_eq_true,beq_iff_eq]at h
   obtain⟨⟨hg,hn⟩,hp⟩:=h
   obtain⟨g1,g2⟩:=T2 F hg
   rcases F.fns _ _ _ hl with⟨k,f,fd,ps,hk,hr,hm,hkp,hb⟩|⟨hm,hb⟩
   case inr =>
    cases args with
    | nil=>cases hn;exact absurd hb.1 (Nat.lt_irrefl _)
    | cons e es =>
     simp only[List.all_cons,Bool.and_eq_true]at hp
     exact bT8 hb F.units g1 hm (k6 (R.e F) (e::es)) hn g2 (J4 hp.1 _ _) ((Z6 pos _).trans (R8 pos _ hp.2))
   cases args with
   | nil=>cases hn;exact bf1 hk hr g1 hm hkp hb g2
   | cons e es =>
    simp only[List.all_cons,Bool.and_eq_true]at hp
    exact bt0 hk hr g1 hm hkp hb (k6 (R.e F) (e::es)) hn g2 (J4 hp.1 _ _) ((Z6 pos _).trans (R8 pos _ hp.2))
  ·exact C5
 ·split
  ·split
   ·exact v9 (R.n F _)
   ·exact aO6 R F _ _ _ _
  ·exact aO5 R F _ _ _ _ _
  ·exact C5
theorem aD0(k:Const) (u:Nat) (pos:Pos):JE X (.Constant k u pos) (xCn k):=by
 unfold xCn
 split
 ·exact bJ8
 ·exact bT7
 ·exact be8
 ·exact bJ3
 ·exact C5
theorem bk7(R:Sound S r) (F:Fit S c X) (a:Expr) (op:Operator) (b:Expr) (pos:Pos):JE X (.BinOp a op b pos) (bA0 r c a op b):=by
 unfold bA0
 split
 ·split
  ·exact T8 ba7 (R.e F _) (R.e F _)
  ·exact T8 aL5 (R.e F _) (R.e F _)
 ·exact T8 bD9 (R.e F _) (R.e F _)
 ·split
  ·exact T8 at4 (R.e F _) (R.e F _)
  ·split
   ·split
    ·exact T8 bp1 (R.e F _) (R.e F _)
    ·exact T8 aL4 (R.e F _) (R.e F _)
   ·exact T8 aL4 (R.e F _) (R.e F _)
 ·exact T8 bE4 (R.e F _) (R.e F _)
 ·exact T8 bE1 (R.e F _) (R.e F _)
 ·exact C5
 ·exact C5
theorem bz3(R:Sound S r) (F:Fit S c X) (op:UnaryOp) (a:Expr) (pos:Pos):JE X (.UnaryOp op a pos) (xUn r c op a):=by
 unfold xUn
 split
 ·exact aG8 (R.e F _)
 ·exact be4 (R.e F _)
 ·exact C5
theorem bk6(R:Sound S r) (F:Fit S c X) (a:Expr) (ops:List CmpOp) (bs:List Expr) (pos:Pos):JE X (.Compare a ops bs pos) (bz8 S r c a ops bs):=by
 have hu:=F.units
 unfold bz8
 split
 ·split
  ·rename_i h;exact be9 (ba4 hu S c _ _) (R.e F _) (R.e F _) (u8 h _)
  ·exact C5
 ·split
  ·rename_i h;exact bf0 (W4 hu _) (W4 hu _) (R.e F _) (R.e F _) (R.e F _) (u8 h _)
  ·exact C5
 ·exact C5
theorem bk5(R:Sound S r) (F:Fit S c X) (o:Expr) (m:Str) (apos cpos:Pos) (args:List Expr):JE X (.Call (.Attribute o m apos) args [] cpos) (bz6 r c o m apos cpos args):=by
 have hu:=F.units
 unfold bz6
 split
 ·split
  ·rename_i h
   simp only[Bool.and_eq_true,beq_iff_eq]at h
   obtain⟨⟨⟨hm,hn⟩,hl⟩,hp⟩:=h
   subst hm
   have hs:=J4 hp [] X.env
   exact bs9 (R.e F _) (R.q F _) (ay6 hn _ _ _) (by rw[hs];rfl) (by simpa using hl) hs
  ·split
   ·rename_i h
    simp only[Bool.and_eq_true,beq_iff_eq]at h
    obtain⟨⟨⟨hm,hn⟩,hl⟩,hp⟩:=h
    subst hm
    have hs:=J4 hp [] X.env
    exact C5
   ·exact C5
 ·exact C5
theorem bz9(R:Sound S r) (F:Fit S c X) (f:Expr) (args:List Expr) (kw:List Keyword) (pos:Pos):JE X (.Call f args kw pos) (xCl S r c f args kw pos):=by
 unfold xCl
 split
 ·split
  ·exact aW7 R F _ _ _ _
  ·exact bk5 R F _ _ _ _ _
  ·exact C5
 ·exact C5
theorem bO6(R:Sound S r) (F:Fit S c X) (ex:Expr):JE X ex (xE S r c ex):=by
 cases ex
 case Constant=>exact aD0 _ _ _
 case Name x p =>
  unfold xE
  dsimp only
  split
  ·rename_i i h
   split
   ·rename_i v;obtain⟨h1,h2,h3⟩:=V7 F v;exact be0 i (F.slot h) h1 h2 h3
   ·exact C5
  ·split
   ·rename_i d hd
    split
    ·rename_i g;obtain⟨u,k1,k2⟩:=F.css _ _ hd;obtain⟨g1,g2⟩:=T2 F g;exact bK2 k1 g1 k2 g2
    ·exact C5
   ·exact C5
 case Tuple es _ _ =>
  unfold xE
  dsimp only
  split
  ·rename_i h;exact be2 (k6 (R.e F) _) h
  ·exact C5
 case List=>exact v9 (R.n F _)
 case ListComp=>exact v9 (R.n F _)
 case BinOp=>exact bk7 R F _ _ _ _
 case UnaryOp=>exact bz3 R F _ _ _
 case Compare=>exact bk6 R F _ _ _ _
 case BoolOp=>exact ah2 (R.e F) _ _ _
 case IfExp=>exact bK1 (R.t F _) (R.e F _) (R.e F _)
 case Subscript=>exact bk3 R F _ _ _
 case Call=>exact bz9 R F _ _ _ _
 all_goals exact C5
theorem bO3(R:Sound S r) (F:Fit S c X) (ex:Expr):JQ X ex (xQ S r c ex):=by
 cases ex
 case Name x p =>
  unfold xQ
  dsimp only
  split
  ·rename_i i h
   split
   ·rename_i v;obtain⟨h1,h2,h3⟩:=V7 F v;exact bI7 i (F.slot h) h1 h2 h3
   ·exact bx5
  ·exact bd6 (R.e F _)
 case List=>exact bI8 (R.n F _)
 case ListComp=>exact bI8 (R.n F _)
 case Call f as kw p =>
  unfold xQ
  dsimp only
  split
  ·exact bI8 (R.n F _)
  ·exact bd6 (R.e F _)
 all_goals exact bd6 (R.e F _)
theorem bO4(R:Sound S r) (F:Fit S c X) (ex:Expr):JN X ex (xN S r c ex):=by
 cases ex
 case List es p =>
  unfold xN
  dsimp only
  split
  ·rename_i h;exact bd7 (k6 (R.e F) _) h
  ·exact v8
 case ListComp=>exact bT2 R F _
 case Call f as kw p =>
  unfold xN
  dsimp only
  unfold xNl
  split
  ·split
   ·split
    ·rename_i h
     simp only[Bool.and_eq_true]at h
     obtain⟨rfl,h1,h2⟩:=G7 F h.1
     exact br9 h1 h2 (R.q F _) (J4 h.2 _ _)
    ·exact v8
   ·exact v8
  ·exact v8
 case BinOp a op b p =>
  cases op
  case Add=>exact bI9 (R.q F _) (R.q F _)
  all_goals exact v8
 all_goals exact v8
theorem bO2(R:Sound S r) (F:Fit S c X) (ex:Expr):JT X ex (xT S r c ex):=by
 have hu:=F.units
 have oth:∀e:Expr,JT X e (if plT e then G1 (r.e c e) else tNo):=fun e=>by
  split
  ·rename_i h;exact bH3 (R.e F _) (aZ4 h _)
  ·exact ap2
 cases ex
 case Compare a ops bs p =>
  unfold xT bv8
  dsimp only
  split
  ·split
   ·rename_i h;exact bH5 (ba4 hu S c _ _) (R.e F _) (R.e F _) (u8 h _)
   ·exact ap2
  ·split
   ·rename_i h;exact bc7 (W4 hu _) (W4 hu _) (R.e F _) (R.e F _) (R.e F _) (u8 h _)
   ·exact ap2
  ·exact ap2
 case BoolOp=>exact bc6 (au0 (R.t F) _ _ _)
 case UnaryOp op a p =>
  cases op
  case Not=>exact bH4 (R.t F _)
  all_goals exact ap2
 all_goals exact oth _
theorem bO5(R:Sound S r) (F:Fit S c X) (ex:Expr):JG X ex (xG r c ex):=by
 unfold xG
 split
 ·split
  ·rename_i i h
   split
   ·rename_i v;obtain⟨h1,h2⟩:=ah1 F v;exact bs5 i (by rw[F.N];exact F.nd) (F.slot h) h1 h2
   ·exact az8
  ·exact az8
 ·split
  ·rename_i h
   obtain⟨h1,h2⟩:=aN8 (env:=X.env) h
   exact bJ2 (bd8 (R.g F) _ h) F.calm h1 h2
  ·exact az8
 ·exact az8
theorem aM1{st:Stmt}{f:DS}(h:∀ρ,f ρ=none):JS X st f:=fun ρ fl q=>by rw[h ρ]at q;cases q
theorem bj3(F:Fit S c X) (h:c.df=true):X.env.blockKind=.function:=by
 unfold Env.blockKind
 rw[F.sc,(F.df h).2];rfl
theorem ao2(elt:Expr) (gens:List Comprehension) (sc:Scope) (pv p':Pos) (x:Str) (l:Nat) (env:Env):swapsWith (.ListComp elt gens sc pv) (some (.Name x p')) l env =
  pure (env.blockKind == .function&&env.kindOf x==some .local&&p'.line==pv.line && !(sc.names.any fun(n,k)=>n==x&&(k == .local || k == .cell))):=rfl
theorem aM2(R:Sound S r) (F:Fit S c X) {x:Str}{p' pv p:Pos}{elt:Expr}{gens:List Comprehension}{sc:Scope}{i:Nat}(hi:T9 x c.N=some i) (hl:(c.sc.names.lookup x==some .local)=true)
  (h:(c.df&&p'.line==pv.line && !(sc.names.any fun(n,k)=>n==x&&(k == .local || k == .cell)))=true) :
  JS X (.Assign [.Name x p'] (.ListComp elt gens sc pv) p) (S7 i (evC S r c (.ListComp elt gens sc pv)))/\JS X (.Assign [.Name x p'] (.ListComp elt gens sc pv) p) (Q6 i (evC S r c (.ListComp elt gens sc pv))):=by
 unfold evC
 simp only[Bool.and_eq_true]at h
 have hl':X.env.scope.names.lookup x=some .local:=by rw[F.sc];simpa using hl
 have hsw:swapsWith (.ListComp elt gens sc pv) (some (.Name x p')) p.line X.env=pure true:=by
  rw[ao2,bj3 F h.1.1,h.1.2,h.2]
  unfold Env.kindOf
  rw[hl'];rfl
 split
 ·rename_i elt tgt iter ifs scope pos he
  cases he
  dsimp only
  split
  ·rename_i hc
   obtain⟨h1,h2,h3,h4,h5,h6⟩:=aN3 (ifs:=ifs) (elt:=elt) R F hc
   exact⟨br1 i (by rw[F.N];exact F.nd) h1 F.hx h2 h3 h4 h5 (F.slot hi) hl' hsw F.calm h6,br3 i (by rw[F.N];exact F.nd) h1 F.hx h2 h3 h4 h5 (F.slot hi) hl' hsw F.calm h6⟩
  ·exact⟨aM1 fun ρ=>rfl,aM1 fun ρ=>rfl⟩
 ·exact⟨aM1 fun ρ=>rfl,aM1 fun ρ=>rfl⟩
theorem bk8(R:Sound S r) (F:Fit S c X) (tg v:Expr) (p:Pos):JS X (.Assign [tg] v p) (bA1 S r c tg v p):=by
 have nd:X.N.Nodup:=by rw[F.N];exact F.nd
 unfold bA1
 split
 ·rename_i x p'
  split
  ·exact B1
  ·rename_i i hi
   split
   ·exact B1
   ·rename_i hlo
    have hlo:aG4 c x=true:=by simpa using hlo
    obtain⟨l1,l2⟩:=ah1 F hlo
    split
    ·rename_i elt gens sc pv
     split
     ·rename_i hl
      split
      ·rename_i h
       split
       ·exact(aM2 R F hi hl h).1
       ·exact(aM2 R F hi hl h).2
      ·exact B1
     ·rename_i hl
      refine aG5 i nd (R.e F _) (F.slot hi) l1 ?_ l2
      rw[ao2]
      have:(X.env.kindOf x==some .local)=false:=by
       unfold Env.kindOf
       rw[F.sc];simpa using hl
      rw[this,Bool.and_false];rfl
    ·split
     ·exact B1
     ·rename_i hc
      have hc:isC v=false:=by simpa using hc
      split
      ·exact bd1 i nd (R.n F _) (F.slot hi) l1 (Y9 hc _ _ _) l2
      ·exact aG5 i nd (R.e F _) (F.slot hi) l1 (Y9 hc _ _ _) l2
 ·split
  ·exact B1
  ·rename_i i hi
   split
   ·rename_i h
    simp only[Bool.and_eq_true,Bool.not_eq_true']at h
    obtain⟨h1,h2,h3⟩:=V7 F h.1
    exact bH7 i (R.n F _) (k4 (R.e F) _) (k4 (R.e F) _) (F.slot hi) h1 h2 h3 (Y9 h.2 _ _ _)
   ·exact B1
 ·rename_i x px y py kt pt
  split
  ·rename_i a b k2 p2
   split
   ·rename_i i j hi hj
    split
    ·rename_i h
     unfold bQ8 at h
     simp only[Bool.and_eq_true,Bool.not_eq_true',beq_iff_eq]at h
     obtain⟨⟨⟨⟨⟨⟨⟨⟨hd,ha⟩,hb⟩,hxy⟩,hl⟩,hx⟩,hy⟩,hf⟩,hcs⟩:=h
     have hx':X.env.scope.names.lookup x=some .local:=by rw[F.sc];exact hx
     have hy':X.env.scope.names.lookup y=some .local:=by rw[F.sc];exact hy
     have hne:i≠j:=fun z=>by
      subst z
      have:=(F.slot hi).symm.trans (F.slot hj)
      cases this
      simp at hxy
     refine bH8 nd (k6 (R.e F) [a,b]) ?_ hne (F.slot hi) (F.slot hj) hx' hy' F.calm rfl
     have kx:X.env.kindOf x=some .local:=hx'
     have ky:X.env.kindOf y=some .local:=hy'
     have st:∀e:Expr,pl e=true->(match e with | .Starred ..=>true|_=>false)=false:=fun e he=>by cases e<;>first|rfl|cases he
     have sa:=st a ha
     have sb:=st b hb
     have hyx:(y==x)=false:=by
      cases q:(y==x) with
      | false=>rfl
      | true=>simp only[beq_iff_eq]at q;subst q;simp at hxy
     simp only[swappedStores,List.length_cons,List.length_nil,List.head?_cons,xms,Option.getD_some,Expr.pos,List.filterMap_cons,List.filterMap_nil,kx,ky,bj3 F hd,hf,hcs,hl,sa,sb,List.any_cons,List.any_nil]
     simp[List.eraseDups,List.eraseDupsBy,List.eraseDupsBy.loop,hxy,hyx]
     intro z
     rcases z with z|z
     ·cases a<;>first|exact absurd (show false=true from z) Bool.false_ne_true|exact nomatch ha
     ·cases b<;>first|exact absurd (show false=true from z) Bool.false_ne_true|exact nomatch hb
    ·exact B1
   ·exact B1
  ·exact B1
  ·rename_i h1 h2
   refine bd2 (R.e F _) (R.g F _) ?_ ?_ rfl
   ·cases v<;>rfl
   ·cases v<;>first|rfl|exact(h2 _ _ _ rfl).elim
 ·rename_i es kt pt _
  split
  ·exact B1
  ·rename_i h
   refine bd2 (R.e F _) (R.g F _) ?_ ?_ rfl
   ·cases v<;>rfl
   ·cases v<;>first|rfl|skip
    rename_i vs k3 p3
    have h:(es.length==2 || es.length==3)=false:=by simpa [aA2] using h
    unfold swappedStores
    simp only[h,xnf,Bool.true_or,if_true]
 ·exact B1
end
section
variable {X:Cx}{S:Sg}{c:Kx}{r:Ev}
theorem bk4(R:Sound S r) (F:Fit S c X) (x m:Str) (e:Expr) (p apos cpos pos:Pos) (hl:(apos.endLine==cpos.line)=true):JS X (.Expr (.Call (.Attribute (.Name x p) m apos) [e] [] cpos) pos) (bz5 r c x m e):=by
 unfold bz5
 split
 ·exact B1
 ·rename_i i hi
  split
  ·rename_i h
   simp only[Bool.and_eq_true]at h
   obtain⟨h1,h2,h3⟩:=V7 F h.1
   have hs:=J4 h.2 [] X.env
   split
   ·rename_i hm
    simp only[beq_iff_eq]at hm
    subst hm
    exact bI3 i (R.e F e) (F.slot hi) h1 h2 h3 rfl (by rw[hs];rfl) hl hs rfl
   ·split
    ·rename_i hm
     simp only[beq_iff_eq]at hm
     subst hm
     exact bI1 i (R.e F e) (F.slot hi) h1 h2 h3 hl hs
    ·exact B1
  ·exact B1
theorem bz7(R:Sound S r) (F:Fit S c X) (e:Expr) (pos:Pos):JS X (.Expr e pos) (xEx r c e):=by
 unfold xEx
 split
 ·split
  ·split
   ·split
    ·split
     ·rename_i h;exact bk4 R F _ _ _ _ _ _ _ h
     ·exact B1
    ·exact B1
   ·exact B1
  ·exact B1
 ·exact B1
theorem aW6(R:Sound S r) (F:Fit S c X) (st:Stmt):JS X st (xS0 S r c st):=by
 cases st
 case Return o p =>
  cases o
  ·exact B1
  ·exact aG6 (R.e F _)
 case If=>exact bx4 (R.t F _) (R.b F _) (R.b F _)
 case While t a o p =>
  cases o
  ·exact bd0 (R.t F _) (R.b F _) F.po
  ·exact B1
 case For tg it a o p =>
  cases o
  ·unfold xS0 xFo
   dsimp only
   split
   ·rename_i h;exact bI0 (bx7 R F _ _) (R.g F _) (R.b F _) F.po F.calm (aK7 h _)
   ·exact B1
  ·exact B1
 case Assign ts v p =>
  unfold xS0 xAs
  dsimp only
  split
  ·exact bk8 R F _ _ _
  ·exact B1
 case Expr=>exact bz7 R F _ _
 case Continue=>exact br2
 case Break=>exact bI2
 case Pass=>exact br0
 all_goals exact B1
theorem bg8{st:Stmt}:∀(l:List Nat) {g:DS},JS X st g->JS X st (l.foldl (fun g i=>as0 i g) g)
 | [],_,h=>h
 | i::l,_,h=>bg8 l (bH9 i h)
theorem ae3(R:Sound S r) (F:Fit S c X) (st:Stmt):JS X st (xS S r c st):=by
 unfold xS fzW
 split
 ·exact aW6 R F st
 ·exact bg8 _ (aW6 R F st)
theorem ac8{f:Stmt->DS}(h:∀st,JS X st (f st)):∀sts,JSs X sts (evB f sts)
 | []=>bq6
 | [s]=>bq5 (h s)
 | s::t::M1=>bc8 (h s) (ac8 h (t::M1))
theorem bl8(R:Sound S r):Sound S (step S r) :=
 ⟨fun F=>bO6 R F,fun F=>bO3 R F,fun F=>bO4 R F,fun F=>bO2 R F,fun F=>bO5 R F,fun F=>ac8 (ae3 R F)⟩
theorem P1(S:Sg):∀n,Sound S (ev S n)
 | 0=>⟨fun _ _=>C5,fun _ _=>bx5,fun _ _=>v8,fun _ _=>ap2,fun _ _=>az8,fun _ _ ρ fl q=>by cases q⟩
 | n+1=>bl8 (P1 S n)
end
structure Fd where
 x:Str
 st:Stmt
 ps:List Str
 N:List Str
 own:List Nat:=[]
 tx:List Nat:=[]
 old:Bool:=false
 fz:List (Nat×List Nat):=[]
 hc:List ((Nat×Nat)×List Nat):=[]
def fdm(x:Str) (st:Stmt) (n:Nat) (N:List Str) (old:Bool:=false):Fd:={ x,st,ps:=N.take n,N,old }
def Fd.c(d:Fd):Kx:={ N:=d.N,sc:=C6 d.st,df:=true,own:=d.own,cpt:=[],tx:=d.tx,old:=d.old,fz:=d.fz,hc:=d.hc }
def Fd.okB(d:Fd):Bool:=let sc:=C6 d.st
 sc.kind == .function && !sc.isCoroutine && !sc.isGenerator&&ac6 d.N&&d.N.take d.ps.length==d.ps&&(d.ps.all fun x=>match sc.names.lookup x with|some .local=>true|some .cell=>true|_=>false)&&sc.names.all fun y=>match y.2 with | .free=>false|_=>true
theorem Fd.sc{d:Fd}(h:d.okB=true):FnScope d.N d.ps (C6 d.st):=by
 unfold Fd.okB at h
 simp only[Bool.and_eq_true,Bool.not_eq_true',beq_iff_eq,List.all_eq_true]at h
 obtain⟨⟨⟨⟨⟨⟨h1,h2⟩,h3⟩,h4⟩,h5⟩,h6⟩,h7⟩:=h
 refine⟨h1,h2,h3,ac5 h4,h5,fun x hx=>?_,fun y hy e=>?_⟩
 ·have:=h6 x hx
  split at this
  ·rename_i q;exact .inl q
  ·rename_i q;exact .inr q
  ·cases this
 ·have:=h7 y hy
  rw[e]at this
  cases this
def KF(K:PySem.W.Frag) (x:Str) (st:Stmt):Prop:=∃(f:Addr) (oc:Value) (od:Option Addr) (sl:Array (Option Value)) (kV dc pm:Value) (an:Option Addr) (cd ct:Value),
 PySem.W.nsIn K mainGlobals x=some (some (.ref f))/\K.lookup f=some ⟨oc,od,.func (PySem.W.fnOf x x (R1 st) (G5 st) (C6 st) .none kV dc pm an cd ct),sl⟩/\PySem.W.codeIn K cd x=true/\PySem.W.keepIn K (.ref f)=true
theorem bS7{K:PySem.W.Frag}{x:Str}{st:Stmt}{f:Addr}{oc:Value}{od:Option Addr}{sl:Array (Option Value)}{kV dc pm:Value}{an:Option Addr}{cd ct:Value}(a:PySem.W.nsIn K mainGlobals x=some (some (.ref f)))
  (l:K.lookup f=some ⟨oc,od,.func (PySem.W.fnOf x x (R1 st) (G5 st) (C6 st) .none kV dc pm an cd ct),sl⟩) (c:PySem.W.codeIn K cd x=true) (k:PySem.W.keepIn K (.ref f)=true):KF K x st:=⟨f,oc,od,sl,kV,dc,pm,an,cd,ct,a,l,c,k⟩
abbrev Tab:=List (Str×FnD×Nat)
section
variable {P:Program}{w:World}{K:PySem.W.Frag}{mg:Str->Option Value}{base:Heap}{cs:List (Str×D)}{bl:List Str}
structure Md (K:PySem.W.Frag) (mg:Str->Option Value) (cs:List (Str×D)) (bl:List Str):Prop where
 ns:∀x v,PySem.W.nsIn K mainGlobals x=some (some v)->mg x=some v
 css:∀x d,cs.lookup x=some d->∃u,aC3 K d u/\mg x=some u
 bls:∀x,bl.contains x=true->mg x=none
def TOk(P:Program) (w:World) (K:PySem.W.Frag) (mg:Str->Option Value) (base:Heap) (k:Nat) (tab:Tab):Prop:=∀x F n,tab.lookup x=some (F,n)->(∃(f:Addr) (fd:FuncData) (ps:List Str),
 FnOk P w K mg base CX0 k f fd ps (spF K n F)/\mg x=some (.ref f)/\PySem.W.keepIn K (.ref f)=true/\K3 K fd ps [])\/(mg x=none/\bN9 x F n)
theorem TOk.nil:TOk P w K mg base 0 []:=fun x F n h=>by cases h
theorem TOk.mono{j k:Nat}{tab:Tab}(T:TOk P w K mg base j tab) (h:j<=k):TOk P w K mg base k tab:=fun x F n e =>(T x F n e).imp (fun⟨f,fd,ps,h1,h2,h3,h4⟩=>⟨f,fd,ps,h1.mono h,h2,h3,h4⟩) id
def UA:Nat->(List Value->Prop)->Prop
 | 0,P=>P []
 | n+1,P=>∀a,UA n fun us=>P (a::us)
theorem ua:∀{n:Nat}{P:List Value->Prop},UA n P->∀us:List Value,us.length=n->P us
 | 0,_,h,[],_=>h
 | _+1,P,h,a::us,e=>ua (P:=fun us=>P (a::us)) (h a) us (Nat.succ.inj e)
def Bd(d:Fd):Prop:=∀(kV doc pm:Value) (an:Option Addr) (cdv ct:Value),UA d.ps.length fun us=>bindArgs (PySem.W.fnOf d.x d.x (R1 d.st) (G5 d.st) (C6 d.st) .none kV doc pm an cdv ct) ⟨us,[]⟩=pure (d.ps.zip us)
def rd(tab:Tab) (cs:List (Str×D)) (bl:List Str) (d:Fd):FnD:=C3 ((ev ⟨tab,cs,bl⟩ 99).b d.c (G5 d.st)) d.N.length
theorem aj9{k:Nat}{tab:Tab}{d:Fd}{f:Addr}{fd:FuncData}(M:Md K mg cs bl) (T:TOk P w K mg base k tab) (ok:d.okB=true) (Fn:Fun K d.x d.x d.st f fd):FnOk P w K mg base CX0 (k+1) f fd d.ps (spF K d.ps.length (rd tab cs bl d)):=by
 have Sc:=Fd.sc ok
 refine au5 (N:=d.N) Fn Sc fun cdv A outer s H E hr=>(P1 ⟨tab,cs,bl⟩ 99).b (c:=d.c) ?_ _
 refine⟨rfl,rfl,Sc.nd,rfl,rfl,hr.units,fun _=>⟨fun _=>rfl,Sc.kind⟩,fun x F n h=>?_,M.css,M.bls⟩
 exact(T x F n h).imp (fun⟨f',fd',ps,h1,h2,h3,h4⟩=>⟨k,f',fd',ps,h1,hr,h2,h3,h4⟩) id
theorem S1{x:Str}{st:Stmt}(h:KF K x st) (M:Md K mg cs bl):∃(f:Addr) (kV dc pm:Value) (an:Option Addr) (cd ct:Value),Fun K x x st f (PySem.W.fnOf x x (R1 st) (G5 st) (C6 st) .none kV dc pm an cd ct)/\mg x=some (.ref f):=by
 obtain⟨f,oc,od,sl,kV,dc,pm,an,cd,ct,a,l,cc,kk⟩:=h
 exact⟨f,kV,dc,pm,an,cd,ct,bL4 l cc kk,M.ns _ _ a⟩
theorem TOk.cons{k:Nat}{tab:Tab}{x:Str}{F:FnD}{n:Nat}(T:TOk P w K mg base k tab) (h:∃(f:Addr) (fd:FuncData) (ps:List Str),FnOk P w K mg base CX0 k f fd ps (spF K n F)/\mg x=some (.ref f)/\PySem.W.keepIn K (.ref f)=true/\K3 K fd ps []) :
  TOk P w K mg base k ((x,F,n)::tab):=fun y G m e=>by
 rw[List.lookup_cons]at e
 split at e
 ·rename_i q
  cases e
  simp only[beq_iff_eq]at q
  subst q
  exact .inl h
 ·exact T y G m e
theorem TOk.add{k:Nat}{tab:Tab}(T:TOk P w K mg base k tab) (M:Md K mg cs bl) (d:Fd) (h:KF K d.x d.st) (F:FnD) (e:rd tab cs bl d=F:=by kernel_rfl) (ok:d.okB=true:=by kernel_rfl) (bd:Bd d:=by repeat (first|exact rfl|intro _)):TOk P w K mg base (k+1) ((d.x,F,d.ps.length)::tab):=by
 subst e
 obtain⟨f,kV,dc,pm,an,cd,ct,Fn,hm⟩:=S1 h M
 exact(T.mono (Nat.le_succ k)).cons ⟨f,_,d.ps,aj9 M T ok Fn,hm,Fn.kp,.all (ua (bd kV dc pm an cd ct))⟩
theorem TOk.rec{k:Nat}{tab:Tab}(T:TOk P w K mg base k tab) (M:Md K mg cs bl) (d:Fd) (h:KF K d.x d.st) (F:Nat->FnD) (j:Nat) (e0:F 0=fun _=>none:=by rfl) (e:∀j,rd ((d.x,F j,d.ps.length)::tab) cs bl d=F (j+1):=by intro;kernel_rfl) (ok:d.okB=true:=by kernel_rfl) (bd:Bd d:=by repeat (first|exact rfl|intro _)) :
  TOk P w K mg base (k+j) ((d.x,F j,d.ps.length)::tab):=by
 obtain⟨f,kV,dc,pm,an,cd,ct,Fn,hm⟩:=S1 h M
 have bb:K3 K _ d.ps []:=.all (ua (bd kV dc pm an cd ct))
 have main:∀j,FnOk P w K mg base CX0 (k+j) f (PySem.W.fnOf d.x d.x (R1 d.st) (G5 d.st) (C6 d.st) .none kV dc pm an cd ct) d.ps (spF K d.ps.length (F j)):=fun j=>by
  induction j with
  | zero =>
   rw[e0]
   exact⟨fun vs H Q E h=>h.1,fun A outer s H args us vs Q E hr e0 hb hv hs=>by obtain⟨_,Hf,ds,d,_,_,e,_⟩:=hs;cases e⟩
  | succ j ih =>
   rw[← e j]
   exact aj9 M ((T.mono (Nat.le_add_right k j)).cons ⟨f,_,d.ps,ih,hm,Fn.kp,bb⟩) ok Fn
 exact(T.mono (Nat.le_add_right k j)).cons ⟨f,_,d.ps,main j,hm,Fn.kp,bb⟩
theorem TOk.rec2{k:Nat}{tab:Tab}(T:TOk P w K mg base k tab) (M:Md K mg cs bl) (d d':Fd) (h:KF K d.x d.st) (h':KF K d'.x d'.st) (F F':Nat->FnD) (j:Nat) (e0:F 0=fun _=>none:=by rfl) (e0':F' 0=fun _=>none:=by rfl)
  (e:∀j,rd ((d.x,F j,d.ps.length)::(d'.x,F' j,d'.ps.length)::tab) cs bl d=F (j+1):=by intro;kernel_rfl) (e':∀j,rd ((d.x,F j,d.ps.length)::(d'.x,F' j,d'.ps.length)::tab) cs bl d'=F' (j+1):=by intro;kernel_rfl) (ok:d.okB=true:=by kernel_rfl) (ok':d'.okB=true:=by kernel_rfl) (bd:Bd d:=by repeat (first|exact rfl|intro _)) (bd':Bd d':=by repeat (first|exact rfl|intro _)) :
  TOk P w K mg base (k+j) ((d.x,F j,d.ps.length)::(d'.x,F' j,d'.ps.length)::tab):=by
 obtain⟨f,kV,dc,pm,an,cd,ct,Fn,hm⟩:=S1 h M
 obtain⟨f',kV',dc',pm',an',cd',ct',Fn',hm'⟩:=S1 h' M
 have b1:K3 K _ d.ps []:=.all (ua (bd kV dc pm an cd ct))
 have b2:K3 K _ d'.ps []:=.all (ua (bd' kV' dc' pm' an' cd' ct'))
 have none_ok:∀{f:Addr}{fd:FuncData}{ps:List Str},FnOk P w K mg base CX0 (k+0) f fd ps (spF K ps.length fun _=>none):=fun{f fd ps} =>⟨fun vs H Q E h=>h.1,fun A outer s H args us vs Q E hr e0 hb hv hs=>by obtain⟨_,Hf,ds,d,_,_,e,_⟩:=hs;cases e⟩
 have main:∀j,TOk P w K mg base (k+j) ((d.x,F j,d.ps.length)::(d'.x,F' j,d'.ps.length)::tab):=fun j=>by
  induction j with
  | zero=>rw[e0,e0'];exact((T.mono (Nat.le_refl _)).cons ⟨f',_,d'.ps,none_ok,hm',Fn'.kp,b2⟩).cons ⟨f,_,d.ps,none_ok,hm,Fn.kp,b1⟩
  | succ j ih =>
   have o1:=aj9 M ih ok Fn
   have o2:=aj9 M ih ok' Fn'
   rw[e j]at o1
   rw[e' j]at o2
   exact((T.mono (Nat.le_add_right k (j+1))).cons ⟨f',_,d'.ps,o2,hm',Fn'.kp,b2⟩).cons ⟨f,_,d.ps,o1,hm,Fn.kp,b1⟩
 exact main j
theorem TOk.rec3{k:Nat}{tab:Tab}(T:TOk P w K mg base k tab) (M:Md K mg cs bl) (d1 d2 d3:Fd) (h1:KF K d1.x d1.st) (h2:KF K d2.x d2.st) (h3:KF K d3.x d3.st) (F1 F2 F3:Nat->FnD) (j:Nat) (z1:F1 0=fun _=>none:=by rfl) (z2:F2 0=fun _=>none:=by rfl) (z3:F3 0=fun _=>none:=by rfl)
  (e1:∀j,rd ((d1.x,F1 j,d1.ps.length)::(d2.x,F2 j,d2.ps.length)::(d3.x,F3 j,d3.ps.length)::tab) cs bl d1=F1 (j+1):=by intro;kernel_rfl) (e2:∀j,rd ((d1.x,F1 j,d1.ps.length)::(d2.x,F2 j,d2.ps.length)::(d3.x,F3 j,d3.ps.length)::tab) cs bl d2=F2 (j+1):=by intro;kernel_rfl) (e3:∀j,rd ((d1.x,F1 j,d1.ps.length)::(d2.x,F2 j,d2.ps.length)::(d3.x,F3 j,d3.ps.length)::tab) cs bl d3=F3 (j+1):=by intro;kernel_rfl) (ok1:d1.okB=true:=by kernel_rfl) (ok2:d2.okB=true:=by kernel_rfl) (ok3:d3.okB=true:=by kernel_rfl) (q1:Bd d1:=by repeat (first|exact rfl|intro _)) (q2:Bd d2:=by repeat (first|exact rfl|intro _)) (q3:Bd d3:=by repeat (first|exact rfl|intro _)) :
  TOk P w K mg base (k+j) ((d1.x,F1 j,d1.ps.length)::(d2.x,F2 j,d2.ps.length)::(d3.x,F3 j,d3.ps.length)::tab):=by
 obtain⟨f1,a1,a2,a3,a4,a5,a6,Fn1,hm1⟩:=S1 h1 M
 obtain⟨f2,c1,c2,c3,c4,c5,c6,Fn2,hm2⟩:=S1 h2 M
 obtain⟨f3,g1,g2,g3,g4,g5,g6,Fn3,hm3⟩:=S1 h3 M
 have b1:K3 K _ d1.ps []:=.all (ua (q1 a1 a2 a3 a4 a5 a6))
 have b2:K3 K _ d2.ps []:=.all (ua (q2 c1 c2 c3 c4 c5 c6))
 have b3:K3 K _ d3.ps []:=.all (ua (q3 g1 g2 g3 g4 g5 g6))
 have none_ok:∀{f:Addr}{fd:FuncData}{ps:List Str},FnOk P w K mg base CX0 (k+0) f fd ps (spF K ps.length fun _=>none):=fun{f fd ps} =>⟨fun vs H Q E h=>h.1,fun A outer s H args us vs Q E hr e0 hb hv hs=>by obtain⟨_,Hf,ds,d,_,_,e,_⟩:=hs;cases e⟩
 induction j with
 | zero=>rw[z1,z2,z3];exact(((T.mono (Nat.le_refl _)).cons ⟨f3,_,d3.ps,none_ok,hm3,Fn3.kp,b3⟩).cons ⟨f2,_,d2.ps,none_ok,hm2,Fn2.kp,b2⟩).cons ⟨f1,_,d1.ps,none_ok,hm1,Fn1.kp,b1⟩
 | succ j ih =>
  have o1:=aj9 M ih ok1 Fn1
  have o2:=aj9 M ih ok2 Fn2
  have o3:=aj9 M ih ok3 Fn3
  rw[e1 j]at o1
  rw[e2 j]at o2
  rw[e3 j]at o3
  exact(((T.mono (Nat.le_add_right k (j+1))).cons ⟨f3,_,d3.ps,o3,hm3,Fn3.kp,b3⟩).cons ⟨f2,_,d2.ps,o2,hm2,Fn2.kp,b2⟩).cons ⟨f1,_,d1.ps,o1,hm1,Fn1.kp,b1⟩
end
theorem ak0{K:PySem.W.Frag}{h:Heap}{C:Addr}{bb:List Value}{nid:String}(kin:K.In h) (q:PySem.W.excIn K C bb nid=true) :
  ∃nm qn N bs bm hd sn sub ab col dd k0 k1 k2 k3 k5 mN,h.get? C=some (excClassObj nm qn C N bs bm hd sn sub ab col dd k0 k1 k2 k3 k5 nid)/\h.Ns N mN/\mN "__init__" = none/\OwnTail h bb bm:=by
 unfold PySem.W.excIn at q
 split at q
 case h_2=>cases q
 rename_i d0 c0 sl0 lk
 split at q
 case h_2=>cases q
 rename_i C1 tl p0 p1 p2 p3 n1 p5 e1 e2
 simp only[Bool.and_eq_true,beq_iff_eq,Bool.not_eq_true']at q
 obtain⟨⟨⟨⟨⟨q1,q2⟩,q3⟩,q4⟩,q5⟩,q6⟩:=q
 subst q1 q2
 obtain⟨f1,f2,f3,f4,f5,f6,f7,f8,f9,f10,f11⟩:=c0
 dsimp only at e1 q3 q5 q6
 subst e1 q3
 obtain⟨sll⟩:=sl0
 dsimp only at e2
 subst e2
 exact⟨f1,f5,f4,f2,tl,f6,f7,f8,f9,f10,d0,p0,p1,p2,p3,p5,_,kin _ _ lk,.of_isNs (PySem.W.isNs_of_in kin q5),PySem.W.nsMap_none_of_in kin q5 q6,PySem.W.tail_of_in kin q4⟩
structure Fly (R:Addr->Prop) (l:List Env) (g B:Heap) (C a:Addr) (h:Heap):Prop where
 keep:∀b o,R b->g.get? b=some o->b∉frs l->B.get? b=some o
 fly:∃t,Heap.FlyingW B l a (.ref C) (.ref t) h
 sl:∀b o,g.get? b=some o->b∈frs l->∃z,h.get? b=some { o with slots:=z }
def Rl(s:Shared) (H':Hp) (b:Addr):Prop:=s.heap.get? b≠none\/H' b≠none
def CX1(P:Program) (w:World):CXT:=fun outer H s E e s'=>∃a C g B H',e=.ref a/\s'.os=s.os/\AllBare s'.gens/\Un (frs outer) [] H H' s.heap g/\HOk P w H' g/\Fly (Rl s H') outer g B C a s'.heap/\E (.ref C) none H'
section
variable {X:Cx}{pins:List (Addr×Obj)}{σ:L2.St}{H H':Hp}{s s':Shared}{g B:Heap}
theorem bt9(I:Inv X pins σ H s) (os:s'.os=s.os) (bare:AllBare s'.gens) (un:Un (frs X.stack) [] H H' s.heap g) (hok:HOk X.prog X.w H' g) (keep:∀b o,Rl s H' b->g.get? b=some o->b∉frs X.stack->B.get? b=some o)
  (hB:B.StaysIn s'.heap) (sl:∀b o,g.get? b=some o->b∈frs X.stack->∃z,s'.heap.get? b=some { o with slots:=z }):Inv X pins σ H' s':=by
 have nx:∀b:Addr,b∉([]:List Addr):=fun b z=>absurd z (by simp)
 refine I.call' (ch:=[]) os ⟨fun b o e n m z=>hB b o (keep b o (.inl (by rw[e];simp)) (un.keep b o e n m z) m),fun b o e n m z=>?_,un.free,fun b o e z=>?_,un.tups,un.frzs,un.tbls⟩ ?_ bare (fun b z=>absurd z (nx b))
 ·obtain⟨z1,q⟩:=un.slot b o e n m z
  obtain⟨z2,q2⟩:=sl b _ q m
  exact⟨z2,q2⟩
 ·obtain⟨o',q⟩:=un.there b o e z
  by_cases m:b∈frs X.stack
  ·obtain⟨z2,q2⟩:=sl b _ q m;exact⟨_,q2⟩
  ·exact⟨o',hB b o' (keep b o' (.inl (by rw[e];simp)) q m)⟩
 ·intro a o e
  have fr0:∀b,b∈frs X.stack->H' b=none:=fun b m=>by
   obtain⟨_,o1,h1,_⟩:=I.stack.mem m
   exact un.free b o1 h1 (I.stkFree b m) (nx b)
  refine(hok a o e).stay (fun b u hb q=>?_) (fun _ q=>q) fun _ _ q=>q
  have hn:H' b≠none:=by
   rcases hb with rfl|hb
   ·rw[e];simp
   ·rw[hb];simp
  exact hB b u (keep b u (.inr hn) q fun m=>hn (fr0 b m))
end
section
variable {P:Program}{w:World}{K:PySem.W.Frag}{mg:Str->Option Value}{base:Heap}{N:List Str}{qual:Str}{scope:Scope}{f:Addr}{cd:Value}{A:Around}{outer:List Env}{s:Shared}{H H1:Hp}{E:XK}
 {pins:List (Addr×Obj)}{σ:L2.St}{s1 s':Shared}{h2:Heap}{a C:Addr}{vs:List Value}
abbrev cx1(P:Program) (w:World) (K:PySem.W.Frag) (mg:Str->Option Value) (base:Heap) (N:List Str) (qual:Str) (scope:Scope) (f:Addr) (cd:Value) (A:Around) (outer:List Env) (s:Shared) (H:Hp) (E:XK):Cx:=am9 (CX1 P w) P w K mg base N qual scope f cd A outer s H E
theorem bw5(I:Inv (cx1 P w K mg base N qual scope f cd A outer s H E) pins σ H1 s1) {b:Addr}(r:Rl s H1 b):b≠s.heap.objs.size:=by
 rintro rfl
 rcases r with r|r
 ·exact r (Heap.get?_none_of_le (Nat.le_refl _))
 ·exact r I.free
theorem ao6{b:Addr}(h1:b∉frs outer) (h2:b≠s.heap.objs.size):b∉frs (cx1 P w K mg base N qual scope f cd A outer s H E).stack:=fun m=>by
 have m:b∈s.heap.objs.size::frs outer:=m
 rcases List.mem_cons.mp m with z|z
 ·exact h2 z
 ·exact h1 z
theorem az6(I:Inv (cx1 P w K mg base N qual scope f cd A outer s H E) pins σ H1 s1) (hm:Heap.MadeExcOf s1.heap h2 a (.ref C) vs) (hE:E (.ref C) none H1):(cx1 P w K mg base N qual scope f cd A outer s H E).xe (.ref a) { s1 with heap:=h2 }:=by
 have hin:∀env∈(cx1 P w K mg base N qual scope f cd A outer s H E).stack,∀b,env.frame=some b->b∈frs (cx1 P w K mg base N qual scope f cd A outer s H E).stack:=fun env he b hb=>List.mem_filterMap.mpr ⟨env,he,hb⟩
 refine wpAny_leaves_madeW (base:=PySem.W.hideAll s1.heap (frs (cx1 P w K mg base N qual scope f cd A outer s H E).stack)) (h:=s1.heap) (outer:=outer) I.ok.frames rfl (fun b o q=>PySem.W.of_hideAll _ q) (PySem.W.funFrames_hide I.stack hin) hm fun h' t x1 _ _ x4=>?_
 refine⟨a,C,s1.heap,_,H1,rfl,I.os,I.bare,I.base,I.hok,⟨fun b o r e m=>PySem.W.hideAll_get _ e (ao6 m (bw5 I r)),⟨t,x1⟩,fun b o e m=>?_⟩,hE⟩
 obtain⟨_,o',e',hd⟩:=I.stack.mem (xmm _ m)
 rw[e]at e';cases e'
 exact x4 b o (hm.keeps b o e) hd
theorem aL1(I:Inv (cx1 P w K mg base N qual scope f cd A outer s H E) pins σ H1 s1) {e:Value}(hx:CX1 P w (cx1 P w K mg base N qual scope f cd A outer s H E).stack H1 s1 E e s'):(cx1 P w K mg base N qual scope f cd A outer s H E).xe e s':=by
 obtain⟨a,C,g,B,H',rfl,os,bare,un,hok,F,hE⟩:=hx
 have J:Inv (cx1 P w K mg base N qual scope f cd A outer s H E) pins σ H' { s' with heap:=g }:=I.call' (s':={ s' with heap:=g }) (ch:=[]) os un hok bare (fun b z=>absurd z (by simp))
 obtain⟨t,fl⟩:=F.fly
 refine wpAny_leaves_onW (outer:=outer) I.ok.frames rfl fl fun h' x1 x2=>?_
 have up:∀b,Rl s H' b->Rl s1 H' b:=fun b r=>r.imp (fun z q=>by
  cases e:s.heap.get? b with
  | none=>exact z e
  | some o =>
   obtain⟨o',q'⟩:=I.base.there b o e (fun z=>absurd (show b∈([]:List Addr) from z) (by simp))
   rw[q]at q';cases q') id
 refine⟨a,C,g,B,H',rfl,J.os,bare,J.base,J.hok,⟨fun b o r e m=>F.keep b o (up b r) e (ao6 m (bw5 J r)),⟨t,x1⟩,fun b o e m=>?_⟩,hE⟩
 obtain⟨z,e2⟩:=F.sl b o e (xmm _ m)
 obtain⟨_,o',e',hd⟩:=J.stack.mem (xmm _ m)
 have e':g.get? b=some o':=e'
 rw[e]at e';cases e'
 obtain⟨z2,q⟩:=x2 b _ e2 hd
 exact⟨z2,q⟩
end
abbrev veB:List Value:=[.type "ValueError", .type "Exception", .type "BaseException", .type "object"]
def V5(K:PySem.W.Frag) (x:Str):Bool:=match clA K x with
 | some C=>PySem.W.excIn K C veB "ValueError.__new__"
 | none=>false
abbrev RD:=Rho->Option (Str×Rho)
def EC(C:Addr) (H1:Hp):XK:=fun cls _ H'=>cls=.ref C/\D0 H1 H'
def Ou(X:Cx) (m:Bool) (pins:List (Addr×Obj)) (ρ1:Rho) (C:Addr) (H0 Hf0:Hp) (e:Value) (s':Shared):Prop:=∃σ1 H1 Hf1 s1,Inv X pins σ1 H1 s1/\At X.K H0 Hf0 ρ1 σ1 H1 Hf1 /\
 ((m=true/\∃h' a vs,s'={ s1 with heap:=h' }/\e=.ref a/\Heap.MadeExcOf s1.heap h' a (.ref C) vs)\/CX1 X.prog X.w X.stack H1 s1 (EC C H1) e s')
def Lo(X:Cx) (C:Addr) (H0:Hp) (e:Value) (s':Shared):Prop:=wpAny (model X.prog X.w) X.A (leaving X.env e) (fun _ s''=>CX1 X.prog X.w X.outer X.H₀ X.s₀ (EC C H0) e s'') (fun e' s''=>CX1 X.prog X.w X.outer X.H₀ X.s₀ (EC C H0) e' s'') s'
def Ot(X:Cx) (m:Bool) (pins:List (Addr×Obj)) (ρ1:Rho) (C:Addr) (H0 Hf0:Hp) (e:Value) (s':Shared):Prop:=Ou X m pins ρ1 C H0 Hf0 e s'\/(m=true/\Lo X C H0 e s')
def JR(X:Cx) (m:Bool) (st:Stmt) (r:RD):Prop:=∀ρ x ρ1 C,r ρ=some (x,ρ1)->clA X.K x=some C->∀H0 Hf0 pins s σ H Hf,Inv X pins σ H s->At X.K H0 Hf0 ρ σ H Hf ->
 wpAny (model X.prog X.w) X.A (exec st X.env) (fun _ _=>False) (Ot X m pins ρ1 C H0 Hf0) s
def JRs(X:Cx) (m:Bool) (sts:List Stmt) (r:RD):Prop:=∀ρ x ρ1 C,r ρ=some (x,ρ1)->clA X.K x=some C->∀H0 Hf0 pins s σ H Hf,Inv X pins σ H s->At X.K H0 Hf0 ρ σ H Hf ->
 wpAny (model X.prog X.w) X.A (execs sts X.env) (fun _ _=>False) (Ot X m pins ρ1 C H0 Hf0) s
def PX(X:Cx) (m:Bool) (e:Expr) (r:RD):Prop:=∀ρ x ρ1 C,r ρ=some (x,ρ1)->clA X.K x=some C->∀H0 Hf0 pins s σ H Hf,Inv X pins σ H s->At X.K H0 Hf0 ρ σ H Hf ->
 wpAny (model X.prog X.w) X.A (eval e X.env) (fun _ _=>False) (Ot X m pins ρ1 C H0 Hf0) s
theorem noX{α:Type}{t:Sem α}{Q Q':α->Shared->Prop}{M:Model}{A:Around}{E E':Value->Shared->Prop}{s:Shared}(hx:∀e s,E e s->False) (h:wpAny M A t Q E s) (hQ:∀a s,Q a s->Q' a s):wpAny M A t Q' E' s:=wpAny_mono h hQ fun e s z=>(hx e s z).elim
section
variable {X:Cx}{m:Bool}(hx:∀e s,X.xe e s->False)
include hx
def as7(x:Str) (f:DE):RD:=fun ρ=>(f ρ).map fun _=>(x,ρ)
theorem bd4{x:Str}{e:Expr}{f:DE}{np cpos pos:Pos}(hq:V5 X.K x=true) (hg:Gl X x) (hm:∀C,clA X.K x=some C->X.mg x=some (.ref C)) (hc:X.calm=true) (he:JE X e f) (hd:(x==("__debug__" : Str))=false)
  (hs:starEach [e] X.env=[(false,eval e X.env)]):JR X true (.Raise (some (.Call (.Name x np) [e] [] cpos)) none pos) (as7 x f):=by
 intro ρ y ρ1 C q hC H0 Hf0 pins s σ H Hf I at_
 obtain⟨d,q1,q2⟩:=xmo q
 cases q2
 have hq:PySem.W.excIn X.K C veB "ValueError.__new__" = true:=by unfold V5 at hq;rw[hC]at hq;exact hq
 obtain⟨nm,qn,N,bs,bm,hd',sn,sub,ab,col,dd,k0,k1,k2,k3,k5,mN,g1,g2,g3,g4⟩:=ak0 I.mod.kin hq
 refine wpAny_Raise_call_subT (C:=C) (bm:=bm) (nm:=nm) (q:=qn) (N:=N) (bs:=bs) (hdct:=hd') (sn:=sn) (sub:=sub) (ab:=ab) (col:=col) (dd:=dd) (k0:=k0) (k1:=k1) (k2:=k2) (k3:=k3) (k5:=k5) F.excBase_ValueError (g4.hasType (by decide)) (I.ok.hd hc) (by rw[hs];rfl) g3 ?_
 refine W7 I hg (hm C hC) ⟨rfl,?_⟩ hd
 have hA:=(aM4 he bf2 (by rw[hs];rfl)).run ρ [d] (by simp only[A0,A3,q1,xbs,xms]) cpos pins s σ H (fun vs H'=>(∃Hf',At X.K H0 Hf0 ρ σ H' Hf')/\vs.length=1) I ⟨H0,Hf,at_.gr.sub,at_.sl,fun vs H' Hf' gr rs=>⟨⟨Hf',at_.grow gr⟩,rs.length⟩⟩
 rw[hs]at hA ⊢
 refine Calls.evalArgs_plain (noX hx hA fun us s2 ⟨vs,H2,I2,r2,⟨Hf2,a2⟩,l1⟩=>?_)
 have ln:us.length=1:=by rw[← r2.length];exact l1
 exact⟨rfl,by show us.length<=_;rw[ln];decide,I2.bk _ _ g1,g2.keeps I2.bk,g4.keeps I2.bk,fun h' a hm'=>.inl ⟨σ,H2,Hf2,s2,I2,a2,.inl ⟨rfl,h',a,us,rfl,rfl,hm'⟩⟩⟩
def rNo:RD:=fun _=>none
omit hx in
theorem X1{st:Stmt}:JR X m st rNo:=fun ρ x ρ1 C q=>by cases q
omit hx in
theorem bI4{sts:List Stmt}:JRs X m sts rNo:=fun ρ x ρ1 C q=>by cases q
def rIf(t:Rho->Option Bool) (a b:RD):RD:=fun ρ=>(t ρ).bind fun c=>if c=true then a ρ else b ρ
theorem bT0{c:Expr}{a b:List Stmt}{t:Rho->Option Bool}{f g:RD}{pos:Pos}(hc:JT X c t) (ha:JRs X m a f) (hb:JRs X m b g):JR X m (.If c a b pos) (rIf t f g):=by
 intro ρ x ρ1 C q hC H0 Hf0 pins s σ H Hf I at_
 obtain⟨d,q1,q2⟩:=xbo q
 refine wpAny_If (noX hx (hc ρ d q1 pins s σ H (fun d' H'=>d'=d/\∃Hf',Grow H Hf H' Hf') I ⟨H0,Hf,at_.gr.sub,at_.sl,fun H' Hf' gr=>⟨rfl,Hf',gr⟩⟩) fun d' s1 ⟨H1,I1,e,Hf1,gr⟩=>?_)
 subst e
 cases d' with
 | true=>exact ha ρ x ρ1 C q2 hC H0 Hf0 pins s1 σ H1 Hf1 I1 (at_.grow gr)
 | false=>exact hb ρ x ρ1 C q2 hC H0 Hf0 pins s1 σ H1 Hf1 I1 (at_.grow gr)
def af7(r:RD) (f:DS) (r2:RD):RD:=fun ρ=>match r ρ with
 | some x=>some x
 | none=>match f ρ with
  | some (.nx ρ')=>r2 ρ'
  | _=>none
theorem bd3{st:Stmt}{sts:List Stmt}{r r2:RD}{f:DS}(h1:JR X m st r) (h2:JS X st f) (h3:JRs X m sts r2):JRs X m (st::sts) (af7 r f r2):=by
 intro ρ x ρ1 C q hC H0 Hf0 pins s σ H Hf I at_
 unfold af7 at q
 split at q
 ·rename_i y e
  cases q
  exact wpAny_execs_cons (thn (h1 ρ x ρ1 C e hC H0 Hf0 pins s σ H Hf I at_) fun _ _ z=>z.elim)
 ·split at q
  ·rename_i ρ' e
   refine wpAny_execs_cons (noX hx (h2 ρ _ e H0 Hf0 pins s σ H { nx:=fun σ' H'=>∃Hf',At X.K H0 Hf0 ρ' σ' H' Hf',rt:=fun _ _=>False } I ⟨Hf,at_,fun σ' H' Hf' a _=>⟨Hf',a⟩⟩) fun fl s1 z=>?_)
   cases fl with
   | next =>
    obtain⟨σ1,H1,I1,Hf1,a1⟩:=z
    exact h3 ρ' x ρ1 C q hC H0 Hf0 pins s1 σ1 H1 Hf1 I1 a1
   | ret v=>obtain⟨_,_,_,_,_,z⟩:=z;exact z.elim
   | brk=>obtain⟨_,_,_,z⟩:=z;exact z.elim
   | cont=>obtain⟨_,_,_,z⟩:=z;exact z.elim
  ·cases q
omit hx in
theorem br4{st:Stmt}{r:RD}(h1:JR X m st r):JRs X m [st] r:=fun ρ x ρ1 C q hC H0 Hf0 pins s σ H Hf I at_ =>wpAny_execs_cons (thn (h1 ρ x ρ1 C q hC H0 Hf0 pins s σ H Hf I at_) fun _ _ z=>z.elim)
def spR(K:PySem.W.Frag) (n:Nat) (R:List D->Option Str):Sp:=fun vs H _ E=>vs.length=n/\∃Hf ds x C,D0 Hf H/\Reps K Hf ds vs/\R ds=some x/\clA K x=some C/\∀H',D0 H H'->E (.ref C) none H'
def X0(R:List D->Option Str) (g:Rho->Option (List D)):RD:=fun ρ=>(g ρ).bind fun ds=>(R ds).map fun x=>(x,ρ)
theorem bm6{k:Nat}{f:Addr}{fd:FuncData}{ps:List Str}{n:Nat}{R:List D->Option Str}{x:Str}{e:Expr}{es:List Expr}{g:Rho->Option (List D)}{p pos:Pos}(Fk:FnOk X.prog X.w X.K X.mg X.base (CX1 X.prog X.w) k f fd ps (spR X.K n R)) (hr:Room k X.A) (hg:Gl X x) (hm:X.mg x=some (.ref f)) (hk:PySem.W.keepIn X.K (.ref f)=true) (hb:K3 X.K fd ps [])
  (ha:JA X (e::es) g) (hn:(e::es).length=n) (hdb:(x==("__debug__" : Str))=false) (he:starEach (e::es) X.env=(false,eval e X.env)::starEach es X.env) (hpl:(backTo pos (starEach es X.env)).any (·.1)=false) :
  PX X m (.Call (.Name x p) (e::es) [] pos) (X0 R g):=by
 intro ρ y ρ1 C q hC H0 Hf0 pins s σ H Hf I at_
 obtain⟨ds,h1,h2⟩:=xbo q
 obtain⟨y',h4,h3⟩:=xmo h2
 cases h3
 refine wpAny_Call_Name_kw (W7 I hg hm ?_ hdb)
 refine PySem.W.callWith_K (h₀:=X.base) I.ok.mod.kin hk (noX hx (ha.run ρ ds h1 pos pins s σ H (fun vs H'=>∃Hf',At X.K H0 Hf0 ρ σ H' Hf'/\Reps X.K Hf' ds vs) I ⟨H0,Hf,at_.gr.sub,at_.sl,fun vs H1 Hf1 g1 r1=>⟨Hf1,at_.grow g1,r1⟩⟩) fun us s1 ⟨vs,H1,I1,r,Hf1,a1,rp⟩=>⟨I1.kIn,?_⟩) he hpl
 have hl:vs.length=n:=by rw[rp.length,ha.len ρ ds h1,hn]
 have sp:spR X.K n R vs H1 (fun _ _=>False) (EC C H1):=⟨hl,Hf1,ds,y,C,a1.gr.sub,rp,h4,hC,fun H' sm=>⟨rfl,sm⟩⟩
 have hl2:us.length=ps.length:=by rw[← r.length];exact Fk.len vs H1 (fun _ _=>False) (EC C H1) sp
 have bd:BindsTo s1 fd ⟨us,[]⟩ (ps.zip us):=by
  have:=hb s1 us I1.kIn (by rw[List.append_nil];exact hl2)
  rwa [List.append_nil]at this
 refine wpAny_call (codeAny_mono (Fk.run X.A X.stack s1 H1 ⟨us,[]⟩ us vs (fun _ _=>False) (EC C H1) hr I1.env0 bd r sp) fun rs s' hq=>?_)
 cases rs with
 | error e=>exact .inl ⟨σ,H1,Hf1,s1,I1,a1,.inr hq⟩
 | ok fl =>
  cases fl with
  | ret u=>obtain⟨_,_,_,_,_,_,_,z⟩:=hq;exact z.elim
  | next=>exact False.elim hq
  | brk=>exact False.elim hq
  | cont=>exact False.elim hq
omit hx in
theorem br5{e:Expr}{r:RD}{pos:Pos}(h:PX X m e r) (hs:swapsWith e none pos.line X.env=pure false):JR X m (.Expr e pos) r:=fun ρ x ρ1 C q hC H0 Hf0 pins s σ H Hf I at_ =>wpAny_Expr_any (thn (h ρ x ρ1 C q hC H0 Hf0 pins s σ H Hf I at_) fun _ _ z=>z.elim) I.quiet hs
omit hx in
theorem bI6{e:Expr}{r:RD}{pos:Pos}(h:PX X m e r):JR X m (.Return (some e) pos) r:=fun ρ x ρ1 C q hC H0 Hf0 pins s σ H Hf I at_ =>wpAny_Return_some (thn (h ρ x ρ1 C q hC H0 Hf0 pins s σ H Hf I at_) fun _ _ z=>z.elim)
omit hx in
theorem bI5{x:Str}{e:Expr}{r:RD}{pos pos':Pos}(h:PX X m e r) (hs:swapsWith e (some (.Name x pos')) pos.line X.env=pure false):JR X m (.Assign [.Name x pos'] e pos) r:=fun ρ y ρ1 C q hC H0 Hf0 pins s σ H Hf I at_ =>wpAny_Assign_Name (thn (h ρ y ρ1 C q hC H0 Hf0 pins s σ H Hf I at_) fun _ _ z=>z.elim) hs
end
theorem CX1.mono{P:Program}{w:World}{outer:List Env}{H:Hp}{s:Shared}{E E':XK}{e:Value}{s':Shared}(h:CX1 P w outer H s E e s') (m:∀cls H',E cls none H'->E' cls none H'):CX1 P w outer H s E' e s':=by
 obtain⟨a,C,g,B,H',q1,q2,q3,q4,q5,q6,q7⟩:=h
 exact⟨a,C,g,B,H',q1,q2,q3,q4,q5,q6,m _ _ q7⟩
def as3(r:RD) (n:Nat):List D->Option Str:=fun ds=>(r (L6 n ds)).map (·.1)
theorem bh0{P:Program}{w:World}{K:PySem.W.Frag}{mg:Str->Option Value}{base:Heap}{x qual:Str}{st:Stmt}{f:Addr}{fd:FuncData}{N ps:List Str}{k:Nat}{r:RD}(F:Fun K x qual st f fd) (S:FnScope N ps (C6 st))
  (hb:∀(cdv:Value) (A:Around) (outer:List Env) (s:Shared) (H:Hp) (E:XK),Room k (A.deeper (envOfC qual (C6 st) s.heap.objs.size f cdv))->JRs (cx1 P w K mg base N qual (C6 st) f cdv A outer s H E).nox true (G5 st) r) :
  FnOk P w K mg base (CX1 P w) (k+1) f fd ps (spR K ps.length (as3 r N.length)):=by
 obtain⟨oc,od,kV,doc,pm,an,cdv,ct,osl,rfl,lk,hcd⟩:=F.ex
 refine ap6 lk hcd S (fun vs H Q E h=>h.1) fun A outer s H vs Q E hr hsp=>?_
 obtain⟨hlen,Hf,ds,y,C,ss,rp,e,hC,hE⟩:=hsp
 obtain⟨⟨y',ρ1⟩,e1,e2⟩:=xmo e
 cases e2
 refine⟨fun _ σ H'=>σ=L2.S9 N vs/\H'=H,fun pins s1 σ H1 D I z=>?_,rfl,rfl⟩
 obtain⟨rfl,rfl⟩:=z
 refine wpAny_mono (hb cdv A outer s H1 E hr (L6 N.length ds) y' ρ1 C e1 hC H1 Hf pins s1 _ H1 Hf (I.wish _) ⟨Grow.refl ss,X8 rp⟩) (fun _ _ z=>z.elim) fun ex s' ho=>?_
 rcases ho with ho|⟨_,lo⟩
 case inr =>exact wpAny_mono lo (fun _ s'' z=>CX1.mono z fun cls H' q=>by obtain⟨rfl,sm⟩:=q;exact hE H' sm) fun e' s'' z=>CX1.mono z fun cls H' q=>by obtain⟨rfl,sm⟩:=q;exact hE H' sm
 obtain⟨σ1,H2,Hf2,s2,I2,a2,o⟩:=ho
 have I2:=I2.unwish
 rcases o with⟨_,h',a,vs',rfl,rfl,hm⟩|hc
 ·exact az6 I2 hm (hE H2 a2.gr.big)
 ·refine aL1 I2 ?_
  obtain⟨a,C',g,B,H',q1,q2,q3,q4,q5,q6,q7,q8⟩:=hc
  cases q7
  exact⟨a,C,g,B,H',q1,q2,q3,q4,q5,q6,hE H' (a2.gr.big.trans q8)⟩
section
variable {M:Model}{A:Around}{E:Value->Shared->Prop}{h:Heap}{g:Array GenState}{d:Drawn}{t:Nat}{os:OsState}
variable {nm qn nm2 qn2:Str}{C N D N2:Addr}{bs bm bs2 bm2:List Value}{hd hd2:Bool}{sn sn2:List Str}{sub sub2:List Value}{ab ab2:Bool}{col col2:Option Bool}{dd dd2:Option Addr}{k0 k1 k2 k3 k5 j0 j1 j2 j3 j5:Option Value}{nid nid2:String}
theorem bZ0{e:Addr}{oe:Obj}{Q:Bool->Shared->Prop}(hC:h.get? C=some (excClassObj nm qn C N bs bm hd sn sub ab col dd k0 k1 k2 k3 k5 nid)) (hD:h.get? D=some (excClassObj nm2 qn2 D N2 bs2 bm2 hd2 sn2 sub2 ab2 col2 dd2 j0 j1 j2 j3 j5 nid2))
  (he:h.get? e=some oe) (hcls:oe.cls=.ref C) (hb:bm2.contains (.type "BaseException")=true) (hq:Q ((Value.ref C::bm).contains (.ref D)) ⟨h,g,d,t,os⟩):wpAny M A (excMatches (.ref e) (.ref D)) Q E ⟨h,g,d,t,os⟩:=by
 have cB:(Value.ref D::bm2).contains (.type "BaseException")=true:=by rw[List.contains_cons,hb,Bool.or_true]
 have f:=tc_notTuple
 generalize hb:(Value.ref C::bm).contains (.ref D)=b at hq
 unfold excMatches
 repeat (first|(with_reducible refine wpAny_loadPart_at he ?_;rw[hcls])|with_reducible refine wpAny_loadPart_at hD ?_|(with_reducible refine wpAny_isSubtype_exc hD ?_;rw[cB])|(with_reducible refine wpAny_isSubtype_exc hC ?_;rw[hb])|wp_step)
 cases b<;>(wp_walk;exact hq)
end
abbrev Cx.held(X:Cx) (e:Value):Cx:={ X with A:=X.A.mark (some e),calm:=false }
section
variable {X:Cx}{pins:List (Addr×Obj)}{σ:L2.St}{H:Hp}{s:Shared}
theorem Inv.held(I:Inv X pins σ H s) (e:Value):Inv (Cx.held X e) pins σ H s :=
 ⟨⟨I.ok.mod,I.ok.kind,I.ok.glob,I.ok.blt,I.ok.above,I.ok.inj,I.ok.has,I.ok.cab,(fun z=>by cases z),I.ok.frames,I.ok.stk,I.ok.exf,I.ok.bs,I.ok.bsz,I.ok.noex,I.ok.exfs,I.ok.funs,I.ok.frf⟩,I.os,I.bare,I.base,I.loc,I.cell,I.free,I.freeC,I.pin,I.hok,I.len⟩
theorem Inv.unheld{e:Value}(I:Inv (Cx.held X e) pins σ H s) (ok:X.Ok):Inv X pins σ H s:=⟨ok,I.os,I.bare,I.base,I.loc,I.cell,I.free,I.freeC,I.pin,I.hok,I.len⟩
theorem Inv.wipe(I:Inv X pins σ H s) {h':Heap}{m':Str->Option Value}{tk:Nat}(hn:h'.Ns X.env.locals m') (hs:Heap.SameBut X.env.locals s.heap h'):Inv X pins (List.replicate σ.length none) H { s with heap:=h',toks:=tk }:=by
 have ne0:∀b o,X.s₀.heap.get? b=some o->b≠X.env.locals:=fun b o e z=>by
  have:=Heap.lt_size e
  rw[z]at this
  exact absurd (Nat.lt_of_lt_of_le this I.ok.above) (Nat.lt_irrefl _)
 have eq:∀b,b≠X.env.locals->h'.get? b=s.heap.get? b:=fun b hb=>hs.2 b hb
 refine⟨I.ok,I.os,I.bare,⟨fun b o e n hb hx=>?_,fun b o e n hb hx=>?_,I.base.free,fun b o e hx=>?_,I.base.tups,I.base.frzs,I.base.tbls⟩,⟨m',hn,fun i x v _ e _=>?_⟩,fun x c e=>?_,I.free,I.freeC,fun p hp=>?_,fun a o e=>?_,by rw[List.length_replicate];exact I.len⟩
 ·show h'.get? b=_
  rw[eq b (ne0 b o e)];exact I.base.keep b o e n hb hx
 ·obtain⟨sl,q⟩:=I.base.slot b o e n hb hx
  exact⟨sl,by show h'.get? b=_;rw[eq b (ne0 b o e)];exact q⟩
 ·obtain⟨o',q⟩:=I.base.there b o e hx
  exact⟨o',by show h'.get? b=_;rw[eq b (ne0 b o e)];exact q⟩
 ·rw[List.getElem?_replicate]at e
  split at e<;>cases e
 ·obtain⟨v,o,q1,q2⟩:=I.cell x c e
  exact⟨v,o,by show h'.get? c=_;rw[eq c (I.cne x c e)];exact q1,q2⟩
 ·obtain⟨q1,q2,q3,q4,q5⟩:=I.pin p hp
  exact⟨by show h'.get? p.1=_;rw[eq p.1 q3];exact q1,q2,q3,q4,q5⟩
 ·refine(I.hok a o e).stay (fun b u hb q=>?_) (fun _ q=>q) fun _ _ q=>q
  show h'.get? b=_
  rw[eq b fun z=>?_]
  ·exact q
  ·have f:=I.free
   rcases hb with rfl|hb
   ·rw[z,f]at e;cases e
   ·rw[z,f]at hb;cases hb
end
theorem O7.is{P:Program}{w:World}{H:Hp}{h:Heap}{a:Addr}{o:HO}(x:O7 P w H h a o):∃u,h.get? a=some u:=by
 cases o with
 | lst xs=>obtain⟨_,_,_,_,e⟩:=x;exact⟨_,e⟩
 | tup xs=>obtain⟨_,_,_,ob,e,_⟩:=x;exact⟨_,e⟩
 | dK kvs=>obtain⟨_,_,_,_,ob,_,_,e,_⟩:=x;exact⟨_,e⟩
 | dT kvs=>obtain⟨_,_,_,_,ob,_,_,e,_⟩:=x;exact⟨_,e⟩
 | set S n=>obtain⟨ob,_,_,_,e,_⟩:=x;exact⟨_,e⟩
 | ins C dx fs=>obtain⟨_,_,_,e,_⟩:=x;exact⟨_,e⟩
 | own y=>exact x
 | xd fs=>obtain⟨_,⟨ob,_,_,e,_⟩,_⟩:=x;exact⟨_,e⟩
 | rng lo hi=>obtain⟨_,_,_,e⟩:=x;exact⟨_,e⟩
 | frz ob u=>obtain⟨e,_⟩:=x;exact⟨_,e⟩
 | tbl ps=>exact⟨_,x⟩
 | met f y=>exact⟨_,x⟩
 | ext φ=>obtain⟨_,e,_⟩:=x;exact e
section
variable {X:Cx}{pins:List (Addr×Obj)}{σ:L2.St}{H:Hp}{s:Shared}{a:Addr}{oe:Obj}
abbrev fz(oe:Obj) (a:Addr):HO:=.frz oe (.own a)
theorem Inv.track(I:Inv X pins σ H s) (ha:H a=none) (e:s.heap.get? a=some oe) (n0:X.s₀.heap.get? a=none) (np:∀p∈X.pn++pins,p.1≠a) (nl:X.env.locals≠a) (nc:∀x c,X.env.cells.lookup x=some c->c≠a):Inv X pins σ (upd H a (fz oe a)) s:=by
 have nb:∀b o,X.s₀.heap.get? b=some o->b≠a:=fun b o q z=>by rw[z,n0]at q;cases q
 have up:∀b o,H b=some o->upd H a (fz oe a) b=some o:=fun b o q=>by rw[B4 (fun z=>by rw[z,ha]at q;cases q)];exact q
 refine⟨I.ok,I.os,I.bare,⟨I.base.keep,I.base.slot,fun b o q n hx=>?_,I.base.there,fun b xs q=>up b _ (I.base.tups b xs q),fun b o u q=>up b _ (I.base.frzs b o u q),fun b ps q=>?_⟩,I.loc,I.cell,?_,fun x c q=>?_,fun p hp=>?_,fun b o q=>?_,I.len⟩
 ·rw[B4 (nb b o q)];exact I.base.free b o q n hx
 ·obtain⟨more,z⟩:=I.base.tbls b ps q
  exact⟨more,up b _ z⟩
 ·rw[B4 nl];exact I.free
 ·rw[B4 (nc x c q)];exact I.freeC x c q
 ·obtain⟨q1,q2,q3⟩:=I.pin p hp
  exact⟨q1,by rw[B4 (np p hp)];exact q2,q3⟩
 ·by_cases hb:b=a
  ·subst hb
   rw[B7]at q;cases q
   exact⟨e,oe,e⟩
  ·rw[B4 hb]at q
   exact(I.hok b o q).stay (fun _ _ _ z=>z) (fun c z=>up c _ z) fun c xs z=>up c _ z
theorem aH1{H1 Hf1 H':Hp}(sm:D0 H1 H') (sb:D0 Hf1 H1) (ha:H' a=none):Grow H1 Hf1 (upd H' a (fz oe a)) (upd Hf1 a (fz oe a)):=by
 have h1:H1 a=none:=sm.free ha
 have h2:Hf1 a=none:=sb.free h1
 refine⟨fun b o q=>?_,fun b o q=>?_,fun b o q=>?_,fun b q=>?_⟩
 ·rw[B4 (B9 q h1)];exact sm b o q
 ·by_cases hb:b=a
  ·subst hb;rw[B7]at q ⊢;exact q
  ·rw[B4 hb]at q ⊢;exact sm b o (sb b o q)
 ·rw[B4 (B9 q h2)];exact q
 ·by_cases hb:b=a
  ·subst hb;exact .inr h1
  ·rw[B4 hb]at q;exact .inl q
end
def aX4(K:PySem.W.Frag) (x c:Str):Bool:=match clA K x,clA K c with
 | some C,some D=>(match K.lookup C with
  | some ⟨_,_,.cls cd,_⟩=>cd.mro.contains (.ref D)
  | _=>false)
 | _,_=>false
def ax6(r:RD) (f:DS) (i:Nat) (g:DS):DS:=fun ρ=>match r ρ with
 | some (x,ρ1)=>(match g (ρ1.set i (some (.exc x))) with
  | some (.rt d)=>some (.rt d)
  | _=>none)
 | none=>f ρ
theorem Slots.setExc{K:PySem.W.Frag}{H0 H Hf:Hp}{ρ:Rho}{σ:L2.St}(s:Slots K H0 ρ σ H Hf) {i:Nat}{x:Str}{v:V}(hb:SB K H0 H Hf (.exc x) v):Slots K H0 (ρ.set i (some (.exc x))) (σ.set i (some v)) H Hf:=by
 have own:∀(j:Nat) (ds:List D),(ρ.set i (some (B.exc x)))[j]? = some (some (.own ds))->i≠j/\ρ[j]? = some (some (.own ds)):=fun j ds h=>by
  rw[List.getElem?_set]at h
  split at h
  ·split at h<;>cases h
  ·rename_i n;exact⟨n,h⟩
 have gt:∀j,i≠j->(σ.set i (some v))[j]? = σ[j]?:=fun j n=>by rw[List.getElem?_set,if_neg n]
 refine⟨by rw[List.length_set,List.length_set];exact s.len,fun j b h=>?_,fun j k ds es c h1 h2 h3 h4=>?_⟩
 ·by_cases q:i=j
  ·subst q
   rw[List.getElem?_set,if_pos rfl]at h
   split at h
   ·rename_i l
    cases h
    exact⟨v,by rw[List.getElem?_set,if_pos rfl,if_pos (by rw[← s.len];exact l)],hb⟩
   ·cases h
  ·rw[List.getElem?_set,if_neg q]at h
   rw[gt j q];exact s.is j b h
 ·obtain⟨n1,h1⟩:=own j _ h1
  obtain⟨n2,h2⟩:=own k _ h2
  rw[gt j n1]at h3
  rw[gt k n2]at h4
  exact s.apart j k ds es c h1 h2 h3 h4
section
variable {X:Cx}
theorem bq9{body:List Stmt}{b₀:Stmt}{suite:List Stmt}{c n:Str}{i:Nat}{r:RD}{f:DS}{gd:DS}{np hpos pos:Pos}(hx:∀e s,X.xe e s->False) (hex:X.ex=[]) (hst:X.stack=X.env::X.outer) (hfr:X.env.frame=some X.env.locals)
  (hb:JSs X body f) (hr:JRs X false body r) (hgc:Gl X c) (hmc:∀D,clA X.K c=some D->X.mg c=some (.ref D)) (hdc:(c==("__debug__" : Str))=false) (hcb:V5 X.K c=true)
  (hsub:∀ρ x ρ1,r ρ=some (x,ρ1)->V5 X.K x=true/\aX4 X.K x c=true)
  (hN:X.N.Nodup) (hi:X.N[i]? = some n) (hl:X.env.scope.names.lookup n=some .local) (hh:∀a:Addr,JSs (Cx.held X (.ref a)) (b₀::suite) gd) :
  JS X (.Try body [.ExceptHandler (some (.Name c np)) (some n) (b₀::suite) hpos] [] [] pos) (ax6 r f i gd):=by
 intro ρ fl q H0 Hf0 pins s σ H En I hw
 obtain⟨Hf,at_,ends⟩:=hw
 unfold ax6 at q
 split at q
 case h_2 =>
  refine wpAny_Try_except (noX hx (hb ρ fl q H0 Hf0 pins s σ H En I ⟨Hf,at_,ends⟩) fun f' s1 z=>?_)
  cases f' with
  | next=>exact wpAny_execs_nil z
  | ret v=>exact z
  | brk=>exact z
  | cont=>exact z
 rename_i x ρ1 er
 obtain⟨d,hd,rfl⟩:∃d,gd (ρ1.set i (some (.exc x)))=some (.rt d)/\fl=.rt d:=by
  split at q
  ·rename_i d e;cases q;exact⟨d,e,rfl⟩
  ·cases q
 obtain⟨hxb,hsb⟩:=hsub ρ x ρ1 er
 obtain⟨C,hC⟩:∃C,clA X.K x=some C:=by
  unfold V5 at hxb
  cases e:clA X.K x with
  | none=>rw[e]at hxb;cases hxb
  | some C=>exact⟨C,rfl⟩
 obtain⟨D,hD⟩:∃D,clA X.K c=some D:=by
  unfold V5 at hcb
  cases e:clA X.K c with
  | none=>rw[e]at hcb;cases hcb
  | some C=>exact⟨C,rfl⟩
 have qC:PySem.W.excIn X.K C veB "ValueError.__new__" = true:=by unfold V5 at hxb;rw[hC]at hxb;exact hxb
 have qD:PySem.W.excIn X.K D veB "ValueError.__new__" = true:=by unfold V5 at hcb;rw[hD]at hcb;exact hcb
 obtain⟨nm,qn,N,bs,bm,hd',sn,sub,ab,col,dd,k0,k1,k2,k3,k5,mN,c1,c2,c3,c4⟩:=ak0 I.mod.kin qC
 obtain⟨nm',qn',N',bs',bm',hd'',sn',sub',ab',col',dd',j0,j1,j2,j3,j5,mN',d1,d2,d3,d4⟩:=ak0 I.mod.kin qD
 have hin:(Value.ref C::bm).contains (.ref D)=true:=by
  unfold aX4 at hsb
  rw[hC,hD]at hsb
  dsimp only at hsb
  split at hsb
  ·rename_i lk
   have z:=I.mod.kin _ _ lk
   rw[c1]at z
   cases z
   exact hsb
  ·cases hsb
 refine wpAny_Try_except (wpAny_mono (hr ρ x ρ1 C er hC H0 Hf0 pins s σ H Hf I at_) (fun _ _ z=>z.elim) fun ex s1 ho=>?_)
 rcases ho with ho|⟨z,_⟩
 case inr=>cases z
 obtain⟨σ1,H1,Hf1,s0,I1,a1,o⟩:=ho
 rcases o with⟨z,_⟩|hc
 ·cases z
 obtain⟨a,C',g,B,H',rfl,os,bare,un,hok,F,cE,sm⟩:=hc
 cases cE
 obtain⟨t,fl0⟩:=F.fly
 have nx:∀b:Addr,b∉([]:List Addr):=fun b z=>absurd z (by simp)
 have J:Inv X pins σ1 H' { s1 with heap:=g }:=I1.call' (s':={ s1 with heap:=g }) (ch:=[]) os un hok bare (fun b z=>absurd z (nx b))
 have key:∀h'':Heap,B.StaysIn h''->s1.heap.UpToSlots h''->Inv X pins σ1 H' { s1 with heap:=h'' }:=fun h'' k1 k2=>by
  refine bt9 (s':={ s1 with heap:=h'' }) I1 os bare un hok F.keep k1 fun b o e m=>?_
  obtain⟨z,e2⟩:=F.sl b o e m
  obtain⟨_,o',e',hd⟩:=J.stack.mem m
  have e':g.get? b=some o':=e'
  rw[e]at e';cases e'
  obtain⟨z2,q⟩:=k2 b _ e2 hd
  exact⟨z2,q⟩
 rw[hst]at fl0
 refine wpAny_looks_onW (outer:=X.outer) (by rw[← hst];exact I.ok.frames) hfr fl0 fun h4 held4 up4=>?_
 refine wpAny_landsW held4 fun h5 fl5 up5=>?_
 have I5:=key h5 fl5.1 (up4.trans up5)
 obtain⟨ob,hob,hobc⟩:=fl5.there
 refine wpAny_handleBy_cons (codeAny_handlers_test (W7 (Inv.held I5 (.ref a)) hgc (hmc D hD) ?_ hdc)) (by intro q;cases q)
 refine bZ0 (I5.bk _ _ c1) (I5.bk _ _ d1) hob hobc (d4.hasType (by decide)) ?_
 rw[hin]
 refine codeAny_handlers_suite_as (lands_againW fl5 fun h6 fl6 up6=>?_)
 have I6:=key h6 fl6.1 ((up4.trans up5).trans up6)
 obtain⟨oe,ws,e6,ec6,ed6,_⟩:=fl6.first
 have nB:B.get? a=none:=fl6.2.1
 have nf:a∉frs X.stack:=fun m=>by
  obtain⟨_,o',e',hd⟩:=I6.stack.mem m
  have e':h6.get? a=some o':=e'
  rw[e6]at e';cases e'
  exact hd ws ed6
 have ng:∀o,Rl s0 H' a->g.get? a=some o->False:=fun o rr e=>by
  have:=F.keep a o rr e nf
  rw[nB]at this;cases this
 have ha:H' a=none:=by
  cases e:H' a with
  | none=>rfl
  | some o =>
   obtain⟨u,e'⟩:=O7.is (hok a o e)
   exact(ng u (.inr (by rw[e];simp)) e').elim
 have n0:s0.heap.get? a=none:=by
  cases e:s0.heap.get? a with
  | none=>rfl
  | some o =>
   obtain⟨u,e'⟩:=un.there a o e (nx a)
   exact(ng u (.inl (by rw[e];simp)) e').elim
 have n00:X.s₀.heap.get? a=none:=by
  cases e:X.s₀.heap.get? a with
  | none=>rfl
  | some o =>
   obtain⟨u,e'⟩:=I1.base.there a o e (by rw[hex];exact nx a)
   rw[n0]at e';cases e'
 have I7:Inv X pins σ1 (upd H' a (fz oe a)) { s1 with heap:=h6 }:=by
  refine Inv.track I6 ha e6 n00 (fun p hp z=>?_) (fun z=>?_) fun y cc e z=>?_
  ·have:=(I1.pin p hp).1
   rw[z,n0]at this;cases this
  ·obtain⟨m,⟨o',_,_,e',_⟩,_⟩:=I1.loc
   rw[z,n0]at e';cases e'
  ·obtain⟨v,o',e',_⟩:=I1.cell y cc e
   rw[z,n0]at e';cases e'
 have gr:Grow H1 Hf1 (upd H' a (fz oe a)) (upd Hf1 a (fz oe a)):=aH1 sm a1.gr.sub ha
 have a7:=a1.grow gr
 refine X7 (X:=Cx.held X (.ref a)) (v:=.ref a) (Inv.held I7 (.ref a)) hN hi (.inl hl) rfl (fun s8 I8=>?_) (.inr hl)
 refine wpAny_mono (hh a _ _ hd H0 Hf0 pins s8 _ _ { nx:=fun _ _=>False,rt:=fun v H'=>∃Hf',Grow H0 Hf0 H' Hf'/\Rep X.K Hf' d v } I8 ⟨_,⟨a7.gr,Slots.setExc a7.sl ⟨a,oe,C,rfl,B7,hC,ec6⟩⟩,fun v H' Hf' g r=>⟨Hf',g,r⟩⟩) (fun fl' s9 z=>?_) fun e s z=>(hx e s z).elim
 cases fl' with
 | next=>obtain⟨_,_,_,z⟩:=z;exact z.elim
 | brk=>obtain⟨_,_,_,z⟩:=z;exact z.elim
 | cont=>obtain⟨_,_,_,z⟩:=z;exact z.elim
 | ret u =>
 obtain⟨v,σ9,H9,I9,rv,Hf9,g9,rp⟩:=z
 have I9:=Inv.unheld I9 I.ok
 obtain⟨m9,hn9,_⟩:=I9.loc
 refine wpAny_nameGoes (m:=m9) (by show X.env.scope.names.lookup n=_;exact hl) hn9 (by rw[I.ok.kind];rfl) fun h' m' hn' hs'=>?_
 exact⟨v,_,H9,Inv.wipe I9 hn' hs',rv,ends v H9 Hf9 g9 rp⟩
end
section
variable {prog:Program}{w:World}{A:Around}{E:Value->Shared->Prop}{h:Heap}{g:Array GenState}{d:Drawn}{t:Nat}{os:OsState}{a C:Addr}{o:Obj}{K:PySem.W.Frag}
def xcB(K:PySem.W.Frag) (C:Addr):Bool:=PySem.W.findIn K (.ref C) "__class__" == some (some (.builtin "object.__class__"))&&PySem.W.findIn K (.ref C) "__getattribute__" == some (some (.builtin "BaseException.__getattribute__")) &&
 PySem.W.findIn K (.ref C) "__getattr__" == some none&&PySem.W.mroIn K C (.type "object")==some true&&PySem.W.mroIn K C (.type "BaseException")==some true
theorem bz2{R:Result->Shared->Prop}(kin:K.In h) (hx:h.get? a=some o) (hc:o.cls=.ref C) (hm:PySem.W.mroIn K C (.type "object")=some true) (hq:R (.ok (.ret (.ref C))) ⟨h,g,d,t,os⟩) :
  codeAny (model prog w) A (.call (.builtin "getset_descriptor.__get__") ⟨[.builtin "object.__class__", .ref a,.ref C],[]⟩) R ⟨h,g,d,t,os⟩:=by
 have hT5:(⟨h,g,d,t,os⟩:Shared).TypeIs (.builtin "object.__class__") "getset_descriptor" := F.typeOf_object_class
 have L:PySem.W.Looks (model prog w) h (isSubtype (.ref C) (.type (".".intercalate ("object.__class__".cutAt '.').dropLast))) true:=by rw[F.owner_object_class];exact PySem.W.looks_mroIn kin hm
 refine codeAny_call_builtin F.slot_gs_get.plain F.entry_gs_get (F.slot_gs_get.check _ _ _ _ _ _ _ _ hT5 (F.args_gs_get _ _ _) ?_)
 repeat (any_goals (first|assumption|(with_reducible refine wpAny_loadPart_at hx ?_;rw[hc])|with_reducible refine L.at ?_|wp_step))
 refine⟨Code.quiet_builtin _ (by decide +kernel),codeAny_builtin F.entry_object_class ?_⟩
 repeat (any_goals (first|assumption|(with_reducible refine wpAny_loadPart_at hx ?_;rw[hc])|wp_step))
theorem aW4{tk:Tok}{Q:Fin->Shared->Prop}(kin:K.In h) (hx:h.get? a=some o) (hc:o.cls=.ref C) (hf:PySem.W.findIn K (.ref C) "__class__" = some (some (.builtin "object.__class__"))) (hm:PySem.W.mroIn K C (.type "object")=some true) (hq:Q (.done (.ret (.ref C))) ⟨h,g,d,t,os⟩) :
  wpAny (model prog w) A (Builtin.«object.__getattribute__» ⟨[.ref a,.str "__class__" tk],[]⟩) Q E ⟨h,g,d,t,os⟩:=by
 have hT5:(⟨h,g,d,t,os⟩:Shared).TypeIs (.builtin "object.__class__") "getset_descriptor" := F.typeOf_object_class
 have f5:=F.typeOf_object_class
 have f6:=F.slot_gs_get.lookup
 have f7:=F.slot_gs_set.lookup
 have L:=PySem.W.looks_findIn (M:=model prog w) kin hf
 repeat (any_goals (first|assumption|(with_reducible refine wpAny_loadPart_at hx ?_;rw[hc])|with_reducible refine L.at ?_|wp_step))
 refine bz2 kin hx hc hm ?_
 repeat (any_goals (first|assumption|wp_step))
theorem aW5{M:Model}{nameV:Value}{Q:Unit->Shared->Prop}(kin:K.In h) (hx:h.get? a=some o) (hc:o.cls=.ref C) (hm:PySem.W.mroIn K C (.type "BaseException")=some true) (hq:Q () ⟨h,g,d,t,os⟩):wpAny M A (checkBuiltinCall "BaseException.__getattribute__" ⟨[.ref a,nameV],[]⟩) Q E ⟨h,g,d,t,os⟩:=by
 have hk:builtinKind "BaseException.__getattribute__" = some .slot:=by decide +kernel
 have hsplit:splitId "BaseException.__getattribute__" = some ("BaseException", "__getattribute__"):=by decide +kernel
 have ha:=F.args_bexc_ga (.ref a) nameV
 have L:=PySem.W.looks_mroIn (M:=M) kin hm
 simp only[checkBuiltinCall,hk,hsplit]
 refine wpAny_bind ?_
 unfold isInstance
 repeat (first|(with_reducible refine wpAny_loadPart_at hx ?_;rw[hc])|with_reducible refine L.at ?_|wp_step)
 exact hq
theorem bk1{tk:Tok}{R:Result->Shared->Prop}(kin:K.In h) (hx:h.get? a=some o) (hc:o.cls=.ref C) (hb:xcB K C=true) (hq:R (.ok (.ret (.ref C))) ⟨h,g,d,t,os⟩) :
  codeAny (model prog w) A (.call (.builtin "BaseException.__getattribute__") ⟨[.ref a,.str "__class__" tk],[]⟩) R ⟨h,g,d,t,os⟩:=by
 simp only[xcB,Bool.and_eq_true,beq_iff_eq]at hb
 exact codeAny_call_builtin F.attr_ValueError.ga.plain F.entry_bexc_ga (aW5 kin hx hc hb.2 (aW4 kin hx hc hb.1.1.1.1 hb.1.2 hq))
theorem bO1{tk:Tok}{fill expr:Bool}{Q:Value->Shared->Prop}(kin:K.In h) (hx:h.get? a=some o) (hc:o.cls=.ref C) (hb:xcB K C=true) (hq:Q (.ref C) ⟨h,g,d,t,os⟩):wpAny (model prog w) A (getAttrBy (.ref a) (.str "__class__" tk) fill expr) Q E ⟨h,g,d,t,os⟩:=by
 have hb':=hb
 simp only[xcB,Bool.and_eq_true,beq_iff_eq]at hb'
 have L1:=PySem.W.looks_findIn (M:=model prog w) kin hb'.1.1.1.2
 have L2:=PySem.W.looks_findIn (M:=model prog w) kin hb'.1.1.2
 have f3:=F.attr_ValueError.ga.bind (.ref a)
 have z0:(expr&&onTheHeap (Value.builtin "BaseException.__getattribute__"))=false:=by cases expr<;>rfl
 have z2:(Value.builtin "BaseException.__getattribute__" == Value.builtin "object.__getattribute__")=false:=by decide +kernel
 have z1:(onTheHeap (Value.ref C)&&Value.builtin "BaseException.__getattribute__" == Value.builtin "object.__getattribute__")=false:=by rw[z2];rfl
 repeat (any_goals (first|assumption|(with_reducible refine wpAny_loadPart_at hx ?_;rw[hc])|with_reducible refine L1.at ?_|with_reducible refine L2.at ?_|wp_step))
 refine bk1 kin hx hc hb ?_
 repeat (any_goals (first|assumption|wp_step))
theorem bk2{Q:Option Value->Shared->Prop}(kin:K.In h) (hx:h.get? a=some o) (hc:o.cls=.ref C) (hb:xcB K C=true) (hq:Q (some (.ref C)) ⟨h,g,d,t+1,os⟩):wpAny (model prog w) A (getAttr? (.ref a) "__class__") Q E ⟨h,g,d,t,os⟩:=by
 unfold getAttr? getAttrBy?
 repeat (any_goals (first|assumption|with_reducible apply bO1 kin hx hc hb|wp_step))
theorem bc5(hb:xcB K C=true) {bb:List Value}{nid:String}(hq:PySem.W.excIn K C bb nid=true):PySem.W.KitX K (.ref a) (.ref C) (fun h=>∃o,h.get? a=some o/\o.cls=.ref C) where
 ty:=fun _ _ _ ⟨o,h1,h2⟩=>h2 ▸ (PySem.W.Looks.ld h1).andThen .now
 it:=fun _ _ kin _=>by
  obtain⟨nm,qn,N,bs,bm,hd,sn,sub,ab,col,dd,k0,k1,k2,k3,k5,mN,g1,_⟩:=ak0 kin hq
  intro A' Q' E' s' k q
  unfold isType loadHead
  exact wpAny_bind (wpAny_loadPart (k _ _ g1) (wpAny_pure q))
 ne:=fun h tp dd its n sl kin htp=>by
  obtain⟨nm,qn,N,bs,bm,hd,sn,sub,ab,col,dd',k0,k1,k2,k3,k5,mN,g1,_⟩:=ak0 kin hq
  refine Bool.eq_false_iff.mpr fun q=>?_
  have e:C=tp:=Value.ref.inj (beq_iff_eq.mp q)
  subst e
  rw[g1]at htp
  have z:=congrArg Obj.data (Option.some.inj htp)
  cases z
 ca:=fun{_ _ _ _ _ s} kin ⟨o,h1,h2⟩ k=>by
  obtain⟨h,g,d,t,os⟩:=s
  exact bk2 kin h1 h2 hb k
end
section
variable {X:Cx}
def aI1(i:Nat) (tb:Str->Option Bool):DE:=fun ρ=>match ρ[i]? with
 | some (some (.exc x))=>(tb x).map PyData.bool
 | _=>none
def aa6(K:PySem.W.Frag) (cv:Value) (tb:Str->Option Bool):Prop:=∀x b,tb x=some b->∃C,clA K x=some C/\xcB K C=true/\PySem.W.excIn K C veB "ValueError.__new__" = true/\PySem.W.kitOne K (.ref C) cv=some b
theorem bj1{cv:Value}{v:V}(hv:E9 v cv) (hv':∀u,E9 v u->u=cv) {tb:Str->Option Bool}(ok:aa6 X.K cv tb):V6 X (.builtin "isinstance") (fun xs H Q=>∃x y b H0 Hf,xs=[y,v]/\D0 Hf H/\SB X.K H0 H Hf (.exc x) y/\tb x=some b/\Q (.bl b) H):=by
 intro pins s σ H xs us Q I r h
 obtain⟨x,y,b,H0,Hf,rfl,sm,⟨a,o,C,rfl,e1,e2,e3⟩,hb,q⟩:=h
 obtain⟨u,c,rfl,rx,rc⟩:=bw0 r
 cases rx
 obtain rfl:=hv' c rc
 obtain⟨C',f1,f2,f3,f4⟩:=ok x b hb
 rw[e2]at f1;cases f1
 obtain⟨z,_⟩:=(show O7 X.prog X.w H s.heap a (.frz o (.own a)) from I.hok a _ (sm _ _ e1))
 exact PySem.W.kia_one (bc5 f2 f3) I.kIn ⟨o,z,e3⟩ f4 (fun z=>nomatch z) fun tk=>⟨.bl b,H,I.tok tk,rfl,q⟩
end
section
variable {X:Cx}
theorem bo0{y:Str}{D:Addr}{pos:Pos}(hg:Gl X y) (hm:X.mg y=some (.ref D)) (hd:(y==("__debug__" : Str))=false):PE X (.Name y pos) (tC (.ref D)):=fun pins s σ H Q I h=>W7 I hg hm ⟨.ref D,H,I,rfl,h⟩ hd
theorem be6{n y:Str}{i:Nat}{v:V}{cv:Value}{tb:Str->Option Bool}{p p1 p2 pos:Pos}(hg:Gl X "isinstance") (hm:X.mg "isinstance" = none) (hN:X.N[i]? = some n) (hv:Vis X.env.scope n) (hd:(n==("__debug__" : Str))=false) (hcd:(n==("__classdict__" : Str))=false)
  (hc:PE X (.Name y p2) (tC v)) (r1:E9 v cv) (r2:∀u,E9 v u->u=cv) (ok:aa6 X.K cv tb)
  (he:starEach [.Name n p1,.Name y p2] X.env=(false,eval (.Name n p1) X.env)::starEach [.Name y p2] X.env:=by rfl) (he2:starEach [.Name y p2] X.env=[(false,eval (.Name y p2) X.env)]:=by rfl) (hpl:(backTo pos (starEach [.Name y p2] X.env)).any (·.1)=false:=by rfl) :
  JE X (.Call (.Name "isinstance" p) [.Name n p1,.Name y p2] [] pos) (aI1 i tb):=fun ρ d q=>by
 unfold aI1 at q
 split at q
 case h_2=>cases q
 rename_i x e
 obtain⟨b,hb,rfl⟩:=xmo q
 refine C0 (R9 (bj1 r1 r2 ok) hg hm bj4 (G0 (W3 hN hv hd hcd) (G0 hc L0 he2) he) (he:=he) (hpl:=hpl)) fun σ H Q ⟨H0,Hf,s,sl,k⟩=>?_
 obtain⟨v0,h1,sb⟩:=sl.is i _ e
 exact⟨v0,h1,x,v0,b,H0,Hf,rfl,s,sb,hb,k _ H Hf (Grow.refl s) rfl⟩
def dRp(f:DE):DE:=fun ρ=>(f ρ).bind fun d=>match d with
 | .str x=>if x.length<=1000/\x.cps.all (· < 1114112)=true then some (.str (reprText x)) else none
 | _=>none
theorem bT3{e:Expr}{f:DE}{pos:Pos}(h:JE X e f):JE X (.FormattedValue e 114 none pos) (dRp f):=fun ρ d q=>by
 obtain⟨y,h1,h2⟩:=xbo q
 cases y with
 | str x =>
  dsimp only at h2
  split at h2
  case isFalse=>cases h2
  rename_i c
  cases h2
  have ln:(reprText x).length<=sizeLine:=by
   refine Nat.le_trans (PySem.StrLaws.reprText_len x fun z hz=>?_) ?_
   ·have:=c.2
    rw[← Array.all_toList,List.all_eq_true]at this
    have:=of_decide_eq_true (this z hz)
    omega
   ·have:=c.1
    exact Nat.le_trans (show 10*x.length+2<=10002 by omega) (by decide)
  intro pins s σ H Q I hw
  obtain⟨H0,Hf,sm,sl,k⟩:=hw
  refine wpAny_FormattedValue_repr (thn (h ρ _ h1 pins s σ H (fun v H'=>v=.str x/\∃Hf',Grow H Hf H' Hf') I ⟨H0,Hf,sm,sl,fun v H' Hf' g r=>⟨r,Hf',g⟩⟩) fun v s1 ⟨v',H1,I1,r1,e1,Hf1,g1⟩=>?_)
  subst e1
  obtain⟨t,rfl⟩:=(show ∃t,v=Value.str x t from r1)
  refine wpAny_pyReprObj_str ?_ ln
  exact wpAny_formatField_str ⟨.str (reprText x),H1,I1.tok _,⟨_,rfl⟩,k _ H1 Hf1 g1 rfl⟩ ⟨.str (reprText x),H1,(I1.tok _).tok _,⟨_,rfl⟩,k _ H1 Hf1 g1 rfl⟩ ln
 | none=>cases h2
 | bool b=>cases h2
 | int i=>cases h2
 | tuple xs=>cases h2
 | list xs=>cases h2
 | dict xs=>cases h2
def aI2:Str->List DE->DE
 | acc,[]=>fun _=>some (.str acc)
 | acc,f::fs=>fun ρ=>(f ρ).bind fun d=>match d with
  | .str y=>if(acc++y).length<=16777216 then aI2 (acc++y) fs ρ else none
  | _=>none
inductive JEs (X:Cx):List Expr->List DE->Prop
 | nil:JEs X [] []
 | cons {e:Expr}{es:List Expr}{f:DE}{fs:List DE}:JE X e f->JEs X es fs->JEs X (e::es) (f::fs)
theorem n5:∀(ps:List (Sem Value)) (a:Str) (Q Q':Str->Shared->Prop) (s:Shared),(∀o s,Q o s->Q' o s)->Joins (model X.prog X.w) X.A X.xe ps a Q s->Joins (model X.prog X.w) X.A X.xe ps a Q' s
 | [],_,_,_,_,hq,z=>hq _ _ z
 | _::ps,_,Q,Q',_,hq,z=>thn z fun _ s1 ⟨y,t,e,c,z⟩=>⟨y,t,e,c,n5 ps _ Q Q' s1 hq z⟩
theorem aM9:∀(fs:List DE) (acc:Str) (ρ:Rho) (d:D),aI2 acc fs ρ=some d->acc.length<=16777216->∃x:Str,d=.str x/\x.length<=16777216
 | [],acc,ρ,d,q,l=>by cases q;exact⟨acc,rfl,l⟩
 | f::fs,acc,ρ,d,q,l=>by
  obtain⟨y,h1,h2⟩:=xbo q
  cases y<;>dsimp only at h2
  case str x =>
   split at h2
   ·rename_i c;exact aM9 fs (acc++x) ρ d h2 c
   ·cases h2
  all_goals cases h2
theorem bT1{es:List Expr}{fs:List DE}(h:JEs X es fs):∀(acc:Str) (ρ:Rho) (d:D),aI2 acc fs ρ=some d->∀(pins:List (Addr×Obj)) (s:Shared) (σ:L2.St) (H0 H Hf:Hp),Inv X pins σ H s->D0 Hf H->Slots X.K H0 ρ σ H Hf ->
  Joins (model X.prog X.w) X.A X.xe (evalEach es X.env) acc (fun out s1=>d=.str out/\∃H1 Hf1,Inv X pins σ H1 s1/\Grow H Hf H1 Hf1) s:=by
 induction h with
 | nil =>
  intro acc ρ d q pins s σ H0 H Hf I sm sl
  cases q
  exact⟨rfl,H,Hf,I,Grow.refl sm⟩
 | @cons e es f fs he hs ih =>
  intro acc ρ d q pins s σ H0 H Hf I sm sl
  obtain⟨y,h1,h2⟩:=xbo q
  cases y with
  | str x =>
   dsimp only at h2
   split at h2
   case isFalse=>cases h2
   rename_i c
   refine thn (he ρ _ h1 pins s σ H (fun v H'=>v=.str x/\∃Hf',Grow H Hf H' Hf') I ⟨H0,Hf,sm,sl,fun v H' Hf' g r=>⟨r,Hf',g⟩⟩) fun v s1 ⟨v',H1,I1,r1,e1,Hf1,g1⟩=>?_
   subst e1
   obtain⟨t,rfl⟩:=(show ∃t,v=Value.str x t from r1)
   refine⟨x,t,rfl,c,?_⟩
   have z:=ih (acc++x) ρ d h2 pins s1 σ H0 H1 Hf1 I1 g1.sub (sl.grow g1)
   exact n5 _ _ _ _ _ (fun o s ⟨z1,H2,Hf2,I2,g2⟩=>⟨z1,H2,Hf2,I2,g1.trans g2⟩) z
  | none=>cases h2
  | bool b=>cases h2
  | int i=>cases h2
  | tuple xs=>cases h2
  | list xs=>cases h2
  | dict xs=>cases h2
theorem bT6{e1 e2:Expr}{es:List Expr}{fs:List DE}{pos:Pos}(h:JEs X (e1::e2::es) fs):JE X (.JoinedStr (e1::e2::es) pos) (aI2 Str.empty fs):=fun ρ d q=>by
 intro pins s σ H Q I hw
 obtain⟨H0,Hf,sm,sl,k⟩:=hw
 obtain⟨x,rfl,lx⟩:=aM9 fs _ ρ d q (by decide)
 refine wpAny_JoinedStr (n5 _ _ _ _ _ (fun o s1 z=>?_) (bT1 h Str.empty ρ _ q pins s σ H0 H Hf I sm sl))
 obtain⟨e,H1,Hf1,I1,g1⟩:=z
 cases e
 exact⟨lx,.str x,H1,I1.tok _,⟨_,rfl⟩,k _ H1 Hf1 g1 rfl⟩
end
def bN5(X:Cx):Prop:=∀pins ρ1 C H0 Hf0 e s',Ou X true pins ρ1 C H0 Hf0 e s'->Lo X C H0 e s'
section
variable {X:Cx}
theorem bG3{P:Program}{w:World}{K:PySem.W.Frag}{mg:Str->Option Value}{base:Heap}{N:List Str}{qual:Str}{scope:Scope}{f:Addr}{cd:Value}{A:Around}{outer:List Env}{s:Shared}{H:Hp}{E:XK}:bN5 (cx1 P w K mg base N qual scope f cd A outer s H E).nox:=by
 intro pins ρ1 C H0 Hf0 e s' h
 obtain⟨σ1,H2,Hf2,s2,I2,a2,o⟩:=h
 have I3:Inv (cx1 P w K mg base N qual scope f cd A outer s H (EC C H0)) pins σ1 H2 s2:=(I2.unwish).wish (cx1 P w K mg base N qual scope f cd A outer s H (EC C H0)).xe
 rcases o with⟨_,h',a,vs',rfl,rfl,hm⟩|hc
 ·exact az6 I3 hm ⟨rfl,a2.gr.big⟩
 ·exact aL1 I3 (CX1.mono hc fun cls H' q=>⟨q.1,a2.gr.big.trans q.2⟩)
end
def bB3(K:PySem.W.Frag) (x c:Str):Bool:=match clA K x,clA K c with
 | some C,some D=>(match K.lookup C with
  | some ⟨_,_,.cls cd,_⟩=>!cd.mro.contains (.ref D)
  | _=>false)
 | _,_=>false
section
variable {X:Cx}
end
section
variable {X:Cx}
end
structure RoomQ (k:Nat) (A:Around):Prop where
 dp:A.depth+3*k+5 < recursionLimit
 un:A.units+16*k+200 < cLine
structure FnQ (P:Program) (w:World) (K:PySem.W.Frag) (mg:Str->Option Value) (base:Heap) (k:Nat) (f:Addr) (fd:FuncData) (ps:List Str) (sp:Sp):Prop where
 len:∀vs H Q E,sp vs H Q E->vs.length=ps.length
 run:∀(A:Around) (outer:List Env) (s:Shared) (H:Hp) (args:Args) (us:List Value) (vs:List V) (Q:VK),RoomQ k A->Env0 P w K mg base A outer s H->BindsTo s fd args (ps.zip us)->D2 vs us->sp vs H Q E0->codeAny (model P w) A (.call (.ref f) args) (CR CX0 outer P w H s Q E0) s
theorem FnQ.mono{P:Program}{w:World}{K:PySem.W.Frag}{mg:Str->Option Value}{base:Heap}{j k:Nat}{f:Addr}{fd:FuncData}{ps:List Str}{sp:Sp}(F:FnQ P w K mg base j f fd ps sp) (h:j<=k):FnQ P w K mg base k f fd ps sp :=
 ⟨F.len,fun A outer s H args us vs Q hr=>F.run A outer s H args us vs Q ⟨by have:=hr.dp;omega,by have:=hr.un;omega⟩⟩
def spX(K:PySem.W.Frag) (F:Str->Option D):Sp:=fun vs H Q _=>∃Hf x v d,vs=[v]/\D0 Hf H/\SB K H H Hf (.exc x) v/\F x=some d/\∀u H' Hf',Grow H Hf H' Hf'->Rep K Hf' d u->Q u H'
section
variable {X:Cx}
end
abbrev bj6:=List (Str×(Str->Option D))
abbrev aw3:=List (Str×(List D->Option Str)×Nat)
structure Rg where
 rf:aw3
 cl:List Str
 tb:List (Str×List (Str×Bool))
 sb:List (Str×List Str)
 nb:List (Str×List Str)
 xf:bj6
structure FitR (S:Sg) (T:Rg) (c:Kx) (X:Cx):Prop where
 fit:Fit S c X
 ns:∀x C,clA X.K x=some C->X.mg x=some (.ref C)
 rfs:∀x R n,T.rf.lookup x=some (R,n)->∃(k:Nat) (f:Addr) (fd:FuncData) (ps:List Str),FnOk X.prog X.w X.K X.mg X.base (CX1 X.prog X.w) k f fd ps (spR X.K n R)/\Room k X.A/\X.mg x=some (.ref f)/\PySem.W.keepIn X.K (.ref f)=true/\K3 X.K fd ps []
 cls:∀x,T.cl.contains x=true->V5 X.K x=true
 tbs:∀y l,T.tb.lookup y=some l->(∃D,clA X.K y=some D/\aa6 X.K (.ref D) fun x=>l.lookup x)\/(y = "ValueError" /\ X.mg y=none/\aa6 X.K (.type "ValueError") fun x=>l.lookup x)
 sbs:∀y l,T.sb.lookup y=some l->V5 X.K y=true/\∀x∈l,V5 X.K x=true/\aX4 X.K x y=true
 nbs:∀y l,T.nb.lookup y=some l->∀x∈l,V5 X.K x=true/\bB3 X.K x y=true
 xfs:∀x F,T.xf.lookup x=some F->∃(k:Nat) (f:Addr) (fd:FuncData) (ps:List Str),FnQ X.prog X.w X.K X.mg X.base k f fd ps (spX X.K F)/\RoomQ k X.A/\X.mg x=some (.ref f)/\PySem.W.keepIn X.K (.ref f)=true/\K3 X.K fd ps []
section
variable (S:Sg) (T:Rg)
def fsP(c:Kx) (e:Expr):DE:=match e with
 | .FormattedValue v k sp _=>if k==114 then(match sp with
  | none=>dRp ((ev S 99).e c v)
  | some _=>dNo) else dNo
 | .Constant k _ _=>xCn k
 | _=>dNo
def msE(c:Kx) (e:Expr):DE:=match e with
 | .JoinedStr (e1::e2::es) _=>aI2 Str.empty ((e1::e2::es).map (fsP S c))
 | _=>(ev S 99).e c e
def fnL(c:Kx) (n:Nat):List Expr->Option (List (FnD×(List D->Option Str)))
 | []=>some []
 | .Name x _::es=>(match S.fn.lookup x,T.rf.lookup x with
  | some (F,m),some (R,m')=>if ag1 c.sc x&&m==n&&m'==n then(fnL c n es).map fun r=>(F,R)::r else none
  | _,_=>none)
 | _::_=>none
def xvE(c:Kx) (e:Expr):DE:=(fun _:Rg=>(ev S 99).e c e) T
def xvS(c:Kx) (st:Stmt):DS:=match st with
 | .Return o _=>(match o with
  | some e=>A9 (xvE S T c e)
  | none=>C2)
 | _=>xS S (ev S 99) c st
def rvN(c:Kx) (f a:Expr) (args:List Expr):RD:=match f with
 | .Name x _=>(match T.rf.lookup x with
  | some (R,n)=>if ag1 c.sc x&&(a::args).length==n&&(a::args).all pl then X0 R (evA ((ev S 99).e c) (a::args)) else rNo
  | none=>rNo)
 | _=>rNo
def rvE(c:Kx) (e:Expr):RD:=match e with
 | .Call f as kw _=>(match as,kw with
  | a::args,[]=>rvN S T c f a args
  | _,_=>rNo)
 | _=>rNo
def rvL(f:Stmt->RD) (c:Kx):List Stmt->RD
 | []=>rNo
 | [s]=>f s
 | s::t::r=>af7 (f s) (xS S (ev S 99) c s) (rvL f c (t::r))
def rvR(mk:Bool) (c:Kx) (a b:Option Expr):RD:=match a,b with
 | some e,none=>(match e with
  | .Call f as kw _=>(match f with
   | .Name x _=>(match as,kw with
    | [e],[]=>if mk&&T.cl.contains x&&ag1 c.sc x&&pl e then as7 x (msE S c e) else rNo
    | _,_=>rNo)
   | _=>rNo)
  | _=>rNo)
 | _,_=>rNo
def rvX(c:Kx) (e:Expr):RD:=match e with
 | .Call f as kw q=>rvE S T c (.Call f as kw q)
 | _=>rNo
def rvA(c:Kx) (v:Expr):List Expr->RD
 | [t]=>(match t with
  | .Name _ _=>rvX S T c v
  | _=>rNo)
 | _=>rNo
def rvS(mk:Bool):Nat->Kx->Stmt->RD
 | 0,_,_=>rNo
 | n+1,c,st=>match st with
  | .Raise a b _=>rvR S T mk c a b
  | .If t a b _=>rIf ((ev S 99).t c t) (rvL S (rvS mk n c) c a) (rvL S (rvS mk n c) c b)
  | .Expr e _=>rvX S T c e
  | .Return o _=>(match o with
   | some e=>rvE S T c e
   | none=>rNo)
  | .Assign ts v _=>rvA S T c v ts
  | _=>rNo
def rvB(mk:Bool) (c:Kx) (sts:List Stmt):RD:=rvL S (rvS S T mk 9 c) c sts
def zvI(c:Kx) (w:Str) (a b:Expr):DE:=match a with
 | .Name x _=>(match b with
  | .Name y _=>if biB S c "isinstance" w&&ar6 c.sc x&&ag1 c.sc y then(match T9 x c.N,T.tb.lookup y with
   | some i,some l=>aI1 i fun x=>l.lookup x
   | _,_=>dNo) else dNo
  | _=>dNo)
 | _=>dNo
def zvE(c:Kx):Nat->Expr->DE
 | 0,_=>dNo
 | n+1,ex=>match ex with
  | .Call f as kw cpos=>(match kw with
   | []=>(match f with
    | .Name w _=>(match as with
     | [a,b]=>zvI S T c w a b
     | _=>dNo)
    | _=>dNo)
   | _=>dNo)
  | .Constant k _ _=>xCn k
  | .Name x _=>(match T9 x c.N with
   | some i=>if ar6 c.sc x then A1 i else dNo
   | none=>dNo)
  | .Tuple es _ _=>if es.length<=1000 then F0 (evA (zvE c n) es) else dNo
  | .List es _=>if es.length<=1000 then Q0 (evA (zvE c n) es) else dNo
  | .UnaryOp op a _=>(match op with
   | .USub=>aT7 (zvE c n a)
   | .Not=>aa1 (zvE c n a)
   | _=>dNo)
  | .BinOp a op b _=>(match op with
   | .Add=>A5 B0 (zvE c n a) (zvE c n b)
   | _=>dNo)
  | .Compare a ops bs _=>(match ops,bs with
   | [op],[b]=>if pl b then A5 (aB7 op) (zvE c n a) (zvE c n b) else dNo
   | _,_=>dNo)
  | .BoolOp op vs _=>aR6 (zvE c n) op vs
  | _=>dNo
def zvA(c:Kx) (d:DE) (v:Expr):List Expr->DS
 | [t]=>(match t with
  | .Name x _=>(match T9 x c.N with
   | some i=>if aG4 c x && !(isC v) then B3 i d else C2
   | none=>C2)
  | _=>C2)
 | _=>C2
def hvE(c:Kx) (ex:Expr):DE:=zvE ⟨[],[],S.bl⟩ T c 9 ex
def hvS(c:Kx) (st:Stmt):DS:=match st with
 | .Assign ts v _=>zvA c (hvE S T c v) v ts
 | .Return o _=>(match o with
  | some e=>A9 (hvE S T c e)
  | none=>C2)
 | _=>C2
def u7(l:List Str) (r:RD):RD:=fun ρ=>match r ρ with
 | some (x,ρ1)=>if l.contains x then some (x,ρ1) else none
 | none=>none
def hnd:ExceptHandler->Option (Str×Option Str×Stmt×List Stmt)
 | .ExceptHandler t nm su _=>(match t with
  | some e=>(match e with
   | .Name y _=>(match su with
    | b0::suite=>some (y,nm,b0,suite)
    | []=>none)
   | _=>none)
  | none=>none)
def hc1(c:Kx) (h:ExceptHandler):Option (List Str×List Str×DS):=match hnd h with
 | some (y,none,b0,suite)=>(match T.sb.lookup y,T.nb.lookup y with
  | some l,some nl=>if ag1 c.sc y then some (l,nl,evB (hvS S T c) (b0::suite)) else none
  | _,_=>none)
 | _=>none
def hcL(c:Kx):List ExceptHandler->Option (List (List Str×List Str×DS))
 | []=>some []
 | h::hs=>(hc1 S T c h).bind fun x=>(hcL c hs).map fun r=>x::r
def tvA(c:Kx) (body:List Stmt) (h:ExceptHandler):DS:=match hnd h with
 | some (y,some n,b0,suite)=>(match T.sb.lookup y,T9 n c.N with
  | some l,some i=>if ag1 c.sc y&&c.sc.names.lookup n==some .local then ax6 (u7 l (rvB S T false c body)) (evB (xvS S T c) body) i (evB (hvS S T c) (b0::suite)) else C2
  | _,_=>C2)
 | _=>C2
def tvH(c:Kx) (body:List Stmt):List ExceptHandler->DS
 | []=>C2
 | h0::hs=>(match hs with
  | []=>tvA S T c body h0
  | _=>C2)
def tvS(c:Kx) (st:Stmt):DS:=match st with
 | .Try body hs oe fi _=>(match oe,fi with
  | [],[]=>tvH S T c body hs
  | _,_=>C2)
 | _=>xS S (ev S 99) c st
def rdT(tab:Tab) (cs:List (Str×D)) (bl:List Str) (T:Rg) (d:Fd):FnD:=C3 (evB (tvS ⟨tab,cs,bl⟩ T d.c) (G5 d.st)) d.N.length
def rdR(tab:Tab) (cs:List (Str×D)) (bl:List Str) (T:Rg) (d:Fd):List D->Option Str:=as3 (rvB ⟨tab,cs,bl⟩ T true d.c (G5 d.st)) d.N.length
end
section
variable {S:Sg}{T:Rg}{c:Kx}{X:Cx}
theorem bL5(F:Fit S c X) (e:Expr):JE X e (fsP S c e):=by
 unfold fsP
 split
 ·split
  ·rename_i h
   simp only[beq_iff_eq]at h
   subst h
   split
   ·exact bT3 ((P1 S 99).e F _)
   ·exact C5
  ·exact C5
 ·exact aD0 _ _ _
 ·exact C5
theorem aM3(F:Fit S c X):∀es:List Expr,JEs X es (es.map (fsP S c))
 | []=>.nil
 | e::es=>.cons (bL5 F e) (aM3 F es)
theorem bF7(F:Fit S c X) (e:Expr):JE X e (msE S c e):=by
 unfold msE
 split
 ·exact bT6 (aM3 F _)
 ·exact(P1 S 99).e F e
theorem bz1(F:FitR S T c X) (e:Expr):JE X e (xvE S T c e):=(P1 S 99).e F.fit e
theorem bz0(F:FitR S T c X) (st:Stmt):JS X st (xvS S T c st):=by
 unfold xvS
 split
 ·split
  ·exact aG6 (bz1 F _)
  ·exact B1
 ·exact ae3 (P1 S 99) F.fit st
theorem ax8{m:Bool}{e:Expr}:PX X m e rNo:=fun ρ x ρ1 C q=>by cases q
theorem aF3{m:Bool}(F:FitR S T c X) (e:Expr):PX X m e (rvE S T c e):=by
 unfold rvE
 split
 ·rename_i f as kw pos
  split
  ·rename_i a args
   unfold rvN
   split
   ·rename_i x p
    split
    ·rename_i R n hl
     split
     ·rename_i h
      simp only[Bool.and_eq_true,beq_iff_eq]at h
      obtain⟨⟨hg,hn⟩,hp⟩:=h
      obtain⟨g1,g2⟩:=T2 F.fit hg
      obtain⟨k,f,fd,ps,hk,hr,hm,hkp,hb⟩:=F.rfs _ _ _ hl
      simp only[List.all_cons,Bool.and_eq_true]at hp
      exact bm6 F.fit.hx hk hr g1 hm hkp hb (k6 ((P1 S 99).e F.fit) (a::args)) hn g2 (J4 hp.1 _ _) ((Z6 pos _).trans (R8 pos _ hp.2))
     ·exact ax8
    ·exact ax8
   ·exact ax8
  ·exact ax8
 ·exact ax8
theorem as1{m:Bool}{f:Stmt->RD}(F:FitR S T c X) (h:∀st,JR X m st (f st)):∀sts,JRs X m sts (rvL S f c sts)
 | []=>bI4
 | [s]=>br4 (h s)
 | s::t::r=>bd3 F.fit.hx (h s) (ae3 (P1 S 99) F.fit s) (as1 F h (t::r))
theorem bB8(F:FitR S T c X) (mk:Bool) (a b:Option Expr) (pos:Pos):JR X mk (.Raise a b pos) (rvR S T mk c a b):=by
 unfold rvR
 split
 ·split
  ·split
   ·rename_i x p
    split
    ·split
     ·rename_i h
      simp only[Bool.and_eq_true]at h
      obtain⟨⟨⟨rfl,hc⟩,hg⟩,hp⟩:=h
      obtain⟨g1,g2⟩:=T2 F.fit hg
      exact bd4 F.fit.hx (F.cls x hc) g1 (fun C=>F.ns x C) F.fit.calm (bF7 F.fit _) g2 (J4 hp [] _)
     ·exact X1
    ·exact X1
   ·exact X1
  ·exact X1
 ·exact X1
theorem aF2(F:FitR S T c X) (mk:Bool) (hlo:mk=true->bN5 X):∀(n:Nat) (st:Stmt),JR X mk st (rvS S T mk n c st)
 | 0,st=>X1
 | n+1,st=>by
  cases st
  case Raise=>exact bB8 F mk _ _ _
  case If=>exact bT0 F.fit.hx ((P1 S 99).t F.fit _) (as1 F (aF2 F mk hlo n) _) (as1 F (aF2 F mk hlo n) _)
  case Expr e p =>
   cases e
   case Call=>exact br5 (aF3 F _) rfl
   all_goals exact X1
  case Return o p =>
   cases o
   ·exact X1
   ·exact bI6 (aF3 F _)
  case Assign ts v p =>
   unfold rvS rvA
   dsimp only
   split
   ·split
    ·cases v
     case Call=>exact bI5 (aF3 F _) rfl
     all_goals exact X1
    ·exact X1
   ·exact X1
  all_goals exact X1
theorem aY3(F:FitR S T c X) (mk:Bool) (hlo:mk=true->bN5 X) (sts:List Stmt):JRs X mk sts (rvB S T mk c sts):=as1 F (aF2 F mk hlo 9) sts
abbrev Cx.quiet(X:Cx):Cx:={ X with calm:=true }
abbrev bV6(T:Rg) (X:Cx):Prop:=(∀x C,clA X.K x=some C->X.mg x=some (.ref C))/\∀y l,T.tb.lookup y=some l->(∃D,clA X.K y=some D/\aa6 X.K (.ref D) fun x=>l.lookup x)\/(y = "ValueError" /\ X.mg y=none/\aa6 X.K (.type "ValueError") fun x=>l.lookup x)
theorem by8(F:Fit S c (Cx.quiet X)) (tb:bV6 T X) (w:Str) (a b:Expr) (p pos:Pos):JE X (.Call (.Name w p) [a,b] [] pos) (zvI S T c w a b):=by
 unfold zvI
 split
 ·split
  ·rename_i x p1 y p2
   split
   ·rename_i h
    simp only[Bool.and_eq_true]at h
    obtain⟨rfl,h1,h2⟩:=G7 F h.1.1
    obtain⟨v1,v2,v3⟩:=V7 F h.1.2
    obtain⟨g1,g2⟩:=T2 F h.2
    split
    ·rename_i i l hi hl
     rcases tb.2 y l hl with⟨D,hD,ok⟩|⟨rfl,hm,ok⟩
     ·exact be6 (X:=X) (v:=.ref D) h1 h2 (F.slot hi) v1 v2 v3 (bo0 g1 (tb.1 y D hD) g2) rfl (fun u r=>r) ok
     ·exact be6 (X:=X) (v:=.ty "ValueError") h1 h2 (F.slot hi) v1 v2 v3 (aL0 (v:=.ty "ValueError") g1 hm (by decide +kernel) rfl (by decide) g2) rfl (fun u r=>r) ok
    ·exact C5
   ·exact C5
  ·exact C5
 ·exact C5
theorem aW3(F:Fit S c (Cx.quiet X)) (tb:bV6 T X):∀(n:Nat) (ex:Expr),JE X ex (zvE S T c n ex)
 | 0,ex=>C5
 | n+1,ex=>by
  have hu:X.A.units+64 < cLine:=F.units
  have R:=aW3 F tb n
  cases ex
  case Call f as kw cpos =>
   cases kw
   ·cases f
    case Name w p =>
     unfold zvE
     dsimp only
     split
     ·exact by8 F tb _ _ _ _ _
     ·exact C5
    all_goals exact C5
   ·exact C5
  case Constant=>exact aD0 _ _ _
  case Name x p =>
   unfold zvE
   dsimp only
   split
   ·rename_i i hi
    split
    ·rename_i v;obtain⟨h1,h2,h3⟩:=V7 F v;exact be0 (X:=X) i (F.slot hi) h1 h2 h3
    ·exact C5
   ·exact C5
  case Tuple es _ _ =>
   unfold zvE
   dsimp only
   split
   ·rename_i h;exact be2 (k6 R _) h
   ·exact C5
  case List es _ =>
   unfold zvE
   dsimp only
   split
   ·rename_i h;exact v9 (bd7 (k6 R _) h)
   ·exact C5
  case UnaryOp op a p =>
   cases op
   case USub=>exact aG8 (R _)
   case Not=>exact be4 (R _)
   all_goals exact C5
  case BinOp a op b p =>
   cases op
   case Add=>exact T8 aL5 (R _) (R _)
   all_goals exact C5
  case Compare a ops bs p =>
   unfold zvE
   dsimp only
   split
   ·split
    ·rename_i h;exact be9 (W4 hu _) (R _) (R _) (u8 h _)
    ·exact C5
   ·exact C5
  case BoolOp=>exact ah2 R _ _ _
  all_goals exact C5
theorem by9(F:Fit S c (Cx.quiet X)) {d:DE}{v:Expr}(h:JE X v d) (ts:List Expr) (pos:Pos):JS X (.Assign ts v pos) (zvA c d v ts):=by
 have nd:X.N.Nodup:=by have:X.N=c.N:=F.N;rw[this];exact F.nd
 unfold zvA
 split
 ·split
  ·split
   ·rename_i i hi
    split
    ·rename_i hc
     simp only[Bool.and_eq_true,Bool.not_eq_true']at hc
     obtain⟨l1,l2⟩:=ah1 F hc.1
     exact aG5 (X:=X) i nd h (F.slot hi) l1 (Y9 hc.2 _ _ _) l2
    ·exact B1
   ·exact B1
  ·exact B1
 ·exact B1
theorem FitR.hf(F:FitR S T c X) (a:Addr):Fit ⟨[],[],S.bl⟩ c (Cx.quiet (Cx.held X (.ref a))) :=
 ⟨F.fit.N,F.fit.sc,F.fit.nd,rfl,F.fit.xe,F.fit.units,F.fit.df,(fun x F n h=>nomatch h),(fun x d h=>nomatch h),F.fit.bls⟩
theorem bg0(F:FitR S T c X) (a:Addr) (ex:Expr):JE (Cx.held X (.ref a)) ex (hvE S T c ex):=aW3 (F.hf a) ⟨F.ns,F.tbs⟩ 9 ex
theorem bL1(F:FitR S T c X) (a:Addr) (st:Stmt):JS (Cx.held X (.ref a)) st (hvS S T c st):=by
 unfold hvS
 split
 ·exact by9 (F.hf a) (bg0 F a _) _ _
 ·split
  ·exact aG6 (bg0 F a _)
  ·exact B1
 ·exact B1
theorem bo7{m:Bool}{sts:List Stmt}{r:RD}{l:List Str}(h:JRs X m sts r):JRs X m sts (u7 l r):=fun ρ x ρ1 C q=>by
 unfold u7 at q
 split at q
 ·rename_i x' ρ' e
  split at q
  ·cases q;exact h ρ x ρ1 C e
  ·cases q
 ·cases q
theorem bo8{r:RD}{l:List Str}{ρ ρ1:Rho}{x:Str}(h:u7 l r ρ=some (x,ρ1)):x∈l:=by
 unfold u7 at h
 split at h
 ·split at h
  ·rename_i c;cases h;exact List.contains_iff_mem.mp c
  ·cases h
 ·cases h
theorem bL3{h:ExceptHandler}{y:Str}{nm:Option Str}{b0:Stmt}{suite:List Stmt}(e:hnd h=some (y,nm,b0,suite)):∃np hp,h=.ExceptHandler (some (.Name y np)) nm (b0::suite) hp:=by
 unfold hnd at e
 split at e
 split at e
 ·split at e
  ·split at e
   ·cases e;exact⟨_,_,rfl⟩
   ·cases e
  ·cases e
 ·cases e
theorem bA7(F:FitR S T c X) (hex:X.ex=[]) (hst:X.stack=X.env::X.outer) (hfr:X.env.frame=some X.env.locals) (body:List Stmt) (h:ExceptHandler) (pos:Pos):JS X (.Try body [h] [] [] pos) (tvA S T c body h):=by
 unfold tvA
 split
 ·rename_i y n b0 suite e
  obtain⟨np,hp,rfl⟩:=bL3 e
  split
  ·rename_i l i hl hi
   split
   ·rename_i h
    simp only[Bool.and_eq_true,beq_iff_eq]at h
    obtain⟨g1,g2⟩:=T2 F.fit h.1
    obtain⟨c1,c2⟩:=F.sbs y l hl
    exact bq9 F.fit.hx hex hst hfr (ac8 (bz0 F) body) (bo7 (aY3 F false (fun z=>by cases z) body)) g1 (fun D hD=>F.ns y D hD) g2 c1 (fun ρ x ρ1 e=>c2 x (bo8 e)) (by rw[F.fit.N];exact F.fit.nd) (F.fit.slot hi) (by rw[F.fit.sc];exact h.2) fun a=>ac8 (bL1 F a) (b0::suite)
   ·exact B1
  ·exact B1
 ·exact B1
theorem bA6(F:FitR S T c X) (hex:X.ex=[]) (hst:X.stack=X.env::X.outer) (hfr:X.env.frame=some X.env.locals) (st:Stmt):JS X st (tvS S T c st):=by
 unfold tvS
 split
 ·split
  ·unfold tvH
   split
   ·exact B1
   ·split
    ·exact bA7 F hex hst hfr _ _ _
    ·exact B1
  ·exact B1
 ·exact ae3 (P1 S 99) F.fit st
end
section
variable {P:Program}{w:World}{K:PySem.W.Frag}{mg:Str->Option Value}{base:Heap}{cs:List (Str×D)}{bl:List Str}
def TRk(P:Program) (w:World) (K:PySem.W.Frag) (mg:Str->Option Value) (base:Heap) (k:Nat) (rt:aw3):Prop:=∀x R n,rt.lookup x=some (R,n)->∃(f:Addr) (fd:FuncData) (ps:List Str),
 FnOk P w K mg base (CX1 P w) k f fd ps (spR K n R)/\mg x=some (.ref f)/\PySem.W.keepIn K (.ref f)=true/\K3 K fd ps []
theorem TRk.nil:TRk P w K mg base 0 []:=fun x R n h=>by cases h
theorem TRk.mono{j k:Nat}{rt:aw3}(T:TRk P w K mg base j rt) (h:j<=k):TRk P w K mg base k rt:=fun x R n e =>
 let⟨f,fd,ps,h1,h2,h3,h4⟩:=T x R n e
 ⟨f,fd,ps,h1.mono h,h2,h3,h4⟩
theorem TRk.cons{k:Nat}{rt:aw3}{x:Str}{R:List D->Option Str}{n:Nat}(T:TRk P w K mg base k rt) (h:∃(f:Addr) (fd:FuncData) (ps:List Str),FnOk P w K mg base (CX1 P w) k f fd ps (spR K n R)/\mg x=some (.ref f)/\PySem.W.keepIn K (.ref f)=true/\K3 K fd ps []) :
  TRk P w K mg base k ((x,R,n)::rt):=fun y G m e=>by
 rw[List.lookup_cons]at e
 split at e
 ·rename_i q
  cases e
  simp only[beq_iff_eq]at q
  subst q
  exact h
 ·exact T y G m e
structure Cl (K:PySem.W.Frag) (mg:Str->Option Value) (T:Rg):Prop where
 cls:∀x,T.cl.contains x=true->V5 K x=true
 tbs:∀y l,T.tb.lookup y=some l->(∃D,clA K y=some D/\aa6 K (.ref D) fun x=>l.lookup x)\/(y = "ValueError" /\ mg y=none/\aa6 K (.type "ValueError") fun x=>l.lookup x)
 sbs:∀y l,T.sb.lookup y=some l->V5 K y=true/\∀x∈l,V5 K x=true/\aX4 K x y=true
 nbs:∀y l,T.nb.lookup y=some l->∀x∈l,V5 K x=true/\bB3 K x y=true
theorem bi9{x:Str}{C:Addr}(M:Md K mg cs bl) (h:clA K x=some C):mg x=some (.ref C):=by
 unfold clA at h
 split at h
 ·rename_i C' e;cases h;exact M.ns _ _ e
 ·cases h
def TXk(P:Program) (w:World) (K:PySem.W.Frag) (mg:Str->Option Value) (base:Heap) (k:Nat) (xt:bj6):Prop:=∀x F,xt.lookup x=some F->∃(f:Addr) (fd:FuncData) (ps:List Str),
 FnQ P w K mg base k f fd ps (spX K F)/\mg x=some (.ref f)/\PySem.W.keepIn K (.ref f)=true/\K3 K fd ps []
theorem TXk.nil:TXk P w K mg base 0 []:=fun x R h=>by cases h
theorem TXk.mono{j k:Nat}{xt:bj6}(T:TXk P w K mg base j xt) (h:j<=k):TXk P w K mg base k xt:=fun x F e =>
 let⟨f,fd,ps,h1,h2,h3,h4⟩:=T x F e
 ⟨f,fd,ps,h1.mono h,h2,h3,h4⟩
theorem bL7{k:Nat}{tab:Tab}{T:Rg}{d:Fd}{f:Addr}{fd:FuncData}(M:Md K mg cs bl) (Tk:TOk P w K mg base k tab) (Rk:TRk P w K mg base k T.rf) (Xk:TXk P w K mg base k T.xf) (Ck:Cl K mg T) (ok:d.okB=true) (Fn:Fun K d.x d.x d.st f fd):FnOk P w K mg base (CX1 P w) (k+1) f fd d.ps (spR K d.ps.length (rdR tab cs bl T d)):=by
 have Sc:=Fd.sc ok
 refine bh0 (N:=d.N) Fn Sc fun cdv A outer s H E hr=>aY3 (c:=d.c) ⟨?_,fun x C h=>bi9 M h,fun x R n h=>?_,Ck.cls,Ck.tbs,Ck.sbs,Ck.nbs,fun x F h=>?_⟩ true (fun _=>bG3) _
 ·refine⟨rfl,rfl,Sc.nd,rfl,rfl,hr.units,fun _=>⟨fun _=>rfl,Sc.kind⟩,fun x F n h=>?_,M.css,M.bls⟩
  exact(Tk x F n h).imp (fun⟨f',fd',ps,h1,h2,h3,h4⟩=>⟨k,f',fd',ps,h1,hr,h2,h3,h4⟩) id
 ·obtain⟨f',fd',ps,h1,h2,h3,h4⟩:=Rk x R n h
  exact⟨k,f',fd',ps,h1,hr,h2,h3,h4⟩
 ·obtain⟨f',fd',ps,h1,h2,h3,h4⟩:=Xk x F h
  exact⟨k,f',fd',ps,h1,⟨hr.dp,hr.un⟩,h2,h3,h4⟩
theorem bL6{k:Nat}{tab:Tab}{T:Rg}{d:Fd}{f:Addr}{fd:FuncData}(M:Md K mg cs bl) (Tk:TOk P w K mg base k tab) (Rk:TRk P w K mg base k T.rf) (Xk:TXk P w K mg base k T.xf) (Ck:Cl K mg T) (ok:d.okB=true) (Fn:Fun K d.x d.x d.st f fd):FnOk P w K mg base CX0 (k+1) f fd d.ps (spF K d.ps.length (rdT tab cs bl T d)):=by
 have Sc:=Fd.sc ok
 refine au5 (N:=d.N) Fn Sc fun cdv A outer s H E hr=>ac8 (fun st=>bA6 (c:=d.c) ⟨?_,fun x C h=>bi9 M h,fun x R n h=>?_,Ck.cls,Ck.tbs,Ck.sbs,Ck.nbs,fun x F h=>?_⟩ rfl rfl rfl st) _
 ·refine⟨rfl,rfl,Sc.nd,rfl,rfl,hr.units,fun _=>⟨fun _=>rfl,Sc.kind⟩,fun x F n h=>?_,M.css,M.bls⟩
  exact(Tk x F n h).imp (fun⟨f',fd',ps,h1,h2,h3,h4⟩=>⟨k,f',fd',ps,h1,hr,h2,h3,h4⟩) id
 ·obtain⟨f',fd',ps,h1,h2,h3,h4⟩:=Rk x R n h
  exact⟨k,f',fd',ps,h1,hr,h2,h3,h4⟩
 ·obtain⟨f',fd',ps,h1,h2,h3,h4⟩:=Xk x F h
  exact⟨k,f',fd',ps,h1,⟨hr.dp,hr.un⟩,h2,h3,h4⟩
end
def bt3(K:PySem.W.Frag) (cv:Value) (p:Str×Bool):Bool:=match clA K p.1 with
 | some C=>xcB K C&&PySem.W.excIn K C veB "ValueError.__new__" && PySem.W.kitOne K (.ref C) cv==some p.2
 | none=>false
def clB(K:PySem.W.Frag) (cl:List Str) (tb:List (Str×List (Str×Bool))) (sb nb:List (Str×List Str)):Bool :=
 cl.all (V5 K)&&tb.all (fun p=>match clA K p.1 with
  | some D=>p.2.all (bt3 K (.ref D))
  | none=>p.1 == "ValueError" && p.2.all (bt3 K (.type "ValueError")))&&(sb.all fun p=>V5 K p.1&&p.2.all fun x=>V5 K x&&aX4 K x p.1)&&nb.all fun p=>p.2.all fun x=>V5 K x&&bB3 K x p.1
theorem S0{α:Type}{x:Str}{a:α}:∀{l:List (Str×α)},l.lookup x=some a->(x,a)∈l
 | [],h=>by cases h
 | (y,b)::l,h=>by
  rw[List.lookup_cons]at h
  split at h
  ·rename_i q
   simp only[beq_iff_eq]at q
   cases h;subst q;exact List.mem_cons_self ..
  ·exact xmm _ (S0 h)
theorem bf4{K:PySem.W.Frag}{cv:Value}{l:List (Str×Bool)}(h:l.all (bt3 K cv)=true):aa6 K cv fun x=>l.lookup x:=fun x b e=>by
 have:=List.all_eq_true.mp h _ (S0 e)
 unfold bt3 at this
 split at this
 ·rename_i C hC
  simp only[Bool.and_eq_true,beq_iff_eq]at this
  exact⟨C,hC,this.1.1,this.1.2,this.2⟩
 ·cases this
section
variable {P:Program}{w:World}{K:PySem.W.Frag}{mg:Str->Option Value}{base:Heap}{cs:List (Str×D)}{bl:List Str}
theorem Cl.of{T:Rg}(M:Md K mg cs bl) (hv:bl.contains "ValueError" = true) (h:clB K T.cl T.tb T.sb T.nb=true):Cl K mg T:=by
 simp only[clB,Bool.and_eq_true]at h
 obtain⟨⟨⟨h1,h2⟩,h3⟩,h4⟩:=h
 refine⟨fun x hx=>List.all_eq_true.mp h1 x (List.contains_iff_mem.mp hx),fun y l e=>?_,fun y l e=>?_,fun y l e=>?_⟩
 ·have:=List.all_eq_true.mp h2 _ (S0 e)
  dsimp only at this
  split at this
  ·rename_i D hD;exact .inl ⟨D,hD,bf4 this⟩
  ·simp only[Bool.and_eq_true,beq_iff_eq]at this
   exact .inr ⟨this.1,by rw[this.1];exact M.bls _ hv,bf4 this.2⟩
 ·have:=List.all_eq_true.mp h3 _ (S0 e)
  simp only[Bool.and_eq_true,List.all_eq_true]at this
  exact this
 ·have:=List.all_eq_true.mp h4 _ (S0 e)
  simp only[Bool.and_eq_true,List.all_eq_true]at this
  exact this
theorem TRk.add{k:Nat}{tab:Tab}{T:Rg}(Rk:TRk P w K mg base k T.rf) (Tk:TOk P w K mg base k tab) (Xk:TXk P w K mg base k T.xf) (M:Md K mg cs bl) (Ck:Cl K mg T) (d:Fd) (h:KF K d.x d.st) (R:List D->Option Str) (e:rdR tab cs bl T d=R:=by kernel_rfl) (ok:d.okB=true:=by kernel_rfl) (bd:Bd d:=by repeat (first|exact rfl|intro _)):TRk P w K mg base (k+1) ((d.x,R,d.ps.length)::T.rf):=by
 subst e
 obtain⟨f,kV,dc,pm,an,cd,ct,Fn,hm⟩:=S1 h M
 exact(Rk.mono (Nat.le_succ k)).cons ⟨f,_,d.ps,bL7 M Tk Rk Xk Ck ok Fn,hm,Fn.kp,.all (ua (bd kV dc pm an cd ct))⟩
theorem TOk.addT{k:Nat}{tab:Tab}{T:Rg}(Tk:TOk P w K mg base k tab) (Rk:TRk P w K mg base k T.rf) (Xk:TXk P w K mg base k T.xf) (M:Md K mg cs bl) (Ck:Cl K mg T) (d:Fd) (h:KF K d.x d.st) (F:FnD) (e:rdT tab cs bl T d=F:=by kernel_rfl) (ok:d.okB=true:=by kernel_rfl) (bd:Bd d:=by repeat (first|exact rfl|intro _)):TOk P w K mg base (k+1) ((d.x,F,d.ps.length)::tab):=by
 subst e
 obtain⟨f,kV,dc,pm,an,cd,ct,Fn,hm⟩:=S1 h M
 exact(Tk.mono (Nat.le_succ k)).cons ⟨f,_,d.ps,bL6 M Tk Rk Xk Ck ok Fn,hm,Fn.kp,.all (ua (bd kV dc pm an cd ct))⟩
end
def spN(K:PySem.W.Frag) (n:Nat) (F:List D->Option (List D)):Sp:=fun vs H Q _=>vs.length=n/\∃Hf ds es,D0 Hf H/\Reps K Hf ds vs/\F ds=some es/\∀a us H' Hf',Grow H Hf H' Hf'->H a=none->H' a=some (.lst us)->Hf' a=none->Reps K Hf' es us->Q (.ref a) H'
section
variable {X:Cx}
def ay9(F:List D->Option (List D)) (f:Rho->Option (List D)):Rho->Option (List D):=fun ρ=>(f ρ).bind F
theorem bs1{k:Nat}{f:Addr}{fd:FuncData}{ps:List Str}{n:Nat}{F:List D->Option (List D)}{x:Str}{e:Expr}{es:List Expr}{g:Rho->Option (List D)}{p pos:Pos}(Fk:FnOk X.prog X.w X.K X.mg X.base CX0 k f fd ps (spN X.K n F)) (hr:Room k X.A) (hg:Gl X x) (hm:X.mg x=some (.ref f)) (hk:PySem.W.keepIn X.K (.ref f)=true) (hb:K3 X.K fd ps [])
  (ha:JA X (e::es) g) (hn:(e::es).length=n) (hdb:(x==("__debug__" : Str))=false) (he:starEach (e::es) X.env=(false,eval e X.env)::starEach es X.env) (hpl:(backTo pos (starEach es X.env)).any (·.1)=false) :
  JN X (.Call (.Name x p) (e::es) [] pos) (ay9 F g):=fun ρ ls q=>by
 obtain⟨ds,h1,h2⟩:=xbo q
 refine C0 (aK8 Fk hr hg hm hk hb .nil ba0 (fun pos pins s σ H Q I t=>ha.run ρ ds h1 pos pins s σ H Q I t) hdb he hpl) fun σ H Q ⟨H0,Hf,s,sl,kk⟩=>?_
 refine⟨H0,Hf,s,sl,fun vs H1 Hf1 g1 r1=>⟨?_,Hf1,ds,ls,g1.sub,by rw[List.append_nil];exact r1,h2,fun a us H2 Hf2 g2 n1 n2 n3 r2=>kk _ H2 Hf2 (g1.trans g2) ⟨a,us,rfl,g1.big.free n1,n2,n3,r2⟩⟩⟩
 rw[List.append_nil,r1.length,ha.len ρ ds h1,hn]
def tJN(K:PySem.W.Frag) (H0 Hf0:Hp) (ρ:Rho) (ds:List D):TS:=fun En σ H=>∃Hf,At K H0 Hf0 ρ σ H Hf/\∀a us H' Hf',Grow H0 Hf0 H' Hf'->H0 a=none->H' a=some (.lst us)->Hf' a=none->Reps K Hf' ds us->En.rt (.ref a) H'
def JSN(X:Cx) (sts:List Stmt) (f:Rho->Option (List D)):Prop:=∀ρ ds,f ρ=some ds->∀H0 Hf0,PSs X sts (tJN X.K H0 Hf0 ρ ds)
def aQ6(f:DS) (g:Rho->Option (List D)):Rho->Option (List D):=fun ρ=>(f ρ).bind fun fl=>match fl with
 | .nx ρ'=>g ρ'
 | _=>none
theorem bc9{st:Stmt}{sts:List Stmt}{f:DS}{g:Rho->Option (List D)}(h1:JS X st f) (h2:JSN X sts g):JSN X (st::sts) (aQ6 f g):=fun ρ ds q H0 Hf0=>by
 obtain⟨fl1,e1,q⟩:=xbo q
 cases fl1 with
 | nx ρ'=>exact b6 (Y6 (h1 ρ _ e1 H0 Hf0) (h2 ρ' ds q H0 Hf0)) fun En σ H ⟨Hf,a,e⟩=>⟨Hf,a,fun σ' H' Hf' a' _=>⟨Hf',a',e⟩⟩
 | rt d=>cases q
 | bk ρ'=>cases q
 | ct ρ'=>cases q
theorem bq8{e:Expr}{f:Rho->Option (List D)}{pos:Pos}(h:JN X e f):JSN X [.Return (some e) pos] f:=fun ρ ds q H0 Hf0 =>
 as9 (J7 (aF5 (h ρ ds q)) fun En σ H ⟨Hf,a,e⟩=>⟨H0,Hf,a.gr.sub,a.sl,fun v H' Hf' g ⟨b,us,e1,e2,e3,e4,e5⟩=>by
  subst e1
  exact e b us H' Hf' (a.gr.trans g) (a.gr.big.free e2) e3 e4 e5⟩)
def bp7(i:Nat):Rho->Option (List D):=fun ρ=>match ρ[i]? with
 | some (some (.own ds))=>some ds
 | _=>none
theorem bq7(i:Nat) {x:Str}{p pos:Pos}(hN:X.N[i]? = some x) (hv:Vis X.env.scope x) (hd:(x==("__debug__" : Str))=false) (hcd:(x==("__classdict__" : Str))=false):JSN X [.Return (some (.Name x p)) pos] (bp7 i):=fun ρ ds q H0 Hf0=>by
 unfold bp7 at q
 split at q
 ·rename_i ds' e
  cases q
  refine as9 (J7 (aF5 (W3 hN hv hd hcd)) fun En σ H ⟨Hf,a,k⟩=>?_)
  obtain⟨v,h1,b,vs,rfl,h2,h3,h4,h5⟩:=a.sl.is i _ e
  exact⟨_,h1,k b vs H Hf a.gr h4 h2 h3 h5⟩
 ·cases q
def bl7(i:Nat) (t:Rho->Option Bool):Rho->Option Bool:=fun ρ=>t (frz i ρ)
theorem aP3{K:PySem.W.Frag}{H0 H Hf:Hp}{ρ:Rho}{σ:L2.St}(s:Slots K H0 ρ σ H Hf):Slots K (fun _=>none) ρ σ H Hf:=by
 refine⟨s.len,fun i b e=>?_,s.apart⟩
 obtain⟨v,h1,h2⟩:=s.is i b e
 refine⟨v,h1,?_⟩
 cases b with
 | val d=>exact h2
 | exc C=>exact h2
 | own ds =>
  obtain⟨a,vs,e1,e2,e3,e4,e5⟩:=h2
  exact⟨a,vs,e1,e2,e3,rfl,e5⟩
theorem bH6(i:Nat) {e:Expr}{t:Rho->Option Bool}(h:JT X e t):JT X e (bl7 i t):=fun ρ c q=>ai9 (h (frz i ρ) c q) fun σ H Q ⟨H0,Hf,s,sl,k⟩=>by
 obtain⟨Hf',s',a'⟩:=bg9 (K:=X.K) (H0:=fun _=>none) (Hf0:=fun _=>none) i ⟨⟨(fun _ _ e=>nomatch e),s,(fun _ _ e=>nomatch e),fun _ _=>.inr rfl⟩,aP3 sl⟩
 exact⟨_,Hf',a'.gr.sub,a'.sl,fun H' Hf2 g=>k H' Hf ⟨g.big,s.trans g.big,D0.refl _,fun _ h=>.inl h⟩⟩
end
theorem bh1{P:Program}{w:World}{K:PySem.W.Frag}{mg:Str->Option Value}{base:Heap}{x qual:Str}{st:Stmt}{f:Addr}{fd:FuncData}{N ps:List Str}{k:Nat}{g:Rho->Option (List D)}(F:Fun K x qual st f fd) (S:FnScope N ps (C6 st))
  (hb:∀(cdv:Value) (A:Around) (outer:List Env) (s:Shared) (H:Hp) (E:XK),Room k (A.deeper (envOfC qual (C6 st) s.heap.objs.size f cdv))->JSN (am9 CX0 P w K mg base N qual (C6 st) f cdv A outer s H E).nox (G5 st) g) :
  FnOk P w K mg base CX0 (k+1) f fd ps (spN K ps.length fun ds=>g (L6 N.length ds)):=by
 refine F.ok S (fun vs H Q E h=>h.1) fun cdv A outer s H vs Q E hr hsp=>?_
 obtain⟨hlen,Hf,ds,es,ss,rp,e,kk⟩:=hsp
 exact⟨_,hb cdv A outer s H E hr _ es e H Hf,Hf,⟨Grow.refl ss,X8 rp⟩,fun a us H' Hf' g h0 h1 h2 r=>kk a us H' Hf' g h0 h1 h2 r⟩
abbrev al1:=List (Str×(List D->Option (List D))×Nat)
structure FitN (S:Sg) (nt:al1) (c:Kx) (X:Cx):Prop where
 fit:Fit S c X
 nfs:∀x F n,nt.lookup x=some (F,n)->∃(k:Nat) (f:Addr) (fd:FuncData) (ps:List Str),FnOk X.prog X.w X.K X.mg X.base CX0 k f fd ps (spN X.K n F)/\Room k X.A/\X.mg x=some (.ref f)/\PySem.W.keepIn X.K (.ref f)=true/\K3 X.K fd ps []
section
variable (S:Sg) (nt:al1)
def nvC(c:Kx) (e:Expr):DA:=match e with
 | .Call f as kw _=>(match f with
  | .Name x _=>(match as,kw with
   | a::args,[]=>(match nt.lookup x with
    | some (F,n)=>if ag1 c.sc x&&(a::args).length==n&&(a::args).all pl then ay9 F (evA ((ev S 99).e c) (a::args)) else aNo
    | none=>aNo)
   | _,_=>aNo)
  | _=>aNo)
 | _=>aNo
def bL0(v:Expr):Bool:=match v with
 | .Call f _ _ _=>(match f with
  | .Name x _=>(nt.lookup x).isSome
  | _=>false)
 | _=>false
def nvA(c:Kx) (v:Expr) (d:DS):List Expr->DS
 | [t]=>(match t with
  | .Name x _=>(match T9 x c.N with
   | some i=>if c.own.contains i&&bL0 nt v then(if aG4 c x then S7 i (nvC S nt c v) else C2) else d
   | none=>d)
  | _=>d)
 | _=>d
def nvI(c:Kx) (t:Expr) (a b:List Stmt) (d:DS):Option (List Nat)->DS
 | some [i]=>sIf (bl7 i ((ev S 99).t c t)) ((ev S 99).b c a) ((ev S 99).b c b)
 | _=>d
def nvS(c:Kx) (st:Stmt):DS:=match st with
 | .Assign ts v p=>nvA S nt c v (xS S (ev S 99) c (.Assign ts v p)) ts
 | .If t a b p=>nvI S c t a b (xS S (ev S 99) c (.If t a b p)) (c.fz.lookup p.line)
 | _=>xS S (ev S 99) c st
def nvR(c:Kx) (e:Expr):DA:=match e with
 | .Name x _=>(match T9 x c.N with
  | some i=>if ar6 c.sc x then bp7 i else aNo
  | none=>aNo)
 | _=>nvC S nt c e
def nvB(c:Kx):List Stmt->DA
 | []=>aNo
 | [s]=>(match s with
  | .Return o _=>(match o with
   | some e=>nvR S nt c e
   | none=>aNo)
  | _=>aNo)
 | s::t::r=>aQ6 (xS S (ev S 99) c s) (nvB c (t::r))
def rdN(tab:Tab) (cs:List (Str×D)) (bl:List Str) (nt:al1) (d:Fd):List D->Option (List D):=fun ds=>nvB ⟨tab,cs,bl⟩ nt d.c (G5 d.st) (L6 d.N.length ds)
def rdL(tab:Tab) (cs:List (Str×D)) (bl:List Str) (nt:al1) (d:Fd):FnD:=C3 (evB (nvS ⟨tab,cs,bl⟩ nt d.c) (G5 d.st)) d.N.length
end
section
variable {S:Sg}{nt:al1}{c:Kx}{X:Cx}
theorem v7{e:Expr}:JN X e aNo:=fun ρ ds q=>by cases q
theorem ba8(F:FitN S nt c X) (e:Expr):JN X e (nvC S nt c e):=by
 unfold nvC
 split
 ·rename_i cp
  split
  ·split
   ·split
    ·rename_i hl
     split
     ·rename_i h
      simp only[Bool.and_eq_true,beq_iff_eq,List.all_cons]at h
      obtain⟨⟨hg,hn⟩,hp⟩:=h
      obtain⟨g1,g2⟩:=T2 F.fit hg
      obtain⟨k,f,fd,ps,h1,h2,h3,h4,h5⟩:=F.nfs _ _ _ hl
      exact bs1 h1 h2 g1 h3 h4 h5 (k6 ((P1 S 99).e F.fit) (_::_)) hn g2 (J4 hp.1 _ _) ((Z6 cp _).trans (R8 cp _ hp.2))
     ·exact v7
    ·exact v7
   ·exact v7
  ·exact v7
 ·exact v7
theorem bK9{v:Expr}(h:bL0 nt v=true):isC v=false:=by
 unfold bL0 at h
 split at h
 ·rfl
 ·cases h
theorem bE7(F:FitN S nt c X) (v:Expr) {d:DS}(ts:List Expr) (p:Pos) (h:JS X (.Assign ts v p) d):JS X (.Assign ts v p) (nvA S nt c v d ts):=by
 unfold nvA
 split
 ·split
  ·split
   ·rename_i hi
    split
    ·rename_i q
     simp only[Bool.and_eq_true]at q
     split
     ·rename_i hl
      obtain⟨l1,l2⟩:=ah1 F.fit hl
      exact bd1 _ (by rw[F.fit.N];exact F.fit.nd) (ba8 F v) (F.fit.slot hi) l1 (Y9 (bK9 q.2) _ _ _) l2
     ·exact B1
    ·exact h
   ·exact h
  ·exact h
 ·exact h
theorem bE6(F:FitN S nt c X) (st:Stmt):JS X st (nvS S nt c st):=by
 unfold nvS
 split
 ·exact bE7 F _ _ _ (ae3 (P1 S 99) F.fit _)
 ·unfold nvI
  split
  ·exact bx4 (bH6 _ ((P1 S 99).t F.fit _)) ((P1 S 99).b F.fit _) ((P1 S 99).b F.fit _)
  ·exact ae3 (P1 S 99) F.fit _
 ·exact ae3 (P1 S 99) F.fit st
theorem Z2{sts:List Stmt}:JSN X sts aNo:=fun ρ ds q=>by cases q
theorem ba9(F:FitN S nt c X):∀sts:List Stmt,JSN X sts (nvB S nt c sts)
 | []=>Z2
 | [s]=>by
  unfold nvB
  split
  ·split
   ·unfold nvR
    split
    ·split
     ·rename_i hi
      split
      ·rename_i h
       obtain⟨h1,h2,h3⟩:=V7 F.fit h
       exact bq7 _ (F.fit.slot hi) h1 h2 h3
      ·exact Z2
     ·exact Z2
    ·exact bq8 (ba8 F _)
   ·exact Z2
  ·exact Z2
 | s::t::r=>by
  unfold nvB
  exact bc9 (ae3 (P1 S 99) F.fit s) (ba9 F (t::r))
end
section
variable {P:Program}{w:World}{K:PySem.W.Frag}{mg:Str->Option Value}{base:Heap}{cs:List (Str×D)}{bl:List Str}
def TNk(P:Program) (w:World) (K:PySem.W.Frag) (mg:Str->Option Value) (base:Heap) (k:Nat) (nt:al1):Prop:=∀x F n,nt.lookup x=some (F,n)->∃(f:Addr) (fd:FuncData) (ps:List Str),
 FnOk P w K mg base CX0 k f fd ps (spN K n F)/\mg x=some (.ref f)/\PySem.W.keepIn K (.ref f)=true/\K3 K fd ps []
theorem TNk.nil:TNk P w K mg base 0 []:=fun x R n h=>by cases h
theorem TNk.mono{j k:Nat}{nt:al1}(T:TNk P w K mg base j nt) (h:j<=k):TNk P w K mg base k nt:=fun x R n e =>
 let⟨f,fd,ps,h1,h2,h3,h4⟩:=T x R n e
 ⟨f,fd,ps,h1.mono h,h2,h3,h4⟩
theorem TNk.cons{k:Nat}{nt:al1}{x:Str}{R:List D->Option (List D)}{n:Nat}(T:TNk P w K mg base k nt) (h:∃(f:Addr) (fd:FuncData) (ps:List Str),FnOk P w K mg base CX0 k f fd ps (spN K n R)/\mg x=some (.ref f)/\PySem.W.keepIn K (.ref f)=true/\K3 K fd ps []) :
  TNk P w K mg base k ((x,R,n)::nt):=fun y G m e=>by
 rw[List.lookup_cons]at e
 split at e
 ·rename_i q
  cases e
  simp only[beq_iff_eq]at q
  subst q
  exact h
 ·exact T y G m e
theorem bU3{k:Nat}{tab:Tab}{nt:al1}{d:Fd}{f:Addr}{cdv:Value}{A:Around}{outer:List Env}{s:Shared}{H:Hp}{E:XK}(M:Md K mg cs bl) (Tk:TOk P w K mg base k tab) (Nk:TNk P w K mg base k nt) (ok:d.okB=true) (hr:Room k (A.deeper (envOfC d.x (C6 d.st) s.heap.objs.size f cdv))):FitN ⟨tab,cs,bl⟩ nt d.c (am9 CX0 P w K mg base d.N d.x (C6 d.st) f cdv A outer s H E).nox:=by
 have Sc:=Fd.sc ok
 refine⟨⟨rfl,rfl,Sc.nd,rfl,rfl,hr.units,fun _=>⟨fun _=>rfl,Sc.kind⟩,fun x F n h=>?_,M.css,M.bls⟩,fun x F n h=>?_⟩
 ·exact(Tk x F n h).imp (fun⟨f',fd',ps,h1,h2,h3,h4⟩=>⟨k,f',fd',ps,h1,hr,h2,h3,h4⟩) id
 ·obtain⟨f',fd',ps,h1,h2,h3,h4⟩:=Nk x F n h
  exact⟨k,f',fd',ps,h1,hr,h2,h3,h4⟩
theorem TNk.add{k:Nat}{tab:Tab}{nt:al1}(Nk:TNk P w K mg base k nt) (Tk:TOk P w K mg base k tab) (M:Md K mg cs bl) (d:Fd) (h:KF K d.x d.st) (R:List D->Option (List D)) (e:rdN tab cs bl nt d=R:=by kernel_rfl) (ok:d.okB=true:=by kernel_rfl) (bd:Bd d:=by repeat (first|exact rfl|intro _)):TNk P w K mg base (k+1) ((d.x,R,d.ps.length)::nt):=by
 subst e
 obtain⟨f,kV,dc,pm,an,cd,ct,Fn,hm⟩:=S1 h M
 exact(Nk.mono (Nat.le_succ k)).cons ⟨f,_,d.ps,bh1 (N:=d.N) Fn (Fd.sc ok) fun cdv A outer s H E hr=>ba9 (bU3 M Tk Nk ok hr) _,hm,Fn.kp,.all (ua (bd kV dc pm an cd ct))⟩
theorem bc3{k:Nat}{tab:Tab}{nt:al1}{F:FnD}{fa:Addr}{x:Str}(M:Md K mg cs bl) (T:∀base:Heap,TOk P w K mg base k tab/\TNk P w K mg base k nt) (d:Fd) (h:KF K d.x d.st) (e:rdL tab cs bl nt d=F) (hm:mg d.x=some (.ref fa)) (hp:d.ps=[x]:=by rfl) (ok:d.okB=true:=by kernel_rfl) (bd:Bd d:=by repeat (first|exact rfl|intro _)) :
  ∃fd:FuncData,(∀(s:Shared) (u:Value),BindsTo s fd ⟨[u],[]⟩ [(x,u)])/\∀base:Heap,FnOk P w K mg base CX0 (k+1) fa fd [x] (spF K 1 F):=by
 subst e
 obtain⟨f,kV,dc,pm,an,cd,ct,Fn,hm'⟩:=S1 h M
 cases hm.symm.trans hm'
 refine⟨PySem.W.fnOf d.x d.x (R1 d.st) (G5 d.st) (C6 d.st) .none kV dc pm an cd ct,fun s u=>.of_eq ?_,fun base=>?_⟩
 ·have:=ua (bd kV dc pm an cd ct) [u] (by rw[hp];rfl)
  rw[hp]at this
  exact this
 ·have:FnOk P w K mg base CX0 (k+1) fa _ d.ps (spF K d.ps.length (rdL tab cs bl nt d)):=au5 (N:=d.N) Fn (Fd.sc ok) fun cdv A outer s H E hr=>ac8 (bE6 (bU3 M (T base).1 (T base).2 ok hr)) _
  rw[hp]at this
  exact this
end
end G
namespace Lk21
open PySem PySem.Spec PyProof.Rows L2 G Sh
def top(i:Nat):Stmt:=PySem.Challenge.pw_glazework_k21_names.main.body.getD i (.Pass ⟨0,0,0,0⟩)
def F9:List D->Option Str:=as3 (af7 rNo (B3 2 (A2 (D7 12) (A0 (dIx (A7 0) ⇑2) (A0 (A1 1) A3)))) (af7 (rIf (tB2 isB (A1 2) (dC .none)) (as7 "NoName" (aI2 Str.empty [dC (.str "no node has the name "),dRp (A1 1)])) rNo) (sIf (tB2 isB (A1 2) (dC .none)) C2 C7) rNo)) 3
def L9:List D->Option Str:=as3 (af7 (X0 F9 (A0 (A1 0) (A0 (A1 1) A3))) (B3 2 (A2 K0 (A0 (A1 0) (A0 (A1 1) A3)))) rNo) 3
def O1:List D->Option Str:=as3 (af7 (X0 F9 (A0 (A1 0) (A0 (A1 1) A3))) (B3 3 (A2 K0 (A0 (A1 0) (A0 (A1 1) A3)))) (af7 rNo (B3 4 (A2 D3 (A0 (A1 3) (A0 (A1 1) A3)))) rNo)) 5
def ae9:DS:=(A8 (ax6 (u7 ["NoName"] (rIf (tB2 eqD (A1 0) ⇑0) (X0 L9 (A0 (A1 1) (A0 (A1 2) A3))) (X0 O1 (A0 (A1 1) (A0 (A1 2) (A0 (F0 (A0 (dC (.str "tone")) (A0 (A1 2) (A0 (dC (.str "grey")) (A0 (F0 (A0 ⇑1 (A0 ⇑2 A3))) (A0 (dC (.bool true)) A3)))))) A3)))))) (sIf (tB2 eqD (A1 0) ⇑0) C2 C2) 3 (A8 (B3 4 (Q0 (A0 (aI1 3 fun x=>([("NoName", true)]:List (Str×Bool)).lookup x) (A0 (aI1 3 fun x=>([("NoName", false)]:List (Str×Bool)).lookup x) (A0 (aI1 3 fun x=>([("NoName", false)]:List (Str×Bool)).lookup x) A3))))) (A9 (L3 (aI1 3 fun x=>([("NoName", true)]:List (Str×Bool)).lookup x) (A5 eqD (A1 4) (Q0 (A0 (dC (.bool true)) (A0 (dC (.bool false)) (A0 (dC (.bool false)) A3))))))))) (A9 (dC (.bool false))))
def O3:List D->Option D:=C3 ae9 5
def P5:List D->Option (List D):=fun ds=>(aQ6 (S7 1 A3) (aQ6 (P7 (G6 (A1 0)) (B6 2) (A8 (P8 1 (A2 M0 (A0 (A1 2) A3))) (sIf (G1 (A2 J2 (A0 (A1 2) A3))) (am2 1 (A2 (D4 12) (A0 (A2 D5 (A0 (A1 2) A3)) A3))) C7))) (bp7 1))) (L6 3 ds)
def o9:List D->Option (List D):=fun ds=>(ay9 P5 (A0 (dIx (A7 0) ⇑2) A3)) (L6 1 ds)
def aE7:DS:=(B3 1 (A2 i6 (A0 (A1 0) (A0 ⇑0 (A0 ⇑6 A3)))))
def aE6:DS:=(B3 2 (A2 T4 (A0 (A1 0) (A0 ⇑30 (A0 ⇑4 (A0 (A1 1) A3))))))
def aE5:DS:=(B3 3 (A2 (N4 12) (A0 (dIx (A7 2) ⇑2) A3)))
def aE4:DS:=(S7 4 (ay9 o9 (A0 (A1 2) A3)))
def aE3:DS:=(sIf (bl7 4 (L5 (F7 (G1 (P0 "list" (A1 4)))) (tB2 neD (A1 4) (Q0 (C4 1 [] (G6 (A1 3)) (B6 0) C9 (dIx (A7 0) ⇑1)))))) (A9 (dC (.bool false))) C7)
def aE2:DS:=(P8 4 (dC (.str "zz")))
def aE1:DS:=(sIf (tB2 neD (A2 r6 (A0 (A1 2) A3)) (Q0 (C4 1 [] (G6 (A1 3)) (B6 0) C9 (dIx (A7 0) ⇑1)))) (A9 (dC (.bool false))) C7)
def aE0:DS:=(sIf (tB2 neD (Q0 (C4 1 [2] (G6 (A1 3)) (B6 0) (tB2 neD (A2 O8 (A0 (A1 1) (A0 (dIx (A7 0) ⇑1) A3))) (A1 0)) (A1 0))) (Q0 A3)) (A9 (dC (.bool false))) C7)
def aX5:DS:=(P7 (G6 (A1 3)) (B6 5) (A8 (B3 6 (A2 N0 (A0 (A1 0) (A0 ⇑800 (A0 (dIx (A7 5) ⇑1) (A0 (dC (.str "screen")) A3)))))) (A8 (B3 7 (F0 (A0 (dIx (A7 2) ⇑0) (A0 (dIx (A7 2) ⇑1) (A0 (A2 (K1 12) (A0 (dIx (A7 2) ⇑2) (A0 (dIx (A7 5) ⇑1) (A0 (F0 (A0 (A1 6) A3)) A3)))) A3))))) (sIf (L5 (tB2 neD (A2 O2 (A0 (A1 2) (A0 (dIx (A7 5) ⇑1) (A0 (A1 6) A3)))) (A1 7)) (tB2 ac4 (A2 K7 (A0 (A1 7) A3)) (dC (.bool true)))) (A9 (dC (.bool false))) C7))))
def aD9:DS:=(B3 8 (dIx (qN (A0 (dC (.str "")) (A0 (dC (.str "zzzzzz")) (A0 (dC (.str "A")) A3)))) (A2 A6 (A0 (A1 0) (A0 ⇑22 (A0 ⇑3 A3))))))
def ar7:DS:=(A9 (L3 (A2 O3 (A0 ⇑0 (A0 (A1 2) (A0 (A1 8) A3)))) (A2 O3 (A0 ⇑1 (A0 (A1 2) (A0 (dC (.str "zzzzzz")) A3))))))
def bV8:DS:=(A8 aE7 (A8 aE6 (A8 aE5 (A8 aE4 (A8 aE3 (A8 aE2 (A8 aE1 (A8 aE0 (A8 aX5 (A8 aD9 ar7))))))))))
def aO2:List D->Option D:=C3 bV8 9
end Lk21
namespace Lk21
open PySem G L2 Sh
inductive Rp (o o':List Nd):List Nd->List Nd->Prop
 | top:Rp o o' o o'
 | deep {c e:List Nd}{nm:D}{m:Man}{s:Rat}{sh:Bool}{ns ns':List Nd}:Rp o o' ns ns'->Rp o o' (c ++ .group nm m s sh ns::e) (c ++ .group nm m s sh ns'::e)
theorem v4(a b:List Nd):Nd.offs (a++b)↔Nd.offs a/\Nd.offs b:=by
 rw[U6,U6,U6]
 constructor
 ·exact fun h=>⟨fun n hn=>h n (List.mem_append_left _ hn),fun n hn=>h n (List.mem_append_right _ hn)⟩
 ·intro h n hn
  rcases List.mem_append.mp hn with q|q
  ·exact h.1 n q
  ·exact h.2 n q
theorem ag9(a b:List Nd):Nd.Oks (a++b)↔Nd.Oks a/\Nd.Oks b:=by
 rw[N1,N1,N1]
 constructor
 ·exact fun h=>⟨fun n hn=>h n (List.mem_append_left _ hn),fun n hn=>h n (List.mem_append_right _ hn)⟩
 ·intro h n hn
  rcases List.mem_append.mp hn with q|q
  ·exact h.1 n q
  ·exact h.2 n q
def NS(l' l:List Nd):Prop:=∃X:List D,List.Sublist X (Nd.nmss l)/\List.Perm (Nd.nmss l') X
theorem NS.len{l' l:List Nd}(h:NS l' l):(Nd.nmss l').length<=(Nd.nmss l).length:=by
 obtain⟨X,h1,h2⟩:=h
 rw[h2.length_eq];exact h1.length_le
theorem NS.nd{l' l:List Nd}(h:NS l' l) (n:(Nd.nmss l).Nodup):(Nd.nmss l').Nodup:=by
 obtain⟨X,h1,h2⟩:=h
 exact h2.nodup_iff.mpr (h1.nodup n)
theorem NS.sub{l' l:List Nd}(h:NS l' l):∀d∈Nd.nmss l',d∈Nd.nmss l:=by
 obtain⟨X,h1,h2⟩:=h
 exact fun d hd=>h1.subset (h2.mem_iff.mp hd)
theorem Rp.ns{o o' l l':List Nd}(h:Rp o o' l l') (e:NS o' o):NS l' l:=by
 induction h with
 | top=>exact e
 | @deep c e nm m s sh ns ns' _ ih =>
  obtain⟨X,h1,h2⟩:=ih
  refine⟨Nd.nmss c++(nm::X++Nd.nmss e),?_,?_⟩
  ·rw[B8,Nd.nmss,Nd.nms]
   exact List.Sublist.append (List.Sublist.refl _) (List.Sublist.append (h1.cons₂ _) (List.Sublist.refl _))
  ·rw[B8,Nd.nmss,Nd.nms]
   exact List.Perm.append (List.Perm.refl _) (List.Perm.append (List.Perm.cons _ h2) (List.Perm.refl _))
mutual
theorem bl4:∀n:Nd,n.nms.length<=1000->n.thin
 | .layer ..,_=>by rw[Nd.thin];trivial
 | .tone ..,_=>by rw[Nd.thin];trivial
 | .group nm m s sh ns,h=>by
  rw[Nd.nms,List.length_cons]at h
  rw[Nd.thin]
  have:=thins_of ns (by omega)
  exact⟨by omega,this.1⟩
theorem thins_of:∀l:List Nd,(Nd.nmss l).length<=1000->Nd.thins l/\l.length<=(Nd.nmss l).length
 | [],_=>by rw[Nd.thins,Nd.nmss];exact⟨trivial,Nat.le_refl _⟩
 | n::r,h=>by
  rw[Nd.nmss,List.length_append]at h ⊢
  rw[Nd.thins]
  have h1:=bl4 n (by omega)
  have h2:=thins_of r (by omega)
  have h3:1<=n.nms.length:=List.length_pos_iff.mpr (List.ne_nil_of_mem (J8 n))
  exact⟨⟨h1,h2.1⟩,by rw[List.length_cons];omega⟩
end
theorem Rp.small{o o' l l':List Nd}(h:Rp o o' l l') {k:Nat}(h1:Nd.Oks o->Nd.Oks o') (h2:Nd.wgs o'<=Nd.wgs o+k) (h3:Nd.dps o'<=Nd.dps o) (h4:Nd.offs o->Nd.offs o'):(Nd.nmss l').length<=1000->(Nd.Oks l->Nd.Oks l')/\Nd.wgs l'<=Nd.wgs l+k/\Nd.dps l'<=Nd.dps l/\(Nd.offs l->Nd.offs l'):=by
 induction h with
 | top=>exact fun _=>⟨h1,h2,h3,h4⟩
 | @deep c e nm m s sh ns ns' _ ih =>
  intro hl
  rw[B8,Nd.nmss,Nd.nms,List.length_append,List.length_append,List.length_cons]at hl
  obtain⟨i1,i2,i3,i4⟩:=ih (by omega)
  refine⟨fun z=>?_,?_,?_,fun z=>?_⟩
  ·have:=(ag9 _ _).mp z
   rw[Nd.Oks,Nd.Ok]at this
   refine(ag9 _ _).mpr ⟨this.1,?_⟩
   rw[Nd.Oks,Nd.Ok]
   exact⟨⟨this.2.1.1,i1 this.2.1.2⟩,this.2.2⟩
  ·rw[O4,O4,Nd.wgs,Nd.wgs,Nd.wg,Nd.wg];omega
  ·rw[L4,L4,Nd.dps,Nd.dps,Nd.dp,Nd.dp];omega
  ·have q:=(v4 _ _).mp z
   rw[Nd.offs,Nd.off]at q
   refine(v4 _ _).mpr ⟨q.1,?_⟩
   rw[Nd.offs,Nd.off]
   have:=(thins_of ns' (by omega)).2
   exact⟨⟨by omega,i4 q.2.1.2⟩,q.2.2⟩
theorem bp2{a b:List Nd}{n:Nd}{o':List Nd}(hn:G8 n.nm) {l:List Nd}(h:Stands a n b l):∀f:Nat,2*Nd.dps l+2<=f->(∀d∈Nd.nmss l,G8 d)->(Nd.nmss l).Nodup->l.length<=1000->Nd.thins l->∃l',Rp (a++n::b) o' l l'/\E5 f [↥l,n.nm,↥o']=some ↥l':=by
 induction h with
 | top =>
  intro f hf hs hd hl ht
  obtain⟨f,rfl⟩:∃g,f=g+1:=⟨f - 1,by omega⟩
  rw[B8,Nd.nmss]at hd
  have e0:=aj3 (a:=a) (b:=b) (n:=n) (fun n' hn'=>T6 hs n' (List.mem_append_left _ hn')) hn (fun n' hn' e=>by
   have d1:=(List.nodup_append.mp hd).2.2
   exact d1 n'.nm (J5 hn' (J8 n')) n.nm (List.mem_append_left _ (J8 n)) e)
  refine⟨_,.top,B2 (g:=G2 (m4 f)) (ρ:=[‹↥(a++n::b)›,‹n.nm›,‹↥o'›]) rfl ?_⟩
  wp_walk using evD,G2,e0,bS4
 | @deep c e nm m s sh ns h ih =>
  intro f hf hs hd hl ht
  obtain⟨f,rfl⟩:∃g,f=g+2:=⟨f - 2,by omega⟩
  rw[L4,Nd.dps,Nd.dp]at hf
  have hin:=h.nm n.nm (J8 n)
  rw[B8,Nd.nmss,Nd.nms]at hd
  have dc:=(List.nodup_append.mp hd)
  have dg:=(List.nodup_append.mp dc.2.1)
  have dn:=List.nodup_cons.mp dg.1
  have hc:n.nm∉Nd.nmss c:=fun z=>dc.2.2 n.nm z n.nm (by simp[hin]) rfl
  have hg:nm≠n.nm:=fun z=>dn.1 (z ▸ hin)
  have he:n.nm∉Nd.nmss e:=fun z=>dg.2.2 n.nm (by simp[hin]) n.nm z rfl
  have hsn:∀d∈Nd.nmss ns,G8 d:=fun d hd=>hs d (by rw[B8,Nd.nmss,Nd.nms];simp[hd])
  have hth:=(L8 _).mp ht
  have hgt:=hth (.group nm m s sh ns) (by simp)
  rw[Nd.thin]at hgt
  have e0:=v5 (l:=c ++ .group nm m s sh ns::e) (T6 hs) hn (fun n' hn' z=>by
   rcases List.mem_append.mp hn' with q|q
   ·exact X5 hc n' q z
   ·rcases List.mem_cons.mp q with rfl|q
    ·exact hg z
    ·exact X5 he n' q z)
  obtain⟨ns',sb,e1⟩:=ih f (by omega) hsn dn.2 hgt.1 hgt.2
  refine⟨_,.deep sb,aj2 hl e0 (by simp) fun j hj=>?_⟩
  have idn:∀n0∈c++e,F5 (f+1) [n0.d,n.nm,↥o']=some n0.d:=fun n0 h0=>by
   have hm:n0∈c ++ .group nm m s sh ns::e:=by
    rcases List.mem_append.mp h0 with q|q
    ·exact List.mem_append_left _ q
    ·exact List.mem_append_right _ (xmm _ q)
   have hdp:n0.dp<=max (Nd.dps c) (Nd.dps e):=by
    rcases List.mem_append.mp h0 with q|q
    ·have:=J1 q;omega
    ·have:=J1 q;omega
   refine bE8 n.nm hn _ n0 (f+1) (by omega) (fun d hd=>hs d (J5 hm hd)) (fun z=>?_) (hth n0 hm)
   rcases List.mem_append.mp h0 with q|q
   ·exact hc (J5 q z)
   ·exact he (J5 q z)
  rcases Nat.lt_trichotomy j c.length with q|q|q
  ·rw[List.getElem_append_left q,List.getElem_append_left q]
   exact idn _ (List.mem_append_left _ (List.getElem_mem q))
  ·subst q
   simp only[List.getElem_append_right (Nat.le_refl _),Nat.sub_self,List.getElem_cons_zero]
   exact ac3 e1
  ·obtain⟨i,rfl⟩:∃i,j=c.length+(i+1):=⟨j - c.length - 1,by omega⟩
   have hi:i < e.length:=by simp at hj;omega
   rw[List.getElem_append_right (by omega),List.getElem_append_right (by omega)]
   simp only[Nat.add_sub_cancel_left,List.getElem_cons_succ]
   exact idn _ (List.mem_append_right _ (List.getElem_mem hi))
theorem aq4{w h:Nat}{a b l:List Nd}{n:Nd}(St:Stands a n b l) (hd:Nd.dps l<=3) (hs:∀d∈Nd.nmss l,G8 d) (nd:(Nd.nmss l).Nodup) (hN:(Nd.nmss l).length<=1000) :
  K0 [D6 w h l,n.nm]=some ↥(a++n::b)/\F9 [D6 w h l,n.nm]=none/\D3 [↥(a++n::b),n.nm]=some (.int a.length) /\
  ∀o':List Nd,∃l',Rp (a++n::b) o' l l'/\M4 [D6 w h l,n.nm,↥o']=some (D6 w h l'):=by
 have P:=St.props
 obtain⟨t1,t2⟩:=thins_of l hN
 have sab:∀d∈Nd.nmss (a++n::b),G8 d:=fun d hd=>hs d (P.sub d hd)
 have hn:G8 n.nm:=sab _ (J5 (by simp) (J8 n))
 have nda:=P.nd nd
 rw[B8,Nd.nmss]at nda
 have e0:=bl1 hn St 12 (by omega) hs nd
 have e1:=aj3 (a:=a) (b:=b) (n:=n) (fun n' hn'=>T6 sab n' (List.mem_append_left _ hn')) hn (fun n' hn' e=>(List.nodup_append.mp nda).2.2 n'.nm (J5 hn' (J8 n')) n.nm (List.mem_append_left _ (J8 n)) e)
 refine⟨?_,?_,e1,fun o'=>?_⟩
 ·refine B2 (ρ:=[‹D6 w h l›,‹n.nm›,none]) rfl ?_
  wp_walk using evD,Z7,D6,e0,bf6
 ·have st:L6 3 [D6 w h l,n.nm]=[‹D6 w h l›,‹n.nm›,none]:=rfl
  unfold F9 as3
  rw[st]
  wp_walk using evD,D6,af7,rIf,rNo,e0,bf6,Option.map_none
 ·obtain⟨l',r,e2⟩:=bp2 (o':=o') hn St 12 (by omega) hs nd (by omega) t1
  refine⟨l',r,?_⟩
  refine B2 (ρ:=[‹D6 w h l›,‹n.nm›,‹↥o'›]) rfl ?_
  wp_walk using evD,Q8,D6,e2
theorem bp3{d:D}(h:Nm d):G8 d:=by
 obtain⟨s,e,o,_⟩:=h
 exact⟨s,e,o⟩
structure Gd (W:Nat) (l:List Nd):Prop where
 ok:Nd.Oks l
 wg:Nd.wgs l<=W
 dp:Nd.dps l<=3
 off:Nd.offs l
 nm:∀d∈Nd.nmss l,Nm d
 nd:(Nd.nmss l).Nodup
 nl:(Nd.nmss l).length<=1000
theorem Gd.hs{W:Nat}{l:List Nd}(g:Gd W l):∀d∈Nd.nmss l,G8 d:=fun d hd=>bp3 (g.nm d hd)
theorem bi7(l:List Nd) {i:Int}{k:Nat}(e:i=(k:Int)):U0 (Nd.ds l) none (some i)=Nd.ds (l.take k)/\U0 (Nd.ds l) (some i) none=Nd.ds (l.drop k):=by subst e;exact⟨bi5 l k,bi6 l k⟩
end Lk21
namespace Sh
open PySem G L2
mutual
def Nd.ws(nm:D) (oth:List Nd):Nd->Nd
 | .layer n m s sh lf tp mk w h l kb=>.layer n m s sh lf tp mk w h l kb
 | .tone n r s sh=>.tone n r s sh
 | .group n m s sh ns=>.group n m s sh (Nd.wss nm oth ns)
def Nd.wss(nm:D) (oth:List Nd):List Nd->List Nd
 | []=>[]
 | n::r=>if same n.nm nm=true then oth++Nd.wss nm oth r else n.ws nm oth::Nd.wss nm oth r
end
theorem bM3(a b:List Nd):Nd.ds (a++b)=Nd.ds a++Nd.ds b:=by rw[E4,E4,E4,List.map_append]
def wsb(f:Nat):DS:=(sIf (tB2 eqD (dIx (A7 4) ⇑1) (A1 1)) (am2 3 (A1 2)) (sIf (tB2 eqD (dIx (A7 4) ⇑0) (dC (.str "group"))) (P8 3 (A5 B0 (ag4 (A1 4) K8 (E8 ⇑5)) (F0 (A0 (A2 (K1 f) (A0 (dIx (A7 4) ⇑5) (A0 (A1 1) (A0 (A1 2) A3)))) A3)))) (P8 3 (A1 4))))
end Sh
namespace Lk21
open PySem G L2 Sh
theorem ar5{nm:D}(hn:G8 nm) {oth:List Nd}(ho:oth.length<=1000) (f:Nat):∀(l:List Nd) (X:List D) (a0 a4:Option B),(∀n∈l,G8 n.nm)->X.length+1001*l.length<=2000000->(∀n∈l,∀nm' m s sh ns,n=.group nm' m s sh ns->K1 f [↥ns,nm,↥oth]=some ↥(Nd.wss nm oth ns)) ->
  ∃a4',Z4 (B6 4) (wsb f) (Nd.ds l) [a0,‹nm›,‹↥oth›,some (.own X),a4]=some (.nx [a0,‹nm›,‹↥oth›,some (.own (X++Nd.ds (Nd.wss nm oth l))),a4'])
 | [],X,a0,a4,_,_,_=>⟨a4,by rw[Nd.wss,Nd.ds,List.append_nil];rfl⟩
 | n::l,X,a0,a4,hs,hl,H=>by
  have hi:=bU4 (hs n (List.mem_cons_self ..)) hn
  rw[List.length_cons,Nat.mul_succ]at hl
  have hx:X.length < 16777216:=by omega
  have lo:(Nd.ds oth).length<=1000:=by rw[E4,List.length_map];exact ho
  have hx':X.length+(Nd.ds oth).length<=16777216:=by omega
  rw[Nd.ds,Nd.wss]
  have n1:∃ds:List D,n.d=.tuple ds/\atI ds 1=some n.nm:=by cases n<;>exact⟨_,by rw[Nd.d],rfl⟩
  cases q:same n.nm nm with
  | true =>
   rw[q]at hi
   obtain⟨a4',e⟩:=ar5 hn ho f l (X++Nd.ds oth) a0 (‹n.d›) (fun x hx=>hs x (xmm _ hx)) (by rw[List.length_append];omega) (fun x hx=>H x (xmm _ hx))
   refine⟨a4',?_⟩
   have b:wsb f [a0,‹nm›,‹↥oth›,some (.own X),‹n.d›]=some (.nx [a0,‹nm›,‹↥oth›,some (.own (X++Nd.ds oth)),‹n.d›]):=by
    obtain⟨ds,ed,e1⟩:=n1
    rw[ed]
    wp_walk using evD,wsb,e1,hi,am2,if_pos hx'
   simp only[Z4,B6,xw0,xw1,xbs,b,if_true,bM3]
   rw[List.append_assoc]at e
   exact e
  | false =>
   rw[q]at hi
   obtain⟨a4',e⟩:=ar5 hn ho f l (X++[(n.ws nm oth).d]) a0 (‹n.d›) (fun x hx=>hs x (xmm _ hx)) (by rw[List.length_append];show X.length+1+_<=_;omega) (fun x hx=>H x (xmm _ hx))
   refine⟨a4',?_⟩
   have b:wsb f [a0,‹nm›,‹↥oth›,some (.own X),‹n.d›]=some (.nx [a0,‹nm›,‹↥oth›,some (.own (X++[(n.ws nm oth).d])),‹n.d›]):=by
    cases n with
    | layer=>rw[Nd.ws,Nd.d];rw[Nd.nm]at hi;wp_walk using evD,wsb,bU9,by3,hi,bM0,P8,if_pos hx
    | tone=>rw[Nd.ws,Nd.d];rw[Nd.nm]at hi;wp_walk using evD,wsb,bV1,by6,hi,e_tg,P8,if_pos hx
    | group nm' m s sh ns =>
     have e1:=H _ (List.mem_cons_self ..) nm' m s sh ns rfl
     have cut:∀a b c d e f:D,U0 [a,b,c,d,e,f] none (some 5)=[a,b,c,d,e]:=fun _ _ _ _ _ _=>rfl
     have ct:∀a b c d e f:D,B0 (.tuple [a,b,c,d,e]) (.tuple [f])=some (.tuple [a,b,c,d,e,f]):=fun _ _ _ _ _ _=>rfl
     rw[Nd.ws,Nd.d,Nd.d]
     rw[Nd.nm]at hi
     wp_walk using evD,wsb,bV0,by5,by4,hi,bM1,P8,if_pos hx,ag4,cut,e1,ct
   simp only[Z4,B6,xw0,xw1,xbs,b,xft,if_false,Nd.ds]
   rw[List.append_assoc]at e
   exact e
theorem bv9{nm:D}(hn:G8 nm) {oth:List Nd}(ho:oth.length<=1000):∀(k:Nat) (l:List Nd) (f:Nat),Nd.dps l<=k->k+1<=f->l.length<=1000->Nd.thins l->(∀d∈Nd.nmss l,G8 d)->K1 f [↥l,nm,↥oth]=some ↥(Nd.wss nm oth l):=by
 have step:∀(l:List Nd) (f:Nat),l.length<=1000->(∀d∈Nd.nmss l,G8 d)->(∀n∈l,∀nm' m s sh ns,n=.group nm' m s sh ns->K1 f [↥ns,nm,↥oth]=some ↥(Nd.wss nm oth ns))->K1 (f+1) [↥l,nm,↥oth]=some ↥(Nd.wss nm oth l):=fun l f hl hs H=>by
  obtain⟨a4',e⟩:=ar5 hn ho f l [] (‹↥l›) none (T6 hs) (by show 0+_<=_;omega) H
  refine B2 (g:=aC6 (K1 f)) (ρ:=[‹↥l›,‹nm›,‹↥oth›,none,none]) rfl ?_
  have s1:(P7 (G6 (A1 0)) (B6 4) (wsb f)) [‹↥l›,‹nm›,‹↥oth›,some (.own []),none]=some (.nx [‹↥l›,‹nm›,‹↥oth›,some (.own ([]++Nd.ds (Nd.wss nm oth l))),a4']):=e
  exact(B5 (ρ':=[‹↥l›,‹nm›,‹↥oth›,some (.own []),none]) rfl).trans ((B5 s1).trans rfl)
 intro k
 induction k with
 | zero =>
  intro l f hd hf hl ht hs
  obtain⟨f,rfl⟩:∃g,f=g+1:=⟨f - 1,by omega⟩
  refine step l f hl hs fun n hn' nm' m s sh ns e=>?_
  have:=J1 hn'
  rw[e,Nd.dp]at this;omega
 | succ k ih =>
  intro l f hd hf hl ht hs
  obtain⟨f,rfl⟩:∃g,f=g+1:=⟨f - 1,by omega⟩
  refine step l f hl hs fun n hn' nm' m s sh ns e=>?_
  have h1:=J1 hn'
  have h2:=(L8 l).mp ht n hn'
  rw[e,Nd.dp]at h1
  rw[e,Nd.thin]at h2
  exact ih ns f (by omega) (by omega) h2.1 h2.2 fun d hd'=>hs d (J5 hn' (by rw[e,Nd.nms];exact xmm _ hd'))
mutual
theorem bA2{nm:D}{oth:List Nd}:∀n:Nd,nm∉n.nms->n.ws nm oth=n
 | .layer ..,_=>by rw[Nd.ws]
 | .tone ..,_=>by rw[Nd.ws]
 | .group nm' m s sh ns,h=>by
  rw[Nd.nms]at h
  rw[Nd.ws,wt_id ns fun z=>h (xmm _ z)]
theorem wt_id{nm:D}{oth:List Nd}:∀l:List Nd,nm∉Nd.nmss l->Nd.wss nm oth l=l
 | [],_=>by rw[Nd.wss]
 | n::r,h=>by
  rw[Nd.nmss]at h
  have h1:nm∉n.nms:=fun z=>h (List.mem_append_left _ z)
  have ne:n.nm≠nm:=fun z=>h1 (by rw[← z];exact J8 n)
  rw[Nd.wss,u4 ne,if_neg (by simp),bA2 n h1,wt_id r fun z=>h (List.mem_append_right _ z)]
end
theorem aD3(nm:D) (oth:List Nd):∀a b:List Nd,Nd.wss nm oth (a++b)=Nd.wss nm oth a++Nd.wss nm oth b
 | [],b=>by rw[Nd.wss];rfl
 | n::a,b=>by
  rw[xca,Nd.wss,Nd.wss,aD3 nm oth a b]
  split
  ·rw[List.append_assoc]
  ·rfl
theorem bO7{a b oth l l':List Nd}{n:Nd}(r:Rp (a++n::b) (a++oth++b) l l'):(Nd.nmss l).Nodup->Nd.wss n.nm oth l=l':=by
 induction r with
 | top =>
  intro nd
  rw[B8,Nd.nmss]at nd
  have d1:=List.nodup_append.mp nd
  have d2:=List.nodup_append.mp d1.2.1
  have ha:n.nm∉Nd.nmss a:=fun z=>d1.2.2 n.nm z n.nm (List.mem_append_left _ (J8 n)) rfl
  have hb:n.nm∉Nd.nmss b:=fun z=>d2.2.2 n.nm (J8 n) n.nm z rfl
  rw[aD3,wt_id a ha,Nd.wss,ab8,if_pos rfl,wt_id b hb,List.append_assoc]
 | @deep c e nm m s sh ns ns' r ih =>
  intro nd
  have hin:n.nm∈Nd.nmss ns:=by
   have:∀{x y:List Nd},Rp (a++n::b) (a++oth++b) x y->n.nm∈Nd.nmss x:=fun r=>by
    induction r with
    | top=>rw[B8,Nd.nmss];exact List.mem_append_right _ (List.mem_append_left _ (J8 n))
    | deep _ ih=>rw[B8,Nd.nmss,Nd.nms];exact List.mem_append_right _ (List.mem_append_left _ (xmm _ ih))
   exact this r
  rw[B8,Nd.nmss,Nd.nms]at nd
  have dc:=List.nodup_append.mp nd
  have dg:=List.nodup_append.mp dc.2.1
  have dn:=List.nodup_cons.mp dg.1
  have hc:n.nm∉Nd.nmss c:=fun z=>dc.2.2 n.nm z n.nm (by simp[hin]) rfl
  have hg:nm≠n.nm:=fun z=>dn.1 (z ▸ hin)
  have he:n.nm∉Nd.nmss e:=fun z=>dg.2.2 n.nm (by simp[hin]) n.nm z rfl
  rw[aD3,wt_id c hc,Nd.wss,show(Nd.group nm m s sh ns).nm=nm by rw[Nd.nm],u4 hg,if_neg (by simp),Nd.ws,ih dn.2,wt_id e he]
mutual
def Nd.al:Nd->List Nd
 | .layer nm m s sh lf tp mk w h l kb=>[.layer nm m s sh lf tp mk w h l kb]
 | .tone nm r s sh=>[.tone nm r s sh]
 | .group nm m s sh ns=>.group nm m s sh ns::Nd.als ns
def Nd.als:List Nd->List Nd
 | []=>[]
 | n::r=>Nd.al n++Nd.als r
end
mutual
theorem bN2:∀n:Nd,(Nd.al n).map Nd.nm=n.nms
 | .layer ..=>by rw[Nd.al,Nd.nms];rfl
 | .tone ..=>by rw[Nd.al,Nd.nms];rfl
 | .group nm m s sh ns=>by rw[Nd.al,Nd.nms,xmc,als_nms ns];rfl
theorem als_nms:∀l:List Nd,(Nd.als l).map Nd.nm=Nd.nmss l
 | []=>by rw[Nd.als,Nd.nmss];rfl
 | n::r=>by rw[Nd.als,Nd.nmss,List.map_append,bN2 n,als_nms r]
end
mutual
theorem bN3:∀n:Nd,(Nd.al n).length<=n.wg
 | .layer ..=>by rw[Nd.al,Nd.wg];show 1<=_;omega
 | .tone ..=>by rw[Nd.al,Nd.wg];show 1<=_;omega
 | .group nm m s sh ns=>by rw[Nd.al,Nd.wg,List.length_cons];have:=als_len ns;omega
theorem als_len:∀l:List Nd,(Nd.als l).length<=Nd.wgs l
 | []=>by rw[Nd.als];exact Nat.zero_le _
 | n::r=>by rw[Nd.als,Nd.wgs,List.length_append];have:=bN3 n;have:=als_len r;omega
end
theorem aw1(a b:List Nd):Nd.als (a++b)=Nd.als a++Nd.als b:=by
 induction a with
 | nil=>rw[Nd.als];rfl
 | cons n a ih=>rw[xca,Nd.als,Nd.als,ih,List.append_assoc]
theorem aN9(f:Nat):∀(l:List Nd) (X:List D) (a0 a2:Option B),X.length+(Nd.als l).length<=900->(∀n∈l,∀nm' m s sh ns,n=.group nm' m s sh ns->N4 f [↥ns]=some (.list ((Nd.als ns).map Nd.d))) ->
  ∃a2',Z4 (B6 2) (alb f) (Nd.ds l) [a0,some (.own X),a2]=some (.nx [a0,some (.own (X++(Nd.als l).map Nd.d)),a2'])
 | [],X,a0,a2,_,_=>⟨a2,by rw[Nd.als,Nd.ds,xmn,List.append_nil];rfl⟩
 | n::l,X,a0,a2,hl,H=>by
  rw[Nd.als,List.length_append]at hl
  obtain⟨a2',e⟩:=aN9 f l (X++(Nd.al n).map Nd.d) a0 (‹n.d›) (by rw[List.length_append,List.length_map];omega) (fun x hx=>H x (xmm _ hx))
  refine⟨a2',?_⟩
  have b:alb f [a0,some (.own X),‹n.d›]=some (.nx [a0,some (.own (X++(Nd.al n).map Nd.d)),‹n.d›]):=by
   cases n with
   | layer=>rw[Nd.al]at hl ⊢;exact aC2 f rfl a0 X (by simp at hl;omega)
   | tone=>rw[Nd.al]at hl ⊢;exact aC2 f rfl a0 X (by simp at hl;omega)
   | group nm' m s sh ns =>
    rw[Nd.al,List.length_cons]at hl
    have:=aU4 (nm:=nm') (m:=m) (s:=s) (sh:=sh) f a0 X ((Nd.als ns).map Nd.d) (by omega) (by rw[List.length_map];omega) (H _ (List.mem_cons_self ..) nm' m s sh ns rfl)
    rw[this,Nd.al,xmc,List.append_assoc]
    rfl
  rw[Nd.ds,Nd.als,List.map_append,← List.append_assoc]
  simp only[Z4,B6,xw0,xw1,xbs,b]
  exact e
theorem bu9{n:Nd}{l:List Nd}(h:n∈l):(Nd.al n).length<=(Nd.als l).length:=by
 obtain⟨a,b,rfl⟩:=List.append_of_mem h
 rw[aw1,Nd.als,List.length_append,List.length_append];omega
theorem bN1:∀(k:Nat) (l:List Nd) (f:Nat),Nd.dps l<=k->k+1<=f->(Nd.als l).length<=900->N4 f [↥l]=some (.list ((Nd.als l).map Nd.d)):=by
 have step:∀(l:List Nd) (f:Nat),(Nd.als l).length<=900->(∀n∈l,∀nm' m s sh ns,n=.group nm' m s sh ns->N4 f [↥ns]=some (.list ((Nd.als ns).map Nd.d)))->N4 (f+1) [↥l]=some (.list ((Nd.als l).map Nd.d)):=fun l f hl H=>by
  obtain⟨a2',e⟩:=aN9 f l [] (‹↥l›) none (by show 0+_<=_;omega) H
  refine B2 (g:=aO0 (N4 f)) (ρ:=[‹↥l›,none,none]) rfl ?_
  have s1:(P7 (G6 (A1 0)) (B6 2) (alb f)) [‹↥l›,some (.own []),none]=some (.nx [‹↥l›,some (.own ([]++(Nd.als l).map Nd.d)),a2']):=e
  exact(B5 (ρ':=[‹↥l›,some (.own []),none]) rfl).trans ((B5 s1).trans rfl)
 intro k
 induction k with
 | zero =>
  intro l f hd hf hl
  obtain⟨f,rfl⟩:∃g,f=g+1:=⟨f - 1,by omega⟩
  refine step l f hl fun n hn' nm' m s sh ns e=>?_
  have:=J1 hn'
  rw[e,Nd.dp]at this;omega
 | succ k ih =>
  intro l f hd hf hl
  obtain⟨f,rfl⟩:∃g,f=g+1:=⟨f - 1,by omega⟩
  refine step l f hl fun n hn' nm' m s sh ns e=>?_
  have h1:=J1 hn'
  have h2:=bu9 hn'
  rw[e,Nd.dp]at h1
  rw[e,Nd.al,List.length_cons]at h2
  exact ih ns f (by omega) (by omega) (by omega)
theorem bS3(n:Nd) (r:Rho):dIx (A7 0) ⇑1 (‹n.d›::r)=some n.nm:=by cases n<;>(rw[Nd.d];rfl)
theorem aG2{l:List Nd}(hl:l.length<=1000) (src:Rho->Option (List D)) (ρ:Rho) (e:src ρ=some (l.map Nd.d)):C4 1 [] src (B6 0) C9 (dIx (A7 0) ⇑1) ρ=some (l.map Nd.nm) :=
 T7 (l:=l) (h:=Nd.d) (r:=[]) rfl e hl fun n _=>bS3 n []
theorem Rp.dps{o o' l l':List Nd}(r:Rp o o' l l') (h:Nd.dps o'<=Nd.dps o):Nd.dps l'<=Nd.dps l:=by
 induction r with
 | top=>exact h
 | deep _ ih=>rw[L4,L4,Nd.dps,Nd.dps,Nd.dp,Nd.dp];omega
structure Wl (l:List Nd):Prop where
 dp:Nd.dps l<=3
 hs:∀d∈Nd.nmss l,G8 d
 nd:(Nd.nmss l).Nodup
 nl:(Nd.nmss l).length<=1000
theorem Gd.wl{W:Nat}{l:List Nd}(g:Gd W l):Wl l:=⟨g.dp,g.hs,g.nd,g.nl⟩
theorem Rp.wl{o o' l l':List Nd}(r:Rp o o' l l') (g:Wl l) (h:Nd.dps o'<=Nd.dps o) (s:NS o' o):Wl l':=by
 have n:=r.ns s
 have d:=r.dps h
 exact⟨Nat.le_trans d g.dp,fun d hd=>g.hs d (n.sub d hd),n.nd g.nd,Nat.le_trans n.len g.nl⟩
theorem Wl.wt{l:List Nd}(g:Wl l) {nm:D}(hn:G8 nm) {oth:List Nd}(ho:oth.length<=1000):K1 12 [↥l,nm,↥oth]=some ↥(Nd.wss nm oth l):=by
 have t:=thins_of l g.nl
 have:=g.nl
 exact bv9 hn ho 3 l 12 g.dp (by decide) (by omega) t.1 g.hs
theorem bh7{k:Nat}:∀l:List Nd,(∀n∈l,n.dp<=k)->Nd.dps l<=k
 | [],_=>by rw[Nd.dps];exact Nat.zero_le _
 | n::l,h=>by rw[Nd.dps];exact Nat.max_le.mpr ⟨h n (List.mem_cons_self ..),bh7 l fun m hm=>h m (xmm _ hm)⟩
theorem bu3{l' l:List Nd}(h:∀n∈l',n.dp=0\/n∈l):Nd.dps l'<=Nd.dps l:=bh7 l' fun n hn=>by
 rcases h n hn with e|e
 ·rw[e];exact Nat.zero_le _
 ·exact J1 e
theorem at6{d:D}(h:G8 d) (n:Nat):Ly n d:=by
 obtain⟨s,rfl,o⟩:=h
 exact⟨o.ok,Nat.zero_le _⟩
theorem aL8(r:Rat):Ly 1 (fr r):=Ly.tup fun x hx=>by
 simp only[List.mem_cons,List.not_mem_nil,or_false]at hx
 rcases hx with rfl|rfl<;>exact Ly.int _ _
theorem bc1(m:Man) (n:Nat):Ly n (.str m.s):=⟨by cases m<;>decide +kernel,Nat.zero_le _⟩
theorem bG0{nm:D}{m:Man}{s:Rat}{sh:Bool}{lf tp:Int}{mk:Option (List Rat)}{w h:Nat}{l:List Q4}{kb:Nat}(hn:G8 nm):Ly 5 (Nd.d (.layer nm m s sh lf tp mk w h l kb)):=by
 rw[Nd.d]
 refine Ly.tup fun x hx=>?_
 simp only[List.mem_cons,List.not_mem_nil,or_false]at hx
 rcases hx with rfl|rfl|rfl|rfl|rfl|rfl|rfl|rfl|rfl
 ·exact⟨by decide +kernel,Nat.zero_le _⟩
 ·exact at6 hn _
 ·exact bc1 m _
 ·exact(aL8 s).mono (by decide)
 ·exact⟨rfl,Nat.zero_le _⟩
 ·exact Ly.int _ _
 ·exact Ly.int _ _
 ·cases mk with
  | none=>exact⟨rfl,Nat.zero_le _⟩
  | some ms =>
   refine Ly.mono (m:=2) (Ly.tup fun x hx=>?_) (by decide)
   obtain⟨r,_,rfl⟩:=List.mem_map.mp hx
   exact aL8 r
 ·exact Ly.sheet w h l
theorem bF8(r:Rul) (n:Nat):Ly n (.str r.s):=⟨by cases r<;>decide +kernel,Nat.zero_le _⟩
mutual
theorem bx2:∀n:Nd,(∀d∈n.nms,G8 d)->Ly (5+2*n.dp) n.d
 | .layer nm m s sh lf tp mk w h l kb,hs=>(bG0 (hs nm (by rw[Nd.nms];simp))).mono (by omega)
 | .tone nm r s sh,hs=>by
  rw[Nd.d,Nd.dp]
  refine Ly.tup fun x hx=>?_
  simp only[List.mem_cons,List.not_mem_nil,or_false]at hx
  rcases hx with rfl|rfl|rfl|rfl|rfl
  ·exact⟨by decide +kernel,Nat.zero_le _⟩
  ·exact at6 (hs _ (by rw[Nd.nms];simp)) _
  ·exact bF8 r _
  ·exact(aL8 s).mono (by decide)
  ·exact⟨rfl,Nat.zero_le _⟩
 | .group nm m s sh ns,hs=>by
  rw[Nd.nms]at hs
  have i:=ly_nds ns fun d hd=>hs d (xmm _ hd)
  rw[Nd.d,Nd.dp]
  refine Ly.mono (m:=6+2*Nd.dps ns+1) (Ly.tup fun x hx=>?_) (by omega)
  simp only[List.mem_cons,List.not_mem_nil,or_false]at hx
  rcases hx with rfl|rfl|rfl|rfl|rfl|rfl
  ·exact⟨by decide +kernel,Nat.zero_le _⟩
  ·exact at6 (hs _ (List.mem_cons_self ..)) _
  ·exact bc1 m _
  ·exact(aL8 s).mono (by omega)
  ·exact⟨rfl,Nat.zero_le _⟩
  ·exact⟨i.1,by show PyData.depthAll (Nd.ds ns)+1<=_;omega⟩
theorem ly_nds:∀l:List Nd,(∀d∈Nd.nmss l,G8 d)->PyData.canLayAll0 (Nd.ds l)=true/\PyData.depthAll (Nd.ds l)<=5+2*Nd.dps l
 | [],_=>by rw[Nd.ds];exact⟨rfl,Nat.zero_le _⟩
 | n::r,hs=>by
  rw[Nd.nmss]at hs
  obtain⟨i1,i2⟩:=bx2 n fun d hd=>hs d (List.mem_append_left _ hd)
  obtain⟨j1,j2⟩:=ly_nds r fun d hd=>hs d (List.mem_append_right _ hd)
  rw[Nd.ds,Nd.dps]
  refine⟨?_,?_⟩
  ·show(PyData.canLay0 n.d&&PyData.canLayAll0 (Nd.ds r))=true
   rw[i1,j1];rfl
  ·show max (PyData.depth n.d) (PyData.depthAll (Nd.ds r))<=_
   omega
end
theorem bF9{w h:Nat}{l:List Nd}(hs:∀d∈Nd.nmss l,G8 d):Ly (7+2*Nd.dps l) (D6 w h l):=by
 have i:=ly_nds l hs
 unfold D6
 refine Ly.mono (m:=6+2*Nd.dps l+1) (Ly.tup fun x hx=>?_) (by omega)
 simp only[List.mem_cons,List.not_mem_nil,or_false]at hx
 rcases hx with rfl|rfl|rfl
 ·exact Ly.int _ _
 ·exact Ly.int _ _
 ·exact⟨i.1,by show PyData.depthAll (Nd.ds l)+1<=_;omega⟩
mutual
theorem ao7:∀n:Nd,n.near->n.thin->n.off
 | .layer ..,o,_=>by rw[Nd.near]at o;rw[Nd.off];omega
 | .tone ..,_,_=>by rw[Nd.off];trivial
 | .group nm m s sh ns,o,t=>by
  rw[Nd.near]at o;rw[Nd.thin]at t;rw[Nd.off]
  exact⟨t.1,nears_off' ns o t.2⟩
theorem nears_off':∀l:List Nd,Nd.nears l->Nd.thins l->Nd.offs l
 | [],_,_=>by rw[Nd.offs];trivial
 | n::r,o,t=>by
  rw[Nd.nears]at o;rw[Nd.thins]at t;rw[Nd.offs]
  exact⟨ao7 n o.1 t.1,nears_off' r o.2 t.2⟩
end
theorem aD8{a b l:List Nd}{n:Nd}(h:Stands a n b l):n∈Nd.als l:=by
 induction h with
 | top =>
  rw[aw1,Nd.als]
  refine List.mem_append_right _ (List.mem_append_left _ ?_)
  cases n<;>(rw[Nd.al];simp)
 | deep _ ih =>
  rw[aw1,Nd.als,Nd.al]
  exact List.mem_append_right _ (List.mem_append_left _ (xmm _ ih))
theorem bb5{n m:Nd}(e:n.nm=m.nm):∀{L:List Nd},(L.map Nd.nm).Nodup->n∈L->m∈L->n=m
 | [],_,h,_=>absurd h (by simp)
 | x::L,nd,hn,hm=>by
  rw[xmc]at nd
  obtain⟨h1,h2⟩:=List.nodup_cons.mp nd
  rcases List.mem_cons.mp hn with h3|h3<;>rcases List.mem_cons.mp hm with h4|h4
  ·exact h3.trans h4.symm
  ·exact absurd (List.mem_map.mpr ⟨m,h4,by rw[← e,h3]⟩) h1
  ·exact absurd (List.mem_map.mpr ⟨n,h3,by rw[e,h4]⟩) h1
  ·exact bb5 e h2 h3 h4
theorem ak6{l:List Nd}{n:Nd}(nd:(Nd.nmss l).Nodup) (h:n∈Nd.als l):∃a b,Stands a n b l:=by
 have hn:n.nm∈Nd.nmss l:=by rw[← als_nms];exact List.mem_map.mpr ⟨n,h,rfl⟩
 obtain⟨a,m,b,St,e⟩:=nms_stands [] l n.nm hn
 rw[xna]at St
 have:m=n:=bb5 e (by rw[als_nms];exact nd) (aD8 St) h
 subst this
 exact⟨a,b,St⟩
theorem bS2{w h:Nat}{l:List Nd}(g:Wl l):o9 [D6 w h l]=some (Nd.nmss l):=by
 have H:∀n∈l,∀nm m s sh ns,n=.group nm m s sh ns->D4 12 [↥ns]=some (.list (Nd.nmss ns)):=fun n hn nm m s sh ns e=>by
  have h1:=J1 hn
  have h2:=aL6 hn
  rw[e,Nd.dp]at h1
  rw[e,Nd.nms,List.length_cons]at h2
  have:=g.dp
  have:=g.nl
  exact names_among 3 ns 12 (by omega) (by decide) (by omega)
 have hw:=g.nl
 obtain⟨ρ',e,a2,hρ⟩:=U8 (g:=B6 2) (f:=nmb 12) (h:=Nd.d) (I:=fun i ρ=>∃a2,ρ=[‹↥l›,some (.own (Nd.nmss (l.take i))),a2]) l 0 [‹↥l›,some (.own []),none] ⟨none,rfl⟩ (fun j n hj ρ hρ=>by
  obtain⟨a2,rfl⟩:=hρ
  rw[Nat.zero_add]
  obtain⟨hjl,rfl⟩:=List.getElem?_eq_some_iff.mp hj
  have ww:Nd.nmss (l.take (j+1))=Nd.nmss (l.take j)++(l[j]).nms:=by rw[List.take_succ_eq_append_getElem hjl,B8,Nd.nmss,Nd.nmss,List.append_nil]
  have wl:=congrArg (fun x=>(Nd.nmss x).length) (List.take_append_drop (j+1) l)
  simp only[B8,ww,List.length_append]at wl
  exact⟨_,rfl,_,bb3 12 _ _ (by omega) (H _ (List.getElem_mem hjl)),_,by rw[ww]⟩)
 subst hρ
 rw[Nat.zero_add,List.take_of_length_le (Nat.le_refl _),← E4]at e
 have s1:(P7 (G6 (A1 0)) (B6 2) (nmb 12)) [‹↥l›,some (.own []),none]=some (.nx [‹↥l›,some (.own (Nd.nmss l)),a2]):=e
 have nq:∀{f:DS}{k:Rho->Option (List D)}{ρ ρ':Rho},f ρ=some (.nx ρ')->aQ6 f k ρ=k ρ':=fun{f k ρ ρ'} h=>by unfold aQ6;rw[h];rfl
 show P5 [↥l]=_
 have st:L6 3 [↥l]=[‹↥l›,none,none]:=rfl
 unfold P5
 rw[st]
 exact(nq rfl).trans ((nq s1).trans rfl)
theorem aJ9{w h:Nat}{l:List Nd}(g:Wl l) {x:Str}(hx:x = "" \/ x = "zzzzzz" \/ x = "A") (hz:(.str x:D)∉Nd.nmss l) (k:Nat) (hk:k < 2):O3 [.int k,D6 w h l,.str x]=some (.bool true):=by
 have hl:aU7 (.str x):=⟨x,rfl,by rcases hx with rfl|rfl|rfl<;>decide +kernel⟩
 have e0:=ax1 _ hl 3 l 12 g.dp (by decide) g.hs hz
 have rb:F9 [D6 w h l,.str x]=some ("NoName" : Str):=by
  have st:L6 3 [D6 w h l,.str x]=[‹D6 w h l›,‹.str x›,none]:=rfl
  have fs:(aI2 Str.empty [dC (.str "no node has the name "),dRp (A1 1)] [‹D6 w h l›,‹.str x›,some (.val .none)]).isSome=true:=by rcases hx with rfl|rfl|rfl<;>kernel_rfl
  obtain⟨z,fs⟩:=Option.isSome_iff_exists.mp fs
  have s2:(B3 2 (A2 (D7 12) (A0 (dIx (A7 0) ⇑2) (A0 (A1 1) A3)))) [‹D6 w h l›,‹.str x›,none]=some (.nx [‹D6 w h l›,‹.str x›,some (.val .none)]):=by wp_walk using evD,D6,e0
  have t:(tB2 isB (A1 2) (dC .none)) [‹D6 w h l›,‹.str x›,some (.val .none)]=some true:=rfl
  unfold F9 as3
  rw[st]
  simp only[af7,rNo,s2,rIf,t,xbs,if_true,as7,fs,xms]
 have r1:L9 [D6 w h l,.str x]=some ("NoName" : Str):=by
  have st:L6 3 [D6 w h l,.str x]=[‹D6 w h l›,‹.str x›,none]:=rfl
  unfold L9 as3
  rw[st]
  wp_walk using evD,af7,X0,rb
 have r2:∀d:D,O1 [D6 w h l,.str x,d]=some ("NoName" : Str):=fun d=>by
  have st:L6 5 [D6 w h l,.str x,d]=[‹D6 w h l›,‹.str x›,‹d›,none,none]:=rfl
  unfold O1 as3
  rw[st]
  wp_walk using evD,af7,X0,rb
 refine B2 (ρ:=[‹.int k›,‹D6 w h l›,‹.str x›,none,none]) rfl ?_
 have ro:(u7 ["NoName"] (rIf (tB2 eqD (A1 0) ⇑0) (X0 L9 (A0 (A1 1) (A0 (A1 2) A3))) (X0 O1 (A0 (A1 1) (A0 (A1 2) (A0 (F0 (A0 (dC (.str "tone")) (A0 (A1 2) (A0 (dC (.str "grey")) (A0 (F0 (A0 ⇑1 (A0 ⇑2 A3))) (A0 (dC (.bool true)) A3)))))) A3)))))) [‹.int k›,‹D6 w h l›,‹.str x›,none,none]=some (("NoName" : Str),[‹.int k›,‹D6 w h l›,‹.str x›,none,none]):=by
  have c:(["NoName"]:List Str).contains ("NoName" : Str)=true:=by decide +kernel
  obtain rfl|rfl:k=0\/k=1:=by omega
  ·have t:(tB2 eqD (A1 0) ⇑0) [‹.int (0:Nat)›,‹D6 w h l›,‹.str x›,none,none]=some true:=rfl
   simp only[u7,rIf,t,xbs,if_true,X0,A0,A3,A1,xg0,xg1,xms,r1,c]
  ·have t:(tB2 eqD (A1 0) ⇑0) [‹.int (1:Nat)›,‹D6 w h l›,‹.str x›,none,none]=some false:=rfl
   simp only[u7,rIf,t,xbs,xft,if_false,if_true,X0,A0,A3,F0,dC,A1,xg0,xg1,xms,r2,c]
 unfold ae9
 refine aF0 ?_
 unfold ax6
 rw[ro]
 rfl
theorem bp4{w h:Nat}{a b l:List Nd}{n:Nd}(g:Wl l) (St:Stands a n b l):O8 [D6 w h l,n.nm]=some n.d:=by
 obtain⟨e1,_,e2,_⟩:=aq4 (w:=w) (h:=h) St g.dp g.hs g.nd g.nl
 have i2:atI (Nd.ds (a++n::b)) (a.length:Int)=some n.d:=bU8 (by rw[List.getElem?_append_right (Nat.le_refl _),Nat.sub_self];rfl)
 refine B2 (ρ:=[‹D6 w h l›,‹n.nm›,none]) rfl ?_
 wp_walk using evD,aa8,e1,e2,i2
theorem bk9{w h:Nat}{a b l:List Nd}{n:Nd}(g:Wl l) (St:Stands a n b l) (o:Nd):∃l',Rp (a++n::b) (a++o::b) l l'/\O2 [D6 w h l,n.nm,o.d]=some (D6 w h l'):=by
 obtain⟨e1,_,e2,put⟩:=aq4 (w:=w) (h:=h) St g.dp g.hs g.nd g.nl
 obtain⟨l',r,ep⟩:=put (a++[o]++b)
 have P:=St.props
 have hz:(a++n::b).length<=1000:=by
  have h0:(Nd.nmss (a++n::b)).length<=1000:=Nat.le_trans (List.Nodup.length_le_of_subset (P.nd g.nd) P.sub) g.nl
  exact Nat.le_trans (thins_of _ h0).2 h0
 rw[List.length_append,List.length_cons]at hz
 have c1:=(bi7 (a++n::b) (i:=(a.length:Int)) rfl).1
 have c2':=(bi7 (a++n::b) (i:=(a.length:Int)+1) (k:=a.length+1) (by omega)).2
 rw[List.take_left]at c1
 rw[show(a++n::b).drop (a.length+1)=b by rw[show a++n::b=(a++[n])++b by simp,List.drop_left' (by simp)]]at c2'
 have k1:=bj0 a [o] (by simp;omega)
 have k2:=bj0 (a++[o]) b (by rw[List.length_append];simp;omega)
 have d1:Nd.ds [o]=[o.d]:=by rw[Nd.ds,Nd.ds]
 rw[d1]at k1
 refine⟨l',by rw[List.append_assoc]at r;exact r,?_⟩
 refine B2 (ρ:=[‹D6 w h l›,‹n.nm›,‹o.d›,none,none]) rfl ?_
 wp_walk using evD,ae8,e1,e2,ag4,c1,c2',k1,k2,ep
theorem bM2{w h W:Nat}(Wf:Fits w h) {a b l:List Nd}{n o:Nd}(g:Gd W l) (hW:W<=700) (St:Stands a n b l) (ok:o.Ok) (dp:o.dp=0) (wg:o.wg<=40) (nm:o.nm=n.nm) (nr:o.near) :
  ∃l',O2 [D6 w h l,n.nm,o.d]=some (D6 w h l')/\K1 12 [↥l,n.nm,.tuple [o.d]]=some ↥l'/\K7 [D6 w h l']=some (.bool true)/\Wl l':=by
 obtain⟨l',r,e⟩:=bk9 (w:=w) (h:=h) g.wl St o
 have hn:G8 n.nm:=g.hs _ (St.nm _ (J8 n))
 have wt:=g.wl.wt hn (oth:=[o]) (by simp)
 rw[bO7 (a:=a) (b:=b) (oth:=[o]) (n:=n) (l:=l) (l':=l') (by rw[List.append_assoc];exact r) g.nd]at wt
 have d1:Nd.ds [o]=[o.d]:=by rw[Nd.ds,Nd.ds]
 rw[d1]at wt
 have onm:o.nms=[o.nm]:=by
  cases o with
  | layer=>rw[Nd.nms,Nd.nm]
  | tone=>rw[Nd.nms,Nd.nm]
  | group=>rw[Nd.dp]at dp;omega
 have ooff:o.off:=ao7 o nr (by
  cases o with
  | layer=>rw[Nd.thin];trivial
  | tone=>rw[Nd.thin];trivial
  | group=>rw[Nd.dp]at dp;omega)
 have ns:NS (a++o::b) (a++n::b):=by
  refine⟨_,?_,List.Perm.refl _⟩
  rw[B8,B8,Nd.nmss,Nd.nmss,onm,nm]
  exact List.Sublist.append (List.Sublist.refl _) (List.Sublist.append (List.singleton_sublist.mpr (J8 n)) (List.Sublist.refl _))
 have dd:Nd.dps (a++o::b)<=Nd.dps (a++n::b):=bu3 fun x hx=>by
  rcases List.mem_append.mp hx with q|q
  ·exact .inr (List.mem_append_left _ q)
  ·rcases List.mem_cons.mp q with rfl|q
   ·exact .inl dp
   ·exact .inr (List.mem_append_right _ (xmm _ q))
 have wl:=r.wl g.wl dd ns
 have sm:=r.small (k:=40) (fun z=>by
  have:=(ag9 _ _).mp z
  rw[Nd.Oks]at this
  refine(ag9 _ _).mpr ⟨this.1,?_⟩
  rw[Nd.Oks]
  exact⟨ok,this.2.2⟩) (by rw[O4,O4,Nd.wgs,Nd.wgs];omega) dd (fun z=>by
  have:=(v4 _ _).mp z
  rw[Nd.offs]at this
  refine(v4 _ _).mpr ⟨this.1,?_⟩
  rw[Nd.offs]
  exact⟨ooff,this.2.2⟩) wl.nl
 have ll:=(thins_of l' wl.nl).2
 have nn:=r.ns ns
 have ip:K7 [D6 w h l']=some (.bool true):=at1 Wf.w1 Wf.w8 Wf.h1 Wf.h8 wl.dp (Nat.le_trans ll wl.nl) (sm.1 g.ok) (sm.2.2.2 g.off) wl.nl (fun d hd=>g.nm d (nn.sub d hd)) wl.nd
 exact⟨l',e,wt,ip,wl⟩
abbrev e9(ns:List Int) (N:List D) (w h:Nat) (l:List Nd) (x4 x5 x6 x7 x8:Option B):Rho:=[‹scr ns›,‹.list N›,‹D6 w h l›,‹.list ((Nd.als l).map Nd.d)›,x4,x5,x6,x7,x8]
theorem bF1{l:List Nd}(g:Wl l):neD (.list (Nd.nmss l)) (.list (Nd.nmss l))=some (.bool false):=by
 refine ah0 (n:=1) (Ly.lst (n:=0) fun d hd=>?_) (by decide)
 obtain⟨s,rfl,o⟩:=g.hs d hd
 exact⟨o.ok,Nat.zero_le _⟩
theorem bF0:neD (.list []) (.list [])=some (.bool false):=ah0 (n:=1) ⟨rfl,Nat.le_refl _⟩ (by decide)
def bd:DS:=(A8 (B3 6 (A2 N0 (A0 (A1 0) (A0 ⇑800 (A0 (dIx (A7 5) ⇑1) (A0 (dC (.str "screen")) A3)))))) (A8 (B3 7 (F0 (A0 (dIx (A7 2) ⇑0) (A0 (dIx (A7 2) ⇑1) (A0 (A2 (K1 12) (A0 (dIx (A7 2) ⇑2) (A0 (dIx (A7 5) ⇑1) (A0 (F0 (A0 (A1 6) A3)) A3)))) A3))))) (sIf (L5 (tB2 neD (A2 O2 (A0 (A1 2) (A0 (dIx (A7 5) ⇑1) (A0 (A1 6) A3)))) (A1 7)) (tB2 ac4 (A2 K7 (A0 (A1 7) A3)) (dC (.bool true)))) (A9 (dC (.bool false))) C7)))
theorem nm1{i:Nat}{ρ:Rho}{n:Nd}(h:ρ[i]? = some (‹n.d›)):dIx (A7 i) ⇑1 ρ=some n.nm:=by
 unfold dIx A7
 rw[h]
 cases n<;>(rw[Nd.d];rfl)
theorem bU7(ns:List Int) (hn:ns.length<=63) (N:List D) {w h W:Nat}(Wf:Fits w h) {a b l:List Nd}{n:Nd}(g:Gd W l) (hW:W<=700) (St:Stands a n b l) (x4 x6 x7 x8:Option B) :
  ∃y6 y7,bd (e9 ns N w h l x4 (‹n.d›) x6 x7 x8)=some (.nx (e9 ns N w h l x4 (‹n.d›) y6 y7 x8)):=by
 obtain⟨o,eo,ok,dp,wg,nm,nr⟩:=aM0 ns hn 800 (by decide) n.nm .screen
 have eo:N0 [scr ns,.int 800,n.nm,.str "screen"]=some o.d:=eo
 obtain⟨l',e1,e2,e3,wl⟩:=bM2 Wf g hW St ok dp wg nm nr
 have np:neD (D6 w h l') (D6 w h l')=some (.bool false):=ah0 (bF9 wl.hs) (by have:=wl.dp;omega)
 have nb:ac4 (.bool true) (.bool true)=some (.bool false):=rfl
 refine⟨‹o.d›,‹D6 w h l'›,?_⟩
 have s6:(B3 6 (A2 N0 (A0 (A1 0) (A0 ⇑800 (A0 (dIx (A7 5) ⇑1) (A0 (dC (.str "screen")) A3)))))) (e9 ns N w h l x4 (‹n.d›) x6 x7 x8)=some (.nx (e9 ns N w h l x4 (‹n.d›) (‹o.d›) x7 x8)):=by
  have f:=nm1 (i:=5) (ρ:=e9 ns N w h l x4 (‹n.d›) x6 x7 x8) (n:=n) rfl
  wp_walk using evQ,f,eo
 have s7:(B3 7 (F0 (A0 (dIx (A7 2) ⇑0) (A0 (dIx (A7 2) ⇑1) (A0 (A2 (K1 12) (A0 (dIx (A7 2) ⇑2) (A0 (dIx (A7 5) ⇑1) (A0 (F0 (A0 (A1 6) A3)) A3)))) A3))))) (e9 ns N w h l x4 (‹n.d›) (‹o.d›) x7 x8)=some (.nx (e9 ns N w h l x4 (‹n.d›) (‹o.d›) (‹D6 w h l'›) x8)):=by
  have f:=nm1 (i:=5) (ρ:=e9 ns N w h l x4 (‹n.d›) (‹o.d›) x7 x8) (n:=n) rfl
  have p0:dIx (A7 2) ⇑0 (e9 ns N w h l x4 (‹n.d›) (‹o.d›) x7 x8)=some (.int w):=rfl
  have p1:dIx (A7 2) ⇑1 (e9 ns N w h l x4 (‹n.d›) (‹o.d›) x7 x8)=some (.int h):=rfl
  have p2:dIx (A7 2) ⇑2 (e9 ns N w h l x4 (‹n.d›) (‹o.d›) x7 x8)=some ↥l:=rfl
  wp_walk using evQ,f,p0,p1,p2,e2
  rfl
 have s8:(sIf (L5 (tB2 neD (A2 O2 (A0 (A1 2) (A0 (dIx (A7 5) ⇑1) (A0 (A1 6) A3)))) (A1 7)) (tB2 ac4 (A2 K7 (A0 (A1 7) A3)) (dC (.bool true)))) (A9 (dC (.bool false))) C7) (e9 ns N w h l x4 (‹n.d›) (‹o.d›) (‹D6 w h l'›) x8)=some (.nx (e9 ns N w h l x4 (‹n.d›) (‹o.d›) (‹D6 w h l'›) x8)):=by
  have f:=nm1 (i:=5) (ρ:=e9 ns N w h l x4 (‹n.d›) (‹o.d›) (‹D6 w h l'›) x8) (n:=n) rfl
  wp_walk using evQ,f,e1,e3,np,nb
 exact(B5 s6).trans ((B5 s7).trans s8)
theorem main:∀ns:List Int,ns.length<=63->aO2 [.list (ns.map PyData.int)]=some (.bool true):=by
 intro ns hn
 obtain⟨N,eN,hN,b,hP⟩:=bb6 ns hn 0 6 (by decide) (by decide)
 have eN:i6 [scr ns,.int 0,.int 6]=some (.list N):=eN
 obtain⟨w,h,l,ep,hl,hw,hh⟩:=aF8 ns hn 30 4 (by decide) (by decide) N (by omega)
 have ep:T4 [scr ns,.int 30,.int 4,.list N]=some (D6 w h l):=ep
 have w1:=hw.1
 have w8:w<=8:=by omega
 have h1:=hh.1
 have h8:h<=8:=by omega
 have Wf:Fits w h:=⟨w1,w8,h1,h8⟩
 obtain⟨is,q1_ix,q2,q3⟩:=hl.ix
 have nmv:∀j,j < 6->∃y,N.getD j .none=.str (nmS b j y)/\SOk y/\(nmS b j y).length=y.length+1/\y.length<=4:=fun j hj=>by
  obtain⟨y,e1,e2⟩:=hP j hj
  refine⟨y,by rw[List.getD_eq_getElem?_getD,e1];rfl,e2.1,?_,e2.2⟩
  have lc:(ltr j).cps.size=1:=rfl
  cases b
  ·show(y.cps++(ltr j).cps).size=_
   rw[Array.size_append,lc];rfl
  ·show((ltr j).cps++y.cps).size=_
   rw[Array.size_append,lc,Nat.add_comm];rfl
 have lw:=hl.wg
 have ld:=hl.dp
 have ll:=hl.len
 have nm6:∀j,j < 6->Nm (N.getD j .none):=fun j hj=>by
  obtain⟨y,e1,e2,e3,e4⟩:=nmv j hj
  exact⟨_,e1,bp5 b (by omega) e2,by omega,by omega⟩
 have nlen:(Nd.nmss l).length<=1000:=by
  rw[q1_ix,List.length_map]
  have:=List.Nodup.length_le_of_subset (l₂:=List.range 6) q2 fun j hj=>List.mem_range.mpr (by have:=q3 j hj;omega)
  rw[List.length_range]at this;omega
 have g:Gd 400 l:=by
  refine⟨hl.ok,by omega,by omega,nears_off' l hl.nr hl.th,fun d hd=>?_,?_,nlen⟩
  ·rw[q1_ix]at hd
   obtain⟨j,hj,rfl⟩:=List.mem_map.mp hd
   exact nm6 j (by have:=q3 j hj;omega)
  ·rw[q1_ix]
   refine List.pairwise_map.mpr (List.Pairwise.imp_of_mem (fun{i j} hi hj ne e=>?_) q2)
   obtain⟨y,e1,_⟩:=nmv i (by have:=q3 i hi;omega)
   obtain⟨z,e2,_⟩:=nmv j (by have:=q3 j hj;omega)
   rw[e1,e2]at e
   exact ne (bp6 (PyData.str.inj e))
 have hz:∀x:Str,x = "" \/ x = "zzzzzz" \/ x = "A" -> (.str x:D)∉Nd.nmss l:=fun x hx hd=>by
  have nd:=g.hs _ hd
  rw[q1_ix]at hd
  obtain⟨j,hj,e⟩:=List.mem_map.mp hd
  obtain⟨y,e1,_,e3,e4⟩:=nmv j (by have:=q3 j hj;omega)
  rw[e1]at e
  have:=PyData.str.inj e
  rw[this]at e3
  rcases hx with rfl|rfl|rfl
  ·have:("" : Str).length=0:=by decide +kernel
   omega
  ·have:("zzzzzz" : Str).length=6:=by decide +kernel
   omega
  ·obtain⟨s,es,so⟩:=nd
   have es:=PyData.str.inj es
   subst es
   exact absurd so (by unfold SOk;decide +kernel)
 have eX:=bN1 3 l 12 g.dp (by decide) (by have:=als_len l;have:=g.wg;omega)
 have la:(Nd.als l).length<=1000:=by have:=als_len l;have:=g.wg;omega
 have en:=bS2 (w:=w) (h:=h) g.wl
 have en2:=ay8 (w:=w) (h:=h) g.dp g.nl
 have ne:=bF1 g.wl
 obtain⟨dr,ed,ldr⟩:=D9 ns hn (e:=22) (m':=3) 22 3 rfl rfl (by decide) (by decide)
 have s0:aE7 [‹scr ns›,none,none,none,none,none,none,none,none]=some (.nx [‹scr ns›,‹.list N›,none,none,none,none,none,none,none]):=by wp_walk using evD,aE7,eN
 have s1:aE6 [‹scr ns›,‹.list N›,none,none,none,none,none,none,none]=some (.nx [‹scr ns›,‹.list N›,‹D6 w h l›,none,none,none,none,none,none]):=by wp_walk using evD,aE6,ep
 have s2:aE5 [‹scr ns›,‹.list N›,‹D6 w h l›,none,none,none,none,none,none]=some (.nx (e9 ns N w h l none none none none none)):=by
  have p2:dIx (A7 2) ⇑2 [‹scr ns›,‹.list N›,‹D6 w h l›,none,none,none,none,none,none]=some ↥l:=rfl
  wp_walk using evQ,aE5,p2,eX
 have s3:aE4 (e9 ns N w h l none none none none none)=some (.nx (e9 ns N w h l (some (.own (Nd.nmss l))) none none none none)):=by wp_walk using evD,aE4,S7,ay9,en
 have nc:∀x4,C4 1 [] (G6 (A1 3)) (B6 0) C9 (dIx (A7 0) ⇑1) (e9 ns N w h l x4 none none none none)=some (Nd.nmss l):=fun x4=>by
  rw[← als_nms]
  exact aG2 la (G6 (A1 3)) _ rfl
 have s4:aE3 (e9 ns N w h l (some (.own (Nd.nmss l))) none none none none)=some (.nx (e9 ns N w h l (some (.own (Nd.nmss l))) none none none none)):=by
  have t:(L5 (F7 (G1 (P0 "list" (A1 4)))) (tB2 neD (A1 4) (Q0 (C4 1 [] (G6 (A1 3)) (B6 0) C9 (dIx (A7 0) ⇑1))))) (e9 ns N w h l (‹.list (Nd.nmss l)›) none none none none)=some false:=by
   have i:w4 "list" (.list (Nd.nmss l))=some true:=rfl
   have nc':=nc (‹.list (Nd.nmss l)›)
   simp only[L5,F7,G1,P0,A1,xg0,xg1,xbs,i,xms,ab4,xnt,xft,if_false,tB2,A5,Q0,nc',ne,G4]
  unfold aE3 sIf bl7
  rw[show frz 4 (e9 ns N w h l (some (.own (Nd.nmss l))) none none none none)=e9 ns N w h l (‹.list (Nd.nmss l)›) none none none none from rfl,t]
  rfl
 have s5:aE2 (e9 ns N w h l (some (.own (Nd.nmss l))) none none none none)=some (.nx (e9 ns N w h l (some (.own (Nd.nmss l++[.str "zz"]))) none none none none)):=by
  have hx:(Nd.nmss l).length < 16777216:=by omega
  simp only[aE2,P8,xg0,xg1,if_pos hx,dC,xms,xw0,xw1]
 have s6:∀x4,aE1 (e9 ns N w h l x4 none none none none)=some (.nx (e9 ns N w h l x4 none none none none)):=fun x4=>by
  have nc':=nc x4
  simp only[aE1,sIf,tB2,A5,A2,A0,A3,A1,xg0,xg1,xbs,xms,en2,Q0,nc',ne,G4,xft,if_false,C7]
 have s7:∀x4,aE0 (e9 ns N w h l x4 none none none none)=some (.nx (e9 ns N w h l x4 none none none none)):=fun x4=>by
  have c:C4 1 [2] (G6 (A1 3)) (B6 0) (tB2 neD (A2 O8 (A0 (A1 1) (A0 (dIx (A7 0) ⇑1) A3))) (A1 0)) (A1 0) (e9 ns N w h l x4 none none none none)=some []:=by
   have:=bp8 (caps:=[2]) (src:=G6 (A1 3)) (c:=tB2 neD (A2 O8 (A0 (A1 1) (A0 (dIx (A7 0) ⇑1) A3))) (A1 0)) (e:=A1 0) (ρ:=e9 ns N w h l x4 none none none none) (l:=Nd.als l) (h:=Nd.d) (f:=Nd.d) (p:=fun _=>false) (r:=[‹D6 w h l›]) rfl rfl la (fun n hm=>by
    obtain⟨a,b,St⟩:=ak6 g.nd hm
    have e:=bp4 (w:=w) (h:=h) g.wl St
    have f:=nm1 (i:=0) (ρ:=[‹n.d›,‹D6 w h l›]) (n:=n) rfl
    have P:=St.props
    have z:neD n.d n.d=some (.bool false):=ah0 (bx2 n fun d hd=>g.hs d (P.sub d (J5 (by simp) hd))) (by have:=P.dp;have:=g.dp;omega)
    simp only[tB2,A5,A2,A0,A3,A1,xg0,xg1,xbs,xms,f,e,z,G4]) (fun _ _=>rfl)
   rw[this]
   simp
  simp only[aE0,sIf,tB2,A5,Q0,c,A3,xms,xbs,bF0,G4,xft,if_false,C7]
 obtain⟨ρ',e,x5,x6,x7,hρ⟩:=x3 (g:=B6 5) (f:=bd) (I:=fun ρ=>∃x5 x6 x7,ρ=e9 ns N w h l (some (.own (Nd.nmss l++[.str "zz"]))) x5 x6 x7 none) ((Nd.als l).map Nd.d) (e9 ns N w h l (some (.own (Nd.nmss l++[.str "zz"]))) none none none none) ⟨none,none,none,rfl⟩ (fun x hx ρ hρ=>by
  obtain⟨x5,x6,x7,rfl⟩:=hρ
  obtain⟨n,hm,rfl⟩:=List.mem_map.mp hx
  obtain⟨a,b,St⟩:=ak6 g.nd hm
  obtain⟨y6,y7,eb⟩:=bU7 ns hn N Wf g (by decide) St (some (.own (Nd.nmss l++[.str "zz"]))) x6 x7 none
  exact⟨_,rfl,_,eb,_,_,_,rfl⟩)
 subst hρ
 have s8:aX5 (e9 ns N w h l (some (.own (Nd.nmss l++[.str "zz"]))) none none none none)=some (.nx (e9 ns N w h l (some (.own (Nd.nmss l++[.str "zz"]))) x5 x6 x7 none)):=e
 obtain⟨x,hx,ix⟩:∃x:Str,(x = "" \/ x = "zzzzzz" \/ x = "A")/\atI ([.str "", .str "zzzzzz", .str "A"]:List D) (dr:Int)=some (.str x):=by
  rcases(by omega:dr=0\/dr=1\/dr=2) with rfl|rfl|rfl
  ·exact⟨"", .inl rfl,rfl⟩
  ·exact⟨"zzzzzz", .inr (.inl rfl),rfl⟩
  ·exact⟨"A", .inr (.inr rfl),rfl⟩
 have s9:aD9 (e9 ns N w h l (some (.own (Nd.nmss l++[.str "zz"]))) x5 x6 x7 none)=some (.nx (e9 ns N w h l (some (.own (Nd.nmss l++[.str "zz"]))) x5 x6 x7 (‹.str x›))):=by wp_walk using evD,aD9,ed,ix
 have t1:=aJ9 (w:=w) (h:=h) g.wl hx (hz x hx) 0 (by decide)
 have t2:=aJ9 (w:=w) (h:=h) g.wl (.inr (.inl rfl)) (hz "zzzzzz" (.inr (.inl rfl))) 1 (by decide)
 have t1:O3 [.int 0,D6 w h l,.str x]=some (.bool true):=t1
 have t2:O3 [.int 1,D6 w h l,.str "zzzzzz"]=some (.bool true):=t2
 have s10:ar7 (e9 ns N w h l (some (.own (Nd.nmss l++[.str "zz"]))) x5 x6 x7 (‹.str x›))=some (.rt (.bool true)):=by wp_walk using evD,ar7,t1,t2
 refine B2 (ρ:=[‹scr ns›,none,none,none,none,none,none,none,none]) rfl ?_
 exact(B5 s0).trans ((B5 s1).trans ((B5 s2).trans ((B5 s3).trans ((B5 s4).trans ((B5 s5).trans ((B5 (s6 _)).trans ((B5 (s7 _)).trans ((B5 s8).trans ((B5 s9).trans s10)))))))))
end Lk21
namespace Lk21
open PySem PySem.Spec PyProof.Rows L2 G Sh
theorem M6{K:PySem.W.Frag}(x:Str) (t:Tok):aC3 K (.str x) (.str x t):=⟨.str x,⟨t,rfl⟩,fun _=>rfl⟩
def zcs:List (Str×D):=[("MANNERS", (.tuple [(.str "over"),(.str "multiply"),(.str "screen"),(.str "plus"),(.str "atop"),(.str "cut")])),("RULES", (.tuple [(.str "turn"),(.str "grey"),(.str "round")])),("GREATEST", (.int 8)),("LETTERS", (.str "abcdefghijklmnopqrstuvwxyz")),("DEEPEST", (.int 3)),("FARTHEST", (.int 9))]
def zbl:List Str:=["ValueError", "all", "bool", "enumerate", "int", "isinstance", "len", "list", "range", "set", "str", "tuple"]
def tb0:Tab:=[]
def zcl:List Str:=["NoName"]
def ztb:List (Str×List (Str×Bool)):=[("NoMerge", [("NoName", false)]),("NoName", [("NoName", true)]),("NoText", [("NoName", false)]),("ValueError", [("NoName", true)])]
def zsb:List (Str×List Str):=[("GlazeError", ["NoName"])]
def znb:List (Str×List Str):=[("GlazeError", [])]
def zT(rt:aw3) (xt:bj6):Rg:=⟨rt,zcl,ztb,zsb,znb,xt⟩
def rt0:aw3:=[]
def xt0:bj6:=[]
def aH3:Fd:=fdm "is_whole" (top 6) 1 ["thing"] true
def ad0:Fd:=fdm "common_divisor" (top 7) 2 ["one", "other", "left_over"] true
def aH8:Fd:=fdm "is_share" (top 8) 1 ["thing", "top", "under"] true
def au9:Fd:=fdm "is_at_most" (top 9) 2 ["one", "other"] true
def aS9:Fd:=fdm "kind_of" (top 11) 1 ["node"]
def aH9:Fd:=fdm "is_layer" (top 12) 1 ["node"]
def aI0:Fd:=fdm "is_group" (top 13) 1 ["node"]
def aT0:Fd:=fdm "is_tone" (top 14) 1 ["node"]
def aS0:Fd:=fdm "name_of" (top 15) 1 ["node"]
def aB0:Fd:=fdm "manner_of" (top 16) 1 ["node"]
def aR9:Fd:=fdm "rule_of" (top 17) 1 ["tone"]
def am7:Fd:=fdm "strength_of" (top 18) 1 ["node"]
def aH6:Fd:=fdm "is_shown" (top 19) 1 ["node"]
def aS2:Fd:=fdm "left_of" (top 20) 1 ["layer"]
def bh9:Fd:=fdm "top_of" (top 21) 1 ["layer"]
def aS1:Fd:=fdm "mask_of" (top 22) 1 ["layer"]
def aH2:Fd:=fdm "sheet_of" (top 23) 1 ["layer"]
def am8:Fd:=fdm "inner_nodes" (top 24) 1 ["group"]
def n9:Fd:=fdm "with_inner_nodes" (top 25) 2 ["group", "nodes"]
def aT1:Fd:={ fdm "is_spot" (top 29) 1 ["thing"] true with hc:=[((68,15),[0])] }
def aT2:Fd:=fdm "is_size" (top 32) 1 ["thing"]
def aH5:Fd:=fdm "is_sized" (top 33) 1 ["thing"]
def aH7:Fd:=fdm "is_sheet" (top 34) 1 ["thing", "spots"]
def aT3:Fd:={ fdm "is_name" (top 39) 1 ["thing"] with tx:=[0] }
def aH4:Fd:=fdm "is_truth" (top 40) 1 ["thing"]
def aB3:Fd:=fdm "is_offset" (top 41) 1 ["thing"]
def aT4:Fd:=fdm "is_mask" (top 42) 2 ["thing", "sheet"]
def j7:Fd:=fdm "is_layer_of_parts" (top 43) 1 ["thing"]
def j8:Fd:=fdm "is_group_of_nodes" (top 44) 2 ["thing", "deepest"]
def ag3:Fd:=fdm "has_node_form" (top 45) 2 ["thing", "deepest"]
def aB4:Fd:={ fdm "are_nodes" (top 46) 2 ["thing", "deepest"] with hc:=[((117,44),[1])] }
def k8:Fd:={ fdm "names_among" (top 47) 1 ["nodes", "names", "node"] with own:=[1],fz:=[(124,[1])] }
def o5:Fd:=fdm "are_names_unlike" (top 48) 1 ["nodes", "names"]
def au8:Fd:=fdm "is_picture" (top 49) 1 ["thing"]
def ak3:Fd:=fdm "names_in" (top 50) 1 ["picture"]
def ak2:Fd:=fdm "number_among" (top 51) 2 ["nodes", "name", "number", "node"]
def au7:Fd:=fdm "tuple_with" (top 52) 2 ["nodes", "name", "node", "told"]
def Z5:Fd:=fdm "nodes_beside" (top 53) 2 ["picture", "name", "nodes"]
def rt1:aw3:=("nodes_beside", F9,2)::rt0
def j6:Fd:={ fdm "nodes_with_others" (top 54) 3 ["nodes", "name", "others"] with hc:=[((154,17),[1,2])] }
def o0:Fd:=fdm "node_with_others" (top 55) 3 ["node", "name", "others"]
def j4:Fd:=fdm "with_nodes_beside" (top 56) 3 ["picture", "name", "others"]
def aa0:Fd:=fdm "node_named" (top 57) 2 ["picture", "name", "nodes"]
def rt2:aw3:=("node_named", L9,2)::rt1
def ae6:Fd:=fdm "with_node" (top 58) 3 ["picture", "name", "node", "nodes", "number"]
def rt3:aw3:=("with_node", O1,3)::rt2
def bi4:Fd:=fdm "_law_cell" (top 60) 2 ["_law_script", "_law_k"] true
def aS8:Fd:=fdm "_law_drawn" (top 61) 3 ["_law_script", "_law_k", "_law_many", "_law_cell_here"] true
def bi2:Fd:=fdm "_law_made" (top 62) 2 ["_law_top", "_law_under", "_law_one", "_law_by"] true
def aS3:Fd:=fdm "_law_times" (top 64) 2 ["_law_one", "_law_other"] true
def aS5:Fd:=fdm "_law_share" (top 66) 2 ["_law_script", "_law_at", "_law_under", "_law_drawn_here"] true
def bi1:Fd:={ fdm "_law_spot" (top 67) 2 ["_law_script", "_law_at", "_law_cover"] true with hc:=[((195,33),[2,0,1])] }
def aS4:Fd:={ fdm "_law_sheet" (top 68) 4 ["_law_script", "_law_at", "_law_wide", "_law_high", "_law_spots"] with hc:=[((197,17),[0,1])] }
def aS7:Fd:={ fdm "_law_names" (top 69) 3 ["_law_script", "_law_at", "_law_many", "_law_is_first", "_law_found", "_law_k", "_law_word"] with own:=[4],tx:=[6],fz:=[(208,[4])],hc:=[((205,28),[0,1,5])] }
def bi3:Fd:={ fdm "_law_leaf" (top 70) 4 ["_law_script", "_law_at", "_law_name", "_law_main", "_law_strength", "_law_is_shown", "_law_manner", "_law_wide", "_law_high", "_law_mask", "_law_left", "_law_top", "_law_sheet_here"] with hc:=[((221,26),[0,1])] }
def aS6:Fd:={ fdm "_law_nodes" (top 71) 4 ["_law_script", "_law_at", "_law_most", "_law_names_here", "_law_main", "_law_many", "_law_found", "_law_k", "_law_first", "_law_last", "_law_strength", "_law_manner", "_law_group"] with own:=[6],hc:=[((231,17),[0,4,3,1])] }
def aB2:Fd:=fdm "_law_picture" (top 72) 4 ["_law_script", "_law_at", "_law_most", "_law_names_here", "_law_wide", "_law_high"]
def bu4:Fd:={ fdm "_law_all" (top 73) 1 ["_law_nodes_here", "_law_found", "_law_node"] with own:=[1],fz:=[(250,[1])] }
def bi0:Fd:={ fdm "_law_with" (top 74) 3 ["_law_nodes_here", "_law_name", "_law_others", "_law_found", "_law_node"] with own:=[3] }
def aB1:Fd:=fdm "_law_refused" (top 75) 3 ["_law_way", "_law_picture_here", "_law_name", "e", "_law_flags"]
def by0:Fd:={ fdm "law" (top 76) 1 ["_law_script", "_law_names_here", "_law_picture_here", "_law_nodes_here", "_law_told", "_law_node", "_law_other", "_law_due", "_law_odd"] with own:=[4],fz:=[(276,[4])],hc:=[((281,7),[2])] }
structure Qs (K:PySem.W.Frag):Prop where
 h_is_whole:KF K "is_whole" (top 6)
 h_common_divisor:KF K "common_divisor" (top 7)
 h_is_share:KF K "is_share" (top 8)
 h_is_at_most:KF K "is_at_most" (top 9)
 h_kind_of:KF K "kind_of" (top 11)
 h_is_layer:KF K "is_layer" (top 12)
 h_is_group:KF K "is_group" (top 13)
 h_is_tone:KF K "is_tone" (top 14)
 h_name_of:KF K "name_of" (top 15)
 h_manner_of:KF K "manner_of" (top 16)
 h_rule_of:KF K "rule_of" (top 17)
 h_strength_of:KF K "strength_of" (top 18)
 h_is_shown:KF K "is_shown" (top 19)
 h_left_of:KF K "left_of" (top 20)
 h_top_of:KF K "top_of" (top 21)
 h_mask_of:KF K "mask_of" (top 22)
 h_sheet_of:KF K "sheet_of" (top 23)
 h_inner_nodes:KF K "inner_nodes" (top 24)
 h_with_inner_nodes:KF K "with_inner_nodes" (top 25)
 h_is_spot:KF K "is_spot" (top 29)
 h_is_size:KF K "is_size" (top 32)
 h_is_sized:KF K "is_sized" (top 33)
 h_is_sheet:KF K "is_sheet" (top 34)
 h_is_name:KF K "is_name" (top 39)
 h_is_truth:KF K "is_truth" (top 40)
 h_is_offset:KF K "is_offset" (top 41)
 h_is_mask:KF K "is_mask" (top 42)
 h_is_layer_of_parts:KF K "is_layer_of_parts" (top 43)
 h_is_group_of_nodes:KF K "is_group_of_nodes" (top 44)
 h_has_node_form:KF K "has_node_form" (top 45)
 h_are_nodes:KF K "are_nodes" (top 46)
 h_names_among:KF K "names_among" (top 47)
 h_are_names_unlike:KF K "are_names_unlike" (top 48)
 h_is_picture:KF K "is_picture" (top 49)
 h_names_in:KF K "names_in" (top 50)
 h_number_among:KF K "number_among" (top 51)
 h_tuple_with:KF K "tuple_with" (top 52)
 h_nodes_beside:KF K "nodes_beside" (top 53)
 h_nodes_with_others:KF K "nodes_with_others" (top 54)
 h_node_with_others:KF K "node_with_others" (top 55)
 h_with_nodes_beside:KF K "with_nodes_beside" (top 56)
 h_node_named:KF K "node_named" (top 57)
 h_with_node:KF K "with_node" (top 58)
 h_l_cell:KF K "_law_cell" (top 60)
 h_l_drawn:KF K "_law_drawn" (top 61)
 h_l_made:KF K "_law_made" (top 62)
 h_l_times:KF K "_law_times" (top 64)
 h_l_share:KF K "_law_share" (top 66)
 h_l_spot:KF K "_law_spot" (top 67)
 h_l_sheet:KF K "_law_sheet" (top 68)
 h_l_names:KF K "_law_names" (top 69)
 h_l_leaf:KF K "_law_leaf" (top 70)
 h_l_nodes:KF K "_law_nodes" (top 71)
 h_l_picture:KF K "_law_picture" (top 72)
 h_l_all:KF K "_law_all" (top 73)
 h_l_with:KF K "_law_with" (top 74)
 h_l_refused:KF K "_law_refused" (top 75)
 h_law:KF K "law" (top 76)
theorem bV9{P:Program}{w:World}{K:PySem.W.Frag}{mg:Str->Option Value}(M:Md K mg zcs zbl) (C:∀rt xt,Cl K mg (zT rt xt)) (q:Qs K):∃tab nt,rdL tab zcs zbl nt by0=aO2/\∀base:Heap,TOk P w K mg base 122 tab/\TNk P w K mg base 122 nt:=by
 refine⟨?tab,?nt,?e,fun base=>?t⟩
 case t =>
  have t:TOk P w K mg base 0 tb0:=TOk.nil
  have r:TRk P w K mg base 0 rt0:=TRk.nil
  have x:TXk P w K mg base 0 xt0:=TXk.nil
  have t:=t.add M aH3 q.h_is_whole K6
  have t:=t.add M ad0 q.h_common_divisor K2
  have t:=t.add M aH8 q.h_is_share P4
  have t:=t.add M au9 q.h_is_at_most R6
  have t:=t.add M aS9 q.h_kind_of i7
  have t:=t.add M aH9 q.h_is_layer N8
  have t:=t.add M aI0 q.h_is_group J2
  have t:=t.add M aT0 q.h_is_tone R7
  have t:=t.add M aS0 q.h_name_of M0
  have t:=t.add M aB0 q.h_manner_of L7
  have t:=t.add M aR9 q.h_rule_of V1
  have t:=t.add M am7 q.h_strength_of M9
  have t:=t.add M aH6 q.h_is_shown S6
  have t:=t.add M aS2 q.h_left_of h9
  have t:=t.add M bh9 q.h_top_of ab3
  have t:=t.add M aS1 q.h_mask_of g8
  have t:=t.add M aH2 q.h_sheet_of S4
  have t:=t.add M am8 q.h_inner_nodes D5
  have t:=t.add M n9 q.h_with_inner_nodes N7
  have t:=t.add M aT1 q.h_is_spot i8
  have t:=t.add M aT2 q.h_is_size V4
  have t:=t.add M aH5 q.h_is_sized S5
  have t:=t.add M aH7 q.h_is_sheet r9
  have t:=t.add M aT3 q.h_is_name ae0
  have t:=t.add M aH4 q.h_is_truth r8
  have t:=t.add M aB3 q.h_is_offset T5
  have t:=t.add M aT4 q.h_is_mask ae1
  have t:=t.add M j7 q.h_is_layer_of_parts J6
  have t:=TOk.rec3 t M j8 ag3 aB4 q.h_is_group_of_nodes q.h_has_node_form q.h_are_nodes j9 Q5 Q1 12
  have t:=TOk.rec t M k8 q.h_names_among D4 12
  have t:=t.add M o5 q.h_are_names_unlike N9
  have t:=t.add M au8 q.h_is_picture K7
  have t:=t.add M ak3 q.h_names_in r6
  have t:=t.add M ak2 q.h_number_among D3
  have t:=TOk.rec t M au7 q.h_tuple_with D7 12
  have t:TOk P w K mg base 68 _:=t
  have r:TRk P w K mg base 69 rt1:=TRk.add (T:=zT rt0 xt0) (r.mono (by decide)) t (x.mono (by decide)) M (C _ _) Z5 q.h_nodes_beside F9
  have t:=t.add M Z5 q.h_nodes_beside K0
  have t:=TOk.rec2 t M j6 o0 q.h_nodes_with_others q.h_node_with_others E5 F5 12
  have t:=t.add M j4 q.h_with_nodes_beside M4
  have t:TOk P w K mg base 82 _:=t
  have r:TRk P w K mg base 83 rt2:=TRk.add (T:=zT rt1 xt0) (r.mono (by decide)) t (x.mono (by decide)) M (C _ _) aa0 q.h_node_named L9
  have t:=t.add M aa0 q.h_node_named O8
  have t:TOk P w K mg base 83 _:=t
  have r:TRk P w K mg base 84 rt3:=TRk.add (T:=zT rt2 xt0) r t (x.mono (by decide)) M (C _ _) ae6 q.h_with_node O1
  have t:=t.add M ae6 q.h_with_node O2
  have t:=t.add M bi4 q.h_l_cell al9
  have t:=t.add M aS8 q.h_l_drawn A6
  have t:=t.add M bi2 q.h_l_made V3
  have t:=t.add M aS3 q.h_l_times ad8
  have t:=t.add M aS5 q.h_l_share G9
  have t:=t.add M bi1 q.h_l_spot V2
  have t:=t.add M aS4 q.h_l_sheet i5
  have t:=t.add M aS7 q.h_l_names i6
  have t:=t.add M bi3 q.h_l_leaf N0
  have t:=t.add M aS6 q.h_l_nodes ad9
  have t:=t.add M aB2 q.h_l_picture T4
  have t:=TOk.rec t M bu4 q.h_l_all N4 12
  have t:=TOk.rec t M bi0 q.h_l_with K1 12
  have t:TOk P w K mg base 119 _:=t
  have t:=t.addT (T:=zT rt3 xt0) (r.mono (by decide)) (x.mono (by decide)) M (C _ _) aB1 q.h_l_refused O3
  have t:TOk P w K mg base 120 _:=t
  have n:=(TNk.nil (P:=P) (w:=w) (K:=K) (mg:=mg) (base:=base)).mono (Nat.zero_le 120)
  have n:TNk P w K mg base 121 _:=TNk.add n t M k8 q.h_names_among P5
  have t:TOk P w K mg base 121 _:=t.mono (Nat.le_succ _)
  have n:TNk P w K mg base 122 _:=TNk.add n t M ak3 q.h_names_in o9
  have t:TOk P w K mg base 122 _:=t.mono (Nat.le_succ _)
  constructor
  ·exact t
  ·exact n
 case e=>kernel_rfl
theorem zmd{K:PySem.W.Frag}{h:Heap}{mg:Str->Option Value}{q0 q1:Addr}{y0 y1:Array (Option Value)}{g0t0 g0t1 g0t2 g0t3 g0t4 g0t5 g1t0 g1t1 g1t2 g2 g3 g4 g5:Tok}{n0 n1:Nat}(X:K.In h) (G:h.Ns mainGlobals mg) (p0:PySem.W.nsIn K mainGlobals "MANNERS" = some (some (.ref q0))) (r0:K.lookup q0=some ⟨.type "tuple", none,.seq #[.str "over" g0t0,.str "multiply" g0t1,.str "screen" g0t2,.str "plus" g0t3,.str "atop" g0t4,.str "cut" g0t5] n0,y0⟩) (p1:PySem.W.nsIn K mainGlobals "RULES" = some (some (.ref q1))) (r1:K.lookup q1=some ⟨.type "tuple", none,.seq #[.str "turn" g1t0,.str "grey" g1t1,.str "round" g1t2] n1,y1⟩) (p2:PySem.W.nsIn K mainGlobals "GREATEST" = some (some (.int 8 g2))) (p3:PySem.W.nsIn K mainGlobals "LETTERS" = some (some (.str "abcdefghijklmnopqrstuvwxyz" g3))) (p4:PySem.W.nsIn K mainGlobals "DEEPEST" = some (some (.int 3 g4))) (p5:PySem.W.nsIn K mainGlobals "FARTHEST" = some (some (.int 9 g5))) (z0:PySem.W.nsIn K mainGlobals "ValueError" = some none) (z1:PySem.W.nsIn K mainGlobals "all" = some none) (z2:PySem.W.nsIn K mainGlobals "bool" = some none) (z3:PySem.W.nsIn K mainGlobals "enumerate" = some none) (z4:PySem.W.nsIn K mainGlobals "int" = some none) (z5:PySem.W.nsIn K mainGlobals "isinstance" = some none) (z6:PySem.W.nsIn K mainGlobals "len" = some none) (z7:PySem.W.nsIn K mainGlobals "list" = some none) (z8:PySem.W.nsIn K mainGlobals "range" = some none) (z9:PySem.W.nsIn K mainGlobals "set" = some none) (z10:PySem.W.nsIn K mainGlobals "str" = some none) (z11:PySem.W.nsIn K mainGlobals "tuple" = some none):Md K mg zcs zbl:=by
 refine⟨fun x v e=>PySem.W.mg_of X G e,fun x d e=>?_,fun x e=>?_⟩
 ·unfold zcs at e
  rw[List.lookup_cons]at e
  split at e
  ·rename_i q;cases e;simp only[beq_iff_eq]at q;subst q;exact⟨_,(az7 r0 rfl rfl rfl (by show 6<=1000;decide) (K4 (M6 "over" g0t0) (K4 (M6 "multiply" g0t1) (K4 (M6 "screen" g0t2) (K4 (M6 "plus" g0t3) (K4 (M6 "atop" g0t4) (K4 (M6 "cut" g0t5) ap0))))))),PySem.W.mg_of X G p0⟩
  rw[List.lookup_cons]at e
  split at e
  ·rename_i q;cases e;simp only[beq_iff_eq]at q;subst q;exact⟨_,(az7 r1 rfl rfl rfl (by show 3<=1000;decide) (K4 (M6 "turn" g1t0) (K4 (M6 "grey" g1t1) (K4 (M6 "round" g1t2) ap0)))),PySem.W.mg_of X G p1⟩
  rw[List.lookup_cons]at e
  split at e
  ·rename_i q;cases e;simp only[beq_iff_eq]at q;subst q;exact⟨_,(aj7 8 g2),PySem.W.mg_of X G p2⟩
  rw[List.lookup_cons]at e
  split at e
  ·rename_i q;cases e;simp only[beq_iff_eq]at q;subst q;exact⟨_,(M6 "abcdefghijklmnopqrstuvwxyz" g3),PySem.W.mg_of X G p3⟩
  rw[List.lookup_cons]at e
  split at e
  ·rename_i q;cases e;simp only[beq_iff_eq]at q;subst q;exact⟨_,(aj7 3 g4),PySem.W.mg_of X G p4⟩
  rw[List.lookup_cons]at e
  split at e
  ·rename_i q;cases e;simp only[beq_iff_eq]at q;subst q;exact⟨_,(aj7 9 g5),PySem.W.mg_of X G p5⟩
  cases e
 ·unfold zbl at e
  simp only[List.contains_cons,List.contains_nil,Bool.or_false,Bool.or_eq_true,beq_iff_eq]at e
  rcases e with e|e|e|e|e|e|e|e|e|e|e|e
  ·subst e;exact PySem.W.mg_none_of X G z0
  ·subst e;exact PySem.W.mg_none_of X G z1
  ·subst e;exact PySem.W.mg_none_of X G z2
  ·subst e;exact PySem.W.mg_none_of X G z3
  ·subst e;exact PySem.W.mg_none_of X G z4
  ·subst e;exact PySem.W.mg_none_of X G z5
  ·subst e;exact PySem.W.mg_none_of X G z6
  ·subst e;exact PySem.W.mg_none_of X G z7
  ·subst e;exact PySem.W.mg_none_of X G z8
  ·subst e;exact PySem.W.mg_none_of X G z9
  ·subst e;exact PySem.W.mg_none_of X G z10
  ·subst e;exact PySem.W.mg_none_of X G z11
theorem bO0{l:PySem.W.OpenLaw}{q:Program}{loose:List Str}{XP:(Str->Option Value)->Heap->Prop}{YP:World->Heap->Prop}{d:DefRec}{K:Params->PySem.W.Frag}(hn:l.most=some 63) (hdf:d.params.defaults=[])
  (hY:∀(w:World) (h:Heap),YP w h->(K w.params).In h) (hd:d.name = "law")
  (F:∀(w:World) (mg:Str->Option Value) (h:Heap),(K w.params).In h->h.Ns mainGlobals mg->Md (K w.params) mg zcs zbl)
  (Q:∀w:World,Qs (K w.params)) (B:∀w:World,clB (K w.params) zcl ztb zsb znb=true)
  (M:∀ns:List Int,ns.length<=63->aO2 [.list (ns.map PyData.int)]=some (.bool true)) :
  PySem.W.WalkO q loose XP YP l.row.toRowW d [] (fun f vs=>PySem.call f vs) :=
 L2.bl0 (n:=63) (k:=123) (x := "_law_script") (CX:=fun _=>CX0) (sp:=fun w=>spF (K w.params) 1 aO2) hn (by decide) hdf ⟨rfl,by decide,by decide⟩ hY
  (fun w mg fa h hk hg hm=>by
   have N:=F w mg h hk hg
   have q:=Q w
   rw[hd]at hm
   obtain⟨_,_,e,t⟩:=bV9 N (fun rt xt=>Cl.of N (by decide +kernel) (B w)) q
   obtain⟨fd,b1,b2⟩:=bc3 N t by0 q.h_law e hm
   exact⟨fd,b1,fun base _ _=>b2 base⟩)
  (fun w H a ns hl _ hS=>⟨rfl,H,[.list (ns.map PyData.int)],.bool true,D0.refl _,⟨.ref a,[],rfl,⟨a,_,rfl,hS,Reps.ints ns⟩,rfl⟩,M ns hl,fun v H' Hf' g r=>r⟩) fun _ _ _ _ _ z=>z
end Lk21
def PySem.W.Fast.tw9567289051490668736:Unit:=()
def PySem.W.Fast.tw5802617741153345437:Unit:=()
def PySem.W.Fast.tw3936691571498972399:Unit:=()
def PySem.W.Fast.tw5664801037250518974:Unit:=()
def PySem.W.Fast.tw1966727787956912872:Unit:=()
def PySem.W.Fast.tw4407851054209174618:Unit:=()
def PySem.W.Fast.tw2122861085519327769:Unit:=()
def PySem.W.Fast.tw8865710692450436099:Unit:=()
def PySem.W.Fast.tw14897663718735707767:Unit:=()
def PySem.W.Fast.tw11712493005109038954:Unit:=()
def PySem.W.Fast.tw1088037092621985428:Unit:=()
def PySem.W.Fast.tw15845975571450770436:Unit:=()
def PySem.W.Fast.tw11715298262523101444:Unit:=()
def PySem.W.Fast.tw10483370514389588611:Unit:=()
def PySem.W.Fast.tw10929760715670427272:Unit:=()
def PySem.W.Fast.tw14677193872561667712:Unit:=()
def PySem.W.Fast.tw18292235122402739048:Unit:=()
def PySem.W.Fast.tw7448725705645701618:Unit:=()
def PySem.W.Fast.tw5651844193608136543:Unit:=()
def PySem.W.Fast.tw4550377157925622697:Unit:=()
def PySem.W.Fast.tw4243117527968671683:Unit:=()
def PySem.W.Fast.tw1027063565625671897:Unit:=()
def PySem.W.Fast.tw11186274245646434713:Unit:=()
def PySem.W.Fast.tw12789833541434779198:Unit:=()
def PySem.W.Fast.tw1629539726077055630:Unit:=()
def PySem.W.Fast.tw915072793816984704:Unit:=()
def PySem.W.Fast.tw4618696867120220009:Unit:=()
def PySem.W.Fast.tw2153927487148904501:Unit:=()
def PySem.W.Fast.tw13520679627005671554:Unit:=()
def PySem.W.Fast.tw13437007025184219847:Unit:=()
def PySem.W.Fast.tw11392322355338015119:Unit:=()
def PySem.W.Fast.tw9611969141353484950:Unit:=()
def PySem.W.Fast.tw8594442160951996641:Unit:=()
def PySem.W.Fast.tw12683305987161880719:Unit:=()
def PySem.W.Fast.tw14854482993911407376:Unit:=()
def PySem.W.Fast.tw2175729018537408023:Unit:=()
def PySem.W.Fast.tw12861683358637234741:Unit:=()
def PySem.W.Fast.tw11632775533384656120:Unit:=()
def PySem.W.Fast.tw18324557966401534307:Unit:=()
def PySem.W.Fast.tw1090119486344454687:Unit:=()
def PySem.W.Fast.tw14587053094394220722:Unit:=()
def PySem.W.Fast.tw11713134296700147004:Unit:=()
def PySem.W.Fast.tw5128863539006212291:Unit:=()
def PySem.W.Fast.tw16544901813388869725:Unit:=()
def PySem.W.Fast.tw14369636954372408354:Unit:=()
def PySem.W.Fast.tw7841607663282709319:Unit:=()
def PySem.W.Fast.tw18128517120026216313:Unit:=()
namespace Lk21
open PySem PySem.W PyProof.Rows
set_option maxHeartbeats 0 in
open_top head for PySem.Challenge.rw_glazework_k21_names
end Lk21
open PySem PySem.W PyProof.Rows
set_option maxRecDepth 100000 in
set_option maxHeartbeats 0 in
theorem PySem.Challenge.cw_glazework_k21_names_holds : PySem.Challenge.rw_glazework_k21_names.Holds := by
 refine Lk21.head ?_
 k_fill
 refine Lk21.bO0 (l:=PySem.Challenge.rw_glazework_k21_names) rfl rfl (fun w h Y=>PySem.W.kIn_of Y) rfl ?F ?Q ?B Lk21.main
 case F =>
  intro w mg h KX G
  refine' Lk21.zmd KX G ?p0 ?r0 ?p1 ?r1 ?p2 ?p3 ?p4 ?p5 ?z0 ?z1 ?z2 ?z3 ?z4 ?z5 ?z6 ?z7 ?z8 ?z9 ?z10 ?z11
  (case p0=>k_is);(case r0=>k_is);(case p1=>k_is);(case r1=>k_is);(case p2=>k_is);(case p3=>k_is);(case p4=>k_is);(case p5=>k_is);(case z0=>k_is);(case z1=>k_is);(case z2=>k_is);(case z3=>k_is);(case z4=>k_is);(case z5=>k_is);(case z6=>k_is);(case z7=>k_is);(case z8=>k_is);(case z9=>k_is);(case z10=>k_is);(case z11=>k_is)
 case Q =>
  intro w
  constructor
  all_goals (refine' G.bS7 ?a ?l ?c ?k;(case a=>k_is);(case l=>k_is);(case c=>k_is);(case k=>k_is))
 case B=>intro w;kernel_rfl
