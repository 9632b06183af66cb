import PyProof.Rows.All
import Wide.All
import OpenK.AllK
import Wide.FinOn
import Lean
import PyProof.EqAt
import PyProof.EqKinds
import PyProof.TupleCall
import PySem.Challenge.RW_glazework_k14_put_together
set_option compiler.extract_closed false
noncomputable section
set_option Elab.async false
set_option linter.all false
set_option maxRecDepth 100000
namespace L2
open PySem PySem.Spec PyProof.Rows
noncomputable abbrev Key:=Sum Int Str
noncomputable def bb2:Key->Value->Bool
 | .inl k,v=>Value.isInt k v
 | .inr x,v=>Value.isStrOf x v
noncomputable def bB0(w:World):Key->Int
 | .inl k=>hashInt k
 | .inr x=>hashStr w x
theorem F1:∀{k:Key}{v:Value},bb2 k v=true->(∃i t,k=Sum.inl i/\v=Value.int i t)\/(∃x t,k=Sum.inr x/\v=Value.str x t)
 | .inl i,v,h=>by
  obtain⟨t,e⟩:=Value.isInt_shape (k:=i) (v:=v) h
  exact .inl ⟨i,t,rfl,e⟩
 | .inr x,v,h=>by
  obtain⟨t,e⟩:=Value.isStrOf_shape (x:=x) (v:=v) h
  exact .inr ⟨x,t,rfl,e⟩
theorem bk3(a b:Int):decide ((Sum.inl a:Key)=Sum.inl b)=(a==b):=by
 by_cases e:a=b
 ·subst e;simp
 ·have h:¬(Sum.inl a:Key)=Sum.inl b:=fun q=>e (Sum.inl.inj q)
  rw [decide_eq_false h]
  exact(beq_eq_false_iff_ne.mpr e).symm
theorem bk0(a b:Str):decide ((Sum.inr a:Key)=Sum.inr b)=decide (a=b):=by
 by_cases e:a=b
 ·subst e;simp
 ·have h:¬(Sum.inr a:Key)=Sum.inr b:=fun q=>e (Sum.inr.inj q)
  rw [decide_eq_false h,decide_eq_false e]
theorem bk2(a:Int) (b:Str):decide ((Sum.inl a:Key)=Sum.inr b)=false:=decide_eq_false (fun q=>nomatch q)
theorem bk1(a:Str) (b:Int):decide ((Sum.inr a:Key)=Sum.inl b)=false:=decide_eq_false (fun q=>nomatch q)
noncomputable def ah6(prog:Program) (w:World):PySem.KeyKind prog w Key where
 is:=bb2
 hash:=bB0 w
 inj:=fun v a b ha hb=>by
  rcases F1 ha with⟨i,t,rfl,rfl⟩|⟨x,t,rfl,rfl⟩
  ·rcases F1 hb with⟨j,u,rfl,e⟩|⟨y,u,rfl,e⟩
   ·injection e with e1 _;rw [e1]
   ·exact nomatch e
  ·rcases F1 hb with⟨j,u,rfl,e⟩|⟨y,u,rfl,e⟩
   ·exact nomatch e
   ·injection e with e1 _;rw [e1]
 byValue:=fun k v h=>by
  rcases F1 h with⟨i,t,rfl,rfl⟩|⟨x,t,rfl,rfl⟩<;>rfl
 pyHash:=fun hv h=>by
  rcases F1 hv with⟨i,t,rfl,rfl⟩|⟨x,t,rfl,rfl⟩
  ·exact wpAny_pyHash_int h
  ·exact wpAny_pyHash_str h
 eqBool:=fun hu hv h=>by
  rcases F1 hu with⟨i,t,rfl,rfl⟩|⟨x,t,rfl,rfl⟩
  ·rcases F1 hv with⟨j,u,rfl,rfl⟩|⟨y,u,rfl,rfl⟩
   ·rw [bk3]at h;exact wpAny_eqBool_int h
   ·rw [bk2]at h;exact SeqAt.EqAt.int_str i t y u _ _ _ _ h
  ·rcases F1 hv with⟨j,u,rfl,rfl⟩|⟨y,u,rfl,rfl⟩
   ·rw [bk1]at h;exact SeqAt.EqAt.str_int x t j u _ _ _ _ h
   ·rw [bk0]at h;exact wpAny_eqBool_str h
 «strs»:=fun k x t v h=>by
  rcases F1 h with⟨i,u,rfl,e⟩|⟨y,u,rfl,e⟩
  ·exact nomatch e
  ·injection e with e1 _
   subst e1
   cases v<;>rfl
inductive V where
 | non|bl (b:Bool)|int (i:Int)|str (x:Str)|byt (b:Array UInt8)|flt (b:UInt64)|ref (a:Addr)|ty (n:String)
 deriving DecidableEq
noncomputable def D4:V->Value->Prop
 | .non,u=>u=Value.none
 | .bl b,u=>u=Value.bool b
 | .int i,u=>∃t,u=Value.int i t
 | .str x,u=>∃t,u=Value.str x t
 | .byt b,u=>∃t,u=Value.bytes b t
 | .flt b,u=>∃t,u=Value.float b t
 | .ref a,u=>u=Value.ref a
 | .ty n,u=>u=Value.type n
noncomputable abbrev C3:List V->List Value->Prop:=Paired D4
theorem C3.length{xs:List V}{us:List Value}(r:C3 xs us):xs.length=us.length:=Paired.length r
theorem C3.get:∀{xs:List V}{us:List Value}{i:Nat}{x:V},C3 xs us->xs[i]? = some x->∃u,us[i]? = some u/\D4 x u
 | _,_,_,_,.nil,e=>by simp at e
 | _,_,0,_,.cons r _,e=>by simp at e;subst e;exact⟨_,rfl,r⟩
 | _,_,i+1,x,.cons _ t,e=>by
  obtain⟨u,h1,h2⟩:=C3.get (i:=i) (x:=x) t (by simpa using e)
  exact⟨u,by simpa using h1,h2⟩
theorem C3.append:∀{xs ys:List V}{us ws:List Value},C3 xs us->C3 ys ws->C3 (xs++ys) (us++ws)
 | _,_,_,_,.nil,s=>s
 | _,_,_,_,.cons r t,s=>.cons r (C3.append t s)
theorem C3.take:∀{xs:List V}{us:List Value}(n:Nat),C3 xs us->C3 (xs.take n) (us.take n)
 | _,_,0,_=>.nil
 | _,_,_+1,.nil=>.nil
 | _,_,n+1,.cons r t=>.cons r (C3.take n t)
theorem C3.drop:∀{xs:List V}{us:List Value}(n:Nat),C3 xs us->C3 (xs.drop n) (us.drop n)
 | _,_,0,r=>r
 | _,_,_+1,.nil=>.nil
 | _,_,n+1,.cons _ t=>C3.drop n t
noncomputable def by9:Option V->Option Value->Prop
 | some v,some u=>D4 v u
 | none,none=>True
 | _,_=>False
noncomputable def KV{κ:Type}:List (κ×V)->List (κ×Value)->Prop:=Paired fun(p:κ×V) (q:κ×Value)=>p.1=q.1/\D4 p.2 q.2
noncomputable def kV:Key->V
 | .inl i=>.int i
 | .inr x=>.str x
inductive HO where
 /-- a list -/
 | lst (xs:List V)
 /-- a tuple (never changes) -/
 | tup (xs:List V)
 /-- a dict whose keys are ints and texts;one whose keys are tuples of ints and texts (the empty one is both) -/
 | dK (kvs:List (Key×V))|dT (kvs:List (List Key×V))
 /-- a set of ints: its members,its size -/
 | set (S:Int->Bool) (n:Nat)
 /-- an instance of the class at C,its dict at dx,its attributes -/
 | ins (C dx:Addr) (fs:List (Str×V))
 /-- the dict of the instance at x -/
 | own (x:Addr)
 /-- the dict of an exception -/
 | xd (fs:List (Str×V))
 /-- a bound method,f of x -/
 | met (f x:Addr)
 /-- a range object lo,lo+1,.. below hi -/
 | rng (lo hi:Int)
 /-- a thing that is known to the object (the script;a dict while a loop walks it): read,never written while it is so -/
 | frz (o:Obj) (u:HO)
 /-- a code object's table -/
 | tbl (ps:Array Value)
 /-- any other thing,by what is true of its one object (a def of one's own: SetO a S n:=HO.ext fun h=>..) -/
 | ext (φ:Heap->Prop)
noncomputable abbrev Hp:=Addr->Option HO
noncomputable def upd(H:Hp) (a:Addr) (o:HO):Hp:=fun b=>if b=a then some o else H b
theorem B0{H:Hp}{a:Addr}{o:HO}:upd H a o a=some o:=by unfold upd;rw [if_pos rfl]
theorem A8{H:Hp}{a b:Addr}{o:HO}(h:b≠a):upd H a o b=H b:=by unfold upd;rw [if_neg h]
theorem B3{H:Hp}{a b:Addr}{o:HO}(h:H a=some o) (h':H b=none):a≠b:=by
 intro e;subst e;rw [h]at h';cases h'
noncomputable def aa8(h:Heap) (a:Addr) (items:Array Value):Prop:=∃o,h.get? a=some o/\o.cls=.type "tuple" /\ (∃n,o.data=.seq items n)/\o.dict=none
theorem aa8.tup{h:Heap}{a:Addr}{items:Array Value}(p:aa8 h a items):IsTup h a items:=let⟨o,e,c,d,_⟩:=p;⟨o,e,c,d⟩
theorem aa8.new(h:Heap) (items:Array Value) (n:Nat:=0):aa8 (h.push { cls:=.type "tuple", data:=.seq items n }) h.objs.size items:=⟨_,Heap.get?_push_size _ rfl,rfl,⟨_,rfl⟩,rfl⟩
section
variable (P:Program) (w:World)
noncomputable def K6(H:Hp) (h:Heap) (a:Addr):HO->Prop
 | .lst xs=>xs.length<=sizeLine/\∃(its:List Value) (n:Nat),C3 xs its/\h.get? a=some { cls:=.type "list", data:=.seq its.toArray n }
 | .tup xs=>xs.length<=sizeLine/\∃its:List Value,C3 xs its/\aa8 h a its.toArray
 | .dK kvs=>kvs.length<=sizeLine/\(a==sysModules)=false/\∃vs,KV kvs vs/\h.DictOf (ah6 P w) a vs
 | .dT kvs=>kvs.length<=sizeLine/\(a==sysModules)=false/\∃xs:List (List Key×Addr×Value),
   Paired (fun(p:List Key×V) (q:List Key×Addr×Value)=>p.1=q.1/\H q.2.1=some (.tup (p.1.map kV))/\D4 p.2 q.2.2) kvs xs /\
   ∃o es ep,h.get? a=some o/\o.ExactDict/\o.data=.dict es ep/\es.toList=xs.map (entryOfKey (tupleKind (ah6 P w)))/\(xs.map (·.1)).Nodup
 | .set S n=>h.SetOf (intKind P w) a S n
 | .ins C dx fs=>H dx=some (.own a)/\fs.length<=1000/\dx≠a/\h.get? a=some (PySem.W.instObj C dx) /\
   ∃mA,h.Ns1 dx mA/\(∀f,by9 (fs.lookup f) (mA f))/\PySem.Within mA (fs.map (·.1))
 | .own _=>∃o,h.get? a=some o
 | .xd fs=>∃mA,h.Ns1 a mA/\∀f,by9 (fs.lookup f) (mA f)
 | .rng lo hi=>∃t u v,h.get? a=some { cls:=.type "range", data:=.fields #[.int lo t,.int hi u,.int 1 v] }
 | .frz o u=>h.get? a=some o/\K6 H h a u
 | .tbl ps=>h.get? a=some { cls:=.none,data:=.fields ps }
 | .met f x=>h.get? a=some (PySem.W.methodObj (.ref f) (.ref x))
 | .ext φ=>φ h/\(∃o,h.get? a=some o)/\∀h1 h2:Heap,φ h1->(∀o,h1.get? a=some o->h2.get? a=some o)->φ h2
noncomputable def HOk(H:Hp) (h:Heap):Prop:=∀a o,H a=some o->K6 P w H h a o
end
section
variable {P:Program}{w:World}{H H':Hp}{h h':Heap}{a:Addr}{o:HO}
theorem K6.lt(x:K6 P w H h a o):a < h.objs.size:=by
 cases o with
 | lst xs=>obtain⟨_,_,_,_,e⟩:=x;exact Heap.lt_size e
 | tup xs=>obtain⟨_,_,_,p⟩:=x;exact p.tup.lt
 | dK kvs=>obtain⟨_,_,_,_,o,_,_,e,_⟩:=x;exact Heap.lt_size e
 | dT kvs=>obtain⟨_,_,_,_,o,_,_,e,_⟩:=x;exact Heap.lt_size e
 | set S n=>obtain⟨o,_,_,_,e,_⟩:=x;exact Heap.lt_size e
 | ins C dx fs=>obtain⟨_,_,_,e,_⟩:=x;exact Heap.lt_size e
 | own y=>obtain⟨_,e⟩:=x;exact Heap.lt_size e
 | xd fs=>obtain⟨_,⟨_,_,_,e,_⟩,_⟩:=x;exact Heap.lt_size e
 | rng lo hi=>obtain⟨_,_,_,e⟩:=x;exact Heap.lt_size e
 | frz ob u=>obtain⟨e,_⟩:=x;exact Heap.lt_size e
 | tbl ps=>exact Heap.lt_size (show h.get? a=some _ from x)
 | met f y=>exact Heap.lt_size (show h.get? a=some _ from x)
 | ext φ=>obtain⟨_,⟨_,e⟩,_⟩:=x;exact Heap.lt_size e
theorem Paired.mapP{α β:Type}{F G:α->β->Prop}:∀{l₁:List α}{l₂:List β},Paired F l₁ l₂->(∀a b,F a b->G a b)->Paired G l₁ l₂
 | _,_,.nil,_=>.nil
 | _,_,.cons r t,f=>.cons (f _ _ r) (Paired.mapP t f)
theorem K6.stay(x:K6 P w H h a o) (k:∀b u,(b=a\/H b=some (.own a))->h.get? b=some u->h'.get? b=some u)
  (ho:∀b,H b=some (.own a)->H' b=some (.own a)) (ht:∀b xs,H b=some (.tup xs)->H' b=some (.tup xs)):K6 P w H' h' a o:=by
 induction o with
 | lst xs=>obtain⟨z,its,n,r,e⟩:=x;exact⟨z,its,n,r,k _ _ (.inl rfl) e⟩
 | tup xs=>obtain⟨z,its,r,ob,e,c⟩:=x;exact⟨z,its,r,ob,k _ _ (.inl rfl) e,c⟩
 | dK kvs=>obtain⟨z,y,vs,r,ob,es,ep,e,c⟩:=x;exact⟨z,y,vs,r,ob,es,ep,k _ _ (.inl rfl) e,c⟩
 | dT kvs =>
  obtain⟨z,y,xs,r,ob,es,ep,e,c⟩:=x
  exact⟨z,y,xs,Paired.mapP r fun p q z=>⟨z.1,ht _ _ z.2.1,z.2.2⟩,ob,es,ep,k _ _ (.inl rfl) e,c⟩
 | set S n=>obtain⟨ob,es,ep,t,e,c⟩:=x;exact⟨ob,es,ep,t,k _ _ (.inl rfl) e,c⟩
 | ins C dx fs =>
  obtain⟨d,z,ne,e,mA,⟨od,es,ep,e2,c⟩,r⟩:=x
  exact⟨ho _ d,z,ne,k _ _ (.inl rfl) e,mA,⟨od,es,ep,k _ _ (.inr d) e2,c⟩,r⟩
 | own y=>obtain⟨ob,e⟩:=x;exact⟨ob,k _ _ (.inl rfl) e⟩
 | xd fs=>obtain⟨mA,⟨od,es,ep,e,c⟩,r⟩:=x;exact⟨mA,⟨od,es,ep,k _ _ (.inl rfl) e,c⟩,r⟩
 | rng lo hi=>obtain⟨t,u,v,e⟩:=x;exact⟨t,u,v,k _ _ (.inl rfl) e⟩
 | frz ob u ih=>obtain⟨e,q⟩:=x;exact⟨k _ _ (.inl rfl) e,ih q⟩
 | tbl ps =>
  have e:h.get? a=some { cls:=.none,data:=.fields ps }:=x
  show h'.get? a=some { cls:=.none,data:=.fields ps }
  exact k a _ (.inl rfl) e
 | met f y =>
  have e:h.get? a=some (PySem.W.methodObj (.ref f) (.ref y)):=x
  show h'.get? a=some (PySem.W.methodObj (.ref f) (.ref y))
  exact k a _ (.inl rfl) e
 | ext φ=>obtain⟨p,⟨o,e⟩,st⟩:=x;exact⟨st _ _ p fun o q=>k _ _ (.inl rfl) q,⟨o,k _ _ (.inl rfl) e⟩,st⟩
theorem HOk.lt(x:HOk P w H h) (e:H a=some o):a < h.objs.size:=(x a o e).lt
theorem HOk.fresh(x:HOk P w H h) (e:h.objs.size<=a):H a=none:=by
 cases q:H a with
 | none=>rfl
 | some u=>exact absurd (Nat.lt_of_lt_of_le (x.lt q) e) (Nat.lt_irrefl _)
theorem HOk.kept(x:HOk P w H h) (k:∀b u,h.get? b=some u->h'.get? b=some u):HOk P w H h':=fun a o e =>
 (x a o e).stay (fun b u _ q=>k b u q) (fun _ q=>q) fun _ _ q=>q
theorem HOk.laid(x:HOk P w H h) (k:∀b u,h.get? b=some u->h'.get? b=some u) (hp:h.objs.size<=a) (new:K6 P w (upd H a o) h' a o):HOk P w (upd H a o) h':=fun b u e=>by
 have hn:=x.fresh hp
 by_cases hb:b=a
 ·subst hb;rw [B0]at e;cases e;exact new
 ·rw [A8 hb]at e
  exact(x b u e).stay (fun c v _ q=>k c v q) (fun c q=>by rw [A8 (B3 q hn)];exact q) fun c xs q=>by rw [A8 (B3 q hn)];exact q
end
noncomputable def Rd(H:Hp) (a:Addr) (u:HO):Prop:=H a=some u\/∃o,H a=some (.frz o u)
theorem Rd.of{H:Hp}{a:Addr}{u:HO}(h:H a=some u):Rd H a u:=.inl h
theorem Rd.ok{P:Program}{w:World}{H:Hp}{h:Heap}{a:Addr}{u:HO}(r:Rd H a u) (x:HOk P w H h):K6 P w H h a u:=by
 rcases r with r|⟨o,r⟩
 ·exact x a u r
 ·obtain⟨_,q⟩:=x a _ r
  exact q
noncomputable def Mut:Option HO->Prop
 | some (.lst _)=>True
 | some (.dK _)=>True
 | some (.dT _)=>True
 | some (.set _ _)=>True
 | some (.ins _ _ _)=>True
 | some (.ext _)=>True
 | _=>False
section
variable {P:Program}{w:World}{H:Hp}{h h':Heap}{x e:Addr}{o':HO}
theorem HOk.write(ok:HOk P w H h) (mu:Mut (H x)) (he:e=x\/H e=some (.own x)) (k:∀b u,b≠e->h.get? b=some u->h'.get? b=some u) (heo:∃u,h'.get? e=some u)
  (new:K6 P w (upd H x o') h' x o'):HOk P w (upd H x o') h':=fun b u q=>by
 have nown:∀c y,H c=some (.own y)->c≠x:=fun c y r z=>by subst z;rw [r]at mu;exact mu
 have ntup:∀c xs,H c=some (.tup xs)->c≠x:=fun c xs r z=>by subst z;rw [r]at mu;exact mu
 by_cases hb:b=x
 ·subst hb;rw [B0]at q;cases q;exact new
 ·rw [A8 hb]at q
  by_cases hbe:b=e
  ·have q':H b=some (.own x):=by
    rcases he with z|z
    ·exact absurd (hbe.trans z) hb
    ·rw [hbe];exact z
   rw [q]at q';cases q'
   obtain⟨v,hv⟩:=heo
   exact⟨v,by rw [hbe];exact hv⟩
  ·refine(ok b u q).stay (fun c v hc r=>k c v ?_ r) (fun c r=>by rw [A8 (nown c b r)];exact r) fun c xs r=>by rw [A8 (ntup c xs r)];exact r
   rcases hc with rfl|hc
   ·exact hbe
   ·rintro rfl
    rcases he with z|z
    ·exact nown c b hc z
    ·rw [hc]at z;cases z;exact hb rfl
end
structure Un (fs ex:List Addr) (H H':Hp) (h h':Heap):Prop where
 keep:∀b o,h.get? b=some o->H b=none->b∉fs->b∉ex->h'.get? b=some o
 slot:∀b o,h.get? b=some o->H b=none->b∈fs->b∉ex->∃sl,h'.get? b=some { o with slots:=sl }
 free:∀b o,h.get? b=some o->H b=none->b∉ex->H' b=none
 there:∀b o,h.get? b=some o->b∉ex->∃o',h'.get? b=some o'
 tups:∀b xs,H b=some (.tup xs)->H' b=some (.tup xs)
 frzs:∀b o u,H b=some (.frz o u)->H' b=some (.frz o u)
 tbls:∀b ps,H b=some (.tbl ps)->∃more,H' b=some (.tbl (ps++more))
section
variable {fs fs' ex ex':List Addr}{H H1 H2:Hp}{h h1 h2 h':Heap}{a x e:Addr}{o:HO}
theorem Un.any(u:Un fs ex H H1 h h1) {b:Addr}{ob:Obj}(q:h.get? b=some ob) (n:H b=none) (hx:b∉ex):∃sl,h1.get? b=some { ob with slots:=sl }:=by
 by_cases hb:b∈fs
 ·exact u.slot b ob q n hb hx
 ·exact⟨ob.slots,u.keep b ob q n hb hx⟩
theorem Un.kept(k:∀b u,h.get? b=some u->h'.get? b=some u):Un fs ex H H h h' :=
 ⟨fun b ob q _ _ _=>k b ob q,fun b ob q _ _ _=>⟨ob.slots,k b ob q⟩,fun _ _ _ n _=>n,fun b ob q _=>⟨ob,k b ob q⟩,fun _ _ q=>q,fun _ _ _ q=>q,fun _ ps q=>⟨#[],by rw [q];simp⟩⟩
theorem Un.refl:Un fs ex H H h h:=Un.kept fun _ _ q=>q
theorem Un.laid(k:∀b u,h.get? b=some u->h'.get? b=some u) (hp:h.objs.size<=a) (hn:H a=none):Un fs ex H (upd H a o) h h' where
 keep:=fun b u q _ _ _=>k b u q
 slot:=fun b u q _ _ _=>⟨u.slots,k b u q⟩
 free:=fun b u q n _=>by rw [A8 (Nat.ne_of_lt (Nat.lt_of_lt_of_le (Heap.lt_size q) hp))];exact n
 there:=fun b u q _=>⟨u,k b u q⟩
 tups:=fun b xs q=>by rw [A8 (B3 q hn)];exact q
 frzs:=fun b u xs q=>by rw [A8 (B3 q hn)];exact q
 tbls:=fun b ps q=>⟨#[],by rw [A8 (B3 q hn),q];simp⟩
theorem Un.write(mu:Mut (H x)) (he:e=x\/H e=some (.own x)) (k:∀b u,b≠e->h.get? b=some u->h'.get? b=some u) (heo:∃u,h'.get? e=some u):Un fs ex H (upd H x o) h h':=by
 have hx:∀b,H b=none->b≠x:=fun b n z=>by subst z;rw [n]at mu;exact mu
 have hb:∀b,H b=none->b≠e:=fun b n z=>by
  subst z
  rcases he with r|r
  ·exact hx b n r
  ·rw [n]at r;cases r
 have hm:∀b u,H b=some u->¬Mut (some u)->b≠x:=fun b u q nm z=>by subst z;rw [q]at mu;exact nm mu
 refine⟨fun b u q n _ _=>k b u (hb b n) q,fun b u q n _ _=>⟨u.slots,k b u (hb b n) q⟩,fun b u q n _=>by rw [A8 (hx b n)];exact n,fun b u q _=>?_,
  fun b xs q=>by rw [A8 (hm b _ q fun z=>z)];exact q,fun b u xs q=>by rw [A8 (hm b _ q fun z=>z)];exact q,fun b ps q=>⟨#[],by rw [A8 (hm b _ q fun z=>z),q];simp⟩⟩
 by_cases hbe:b=e
 ·subst hbe;exact heo
 ·exact⟨u,k b u hbe q⟩
end
noncomputable def trk(h:Heap) (H:Hp):List Addr:=(List.range h.objs.size).filter fun a=>(H a).isSome
noncomputable def ai2(h:Heap) (H:Hp):Heap:=PySem.W.hideAll h (trk h H)
theorem aC8(h:Heap) (H:Hp):(ai2 h H).objs.size=h.objs.size:=PySem.W.hideAll_size _ _
theorem aO1{h:Heap}{H:Hp}{b:Addr}{o:Obj}(e:h.get? b=some o) (n:H b=none):(ai2 h H).get? b=some o :=
 PySem.W.hideAll_get _ e fun hm=>by
  have q:(H b).isSome=true:=(List.mem_filter.mp hm).2
  rw [n]at q;simp at q
theorem aV2{h:Heap}{H:Hp}{b:Addr}{o:Obj}(e:(ai2 h H).get? b=some o):h.get? b=some o/\H b=none:=by
 have e':h.get? b=some o:=PySem.W.of_hideAll (trk h H) e
 refine⟨e',?_⟩
 cases q:H b with
 | none=>rfl
 | some x =>
  have hm:b∈trk h H:=List.mem_filter.mpr ⟨List.mem_range.mpr (Heap.lt_size e'),by simp [q]⟩
  have z:(ai2 h H).get? b=none:=PySem.W.hideAll_none (trk h H) hm
  rw [z]at e;cases e
noncomputable def aZ8(g h:Heap) (L:Addr):List (Addr×Obj):=(List.range h.objs.size).filterMap fun a=>if a=L\/(g.get? a).isSome=true then none else(h.get? a).map fun o=>(a,o)
noncomputable def J4(g h:Heap) (L d:Addr):List (Addr×Obj):=(aZ8 g h L).filter fun p=>decide (p.1≠d)
structure Mod (K:PySem.W.Frag) (mg:Str->Option Value) (base:Heap):Prop where
 kin:K.In base
 glob:base.Ns mainGlobals mg
 blt:∃mb,base.Ns builtinsNs mb/\∀x:Str,x ≠ "__name__" -> mb x=bootBuiltins x
 nolimit:base.NoLimit
structure Cx where
 prog:Program
 w:World
 K:PySem.W.Frag
 mg:Str->Option Value
 base:Heap
 A:Around
 N:List Str
 s₀:Shared
 H₀:Hp
 env:Env
 outer:List Env
 stack:List Env
 ex:List Addr
 fn:Str->Bool
 calm:Bool
 pn:List (Addr×Obj)
 xe:Value->Shared->Prop
noncomputable def frs(l:List Env):List Addr:=l.filterMap (·.frame)
noncomputable abbrev Cx.fs(X:Cx):List Addr:=frs X.outer
noncomputable def Vis(sc:Scope) (x:Str):Prop:=sc.names.lookup x=some .local\/sc.names.lookup x=some .cell\/sc.names.lookup x=some .free
noncomputable def Loc(sc:Scope) (x:Str):Prop:=sc.names.lookup x=some .local\/sc.names.lookup x=some .cell
noncomputable def bB8(env:Env) (h:Heap) (m:Str->Option Value) (x:Str) (u:Value):Prop :=
 (env.kindOf x=some .local/\m x=some u)\/((env.kindOf x=some .cell\/env.kindOf x=some .free)/\∃c,env.cells.lookup x=some c/\h.IsCell c (some u))
structure Cx.Ok (X:Cx):Prop where
 mod:Mod X.K X.mg X.base
 kind:X.env.scope.kind=.function
 glob:X.env.globals=mainGlobals
 blt:X.env.builtins=builtinsNs
 above:X.s₀.heap.objs.size<=X.env.locals
 inj:∀x y c,X.env.cells.lookup x=some c->X.env.cells.lookup y=some c->x=y
 has:∀x,(X.env.kindOf x=some .cell\/X.env.kindOf x=some .free)->∃c,X.env.cells.lookup x=some c
 cab:∀x c,X.fn x=true->X.env.cells.lookup x=some c->X.s₀.heap.objs.size<=c
 hd:X.calm=true->X.A.handled=none
 frames:X.A.frames=some X.stack
 stk:X.stack=X.outer\/(X.stack=X.env::X.outer/\X.env.frame=some X.env.locals)
 exf:∀b∈X.ex,b≠X.env.locals/\∀x c,X.env.cells.lookup x=some c->c≠b
 bs:∀b o,X.base.get? b=some o->X.s₀.heap.get? b=some o/\X.H₀ b=none
 bsz:X.base.objs.size<=X.s₀.heap.objs.size
 noex:∀b o,X.base.get? b=some o->b∉X.ex
 exfs:∀b∈X.ex,b∉X.fs
 funs:X.s₀.heap.FunFrames X.base X.outer
 frf:∀b∈X.fs,X.H₀ b=none
structure Inv (X:Cx) (pins:List (Addr×Obj)) (σ:List (Option V)) (H:Hp) (s:Shared):Prop where
 ok:X.Ok
 os:s.os=X.s₀.os
 bare:AllBare s.gens
 base:Un X.fs X.ex X.H₀ H X.s₀.heap s.heap
 loc:∃m,s.heap.Ns X.env.locals m/\∀(i:Nat) (x:Str) (v:V),X.N[i]? = some x->σ[i]? = some (some v)->Vis X.env.scope x->∃u,D4 v u/\bB8 X.env s.heap m x u
 cell:∀x c,X.env.cells.lookup x=some c->∃v,s.heap.IsCell c v
 free:H X.env.locals=none
 freeC:∀x c,X.env.cells.lookup x=some c->H c=none
 pin:∀p∈X.pn++pins,s.heap.get? p.1=some p.2/\H p.1=none/\p.1≠X.env.locals/\p.1∉X.fs/\∀v,p.2.data≠.cell v
 hok:HOk X.prog X.w H s.heap
 len:σ.length=X.N.length
section
variable {X:Cx}{pins:List (Addr×Obj)}{σ:List (Option V)}{H H':Hp}{s:Shared}{h':Heap}
theorem Cx.Ok.nofr(ok:X.Ok) {b:Addr}{o:Obj}(e:X.base.get? b=some o):b∉X.fs:=fun hb=>by
 have:=(ok.funs.mem hb).1
 rw [e]at this;cases this
theorem Inv.bs(I:Inv X pins σ H s):∀b o,X.base.get? b=some o->s.heap.get? b=some o/\H b=none:=fun b o e =>
 ⟨I.base.keep b o (I.ok.bs b o e).1 (I.ok.bs b o e).2 (I.ok.nofr e) (I.ok.noex b o e),I.base.free b o (I.ok.bs b o e).1 (I.ok.bs b o e).2 (I.ok.noex b o e)⟩
theorem Inv.bk(I:Inv X pins σ H s):∀b o,X.base.get? b=some o->s.heap.get? b=some o:=fun b o e=>(I.bs b o e).1
theorem Inv.mod(I:Inv X pins σ H s):Mod X.K X.mg X.base:=I.ok.mod
theorem Inv.kIn(I:Inv X pins σ H s):X.K.In s.heap:=I.ok.mod.kin.keeps I.bk
theorem Inv.lt(I:Inv X pins σ H s):X.env.locals < s.heap.objs.size:=let⟨_,hn,_⟩:=I.loc;hn.lt
theorem Inv.sz(I:Inv X pins σ H s):X.s₀.heap.objs.size<=s.heap.objs.size:=Nat.le_trans I.ok.above (Nat.le_of_lt I.lt)
theorem Inv.nofs(I:Inv X pins σ H s) {a:Addr}(h:s.heap.objs.size<=a):a∉X.fs:=fun hb=>by
 obtain⟨_,o,ho,_⟩:=I.ok.funs.mem hb
 exact absurd (Nat.lt_of_lt_of_le (Heap.lt_size ho) (Nat.le_trans I.sz h)) (Nat.lt_irrefl _)
theorem Inv.cne(I:Inv X pins σ H s):∀x c,X.env.cells.lookup x=some c->c≠X.env.locals:=fun x c e z=>by
 obtain⟨v,o,ho,hd⟩:=I.cell x c e
 obtain⟨m,⟨o',es,ep,ho',hd',_⟩,_⟩:=I.loc
 rw [z,ho']at ho;cases ho;rw [hd']at hd;cases hd
theorem Inv.funs(I:Inv X pins σ H s):s.heap.FunFrames X.base X.outer:=by
 have all:∀(l:List Env),(∀b∈frs l,b∈X.fs)->X.s₀.heap.FunFrames X.base l->s.heap.FunFrames X.base l:=by
  intro l
  induction l with
  | nil=>intro _ _;trivial
  | cons env r ih =>
   intro hs hl
   obtain⟨hk,⟨L,o,hf,hn,ho,hd⟩,hr⟩:=hl
   have hL:L∈X.fs:=hs L (by unfold frs;rw [List.filterMap_cons,hf];exact List.mem_cons_self)
   obtain⟨sl,e⟩:=I.base.slot L o ho (I.ok.frf L hL) hL fun z=>I.ok.exfs L z hL
   exact⟨hk,⟨L,_,hf,hn,e,hd⟩,ih (fun b hb=>hs b (by unfold frs;rw [List.filterMap_cons,hf];exact List.mem_cons_of_mem _ hb)) hr⟩
 exact all X.outer (fun _ hb=>hb) I.ok.funs
theorem Inv.stack(I:Inv X pins σ H s):s.heap.FunFrames X.base X.stack:=by
 rcases I.ok.stk with e|⟨e,hf⟩
 ·rw [e];exact I.funs
 ·rw [e]
  obtain⟨m,hn,_⟩:=I.loc
  refine .cons (by rw [I.ok.kind];decide) hf hn ?_ I.funs
  exact Heap.get?_none_of_le (Nat.le_trans I.ok.bsz I.ok.above)
theorem Inv.stkSub(I:Inv X pins σ H s):∀b∈frs X.stack,b∈X.env.locals::X.fs:=fun b hb=>by
 rcases I.ok.stk with e|⟨e,hf⟩
 ·rw [e]at hb;exact List.mem_cons_of_mem _ hb
 ·rw [e]at hb
  unfold frs at hb
  rw [List.filterMap_cons,hf]at hb
  exact hb
theorem Inv.stkFree(I:Inv X pins σ H s):∀b∈frs X.stack,H b=none:=fun b hb=>by
 rcases List.mem_cons.mp (I.stkSub b hb) with e|hb
 ·rw [e];exact I.free
 ·obtain⟨_,o,ho,_⟩:=I.ok.funs.mem hb
  exact I.base.free b o ho (I.ok.frf b hb) fun z=>I.ok.exfs b z hb
theorem Inv.step{g':Array GenState}{t':Nat}{d':Drawn}{ch:List Addr}(I:Inv X pins σ H s)
  (hch:∀b∈ch,(b∈X.ex\/X.s₀.heap.objs.size<=b)/\b≠X.env.locals/\(∀x c,X.env.cells.lookup x=some c->c≠b)/\∀p∈X.pn++pins,p.1≠b)
  (keep:∀b o,b≠X.env.locals->b∉X.fs->b∉ch->s.heap.get? b=some o->H b=none->h'.get? b=some o)
  (slot:∀b o,b≠X.env.locals->b∈X.fs->b∉ch->s.heap.get? b=some o->H b=none->∃sl,h'.get? b=some { o with slots:=sl }) (free:∀b o,b∉ch->s.heap.get? b=some o->H b=none->H' b=none)
  (there:∀b o,b∉ch->s.heap.get? b=some o->∃o',h'.get? b=some o')
  (tups:∀b xs,H b=some (.tup xs)->H' b=some (.tup xs)) (frzs:∀b o u,H b=some (.frz o u)->H' b=some (.frz o u)) (tbls:∀b ps,H b=some (.tbl ps)->∃more,H' b=some (.tbl (ps++more)))
  (ns:∀m,s.heap.Ns X.env.locals m->h'.Ns X.env.locals m) (hok:HOk X.prog X.w H' h') (hg:AllBare g') :
  Inv X pins σ H' { s with heap:=h',gens:=g',drawn:=d',toks:=t' }:=by
 have neL:∀b o,X.s₀.heap.get? b=some o->b≠X.env.locals:=fun b o e=>Nat.ne_of_lt (Nat.lt_of_lt_of_le (Heap.lt_size e) I.ok.above)
 have neC:∀b o,X.s₀.heap.get? b=some o->b∉X.ex->b∉ch:=fun b o e hx hb=>by
  rcases(hch b hb).1 with z|z
  ·exact hx z
  ·exact absurd (Nat.lt_of_lt_of_le (Heap.lt_size e) z) (Nat.lt_irrefl _)
 have cellK:∀x c,X.env.cells.lookup x=some c->∀v,s.heap.IsCell c v->h'.IsCell c v:=fun x c e v ⟨o,ho,hd⟩=>by
  have nch:c∉ch:=fun z=>(hch c z).2.2.1 x c e rfl
  by_cases hc:c∈X.fs
  ·obtain⟨sl,q⟩:=slot c o (I.cne x c e) hc nch ho (I.freeC x c e)
   exact⟨_,q,hd⟩
  ·exact⟨o,keep c o (I.cne x c e) hc nch ho (I.freeC x c e),hd⟩
 refine⟨I.ok,I.os,hg,⟨fun b o e n hb hx=>?_,fun b o e n hb hx=>?_,fun b o e n hx=>?_,fun b o e hx=>?_,fun b xs e=>tups b xs (I.base.tups b xs e),fun b o xs e=>frzs b o xs (I.base.frzs b o xs e),fun b ps e=>?_⟩,?_,fun x c e=>?_,?_,fun x c e=>?_,fun p hp=>?_,hok,I.len⟩
 ·exact keep b o (neL b o e) hb (neC b o e hx) (I.base.keep b o e n hb hx) (I.base.free b o e n hx)
 ·obtain⟨sl,e1⟩:=I.base.slot b o e n hb hx
  obtain⟨sl',e2⟩:=slot b _ (neL b o e) hb (neC b o e hx) e1 (I.base.free b o e n hx)
  exact⟨sl',e2⟩
 ·obtain⟨o',e1⟩:=I.base.there b o e hx
  exact free b o' (neC b o e hx) e1 (I.base.free b o e n hx)
 ·obtain⟨o',e1⟩:=I.base.there b o e hx
  exact there b o' (neC b o e hx) e1
 ·obtain⟨m1,e1⟩:=I.base.tbls b ps e
  obtain⟨m2,e2⟩:=tbls b _ e1
  exact⟨m1++m2,by rw [e2,Array.append_assoc]⟩
 ·obtain⟨m,hn,hl⟩:=I.loc
  refine⟨m,ns m hn,fun i x v e1 e2 e3=>?_⟩
  obtain⟨u,r,l⟩:=hl i x v e1 e2 e3
  refine⟨u,r,?_⟩
  rcases l with l|⟨k,c,e,z⟩
  ·exact .inl l
  ·exact .inr ⟨k,c,e,cellK x c e _ z⟩
 ·obtain⟨v,z⟩:=I.cell x c e
  exact⟨v,cellK x c e v z⟩
 ·obtain⟨m,⟨o,_,_,ho,_⟩,_⟩:=I.loc
  exact free _ o (fun z=>(hch _ z).2.1 rfl) ho I.free
 ·obtain⟨v,o,ho,hd⟩:=I.cell x c e
  exact free c o (fun z=>(hch c z).2.2.1 x c e rfl) ho (I.freeC x c e)
 ·obtain⟨e,n,ne,nf,d⟩:=I.pin p hp
  have nch:p.1∉ch:=fun z=>(hch p.1 z).2.2.2 p hp rfl
  exact⟨keep p.1 p.2 ne nf nch e n,free p.1 p.2 nch e n,ne,nf,d⟩
theorem Inv.un{t':Nat}(I:Inv X pins σ H s) (u:Un X.fs [] H H' s.heap h') (hok:HOk X.prog X.w H' h'):Inv X pins σ H' { s with heap:=h',toks:=t' }:=by
 obtain⟨m,⟨o,es,ep,ho,r⟩,_⟩:=id I.loc
 obtain⟨sl,hL⟩:=u.any ho I.free (by simp)
 exact I.step (g':=s.gens) (d':=s.drawn) (ch:=[]) (fun _ z=>nomatch z) (fun b o _ hb _ e n=>u.keep b o e n hb (by simp)) (fun b o _ hb _ e n=>u.slot b o e n hb (by simp)) (fun b o _ e n=>u.free b o e n (by simp)) (fun b o _ e=>u.there b o e (by simp)) u.tups u.frzs u.tbls (fun m' hm=>by
  obtain⟨o',es',ep',ho',r'⟩:=hm
  rw [ho]at ho';cases ho'
  exact⟨_,es',ep',hL,r'⟩) hok I.bare
theorem Inv.call{g':Array GenState}{t':Nat}{d':Drawn}{ch:List Addr}(I:Inv X pins σ H s) (u:Un (frs X.stack) ch H H' s.heap h') (hok:HOk X.prog X.w H' h') (hg:AllBare g')
  (hch:∀b∈ch,(b∈X.ex\/X.s₀.heap.objs.size<=b)/\b≠X.env.locals/\(∀x c,X.env.cells.lookup x=some c->c≠b)/\∀p∈X.pn++pins,p.1≠b) :
  Inv X pins σ H' { s with heap:=h',gens:=g',drawn:=d',toks:=t' }:=by
 obtain⟨m,⟨o,es,ep,ho,r⟩,_⟩:=id I.loc
 obtain⟨sl,hL⟩:=u.any ho I.free fun z=>(hch _ z).2.1 rfl
 exact I.step (ch:=ch) hch (fun b o hL hb hc e n=>u.keep b o e n (fun z=>(List.mem_cons.mp (I.stkSub b z)).elim hL hb) hc) (fun b o _ _ hc e n=>u.any e n hc) (fun b o hc e n=>u.free b o e n hc) (fun b o hc e=>u.there b o e hc) u.tups u.frzs u.tbls (fun m' hm=>by
  obtain⟨o',es',ep',ho',r'⟩:=hm
  rw [ho]at ho';cases ho'
  exact⟨_,es',ep',hL,r'⟩) hok hg
theorem Inv.turned{t':Nat}{it:Addr}(I:Inv X pins σ H s) (k:∀b o,b≠it->s.heap.get? b=some o->h'.get? b=some o) (hn:H it=none) (hL:it≠X.env.locals)
  (h1:it∈X.ex\/X.s₀.heap.objs.size<=it) (h2:∀x c,X.env.cells.lookup x=some c->c≠it) (h3:∀p∈X.pn++pins,p.1≠it):Inv X pins σ H { s with heap:=h',toks:=t' }:=by
 have nit:∀b u,H b=some u->b≠it:=fun b u e z=>by rw [z,hn]at e;cases e
 refine I.step (g':=s.gens) (d':=s.drawn) (ch:=[it]) (fun b hb=>?_) (fun b o _ _ hc e _=>k b o (fun z=>hc (by simp [z])) e) (fun b o _ _ hc e _=>⟨o.slots,k b o (fun z=>hc (by simp [z])) e⟩) (fun _ _ _ _ n=>n)
  (fun b o hc e=>⟨o,k b o (fun z=>hc (by simp [z])) e⟩) (fun _ _ e=>e) (fun _ _ _ e=>e) (fun b ps e=>⟨#[],by rw [e];simp⟩) (fun m hm=>?_) (fun b u e=>?_) I.bare
 ·have e:b=it:=by simpa using hb
  subst e
  exact⟨h1,hL,h2,h3⟩
 ·obtain⟨o,es,ep,ho,r⟩:=hm
  exact⟨o,es,ep,k _ o (Ne.symm hL) ho,r⟩
 ·refine(I.hok b u e).stay (fun c v hc q=>k c v ?_ q) (fun _ q=>q) fun _ _ q=>q
  rcases hc with z|z
  ·rw [z];exact nit b u e
  ·exact nit c _ z
theorem Inv.tok(I:Inv X pins σ H s) (t:Nat):Inv X pins σ H { s with toks:=t }:=I.un (h':=s.heap) (t':=t) Un.refl I.hok
theorem Inv.kept{t':Nat}(I:Inv X pins σ H s) (k:∀b u,s.heap.get? b=some u->h'.get? b=some u):Inv X pins σ H { s with heap:=h',toks:=t' }:=I.un (Un.kept k) (I.hok.kept k)
theorem Inv.laid{a:Addr}{o:HO}{t':Nat}(I:Inv X pins σ H s) (k:∀b u,s.heap.get? b=some u->h'.get? b=some u) (hp:s.heap.objs.size<=a) (new:K6 X.prog X.w (upd H a o) h' a o) :
  Inv X pins σ (upd H a o) { s with heap:=h',toks:=t' }:=I.un (Un.laid k hp (I.hok.fresh hp)) (I.hok.laid k hp new)
theorem Inv.write{x e:Addr}{o:HO}{t':Nat}(I:Inv X pins σ H s) (mu:Mut (H x)) (he:e=x\/H e=some (.own x)) (k:∀b u,b≠e->s.heap.get? b=some u->h'.get? b=some u) (heo:∃u,h'.get? e=some u)
  (new:K6 X.prog X.w (upd H x o) h' x o):Inv X pins σ (upd H x o) { s with heap:=h',toks:=t' }:=I.un (Un.write mu he k heo) (I.hok.write mu he k heo new)
theorem Inv.pins_of{pins':List (Addr×Obj)}(I:Inv X pins σ H s) (h:∀p∈pins',s.heap.get? p.1=some p.2/\H p.1=none/\p.1≠X.env.locals/\p.1∉X.fs/\∀v,p.2.data≠.cell v):Inv X pins' σ H s :=
 ⟨I.ok,I.os,I.bare,I.base,I.loc,I.cell,I.free,I.freeC,fun p hp=>(List.mem_append.mp hp).elim (fun z=>I.pin p (List.mem_append_left _ z)) (h p),I.hok,I.len⟩
theorem am1{N:List Str}(hN:N.Nodup) {i j:Nat}{x:Str}(a:N[i]? = some x) (b:N[j]? = some x):i=j:=by
 obtain⟨h1,e1⟩:=List.getElem?_eq_some_iff.mp a
 obtain⟨h2,e2⟩:=List.getElem?_eq_some_iff.mp b
 exact(List.getElem_inj hN).mp (e1.trans e2.symm)
theorem ac2{M:Model}{A:Around}{E:Value->Shared->Prop}{i:Nat}{x:Str}{v:V}{u:Value}{Q:Unit->Shared->Prop}(I:Inv X pins σ H s) (hN:X.N.Nodup) (hi:X.N[i]? = some x) (hx:Loc X.env.scope x) (r:D4 v u)
  (h:∀s',Inv X pins (σ.set i (some v)) H s'->(∃a,Heap.SameBut a s.heap s'.heap/\(a=X.env.locals\/X.env.cells.lookup x=some a))->Q () s') (hf:X.fn x=true\/X.env.scope.names.lookup x=some .local:=by first|exact .inl rfl|exact .inr rfl|assumption):wpAny M A (storeName X.env x u) Q E s:=by
 obtain⟨m,hn,hl⟩:=id I.loc
 have hcls:(X.env.scope.kind == .class || (X.env.scope.kind == .module&&X.env.locals != X.env.globals))=false:=by rw [I.ok.kind];rfl
 have hiσ:i < σ.length:=by rw [I.len];exact(List.getElem?_eq_some_iff.mp hi).1
 have cne:=I.cne
 have tracked:∀{a:Addr}{h':Heap},(∃o,s.heap.get? a=some o/\H a=none)->Heap.SameBut a s.heap h'->HOk X.prog X.w H h':=fun{a h'} ha hs b ob e=>by
  obtain⟨_,_,hfree⟩:=ha
  refine(I.hok b ob e).stay (fun c w' hc q=>(hs.2 c ?_).trans q) (fun _ q=>q) fun _ _ q=>q
  rintro rfl
  rcases hc with rfl|hc
  ·rw [hfree]at e;cases e
  ·rw [hfree]at hc;cases hc
 rcases hx with hk|hk
 ·refine wpAny_storeName_local hk hn (fun h' hn' hs=>?_) hcls
  obtain⟨oL,_,_,hoL,_⟩:=id hn
  refine h _ ⟨I.ok,I.os,I.bare,⟨fun b o e n hb hx=>?_,fun b o e n hb hx=>?_,I.base.free,fun b o e hx=>?_,I.base.tups,I.base.frzs,I.base.tbls⟩,⟨_,hn',fun j y v' e1 e2 e3=>?_⟩,fun y c e=>?_,I.free,I.freeC,fun p hp=>?_,tracked ⟨oL,hoL,I.free⟩ hs,by simpa using I.len⟩ ⟨_,hs,.inl rfl⟩
  ·exact(hs.2 b (Nat.ne_of_lt (Nat.lt_of_lt_of_le (Heap.lt_size e) I.ok.above))).trans (I.base.keep b o e n hb hx)
  ·obtain⟨sl,e1⟩:=I.base.slot b o e n hb hx
   exact⟨sl,(hs.2 b (Nat.ne_of_lt (Nat.lt_of_lt_of_le (Heap.lt_size e) I.ok.above))).trans e1⟩
  ·obtain⟨o',e1⟩:=I.base.there b o e hx
   exact⟨o',(hs.2 b (Nat.ne_of_lt (Nat.lt_of_lt_of_le (Heap.lt_size e) I.ok.above))).trans e1⟩
  ·by_cases hj:j=i
   ·subst hj
    rw [hi]at e1;cases e1
    rw [List.getElem?_set_self hiσ]at e2
    cases e2
    exact⟨u,r,.inl ⟨hk,by simp⟩⟩
   ·rw [List.getElem?_set_ne (Ne.symm hj)]at e2
    obtain⟨u',r',q⟩:=hl j y v' e1 e2 e3
    refine⟨u',r',?_⟩
    rcases q with⟨k,e⟩|⟨k,c,e,z⟩
    ·refine .inl ⟨k,?_⟩
     have:y≠x:=fun e=>hj (am1 hN e1 (e ▸ hi))
     simp [this,e]
    ·exact .inr ⟨k,c,e,z.sameBut hs (cne y c e)⟩
  ·obtain⟨w',z⟩:=I.cell y c e
   exact⟨w',z.sameBut hs (cne y c e)⟩
  ·obtain⟨e,n,ne,nf,d⟩:=I.pin p hp
   exact⟨(hs.2 p.1 ne).trans e,n,ne,nf,d⟩
 ·have hfn:X.fn x=true:=by
   rcases hf with z|z
   ·exact z
   ·rw [z]at hk;cases hk
  obtain⟨c,hc⟩:=I.ok.has x (.inl hk)
  obtain⟨w',z⟩:=I.cell x c hc
  refine wpAny_storeName_cell I.ok.kind hk hc z (fun h' hc' hs=>?_)
  obtain⟨oc,hoc,hocd⟩:=id z
  refine h { s with heap:=h' } ⟨I.ok,I.os,I.bare,⟨fun b o e n hb hx=>?_,fun b o e n hb hx=>?_,I.base.free,fun b o e hx=>?_,I.base.tups,I.base.frzs,I.base.tbls⟩,⟨m,hn.sameBut hs (Ne.symm (cne x c hc)),fun j y v' e1 e2 e3=>?_⟩,fun y c' e=>?_,I.free,I.freeC,fun p hp=>?_,tracked ⟨oc,hoc,I.freeC x c hc⟩ hs,by simpa using I.len⟩ ⟨c,hs,.inr hc⟩
  ·exact(hs.2 b (Nat.ne_of_lt (Nat.lt_of_lt_of_le (Heap.lt_size e) (I.ok.cab x c hfn hc)))).trans (I.base.keep b o e n hb hx)
  ·obtain⟨sl,e1⟩:=I.base.slot b o e n hb hx
   exact⟨sl,(hs.2 b (Nat.ne_of_lt (Nat.lt_of_lt_of_le (Heap.lt_size e) (I.ok.cab x c hfn hc)))).trans e1⟩
  ·obtain⟨o',e1⟩:=I.base.there b o e hx
   exact⟨o',(hs.2 b (Nat.ne_of_lt (Nat.lt_of_lt_of_le (Heap.lt_size e) (I.ok.cab x c hfn hc)))).trans e1⟩
  ·by_cases hj:j=i
   ·subst hj
    rw [hi]at e1;cases e1
    rw [List.getElem?_set_self hiσ]at e2
    cases e2
    exact⟨u,r,.inr ⟨.inl hk,c,hc,hc'⟩⟩
   ·rw [List.getElem?_set_ne (Ne.symm hj)]at e2
    obtain⟨u',r',q⟩:=hl j y v' e1 e2 e3
    refine⟨u',r',?_⟩
    rcases q with q|⟨k,c',e,z'⟩
    ·exact .inl q
    ·refine .inr ⟨k,c',e,z'.sameBut hs ?_⟩
     rintro rfl
     exact hj (am1 hN e1 (I.ok.inj _ _ _ e hc ▸ hi))
  ·by_cases hcc:c'=c
   ·subst hcc;exact⟨_,hc'⟩
   ·obtain⟨w2,z2⟩:=I.cell y c' e
    exact⟨w2,z2.sameBut hs hcc⟩
  ·obtain⟨e,n,ne,nf,d⟩:=I.pin p hp
   refine⟨(hs.2 p.1 ?_).trans e,n,ne,nf,d⟩
   intro q
   rw [q,hoc]at e
   have q':oc=p.2:=Option.some.inj e
   exact d w' (by rw [← q'];exact hocd)
theorem R4{M:Model}{A:Around}{E:Value->Shared->Prop}{i:Nat}{x:Str}{v:V}{u:Value}{Q:Unit->Shared->Prop}(I:Inv X pins σ H s) (hN:X.N.Nodup) (hi:X.N[i]? = some x) (hx:Loc X.env.scope x) (r:D4 v u)
  (h:∀s',Inv X pins (σ.set i (some v)) H s'->Q () s') (hf:X.fn x=true\/X.env.scope.names.lookup x=some .local:=by first|exact .inl rfl|exact .inr rfl|assumption):wpAny M A (storeName X.env x u) Q E s :=
 ac2 I hN hi hx r (fun s' I' _=>h s' I') hf
theorem Inv.call'{s':Shared}{ch:List Addr}(I:Inv X pins σ H s) (ho:s'.os=s.os) (u:Un (frs X.stack) ch H H' s.heap s'.heap) (hok:HOk X.prog X.w H' s'.heap) (hg:AllBare s'.gens)
  (hch:∀b∈ch,(b∈X.ex\/X.s₀.heap.objs.size<=b)/\b≠X.env.locals/\(∀x c,X.env.cells.lookup x=some c->c≠b)/\∀p∈X.pn++pins,p.1≠b):Inv X pins σ H' s':=by
 obtain⟨h',g',d',t',o'⟩:=s'
 have e:o'=s.os:=ho
 subst e
 exact I.call (g':=g') (t':=t') (d':=d') u hok hg hch
end
noncomputable abbrev XK:=Value->Option Addr->Hp->Prop
noncomputable abbrev St:=List (Option V)
noncomputable abbrev VK:=V->Hp->Prop
noncomputable abbrev TE:=St->Hp->VK->Prop
noncomputable abbrev TT:=St->Hp->(Bool->Hp->Prop)->Prop
noncomputable abbrev TA:=St->Hp->(List V->Hp->Prop)->Prop
structure Ends where
 nx:St->Hp->Prop
 rt:VK
 bk:St->Hp->Prop:=fun _ _=>False
 ct:St->Hp->Prop:=fun _ _=>False
noncomputable abbrev TS:=Ends->St->Hp->Prop
noncomputable def EP(X:Cx) (pins:List (Addr×Obj)) (σ:St) (Q:VK) (u:Value) (s':Shared):Prop:=∃v H',Inv X pins σ H' s'/\D4 v u/\Q v H'
noncomputable def TP(X:Cx) (pins:List (Addr×Obj)) (σ:St) (Q:Bool->Hp->Prop) (b:Bool) (s':Shared):Prop:=∃H',Inv X pins σ H' s'/\Q b H'
noncomputable def AP(X:Cx) (pins:List (Addr×Obj)) (σ:St) (Q:List V->Hp->Prop) (us:List Value) (s':Shared):Prop:=∃vs H',Inv X pins σ H' s'/\C3 vs us/\Q vs H'
noncomputable def SP(X:Cx) (pins:List (Addr×Obj)) (D:Ends) (f:Flow) (s':Shared):Prop :=
 match f with
 | .next=>∃σ' H',Inv X pins σ' H' s'/\D.nx σ' H'
 | .brk=>∃σ' H',Inv X pins σ' H' s'/\D.bk σ' H'
 | .cont=>∃σ' H',Inv X pins σ' H' s'/\D.ct σ' H'
 | .ret u=>∃v σ' H',Inv X pins σ' H' s'/\D4 v u/\D.rt v H'
noncomputable def PE(X:Cx) (e:Expr) (t:TE):Prop :=
 ∀(pins:List (Addr×Obj)) (s:Shared) (σ:St) (H:Hp) (Q:VK),Inv X pins σ H s->t σ H Q->wpAny (model X.prog X.w) X.A (eval e X.env) (EP X pins σ Q) X.xe s
noncomputable def PT(X:Cx) (e:Expr) (t:TT):Prop :=
 ∀(pins:List (Addr×Obj)) (s:Shared) (σ:St) (H:Hp) (Q:Bool->Hp->Prop),Inv X pins σ H s->t σ H Q->wpAny (model X.prog X.w) X.A (isTrue e X.env (eval e X.env)) (TP X pins σ Q) X.xe s
noncomputable def PW(X:Cx) (e:Expr) (t:TT):Prop :=
 ∀(whole:Sem Value) (pins:List (Addr×Obj)) (s:Shared) (σ:St) (H:Hp) (Q:Bool->Hp->Prop),Inv X pins σ H s->t σ H Q->wpAny (model X.prog X.w) X.A (isTrue e X.env whole) (TP X pins σ Q) X.xe s
theorem PW.pt{X:Cx}{e:Expr}{t:TT}(h:PW X e t):PT X e t:=h _
noncomputable def PA(X:Cx) (es:List Expr) (t:TA):Prop :=
 ∀(pos:Pos) (pins:List (Addr×Obj)) (s:Shared) (σ:St) (H:Hp) (Q:List V->Hp->Prop),Inv X pins σ H s->t σ H Q->wpAny (model X.prog X.w) X.A (spliced (backTo pos (starEach es X.env))) (AP X pins σ Q) X.xe s
noncomputable def PS(X:Cx) (st:Stmt) (t:TS):Prop :=
 ∀(pins:List (Addr×Obj)) (s:Shared) (σ:St) (H:Hp) (D:Ends),Inv X pins σ H s->t D σ H->wpAny (model X.prog X.w) X.A (exec st X.env) (SP X pins D) X.xe s
noncomputable def PSs(X:Cx) (st:List Stmt) (t:TS):Prop :=
 ∀(pins:List (Addr×Obj)) (s:Shared) (σ:St) (H:Hp) (D:Ends),Inv X pins σ H s->t D σ H->wpAny (model X.prog X.w) X.A (execs st X.env) (SP X pins D) X.xe s
theorem thn{α:Type}{t:Sem α}{Q Q':α->Shared->Prop}{M:Model}{A:Around}{E:Value->Shared->Prop}{s:Shared}(h:wpAny M A t Q E s) (hQ:∀a s,Q a s->Q' a s):wpAny M A t Q' E s:=wpAny_mono h hQ fun _ _ x=>x
section
variable {X:Cx}
theorem bin{a b:Expr}{ta tb:TE}(ha:PE X a ta) (hb:PE X b tb) {pins:List (Addr×Obj)}{s:Shared}{σ:St}{H:Hp}{R:V->V->Hp->Prop}(I:Inv X pins σ H s) (h:ta σ H fun x H1=>tb σ H1 fun y H2=>R x y H2)
  {α:Type}{Q:α->Shared->Prop}{f:Value->Value->Sem α}
  (hf:∀v u s2 x y H2,Inv X pins σ H2 s2->D4 x v->D4 y u->R x y H2->wpAny (model X.prog X.w) X.A (f v u) Q X.xe s2) :
  wpAny (model X.prog X.w) X.A (eval a X.env) (fun v s₁=>wpAny (model X.prog X.w) X.A (eval b X.env) (fun u s₂=>wpAny (model X.prog X.w) X.A (f v u) Q X.xe s₂) X.xe s₁) X.xe s:=by
 refine thn (ha pins s σ H _ I h) fun v s1 ⟨x,H1,I1,r1,q1⟩=>?_
 refine thn (hb pins s1 σ H1 _ I1 q1) fun u s2 ⟨y,H2,I2,r2,q2⟩=>?_
 exact hf v u s2 x y H2 I2 r1 r2 q2
noncomputable def br7(i:Nat):TE:=fun σ H Q=>∃v,σ[i]? = some (some v)/\Q v H
noncomputable def tC(v:V):TE:=fun _ H Q=>Q v H
theorem Q0{i:Nat}{x:Str}{pos:Pos}(hN:X.N[i]? = some x) (hv:Vis X.env.scope x) (hd:(x==("__debug__" : Str))=false:=by decide) (hcd:(x==("__classdict__" : Str))=false:=by decide):PE X (.Name x pos) (br7 i):=by
 intro pins s σ H Q I h
 obtain⟨v,e,h⟩:=h
 obtain⟨m,hn,hl⟩:=I.loc
 obtain⟨u,r,l⟩:=hl i x v hN e hv
 have fin:EP X pins σ Q u s:=⟨v,H,I,r,h⟩
 rcases l with⟨hk,hm⟩|⟨hk,c,hc,hcell⟩
 ·exact wpAny_Name (wpAny_loadName_local I.ok.kind hk hn hm fin) hd
 ·rcases hk with hk|hk
  ·exact wpAny_Name (wpAny_loadName_cell I.ok.kind hk hc hcell fin) hd
  ·exact wpAny_Name (wpAny_loadName_free I.ok.kind hk hc hcell fin hcd) hd
theorem bi3{i j pos}:PE X (.Constant (.int i) j pos) (tC (.int i)):=fun _ _ _ H _ I h=>wpAny_Constant_int ⟨.int i,H,I.tok _,⟨_,rfl⟩,h⟩
theorem bu2{b j pos}:PE X (.Constant (.bool b) j pos) (tC (.bl b)):=fun _ _ _ H _ I h=>Constant_bool ⟨.bl b,H,I,rfl,h⟩
theorem bi2{j pos}:PE X (.Constant .none j pos) (tC .non):=fun _ _ _ H _ I h=>Constant_none ⟨.non,H,I,rfl,h⟩
theorem bh8{x j pos}:PE X (.Constant (.str x) j pos) (tC (.str x)):=fun _ _ _ H _ I h=>Calls.Constant_str ⟨.str x,H,I.tok _,⟨_,rfl⟩,h⟩
noncomputable def Gl(X:Cx) (x:Str):Prop:=X.env.kindOf x=some .globalImplicit
theorem N3{E:Value->Shared->Prop}{pins:List (Addr×Obj)}{s:Shared}{σ:St}{H:Hp}{x:Str}{u:Value}{pos:Pos}{Q:Value->Shared->Prop}(I:Inv X pins σ H s) (hg:Gl X x) (hm:X.mg x=some u) (h:Q u s)
  (hd:(x==("__debug__" : Str))=false:=by decide):wpAny (model X.prog X.w) X.A (eval (.Name x pos) X.env) Q E s :=
 Calls.Name_function_global I.ok.kind hg (Calls.loadGlobal_global (by rw [I.ok.glob];exact I.mod.glob.keeps I.bk) hm h) hd
theorem i6{E:Value->Shared->Prop}{pins:List (Addr×Obj)}{s:Shared}{σ:St}{H:Hp}{x:Str}{u:Value}{pos:Pos}{Q:Value->Shared->Prop}(I:Inv X pins σ H s) (hg:Gl X x) (hm:X.mg x=none) (hv:bootBuiltins x=some u) (h:Q u s)
  (hn:x ≠ "__name__" := by decide) (hd:(x==("__debug__" : Str))=false:=by decide):wpAny (model X.prog X.w) X.A (eval (.Name x pos) X.env) Q E s:=by
 obtain⟨mb,h1,h2⟩:=I.mod.blt
 exact Calls.Name_function_global I.ok.kind hg (Calls.loadGlobal_builtin (by rw [I.ok.glob];exact I.mod.glob.keeps I.bk) hm (by rw [I.ok.blt];exact h1.keeps I.bk) ((h2 x hn).trans hv) h) hd
theorem av5{x:Str}{v:V}{u:Value}{pos:Pos}(hg:Gl X x) (hm:X.mg x=some u) (r:D4 v u) (hd:(x==("__debug__" : Str))=false:=by decide):PE X (.Name x pos) (tC v) :=
 fun _ _ _ H _ I h=>N3 I hg hm ⟨v,H,I,r,h⟩ hd
theorem av8{x:Str}{v:V}{u:Value}{pos:Pos}(hg:Gl X x) (hm:X.mg x=none) (hv:bootBuiltins x=some u) (r:D4 v u) (hn:x ≠ "__name__" := by decide) (hd:(x==("__debug__" : Str))=false:=by decide):PE X (.Name x pos) (tC v) :=
 fun _ _ _ H _ I h=>i6 I hg hm hv ⟨v,H,I,r,h⟩ hn hd
variable {a b:Expr}{ta tb:TE}{pos:Pos}
noncomputable def tB(t:TE):TT:=fun σ H Q=>t σ H fun x H1=>∃c,x=.bl c/\Q c H1
variable {tA tB':TT}{J4:List Expr}
noncomputable def bA3(t u:TT):TT:=fun σ H Q=>t σ H fun c H1=>if c=true then u σ H1 Q else Q false H1
noncomputable def tOr(t u:TT):TT:=fun σ H Q=>t σ H fun c H1=>if c=true then Q true H1 else u σ H1 Q
noncomputable def bz9(t:TT):TT:=fun σ H Q=>t σ H fun c H1=>Q (!c) H1
theorem aS8(ha:PT X a tA):PW X (.BoolOp .And [a] pos) tA:=by
 intro wh pins s σ H Q I h
 refine isTrue_and (thn (ha pins s σ H Q I h) fun c s1 e=>?_)
 cases c with
 | true=>exact isTrue_and_nil e
 | false=>exact e
theorem bg8(ha:PT X a tA):PW X (.BoolOp .Or [a] pos) tA:=by
 intro wh pins s σ H Q I h
 refine isTrue_or (thn (ha pins s σ H Q I h) fun c s1 e=>?_)
 cases c with
 | false=>exact isTrue_or_nil e
 | true=>exact e
theorem aH0(ha:PT X a tA) (hb:PW X (.BoolOp .And (b::J4) pos) tB'):PW X (.BoolOp .And (a::b::J4) pos) (bA3 tA tB'):=by
 intro wh pins s σ H Q I h
 refine isTrue_and (thn (ha pins s σ H _ I h) fun c s1 ⟨H1,I1,q1⟩=>?_)
 cases c with
 | true=>exact hb wh pins s1 σ H1 Q I1 q1
 | false=>exact⟨H1,I1,q1⟩
theorem ba8(ha:PT X a tA) (hb:PW X (.BoolOp .Or (b::J4) pos) tB'):PW X (.BoolOp .Or (a::b::J4) pos) (tOr tA tB'):=by
 intro wh pins s σ H Q I h
 refine isTrue_or (thn (ha pins s σ H _ I h) fun c s1 ⟨H1,I1,q1⟩=>?_)
 cases c with
 | true=>exact⟨H1,I1,q1⟩
 | false=>exact hb wh pins s1 σ H1 Q I1 q1
theorem bg9(ha:PT X a tA):PT X (.UnaryOp .Not a pos) (bz9 tA):=by
 intro pins s σ H Q I h
 exact isTrue_not (ha pins s σ H (fun c H1=>Q (!c) H1) I h)
noncomputable def bs6(ta tb:TE):TE:=fun σ H Q=>ta σ H fun x H1=>∃c,x=.bl c/\if c=true then tb σ H1 Q else Q (.bl false) H1
noncomputable def bz8(ta tb:TE):TE:=fun σ H Q=>ta σ H fun x H1=>∃c,x=.bl c/\if c=true then Q (.bl true) H1 else tb σ H1 Q
noncomputable def br9(ta:TE):TE:=fun σ H Q=>ta σ H fun x H1=>∃c,x=.bl c/\Q (.bl (!c)) H1
theorem bi0{op} {t:TE}(h:PE X a t):PE X (.BoolOp op [a] pos) t:=fun pins s σ H Q I hw=>BoolOp_one (h pins s σ H Q I hw)
theorem aI1(ha:PE X a ta) (hb:PE X (.BoolOp .And (b::J4) pos) tb):PE X (.BoolOp .And (a::b::J4) pos) (bs6 ta tb):=by
 intro pins s σ H Q I h
 refine BoolOp_and (thn (ha pins s σ H _ I h) fun v s1 ⟨x,H1,I1,r1,q1⟩=>?_)
 obtain⟨c,rfl,q1⟩:=q1
 cases r1
 refine wpAny_truthy_bool ?_
 cases c with
 | true=>exact hb pins s1 σ H1 Q I1 q1
 | false=>exact⟨.bl false,H1,I1,rfl,q1⟩
theorem bb0(ha:PE X a ta) (hb:PE X (.BoolOp .Or (b::J4) pos) tb):PE X (.BoolOp .Or (a::b::J4) pos) (bz8 ta tb):=by
 intro pins s σ H Q I h
 refine BoolOp_or (thn (ha pins s σ H _ I h) fun v s1 ⟨x,H1,I1,r1,q1⟩=>?_)
 obtain⟨c,rfl,q1⟩:=q1
 cases r1
 refine wpAny_truthy_bool ?_
 cases c with
 | false=>exact hb pins s1 σ H1 Q I1 q1
 | true=>exact⟨.bl true,H1,I1,rfl,q1⟩
theorem bi1(ha:PE X a ta):PE X (.UnaryOp .Not a pos) (br9 ta):=by
 intro pins s σ H Q I h
 refine UnaryOp_ (thn (ha pins s σ H _ I h) fun v s1 ⟨x,H1,I1,r1,q1⟩=>?_)
 obtain⟨c,rfl,q1⟩:=q1
 cases r1
 exact not_of (wpAny_truthy_bool ⟨.bl (!c),H1,I1,rfl,q1⟩)
noncomputable def tIf(t:TT) (ta tb:TE):TE:=fun σ H Q=>t σ H fun c H1=>if c=true then ta σ H1 Q else tb σ H1 Q
theorem al4{c:Expr}(hc:PT X c tA) (ha:PE X a ta) (hb:PE X b tb):PE X (.IfExp c a b pos) (tIf tA ta tb):=by
 intro pins s σ H Q I h
 refine wpAny_IfExp (thn (hc pins s σ H _ I h) fun d s1 ⟨H1,I1,q1⟩=>?_)
 cases d with
 | true=>exact ha pins s1 σ H1 Q I1 q1
 | false=>exact hb pins s1 σ H1 Q I1 q1
end
noncomputable def SqL(K:PySem.W.Frag) (H:Hp) (a:Addr) (xs:List V):Prop :=
 Rd H a (.lst xs) \/
  ∃(o:Obj) (its:Array Value) (n:Nat),K.lookup a=some o/\o.cls=.type "list" /\ o.dict=none/\o.data=.seq its n/\its.size<=sizeLine/\C3 xs its.toList
noncomputable def SqT(K:PySem.W.Frag) (H:Hp) (a:Addr) (xs:List V):Prop :=
 Rd H a (.tup xs) \/
  ∃(o:Obj) (its:Array Value) (n:Nat),K.lookup a=some o/\o.cls=.type "tuple" /\ o.dict=none/\o.data=.seq its n/\its.size<=sizeLine/\C3 xs its.toList
noncomputable def bB6:Value->Option V
 | .none=>some .non
 | .bool b=>some (.bl b)
 | .int i _=>some (.int i)
 | .str x _=>some (.str x)
 | .bytes b _=>some (.byt b)
 | .float b _=>some (.flt b)
 | .ref a=>some (.ref a)
 | .type n=>some (.ty n)
 | _=>none
theorem D4.abs{x:V}{u:Value}(r:D4 x u):bB6 u=some x:=by
 cases x with
 | non=>cases r;rfl
 | bl _=>cases r;rfl
 | int _=>obtain⟨t,rfl⟩:=r;rfl
 | str _=>obtain⟨t,rfl⟩:=r;rfl
 | byt _=>obtain⟨t,rfl⟩:=r;rfl
 | flt _=>obtain⟨t,rfl⟩:=r;rfl
 | ref _=>cases r;rfl
 | ty _=>cases r;rfl
theorem D4.inj{x y:V}{u:Value}(r:D4 x u) (q:D4 y u):x=y:=Option.some.inj (r.abs.symm.trans q.abs)
theorem C3.inj:∀{xs ys:List V}{us:List Value},C3 xs us->C3 ys us->xs=ys
 | _,_,_,.nil,.nil=>rfl
 | _,_,_,.cons r t,.cons r' t'=>by rw [r.inj r',C3.inj t t']
section
variable {X:Cx}{pins:List (Addr×Obj)}{σ:St}{H:Hp}{s:Shared}{a:Addr}{xs ys:List V}
theorem SqL.of{K:PySem.W.Frag}(h:H a=some (.lst xs)):SqL K H a xs:=.inl (.inl h)
theorem SqT.of{K:PySem.W.Frag}(h:H a=some (.tup xs)):SqT K H a xs:=.inl (.inl h)
theorem Inv.list(I:Inv X pins σ H s) (h:SqL X.K H a xs):∃its:List Value,C3 xs its/\PlainL s.heap a its.toArray/\xs.length<=sizeLine:=by
 rcases h with h|⟨o,its,n,hk,hc,hd,hs,hz,r⟩
 ·obtain⟨z,its,n,r,e⟩:=h.ok I.hok
  exact⟨its,r,⟨_,n,e,rfl,rfl,rfl⟩,z⟩
 ·refine⟨its.toList,r,⟨o,n,I.kIn a o hk,hc,hd,by simpa using hs⟩,?_⟩
  have e:=r.length
  simp only [Array.length_toList]at e
  omega
theorem Inv.tupN(I:Inv X pins σ H s) (h:SqT X.K H a xs):∃its:List Value,C3 xs its/\aa8 s.heap a its.toArray/\xs.length<=sizeLine:=by
 rcases h with h|⟨o,its,n,hk,hc,hd,hs,hz,r⟩
 ·obtain⟨z,its,r,p⟩:=h.ok I.hok
  exact⟨its,r,p,z⟩
 ·refine⟨its.toList,r,⟨o,I.kIn a o hk,hc,⟨n,by simpa using hs⟩,hd⟩,?_⟩
  have e:=r.length
  simp only [Array.length_toList]at e
  omega
theorem Inv.tuple(I:Inv X pins σ H s) (h:SqT X.K H a xs):∃its:List Value,C3 xs its/\IsTup s.heap a its.toArray/\xs.length<=sizeLine :=
 let⟨its,r,p,z⟩:=I.tupN h;⟨its,r,p.tup,z⟩
theorem Inv.list_inj(I:Inv X pins σ H s) (h:SqL X.K H a xs) (h':SqL X.K H a ys):xs=ys:=by
 obtain⟨its,r,⟨o,n,e,_,_,d⟩,_⟩:=I.list h
 obtain⟨its',r',⟨o',n',e',_,_,d'⟩,_⟩:=I.list h'
 rw [e]at e';cases e'
 rw [d]at d'
 injection d' with d1 _
 have:its=its':=by simpa using congrArg Array.toList d1
 subst this
 exact r.inj r'
theorem Inv.tuple_inj(I:Inv X pins σ H s) (h:SqT X.K H a xs) (h':SqT X.K H a ys):xs=ys:=by
 obtain⟨its,r,⟨o,e,_,n,d⟩,_⟩:=I.tuple h
 obtain⟨its',r',⟨o',e',_,n',d'⟩,_⟩:=I.tuple h'
 rw [e]at e';cases e'
 rw [d]at d'
 injection d' with d1 _
 have:its=its':=by simpa using congrArg Array.toList d1
 subst this
 exact r.inj r'
end
noncomputable abbrev Cx.wish(X:Cx) (E:Value->Shared->Prop):Cx:={ X with xe:=E }
noncomputable abbrev Cx.nox(X:Cx):Cx:=X.wish fun _ _=>False
theorem Cx.Ok.wish{X:Cx}(ok:X.Ok) (E:Value->Shared->Prop):(X.wish E).Ok :=
 ⟨ok.mod,ok.kind,ok.glob,ok.blt,ok.above,ok.inj,ok.has,ok.cab,ok.hd,ok.frames,ok.stk,ok.exf,ok.bs,ok.bsz,ok.noex,ok.exfs,ok.funs,ok.frf⟩
theorem Cx.Ok.unwish{X:Cx}{E:Value->Shared->Prop}(ok:(X.wish E).Ok):X.Ok :=
 ⟨ok.mod,ok.kind,ok.glob,ok.blt,ok.above,ok.inj,ok.has,ok.cab,ok.hd,ok.frames,ok.stk,ok.exf,ok.bs,ok.bsz,ok.noex,ok.exfs,ok.funs,ok.frf⟩
section
variable {X:Cx}{pins:List (Addr×Obj)}{σ:St}{H:Hp}{s:Shared}{E:Value->Shared->Prop}
theorem Inv.wish(I:Inv X pins σ H s) (E:Value->Shared->Prop):Inv (X.wish E) pins σ H s:=⟨I.ok.wish E,I.os,I.bare,I.base,I.loc,I.cell,I.free,I.freeC,I.pin,I.hok,I.len⟩
theorem Inv.unwish(I:Inv (X.wish E) pins σ H s):Inv X pins σ H s:=⟨I.ok.unwish,I.os,I.bare,I.base,I.loc,I.cell,I.free,I.freeC,I.pin,I.hok,I.len⟩
theorem SP.unwish{D:Ends}{f:Flow}{s':Shared}(h:SP (X.wish E) pins D f s'):SP X pins D f s':=by
 cases f with
 | next=>obtain⟨σ',H',I,q⟩:=h;exact⟨σ',H',I.unwish,q⟩
 | brk=>obtain⟨σ',H',I,q⟩:=h;exact⟨σ',H',I.unwish,q⟩
 | cont=>obtain⟨σ',H',I,q⟩:=h;exact⟨σ',H',I.unwish,q⟩
 | ret u=>obtain⟨v,σ',H',I,r,q⟩:=h;exact⟨v,σ',H',I.unwish,r,q⟩
theorem PSs.nox{st:List Stmt}{t:TS}(h:PSs X.nox st t):PSs X st t:=fun pins s σ H D I hw =>
 wpAny_mono (h pins s σ H D (I.wish _) hw) (fun _ _ q=>q.unwish) fun _ _ z=>False.elim z
end
section
variable {X:Cx}{st:Stmt}{J4:List Stmt}{t u:TS}{e:Expr}{te:TE}{pos:Pos}
noncomputable def ba2:TS:=fun D σ H=>D.nx σ H
noncomputable def bz5(t u:TS):TS:=fun D σ H=>t { D with nx:=u D } σ H
theorem aT3:PSs X [] ba2:=fun _ _ σ H _ I h=>wpAny_execs_nil ⟨σ,H,I,h⟩
theorem Y0(h1:PS X st t) (h2:PSs X J4 u):PSs X (st::J4) (bz5 t u):=by
 intro pins s σ H D I h
 refine wpAny_execs_cons (thn (h1 pins s σ H { D with nx:=u D } I h) fun f s1 q=>?_)
 cases f with
 | next =>
  obtain⟨σ',H',I',q⟩:=q
  exact h2 pins s1 σ' H' D I' q
 | ret v=>exact q
 | brk=>exact q
 | cont=>exact q
theorem aT2(h1:PS X st t):PSs X [st] t:=by
 intro pins s σ H D I h
 refine wpAny_execs_cons (thn (h1 pins s σ H D I h) fun f s1 q=>?_)
 cases f with
 | next=>exact wpAny_execs_nil q
 | ret v=>exact q
 | brk=>exact q
 | cont=>exact q
noncomputable def bf5:TS:=fun D σ H=>D.bk σ H
noncomputable def bs3:TS:=fun D σ H=>D.ct σ H
theorem aT4:PS X (.Pass pos) ba2:=fun _ _ σ H _ I h=>wpAny_Pass ⟨σ,H,I,h⟩
theorem aH4:PS X (.Break pos) bf5:=fun _ _ σ H _ I h=>wpAny_Break ⟨σ,H,I,h⟩
theorem al0:PS X (.Continue pos) bs3:=fun _ _ σ H _ I h=>wpAny_Continue ⟨σ,H,I,h⟩
theorem Inv.quiet{pins:List (Addr×Obj)}{σ:St}{H:Hp}{s:Shared}(I:Inv X pins σ H s):interactive X.env=false:=by simp [interactive,I.ok.kind]
noncomputable def bs1(te:TE):TS:=fun D σ H=>te σ H fun _ H1=>D.nx σ H1
theorem ag8(he:PE X e te) (hs:swapsWith e none pos.line X.env=pure false:=by rfl):PS X (.Expr e pos) (bs1 te):=by
 intro pins s σ H D I h
 exact wpAny_Expr_any (thn (he pins s σ H _ I h) fun v s1 ⟨x,H1,I1,r1,q1⟩=>⟨σ,H1,I1,q1⟩) I.quiet hs
noncomputable def bz6(te:TE):TS:=fun D σ H=>te σ H D.rt
theorem bh1(he:PE X e te):PS X (.Return (some e) pos) (bz6 te):=by
 intro pins s σ H D I h
 exact wpAny_Return_some (thn (he pins s σ H _ I h) fun v s1 ⟨x,H1,I1,r1,q1⟩=>⟨x,σ,H1,I1,r1,q1⟩)
noncomputable def bA1(c:TT) (t u:TS):TS:=fun D σ H=>c σ H fun b H1=>if b=true then t D σ H1 else u D σ H1
theorem ba9{c:Expr}{a b:List Stmt}{tc:TT}(hc:PT X c tc) (ha:PSs X a t) (hb:PSs X b u):PS X (.If c a b pos) (bA1 tc t u):=by
 intro pins s σ H D I h
 refine wpAny_If (thn (hc pins s σ H _ I h) fun d s1 ⟨H1,I1,q1⟩=>?_)
 cases d with
 | true=>exact ha pins s1 σ H1 D I1 q1
 | false=>exact hb pins s1 σ H1 D I1 q1
noncomputable def bf4:TS:=fun _ _ _=>False
theorem O4{sts:List Stmt}:PSs X sts bf4:=fun _ _ _ _ _ _ h=>h.elim
end
noncomputable abbrev TG:=V->St->Hp->(St->Hp->Prop)->Prop
noncomputable abbrev TGs:=List V->St->Hp->(St->Hp->Prop)->Prop
noncomputable def PG(X:Cx) (target:Expr) (t:TG):Prop :=
 ∀(pins:List (Addr×Obj)) (s:Shared) (σ:St) (H:Hp) (v:V) (u:Value) (Q:St->Hp->Prop),Inv X pins σ H s->D4 v u->t v σ H Q ->
  wpAny (model X.prog X.w) X.A (assign target X.env u) (fun _ s'=>∃σ' H',Inv X pins σ' H' s'/\Q σ' H') X.xe s
noncomputable def PGs(X:Cx) (ts:List Expr) (t:TGs):Prop :=
 ∀(pins:List (Addr×Obj)) (s:Shared) (σ:St) (H:Hp) (vs:List V) (us:List Value) (Q:St->Hp->Prop),Inv X pins σ H s->C3 vs us->t vs σ H Q ->
  wpAny (model X.prog X.w) X.A (assignInOrder ((assignEach ts X.env).map (·.2)) us) (fun _ s'=>∃σ' H',Inv X pins σ' H' s'/\Q σ' H') X.xe s
section
variable {X:Cx}{pos:Pos}
noncomputable def bb6(i:Nat):TG:=fun v σ H Q=>Q (σ.set i (some v)) H
theorem aU0{i:Nat}{x:Str}(hN:X.N.Nodup) (hi:X.N[i]? = some x) (hx:Loc X.env.scope x) (hf:X.fn x=true\/X.env.scope.names.lookup x=some .local:=by first|exact .inl rfl|exact .inr rfl|assumption):PG X (.Name x pos) (bb6 i):=by
 intro pins s σ H v u Q I r h
 exact wpAny_assign_Name (R4 I hN hi hx r (fun s' I'=>⟨_,H,I',h⟩) hf)
noncomputable def bB3:TGs:=fun vs σ H Q=>vs=[]/\Q σ H
noncomputable def bx8(t:TG) (u:TGs):TGs:=fun vs σ H Q=>∃v r,vs=v::r/\t v σ H fun σ' H'=>u r σ' H' Q
theorem aT9:PGs X [] bB3:=by
 intro pins s σ H vs us Q I r h
 obtain⟨e,h⟩:=h
 subst e
 cases r
 exact assignInOrder_nil ⟨σ,H,I,h⟩
theorem aH7{e:Expr}{es:List Expr}{t:TG}{u:TGs}(h1:PG X e t) (h2:PGs X es u)
  (hs:(assignEach (e::es) X.env).map (·.2)=assign e X.env::(assignEach es X.env).map (·.2):=by rfl):PGs X (e::es) (bx8 t u):=by
 intro pins s σ H vs us Q I r h
 obtain⟨v,vr,e1,h⟩:=h
 subst e1
 cases r with
 | cons r rr =>
  rw [hs]
  refine assignInOrder_cons (thn (h1 pins s σ H _ _ _ I r h) fun _ s1 ⟨σ1,H1,I1,q1⟩=>?_)
  exact h2 pins s1 σ1 H1 _ _ Q I1 rr q1
noncomputable def bB2(K:PySem.W.Frag) (n:Nat) (t:TGs):TG:=fun v σ H Q=>∃a xs,v=.ref a/\SqT K H a xs/\xs.length=n/\t xs σ H Q
theorem bh6{es:List Expr}{k:Nat}{t:TGs}{n:Nat}(hc:X.calm=true) (h:PGs X es t)
  (hn:(assignEach es X.env).length=n:=by rfl) (hst:(assignEach es X.env).findIdx? (·.1)=none:=by rfl):PG X (.Tuple es k pos) (bB2 X.K n t):=by
 intro pins s σ H v u Q I r hw
 obtain⟨a,xs,e1,hq,hl,hw⟩:=hw
 subst e1
 cases r
 obtain⟨its,rv,ht,hz⟩:=I.tuple hq
 refine assign_Tuple_tuple (I.ok.hd hc) ht (by simp [hn,← hl,rv.length]) hst fun h' hx=>?_
 have I1:Inv X pins σ H { s with heap:=h' }:=I.kept (t':=s.toks) fun b o e=>hx b o (Nat.ne_of_lt (Heap.lt_size e)) e
 exact h pins _ σ H xs _ Q I1 (by simpa using rv) hw
noncomputable def bs5(te:TE) (g:TG):TS:=fun D σ H=>te σ H fun x H1=>g x σ H1 D.nx
theorem bh4{tg e:Expr}{te:TE}{g:TG}(he:PE X e te) (hg:PG X tg g) (hs:swapsWithSole [tg] e pos.line X.env=pure false:=by rfl) (hw:swappedStores [tg] e X.env=pure none:=by rfl)
  (h1:(assignEach [tg] X.env).map (·.2)=[assign tg X.env]:=by rfl):PS X (.Assign [tg] e pos) (bs5 te g):=by
 intro pins s σ H D I h
 refine wpAny_Assign_stores (thn (he pins s σ H _ I h) fun v s1 ⟨x,H1,I1,r1,q1⟩=>?_) hs hw
 rw [h1]
 exact thn (hg pins s1 σ H1 x v _ I1 r1 q1) fun _ s2 q=>q
theorem aH3{i:Nat}{x:Str}{e:Expr}{te:TE}{pos':Pos}(hN:X.N.Nodup) (hi:X.N[i]? = some x) (hx:Loc X.env.scope x) (he:PE X e te) (hs:swapsWith e (some (.Name x pos')) pos.line X.env=pure false:=by rfl) (hf:X.fn x=true\/X.env.scope.names.lookup x=some .local:=by first|exact .inl rfl|exact .inr rfl|assumption) :
  PS X (.Assign [.Name x pos'] e pos) (bs5 te (bb6 i)):=by
 intro pins s σ H D I h
 refine wpAny_Assign_Name (thn (he pins s σ H _ I h) fun v s1 ⟨y,H1,I1,r1,q1⟩=>?_) hs
 exact R4 I1 hN hi hx r1 (fun s2 I2=>⟨_,H1,I2,q1⟩) hf
noncomputable def bz7(i j:Nat) (ta:TA):TS:=fun D σ H=>ta σ H fun vs H1=>∃v w,vs=[v,w]/\D.nx ((σ.set i (some v)).set j (some w)) H1
theorem bh2{i j:Nat}{x y:Str}{a b:Expr}{ta:TA}{px py pt:Pos}{kt k2 pt2} (hc:X.calm=true) (hN:X.N.Nodup) (hi:X.N[i]? = some x) (hj:X.N[j]? = some y) (hij:i≠j)
  (hx:X.env.scope.names.lookup x=some .local) (hy:X.env.scope.names.lookup y=some .local) (ha:PA X [a,b] ta)
  (hw:swappedStores [.Tuple [.Name x px,.Name y py] kt pt] (.Tuple [a,b] k2 pt2) X.env=pure (some [x,y]))
  (hs:swapsWithSole [.Tuple [.Name x px,.Name y py] kt pt] (.Tuple [a,b] k2 pt2) pos.line X.env=pure false:=by rfl) :
  PS X (.Assign [.Tuple [.Name x px,.Name y py] kt pt] (.Tuple [a,b] k2 pt2) pos) (bz7 i j ta):=by
 intro pins s σ H D I h
 rw [exec_Assign_arm]
 refine wpAny_bind (wpAny_standAt ?_)
 rw [hs]
 refine wpAny_bind (wpAny_pure ?_)
 rw [if_neg (by decide)]
 refine wpAny_bind (Tuple_ (thn (ha _ pins s σ H _ I h) fun us s1 ⟨vs,H1,I1,r1,q1⟩=>?_))
 obtain⟨v,w,e1,q1⟩:=q1
 subst e1
 obtain⟨u1,u2,rfl,rv,rw'⟩:∃u1 u2,us=[u1,u2]/\D4 v u1/\D4 w u2:=by
  cases r1 with
  | cons p q =>
   cases q with
   | cons p' q' =>
    cases q'
    exact⟨_,_,rfl,p,p'⟩
 refine wpAny_newObj_type ?_ (by show 2<=sizeLine;decide)
 have I2:Inv X pins σ H1 { s1 with heap:=s1.heap.push { cls:=.type "tuple", data:=.seq [u1,u2].toArray } }:=I1.kept (t':=s1.toks) fun b o e=>Heap.get?_push_of_some _ e
 rw [hw]
 refine wpAny_bind (wpAny_pure ?_)
 show wpAny (model X.prog X.w) X.A (do rule "assign.swapped-stores";let items ← unpackItems (.ref s1.heap.objs.size) 2 none;assignInOrder [fun v=>bindName X.env y v,fun v=>bindName X.env x v] items.reverse;pure Flow.next) _ _ _
 refine wpAny_bind (wpAny_rule (wpAny_bind (unpackItems_tuple (items:=#[u1,u2]) (I.ok.hd hc) (IsTup.new s1.heap _) fun h' hx'=>?_)))
 have I3:=I2.kept (h':=h') (t':=s1.toks) fun b o e=>hx' b o (Nat.ne_of_lt (Heap.lt_size e)) e
 show wpAny _ _ (assignInOrder [fun v=>bindName X.env y v,fun v=>bindName X.env x v] [u2,u1] >>= fun _=>pure Flow.next) _ _ _
 refine wpAny_bind (assignInOrder_cons (wpAny_bindName (R4 I3 hN hj (.inl hy) rw' (fun s2 I4=>?_) (.inr hy))))
 refine assignInOrder_cons (wpAny_bindName (R4 I4 hN hi (.inl hx) rv (fun s3 I5=>assignInOrder_nil (wpAny_pure ?_)) (.inr hx)))
 rw [List.set_comm _ _ (Ne.symm hij)]at I5
 exact⟨_,H1,I5,q1⟩
end
section
variable {X:Cx}{pos:Pos}
noncomputable def bf3(c:TT) (tb:TS):TS:=fun D σ H=>∃W:Nat->St->Hp->Prop,(∃m,W m σ H)/\∀m σ H,W m σ H ->
 c σ H fun b H1=>if b=true then ∃N:St->Hp->Prop,(∀σ' H',N σ' H'->∃m',m' < m/\W m' σ' H')/\tb { D with nx:=N,ct:=N,bk:=D.nx } σ H1 else D.nx σ H1
theorem aH2{c:Expr}{body:List Stmt}{tc:TT}{tb:TS}(hp:PassesOwn (model X.prog X.w) X.A X.env X.xe) (hc:PT X c tc) (hb:PSs X body tb):PS X (.While c body [] pos) (bf3 tc tb):=by
 intro pins s σ H D I h
 obtain⟨W,⟨m0,w0⟩,turn⟩:=h
 refine wpAny_While (codeAny_whileLoop (fun n s'=>∃σ' H',Inv X pins σ' H' s'/\W n σ' H') ?_ m0 ⟨σ,H,I,w0⟩)
 rintro n s1 ⟨σ1,H1,I1,w1⟩
 refine wpAny_passesOwn hp (thn (hc pins s1 σ1 H1 _ I1 (turn n σ1 H1 w1)) fun b s2 ⟨H2,I2,q2⟩=>?_)
 cases b with
 | true =>
  obtain⟨N,hN,q2⟩:=q2
  rw [if_pos rfl]
  refine wpAny_passesOwn hp (thn (hb pins s2 σ1 H2 _ I2 q2) fun f s3 q3=>?_)
  cases f with
  | next =>
   obtain⟨σ3,H3,I3,n3⟩:=q3
   obtain⟨m',hm,w3⟩:=hN σ3 H3 n3
   exact⟨m',hm,σ3,H3,I3,w3⟩
  | cont =>
   obtain⟨σ3,H3,I3,n3⟩:=q3
   obtain⟨m',hm,w3⟩:=hN σ3 H3 n3
   exact⟨m',hm,σ3,H3,I3,w3⟩
  | brk=>exact q3
  | ret v=>exact q3
 | false =>
  rw [if_neg Bool.false_ne_true]
  exact wpAny_execs_nil ⟨σ1,H2,I2,q2⟩
end
structure It where
 go:Nat->Hp->Prop
 yld:Nat->Hp->V->Hp->Prop
 stop:Nat->Hp->Prop
noncomputable def k8(X:Cx) (pins:List (Addr×Obj)) (H:Hp) (b:Addr):Prop :=
 H b=none/\b≠X.env.locals/\b∉X.fs/\(b∈X.ex\/X.s₀.heap.objs.size<=b)/\(∀x c,X.env.cells.lookup x=some c->c≠b)/\∀p∈X.pn++pins,p.1≠b
theorem Inv.fpOk{X:Cx}{pins:List (Addr×Obj)}{σ:St}{H H':Hp}{s:Shared}{b:Addr}(I:Inv X pins σ H s) (hb:s.heap.objs.size<=b) (hn:H' b=none):k8 X pins H' b:=by
 refine⟨hn,Nat.ne_of_gt (Nat.lt_of_lt_of_le I.lt hb),I.nofs hb,.inr (Nat.le_trans I.sz hb),fun x c e z=>?_,fun p hp z=>?_⟩
 ·obtain⟨v,q⟩:=I.cell x c e
  exact absurd (Nat.lt_of_lt_of_le q.lt (by rw [z];exact hb)) (Nat.lt_irrefl _)
 ·exact absurd (Nat.lt_of_lt_of_le (Heap.lt_size (I.pin p hp).1) (by rw [z];exact hb)) (Nat.lt_irrefl _)
structure Turn (P:Program) (w:World) (K:PySem.W.Frag) (tg:Expr) (J:It) (fp:List Addr) (it:Addr) (tn:Nat->Heap->Prop):Prop where
 mem:it∈fp
 obj:∀i h,tn i h->∀b∈fp,∃o,h.get? b=some o/\∀v,o.data≠.cell v
 keep:∀i h h',tn i h->(∀b∈fp,∀o,h.get? b=some o->h'.get? b=some o)->tn i h'
 item:∀(X:Cx),X.prog=P->X.w=w->X.K=K->X.calm=true->∀(i:Nat) (pins:List (Addr×Obj)) (s:Shared) (σ:St) (H:Hp) (E:Value->Shared->Prop),Inv X pins σ H s->(∀b∈fp,k8 X pins H b)->tn i s.heap->J.go i H ->
  wpAny (model P w) X.A (pyNext (.ref it)) (fun r s1=>∃u,r=some u /\
   wpAny (model P w) X.A (letOwnedTupleGo tg (.ref it) u) (fun _ s2=>∃x H',Inv X pins σ H' s2/\D4 x u/\J.yld i H x H'/\tn (i+1) s2.heap/\∀b∈fp,H' b=none) E s1) E s
 done:∀(X:Cx),X.prog=P->X.w=w->X.K=K->X.calm=true->∀(i:Nat) (pins:List (Addr×Obj)) (s:Shared) (σ:St) (H:Hp) (E:Value->Shared->Prop),Inv X pins σ H s->(∀b∈fp,k8 X pins H b)->tn i s.heap->J.stop i H ->
  wpAny (model P w) X.A (pyNext (.ref it)) (fun r s1=>r=none/\Inv X pins σ H s1) E s
 self:∀(A:Around) (i:Nat) (s:Shared) (Q:Value->Shared->Prop) (E:Value->Shared->Prop),tn i s.heap->Q (.ref it) s->wpAny (model P w) A (pyIter (.ref it)) Q E s
noncomputable abbrev TI:=St->Hp->(It->Hp->Prop)->Prop
noncomputable def PIE(X:Cx) (pins:List (Addr×Obj)) (σ:St) (tg:Expr) (R:It->Hp->Prop) (itv:Value) (s2:Shared):Prop :=
 ∃(it:Addr) (fp:List Addr) (tn:Nat->Heap->Prop) (J:It) (H':Hp),itv=.ref it/\Inv X pins σ H' s2/\Turn X.prog X.w X.K tg J fp it tn/\tn 0 s2.heap/\(∀b∈fp,k8 X pins H' b)/\R J H'
noncomputable def PI(X:Cx) (tg iter:Expr) (wi:TI):Prop :=
 ∀(pins:List (Addr×Obj)) (s:Shared) (σ:St) (H:Hp) (R:It->Hp->Prop),Inv X pins σ H s->wi σ H R ->
  wpAny (model X.prog X.w) X.A (eval iter X.env) (fun v s1=>wpAny (model X.prog X.w) X.A (pyIter v) (PIE X pins σ tg R) X.xe s1) X.xe s
theorem aO4{M:Model}{A:Around}{E:Value->Shared->Prop}{s:Shared}{tg:Expr}{it:Addr}{u:Value}{o:Obj}{n:String}{vs:Array Value}{Q:Unit->Shared->Prop}(ho:s.heap.get? it=some o) (hc:o.cls=.type n) (hd:o.data=.fields vs)
    (hn:["enumerate", "zip", "dict_itemiterator", "dict_reverseitemiterator", "odict_iterator", "itertools.zip_longest", "itertools.pairwise"].contains n=false) (hQ:Q () s):wpAny M A (letOwnedTupleGo tg (.ref it) u) Q E s:=by
  unfold letOwnedTupleGo
  cases tg<;>first
    | exact wpAny_pure hQ
    | (cases u<;>first
        | exact wpAny_pure hQ
        | (refine wpAny_bind (wpAny_load ho ?_)
           rw [hc,hd]
           show wpAny M A (if(["enumerate", "zip", "dict_itemiterator", "dict_reverseitemiterator", "odict_iterator", "itertools.zip_longest", "itertools.pairwise"].contains n&&vs[0]? == some (rawInt _))=true then _ else _) Q E s
           rw [if_neg (by intro h;rw [hn,Bool.false_and]at h;cases h)]
           exact wpAny_pure hQ))
noncomputable def Itl(K:PySem.W.Frag) (a:Addr):It :=
 ⟨fun i H=>∃xs x,SqL K H a xs/\xs[i]? = some x,fun i H x H'=>H'=H/\∀xs,SqL K H a xs->xs[i]? = some x,fun i H=>∃xs,SqL K H a xs/\xs.length<=i⟩
noncomputable def Itt(K:PySem.W.Frag) (a:Addr):It :=
 ⟨fun i H=>∃xs x,SqT K H a xs/\xs[i]? = some x,fun i H x H'=>H'=H/\∀xs,SqT K H a xs->xs[i]? = some x,fun i H=>∃xs,SqT K H a xs/\xs.length<=i⟩
noncomputable def Itr(lo:Int) (n:Nat):It:=⟨fun i _=>i < n,fun i H x H'=>H'=H/\x=.int (lo+i),fun i _=>n<=i⟩
theorem az6{P:Program}{w:World}{K:PySem.W.Frag}{tg:Expr}(a it:Addr):Turn P w K tg (Itl K a) [it] it (fun i h=>h.IsListIter it a i) where
 mem:=by simp
 obj:=fun i h st b hb=>by
  have e:b=it:=by simpa using hb
  subst e
  obtain⟨o,e,c,d⟩:=st
  exact⟨o,e,fun v z=>by rw [d]at z;cases z⟩
 keep:=fun i h h' st k=>st.at fun o e=>k it (by simp) o e
 item:=by
  intro X hP hw hK hc i pins s σ H E I hf st hg
  subst hP hw hK
  obtain⟨xs,x,hq,hx⟩:=hg
  obtain⟨its,rv,p,hz⟩:=I.list hq
  obtain⟨u,hu,ru⟩:=rv.get hx
  obtain⟨f0,f1,f2,f3,f4,f5⟩:=hf it (by simp)
  refine wpAny_pyNext_list_item st p.isList (x:=u) (by simpa using hu) fun h' st' sb=>?_
  have I1:Inv X pins σ H { s with heap:=h' }:=I.turned (t':=s.toks) (fun b o hb e=>(sb.2 b hb).trans e) f0 f1 f3 f4 f5
  obtain⟨o,e,c,d⟩:=id st'
  exact⟨u,rfl,aO4 (s:={ s with heap:=h' }) e c d (by decide) ⟨x,H,I1,ru,⟨rfl,fun ys hy=>by rw [I.list_inj hy hq];exact hx⟩,st',fun b hb=>(hf b hb).1⟩⟩
 done:=by
  intro X hP hw hK hc i pins s σ H E I hf st hg
  subst hP hw hK
  obtain⟨xs,hq,hx⟩:=hg
  obtain⟨its,rv,p,hz⟩:=I.list hq
  obtain⟨f0,f1,f2,f3,f4,f5⟩:=hf it (by simp)
  have hl:=rv.length
  exact wpAny_pyNext_list_end (I.ok.hd hc) st p.isList (by simp;omega) fun h' eb=>⟨rfl,I.turned (t':=s.toks) (fun b o hb e=>eb b o hb e) f0 f1 f3 f4 f5⟩
 self:=fun _ _ _ _ _ st h=>wpAny_pyIter_listiter st h
theorem ap5{P:Program}{w:World}{K:PySem.W.Frag}{tg:Expr}(a it:Addr):Turn P w K tg (Itt K a) [it] it (fun i h=>h.IsTupleIter it a i) where
 mem:=by simp
 obj:=fun i h st b hb=>by
  have e:b=it:=by simpa using hb
  subst e
  obtain⟨o,e,c,d⟩:=st
  exact⟨o,e,fun v z=>by rw [d]at z;cases z⟩
 keep:=fun i h h' st k=>st.at fun o e=>k it (by simp) o e
 item:=by
  intro X hP hw hK hc i pins s σ H E I hf st hg
  subst hP hw hK
  obtain⟨xs,x,hq,hx⟩:=hg
  obtain⟨its,rv,p,hz⟩:=I.tuple hq
  obtain⟨u,hu,ru⟩:=rv.get hx
  obtain⟨f0,f1,f2,f3,f4,f5⟩:=hf it (by simp)
  refine wpAny_pyNext_tuple_item st (show s.heap.IsTuple a its.toArray from p) (x:=u) (by simpa using hu) fun h' st' sb=>?_
  have I1:Inv X pins σ H { s with heap:=h' }:=I.turned (t':=s.toks) (fun b o hb e=>(sb.2 b hb).trans e) f0 f1 f3 f4 f5
  obtain⟨o,e,c,d⟩:=id st'
  exact⟨u,rfl,aO4 (s:={ s with heap:=h' }) e c d (by decide) ⟨x,H,I1,ru,⟨rfl,fun ys hy=>by rw [I.tuple_inj hy hq];exact hx⟩,st',fun b hb=>(hf b hb).1⟩⟩
 done:=by
  intro X hP hw hK hc i pins s σ H E I hf st hg
  subst hP hw hK
  obtain⟨xs,hq,hx⟩:=hg
  obtain⟨its,rv,p,hz⟩:=I.tuple hq
  obtain⟨f0,f1,f2,f3,f4,f5⟩:=hf it (by simp)
  have hl:=rv.length
  exact wpAny_pyNext_tuple_end (I.ok.hd hc) st (show s.heap.IsTuple a its.toArray from p) (by simp;omega) fun h' eb=>⟨rfl,I.turned (t':=s.toks) (fun b o hb e=>eb b o hb e) f0 f1 f3 f4 f5⟩
 self:=fun _ _ _ _ _ st h=>wpAny_pyIter_tupleiter st h
theorem ap6{P:Program}{w:World}{K:PySem.W.Frag}{tg:Expr}(it:Addr) (lo:Int) (n:Nat):Turn P w K tg (Itr lo n) [it] it (fun i h=>IsRangeIter h it (lo+(i:Nat)*1) ((n:Int) - (i:Nat)) 1) where
 mem:=by simp
 obj:=fun i h st b hb=>by
  have e:b=it:=by simpa using hb
  subst e
  exact⟨_,st,fun v z=>by
   have z':Data.fields _=Data.cell v:=z
   cases z'⟩
 keep:=fun i h h' st k=>k it (by simp) _ st
 item:=by
  intro X hP hw hK hc i pins s σ H E I hf st hg
  subst hP hw hK
  obtain⟨f0,f1,f2,f3,f4,f5⟩:=hf it (by simp)
  have W:=Walks.range (prog:=X.prog) (w:=X.w) (I.ok.hd hc) it lo 1 n
  refine W.item i s _ _ hg st fun v h' tk hv st' kk=>?_
  obtain⟨t,rfl⟩:=hv
  have I1:Inv X pins σ H { s with heap:=h',toks:=tk }:=I.turned (fun b o hb e=>kk b o (by simpa using hb) e) f0 f1 f3 f4 f5
  refine⟨_,rfl,aO4 (s:={ s with heap:=h',toks:=tk }) (n := "range_iterator") st' rfl rfl (by decide) ⟨.int (lo+i),H,I1,⟨t,?_⟩,⟨rfl,rfl⟩,st',fun b hb=>(hf b hb).1⟩⟩
  rw [Int.mul_one]
 done:=by
  intro X hP hw hK hc i pins s σ H E I hf st hg
  subst hP hw hK
  obtain⟨f0,f1,f2,f3,f4,f5⟩:=hf it (by simp)
  exact wpAny_pyNext_range_end (I.ok.hd hc) st (by have:n<=i:=hg;omega) fun h' eb=>⟨rfl,I.turned (t':=s.toks) (fun b o hb e=>eb b o hb e) f0 f1 f3 f4 f5⟩
 self:=fun _ _ _ _ _ st h=>wpAny_pyIter_rangeiter st h
section
variable {X:Cx}{tg:Expr}
noncomputable def bx6(K:PySem.W.Frag) (tl:TE):TI:=fun σ H R=>tl σ H fun x H1=>∃a,x=.ref a/\(∃xs,SqL K H1 a xs)/\R (Itl K a) H1
noncomputable def bB1(K:PySem.W.Frag) (tl:TE):TI:=fun σ H R=>tl σ H fun x H1=>∃a,x=.ref a/\(∃xs,SqT K H1 a xs)/\R (Itt K a) H1
theorem aT8{l:Expr}{tl:TE}(hl:PE X l tl):PI X tg l (bx6 X.K tl):=by
 intro pins s σ H R I h
 refine thn (hl pins s σ H _ I h) fun v s1 ⟨x,H1,I1,r1,q1⟩=>?_
 obtain⟨a,e,⟨xs,hq⟩,q⟩:=q1
 subst e
 cases r1
 obtain⟨its,rv,p,hz⟩:=I1.list hq
 refine wpAny_pyIter_list p.isList ?_
 refine⟨s1.heap.objs.size,[s1.heap.objs.size],_,_,H1,rfl,I1.kept (t':=s1.toks) fun b o e=>Heap.get?_push_of_some _ e,az6 a _,⟨_,Heap.get?_push_size _ rfl,rfl,rfl⟩,fun b hb=>?_,q⟩
 have e:b=s1.heap.objs.size:=by simpa using hb
 subst e
 exact I1.fpOk (Nat.le_refl _) (I1.hok.fresh (Nat.le_refl _))
theorem bh5{l:Expr}{tl:TE}(hl:PE X l tl):PI X tg l (bB1 X.K tl):=by
 intro pins s σ H R I h
 refine thn (hl pins s σ H _ I h) fun v s1 ⟨x,H1,I1,r1,q1⟩=>?_
 obtain⟨a,e,⟨xs,hq⟩,q⟩:=q1
 subst e
 cases r1
 obtain⟨its,rv,p,hz⟩:=I1.tuple hq
 refine wpAny_pyIter_tuple (show s1.heap.IsTuple a its.toArray from p) ?_
 refine⟨s1.heap.objs.size,[s1.heap.objs.size],_,_,H1,rfl,I1.kept (t':=s1.toks) fun b o e=>Heap.get?_push_of_some _ e,ap5 a _,⟨_,Heap.get?_push_size _ rfl,rfl,rfl⟩,fun b hb=>?_,q⟩
 have e:b=s1.heap.objs.size:=by simpa using hb
 subst e
 exact I1.fpOk (Nat.le_refl _) (I1.hok.fresh (Nat.le_refl _))
theorem ak7{pins:List (Addr×Obj)}{σ:St}{H:Hp}{s:Shared}{R:It->Hp->Prop}{E:Value->Shared->Prop}{lo hi:Int}{t u v:Tok}{tk:Nat}(I:Inv X pins σ H s) (h1:-(2 ^ 62)<=lo) (h2:lo < 2 ^ 62) (h3:-(2 ^ 62)<=hi) (h4:hi < 2 ^ 62)
  (q:R (Itr lo (hi - lo).toNat) H):wpAny (model X.prog X.w) X.A (pyIter (.ref s.heap.objs.size)) (PIE X pins σ tg R) E { s with heap:=s.heap.push { cls:=.type "range", data:=.fields #[.int lo t,.int hi u,.int 1 v] },toks:=tk }:=by
 refine wpAny_pyIter_range (IsRange.new ..) (small_one h1 h2 h3 h4) ?_
 have I1:Inv X pins σ H { s with heap:=s.heap.push { cls:=.type "range", data:=.fields #[.int lo t,.int hi u,.int 1 v] },toks:=tk }:=I.kept fun b o e=>Heap.get?_push_of_some _ e
 refine⟨(s.heap.push { cls:=.type "range", data:=.fields #[.int lo t,.int hi u,.int 1 v] }).objs.size,[(s.heap.push { cls:=.type "range", data:=.fields #[.int lo t,.int hi u,.int 1 v] }).objs.size],_,_,H,rfl,
  I1.kept (t':=tk) fun b o e=>Heap.get?_push_of_some _ e,ap6 _ lo (hi - lo).toNat,?_,fun b hb=>?_,q⟩
 ·have e1:lo+((0:Nat):Int)*1=lo:=by simp
  have e2:(((hi - lo).toNat:Nat):Int) - ((0:Nat):Int)=Builtin.Range.rangeSize lo hi 1:=by rw [rangeSize_one];split<;>omega
  show IsRangeIter _ _ (lo+((0:Nat):Int)*1) ((((hi - lo).toNat:Nat):Int) - ((0:Nat):Int)) 1
  rw [e1,e2]
  exact Heap.get?_push_size _ rfl
 ·have e:b=(s.heap.push { cls:=.type "range", data:=.fields #[.int lo t,.int hi u,.int 1 v] }).objs.size:=by simpa using hb
  subst e
  exact I1.fpOk (Nat.le_refl _) (I1.hok.fresh (Nat.le_refl _))
noncomputable def bx5(ta:TA):TI:=fun σ H R=>ta σ H fun vs H1=>∃j:Int,vs=[.int j]/\-(2 ^ 62)<=j/\j < 2 ^ 62/\R (Itr 0 j.toNat) H1
noncomputable def bx4(ta:TA):TI:=fun σ H R=>ta σ H fun vs H1=>∃i j:Int,vs=[.int i,.int j]/\(-(2 ^ 62)<=i/\i < 2 ^ 62/\-(2 ^ 62)<=j/\j < 2 ^ 62)/\R (Itr i (j - i).toNat) H1
theorem aA7{a:Expr}{ta:TA}{p pos:Pos}(hg:Gl X "range") (hm:X.mg "range" = none) (ha:PA X [a] ta) (hs:starEach [a] X.env=[(false,eval a X.env)]:=by rfl):PI X tg (.Call (.Name "range" p) [a] [] pos) (bx5 ta):=by
 intro pins s σ H R I h
 refine Call_ (i6 I hg hm boot_range (PyProof.Rows.callWith_type1 (thn (ha pos pins s σ H _ I h) fun us s1 ⟨vs,H1,I1,r1,q1⟩=>?_) hs rfl))
 obtain⟨j,e,q1,q2,q⟩:=q1
 subst e
 cases r1 with
 | cons r rr =>
  cases rr
  obtain⟨t,rfl⟩:=r
  exact call_range_1 (ak7 I1 (by omega) (by omega) q1 q2 (by simpa using q))
theorem aA6{a b:Expr}{ta:TA}{p pos:Pos}(hg:Gl X "range") (hm:X.mg "range" = none) (ha:PA X [a,b] ta) (hs:starEach [a,b] X.env=[(false,eval a X.env),(false,eval b X.env)]:=by rfl) (hs2:starEach [b] X.env=[(false,eval b X.env)]:=by rfl) :
  PI X tg (.Call (.Name "range" p) [a,b] [] pos) (bx4 ta):=by
 intro pins s σ H R I h
 refine Call_ (i6 I hg hm boot_range (PyProof.Rows.callWith_type1 (thn (ha pos pins s σ H _ I h) fun us s1 ⟨vs,H1,I1,r1,q1⟩=>?_) (by rw [hs,hs2]) (by rw [hs2];rfl)))
 obtain⟨i,j,e,⟨q1,q2,q3,q4⟩,q⟩:=q1
 subst e
 cases r1 with
 | cons r rr =>
  cases rr with
  | cons r' rr =>
   cases rr
   obtain⟨t,rfl⟩:=r
   obtain⟨t',rfl⟩:=r'
   exact call_range_2 (ak7 I1 q1 q2 q3 q4 q)
noncomputable def bA2(wi:TI) (g:TG) (tb:TS):TS:=fun D σ H=>wi σ H fun J H1=>∃W:Nat->Nat->St->Hp->Prop,(∃m,W 0 m σ H1)/\∀i m σ H,W i m σ H ->
 (J.stop i H/\D.nx σ H)\/(J.go i H/\∃N:St->Hp->Prop,(∀σ' H',N σ' H'->∃m',m' < m/\W (i+1) m' σ' H')/\∀x H',J.yld i H x H'->g x σ H' fun σ2 H2=>tb { D with nx:=N,ct:=N,bk:=D.nx } σ2 H2)
noncomputable def x9(fp:List Addr) (h:Heap):List (Addr×Obj):=fp.filterMap fun b=>(h.get? b).map fun o=>(b,o)
theorem Q2{fp:List Addr}{h:Heap}{b:Addr}{o:Obj}(hb:b∈fp) (e:h.get? b=some o):(b,o)∈x9 fp h:=List.mem_filterMap.mpr ⟨b,hb,by rw [e];rfl⟩
theorem aB2{fp:List Addr}{h:Heap}{p:Addr×Obj}(hp:p∈x9 fp h):p.1∈fp/\h.get? p.1=some p.2:=by
 obtain⟨b,hb,e⟩:=List.mem_filterMap.mp hp
 cases q:h.get? b with
 | none=>rw [q]at e;cases e
 | some o =>
  rw [q]at e
  have e':(b,o)=p:=Option.some.inj e
  subst e'
  exact⟨hb,q⟩
theorem Inv.pinned{pins:List (Addr×Obj)}{σ:St}{H:Hp}{s:Shared}{fp:List Addr}(I:Inv X pins σ H s) (hf:∀b∈fp,k8 X pins H b) (ho:∀b∈fp,∃o,s.heap.get? b=some o/\∀v,o.data≠.cell v):Inv X (pins++x9 fp s.heap) σ H s :=
 I.pins_of fun p hp=>(List.mem_append.mp hp).elim (fun z=>I.pin p (List.mem_append_right _ z)) fun z=>by
  obtain⟨hb,e⟩:=aB2 z
  obtain⟨f0,f1,f2,_⟩:=hf p.1 hb
  obtain⟨o,e',d⟩:=ho p.1 hb
  rw [e]at e';cases e'
  exact⟨e,f0,f1,f2,d⟩
theorem Inv.unpinned{pins pl:List (Addr×Obj)}{σ:St}{H:Hp}{s:Shared}(I:Inv X (pins++pl) σ H s):Inv X pins σ H s:=I.pins_of fun p hp=>I.pin p (List.mem_append_right _ (List.mem_append_left _ hp))
theorem bh3{iter:Expr}{body:List Stmt}{wi:TI}{g:TG}{tb:TS}{pos:Pos}(hp:PassesOwn (model X.prog X.w) X.A X.env X.xe) (hc:X.calm=true) (hi:PI X tg iter wi) (hg:PG X tg g) (hb:PSs X body tb)
  (hs:∀x,foldedSetIterable iter X.env x=pure x:=by intro _;rfl):PS X (.For tg iter body [] pos) (bA2 wi g tb):=by
 intro pins s σ H D I h
 refine wpAny_For (thn (hi pins s σ H _ I h) fun v s1 h1=>thn h1 fun itv s2 h2=>?_) hs
 obtain⟨it,fp,tn,J,H2,e,I2,T,st2,f2,W,⟨m0,w0⟩,turn⟩:=h2
 subst e
 have stat:∀{H':Hp},(∀b∈fp,H' b=none)->∀b∈fp,k8 X pins H' b:=fun hn b hb=>⟨hn b hb,(f2 b hb).2⟩
 refine codeAny_forLoop_any (fun n s'=>∃i σ' H',Inv X pins σ' H' s'/\tn i s'.heap/\(∀b∈fp,H' b=none)/\W i n σ' H') ?_ m0 ⟨0,σ,H2,I2,st2,fun b hb=>(f2 b hb).1,w0⟩
 rintro n s3 ⟨i,σ3,H3,I3,st3,fr3,w3⟩
 rcases turn i n σ3 H3 w3 with⟨stop,qn⟩|⟨go,N,hN,step⟩
 ·refine wpAny_passesOwn hp (thn (T.done X rfl rfl rfl hc i pins s3 σ3 H3 X.xe I3 (stat fr3) st3 stop) fun r s4 ⟨hr,I4⟩=>?_)
  subst hr
  exact wpAny_execs_nil ⟨σ3,H3,I4,qn⟩
 ·refine wpAny_passesOwn hp (thn (T.item X rfl rfl rfl hc i pins s3 σ3 H3 X.xe I3 (stat fr3) st3 go) fun r s4 ⟨u,hr,h4⟩=>?_)
  subst hr
  refine wpAny_passesOwn hp (thn h4 fun _ s5 ⟨x,H5,I5,r5,y5,st5,fr5⟩=>?_)
  have I5':=I5.pinned (stat fr5) (T.obj _ _ st5)
  refine wpAny_passesOwn hp (thn (hg _ s5 σ3 H5 x u _ I5' r5 (step x H5 y5)) fun _ s6 ⟨σ6,H6,I6,q6⟩=>?_)
  refine wpAny_passesOwn hp (thn (hb _ s6 σ6 H6 _ I6 q6) fun f s7 q7=>?_)
  have again:∀{σ7:St}{H7:Hp},Inv X (pins++x9 fp s5.heap) σ7 H7 s7->N σ7 H7->∃m,m < n/\∃i σ' H',Inv X pins σ' H' s7/\tn i s7.heap/\(∀b∈fp,H' b=none)/\W i m σ' H':=fun{σ7 H7} I7 n7=>by
   obtain⟨m',hm,w7⟩:=hN σ7 H7 n7
   refine⟨m',hm,i+1,σ7,H7,I7.unpinned,T.keep _ _ _ st5 fun b hb o e=>(I7.pin (b,o) (List.mem_append_right _ (List.mem_append_right _ (Q2 hb e)))).1,fun b hb=>?_,w7⟩
   obtain⟨o,e,d⟩:=T.obj _ _ st5 b hb
   exact(I7.pin (b,o) (List.mem_append_right _ (List.mem_append_right _ (Q2 hb e)))).2.1
  cases f with
  | next=>obtain⟨σ7,H7,I7,n7⟩:=q7;exact again I7 n7
  | cont=>obtain⟨σ7,H7,I7,n7⟩:=q7;exact again I7 n7
  | brk=>obtain⟨σ7,H7,I7,q7⟩:=q7;exact⟨σ7,H7,I7.unpinned,q7⟩
  | ret v=>obtain⟨x7,σ7,H7,I7,r7,q7⟩:=q7;exact⟨x7,σ7,H7,I7.unpinned,r7,q7⟩
end
noncomputable abbrev R2:=V->V->Hp->VK->Prop
noncomputable def OpR(X:Cx) (f:Value->Value->Sem Value) (r:R2):Prop :=
 ∀(pins:List (Addr×Obj)) (s:Shared) (σ:St) (H:Hp) (x y:V) (v u:Value) (Q:VK),Inv X pins σ H s->D4 x v->D4 y u->r x y H Q ->
  wpAny (model X.prog X.w) X.A (f v u) (EP X pins σ Q) X.xe s
noncomputable def UnR(X:Cx) (f:Value->Sem Value) (r:V->Hp->VK->Prop):Prop :=
 ∀(pins:List (Addr×Obj)) (s:Shared) (σ:St) (H:Hp) (x:V) (v:Value) (Q:VK),Inv X pins σ H s->D4 x v->r x H Q ->
  wpAny (model X.prog X.w) X.A (f v) (EP X pins σ Q) X.xe s
noncomputable def P3(X:Cx) (f:Value) (r:List V->Hp->VK->Prop):Prop :=
 ∀(pins:List (Addr×Obj)) (s:Shared) (σ:St) (H:Hp) (xs:List V) (us:List Value) (Q:VK),Inv X pins σ H s->C3 xs us->r xs H Q ->
  wpAny (model X.prog X.w) X.A (call f us) (EP X pins σ Q) X.xe s
noncomputable def bB7(X:Cx) (r:V->Hp->(Bool->Hp->Prop)->Prop):Prop :=
 ∀(pins:List (Addr×Obj)) (s:Shared) (σ:St) (H:Hp) (x:V) (v:Value) (Q:Bool->Hp->Prop),Inv X pins σ H s->D4 x v->r x H Q ->
  wpAny (model X.prog X.w) X.A (truthy v) (TP X pins σ Q) X.xe s
noncomputable def tOp(r:R2) (ta tb:TE):TE:=fun σ H Q=>ta σ H fun x H1=>tb σ H1 fun y H2=>r x y H2 Q
noncomputable def tUn(r:V->Hp->VK->Prop) (ta:TE):TE:=fun σ H Q=>ta σ H fun x H1=>r x H1 Q
noncomputable def rI(C:Int->Int->Prop) (g:Int->Int->V):R2:=fun x y H Q=>∃i j,x=.int i/\y=.int j/\C i j/\Q (g i j) H
noncomputable def rI0(g:Int->Int->V):R2:=fun x y H Q=>∃i j,x=.int i/\y=.int j/\Q (g i j) H
noncomputable def rU(g:Int->V):V->Hp->VK->Prop:=fun x H Q=>∃i,x=.int i/\Q (g i) H
section
variable {X:Cx}{a b c:Expr}{ta tb tc:TE}{pos:Pos}
theorem bp5(ha:PE X a ta) (hb:PE X b tb) {pins:List (Addr×Obj)}{s:Shared}{σ:St}{H:Hp}{R:V->V->Hp->Prop}(I:Inv X pins σ H s)
  (h:ta σ H fun x H1=>tb σ H1 fun y H2=>R x y H2) {Q:Value->Shared->Prop}{f:Value->Value->Sem Value}
  (hf:∀v u s2 x y H2,Inv X pins σ H2 s2->D4 x v->D4 y u->R x y H2->wpAny (model X.prog X.w) X.A (f v u) Q X.xe s2) :
  wpAny (model X.prog X.w) X.A (eval a X.env) (fun v s₁=>wpAny (model X.prog X.w) X.A (eval b X.env) (fun u s₂=>wpAny (model X.prog X.w) X.A (f v u) Q X.xe s₂) X.xe s₁) X.xe s:=by
 refine thn (ha pins s σ H _ I h) fun v s1 ⟨x,H1,I1,r1,q1⟩=>?_
 refine thn (hb pins s1 σ H1 _ I1 q1) fun u s2 ⟨y,H2,I2,r2,q2⟩=>?_
 exact hf v u s2 x y H2 I2 r1 r2 q2
theorem bb1{op:Operator}{r:R2}(ho:OpR X (binaryOp op) r) (ha:PE X a ta) (hb:PE X b tb):PE X (.BinOp a op b pos) (tOp r ta tb):=by
 intro pins s σ H Q I h
 exact wpAny_BinOp (bp5 ha hb I h fun v u s2 x y H2 I2 rx ry q=>ho pins s2 σ H2 x y v u Q I2 rx ry q)
theorem bu1{op:UnaryOp}{r:V->Hp->VK->Prop}(ho:UnR X (unaryOp op) r) (ha:PE X a ta):PE X (.UnaryOp op a pos) (tUn r ta):=by
 intro pins s σ H Q I h
 exact UnaryOp_ (thn (ha pins s σ H _ I h) fun v s1 ⟨x,H1,I1,r1,q1⟩=>ho pins s1 σ H1 x v Q I1 r1 q1)
theorem opI{f:Value->Value->Sem Value}{C:Int->Int->Prop}{g:Int->Int->Int}
  (rule:∀(i j:Int) (t u:Tok) (s:Shared) (Q:Value->Shared->Prop) (E:Value->Shared->Prop),C i j->Q (.int (g i j) s.toks) { s with toks:=s.toks+1 }->wpAny (model X.prog X.w) X.A (f (.int i t) (.int j u)) Q E s) :
  OpR X f (rI C fun i j=>.int (g i j)):=by
 intro pins s σ H x y v u Q I rx ry h
 obtain⟨i,j,rfl,rfl,hc,q⟩:=h
 obtain⟨t,rfl⟩:=rx
 obtain⟨t',rfl⟩:=ry
 exact rule i j t t' s _ _ hc ⟨.int (g i j),H,I.tok _,⟨_,rfl⟩,q⟩
theorem bu8{f:Value->Value->Sem Value}{g:Int->Int->Int}
  (rule:∀(i j:Int) (t u:Tok) (s:Shared) (Q:Value->Shared->Prop) (E:Value->Shared->Prop),Q (.int (g i j) s.toks) { s with toks:=s.toks+1 }->wpAny (model X.prog X.w) X.A (f (.int i t) (.int j u)) Q E s) :
  OpR X f (rI0 fun i j=>.int (g i j)):=by
 intro pins s σ H x y v u Q I rx ry h
 obtain⟨i,j,rfl,rfl,q⟩:=h
 obtain⟨t,rfl⟩:=rx
 obtain⟨t',rfl⟩:=ry
 exact rule i j t t' s _ _ ⟨.int (g i j),H,I.tok _,⟨_,rfl⟩,q⟩
theorem aU9{f:Value->Value->Sem Value}{g:Int->Int->Bool}
  (rule:∀(i j:Int) (t u:Tok) (s:Shared) (Q:Value->Shared->Prop) (E:Value->Shared->Prop),Q (.bool (g i j)) s->wpAny (model X.prog X.w) X.A (f (.int i t) (.int j u)) Q E s) :
  OpR X f (rI0 fun i j=>.bl (g i j)):=by
 intro pins s σ H x y v u Q I rx ry h
 obtain⟨i,j,rfl,rfl,q⟩:=h
 obtain⟨t,rfl⟩:=rx
 obtain⟨t',rfl⟩:=ry
 exact rule i j t t' s _ _ ⟨.bl (g i j),H,I,rfl,q⟩
theorem aI5:OpR X (binaryOp .Add) (rI0 fun i j=>.int (i+j)):=bu8 fun _ _ _ _ _ _ _ q=>add_int q
theorem bi5:OpR X (binaryOp .Sub) (rI0 fun i j=>.int (i - j)):=bu8 fun _ _ _ _ _ _ _ q=>sub_int q
theorem bi6:OpR X (binaryOp .Mod) (rI (fun _ j=>0 < j) fun i j=>.int (i % j)):=opI fun i j _ _ _ _ _ hc q=>by
 have h1:(0:Int) < j:=hc
 exact mod_int' (by omega) (by rw [Int.fmod_eq_emod_of_nonneg i (by omega)];exact q)
theorem unI{f:Value->Sem Value}{g:Int->Int}
  (rule:∀(i:Int) (t:Tok) (s:Shared) (Q:Value->Shared->Prop) (E:Value->Shared->Prop),Q (.int (g i) s.toks) { s with toks:=s.toks+1 }->wpAny (model X.prog X.w) X.A (f (.int i t)) Q E s) :
  UnR X f (rU fun i=>.int (g i)):=by
 intro pins s σ H x v Q I rx h
 obtain⟨i,rfl,q⟩:=h
 obtain⟨t,rfl⟩:=rx
 exact rule i t s _ _ ⟨.int (g i),H,I.tok _,⟨_,rfl⟩,q⟩
theorem bd7:UnR X (unaryOp .USub) (rU fun i=>.int (-i)):=unI fun _ _ _ _ _ q=>neg_int q
end
section
variable {X:Cx}{a b c:Expr}{ta tb tc:TE}{pos:Pos}
theorem aO9{pins:List (Addr×Obj)}{σ:St}{H:Hp}{s:Shared}{Q:VK}{k k':Bool}(I:Inv X pins σ H s) (q:Q (.bl k) H) (e:k=k'):EP X pins σ Q (.bool k') s:=by
 subst e
 exact⟨.bl k,H,I,rfl,q⟩
theorem bu4:OpR X (compareOp .Lt) (rI0 fun i j=>.bl (decide (i < j))):=aU9 fun _ _ _ _ _ _ _ q=>lt_int q
theorem bu5:OpR X (compareOp .LtE) (rI0 fun i j=>.bl (decide (i<=j))):=aU9 fun _ _ _ _ _ _ _ q=>le_int q
theorem bu6:OpR X (compareOp .Gt) (rI0 fun i j=>.bl (decide (j < i))):=aU9 fun _ _ _ _ _ _ _ q=>gt_int q
theorem bu7:OpR X (compareOp .GtE) (rI0 fun i j=>.bl (decide (j<=i))):=aU9 fun _ _ _ _ _ _ _ q=>ge_int q
theorem bi7:OpR X (compareOp .Is) (fun x y H Q=>y=.non/\Q (.bl (decide (x=.non))) H):=by
 intro pins s σ H x y v u Q I rx ry h
 obtain⟨rfl,q⟩:=h
 cases ry
 refine is_none_gen (aO9 I q ?_)
 cases x<;>first
  | (cases rx;rfl)
  | (obtain⟨t,rfl⟩:=rx;rfl)
theorem aU6:OpR X (compareOp .IsNot) (fun x y H Q=>y=.non/\Q (.bl (!decide (x=.non))) H):=by
 intro pins s σ H x y v u Q I rx ry h
 obtain⟨rfl,q⟩:=h
 cases ry
 refine isnot_none_gen (aO9 I q ?_)
 cases x<;>first
  | (cases rx;rfl)
  | (obtain⟨t,rfl⟩:=rx;rfl)
theorem aJ5(b:Expr) {op:CmpOp}(h:op≠.In:=by decide) (h2:op≠.NotIn:=by decide):behindInMarks op b=false:=by
 have e1:(op==CmpOp.In)=false:=by cases op<;>first|rfl|exact absurd rfl h
 have e2:(op==CmpOp.NotIn)=false:=by cases op<;>first|rfl|exact absurd rfl h2
 cases b<;>simp [behindInMarks,e1,e2]
theorem aU1{op:CmpOp}{r:R2}(ho:OpR X (compareOp op) r) (ha:PE X a ta) (hb:PE X b tb) (hm:behindInMarks op b=false):PE X (.Compare a [op] [b] pos) (tOp r ta tb):=by
 intro pins s σ H Q I h
 exact wpAny_Compare1 (bp5 ha hb I h fun v u s2 x y H2 I2 rx ry q=>ho pins s2 σ H2 x y v u Q I2 rx ry q) hm
noncomputable def ba1(t:TE):TT:=fun σ H Q=>t σ H fun x H'=>∃k,x=.bl k/\Q k H'
theorem aT1{op:CmpOp}{r:R2}(ho:OpR X (compareOp op) r) (ha:PE X a ta) (hb:PE X b tb) (hm:behindInMarks op b=false):PT X (.Compare a [op] [b] pos) (ba1 (tOp r ta tb)):=by
 intro pins s σ H Q I h
 refine wpAny_isTrue_Compare1 (thn (ha pins s σ H _ I h) fun v s1 ⟨x,H1,I1,r1,q1⟩=>thn (hb pins s1 σ H1 _ I1 q1) fun u s2 ⟨y,H2,I2,r2,q2⟩ =>
  thn (ho pins s2 σ H2 x y v u _ I2 r1 r2 q2) fun c s3 ⟨z,H3,I3,r3,k,e,q3⟩=>?_) hm
 subst e
 cases r3
 exact wpAny_truthy_bool ⟨H3,I3,q3⟩
noncomputable def aF5(r r':R2) (ta tb tc:TE):TE:=fun σ H Q=>ta σ H fun x H1=>tb σ H1 fun y H2=>r x y H2 fun z H3=>∃k,z=.bl k /\
 (if k=true then tc σ H3 fun w' H4=>r' y w' H4 Q else Q (.bl false) H3)
theorem al5{op op':CmpOp}{r r':R2}(ho:OpR X (compareOp op) r) (ho':OpR X (compareOp op') r') (ha:PE X a ta) (hb:PE X b tb) (hc:PE X c tc)
  (hm:lastMarks [op,op'] [b,c]=false:=by with_unfolding_all rfl):PE X (.Compare a [op,op'] [b,c] pos) (aF5 r r' ta tb tc):=by
 intro pins s σ H Q I h
 refine Compare_chain (thn (ha pins s σ H _ I h) fun v s1 ⟨x,H1,I1,r1,q1⟩=>chain_link (thn (hb pins s1 σ H1 _ I1 q1) fun u s2 ⟨y,H2,I2,r2,q2⟩ =>
  thn (ho pins s2 σ H2 x y v u _ I2 r1 r2 q2) fun d s3 ⟨z,H3,I3,r3,k,e,q3⟩=>?_)) hm
 subst e
 cases r3
 refine wpAny_truthy_bool ?_
 cases k with
 | false=>exact ite_ff ⟨.bl false,H3,I3,rfl,q3⟩
 | true=>exact ite_tt (chain_last (thn (hc pins s3 σ H3 _ I3 q3) fun w' s4 ⟨z',H4,I4,r4,q4⟩=>ho' pins s4 σ H4 y z' u w' Q I4 r2 r4 q4))
theorem ak9{op op':CmpOp}{r r':R2}(ho:OpR X (compareOp op) r) (ho':OpR X (compareOp op') r') (ha:PE X a ta) (hb:PE X b tb) (hc:PE X c tc)
  (hm:lastMarks [op,op'] [b,c]=false:=by with_unfolding_all rfl):PT X (.Compare a [op,op'] [b,c] pos) (ba1 (aF5 r r' ta tb tc)):=by
 intro pins s σ H Q I h
 refine isTrue_chain (thn (ha pins s σ H _ I h) fun v s1 ⟨x,H1,I1,r1,q1⟩=>test_link (thn (hb pins s1 σ H1 _ I1 q1) fun u s2 ⟨y,H2,I2,r2,q2⟩ =>
  thn (ho pins s2 σ H2 x y v u _ I2 r1 r2 q2) fun d s3 ⟨z,H3,I3,r3,k,e,q3⟩=>?_)) hm
 subst e
 cases r3
 refine wpAny_truthy_bool ?_
 cases k with
 | false =>
  obtain⟨k',e',q'⟩:=q3
  cases e'
  exact ite_ff ⟨H3,I3,q'⟩
 | true =>
  refine ite_tt (test_last (thn (hc pins s3 σ H3 _ I3 q3) fun w' s4 ⟨z',H4,I4,r4,q4⟩=>thn (ho' pins s4 σ H4 y z' u w' _ I4 r2 r4 q4) fun d' s5 ⟨z2,H5,I5,r5,k2,e2,q5⟩=>?_))
  subst e2
  cases r5
  exact wpAny_truthy_bool ⟨H5,I5,q5⟩
noncomputable def by7(K:PySem.W.Frag) (x:V) (H:Hp) (k:Bool):Prop :=
 match x with
 | .non=>k=false
 | .bl b=>k=b
 | .int i=>k=(i != 0)
 | .str y=>y.length<=sizeLine/\k=((y.length:Int) != 0)
 | .byt y=>y.size<=sizeLine/\k=((y.size:Int) != 0)
 | .ref p=>(∃xs,SqL K H p xs/\k = !xs.isEmpty)\/(∃xs,SqT K H p xs/\k = !xs.isEmpty)\/∃kvs,H p=some (.dK kvs)/\k = !kvs.isEmpty
 | _=>False
theorem ar6{κ:Type}{kvs:List (κ×V)}{vs:List (κ×Value)}(r:KV kvs vs):(!vs.isEmpty) = !kvs.isEmpty:=by
 cases r<;>rfl
theorem z9{xs:List V}{its:List Value}(r:C3 xs its):(!its.toArray.isEmpty) = !xs.isEmpty:=by
 cases r<;>simp
theorem i5:(sizeLine:Nat) < 2 ^ 63:=by rw [sizeLine_eq];decide
theorem be2:bB7 X (fun x H Q=>∃k,by7 X.K x H k/\Q k H):=by
 intro pins s σ H x v Q I rx h
 obtain⟨k,e,q⟩:=h
 have hl:=i5
 have hs:sizeLine=16777216:=sizeLine_eq
 cases x with
 | non =>
  cases rx
  have e':k=false:=e
  subst e'
  exact truthy_none ⟨H,I,q⟩
 | bl b =>
  cases rx
  have e':k=b:=e
  subst e'
  exact wpAny_truthy_bool ⟨H,I,q⟩
 | int i =>
  obtain⟨t,rfl⟩:=rx
  have e':k=(i != 0):=e
  subst e'
  exact PySem.P.truthy_int ⟨H,I,q⟩
 | str y =>
  obtain⟨t,rfl⟩:=rx
  obtain⟨hy,e'⟩:y.length<=sizeLine/\k=((y.length:Int) != 0):=e
  subst e'
  exact PySem.P.truthy_str (by omega) ⟨H,I.tok _,q⟩
 | byt y =>
  obtain⟨t,rfl⟩:=rx
  obtain⟨hy,e'⟩:y.size<=sizeLine/\k=((y.size:Int) != 0):=e
  subst e'
  exact PySem.W.truthy_bytes (by omega) ⟨H,I.tok _,q⟩
 | ref p =>
  cases rx
  have e':(∃xs,SqL X.K H p xs/\k = !xs.isEmpty)\/(∃xs,SqT X.K H p xs/\k = !xs.isEmpty)\/∃kvs,H p=some (.dK kvs)/\k = !kvs.isEmpty:=e
  rcases e' with⟨xs,hx,e'⟩|⟨xs,hx,e'⟩|⟨kvs,hx,e'⟩
  ·subst e'
   obtain⟨its,r,pl,hz⟩:=I.list hx
   have hlen:=r.length
   exact wpAny_truthy_list pl.isList (by simp only [List.size_toArray];omega) ⟨H,I.tok _,by rw [z9 r];exact q⟩
  ·subst e'
   obtain⟨its,r,pl,hz⟩:=I.tuple hx
   have hlen:=r.length
   exact truthy_tuple pl (by simp only [List.size_toArray];omega) ⟨H,I.tok _,by rw [z9 r];exact q⟩
  ·subst e'
   obtain⟨hz,hS,vs,r,m⟩:kvs.length<=sizeLine/\(p==sysModules)=false/\∃vs,KV kvs vs/\s.heap.DictOf (ah6 X.prog X.w) p vs:=I.hok p _ hx
   have hlen:kvs.length=vs.length:=Paired.length r
   exact wpAny_truthy_dict hS m (by omega) ⟨H,I.tok _,by rw [ar6 r];exact q⟩
 | _=>exact(show False from e).elim
theorem aH1(ha:PE X a ta) (he:∀whole,isTrue a X.env whole=(do let v ← whole;standAt a.pos;holding [v] (truthy v))) :
  PT X a (fun σ H Q=>ta σ H fun x H'=>∃k,by7 X.K x H' k/\Q k H'):=by
 intro pins s σ H Q I h
 exact isTrue_plain (thn (ha pins s σ H _ I h) fun v s1 ⟨x,H1,I1,r1,q1⟩=>be2 pins s1 σ H1 x v Q I1 r1 q1) (he _)
theorem aq9:OpR X (binaryOp .Add) (fun x y H Q=>∃i j,x=.str i/\y=.str j/\i.length+j.length<=sizeLine/\Q (.str (i++j)) H):=by
 intro pins s σ H x y v u Q I rx ry h
 obtain⟨i,j,rfl,rfl,hz,q⟩:=h
 obtain⟨t,rfl⟩:=rx
 obtain⟨t',rfl⟩:=ry
 exact add_str (fun t' tk=>⟨.str (i++j),H,I.tok _,⟨_,rfl⟩,q⟩) hz
theorem R3{x:V}{us:List Value}(r:C3 [x] us):∃u,us=[u]/\D4 x u:=by
 cases r with
 | cons r1 r2=>cases r2;exact⟨_,rfl,r1⟩
theorem aF2{x y:V}{us:List Value}(r:C3 [x,y] us):∃u w',us=[u,w']/\D4 x u/\D4 y w':=by
 cases r with
 | cons r1 r2 =>
  cases r2 with
  | cons r3 r4=>cases r4;exact⟨_,_,rfl,r1,r3⟩
theorem ae4:P3 X (.type "int") (fun xs H Q=>(∃i,xs=[.int i]/\Q (.int i) H)\/∃k,xs=[.bl k]/\Q (.int (if k then 1 else 0)) H):=by
 intro pins s σ H xs us Q I r h
 rcases h with⟨i,rfl,q⟩|⟨k,rfl,q⟩
 ·obtain⟨u,rfl,t,rfl⟩:=R3 r
  exact call_int_int ⟨.int i,H,I,⟨_,rfl⟩,q⟩
 ·obtain⟨u,rfl,r1⟩:=R3 r
  cases r1
  exact call_int_bool ⟨.int (if k then 1 else 0),H,I.tok _,⟨_,rfl⟩,q⟩
end
section
variable {prog:Program}{w:World}{A:Around}{E:Value->Shared->Prop}{s:Shared}{K:PySem.W.Frag}{x dx C f:Addr}{mA:Str->Option Value}{name:Str}{v:Value}
end
section
variable {P:Program}{w:World}{H H':Hp}{h h':Heap}{a C dx:Addr}{fs fs':List (Str×V)}
end
section
variable {X:Cx}{pins:List (Addr×Obj)}{σ:St}{H:Hp}{s:Shared}{a C dx:Addr}{fs:List (Str×V)}{f:Str}{v:V}{A:Around}{E:Value->Shared->Prop}
end
section
variable {X:Cx}{o e value:Expr}{f:Str}{pos pos' tpos:Pos}{ta tv:TE}
end
section
variable {X:Cx}{pins:List (Addr×Obj)}{σ:St}{H:Hp}{s:Shared}{A:Around}{E:Value->Shared->Prop}{Q:Value->Shared->Prop}{c:Value}{b:Bool}
end
structure Room (k:Nat) (A:Around):Prop where
 hd:A.handled=none
 dp:A.depth+3*k+5 < recursionLimit
 un:A.units+16*k+200 < cLine
theorem Room.mono{j k:Nat}{A:Around}(r:Room k A) (h:j<=k):Room j A:=⟨r.hd,by have:=r.dp;omega,by have:=r.un;omega⟩
theorem Room.deeper{k:Nat}{A:Around}(r:Room (k+1) A) (env:Env):Room k (A.deeper env) :=
 ⟨r.hd,by have:=r.dp;show A.depth+1+3*k+5 < _;omega,by have:=r.un;show A.units+3+16*k+200 < _;omega⟩
theorem Room.depth{k:Nat}{A:Around}(r:Room k A):A.depth < recursionLimit:=by have:=r.dp;omega
theorem Room.units{k:Nat}{A:Around}(r:Room k A):A.units+64 < cLine:=by have:=r.un;omega
noncomputable def bs0:TA:=fun _ H Q=>Q [] H
noncomputable def bs4(ta:TE) (tr:TA):TA:=fun σ H Q=>ta σ H fun x H1=>tr σ H1 fun xs H2=>Q (x::xs) H2
section
variable {X:Cx}{e:Expr}{es:List Expr}{te:TE}{t:TA}{pos:Pos}
theorem E8:PA X [] bs0:=fun _ _ _ _ H Q I h=>Calls.spliced_nil ⟨[],H,I,.nil,h⟩
theorem C7(ha:PE X e te) (hr:PA X es t) (hs:starEach (e::es) X.env=(false,eval e X.env)::starEach es X.env:=by rfl):PA X (e::es) (bs4 te t):=by
 intro pos pins s σ H Q I h
 rw [hs]
 show wpAny _ _ (spliced ((false,eval e X.env)::backTo pos (starEach es X.env))) _ _ s
 refine Calls.spliced_cons (thn (ha pins s σ H _ I h) fun u s1 ⟨x,H1,I1,r1,q1⟩=>?_)
 exact thn (hr pos pins s1 σ H1 _ I1 q1) fun us s2 ⟨xs,H2,I2,r2,q2⟩=>⟨x::xs,H2,I2,.cons r1 r2,q2⟩
noncomputable def bz4(t:TA):TE:=fun σ H Q=>t σ H fun xs H1=>xs.length<=sizeLine/\∀p,H1 p=none->Q (.ref p) (upd H1 p (.tup xs))
noncomputable def bA0(t:TA):TE:=fun σ H Q=>t σ H fun xs H1=>xs.length<=sizeLine/\∀p,H1 p=none->Q (.ref p) (upd H1 p (.lst xs))
theorem bh7{x1} (h:PA X es t):PE X (.Tuple es x1 pos) (bz4 t):=by
 intro pins s σ H Q I hq
 refine wpAny_Tuple_spliced (thn (h pos pins s σ H _ I hq) fun us s1 ⟨xs,H1,I1,r,z,q⟩=>⟨by rw [← r.length];exact z,?_⟩)
 have hf:H1 s1.heap.objs.size=none:=I1.hok.fresh (Nat.le_refl _)
 refine⟨.ref s1.heap.objs.size,upd H1 s1.heap.objs.size (.tup xs),I1.laid (t':=s1.toks) (fun b u e=>Heap.get?_push_of_some _ e) (Nat.le_refl _) ?_,rfl,q _ hf⟩
 exact⟨z,us,r,⟨_,Heap.get?_push_size _ rfl,rfl,⟨_,rfl⟩,rfl⟩⟩
theorem aH8(h:PA X es t):PE X (.List es pos) (bA0 t):=by
 intro pins s σ H Q I hq
 refine wpAny_List_spliced (thn (h pos pins s σ H _ I hq) fun us s1 ⟨xs,H1,I1,r,z,q⟩=>⟨by rw [← r.length];exact z,?_⟩)
 have hf:H1 s1.heap.objs.size=none:=I1.hok.fresh (Nat.le_refl _)
 refine⟨.ref s1.heap.objs.size,upd H1 s1.heap.objs.size (.lst xs),I1.laid (t':=s1.toks) (fun b u e=>Heap.get?_push_of_some _ e) (Nat.le_refl _) ?_,rfl,q _ hf⟩
 exact⟨z,us,0,r,Heap.get?_push_size _ rfl⟩
end
noncomputable abbrev Sp:=List V->Hp->VK->XK->Prop
noncomputable abbrev CXT:=List Env->Hp->Shared->XK->Value->Shared->Prop
structure Env0 (P:Program) (w:World) (K:PySem.W.Frag) (mg:Str->Option Value) (base:Heap) (A:Around) (outer:List Env) (s:Shared) (H:Hp):Prop where
 frames:A.frames=some outer
 mod:Mod K mg base
 bs:∀b o,base.get? b=some o->s.heap.get? b=some o/\H b=none
 bsz:base.objs.size<=s.heap.objs.size
 funs:s.heap.FunFrames base outer
 frf:∀b∈frs outer,H b=none
 hok:HOk P w H s.heap
 bare:AllBare s.gens
noncomputable def CE(outer:List Env) (P:Program) (w:World) (H:Hp) (s:Shared) (Q:VK) (u:Value) (s':Shared):Prop :=
 ∃v H',s'.os=s.os/\AllBare s'.gens/\Un (frs outer) [] H H' s.heap s'.heap/\HOk P w H' s'.heap/\D4 v u/\Q v H'
noncomputable def CR(CX:CXT) (outer:List Env) (P:Program) (w:World) (H:Hp) (s:Shared) (Q:VK) (E:XK) (r:Result) (s':Shared):Prop :=
 match r with
 | .ok (.ret u)=>CE outer P w H s Q u s'
 | .ok _=>False
 | .error e=>CX outer H s E e s'
structure FnOk (P:Program) (w:World) (K:PySem.W.Frag) (mg:Str->Option Value) (base:Heap) (CX:CXT) (k:Nat) (f:Addr) (fd:FuncData) (ps:List Str) (sp:Sp):Prop where
 len:∀vs H Q E,sp vs H Q E->vs.length=ps.length
 run:∀(A:Around) (outer:List Env) (s:Shared) (H:Hp) (args:Args) (us:List Value) (vs:List V) (Q:VK) (E:XK),Room k A->Env0 P w K mg base A outer s H->BindsTo s fd args (ps.zip us)->C3 vs us->sp vs H Q E ->
  codeAny (model P w) A (.call (.ref f) args) (CR CX outer P w H s Q E) s
theorem FnOk.mono{P:Program}{w:World}{K:PySem.W.Frag}{mg:Str->Option Value}{base:Heap}{CX:CXT}{j k:Nat}{f:Addr}{fd:FuncData}{ps:List Str}{sp:Sp}(F:FnOk P w K mg base CX j f fd ps sp) (h:j<=k) :
  FnOk P w K mg base CX k f fd ps sp:=⟨F.len,fun A outer s H args us vs Q E hr=>F.run A outer s H args us vs Q E (hr.mono h)⟩
section
variable {X:Cx}{pins:List (Addr×Obj)}{σ:St}{H:Hp}{s s':Shared}
theorem Inv.env0(I:Inv X pins σ H s):Env0 X.prog X.w X.K X.mg X.base X.A X.stack s H :=
 ⟨I.ok.frames,I.ok.mod,I.bs,Nat.le_trans I.ok.bsz I.sz,I.stack,I.stkFree,I.hok,I.bare⟩
theorem Inv.after{Q:VK}{u:Value}(I:Inv X pins σ H s) (h:CE X.stack X.prog X.w H s Q u s'):EP X pins σ Q u s':=by
 obtain⟨v,H',os,bare,un,hok,r,q⟩:=h
 obtain⟨hh,g,d,t,os'⟩:=s'
 obtain rfl:os'=s.os:=os
 exact⟨v,H',I.call (h':=hh) (g':=g) (d':=d) (t':=t) (ch:=[]) un hok bare (fun b z=>absurd z (by simp)),r,q⟩
end
noncomputable def ba3(sp:Sp) (dvs:List V) (E:XK) (t:TA):TE:=fun σ H Q=>t σ H fun vs H1=>sp (vs++dvs) H1 Q E
noncomputable def J9(K:PySem.W.Frag) (fd:FuncData) (ps:List Str) (ds:List Value):Prop :=
 ∀(s:Shared) (us:List Value),K.In s.heap->(us++ds).length=ps.length->BindsTo s fd ⟨us,[]⟩ (ps.zip (us++ds))
theorem J9.all{K:PySem.W.Frag}{fd:FuncData}{ps:List Str}(h:∀us:List Value,us.length=ps.length->bindArgs fd ⟨us,[]⟩=pure (ps.zip us)):J9 K fd ps []:=fun s us _ hl=>by
 rw [List.append_nil]at hl ⊢
 exact .of_eq (h us hl)
noncomputable def aj6(CX:CXT) (X:Cx) (E:XK):Prop:=∀(pins:List (Addr×Obj)) (σ:St) (H:Hp) (s:Shared) (e:Value) (s':Shared),Inv X pins σ H s->CX X.stack H s E e s'->X.xe e s'
section
variable {X:Cx}{CX:CXT}{k:Nat}{f C:Addr}{fd:FuncData}{ps:List Str}{sp:Sp}{dvs:List V}{ds:List Value}{E:XK}{x m:Str}{p pos apos:Pos}{e o:Expr}{es:List Expr}{ta:TE}{t:TA}
theorem aq5{pins:List (Addr×Obj)}{σ:St}{H:Hp}{s:Shared}{Q:VK}{us:List Value}{vs:List V}(F:FnOk X.prog X.w X.K X.mg X.base CX k f fd ps sp) (hr:Room k X.A) (hb:J9 X.K fd ps ds) (hd:C3 dvs ds) (hx:aj6 CX X E)
  (I:Inv X pins σ H s) (r:C3 vs us) (h:sp (vs++dvs) H Q E):wpAny (model X.prog X.w) X.A (call (.ref f) us) (EP X pins σ Q) X.xe s:=by
 have r2:C3 (vs++dvs) (us++ds):=r.append hd
 have hl:(us++ds).length=ps.length:=by rw [← r2.length];exact F.len _ _ _ _ h
 refine wpAny_call (codeAny_mono (F.run X.A X.stack s H ⟨us,[]⟩ (us++ds) (vs++dvs) Q E hr I.env0 (hb s us I.kIn hl) r2 h) fun r s' hq=>?_)
 cases r with
 | error e=>exact hx pins σ H s e s' I hq
 | ok fl =>
  cases fl with
  | ret u=>exact I.after hq
  | next=>exact False.elim hq
  | brk=>exact False.elim hq
  | cont=>exact False.elim hq
theorem aU3(F:FnOk X.prog X.w X.K X.mg X.base CX k f fd ps sp) (hr:Room k X.A) (hg:Gl X x) (hm:X.mg x=some (.ref f)) (hk:PySem.W.keepIn X.K (.ref f)=true) (hb:J9 X.K fd ps ds) (hd:C3 dvs ds) (hx:aj6 CX X E)
  (ha:PA X (e::es) t) (hdb:(x==("__debug__" : Str))=false:=by decide) (he:starEach (e::es) X.env=(false,eval e X.env)::starEach es X.env:=by rfl) (hpl:(backTo pos (starEach es X.env)).any (·.1)=false:=by rfl) :
  PE X (.Call (.Name x p) (e::es) [] pos) (ba3 sp dvs E t):=by
 intro pins s σ H Q I h
 refine wpAny_Call_Name_kw (N3 I hg hm ?_ hdb)
 refine PySem.W.callWith_K (h₀:=X.base) I.ok.mod.kin hk (thn (ha pos pins s σ H _ I h) fun us s1 ⟨vs,H1,I1,r,q⟩=>⟨I1.kIn,?_⟩) he hpl
 exact aq5 F hr hb hd hx I1 r q
theorem aI0(F:FnOk X.prog X.w X.K X.mg X.base CX k f fd ps sp) (hr:Room k X.A) (hg:Gl X x) (hm:X.mg x=some (.ref f)) (hk:PySem.W.keepIn X.K (.ref f)=true) (hb:J9 X.K fd ps ds) (hd:C3 dvs ds) (hx:aj6 CX X E)
  (hdb:(x==("__debug__" : Str))=false:=by decide):PE X (.Call (.Name x p) [] [] pos) (ba3 sp dvs E bs0):=by
 intro pins s σ H Q I h
 refine wpAny_Call_Name_kw (N3 I hg hm ?_ hdb)
 exact PySem.W.callWith_K0 I.kIn hk (aq5 (us:=[]) F hr hb hd hx I .nil h)
end
section
variable {X:Cx}{CX:CXT}{k:Nat}{f C:Addr}{fd:FuncData}{ps ks:List Str}{sp:Sp}{E:XK}{x m:Str}{p pos apos kpos:Pos}{e o:Expr}{es:List Expr}{kws:List Keyword}{te ta:TE}{t tk:TA}{nm:Option Str}
variable {g:List Value->List Value->List Value}{gV:List V->List V->List V}
end
structure FnScope (N P:List Str) (sc:Scope):Prop where
 kind:sc.kind=.function
 co:sc.isCoroutine=false
 gen:sc.isGenerator=false
 nd:N.Nodup
 pre:N.take P.length=P
 par:∀x∈P,sc.names.lookup x=some .local\/sc.names.lookup x=some .cell
 nofree:∀y∈sc.names,y.2≠.free
theorem ae5{kindOf:Str->Option NameKind}{x:Str}:∀{binds:List (Str×Value)}{m:Str->Option Value},(∀v,(x,v)∉binds)->bindL kindOf binds m x=m x
 | [],_,_=>rfl
 | (n,v)::r,m,h=>by
  unfold bindL
  rw [ae5 fun w hw=>h w (List.mem_cons_of_mem _ hw)]
  split
  ·have:x≠n:=by rintro rfl;exact h v List.mem_cons_self
   simp [this]
  ·rfl
theorem ae6{kindOf:Str->Option NameKind}{x:Str}:∀{binds:List (Str×Value)}{m:Str->Option Value},(∀v,(x,v)∉binds)->bindC kindOf binds m x=m x
 | [],_,_=>rfl
 | (n,v)::r,m,h=>by
  unfold bindC
  rw [ae6 fun w hw=>h w (List.mem_cons_of_mem _ hw)]
  split
  ·rfl
  ·have:x≠n:=by rintro rfl;exact h v List.mem_cons_self
   simp [this]
theorem j8{kindOf:Str->Option NameKind}{x:Str}{v:Value}:∀{P:List Str}{vs:List Value}{i:Nat}{m:Str->Option Value},P.Nodup->P[i]? = some x->vs[i]? = some v->kindOf x=some .local ->
  bindL kindOf (P.zip vs) m x=some v
 | [],_,_,_,_,h,_,_=>by simp at h
 | _::_,[],_,_,_,_,h,_=>by simp at h
 | p::P,w::vs,0,m,nd,h1,h2,hk=>by
  simp at h1 h2;subst h1;subst h2
  show bindL kindOf ((p,w)::P.zip vs) m p=_
  unfold bindL
  rw [ae5 fun v hv=>(List.nodup_cons.mp nd).1 (List.of_mem_zip hv).1,if_pos hk]
  simp
 | p::P,w::vs,i+1,m,nd,h1,h2,hk=>by
  show bindL kindOf ((p,w)::P.zip vs) m x=_
  unfold bindL
  exact j8 (i:=i) (List.nodup_cons.mp nd).2 (by simpa using h1) (by simpa using h2) hk
theorem j9{kindOf:Str->Option NameKind}{x:Str}{v:Value}:∀{P:List Str}{vs:List Value}{i:Nat}{m:Str->Option Value},P.Nodup->P[i]? = some x->vs[i]? = some v->kindOf x≠some .local ->
  bindC kindOf (P.zip vs) m x=some v
 | [],_,_,_,_,h,_,_=>by simp at h
 | _::_,[],_,_,_,_,h,_=>by simp at h
 | p::P,w::vs,0,m,nd,h1,h2,hk=>by
  simp at h1 h2;subst h1;subst h2
  show bindC kindOf ((p,w)::P.zip vs) m p=_
  unfold bindC
  rw [ae6 fun v hv=>(List.nodup_cons.mp nd).1 (List.of_mem_zip hv).1,if_neg hk]
  simp
 | p::P,w::vs,i+1,m,nd,h1,h2,hk=>by
  show bindC kindOf ((p,w)::P.zip vs) m x=_
  unfold bindC
  exact j9 (i:=i) (List.nodup_cons.mp nd).2 (by simpa using h1) (by simpa using h2) hk
noncomputable def J2(N:List Str) (vs:List V):St:=vs.map some++List.replicate (N.length - vs.length) none
noncomputable def ai9(CX:CXT) (P:Program) (w:World) (K:PySem.W.Frag) (mg:Str->Option Value) (base:Heap) (N:List Str) (qual:Str) (scope:Scope) (f:Addr) (cd:Value) (A:Around) (outer:List Env) (s:Shared) (H:Hp) (E:XK):Cx where
 prog:=P
 w:=w
 K:=K
 mg:=mg
 base:=base
 A:=A.deeper (envOfC qual scope s.heap.objs.size f cd)
 N:=N
 s₀:=s
 H₀:=H
 env:=envOfC qual scope s.heap.objs.size f cd
 outer:=outer
 stack:=envOfC qual scope s.heap.objs.size f cd::outer
 ex:=[]
 calm:=true
 fn:=fun _=>true
 pn:=[]
 xe:=fun e s'=>wpAny (model P w) (A.deeper (envOfC qual scope s.heap.objs.size f cd)) (leaving (envOfC qual scope s.heap.objs.size f cd) e) (fun _ s''=>CX outer H s E e s'') (fun e' s''=>CX outer H s E e' s'') s'
theorem Z7{sc:Scope}{n:Nat}{x:Str}(h:sc.names.lookup x=some .cell):∃c,(cellsFrom n sc.names []).lookup x=some c:=by
 have q:=PySem.W.cellsFrom_some sc.names n [] (.inl h)
 exact Option.isSome_iff_exists.mp q
theorem aC7{CX:CXT}{P:Program}{w:World}{K:PySem.W.Frag}{mg:Str->Option Value}{base:Heap}{N ps:List Str}{qual:Str}{scope:Scope}{f:Addr}{cd:Value}{A:Around}{outer:List Env}{s s1:Shared}{H:Hp}{E:XK}{us:List Value}{vs:List V}
  (S:FnScope N ps scope) (hd:A.handled=none) (e0:Env0 P w K mg base A outer s H) (hl:vs.length=ps.length) (r:C3 vs us)
  (x:InCallC s s.heap.objs.size (bindL (envOfC qual scope s.heap.objs.size f cd).kindOf (ps.zip us) fun _=>none) (cellsFrom (s.heap.objs.size+1) scope.names []) (bindC (envOfC qual scope s.heap.objs.size f cd).kindOf (ps.zip us) fun _=>none) s1) :
  Inv (ai9 CX P w K mg base N qual scope f cd A outer s H E) [] (J2 N vs) H s1:=by
 have hpl:ps.length<=N.length:=by have:=congrArg List.length S.pre;rw [List.length_take]at this;omega
 obtain⟨h1,tk,rfl,hk⟩:=x.done
 have noA:∀b:Addr,b∉(ai9 CX P w K mg base N qual scope f cd A outer s H E).ex:=fun b z=>absurd (show b∈([]:List Addr) from z) (by simp)
 refine⟨⟨e0.mod,S.kind,rfl,rfl,Nat.le_refl _,fun y z c h1 h2=>?_,fun y hy=>?_,fun y c _ h=>?_,fun _=>hd,Around.frames_deeper e0.frames,.inr ⟨rfl,rfl⟩,fun b z=>absurd z (noA b),e0.bs,e0.bsz,fun b _ _=>noA b,fun b z=>absurd z (noA b),e0.funs,e0.frf⟩,
  rfl,e0.bare,Un.kept hk,⟨_,x.toInCall.ns,fun i y v h1 h2 h3=>?_⟩,fun y c h=>⟨_,x.cell y c h⟩,e0.hok.fresh (Nat.le_refl _),fun y c h=>?_,fun p hp=>absurd (show p∈([]:List (Addr×Obj)) from hp) (by simp),e0.hok.kept hk,?_⟩
 ·exact name_of_addr x.apart (PySem.mem_of_lookup h1) (PySem.mem_of_lookup h2)
 ·have hy:scope.names.lookup y=some .cell\/scope.names.lookup y=some .free:=hy
  rcases hy with hy|hy
  ·exact Z7 hy
  ·exact absurd rfl (S.nofree _ (PySem.mem_of_lookup hy))
 ·exact Nat.le_of_lt (x.above y c (PySem.mem_of_lookup h))
 ·have hi:i < vs.length:=by
   unfold J2 at h2
   by_cases hi:i < vs.length
   ·exact hi
   ·rw [List.getElem?_append_right (by simpa using hi)]at h2
    rw [List.getElem?_replicate]at h2
    split at h2<;>cases h2
  have ha:vs[i]? = some v:=by
   unfold J2 at h2
   rw [List.getElem?_append_left (by simpa using hi),List.getElem?_map]at h2
   cases e:vs[i]? with
   | none=>rw [e]at h2;cases h2
   | some a=>rw [e]at h2;cases h2;rfl
  obtain⟨u,hu,rv⟩:=r.get ha
  have hp:ps[i]? = some y:=by
   rw [← S.pre,List.getElem?_take_of_lt (by omega)];exact h1
  have ndP:ps.Nodup:=by rw [← S.pre];exact S.nd.sublist (List.take_sublist _ _)
  refine⟨u,rv,?_⟩
  rcases S.par y (List.mem_of_getElem? hp) with k|k
  ·exact .inl ⟨k,j8 ndP hp hu k⟩
  ·obtain⟨c,e⟩:=Z7 (n:=s.heap.objs.size+1) k
   refine .inr ⟨.inl k,c,e,?_⟩
   have q:=x.cell y c e
   rw [j9 ndP hp hu (by show scope.names.lookup y≠_;rw [k];decide)]at q
   exact q
 ·exact e0.hok.fresh (Nat.le_of_lt (x.above y c (PySem.mem_of_lookup h)))
 ·unfold J2
  show _=N.length
  rw [List.length_append,List.length_map,List.length_replicate]
  omega
theorem aO6{CX:CXT}{P:Program}{w:World}{K:PySem.W.Frag}{mg:Str->Option Value}{base:Heap}{k:Nat}{f:Addr}{name qual:Str}{params:Arguments}{body:List Stmt}{scope:Scope}{dV kV doc pm cdv ct oc:Value}{an od:Option Addr}
  {osl:Array (Option Value)}{N ps:List Str}{sp:Sp}(lk:K.lookup f=some ⟨oc,od,.func (PySem.W.fnOf name qual params body scope dV kV doc pm an cdv ct),osl⟩) (hcd:PySem.W.codeIn K cdv qual=true) (S:FnScope N ps scope)
  (len:∀vs H Q E,sp vs H Q E->vs.length=ps.length)
  (hbody:∀(A:Around) (outer:List Env) (s:Shared) (H:Hp) (vs:List V) (Q:VK) (E:XK),Room k (A.deeper (envOfC qual scope s.heap.objs.size f cdv))->sp vs H Q E ->
   ∃t,PSs (ai9 CX P w K mg base N qual scope f cdv A outer s H E) body t/\t { nx:=fun _ H'=>Q .non H',rt:=Q } (J2 N vs) H) :
  FnOk P w K mg base CX (k+1) f (PySem.W.fnOf name qual params body scope dV kV doc pm an cdv ct) ps sp:=by
 refine⟨len,fun A outer s H args us vs Q E hr e0 hb r hsp=>?_⟩
 have hl:=len _ _ _ _ hsp
 have KX:K.In s.heap:=e0.mod.kin.keeps fun b o e=>(e0.bs b o e).1
 have lim:s.heap.NoLimit:=e0.mod.nolimit.keeps fun b o e=>(e0.bs b o e).1
 have hkind:∀y∈ps.zip us,scope.names.lookup y.1=some .local\/(scope.names.lookup y.1=some .cell/\((cellsFrom (s.heap.objs.size+1) scope.names []).lookup y.1).isSome=true):=fun⟨n,v⟩ hy=>by
  rcases S.par n (List.of_mem_zip hy).1 with q|q
  ·exact .inl q
  ·exact .inr ⟨q,PySem.W.cellsFrom_some _ _ _ (.inl q)⟩
 refine codeAny_call_function hr.depth (KX _ _ lk) rfl S.co S.gen rfl (PySem.W.codeRec_of KX hcd) (hb _ _ _ _ ?_)
 refine wpAny_newFunctionEnv_cells S.kind hkind fun env he s1 x=>?_
 subst he
 refine⟨lim.keeps x.toInCall.keep,codeAny_func ?_⟩
 obtain⟨t,ht,hq⟩:=hbody A outer s H vs Q E (hr.deeper _) hsp
 have I:Inv (ai9 CX P w K mg base N qual scope f cdv A outer s H E) [] (J2 N vs) H s1:=aC7 S hr.hd e0 hl r x
 refine wpAny_mono (ht [] s1 (J2 N vs) H _ I hq) (fun fl s' hs=>?_) fun e s' hs=>hs
 have fin:∀{σ':St}{H':Hp}{v:V}{u:Value},Inv (ai9 CX P w K mg base N qual scope f cdv A outer s H E) [] σ' H' s'->D4 v u->Q v H'->CE outer P w H s Q u s' :=
  fun{σ' H' v u} J rv q=>⟨v,H',J.os,J.bare,J.base,J.hok,rv,q⟩
 cases fl with
 | ret u =>
  obtain⟨v,σ',H',J,rv,q⟩:=hs
  exact fin J rv q
 | next =>
  obtain⟨σ',H',J,q⟩:=hs
  exact fin (v:=V.non) (u:=Value.none) J rfl q
 | brk =>
  obtain⟨_,_,_,q⟩:=hs
  exact False.elim q
 | cont =>
  obtain⟨_,_,_,q⟩:=hs
  exact False.elim q
section
variable {X:Cx}{x:Str}{p pos:Pos}{e:Expr}{es:List Expr}{t:TA}{id T:String}{r:List V->Hp->VK->Prop}
noncomputable def tCB(r:List V->Hp->VK->Prop) (t:TA):TE:=fun σ H Q=>t σ H fun vs H1=>r vs H1 Q
theorem L3(hc:P3 X (.builtin id) r) (hg:Gl X x) (hm:X.mg x=none) (hv:bootBuiltins x=some (.builtin id)) (ha:PA X (e::es) t) (hn:x ≠ "__name__" := by decide) (hdb:(x==("__debug__" : Str))=false:=by decide)
  (he:starEach (e::es) X.env=(false,eval e X.env)::starEach es X.env:=by rfl) (hpl:(backTo pos (starEach es X.env)).any (·.1)=false:=by rfl):PE X (.Call (.Name x p) (e::es) [] pos) (tCB r t):=by
 intro pins s σ H Q I h
 refine wpAny_Call_Name_kw (i6 I hg hm hv ?_ hn hdb)
 exact PyProof.Rows.callWith_builtin1 (thn (ha pos pins s σ H _ I h) fun us s1 ⟨vs,H1,I1,r1,q1⟩=>hc pins s1 σ H1 vs us Q I1 r1 q1) he hpl
theorem T9(hc:P3 X (.type T) r) (hg:Gl X x) (hm:X.mg x=none) (hv:bootBuiltins x=some (.type T)) (ha:PA X (e::es) t) (hn:x ≠ "__name__" := by decide) (hdb:(x==("__debug__" : Str))=false:=by decide)
  (he:starEach (e::es) X.env=(false,eval e X.env)::starEach es X.env:=by rfl) (hpl:(backTo pos (starEach es X.env)).any (·.1)=false:=by rfl):PE X (.Call (.Name x p) (e::es) [] pos) (tCB r t):=by
 intro pins s σ H Q I h
 refine wpAny_Call_Name_kw (i6 I hg hm hv ?_ hn hdb)
 exact PyProof.Rows.callWith_type1 (thn (ha pos pins s σ H _ I h) fun us s1 ⟨vs,H1,I1,r1,q1⟩=>hc pins s1 σ H1 vs us Q I1 r1 q1) he hpl
end
end L2
namespace HT
open PySem PyProof.Rows
section
open PySem.SeqAt
open PySem.AutoSeq1 (wpAny_loadPart')
open PySem.MeetsSeq PySem.MeetsSeq2 PySem.MeetsSeq3
end
section
variable {prog:Program}{w:World}{A:Around}{E:Value->Shared->Prop}{s:Shared}
theorem cat_tup{t b:Addr}{vs ws:List Value}{Q:Value->Shared->Prop}(ht:IsTup s.heap t vs.toArray) (hb:IsTup s.heap b ws.toArray) (hv:vs≠[])
  (h1:ws=[]->Q (.ref t) s) (h2:ws≠[]->Q (.ref s.heap.objs.size) { s with heap:=s.heap.push { cls:=.type "tuple", data:=.seq (vs++ws).toArray } })
  (hsz:vs.length+ws.length<=sizeLine):wpAny (model prog w) A (binaryOp .Add (.ref t) (.ref b)) Q E s:=by
 obtain⟨⟨cls,dd,data,sl⟩,ho,hc,n,hd⟩:=id ht
 obtain⟨⟨cls2,dd2,data2,sl2⟩,ho2,hc2,n2,hd2⟩:=id hb
 simp only at hc hd hc2 hd2
 subst hc hd hc2 hd2
 have e:vs.toArray++ws.toArray=(vs++ws).toArray:=by simp
 by_cases hw:ws=[]
 ·exact concat_meets ⟨_,ho,rfl⟩ ⟨_,ho2,rfl⟩ noFill_tuple_add seq_tuple_add PySem.F.slot_tuple_add PySem.F.entry_tuple_add (PySem.F.args_tuple_add_2 _ _)
   (tuple_addW1 t b vs.toArray ws.toArray n n2 dd dd2 sl sl2 (by simpa using hv) (by simp [hw])) ⟨ho,ho2,h1 hw⟩
 ·refine concat_meets ⟨_,ho,rfl⟩ ⟨_,ho2,rfl⟩ noFill_tuple_add seq_tuple_add PySem.F.slot_tuple_add PySem.F.entry_tuple_add (PySem.F.args_tuple_add_2 _ _)
   (tuple_addW2 t b vs.toArray ws.toArray n n2 dd dd2 sl sl2 (by simpa using hv) (by simpa using hw) (by rw [List.size_toArray,List.size_toArray];exact hsz)) ⟨ho,ho2,?_⟩
  rw [e]
  exact h2 hw
noncomputable def sIx(n d:Nat):Option Int->Nat
 | none=>d
 | some v=>if v < 0 then(v+(n:Int)).toNat else min v.toNat n
theorem sIx_nat(n d k:Nat):sIx n d (some (k:Int))=min k n:=by
 show(if(k:Int) < 0 then((k:Int)+(n:Int)).toNat else min (k:Int).toNat n)=min k n
 rw [if_neg (by omega),Int.toNat_natCast]
theorem bg0(n d:Nat) (hd:d<=n) (o:Option Int):sIx n d o<=n:=by
 cases o with
 | none=>exact hd
 | some v =>
  show(if v < 0 then(v+(n:Int)).toNat else min v.toNat n)<=n
  by_cases hv:v < 0
  ·rw [if_pos hv];omega
  ·rw [if_neg hv];exact Nat.min_le_right _ _
theorem ay5(v:Int) (n d:Nat):(if v < 0 then max (v+(n:Int)) 0 else min v (n:Int))=((sIx n d (some v):Nat):Int):=by
 show(if v < 0 then max (v+(n:Int)) 0 else min v (n:Int))=(((if v < 0 then(v+(n:Int)).toNat else min v.toNat n):Nat):Int)
 by_cases hv:v < 0
 ·simp only [if_pos hv];omega
 ·simp only [if_neg hv];omega
theorem at4(lo hi:Option Int) (n:Nat):Builtin.Slice.sliceAdjust lo hi 1 (n:Int)=(((sIx n 0 lo:Nat):Int),((sIx n n hi:Nat):Int)):=by
 have h1:¬((1:Int) < 0):=by omega
 unfold Builtin.Slice.sliceAdjust
 simp only [h1,if_false]
 refine Prod.ext ?_ ?_
 ·cases lo with
  | none=>rfl
  | some v=>exact ay5 v n 0
 ·cases hi with
  | none=>rfl
  | some v=>exact ay5 v n n
theorem aq8(i j:Nat):Builtin.Slice.slicePlaces (i:Int) (j:Int) 1=j - i:=by
 unfold Builtin.Slice.slicePlaces
 have h1:(1:Int) > 0:=by omega
 simp only [h1,if_true,Int.ediv_one]
 split<;>omega
theorem u8{v:Value}{o:Option Int}{Q:Option Int->Shared->Prop}(p:IsPart v o) (h:Q o s):wpAny (model prog w) A (Builtin.Slice.slicePartIndex v) Q E s:=by
 cases p with
 | none=>exact slicePart_none h
 | int i t=>exact slicePart_int h
theorem sliceApplied_gen{sl:Addr}{vl vu:Value}{lo hi:Option Int}{n:Nat}{Q:Int×Int×Nat->Shared->Prop}(hs:s.heap.IsSliceOf sl vl vu .none) (pl:IsPart vl lo) (pu:IsPart vu hi)
  (h:Q (((sIx n 0 lo:Nat):Int),1,sIx n n hi - sIx n 0 lo) s):wpAny (model prog w) A (Builtin.Slice.sliceApplied (.ref sl) (pure (n:Int))) Q E s:=by
 obtain⟨os,hos,hcs,hds⟩:=id hs
 unfold Builtin.Slice.sliceApplied Builtin.Slice.sliceFields
 refine wpAny_bind (wpAny_bind (wpAny_field hos hds (x:=vl) rfl (wpAny_bind (wpAny_field hos hds (x:=vu) rfl (wpAny_bind (wpAny_field hos hds (x:=.none) rfl (wpAny_pure ?_)))))))
 refine wpAny_bind (slicePart_none ?_)
 show wpAny _ _ (if((1:Int)==0)=true then _ else _) _ _ s
 rw [if_neg (by decide)]
 refine wpAny_bind (u8 pl (wpAny_bind (u8 pu (wpAny_bind (wpAny_pure ?_)))))
 show wpAny _ _ (match Builtin.Slice.sliceAdjust lo hi 1 (n:Int) with|(lo,hi)=>pure (lo,(1:Int),Builtin.Slice.slicePlaces lo hi 1)) _ _ s
 rw [at4 lo hi n]
 show wpAny _ _ (pure (((sIx n 0 lo:Nat):Int),(1:Int),Builtin.Slice.slicePlaces ((sIx n 0 lo:Nat):Int) ((sIx n n hi:Nat):Int) 1)) _ _ s
 rw [aq8]
 exact wpAny_pure h
theorem aH6(xs:Array Value) (i k:Nat):((List.range k).filterMap fun(m:Nat)=>xs[((i:Int)+(m:Int)*1).toNat]?).toArray=((xs.toList.drop i).take k).toArray:=by
 have e:(fun(m:Nat)=>xs[((i:Int)+(m:Int)*1).toNat]?)=fun m=>xs[i+m]?:=by
  funext m
  have:((i:Int)+(m:Int)*1).toNat=i+m:=by omega
  rw [this]
 rw [e]
 have:=pick_run xs i k
 rw [List.filterMap_map]at this
 have e2:((fun x=>xs[x]?) ∘ fun x=>i+x)=fun m=>xs[i+m]?:=rfl
 rw [e2]at this
 rw [this]
theorem getItem_tuple_cut{t sl:Addr}{items:Array Value}{vl vu:Value}{lo hi:Option Int}{Q:Value->Shared->Prop}(ht:IsTup s.heap t items) (hs:s.heap.IsSliceOf sl vl vu .none) (pl:IsPart vl lo) (pu:IsPart vu hi)
  (hw:¬(sIx items.size 0 lo=0/\sIx items.size items.size hi=items.size))
  (h:Q (.ref s.heap.objs.size) { s with heap:=s.heap.push { cls:=.type "tuple", data:=.seq ((items.toList.drop (sIx items.size 0 lo)).take (sIx items.size items.size hi - sIx items.size 0 lo)).toArray } })
  (hsz:items.size<=sizeLine):wpAny (model prog w) A (getItem (.ref t) (.ref sl)) Q E s:=by
 have htake:sizeOk (.seq ((items.toList.drop (sIx items.size 0 lo)).take (sIx items.size items.size hi - sIx items.size 0 lo)).toArray):=by
  show((items.toList.drop (sIx items.size 0 lo)).take (sIx items.size items.size hi - sIx items.size 0 lo)).toArray.size<=sizeLine
  rw [List.size_toArray,List.length_take,List.length_drop,Array.length_toList]
  omega
 have hj:sIx items.size items.size hi<=items.size:=bg0 _ _ (Nat.le_refl _) hi
 obtain⟨os,hos,hcs,hds⟩:=id hs
 have hTs:s.TypeIs (.ref sl) "slice" := ⟨os,hos,hcs⟩
 unfold getItem
 try with_reducible refine wpAny_holding ?_
 first|refine wpAny_bind (wpAny_pure ?_)|skip
 refine wpAny_bind (wpAny_sequenceKey ht.typeIs (by decide) ?_)
 refine wpAny_bind (wpAny_callSpecial?_slot (name:=Str.ofString "__getitem__") ht.typeIs PyProof.Rows.slot_tuple_getitem
  (wpAny_call_entry PyProof.Rows.slot_tuple_getitem ht.typeIs entry_tuple_getitem ?_ (args_tuple_getitem _ _)))
 show wpAny _ _ (Builtin.Tuple.tupleItemsOf (.ref t) >>= _) _ _ s
 refine wpAny_bind (tupleItemsOf_ ht ?_)
 refine wpAny_bind (wpAny_typeOf hTs ?_)
 rw [if_pos (by decide)]
 refine wpAny_bind (sliceApplied_gen hs pl pu ?_)
 have hno:¬((((sIx items.size 0 lo:Nat):Int)==0&&(1:Int)==1&&(sIx items.size items.size hi - sIx items.size 0 lo)==items.size)=true):=by
  intro q
  rw [Bool.and_eq_true,Bool.and_eq_true]at q
  have q1:((sIx items.size 0 lo:Nat):Int)=0:=eq_of_beq q.1.1
  have q2:sIx items.size items.size hi - sIx items.size 0 lo=items.size:=eq_of_beq q.2
  exact hw ⟨by omega,by omega⟩
 show wpAny _ _ (if(((sIx items.size 0 lo:Nat):Int)==0&&(1:Int)==1&&(sIx items.size items.size hi - sIx items.size 0 lo)==items.size)=true then _ else _) _ _ s
 rw [if_neg hno,aH6]
 first
  | exact wpAny_bind (m:=Builtin.Tuple.tupleExact _) (wpAny_newObj_type (wpAny_pure ⟨_,rfl,wpAny_pure h⟩) htake)
  | exact wpAny_bind (m:=Builtin.Tuple.tupleExact _) (wpAny_newObj_type (wpAny_bind (wpAny_pure (wpAny_pure ⟨_,rfl,wpAny_pure h⟩))) htake)
  | exact wpAny_bind (wpAny_bind (m:=Builtin.Tuple.tupleExact _) (wpAny_newObj_type (wpAny_pure (wpAny_pure ⟨_,rfl,wpAny_pure h⟩)) htake))
  | exact wpAny_bind (wpAny_bind (m:=Builtin.Tuple.tupleExact _) (wpAny_newObj_type (wpAny_pure ⟨_,rfl,wpAny_pure h⟩) htake))
end
end HT
namespace L2
open PySem PySem.Spec PyProof.Rows
noncomputable abbrev TO:=St->Hp->(Option Int->Hp->Prop)->Prop
noncomputable def PO(X:Cx) (e:Option Expr) (t:TO):Prop :=
 ∀(pins:List (Addr×Obj)) (s:Shared) (σ:St) (H:Hp) (Q:Option Int->Hp->Prop),Inv X pins σ H s->t σ H Q ->
  wpAny (model X.prog X.w) X.A (evalPart e X.env) (fun u s'=>∃o H',Inv X pins σ H' s'/\IsPart u o/\Q o H') X.xe s
noncomputable def aR9:TO:=fun _ H Q=>Q none H
noncomputable def br8(t:TE):TO:=fun σ H Q=>t σ H fun x H1=>∃i,x=.int i/\Q (some i) H1
section
variable {X:Cx}{e:Expr}{te:TE}{lo hi:Option Expr}{tl th:TO}{pos p2:Pos}
theorem aT6:PO X none aR9:=by
 intro pins s σ H Q I h
 rw [evalPart_none]
 exact wpAny_pure ⟨none,H,I,.none,h⟩
theorem aT5(h:PE X e te):PO X (some e) (br8 te):=by
 intro pins s σ H Q I hw
 rw [evalPart_some]
 refine thn (h pins s σ H _ I hw) fun u s1 ⟨x,H1,I1,r1,q1⟩=>?_
 obtain⟨i,rfl,q⟩:=q1
 obtain⟨t,rfl⟩:=r1
 exact⟨some i,H1,I1,.int i t,q⟩
noncomputable def SlR(X:Cx) (r:V->Option Int->Option Int->Hp->VK->Prop):Prop :=
 ∀(pins:List (Addr×Obj)) (s:Shared) (σ:St) (H:Hp) (x:V) (v vl vu:Value) (lo hi:Option Int) (sl:Addr) (Q:VK),Inv X pins σ H s->D4 x v->s.heap.IsSliceOf sl vl vu .none->IsPart vl lo->IsPart vu hi->r x lo hi H Q ->
  ∃T id,typeLookup (.type T) "__getitem__" = pure (some (.builtin id))/\s.TypeIs v T/\wpAny (model X.prog X.w) X.A (getItem v (.ref sl)) (EP X pins σ Q) X.xe s
theorem SlR.or{r r':V->Option Int->Option Int->Hp->VK->Prop}(h:SlR X r) (h':SlR X r'):SlR X (fun x lo hi H Q=>r x lo hi H Q\/r' x lo hi H Q):=by
 intro pins s σ H x v vl vu lo hi sl Q I rx hs pl pu q
 rcases q with q|q
 ·exact h pins s σ H x v vl vu lo hi sl Q I rx hs pl pu q
 ·exact h' pins s σ H x v vl vu lo hi sl Q I rx hs pl pu q
noncomputable def tSl(r:V->Option Int->Option Int->Hp->VK->Prop) (te:TE) (tl th:TO):TE:=fun σ H Q=>te σ H fun x H1=>tl σ H1 fun l H2=>th σ H2 fun u H3=>r x l u H3 Q
theorem Y1{r:V->Option Int->Option Int->Hp->VK->Prop}(hr:SlR X r) (he:PE X e te) (hl:PO X lo tl) (hu:PO X hi th):PE X (.Subscript e (.Slice lo hi none p2) pos) (tSl r te tl th):=by
 intro pins s σ H Q I h
 refine Subscript_ (thn (he pins s σ H _ I h) fun v s1 ⟨x,H1,I1,r1,q1⟩=>?_)
 refine wpAny_Slice (thn (hl pins s1 σ H1 _ I1 q1) fun vl s2 ⟨l,H2,I2,pl,q2⟩=>thn (hu pins s2 σ H2 _ I2 q2) fun vu s3 ⟨u,H3,I3,pu,q3⟩=>?_)
 rw [evalPart_none]
 refine wpAny_pure ?_
 have I4:Inv X pins σ H3 { s3 with heap:=s3.heap.push { cls:=.type "slice", data:=.fields #[vl,vu,.none] } }:=I3.kept (t':=s3.toks) fun b ob q=>Heap.get?_push_of_some _ q
 obtain⟨T,id,hT,ht,hg⟩:=hr pins { s3 with heap:=s3.heap.push { cls:=.type "slice", data:=.fields #[vl,vu,.none] } } σ H3 x v vl vu l u s3.heap.objs.size Q I4 r1 (Heap.IsSliceOf.new ..) pl pu q3
 show wpAny (model X.prog X.w) X.A (subscriptTail e (.Slice lo hi none p2) v (.ref s3.heap.objs.size)) (EP X pins σ Q) X.xe { s3 with heap:=s3.heap.push { cls:=.type "slice", data:=.fields #[vl,vu,.none] } }
 exact tail_any (ops:=[.ref s3.heap.objs.size,v]) ht hT hg (by with_unfolding_all rfl)
noncomputable def ao1(xs:List V) (lo hi:Option Int):List V:=(xs.drop (HT.sIx xs.length 0 lo)).take (HT.sIx xs.length xs.length hi - HT.sIx xs.length 0 lo)
theorem l9(xs:List V) (lo hi:Option Int):(ao1 xs lo hi).length<=xs.length:=by
 unfold ao1
 rw [List.length_take,List.length_drop]
 omega
noncomputable def bA5(K:PySem.W.Frag):V->Option Int->Option Int->Hp->VK->Prop:=fun x lo hi H Q=>∃a xs,x=.ref a/\SqT K H a xs /\
 ¬(HT.sIx xs.length 0 lo=0/\HT.sIx xs.length xs.length hi=xs.length)/\∀p,H p=none->Q (.ref p) (upd H p (.tup (ao1 xs lo hi)))
theorem bf9:SlR X (bA5 X.K):=by
 intro pins s σ H x v vl vu lo hi sl Q I rx hs pl pu h
 obtain⟨a,xs,rfl,hx,hw,q⟩:=h
 cases rx
 obtain⟨its,r,ht,hz⟩:=I.tuple hx
 have hlen:its.toArray.size=xs.length:=by rw [List.size_toArray];exact r.length.symm
 refine⟨"tuple", _,PyProof.Rows.slot_tuple_getitem.lookup,ht.typeIs,?_⟩
 refine HT.getItem_tuple_cut ht hs pl pu (by rw [hlen];exact hw) ?_ (by rw [hlen];exact hz)
 rw [hlen]
 refine⟨.ref s.heap.objs.size,_,I.laid (t':=s.toks) (o:=.tup (ao1 xs lo hi)) (fun b ob q=>Heap.get?_push_of_some _ q) (Nat.le_refl _) ?_,rfl,q _ (I.hok.fresh (Nat.le_refl _))⟩
 exact⟨Nat.le_trans (l9 xs lo hi) hz,_,(r.drop (HT.sIx xs.length 0 lo)).take (HT.sIx xs.length xs.length hi - HT.sIx xs.length 0 lo),aa8.new _ _⟩
noncomputable def bu0(K:PySem.W.Frag):R2:=fun x y H Q=>∃a b xs ys,x=.ref a/\y=.ref b/\SqT K H a xs/\SqT K H b ys/\xs≠[]/\xs.length+ys.length<=sizeLine /\
 (ys=[]->Q (.ref a) H)/\(ys≠[]->∀p,H p=none->Q (.ref p) (upd H p (.tup (xs++ys))))
theorem C3.nil_iff{xs:List V}{us:List Value}(r:C3 xs us):us=[]↔xs=[]:=by
 cases r with
 | nil=>simp
 | cons _ _=>simp
theorem aU8:OpR X (binaryOp .Add) (bu0 X.K):=by
 intro pins s σ H x y v u Q I rx ry h
 obtain⟨a,b,xs,ys,rfl,rfl,ha,hb,hx,hz,q1,q2⟩:=h
 cases rx
 cases ry
 obtain⟨its,r1,p1,_⟩:=I.tuple ha
 obtain⟨its2,r2,p2,_⟩:=I.tuple hb
 refine HT.cat_tup p1 p2 (fun z=>hx (r1.nil_iff.mp z)) (fun z=>⟨.ref a,H,I,rfl,q1 (r2.nil_iff.mp z)⟩) (fun z=>?_) (by rw [← r1.length,← r2.length];exact hz)
 refine⟨.ref s.heap.objs.size,_,I.laid (t':=s.toks) (o:=.tup (xs++ys)) (fun b ob q=>Heap.get?_push_of_some _ q) (Nat.le_refl _) ?_,rfl,q2 (fun w=>z (r2.nil_iff.mpr w)) _ (I.hok.fresh (Nat.le_refl _))⟩
 exact⟨by rw [List.length_append];exact hz,_,r1.append r2,aa8.new _ _⟩
end
noncomputable def ixN(n:Nat) (i:Int):Option Nat:=if 0<=i then(if i < n then some i.toNat else none) else if -(n:Int)<=i then some (i+n).toNat else none
noncomputable def atI{α:Type}(xs:List α) (i:Int):Option α:=(ixN xs.length i).bind fun j=>xs[j]?
theorem aY2{n:Nat}{i:Int}{j:Nat}(h:ixN n i=some j):seqIndex? i n=some j/\j < n/\-(n:Int)<=i/\i < n:=by
 unfold ixN at h
 by_cases h0:0<=i
 ·rw [if_pos h0]at h
  by_cases h1:i < n
  ·rw [if_pos h1]at h
   have e:i.toNat=j:=Option.some.inj h
   exact⟨by rw [seqIndex_of h0 h1,e],by omega,by omega,h1⟩
  ·rw [if_neg h1]at h;cases h
 ·rw [if_neg h0]at h
  by_cases h1:-(n:Int)<=i
  ·rw [if_pos h1]at h
   have e:(i+n).toNat=j:=Option.some.inj h
   exact⟨by rw [seqIndex_neg (by omega) h1,e],by omega,h1,by omega⟩
  ·rw [if_neg h1]at h;cases h
theorem aj4{α:Type}{xs:List α}{i:Int}{v:α}(h:atI xs i=some v):∃j,seqIndex? i xs.length=some j/\xs[j]? = some v/\j < xs.length/\-(xs.length:Int)<=i/\i < xs.length:=by
 unfold atI at h
 cases e:ixN xs.length i with
 | none=>rw [e]at h;cases h
 | some j =>
  rw [e]at h
  obtain⟨h1,h2,h3,h4⟩:=aY2 e
  exact⟨j,h1,h,h2,h3,h4⟩
theorem aZ7{α:Type}{xs:List α}{j:Nat}{v:α}(h:xs[j]? = some v):atI xs (j:Int)=some v:=by
 have hj:j < xs.length:=(List.getElem?_eq_some_iff.mp h).1
 have e:ixN xs.length (j:Int)=some j:=by
  unfold ixN
  rw [if_pos (by omega),if_pos (by omega)];simp
 unfold atI;rw [e];exact h
noncomputable def Q5(b:Expr):Prop:=∀o i,subscripted b false o i=operate [o,i] (getItem o i)
noncomputable def IxR(X:Cx) (r:R2):Prop :=
 ∀(value slice:Expr) (pins:List (Addr×Obj)) (s:Shared) (σ:St) (H:Hp) (x y:V) (v u:Value) (Q:VK),Inv X pins σ H s->D4 x v->D4 y u->r x y H Q ->
  subscripted slice false v u=operate [v,u] (getItem v u)->wpAny (model X.prog X.w) X.A (subscriptTail value slice v u) (EP X pins σ Q) X.xe s
noncomputable def MtR(X:Cx) (id:String) (r:V->List V->Hp->VK->Prop):Prop :=
 ∀(pins:List (Addr×Obj)) (s:Shared) (σ:St) (H:Hp) (x:V) (xs:List V) (v:Value) (us:List Value) (Q:VK),Inv X pins σ H s->D4 x v->C3 xs us->r x xs H Q ->
  wpAny (model X.prog X.w) X.A (call (.builtin id) (v::us)) (EP X pins σ Q) X.xe s
section
variable {X:Cx}{a b:Expr}{ta tb:TE}{pos:Pos}
theorem IxR.or{r r':R2}(h:IxR X r) (h':IxR X r'):IxR X (fun x y H Q=>r x y H Q\/r' x y H Q):=by
 intro value slice pins s σ H x y v u Q I rx ry q hs
 rcases q with q|q
 ·exact h value slice pins s σ H x y v u Q I rx ry q hs
 ·exact h' value slice pins s σ H x y v u Q I rx ry q hs
theorem aH9{r:R2}(hr:IxR X r) (ha:PE X a ta) (hb:PE X b tb) (hs:Q5 b):PE X (.Subscript a b pos) (tOp r ta tb):=by
 intro pins s σ H Q I h
 exact Subscript_ (bp5 ha hb I h fun v u s2 x y H2 I2 rx ry q=>hr a b pins s2 σ H2 x y v u Q I2 rx ry q (hs _ _))
noncomputable def bt9(K:PySem.W.Frag):R2:=fun x y H Q=>∃p xs i v,x=.ref p/\y=.int i/\SqL K H p xs/\atI xs i=some v/\Q v H
noncomputable def bt7(K:PySem.W.Frag):R2:=fun x y H Q=>∃p xs i v,x=.ref p/\y=.int i/\SqT K H p xs/\atI xs i=some v/\Q v H
noncomputable def bt8:R2:=fun x y H Q=>∃z i c,x=.str z/\y=.int i/\z.length<=sizeLine/\atI z.cps.toList i=some c/\Q (.str ⟨#[c]⟩) H
theorem ax4:IxR X (bt9 X.K):=by
 intro value slice pins s σ H x y v u Q I rx ry h hs
 obtain⟨p,xs,i,z,rfl,rfl,hq,he,q⟩:=h
 cases rx
 obtain⟨t,rfl⟩:=ry
 obtain⟨its,r,pl,hz⟩:=I.list hq
 obtain⟨j,h1,h2,h3,h4,h5⟩:=aj4 he
 obtain⟨w,ew,rw'⟩:=r.get h2
 have hl:=r.length
 have hn:=i5
 have fin:EP X pins σ Q w s:=⟨z,H,I,rw',q⟩
 by_cases h0:0<=i
 ·have hj:i.toNat=j:=by
   rw [seqIndex_of h0 h5]at h1
   exact Option.some.inj h1
  exact item_listR pl.isList h0 (by omega) (by rw [hj];simpa using ew) fin hs
 ·have hj:(i+(its.toArray.size:Int)).toNat=j:=by
   rw [seqIndex_neg (by omega) h4]at h1
   rw [List.size_toArray,← hl]
   exact Option.some.inj h1
  exact subscriptTail_builtinR (x:=w) pl.isList.typeIs slot_list_getitem.lookup
   (wpAny_getItem_list_neg (Q:=fun r s'=>r=w/\EP X pins σ Q r s') pl.isList (by omega) (by rw [List.size_toArray]<;>omega) (by omega) (by rw [hj];simpa using ew) ⟨rfl,fin⟩) hs
theorem bn8:IxR X (bt7 X.K):=by
 intro value slice pins s σ H x y v u Q I rx ry h hs
 obtain⟨p,xs,i,z,rfl,rfl,hq,he,q⟩:=h
 cases rx
 obtain⟨t,rfl⟩:=ry
 obtain⟨its,r,pl,hz⟩:=I.tuple hq
 obtain⟨j,h1,h2,h3,h4,h5⟩:=aj4 he
 obtain⟨w,ew,rw'⟩:=r.get h2
 have hl:=r.length
 have hn:=i5
 have fin:EP X pins σ Q w s:=⟨z,H,I,rw',q⟩
 exact subscriptTail_builtinR (x:=w) pl.typeIs slot_tuple_getitem.lookup
  (getItem_tuple (j:=j) (Q:=fun r s'=>r=w/\EP X pins σ Q r s') pl (by omega) (by omega) (by rw [List.size_toArray,← hl];exact h1) (by simpa using ew) ⟨rfl,fin⟩) hs
theorem bn9:IxR X bt8:=by
 intro value slice pins s σ H x y v u Q I rx ry h hs
 obtain⟨z,i,c,rfl,rfl,hz,he,q⟩:=h
 obtain⟨t,rfl⟩:=rx
 obtain⟨t',rfl⟩:=ry
 obtain⟨j,h1,h2,h3,h4,h5⟩:=aj4 he
 have hl:z.cps.toList.length=z.length:=by simp [Str.length]
 rw [hl]at h1 h4 h5
 have hn:=i5
 exact tail_any (typeIs_str s z t) slot_str_getitem.lookup (getItem_str (c:=c) (by
  have e1:decide (i < -(2 ^ 63:Int))=false:=decide_eq_false (by omega)
  have e2:decide (i ≥ 2 ^ 63)=false:=decide_eq_false (by omega)
  rw [e1,e2,Bool.or_false]) (by rw [h1];simpa using h2) ⟨.str ⟨#[c]⟩,H,I.tok _,⟨_,rfl⟩,q⟩) hs
noncomputable def rIx(K:PySem.W.Frag):R2:=fun x y H Q=>bt9 K x y H Q\/bt7 K x y H Q\/bt8 x y H Q
theorem aN3:IxR X (rIx X.K):=ax4.or (bn8.or bn9)
theorem X2(lo hi:Option Int) (n:Nat):(sliceBounds lo hi none n).1=((HT.sIx n 0 lo:Nat):Int)/\(sliceBounds lo hi none n).2.1=((HT.sIx n n hi:Nat):Int)/\(sliceBounds lo hi none n).2.2=1:=by
 refine⟨?_,?_,rfl⟩
 ·cases lo with
  | none=>simp [sliceBounds,HT.sIx]
  | some i =>
   simp only [sliceBounds,HT.sIx,Option.getD_none,show(1:Int) > 0 by decide,if_true]
   by_cases h:i < 0
   ·simp only [h,if_true]<;>omega
   ·simp only [h,if_false]<;>omega
 ·cases hi with
  | none=>simp [sliceBounds,HT.sIx]
  | some i =>
   simp only [sliceBounds,HT.sIx,Option.getD_none,show(1:Int) > 0 by decide,if_true]
   by_cases h:i < 0
   ·simp only [h,if_true]<;>omega
   ·simp only [h,if_false]<;>omega
theorem ab3(its:List Value) (lo hi:Option Int):slicePick its.toArray lo hi none=((its.drop (HT.sIx its.length 0 lo)).take (HT.sIx its.length its.length hi - HT.sIx its.length 0 lo)).toArray:=by
 obtain⟨h1,h2,h3⟩:=X2 lo hi its.toArray.size
 unfold slicePick
 rw [h1,h2,h3]
 simp only [sliceRange_one,pick_run,List.size_toArray]<;>rfl
noncomputable def bA6(K:PySem.W.Frag):V->Option Int->Option Int->Hp->VK->Prop:=fun x lo hi H Q=>∃a xs,x=.ref a/\SqL K H a xs/\∀p,H p=none->Q (.ref p) (upd H p (.lst (ao1 xs lo hi)))
theorem au0:SlR X (bA6 X.K):=by
 intro pins s σ H x v vl vu lo hi sl Q I rx hs pl pu h
 obtain⟨a,xs,rfl,hx,q⟩:=h
 cases rx
 obtain⟨its,r,ht,hz⟩:=I.list hx
 have hlen:=r.length
 refine⟨"list", _,slot_list_getitem.lookup,ht.isList.typeIs,?_⟩
 refine wpAny_getItem_list_slice ht.isList hs pl pu .none (by simp) ?_ (by rw [List.size_toArray]<;>omega)
 rw [ab3,← hlen]
 refine⟨.ref s.heap.objs.size,_,I.laid (t':=s.toks) (o:=.lst (ao1 xs lo hi)) (fun b ob q=>Heap.get?_push_of_some _ q) (Nat.le_refl _) ?_,rfl,q _ (I.hok.fresh (Nat.le_refl _))⟩
 exact⟨Nat.le_trans (l9 xs lo hi) hz,_,0,(r.drop (HT.sIx xs.length 0 lo)).take (HT.sIx xs.length xs.length hi - HT.sIx xs.length 0 lo),Heap.get?_push_size _ rfl⟩
noncomputable def V1:V->Bool
 | .non=>true
 | .bl _=>true
 | .int _=>true
 | .str _=>true
 | _=>false
noncomputable def eqV:V->V->Bool
 | .non,.non=>true
 | .bl a,.bl b=>a==b
 | .bl a,.int b=>(if a then 1 else 0)==b
 | .int a,.bl b=>a==(if b then 1 else 0)
 | .int a,.int b=>a==b
 | .str a,.str b=>a==b
 | _,_=>false
theorem bp3{A:Around}{s:Shared}{y x:V}{u v:Value}(ry:D4 y u) (rx:D4 x v) (fy:V1 y=true) (fx:V1 x=true):SeqAt.EqAt A s u v (eqV y x):=by
 cases y with
 | non =>
  cases ry
  cases x with
  | non=>cases rx;exact SeqAt.EqAt.same _
  | bl b=>cases rx;exact SeqAt.EqAt.none_bool b
  | int b=>obtain⟨t,rfl⟩:=rx;exact SeqAt.EqAt.none_int b t
  | str b=>obtain⟨t,rfl⟩:=rx;exact SeqAt.EqAt.none_str b t
  | _=>exact absurd (show false=true from fx) Bool.false_ne_true
 | bl a =>
  cases ry
  cases x with
  | non=>cases rx;exact SeqAt.EqAt.bool_none a
  | bl b=>cases rx;exact SeqAt.EqAt.bool_bool a b
  | int b=>obtain⟨t,rfl⟩:=rx;exact SeqAt.EqAt.bool_int a b t
  | str b=>obtain⟨t,rfl⟩:=rx;exact SeqAt.EqAt.bool_str a b t
  | _=>exact absurd (show false=true from fx) Bool.false_ne_true
 | int a =>
  obtain⟨t',rfl⟩:=ry
  cases x with
  | non=>cases rx;exact SeqAt.EqAt.int_none a t'
  | bl b=>cases rx;exact SeqAt.EqAt.int_bool a t' b
  | int b=>obtain⟨t,rfl⟩:=rx;exact SeqAt.EqAt.int_int a t' b t
  | str b=>obtain⟨t,rfl⟩:=rx;exact SeqAt.EqAt.int_str a t' b t
  | _=>exact absurd (show false=true from fx) Bool.false_ne_true
 | str a =>
  obtain⟨t',rfl⟩:=ry
  cases x with
  | non=>cases rx;exact SeqAt.EqAt.str_none a t'
  | bl b=>cases rx;exact SeqAt.EqAt.str_bool a t' b
  | int b=>obtain⟨t,rfl⟩:=rx;exact SeqAt.EqAt.str_int a t' b t
  | str b=>obtain⟨t,rfl⟩:=rx;exact SeqAt.EqAt.str_str a t' b t
  | _=>exact absurd (show false=true from fx) Bool.false_ne_true
 | _=>exact absurd (show false=true from fy) Bool.false_ne_true
noncomputable def eqU(x:V) (u:Value):Bool:=match u with
 | .none=>eqV .non x
 | .bool b=>eqV (.bl b) x
 | .int i _=>eqV (.int i) x
 | .str z _=>eqV (.str z) x
 | _=>false
theorem aP2{x y:V}{u:Value}(r:D4 y u) (f:V1 y=true):eqU x u=eqV y x:=by
 cases y with
 | non=>cases r;rfl
 | bl b=>cases r;rfl
 | int i=>obtain⟨t,rfl⟩:=r;rfl
 | str z=>obtain⟨t,rfl⟩:=r;rfl
 | _=>exact absurd (show false=true from f) Bool.false_ne_true
theorem d8{x:V}:∀{xs:List V}{us:List Value},C3 xs us->xs.all V1=true->us.any (eqU x)=xs.any fun y=>eqV y x
 | _,_,.nil,_=>rfl
 | y::xs,u::us,.cons r t,f=>by
  rw [List.all_cons,Bool.and_eq_true]at f
  rw [List.any_cons,List.any_cons,aP2 r f.1,d8 t f.2]
theorem S1{A:Around}{s:Shared}{x:V}{v:Value}(rx:D4 x v) (fx:V1 x=true):∀{xs:List V}{us:List Value},C3 xs us->xs.all V1=true->∀u∈us,SeqAt.EqAt A s u v (eqU x u)
 | _,_,.nil,_=>fun u hu=>by cases hu
 | y::xs,u::us,.cons r t,f=>fun u' hu=>by
  rw [List.all_cons,Bool.and_eq_true]at f
  rcases List.mem_cons.mp hu with rfl|hu
  ·rw [aP2 r f.1];exact bp3 r rx f.1 fx
  ·exact S1 rx fx t f.2 u' hu
noncomputable def inV(x:V) (xs:List V):Bool:=xs.any fun y=>eqV y x
noncomputable def rIn(K:PySem.W.Frag) (neg:Bool):R2:=fun x y H Q=>∃p xs,y=.ref p/\(SqL K H p xs\/SqT K H p xs)/\V1 x=true/\xs.all V1=true/\Q (.bl (if neg then !inV x xs else inV x xs)) H
theorem aA9:OpR X (compareOp .In) (rIn X.K false):=by
 intro pins s σ H x y v u Q I rx ry h
 obtain⟨p,xs,rfl,hq,fx,fs,q⟩:=h
 cases ry
 rcases hq with hq|hq
 ·obtain⟨its,r,pl,hz⟩:=I.list hq
  refine SeqAt.in_listAt (eqU x) pl.isList (fun w hw=>S1 rx fx r fs w (by simpa using hw)) ⟨.bl _,H,I,rfl,?_⟩
  rw [show its.toArray.any (eqU x)=its.any (eqU x) by simp,d8 r fs]
  exact q
 ·obtain⟨its,r,pl,hz⟩:=I.tuple hq
  refine SeqAt.in_tupleAt (eqU x) pl (fun w hw=>S1 rx fx r fs w (by simpa using hw)) ⟨.bl _,H,I,rfl,?_⟩
  rw [show its.toArray.any (eqU x)=its.any (eqU x) by simp,d8 r fs]
  exact q
theorem ah1:OpR X (compareOp .NotIn) (rIn X.K true):=by
 intro pins s σ H x y v u Q I rx ry h
 obtain⟨p,xs,rfl,hq,fx,fs,q⟩:=h
 cases ry
 rcases hq with hq|hq
 ·obtain⟨its,r,pl,hz⟩:=I.list hq
  refine SeqAt.notIn_listAt (eqU x) pl.isList (fun w hw=>S1 rx fx r fs w (by simpa using hw)) ⟨.bl _,H,I,rfl,?_⟩
  rw [show its.toArray.any (eqU x)=its.any (eqU x) by simp,d8 r fs]
  exact q
 ·obtain⟨its,r,pl,hz⟩:=I.tuple hq
  refine SeqAt.notIn_tupleAt (eqU x) pl (fun w hw=>S1 rx fx r fs w (by simpa using hw)) ⟨.bl _,H,I,rfl,?_⟩
  rw [show its.toArray.any (eqU x)=its.any (eqU x) by simp,d8 r fs]
  exact q
theorem aj2:P3 X (.builtin "len") (fun xs H Q=>∃p ys,xs=[.ref p]/\(SqL X.K H p ys\/SqT X.K H p ys)/\Q (.int ys.length) H):=by
 intro pins s σ H xs us Q I r h
 obtain⟨p,ys,rfl,hq,q⟩:=h
 obtain⟨u,rfl,rx⟩:=R3 r
 cases rx
 have hn:=i5
 rcases hq with hq|hq
 ·obtain⟨its,r',pl,hz⟩:=I.list hq
  have hlen:=r'.length
  exact Calls.call_len_list pl.isList (by simp only [List.size_toArray]<;>omega) ⟨.int ys.length,H,I.tok _,⟨s.toks+1,by rw [List.size_toArray,hlen]⟩,q⟩
 ·obtain⟨its,r',pl,hz⟩:=I.tuple hq
  have hlen:=r'.length
  exact len_tuple pl (by simp only [List.size_toArray]<;>omega) ⟨.int ys.length,H,I.tok _,⟨s.toks+1,by rw [List.size_toArray,hlen]⟩,q⟩
theorem aj1:P3 X (.type "list") (fun xs H Q=>∃p ys,xs=[.ref p]/\(SqL X.K H p ys\/SqT X.K H p ys)/\∀l,H l=none->Q (.ref l) (upd H l (.lst ys))):=by
 intro pins s σ H xs us Q I r h
 obtain⟨p,ys,rfl,hq,q⟩:=h
 obtain⟨u,rfl,rx⟩:=R3 r
 cases rx
 have fin:∀(its:List Value),C3 ys its->ys.length<=sizeLine->∀(h':Heap) (c':Nat),(∀b o',s.heap.get? b=some o'->h'.get? b=some o') ->
   h'.get? s.heap.objs.size=some { cls:=.type "list", dict:=none,data:=.seq its.toArray c',slots:=#[] }->EP X pins σ Q (.ref s.heap.objs.size) { s with heap:=h' }:=fun its r' hz h' c' kp e =>
  ⟨.ref s.heap.objs.size,_,I.laid (t':=s.toks) kp (Nat.le_refl _) (show K6 X.prog X.w _ h' _ (.lst ys) from⟨hz,its,c',r',e⟩),rfl,q _ (I.hok.fresh (Nat.le_refl _))⟩
 rcases hq with hq|hq
 ·obtain⟨its,r',pl,hz⟩:=I.list hq
  have hlen:=r'.length
  obtain⟨o,ho,hc,n,hd⟩:=pl.isList
  exact call_list_seq p (.inl rfl) ho hc hd (fun h' c' kp e=>fin its r' hz h' c' kp e) (by simp only [List.size_toArray]<;>omega)
 ·obtain⟨its,r',pl,hz⟩:=I.tuple hq
  have hlen:=r'.length
  obtain⟨o,ho,hc,n,hd⟩:=pl
  exact call_list_seq p (.inr rfl) ho hc hd (fun h' c' kp e=>fin its r' hz h' c' kp e) (by simp only [List.size_toArray]<;>omega)
theorem ab9:P3 X (.type "tuple") (fun xs H Q=>∃p ys,xs=[.ref p]/\((SqL X.K H p ys/\∀l,H l=none->Q (.ref l) (upd H l (.tup ys)))\/(SqT X.K H p ys/\Q (.ref p) H))):=by
 intro pins s σ H xs us Q I r h
 obtain⟨p,ys,rfl,h⟩:=h
 obtain⟨u,rfl,rx⟩:=R3 r
 cases rx
 rcases h with⟨hq,q⟩|⟨hq,q⟩
 ·obtain⟨its,r',pl,hz⟩:=I.list hq
  have hlen:=r'.length
  refine call_tuple_list pl.isList (fun h' kp=>?_) (by simp only [List.size_toArray]<;>omega)
  have I1:Inv X pins σ H { s with heap:=h' }:=I.kept (t':=s.toks) kp
  have I2:Inv X pins σ (upd H h'.objs.size (.tup ys)) { s with heap:=h'.push { cls:=.type "tuple", data:=.seq its.toArray } } :=
   I1.laid (t':=s.toks) (fun b o e=>Heap.get?_push_of_some _ e) (Nat.le_refl _) (show K6 X.prog X.w _ _ _ (.tup ys) from⟨hz,its,r',aa8.new _ _⟩)
  exact⟨.ref h'.objs.size,_,I2,rfl,q _ (I1.hok.fresh (Nat.le_refl _))⟩
 ·obtain⟨its,r',pl,hz⟩:=I.tuple hq
  exact call_tuple_same pl ⟨.ref p,H,I,rfl,q⟩
noncomputable def tyV(K:PySem.W.Frag) (T:String) (x:V) (H:Hp):Prop:=match x with
 | .str _=>T = "str"
 | .int _=>T = "int"
 | .ref p=>(T = "list" /\ ∃xs,SqL K H p xs)\/(T = "tuple" /\ ∃o,K.lookup p=some o/\o.cls=.type "tuple" /\ o.dict=none) \/
   (T = "dict" /\ ((∃kvs,H p=some (.dK kvs))\/∃kvs,H p=some (.dT kvs)))\/(T = "set" /\ ∃S n,H p=some (.set S n))
 | _=>False
theorem bd8{pins:List (Addr×Obj)}{σ:St}{H:Hp}{s:Shared}{T:String}{x:V}{v:Value}(I:Inv X pins σ H s) (r:D4 x v) (ty:tyV X.K T x H) :
  s.TypeIs v T/\∀a,v=.ref a->∃ob,s.heap.get? a=some ob/\ob.dict=none:=by
 cases x with
 | str z =>
  obtain⟨t,rfl⟩:=r
  cases(show T = "str" from ty)
  exact⟨typeIs_str s z t,fun _ e=>nomatch e⟩
 | int i =>
  obtain⟨t,rfl⟩:=r
  cases(show T = "int" from ty)
  exact⟨typeIs_int s i t,fun _ e=>nomatch e⟩
 | ref p =>
  cases r
  rcases ty with⟨rfl,xs,hq⟩|⟨rfl,o,hk,hc,hd⟩|⟨rfl,hk⟩|⟨rfl,S,n,hk⟩
  ·obtain⟨its,_,pl,_⟩:=I.list hq
   refine⟨pl.isList.typeIs,fun a e=>?_⟩
   cases e
   obtain⟨o,n,e,c,hd,_⟩:=pl
   exact⟨o,e,hd⟩
  ·refine⟨⟨o,I.kIn p o hk,hc⟩,fun a e=>?_⟩
   cases e
   exact⟨o,I.kIn _ o hk,hd⟩
  ·have z:∃o,s.heap.get? p=some o/\o.ExactDict:=by
    rcases hk with⟨kvs,hk⟩|⟨kvs,hk⟩
    ·obtain⟨_,_,_,_,o,_,_,e,ex,_⟩:=I.hok p _ hk
     exact⟨o,e,ex⟩
    ·obtain⟨_,_,_,_,o,_,_,e,ex,_⟩:=I.hok p _ hk
     exact⟨o,e,ex⟩
   obtain⟨o,e,ex⟩:=z
   refine⟨⟨o,e,ex.1⟩,fun a e2=>?_⟩
   cases e2
   exact⟨o,e,ex.2.1⟩
  ·obtain⟨o,_,_,_,e,ex,_⟩:=I.hok p _ hk
   refine⟨⟨o,e,ex.1⟩,fun a e2=>?_⟩
   cases e2
   exact⟨o,e,ex.2.1⟩
 | _=>exact False.elim ty
noncomputable def tBM(K:PySem.W.Frag) (T:String) (r:V->List V->Hp->VK->Prop) (to:TE) (t:TA):TE:=fun σ H Q=>to σ H fun x H1=>tyV K T x H1/\t σ H1 fun xs H2=>r x xs H2 Q
variable {o e:Expr}{es:List Expr}{to:TE}{t:TA}{name:Str}{apos cpos:Pos}{T id:String}{r:V->List V->Hp->VK->Prop}
theorem av7(pa:PlainAttrs T) (slot:Slot T name id) (hty:typeOf (.builtin id)=pure (.type "method_descriptor")) (hm:MtR X id r) (ho:PE X o to) (ha:PA X (e::es) t)
  (hbase:attributeBase o name X.env (eval o X.env)=eval o X.env:=by rfl)
  (hfew:((backTo cpos (starEach (e::es) X.env)).all (fun x=>!x.1)&&(backToKw cpos (keywordEach [] X.env)).all (fun x=>x.1.isSome)
   && decide ((e::es).length+([]:List Keyword).length+(if([]:List Keyword).isEmpty then 0 else 1) < 30))=true:=by rfl)
  (hline:(apos.endLine==cpos.line)=true:=by rfl) (hs:starEach (e::es) X.env=(false,eval e X.env)::starEach es X.env:=by rfl) (hplain:(backTo cpos (starEach es X.env)).any (·.1)=false:=by rfl) :
  PE X (.Call (.Attribute o name apos) (e::es) [] cpos) (tBM X.K T r to t):=by
 intro pins s σ H Q I h
 refine wpAny_Call_method_late hbase hfew hline rfl (thn (ho pins s σ H _ I h) fun v s1 ⟨x,H1,I1,r1,ty,q1⟩=>?_)
 obtain⟨h1,h2⟩:=bd8 I1 r1 ty
 refine⟨T,id,pa,slot,hty,h1,h2,?_⟩
 have hA:=ha cpos pins s1 σ H1 _ I1 q1
 rw [hs]at hA ⊢
 refine Calls.callWith_builtin (by show(false || (backTo cpos (starEach es X.env)).any (·.1))=false;rw [hplain]<;>rfl) (Calls.evalArgs_plain ?_)
 exact thn hA fun us s2 ⟨vs,H2,I2,r2,q2⟩=>hm pins s2 σ H2 x vs v us Q I2 r1 r2 q2
end
noncomputable def MtM(X:Cx) (id:String) (r:V->List V->Hp->VK->Prop):Prop :=
 ∀(pins:List (Addr×Obj)) (s:Shared) (σ:St) (H:Hp) (x:V) (xs:List V) (v:Value) (us:List Value) (Q:VK),Inv X pins σ H s->D4 x v->C3 xs us->r x xs H Q ->
  wpAny (model X.prog X.w) X.A (call (.builtin id) (v::us)) (EP X pins σ Q) X.xe s
theorem C3.one:∀{x:V}{us:List Value},C3 [x] us->∃u,us=[u]/\D4 x u
 | _,_,.cons r .nil=>⟨_,rfl,r⟩
theorem C3.rep{xs:List V}{us:List Value}(h:C3 xs us):∀k:Nat,C3 (List.replicate k xs).flatten (List.replicate k us).flatten
 | 0=>.nil
 | k+1=>by
  rw [List.replicate_succ,List.replicate_succ,List.flatten_cons,List.flatten_cons]
  exact C3.append h (C3.rep h k)
theorem ae0(its:List Value):∀(k:Nat) (acc:List Value),
  List.foldl (fun x1 x2=>x1++x2) acc.toArray (List.replicate k its.toArray)=(acc++(List.replicate k its).flatten).toArray
 | 0,acc=>by simp
 | k+1,acc=>by
  have e:acc.toArray++its.toArray=(acc++its).toArray:=by simp
  have e2:(acc++its)++(List.replicate k its).flatten=acc++(List.replicate (k+1) its).flatten:=by
   rw [List.replicate_succ,List.flatten_cons,List.append_assoc]
  rw [← e2,← ae0 its k (acc++its),← e,List.replicate_succ,List.foldl_cons]
section
variable {X:Cx}{pins:List (Addr×Obj)}{σ:St}{H:Hp}{s:Shared}{l b:Addr}{xs ys zs:List V}
theorem Inv.lset{its its':List Value}{n:Nat}{f:Array Value->Array Value}{t':Nat}(I:Inv X pins σ H s) (hH:H l=some (.lst xs))
  (e:s.heap.get? l=some { cls:=.type "list", data:=.seq its.toArray n }) (hf:f its.toArray=its'.toArray) (hv:C3 ys its') (hz:ys.length<=sizeLine) :
  Inv X pins σ (upd H l (.lst ys)) { s with heap:=s.heap.update l (Obj.mapSeq f),toks:=t' }:=by
 have q:=PySem.IsL.update e f
 rw [hf]at q
 refine I.write (x:=l) (e:=l) (by rw [hH];exact trivial) (.inl rfl) (fun b' u hb hu=>(Heap.get?_update_other s.heap (Obj.mapSeq f) (Ne.symm hb)).trans hu) ⟨_,q⟩ ?_
 exact⟨hz,its',_,hv,q⟩
theorem Inv.lnew{its:List Value}{t':Nat}(I:Inv X pins σ H s) (hv:C3 ys its) (hz:ys.length<=sizeLine) :
  Inv X pins σ (upd H s.heap.objs.size (.lst ys)) { s with heap:=s.heap.push { cls:=.type "list", data:=.seq its.toArray },toks:=t' } :=
 I.laid (fun _ _ q=>Heap.get?_push_of_some _ q) (Nat.le_refl _) ⟨hz,its,0,hv,Heap.get?_push_size _ rfl⟩
theorem Inv.fresh(I:Inv X pins σ H s):H s.heap.objs.size=none:=I.hok.fresh (Nat.le_refl _)
theorem Inv.lstM(I:Inv X pins σ H s) (hH:H l=some (.lst xs)):xs.length<=sizeLine/\∃(its:List Value) (n:Nat),C3 xs its/\xs.length=its.length/\s.heap.get? l=some { cls:=.type "list", data:=.seq its.toArray n }:=by
 obtain⟨z,its,n,r,e⟩:=I.hok l _ hH
 exact⟨z,its,n,r,r.length,e⟩
theorem R6{n:Nat}(h:n<=sizeLine):Builtin.List.listTooLong n=false:=by
 unfold Builtin.List.listTooLong
 exact decide_eq_false (by omega)
end
section
variable {X:Cx}
noncomputable def aS6:V->List V->Hp->VK->Prop:=fun x vs H Q=>∃l xs y,x=.ref l/\vs=[y]/\H l=some (.lst xs)/\xs.length < sizeLine/\Q .non (upd H l (.lst (xs++[y])))
theorem ad5:MtM X "list.append" aS6:=by
 intro pins s σ H x vs v us Q I rx rv h
 obtain⟨l,xs,y,rfl,rfl,hH,hz,q⟩:=h
 cases rx
 obtain⟨u,rfl,ru⟩:=rv.one
 obtain⟨z,its,n,r,hl,e⟩:=I.lstM hH
 refine call_meets F.slot_list_append ⟨_,e,rfl⟩ F.entry_list_append (F.args_list_append_2 _ _) (PySem.list_append l its.toArray n u (by rw [List.size_toArray];omega)) ⟨e,?_⟩
 refine⟨.non,_,I.lset (its':=its++[u]) hH e (by simp) (r.append (.cons ru .nil)) ?_,rfl,q⟩
 rw [List.length_append,List.length_singleton]
 omega
theorem ah8{α:Type}(xs:List α) (k:Nat):(List.replicate k xs).flatten.length=k*xs.length:=by
 induction k with
 | zero=>simp
 | succ k ih=>rw [List.replicate_succ,List.flatten_cons,List.length_append,ih,Nat.succ_mul,Nat.add_comm]
end
section
variable {prog:Program}{w:World}{A:Around}{E:Value->Shared->Prop}{s:Shared}
theorem aA0(its its2:List Value) (a c:Nat):its.toArray.extract 0 a++its2.toArray++its.toArray.extract c its.toArray.size=(its.take a++its2++its.drop c).toArray:=by
  apply Array.toList_inj.mp
  first
    | (simp
       exact List.take_of_length_le (by simp))
    | simp [List.take_of_length_le]
    | simp
set_option maxRecDepth 100000 in
end
section
variable {X:Cx}
end
end L2
namespace Att
open PySem PySem.W PySem.Calls PyProof.Rows
theorem n9{P:Params}{h:Heap}:∀(ns:List Int) (vs:List Value),WellAll P h vs (ns.map WData.int)->IntsAre vs ns:=by
 intro ns
 induction ns with
 | nil =>
  intro vs w
  rw [List.map_nil]at w
  cases w
  exact .nil
 | cons n ns ih =>
  intro vs w
  rw [List.map_cons]at w
  cases w with
  | cons a b =>
   cases a
   exact .cons _ _ (ih _ b)
theorem aA2{l:OpenLaw}{n:Nat}(hn:l.most=some n) {P:Params}{h:Heap}{args:List WData}{vals:List Value}
  (hpre:l.row.toRowW.claim.pre args=true) (hwl:WellAll P h vals args) :
  ∃a vs ns,vals=[Value.ref a]/\args=[WData.list (ns.map WData.int)]/\h.get? a=some { cls:=.type "list", data:=.seq vs.toArray }/\IntsAre vs ns/\ns.length<=n:=by
 have hsh:WShape.hasAll [] args [.list .int]=true:=(pre_splitW hpre).1
 have hc:l.pre.holds [] { args:=args }=true:=(pre_splitW hpre).2
 obtain⟨d,r,rfl,h1,h2⟩:=hasAllW_cons hsh
 obtain rfl:=hasAllW_nil h2
 obtain⟨xs,rfl,h3⟩:=hasW_list h1
 obtain⟨ns,rfl⟩:=items_int h3
 have hlen:ns.length<=n:=by
  unfold OpenLaw.pre at hc
  have h4:(WTm.not (.lt (.lit (.int (n:Int))) (.len (.arg 0)))).holds [] { args:=[.list (ns.map .int)] }=true:=by
   have h4:=(holds_andW hc).1
   rw [hn]at h4
   exact h4
  have h5:=condW_of h4 (w_not (w_lt w_lit (w_len_list (w_arg rfl))))
  rw [List.length_map]at h5
  refine Nat.le_of_not_lt fun q=>?_
  have q':(n:Int) < ((ns.length:Nat):Int):=by omega
  first
   | (rw [decide_eq_true q']at h5;exact absurd h5 (by decide))
   | (simp at h5;omega)
 cases hwl with
 | cons w1 w2 =>
  cases w2
  cases w1 with
  | list ho hall=>exact⟨_,_,ns,rfl,rfl,ho,n9 ns _ hall,hlen⟩
theorem aA4(l:OpenLaw) (args:List WData):l.row.toRowW.claim.post args (.bool true) args=true :=
 postW_of (r:=l.row.toRowW) (X:=(true==true))
  (show WShape.has [] (.bool true) .bool=true by first|rfl|decide|simp [WShape.has,WShape.arms,WShape.armsAll])
  (show(WTm.eq .res (.lit (.bool true))).value [] { args:=args,res:=some (.bool true),after:=args }=some (.bool (true==true)) from w_eq_bool (w_res rfl) w_lit) rfl
theorem attach_call{l:OpenLaw}{n:Nat}{q:Program}{loose:List Str}{XP:(Str->Option Value)->Heap->Prop}{YP:World->Heap->Prop}{d:DefRec}
  (hn:l.most=some n) (hdf:d.params.defaults=[])
  (call:∀(w:World) (s₀ s₁:Shared) (mg mb:Str->Option Value) (fa:Addr) (o:Obj) (pm cd doc:Value) (a:Addr) (vs:List Value) (ns:List Int),
   Ground q loose [] XP w s₀ mg mb s₁.heap->YP w s₁.heap ->
   s₁.heap.get? fa=some o->o.data=.func (docDef d.name d.params d.body d.scope pm cd doc)->s₁.heap.CodeRec cd d.name->mg d.name=some (.ref fa) ->
   s₁.heap.get? a=some { cls:=.type "list", data:=.seq vs.toArray }->IntsAre vs ns->ns.length<=n->s₁.gens = #[] ->
   codeAny (model l.prog w) callerA (.call (.ref fa) ⟨[.ref a],[]⟩) (fun r s'=>r=.ok (.ret (.bool true))/\OldK s₁.heap s'.heap/\s'.os=s₁.os/\AllBare s'.gens) s₁) :
  WalkO q loose XP YP l.row.toRowW d [] (fun f vs=>PySem.call f vs):=by
 intro w s₀ s₁ mg mb G Y fa o pm cd doc dV kV ho hd hcd hD hmg hg args vals as hpre hlay hrd hwl hlo
 obtain rfl:dV=.none:=Dflts.none hD hdf
 obtain rfl:kV=.none:=Dflts.noKw hD
 obtain⟨a,vs,ns,rfl,rfl,hobj,hints,hlen⟩:=aA2 hn hpre hwl
 refine enter_call (codeAny_mono (call w s₀ s₁ mg mb fa o pm cd doc a vs ns G Y ho (fd_plain hd) hcd hmg hobj hints hlen hg) fun r s' hq=>?_)
 obtain⟨rfl,h2,h3,h4⟩:=hq
 exact⟨.inl ⟨.bool true,.bool true,[],rfl,fun _=>rfl,.bool true,aA4 l _,fun _=>⟨List.Pairwise.nil,fun _ hm=>(nomatch hm)⟩⟩,h2,h3,h4⟩
section
variable {prog:Program}{w:World}{A:Around}{E:Value->Shared->Prop}{s:Shared}{K:Frag}
end
end Att
namespace L2
open PySem PySem.Spec PyProof.Rows
theorem K7:∀{vs:List Value}{ns:List Int},IntsAre vs ns->C3 (ns.map V.int) vs
 | _,_,.nil=>.nil
 | _,_,.cons n t h=>.cons ⟨t,rfl⟩ (K7 h)
noncomputable def bq2(H:Hp):Prop:=∀b,H b=none\/∃o xs,H b=some (.frz o (.lst xs))
theorem aK1{P:Program}{w:World}{K:PySem.W.Frag}{mg mb:Str->Option Value}{CX:CXT}{k:Nat}{fa a:Addr}{fd:FuncData}{x:Str}{sp:Sp}{s₁:Shared}{vs:List Value}{ns:List Int}
  (KX:K.In s₁.heap) (hns:s₁.heap.Ns mainGlobals mg) (hb:s₁.heap.Ns builtinsNs mb) (hbb:∀x:Str,x ≠ "__name__" -> mb x=bootBuiltins x) (hlim:s₁.heap.NoLimit) (hg:s₁.gens = #[])
  (ha:s₁.heap.get? a=some { cls:=.type "list", data:=.seq vs.toArray }) (hi:IntsAre vs ns) (hl:ns.length<=sizeLine) (hr:Room k callerA)
  (F:∀base:Heap,K.In base->base.Ns mainGlobals mg->FnOk P w K mg base CX k fa fd [x] sp) (hbind:∀(s:Shared) (u:Value),BindsTo s fd ⟨[u],[]⟩ [(x,u)])
  (hsp:∀H:Hp,bq2 H->SqL K H a (ns.map V.int)->sp [.ref a] H (fun v _=>v=.bl true) fun _ _ _=>False)
  (hCX:∀H e s',CX [] H s₁ (fun _ _ _=>False) e s'->False) :
  codeAny (model P w) callerA (.call (.ref fa) ⟨[.ref a],[]⟩) (fun r s'=>r=.ok (.ret (.bool true))/\OldK s₁.heap s'.heap/\s'.os=s₁.os/\AllBare s'.gens) s₁:=by
 have rv:=K7 hi
 have lenV:=hi.length
 have core:∀H:Hp,bq2 H->SqL K H a (ns.map V.int)->HOk P w H s₁.heap->(∀b,H b≠none->b=a)->(H a≠none->K.lookup a=none) ->
   codeAny (model P w) callerA (.call (.ref fa) ⟨[.ref a],[]⟩) (fun r s'=>r=.ok (.ret (.bool true))/\OldK s₁.heap s'.heap/\s'.os=s₁.os/\AllBare s'.gens) s₁:=by
  intro H hO hS hok hA hK
  have base_of:∀{b:Addr}{o:Obj},s₁.heap.get? b=some o->H b=none->(ai2 s₁.heap H).get? b=some o:=fun e n=>aO1 e n
  have noA:∀{b:Addr}{o:Obj}{es:Array DictEntry}{ep:Nat},s₁.heap.get? b=some o->o.data=.dict es ep->H b=none:=fun{b o es ep} e d=>by
   cases q:H b with
   | none=>rfl
   | some u =>
    have e':b=a:=hA b (by rw [q];simp)
    subst e'
    rw [ha]at e;cases e
    have d':Data.seq vs.toArray _=Data.dict es ep:=d
    cases d'
  have nsK:∀{b:Addr}{m:Str->Option Value},s₁.heap.Ns b m->(ai2 s₁.heap H).Ns b m:=fun{b m} ⟨o,es,ep,e,d,r⟩=>⟨o,es,ep,base_of e (noA e d),d,r⟩
  have hKb:K.In (ai2 s₁.heap H):=fun b o e=>base_of (KX b o e) (by
   cases q:H b with
   | none=>rfl
   | some u =>
    have e':b=a:=hA b (by rw [q];simp)
    subst e'
    rw [hK (by rw [q];simp)]at e;cases e)
  have hM:Mod K mg (ai2 s₁.heap H):=⟨hKb,nsK hns,⟨mb,nsK hb,hbb⟩,let⟨mc,h1,h2⟩:=hlim;⟨mc,nsK h1,h2⟩⟩
  have e0:Env0 P w K mg (ai2 s₁.heap H) callerA [] s₁ H:=⟨rfl,hM,fun b o e=>aV2 e,Nat.le_of_eq (aC8 _ _),trivial,fun b hb=>absurd (show b∈([]:List Addr) from hb) (by simp),hok,.of_eq hg⟩
  refine codeAny_mono ((F _ hKb (nsK hns)).run callerA [] s₁ H ⟨[.ref a],[]⟩ [.ref a] [.ref a] _ _ hr e0 (hbind s₁ (.ref a)) (.cons rfl .nil) (hsp H hO hS)) fun r s' h=>?_
  cases r with
  | error e=>exact(hCX H e s' h).elim
  | ok fl =>
   cases fl with
   | next=>exact False.elim h
   | brk=>exact False.elim h
   | cont=>exact False.elim h
   | ret u =>
    obtain⟨v,H',os,bare,un,hok',r',q⟩:=h
    have q':v=.bl true:=q
    subst q'
    obtain rfl:u=Value.bool true:=r'
    refine⟨rfl,OldK.of_keep fun b o e=>?_,os,bare⟩
    cases q:H b with
    | none=>exact un.keep b o e q (by intro z;exact absurd (show b∈([]:List Addr) from z) (by simp)) (by simp)
    | some u =>
     rcases hO b with z|⟨ob,xs,z⟩
     ·rw [q]at z;cases z
     ·have z2:=un.frzs b ob _ z
      obtain⟨e1,_⟩:=hok b _ z
      obtain⟨e2,_⟩:=hok' b _ z2
      rw [e]at e1;cases e1
      exact e2
 cases hk:K.lookup a with
 | some o =>
  have e:=KX a o hk
  rw [ha]at e
  cases e
  refine core (fun _=>none) (fun _=>.inl rfl) (.inr ⟨_,vs.toArray,_,hk,rfl,rfl,rfl,by rw [List.size_toArray,lenV];exact hl,by simpa using rv⟩) (fun b u z=>by have z':(none:Option HO)=some u:=z;cases z') (fun b z=>absurd rfl z) fun z=>absurd rfl z
 | none =>
  refine core (fun b=>if b=a then some (.frz { cls:=.type "list", data:=.seq vs.toArray } (.lst (ns.map V.int))) else none) (fun b=>?_) (.inl (.inr ⟨{ cls:=.type "list", data:=.seq vs.toArray },if_pos rfl⟩)) (fun b u z=>?_) (fun b z=>?_) fun _=>hk
  ·by_cases hb:b=a
   ·exact .inr ⟨_,_,if_pos hb⟩
   ·exact .inl (if_neg hb)
  ·by_cases hb:b=a
   ·have z':=(if_pos hb).symm.trans z
    cases z'
    subst hb
    exact⟨ha,by rw [List.length_map];exact hl,vs,_,rv,ha⟩
   ·have z':=(if_neg hb).symm.trans z
    cases z'
  ·by_cases hb:b=a
   ·exact hb
   ·exact absurd (if_neg hb) z
theorem aR6{l:PySem.W.OpenLaw}{n k:Nat}{q:Program}{loose:List Str}{XP:(Str->Option Value)->Heap->Prop}{YP:World->Heap->Prop}{d:DefRec}{K:Params->PySem.W.Frag}{CX:World->CXT}{sp:World->Sp}{x:Str}
  (hn:l.most=some n) (hn2:n<=sizeLine) (hdf:d.params.defaults=[]) (hr:Room k callerA)
  (hY:∀(w:World) (h:Heap),YP w h->(K w.params).In h)
  (F:∀(w:World) (mg:Str->Option Value) (fa:Addr) (h:Heap),(K w.params).In h->h.Ns mainGlobals mg->mg d.name=some (.ref fa) ->
   ∃fd:FuncData,(∀(s:Shared) (u:Value),BindsTo s fd ⟨[u],[]⟩ [(x,u)]) /\
    ∀base:Heap,(K w.params).In base->base.Ns mainGlobals mg->FnOk l.prog w (K w.params) mg base (CX w) k fa fd [x] (sp w))
  (hsp:∀(w:World) (H:Hp) (a:Addr) (ns:List Int),ns.length<=n->bq2 H->SqL (K w.params) H a (ns.map V.int)->sp w [.ref a] H (fun v _=>v=.bl true) fun _ _ _=>False)
  (hCX:∀(w:World) (H:Hp) (s:Shared) (e:Value) (s':Shared),CX w [] H s (fun _ _ _=>False) e s'->False) :
  PySem.W.WalkO q loose XP YP l.row.toRowW d [] (fun f vs=>PySem.call f vs):=by
 refine Att.attach_call hn hdf fun w s₀ s₁ mg mb fa o pm cd doc a vs ns G Y ho hd hcd hmg hobj hints hlen hg=>?_
 have KX:=hY w _ Y
 obtain⟨fd,hb,hF⟩:=F w mg fa _ KX G.T.g hmg
 exact aK1 KX G.T.g G.T.b G.T.builtins G.T.nolimit hg hobj hints (Nat.le_trans hlen hn2) hr hF hb (fun H hO hS=>hsp w H a ns hlen hO hS) fun H e s'=>hCX w H s₁ e s'
noncomputable def N4(s:Stmt):Arguments:=match s with
 | .FunctionDef _ a _ _ _ _ _ _ _ _=>a
 | _=>{ posonlyargs:=[],args:=[],vararg:=none,kwonlyargs:=[],kw_defaults:=[],kwarg:=none,defaults:=[] }
noncomputable def F3(s:Stmt):List Stmt:=match s with
 | .FunctionDef _ _ b _ _ _ _ _ _ _=>b
 | _=>[]
noncomputable def B5(s:Stmt):Scope:=match s with
 | .FunctionDef _ _ _ _ _ _ sc _ _ _=>sc
 | _=>{ kind:=.function,names:=[],isGenerator:=false,isCoroutine:=false }
noncomputable abbrev CX0:CXT:=fun _ _ _ _ _ _=>False
noncomputable abbrev E0:XK:=fun _ _ _=>False
theorem aI2{X:Cx}:aj6 CX0 X E0:=fun _ _ _ _ _ _ _ h=>h.elim
structure Fun (K:PySem.W.Frag) (x qual:Str) (st:Stmt) (f:Addr) (fd:FuncData):Prop where
 ex:∃(oc:Value) (od:Option Addr) (kV doc pm:Value) (an:Option Addr) (cdv ct:Value) (osl:Array (Option Value)),
  fd=PySem.W.fnOf x qual (N4 st) (F3 st) (B5 st) .none kV doc pm an cdv ct/\K.lookup f=some ⟨oc,od,.func fd,osl⟩/\PySem.W.codeIn K cdv qual=true
 kp:PySem.W.keepIn K (.ref f)=true
section
variable {P:Program}{w:World}{K:PySem.W.Frag}{mg:Str->Option Value}{base:Heap}
theorem Fun.ok{x qual:Str}{st:Stmt}{f:Addr}{fd:FuncData}{N ps:List Str}{k:Nat}{sp:Sp}(F:Fun K x qual st f fd) (S:FnScope N ps (B5 st)) (len:∀vs H Q E,sp vs H Q E->vs.length=ps.length)
  (hbody:∀(cdv:Value) (A:Around) (outer:List Env) (s:Shared) (H:Hp) (vs:List V) (Q:VK) (E:XK),Room k (A.deeper (envOfC qual (B5 st) s.heap.objs.size f cdv))->sp vs H Q E ->
   ∃t,PSs (ai9 CX0 P w K mg base N qual (B5 st) f cdv A outer s H E).nox (F3 st) t/\t { nx:=fun _ H'=>Q .non H',rt:=Q } (J2 N vs) H):FnOk P w K mg base CX0 (k+1) f fd ps sp:=by
 obtain⟨oc,od,kV,doc,pm,an,cdv,ct,osl,rfl,lk,hcd⟩:=F.ex
 refine aO6 lk hcd S len fun A outer s H vs Q E hr hsp=>?_
 obtain⟨t,h,q⟩:=hbody cdv A outer s H vs Q E hr hsp
 exact⟨t,h.nox,q⟩
theorem bo4{x qual:Str}{st:Stmt}{f:Addr}{oc:Value}{od an:Option Addr}{osl:Array (Option Value)}{kV doc pm cdv ct:Value}(l:K.lookup f=some ⟨oc,od,.func (PySem.W.fnOf x qual (N4 st) (F3 st) (B5 st) .none kV doc pm an cdv ct),osl⟩)
  (c:PySem.W.codeIn K cdv qual=true) (k:PySem.W.keepIn K (.ref f)=true):Fun K x qual st f (PySem.W.fnOf x qual (N4 st) (F3 st) (B5 st) .none kV doc pm an cdv ct):=⟨⟨oc,od,kV,doc,pm,an,cdv,ct,osl,rfl,l,c⟩,k⟩
end
theorem g6{n:Nat}(h:n<=1000):n < sizeLine:=Nat.lt_of_le_of_lt h (by decide)
section
variable {X:Cx}
theorem pv(i:Nat) {x:Str}{pos:Pos}(hN:X.N[i]? = some x:=by rfl) (hv:Vis X.env.scope x:=by first|exact Or.inl rfl|exact Or.inr (Or.inl rfl)|exact Or.inr (Or.inr rfl)) (hd:(x==("__debug__" : Str))=false:=by decide)
  (hcd:(x==("__classdict__" : Str))=false:=by decide):PE X (.Name x pos) (br7 i):=Q0 hN hv hd hcd
end
theorem ab6{A B:Prop}(h:B):if false=true then A else B:=by
 rw [if_neg Bool.false_ne_true]
 exact h
theorem ab5{A B:Prop}(h:A):if true=true then A else B:=by
 rw [if_pos rfl]
 exact h
noncomputable def C2(H H':Hp):Prop:=∀b o,H b=some o->H' b=some o
theorem C2.refl(H:Hp):C2 H H:=fun _ _ h=>h
theorem C2.trans{H H1 H2:Hp}(a:C2 H H1) (b:C2 H1 H2):C2 H H2:=fun c o h=>b c o (a c o h)
theorem C2.free{H H':Hp}(e:C2 H H') {l:Addr}(h:H' l=Option.none):H l=Option.none:=by
 cases q:H l with
 | none=>rfl
 | some o =>
  rw [e l o q]at h
  cases h
end L2
set_option maxHeartbeats 4000000
namespace G
theorem xbm{α β:Type}{o:Option α}{f:α->Option β}{b:β}(h:o.bind f=some b):∃a,o=some a/\f a=some b:=Option.bind_eq_some_iff.mp h
open PySem PySem.Spec PyProof.Rows L2
noncomputable abbrev D:=PyData
mutual
noncomputable def Rep(K:PySem.W.Frag) (H:Hp):D->V->Prop
 | .none,v=>v=.non
 | .bool b,v=>v=.bl b
 | .int i,v=>v=.int i
 | .str x,v=>v=.str x
 | .tuple ds,v=>∃a vs,v=.ref a/\SqT K H a vs/\Reps K H ds vs
 | .list ds,v=>∃a vs,v=.ref a/\SqL K H a vs/\Reps K H ds vs
 | .dict _,_=>False
noncomputable def Reps(K:PySem.W.Frag) (H:Hp):List D->List V->Prop
 | [],vs=>vs=[]
 | d::ds,vs=>∃v r,vs=v::r/\Rep K H d v/\Reps K H ds r
end
section
variable {K:PySem.W.Frag}{H H' H0 H1 H2 Hf Hf' Hf1 Hf2:Hp}
theorem au4{a:Addr}{u:HO}(e:C2 H H') (h:Rd H a u):Rd H' a u:=by
 rcases h with h|⟨o,h⟩
 ·exact .inl (e _ _ h)
 ·exact .inr ⟨o,e _ _ h⟩
theorem B9{a:Addr}{xs:List V}(e:C2 H H') (h:SqT K H a xs):SqT K H' a xs:=h.imp (au4 e) id
theorem D1{a:Addr}{xs:List V}(e:C2 H H') (h:SqL K H a xs):SqL K H' a xs:=h.imp (au4 e) id
mutual
theorem Rep.mono(e:C2 H H'):∀{d:D}{v:V},Rep K H d v->Rep K H' d v
 | .none,_,h=>h
 | .bool _,_,h=>h
 | .int _,_,h=>h
 | .str _,_,h=>h
 | .tuple _,_,⟨a,vs,h1,h2,h3⟩=>⟨a,vs,h1,B9 e h2,Reps.mono e h3⟩
 | .list _,_,⟨a,vs,h1,h2,h3⟩=>⟨a,vs,h1,D1 e h2,Reps.mono e h3⟩
 | .dict _,_,h=>h
theorem Reps.mono(e:C2 H H'):∀{ds:List D}{vs:List V},Reps K H ds vs->Reps K H' ds vs
 | [],_,h=>h
 | _::_,_,⟨v,r,h1,h2,h3⟩=>⟨v,r,h1,Rep.mono e h2,Reps.mono e h3⟩
end
theorem Reps.length:∀{ds:List D}{vs:List V},Reps K H ds vs->vs.length=ds.length
 | [],_,h=>by cases h;rfl
 | _::_,_,⟨v,r,h1,h2,h3⟩=>by subst h1;simp [Reps.length h3]
theorem Reps.get:∀{ds:List D}{vs:List V}{i:Nat}{d:D},Reps K H ds vs->ds[i]? = some d->∃v,vs[i]? = some v/\Rep K H d v
 | [],_,_,_,_,e=>by simp at e
 | x::_,_,0,_,⟨v,r,h1,h2,h3⟩,e=>by subst h1;simp at e;subst e;exact⟨v,rfl,h2⟩
 | x::_,_,i+1,_,⟨v,r,h1,h2,h3⟩,e=>by
  subst h1
  obtain⟨u,q1,q2⟩:=Reps.get (i:=i) h3 (by simpa using e)
  exact⟨u,by simpa using q1,q2⟩
theorem Reps.append:∀{ds es:List D}{vs us:List V},Reps K H ds vs->Reps K H es us->Reps K H (ds++es) (vs++us)
 | [],_,_,_,h,q=>by cases h;exact q
 | _::_,_,_,_,⟨v,r,h1,h2,h3⟩,q=>by subst h1;exact⟨v,r++_,rfl,h2,Reps.append h3 q⟩
theorem Reps.take:∀{ds:List D}{vs:List V}(n:Nat),Reps K H ds vs->Reps K H (ds.take n) (vs.take n)
 | [],_,n,h=>by cases h;simp [Reps]
 | _::_,_,0,h=>by simp [Reps]
 | _::_,_,n+1,⟨v,r,h1,h2,h3⟩=>by subst h1;exact⟨v,r.take n,rfl,h2,Reps.take n h3⟩
theorem Reps.drop:∀{ds:List D}{vs:List V}(n:Nat),Reps K H ds vs->Reps K H (ds.drop n) (vs.drop n)
 | [],_,n,h=>by cases h;simp [Reps]
 | _::_,_,0,h=>h
 | _::_,_,n+1,⟨v,r,h1,h2,h3⟩=>by subst h1;exact Reps.drop n h3
theorem Reps.ints:∀(ns:List Int),Reps K H (ns.map PyData.int) (ns.map V.int)
 | []=>rfl
 | n::r=>⟨.int n,r.map V.int,rfl,rfl,Reps.ints r⟩
theorem Reps.flatten{ds:List D}{vs:List V}(h:Reps K H ds vs):∀k:Nat,Reps K H (List.replicate k ds).flatten (List.replicate k vs).flatten
 | 0=>rfl
 | k+1=>by simp only [List.replicate_succ,List.flatten_cons];exact h.append (Reps.flatten h k)
structure Grow (H Hf H' Hf':Hp):Prop where
 big:C2 H H'
 sub:C2 Hf' H'
 ext:C2 Hf Hf'
 new:∀b,Hf' b≠none->Hf b≠none\/H b=none
theorem Grow.refl(h:C2 Hf H):Grow H Hf H Hf:=⟨C2.refl _,h,C2.refl _,fun _ h=>.inl h⟩
theorem Grow.trans(a:Grow H Hf H1 Hf1) (b:Grow H1 Hf1 H2 Hf2):Grow H Hf H2 Hf2 :=
 ⟨a.big.trans b.big,b.sub,a.ext.trans b.ext,fun x h=>(b.new x h).elim (a.new x) fun z=>.inr (a.big.free z)⟩
theorem C5{p:Addr}{o:HO}(h:H p=none):C2 H (upd H p o):=fun b u e=>by rw [A8 (B3 e h)];exact e
theorem Grow.laid{p:Addr}{o:HO}(s:C2 Hf H) (h:H p=none):Grow H Hf (upd H p o) (upd Hf p o):=by
 refine⟨C5 h,fun b u e=>?_,C5 (s.free h),fun b e=>?_⟩
 ·by_cases q:b=p
  ·subst q;rw [B0]at e;rw [B0];exact e
  ·rw [A8 q]at e;rw [A8 q];exact s b u e
 ·by_cases q:b=p
  ·subst q;exact .inr h
  ·rw [A8 q]at e;exact .inl e
theorem Grow.made{p:Addr}{o:HO}(s:C2 Hf H) (h:H p=none):Grow H Hf (upd H p o) Hf :=
 ⟨C5 h,s.trans (C5 h),C2.refl _,fun _ e=>.inl e⟩
theorem Grow.freeze{p:Addr}{o:HO}(g:Grow H Hf H1 Hf1) (h:H1 p=some o) (n:Hf1 p=none) (f:H p=none):Grow H Hf H1 (upd Hf1 p o):=by
 refine⟨g.big,fun b u e=>?_,g.ext.trans (C5 n),fun b e=>?_⟩
 ·by_cases q:b=p
  ·subst q;rw [B0]at e;rw [h];exact e
  ·rw [A8 q]at e;exact g.sub b u e
 ·by_cases q:b=p
  ·subst q;exact .inr f
  ·rw [A8 q]at e;exact g.new b e
end
inductive B where
 | val (d:D)
 | own (ds:List D)
 | exc (x:Str)
noncomputable abbrev Rho:=List (Option B)
noncomputable def clA(K:PySem.W.Frag) (x:Str):Option Addr:=match PySem.W.nsIn K mainGlobals x with
 | some (some (.ref C))=>some C
 | _=>none
noncomputable def SB(K:PySem.W.Frag) (H0 H Hf:Hp):B->V->Prop
 | .val d,v=>Rep K Hf d v
 | .own ds,v=>∃a vs,v=.ref a/\H a=some (.lst vs)/\Hf a=none/\H0 a=none/\Reps K Hf ds vs
 | .exc x,v=>∃a o C,v=.ref a/\Hf a=some (.frz o (.own a))/\clA K x=some C/\o.cls=.ref C
structure Slots (K:PySem.W.Frag) (H0:Hp) (ρ:Rho) (σ:L2.St) (H Hf:Hp):Prop where
 len:ρ.length=σ.length
 is:∀(i:Nat) (b:B),ρ[i]? = some (some b)->∃v,σ[i]? = some (some v)/\SB K H0 H Hf b v
 apart:∀(i j:Nat) (ds es:List D) (a:Addr),ρ[i]? = some (some (.own ds))->ρ[j]? = some (some (.own es))->σ[i]? = some (some (V.ref a))->σ[j]? = some (some (V.ref a))->i=j
section
variable {K:PySem.W.Frag}{H H' H0 H1 H2 Hf Hf' Hf1 Hf2:Hp}{ρ:Rho}{σ:L2.St}
theorem SB.grow{b:B}{v:V}(h:SB K H0 H Hf b v) (g:Grow H Hf H' Hf'):SB K H0 H' Hf' b v:=by
 cases b with
 | val d=>exact Rep.mono g.ext h
 | exc C =>
  obtain⟨a,o,C,e,h1,h2⟩:=h
  exact⟨a,o,C,e,g.ext _ _ h1,h2⟩
 | own ds =>
  obtain⟨a,vs,e,h1,h2,h3,h4⟩:=h
  refine⟨a,vs,e,g.big _ _ h1,?_,h3,h4.mono g.ext⟩
  cases q:Hf' a with
  | none=>rfl
  | some u =>
   rcases g.new a (by rw [q];simp) with z|z
   ·exact absurd h2 z
   ·rw [h1]at z;cases z
theorem Slots.grow(s:Slots K H0 ρ σ H Hf) (g:Grow H Hf H' Hf'):Slots K H0 ρ σ H' Hf' :=
 ⟨s.len,fun i b e=>let⟨v,h1,h2⟩:=s.is i b e;⟨v,h1,h2.grow g⟩,s.apart⟩
end
noncomputable abbrev DE:=Rho->Option D
noncomputable def tJ(K:PySem.W.Frag) (ρ:Rho) (R:Hp->V->Hp->Hp->Prop):TE:=fun σ H Q=>∃H0 Hf,C2 Hf H/\Slots K H0 ρ σ H Hf/\∀v H' Hf',Grow H Hf H' Hf'->R H v H' Hf'->Q v H'
noncomputable def JE(X:Cx) (e:Expr) (f:DE):Prop:=∀ρ d,f ρ=some d->PE X e (tJ X.K ρ fun _ v _ Hf=>Rep X.K Hf d v)
noncomputable def Sq(K:PySem.W.Frag):Bool->Hp->Addr->List V->Prop
 | true=>SqT K
 | false=>SqL K
noncomputable def RQ(K:PySem.W.Frag) (t:Bool) (ds:List D) (v:V) (H Hf:Hp):Prop:=∃a vs,v=.ref a/\Sq K t H a vs/\Reps K Hf ds vs
noncomputable def JQ(X:Cx) (e:Expr) (f:Rho->Option (Bool×List D)):Prop:=∀ρ t ds,f ρ=some (t,ds)->PE X e (tJ X.K ρ fun _ v H Hf=>RQ X.K t ds v H Hf)
noncomputable def JN(X:Cx) (e:Expr) (f:Rho->Option (List D)):Prop:=∀ρ ds,f ρ=some ds->PE X e (tJ X.K ρ fun H v H' Hf'=>∃a vs,v=.ref a/\H a=none/\H' a=some (.lst vs)/\Hf' a=none/\Reps X.K Hf' ds vs)
noncomputable def tJA(K:PySem.W.Frag) (ρ:Rho) (ds:List D):TA:=fun σ H Q=>∃H0 Hf,C2 Hf H/\Slots K H0 ρ σ H Hf/\∀vs H' Hf',Grow H Hf H' Hf'->Reps K Hf' ds vs->Q vs H'
structure JA (X:Cx) (es:List Expr) (f:Rho->Option (List D)):Prop where
 len:∀ρ ds,f ρ=some ds->ds.length=es.length
 run:∀ρ ds,f ρ=some ds->PA X es (tJA X.K ρ ds)
noncomputable def JT(X:Cx) (e:Expr) (f:Rho->Option Bool):Prop:=∀ρ c,f ρ=some c->PT X e (fun σ H Q=>∃H0 Hf,C2 Hf H/\Slots X.K H0 ρ σ H Hf/\∀H' Hf',Grow H Hf H' Hf'->Q c H')
noncomputable def JW(X:Cx) (e:Expr) (f:Rho->Option Bool):Prop:=∀ρ c,f ρ=some c->PW X e (fun σ H Q=>∃H0 Hf,C2 Hf H/\Slots X.K H0 ρ σ H Hf/\∀H' Hf',Grow H Hf H' Hf'->Q c H')
section
variable {X:Cx}
theorem B2{e:Expr}{t t':TE}(h:PE X e t) (i:∀σ H Q,t' σ H Q->t σ H Q):PE X e t':=fun pins s σ H Q I q=>h pins s σ H Q I (i σ H Q q)
theorem ag7{e:Expr}{t t':TT}(h:PT X e t) (i:∀σ H Q,t' σ H Q->t σ H Q):PT X e t':=fun pins s σ H Q I q=>h pins s σ H Q I (i σ H Q q)
noncomputable def dC(d:D):DE:=fun _=>some d
noncomputable def A1(i:Nat):DE:=fun ρ=>match ρ[i]? with
 | some (some (.val d))=>some d
 | _=>none
noncomputable def A6(i:Nat):Rho->Option (Bool×List D):=fun ρ=>match ρ[i]? with
 | some (some (.own ds))=>some (false,ds)
 | some (some (.val (.list ds)))=>some (false,ds)
 | some (some (.val (.tuple ds)))=>some (true,ds)
 | _=>none
noncomputable def P7:D->Option (Bool×List D)
 | .list ds=>some (false,ds)
 | .tuple ds=>some (true,ds)
 | _=>none
theorem aM5{i:Int}{j:Nat}{pos:Pos}:JE X (.Constant (.int i) j pos) (dC (.int i)):=fun ρ d h=>by
 cases h
 exact B2 bi3 fun σ H Q ⟨H0,Hf,s,sl,k⟩=>k _ H Hf (Grow.refl s) rfl
theorem bx1{b:Bool}{j:Nat}{pos:Pos}:JE X (.Constant (.bool b) j pos) (dC (.bool b)):=fun ρ d h=>by
 cases h
 exact B2 bu2 fun σ H Q ⟨H0,Hf,s,sl,k⟩=>k _ H Hf (Grow.refl s) rfl
theorem bn1{j:Nat}{pos:Pos}:JE X (.Constant .none j pos) (dC .none):=fun ρ d h=>by
 cases h
 exact B2 bi2 fun σ H Q ⟨H0,Hf,s,sl,k⟩=>k _ H Hf (Grow.refl s) rfl
theorem bm6{x:Str}{j:Nat}{pos:Pos}:JE X (.Constant (.str x) j pos) (dC (.str x)):=fun ρ d h=>by
 cases h
 exact B2 bh8 fun σ H Q ⟨H0,Hf,s,sl,k⟩=>k _ H Hf (Grow.refl s) rfl
theorem aL7(i:Nat) {x:Str}{pos:Pos}(hN:X.N[i]? = some x:=by rfl) (hv:Vis X.env.scope x:=by first|exact Or.inl rfl|exact Or.inr (Or.inl rfl)|exact Or.inr (Or.inr rfl)) (hd:(x==("__debug__" : Str))=false:=by decide)
  (hcd:(x==("__classdict__" : Str))=false:=by decide):JE X (.Name x pos) (A1 i):=fun ρ d h=>by
 refine B2 (Q0 hN hv hd hcd) fun σ H Q ⟨H0,Hf,s,sl,k⟩=>?_
 unfold A1 at h
 split at h
 ·rename_i d' e
  cases h
  obtain⟨v,h1,h2⟩:=sl.is i _ e
  exact⟨v,h1,k v H Hf (Grow.refl s) h2⟩
 ·cases h
theorem bl9(i:Nat) {x:Str}{pos:Pos}(hN:X.N[i]? = some x:=by rfl) (hv:Vis X.env.scope x:=by first|exact Or.inl rfl|exact Or.inr (Or.inl rfl)|exact Or.inr (Or.inr rfl)) (hd:(x==("__debug__" : Str))=false:=by decide)
  (hcd:(x==("__classdict__" : Str))=false:=by decide):JQ X (.Name x pos) (A6 i):=fun ρ t ds h=>by
 refine B2 (Q0 hN hv hd hcd) fun σ H Q ⟨H0,Hf,s,sl,k⟩=>?_
 unfold A6 at h
 split at h
 ·rename_i d' e
  cases h
  obtain⟨v,h1,a,vs,rfl,h2,h3,h4,h5⟩:=sl.is i _ e
  exact⟨_,h1,k _ H Hf (Grow.refl s) ⟨a,vs,rfl,SqL.of h2,h5⟩⟩
 ·rename_i d' e
  cases h
  obtain⟨v,h1,a,vs,rfl,h2,h3⟩:=sl.is i _ e
  exact⟨_,h1,k _ H Hf (Grow.refl s) ⟨a,vs,rfl,D1 s h2,h3⟩⟩
 ·rename_i d' e
  cases h
  obtain⟨v,h1,a,vs,rfl,h2,h3⟩:=sl.is i _ e
  exact⟨_,h1,k _ H Hf (Grow.refl s) ⟨a,vs,rfl,B9 s h2,h3⟩⟩
 ·cases h
theorem Rep.seq{K:PySem.W.Frag}{H Hf:Hp}{d:D}{v:V}{t:Bool}{ds:List D}(h:Rep K Hf d v) (s:C2 Hf H) (e:P7 d=some (t,ds)):RQ K t ds v H Hf:=by
 cases d with
 | list xs=>cases e;obtain⟨a,vs,e1,e2,e3⟩:=h;exact⟨a,vs,e1,D1 s e2,e3⟩
 | tuple xs=>cases e;obtain⟨a,vs,e1,e2,e3⟩:=h;exact⟨a,vs,e1,B9 s e2,e3⟩
 | _=>cases e
noncomputable def qE(f:DE):Rho->Option (Bool×List D):=fun ρ=>(f ρ).bind P7
theorem aL3{e:Expr}{f:DE}(h:JE X e f):JQ X e (qE f):=fun ρ t ds q=>by
 obtain⟨d,h1,h2⟩:=xbm q
 exact B2 (h ρ d h1) fun σ H Q ⟨H0,Hf,s,sl,k⟩=>⟨H0,Hf,s,sl,fun v H' Hf' g r=>k v H' Hf' g (r.seq g.sub h2)⟩
noncomputable def A3:Rho->Option (List D):=fun _=>some []
noncomputable def A0(f:DE) (g:Rho->Option (List D)):Rho->Option (List D):=fun ρ=>(f ρ).bind fun d=>(g ρ).map fun ds=>d::ds
theorem aN2:JA X [] A3:=⟨fun ρ ds h=>by cases h;rfl,fun ρ ds h pos pins s σ H Q I ⟨H0,Hf,ss,sl,k⟩=>by
 cases h
 exact E8 pos pins s σ H Q I (k [] H Hf (Grow.refl ss) rfl)⟩
theorem ax3{e:Expr}{es:List Expr}{f:DE}{g:Rho->Option (List D)}(h:JE X e f) (r:JA X es g) (hs:starEach (e::es) X.env=(false,eval e X.env)::starEach es X.env:=by rfl):JA X (e::es) (A0 f g):=by
 refine⟨fun ρ ds q=>?_,fun ρ ds q=>?_⟩
 ·obtain⟨d,h1,h2⟩:=xbm q
  obtain⟨es',h3,h4⟩:=Option.map_eq_some_iff.mp h2
  subst h4
  simp [r.len ρ es' h3]
 ·obtain⟨d,h1,h2⟩:=xbm q
  obtain⟨es',h3,h4⟩:=Option.map_eq_some_iff.mp h2
  subst h4
  intro pos pins s σ H Q I ⟨H0,Hf,ss,sl,k⟩
  refine C7 (h ρ d h1) (r.run ρ es' h3) hs pos pins s σ H Q I ⟨H0,Hf,ss,sl,fun v H1 Hf1 g1 r1=>⟨H0,Hf1,g1.sub,sl.grow g1,fun vs H2 Hf2 g2 r2=>?_⟩⟩
  exact k (v::vs) H2 Hf2 (g1.trans g2) ⟨v,vs,rfl,r1.mono g2.ext,r2⟩
noncomputable def C9(f:Rho->Option (List D)):DE:=fun ρ=>(f ρ).map PyData.tuple
theorem aL9{es:List Expr}{f:Rho->Option (List D)}{k:Nat}{pos:Pos}(h:JA X es f) (hn:es.length<=1000:=by decide):JE X (.Tuple es k pos) (C9 f):=fun ρ d q=>by
 obtain⟨ds,h1,h2⟩:=Option.map_eq_some_iff.mp q
 subst h2
 refine B2 (bh7 fun pos pins s σ H Q I t=>h.run ρ ds h1 pos pins s σ H Q I t) fun σ H Q ⟨H0,Hf,s,sl,k⟩=>?_
 refine⟨H0,Hf,s,sl,fun vs H1 Hf1 g r=>⟨?_,fun p hp=>?_⟩⟩
 ·rw [r.length,h.len ρ ds h1];exact Nat.le_of_lt (g6 hn)
 ·exact k _ _ _ (g.trans (Grow.laid g.sub hp)) ⟨p,vs,rfl,SqT.of B0,r.mono (Grow.laid (o:=.tup vs) g.sub hp).ext⟩
theorem aL4{es:List Expr}{f:Rho->Option (List D)}{pos:Pos}(h:JA X es f) (hn:es.length<=1000:=by decide):JN X (.List es pos) f:=fun ρ ds h1=>by
 refine B2 (aH8 fun pos pins s σ H Q I t=>h.run ρ ds h1 pos pins s σ H Q I t) fun σ H Q ⟨H0,Hf,s,sl,k⟩=>?_
 refine⟨H0,Hf,s,sl,fun vs H1 Hf1 g r=>⟨?_,fun p hp=>?_⟩⟩
 ·rw [r.length,h.len ρ ds h1];exact Nat.le_of_lt (g6 hn)
 ·exact k _ _ _ (g.trans (Grow.made g.sub hp)) ⟨p,vs,rfl,g.big.free hp,B0,g.sub.free hp,r⟩
noncomputable def E2(f:Rho->Option (List D)):DE:=fun ρ=>(f ρ).map PyData.list
theorem Y6{e:Expr}{f:Rho->Option (List D)}(h:JN X e f):JE X e (E2 f):=fun ρ d q=>by
 obtain⟨ds,h1,h2⟩:=Option.map_eq_some_iff.mp q
 subst h2
 refine B2 (h ρ ds h1) fun σ H Q ⟨H0,Hf,s,sl,k⟩=>⟨H0,Hf,s,sl,fun v H' Hf' g ⟨a,vs,e1,e2,e3,e4,e5⟩=>?_⟩
 subst e1
 exact k _ _ _ (g.freeze e3 e4 e2) ⟨a,vs,rfl,SqL.of B0,e5.mono (C5 e4)⟩
theorem aL2{e:Expr}{f:Rho->Option (List D)}(h:JN X e f):JQ X e (fun ρ=>(f ρ).map fun ds=>(false,ds)):=fun ρ t ds q=>by
 obtain⟨ds',h1,h2⟩:=Option.map_eq_some_iff.mp q
 cases h2
 refine B2 (h ρ ds h1) fun σ H Q ⟨H0,Hf,s,sl,k⟩=>⟨H0,Hf,s,sl,fun v H' Hf' g ⟨a,vs,e1,e2,e3,e4,e5⟩=>?_⟩
 subst e1
 exact k _ _ _ g ⟨a,vs,rfl,SqL.of e3,e5⟩
noncomputable def OpD(X:Cx) (F:Value->Value->Sem Value) (h:D->D->Option D):Prop:=∀x y z,h x y=some z ->
 OpR X F fun vx vy H Q=>∃Hf,C2 Hf H/\Rep X.K Hf x vx/\Rep X.K Hf y vy/\∀v H' Hf',Grow H Hf H' Hf'->Rep X.K Hf' z v->Q v H'
noncomputable def A4(h:D->D->Option D) (f g:DE):DE:=fun ρ=>(f ρ).bind fun x=>(g ρ).bind fun y=>h x y
theorem O0{op:Operator}{h:D->D->Option D}{a b:Expr}{f g:DE}{pos:Pos}(o:OpD X (binaryOp op) h) (ha:JE X a f) (hb:JE X b g):JE X (.BinOp a op b pos) (A4 h f g):=fun ρ d q=>by
 obtain⟨x,h1,q⟩:=xbm q
 obtain⟨y,h2,h3⟩:=xbm q
 refine B2 (bb1 (o x y d h3) (ha ρ x h1) (hb ρ y h2)) fun σ H Q ⟨H0,Hf,s,sl,k⟩=>?_
 refine⟨H0,Hf,s,sl,fun v H1 Hf1 g1 r1=>⟨H0,Hf1,g1.sub,sl.grow g1,fun u H2 Hf2 g2 r2=>?_⟩⟩
 exact⟨Hf2,g2.sub,r1.mono g2.ext,r2,fun w H3 Hf3 g3 r3=>k w H3 Hf3 ((g1.trans g2).trans g3) r3⟩
theorem aM7{op:CmpOp}{h:D->D->Option D}{a b:Expr}{f g:DE}{pos:Pos}(o:OpD X (compareOp op) h) (ha:JE X a f) (hb:JE X b g) (hm:behindInMarks op b=false:=by first|exact aJ5 _|rfl):JE X (.Compare a [op] [b] pos) (A4 h f g):=fun ρ d q=>by
 obtain⟨x,h1,q⟩:=xbm q
 obtain⟨y,h2,h3⟩:=xbm q
 refine B2 (aU1 (o x y d h3) (ha ρ x h1) (hb ρ y h2) hm) fun σ H Q ⟨H0,Hf,s,sl,k⟩=>?_
 refine⟨H0,Hf,s,sl,fun v H1 Hf1 g1 r1=>⟨H0,Hf1,g1.sub,sl.grow g1,fun u H2 Hf2 g2 r2=>?_⟩⟩
 exact⟨Hf2,g2.sub,r1.mono g2.ext,r2,fun w H3 Hf3 g3 r3=>k w H3 Hf3 ((g1.trans g2).trans g3) r3⟩
theorem OpR.imp{F:Value->Value->Sem Value}{r r':R2}(h:OpR X F r) (i:∀x y H Q,r' x y H Q->r x y H Q):OpR X F r':=fun pins s σ H x y v u Q I rx ry q=>h pins s σ H x y v u Q I rx ry (i x y H Q q)
end
section
variable {X:Cx}
noncomputable def C6(i:Int):Prop:=i.natAbs < 2 ^ 8000
instance:DecidablePred C6:=fun i=>inferInstanceAs (Decidable (i.natAbs < 2 ^ 8000))
theorem C6.log{i:Int}(h:C6 i) (h0:i.natAbs≠0):i.natAbs.log2 < 8000:=(Nat.log2_lt h0).mpr h
theorem C6.bits{i:Int}(h:C6 i):Builtin.Int.intBits i<=2 ^ 20:=by
 unfold Builtin.Int.intBits
 split
 ·exact Nat.zero_le _
 ·rename_i h0
  have:=h.log (by simpa using h0)
  omega
theorem aU7{X:Cx}:OpR X (binaryOp .Mult) (rI (fun i j=>C6 i/\C6 j) fun i j=>.int (i*j)):=opI fun _ _ _ _ _ _ _ hc q=>mul_int q (PySem.IntMulOk.of_bits hc.1.bits hc.2.bits)
noncomputable def by6(x y:D):Option D:=match x,y with
 | .int i,.int j=>some (.int (i+j))
 | _,_=>none
noncomputable def aF8(x y:D):Option D:=match x,y with
 | .int i,.int j=>some (.int (i - j))
 | .int i,.bool b=>some (.int (i - if b=true then 1 else 0))
 | .bool a,.int j=>some (.int ((if a=true then 1 else 0) - j))
 | _,_=>none
noncomputable def bj6(x y:D):Option D:=match x,y with
 | .int i,.int j=>if C6 i/\C6 j then some (.int (i*j)) else none
 | _,_=>none
noncomputable def R0(x y:D):Option D:=match x,y with
 | .int i,.int j=>if 0 < j/\C6 j then some (.int (i / j)) else none
 | _,_=>none
noncomputable def N9(x y:D):Option D:=match x,y with
 | .int i,.int j=>if 0 < j then some (.int (i % j)) else none
 | _,_=>none
theorem bA8:OpD X (binaryOp .Add) by6:=fun x y z h=>by
 unfold by6 at h
 split at h
 ·cases h
  exact OpR.imp aI5 fun vx vy H Q ⟨Hf,s,r1,r2,k⟩=>⟨_,_,r1,r2,k _ H Hf (Grow.refl s) rfl⟩
 ·cases h
theorem bi8:OpD X (binaryOp .Sub) aF8:=fun x y z h=>by
 unfold aF8 at h
 split at h
 ·cases h
  exact OpR.imp bi5 fun vx vy H Q ⟨Hf,s,r1,r2,k⟩=>⟨_,_,r1,r2,k _ H Hf (Grow.refl s) rfl⟩
 ·cases h
  intro pins s σ H vx vy v u Q I rx ry ⟨Hf,ss,r1,r2,k⟩
  cases r1;cases r2
  obtain⟨t,rfl⟩:=rx
  obtain rfl:u=Value.bool _:=ry
  exact PySem.IntBool.sub_int_bool ⟨.int _,H,I.tok _,⟨_,rfl⟩,k _ H Hf (Grow.refl ss) rfl⟩
 ·cases h
  intro pins s σ H vx vy v u Q I rx ry ⟨Hf,ss,r1,r2,k⟩
  cases r1;cases r2
  obtain⟨t,rfl⟩:=ry
  obtain rfl:v=Value.bool _:=rx
  exact PySem.IntBool.sub_bool_int ⟨.int _,H,I.tok _,⟨_,rfl⟩,k _ H Hf (Grow.refl ss) rfl⟩
 ·cases h
theorem bi9:OpD X (binaryOp .Mult) bj6:=fun x y z h=>by
 unfold bj6 at h
 split at h
 ·split at h
  ·rename_i c
   cases h
   exact OpR.imp aU7 fun vx vy H Q ⟨Hf,s,r1,r2,k⟩=>⟨_,_,r1,r2,c,k _ H Hf (Grow.refl s) rfl⟩
  ·cases h
 ·cases h
theorem aB0:OpR X (binaryOp .FloorDiv) (rI (fun _ j=>0 < j/\C6 j) fun i j=>.int (i / j)):=opI fun i j _ _ s Q E hc q=>by
 have e:i.fdiv j=i / j:=Int.fdiv_eq_ediv_of_nonneg i (Int.le_of_lt hc.1)
 refine floordiv_int (by omega) (by rw [e];exact q) (.inl (PyProof.noPylong_of_log2 ?_))
 have h2:=hc.2.log (by omega)
 omega
theorem bj2:OpD X (binaryOp .FloorDiv) R0:=fun x y z h=>by
 unfold R0 at h
 split at h
 ·split at h
  ·rename_i c
   cases h
   exact OpR.imp aB0 fun vx vy H Q ⟨Hf,s,r1,r2,k⟩=>⟨_,_,r1,r2,c,k _ H Hf (Grow.refl s) rfl⟩
  ·cases h
 ·cases h
theorem bj0:OpD X (binaryOp .Mod) N9:=fun x y z h=>by
 unfold N9 at h
 split at h
 ·split at h
  ·rename_i c
   cases h
   exact OpR.imp bi6 fun vx vy H Q ⟨Hf,s,r1,r2,k⟩=>⟨_,_,r1,r2,c,k _ H Hf (Grow.refl s) rfl⟩
  ·cases h
 ·cases h
theorem aI4:OpR X (binaryOp .Add) (fun x y H Q=>∃a b ys,x=.ref a/\y=.ref b/\SqT X.K H a []/\SqT X.K H b ys/\Q (.ref b) H):=by
 intro pins s σ H x y v u Q I rx ry h
 obtain⟨a,b,ys,rfl,rfl,ha,hb,q⟩:=h
 cases rx
 cases ry
 obtain⟨its,r1,p1,_⟩:=I.tuple ha
 obtain⟨its2,r2,p2,_⟩:=I.tuple hb
 cases r1
 obtain⟨⟨cls,dd,data,sl⟩,ho,hc,n,hd⟩:=id p1
 obtain⟨⟨cls2,dd2,data2,sl2⟩,ho2,hc2,n2,hd2⟩:=id p2
 simp only at hc hd hc2 hd2
 subst hc hd hc2 hd2
 exact concat_meets ⟨_,ho,rfl⟩ ⟨_,ho2,rfl⟩ noFill_tuple_add seq_tuple_add PySem.F.slot_tuple_add PySem.F.entry_tuple_add (PySem.F.args_tuple_add_2 _ _)
   (tuple_addW0 a b _ its2.toArray n n2 dd dd2 sl sl2 (by rfl)) ⟨ho,ho2,⟨.ref b,H,I,rfl,q⟩⟩
noncomputable def Q3(x y:D):Option D:=match x,y with
 | .tuple xs,.tuple ys=>if xs.length+ys.length<=16777216 then some (.tuple (xs++ys)) else none
 | .str a,.str b=>if a.length+b.length<=16777216 then some (.str (a++b)) else none
 | .int i,.int j=>some (.int (i+j))
 | .bool a,.int j=>some (.int ((if a=true then 1 else 0)+j))
 | _,_=>none
theorem aI9:OpD X (binaryOp .Add) Q3:=fun x y z h=>by
 unfold Q3 at h
 split at h
 ·split at h
  ·rename_i xs ys c
   cases h
   cases xs with
   | nil =>
    refine OpR.imp aI4 fun vx vy H Q ⟨Hf,s,r1,r2,k⟩=>?_
    obtain⟨a,vs,rfl,h2,h3⟩:=r1
    obtain⟨b,us,rfl,h5,h6⟩:=r2
    cases h3
    exact⟨a,b,us,rfl,rfl,B9 s h2,B9 s h5,k _ H Hf (Grow.refl s) ⟨b,us,rfl,h5,h6⟩⟩
   | cons d0 ds0 =>
    refine OpR.imp aU8 fun vx vy H Q ⟨Hf,s,r1,r2,k⟩=>?_
    obtain⟨a,vs,rfl,h2,h3⟩:=r1
    obtain⟨b,us,rfl,h5,h6⟩:=r2
    have l1:=h3.length
    have l2:=h6.length
    refine⟨a,b,vs,us,rfl,rfl,B9 s h2,B9 s h5,?_,by rw [sizeLine_eq];omega,fun e=>?_,fun e p hp=>?_⟩
    ·intro e;subst e;simp at l1
    ·subst e
     have:ys=[]:=by cases ys<;>simp_all
     subst this
     exact k _ H Hf (Grow.refl s) ⟨a,vs,rfl,h2,by rw [List.append_nil];exact h3⟩
    ·exact k _ _ _ (Grow.laid s hp) ⟨p,vs++us,rfl,SqT.of B0,(h3.append h6).mono (C5 (s.free hp))⟩
  ·cases h
 ·split at h
  ·rename_i c
   cases h
   exact OpR.imp aq9 fun vx vy H Q ⟨Hf,s,r1,r2,k⟩=>⟨_,_,r1,r2,by rw [sizeLine_eq];exact c,k _ H Hf (Grow.refl s) rfl⟩
  ·cases h
 ·cases h
  exact OpR.imp aI5 fun vx vy H Q ⟨Hf,s,r1,r2,k⟩=>⟨_,_,r1,r2,k _ H Hf (Grow.refl s) rfl⟩
 ·cases h
  intro pins s σ H vx vy v u Q I rx ry ⟨Hf,ss,r1,r2,k⟩
  cases r1;cases r2
  obtain⟨t,rfl⟩:=ry
  obtain rfl:v=Value.bool _:=rx
  exact PySem.IntBool.add_bool_int ⟨.int _,H,I.tok _,⟨_,rfl⟩,k _ H Hf (Grow.refl ss) rfl⟩
 ·cases h
noncomputable def ltI(x y:D):Option D:=match x,y with
 | .int i,.int j=>some (.bool (decide (i < j)))
 | _,_=>none
noncomputable def leI(x y:D):Option D:=match x,y with
 | .int i,.int j=>some (.bool (decide (i<=j)))
 | _,_=>none
noncomputable def gtI(x y:D):Option D:=match x,y with
 | .int i,.int j=>some (.bool (decide (j < i)))
 | _,_=>none
noncomputable def geI(x y:D):Option D:=match x,y with
 | .int i,.int j=>some (.bool (decide (j<=i)))
 | _,_=>none
theorem bv1:OpD X (compareOp .Lt) ltI:=fun x y z h=>by
 unfold ltI at h
 split at h
 ·cases h
  exact OpR.imp bu4 fun vx vy H Q ⟨Hf,s,r1,r2,k⟩=>⟨_,_,r1,r2,k _ H Hf (Grow.refl s) rfl⟩
 ·cases h
theorem bv2:OpD X (compareOp .LtE) leI:=fun x y z h=>by
 unfold leI at h
 split at h
 ·cases h
  exact OpR.imp bu5 fun vx vy H Q ⟨Hf,s,r1,r2,k⟩=>⟨_,_,r1,r2,k _ H Hf (Grow.refl s) rfl⟩
 ·cases h
theorem bv5:OpD X (compareOp .Gt) gtI:=fun x y z h=>by
 unfold gtI at h
 split at h
 ·cases h
  exact OpR.imp bu6 fun vx vy H Q ⟨Hf,s,r1,r2,k⟩=>⟨_,_,r1,r2,k _ H Hf (Grow.refl s) rfl⟩
 ·cases h
theorem bv6:OpD X (compareOp .GtE) geI:=fun x y z h=>by
 unfold geI at h
 split at h
 ·cases h
  exact OpR.imp bu7 fun vx vy H Q ⟨Hf,s,r1,r2,k⟩=>⟨_,_,r1,r2,k _ H Hf (Grow.refl s) rfl⟩
 ·cases h
mutual
theorem Rep.reads{pins:List (Addr×Obj)}{σ:L2.St}{H:Hp}{s:Shared}(I:Inv X pins σ H s):∀{d:D}{v:V}{u:Value},Rep X.K H d v->D4 v u->∃as,Reads s.heap u d as
 | .none,_,_,h,r=>by cases h;cases r;exact⟨_,.none⟩
 | .bool b,_,_,h,r=>by cases h;cases r;exact⟨_,.bool b⟩
 | .int i,_,_,h,r=>by cases h;obtain⟨t,rfl⟩:=r;exact⟨_,.int i t⟩
 | .str x,_,_,h,r=>by cases h;obtain⟨t,rfl⟩:=r;exact⟨_,.str x t⟩
 | .tuple ds,_,_,⟨a,vs,h1,h2,h3⟩,r=>by
  subst h1;cases r
  obtain⟨its,rv,⟨o,ho,hc,n,hd⟩,_⟩:=I.tuple h2
  obtain⟨as,q⟩:=Reps.reads I h3 rv
  exact⟨_,.tuple ho hc hd (by simpa using q)⟩
 | .list ds,_,_,⟨a,vs,h1,h2,h3⟩,r=>by
  subst h1;cases r
  obtain⟨its,rv,pl,_⟩:=I.list h2
  obtain⟨o,ho,hc,n,hd⟩:=pl.isList
  obtain⟨as,q⟩:=Reps.reads I h3 rv
  exact⟨_,.list ho hc hd (by simpa using q)⟩
 | .dict _,_,_,h,_=>h.elim
theorem Reps.reads{pins:List (Addr×Obj)}{σ:L2.St}{H:Hp}{s:Shared}(I:Inv X pins σ H s):∀{ds:List D}{vs:List V}{us:List Value},Reps X.K H ds vs->C3 vs us->∃as,ReadsAll s.heap us ds as
 | [],_,_,h,r=>by cases h;cases r;exact⟨_,.nil⟩
 | d::ds,_,_,⟨v,vr,h1,h2,h3⟩,r=>by
  subst h1
  cases r with
  | cons r1 r2 =>
   obtain⟨as,q1⟩:=Rep.reads I h2 r1
   obtain⟨bs,q2⟩:=Reps.reads I h3 r2
   exact⟨_,.cons q1 q2⟩
end
noncomputable def eqD(x y:D):Option D:=if SeqAt.shaped x=true/\SeqAt.shaped y=true then some (.bool (PyData.eqv x y)) else none
noncomputable def neD(x y:D):Option D:=if SeqAt.shaped x=true/\SeqAt.shaped y=true then some (.bool (!PyData.eqv x y)) else none
theorem bv7(hu:X.A.units+64 < cLine):OpD X (compareOp .Eq) eqD:=fun x y z h=>by
 unfold eqD at h
 split at h
 ·rename_i c
  cases h
  intro pins s σ H vx vy v u Q I rx ry ⟨Hf,ss,r1,r2,k⟩
  obtain⟨as,q1⟩:=Rep.reads I (r1.mono ss) rx
  obtain⟨bs,q2⟩:=Rep.reads I (r2.mono ss) ry
  exact eq_dataH q1 q2 c.1 c.2 hu ⟨.bl _,H,I,rfl,k _ H Hf (Grow.refl ss) rfl⟩
 ·cases h
theorem bv0(hu:X.A.units+64 < cLine):OpD X (compareOp .NotEq) neD:=fun x y z h=>by
 unfold neD at h
 split at h
 ·rename_i c
  cases h
  intro pins s σ H vx vy v u Q I rx ry ⟨Hf,ss,r1,r2,k⟩
  obtain⟨as,q1⟩:=Rep.reads I (r1.mono ss) rx
  obtain⟨bs,q2⟩:=Rep.reads I (r2.mono ss) ry
  exact ne_dataH q1 q2 c.1 c.2 hu ⟨.bl _,H,I,rfl,k _ H Hf (Grow.refl ss) rfl⟩
 ·cases h
noncomputable def isN(x y:D):Option D:=match x,y with
 | .none,.none=>some (.bool true)
 | .dict _,_=>none
 | _,.none=>some (.bool false)
 | _,_=>none
theorem av0{K:PySem.W.Frag}{H:Hp}{d:D}{v:V}(h:Rep K H d v):(decide (v=.non))=(match d with | .none=>true|_=>false):=by
 cases d with
 | none=>cases h;rfl
 | bool b=>cases h;rfl
 | int b=>cases h;rfl
 | str b=>cases h;rfl
 | tuple ds=>obtain⟨a,vs,rfl,_⟩:=h;rfl
 | list ds=>obtain⟨a,vs,rfl,_⟩:=h;rfl
 | dict ds=>exact h.elim
theorem bj1:OpD X (compareOp .Is) isN:=fun x y z h=>by
 refine OpR.imp bi7 fun vx vy H Q ⟨Hf,s,r1,r2,k⟩=>?_
 have e:=av0 r1
 cases y<;>cases x<;>simp only [isN,Option.some.injEq,reduceCtorEq]at h <;>
  (subst h;simp only at e;rw [e];exact⟨r2,k _ H Hf (Grow.refl s) rfl⟩)
noncomputable def bj4(x y:D):Option D:=match x,y with
 | .none,.none=>some (.bool false)
 | .dict _,_=>none
 | _,.none=>some (.bool true)
 | _,_=>none
theorem aV3:OpD X (compareOp .IsNot) bj4:=fun x y z h=>by
 refine OpR.imp aU6 fun vx vy H Q ⟨Hf,s,r1,r2,k⟩=>?_
 have e:=av0 r1
 cases y<;>cases x<;>simp only [bj4,Option.some.injEq,reduceCtorEq]at h <;>
  (subst h;simp only at e;rw [e];exact⟨r2,k _ H Hf (Grow.refl s) rfl⟩)
noncomputable def F9(h1 h2:D->D->Option D) (f g k:DE):DE:=fun ρ=>(f ρ).bind fun x=>(g ρ).bind fun y=>(h1 x y).bind fun z=>match z with
 | .bool true=>(k ρ).bind fun w=>h2 y w
 | .bool false=>some (.bool false)
 | _=>none
theorem aM8{op op':CmpOp}{h1 h2:D->D->Option D}{a b c:Expr}{f g k:DE}{pos:Pos}(o1:OpD X (compareOp op) h1) (o2:OpD X (compareOp op') h2) (ha:JE X a f) (hb:JE X b g) (hc:JE X c k)
  (hm:lastMarks [op,op'] [b,c]=false:=by with_unfolding_all rfl):JE X (.Compare a [op,op'] [b,c] pos) (F9 h1 h2 f g k):=fun ρ d q=>by
 obtain⟨x,e1,q⟩:=xbm q
 obtain⟨y,e2,q⟩:=xbm q
 obtain⟨z,e3,q⟩:=xbm q
 split at q
 ·obtain⟨w,e4,e5⟩:=xbm q
  refine B2 (al5 (o1 x y _ e3) (o2 y w d e5) (ha ρ x e1) (hb ρ y e2) (hc ρ w e4) hm) fun σ H Q ⟨H0,Hf,s,sl,kk⟩=>?_
  refine⟨H0,Hf,s,sl,fun v H1 Hf1 g1 r1=>⟨H0,Hf1,g1.sub,sl.grow g1,fun u H2 Hf2 g2 r2=>⟨Hf2,g2.sub,r1.mono g2.ext,r2,fun z' H3 Hf3 g3 r3=>?_⟩⟩⟩
  refine⟨true,r3,ab5 ⟨H0,Hf3,g3.sub,sl.grow ((g1.trans g2).trans g3),fun w' H4 Hf4 g4 r4=>⟨Hf4,g4.sub,r2.mono (g3.trans g4).ext,r4,fun z2 H5 Hf5 g5 r5=>?_⟩⟩⟩
  exact kk z2 H5 Hf5 ((((g1.trans g2).trans g3).trans g4).trans g5) r5
 ·cases q
  intro pins s σ H Q I ⟨H0,Hf,ss,sl,kk⟩
  refine al5 (tc:=fun _ _ _=>False) (r':=fun _ _ _ _=>False) (o1 x y _ e3) (fun _ _ _ _ _ _ _ _ _ _ _ _ h=>h.elim) (ha ρ x e1) (hb ρ y e2) (fun _ _ _ _ _ _ h=>h.elim) hm pins s σ H Q I ?_
  refine⟨H0,Hf,ss,sl,fun v H1 Hf1 g1 r1=>⟨H0,Hf1,g1.sub,sl.grow g1,fun u H2 Hf2 g2 r2=>⟨Hf2,g2.sub,r1.mono g2.ext,r2,fun z' H3 Hf3 g3 r3=>?_⟩⟩⟩
  exact⟨false,r3,ab6 (kk _ H3 Hf3 ((g1.trans g2).trans g3) rfl)⟩
 ·cases q
theorem bn0{op:BoolOp}{a:Expr}{f:DE}{pos:Pos}(h:JE X a f):JE X (.BoolOp op [a] pos) f:=fun ρ d q=>bi0 (h ρ d q)
noncomputable def T1(f g:DE):DE:=fun ρ=>(f ρ).bind fun x=>match x with
 | .bool true=>g ρ
 | .bool false=>some (.bool false)
 | _=>none
noncomputable def dOr(f g:DE):DE:=fun ρ=>(f ρ).bind fun x=>match x with
 | .bool true=>some (.bool true)
 | .bool false=>g ρ
 | _=>none
noncomputable def T0(f:DE):DE:=fun ρ=>(f ρ).bind fun x=>match x with
 | .bool c=>some (.bool (!c))
 | _=>none
theorem bn6{a b:Expr}{J4:List Expr}{f g:DE}{pos:Pos}(ha:JE X a f) (hb:JE X (.BoolOp .And (b::J4) pos) g):JE X (.BoolOp .And (a::b::J4) pos) (T1 f g):=fun ρ d q=>by
 obtain⟨x,e1,q⟩:=xbm q
 split at q
 ·refine B2 (aI1 (ha ρ _ e1) (hb ρ d q)) fun σ H Q ⟨H0,Hf,s,sl,k⟩=>⟨H0,Hf,s,sl,fun v H1 Hf1 g1 r1=>⟨true,r1,ab5 ⟨H0,Hf1,g1.sub,sl.grow g1,fun u H2 Hf2 g2 r2=>k u H2 Hf2 (g1.trans g2) r2⟩⟩⟩
 ·cases q
  refine B2 (aI1 (tb:=fun _ _ _=>False) (ha ρ _ e1) (fun _ _ _ _ _ _ h=>h.elim)) fun σ H Q ⟨H0,Hf,s,sl,k⟩=>⟨H0,Hf,s,sl,fun v H1 Hf1 g1 r1=>⟨false,r1,ab6 (k _ H1 Hf1 g1 rfl)⟩⟩
 ·cases q
theorem bw8{a b:Expr}{J4:List Expr}{f g:DE}{pos:Pos}(ha:JE X a f) (hb:JE X (.BoolOp .Or (b::J4) pos) g):JE X (.BoolOp .Or (a::b::J4) pos) (dOr f g):=fun ρ d q=>by
 obtain⟨x,e1,q⟩:=xbm q
 split at q
 ·cases q
  refine B2 (bb0 (tb:=fun _ _ _=>False) (ha ρ _ e1) (fun _ _ _ _ _ _ h=>h.elim)) fun σ H Q ⟨H0,Hf,s,sl,k⟩=>⟨H0,Hf,s,sl,fun v H1 Hf1 g1 r1=>⟨true,r1,ab5 (k _ H1 Hf1 g1 rfl)⟩⟩
 ·refine B2 (bb0 (ha ρ _ e1) (hb ρ d q)) fun σ H Q ⟨H0,Hf,s,sl,k⟩=>⟨H0,Hf,s,sl,fun v H1 Hf1 g1 r1=>⟨false,r1,ab6 ⟨H0,Hf1,g1.sub,sl.grow g1,fun u H2 Hf2 g2 r2=>k u H2 Hf2 (g1.trans g2) r2⟩⟩⟩
 ·cases q
theorem aM1{a:Expr}{f:DE}{pos:Pos}(ha:JE X a f):JE X (.UnaryOp .Not a pos) (T0 f):=fun ρ d q=>by
 obtain⟨x,e1,q⟩:=xbm q
 split at q
 ·cases q
  exact B2 (bi1 (ha ρ _ e1)) fun σ H Q ⟨H0,Hf,s,sl,k⟩=>⟨H0,Hf,s,sl,fun v H1 Hf1 g1 r1=>⟨_,r1,k _ H1 Hf1 g1 rfl⟩⟩
 ·cases q
noncomputable def U2:D->Option Bool
 | .none=>some false
 | .bool b=>some b
 | .int i=>some (i != 0)
 | .str x=>if x.length<=16777216 then some ((x.length:Int) != 0) else none
 | .list ds=>some (!ds.isEmpty)
 | .tuple ds=>some (!ds.isEmpty)
 | .dict _=>none
noncomputable def P6(f:DE):Rho->Option Bool:=fun ρ=>(f ρ).bind U2
theorem aK3{a:Expr}{f:DE}(ha:JE X a f) (he:∀whole,isTrue a X.env whole=(do let v ← whole;standAt a.pos;holding [v] (truthy v)):=by intro _;rfl):JT X a (P6 f):=fun ρ c q=>by
 obtain⟨d,e1,e2⟩:=xbm q
 refine ag7 (aH1 (ha ρ d e1) he) fun σ H Q ⟨H0,Hf,s,sl,k⟩=>⟨H0,Hf,s,sl,fun v H1 Hf1 g1 r1=>⟨c,?_,k H1 Hf1 g1⟩⟩
 cases d with
 | none=>cases e2;cases r1;rfl
 | bool b=>cases e2;cases r1;rfl
 | int i=>cases e2;cases r1;rfl
 | str x =>
  simp only [U2]at e2
  split at e2
  ·rename_i hx;cases e2;cases r1;exact⟨by rw [sizeLine_eq];exact hx,rfl⟩
  ·cases e2
 | list ds =>
  cases e2
  obtain⟨a,vs,rfl,h2,h3⟩:=r1
  refine .inl ⟨vs,D1 g1.sub h2,?_⟩
  have:=h3.length
  cases ds<;>cases vs<;>simp_all
 | tuple ds =>
  cases e2
  obtain⟨a,vs,rfl,h2,h3⟩:=r1
  refine .inr (.inl ⟨vs,B9 g1.sub h2,?_⟩)
  have:=h3.length
  cases ds<;>cases vs<;>simp_all
 | dict _=>cases e2
noncomputable def E4:D->Option Bool
 | .bool b=>some b
 | _=>none
noncomputable def tB2(h:D->D->Option D) (f g:DE):Rho->Option Bool:=fun ρ=>(A4 h f g ρ).bind E4
theorem ay6{d:D}{c:Bool}(h:E4 d=some c):d=.bool c:=by
 cases d<;>simp [E4]at h
 subst h;rfl
theorem aK5{op:CmpOp}{h:D->D->Option D}{a b:Expr}{f g:DE}{pos:Pos}(o:OpD X (compareOp op) h) (ha:JE X a f) (hb:JE X b g) (hm:behindInMarks op b=false:=by first|exact aJ5 _|rfl):JT X (.Compare a [op] [b] pos) (tB2 h f g):=fun ρ c q=>by
 obtain⟨d,q,e⟩:=xbm q
 obtain⟨x,h1,q⟩:=xbm q
 obtain⟨y,h2,h3⟩:=xbm q
 have:=ay6 e
 subst this
 refine ag7 (aT1 (o x y _ h3) (ha ρ x h1) (hb ρ y h2) hm) fun σ H Q ⟨H0,Hf,s,sl,k⟩=>?_
 refine⟨H0,Hf,s,sl,fun v H1 Hf1 g1 r1=>⟨H0,Hf1,g1.sub,sl.grow g1,fun u H2 Hf2 g2 r2=>?_⟩⟩
 exact⟨Hf2,g2.sub,r1.mono g2.ext,r2,fun w H3 Hf3 g3 r3=>⟨c,r3,k H3 Hf3 ((g1.trans g2).trans g3)⟩⟩
noncomputable def G9(f g:Rho->Option Bool):Rho->Option Bool:=fun ρ=>(f ρ).bind fun c=>if c then g ρ else some false
noncomputable def G4(f g:Rho->Option Bool):Rho->Option Bool:=fun ρ=>(f ρ).bind fun c=>if c then some true else g ρ
noncomputable def K0(f:Rho->Option Bool):Rho->Option Bool:=fun ρ=>(f ρ).map fun c=>!c
theorem ag6{e:Expr}{t t':TT}(h:PW X e t) (i:∀σ H Q,t' σ H Q->t σ H Q):PW X e t':=fun whole pins s σ H Q I q=>h whole pins s σ H Q I (i σ H Q q)
theorem am7{e:Expr}{f:Rho->Option Bool}(h:JW X e f):JT X e f:=fun ρ c q=>(h ρ c q).pt
theorem aV9{a:Expr}{f:Rho->Option Bool}{pos:Pos}(h:JT X a f):JW X (.BoolOp .And [a] pos) f:=fun ρ c q=>aS8 (h ρ c q)
theorem bk4{a:Expr}{f:Rho->Option Bool}{pos:Pos}(h:JT X a f):JW X (.BoolOp .Or [a] pos) f:=fun ρ c q=>bg8 (h ρ c q)
theorem bk5{a b:Expr}{J4:List Expr}{f g:Rho->Option Bool}{pos:Pos}(ha:JT X a f) (hb:JW X (.BoolOp .And (b::J4) pos) g):JW X (.BoolOp .And (a::b::J4) pos) (G9 f g):=fun ρ c q=>by
 obtain⟨x,e1,q⟩:=xbm q
 cases x with
 | true=>exact ag6 (aH0 (ha ρ _ e1) (hb ρ c (by simpa using q))) fun σ H Q ⟨H0,Hf,s,sl,k⟩=>⟨H0,Hf,s,sl,fun H1 Hf1 g1=>ab5 ⟨H0,Hf1,g1.sub,sl.grow g1,fun H2 Hf2 g2=>k H2 Hf2 (g1.trans g2)⟩⟩
 | false =>
  have:c=false:=by simpa using q.symm
  subst this
  exact ag6 (aH0 (tB':=fun _ _ _=>False) (ha ρ _ e1) (fun _ _ _ _ _ _ _ h=>h.elim)) fun σ H Q ⟨H0,Hf,s,sl,k⟩=>⟨H0,Hf,s,sl,fun H1 Hf1 g1=>ab6 (k H1 Hf1 g1)⟩
theorem bw2{a b:Expr}{J4:List Expr}{f g:Rho->Option Bool}{pos:Pos}(ha:JT X a f) (hb:JW X (.BoolOp .Or (b::J4) pos) g):JW X (.BoolOp .Or (a::b::J4) pos) (G4 f g):=fun ρ c q=>by
 obtain⟨x,e1,q⟩:=xbm q
 cases x with
 | false=>exact ag6 (ba8 (ha ρ _ e1) (hb ρ c (by simpa using q))) fun σ H Q ⟨H0,Hf,s,sl,k⟩=>⟨H0,Hf,s,sl,fun H1 Hf1 g1=>ab6 ⟨H0,Hf1,g1.sub,sl.grow g1,fun H2 Hf2 g2=>k H2 Hf2 (g1.trans g2)⟩⟩
 | true =>
  have:c=true:=by simpa using q.symm
  subst this
  exact ag6 (ba8 (tB':=fun _ _ _=>False) (ha ρ _ e1) (fun _ _ _ _ _ _ _ h=>h.elim)) fun σ H Q ⟨H0,Hf,s,sl,k⟩=>⟨H0,Hf,s,sl,fun H1 Hf1 g1=>ab5 (k H1 Hf1 g1)⟩
theorem aK4{a:Expr}{f:Rho->Option Bool}{pos:Pos}(ha:JT X a f):JT X (.UnaryOp .Not a pos) (K0 f):=fun ρ c q=>by
 obtain⟨x,e1,e2⟩:=Option.map_eq_some_iff.mp q
 subst e2
 exact ag7 (bg9 (ha ρ x e1)) fun σ H Q ⟨H0,Hf,s,sl,k⟩=>⟨H0,Hf,s,sl,fun H1 Hf1 g1=>k H1 Hf1 g1⟩
noncomputable def L6(t:Rho->Option Bool) (f g:DE):DE:=fun ρ=>(t ρ).bind fun c=>if c then f ρ else g ρ
theorem bn4{c a b:Expr}{t:Rho->Option Bool}{f g:DE}{pos:Pos}(hc:JT X c t) (ha:JE X a f) (hb:JE X b g):JE X (.IfExp c a b pos) (L6 t f g):=fun ρ d q=>by
 obtain⟨x,e1,q⟩:=xbm q
 cases x with
 | true=>exact B2 (al4 (tb:=fun _ _ _=>False) (hc ρ _ e1) (ha ρ d (by simpa using q)) (fun _ _ _ _ _ _ h=>h.elim)) fun σ H Q ⟨H0,Hf,s,sl,k⟩=>⟨H0,Hf,s,sl,fun H1 Hf1 g1=>ab5 ⟨H0,Hf1,g1.sub,sl.grow g1,fun u H2 Hf2 g2 r2=>k u H2 Hf2 (g1.trans g2) r2⟩⟩
 | false=>exact B2 (al4 (ta:=fun _ _ _=>False) (hc ρ _ e1) (fun _ _ _ _ _ _ h=>h.elim) (hb ρ d (by simpa using q))) fun σ H Q ⟨H0,Hf,s,sl,k⟩=>⟨H0,Hf,s,sl,fun H1 Hf1 g1=>ab6 ⟨H0,Hf1,g1.sub,sl.grow g1,fun u H2 Hf2 g2 r2=>k u H2 Hf2 (g1.trans g2) r2⟩⟩
noncomputable def dIx(f:Rho->Option (Bool×List D)) (g:DE):DE:=fun ρ=>(f ρ).bind fun q=>(g ρ).bind fun i=>match i with
 | .int i=>atI q.2 i
 | _=>none
theorem aS2{K:PySem.W.Frag}{H:Hp}{ds:List D}{vs:List V}{i:Int}{d:D}(h:Reps K H ds vs) (e:atI ds i=some d):∃v,atI vs i=some v/\Rep K H d v:=by
 unfold atI at e ⊢
 rw [h.length]
 obtain⟨j,h1,h2⟩:=xbm e
 obtain⟨v,h3,h4⟩:=h.get h2
 exact⟨v,by rw [h1];exact h3,h4⟩
theorem bw9{a b:Expr}{f:Rho->Option (Bool×List D)}{g:DE}{pos:Pos}(ha:JQ X a f) (hb:JE X b g) (hs:Q5 b:=by intro _ _;rfl):JE X (.Subscript a b pos) (dIx f g):=fun ρ d q=>by
 obtain⟨⟨t,ds⟩,h1,q⟩:=xbm q
 obtain⟨y,h2,h3⟩:=xbm q
 split at h3
 ·refine B2 (aH9 aN3 (ha ρ t ds h1) (hb ρ _ h2) hs) fun σ H Q ⟨H0,Hf,s,sl,k⟩=>?_
  refine⟨H0,Hf,s,sl,fun v H1 Hf1 g1 ⟨p,vs,e1,e2,e3⟩=>⟨H0,Hf1,g1.sub,sl.grow g1,fun u H2 Hf2 g2 r2=>?_⟩⟩
  obtain⟨w,q1,q2⟩:=aS2 (e3.mono g2.ext) h3
  cases t with
  | true=>exact .inr (.inl ⟨p,vs,_,w,e1,r2,B9 g2.big e2,q1,k w H2 Hf2 (g1.trans g2) q2⟩)
  | false=>exact .inl ⟨p,vs,_,w,e1,r2,D1 g2.big e2,q1,k w H2 Hf2 (g1.trans g2) q2⟩
 ·cases h3
noncomputable def Z4(xs:List D) (lo hi:Option Int):List D:=(xs.drop (HT.sIx xs.length 0 lo)).take (HT.sIx xs.length xs.length hi - HT.sIx xs.length 0 lo)
theorem w6{K:PySem.W.Frag}{H:Hp}{ds:List D}{vs:List V}(h:Reps K H ds vs) (lo hi:Option Int):Reps K H (Z4 ds lo hi) (ao1 vs lo hi):=by
 unfold Z4 ao1
 rw [h.length]
 exact(h.drop _).take _
noncomputable def JO(X:Cx) (e:Option Expr) (f:Rho->Option (Option Int)):Prop:=∀ρ o,f ρ=some o->PO X e (fun σ H Q=>∃H0 Hf,C2 Hf H/\Slots X.K H0 ρ σ H Hf/\∀H' Hf',Grow H Hf H' Hf'->Q o H')
noncomputable def G1:Rho->Option (Option Int):=fun _=>some none
noncomputable def J6:D->Option Int
 | .int i=>some i
 | _=>none
noncomputable def E7(f:DE):Rho->Option (Option Int):=fun ρ=>(f ρ).bind fun d=>(J6 d).map some
theorem aX2:JO X none G1:=fun ρ o q=>by
 cases q
 intro pins s σ H Q I ⟨H0,Hf,ss,sl,k⟩
 exact aT6 pins s σ H Q I (k H Hf (Grow.refl ss))
theorem aX1{e:Expr}{f:DE}(h:JE X e f):JO X (some e) (E7 f):=fun ρ o q=>by
 obtain⟨d,e1,e2⟩:=xbm q
 obtain⟨i,e3,e4⟩:=Option.map_eq_some_iff.mp e2
 subst e4
 cases d<;>simp [J6]at e3
 subst e3
 intro pins s σ H Q I ⟨H0,Hf,ss,sl,k⟩
 exact aT5 (h ρ _ e1) pins s σ H Q I ⟨H0,Hf,ss,sl,fun v H1 Hf1 g1 r1=>⟨_,r1,k H1 Hf1 g1⟩⟩
noncomputable def o5(f:DE) (lo hi:Rho->Option (Option Int)):DE:=fun ρ=>(f ρ).bind fun d=>(lo ρ).bind fun l=>(hi ρ).bind fun h=>match d with
 | .tuple xs=>some (.tuple (Z4 xs l h))
 | _=>none
theorem U4{prog:Program}{w:World}{A:Around}{E:Value->Shared->Prop}{s:Shared}{t sl:Addr}{items:Array Value}{vl vu:Value}{lo hi:Option Int}{Q:Value->Shared->Prop}(ht:IsTup s.heap t items) (hs:s.heap.IsSliceOf sl vl vu .none) (pl:IsPart vl lo) (pu:IsPart vu hi)
  (hw:HT.sIx items.size 0 lo=0/\HT.sIx items.size items.size hi=items.size) (h:Q (.ref t) s):wpAny (model prog w) A (getItem (.ref t) (.ref sl)) Q E s:=by
 obtain⟨os,hos,hcs,hds⟩:=id hs
 have hTs:s.TypeIs (.ref sl) "slice" := ⟨os,hos,hcs⟩
 unfold getItem
 try with_reducible refine wpAny_holding ?_
 first|refine wpAny_bind (wpAny_pure ?_)|skip
 refine wpAny_bind (wpAny_sequenceKey ht.typeIs (by decide) ?_)
 refine wpAny_bind (wpAny_callSpecial?_slot (name:=Str.ofString "__getitem__") ht.typeIs PyProof.Rows.slot_tuple_getitem
  (wpAny_call_entry PyProof.Rows.slot_tuple_getitem ht.typeIs entry_tuple_getitem ?_ (args_tuple_getitem _ _)))
 show wpAny _ _ (Builtin.Tuple.tupleItemsOf (.ref t) >>= _) _ _ s
 refine wpAny_bind (tupleItemsOf_ ht ?_)
 refine wpAny_bind (wpAny_typeOf hTs ?_)
 rw [if_pos (by decide)]
 refine wpAny_bind (HT.sliceApplied_gen hs pl pu ?_)
 have hyes:((((HT.sIx items.size 0 lo:Nat):Int)==0&&(1:Int)==1&&(HT.sIx items.size items.size hi - HT.sIx items.size 0 lo)==items.size)=true):=by
  rw [hw.1,hw.2];simp
 show wpAny _ _ (if(((HT.sIx items.size 0 lo:Nat):Int)==0&&(1:Int)==1&&(HT.sIx items.size items.size hi - HT.sIx items.size 0 lo)==items.size)=true then _ else _) _ _ s
 rw [if_pos hyes]
 unfold Builtin.Tuple.tupleIsExact
 refine wpAny_bind (wpAny_bind (wpAny_typeOf ht.typeIs (wpAny_pure ?_)))
 rw [if_pos (by decide +kernel)]
 exact wpAny_bind (wpAny_rule (wpAny_pure ⟨_,rfl,wpAny_pure h⟩))
theorem af6:SlR X (fun x lo hi H Q=>∃a xs,x=.ref a/\SqT X.K H a xs/\(HT.sIx xs.length 0 lo=0/\HT.sIx xs.length xs.length hi=xs.length)/\Q (.ref a) H):=by
 intro pins s σ H x v vl vu lo hi sl Q I rx hs pl pu h
 obtain⟨a,xs,rfl,hx,hw,q⟩:=h
 cases rx
 obtain⟨its,r,ht,hz⟩:=I.tuple hx
 have hlen:its.toArray.size=xs.length:=by rw [List.size_toArray];exact r.length.symm
 refine⟨"tuple", _,PyProof.Rows.slot_tuple_getitem.lookup,ht.typeIs,?_⟩
 exact U4 ht hs pl pu (by rw [hlen];exact hw) ⟨.ref a,H,I,rfl,q⟩
theorem aM0{a:Expr}{lo hi:Option Expr}{f:DE}{l h:Rho->Option (Option Int)}{pos p2:Pos}(ha:JE X a f) (hl:JO X lo l) (hh:JO X hi h):JE X (.Subscript a (.Slice lo hi none p2) pos) (o5 f l h):=fun ρ d q=>by
 obtain⟨x,e1,q⟩:=xbm q
 obtain⟨y,e2,q⟩:=xbm q
 obtain⟨z,e3,q⟩:=xbm q
 cases x with
 | tuple xs =>
  cases q
  refine B2 (Y1 (bf9.or af6) (ha ρ _ e1) (hl ρ y e2) (hh ρ z e3)) fun σ H Q ⟨H0,Hf,s,sl,k⟩=>?_
  refine⟨H0,Hf,s,sl,fun v H1 Hf1 g1 ⟨p,vs,q1,q2,q3⟩=>⟨H0,Hf1,g1.sub,sl.grow g1,fun H2 Hf2 g2=>⟨H0,Hf2,g2.sub,sl.grow (g1.trans g2),fun H3 Hf3 g3=>?_⟩⟩⟩
  subst q1
  have q2':=B9 (g2.trans g3).ext q2
  have q3':=q3.mono (g2.trans g3).ext
  by_cases c:HT.sIx vs.length 0 y=0/\HT.sIx vs.length vs.length z=vs.length
  ·refine .inr ⟨p,vs,rfl,B9 g3.sub q2',c,k _ H3 Hf3 ((g1.trans g2).trans g3) ⟨p,vs,rfl,q2',?_⟩⟩
   have:Z4 xs y z=xs:=by
    unfold Z4
    rw [← q3.length,c.1,c.2]
    simp [q3.length]
   rw [this];exact q3'
  ·refine .inl ⟨p,vs,rfl,B9 g3.sub q2',c,fun p' hp=>?_⟩
   exact k _ _ _ (((g1.trans g2).trans g3).trans (Grow.laid g3.sub hp)) ⟨p',_,rfl,SqT.of B0,(w6 q3' y z).mono (C5 (g3.sub.free hp))⟩
 | _=>cases q
end
section
variable {X:Cx}
theorem bp9:bootBuiltins "len" = some (.builtin "len"):=PySem.boot_len
theorem bq0:bootBuiltins "all" = some (.builtin "all"):=by decide +kernel
theorem aQ3:bootBuiltins "isinstance" = some (.builtin "isinstance"):=by decide +kernel
theorem at0:bootBuiltins "int" = some (.type "int"):=by decide +kernel
theorem aZ6:bootBuiltins "bool" = some (.type "bool"):=by decide +kernel
theorem bp7:bootBuiltins "str" = some (.type "str"):=by decide +kernel
theorem ay7:bootBuiltins "list" = some (.type "list"):=by decide +kernel
theorem ao4:bootBuiltins "tuple" = some (.type "tuple"):=by decide +kernel
theorem bp6:bootBuiltins "zip" = some (.type "zip"):=by decide +kernel
noncomputable def M3(f:Rho->Option (Bool×List D)):DE:=fun ρ=>(f ρ).map fun q=>.int q.2.length
theorem aM2{e:Expr}{f:Rho->Option (Bool×List D)}{p pos:Pos}(hg:Gl X "len") (hm:X.mg "len" = none) (h:JQ X e f) (he:starEach [e] X.env=[(false,eval e X.env)]:=by rfl):JE X (.Call (.Name "len" p) [e] [] pos) (M3 f):=fun ρ d q=>by
 obtain⟨⟨t,ds⟩,h1,h2⟩:=Option.map_eq_some_iff.mp q
 subst h2
 refine B2 (L3 aj2 hg hm bp9 (C7 (h ρ t ds h1) E8 he) (he:=he)) fun σ H Q ⟨H0,Hf,s,sl,k⟩=>?_
 refine⟨H0,Hf,s,sl,fun v H1 Hf1 g1 ⟨a,vs,e1,e2,e3⟩=>⟨a,vs,by rw [e1],?_,?_⟩⟩
 ·cases t with
  | true=>exact .inr e2
  | false=>exact .inl e2
 ·exact k _ H1 Hf1 g1 (by rw [e3.length];rfl)
theorem aL8{e:Expr}{f:Rho->Option (Bool×List D)}{p pos:Pos}(hg:Gl X "tuple") (hm:X.mg "tuple" = none) (h:JQ X e f) (hz:∀ρ ds,f ρ≠some (true,ds)\/True:=by intros;exact .inr trivial) (he:starEach [e] X.env=[(false,eval e X.env)]:=by rfl) :
  JE X (.Call (.Name "tuple" p) [e] [] pos) (fun ρ=>(f ρ).bind fun q=>if q.1=true then none else some (.tuple q.2)):=fun ρ d q=>by
 obtain⟨⟨t,ds⟩,h1,h2⟩:=xbm q
 cases t with
 | true=>simp at h2
 | false =>
  simp only [Bool.false_eq_true,if_false,Option.some.injEq]at h2
  subst h2
  refine B2 (T9 ab9 hg hm ao4 (C7 (h ρ false ds h1) E8 he) (he:=he)) fun σ H Q ⟨H0,Hf,s,sl,k⟩=>?_
  refine⟨H0,Hf,s,sl,fun v H1 Hf1 g1 ⟨a,vs,e1,e2,e3⟩=>⟨a,vs,by rw [e1],.inl ⟨e2,fun l hl=>?_⟩⟩⟩
  exact k _ _ _ (g1.trans (Grow.laid g1.sub hl)) ⟨l,vs,rfl,SqT.of B0,e3.mono (C5 (g1.sub.free hl))⟩
theorem aX3{e:Expr}{f:Rho->Option (Bool×List D)}{p pos:Pos}(hg:Gl X "list") (hm:X.mg "list" = none) (h:JQ X e f) (he:starEach [e] X.env=[(false,eval e X.env)]:=by rfl):JN X (.Call (.Name "list" p) [e] [] pos) (fun ρ=>(f ρ).map fun q=>q.2):=fun ρ ds' q=>by
 obtain⟨⟨t,ds⟩,h1,h2⟩:=Option.map_eq_some_iff.mp q
 subst h2
 refine B2 (T9 aj1 hg hm ay7 (C7 (h ρ t ds h1) E8 he) (he:=he)) fun σ H Q ⟨H0,Hf,s,sl,k⟩=>?_
 refine⟨H0,Hf,s,sl,fun v H1 Hf1 g1 ⟨a,vs,e1,e2,e3⟩=>⟨a,vs,by rw [e1],?_,fun l hl=>?_⟩⟩
 ·cases t with
  | true=>exact .inr e2
  | false=>exact .inl e2
 ·exact k _ _ _ (g1.trans (Grow.made g1.sub hl)) ⟨l,vs,rfl,g1.big.free hl,B0,g1.sub.free hl,e3⟩
noncomputable def U7(f:DE):DE:=fun ρ=>(f ρ).bind fun d=>match d with
 | .int i=>some (.int i)
 | .bool b=>some (.int (if b then 1 else 0))
 | _=>none
theorem aM4{e:Expr}{f:DE}{p pos:Pos}(hg:Gl X "int") (hm:X.mg "int" = none) (h:JE X e f) (he:starEach [e] X.env=[(false,eval e X.env)]:=by rfl):JE X (.Call (.Name "int" p) [e] [] pos) (U7 f):=fun ρ d q=>by
 obtain⟨x,h1,h2⟩:=xbm q
 split at h2
 ·cases h2
  exact B2 (T9 ae4 hg hm at0 (C7 (h ρ _ h1) E8 he) (he:=he)) fun σ H Q ⟨H0,Hf,s,sl,k⟩ =>
   ⟨H0,Hf,s,sl,fun v H1 Hf1 g1 r=>.inl ⟨_,by rw [show v=_ from r],k _ H1 Hf1 g1 rfl⟩⟩
 ·cases h2
  exact B2 (T9 ae4 hg hm at0 (C7 (h ρ _ h1) E8 he) (he:=he)) fun σ H Q ⟨H0,Hf,s,sl,k⟩ =>
   ⟨H0,Hf,s,sl,fun v H1 Hf1 g1 r=>.inr ⟨_,by rw [show v=_ from r],k _ H1 Hf1 g1 rfl⟩⟩
 ·cases h2
noncomputable def bq1:List D->Option Bool
 | []=>some true
 | .bool b::r=>(bq1 r).map fun c=>b&&c
 | _::_=>none
theorem ao5:∀{ds:List D}{c:Bool},bq1 ds=some c->∃bs:List Bool,ds=bs.map PyData.bool/\c=bs.all id
 | [],c,h=>by cases h;exact⟨[],rfl,rfl⟩
 | .bool b::r,c,h=>by
  obtain⟨c',h1,h2⟩:=Option.map_eq_some_iff.mp h
  obtain⟨bs,h3,h4⟩:=ao5 h1
  exact⟨b::bs,by simp [h3],by simp [← h2,h4]⟩
theorem w9{K:PySem.W.Frag}{H:Hp}:∀{bs:List Bool}{vs:List V},Reps K H (bs.map PyData.bool) vs->vs=bs.map V.bl
 | [],_,h=>h
 | _::_,_,⟨v,r,h1,h2,h3⟩=>by subst h1;rw [show v=_ from h2,w9 h3];rfl
theorem aE3:P3 X (.builtin "all") (fun xs H Q=>X.calm=true/\∃(p:Addr) (bs:List Bool),xs=[.ref p]/\SqL X.K H p (bs.map V.bl)/\Q (.bl (bs.all id)) H):=by
 intro pins s σ H xs us Q I r h
 obtain⟨hc,p,bs,rfl,hq,q⟩:=h
 obtain⟨u,rfl,rx⟩:=R3 r
 cases rx
 obtain⟨its,rv,pl,hz⟩:=I.list hq
 have hlen:=rv.length
 have hh:X.A.in1.handled=none:=I.ok.hd hc
 have hlt:p < s.heap.objs.size:=by obtain⟨_,e,_⟩:=pl.isList;exact Heap.lt_size e
 refine call_all_walk (wpAny_pyIter_list pl.isList ?_)
 refine⟨s.heap.objs.size,_,_,_,_,_,fun i=>(bs[i]?).getD false,rfl,Walks.list hh _ p (Nat.ne_of_lt hlt) its.toArray,⟨⟨_,Heap.get?_push_size _ rfl,rfl,rfl⟩,pl.isList.at fun o e=>Heap.get?_push_of_some _ e⟩,?_,?_⟩
 ·intro i v s' Q' E' hv hQ
  have hv':its[i]? = some v:=by simpa using hv
  have:∃b,bs[i]? = some b:=by
   have:i < its.length:=(List.getElem?_eq_some_iff.mp hv').1
   have:i < bs.length:=by simpa using (by omega:i < (bs.map V.bl).length)
   exact⟨bs[i],by simp [this]⟩
  obtain⟨b,hb⟩:=this
  obtain⟨u,hu,ru⟩:=rv.get (i:=i) (x:=.bl b) (by simp [hb])
  rw [hv']at hu;cases hu
  cases ru
  exact wpAny_truthy_bool (by simpa [hb] using hQ)
 ·intro h' tk hk
  have e:((List.range its.toArray.size).all fun i=>(bs[i]?).getD false)=bs.all id:=by
   have hn:its.toArray.size=bs.length:=by simpa using hlen.symm
   rw [hn,Bool.eq_iff_iff]
   simp only [List.all_eq_true,List.mem_range,id]
   constructor
   ·intro h x hx
    obtain⟨i,hi,rfl⟩:=List.mem_iff_getElem.mp hx
    simpa [hi] using h i hi
   ·intro h i hi
    simpa [hi] using h bs[i] (List.getElem_mem hi)
  rw [e]
  have I1:Inv X pins σ H { s with heap:=h',toks:=tk }:=by
   have I0:Inv X pins σ H { s with heap:=s.heap.push { cls:=.type "list_iterator", data:=.fields #[.ref p,rawInt 0] } }:=I.kept (t':=s.toks) fun b o e=>Heap.get?_push_of_some _ e
   refine I.kept (t':=tk) fun b o e=>hk b o ?_ (Heap.get?_push_of_some _ e)
   intro hb
   have:b=s.heap.objs.size:=by simpa using hb
   subst this
   exact absurd (Heap.lt_size e) (Nat.lt_irrefl _)
  exact⟨.bl (bs.all id),H,I1,rfl,q⟩
noncomputable def U8(f:Rho->Option (Bool×List D)):DE:=fun ρ=>(f ρ).bind fun q=>if q.1=true then none else(bq1 q.2).map PyData.bool
theorem bn7{e:Expr}{f:Rho->Option (Bool×List D)}{p pos:Pos}(hg:Gl X "all") (hm:X.mg "all" = none) (h:JQ X e f) (hc:X.calm=true:=by rfl) (he:starEach [e] X.env=[(false,eval e X.env)]:=by rfl):JE X (.Call (.Name "all" p) [e] [] pos) (U8 f):=fun ρ d q=>by
 obtain⟨⟨t,ds⟩,h1,h2⟩:=xbm q
 cases t with
 | true=>simp at h2
 | false =>
  simp only [Bool.false_eq_true,if_false]at h2
  obtain⟨c,h3,h4⟩:=Option.map_eq_some_iff.mp h2
  subst h4
  obtain⟨bs,h5,h6⟩:=ao5 h3
  subst h5 h6
  refine B2 (L3 aE3 hg hm bq0 (C7 (h ρ false _ h1) E8 he) (he:=he)) fun σ H Q ⟨H0,Hf,s,sl,k⟩=>?_
  refine⟨H0,Hf,s,sl,fun v H1 Hf1 g1 ⟨a,vs,e1,e2,e3⟩=>⟨hc,a,bs,by rw [e1],?_,k _ H1 Hf1 g1 rfl⟩⟩
  rw [w9 e3]at e2
  exact e2
noncomputable def Q9(T:String) (d:D):Option Bool:=match T,d with
 | "int", .int _=>some true
 | "int", .bool _=>some true
 | "int", .none=>some false
 | "int", .str _=>some false
 | "int", .tuple _=>some false
 | "int", .list _=>some false
 | "bool", .int _=>some false
 | "bool", .bool _=>some true
 | "bool", .none=>some false
 | "bool", .str _=>some false
 | "bool", .tuple _=>some false
 | "bool", .list _=>some false
 | "str", .int _=>some false
 | "str", .bool _=>some false
 | "str", .none=>some false
 | "str", .str _=>some true
 | "str", .tuple _=>some false
 | "str", .list _=>some false
 | "tuple", .int _=>some false
 | "tuple", .bool _=>some false
 | "tuple", .none=>some false
 | "tuple", .str _=>some false
 | "tuple", .tuple _=>some true
 | "tuple", .list _=>some false
 | "list", .int _=>some false
 | "list", .bool _=>some false
 | "list", .none=>some false
 | "list", .str _=>some false
 | "list", .tuple _=>some false
 | "list", .list _=>some true
 | _,_=>none
noncomputable def tyD:D->String
 | .int _ => "int"
 | .bool _ => "bool"
 | .none => "NoneType"
 | .str _ => "str"
 | .tuple _ => "tuple"
 | .list _ => "list"
 | .dict _ => "dict"
theorem aY4{K:PySem.W.Frag}{T:String}{d:D}{b:Bool}(h:Q9 T d=some b):PySem.W.kitOne K (.type (tyD d)) (.type T)=some b:=by
 unfold Q9 at h
 split at h<;>first
  | (cases h;rfl)
  | cases h
theorem aQ0{T:String}:P3 X (.builtin "isinstance") (fun xs H Q=>∃d x b,xs=[x,.ty T]/\Rep X.K H d x/\Q9 T d=some b/\Q (.bl b) H):=by
 intro pins s σ H xs us Q I r h
 obtain⟨d,x,b,rfl,hd,hb,q⟩:=h
 obtain⟨u,c,rfl,rx,rc⟩:=aF2 r
 cases rc
 have e:=aY4 (K:=X.K) hb
 have fin:∀tk,EP X pins σ Q (.bool b) { s with toks:=tk }:=fun tk=>⟨.bl b,H,I.tok tk,rfl,q⟩
 cases d with
 | none=>cases hd;cases rx;exact PySem.W.kia_one PySem.W.kitx_none I.kIn True.intro e (fun z=>nomatch z) fin
 | bool y=>cases hd;cases rx;exact PySem.W.kia_one PySem.W.kitx_bool I.kIn True.intro e (fun z=>nomatch z) fin
 | int i=>cases hd;obtain⟨t,rfl⟩:=rx;exact PySem.W.kia_one PySem.W.kitx_int I.kIn True.intro e (fun z=>nomatch z) fin
 | str i=>cases hd;obtain⟨t,rfl⟩:=rx;exact PySem.W.kia_one PySem.W.kitx_str I.kIn True.intro e (fun z=>nomatch z) fin
 | tuple ds =>
  obtain⟨a,vs,rfl,h2,h3⟩:=hd
  cases rx
  obtain⟨its,rv,⟨o,ho,hc,_⟩,_⟩:=I.tuple h2
  exact PySem.W.kia_one PySem.W.kitx_tuple I.kIn ⟨o,ho,hc⟩ e (fun z=>nomatch z) fin
 | list ds =>
  obtain⟨a,vs,rfl,h2,h3⟩:=hd
  cases rx
  obtain⟨its,rv,pl,_⟩:=I.list h2
  obtain⟨o,ho,hc,_⟩:=pl.isList
  exact PySem.W.kia_one PySem.W.kitx_list I.kIn ⟨o,ho,hc⟩ e (fun z=>nomatch z) fin
 | dict ds=>exact hd.elim
noncomputable def U6(T:String) (f:DE):DE:=fun ρ=>(f ρ).bind fun d=>(Q9 T d).map PyData.bool
theorem bn3{e:Expr}{f:DE}{x:Str}{T:String}{p p2 pos:Pos}(hg:Gl X "isinstance") (hm:X.mg "isinstance" = none) (hgT:Gl X x) (hmT:X.mg x=none) (hvT:bootBuiltins x=some (.type T)) (h:JE X e f)
  (hn:x ≠ "__name__" := by decide) (hd:(x==("__debug__" : Str))=false:=by decide)
  (he:starEach [e,.Name x p2] X.env=(false,eval e X.env)::starEach [.Name x p2] X.env:=by rfl) (he2:starEach [.Name x p2] X.env=[(false,eval (.Name x p2) X.env)]:=by rfl) (hpl:(backTo pos (starEach [.Name x p2] X.env)).any (·.1)=false:=by rfl) :
  JE X (.Call (.Name "isinstance" p) [e,.Name x p2] [] pos) (U6 T f):=fun ρ d q=>by
 obtain⟨y,h1,h2⟩:=xbm q
 obtain⟨b,h3,h4⟩:=Option.map_eq_some_iff.mp h2
 subst h4
 refine B2 (L3 (aQ0 (T:=T)) hg hm aQ3 (C7 (h ρ y h1) (C7 (av8 (v:=.ty T) hgT hmT hvT rfl hn hd) E8 he2) he) (he:=he) (hpl:=hpl)) fun σ H Q ⟨H0,Hf,s,sl,k⟩=>?_
 exact⟨H0,Hf,s,sl,fun v H1 Hf1 g1 r=>⟨y,v,b,rfl,r.mono g1.sub,h3,k _ H1 Hf1 g1 rfl⟩⟩
noncomputable def spF(K:PySem.W.Frag) (n:Nat) (F:List D->Option D):Sp:=fun vs H Q _=>vs.length=n/\∃Hf ds d,C2 Hf H/\Reps K Hf ds vs/\F ds=some d/\∀v H' Hf',Grow H Hf H' Hf'->Rep K Hf' d v->Q v H'
noncomputable def A5(F:List D->Option D) (f:Rho->Option (List D)):DE:=fun ρ=>(f ρ).bind F
theorem aY1{k:Nat}{f:Addr}{fd:FuncData}{ps:List Str}{n:Nat}{F:List D->Option D}{x:Str}{e:Expr}{es:List Expr}{g:Rho->Option (List D)}{p pos:Pos}(Fk:FnOk X.prog X.w X.K X.mg X.base CX0 k f fd ps (spF X.K n F)) (hr:Room k X.A) (hg:Gl X x) (hm:X.mg x=some (.ref f)) (hk:PySem.W.keepIn X.K (.ref f)=true) (hb:J9 X.K fd ps [])
  (ha:JA X (e::es) g) (hn:(e::es).length=n:=by rfl) (hdb:(x==("__debug__" : Str))=false:=by decide) (he:starEach (e::es) X.env=(false,eval e X.env)::starEach es X.env:=by rfl) (hpl:(backTo pos (starEach es X.env)).any (·.1)=false:=by rfl) :
  JE X (.Call (.Name x p) (e::es) [] pos) (A5 F g):=fun ρ d q=>by
 obtain⟨ds,h1,h2⟩:=xbm q
 refine B2 (aU3 Fk hr hg hm hk hb .nil aI2 (fun pos pins s σ H Q I t=>ha.run ρ ds h1 pos pins s σ H Q I t) hdb he hpl) fun σ H Q ⟨H0,Hf,s,sl,kk⟩=>?_
 refine⟨H0,Hf,s,sl,fun vs H1 Hf1 g1 r1=>⟨?_,Hf1,ds,d,g1.sub,by rw [List.append_nil];exact r1,h2,fun v H2 Hf2 g2 r2=>kk v H2 Hf2 (g1.trans g2) r2⟩⟩
 rw [List.append_nil,r1.length,ha.len ρ ds h1,hn]
inductive Fl where
 | nx (ρ:Rho)
 | rt (d:D)
 | bk (ρ:Rho)
 | ct (ρ:Rho)
noncomputable abbrev DS:=Rho->Option Fl
structure At (K:PySem.W.Frag) (H0 Hf0:Hp) (ρ:Rho) (σ:L2.St) (H Hf:Hp):Prop where
 gr:Grow H0 Hf0 H Hf
 sl:Slots K H0 ρ σ H Hf
noncomputable def Fl.ends(K:PySem.W.Frag) (H0 Hf0 Hf:Hp) (En:Ends):Fl->Prop
 | .nx ρ=>∀σ' H' Hf',At K H0 Hf0 ρ σ' H' Hf'->C2 Hf Hf'->En.nx σ' H'
 | .bk ρ=>∀σ' H' Hf',At K H0 Hf0 ρ σ' H' Hf'->C2 Hf Hf'->En.bk σ' H'
 | .ct ρ=>∀σ' H' Hf',At K H0 Hf0 ρ σ' H' Hf'->C2 Hf Hf'->En.ct σ' H'
 | .rt d=>∀v H' Hf',Grow H0 Hf0 H' Hf'->Rep K Hf' d v->En.rt v H'
noncomputable def tJS(K:PySem.W.Frag) (H0 Hf0:Hp) (ρ:Rho) (fl:Fl):TS:=fun En σ H=>∃Hf,At K H0 Hf0 ρ σ H Hf/\fl.ends K H0 Hf0 Hf En
noncomputable def JS(X:Cx) (st:Stmt) (f:DS):Prop:=∀ρ fl,f ρ=some fl->∀H0 Hf0,PS X st (tJS X.K H0 Hf0 ρ fl)
noncomputable def JSs(X:Cx) (sts:List Stmt) (f:DS):Prop:=∀ρ fl,f ρ=some fl->∀H0 Hf0,PSs X sts (tJS X.K H0 Hf0 ρ fl)
theorem G5{st:Stmt}{t t':TS}(h:PS X st t) (i:∀En σ H,t' En σ H->t En σ H):PS X st t':=fun pins s σ H En I q=>h pins s σ H En I (i En σ H q)
theorem X9{st:List Stmt}{t t':TS}(h:PSs X st t) (i:∀En σ H,t' En σ H->t En σ H):PSs X st t':=fun pins s σ H En I q=>h pins s σ H En I (i En σ H q)
theorem At.grow{K:PySem.W.Frag}{H0 Hf0 H Hf H' Hf':Hp}{ρ:Rho}{σ:L2.St}(a:At K H0 Hf0 ρ σ H Hf) (g:Grow H Hf H' Hf'):At K H0 Hf0 ρ σ H' Hf':=⟨a.gr.trans g,a.sl.grow g⟩
theorem Fl.ends_mono{K:PySem.W.Frag}{H0 Hf0 Hf Hf':Hp}{En:Ends}{fl:Fl}(h:fl.ends K H0 Hf0 Hf En) (e:C2 Hf Hf'):fl.ends K H0 Hf0 Hf' En:=by
 cases fl with
 | nx ρ=>exact fun σ' H' Hf'' a s=>h σ' H' Hf'' a (e.trans s)
 | bk ρ=>exact fun σ' H' Hf'' a s=>h σ' H' Hf'' a (e.trans s)
 | ct ρ=>exact fun σ' H' Hf'' a s=>h σ' H' Hf'' a (e.trans s)
 | rt d=>exact h
noncomputable def E1:DS:=fun ρ=>some (.nx ρ)
noncomputable def B1(f g:DS):DS:=fun ρ=>(f ρ).bind fun fl=>match fl with
 | .nx ρ'=>g ρ'
 | fl=>some fl
theorem aW3:JSs X [] E1:=fun ρ fl q H0 Hf0=>by
 cases q
 exact X9 aT3 fun En σ H ⟨Hf,a,e⟩=>e σ H Hf a (C2.refl _)
theorem aK7{st:Stmt}{sts:List Stmt}{f g:DS}(h1:JS X st f) (h2:JSs X sts g):JSs X (st::sts) (B1 f g):=fun ρ fl q H0 Hf0=>by
 obtain⟨fl1,e1,q⟩:=xbm q
 cases fl1 with
 | nx ρ' =>
  refine X9 (Y0 (h1 ρ _ e1 H0 Hf0) (h2 ρ' fl q H0 Hf0)) fun En σ H ⟨Hf,a,e⟩=>⟨Hf,a,fun σ' H' Hf' a' s'=>⟨Hf',a',Fl.ends_mono e s'⟩⟩
 | rt d=>cases q;exact X9 (Y0 (h1 ρ _ e1 H0 Hf0) O4) fun En σ H ⟨Hf,a,e⟩=>⟨Hf,a,e⟩
 | bk ρ'=>cases q;exact X9 (Y0 (h1 ρ _ e1 H0 Hf0) O4) fun En σ H ⟨Hf,a,e⟩=>⟨Hf,a,e⟩
 | ct ρ'=>cases q;exact X9 (Y0 (h1 ρ _ e1 H0 Hf0) O4) fun En σ H ⟨Hf,a,e⟩=>⟨Hf,a,e⟩
theorem aW2{st:Stmt}{f:DS}(h1:JS X st f):JSs X [st] f:=fun ρ fl q H0 Hf0=>aT2 (h1 ρ fl q H0 Hf0)
noncomputable def C8(f:DE):DS:=fun ρ=>(f ρ).map Fl.rt
theorem ai0{e:Expr}{f:DE}{pos:Pos}(h:JE X e f):JS X (.Return (some e) pos) (C8 f):=fun ρ fl q H0 Hf0=>by
 obtain⟨d,e1,e2⟩:=Option.map_eq_some_iff.mp q
 subst e2
 exact G5 (bh1 (h ρ d e1)) fun En σ H ⟨Hf,a,e⟩=>⟨H0,Hf,a.gr.sub,a.sl,fun v H' Hf' g r=>e v H' Hf' (a.gr.trans g) r⟩
noncomputable def sIf(t:Rho->Option Bool) (f g:DS):DS:=fun ρ=>(t ρ).bind fun c=>if c then f ρ else g ρ
theorem bb3{c:Expr}{a b:List Stmt}{t:Rho->Option Bool}{f g:DS}{pos:Pos}(hc:JT X c t) (ha:JSs X a f) (hb:JSs X b g):JS X (.If c a b pos) (sIf t f g):=fun ρ fl q H0 Hf0=>by
 obtain⟨x,e1,q⟩:=xbm q
 cases x with
 | true =>
  refine G5 (ba9 (hc ρ _ e1) (ha ρ fl (by simpa using q) H0 Hf0) O4) fun En σ H ⟨Hf,a,e⟩=>⟨H0,Hf,a.gr.sub,a.sl,fun H' Hf' g=>ab5 ⟨Hf',a.grow g,Fl.ends_mono e g.ext⟩⟩
 | false =>
  refine G5 (ba9 (hc ρ _ e1) O4 (hb ρ fl (by simpa using q) H0 Hf0)) fun En σ H ⟨Hf,a,e⟩=>⟨H0,Hf,a.gr.sub,a.sl,fun H' Hf' g=>ab6 ⟨Hf',a.grow g,Fl.ends_mono e g.ext⟩⟩
theorem Slots.set{K:PySem.W.Frag}{H0 H Hf:Hp}{ρ:Rho}{σ:L2.St}{i:Nat}{d:D}{v:V}(s:Slots K H0 ρ σ H Hf) (r:Rep K Hf d v):Slots K H0 (ρ.set i (some (.val d))) (σ.set i (some v)) H Hf:=by
 refine⟨by simp [s.len],fun j b e=>?_,fun j k ds es a h1 h2 h3 h4=>?_⟩
 ·by_cases q:i=j
  ·subst q
   have hi:i < ρ.length:=by
    have:=(List.getElem?_eq_some_iff.mp e).1
    simpa using this
   have hi':i < σ.length:=by rw [← s.len];exact hi
   rw [List.getElem?_set_self hi]at e
   cases e
   exact⟨v,List.getElem?_set_self hi',r⟩
  ·rw [List.getElem?_set_ne q]at e
   obtain⟨u,h1,h2⟩:=s.is j b e
   exact⟨u,by rw [List.getElem?_set_ne q];exact h1,h2⟩
 ·have hj:i≠j:=by
   intro q;subst q
   have hi:i < ρ.length:=by
    have:=(List.getElem?_eq_some_iff.mp h1).1
    simpa using this
   rw [List.getElem?_set_self hi]at h1
   cases h1
  have hk:i≠k:=by
   intro q;subst q
   have hi:i < ρ.length:=by
    have:=(List.getElem?_eq_some_iff.mp h2).1
    simpa using this
   rw [List.getElem?_set_self hi]at h2
   cases h2
  rw [List.getElem?_set_ne hj]at h1 h3
  rw [List.getElem?_set_ne hk]at h2 h4
  exact s.apart j k ds es a h1 h2 h3 h4
noncomputable def B6(i:Nat) (f:DE):DS:=fun ρ=>(f ρ).map fun d=>.nx (ρ.set i (some (.val d)))
theorem ar2(i:Nat) {x:Str}{e:Expr}{f:DE}{pos pos':Pos}(hN:X.N.Nodup) (h:JE X e f) (hi:X.N[i]? = some x:=by rfl) (hx:Loc X.env.scope x:=by first|exact Or.inl rfl|exact Or.inr rfl)
  (hs:swapsWith e (some (.Name x pos')) pos.line X.env=pure false:=by rfl) (hf:X.fn x=true\/X.env.scope.names.lookup x=some .local:=by first|exact .inl rfl|exact .inr rfl):JS X (.Assign [.Name x pos'] e pos) (B6 i f):=fun ρ fl q H0 Hf0=>by
 obtain⟨d,e1,e2⟩:=Option.map_eq_some_iff.mp q
 subst e2
 exact G5 (aH3 hN hi hx (h ρ d e1) hs hf) fun En σ H ⟨Hf,a,e⟩=>⟨H0,Hf,a.gr.sub,a.sl,fun v H' Hf' g r=>e _ H' Hf' ⟨a.gr.trans g,(a.sl.grow g).set r⟩ g.ext⟩
noncomputable def X4(i j:Nat) (f:Rho->Option (List D)):DS:=fun ρ=>(f ρ).bind fun ds=>match ds with
 | [a,b]=>some (.nx ((ρ.set i (some (.val a))).set j (some (.val b))))
 | _=>none
end
theorem aD8{prog:Program}{w:World}{A:Around}{R:Result->Shared->Prop}{s:Shared}{elt target iter:Expr}{ifs:List Expr}{scope:Scope}{pos:Pos}{it acc:Value}{env:Env}(I:Nat->Shared->Prop)
  (turn:∀n s,I n s->wpAny (model prog w) A (pyNext it) (fun r s1=>match r with
   | none=>R (.ok .next) s1
   | some v=>wpAny (model prog w) A (letOwnedTupleGo target it v) (fun _ s1'=>wpAny (model prog w) A (assign target env v) (fun _ s2 =>
     wpAny (model prog w) A (forIn ifs true fun c r=>if r=true then do let ok ← isTrue c env (eval c env);pure (ForInStep.yield ok) else pure (ForInStep.yield r)) (fun ok s3 =>
      if ok=true then wpAny (model prog w) A (eval elt env) (fun x s4 =>
       wpAny (model prog w) A (call (.builtin "list.append") [acc,x]) (fun _ s5=>∃m,m < n/\I m s5) (fun _ _=>False) s4) (fun _ _=>False) s3
      else ∃m,m < n/\I m s3) (fun _ _=>False) s2) (fun _ _=>False) s1') (fun _ _=>False) s1) (fun _ _=>False) s)
  (n:Nat) (h:I n s) :
  codeAny (model prog w) A (.compLoop (.ListComp elt [⟨target,iter,ifs,0⟩] scope pos) 0 it acc env) R s:=by
 refine codeAny_loop rfl I (fun n s hI=>?_) n h
 show wpAny _ A ((compTurn (.ListComp elt [⟨target,iter,ifs,0⟩] scope pos) 0 it acc env).onRaise (fun x=>do noteFrame x env;theTreesLotGoes x)) _ _ s
 refine wpAny_noted ?_
 rw [compTurn_list]
 refine wpAny_bind (wpAny_standAt (wpAny_bind (wpAny_mono (turn n s hI) (fun r s1 h1=>?_) fun _ _ h'=>h'.elim)))
 cases r with
 | none=>exact wpAny_pure h1
 | some v =>
  refine wpAny_bind (wpAny_mono h1 (fun _ s1' h1'=>?_) fun _ _ h'=>h'.elim)
  refine wpAny_bind (wpAny_mono h1' (fun _ s2 h2=>wpAny_bind (wpAny_mono h2 (fun ok s3 h3=>?_) fun _ _ h'=>h'.elim)) fun _ _ h'=>h'.elim)
  cases ok with
  | false=>exact wpAny_pure ⟨rfl,h3⟩
  | true =>
   exact wpAny_bind (wpAny_bind (wpAny_mono h3 (fun x s4 h4=>wpAny_bind (wpAny_mono h4 (fun _ s5 h5=>wpAny_pure (wpAny_pure ⟨rfl,h5⟩)) fun _ _ h'=>h'.elim)) fun _ _ h'=>h'.elim))
noncomputable def J1(cells:List (Str×Addr)):List (Str×NameKind)->List (Str×Addr)->List (Str×Addr)
 | [],cs=>cs
 | (n,k)::r,cs=>if(k==NameKind.free)=true then J1 cells r ((n,(cells.lookup n).getD 0)::cs) else J1 cells r cs
theorem aa6{env:Env}:∀(names:List (Str×NameKind)) (cs:List (Str×Addr)),(∀y∈names,y.2=.free->∃c,env.cells.lookup y.1=some c) ->
  (forIn names cs fun(x:Str×NameKind) (r:List (Str×Addr))=>if(x.2==NameKind.free)=true then do let a ← cellOf env x.1;pure (ForInStep.yield ((x.1,a)::r)) else pure (ForInStep.yield r):Sem (List (Str×Addr)))=pure (J1 env.cells names cs)
 | [],cs,_=>rfl
 | (n,k)::r,cs,h=>by
  rw [List.forIn_cons]
  have hr:∀y∈r,y.2=.free->∃c,env.cells.lookup y.1=some c:=fun y hy=>h y (List.mem_cons_of_mem _ hy)
  by_cases hk:(k==NameKind.free)=true
  ·obtain⟨c,hc⟩:=h (n,k) List.mem_cons_self (by simpa using hk)
   have hc':env.cells.lookup n=some c:=hc
   simp only [hk,if_true]
   have e:cellOf env n=pure c:=by unfold cellOf;rw [hc']
   rw [e]
   show(forIn r ((n,c)::cs) _:Sem _)=_
   rw [aa6 r _ hr]
   simp only [J1,hk,if_true,hc',Option.getD_some]
  ·have hk':(k==NameKind.free)=false:=by simpa using hk
   simp only [hk',Bool.false_eq_true,if_false]
   show(forIn r cs _:Sem _)=_
   rw [aa6 r _ hr]
   simp only [J1,hk',Bool.false_eq_true,if_false]
theorem aZ4{scope:Scope}{env:Env}(h:∀y∈scope.names,y.2=.free->∃c,env.cells.lookup y.1=some c):closureFor scope env=pure (J1 env.cells scope.names []):=by
 have:=aa6 (env:=env) scope.names [] h
 unfold closureFor
 exact congrArg (fun z=>z >>= fun cs=>pure cs) this
theorem Z6{cells:List (Str×Addr)}:∀{names:List (Str×NameKind)}{cs:List (Str×Addr)}{x:Str}{c:Addr},(x,c)∈J1 cells names cs->(x,c)∈cs\/((x,NameKind.free)∈names/\c=(cells.lookup x).getD 0)
 | [],cs,x,c,h=>.inl h
 | (n,k)::r,cs,x,c,h=>by
  unfold J1 at h
  split at h
  ·rename_i hk
   rcases Z6 h with q|⟨q1,q2⟩
   ·rcases List.mem_cons.mp q with q|q
    ·cases q
     have:k=.free:=by simpa using hk
     subst this
     exact .inr ⟨List.mem_cons_self,rfl⟩
    ·exact .inl q
   ·exact .inr ⟨List.mem_cons_of_mem _ q1,q2⟩
  ·rcases Z6 h with q|⟨q1,q2⟩
   ·exact .inl q
   ·exact .inr ⟨List.mem_cons_of_mem _ q1,q2⟩
theorem O8{cells:List (Str×Addr)}:∀{names:List (Str×NameKind)}{cs:List (Str×Addr)}{x:Str},((x,NameKind.free)∈names\/∃c,(x,c)∈cs)->∃c,(x,c)∈J1 cells names cs
 | [],cs,x,h=>by
  rcases h with h|h
  ·cases h
  ·exact h
 | (n,k)::r,cs,x,h=>by
  unfold J1
  rcases h with h|⟨c,h⟩
  ·rcases List.mem_cons.mp h with q|q
   ·cases q
    rw [if_pos (by rfl)]
    exact O8 (.inr ⟨_,List.mem_cons_self⟩)
   ·split
    ·exact O8 (.inl q)
    ·exact O8 (.inl q)
  ·split
   ·exact O8 (.inr ⟨c,List.mem_cons_of_mem _ h⟩)
   ·exact O8 (.inr ⟨c,h⟩)
theorem V7{l:List (Str×Addr)}{x:Str}{c:Addr}(h:(x,c)∈l):∃c',l.lookup x=some c':=by
 induction l with
 | nil=>cases h
 | cons p r ih =>
  obtain⟨n,a⟩:=p
  rw [List.lookup_cons]
  cases e:x==n with
  | true=>exact⟨a,rfl⟩
  | false =>
   rcases List.mem_cons.mp h with q|q
   ·cases q;simp at e
   ·exact ih q
theorem X7{scope:Scope}{env:Env}{x:Str}{k:NameKind}:(relabel scope env).names.lookup x=some k->∃k0,scope.names.lookup x=some k0/\(k=k0\/k0=.free):=by
 unfold relabel
 simp only
 generalize scope.names=names
 induction names with
 | nil=>intro h;simp at h
 | cons p r ih =>
  obtain⟨n,k1⟩:=p
  intro h
  rw [List.map_cons]at h
  by_cases hc:(k1==NameKind.free&&env.scope.kind == .function&&env.kindOf n==some .cell)=true
  ·simp only [hc,if_true,List.lookup_cons]at h
   rw [List.lookup_cons]
   cases e:x==n with
   | true =>
    rw [e]at h
    rw [Bool.and_eq_true,Bool.and_eq_true]at hc
    exact⟨k1,rfl,.inr (by simpa using hc.1.1)⟩
   | false=>rw [e]at h;exact ih h
  ·have hc':(k1==NameKind.free&&env.scope.kind == .function&&env.kindOf n==some .cell)=false:=by simpa using hc
   simp only [hc',Bool.false_eq_true,if_false,List.lookup_cons]at h
   rw [List.lookup_cons]
   cases e:x==n with
   | true=>rw [e]at h;cases h;exact⟨_,rfl,.inl rfl⟩
   | false=>rw [e]at h;exact ih h
theorem ag4{scope:Scope}{env:Env}{x:Str}:scope.names.lookup x=some .free->(relabel scope env).names.lookup x=some .cell\/(relabel scope env).names.lookup x=some .free:=by
 unfold relabel
 simp only
 generalize scope.names=names
 induction names with
 | nil=>intro h;simp at h
 | cons p r ih =>
  obtain⟨n,k1⟩:=p
  intro h
  rw [List.lookup_cons]at h
  rw [List.map_cons]
  cases e:x==n with
  | true =>
   rw [e]at h
   cases h
   have en:x=n:=by simpa using e
   subst en
   by_cases hc:(NameKind.free==NameKind.free&&env.scope.kind == .function&&env.kindOf x==some .cell)=true
   ·simp only [hc,if_true,List.lookup_cons,e];exact .inl trivial
   ·have hc':(NameKind.free==NameKind.free&&env.scope.kind == .function&&env.kindOf x==some .cell)=false:=by simpa using hc
    simp only [hc',Bool.false_eq_true,if_false,List.lookup_cons,e];exact .inr trivial
  | false =>
   rw [e]at h
   by_cases hc:(k1==NameKind.free&&env.scope.kind == .function&&env.kindOf n==some .cell)=true
   ·simp only [hc,if_true,List.lookup_cons,e];exact ih h
   ·have hc':(k1==NameKind.free&&env.scope.kind == .function&&env.kindOf n==some .cell)=false:=by simpa using hc
    simp only [hc',Bool.false_eq_true,if_false,List.lookup_cons,e];exact ih h
noncomputable def D0(X:Cx) (N':List Str) (scope:Scope) (C:Addr) (s₀:Shared) (H₀:Hp) (ex:List Addr):Cx where
 prog:=X.prog
 w:=X.w
 K:=X.K
 mg:=X.mg
 base:=X.base
 A:=X.A
 N:=N'
 s₀:=s₀
 H₀:=H₀
 env:=compEnvC scope (J1 X.env.cells scope.names []) C X.env
 outer:=X.stack
 stack:=X.stack
 ex:=ex
 fn:=fun _=>false
 calm:=X.calm
 pn:=[]
 xe:=fun _ _=>False
structure CompSc (X:Cx) (N':List Str) (n:Nat) (caps:List Nat) (scope:Scope):Prop where
 kind:scope.kind=.function
 cell:∀y∈scope.names,y.2≠.cell
 loc:∀y∈scope.names,y.2=.local->scope.names.lookup y.1=some .local
 free:∀y∈scope.names,y.2=.free->X.env.scope.names.lookup y.1=some .cell\/X.env.scope.names.lookup y.1=some .free
 len:N'.length=n+caps.length
 cap:∀(i j:Nat),caps[i]? = some j->∃x,X.N[j]? = some x/\N'[n+i]? = some x/\scope.names.lookup x=some .free
section
variable {X:Cx}{N':List Str}{n:Nat}{caps:List Nat}{scope:Scope}
theorem J5{l:List (Str×NameKind)}{x:Str}{k:NameKind}(h:l.lookup x=some k):(x,k)∈l:=PySem.mem_of_lookup h
noncomputable def ab8(n:Nat) (caps:List Nat) (σ:L2.St):L2.St:=List.replicate n none++caps.map fun j=>(σ[j]?).join
theorem as6{pins:List (Addr×Obj)}{σ:L2.St}{H:Hp}{s:Shared}{h1:Heap}{tk:Nat}{fp:List Addr}{m:Str->Option Value}(S:CompSc X N' n caps scope) (I:Inv X pins σ H s) (hf:∀b∈fp,k8 X pins H b) (hlt:∀b∈fp,b < s.heap.objs.size)
  (hns:h1.Ns s.heap.objs.size m) (hk:∀b o,s.heap.get? b=some o->h1.get? b=some o) :
  Inv (D0 X N' scope s.heap.objs.size s H fp) [] (ab8 n caps σ) H { s with heap:=h1,toks:=tk }:=by
 have cl_of:∀x c,(J1 X.env.cells scope.names []).lookup x=some c->X.env.cells.lookup x=some c:=fun x c h=>by
  have hm:=PySem.mem_of_lookup h
  rcases Z6 hm with q|⟨q1,q2⟩
  ·cases q
  ·obtain⟨c',hc'⟩:=I.ok.has x (S.free _ q1 rfl)
   rw [hc']at q2
   rw [hc',q2];rfl
 have cl_has:∀x,(x,NameKind.free)∈scope.names->∃c,(J1 X.env.cells scope.names []).lookup x=some c:=fun x h=>by
  obtain⟨c,hc⟩:=O8 (cells:=X.env.cells) (cs:=[]) (.inl h)
  exact V7 hc
 have kind_free:∀x,((relabel scope X.env).names.lookup x=some .cell\/(relabel scope X.env).names.lookup x=some .free)->(x,NameKind.free)∈scope.names:=fun x h=>by
  rcases h with h|h
  ·obtain⟨k0,e1,e2⟩:=X7 h
   rcases e2 with e2|e2
   ·subst e2;exact absurd rfl (S.cell _ (J5 e1))
   ·subst e2;exact J5 e1
  ·obtain⟨k0,e1,e2⟩:=X7 h
   rcases e2 with e2|e2
   ·subst e2;exact J5 e1
   ·subst e2;exact J5 e1
 have cell_lt:∀x c,X.env.cells.lookup x=some c->c < s.heap.objs.size:=fun x c e=>by
  obtain⟨v,q⟩:=I.cell x c e
  exact q.lt
 have ok:(D0 X N' scope s.heap.objs.size s H fp).Ok:=by
  refine⟨I.ok.mod,S.kind,I.ok.glob,I.ok.blt,Nat.le_refl _,fun x y c e1 e2=>I.ok.inj x y c (cl_of x c e1) (cl_of y c e2),fun x hx=>cl_has x (kind_free x hx),fun x c e _=>(Bool.false_ne_true e).elim,I.ok.hd,I.ok.frames,.inl rfl,fun b hb=>⟨Nat.ne_of_lt (hlt b hb),fun x c e=>(hf b hb).2.2.2.2.1 x c (cl_of x c e)⟩,
   I.bs,Nat.le_trans I.ok.bsz I.sz,fun b o e hb=>?_,fun b hb hb2=>?_,I.stack,I.stkFree⟩
  ·rcases(hf b hb).2.2.2.1 with z|z
   ·exact I.ok.noex b o e z
   ·exact absurd (Nat.lt_of_lt_of_le (Heap.lt_size e) (Nat.le_trans I.ok.bsz z)) (Nat.lt_irrefl _)
  ·rcases List.mem_cons.mp (I.stkSub b hb2) with z|z
   ·exact(hf b hb).2.1 z
   ·exact(hf b hb).2.2.1 z
 refine⟨ok,rfl,I.bare,Un.kept hk,⟨m,hns,fun i x v e1 e2 e3=>?_⟩,fun x c e=>?_,I.hok.fresh (Nat.le_refl _),fun x c e=>I.freeC x c (cl_of x c e),fun p hp=>absurd (show p∈([]:List (Addr×Obj)) from hp) (by simp),I.hok.kept hk,?_⟩
 ·have hi:n<=i:=by
   rcases Nat.lt_or_ge i n with h|h
   ·unfold ab8 at e2
    rw [List.getElem?_append_left (by simpa using h),List.getElem?_replicate,if_pos h]at e2
    cases e2
   ·exact h
  unfold ab8 at e2
  rw [List.getElem?_append_right (by simpa using hi),List.getElem?_map]at e2
  simp only [List.length_replicate]at e2
  cases hj:caps[i - n]? with
  | none=>rw [hj]at e2;cases e2
  | some j =>
   rw [hj]at e2
   have e2':(σ[j]?).join=some v:=by simpa using e2
   have e2'':σ[j]? = some (some v):=by
    cases q:σ[j]? with
    | none=>rw [q]at e2';cases e2'
    | some o=>rw [q]at e2';simp at e2';rw [e2']
   obtain⟨y,q1,q2,q3⟩:=S.cap _ _ hj
   have:y=x:=by
    have e1':N'[i]? = some x:=e1
    rw [show n+(i - n)=i by omega,e1']at q2
    cases q2;rfl
   subst this
   obtain⟨m0,hn0,hl0⟩:=I.loc
   have hv:Vis X.env.scope y:=by
    rcases S.free _ (J5 q3) rfl with z|z
    ·exact .inr (.inl z)
    ·exact .inr (.inr z)
   obtain⟨u,ru,lk⟩:=hl0 j y v q1 e2'' hv
   refine⟨u,ru,.inr ⟨ag4 q3,?_⟩⟩
   rcases lk with⟨lk,_⟩|⟨_,c,hc,hcell⟩
   ·rcases S.free _ (J5 q3) rfl with z|z
    ·have:X.env.scope.names.lookup y=some .local:=lk
     rw [z]at this;cases this
    ·have:X.env.scope.names.lookup y=some .local:=lk
     rw [z]at this;cases this
   ·obtain⟨c',hc'⟩:=cl_has y (J5 q3)
    have:=cl_of y c' hc'
    rw [hc]at this;cases this
    obtain⟨o,ho,hd⟩:=hcell
    exact⟨c,hc',o,hk c o ho,hd⟩
 ·obtain⟨v,o,ho,hd⟩:=I.cell x c (cl_of x c e)
  exact⟨v,o,hk c o ho,hd⟩
 ·show(ab8 n caps σ).length=N'.length
  unfold ab8
  rw [S.len];simp
theorem ae2{pins:List (Addr×Obj)}{σ σ':L2.St}{H H':Hp}{s s':Shared}{h':Heap}{fp:List Addr}(I:Inv X pins σ H s) (hf:∀b∈fp,k8 X pins H b)
  (I':Inv (D0 X N' scope s.heap.objs.size s H fp) [] σ' H' s') (sb:Heap.SameBut s.heap.objs.size s'.heap h'):Inv X pins σ H' { s' with heap:=h' }:=by
 have ne:∀b o,s.heap.get? b=some o->b≠s.heap.objs.size:=fun b o e=>Nat.ne_of_lt (Heap.lt_size e)
 refine I.call' (s':={ s' with heap:=h' }) (ch:=fp) I'.os ?_ ?_ I'.bare fun b hb=>⟨(hf b hb).2.2.2.1,(hf b hb).2.1,(hf b hb).2.2.2.2.1,(hf b hb).2.2.2.2.2⟩
 ·refine⟨fun b o e n hb hx=>sb.extBut b o (ne b o e) (I'.base.keep b o e n hb hx),fun b o e n hb hx=>?_,I'.base.free,fun b o e hx=>?_,I'.base.tups,I'.base.frzs,I'.base.tbls⟩
  ·obtain⟨sl,q⟩:=I'.base.slot b o e n hb hx
   exact⟨sl,sb.extBut b _ (ne b o e) q⟩
  ·obtain⟨o',q⟩:=I'.base.there b o e hx
   exact⟨o',sb.extBut b _ (ne b o e) q⟩
 ·intro b u e
  have nC:∀c v,H' c=some v->c≠s.heap.objs.size:=fun c v q z=>by
   have:=I'.free
   have z':H' c=none:=by rw [z];exact this
   rw [z']at q;cases q
  refine(I'.hok b u e).stay (fun c v hc q=>sb.extBut c v ?_ q) (fun _ q=>q) fun _ _ q=>q
  rcases hc with z|z
  ·rw [z];exact nC b u e
  ·exact nC c _ z
noncomputable def PTs(X:Cx) (ifs:List Expr) (t:TT):Prop :=
 ∀(pins:List (Addr×Obj)) (s:Shared) (σ:L2.St) (H:Hp) (Q:Bool->Hp->Prop),Inv X pins σ H s->t σ H Q ->
  wpAny (model X.prog X.w) X.A (forIn ifs true fun c r=>if r=true then do let ok ← isTrue c X.env (eval c X.env);pure (ForInStep.yield ok) else pure (ForInStep.yield r)) (TP X pins σ Q) X.xe s
theorem aT0:PTs X [] (fun _ H Q=>Q true H):=fun pins s σ H Q I h=>wpAny_tests_nil ⟨H,I,h⟩
theorem aS9{c:Expr}{t:TT}(h:PT X c t):PTs X [c] t:=fun pins s σ H Q I q=>wpAny_tests_one (h pins s σ H Q I q)
noncomputable def aF4(n:Nat) (caps:List Nat) (wi:TI) (g:TG) (tc:TT) (te:TE):TE:=fun σ H Q=>wi σ H fun J H1=>∀Dd,H1 Dd=none->∃W:Nat->Nat->List V->L2.St->Hp->Prop,
 (∃m,W 0 m [] (ab8 n caps σ) (upd H1 Dd (.lst []))) /\
 ∀i m ys σ' H',W i m ys σ' H' ->
  (J.stop i H'/\Q (.ref Dd) H') \/
  (J.go i H'/\∀x H2,J.yld i H' x H2->g x σ' H2 fun σ3 H3=>tc σ3 H3 fun b H4 =>
   if b=true then te σ3 H4 fun y H5=>H5 Dd=some (.lst ys)/\ys.length < sizeLine/\∃m',m' < m/\W (i+1) m' (ys++[y]) σ3 (upd H5 Dd (.lst (ys++[y])))
   else ∃m',m' < m/\W (i+1) m' ys σ3 H4)
theorem ao2{elt tgt iter:Expr}{ifs:List Expr}{pos:Pos}{wi:TI}{g:TG}{tc:TT}{te:TE}{RR:Value->Addr->Result->Shared->Prop}{E:Value->Shared->Prop}(S:CompSc X N' n caps scope) (hx:∀e s,X.xe e s->False) (hc:X.calm=true)
  (hi:PI X tgt iter wi) (hg:∀C s0 H0 ex,PG (D0 X N' scope C s0 H0 ex) tgt g) (ht:∀C s0 H0 ex,PTs (D0 X N' scope C s0 H0 ex) ifs tc) (he:∀C s0 H0 ex,PE (D0 X N' scope C s0 H0 ex) elt te)
  {pins:List (Addr×Obj)}{s:Shared}{σ:L2.St}{H:Hp}{Q:VK}(I:Inv X pins σ H s) (h:aF4 n caps wi g tc te σ H Q)
  (hRR:∀D C r s',r=.ok .next->(∃m,s'.heap.Ns C m/\∀h',Heap.SameBut C s'.heap h'->∃H',Inv X pins σ H' { s' with heap:=h' }/\Q (.ref D) H') ->
   (∃s2 fp σ' H2 H',s2.heap.objs.size=C/\Inv X pins σ H2 s2/\(∀b∈fp,k8 X pins H2 b)/\Inv (D0 X N' scope s2.heap.objs.size s2 H2 fp) [] σ' H' s'/\Q (.ref D) H')->RR (.ref D) C r s') :
  wpAny (model X.prog X.w) X.A (eval iter X.env) (fun x s₁=>wpAny (model X.prog X.w) X.A (pyIter x) (fun it s₂=>wpAny (model X.prog X.w) X.A (newList []) (fun acc s₃ =>
   wpAny (model X.prog X.w) X.A (newFunctionEnv scope X.env.globals (J1 X.env.cells scope.names []) [] X.env.qual none .none (some X.env)) (fun cenv s₄ =>
    codeAny (model X.prog X.w) X.A (.compStart (.ListComp elt [⟨tgt,iter,ifs,0⟩] scope pos) 0 it acc { cenv with scope:=relabel scope X.env }) (RR acc cenv.locals) s₄) E s₃) E s₂) E s₁) E s:=by
 refine wpAny_mono (hi pins s σ H _ I h) (fun v s1 h1=>wpAny_mono h1 (fun itv s2 h2=>?_) fun _ _ z=>(hx _ _ z).elim) fun _ _ z=>(hx _ _ z).elim
 obtain⟨it,fp,tn,J,H2,e,I2,T,st2,f2,R⟩:=h2
 subst e
 refine wpAny_newObj_type (wpAny_newFunctionEnv S.cell (by intro y hy;simp at hy) (fun h₁ hns₁ hsb₁=>?_) S.kind)
 dsimp only at hns₁ hsb₁ ⊢
 obtain⟨W,⟨m0,w0⟩,turn⟩:=R s2.heap.objs.size (I2.hok.fresh (Nat.le_refl _))
 have lt2:∀b∈fp,b < s2.heap.objs.size:=fun b hb=>by
  obtain⟨o,ho,_⟩:=T.obj _ _ st2 b hb
  exact Heap.lt_size ho
 have I3:Inv X pins σ (upd H2 s2.heap.objs.size (.lst [])) { s2 with heap:=s2.heap.push { cls:=.type "list", dict:=none,data:=.seq ([]:List Value).toArray } } :=
  I2.laid (t':=s2.toks) (fun b u e=>Heap.get?_push_of_some _ e) (Nat.le_refl _) ⟨Nat.zero_le _,[],0,.nil,Heap.get?_push_size _ rfl⟩
 generalize hs3:({ s2 with heap:=s2.heap.push { cls:=.type "list", dict:=none,data:=.seq ([]:List Value).toArray } }:Shared)=s3 at I3
 have es3:s3.heap=s2.heap.push { cls:=.type "list", dict:=none,data:=.seq ([]:List Value).toArray }:=by rw [← hs3]
 rw [← es3]at hns₁ hsb₁ ⊢
 have keep3:∀b o,s3.heap.get? b=some o->h₁.get? b=some o:=fun b o e=>hsb₁.extBut b o (Nat.ne_of_lt (Heap.lt_size e)) (Heap.get?_push_of_some _ e)
 have lt3:∀b∈fp,b < s3.heap.objs.size:=fun b hb=>by rw [es3,Heap.size_push];exact Nat.lt_succ_of_lt (lt2 b hb)
 have f3:∀b∈fp,k8 X pins (upd H2 s2.heap.objs.size (.lst [])) b:=fun b hb=>⟨by rw [A8 (Nat.ne_of_lt (lt2 b hb))];exact(f2 b hb).1,(f2 b hb).2⟩
 generalize hH3:upd H2 s2.heap.objs.size (HO.lst [])=H3 at I3 f3 w0
 have fin3:∀{σ':L2.St}{H':Hp}{pl:List (Addr×Obj)},(∀b∈fp,H' b=none)->(∀p∈pl,False)->∀b∈fp,k8 (D0 X N' scope s3.heap.objs.size s3 H3 fp) pl H' b:=fun{σ' H' pl} hn hp b hb=>by
  refine⟨hn b hb,Nat.ne_of_lt (lt3 b hb),fun z=>?_,.inl hb,fun x c e=>?_,fun p hp'=>?_⟩
  ·rcases List.mem_cons.mp (I3.stkSub b z) with z|z
   ·exact(f3 b hb).2.1 z
   ·exact(f3 b hb).2.2.1 z
  ·have hm:=PySem.mem_of_lookup e
   rcases Z6 hm with q|⟨q1,q2⟩
   ·cases q
   ·obtain⟨c',hc'⟩:=I3.ok.has x (S.free _ q1 rfl)
    rw [hc']at q2
    have q2':c=c':=q2
    subst q2'
    exact(f3 b hb).2.2.2.2.1 x c hc'
  ·exact(hp p (by simpa [D0] using hp')).elim
 have toks:∃tk,({ s2 with heap:=h₁,toks:=s2.toks+([]:List (Str×Value)).length }:Shared)={ s3 with heap:=h₁,toks:=tk }:=⟨s2.toks,by rw [← hs3];rfl⟩
 obtain⟨tk,htk⟩:=toks
 have st4:tn 0 h₁:=T.keep 0 s2.heap h₁ st2 fun b hb o e=>keep3 b o (by rw [es3];exact Heap.get?_push_of_some _ e)
 have I4:Inv (D0 X N' scope s3.heap.objs.size s3 H3 fp) [] (ab8 n caps σ) H3 { s3 with heap:=h₁,toks:=tk }:=as6 S I3 f3 lt3 hns₁ keep3
 have loop:codeAny (model X.prog X.w) X.A (.compLoop (.ListComp elt [⟨tgt,iter,ifs,0⟩] scope pos) 0 (.ref it) (.ref s2.heap.objs.size) (compEnvC scope (J1 X.env.cells scope.names []) s3.heap.objs.size X.env)) (RR (.ref s2.heap.objs.size) s3.heap.objs.size) { s3 with heap:=h₁,toks:=tk }:=by
  refine aD8 (fun k s'=>∃i ys σ' H',Inv (D0 X N' scope s3.heap.objs.size s3 H3 fp) [] σ' H' s'/\tn i s'.heap/\(∀b∈fp,H' b=none)/\W i k ys σ' H') ?_ m0 ⟨0,[],_,H3,I4,st4,fun b hb=>(f3 b hb).1,w0⟩
  rintro k s5 ⟨i,ys,σ5,H5,I5,st5,fr5,w5⟩
  have pz:∀p∈([]:List (Addr×Obj)),False:=fun p hp=>by cases hp
  rcases turn i k ys σ5 H5 w5 with⟨stop,qn⟩|⟨go,step⟩
  ·refine wpAny_mono (T.done (D0 X N' scope s3.heap.objs.size s3 H3 fp) rfl rfl rfl hc i [] s5 σ5 H5 (fun _ _=>False) I5 (fin3 (σ':=σ5) fr5 pz) st5 stop) (fun r s6 ⟨hr,I6⟩=>?_) fun _ _ z=>z
   subst hr
   obtain⟨m6,hn6,_⟩:=I6.loc
   refine hRR _ _ _ s6 rfl ⟨m6,hn6,fun h' sb=>⟨H5,ae2 I3 f3 I6 sb,qn⟩⟩ ⟨s3,fp,σ5,H3,H5,rfl,I3,f3,I6,qn⟩
  ·refine wpAny_mono (T.item (D0 X N' scope s3.heap.objs.size s3 H3 fp) rfl rfl rfl hc i [] s5 σ5 H5 (fun _ _=>False) I5 (fin3 (σ':=σ5) fr5 pz) st5 go) (fun r s6 ⟨u,hr,h6⟩=>?_) fun _ _ z=>z
   subst hr
   refine wpAny_mono h6 (fun _ s7 ⟨x,H7,I7,r7,y7,st7,fr7⟩=>?_) fun _ _ z=>z
   have I7':=I7.pinned (fin3 (σ':=σ5) fr7 pz) (T.obj _ _ st7)
   refine wpAny_mono (hg _ _ _ _ _ s7 σ5 H7 x u _ I7' r7 (step x H7 y7)) (fun _ s8 ⟨σ8,H8,I8,q8⟩=>?_) fun _ _ z=>z
   refine wpAny_mono (ht _ _ _ _ _ s8 σ8 H8 _ I8 q8) (fun ok s9 ⟨H9,I9,q9⟩=>?_) fun _ _ z=>z
   have again:∀{σ':L2.St}{H':Hp}{s':Shared},Inv (D0 X N' scope s3.heap.objs.size s3 H3 fp) ([]++x9 fp s7.heap) σ' H' s'->Inv (D0 X N' scope s3.heap.objs.size s3 H3 fp) [] σ' H' s'/\tn (i+1) s'.heap/\∀b∈fp,H' b=none:=fun{σ' H' s'} I'=>by
    refine⟨I'.unpinned,T.keep _ _ _ st7 fun b hb o e=>(I'.pin (b,o) (List.mem_append_right _ (List.mem_append_right _ (Q2 hb e)))).1,fun b hb=>?_⟩
    obtain⟨o,e,d⟩:=T.obj _ _ st7 b hb
    exact(I'.pin (b,o) (List.mem_append_right _ (List.mem_append_right _ (Q2 hb e)))).2.1
   cases ok with
   | false =>
    rw [if_neg Bool.false_ne_true]at q9 ⊢
    obtain⟨m',hm,w'⟩:=q9
    obtain⟨a1,a2,a3⟩:=again I9
    exact⟨m',hm,i+1,ys,σ8,H9,a1,a2,a3,w'⟩
   | true =>
    rw [if_pos rfl]at q9 ⊢
    refine wpAny_mono (he _ _ _ _ _ s9 σ8 H9 _ I9 q9) (fun y s10 ⟨vy,H10,I10,r10,q10,z10,m',hm,w'⟩=>?_) fun _ _ z=>z
    refine wpAny_mono (ad5 (X:=D0 X N' scope s3.heap.objs.size s3 H3 fp) _ s10 σ8 H10 (.ref s2.heap.objs.size) [vy] _ _ (fun v H'=>v=.non/\H'=upd H10 s2.heap.objs.size (.lst (ys++[vy]))) I10 rfl (.cons r10 .nil) ⟨_,ys,vy,rfl,rfl,q10,z10,rfl,rfl⟩) (fun _ s11 ⟨v11,H11,I11,r11,e11,e12⟩=>?_) fun _ _ z=>z
    subst e12
    obtain⟨a1,a2,a3⟩:=again I11
    exact⟨m',hm,i+1,ys++[vy],σ8,_,a1,a2,a3,w'⟩
 show codeAny (model X.prog X.w) X.A _ _ ({ s2 with heap:=h₁,toks:=s2.toks+([]:List (Str×Value)).length }:Shared)
 rw [htk]
 exact codeAny_compStart_list loop (T.self _ _ _ _ _ st4 loop)
end
section
variable {X:Cx}
noncomputable def tgJ(K:PySem.W.Frag) (f:D->Rho->Option Rho):TG:=fun v σ H Q=>∃d ρ ρ' H0 Hf,f d ρ=some ρ'/\C2 Hf H/\Slots K H0 ρ σ H Hf/\Rep K Hf d v/\∀σ',Slots K H0 ρ' σ' H Hf->Q σ' H
noncomputable def JG(X:Cx) (tg:Expr) (f:D->Rho->Option Rho):Prop:=PG X tg (tgJ X.K f)
noncomputable def bz3(K:PySem.W.Frag) (f:List D->Rho->Option Rho):TGs:=fun vs σ H Q=>∃ds ρ ρ' H0 Hf,f ds ρ=some ρ'/\C2 Hf H/\Slots K H0 ρ σ H Hf/\Reps K Hf ds vs/\∀σ',Slots K H0 ρ' σ' H Hf->Q σ' H
noncomputable def JGs(X:Cx) (tg:List Expr) (f:List D->Rho->Option Rho):Prop:=PGs X tg (bz3 X.K f)
noncomputable def C0(i:Nat):D->Rho->Option Rho:=fun d ρ=>some (ρ.set i (some (.val d)))
theorem aX6(i:Nat) {x:Str}{pos:Pos}(hN:X.N.Nodup) (hi:X.N[i]? = some x:=by rfl) (hx:Loc X.env.scope x:=by first|exact Or.inl rfl|exact Or.inr rfl) (hf:X.fn x=true\/X.env.scope.names.lookup x=some .local:=by first|exact .inl rfl|exact .inr rfl):JG X (.Name x pos) (C0 i):=by
 intro pins s σ H v u Q I r ⟨d,ρ,ρ',H0,Hf,e,ss,sl,rp,k⟩
 cases e
 exact aU0 hN hi hx hf pins s σ H v u Q I r (k _ (sl.set rp))
noncomputable def F8:List D->Rho->Option Rho:=fun ds ρ=>match ds with
 | []=>some ρ
 | _=>none
noncomputable def B7(f:D->Rho->Option Rho) (g:List D->Rho->Option Rho):List D->Rho->Option Rho:=fun ds ρ=>match ds with
 | d::r=>(f d ρ).bind fun ρ'=>g r ρ'
 | []=>none
theorem aX5:JGs X [] F8:=by
 intro pins s σ H vs us Q I r ⟨ds,ρ,ρ',H0,Hf,e,ss,sl,rp,k⟩
 cases ds with
 | nil=>cases e;exact aT9 pins s σ H vs us Q I r ⟨rp,k _ sl⟩
 | cons d ds=>cases e
theorem aL6{e:Expr}{es:List Expr}{f:D->Rho->Option Rho}{g:List D->Rho->Option Rho}(h1:JG X e f) (h2:JGs X es g) (hs:(assignEach (e::es) X.env).map (·.2)=assign e X.env::(assignEach es X.env).map (·.2):=by rfl):JGs X (e::es) (B7 f g):=by
 intro pins s σ H vs us Q I r ⟨ds,ρ,ρ',H0,Hf,e,ss,sl,rp,k⟩
 cases ds with
 | nil=>cases e
 | cons d ds =>
  obtain⟨ρ1,e1,e2⟩:=xbm e
  obtain⟨v,vr,rfl,q1,q2⟩:=rp
  exact aH7 h1 h2 hs pins s σ H _ us Q I r ⟨v,vr,rfl,d,ρ,ρ1,H0,Hf,e1,ss,sl,q1,fun σ' sl'=>⟨ds,ρ1,ρ',H0,Hf,e2,ss,sl',q2,k⟩⟩
noncomputable def F2(n:Nat) (g:List D->Rho->Option Rho):D->Rho->Option Rho:=fun d ρ=>match d with
 | .tuple ds=>if ds.length=n then g ds ρ else none
 | _=>none
theorem bm5{es:List Expr}{k n:Nat}{pos:Pos}{g:List D->Rho->Option Rho}(h:JGs X es g) (hc:X.calm=true:=by rfl) (hn:(assignEach es X.env).length=n:=by rfl) (hst:(assignEach es X.env).findIdx? (·.1)=none:=by rfl):JG X (.Tuple es k pos) (F2 n g):=by
 intro pins s σ H v u Q I r ⟨d,ρ,ρ',H0,Hf,e,ss,sl,rp,kk⟩
 cases d with
 | tuple ds =>
  simp only [F2]at e
  split at e
  ·rename_i hl
   obtain⟨a,vs,rfl,q1,q2⟩:=rp
   exact bh6 hc h hn hst pins s σ H _ u Q I r ⟨a,vs,rfl,B9 ss q1,by rw [q2.length,hl],ds,ρ,ρ',H0,Hf,e,ss,sl,q2,kk⟩
  ·cases e
 | _=>cases e
noncomputable def at5(K:PySem.W.Frag) (J:It) (ds:List D) (Hf1:Hp):Prop:=∀(i:Nat) (H Hf:Hp),C2 Hf1 Hf->C2 Hf H->(ds.length<=i->J.stop i H)/\∀d,ds[i]? = some d->J.go i H/\∀x H',J.yld i H x H'->∃Hf',Grow H Hf H' Hf'/\Rep K Hf' d x
noncomputable def tiJ(K:PySem.W.Frag) (ρ:Rho) (ds:List D):TI:=fun σ H R=>∃H0 Hf,C2 Hf H/\Slots K H0 ρ σ H Hf/\∀J H' Hf',Grow H Hf H' Hf'->at5 K J ds Hf'->R J H'
noncomputable def JI(X:Cx) (tg iter:Expr) (f:Rho->Option (List D)):Prop:=∀ρ ds,f ρ=some ds->PI X tg iter (tiJ X.K ρ ds)
theorem ah0{tg iter:Expr}{t t':TI}(h:PI X tg iter t) (i:∀σ H R,t' σ H R->t σ H R):PI X tg iter t':=fun pins s σ H R I q=>h pins s σ H R I (i σ H R q)
noncomputable def J0(f:DE):Rho->Option (List D):=fun ρ=>(f ρ).bind fun d=>match d with
 | .list ds=>some ds
 | .tuple ds=>some ds
 | _=>none
theorem ar3{tg e:Expr}{f:DE}(h:JE X e f):JI X tg e (J0 f):=fun ρ ds q=>by
 obtain⟨d,e1,e2⟩:=xbm q
 cases d with
 | list xs =>
  cases e2
  refine ah0 (aT8 (h ρ _ e1)) fun σ H R ⟨H0,Hf,s,sl,k⟩=>⟨H0,Hf,s,sl,fun v H1 Hf1 g1 ⟨a,vs,h1,h2,h3⟩=>⟨a,h1,⟨vs,D1 g1.sub h2⟩,k _ H1 Hf1 g1 ?_⟩⟩
  intro i H' Hf' sa sb
  have q':SqL X.K H' a vs:=D1 (sa.trans sb) h2
  refine⟨fun hi=>⟨vs,q',by rw [h3.length];exact hi⟩,fun d hd=>?_⟩
  obtain⟨v,w1,w2⟩:=h3.get hd
  refine⟨⟨vs,v,q',w1⟩,fun x H'' hy=>?_⟩
  obtain⟨rfl,hy⟩:=hy
  have:=hy vs q'
  rw [w1]at this;cases this
  exact⟨Hf',Grow.refl sb,w2.mono sa⟩
 | tuple xs =>
  cases e2
  refine ah0 (bh5 (h ρ _ e1)) fun σ H R ⟨H0,Hf,s,sl,k⟩=>⟨H0,Hf,s,sl,fun v H1 Hf1 g1 ⟨a,vs,h1,h2,h3⟩=>⟨a,h1,⟨vs,B9 g1.sub h2⟩,k _ H1 Hf1 g1 ?_⟩⟩
  intro i H' Hf' sa sb
  have q':SqT X.K H' a vs:=B9 (sa.trans sb) h2
  refine⟨fun hi=>⟨vs,q',by rw [h3.length];exact hi⟩,fun d hd=>?_⟩
  obtain⟨v,w1,w2⟩:=h3.get hd
  refine⟨⟨vs,v,q',w1⟩,fun x H'' hy=>?_⟩
  obtain⟨rfl,hy⟩:=hy
  have:=hy vs q'
  rw [w1]at this;cases this
  exact⟨Hf',Grow.refl sb,w2.mono sa⟩
 | _=>cases e2
noncomputable def N8(lo hi:Int):List D:=(List.range (hi - lo).toNat).map fun(i:Nat)=>PyData.int (lo+i)
theorem W7{K:PySem.W.Frag}{lo hi:Int}{Hf1:Hp}:at5 K (Itr lo (hi - lo).toNat) (N8 lo hi) Hf1:=by
 intro i H Hf sa sb
 have hl:(N8 lo hi).length=(hi - lo).toNat:=by simp [N8]
 refine⟨fun h=>by rw [hl]at h;exact h,fun d hd=>?_⟩
 have hi':i < (hi - lo).toNat:=by
  have:=(List.getElem?_eq_some_iff.mp hd).1
  rw [hl]at this;exact this
 refine⟨hi',fun x H' hy=>?_⟩
 obtain⟨e1,e2⟩:=hy
 subst e1 e2
 have:d=.int (lo+i):=by
  have:(N8 lo hi)[i]? = some (.int (lo+i)):=by simp [N8,hi']
  rw [hd]at this;cases this;rfl
 subst this
 exact⟨Hf,Grow.refl sb,rfl⟩
noncomputable def G2(f:DE):Rho->Option (List D):=fun ρ=>(f ρ).bind fun d=>match d with
 | .int j=>if -(2 ^ 62)<=j/\j < 2 ^ 62 then some (N8 0 j) else none
 | _=>none
theorem aC5{tg e:Expr}{f:DE}{p pos:Pos}(hg:Gl X "range") (hm:X.mg "range" = none) (h:JE X e f) (hs:starEach [e] X.env=[(false,eval e X.env)]:=by rfl):JI X tg (.Call (.Name "range" p) [e] [] pos) (G2 f):=fun ρ ds q=>by
 obtain⟨d,e1,e2⟩:=xbm q
 split at e2
 ·split at e2
  ·rename_i j c
   cases e2
   refine ah0 (aA7 hg hm (C7 (h ρ _ e1) E8 hs) hs) fun σ H R ⟨H0,Hf,s,sl,k⟩=>⟨H0,Hf,s,sl,fun v H1 Hf1 g1 r=>⟨j,by rw [show v=_ from r],c.1,c.2,k _ H1 Hf1 g1 ?_⟩⟩
   have:=W7 (K:=X.K) (lo:=0) (hi:=j) (Hf1:=Hf1)
   rw [Int.sub_zero]at this
   exact this
  ·cases e2
 ·cases e2
noncomputable def ad9(f g:DE):Rho->Option (List D):=fun ρ=>(f ρ).bind fun d=>(g ρ).bind fun e=>match d,e with
 | .int i,.int j=>if(-(2 ^ 62)<=i/\i < 2 ^ 62)/\-(2 ^ 62)<=j/\j < 2 ^ 62 then some (N8 i j) else none
 | _,_=>none
theorem aC4{tg a b:Expr}{f g:DE}{p pos:Pos}(hg:Gl X "range") (hm:X.mg "range" = none) (ha:JE X a f) (hb:JE X b g) (hs:starEach [a,b] X.env=[(false,eval a X.env),(false,eval b X.env)]:=by rfl) (hs2:starEach [b] X.env=[(false,eval b X.env)]:=by rfl) :
  JI X tg (.Call (.Name "range" p) [a,b] [] pos) (ad9 f g):=fun ρ ds q=>by
 obtain⟨d,e1,q⟩:=xbm q
 obtain⟨e,e2,q⟩:=xbm q
 split at q
 ·split at q
  ·rename_i c
   cases q
   refine ah0 (aA6 hg hm (C7 (ha ρ _ e1) (C7 (hb ρ _ e2) E8 hs2) (by rw [hs,hs2])) hs hs2) fun σ H R ⟨H0,Hf,s,sl,k⟩=>⟨H0,Hf,s,sl,fun v H1 Hf1 g1 r=>⟨H0,Hf1,g1.sub,sl.grow g1,fun u H2 Hf2 g2 r2=>⟨_,_,by rw [show v=_ from r,show u=_ from r2],⟨c.1.1,c.1.2,c.2.1,c.2.2⟩,k _ H2 Hf2 (g1.trans g2) W7⟩⟩⟩
  ·cases q
 ·cases q
theorem Grow.nofr{H Hf H' Hf':Hp}{a:Addr}{o:HO}(g:Grow H Hf H' Hf') (h:H a=some o) (n:Hf a=none):Hf' a=none:=by
 cases q:Hf' a with
 | none=>rfl
 | some u =>
  rcases g.new a (by rw [q];simp) with z|z
  ·exact absurd n z
  ·rw [h]at z;cases z
noncomputable def R1(n:Nat) (caps:List Nat) (ρ:Rho):Rho:=List.replicate n none++caps.map fun j=>match ρ[j]? with
 | some (some (.val d))=>some (.val d)
 | _=>none
noncomputable def L7(g:D->Rho->Option Rho) (c:Rho->Option Bool) (e:DE):List D->Rho->Option (List D)
 | [],_=>some []
 | d::ds,ρ=>(g d ρ).bind fun ρ1=>(c ρ1).bind fun b=>if b then(e ρ1).bind fun y=>(L7 g c e ds ρ1).map fun r=>y::r else L7 g c e ds ρ1
noncomputable def D7(n:Nat) (caps:List Nat) (src:Rho->Option (List D)) (g:D->Rho->Option Rho) (c:Rho->Option Bool) (e:DE):Rho->Option (List D):=fun ρ=>(src ρ).bind fun ds=>if ds.length<=16777216 then L7 g c e ds (R1 n caps ρ) else none
noncomputable def ac0(K:PySem.W.Frag) (c:Rho->Option Bool):TT:=fun σ H Q=>∃ρ b,c ρ=some b/\∃H0 Hf,C2 Hf H/\Slots K H0 ρ σ H Hf/\∀H' Hf',Grow H Hf H' Hf'->Q b H'
noncomputable def at8(K:PySem.W.Frag) (e:DE):TE:=fun σ H Q=>∃ρ d,e ρ=some d/\tJ K ρ (fun _ v _ Hf=>Rep K Hf d v) σ H Q
noncomputable def JTs(X:Cx) (ifs:List Expr) (c:Rho->Option Bool):Prop:=PTs X ifs (ac0 X.K c)
noncomputable def D2:Rho->Option Bool:=fun _=>some true
theorem aW1:JTs X [] D2:=fun pins s σ H Q I ⟨ρ,b,e,H0,Hf,ss,sl,k⟩=>by
 cases e
 exact aT0 pins s σ H Q I (k H Hf (Grow.refl ss))
theorem aW0{e:Expr}{c:Rho->Option Bool}(h:JT X e c):JTs X [e] c:=fun pins s σ H Q I ⟨ρ,b,e,H0,Hf,ss,sl,k⟩=>aS9 (h ρ b e) pins s σ H Q I ⟨H0,Hf,ss,sl,k⟩
theorem as8{K:PySem.W.Frag}{n:Nat}{caps:List Nat}{H0 H H1 H' Hf:Hp}{ρ:Rho}{σ:L2.St}(sl:Slots K H0 ρ σ H Hf):Slots K H1 (R1 n caps ρ) (ab8 n caps σ) H' Hf:=by
 have noown:∀(i:Nat) (ds:List D),(R1 n caps ρ)[i]?≠some (some (.own ds)):=fun i ds h=>by
  unfold R1 at h
  rcases Nat.lt_or_ge i n with q|q
  ·rw [List.getElem?_append_left (by simpa using q),List.getElem?_replicate,if_pos q]at h;cases h
  ·rw [List.getElem?_append_right (by simpa using q),List.getElem?_map]at h
   cases hj:caps[i - (List.replicate n (none:Option B)).length]? with
   | none=>rw [hj]at h;cases h
   | some j =>
    rw [hj]at h
    simp only [Option.map_some,Option.some.injEq]at h
    split at h<;>cases h
 refine⟨by simp [R1,ab8],fun i b e=>?_,fun i j ds es a h1=>(noown i ds h1).elim⟩
 unfold R1 at e
 unfold ab8
 rcases Nat.lt_or_ge i n with q|q
 ·rw [List.getElem?_append_left (by simpa using q),List.getElem?_replicate,if_pos q]at e;cases e
 ·rw [List.getElem?_append_right (by simpa using q),List.getElem?_map]at e
  rw [List.getElem?_append_right (by simpa using q),List.getElem?_map]
  simp only [List.length_replicate]at e ⊢
  cases hj:caps[i - n]? with
  | none=>rw [hj]at e;cases e
  | some j =>
   rw [hj]at e
   simp only [Option.map_some,Option.some.injEq]at e ⊢
   split at e
   ·rename_i d hd
    cases e
    obtain⟨v,h1,h2⟩:=sl.is j _ hd
    exact⟨v,by rw [h1];rfl,h2⟩
   ·cases e
theorem W3{K:PySem.W.Frag}{n:Nat}{caps:List Nat}{ρ:Rho}{src:Rho->Option (List D)}{g:D->Rho->Option Rho}{c:Rho->Option Bool}{e:DE}{out:List D}(h:D7 n caps src g c e ρ=some out) :
  ∃ds,src ρ=some ds/\∀σ H Q,tJ K ρ (fun H v H' Hf'=>∃a vs,v=.ref a/\H a=none/\H' a=some (.lst vs)/\Hf' a=none/\Reps K Hf' out vs) σ H Q->aF4 n caps (tiJ K ρ ds) (tgJ K g) (ac0 K c) (at8 K e) σ H Q:=by
 obtain⟨ds,e1,e2⟩:=xbm h
 split at e2
 ·rename_i hz
  refine⟨ds,e1,fun σ H Q ⟨H0,Hf,s,sl,k⟩=>⟨H0,Hf,s,sl,fun J H1 Hf1 g1 Y Dd hD=>?_⟩⟩
  refine⟨fun i m ys σ' H'=>m=ds.length - i/\i<=ds.length/\∃Hf' ρ' o1 o2,Grow H1 Hf1 H' Hf'/\H' Dd=some (.lst ys)/\Hf' Dd=none/\Slots K (upd H1 Dd (.lst [])) ρ' σ' H' Hf'/\Reps K Hf' o1 ys/\o1.length<=i/\L7 g c e (ds.drop i) ρ'=some o2/\o1++o2=out,
   ⟨ds.length,by simp,Nat.zero_le _,Hf1,R1 n caps ρ,[],out,Grow.made g1.sub hD,B0,g1.sub.free hD,as8 (sl.grow g1),rfl,Nat.le_refl _,by simpa using e2,rfl⟩,?_⟩
  rintro i m ys σ' H' ⟨rfl,hi,Hf',ρ',o1,o2,gr,hd1,hd2,sl',rp,ho,ec,eo⟩
  obtain⟨Ys,Yg⟩:=Y i H' Hf' gr.ext gr.sub
  rcases Nat.lt_or_ge i ds.length with hlt|hge
  ·right
   obtain⟨go,yl⟩:=Yg ds[i] (by simp [hlt])
   refine⟨go,fun x H2 hy=>?_⟩
   obtain⟨Hf2,g2,r2⟩:=yl x H2 hy
   rw [List.drop_eq_getElem_cons hlt]at ec
   obtain⟨ρ1,c1,ec⟩:=xbm ec
   obtain⟨b,c2,ec⟩:=xbm ec
   refine⟨ds[i],ρ',ρ1,_,Hf2,c1,g2.sub,sl'.grow g2,r2,fun σ3 sl3=>⟨ρ1,b,c2,_,Hf2,g2.sub,sl3,fun H4 Hf4 g4=>?_⟩⟩
   have gr4:=(gr.trans g2).trans g4
   have hd4:H4 Dd=some (.lst ys):=g4.big _ _ (g2.big _ _ hd1)
   have hf4:Hf4 Dd=none:=(g2.trans g4).nofr hd1 hd2
   have rp4:=rp.mono (g2.trans g4).ext
   cases b with
   | false =>
    rw [if_neg Bool.false_ne_true]at ec
    refine ab6 ?_
    exact⟨ds.length - (i+1),by omega,rfl,hlt,Hf4,ρ1,o1,o2,gr4,hd4,hf4,sl3.grow g4,rp4,by omega,ec,eo⟩
   | true =>
    rw [if_pos rfl]at ec
    refine ab5 ?_
    obtain⟨y,c3,ec⟩:=xbm ec
    obtain⟨o3,c4,rfl⟩:=Option.map_eq_some_iff.mp ec
    refine⟨ρ1,y,c3,_,Hf4,g4.sub,sl3.grow g4,fun v H5 Hf5 g5 r5=>⟨g5.big _ _ hd4,?_,?_⟩⟩
    ·rw [rp.length,sizeLine_eq];omega
    ·have hf5:Hf5 Dd=none:=g5.nofr hd4 hf4
     have gr5:=gr4.trans g5
     refine⟨ds.length - (i+1),by omega,rfl,hlt,Hf5,ρ1,o1++[y],o3,⟨fun b u q=>?_,fun b u q=>?_,gr5.ext,gr5.new⟩,B0,hf5,?_,(rp4.mono g5.ext).append ⟨v,[],rfl,r5,rfl⟩,by simp;omega,c4,by simp [← eo]⟩
     ·rw [A8 (B3 q hD)];exact gr5.big b u q
     ·rw [A8 (B3 q hf5)];exact gr5.sub b u q
     ·have sl5:=(sl3.grow g4).grow g5
      refine⟨sl5.len,fun j bb q=>?_,sl5.apart⟩
      obtain⟨w,q1,q2⟩:=sl5.is j bb q
      refine⟨w,q1,?_⟩
      cases bb with
      | val d=>exact q2
      | exc C=>exact q2
      | own dd =>
       obtain⟨a,vs,z1,z2,z3,z4,z5⟩:=q2
       have ne:a≠Dd:=fun z=>by rw [z,B0]at z4;cases z4
       exact⟨a,vs,z1,by rw [A8 ne];exact z2,z3,z4,z5⟩
  ·left
   have:i=ds.length:=by omega
   subst this
   rw [List.drop_length]at ec
   cases ec
   rw [List.append_nil]at eo
   subst eo
   exact⟨Ys (Nat.le_refl _),k _ H' Hf' (g1.trans gr) ⟨Dd,ys,rfl,g1.big.free hD,hd1,hd2,rp⟩⟩
 ·cases e2
end
section
variable {X:Cx}
noncomputable def p7(N N':List Str) (n:Nat) (caps:List Nat) (sc scope:Scope):Bool :=
 (match scope.kind with | .function=>true|_=>false) &&
 (scope.names.all fun y=>(match y.2 with | .cell=>false | .local=>scope.names.lookup y.1==some .local | .free=>sc.names.lookup y.1==some .cell || sc.names.lookup y.1==some .free|_=>true)) &&
 (N'.length==n+caps.length) &&
 ((List.range caps.length).all fun i=>match caps[i]? with
  | some j=>(match N[j]? with|some x=>N'[n+i]? == some x&&scope.names.lookup x==some .free|none=>false)
  | none=>true)
theorem aD9{N N':List Str}{n:Nat}{caps:List Nat}{sc scope:Scope}(h:p7 N N' n caps sc scope=true) (hN:X.N=N) (hS:X.env.scope=sc):CompSc X N' n caps scope:=by
 subst hN hS
 unfold p7 at h
 simp only [Bool.and_eq_true,List.all_eq_true]at h
 obtain⟨⟨⟨h1,h2⟩,h3⟩,h4⟩:=h
 refine⟨?_,fun y hy e=>?_,fun y hy e=>?_,fun y hy e=>?_,by simpa using h3,fun i j e=>?_⟩
 ·cases q:scope.kind<;>rw [q]at h1<;>first|rfl|cases h1
 ·have:=h2 y hy
  rw [e]at this;cases this
 ·have:=h2 y hy
  rw [e]at this;simpa using this
 ·have:=h2 y hy
  rw [e]at this;simpa using this
 ·have hi:i < caps.length:=(List.getElem?_eq_some_iff.mp e).1
  have:=h4 i (by simpa using hi)
  rw [e]at this
  simp only at this
  cases q:X.N[j]? with
  | none=>rw [q]at this;cases this
  | some x =>
   rw [q]at this
   simp only [Bool.and_eq_true]at this
   exact⟨x,rfl,by simpa using this.1,by simpa using this.2⟩
theorem ay4{N':List Str}{n:Nat}{caps:List Nat}{scope:Scope}{pins:List (Addr×Obj)}{σ:L2.St}{H:Hp}{s:Shared}(S:CompSc X N' n caps scope) (I:Inv X pins σ H s):closureFor scope X.env=pure (J1 X.env.cells scope.names []) :=
 aZ4 fun y hy e=>I.ok.has y.1 (S.free y hy e)
theorem aX4{N':List Str}{n:Nat}{caps:List Nat}{scope:Scope}{elt tgt iter:Expr}{ifs:List Expr}{pos:Pos}{src:Rho->Option (List D)}{g:D->Rho->Option Rho}{c:Rho->Option Bool}{e:DE}(S:CompSc X N' n caps scope) (hx:∀e s,X.xe e s->False)
  (hi:JI X tgt iter src) (hg:∀C s0 H0 ex,JG (D0 X N' scope C s0 H0 ex) tgt g) (ht:∀C s0 H0 ex,JTs (D0 X N' scope C s0 H0 ex) ifs c) (he:∀C s0 H0 ex,JE (D0 X N' scope C s0 H0 ex) elt e)
  (hc:X.calm=true:=by rfl) (hs:∀x,foldedSetIterable iter X.env x=pure x:=by intro _;rfl):JN X (.ListComp elt [⟨tgt,iter,ifs,0⟩] scope pos) (D7 n caps src g c e):=by
 intro ρ out h
 obtain⟨ds,e1,k⟩:=W3 (K:=X.K) h
 intro pins s σ H Q I t
 rw [eval_ListComp]
 refine wpAny_comprehension_free (use:=none) rfl hs (ay4 S I) S.kind S.loc (ao2 (RR:=fun acc C=>compPost (model X.prog X.w) X.A X.xe none (EP X pins σ Q) acc C) S hx hc (hi ρ ds e1) (g:=tgJ X.K g) (tc:=ac0 X.K c) (te:=at8 X.K e) hg ht (fun C s0 H0 ex pins s σ H Q I ⟨ρ,d,e,t⟩=>he C s0 H0 ex ρ d e pins s σ H Q I t) I (k σ H Q t) ?_)
 intro Dd C r s' hr ⟨m,hn,kk⟩ _
 subst hr
 exact⟨m,hn,fun h' sb=>let⟨H',I',q⟩:=kk h' sb;⟨.ref Dd,H',I',rfl,q⟩⟩
theorem x8{N':List Str}{n:Nat}{caps:List Nat}{scope:Scope}{elt tgt iter:Expr}{ifs:List Expr}{pos pos' spos:Pos}{i:Nat}{x:Str}{wi:TI}{g:TG}{tc:TT}{te:TE}(S:CompSc X N' n caps scope) (hx:∀e s,X.xe e s->False) (hc:X.calm=true)
  (hN:X.N.Nodup) (hi:X.N[i]? = some x) (hl:X.env.scope.names.lookup x=some .local) (hsrc:PI X tgt iter wi) (hg:∀C s0 H0 ex,PG (D0 X N' scope C s0 H0 ex) tgt g) (ht:∀C s0 H0 ex,PTs (D0 X N' scope C s0 H0 ex) ifs tc) (he:∀C s0 H0 ex,PE (D0 X N' scope C s0 H0 ex) elt te)
  (hsw:swapsWith (.ListComp elt [⟨tgt,iter,ifs,0⟩] scope pos) (some (.Name x pos')) spos.line X.env=pure true) (hs:∀x,foldedSetIterable iter X.env x=pure x) :
  PS X (.Assign [.Name x pos'] (.ListComp elt [⟨tgt,iter,ifs,0⟩] scope pos) spos) (fun En σ H=>aF4 n caps wi g tc te σ H fun v H'=>En.nx (σ.set i (some v)) H'):=by
 intro pins s σ H En I h
 rw [exec_Assign_Name_used _ _ _ _ hsw]
 refine wpAny_bind (wpAny_standAt (wpAny_bind ?_))
 show wpAny _ X.A (do let _ ← comprehension (.ListComp elt [⟨tgt,iter,ifs,0⟩] scope pos) scope X.env _ (newList []) false (eval iter X.env) (some (assign (.Name x pos') X.env))) _ _ s
 refine wpAny_bind (wpAny_mono (wpAny_comprehension_free (use:=some (assign (.Name x pos') X.env)) (Q:=fun _ s'=>SP X pins En .next s') rfl hs (ay4 S I) S.kind S.loc
  (ao2 (RR:=fun acc C=>compPost (model X.prog X.w) X.A X.xe (some (assign (.Name x pos') X.env)) (fun _ s'=>SP X pins En .next s') acc C) S hx hc hsrc hg ht he I h ?_)) (fun _ s' hq=>wpAny_pure (wpAny_pure hq)) fun _ _ z=>z)
 intro Dd C r s' hr _ ⟨s2,fp,σ',H2,H',eC,I2,f2,I',q⟩
 subst hr eC
 have IX:Inv X pins σ H' s':=ae2 (h':=s'.heap) I2 f2 I' (Heap.SameBut.refl ..)
 obtain⟨mC,hnC,_⟩:=I'.loc
 have hCL:s2.heap.objs.size≠X.env.locals:=fun z=>by
  have:=I2.lt
  rw [← z]at this
  exact Nat.lt_irrefl _ this
 show wpAny _ X.A (assign (.Name x pos') X.env (.ref Dd)) _ _ _
 refine wpAny_assign_Name (ac2 (v:=.ref Dd) IX hN hi (.inl hl) rfl (fun s3 I3 ⟨a,sb,ha⟩=>?_) (.inr hl))
 have hCa:s2.heap.objs.size≠a:=fun z=>by
  rcases ha with ha|ha
  ·exact hCL (z.trans ha)
  ·obtain⟨v,q'⟩:=I2.cell x a ha
   have:=q'.lt
   rw [← z]at this
   exact Nat.lt_irrefl _ this
 refine⟨mC,hnC.sameBut sb hCa,fun h' sb'=>?_⟩
 refine⟨_,H',I3.turned (t':=s3.toks) (it:=s2.heap.objs.size) (fun b o hb e=>sb'.extBut b o hb e) I'.free hCL (.inr I2.sz) (fun y c e z=>?_) (fun p hp z=>?_),q⟩
 ·obtain⟨v,q'⟩:=I2.cell y c e
  have:=q'.lt
  rw [z]at this
  exact Nat.lt_irrefl _ this
 ·have:=Heap.lt_size (I2.pin p hp).1
  rw [z]at this
  exact Nat.lt_irrefl _ this
noncomputable def K1(i:Nat) (f:Rho->Option (List D)):DS:=fun ρ=>(f ρ).map fun ds=>.nx (ρ.set i (some (.val (.list ds))))
theorem aW8(i:Nat) {N':List Str}{n:Nat}{caps:List Nat}{scope:Scope}{elt tgt iter:Expr}{ifs:List Expr}{pos pos' spos:Pos}{x:Str}{src:Rho->Option (List D)}{g:D->Rho->Option Rho}{c:Rho->Option Bool}{e:DE}(hN:X.N.Nodup) (S:CompSc X N' n caps scope) (hx:∀e s,X.xe e s->False)
  (hi:JI X tgt iter src) (hg:∀C s0 H0 ex,JG (D0 X N' scope C s0 H0 ex) tgt g) (ht:∀C s0 H0 ex,JTs (D0 X N' scope C s0 H0 ex) ifs c) (he:∀C s0 H0 ex,JE (D0 X N' scope C s0 H0 ex) elt e)
  (hi2:X.N[i]? = some x:=by rfl) (hl:X.env.scope.names.lookup x=some .local:=by rfl) (hsw:swapsWith (.ListComp elt [⟨tgt,iter,ifs,0⟩] scope pos) (some (.Name x pos')) spos.line X.env=pure true:=by rfl)
  (hc:X.calm=true:=by rfl) (hs:∀x,foldedSetIterable iter X.env x=pure x:=by intro _;rfl):JS X (.Assign [.Name x pos'] (.ListComp elt [⟨tgt,iter,ifs,0⟩] scope pos) spos) (K1 i (D7 n caps src g c e)):=fun ρ fl q H0 Hf0=>by
 obtain⟨out,e1,e2⟩:=Option.map_eq_some_iff.mp q
 subst e2
 obtain⟨ds,e3,k⟩:=W3 (K:=X.K) e1
 refine G5 (x8 S hx hc hN hi2 hl (hi ρ ds e3) (g:=tgJ X.K g) (tc:=ac0 X.K c) (te:=at8 X.K e) hg ht (fun C s0 H0 ex pins s σ H Q I ⟨ρ,d,e,t⟩=>he C s0 H0 ex ρ d e pins s σ H Q I t) hsw hs) fun En σ H ⟨Hf,a,ee⟩=>k σ H _ ⟨H0,Hf,a.gr.sub,a.sl,fun v H' Hf' gg ⟨p,vs,z1,z2,z3,z4,z5⟩=>?_⟩
 subst z1
 have g2:=gg.freeze z3 z4 z2
 exact ee _ H' _ ⟨a.gr.trans g2,(a.sl.grow g2).set ⟨p,vs,rfl,SqL.of B0,z5.mono (C5 z4)⟩⟩ g2.ext
theorem bk9{i j:Nat}{x y:Str}{a b:Expr}{f:Rho->Option (List D)}{px py pt:Pos}{kt k2 pt2} {pos:Pos}(hN:X.N.Nodup) (ha:JA X [a,b] f) (hw:swappedStores [.Tuple [.Name x px,.Name y py] kt pt] (.Tuple [a,b] k2 pt2) X.env=pure (some [x,y])) (hij:i≠j)
  (hi:X.N[i]? = some x:=by rfl) (hj:X.N[j]? = some y:=by rfl) (hx:X.env.scope.names.lookup x=some .local:=by rfl) (hy:X.env.scope.names.lookup y=some .local:=by rfl) (hc:X.calm=true:=by rfl)
  (hs:swapsWithSole [.Tuple [.Name x px,.Name y py] kt pt] (.Tuple [a,b] k2 pt2) pos.line X.env=pure false:=by rfl):JS X (.Assign [.Tuple [.Name x px,.Name y py] kt pt] (.Tuple [a,b] k2 pt2) pos) (X4 i j f):=fun ρ fl q H0 Hf0=>by
 obtain⟨ds,e1,e2⟩:=xbm q
 split at e2
 ·cases e2
  refine G5 (bh2 hc hN hi hj hij hx hy (fun pos pins s σ H Q I t=>ha.run ρ _ e1 pos pins s σ H Q I t) hw hs) fun En σ H ⟨Hf,at',e⟩=>⟨H0,Hf,at'.gr.sub,at'.sl,fun vs H' Hf' gg rp=>?_⟩
  obtain⟨v,r,rfl,r1,w,r',rfl,r2,r3⟩:=rp
  cases r3
  exact⟨v,w,rfl,e _ H' Hf' ⟨at'.gr.trans gg,((at'.sl.grow gg).set r1).set r2⟩ gg.ext⟩
 ·cases e2
noncomputable def P9(f:DE) (g:D->Rho->Option Rho):DS:=fun ρ=>(f ρ).bind fun d=>(g d ρ).map Fl.nx
theorem aK9{tg e:Expr}{f:DE}{g:D->Rho->Option Rho}{pos:Pos}(he:JE X e f) (hg:JG X tg g) (hs:swapsWithSole [tg] e pos.line X.env=pure false:=by rfl) (hw:swappedStores [tg] e X.env=pure none:=by rfl)
  (h1:(assignEach [tg] X.env).map (·.2)=[assign tg X.env]:=by rfl):JS X (.Assign [tg] e pos) (P9 f g):=fun ρ fl q H0 Hf0=>by
 obtain⟨d,e1,e2⟩:=xbm q
 obtain⟨ρ',e3,e4⟩:=Option.map_eq_some_iff.mp e2
 subst e4
 exact G5 (bh4 (he ρ d e1) hg hs hw h1) fun En σ H ⟨Hf,a,ee⟩=>⟨H0,Hf,a.gr.sub,a.sl,fun v H' Hf' gg r=>⟨d,ρ,ρ',H0,Hf',e3,gg.sub,a.sl.grow gg,r,fun σ' sl'=>ee σ' H' Hf' ⟨a.gr.trans gg,sl'⟩ gg.ext⟩⟩
noncomputable def aG4(i:Nat) (f:Rho->Option (List D)):DS:=fun ρ=>(f ρ).map fun ds=>.nx (ρ.set i (some (.own ds)))
theorem Slots.setOwn{K:PySem.W.Frag}{H0 H H' Hf Hf':Hp}{ρ:Rho}{σ:L2.St}{i:Nat}{ds:List D}{a:Addr}{vs:List V}(s:Slots K H0 ρ σ H Hf) (g:Grow H Hf H' Hf') (n0:H0 a=none) (n:H a=none) (h:H' a=some (.lst vs)) (nf:Hf' a=none) (r:Reps K Hf' ds vs) :
  Slots K H0 (ρ.set i (some (.own ds))) (σ.set i (some (.ref a))) H' Hf':=by
 have s':=s.grow g
 have old:∀(j:Nat) (es:List D),i≠j->ρ[j]? = some (some (.own es))->σ[j]?≠some (some (.ref a)):=fun j es hj e z=>by
  obtain⟨v,h1,b,us,e1,h2,_⟩:=s.is j _ e
  rw [z]at h1;cases h1;cases e1
  rw [n]at h2;cases h2
 refine⟨by simp [s.len],fun j b e=>?_,fun j k ds1 es b h1 h2 h3 h4=>?_⟩
 ·by_cases q:i=j
  ·subst q
   have hi:i < ρ.length:=by simpa using (List.getElem?_eq_some_iff.mp e).1
   have hi':i < σ.length:=by rw [← s.len];exact hi
   rw [List.getElem?_set_self hi]at e
   cases e
   exact⟨_,List.getElem?_set_self hi',a,vs,rfl,h,nf,n0,r⟩
  ·rw [List.getElem?_set_ne q]at e
   obtain⟨u,h1,h2⟩:=s'.is j b e
   exact⟨u,by rw [List.getElem?_set_ne q];exact h1,h2⟩
 ·by_cases qj:i=j
  ·by_cases qk:i=k
   ·rw [← qj,← qk]
   ·subst qj
    have hi:i < ρ.length:=by simpa using (List.getElem?_eq_some_iff.mp h1).1
    rw [List.getElem?_set_self (by rw [← s.len];exact hi)]at h3
    rw [List.getElem?_set_ne qk]at h2 h4
    cases h3
    exact(old k es qk h2 h4).elim
  ·rw [List.getElem?_set_ne qj]at h1 h3
   by_cases qk:i=k
   ·subst qk
    have hi:i < ρ.length:=by simpa using (List.getElem?_eq_some_iff.mp h2).1
    rw [List.getElem?_set_self (by rw [← s.len];exact hi)]at h4
    cases h4
    exact(old j ds1 qj h1 h3).elim
   ·rw [List.getElem?_set_ne qk]at h2 h4
    exact s.apart j k ds1 es b h1 h2 h3 h4
theorem bl0(i:Nat) {x:Str}{e:Expr}{f:Rho->Option (List D)}{pos pos':Pos}(hN:X.N.Nodup) (h:JN X e f) (hi:X.N[i]? = some x:=by rfl) (hx:Loc X.env.scope x:=by first|exact Or.inl rfl|exact Or.inr rfl)
  (hs:swapsWith e (some (.Name x pos')) pos.line X.env=pure false:=by rfl) (hf:X.fn x=true\/X.env.scope.names.lookup x=some .local:=by first|exact .inl rfl|exact .inr rfl):JS X (.Assign [.Name x pos'] e pos) (aG4 i f):=fun ρ fl q H0 Hf0=>by
 obtain⟨ds,e1,e2⟩:=Option.map_eq_some_iff.mp q
 subst e2
 refine G5 (aH3 hN hi hx (h ρ ds e1) hs hf) fun En σ H ⟨Hf,a,e⟩=>⟨H0,Hf,a.gr.sub,a.sl,fun v H' Hf' g ⟨p,vs,z1,z2,z3,z4,z5⟩=>?_⟩
 subst z1
 exact e _ H' Hf' ⟨a.gr.trans g,a.sl.setOwn g (a.gr.big.free z2) z2 z3 z4 z5⟩ g.ext
noncomputable def bg3(i:Nat) (f:DE):DS:=fun ρ=>match ρ[i]? with
 | some (some (.own ds))=>if ds.length < 16777216 then(f ρ).map fun d=>.nx (ρ.set i (some (.own (ds++[d])))) else none
 | _=>none
theorem bl5(i:Nat) {x:Str}{e:Expr}{f:DE}{p apos cpos pos:Pos}(h:JE X e f) (hN:X.N[i]? = some x:=by rfl) (hv:Vis X.env.scope x:=by first|exact Or.inl rfl|exact Or.inr (Or.inl rfl)|exact Or.inr (Or.inr rfl)) (hd:(x==("__debug__" : Str))=false:=by decide)
  (hcd:(x==("__classdict__" : Str))=false:=by decide) (hbase:attributeBase (.Name x p) "append" X.env (eval (.Name x p) X.env)=eval (.Name x p) X.env:=by rfl)
  (hfew:((backTo cpos (starEach [e] X.env)).all (fun x=>!x.1)&&(backToKw cpos (keywordEach [] X.env)).all (fun x=>x.1.isSome)
   && decide (([e]:List Expr).length+([]:List Keyword).length+(if([]:List Keyword).isEmpty then 0 else 1) < 30))=true:=by rfl)
  (hline:(apos.endLine==cpos.line)=true:=by rfl) (hs:starEach [e] X.env=[(false,eval e X.env)]:=by rfl) (hsw:swapsWith (.Call (.Attribute (.Name x p) "append" apos) [e] [] cpos) none pos.line X.env=pure false:=by rfl) :
  JS X (.Expr (.Call (.Attribute (.Name x p) "append" apos) [e] [] cpos) pos) (bg3 i f):=fun ρ fl q H0 Hf0=>by
 unfold bg3 at q
 split at q
 ·rename_i ds eo
  split at q
  ·rename_i hz
   obtain⟨d,e1,e2⟩:=Option.map_eq_some_iff.mp q
   subst e2
   refine G5 (ag8 (av7 PySem.F.plainAttrs_list PySem.F.slot_list_append PySem.F.type_list_append ad5 (Q0 hN hv hd hcd) (C7 (h ρ d e1) E8 hs) hbase hfew hline hs) hsw) fun En σ H ⟨Hf,a,ee⟩=>?_
   obtain⟨v,h1,b,vs,rfl,h2,h3,h4,h5⟩:=a.sl.is i _ eo
   refine⟨_,h1,.inl ⟨rfl,vs,SqL.of h2⟩,H0,Hf,a.gr.sub,a.sl,fun w H' Hf' gg r=>?_⟩
   have hb:H' b=some (.lst vs):=gg.big _ _ h2
   have hfb:Hf' b=none:=gg.nofr h2 h3
   have g2:=a.gr.trans gg
   have sl2:=a.sl.grow gg
   refine⟨b,vs,w,rfl,rfl,hb,by rw [h5.length,sizeLine_eq];exact hz,ee _ _ Hf' ⟨⟨fun c u z=>?_,fun c u z=>?_,g2.ext,g2.new⟩,?_⟩ gg.ext⟩
   ·rw [A8 (B3 z h4)];exact g2.big c u z
   ·rw [A8 (B3 z hfb)];exact g2.sub c u z
   ·refine⟨by simpa using sl2.len,fun j bb z=>?_,fun j k ds1 es c q1 q2 q3 q4=>?_⟩
    ·by_cases qj:i=j
     ·subst qj
      have hi:i < ρ.length:=(List.getElem?_eq_some_iff.mp eo).1
      rw [List.getElem?_set_self hi]at z
      cases z
      exact⟨_,h1,b,vs++[w],rfl,B0,hfb,h4,(h5.mono gg.ext).append ⟨w,[],rfl,r,rfl⟩⟩
     ·rw [List.getElem?_set_ne qj]at z
      obtain⟨u,z1,z2⟩:=sl2.is j bb z
      refine⟨u,z1,?_⟩
      cases bb with
      | val d=>exact z2
      | exc C=>exact z2
      | own dd =>
       obtain⟨a',vs',y1,y2,y3,y4,y5⟩:=z2
       have ne:a'≠b:=fun zz=>by
        subst zz y1
        exact qj (a.sl.apart i j ds dd a' eo z h1 z1)
       exact⟨a',vs',y1,by rw [A8 ne];exact y2,y3,y4,y5⟩
    ·have q1':∃dd,ρ[j]? = some (some (.own dd)):=by
      by_cases qj:i=j
      ·subst qj;exact⟨ds,eo⟩
      ·rw [List.getElem?_set_ne qj]at q1;exact⟨_,q1⟩
     have q2':∃dd,ρ[k]? = some (some (.own dd)):=by
      by_cases qj:i=k
      ·subst qj;exact⟨ds,eo⟩
      ·rw [List.getElem?_set_ne qj]at q2;exact⟨_,q2⟩
     obtain⟨d1,q1'⟩:=q1'
     obtain⟨d2,q2'⟩:=q2'
     exact a.sl.apart j k d1 d2 c q1' q2' q3 q4
  ·cases q
 ·cases q
noncomputable def frz(i:Nat) (ρ:Rho):Rho:=match ρ[i]? with
 | some (some (.own ds))=>ρ.set i (some (.val (.list ds)))
 | _=>ρ
theorem bo6{K:PySem.W.Frag}{H0 Hf0 H Hf:Hp}{ρ:Rho}{σ:L2.St}(i:Nat) (a:At K H0 Hf0 ρ σ H Hf):∃Hf',C2 Hf Hf'/\At K H0 Hf0 (frz i ρ) σ H Hf':=by
 unfold frz
 split
 ·rename_i ds eo
  obtain⟨v,h1,b,vs,rfl,h2,h3,h4,h5⟩:=a.sl.is i _ eo
  have g:Grow H0 Hf0 H (upd Hf b (.lst vs)):=a.gr.freeze h2 h3 h4
  refine⟨upd Hf b (.lst vs),C5 h3,g,⟨by simpa using a.sl.len,fun j bb z=>?_,fun j k ds1 es c q1 q2 q3 q4=>?_⟩⟩
  ·have hi:i < ρ.length:=(List.getElem?_eq_some_iff.mp eo).1
   by_cases qj:i=j
   ·subst qj
    rw [List.getElem?_set_self hi]at z
    cases z
    exact⟨_,h1,b,vs,rfl,SqL.of B0,h5.mono (C5 h3)⟩
   ·rw [List.getElem?_set_ne qj]at z
    obtain⟨u,z1,z2⟩:=a.sl.is j bb z
    refine⟨u,z1,?_⟩
    cases bb with
    | val d=>exact Rep.mono (C5 h3) z2
    | exc C =>
     obtain⟨a',o',C',y1,y2,y3⟩:=z2
     exact⟨a',o',C',y1,C5 h3 _ _ y2,y3⟩
    | own dd =>
     obtain⟨a',vs',y1,y2,y3,y4,y5⟩:=z2
     have ne:a'≠b:=fun zz=>by
      subst zz y1
      exact qj (a.sl.apart i j ds dd a' eo z h1 z1)
     exact⟨a',vs',y1,y2,by rw [A8 ne];exact y3,y4,y5.mono (C5 h3)⟩
  ·have hi:i < ρ.length:=(List.getElem?_eq_some_iff.mp eo).1
   have qj:i≠j:=fun z=>by subst z;rw [List.getElem?_set_self hi]at q1;cases q1
   have qk:i≠k:=fun z=>by subst z;rw [List.getElem?_set_self hi]at q2;cases q2
   rw [List.getElem?_set_ne qj]at q1
   rw [List.getElem?_set_ne qk]at q2
   exact a.sl.apart j k ds1 es c q1 q2 q3 q4
 ·exact⟨Hf,C2.refl _,a⟩
noncomputable def bg1(i:Nat) (f:DS):DS:=fun ρ=>f (frz i ρ)
theorem bl1(i:Nat) {st:Stmt}{f:DS}(h:JS X st f):JS X st (bg1 i f):=fun ρ fl q H0 Hf0=>G5 (h (frz i ρ) fl q H0 Hf0) fun En σ H ⟨Hf,a,e⟩=>by
 obtain⟨Hf',s,a'⟩:=bo6 i a
 exact⟨Hf',a',Fl.ends_mono e s⟩
noncomputable def br6(K:PySem.W.Frag) (H0 Hf0:Hp) (f:DS):TS:=fun En σ H=>∃ρ fl,f ρ=some fl/\tJS K H0 Hf0 ρ fl En σ H
theorem av2{sts:List Stmt}{f:DS}{H0 Hf0:Hp}(h:JSs X sts f):PSs X sts (br6 X.K H0 Hf0 f):=fun pins s σ H En I ⟨ρ,fl,e,t⟩=>h ρ fl e H0 Hf0 pins s σ H En I t
theorem bh0{e:Expr}{c:Rho->Option Bool}(h:JT X e c):PT X e (ac0 X.K c):=fun pins s σ H Q I ⟨ρ,b,e,t⟩=>h ρ b e pins s σ H Q I t
noncomputable def L4(t:Rho->Option Bool) (f:DS):Nat->DS
 | 0=>fun _=>none
 | n+1=>fun ρ=>(t ρ).bind fun c=>if c then(f ρ).bind fun fl=>match fl with
   | .nx ρ'=>L4 t f n ρ'
   | .ct ρ'=>L4 t f n ρ'
   | .bk ρ'=>some (.nx ρ')
   | .rt d=>some (.rt d)
  else some (.nx ρ)
theorem V9{t:Rho->Option Bool}{f:DS}:∀{n:Nat}{ρ:Rho}{fl:Fl},L4 t f n ρ=some fl->L4 t f (n+1) ρ=some fl
 | 0,_,_,h=>by cases h
 | n+1,ρ,fl,h=>by
  obtain⟨c,e1,h⟩:=xbm h
  show(t ρ).bind _=_
  rw [e1]
  cases c with
  | false=>exact h
  | true =>
   obtain⟨fl1,e2,h⟩:=xbm h
   show(f ρ).bind _=_
   rw [e2]
   cases fl1 with
   | nx ρ'=>exact V9 (n:=n) h
   | ct ρ'=>exact V9 (n:=n) h
   | bk ρ'=>exact h
   | rt d=>exact h
theorem an0{t:Rho->Option Bool}{f:DS}{n m:Nat}{ρ:Rho}{fl:Fl}(h:L4 t f n ρ=some fl) (l:n<=m):L4 t f m ρ=some fl:=by
 induction l with
 | refl=>exact h
 | step _ ih=>exact V9 ih
open Classical in
noncomputable def V5(t:Rho->Option Bool) (f:DS):DS:=fun ρ=>if h:∃fl n,L4 t f n ρ=some fl then some h.choose else none
theorem aA3{t:Rho->Option Bool}{f:DS}{n:Nat}{ρ:Rho}{fl:Fl}(h:L4 t f n ρ=some fl):V5 t f ρ=some fl:=by
 have hx:∃fl n,L4 t f n ρ=some fl:=⟨fl,n,h⟩
 unfold V5
 rw [dif_pos hx]
 obtain⟨m,hm⟩:=hx.choose_spec
 have h1:=an0 h (Nat.le_max_left n m)
 have h2:=an0 hm (Nat.le_max_right n m)
 rw [h1]at h2
 exact h2.symm
theorem aB1{t:Rho->Option Bool}{f:DS}{ρ:Rho}{fl:Fl}(h:V5 t f ρ=some fl):∃n,L4 t f n ρ=some fl:=by
 unfold V5 at h
 split at h
 ·rename_i hx
  cases h
  exact hx.choose_spec
 ·cases h
theorem aK8{c:Expr}{body:List Stmt}{t:Rho->Option Bool}{f:DS}{pos:Pos}(hc:JT X c t) (hb:JSs X body f) (hp:PassesOwn (model X.prog X.w) X.A X.env X.xe:=by exact PassesOwn.never):JS X (.While c body [] pos) (V5 t f):=fun ρ fl q H0 Hf0=>by
 obtain⟨n,hn⟩:=aB1 q
 refine G5 (aH2 hp (bh0 hc) (av2 (H0:=H0) (Hf0:=Hf0) hb)) fun En σ H ⟨Hf,a,e⟩=>?_
 refine⟨fun m σ H=>∃Hf' ρ',At X.K H0 Hf0 ρ' σ H Hf'/\C2 Hf Hf'/\L4 t f m ρ'=some fl,⟨n,Hf,ρ,a,C2.refl _,hn⟩,?_⟩
 rintro m σ' H' ⟨Hf',ρ',a',s',hm⟩
 cases m with
 | zero=>cases hm
 | succ m =>
  obtain⟨b,e1,hm⟩:=xbm hm
  refine⟨ρ',b,e1,H0,Hf',a'.gr.sub,a'.sl,fun H2 Hf2 g2=>?_⟩
  have a2:=a'.grow g2
  have s2:=s'.trans g2.ext
  cases b with
  | false =>
   have:fl=.nx ρ':=by simpa using hm.symm
   subst this
   exact ab6 (e σ' H2 Hf2 a2 s2)
  | true =>
   obtain⟨fl1,e2,hm⟩:=xbm (show(f ρ').bind _=some fl from hm)
   refine ab5 ⟨fun σ3 H3=>∃m',m' < m+1/\∃Hf' ρ',At X.K H0 Hf0 ρ' σ3 H3 Hf'/\C2 Hf Hf'/\L4 t f m' ρ'=some fl,fun σ3 H3 z=>z,ρ',fl1,e2,Hf2,a2,?_⟩
   cases fl1 with
   | nx ρ3=>exact fun σ3 H3 Hf3 a3 s3=>⟨m,Nat.lt_succ_self _,Hf3,ρ3,a3,s2.trans s3,hm⟩
   | ct ρ3=>exact fun σ3 H3 Hf3 a3 s3=>⟨m,Nat.lt_succ_self _,Hf3,ρ3,a3,s2.trans s3,hm⟩
   | bk ρ3 =>
    cases hm
    exact fun σ3 H3 Hf3 a3 s3=>e σ3 H3 Hf3 a3 (s2.trans s3)
   | rt d =>
    cases hm
    exact e
noncomputable def W1(g:D->Rho->Option Rho) (f:DS):List D->DS
 | []=>fun ρ=>some (.nx ρ)
 | d::ds=>fun ρ=>(g d ρ).bind fun ρ1=>(f ρ1).bind fun fl=>match fl with
   | .nx ρ'=>W1 g f ds ρ'
   | .ct ρ'=>W1 g f ds ρ'
   | .bk ρ'=>some (.nx ρ')
   | .rt d=>some (.rt d)
noncomputable def X5(src:Rho->Option (List D)) (g:D->Rho->Option Rho) (f:DS):DS:=fun ρ=>(src ρ).bind fun ds=>W1 g f ds ρ
theorem bl2{tg iter:Expr}{body:List Stmt}{src:Rho->Option (List D)}{g:D->Rho->Option Rho}{f:DS}{pos:Pos}(hi:JI X tg iter src) (hg:JG X tg g) (hb:JSs X body f) (hp:PassesOwn (model X.prog X.w) X.A X.env X.xe:=by exact PassesOwn.never) (hc:X.calm=true:=by rfl)
  (hs:∀x,foldedSetIterable iter X.env x=pure x:=by intro _;rfl):JS X (.For tg iter body [] pos) (X5 src g f):=fun ρ fl q H0 Hf0=>by
 obtain⟨ds,e1,e2⟩:=xbm q
 refine G5 (bh3 hp hc (hi ρ ds e1) hg (av2 (H0:=H0) (Hf0:=Hf0) hb) hs) fun En σ H ⟨Hf,a,e⟩=>⟨H0,Hf,a.gr.sub,a.sl,fun J H1 Hf1 g1 Y=>?_⟩
 refine⟨fun i m σ H=>m=ds.length - i/\i<=ds.length/\∃Hf' ρ',At X.K H0 Hf0 ρ' σ H Hf'/\C2 Hf1 Hf'/\W1 g f (ds.drop i) ρ'=some fl,⟨ds.length,by simp,Nat.zero_le _,Hf1,ρ,a.grow g1,C2.refl _,by simpa using e2⟩,?_⟩
 rintro i m σ' H' ⟨rfl,hi,Hf',ρ',a',s',hm⟩
 obtain⟨Ys,Yg⟩:=Y i H' Hf' s' a'.gr.sub
 rcases Nat.lt_or_ge i ds.length with hlt|hge
 ·right
  obtain⟨go,yl⟩:=Yg ds[i] (by simp [hlt])
  rw [List.drop_eq_getElem_cons hlt]at hm
  obtain⟨ρ1,c1,hm⟩:=xbm hm
  obtain⟨fl1,c2,hm⟩:=xbm hm
  refine⟨go,fun σ3 H3=>∃m',m' < ds.length - i/\m'=ds.length - (i+1)/\i+1<=ds.length/\∃Hf' ρ',At X.K H0 Hf0 ρ' σ3 H3 Hf'/\C2 Hf1 Hf'/\W1 g f (ds.drop (i+1)) ρ'=some fl,fun σ3 H3 ⟨m',z1,z2⟩=>⟨m',z1,z2⟩,fun x H2 hy=>?_⟩
  obtain⟨Hf2,g2,r2⟩:=yl x H2 hy
  have a2:=a'.grow g2
  refine⟨ds[i],ρ',ρ1,H0,Hf2,c1,g2.sub,a2.sl,r2,fun σ3 sl3=>⟨ρ1,fl1,c2,Hf2,⟨a2.gr,sl3⟩,?_⟩⟩
  have s2:=s'.trans g2.ext
  cases fl1 with
  | nx ρ3=>exact fun σ3 H3 Hf3 a3 s3=>⟨_,by omega,rfl,hlt,Hf3,ρ3,a3,s2.trans s3,hm⟩
  | ct ρ3=>exact fun σ3 H3 Hf3 a3 s3=>⟨_,by omega,rfl,hlt,Hf3,ρ3,a3,s2.trans s3,hm⟩
  | bk ρ3 =>
   cases hm
   exact fun σ3 H3 Hf3 a3 s3=>e σ3 H3 Hf3 a3 (g1.ext.trans (s2.trans s3))
  | rt d =>
   cases hm
   exact e
 ·left
  have:i=ds.length:=by omega
  subst this
  rw [List.drop_length]at hm
  cases hm
  exact⟨Ys (Nat.le_refl _),e σ' H' Hf' a' (g1.ext.trans s')⟩
theorem aW5{pos:Pos}:JS X (.Pass pos) E1:=fun ρ fl q H0 Hf0=>by
 cases q
 exact G5 aT4 fun En σ H ⟨Hf,a,e⟩=>e σ H Hf a (C2.refl _)
theorem bl4{pos:Pos}:JS X (.Break pos) (fun ρ=>some (.bk ρ)):=fun ρ fl q H0 Hf0=>by
 cases q
 exact G5 aH4 fun En σ H ⟨Hf,a,e⟩=>e σ H Hf a (C2.refl _)
end
noncomputable def M6(n:Nat) (ds:List D):Rho:=ds.map (fun d=>some (B.val d))++List.replicate (n - ds.length) none
noncomputable def L9(g:DS) (n:Nat):List D->Option D:=fun ds=>(g (M6 n ds)).bind fun fl=>match fl with
 | .rt d=>some d
 | .nx _=>some .none
 | _=>none
theorem k9{K:PySem.W.Frag}{H0 H Hf:Hp}{N:List Str}{ds:List D}{vs:List V}(r:Reps K Hf ds vs):Slots K H0 (M6 N.length ds) (L2.J2 N vs) H Hf:=by
 have hl:=r.length
 have noown:∀(i:Nat) (b:B),(M6 N.length ds)[i]? = some (some b)->∃d,ds[i]? = some d/\b=.val d:=fun i b h=>by
  unfold M6 at h
  rcases Nat.lt_or_ge i ds.length with q|q
  ·rw [List.getElem?_append_left (by simpa using q),List.getElem?_map]at h
   rw [List.getElem?_eq_getElem q]at h ⊢
   simp only [Option.map_some,Option.some.injEq]at h
   exact⟨ds[i],rfl,h.symm⟩
  ·rw [List.getElem?_append_right (by simpa using q),List.getElem?_replicate]at h
   split at h<;>cases h
 refine⟨by simp [M6,L2.J2,hl],fun i b e=>?_,fun i j d1 d2 a e1 _ _ _=>?_⟩
 ·obtain⟨d,h1,h2⟩:=noown i b e
  subst h2
  obtain⟨v,h3,h4⟩:=r.get h1
  refine⟨v,?_,h4⟩
  have hi:i < vs.length:=(List.getElem?_eq_some_iff.mp h3).1
  unfold L2.J2
  rw [List.getElem?_append_left (by simpa using hi),List.getElem?_map,h3];rfl
 ·obtain⟨d,_,h2⟩:=noown i _ e1
  cases h2
theorem ax9{P:Program}{w:World}{K:PySem.W.Frag}{mg:Str->Option Value}{base:Heap}{x qual:Str}{st:Stmt}{f:Addr}{fd:FuncData}{N ps:List Str}{k:Nat}{g:DS}(F:Fun K x qual st f fd) (S:FnScope N ps (B5 st))
  (hb:∀(cdv:Value) (A:Around) (outer:List Env) (s:Shared) (H:Hp) (E:XK),Room k (A.deeper (envOfC qual (B5 st) s.heap.objs.size f cdv))->JSs (ai9 CX0 P w K mg base N qual (B5 st) f cdv A outer s H E).nox (F3 st) g) :
  FnOk P w K mg base CX0 (k+1) f fd ps (spF K ps.length (L9 g N.length)):=by
 refine F.ok S (fun vs H Q E h=>h.1) fun cdv A outer s H vs Q E hr hsp=>?_
 obtain⟨hlen,Hf,ds,d,ss,rp,e,kk⟩:=hsp
 obtain⟨fl,e1,e2⟩:=xbm e
 refine⟨_,hb cdv A outer s H E hr _ fl e1 H Hf,Hf,⟨Grow.refl ss,k9 rp⟩,?_⟩
 cases fl with
 | rt d'=>cases e2;exact fun v H' Hf' g r=>kk v H' Hf' g r
 | nx ρ=>cases e2;exact fun σ' H' Hf' a _=>kk _ H' Hf' a.gr rfl
 | bk ρ=>cases e2
 | ct ρ=>cases e2
noncomputable def SIt:Bool->Heap->Addr->Addr->Nat->Prop
 | true=>Heap.IsTupleIter
 | false=>Heap.IsListIter
noncomputable def SSq:Bool->Heap->Addr->Array Value->Prop
 | true=>Heap.IsTuple
 | false=>Heap.IsList
section
variable {prog:Program}{w:World}{A:Around}{E:Value->Shared->Prop}{s:Shared}{t t1 t2:Bool}
theorem SIt.ext{h h':Heap}{it l:Addr}{k:Nat}(x:SIt t h it l k) (e:∀o,h.get? it=some o->h'.get? it=some o):SIt t h' it l k:=by
 cases t with
 | true=>obtain⟨o,ho,r⟩:=x;exact⟨o,e o ho,r⟩
 | false=>obtain⟨o,ho,r⟩:=x;exact⟨o,e o ho,r⟩
theorem SSq.ext{h h':Heap}{l:Addr}{xs:Array Value}(x:SSq t h l xs) (e:∀o,h.get? l=some o->h'.get? l=some o):SSq t h' l xs:=by
 cases t with
 | true=>obtain⟨o,ho,r⟩:=x;exact⟨o,e o ho,r⟩
 | false=>obtain⟨o,ho,r⟩:=x;exact⟨o,e o ho,r⟩
theorem SIt.lt{h:Heap}{it l:Addr}{k:Nat}(x:SIt t h it l k):it < h.objs.size:=by
 cases t with
 | true=>obtain⟨o,ho,_⟩:=x;exact Heap.lt_size ho
 | false=>obtain⟨o,ho,_⟩:=x;exact Heap.lt_size ho
theorem ap7{it l:Addr}{k:Nat}{xs:Array Value}{x:Value}{Q:Value->Shared->Prop}(hit:s.heap.IsTupleIter it l k) (hl:s.heap.IsTuple l xs) (hx:xs[k]? = some x)
  (hQ:∀h',h'.IsTupleIter it l (k+1)->Heap.SameBut it s.heap h'->Q x { s with heap:=h' }):wpAny (model prog w) A (Builtin.SmallTypes.nextOf (.ref it)) Q E s:=by
 obtain⟨o,ho,hc,hd⟩:=id hit;obtain⟨ol,hol,_,nl,hdl⟩:=hl;unfold Builtin.SmallTypes.nextOf
 refine wpAny_bind (wpAny_callSpecial?_slot (name:=Str.ofString "__next__") hit.typeIs F.slot_tuple_iterator_next (wpAny_call_entry F.slot_tuple_iterator_next hit.typeIs F.entry_tuple_iterator_next ?_ (F.args_tuple_iterator_next_1 _)))
 show wpAny _ _ (field (.ref it) 0 >>= _) _ _ s;refine wpAny_bind (wpAny_field ho hd (x:=.ref l) rfl ?_);show wpAny _ _ (if(Value.ref l==Value.none)=true then _ else _) _ _ s
 rw [if_neg (show ¬((Value.ref l==Value.none)=true) from Bool.false_ne_true)];show wpAny _ _ (field (.ref it) 1 >>= _) _ _ s
 refine wpAny_bind (wpAny_field ho hd (x:=.int k 0) rfl ?_);show wpAny _ _ (seqItems? (.ref l) >>= _) _ _ s;refine wpAny_bind (wpAny_seqItems hol hdl ?_);simp only [Int.toNat_natCast,hx]
 refine wpAny_bind (wpAny_setField ho hd (by simp) (wpAny_pure ⟨x,rfl,wpAny_pure (hQ _ ⟨_,Heap.get?_update_self _ ho (Obj.isFreed_of_fields (Obj.data_mapFields hd _)),(Obj.cls_mapFields ..).trans hc,?_⟩ (Heap.SameBut.update ..))⟩))
 rw [Obj.data_mapFields hd];simp [rawInt]
theorem az7{it l:Addr}{k:Nat}{xs:Array Value}{Q:Value->Shared->Prop}(hh:A.handled=none) (hit:s.heap.IsTupleIter it l k) (hl:s.heap.IsTuple l xs) (hx:xs[k]? = none)
  (hE:∀h' e,Heap.ExtBut it s.heap h'->(∃o,h'.get? e=some o/\o.cls=.type "StopIteration")->E (.ref e) { s with heap:=h' }):wpAny (model prog w) A (Builtin.SmallTypes.nextOf (.ref it)) Q E s:=by
 obtain⟨o,ho,hc,hd⟩:=id hit;obtain⟨ol,hol,_,nl,hdl⟩:=hl;unfold Builtin.SmallTypes.nextOf
 refine wpAny_bind (wpAny_callSpecial?_slot (name:=Str.ofString "__next__") hit.typeIs F.slot_tuple_iterator_next (wpAny_call_entry F.slot_tuple_iterator_next hit.typeIs F.entry_tuple_iterator_next ?_ (F.args_tuple_iterator_next_1 _)))
 show wpAny _ _ (field (.ref it) 0 >>= _) _ _ s;refine wpAny_bind (wpAny_field ho hd (x:=.ref l) rfl ?_);show wpAny _ _ (if(Value.ref l==Value.none)=true then _ else _) _ _ s
 rw [if_neg (show ¬((Value.ref l==Value.none)=true) from Bool.false_ne_true)];show wpAny _ _ (field (.ref it) 1 >>= _) _ _ s
 refine wpAny_bind (wpAny_field ho hd (x:=.int k 0) rfl ?_);show wpAny _ _ (seqItems? (.ref l) >>= _) _ _ s;refine wpAny_bind (wpAny_seqItems hol hdl ?_);simp only [Int.toNat_natCast,hx]
 refine wpAny_bind (wpAny_rule (wpAny_bind (wpAny_setField ho hd (by simp) ?_)));show wpAny _ _ (newExc (.type "StopIteration") [] >>= _) _ _ _;refine wpAny_bind ?_;simp only [newExc,newTuple]
 refine wpAny_bind (wpAny_newObj_type ?_ (by size_fits));refine wpAny_bind (m:=firstArgMember _ _) (wpAny_of_eq (a:=Value.none) (by first|rfl|(simp only [firstArgMember];rfl)) ?_);refine wpAny_newObj_type ?_ (by size_fits)
 simp only [raiseNew];refine wpAny_bind (wpAny_handled ?_);first|rw [show A.in1.handled=none from hh]|rw [hh]
 refine wpAny_bind (wpAny_pure (wpAny_throw ?_));exact hE _ _ (((Heap.SameBut.update ..).extBut.push _).push _) ⟨_,Heap.get?_push_size _ rfl,rfl⟩
theorem u9{it l:Addr}{k:Nat}{xs:Array Value}{x:Value}{Q:Value->Shared->Prop}(hit:SIt t s.heap it l k) (hl:SSq t s.heap l xs) (hx:xs[k]? = some x)
  (hQ:∀h',SIt t h' it l (k+1)->Heap.SameBut it s.heap h'->Q x { s with heap:=h' }):wpAny (model prog w) A (Builtin.SmallTypes.nextOf (.ref it)) Q E s:=by
 cases t with
 | true=>exact ap7 hit hl hx hQ
 | false=>exact wpAny_nextOf_list_item hit hl hx hQ
theorem au2{it l:Addr}{k:Nat}{xs:Array Value}{Q:Value->Shared->Prop}(hh:A.handled=none) (hit:SIt t s.heap it l k) (hl:SSq t s.heap l xs) (hx:xs[k]? = none)
  (hE:∀h' e,Heap.ExtBut it s.heap h'->(∃o,h'.get? e=some o/\o.cls=.type "StopIteration")->E (.ref e) { s with heap:=h' }):wpAny (model prog w) A (Builtin.SmallTypes.nextOf (.ref it)) Q E s:=by
 cases t with
 | true=>exact az7 hh hit hl hx hE
 | false=>exact wpAny_nextOf_list_end hh hit hl hx hE
theorem az8{z TI TO i1 i2 l1 l2:Addr}{k1 k2:Nat}{xs ys:Array Value}{x y a b:Value}{Q:Value->Shared->Prop}(Z:ZipApart z TI TO i1 i2 l1 l2)
  (hz:IsZip s.heap z TI TO .none) (hTI:IsPair s.heap TI (.ref i1) (.ref i2)) (hTO:IsPair s.heap TO a b) (h1:SIt t1 s.heap i1 l1 k1) (h2:SIt t2 s.heap i2 l2 k2) (hl1:SSq t1 s.heap l1 xs) (hl2:SSq t2 s.heap l2 ys) (hx:xs[k1]? = some x) (hy:ys[k2]? = some y)
  (hQ:∀h',IsZip h' z TI TO (rawInt s.heap.objs.size)->IsPair h' TO x y->SIt t1 h' i1 l1 (k1+1)->SIt t2 h' i2 l2 (k2+1)->IsPair h' s.heap.objs.size x y->h'.objs.size=s.heap.objs.size+1 ->
   (∀c o,c≠z->c≠TO->c≠i1->c≠i2->s.heap.get? c=some o->h'.get? c=some o)->Q (.ref s.heap.objs.size) { s with heap:=h' }) :
  wpAny (model prog w) A (Builtin.«zip.__next__» ⟨[.ref z],[]⟩) (fun fin s'=>∃v,fin=.done (.ret v)/\Q v s') E s:=by
 show wpAny _ _ (field (.ref z) 2 >>= _) _ _ _;refine wpAny_bind (wpAny_field hz rfl (x:=.bool false) rfl ?_);show wpAny _ _ (field (.ref z) 3 >>= _) _ _ _;refine wpAny_bind (wpAny_field hz rfl (x:=.ref TI) rfl ?_)
 refine wpAny_bind (wpAny_seqItems hTI rfl ?_);show wpAny _ _ (Builtin.SmallTypes.ownedTupleIsFree (.ref z) >>= _) _ _ _;refine wpAny_bind ?_;unfold Builtin.SmallTypes.ownedTupleIsFree
 refine wpAny_bind (wpAny_field hz rfl (x:=.none) rfl (wpAny_pure ?_));simp only [if_true];refine wpAny_bind (wpAny_rule ?_);refine wpAny_bind (wpAny_field hz rfl (x:=.ref TO) rfl ?_)
 refine wpAny_bind (wpAny_setField_rec hz (by simp) fun ha za sa=>?_);have za':IsZip ha z TI TO .ellipsis:=za
 refine wpAny_bind ?_;simp only [List.zipIdx_cons,List.zipIdx_nil,List.forIn_cons,List.forIn_nil];refine wpAny_bind (wpAny_bind (wpAny_onRaise ?_));show wpAny _ _ (Builtin.SmallTypes.nextOf (.ref i1) >>= _) _ _ _
 refine wpAny_bind (u9 (h1.ext fun o e=>sa.extBut _ _ Z.i1z e) (hl1.ext fun o e=>sa.extBut _ _ Z.l1z e) hx fun hb h1b sb=>wpAny_pure ?_)
 have hTOb:IsPair hb TO a b:=sb.extBut _ _ Z.TOi1 (sa.extBut _ _ Z.TOz hTO)
 refine wpAny_bind (wpAny_seqItems hTOb rfl ?_);refine wpAny_bind (wpAny_updateSeq_pair hTOb fun hcc TOc sc=>?_);have TOc':IsPair hcc TO x b:=TOc
 refine wpAny_bind (wpAny_letGo (wpAny_pure ?_));refine wpAny_bind (wpAny_bind (wpAny_onRaise ?_));show wpAny _ _ (Builtin.SmallTypes.nextOf (.ref i2) >>= _) _ _ _
 refine wpAny_bind (u9 (((h2.ext fun o e=>sa.extBut _ _ Z.i2z e).ext fun o e=>sb.extBut _ _ Z.i12.symm e).ext fun o e=>sc.extBut _ _ Z.TOi2.symm e) (((hl2.ext fun o e=>sa.extBut _ _ Z.l2z e).ext fun o e=>sb.extBut _ _ Z.l2i1 e).ext fun o e=>sc.extBut _ _ Z.l2TO e) hy fun hd h2d sd=>wpAny_pure ?_)
 have hTOd:IsPair hd TO x b:=sd.extBut _ _ Z.TOi2 TOc'
 refine wpAny_bind (wpAny_seqItems hTOd rfl ?_);refine wpAny_bind (wpAny_updateSeq_pair hTOd fun he TOe se=>?_);have TOe':IsPair he TO x y:=TOe
 refine wpAny_bind (wpAny_letGo (wpAny_pure (wpAny_pure ?_)));refine wpAny_bind (wpAny_seqItems TOe' rfl ?_);refine wpAny_bind (wpAny_newTuple ?_)
 have sz:he.objs.size=s.heap.objs.size:=by rw [se.1,sd.1,sc.1,sb.1,sa.1]
 have ze:IsZip he z TI TO .ellipsis:=se.extBut _ _ Z.TOz.symm (sd.extBut _ _ Z.i2z.symm (sc.extBut _ _ Z.TOz.symm (sb.extBut _ _ Z.i1z.symm za')))
 have ke:∀c o,c≠z->c≠TO->c≠i1->c≠i2->s.heap.get? c=some o->he.get? c=some o:=fun c o c1 c2 c3 c4 e=>se.extBut _ _ c2 (sd.extBut _ _ c4 (sc.extBut _ _ c2 (sb.extBut _ _ c3 (sa.extBut _ _ c1 e))))
 have h1e:SIt t1 he i1 l1 (k1+1):=((h1b.ext fun o e=>sc.extBut _ _ Z.TOi1.symm e).ext fun o e=>sd.extBut _ _ Z.i12 e).ext fun o e=>se.extBut _ _ Z.TOi1.symm e
 have h2e:SIt t2 he i2 l2 (k2+1):=h2d.ext fun o e=>se.extBut _ _ Z.TOi2.symm e
 have zlt:z < he.objs.size:=Heap.lt_size ze
 show wpAny _ _ (Builtin.SmallTypes.ownedTupleHandOut (.ref z) (.ref he.objs.size) >>= _) _ _ _;refine wpAny_bind ?_;unfold Builtin.SmallTypes.ownedTupleHandOut
 have zf:IsZip (he.push { cls:=.type "tuple", data:=.seq #[x,y] }) z TI TO .ellipsis:=Heap.get?_push_of_some _ ze
 refine wpAny_bind (wpAny_setField_rec zf (by simp) fun hg zg sg=>?_);have zg':IsZip hg z TI TO (rawInt he.objs.size):=zg
 refine wpAny_setField_rec zg' (by simp) fun hi zi si=>?_;have zi':IsZip hi z TI TO (rawInt he.objs.size):=zi
 have up:∀c o,c≠z->he.get? c=some o->hi.get? c=some o:=fun c o c1 e=>si.extBut _ _ c1 (sg.extBut _ _ c1 (Heap.get?_push_of_some _ e))
 have hT:IsPair hi he.objs.size x y:=si.extBut _ _ (Nat.ne_of_gt zlt) (sg.extBut _ _ (Nat.ne_of_gt zlt) (Heap.get?_push_size _ rfl))
 have szi:hi.objs.size=he.objs.size+1:=by rw [si.1,sg.1,Heap.size_push]
 rw [sz]at zi' hT szi
 refine wpAny_pure ⟨_,rfl,?_⟩;show Q (.ref he.objs.size) _;rw [sz]
 exact hQ hi zi' (up _ _ Z.TOz TOe') (h1e.ext fun o e=>up _ o Z.i1z e) (h2e.ext fun o e=>up _ o Z.i2z e) hT szi fun c o c1 c2 c3 c4 e=>up c o c1 (ke c o c1 c2 c3 c4 e)
theorem aF7{z TI TO i1 i2 l1 l2:Addr}{k1 k2:Nat}{xs ys:Array Value}{a b:Value}{Q:Fin->Shared->Prop}(hh:A.handled=none) (Z:ZipApart z TI TO i1 i2 l1 l2)
  (hz:IsZip s.heap z TI TO .none) (hTI:IsPair s.heap TI (.ref i1) (.ref i2)) (hTO:IsPair s.heap TO a b) (h1:SIt t1 s.heap i1 l1 k1) (h2:SIt t2 s.heap i2 l2 k2) (hl1:SSq t1 s.heap l1 xs) (hl2:SSq t2 s.heap l2 ys) (hend:xs[k1]? = none\/ys[k2]? = none)
  (hE:∀h' e,(∀c o,c≠z->c≠TO->c≠i1->c≠i2->s.heap.get? c=some o->h'.get? c=some o)->(∃o,h'.get? e=some o/\o.cls=.type "StopIteration")->E (.ref e) { s with heap:=h' }) :
  wpAny (model prog w) A (Builtin.«zip.__next__» ⟨[.ref z],[]⟩) Q E s:=by
 show wpAny _ _ (field (.ref z) 2 >>= _) _ _ _;refine wpAny_bind (wpAny_field hz rfl (x:=.bool false) rfl ?_);show wpAny _ _ (field (.ref z) 3 >>= _) _ _ _;refine wpAny_bind (wpAny_field hz rfl (x:=.ref TI) rfl ?_)
 refine wpAny_bind (wpAny_seqItems hTI rfl ?_);show wpAny _ _ (Builtin.SmallTypes.ownedTupleIsFree (.ref z) >>= _) _ _ _;refine wpAny_bind ?_;unfold Builtin.SmallTypes.ownedTupleIsFree
 refine wpAny_bind (wpAny_field hz rfl (x:=.none) rfl (wpAny_pure ?_));simp only [if_true];refine wpAny_bind (wpAny_rule ?_);refine wpAny_bind (wpAny_field hz rfl (x:=.ref TO) rfl ?_)
 refine wpAny_bind (wpAny_setField_rec hz (by simp) fun ha za sa=>?_);have za':IsZip ha z TI TO .ellipsis:=za
 refine wpAny_bind ?_;simp only [List.zipIdx_cons,List.zipIdx_nil,List.forIn_cons,List.forIn_nil];refine wpAny_bind (wpAny_bind (wpAny_onRaise ?_));show wpAny _ _ (Builtin.SmallTypes.nextOf (.ref i1) >>= _) _ _ _
 cases hx:xs[k1]? with
 | none =>
  refine wpAny_bind (au2 hh (h1.ext fun o e=>sa.extBut _ _ Z.i1z e) (hl1.ext fun o e=>sa.extBut _ _ Z.l1z e) hx fun hb e sb he=>?_)
  obtain⟨oe,hoe,hce⟩:=he;have zb:IsZip hb z TI TO .ellipsis:=sb _ _ Z.i1z.symm za';have hez:e≠z:=fun q=>by subst q;rw [zb]at hoe;cases hoe;simp at hce
  exact wpAny_setField_rec zb (by simp) fun hcc _ sc=>hE hcc e (fun c o c1 _ c3 _ q=>sc.extBut _ _ c1 (sb _ _ c3 (sa.extBut _ _ c1 q))) ⟨oe,sc.extBut _ _ hez hoe,hce⟩
 | some x =>
  have hy:ys[k2]? = none:=by rcases hend with h|h;rw [hx]at h;cases h;exact h
  refine wpAny_bind (u9 (h1.ext fun o e=>sa.extBut _ _ Z.i1z e) (hl1.ext fun o e=>sa.extBut _ _ Z.l1z e) hx fun hb h1b sb=>wpAny_pure ?_)
  have hTOb:IsPair hb TO a b:=sb.extBut _ _ Z.TOi1 (sa.extBut _ _ Z.TOz hTO)
  refine wpAny_bind (wpAny_seqItems hTOb rfl ?_);refine wpAny_bind (wpAny_updateSeq_pair hTOb fun hcc TOc sc=>?_)
  refine wpAny_bind (wpAny_letGo (wpAny_pure ?_));refine wpAny_bind (wpAny_bind (wpAny_onRaise ?_));show wpAny _ _ (Builtin.SmallTypes.nextOf (.ref i2) >>= _) _ _ _
  refine wpAny_bind (au2 hh (((h2.ext fun o e=>sa.extBut _ _ Z.i2z e).ext fun o e=>sb.extBut _ _ Z.i12.symm e).ext fun o e=>sc.extBut _ _ Z.TOi2.symm e) (((hl2.ext fun o e=>sa.extBut _ _ Z.l2z e).ext fun o e=>sb.extBut _ _ Z.l2i1 e).ext fun o e=>sc.extBut _ _ Z.l2TO e) hy fun hd e sd he=>?_)
  obtain⟨oe,hoe,hce⟩:=he;have zd:IsZip hd z TI TO .ellipsis:=sd _ _ Z.i2z.symm (sc.extBut _ _ Z.TOz.symm (sb.extBut _ _ Z.i1z.symm za'));have hez:e≠z:=fun q=>by subst q;rw [zd]at hoe;cases hoe;simp at hce
  exact wpAny_setField_rec zd (by simp) fun hf _ sf=>hE hf e (fun c o c1 c2 c3 c4 q=>sf.extBut _ _ c1 (sd _ _ c4 (sc.extBut _ _ c2 (sb.extBut _ _ c3 (sa.extBut _ _ c1 q))))) ⟨oe,sf.extBut _ _ hez hoe,hce⟩
theorem aq1{z TI TO i1 i2 l1 l2:Addr}{k1 k2:Nat}{xs ys:Array Value}{x y a b:Value}{Q:Option Value->Shared->Prop}(Z:ZipApart z TI TO i1 i2 l1 l2)
  (hz:IsZip s.heap z TI TO .none) (hTI:IsPair s.heap TI (.ref i1) (.ref i2)) (hTO:IsPair s.heap TO a b) (h1:SIt t1 s.heap i1 l1 k1) (h2:SIt t2 s.heap i2 l2 k2) (hl1:SSq t1 s.heap l1 xs) (hl2:SSq t2 s.heap l2 ys) (hx:xs[k1]? = some x) (hy:ys[k2]? = some y)
  (hQ:∀h',IsZip h' z TI TO (rawInt s.heap.objs.size)->IsPair h' TO x y->SIt t1 h' i1 l1 (k1+1)->SIt t2 h' i2 l2 (k2+1)->IsPair h' s.heap.objs.size x y->h'.objs.size=s.heap.objs.size+1 ->
   (∀c o,c≠z->c≠TO->c≠i1->c≠i2->s.heap.get? c=some o->h'.get? c=some o)->Q (some (.ref s.heap.objs.size)) { s with heap:=h' }):wpAny (model prog w) A (pyNext (.ref z)) Q E s:=by
 have hT:s.TypeIs (.ref z) "zip" := ⟨_,hz,rfl⟩
 unfold pyNext
 refine wpAny_bind (wpAny_attempt (wpAny_callSpecial?_slot (name:=Str.ofString "__next__") hT F.slot_zip_next (wpAny_call_entry F.slot_zip_next hT F.entry_zip_next (az8 Z hz hTI hTO h1 h2 hl1 hl2 hx hy ?_) (F.args_zip_next_1 _))))
 exact fun h' a1 a2 a3 a4 a5 a6 a7=>wpAny_pure (hQ h' a1 a2 a3 a4 a5 a6 a7)
theorem aA1{z TI TO i1 i2 l1 l2:Addr}{k1 k2:Nat}{xs ys:Array Value}{a b:Value}{Q:Option Value->Shared->Prop}(hh:A.handled=none) (Z:ZipApart z TI TO i1 i2 l1 l2)
  (hz:IsZip s.heap z TI TO .none) (hTI:IsPair s.heap TI (.ref i1) (.ref i2)) (hTO:IsPair s.heap TO a b) (h1:SIt t1 s.heap i1 l1 k1) (h2:SIt t2 s.heap i2 l2 k2) (hl1:SSq t1 s.heap l1 xs) (hl2:SSq t2 s.heap l2 ys) (hend:xs[k1]? = none\/ys[k2]? = none)
  (hQ:∀h',(∀c o,c≠z->c≠TO->c≠i1->c≠i2->s.heap.get? c=some o->h'.get? c=some o)->Q none { s with heap:=h' }):wpAny (model prog w) A (pyNext (.ref z)) Q E s:=by
 have hT:s.TypeIs (.ref z) "zip" := ⟨_,hz,rfl⟩
 unfold pyNext
 refine wpAny_bind (wpAny_attempt (wpAny_callSpecial?_slot (name:=Str.ofString "__next__") hT F.slot_zip_next (wpAny_call_entry F.slot_zip_next hT F.entry_zip_next (aF7 hh Z hz hTI hTO h1 h2 hl1 hl2 hend fun h' e hk he=>?_) (F.args_zip_next_1 _))))
 obtain⟨o,ho,hc⟩:=he
 exact wpAny_bind (wpAny_isInstance (T := "StopIteration") (b:=true) ⟨o,ho,hc⟩ isSubtype_stop (wpAny_pure (hQ _ hk)))
noncomputable def an1(t:Bool) (l:Addr):Obj:={ cls:=.type (if t then "tuple_iterator" else "list_iterator"),data:=.fields #[.ref l,.int 0 0] }
theorem au1{h:Heap}{l:Addr}(t:Bool):SIt t (h.push (an1 t l)) h.objs.size l 0:=by
 cases t with
 | true=>exact⟨_,Heap.get?_push_size _ rfl,rfl,rfl⟩
 | false=>exact⟨_,Heap.get?_push_size _ rfl,rfl,rfl⟩
theorem ak0{l:Addr}{xs:Array Value}{Q:Value->Shared->Prop}(hl:SSq t s.heap l xs) (hQ:Q (.ref s.heap.objs.size) { s with heap:=s.heap.push (an1 t l) }):wpAny (model prog w) A (pyIter (.ref l)) Q E s:=by
 cases t with
 | true=>exact wpAny_pyIter_tuple hl hQ
 | false=>exact wpAny_pyIter_list hl hQ
end
noncomputable abbrev zp1(h:Heap) (t1:Bool) (l1:Addr):Heap:=h.push (an1 t1 l1)
noncomputable abbrev zp2(h:Heap) (t1 t2:Bool) (l1 l2:Addr):Heap:=(zp1 h t1 l1).push (an1 t2 l2)
noncomputable abbrev zp3(h:Heap) (t1 t2:Bool) (l1 l2:Addr):Heap:=(zp2 h t1 t2 l1 l2).push { cls:=.type "tuple", data:=.seq #[.ref h.objs.size,.ref (zp1 h t1 l1).objs.size] }
noncomputable abbrev zp4(h:Heap) (t1 t2:Bool) (l1 l2:Addr):Heap:=(zp3 h t1 t2 l1 l2).push { cls:=.type "tuple", data:=.seq #[.none,.none] }
noncomputable abbrev zp5(h:Heap) (t1 t2:Bool) (l1 l2:Addr):Heap:=(zp4 h t1 t2 l1 l2).push { cls:=.type "zip", data:=.fields #[.none,.bool false,.bool false,.ref (zp2 h t1 t2 l1 l2).objs.size,.ref (zp3 h t1 t2 l1 l2).objs.size] }
theorem aF6(l1 l2:Addr) (xs ys:Array Value) (t1 t2:Bool) :
  Meets (Builtin.«zip.__new__» ⟨[.type "zip", .ref l1,.ref l2],[]⟩) (fun _ R s=>SSq t1 s.heap l1 xs/\SSq t2 s.heap l2 ys/\∀h',IsZip h' (s.heap.objs.size+4) (s.heap.objs.size+2) (s.heap.objs.size+3) .none->IsPair h' (s.heap.objs.size+2) (.ref s.heap.objs.size) (.ref (s.heap.objs.size+1)) ->
   IsPair h' (s.heap.objs.size+3) .none .none->SIt t1 h' s.heap.objs.size l1 0->SIt t2 h' (s.heap.objs.size+1) l2 0->(∀c o,s.heap.get? c=some o->h'.get? c=some o)->R (.ok (.ret (.ref (s.heap.objs.size+4)))) { s with heap:=h' }) :=
 .of_wp fun prog w A R s h=>by
  obtain⟨hp,g,d,tk,os⟩:=s
  obtain⟨hl1,hl2,h⟩:=h
  have hsub:=sub_zip
  have q1:SSq t1 (Shared.heap ⟨hp,g,d,tk,os⟩) l1 xs:=hl1
  have q2:SSq t2 (Shared.heap ⟨hp.push (an1 t1 l1),g,d,tk,os⟩) l2 ys:=SSq.ext hl2 fun o e=>Heap.get?_push_of_some _ e
  wp_walk using ak0 q1,ak0 q2
  refine⟨_,rfl,?_⟩
  have z1:(zp1 hp t1 l1).objs.size=hp.objs.size+1:=Heap.size_push ..
  have z2:(zp2 hp t1 t2 l1 l2).objs.size=hp.objs.size+2:=by rw [Heap.size_push,z1]
  have z3:(zp3 hp t1 t2 l1 l2).objs.size=hp.objs.size+3:=by rw [Heap.size_push,z2]
  have z4:(zp4 hp t1 t2 l1 l2).objs.size=hp.objs.size+4:=by rw [Heap.size_push,z3]
  show R (.ok (.ret (.ref (zp4 hp t1 t2 l1 l2).objs.size))) ⟨zp5 hp t1 t2 l1 l2,g,d,tk,os⟩
  rw [z4]
  have g5:(zp5 hp t1 t2 l1 l2).get? (zp4 hp t1 t2 l1 l2).objs.size=some _:=Heap.get?_push_size _ rfl
  have g4:(zp5 hp t1 t2 l1 l2).get? (zp3 hp t1 t2 l1 l2).objs.size=some _:=Heap.get?_push_of_some _ (Heap.get?_push_size _ rfl)
  have g3:(zp5 hp t1 t2 l1 l2).get? (zp2 hp t1 t2 l1 l2).objs.size=some _:=Heap.get?_push_of_some _ (Heap.get?_push_of_some _ (Heap.get?_push_size _ rfl))
  rw [z4,z2,z3]at g5
  rw [z3]at g4
  rw [z2,z1]at g3
  have k1:∀c o,hp.get? c=some o->(zp5 hp t1 t2 l1 l2).get? c=some o:=fun c o e=>Heap.get?_push_of_some _ (Heap.get?_push_of_some _ (Heap.get?_push_of_some _ (Heap.get?_push_of_some _ (Heap.get?_push_of_some _ e))))
  have s1:SIt t1 (zp5 hp t1 t2 l1 l2) hp.objs.size l1 0:=(au1 (h:=hp) (l:=l1) t1).ext fun o e=>Heap.get?_push_of_some _ (Heap.get?_push_of_some _ (Heap.get?_push_of_some _ (Heap.get?_push_of_some _ e)))
  have s2:SIt t2 (zp5 hp t1 t2 l1 l2) (zp1 hp t1 l1).objs.size l2 0:=(au1 (h:=zp1 hp t1 l1) (l:=l2) t2).ext fun o e=>Heap.get?_push_of_some _ (Heap.get?_push_of_some _ (Heap.get?_push_of_some _ e))
  rw [z1]at s2
  exact h _ g5 g3 g4 s1 s2 k1
section
variable {prog:Program}{w:World}{A:Around}{E:Value->Shared->Prop}{s:Shared}{t1 t2:Bool}
theorem az9{l1 l2:Addr}{xs ys:Array Value}{Q:Value->Shared->Prop}(hl1:SSq t1 s.heap l1 xs) (hl2:SSq t2 s.heap l2 ys)
  (h:∀h',IsZip h' (s.heap.objs.size+4) (s.heap.objs.size+2) (s.heap.objs.size+3) .none->IsPair h' (s.heap.objs.size+2) (.ref s.heap.objs.size) (.ref (s.heap.objs.size+1)) ->
   IsPair h' (s.heap.objs.size+3) .none .none->SIt t1 h' s.heap.objs.size l1 0->SIt t2 h' (s.heap.objs.size+1) l2 0->(∀c o,s.heap.get? c=some o->h'.get? c=some o)->Q (.ref (s.heap.objs.size+4)) { s with heap:=h' }) :
  wpAny (model prog w) A (call (.type "zip") [.ref l1,.ref l2]) Q E s:=by
 refine callType_new F.called_zip (by decide) (F.typeCall_zip_2 _ _) (F.newCall_zip_2 _ _) (fun obj=>F.args_object_init_3 obj _ _) F.entry_zip_new (aF6 l1 l2 xs ys t1 t2) ⟨hl1,hl2,fun h' a1 a2 a3 a4 a5 a6=>?_⟩
 exact⟨⟨_,a1,rfl⟩,h h' a1 a2 a3 a4 a5 a6⟩
end
noncomputable def Itz(K:PySem.W.Frag) (t1 t2:Bool) (a1 a2:Addr):It :=
  ⟨fun i H=>∃xs ys x y,Sq K t1 H a1 xs/\Sq K t2 H a2 ys/\xs[i]? = some x/\ys[i]? = some y,
   fun i H v H'=>∃T x y,v=.ref T/\H T=none/\H'=upd H T (.tup [x,y])/\(∀xs,Sq K t1 H a1 xs->xs[i]? = some x)/\∀ys,Sq K t2 H a2 ys->ys[i]? = some y,
   fun i H=>∃xs ys,Sq K t1 H a1 xs/\Sq K t2 H a2 ys/\(xs.length<=i\/ys.length<=i)⟩
theorem aG1{X:Cx}{pins:List (Addr×Obj)}{σ:L2.St}{H:Hp}{s:Shared}{t:Bool}{a:Addr}{xs ys:List V}(I:Inv X pins σ H s) (h:Sq X.K t H a xs) (h':Sq X.K t H a ys):xs=ys:=by
 cases t with
 | true=>exact I.tuple_inj h h'
 | false=>exact I.list_inj h h'
theorem T3{X:Cx}{pins:List (Addr×Obj)}{σ:L2.St}{H:Hp}{s:Shared}{t:Bool}{a:Addr}{xs:List V}(I:Inv X pins σ H s) (h:Sq X.K t H a xs):∃its:List Value,C3 xs its/\SSq t s.heap a its.toArray/\a < s.heap.objs.size:=by
 cases t with
 | true =>
  obtain⟨its,r,p,_⟩:=I.tuple h
  exact⟨its,r,p,by obtain⟨o,ho,_⟩:=p;exact Heap.lt_size ho⟩
 | false =>
  obtain⟨its,r,p,_⟩:=I.list h
  exact⟨its,r,p.isList,by obtain⟨o,ho,_⟩:=p.isList;exact Heap.lt_size ho⟩
theorem n6{X:Cx}{pins:List (Addr×Obj)}{σ:L2.St}{H:Hp}{s:Shared}{h':Heap}{t':Nat}{ch:List Addr}{T:Addr}{o:HO}(I:Inv X pins σ H s) (hf:∀b∈ch,k8 X pins H b) (hT:s.heap.objs.size<=T)
  (k:∀b u,b∉ch->s.heap.get? b=some u->h'.get? b=some u) (new:K6 X.prog X.w (upd H T o) h' T o):Inv X pins σ (upd H T o) { s with heap:=h',toks:=t' }:=by
 have hn:H T=none:=I.hok.fresh hT
 have neT:∀b u,s.heap.get? b=some u->b≠T:=fun b u e=>Nat.ne_of_lt (Nat.lt_of_lt_of_le (Heap.lt_size e) hT)
 have nch:∀b u,H b=some u->b∉ch:=fun b u e z=>by rw [(hf b z).1]at e;cases e
 refine I.step (g':=s.gens) (d':=s.drawn) (ch:=ch) (fun b hb=>⟨(hf b hb).2.2.2.1,(hf b hb).2.1,(hf b hb).2.2.2.2.1,(hf b hb).2.2.2.2.2⟩) (fun b u _ _ hc e _=>k b u hc e) (fun b u _ _ hc e _=>⟨u.slots,k b u hc e⟩)
  (fun b u _ e n=>by rw [A8 (neT b u e)];exact n) (fun b u hc e=>⟨u,k b u hc e⟩) (fun b xs e=>by rw [A8 (B3 e hn)];exact e) (fun b ob u e=>by rw [A8 (B3 e hn)];exact e)
  (fun b ps e=>⟨#[],by rw [A8 (B3 e hn),e];simp⟩) (fun m hm=>?_) (fun b u e=>?_) I.bare
 ·obtain⟨ob,es,ep,ho,r⟩:=hm
  exact⟨ob,es,ep,k _ ob (fun z=>(hf _ z).2.1 rfl) ho,r⟩
 ·by_cases hb:b=T
  ·subst hb;rw [B0]at e;cases e;exact new
  ·rw [A8 hb]at e
   refine(I.hok b u e).stay (fun c v hc q=>k c v ?_ q) (fun c q=>by rw [A8 (B3 q hn)];exact q) fun c xs q=>by rw [A8 (B3 q hn)];exact q
   rcases hc with z|z
   ·rw [z];exact nch b u e
   ·exact nch c _ z
theorem ar7{X:Cx}{pins:List (Addr×Obj)}{σ:L2.St}{H:Hp}{s:Shared}{h':Heap}{t':Nat}{ch:List Addr}(I:Inv X pins σ H s) (hf:∀b∈ch,k8 X pins H b)
  (k:∀b u,b∉ch->s.heap.get? b=some u->h'.get? b=some u):Inv X pins σ H { s with heap:=h',toks:=t' }:=by
 have nch:∀b u,H b=some u->b∉ch:=fun b u e z=>by rw [(hf b z).1]at e;cases e
 refine I.step (g':=s.gens) (d':=s.drawn) (ch:=ch) (fun b hb=>⟨(hf b hb).2.2.2.1,(hf b hb).2.1,(hf b hb).2.2.2.2.1,(hf b hb).2.2.2.2.2⟩) (fun b u _ _ hc e _=>k b u hc e) (fun b u _ _ hc e _=>⟨u.slots,k b u hc e⟩)
  (fun b u _ e n=>n) (fun b u hc e=>⟨u,k b u hc e⟩) (fun b xs e=>e) (fun b ob u e=>e) (fun b ps e=>⟨#[],by rw [e];simp⟩) (fun m hm=>?_) (fun b u e=>?_) I.bare
 ·obtain⟨ob,es,ep,ho,r⟩:=hm
  exact⟨ob,es,ep,k _ ob (fun z=>(hf _ z).2.1 rfl) ho,r⟩
 ·refine(I.hok b u e).stay (fun c v hc q=>k c v ?_ q) (fun c q=>q) fun c xs q=>q
  rcases hc with z|z
  ·rw [z];exact nch b u e
  ·exact nch c _ z
theorem aF3{P:Program}{w:World}{K:PySem.W.Frag}{elts:List Expr}{k0:Nat}{pos:Pos}{t1 t2:Bool}{z TI TO i1 i2 a1 a2:Addr}(Z:ZipApart z TI TO i1 i2 a1 a2) :
  Turn P w K (.Tuple elts k0 pos) (Itz K t1 t2 a1 a2) [z,TI,TO,i1,i2] z (fun i h=>IsZip h z TI TO .none/\IsPair h TI (.ref i1) (.ref i2)/\(∃a b,IsPair h TO a b)/\SIt t1 h i1 a1 i/\SIt t2 h i2 a2 i) where
 mem:=by simp
 obj:=fun i h ⟨hz,hTI,⟨a,b,hTO⟩,h1,h2⟩ c hc=>by
  simp only [List.mem_cons,List.not_mem_nil,or_false]at hc
  rcases hc with rfl|rfl|rfl|rfl|rfl
  ·exact⟨_,hz,fun v q=>by cases q⟩
  ·exact⟨_,hTI,fun v q=>by cases q⟩
  ·exact⟨_,hTO,fun v q=>by cases q⟩
  ·cases t1 with
   | true=>obtain⟨o,ho,_,hd⟩:=h1;exact⟨o,ho,fun v q=>by rw [hd]at q;cases q⟩
   | false=>obtain⟨o,ho,_,hd⟩:=h1;exact⟨o,ho,fun v q=>by rw [hd]at q;cases q⟩
  ·cases t2 with
   | true=>obtain⟨o,ho,_,hd⟩:=h2;exact⟨o,ho,fun v q=>by rw [hd]at q;cases q⟩
   | false=>obtain⟨o,ho,_,hd⟩:=h2;exact⟨o,ho,fun v q=>by rw [hd]at q;cases q⟩
 keep:=fun i h h' ⟨hz,hTI,⟨a,b,hTO⟩,h1,h2⟩ hk=>⟨hk z (by simp) _ hz,hk TI (by simp) _ hTI,⟨a,b,hk TO (by simp) _ hTO⟩,h1.ext fun o e=>hk i1 (by simp) o e,h2.ext fun o e=>hk i2 (by simp) o e⟩
 item:=by
  intro X hP hw hK hc i pins s σ H E I hf ⟨hz,hTI,⟨a,b,hTO⟩,h1,h2⟩ hg
  subst hP hw hK
  obtain⟨xs,ys,x,y,q1,q2,ex,ey⟩:=hg
  obtain⟨us,r1,p1,lt1⟩:=T3 I q1
  obtain⟨ws,r2,p2,lt2⟩:=T3 I q2
  obtain⟨ux,eux,rx⟩:=r1.get ex
  obtain⟨uy,euy,ry⟩:=r2.get ey
  refine aq1 Z hz hTI hTO h1 h2 p1 p2 (x:=ux) (y:=uy) (by simpa using eux) (by simpa using euy) fun h' b1 b2 b3 b4 b5 b6 b7=>⟨_,rfl,wpAny_letOwnedTupleGo_zip b1 fun h'' c1 c2=>?_⟩
  have neT:∀c o,s.heap.get? c=some o->c≠s.heap.objs.size:=fun c o e=>Nat.ne_of_lt (Heap.lt_size e)
  have up:∀c o,c≠z->h'.get? c=some o->h''.get? c=some o:=fun c o n e=>c2.extBut c o n e
  refine⟨.ref s.heap.objs.size,upd H s.heap.objs.size (.tup [x,y]),n6 (s:=s) (h':=h'') (t':=s.toks) (ch:=[z,TI,TO,i1,i2]) I hf (Nat.le_refl _) (fun c u hc e=>?_) ?_,rfl,⟨_,x,y,rfl,I.hok.fresh (Nat.le_refl _),rfl,fun zs hz'=>by rw [aG1 I hz' q1];exact ex,fun zs hz'=>by rw [aG1 I hz' q2];exact ey⟩,⟨c1,?_,⟨_,_,up TO _ Z.TOz b2⟩,b3.ext fun o e=>up i1 o Z.i1z e,b4.ext fun o e=>up i2 o Z.i2z e⟩,fun c hc=>?_⟩
  ·simp only [List.mem_cons,List.not_mem_nil,or_false,not_or]at hc
   exact up c u hc.1 (b7 c u hc.1 hc.2.2.1 hc.2.2.2.1 hc.2.2.2.2 e)
  ·refine⟨by show 2<=sizeLine;decide,[ux,uy],.cons rx (.cons ry .nil),_,up _ _ ?_ b5,rfl,⟨_,rfl⟩,rfl⟩
   exact fun q=>neT z _ hz q.symm
  ·exact up TI _ Z.TIz (b7 TI _ Z.TIz Z.TITO Z.TIi1 Z.TIi2 hTI)
  ·have e:c < s.heap.objs.size:=by
    simp only [List.mem_cons,List.not_mem_nil,or_false]at hc
    rcases hc with rfl|rfl|rfl|rfl|rfl
    ·exact Heap.lt_size hz
    ·exact Heap.lt_size hTI
    ·exact Heap.lt_size hTO
    ·exact h1.lt
    ·exact h2.lt
   rw [A8 (Nat.ne_of_lt e)]
   exact(hf c hc).1
 done:=by
  intro X hP hw hK hc i pins s σ H E I hf ⟨hz,hTI,⟨a,b,hTO⟩,h1,h2⟩ hg
  subst hP hw hK
  obtain⟨xs,ys,q1,q2,hl⟩:=hg
  obtain⟨us,r1,p1,lt1⟩:=T3 I q1
  obtain⟨ws,r2,p2,lt2⟩:=T3 I q2
  have l1:=r1.length
  have l2:=r2.length
  refine aA1 (I.ok.hd hc) Z hz hTI hTO h1 h2 p1 p2 ?_ fun h' hk=>⟨rfl,ar7 (t':=s.toks) (ch:=[z,TI,TO,i1,i2]) I hf fun c u hc e=>?_⟩
  ·rcases hl with h|h
   ·left;simp;omega
   ·right;simp;omega
  ·simp only [List.mem_cons,List.not_mem_nil,or_false,not_or]at hc
   exact hk c u hc.1 hc.2.2.1 hc.2.2.2.1 hc.2.2.2.2 e
 self:=fun _ _ _ _ _ st h=>wpAny_pyIter_zip st.1 h
section
variable {X:Cx}
noncomputable def Y8(f g:Rho->Option (Bool×List D)):Rho->Option (List D):=fun ρ=>(f ρ).bind fun p=>(g ρ).bind fun q=>some ((p.2.zip q.2).map fun(x,y)=>PyData.tuple [x,y])
theorem ap1{K:PySem.W.Frag}{t1 t2:Bool}{a1 a2:Addr}{vs us:List V}{ds es:List D}{Hf1:Hp}(h1:Sq K t1 Hf1 a1 vs) (h2:Sq K t2 Hf1 a2 us) (r1:Reps K Hf1 ds vs) (r2:Reps K Hf1 es us) :
  at5 K (Itz K t1 t2 a1 a2) ((ds.zip es).map fun(x,y)=>PyData.tuple [x,y]) Hf1:=by
 have mono:∀{t:Bool}{a:Addr}{xs:List V}{H H':Hp},C2 H H'->Sq K t H a xs->Sq K t H' a xs:=fun{t a xs H H'} e h=>by
  cases t with
  | true=>exact B9 e h
  | false=>exact D1 e h
 intro i H Hf sa sb
 have m1:=mono (sa.trans sb) h1
 have m2:=mono (sa.trans sb) h2
 have l1:=r1.length
 have l2:=r2.length
 refine⟨fun hi=>⟨vs,us,m1,m2,?_⟩,fun d hd=>?_⟩
 ·simp at hi;omega
 ·rw [List.getElem?_map]at hd
  obtain⟨⟨x,y⟩,q1,q2⟩:=Option.map_eq_some_iff.mp hd
  subst q2
  obtain⟨q1,q2⟩:=List.getElem?_zip_eq_some.mp q1
  obtain⟨vx,e1,e2⟩:=r1.get q1
  obtain⟨vy,e3,e4⟩:=r2.get q2
  refine⟨⟨vs,us,vx,vy,m1,m2,e1,e3⟩,fun v H' ⟨T,x',y',z1,z2,z3,z4,z5⟩=>?_⟩
  subst z1 z3
  have w1:=z4 vs m1
  have w2:=z5 us m2
  rw [e1]at w1
  rw [e3]at w2
  cases w1
  cases w2
  have nf:Hf T=none:=sb.free z2
  refine⟨upd Hf T (.tup [vx,vy]),Grow.laid sb z2,T,[vx,vy],rfl,SqT.of B0,vx,[vy],rfl,(e2.mono sa).mono (C5 nf),vy,[],rfl,(e4.mono sa).mono (C5 nf),rfl⟩
theorem bm3{elts:List Expr}{k0:Nat}{tpos:Pos}{a b:Expr}{f g:DE}{p pos:Pos}(hg:Gl X "zip") (hm:X.mg "zip" = none) (ha:JE X a f) (hb:JE X b g) (hs:starEach [a,b] X.env=[(false,eval a X.env),(false,eval b X.env)]:=by rfl) (hs2:starEach [b] X.env=[(false,eval b X.env)]:=by rfl) :
  JI X (.Tuple elts k0 tpos) (.Call (.Name "zip" p) [a,b] [] pos) (Y8 (qE f) (qE g)):=fun ρ out q=>by
 obtain⟨⟨t1,ds⟩,e1,q⟩:=xbm q
 obtain⟨⟨t2,es⟩,e2,q⟩:=xbm q
 cases q
 obtain⟨d1,e1,e1'⟩:=xbm e1
 obtain⟨d2,e2,e2'⟩:=xbm e2
 intro pins s σ H R I ⟨H0,Hf,ss,sl,k⟩
 refine Call_ (i6 I hg hm bp6 (PyProof.Rows.callWith_type1 (thn (C7 (ha ρ d1 e1) (C7 (hb ρ d2 e2) E8 hs2) (by rw [hs,hs2]) pos pins s σ H
  (fun vs H'=>∃v u Hf',vs=[v,u]/\Grow H Hf H' Hf'/\Rep X.K Hf' d1 v/\Rep X.K Hf' d2 u) I ⟨H0,Hf,ss,sl,fun v H1 Hf1 g1 r1=>⟨H0,Hf1,g1.sub,sl.grow g1,fun u H2 Hf2 g2 r2=>⟨v,u,Hf2,rfl,g1.trans g2,r1.mono g2.ext,r2⟩⟩⟩) fun us s1 ⟨vs,H1,I1,r1,v,u,Hf1,ev,gr,p1,p2⟩=>?_) (by rw [hs,hs2]) (by rw [hs2];rfl)))
 subst ev
 obtain⟨uv,uu,rfl,rv,ru⟩:=aF2 r1
 obtain⟨a1,vs1,rfl,w1,w2⟩:=p1.seq (C2.refl Hf1) e1'
 obtain⟨a2,vs2,rfl,w3,w4⟩:=p2.seq (C2.refl Hf1) e2'
 cases rv
 cases ru
 have mono:∀{t:Bool}{a:Addr}{xs:List V}{H H':Hp},C2 H H'->Sq X.K t H a xs->Sq X.K t H' a xs:=fun{t a xs H H'} e h=>by
  cases t with
  | true=>exact B9 e h
  | false=>exact D1 e h
 obtain⟨us1,rr1,hp1,lt1⟩:=T3 I1 (mono gr.sub w1)
 obtain⟨us2,rr2,hp2,lt2⟩:=T3 I1 (mono gr.sub w3)
 refine az9 hp1 hp2 fun h' b1 b2 b3 b4 b5 b6=>?_
 have I2:Inv X pins σ H1 { s1 with heap:=h' }:=I1.kept (t':=s1.toks) b6
 refine wpAny_pyIter_zip b1 ⟨_,_,_,_,H1,rfl,I2,aF3 (zipApart_new lt1 lt2),⟨b1,b2,⟨_,_,b3⟩,b4,b5⟩,fun b hb=>?_,k _ H1 Hf1 gr (ap1 w1 w3 w2 w4)⟩
 have hb':s1.heap.objs.size<=b:=by
  simp only [List.mem_cons,List.not_mem_nil,or_false]at hb
  rcases hb with rfl|rfl|rfl|rfl|rfl
  ·exact Nat.le_add_right _ _
  ·exact Nat.le_add_right _ _
  ·exact Nat.le_add_right _ _
  ·exact Nat.le_refl _
  ·exact Nat.le_add_right _ _
 exact I1.fpOk hb' (I1.hok.fresh hb')
end
theorem l8:fillsNumberSlot (.type "tuple") "mul" = pure false:=PySem.fillsNumberSlot_seq (id := "tuple.__mul__") (r:=some (.builtin "tuple.__rmul__")) F.slot_tuple_mul.lookup (by decide +kernel) F.slot_tuple_rmul.lookup (by decide +kernel)
theorem ad1:seqRepeat? (.type "tuple")=pure (some (.builtin "tuple.__mul__")):=by
 unfold seqRepeat?
 rw [PySem.seqSlot_of (T := "tuple") (name := "__mul__") (id := "tuple.__mul__") F.slot_tuple_mul.lookup (by decide +kernel),PySem.seqSlot_of (T := "tuple") (name := "__rmul__") (id := "tuple.__rmul__") F.slot_tuple_rmul.lookup (by decide +kernel)];rfl
theorem X6(a:Int) (t:Tok) (l:Addr) (items:Array Value) (n:Nat) (dd:Option Addr) (sl:Array (Option Value)) :
  Meets (Builtin.«int.__rmul__» ⟨[.int a t,.ref l],[]⟩) (fun _ R s=>s.heap.get? l=some ⟨.type "tuple", dd,.seq items n,sl⟩/\R (.ok (.ret Value.notImplemented)) s) :=
 .of_wp fun prog w A R s h=>by obtain⟨hp,g,d,tk,os⟩:=s;obtain⟨hl,h⟩:=h;wp_walk;exact⟨_,rfl,h⟩
theorem aq6(items:Array Value) (k:Nat):List.foldl (fun x1 x2=>x1++x2) #[] (List.replicate k items)=(List.replicate k items.toList).flatten.toArray:=by
 have:=ae0 items.toList k []
 rw [List.nil_append]at this
 simpa using this
theorem am4(l:Addr) (items:Array Value) (n:Nat) (dd:Option Addr) (sl:Array (Option Value)) (x:Int) (u:Tok) (h2:2<=x) (h3:x < 1000000) (he:items.isEmpty=false) (hz:items.size*x.toNat<=sizeLine) :
  Meets (Builtin.«tuple.__mul__» ⟨[.ref l,.int x u],[]⟩) (fun _ R s=>s.heap.get? l=some ⟨.type "tuple", dd,.seq items n,sl⟩/\R (.ok (.ret (Value.ref s.heap.objs.size))) { s with heap:=s.heap.push { cls:=Value.type "tuple", data:=Data.seq (List.foldl (fun x1 x2=>x1++x2) #[] (List.replicate x.toNat items)) } }) :=
 .of_wp fun prog w A R s h=>by
  obtain⟨hp,g,d,tk,os⟩:=s
  obtain⟨hl,h⟩:=h
  have hm:(items.size:Int)*x<=16777216:=by
   have e:((items.size*x.toNat:Nat):Int)=(items.size:Int)*x:=by rw [Int.natCast_mul,Int.toNat_of_nonneg (by omega)]
   have:items.size*x.toNat<=16777216:=by rw [← sizeLine_eq];exact hz
   omega
  wp_walk
  refine wpAny_ite_false (by simp;omega) ?_
  have ht:Heap.IsTuple (Shared.heap ⟨hp,g,d,tk,os⟩) l items:=⟨_,hl,rfl,n,rfl⟩
  refine wpAny_bind (tupleItemsOf_ ht ?_)
  refine wpAny_ite_false (by rw [he];simp;omega) ?_
  show wpAny _ _ (if(decide (x<=0) || items.isEmpty)=true then _ else _) _ _ _
  refine wpAny_ite_false (by rw [he];simp;omega) ?_
  show wpAny _ _ (if(items.size:Int)*x > (2 ^ 63 - 1) / 8 then _ else _) _ _ _
  rw [if_neg (by omega)]
  show wpAny _ _ (if Builtin.Tuple.tupleTooMany ((items.size:Int)*x)=true then _ else _) _ _ _
  rw [if_neg (by unfold Builtin.Tuple.tupleTooMany;rw [sizeLine_eq];simp;omega)]
  refine wpAny_bind (m:=Builtin.Tuple.tupleExact _) (wpAny_newObj_type (wpAny_pure ⟨_,rfl,h⟩) ?_)
  show(List.foldl (fun x1 x2=>x1++x2) #[] (List.replicate x.toNat items)).size<=sizeLine
  rw [aq6 items x.toNat,List.size_toArray,ah8,Array.length_toList,Nat.mul_comm]
  exact hz
section
variable {X:Cx}
theorem aU4:OpR X (binaryOp .Mult) (fun x y H Q=>∃l k xs,x=.ref l/\y=.int k/\SqT X.K H l xs/\xs≠[]/\2<=k/\k < 1000000/\xs.length*k.toNat<=sizeLine/\∀p,H p=none->Q (.ref p) (upd H p (.tup (List.replicate k.toNat xs).flatten))):=by
 intro pins s σ H x y v u Q I rx ry h
 obtain⟨l,k,xs,rfl,rfl,hq,hx,h2,h3,hz,q⟩:=h
 cases rx
 obtain⟨t,rfl⟩:=ry
 obtain⟨its,r,p1,_⟩:=I.tuple hq
 obtain⟨⟨cls,dd,data,sl⟩,ho,hc,n,hd⟩:=id p1
 simp only at hc hd
 subst hc hd
 have hl:=r.length
 have he:its.toArray.isEmpty=false:=by
  cases its with
  | nil=>exact absurd (r.nil_iff.mp rfl) hx
  | cons a b=>rfl
 refine wpAny_binaryOp_repeat_ref (T := "tuple") (U := "int") (by decide) ⟨_,ho,rfl⟩ (fun s'=>typeIs_int s' k t) l8 F.fills_int_mul F.slot_int_rmul ad1 F.slot_int_index.lookup
  (call_meets F.slot_int_rmul (typeIs_int s k t) F.entry_int_rmul (F.args_int_rmul_2 _ _) (X6 k t l its.toArray n dd sl) ⟨ho,rfl,⟨_,ho,rfl⟩,
   call_meets F.slot_tuple_mul ⟨_,ho,rfl⟩ F.entry_tuple_mul (F.args_tuple_mul_2 _ _) (am4 l its.toArray n dd sl k t h2 h3 he (by rw [List.size_toArray,← hl];exact hz)) ⟨ho,?_⟩⟩)
 rw [aq6]
 refine⟨.ref _,_,I.laid (t':=s.toks) (o:=.tup (List.replicate k.toNat xs).flatten) (fun b ob q=>Heap.get?_push_of_some _ q) (Nat.le_refl _) ⟨?_,_,r.rep k.toNat,aa8.new _ _⟩,rfl,q _ (I.hok.fresh (Nat.le_refl _))⟩
 rw [ah8,Nat.mul_comm];exact hz
noncomputable def U3(x y:D):Option D:=match x,y with
 | .int i,.int j=>if C6 i/\C6 j then some (.int (i*j)) else none
 | .tuple xs,.int k=>if xs.isEmpty=false/\2<=k/\k < 1000000/\xs.length*k.toNat<=16777216 then some (.tuple (List.replicate k.toNat xs).flatten) else none
 | _,_=>none
theorem ah3:OpD X (binaryOp .Mult) U3:=fun x y z h=>by
 unfold U3 at h
 split at h
 ·exact bi9 _ _ z (by unfold bj6;exact h)
 ·split at h
  ·rename_i xs k c
   cases h
   refine OpR.imp aU4 fun vx vy H Q ⟨Hf,s,r1,r2,kk⟩=>?_
   obtain⟨a,vs,rfl,h2,h3⟩:=r1
   refine⟨a,k,vs,rfl,r2,B9 s h2,?_,c.2.1,c.2.2.1,by rw [h3.length,sizeLine_eq];exact c.2.2.2,fun p hp=>?_⟩
   ·intro e
    subst e
    have:=h3.length
    cases xs with
    | nil=>exact absurd c.1 (by simp)
    | cons a b=>simp at this
   ·exact kk _ _ _ (Grow.laid s hp) ⟨p,_,rfl,SqT.of B0,(h3.flatten k.toNat).mono (C5 (s.free hp))⟩
  ·cases h
 ·cases h
noncomputable def ao0(f:DE):DE:=fun ρ=>(f ρ).bind fun d=>match d with
 | .int i=>some (.int (-i))
 | _=>none
theorem ar4{a:Expr}{f:DE}{pos:Pos}(h:JE X a f):JE X (.UnaryOp .USub a pos) (ao0 f):=fun ρ d q=>by
 obtain⟨x,e1,e2⟩:=xbm q
 cases x with
 | int i =>
  cases e2
  exact B2 (bu1 bd7 (h ρ _ e1)) fun σ H Q ⟨H0,Hf,s,sl,k⟩=>⟨H0,Hf,s,sl,fun v H1 Hf1 g1 r1=>⟨_,r1,k _ H1 Hf1 g1 rfl⟩⟩
 | _=>cases e2
noncomputable def isB(x y:D):Option D:=match y with
 | .bool b=>(match x with
  | .bool c=>some (.bool (c==b))
  | .dict _=>none
  | _=>some (.bool false))
 | .none=>isN x .none
 | _=>none
noncomputable def bv9(x y:D):Option D:=match y with
 | .bool b=>(match x with
  | .bool c=>some (.bool (!(c==b)))
  | .dict _=>none
  | _=>some (.bool true))
 | .none=>bj4 x .none
 | _=>none
theorem bv3:OpD X (compareOp .Is) isB:=fun x y z h=>by
 cases y with
 | none=>exact bj1 x .none z h
 | bool b =>
  intro pins s σ H vx vy v u Q I rx ry ⟨Hf,ss,r1,r2,k⟩
  cases r2
  cases ry
  have fin:∀c,z=.bool c->(v==Value.bool b)=c->EP X pins σ Q (.bool (v==Value.bool b)) s:=fun c e1 e2=>by
   rw [e2];subst e1;exact⟨.bl c,H,I,rfl,k _ H Hf (Grow.refl ss) rfl⟩
  cases x with
  | none=>cases r1;cases rx;cases h;exact wpAny_is_plain rfl (fin _ rfl rfl)
  | bool c=>cases r1;cases rx;cases h;exact wpAny_is_plain rfl (fin _ rfl (by cases c<;>cases b<;>rfl))
  | int i=>cases r1;obtain⟨t,rfl⟩:=rx;cases h;exact wpAny_is_plain rfl (fin _ rfl rfl)
  | str i=>cases r1;obtain⟨t,rfl⟩:=rx;cases h;exact wpAny_is_plain rfl (fin _ rfl rfl)
  | tuple ds=>obtain⟨a,vs,rfl,_⟩:=r1;cases rx;cases h;exact wpAny_is_plain rfl (fin _ rfl rfl)
  | list ds=>obtain⟨a,vs,rfl,_⟩:=r1;cases rx;cases h;exact wpAny_is_plain rfl (fin _ rfl rfl)
  | dict ds=>cases h
 | _=>cases h
theorem aI8:OpD X (compareOp .IsNot) bv9:=fun x y z h=>by
 cases y with
 | none=>exact aV3 x .none z h
 | bool b =>
  intro pins s σ H vx vy v u Q I rx ry ⟨Hf,ss,r1,r2,k⟩
  cases r2
  cases ry
  have fin:∀c,z=.bool c->(!(v==Value.bool b))=c->EP X pins σ Q (.bool (!(v==Value.bool b))) s:=fun c e1 e2=>by
   rw [e2];subst e1;exact⟨.bl c,H,I,rfl,k _ H Hf (Grow.refl ss) rfl⟩
  cases x with
  | none=>cases r1;cases rx;cases h;exact wpAny_isNot_plain rfl (fin _ rfl rfl)
  | bool c=>cases r1;cases rx;cases h;exact wpAny_isNot_plain rfl (fin _ rfl (by cases c<;>cases b<;>rfl))
  | int i=>cases r1;obtain⟨t,rfl⟩:=rx;cases h;exact wpAny_isNot_plain rfl (fin _ rfl rfl)
  | str i=>cases r1;obtain⟨t,rfl⟩:=rx;cases h;exact wpAny_isNot_plain rfl (fin _ rfl rfl)
  | tuple ds=>obtain⟨a,vs,rfl,_⟩:=r1;cases rx;cases h;exact wpAny_isNot_plain rfl (fin _ rfl rfl)
  | list ds=>obtain⟨a,vs,rfl,_⟩:=r1;cases rx;cases h;exact wpAny_isNot_plain rfl (fin _ rfl rfl)
  | dict ds=>cases h
 | _=>cases h
noncomputable def at6(K:PySem.W.Frag) (d:D) (u:Value):Prop:=∃v,D4 v u/\∀H:Hp,Rep K H d v
theorem bn5{x:Str}{d:D}{u:Value}{pos:Pos}(r:at6 X.K d u) (hg:Gl X x) (hm:X.mg x=some u) (hd:(x==("__debug__" : Str))=false:=by decide):JE X (.Name x pos) (dC d):=fun ρ d' q=>by
 cases q
 obtain⟨v,rv,rp⟩:=r
 exact B2 (av5 hg hm rv hd) fun σ H Q ⟨H0,Hf,s,sl,k⟩=>k _ H Hf (Grow.refl s) (rp Hf)
noncomputable def qN(f:Rho->Option (List D)):Rho->Option (Bool×List D):=fun ρ=>(f ρ).map fun ds=>(false,ds)
theorem bm0{e:Expr}{f:Rho->Option (List D)}(h:JN X e f):JQ X e (qN f):=aL2 h
noncomputable def G3(f:Rho->Option (Bool×List D)):DE:=fun ρ=>(f ρ).bind fun q=>if q.1=true then none else some (.tuple q.2)
theorem aX7{e:Expr}{f:Rho->Option (Bool×List D)}{p pos:Pos}(hg:Gl X "tuple") (hm:X.mg "tuple" = none) (h:JQ X e f) (he:starEach [e] X.env=[(false,eval e X.env)]:=by rfl):JE X (.Call (.Name "tuple" p) [e] [] pos) (G3 f):=aL8 hg hm h (he:=he)
end
theorem aE5(l b:Addr) (items items2:Array Value) (n n2:Nat) (dd dd2:Option Addr) (sl sl2:Array (Option Value)) (hz:items.size+items2.size<=sizeLine) :
  Meets (Builtin.«list.__add__» ⟨[.ref l,.ref b],[]⟩) (fun _ R s=>s.heap.get? l=some ⟨.type "list", dd,.seq items n,sl⟩/\s.heap.get? b=some ⟨.type "list", dd2,.seq items2 n2,sl2⟩/\R (.ok (.ret (Value.ref s.heap.objs.size))) { s with heap:=s.heap.push { cls:=Value.type "list", data:=Data.seq (items++items2) } }) :=
 .of_wp fun prog w A R s h=>by
  obtain⟨hp,g,d,tk,os⟩:=s
  obtain⟨hl,hb,h⟩:=h
  have hsub:isSubtype (.type "list") (.type "list")=pure true:=by rw [isSubtype_type];kernel_rfl
  have hsz:=hz
  wp_walk
  exact⟨_,rfl,h⟩
section
variable {X:Cx}
theorem aw1:OpR X (binaryOp .Add) (fun x y H Q=>∃a b xs ys,x=.ref a/\y=.ref b/\SqL X.K H a xs/\SqL X.K H b ys/\xs.length+ys.length<=sizeLine/\∀p,H p=none->Q (.ref p) (upd H p (.lst (xs++ys)))):=by
 intro pins s σ H x y v u Q I rx ry h
 obtain⟨a,b,xs,ys,rfl,rfl,ha,hb,hz,q⟩:=h
 cases rx
 cases ry
 obtain⟨its,r1,p1,_⟩:=I.list ha
 obtain⟨its2,r2,p2,_⟩:=I.list hb
 obtain⟨⟨cls,dd,data,sl⟩,ho,hc,n,hd⟩:=p1.isList
 obtain⟨⟨cls2,dd2,data2,sl2⟩,ho2,hc2,n2,hd2⟩:=p2.isList
 simp only at hc hd hc2 hd2
 subst hc hd hc2 hd2
 have l1:=r1.length
 have l2:=r2.length
 refine concat_meets ⟨_,ho,rfl⟩ ⟨_,ho2,rfl⟩ noFill_list_add seq_list_add PySem.F.slot_list_add PySem.F.entry_list_add (PySem.F.args_list_add_2 _ _) (aE5 a b its.toArray its2.toArray n n2 dd dd2 sl sl2 (by simp only [List.size_toArray];omega)) ⟨ho,ho2,?_⟩
 have ea:its.toArray++its2.toArray=(its++its2).toArray:=by simp
 rw [ea]
 exact⟨.ref _,_,I.lnew (t':=s.toks) (r1.append r2) (by rw [List.length_append];omega),rfl,q _ I.fresh⟩
noncomputable def E9(x y:D):Option D:=match x,y with
 | .list xs,.list ys=>if xs.length+ys.length<=16777216 then some (.list (xs++ys)) else none
 | x,y=>Q3 x y
theorem aw4:OpD X (binaryOp .Add) E9:=fun x y z h=>by
 unfold E9 at h
 split at h
 ·split at h
  ·rename_i c
   cases h
   refine OpR.imp aw1 fun vx vy H Q ⟨Hf,s,r1,r2,k⟩=>?_
   obtain⟨a,vs,rfl,h2,h3⟩:=r1
   obtain⟨b,us,rfl,h5,h6⟩:=r2
   refine⟨a,b,vs,us,rfl,rfl,D1 s h2,D1 s h5,by rw [h3.length,h6.length,sizeLine_eq];exact c,fun p hp=>?_⟩
   exact k _ _ _ (Grow.laid s hp) ⟨p,vs++us,rfl,SqL.of B0,(h3.append h6).mono (C5 (s.free hp))⟩
  ·cases h
 ·exact aI9 _ _ z h
noncomputable def bb8(f:DE):DE:=fun ρ=>(f ρ).bind fun d=>match d with
 | .tuple xs=>some (.tuple xs.reverse)
 | _=>none
end
end G
namespace G
theorem xg0{α:Type}{a:α}{l:List α}:(a::l)[0]? = some a:=rfl
theorem xg1{α:Type}{a:α}{i:Nat}{l:List α}:(a::l)[i+1]? = l[i]?:=rfl
theorem xw0{α:Type}{a b:α}{l:List α}:(a::l).set 0 b=b::l:=rfl
theorem xw1{α:Type}{a b:α}{i:Nat}{l:List α}:(a::l).set (i+1) b=a::l.set i b:=rfl
theorem xbs{α β:Type}{a:α}{f:α->Option β}:(some a).bind f=f a:=rfl
theorem xms{α β:Type}{a:α}{f:α->β}:(some a).map f=some (f a):=rfl
theorem xca{α:Type}{a:α}{l m:List α}:(a::l)++m=a::(l++m):=rfl
theorem xna{α:Type}{l:List α}:[]++l=l:=rfl
theorem xmc{α β:Type}{f:α->β}{a:α}{l:List α}:(a::l).map f=f a::l.map f:=rfl
theorem xmn{α β:Type}{f:α->β}:[].map f=[]:=rfl
theorem xnf:(!false)=true:=rfl
theorem xnt:(!true)=false:=rfl
theorem xft:(false=true)=False:=by simp
end G
noncomputable section
namespace Sh
open PySem PySem.Spec PyProof.Rows L2 G
def ab0:DS:=(B1 (sIf (tB2 eqD (A1 0) (E2 A3)) (C8 (A4 U3 (dC (.int 7)) (A1 1))) E1) (C8 (A4 Q3 (dIx (A6 0) (A4 N9 (A1 1) (M3 (A6 0)))) (A4 U3 (dC (.int 6553)) (A4 R0 (A1 1) (M3 (A6 0)))))))
def e9:List D->Option D:=L9 ab0 2
def af0:DS:=(B1 (B6 3 (A4 N9 (A4 Q3 (A4 U3 (A4 N9 (A5 e9 (A0 (A1 0) (A0 (A1 1) A3))) (dC (.int 2147483563))) (dC (.int 69069))) (A4 U3 (dC (.int 104723)) (A4 Q3 (A1 1) (dC (.int 1))))) (dC (.int 2147483563)))) (B1 (B6 3 (A4 N9 (A4 Q3 (A4 U3 (A1 3) (A1 3)) (A4 R0 (A1 3) (dC (.int 3)))) (dC (.int 2147483399)))) (C8 (A4 N9 (A4 R0 (A4 N9 (A4 Q3 (A4 U3 (A1 3) (A1 3)) (A4 R0 (A1 3) (dC (.int 7)))) (dC (.int 2147483647))) (dC (.int 11))) (A1 2)))))
def D5:List D->Option D:=L9 af0 4
def e8:DS:=(B1 (B6 2 (A1 0)) (B1 (B6 3 (A1 1)) (B1 (V5 (tB2 gtI (A1 2) (dC (.int 0))) (X4 2 3 (A0 (A4 N9 (A1 3) (A1 2)) (A0 (A1 2) A3)))) (C8 (C9 (A0 (A4 R0 (A1 0) (A1 3)) (A0 (A4 R0 (A1 1) (A1 3)) A3)))))))
def T2:List D->Option D:=L9 e8 4
def ae8:DS:=(C8 (A5 T2 (A0 (A4 U3 (dIx (A6 0) (dC (.int 0))) (dIx (A6 1) (dC (.int 0)))) (A0 (A4 U3 (dIx (A6 0) (dC (.int 1))) (dIx (A6 1) (dC (.int 1)))) A3))))
def U0:List D->Option D:=L9 ae8 2
def ae9:DS:=(B1 (B6 2 (A4 Q3 (dC (.int 1)) (A5 D5 (A0 (A1 0) (A0 (A1 1) (A0 (dC (.int 12)) A3)))))) (B1 (B6 3 (A5 T2 (A0 (A5 D5 (A0 (A1 0) (A0 (A4 Q3 (A1 1) (dC (.int 1))) (A0 (A4 Q3 (A1 2) (dC (.int 1))) A3)))) (A0 (A1 2) A3)))) (C8 (dIx (qN (A0 (A1 3) (A0 (A1 3) (A0 (A1 3) (A0 (C9 (A0 (dC (.int 0)) (A0 (dC (.int 1)) A3))) (A0 (C9 (A0 (dC (.int 1)) (A0 (dC (.int 1)) A3))) A3)))))) (A5 D5 (A0 (A1 0) (A0 (A4 Q3 (A1 1) (dC (.int 2))) (A0 (dC (.int 5)) A3))))))))
def P0:List D->Option D:=L9 ae9 4
def ao7:DS:=(B1 (B6 2 (A5 P0 (A0 (A1 0) (A0 (A1 1) A3)))) (C8 (A4 Q3 (C9 (A0 (A1 2) A3)) (G3 (qN (D7 1 [2,0,1] (G2 (dC (.int 3))) (C0 0) D2 (A5 U0 (A0 (A1 1) (A0 (A5 P0 (A0 (A1 2) (A0 (A4 Q3 (A4 Q3 (A1 3) (dC (.int 3))) (A4 U3 (dC (.int 3)) (A1 0))) A3))) A3)))))))))
def M9:List D->Option D:=L9 ao7 3
end Sh
namespace Sh
open PySem G
theorem R8(i j:Int):neD (.int i) (.int j)=some (.bool (!(i==j))):=rfl
theorem O7(i j:Int):eqD (.int i) (.int j)=some (.bool (i==j)):=rfl
theorem ax5{t:Rho->Option Bool}{f:DS}{n:Nat}{ρ ρ':Rho}(h1:t ρ=some true) (h2:f ρ=some (.nx ρ')):L4 t f (n+1) ρ=L4 t f n ρ':=by
 simp only [L4,h1,h2,xbs,if_true]
theorem bx7:∀(b a:Nat) (x:Option B),∃n x',L4 (tB2 neD (A1 1) (dC (.int 0))) (B1 (B6 2 (A4 N9 (A1 0) (A1 1))) (B1 (B6 0 (A1 1)) (B6 1 (A1 2)))) n [some (.val (.int a)),some (.val (.int b)),x]
  = some (.nx [some (.val (.int (Nat.gcd a b))),some (.val (.int 0)),x']):=by
 intro b
 induction b using Nat.strongRecOn with
 | _ b ih =>
  intro a x
  by_cases hb:b=0
  ·subst hb
   refine⟨1,x,?_⟩
   rw [Nat.gcd_zero_right]
   rfl
  ·obtain⟨n,x',h⟩:=ih (a % b) (Nat.mod_lt _ (Nat.pos_of_ne_zero hb)) b (some (.val (.int ((a % b:Nat):Int))))
   refine⟨n+1,x',?_⟩
   have e1:tB2 neD (A1 1) (dC (.int 0)) [some (.val (.int a)),some (.val (.int b)),x]=some true:=by
    show(neD (.int b) (.int 0)).bind E4=some true
    rw [R8]
    have:((b:Int)==0)=false:=by simp;omega
    rw [this];rfl
   have e2:N9 (.int a) (.int b)=some (.int ((a % b:Nat):Int)):=by
    show(if(0:Int) < (b:Int) then some (PyData.int ((a:Int) % (b:Int))) else none)=_
    rw [if_pos (by omega)]
    simp
   have e3:B1 (B6 2 (A4 N9 (A1 0) (A1 1))) (B1 (B6 0 (A1 1)) (B6 1 (A1 2))) [some (.val (.int a)),some (.val (.int b)),x]=some (.nx [some (.val (.int b)),some (.val (.int ((a % b:Nat):Int))),some (.val (.int ((a % b:Nat):Int)))]):=by
    show((((N9 (.int a) (.int b))).map fun d=>Fl.nx [some (.val (.int a)),some (.val (.int b)),some (.val d)]).bind _)=_
    rw [e2]
    rfl
   rw [ax5 e1 e3,h,Nat.gcd_comm b,Nat.gcd_comm a b,← Nat.gcd_rec]
theorem aC1:∀(a b:Nat) (t u:D),∃n,L4 (tB2 gtI (A1 2) (dC (.int 0))) (X4 2 3 (A0 (A4 N9 (A1 3) (A1 2)) (A0 (A1 2) A3))) n [some (.val t),some (.val u),some (.val (.int a)),some (.val (.int b))]
  = some (.nx [some (.val t),some (.val u),some (.val (.int 0)),some (.val (.int (Nat.gcd a b)))]):=by
 intro a
 induction a using Nat.strongRecOn with
 | _ a ih =>
  intro b t u
  by_cases ha:a=0
  ·subst ha
   refine⟨1,?_⟩
   rw [Nat.gcd_zero_left]
   rfl
  ·obtain⟨n,h⟩:=ih (b % a) (Nat.mod_lt _ (Nat.pos_of_ne_zero ha)) a t u
   refine⟨n+1,?_⟩
   have e1:tB2 gtI (A1 2) (dC (.int 0)) [some (.val t),some (.val u),some (.val (.int a)),some (.val (.int b))]=some true:=by
    show some (decide ((0:Int) < (a:Int)))=some true
    rw [decide_eq_true (by omega)]
   have e2:N9 (.int b) (.int a)=some (.int ((b % a:Nat):Int)):=by
    show(if(0:Int) < (a:Int) then some (PyData.int ((b:Int) % (a:Int))) else none)=_
    rw [if_pos (by omega)]
    simp
   have e3:X4 2 3 (A0 (A4 N9 (A1 3) (A1 2)) (A0 (A1 2) A3)) [some (.val t),some (.val u),some (.val (.int a)),some (.val (.int b))]=some (.nx [some (.val t),some (.val u),some (.val (.int ((b % a:Nat):Int))),some (.val (.int a))]):=by
    show((N9 (.int b) (.int a)).bind fun d=>(some [PyData.int (a:Int)]).map fun ds=>d::ds).bind _=_
    rw [e2]
    rfl
   rw [ax5 e1 e3,h,← Nat.gcd_rec]
def fr(r:Rat):D:=.tuple [.int r.num,.int r.den]
theorem D9{i:Int}{k:Nat}(h:i.natAbs < 2 ^ k) (hk:k<=8000):C6 i:=Nat.lt_of_lt_of_le h (Nat.pow_le_pow_right (by decide) hk)
theorem aJ9(a b:Nat) (hb:0 < b):fr (mkRat a b)=.tuple [.int ((a / Nat.gcd a b:Nat):Int),.int ((b / Nat.gcd a b:Nat):Int)]:=by
 unfold fr
 rw [Rat.num_mkRat,Rat.den_mkRat,if_neg (by omega),if_neg (by omega)]
 have e:b.gcd (a:Int).natAbs=Nat.gcd a b:=by rw [Int.natAbs_natCast,Nat.gcd_comm]
 rw [e]
 simp
theorem aZ2(a b x k:Nat) (hb:0 < b) (hk:b < 2 ^ k) (hk8:k<=8000):R0 (.int x) (.int (Nat.gcd a b))=some (.int ((x / Nat.gcd a b:Nat):Int)):=by
 have g0:0 < Nat.gcd a b:=Nat.gcd_pos_of_pos_right _ hb
 have gs:C6 (Nat.gcd a b:Nat):=D9 (k:=k) (by rw [Int.natAbs_natCast];exact Nat.lt_of_le_of_lt (Nat.le_of_dvd hb (Nat.gcd_dvd_right a b)) hk) hk8
 show(if(0:Int) < ((Nat.gcd a b:Nat):Int)/\C6 (Nat.gcd a b:Nat) then some (PyData.int ((x:Int) / ((Nat.gcd a b:Nat):Int))) else none)=_
 rw [if_pos ⟨by omega,gs⟩]
 simp
theorem aQ7(a b k:Nat) (hb:0 < b) (hk:b < 2 ^ k) (hk8:k<=8000):T2 [.int a,.int b]=some (fr (mkRat a b)):=by
 have d:=fun x=>aZ2 a b x k hb hk hk8
 obtain⟨n,h⟩:=aC1 a b (.int a) (.int b)
 have e:e8 [some (.val (.int a)),some (.val (.int b)),none,none]=some (.rt (fr (mkRat a b))):=by
  rw [aJ9 a b hb]
  simp only [e8,B1,B6,A5,A0,A3,A1,xg0,xg1,xbs,xms,xw1,xw0,C8,C9,A4,d,aA3 h]
 show(e8 [some (.val (.int a)),some (.val (.int b)),none,none]).bind _=_
 rw [e];rfl
structure Bd (k:Nat) (r:Rat):Prop where
 nn:0<=r
 num:r.num.natAbs < 2 ^ k
 den:r.den < 2 ^ k
theorem Bd.mono{j k:Nat}{r:Rat}(h:Bd j r) (l:j<=k):Bd k r:=⟨h.nn,Nat.lt_of_lt_of_le h.num (Nat.pow_le_pow_right (by decide) l),Nat.lt_of_lt_of_le h.den (Nat.pow_le_pow_right (by decide) l)⟩
theorem Bd.nat{k:Nat}{r:Rat}(h:Bd k r):r.num=(r.num.natAbs:Int):=by
 have:=Rat.num_nonneg.mpr h.nn
 omega
theorem aJ8(a b:Nat):0<=mkRat (a:Int) b:=by
 rw [← Rat.num_nonneg,Rat.num_mkRat]
 split
 ·exact Int.le_refl _
 ·exact Int.ediv_nonneg (by omega) (by omega)
theorem Bd.of{a b k:Nat}(hb:0 < b) (h1:a < 2 ^ k) (h2:b < 2 ^ k):Bd k (mkRat a b):=by
 refine⟨aJ8 a b,?_,?_⟩
 ·rw [Rat.num_mkRat,if_neg (by omega)]
  rw [show((a:Int) / ((b.gcd (a:Int).natAbs:Nat):Int))=((a / b.gcd (a:Int).natAbs:Nat):Int) by simp,Int.natAbs_natCast]
  exact Nat.lt_of_le_of_lt (Nat.div_le_self _ _) h1
 ·rw [Rat.den_mkRat,if_neg (by omega)]
  exact Nat.lt_of_le_of_lt (Nat.div_le_self _ _) h2
theorem V6{a b j k:Nat}(h1:a < 2 ^ j) (h2:b < 2 ^ k):a*b < 2 ^ (j+k):=by
 rw [Nat.pow_add]
 exact Nat.mul_lt_mul'' h1 h2
theorem av1{j k:Nat}{r s:Rat}(hr:Bd j r) (hs:Bd k s):r*s=mkRat ((r.num.natAbs*s.num.natAbs:Nat):Int) (r.den*s.den):=by
 rw [Rat.mul_def,Rat.normalize_eq_mkRat,Int.natCast_mul,← hr.nat,← hs.nat]
theorem p6(r:Rat):0 < r.den:=Nat.pos_of_ne_zero r.den_nz
theorem Bd.mul{j k:Nat}{r s:Rat}(hr:Bd j r) (hs:Bd k s):Bd (j+k) (r*s):=by
 rw [av1 hr hs]
 exact Bd.of (Nat.mul_pos (p6 r) (p6 s)) (V6 hr.num hs.num) (V6 hr.den hs.den)
theorem Bd.one:Bd 1 1:=⟨by decide,by decide,by decide⟩
theorem Bd.zero:Bd 1 0:=⟨by decide,by decide,by decide⟩
theorem Bd.sn{k:Nat}{r:Rat}(h:Bd k r) (hk:k<=8000):C6 r.num:=D9 h.num hk
theorem Bd.sd{k:Nat}{r:Rat}(h:Bd k r) (hk:k<=8000):C6 r.den:=D9 (k:=k) (by rw [Int.natAbs_natCast];exact h.den) hk
theorem Q6{i j:Int}(h1:C6 i) (h2:C6 j):U3 (.int i) (.int j)=some (.int (i*j)):=by
 show(if C6 i/\C6 j then some (PyData.int (i*j)) else none)=_
 rw [if_pos ⟨h1,h2⟩]
theorem N5(i j:Int):Q3 (.int i) (.int j)=some (.int (i+j)):=rfl
theorem M5(i j:Int):aF8 (.int i) (.int j)=some (.int (i - j)):=rfl
theorem Y5(i j:Int):leI (.int i) (.int j)=some (.bool (decide (i<=j))):=rfl
theorem W5(a b:D):L2.atI [a,b] 0=some a:=rfl
theorem W4(a b:D):L2.atI [a,b] 1=some b:=rfl
theorem ix0{ρ:Rho}{i:Nat}{r:Rat}(h:ρ[i]? = some (some (.val (fr r)))):dIx (A6 i) (dC (.int 0)) ρ=some (.int r.num):=by
 simp only [dIx,A6,h,fr,dC,xbs,W5]
theorem ix1{ρ:Rho}{i:Nat}{r:Rat}(h:ρ[i]? = some (some (.val (fr r)))):dIx (A6 i) (dC (.int 1)) ρ=some (.int r.den):=by
 simp only [dIx,A6,h,fr,dC,xbs,W4]
theorem v0(x:Option B) (l:Rho):(x::l)[0]? = some x:=rfl
theorem v1(y x:Option B) (l:Rho):(y::x::l)[1]? = some x:=rfl
end Sh
set_option exponentiation.threshold 9000
namespace Sh
open PySem G L2
theorem S2(i j:Int):ltI (.int i) (.int j)=some (.bool (decide (i < j))):=rfl
theorem W0(i j:Int):gtI (.int i) (.int j)=some (.bool (decide (j < i))):=rfl
theorem ag3{α:Type}(x:α):List.replicate 0 x=[]:=rfl
theorem ag2{α:Type}(x:α):List.replicate 1 x=[x]:=rfl
theorem ag1{α:Type}(x:α):List.replicate 2 x=[x,x]:=rfl
theorem Z5(a b c d:D):Z4 [a,b,c,d] (some 1) none=[b,c,d]:=rfl
theorem c6(a b c d:D):L2.atI [a,b,c,d] 0=some a:=rfl
theorem c5(a b c d:D):L2.atI [a,b,c,d] 1=some b:=rfl
theorem Z9(a b c d:D):L2.atI [a,b,c,d] 2=some c:=rfl
theorem Z8(a b c d:D):L2.atI [a,b,c,d] 3=some d:=rfl
theorem d7(a b c:D):L2.atI [a,b,c] 0=some a:=rfl
theorem d6(a b c:D):L2.atI [a,b,c] 1=some b:=rfl
theorem d5(a b c:D):L2.atI [a,b,c] 2=some c:=rfl
theorem O3{n k:Nat}(h:n < 2 ^ k) (hk:k<=8000):C6 (n:Int):=D9 (k:=k) (by rw [Int.natAbs_natCast];exact h) hk
theorem ad6{i j:Int}(h:0 < j):N9 (.int i) (.int j)=some (.int (i % j)):=by
 show(if(0:Int) < j then some (PyData.int (i % j)) else none)=_
 rw [if_pos h]
theorem ae1{i j:Int}(h:0 < j) (s:C6 j):R0 (.int i) (.int j)=some (.int (i / j)):=by
 show(if(0:Int) < j/\C6 j then some (PyData.int (i / j)) else none)=_
 rw [if_pos ⟨h,s⟩]
theorem F7{g:DS}{n:Nat}{ds:List D}{ρ:Rho}{d:D}(h:M6 n ds=ρ) (e:g ρ=some (.rt d)):L9 g n ds=some d:=by
 unfold L9
 rw [h,e];rfl
theorem W6{j k:Nat}{r s:Rat}(hr:Bd j r) (hs:Bd k s) (l:j+k<=8000):U0 [fr r,fr s]=some (fr (r*s)):=by
 refine F7 (ρ:=[some (.val (fr r)),some (.val (fr s))]) rfl ?_
 simp only [ae8,C8,A5,A0,A3,A4,ix0 (v0 _ _),ix1 (v0 _ _),ix0 (v1 _ _ _),ix1 (v1 _ _ _),xbs,xms,Q6 (hr.sn (by omega)) (hs.sn (by omega)),Q6 (hr.sd (by omega)) (hs.sd (by omega))]
 have:=aQ7 (r.num.natAbs*s.num.natAbs) (r.den*s.den) (j+k) (Nat.mul_pos (p6 r) (p6 s)) (V6 hr.den hs.den) l
 rw [← av1 hr hs,Int.natCast_mul,Int.natCast_mul,← hr.nat,← hs.nat]at this
 rw [this];rfl
def ae3(ns:List Int) (k:Nat):Int:=if ns.length=0 then 7*(k:Int) else ns.getD (k % ns.length) 0+6553*((k / ns.length:Nat):Int)
theorem aP1(ns:List Int):eqD (.list (ns.map PyData.int)) (.list [])=some (.bool (decide (ns.length=0))):=by
 have h1:SeqAt.shaped (.list (ns.map PyData.int))=true:=by
  have c:∀l:List Int,PyData.canLayAll0 (l.map PyData.int)=true:=fun l=>by
   induction l with
   | nil=>rfl
   | cons a r ih=>simp only [xmc,PyData.canLayAll0,PyData.canLay0,ih];rfl
  have d:∀l:List Int,PyData.depthAll (l.map PyData.int)=0:=fun l=>by
   induction l with
   | nil=>rfl
   | cons a r ih=>simp only [xmc,PyData.depthAll,PyData.depth,ih];rfl
  unfold SeqAt.shaped
  simp only [PyData.canLay0,c,PyData.depth,d]
  rfl
 unfold eqD
 rw [if_pos ⟨h1,rfl⟩]
 cases ns with
 | nil=>rfl
 | cons a r=>simp [PyData.eqv,PyData.eqvAll]
theorem bq5(ns:List Int) (k:Nat) (hn:ns.length<=63) (hk:k < 2 ^ 60):e9 [.list (ns.map PyData.int),.int k]=some (.int (ae3 ns k)):=by
 refine F7 (ρ:=[some (.val (.list (ns.map PyData.int))),some (.val (.int k))]) rfl ?_
 have sk:C6 (k:Int):=O3 hk (by decide)
 by_cases h:ns.length=0
 ·have e:ae3 ns k=7*(k:Int):=by unfold ae3;rw [if_pos h]
  simp only [ab0,B1,B6,C8,sIf,E1,K1,P9,A1,dC,C9,E2,A4,A5,L6,T1,dOr,T0,F9,dIx,o5,M3,G3,U8,U7,U6,A6,qE,qN,P7,G1,E7,J6,A3,A0,P6,tB2,G9,G4,K0,U2,E4,D7,L7,R1,D2,C0,F2,B7,F8,J0,G2,Y8,Q9,xg0,xg1,xw0,xw1,xbs,xms,xmc,xmn,xna,xca,N5,M5,Y5,R8,O7,S2,W0,ag3,ag2,ag1,Z5,c6,c5,Z9,Z8,d7,d6,d5,W5,W4,xnt,xnf,xft,if_true,if_false,ite_true,ite_false,aP1,h,decide_true,Q6 (i:=7) (D9 (k:=3) (by decide) (by decide)) sk,e]
 ·have e:ae3 ns k=ns.getD (k % ns.length) 0+6553*((k / ns.length:Nat):Int):=by unfold ae3;rw [if_neg h]
  have hl:(List.map PyData.int ns).length=ns.length:=List.length_map ..
  have hp:0 < ns.length:=Nat.pos_of_ne_zero h
  have m1:N9 (.int k) (.int ns.length)=some (.int ((k % ns.length:Nat):Int)):=by rw [ad6 (by omega)];simp
  have m2:R0 (.int k) (.int ns.length)=some (.int ((k / ns.length:Nat):Int)):=by rw [ae1 (by omega) (O3 (k:=6) (by omega) (by decide))];simp
  have m3:L2.atI (List.map PyData.int ns) ((k % ns.length:Nat):Int)=some (.int (ns.getD (k % ns.length) 0)):=by
   refine L2.aZ7 ?_
   have hlt:k % ns.length < ns.length:=Nat.mod_lt _ hp
   rw [List.getElem?_map,List.getElem?_eq_getElem hlt]
   simp [List.getD,hlt]
  have sq:C6 ((k / ns.length:Nat):Int):=O3 (k:=60) (Nat.lt_of_le_of_lt (Nat.div_le_self _ _) hk) (by decide)
  simp only [ab0,B1,B6,C8,sIf,E1,K1,P9,A1,dC,C9,E2,A4,A5,L6,T1,dOr,T0,F9,dIx,o5,M3,G3,U8,U7,U6,A6,qE,qN,P7,G1,E7,J6,A3,A0,P6,tB2,G9,G4,K0,U2,E4,D7,L7,R1,D2,C0,F2,B7,F8,J0,G2,Y8,Q9,xg0,xg1,xw0,xw1,xbs,xms,xmc,xmn,xna,xca,N5,M5,Y5,R8,O7,S2,W0,ag3,ag2,ag1,Z5,c6,c5,Z9,Z8,d7,d6,d5,W5,W4,xnt,xnf,xft,if_true,if_false,ite_true,ite_false,aP1,h,decide_false,hl,m1,m2,m3,Q6 (i:=6553) (D9 (k:=13) (by decide) (by decide)) sq,e]
def Z1(ns:List Int) (k:Nat) (m:Int):Int :=
 let c:=(ae3 ns k % 2147483563*69069+104723*((k:Int)+1)) % 2147483563
 let c:=(c*c+c / 3) % 2147483399
 (c*c+c / 7) % 2147483647 / 11 % m
theorem u7{i:Int}(h0:0<=i) (h:i < 4294967296):C6 i:=D9 (k:=32) (by omega) (by decide)
theorem p9(ns:List Int) (k:Nat) (m:Int) (hn:ns.length<=63) (hk:k < 2 ^ 60) (hm:0 < m):D5 [.list (ns.map PyData.int),.int k,.int m]=some (.int (Z1 ns k m)):=by
 refine F7 (ρ:=[some (.val (.list (ns.map PyData.int))),some (.val (.int k)),some (.val (.int m)),none]) rfl ?_
 have c0:∀x:Int,C6 (x % 2147483563):=fun x=>u7 (by omega) (by omega)
 have c1:∀x:Int,C6 (x % 2147483399):=fun x=>u7 (by omega) (by omega)
 have sk:C6 ((k:Int)+1):=D9 (k:=61) (by omega) (by decide)
 have s1:C6 69069:=D9 (k:=17) (by decide) (by decide)
 have s2:C6 104723:=D9 (k:=17) (by decide) (by decide)
 have s3:C6 3:=D9 (k:=2) (by decide) (by decide)
 have s7:C6 7:=D9 (k:=3) (by decide) (by decide)
 have s11:C6 11:=D9 (k:=4) (by decide) (by decide)
 simp only [af0,B1,B6,C8,sIf,E1,K1,P9,A1,dC,C9,E2,A4,A5,L6,T1,dOr,T0,F9,dIx,o5,M3,G3,U8,U7,U6,A6,qE,qN,P7,G1,E7,J6,A3,A0,P6,tB2,G9,G4,K0,U2,E4,D7,L7,R1,D2,C0,F2,B7,F8,J0,G2,Y8,Q9,xg0,xg1,xw0,xw1,xbs,xms,xmc,xmn,xna,xca,N5,M5,Y5,R8,O7,S2,W0,ag3,ag2,ag1,Z5,c6,c5,Z9,Z8,d7,d6,d5,W5,W4,xnt,xnf,xft,if_true,if_false,ite_true,ite_false,bq5 ns k hn hk,ad6 (show(0:Int) < 2147483563 by decide),ad6 (show(0:Int) < 2147483399 by decide),ad6 (show(0:Int) < 2147483647 by decide),ad6 hm,Q6 (c0 _) s1,Q6 s2 sk,Q6 (c0 _) (c0 _),Q6 (c1 _) (c1 _),ae1 (show(0:Int) < 3 by decide) s3,ae1 (show(0:Int) < 7 by decide) s7,ae1 (show(0:Int) < 11 by decide) s11]
 rfl
theorem o9(ns:List Int) (k:Nat) (m:Int) (hm:0 < m):0<=Z1 ns k m/\Z1 ns k m < m:=by
 unfold Z1
 exact⟨Int.emod_nonneg _ (by omega),Int.emod_lt_of_pos _ hm⟩
structure IsSh (k:Nat) (r:Rat):Prop where
 bd:Bd k r
 le:r<=1
theorem aC3{a b:Nat}(hb:0 < b) (h:a<=b):mkRat (a:Int) b<=1:=by
 rw [Rat.le_iff,Rat.num_mkRat,Rat.den_mkRat,if_neg (by omega),if_neg (by omega)]
 have e0:(1:Rat).num=1:=rfl
 have e1:(1:Rat).den=1:=rfl
 rw [e0,e1]
 have:a / b.gcd a<=b / b.gcd a:=Nat.div_le_div_right h
 simp
 exact_mod_cast this
theorem p8(ns:List Int) (at':Nat) (hn:ns.length<=63) (hk:at' < 2 ^ 40):∃r,P0 [.list (ns.map PyData.int),.int at']=some (fr r)/\IsSh 4 r:=by
 obtain⟨u0,u1⟩:=o9 ns at' 12 (by decide)
 obtain⟨u,hu⟩:∃u:Nat,(1:Int)+Z1 ns at' 12=u/\0 < u/\u<=12:=⟨(1+Z1 ns at' 12).toNat,by omega,by omega,by omega⟩
 obtain⟨t0,t1⟩:=o9 ns (at'+1) ((u:Int)+1) (by omega)
 obtain⟨t,ht⟩:∃t:Nat,Z1 ns (at'+1) ((u:Int)+1)=t/\t<=u:=⟨(Z1 ns (at'+1) ((u:Int)+1)).toNat,by omega,by omega⟩
 obtain⟨p0,p1⟩:=o9 ns (at'+2) 5 (by decide)
 have hs:IsSh 4 (mkRat (t:Int) u):=⟨Bd.of (by omega) (by omega) (by omega),aC3 (by omega) (by omega)⟩
 have e1:=p9 ns at' 12 hn (by omega) (by decide)
 have e2:=p9 ns (at'+1) ((u:Int)+1) hn (by omega) (by omega)
 have e3:=p9 ns (at'+2) 5 hn (by omega) (by decide)
 have e4:=aQ7 t u 4 (by omega) (by omega) (by decide)
 have c1:((at':Int)+1)=((at'+1:Nat):Int):=by omega
 have c2:((at':Int)+2)=((at'+2:Nat):Int):=by omega
 rw [ht.1]at e2
 have pick:∀(j:Int),0<=j->j < 5->∃r,L2.atI [fr (mkRat (t:Int) u),fr (mkRat (t:Int) u),fr (mkRat (t:Int) u),.tuple [.int 0,.int 1],.tuple [.int 1,.int 1]] j=some (fr r)/\IsSh 4 r:=fun j h0 h5=>by
  have:j=0\/j=1\/j=2\/j=3\/j=4:=by omega
  rcases this with rfl|rfl|rfl|rfl|rfl
  ·exact⟨_,rfl,hs⟩
  ·exact⟨_,rfl,hs⟩
  ·exact⟨_,rfl,hs⟩
  ·exact⟨0,rfl,Bd.zero.mono (by decide),by decide⟩
  ·exact⟨1,rfl,Bd.one.mono (by decide),by decide⟩
 obtain⟨r,hr1,hr2⟩:=pick _ p0 p1
 refine⟨r,F7 (ρ:=[some (.val (.list (ns.map PyData.int))),some (.val (.int at')),none,none]) rfl ?_,hr2⟩
 simp only [ae9,B1,B6,C8,sIf,E1,K1,P9,A1,dC,C9,E2,A4,A5,L6,T1,dOr,T0,F9,dIx,o5,M3,G3,U8,U7,U6,A6,qE,qN,P7,G1,E7,J6,A3,A0,P6,tB2,G9,G4,K0,U2,E4,D7,L7,R1,D2,C0,F2,B7,F8,J0,G2,Y8,Q9,xg0,xg1,xw0,xw1,xbs,xms,xmc,xmn,xna,xca,N5,M5,Y5,R8,O7,S2,W0,ag3,ag2,ag1,Z5,c6,c5,Z9,Z8,d7,d6,d5,W5,W4,xnt,xnf,xft,if_true,if_false,ite_true,ite_false,e1,hu.1,c1,c2,e2,e3,e4,hr1]
def sp(c x y z:Rat):D:=.tuple [fr c,fr x,fr y,fr z]
structure Spot (k:Nat) (c x y z:Rat):Prop where
 hc:IsSh k c
 hx:Bd k x
 hy:Bd k y
 hz:Bd k z
 xc:x<=c
 yc:y<=c
 zc:z<=c
theorem IsSh.mono{j k:Nat}{r:Rat}(h:IsSh j r) (l:j<=k):IsSh k r:=⟨h.bd.mono l,h.le⟩
theorem R9{c r:Rat}(hc:0<=c) (hr:r<=1):c*r<=c:=by
 have:=Rat.mul_le_mul_of_nonneg_right hr hc
 grind
theorem bA4:N8 0 3=[.int 0,.int 1,.int 2]:=rfl
theorem bq4(ns:List Int) (k:Nat) (hn:ns.length<=63) (hk:k < 2 ^ 30):∃c x y z,M9 [.list (ns.map PyData.int),.int k]=some (sp c x y z)/\Spot 8 c x y z:=by
 obtain⟨c,ec,hc⟩:=p8 ns k hn (by omega)
 obtain⟨a0,e0,h0⟩:=p8 ns (k+3) hn (by omega)
 obtain⟨a1,e1,h1⟩:=p8 ns (k+6) hn (by omega)
 obtain⟨a2,e2,h2⟩:=p8 ns (k+9) hn (by omega)
 refine⟨c,c*a0,c*a1,c*a2,?_,⟨hc.mono (by decide),hc.bd.mul h0.bd,hc.bd.mul h1.bd,hc.bd.mul h2.bd,R9 hc.bd.nn h0.le,R9 hc.bd.nn h1.le,R9 hc.bd.nn h2.le⟩⟩
 refine F7 (ρ:=[some (.val (.list (ns.map PyData.int))),some (.val (.int k)),none]) rfl ?_
 have i0:(k:Int)+3+3*0=((k+3:Nat):Int):=by omega
 have i1:(k:Int)+3+3*1=((k+6:Nat):Int):=by omega
 have i2:(k:Int)+3+3*2=((k+9:Nat):Int):=by omega
 have s0:C6 0:=D9 (k:=2) (by decide) (by decide)
 have s1:C6 1:=D9 (k:=2) (by decide) (by decide)
 have s2:C6 2:=D9 (k:=2) (by decide) (by decide)
 have s3:C6 3:=D9 (k:=2) (by decide) (by decide)
 have m0:=Q6 s3 s0
 have m1:=Q6 s3 s1
 have m2:=Q6 s3 s2
 have r3:((-(2 ^ 62):Int)<=3/\(3:Int) < 2 ^ 62):=by decide
 have l3:([PyData.int 0,.int 1,.int 2]:List D).length<=16777216:=by decide
 have ct:∀a b c d:D,Q3 (.tuple [a]) (.tuple [b,c,d])=some (.tuple [a,b,c,d]):=fun a b c d=>rfl
 simp only [ao7,B1,B6,C8,sIf,E1,K1,P9,A1,dC,C9,E2,A4,A5,L6,T1,dOr,T0,F9,dIx,o5,M3,G3,U8,U7,U6,A6,qE,qN,P7,G1,E7,J6,A3,A0,P6,tB2,G9,G4,K0,U2,E4,D7,L7,R1,D2,C0,F2,B7,F8,J0,G2,Y8,Q9,xg0,xg1,xw0,xw1,xbs,xms,xmc,xmn,xna,xca,N5,M5,Y5,R8,O7,S2,W0,ag3,ag2,ag1,Z5,c6,c5,Z9,Z8,d7,d6,d5,W5,W4,xnt,xnf,xft,if_true,if_false,ite_true,ite_false,ec,r3,and_self,bA4,l3,m0,m1,m2,i0,i1,i2,e0,e1,e2,W6 hc.bd h0.bd (by decide),W6 hc.bd h1.bd (by decide),W6 hc.bd h2.bd (by decide),ct,sp]
end Sh
local macro_rules
  | `(tactic| wp_walk using evA) => `(tactic| simp only [G.B1, G.B6, G.C8, G.sIf, G.E1, G.K1, G.P9, G.A1, G.dC, G.C9, G.E2, G.A4, G.A5, G.L6, G.T1, G.dOr, G.T0, G.F9, G.dIx, G.o5, G.M3, G.G3, G.U8, G.U7, G.U6, G.A6, G.qE, G.qN, G.P7, G.G1, G.E7, G.J6, G.A3, G.A0, G.P6, G.tB2, G.G9, G.G4, G.K0, G.U2, G.E4, G.D7, G.L7, G.R1, G.D2, G.C0, G.F2, G.B7, G.F8, G.J0, G.G2, G.Y8, G.Q9, G.xg0, G.xg1, G.xw0, G.xw1, G.xbs, G.xms, G.xmc, G.xmn, G.xna, G.xca, Sh.N5, Sh.M5, Sh.Y5, Sh.R8, Sh.O7, Sh.S2, Sh.W0, Sh.ag3, Sh.ag2, Sh.ag1, Sh.Z5, Sh.c6, Sh.c5, Sh.Z9, Sh.Z8, Sh.d7, Sh.d6, Sh.d5, Sh.W5, Sh.W4, G.xnt, G.xnf, G.xft, if_true, if_false, ite_true, ite_false])
  | `(tactic| wp_walk using evA, $ts,*) => `(tactic| simp only [G.B1, G.B6, G.C8, G.sIf, G.E1, G.K1, G.P9, G.A1, G.dC, G.C9, G.E2, G.A4, G.A5, G.L6, G.T1, G.dOr, G.T0, G.F9, G.dIx, G.o5, G.M3, G.G3, G.U8, G.U7, G.U6, G.A6, G.qE, G.qN, G.P7, G.G1, G.E7, G.J6, G.A3, G.A0, G.P6, G.tB2, G.G9, G.G4, G.K0, G.U2, G.E4, G.D7, G.L7, G.R1, G.D2, G.C0, G.F2, G.B7, G.F8, G.J0, G.G2, G.Y8, G.Q9, G.xg0, G.xg1, G.xw0, G.xw1, G.xbs, G.xms, G.xmc, G.xmn, G.xna, G.xca, Sh.N5, Sh.M5, Sh.Y5, Sh.R8, Sh.O7, Sh.S2, Sh.W0, Sh.ag3, Sh.ag2, Sh.ag1, Sh.Z5, Sh.c6, Sh.c5, Sh.Z9, Sh.Z8, Sh.d7, Sh.d6, Sh.d5, Sh.W5, Sh.W4, G.xnt, G.xnf, G.xft, if_true, if_false, ite_true, ite_false, $[$ts:term],*])
local macro_rules
  | `(tactic| wp_walk using evB) => `(tactic| simp only [G.B1, G.B6, G.C8, G.sIf, G.E1, G.K1, G.P9, G.A1, G.dC, G.C9, G.E2, G.A4, G.A5, G.T1, G.dOr, G.T0, G.F9, G.dIx, G.M3, G.G3, G.U8, G.U7, G.U6, G.A6, G.qE, G.qN, G.P7, G.G1, G.E7, G.J6, G.A3, G.A0, G.P6, G.tB2, G.G9, G.G4, G.K0, G.U2, G.E4, G.D2, G.C0, G.F2, G.B7, G.F8, G.J0, G.Q9, G.xg0, G.xg1, G.xw0, G.xw1, G.xbs, G.xms, G.xmc, G.xmn, G.xna, G.xca, Sh.N5, Sh.M5, Sh.Y5, Sh.R8, Sh.O7, Sh.S2, Sh.W0, Sh.c6, Sh.c5, Sh.Z9, Sh.Z8, Sh.d7, Sh.d6, Sh.d5, Sh.W5, Sh.W4, G.xnt, G.xnf, G.xft, if_true, if_false])
  | `(tactic| wp_walk using evB, $ts,*) => `(tactic| simp only [G.B1, G.B6, G.C8, G.sIf, G.E1, G.K1, G.P9, G.A1, G.dC, G.C9, G.E2, G.A4, G.A5, G.T1, G.dOr, G.T0, G.F9, G.dIx, G.M3, G.G3, G.U8, G.U7, G.U6, G.A6, G.qE, G.qN, G.P7, G.G1, G.E7, G.J6, G.A3, G.A0, G.P6, G.tB2, G.G9, G.G4, G.K0, G.U2, G.E4, G.D2, G.C0, G.F2, G.B7, G.F8, G.J0, G.Q9, G.xg0, G.xg1, G.xw0, G.xw1, G.xbs, G.xms, G.xmc, G.xmn, G.xna, G.xca, Sh.N5, Sh.M5, Sh.Y5, Sh.R8, Sh.O7, Sh.S2, Sh.W0, Sh.c6, Sh.c5, Sh.Z9, Sh.Z8, Sh.d7, Sh.d6, Sh.d5, Sh.W5, Sh.W4, G.xnt, G.xnf, G.xft, if_true, if_false, $[$ts:term],*])
namespace Sh
open PySem G L2
inductive Man where
 | over|mult|screen|plus|atop|cut
inductive Rul where
 | turn|grey|round
end Sh
namespace G
open PySem PySem.Spec PyProof.Rows L2
section
variable {prog:Program}{w:World}{A:Around}{E:Value->Shared->Prop}{s:Shared}
theorem at3(n:Nat):Builtin.Slice.sliceAdjust none none (-1) (n:Int)=((n:Int) - 1,-1):=by
 unfold Builtin.Slice.sliceAdjust
 have h1:(-1:Int) < 0:=by omega
 simp only [h1,if_true]
theorem aq7(n:Nat):Builtin.Slice.slicePlaces ((n:Int) - 1) (-1) (-1)=n:=by
 unfold Builtin.Slice.slicePlaces
 have h1:¬(-1:Int) > 0:=by omega
 have h2:-(-1:Int)=1:=by omega
 simp only [h1,if_false,h2,Int.ediv_one]
 split<;>omega
theorem g7{sl:Addr}{t:Tok}{n:Nat}{Q:Int×Int×Nat->Shared->Prop}(hs:s.heap.IsSliceOf sl .none .none (.int (-1) t))
  (h:Q ((n:Int) - 1,-1,n) s):wpAny (model prog w) A (Builtin.Slice.sliceApplied (.ref sl) (pure (n:Int))) Q E s:=by
 obtain⟨os,hos,hcs,hds⟩:=id hs
 unfold Builtin.Slice.sliceApplied Builtin.Slice.sliceFields
 refine wpAny_bind (wpAny_bind (wpAny_field hos hds (x:=.none) rfl (wpAny_bind (wpAny_field hos hds (x:=.none) rfl (wpAny_bind (wpAny_field hos hds (x:=.int (-1) t) rfl (wpAny_pure ?_)))))))
 refine wpAny_bind (slicePart_int ?_)
 show wpAny _ _ (if((-1:Int)==0)=true then _ else _) _ _ s
 rw [if_neg (by decide)]
 refine wpAny_bind (slicePart_none (wpAny_bind (slicePart_none (wpAny_bind (wpAny_pure ?_)))))
 show wpAny _ _ (match Builtin.Slice.sliceAdjust none none (-1) (n:Int) with|(lo,hi)=>pure (lo,(-1:Int),Builtin.Slice.slicePlaces lo hi (-1))) _ _ s
 rw [at3 n]
 show wpAny _ _ (pure ((n:Int) - 1,(-1:Int),Builtin.Slice.slicePlaces ((n:Int) - 1) (-1) (-1))) _ _ s
 rw [aq7]
 exact wpAny_pure h
theorem al3{α:Type}:∀l:List α,(List.range l.length).filterMap (fun k=>l[k]?)=l
 | []=>rfl
 | a::l=>by
  rw [List.length_cons,List.range_succ_eq_map,List.filterMap_cons,List.filterMap_map]
  simp only [xg0]
  congr 1
  exact al3 l
theorem an4{α β:Type}{f g:α->Option β}:∀{l:List α},(∀x∈l,f x=g x)->l.filterMap f=l.filterMap g
 | [],_=>rfl
 | a::l,h=>by rw [List.filterMap_cons,List.filterMap_cons,h a (List.mem_cons_self ..),an4 fun x hx=>h x (List.mem_cons_of_mem _ hx)]
theorem aH5(xs:Array Value):((List.range xs.size).filterMap fun(k:Nat)=>xs[(((xs.size:Int) - 1)+(k:Int) * -1).toNat]?).toArray=xs.toList.reverse.toArray:=by
 congr 1
 have e:∀k∈List.range xs.size,xs[(((xs.size:Int) - 1)+(k:Int) * -1).toNat]? = xs.toList.reverse[k]?:=by
  intro k hk
  have hk:=List.mem_range.mp hk
  have:(((xs.size:Int) - 1)+(k:Int) * -1).toNat=xs.size - 1 - k:=by omega
  rw [this,List.getElem?_reverse (by rw [Array.length_toList];exact hk),Array.length_toList,Array.getElem?_toList]
 rw [an4 e]
 have:=al3 xs.toList.reverse
 rw [List.length_reverse,Array.length_toList]at this
 exact this
theorem Y9{t sl:Addr}{items:Array Value}{k:Tok}{Q:Value->Shared->Prop}(ht:IsTup s.heap t items) (hs:s.heap.IsSliceOf sl .none .none (.int (-1) k))
  (h:Q (.ref s.heap.objs.size) { s with heap:=s.heap.push { cls:=.type "tuple", data:=.seq items.toList.reverse.toArray } })
  (hsz:items.size<=sizeLine):wpAny (model prog w) A (getItem (.ref t) (.ref sl)) Q E s:=by
 have htake:sizeOk (.seq items.toList.reverse.toArray):=by
  show items.toList.reverse.toArray.size<=sizeLine
  rw [List.size_toArray,List.length_reverse,Array.length_toList]
  omega
 obtain⟨os,hos,hcs,hds⟩:=id hs
 have hTs:s.TypeIs (.ref sl) "slice" := ⟨os,hos,hcs⟩
 unfold getItem
 try with_reducible refine wpAny_holding ?_
 first|refine wpAny_bind (wpAny_pure ?_)|skip
 refine wpAny_bind (wpAny_sequenceKey ht.typeIs (by decide) ?_)
 refine wpAny_bind (wpAny_callSpecial?_slot (name:=Str.ofString "__getitem__") ht.typeIs PyProof.Rows.slot_tuple_getitem
  (wpAny_call_entry PyProof.Rows.slot_tuple_getitem ht.typeIs entry_tuple_getitem ?_ (args_tuple_getitem _ _)))
 show wpAny _ _ (Builtin.Tuple.tupleItemsOf (.ref t) >>= _) _ _ s
 refine wpAny_bind (tupleItemsOf_ ht ?_)
 refine wpAny_bind (wpAny_typeOf hTs ?_)
 rw [if_pos (by decide)]
 refine wpAny_bind (g7 hs ?_)
 have hno:¬((((items.size:Int) - 1)==0&&(-1:Int)==1&&items.size==items.size)=true):=by
  have:((-1:Int)==1)=false:=rfl
  rw [this];simp
 show wpAny _ _ (if(((items.size:Int) - 1)==0&&(-1:Int)==1&&items.size==items.size)=true then _ else _) _ _ s
 rw [if_neg hno,aH5]
 first
  | exact wpAny_bind (m:=Builtin.Tuple.tupleExact _) (wpAny_newObj_type (wpAny_pure ⟨_,rfl,wpAny_pure h⟩) htake)
  | exact wpAny_bind (m:=Builtin.Tuple.tupleExact _) (wpAny_newObj_type (wpAny_bind (wpAny_pure (wpAny_pure ⟨_,rfl,wpAny_pure h⟩))) htake)
  | exact wpAny_bind (wpAny_bind (m:=Builtin.Tuple.tupleExact _) (wpAny_newObj_type (wpAny_pure (wpAny_pure ⟨_,rfl,wpAny_pure h⟩)) htake))
  | exact wpAny_bind (wpAny_bind (m:=Builtin.Tuple.tupleExact _) (wpAny_newObj_type (wpAny_pure ⟨_,rfl,wpAny_pure h⟩) htake))
end
section
variable {X:Cx}{e st:Expr}{te ts:TE}{p2 pos:Pos}
theorem aj8:∀{xs:List V}{us:List Value},C3 xs us->C3 xs.reverse us.reverse
 | [],[],h=>h
 | x::xs,u::us,h=>by
  cases h with
  | cons a b=>rw [List.reverse_cons,List.reverse_cons];exact(aj8 b).append (.cons a .nil)
theorem bh9(he:PE X e te) (hs:PE X st ts):PE X (.Subscript e (.Slice none none (some st) p2) pos)
  (fun σ H Q=>te σ H fun x H1=>ts σ H1 fun y H2=>∃a xs,x=.ref a/\y=.int (-1)/\SqT X.K H2 a xs/\∀p,H2 p=none->Q (.ref p) (upd H2 p (.tup xs.reverse))):=by
 intro pins s σ H Q I h
 refine Subscript_ (thn (he pins s σ H _ I h) fun v s1 ⟨x,H1,I1,r1,q1⟩=>?_)
 refine wpAny_Slice ?_
 rw [evalPart_none]
 refine wpAny_pure (wpAny_pure ?_)
 rw [evalPart_some]
 refine thn (hs pins s1 σ H1 _ I1 q1) fun vs s3 ⟨y,H3,I3,r3,a,xs,e1,e2,hx,q⟩=>?_
 subst e1 e2
 cases r1
 obtain⟨tk,rfl⟩:=r3
 have I4:Inv X pins σ H3 { s3 with heap:=s3.heap.push { cls:=.type "slice", data:=.fields #[.none,.none,.int (-1) tk] } }:=I3.kept (t':=s3.toks) fun b ob q=>Heap.get?_push_of_some _ q
 obtain⟨its,r,ht,hz⟩:=I4.tuple hx
 have hlen:its.toArray.size=xs.length:=by rw [List.size_toArray];exact r.length.symm
 show wpAny (model X.prog X.w) X.A (subscriptTail e (.Slice none none (some st) p2) (.ref a) (.ref s3.heap.objs.size)) (EP X pins σ Q) X.xe { s3 with heap:=s3.heap.push { cls:=.type "slice", data:=.fields #[.none,.none,.int (-1) tk] } }
 refine tail_any (ops:=[.ref a,.ref s3.heap.objs.size]) ht.typeIs PyProof.Rows.slot_tuple_getitem.lookup ?_ (by with_unfolding_all rfl)
 refine Y9 ht (Heap.IsSliceOf.new ..) ?_ (by rw [hlen];exact hz)
 refine⟨.ref _,_,I4.laid (t':=s3.toks) (o:=.tup xs.reverse) (fun b ob q=>Heap.get?_push_of_some _ q) (Nat.le_refl _) ?_,rfl,q _ (I4.hok.fresh (Nat.le_refl _))⟩
 exact⟨by rw [List.length_reverse];exact hz,_,aj8 r,aa8.new _ _⟩
theorem aG8{K:PySem.W.Frag}{H:Hp}{ds:List D}{vs:List V}(h:Reps K H ds vs):Reps K H ds.reverse vs.reverse:=by
 induction ds generalizing vs with
 | nil=>cases vs with
  | nil=>exact h
  | cons _ _=>exact absurd h.length (by simp)
 | cons d ds ih=>cases vs with
  | nil=>exact absurd h.length (by simp)
  | cons v vs =>
   obtain⟨v',r',e,h1,h2⟩:=h
   cases e
   rw [List.reverse_cons,List.reverse_cons]
   exact(ih h2).append ⟨_,_,rfl,h1,rfl⟩
theorem aX8{a st:Expr}{f:DE}{pos p2:Pos}(ha:JE X a f) (hs:JE X st (ao0 (dC (.int 1)))):JE X (.Subscript a (.Slice none none (some st) p2) pos) (bb8 f):=fun ρ d q=>by
 obtain⟨x,e1,q⟩:=Option.bind_eq_some_iff.mp q
 cases x with
 | tuple xs =>
  cases q
  refine B2 (bh9 (ha ρ _ e1) (hs ρ (.int (-1)) rfl)) fun σ H Q ⟨H0,Hf,s,sl,k⟩=>?_
  refine⟨H0,Hf,s,sl,fun v H1 Hf1 g1 ⟨p,vs,q1,q2,q3⟩=>⟨H0,Hf1,g1.sub,sl.grow g1,fun u H2 Hf2 g2 r2=>?_⟩⟩
  subst q1
  cases r2
  have q2':=B9 g2.ext q2
  have q3':=q3.mono g2.ext
  refine⟨p,vs,rfl,rfl,B9 g2.sub q2',fun p' hp=>?_⟩
  exact k _ _ _ ((g1.trans g2).trans (Grow.laid g2.sub hp)) ⟨p',_,rfl,SqT.of B0,(aG8 q3').mono (C5 (g2.sub.free hp))⟩
 | _=>cases q
end
end G
namespace Sh
open PySem PySem.Spec PyProof.Rows L2 G
end Sh
namespace Sh
open PySem G L2
theorem cat_tup{xs ys:List D}(h:xs.length+ys.length<=16777216):Q3 (.tuple xs) (.tuple ys)=some (.tuple (xs++ys)):=if_pos h
theorem z3(a b c d e f:D):(List.zip [a,b,c] [d,e,f]).map (fun(x,y)=>PyData.tuple [x,y])=[.tuple [a,d],.tuple [b,e],.tuple [c,f]]:=rfl
end Sh
namespace G
open PySem PySem.Spec PyProof.Rows L2
section
variable {X:Cx}
def atS(x:Str) (i:Int):Option D:=if x.length<=16777216 then(atI x.cps.toList i).map fun c=>.str ⟨#[c]⟩ else none
def by3(f g:DE):DE:=fun ρ=>(f ρ).bind fun x=>(g ρ).bind fun i=>match x,i with
 | .str x,.int i=>atS x i
 | _,_=>none
theorem bn2{a b:Expr}{f g:DE}{pos:Pos}(ha:JE X a f) (hb:JE X b g) (hs:Q5 b:=by intro _ _;rfl):JE X (.Subscript a b pos) (by3 f g):=fun ρ d q=>by
 obtain⟨x,h1,q⟩:=Option.bind_eq_some_iff.mp q
 obtain⟨y,h2,h3⟩:=Option.bind_eq_some_iff.mp q
 split at h3
 ·rename_i x i
  unfold atS at h3
  split at h3
  ·rename_i hz
   obtain⟨c,e1,e2⟩:=Option.map_eq_some_iff.mp h3
   subst e2
   refine B2 (aH9 aN3 (ha ρ _ h1) (hb ρ _ h2) hs) fun σ H Q ⟨H0,Hf,s,sl,k⟩=>?_
   refine⟨H0,Hf,s,sl,fun v H1 Hf1 g1 r1=>⟨H0,Hf1,g1.sub,sl.grow g1,fun u H2 Hf2 g2 r2=>?_⟩⟩
   exact .inr (.inr ⟨x,i,c,r1,r2,by rw [sizeLine_eq];exact hz,e1,k _ H2 Hf2 (g1.trans g2) rfl⟩)
  ·cases h3
 ·cases h3
def U5(f:DE) (lo hi:Rho->Option (Option Int)):DE:=fun ρ=>(f ρ).bind fun d=>(lo ρ).bind fun l=>(hi ρ).bind fun h=>match d with
 | .tuple xs=>some (.tuple (Z4 xs l h))
 | .list xs=>some (.list (Z4 xs l h))
 | _=>none
theorem bm9{a:Expr}{lo hi:Option Expr}{f:DE}{l h:Rho->Option (Option Int)}{pos p2:Pos}(ha:JE X a f) (hl:JO X lo l) (hh:JO X hi h):JE X (.Subscript a (.Slice lo hi none p2) pos) (U5 f l h):=fun ρ d q=>by
 obtain⟨x,e1,q⟩:=Option.bind_eq_some_iff.mp q
 obtain⟨y,e2,q⟩:=Option.bind_eq_some_iff.mp q
 obtain⟨z,e3,q⟩:=Option.bind_eq_some_iff.mp q
 cases x with
 | tuple xs =>
  cases q
  refine aM0 ha hl hh ρ _ ?_
  unfold o5
  rw [e1,xbs,e2,xbs,e3,xbs]
 | list xs =>
  cases q
  refine B2 (Y1 au0 (ha ρ _ e1) (hl ρ y e2) (hh ρ z e3)) fun σ H Q ⟨H0,Hf,s,sl,k⟩=>?_
  refine⟨H0,Hf,s,sl,fun v H1 Hf1 g1 ⟨p,vs,q1,q2,q3⟩=>⟨H0,Hf1,g1.sub,sl.grow g1,fun H2 Hf2 g2=>⟨H0,Hf2,g2.sub,sl.grow (g1.trans g2),fun H3 Hf3 g3=>?_⟩⟩⟩
  subst q1
  have q2':=D1 (g2.trans g3).ext q2
  have q3':=q3.mono (g2.trans g3).ext
  refine⟨p,vs,rfl,D1 g3.sub q2',fun p' hp=>?_⟩
  exact k _ _ _ (((g1.trans g2).trans g3).trans (Grow.laid g3.sub hp)) ⟨p',_,rfl,SqL.of B0,(w6 q3' y z).mono (C5 (g3.sub.free hp))⟩
 | _=>cases q
end
section
variable {X:Cx}
theorem at9:∀{ys:List Str}{us:List Value},C3 (ys.map V.str) us->∃l:List (Str×Tok),us=strValues l/\l.map (·.1)=ys
 | [],[],_=>⟨[],rfl,rfl⟩
 | y::ys,u::us,h=>by
  cases h with
  | cons a b =>
   obtain⟨t,rfl⟩:=a
   obtain⟨l,rfl,rfl⟩:=at9 b
   exact⟨(y,t)::l,rfl,rfl⟩
def ai1(sep:Str) (ys:List Str):Nat:=ys.toArray.foldl (fun n y=>n+y.length+sep.length) 0
def bt6(K:PySem.W.Frag):V->List V->Hp->VK->Prop:=fun x vs H Q=>∃sep p ys,x=.str sep/\vs=[.ref p]/\SqL K H p (ys.map V.str)/\ai1 sep ys<=sizeLine/\(Builtin.Str.glued sep ys).length<=sizeLine/\Q (.str (Builtin.Str.glued sep ys)) H
theorem aV7:MtR X "str.join" (bt6 X.K):=by
 intro pins s σ H x vs v us Q I rx rv h
 obtain⟨sep,p,ys,rfl,rfl,hq,hz,hg,q⟩:=h
 obtain⟨t,rfl⟩:=rx
 obtain⟨u,rfl,ru⟩:=rv.one
 cases ru
 obtain⟨its,r,pl,_⟩:=I.list hq
 obtain⟨l,rfl,rfl⟩:=at9 r
 refine call_meets F.slot_str_join (typeIs_str s sep t) F.entry_str_join (F.args_str_join_2 _ _) (meets_str_join_list sep t p l ?_) ⟨pl.isList,?_⟩
 ·show decide (ai1 sep (l.map (·.1)) > sizeLine)=false
  exact decide_eq_false (by omega)
 ·match l,q,hg with
  | [],q,hg=>exact⟨hg,.str _,H,I.tok _,⟨_,rfl⟩,q⟩
  | [a],q,_=>exact⟨.str _,H,I,⟨_,rfl⟩,q⟩
  | a::b::r,q,hg=>exact⟨hg,.str _,H,I.tok _,⟨_,rfl⟩,q⟩
def aG0:List D->Option (List Str)
 | []=>some []
 | .str x::r=>(aG0 r).map fun ys=>x::ys
 | _::_=>none
theorem ad0{K:PySem.W.Frag}{H:Hp}:∀{ds:List D}{ys:List Str}{vs:List V},aG0 ds=some ys->Reps K H ds vs->vs=ys.map V.str
 | [],ys,vs,h,r=>by cases h;exact r
 | .str x::ds,ys,vs,h,r=>by
  obtain⟨zs,e1,e2⟩:=Option.map_eq_some_iff.mp h
  subst e2
  obtain⟨v,r',e,h1,h2⟩:=r
  subst e
  rw [ad0 e1 h2]
  cases h1
  rfl
def bb9(f:DE) (g:Rho->Option (Bool×List D)):DE:=fun ρ=>(f ρ).bind fun s=>(g ρ).bind fun q=>match s with
 | .str sep=>if q.1=true then none else(aG0 q.2).bind fun ys=>if ai1 sep ys<=16777216/\(Builtin.Str.glued sep ys).length<=16777216 then some (.str (Builtin.Str.glued sep ys)) else none
 | _=>none
theorem aY0{o e:Expr}{f:DE}{g:Rho->Option (Bool×List D)}{apos cpos:Pos}(ho:JE X o f) (h:JQ X e g)
  (hbase:attributeBase o "join" X.env (eval o X.env)=eval o X.env:=by rfl)
  (hfew:((backTo cpos (starEach [e] X.env)).all (fun x=>!x.1)&&(backToKw cpos (keywordEach [] X.env)).all (fun x=>x.1.isSome)
   && decide (([e]:List Expr).length+([]:List Keyword).length+(if([]:List Keyword).isEmpty then 0 else 1) < 30))=true:=by rfl)
  (hline:(apos.endLine==cpos.line)=true:=by rfl) (hs:starEach [e] X.env=[(false,eval e X.env)]:=by rfl) :
  JE X (.Call (.Attribute o "join" apos) [e] [] cpos) (bb9 f g):=fun ρ d q=>by
 obtain⟨s,e1,q⟩:=Option.bind_eq_some_iff.mp q
 obtain⟨⟨t,ds⟩,e2,q⟩:=Option.bind_eq_some_iff.mp q
 cases s with
 | str sep =>
  cases t with
  | true=>simp at q
  | false =>
   simp only [xft,if_false]at q
   obtain⟨ys,e3,q⟩:=Option.bind_eq_some_iff.mp q
   split at q
   ·rename_i hz
    cases q
    refine B2 (av7 F.plainAttrs_str F.slot_str_join F.type_str_join aV7 (ho ρ _ e1) (C7 (h ρ false ds e2) E8 hs) hbase hfew hline hs) fun σ H Q ⟨H0,Hf,s,sl,k⟩=>?_
    refine⟨H0,Hf,s,sl,fun v H1 Hf1 g1 r1=>?_⟩
    cases r1
    refine⟨rfl,H0,Hf1,g1.sub,sl.grow g1,fun w H2 Hf2 g2 ⟨p,vs,z1,z2,z3⟩=>?_⟩
    subst z1
    rw [ad0 e3 z3]at z2
    exact⟨sep,p,ys,rfl,rfl,z2,by rw [sizeLine_eq];exact hz.1,by rw [sizeLine_eq];exact hz.2,k _ H2 Hf2 (g1.trans g2) rfl⟩
   ·cases q
 | _=>cases q
end
section
open PySem.SeqAt PySem.MeetsSeq PySem.MeetsSeq2 PySem.MeetsSeq3 PySem.SeqRoads2
open PySem.AutoSeq1 (wpAny_loadPart')
theorem r6(l:Addr) (items:Array Value) (n:Nat) (dd:Option Addr) (sl:Array (Option Value)) (x:Value) (e:Nat->Bool) :
  Meets (Builtin.«tuple.__contains__» ⟨[.ref l,x],[]⟩)
   (fun A R s=>s.heap.get? l=some { cls:=.type "tuple", dict:=dd,data:=.seq items n,slots:=sl }/\(∀j (h:j < items.size),EqAt A.in1 s items[j] x (e j))/\R (.ok (.ret (.bool ((List.range items.size).any e)))) s) :=
 .of_wp fun prog w A R s h=>by
  obtain⟨hp,g,d,tk,os⟩:=s;obtain⟨hl,he,h⟩:=h
  wp_walk using wpAny_loadPart' hl,wpAny_forIn_array _ (fun J4 b s'=>b.1=none/\s'=⟨hp,g,d,tk,os⟩/\∃i,J4=items.toList.drop i/\R (.ok (.ret (.bool (((List.range items.size).drop i).any e)))) ⟨hp,g,d,tk,os⟩) _
  case turn =>
   rintro y J4 b s' ⟨hb,rfl,i,hz,hR⟩
   have hlt:i < items.toList.length:=by
    rcases Nat.lt_or_ge i items.toList.length with h'|h'
    ·exact h'
    ·rw [List.drop_of_length_le h']at hz;cases hz
   have hi:i < items.size:=by simpa using hlt
   rw [List.drop_eq_getElem_cons hlt]at hz
   injection hz with hy hrest
   have hy:y=items[i]:=by simpa using hy
   subst hy
   have hd:(List.range items.size).drop i=i::(List.range items.size).drop (i+1):=by simp [List.drop_eq_getElem_cons,hi]
   rw [hd,List.any_cons]at hR
   refine wpAny_bind (he i hi prog w _ _ ?_)
   cases hy:e i with
   | true =>
    rw [hy]at hR
    wp_walk
    exact⟨_,rfl,by simpa using hR⟩
   | false =>
    rw [hy]at hR
    wp_walk
    exact⟨rfl,rfl,i+1,hrest,by simpa using hR⟩
  case fin =>
   rintro⟨b1,b2⟩ s' ⟨hb,rfl,i,hz,hR⟩
   simp only at hb
   subst hb
   have hge:items.size<=i:=by
    rcases Nat.lt_or_ge i items.toList.length with h'|h'
    ·rw [List.drop_eq_getElem_cons h']at hz;cases hz
    ·simpa using h'
   rw [List.drop_of_length_le (by simpa using hge)]at hR
   wp_walk
   exact⟨_,rfl,by simpa using hR⟩
  case h =>
   exact⟨rfl,rfl,0,by simp,by simpa using h⟩
end
section
variable {X:Cx}
def M0:D->Bool
 | .none=>true
 | .bool _=>true
 | .int _=>true
 | .str _=>true
 | _=>false
def toV:D->V
 | .none=>.non
 | .bool b=>.bl b
 | .int i=>.int i
 | .str x=>.str x
 | _=>.non
theorem K2{K:PySem.W.Frag}{H:Hp}{d:D}{v:V}(f:M0 d=true) (r:Rep K H d v):v=toV d/\V1 v=true:=by
 cases d with
 | none=>cases r;exact⟨rfl,rfl⟩
 | bool b=>cases r;exact⟨rfl,rfl⟩
 | int i=>cases r;exact⟨rfl,rfl⟩
 | str x=>cases r;exact⟨rfl,rfl⟩
 | tuple _=>cases f
 | list _=>cases f
 | dict _=>cases f
theorem T7{K:PySem.W.Frag}{H:Hp}:∀{ds:List D}{vs:List V},ds.all M0=true->Reps K H ds vs->vs=ds.map toV/\vs.all V1=true
 | [],vs,_,r=>by cases(show vs=[] from r);exact⟨rfl,rfl⟩
 | d::ds,vs,f,r=>by
  rw [List.all_cons,Bool.and_eq_true]at f
  obtain⟨v,r',e,h1,h2⟩:=r
  subst e
  obtain⟨e1,e2⟩:=K2 f.1 h1
  obtain⟨e3,e4⟩:=T7 f.2 h2
  subst e1 e3
  exact⟨rfl,by rw [List.all_cons,e2,e4];rfl⟩
def isS:D->Bool
 | .str _=>true
 | _=>false
def inD(neg:Bool) (x y:D):Option D:=match y with
 | .list ds=>if M0 x=true/\ds.all M0=true then some (.bool (if neg then !inV (toV x) (ds.map toV) else inV (toV x) (ds.map toV))) else none
 | .tuple ds=>if M0 x=true/\ds.all M0=true then some (.bool (if neg then !inV (toV x) (ds.map toV) else inV (toV x) (ds.map toV))) else if M0 x=false/\SeqAt.shaped x=true/\ds.all isS=true then some (.bool neg) else if SeqAt.shaped x=true/\x.depth<=60/\ds.all SeqAt.shaped=true then some (.bool (if neg then !(ds.any fun y=>PyData.eqv y x) else ds.any fun y=>PyData.eqv y x)) else none
 | _=>none
theorem aY6{A:Around}{s:Shared}{x:D}{v:Value}{as:List Addr}(f:M0 x=false) (sh:SeqAt.shaped x=true) (r:Reads s.heap v x as) (hu:A.units < cLine) (a:Str) (t:Tok):SeqAt.EqAt A s (.str a t) v false:=by
 cases r with
 | none=>cases f
 | bool _=>cases f
 | int _ _=>cases f
 | str _ _=>cases f
 | list h1 h2 h3 _=>exact SeqAt.EqAt.str_list a t ⟨_,h1,h2,_,h3⟩ hu
 | tuple h1 h2 h3 _=>exact SeqAt.EqAt.str_tuple a t ⟨_,h1,h2,_,h3⟩ hu
 | dict _ _ _ _ _=>exact absurd (SeqAt.canLay_of_shaped sh) (by simp [PyData.canLay0])
theorem an5{K:PySem.W.Frag}{H:Hp}:∀{ds:List D}{vs:List V}{us:List Value},ds.all isS=true->Reps K H ds vs->C3 vs us->∀y∈us,∃a t,y=Value.str a t
 | [],_,_,_,r,w=>by cases(show _=[] from r);cases w;intro y hy;cases hy
 | d::ds,_,_,f,r,w=>by
  rw [List.all_cons,Bool.and_eq_true]at f
  obtain⟨v,r',rfl,h1,h2⟩:=r
  cases w with
  | cons w1 w2 =>
   intro y hy
   rcases List.mem_cons.mp hy with rfl|hy
   ·cases d with
    | str a =>
     cases(show v=.str a from h1)
     obtain⟨t,e⟩:=w1
     exact⟨a,t,e⟩
    | _=>cases f.1
   ·exact an5 f.2 h2 w2 y hy
theorem aN7{x:D}{ds:List D}{vx vy:V}{v u:Value}{pins:List (Addr×Obj)}{s:Shared}{σ:L2.St}{H Hf:Hp}{Q:Value->Shared->Prop}(hu:X.A.units+64 < cLine) (f:M0 x=false) (sh:SeqAt.shaped x=true) (a:ds.all isS=true) (I:L2.Inv X pins σ H s) (rx:D4 vx v) (ry:D4 vy u) (ss:C2 Hf H) (r1:Rep X.K Hf x vx) (r2:Rep X.K Hf (.tuple ds) vy) :
  (Q (.bool false) s->wpAny (model X.prog X.w) X.A (compareOp .In v u) Q X.xe s)/\(Q (.bool true) s->wpAny (model X.prog X.w) X.A (compareOp .NotIn v u) Q X.xe s):=by
 obtain⟨p,vs,rfl,h2,h3⟩:=r2
 obtain rfl:u=Value.ref p:=ry
 obtain⟨its,rv,pl,_⟩:=I.tuple (B9 ss h2)
 obtain⟨as,rd⟩:=Rep.reads I (r1.mono ss) rx
 have st:=an5 a h3 rv
 have he:∀y,y∈its.toArray->SeqAt.EqAt X.A.in1 s y v ((fun _=>false) y):=fun y hy=>by
  obtain⟨b,t,rfl⟩:=st y (by simpa using hy)
  exact aY6 f sh rd (by show X.A.units+1 < _;omega) b t
 have no:its.toArray.any (fun _=>false)=false:=by simp
 refine⟨fun q=>SeqAt.in_tupleAt (fun _=>false) pl he (by rw [no];exact q),fun q=>SeqAt.notIn_tupleAt (fun _=>false) pl he (by rw [no];exact q)⟩
theorem bg6{h:Heap}:∀{vs:List Value}{ds:List D}{as:List Addr},ReadsAll h vs ds as->vs.length=ds.length/\∀(j:Nat) (hj:j < vs.length),∃bs,Reads h vs[j] (ds.getD j .none) bs
 | [],_,_,r=>by cases r;exact⟨rfl,fun j hj=>absurd hj (Nat.not_lt_zero _)⟩
 | v::vs,_,_,r=>by
  cases r with
  | cons r1 r2 =>
   obtain⟨h1,h2⟩:=bg6 r2
   refine⟨by rw [List.length_cons,List.length_cons,h1],fun j hj=>?_⟩
   cases j with
   | zero=>exact⟨_,r1⟩
   | succ j=>exact h2 j (by simpa using hj)
theorem aE4{α:Type}(p:α->Bool) (z:α) (l:List α):(List.range l.length).any (fun j=>p (l.getD j z))=l.any p:=by
 rw [Bool.eq_iff_iff,List.any_eq_true,List.any_eq_true]
 constructor
 ·rintro⟨j,hj,h⟩
  have hj:=List.mem_range.mp hj
  exact⟨l[j],List.getElem_mem hj,by simpa [hj] using h⟩
 ·rintro⟨x,hx,h⟩
  obtain⟨j,hj,rfl⟩:=List.getElem_of_mem hx
  exact⟨j,List.mem_range.mpr hj,by simpa [hj] using h⟩
theorem aR7{x:D}{ds:List D}{vx:V}{v:Value}{pins:List (Addr×Obj)}{s:Shared}{σ:L2.St}{H Hf:Hp}{p:Addr}{vs:List V}(hu:X.A.units+64 < cLine) (sx:SeqAt.shaped x=true) (dx:x.depth<=60) (sd:ds.all SeqAt.shaped=true) (I:L2.Inv X pins σ H s) (rx:D4 vx v) (ss:C2 Hf H) (r1:Rep X.K Hf x vx) (h2:SqT X.K Hf p vs) (h3:Reps X.K Hf ds vs) :
  ∃its:List Value,IsTup s.heap p its.toArray/\its.length=ds.length/\∀j (h:j < its.toArray.size),SeqAt.EqAt X.A.in1 s its.toArray[j] v (PyData.eqv (ds.getD j .none) x):=by
 obtain⟨its,rv,pl,_⟩:=I.tuple (B9 ss h2)
 obtain⟨as,rd⟩:=Rep.reads I (r1.mono ss) rx
 obtain⟨bs,ra⟩:=Reps.reads I (h3.mono ss) rv
 obtain⟨e1,e2⟩:=bg6 ra
 refine⟨its,pl,e1,fun j hj=>?_⟩
 have hj':j < its.length:=by simpa using hj
 obtain⟨cs,q⟩:=e2 j hj'
 have hd:j < ds.length:=by omega
 have sj:=List.all_eq_true.mp sd _ (List.getElem_mem hd)
 have ej:ds.getD j .none=ds[j]:=by simp [hd]
 rw [ej]at q ⊢
 have:=SeqAt.eqAt_reads ds[j] x X.A.in1 s _ _ _ _ q rd (SeqAt.canLay_of_shaped sj) (SeqAt.canLay_of_shaped sx) (by show X.A.units+1+_ < _;have:=Nat.min_le_right ds[j].depth x.depth;omega)
 simpa using this
theorem aN6{x:D}{ds:List D}{vx vy:V}{v u:Value}{pins:List (Addr×Obj)}{s:Shared}{σ:L2.St}{H Hf:Hp}{Q:Value->Shared->Prop}(hu:X.A.units+64 < cLine) (sx:SeqAt.shaped x=true) (dx:x.depth<=60) (sd:ds.all SeqAt.shaped=true) (I:L2.Inv X pins σ H s) (rx:D4 vx v) (ry:D4 vy u) (ss:C2 Hf H) (r1:Rep X.K Hf x vx) (r2:Rep X.K Hf (.tuple ds) vy) :
  (Q (.bool (ds.any fun y=>PyData.eqv y x)) s->wpAny (model X.prog X.w) X.A (compareOp .In v u) Q X.xe s)/\(Q (.bool (!(ds.any fun y=>PyData.eqv y x))) s->wpAny (model X.prog X.w) X.A (compareOp .NotIn v u) Q X.xe s):=by
 obtain⟨p,vs,rfl,h2,h3⟩:=r2
 obtain rfl:u=Value.ref p:=ry
 obtain⟨its,pl,ln,he⟩:=aR7 hu sx dx sd I rx ss r1 h2 h3
 obtain⟨⟨cls,dd,data,sl⟩,ho,hc,n,hd⟩:=id pl
 simp only at hc hd
 subst hc hd
 have ea:(List.range its.toArray.size).any (fun j=>PyData.eqv (ds.getD j .none) x)=ds.any fun y=>PyData.eqv y x:=by
  rw [List.size_toArray,ln]
  exact aE4 (fun y=>PyData.eqv y x) .none ds
 refine⟨fun q=>SeqRoads2.in_meets ⟨_,ho,rfl⟩ F.slot_tuple_contains F.entry_tuple_contains (F.args_tuple_contains_2 _ _) (r6 p its.toArray n dd sl v _) ⟨ho,he,_,rfl,by rw [ea];exact q⟩,
  fun q=>SeqRoads2.notIn_meets ⟨_,ho,rfl⟩ F.slot_tuple_contains F.entry_tuple_contains (F.args_tuple_contains_2 _ _) (r6 p its.toArray n dd sl v _) ⟨ho,he,_,rfl,by rw [ea];exact q⟩⟩
theorem aN8{op:CmpOp}{neg:Bool}(o:OpR X (compareOp op) (rIn X.K neg)) (o2:∀x ds,M0 x=false->SeqAt.shaped x=true->ds.all isS=true->OpR X (compareOp op) (fun vx vy H Q=>∃Hf,C2 Hf H/\Rep X.K Hf x vx/\Rep X.K Hf (.tuple ds) vy/\∀v H' Hf',Grow H Hf H' Hf'->Rep X.K Hf' (.bool neg) v->Q v H'))
  (o3:∀x ds,SeqAt.shaped x=true->x.depth<=60->ds.all SeqAt.shaped=true->OpR X (compareOp op) (fun vx vy H Q=>∃Hf,C2 Hf H/\Rep X.K Hf x vx/\Rep X.K Hf (.tuple ds) vy/\∀v H' Hf',Grow H Hf H' Hf'->Rep X.K Hf' (.bool (if neg then !(ds.any fun y=>PyData.eqv y x) else ds.any fun y=>PyData.eqv y x)) v->Q v H')):OpD X (compareOp op) (inD neg):=fun x y z h=>by
 unfold inD at h
 split at h
 ·split at h
  ·rename_i c
   cases h
   refine OpR.imp o fun vx vy H Q ⟨Hf,s,r1,r2,k⟩=>?_
   obtain⟨p,vs,rfl,h2,h3⟩:=r2
   obtain⟨e1,e2⟩:=K2 c.1 r1
   obtain⟨e3,e4⟩:=T7 c.2 h3
   subst e1 e3
   exact⟨p,_,rfl,.inl (D1 s h2),e2,e4,k _ H Hf (Grow.refl s) rfl⟩
  ·cases h
 ·split at h
  ·rename_i c
   cases h
   refine OpR.imp o fun vx vy H Q ⟨Hf,s,r1,r2,k⟩=>?_
   obtain⟨p,vs,rfl,h2,h3⟩:=r2
   obtain⟨e1,e2⟩:=K2 c.1 r1
   obtain⟨e3,e4⟩:=T7 c.2 h3
   subst e1 e3
   exact⟨p,_,rfl,.inr (B9 s h2),e2,e4,k _ H Hf (Grow.refl s) rfl⟩
  ·split at h
   ·rename_i c
    cases h
    exact o2 _ _ c.1 c.2.1 c.2.2
   ·split at h
    ·rename_i c
     cases h
     exact o3 _ _ c.1 c.2.1 c.2.2
    ·cases h
 ·cases h
theorem bv4(hu:X.A.units+64 < cLine):OpD X (compareOp .In) (inD false):=aN8 aA9 (fun x ds f sh a pins s σ H vx vy v u Q I rx ry ⟨Hf,ss,r1,r2,k⟩=>(aN7 hu f sh a I rx ry ss r1 r2).1 ⟨.bl false,H,I,rfl,k _ H Hf (Grow.refl ss) rfl⟩)
 fun x ds sx dx sd pins s σ H vx vy v u Q I rx ry ⟨Hf,ss,r1,r2,k⟩=>(aN6 hu sx dx sd I rx ry ss r1 r2).1 ⟨.bl _,H,I,rfl,k _ H Hf (Grow.refl ss) rfl⟩
theorem aI7(hu:X.A.units+64 < cLine):OpD X (compareOp .NotIn) (inD true):=aN8 ah1 (fun x ds f sh a pins s σ H vx vy v u Q I rx ry ⟨Hf,ss,r1,r2,k⟩=>(aN7 hu f sh a I rx ry ss r1 r2).2 ⟨.bl true,H,I,rfl,k _ H Hf (Grow.refl ss) rfl⟩)
 fun x ds sx dx sd pins s σ H vx vy v u Q I rx ry ⟨Hf,ss,r1,r2,k⟩=>(aN6 hu sx dx sd I rx ry ss r1 r2).2 ⟨.bl _,H,I,rfl,k _ H Hf (Grow.refl ss) rfl⟩
end
section
variable {X:Cx}
theorem bp8:bootBuiltins "min" = some (.builtin "min"):=by decide +kernel
theorem aQ2:bootBuiltins "max" = some (.builtin "max"):=by decide +kernel
theorem aN1{k:Nat}{f:Addr}{fd:FuncData}{ps:List Str}{F:List D->Option D}{x:Str}{p pos:Pos}(Fk:FnOk X.prog X.w X.K X.mg X.base CX0 k f fd ps (spF X.K 0 F)) (hr:Room k X.A) (hg:Gl X x) (hm:X.mg x=some (.ref f)) (hk:PySem.W.keepIn X.K (.ref f)=true) (hb:J9 X.K fd ps [])
  (hdb:(x==("__debug__" : Str))=false:=by decide):JE X (.Call (.Name x p) [] [] pos) (A5 F A3):=fun ρ d q=>by
 have h2:F []=some d:=q
 refine B2 (aI0 Fk hr hg hm hk hb .nil aI2 hdb) fun σ H Q ⟨H0,Hf,s,sl,kk⟩=>?_
 exact⟨rfl,Hf,[],d,s,rfl,h2,fun v H2 Hf2 g2 r2=>kk v H2 Hf2 g2 r2⟩
end
def ae7(K:PySem.W.Frag):List D->List Value->Prop
 | [],us=>us=[]
 | d::ds,us=>∃u r,us=u::r/\at6 K d u/\ae7 K ds r
section
variable {K:PySem.W.Frag}
theorem O5:ae7 K [] []:=rfl
theorem E3{d:D}{ds:List D}{u:Value}{us:List Value}(h:at6 K d u) (t:ae7 K ds us):ae7 K (d::ds) (u::us):=⟨u,us,rfl,h,t⟩
theorem ad7:∀{ds:List D}{us:List Value},ae7 K ds us->∃vs,C3 vs us/\∀H:Hp,Reps K H ds vs
 | [],_,h=>by cases h;exact⟨[],.nil,fun _=>rfl⟩
 | d::ds,_,⟨u,r,e,⟨v,h1,h2⟩,h3⟩=>by
  subst e
  obtain⟨vs,q1,q2⟩:=ad7 h3
  exact⟨v::vs,.cons h1 q1,fun H=>⟨v,vs,rfl,h2 H,q2 H⟩⟩
theorem K3(i:Int) (t:Tok):at6 K (.int i) (.int i t):=⟨.int i,⟨t,rfl⟩,fun _=>rfl⟩
theorem S3{a:Addr}{o:Obj}{its:Array Value}{n:Nat}{ds:List D}(h:K.lookup a=some o) (hc:o.cls=.type "tuple") (hn:o.dict=none) (hd:o.data=.seq its n) (hz:its.size<=1000) (hi:ae7 K ds its.toList):at6 K (.tuple ds) (.ref a):=by
 obtain⟨vs,q1,q2⟩:=ad7 hi
 exact⟨.ref a,rfl,fun H=>⟨a,vs,rfl,.inr ⟨o,its,n,h,hc,hn,hd,Nat.le_of_lt (g6 hz),q1⟩,q2 H⟩⟩
end
theorem am3(l:Addr) (items:Array Value) (n:Nat) (dd:Option Addr) (sl:Array (Option Value)) (u:Tok) :
  Meets (Builtin.«tuple.__mul__» ⟨[.ref l,.int 1 u],[]⟩) (fun _ R s=>s.heap.get? l=some ⟨.type "tuple", dd,.seq items n,sl⟩/\R (.ok (.ret (Value.ref l))) s) :=
 .of_wp fun prog w A R s h=>by
  obtain⟨hp,g,d,tk,os⟩:=s
  obtain⟨hl,h⟩:=h
  wp_walk
  exact⟨_,rfl,h⟩
section
variable {X:Cx}
theorem aI3:OpR X (binaryOp .Mult) (fun x y H Q=>∃l xs,x=.ref l/\y=.int 1/\SqT X.K H l xs/\Q (.ref l) H):=by
 intro pins s σ H x y v u Q I rx ry h
 obtain⟨l,xs,rfl,rfl,hq,q⟩:=h
 cases rx
 obtain⟨t,rfl⟩:=ry
 obtain⟨its,r,p1,_⟩:=I.tuple hq
 obtain⟨⟨cls,dd,data,sl⟩,ho,hc,n,hd⟩:=id p1
 simp only at hc hd
 subst hc hd
 exact wpAny_binaryOp_repeat_ref (T := "tuple") (U := "int") (by decide) ⟨_,ho,rfl⟩ (fun s'=>typeIs_int s' 1 t) l8 F.fills_int_mul F.slot_int_rmul ad1 F.slot_int_index.lookup
  (call_meets F.slot_int_rmul (typeIs_int s 1 t) F.entry_int_rmul (F.args_int_rmul_2 _ _) (X6 1 t l its.toArray n dd sl) ⟨ho,rfl,⟨_,ho,rfl⟩,
   call_meets F.slot_tuple_mul ⟨_,ho,rfl⟩ F.entry_tuple_mul (F.args_tuple_mul_2 _ _) (am3 l its.toArray n dd sl t) ⟨ho,⟨.ref l,H,I,rfl,q⟩⟩⟩)
theorem af8(a:Int) (t:Tok) (l:Addr) (items:Array Value) (n:Nat) (dd:Option Addr) (sl:Array (Option Value)) :
  Meets (Builtin.«int.__rmul__» ⟨[.int a t,.ref l],[]⟩) (fun _ R s=>s.heap.get? l=some ⟨.type "list", dd,.seq items n,sl⟩/\R (.ok (.ret Value.notImplemented)) s):=Meets.of_wp fun prog w A R s h=>by
 obtain⟨hp,g,d,tk,os⟩:=s
 obtain⟨hl,h⟩:=h
 wp_walk
 exact⟨_,rfl,h⟩
theorem am5(l:Addr) (items:Array Value) (n:Nat) (dd:Option Addr) (sl:Array (Option Value)) (x:Int) (u:Tok) (c0:¬(!Builtin.List.listFitsIndex x)=true) (c1:¬items.size*x.toNat > (2 ^ 63 - 1) / 8) (c2:¬Builtin.List.listTooLong (items.size*x.toNat)=true) :
  Meets (Builtin.«list.__mul__» ⟨[.ref l,.int x u],[]⟩) (fun _ R s=>s.heap.get? l=some ⟨.type "list", dd,.seq items n,sl⟩/\R (.ok (.ret (Value.ref s.heap.objs.size))) { s with heap:=s.heap.push { cls:=Value.type "list", data:=Data.seq (List.foldl (fun x1 x2=>x1++x2) #[] (List.replicate (if items.isEmpty=true then 0 else x.toNat) items)) } }):=Meets.of_wp fun prog w A R s h=>by
 obtain⟨hp,g,d,tk,os⟩:=s
 obtain⟨hl,h⟩:=h
 have hsz:=AutoListH.joined_fits c2
 wp_walk
 refine wpAny_ite_false (decide_eq_false (Nat.not_lt.mpr hsz)) ?_
 wp_walk
 exact⟨_,rfl,h⟩
theorem aU5:OpR X (binaryOp .Mult) (fun x y H Q=>∃l k xs,x=.ref l/\y=.int k/\SqL X.K H l xs/\0<=k/\k < 1000000/\xs.length*k.toNat<=sizeLine/\∀p,H p=none->Q (.ref p) (upd H p (.lst (List.replicate k.toNat xs).flatten))):=by
 intro pins s σ H x y v u Q I rx ry h
 obtain⟨l,k,xs,rfl,rfl,hq,h1,h2,hz,q⟩:=h
 cases rx
 obtain⟨t,rfl⟩:=ry
 obtain⟨its,r,p1,_⟩:=I.list hq
 obtain⟨⟨cls,dd,data,sl⟩,ho,hc,n,hd⟩:=p1.isList
 simp only at hc hd
 subst hc hd
 have hl:=r.length
 have hlen:its.toArray.size*k.toNat<=sizeLine:=by rw [List.size_toArray,← hl];exact hz
 have hcap:¬its.toArray.size*k.toNat > (2 ^ 63 - 1) / 8:=by
  have:(sizeLine:Nat)<=(2 ^ 63 - 1) / 8:=by decide
  omega
 have hfit:¬(!Builtin.List.listFitsIndex k)=true:=by
  rw [fitsIndex_both (by omega) (by omega)];exact Bool.false_ne_true
 have hlong:¬Builtin.List.listTooLong (its.toArray.size*k.toNat)=true:=by
  rw [R6 hlen];exact Bool.false_ne_true
 have hnew:List.foldl (fun x1 x2=>x1++x2) #[] (List.replicate (if its.toArray.isEmpty=true then 0 else k.toNat) its.toArray)=(List.replicate k.toNat its).flatten.toArray:=by
  rw [aq6]
  cases its with
  | nil=>simp
  | cons a r'=>rw [if_neg (by simp)]
 refine wpAny_binaryOp_repeat_ref (T := "list") (U := "int") (by decide) ⟨_,ho,rfl⟩ (fun s'=>typeIs_int s' k t) noFill_list_mul F.fills_int_mul F.slot_int_rmul repeat_list F.slot_int_index.lookup
  (call_meets F.slot_int_rmul (typeIs_int s k t) F.entry_int_rmul (F.args_int_rmul_2 _ _) (af8 k t l its.toArray n dd sl) ⟨ho,rfl,⟨_,ho,rfl⟩,
   call_meets F.slot_list_mul ⟨_,ho,rfl⟩ F.entry_list_mul (F.args_list_mul_2 _ _) (am5 l its.toArray n dd sl k t hfit hcap hlong) ⟨ho,?_⟩⟩)
 rw [hnew]
 exact⟨.ref _,_,I.lnew (t':=s.toks) (r.rep k.toNat) (by rw [ah8,Nat.mul_comm];exact hz),rfl,q _ I.fresh⟩
def D6(x y:D):Option D:=match x,y with
 | .tuple xs,.int k=>if k=1 then some (.tuple xs) else U3 (.tuple xs) (.int k)
 | .list xs,.int k=>if 0<=k/\k < 1000000/\xs.length*k.toNat<=16777216 then some (.list (List.replicate k.toNat xs).flatten) else none
 | x,y=>U3 x y
theorem aw3:OpD X (binaryOp .Mult) D6:=fun x y z h=>by
 unfold D6 at h
 split at h
 ·split at h
  ·rename_i xs k c
   subst c
   cases h
   refine OpR.imp aI3 fun vx vy H Q ⟨Hf,s,r1,r2,kk⟩=>?_
   obtain⟨a,vs,rfl,h2,h3⟩:=r1
   exact⟨a,vs,rfl,r2,B9 s h2,kk _ _ _ (Grow.refl s) ⟨a,vs,rfl,h2,h3⟩⟩
  ·exact ah3 _ _ z h
 ·split at h
  ·rename_i xs k c
   cases h
   refine OpR.imp aU5 fun vx vy H Q ⟨Hf,s,r1,r2,kk⟩=>?_
   obtain⟨a,vs,rfl,h2,h3⟩:=r1
   refine⟨a,k,vs,rfl,r2,D1 s h2,c.1,c.2.1,by rw [h3.length,sizeLine_eq];exact c.2.2,fun p hp=>?_⟩
   exact kk _ _ _ (Grow.laid s hp) ⟨p,_,rfl,SqL.of B0,(h3.flatten k.toNat).mono (C5 (s.free hp))⟩
  ·cases h
 ·exact ah3 _ _ z h
theorem j7(i j:Int):E9 (.int i) (.int j)=some (.int (i+j)):=rfl
def by1(f:Rho->Option (Bool×List D)) (lo hi:Rho->Option (Option Int)):DE:=fun ρ=>(f ρ).bind fun q=>(lo ρ).bind fun l=>(hi ρ).bind fun h=>if q.1=true then none else some (.list (Z4 q.2 l h))
theorem bm8{a:Expr}{lo hi:Option Expr}{f:Rho->Option (Bool×List D)}{l h:Rho->Option (Option Int)}{pos p2:Pos}(ha:JQ X a f) (hl:JO X lo l) (hh:JO X hi h):JE X (.Subscript a (.Slice lo hi none p2) pos) (by1 f l h):=fun ρ d q=>by
 obtain⟨⟨t,xs⟩,e1,q⟩:=Option.bind_eq_some_iff.mp q
 obtain⟨y,e2,q⟩:=Option.bind_eq_some_iff.mp q
 obtain⟨z,e3,q⟩:=Option.bind_eq_some_iff.mp q
 cases t with
 | true=>simp at q
 | false =>
  simp only [xft,if_false]at q
  cases q
  refine B2 (Y1 au0 (ha ρ _ _ e1) (hl ρ y e2) (hh ρ z e3)) fun σ H Q ⟨H0,Hf,s,sl,k⟩=>?_
  refine⟨H0,Hf,s,sl,fun v H1 Hf1 g1 ⟨p,vs,q1,q2,q3⟩=>⟨H0,Hf1,g1.sub,sl.grow g1,fun H2 Hf2 g2=>⟨H0,Hf2,g2.sub,sl.grow (g1.trans g2),fun H3 Hf3 g3=>?_⟩⟩⟩
  subst q1
  have q3':=q3.mono (g2.trans g3).ext
  refine⟨p,vs,rfl,D1 (g2.trans g3).big q2,fun p' hp=>?_⟩
  exact k _ _ _ (((g1.trans g2).trans g3).trans (Grow.laid g3.sub hp)) ⟨p',_,rfl,SqL.of B0,(w6 q3' y z).mono (C5 (g3.sub.free hp))⟩
def A9:DS:=fun _=>none
theorem A7{st:Stmt}:JS X st A9:=fun ρ fl q=>by cases q
def ap8(f:DE):Rho->Option Bool:=fun ρ=>(f ρ).bind E4
theorem aK6{op op':CmpOp}{h1 h2:D->D->Option D}{a b c:Expr}{f g k:DE}{pos:Pos}(o1:OpD X (compareOp op) h1) (o2:OpD X (compareOp op') h2) (ha:JE X a f) (hb:JE X b g) (hc:JE X c k)
  (hm:lastMarks [op,op'] [b,c]=false:=by with_unfolding_all rfl):JT X (.Compare a [op,op'] [b,c] pos) (ap8 (F9 h1 h2 f g k)):=fun ρ d q=>by
 obtain⟨dd,q,ed⟩:=Option.bind_eq_some_iff.mp q
 have ed:=ay6 ed
 subst ed
 obtain⟨x,e1,q⟩:=Option.bind_eq_some_iff.mp q
 obtain⟨y,e2,q⟩:=Option.bind_eq_some_iff.mp q
 obtain⟨z,e3,q⟩:=Option.bind_eq_some_iff.mp q
 split at q
 ·obtain⟨w,e4,e5⟩:=Option.bind_eq_some_iff.mp q
  refine ag7 (ak9 (o1 x y _ e3) (o2 y w _ e5) (ha ρ x e1) (hb ρ y e2) (hc ρ w e4) hm) fun σ H Q ⟨H0,Hf,s,sl,kk⟩=>?_
  refine⟨H0,Hf,s,sl,fun v H1 Hf1 g1 r1=>⟨H0,Hf1,g1.sub,sl.grow g1,fun u H2 Hf2 g2 r2=>⟨Hf2,g2.sub,r1.mono g2.ext,r2,fun z' H3 Hf3 g3 r3=>?_⟩⟩⟩
  refine⟨true,r3,ab5 ⟨H0,Hf3,g3.sub,sl.grow ((g1.trans g2).trans g3),fun w' H4 Hf4 g4 r4=>⟨Hf4,g4.sub,r2.mono (g3.trans g4).ext,r4,fun z2 H5 Hf5 g5 r5=>?_⟩⟩⟩
  exact⟨d,r5,kk H5 Hf5 ((((g1.trans g2).trans g3).trans g4).trans g5)⟩
 ·cases q
  intro pins s σ H Q I ⟨H0,Hf,ss,sl,kk⟩
  refine ak9 (tc:=fun _ _ _=>False) (r':=fun _ _ _ _=>False) (o1 x y _ e3) (fun _ _ _ _ _ _ _ _ _ _ _ _ h=>h.elim) (ha ρ x e1) (hb ρ y e2) (fun _ _ _ _ _ _ h=>h.elim) hm pins s σ H Q I ?_
  refine⟨H0,Hf,ss,sl,fun v H1 Hf1 g1 r1=>⟨H0,Hf1,g1.sub,sl.grow g1,fun u H2 Hf2 g2 r2=>⟨Hf2,g2.sub,r1.mono g2.ext,r2,fun z' H3 Hf3 g3 r3=>?_⟩⟩⟩
  exact⟨false,r3,ab6 ⟨false,rfl,kk H3 Hf3 ((g1.trans g2).trans g3)⟩⟩
 ·cases q
end
end G
local macro_rules
  | `(tactic| wp_walk using evC) => `(tactic| simp only [G.B1, G.B6, G.C8, G.sIf, G.E1, G.K1, G.P9, G.A1, G.dC, G.C9, G.E2, G.A4, G.A5, G.L6, G.T1, G.dOr, G.T0, G.F9, G.dIx, G.o5, G.M3, G.G3, G.U8, G.U7, G.U6, G.A6, G.qE, G.qN, G.P7, G.G1, G.E7, G.J6, G.A3, G.A0, G.P6, G.tB2, G.G9, G.G4, G.K0, G.U2, G.E4, G.D7, G.L7, G.R1, G.D2, G.C0, G.F2, G.B7, G.F8, G.J0, G.G2, G.Y8, G.Q9, G.xg0, G.xg1, G.xw0, G.xw1, G.xbs, G.xms, G.xmc, G.xmn, G.xna, G.xca, Sh.N5, Sh.M5, Sh.Y5, Sh.R8, Sh.O7, Sh.S2, Sh.W0, Sh.ag3, Sh.ag2, Sh.ag1, Sh.Z5, Sh.c6, Sh.c5, Sh.Z9, Sh.Z8, Sh.d7, Sh.d6, Sh.d5, Sh.W5, Sh.W4, G.xnt, G.xnf, G.xft, if_true, if_false, ite_true, ite_false, G.j7, G.ap8])
  | `(tactic| wp_walk using evC, $ts,*) => `(tactic| simp only [G.B1, G.B6, G.C8, G.sIf, G.E1, G.K1, G.P9, G.A1, G.dC, G.C9, G.E2, G.A4, G.A5, G.L6, G.T1, G.dOr, G.T0, G.F9, G.dIx, G.o5, G.M3, G.G3, G.U8, G.U7, G.U6, G.A6, G.qE, G.qN, G.P7, G.G1, G.E7, G.J6, G.A3, G.A0, G.P6, G.tB2, G.G9, G.G4, G.K0, G.U2, G.E4, G.D7, G.L7, G.R1, G.D2, G.C0, G.F2, G.B7, G.F8, G.J0, G.G2, G.Y8, G.Q9, G.xg0, G.xg1, G.xw0, G.xw1, G.xbs, G.xms, G.xmc, G.xmn, G.xna, G.xca, Sh.N5, Sh.M5, Sh.Y5, Sh.R8, Sh.O7, Sh.S2, Sh.W0, Sh.ag3, Sh.ag2, Sh.ag1, Sh.Z5, Sh.c6, Sh.c5, Sh.Z9, Sh.Z8, Sh.d7, Sh.d6, Sh.d5, Sh.W5, Sh.W4, G.xnt, G.xnf, G.xft, if_true, if_false, ite_true, ite_false, G.j7, G.ap8, $[$ts:term],*])
local macro_rules
  | `(tactic| wp_walk using evD) => `(tactic| simp only [G.B1, G.B6, G.C8, G.sIf, G.E1, G.K1, G.P9, G.A1, G.dC, G.C9, G.E2, G.A4, G.A5, G.T1, G.dOr, G.T0, G.F9, G.dIx, G.M3, G.G3, G.U8, G.U7, G.U6, G.A6, G.qE, G.qN, G.P7, G.G1, G.E7, G.J6, G.A3, G.A0, G.P6, G.tB2, G.G9, G.G4, G.K0, G.U2, G.E4, G.D2, G.C0, G.F2, G.B7, G.F8, G.J0, G.Q9, G.xg0, G.xg1, G.xw0, G.xw1, G.xbs, G.xms, G.xmc, G.xmn, G.xna, G.xca, Sh.N5, Sh.M5, Sh.Y5, Sh.R8, Sh.O7, Sh.S2, Sh.W0, Sh.c6, Sh.c5, Sh.Z9, Sh.Z8, Sh.d7, Sh.d6, Sh.d5, Sh.W5, Sh.W4, G.xnt, G.xnf, G.xft, if_true, if_false, G.j7, G.ap8])
  | `(tactic| wp_walk using evD, $ts,*) => `(tactic| simp only [G.B1, G.B6, G.C8, G.sIf, G.E1, G.K1, G.P9, G.A1, G.dC, G.C9, G.E2, G.A4, G.A5, G.T1, G.dOr, G.T0, G.F9, G.dIx, G.M3, G.G3, G.U8, G.U7, G.U6, G.A6, G.qE, G.qN, G.P7, G.G1, G.E7, G.J6, G.A3, G.A0, G.P6, G.tB2, G.G9, G.G4, G.K0, G.U2, G.E4, G.D2, G.C0, G.F2, G.B7, G.F8, G.J0, G.Q9, G.xg0, G.xg1, G.xw0, G.xw1, G.xbs, G.xms, G.xmc, G.xmn, G.xna, G.xca, Sh.N5, Sh.M5, Sh.Y5, Sh.R8, Sh.O7, Sh.S2, Sh.W0, Sh.c6, Sh.c5, Sh.Z9, Sh.Z8, Sh.d7, Sh.d6, Sh.d5, Sh.W5, Sh.W4, G.xnt, G.xnf, G.xft, if_true, if_false, G.j7, G.ap8, $[$ts:term],*])
namespace Sh
open PySem PySem.Spec PyProof.Rows L2 G
def n4:DS:=(C8 (E2 (D7 1 [0] (G2 (A4 D6 (A1 0) (A1 1))) (C0 0) D2 (C9 (A0 (A4 N9 (A1 0) (A1 1)) (A0 (A4 R0 (A1 0) (A1 1)) A3))))))
def G7:List D->Option D:=L9 n4 2
def n5:DS:=(C8 (T1 (F9 leI ltI (dC (.int 0)) (A1 1) (dIx (A6 0) (dC (.int 0)))) (F9 leI ltI (dC (.int 0)) (A1 2) (dIx (A6 0) (dC (.int 1))))))
def N7:List D->Option D:=L9 n5 3
def N6:DS:=(C8 (A4 E9 (A4 D6 (A1 2) (dIx (A6 0) (dC (.int 0)))) (A1 1)))
def G6:List D->Option D:=L9 N6 3
def k6:DS:=(B1 (sIf (K0 (P6 (A5 N7 (A0 (A1 0) (A0 (A1 1) (A0 (A1 2) A3)))))) (C8 (dC (.tuple [(.tuple [(.int 0),(.int 1)]),(.tuple [(.int 0),(.int 1)]),(.tuple [(.int 0),(.int 1)]),(.tuple [(.int 0),(.int 1)])]))) E1) (C8 (dIx (qE (dIx (A6 0) (dC (.int 2)))) (A5 G6 (A0 (A1 0) (A0 (A1 1) (A0 (A1 2) A3)))))))
def K9:List D->Option D:=L9 k6 3
def k7:DS:=(B1 (K1 4 (D7 1 [0,1] (G2 (A4 D6 (A1 2) (A1 3))) (C0 0) D2 (A5 M9 (A0 (A1 1) (A0 (A4 E9 (A1 2) (A4 D6 (dC (.int 12)) (A1 0))) A3))))) (B1 (sIf (tB2 eqD (A5 D5 (A0 (A1 0) (A0 (A4 E9 (A1 1) (dC (.int 7))) (A0 (dC (.int 3)) A3)))) (dC (.int 0))) (B6 4 (A4 D6 (U5 (A1 4) G1 (E7 (dC (.int 1)))) (A4 D6 (A1 2) (A1 3)))) E1) (C8 (C9 (A0 (A1 2) (A0 (A1 3) (A0 (G3 (A6 4)) A3)))))))
def J8:List D->Option D:=L9 k7 5
end Sh
namespace Sh
open PySem G L2
structure Q4 where
 c:Rat
 x:Rat
 y:Rat
 z:Rat
def Q4.d(q:Q4):D:=sp q.c q.x q.y q.z
def Q4.ok(k:Nat) (q:Q4):Prop:=Spot k q.c q.x q.y q.z
def q0:Q4:=⟨0,0,0,0⟩
def Ly(n:Nat) (d:D):Prop:=PyData.canLay0 d=true/\PyData.depth d<=n
theorem at1{n:Nat}:∀xs:List D,(∀x∈xs,Ly n x)->PyData.canLayAll0 xs=true/\PyData.depthAll xs<=n
 | [],_=>⟨rfl,Nat.zero_le _⟩
 | x::xs,g=>by
  have a:=g x (List.mem_cons_self ..)
  have b:=at1 xs fun y hy=>g y (List.mem_cons_of_mem _ hy)
  refine⟨?_,?_⟩
  ·show(PyData.canLay0 x&&PyData.canLayAll0 xs)=true
   rw [a.1,b.1];rfl
  ·show max (PyData.depth x) (PyData.depthAll xs)<=n
   have:=a.2;have:=b.2;omega
theorem Ly.tup{n:Nat}{xs:List D}(h:∀x∈xs,Ly n x):Ly (n+1) (.tuple xs):=⟨(at1 xs h).1,Nat.succ_le_succ (at1 xs h).2⟩
theorem Ly.int(n:Nat) (i:Int):Ly n (.int i):=⟨rfl,Nat.zero_le _⟩
theorem Ly.shaped{n:Nat}{d:D}(g:Ly n d) (hn:n<=64):SeqAt.shaped d=true:=by
 unfold SeqAt.shaped
 rw [g.1,Bool.true_and]
 exact decide_eq_true (by have:=g.2;omega)
theorem Ly.q4(q:Q4) (n:Nat):Ly (n+2) q.d:=⟨rfl,by show 2<=n+2;omega⟩
theorem Ly.spots(l:List Q4) (n:Nat):Ly (n+3) (.tuple (l.map Q4.d)):=Ly.tup fun x hx=>by
 obtain⟨q,_,rfl⟩:=List.mem_map.mp hx
 exact Ly.q4 q n
theorem aV6{n:Nat}{d:D}(g:Ly n d) (hn:n<=64):neD d d=some (.bool false):=by
 unfold neD
 rw [if_pos ⟨g.shaped hn,g.shaped hn⟩,SeqAt.eqv_refl d g.1];rfl
theorem aY9{n:Nat}{d:D}(g:Ly n d) (hn:n<=64):eqD d d=some (.bool true):=by
 unfold eqD
 rw [if_pos ⟨g.shaped hn,g.shaped hn⟩,SeqAt.eqv_refl d g.1]
def shD(w h:Nat) (l:List Q4):D:=.tuple [.int w,.int h,.tuple (l.map Q4.d)]
theorem Ly.sheet(w h:Nat) (l:List Q4):Ly 4 (shD w h l):=Ly.tup fun x hx=>by
 simp only [List.mem_cons,List.not_mem_nil,or_false]at hx
 rcases hx with rfl|rfl|rfl
 ·exact Ly.int _ _
 ·exact Ly.int _ _
 ·exact Ly.spots l 0
def atQ(w h:Nat) (l:List Q4) (x y:Int):Q4:=if 0<=x/\x < w/\0<=y/\y < h then l.getD (y*w+x).toNat q0 else q0
structure ShOk (k:Nat) (w h:Nat) (l:List Q4):Prop where
 w1:1<=w
 w8:w<=8
 h1:1<=h
 h8:h<=8
 len:l.length=w*h
 ok:∀q∈l,q.ok k
theorem bc1{α:Type}{e:DE}{r:Rho}{h f:α->D}:∀(l:List α) (x:Option B),(∀a∈l,e (some (.val (h a))::r)=some (f a))->L7 (C0 0) D2 e (l.map h) (x::r)=some (l.map f)
 | [],_,_=>rfl
 | a::l,x,H=>by
  simp only [xmc,L7,C0,xw0,xbs,D2,if_true,H a (List.mem_cons_self ..),bc1 l _ (fun b hb=>H b (List.mem_cons_of_mem _ hb)),xms]
theorem bc0{α:Type}{e:DE}{r:Rho}{h1 h2 f:α->D}:∀(l:List α) (x y:Option B),(∀a∈l,e (some (.val (h1 a))::some (.val (h2 a))::r)=some (f a))->L7 (F2 2 (B7 (C0 0) (B7 (C0 1) F8))) D2 e (l.map fun a=>.tuple [h1 a,h2 a]) (x::y::r)=some (l.map f)
 | [],_,_,_=>rfl
 | a::l,x,y,H=>by
  have hl:([h1 a,h2 a]:List D).length=2:=rfl
  simp only [xmc,L7,F2,B7,F8,C0,hl,if_true,xw0,xw1,xbs,D2,if_true,H a (List.mem_cons_self ..),bc0 l _ _ (fun b hb=>H b (List.mem_cons_of_mem _ hb)),xms]
theorem ah4{α:Type}{caps:List Nat}{src:Rho->Option (List D)}{e:DE}{ρ r:Rho}{l:List α}{h f:α->D}(hr:R1 1 caps ρ=none::r) (hs:src ρ=some (l.map h)) (hl:l.length<=1000) (H:∀a∈l,e (some (.val (h a))::r)=some (f a)) :
  D7 1 caps src (C0 0) D2 e ρ=some (l.map f):=by
 unfold D7
 rw [hs,xbs,if_pos (by rw [List.length_map];omega),hr,bc1 l _ H]
theorem ar0{α:Type}{caps:List Nat}{src:Rho->Option (List D)}{e:DE}{ρ r:Rho}{l:List α}{h1 h2 f:α->D}(hr:R1 2 caps ρ=none::none::r) (hs:src ρ=some (l.map fun a=>.tuple [h1 a,h2 a])) (hl:l.length<=1000) (H:∀a∈l,e (some (.val (h1 a))::some (.val (h2 a))::r)=some (f a)) :
  D7 2 caps src (F2 2 (B7 (C0 0) (B7 (C0 1) F8))) D2 e ρ=some (l.map f):=by
 unfold D7
 rw [hs,xbs,if_pos (by rw [List.length_map];omega),hr,bc0 l _ _ H]
theorem o6{f:DE}{ρ:Rho}{n:Nat}(h:f ρ=some (.int n)) (hn:n<=1000):G2 f ρ=some ((List.range n).map fun k:Nat=>PyData.int k):=by
 unfold G2
 rw [h,xbs]
 show(if -(2 ^ 62)<=(n:Int)/\(n:Int) < 2 ^ 62 then some (N8 0 n) else none)=_
 rw [if_pos ⟨by omega,by omega⟩]
 unfold N8
 congr 1
 have e:((n:Int) - 0).toNat=n:=by omega
 rw [e]
 apply List.map_congr_left
 intro k _
 congr 1
 omega
theorem ar1{i j:Int}(h1:C6 i) (h2:C6 j):D6 (.int i) (.int j)=some (.int (i*j)):=Q6 h1 h2
theorem S0{i j:Nat}(h1:i<=1000) (h2:j<=1000):D6 (.int i) (.int j)=some (.int ((i*j:Nat):Int)):=by
 rw [ar1 (O3 (k:=10) (by omega) (by decide)) (O3 (k:=10) (by omega) (by decide)),Int.natCast_mul]
theorem sm8{i:Int}(h0:0<=i) (h:i<=1000):C6 i:=u7 h0 (by omega)
def plc(w n:Nat):List (Int×Int):=(List.range n).map fun k=>(((k % w:Nat):Int),((k / w:Nat):Int))
theorem ad2{w h:Nat}(w1:1<=w) (w8:w<=8) (h8:h<=8):G7 [.int w,.int h]=some (.list ((plc w (w*h)).map fun p=>.tuple [.int p.1,.int p.2])):=by
 refine F7 (ρ:=[some (.val (.int w)),some (.val (.int h))]) rfl ?_
 have hm:(A4 D6 (A1 0) (A1 1)) [some (.val (.int w)),some (.val (.int h))]=some (.int ((w*h:Nat):Int)):=S0 (by omega) (by omega)
 have wh:w*h<=64:=Nat.mul_le_mul w8 h8
 unfold n4 C8 E2
 rw [ah4 (l:=List.range (w*h)) (h:=fun k:Nat=>PyData.int k) (f:=fun k=>.tuple [.int ((k % w:Nat):Int),.int ((k / w:Nat):Int)]) (r:=[some (.val (.int w))]) rfl (o6 hm (by omega)) (by rw [List.length_range];omega) ?_]
 ·unfold plc
  rw [List.map_map];rfl
 ·intro k _
  have wp:(0:Int) < (w:Int):=by omega
  simp only [C9,A0,A3,A4,A1,xg0,xg1,xbs,xms,ad6 wp,ae1 wp (sm8 (by omega) (by omega))]
  rfl
theorem aT7{w h:Nat}{p:Int×Int}(hp:p∈plc w (w*h)) (w1:1<=w):0<=p.1/\p.1 < w/\0<=p.2/\p.2 < h:=by
 obtain⟨k,hk,rfl⟩:=List.mem_map.mp hp
 have hk:=List.mem_range.mp hk
 have a:=Nat.mod_lt k (show w > 0 by omega)
 have b:=Nat.div_lt_of_lt_mul hk
 exact⟨Int.natCast_nonneg _,Int.ofNat_lt.mpr a,Int.natCast_nonneg _,Int.ofNat_lt.mpr b⟩
theorem ag9(w n:Nat):(plc w n).length=n:=by unfold plc;rw [List.length_map,List.length_range]
theorem ai3(w h:Int) (s:D) (x y:Int):N7 [.tuple [.int w,.int h,s],.int x,.int y]=some (.bool (decide (0<=x/\x < w/\0<=y/\y < h))):=by
 refine F7 (ρ:=[some (.val (.tuple [.int w,.int h,s])),some (.val (.int x)),some (.val (.int y))]) rfl ?_
 by_cases a:0<=x<;>by_cases b:x < w<;>by_cases c:0<=y<;>by_cases e:y < h<;>simp [n5,B1,B6,C8,sIf,E1,K1,P9,A1,dC,C9,E2,A4,A5,T1,dOr,T0,F9,dIx,M3,G3,U8,U7,U6,A6,qE,qN,P7,G1,E7,J6,A3,A0,P6,tB2,G9,G4,K0,U2,E4,D2,C0,F2,B7,F8,J0,Q9,xg0,xg1,xw0,xw1,xbs,xms,xmc,xmn,xna,xca,N5,M5,Y5,R8,O7,S2,W0,c6,c5,Z9,Z8,d7,d6,d5,W5,W4,xnt,xnf,xft,if_true,if_false,j7,ap8,a,b,c,e]
theorem ar5{n:Nat}{i:Int}(h0:0<=i) (h1:i < n):ixN n i=some i.toNat:=by unfold ixN;rw [if_pos h0,if_pos h1]
theorem atD(l:List Q4) {i:Int}(h0:0<=i) (h1:i < l.length):L2.atI (l.map Q4.d) i=some (l.getD i.toNat q0).d:=by
 unfold L2.atI
 rw [List.length_map,ar5 h0 h1,xbs,List.getElem?_map,List.getD_eq_getElem?_getD]
 have:i.toNat < l.length:=by omega
 rw [List.getElem?_eq_getElem this];rfl
theorem aA5{w h:Nat}{x y:Int}(b:0<=x/\x < w/\0<=y/\y < h):0<=y*w+x/\y*w+x < ((w*h:Nat):Int):=by
 obtain⟨a,b,c,e⟩:=b
 have p:0<=y*(w:Int):=Int.mul_nonneg c (by omega)
 refine⟨by omega,?_⟩
 have:(y+1)*(w:Int)<=h*(w:Int):=Int.mul_le_mul_of_nonneg_right (by omega) (by omega)
 have e2:(y+1)*(w:Int)=y*w+w:=by rw [Int.add_mul,Int.one_mul]
 have e3:((w*h:Nat):Int)=h*w:=by rw [Int.natCast_mul,Int.mul_comm]
 omega
theorem aB8{w h:Nat}{x y:Int}(s:D) (w8:w<=8) (h8:h<=8) (b:0<=x/\x < w/\0<=y/\y < h):G6 [.tuple [.int w,.int h,s],.int x,.int y]=some (.int (y*w+x)):=by
 refine F7 (ρ:=[some (.val (.tuple [.int w,.int h,s])),some (.val (.int x)),some (.val (.int y))]) rfl ?_
 wp_walk using evD,N6,ar1 (sm8 b.2.2.1 (by omega)) (sm8 (show(0:Int)<=w by omega) (by omega))
theorem V4{k w h:Nat}{l:List Q4}(S:ShOk k w h l) (x y:Int):K9 [shD w h l,.int x,.int y]=some (atQ w h l x y).d:=by
 refine F7 (ρ:=[some (.val (shD w h l)),some (.val (.int x)),some (.val (.int y))]) rfl ?_
 have hp:=ai3 w h (.tuple (l.map Q4.d)) x y
 unfold atQ
 by_cases b:0<=x/\x < w/\0<=y/\y < h
 ·rw [if_pos b]
  rw [decide_eq_true b]at hp
  have nm:=aB8 (.tuple (l.map Q4.d)) S.w8 S.h8 b
  have pn:=aA5 b
  have e:=atD l pn.1 (by rw [S.len];exact pn.2)
  wp_walk using evD,k6,shD,hp,nm,e
 ·rw [if_neg b]
  rw [decide_eq_false b]at hp
  wp_walk using evD,k6,shD,hp
  rfl
abbrev scr(ns:List Int):D:=.list (ns.map PyData.int)
theorem an9(ns:List Int) (k m:Nat) (hn:ns.length<=63) (hk:k < 2 ^ 60) (hm:0 < m):∃n:Nat,D5 [scr ns,.int k,.int m]=some (.int n)/\n < m:=by
 have a:=p9 ns k m hn hk (by omega)
 have b:=o9 ns k m (by omega)
 refine⟨(Z1 ns k m).toNat,?_,by omega⟩
 rw [a]
 congr 2
 omega
theorem ay2{h:D->D->Option D}{f g:DE}{ρ:Rho}{x y:D}(h1:f ρ=some x) (h2:g ρ=some y):A4 h f g ρ=h x y:=by unfold A4;rw [h1,xbs,h2,xbs]
theorem K2{α:Type}(a:α):∀n:Nat,(List.replicate n [a]).flatten=List.replicate n a
 | 0=>rfl
 | n+1=>by rw [List.replicate_succ,List.flatten_cons,K2 a n];rfl
theorem y9{xs:List D}{n:Nat}(hn:n<=1000) (hx:xs.length<=1000):D6 (.list xs) (.int n)=some (.list (List.replicate n xs).flatten):=by
 show(if 0<=(n:Int)/\(n:Int) < 1000000/\xs.length*((n:Int)).toNat<=16777216 then some (PyData.list (List.replicate ((n:Int)).toNat xs).flatten) else none)=_
 rw [Int.toNat_natCast,if_pos ⟨by omega,by omega,Nat.le_trans (Nat.mul_le_mul hx hn) (by decide)⟩]
theorem bB5(a:D) (r:List D):Z4 (a::r) none (some 1)=[a]:=by
 unfold Z4
 have h1:HT.sIx (a::r).length 0 none=0:=by simp [HT.sIx]
 have h2:HT.sIx (a::r).length (a::r).length (some 1)=1:=by simp only [HT.sIx,List.length_cons];first|omega|(simp;omega)|simp
 rw [h1,h2];rfl
theorem az1(ns:List Int) (k:Nat) (hn:ns.length<=63) (hk:k < 2 ^ 30):∃q:Q4,M9 [scr ns,.int k]=some q.d/\q.ok 8:=by
 obtain⟨c,x,y,z,e,S⟩:=bq4 ns k hn hk
 exact⟨⟨c,x,y,z⟩,e,S⟩
theorem aG2(ns:List Int) (at':Nat) (hn:ns.length<=63) (ha:at' < 2 ^ 20):∃f:Nat->Q4,∀k,k < 1000->M9 [scr ns,.int ((at'+12*k:Nat):Int)]=some (f k).d/\(f k).ok 8:=by
 refine⟨fun k=>if h:k < 1000 then Classical.choose (az1 ns (at'+12*k) hn (by omega)) else q0,fun k hk=>?_⟩
 simp only [dif_pos hk]
 exact Classical.choose_spec (az1 ns (at'+12*k) hn (by omega))
theorem ah9(ns:List Int) (at' w h:Nat) (hn:ns.length<=63) (ha:at' < 2 ^ 20) (w1:1<=w) (w8:w<=8) (h1:1<=h) (h8:h<=8):∃l:List Q4,J8 [scr ns,.int at',.int w,.int h]=some (shD w h l)/\ShOk 8 w h l:=by
 obtain⟨f,hf⟩:=aG2 ns at' hn ha
 have wh:w*h<=64:=Nat.mul_le_mul w8 h8
 have wh1:1<=w*h:=Nat.mul_le_mul w1 h1
 obtain⟨t,et,ht⟩:=an9 ns (at'+7) 3 hn (by omega) (by decide)
 have et':D5 [scr ns,.int ((at':Int)+7),.int 3]=some (.int t):=by rw [← et];simp
 have c:D7 1 [0,1] (G2 (A4 D6 (A1 2) (A1 3))) (C0 0) D2 (A5 M9 (A0 (A1 1) (A0 (A4 E9 (A1 2) (A4 D6 (dC (.int 12)) (A1 0))) A3))) [some (.val (scr ns)),some (.val (.int at')),some (.val (.int w)),some (.val (.int h)),none]=some ((List.range (w*h)).map fun k=>(f k).d):=by
  refine ah4 (l:=List.range (w*h)) (h:=fun k:Nat=>PyData.int k) (r:=[some (.val (scr ns)),some (.val (.int at'))]) rfl (o6 ?_ (by omega)) (by rw [List.length_range];omega) ?_
  ·exact S0 (by omega) (by omega)
  ·intro k hk
   have hk:=List.mem_range.mp hk
   have m12:D6 (.int 12) (.int k)=some (.int ((12*k:Nat):Int)):=S0 (i:=12) (by decide) (by omega)
   have e1:((at':Int)+((12*k:Nat):Int))=((at'+12*k:Nat):Int):=by omega
   wp_walk using evD,m12,e1,(hf k (by omega)).1
 have mwh:D6 (.int w) (.int h)=some (.int ((w*h:Nat):Int)):=S0 (by omega) (by omega)
 have cv:((t:Int)==0)=decide (t=0):=by cases t with
  | zero=>rfl
  | succ n=>rw [decide_eq_false (by omega)];exact beq_eq_false_iff_ne.mpr (by omega)
 obtain⟨n,en⟩:∃n,w*h=n+1:=⟨w*h - 1,by omega⟩
 by_cases t0:t=0
 ·refine⟨List.replicate (w*h) (f 0),?_,w1,w8,h1,h8,List.length_replicate ..,fun q hq=>by rw [(List.mem_replicate.mp hq).2];exact(hf 0 (by decide)).2⟩
  refine F7 (ρ:=[some (.val (scr ns)),some (.val (.int at')),some (.val (.int w)),some (.val (.int h)),none]) rfl ?_
  have hd:(List.range (w*h)).map (fun k=>(f k).d)=(f 0).d::(List.range n).map (fun k=>(f (k+1)).d):=by
   rw [en,List.range_succ_eq_map,xmc,List.map_map];rfl
  rw [hd]at c
  have v:A4 D6 (U5 (A1 4) G1 (E7 (dC (.int 1)))) (A4 D6 (A1 2) (A1 3)) [some (.val (scr ns)),some (.val (.int at')),some (.val (.int w)),some (.val (.int h)),some (.val (.list ((f 0).d::(List.range n).map (fun k=>(f (k+1)).d))))]=some (.list (List.replicate (w*h) (f 0).d)):=by
   have a1:U5 (A1 4) G1 (E7 (dC (.int 1))) [some (.val (scr ns)),some (.val (.int at')),some (.val (.int w)),some (.val (.int h)),some (.val (.list ((f 0).d::(List.range n).map (fun k=>(f (k+1)).d))))]=some (.list (Z4 ((f 0).d::(List.range n).map (fun k=>(f (k+1)).d)) none (some 1))):=rfl
   have a2:A4 D6 (A1 2) (A1 3) [some (.val (scr ns)),some (.val (.int at')),some (.val (.int w)),some (.val (.int h)),some (.val (.list ((f 0).d::(List.range n).map (fun k=>(f (k+1)).d))))]=some (.int ((w*h:Nat):Int)):=(ay2 rfl rfl).trans mwh
   rw [bB5]at a1
   have a3:=y9 (xs:=[(f 0).d]) (show w*h<=1000 by omega) (show 1<=1000 by decide)
   rw [K2]at a3
   exact(ay2 a1 a2).trans a3
  have t1:tB2 eqD (A5 D5 (A0 (A1 0) (A0 (A4 E9 (A1 1) (dC (.int 7))) (A0 (dC (.int 3)) A3)))) (dC (.int 0)) [some (.val (scr ns)),some (.val (.int at')),some (.val (.int w)),some (.val (.int h)),some (.val (.list ((f 0).d::(List.range n).map (fun k=>(f (k+1)).d))))]=some true:=by
   simp only [tB2,A4,A5,A0,A3,A1,dC,xms,xbs,xg0,xg1,j7,et',O7,cv,decide_eq_true t0,E4]
  simp only [k7,B1,K1,c,sIf,t1,B6,v,C8,C9,A0,A3,G3,A6,A1,xms,xbs,xw0,xw1,xg0,xg1,if_true,xft,if_false,shD,List.map_replicate]
 ·refine⟨(List.range (w*h)).map f,?_,w1,w8,h1,h8,by rw [List.length_map,List.length_range],fun q hq=>by
   obtain⟨k,hk,rfl⟩:=List.mem_map.mp hq
   exact(hf k (by have:=List.mem_range.mp hk;omega)).2⟩
  refine F7 (ρ:=[some (.val (scr ns)),some (.val (.int at')),some (.val (.int w)),some (.val (.int h)),none]) rfl ?_
  wp_walk using evD,k7,c,et',cv,decide_eq_false t0,shD,List.map_map
  rfl
theorem q4:(4:Nat)<=16777216:=by decide
theorem q3:(3:Nat)<=16777216:=by decide
end Sh
namespace G
open PySem PySem.Spec PyProof.Rows L2
section
variable {prog:Program}{w:World}{A:Around}{E:Value->Shared->Prop}{s:Shared}{t:Bool}
end
section
variable {X:Cx}
end
section
variable {prog:Program}{w:World}{A:Around}{E:Value->Shared->Prop}{s:Shared}
theorem v5{l b sl:Addr}{items new:Array Value}{n n2:Nat}{vl vu:Value}{lo hi:Option Int}{Q:Unit->Shared->Prop}
    (e:s.heap.get? l=some { cls:=.type "list", data:=.seq items n }) (e2:s.heap.get? b=some { cls:=.type "list", data:=.seq new n2 }) (hne:l≠b)
    (hs:s.heap.IsSliceOf sl vl vu .none) (pl:IsPart vl lo) (pu:IsPart vu hi) (hsz:items.size+new.size<=sizeLine)
    (h:Q () { s with heap:=s.heap.update l (Obj.mapSeq fun xs=>xs.extract 0 (HT.sIx items.size 0 lo)++new++xs.extract (max (HT.sIx items.size 0 lo) (HT.sIx items.size items.size hi)) xs.size) }) :
    wpAny (model prog w) A (setItem (.ref l) (.ref sl) (.ref b)) Q E s:=by
  have hl:s.heap.IsList l items:=PySem.IsL.isList e
  have hb:s.heap.IsList b new:=PySem.IsL.isList e2
  obtain⟨os,hos,hcs,hds⟩:=id hs
  have hTs:s.TypeIs (.ref sl) "slice" := ⟨os,hos,hcs⟩
  have hstep:¬((rawPart none==rawInt 0)=true):=Bool.false_ne_true
  have hsame:Builtin.List.listSameRef (.ref l) (.ref b)=false:=by
    unfold Builtin.List.listSameRef
    exact beq_eq_false_iff_ne.mpr hne
  have hbd:sliceBounds lo hi none items.size=(((HT.sIx items.size 0 lo:Nat):Int),((HT.sIx items.size items.size hi:Nat):Int),1):=by
    obtain⟨h1,h2,h3⟩:=X2 lo hi items.size
    exact Prod.ext h1 (Prod.ext h2 h3)
  have hmax:(max ((HT.sIx items.size 0 lo:Nat):Int) ((HT.sIx items.size items.size hi:Nat):Int)).toNat=max (HT.sIx items.size 0 lo) (HT.sIx items.size items.size hi):=by omega
  have hz':((fun xs:Array Value=>xs.extract 0 (HT.sIx items.size 0 lo)++new++xs.extract (max (HT.sIx items.size 0 lo) (HT.sIx items.size items.size hi)) xs.size) items).size<=sizeLine+1:=by
    simp only [Array.size_append,Array.size_extract]
    omega
  unfold setItem
  try with_reducible refine wpAny_holding ?_
  first|refine wpAny_bind (wpAny_pure ?_)|skip
  refine wpAny_bind (wpAny_sequenceKey hl.typeIs (by decide) ?_)
  refine wpAny_bind (wpAny_callSpecial?_slot (name:=Str.ofString "__setitem__") hl.typeIs slot_list_setitem (wpAny_call_entry slot_list_setitem hl.typeIs entry_list_setitem ?_ (args_list_setitem _ _ _)))
  show wpAny _ _ (Builtin.List.listSubscript? (.ref sl) >>= _) _ _ s
  refine wpAny_bind ?_
  unfold Builtin.List.listSubscript?
  refine wpAny_bind (wpAny_specialOf hTs slice_no_index ?_)
  simp only [Option.isNone_none,if_true]
  refine wpAny_pure ?_
  show wpAny _ _ (typeOf (.ref sl) >>= _) _ _ s
  refine wpAny_bind (wpAny_typeOf hTs ?_)
  first
    | rw [if_neg (by decide)]
    | refine PySem.W.KFB.if_not (by decide) ?_
  rw [listSliceParts_eq]
  refine wpAny_bind (wpAny_bind (wpAny_field hos hds (x:=.none) rfl (wpAny_bind (wpAny_listPart .none ?_))))
  rw [if_neg hstep]
  refine wpAny_bind (wpAny_field hos hds (x:=vl) rfl (wpAny_bind (wpAny_listPart pl ?_)))
  refine wpAny_bind (wpAny_field hos hds (x:=vu) rfl (wpAny_bind (wpAny_listPart pu (wpAny_pure ?_))))
  first
    | simp only [hsame,xft,if_false]
    | refine PySem.W.KFB.if_not hsame ?_
    | (dsimp only
       rw [if_neg (by rw [hsame];exact Bool.false_ne_true)])
  refine wpAny_bind (m:=Builtin.List.listAllItems (.ref b) "must assign iterable to extended slice") ?_
  unfold Builtin.List.listAllItems
  refine wpAny_bind (wpAny_typeOf hb.typeIs ?_)
  first
    | refine PySem.W.KFB.if_so (by decide) ?_
    | rw [if_pos (by decide)]
    | simp only [beq_self_eq_true,Bool.true_or,if_true]
  unfold Builtin.List.listItems
  refine wpAny_bind (wpAny_seqItems e2 rfl (wpAny_pure ?_))
  refine wpAny_bind (wpAny_bind (wpAny_seqItems e rfl (wpAny_pure ?_)))
  refine wpAny_bind (wpAny_of_eq ((sliceIndices_raw lo hi none items.size (by simp)).trans (congrArg (pure:Int×Int×Int->Sem (Int×Int×Int)) hbd)) ?_)
  show wpAny _ _ (if((1:Int)==1)=true then _ else _) _ _ s
  rw [if_pos (by decide)]
  refine wpAny_bind (wpAny_rule ?_)
  first
    | simp only [R6 hsz,xft,if_false]
    | refine PySem.W.KFB.if_not (R6 hsz) ?_
  first|refine wpAny_bind (wpAny_pure ?_)|skip
  show wpAny _ _ (updateSeq l (fun xs=>xs.extract 0 (((HT.sIx items.size 0 lo:Nat):Int)).toNat++new++xs.extract (max ((HT.sIx items.size 0 lo:Nat):Int) ((HT.sIx items.size items.size hi:Nat):Int)).toNat xs.size) >>= _) _ _ s
  rw [hmax,Int.toNat_natCast]
  refine wpAny_bind (wpAny_updateSeq (hz:=Nat.le_trans (Nat.le_add_right _ _) hsz) (_hz':=hz') e rfl ?_)
  refine wpAny_bind (wpAny_letGo ?_)
  first
    | exact wpAny_bind (wpAny_pure (wpAny_pure ⟨.none,rfl,wpAny_pure h⟩))
    | exact wpAny_pure ⟨.none,rfl,wpAny_pure h⟩
end
section
variable {X:Cx}
def aj9{α:Type}(xs:List α) (lo hi:Option Int) (ys:List α):List α:=xs.take (HT.sIx xs.length 0 lo)++ys++xs.drop (max (HT.sIx xs.length 0 lo) (HT.sIx xs.length xs.length hi))
theorem aq2{pins:List (Addr×Obj)}{s:Shared}{σ:L2.St}{H:Hp}{l b sl:Addr}{xs ys:List V}{lo hi:Option Int}{vl vu:Value}{Q:Unit->Shared->Prop}(I:Inv X pins σ H s)
  (hH:H l=some (.lst xs)) (hB:H b=some (.lst ys)) (hne:l≠b) (hs:s.heap.IsSliceOf sl vl vu .none) (pl:IsPart vl lo) (pu:IsPart vu hi)
  (hz:xs.length+ys.length<=sizeLine) (h:∀s',Inv X pins σ (upd H l (.lst (aj9 xs lo hi ys))) s'->Q () s') :
  wpAny (model X.prog X.w) X.A (setItem (.ref l) (.ref sl) (.ref b)) Q X.xe s:=by
 obtain⟨z,its,n,r,hl,e⟩:=I.lstM hH
 obtain⟨z2,its2,n2,r2,hl2,e2⟩:=I.lstM hB
 refine v5 e e2 hne hs pl pu (by rw [List.size_toArray,List.size_toArray];omega) (h _ ?_)
 have hz0:its.toArray.size=xs.length:=by rw [List.size_toArray];exact hl.symm
 refine I.lset (its':=its.take (HT.sIx xs.length 0 lo)++its2++its.drop (max (HT.sIx xs.length 0 lo) (HT.sIx xs.length xs.length hi))) (t':=s.toks) hH e ?_ (C3.append (C3.append (r.take _) r2) (r.drop _)) ?_
 ·have e0:=aA0 its its2 (HT.sIx xs.length 0 lo) (max (HT.sIx xs.length 0 lo) (HT.sIx xs.length xs.length hi))
  rw [hz0]at e0 ⊢
  exact e0
 ·unfold aj9
  rw [List.length_append,List.length_append,List.length_take,List.length_drop]
  omega
theorem aG7{K:PySem.W.Frag}{H:Hp}{ds es:List D}{vs us:List V}(h:Reps K H ds vs) (g:Reps K H es us) (lo hi:Option Int):Reps K H (aj9 ds lo hi es) (aj9 vs lo hi us):=by
 unfold aj9
 rw [h.length]
 exact((h.take _).append g).append (h.drop _)
theorem Slots.reOwn{K:PySem.W.Frag}{H0 H Hf:Hp}{ρ:Rho}{σ:L2.St}{i:Nat}{ds ds':List D}{b:Addr}{vs':List V}(sl:Slots K H0 ρ σ H Hf) (eo:ρ[i]? = some (some (.own ds))) (h1:σ[i]? = some (some (.ref b))) (hf:Hf b=none) (h0:H0 b=none) (r:Reps K Hf ds' vs') :
  Slots K H0 (ρ.set i (some (.own ds'))) σ (upd H b (.lst vs')) Hf:=by
 refine⟨by simpa using sl.len,fun j bb z=>?_,fun j k ds1 es c q1 q2 q3 q4=>?_⟩
 ·by_cases qj:i=j
  ·subst qj
   have hi:i < ρ.length:=(List.getElem?_eq_some_iff.mp eo).1
   rw [List.getElem?_set_self hi]at z
   cases z
   exact⟨_,h1,b,vs',rfl,B0,hf,h0,r⟩
  ·rw [List.getElem?_set_ne qj]at z
   obtain⟨u,z1,z2⟩:=sl.is j bb z
   refine⟨u,z1,?_⟩
   cases bb with
   | val d=>exact z2
   | exc C=>exact z2
   | own dd =>
    obtain⟨a',us',y1,y2,y3,y4,y5⟩:=z2
    have ne:a'≠b:=fun zz=>by
     subst zz y1
     exact qj (sl.apart i j ds dd a' eo z h1 z1)
    exact⟨a',us',y1,by rw [A8 ne];exact y2,y3,y4,y5⟩
 ·have f:∀(j:Nat) (es:List D),(ρ.set i (some (B.own ds')))[j]? = some (some (B.own es))->∃dd:List D,ρ[j]? = some (some (B.own dd)):=fun j es q=>by
   by_cases qj:i=j
   ·subst qj;exact⟨ds,eo⟩
   ·rw [List.getElem?_set_ne qj]at q;exact⟨_,q⟩
  obtain⟨d1,q1'⟩:=f j _ q1
  obtain⟨d2,q2'⟩:=f k _ q2
  exact sl.apart j k d1 d2 c q1' q2' q3 q4
def bt3(i:Nat) (lo hi:Rho->Option (Option Int)) (f:Rho->Option (List D)):DS:=fun ρ=>(f ρ).bind fun es=>(lo ρ).bind fun l=>(hi ρ).bind fun h=>match ρ[i]? with
 | some (some (.own ds))=>if ds.length+es.length<=16777216 then some (.nx (ρ.set i (some (.own (aj9 ds l h es))))) else none
 | _=>none
theorem bk8(i:Nat) {x:Str}{e:Expr}{lo hi:Option Expr}{f:Rho->Option (List D)}{l h:Rho->Option (Option Int)}{p p2 pos' pos:Pos}(he:JN X e f) (hl:JO X lo l) (hh:JO X hi h) (hN:X.N[i]? = some x:=by rfl)
  (hv:Vis X.env.scope x:=by first|exact Or.inl rfl|exact Or.inr (Or.inl rfl)|exact Or.inr (Or.inr rfl)) (hd:(x==("__debug__" : Str))=false:=by decide) (hcd:(x==("__classdict__" : Str))=false:=by decide)
  (hsw:swapsWith e (some (.Subscript (.Name x p) (.Slice lo hi none p2) pos')) pos.line X.env=pure false:=by rfl):JS X (.Assign [.Subscript (.Name x p) (.Slice lo hi none p2) pos'] e pos) (bt3 i l h f):=fun ρ fl q H0 Hf0=>by
 obtain⟨es,e1,q⟩:=Option.bind_eq_some_iff.mp q
 obtain⟨y,e2,q⟩:=Option.bind_eq_some_iff.mp q
 obtain⟨z,e3,q⟩:=Option.bind_eq_some_iff.mp q
 split at q
 ·rename_i ds eo
  split at q
  ·rename_i hz
   cases q
   intro pins s σ H En I ⟨Hf,a,ee⟩
   refine wpAny_Assign_Subscript (thn (he ρ es e1 pins s σ H (fun v H'=>∃Hf',Grow H Hf H' Hf'/\∃b us,v=.ref b/\H b=none/\H' b=some (.lst us)/\Hf' b=none/\Reps X.K Hf' es us) I ⟨H0,Hf,a.gr.sub,a.sl,fun v H' Hf' g r=>⟨Hf',g,r⟩⟩) fun v s1 ⟨x1,H1,I1,r1,Hf1,g1,b,us,ev,b1,b2,b3,b4⟩=>?_) hsw
   subst ev
   cases r1
   obtain⟨vl0,h1,c,vs,ev,h2,h3,h4,h5⟩:=a.sl.is i _ eo
   subst ev
   refine thn (Q0 hN hv hd hcd pins s1 σ H1 (fun v H'=>v=.ref c/\H'=H1) I1 ⟨_,h1,rfl,rfl⟩) fun ov s2 ⟨x2,H2,I2,r2,ex,eH⟩=>?_
   subst ex eH
   cases r2
   have sl1:=a.sl.grow g1
   refine wpAny_Slice (thn (hl ρ y e2 pins s2 σ H2 (fun o H'=>o=y/\∃Hf',Grow H2 Hf1 H' Hf') I2 ⟨H0,Hf1,g1.sub,sl1,fun H' Hf' g=>⟨rfl,Hf',g⟩⟩) fun wl s3 ⟨o3,H3,I3,pl,eo3,Hf3,g3⟩=>?_)
   subst eo3
   have sl3:=sl1.grow g3
   refine thn (hh ρ z e3 pins s3 σ H3 (fun o H'=>o=z/\∃Hf',Grow H3 Hf3 H' Hf') I3 ⟨H0,Hf3,g3.sub,sl3,fun H' Hf' g=>⟨rfl,Hf',g⟩⟩) fun wu s4 ⟨o4,H4,I4,pu,eo4,Hf4,g4⟩=>?_
   subst eo4
   have sl4:=sl3.grow g4
   have gg:Grow H Hf H4 Hf4:=(g1.trans g3).trans g4
   rw [evalPart_none]
   refine wpAny_pure ?_
   have I5:Inv X pins σ H4 { s4 with heap:=s4.heap.push { cls:=.type "slice", data:=.fields #[wl,wu,.none] } }:=I4.kept (t':=s4.toks) fun b ob q=>Heap.get?_push_of_some _ q
   have hc:H4 c=some (.lst vs):=gg.big _ _ h2
   have hb:H4 b=some (.lst us):=(g3.trans g4).big _ _ b2
   have hcb:c≠b:=fun zz=>by subst zz;rw [h2]at b1;cases b1
   have hfc:Hf4 c=none:=gg.nofr h2 h3
   have rd:Reps X.K Hf4 (aj9 ds o3 o4 es) (aj9 vs o3 o4 us):=aG7 (h5.mono gg.ext) (b4.mono (g3.trans g4).ext) _ _
   refine aq2 I5 hc hb hcb (Heap.IsSliceOf.new ..) pl pu (by rw [h5.length,b4.length,sizeLine_eq];exact hz) fun s' I'=>?_
   have ga:=a.gr.trans gg
   refine⟨σ,_,I',ee σ _ Hf4 ⟨⟨fun d u zz=>?_,fun d u zz=>?_,ga.ext,ga.new⟩,sl4.reOwn eo h1 hfc h4 rd⟩ gg.ext⟩
   ·rw [A8 (B3 zz h4)];exact ga.big d u zz
   ·rw [A8 (B3 zz hfc)];exact ga.sub d u zz
  ·cases q
 ·cases q
theorem aW6(i:Nat) {N':List Str}{n:Nat}{caps:List Nat}{scope:Scope}{elt tgt iter:Expr}{ifs:List Expr}{pos pos' spos:Pos}{x:Str}{src:Rho->Option (List D)}{g:D->Rho->Option Rho}{c:Rho->Option Bool}{e:DE}(hN:X.N.Nodup) (S:CompSc X N' n caps scope) (hx:∀e s,X.xe e s->False)
  (hi:JI X tgt iter src) (hg:∀C s0 H0 ex,JG (D0 X N' scope C s0 H0 ex) tgt g) (ht:∀C s0 H0 ex,JTs (D0 X N' scope C s0 H0 ex) ifs c) (he:∀C s0 H0 ex,JE (D0 X N' scope C s0 H0 ex) elt e)
  (hi2:X.N[i]? = some x:=by rfl) (hl:X.env.scope.names.lookup x=some .local:=by rfl) (hsw:swapsWith (.ListComp elt [⟨tgt,iter,ifs,0⟩] scope pos) (some (.Name x pos')) spos.line X.env=pure true:=by rfl)
  (hc:X.calm=true:=by rfl) (hs:∀x,foldedSetIterable iter X.env x=pure x:=by intro _;rfl):JS X (.Assign [.Name x pos'] (.ListComp elt [⟨tgt,iter,ifs,0⟩] scope pos) spos) (aG4 i (D7 n caps src g c e)):=fun ρ fl q H0 Hf0=>by
 obtain⟨out,e1,e2⟩:=Option.map_eq_some_iff.mp q
 subst e2
 obtain⟨ds,e3,k⟩:=W3 (K:=X.K) e1
 refine G5 (x8 S hx hc hN hi2 hl (hi ρ ds e3) (g:=tgJ X.K g) (tc:=ac0 X.K c) (te:=at8 X.K e) hg ht (fun C s0 H0 ex pins s σ H Q I ⟨ρ,d,e,t⟩=>he C s0 H0 ex ρ d e pins s σ H Q I t) hsw hs) fun En σ H ⟨Hf,a,ee⟩=>k σ H _ ⟨H0,Hf,a.gr.sub,a.sl,fun v H' Hf' gg ⟨p,vs,z1,z2,z3,z4,z5⟩=>?_⟩
 subst z1
 exact ee _ H' Hf' ⟨a.gr.trans gg,a.sl.setOwn gg (a.gr.big.free z2) z2 z3 z4 z5⟩ gg.ext
def ba5:DS:=fun ρ=>some (.ct ρ)
theorem aW7{pos:Pos}:JS X (.Continue pos) ba5:=fun ρ fl q H0 Hf0=>by
 cases q
 exact G5 al0 fun En σ H ⟨Hf,a,e⟩=>e σ H Hf a (C2.refl _)
end
section
variable {X:Cx}
def aS4(x:Str) (k:Int):Str:=if(k==1 || x.length==0)=true then x else⟨(List.replicate k.toNat x.cps).foldl (·++·) #[]⟩
def bj5(x y:D):Option D:=match x,y with
 | .str x,.int k=>if 1<=k/\k<=2/\x.length<=1000/\(aS4 x k).length<=16777216 then some (.str (aS4 x k)) else none
 | _,_=>none
theorem aV4:OpD X (binaryOp .Mult) bj5:=fun x y z h=>by
 unfold bj5 at h
 split at h
 ·split at h
  ·rename_i x k c
   cases h
   intro pins s σ H vx vy v u Q I rx ry ⟨Hf,ss,r1,r2,kk⟩
   cases r1
   cases r2
   obtain⟨t,rfl⟩:=rx
   obtain⟨t2,rfl⟩:=ry
   have w:=kk (.str (aS4 x k)) H Hf (Grow.refl ss) rfl
   have k12:k=1\/k=2:=by omega
   refine P.mul_str (by rw [decide_eq_false (by omega),decide_eq_false (by omega)];rfl) (fun _ _=>by rcases k12 with rfl|rfl<;>omega) (fun _ _=>?_) ?_
   ·unfold Builtin.Str.tooLong
    rw [sizeLine_eq]
    refine decide_eq_false ?_
    rcases k12 with rfl|rfl<;>simp<;>omega
   ·rw [if_neg (by omega)]
    unfold aS4 at w c
    split
    ·rename_i e
     rw [if_pos e]at w
     exact⟨.str x,H,I,⟨_,rfl⟩,w⟩
    ·rename_i e
     rw [if_neg e]at w c
     exact⟨by rw [sizeLine_eq];exact c.2.2.2,.str _,H,I.tok _,⟨_,rfl⟩,w⟩
  ·cases h
 ·cases h
def slS(x:Str) (lo hi:Option Int):Str:=if((1:Int)==1&&(Builtin.Str.strSliceIndices lo hi 1 x.length).length==x.length)=true then x else⟨((Builtin.Str.strSliceIndices lo hi 1 x.length).filterMap (x.cps[·]?)).toArray⟩
def by0(f:DE) (lo hi:Rho->Option (Option Int)):DE:=fun ρ=>(f ρ).bind fun d=>(lo ρ).bind fun l=>(hi ρ).bind fun h=>match d with
 | .str x=>if x.length<=1000/\(slS x l h).length<=16777216 then some (.str (slS x l h)) else none
 | _=>none
theorem aw0{u:Value}{o:Option Int}(h:IsPart u o):∃p:Option (Int×Tok),u=partValue p/\p.map (·.1)=o:=by
 cases h with
 | none=>exact⟨none,rfl,rfl⟩
 | int i t=>exact⟨some (i,t),rfl,rfl⟩
theorem aS1:SlR X (fun x lo hi H Q=>∃z,x=.str z/\(slS z lo hi).length<=16777216/\Q (.str (slS z lo hi)) H):=by
 intro pins s σ H x v vl vu lo hi sl Q I rx hs pl pu h
 obtain⟨z,rfl,hz,q⟩:=h
 obtain⟨t,rfl⟩:=rx
 obtain⟨pl',rfl,rfl⟩:=aw0 pl
 obtain⟨pu',rfl,rfl⟩:=aw0 pu
 refine⟨"str", _,F.slot_str_getitem.lookup,typeIs_str s z t,wpAny_getItem_str_slice (l:=pl') (u:=pu') (st:=none) hs rfl ?_⟩
 show(if((1:Int)==1&&(Builtin.Str.strSliceIndices (pl'.map (·.1)) (pu'.map (·.1)) 1 z.length).length==z.length)=true then Made.val (.str z t) else Made.str ⟨((Builtin.Str.strSliceIndices (pl'.map (·.1)) (pu'.map (·.1)) 1 z.length).filterMap (z.cps[·]?)).toArray⟩).post _ _
 unfold slS at q hz
 by_cases e:((1:Int)==1&&(Builtin.Str.strSliceIndices (pl'.map (·.1)) (pu'.map (·.1)) 1 z.length).length==z.length)=true
 ·rw [if_pos e]at q ⊢
  exact⟨.str z,H,I,⟨_,rfl⟩,q⟩
 ·rw [if_neg e]at q hz ⊢
  exact⟨by rw [sizeLine_eq];exact hz,.str _,H,I.tok _,⟨_,rfl⟩,q⟩
theorem bm7{a:Expr}{lo hi:Option Expr}{f:DE}{l h:Rho->Option (Option Int)}{pos p2:Pos}(ha:JE X a f) (hl:JO X lo l) (hh:JO X hi h):JE X (.Subscript a (.Slice lo hi none p2) pos) (by0 f l h):=fun ρ d q=>by
 obtain⟨x,e1,q⟩:=Option.bind_eq_some_iff.mp q
 obtain⟨y,e2,q⟩:=Option.bind_eq_some_iff.mp q
 obtain⟨z,e3,q⟩:=Option.bind_eq_some_iff.mp q
 cases x with
 | str x =>
  simp only at q
  split at q
  ·rename_i c
   cases q
   refine B2 (Y1 aS1 (ha ρ _ e1) (hl ρ y e2) (hh ρ z e3)) fun σ H Q ⟨H0,Hf,s,sl,k⟩=>?_
   refine⟨H0,Hf,s,sl,fun v H1 Hf1 g1 r1=>⟨H0,Hf1,g1.sub,sl.grow g1,fun H2 Hf2 g2=>⟨H0,Hf2,g2.sub,sl.grow (g1.trans g2),fun H3 Hf3 g3=>?_⟩⟩⟩
   exact⟨x,r1,c.2,k _ H3 Hf3 ((g1.trans g2).trans g3) rfl⟩
  ·cases q
 | _=>cases q
def bg2(i:Nat) (f:DE):DS:=fun ρ=>match ρ[i]? with
 | some (some (.own ds))=>(f ρ).bind fun d=>match d with
  | .list es=>if ds.length+es.length<=16777216 then some (.nx (ρ.set i (some (.own (ds++es))))) else none
  | .tuple es=>if ds.length+es.length<=16777216 then some (.nx (ρ.set i (some (.own (ds++es))))) else none
  | _=>none
 | _=>none
end
end G
namespace Sh
open PySem PySem.Spec PyProof.Rows L2 G
end Sh
namespace Sh
open PySem G L2
inductive Nd where
 | layer (nm:D) (m:Man) (s:Rat) (sh:Bool) (lf tp:Int) (mk:Option (List Rat)) (w h:Nat) (l:List Q4) (kb:Nat)
 | tone (nm:D) (r:Rul) (s:Rat) (sh:Bool)
 | group (nm:D) (m:Man) (s:Rat) (sh:Bool) (ns:List Nd)
section
variable {nm:D}{m:Man}{r:Rul}{s:Rat}{sh:Bool}{lf tp:Int}{mk:Option (List Rat)}{w h:Nat}{l:List Q4}{kb:Nat}{ns:List Nd}
end
theorem C4{f g:DS}{ρ ρ':Rho}(h:f ρ=some (.nx ρ')):B1 f g ρ=g ρ':=by unfold B1;rw [h];rfl
theorem aO6{α:Type}(x:α) {n:Nat}{P:Nat->α->Prop}(h:∀j,j < n->∃a,P j a):∃f:Nat->α,∀j,j < n->P j (f j):=by
 refine⟨fun j=>if hj:j < n then Classical.choose (h j hj) else x,fun j hj=>?_⟩
 simp only [dif_pos hj]
 exact Classical.choose_spec (h j hj)
theorem ai5(ns:List Int) (hn:ns.length<=63) {e m':Int}(k m:Nat) (he:e=(k:Int)) (hm':m'=(m:Int)) (hk:k < 2 ^ 60) (hm:0 < m):∃n:Nat,D5 [scr ns,.int e,.int m']=some (.int n)/\n < m:=by
 subst he hm'
 exact an9 ns k m hn hk hm
theorem ak1(ns:List Int) (hn:ns.length<=63) {e:Int}(k w h:Nat) (he:e=(k:Int)) (hk:k < 2 ^ 20) (w1:1<=w) (w8:w<=8) (h1:1<=h) (h8:h<=8):∃l:List Q4,J8 [scr ns,.int e,.int w,.int h]=some (shD w h l)/\ShOk 8 w h l:=by
 subst he
 exact ah9 ns k w h hn hk w1 w8 h1 h8
end Sh
namespace G
open PySem PySem.Spec PyProof.Rows L2
section
variable {X:Cx}
def bw0(f g:Rho->Option (Bool×List D)):Rho->Option (List D):=fun ρ=>(f ρ).bind fun p=>(g ρ).bind fun q=>if p.1=false/\q.1=false/\p.2.length+q.2.length<=16777216 then some (p.2++q.2) else none
theorem bm1{a b:Expr}{f g:Rho->Option (Bool×List D)}{pos:Pos}(ha:JQ X a f) (hb:JQ X b g):JN X (.BinOp a .Add b pos) (bw0 f g):=fun ρ out q=>by
 obtain⟨⟨t1,xs⟩,e1,q⟩:=Option.bind_eq_some_iff.mp q
 obtain⟨⟨t2,ys⟩,e2,q⟩:=Option.bind_eq_some_iff.mp q
 split at q
 ·rename_i c
  obtain⟨c1,c2,c3⟩:=c
  simp only at c1 c2 c3
  subst c1 c2
  cases q
  refine B2 (bb1 aw1 (ha ρ _ _ e1) (hb ρ _ _ e2)) fun σ H Q ⟨H0,Hf,s,sl,k⟩=>?_
  refine⟨H0,Hf,s,sl,fun v H1 Hf1 g1 ⟨p,vs,z1,z2,z3⟩=>⟨H0,Hf1,g1.sub,sl.grow g1,fun u H2 Hf2 g2 ⟨p',us,z1',z2',z3'⟩=>?_⟩⟩
  subst z1 z1'
  refine⟨p,p',vs,us,rfl,rfl,D1 g2.big z2,z2',by rw [z3.length,z3'.length,sizeLine_eq];exact c3,fun n hn=>?_⟩
  exact k _ _ _ ((g1.trans g2).trans (Grow.made g2.sub hn)) ⟨n,vs++us,rfl,(g1.trans g2).big.free hn,B0,g2.sub.free hn,(z3.mono g2.ext).append z3'⟩
 ·cases q
end
end G
namespace Sh
open PySem PySem.Spec PyProof.Rows L2 G
end Sh
namespace Sh
open PySem G L2
theorem an3{g:D->Rho->Option Rho}{f:DS}{I:Rho->Prop}:∀(X:List D) (ρ:Rho),I ρ->(∀x∈X,∀ρ,I ρ->∃ρ1,g x ρ=some ρ1/\∃ρ',f ρ1=some (.nx ρ')/\I ρ')->∃ρ',W1 g f X ρ=some (.nx ρ')/\I ρ'
 | [],ρ,h,_=>⟨ρ,rfl,h⟩
 | x::X,ρ,h,H=>by
  obtain⟨ρ1,e1,ρ2,e2,h2⟩:=H x (List.mem_cons_self ..) ρ h
  obtain⟨ρ',e3,h3⟩:=an3 X ρ2 h2 fun y hy=>H y (List.mem_cons_of_mem _ hy)
  exact⟨ρ',by simp only [W1,e1,xbs,e2,e3],h3⟩
end Sh
namespace G
open PySem PySem.Spec PyProof.Rows L2
section
variable {X:Cx}
theorem aY8(l b:Addr) (xs ys:Array Value) (n m:Nat) (dd:Option Addr) (sl:Array (Option Value)) (h0:¬(!xs.isEmpty&&Builtin.List.listTooLong (xs.size+ys.size))=true) (h1:xs.size<=sizeLine) (h2:xs.size+ys.size<=sizeLine+1) :
  Meets (Builtin.«list.extend» ⟨[.ref l,.ref b],[]⟩) (fun _ R s=>s.heap.get? l=some { cls:=.type "list", data:=.seq xs n }/\s.heap.get? b=some ⟨.type "list", dd,.seq ys m,sl⟩ /\
   R (.ok (.ret Value.none)) { s with heap:=s.heap.update l (Obj.mapSeq fun x=>x++ys),toks:=s.toks }) :=
 .of_wp fun prog w A R s h=>by
  obtain⟨hp,g,d,tk,os⟩:=s
  obtain⟨hl,hb,h⟩:=h
  have f1:=AutoSeq1.idx_int
  have f2:=AutoSeq1.sub_tuple_tuple
  have f3:=AutoSeq1.sub_list_list
  have f4:=AutoSeq1.sub_tuple_list
  have f5:=AutoSeq1.sub_list_tuple
  have hz':(xs++ys).size<=sizeLine+1:=by rw [Array.size_append];exact h2
  wp_walk using (wpAny_updateSeq hl rfl (hz:=h1) (_hz':=hz')),AutoSeq1.wpAny_loadPart' hl,AutoSeq1.wpAny_loadPart' hb
  exact⟨_,rfl,h⟩
theorem aY7(l b:Addr) (xs ys:Array Value) (n m:Nat) (dd:Option Addr) (sl:Array (Option Value)) (h0:¬(!xs.isEmpty&&Builtin.List.listTooLong (xs.size+ys.size))=true) (h1:xs.size<=sizeLine) (h2:xs.size+ys.size<=sizeLine+1) :
  Meets (Builtin.«list.extend» ⟨[.ref l,.ref b],[]⟩) (fun _ R s=>s.heap.get? l=some { cls:=.type "list", data:=.seq xs n }/\s.heap.get? b=some ⟨.type "tuple", dd,.seq ys m,sl⟩ /\
   R (.ok (.ret Value.none)) { s with heap:=s.heap.update l (Obj.mapSeq fun x=>x++ys),toks:=s.toks }) :=
 .of_wp fun prog w A R s h=>by
  obtain⟨hp,g,d,tk,os⟩:=s
  obtain⟨hl,hb,h⟩:=h
  have f1:=AutoSeq1.idx_int
  have f2:=AutoSeq1.sub_tuple_tuple
  have f3:=AutoSeq1.sub_list_list
  have f4:=AutoSeq1.sub_tuple_list
  have f5:=AutoSeq1.sub_list_tuple
  have hz':(xs++ys).size<=sizeLine+1:=by rw [Array.size_append];exact h2
  wp_walk using (wpAny_updateSeq hl rfl (hz:=h1) (_hz':=hz')),AutoSeq1.wpAny_loadPart' hl,AutoSeq1.wpAny_loadPart' hb
  exact⟨_,rfl,h⟩
def bA7(K:PySem.W.Frag):V->List V->Hp->VK->Prop:=fun x vs H Q=>∃l b xs zs,x=.ref l/\vs=[.ref b]/\H l=some (.lst xs)/\(SqL K H b zs\/SqT K H b zs)/\xs.length+zs.length<=sizeLine/\Q .non (upd H l (.lst (xs++zs)))
theorem aJ6:MtM X "list.extend" (bA7 X.K):=by
 intro pins s σ H x vs v us Q I rx rv h
 obtain⟨l,b,xs,zs,rfl,rfl,hH,hB,hz,q⟩:=h
 cases rx
 obtain⟨u,rfl,ru⟩:=rv.one
 cases ru
 obtain⟨z,its,n,r,hl,e⟩:=I.lstM hH
 rcases hB with hB|hB
 ·obtain⟨its2,r2,pl,_⟩:=I.list hB
  obtain⟨⟨cls,dd,data,sl⟩,ho,hc,m,hd⟩:=pl.isList
  simp only at hc hd
  subst hc hd
  have hl2:=r2.length
  have hsz:its.toArray.size+its2.toArray.size<=sizeLine:=by rw [List.size_toArray,List.size_toArray];omega
  have hlong:¬(!its.toArray.isEmpty&&Builtin.List.listTooLong (its.toArray.size+its2.toArray.size))=true:=by
   rw [R6 hsz,Bool.and_false];exact Bool.false_ne_true
  refine call_meets F.slot_list_extend ⟨_,e,rfl⟩ F.entry_list_extend (F.args_list_extend_2 _ _) (aY8 l b its.toArray its2.toArray n m dd sl hlong (by rw [List.size_toArray];omega) (by omega)) ⟨e,ho,?_⟩
  refine⟨.non,_,I.lset (its':=its++its2) hH e (by simp) (r.append r2) ?_,rfl,q⟩
  rw [List.length_append];omega
 ·obtain⟨its2,r2,pl,_⟩:=I.tuple hB
  obtain⟨⟨cls,dd,data,sl⟩,ho,hc,m,hd⟩:=pl
  simp only at hc hd
  subst hc hd
  have hl2:=r2.length
  have hsz:its.toArray.size+its2.toArray.size<=sizeLine:=by rw [List.size_toArray,List.size_toArray];omega
  have hlong:¬(!its.toArray.isEmpty&&Builtin.List.listTooLong (its.toArray.size+its2.toArray.size))=true:=by
   rw [R6 hsz,Bool.and_false];exact Bool.false_ne_true
  refine call_meets F.slot_list_extend ⟨_,e,rfl⟩ F.entry_list_extend (F.args_list_extend_2 _ _) (aY7 l b its.toArray its2.toArray n m dd sl hlong (by rw [List.size_toArray];omega) (by omega)) ⟨e,ho,?_⟩
  refine⟨.non,_,I.lset (its':=its++its2) hH e (by simp) (r.append r2) ?_,rfl,q⟩
  rw [List.length_append];omega
theorem bl3(i:Nat) {x:Str}{e:Expr}{f:DE}{p apos cpos pos:Pos}(h:JE X e f) (hN:X.N[i]? = some x) (hv:Vis X.env.scope x) (hd:(x==("__debug__" : Str))=false)
  (hcd:(x==("__classdict__" : Str))=false) (hline:(apos.endLine==cpos.line)=true) (hs:starEach [e] X.env=[(false,eval e X.env)]) :
  JS X (.Expr (.Call (.Attribute (.Name x p) "extend" apos) [e] [] cpos) pos) (bg2 i f):=fun ρ fl q H0 Hf0=>by
 unfold bg2 at q
 split at q
 ·rename_i ds eo
  obtain⟨d,e1,q⟩:=Option.bind_eq_some_iff.mp q
  split at q
  ·rename_i es
   split at q
   ·rename_i hz
    cases q
    refine G5 (ag8 (av7 PySem.F.plainAttrs_list PySem.F.slot_list_extend PySem.F.type_list_extend aJ6 (Q0 hN hv hd hcd) (C7 (h ρ _ e1) E8 hs) rfl (by rw [hs];rfl) hline hs) rfl) fun En σ H ⟨Hf,a,ee⟩=>?_
    obtain⟨v,h1,b,vs,rfl,h2,h3,h4,h5⟩:=a.sl.is i _ eo
    refine⟨_,h1,.inl ⟨rfl,vs,SqL.of h2⟩,H0,Hf,a.gr.sub,a.sl,fun w H' Hf' gg r=>?_⟩
    obtain⟨b2,us,rfl,r1,r2⟩:=r
    have hb:H' b=some (.lst vs):=gg.big _ _ h2
    have hfb:Hf' b=none:=gg.nofr h2 h3
    have g2:=a.gr.trans gg
    have sl2:=a.sl.grow gg
    refine⟨b,b2,vs,us,rfl,rfl,hb,.inl (D1 gg.sub r1),by rw [h5.length,r2.length,sizeLine_eq];exact hz,ee _ _ Hf' ⟨⟨fun c u z=>?_,fun c u z=>?_,g2.ext,g2.new⟩,?_⟩ gg.ext⟩
    ·rw [A8 (B3 z h4)];exact g2.big c u z
    ·rw [A8 (B3 z hfb)];exact g2.sub c u z
    ·exact sl2.reOwn eo h1 hfb h4 ((h5.mono gg.ext).append r2)
   ·cases q
  ·rename_i es
   split at q
   ·rename_i hz
    cases q
    refine G5 (ag8 (av7 PySem.F.plainAttrs_list PySem.F.slot_list_extend PySem.F.type_list_extend aJ6 (Q0 hN hv hd hcd) (C7 (h ρ _ e1) E8 hs) rfl (by rw [hs];rfl) hline hs) rfl) fun En σ H ⟨Hf,a,ee⟩=>?_
    obtain⟨v,h1,b,vs,rfl,h2,h3,h4,h5⟩:=a.sl.is i _ eo
    refine⟨_,h1,.inl ⟨rfl,vs,SqL.of h2⟩,H0,Hf,a.gr.sub,a.sl,fun w H' Hf' gg r=>?_⟩
    obtain⟨b2,us,rfl,r1,r2⟩:=r
    have hb:H' b=some (.lst vs):=gg.big _ _ h2
    have hfb:Hf' b=none:=gg.nofr h2 h3
    have g2:=a.gr.trans gg
    have sl2:=a.sl.grow gg
    refine⟨b,b2,vs,us,rfl,rfl,hb,.inr (B9 gg.sub r1),by rw [h5.length,r2.length,sizeLine_eq];exact hz,ee _ _ Hf' ⟨⟨fun c u z=>?_,fun c u z=>?_,g2.ext,g2.new⟩,?_⟩ gg.ext⟩
    ·rw [A8 (B3 z h4)];exact g2.big c u z
    ·rw [A8 (B3 z hfb)];exact g2.sub c u z
    ·exact sl2.reOwn eo h1 hfb h4 ((h5.mono gg.ext).append r2)
   ·cases q
  ·cases q
 ·cases q
end
section
variable {prog:Program}{w:World}{A:Around}{R:Result->Shared->Prop}{J:Addr}{fp wr:List Addr}{Gn:Array GenState->Array GenState->Prop}{n:Nat}{P:Nat->Value->Prop}{St:Nat->Shared->Prop}
end
section
variable {prog:Program}{w:World}{A:Around}{E:Value->Shared->Prop}{s:Shared}
end
section
variable {X:Cx}
end
section
variable {X:Cx}
end
end G
namespace G
open PySem PySem.Spec PyProof PyProof.Rows L2
section
variable {X:Cx}
def mnF(m x:Int):Int:=if x < m then x else m
def mxF(m x:Int):Int:=if x > m then x else m
def mnL:List Int->Int
 | []=>0
 | a::r=>r.foldl mnF a
def mxL:List Int->Int
 | []=>0
 | a::r=>r.foldl mxF a
theorem aw7:∀(l:List Int) (z:Int),(l.foldl mnF z=z\/l.foldl mnF z∈l)/\l.foldl mnF z<=z/\∀a∈l,l.foldl mnF z<=a
 | [],z=>⟨.inl rfl,Int.le_refl _,fun a h=>by simp at h⟩
 | x::l,z=>by
  obtain⟨h1,h2,h3⟩:=aw7 l (mnF z x)
  rw [List.foldl_cons]
  have k:(mnF z x=z\/mnF z x=x)/\mnF z x<=z/\mnF z x<=x:=by unfold mnF;split<;>omega
  refine⟨?_,by omega,fun a ha=>?_⟩
  ·rcases h1 with h|h
   ·rcases k.1 with q|q
    ·left;rw [h,q]
    ·right;rw [h,q];exact List.mem_cons_self ..
   ·right;exact List.mem_cons_of_mem _ h
  ·rcases List.mem_cons.mp ha with rfl|ha
   ·omega
   ·exact h3 a ha
theorem aw6:∀(l:List Int) (z:Int),(l.foldl mxF z=z\/l.foldl mxF z∈l)/\z<=l.foldl mxF z/\∀a∈l,a<=l.foldl mxF z
 | [],z=>⟨.inl rfl,Int.le_refl _,fun a h=>by simp at h⟩
 | x::l,z=>by
  obtain⟨h1,h2,h3⟩:=aw6 l (mxF z x)
  rw [List.foldl_cons]
  have k:(mxF z x=z\/mxF z x=x)/\z<=mxF z x/\x<=mxF z x:=by unfold mxF;split<;>omega
  refine⟨?_,by omega,fun a ha=>?_⟩
  ·rcases h1 with h|h
   ·rcases k.1 with q|q
    ·left;rw [h,q]
    ·right;rw [h,q];exact List.mem_cons_self ..
   ·right;exact List.mem_cons_of_mem _ h
  ·rcases List.mem_cons.mp ha with rfl|ha
   ·omega
   ·exact h3 a ha
theorem aJ7{l:List Int}(h:l≠[]):mnL l∈l/\∀a∈l,mnL l<=a:=by
 cases l with
 | nil=>exact absurd rfl h
 | cons x l =>
  obtain⟨h1,h2,h3⟩:=aw7 l x
  refine⟨?_,fun a ha=>?_⟩
  ·rcases h1 with h|h
   ·show l.foldl mnF x∈_;rw [h];exact List.mem_cons_self ..
   ·exact List.mem_cons_of_mem _ h
  ·rcases List.mem_cons.mp ha with rfl|ha
   ·exact h2
   ·exact h3 a ha
theorem am2{l:List Int}(h:l≠[]):mxL l∈l/\∀a∈l,a<=mxL l:=by
 cases l with
 | nil=>exact absurd rfl h
 | cons x l =>
  obtain⟨h1,h2,h3⟩:=aw6 l x
  refine⟨?_,fun a ha=>?_⟩
  ·rcases h1 with h|h
   ·show l.foldl mxF x∈_;rw [h];exact List.mem_cons_self ..
   ·exact List.mem_cons_of_mem _ h
  ·rcases List.mem_cons.mp ha with rfl|ha
   ·exact h2
   ·exact h3 a ha
def ax6:List D->Option (List Int)
 | []=>some []
 | .int i::r=>(ax6 r).map fun ys=>i::ys
 | _::_=>none
theorem T6{K:PySem.W.Frag}{H:Hp}:∀{ds:List D}{ys:List Int}{vs:List V},ax6 ds=some ys->Reps K H ds vs->vs=ys.map V.int
 | [],ys,vs,h,r=>by cases h;exact r
 | .int x::ds,ys,vs,h,r=>by
  obtain⟨zs,h1,h2⟩:=Option.map_eq_some_iff.mp h
  subst h2
  obtain⟨v,t,e1,e2,e3⟩:=r
  subst e1
  rw [show v=_ from e2,T6 h1 e3];rfl
theorem K7:∀{ys:List Int}{us:List Value},C3 (ys.map V.int) us->∃xs:List (Int×Tok),us=xs.map (fun p=>.int p.1 p.2)/\xs.map (·.1)=ys
 | [],[],_=>⟨[],rfl,rfl⟩
 | y::ys,u::us,h=>by
  cases h with
  | cons a b =>
   obtain⟨xs,e1,e2⟩:=K7 b
   obtain⟨t,rfl⟩:=a
   exact⟨(y,t)::xs,by rw [e1];rfl,by rw [xmc,e2]⟩
theorem aE0(hc:X.calm=true):P3 X (.builtin "min") (fun xs H Q=>∃p ns,xs=[.ref p]/\SqL X.K H p (ns.map V.int)/\ns≠[]/\Q (.int (mnL ns)) H):=by
 intro pins s σ H xs us Q I r h
 obtain⟨p,ns,rfl,hq,hz,q⟩:=h
 obtain⟨u,rfl,rx⟩:=R3 r
 cases rx
 obtain⟨its,rv,pl,_⟩:=I.list hq
 obtain⟨zs,e1,e2⟩:=K7 rv
 have hl:s.heap.IsList p (intItems zs.toArray):=by
  have:=pl.isList
  rw [e1]at this
  simpa [intItems] using this
 have hzs:zs.toArray.toList.map (·.1)=ns:=by simpa using e2
 have hn:0 < zs.toArray.size:=by
  cases zs with
  | nil=>exact absurd e2.symm hz
  | cons=>simp
 refine min_intList (I.ok.hd hc) hl hn fun v h' tk hv hk=>?_
 obtain⟨t,rfl⟩:=intItems_at hv
 obtain⟨b1,b2⟩:=argBest_lt (numAt zs.toArray) (zs.toArray.size - 1)
 have key:numAt zs.toArray (argBest (fun i j=>decide (numAt zs.toArray i < numAt zs.toArray j)) (zs.toArray.size - 1))=mnL ns:=by
  obtain⟨m1,m2⟩:=aJ7 hz
  have g:∀j,j < zs.toArray.size->numAt zs.toArray j∈ns:=fun j hj=>by
   rw [numAt_eq,hzs];exact getD_mem (by rw [← hzs,List.length_map,Array.length_toList];omega)
  refine Int.le_antisymm ?_ (m2 _ (g _ (by omega)))
  rw [← hzs]at m1
  obtain⟨j,hj,e⟩:=mem_getD m1
  rw [List.length_map,Array.length_toList]at hj
  have:=b2 j (by omega)
  rw [numAt_eq zs.toArray j,e,hzs]at this
  exact this
 rw [key]
 exact⟨.int _,H,I.kept (t':=tk) hk,⟨_,rfl⟩,q⟩
theorem aZ5{zs:List (Int×Tok)}{ns:List Int}(hzs:zs.toArray.toList.map (·.1)=ns) (hz:ns≠[]) (hn:0 < zs.toArray.size):numAt zs.toArray (argBest (fun i j=>decide (numAt zs.toArray i > numAt zs.toArray j)) (zs.toArray.size - 1))=mxL ns:=by
 obtain⟨b1,b2⟩:=argBest_gt (numAt zs.toArray) (zs.toArray.size - 1)
 obtain⟨m1,m2⟩:=am2 hz
 have g:∀j,j < zs.toArray.size->numAt zs.toArray j∈ns:=fun j hj=>by
  rw [numAt_eq,hzs];exact getD_mem (by rw [← hzs,List.length_map,Array.length_toList];omega)
 refine Int.le_antisymm (m2 _ (g _ (by omega))) ?_
 rw [← hzs]at m1
 obtain⟨j,hj,e⟩:=mem_getD m1
 rw [List.length_map,Array.length_toList]at hj
 have:=b2 j (by omega)
 rw [numAt_eq zs.toArray j,e,hzs]at this
 exact this
theorem aE1(hc:X.calm=true):P3 X (.builtin "max") (fun xs H Q=>∃p ns,xs=[.ref p]/\SqT X.K H p (ns.map V.int)/\ns≠[]/\Q (.int (mxL ns)) H):=by
 intro pins s σ H xs us Q I r h
 obtain⟨p,ns,rfl,hq,hz,q⟩:=h
 obtain⟨u,rfl,rx⟩:=R3 r
 cases rx
 obtain⟨its,rv,pl,_⟩:=I.tuple hq
 obtain⟨zs,e1,e2⟩:=K7 rv
 have hl:s.heap.IsTuple p (intItems zs.toArray):=by
  have:s.heap.IsTuple p its.toArray:=pl
  rw [e1]at this
  simpa [intItems] using this
 have hzs:zs.toArray.toList.map (·.1)=ns:=by simpa using e2
 have hn:0 < zs.toArray.size:=by
  cases zs with
  | nil=>exact absurd e2.symm hz
  | cons=>simp
 have hA:X.A.in1.handled=none:=I.ok.hd hc
 obtain⟨o,ho,hcl,n,hd⟩:=hl
 have lt:=Heap.lt_size ho
 refine call_max_walk (wpAny_pyIter_tuple ⟨o,ho,hcl,n,hd⟩ ?_)
 refine⟨s.heap.objs.size,_,_,_,_,_,_,rfl,Walks.tuple hA s.heap.objs.size p (Nat.ne_of_lt lt) (intItems zs.toArray),⟨?_,⟨o,Heap.get?_push_of_some _ ho,hcl,n,hd⟩⟩,?_,by simpa [intItems] using hn,CmpOf.ints_gt (numAt zs.toArray) (fun i v hv=>intItems_at hv),fun v h' tk hv hk=>?_⟩
 ·exact⟨_,Heap.get?_push_size _ rfl,rfl,rfl⟩
 ·intro b hb
  simp only [List.mem_cons,List.not_mem_nil,or_false]at hb
  rw [Heap.size_push]
  rcases hb with rfl|rfl
  ·exact Nat.lt_succ_self _
  ·exact Nat.lt_succ_of_lt lt
 ·obtain⟨t,rfl⟩:=intItems_at hv
  have sz:(intItems zs.toArray).size=zs.toArray.size:=by simp [intItems]
  rw [sz,aZ5 hzs hz hn]
  exact⟨.int _,H,I.kept (t':=tk) (fun b o e=>hk b o (by
   simp only [List.mem_cons,List.not_mem_nil,or_false]
   exact Nat.ne_of_lt (Heap.lt_size e)) (Heap.get?_push_of_some _ e)),⟨_,rfl⟩,q⟩
theorem aE2(hc:X.calm=true):P3 X (.builtin "max") (fun xs H Q=>∃p ns,xs=[.ref p]/\SqL X.K H p (ns.map V.int)/\ns≠[]/\Q (.int (mxL ns)) H):=by
 intro pins s σ H xs us Q I r h
 obtain⟨p,ns,rfl,hq,hz,q⟩:=h
 obtain⟨u,rfl,rx⟩:=R3 r
 cases rx
 obtain⟨its,rv,pl,_⟩:=I.list hq
 obtain⟨zs,e1,e2⟩:=K7 rv
 have hl:s.heap.IsList p (intItems zs.toArray):=by
  have:=pl.isList
  rw [e1]at this
  simpa [intItems] using this
 have hzs:zs.toArray.toList.map (·.1)=ns:=by simpa using e2
 have hn:0 < zs.toArray.size:=by
  cases zs with
  | nil=>exact absurd e2.symm hz
  | cons=>simp
 refine max_intList (I.ok.hd hc) hl hn fun v h' tk hv hk=>?_
 obtain⟨t,rfl⟩:=intItems_at hv
 obtain⟨b1,b2⟩:=argBest_gt (numAt zs.toArray) (zs.toArray.size - 1)
 have key:numAt zs.toArray (argBest (fun i j=>decide (numAt zs.toArray i > numAt zs.toArray j)) (zs.toArray.size - 1))=mxL ns:=by
  obtain⟨m1,m2⟩:=am2 hz
  have g:∀j,j < zs.toArray.size->numAt zs.toArray j∈ns:=fun j hj=>by
   rw [numAt_eq,hzs];exact getD_mem (by rw [← hzs,List.length_map,Array.length_toList];omega)
  refine Int.le_antisymm (m2 _ (g _ (by omega))) ?_
  rw [← hzs]at m1
  obtain⟨j,hj,e⟩:=mem_getD m1
  rw [List.length_map,Array.length_toList]at hj
  have:=b2 j (by omega)
  rw [numAt_eq zs.toArray j,e,hzs]at this
  exact this
 rw [key]
 exact⟨.int _,H,I.kept (t':=tk) hk,⟨_,rfl⟩,q⟩
def by2(f:Rho->Option (Bool×List D)):DE:=fun ρ=>(f ρ).bind fun q=>if q.1=true then none else(ax6 q.2).bind fun ns=>if ns=[] then none else some (.int (mnL ns))
def Z3(f:Rho->Option (Bool×List D)):DE:=fun ρ=>(f ρ).bind fun q=>(ax6 q.2).bind fun ns=>if ns=[] then none else some (.int (mxL ns))
theorem bz1{e:Expr}{f:Rho->Option (Bool×List D)}{p pos:Pos}(hg:Gl X "min") (hm:X.mg "min" = none) (h:JQ X e f) (hc:X.calm=true) (he:starEach [e] X.env=[(false,eval e X.env)]):JE X (.Call (.Name "min" p) [e] [] pos) (by2 f):=fun ρ d q=>by
 obtain⟨⟨t,ds⟩,h1,q⟩:=Option.bind_eq_some_iff.mp q
 split at q
 ·cases q
 ·rename_i ht
  have ht:t=false:=by simpa using ht
  subst ht
  obtain⟨ys,h2,q⟩:=Option.bind_eq_some_iff.mp q
  split at q
  ·cases q
  ·rename_i hz
   cases q
   refine B2 (L3 (aE0 hc) hg hm bp8 (C7 (h ρ false ds h1) E8 he) (he:=he)) fun σ H Q ⟨H0,Hf,s,sl,k⟩=>?_
   refine⟨H0,Hf,s,sl,fun v H1 Hf1 g1 ⟨a,vs,e1,e2,e3⟩=>⟨a,ys,by rw [e1],?_,hz,?_⟩⟩
   ·rw [← T6 h2 e3];exact e2
   ·exact k _ _ _ g1 rfl
theorem aX9{e:Expr}{f:Rho->Option (Bool×List D)}{p pos:Pos}(hg:Gl X "max") (hm:X.mg "max" = none) (h:JQ X e f) (hc:X.calm=true) (he:starEach [e] X.env=[(false,eval e X.env)]):JE X (.Call (.Name "max" p) [e] [] pos) (Z3 f):=fun ρ d q=>by
 obtain⟨⟨t,ds⟩,h1,q⟩:=Option.bind_eq_some_iff.mp q
 obtain⟨ys,h2,q⟩:=Option.bind_eq_some_iff.mp q
 split at q
 ·cases q
 ·rename_i hz
  cases q
  cases t with
  | false =>
   refine B2 (L3 (aE2 hc) hg hm aQ2 (C7 (h ρ false ds h1) E8 he) (he:=he)) fun σ H Q ⟨H0,Hf,s,sl,k⟩=>?_
   refine⟨H0,Hf,s,sl,fun v H1 Hf1 g1 ⟨a,vs,e1,e2,e3⟩=>⟨a,ys,by rw [e1],?_,hz,?_⟩⟩
   ·rw [← T6 h2 e3];exact e2
   ·exact k _ _ _ g1 rfl
  | true =>
   refine B2 (L3 (aE1 hc) hg hm aQ2 (C7 (h ρ true ds h1) E8 he) (he:=he)) fun σ H Q ⟨H0,Hf,s,sl,k⟩=>?_
   refine⟨H0,Hf,s,sl,fun v H1 Hf1 g1 ⟨a,vs,e1,e2,e3⟩=>⟨a,ys,by rw [e1],?_,hz,?_⟩⟩
   ·rw [← T6 h2 e3];exact e2
   ·exact k _ _ _ g1 rfl
end
end G
namespace G
open PySem PySem.Spec PyProof.Rows L2
section
variable {prog:Program}{w:World}{A:Around}{E:Value->Shared->Prop}{s:Shared}{t:Bool}
end
section
variable {X:Cx}{pins:List (Addr×Obj)}{σ:L2.St}{A:Around}{t:Bool}{S e it a:Addr}{ws:List V}
end
section
variable {X:Cx}
end
section
open PySem.SeqAt PySem.MeetsSeq PySem.MeetsSeq2 PySem.MeetsSeq3 PySem.SeqRoads2
open PySem.AutoSeq1 (wpAny_loadPart')
end
section
variable {X:Cx}
end
section
variable {X:Cx}
def flV:Value->D
 | .bool b=>.bool b
 | .int i _=>.int i
 | .str x _=>.str x
 | _=>.none
theorem bp1{d:D}{y:Value}(f:M0 d=true) (r:D4 (toV d) y):flV y=d:=by
 cases d with
 | none=>cases r;rfl
 | bool b=>cases r;rfl
 | int i=>obtain⟨t,rfl⟩:=r;rfl
 | str x=>obtain⟨t,rfl⟩:=r;rfl
 | tuple _=>cases f
 | list _=>cases f
 | dict _=>cases f
theorem ay0:∀{ds:List D}{its:List Value},ds.all M0=true->C3 (ds.map toV) its->its.map flV=ds
 | [],its,_,r=>by cases r;rfl
 | d::ds,its,f,r=>by
  rw [List.all_cons,Bool.and_eq_true]at f
  cases r with
  | cons r1 r2=>rw [xmc,bp1 f.1 r1,ay0 f.2 r2]
theorem aw8{x:D}{ds:List D}{vx:V}{v:Value}{pins:List (Addr×Obj)}{s:Shared}{σ:L2.St}{H Hf:Hp}{p:Addr}{vs:List V}(hu:X.A.units+64 < cLine) (sx:SeqAt.shaped x=true) (dx:x.depth<=60) (sd:ds.all SeqAt.shaped=true) (fd:ds.all M0=true) (I:L2.Inv X pins σ H s) (rx:D4 vx v) (ss:C2 Hf H) (r1:Rep X.K Hf x vx) (h2:SqL X.K Hf p vs) (h3:Reps X.K Hf ds vs) :
  ∃its:List Value,PlainL s.heap p its.toArray/\its.map flV=ds/\its.length<=sizeLine/\∀y∈its.toArray,SeqAt.EqAt X.A.in1 s y v (PyData.eqv (flV y) x):=by
 obtain⟨its,rv,pl,hz⟩:=I.list (D1 ss h2)
 have hz':its.length<=sizeLine:=by rw [← rv.length];exact hz
 obtain⟨as,rd⟩:=Rep.reads I (r1.mono ss) rx
 obtain⟨bs,ra⟩:=Reps.reads I (h3.mono ss) rv
 obtain⟨e1,e2⟩:=bg6 ra
 have fm:its.map flV=ds:=by
  obtain⟨e,_⟩:=T7 fd h3
  subst e
  exact ay0 fd rv
 refine⟨its,pl,fm,hz',fun y hy=>?_⟩
 obtain⟨j,hj,rfl⟩:=List.getElem_of_mem (List.mem_toArray.mp hy)
 obtain⟨cs,q⟩:=e2 j hj
 have hd:j < ds.length:=by omega
 have sj:=List.all_eq_true.mp sd _ (List.getElem_mem hd)
 have ej:flV its[j]=ds[j]:=by
  have:(its.map flV)[j]'(by simpa using hj)=ds[j]:=by simp only [fm]
  rwa [List.getElem_map]at this
 have eg:ds.getD j .none=ds[j]:=by simp [hd]
 rw [eg]at q
 rw [ej]
 have:=SeqAt.eqAt_reads ds[j] x X.A.in1 s _ _ _ _ q rd (SeqAt.canLay_of_shaped sj) (SeqAt.canLay_of_shaped sx) (by show X.A.units+1+_ < _;have:=Nat.min_le_right ds[j].depth x.depth;omega)
 simpa using this
def bg7(X:Cx) (ds:List D) (x z:D):V->List V->Hp->VK->Prop:=fun vt vs H Q=>∃Hf vx,vs=[vx]/\C2 Hf H/\Rep X.K Hf (.list ds) vt/\Rep X.K Hf x vx/\∀v,Rep X.K Hf z v->Q v H
theorem aC0(hu:X.A.units+64 < cLine) {ds:List D}{x:D}(sx:SeqAt.shaped x=true) (dx:x.depth<=60) (sd:ds.all SeqAt.shaped=true) (fd:ds.all M0=true):MtR X "list.count" (bg7 X ds x (.int (ds.countP fun y=>PyData.eqv y x))):=by
 intro pins s σ H vt vs v us Q I rt rv ⟨Hf,vx,e,ss,r1,r2,q⟩
 subst e
 obtain⟨u,rfl,rx⟩:=R3 rv
 obtain⟨p,ws,rfl,h2,h3⟩:=r1
 obtain rfl:v=Value.ref p:=rt
 obtain⟨its,pl,fm,_,he⟩:=aw8 hu sx dx sd fd I rx ss r2 h2 h3
 obtain⟨⟨cls,dd,data,sl⟩,n,ho,hc,hd0,hd⟩:=pl
 simp only at hc hd hd0
 subst hc hd hd0
 refine call_meets F.slot_list_count ⟨_,ho,rfl⟩ F.entry_list_count (F.args_list_count_2 _ _) (SeqAt.list_countAt p its.toArray n none sl u fun y=>PyData.eqv (flV y) x) ⟨ho,he,.int (ds.countP fun y=>PyData.eqv y x),H,I.tok _,⟨s.toks,?_⟩,q _ rfl⟩
 have:(its.countP fun y=>PyData.eqv (flV y) x)=ds.countP fun y=>PyData.eqv y x:=by
  rw [← fm,List.countP_map];rfl
 rw [← this]
theorem aB9(hu:X.A.units+64 < cLine) {ds:List D}{x:D}{j:Nat}(sx:SeqAt.shaped x=true) (dx:x.depth<=60) (sd:ds.all SeqAt.shaped=true) (fd:ds.all M0=true) (hj:ds.findIdx? (fun y=>PyData.eqv y x)=some j):MtR X "list.index" (bg7 X ds x (.int j)):=by
 intro pins s σ H vt vs v us Q I rt rv ⟨Hf,vx,e,ss,r1,r2,q⟩
 subst e
 obtain⟨u,rfl,rx⟩:=R3 rv
 obtain⟨p,ws,rfl,h2,h3⟩:=r1
 obtain rfl:v=Value.ref p:=rt
 obtain⟨its,pl,fm,hz,he⟩:=aw8 hu sx dx sd fd I rx ss r2 h2 h3
 obtain⟨⟨cls,dd,data,sl⟩,n,ho,hc,hd0,hd⟩:=pl
 simp only at hc hd hd0
 subst hc hd hd0
 obtain⟨h1,h4,h5⟩:=List.findIdx?_eq_some_iff_getElem.mp hj
 have ln:its.length=ds.length:=by rw [← fm,List.length_map]
 have ej:∀(m:Nat) (hm:m < its.length),flV its[m]=ds[m]'(by omega):=fun m hm=>by
  have:(its.map flV)[m]'(by simpa using hm)=ds[m]'(by omega):=by simp only [fm]
  rwa [List.getElem_map]at this
 have hn:=i5
 refine call_meets F.slot_list_index ⟨_,ho,rfl⟩ F.entry_list_index (F.args_list_index_2 _ _) (SeqAt.list_indexAt p its.toArray n none sl u (fun y=>PyData.eqv (flV y) x) j (by rw [List.size_toArray];omega) (by omega) (by simpa [ej j (by omega)] using h4) fun m hm hmj=>?_) ⟨ho,he,.int j,H,I.tok _,⟨_,rfl⟩,q _ rfl⟩
 have hm':m < its.length:=by simpa using hm
 have:=h5 m hmj
 simpa [ej m hm'] using this
theorem bi4{o e:Expr}{to:TE}{t:TA}{name:Str}{apos cpos:Pos}{id:String}{r:V->List V->Hp->VK->Prop}(slot:Slot "list" name id) (hty:typeOf (.builtin id)=pure (.type "method_descriptor")) (hm:MtR X id r) (ho:PE X o to) (ha:PA X [e] t)
  (hbase:attributeBase o name X.env (eval o X.env)=eval o X.env)
  (hfew:((backTo cpos (starEach [e] X.env)).all (fun x=>!x.1)&&(backToKw cpos (keywordEach [] X.env)).all (fun x=>x.1.isSome)&&decide (([e]:List Expr).length+([]:List Keyword).length+(if([]:List Keyword).isEmpty then 0 else 1) < 30))=true)
  (hline:(apos.endLine==cpos.line)=true) (hs:starEach [e] X.env=[(false,eval e X.env)]) :
  PE X (.Call (.Attribute o name apos) [e] [] cpos) (fun σ H Q=>to σ H fun x H1=>(∃p xs,x=.ref p/\SqL X.K H1 p xs)/\t σ H1 fun xs H2=>r x xs H2 Q):=by
 intro pins s σ H Q I h
 refine wpAny_Call_method_late hbase hfew hline rfl (thn (ho pins s σ H _ I h) fun v s1 ⟨x,H1,I1,r1,⟨p,xs,e1,e2⟩,q1⟩=>?_)
 subst e1
 obtain rfl:v=Value.ref p:=r1
 obtain⟨its,_,⟨ob,n,g1,g2,g4,_⟩,_⟩:=I1.list e2
 refine⟨"list", id,F.plainAttrs_list,slot,hty,⟨ob,g1,g2⟩,fun a ea=>?_,?_⟩
 ·cases ea;exact⟨ob,g1,g4⟩
 have hA:=ha cpos pins s1 σ H1 _ I1 q1
 rw [hs]at hA ⊢
 refine Calls.callWith_builtin (by rfl) (Calls.evalArgs_plain ?_)
 exact thn hA fun us s2 ⟨vs,H2,I2,r2,q2⟩=>hm pins s2 σ H2 (.ref p) vs (.ref p) us Q I2 rfl r2 q2
def lsB(x:D) (ds:List D):Prop:=SeqAt.shaped x=true/\x.depth<=60/\ds.all SeqAt.shaped=true/\ds.all M0=true
instance (x:D) (ds:List D):Decidable (lsB x ds):=by unfold lsB;exact inferInstance
def as5(f g:DE):DE:=fun ρ=>(f ρ).bind fun t=>(g ρ).bind fun x=>match t with
 | .list ds=>if lsB x ds then some (.int (ds.countP fun y=>PyData.eqv y x)) else none
 | _=>none
def ai7(f g:DE):DE:=fun ρ=>(f ρ).bind fun t=>(g ρ).bind fun x=>match t with
 | .list ds=>if lsB x ds then(ds.findIdx? fun y=>PyData.eqv y x).map (fun(j:Nat)=>PyData.int (j:Int)) else none
 | _=>none
theorem ax2{o e:Expr}{f g:DE}{name:Str}{id:String}{apos cpos:Pos}{ρ:Rho}{ds:List D}{x z:D}(slot:Slot "list" name id) (hty:typeOf (.builtin id)=pure (.type "method_descriptor")) (hm:MtR X id (bg7 X ds x z)) (ho:JE X o f) (h:JE X e g) (hz:∀Hf Hf' v,Rep X.K Hf z v->Rep X.K Hf' z v) (e1:f ρ=some (.list ds)) (e2:g ρ=some x) (hbase:attributeBase o name X.env (eval o X.env)=eval o X.env)
  (hfew:((backTo cpos (starEach [e] X.env)).all (fun x=>!x.1)&&(backToKw cpos (keywordEach [] X.env)).all (fun x=>x.1.isSome)&&decide (([e]:List Expr).length+([]:List Keyword).length+(if([]:List Keyword).isEmpty then 0 else 1) < 30))=true)
  (hline:(apos.endLine==cpos.line)=true) (hs:starEach [e] X.env=[(false,eval e X.env)]):PE X (.Call (.Attribute o name apos) [e] [] cpos) (tJ X.K ρ fun _ v _ Hf=>Rep X.K Hf z v):=by
 refine B2 (bi4 slot hty hm (ho ρ _ e1) (C7 (h ρ _ e2) E8 hs) hbase hfew hline hs) fun σ H Q ⟨H0,Hf,s,sl,k⟩=>?_
 refine⟨H0,Hf,s,sl,fun v H1 Hf1 g1 r1=>?_⟩
 have r1':=r1
 obtain⟨p,vs,rfl,h2,h3⟩:=r1
 refine⟨⟨p,vs,rfl,D1 g1.sub h2⟩,H0,Hf1,g1.sub,sl.grow g1,fun w H2 Hf2 g2 r2=>?_⟩
 exact⟨Hf2,w,rfl,g2.sub,r1'.mono g2.ext,r2,fun v rv=>k _ H2 Hf2 (g1.trans g2) rv⟩
theorem aM6{o e:Expr}{f g:DE}{apos cpos:Pos}(hu:X.A.units+64 < cLine) (ho:JE X o f) (h:JE X e g) (hbase:attributeBase o "count" X.env (eval o X.env)=eval o X.env)
  (hfew:((backTo cpos (starEach [e] X.env)).all (fun x=>!x.1)&&(backToKw cpos (keywordEach [] X.env)).all (fun x=>x.1.isSome)&&decide (([e]:List Expr).length+([]:List Keyword).length+(if([]:List Keyword).isEmpty then 0 else 1) < 30))=true)
  (hline:(apos.endLine==cpos.line)=true) (hs:starEach [e] X.env=[(false,eval e X.env)]):JE X (.Call (.Attribute o "count" apos) [e] [] cpos) (as5 f g):=fun ρ d q=>by
 obtain⟨t,e1,q⟩:=Option.bind_eq_some_iff.mp q
 obtain⟨x,e2,q⟩:=Option.bind_eq_some_iff.mp q
 cases t with
 | list ds =>
  simp only at q
  split at q
  ·rename_i c
   cases q
   exact ax2 F.slot_list_count F.type_list_count (aC0 hu c.1 c.2.1 c.2.2.1 c.2.2.2) ho h (fun _ _ _ r=>r) e1 e2 hbase hfew hline hs
  ·cases q
 | _=>cases q
theorem aC6{o e:Expr}{f g:DE}{apos cpos:Pos}(hu:X.A.units+64 < cLine) (ho:JE X o f) (h:JE X e g) (hbase:attributeBase o "index" X.env (eval o X.env)=eval o X.env)
  (hfew:((backTo cpos (starEach [e] X.env)).all (fun x=>!x.1)&&(backToKw cpos (keywordEach [] X.env)).all (fun x=>x.1.isSome)&&decide (([e]:List Expr).length+([]:List Keyword).length+(if([]:List Keyword).isEmpty then 0 else 1) < 30))=true)
  (hline:(apos.endLine==cpos.line)=true) (hs:starEach [e] X.env=[(false,eval e X.env)]):JE X (.Call (.Attribute o "index" apos) [e] [] cpos) (ai7 f g):=fun ρ d q=>by
 obtain⟨t,e1,q⟩:=Option.bind_eq_some_iff.mp q
 obtain⟨x,e2,q⟩:=Option.bind_eq_some_iff.mp q
 cases t with
 | list ds =>
  simp only at q
  split at q
  ·rename_i c
   obtain⟨j,hj,rfl⟩:=Option.map_eq_some_iff.mp q
   exact ax2 F.slot_list_index F.type_list_index (aB9 hu c.1 c.2.1 c.2.2.1 c.2.2.2 hj) ho h (fun _ _ _ r=>r) e1 e2 hbase hfew hline hs
  ·cases q
 | _=>cases q
end
abbrev FnD:=List D->Option D
structure Sg where
 fn:List (Str×FnD×Nat)
 cs:List (Str×D)
 bl:List Str
structure Kx where
 N:List Str
 sc:Scope
 df:Bool
 own:List Nat
 cpt:List Nat
 tx:List Nat
 old:Bool
 fz:List (Nat×List Nat)
 hc:List ((Nat×Nat)×List Nat)
def biS(K:PySem.W.Frag) (n:Nat) (F:List D->Option D):List V->Hp->VK->Prop:=fun vs H Q=>vs.length=n/\∃Hf ds d,C2 Hf H/\Reps K Hf ds vs/\F ds=some d/\∀v H' Hf',Grow H Hf H' Hf'->Rep K Hf' d v->Q v H'
def bq6(x:Str) (F:FnD) (n:Nat):Prop:=0 < n/\x ≠ "__name__" /\ ∃nm,bootBuiltins x=some (.builtin nm)/\∀X:Cx,X.A.units+64 < cLine->P3 X (.builtin nm) (biS X.K n F)
theorem bx2{X:Cx}{n:Nat}{F:FnD}{x:Str}{e:Expr}{es:List Expr}{g:Rho->Option (List D)}{p pos:Pos}(hb:bq6 x F n) (hu:X.A.units+64 < cLine) (hg:Gl X x) (hm:X.mg x=none) (ha:JA X (e::es) g) (hn:(e::es).length=n) (hdb:(x==("__debug__" : Str))=false)
  (he:starEach (e::es) X.env=(false,eval e X.env)::starEach es X.env) (hpl:(backTo pos (starEach es X.env)).any (·.1)=false):JE X (.Call (.Name x p) (e::es) [] pos) (A5 F g):=fun ρ d q=>by
 obtain⟨ds,h1,h2⟩:=Option.bind_eq_some_iff.mp q
 obtain⟨_,hnn,nm,hv,hc⟩:=hb
 refine B2 (L3 (hc X hu) hg hm hv (ha.run ρ ds h1) hnn hdb he hpl) fun σ H Q ⟨H0,Hf,s,sl,kk⟩=>?_
 exact⟨H0,Hf,s,sl,fun vs H1 Hf1 g1 r1=>⟨by rw [r1.length,ha.len ρ ds h1,hn],Hf1,ds,d,g1.sub,r1,h2,fun v H2 Hf2 g2 r2=>kk v H2 Hf2 (g1.trans g2) r2⟩⟩
def bB9(X:Cx) (x:Str) (F:FnD) (n:Nat):Prop:=(∃(k:Nat) (f:Addr) (fd:FuncData) (ps:List Str),FnOk X.prog X.w X.K X.mg X.base CX0 k f fd ps (spF X.K n F)/\Room k X.A/\X.mg x=some (.ref f)/\PySem.W.keepIn X.K (.ref f)=true/\J9 X.K fd ps [])\/(X.mg x=none/\bq6 x F n)
structure Fit (S:Sg) (c:Kx) (X:Cx):Prop where
 N:X.N=c.N
 sc:X.env.scope=c.sc
 nd:c.N.Nodup
 calm:X.calm=true
 xe:X.xe=fun _ _=>False
 units:X.A.units+64 < cLine
 df:c.df=true->(∀x,X.fn x=true)/\c.sc.kind=.function
 fns:∀x F n,S.fn.lookup x=some (F,n)->bB9 X x F n
 css:∀x d,S.cs.lookup x=some d->∃u,at6 X.K d u/\X.mg x=some u
 bls:∀x,S.bl.contains x=true->X.mg x=none
def pl:Expr->Bool
 | .Starred ..=>false
 | .Slice ..=>false
 | .Set ..=>false
 | _=>true
def y6:Expr->Bool
 | .Call ..=>false
 | _=>true
def isC:Expr->Bool
 | .ListComp ..=>true
 | .SetComp ..=>true
 | .DictComp ..=>true
 | _=>false
def plT:Expr->Bool
 | .UnaryOp ..=>false
 | .BoolOp ..=>false
 | .IfExp ..=>false
 | .Compare ..=>false
 | _=>true
def O6(x:Str):List Str->Option Nat
 | []=>none
 | y::r=>if y==x then some 0 else(O6 x r).map (·+1)
theorem am9{x:Str}:∀{l:List Str}{i:Nat},O6 x l=some i->l[i]? = some x
 | [],i,h=>by cases h
 | y::r,i,h=>by
  unfold O6 at h
  split at h
  ·rename_i e
   cases h
   simp only [beq_iff_eq]at e
   subst e;rfl
  ·obtain⟨j,h1,h2⟩:=Option.map_eq_some_iff.mp h
   subst h2
   simpa using am9 h1
def i4:List Str->Bool
 | []=>true
 | x::r=>!(r.contains x)&&i4 r
theorem h9:∀{l:List Str},i4 l=true->l.Nodup
 | [],_=>List.nodup_nil
 | x::r,h=>by
  unfold i4 at h
  simp only [Bool.and_eq_true,Bool.not_eq_true']at h
  refine List.nodup_cons.mpr ⟨fun z=>?_,h9 h.2⟩
  have:=h.1
  rw [List.contains_iff_mem.mpr z]at this
  cases this
def af1(sc:Scope) (x:Str):Bool:=(match sc.names.lookup x with|some .local=>true|some .cell=>true|some .free=>true|_=>false) && !(x==("__debug__" : Str)) && !(x==("__classdict__" : Str))
def aC2(c:Kx) (x:Str):Bool:=(match c.sc.names.lookup x with|some .local=>true|some .cell=>c.df|_=>false)
def o0(sc:Scope) (x:Str):Bool:=(match sc.names.lookup x with|some .globalImplicit=>true|_=>false) && !(x==("__debug__" : Str))
def biB(S:Sg) (c:Kx) (w x:Str):Bool:=x==w&&S.bl.contains w&&o0 c.sc w
section
variable {X:Cx}{S:Sg}{c:Kx}
theorem P4{x:Str}(F:Fit S c X) (h:af1 c.sc x=true):Vis X.env.scope x/\(x==("__debug__" : Str))=false/\(x==("__classdict__" : Str))=false:=by
 unfold af1 at h
 simp only [Bool.and_eq_true,Bool.not_eq_true']at h
 obtain⟨⟨h1,h2⟩,h3⟩:=h
 refine⟨?_,h2,h3⟩
 rw [F.sc]
 unfold Vis
 split at h1
 ·rename_i e;exact .inl e
 ·rename_i e;exact .inr (.inl e)
 ·rename_i e;exact .inr (.inr e)
 ·cases h1
theorem ah7{x:Str}(F:Fit S c X) (h:aC2 c x=true):L2.Loc X.env.scope x/\(X.fn x=true\/X.env.scope.names.lookup x=some .local):=by
 unfold aC2 at h
 rw [F.sc]
 unfold L2.Loc
 split at h
 ·rename_i e;exact⟨.inl e,.inr e⟩
 ·rename_i e;exact⟨.inr e,.inl ((F.df h).1 x)⟩
 ·cases h
theorem M2{x:Str}(F:Fit S c X) (h:o0 c.sc x=true):Gl X x/\(x==("__debug__" : Str))=false:=by
 unfold o0 at h
 simp only [Bool.and_eq_true,Bool.not_eq_true']at h
 refine⟨?_,h.2⟩
 unfold Gl Env.kindOf
 rw [F.sc]
 have h1:=h.1
 split at h1
 ·rename_i e;exact e
 ·cases h1
theorem F0{w x:Str}(F:Fit S c X) (h:biB S c w x=true):x=w/\Gl X w/\X.mg w=none:=by
 unfold biB at h
 simp only [Bool.and_eq_true,beq_iff_eq]at h
 exact⟨h.1.1,(M2 F h.2).1,F.bls _ h.1.2⟩
theorem D3{e:Expr}(h:pl e=true) (es:List Expr) (env:Env):starEach (e::es) env=(false,eval e env)::starEach es env:=by
 cases e<;>first|rfl|cases h
theorem av3{e:Expr}(h:pl e=true):Q5 e:=by
 intro o i
 cases e<;>first|rfl|cases h
theorem T8{e:Expr}(h:pl e=true) (op:CmpOp):behindInMarks op e=false:=by
 cases e<;>first|rfl|cases h
theorem av4{e:Expr}(h:pl e=true) (env:Env) (x:Value):foldedSetIterable e env x=pure x:=by
 cases e<;>first|rfl|cases h
theorem R7{o:Expr}(h:y6 o=true) (attr:Str) (env:Env) (t:Sem Value):attributeBase o attr env t=t:=by
 cases o<;>first|rfl|cases h
theorem Y4{e:Expr}(h:isC e=false) (t:Option Expr) (l:Nat) (env:Env):swapsWith e t l env=pure false:=by
 cases e<;>first|rfl|cases h
theorem al2{e:Expr}(h:plT e=true) (env:Env) (whole:Sem Value):isTrue e env whole=(do let v ← whole;standAt e.pos;holding [v] (truthy v)):=by
 cases e<;>first|rfl|cases h
end
abbrev DA:=Rho->Option (List D)
abbrev DQ:=Rho->Option (Bool×List D)
abbrev DT:=Rho->Option Bool
abbrev DG:=D->Rho->Option Rho
def dNo:DE:=fun _=>none
def aNo:DA:=fun _=>none
def qNo:DQ:=fun _=>none
def tNo:DT:=fun _=>none
def gNo:DG:=fun _ _=>none
structure Ev where
 e:Kx->Expr->DE
 q:Kx->Expr->DQ
 n:Kx->Expr->DA
 t:Kx->Expr->DT
 g:Kx->Expr->DG
 b:Kx->List Stmt->DS
def ao3:CmpOp->D->D->Option D
 | .Lt=>ltI | .LtE=>leI | .Gt=>gtI | .GtE=>geI | .Eq=>eqD | .NotEq=>neD | .Is=>isB | .IsNot=>bv9 | .In=>inD false | .NotIn=>inD true
def evA(f:Expr->DE):List Expr->DA
 | []=>A3
 | e::es=>if pl e then A0 (f e) (evA f es) else aNo
def aD1(f:Expr->DE) (op:BoolOp):List Expr->DE
 | []=>dNo
 | [a]=>f a
 | a::b::r=>match op with
  | .And=>T1 (f a) (aD1 f op (b::r))
  | .Or=>dOr (f a) (aD1 f op (b::r))
def aD0(f:Expr->DT) (op:BoolOp):List Expr->DT
 | []=>tNo
 | [a]=>f a
 | a::b::r=>match op with
  | .And=>G9 (f a) (aD0 f op (b::r))
  | .Or=>G4 (f a) (aD0 f op (b::r))
def evO(f:Expr->DE):Option Expr->Rho->Option (Option Int)
 | none=>G1
 | some e=>E7 (f e)
def bp2(f:Expr->DG):List Expr->List D->Rho->Option Rho
 | []=>F8
 | e::es=>B7 (f e) (bp2 f es)
def aP0(f:Expr->DT):List Expr->DT
 | []=>D2
 | [t]=>f t
 | _=>tNo
def L8:Expr->List Str
 | .Name x _=>[x]
 | .Tuple es _ _=>es.filterMap fun | .Name x _=>some x|_=>none
 | _=>[]
def rl(scope sc:Scope):Scope:={ scope with names:=scope.names.map fun(n,k)=>if(k == .free&&sc.kind == .function&&sc.names.lookup n==some .cell) then(n,.cell) else(n,k) }
def aO0(n:Nat) (caps l:List Nat):List Nat:=(List.range caps.length).filterMap fun i=>match caps[i]? with|some j=>if l.contains j then some (n+i) else none|none=>none
def bt2(c:Kx) (j:Nat):Str:=(c.N[j]?).getD ""
def inner(c:Kx) (tn:List Str) (caps:List Nat) (scope:Scope):Kx :=
 { N:=tn++caps.map (bt2 c),sc:=rl scope c.sc,df:=false,own:=aO0 tn.length caps c.own,cpt:=[],tx:=aO0 tn.length caps c.tx,old:=c.old,fz:=[],hc:=c.hc }
def isList:Expr->Bool
 | .List ..=>true
 | .ListComp ..=>true
 | _=>false
def Y7(c:Kx) (l:List Nat):Expr->Bool
 | .Name x _=>(match O6 x c.N with|some i=>l.contains i|none=>false)
 | _=>false
def bo0:Expr->Bool
 | .Constant (.str _) _ _=>true
 | _=>false
def bC0(S:Sg) (c:Kx):Expr->Bool
 | .Constant (.str _) _ _=>true
 | .Name x _=>(match O6 x c.N with|some _=>false|none=>(match S.cs.lookup x with|some (.str _)=>true|_=>false))
 | _=>false
def opW(S:Sg) (c:Kx) (op:CmpOp) (b:Expr):D->D->Option D:=ao3 op
def an2:Expr->Bool
 | .Tuple ..=>true
 | _=>false
def bd9(x:Str):Option String:=if x == "int" then some "int" else if x == "bool" then some "bool" else if x == "str" then some "str" else if x == "tuple" then some "tuple" else if x == "list" then some "list" else none
section
variable (S:Sg) (r:Ev)
def evR(c:Kx) (tg:Expr) (a:Expr):DA:=match a with
 | .Call f as kw _=>(match f,as,kw with
  | .Name y _,[e],[]=>(match e with
   | .Call f2 as2 kw2 _=>(match f2,as2,kw2 with
    | .Name z _,[b],[]=>if biB S c "list" y&&biB S c "enumerate" z&&an2 tg&&pl b then fun _=>none else fun _=>none
    | _,_,_=>fun _=>none)
   | _=>fun _=>none)
  | _,_,_=>fun _=>none)
 | _=>fun _=>none
def evI(c:Kx) (tg it:Expr):DA:=match it with
 | .Call (.Name x _) [a] [] _=>if biB S c "reversed" x then evR S c tg a else if biB S c "range" x&&pl a then G2 (r.e c a) else if biB S c "enumerate" x&&an2 tg&&pl a then(fun _=>none) else J0 (r.e c it)
 | .Call (.Name x _) [a,b] [] _=>if biB S c "range" x&&pl a&&pl b then ad9 (r.e c a) (r.e c b) else if biB S c "zip" x&&an2 tg&&pl a&&pl b then Y8 (qE (r.e c a)) (qE (r.e c b)) else J0 (r.e c it)
 | _=>if Y7 c c.tx it then(fun _=>none) else J0 (r.e c it)
def evC(c:Kx) (ex:Expr):DA:=match ex with
 | .ListComp elt [⟨tgt,iter,ifs,0⟩] scope pos =>
  let tn:=L8 tgt
  let caps:=(c.hc.lookup (pos.line,pos.col)).getD []
  let c':=inner c tn caps scope
  if p7 c.N c'.N tn.length caps c.sc scope&&i4 c'.N&&pl iter then D7 tn.length caps (evI S r c tgt iter) (r.g c' tgt) (aP0 (r.t c') ifs) (r.e c' elt) else aNo
 | _=>aNo
def ap4(c:Kx) (x:Str) (a:Expr):DE :=
 if !(pl a) then dNo
 else if biB S c "len" x then(match a with
  | .Call (.Name y _) [e] [] _=>if biB S c "set" y&&pl e then dNo else M3 (r.q c a)
  | _=>if Y7 c c.tx a then dNo else M3 (r.q c a))
 else if biB S c "tuple" x then G3 (r.q c a)
 else if biB S c "all" x then U8 (r.q c a)
 else if biB S c "int" x then U7 (r.e c a)
 else if biB S c "str" x then dNo
 else if biB S c "abs" x then dNo
 else if biB S c "min" x then dNo
 else if biB S c "max" x then Z3 (r.q c a)
 else dNo
def ap3(c:Kx) (x:Str) (a b:Expr):DE :=
 if !(pl a) then dNo
 else if biB S c "isinstance" x then(match b with
  | .Name y _=>(match bd9 y with
   | some T=>if biB S c y y then U6 T (r.e c a) else dNo
   | none=>dNo)
  | _=>dNo)
 else if !(pl b) then dNo
 else if biB S c "min" x then dNo
 else if biB S c "max" x then dNo
 else dNo
def aF1(c:Kx) (x:Str) (args:List Expr) (ex:Expr):DE:=match S.fn.lookup x with
 | some (F,n)=>if o0 c.sc x&&args.length==n&&args.all pl then A5 F (evA (r.e c) args) else dNo
 | none=>match args with
  | [a]=>if biB S c "list" x then E2 (r.n c ex) else ap4 S r c x a
  | [a,b]=>ap3 S r c x a b
  | _=>dNo
def bc9(c:Kx) (a i:Expr):DE:=match i with
 | .Slice lo hi none _ =>
  if c.old then o5 (r.e c a) (evO (r.e c) lo) (evO (r.e c) hi)
  else if Y7 c c.tx a then by0 (r.e c a) (evO (r.e c) lo) (evO (r.e c) hi)
  else if Y7 c c.own a then by1 (r.q c a) (evO (r.e c) lo) (evO (r.e c) hi)
  else U5 (r.e c a) (evO (r.e c) lo) (evO (r.e c) hi)
 | .Slice none none (some (.UnaryOp .USub (.Constant (.int 1) _ _) _)) _=>bb8 (r.e c a)
 | _=>if pl i then(if bo0 a then by3 (r.e c a) (r.e c i) else dIx (r.q c a) (r.e c i)) else dNo
def xCn(k:Const):DE:=match k with
 | .none=>dC .none
 | .bool b=>dC (.bool b)
 | .int i=>dC (.int i)
 | .str x=>dC (.str x)
 | _=>dNo
def bd5(c:Kx) (a:Expr) (op:Operator) (b:Expr):DE:=match op with
 | .Add=>if c.old && !(isList a || isList b) then A4 Q3 (r.e c a) (r.e c b) else A4 E9 (r.e c a) (r.e c b)
 | .Sub=>A4 aF8 (r.e c a) (r.e c b)
 | .Mult=>if c.old then A4 U3 (r.e c a) (r.e c b) else(match a with
  | .Subscript v _ _=>if Y7 c c.tx v then A4 bj5 (r.e c a) (r.e c b) else A4 D6 (r.e c a) (r.e c b)
  | _=>A4 D6 (r.e c a) (r.e c b))
 | .FloorDiv=>A4 R0 (r.e c a) (r.e c b)
 | .Mod=>A4 N9 (r.e c a) (r.e c b)
 | .Pow=>dNo
 | _=>dNo
def xUn(c:Kx) (op:UnaryOp) (a:Expr):DE:=match op with
 | .USub=>ao0 (r.e c a)
 | .Not=>T0 (r.e c a)
 | _=>dNo
def bd3(c:Kx) (a:Expr) (ops:List CmpOp) (bs:List Expr):DE:=match ops,bs with
 | [op],[b]=>if pl b then A4 (opW S c op b) (r.e c a) (r.e c b) else dNo
 | [op,op'],[b,d]=>if pl d then F9 (ao3 op) (ao3 op') (r.e c a) (r.e c b) (r.e c d) else dNo
 | _,_=>dNo
def bd1(c:Kx) (o:Expr) (m:Str) (apos cpos:Pos) (args:List Expr):DE:=match args with
 | [a]=>if m == "join" && y6 o&&apos.endLine==cpos.line&&pl a then bb9 (r.e c o) (r.q c a) else if m == "index" && y6 o&&apos.endLine==cpos.line&&pl a then dNo else dNo
 | _=>dNo
def xCl(c:Kx) (f:Expr) (args:List Expr) (kw:List Keyword) (pos:Pos):DE:=match kw with
 | []=>(match f with
  | .Name x p=>aF1 S r c x args (.Call (.Name x p) args [] pos)
  | .Attribute o m apos=>bd1 r c o m apos pos args
  | _=>dNo)
 | _=>dNo
def xE(c:Kx) (ex:Expr):DE:=match ex with
 | .Constant k _ _=>xCn k
 | .Name x _=>(match O6 x c.N with
  | some i=>if af1 c.sc x then A1 i else dNo
  | none=>(match S.cs.lookup x with
   | some d=>if o0 c.sc x then dC d else dNo
   | none=>dNo))
 | .Tuple es _ _=>if es.length<=1000 then C9 (evA (r.e c) es) else dNo
 | .List _ _=>E2 (r.n c ex)
 | .ListComp _ _ _ _=>E2 (r.n c ex)
 | .BinOp a op b _=>bd5 r c a op b
 | .UnaryOp op a _=>xUn r c op a
 | .Compare a ops bs _=>bd3 S r c a ops bs
 | .BoolOp op vs _=>aD1 (r.e c) op vs
 | .IfExp t a b _=>L6 (r.t c t) (r.e c a) (r.e c b)
 | .Subscript a i _=>bc9 r c a i
 | .Call f args kw pos=>xCl S r c f args kw pos
 | _=>dNo
def xQ(c:Kx) (ex:Expr):DQ:=match ex with
 | .Name x _=>(match O6 x c.N with
  | some i=>if af1 c.sc x then A6 i else qNo
  | none=>qE (r.e c ex))
 | .List _ _=>qN (r.n c ex)
 | .ListComp _ _ _ _=>qN (r.n c ex)
 | .Call (.Name x _) [_] [] _=>if biB S c "list" x then qN (r.n c ex) else qE (r.e c ex)
 | _=>qE (r.e c ex)
def xN(c:Kx) (ex:Expr):DA:=match ex with
 | .List es _=>if es.length<=1000 then evA (r.e c) es else aNo
 | .ListComp _ _ _ _=>evC S r c ex
 | .Call (.Name x _) [a] [] _=>if biB S c "list" x&&pl a then(fun ρ=>(r.q c a ρ).map fun q=>q.2) else aNo
 | .BinOp a .Add b _=>bw0 (r.q c a) (r.q c b)
 | _=>aNo
def ba0(c:Kx) (a:Expr) (ops:List CmpOp) (bs:List Expr):DT:=match ops,bs with
 | [op],[b]=>if pl b then tB2 (opW S c op b) (r.e c a) (r.e c b) else tNo
 | [op,op'],[b,d]=>if pl d then ap8 (F9 (ao3 op) (ao3 op') (r.e c a) (r.e c b) (r.e c d)) else tNo
 | _,_=>tNo
def bq9(c:Kx) (op:UnaryOp) (a:Expr):DT:=match op with
 | .Not=>K0 (r.t c a)
 | _=>tNo
def xT(c:Kx) (ex:Expr):DT:=match ex with
 | .Compare a ops bs _=>ba0 S r c a ops bs
 | .BoolOp op vs _=>aD0 (r.t c) op vs
 | .UnaryOp op a _=>bq9 r c op a
 | _=>if plT ex then P6 (r.e c ex) else tNo
def xG(c:Kx) (ex:Expr):DG:=match ex with
 | .Name x _=>(match O6 x c.N with
  | some i=>if aC2 c x then C0 i else gNo
  | none=>gNo)
 | .Tuple es _ _=>if es.all pl then F2 es.length (bp2 (r.g c) es) else gNo
 | _=>gNo
def bu3(c:Kx) (x y:Str) (px py:Pos) (a b:Expr):Bool :=
 c.df&&pl a&&pl b && !(x==y)&&px.line==py.line&&c.sc.names.lookup x==some .local&&c.sc.names.lookup y==some .local && !(([a,b]:List Expr).all (foldedForSure 8)) && !(([a,b]:List Expr).all (constantsAlone 8))
def bd6(c:Kx) (tg v:Expr) (p:Pos):DS:=match tg with
 | .Name x p'=>(match O6 x c.N with
  | none=>A9
  | some i=>if !(aC2 c x) then A9 else(match v with
   | .ListComp _ _ sc pv=>if c.sc.names.lookup x==some .local then
     (if c.df&&p'.line==pv.line && !(sc.names.any fun(n,k)=>n==x&&(k == .local || k == .cell)) then(if c.own.contains i then aG4 i (evC S r c v) else K1 i (evC S r c v)) else A9)
    else B6 i (r.e c v)
   | _=>if isC v then A9 else if c.own.contains i then aG4 i (r.n c v) else B6 i (r.e c v)))
 | .Subscript (.Name x _) (.Slice lo hi none _) _=>(match O6 x c.N with
  | none=>A9
  | some i=>if af1 c.sc x && !(isC v) then bt3 i (evO (r.e c) lo) (evO (r.e c) hi) (r.n c v) else A9)
 | .Tuple [.Name x px,.Name y py] _ _=>(match v with
  | .Tuple [a,b] _ _=>(match O6 x c.N,O6 y c.N with
   | some i,some j=>if bu3 c x y px py a b then X4 i j (evA (r.e c) [a,b]) else A9
   | _,_=>A9)
  | .Tuple _ _ _=>A9
  | _=>P9 (r.e c v) (r.g c tg))
 | .Tuple es _ _=>if an2 v&&(es.length==2 || es.length==3) then A9 else P9 (r.e c v) (r.g c tg)
 | _=>A9
def bd0(c:Kx) (x m:Str) (e:Expr):DS:=match O6 x c.N with
 | none=>A9
 | some i=>if af1 c.sc x&&pl e then(if m == "append" then bg3 i (r.e c e) else if m == "extend" then bg2 i (r.e c e) else A9) else A9
def xEx(c:Kx) (e:Expr):DS:=match e with
 | .Call f args kw cpos=>(match f with
  | .Attribute o m apos=>(match o with
   | .Name x _=>(match args,kw with
    | [e],[]=>if apos.endLine==cpos.line then bd0 r c x m e else A9
    | _,_=>A9)
   | _=>A9)
  | _=>A9)
 | _=>A9
def br1(c:Kx):Option Expr->DS
 | some e=>C8 (r.e c e)
 | none=>A9
def xWh(c:Kx) (t:Expr) (a:List Stmt):List Stmt->DS
 | []=>V5 (r.t c t) (r.b c a)
 | _=>A9
def xFo(c:Kx) (tg it:Expr) (a:List Stmt):List Stmt->DS
 | []=>if pl it then X5 (evI S r c tg it) (r.g c tg) (r.b c a) else A9
 | _=>A9
def xAs(c:Kx) (v:Expr) (p:Pos):List Expr->DS
 | [tg]=>bd6 S r c tg v p
 | _=>A9
def xS0(c:Kx) (st:Stmt):DS:=match st with
 | .Return o _=>br1 r c o
 | .If t a b _=>sIf (r.t c t) (r.b c a) (r.b c b)
 | .While t a o _=>xWh r c t a o
 | .For tg it a o _=>xFo S r c tg it a o
 | .Assign ts v p=>xAs S r c v p ts
 | .Expr e _=>xEx r c e
 | .Continue _=>ba5
 | .Break _=>fun ρ=>some (.bk ρ)
 | .Pass _=>E1
 | _=>A9
def bj9:Stmt->Nat
 | .Return _ p=>p.line
 | .If _ _ _ p=>p.line
 | .While _ _ _ p=>p.line
 | .For _ _ _ _ p=>p.line
 | .Assign _ _ p=>p.line
 | .Expr _ p=>p.line
 | _=>0
def fzW(g:DS):Option (List Nat)->DS
 | none=>g
 | some l=>l.foldl (fun g i=>bg1 i g) g
def xS(c:Kx) (st:Stmt):DS:=fzW (xS0 S r c st) (c.fz.lookup (bj9 st))
def evB(f:Stmt->DS):List Stmt->DS
 | []=>E1
 | [s]=>f s
 | s::t::J4=>B1 (f s) (evB f (t::J4))
def step:Ev:=⟨xE S r,xQ S r,xN S r,xT S r,xG r,fun c=>evB (xS S r c)⟩
end
def ev(S:Sg):Nat->Ev
 | 0=>⟨fun _ _=>dNo,fun _ _=>qNo,fun _ _=>aNo,fun _ _=>tNo,fun _ _=>gNo,fun _ _=>A9⟩
 | n+1=>step S (ev S n)
end G
namespace Sh
open PySem PySem.Spec PyProof.Rows L2 G
end Sh
namespace G
open PySem PySem.Spec PyProof.Rows L2
section
variable {X:Cx}{S:Sg}{c:Kx}
theorem B4{e:Expr}:JE X e dNo:=fun ρ d h=>by cases h
theorem bb4{e:Expr}:JQ X e qNo:=fun ρ t d h=>by cases h
theorem ad8{e:Expr}:JN X e aNo:=fun ρ d h=>by cases h
theorem S4{e:Expr}:JT X e tNo:=fun ρ d h=>by cases h
theorem bw3{e:Expr}:JW X e tNo:=fun ρ d h=>by cases h
theorem am8{e:Expr}:JG X e gNo:=by
 unfold JG PG
 intros
 rename_i h
 obtain⟨d,ρ,ρ',H0,Hf,z,_⟩:=h
 cases z
theorem bx3{es:List Expr}:JA X es aNo:=⟨fun ρ d h=>(nomatch h),fun ρ d h=>(nomatch h)⟩
theorem bk6{es:List Expr}:JTs X es tNo:=fun pins s σ H Q I ⟨ρ,b,h,_⟩=>by cases h
theorem Q1(hu:X.A.units+64 < cLine):∀op:CmpOp,OpD X (compareOp op) (ao3 op)
 | .Lt=>bv1 | .LtE=>bv2 | .Gt=>bv5 | .GtE=>bv6 | .Eq=>bv7 hu | .NotEq=>bv0 hu | .Is=>bv3 | .IsNot=>aI8 | .In=>bv4 hu | .NotIn=>aI7 hu
theorem aI6(hu:X.A.units+64 < cLine) (S:Sg) (c:Kx) (op:CmpOp) (b:Expr):OpD X (compareOp op) (opW S c op b):=Q1 hu op
theorem S5{f:Expr->DE}(h:∀e,JE X e (f e)):∀es,JA X es (evA f es)
 | []=>aN2
 | e::es=>by
  unfold evA
  split
  ·rename_i p;exact ax3 (h e) (S5 h es) (D3 p es _)
  ·exact bx3
theorem o8{f:Expr->DE}(h:∀e,JE X e (f e)) (op:BoolOp) (pos:Pos):∀vs,JE X (.BoolOp op vs pos) (aD1 f op vs)
 | []=>B4
 | [a]=>bn0 (h a)
 | a::b::r=>by
  unfold aD1
  cases op
  ·exact bn6 (h a) (o8 h .And pos (b::r))
  ·exact bw8 (h a) (o8 h .Or pos (b::r))
theorem o7{f:Expr->DT}(h:∀e,JT X e (f e)) (op:BoolOp) (pos:Pos):∀vs,JW X (.BoolOp op vs pos) (aD0 f op vs)
 | []=>bw3
 | [a]=>by cases op;exact aV9 (h a);exact bk4 (h a)
 | a::b::r=>by
  unfold aD0
  cases op
  ·exact bk5 (h a) (o7 h .And pos (b::r))
  ·exact bw2 (h a) (o7 h .Or pos (b::r))
theorem V0{f:Expr->DE}(h:∀e,JE X e (f e)):∀o,JO X o (evO f o)
 | none=>aX2
 | some e=>aX1 (h e)
theorem bk7{f:Expr->DT}(h:∀e,JT X e (f e)):∀l,JTs X l (aP0 f l)
 | []=>aW1
 | [t]=>aW0 (h t)
 | _::_::_=>bk6
theorem aL5{f:Expr->DG}(h:∀e,JG X e (f e)):∀es,es.all pl=true->JGs X es (bp2 f es)
 | [],_=>aX5
 | e::es,p=>by
  simp only [List.all_cons,Bool.and_eq_true]at p
  refine aL6 (h e) (aL5 h es p.2) ?_
  have p1:=p.1
  cases e<;>first|rfl|cases p1
theorem ay8{env:Env}:∀{es:List Expr},es.all pl=true->(assignEach es env).length=es.length/\(assignEach es env).findIdx? (·.1)=none
 | [],_=>⟨rfl,rfl⟩
 | e::es,p=>by
  simp only [List.all_cons,Bool.and_eq_true]at p
  obtain⟨h1,h2⟩:=ay8 (env:=env) p.2
  have p1:=p.1
  have q:assignEach (e::es) env=(false,assign e env)::assignEach es env:=by cases e<;>first|rfl|cases p1
  rw [q]
  refine⟨by simp [h1],?_⟩
  simp [List.findIdx?_cons,h2]
structure Sound (S:Sg) (r:Ev):Prop where
 e:∀{c X},Fit S c X->∀ex,JE X ex (r.e c ex)
 q:∀{c X},Fit S c X->∀ex,JQ X ex (r.q c ex)
 n:∀{c X},Fit S c X->∀ex,JN X ex (r.n c ex)
 t:∀{c X},Fit S c X->∀ex,JT X ex (r.t c ex)
 g:∀{c X},Fit S c X->∀ex,JG X ex (r.g c ex)
 b:∀{c X},Fit S c X->∀sts,JSs X sts (r.b c sts)
theorem Fit.hx(F:Fit S c X):∀e s,X.xe e s->False:=fun e s h=>by rw [F.xe]at h;exact h
theorem Fit.po(F:Fit S c X):PassesOwn (model X.prog X.w) X.A X.env X.xe:=by rw [F.xe];exact PassesOwn.never
theorem Fit.slot(F:Fit S c X) {x:Str}{i:Nat}(h:O6 x c.N=some i):X.N[i]? = some x:=by rw [F.N];exact am9 h
theorem Fit.inner{tn:List Str}{caps:List Nat}{scope:Scope}{C:Addr}{s0:Shared}{H0:Hp}{ex:List Addr}(F:Fit S c X) (hn:(G.inner c tn caps scope).N.Nodup):Fit S (G.inner c tn caps scope) (D0 X (G.inner c tn caps scope).N scope C s0 H0 ex) :=
 ⟨rfl,by show relabel scope X.env=rl scope c.sc;rw [← F.sc];rfl,hn,F.calm,rfl,F.units,(fun h=>by cases h),F.fns,F.css,F.bls⟩
variable {r:Ev}
theorem bm4(R:Sound S r) (F:Fit S c X) (tg a:Expr) {p pos:Pos}(hg:Gl X "reversed") (hm:X.mg "reversed" = none):JI X tg (.Call (.Name "reversed" p) [a] [] pos) (evR S c tg a):=by
 have no:∀e:Expr,JI X tg e fun _=>none:=fun e ρ ds q=>nomatch q
 unfold evR
 split
 ·split
  ·split
   ·split
    ·split
     ·rename_i h
      simp only [Bool.and_eq_true]at h
      obtain⟨rfl,h1,h2⟩:=F0 F h.1.1.1
      obtain⟨rfl,h3,h4⟩:=F0 F h.1.1.2
      have ht:=h.1.2
      exact no _
     ·exact no _
    ·exact no _
   ·exact no _
  ·exact no _
 ·exact no _
theorem bb5(R:Sound S r) (F:Fit S c X) (tg it:Expr):JI X tg it (evI S r c tg it):=by
 unfold evI
 split
 ·rename_i x p a pos
  split
  ·rename_i h
   obtain⟨rfl,h1,h2⟩:=F0 F h
   exact bm4 R F tg a h1 h2
  ·split
   ·rename_i h
    simp only [Bool.and_eq_true]at h
    obtain⟨rfl,h1,h2⟩:=F0 F h.1
    exact aC5 h1 h2 (R.e F a) (D3 h.2 _ _)
   ·split
    ·rename_i h
     simp only [Bool.and_eq_true]at h
     obtain⟨rfl,h1,h2⟩:=F0 F h.1.1
     have ht:=h.1.2
     exact fun ρ ds q=>nomatch q
    ·exact ar3 (R.e F _)
 ·rename_i x p a b pos
  split
  ·rename_i h
   simp only [Bool.and_eq_true]at h
   obtain⟨rfl,h1,h2⟩:=F0 F h.1.1
   exact aC4 h1 h2 (R.e F a) (R.e F b) (by rw [D3 h.1.2,D3 h.2];rfl) (D3 h.2 _ _)
  ·split
   ·rename_i h
    simp only [Bool.and_eq_true]at h
    obtain⟨rfl,h1,h2⟩:=F0 F h.1.1.1
    have ht:=h.1.1.2
    cases tg<;>first|(exact bm3 h1 h2 (R.e F a) (R.e F b) (by rw [D3 h.1.2,D3 h.2];rfl) (D3 h.2 _ _))|(exact nomatch ht)
   ·exact ar3 (R.e F _)
 ·split
  ·exact fun ρ ds q=>nomatch q
  ·exact ar3 (R.e F _)
theorem ay3(R:Sound S r) (F:Fit S c X) {elt tgt iter:Expr}{ifs:List Expr}{scope:Scope}{caps:List Nat}
  (h:(p7 c.N (G.inner c (L8 tgt) caps scope).N (L8 tgt).length caps c.sc scope&&i4 (G.inner c (L8 tgt) caps scope).N&&pl iter)=true) :
  CompSc X (G.inner c (L8 tgt) caps scope).N (L8 tgt).length caps scope/\JI X tgt iter (evI S r c tgt iter)/\(∀C s0 H0 ex,JG (D0 X (G.inner c (L8 tgt) caps scope).N scope C s0 H0 ex) tgt (r.g (G.inner c (L8 tgt) caps scope) tgt)) /\
  (∀C s0 H0 ex,JTs (D0 X (G.inner c (L8 tgt) caps scope).N scope C s0 H0 ex) ifs (aP0 (r.t (G.inner c (L8 tgt) caps scope)) ifs))/\(∀C s0 H0 ex,JE (D0 X (G.inner c (L8 tgt) caps scope).N scope C s0 H0 ex) elt (r.e (G.inner c (L8 tgt) caps scope) elt)) /\
  ∀x,foldedSetIterable iter X.env x=pure x:=by
 simp only [Bool.and_eq_true]at h
 obtain⟨⟨h1,h2⟩,h3⟩:=h
 have hn:=h9 h2
 exact⟨aD9 h1 F.N F.sc,bb5 R F tgt iter,fun C s0 H0 ex=>R.g (F.inner hn) tgt,fun C s0 H0 ex=>bk7 (R.t (F.inner hn)) ifs,fun C s0 H0 ex=>R.e (F.inner hn) elt,av4 h3 _⟩
theorem bw6(R:Sound S r) (F:Fit S c X) (ex:Expr):JN X ex (evC S r c ex):=by
 unfold evC
 split
 ·rename_i elt tgt iter ifs scope pos
  dsimp only
  split
  ·rename_i h
   obtain⟨h1,h2,h3,h4,h5,h6⟩:=ay3 (ifs:=ifs) (elt:=elt) R F h
   exact aX4 h1 F.hx h2 h3 h4 h5 F.calm h6
  ·exact ad8
 ·exact ad8
theorem az5{x:Str}{T:String}(h:bd9 x=some T):bootBuiltins x=some (.type T)/\x ≠ "__name__" /\ (x==("__debug__" : Str))=false:=by
 unfold bd9 at h
 split at h
 ·rename_i e;cases h;simp only [beq_iff_eq]at e;subst e;exact⟨at0,by decide,by decide⟩
 ·split at h
  ·rename_i e;cases h;simp only [beq_iff_eq]at e;subst e;exact⟨aZ6,by decide,by decide⟩
  ·split at h
   ·rename_i e;cases h;simp only [beq_iff_eq]at e;subst e;exact⟨bp7,by decide,by decide⟩
   ·split at h
    ·rename_i e;cases h;simp only [beq_iff_eq]at e;subst e;exact⟨ao4,by decide,by decide⟩
    ·split at h
     ·rename_i e;cases h;simp only [beq_iff_eq]at e;subst e;exact⟨ay7,by decide,by decide⟩
     ·cases h
theorem K8(pos:Pos) (env:Env):∀{es:List Expr},es.all pl=true->(starEach es env).any (·.1)=false
 | [],_=>rfl
 | e::es,h=>by
  simp only [List.all_cons,Bool.and_eq_true]at h
  rw [D3 h.1,List.any_cons,K8 pos env h.2];rfl
end
section
variable {X:Cx}{S:Sg}{c:Kx}{r:Ev}
theorem aR0(R:Sound S r) (F:Fit S c X) (a i:Expr) (pos:Pos):JE X (.Subscript a i pos) (bc9 r c a i):=by
 unfold bc9
 split
 ·split
  ·exact aM0 (R.e F _) (V0 (R.e F) _) (V0 (R.e F) _)
  ·split
   ·exact bm7 (R.e F _) (V0 (R.e F) _) (V0 (R.e F) _)
   ·split
    ·exact bm8 (R.q F _) (V0 (R.e F) _) (V0 (R.e F) _)
    ·exact bm9 (R.e F _) (V0 (R.e F) _) (V0 (R.e F) _)
 ·exact aX8 (R.e F _) (ar4 aM5)
 ·split
  ·rename_i h
   split
   ·exact bn2 (R.e F _) (R.e F _) (av3 h)
   ·exact bw9 (R.q F _) (R.e F _) (av3 h)
  ·exact B4
theorem az4(R:Sound S r) (F:Fit S c X) (x:Str) (a:Expr) (p pos:Pos):JE X (.Call (.Name x p) [a] [] pos) (ap4 S r c x a):=by
 unfold ap4
 split
 ·exact B4
 rename_i hp
 have hp:pl a=true:=by simpa using hp
 have hs:=D3 hp [] X.env
 split
 ·rename_i h
  obtain⟨rfl,h1,h2⟩:=F0 F h
  split
  ·rename_i y py e ppos
   split
   ·rename_i hy
    simp only [Bool.and_eq_true]at hy
    obtain⟨rfl,g1,g2⟩:=F0 F hy.1
    exact B4
   ·exact aM2 h1 h2 (R.q F _) hs
  ·split
   ·exact B4
   ·exact aM2 h1 h2 (R.q F a) hs
 split
 ·rename_i h;obtain⟨rfl,h1,h2⟩:=F0 F h;exact aX7 h1 h2 (R.q F a) hs
 split
 ·rename_i h;obtain⟨rfl,h1,h2⟩:=F0 F h;exact bn7 h1 h2 (R.q F a) F.calm hs
 split
 ·rename_i h;obtain⟨rfl,h1,h2⟩:=F0 F h;exact aM4 h1 h2 (R.e F a) hs
 split
 ·rename_i h;obtain⟨rfl,h1,h2⟩:=F0 F h;exact B4
 split
 ·rename_i h;obtain⟨rfl,h1,h2⟩:=F0 F h;exact B4
 split
 ·rename_i h;obtain⟨rfl,h1,h2⟩:=F0 F h;exact B4
 split
 ·rename_i h;obtain⟨rfl,h1,h2⟩:=F0 F h;exact aX9 h1 h2 (R.q F a) F.calm hs
 exact B4
theorem az3(R:Sound S r) (F:Fit S c X) (x:Str) (a b:Expr) (p pos:Pos):JE X (.Call (.Name x p) [a,b] [] pos) (ap3 S r c x a b):=by
 unfold ap3
 split
 ·exact B4
 rename_i hp
 have hp:pl a=true:=by simpa using hp
 split
 ·rename_i h
  obtain⟨rfl,h1,h2⟩:=F0 F h
  split
  ·rename_i y py
   split
   ·rename_i T hT
    split
    ·rename_i hy
     obtain⟨_,g1,g2⟩:=F0 F hy
     obtain⟨t1,t2,t3⟩:=az5 hT
     exact bn3 h1 h2 g1 g2 t1 (R.e F a) t2 t3 (D3 hp _ _) rfl rfl
    ·exact B4
   ·exact B4
  ·exact B4
 split
 ·exact B4
 rename_i hb
 have hb:pl b=true:=by simpa using hb
 split
 ·rename_i h;obtain⟨rfl,h1,h2⟩:=F0 F h;exact B4
 split
 ·rename_i h;obtain⟨rfl,h1,h2⟩:=F0 F h;exact B4
 exact B4
theorem O9(pos:Pos):∀l:List (Bool×Sem Value),(backTo pos l).any (·.1)=l.any (·.1)
 | []=>rfl
 | (b,t)::r=>by
  have ih:=O9 pos r
  unfold backTo at ih ⊢
  rw [xmc,List.any_cons,List.any_cons,ih]
theorem aF0(R:Sound S r) (F:Fit S c X) (x:Str) (args:List Expr) (p pos:Pos):JE X (.Call (.Name x p) args [] pos) (aF1 S r c x args (.Call (.Name x p) args [] pos)):=by
 unfold aF1
 split
 ·rename_i Fn n hl
  split
  ·rename_i h
   simp only [Bool.and_eq_true,beq_iff_eq]at h
   obtain⟨⟨hg,hn⟩,hp⟩:=h
   obtain⟨g1,g2⟩:=M2 F hg
   rcases F.fns _ _ _ hl with⟨k,f,fd,ps,hk,hr,hm,hkp,hb⟩|⟨hm,hb⟩
   case inr =>
    cases args with
    | nil=>cases hn;exact absurd hb.1 (Nat.lt_irrefl _)
    | cons e es =>
     simp only [List.all_cons,Bool.and_eq_true]at hp
     exact bx2 hb F.units g1 hm (S5 (R.e F) (e::es)) hn g2 (D3 hp.1 _ _) ((O9 pos _).trans (K8 pos _ hp.2))
   cases args with
   | nil=>cases hn;exact aN1 hk hr g1 hm hkp hb g2
   | cons e es =>
    simp only [List.all_cons,Bool.and_eq_true]at hp
    exact aY1 hk hr g1 hm hkp hb (S5 (R.e F) (e::es)) hn g2 (D3 hp.1 _ _) ((O9 pos _).trans (K8 pos _ hp.2))
  ·exact B4
 ·split
  ·split
   ·exact Y6 (R.n F _)
   ·exact az4 R F _ _ _ _
  ·exact az3 R F _ _ _ _ _
  ·exact B4
theorem ap2(k:Const) (u:Nat) (pos:Pos):JE X (.Constant k u pos) (xCn k):=by
 unfold xCn
 split
 ·exact bn1
 ·exact bx1
 ·exact aM5
 ·exact bm6
 ·exact B4
theorem aR4(R:Sound S r) (F:Fit S c X) (a:Expr) (op:Operator) (b:Expr) (pos:Pos):JE X (.BinOp a op b pos) (bd5 r c a op b):=by
 unfold bd5
 split
 ·split
  ·exact O0 aI9 (R.e F _) (R.e F _)
  ·exact O0 aw4 (R.e F _) (R.e F _)
 ·exact O0 bi8 (R.e F _) (R.e F _)
 ·split
  ·exact O0 ah3 (R.e F _) (R.e F _)
  ·split
   ·split
    ·exact O0 aV4 (R.e F _) (R.e F _)
    ·exact O0 aw3 (R.e F _) (R.e F _)
   ·exact O0 aw3 (R.e F _) (R.e F _)
 ·exact O0 bj2 (R.e F _) (R.e F _)
 ·exact O0 bj0 (R.e F _) (R.e F _)
 ·exact B4
 ·exact B4
theorem bc8(R:Sound S r) (F:Fit S c X) (op:UnaryOp) (a:Expr) (pos:Pos):JE X (.UnaryOp op a pos) (xUn r c op a):=by
 unfold xUn
 split
 ·exact ar4 (R.e F _)
 ·exact aM1 (R.e F _)
 ·exact B4
theorem aR3(R:Sound S r) (F:Fit S c X) (a:Expr) (ops:List CmpOp) (bs:List Expr) (pos:Pos):JE X (.Compare a ops bs pos) (bd3 S r c a ops bs):=by
 have hu:=F.units
 unfold bd3
 split
 ·split
  ·rename_i h;exact aM7 (aI6 hu S c _ _) (R.e F _) (R.e F _) (T8 h _)
  ·exact B4
 ·split
  ·rename_i h;exact aM8 (Q1 hu _) (Q1 hu _) (R.e F _) (R.e F _) (R.e F _) (T8 h _)
  ·exact B4
 ·exact B4
theorem aR2(R:Sound S r) (F:Fit S c X) (o:Expr) (m:Str) (apos cpos:Pos) (args:List Expr):JE X (.Call (.Attribute o m apos) args [] cpos) (bd1 r c o m apos cpos args):=by
 have hu:=F.units
 unfold bd1
 split
 ·split
  ·rename_i h
   simp only [Bool.and_eq_true,beq_iff_eq]at h
   obtain⟨⟨⟨hm,hn⟩,hl⟩,hp⟩:=h
   subst hm
   have hs:=D3 hp [] X.env
   exact aY0 (R.e F _) (R.q F _) (R7 hn _ _ _) (by rw [hs];rfl) (by simpa using hl) hs
  ·split
   ·rename_i h
    simp only [Bool.and_eq_true,beq_iff_eq]at h
    obtain⟨⟨⟨hm,hn⟩,hl⟩,hp⟩:=h
    subst hm
    have hs:=D3 hp [] X.env
    exact B4
   ·exact B4
 ·exact B4
theorem bd4(R:Sound S r) (F:Fit S c X) (f:Expr) (args:List Expr) (kw:List Keyword) (pos:Pos):JE X (.Call f args kw pos) (xCl S r c f args kw pos):=by
 unfold xCl
 split
 ·split
  ·exact aF0 R F _ _ _ _
  ·exact aR2 R F _ _ _ _ _
  ·exact B4
 ·exact B4
theorem br5(R:Sound S r) (F:Fit S c X) (ex:Expr):JE X ex (xE S r c ex):=by
 unfold xE
 split
 ·exact ap2 _ _ _
 ·split
  ·rename_i i h
   split
   ·rename_i v;obtain⟨h1,h2,h3⟩:=P4 F v;exact aL7 i (F.slot h) h1 h2 h3
   ·exact B4
  ·split
   ·rename_i d hd
    split
    ·rename_i g;obtain⟨u,k1,k2⟩:=F.css _ _ hd;obtain⟨g1,g2⟩:=M2 F g;exact bn5 k1 g1 k2 g2
    ·exact B4
   ·exact B4
 ·split
  ·rename_i h;exact aL9 (S5 (R.e F) _) h
  ·exact B4
 ·exact Y6 (R.n F _)
 ·exact Y6 (R.n F _)
 ·exact aR4 R F _ _ _ _
 ·exact bc8 R F _ _ _
 ·exact aR3 R F _ _ _ _
 ·exact o8 (R.e F) _ _ _
 ·exact bn4 (R.t F _) (R.e F _) (R.e F _)
 ·exact aR0 R F _ _ _
 ·exact bd4 R F _ _ _ _
 ·exact B4
theorem br2(R:Sound S r) (F:Fit S c X) (ex:Expr):JQ X ex (xQ S r c ex):=by
 unfold xQ
 split
 ·split
  ·rename_i i h
   split
   ·rename_i v;obtain⟨h1,h2,h3⟩:=P4 F v;exact bl9 i (F.slot h) h1 h2 h3
   ·exact bb4
  ·exact aL3 (R.e F _)
 ·exact bm0 (R.n F _)
 ·exact bm0 (R.n F _)
 ·split
  ·exact bm0 (R.n F _)
  ·exact aL3 (R.e F _)
 ·exact aL3 (R.e F _)
theorem br3(R:Sound S r) (F:Fit S c X) (ex:Expr):JN X ex (xN S r c ex):=by
 unfold xN
 split
 ·split
  ·rename_i h;exact aL4 (S5 (R.e F) _) h
  ·exact ad8
 ·exact bw6 R F _
 ·split
  ·rename_i h
   simp only [Bool.and_eq_true]at h
   obtain⟨rfl,h1,h2⟩:=F0 F h.1
   exact aX3 h1 h2 (R.q F _) (D3 h.2 _ _)
  ·exact ad8
 ·exact bm1 (R.q F _) (R.q F _)
 ·exact ad8
theorem br0(R:Sound S r) (F:Fit S c X) (ex:Expr):JT X ex (xT S r c ex):=by
 have hu:=F.units
 unfold xT
 split
 ·unfold ba0
  split
  ·split
   ·rename_i h;exact aK5 (aI6 hu S c _ _) (R.e F _) (R.e F _) (T8 h _)
   ·exact S4
  ·split
   ·rename_i h;exact aK6 (Q1 hu _) (Q1 hu _) (R.e F _) (R.e F _) (R.e F _) (T8 h _)
   ·exact S4
  ·exact S4
 ·exact am7 (o7 (R.t F) _ _ _)
 ·unfold bq9
  split
  ·exact aK4 (R.t F _)
  ·exact S4
 ·split
  ·rename_i h;exact aK3 (R.e F _) (al2 h _)
  ·exact S4
theorem br4(R:Sound S r) (F:Fit S c X) (ex:Expr):JG X ex (xG r c ex):=by
 unfold xG
 split
 ·split
  ·rename_i i h
   split
   ·rename_i v;obtain⟨h1,h2⟩:=ah7 F v;exact aX6 i (by rw [F.N];exact F.nd) (F.slot h) h1 h2
   ·exact am8
  ·exact am8
 ·split
  ·rename_i h
   obtain⟨h1,h2⟩:=ay8 (env:=X.env) h
   exact bm5 (aL5 (R.g F) _ h) F.calm h1 h2
  ·exact am8
 ·exact am8
theorem aw9{st:Stmt}{f:DS}(h:∀ρ,f ρ=none):JS X st f:=fun ρ fl q=>by rw [h ρ]at q;cases q
theorem aQ1(F:Fit S c X) (h:c.df=true):X.env.blockKind=.function:=by
 unfold Env.blockKind
 rw [F.sc,(F.df h).2];rfl
theorem ac1(elt:Expr) (gens:List Comprehension) (sc:Scope) (pv p':Pos) (x:Str) (l:Nat) (env:Env):swapsWith (.ListComp elt gens sc pv) (some (.Name x p')) l env =
  pure (env.blockKind == .function&&env.kindOf x==some .local&&p'.line==pv.line && !(sc.names.any fun(n,k)=>n==x&&(k == .local || k == .cell))):=rfl
theorem ax0(R:Sound S r) (F:Fit S c X) {x:Str}{p' pv p:Pos}{elt:Expr}{gens:List Comprehension}{sc:Scope}{i:Nat}(hi:O6 x c.N=some i) (hl:(c.sc.names.lookup x==some .local)=true)
  (h:(c.df&&p'.line==pv.line && !(sc.names.any fun(n,k)=>n==x&&(k == .local || k == .cell)))=true) :
  JS X (.Assign [.Name x p'] (.ListComp elt gens sc pv) p) (aG4 i (evC S r c (.ListComp elt gens sc pv)))/\JS X (.Assign [.Name x p'] (.ListComp elt gens sc pv) p) (K1 i (evC S r c (.ListComp elt gens sc pv))):=by
 unfold evC
 simp only [Bool.and_eq_true]at h
 have hl':X.env.scope.names.lookup x=some .local:=by rw [F.sc];simpa using hl
 have hsw:swapsWith (.ListComp elt gens sc pv) (some (.Name x p')) p.line X.env=pure true:=by
  rw [ac1,aQ1 F h.1.1,h.1.2,h.2]
  unfold Env.kindOf
  rw [hl'];rfl
 split
 ·rename_i elt tgt iter ifs scope pos he
  cases he
  dsimp only
  split
  ·rename_i hc
   obtain⟨h1,h2,h3,h4,h5,h6⟩:=ay3 (ifs:=ifs) (elt:=elt) R F hc
   exact⟨aW6 i (by rw [F.N];exact F.nd) h1 F.hx h2 h3 h4 h5 (F.slot hi) hl' hsw F.calm h6,aW8 i (by rw [F.N];exact F.nd) h1 F.hx h2 h3 h4 h5 (F.slot hi) hl' hsw F.calm h6⟩
  ·exact⟨aw9 fun ρ=>rfl,aw9 fun ρ=>rfl⟩
 ·exact⟨aw9 fun ρ=>rfl,aw9 fun ρ=>rfl⟩
theorem aR5(R:Sound S r) (F:Fit S c X) (tg v:Expr) (p:Pos):JS X (.Assign [tg] v p) (bd6 S r c tg v p):=by
 have nd:X.N.Nodup:=by rw [F.N];exact F.nd
 unfold bd6
 split
 ·rename_i x p'
  split
  ·exact A7
  ·rename_i i hi
   split
   ·exact A7
   ·rename_i hlo
    have hlo:aC2 c x=true:=by simpa using hlo
    obtain⟨l1,l2⟩:=ah7 F hlo
    split
    ·rename_i elt gens sc pv
     split
     ·rename_i hl
      split
      ·rename_i h
       split
       ·exact(ax0 R F hi hl h).1
       ·exact(ax0 R F hi hl h).2
      ·exact A7
     ·rename_i hl
      refine ar2 i nd (R.e F _) (F.slot hi) l1 ?_ l2
      rw [ac1]
      have:(X.env.kindOf x==some .local)=false:=by
       unfold Env.kindOf
       rw [F.sc];simpa using hl
      rw [this,Bool.and_false];rfl
    ·split
     ·exact A7
     ·rename_i hc
      have hc:isC v=false:=by simpa using hc
      split
      ·exact bl0 i nd (R.n F _) (F.slot hi) l1 (Y4 hc _ _ _) l2
      ·exact ar2 i nd (R.e F _) (F.slot hi) l1 (Y4 hc _ _ _) l2
 ·split
  ·exact A7
  ·rename_i i hi
   split
   ·rename_i h
    simp only [Bool.and_eq_true,Bool.not_eq_true']at h
    obtain⟨h1,h2,h3⟩:=P4 F h.1
    exact bk8 i (R.n F _) (V0 (R.e F) _) (V0 (R.e F) _) (F.slot hi) h1 h2 h3 (Y4 h.2 _ _ _)
   ·exact A7
 ·rename_i x px y py kt pt
  split
  ·rename_i a b k2 p2
   split
   ·rename_i i j hi hj
    split
    ·rename_i h
     unfold bu3 at h
     simp only [Bool.and_eq_true,Bool.not_eq_true',beq_iff_eq]at h
     obtain⟨⟨⟨⟨⟨⟨⟨⟨hd,ha⟩,hb⟩,hxy⟩,hl⟩,hx⟩,hy⟩,hf⟩,hcs⟩:=h
     have hx':X.env.scope.names.lookup x=some .local:=by rw [F.sc];exact hx
     have hy':X.env.scope.names.lookup y=some .local:=by rw [F.sc];exact hy
     have hne:i≠j:=fun z=>by
      subst z
      have:=(F.slot hi).symm.trans (F.slot hj)
      cases this
      simp at hxy
     refine bk9 nd (S5 (R.e F) [a,b]) ?_ hne (F.slot hi) (F.slot hj) hx' hy' F.calm rfl
     have kx:X.env.kindOf x=some .local:=hx'
     have ky:X.env.kindOf y=some .local:=hy'
     have st:∀e:Expr,pl e=true->(match e with | .Starred ..=>true|_=>false)=false:=fun e he=>by cases e<;>first|rfl|cases he
     have sa:=st a ha
     have sb:=st b hb
     have hyx:(y==x)=false:=by
      cases q:(y==x) with
      | false=>rfl
      | true=>simp only [beq_iff_eq]at q;subst q;simp at hxy
     simp only [swappedStores,List.length_cons,List.length_nil,List.head?_cons,xms,Option.getD_some,Expr.pos,List.filterMap_cons,List.filterMap_nil,kx,ky,aQ1 F hd,hf,hcs,hl,sa,sb,List.any_cons,List.any_nil]
     simp [List.eraseDups,List.eraseDupsBy,List.eraseDupsBy.loop,hxy,hyx]
     intro z
     rcases z with z|z
     ·cases a<;>first|exact absurd (show false=true from z) Bool.false_ne_true|exact nomatch ha
     ·cases b<;>first|exact absurd (show false=true from z) Bool.false_ne_true|exact nomatch hb
    ·exact A7
   ·exact A7
  ·exact A7
  ·rename_i h1 h2
   refine aK9 (R.e F _) (R.g F _) ?_ ?_ rfl
   ·cases v<;>rfl
   ·cases v<;>first|rfl|exact(h2 _ _ _ rfl).elim
 ·rename_i es kt pt _
  split
  ·exact A7
  ·rename_i h
   refine aK9 (R.e F _) (R.g F _) ?_ ?_ rfl
   ·cases v<;>rfl
   ·cases v<;>first|rfl|skip
    rename_i vs k3 p3
    have h:(es.length==2 || es.length==3)=false:=by simpa [an2] using h
    unfold swappedStores
    simp only [h,xnf,Bool.true_or,if_true]
 ·exact A7
end
section
variable {X:Cx}{S:Sg}{c:Kx}{r:Ev}
theorem aR1(R:Sound S r) (F:Fit S c X) (x m:Str) (e:Expr) (p apos cpos pos:Pos) (hl:(apos.endLine==cpos.line)=true):JS X (.Expr (.Call (.Attribute (.Name x p) m apos) [e] [] cpos) pos) (bd0 r c x m e):=by
 unfold bd0
 split
 ·exact A7
 ·rename_i i hi
  split
  ·rename_i h
   simp only [Bool.and_eq_true]at h
   obtain⟨h1,h2,h3⟩:=P4 F h.1
   have hs:=D3 h.2 [] X.env
   split
   ·rename_i hm
    simp only [beq_iff_eq]at hm
    subst hm
    exact bl5 i (R.e F e) (F.slot hi) h1 h2 h3 rfl (by rw [hs];rfl) hl hs rfl
   ·split
    ·rename_i hm
     simp only [beq_iff_eq]at hm
     subst hm
     exact bl3 i (R.e F e) (F.slot hi) h1 h2 h3 hl hs
    ·exact A7
  ·exact A7
theorem bd2(R:Sound S r) (F:Fit S c X) (e:Expr) (pos:Pos):JS X (.Expr e pos) (xEx r c e):=by
 unfold xEx
 split
 ·split
  ·split
   ·split
    ·split
     ·rename_i h;exact aR1 R F _ _ _ _ _ _ _ h
     ·exact A7
    ·exact A7
   ·exact A7
  ·exact A7
 ·exact A7
theorem aE9(R:Sound S r) (F:Fit S c X) (st:Stmt):JS X st (xS0 S r c st):=by
 unfold xS0
 split
 ·unfold br1
  split
  ·exact ai0 (R.e F _)
  ·exact A7
 ·exact bb3 (R.t F _) (R.b F _) (R.b F _)
 ·unfold xWh
  split
  ·exact aK8 (R.t F _) (R.b F _) F.po
  ·exact A7
 ·unfold xFo
  split
  ·split
   ·rename_i h;exact bl2 (bb5 R F _ _) (R.g F _) (R.b F _) F.po F.calm (av4 h _)
   ·exact A7
  ·exact A7
 ·unfold xAs
  split
  ·exact aR5 R F _ _ _
  ·exact A7
 ·exact bd2 R F _ _
 ·exact aW7
 ·exact bl4
 ·exact aW5
 ·exact A7
theorem aO5{st:Stmt}:∀(l:List Nat) {g:DS},JS X st g->JS X st (l.foldl (fun g i=>bg1 i g) g)
 | [],_,h=>h
 | i::l,_,h=>aO5 l (bl1 i h)
theorem at7(R:Sound S r) (F:Fit S c X) (st:Stmt):JS X st (xS S r c st):=by
 unfold xS fzW
 split
 ·exact aE9 R F st
 ·exact aO5 _ (aE9 R F st)
theorem S6{f:Stmt->DS}(h:∀st,JS X st (f st)):∀sts,JSs X sts (evB f sts)
 | []=>aW3
 | [s]=>aW2 (h s)
 | s::t::J4=>aK7 (h s) (S6 h (t::J4))
theorem aS0(R:Sound S r):Sound S (step S r) :=
 ⟨fun F=>br5 R F,fun F=>br2 R F,fun F=>br3 R F,fun F=>br0 R F,fun F=>br4 R F,fun F=>S6 (at7 R F)⟩
theorem M8(S:Sg):∀n,Sound S (ev S n)
 | 0=>⟨fun _ _=>B4,fun _ _=>bb4,fun _ _=>ad8,fun _ _=>S4,fun _ _=>am8,fun _ _ ρ fl q=>by cases q⟩
 | n+1=>aS0 (M8 S n)
end
structure Fd where
 x:Str
 st:Stmt
 ps:List Str
 N:List Str
 own:List Nat:=[]
 tx:List Nat:=[]
 old:Bool:=false
 fz:List (Nat×List Nat):=[]
 hc:List ((Nat×Nat)×List Nat):=[]
def Fd.c(d:Fd):Kx:={ N:=d.N,sc:=B5 d.st,df:=true,own:=d.own,cpt:=[],tx:=d.tx,old:=d.old,fz:=d.fz,hc:=d.hc }
def Fd.okB(d:Fd):Bool:=let sc:=B5 d.st
 sc.kind == .function && !sc.isCoroutine && !sc.isGenerator&&i4 d.N&&d.N.take d.ps.length==d.ps&&(d.ps.all fun x=>match sc.names.lookup x with|some .local=>true|some .cell=>true|_=>false)&&sc.names.all fun y=>match y.2 with | .free=>false|_=>true
theorem Fd.sc{d:Fd}(h:d.okB=true):FnScope d.N d.ps (B5 d.st):=by
 unfold Fd.okB at h
 simp only [Bool.and_eq_true,Bool.not_eq_true',beq_iff_eq,List.all_eq_true]at h
 obtain⟨⟨⟨⟨⟨⟨h1,h2⟩,h3⟩,h4⟩,h5⟩,h6⟩,h7⟩:=h
 refine⟨h1,h2,h3,h9 h4,h5,fun x hx=>?_,fun y hy e=>?_⟩
 ·have:=h6 x hx
  split at this
  ·rename_i q;exact .inl q
  ·rename_i q;exact .inr q
  ·cases this
 ·have:=h7 y hy
  rw [e]at this
  cases this
def KF(K:PySem.W.Frag) (x:Str) (st:Stmt):Prop:=∃(f:Addr) (oc:Value) (od:Option Addr) (sl:Array (Option Value)) (kV dc pm:Value) (an:Option Addr) (cd ct:Value),
 PySem.W.nsIn K mainGlobals x=some (some (.ref f))/\K.lookup f=some ⟨oc,od,.func (PySem.W.fnOf x x (N4 st) (F3 st) (B5 st) .none kV dc pm an cd ct),sl⟩/\PySem.W.codeIn K cd x=true/\PySem.W.keepIn K (.ref f)=true
theorem bw1{K:PySem.W.Frag}{x:Str}{st:Stmt}{f:Addr}{oc:Value}{od:Option Addr}{sl:Array (Option Value)}{kV dc pm:Value}{an:Option Addr}{cd ct:Value}(a:PySem.W.nsIn K mainGlobals x=some (some (.ref f)))
  (l:K.lookup f=some ⟨oc,od,.func (PySem.W.fnOf x x (N4 st) (F3 st) (B5 st) .none kV dc pm an cd ct),sl⟩) (c:PySem.W.codeIn K cd x=true) (k:PySem.W.keepIn K (.ref f)=true):KF K x st:=⟨f,oc,od,sl,kV,dc,pm,an,cd,ct,a,l,c,k⟩
abbrev Tab:=List (Str×FnD×Nat)
section
variable {P:Program}{w:World}{K:PySem.W.Frag}{mg:Str->Option Value}{base:Heap}{cs:List (Str×D)}{bl:List Str}
structure Md (K:PySem.W.Frag) (mg:Str->Option Value) (cs:List (Str×D)) (bl:List Str):Prop where
 ns:∀x v,PySem.W.nsIn K mainGlobals x=some (some v)->mg x=some v
 css:∀x d,cs.lookup x=some d->∃u,at6 K d u/\mg x=some u
 bls:∀x,bl.contains x=true->mg x=none
def TOk(P:Program) (w:World) (K:PySem.W.Frag) (mg:Str->Option Value) (base:Heap) (k:Nat) (tab:Tab):Prop:=∀x F n,tab.lookup x=some (F,n)->(∃(f:Addr) (fd:FuncData) (ps:List Str),
 FnOk P w K mg base CX0 k f fd ps (spF K n F)/\mg x=some (.ref f)/\PySem.W.keepIn K (.ref f)=true/\J9 K fd ps [])\/(mg x=none/\bq6 x F n)
theorem TOk.nil:TOk P w K mg base 0 []:=fun x F n h=>by cases h
theorem TOk.mono{j k:Nat}{tab:Tab}(T:TOk P w K mg base j tab) (h:j<=k):TOk P w K mg base k tab:=fun x F n e =>
 (T x F n e).imp (fun⟨f,fd,ps,h1,h2,h3,h4⟩=>⟨f,fd,ps,h1.mono h,h2,h3,h4⟩) id
section
variable {P:List Value->Prop}
theorem ua0(h:P []):∀us:List Value,us.length=0->P us
 | [],_=>h
theorem ua1(h:∀a,P [a]):∀us:List Value,us.length=1->P us
 | a::us,e=>ua0 (P:=fun us=>P (a::us)) (h a) us (Nat.succ.inj e)
theorem ua2(h:∀a b,P [a,b]):∀us:List Value,us.length=2->P us
 | a::us,e=>ua1 (P:=fun us=>P (a::us)) (h a) us (Nat.succ.inj e)
theorem ua3(h:∀a b c,P [a,b,c]):∀us:List Value,us.length=3->P us
 | a::us,e=>ua2 (P:=fun us=>P (a::us)) (h a) us (Nat.succ.inj e)
theorem ua4(h:∀a b c d,P [a,b,c,d]):∀us:List Value,us.length=4->P us
 | a::us,e=>ua3 (P:=fun us=>P (a::us)) (h a) us (Nat.succ.inj e)
end
def Bd(d:Fd):Prop:=∀(kV doc pm:Value) (an:Option Addr) (cdv ct:Value) (us:List Value),us.length=d.ps.length->bindArgs (PySem.W.fnOf d.x d.x (N4 d.st) (F3 d.st) (B5 d.st) .none kV doc pm an cdv ct) ⟨us,[]⟩=pure (d.ps.zip us)
def rd(tab:Tab) (cs:List (Str×D)) (bl:List Str) (d:Fd):FnD:=L9 ((ev ⟨tab,cs,bl⟩ 99).b d.c (F3 d.st)) d.N.length
theorem bb7{k:Nat}{tab:Tab}{d:Fd}{f:Addr}{fd:FuncData}(M:Md K mg cs bl) (T:TOk P w K mg base k tab) (ok:d.okB=true) (Fn:Fun K d.x d.x d.st f fd):FnOk P w K mg base CX0 (k+1) f fd d.ps (spF K d.ps.length (rd tab cs bl d)):=by
 have Sc:=Fd.sc ok
 refine ax9 (N:=d.N) Fn Sc fun cdv A outer s H E hr=>(M8 ⟨tab,cs,bl⟩ 99).b (c:=d.c) ?_ _
 refine⟨rfl,rfl,Sc.nd,rfl,rfl,hr.units,fun _=>⟨fun _=>rfl,Sc.kind⟩,fun x F n h=>?_,M.css,M.bls⟩
 exact(T x F n h).imp (fun⟨f',fd',ps,h1,h2,h3,h4⟩=>⟨k,f',fd',ps,h1,hr,h2,h3,h4⟩) id
theorem z8{x:Str}{st:Stmt}(h:KF K x st) (M:Md K mg cs bl):∃(f:Addr) (kV dc pm:Value) (an:Option Addr) (cd ct:Value),Fun K x x st f (PySem.W.fnOf x x (N4 st) (F3 st) (B5 st) .none kV dc pm an cd ct)/\mg x=some (.ref f):=by
 obtain⟨f,oc,od,sl,kV,dc,pm,an,cd,ct,a,l,cc,kk⟩:=h
 exact⟨f,kV,dc,pm,an,cd,ct,bo4 l cc kk,M.ns _ _ a⟩
theorem TOk.cons{k:Nat}{tab:Tab}{x:Str}{F:FnD}{n:Nat}(T:TOk P w K mg base k tab) (h:∃(f:Addr) (fd:FuncData) (ps:List Str),FnOk P w K mg base CX0 k f fd ps (spF K n F)/\mg x=some (.ref f)/\PySem.W.keepIn K (.ref f)=true/\J9 K fd ps []) :
  TOk P w K mg base k ((x,F,n)::tab):=fun y G m e=>by
 rw [List.lookup_cons]at e
 split at e
 ·rename_i q
  cases e
  simp only [beq_iff_eq]at q
  subst q
  exact .inl h
 ·exact T y G m e
theorem TOk.add{k n:Nat}{tab:Tab}{F:FnD}(T:TOk P w K mg base k tab) (M:Md K mg cs bl) (d:Fd) (h:KF K d.x d.st) (bd:Bd d) (ok:d.okB=true) (hn:d.ps.length=n) (e:rd tab cs bl d=F):TOk P w K mg base (k+1) ((d.x,F,n)::tab):=by
 subst hn e
 obtain⟨f,kV,dc,pm,an,cd,ct,Fn,hm⟩:=z8 h M
 exact(T.mono (Nat.le_succ k)).cons ⟨f,_,d.ps,bb7 M T ok Fn,hm,Fn.kp,.all (bd kV dc pm an cd ct)⟩
theorem aV8{k:Nat}{tab:Tab}{F:FnD}{fa:Addr}{x:Str}(M:Md K mg cs bl) (T:∀base:Heap,TOk P w K mg base k tab) (d:Fd) (h:KF K d.x d.st) (bd:Bd d) (ok:d.okB=true) (hp:d.ps=[x]) (e:rd tab cs bl d=F) (hm:mg d.x=some (.ref fa)) :
  ∃fd:FuncData,(∀(s:Shared) (u:Value),BindsTo s fd ⟨[u],[]⟩ [(x,u)])/\∀base:Heap,FnOk P w K mg base CX0 (k+1) fa fd [x] (spF K 1 F):=by
 subst e
 obtain⟨f,kV,dc,pm,an,cd,ct,Fn,hm'⟩:=z8 h M
 cases hm.symm.trans hm'
 refine⟨PySem.W.fnOf d.x d.x (N4 d.st) (F3 d.st) (B5 d.st) .none kV dc pm an cd ct,fun s u=>.of_eq ?_,fun base=>?_⟩
 ·have:=bd kV dc pm an cd ct [u] (by rw [hp];rfl)
  rw [hp]at this
  exact this
 ·have:=bb7 M (T base) ok Fn
  rw [hp]at this
  exact this
end
theorem aa0{K:PySem.W.Frag}{h:Heap}{C:Addr}{bb:List Value}{nid:String}(kin:K.In h) (q:PySem.W.excIn K C bb nid=true) :
  ∃nm qn N bs bm hd sn sub ab col dd k0 k1 k2 k3 k5 mN,h.get? C=some (excClassObj nm qn C N bs bm hd sn sub ab col dd k0 k1 k2 k3 k5 nid)/\h.Ns N mN/\mN "__init__" = none/\OwnTail h bb bm:=by
 unfold PySem.W.excIn at q
 split at q
 case h_2=>cases q
 rename_i d0 c0 sl0 lk
 split at q
 case h_2=>cases q
 rename_i C1 tl p0 p1 p2 p3 n1 p5 e1 e2
 simp only [Bool.and_eq_true,beq_iff_eq,Bool.not_eq_true']at q
 obtain⟨⟨⟨⟨⟨q1,q2⟩,q3⟩,q4⟩,q5⟩,q6⟩:=q
 subst q1 q2
 obtain⟨f1,f2,f3,f4,f5,f6,f7,f8,f9,f10,f11⟩:=c0
 dsimp only at e1 q3 q5 q6
 subst e1 q3
 obtain⟨sll⟩:=sl0
 dsimp only at e2
 subst e2
 exact⟨f1,f5,f4,f2,tl,f6,f7,f8,f9,f10,d0,p0,p1,p2,p3,p5,_,kin _ _ lk,.of_isNs (PySem.W.isNs_of_in kin q5),PySem.W.nsMap_none_of_in kin q5 q6,PySem.W.tail_of_in kin q4⟩
structure Fly (R:Addr->Prop) (l:List Env) (g B:Heap) (C a:Addr) (h:Heap):Prop where
 keep:∀b o,R b->g.get? b=some o->b∉frs l->B.get? b=some o
 fly:∃t,Heap.FlyingW B l a (.ref C) (.ref t) h
 sl:∀b o,g.get? b=some o->b∈frs l->∃z,h.get? b=some { o with slots:=z }
def Rl(s:Shared) (H':Hp) (b:Addr):Prop:=s.heap.get? b≠none\/H' b≠none
def CX1(P:Program) (w:World):CXT:=fun outer H s E e s'=>∃a C g B H',e=.ref a/\s'.os=s.os/\AllBare s'.gens/\Un (frs outer) [] H H' s.heap g/\HOk P w H' g/\Fly (Rl s H') outer g B C a s'.heap/\E (.ref C) none H'
section
variable {X:Cx}{pins:List (Addr×Obj)}{σ:L2.St}{H H':Hp}{s s':Shared}{g B:Heap}
theorem aY5(I:Inv X pins σ H s) (os:s'.os=s.os) (bare:AllBare s'.gens) (un:Un (frs X.stack) [] H H' s.heap g) (hok:HOk X.prog X.w H' g) (keep:∀b o,Rl s H' b->g.get? b=some o->b∉frs X.stack->B.get? b=some o)
  (hB:B.StaysIn s'.heap) (sl:∀b o,g.get? b=some o->b∈frs X.stack->∃z,s'.heap.get? b=some { o with slots:=z }):Inv X pins σ H' s':=by
 have nx:∀b:Addr,b∉([]:List Addr):=fun b z=>absurd z (by simp)
 refine I.call' (ch:=[]) os ⟨fun b o e n m z=>hB b o (keep b o (.inl (by rw [e];simp)) (un.keep b o e n m z) m),fun b o e n m z=>?_,un.free,fun b o e z=>?_,un.tups,un.frzs,un.tbls⟩ ?_ bare (fun b z=>absurd z (nx b))
 ·obtain⟨z1,q⟩:=un.slot b o e n m z
  obtain⟨z2,q2⟩:=sl b _ q m
  exact⟨z2,q2⟩
 ·obtain⟨o',q⟩:=un.there b o e z
  by_cases m:b∈frs X.stack
  ·obtain⟨z2,q2⟩:=sl b _ q m;exact⟨_,q2⟩
  ·exact⟨o',hB b o' (keep b o' (.inl (by rw [e];simp)) q m)⟩
 ·intro a o e
  have fr0:∀b,b∈frs X.stack->H' b=none:=fun b m=>by
   obtain⟨_,o1,h1,_⟩:=I.stack.mem m
   exact un.free b o1 h1 (I.stkFree b m) (nx b)
  refine(hok a o e).stay (fun b u hb q=>?_) (fun _ q=>q) fun _ _ q=>q
  have hn:H' b≠none:=by
   rcases hb with rfl|hb
   ·rw [e];simp
   ·rw [hb];simp
  exact hB b u (keep b u (.inr hn) q fun m=>hn (fr0 b m))
end
section
variable {P:Program}{w:World}{K:PySem.W.Frag}{mg:Str->Option Value}{base:Heap}{N:List Str}{qual:Str}{scope:Scope}{f:Addr}{cd:Value}{A:Around}{outer:List Env}{s:Shared}{H H1:Hp}{E:XK}
 {pins:List (Addr×Obj)}{σ:L2.St}{s1 s':Shared}{h2:Heap}{a C:Addr}{vs:List Value}
abbrev cx1(P:Program) (w:World) (K:PySem.W.Frag) (mg:Str->Option Value) (base:Heap) (N:List Str) (qual:Str) (scope:Scope) (f:Addr) (cd:Value) (A:Around) (outer:List Env) (s:Shared) (H:Hp) (E:XK):Cx:=ai9 (CX1 P w) P w K mg base N qual scope f cd A outer s H E
theorem ba6(I:Inv (cx1 P w K mg base N qual scope f cd A outer s H E) pins σ H1 s1) {b:Addr}(r:Rl s H1 b):b≠s.heap.objs.size:=by
 rintro rfl
 rcases r with r|r
 ·exact r (Heap.get?_none_of_le (Nat.le_refl _))
 ·exact r I.free
theorem ad4{b:Addr}(h1:b∉frs outer) (h2:b≠s.heap.objs.size):b∉frs (cx1 P w K mg base N qual scope f cd A outer s H E).stack:=fun m=>by
 have m:b∈s.heap.objs.size::frs outer:=m
 rcases List.mem_cons.mp m with z|z
 ·exact h2 z
 ·exact h1 z
theorem am6(I:Inv (cx1 P w K mg base N qual scope f cd A outer s H E) pins σ H1 s1) (hm:Heap.MadeExcOf s1.heap h2 a (.ref C) vs) (hE:E (.ref C) none H1):(cx1 P w K mg base N qual scope f cd A outer s H E).xe (.ref a) { s1 with heap:=h2 }:=by
 have hin:∀env∈(cx1 P w K mg base N qual scope f cd A outer s H E).stack,∀b,env.frame=some b->b∈frs (cx1 P w K mg base N qual scope f cd A outer s H E).stack:=fun env he b hb=>List.mem_filterMap.mpr ⟨env,he,hb⟩
 refine wpAny_leaves_madeW (base:=PySem.W.hideAll s1.heap (frs (cx1 P w K mg base N qual scope f cd A outer s H E).stack)) (h:=s1.heap) (outer:=outer) I.ok.frames rfl (fun b o q=>PySem.W.of_hideAll _ q) (PySem.W.funFrames_hide I.stack hin) hm fun h' t x1 _ _ x4=>?_
 refine⟨a,C,s1.heap,_,H1,rfl,I.os,I.bare,I.base,I.hok,⟨fun b o r e m=>PySem.W.hideAll_get _ e (ad4 m (ba6 I r)),⟨t,x1⟩,fun b o e m=>?_⟩,hE⟩
 obtain⟨_,o',e',hd⟩:=I.stack.mem (List.mem_cons_of_mem _ m)
 rw [e]at e';cases e'
 exact x4 b o (hm.keeps b o e) hd
theorem av9(I:Inv (cx1 P w K mg base N qual scope f cd A outer s H E) pins σ H1 s1) {e:Value}(hx:CX1 P w (cx1 P w K mg base N qual scope f cd A outer s H E).stack H1 s1 E e s'):(cx1 P w K mg base N qual scope f cd A outer s H E).xe e s':=by
 obtain⟨a,C,g,B,H',rfl,os,bare,un,hok,F,hE⟩:=hx
 have J:Inv (cx1 P w K mg base N qual scope f cd A outer s H E) pins σ H' { s' with heap:=g }:=I.call' (s':={ s' with heap:=g }) (ch:=[]) os un hok bare (fun b z=>absurd z (by simp))
 obtain⟨t,fl⟩:=F.fly
 refine wpAny_leaves_onW (outer:=outer) I.ok.frames rfl fl fun h' x1 x2=>?_
 have up:∀b,Rl s H' b->Rl s1 H' b:=fun b r=>r.imp (fun z q=>by
  cases e:s.heap.get? b with
  | none=>exact z e
  | some o =>
   obtain⟨o',q'⟩:=I.base.there b o e (fun z=>absurd (show b∈([]:List Addr) from z) (by simp))
   rw [q]at q';cases q') id
 refine⟨a,C,g,B,H',rfl,J.os,bare,J.base,J.hok,⟨fun b o r e m=>F.keep b o (up b r) e (ad4 m (ba6 J r)),⟨t,x1⟩,fun b o e m=>?_⟩,hE⟩
 obtain⟨z,e2⟩:=F.sl b o e (List.mem_cons_of_mem _ m)
 obtain⟨_,o',e',hd⟩:=J.stack.mem (List.mem_cons_of_mem _ m)
 have e':g.get? b=some o':=e'
 rw [e]at e';cases e'
 obtain⟨z2,q⟩:=x2 b _ e2 hd
 exact⟨z2,q⟩
end
abbrev veB:List Value:=[.type "ValueError", .type "Exception", .type "BaseException", .type "object"]
def P2(K:PySem.W.Frag) (x:Str):Bool:=match clA K x with
 | some C=>PySem.W.excIn K C veB "ValueError.__new__"
 | none=>false
abbrev RD:=Rho->Option (Str×Rho)
def EC(C:Addr) (H1:Hp):XK:=fun cls _ H'=>cls=.ref C/\C2 H1 H'
def Ou(X:Cx) (m:Bool) (pins:List (Addr×Obj)) (ρ1:Rho) (C:Addr) (H0 Hf0:Hp) (e:Value) (s':Shared):Prop:=∃σ1 H1 Hf1 s1,Inv X pins σ1 H1 s1/\At X.K H0 Hf0 ρ1 σ1 H1 Hf1 /\
 ((m=true/\∃h' a vs,s'={ s1 with heap:=h' }/\e=.ref a/\Heap.MadeExcOf s1.heap h' a (.ref C) vs)\/CX1 X.prog X.w X.stack H1 s1 (EC C H1) e s')
def Lo(X:Cx) (C:Addr) (H0:Hp) (e:Value) (s':Shared):Prop:=wpAny (model X.prog X.w) X.A (leaving X.env e) (fun _ s''=>CX1 X.prog X.w X.outer X.H₀ X.s₀ (EC C H0) e s'') (fun e' s''=>CX1 X.prog X.w X.outer X.H₀ X.s₀ (EC C H0) e' s'') s'
def Ot(X:Cx) (m:Bool) (pins:List (Addr×Obj)) (ρ1:Rho) (C:Addr) (H0 Hf0:Hp) (e:Value) (s':Shared):Prop:=Ou X m pins ρ1 C H0 Hf0 e s'\/(m=true/\Lo X C H0 e s')
def JR(X:Cx) (m:Bool) (st:Stmt) (r:RD):Prop:=∀ρ x ρ1 C,r ρ=some (x,ρ1)->clA X.K x=some C->∀H0 Hf0 pins s σ H Hf,Inv X pins σ H s->At X.K H0 Hf0 ρ σ H Hf ->
 wpAny (model X.prog X.w) X.A (exec st X.env) (fun _ _=>False) (Ot X m pins ρ1 C H0 Hf0) s
def JRs(X:Cx) (m:Bool) (sts:List Stmt) (r:RD):Prop:=∀ρ x ρ1 C,r ρ=some (x,ρ1)->clA X.K x=some C->∀H0 Hf0 pins s σ H Hf,Inv X pins σ H s->At X.K H0 Hf0 ρ σ H Hf ->
 wpAny (model X.prog X.w) X.A (execs sts X.env) (fun _ _=>False) (Ot X m pins ρ1 C H0 Hf0) s
def PX(X:Cx) (m:Bool) (e:Expr) (r:RD):Prop:=∀ρ x ρ1 C,r ρ=some (x,ρ1)->clA X.K x=some C->∀H0 Hf0 pins s σ H Hf,Inv X pins σ H s->At X.K H0 Hf0 ρ σ H Hf ->
 wpAny (model X.prog X.w) X.A (eval e X.env) (fun _ _=>False) (Ot X m pins ρ1 C H0 Hf0) s
theorem noX{α:Type}{t:Sem α}{Q Q':α->Shared->Prop}{M:Model}{A:Around}{E E':Value->Shared->Prop}{s:Shared}(hx:∀e s,E e s->False) (h:wpAny M A t Q E s) (hQ:∀a s,Q a s->Q' a s):wpAny M A t Q' E' s:=wpAny_mono h hQ fun e s z=>(hx e s z).elim
section
variable {X:Cx}{m:Bool}(hx:∀e s,X.xe e s->False)
include hx
def R5(x:Str) (f:DE):RD:=fun ρ=>(f ρ).map fun _=>(x,ρ)
theorem aL1{x:Str}{e:Expr}{f:DE}{np cpos pos:Pos}(hq:P2 X.K x=true) (hg:Gl X x) (hm:∀C,clA X.K x=some C->X.mg x=some (.ref C)) (hc:X.calm=true) (he:JE X e f) (hd:(x==("__debug__" : Str))=false)
  (hs:starEach [e] X.env=[(false,eval e X.env)]):JR X true (.Raise (some (.Call (.Name x np) [e] [] cpos)) none pos) (R5 x f):=by
 intro ρ y ρ1 C q hC H0 Hf0 pins s σ H Hf I at_
 obtain⟨d,q1,q2⟩:=Option.map_eq_some_iff.mp q
 cases q2
 have hq:PySem.W.excIn X.K C veB "ValueError.__new__" = true:=by unfold P2 at hq;rw [hC]at hq;exact hq
 obtain⟨nm,qn,N,bs,bm,hd',sn,sub,ab,col,dd,k0,k1,k2,k3,k5,mN,g1,g2,g3,g4⟩:=aa0 I.mod.kin hq
 refine wpAny_Raise_call_subT (C:=C) (bm:=bm) (nm:=nm) (q:=qn) (N:=N) (bs:=bs) (hdct:=hd') (sn:=sn) (sub:=sub) (ab:=ab) (col:=col) (dd:=dd) (k0:=k0) (k1:=k1) (k2:=k2) (k3:=k3) (k5:=k5) F.excBase_ValueError (g4.hasType (by decide)) (I.ok.hd hc) (by rw [hs];rfl) g3 ?_
 refine N3 I hg (hm C hC) ⟨rfl,?_⟩ hd
 have hA:=(ax3 he aN2 (by rw [hs];rfl)).run ρ [d] (by simp only [A0,A3,q1,xbs,xms]) cpos pins s σ H (fun vs H'=>(∃Hf',At X.K H0 Hf0 ρ σ H' Hf')/\vs.length=1) I ⟨H0,Hf,at_.gr.sub,at_.sl,fun vs H' Hf' gr rs=>⟨⟨Hf',at_.grow gr⟩,rs.length⟩⟩
 rw [hs]at hA ⊢
 refine Calls.evalArgs_plain (noX hx hA fun us s2 ⟨vs,H2,I2,r2,⟨Hf2,a2⟩,l1⟩=>?_)
 have ln:us.length=1:=by rw [← r2.length];exact l1
 exact⟨rfl,by show us.length<=_;rw [ln];decide,I2.bk _ _ g1,g2.keeps I2.bk,g4.keeps I2.bk,fun h' a hm'=>.inl ⟨σ,H2,Hf2,s2,I2,a2,.inl ⟨rfl,h',a,us,rfl,rfl,hm'⟩⟩⟩
def rNo:RD:=fun _=>none
omit hx in
theorem Q7{st:Stmt}:JR X m st rNo:=fun ρ x ρ1 C q=>by cases q
omit hx in
theorem bl6{sts:List Stmt}:JRs X m sts rNo:=fun ρ x ρ1 C q=>by cases q
def rIf(t:Rho->Option Bool) (a b:RD):RD:=fun ρ=>(t ρ).bind fun c=>if c=true then a ρ else b ρ
theorem bw4{c:Expr}{a b:List Stmt}{t:Rho->Option Bool}{f g:RD}{pos:Pos}(hc:JT X c t) (ha:JRs X m a f) (hb:JRs X m b g):JR X m (.If c a b pos) (rIf t f g):=by
 intro ρ x ρ1 C q hC H0 Hf0 pins s σ H Hf I at_
 obtain⟨d,q1,q2⟩:=Option.bind_eq_some_iff.mp q
 refine wpAny_If (noX hx (hc ρ d q1 pins s σ H (fun d' H'=>d'=d/\∃Hf',Grow H Hf H' Hf') I ⟨H0,Hf,at_.gr.sub,at_.sl,fun H' Hf' gr=>⟨rfl,Hf',gr⟩⟩) fun d' s1 ⟨H1,I1,e,Hf1,gr⟩=>?_)
 subst e
 cases d' with
 | true=>exact ha ρ x ρ1 C q2 hC H0 Hf0 pins s1 σ H1 Hf1 I1 (at_.grow gr)
 | false=>exact hb ρ x ρ1 C q2 hC H0 Hf0 pins s1 σ H1 Hf1 I1 (at_.grow gr)
def Q8(r:RD) (f:DS) (r2:RD):RD:=fun ρ=>match r ρ with
 | some x=>some x
 | none=>match f ρ with
  | some (.nx ρ')=>r2 ρ'
  | _=>none
theorem aL0{st:Stmt}{sts:List Stmt}{r r2:RD}{f:DS}(h1:JR X m st r) (h2:JS X st f) (h3:JRs X m sts r2):JRs X m (st::sts) (Q8 r f r2):=by
 intro ρ x ρ1 C q hC H0 Hf0 pins s σ H Hf I at_
 unfold Q8 at q
 split at q
 ·rename_i y e
  cases q
  exact wpAny_execs_cons (thn (h1 ρ x ρ1 C e hC H0 Hf0 pins s σ H Hf I at_) fun _ _ z=>z.elim)
 ·split at q
  ·rename_i ρ' e
   refine wpAny_execs_cons (noX hx (h2 ρ _ e H0 Hf0 pins s σ H { nx:=fun σ' H'=>∃Hf',At X.K H0 Hf0 ρ' σ' H' Hf',rt:=fun _ _=>False } I ⟨Hf,at_,fun σ' H' Hf' a _=>⟨Hf',a⟩⟩) fun fl s1 z=>?_)
   cases fl with
   | next =>
    obtain⟨σ1,H1,I1,Hf1,a1⟩:=z
    exact h3 ρ' x ρ1 C q hC H0 Hf0 pins s1 σ1 H1 Hf1 I1 a1
   | ret v=>obtain⟨_,_,_,_,_,z⟩:=z;exact z.elim
   | brk=>obtain⟨_,_,_,z⟩:=z;exact z.elim
   | cont=>obtain⟨_,_,_,z⟩:=z;exact z.elim
  ·cases q
omit hx in
theorem aW9{st:Stmt}{r:RD}(h1:JR X m st r):JRs X m [st] r:=fun ρ x ρ1 C q hC H0 Hf0 pins s σ H Hf I at_ =>
 wpAny_execs_cons (thn (h1 ρ x ρ1 C q hC H0 Hf0 pins s σ H Hf I at_) fun _ _ z=>z.elim)
def spR(K:PySem.W.Frag) (n:Nat) (R:List D->Option Str):Sp:=fun vs H _ E=>vs.length=n/\∃Hf ds x C,C2 Hf H/\Reps K Hf ds vs/\R ds=some x/\clA K x=some C/\∀H',C2 H H'->E (.ref C) none H'
def ba7(R:List D->Option Str) (g:Rho->Option (List D)):RD:=fun ρ=>(g ρ).bind fun ds=>(R ds).map fun x=>(x,ρ)
theorem aS7{k:Nat}{f:Addr}{fd:FuncData}{ps:List Str}{n:Nat}{R:List D->Option Str}{x:Str}{e:Expr}{es:List Expr}{g:Rho->Option (List D)}{p pos:Pos}(Fk:FnOk X.prog X.w X.K X.mg X.base (CX1 X.prog X.w) k f fd ps (spR X.K n R)) (hr:Room k X.A) (hg:Gl X x) (hm:X.mg x=some (.ref f)) (hk:PySem.W.keepIn X.K (.ref f)=true) (hb:J9 X.K fd ps [])
  (ha:JA X (e::es) g) (hn:(e::es).length=n) (hdb:(x==("__debug__" : Str))=false) (he:starEach (e::es) X.env=(false,eval e X.env)::starEach es X.env) (hpl:(backTo pos (starEach es X.env)).any (·.1)=false) :
  PX X m (.Call (.Name x p) (e::es) [] pos) (ba7 R g):=by
 intro ρ y ρ1 C q hC H0 Hf0 pins s σ H Hf I at_
 obtain⟨ds,h1,h2⟩:=Option.bind_eq_some_iff.mp q
 obtain⟨y',h4,h3⟩:=Option.map_eq_some_iff.mp h2
 cases h3
 refine wpAny_Call_Name_kw (N3 I hg hm ?_ hdb)
 refine PySem.W.callWith_K (h₀:=X.base) I.ok.mod.kin hk (noX hx (ha.run ρ ds h1 pos pins s σ H (fun vs H'=>∃Hf',At X.K H0 Hf0 ρ σ H' Hf'/\Reps X.K Hf' ds vs) I ⟨H0,Hf,at_.gr.sub,at_.sl,fun vs H1 Hf1 g1 r1=>⟨Hf1,at_.grow g1,r1⟩⟩) fun us s1 ⟨vs,H1,I1,r,Hf1,a1,rp⟩=>⟨I1.kIn,?_⟩) he hpl
 have hl:vs.length=n:=by rw [rp.length,ha.len ρ ds h1,hn]
 have sp:spR X.K n R vs H1 (fun _ _=>False) (EC C H1):=⟨hl,Hf1,ds,y,C,a1.gr.sub,rp,h4,hC,fun H' sm=>⟨rfl,sm⟩⟩
 have hl2:us.length=ps.length:=by rw [← r.length];exact Fk.len vs H1 (fun _ _=>False) (EC C H1) sp
 have bd:BindsTo s1 fd ⟨us,[]⟩ (ps.zip us):=by
  have:=hb s1 us I1.kIn (by rw [List.append_nil];exact hl2)
  rwa [List.append_nil]at this
 refine wpAny_call (codeAny_mono (Fk.run X.A X.stack s1 H1 ⟨us,[]⟩ us vs (fun _ _=>False) (EC C H1) hr I1.env0 bd r sp) fun rs s' hq=>?_)
 cases rs with
 | error e=>exact .inl ⟨σ,H1,Hf1,s1,I1,a1,.inr hq⟩
 | ok fl =>
  cases fl with
  | ret u=>obtain⟨_,_,_,_,_,_,_,z⟩:=hq;exact z.elim
  | next=>exact False.elim hq
  | brk=>exact False.elim hq
  | cont=>exact False.elim hq
omit hx in
theorem aX0{e:Expr}{r:RD}{pos:Pos}(h:PX X m e r) (hs:swapsWith e none pos.line X.env=pure false):JR X m (.Expr e pos) r:=fun ρ x ρ1 C q hC H0 Hf0 pins s σ H Hf I at_ =>
 wpAny_Expr_any (thn (h ρ x ρ1 C q hC H0 Hf0 pins s σ H Hf I at_) fun _ _ z=>z.elim) I.quiet hs
omit hx in
theorem bl8{e:Expr}{r:RD}{pos:Pos}(h:PX X m e r):JR X m (.Return (some e) pos) r:=fun ρ x ρ1 C q hC H0 Hf0 pins s σ H Hf I at_ =>
 wpAny_Return_some (thn (h ρ x ρ1 C q hC H0 Hf0 pins s σ H Hf I at_) fun _ _ z=>z.elim)
omit hx in
theorem bl7{x:Str}{e:Expr}{r:RD}{pos pos':Pos}(h:PX X m e r) (hs:swapsWith e (some (.Name x pos')) pos.line X.env=pure false):JR X m (.Assign [.Name x pos'] e pos) r:=fun ρ y ρ1 C q hC H0 Hf0 pins s σ H Hf I at_ =>
 wpAny_Assign_Name (thn (h ρ y ρ1 C q hC H0 Hf0 pins s σ H Hf I at_) fun _ _ z=>z.elim) hs
end
theorem CX1.mono{P:Program}{w:World}{outer:List Env}{H:Hp}{s:Shared}{E E':XK}{e:Value}{s':Shared}(h:CX1 P w outer H s E e s') (m:∀cls H',E cls none H'->E' cls none H'):CX1 P w outer H s E' e s':=by
 obtain⟨a,C,g,B,H',q1,q2,q3,q4,q5,q6,q7⟩:=h
 exact⟨a,C,g,B,H',q1,q2,q3,q4,q5,q6,m _ _ q7⟩
def v8(r:RD) (n:Nat):List D->Option Str:=fun ds=>(r (M6 n ds)).map (·.1)
theorem aO8{P:Program}{w:World}{K:PySem.W.Frag}{mg:Str->Option Value}{base:Heap}{x qual:Str}{st:Stmt}{f:Addr}{fd:FuncData}{N ps:List Str}{k:Nat}{r:RD}(F:Fun K x qual st f fd) (S:FnScope N ps (B5 st))
  (hb:∀(cdv:Value) (A:Around) (outer:List Env) (s:Shared) (H:Hp) (E:XK),Room k (A.deeper (envOfC qual (B5 st) s.heap.objs.size f cdv))->JRs (cx1 P w K mg base N qual (B5 st) f cdv A outer s H E).nox true (F3 st) r) :
  FnOk P w K mg base (CX1 P w) (k+1) f fd ps (spR K ps.length (v8 r N.length)):=by
 obtain⟨oc,od,kV,doc,pm,an,cdv,ct,osl,rfl,lk,hcd⟩:=F.ex
 refine aO6 lk hcd S (fun vs H Q E h=>h.1) fun A outer s H vs Q E hr hsp=>?_
 obtain⟨hlen,Hf,ds,y,C,ss,rp,e,hC,hE⟩:=hsp
 obtain⟨⟨y',ρ1⟩,e1,e2⟩:=Option.map_eq_some_iff.mp e
 cases e2
 refine⟨fun _ σ H'=>σ=L2.J2 N vs/\H'=H,fun pins s1 σ H1 D I z=>?_,rfl,rfl⟩
 obtain⟨rfl,rfl⟩:=z
 refine wpAny_mono (hb cdv A outer s H1 E hr (M6 N.length ds) y' ρ1 C e1 hC H1 Hf pins s1 _ H1 Hf (I.wish _) ⟨Grow.refl ss,k9 rp⟩) (fun _ _ z=>z.elim) fun ex s' ho=>?_
 rcases ho with ho|⟨_,lo⟩
 case inr =>
  exact wpAny_mono lo (fun _ s'' z=>CX1.mono z fun cls H' q=>by obtain⟨rfl,sm⟩:=q;exact hE H' sm) fun e' s'' z=>CX1.mono z fun cls H' q=>by obtain⟨rfl,sm⟩:=q;exact hE H' sm
 obtain⟨σ1,H2,Hf2,s2,I2,a2,o⟩:=ho
 have I2:=I2.unwish
 rcases o with⟨_,h',a,vs',rfl,rfl,hm⟩|hc
 ·exact am6 I2 hm (hE H2 a2.gr.big)
 ·refine av9 I2 ?_
  obtain⟨a,C',g,B,H',q1,q2,q3,q4,q5,q6,q7,q8⟩:=hc
  cases q7
  exact⟨a,C,g,B,H',q1,q2,q3,q4,q5,q6,hE H' (a2.gr.big.trans q8)⟩
section
variable {M:Model}{A:Around}{E:Value->Shared->Prop}{h:Heap}{g:Array GenState}{d:Drawn}{t:Nat}{os:OsState}
variable {nm qn nm2 qn2:Str}{C N D N2:Addr}{bs bm bs2 bm2:List Value}{hd hd2:Bool}{sn sn2:List Str}{sub sub2:List Value}{ab ab2:Bool}{col col2:Option Bool}{dd dd2:Option Addr}{k0 k1 k2 k3 k5 j0 j1 j2 j3 j5:Option Value}{nid nid2:String}
theorem bB4{e:Addr}{oe:Obj}{Q:Bool->Shared->Prop}(hC:h.get? C=some (excClassObj nm qn C N bs bm hd sn sub ab col dd k0 k1 k2 k3 k5 nid)) (hD:h.get? D=some (excClassObj nm2 qn2 D N2 bs2 bm2 hd2 sn2 sub2 ab2 col2 dd2 j0 j1 j2 j3 j5 nid2))
  (he:h.get? e=some oe) (hcls:oe.cls=.ref C) (hb:bm2.contains (.type "BaseException")=true) (hq:Q ((Value.ref C::bm).contains (.ref D)) ⟨h,g,d,t,os⟩):wpAny M A (excMatches (.ref e) (.ref D)) Q E ⟨h,g,d,t,os⟩:=by
 have cB:(Value.ref D::bm2).contains (.type "BaseException")=true:=by rw [List.contains_cons,hb,Bool.or_true]
 have f:=tc_notTuple
 generalize hb:(Value.ref C::bm).contains (.ref D)=b at hq
 unfold excMatches
 repeat (first|(with_reducible refine wpAny_loadPart_at he ?_;rw [hcls])|with_reducible refine wpAny_loadPart_at hD ?_|(with_reducible refine wpAny_isSubtype_exc hD ?_;rw [cB])|(with_reducible refine wpAny_isSubtype_exc hC ?_;rw [hb])|wp_step)
 cases b<;>(wp_walk;exact hq)
end
abbrev Cx.held(X:Cx) (e:Value):Cx:={ X with A:=X.A.mark (some e),calm:=false }
section
variable {X:Cx}{pins:List (Addr×Obj)}{σ:L2.St}{H:Hp}{s:Shared}
theorem Inv.held(I:Inv X pins σ H s) (e:Value):Inv (Cx.held X e) pins σ H s :=
 ⟨⟨I.ok.mod,I.ok.kind,I.ok.glob,I.ok.blt,I.ok.above,I.ok.inj,I.ok.has,I.ok.cab,(fun z=>by cases z),I.ok.frames,I.ok.stk,I.ok.exf,I.ok.bs,I.ok.bsz,I.ok.noex,I.ok.exfs,I.ok.funs,I.ok.frf⟩,I.os,I.bare,I.base,I.loc,I.cell,I.free,I.freeC,I.pin,I.hok,I.len⟩
theorem Inv.unheld{e:Value}(I:Inv (Cx.held X e) pins σ H s) (ok:X.Ok):Inv X pins σ H s:=⟨ok,I.os,I.bare,I.base,I.loc,I.cell,I.free,I.freeC,I.pin,I.hok,I.len⟩
theorem Inv.wipe(I:Inv X pins σ H s) {h':Heap}{m':Str->Option Value}{tk:Nat}(hn:h'.Ns X.env.locals m') (hs:Heap.SameBut X.env.locals s.heap h'):Inv X pins (List.replicate σ.length none) H { s with heap:=h',toks:=tk }:=by
 have ne0:∀b o,X.s₀.heap.get? b=some o->b≠X.env.locals:=fun b o e z=>by
  have:=Heap.lt_size e
  rw [z]at this
  exact absurd (Nat.lt_of_lt_of_le this I.ok.above) (Nat.lt_irrefl _)
 have eq:∀b,b≠X.env.locals->h'.get? b=s.heap.get? b:=fun b hb=>hs.2 b hb
 refine⟨I.ok,I.os,I.bare,⟨fun b o e n hb hx=>?_,fun b o e n hb hx=>?_,I.base.free,fun b o e hx=>?_,I.base.tups,I.base.frzs,I.base.tbls⟩,⟨m',hn,fun i x v _ e _=>?_⟩,fun x c e=>?_,I.free,I.freeC,fun p hp=>?_,fun a o e=>?_,by rw [List.length_replicate];exact I.len⟩
 ·show h'.get? b=_
  rw [eq b (ne0 b o e)];exact I.base.keep b o e n hb hx
 ·obtain⟨sl,q⟩:=I.base.slot b o e n hb hx
  exact⟨sl,by show h'.get? b=_;rw [eq b (ne0 b o e)];exact q⟩
 ·obtain⟨o',q⟩:=I.base.there b o e hx
  exact⟨o',by show h'.get? b=_;rw [eq b (ne0 b o e)];exact q⟩
 ·rw [List.getElem?_replicate]at e
  split at e<;>cases e
 ·obtain⟨v,o,q1,q2⟩:=I.cell x c e
  exact⟨v,o,by show h'.get? c=_;rw [eq c (I.cne x c e)];exact q1,q2⟩
 ·obtain⟨q1,q2,q3,q4,q5⟩:=I.pin p hp
  exact⟨by show h'.get? p.1=_;rw [eq p.1 q3];exact q1,q2,q3,q4,q5⟩
 ·refine(I.hok a o e).stay (fun b u hb q=>?_) (fun _ q=>q) fun _ _ q=>q
  show h'.get? b=_
  rw [eq b fun z=>?_]
  ·exact q
  ·have f:=I.free
   rcases hb with rfl|hb
   ·rw [z,f]at e;cases e
   ·rw [z,f]at hb;cases hb
end
theorem K6.is{P:Program}{w:World}{H:Hp}{h:Heap}{a:Addr}{o:HO}(x:K6 P w H h a o):∃u,h.get? a=some u:=by
 cases o with
 | lst xs=>obtain⟨_,_,_,_,e⟩:=x;exact⟨_,e⟩
 | tup xs=>obtain⟨_,_,_,ob,e,_⟩:=x;exact⟨_,e⟩
 | dK kvs=>obtain⟨_,_,_,_,ob,_,_,e,_⟩:=x;exact⟨_,e⟩
 | dT kvs=>obtain⟨_,_,_,_,ob,_,_,e,_⟩:=x;exact⟨_,e⟩
 | set S n=>obtain⟨ob,_,_,_,e,_⟩:=x;exact⟨_,e⟩
 | ins C dx fs=>obtain⟨_,_,_,e,_⟩:=x;exact⟨_,e⟩
 | own y=>exact x
 | xd fs=>obtain⟨_,⟨ob,_,_,e,_⟩,_⟩:=x;exact⟨_,e⟩
 | rng lo hi=>obtain⟨_,_,_,e⟩:=x;exact⟨_,e⟩
 | frz ob u=>obtain⟨e,_⟩:=x;exact⟨_,e⟩
 | tbl ps=>exact⟨_,x⟩
 | met f y=>exact⟨_,x⟩
 | ext φ=>obtain⟨_,e,_⟩:=x;exact e
section
variable {X:Cx}{pins:List (Addr×Obj)}{σ:L2.St}{H:Hp}{s:Shared}{a:Addr}{oe:Obj}
abbrev fz(oe:Obj) (a:Addr):HO:=.frz oe (.own a)
theorem Inv.track(I:Inv X pins σ H s) (ha:H a=none) (e:s.heap.get? a=some oe) (n0:X.s₀.heap.get? a=none) (np:∀p∈X.pn++pins,p.1≠a) (nl:X.env.locals≠a) (nc:∀x c,X.env.cells.lookup x=some c->c≠a):Inv X pins σ (upd H a (fz oe a)) s:=by
 have nb:∀b o,X.s₀.heap.get? b=some o->b≠a:=fun b o q z=>by rw [z,n0]at q;cases q
 have up:∀b o,H b=some o->upd H a (fz oe a) b=some o:=fun b o q=>by rw [A8 (fun z=>by rw [z,ha]at q;cases q)];exact q
 refine⟨I.ok,I.os,I.bare,⟨I.base.keep,I.base.slot,fun b o q n hx=>?_,I.base.there,fun b xs q=>up b _ (I.base.tups b xs q),fun b o u q=>up b _ (I.base.frzs b o u q),fun b ps q=>?_⟩,I.loc,I.cell,?_,fun x c q=>?_,fun p hp=>?_,fun b o q=>?_,I.len⟩
 ·rw [A8 (nb b o q)];exact I.base.free b o q n hx
 ·obtain⟨more,z⟩:=I.base.tbls b ps q
  exact⟨more,up b _ z⟩
 ·rw [A8 nl];exact I.free
 ·rw [A8 (nc x c q)];exact I.freeC x c q
 ·obtain⟨q1,q2,q3⟩:=I.pin p hp
  exact⟨q1,by rw [A8 (np p hp)];exact q2,q3⟩
 ·by_cases hb:b=a
  ·subst hb
   rw [B0]at q;cases q
   exact⟨e,oe,e⟩
  ·rw [A8 hb]at q
   exact(I.hok b o q).stay (fun _ _ _ z=>z) (fun c z=>up c _ z) fun c xs z=>up c _ z
theorem ar9{H1 Hf1 H':Hp}(sm:C2 H1 H') (sb:C2 Hf1 H1) (ha:H' a=none):Grow H1 Hf1 (upd H' a (fz oe a)) (upd Hf1 a (fz oe a)):=by
 have h1:H1 a=none:=sm.free ha
 have h2:Hf1 a=none:=sb.free h1
 refine⟨fun b o q=>?_,fun b o q=>?_,fun b o q=>?_,fun b q=>?_⟩
 ·rw [A8 (B3 q h1)];exact sm b o q
 ·by_cases hb:b=a
  ·subst hb;rw [B0]at q ⊢;exact q
  ·rw [A8 hb]at q ⊢;exact sm b o (sb b o q)
 ·rw [A8 (B3 q h2)];exact q
 ·by_cases hb:b=a
  ·subst hb;exact .inr h1
  ·rw [A8 hb]at q;exact .inl q
end
def aF9(K:PySem.W.Frag) (x c:Str):Bool:=match clA K x,clA K c with
 | some C,some D=>(match K.lookup C with
  | some ⟨_,_,.cls cd,_⟩=>cd.mro.contains (.ref D)
  | _=>false)
 | _,_=>false
def ac8(r:RD) (f:DS) (i:Nat) (g:DS):DS:=fun ρ=>match r ρ with
 | some (x,ρ1)=>(match g (ρ1.set i (some (.exc x))) with
  | some (.rt d)=>some (.rt d)
  | _=>none)
 | none=>f ρ
theorem Slots.setExc{K:PySem.W.Frag}{H0 H Hf:Hp}{ρ:Rho}{σ:L2.St}(s:Slots K H0 ρ σ H Hf) {i:Nat}{x:Str}{v:V}(hb:SB K H0 H Hf (.exc x) v):Slots K H0 (ρ.set i (some (.exc x))) (σ.set i (some v)) H Hf:=by
 have own:∀(j:Nat) (ds:List D),(ρ.set i (some (B.exc x)))[j]? = some (some (.own ds))->i≠j/\ρ[j]? = some (some (.own ds)):=fun j ds h=>by
  rw [List.getElem?_set]at h
  split at h
  ·split at h<;>cases h
  ·rename_i n;exact⟨n,h⟩
 have gt:∀j,i≠j->(σ.set i (some v))[j]? = σ[j]?:=fun j n=>by rw [List.getElem?_set,if_neg n]
 refine⟨by rw [List.length_set,List.length_set];exact s.len,fun j b h=>?_,fun j k ds es c h1 h2 h3 h4=>?_⟩
 ·by_cases q:i=j
  ·subst q
   rw [List.getElem?_set,if_pos rfl]at h
   split at h
   ·rename_i l
    cases h
    exact⟨v,by rw [List.getElem?_set,if_pos rfl,if_pos (by rw [← s.len];exact l)],hb⟩
   ·cases h
  ·rw [List.getElem?_set,if_neg q]at h
   rw [gt j q];exact s.is j b h
 ·obtain⟨n1,h1⟩:=own j _ h1
  obtain⟨n2,h2⟩:=own k _ h2
  rw [gt j n1]at h3
  rw [gt k n2]at h4
  exact s.apart j k ds es c h1 h2 h3 h4
section
variable {X:Cx}
theorem aW4{body:List Stmt}{b₀:Stmt}{suite:List Stmt}{c n:Str}{i:Nat}{r:RD}{f:DS}{gd:DS}{np hpos pos:Pos}(hx:∀e s,X.xe e s->False) (hex:X.ex=[]) (hst:X.stack=X.env::X.outer) (hfr:X.env.frame=some X.env.locals)
  (hb:JSs X body f) (hr:JRs X false body r) (hgc:Gl X c) (hmc:∀D,clA X.K c=some D->X.mg c=some (.ref D)) (hdc:(c==("__debug__" : Str))=false) (hcb:P2 X.K c=true)
  (hsub:∀ρ x ρ1,r ρ=some (x,ρ1)->P2 X.K x=true/\aF9 X.K x c=true)
  (hN:X.N.Nodup) (hi:X.N[i]? = some n) (hl:X.env.scope.names.lookup n=some .local) (hh:∀a:Addr,JSs (Cx.held X (.ref a)) (b₀::suite) gd) :
  JS X (.Try body [.ExceptHandler (some (.Name c np)) (some n) (b₀::suite) hpos] [] [] pos) (ac8 r f i gd):=by
 intro ρ fl q H0 Hf0 pins s σ H En I hw
 obtain⟨Hf,at_,ends⟩:=hw
 unfold ac8 at q
 split at q
 case h_2 =>
  refine wpAny_Try_except (noX hx (hb ρ fl q H0 Hf0 pins s σ H En I ⟨Hf,at_,ends⟩) fun f' s1 z=>?_)
  cases f' with
  | next=>exact wpAny_execs_nil z
  | ret v=>exact z
  | brk=>exact z
  | cont=>exact z
 rename_i x ρ1 er
 obtain⟨d,hd,rfl⟩:∃d,gd (ρ1.set i (some (.exc x)))=some (.rt d)/\fl=.rt d:=by
  split at q
  ·rename_i d e;cases q;exact⟨d,e,rfl⟩
  ·cases q
 obtain⟨hxb,hsb⟩:=hsub ρ x ρ1 er
 obtain⟨C,hC⟩:∃C,clA X.K x=some C:=by
  unfold P2 at hxb
  cases e:clA X.K x with
  | none=>rw [e]at hxb;cases hxb
  | some C=>exact⟨C,rfl⟩
 obtain⟨D,hD⟩:∃D,clA X.K c=some D:=by
  unfold P2 at hcb
  cases e:clA X.K c with
  | none=>rw [e]at hcb;cases hcb
  | some C=>exact⟨C,rfl⟩
 have qC:PySem.W.excIn X.K C veB "ValueError.__new__" = true:=by unfold P2 at hxb;rw [hC]at hxb;exact hxb
 have qD:PySem.W.excIn X.K D veB "ValueError.__new__" = true:=by unfold P2 at hcb;rw [hD]at hcb;exact hcb
 obtain⟨nm,qn,N,bs,bm,hd',sn,sub,ab,col,dd,k0,k1,k2,k3,k5,mN,c1,c2,c3,c4⟩:=aa0 I.mod.kin qC
 obtain⟨nm',qn',N',bs',bm',hd'',sn',sub',ab',col',dd',j0,j1,j2,j3,j5,mN',d1,d2,d3,d4⟩:=aa0 I.mod.kin qD
 have hin:(Value.ref C::bm).contains (.ref D)=true:=by
  unfold aF9 at hsb
  rw [hC,hD]at hsb
  dsimp only at hsb
  split at hsb
  ·rename_i lk
   have z:=I.mod.kin _ _ lk
   rw [c1]at z
   cases z
   exact hsb
  ·cases hsb
 refine wpAny_Try_except (wpAny_mono (hr ρ x ρ1 C er hC H0 Hf0 pins s σ H Hf I at_) (fun _ _ z=>z.elim) fun ex s1 ho=>?_)
 rcases ho with ho|⟨z,_⟩
 case inr=>cases z
 obtain⟨σ1,H1,Hf1,s0,I1,a1,o⟩:=ho
 rcases o with⟨z,_⟩|hc
 ·cases z
 obtain⟨a,C',g,B,H',rfl,os,bare,un,hok,F,cE,sm⟩:=hc
 cases cE
 obtain⟨t,fl0⟩:=F.fly
 have nx:∀b:Addr,b∉([]:List Addr):=fun b z=>absurd z (by simp)
 have J:Inv X pins σ1 H' { s1 with heap:=g }:=I1.call' (s':={ s1 with heap:=g }) (ch:=[]) os un hok bare (fun b z=>absurd z (nx b))
 have key:∀h'':Heap,B.StaysIn h''->s1.heap.UpToSlots h''->Inv X pins σ1 H' { s1 with heap:=h'' }:=fun h'' k1 k2=>by
  refine aY5 (s':={ s1 with heap:=h'' }) I1 os bare un hok F.keep k1 fun b o e m=>?_
  obtain⟨z,e2⟩:=F.sl b o e m
  obtain⟨_,o',e',hd⟩:=J.stack.mem m
  have e':g.get? b=some o':=e'
  rw [e]at e';cases e'
  obtain⟨z2,q⟩:=k2 b _ e2 hd
  exact⟨z2,q⟩
 rw [hst]at fl0
 refine wpAny_looks_onW (outer:=X.outer) (by rw [← hst];exact I.ok.frames) hfr fl0 fun h4 held4 up4=>?_
 refine wpAny_landsW held4 fun h5 fl5 up5=>?_
 have I5:=key h5 fl5.1 (up4.trans up5)
 obtain⟨ob,hob,hobc⟩:=fl5.there
 refine wpAny_handleBy_cons (codeAny_handlers_test (N3 (Inv.held I5 (.ref a)) hgc (hmc D hD) ?_ hdc)) (by intro q;cases q)
 refine bB4 (I5.bk _ _ c1) (I5.bk _ _ d1) hob hobc (d4.hasType (by decide)) ?_
 rw [hin]
 refine codeAny_handlers_suite_as (lands_againW fl5 fun h6 fl6 up6=>?_)
 have I6:=key h6 fl6.1 ((up4.trans up5).trans up6)
 obtain⟨oe,ws,e6,ec6,ed6,_⟩:=fl6.first
 have nB:B.get? a=none:=fl6.2.1
 have nf:a∉frs X.stack:=fun m=>by
  obtain⟨_,o',e',hd⟩:=I6.stack.mem m
  have e':h6.get? a=some o':=e'
  rw [e6]at e';cases e'
  exact hd ws ed6
 have ng:∀o,Rl s0 H' a->g.get? a=some o->False:=fun o rr e=>by
  have:=F.keep a o rr e nf
  rw [nB]at this;cases this
 have ha:H' a=none:=by
  cases e:H' a with
  | none=>rfl
  | some o =>
   obtain⟨u,e'⟩:=K6.is (hok a o e)
   exact(ng u (.inr (by rw [e];simp)) e').elim
 have n0:s0.heap.get? a=none:=by
  cases e:s0.heap.get? a with
  | none=>rfl
  | some o =>
   obtain⟨u,e'⟩:=un.there a o e (nx a)
   exact(ng u (.inl (by rw [e];simp)) e').elim
 have n00:X.s₀.heap.get? a=none:=by
  cases e:X.s₀.heap.get? a with
  | none=>rfl
  | some o =>
   obtain⟨u,e'⟩:=I1.base.there a o e (by rw [hex];exact nx a)
   rw [n0]at e';cases e'
 have I7:Inv X pins σ1 (upd H' a (fz oe a)) { s1 with heap:=h6 }:=by
  refine Inv.track I6 ha e6 n00 (fun p hp z=>?_) (fun z=>?_) fun y cc e z=>?_
  ·have:=(I1.pin p hp).1
   rw [z,n0]at this;cases this
  ·obtain⟨m,⟨o',_,_,e',_⟩,_⟩:=I1.loc
   rw [z,n0]at e';cases e'
  ·obtain⟨v,o',e',_⟩:=I1.cell y cc e
   rw [z,n0]at e';cases e'
 have gr:Grow H1 Hf1 (upd H' a (fz oe a)) (upd Hf1 a (fz oe a)):=ar9 sm a1.gr.sub ha
 have a7:=a1.grow gr
 refine R4 (X:=Cx.held X (.ref a)) (v:=.ref a) (Inv.held I7 (.ref a)) hN hi (.inl hl) rfl (fun s8 I8=>?_) (.inr hl)
 refine wpAny_mono (hh a _ _ hd H0 Hf0 pins s8 _ _ { nx:=fun _ _=>False,rt:=fun v H'=>∃Hf',Grow H0 Hf0 H' Hf'/\Rep X.K Hf' d v } I8 ⟨_,⟨a7.gr,Slots.setExc a7.sl ⟨a,oe,C,rfl,B0,hC,ec6⟩⟩,fun v H' Hf' g r=>⟨Hf',g,r⟩⟩) (fun fl' s9 z=>?_) fun e s z=>(hx e s z).elim
 cases fl' with
 | next=>obtain⟨_,_,_,z⟩:=z;exact z.elim
 | brk=>obtain⟨_,_,_,z⟩:=z;exact z.elim
 | cont=>obtain⟨_,_,_,z⟩:=z;exact z.elim
 | ret u =>
 obtain⟨v,σ9,H9,I9,rv,Hf9,g9,rp⟩:=z
 have I9:=Inv.unheld I9 I.ok
 obtain⟨m9,hn9,_⟩:=I9.loc
 refine wpAny_nameGoes (m:=m9) (by show X.env.scope.names.lookup n=_;exact hl) hn9 (by rw [I.ok.kind];rfl) fun h' m' hn' hs'=>?_
 exact⟨v,_,H9,Inv.wipe I9 hn' hs',rv,ends v H9 Hf9 g9 rp⟩
end
section
variable {prog:Program}{w:World}{A:Around}{E:Value->Shared->Prop}{h:Heap}{g:Array GenState}{d:Drawn}{t:Nat}{os:OsState}{a C:Addr}{o:Obj}{K:PySem.W.Frag}
def xcB(K:PySem.W.Frag) (C:Addr):Bool:=PySem.W.findIn K (.ref C) "__class__" == some (some (.builtin "object.__class__"))&&PySem.W.findIn K (.ref C) "__getattribute__" == some (some (.builtin "BaseException.__getattribute__")) &&
 PySem.W.findIn K (.ref C) "__getattr__" == some none&&PySem.W.mroIn K C (.type "object")==some true&&PySem.W.mroIn K C (.type "BaseException")==some true
theorem bc7{R:Result->Shared->Prop}(kin:K.In h) (hx:h.get? a=some o) (hc:o.cls=.ref C) (hm:PySem.W.mroIn K C (.type "object")=some true) (hq:R (.ok (.ret (.ref C))) ⟨h,g,d,t,os⟩) :
  codeAny (model prog w) A (.call (.builtin "getset_descriptor.__get__") ⟨[.builtin "object.__class__", .ref a,.ref C],[]⟩) R ⟨h,g,d,t,os⟩:=by
 have hT5:(⟨h,g,d,t,os⟩:Shared).TypeIs (.builtin "object.__class__") "getset_descriptor" := F.typeOf_object_class
 have L:PySem.W.Looks (model prog w) h (isSubtype (.ref C) (.type (".".intercalate ("object.__class__".cutAt '.').dropLast))) true:=by
  rw [F.owner_object_class];exact PySem.W.looks_mroIn kin hm
 refine codeAny_call_builtin F.slot_gs_get.plain F.entry_gs_get (F.slot_gs_get.check _ _ _ _ _ _ _ _ hT5 (F.args_gs_get _ _ _) ?_)
 repeat (any_goals (first|assumption|(with_reducible refine wpAny_loadPart_at hx ?_;rw [hc])|with_reducible refine L.at ?_|wp_step))
 refine⟨Code.quiet_builtin _ (by decide +kernel),codeAny_builtin F.entry_object_class ?_⟩
 repeat (any_goals (first|assumption|(with_reducible refine wpAny_loadPart_at hx ?_;rw [hc])|wp_step))
theorem aE7{tk:Tok}{Q:Fin->Shared->Prop}(kin:K.In h) (hx:h.get? a=some o) (hc:o.cls=.ref C) (hf:PySem.W.findIn K (.ref C) "__class__" = some (some (.builtin "object.__class__"))) (hm:PySem.W.mroIn K C (.type "object")=some true) (hq:Q (.done (.ret (.ref C))) ⟨h,g,d,t,os⟩) :
  wpAny (model prog w) A (Builtin.«object.__getattribute__» ⟨[.ref a,.str "__class__" tk],[]⟩) Q E ⟨h,g,d,t,os⟩:=by
 have hT5:(⟨h,g,d,t,os⟩:Shared).TypeIs (.builtin "object.__class__") "getset_descriptor" := F.typeOf_object_class
 have f5:=F.typeOf_object_class
 have f6:=F.slot_gs_get.lookup
 have f7:=F.slot_gs_set.lookup
 have L:=PySem.W.looks_findIn (M:=model prog w) kin hf
 repeat (any_goals (first|assumption|(with_reducible refine wpAny_loadPart_at hx ?_;rw [hc])|with_reducible refine L.at ?_|wp_step))
 refine bc7 kin hx hc hm ?_
 repeat (any_goals (first|assumption|wp_step))
theorem aE8{M:Model}{nameV:Value}{Q:Unit->Shared->Prop}(kin:K.In h) (hx:h.get? a=some o) (hc:o.cls=.ref C) (hm:PySem.W.mroIn K C (.type "BaseException")=some true) (hq:Q () ⟨h,g,d,t,os⟩):wpAny M A (checkBuiltinCall "BaseException.__getattribute__" ⟨[.ref a,nameV],[]⟩) Q E ⟨h,g,d,t,os⟩:=by
 have hk:builtinKind "BaseException.__getattribute__" = some .slot:=by decide +kernel
 have hsplit:splitId "BaseException.__getattribute__" = some ("BaseException", "__getattribute__"):=by decide +kernel
 have ha:=F.args_bexc_ga (.ref a) nameV
 have L:=PySem.W.looks_mroIn (M:=M) kin hm
 simp only [checkBuiltinCall,hk,hsplit]
 refine wpAny_bind ?_
 unfold isInstance
 repeat (first|(with_reducible refine wpAny_loadPart_at hx ?_;rw [hc])|with_reducible refine L.at ?_|wp_step)
 exact hq
theorem aQ8{tk:Tok}{R:Result->Shared->Prop}(kin:K.In h) (hx:h.get? a=some o) (hc:o.cls=.ref C) (hb:xcB K C=true) (hq:R (.ok (.ret (.ref C))) ⟨h,g,d,t,os⟩) :
  codeAny (model prog w) A (.call (.builtin "BaseException.__getattribute__") ⟨[.ref a,.str "__class__" tk],[]⟩) R ⟨h,g,d,t,os⟩:=by
 simp only [xcB,Bool.and_eq_true,beq_iff_eq]at hb
 exact codeAny_call_builtin F.attr_ValueError.ga.plain F.entry_bexc_ga (aE8 kin hx hc hb.2 (aE7 kin hx hc hb.1.1.1.1 hb.1.2 hq))
theorem bq8{tk:Tok}{fill expr:Bool}{Q:Value->Shared->Prop}(kin:K.In h) (hx:h.get? a=some o) (hc:o.cls=.ref C) (hb:xcB K C=true) (hq:Q (.ref C) ⟨h,g,d,t,os⟩):wpAny (model prog w) A (getAttrBy (.ref a) (.str "__class__" tk) fill expr) Q E ⟨h,g,d,t,os⟩:=by
 have hb':=hb
 simp only [xcB,Bool.and_eq_true,beq_iff_eq]at hb'
 have L1:=PySem.W.looks_findIn (M:=model prog w) kin hb'.1.1.1.2
 have L2:=PySem.W.looks_findIn (M:=model prog w) kin hb'.1.1.2
 have f3:=F.attr_ValueError.ga.bind (.ref a)
 have z0:(expr&&onTheHeap (Value.builtin "BaseException.__getattribute__"))=false:=by cases expr<;>rfl
 have z2:(Value.builtin "BaseException.__getattribute__" == Value.builtin "object.__getattribute__")=false:=by decide +kernel
 have z1:(onTheHeap (Value.ref C)&&Value.builtin "BaseException.__getattribute__" == Value.builtin "object.__getattribute__")=false:=by rw [z2];rfl
 repeat (any_goals (first|assumption|(with_reducible refine wpAny_loadPart_at hx ?_;rw [hc])|with_reducible refine L1.at ?_|with_reducible refine L2.at ?_|wp_step))
 refine aQ8 kin hx hc hb ?_
 repeat (any_goals (first|assumption|wp_step))
theorem aQ9{Q:Option Value->Shared->Prop}(kin:K.In h) (hx:h.get? a=some o) (hc:o.cls=.ref C) (hb:xcB K C=true) (hq:Q (some (.ref C)) ⟨h,g,d,t+1,os⟩):wpAny (model prog w) A (getAttr? (.ref a) "__class__") Q E ⟨h,g,d,t,os⟩:=by
 unfold getAttr? getAttrBy?
 repeat (any_goals (first|assumption|with_reducible apply bq8 kin hx hc hb|wp_step))
theorem aK2(hb:xcB K C=true) {bb:List Value}{nid:String}(hq:PySem.W.excIn K C bb nid=true):PySem.W.KitX K (.ref a) (.ref C) (fun h=>∃o,h.get? a=some o/\o.cls=.ref C) where
 ty:=fun _ _ _ ⟨o,h1,h2⟩=>h2 ▸ (PySem.W.Looks.ld h1).andThen .now
 it:=fun _ _ kin _=>by
  obtain⟨nm,qn,N,bs,bm,hd,sn,sub,ab,col,dd,k0,k1,k2,k3,k5,mN,g1,_⟩:=aa0 kin hq
  intro A' Q' E' s' k q
  unfold isType loadHead
  exact wpAny_bind (wpAny_loadPart (k _ _ g1) (wpAny_pure q))
 ne:=fun h tp dd its n sl kin htp=>by
  obtain⟨nm,qn,N,bs,bm,hd,sn,sub,ab,col,dd',k0,k1,k2,k3,k5,mN,g1,_⟩:=aa0 kin hq
  refine Bool.eq_false_iff.mpr fun q=>?_
  have e:C=tp:=Value.ref.inj (beq_iff_eq.mp q)
  subst e
  rw [g1]at htp
  have z:=congrArg Obj.data (Option.some.inj htp)
  cases z
 ca:=fun{_ _ _ _ _ s} kin ⟨o,h1,h2⟩ k=>by
  obtain⟨h,g,d,t,os⟩:=s
  exact aQ9 kin h1 h2 hb k
end
section
variable {X:Cx}
def aD7(i:Nat) (tb:Str->Option Bool):DE:=fun ρ=>match ρ[i]? with
 | some (some (.exc x))=>(tb x).map PyData.bool
 | _=>none
def d9(K:PySem.W.Frag) (cv:Value) (tb:Str->Option Bool):Prop:=∀x b,tb x=some b->∃C,clA K x=some C/\xcB K C=true/\PySem.W.excIn K C veB "ValueError.__new__" = true/\PySem.W.kitOne K (.ref C) cv=some b
theorem aP9{cv:Value}{v:V}(hv:D4 v cv) (hv':∀u,D4 v u->u=cv) {tb:Str->Option Bool}(ok:d9 X.K cv tb):P3 X (.builtin "isinstance") (fun xs H Q=>∃x y b H0 Hf,xs=[y,v]/\C2 Hf H/\SB X.K H0 H Hf (.exc x) y/\tb x=some b/\Q (.bl b) H):=by
 intro pins s σ H xs us Q I r h
 obtain⟨x,y,b,H0,Hf,rfl,sm,⟨a,o,C,rfl,e1,e2,e3⟩,hb,q⟩:=h
 obtain⟨u,c,rfl,rx,rc⟩:=aF2 r
 cases rx
 obtain rfl:=hv' c rc
 obtain⟨C',f1,f2,f3,f4⟩:=ok x b hb
 rw [e2]at f1;cases f1
 obtain⟨z,_⟩:=(show K6 X.prog X.w H s.heap a (.frz o (.own a)) from I.hok a _ (sm _ _ e1))
 exact PySem.W.kia_one (aK2 f2 f3) I.kIn ⟨o,z,e3⟩ f4 (fun z=>nomatch z) fun tk=>⟨.bl b,H,I.tok tk,rfl,q⟩
end
section
variable {X:Cx}
theorem aU2{y:Str}{D:Addr}{pos:Pos}(hg:Gl X y) (hm:X.mg y=some (.ref D)) (hd:(y==("__debug__" : Str))=false):PE X (.Name y pos) (tC (.ref D)):=fun pins s σ H Q I h=>N3 I hg hm ⟨.ref D,H,I,rfl,h⟩ hd
theorem aM3{n y:Str}{i:Nat}{v:V}{cv:Value}{tb:Str->Option Bool}{p p1 p2 pos:Pos}(hg:Gl X "isinstance") (hm:X.mg "isinstance" = none) (hN:X.N[i]? = some n) (hv:Vis X.env.scope n) (hd:(n==("__debug__" : Str))=false) (hcd:(n==("__classdict__" : Str))=false)
  (hc:PE X (.Name y p2) (tC v)) (r1:D4 v cv) (r2:∀u,D4 v u->u=cv) (ok:d9 X.K cv tb)
  (he:starEach [.Name n p1,.Name y p2] X.env=(false,eval (.Name n p1) X.env)::starEach [.Name y p2] X.env:=by rfl) (he2:starEach [.Name y p2] X.env=[(false,eval (.Name y p2) X.env)]:=by rfl) (hpl:(backTo pos (starEach [.Name y p2] X.env)).any (·.1)=false:=by rfl) :
  JE X (.Call (.Name "isinstance" p) [.Name n p1,.Name y p2] [] pos) (aD7 i tb):=fun ρ d q=>by
 unfold aD7 at q
 split at q
 case h_2=>cases q
 rename_i x e
 obtain⟨b,hb,rfl⟩:=Option.map_eq_some_iff.mp q
 refine B2 (L3 (aP9 r1 r2 ok) hg hm aQ3 (C7 (Q0 hN hv hd hcd) (C7 hc E8 he2) he) (he:=he) (hpl:=hpl)) fun σ H Q ⟨H0,Hf,s,sl,k⟩=>?_
 obtain⟨v0,h1,sb⟩:=sl.is i _ e
 exact⟨v0,h1,x,v0,b,H0,Hf,rfl,s,sb,hb,k _ H Hf (Grow.refl s) rfl⟩
def dRp(f:DE):DE:=fun ρ=>(f ρ).bind fun d=>match d with
 | .str x=>if x.length<=1000/\x.cps.all (· < 1114112)=true then some (.str (reprText x)) else none
 | _=>none
theorem bw7{e:Expr}{f:DE}{pos:Pos}(h:JE X e f):JE X (.FormattedValue e 114 none pos) (dRp f):=fun ρ d q=>by
 obtain⟨y,h1,h2⟩:=Option.bind_eq_some_iff.mp q
 cases y with
 | str x =>
  dsimp only at h2
  split at h2
  case isFalse=>cases h2
  rename_i c
  cases h2
  have ln:(reprText x).length<=sizeLine:=by
   refine Nat.le_trans (PySem.StrLaws.reprText_len x fun z hz=>?_) ?_
   ·have:=c.2
    rw [← Array.all_toList,List.all_eq_true]at this
    have:=of_decide_eq_true (this z hz)
    omega
   ·have:=c.1
    exact Nat.le_trans (show 10*x.length+2<=10002 by omega) (by decide)
  intro pins s σ H Q I hw
  obtain⟨H0,Hf,sm,sl,k⟩:=hw
  refine wpAny_FormattedValue_repr (thn (h ρ _ h1 pins s σ H (fun v H'=>v=.str x/\∃Hf',Grow H Hf H' Hf') I ⟨H0,Hf,sm,sl,fun v H' Hf' g r=>⟨r,Hf',g⟩⟩) fun v s1 ⟨v',H1,I1,r1,e1,Hf1,g1⟩=>?_)
  subst e1
  obtain⟨t,rfl⟩:=(show ∃t,v=Value.str x t from r1)
  refine wpAny_pyReprObj_str ?_ ln
  exact wpAny_formatField_str ⟨.str (reprText x),H1,I1.tok _,⟨_,rfl⟩,k _ H1 Hf1 g1 rfl⟩ ⟨.str (reprText x),H1,(I1.tok _).tok _,⟨_,rfl⟩,k _ H1 Hf1 g1 rfl⟩ ln
 | none=>cases h2
 | bool b=>cases h2
 | int i=>cases h2
 | tuple xs=>cases h2
 | list xs=>cases h2
 | dict xs=>cases h2
def aP8:Str->List DE->DE
 | acc,[]=>fun _=>some (.str acc)
 | acc,f::fs=>fun ρ=>(f ρ).bind fun d=>match d with
  | .str y=>if(acc++y).length<=16777216 then aP8 (acc++y) fs ρ else none
  | _=>none
inductive JEs (X:Cx):List Expr->List DE->Prop
 | nil:JEs X [] []
 | cons {e:Expr}{es:List Expr}{f:DE}{fs:List DE}:JE X e f->JEs X es fs->JEs X (e::es) (f::fs)
theorem V8:∀(ps:List (Sem Value)) (a:Str) (Q Q':Str->Shared->Prop) (s:Shared),(∀o s,Q o s->Q' o s)->Joins (model X.prog X.w) X.A X.xe ps a Q s->Joins (model X.prog X.w) X.A X.xe ps a Q' s
 | [],_,_,_,_,hq,z=>hq _ _ z
 | _::ps,_,Q,Q',_,hq,z=>thn z fun _ s1 ⟨y,t,e,c,z⟩=>⟨y,t,e,c,V8 ps _ Q Q' s1 hq z⟩
theorem ax7:∀(fs:List DE) (acc:Str) (ρ:Rho) (d:D),aP8 acc fs ρ=some d->acc.length<=16777216->∃x:Str,d=.str x/\x.length<=16777216
 | [],acc,ρ,d,q,l=>by cases q;exact⟨acc,rfl,l⟩
 | f::fs,acc,ρ,d,q,l=>by
  obtain⟨y,h1,h2⟩:=Option.bind_eq_some_iff.mp q
  cases y<;>dsimp only at h2
  case str x =>
   split at h2
   ·rename_i c;exact ax7 fs (acc++x) ρ d h2 c
   ·cases h2
  all_goals cases h2
theorem bw5{es:List Expr}{fs:List DE}(h:JEs X es fs):∀(acc:Str) (ρ:Rho) (d:D),aP8 acc fs ρ=some d->∀(pins:List (Addr×Obj)) (s:Shared) (σ:L2.St) (H0 H Hf:Hp),Inv X pins σ H s->C2 Hf H->Slots X.K H0 ρ σ H Hf ->
  Joins (model X.prog X.w) X.A X.xe (evalEach es X.env) acc (fun out s1=>d=.str out/\∃H1 Hf1,Inv X pins σ H1 s1/\Grow H Hf H1 Hf1) s:=by
 induction h with
 | nil =>
  intro acc ρ d q pins s σ H0 H Hf I sm sl
  cases q
  exact⟨rfl,H,Hf,I,Grow.refl sm⟩
 | @cons e es f fs he hs ih =>
  intro acc ρ d q pins s σ H0 H Hf I sm sl
  obtain⟨y,h1,h2⟩:=Option.bind_eq_some_iff.mp q
  cases y with
  | str x =>
   dsimp only at h2
   split at h2
   case isFalse=>cases h2
   rename_i c
   refine thn (he ρ _ h1 pins s σ H (fun v H'=>v=.str x/\∃Hf',Grow H Hf H' Hf') I ⟨H0,Hf,sm,sl,fun v H' Hf' g r=>⟨r,Hf',g⟩⟩) fun v s1 ⟨v',H1,I1,r1,e1,Hf1,g1⟩=>?_
   subst e1
   obtain⟨t,rfl⟩:=(show ∃t,v=Value.str x t from r1)
   refine⟨x,t,rfl,c,?_⟩
   have z:=ih (acc++x) ρ d h2 pins s1 σ H0 H1 Hf1 I1 g1.sub (sl.grow g1)
   exact V8 _ _ _ _ _ (fun o s ⟨z1,H2,Hf2,I2,g2⟩=>⟨z1,H2,Hf2,I2,g1.trans g2⟩) z
  | none=>cases h2
  | bool b=>cases h2
  | int i=>cases h2
  | tuple xs=>cases h2
  | list xs=>cases h2
  | dict xs=>cases h2
theorem bx0{e1 e2:Expr}{es:List Expr}{fs:List DE}{pos:Pos}(h:JEs X (e1::e2::es) fs):JE X (.JoinedStr (e1::e2::es) pos) (aP8 Str.empty fs):=fun ρ d q=>by
 intro pins s σ H Q I hw
 obtain⟨H0,Hf,sm,sl,k⟩:=hw
 obtain⟨x,rfl,lx⟩:=ax7 fs _ ρ d q (by decide)
 refine wpAny_JoinedStr (V8 _ _ _ _ _ (fun o s1 z=>?_) (bw5 h Str.empty ρ _ q pins s σ H0 H Hf I sm sl))
 obtain⟨e,H1,Hf1,I1,g1⟩:=z
 cases e
 exact⟨lx,.str x,H1,I1.tok _,⟨_,rfl⟩,k _ H1 Hf1 g1 rfl⟩
end
def bq3(X:Cx):Prop:=∀pins ρ1 C H0 Hf0 e s',Ou X true pins ρ1 C H0 Hf0 e s'->Lo X C H0 e s'
section
variable {X:Cx}
theorem bj8{P:Program}{w:World}{K:PySem.W.Frag}{mg:Str->Option Value}{base:Heap}{N:List Str}{qual:Str}{scope:Scope}{f:Addr}{cd:Value}{A:Around}{outer:List Env}{s:Shared}{H:Hp}{E:XK}:bq3 (cx1 P w K mg base N qual scope f cd A outer s H E).nox:=by
 intro pins ρ1 C H0 Hf0 e s' h
 obtain⟨σ1,H2,Hf2,s2,I2,a2,o⟩:=h
 have I3:Inv (cx1 P w K mg base N qual scope f cd A outer s H (EC C H0)) pins σ1 H2 s2:=(I2.unwish).wish (cx1 P w K mg base N qual scope f cd A outer s H (EC C H0)).xe
 rcases o with⟨_,h',a,vs',rfl,rfl,hm⟩|hc
 ·exact am6 I3 hm ⟨rfl,a2.gr.big⟩
 ·exact av9 I3 (CX1.mono hc fun cls H' q=>⟨q.1,a2.gr.big.trans q.2⟩)
end
def bf8(K:PySem.W.Frag) (x c:Str):Bool:=match clA K x,clA K c with
 | some C,some D=>(match K.lookup C with
  | some ⟨_,_,.cls cd,_⟩=>!cd.mro.contains (.ref D)
  | _=>false)
 | _,_=>false
section
variable {X:Cx}
end
def ai8(Fs:List (List D->Option D)) (i:DE) (g:Rho->Option (List D)):DE:=fun ρ=>(i ρ).bind fun k=>(J6 k).bind fun k=>(atI Fs k).bind fun F=>(g ρ).bind F
def x5(Rs:List (List D->Option Str)) (i:DE) (g:Rho->Option (List D)):RD:=fun ρ=>(i ρ).bind fun k=>(J6 k).bind fun k=>(atI Rs k).bind fun R=>(g ρ).bind fun ds=>(R ds).map fun x=>(x,ρ)
section
variable {X:Cx}
def aQ5(X:Cx) (e:Expr) (a:Addr):Prop:=∃x p,e=.Name x p/\Gl X x/\X.mg x=some (.ref a)/\(x==("__debug__" : Str))=false
theorem al6:∀{es:List Expr}{as:List Addr},Paired (aQ5 X) es as->PA X es (fun _ H Q=>Q (as.map V.ref) H)
 | _,_,.nil=>fun pos pins s σ H Q I h=>E8 pos pins s σ H Q I h
 | _,_,.cons ⟨x,p,e,hg,hm,hd⟩ r=>by
  subst e
  exact fun pos pins s σ H Q I h=>C7 (av5 (v:=.ref _) hg hm rfl hd) (al6 r) rfl pos pins s σ H Q I h
theorem av6{es:List Expr}{as:List Addr}{b:Expr}{i:DE}{p1 p2:Pos}(hn:Paired (aQ5 X) es as) (hb:JE X b i) (hs:Q5 b) (hl:as.length<=1000) {ρ:Rho}{k:Int}{f:Addr}(hi:i ρ=some (.int k)) (ha:atI as k=some f):PE X (.Subscript (.List es p1) b p2) (tJ X.K ρ fun _ v _ _=>v=.ref f):=by
 refine B2 (aH9 ax4 (aH8 (al6 hn)) (hb ρ _ hi) hs) fun σ H Q ⟨H0,Hf,s,sl,kk⟩=>?_
 refine⟨by rw [List.length_map];exact Nat.le_trans hl (by rw [sizeLine_eq];decide),fun p hp=>?_⟩
 have g1:=Grow.made (o:=.lst (as.map V.ref)) s hp
 refine⟨H0,Hf,g1.sub,sl.grow g1,fun v H2 Hf2 g2 r2=>?_⟩
 refine⟨p,as.map V.ref,k,.ref f,rfl,r2,.inl (Rd.of (g2.big _ _ B0)),?_,kk _ H2 Hf2 (g1.trans g2) rfl⟩
 obtain⟨j,e1,e2⟩:=Option.bind_eq_some_iff.mp ha
 unfold atI
 rw [List.length_map,e1,xbs,List.getElem?_map,e2]
 rfl
def bz0(X:Cx) (n:Nat) (a:Addr) (F:List D->Option D):Prop:=∃(k:Nat) (fd:FuncData) (ps:List Str),FnOk X.prog X.w X.K X.mg X.base CX0 k a fd ps (spF X.K n F)/\Room k X.A/\PySem.W.keepIn X.K (.ref a)=true/\J9 X.K fd ps []
def by8(X:Cx) (n:Nat) (a:Addr) (R:List D->Option Str):Prop:=∃(k:Nat) (fd:FuncData) (ps:List Str),FnOk X.prog X.w X.K X.mg X.base (CX1 X.prog X.w) k a fd ps (spR X.K n R)/\Room k X.A/\PySem.W.keepIn X.K (.ref a)=true/\J9 X.K fd ps []
theorem ad3{α β:Type}{P:α->β->Prop}{as:List α}{bs:List β}(h:Paired P as bs) {k:Int}{b:β}(e:atI bs k=some b):∃a,atI as k=some a/\P a b:=by
 have hl:=h.length
 obtain⟨j,e1,e2⟩:=Option.bind_eq_some_iff.mp e
 have get:∀{as:List α}{bs:List β}(j:Nat),Paired P as bs->bs[j]? = some b->∃a,as[j]? = some a/\P a b:=by
  intro as bs j h
  induction h generalizing j with
  | nil=>intro e;cases e
  | cons p r ih =>
   intro e
   cases j with
   | zero=>rw [xg0]at e;cases e;exact⟨_,rfl,p⟩
   | succ j=>rw [xg1]at e;exact ih j e
 obtain⟨a,e3,p⟩:=get j h e2
 exact⟨a,by unfold atI;rw [hl,e1,xbs,e3],p⟩
theorem aN0{es:List Expr}{as:List Addr}{Fs:List (List D->Option D)}{b e:Expr}{i:DE}{args:List Expr}{n:Nat}{g:Rho->Option (List D)}{p1 p2 pos:Pos}(hn:Paired (aQ5 X) es as) (hF:Paired (bz0 X n) as Fs) (hb:JE X b i) (hs:Q5 b) (hl:as.length<=1000) (ha:JA X (e::args) g) (hln:(e::args).length=n)
  (he:starEach (e::args) X.env=(false,eval e X.env)::starEach args X.env) (hpl:(backTo pos (starEach args X.env)).any (·.1)=false):JE X (.Call (.Subscript (.List es p1) b p2) (e::args) [] pos) (ai8 Fs i g):=fun ρ d q=>by
 obtain⟨k0,h1,q⟩:=Option.bind_eq_some_iff.mp q
 obtain⟨k,h2,q⟩:=Option.bind_eq_some_iff.mp q
 obtain⟨F,h3,q⟩:=Option.bind_eq_some_iff.mp q
 obtain⟨ds,h4,h5⟩:=Option.bind_eq_some_iff.mp q
 have e0:k0=.int k:=by
  unfold J6 at h2
  split at h2
  ·cases h2;rfl
  ·cases h2
 subst e0
 obtain⟨f,h6,kk,fd,ps,Fk,hr,hk,hbd⟩:=ad3 hF h3
 intro pins s σ H Q I ⟨H0,Hf,ss,sl,kq⟩
 show wpAny _ _ (eval (.Subscript (.List es p1) b p2) X.env >>= fun f=>callWith pos f [] (backTo pos (starEach (e::args) X.env)) []) _ _ _
 refine wpAny_bind (thn (av6 hn hb hs hl h1 h6 pins s σ H (fun v H'=>v=.ref f/\∃Hf',Grow H Hf H' Hf') I ⟨H0,Hf,ss,sl,fun v H' Hf' gr e=>⟨e,Hf',gr⟩⟩) fun u s1 ⟨v,H1,I1,rv,ev,Hf1,gr⟩=>?_)
 subst ev
 cases rv
 refine PySem.W.callWith_K (h₀:=X.base) I.ok.mod.kin hk (thn (ha.run ρ ds h4 pos pins s1 σ H1 (fun vs H'=>spF X.K n F (vs++[]) H' Q E0) I1 ⟨H0,Hf1,gr.sub,sl.grow gr,fun vs H2 Hf2 g2 r2=>?_⟩) fun us s2 ⟨vs,H2,I2,r,q⟩=>⟨I2.kIn,aq5 Fk hr hbd .nil aI2 I2 r q⟩) he hpl
 exact⟨by rw [List.append_nil,r2.length,ha.len ρ ds h4,hln],Hf2,ds,d,g2.sub,by rw [List.append_nil];exact r2,h5,fun v H3 Hf3 g3 r3=>kq v H3 Hf3 ((gr.trans g2).trans g3) r3⟩
theorem aG9{m:Bool}{es:List Expr}{as:List Addr}{Rs:List (List D->Option Str)}{b e:Expr}{i:DE}{args:List Expr}{n:Nat}{g:Rho->Option (List D)}{p1 p2 pos:Pos}(hx:∀e s,X.xe e s->False) (hn:Paired (aQ5 X) es as) (hF:Paired (by8 X n) as Rs) (hb:JE X b i) (hs:Q5 b) (hl:as.length<=1000) (ha:JA X (e::args) g) (hln:(e::args).length=n)
  (he:starEach (e::args) X.env=(false,eval e X.env)::starEach args X.env) (hpl:(backTo pos (starEach args X.env)).any (·.1)=false):PX X m (.Call (.Subscript (.List es p1) b p2) (e::args) [] pos) (x5 Rs i g):=by
 intro ρ y ρ1 C q hC H0 Hf0 pins s σ H Hf I at_
 obtain⟨k0,h1,q⟩:=Option.bind_eq_some_iff.mp q
 obtain⟨k,h2,q⟩:=Option.bind_eq_some_iff.mp q
 obtain⟨R,h3,q⟩:=Option.bind_eq_some_iff.mp q
 obtain⟨ds,h4,q⟩:=Option.bind_eq_some_iff.mp q
 obtain⟨y',h5,q⟩:=Option.map_eq_some_iff.mp q
 cases q
 have e0:k0=.int k:=by
  unfold J6 at h2
  split at h2
  ·cases h2;rfl
  ·cases h2
 subst e0
 obtain⟨f,h6,kk,fd,ps,Fk,hr,hk,hbd⟩:=ad3 hF h3
 show wpAny _ _ (eval (.Subscript (.List es p1) b p2) X.env >>= fun f=>callWith pos f [] (backTo pos (starEach (e::args) X.env)) []) _ _ _
 refine wpAny_bind (noX hx (av6 hn hb hs hl h1 h6 pins s σ H (fun v H'=>v=.ref f/\∃Hf',Grow H Hf H' Hf') I ⟨H0,Hf,at_.gr.sub,at_.sl,fun v H' Hf' gr e=>⟨e,Hf',gr⟩⟩) fun u s0 ⟨v,H2,I2,rv,ev,Hf2,gr⟩=>?_)
 subst ev
 cases rv
 have at2:=at_.grow gr
 refine PySem.W.callWith_K (h₀:=X.base) I.ok.mod.kin hk (noX hx (ha.run ρ ds h4 pos pins s0 σ H2 (fun vs H'=>∃Hf',At X.K H0 Hf0 ρ σ H' Hf'/\Reps X.K Hf' ds vs) I2 ⟨H0,Hf2,at2.gr.sub,at2.sl,fun vs H1 Hf1 g1 r1=>⟨Hf1,at2.grow g1,r1⟩⟩) fun us s1 ⟨vs,H1,I1,r,Hf1,a1,rp⟩=>⟨I1.kIn,?_⟩) he hpl
 have hl1:vs.length=n:=by rw [rp.length,ha.len ρ ds h4,hln]
 have sp:spR X.K n R vs H1 (fun _ _=>False) (EC C H1):=⟨hl1,Hf1,ds,y,C,a1.gr.sub,rp,h5,hC,fun H' sm=>⟨rfl,sm⟩⟩
 have hl2:us.length=ps.length:=by rw [← r.length];exact Fk.len vs H1 (fun _ _=>False) (EC C H1) sp
 have bd:BindsTo s1 fd ⟨us,[]⟩ (ps.zip us):=by
  have:=hbd s1 us I1.kIn (by rw [List.append_nil];exact hl2)
  rwa [List.append_nil]at this
 refine wpAny_call (codeAny_mono (Fk.run X.A X.stack s1 H1 ⟨us,[]⟩ us vs (fun _ _=>False) (EC C H1) hr I1.env0 bd r sp) fun rs s' hq=>?_)
 cases rs with
 | error e=>exact .inl ⟨σ,H1,Hf1,s1,I1,a1,.inr hq⟩
 | ok fl =>
  cases fl with
  | ret u=>obtain⟨_,_,_,_,_,_,_,z⟩:=hq;exact z.elim
  | next=>exact False.elim hq
  | brk=>exact False.elim hq
  | cont=>exact False.elim hq
end
structure RoomQ (k:Nat) (A:Around):Prop where
 dp:A.depth+3*k+5 < recursionLimit
 un:A.units+16*k+200 < cLine
abbrev cxQ(P:Program) (w:World) (K:PySem.W.Frag) (mg:Str->Option Value) (base:Heap) (N:List Str) (qual:Str) (scope:Scope) (f:Addr) (cd:Value) (A:Around) (outer:List Env) (s:Shared) (H:Hp):Cx:={ (ai9 CX0 P w K mg base N qual scope f cd A outer s H E0).nox with calm:=false }
structure FnQ (P:Program) (w:World) (K:PySem.W.Frag) (mg:Str->Option Value) (base:Heap) (k:Nat) (f:Addr) (fd:FuncData) (ps:List Str) (sp:Sp):Prop where
 len:∀vs H Q E,sp vs H Q E->vs.length=ps.length
 run:∀(A:Around) (outer:List Env) (s:Shared) (H:Hp) (args:Args) (us:List Value) (vs:List V) (Q:VK),RoomQ k A->Env0 P w K mg base A outer s H->BindsTo s fd args (ps.zip us)->C3 vs us->sp vs H Q E0->codeAny (model P w) A (.call (.ref f) args) (CR CX0 outer P w H s Q E0) s
theorem FnQ.mono{P:Program}{w:World}{K:PySem.W.Frag}{mg:Str->Option Value}{base:Heap}{j k:Nat}{f:Addr}{fd:FuncData}{ps:List Str}{sp:Sp}(F:FnQ P w K mg base j f fd ps sp) (h:j<=k):FnQ P w K mg base k f fd ps sp :=
 ⟨F.len,fun A outer s H args us vs Q hr=>F.run A outer s H args us vs Q ⟨by have:=hr.dp;omega,by have:=hr.un;omega⟩⟩
theorem ar8{P:Program}{w:World}{K:PySem.W.Frag}{mg:Str->Option Value}{base:Heap}{N ps:List Str}{qual:Str}{scope:Scope}{f:Addr}{cd:Value}{A:Around}{outer:List Env}{s s1:Shared}{H:Hp}{us:List Value}{vs:List V}
  (S:FnScope N ps scope) (e0:Env0 P w K mg base A outer s H) (hl:vs.length=ps.length) (r:C3 vs us)
  (x:InCallC s s.heap.objs.size (bindL (envOfC qual scope s.heap.objs.size f cd).kindOf (ps.zip us) fun _=>none) (cellsFrom (s.heap.objs.size+1) scope.names []) (bindC (envOfC qual scope s.heap.objs.size f cd).kindOf (ps.zip us) fun _=>none) s1) :
  Inv (cxQ P w K mg base N qual scope f cd A outer s H) [] (J2 N vs) H s1:=by
 have hpl:ps.length<=N.length:=by have:=congrArg List.length S.pre;rw [List.length_take]at this;omega
 obtain⟨h1,tk,rfl,hk⟩:=x.done
 have noA:∀b:Addr,b∉(cxQ P w K mg base N qual scope f cd A outer s H).ex:=fun b z=>absurd (show b∈([]:List Addr) from z) (by simp)
 refine⟨⟨e0.mod,S.kind,rfl,rfl,Nat.le_refl _,fun y z c h1 h2=>?_,fun y hy=>?_,fun y c _ h=>?_,(fun z=>nomatch z),Around.frames_deeper e0.frames,.inr ⟨rfl,rfl⟩,fun b z=>absurd z (noA b),e0.bs,e0.bsz,fun b _ _=>noA b,fun b z=>absurd z (noA b),e0.funs,e0.frf⟩,
  rfl,e0.bare,Un.kept hk,⟨_,x.toInCall.ns,fun i y v h1 h2 h3=>?_⟩,fun y c h=>⟨_,x.cell y c h⟩,e0.hok.fresh (Nat.le_refl _),fun y c h=>?_,fun p hp=>absurd (show p∈([]:List (Addr×Obj)) from hp) (by simp),e0.hok.kept hk,?_⟩
 ·exact name_of_addr x.apart (PySem.mem_of_lookup h1) (PySem.mem_of_lookup h2)
 ·have hy:scope.names.lookup y=some .cell\/scope.names.lookup y=some .free:=hy
  rcases hy with hy|hy
  ·exact Z7 hy
  ·exact absurd rfl (S.nofree _ (PySem.mem_of_lookup hy))
 ·exact Nat.le_of_lt (x.above y c (PySem.mem_of_lookup h))
 ·have hi:i < vs.length:=by
   unfold L2.J2 at h2
   by_cases hi:i < vs.length
   ·exact hi
   ·rw [List.getElem?_append_right (by simpa using hi)]at h2
    rw [List.getElem?_replicate]at h2
    split at h2<;>cases h2
  have ha:vs[i]? = some v:=by
   unfold L2.J2 at h2
   rw [List.getElem?_append_left (by simpa using hi),List.getElem?_map]at h2
   cases e:vs[i]? with
   | none=>rw [e]at h2;cases h2
   | some a=>rw [e]at h2;cases h2;rfl
  obtain⟨u,hu,rv⟩:=r.get ha
  have hp:ps[i]? = some y:=by
   rw [← S.pre,List.getElem?_take_of_lt (by omega)];exact h1
  have ndP:ps.Nodup:=by rw [← S.pre];exact S.nd.sublist (List.take_sublist _ _)
  refine⟨u,rv,?_⟩
  rcases S.par y (List.mem_of_getElem? hp) with k|k
  ·exact .inl ⟨k,j8 ndP hp hu k⟩
  ·obtain⟨c,e⟩:=Z7 (n:=s.heap.objs.size+1) k
   refine .inr ⟨.inl k,c,e,?_⟩
   have q:=x.cell y c e
   rw [j9 ndP hp hu (by show scope.names.lookup y≠_;rw [k];decide)]at q
   exact q
 ·exact e0.hok.fresh (Nat.le_of_lt (x.above y c (PySem.mem_of_lookup h)))
 ·unfold L2.J2
  show _=N.length
  rw [List.length_append,List.length_map,List.length_replicate]
  omega
theorem bp0{P:Program}{w:World}{K:PySem.W.Frag}{mg:Str->Option Value}{base:Heap}{k:Nat}{x qual:Str}{st:Stmt}{f:Addr}{fd:FuncData}{N ps:List Str}{sp:Sp}(F:Fun K x qual st f fd) (S:FnScope N ps (B5 st)) (len:∀vs H Q E,sp vs H Q E->vs.length=ps.length)
  (hbody:∀(cdv:Value) (A:Around) (outer:List Env) (s:Shared) (H:Hp) (vs:List V) (Q:VK),RoomQ k (A.deeper (envOfC qual (B5 st) s.heap.objs.size f cdv))->sp vs H Q E0->∃t,PSs (cxQ P w K mg base N qual (B5 st) f cdv A outer s H) (F3 st) t/\t { nx:=fun _ H'=>Q .non H',rt:=Q } (J2 N vs) H):FnQ P w K mg base (k+1) f fd ps sp:=by
 obtain⟨oc,od,kV,doc,pm,an,cdv,ct,osl,rfl,lk,hcd⟩:=F.ex
 refine⟨len,fun A outer s H args us vs Q hr e0 hb r hsp=>?_⟩
 have hl:=len _ _ _ _ hsp
 have KX:K.In s.heap:=e0.mod.kin.keeps fun b o e=>(e0.bs b o e).1
 have lim:s.heap.NoLimit:=e0.mod.nolimit.keeps fun b o e=>(e0.bs b o e).1
 have hkind:∀y∈ps.zip us,(B5 st).names.lookup y.1=some .local\/((B5 st).names.lookup y.1=some .cell/\((cellsFrom (s.heap.objs.size+1) (B5 st).names []).lookup y.1).isSome=true):=fun⟨n,v⟩ hy=>by
  rcases S.par n (List.of_mem_zip hy).1 with q|q
  ·exact .inl q
  ·exact .inr ⟨q,PySem.W.cellsFrom_some _ _ _ (.inl q)⟩
 have dpt:A.depth < recursionLimit:=by have:=hr.dp;omega
 refine codeAny_call_function (by first|exact dpt|(have:=hr.dp;omega)) (KX _ _ lk) rfl S.co S.gen rfl (PySem.W.codeRec_of KX hcd) (hb _ _ _ _ ?_)
 refine wpAny_newFunctionEnv_cells S.kind hkind fun env he s1 x=>?_
 subst he
 refine⟨lim.keeps x.toInCall.keep,codeAny_func ?_⟩
 obtain⟨t,ht,hq⟩:=hbody cdv A outer s H vs Q ⟨by have:=hr.dp;show A.depth+1+3*k+5 < _;omega,by have:=hr.un;show A.units+3+16*k+200 < _;omega⟩ hsp
 have I:L2.Inv (cxQ P w K mg base N qual (B5 st) f cdv A outer s H) [] (J2 N vs) H s1:=ar8 S e0 hl r x
 refine wpAny_mono (ht [] s1 (J2 N vs) H _ I hq) (fun fl s' hs=>?_) fun e s' hs=>False.elim hs
 have fin:∀{σ':L2.St}{H':Hp}{v:V}{u:Value},L2.Inv (cxQ P w K mg base N qual (B5 st) f cdv A outer s H) [] σ' H' s'->D4 v u->Q v H'->CE outer P w H s Q u s' :=
  fun{σ' H' v u} J rv q=>⟨v,H',J.os,J.bare,J.base,J.hok,rv,q⟩
 cases fl with
 | ret u =>
  obtain⟨v,σ',H',J,rv,q⟩:=hs
  exact fin J rv q
 | next =>
  obtain⟨σ',H',J,q⟩:=hs
  exact fin (v:=V.non) (u:=Value.none) J rfl q
 | brk =>
  obtain⟨_,_,_,q⟩:=hs
  exact False.elim q
 | cont =>
  obtain⟨_,_,_,q⟩:=hs
  exact False.elim q
def r8(n:Nat) (x:Str):Rho:=some (.exc x)::List.replicate (n - 1) none
def bg5(g:DS) (n:Nat):Str->Option D:=fun x=>(g (r8 n x)).bind fun fl=>match fl with
 | .rt d=>some d
 | _=>none
def spX(K:PySem.W.Frag) (F:Str->Option D):Sp:=fun vs H Q _=>∃Hf x v d,vs=[v]/\C2 Hf H/\SB K H H Hf (.exc x) v/\F x=some d/\∀u H' Hf',Grow H Hf H' Hf'->Rep K Hf' d u->Q u H'
theorem af2{K:PySem.W.Frag}{H0 H Hf:Hp}{N:List Str}{x:Str}{v:V}(hN:1<=N.length) (r:SB K H0 H Hf (.exc x) v):Slots K H0 (r8 N.length x) (L2.J2 N [v]) H Hf:=by
 have only:∀(i:Nat) (b:B),(r8 N.length x)[i]? = some (some b)->i=0/\b=.exc x:=fun i b h=>by
  unfold r8 at h
  cases i with
  | zero=>rw [xg0]at h;cases h;exact⟨rfl,rfl⟩
  | succ i =>
   rw [xg1,List.getElem?_replicate]at h
   split at h<;>cases h
 refine⟨by simp [r8,L2.J2],fun i b e=>?_,fun i j d1 d2 a e1 _ _ _=>?_⟩
 ·obtain⟨rfl,rfl⟩:=only i b e
  exact⟨v,rfl,r⟩
 ·obtain⟨_,z⟩:=only i _ e1
  cases z
theorem aO7{P:Program}{w:World}{K:PySem.W.Frag}{mg:Str->Option Value}{base:Heap}{x qual:Str}{st:Stmt}{f:Addr}{fd:FuncData}{N ps:List Str}{k:Nat}{g:DS}(F:Fun K x qual st f fd) (S:FnScope N ps (B5 st)) (hp:ps.length=1)
  (hb:∀(cdv:Value) (A:Around) (outer:List Env) (s:Shared) (H:Hp),RoomQ k (A.deeper (envOfC qual (B5 st) s.heap.objs.size f cdv))->JSs (cxQ P w K mg base N qual (B5 st) f cdv A outer s H) (F3 st) g) :
  FnQ P w K mg base (k+1) f fd ps (spX K (bg5 g N.length)):=by
 have hN:1<=N.length:=by have:=congrArg List.length S.pre;rw [List.length_take,hp]at this;omega
 refine bp0 F S (fun vs H Q E h=>by obtain⟨_,_,_,_,rfl,_⟩:=h;rw [hp];rfl) fun cdv A outer s H vs Q hr hsp=>?_
 obtain⟨Hf,y,v,d,rfl,ss,sb,e,kk⟩:=hsp
 obtain⟨fl,e1,e2⟩:=Option.bind_eq_some_iff.mp e
 refine⟨_,hb cdv A outer s H hr _ fl e1 H Hf,Hf,⟨Grow.refl ss,af2 hN sb⟩,?_⟩
 cases fl with
 | rt d'=>cases e2;exact fun v H' Hf' g r=>kk v H' Hf' g r
 | nx ρ=>cases e2
 | bk ρ=>cases e2
 | ct ρ=>cases e2
section
variable {X:Cx}
def W2(i:Nat) (F:Str->Option D):DE:=fun ρ=>match ρ[i]? with
 | some (some (.exc x))=>F x
 | _=>none
theorem aM9{k:Nat}{f:Addr}{fd:FuncData}{ps:List Str}{F:Str->Option D}{x n:Str}{i:Nat}{p p1 pos:Pos}(Fk:FnQ X.prog X.w X.K X.mg X.base k f fd ps (spX X.K F)) (hr:RoomQ k X.A) (hg:Gl X x) (hm:X.mg x=some (.ref f)) (hk:PySem.W.keepIn X.K (.ref f)=true) (hb:J9 X.K fd ps [])
  (hN:X.N[i]? = some n) (hv:Vis X.env.scope n) (hd:(n==("__debug__" : Str))=false) (hcd:(n==("__classdict__" : Str))=false) (hdb:(x==("__debug__" : Str))=false) :
  JE X (.Call (.Name x p) [.Name n p1] [] pos) (W2 i F):=fun ρ d q=>by
 unfold W2 at q
 split at q
 case h_2=>cases q
 rename_i y e
 intro pins s σ H Q I ⟨H0,Hf,ss,sl,kk⟩
 obtain⟨v0,h1,sb⟩:=sl.is i _ e
 refine wpAny_Call_Name_kw (N3 I hg hm ?_ hdb)
 refine PySem.W.callWith_K (h₀:=X.base) I.ok.mod.kin hk (thn (C7 (Q0 hN hv hd hcd) E8 rfl pos pins s σ H (fun vs H'=>vs=[v0]/\H'=H) I ⟨v0,h1,rfl,rfl⟩) fun us s1 ⟨vs,H1,I1,r,e1,e2⟩=>⟨I1.kIn,?_⟩) rfl rfl
 subst e1 e2
 have sp:spX X.K F [v0] H1 Q E0:=⟨Hf,y,v0,d,rfl,ss,sb,q,fun u H' Hf' g r=>kk u H' Hf' g r⟩
 have hl2:us.length=ps.length:=by rw [← r.length];exact Fk.len _ _ _ _ sp
 have bd:BindsTo s1 fd ⟨us,[]⟩ (ps.zip us):=by
  have:=hb s1 us I1.kIn (by rw [List.append_nil];exact hl2)
  rwa [List.append_nil]at this
 refine wpAny_call (codeAny_mono (Fk.run X.A X.stack s1 H1 ⟨us,[]⟩ us [v0] Q hr I1.env0 bd r sp) fun rs s' hq=>?_)
 cases rs with
 | error e=>exact False.elim hq
 | ok fl =>
  cases fl with
  | ret u=>exact I1.after hq
  | next=>exact False.elim hq
  | brk=>exact False.elim hq
  | cont=>exact False.elim hq
end
abbrev ao6:=List (Str×(Str->Option D))
abbrev aj5:=List (Str×(List D->Option Str)×Nat)
structure Rg where
 rf:aj5
 cl:List Str
 tb:List (Str×List (Str×Bool))
 sb:List (Str×List Str)
 nb:List (Str×List Str)
 xf:ao6
structure FitR (S:Sg) (T:Rg) (c:Kx) (X:Cx):Prop where
 fit:Fit S c X
 ns:∀x C,clA X.K x=some C->X.mg x=some (.ref C)
 rfs:∀x R n,T.rf.lookup x=some (R,n)->∃(k:Nat) (f:Addr) (fd:FuncData) (ps:List Str),FnOk X.prog X.w X.K X.mg X.base (CX1 X.prog X.w) k f fd ps (spR X.K n R)/\Room k X.A/\X.mg x=some (.ref f)/\PySem.W.keepIn X.K (.ref f)=true/\J9 X.K fd ps []
 cls:∀x,T.cl.contains x=true->P2 X.K x=true
 tbs:∀y l,T.tb.lookup y=some l->(∃D,clA X.K y=some D/\d9 X.K (.ref D) fun x=>l.lookup x)\/(y = "ValueError" /\ X.mg y=none/\d9 X.K (.type "ValueError") fun x=>l.lookup x)
 sbs:∀y l,T.sb.lookup y=some l->P2 X.K y=true/\∀x∈l,P2 X.K x=true/\aF9 X.K x y=true
 nbs:∀y l,T.nb.lookup y=some l->∀x∈l,P2 X.K x=true/\bf8 X.K x y=true
 xfs:∀x F,T.xf.lookup x=some F->∃(k:Nat) (f:Addr) (fd:FuncData) (ps:List Str),FnQ X.prog X.w X.K X.mg X.base k f fd ps (spX X.K F)/\RoomQ k X.A/\X.mg x=some (.ref f)/\PySem.W.keepIn X.K (.ref f)=true/\J9 X.K fd ps []
section
variable (S:Sg) (T:Rg)
def fsP(c:Kx) (e:Expr):DE:=match e with
 | .FormattedValue v k sp _=>if k==114 then(match sp with
  | none=>dRp ((ev S 99).e c v)
  | some _=>dNo) else dNo
 | .Constant k _ _=>xCn k
 | _=>dNo
def msE(c:Kx) (e:Expr):DE:=match e with
 | .JoinedStr (e1::e2::es) _=>aP8 Str.empty ((e1::e2::es).map (fsP S c))
 | _=>(ev S 99).e c e
def fnL(c:Kx) (n:Nat):List Expr->Option (List (FnD×(List D->Option Str)))
 | []=>some []
 | .Name x _::es=>(match S.fn.lookup x,T.rf.lookup x with
  | some (F,m),some (R,m')=>if o0 c.sc x&&m==n&&m'==n then(fnL c n es).map fun r=>(F,R)::r else none
  | _,_=>none)
 | _::_=>none
def lsF(f:Expr):Option (List Expr×Expr):=match f with
 | .Subscript l i _=>(match l with
  | .List fs _=>some (fs,i)
  | _=>none)
 | _=>none
def xvL(c:Kx) (f a:Expr) (args:List Expr):DE:=match lsF f with
 | some (fs,i)=>(match fnL S T c (a::args).length fs with
  | some l=>if pl i&&fs.length<=1000&&(a::args).all pl then ai8 (l.map (·.1)) ((ev S 99).e c i) (evA ((ev S 99).e c) (a::args)) else dNo
  | none=>dNo)
 | none=>dNo
def xvE(c:Kx) (e:Expr):DE:=match e with
 | .Call f as kw _=>if(lsF f).isSome then(match as,kw with
  | a::args,[]=>xvL S T c f a args
  | _,_=>dNo) else(ev S 99).e c e
 | _=>(ev S 99).e c e
def xvS(c:Kx) (st:Stmt):DS:=match st with
 | .Return o _=>(match o with
  | some e=>C8 (xvE S T c e)
  | none=>A9)
 | _=>xS S (ev S 99) c st
def rvN(c:Kx) (f a:Expr) (args:List Expr):RD:=match f with
 | .Name x _=>(match T.rf.lookup x with
  | some (R,n)=>if o0 c.sc x&&(a::args).length==n&&(a::args).all pl then ba7 R (evA ((ev S 99).e c) (a::args)) else rNo
  | none=>rNo)
 | _=>rNo
def bt4(c:Kx) (f a:Expr) (args:List Expr):RD:=match lsF f with
 | some (fs,i)=>(match fnL S T c (a::args).length fs with
  | some l=>if pl i&&fs.length<=1000&&(a::args).all pl then x5 (l.map (·.2)) ((ev S 99).e c i) (evA ((ev S 99).e c) (a::args)) else rNo
  | none=>rNo)
 | none=>rvN S T c f a args
def rvE(c:Kx) (e:Expr):RD:=match e with
 | .Call f as kw _=>(match as,kw with
  | a::args,[]=>bt4 S T c f a args
  | _,_=>rNo)
 | _=>rNo
def rvL(f:Stmt->RD) (c:Kx):List Stmt->RD
 | []=>rNo
 | [s]=>f s
 | s::t::r=>Q8 (f s) (xS S (ev S 99) c s) (rvL f c (t::r))
def rvR(mk:Bool) (c:Kx) (a b:Option Expr):RD:=match a,b with
 | some e,none=>(match e with
  | .Call f as kw _=>(match f with
   | .Name x _=>(match as,kw with
    | [e],[]=>if mk&&T.cl.contains x&&o0 c.sc x&&pl e then R5 x (msE S c e) else rNo
    | _,_=>rNo)
   | _=>rNo)
  | _=>rNo)
 | _,_=>rNo
def rvX(c:Kx) (e:Expr):RD:=match e with
 | .Call f as kw q=>rvE S T c (.Call f as kw q)
 | _=>rNo
def rvA(c:Kx) (v:Expr):List Expr->RD
 | [t]=>(match t with
  | .Name _ _=>rvX S T c v
  | _=>rNo)
 | _=>rNo
def rvS(mk:Bool):Nat->Kx->Stmt->RD
 | 0,_,_=>rNo
 | n+1,c,st=>match st with
  | .Raise a b _=>rvR S T mk c a b
  | .If t a b _=>rIf ((ev S 99).t c t) (rvL S (rvS mk n c) c a) (rvL S (rvS mk n c) c b)
  | .Expr e _=>rvX S T c e
  | .Return o _=>(match o with
   | some e=>rvE S T c e
   | none=>rNo)
  | .Assign ts v _=>rvA S T c v ts
  | _=>rNo
def rvB(mk:Bool) (c:Kx) (sts:List Stmt):RD:=rvL S (rvS S T mk 9 c) c sts
def zvI(c:Kx) (w:Str) (a b:Expr):DE:=match a with
 | .Name x _=>(match b with
  | .Name y _=>if biB S c "isinstance" w&&af1 c.sc x&&o0 c.sc y then(match O6 x c.N,T.tb.lookup y with
   | some i,some l=>aD7 i fun x=>l.lookup x
   | _,_=>dNo) else dNo
  | _=>dNo)
 | _=>dNo
def zvE(c:Kx):Nat->Expr->DE
 | 0,_=>dNo
 | n+1,ex=>match ex with
  | .Call f as kw cpos=>(match kw with
   | []=>(match f with
    | .Name w _=>(match as with
     | [a,b]=>zvI S T c w a b
     | _=>dNo)
    | .Attribute o m apos=>(match as with
     | [a]=>if m == "count" && y6 o&&apos.endLine==cpos.line&&pl a then as5 (zvE c n o) (zvE c n a) else if m == "index" && y6 o&&apos.endLine==cpos.line&&pl a then ai7 (zvE c n o) (zvE c n a) else dNo
     | _=>dNo)
    | _=>dNo)
   | _=>dNo)
  | .Constant k _ _=>xCn k
  | .Name x _=>(match O6 x c.N with
   | some i=>if af1 c.sc x then A1 i else dNo
   | none=>dNo)
  | .Tuple es _ _=>if es.length<=1000 then C9 (evA (zvE c n) es) else dNo
  | .List es _=>if es.length<=1000 then E2 (evA (zvE c n) es) else dNo
  | .UnaryOp op a _=>(match op with
   | .USub=>ao0 (zvE c n a)
   | .Not=>T0 (zvE c n a)
   | _=>dNo)
  | .BinOp a op b _=>(match op with
   | .Add=>A4 E9 (zvE c n a) (zvE c n b)
   | _=>dNo)
  | .Compare a ops bs _=>(match ops,bs with
   | [op],[b]=>if pl b then A4 (ao3 op) (zvE c n a) (zvE c n b) else dNo
   | _,_=>dNo)
  | .BoolOp op vs _=>aD1 (zvE c n) op vs
  | _=>dNo
def zvT(c:Kx):Nat->Expr->DT
 | 0,_=>tNo
 | n+1,ex=>match ex with
  | .Compare a ops bs _=>(match ops,bs with
   | [op],[b]=>if pl b then tB2 (ao3 op) (zvE S T c 9 a) (zvE S T c 9 b) else tNo
   | _,_=>tNo)
  | .BoolOp op vs _=>aD0 (zvT c n) op vs
  | .UnaryOp op a _=>(match op with
   | .Not=>K0 (zvT c n a)
   | _=>tNo)
  | _=>if plT ex then P6 (zvE S T c 9 ex) else tNo
def zvA(c:Kx) (d:DE) (v:Expr):List Expr->DS
 | [t]=>(match t with
  | .Name x _=>(match O6 x c.N with
   | some i=>if aC2 c x && !(isC v) then B6 i d else A9
   | none=>A9)
  | _=>A9)
 | _=>A9
def zvS(c:Kx):Nat->Stmt->DS
 | 0,_=>A9
 | n+1,st=>match st with
  | .Assign ts v _=>zvA c (zvE S T c 9 v) v ts
  | .If t a b _=>sIf (zvT S T c 9 t) (evB (zvS c n) a) (evB (zvS c n) b)
  | .Return o _=>(match o with
   | some e=>C8 (zvE S T c 9 e)
   | none=>A9)
  | _=>A9
def hvX(c:Kx) (e:Expr):Option DE:=match e with
 | .Call f as kw _=>(match f with
  | .Name f _=>(match as,kw with
   | [a],[]=>(match a with
    | .Name x _=>(match T.xf.lookup f,O6 x c.N with
     | some F,some i=>if o0 c.sc f&&af1 c.sc x then some (W2 i F) else none
     | _,_=>none)
    | _=>none)
   | _,_=>none)
  | _=>none)
 | _=>none
def hvE(c:Kx) (ex:Expr):DE:=match hvX T c ex with
 | some d=>d
 | none=>zvE ⟨[],[],S.bl⟩ T c 9 ex
def hvS(c:Kx) (st:Stmt):DS:=match st with
 | .Assign ts v _=>zvA c (hvE S T c v) v ts
 | .Return o _=>(match o with
  | some e=>C8 (hvE S T c e)
  | none=>A9)
 | _=>A9
def X8(l:List Str) (r:RD):RD:=fun ρ=>match r ρ with
 | some (x,ρ1)=>if l.contains x then some (x,ρ1) else none
 | none=>none
def hnd:ExceptHandler->Option (Str×Option Str×Stmt×List Stmt)
 | .ExceptHandler t nm su _=>(match t with
  | some e=>(match e with
   | .Name y _=>(match su with
    | b0::suite=>some (y,nm,b0,suite)
    | []=>none)
   | _=>none)
  | none=>none)
def hc1(c:Kx) (h:ExceptHandler):Option (List Str×List Str×DS):=match hnd h with
 | some (y,none,b0,suite)=>(match T.sb.lookup y,T.nb.lookup y with
  | some l,some nl=>if o0 c.sc y then some (l,nl,evB (hvS S T c) (b0::suite)) else none
  | _,_=>none)
 | _=>none
def hcL(c:Kx):List ExceptHandler->Option (List (List Str×List Str×DS))
 | []=>some []
 | h::hs=>(hc1 S T c h).bind fun x=>(hcL c hs).map fun r=>x::r
def tvA(c:Kx) (body:List Stmt) (h:ExceptHandler):DS:=match hnd h with
 | some (y,some n,b0,suite)=>(match T.sb.lookup y,O6 n c.N with
  | some l,some i=>if o0 c.sc y&&c.sc.names.lookup n==some .local then ac8 (X8 l (rvB S T false c body)) (evB (xvS S T c) body) i (evB (hvS S T c) (b0::suite)) else A9
  | _,_=>A9)
 | _=>A9
def tvH(c:Kx) (body:List Stmt):List ExceptHandler->DS
 | []=>A9
 | h0::hs=>(match hs with
  | []=>tvA S T c body h0
  | _=>A9)
def tvS(c:Kx) (st:Stmt):DS:=match st with
 | .Try body hs oe fi _=>(match oe,fi with
  | [],[]=>tvH S T c body hs
  | _,_=>A9)
 | _=>xS S (ev S 99) c st
def rdT(tab:Tab) (cs:List (Str×D)) (bl:List Str) (T:Rg) (d:Fd):FnD:=L9 (evB (tvS ⟨tab,cs,bl⟩ T d.c) (F3 d.st)) d.N.length
def rdX(bl:List Str) (T:Rg) (d:Fd):Str->Option D:=bg5 (evB (zvS ⟨[],[],bl⟩ T d.c 9) (F3 d.st)) d.N.length
def rdR(tab:Tab) (cs:List (Str×D)) (bl:List Str) (T:Rg) (d:Fd):List D->Option Str:=v8 (rvB ⟨tab,cs,bl⟩ T true d.c (F3 d.st)) d.N.length
end
section
variable {S:Sg}{T:Rg}{c:Kx}{X:Cx}
theorem bo5(F:Fit S c X) (e:Expr):JE X e (fsP S c e):=by
 unfold fsP
 split
 ·split
  ·rename_i h
   simp only [beq_iff_eq]at h
   subst h
   split
   ·exact bw7 ((M8 S 99).e F _)
   ·exact B4
  ·exact B4
 ·exact ap2 _ _ _
 ·exact B4
theorem ax1(F:Fit S c X):∀es:List Expr,JEs X es (es.map (fsP S c))
 | []=>.nil
 | e::es=>.cons (bo5 F e) (ax1 F es)
theorem bj7(F:Fit S c X) (e:Expr):JE X e (msE S c e):=by
 unfold msE
 split
 ·exact bx0 (ax1 F _)
 ·exact(M8 S 99).e F e
theorem as0(F:FitR S T c X) {n:Nat}:∀{es:List Expr}{l:List (FnD×(List D->Option Str))},fnL S T c n es=some l->∃as:List Addr,Paired (aQ5 X) es as/\Paired (bz0 X n) as (l.map (·.1))/\Paired (by8 X n) as (l.map (·.2))/\as.length=es.length
 | [],l,h=>by cases h;exact⟨[],.nil,.nil,.nil,rfl⟩
 | e::es,l,h=>by
  unfold fnL at h
  split at h
  ·rename_i e0;cases e0
  ·rename_i x p es' e0
   cases e0
   split at h
   ·rename_i G m R m' h1 h2
    split at h
    ·rename_i hc
     simp only [Bool.and_eq_true,beq_iff_eq]at hc
     obtain⟨⟨hg,rfl⟩,rfl⟩:=hc
     obtain⟨r,h3,h4⟩:=Option.map_eq_some_iff.mp h
     subst h4
     obtain⟨as,p1,p2,p3,p4⟩:=as0 F h3
     obtain⟨g1,g2⟩:=M2 F.fit hg
     obtain⟨k,f,fd,ps,hk,hr,hm,hkp,hb⟩:=F.rfs _ _ _ h2
     rcases F.fit.fns _ _ _ h1 with⟨k',f',fd',ps',hk',hr',hm',hkp',hb'⟩|⟨z,_⟩
     ·rw [hm]at hm'
      cases hm'
      exact⟨f::as,.cons ⟨x,p,rfl,g1,hm,g2⟩ p1,.cons ⟨k',fd',ps',hk',hr',hkp',hb'⟩ p2,.cons ⟨k,fd,ps,hk,hr,hkp,hb⟩ p3,by rw [List.length_cons,List.length_cons,p4]⟩
     ·rw [hm]at z;cases z
    ·cases h
   ·cases h
  ·cases h
theorem aK0{f:Expr}{fs:List Expr}{i:Expr}(h:lsF f=some (fs,i)):∃p1 p2,f=.Subscript (.List fs p1) i p2:=by
 unfold lsF at h
 split at h
 ·split at h
  ·cases h;exact⟨_,_,rfl⟩
  ·cases h
 ·cases h
theorem bc5(F:FitR S T c X) (f a:Expr) (args:List Expr) (pos:Pos):JE X (.Call f (a::args) [] pos) (xvL S T c f a args):=by
 unfold xvL
 split
 ·rename_i fs i e
  obtain⟨p1,p2,rfl⟩:=aK0 e
  split
  ·rename_i hl
   split
   ·rename_i h
    simp only [Bool.and_eq_true,decide_eq_true_eq]at h
    obtain⟨⟨h1,h2⟩,hp⟩:=h
    obtain⟨as,q1,q2,_,q4⟩:=as0 F hl
    simp only [List.all_cons,Bool.and_eq_true]at hp
    exact aN0 q1 q2 ((M8 S 99).e F.fit _) (av3 h1) (by rw [q4];exact h2) (S5 ((M8 S 99).e F.fit) (_::_)) rfl (D3 hp.1 _ _) ((O9 pos _).trans (K8 pos _ hp.2))
   ·exact B4
  ·exact B4
 ·exact B4
theorem bc6(F:FitR S T c X) (e:Expr):JE X e (xvE S T c e):=by
 unfold xvE
 split
 ·split
  ·split
   ·exact bc5 F _ _ _ _
   ·exact B4
  ·exact(M8 S 99).e F.fit _
 ·exact(M8 S 99).e F.fit e
theorem bc4(F:FitR S T c X) (st:Stmt):JS X st (xvS S T c st):=by
 unfold xvS
 split
 ·split
  ·exact ai0 (bc6 F _)
  ·exact A7
 ·exact at7 (M8 S 99) F.fit st
theorem x6{m:Bool}{e:Expr}:PX X m e rNo:=fun ρ x ρ1 C q=>by cases q
theorem aq4{m:Bool}(F:FitR S T c X) (e:Expr):PX X m e (rvE S T c e):=by
 unfold rvE
 split
 ·rename_i f as kw pos
  split
  ·rename_i a args
   unfold bt4
   split
   ·rename_i fs i e
    obtain⟨p1,p2,rfl⟩:=aK0 e
    split
    ·rename_i hl
     split
     ·rename_i h
      simp only [Bool.and_eq_true,decide_eq_true_eq]at h
      obtain⟨⟨h1,h2⟩,hp⟩:=h
      obtain⟨as,q1,_,q3,q4⟩:=as0 F hl
      simp only [List.all_cons,Bool.and_eq_true]at hp
      exact aG9 F.fit.hx q1 q3 ((M8 S 99).e F.fit _) (av3 h1) (by rw [q4];exact h2) (S5 ((M8 S 99).e F.fit) (_::_)) rfl (D3 hp.1 _ _) ((O9 pos _).trans (K8 pos _ hp.2))
     ·exact x6
    ·exact x6
   ·unfold rvN
    split
    ·rename_i x p
     split
     ·rename_i R n hl
      split
      ·rename_i h
       simp only [Bool.and_eq_true,beq_iff_eq]at h
       obtain⟨⟨hg,hn⟩,hp⟩:=h
       obtain⟨g1,g2⟩:=M2 F.fit hg
       obtain⟨k,f,fd,ps,hk,hr,hm,hkp,hb⟩:=F.rfs _ _ _ hl
       simp only [List.all_cons,Bool.and_eq_true]at hp
       exact aS7 F.fit.hx hk hr g1 hm hkp hb (S5 ((M8 S 99).e F.fit) (a::args)) hn g2 (D3 hp.1 _ _) ((O9 pos _).trans (K8 pos _ hp.2))
      ·exact x6
     ·exact x6
    ·exact x6
  ·exact x6
 ·exact x6
theorem af7{m:Bool}{f:Stmt->RD}(F:FitR S T c X) (h:∀st,JR X m st (f st)):∀sts,JRs X m sts (rvL S f c sts)
 | []=>bl6
 | [s]=>aW9 (h s)
 | s::t::r=>aL0 F.fit.hx (h s) (at7 (M8 S 99) F.fit s) (af7 F h (t::r))
theorem bg4(F:FitR S T c X) (mk:Bool) (a b:Option Expr) (pos:Pos):JR X mk (.Raise a b pos) (rvR S T mk c a b):=by
 unfold rvR
 split
 ·split
  ·split
   ·rename_i x p
    split
    ·split
     ·rename_i h
      simp only [Bool.and_eq_true]at h
      obtain⟨⟨⟨rfl,hc⟩,hg⟩,hp⟩:=h
      obtain⟨g1,g2⟩:=M2 F.fit hg
      exact aL1 F.fit.hx (F.cls x hc) g1 (fun C=>F.ns x C) F.fit.calm (bj7 F.fit _) g2 (D3 hp [] _)
     ·exact Q7
    ·exact Q7
   ·exact Q7
  ·exact Q7
 ·exact Q7
theorem aq3(F:FitR S T c X) (mk:Bool) (hlo:mk=true->bq3 X):∀(n:Nat) (st:Stmt),JR X mk st (rvS S T mk n c st)
 | 0,st=>Q7
 | n+1,st=>by
  unfold rvS
  split
  ·exact bg4 F mk _ _ _
  ·exact bw4 F.fit.hx ((M8 S 99).t F.fit _) (af7 F (aq3 F mk hlo n) _) (af7 F (aq3 F mk hlo n) _)
  ·unfold rvX
   split
   ·exact aX0 (aq4 F _) rfl
   ·exact Q7
  ·split
   ·exact bl8 (aq4 F _)
   ·exact Q7
  ·unfold rvA
   split
   ·split
    ·unfold rvX
     split
     ·exact bl7 (aq4 F _) rfl
     ·exact Q7
    ·exact Q7
   ·exact Q7
  ·exact Q7
theorem aG5(F:FitR S T c X) (mk:Bool) (hlo:mk=true->bq3 X) (sts:List Stmt):JRs X mk sts (rvB S T mk c sts):=af7 F (aq3 F mk hlo 9) sts
abbrev Cx.quiet(X:Cx):Cx:={ X with calm:=true }
abbrev aZ9(T:Rg) (X:Cx):Prop:=(∀x C,clA X.K x=some C->X.mg x=some (.ref C))/\∀y l,T.tb.lookup y=some l->(∃D,clA X.K y=some D/\d9 X.K (.ref D) fun x=>l.lookup x)\/(y = "ValueError" /\ X.mg y=none/\d9 X.K (.type "ValueError") fun x=>l.lookup x)
theorem bc3(F:Fit S c (Cx.quiet X)) (tb:aZ9 T X) (w:Str) (a b:Expr) (p pos:Pos):JE X (.Call (.Name w p) [a,b] [] pos) (zvI S T c w a b):=by
 unfold zvI
 split
 ·split
  ·rename_i x p1 y p2
   split
   ·rename_i h
    simp only [Bool.and_eq_true]at h
    obtain⟨rfl,h1,h2⟩:=F0 F h.1.1
    obtain⟨v1,v2,v3⟩:=P4 F h.1.2
    obtain⟨g1,g2⟩:=M2 F h.2
    split
    ·rename_i i l hi hl
     rcases tb.2 y l hl with⟨D,hD,ok⟩|⟨rfl,hm,ok⟩
     ·exact aM3 (X:=X) (v:=.ref D) h1 h2 (F.slot hi) v1 v2 v3 (aU2 g1 (tb.1 y D hD) g2) rfl (fun u r=>r) ok
     ·exact aM3 (X:=X) (v:=.ty "ValueError") h1 h2 (F.slot hi) v1 v2 v3 (av8 (v:=.ty "ValueError") g1 hm (by decide +kernel) rfl (by decide) g2) rfl (fun u r=>r) ok
    ·exact B4
   ·exact B4
  ·exact B4
 ·exact B4
theorem V2(F:Fit S c (Cx.quiet X)) (tb:aZ9 T X):∀(n:Nat) (ex:Expr),JE X ex (zvE S T c n ex)
 | 0,ex=>B4
 | n+1,ex=>by
  have hu:X.A.units+64 < cLine:=F.units
  have R:=V2 F tb n
  unfold zvE
  split
  ·split
   ·split
    ·split
     ·exact bc3 F tb _ _ _ _ _
     ·exact B4
    ·split
     ·split
      ·rename_i h
       simp only [Bool.and_eq_true,beq_iff_eq]at h
       obtain⟨⟨⟨hm,hn⟩,hl⟩,hp⟩:=h
       subst hm
       have hs:=D3 hp [] X.env
       exact aM6 hu (R _) (R _) (R7 hn _ _ _) (by rw [hs];rfl) (by simpa using hl) hs
      ·split
       ·rename_i h
        simp only [Bool.and_eq_true,beq_iff_eq]at h
        obtain⟨⟨⟨hm,hn⟩,hl⟩,hp⟩:=h
        subst hm
        have hs:=D3 hp [] X.env
        exact aC6 hu (R _) (R _) (R7 hn _ _ _) (by rw [hs];rfl) (by simpa using hl) hs
       ·exact B4
     ·exact B4
    ·exact B4
   ·exact B4
  ·exact ap2 _ _ _
  ·split
   ·rename_i i hi
    split
    ·rename_i v;obtain⟨h1,h2,h3⟩:=P4 F v;exact aL7 (X:=X) i (F.slot hi) h1 h2 h3
    ·exact B4
   ·exact B4
  ·split
   ·rename_i h;exact aL9 (S5 R _) h
   ·exact B4
  ·split
   ·rename_i h;exact Y6 (aL4 (S5 R _) h)
   ·exact B4
  ·split
   ·exact ar4 (R _)
   ·exact aM1 (R _)
   ·exact B4
  ·split
   ·exact O0 aw4 (R _) (R _)
   ·exact B4
  ·split
   ·split
    ·rename_i h;exact aM7 (Q1 hu _) (R _) (R _) (T8 h _)
    ·exact B4
   ·exact B4
  ·exact o8 R _ _ _
  ·exact B4
theorem ao9(F:Fit S c (Cx.quiet X)) (tb:aZ9 T X):∀(n:Nat) (ex:Expr),JT X ex (zvT S T c n ex)
 | 0,ex=>S4
 | n+1,ex=>by
  have hu:X.A.units+64 < cLine:=F.units
  unfold zvT
  split
  ·split
   ·split
    ·rename_i h;exact aK5 (Q1 hu _) (V2 F tb 9 _) (V2 F tb 9 _) (T8 h _)
    ·exact S4
   ·exact S4
  ·exact am7 (o7 (ao9 F tb n) _ _ _)
  ·split
   ·exact aK4 (ao9 F tb n _)
   ·exact S4
  ·split
   ·rename_i h;exact aK3 (V2 F tb 9 _) (al2 h _)
   ·exact S4
theorem aE6(F:Fit S c (Cx.quiet X)) {d:DE}{v:Expr}(h:JE X v d) (ts:List Expr) (pos:Pos):JS X (.Assign ts v pos) (zvA c d v ts):=by
 have nd:X.N.Nodup:=by have:X.N=c.N:=F.N;rw [this];exact F.nd
 unfold zvA
 split
 ·split
  ·split
   ·rename_i i hi
    split
    ·rename_i hc
     simp only [Bool.and_eq_true,Bool.not_eq_true']at hc
     obtain⟨l1,l2⟩:=ah7 F hc.1
     exact ar2 (X:=X) i nd h (F.slot hi) l1 (Y4 hc.2 _ _ _) l2
    ·exact A7
   ·exact A7
  ·exact A7
 ·exact A7
theorem ap0(F:Fit S c (Cx.quiet X)) (tb:aZ9 T X):∀(n:Nat) (st:Stmt),JS X st (zvS S T c n st)
 | 0,st=>A7
 | n+1,st=>by
  unfold zvS
  split
  ·exact aE6 F (V2 F tb 9 _) _ _
  ·exact bb3 (ao9 F tb 9 _) (S6 (ap0 F tb n) _) (S6 (ap0 F tb n) _)
  ·split
   ·exact ai0 (V2 F tb 9 _)
   ·exact A7
  ·exact A7
theorem FitR.hf(F:FitR S T c X) (a:Addr):Fit ⟨[],[],S.bl⟩ c (Cx.quiet (Cx.held X (.ref a))) :=
 ⟨F.fit.N,F.fit.sc,F.fit.nd,rfl,F.fit.xe,F.fit.units,F.fit.df,(fun x F n h=>nomatch h),(fun x d h=>nomatch h),F.fit.bls⟩
theorem bo1(F:FitR S T c X) (a:Addr) (ex:Expr) {d:DE}(h:hvX T c ex=some d):JE (Cx.held X (.ref a)) ex d:=by
 unfold hvX at h
 split at h
 ·split at h
  ·split at h
   ·split at h
    ·split at h
     ·rename_i G i hl hi
      split at h
      ·rename_i hc
       cases h
       simp only [Bool.and_eq_true]at hc
       obtain⟨g1,g2⟩:=M2 F.fit hc.1
       obtain⟨v1,v2,v3⟩:=P4 F.fit hc.2
       obtain⟨k,fa,fd,ps,hk,hr,hm,hkp,hb⟩:=F.xfs _ _ hl
       exact aM9 (X:=Cx.held X (.ref a)) hk ⟨hr.dp,hr.un⟩ g1 hm hkp hb (F.fit.slot hi) v1 v2 v3 g2
      ·cases h
     ·cases h
    ·cases h
   ·cases h
  ·cases h
 ·cases h
theorem aN9(F:FitR S T c X) (a:Addr) (ex:Expr):JE (Cx.held X (.ref a)) ex (hvE S T c ex):=by
 unfold hvE
 split
 ·rename_i h;exact bo1 F a ex h
 ·exact V2 (F.hf a) ⟨F.ns,F.tbs⟩ 9 ex
theorem bo2(F:FitR S T c X) (a:Addr) (st:Stmt):JS (Cx.held X (.ref a)) st (hvS S T c st):=by
 unfold hvS
 split
 ·exact aE6 (F.hf a) (aN9 F a _) _ _
 ·split
  ·exact ai0 (aN9 F a _)
  ·exact A7
 ·exact A7
theorem aV0{m:Bool}{sts:List Stmt}{r:RD}{l:List Str}(h:JRs X m sts r):JRs X m sts (X8 l r):=fun ρ x ρ1 C q=>by
 unfold X8 at q
 split at q
 ·rename_i x' ρ' e
  split at q
  ·cases q;exact h ρ x ρ1 C e
  ·cases q
 ·cases q
theorem aV1{r:RD}{l:List Str}{ρ ρ1:Rho}{x:Str}(h:X8 l r ρ=some (x,ρ1)):x∈l:=by
 unfold X8 at h
 split at h
 ·split at h
  ·rename_i c;cases h;exact List.contains_iff_mem.mp c
  ·cases h
 ·cases h
theorem bo3{h:ExceptHandler}{y:Str}{nm:Option Str}{b0:Stmt}{suite:List Stmt}(e:hnd h=some (y,nm,b0,suite)):∃np hp,h=.ExceptHandler (some (.Name y np)) nm (b0::suite) hp:=by
 unfold hnd at e
 split at e
 split at e
 ·split at e
  ·split at e
   ·cases e;exact⟨_,_,rfl⟩
   ·cases e
  ·cases e
 ·cases e
theorem be1(F:FitR S T c X) (hex:X.ex=[]) (hst:X.stack=X.env::X.outer) (hfr:X.env.frame=some X.env.locals) (body:List Stmt) (h:ExceptHandler) (pos:Pos):JS X (.Try body [h] [] [] pos) (tvA S T c body h):=by
 unfold tvA
 split
 ·rename_i y n b0 suite e
  obtain⟨np,hp,rfl⟩:=bo3 e
  split
  ·rename_i l i hl hi
   split
   ·rename_i h
    simp only [Bool.and_eq_true,beq_iff_eq]at h
    obtain⟨g1,g2⟩:=M2 F.fit h.1
    obtain⟨c1,c2⟩:=F.sbs y l hl
    exact aW4 F.fit.hx hex hst hfr (S6 (bc4 F) body) (aV0 (aG5 F false (fun z=>by cases z) body)) g1 (fun D hD=>F.ns y D hD) g2 c1 (fun ρ x ρ1 e=>c2 x (aV1 e)) (by rw [F.fit.N];exact F.fit.nd) (F.fit.slot hi) (by rw [F.fit.sc];exact h.2) fun a=>S6 (bo2 F a) (b0::suite)
   ·exact A7
  ·exact A7
 ·exact A7
theorem be0(F:FitR S T c X) (hex:X.ex=[]) (hst:X.stack=X.env::X.outer) (hfr:X.env.frame=some X.env.locals) (st:Stmt):JS X st (tvS S T c st):=by
 unfold tvS
 split
 ·split
  ·unfold tvH
   split
   ·exact A7
   ·split
    ·exact be1 F hex hst hfr _ _ _
    ·exact A7
  ·exact A7
 ·exact at7 (M8 S 99) F.fit st
end
section
variable {P:Program}{w:World}{K:PySem.W.Frag}{mg:Str->Option Value}{base:Heap}{cs:List (Str×D)}{bl:List Str}
def TRk(P:Program) (w:World) (K:PySem.W.Frag) (mg:Str->Option Value) (base:Heap) (k:Nat) (rt:aj5):Prop:=∀x R n,rt.lookup x=some (R,n)->∃(f:Addr) (fd:FuncData) (ps:List Str),
 FnOk P w K mg base (CX1 P w) k f fd ps (spR K n R)/\mg x=some (.ref f)/\PySem.W.keepIn K (.ref f)=true/\J9 K fd ps []
theorem TRk.nil:TRk P w K mg base 0 []:=fun x R n h=>by cases h
theorem TRk.mono{j k:Nat}{rt:aj5}(T:TRk P w K mg base j rt) (h:j<=k):TRk P w K mg base k rt:=fun x R n e =>
 let⟨f,fd,ps,h1,h2,h3,h4⟩:=T x R n e
 ⟨f,fd,ps,h1.mono h,h2,h3,h4⟩
theorem TRk.cons{k:Nat}{rt:aj5}{x:Str}{R:List D->Option Str}{n:Nat}(T:TRk P w K mg base k rt) (h:∃(f:Addr) (fd:FuncData) (ps:List Str),FnOk P w K mg base (CX1 P w) k f fd ps (spR K n R)/\mg x=some (.ref f)/\PySem.W.keepIn K (.ref f)=true/\J9 K fd ps []) :
  TRk P w K mg base k ((x,R,n)::rt):=fun y G m e=>by
 rw [List.lookup_cons]at e
 split at e
 ·rename_i q
  cases e
  simp only [beq_iff_eq]at q
  subst q
  exact h
 ·exact T y G m e
structure Cl (K:PySem.W.Frag) (mg:Str->Option Value) (T:Rg):Prop where
 cls:∀x,T.cl.contains x=true->P2 K x=true
 tbs:∀y l,T.tb.lookup y=some l->(∃D,clA K y=some D/\d9 K (.ref D) fun x=>l.lookup x)\/(y = "ValueError" /\ mg y=none/\d9 K (.type "ValueError") fun x=>l.lookup x)
 sbs:∀y l,T.sb.lookup y=some l->P2 K y=true/\∀x∈l,P2 K x=true/\aF9 K x y=true
 nbs:∀y l,T.nb.lookup y=some l->∀x∈l,P2 K x=true/\bf8 K x y=true
theorem as7{x:Str}{C:Addr}(M:Md K mg cs bl) (h:clA K x=some C):mg x=some (.ref C):=by
 unfold clA at h
 split at h
 ·rename_i C' e;cases h;exact M.ns _ _ e
 ·cases h
def TXk(P:Program) (w:World) (K:PySem.W.Frag) (mg:Str->Option Value) (base:Heap) (k:Nat) (xt:ao6):Prop:=∀x F,xt.lookup x=some F->∃(f:Addr) (fd:FuncData) (ps:List Str),
 FnQ P w K mg base k f fd ps (spX K F)/\mg x=some (.ref f)/\PySem.W.keepIn K (.ref f)=true/\J9 K fd ps []
theorem TXk.nil:TXk P w K mg base 0 []:=fun x R h=>by cases h
theorem TXk.mono{j k:Nat}{xt:ao6}(T:TXk P w K mg base j xt) (h:j<=k):TXk P w K mg base k xt:=fun x F e =>
 let⟨f,fd,ps,h1,h2,h3,h4⟩:=T x F e
 ⟨f,fd,ps,h1.mono h,h2,h3,h4⟩
theorem TXk.cons{k:Nat}{xt:ao6}{x:Str}{F:Str->Option D}(T:TXk P w K mg base k xt) (h:∃(f:Addr) (fd:FuncData) (ps:List Str),FnQ P w K mg base k f fd ps (spX K F)/\mg x=some (.ref f)/\PySem.W.keepIn K (.ref f)=true/\J9 K fd ps []) :
  TXk P w K mg base k ((x,F)::xt):=fun y G e=>by
 rw [List.lookup_cons]at e
 split at e
 ·rename_i q
  cases e
  simp only [beq_iff_eq]at q
  subst q
  exact h
 ·exact T y G e
theorem bo7{k:Nat}{T:Rg}{d:Fd}{f:Addr}{fd:FuncData}(M:Md K mg cs bl) (Ck:Cl K mg T) (ok:d.okB=true) (hp:d.ps.length=1) (Fn:Fun K d.x d.x d.st f fd):FnQ P w K mg base (k+1) f fd d.ps (spX K (rdX bl T d)):=by
 have Sc:=Fd.sc ok
 refine aO7 (N:=d.N) Fn Sc hp fun cdv A outer s H hr=>S6 (ap0 (S:=⟨[],[],bl⟩) (c:=d.c) ?_ ⟨fun x C h=>as7 M h,Ck.tbs⟩ 9) _
 exact⟨rfl,rfl,Sc.nd,rfl,rfl,by have:=hr.un;show(A.deeper _).units+64 < _;omega,fun _=>⟨fun _=>rfl,Sc.kind⟩,(fun x F n h=>nomatch h),(fun x d h=>nomatch h),M.bls⟩
theorem bo9{k:Nat}{tab:Tab}{T:Rg}{d:Fd}{f:Addr}{fd:FuncData}(M:Md K mg cs bl) (Tk:TOk P w K mg base k tab) (Rk:TRk P w K mg base k T.rf) (Xk:TXk P w K mg base k T.xf) (Ck:Cl K mg T) (ok:d.okB=true) (Fn:Fun K d.x d.x d.st f fd):FnOk P w K mg base (CX1 P w) (k+1) f fd d.ps (spR K d.ps.length (rdR tab cs bl T d)):=by
 have Sc:=Fd.sc ok
 refine aO8 (N:=d.N) Fn Sc fun cdv A outer s H E hr=>aG5 (c:=d.c) ⟨?_,fun x C h=>as7 M h,fun x R n h=>?_,Ck.cls,Ck.tbs,Ck.sbs,Ck.nbs,fun x F h=>?_⟩ true (fun _=>bj8) _
 ·refine⟨rfl,rfl,Sc.nd,rfl,rfl,hr.units,fun _=>⟨fun _=>rfl,Sc.kind⟩,fun x F n h=>?_,M.css,M.bls⟩
  exact(Tk x F n h).imp (fun⟨f',fd',ps,h1,h2,h3,h4⟩=>⟨k,f',fd',ps,h1,hr,h2,h3,h4⟩) id
 ·obtain⟨f',fd',ps,h1,h2,h3,h4⟩:=Rk x R n h
  exact⟨k,f',fd',ps,h1,hr,h2,h3,h4⟩
 ·obtain⟨f',fd',ps,h1,h2,h3,h4⟩:=Xk x F h
  exact⟨k,f',fd',ps,h1,⟨hr.dp,hr.un⟩,h2,h3,h4⟩
theorem bo8{k:Nat}{tab:Tab}{T:Rg}{d:Fd}{f:Addr}{fd:FuncData}(M:Md K mg cs bl) (Tk:TOk P w K mg base k tab) (Rk:TRk P w K mg base k T.rf) (Xk:TXk P w K mg base k T.xf) (Ck:Cl K mg T) (ok:d.okB=true) (Fn:Fun K d.x d.x d.st f fd):FnOk P w K mg base CX0 (k+1) f fd d.ps (spF K d.ps.length (rdT tab cs bl T d)):=by
 have Sc:=Fd.sc ok
 refine ax9 (N:=d.N) Fn Sc fun cdv A outer s H E hr=>S6 (fun st=>be0 (c:=d.c) ⟨?_,fun x C h=>as7 M h,fun x R n h=>?_,Ck.cls,Ck.tbs,Ck.sbs,Ck.nbs,fun x F h=>?_⟩ rfl rfl rfl st) _
 ·refine⟨rfl,rfl,Sc.nd,rfl,rfl,hr.units,fun _=>⟨fun _=>rfl,Sc.kind⟩,fun x F n h=>?_,M.css,M.bls⟩
  exact(Tk x F n h).imp (fun⟨f',fd',ps,h1,h2,h3,h4⟩=>⟨k,f',fd',ps,h1,hr,h2,h3,h4⟩) id
 ·obtain⟨f',fd',ps,h1,h2,h3,h4⟩:=Rk x R n h
  exact⟨k,f',fd',ps,h1,hr,h2,h3,h4⟩
 ·obtain⟨f',fd',ps,h1,h2,h3,h4⟩:=Xk x F h
  exact⟨k,f',fd',ps,h1,⟨hr.dp,hr.un⟩,h2,h3,h4⟩
end
def aY3(K:PySem.W.Frag) (cv:Value) (p:Str×Bool):Bool:=match clA K p.1 with
 | some C=>xcB K C&&PySem.W.excIn K C veB "ValueError.__new__" && PySem.W.kitOne K (.ref C) cv==some p.2
 | none=>false
def clB(K:PySem.W.Frag) (cl:List Str) (tb:List (Str×List (Str×Bool))) (sb nb:List (Str×List Str)):Bool :=
 cl.all (P2 K)&&tb.all (fun p=>match clA K p.1 with
  | some D=>p.2.all (aY3 K (.ref D))
  | none=>p.1 == "ValueError" && p.2.all (aY3 K (.type "ValueError")))&&(sb.all fun p=>P2 K p.1&&p.2.all fun x=>P2 K x&&aF9 K x p.1)&&nb.all fun p=>p.2.all fun x=>P2 K x&&bf8 K x p.1
theorem M7{α:Type}{x:Str}{a:α}:∀{l:List (Str×α)},l.lookup x=some a->(x,a)∈l
 | [],h=>by cases h
 | (y,b)::l,h=>by
  rw [List.lookup_cons]at h
  split at h
  ·rename_i q
   simp only [beq_iff_eq]at q
   cases h;subst q;exact List.mem_cons_self ..
  ·exact List.mem_cons_of_mem _ (M7 h)
theorem aN4{K:PySem.W.Frag}{cv:Value}{l:List (Str×Bool)}(h:l.all (aY3 K cv)=true):d9 K cv fun x=>l.lookup x:=fun x b e=>by
 have:=List.all_eq_true.mp h _ (M7 e)
 unfold aY3 at this
 split at this
 ·rename_i C hC
  simp only [Bool.and_eq_true,beq_iff_eq]at this
  exact⟨C,hC,this.1.1,this.1.2,this.2⟩
 ·cases this
section
variable {P:Program}{w:World}{K:PySem.W.Frag}{mg:Str->Option Value}{base:Heap}{cs:List (Str×D)}{bl:List Str}
theorem Cl.of{T:Rg}(M:Md K mg cs bl) (hv:bl.contains "ValueError" = true) (h:clB K T.cl T.tb T.sb T.nb=true):Cl K mg T:=by
 simp only [clB,Bool.and_eq_true]at h
 obtain⟨⟨⟨h1,h2⟩,h3⟩,h4⟩:=h
 refine⟨fun x hx=>List.all_eq_true.mp h1 x (List.contains_iff_mem.mp hx),fun y l e=>?_,fun y l e=>?_,fun y l e=>?_⟩
 ·have:=List.all_eq_true.mp h2 _ (M7 e)
  dsimp only at this
  split at this
  ·rename_i D hD;exact .inl ⟨D,hD,aN4 this⟩
  ·simp only [Bool.and_eq_true,beq_iff_eq]at this
   exact .inr ⟨this.1,by rw [this.1];exact M.bls _ hv,aN4 this.2⟩
 ·have:=List.all_eq_true.mp h3 _ (M7 e)
  simp only [Bool.and_eq_true,List.all_eq_true]at this
  exact this
 ·have:=List.all_eq_true.mp h4 _ (M7 e)
  simp only [Bool.and_eq_true,List.all_eq_true]at this
  exact this
theorem TRk.add{k n:Nat}{tab:Tab}{T:Rg}{R:List D->Option Str}(Rk:TRk P w K mg base k T.rf) (Tk:TOk P w K mg base k tab) (Xk:TXk P w K mg base k T.xf) (M:Md K mg cs bl) (Ck:Cl K mg T) (d:Fd) (h:KF K d.x d.st) (bd:Bd d) (ok:d.okB=true) (hn:d.ps.length=n) (e:rdR tab cs bl T d=R):TRk P w K mg base (k+1) ((d.x,R,n)::T.rf):=by
 subst hn e
 obtain⟨f,kV,dc,pm,an,cd,ct,Fn,hm⟩:=z8 h M
 exact(Rk.mono (Nat.le_succ k)).cons ⟨f,_,d.ps,bo9 M Tk Rk Xk Ck ok Fn,hm,Fn.kp,.all (bd kV dc pm an cd ct)⟩
theorem TOk.addT{k n:Nat}{tab:Tab}{T:Rg}{F:FnD}(Tk:TOk P w K mg base k tab) (Rk:TRk P w K mg base k T.rf) (Xk:TXk P w K mg base k T.xf) (M:Md K mg cs bl) (Ck:Cl K mg T) (d:Fd) (h:KF K d.x d.st) (bd:Bd d) (ok:d.okB=true) (hn:d.ps.length=n) (e:rdT tab cs bl T d=F):TOk P w K mg base (k+1) ((d.x,F,n)::tab):=by
 subst hn e
 obtain⟨f,kV,dc,pm,an,cd,ct,Fn,hm⟩:=z8 h M
 exact(Tk.mono (Nat.le_succ k)).cons ⟨f,_,d.ps,bo8 M Tk Rk Xk Ck ok Fn,hm,Fn.kp,.all (bd kV dc pm an cd ct)⟩
theorem TXk.add{k:Nat}{T:Rg}{xt:ao6}{F:Str->Option D}(Xk:TXk P w K mg base k xt) (M:Md K mg cs bl) (Ck:Cl K mg T) (d:Fd) (h:KF K d.x d.st) (bd:Bd d) (ok:d.okB=true) (hp:d.ps.length=1) (e:rdX bl T d=F):TXk P w K mg base (k+1) ((d.x,F)::xt):=by
 subst e
 obtain⟨f,kV,dc,pm,an,cd,ct,Fn,hm⟩:=z8 h M
 exact(Xk.mono (Nat.le_succ k)).cons ⟨f,_,d.ps,bo7 M Ck ok hp Fn,hm,Fn.kp,.all (bd kV dc pm an cd ct)⟩
end
end G
namespace Lk14
open PySem PySem.Spec PyProof.Rows L2 G Sh
def top(i:Nat):Stmt:=PySem.Challenge.pw_glazework_k14_put_together.main.body.getD i (.Pass ⟨0,0,0,0⟩)
abbrev l4:Stmt:=top 7
abbrev l6:Stmt:=top 8
abbrev N1:Stmt:=top 9
abbrev ac3:Stmt:=top 10
abbrev U9:Stmt:=top 12
abbrev X3:Stmt:=top 13
abbrev l0:Stmt:=top 14
abbrev au6:Stmt:=top 15
abbrev ak6:Stmt:=top 17
abbrev ac7:Stmt:=top 18
abbrev ak5:Stmt:=top 19
abbrev ac4:Stmt:=top 20
abbrev ac6:Stmt:=top 21
abbrev ak3:Stmt:=top 22
abbrev ac5:Stmt:=top 23
abbrev au5:Stmt:=top 24
abbrev l5:Stmt:=top 25
abbrev ak2:Stmt:=top 26
abbrev ak4:Stmt:=top 27
abbrev aG3:Stmt:=top 28
abbrev ba4:Stmt:=top 29
def O2:DS:=(C8 (L6 (tB2 ltI (A1 2) (dIx (A6 0) (dC (.int 0)))) (A5 K9 (A0 (A1 0) (A0 (A1 2) (A0 (A1 3) A3)))) (A5 K9 (A0 (A1 1) (A0 (A4 aF8 (A1 2) (dIx (A6 0) (dC (.int 0)))) (A0 (A1 3) A3))))))
def J3:List D->Option D:=L9 O2 4
def e7:DS:=(B1 (B6 2 (A4 E9 (dIx (A6 0) (dC (.int 0))) (dIx (A6 1) (dC (.int 0))))) (B1 (B6 3 (dIx (A6 0) (dC (.int 1)))) (B1 (sIf (G4 (tB2 neD (A1 3) (dIx (A6 1) (dC (.int 1)))) (tB2 gtI (A1 2) (dC (.int 8)))) A9 E1) (C8 (C9 (A0 (A1 2) (A0 (A1 3) (A0 (G3 (qN (D7 2 [0,1] (J0 (A5 G7 (A0 (A1 2) (A0 (A1 3) A3)))) (F2 2 (B7 (C0 0) (B7 (C0 1) F8))) D2 (A5 J3 (A0 (A1 2) (A0 (A1 3) (A0 (A1 0) (A0 (A1 1) A3)))))))) A3))))))))
def G8:List D->Option D:=L9 e7 4
def D8:List D->Option Str:=v8 (Q8 rNo (B6 2 (A4 E9 (dIx (A6 0) (dC (.int 0))) (dIx (A6 1) (dC (.int 0))))) (Q8 rNo (B6 3 (dIx (A6 0) (dC (.int 1)))) (Q8 (rIf (G4 (tB2 neD (A1 3) (dIx (A6 1) (dC (.int 1)))) (tB2 gtI (A1 2) (dC (.int 8)))) (R5 "NoMerge" (dC (.str "the sheets are not as high, or too wide together"))) rNo) (sIf (G4 (tB2 neD (A1 3) (dIx (A6 1) (dC (.int 1)))) (tB2 gtI (A1 2) (dC (.int 8)))) A9 E1) rNo))) 4
def m7:DS:=(B1 (B6 2 (dIx (A6 0) (dC (.int 0)))) (B1 (B6 3 (A4 E9 (dIx (A6 0) (dC (.int 1))) (dIx (A6 1) (dC (.int 1))))) (B1 (sIf (G4 (tB2 neD (A1 2) (dIx (A6 1) (dC (.int 0)))) (tB2 gtI (A1 3) (dC (.int 8)))) A9 E1) (C8 (C9 (A0 (A1 2) (A0 (A1 3) (A0 (A4 E9 (dIx (A6 0) (dC (.int 2))) (dIx (A6 1) (dC (.int 2)))) A3))))))))
def J7:List D->Option D:=L9 m7 4
def E6:List D->Option Str:=v8 (Q8 rNo (B6 2 (dIx (A6 0) (dC (.int 0)))) (Q8 rNo (B6 3 (A4 E9 (dIx (A6 0) (dC (.int 1))) (dIx (A6 1) (dC (.int 1))))) (Q8 (rIf (G4 (tB2 neD (A1 2) (dIx (A6 1) (dC (.int 0)))) (tB2 gtI (A1 3) (dC (.int 8)))) (R5 "NoMerge" (dC (.str "the sheets are not as wide, or too high together"))) rNo) (sIf (G4 (tB2 neD (A1 2) (dIx (A6 1) (dC (.int 0)))) (tB2 gtI (A1 3) (dC (.int 8)))) A9 E1) rNo))) 4
def az0:DS:=(B1 (B6 2 (A4 D6 (dIx (A6 0) (dC (.int 0))) (A1 1))) (B1 (B6 3 (A4 D6 (dIx (A6 0) (dC (.int 1))) (A1 1))) (B1 (sIf (G4 (tB2 ltI (A1 1) (dC (.int 1))) (G4 (tB2 gtI (A1 2) (dC (.int 8))) (tB2 gtI (A1 3) (dC (.int 8))))) A9 E1) (C8 (C9 (A0 (A1 2) (A0 (A1 3) (A0 (G3 (qN (D7 2 [0,1] (J0 (A5 G7 (A0 (A1 2) (A0 (A1 3) A3)))) (F2 2 (B7 (C0 0) (B7 (C0 1) F8))) D2 (A5 K9 (A0 (A1 2) (A0 (A4 R0 (A1 0) (A1 3)) (A0 (A4 R0 (A1 1) (A1 3)) A3))))))) A3))))))))
def U1:List D->Option D:=L9 az0 4
def L0:List D->Option Str:=v8 (Q8 rNo (B6 2 (A4 D6 (dIx (A6 0) (dC (.int 0))) (A1 1))) (Q8 rNo (B6 3 (A4 D6 (dIx (A6 0) (dC (.int 1))) (A1 1))) (Q8 (rIf (G4 (tB2 ltI (A1 1) (dC (.int 1))) (G4 (tB2 gtI (A1 2) (dC (.int 8))) (tB2 gtI (A1 3) (dC (.int 8))))) (R5 "NoMerge" (dC (.str "the sheet can not grow so"))) rNo) (sIf (G4 (tB2 ltI (A1 1) (dC (.int 1))) (G4 (tB2 gtI (A1 2) (dC (.int 8))) (tB2 gtI (A1 3) (dC (.int 8))))) A9 E1) rNo))) 4
def ay9:DS:=(C8 (A5 J8 (A0 (A1 0) (A0 (A4 E9 (A1 1) (dC (.int 2))) (A0 (A4 E9 (dC (.int 1)) (A5 D5 (A0 (A1 0) (A0 (A1 1) (A0 (dC (.int 3)) A3))))) (A0 (A4 E9 (dC (.int 1)) (A5 D5 (A0 (A1 0) (A0 (A4 E9 (A1 1) (dC (.int 1))) (A0 (dC (.int 3)) A3))))) A3))))))
def M4:List D->Option D:=L9 ay9 2
def E5:Str->Option D:=bg5 (B1 (B6 1 (E2 (A0 (aD7 0 fun x=>([("NoMerge", true)]:List (Str×Bool)).lookup x) (A0 (aD7 0 fun x=>([("NoMerge", false)]:List (Str×Bool)).lookup x) A3)))) (B1 (sIf (G4 (tB2 neD (as5 (A1 1) (dC (.bool true))) (dC (.int 1))) (K0 (P6 (aD7 0 fun x=>([("NoMerge", true)]:List (Str×Bool)).lookup x)))) (C8 (C9 (A0 (dC (.str "refused")) (A0 (ao0 (dC (.int 1))) A3)))) E1) (C8 (C9 (A0 (dC (.str "refused")) (A0 (ai7 (A1 1) (dC (.bool true))) A3)))))) 2
def aa9:DS:=(ac8 (X8 ["NoMerge"] (x5 [D8,E6,L0] (A1 0) (A0 (A1 1) (A0 (A1 2) A3)))) (C8 (ai8 [G8,J7,U1] (A1 0) (A0 (A1 1) (A0 (A1 2) A3)))) 3 (C8 (W2 3 E5)))
def B8:List D->Option D:=L9 aa9 4
def ao8:DS:=(B1 (P9 (A1 0) (F2 3 (B7 (C0 1) (B7 (C0 2) (B7 (C0 3) F8))))) (C8 (E2 (D7 1 [3,1] (G2 (A1 2)) (C0 0) D2 (E2 (fun ρ=>((qE (U5 (A1 1) (E7 (A4 D6 (A1 0) (A1 2))) (E7 (A4 E9 (A4 D6 (A1 0) (A1 2)) (A1 2))))) ρ).map fun q=>q.2))))))
def P1:List D->Option D:=L9 ao8 4
def aQ6:DS:=(B1 (B6 1 (E2 A3)) (B1 (X5 (J0 (A1 0)) (C0 2) (B6 1 (A4 E9 (A1 1) (A1 2)))) (C8 (C9 (A0 (M3 (qE (dIx (A6 0) (dC (.int 0))))) (A0 (M3 (A6 0)) (A0 (G3 (A6 1)) A3)))))))
def G0:List D->Option D:=L9 aQ6 3
def aq0:DS:=(X4 1 2 (A0 (A5 M4 (A0 (A1 0) (A0 (dC (.int 0)) A3))) (A0 (A5 M4 (A0 (A1 0) (A0 (dC (.int 150)) A3))) A3)))
def V3:DS:=(sIf (tB2 eqD (A5 D5 (A0 (A1 0) (A0 (dC (.int 300)) (A0 (dC (.int 2)) A3)))) (dC (.int 0))) (B6 2 (L6 (tB2 neD (dIx (A6 1) (dC (.int 1))) (dIx (A6 2) (dC (.int 1)))) (A5 J8 (A0 (A1 0) (A0 (dC (.int 150)) (A0 (dIx (A6 1) (dC (.int 0))) (A0 (dIx (A6 2) (dC (.int 1))) A3))))) (A1 2))) E1)
def af5:DS:=(X4 3 4 (A0 (A5 P1 (A0 (A1 1) A3)) (A0 (A5 P1 (A0 (A1 2) A3)) A3)))
def ap9:DS:=(B6 5 (C9 (A0 (dC (.str "refused")) (A0 (dC (.int 0)) A3))))
def u6:DS:=(sIf (tB2 eqD (dIx (A6 1) (dC (.int 1))) (dIx (A6 2) (dC (.int 1)))) (B6 5 (A5 G0 (A0 (E2 (D7 2 [] (Y8 (qE (A1 3)) (qE (A1 4))) (F2 2 (B7 (C0 0) (B7 (C0 1) F8))) D2 (A4 E9 (A1 0) (A1 1)))) A3))) E1)
def af4:DS:=(sIf (tB2 neD (A5 B8 (A0 (dC (.int 0)) (A0 (A1 1) (A0 (A1 2) A3)))) (A1 5)) (C8 (dC (.bool false))) E1)
def u5:DS:=(sIf (tB2 neD (A5 B8 (A0 (dC (.int 1)) (A0 (A1 1) (A0 (A1 2) A3)))) (L6 (tB2 eqD (dIx (A6 1) (dC (.int 0))) (dIx (A6 2) (dC (.int 0)))) (A5 G0 (A0 (A4 E9 (A1 3) (A1 4)) A3)) (C9 (A0 (dC (.str "refused")) (A0 (dC (.int 0)) A3))))) (C8 (dC (.bool false))) E1)
def af3:DS:=(X5 (ad9 (ao0 (dC (.int 1))) (dC (.int 5))) (C0 6) (B1 (B6 5 (C9 (A0 (dC (.str "refused")) (A0 (dC (.int 0)) A3)))) (B1 (sIf (G9 (tB2 gtI (A1 6) (dC (.int 0))) (tB2 ltI (A4 D6 (Z3 (qE (U5 (A1 1) G1 (E7 (dC (.int 2)))))) (A1 6)) (dC (.int 9)))) (B1 (B6 7 (E2 A3)) (B1 (X5 (J0 (A1 3)) (C0 8) (B1 (B6 9 (E2 A3)) (B1 (X5 (J0 (A1 8)) (C0 10) (B6 9 (A4 E9 (A1 9) (A4 D6 (E2 (A0 (A1 10) A3)) (A1 6))))) (B6 7 (A4 E9 (A1 7) (E2 (D7 1 [9] (G2 (A1 6)) (C0 0) D2 (E2 (fun ρ=>((A6 1) ρ).map fun q=>q.2))))))))) (B6 5 (A5 G0 (A0 (A1 7) A3))))) E1) (sIf (tB2 neD (A5 B8 (A0 (dC (.int 2)) (A0 (A1 1) (A0 (A1 6) A3)))) (A1 5)) (C8 (dC (.bool false))) E1))))
def u4:DS:=(B6 10 (dIx (qE (dIx (A6 1) (dC (.int 2)))) (dC (.int 0))))
def r9:DS:=(X4 11 12 (A0 (C9 (A0 (dC (.int 5)) (A0 (dC (.int 1)) (A0 (A4 D6 (C9 (A0 (A1 10) A3)) (dC (.int 5))) A3)))) (A0 (C9 (A0 (dC (.int 4)) (A0 (dC (.int 1)) (A0 (A4 D6 (C9 (A0 (A1 10) A3)) (dC (.int 4))) A3)))) A3)))
def X1:DS:=(X4 13 14 (A0 (C9 (A0 (dC (.int 1)) (A0 (dC (.int 5)) (A0 (A4 D6 (C9 (A0 (A1 10) A3)) (dC (.int 5))) A3)))) (A0 (C9 (A0 (dC (.int 1)) (A0 (dC (.int 4)) (A0 (A4 D6 (C9 (A0 (A1 10) A3)) (dC (.int 4))) A3)))) A3)))
def X0:DS:=(sIf (tB2 neD (E2 (A0 (A5 B8 (A0 (dC (.int 0)) (A0 (A1 11) (A0 (A1 12) A3)))) (A0 (A5 B8 (A0 (dC (.int 1)) (A0 (A1 13) (A0 (A1 14) A3)))) A3))) (A4 D6 (E2 (A0 (C9 (A0 (dC (.str "refused")) (A0 (dC (.int 0)) A3))) A3)) (dC (.int 2)))) (C8 (dC (.bool false))) E1)
def W9:DS:=(sIf (tB2 neD (A5 B8 (A0 (dC (.int 0)) (A0 (A1 12) (A0 (A1 12) A3)))) (C9 (A0 (dC (.int 8)) (A0 (dC (.int 1)) (A0 (A4 D6 (C9 (A0 (A1 10) A3)) (dC (.int 8))) A3))))) (C8 (dC (.bool false))) E1)
def W8:DS:=(C8 (A4 eqD (A5 B8 (A0 (dC (.int 1)) (A0 (A1 14) (A0 (A1 14) A3)))) (C9 (A0 (dC (.int 1)) (A0 (dC (.int 8)) (A0 (A4 D6 (C9 (A0 (A1 10) A3)) (dC (.int 8))) A3))))))
def bc2:DS:=(B1 aq0 (B1 V3 (B1 af5 (B1 ap9 (B1 u6 (B1 af4 (B1 u5 (B1 af3 (B1 u4 (B1 r9 (B1 X1 (B1 X0 (B1 W9 W8)))))))))))))
def az2:List D->Option D:=L9 bc2 15
end Lk14
namespace Lk14
open PySem G L2 Sh
theorem rg1{α:Type}{w:Nat}(w1:1<=w) (f:Nat->Nat->α):∀h:Nat,(List.range (w*h)).map (fun k=>f (k % w) (k / w))=(List.range h).flatMap fun y=>(List.range w).map fun x=>f x y
 | 0=>rfl
 | h+1=>by
  rw [Nat.mul_succ,List.range_add,List.map_append,rg1 w1 f h,List.range_succ,List.flatMap_append,List.map_map]
  congr 1
  rw [List.flatMap_cons,List.flatMap_nil,List.append_nil]
  refine List.map_congr_left fun x hx=>?_
  have hx:=List.mem_range.mp hx
  show f ((w*h+x) % w) ((w*h+x) / w)=_
  rw [Nat.mul_add_mod,Nat.mod_eq_of_lt hx,Nat.mul_add_div (by omega),Nat.div_eq_of_lt hx,Nat.add_zero]
theorem rg2{α:Type}{b:Nat}(b1:1<=b) (f:Nat->List α):∀h:Nat,(List.range (b*h)).flatMap (fun k=>f (k / b))=(List.range h).flatMap fun y=>(List.replicate b (f y)).flatten
 | 0=>rfl
 | h+1=>by
  rw [Nat.mul_succ,List.range_add,List.flatMap_append,rg2 b1 f h,List.range_succ,List.flatMap_append,List.flatMap_cons,List.flatMap_nil,List.append_nil]
  congr 1
  rw [List.flatMap_map]
  have:∀n,n<=b->(List.range n).flatMap (fun x=>f ((b*h+x) / b))=(List.replicate n (f h)).flatten:=fun n hn=>by
   induction n with
   | zero=>rfl
   | succ n ih =>
    rw [List.range_succ,List.flatMap_append,ih (by omega),List.flatMap_cons,List.flatMap_nil,List.append_nil,Nat.mul_add_div (by omega),Nat.div_eq_of_lt (by omega),Nat.add_zero,List.replicate_succ',List.flatten_append]
    simp
  exact this b (Nat.le_refl _)
def A2(w:Nat) (l:List Q4) (y:Nat):List Q4:=(List.range w).map fun x=>l.getD (y*w+x) q0
theorem au9{w h:Nat}{l:List Q4}(hl:l.length=w*h) {y:Nat}(hy:y < h):(l.drop (y*w)).take w=A2 w l y:=by
 have b:y*w+w<=w*h:=by
  have:(y+1)*w<=h*w:=Nat.mul_le_mul_right w hy
  rw [Nat.succ_mul,Nat.mul_comm h w]at this;exact this
 refine List.ext_getElem ?_ fun i h1 h2=>?_
 ·unfold A2
  rw [List.length_take,List.length_drop,List.length_map,List.length_range];omega
 ·unfold A2 at h2 ⊢
  rw [List.length_map,List.length_range]at h2
  rw [List.getElem_take,List.getElem_drop,List.getElem_map,List.getElem_range,List.getD_eq_getElem?_getD,List.getElem?_eq_getElem (by omega)]
  rfl
theorem ac9{w h:Nat}{l:List Q4}(w1:1<=w) (hl:l.length=w*h):(List.range h).flatMap (A2 w l)=l:=by
 have:=rg1 w1 (fun x y=>l.getD (y*w+x) q0) h
 unfold A2
 rw [← this]
 refine List.ext_getElem (by rw [List.length_map,List.length_range];omega) fun i h1 h2=>?_
 rw [List.getElem_map,List.getElem_range,show i / w*w+i % w=i by rw [Nat.mul_comm];exact Nat.div_add_mod i w,List.getD_eq_getElem?_getD,List.getElem?_eq_getElem h2]
 rfl
theorem aj3{w h:Nat}{l:List Q4}{x y:Nat}(hx:x < w) (hy:y < h):atQ w h l (x:Int) (y:Int)=l.getD (y*w+x) q0:=by
 unfold atQ
 rw [if_pos ⟨by omega,by omega,by omega,by omega⟩]
 congr 1
theorem al1{w h:Nat}(w1:1<=w) (g:Int->Int->Q4):(plc w (w*h)).map (fun p=>g p.1 p.2)=(List.range h).flatMap fun y=>(List.range w).map fun x=>g (x:Nat) (y:Nat):=by
 unfold plc
 rw [List.map_map]
 exact rg1 w1 (fun x y=>g (x:Nat) (y:Nat)) h
theorem as3{α β:Type}(f:α->List β) (g h:α->List β) (l:List α) (e:∀a∈l,g a=h a):l.flatMap g=l.flatMap h:=by
 induction l with
 | nil=>rfl
 | cons a l ih=>rw [List.flatMap_cons,List.flatMap_cons,e a (List.mem_cons_self ..),ih fun b hb=>e b (List.mem_cons_of_mem _ hb)]
def as9(w1 h1 w2:Nat) (A B:List Q4) (p:Int×Int):Q4:=if p.1 < (w1:Int) then atQ w1 h1 A p.1 p.2 else atQ w2 h1 B (p.1 - w1) p.2
theorem k4{w1 h1 w2 h2:Nat}{A B:List Q4}(S:ShOk 8 w1 h1 A) (T:ShOk 8 w2 h2 B) :
  (h1=h2/\w1+w2<=8->G8 [shD w1 h1 A,shD w2 h2 B]=some (shD (w1+w2) h1 ((List.range h1).flatMap fun y=>A2 w1 A y++A2 w2 B y))/\D8 [shD w1 h1 A,shD w2 h2 B]=none)/\(¬(h1=h2/\w1+w2<=8)->D8 [shD w1 h1 A,shD w2 h2 B]=some ("NoMerge" : Str)):=by
 have s1:=S.w1
 have s2:=S.h8
 have st:M6 4 [shD w1 h1 A,shD w2 h2 B]=[some (.val (shD w1 h1 A)),some (.val (shD w2 h2 B)),none,none]:=rfl
 have k:((w1:Int)+(w2:Int))=((w1+w2:Nat):Int):=by omega
 have cond:(G4 (tB2 neD (A1 3) (dIx (A6 1) (dC (.int 1)))) (tB2 gtI (A1 2) (dC (.int 8)))) [some (.val (shD w1 h1 A)),some (.val (shD w2 h2 B)),some (.val (.int ((w1:Int)+(w2:Int)))),some (.val (.int h1))]=some (!decide (h1=h2/\w1+w2<=8)):=by
  by_cases c:h1=h2
  ·subst c
   have z:(!((h1:Int)==(h1:Int)))=false:=by simp
   by_cases d:w1+w2<=8
   ·rw [decide_eq_true ⟨rfl,d⟩]
    have z2:decide ((8:Int) < (w1:Int)+(w2:Int))=false:=decide_eq_false (by omega)
    wp_walk using evD,shD,z,z2
   ·rw [decide_eq_false (fun q=>d q.2)]
    have z2:decide ((8:Int) < (w1:Int)+(w2:Int))=true:=decide_eq_true (by omega)
    wp_walk using evD,shD,z,z2
  ·rw [decide_eq_false (fun q=>c q.1)]
   have z:(!((h1:Int)==(h2:Int)))=true:=by
    rw [beq_eq_false_iff_ne.mpr (by omega)];rfl
   wp_walk using evD,shD,z
 have s2':(B6 2 (A4 E9 (dIx (A6 0) (dC (.int 0))) (dIx (A6 1) (dC (.int 0))))) [some (.val (shD w1 h1 A)),some (.val (shD w2 h2 B)),none,none]=some (.nx [some (.val (shD w1 h1 A)),some (.val (shD w2 h2 B)),some (.val (.int ((w1:Int)+(w2:Int)))),none]):=by wp_walk using evD,shD
 have s3':(B6 3 (dIx (A6 0) (dC (.int 1)))) [some (.val (shD w1 h1 A)),some (.val (shD w2 h2 B)),some (.val (.int ((w1:Int)+(w2:Int)))),none]=some (.nx [some (.val (shD w1 h1 A)),some (.val (shD w2 h2 B)),some (.val (.int ((w1:Int)+(w2:Int)))),some (.val (.int h1))]):=by wp_walk using evD,shD
 refine⟨fun c=>?_,fun c=>?_⟩
 ·rw [decide_eq_true c]at cond
  obtain⟨rfl,d⟩:=c
  refine⟨?_,?_⟩
  ·refine F7 (ρ:=[some (.val (shD w1 h1 A)),some (.val (shD w2 h1 B)),none,none]) rfl ?_
   have sp:∀p∈plc (w1+w2) ((w1+w2)*h1),J3 [shD w1 h1 A,shD w2 h1 B,.int p.1,.int p.2]=some (as9 w1 h1 w2 A B p).d:=fun p _=>by
    refine F7 (ρ:=[some (.val (shD w1 h1 A)),some (.val (shD w2 h1 B)),some (.val (.int p.1)),some (.val (.int p.2))]) rfl ?_
    have a1:=V4 S p.1 p.2
    have a2:=V4 T (p.1 - w1) p.2
    have i0:dIx (A6 0) (dC (.int 0)) [some (.val (shD w1 h1 A)),some (.val (shD w2 h1 B)),some (.val (.int p.1)),some (.val (.int p.2))]=some (.int w1):=rfl
    unfold as9
    by_cases c:p.1 < (w1:Int)
    ·rw [if_pos c]
     have c':decide (p.1 < (w1:Int))=true:=decide_eq_true c
     simp only [O2,L6,C8,tB2,A4,A1,A5,A0,A3,i0,E4,S2,c',a1,xg0,xg1,xbs,xms,if_true]
    ·rw [if_neg c]
     have c':decide (p.1 < (w1:Int))=false:=decide_eq_false c
     simp only [O2,L6,C8,tB2,A4,A1,A5,A0,A3,i0,E4,S2,M5,c',a2,xg0,xg1,xbs,xms,xft,if_false]
   have cc:D7 2 [0,1] (J0 (A5 G7 (A0 (A1 2) (A0 (A1 3) A3)))) (F2 2 (B7 (C0 0) (B7 (C0 1) F8))) D2 (A5 J3 (A0 (A1 2) (A0 (A1 3) (A0 (A1 0) (A0 (A1 1) A3))))) [some (.val (shD w1 h1 A)),some (.val (shD w2 h1 B)),some (.val (.int ((w1:Int)+(w2:Int)))),some (.val (.int h1))]=some ((plc (w1+w2) ((w1+w2)*h1)).map fun p=>(as9 w1 h1 w2 A B p).d):=by
    refine ar0 (l:=plc (w1+w2) ((w1+w2)*h1)) (h1:=fun p=>.int p.1) (h2:=fun p=>.int p.2) (r:=[some (.val (shD w1 h1 A)),some (.val (shD w2 h1 B))]) rfl ?_ (by rw [ag9];have:(w1+w2)*h1<=64:=Nat.mul_le_mul d s2;omega) fun p hp=>?_
    ·have:=ad2 (w:=w1+w2) (h:=h1) (by omega) d s2
     rw [← k]at this
     wp_walk using evD,this
    ·wp_walk using evD,sp p hp
   have eq:((plc (w1+w2) ((w1+w2)*h1)).map fun p=>(as9 w1 h1 w2 A B p).d)=((List.range h1).flatMap fun y=>A2 w1 A y++A2 w2 B y).map Q4.d:=by
    rw [show((plc (w1+w2) ((w1+w2)*h1)).map fun p=>(as9 w1 h1 w2 A B p).d)=((plc (w1+w2) ((w1+w2)*h1)).map fun p=>as9 w1 h1 w2 A B p).map Q4.d by rw [List.map_map];rfl]
    congr 1
    unfold as9
    rw [al1 (by omega) (fun x y=>if x < (w1:Int) then atQ w1 h1 A x y else atQ w2 h1 B (x - w1) y)]
    refine as3 (fun _=>[]) _ _ _ fun y hy=>?_
    have hy:=List.mem_range.mp hy
    rw [List.range_add,List.map_append,List.map_map]
    unfold A2
    congr 1
    ·refine List.map_congr_left fun x hx=>?_
     have hx:=List.mem_range.mp hx
     rw [if_pos (by omega),aj3 hx hy]
    ·refine List.map_congr_left fun x hx=>?_
     have hx:=List.mem_range.mp hx
     show(if((w1+x:Nat):Int) < (w1:Int) then _ else atQ w2 h1 B (((w1+x:Nat):Int) - w1) y)=_
     rw [if_neg (by omega),show((w1+x:Nat):Int) - w1=((x:Nat):Int) by omega,aj3 hx hy]
   rw [eq]at cc
   unfold e7
   rw [C4 s2',C4 s3']
   have s4:(sIf (G4 (tB2 neD (A1 3) (dIx (A6 1) (dC (.int 1)))) (tB2 gtI (A1 2) (dC (.int 8)))) A9 E1) [some (.val (shD w1 h1 A)),some (.val (shD w2 h1 B)),some (.val (.int ((w1:Int)+(w2:Int)))),some (.val (.int h1))]=some (.nx [some (.val (shD w1 h1 A)),some (.val (shD w2 h1 B)),some (.val (.int ((w1:Int)+(w2:Int)))),some (.val (.int h1))]):=by
    simp only [sIf,cond,xnt,xbs,xft,if_false,E1]
   rw [C4 s4]
   simp only [C8,C9,A0,A3,A1,G3,qN,cc,xg0,xg1,xbs,xms]
   rw [k]
   rfl
  ·unfold D8 v8
   rw [st]
   simp only [Q8,rNo,s2',s3',rIf,sIf,E1,cond,xnt,xbs,xft,if_false,Option.map_none]
 ·rw [decide_eq_false c]at cond
  unfold D8 v8
  rw [st]
  simp only [Q8,rNo,s2',s3',rIf,cond,xnf,xbs,if_true,R5,dC,xms]
theorem aa7{w1 h1 w2 h2:Nat}{A B:List Q4}(S:ShOk 8 w1 h1 A) (T:ShOk 8 w2 h2 B) :
  (w1=w2/\h1+h2<=8->J7 [shD w1 h1 A,shD w2 h2 B]=some (shD w1 (h1+h2) (A++B))/\E6 [shD w1 h1 A,shD w2 h2 B]=none)/\(¬(w1=w2/\h1+h2<=8)->E6 [shD w1 h1 A,shD w2 h2 B]=some ("NoMerge" : Str)):=by
 have st:M6 4 [shD w1 h1 A,shD w2 h2 B]=[some (.val (shD w1 h1 A)),some (.val (shD w2 h2 B)),none,none]:=rfl
 have k:((h1:Int)+(h2:Int))=((h1+h2:Nat):Int):=by omega
 have cond:(G4 (tB2 neD (A1 2) (dIx (A6 1) (dC (.int 0)))) (tB2 gtI (A1 3) (dC (.int 8)))) [some (.val (shD w1 h1 A)),some (.val (shD w2 h2 B)),some (.val (.int w1)),some (.val (.int ((h1:Int)+(h2:Int))))]=some (!decide (w1=w2/\h1+h2<=8)):=by
  by_cases c:w1=w2
  ·subst c
   have z:(!((w1:Int)==(w1:Int)))=false:=by simp
   by_cases d:h1+h2<=8
   ·rw [decide_eq_true ⟨rfl,d⟩]
    have z2:decide ((8:Int) < (h1:Int)+(h2:Int))=false:=decide_eq_false (by omega)
    wp_walk using evD,shD,z,z2
   ·rw [decide_eq_false (fun q=>d q.2)]
    have z2:decide ((8:Int) < (h1:Int)+(h2:Int))=true:=decide_eq_true (by omega)
    wp_walk using evD,shD,z,z2
  ·rw [decide_eq_false (fun q=>c q.1)]
   have z:(!((w1:Int)==(w2:Int)))=true:=by
    rw [beq_eq_false_iff_ne.mpr (by omega)];rfl
   wp_walk using evD,shD,z
 have s2':(B6 2 (dIx (A6 0) (dC (.int 0)))) [some (.val (shD w1 h1 A)),some (.val (shD w2 h2 B)),none,none]=some (.nx [some (.val (shD w1 h1 A)),some (.val (shD w2 h2 B)),some (.val (.int w1)),none]):=by wp_walk using evD,shD
 have s3':(B6 3 (A4 E9 (dIx (A6 0) (dC (.int 1))) (dIx (A6 1) (dC (.int 1))))) [some (.val (shD w1 h1 A)),some (.val (shD w2 h2 B)),some (.val (.int w1)),none]=some (.nx [some (.val (shD w1 h1 A)),some (.val (shD w2 h2 B)),some (.val (.int w1)),some (.val (.int ((h1:Int)+(h2:Int))))]):=by wp_walk using evD,shD
 refine⟨fun c=>?_,fun c=>?_⟩
 ·rw [decide_eq_true c]at cond
  refine⟨?_,?_⟩
  ·have la:=S.len
   have lb:=T.len
   have a64:w1*h1<=64:=Nat.mul_le_mul S.w8 S.h8
   have b64:w2*h2<=64:=Nat.mul_le_mul T.w8 T.h8
   have ct:E9 (.tuple (A.map Q4.d)) (.tuple (B.map Q4.d))=some (.tuple ((A++B).map Q4.d)):=by
    have:=cat_tup (xs:=A.map Q4.d) (ys:=B.map Q4.d) (by rw [List.length_map,List.length_map];omega)
    rw [List.map_append];exact this
   refine F7 (ρ:=[some (.val (shD w1 h1 A)),some (.val (shD w2 h2 B)),none,none]) rfl ?_
   unfold m7
   rw [C4 s2',C4 s3']
   have s4:(sIf (G4 (tB2 neD (A1 2) (dIx (A6 1) (dC (.int 0)))) (tB2 gtI (A1 3) (dC (.int 8)))) A9 E1) [some (.val (shD w1 h1 A)),some (.val (shD w2 h2 B)),some (.val (.int w1)),some (.val (.int ((h1:Int)+(h2:Int))))]=some (.nx [some (.val (shD w1 h1 A)),some (.val (shD w2 h2 B)),some (.val (.int w1)),some (.val (.int ((h1:Int)+(h2:Int))))]):=by
    simp only [sIf,cond,xnt,xbs,xft,if_false,E1]
   rw [C4 s4]
   wp_walk using evD,shD,ct
   rw [k]
  ·unfold E6 v8
   rw [st]
   simp only [Q8,rNo,s2',s3',rIf,sIf,E1,cond,xnt,xbs,xft,if_false,Option.map_none]
 ·rw [decide_eq_false c]at cond
  unfold E6 v8
  rw [st]
  simp only [Q8,rNo,s2',s3',rIf,cond,xnf,xbs,if_true,R5,dC,xms]
def wide(b:Nat) (r:List Q4):List Q4:=r.flatMap fun q=>List.replicate b q
def N0(w h b:Nat) (A:List Q4):List (List Q4):=(List.range h).flatMap fun y=>List.replicate b (wide b (A2 w A y))
theorem rg3{α:Type}{b:Nat}(b1:1<=b) (g:Nat->α) (w:Nat):(List.range (b*w)).map (fun X=>g (X / b))=(List.range w).flatMap fun x=>List.replicate b (g x):=by
 have:=rg2 b1 (fun x=>[g x]) w
 rw [show(List.range (b*w)).map (fun X=>g (X / b))=(List.range (b*w)).flatMap (fun X=>[g (X / b)]) by
  generalize List.range (b*w)=l
  induction l with
  | nil=>rfl
  | cons a l ih=>rw [xmc,List.flatMap_cons,ih];rfl]
 rw [this]
 refine as3 (fun _=>[]) _ _ _ fun x _=>?_
 exact Sh.K2 (g x) b
theorem aC9{α β:Type}(f:α->List (List β)) (l:List α):(l.flatMap f).flatten=l.flatMap fun a=>(f a).flatten:=by
 induction l with
 | nil=>rfl
 | cons a l ih=>rw [List.flatMap_cons,List.flatMap_cons,List.flatten_append,ih]
theorem aO3{w h b:Nat}{A:List Q4}(w1:1<=w) (b1:1<=b):((plc (w*b) ((w*b)*(h*b))).map fun p=>atQ w h A (p.1 / (b:Int)) (p.2 / (b:Int)))=(N0 w h b A).flatten:=by
 rw [al1 (Nat.mul_le_mul w1 b1) (fun x y=>atQ w h A (x / (b:Int)) (y / (b:Int)))]
 have e1:(List.range (h*b)).flatMap (fun y=>(List.range (w*b)).map fun x=>atQ w h A (((x:Nat):Int) / (b:Int)) (((y:Nat):Int) / (b:Int)))=(List.range (b*h)).flatMap (fun y=>(fun y'=>wide b (A2 w A y')) (y / b)):=by
  rw [Nat.mul_comm h b]
  refine as3 (fun _=>[]) _ _ _ fun y hy=>?_
  have hy:=List.mem_range.mp hy
  have hyb:y / b < h:=Nat.div_lt_of_lt_mul hy
  have r3:=rg3 b1 (fun x=>A.getD (y / b*w+x) q0) w
  show _=wide b (A2 w A (y / b))
  unfold wide A2
  rw [List.flatMap_map,← r3,Nat.mul_comm w b]
  refine List.map_congr_left fun x hx=>?_
  have hx:=List.mem_range.mp hx
  have hxb:x / b < w:=Nat.div_lt_of_lt_mul hx
  rw [← Int.natCast_ediv,← Int.natCast_ediv,aj3 hxb hyb]
 rw [e1,rg2 b1 (fun y'=>wide b (A2 w A y')) h]
 unfold N0
 rw [aC9]
theorem ah5{i j:Int}(h1:-1000<=i) (h2:i<=1000) (h3:-1000<=j) (h4:j<=1000):D6 (.int i) (.int j)=some (.int (i*j)):=by
 have s:∀{x:Int},-1000<=x->x<=1000->C6 x:=fun{x} a b=>by
  unfold C6;omega
 exact ar1 (s h1 h2) (s h3 h4)
theorem aO2{w h:Nat}{A:List Q4}(S:ShOk 8 w h A) {i:Int}(i1:-1<=i) (i2:i<=4) :
  (∀b:Nat,i=b->1<=b->w*b<=8->h*b<=8->U1 [shD w h A,.int i]=some (shD (w*b) (h*b) (N0 w h b A).flatten)/\L0 [shD w h A,.int i]=none)/\(¬(1<=i/\(w:Int)*i<=8/\(h:Int)*i<=8)->L0 [shD w h A,.int i]=some ("NoMerge" : Str)):=by
 have s1:=S.w1
 have s8:=S.w8
 have t1:=S.h1
 have t8:=S.h8
 have st:M6 4 [shD w h A,.int i]=[some (.val (shD w h A)),some (.val (.int i)),none,none]:=rfl
 have m1:=ah5 (i:=w) (j:=i) (by omega) (by omega) (by omega) (by omega)
 have m2:=ah5 (i:=h) (j:=i) (by omega) (by omega) (by omega) (by omega)
 have s2':(B6 2 (A4 D6 (dIx (A6 0) (dC (.int 0))) (A1 1))) [some (.val (shD w h A)),some (.val (.int i)),none,none]=some (.nx [some (.val (shD w h A)),some (.val (.int i)),some (.val (.int ((w:Int)*i))),none]):=by wp_walk using evD,shD,m1
 have s3':(B6 3 (A4 D6 (dIx (A6 0) (dC (.int 1))) (A1 1))) [some (.val (shD w h A)),some (.val (.int i)),some (.val (.int ((w:Int)*i))),none]=some (.nx [some (.val (shD w h A)),some (.val (.int i)),some (.val (.int ((w:Int)*i))),some (.val (.int ((h:Int)*i)))]):=by wp_walk using evD,shD,m2
 have cond:(G4 (tB2 ltI (A1 1) (dC (.int 1))) (G4 (tB2 gtI (A1 2) (dC (.int 8))) (tB2 gtI (A1 3) (dC (.int 8))))) [some (.val (shD w h A)),some (.val (.int i)),some (.val (.int ((w:Int)*i))),some (.val (.int ((h:Int)*i)))]=some (!decide (1<=i/\(w:Int)*i<=8/\(h:Int)*i<=8)):=by
  by_cases c1:1<=i
  ·have z1:decide (i < 1)=false:=decide_eq_false (by omega)
   by_cases c2:(w:Int)*i<=8
   ·have z2:decide ((8:Int) < (w:Int)*i)=false:=decide_eq_false (by omega)
    by_cases c3:(h:Int)*i<=8
    ·have z3:decide ((8:Int) < (h:Int)*i)=false:=decide_eq_false (by omega)
     rw [decide_eq_true ⟨c1,c2,c3⟩]
     wp_walk using evD,z1,z2,z3
    ·have z3:decide ((8:Int) < (h:Int)*i)=true:=decide_eq_true (by omega)
     rw [decide_eq_false (fun q=>c3 q.2.2)]
     wp_walk using evD,z1,z2,z3
   ·have z2:decide ((8:Int) < (w:Int)*i)=true:=decide_eq_true (by omega)
    rw [decide_eq_false (fun q=>c2 q.2.1)]
    wp_walk using evD,z1,z2
  ·have z1:decide (i < 1)=true:=decide_eq_true (by omega)
   rw [decide_eq_false (fun q=>c1 q.1)]
   wp_walk using evD,z1
 refine⟨fun b eb b1 wb hb=>?_,fun c=>?_⟩
 ·subst eb
  have kw:(w:Int)*(b:Int)=((w*b:Nat):Int):=by rw [Int.natCast_mul]
  have kh:(h:Int)*(b:Int)=((h*b:Nat):Int):=by rw [Int.natCast_mul]
  rw [decide_eq_true ⟨by omega,by rw [kw];omega,by rw [kh];omega⟩]at cond
  refine⟨?_,?_⟩
  ·have cc:D7 2 [0,1] (J0 (A5 G7 (A0 (A1 2) (A0 (A1 3) A3)))) (F2 2 (B7 (C0 0) (B7 (C0 1) F8))) D2 (A5 K9 (A0 (A1 2) (A0 (A4 R0 (A1 0) (A1 3)) (A0 (A4 R0 (A1 1) (A1 3)) A3)))) [some (.val (shD w h A)),some (.val (.int (b:Int))),some (.val (.int ((w:Int)*(b:Int)))),some (.val (.int ((h:Int)*(b:Int))))]=some ((N0 w h b A).flatten.map Q4.d):=by
    rw [← aO3 (h:=h) (A:=A) s1 b1,List.map_map]
    have l64:(w*b)*(h*b)<=64:=Nat.mul_le_mul wb hb
    refine ar0 (l:=plc (w*b) ((w*b)*(h*b))) (h1:=fun p=>.int p.1) (h2:=fun p=>.int p.2) (f:=Q4.d ∘ fun p=>atQ w h A (p.1 / (b:Int)) (p.2 / (b:Int))) (r:=[some (.val (shD w h A)),some (.val (.int (b:Int)))]) rfl ?_ (by rw [ag9];omega) fun p hp=>?_
    ·have:=ad2 (w:=w*b) (h:=h*b) (Nat.mul_le_mul s1 b1) wb hb
     rw [kw,kh]
     wp_walk using evD,this
    ·obtain⟨q1,q2,q3,q4⟩:=aT7 hp (Nat.mul_le_mul s1 b1)
     have dv:∀x:Int,0<=x->x<=1000->R0 (.int x) (.int (b:Int))=some (.int (x / (b:Int))):=fun x x0 x1=>ae1 (by omega) (sm8 (by omega) (by omega))
     have a1:=V4 S (p.1 / (b:Int)) (p.2 / (b:Int))
     wp_walk using evD,dv p.1 q1 (by omega),dv p.2 q3 (by omega),a1
     rfl
   refine F7 (ρ:=[some (.val (shD w h A)),some (.val (.int (b:Int))),none,none]) rfl ?_
   unfold az0
   rw [C4 s2',C4 s3']
   have s4:(sIf (G4 (tB2 ltI (A1 1) (dC (.int 1))) (G4 (tB2 gtI (A1 2) (dC (.int 8))) (tB2 gtI (A1 3) (dC (.int 8))))) A9 E1) [some (.val (shD w h A)),some (.val (.int (b:Int))),some (.val (.int ((w:Int)*(b:Int)))),some (.val (.int ((h:Int)*(b:Int))))]=some (.nx [some (.val (shD w h A)),some (.val (.int (b:Int))),some (.val (.int ((w:Int)*(b:Int)))),some (.val (.int ((h:Int)*(b:Int))))]):=by
    simp only [sIf,cond,xnt,xbs,xft,if_false,E1]
   rw [C4 s4]
   simp only [C8,C9,A0,A3,A1,G3,qN,cc,xg0,xg1,xbs,xms]
   rw [kw,kh]
   rfl
  ·unfold L0 v8
   rw [st]
   simp only [Q8,rNo,s2',s3',rIf,sIf,E1,cond,xnt,xbs,xft,if_false,Option.map_none]
 ·rw [decide_eq_false c]at cond
  unfold L0 v8
  rw [st]
  simp only [Q8,rNo,s2',s3',rIf,cond,xnf,xbs,if_true,R5,dC,xms]
theorem P5{k:Nat}{p d:D}{R:List D->Option Str}{F:List D->Option D}(hk:k=0/\R=D8/\F=G8\/k=1/\R=E6/\F=J7\/k=2/\R=L0/\F=U1) :
  (∀q,R [p,d]=none->F [p,d]=some q->B8 [.int k,p,d]=some q)/\(R [p,d]=some ("NoMerge" : Str)->B8 [.int k,p,d]=some (.tuple [.str "refused", .int 0])):=by
 have rc:x5 [D8,E6,L0] (A1 0) (A0 (A1 1) (A0 (A1 2) A3)) [some (.val (.int k)),some (.val p),some (.val d),none]=(R [p,d]).map fun x=>(x,[some (.val (.int k)),some (.val p),some (.val d),none]):=by
  rcases hk with⟨rfl,rfl,rfl⟩|⟨rfl,rfl,rfl⟩|⟨rfl,rfl,rfl⟩<;>rfl
 have dc:ai8 [G8,J7,U1] (A1 0) (A0 (A1 1) (A0 (A1 2) A3)) [some (.val (.int k)),some (.val p),some (.val d),none]=F [p,d]:=by
  rcases hk with⟨rfl,rfl,rfl⟩|⟨rfl,rfl,rfl⟩|⟨rfl,rfl,rfl⟩<;>rfl
 have hx:E5 "NoMerge" = some (.tuple [.str "refused", .int 0]):=by kernel_rfl
 refine⟨fun q h1 h2=>?_,fun h1=>?_⟩
 ·refine F7 (ρ:=[some (.val (.int k)),some (.val p),some (.val d),none]) rfl ?_
  unfold aa9 ac8 X8
  rw [rc,h1]
  show C8 _ _=_
  unfold C8
  rw [dc,h2];rfl
 ·refine F7 (ρ:=[some (.val (.int k)),some (.val p),some (.val d),none]) rfl ?_
  have ro:X8 ["NoMerge"] (x5 [D8,E6,L0] (A1 0) (A0 (A1 1) (A0 (A1 2) A3))) [some (.val (.int k)),some (.val p),some (.val d),none]=some (("NoMerge" : Str),[some (.val (.int k)),some (.val p),some (.val d),none]):=by
   unfold X8
   rw [rc,h1]
   rfl
  have dx:C8 (W2 3 E5) [some (.val (.int k)),some (.val p),some (.val d),some (.exc ("NoMerge" : Str))]=some (.rt (.tuple [.str "refused", .int 0])):=by
   show((W2 3 E5) [some (.val (.int k)),some (.val p),some (.val d),some (.exc ("NoMerge" : Str))]).map Fl.rt=_
   show(E5 "NoMerge").map Fl.rt=_
   rw [hx];rfl
  unfold aa9 ac8
  rw [ro]
  show(match C8 (W2 3 E5) [some (.val (.int k)),some (.val p),some (.val d),some (.exc ("NoMerge" : Str))] with|some (.rt d)=>some (Fl.rt d)|_=>none)=_
  rw [dx]
def rwD(R:List (List Q4)):D:=.list (R.map fun r=>.list (r.map Q4.d))
theorem aZ3(l:List D) {a b:Nat}(h1:a<=b) (h2:b<=l.length):Z4 l (some (a:Int)) (some (b:Int))=(l.drop a).take (b - a):=by
 unfold Z4
 rw [HT.sIx_nat,HT.sIx_nat,Nat.min_eq_left h2,Nat.min_eq_left (Nat.le_trans h1 h2)]
theorem au8{w h:Nat}{A:List Q4}(S:ShOk 8 w h A):P1 [shD w h A]=some (rwD ((List.range h).map (A2 w A))):=by
 have s8:=S.w8
 have t8:=S.h8
 have ln:=S.len
 refine F7 (ρ:=[some (.val (shD w h A)),none,none,none]) rfl ?_
 have s0:(P9 (A1 0) (F2 3 (B7 (C0 1) (B7 (C0 2) (B7 (C0 3) F8))))) [some (.val (shD w h A)),none,none,none]=some (.nx [some (.val (shD w h A)),some (.val (.int w)),some (.val (.int h)),some (.val (.tuple (A.map Q4.d)))]):=rfl
 unfold ao8
 rw [C4 s0]
 have cc:D7 1 [3,1] (G2 (A1 2)) (C0 0) D2 (E2 (fun ρ=>((qE (U5 (A1 1) (E7 (A4 D6 (A1 0) (A1 2))) (E7 (A4 E9 (A4 D6 (A1 0) (A1 2)) (A1 2))))) ρ).map fun q=>q.2)) [some (.val (shD w h A)),some (.val (.int w)),some (.val (.int h)),some (.val (.tuple (A.map Q4.d)))]=some ((List.range h).map fun y=>.list ((A2 w A y).map Q4.d)):=by
  refine ah4 (l:=List.range h) (h:=fun k:Nat=>PyData.int k) (r:=[some (.val (.tuple (A.map Q4.d))),some (.val (.int w))]) rfl (o6 rfl (by omega)) (by rw [List.length_range];omega) fun y hy=>?_
  have hy:=List.mem_range.mp hy
  have b:y*w+w<=w*h:=by
   have:(y+1)*w<=h*w:=Nat.mul_le_mul_right w hy
   rw [Nat.succ_mul,Nat.mul_comm h w]at this;exact this
  have m:=S0 (i:=y) (j:=w) (by omega) (by omega)
  have k:(((y*w:Nat):Int)+(w:Int))=((y*w+w:Nat):Int):=by omega
  have c:=aZ3 (A.map Q4.d) (a:=y*w) (b:=y*w+w) (by omega) (by rw [List.length_map];omega)
  rw [show y*w+w - y*w=w by omega,← List.map_drop,← List.map_take,au9 ln hy]at c
  wp_walk using evD,U5,m,k,c
 simp only [C8,E2,cc,xms]
 unfold rwD
 rw [List.map_map]
 rfl
theorem aj0{X Y:List D}(h:X.length+Y.length<=16777216):E9 (.list X) (.list Y)=some (.list (X++Y)):=by
 show(if X.length+Y.length<=16777216 then some (PyData.list (X++Y)) else none)=_
 rw [if_pos h]
theorem aw2:∀(R:List (List Q4)) (X:List Q4) (a0 a2:Option B),X.length+R.flatten.length<=1000->∃a2',W1 (C0 2) (B6 1 (A4 E9 (A1 1) (A1 2))) (R.map fun r=>.list (r.map Q4.d)) [a0,some (.val (.list (X.map Q4.d))),a2]=some (.nx [a0,some (.val (.list ((X++R.flatten).map Q4.d))),a2'])
 | [],X,a0,a2,_=>⟨a2,by rw [List.flatten_nil,List.append_nil];rfl⟩
 | r::R,X,a0,a2,h=>by
  rw [List.flatten_cons,List.length_append]at h
  obtain⟨a2',e⟩:=aw2 R (X++r) a0 (some (.val (.list (r.map Q4.d)))) (by rw [List.length_append];omega)
  refine⟨a2',?_⟩
  have ct:=aj0 (X:=X.map Q4.d) (Y:=r.map Q4.d) (by rw [List.length_map,List.length_map];omega)
  rw [← List.map_append]at ct
  wp_walk using evD,xmc,W1,C0,ct
  rw [List.flatten_cons,← List.append_assoc]
  exact e
theorem bu9{r:List Q4}{R:List (List Q4)}(h:(r::R).flatten.length<=1000):G0 [rwD (r::R)]=some (shD r.length (r::R).length (r::R).flatten):=by
 refine F7 (ρ:=[some (.val (rwD (r::R))),none,none]) rfl ?_
 obtain⟨a2',e⟩:=aw2 (r::R) [] (some (.val (rwD (r::R)))) none (by simpa using h)
 have s0:(B6 1 (E2 A3)) [some (.val (rwD (r::R))),none,none]=some (.nx [some (.val (rwD (r::R))),some (.val (.list ([]:List D))),none]):=rfl
 have s1:(X5 (J0 (A1 0)) (C0 2) (B6 1 (A4 E9 (A1 1) (A1 2)))) [some (.val (rwD (r::R))),some (.val (.list ([]:List D))),none]=some (.nx [some (.val (rwD (r::R))),some (.val (.list (([]++(r::R).flatten).map Q4.d))),a2']):=e
 have ln:(((R.map fun r=>PyData.list (r.map Q4.d)).length:Nat):Int)=((R.length:Nat):Int):=by rw [List.length_map]
 have i0:M3 (qE (dIx (A6 0) (dC (.int 0)))) [some (.val (rwD (r::R))),some (.val (.list (([]++(r::R).flatten).map Q4.d))),a2']=some (.int (r.length:Nat)):=by
  have a0:atI ((r::R).map fun r=>PyData.list (r.map Q4.d)) 0=some (.list (r.map Q4.d)):=by
   unfold atI
   rw [ar5 (by omega) (by simp)]
   rfl
  have:dIx (A6 0) (dC (.int 0)) [some (.val (rwD (r::R))),some (.val (.list (([]++(r::R).flatten).map Q4.d))),a2']=some (.list (r.map Q4.d)):=by
   simp only [rwD,dIx,A6,P7,dC,xg0,xbs,xms,a0]
  simp only [M3,qE,this,P7,xbs,xms,List.length_map]
 have i1:M3 (A6 0) [some (.val (rwD (r::R))),some (.val (.list (([]++(r::R).flatten).map Q4.d))),a2']=some (.int ((r::R).length:Nat)):=by
  show some (PyData.int ((((r::R).map fun r=>PyData.list (r.map Q4.d)).length:Nat):Int))=_
  rw [List.length_map]
 have i2:G3 (A6 1) [some (.val (rwD (r::R))),some (.val (.list (([]++(r::R).flatten).map Q4.d))),a2']=some (.tuple ((r::R).flatten.map Q4.d)):=rfl
 unfold aQ6
 rw [C4 s0,C4 s1]
 simp only [C8,C9,A0,A3,i0,i1,i2,xbs,xms]
 rfl
theorem ax8{g:D->Rho->Option Rho}{f:DS}{d:D}{ds:List D}{ρ ρ1 ρ':Rho}(h1:g d ρ=some ρ1) (h2:f ρ1=some (.nx ρ')):W1 g f (d::ds) ρ=W1 g f ds ρ':=by simp only [W1,h1,xbs,h2]
theorem P8{i:Nat}{f:DE}{ρ:Rho}{d:D}(h:f ρ=some d):B6 i f ρ=some (.nx (ρ.set i (some (.val d)))):=by
 unfold B6
 rw [h];rfl
theorem F6{o:D->D->Option D}{f g:DE}{ρ:Rho}{x y:D}(h1:f ρ=some x) (h2:g ρ=some y):A4 o f g ρ=o x y:=by
 unfold A4
 rw [h1,xbs,h2,xbs]
def inb:DS:=(B6 9 (A4 E9 (A1 9) (A4 D6 (E2 (A0 (A1 10) A3)) (A1 6))))
def al7:DS:=(B1 (B6 9 (E2 A3)) (B1 (X5 (J0 (A1 8)) (C0 10) inb) (B6 7 (A4 E9 (A1 7) (E2 (D7 1 [9] (G2 (A1 6)) (C0 0) D2 (E2 (fun ρ=>((A6 1) ρ).map fun q=>q.2))))))))
abbrev ev(P:List (Option B)) (i:Int) (a7 a8 a9 a10:Option B):Rho:=P++[some (.val (.int i)),a7,a8,a9,a10,none,none,none,none]
theorem aN5{p0 p1 p2 p3 p4 p5 a7 a8:Option B}{b:Nat}(hb:b<=8) (r:List Q4):∀(X:List Q4) (a10:Option B),X.length+b*r.length<=1000->∃a10',W1 (C0 10) inb (r.map Q4.d) (ev [p0,p1,p2,p3,p4,p5] b a7 a8 (some (.val (.list (X.map Q4.d)))) a10)=some (.nx (ev [p0,p1,p2,p3,p4,p5] b a7 a8 (some (.val (.list ((X++wide b r).map Q4.d)))) a10')):=by
 induction r with
 | nil=>exact fun X a10 _=>⟨a10,by unfold wide;rw [List.flatMap_nil,List.append_nil];rfl⟩
 | cons q r ih =>
  intro X a10 h
  rw [List.length_cons,Nat.mul_succ]at h
  obtain⟨a10',e⟩:=ih (X++List.replicate b q) (some (.val q.d)) (by rw [List.length_append,List.length_replicate];omega)
  refine⟨a10',?_⟩
  have m:D6 (.list [q.d]) (.int (b:Int))=some (.list ((List.replicate b q).map Q4.d)):=by
   rw [y9 (by omega) (by simp),Sh.K2,List.map_replicate]
  have ct:=aj0 (X:=X.map Q4.d) (Y:=(List.replicate b q).map Q4.d) (by rw [List.length_map,List.length_map,List.length_replicate];omega)
  rw [← List.map_append]at ct
  have g10:C0 10 q.d (ev [p0,p1,p2,p3,p4,p5] b a7 a8 (some (.val (.list (X.map Q4.d)))) a10)=some (ev [p0,p1,p2,p3,p4,p5] b a7 a8 (some (.val (.list (X.map Q4.d)))) (some (.val q.d))):=rfl
  have ib:inb (ev [p0,p1,p2,p3,p4,p5] b a7 a8 (some (.val (.list (X.map Q4.d)))) (some (.val q.d)))=some (.nx (ev [p0,p1,p2,p3,p4,p5] b a7 a8 (some (.val (.list ((X++List.replicate b q).map Q4.d)))) (some (.val q.d)))):=by
   have v9:A1 9 (ev [p0,p1,p2,p3,p4,p5] b a7 a8 (some (.val (.list (X.map Q4.d)))) (some (.val q.d)))=some (.list (X.map Q4.d)):=rfl
   have v10:E2 (A0 (A1 10) A3) (ev [p0,p1,p2,p3,p4,p5] b a7 a8 (some (.val (.list (X.map Q4.d)))) (some (.val q.d)))=some (.list [q.d]):=rfl
   have v6:A1 6 (ev [p0,p1,p2,p3,p4,p5] b a7 a8 (some (.val (.list (X.map Q4.d)))) (some (.val q.d)))=some (.int b):=rfl
   have q:=P8 (i:=9) ((F6 (o:=E9) v9 ((F6 (o:=D6) v10 v6).trans m)).trans ct)
   unfold inb
   rw [q]
   rfl
  have wd:wide b (q::r)=List.replicate b q++wide b r:=by unfold wide;rw [List.flatMap_cons]
  rw [wd,← List.append_assoc,xmc,ax8 g10 ib]
  exact e
theorem au7{R T:List (List Q4)}(h:R.length+T.length<=1000):E9 (rwD R) (rwD T)=some (rwD (R++T)):=by
 unfold rwD
 rw [List.map_append]
 exact aj0 (by rw [List.length_map,List.length_map];omega)
theorem aj7(b:Nat):∀r:List Q4,(wide b r).length=b*r.length
 | []=>rfl
 | q::r=>by
  have:wide b (q::r)=List.replicate b q++wide b r:=by unfold wide;rw [List.flatMap_cons]
  rw [this,List.length_append,List.length_replicate,aj7 b r,List.length_cons,Nat.mul_succ,Nat.add_comm]
theorem aA8{p0 p1 p2 p3 p4 p5:Option B}{b w:Nat}(hb:b<=8) (hw:w<=8) (R:List (List Q4)):∀(T:List (List Q4)) (a8 a9 a10:Option B),(∀r∈R,r.length=w)->T.length+b*R.length<=1000->∃a8' a9' a10',W1 (C0 8) al7 (R.map fun r=>.list (r.map Q4.d)) (ev [p0,p1,p2,p3,p4,p5] b (some (.val (rwD T))) a8 a9 a10)=some (.nx (ev [p0,p1,p2,p3,p4,p5] b (some (.val (rwD (T++R.flatMap fun r=>List.replicate b (wide b r))))) a8' a9' a10')):=by
 induction R with
 | nil=>exact fun T a8 a9 a10 _ _=>⟨a8,a9,a10,by rw [List.flatMap_nil,List.append_nil];rfl⟩
 | cons r R ih =>
  intro T a8 a9 a10 hr h
  rw [List.length_cons,Nat.mul_succ]at h
  have rl:=hr r (List.mem_cons_self ..)
  have bw:b*w<=64:=Nat.mul_le_mul hb hw
  obtain⟨a10',e1⟩:=aN5 (p0:=p0) (p1:=p1) (p2:=p2) (p3:=p3) (p4:=p4) (p5:=p5) (a7:=some (.val (rwD T))) (a8:=some (.val (.list (r.map Q4.d)))) hb r [] a10 (by rw [rl];simp;omega)
  rw [xna]at e1
  have cc:D7 1 [9] (G2 (A1 6)) (C0 0) D2 (E2 (fun ρ=>((A6 1) ρ).map fun q=>q.2)) (ev [p0,p1,p2,p3,p4,p5] b (some (.val (rwD T))) (some (.val (.list (r.map Q4.d)))) (some (.val (.list ((wide b r).map Q4.d)))) a10')=some ((List.replicate b (wide b r)).map fun r=>.list (r.map Q4.d)):=by
   have:=ah4 (caps:=[9]) (src:=G2 (A1 6)) (e:=E2 (fun ρ=>((A6 1) ρ).map fun q=>q.2)) (ρ:=ev [p0,p1,p2,p3,p4,p5] b (some (.val (rwD T))) (some (.val (.list (r.map Q4.d)))) (some (.val (.list ((wide b r).map Q4.d)))) a10') (l:=List.range b) (h:=fun k:Nat=>PyData.int k) (f:=fun _=>.list ((wide b r).map Q4.d)) (r:=[some (.val (.list ((wide b r).map Q4.d)))]) rfl (o6 rfl (by omega)) (by rw [List.length_range];omega) (fun k _=>rfl)
   rw [this,List.map_replicate]
   refine congrArg some (List.ext_getElem ?_ fun i h1 h2=>?_)
   ·rw [List.length_map,List.length_range,List.length_replicate]
   ·rw [List.getElem_map,List.getElem_replicate]
  obtain⟨a8',a9',a10'',e2⟩:=ih (T++List.replicate b (wide b r)) (some (.val (.list (r.map Q4.d)))) (some (.val (.list ((wide b r).map Q4.d)))) a10' (fun x hx=>hr x (List.mem_cons_of_mem _ hx)) (by rw [List.length_append,List.length_replicate];omega)
  refine⟨a8',a9',a10'',?_⟩
  have ct:=au7 (R:=T) (T:=List.replicate b (wide b r)) (by rw [List.length_replicate];omega)
  have ob:al7 (ev [p0,p1,p2,p3,p4,p5] b (some (.val (rwD T))) (some (.val (.list (r.map Q4.d)))) a9 a10)=some (.nx (ev [p0,p1,p2,p3,p4,p5] b (some (.val (rwD (T++List.replicate b (wide b r))))) (some (.val (.list (r.map Q4.d)))) (some (.val (.list ((wide b r).map Q4.d)))) a10')):=by
   unfold al7
   rw [C4 (ρ':=ev [p0,p1,p2,p3,p4,p5] b (some (.val (rwD T))) (some (.val (.list (r.map Q4.d)))) (some (.val (.list (([]:List Q4).map Q4.d)))) a10) rfl]
   have sf:(X5 (J0 (A1 8)) (C0 10) inb) (ev [p0,p1,p2,p3,p4,p5] b (some (.val (rwD T))) (some (.val (.list (r.map Q4.d)))) (some (.val (.list (([]:List Q4).map Q4.d)))) a10)=some (.nx (ev [p0,p1,p2,p3,p4,p5] b (some (.val (rwD T))) (some (.val (.list (r.map Q4.d)))) (some (.val (.list ((wide b r).map Q4.d)))) a10')):=e1
   rw [C4 sf]
   have v7:A1 7 (ev [p0,p1,p2,p3,p4,p5] b (some (.val (rwD T))) (some (.val (.list (r.map Q4.d)))) (some (.val (.list ((wide b r).map Q4.d)))) a10')=some (rwD T):=rfl
   have ct':E9 (rwD T) (.list ((List.replicate b (wide b r)).map fun r=>.list (r.map Q4.d)))=some (rwD (T++List.replicate b (wide b r))):=ct
   have cl:E2 (D7 1 [9] (G2 (A1 6)) (C0 0) D2 (E2 (fun ρ=>((A6 1) ρ).map fun q=>q.2))) (ev [p0,p1,p2,p3,p4,p5] b (some (.val (rwD T))) (some (.val (.list (r.map Q4.d)))) (some (.val (.list ((wide b r).map Q4.d)))) a10')=some (.list ((List.replicate b (wide b r)).map fun r=>.list (r.map Q4.d))):=by
    unfold E2
    rw [show D7 1 [9] (G2 (A1 6)) (C0 0) D2 (fun ρ=>Option.map PyData.list (((A6 1) ρ).map fun q=>q.2)) (ev [p0,p1,p2,p3,p4,p5] b (some (.val (rwD T))) (some (.val (.list (r.map Q4.d)))) (some (.val (.list ((wide b r).map Q4.d)))) a10')=_ from cc]
    rfl
   have q:=P8 (i:=7) ((F6 (o:=E9) v7 cl).trans ct')
   rw [q]
   rfl
  have fl:(T++List.replicate b (wide b r))++(R.flatMap fun r=>List.replicate b (wide b r))=T++(r::R).flatMap fun r=>List.replicate b (wide b r):=by
   rw [List.flatMap_cons,List.append_assoc]
  rw [fl]at e2
  have g8:C0 8 (.list (r.map Q4.d)) (ev [p0,p1,p2,p3,p4,p5] b (some (.val (rwD T))) a8 a9 a10)=some (ev [p0,p1,p2,p3,p4,p5] b (some (.val (rwD T))) (some (.val (.list (r.map Q4.d)))) a9 a10):=rfl
  rw [xmc,ax8 g8 ob]
  exact e2
theorem aQ4(ns:List Int) (hn:ns.length<=63) (k:Nat) (hk:k < 2 ^ 18):∃(w h:Nat) (l:List Q4),M4 [scr ns,.int k]=some (shD w h l)/\ShOk 8 w h l/\w<=3/\h<=3:=by
 obtain⟨x,ex,lx⟩:=ai5 ns hn (e:=(k:Int)) (m':=3) k 3 rfl rfl (by omega) (by decide)
 obtain⟨y,ey,ly⟩:=ai5 ns hn (e:=(k:Int)+1) (m':=3) (k+1) 3 (by omega) rfl (by omega) (by decide)
 obtain⟨l,el,S⟩:=ak1 ns hn (e:=(k:Int)+2) (k+2) (1+x) (1+y) (by omega) (by omega) (by omega) (by omega) (by omega) (by omega)
 refine⟨1+x,1+y,l,?_,S,by omega,by omega⟩
 refine F7 (ρ:=[some (.val (scr ns)),some (.val (.int k))]) rfl ?_
 have k1:(1:Int)+(x:Int)=((1+x:Nat):Int):=by omega
 have k2:(1:Int)+(y:Int)=((1+y:Nat):Int):=by omega
 wp_walk using evD,ay9,ex,ey,k1,k2,el
theorem aG6:neD (.tuple [.str "refused", .int 0]) (.tuple [.str "refused", .int 0])=some (.bool false):=by kernel_rfl
theorem au3(w h:Nat) (l:List Q4):neD (shD w h l) (shD w h l)=some (.bool false):=aV6 (Ly.sheet w h _) (by decide)
theorem M1(w:Nat) (A:List Q4) (y:Nat):(A2 w A y).length=w:=by unfold A2;rw [List.length_map,List.length_range]
theorem as1{α β:Type}(f:α->List β) (l:List α):(l.map f).flatten=l.flatMap f:=by rw [List.flatMap_def]
theorem ah2{R:List (List Q4)}{w h:Nat}{l:List Q4}(hR:R≠[]) (hh:R.length=h) (hw:∀r∈R,r.length=w) (hf:R.flatten=l) (hl:l.length<=1000):G0 [rwD R]=some (shD w h l):=by
 cases R with
 | nil=>exact absurd rfl hR
 | cons r R =>
  have:=bu9 (r:=r) (R:=R) (by rw [hf];exact hl)
  rw [hf,hh,hw r (List.mem_cons_self ..)]at this
  exact this
theorem aS3(q:Q4) {n:Nat}:A2 n (List.replicate n q) 0=List.replicate n q:=by
 have:=au9 (w:=n) (h:=1) (l:=List.replicate n q) (by rw [List.length_replicate];omega) (y:=0) (by decide)
 rw [← this,Nat.zero_mul,List.drop_zero,List.take_of_length_le (by rw [List.length_replicate];exact Nat.le_refl _)]
theorem ag0(q:Q4) (hq:q.ok 8) {w h n:Nat}(w1:1<=w) (w8:w<=8) (h1:1<=h) (h8:h<=8) (e:n=w*h):ShOk 8 w h (List.replicate n q):=⟨w1,w8,h1,h8,by rw [List.length_replicate,e],fun p hp=>by rw [(List.mem_replicate.mp hp).2];exact hq⟩
theorem y8(q:Q4) {n:Nat}(h1:1<=n) (h2:n<=1000):D6 (.tuple [q.d]) (.int n)=some (.tuple ((List.replicate n q).map Q4.d)):=by
 rw [List.map_replicate]
 show(if(n:Int)=1 then some (PyData.tuple [q.d]) else U3 (.tuple [q.d]) (.int n))=_
 by_cases e:n=1
 ·subst e;rfl
 ·rw [if_neg (by omega)]
  show(if([q.d]:List D).isEmpty=false/\2<=(n:Int)/\(n:Int) < 1000000/\([q.d]:List D).length*((n:Int)).toNat<=16777216 then some (PyData.tuple (List.replicate ((n:Int)).toNat [q.d]).flatten) else none)=_
  rw [Int.toNat_natCast,if_pos ⟨rfl,by omega,by omega,by show 1*n<=_;omega⟩,Sh.K2]
abbrev rf:D:=.tuple [.str "refused", .int 0]
def b7:DS:=(B1 (B6 5 (C9 (A0 (dC (.str "refused")) (A0 (dC (.int 0)) A3)))) (B1 (sIf (G9 (tB2 gtI (A1 6) (dC (.int 0))) (tB2 ltI (A4 D6 (Z3 (qE (U5 (A1 1) G1 (E7 (dC (.int 2)))))) (A1 6)) (dC (.int 9)))) (B1 (B6 7 (E2 A3)) (B1 (X5 (J0 (A1 3)) (C0 8) al7) (B6 5 (A5 G0 (A0 (A1 7) A3))))) E1) (sIf (tB2 neD (A5 B8 (A0 (dC (.int 2)) (A0 (A1 1) (A0 (A1 6) A3)))) (A1 5)) (C8 (dC (.bool false))) E1)))
theorem bA9{w h:Nat}(A:List Q4) (ρ:Rho) (e:A1 1 ρ=some (shD w h A)):Z3 (qE (U5 (A1 1) G1 (E7 (dC (.int 2))))) ρ=some (.int (if(h:Int) > w then(h:Int) else w)):=by
 have s:U5 (A1 1) G1 (E7 (dC (.int 2))) ρ=some (.tuple [.int w,.int h]):=by
  unfold U5
  rw [e];rfl
 unfold Z3 qE
 rw [s]
 show some (PyData.int (mxL [(w:Int),(h:Int)]))=_
 rfl
theorem by5{w h:Nat}{A:List Q4}(S:ShOk 8 w h A) {i:Int}(i1:-1<=i) (i2:i<=4) (p0 p2 p4 a5 a7 a8 a9 a10:Option B) :
  ∃d a7' a8' a9' a10',b7 (ev [p0,some (.val (shD w h A)),p2,some (.val (rwD ((List.range h).map (A2 w A)))),p4,a5] i a7 a8 a9 a10)=some (.nx (ev [p0,some (.val (shD w h A)),p2,some (.val (rwD ((List.range h).map (A2 w A)))),p4,some (.val d)] i a7' a8' a9' a10')):=by
 have s1:=S.w1
 have s8:=S.w8
 have t1:=S.h1
 have t8:=S.h8
 obtain⟨gA,gB⟩:=aO2 S i1 i2
 obtain⟨tA,tB⟩:=P5 (k:=2) (p:=shD w h A) (d:=.int i) (.inr (.inr ⟨rfl,rfl,rfl⟩))
 have z0:(B6 5 (C9 (A0 (dC (.str "refused")) (A0 (dC (.int 0)) A3)))) (ev [p0,some (.val (shD w h A)),p2,some (.val (rwD ((List.range h).map (A2 w A)))),p4,a5] i a7 a8 a9 a10)=some (.nx (ev [p0,some (.val (shD w h A)),p2,some (.val (rwD ((List.range h).map (A2 w A)))),p4,some (.val rf)] i a7 a8 a9 a10)):=rfl
 have mm:=bA9 A (ev [p0,some (.val (shD w h A)),p2,some (.val (rwD ((List.range h).map (A2 w A)))),p4,some (.val rf)] i a7 a8 a9 a10) rfl
 have ml:=ah5 (i:=if(h:Int) > w then(h:Int) else w) (j:=i) (by split<;>omega) (by split<;>omega) (by omega) (by omega)
 have v6:A1 6 (ev [p0,some (.val (shD w h A)),p2,some (.val (rwD ((List.range h).map (A2 w A)))),p4,some (.val rf)] i a7 a8 a9 a10)=some (.int i):=rfl
 have v69:dC (.int 9) (ev [p0,some (.val (shD w h A)),p2,some (.val (rwD ((List.range h).map (A2 w A)))),p4,some (.val rf)] i a7 a8 a9 a10)=some (.int 9):=rfl
 have v60:dC (.int 0) (ev [p0,some (.val (shD w h A)),p2,some (.val (rwD ((List.range h).map (A2 w A)))),p4,some (.val rf)] i a7 a8 a9 a10)=some (.int 0):=rfl
 have c1:tB2 gtI (A1 6) (dC (.int 0)) (ev [p0,some (.val (shD w h A)),p2,some (.val (rwD ((List.range h).map (A2 w A)))),p4,some (.val rf)] i a7 a8 a9 a10)=some (decide (0 < i)):=by
  unfold tB2
  rw [F6 v6 v60,W0];rfl
 have c2:tB2 ltI (A4 D6 (Z3 (qE (U5 (A1 1) G1 (E7 (dC (.int 2)))))) (A1 6)) (dC (.int 9)) (ev [p0,some (.val (shD w h A)),p2,some (.val (rwD ((List.range h).map (A2 w A)))),p4,some (.val rf)] i a7 a8 a9 a10)=some (decide ((if(h:Int) > w then(h:Int) else w)*i < 9)):=by
  unfold tB2
  rw [F6 ((F6 (o:=D6) mm v6).trans ml) v69,S2];rfl
 have fin:∀(d:D) (b7' b8 b9 b10:Option B),B8 [.int 2,shD w h A,.int i]=some d->neD d d=some (.bool false)->(sIf (tB2 neD (A5 B8 (A0 (dC (.int 2)) (A0 (A1 1) (A0 (A1 6) A3)))) (A1 5)) (C8 (dC (.bool false))) E1) (ev [p0,some (.val (shD w h A)),p2,some (.val (rwD ((List.range h).map (A2 w A)))),p4,some (.val d)] i b7' b8 b9 b10)=some (.nx (ev [p0,some (.val (shD w h A)),p2,some (.val (rwD ((List.range h).map (A2 w A)))),p4,some (.val d)] i b7' b8 b9 b10)):=fun d b7' b8 b9 b10 e1 e2=>by
  have u1:A5 B8 (A0 (dC (.int 2)) (A0 (A1 1) (A0 (A1 6) A3))) (ev [p0,some (.val (shD w h A)),p2,some (.val (rwD ((List.range h).map (A2 w A)))),p4,some (.val d)] i b7' b8 b9 b10)=some d:=e1
  have u2:A1 5 (ev [p0,some (.val (shD w h A)),p2,some (.val (rwD ((List.range h).map (A2 w A)))),p4,some (.val d)] i b7' b8 b9 b10)=some d:=rfl
  have u3:tB2 neD (A5 B8 (A0 (dC (.int 2)) (A0 (A1 1) (A0 (A1 6) A3)))) (A1 5) (ev [p0,some (.val (shD w h A)),p2,some (.val (rwD ((List.range h).map (A2 w A)))),p4,some (.val d)] i b7' b8 b9 b10)=some false:=by
   unfold tB2
   rw [F6 u1 u2,e2];rfl
  simp only [sIf,u3,xbs,xft,if_false,E1]
 by_cases q:0 < i/\(if(h:Int) > w then(h:Int) else w)*i < 9
 ·obtain⟨b,hb⟩:∃b:Nat,i=b:=⟨i.toNat,by omega⟩
  subst hb
  have b1:1<=b:=by omega
  have wb:w*b<=8/\h*b<=8:=by
   have q2:=q.2
   split at q2
   ·have k1:(h:Int)*(b:Int)=((h*b:Nat):Int):=by rw [Int.natCast_mul]
    have:w*b<=h*b:=Nat.mul_le_mul_right b (by omega)
    omega
   ·have k1:(w:Int)*(b:Int)=((w*b:Nat):Int):=by rw [Int.natCast_mul]
    have:h*b<=w*b:=Nat.mul_le_mul_right b (by omega)
    omega
  obtain⟨g1,g2⟩:=gA b rfl b1 wb.1 wb.2
  have told:=tA _ g2 g1
  obtain⟨a8',a9',a10',e⟩:=aA8 (p0:=p0) (p1:=some (.val (shD w h A))) (p2:=p2) (p3:=some (.val (rwD ((List.range h).map (A2 w A))))) (p4:=p4) (p5:=some (.val rf)) (b:=b) (w:=w) (by omega) s8 ((List.range h).map (A2 w A)) [] a8 a9 a10 (fun r hr=>by
   obtain⟨y,_,rfl⟩:=List.mem_map.mp hr
   exact M1 w A y) (by
   rw [List.length_map,List.length_range]
   have:b*h=h*b:=Nat.mul_comm ..
   show 0+b*h<=1000
   omega)
  have gr:([]:List (List Q4))++((List.range h).map (A2 w A)).flatMap (fun r=>List.replicate b (wide b r))=N0 w h b A:=by
   rw [xna,List.flatMap_map];rfl
  rw [gr]at e
  have ofr:G0 [rwD (N0 w h b A)]=some (shD (w*b) (h*b) (N0 w h b A).flatten):=by
   have ln:(N0 w h b A).length=h*b:=by
    unfold N0
    rw [List.length_flatMap]
    simp only [List.length_replicate]
    rw [List.map_const',List.sum_replicate_nat,List.length_range]
   have rl:∀r∈N0 w h b A,r.length=w*b:=fun r hr=>by
    unfold N0 at hr
    obtain⟨y,_,hy⟩:=List.mem_flatMap.mp hr
    rw [(List.mem_replicate.mp hy).2,aj7,M1,Nat.mul_comm]
   have fl:(N0 w h b A).flatten.length<=1000:=by
    have l64:(w*b)*(h*b)<=64:=Nat.mul_le_mul wb.1 wb.2
    have:(N0 w h b A).flatten.length=(w*b)*(h*b):=by
     rw [← aO3 s1 b1,List.length_map,ag9]
    omega
   refine ah2 (fun z=>?_) ln rl rfl fl
   rw [z]at ln
   have:1<=h*b:=Nat.mul_le_mul t1 b1
   rw [← ln]at this
   simp at this
  refine⟨shD (w*b) (h*b) (N0 w h b A).flatten,some (.val (rwD (N0 w h b A))),a8',a9',a10',?_⟩
  unfold b7
  rw [C4 z0]
  have body:(B1 (B6 7 (E2 A3)) (B1 (X5 (J0 (A1 3)) (C0 8) al7) (B6 5 (A5 G0 (A0 (A1 7) A3))))) (ev [p0,some (.val (shD w h A)),p2,some (.val (rwD ((List.range h).map (A2 w A)))),p4,some (.val rf)] (b:Int) a7 a8 a9 a10)=some (.nx (ev [p0,some (.val (shD w h A)),p2,some (.val (rwD ((List.range h).map (A2 w A)))),p4,some (.val (shD (w*b) (h*b) (N0 w h b A).flatten))] (b:Int) (some (.val (rwD (N0 w h b A)))) a8' a9' a10')):=by
   rw [C4 (ρ':=ev [p0,some (.val (shD w h A)),p2,some (.val (rwD ((List.range h).map (A2 w A)))),p4,some (.val rf)] (b:Int) (some (.val (rwD []))) a8 a9 a10) rfl]
   have sf:(X5 (J0 (A1 3)) (C0 8) al7) (ev [p0,some (.val (shD w h A)),p2,some (.val (rwD ((List.range h).map (A2 w A)))),p4,some (.val rf)] (b:Int) (some (.val (rwD []))) a8 a9 a10)=some (.nx (ev [p0,some (.val (shD w h A)),p2,some (.val (rwD ((List.range h).map (A2 w A)))),p4,some (.val rf)] (b:Int) (some (.val (rwD (N0 w h b A)))) a8' a9' a10')):=e
   rw [C4 sf]
   have u:A5 G0 (A0 (A1 7) A3) (ev [p0,some (.val (shD w h A)),p2,some (.val (rwD ((List.range h).map (A2 w A)))),p4,some (.val rf)] (b:Int) (some (.val (rwD (N0 w h b A)))) a8' a9' a10')=some (shD (w*b) (h*b) (N0 w h b A).flatten):=ofr
   rw [P8 u]
   rfl
  have si:(sIf (G9 (tB2 gtI (A1 6) (dC (.int 0))) (tB2 ltI (A4 D6 (Z3 (qE (U5 (A1 1) G1 (E7 (dC (.int 2)))))) (A1 6)) (dC (.int 9)))) (B1 (B6 7 (E2 A3)) (B1 (X5 (J0 (A1 3)) (C0 8) al7) (B6 5 (A5 G0 (A0 (A1 7) A3))))) E1) (ev [p0,some (.val (shD w h A)),p2,some (.val (rwD ((List.range h).map (A2 w A)))),p4,some (.val rf)] (b:Int) a7 a8 a9 a10)=some (.nx (ev [p0,some (.val (shD w h A)),p2,some (.val (rwD ((List.range h).map (A2 w A)))),p4,some (.val (shD (w*b) (h*b) (N0 w h b A).flatten))] (b:Int) (some (.val (rwD (N0 w h b A)))) a8' a9' a10')):=by
   unfold sIf G9
   rw [c1,c2,decide_eq_true q.1,decide_eq_true q.2]
   exact body
  rw [C4 si]
  exact fin _ _ _ _ _ told (au3 _ _ _)
 ·have R:=gB fun z=>q ⟨by omega,by
   obtain⟨z1,z2,z3⟩:=z
   split<;>omega⟩
  have told:=tB R
  refine⟨rf,a7,a8,a9,a10,?_⟩
  unfold b7
  rw [C4 z0]
  have si:(sIf (G9 (tB2 gtI (A1 6) (dC (.int 0))) (tB2 ltI (A4 D6 (Z3 (qE (U5 (A1 1) G1 (E7 (dC (.int 2)))))) (A1 6)) (dC (.int 9)))) (B1 (B6 7 (E2 A3)) (B1 (X5 (J0 (A1 3)) (C0 8) al7) (B6 5 (A5 G0 (A0 (A1 7) A3))))) E1) (ev [p0,some (.val (shD w h A)),p2,some (.val (rwD ((List.range h).map (A2 w A)))),p4,some (.val rf)] i a7 a8 a9 a10)=some (.nx (ev [p0,some (.val (shD w h A)),p2,some (.val (rwD ((List.range h).map (A2 w A)))),p4,some (.val rf)] i a7 a8 a9 a10)):=by
   unfold sIf G9
   by_cases q1:0 < i
   ·have q2:¬(if(h:Int) > w then(h:Int) else w)*i < 9:=fun z=>q ⟨q1,z⟩
    rw [c1,c2,decide_eq_true q1,decide_eq_false q2]
    rfl
   ·rw [c1,decide_eq_false q1]
    rfl
  rw [C4 si]
  exact fin _ _ _ _ _ told aG6
theorem rg6(ρ:Rho):ad9 (ao0 (dC (.int 1))) (dC (.int 5)) ρ=some [.int (-1),.int 0,.int 1,.int 2,.int 3,.int 4]:=by
 show(ad9 (fun _=>some (PyData.int (-1))) (fun _=>some (PyData.int 5))) ρ=_
 rfl
theorem bt5:neD (.list [rf,rf]) (.list [rf,rf])=some (.bool false):=by kernel_rfl
theorem bf6(ns:List Int) {w1 h1 w2 h2:Nat}{A B:List Q4}(S:ShOk 8 w1 h1 A) (T:ShOk 8 w2 h2 B) (b1:w1<=3) (b2:h1<=3) (b3:w2<=3) (b4:h2<=3):∃d,u6 [(some (.val (scr ns))),(some (.val (shD w1 h1 A))),(some (.val (shD w2 h2 B))),(some (.val (rwD ((List.range h1).map (A2 w1 A))))),(some (.val (rwD ((List.range h2).map (A2 w2 B))))),(some (.val rf)),none,none,none,none,none,none,none,none,none]=some (.nx [(some (.val (scr ns))),(some (.val (shD w1 h1 A))),(some (.val (shD w2 h2 B))),(some (.val (rwD ((List.range h1).map (A2 w1 A))))),(some (.val (rwD ((List.range h2).map (A2 w2 B))))),(some (.val d)),none,none,none,none,none,none,none,none,none])/\B8 [.int 0,(shD w1 h1 A),(shD w2 h2 B)]=some d/\neD d d=some (.bool false):=by
 have sw:=S.w1
 have sh:=S.h1
 have tw:=T.w1
 have th:=T.h1
 have la:=S.len
 have lb:=T.len
 have a9:w1*h1<=9:=Nat.mul_le_mul b1 b2
 have b9:w2*h2<=9:=Nat.mul_le_mul b3 b4
 obtain⟨bA,bB⟩:=k4 S T
 obtain⟨k0A,k0B⟩:=P5 (k:=0) (p:=(shD w1 h1 A)) (d:=(shD w2 h2 B)) (.inl ⟨rfl,rfl,rfl⟩)
 by_cases c:h1=h2
 ·subst c
  obtain⟨f1,f2⟩:=bA ⟨rfl,by omega⟩
  refine⟨_,?_,k0A _ f2 f1,au3 _ _ _⟩
  have zc:D7 2 [] (Y8 (qE (A1 3)) (qE (A1 4))) (F2 2 (B7 (C0 0) (B7 (C0 1) F8))) D2 (A4 E9 (A1 0) (A1 1)) [(some (.val (scr ns))),(some (.val (shD w1 h1 A))),(some (.val (shD w2 h1 B))),(some (.val (rwD ((List.range h1).map (A2 w1 A))))),(some (.val (rwD ((List.range h1).map (A2 w2 B))))),(some (.val rf)),none,none,none,none,none,none,none,none,none]=some ((List.range h1).map fun y=>.list ((A2 w1 A y++A2 w2 B y).map Q4.d)):=by
   refine ar0 (l:=List.range h1) (h1:=fun y=>.list ((A2 w1 A y).map Q4.d)) (h2:=fun y=>.list ((A2 w2 B y).map Q4.d)) (r:=[]) rfl ?_ (by rw [List.length_range];omega) fun y hy=>?_
   ·show some ((((List.range h1).map (A2 w1 A)).map fun r=>PyData.list (r.map Q4.d)).zip (((List.range h1).map (A2 w2 B)).map fun r=>PyData.list (r.map Q4.d)) |>.map fun(x,y)=>PyData.tuple [x,y])=_
    rw [List.map_map,List.map_map,List.zip_map',List.map_map]
    rfl
   ·have:=aj0 (X:=(A2 w1 A y).map Q4.d) (Y:=(A2 w2 B y).map Q4.d) (by rw [List.length_map,List.length_map,M1,M1];omega)
    rw [← List.map_append]at this
    wp_walk using evD,this
  have of1:G0 [.list ((List.range h1).map fun y=>.list ((A2 w1 A y++A2 w2 B y).map Q4.d))]=some (shD (w1+w2) h1 ((List.range h1).flatMap fun y=>A2 w1 A y++A2 w2 B y)):=by
   have:=ah2 (R:=(List.range h1).map fun y=>A2 w1 A y++A2 w2 B y) (w:=w1+w2) (h:=h1) (l:=(List.range h1).flatMap fun y=>A2 w1 A y++A2 w2 B y) (fun z=>by
    have:=congrArg List.length z
    rw [List.length_map,List.length_range]at this
    simp at this;omega) (by rw [List.length_map,List.length_range]) (fun r hr=>by
    obtain⟨y,_,rfl⟩:=List.mem_map.mp hr
    rw [List.length_append,M1,M1]) (as1 _ _) (by
    rw [List.length_flatMap]
    simp only [List.length_append,M1]
    rw [List.map_const',List.sum_replicate_nat,List.length_range]
    have:h1*(w1+w2)<=3*6:=Nat.mul_le_mul b2 (by omega)
    omega)
   unfold rwD at this
   rw [List.map_map]at this
   exact this
  have i1:dIx (A6 1) (dC (.int 1)) [(some (.val (scr ns))),(some (.val (shD w1 h1 A))),(some (.val (shD w2 h1 B))),(some (.val (rwD ((List.range h1).map (A2 w1 A))))),(some (.val (rwD ((List.range h1).map (A2 w2 B))))),(some (.val rf)),none,none,none,none,none,none,none,none,none]=some (.int h1):=rfl
  have i2:dIx (A6 2) (dC (.int 1)) [(some (.val (scr ns))),(some (.val (shD w1 h1 A))),(some (.val (shD w2 h1 B))),(some (.val (rwD ((List.range h1).map (A2 w1 A))))),(some (.val (rwD ((List.range h1).map (A2 w2 B))))),(some (.val rf)),none,none,none,none,none,none,none,none,none]=some (.int h1):=rfl
  have cd:tB2 eqD (dIx (A6 1) (dC (.int 1))) (dIx (A6 2) (dC (.int 1))) [(some (.val (scr ns))),(some (.val (shD w1 h1 A))),(some (.val (shD w2 h1 B))),(some (.val (rwD ((List.range h1).map (A2 w1 A))))),(some (.val (rwD ((List.range h1).map (A2 w2 B))))),(some (.val rf)),none,none,none,none,none,none,none,none,none]=some true:=by
   unfold tB2
   rw [F6 i1 i2,O7];simp [E4]
  have u:A5 G0 (A0 (E2 (D7 2 [] (Y8 (qE (A1 3)) (qE (A1 4))) (F2 2 (B7 (C0 0) (B7 (C0 1) F8))) D2 (A4 E9 (A1 0) (A1 1)))) A3) [(some (.val (scr ns))),(some (.val (shD w1 h1 A))),(some (.val (shD w2 h1 B))),(some (.val (rwD ((List.range h1).map (A2 w1 A))))),(some (.val (rwD ((List.range h1).map (A2 w2 B))))),(some (.val rf)),none,none,none,none,none,none,none,none,none]=some (shD (w1+w2) h1 ((List.range h1).flatMap fun y=>A2 w1 A y++A2 w2 B y)):=by
   simp only [A5,A0,A3,E2,zc,xms,xbs,of1]
  unfold u6 sIf
  rw [cd,xbs,if_pos rfl,P8 u]
  rfl
 ·refine⟨rf,?_,k0B (bB fun z=>c z.1),aG6⟩
  have i1:dIx (A6 1) (dC (.int 1)) [(some (.val (scr ns))),(some (.val (shD w1 h1 A))),(some (.val (shD w2 h2 B))),(some (.val (rwD ((List.range h1).map (A2 w1 A))))),(some (.val (rwD ((List.range h2).map (A2 w2 B))))),(some (.val rf)),none,none,none,none,none,none,none,none,none]=some (.int h1):=rfl
  have i2:dIx (A6 2) (dC (.int 1)) [(some (.val (scr ns))),(some (.val (shD w1 h1 A))),(some (.val (shD w2 h2 B))),(some (.val (rwD ((List.range h1).map (A2 w1 A))))),(some (.val (rwD ((List.range h2).map (A2 w2 B))))),(some (.val rf)),none,none,none,none,none,none,none,none,none]=some (.int h2):=rfl
  have cd:tB2 eqD (dIx (A6 1) (dC (.int 1))) (dIx (A6 2) (dC (.int 1))) [(some (.val (scr ns))),(some (.val (shD w1 h1 A))),(some (.val (shD w2 h2 B))),(some (.val (rwD ((List.range h1).map (A2 w1 A))))),(some (.val (rwD ((List.range h2).map (A2 w2 B))))),(some (.val rf)),none,none,none,none,none,none,none,none,none]=some false:=by
   unfold tB2
   rw [F6 i1 i2,O7,beq_eq_false_iff_ne.mpr (by omega)];rfl
  unfold u6 sIf
  rw [cd];rfl
theorem bs8(ns:List Int) {w1 h1 w2 h2:Nat}{A B:List Q4}(S:ShOk 8 w1 h1 A) (T:ShOk 8 w2 h2 B) (b1:w1<=3) (b2:h1<=3) (b3:w2<=3) (b4:h2<=3) (d:D):u5 [(some (.val (scr ns))),(some (.val (shD w1 h1 A))),(some (.val (shD w2 h2 B))),(some (.val (rwD ((List.range h1).map (A2 w1 A))))),(some (.val (rwD ((List.range h2).map (A2 w2 B))))),(some (.val d)),none,none,none,none,none,none,none,none,none]=some (.nx [(some (.val (scr ns))),(some (.val (shD w1 h1 A))),(some (.val (shD w2 h2 B))),(some (.val (rwD ((List.range h1).map (A2 w1 A))))),(some (.val (rwD ((List.range h2).map (A2 w2 B))))),(some (.val d)),none,none,none,none,none,none,none,none,none]):=by
 have sw:=S.w1
 have sh:=S.h1
 have tw:=T.w1
 have th:=T.h1
 have la:=S.len
 have lb:=T.len
 have a9:w1*h1<=9:=Nat.mul_le_mul b1 b2
 have b9:w2*h2<=9:=Nat.mul_le_mul b3 b4
 obtain⟨lA,lB⟩:=aa7 S T
 obtain⟨k1A,k1B⟩:=P5 (k:=1) (p:=(shD w1 h1 A)) (d:=(shD w2 h2 B)) (.inr (.inl ⟨rfl,rfl,rfl⟩))
 have i1:dIx (A6 1) (dC (.int 0)) [(some (.val (scr ns))),(some (.val (shD w1 h1 A))),(some (.val (shD w2 h2 B))),(some (.val (rwD ((List.range h1).map (A2 w1 A))))),(some (.val (rwD ((List.range h2).map (A2 w2 B))))),(some (.val d)),none,none,none,none,none,none,none,none,none]=some (.int w1):=rfl
 have i2:dIx (A6 2) (dC (.int 0)) [(some (.val (scr ns))),(some (.val (shD w1 h1 A))),(some (.val (shD w2 h2 B))),(some (.val (rwD ((List.range h1).map (A2 w1 A))))),(some (.val (rwD ((List.range h2).map (A2 w2 B))))),(some (.val d)),none,none,none,none,none,none,none,none,none]=some (.int w2):=rfl
 by_cases c:w1=w2
 ·obtain⟨f1,f2⟩:=lA ⟨c,by omega⟩
  have e1:=k1A _ f2 f1
  have of1:G0 [rwD ((List.range h1).map (A2 w1 A)++(List.range h2).map (A2 w2 B))]=some (shD w1 (h1+h2) (A++B)):=by
   refine ah2 (fun z=>by
    have:=congrArg List.length z
    rw [List.length_append,List.length_map,List.length_range]at this
    simp at this;omega) (by rw [List.length_append,List.length_map,List.length_map,List.length_range,List.length_range]) (fun r hr=>by
    rcases List.mem_append.mp hr with hr|hr
    ·obtain⟨y,_,rfl⟩:=List.mem_map.mp hr
     exact M1 w1 A y
    ·obtain⟨y,_,rfl⟩:=List.mem_map.mp hr
     rw [c];exact M1 w2 B y) (by rw [List.flatten_append,as1,as1,ac9 sw la,ac9 tw lb]) (by rw [List.length_append];omega)
  have ct:=au7 (R:=(List.range h1).map (A2 w1 A)) (T:=(List.range h2).map (A2 w2 B)) (by rw [List.length_map,List.length_map,List.length_range,List.length_range];omega)
  have cd:tB2 eqD (dIx (A6 1) (dC (.int 0))) (dIx (A6 2) (dC (.int 0))) [(some (.val (scr ns))),(some (.val (shD w1 h1 A))),(some (.val (shD w2 h2 B))),(some (.val (rwD ((List.range h1).map (A2 w1 A))))),(some (.val (rwD ((List.range h2).map (A2 w2 B))))),(some (.val d)),none,none,none,none,none,none,none,none,none]=some true:=by
   unfold tB2
   rw [F6 i1 i2,O7,c];simp [E4]
  have di:L6 (tB2 eqD (dIx (A6 1) (dC (.int 0))) (dIx (A6 2) (dC (.int 0)))) (A5 G0 (A0 (A4 E9 (A1 3) (A1 4)) A3)) (C9 (A0 (dC (.str "refused")) (A0 (dC (.int 0)) A3))) [(some (.val (scr ns))),(some (.val (shD w1 h1 A))),(some (.val (shD w2 h2 B))),(some (.val (rwD ((List.range h1).map (A2 w1 A))))),(some (.val (rwD ((List.range h2).map (A2 w2 B))))),(some (.val d)),none,none,none,none,none,none,none,none,none]=some (shD w1 (h1+h2) (A++B)):=by
   have v3:A1 3 [(some (.val (scr ns))),(some (.val (shD w1 h1 A))),(some (.val (shD w2 h2 B))),(some (.val (rwD ((List.range h1).map (A2 w1 A))))),(some (.val (rwD ((List.range h2).map (A2 w2 B))))),(some (.val d)),none,none,none,none,none,none,none,none,none]=some (rwD ((List.range h1).map (A2 w1 A))):=rfl
   have v4:A1 4 [(some (.val (scr ns))),(some (.val (shD w1 h1 A))),(some (.val (shD w2 h2 B))),(some (.val (rwD ((List.range h1).map (A2 w1 A))))),(some (.val (rwD ((List.range h2).map (A2 w2 B))))),(some (.val d)),none,none,none,none,none,none,none,none,none]=some (rwD ((List.range h2).map (A2 w2 B))):=rfl
   have cc:=(F6 (o:=E9) v3 v4).trans ct
   unfold L6
   rw [cd,xbs,if_pos rfl]
   simp only [A5,A0,A3,cc,xms,xbs,of1]
  have u1:A5 B8 (A0 (dC (.int 1)) (A0 (A1 1) (A0 (A1 2) A3))) [(some (.val (scr ns))),(some (.val (shD w1 h1 A))),(some (.val (shD w2 h2 B))),(some (.val (rwD ((List.range h1).map (A2 w1 A))))),(some (.val (rwD ((List.range h2).map (A2 w2 B))))),(some (.val d)),none,none,none,none,none,none,none,none,none]=some (shD w1 (h1+h2) (A++B)):=e1
  have u3:tB2 neD (A5 B8 (A0 (dC (.int 1)) (A0 (A1 1) (A0 (A1 2) A3)))) (L6 (tB2 eqD (dIx (A6 1) (dC (.int 0))) (dIx (A6 2) (dC (.int 0)))) (A5 G0 (A0 (A4 E9 (A1 3) (A1 4)) A3)) (C9 (A0 (dC (.str "refused")) (A0 (dC (.int 0)) A3)))) [(some (.val (scr ns))),(some (.val (shD w1 h1 A))),(some (.val (shD w2 h2 B))),(some (.val (rwD ((List.range h1).map (A2 w1 A))))),(some (.val (rwD ((List.range h2).map (A2 w2 B))))),(some (.val d)),none,none,none,none,none,none,none,none,none]=some false:=by
   unfold tB2
   have:=(F6 (o:=neD) u1 di).trans (au3 _ _ _)
   unfold tB2 at this
   rw [this];rfl
  simp only [u5,sIf,u3,xbs,xft,if_false,E1]
 ·have e1:=k1B (lB fun z=>c z.1)
  have cd:tB2 eqD (dIx (A6 1) (dC (.int 0))) (dIx (A6 2) (dC (.int 0))) [(some (.val (scr ns))),(some (.val (shD w1 h1 A))),(some (.val (shD w2 h2 B))),(some (.val (rwD ((List.range h1).map (A2 w1 A))))),(some (.val (rwD ((List.range h2).map (A2 w2 B))))),(some (.val d)),none,none,none,none,none,none,none,none,none]=some false:=by
   unfold tB2
   rw [F6 i1 i2,O7,beq_eq_false_iff_ne.mpr (by omega)];rfl
  have di:L6 (tB2 eqD (dIx (A6 1) (dC (.int 0))) (dIx (A6 2) (dC (.int 0)))) (A5 G0 (A0 (A4 E9 (A1 3) (A1 4)) A3)) (C9 (A0 (dC (.str "refused")) (A0 (dC (.int 0)) A3))) [(some (.val (scr ns))),(some (.val (shD w1 h1 A))),(some (.val (shD w2 h2 B))),(some (.val (rwD ((List.range h1).map (A2 w1 A))))),(some (.val (rwD ((List.range h2).map (A2 w2 B))))),(some (.val d)),none,none,none,none,none,none,none,none,none]=some rf:=by
   unfold L6
   rw [cd];rfl
  have u1:A5 B8 (A0 (dC (.int 1)) (A0 (A1 1) (A0 (A1 2) A3))) [(some (.val (scr ns))),(some (.val (shD w1 h1 A))),(some (.val (shD w2 h2 B))),(some (.val (rwD ((List.range h1).map (A2 w1 A))))),(some (.val (rwD ((List.range h2).map (A2 w2 B))))),(some (.val d)),none,none,none,none,none,none,none,none,none]=some rf:=e1
  have u3:tB2 neD (A5 B8 (A0 (dC (.int 1)) (A0 (A1 1) (A0 (A1 2) A3)))) (L6 (tB2 eqD (dIx (A6 1) (dC (.int 0))) (dIx (A6 2) (dC (.int 0)))) (A5 G0 (A0 (A4 E9 (A1 3) (A1 4)) A3)) (C9 (A0 (dC (.str "refused")) (A0 (dC (.int 0)) A3)))) [(some (.val (scr ns))),(some (.val (shD w1 h1 A))),(some (.val (shD w2 h2 B))),(some (.val (rwD ((List.range h1).map (A2 w1 A))))),(some (.val (rwD ((List.range h2).map (A2 w2 B))))),(some (.val d)),none,none,none,none,none,none,none,none,none]=some false:=by
   have:=(F6 (o:=neD) u1 di).trans aG6
   unfold tB2 at this ⊢
   rw [this];rfl
  simp only [u5,sIf,u3,xbs,xft,if_false,E1]
theorem bs7(ns:List Int) {w1 h1 w2 h2:Nat}{A B:List Q4}(S:ShOk 8 w1 h1 A) (T:ShOk 8 w2 h2 B) (b1:w1<=3) (b2:h1<=3) (b3:w2<=3) (b4:h2<=3) (d:D):∃a5 a6 a7 a8 a9 a10,af3 [(some (.val (scr ns))),(some (.val (shD w1 h1 A))),(some (.val (shD w2 h2 B))),(some (.val (rwD ((List.range h1).map (A2 w1 A))))),(some (.val (rwD ((List.range h2).map (A2 w2 B))))),(some (.val d)),none,none,none,none,none,none,none,none,none]=some (.nx [(some (.val (scr ns))),(some (.val (shD w1 h1 A))),(some (.val (shD w2 h2 B))),(some (.val (rwD ((List.range h1).map (A2 w1 A))))),(some (.val (rwD ((List.range h2).map (A2 w2 B))))),a5,a6,a7,a8,a9,a10,none,none,none,none]):=by
 have sw:=S.w1
 have sh:=S.h1
 have tw:=T.w1
 have th:=T.h1
 have la:=S.len
 have lb:=T.len
 have a9:w1*h1<=9:=Nat.mul_le_mul b1 b2
 have b9:w2*h2<=9:=Nat.mul_le_mul b3 b4
 obtain⟨ρ',e,a5,a6,a7,a8,a9,a10,rfl⟩:=an3 (g:=C0 6) (f:=b7) (I:=fun ρ=>∃a5 a6 a7 a8 a9 a10,ρ=[(some (.val (scr ns))),(some (.val (shD w1 h1 A))),(some (.val (shD w2 h2 B))),(some (.val (rwD ((List.range h1).map (A2 w1 A))))),(some (.val (rwD ((List.range h2).map (A2 w2 B))))),a5,a6,a7,a8,a9,a10,none,none,none,none]) [.int (-1),.int 0,.int 1,.int 2,.int 3,.int 4] [(some (.val (scr ns))),(some (.val (shD w1 h1 A))),(some (.val (shD w2 h2 B))),(some (.val (rwD ((List.range h1).map (A2 w1 A))))),(some (.val (rwD ((List.range h2).map (A2 w2 B))))),(some (.val d)),none,none,none,none,none,none,none,none,none] ⟨_,_,_,_,_,_,rfl⟩ (fun x hx ρ hρ=>by
  obtain⟨a5,a6,a7,a8,a9,a10,rfl⟩:=hρ
  obtain⟨i,rfl,i1,i2⟩:∃i:Int,x=.int i/\-1<=i/\i<=4:=by
   simp only [List.mem_cons,List.not_mem_nil,or_false]at hx
   rcases hx with rfl|rfl|rfl|rfl|rfl|rfl<;>exact⟨_,rfl,by omega,by omega⟩
  obtain⟨d',c7,c8,c9,c10,eb⟩:=by5 S i1 i2 (some (.val (scr ns))) (some (.val (shD w2 h2 B))) (some (.val (rwD ((List.range h2).map (A2 w2 B))))) a5 a7 a8 a9 a10
  exact⟨_,rfl,_,eb,_,_,_,_,_,_,rfl⟩)
 refine⟨a5,a6,a7,a8,a9,a10,?_⟩
 have:af3 [(some (.val (scr ns))),(some (.val (shD w1 h1 A))),(some (.val (shD w2 h2 B))),(some (.val (rwD ((List.range h1).map (A2 w1 A))))),(some (.val (rwD ((List.range h2).map (A2 w2 B))))),(some (.val d)),none,none,none,none,none,none,none,none,none]=(ad9 (ao0 (dC (.int 1))) (dC (.int 5)) [(some (.val (scr ns))),(some (.val (shD w1 h1 A))),(some (.val (shD w2 h2 B))),(some (.val (rwD ((List.range h1).map (A2 w1 A))))),(some (.val (rwD ((List.range h2).map (A2 w2 B))))),(some (.val d)),none,none,none,none,none,none,none,none,none]).bind fun ds=>W1 (C0 6) b7 ds [(some (.val (scr ns))),(some (.val (shD w1 h1 A))),(some (.val (shD w2 h2 B))),(some (.val (rwD ((List.range h1).map (A2 w1 A))))),(some (.val (rwD ((List.range h2).map (A2 w2 B))))),(some (.val d)),none,none,none,none,none,none,none,none,none]:=rfl
 rw [this,rg6,xbs]
 exact e
theorem aR8(ns:List Int) {w1 h1 w2 h2:Nat}{A B:List Q4}(S:ShOk 8 w1 h1 A) (T:ShOk 8 w2 h2 B) (b1:w1<=3) (b2:h1<=3) (b3:w2<=3) (b4:h2<=3) (a5 a6 a7 a8 a9 a10:Option G.B):(B1 u4 (B1 r9 (B1 X1 (B1 X0 (B1 W9 W8))))) [(some (.val (scr ns))),(some (.val (shD w1 h1 A))),(some (.val (shD w2 h2 B))),(some (.val (rwD ((List.range h1).map (A2 w1 A))))),(some (.val (rwD ((List.range h2).map (A2 w2 B))))),a5,a6,a7,a8,a9,a10,none,none,none,none]=some (.rt (.bool true)):=by
 have sw:=S.w1
 have sh:=S.h1
 have tw:=T.w1
 have th:=T.h1
 have la:=S.len
 have lb:=T.len
 have a9x:w1*h1<=9:=Nat.mul_le_mul b1 b2
 have b9:w2*h2<=9:=Nat.mul_le_mul b3 b4
 obtain⟨q,A',eA⟩:∃q A',A=q::A':=by
  cases A with
  | nil=>rw [List.length_nil]at la;have:1<=w1*h1:=Nat.mul_le_mul sw sh;omega
  | cons q A'=>exact⟨q,A',rfl⟩
 have hq:q.ok 8:=S.ok q (by rw [eA];exact List.mem_cons_self ..)
 have t8:u4 [(some (.val (scr ns))),(some (.val (shD w1 h1 A))),(some (.val (shD w2 h2 B))),(some (.val (rwD ((List.range h1).map (A2 w1 A))))),(some (.val (rwD ((List.range h2).map (A2 w2 B))))),a5,a6,a7,a8,a9,a10,none,none,none,none]=some (.nx [(some (.val (scr ns))),(some (.val (shD w1 h1 A))),(some (.val (shD w2 h2 B))),(some (.val (rwD ((List.range h1).map (A2 w1 A))))),(some (.val (rwD ((List.range h2).map (A2 w2 B))))),a5,a6,a7,a8,a9,(some (.val q.d)),none,none,none,none]):=by
  have a0:atI (A.map Q4.d) 0=some q.d:=by
   rw [eA]
   unfold atI
   rw [ar5 (by omega) (by simp)]
   rfl
  have u:dIx (qE (dIx (A6 1) (dC (.int 2)))) (dC (.int 0)) [(some (.val (scr ns))),(some (.val (shD w1 h1 A))),(some (.val (shD w2 h2 B))),(some (.val (rwD ((List.range h1).map (A2 w1 A))))),(some (.val (rwD ((List.range h2).map (A2 w2 B))))),a5,a6,a7,a8,a9,a10,none,none,none,none]=some q.d:=by
   have w0:dIx (A6 1) (dC (.int 2)) [(some (.val (scr ns))),(some (.val (shD w1 h1 A))),(some (.val (shD w2 h2 B))),(some (.val (rwD ((List.range h1).map (A2 w1 A))))),(some (.val (rwD ((List.range h2).map (A2 w2 B))))),a5,a6,a7,a8,a9,a10,none,none,none,none]=some (.tuple (A.map Q4.d)):=rfl
   simp only [dIx,qE]at w0 ⊢
   rw [w0]
   simp only [P7,dC,xbs,a0]
  unfold u4
  rw [P8 u]
  rfl
 have m5:=y8 q (n:=5) (by decide) (by decide)
 have m4:=y8 q (n:=4) (by decide) (by decide)
 have m8:=y8 q (n:=8) (by decide) (by decide)
 have m5:D6 (.tuple [q.d]) (.int 5)=some (.tuple ((List.replicate 5 q).map Q4.d)):=m5
 have m4:D6 (.tuple [q.d]) (.int 4)=some (.tuple ((List.replicate 4 q).map Q4.d)):=m4
 have m8:D6 (.tuple [q.d]) (.int 8)=some (.tuple ((List.replicate 8 q).map Q4.d)):=m8
 have t9:r9 [(some (.val (scr ns))),(some (.val (shD w1 h1 A))),(some (.val (shD w2 h2 B))),(some (.val (rwD ((List.range h1).map (A2 w1 A))))),(some (.val (rwD ((List.range h2).map (A2 w2 B))))),a5,a6,a7,a8,a9,(some (.val q.d)),none,none,none,none]=some (.nx [(some (.val (scr ns))),(some (.val (shD w1 h1 A))),(some (.val (shD w2 h2 B))),(some (.val (rwD ((List.range h1).map (A2 w1 A))))),(some (.val (rwD ((List.range h2).map (A2 w2 B))))),a5,a6,a7,a8,a9,(some (.val q.d)),(some (.val (shD 5 1 (List.replicate 5 q)))),(some (.val (shD 4 1 (List.replicate 4 q)))),none,none]):=by
  have u:A0 (C9 (A0 (dC (.int 5)) (A0 (dC (.int 1)) (A0 (A4 D6 (C9 (A0 (A1 10) A3)) (dC (.int 5))) A3)))) (A0 (C9 (A0 (dC (.int 4)) (A0 (dC (.int 1)) (A0 (A4 D6 (C9 (A0 (A1 10) A3)) (dC (.int 4))) A3)))) A3) [(some (.val (scr ns))),(some (.val (shD w1 h1 A))),(some (.val (shD w2 h2 B))),(some (.val (rwD ((List.range h1).map (A2 w1 A))))),(some (.val (rwD ((List.range h2).map (A2 w2 B))))),a5,a6,a7,a8,a9,(some (.val q.d)),none,none,none,none]=some [(shD 5 1 (List.replicate 5 q)),(shD 4 1 (List.replicate 4 q))]:=by
   wp_walk using evD,m5,m4
   rfl
  unfold r9 X4
  rw [u];rfl
 have t10:X1 [(some (.val (scr ns))),(some (.val (shD w1 h1 A))),(some (.val (shD w2 h2 B))),(some (.val (rwD ((List.range h1).map (A2 w1 A))))),(some (.val (rwD ((List.range h2).map (A2 w2 B))))),a5,a6,a7,a8,a9,(some (.val q.d)),(some (.val (shD 5 1 (List.replicate 5 q)))),(some (.val (shD 4 1 (List.replicate 4 q)))),none,none]=some (.nx [(some (.val (scr ns))),(some (.val (shD w1 h1 A))),(some (.val (shD w2 h2 B))),(some (.val (rwD ((List.range h1).map (A2 w1 A))))),(some (.val (rwD ((List.range h2).map (A2 w2 B))))),a5,a6,a7,a8,a9,(some (.val q.d)),(some (.val (shD 5 1 (List.replicate 5 q)))),(some (.val (shD 4 1 (List.replicate 4 q)))),(some (.val (shD 1 5 (List.replicate 5 q)))),(some (.val (shD 1 4 (List.replicate 4 q))))]):=by
  have u:A0 (C9 (A0 (dC (.int 1)) (A0 (dC (.int 5)) (A0 (A4 D6 (C9 (A0 (A1 10) A3)) (dC (.int 5))) A3)))) (A0 (C9 (A0 (dC (.int 1)) (A0 (dC (.int 4)) (A0 (A4 D6 (C9 (A0 (A1 10) A3)) (dC (.int 4))) A3)))) A3) [(some (.val (scr ns))),(some (.val (shD w1 h1 A))),(some (.val (shD w2 h2 B))),(some (.val (rwD ((List.range h1).map (A2 w1 A))))),(some (.val (rwD ((List.range h2).map (A2 w2 B))))),a5,a6,a7,a8,a9,(some (.val q.d)),(some (.val (shD 5 1 (List.replicate 5 q)))),(some (.val (shD 4 1 (List.replicate 4 q)))),none,none]=some [(shD 1 5 (List.replicate 5 q)),(shD 1 4 (List.replicate 4 q))]:=by
   wp_walk using evD,m5,m4
   rfl
  unfold X1 X4
  rw [u];rfl
 have F5:=ag0 q hq (w:=5) (h:=1) (n:=5) (by decide) (by decide) (by decide) (by decide) rfl
 have F4:=ag0 q hq (w:=4) (h:=1) (n:=4) (by decide) (by decide) (by decide) (by decide) rfl
 have T5:=ag0 q hq (w:=1) (h:=5) (n:=5) (by decide) (by decide) (by decide) (by decide) rfl
 have T4:=ag0 q hq (w:=1) (h:=4) (n:=4) (by decide) (by decide) (by decide) (by decide) rfl
 have x1:=(P5 (k:=0) (p:=(shD 5 1 (List.replicate 5 q))) (d:=(shD 4 1 (List.replicate 4 q))) (.inl ⟨rfl,rfl,rfl⟩)).2 ((k4 F5 F4).2 (by decide))
 have x2:=(P5 (k:=1) (p:=(shD 1 5 (List.replicate 5 q))) (d:=(shD 1 4 (List.replicate 4 q))) (.inr (.inl ⟨rfl,rfl,rfl⟩))).2 ((aa7 T5 T4).2 (by decide))
 have ap:List.replicate 4 q++List.replicate 4 q=List.replicate 8 q:=by rw [List.replicate_append_replicate]
 have x3:B8 [.int 0,(shD 4 1 (List.replicate 4 q)),(shD 4 1 (List.replicate 4 q))]=some (shD 8 1 (List.replicate 8 q)):=by
  obtain⟨f1,f2⟩:=(k4 F4 F4).1 ⟨rfl,by decide⟩
  have rr:((List.range 1).flatMap fun y=>A2 4 (List.replicate 4 q) y++A2 4 (List.replicate 4 q) y)=List.replicate 8 q:=by
   show(A2 4 (List.replicate 4 q) 0++A2 4 (List.replicate 4 q) 0)++[]=_
   rw [List.append_nil,aS3 q,ap]
  rw [rr]at f1
  exact(P5 (k:=0) (p:=(shD 4 1 (List.replicate 4 q))) (d:=(shD 4 1 (List.replicate 4 q))) (.inl ⟨rfl,rfl,rfl⟩)).1 _ f2 f1
 have x4:B8 [.int 1,(shD 1 4 (List.replicate 4 q)),(shD 1 4 (List.replicate 4 q))]=some (shD 1 8 (List.replicate 8 q)):=by
  obtain⟨f1,f2⟩:=(aa7 T4 T4).1 ⟨rfl,by decide⟩
  rw [ap]at f1
  exact(P5 (k:=1) (p:=(shD 1 4 (List.replicate 4 q))) (d:=(shD 1 4 (List.replicate 4 q))) (.inr (.inl ⟨rfl,rfl,rfl⟩))).1 _ f2 f1
 have x1:B8 [.int 0,(shD 5 1 (List.replicate 5 q)),(shD 4 1 (List.replicate 4 q))]=some rf:=x1
 have x2:B8 [.int 1,(shD 1 5 (List.replicate 5 q)),(shD 1 4 (List.replicate 4 q))]=some rf:=x2
 have ml2:D6 (.list [rf]) (.int 2)=some (.list [rf,rf]):=y9 (xs:=[rf]) (n:=2) (by decide) (by decide)
 have t11:X0 [(some (.val (scr ns))),(some (.val (shD w1 h1 A))),(some (.val (shD w2 h2 B))),(some (.val (rwD ((List.range h1).map (A2 w1 A))))),(some (.val (rwD ((List.range h2).map (A2 w2 B))))),a5,a6,a7,a8,a9,(some (.val q.d)),(some (.val (shD 5 1 (List.replicate 5 q)))),(some (.val (shD 4 1 (List.replicate 4 q)))),(some (.val (shD 1 5 (List.replicate 5 q)))),(some (.val (shD 1 4 (List.replicate 4 q))))]=some (.nx [(some (.val (scr ns))),(some (.val (shD w1 h1 A))),(some (.val (shD w2 h2 B))),(some (.val (rwD ((List.range h1).map (A2 w1 A))))),(some (.val (rwD ((List.range h2).map (A2 w2 B))))),a5,a6,a7,a8,a9,(some (.val q.d)),(some (.val (shD 5 1 (List.replicate 5 q)))),(some (.val (shD 4 1 (List.replicate 4 q)))),(some (.val (shD 1 5 (List.replicate 5 q)))),(some (.val (shD 1 4 (List.replicate 4 q))))]):=by
  wp_walk using evD,X0,x1,x2,ml2,bt5
 have n8:neD (shD 8 1 (List.replicate 8 q)) (.tuple [.int 8,.int 1,.tuple ((List.replicate 8 q).map Q4.d)])=some (.bool false):=au3 8 1 (List.replicate 8 q)
 have q8:eqD (shD 1 8 (List.replicate 8 q)) (.tuple [.int 1,.int 8,.tuple ((List.replicate 8 q).map Q4.d)])=some (.bool true):=aY9 (Ly.sheet 1 8 (List.replicate 8 q)) (by decide)
 have t12:W9 [(some (.val (scr ns))),(some (.val (shD w1 h1 A))),(some (.val (shD w2 h2 B))),(some (.val (rwD ((List.range h1).map (A2 w1 A))))),(some (.val (rwD ((List.range h2).map (A2 w2 B))))),a5,a6,a7,a8,a9,(some (.val q.d)),(some (.val (shD 5 1 (List.replicate 5 q)))),(some (.val (shD 4 1 (List.replicate 4 q)))),(some (.val (shD 1 5 (List.replicate 5 q)))),(some (.val (shD 1 4 (List.replicate 4 q))))]=some (.nx [(some (.val (scr ns))),(some (.val (shD w1 h1 A))),(some (.val (shD w2 h2 B))),(some (.val (rwD ((List.range h1).map (A2 w1 A))))),(some (.val (rwD ((List.range h2).map (A2 w2 B))))),a5,a6,a7,a8,a9,(some (.val q.d)),(some (.val (shD 5 1 (List.replicate 5 q)))),(some (.val (shD 4 1 (List.replicate 4 q)))),(some (.val (shD 1 5 (List.replicate 5 q)))),(some (.val (shD 1 4 (List.replicate 4 q))))]):=by
  wp_walk using evD,W9,x3,m8,n8
 have t13:W8 [(some (.val (scr ns))),(some (.val (shD w1 h1 A))),(some (.val (shD w2 h2 B))),(some (.val (rwD ((List.range h1).map (A2 w1 A))))),(some (.val (rwD ((List.range h2).map (A2 w2 B))))),a5,a6,a7,a8,a9,(some (.val q.d)),(some (.val (shD 5 1 (List.replicate 5 q)))),(some (.val (shD 4 1 (List.replicate 4 q)))),(some (.val (shD 1 5 (List.replicate 5 q)))),(some (.val (shD 1 4 (List.replicate 4 q))))]=some (.rt (.bool true)):=by
  wp_walk using evD,W8,x4,m8,q8
 rw [C4 t8,C4 t9,C4 t10,C4 t11,C4 t12]
 exact t13
theorem bf7(F:List D->Option D) (p a b M Y:D) (u1:F [a]=some M) (u2:F [b]=some Y):X4 3 4 (A0 (A5 F (A0 (A1 1) A3)) (A0 (A5 F (A0 (A1 2) A3)) A3)) [some (.val p),some (.val a),some (.val b),none,none,none,none,none,none,none,none,none,none,none,none]=some (.nx [some (.val p),some (.val a),some (.val b),some (.val M),some (.val Y),none,none,none,none,none,none,none,none,none,none]):=by
 simp only [X4,A0,A3,A5,A1,xg0,xg1,xbs,xms,u1,u2,xw0,xw1]
theorem bt1(ns:List Int) {w1 h1 w2 h2:Nat}{A B:List Q4}(S:ShOk 8 w1 h1 A) (T:ShOk 8 w2 h2 B):af5 [(some (.val (scr ns))),(some (.val (shD w1 h1 A))),(some (.val (shD w2 h2 B))),none,none,none,none,none,none,none,none,none,none,none,none]=some (.nx [(some (.val (scr ns))),(some (.val (shD w1 h1 A))),(some (.val (shD w2 h2 B))),(some (.val (rwD ((List.range h1).map (A2 w1 A))))),(some (.val (rwD ((List.range h2).map (A2 w2 B))))),none,none,none,none,none,none,none,none,none,none]):=by
 unfold af5
 exact bf7 P1 _ _ _ _ _ (au8 S) (au8 T)
theorem bt0(ns:List Int) {w1 h1 w2 h2:Nat}{A B:List Q4}(S:ShOk 8 w1 h1 A) (T:ShOk 8 w2 h2 B):ap9 [(some (.val (scr ns))),(some (.val (shD w1 h1 A))),(some (.val (shD w2 h2 B))),(some (.val (rwD ((List.range h1).map (A2 w1 A))))),(some (.val (rwD ((List.range h2).map (A2 w2 B))))),none,none,none,none,none,none,none,none,none,none]=some (.nx [(some (.val (scr ns))),(some (.val (shD w1 h1 A))),(some (.val (shD w2 h2 B))),(some (.val (rwD ((List.range h1).map (A2 w1 A))))),(some (.val (rwD ((List.range h2).map (A2 w2 B))))),(some (.val rf)),none,none,none,none,none,none,none,none,none]):=rfl
theorem bs9(ns:List Int) {w1 h1 w2 h2:Nat}{A B:List Q4}(S:ShOk 8 w1 h1 A) (T:ShOk 8 w2 h2 B) {d:D}(e0:B8 [.int 0,(shD w1 h1 A),(shD w2 h2 B)]=some d) (n0:neD d d=some (.bool false)):af4 [(some (.val (scr ns))),(some (.val (shD w1 h1 A))),(some (.val (shD w2 h2 B))),(some (.val (rwD ((List.range h1).map (A2 w1 A))))),(some (.val (rwD ((List.range h2).map (A2 w2 B))))),(some (.val d)),none,none,none,none,none,none,none,none,none]=some (.nx [(some (.val (scr ns))),(some (.val (shD w1 h1 A))),(some (.val (shD w2 h2 B))),(some (.val (rwD ((List.range h1).map (A2 w1 A))))),(some (.val (rwD ((List.range h2).map (A2 w2 B))))),(some (.val d)),none,none,none,none,none,none,none,none,none]):=by
 wp_walk using evD,af4,e0,n0
theorem af9(ns:List Int) {w1 h1 w2 h2:Nat}{A B:List Q4}(S:ShOk 8 w1 h1 A) (T:ShOk 8 w2 h2 B) (b1:w1<=3) (b2:h1<=3) (b3:w2<=3) (b4:h2<=3) :
  (B1 af5 (B1 ap9 (B1 u6 (B1 af4 (B1 u5 (B1 af3 (B1 u4 (B1 r9 (B1 X1 (B1 X0 (B1 W9 W8))))))))))) [(some (.val (scr ns))),(some (.val (shD w1 h1 A))),(some (.val (shD w2 h2 B))),none,none,none,none,none,none,none,none,none,none,none,none]=some (.rt (.bool true)):=by
 have t2:=bt1 ns S T
 have t3:=bt0 ns S T
 obtain⟨d,t4,e0,n0⟩:=bf6 ns S T b1 b2 b3 b4
 have t5:=bs9 ns S T e0 n0
 have t6:=bs8 ns S T b1 b2 b3 b4 d
 obtain⟨a5,a6,a7,a8,a9,a10,t7⟩:=bs7 ns S T b1 b2 b3 b4 d
 rw [C4 t2,C4 t3,C4 t4,C4 t5,C4 t6,C4 t7]
 exact aR8 ns S T b1 b2 b3 b4 a5 a6 a7 a8 a9 a10
theorem main:∀ns:List Int,ns.length<=63->az2 [.list (ns.map PyData.int)]=some (.bool true):=by
 intro ns hn
 obtain⟨w1,h1,A,e1,S,b1,b2⟩:=aQ4 ns hn 0 (by decide)
 obtain⟨w2,h2,B,e2,T,b3,b4⟩:=aQ4 ns hn 150 (by decide)
 have e1:M4 [scr ns,.int 0]=some (shD w1 h1 A):=e1
 have e2:M4 [scr ns,.int 150]=some (shD w2 h2 B):=e2
 obtain⟨x,ex,_⟩:=ai5 ns hn (e:=300) (m':=2) 300 2 rfl rfl (by decide) (by decide)
 obtain⟨C,eC,U⟩:=ak1 ns hn (e:=150) 150 w1 h2 rfl (by decide) S.w1 S.w8 T.h1 T.h8
 refine F7 (ρ:=[some (.val (scr ns)),none,none,none,none,none,none,none,none,none,none,none,none,none,none]) rfl ?_
 have t0:aq0 [some (.val (scr ns)),none,none,none,none,none,none,none,none,none,none,none,none,none,none]=some (.nx [(some (.val (scr ns))),(some (.val (shD w1 h1 A))),(some (.val (shD w2 h2 B))),none,none,none,none,none,none,none,none,none,none,none,none]):=by
  have u:A0 (A5 M4 (A0 (A1 0) (A0 (dC (.int 0)) A3))) (A0 (A5 M4 (A0 (A1 0) (A0 (dC (.int 150)) A3))) A3) [some (.val (scr ns)),none,none,none,none,none,none,none,none,none,none,none,none,none,none]=some [(shD w1 h1 A),(shD w2 h2 B)]:=by
   wp_walk using evD,e1,e2
  unfold aq0 X4
  rw [u];rfl
 unfold bc2
 rw [C4 t0]
 have i1:dIx (A6 1) (dC (.int 1)) [(some (.val (scr ns))),(some (.val (shD w1 h1 A))),(some (.val (shD w2 h2 B))),none,none,none,none,none,none,none,none,none,none,none,none]=some (.int h1):=rfl
 have i2:dIx (A6 2) (dC (.int 1)) [(some (.val (scr ns))),(some (.val (shD w1 h1 A))),(some (.val (shD w2 h2 B))),none,none,none,none,none,none,none,none,none,none,none,none]=some (.int h2):=rfl
 have i3:dIx (A6 1) (dC (.int 0)) [(some (.val (scr ns))),(some (.val (shD w1 h1 A))),(some (.val (shD w2 h2 B))),none,none,none,none,none,none,none,none,none,none,none,none]=some (.int w1):=rfl
 have v2:A1 2 [(some (.val (scr ns))),(some (.val (shD w1 h1 A))),(some (.val (shD w2 h2 B))),none,none,none,none,none,none,none,none,none,none,none,none]=some (shD w2 h2 B):=rfl
 have v0:A1 0 [(some (.val (scr ns))),(some (.val (shD w1 h1 A))),(some (.val (shD w2 h2 B))),none,none,none,none,none,none,none,none,none,none,none,none]=some (scr ns):=rfl
 have dr:A5 D5 (A0 (A1 0) (A0 (dC (.int 300)) (A0 (dC (.int 2)) A3))) [(some (.val (scr ns))),(some (.val (shD w1 h1 A))),(some (.val (shD w2 h2 B))),none,none,none,none,none,none,none,none,none,none,none,none]=some (.int x):=by wp_walk using evD,ex
 have dz:dC (.int 0) [(some (.val (scr ns))),(some (.val (shD w1 h1 A))),(some (.val (shD w2 h2 B))),none,none,none,none,none,none,none,none,none,none,none,none]=some (.int 0):=rfl
 have cd:tB2 eqD (A5 D5 (A0 (A1 0) (A0 (dC (.int 300)) (A0 (dC (.int 2)) A3)))) (dC (.int 0)) [(some (.val (scr ns))),(some (.val (shD w1 h1 A))),(some (.val (shD w2 h2 B))),none,none,none,none,none,none,none,none,none,none,none,none]=some ((x:Int)==0):=by
  unfold tB2
  rw [F6 dr dz,O7];rfl
 cases z:((x:Int)==0) with
 | false =>
  have t1:V3 [(some (.val (scr ns))),(some (.val (shD w1 h1 A))),(some (.val (shD w2 h2 B))),none,none,none,none,none,none,none,none,none,none,none,none]=some (.nx [(some (.val (scr ns))),(some (.val (shD w1 h1 A))),(some (.val (shD w2 h2 B))),none,none,none,none,none,none,none,none,none,none,none,none]):=by
   unfold V3 sIf
   rw [cd,z];rfl
  rw [C4 t1]
  exact af9 ns S T b1 b2 b3 b4
 | true =>
  by_cases c:h1=h2
  ·have t1:V3 [(some (.val (scr ns))),(some (.val (shD w1 h1 A))),(some (.val (shD w2 h2 B))),none,none,none,none,none,none,none,none,none,none,none,none]=some (.nx [(some (.val (scr ns))),(some (.val (shD w1 h1 A))),(some (.val (shD w2 h2 B))),none,none,none,none,none,none,none,none,none,none,none,none]):=by
    have ce:tB2 neD (dIx (A6 1) (dC (.int 1))) (dIx (A6 2) (dC (.int 1))) [(some (.val (scr ns))),(some (.val (shD w1 h1 A))),(some (.val (shD w2 h2 B))),none,none,none,none,none,none,none,none,none,none,none,none]=some false:=by
     unfold tB2
     rw [F6 i1 i2,R8,c];simp [E4]
    have u:L6 (tB2 neD (dIx (A6 1) (dC (.int 1))) (dIx (A6 2) (dC (.int 1)))) (A5 J8 (A0 (A1 0) (A0 (dC (.int 150)) (A0 (dIx (A6 1) (dC (.int 0))) (A0 (dIx (A6 2) (dC (.int 1))) A3))))) (A1 2) [(some (.val (scr ns))),(some (.val (shD w1 h1 A))),(some (.val (shD w2 h2 B))),none,none,none,none,none,none,none,none,none,none,none,none]=some (shD w2 h2 B):=by
     unfold L6
     rw [ce];rfl
    unfold V3 sIf
    rw [cd,z,xbs,if_pos rfl,P8 u]
    rfl
   rw [C4 t1]
   exact af9 ns S T b1 b2 b3 b4
  ·have t1:V3 [(some (.val (scr ns))),(some (.val (shD w1 h1 A))),(some (.val (shD w2 h2 B))),none,none,none,none,none,none,none,none,none,none,none,none]=some (.nx [(some (.val (scr ns))),(some (.val (shD w1 h1 A))),(some (.val (shD w1 h2 C))),none,none,none,none,none,none,none,none,none,none,none,none]):=by
    have ce:tB2 neD (dIx (A6 1) (dC (.int 1))) (dIx (A6 2) (dC (.int 1))) [(some (.val (scr ns))),(some (.val (shD w1 h1 A))),(some (.val (shD w2 h2 B))),none,none,none,none,none,none,none,none,none,none,none,none]=some true:=by
     unfold tB2
     rw [F6 i1 i2,R8,beq_eq_false_iff_ne.mpr (by omega)];rfl
    have u:L6 (tB2 neD (dIx (A6 1) (dC (.int 1))) (dIx (A6 2) (dC (.int 1)))) (A5 J8 (A0 (A1 0) (A0 (dC (.int 150)) (A0 (dIx (A6 1) (dC (.int 0))) (A0 (dIx (A6 2) (dC (.int 1))) A3))))) (A1 2) [(some (.val (scr ns))),(some (.val (shD w1 h1 A))),(some (.val (shD w2 h2 B))),none,none,none,none,none,none,none,none,none,none,none,none]=some (shD w1 h2 C):=by
     unfold L6
     rw [ce,xbs,if_pos rfl]
     simp only [A5,A0,A3,dC,v0,i3,i2,xms,xbs,eC]
    unfold V3 sIf
    rw [cd,z,xbs,if_pos rfl,P8 u]
    rfl
   rw [C4 t1]
   exact af9 ns S U b1 b2 b1 b4
end Lk14
namespace Lk14
open PySem PySem.Spec PyProof.Rows L2 G Sh
def zcs:List (Str×D):=[("CLEAR", (.tuple [(.tuple [(.int 0),(.int 1)]),(.tuple [(.int 0),(.int 1)]),(.tuple [(.int 0),(.int 1)]),(.tuple [(.int 0),(.int 1)])])),("GREATEST", (.int 8))]
def zbl:List Str:=["ValueError", "isinstance", "len", "list", "max", "range", "tuple", "zip"]
def tb0:Tab:=[]
def zcl:List Str:=["NoMerge"]
def ztb:List (Str×List (Str×Bool)):=[("NoMerge", [("NoMerge", true)]),("NoText", [("NoMerge", false)]),("ValueError", [("NoMerge", true)])]
def zsb:List (Str×List Str):=[("GlazeError", ["NoMerge"])]
def znb:List (Str×List Str):=[("GlazeError", [])]
def zT(rt:aj5) (xt:ao6):Rg:=⟨rt,zcl,ztb,zsb,znb,xt⟩
def rt0:aj5:=[]
def xt0:ao6:=[]
def S7:Fd:={ x := "places_of", st:=l4,ps:=["wide", "high"],N:=["wide", "high"],hc:=[((12,11),[0])] }
theorem al8:S7.okB=true:=by kernel_rfl
theorem an7:rd tb0 zcs zbl S7=G7:=by kernel_rfl
def tb1:Tab:=("places_of", G7,2)::tb0
def S9:Fd:={ x := "has_place", st:=l6,ps:=["sheet", "x", "y"],N:=["sheet", "x", "y"] }
theorem am0:S9.okB=true:=by kernel_rfl
theorem an8:rd tb1 zcs zbl S9=N7:=by kernel_rfl
def tb2:Tab:=("has_place", N7,3)::tb1
def K5:Fd:={ x := "number_of_place", st:=N1,ps:=["sheet", "x", "y"],N:=["sheet", "x", "y"] }
theorem Y3:K5.okB=true:=by kernel_rfl
theorem Z0:rd tb2 zcs zbl K5=G6:=by kernel_rfl
def tb3:Tab:=("number_of_place", G6,3)::tb2
def i7:Fd:={ x := "spot_at", st:=ac3,ps:=["sheet", "x", "y"],N:=["sheet", "x", "y"] }
theorem aB3:i7.okB=true:=by kernel_rfl
theorem aD2:rd tb3 zcs zbl i7=K9:=by kernel_rfl
def tb4:Tab:=("spot_at", K9,3)::tb3
def O1:Fd:={ x := "spot_beside", st:=U9,ps:=["one", "other", "x", "y"],N:=["one", "other", "x", "y"] }
theorem ab4:O1.okB=true:=by kernel_rfl
theorem ab7:rd tb4 zcs zbl O1=J3:=by kernel_rfl
def tb5:Tab:=("spot_beside", J3,4)::tb4
def K4:Fd:={ x := "set_beside", st:=X3,ps:=["one", "other"],N:=["one", "other", "wide", "high"],hc:=[((29,30),[0,1])] }
theorem Y2:K4.okB=true:=by kernel_rfl
theorem ag5:rdR tb5 zcs zbl (zT rt0 xt0) K4=D8:=by kernel_rfl
def rt1:aj5:=("set_beside", D8,2)::rt0
theorem ai4:rd tb5 zcs zbl K4=G8:=by kernel_rfl
def tb6:Tab:=("set_beside", G8,2)::tb5
def L5:Fd:={ x := "set_below", st:=l0,ps:=["one", "other"],N:=["one", "other", "wide", "high"] }
theorem l7:L5.okB=true:=by kernel_rfl
theorem ak8:rdR tb6 zcs zbl (zT rt1 xt0) L5=E6:=by kernel_rfl
def rt2:aj5:=("set_below", E6,2)::rt1
theorem an6:rd tb6 zcs zbl L5=J7:=by kernel_rfl
def tb7:Tab:=("set_below", J7,2)::tb6
def Z2:Fd:={ x := "grown", st:=au6,ps:=["sheet", "by"],N:=["sheet", "by", "wide", "high"],hc:=[((41,30),[0,1])] }
theorem aw5:Z2.okB=true:=by kernel_rfl
theorem aS5:rdR tb7 zcs zbl (zT rt2 xt0) Z2=L0:=by kernel_rfl
def rt3:aj5:=("grown", L0,2)::rt2
theorem aZ1:rd tb7 zcs zbl Z2=U1:=by kernel_rfl
def tb8:Tab:=("grown", U1,2)::tb7
def aa5:Fd:={ x := "_law_cell", st:=ak6,ps:=["_law_script", "_law_k"],N:=["_law_script", "_law_k"],old:=true }
theorem aJ4:aa5.okB=true:=by kernel_rfl
theorem aP7:rd tb8 zcs zbl aa5=e9:=by kernel_rfl
def tb9:Tab:=("_law_cell", e9,2)::tb8
def j6:Fd:={ x := "_law_drawn", st:=ac7,ps:=["_law_script", "_law_k", "_law_many"],N:=["_law_script", "_law_k", "_law_many", "_law_cell_here"],old:=true }
theorem aB7:j6.okB=true:=by kernel_rfl
theorem aD6:rd tb9 zcs zbl j6=D5:=by kernel_rfl
def bf2:Tab:=("_law_drawn", D5,3)::tb9
def aa4:Fd:={ x := "_law_made", st:=ak5,ps:=["_law_top", "_law_under"],N:=["_law_top", "_law_under", "_law_one", "_law_by"],old:=true }
theorem aJ3:aa4.okB=true:=by kernel_rfl
theorem aP6:rd bf2 zcs zbl aa4=T2:=by kernel_rfl
def bf1:Tab:=("_law_made", T2,2)::bf2
def i8:Fd:={ x := "_law_times", st:=ac4,ps:=["_law_one", "_law_other"],N:=["_law_one", "_law_other"],old:=true }
theorem aB4:i8.okB=true:=by kernel_rfl
theorem aD3:rd bf1 zcs zbl i8=U0:=by kernel_rfl
def bf0:Tab:=("_law_times", U0,2)::bf1
def j4:Fd:={ x := "_law_share", st:=ac6,ps:=["_law_script", "_law_at"],N:=["_law_script", "_law_at", "_law_under", "_law_drawn_here"],old:=true }
theorem aB6:j4.okB=true:=by kernel_rfl
theorem aD5:rd bf0 zcs zbl j4=P0:=by kernel_rfl
def be9:Tab:=("_law_share", P0,2)::bf0
def aa2:Fd:={ x := "_law_spot", st:=ak3,ps:=["_law_script", "_law_at"],N:=["_law_script", "_law_at", "_law_cover"],old:=true,hc:=[((65,33),[2,0,1])] }
theorem aJ1:aa2.okB=true:=by kernel_rfl
theorem aP4:rd be9 zcs zbl aa2=M9:=by kernel_rfl
def be8:Tab:=("_law_spot", M9,2)::be9
def i9:Fd:={ x := "_law_sheet", st:=ac5,ps:=["_law_script", "_law_at", "_law_wide", "_law_high"],N:=["_law_script", "_law_at", "_law_wide", "_law_high", "_law_spots"],hc:=[((67,17),[0,1])] }
theorem aB5:i9.okB=true:=by kernel_rfl
theorem aD4:rd be8 zcs zbl i9=J8:=by kernel_rfl
def be7:Tab:=("_law_sheet", J8,4)::be8
def ai6:Fd:={ x := "_law_any", st:=au5,ps:=["_law_script", "_law_at"],N:=["_law_script", "_law_at"] }
theorem aV5:ai6.okB=true:=by kernel_rfl
theorem aZ0:rd be7 zcs zbl ai6=M4:=by kernel_rfl
def be6:Tab:=("_law_any", M4,2)::be7
def S8:Fd:={ x := "_law_refused", st:=l5,ps:=["_law_e"],N:=["_law_e", "_law_flags"] }
theorem al9:S8.okB=true:=by kernel_rfl
theorem ab1:rdX zbl (zT rt3 xt0) S8=E5:=by kernel_rfl
def xt1:ao6:=("_law_refused", E5)::xt0
def aa1:Fd:={ x := "_law_told", st:=ak2,ps:=["_law_way", "_law_one", "_law_other"],N:=["_law_way", "_law_one", "_law_other", "_law_e"] }
theorem aJ0:aa1.okB=true:=by kernel_rfl
theorem aP3:rdT be6 zcs zbl (zT rt3 xt1) aa1=B8:=by kernel_rfl
def be5:Tab:=("_law_told", B8,3)::be6
def aa3:Fd:={ x := "_law_rows", st:=ak4,ps:=["_law_sheet_here"],N:=["_law_sheet_here", "_law_wide", "_law_high", "_law_spots"],hc:=[((85,11),[3,1])] }
theorem aJ2:aa3.okB=true:=by kernel_rfl
theorem aP5:rd be5 zcs zbl aa3=P1:=by kernel_rfl
def be4:Tab:=("_law_rows", P1,1)::be5
def as4:Fd:={ x := "_law_of", st:=aG3,ps:=["_law_rows_here"],N:=["_law_rows_here", "_law_spots", "_law_row"] }
theorem bj3:as4.okB=true:=by kernel_rfl
theorem bp4:rd be4 zcs zbl as4=G0:=by kernel_rfl
def be3:Tab:=("_law_of", G0,1)::be4
def ay1:Fd:={ x := "law", st:=ba4,ps:=["_law_script"],N:=["_law_script", "_law_one", "_law_other", "_law_mine", "_law_yours", "_law_due", "_law_by", "_law_rows_here", "_law_row", "_law_wider", "_law_spot_here", "_law_five", "_law_four", "_law_tall", "_law_less_tall"],hc:=[((111,50),[9])] }
theorem by4:Bd ay1:=fun _ _ _ _ _ _=>ua1 fun _=>rfl
theorem bv8:ay1.okB=true:=by kernel_rfl
theorem bx9:rd be3 zcs zbl ay1=az2:=by kernel_rfl
structure Qs (K:PySem.W.Frag):Prop where
 h_places_of:KF K "places_of" l4
 h_has_place:KF K "has_place" l6
 h_number_of_place:KF K "number_of_place" N1
 h_spot_at:KF K "spot_at" ac3
 h_spot_beside:KF K "spot_beside" U9
 h_set_beside:KF K "set_beside" X3
 h_set_below:KF K "set_below" l0
 h_grown:KF K "grown" au6
 h_l_cell:KF K "_law_cell" ak6
 h_l_drawn:KF K "_law_drawn" ac7
 h_l_made:KF K "_law_made" ak5
 h_l_times:KF K "_law_times" ac4
 h_l_share:KF K "_law_share" ac6
 h_l_spot:KF K "_law_spot" ak3
 h_l_sheet:KF K "_law_sheet" ac5
 h_l_any:KF K "_law_any" au5
 h_l_refused:KF K "_law_refused" l5
 h_l_told:KF K "_law_told" ak2
 h_l_rows:KF K "_law_rows" ak4
 h_l_of:KF K "_law_of" aG3
 h_law:KF K "law" ba4
theorem bz2{P:Program}{w:World}{K:PySem.W.Frag}{mg:Str->Option Value}(M:Md K mg zcs zbl) (C:∀rt xt,Cl K mg (zT rt xt)) (q:Qs K) (base:Heap):TOk P w K mg base 19 be3:=by
 have t:TOk P w K mg base 0 tb0:=TOk.nil
 have r:TRk P w K mg base 0 rt0:=TRk.nil
 have x:TXk P w K mg base 0 xt0:=TXk.nil
 have t:TOk P w K mg base 1 tb1:=t.add M S7 q.h_places_of (fun _ _ _ _ _ _=>ua2 fun _ _=>rfl) al8 rfl an7
 have t:TOk P w K mg base 2 tb2:=t.add M S9 q.h_has_place (fun _ _ _ _ _ _=>ua3 fun _ _ _=>rfl) am0 rfl an8
 have t:TOk P w K mg base 3 tb3:=t.add M K5 q.h_number_of_place (fun _ _ _ _ _ _=>ua3 fun _ _ _=>rfl) Y3 rfl Z0
 have t:TOk P w K mg base 4 tb4:=t.add M i7 q.h_spot_at (fun _ _ _ _ _ _=>ua3 fun _ _ _=>rfl) aB3 rfl aD2
 have t:TOk P w K mg base 5 tb5:=t.add M O1 q.h_spot_beside (fun _ _ _ _ _ _=>ua4 fun _ _ _ _=>rfl) ab4 rfl ab7
 have r:TRk P w K mg base 6 rt1:=TRk.add (T:=zT rt0 xt0) (r.mono (by decide)) t (x.mono (by decide)) M (C _ _) K4 q.h_set_beside (fun _ _ _ _ _ _=>ua2 fun _ _=>rfl) Y2 rfl ag5
 have t:TOk P w K mg base 6 tb6:=t.add M K4 q.h_set_beside (fun _ _ _ _ _ _=>ua2 fun _ _=>rfl) Y2 rfl ai4
 have r:TRk P w K mg base 7 rt2:=TRk.add (T:=zT rt1 xt0) r t (x.mono (by decide)) M (C _ _) L5 q.h_set_below (fun _ _ _ _ _ _=>ua2 fun _ _=>rfl) l7 rfl ak8
 have t:TOk P w K mg base 7 tb7:=t.add M L5 q.h_set_below (fun _ _ _ _ _ _=>ua2 fun _ _=>rfl) l7 rfl an6
 have r:TRk P w K mg base 8 rt3:=TRk.add (T:=zT rt2 xt0) r t (x.mono (by decide)) M (C _ _) Z2 q.h_grown (fun _ _ _ _ _ _=>ua2 fun _ _=>rfl) aw5 rfl aS5
 have t:TOk P w K mg base 8 tb8:=t.add M Z2 q.h_grown (fun _ _ _ _ _ _=>ua2 fun _ _=>rfl) aw5 rfl aZ1
 have t:TOk P w K mg base 9 tb9:=t.add M aa5 q.h_l_cell (fun _ _ _ _ _ _=>ua2 fun _ _=>rfl) aJ4 rfl aP7
 have t:TOk P w K mg base 10 bf2:=t.add M j6 q.h_l_drawn (fun _ _ _ _ _ _=>ua3 fun _ _ _=>rfl) aB7 rfl aD6
 have t:TOk P w K mg base 11 bf1:=t.add M aa4 q.h_l_made (fun _ _ _ _ _ _=>ua2 fun _ _=>rfl) aJ3 rfl aP6
 have t:TOk P w K mg base 12 bf0:=t.add M i8 q.h_l_times (fun _ _ _ _ _ _=>ua2 fun _ _=>rfl) aB4 rfl aD3
 have t:TOk P w K mg base 13 be9:=t.add M j4 q.h_l_share (fun _ _ _ _ _ _=>ua2 fun _ _=>rfl) aB6 rfl aD5
 have t:TOk P w K mg base 14 be8:=t.add M aa2 q.h_l_spot (fun _ _ _ _ _ _=>ua2 fun _ _=>rfl) aJ1 rfl aP4
 have t:TOk P w K mg base 15 be7:=t.add M i9 q.h_l_sheet (fun _ _ _ _ _ _=>ua4 fun _ _ _ _=>rfl) aB5 rfl aD4
 have t:TOk P w K mg base 16 be6:=t.add M ai6 q.h_l_any (fun _ _ _ _ _ _=>ua2 fun _ _=>rfl) aV5 rfl aZ0
 have x:TXk P w K mg base 1 xt1:=x.add (T:=zT rt3 xt0) M (C _ _) S8 q.h_l_refused (fun _ _ _ _ _ _=>ua1 fun _=>rfl) al9 rfl ab1
 have t:TOk P w K mg base 17 be5:=t.addT (T:=zT rt3 xt1) (r.mono (by decide)) (x.mono (by decide)) M (C _ _) aa1 q.h_l_told (fun _ _ _ _ _ _=>ua3 fun _ _ _=>rfl) aJ0 rfl aP3
 have t:TOk P w K mg base 18 be4:=t.add M aa3 q.h_l_rows (fun _ _ _ _ _ _=>ua1 fun _=>rfl) aJ2 rfl aP5
 have t:TOk P w K mg base 19 be3:=t.add M as4 q.h_l_of (fun _ _ _ _ _ _=>ua1 fun _=>rfl) bj3 rfl bp4
 exact t
theorem zmd{K:PySem.W.Frag}{h:Heap}{mg:Str->Option Value}{q0t0 q0t1 q0t2 q0t3 q0:Addr}{y0t0 y0t1 y0t2 y0t3 y0:Array (Option Value)}{g0t0t0 g0t0t1 g0t1t0 g0t1t1 g0t2t0 g0t2t1 g0t3t0 g0t3t1 g1:Tok}{n0t0 n0t1 n0t2 n0t3 n0:Nat}(X:K.In h) (G:h.Ns mainGlobals mg) (p0:PySem.W.nsIn K mainGlobals "CLEAR" = some (some (.ref q0))) (r0:K.lookup q0=some ⟨.type "tuple", none,.seq #[.ref q0t0,.ref q0t1,.ref q0t2,.ref q0t3] n0,y0⟩) (r0t3:K.lookup q0t3=some ⟨.type "tuple", none,.seq #[.int 0 g0t3t0,.int 1 g0t3t1] n0t3,y0t3⟩) (r0t2:K.lookup q0t2=some ⟨.type "tuple", none,.seq #[.int 0 g0t2t0,.int 1 g0t2t1] n0t2,y0t2⟩) (r0t1:K.lookup q0t1=some ⟨.type "tuple", none,.seq #[.int 0 g0t1t0,.int 1 g0t1t1] n0t1,y0t1⟩) (r0t0:K.lookup q0t0=some ⟨.type "tuple", none,.seq #[.int 0 g0t0t0,.int 1 g0t0t1] n0t0,y0t0⟩) (p1:PySem.W.nsIn K mainGlobals "GREATEST" = some (some (.int 8 g1))) (z0:PySem.W.nsIn K mainGlobals "ValueError" = some none) (z1:PySem.W.nsIn K mainGlobals "isinstance" = some none) (z2:PySem.W.nsIn K mainGlobals "len" = some none) (z3:PySem.W.nsIn K mainGlobals "list" = some none) (z4:PySem.W.nsIn K mainGlobals "max" = some none) (z5:PySem.W.nsIn K mainGlobals "range" = some none) (z6:PySem.W.nsIn K mainGlobals "tuple" = some none) (z7:PySem.W.nsIn K mainGlobals "zip" = some none):Md K mg zcs zbl:=by
 refine⟨fun x v e=>PySem.W.mg_of X G e,fun x d e=>?_,fun x e=>?_⟩
 ·unfold zcs at e
  rw [List.lookup_cons]at e
  split at e
  ·rename_i q;cases e;simp only [beq_iff_eq]at q;subst q;exact⟨_,(S3 r0 rfl rfl rfl (by show 4<=1000;decide) (E3 (S3 r0t0 rfl rfl rfl (by show 2<=1000;decide) (E3 (K3 0 g0t0t0) (E3 (K3 1 g0t0t1) O5))) (E3 (S3 r0t1 rfl rfl rfl (by show 2<=1000;decide) (E3 (K3 0 g0t1t0) (E3 (K3 1 g0t1t1) O5))) (E3 (S3 r0t2 rfl rfl rfl (by show 2<=1000;decide) (E3 (K3 0 g0t2t0) (E3 (K3 1 g0t2t1) O5))) (E3 (S3 r0t3 rfl rfl rfl (by show 2<=1000;decide) (E3 (K3 0 g0t3t0) (E3 (K3 1 g0t3t1) O5))) O5))))),PySem.W.mg_of X G p0⟩
  rw [List.lookup_cons]at e
  split at e
  ·rename_i q;cases e;simp only [beq_iff_eq]at q;subst q;exact⟨_,(K3 8 g1),PySem.W.mg_of X G p1⟩
  cases e
 ·unfold zbl at e
  simp only [List.contains_cons,List.contains_nil,Bool.or_false,Bool.or_eq_true,beq_iff_eq]at e
  rcases e with e|e|e|e|e|e|e|e
  ·subst e;exact PySem.W.mg_none_of X G z0
  ·subst e;exact PySem.W.mg_none_of X G z1
  ·subst e;exact PySem.W.mg_none_of X G z2
  ·subst e;exact PySem.W.mg_none_of X G z3
  ·subst e;exact PySem.W.mg_none_of X G z4
  ·subst e;exact PySem.W.mg_none_of X G z5
  ·subst e;exact PySem.W.mg_none_of X G z6
  ·subst e;exact PySem.W.mg_none_of X G z7
theorem bq7{l:PySem.W.OpenLaw}{q:Program}{loose:List Str}{XP:(Str->Option Value)->Heap->Prop}{YP:World->Heap->Prop}{d:DefRec}{K:Params->PySem.W.Frag}(hn:l.most=some 63) (hdf:d.params.defaults=[])
  (hY:∀(w:World) (h:Heap),YP w h->(K w.params).In h) (hd:d.name = "law")
  (F:∀(w:World) (mg:Str->Option Value) (h:Heap),(K w.params).In h->h.Ns mainGlobals mg->Md (K w.params) mg zcs zbl)
  (Q:∀w:World,Qs (K w.params)) (B:∀w:World,clB (K w.params) zcl ztb zsb znb=true)
  (M:∀ns:List Int,ns.length<=63->az2 [.list (ns.map PyData.int)]=some (.bool true)) :
  PySem.W.WalkO q loose XP YP l.row.toRowW d [] (fun f vs=>PySem.call f vs) :=
 L2.aR6 (n:=63) (k:=20) (x := "_law_script") (CX:=fun _=>CX0) (sp:=fun w=>spF (K w.params) 1 az2) hn (by decide) hdf ⟨rfl,by decide,by decide⟩ hY
  (fun w mg fa h hk hg hm=>by
   have N:=F w mg h hk hg
   have q:=Q w
   rw [hd]at hm
   obtain⟨fd,b1,b2⟩:=aV8 N (fun base=>bz2 N (fun rt xt=>Cl.of N (by decide +kernel) (B w)) q base) ay1 q.h_law by4 bv8 rfl bx9 hm
   exact⟨fd,b1,fun base _ _=>b2 base⟩)
  (fun w H a ns hl _ hS=>⟨rfl,H,[.list (ns.map PyData.int)],.bool true,C2.refl _,⟨.ref a,[],rfl,⟨a,_,rfl,hS,Reps.ints ns⟩,rfl⟩,M ns hl,fun v H' Hf' g r=>r⟩) fun _ _ _ _ _ z=>z
end Lk14
def PySem.W.Fast.tw2032423835449269207:Unit:=()
def PySem.W.Fast.tw8627420531025546267:Unit:=()
def PySem.W.Fast.tw12622714291974502542:Unit:=()
def PySem.W.Fast.tw3533329991315868127:Unit:=()
def PySem.W.Fast.tw15412535073129628731:Unit:=()
def PySem.W.Fast.tw6788761698405693949:Unit:=()
def PySem.W.Fast.tw985909396941370749:Unit:=()
def PySem.W.Fast.tw7432950083394642091:Unit:=()
def PySem.W.Fast.tw2448595967132271962:Unit:=()
def PySem.W.Fast.tw11274559925446802537:Unit:=()
def PySem.W.Fast.tw15228354243357420521:Unit:=()
def PySem.W.Fast.tw8263519684458010759:Unit:=()
def PySem.W.Fast.tw11339950976959760493:Unit:=()
def PySem.W.Fast.tw1430945913421741079:Unit:=()
def PySem.W.Fast.tw7854470857135424978:Unit:=()
def PySem.W.Fast.tw2497055146608201321:Unit:=()
def PySem.W.Fast.tw12196512216259576973:Unit:=()
def PySem.W.Fast.tw17178782329525385607:Unit:=()
def PySem.W.Fast.tw9639108596514767920:Unit:=()
def PySem.W.Fast.tw1354522092674464658:Unit:=()
def PySem.W.Fast.tw4498221292918926945:Unit:=()
def PySem.W.Fast.tw15702601883074577933:Unit:=()
def PySem.W.Fast.tw10082592637760804318:Unit:=()
def PySem.W.Fast.tw4830525899742104877:Unit:=()
namespace Lk14
open PySem PySem.W PyProof.Rows
set_option maxHeartbeats 0 in
open_top head for PySem.Challenge.rw_glazework_k14_put_together
end Lk14
open PySem PySem.W PyProof.Rows
set_option maxRecDepth 100000 in
set_option maxHeartbeats 0 in
theorem PySem.Challenge.cw_glazework_k14_put_together_holds : PySem.Challenge.rw_glazework_k14_put_together.Holds := by
 refine Lk14.head ?_
 k_fill
 refine Lk14.bq7 (l:=PySem.Challenge.rw_glazework_k14_put_together) rfl rfl (fun w h Y=>PySem.W.kIn_of Y) rfl ?F ?Q ?B Lk14.main
 case F =>
  intro w mg h KX G
  refine' Lk14.zmd KX G ?p0 ?r0 ?r0t3 ?r0t2 ?r0t1 ?r0t0 ?p1 ?z0 ?z1 ?z2 ?z3 ?z4 ?z5 ?z6 ?z7
  (case p0=>k_is);(case r0=>k_is);(case r0t3=>k_is);(case r0t2=>k_is);(case r0t1=>k_is);(case r0t0=>k_is);(case p1=>k_is);(case z0=>k_is);(case z1=>k_is);(case z2=>k_is);(case z3=>k_is);(case z4=>k_is);(case z5=>k_is);(case z6=>k_is);(case z7=>k_is)
 case Q =>
  intro w
  refine⟨?_,?_,?_,?_,?_,?_,?_,?_,?_,?_,?_,?_,?_,?_,?_,?_,?_,?_,?_,?_,?_⟩
  all_goals (refine' G.bw1 ?a ?l ?c ?k;(case a=>k_is);(case l=>k_is);(case c=>k_is);(case k=>k_is))
 case B=>intro w;kernel_rfl
