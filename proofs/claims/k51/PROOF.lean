import PyProof.Rows.All
import Wide.All
import OpenK.AllK
import Wide.FinOn
import Lean
import PyProof.EqAt
import PyProof.EqKinds
import PyProof.TupleCall
import PySem.Challenge.RW_glazework_k51_whole_made_one
set_option compiler.extract_closed false
noncomputable section
set_option Elab.async false
set_option linter.all false
set_option maxRecDepth 100000
theorem xbo{α β:Type}{o:Option α}{f:α->Option β}{b:β}(h:o.bind f=some b):∃a,o=some a/\f a=some b:=Option.bind_eq_some_iff.mp h
theorem xmo{α β:Type}{o:Option α}{f:α->β}{b:β}(h:o.map f=some b):∃a,o=some a/\f a=b:=Option.map_eq_some_iff.mp h
theorem xmm{α:Type}{a:α}{l:List α}(b:α)(h:a∈l):a∈b::l:=List.mem_cons_of_mem b h
namespace L2
open PySem PySem.Spec PyProof.Rows
noncomputable abbrev Key:=Sum Int Str
noncomputable def bO5:Key->Value->Bool
 | .inl k,v=>Value.isInt k v
 | .inr x,v=>Value.isStrOf x v
noncomputable def cp9(w:World):Key->Int
 | .inl k=>hashInt k
 | .inr x=>hashStr w x
theorem R1:∀{k:Key}{v:Value},bO5 k v=true->(∃i t,k=Sum.inl i/\v=Value.int i t)\/(∃x t,k=Sum.inr x/\v=Value.str x t)
 | .inl i,v,h=>by
  obtain⟨t,e⟩:=Value.isInt_shape (k:=i) (v:=v) h
  exact .inl ⟨i,t,rfl,e⟩
 | .inr x,v,h=>by
  obtain⟨t,e⟩:=Value.isStrOf_shape (x:=x) (v:=v) h
  exact .inr ⟨x,t,rfl,e⟩
theorem bX2(a b:Int):decide ((Sum.inl a:Key)=Sum.inl b)=(a==b):=by
 by_cases e:a=b
 ·subst e;simp
 ·have h:¬(Sum.inl a:Key)=Sum.inl b:=fun q=>e (Sum.inl.inj q)
  rw[decide_eq_false h]
  exact(beq_eq_false_iff_ne.mpr e).symm
theorem bW9(a b:Str):decide ((Sum.inr a:Key)=Sum.inr b)=decide (a=b):=by
 by_cases e:a=b
 ·subst e;simp
 ·have h:¬(Sum.inr a:Key)=Sum.inr b:=fun q=>e (Sum.inr.inj q)
  rw[decide_eq_false h,decide_eq_false e]
theorem bX1(a:Int) (b:Str):decide ((Sum.inl a:Key)=Sum.inr b)=false:=decide_eq_false (fun q=>nomatch q)
theorem bX0(a:Str) (b:Int):decide ((Sum.inr a:Key)=Sum.inl b)=false:=decide_eq_false (fun q=>nomatch q)
noncomputable def aI8(prog:Program) (w:World):PySem.KeyKind prog w Key where
 is:=bO5
 hash:=cp9 w
 inj:=fun v a b ha hb=>by
  rcases R1 ha with⟨i,t,rfl,rfl⟩|⟨x,t,rfl,rfl⟩
  ·rcases R1 hb with⟨j,u,rfl,e⟩|⟨y,u,rfl,e⟩
   ·injection e with e1 _;rw[e1]
   ·exact nomatch e
  ·rcases R1 hb with⟨j,u,rfl,e⟩|⟨y,u,rfl,e⟩
   ·exact nomatch e
   ·injection e with e1 _;rw[e1]
 byValue:=fun k v h=>by rcases R1 h with⟨i,t,rfl,rfl⟩|⟨x,t,rfl,rfl⟩<;>rfl
 pyHash:=fun hv h=>by
  rcases R1 hv with⟨i,t,rfl,rfl⟩|⟨x,t,rfl,rfl⟩
  ·exact wpAny_pyHash_int h
  ·exact wpAny_pyHash_str h
 eqBool:=fun hu hv h=>by
  rcases R1 hu with⟨i,t,rfl,rfl⟩|⟨x,t,rfl,rfl⟩
  ·rcases R1 hv with⟨j,u,rfl,rfl⟩|⟨y,u,rfl,rfl⟩
   ·rw[bX2]at h;exact wpAny_eqBool_int h
   ·rw[bX1]at h;exact SeqAt.EqAt.int_str i t y u _ _ _ _ h
  ·rcases R1 hv with⟨j,u,rfl,rfl⟩|⟨y,u,rfl,rfl⟩
   ·rw[bX0]at h;exact SeqAt.EqAt.str_int x t j u _ _ _ _ h
   ·rw[bW9]at h;exact wpAny_eqBool_str h
 «strs»:=fun k x t v h=>by
  rcases R1 h with⟨i,u,rfl,e⟩|⟨y,u,rfl,e⟩
  ·exact nomatch e
  ·injection e with e1 _
   subst e1
   cases v<;>rfl
inductive V where
 | non|bl (b:Bool)|int (i:Int)|str (x:Str)|byt (b:Array UInt8)|flt (b:UInt64)|ref (a:Addr)|ty (n:String)
 deriving DecidableEq
noncomputable def P1:V->Value->Prop
 | .non,u=>u=Value.none
 | .bl b,u=>u=Value.bool b
 | .int i,u=>∃t,u=Value.int i t
 | .str x,u=>∃t,u=Value.str x t
 | .byt b,u=>∃t,u=Value.bytes b t
 | .flt b,u=>∃t,u=Value.float b t
 | .ref a,u=>u=Value.ref a
 | .ty n,u=>u=Value.type n
noncomputable abbrev K1:List V->List Value->Prop:=Paired P1
theorem K1.length{xs:List V}{us:List Value}(r:K1 xs us):xs.length=us.length:=Paired.length r
theorem K1.get:∀{xs:List V}{us:List Value}{i:Nat}{x:V},K1 xs us->xs[i]? = some x->∃u,us[i]? = some u/\P1 x u
 | _,_,_,_,.nil,e=>by simp at e
 | _,_,0,_,.cons r _,e=>by simp at e;subst e;exact⟨_,rfl,r⟩
 | _,_,i+1,x,.cons _ t,e=>by
  obtain⟨u,h1,h2⟩:=K1.get (i:=i) (x:=x) t (by simpa using e)
  exact⟨u,by simpa using h1,h2⟩
theorem K1.append:∀{xs ys:List V}{us ws:List Value},K1 xs us->K1 ys ws->K1 (xs++ys) (us++ws)
 | _,_,_,_,.nil,s=>s
 | _,_,_,_,.cons r t,s=>.cons r (K1.append t s)
theorem K1.take:∀{xs:List V}{us:List Value}(n:Nat),K1 xs us->K1 (xs.take n) (us.take n)
 | _,_,0,_=>.nil
 | _,_,_+1,.nil=>.nil
 | _,_,n+1,.cons r t=>.cons r (K1.take n t)
theorem K1.drop:∀{xs:List V}{us:List Value}(n:Nat),K1 xs us->K1 (xs.drop n) (us.drop n)
 | _,_,0,r=>r
 | _,_,_+1,.nil=>.nil
 | _,_,n+1,.cons _ t=>K1.drop n t
noncomputable def cm9:Option V->Option Value->Prop
 | some v,some u=>P1 v u
 | none,none=>True
 | _,_=>False
noncomputable def KV{κ:Type}:List (κ×V)->List (κ×Value)->Prop:=Paired fun(p:κ×V) (q:κ×Value)=>p.1=q.1/\P1 p.2 q.2
noncomputable def kV:Key->V
 | .inl i=>.int i
 | .inr x=>.str x
inductive HO where
 /-- a list -/
 | lst (xs:List V)
 /-- a tuple (never changes) -/
 | tup (xs:List V)
 /-- a dict whose keys are ints and texts;one whose keys are tuples of ints and texts (the empty one is both) -/
 | dK (kvs:List (Key×V))|dT (kvs:List (List Key×V))
 /-- a set of ints: its members,its size -/
 | set (S:Int->Bool) (n:Nat)
 /-- an instance of the class at C,its dict at dx,its attributes -/
 | ins (C dx:Addr) (fs:List (Str×V))
 /-- the dict of the instance at x -/
 | own (x:Addr)
 /-- the dict of an exception -/
 | xd (fs:List (Str×V))
 /-- a bound method,f of x -/
 | met (f x:Addr)
 /-- a range object lo,lo+1,.. below hi -/
 | rng (lo hi:Int)
 /-- a thing that is known to the object (the script;a dict while a loop walks it): read,never written while it is so -/
 | frz (o:Obj) (u:HO)
 /-- a code object's table -/
 | tbl (ps:Array Value)
 /-- any other thing,by what is true of its one object (a def of one's own: SetO a S n:=HO.ext fun h=>..) -/
 | ext (φ:Heap->Prop)
noncomputable abbrev Hp:=Addr->Option HO
noncomputable def upd(H:Hp) (a:Addr) (o:HO):Hp:=fun b=>if b=a then some o else H b
theorem C5{H:Hp}{a:Addr}{o:HO}:upd H a o a=some o:=by unfold upd;rw[if_pos rfl]
theorem D0{H:Hp}{a b:Addr}{o:HO}(h:b≠a):upd H a o b=H b:=by unfold upd;rw[if_neg h]
theorem D2{H:Hp}{a b:Addr}{o:HO}(h:H a=some o) (h':H b=none):a≠b:=by intro e;subst e;rw[h]at h';cases h'
noncomputable def ay7(h:Heap) (a:Addr) (items:Array Value):Prop:=∃o,h.get? a=some o/\o.cls=.type "tuple" /\ (∃n,o.data=.seq items n)/\o.dict=none
theorem ay7.tup{h:Heap}{a:Addr}{items:Array Value}(p:ay7 h a items):IsTup h a items:=let⟨o,e,c,d,_⟩:=p;⟨o,e,c,d⟩
theorem ay7.new(h:Heap) (items:Array Value) (n:Nat:=0):ay7 (h.push { cls:=.type "tuple", data:=.seq items n }) h.objs.size items:=⟨_,Heap.get?_push_size _ rfl,rfl,⟨_,rfl⟩,rfl⟩
section
variable (P:Program) (w:World)
noncomputable def m4(H:Hp) (h:Heap) (a:Addr):HO->Prop
 | .lst xs=>xs.length<=sizeLine/\∃(its:List Value) (n:Nat),K1 xs its/\h.get? a=some { cls:=.type "list", data:=.seq its.toArray n }
 | .tup xs=>xs.length<=sizeLine/\∃its:List Value,K1 xs its/\ay7 h a its.toArray
 | .dK kvs=>kvs.length<=sizeLine/\(a==sysModules)=false/\∃vs,KV kvs vs/\h.DictOf (aI8 P w) a vs
 | .dT kvs=>kvs.length<=sizeLine/\(a==sysModules)=false/\∃xs:List (List Key×Addr×Value),
   Paired (fun(p:List Key×V) (q:List Key×Addr×Value)=>p.1=q.1/\H q.2.1=some (.tup (p.1.map kV))/\P1 p.2 q.2.2) kvs xs /\
   ∃o es ep,h.get? a=some o/\o.ExactDict/\o.data=.dict es ep/\es.toList=xs.map (entryOfKey (tupleKind (aI8 P w)))/\(xs.map (·.1)).Nodup
 | .set S n=>h.SetOf (intKind P w) a S n
 | .ins C dx fs=>H dx=some (.own a)/\fs.length<=1000/\dx≠a/\h.get? a=some (PySem.W.instObj C dx) /\
   ∃mA,h.Ns1 dx mA/\(∀f,cm9 (fs.lookup f) (mA f))/\PySem.Within mA (fs.map (·.1))
 | .own _=>∃o,h.get? a=some o
 | .xd fs=>∃mA,h.Ns1 a mA/\∀f,cm9 (fs.lookup f) (mA f)
 | .rng lo hi=>∃t u v,h.get? a=some { cls:=.type "range", data:=.fields #[.int lo t,.int hi u,.int 1 v] }
 | .frz o u=>h.get? a=some o/\m4 H h a u
 | .tbl ps=>h.get? a=some { cls:=.none,data:=.fields ps }
 | .met f x=>h.get? a=some (PySem.W.methodObj (.ref f) (.ref x))
 | .ext φ=>φ h/\(∃o,h.get? a=some o)/\∀h1 h2:Heap,φ h1->(∀o,h1.get? a=some o->h2.get? a=some o)->φ h2
noncomputable def HOk(H:Hp) (h:Heap):Prop:=∀a o,H a=some o->m4 P w H h a o
end
section
variable {P:Program}{w:World}{H H':Hp}{h h':Heap}{a:Addr}{o:HO}
theorem m4.lt(x:m4 P w H h a o):a < h.objs.size:=by
 cases o with
 | lst xs=>obtain⟨_,_,_,_,e⟩:=x;exact Heap.lt_size e
 | tup xs=>obtain⟨_,_,_,p⟩:=x;exact p.tup.lt
 | dK kvs=>obtain⟨_,_,_,_,o,_,_,e,_⟩:=x;exact Heap.lt_size e
 | dT kvs=>obtain⟨_,_,_,_,o,_,_,e,_⟩:=x;exact Heap.lt_size e
 | set S n=>obtain⟨o,_,_,_,e,_⟩:=x;exact Heap.lt_size e
 | ins C dx fs=>obtain⟨_,_,_,e,_⟩:=x;exact Heap.lt_size e
 | own y=>obtain⟨_,e⟩:=x;exact Heap.lt_size e
 | xd fs=>obtain⟨_,⟨_,_,_,e,_⟩,_⟩:=x;exact Heap.lt_size e
 | rng lo hi=>obtain⟨_,_,_,e⟩:=x;exact Heap.lt_size e
 | frz ob u=>obtain⟨e,_⟩:=x;exact Heap.lt_size e
 | tbl ps=>exact Heap.lt_size (show h.get? a=some _ from x)
 | met f y=>exact Heap.lt_size (show h.get? a=some _ from x)
 | ext φ=>obtain⟨_,⟨_,e⟩,_⟩:=x;exact Heap.lt_size e
theorem Paired.mapP{α β:Type}{F G:α->β->Prop}:∀{l₁:List α}{l₂:List β},Paired F l₁ l₂->(∀a b,F a b->G a b)->Paired G l₁ l₂
 | _,_,.nil,_=>.nil
 | _,_,.cons r t,f=>.cons (f _ _ r) (Paired.mapP t f)
theorem m4.stay(x:m4 P w H h a o) (k:∀b u,(b=a\/H b=some (.own a))->h.get? b=some u->h'.get? b=some u)
  (ho:∀b,H b=some (.own a)->H' b=some (.own a)) (ht:∀b xs,H b=some (.tup xs)->H' b=some (.tup xs)):m4 P w H' h' a o:=by
 induction o with
 | lst xs=>obtain⟨z,its,n,r,e⟩:=x;exact⟨z,its,n,r,k _ _ (.inl rfl) e⟩
 | tup xs=>obtain⟨z,its,r,ob,e,c⟩:=x;exact⟨z,its,r,ob,k _ _ (.inl rfl) e,c⟩
 | dK kvs=>obtain⟨z,y,vs,r,ob,es,ep,e,c⟩:=x;exact⟨z,y,vs,r,ob,es,ep,k _ _ (.inl rfl) e,c⟩
 | dT kvs =>
  obtain⟨z,y,xs,r,ob,es,ep,e,c⟩:=x
  exact⟨z,y,xs,Paired.mapP r fun p q z=>⟨z.1,ht _ _ z.2.1,z.2.2⟩,ob,es,ep,k _ _ (.inl rfl) e,c⟩
 | set S n=>obtain⟨ob,es,ep,t,e,c⟩:=x;exact⟨ob,es,ep,t,k _ _ (.inl rfl) e,c⟩
 | ins C dx fs =>
  obtain⟨d,z,ne,e,mA,⟨od,es,ep,e2,c⟩,r⟩:=x
  exact⟨ho _ d,z,ne,k _ _ (.inl rfl) e,mA,⟨od,es,ep,k _ _ (.inr d) e2,c⟩,r⟩
 | own y=>obtain⟨ob,e⟩:=x;exact⟨ob,k _ _ (.inl rfl) e⟩
 | xd fs=>obtain⟨mA,⟨od,es,ep,e,c⟩,r⟩:=x;exact⟨mA,⟨od,es,ep,k _ _ (.inl rfl) e,c⟩,r⟩
 | rng lo hi=>obtain⟨t,u,v,e⟩:=x;exact⟨t,u,v,k _ _ (.inl rfl) e⟩
 | frz ob u ih=>obtain⟨e,q⟩:=x;exact⟨k _ _ (.inl rfl) e,ih q⟩
 | tbl ps =>
  have e:h.get? a=some { cls:=.none,data:=.fields ps }:=x
  show h'.get? a=some { cls:=.none,data:=.fields ps }
  exact k a _ (.inl rfl) e
 | met f y =>
  have e:h.get? a=some (PySem.W.methodObj (.ref f) (.ref y)):=x
  show h'.get? a=some (PySem.W.methodObj (.ref f) (.ref y))
  exact k a _ (.inl rfl) e
 | ext φ=>obtain⟨p,⟨o,e⟩,st⟩:=x;exact⟨st _ _ p fun o q=>k _ _ (.inl rfl) q,⟨o,k _ _ (.inl rfl) e⟩,st⟩
theorem HOk.lt(x:HOk P w H h) (e:H a=some o):a < h.objs.size:=(x a o e).lt
theorem HOk.fresh(x:HOk P w H h) (e:h.objs.size<=a):H a=none:=by
 cases q:H a with
 | none=>rfl
 | some u=>exact absurd (Nat.lt_of_lt_of_le (x.lt q) e) (Nat.lt_irrefl _)
theorem HOk.kept(x:HOk P w H h) (k:∀b u,h.get? b=some u->h'.get? b=some u):HOk P w H h':=fun a o e =>(x a o e).stay (fun b u _ q=>k b u q) (fun _ q=>q) fun _ _ q=>q
theorem HOk.laid(x:HOk P w H h) (k:∀b u,h.get? b=some u->h'.get? b=some u) (hp:h.objs.size<=a) (new:m4 P w (upd H a o) h' a o):HOk P w (upd H a o) h':=fun b u e=>by
 have hn:=x.fresh hp
 by_cases hb:b=a
 ·subst hb;rw[C5]at e;cases e;exact new
 ·rw[D0 hb]at e
  exact(x b u e).stay (fun c v _ q=>k c v q) (fun c q=>by rw[D0 (D2 q hn)];exact q) fun c xs q=>by rw[D0 (D2 q hn)];exact q
end
noncomputable def Rd(H:Hp) (a:Addr) (u:HO):Prop:=H a=some u\/∃o,H a=some (.frz o u)
theorem Rd.of{H:Hp}{a:Addr}{u:HO}(h:H a=some u):Rd H a u:=.inl h
theorem Rd.ok{P:Program}{w:World}{H:Hp}{h:Heap}{a:Addr}{u:HO}(r:Rd H a u) (x:HOk P w H h):m4 P w H h a u:=by
 rcases r with r|⟨o,r⟩
 ·exact x a u r
 ·obtain⟨_,q⟩:=x a _ r
  exact q
noncomputable def Mut:Option HO->Prop
 | some (.lst _)=>True
 | some (.dK _)=>True
 | some (.dT _)=>True
 | some (.set _ _)=>True
 | some (.ins _ _ _)=>True
 | some (.ext _)=>True
 | _=>False
section
variable {P:Program}{w:World}{H:Hp}{h h':Heap}{x e:Addr}{o':HO}
theorem HOk.write(ok:HOk P w H h) (mu:Mut (H x)) (he:e=x\/H e=some (.own x)) (k:∀b u,b≠e->h.get? b=some u->h'.get? b=some u) (heo:∃u,h'.get? e=some u)
  (new:m4 P w (upd H x o') h' x o'):HOk P w (upd H x o') h':=fun b u q=>by
 have nown:∀c y,H c=some (.own y)->c≠x:=fun c y r z=>by subst z;rw[r]at mu;exact mu
 have ntup:∀c xs,H c=some (.tup xs)->c≠x:=fun c xs r z=>by subst z;rw[r]at mu;exact mu
 by_cases hb:b=x
 ·subst hb;rw[C5]at q;cases q;exact new
 ·rw[D0 hb]at q
  by_cases hbe:b=e
  ·have q':H b=some (.own x):=by
    rcases he with z|z
    ·exact absurd (hbe.trans z) hb
    ·rw[hbe];exact z
   rw[q]at q';cases q'
   obtain⟨v,hv⟩:=heo
   exact⟨v,by rw[hbe];exact hv⟩
  ·refine(ok b u q).stay (fun c v hc r=>k c v ?_ r) (fun c r=>by rw[D0 (nown c b r)];exact r) fun c xs r=>by rw[D0 (ntup c xs r)];exact r
   rcases hc with rfl|hc
   ·exact hbe
   ·rintro rfl
    rcases he with z|z
    ·exact nown c b hc z
    ·rw[hc]at z;cases z;exact hb rfl
end
structure Un (fs ex:List Addr) (H H':Hp) (h h':Heap):Prop where
 keep:∀b o,h.get? b=some o->H b=none->b∉fs->b∉ex->h'.get? b=some o
 slot:∀b o,h.get? b=some o->H b=none->b∈fs->b∉ex->∃sl,h'.get? b=some { o with slots:=sl }
 free:∀b o,h.get? b=some o->H b=none->b∉ex->H' b=none
 there:∀b o,h.get? b=some o->b∉ex->∃o',h'.get? b=some o'
 tups:∀b xs,H b=some (.tup xs)->H' b=some (.tup xs)
 frzs:∀b o u,H b=some (.frz o u)->H' b=some (.frz o u)
 tbls:∀b ps,H b=some (.tbl ps)->∃more,H' b=some (.tbl (ps++more))
section
variable {fs fs' ex ex':List Addr}{H H1 H2:Hp}{h h1 h2 h':Heap}{a x e:Addr}{o:HO}
theorem Un.any(u:Un fs ex H H1 h h1) {b:Addr}{ob:Obj}(q:h.get? b=some ob) (n:H b=none) (hx:b∉ex):∃sl,h1.get? b=some { ob with slots:=sl }:=by
 by_cases hb:b∈fs
 ·exact u.slot b ob q n hb hx
 ·exact⟨ob.slots,u.keep b ob q n hb hx⟩
theorem Un.kept(k:∀b u,h.get? b=some u->h'.get? b=some u):Un fs ex H H h h' :=
 ⟨fun b ob q _ _ _=>k b ob q,fun b ob q _ _ _=>⟨ob.slots,k b ob q⟩,fun _ _ _ n _=>n,fun b ob q _=>⟨ob,k b ob q⟩,fun _ _ q=>q,fun _ _ _ q=>q,fun _ ps q=>⟨#[],by rw[q];simp⟩⟩
theorem Un.refl:Un fs ex H H h h:=Un.kept fun _ _ q=>q
theorem Un.laid(k:∀b u,h.get? b=some u->h'.get? b=some u) (hp:h.objs.size<=a) (hn:H a=none):Un fs ex H (upd H a o) h h' where
 keep:=fun b u q _ _ _=>k b u q
 slot:=fun b u q _ _ _=>⟨u.slots,k b u q⟩
 free:=fun b u q n _=>by rw[D0 (Nat.ne_of_lt (Nat.lt_of_lt_of_le (Heap.lt_size q) hp))];exact n
 there:=fun b u q _=>⟨u,k b u q⟩
 tups:=fun b xs q=>by rw[D0 (D2 q hn)];exact q
 frzs:=fun b u xs q=>by rw[D0 (D2 q hn)];exact q
 tbls:=fun b ps q=>⟨#[],by rw[D0 (D2 q hn),q];simp⟩
theorem Un.write(mu:Mut (H x)) (he:e=x\/H e=some (.own x)) (k:∀b u,b≠e->h.get? b=some u->h'.get? b=some u) (heo:∃u,h'.get? e=some u):Un fs ex H (upd H x o) h h':=by
 have hx:∀b,H b=none->b≠x:=fun b n z=>by subst z;rw[n]at mu;exact mu
 have hb:∀b,H b=none->b≠e:=fun b n z=>by
  subst z
  rcases he with r|r
  ·exact hx b n r
  ·rw[n]at r;cases r
 have hm:∀b u,H b=some u->¬Mut (some u)->b≠x:=fun b u q nm z=>by subst z;rw[q]at mu;exact nm mu
 refine⟨fun b u q n _ _=>k b u (hb b n) q,fun b u q n _ _=>⟨u.slots,k b u (hb b n) q⟩,fun b u q n _=>by rw[D0 (hx b n)];exact n,fun b u q _=>?_,
  fun b xs q=>by rw[D0 (hm b _ q fun z=>z)];exact q,fun b u xs q=>by rw[D0 (hm b _ q fun z=>z)];exact q,fun b ps q=>⟨#[],by rw[D0 (hm b _ q fun z=>z),q];simp⟩⟩
 by_cases hbe:b=e
 ·subst hbe;exact heo
 ·exact⟨u,k b u hbe q⟩
end
noncomputable def trk(h:Heap) (H:Hp):List Addr:=(List.range h.objs.size).filter fun a=>(H a).isSome
noncomputable def aJ8(h:Heap) (H:Hp):Heap:=PySem.W.hideAll h (trk h H)
theorem bj4(h:Heap) (H:Hp):(aJ8 h H).objs.size=h.objs.size:=PySem.W.hideAll_size _ _
theorem by4{h:Heap}{H:Hp}{b:Addr}{o:Obj}(e:h.get? b=some o) (n:H b=none):(aJ8 h H).get? b=some o :=
 PySem.W.hideAll_get _ e fun hm=>by
  have q:(H b).isSome=true:=(List.mem_filter.mp hm).2
  rw[n]at q;simp at q
theorem bH1{h:Heap}{H:Hp}{b:Addr}{o:Obj}(e:(aJ8 h H).get? b=some o):h.get? b=some o/\H b=none:=by
 have e':h.get? b=some o:=PySem.W.of_hideAll (trk h H) e
 refine⟨e',?_⟩
 cases q:H b with
 | none=>rfl
 | some x =>
  have hm:b∈trk h H:=List.mem_filter.mpr ⟨List.mem_range.mpr (Heap.lt_size e'),by simp[q]⟩
  have z:(aJ8 h H).get? b=none:=PySem.W.hideAll_none (trk h H) hm
  rw[z]at e;cases e
noncomputable def bN1(g h:Heap) (L:Addr):List (Addr×Obj):=(List.range h.objs.size).filterMap fun a=>if a=L\/(g.get? a).isSome=true then none else(h.get? a).map fun o=>(a,o)
noncomputable def T5(g h:Heap) (L d:Addr):List (Addr×Obj):=(bN1 g h L).filter fun p=>decide (p.1≠d)
structure Mod (K:PySem.W.Frag) (mg:Str->Option Value) (base:Heap):Prop where
 kin:K.In base
 glob:base.Ns mainGlobals mg
 blt:∃mb,base.Ns builtinsNs mb/\∀x:Str,x ≠ "__name__" -> mb x=bootBuiltins x
 nolimit:base.NoLimit
structure Cx where
 prog:Program
 w:World
 K:PySem.W.Frag
 mg:Str->Option Value
 base:Heap
 A:Around
 N:List Str
 s₀:Shared
 H₀:Hp
 env:Env
 outer:List Env
 stack:List Env
 ex:List Addr
 fn:Str->Bool
 calm:Bool
 pn:List (Addr×Obj)
 xe:Value->Shared->Prop
noncomputable def frs(l:List Env):List Addr:=l.filterMap (·.frame)
noncomputable abbrev Cx.fs(X:Cx):List Addr:=frs X.outer
noncomputable def Vis(sc:Scope) (x:Str):Prop:=sc.names.lookup x=some .local\/sc.names.lookup x=some .cell\/sc.names.lookup x=some .free
noncomputable def Loc(sc:Scope) (x:Str):Prop:=sc.names.lookup x=some .local\/sc.names.lookup x=some .cell
noncomputable def cr7(env:Env) (h:Heap) (m:Str->Option Value) (x:Str) (u:Value):Prop :=
 (env.kindOf x=some .local/\m x=some u)\/((env.kindOf x=some .cell\/env.kindOf x=some .free)/\∃c,env.cells.lookup x=some c/\h.IsCell c (some u))
structure Cx.Ok (X:Cx):Prop where
 mod:Mod X.K X.mg X.base
 kind:X.env.scope.kind=.function
 glob:X.env.globals=mainGlobals
 blt:X.env.builtins=builtinsNs
 above:X.s₀.heap.objs.size<=X.env.locals
 inj:∀x y c,X.env.cells.lookup x=some c->X.env.cells.lookup y=some c->x=y
 has:∀x,(X.env.kindOf x=some .cell\/X.env.kindOf x=some .free)->∃c,X.env.cells.lookup x=some c
 cab:∀x c,X.fn x=true->X.env.cells.lookup x=some c->X.s₀.heap.objs.size<=c
 hd:X.calm=true->X.A.handled=none
 frames:X.A.frames=some X.stack
 stk:X.stack=X.outer\/(X.stack=X.env::X.outer/\X.env.frame=some X.env.locals)
 exf:∀b∈X.ex,b≠X.env.locals/\∀x c,X.env.cells.lookup x=some c->c≠b
 bs:∀b o,X.base.get? b=some o->X.s₀.heap.get? b=some o/\X.H₀ b=none
 bsz:X.base.objs.size<=X.s₀.heap.objs.size
 noex:∀b o,X.base.get? b=some o->b∉X.ex
 exfs:∀b∈X.ex,b∉X.fs
 funs:X.s₀.heap.FunFrames X.base X.outer
 frf:∀b∈X.fs,X.H₀ b=none
structure Inv (X:Cx) (pins:List (Addr×Obj)) (σ:List (Option V)) (H:Hp) (s:Shared):Prop where
 ok:X.Ok
 os:s.os=X.s₀.os
 bare:AllBare s.gens
 base:Un X.fs X.ex X.H₀ H X.s₀.heap s.heap
 loc:∃m,s.heap.Ns X.env.locals m/\∀(i:Nat) (x:Str) (v:V),X.N[i]? = some x->σ[i]? = some (some v)->Vis X.env.scope x->∃u,P1 v u/\cr7 X.env s.heap m x u
 cell:∀x c,X.env.cells.lookup x=some c->∃v,s.heap.IsCell c v
 free:H X.env.locals=none
 freeC:∀x c,X.env.cells.lookup x=some c->H c=none
 pin:∀p∈X.pn++pins,s.heap.get? p.1=some p.2/\H p.1=none/\p.1≠X.env.locals/\p.1∉X.fs/\∀v,p.2.data≠.cell v
 hok:HOk X.prog X.w H s.heap
 len:σ.length=X.N.length
section
variable {X:Cx}{pins:List (Addr×Obj)}{σ:List (Option V)}{H H':Hp}{s:Shared}{h':Heap}
theorem Cx.Ok.nofr(ok:X.Ok) {b:Addr}{o:Obj}(e:X.base.get? b=some o):b∉X.fs:=fun hb=>by
 have:=(ok.funs.mem hb).1
 rw[e]at this;cases this
theorem Inv.bs(I:Inv X pins σ H s):∀b o,X.base.get? b=some o->s.heap.get? b=some o/\H b=none:=fun b o e =>⟨I.base.keep b o (I.ok.bs b o e).1 (I.ok.bs b o e).2 (I.ok.nofr e) (I.ok.noex b o e),I.base.free b o (I.ok.bs b o e).1 (I.ok.bs b o e).2 (I.ok.noex b o e)⟩
theorem Inv.bk(I:Inv X pins σ H s):∀b o,X.base.get? b=some o->s.heap.get? b=some o:=fun b o e=>(I.bs b o e).1
theorem Inv.mod(I:Inv X pins σ H s):Mod X.K X.mg X.base:=I.ok.mod
theorem Inv.kIn(I:Inv X pins σ H s):X.K.In s.heap:=I.ok.mod.kin.keeps I.bk
theorem Inv.lt(I:Inv X pins σ H s):X.env.locals < s.heap.objs.size:=let⟨_,hn,_⟩:=I.loc;hn.lt
theorem Inv.sz(I:Inv X pins σ H s):X.s₀.heap.objs.size<=s.heap.objs.size:=Nat.le_trans I.ok.above (Nat.le_of_lt I.lt)
theorem Inv.nofs(I:Inv X pins σ H s) {a:Addr}(h:s.heap.objs.size<=a):a∉X.fs:=fun hb=>by
 obtain⟨_,o,ho,_⟩:=I.ok.funs.mem hb
 exact absurd (Nat.lt_of_lt_of_le (Heap.lt_size ho) (Nat.le_trans I.sz h)) (Nat.lt_irrefl _)
theorem Inv.cne(I:Inv X pins σ H s):∀x c,X.env.cells.lookup x=some c->c≠X.env.locals:=fun x c e z=>by
 obtain⟨v,o,ho,hd⟩:=I.cell x c e
 obtain⟨m,⟨o',es,ep,ho',hd',_⟩,_⟩:=I.loc
 rw[z,ho']at ho;cases ho;rw[hd']at hd;cases hd
theorem Inv.funs(I:Inv X pins σ H s):s.heap.FunFrames X.base X.outer:=by
 have all:∀(l:List Env),(∀b∈frs l,b∈X.fs)->X.s₀.heap.FunFrames X.base l->s.heap.FunFrames X.base l:=by
  intro l
  induction l with
  | nil=>intro _ _;trivial
  | cons env r ih =>
   intro hs hl
   obtain⟨hk,⟨L,o,hf,hn,ho,hd⟩,hr⟩:=hl
   have hL:L∈X.fs:=hs L (by unfold frs;rw[List.filterMap_cons,hf];exact List.mem_cons_self)
   obtain⟨sl,e⟩:=I.base.slot L o ho (I.ok.frf L hL) hL fun z=>I.ok.exfs L z hL
   exact⟨hk,⟨L,_,hf,hn,e,hd⟩,ih (fun b hb=>hs b (by unfold frs;rw[List.filterMap_cons,hf];exact xmm _ hb)) hr⟩
 exact all X.outer (fun _ hb=>hb) I.ok.funs
theorem Inv.stack(I:Inv X pins σ H s):s.heap.FunFrames X.base X.stack:=by
 rcases I.ok.stk with e|⟨e,hf⟩
 ·rw[e];exact I.funs
 ·rw[e]
  obtain⟨m,hn,_⟩:=I.loc
  refine .cons (by rw[I.ok.kind];decide) hf hn ?_ I.funs
  exact Heap.get?_none_of_le (Nat.le_trans I.ok.bsz I.ok.above)
theorem Inv.stkSub(I:Inv X pins σ H s):∀b∈frs X.stack,b∈X.env.locals::X.fs:=fun b hb=>by
 rcases I.ok.stk with e|⟨e,hf⟩
 ·rw[e]at hb;exact xmm _ hb
 ·rw[e]at hb
  unfold frs at hb
  rw[List.filterMap_cons,hf]at hb
  exact hb
theorem Inv.stkFree(I:Inv X pins σ H s):∀b∈frs X.stack,H b=none:=fun b hb=>by
 rcases List.mem_cons.mp (I.stkSub b hb) with e|hb
 ·rw[e];exact I.free
 ·obtain⟨_,o,ho,_⟩:=I.ok.funs.mem hb
  exact I.base.free b o ho (I.ok.frf b hb) fun z=>I.ok.exfs b z hb
theorem Inv.step{g':Array GenState}{t':Nat}{d':Drawn}{ch:List Addr}(I:Inv X pins σ H s)
  (hch:∀b∈ch,(b∈X.ex\/X.s₀.heap.objs.size<=b)/\b≠X.env.locals/\(∀x c,X.env.cells.lookup x=some c->c≠b)/\∀p∈X.pn++pins,p.1≠b)
  (keep:∀b o,b≠X.env.locals->b∉X.fs->b∉ch->s.heap.get? b=some o->H b=none->h'.get? b=some o)
  (slot:∀b o,b≠X.env.locals->b∈X.fs->b∉ch->s.heap.get? b=some o->H b=none->∃sl,h'.get? b=some { o with slots:=sl }) (free:∀b o,b∉ch->s.heap.get? b=some o->H b=none->H' b=none)
  (there:∀b o,b∉ch->s.heap.get? b=some o->∃o',h'.get? b=some o')
  (tups:∀b xs,H b=some (.tup xs)->H' b=some (.tup xs)) (frzs:∀b o u,H b=some (.frz o u)->H' b=some (.frz o u)) (tbls:∀b ps,H b=some (.tbl ps)->∃more,H' b=some (.tbl (ps++more)))
  (ns:∀m,s.heap.Ns X.env.locals m->h'.Ns X.env.locals m) (hok:HOk X.prog X.w H' h') (hg:AllBare g') :
  Inv X pins σ H' { s with heap:=h',gens:=g',drawn:=d',toks:=t' }:=by
 have neL:∀b o,X.s₀.heap.get? b=some o->b≠X.env.locals:=fun b o e=>Nat.ne_of_lt (Nat.lt_of_lt_of_le (Heap.lt_size e) I.ok.above)
 have neC:∀b o,X.s₀.heap.get? b=some o->b∉X.ex->b∉ch:=fun b o e hx hb=>by
  rcases(hch b hb).1 with z|z
  ·exact hx z
  ·exact absurd (Nat.lt_of_lt_of_le (Heap.lt_size e) z) (Nat.lt_irrefl _)
 have cellK:∀x c,X.env.cells.lookup x=some c->∀v,s.heap.IsCell c v->h'.IsCell c v:=fun x c e v ⟨o,ho,hd⟩=>by
  have nch:c∉ch:=fun z=>(hch c z).2.2.1 x c e rfl
  by_cases hc:c∈X.fs
  ·obtain⟨sl,q⟩:=slot c o (I.cne x c e) hc nch ho (I.freeC x c e)
   exact⟨_,q,hd⟩
  ·exact⟨o,keep c o (I.cne x c e) hc nch ho (I.freeC x c e),hd⟩
 refine⟨I.ok,I.os,hg,⟨fun b o e n hb hx=>?_,fun b o e n hb hx=>?_,fun b o e n hx=>?_,fun b o e hx=>?_,fun b xs e=>tups b xs (I.base.tups b xs e),fun b o xs e=>frzs b o xs (I.base.frzs b o xs e),fun b ps e=>?_⟩,?_,fun x c e=>?_,?_,fun x c e=>?_,fun p hp=>?_,hok,I.len⟩
 ·exact keep b o (neL b o e) hb (neC b o e hx) (I.base.keep b o e n hb hx) (I.base.free b o e n hx)
 ·obtain⟨sl,e1⟩:=I.base.slot b o e n hb hx
  obtain⟨sl',e2⟩:=slot b _ (neL b o e) hb (neC b o e hx) e1 (I.base.free b o e n hx)
  exact⟨sl',e2⟩
 ·obtain⟨o',e1⟩:=I.base.there b o e hx
  exact free b o' (neC b o e hx) e1 (I.base.free b o e n hx)
 ·obtain⟨o',e1⟩:=I.base.there b o e hx
  exact there b o' (neC b o e hx) e1
 ·obtain⟨m1,e1⟩:=I.base.tbls b ps e
  obtain⟨m2,e2⟩:=tbls b _ e1
  exact⟨m1++m2,by rw[e2,Array.append_assoc]⟩
 ·obtain⟨m,hn,hl⟩:=I.loc
  refine⟨m,ns m hn,fun i x v e1 e2 e3=>?_⟩
  obtain⟨u,r,l⟩:=hl i x v e1 e2 e3
  refine⟨u,r,?_⟩
  rcases l with l|⟨k,c,e,z⟩
  ·exact .inl l
  ·exact .inr ⟨k,c,e,cellK x c e _ z⟩
 ·obtain⟨v,z⟩:=I.cell x c e
  exact⟨v,cellK x c e v z⟩
 ·obtain⟨m,⟨o,_,_,ho,_⟩,_⟩:=I.loc
  exact free _ o (fun z=>(hch _ z).2.1 rfl) ho I.free
 ·obtain⟨v,o,ho,hd⟩:=I.cell x c e
  exact free c o (fun z=>(hch c z).2.2.1 x c e rfl) ho (I.freeC x c e)
 ·obtain⟨e,n,ne,nf,d⟩:=I.pin p hp
  have nch:p.1∉ch:=fun z=>(hch p.1 z).2.2.2 p hp rfl
  exact⟨keep p.1 p.2 ne nf nch e n,free p.1 p.2 nch e n,ne,nf,d⟩
theorem Inv.un{t':Nat}(I:Inv X pins σ H s) (u:Un X.fs [] H H' s.heap h') (hok:HOk X.prog X.w H' h'):Inv X pins σ H' { s with heap:=h',toks:=t' }:=by
 obtain⟨m,⟨o,es,ep,ho,r⟩,_⟩:=id I.loc
 obtain⟨sl,hL⟩:=u.any ho I.free (by simp)
 exact I.step (g':=s.gens) (d':=s.drawn) (ch:=[]) (fun _ z=>nomatch z) (fun b o _ hb _ e n=>u.keep b o e n hb (by simp)) (fun b o _ hb _ e n=>u.slot b o e n hb (by simp)) (fun b o _ e n=>u.free b o e n (by simp)) (fun b o _ e=>u.there b o e (by simp)) u.tups u.frzs u.tbls (fun m' hm=>by
  obtain⟨o',es',ep',ho',r'⟩:=hm
  rw[ho]at ho';cases ho'
  exact⟨_,es',ep',hL,r'⟩) hok I.bare
theorem Inv.call{g':Array GenState}{t':Nat}{d':Drawn}{ch:List Addr}(I:Inv X pins σ H s) (u:Un (frs X.stack) ch H H' s.heap h') (hok:HOk X.prog X.w H' h') (hg:AllBare g')
  (hch:∀b∈ch,(b∈X.ex\/X.s₀.heap.objs.size<=b)/\b≠X.env.locals/\(∀x c,X.env.cells.lookup x=some c->c≠b)/\∀p∈X.pn++pins,p.1≠b) :
  Inv X pins σ H' { s with heap:=h',gens:=g',drawn:=d',toks:=t' }:=by
 obtain⟨m,⟨o,es,ep,ho,r⟩,_⟩:=id I.loc
 obtain⟨sl,hL⟩:=u.any ho I.free fun z=>(hch _ z).2.1 rfl
 exact I.step (ch:=ch) hch (fun b o hL hb hc e n=>u.keep b o e n (fun z=>(List.mem_cons.mp (I.stkSub b z)).elim hL hb) hc) (fun b o _ _ hc e n=>u.any e n hc) (fun b o hc e n=>u.free b o e n hc) (fun b o hc e=>u.there b o e hc) u.tups u.frzs u.tbls (fun m' hm=>by
  obtain⟨o',es',ep',ho',r'⟩:=hm
  rw[ho]at ho';cases ho'
  exact⟨_,es',ep',hL,r'⟩) hok hg
theorem Inv.turned{t':Nat}{it:Addr}(I:Inv X pins σ H s) (k:∀b o,b≠it->s.heap.get? b=some o->h'.get? b=some o) (hn:H it=none) (hL:it≠X.env.locals)
  (h1:it∈X.ex\/X.s₀.heap.objs.size<=it) (h2:∀x c,X.env.cells.lookup x=some c->c≠it) (h3:∀p∈X.pn++pins,p.1≠it):Inv X pins σ H { s with heap:=h',toks:=t' }:=by
 have nit:∀b u,H b=some u->b≠it:=fun b u e z=>by rw[z,hn]at e;cases e
 refine I.step (g':=s.gens) (d':=s.drawn) (ch:=[it]) (fun b hb=>?_) (fun b o _ _ hc e _=>k b o (fun z=>hc (by simp[z])) e) (fun b o _ _ hc e _=>⟨o.slots,k b o (fun z=>hc (by simp[z])) e⟩) (fun _ _ _ _ n=>n)
  (fun b o hc e=>⟨o,k b o (fun z=>hc (by simp[z])) e⟩) (fun _ _ e=>e) (fun _ _ _ e=>e) (fun b ps e=>⟨#[],by rw[e];simp⟩) (fun m hm=>?_) (fun b u e=>?_) I.bare
 ·have e:b=it:=by simpa using hb
  subst e
  exact⟨h1,hL,h2,h3⟩
 ·obtain⟨o,es,ep,ho,r⟩:=hm
  exact⟨o,es,ep,k _ o (Ne.symm hL) ho,r⟩
 ·refine(I.hok b u e).stay (fun c v hc q=>k c v ?_ q) (fun _ q=>q) fun _ _ q=>q
  rcases hc with z|z
  ·rw[z];exact nit b u e
  ·exact nit c _ z
theorem Inv.tok(I:Inv X pins σ H s) (t:Nat):Inv X pins σ H { s with toks:=t }:=I.un (h':=s.heap) (t':=t) Un.refl I.hok
theorem Inv.kept{t':Nat}(I:Inv X pins σ H s) (k:∀b u,s.heap.get? b=some u->h'.get? b=some u):Inv X pins σ H { s with heap:=h',toks:=t' }:=I.un (Un.kept k) (I.hok.kept k)
theorem Inv.laid{a:Addr}{o:HO}{t':Nat}(I:Inv X pins σ H s) (k:∀b u,s.heap.get? b=some u->h'.get? b=some u) (hp:s.heap.objs.size<=a) (new:m4 X.prog X.w (upd H a o) h' a o) :
  Inv X pins σ (upd H a o) { s with heap:=h',toks:=t' }:=I.un (Un.laid k hp (I.hok.fresh hp)) (I.hok.laid k hp new)
theorem Inv.write{x e:Addr}{o:HO}{t':Nat}(I:Inv X pins σ H s) (mu:Mut (H x)) (he:e=x\/H e=some (.own x)) (k:∀b u,b≠e->s.heap.get? b=some u->h'.get? b=some u) (heo:∃u,h'.get? e=some u)
  (new:m4 X.prog X.w (upd H x o) h' x o):Inv X pins σ (upd H x o) { s with heap:=h',toks:=t' }:=I.un (Un.write mu he k heo) (I.hok.write mu he k heo new)
theorem Inv.pins_of{pins':List (Addr×Obj)}(I:Inv X pins σ H s) (h:∀p∈pins',s.heap.get? p.1=some p.2/\H p.1=none/\p.1≠X.env.locals/\p.1∉X.fs/\∀v,p.2.data≠.cell v):Inv X pins' σ H s :=
 ⟨I.ok,I.os,I.bare,I.base,I.loc,I.cell,I.free,I.freeC,fun p hp=>(List.mem_append.mp hp).elim (fun z=>I.pin p (List.mem_append_left _ z)) (h p),I.hok,I.len⟩
theorem aO2{N:List Str}(hN:N.Nodup) {i j:Nat}{x:Str}(a:N[i]? = some x) (b:N[j]? = some x):i=j:=by
 obtain⟨h1,e1⟩:=List.getElem?_eq_some_iff.mp a
 obtain⟨h2,e2⟩:=List.getElem?_eq_some_iff.mp b
 exact(List.getElem_inj hN).mp (e1.trans e2.symm)
theorem aD0{M:Model}{A:Around}{E:Value->Shared->Prop}{i:Nat}{x:Str}{v:V}{u:Value}{Q:Unit->Shared->Prop}(I:Inv X pins σ H s) (hN:X.N.Nodup) (hi:X.N[i]? = some x) (hx:Loc X.env.scope x) (r:P1 v u)
  (h:∀s',Inv X pins (σ.set i (some v)) H s'->(∃a,Heap.SameBut a s.heap s'.heap/\(a=X.env.locals\/X.env.cells.lookup x=some a))->Q () s') (hf:X.fn x=true\/X.env.scope.names.lookup x=some .local:=by first|exact .inl rfl|exact .inr rfl|assumption):wpAny M A (storeName X.env x u) Q E s:=by
 obtain⟨m,hn,hl⟩:=id I.loc
 have hcls:(X.env.scope.kind == .class || (X.env.scope.kind == .module&&X.env.locals != X.env.globals))=false:=by rw[I.ok.kind];rfl
 have hiσ:i < σ.length:=by rw[I.len];exact(List.getElem?_eq_some_iff.mp hi).1
 have cne:=I.cne
 have tracked:∀{a:Addr}{h':Heap},(∃o,s.heap.get? a=some o/\H a=none)->Heap.SameBut a s.heap h'->HOk X.prog X.w H h':=fun{a h'} ha hs b ob e=>by
  obtain⟨_,_,hfree⟩:=ha
  refine(I.hok b ob e).stay (fun c w' hc q=>(hs.2 c ?_).trans q) (fun _ q=>q) fun _ _ q=>q
  rintro rfl
  rcases hc with rfl|hc
  ·rw[hfree]at e;cases e
  ·rw[hfree]at hc;cases hc
 rcases hx with hk|hk
 ·refine wpAny_storeName_local hk hn (fun h' hn' hs=>?_) hcls
  obtain⟨oL,_,_,hoL,_⟩:=id hn
  refine h _ ⟨I.ok,I.os,I.bare,⟨fun b o e n hb hx=>?_,fun b o e n hb hx=>?_,I.base.free,fun b o e hx=>?_,I.base.tups,I.base.frzs,I.base.tbls⟩,⟨_,hn',fun j y v' e1 e2 e3=>?_⟩,fun y c e=>?_,I.free,I.freeC,fun p hp=>?_,tracked ⟨oL,hoL,I.free⟩ hs,by simpa using I.len⟩ ⟨_,hs,.inl rfl⟩
  ·exact(hs.2 b (Nat.ne_of_lt (Nat.lt_of_lt_of_le (Heap.lt_size e) I.ok.above))).trans (I.base.keep b o e n hb hx)
  ·obtain⟨sl,e1⟩:=I.base.slot b o e n hb hx
   exact⟨sl,(hs.2 b (Nat.ne_of_lt (Nat.lt_of_lt_of_le (Heap.lt_size e) I.ok.above))).trans e1⟩
  ·obtain⟨o',e1⟩:=I.base.there b o e hx
   exact⟨o',(hs.2 b (Nat.ne_of_lt (Nat.lt_of_lt_of_le (Heap.lt_size e) I.ok.above))).trans e1⟩
  ·by_cases hj:j=i
   ·subst hj
    rw[hi]at e1;cases e1
    rw[List.getElem?_set_self hiσ]at e2
    cases e2
    exact⟨u,r,.inl ⟨hk,by simp⟩⟩
   ·rw[List.getElem?_set_ne (Ne.symm hj)]at e2
    obtain⟨u',r',q⟩:=hl j y v' e1 e2 e3
    refine⟨u',r',?_⟩
    rcases q with⟨k,e⟩|⟨k,c,e,z⟩
    ·refine .inl ⟨k,?_⟩
     have:y≠x:=fun e=>hj (aO2 hN e1 (e ▸ hi))
     simp[this,e]
    ·exact .inr ⟨k,c,e,z.sameBut hs (cne y c e)⟩
  ·obtain⟨w',z⟩:=I.cell y c e
   exact⟨w',z.sameBut hs (cne y c e)⟩
  ·obtain⟨e,n,ne,nf,d⟩:=I.pin p hp
   exact⟨(hs.2 p.1 ne).trans e,n,ne,nf,d⟩
 ·have hfn:X.fn x=true:=by
   rcases hf with z|z
   ·exact z
   ·rw[z]at hk;cases hk
  obtain⟨c,hc⟩:=I.ok.has x (.inl hk)
  obtain⟨w',z⟩:=I.cell x c hc
  refine wpAny_storeName_cell I.ok.kind hk hc z (fun h' hc' hs=>?_)
  obtain⟨oc,hoc,hocd⟩:=id z
  refine h { s with heap:=h' } ⟨I.ok,I.os,I.bare,⟨fun b o e n hb hx=>?_,fun b o e n hb hx=>?_,I.base.free,fun b o e hx=>?_,I.base.tups,I.base.frzs,I.base.tbls⟩,⟨m,hn.sameBut hs (Ne.symm (cne x c hc)),fun j y v' e1 e2 e3=>?_⟩,fun y c' e=>?_,I.free,I.freeC,fun p hp=>?_,tracked ⟨oc,hoc,I.freeC x c hc⟩ hs,by simpa using I.len⟩ ⟨c,hs,.inr hc⟩
  ·exact(hs.2 b (Nat.ne_of_lt (Nat.lt_of_lt_of_le (Heap.lt_size e) (I.ok.cab x c hfn hc)))).trans (I.base.keep b o e n hb hx)
  ·obtain⟨sl,e1⟩:=I.base.slot b o e n hb hx
   exact⟨sl,(hs.2 b (Nat.ne_of_lt (Nat.lt_of_lt_of_le (Heap.lt_size e) (I.ok.cab x c hfn hc)))).trans e1⟩
  ·obtain⟨o',e1⟩:=I.base.there b o e hx
   exact⟨o',(hs.2 b (Nat.ne_of_lt (Nat.lt_of_lt_of_le (Heap.lt_size e) (I.ok.cab x c hfn hc)))).trans e1⟩
  ·by_cases hj:j=i
   ·subst hj
    rw[hi]at e1;cases e1
    rw[List.getElem?_set_self hiσ]at e2
    cases e2
    exact⟨u,r,.inr ⟨.inl hk,c,hc,hc'⟩⟩
   ·rw[List.getElem?_set_ne (Ne.symm hj)]at e2
    obtain⟨u',r',q⟩:=hl j y v' e1 e2 e3
    refine⟨u',r',?_⟩
    rcases q with q|⟨k,c',e,z'⟩
    ·exact .inl q
    ·refine .inr ⟨k,c',e,z'.sameBut hs ?_⟩
     rintro rfl
     exact hj (aO2 hN e1 (I.ok.inj _ _ _ e hc ▸ hi))
  ·by_cases hcc:c'=c
   ·subst hcc;exact⟨_,hc'⟩
   ·obtain⟨w2,z2⟩:=I.cell y c' e
    exact⟨w2,z2.sameBut hs hcc⟩
  ·obtain⟨e,n,ne,nf,d⟩:=I.pin p hp
   refine⟨(hs.2 p.1 ?_).trans e,n,ne,nf,d⟩
   intro q
   rw[q,hoc]at e
   have q':oc=p.2:=Option.some.inj e
   exact d w' (by rw[← q'];exact hocd)
theorem ak6{M:Model}{A:Around}{E:Value->Shared->Prop}{i:Nat}{x:Str}{v:V}{u:Value}{Q:Unit->Shared->Prop}(I:Inv X pins σ H s) (hN:X.N.Nodup) (hi:X.N[i]? = some x) (hx:Loc X.env.scope x) (r:P1 v u)
  (h:∀s',Inv X pins (σ.set i (some v)) H s'->Q () s') (hf:X.fn x=true\/X.env.scope.names.lookup x=some .local:=by first|exact .inl rfl|exact .inr rfl|assumption):wpAny M A (storeName X.env x u) Q E s :=
 aD0 I hN hi hx r (fun s' I' _=>h s' I') hf
theorem Inv.call'{s':Shared}{ch:List Addr}(I:Inv X pins σ H s) (ho:s'.os=s.os) (u:Un (frs X.stack) ch H H' s.heap s'.heap) (hok:HOk X.prog X.w H' s'.heap) (hg:AllBare s'.gens)
  (hch:∀b∈ch,(b∈X.ex\/X.s₀.heap.objs.size<=b)/\b≠X.env.locals/\(∀x c,X.env.cells.lookup x=some c->c≠b)/\∀p∈X.pn++pins,p.1≠b):Inv X pins σ H' s':=by
 obtain⟨h',g',d',t',o'⟩:=s'
 have e:o'=s.os:=ho
 subst e
 exact I.call (g':=g') (t':=t') (d':=d') u hok hg hch
end
noncomputable abbrev XK:=Value->Option Addr->Hp->Prop
noncomputable abbrev St:=List (Option V)
noncomputable abbrev VK:=V->Hp->Prop
noncomputable abbrev TE:=St->Hp->VK->Prop
noncomputable abbrev TT:=St->Hp->(Bool->Hp->Prop)->Prop
noncomputable abbrev TA:=St->Hp->(List V->Hp->Prop)->Prop
structure Ends where
 nx:St->Hp->Prop
 rt:VK
 bk:St->Hp->Prop:=fun _ _=>False
 ct:St->Hp->Prop:=fun _ _=>False
noncomputable abbrev TS:=Ends->St->Hp->Prop
noncomputable def EP(X:Cx) (pins:List (Addr×Obj)) (σ:St) (Q:VK) (u:Value) (s':Shared):Prop:=∃v H',Inv X pins σ H' s'/\P1 v u/\Q v H'
noncomputable def TP(X:Cx) (pins:List (Addr×Obj)) (σ:St) (Q:Bool->Hp->Prop) (b:Bool) (s':Shared):Prop:=∃H',Inv X pins σ H' s'/\Q b H'
noncomputable def AP(X:Cx) (pins:List (Addr×Obj)) (σ:St) (Q:List V->Hp->Prop) (us:List Value) (s':Shared):Prop:=∃vs H',Inv X pins σ H' s'/\K1 vs us/\Q vs H'
noncomputable def SP(X:Cx) (pins:List (Addr×Obj)) (D:Ends) (f:Flow) (s':Shared):Prop :=
 match f with
 | .next=>∃σ' H',Inv X pins σ' H' s'/\D.nx σ' H'
 | .brk=>∃σ' H',Inv X pins σ' H' s'/\D.bk σ' H'
 | .cont=>∃σ' H',Inv X pins σ' H' s'/\D.ct σ' H'
 | .ret u=>∃v σ' H',Inv X pins σ' H' s'/\P1 v u/\D.rt v H'
noncomputable def PE(X:Cx) (e:Expr) (t:TE):Prop :=
 ∀(pins:List (Addr×Obj)) (s:Shared) (σ:St) (H:Hp) (Q:VK),Inv X pins σ H s->t σ H Q->wpAny (model X.prog X.w) X.A (eval e X.env) (EP X pins σ Q) X.xe s
noncomputable def PT(X:Cx) (e:Expr) (t:TT):Prop :=
 ∀(pins:List (Addr×Obj)) (s:Shared) (σ:St) (H:Hp) (Q:Bool->Hp->Prop),Inv X pins σ H s->t σ H Q->wpAny (model X.prog X.w) X.A (isTrue e X.env (eval e X.env)) (TP X pins σ Q) X.xe s
noncomputable def PW(X:Cx) (e:Expr) (t:TT):Prop :=
 ∀(whole:Sem Value) (pins:List (Addr×Obj)) (s:Shared) (σ:St) (H:Hp) (Q:Bool->Hp->Prop),Inv X pins σ H s->t σ H Q->wpAny (model X.prog X.w) X.A (isTrue e X.env whole) (TP X pins σ Q) X.xe s
theorem PW.pt{X:Cx}{e:Expr}{t:TT}(h:PW X e t):PT X e t:=h _
noncomputable def PA(X:Cx) (es:List Expr) (t:TA):Prop :=
 ∀(pos:Pos) (pins:List (Addr×Obj)) (s:Shared) (σ:St) (H:Hp) (Q:List V->Hp->Prop),Inv X pins σ H s->t σ H Q->wpAny (model X.prog X.w) X.A (spliced (backTo pos (starEach es X.env))) (AP X pins σ Q) X.xe s
noncomputable def PS(X:Cx) (st:Stmt) (t:TS):Prop :=
 ∀(pins:List (Addr×Obj)) (s:Shared) (σ:St) (H:Hp) (D:Ends),Inv X pins σ H s->t D σ H->wpAny (model X.prog X.w) X.A (exec st X.env) (SP X pins D) X.xe s
noncomputable def PSs(X:Cx) (st:List Stmt) (t:TS):Prop :=
 ∀(pins:List (Addr×Obj)) (s:Shared) (σ:St) (H:Hp) (D:Ends),Inv X pins σ H s->t D σ H->wpAny (model X.prog X.w) X.A (execs st X.env) (SP X pins D) X.xe s
theorem thn{α:Type}{t:Sem α}{Q Q':α->Shared->Prop}{M:Model}{A:Around}{E:Value->Shared->Prop}{s:Shared}(h:wpAny M A t Q E s) (hQ:∀a s,Q a s->Q' a s):wpAny M A t Q' E s:=wpAny_mono h hQ fun _ _ x=>x
section
variable {X:Cx}
theorem bin{a b:Expr}{ta tb:TE}(ha:PE X a ta) (hb:PE X b tb) {pins:List (Addr×Obj)}{s:Shared}{σ:St}{H:Hp}{R:V->V->Hp->Prop}(I:Inv X pins σ H s) (h:ta σ H fun x H1=>tb σ H1 fun y H2=>R x y H2)
  {α:Type}{Q:α->Shared->Prop}{f:Value->Value->Sem α}
  (hf:∀v u s2 x y H2,Inv X pins σ H2 s2->P1 x v->P1 y u->R x y H2->wpAny (model X.prog X.w) X.A (f v u) Q X.xe s2) :
  wpAny (model X.prog X.w) X.A (eval a X.env) (fun v s₁=>wpAny (model X.prog X.w) X.A (eval b X.env) (fun u s₂=>wpAny (model X.prog X.w) X.A (f v u) Q X.xe s₂) X.xe s₁) X.xe s:=by
 refine thn (ha pins s σ H _ I h) fun v s1 ⟨x,H1,I1,r1,q1⟩=>?_
 refine thn (hb pins s1 σ H1 _ I1 q1) fun u s2 ⟨y,H2,I2,r2,q2⟩=>?_
 exact hf v u s2 x y H2 I2 r1 r2 q2
noncomputable def cg4(i:Nat):TE:=fun σ H Q=>∃v,σ[i]? = some (some v)/\Q v H
noncomputable def tC(v:V):TE:=fun _ H Q=>Q v H
theorem ai4{i:Nat}{x:Str}{pos:Pos}(hN:X.N[i]? = some x) (hv:Vis X.env.scope x) (hd:(x==("__debug__" : Str))=false:=by decide) (hcd:(x==("__classdict__" : Str))=false:=by decide):PE X (.Name x pos) (cg4 i):=by
 intro pins s σ H Q I h
 obtain⟨v,e,h⟩:=h
 obtain⟨m,hn,hl⟩:=I.loc
 obtain⟨u,r,l⟩:=hl i x v hN e hv
 have fin:EP X pins σ Q u s:=⟨v,H,I,r,h⟩
 rcases l with⟨hk,hm⟩|⟨hk,c,hc,hcell⟩
 ·exact wpAny_Name (wpAny_loadName_local I.ok.kind hk hn hm fin) hd
 ·rcases hk with hk|hk
  ·exact wpAny_Name (wpAny_loadName_cell I.ok.kind hk hc hcell fin) hd
  ·exact wpAny_Name (wpAny_loadName_free I.ok.kind hk hc hcell fin hcd) hd
theorem bU0{i j pos}:PE X (.Constant (.int i) j pos) (tC (.int i)):=fun _ _ _ H _ I h=>wpAny_Constant_int ⟨.int i,H,I.tok _,⟨_,rfl⟩,h⟩
theorem ci5{b j pos}:PE X (.Constant (.bool b) j pos) (tC (.bl b)):=fun _ _ _ H _ I h=>Constant_bool ⟨.bl b,H,I,rfl,h⟩
theorem bT9{j pos}:PE X (.Constant .none j pos) (tC .non):=fun _ _ _ H _ I h=>Constant_none ⟨.non,H,I,rfl,h⟩
theorem bT5{x j pos}:PE X (.Constant (.str x) j pos) (tC (.str x)):=fun _ _ _ H _ I h=>Calls.Constant_str ⟨.str x,H,I.tok _,⟨_,rfl⟩,h⟩
noncomputable def Gl(X:Cx) (x:Str):Prop:=X.env.kindOf x=some .globalImplicit
theorem ag0{E:Value->Shared->Prop}{pins:List (Addr×Obj)}{s:Shared}{σ:St}{H:Hp}{x:Str}{u:Value}{pos:Pos}{Q:Value->Shared->Prop}(I:Inv X pins σ H s) (hg:Gl X x) (hm:X.mg x=some u) (h:Q u s)
  (hd:(x==("__debug__" : Str))=false:=by decide):wpAny (model X.prog X.w) X.A (eval (.Name x pos) X.env) Q E s :=
 Calls.Name_function_global I.ok.kind hg (Calls.loadGlobal_global (by rw[I.ok.glob];exact I.mod.glob.keeps I.bk) hm h) hd
theorem ap2{E:Value->Shared->Prop}{pins:List (Addr×Obj)}{s:Shared}{σ:St}{H:Hp}{x:Str}{u:Value}{pos:Pos}{Q:Value->Shared->Prop}(I:Inv X pins σ H s) (hg:Gl X x) (hm:X.mg x=none) (hv:bootBuiltins x=some u) (h:Q u s)
  (hn:x ≠ "__name__" := by decide) (hd:(x==("__debug__" : Str))=false:=by decide):wpAny (model X.prog X.w) X.A (eval (.Name x pos) X.env) Q E s:=by
 obtain⟨mb,h1,h2⟩:=I.mod.blt
 exact Calls.Name_function_global I.ok.kind hg (Calls.loadGlobal_builtin (by rw[I.ok.glob];exact I.mod.glob.keeps I.bk) hm (by rw[I.ok.blt];exact h1.keeps I.bk) ((h2 x hn).trans hv) h) hd
theorem bb9{x:Str}{v:V}{u:Value}{pos:Pos}(hg:Gl X x) (hm:X.mg x=some u) (r:P1 v u) (hd:(x==("__debug__" : Str))=false:=by decide):PE X (.Name x pos) (tC v) :=
 fun _ _ _ H _ I h=>ag0 I hg hm ⟨v,H,I,r,h⟩ hd
theorem bG3{x:Str}{v:V}{u:Value}{pos:Pos}(hg:Gl X x) (hm:X.mg x=none) (hv:bootBuiltins x=some u) (r:P1 v u) (hn:x ≠ "__name__" := by decide) (hd:(x==("__debug__" : Str))=false:=by decide):PE X (.Name x pos) (tC v) :=
 fun _ _ _ H _ I h=>ap2 I hg hm hv ⟨v,H,I,r,h⟩ hn hd
variable {a b:Expr}{ta tb:TE}{pos:Pos}
variable {tA tB':TT}{T5:List Expr}
noncomputable def co7(t u:TT):TT:=fun σ H Q=>t σ H fun c H1=>if c=true then u σ H1 Q else Q false H1
noncomputable def tOr(t u:TT):TT:=fun σ H Q=>t σ H fun c H1=>if c=true then Q true H1 else u σ H1 Q
noncomputable def co3(t:TT):TT:=fun σ H Q=>t σ H fun c H1=>Q (!c) H1
theorem bE8(ha:PT X a tA):PW X (.BoolOp .And [a] pos) tA:=by
 intro wh pins s σ H Q I h
 refine isTrue_and (thn (ha pins s σ H Q I h) fun c s1 e=>?_)
 cases c with
 | true=>exact isTrue_and_nil e
 | false=>exact e
theorem bS5(ha:PT X a tA):PW X (.BoolOp .Or [a] pos) tA:=by
 intro wh pins s σ H Q I h
 refine isTrue_or (thn (ha pins s σ H Q I h) fun c s1 e=>?_)
 cases c with
 | false=>exact isTrue_or_nil e
 | true=>exact e
theorem br5(ha:PT X a tA) (hb:PW X (.BoolOp .And (b::T5) pos) tB'):PW X (.BoolOp .And (a::b::T5) pos) (co7 tA tB'):=by
 intro wh pins s σ H Q I h
 refine isTrue_and (thn (ha pins s σ H _ I h) fun c s1 ⟨H1,I1,q1⟩=>?_)
 cases c with
 | true=>exact hb wh pins s1 σ H1 Q I1 q1
 | false=>exact⟨H1,I1,q1⟩
theorem bN9(ha:PT X a tA) (hb:PW X (.BoolOp .Or (b::T5) pos) tB'):PW X (.BoolOp .Or (a::b::T5) pos) (tOr tA tB'):=by
 intro wh pins s σ H Q I h
 refine isTrue_or (thn (ha pins s σ H _ I h) fun c s1 ⟨H1,I1,q1⟩=>?_)
 cases c with
 | true=>exact⟨H1,I1,q1⟩
 | false=>exact hb wh pins s1 σ H1 Q I1 q1
theorem bS6(ha:PT X a tA):PT X (.UnaryOp .Not a pos) (co3 tA):=by
 intro pins s σ H Q I h
 exact isTrue_not (ha pins s σ H (fun c H1=>Q (!c) H1) I h)
noncomputable def ch2(ta tb:TE):TE:=fun σ H Q=>ta σ H fun x H1=>∃c,x=.bl c/\if c=true then tb σ H1 Q else Q (.bl false) H1
noncomputable def co2(ta tb:TE):TE:=fun σ H Q=>ta σ H fun x H1=>∃c,x=.bl c/\if c=true then Q (.bl true) H1 else tb σ H1 Q
noncomputable def cg6(ta:TE):TE:=fun σ H Q=>ta σ H fun x H1=>∃c,x=.bl c/\Q (.bl (!c)) H1
theorem bT7{op} {t:TE}(h:PE X a t):PE X (.BoolOp op [a] pos) t:=fun pins s σ H Q I hw=>BoolOp_one (h pins s σ H Q I hw)
theorem bs8(ha:PE X a ta) (hb:PE X (.BoolOp .And (b::T5) pos) tb):PE X (.BoolOp .And (a::b::T5) pos) (ch2 ta tb):=by
 intro pins s σ H Q I h
 refine BoolOp_and (thn (ha pins s σ H _ I h) fun v s1 ⟨x,H1,I1,r1,q1⟩=>?_)
 obtain⟨c,rfl,q1⟩:=q1
 cases r1
 refine wpAny_truthy_bool ?_
 cases c with
 | true=>exact hb pins s1 σ H1 Q I1 q1
 | false=>exact⟨.bl false,H1,I1,rfl,q1⟩
theorem bO1(ha:PE X a ta) (hb:PE X (.BoolOp .Or (b::T5) pos) tb):PE X (.BoolOp .Or (a::b::T5) pos) (co2 ta tb):=by
 intro pins s σ H Q I h
 refine BoolOp_or (thn (ha pins s σ H _ I h) fun v s1 ⟨x,H1,I1,r1,q1⟩=>?_)
 obtain⟨c,rfl,q1⟩:=q1
 cases r1
 refine wpAny_truthy_bool ?_
 cases c with
 | false=>exact hb pins s1 σ H1 Q I1 q1
 | true=>exact⟨.bl true,H1,I1,rfl,q1⟩
theorem bT8(ha:PE X a ta):PE X (.UnaryOp .Not a pos) (cg6 ta):=by
 intro pins s σ H Q I h
 refine UnaryOp_ (thn (ha pins s σ H _ I h) fun v s1 ⟨x,H1,I1,r1,q1⟩=>?_)
 obtain⟨c,rfl,q1⟩:=q1
 cases r1
 exact not_of (wpAny_truthy_bool ⟨.bl (!c),H1,I1,rfl,q1⟩)
noncomputable def tIf(t:TT) (ta tb:TE):TE:=fun σ H Q=>t σ H fun c H1=>if c=true then ta σ H1 Q else tb σ H1 Q
theorem aN8{c:Expr}(hc:PT X c tA) (ha:PE X a ta) (hb:PE X b tb):PE X (.IfExp c a b pos) (tIf tA ta tb):=by
 intro pins s σ H Q I h
 refine wpAny_IfExp (thn (hc pins s σ H _ I h) fun d s1 ⟨H1,I1,q1⟩=>?_)
 cases d with
 | true=>exact ha pins s1 σ H1 Q I1 q1
 | false=>exact hb pins s1 σ H1 Q I1 q1
end
noncomputable def SqL(K:PySem.W.Frag) (H:Hp) (a:Addr) (xs:List V):Prop :=
 Rd H a (.lst xs) \/
  ∃(o:Obj) (its:Array Value) (n:Nat),K.lookup a=some o/\o.cls=.type "list" /\ o.dict=none/\o.data=.seq its n/\its.size<=sizeLine/\K1 xs its.toList
noncomputable def SqT(K:PySem.W.Frag) (H:Hp) (a:Addr) (xs:List V):Prop :=
 Rd H a (.tup xs) \/
  ∃(o:Obj) (its:Array Value) (n:Nat),K.lookup a=some o/\o.cls=.type "tuple" /\ o.dict=none/\o.data=.seq its n/\its.size<=sizeLine/\K1 xs its.toList
noncomputable def cr5:Value->Option V
 | .none=>some .non
 | .bool b=>some (.bl b)
 | .int i _=>some (.int i)
 | .str x _=>some (.str x)
 | .bytes b _=>some (.byt b)
 | .float b _=>some (.flt b)
 | .ref a=>some (.ref a)
 | .type n=>some (.ty n)
 | _=>none
theorem P1.abs{x:V}{u:Value}(r:P1 x u):cr5 u=some x:=by
 cases x with
 | non=>cases r;rfl
 | bl _=>cases r;rfl
 | int _=>obtain⟨t,rfl⟩:=r;rfl
 | str _=>obtain⟨t,rfl⟩:=r;rfl
 | byt _=>obtain⟨t,rfl⟩:=r;rfl
 | flt _=>obtain⟨t,rfl⟩:=r;rfl
 | ref _=>cases r;rfl
 | ty _=>cases r;rfl
theorem P1.inj{x y:V}{u:Value}(r:P1 x u) (q:P1 y u):x=y:=Option.some.inj (r.abs.symm.trans q.abs)
theorem K1.inj:∀{xs ys:List V}{us:List Value},K1 xs us->K1 ys us->xs=ys
 | _,_,_,.nil,.nil=>rfl
 | _,_,_,.cons r t,.cons r' t'=>by rw[r.inj r',K1.inj t t']
section
variable {X:Cx}{pins:List (Addr×Obj)}{σ:St}{H:Hp}{s:Shared}{a:Addr}{xs ys:List V}
theorem SqL.of{K:PySem.W.Frag}(h:H a=some (.lst xs)):SqL K H a xs:=.inl (.inl h)
theorem SqT.of{K:PySem.W.Frag}(h:H a=some (.tup xs)):SqT K H a xs:=.inl (.inl h)
theorem Inv.list(I:Inv X pins σ H s) (h:SqL X.K H a xs):∃its:List Value,K1 xs its/\PlainL s.heap a its.toArray/\xs.length<=sizeLine:=by
 rcases h with h|⟨o,its,n,hk,hc,hd,hs,hz,r⟩
 ·obtain⟨z,its,n,r,e⟩:=h.ok I.hok
  exact⟨its,r,⟨_,n,e,rfl,rfl,rfl⟩,z⟩
 ·refine⟨its.toList,r,⟨o,n,I.kIn a o hk,hc,hd,by simpa using hs⟩,?_⟩
  have e:=r.length
  simp only[Array.length_toList]at e
  omega
theorem Inv.tupN(I:Inv X pins σ H s) (h:SqT X.K H a xs):∃its:List Value,K1 xs its/\ay7 s.heap a its.toArray/\xs.length<=sizeLine:=by
 rcases h with h|⟨o,its,n,hk,hc,hd,hs,hz,r⟩
 ·obtain⟨z,its,r,p⟩:=h.ok I.hok
  exact⟨its,r,p,z⟩
 ·refine⟨its.toList,r,⟨o,I.kIn a o hk,hc,⟨n,by simpa using hs⟩,hd⟩,?_⟩
  have e:=r.length
  simp only[Array.length_toList]at e
  omega
theorem Inv.tuple(I:Inv X pins σ H s) (h:SqT X.K H a xs):∃its:List Value,K1 xs its/\IsTup s.heap a its.toArray/\xs.length<=sizeLine :=
 let⟨its,r,p,z⟩:=I.tupN h;⟨its,r,p.tup,z⟩
theorem Inv.list_inj(I:Inv X pins σ H s) (h:SqL X.K H a xs) (h':SqL X.K H a ys):xs=ys:=by
 obtain⟨its,r,⟨o,n,e,_,_,d⟩,_⟩:=I.list h
 obtain⟨its',r',⟨o',n',e',_,_,d'⟩,_⟩:=I.list h'
 rw[e]at e';cases e'
 rw[d]at d'
 injection d' with d1 _
 have:its=its':=by simpa using congrArg Array.toList d1
 subst this
 exact r.inj r'
theorem Inv.tuple_inj(I:Inv X pins σ H s) (h:SqT X.K H a xs) (h':SqT X.K H a ys):xs=ys:=by
 obtain⟨its,r,⟨o,e,_,n,d⟩,_⟩:=I.tuple h
 obtain⟨its',r',⟨o',e',_,n',d'⟩,_⟩:=I.tuple h'
 rw[e]at e';cases e'
 rw[d]at d'
 injection d' with d1 _
 have:its=its':=by simpa using congrArg Array.toList d1
 subst this
 exact r.inj r'
end
noncomputable abbrev Cx.wish(X:Cx) (E:Value->Shared->Prop):Cx:={ X with xe:=E }
noncomputable abbrev Cx.nox(X:Cx):Cx:=X.wish fun _ _=>False
theorem Cx.Ok.wish{X:Cx}(ok:X.Ok) (E:Value->Shared->Prop):(X.wish E).Ok :=
 ⟨ok.mod,ok.kind,ok.glob,ok.blt,ok.above,ok.inj,ok.has,ok.cab,ok.hd,ok.frames,ok.stk,ok.exf,ok.bs,ok.bsz,ok.noex,ok.exfs,ok.funs,ok.frf⟩
theorem Cx.Ok.unwish{X:Cx}{E:Value->Shared->Prop}(ok:(X.wish E).Ok):X.Ok :=
 ⟨ok.mod,ok.kind,ok.glob,ok.blt,ok.above,ok.inj,ok.has,ok.cab,ok.hd,ok.frames,ok.stk,ok.exf,ok.bs,ok.bsz,ok.noex,ok.exfs,ok.funs,ok.frf⟩
section
variable {X:Cx}{pins:List (Addr×Obj)}{σ:St}{H:Hp}{s:Shared}{E:Value->Shared->Prop}
theorem Inv.wish(I:Inv X pins σ H s) (E:Value->Shared->Prop):Inv (X.wish E) pins σ H s:=⟨I.ok.wish E,I.os,I.bare,I.base,I.loc,I.cell,I.free,I.freeC,I.pin,I.hok,I.len⟩
theorem Inv.unwish(I:Inv (X.wish E) pins σ H s):Inv X pins σ H s:=⟨I.ok.unwish,I.os,I.bare,I.base,I.loc,I.cell,I.free,I.freeC,I.pin,I.hok,I.len⟩
theorem SP.unwish{D:Ends}{f:Flow}{s':Shared}(h:SP (X.wish E) pins D f s'):SP X pins D f s':=by
 cases f with
 | next=>obtain⟨σ',H',I,q⟩:=h;exact⟨σ',H',I.unwish,q⟩
 | brk=>obtain⟨σ',H',I,q⟩:=h;exact⟨σ',H',I.unwish,q⟩
 | cont=>obtain⟨σ',H',I,q⟩:=h;exact⟨σ',H',I.unwish,q⟩
 | ret u=>obtain⟨v,σ',H',I,r,q⟩:=h;exact⟨v,σ',H',I.unwish,r,q⟩
theorem PSs.nox{st:List Stmt}{t:TS}(h:PSs X.nox st t):PSs X st t:=fun pins s σ H D I hw =>wpAny_mono (h pins s σ H D (I.wish _) hw) (fun _ _ q=>q.unwish) fun _ _ z=>False.elim z
end
section
variable {X:Cx}{st:Stmt}{T5:List Stmt}{t u:TS}{e:Expr}{te:TE}{pos:Pos}
noncomputable def bN5:TS:=fun D σ H=>D.nx σ H
noncomputable def cn9(t u:TS):TS:=fun D σ H=>t { D with nx:=u D } σ H
theorem bF3:PSs X [] bN5:=fun _ _ σ H _ I h=>wpAny_execs_nil ⟨σ,H,I,h⟩
theorem al4(h1:PS X st t) (h2:PSs X T5 u):PSs X (st::T5) (cn9 t u):=by
 intro pins s σ H D I h
 refine wpAny_execs_cons (thn (h1 pins s σ H { D with nx:=u D } I h) fun f s1 q=>?_)
 cases f with
 | next =>
  obtain⟨σ',H',I',q⟩:=q
  exact h2 pins s1 σ' H' D I' q
 | ret v=>exact q
 | brk=>exact q
 | cont=>exact q
theorem bF2(h1:PS X st t):PSs X [st] t:=by
 intro pins s σ H D I h
 refine wpAny_execs_cons (thn (h1 pins s σ H D I h) fun f s1 q=>?_)
 cases f with
 | next=>exact wpAny_execs_nil q
 | ret v=>exact q
 | brk=>exact q
 | cont=>exact q
noncomputable def bR8:TS:=fun D σ H=>D.bk σ H
noncomputable def cg9:TS:=fun D σ H=>D.ct σ H
theorem bF4:PS X (.Pass pos) bN5:=fun _ _ σ H _ I h=>wpAny_Pass ⟨σ,H,I,h⟩
theorem br9:PS X (.Break pos) bR8:=fun _ _ σ H _ I h=>wpAny_Break ⟨σ,H,I,h⟩
theorem aN6:PS X (.Continue pos) cg9:=fun _ _ σ H _ I h=>wpAny_Continue ⟨σ,H,I,h⟩
theorem Inv.quiet{pins:List (Addr×Obj)}{σ:St}{H:Hp}{s:Shared}(I:Inv X pins σ H s):interactive X.env=false:=by simp[interactive,I.ok.kind]
noncomputable def cg8(te:TE):TS:=fun D σ H=>te σ H fun _ H1=>D.nx σ H1
theorem aI2(he:PE X e te) (hs:swapsWith e none pos.line X.env=pure false:=by rfl):PS X (.Expr e pos) (cg8 te):=by
 intro pins s σ H D I h
 exact wpAny_Expr_any (thn (he pins s σ H _ I h) fun v s1 ⟨x,H1,I1,r1,q1⟩=>⟨σ,H1,I1,q1⟩) I.quiet hs
noncomputable def co0(te:TE):TS:=fun D σ H=>te σ H D.rt
theorem bS8(he:PE X e te):PS X (.Return (some e) pos) (co0 te):=by
 intro pins s σ H D I h
 exact wpAny_Return_some (thn (he pins s σ H _ I h) fun v s1 ⟨x,H1,I1,r1,q1⟩=>⟨x,σ,H1,I1,r1,q1⟩)
noncomputable def co5(c:TT) (t u:TS):TS:=fun D σ H=>c σ H fun b H1=>if b=true then t D σ H1 else u D σ H1
theorem bO0{c:Expr}{a b:List Stmt}{tc:TT}(hc:PT X c tc) (ha:PSs X a t) (hb:PSs X b u):PS X (.If c a b pos) (co5 tc t u):=by
 intro pins s σ H D I h
 refine wpAny_If (thn (hc pins s σ H _ I h) fun d s1 ⟨H1,I1,q1⟩=>?_)
 cases d with
 | true=>exact ha pins s1 σ H1 D I1 q1
 | false=>exact hb pins s1 σ H1 D I1 q1
noncomputable def bR7:TS:=fun _ _ _=>False
theorem u9{sts:List Stmt}:PSs X sts bR7:=fun _ _ _ _ _ _ h=>h.elim
end
noncomputable abbrev TG:=V->St->Hp->(St->Hp->Prop)->Prop
noncomputable abbrev TGs:=List V->St->Hp->(St->Hp->Prop)->Prop
noncomputable def PG(X:Cx) (target:Expr) (t:TG):Prop :=
 ∀(pins:List (Addr×Obj)) (s:Shared) (σ:St) (H:Hp) (v:V) (u:Value) (Q:St->Hp->Prop),Inv X pins σ H s->P1 v u->t v σ H Q ->
  wpAny (model X.prog X.w) X.A (assign target X.env u) (fun _ s'=>∃σ' H',Inv X pins σ' H' s'/\Q σ' H') X.xe s
noncomputable def PGs(X:Cx) (ts:List Expr) (t:TGs):Prop :=
 ∀(pins:List (Addr×Obj)) (s:Shared) (σ:St) (H:Hp) (vs:List V) (us:List Value) (Q:St->Hp->Prop),Inv X pins σ H s->K1 vs us->t vs σ H Q ->
  wpAny (model X.prog X.w) X.A (assignInOrder ((assignEach ts X.env).map (·.2)) us) (fun _ s'=>∃σ' H',Inv X pins σ' H' s'/\Q σ' H') X.xe s
section
variable {X:Cx}{pos:Pos}
noncomputable def bO9(i:Nat):TG:=fun v σ H Q=>Q (σ.set i (some v)) H
theorem bG0{i:Nat}{x:Str}(hN:X.N.Nodup) (hi:X.N[i]? = some x) (hx:Loc X.env.scope x) (hf:X.fn x=true\/X.env.scope.names.lookup x=some .local:=by first|exact .inl rfl|exact .inr rfl|assumption):PG X (.Name x pos) (bO9 i):=by
 intro pins s σ H v u Q I r h
 exact wpAny_assign_Name (ak6 I hN hi hx r (fun s' I'=>⟨_,H,I',h⟩) hf)
noncomputable def cq4:TGs:=fun vs σ H Q=>vs=[]/\Q σ H
noncomputable def cm1(t:TG) (u:TGs):TGs:=fun vs σ H Q=>∃v r,vs=v::r/\t v σ H fun σ' H'=>u r σ' H' Q
theorem bF9:PGs X [] cq4:=by
 intro pins s σ H vs us Q I r h
 obtain⟨e,h⟩:=h
 subst e
 cases r
 exact assignInOrder_nil ⟨σ,H,I,h⟩
theorem bs4{e:Expr}{es:List Expr}{t:TG}{u:TGs}(h1:PG X e t) (h2:PGs X es u)
  (hs:(assignEach (e::es) X.env).map (·.2)=assign e X.env::(assignEach es X.env).map (·.2):=by rfl):PGs X (e::es) (cm1 t u):=by
 intro pins s σ H vs us Q I r h
 obtain⟨v,vr,e1,h⟩:=h
 subst e1
 cases r with
 | cons r rr =>
  rw[hs]
  refine assignInOrder_cons (thn (h1 pins s σ H _ _ _ I r h) fun _ s1 ⟨σ1,H1,I1,q1⟩=>?_)
  exact h2 pins s1 σ1 H1 _ _ Q I1 rr q1
noncomputable def cq3(K:PySem.W.Frag) (n:Nat) (t:TGs):TG:=fun v σ H Q=>∃a xs,v=.ref a/\SqT K H a xs/\xs.length=n/\t xs σ H Q
theorem bT3{es:List Expr}{k:Nat}{t:TGs}{n:Nat}(hc:X.calm=true) (h:PGs X es t)
  (hn:(assignEach es X.env).length=n:=by rfl) (hst:(assignEach es X.env).findIdx? (·.1)=none:=by rfl):PG X (.Tuple es k pos) (cq3 X.K n t):=by
 intro pins s σ H v u Q I r hw
 obtain⟨a,xs,e1,hq,hl,hw⟩:=hw
 subst e1
 cases r
 obtain⟨its,rv,ht,hz⟩:=I.tuple hq
 refine assign_Tuple_tuple (I.ok.hd hc) ht (by simp[hn,← hl,rv.length]) hst fun h' hx=>?_
 have I1:Inv X pins σ H { s with heap:=h' }:=I.kept (t':=s.toks) fun b o e=>hx b o (Nat.ne_of_lt (Heap.lt_size e)) e
 exact h pins _ σ H xs _ Q I1 (by simpa using rv) hw
noncomputable def ch1(te:TE) (g:TG):TS:=fun D σ H=>te σ H fun x H1=>g x σ H1 D.nx
theorem bT1{tg e:Expr}{te:TE}{g:TG}(he:PE X e te) (hg:PG X tg g) (hs:swapsWithSole [tg] e pos.line X.env=pure false:=by rfl) (hw:swappedStores [tg] e X.env=pure none:=by rfl)
  (h1:(assignEach [tg] X.env).map (·.2)=[assign tg X.env]:=by rfl):PS X (.Assign [tg] e pos) (ch1 te g):=by
 intro pins s σ H D I h
 refine wpAny_Assign_stores (thn (he pins s σ H _ I h) fun v s1 ⟨x,H1,I1,r1,q1⟩=>?_) hs hw
 rw[h1]
 exact thn (hg pins s1 σ H1 x v _ I1 r1 q1) fun _ s2 q=>q
theorem br8{i:Nat}{x:Str}{e:Expr}{te:TE}{pos':Pos}(hN:X.N.Nodup) (hi:X.N[i]? = some x) (hx:Loc X.env.scope x) (he:PE X e te) (hs:swapsWith e (some (.Name x pos')) pos.line X.env=pure false:=by rfl) (hf:X.fn x=true\/X.env.scope.names.lookup x=some .local:=by first|exact .inl rfl|exact .inr rfl|assumption) :
  PS X (.Assign [.Name x pos'] e pos) (ch1 te (bO9 i)):=by
 intro pins s σ H D I h
 refine wpAny_Assign_Name (thn (he pins s σ H _ I h) fun v s1 ⟨y,H1,I1,r1,q1⟩=>?_) hs
 exact ak6 I1 hN hi hx r1 (fun s2 I2=>⟨_,H1,I2,q1⟩) hf
noncomputable def co1(i j:Nat) (ta:TA):TS:=fun D σ H=>ta σ H fun vs H1=>∃v w,vs=[v,w]/\D.nx ((σ.set i (some v)).set j (some w)) H1
theorem bS9{i j:Nat}{x y:Str}{a b:Expr}{ta:TA}{px py pt:Pos}{kt k2 pt2} (hc:X.calm=true) (hN:X.N.Nodup) (hi:X.N[i]? = some x) (hj:X.N[j]? = some y) (hij:i≠j)
  (hx:X.env.scope.names.lookup x=some .local) (hy:X.env.scope.names.lookup y=some .local) (ha:PA X [a,b] ta)
  (hw:swappedStores [.Tuple [.Name x px,.Name y py] kt pt] (.Tuple [a,b] k2 pt2) X.env=pure (some [x,y]))
  (hs:swapsWithSole [.Tuple [.Name x px,.Name y py] kt pt] (.Tuple [a,b] k2 pt2) pos.line X.env=pure false:=by rfl) :
  PS X (.Assign [.Tuple [.Name x px,.Name y py] kt pt] (.Tuple [a,b] k2 pt2) pos) (co1 i j ta):=by
 intro pins s σ H D I h
 rw[exec_Assign_arm]
 refine wpAny_bind (wpAny_standAt ?_)
 rw[hs]
 refine wpAny_bind (wpAny_pure ?_)
 rw[if_neg (by decide)]
 refine wpAny_bind (Tuple_ (thn (ha _ pins s σ H _ I h) fun us s1 ⟨vs,H1,I1,r1,q1⟩=>?_))
 obtain⟨v,w,e1,q1⟩:=q1
 subst e1
 obtain⟨u1,u2,rfl,rv,rw'⟩:∃u1 u2,us=[u1,u2]/\P1 v u1/\P1 w u2:=by
  cases r1 with
  | cons p q =>
   cases q with
   | cons p' q' =>
    cases q'
    exact⟨_,_,rfl,p,p'⟩
 refine wpAny_newObj_type ?_ (by show 2<=sizeLine;decide)
 have I2:Inv X pins σ H1 { s1 with heap:=s1.heap.push { cls:=.type "tuple", data:=.seq [u1,u2].toArray } }:=I1.kept (t':=s1.toks) fun b o e=>Heap.get?_push_of_some _ e
 rw[hw]
 refine wpAny_bind (wpAny_pure ?_)
 show wpAny (model X.prog X.w) X.A (do rule "assign.swapped-stores";let items ← unpackItems (.ref s1.heap.objs.size) 2 none;assignInOrder [fun v=>bindName X.env y v,fun v=>bindName X.env x v] items.reverse;pure Flow.next) _ _ _
 refine wpAny_bind (wpAny_rule (wpAny_bind (unpackItems_tuple (items:=#[u1,u2]) (I.ok.hd hc) (IsTup.new s1.heap _) fun h' hx'=>?_)))
 have I3:=I2.kept (h':=h') (t':=s1.toks) fun b o e=>hx' b o (Nat.ne_of_lt (Heap.lt_size e)) e
 show wpAny _ _ (assignInOrder [fun v=>bindName X.env y v,fun v=>bindName X.env x v] [u2,u1] >>= fun _=>pure Flow.next) _ _ _
 refine wpAny_bind (assignInOrder_cons (wpAny_bindName (ak6 I3 hN hj (.inl hy) rw' (fun s2 I4=>?_) (.inr hy))))
 refine assignInOrder_cons (wpAny_bindName (ak6 I4 hN hi (.inl hx) rv (fun s3 I5=>assignInOrder_nil (wpAny_pure ?_)) (.inr hx)))
 rw[List.set_comm _ _ (Ne.symm hij)]at I5
 exact⟨_,H1,I5,q1⟩
end
section
variable {X:Cx}{pos:Pos}
noncomputable def bR6(c:TT) (tb:TS):TS:=fun D σ H=>∃W:Nat->St->Hp->Prop,(∃m,W m σ H)/\∀m σ H,W m σ H ->
 c σ H fun b H1=>if b=true then ∃N:St->Hp->Prop,(∀σ' H',N σ' H'->∃m',m' < m/\W m' σ' H')/\tb { D with nx:=N,ct:=N,bk:=D.nx } σ H1 else D.nx σ H1
theorem br7{c:Expr}{body:List Stmt}{tc:TT}{tb:TS}(hp:PassesOwn (model X.prog X.w) X.A X.env X.xe) (hc:PT X c tc) (hb:PSs X body tb):PS X (.While c body [] pos) (bR6 tc tb):=by
 intro pins s σ H D I h
 obtain⟨W,⟨m0,w0⟩,turn⟩:=h
 refine wpAny_While (codeAny_whileLoop (fun n s'=>∃σ' H',Inv X pins σ' H' s'/\W n σ' H') ?_ m0 ⟨σ,H,I,w0⟩)
 rintro n s1 ⟨σ1,H1,I1,w1⟩
 refine wpAny_passesOwn hp (thn (hc pins s1 σ1 H1 _ I1 (turn n σ1 H1 w1)) fun b s2 ⟨H2,I2,q2⟩=>?_)
 cases b with
 | true =>
  obtain⟨N,hN,q2⟩:=q2
  rw[if_pos rfl]
  refine wpAny_passesOwn hp (thn (hb pins s2 σ1 H2 _ I2 q2) fun f s3 q3=>?_)
  cases f with
  | next =>
   obtain⟨σ3,H3,I3,n3⟩:=q3
   obtain⟨m',hm,w3⟩:=hN σ3 H3 n3
   exact⟨m',hm,σ3,H3,I3,w3⟩
  | cont =>
   obtain⟨σ3,H3,I3,n3⟩:=q3
   obtain⟨m',hm,w3⟩:=hN σ3 H3 n3
   exact⟨m',hm,σ3,H3,I3,w3⟩
  | brk=>exact q3
  | ret v=>exact q3
 | false =>
  rw[if_neg Bool.false_ne_true]
  exact wpAny_execs_nil ⟨σ1,H2,I2,q2⟩
end
structure It where
 go:Nat->Hp->Prop
 yld:Nat->Hp->V->Hp->Prop
 stop:Nat->Hp->Prop
noncomputable def aq7(X:Cx) (pins:List (Addr×Obj)) (H:Hp) (b:Addr):Prop :=
 H b=none/\b≠X.env.locals/\b∉X.fs/\(b∈X.ex\/X.s₀.heap.objs.size<=b)/\(∀x c,X.env.cells.lookup x=some c->c≠b)/\∀p∈X.pn++pins,p.1≠b
theorem Inv.fpOk{X:Cx}{pins:List (Addr×Obj)}{σ:St}{H H':Hp}{s:Shared}{b:Addr}(I:Inv X pins σ H s) (hb:s.heap.objs.size<=b) (hn:H' b=none):aq7 X pins H' b:=by
 refine⟨hn,Nat.ne_of_gt (Nat.lt_of_lt_of_le I.lt hb),I.nofs hb,.inr (Nat.le_trans I.sz hb),fun x c e z=>?_,fun p hp z=>?_⟩
 ·obtain⟨v,q⟩:=I.cell x c e
  exact absurd (Nat.lt_of_lt_of_le q.lt (by rw[z];exact hb)) (Nat.lt_irrefl _)
 ·exact absurd (Nat.lt_of_lt_of_le (Heap.lt_size (I.pin p hp).1) (by rw[z];exact hb)) (Nat.lt_irrefl _)
structure Turn (P:Program) (w:World) (K:PySem.W.Frag) (tg:Expr) (J:It) (fp:List Addr) (it:Addr) (tn:Nat->Heap->Prop):Prop where
 mem:it∈fp
 obj:∀i h,tn i h->∀b∈fp,∃o,h.get? b=some o/\∀v,o.data≠.cell v
 keep:∀i h h',tn i h->(∀b∈fp,∀o,h.get? b=some o->h'.get? b=some o)->tn i h'
 item:∀(X:Cx),X.prog=P->X.w=w->X.K=K->X.calm=true->∀(i:Nat) (pins:List (Addr×Obj)) (s:Shared) (σ:St) (H:Hp) (E:Value->Shared->Prop),Inv X pins σ H s->(∀b∈fp,aq7 X pins H b)->tn i s.heap->J.go i H ->
  wpAny (model P w) X.A (pyNext (.ref it)) (fun r s1=>∃u,r=some u /\
   wpAny (model P w) X.A (letOwnedTupleGo tg (.ref it) u) (fun _ s2=>∃x H',Inv X pins σ H' s2/\P1 x u/\J.yld i H x H'/\tn (i+1) s2.heap/\∀b∈fp,H' b=none) E s1) E s
 done:∀(X:Cx),X.prog=P->X.w=w->X.K=K->X.calm=true->∀(i:Nat) (pins:List (Addr×Obj)) (s:Shared) (σ:St) (H:Hp) (E:Value->Shared->Prop),Inv X pins σ H s->(∀b∈fp,aq7 X pins H b)->tn i s.heap->J.stop i H ->
  wpAny (model P w) X.A (pyNext (.ref it)) (fun r s1=>r=none/\Inv X pins σ H s1) E s
 self:∀(A:Around) (i:Nat) (s:Shared) (Q:Value->Shared->Prop) (E:Value->Shared->Prop),tn i s.heap->Q (.ref it) s->wpAny (model P w) A (pyIter (.ref it)) Q E s
noncomputable abbrev TI:=St->Hp->(It->Hp->Prop)->Prop
noncomputable def PIE(X:Cx) (pins:List (Addr×Obj)) (σ:St) (tg:Expr) (R:It->Hp->Prop) (itv:Value) (s2:Shared):Prop :=
 ∃(it:Addr) (fp:List Addr) (tn:Nat->Heap->Prop) (J:It) (H':Hp),itv=.ref it/\Inv X pins σ H' s2/\Turn X.prog X.w X.K tg J fp it tn/\tn 0 s2.heap/\(∀b∈fp,aq7 X pins H' b)/\R J H'
noncomputable def PI(X:Cx) (tg iter:Expr) (wi:TI):Prop :=
 ∀(pins:List (Addr×Obj)) (s:Shared) (σ:St) (H:Hp) (R:It->Hp->Prop),Inv X pins σ H s->wi σ H R ->
  wpAny (model X.prog X.w) X.A (eval iter X.env) (fun v s1=>wpAny (model X.prog X.w) X.A (pyIter v) (PIE X pins σ tg R) X.xe s1) X.xe s
theorem be1{M:Model}{A:Around}{E:Value->Shared->Prop}{s:Shared}{tg:Expr}{it:Addr}{u:Value}{o:Obj}{n:String}{vs:Array Value}{Q:Unit->Shared->Prop}(ho:s.heap.get? it=some o) (hc:o.cls=.type n) (hd:o.data=.fields vs)
    (hn:["enumerate", "zip", "dict_itemiterator", "dict_reverseitemiterator", "odict_iterator", "itertools.zip_longest", "itertools.pairwise"].contains n=false) (hQ:Q () s):wpAny M A (letOwnedTupleGo tg (.ref it) u) Q E s:=by
  unfold letOwnedTupleGo
  cases tg<;>first
    | exact wpAny_pure hQ
    | (cases u<;>first
        | exact wpAny_pure hQ
        | (refine wpAny_bind (wpAny_load ho ?_)
           rw[hc,hd]
           show wpAny M A (if(["enumerate", "zip", "dict_itemiterator", "dict_reverseitemiterator", "odict_iterator", "itertools.zip_longest", "itertools.pairwise"].contains n&&vs[0]? == some (rawInt _))=true then _ else _) Q E s
           rw[if_neg (by intro h;rw[hn,Bool.false_and]at h;cases h)]
           exact wpAny_pure hQ))
noncomputable def Itl(K:PySem.W.Frag) (a:Addr):It :=
 ⟨fun i H=>∃xs x,SqL K H a xs/\xs[i]? = some x,fun i H x H'=>H'=H/\∀xs,SqL K H a xs->xs[i]? = some x,fun i H=>∃xs,SqL K H a xs/\xs.length<=i⟩
noncomputable def Itt(K:PySem.W.Frag) (a:Addr):It :=
 ⟨fun i H=>∃xs x,SqT K H a xs/\xs[i]? = some x,fun i H x H'=>H'=H/\∀xs,SqT K H a xs->xs[i]? = some x,fun i H=>∃xs,SqT K H a xs/\xs.length<=i⟩
noncomputable def Itr(lo:Int) (n:Nat):It:=⟨fun i _=>i < n,fun i H x H'=>H'=H/\x=.int (lo+i),fun i _=>n<=i⟩
theorem bg4{P:Program}{w:World}{K:PySem.W.Frag}{tg:Expr}(a it:Addr):Turn P w K tg (Itl K a) [it] it (fun i h=>h.IsListIter it a i) where
 mem:=by simp
 obj:=fun i h st b hb=>by
  have e:b=it:=by simpa using hb
  subst e
  obtain⟨o,e,c,d⟩:=st
  exact⟨o,e,fun v z=>by rw[d]at z;cases z⟩
 keep:=fun i h h' st k=>st.at fun o e=>k it (by simp) o e
 item:=by
  intro X hP hw hK hc i pins s σ H E I hf st hg
  subst hP hw hK
  obtain⟨xs,x,hq,hx⟩:=hg
  obtain⟨its,rv,p,hz⟩:=I.list hq
  obtain⟨u,hu,ru⟩:=rv.get hx
  obtain⟨f0,f1,f2,f3,f4,f5⟩:=hf it (by simp)
  refine wpAny_pyNext_list_item st p.isList (x:=u) (by simpa using hu) fun h' st' sb=>?_
  have I1:Inv X pins σ H { s with heap:=h' }:=I.turned (t':=s.toks) (fun b o hb e=>(sb.2 b hb).trans e) f0 f1 f3 f4 f5
  obtain⟨o,e,c,d⟩:=id st'
  exact⟨u,rfl,be1 (s:={ s with heap:=h' }) e c d (by decide) ⟨x,H,I1,ru,⟨rfl,fun ys hy=>by rw[I.list_inj hy hq];exact hx⟩,st',fun b hb=>(hf b hb).1⟩⟩
 done:=by
  intro X hP hw hK hc i pins s σ H E I hf st hg
  subst hP hw hK
  obtain⟨xs,hq,hx⟩:=hg
  obtain⟨its,rv,p,hz⟩:=I.list hq
  obtain⟨f0,f1,f2,f3,f4,f5⟩:=hf it (by simp)
  have hl:=rv.length
  exact wpAny_pyNext_list_end (I.ok.hd hc) st p.isList (by simp;omega) fun h' eb=>⟨rfl,I.turned (t':=s.toks) (fun b o hb e=>eb b o hb e) f0 f1 f3 f4 f5⟩
 self:=fun _ _ _ _ _ st h=>wpAny_pyIter_listiter st h
theorem aT8{P:Program}{w:World}{K:PySem.W.Frag}{tg:Expr}(a it:Addr):Turn P w K tg (Itt K a) [it] it (fun i h=>h.IsTupleIter it a i) where
 mem:=by simp
 obj:=fun i h st b hb=>by
  have e:b=it:=by simpa using hb
  subst e
  obtain⟨o,e,c,d⟩:=st
  exact⟨o,e,fun v z=>by rw[d]at z;cases z⟩
 keep:=fun i h h' st k=>st.at fun o e=>k it (by simp) o e
 item:=by
  intro X hP hw hK hc i pins s σ H E I hf st hg
  subst hP hw hK
  obtain⟨xs,x,hq,hx⟩:=hg
  obtain⟨its,rv,p,hz⟩:=I.tuple hq
  obtain⟨u,hu,ru⟩:=rv.get hx
  obtain⟨f0,f1,f2,f3,f4,f5⟩:=hf it (by simp)
  refine wpAny_pyNext_tuple_item st (show s.heap.IsTuple a its.toArray from p) (x:=u) (by simpa using hu) fun h' st' sb=>?_
  have I1:Inv X pins σ H { s with heap:=h' }:=I.turned (t':=s.toks) (fun b o hb e=>(sb.2 b hb).trans e) f0 f1 f3 f4 f5
  obtain⟨o,e,c,d⟩:=id st'
  exact⟨u,rfl,be1 (s:={ s with heap:=h' }) e c d (by decide) ⟨x,H,I1,ru,⟨rfl,fun ys hy=>by rw[I.tuple_inj hy hq];exact hx⟩,st',fun b hb=>(hf b hb).1⟩⟩
 done:=by
  intro X hP hw hK hc i pins s σ H E I hf st hg
  subst hP hw hK
  obtain⟨xs,hq,hx⟩:=hg
  obtain⟨its,rv,p,hz⟩:=I.tuple hq
  obtain⟨f0,f1,f2,f3,f4,f5⟩:=hf it (by simp)
  have hl:=rv.length
  exact wpAny_pyNext_tuple_end (I.ok.hd hc) st (show s.heap.IsTuple a its.toArray from p) (by simp;omega) fun h' eb=>⟨rfl,I.turned (t':=s.toks) (fun b o hb e=>eb b o hb e) f0 f1 f3 f4 f5⟩
 self:=fun _ _ _ _ _ st h=>wpAny_pyIter_tupleiter st h
theorem aT9{P:Program}{w:World}{K:PySem.W.Frag}{tg:Expr}(it:Addr) (lo:Int) (n:Nat):Turn P w K tg (Itr lo n) [it] it (fun i h=>IsRangeIter h it (lo+(i:Nat)*1) ((n:Int) - (i:Nat)) 1) where
 mem:=by simp
 obj:=fun i h st b hb=>by
  have e:b=it:=by simpa using hb
  subst e
  exact⟨_,st,fun v z=>by
   have z':Data.fields _=Data.cell v:=z
   cases z'⟩
 keep:=fun i h h' st k=>k it (by simp) _ st
 item:=by
  intro X hP hw hK hc i pins s σ H E I hf st hg
  subst hP hw hK
  obtain⟨f0,f1,f2,f3,f4,f5⟩:=hf it (by simp)
  have W:=Walks.range (prog:=X.prog) (w:=X.w) (I.ok.hd hc) it lo 1 n
  refine W.item i s _ _ hg st fun v h' tk hv st' kk=>?_
  obtain⟨t,rfl⟩:=hv
  have I1:Inv X pins σ H { s with heap:=h',toks:=tk }:=I.turned (fun b o hb e=>kk b o (by simpa using hb) e) f0 f1 f3 f4 f5
  refine⟨_,rfl,be1 (s:={ s with heap:=h',toks:=tk }) (n := "range_iterator") st' rfl rfl (by decide) ⟨.int (lo+i),H,I1,⟨t,?_⟩,⟨rfl,rfl⟩,st',fun b hb=>(hf b hb).1⟩⟩
  rw[Int.mul_one]
 done:=by
  intro X hP hw hK hc i pins s σ H E I hf st hg
  subst hP hw hK
  obtain⟨f0,f1,f2,f3,f4,f5⟩:=hf it (by simp)
  exact wpAny_pyNext_range_end (I.ok.hd hc) st (by have:n<=i:=hg;omega) fun h' eb=>⟨rfl,I.turned (t':=s.toks) (fun b o hb e=>eb b o hb e) f0 f1 f3 f4 f5⟩
 self:=fun _ _ _ _ _ st h=>wpAny_pyIter_rangeiter st h
section
variable {X:Cx}{tg:Expr}
noncomputable def cm0(K:PySem.W.Frag) (tl:TE):TI:=fun σ H R=>tl σ H fun x H1=>∃a,x=.ref a/\(∃xs,SqL K H1 a xs)/\R (Itl K a) H1
noncomputable def cq2(K:PySem.W.Frag) (tl:TE):TI:=fun σ H R=>tl σ H fun x H1=>∃a,x=.ref a/\(∃xs,SqT K H1 a xs)/\R (Itt K a) H1
theorem bF8{l:Expr}{tl:TE}(hl:PE X l tl):PI X tg l (cm0 X.K tl):=by
 intro pins s σ H R I h
 refine thn (hl pins s σ H _ I h) fun v s1 ⟨x,H1,I1,r1,q1⟩=>?_
 obtain⟨a,e,⟨xs,hq⟩,q⟩:=q1
 subst e
 cases r1
 obtain⟨its,rv,p,hz⟩:=I1.list hq
 refine wpAny_pyIter_list p.isList ?_
 refine⟨s1.heap.objs.size,[s1.heap.objs.size],_,_,H1,rfl,I1.kept (t':=s1.toks) fun b o e=>Heap.get?_push_of_some _ e,bg4 a _,⟨_,Heap.get?_push_size _ rfl,rfl,rfl⟩,fun b hb=>?_,q⟩
 have e:b=s1.heap.objs.size:=by simpa using hb
 subst e
 exact I1.fpOk (Nat.le_refl _) (I1.hok.fresh (Nat.le_refl _))
theorem bT2{l:Expr}{tl:TE}(hl:PE X l tl):PI X tg l (cq2 X.K tl):=by
 intro pins s σ H R I h
 refine thn (hl pins s σ H _ I h) fun v s1 ⟨x,H1,I1,r1,q1⟩=>?_
 obtain⟨a,e,⟨xs,hq⟩,q⟩:=q1
 subst e
 cases r1
 obtain⟨its,rv,p,hz⟩:=I1.tuple hq
 refine wpAny_pyIter_tuple (show s1.heap.IsTuple a its.toArray from p) ?_
 refine⟨s1.heap.objs.size,[s1.heap.objs.size],_,_,H1,rfl,I1.kept (t':=s1.toks) fun b o e=>Heap.get?_push_of_some _ e,aT8 a _,⟨_,Heap.get?_push_size _ rfl,rfl,rfl⟩,fun b hb=>?_,q⟩
 have e:b=s1.heap.objs.size:=by simpa using hb
 subst e
 exact I1.fpOk (Nat.le_refl _) (I1.hok.fresh (Nat.le_refl _))
theorem br3{pins:List (Addr×Obj)}{σ:St}{H:Hp}{s:Shared}{R:It->Hp->Prop}{E:Value->Shared->Prop}{lo hi:Int}{t u v:Tok}{tk:Nat}(I:Inv X pins σ H s) (h1:-(2 ^ 62)<=lo) (h2:lo < 2 ^ 62) (h3:-(2 ^ 62)<=hi) (h4:hi < 2 ^ 62)
  (q:R (Itr lo (hi - lo).toNat) H):wpAny (model X.prog X.w) X.A (pyIter (.ref s.heap.objs.size)) (PIE X pins σ tg R) E { s with heap:=s.heap.push { cls:=.type "range", data:=.fields #[.int lo t,.int hi u,.int 1 v] },toks:=tk }:=by
 refine wpAny_pyIter_range (IsRange.new ..) (small_one h1 h2 h3 h4) ?_
 have I1:Inv X pins σ H { s with heap:=s.heap.push { cls:=.type "range", data:=.fields #[.int lo t,.int hi u,.int 1 v] },toks:=tk }:=I.kept fun b o e=>Heap.get?_push_of_some _ e
 refine⟨(s.heap.push { cls:=.type "range", data:=.fields #[.int lo t,.int hi u,.int 1 v] }).objs.size,[(s.heap.push { cls:=.type "range", data:=.fields #[.int lo t,.int hi u,.int 1 v] }).objs.size],_,_,H,rfl,
  I1.kept (t':=tk) fun b o e=>Heap.get?_push_of_some _ e,aT9 _ lo (hi - lo).toNat,?_,fun b hb=>?_,q⟩
 ·have e1:lo+((0:Nat):Int)*1=lo:=by simp
  have e2:(((hi - lo).toNat:Nat):Int) - ((0:Nat):Int)=Builtin.Range.rangeSize lo hi 1:=by rw[rangeSize_one];split<;>omega
  show IsRangeIter _ _ (lo+((0:Nat):Int)*1) ((((hi - lo).toNat:Nat):Int) - ((0:Nat):Int)) 1
  rw[e1,e2]
  exact Heap.get?_push_size _ rfl
 ·have e:b=(s.heap.push { cls:=.type "range", data:=.fields #[.int lo t,.int hi u,.int 1 v] }).objs.size:=by simpa using hb
  subst e
  exact I1.fpOk (Nat.le_refl _) (I1.hok.fresh (Nat.le_refl _))
noncomputable def cl9(ta:TA):TI:=fun σ H R=>ta σ H fun vs H1=>∃j:Int,vs=[.int j]/\-(2 ^ 62)<=j/\j < 2 ^ 62/\R (Itr 0 j.toNat) H1
theorem bh5{a:Expr}{ta:TA}{p pos:Pos}(hg:Gl X "range") (hm:X.mg "range" = none) (ha:PA X [a] ta) (hs:starEach [a] X.env=[(false,eval a X.env)]:=by rfl):PI X tg (.Call (.Name "range" p) [a] [] pos) (cl9 ta):=by
 intro pins s σ H R I h
 refine Call_ (ap2 I hg hm boot_range (PyProof.Rows.callWith_type1 (thn (ha pos pins s σ H _ I h) fun us s1 ⟨vs,H1,I1,r1,q1⟩=>?_) hs rfl))
 obtain⟨j,e,q1,q2,q⟩:=q1
 subst e
 cases r1 with
 | cons r rr =>
  cases rr
  obtain⟨t,rfl⟩:=r
  exact call_range_1 (br3 I1 (by omega) (by omega) q1 q2 (by simpa using q))
noncomputable def co6(wi:TI) (g:TG) (tb:TS):TS:=fun D σ H=>wi σ H fun J H1=>∃W:Nat->Nat->St->Hp->Prop,(∃m,W 0 m σ H1)/\∀i m σ H,W i m σ H ->
 (J.stop i H/\D.nx σ H)\/(J.go i H/\∃N:St->Hp->Prop,(∀σ' H',N σ' H'->∃m',m' < m/\W (i+1) m' σ' H')/\∀x H',J.yld i H x H'->g x σ H' fun σ2 H2=>tb { D with nx:=N,ct:=N,bk:=D.nx } σ2 H2)
noncomputable def aw1(fp:List Addr) (h:Heap):List (Addr×Obj):=fp.filterMap fun b=>(h.get? b).map fun o=>(b,o)
theorem ab0{fp:List Addr}{h:Heap}{b:Addr}{o:Obj}(hb:b∈fp) (e:h.get? b=some o):(b,o)∈aw1 fp h:=List.mem_filterMap.mpr ⟨b,hb,by rw[e];rfl⟩
theorem bi0{fp:List Addr}{h:Heap}{p:Addr×Obj}(hp:p∈aw1 fp h):p.1∈fp/\h.get? p.1=some p.2:=by
 obtain⟨b,hb,e⟩:=List.mem_filterMap.mp hp
 cases q:h.get? b with
 | none=>rw[q]at e;cases e
 | some o =>
  rw[q]at e
  have e':(b,o)=p:=Option.some.inj e
  subst e'
  exact⟨hb,q⟩
theorem Inv.pinned{pins:List (Addr×Obj)}{σ:St}{H:Hp}{s:Shared}{fp:List Addr}(I:Inv X pins σ H s) (hf:∀b∈fp,aq7 X pins H b) (ho:∀b∈fp,∃o,s.heap.get? b=some o/\∀v,o.data≠.cell v):Inv X (pins++aw1 fp s.heap) σ H s :=
 I.pins_of fun p hp=>(List.mem_append.mp hp).elim (fun z=>I.pin p (List.mem_append_right _ z)) fun z=>by
  obtain⟨hb,e⟩:=bi0 z
  obtain⟨f0,f1,f2,_⟩:=hf p.1 hb
  obtain⟨o,e',d⟩:=ho p.1 hb
  rw[e]at e';cases e'
  exact⟨e,f0,f1,f2,d⟩
theorem Inv.unpinned{pins pl:List (Addr×Obj)}{σ:St}{H:Hp}{s:Shared}(I:Inv X (pins++pl) σ H s):Inv X pins σ H s:=I.pins_of fun p hp=>I.pin p (List.mem_append_right _ (List.mem_append_left _ hp))
theorem bT0{iter:Expr}{body:List Stmt}{wi:TI}{g:TG}{tb:TS}{pos:Pos}(hp:PassesOwn (model X.prog X.w) X.A X.env X.xe) (hc:X.calm=true) (hi:PI X tg iter wi) (hg:PG X tg g) (hb:PSs X body tb)
  (hs:∀x,foldedSetIterable iter X.env x=pure x:=by intro _;rfl):PS X (.For tg iter body [] pos) (co6 wi g tb):=by
 intro pins s σ H D I h
 refine wpAny_For (thn (hi pins s σ H _ I h) fun v s1 h1=>thn h1 fun itv s2 h2=>?_) hs
 obtain⟨it,fp,tn,J,H2,e,I2,T,st2,f2,W,⟨m0,w0⟩,turn⟩:=h2
 subst e
 have stat:∀{H':Hp},(∀b∈fp,H' b=none)->∀b∈fp,aq7 X pins H' b:=fun hn b hb=>⟨hn b hb,(f2 b hb).2⟩
 refine codeAny_forLoop_any (fun n s'=>∃i σ' H',Inv X pins σ' H' s'/\tn i s'.heap/\(∀b∈fp,H' b=none)/\W i n σ' H') ?_ m0 ⟨0,σ,H2,I2,st2,fun b hb=>(f2 b hb).1,w0⟩
 rintro n s3 ⟨i,σ3,H3,I3,st3,fr3,w3⟩
 rcases turn i n σ3 H3 w3 with⟨stop,qn⟩|⟨go,N,hN,step⟩
 ·refine wpAny_passesOwn hp (thn (T.done X rfl rfl rfl hc i pins s3 σ3 H3 X.xe I3 (stat fr3) st3 stop) fun r s4 ⟨hr,I4⟩=>?_)
  subst hr
  exact wpAny_execs_nil ⟨σ3,H3,I4,qn⟩
 ·refine wpAny_passesOwn hp (thn (T.item X rfl rfl rfl hc i pins s3 σ3 H3 X.xe I3 (stat fr3) st3 go) fun r s4 ⟨u,hr,h4⟩=>?_)
  subst hr
  refine wpAny_passesOwn hp (thn h4 fun _ s5 ⟨x,H5,I5,r5,y5,st5,fr5⟩=>?_)
  have I5':=I5.pinned (stat fr5) (T.obj _ _ st5)
  refine wpAny_passesOwn hp (thn (hg _ s5 σ3 H5 x u _ I5' r5 (step x H5 y5)) fun _ s6 ⟨σ6,H6,I6,q6⟩=>?_)
  refine wpAny_passesOwn hp (thn (hb _ s6 σ6 H6 _ I6 q6) fun f s7 q7=>?_)
  have again:∀{σ7:St}{H7:Hp},Inv X (pins++aw1 fp s5.heap) σ7 H7 s7->N σ7 H7->∃m,m < n/\∃i σ' H',Inv X pins σ' H' s7/\tn i s7.heap/\(∀b∈fp,H' b=none)/\W i m σ' H':=fun{σ7 H7} I7 n7=>by
   obtain⟨m',hm,w7⟩:=hN σ7 H7 n7
   refine⟨m',hm,i+1,σ7,H7,I7.unpinned,T.keep _ _ _ st5 fun b hb o e=>(I7.pin (b,o) (List.mem_append_right _ (List.mem_append_right _ (ab0 hb e)))).1,fun b hb=>?_,w7⟩
   obtain⟨o,e,d⟩:=T.obj _ _ st5 b hb
   exact(I7.pin (b,o) (List.mem_append_right _ (List.mem_append_right _ (ab0 hb e)))).2.1
  cases f with
  | next=>obtain⟨σ7,H7,I7,n7⟩:=q7;exact again I7 n7
  | cont=>obtain⟨σ7,H7,I7,n7⟩:=q7;exact again I7 n7
  | brk=>obtain⟨σ7,H7,I7,q7⟩:=q7;exact⟨σ7,H7,I7.unpinned,q7⟩
  | ret v=>obtain⟨x7,σ7,H7,I7,r7,q7⟩:=q7;exact⟨x7,σ7,H7,I7.unpinned,r7,q7⟩
end
noncomputable abbrev R2:=V->V->Hp->VK->Prop
noncomputable def OpR(X:Cx) (f:Value->Value->Sem Value) (r:R2):Prop :=
 ∀(pins:List (Addr×Obj)) (s:Shared) (σ:St) (H:Hp) (x y:V) (v u:Value) (Q:VK),Inv X pins σ H s->P1 x v->P1 y u->r x y H Q ->
  wpAny (model X.prog X.w) X.A (f v u) (EP X pins σ Q) X.xe s
noncomputable def UnR(X:Cx) (f:Value->Sem Value) (r:V->Hp->VK->Prop):Prop :=
 ∀(pins:List (Addr×Obj)) (s:Shared) (σ:St) (H:Hp) (x:V) (v:Value) (Q:VK),Inv X pins σ H s->P1 x v->r x H Q ->
  wpAny (model X.prog X.w) X.A (f v) (EP X pins σ Q) X.xe s
noncomputable def t8(X:Cx) (f:Value) (r:List V->Hp->VK->Prop):Prop :=
 ∀(pins:List (Addr×Obj)) (s:Shared) (σ:St) (H:Hp) (xs:List V) (us:List Value) (Q:VK),Inv X pins σ H s->K1 xs us->r xs H Q ->
  wpAny (model X.prog X.w) X.A (call f us) (EP X pins σ Q) X.xe s
noncomputable def cr6(X:Cx) (r:V->Hp->(Bool->Hp->Prop)->Prop):Prop :=
 ∀(pins:List (Addr×Obj)) (s:Shared) (σ:St) (H:Hp) (x:V) (v:Value) (Q:Bool->Hp->Prop),Inv X pins σ H s->P1 x v->r x H Q ->
  wpAny (model X.prog X.w) X.A (truthy v) (TP X pins σ Q) X.xe s
noncomputable def tOp(r:R2) (ta tb:TE):TE:=fun σ H Q=>ta σ H fun x H1=>tb σ H1 fun y H2=>r x y H2 Q
noncomputable def tUn(r:V->Hp->VK->Prop) (ta:TE):TE:=fun σ H Q=>ta σ H fun x H1=>r x H1 Q
noncomputable def rI(C:Int->Int->Prop) (g:Int->Int->V):R2:=fun x y H Q=>∃i j,x=.int i/\y=.int j/\C i j/\Q (g i j) H
noncomputable def rI0(g:Int->Int->V):R2:=fun x y H Q=>∃i j,x=.int i/\y=.int j/\Q (g i j) H
noncomputable def rU(g:Int->V):V->Hp->VK->Prop:=fun x H Q=>∃i,x=.int i/\Q (g i) H
section
variable {X:Cx}{a b c:Expr}{ta tb tc:TE}{pos:Pos}
theorem cd9(ha:PE X a ta) (hb:PE X b tb) {pins:List (Addr×Obj)}{s:Shared}{σ:St}{H:Hp}{R:V->V->Hp->Prop}(I:Inv X pins σ H s)
  (h:ta σ H fun x H1=>tb σ H1 fun y H2=>R x y H2) {Q:Value->Shared->Prop}{f:Value->Value->Sem Value}
  (hf:∀v u s2 x y H2,Inv X pins σ H2 s2->P1 x v->P1 y u->R x y H2->wpAny (model X.prog X.w) X.A (f v u) Q X.xe s2) :
  wpAny (model X.prog X.w) X.A (eval a X.env) (fun v s₁=>wpAny (model X.prog X.w) X.A (eval b X.env) (fun u s₂=>wpAny (model X.prog X.w) X.A (f v u) Q X.xe s₂) X.xe s₁) X.xe s:=by
 refine thn (ha pins s σ H _ I h) fun v s1 ⟨x,H1,I1,r1,q1⟩=>?_
 refine thn (hb pins s1 σ H1 _ I1 q1) fun u s2 ⟨y,H2,I2,r2,q2⟩=>?_
 exact hf v u s2 x y H2 I2 r1 r2 q2
theorem bO2{op:Operator}{r:R2}(ho:OpR X (binaryOp op) r) (ha:PE X a ta) (hb:PE X b tb):PE X (.BinOp a op b pos) (tOp r ta tb):=by
 intro pins s σ H Q I h
 exact wpAny_BinOp (cd9 ha hb I h fun v u s2 x y H2 I2 rx ry q=>ho pins s2 σ H2 x y v u Q I2 rx ry q)
theorem ci4{op:UnaryOp}{r:V->Hp->VK->Prop}(ho:UnR X (unaryOp op) r) (ha:PE X a ta):PE X (.UnaryOp op a pos) (tUn r ta):=by
 intro pins s σ H Q I h
 exact UnaryOp_ (thn (ha pins s σ H _ I h) fun v s1 ⟨x,H1,I1,r1,q1⟩=>ho pins s1 σ H1 x v Q I1 r1 q1)
theorem opI{f:Value->Value->Sem Value}{C:Int->Int->Prop}{g:Int->Int->Int}
  (rule:∀(i j:Int) (t u:Tok) (s:Shared) (Q:Value->Shared->Prop) (E:Value->Shared->Prop),C i j->Q (.int (g i j) s.toks) { s with toks:=s.toks+1 }->wpAny (model X.prog X.w) X.A (f (.int i t) (.int j u)) Q E s) :
  OpR X f (rI C fun i j=>.int (g i j)):=by
 intro pins s σ H x y v u Q I rx ry h
 obtain⟨i,j,rfl,rfl,hc,q⟩:=h
 obtain⟨t,rfl⟩:=rx
 obtain⟨t',rfl⟩:=ry
 exact rule i j t t' s _ _ hc ⟨.int (g i j),H,I.tok _,⟨_,rfl⟩,q⟩
theorem cj1{f:Value->Value->Sem Value}{g:Int->Int->Int}
  (rule:∀(i j:Int) (t u:Tok) (s:Shared) (Q:Value->Shared->Prop) (E:Value->Shared->Prop),Q (.int (g i j) s.toks) { s with toks:=s.toks+1 }->wpAny (model X.prog X.w) X.A (f (.int i t) (.int j u)) Q E s) :
  OpR X f (rI0 fun i j=>.int (g i j)):=by
 intro pins s σ H x y v u Q I rx ry h
 obtain⟨i,j,rfl,rfl,q⟩:=h
 obtain⟨t,rfl⟩:=rx
 obtain⟨t',rfl⟩:=ry
 exact rule i j t t' s _ _ ⟨.int (g i j),H,I.tok _,⟨_,rfl⟩,q⟩
theorem bG9{f:Value->Value->Sem Value}{g:Int->Int->Bool}
  (rule:∀(i j:Int) (t u:Tok) (s:Shared) (Q:Value->Shared->Prop) (E:Value->Shared->Prop),Q (.bool (g i j)) s->wpAny (model X.prog X.w) X.A (f (.int i t) (.int j u)) Q E s) :
  OpR X f (rI0 fun i j=>.bl (g i j)):=by
 intro pins s σ H x y v u Q I rx ry h
 obtain⟨i,j,rfl,rfl,q⟩:=h
 obtain⟨t,rfl⟩:=rx
 obtain⟨t',rfl⟩:=ry
 exact rule i j t t' s _ _ ⟨.bl (g i j),H,I,rfl,q⟩
theorem bt2:OpR X (binaryOp .Add) (rI0 fun i j=>.int (i+j)):=cj1 fun _ _ _ _ _ _ _ q=>add_int q
theorem bU1:OpR X (binaryOp .Sub) (rI0 fun i j=>.int (i - j)):=cj1 fun _ _ _ _ _ _ _ q=>sub_int q
theorem bU2:OpR X (binaryOp .Mod) (rI (fun _ j=>0 < j) fun i j=>.int (i % j)):=opI fun i j _ _ _ _ _ hc q=>by
 have h1:(0:Int) < j:=hc
 exact mod_int' (by omega) (by rw[Int.fmod_eq_emod_of_nonneg i (by omega)];exact q)
theorem unI{f:Value->Sem Value}{g:Int->Int}
  (rule:∀(i:Int) (t:Tok) (s:Shared) (Q:Value->Shared->Prop) (E:Value->Shared->Prop),Q (.int (g i) s.toks) { s with toks:=s.toks+1 }->wpAny (model X.prog X.w) X.A (f (.int i t)) Q E s) :
  UnR X f (rU fun i=>.int (g i)):=by
 intro pins s σ H x v Q I rx h
 obtain⟨i,rfl,q⟩:=h
 obtain⟨t,rfl⟩:=rx
 exact rule i t s _ _ ⟨.int (g i),H,I.tok _,⟨_,rfl⟩,q⟩
theorem bR0:UnR X (unaryOp .USub) (rU fun i=>.int (-i)):=unI fun _ _ _ _ _ q=>neg_int q
end
section
variable {X:Cx}{a b c:Expr}{ta tb tc:TE}{pos:Pos}
theorem aK1{pins:List (Addr×Obj)}{σ:St}{H:Hp}{s:Shared}{Q:VK}{k k':Bool}(I:Inv X pins σ H s) (q:Q (.bl k) H) (e:k=k'):EP X pins σ Q (.bool k') s:=by
 subst e
 exact⟨.bl k,H,I,rfl,q⟩
theorem ci7:OpR X (compareOp .Lt) (rI0 fun i j=>.bl (decide (i < j))):=bG9 fun _ _ _ _ _ _ _ q=>lt_int q
theorem ci8:OpR X (compareOp .LtE) (rI0 fun i j=>.bl (decide (i<=j))):=bG9 fun _ _ _ _ _ _ _ q=>le_int q
theorem ci9:OpR X (compareOp .Gt) (rI0 fun i j=>.bl (decide (j < i))):=bG9 fun _ _ _ _ _ _ _ q=>gt_int q
theorem cj0:OpR X (compareOp .GtE) (rI0 fun i j=>.bl (decide (j<=i))):=bG9 fun _ _ _ _ _ _ _ q=>ge_int q
theorem bh6:OpR X (compareOp .In) (fun x y H Q=>∃i j,x=.str i/\y=.str j/\Q (.bl (!(Builtin.Str.occurrences j i 0 j.length 1).isEmpty)) H):=by
 intro pins s σ H x y v u Q I rx ry h
 obtain⟨i,j,rfl,rfl,q⟩:=h
 obtain⟨t,rfl⟩:=rx
 obtain⟨t',rfl⟩:=ry
 exact in_str (aK1 I q rfl)
theorem bU3:OpR X (compareOp .Is) (fun x y H Q=>y=.non/\Q (.bl (decide (x=.non))) H):=by
 intro pins s σ H x y v u Q I rx ry h
 obtain⟨rfl,q⟩:=h
 cases ry
 refine is_none_gen (aK1 I q ?_)
 cases x<;>first
  | (cases rx;rfl)
  | (obtain⟨t,rfl⟩:=rx;rfl)
theorem bG6:OpR X (compareOp .IsNot) (fun x y H Q=>y=.non/\Q (.bl (!decide (x=.non))) H):=by
 intro pins s σ H x y v u Q I rx ry h
 obtain⟨rfl,q⟩:=h
 cases ry
 refine isnot_none_gen (aK1 I q ?_)
 cases x<;>first
  | (cases rx;rfl)
  | (obtain⟨t,rfl⟩:=rx;rfl)
theorem aI4:OpR X (compareOp .NotIn) (fun x y H Q=>∃i j,x=.str i/\y=.str j/\Q (.bl (!(!(Builtin.Str.occurrences j i 0 j.length 1).isEmpty))) H):=by
 intro pins s σ H x y v u Q I rx ry h
 obtain⟨i,j,rfl,rfl,q⟩:=h
 obtain⟨t,rfl⟩:=rx
 obtain⟨t',rfl⟩:=ry
 exact notIn_str (aK1 I q rfl)
theorem bt7(b:Expr) {op:CmpOp}(h:op≠.In:=by decide) (h2:op≠.NotIn:=by decide):behindInMarks op b=false:=by
 have e1:(op==CmpOp.In)=false:=by cases op<;>first|rfl|exact absurd rfl h
 have e2:(op==CmpOp.NotIn)=false:=by cases op<;>first|rfl|exact absurd rfl h2
 cases b<;>simp[behindInMarks,e1,e2]
theorem bG1{op:CmpOp}{r:R2}(ho:OpR X (compareOp op) r) (ha:PE X a ta) (hb:PE X b tb) (hm:behindInMarks op b=false):PE X (.Compare a [op] [b] pos) (tOp r ta tb):=by
 intro pins s σ H Q I h
 exact wpAny_Compare1 (cd9 ha hb I h fun v u s2 x y H2 I2 rx ry q=>ho pins s2 σ H2 x y v u Q I2 rx ry q) hm
noncomputable def bN4(t:TE):TT:=fun σ H Q=>t σ H fun x H'=>∃k,x=.bl k/\Q k H'
theorem bF1{op:CmpOp}{r:R2}(ho:OpR X (compareOp op) r) (ha:PE X a ta) (hb:PE X b tb) (hm:behindInMarks op b=false):PT X (.Compare a [op] [b] pos) (bN4 (tOp r ta tb)):=by
 intro pins s σ H Q I h
 refine wpAny_isTrue_Compare1 (thn (ha pins s σ H _ I h) fun v s1 ⟨x,H1,I1,r1,q1⟩=>thn (hb pins s1 σ H1 _ I1 q1) fun u s2 ⟨y,H2,I2,r2,q2⟩ =>thn (ho pins s2 σ H2 x y v u _ I2 r1 r2 q2) fun c s3 ⟨z,H3,I3,r3,k,e,q3⟩=>?_) hm
 subst e
 cases r3
 exact wpAny_truthy_bool ⟨H3,I3,q3⟩
noncomputable def bp5(r r':R2) (ta tb tc:TE):TE:=fun σ H Q=>ta σ H fun x H1=>tb σ H1 fun y H2=>r x y H2 fun z H3=>∃k,z=.bl k /\
 (if k=true then tc σ H3 fun w' H4=>r' y w' H4 Q else Q (.bl false) H3)
theorem aN9{op op':CmpOp}{r r':R2}(ho:OpR X (compareOp op) r) (ho':OpR X (compareOp op') r') (ha:PE X a ta) (hb:PE X b tb) (hc:PE X c tc)
  (hm:lastMarks [op,op'] [b,c]=false:=by with_unfolding_all rfl):PE X (.Compare a [op,op'] [b,c] pos) (bp5 r r' ta tb tc):=by
 intro pins s σ H Q I h
 refine Compare_chain (thn (ha pins s σ H _ I h) fun v s1 ⟨x,H1,I1,r1,q1⟩=>chain_link (thn (hb pins s1 σ H1 _ I1 q1) fun u s2 ⟨y,H2,I2,r2,q2⟩ =>thn (ho pins s2 σ H2 x y v u _ I2 r1 r2 q2) fun d s3 ⟨z,H3,I3,r3,k,e,q3⟩=>?_)) hm
 subst e
 cases r3
 refine wpAny_truthy_bool ?_
 cases k with
 | false=>exact ite_ff ⟨.bl false,H3,I3,rfl,q3⟩
 | true=>exact ite_tt (chain_last (thn (hc pins s3 σ H3 _ I3 q3) fun w' s4 ⟨z',H4,I4,r4,q4⟩=>ho' pins s4 σ H4 y z' u w' Q I4 r2 r4 q4))
theorem aN5{op op':CmpOp}{r r':R2}(ho:OpR X (compareOp op) r) (ho':OpR X (compareOp op') r') (ha:PE X a ta) (hb:PE X b tb) (hc:PE X c tc)
  (hm:lastMarks [op,op'] [b,c]=false:=by with_unfolding_all rfl):PT X (.Compare a [op,op'] [b,c] pos) (bN4 (bp5 r r' ta tb tc)):=by
 intro pins s σ H Q I h
 refine isTrue_chain (thn (ha pins s σ H _ I h) fun v s1 ⟨x,H1,I1,r1,q1⟩=>test_link (thn (hb pins s1 σ H1 _ I1 q1) fun u s2 ⟨y,H2,I2,r2,q2⟩ =>thn (ho pins s2 σ H2 x y v u _ I2 r1 r2 q2) fun d s3 ⟨z,H3,I3,r3,k,e,q3⟩=>?_)) hm
 subst e
 cases r3
 refine wpAny_truthy_bool ?_
 cases k with
 | false =>
  obtain⟨k',e',q'⟩:=q3
  cases e'
  exact ite_ff ⟨H3,I3,q'⟩
 | true =>
  refine ite_tt (test_last (thn (hc pins s3 σ H3 _ I3 q3) fun w' s4 ⟨z',H4,I4,r4,q4⟩=>thn (ho' pins s4 σ H4 y z' u w' _ I4 r2 r4 q4) fun d' s5 ⟨z2,H5,I5,r5,k2,e2,q5⟩=>?_))
  subst e2
  cases r5
  exact wpAny_truthy_bool ⟨H5,I5,q5⟩
noncomputable def cm7(K:PySem.W.Frag) (x:V) (H:Hp) (k:Bool):Prop :=
 match x with
 | .non=>k=false
 | .bl b=>k=b
 | .int i=>k=(i != 0)
 | .str y=>y.length<=sizeLine/\k=((y.length:Int) != 0)
 | .byt y=>y.size<=sizeLine/\k=((y.size:Int) != 0)
 | .ref p=>(∃xs,SqL K H p xs/\k = !xs.isEmpty)\/(∃xs,SqT K H p xs/\k = !xs.isEmpty)\/∃kvs,H p=some (.dK kvs)/\k = !kvs.isEmpty
 | _=>False
theorem aX1{κ:Type}{kvs:List (κ×V)}{vs:List (κ×Value)}(r:KV kvs vs):(!vs.isEmpty) = !kvs.isEmpty:=by cases r<;>rfl
theorem ax1{xs:List V}{its:List Value}(r:K1 xs its):(!its.toArray.isEmpty) = !xs.isEmpty:=by cases r<;>simp
theorem ap1:(sizeLine:Nat) < 2 ^ 63:=by rw[sizeLine_eq];decide
theorem bR4:cr6 X (fun x H Q=>∃k,cm7 X.K x H k/\Q k H):=by
 intro pins s σ H x v Q I rx h
 obtain⟨k,e,q⟩:=h
 have hl:=ap1
 have hs:sizeLine=16777216:=sizeLine_eq
 cases x with
 | non =>
  cases rx
  have e':k=false:=e
  subst e'
  exact truthy_none ⟨H,I,q⟩
 | bl b =>
  cases rx
  have e':k=b:=e
  subst e'
  exact wpAny_truthy_bool ⟨H,I,q⟩
 | int i =>
  obtain⟨t,rfl⟩:=rx
  have e':k=(i != 0):=e
  subst e'
  exact PySem.P.truthy_int ⟨H,I,q⟩
 | str y =>
  obtain⟨t,rfl⟩:=rx
  obtain⟨hy,e'⟩:y.length<=sizeLine/\k=((y.length:Int) != 0):=e
  subst e'
  exact PySem.P.truthy_str (by omega) ⟨H,I.tok _,q⟩
 | byt y =>
  obtain⟨t,rfl⟩:=rx
  obtain⟨hy,e'⟩:y.size<=sizeLine/\k=((y.size:Int) != 0):=e
  subst e'
  exact PySem.W.truthy_bytes (by omega) ⟨H,I.tok _,q⟩
 | ref p =>
  cases rx
  have e':(∃xs,SqL X.K H p xs/\k = !xs.isEmpty)\/(∃xs,SqT X.K H p xs/\k = !xs.isEmpty)\/∃kvs,H p=some (.dK kvs)/\k = !kvs.isEmpty:=e
  rcases e' with⟨xs,hx,e'⟩|⟨xs,hx,e'⟩|⟨kvs,hx,e'⟩
  ·subst e'
   obtain⟨its,r,pl,hz⟩:=I.list hx
   have hlen:=r.length
   exact wpAny_truthy_list pl.isList (by simp only[List.size_toArray];omega) ⟨H,I.tok _,by rw[ax1 r];exact q⟩
  ·subst e'
   obtain⟨its,r,pl,hz⟩:=I.tuple hx
   have hlen:=r.length
   exact truthy_tuple pl (by simp only[List.size_toArray];omega) ⟨H,I.tok _,by rw[ax1 r];exact q⟩
  ·subst e'
   obtain⟨hz,hS,vs,r,m⟩:kvs.length<=sizeLine/\(p==sysModules)=false/\∃vs,KV kvs vs/\s.heap.DictOf (aI8 X.prog X.w) p vs:=I.hok p _ hx
   have hlen:kvs.length=vs.length:=Paired.length r
   exact wpAny_truthy_dict hS m (by omega) ⟨H,I.tok _,by rw[aX1 r];exact q⟩
 | _=>exact(show False from e).elim
theorem br6(ha:PE X a ta) (he:∀whole,isTrue a X.env whole=(do let v ← whole;standAt a.pos;holding [v] (truthy v))) :
  PT X a (fun σ H Q=>ta σ H fun x H'=>∃k,cm7 X.K x H' k/\Q k H'):=by
 intro pins s σ H Q I h
 exact isTrue_plain (thn (ha pins s σ H _ I h) fun v s1 ⟨x,H1,I1,r1,q1⟩=>bR4 pins s1 σ H1 x v Q I1 r1 q1) (he _)
theorem aV8:OpR X (binaryOp .Add) (fun x y H Q=>∃i j,x=.str i/\y=.str j/\i.length+j.length<=sizeLine/\Q (.str (i++j)) H):=by
 intro pins s σ H x y v u Q I rx ry h
 obtain⟨i,j,rfl,rfl,hz,q⟩:=h
 obtain⟨t,rfl⟩:=rx
 obtain⟨t',rfl⟩:=ry
 exact add_str (fun t' tk=>⟨.str (i++j),H,I.tok _,⟨_,rfl⟩,q⟩) hz
theorem ak4{x:V}{us:List Value}(r:K1 [x] us):∃u,us=[u]/\P1 x u:=by
 cases r with
 | cons r1 r2=>cases r2;exact⟨_,rfl,r1⟩
theorem ba5{x y:V}{us:List Value}(r:K1 [x,y] us):∃u w',us=[u,w']/\P1 x u/\P1 y w':=by
 cases r with
 | cons r1 r2 =>
  cases r2 with
  | cons r3 r4=>cases r4;exact⟨_,_,rfl,r1,r3⟩
theorem bm9(hc:X.calm=true):t8 X (.builtin "max") (fun xs H Q=>∃i j,xs=[.int i,.int j]/\Q (.int (if j > i then j else i)) H):=by
 intro pins s σ H xs us Q I r h
 obtain⟨i,j,rfl,q⟩:=h
 obtain⟨u,w',rfl,⟨t,rfl⟩,⟨t',rfl⟩⟩:=ba5 r
 refine max_two_ints (I.ok.hd hc) fun h' tk k=>⟨_,H,I.kept k,?_,q⟩
 by_cases hj:j > i
 ·rw[if_pos hj,if_pos hj];exact⟨_,rfl⟩
 ·rw[if_neg hj,if_neg hj];exact⟨_,rfl⟩
theorem bm8(hc:X.calm=true):t8 X (.builtin "min") (fun xs H Q=>∃i j,xs=[.int i,.int j]/\Q (.int (if j < i then j else i)) H):=by
 intro pins s σ H xs us Q I r h
 obtain⟨i,j,rfl,q⟩:=h
 obtain⟨u,w',rfl,⟨t,rfl⟩,⟨t',rfl⟩⟩:=ba5 r
 refine min_two_ints (I.ok.hd hc) fun h' tk k=>⟨_,H,I.kept k,?_,q⟩
 by_cases hj:j < i
 ·rw[if_pos hj,if_pos hj];exact⟨_,rfl⟩
 ·rw[if_neg hj,if_neg hj];exact⟨_,rfl⟩
theorem aF2:t8 X (.type "int") (fun xs H Q=>(∃i,xs=[.int i]/\Q (.int i) H)\/∃k,xs=[.bl k]/\Q (.int (if k then 1 else 0)) H):=by
 intro pins s σ H xs us Q I r h
 rcases h with⟨i,rfl,q⟩|⟨k,rfl,q⟩
 ·obtain⟨u,rfl,t,rfl⟩:=ak4 r
  exact call_int_int ⟨.int i,H,I,⟨_,rfl⟩,q⟩
 ·obtain⟨u,rfl,r1⟩:=ak4 r
  cases r1
  exact call_int_bool ⟨.int (if k then 1 else 0),H,I.tok _,⟨_,rfl⟩,q⟩
end
section
variable {prog:Program}{w:World}{A:Around}{E:Value->Shared->Prop}{s:Shared}{K:PySem.W.Frag}{x dx C f:Addr}{mA:Str->Option Value}{name:Str}{v:Value}
end
section
variable {P:Program}{w:World}{H H':Hp}{h h':Heap}{a C dx:Addr}{fs fs':List (Str×V)}
end
section
variable {X:Cx}{pins:List (Addr×Obj)}{σ:St}{H:Hp}{s:Shared}{a C dx:Addr}{fs:List (Str×V)}{f:Str}{v:V}{A:Around}{E:Value->Shared->Prop}
end
section
variable {X:Cx}{o e value:Expr}{f:Str}{pos pos' tpos:Pos}{ta tv:TE}
end
section
variable {X:Cx}{pins:List (Addr×Obj)}{σ:St}{H:Hp}{s:Shared}{A:Around}{E:Value->Shared->Prop}{Q:Value->Shared->Prop}{c:Value}{b:Bool}
end
structure Room (k:Nat) (A:Around):Prop where
 hd:A.handled=none
 dp:A.depth+3*k+5 < recursionLimit
 un:A.units+16*k+200 < cLine
theorem Room.mono{j k:Nat}{A:Around}(r:Room k A) (h:j<=k):Room j A:=⟨r.hd,by have:=r.dp;omega,by have:=r.un;omega⟩
theorem Room.deeper{k:Nat}{A:Around}(r:Room (k+1) A) (env:Env):Room k (A.deeper env) :=
 ⟨r.hd,by have:=r.dp;show A.depth+1+3*k+5 < _;omega,by have:=r.un;show A.units+3+16*k+200 < _;omega⟩
theorem Room.depth{k:Nat}{A:Around}(r:Room k A):A.depth < recursionLimit:=by have:=r.dp;omega
theorem Room.units{k:Nat}{A:Around}(r:Room k A):A.units+64 < cLine:=by have:=r.un;omega
noncomputable def cg7:TA:=fun _ H Q=>Q [] H
noncomputable def ch0(ta:TE) (tr:TA):TA:=fun σ H Q=>ta σ H fun x H1=>tr σ H1 fun xs H2=>Q (x::xs) H2
section
variable {X:Cx}{e:Expr}{es:List Expr}{te:TE}{t:TA}{pos:Pos}
theorem R6:PA X [] cg7:=fun _ _ _ _ H Q I h=>Calls.spliced_nil ⟨[],H,I,.nil,h⟩
theorem L4(ha:PE X e te) (hr:PA X es t) (hs:starEach (e::es) X.env=(false,eval e X.env)::starEach es X.env:=by rfl):PA X (e::es) (ch0 te t):=by
 intro pos pins s σ H Q I h
 rw[hs]
 show wpAny _ _ (spliced ((false,eval e X.env)::backTo pos (starEach es X.env))) _ _ s
 refine Calls.spliced_cons (thn (ha pins s σ H _ I h) fun u s1 ⟨x,H1,I1,r1,q1⟩=>?_)
 exact thn (hr pos pins s1 σ H1 _ I1 q1) fun us s2 ⟨xs,H2,I2,r2,q2⟩=>⟨x::xs,H2,I2,.cons r1 r2,q2⟩
noncomputable def cn8(t:TA):TE:=fun σ H Q=>t σ H fun xs H1=>xs.length<=sizeLine/\∀p,H1 p=none->Q (.ref p) (upd H1 p (.tup xs))
noncomputable def co4(t:TA):TE:=fun σ H Q=>t σ H fun xs H1=>xs.length<=sizeLine/\∀p,H1 p=none->Q (.ref p) (upd H1 p (.lst xs))
theorem bT4{x1} (h:PA X es t):PE X (.Tuple es x1 pos) (cn8 t):=by
 intro pins s σ H Q I hq
 refine wpAny_Tuple_spliced (thn (h pos pins s σ H _ I hq) fun us s1 ⟨xs,H1,I1,r,z,q⟩=>⟨by rw[← r.length];exact z,?_⟩)
 have hf:H1 s1.heap.objs.size=none:=I1.hok.fresh (Nat.le_refl _)
 refine⟨.ref s1.heap.objs.size,upd H1 s1.heap.objs.size (.tup xs),I1.laid (t':=s1.toks) (fun b u e=>Heap.get?_push_of_some _ e) (Nat.le_refl _) ?_,rfl,q _ hf⟩
 exact⟨z,us,r,⟨_,Heap.get?_push_size _ rfl,rfl,⟨_,rfl⟩,rfl⟩⟩
theorem bs5(h:PA X es t):PE X (.List es pos) (co4 t):=by
 intro pins s σ H Q I hq
 refine wpAny_List_spliced (thn (h pos pins s σ H _ I hq) fun us s1 ⟨xs,H1,I1,r,z,q⟩=>⟨by rw[← r.length];exact z,?_⟩)
 have hf:H1 s1.heap.objs.size=none:=I1.hok.fresh (Nat.le_refl _)
 refine⟨.ref s1.heap.objs.size,upd H1 s1.heap.objs.size (.lst xs),I1.laid (t':=s1.toks) (fun b u e=>Heap.get?_push_of_some _ e) (Nat.le_refl _) ?_,rfl,q _ hf⟩
 exact⟨z,us,0,r,Heap.get?_push_size _ rfl⟩
end
noncomputable abbrev Sp:=List V->Hp->VK->XK->Prop
noncomputable abbrev CXT:=List Env->Hp->Shared->XK->Value->Shared->Prop
structure Env0 (P:Program) (w:World) (K:PySem.W.Frag) (mg:Str->Option Value) (base:Heap) (A:Around) (outer:List Env) (s:Shared) (H:Hp):Prop where
 frames:A.frames=some outer
 mod:Mod K mg base
 bs:∀b o,base.get? b=some o->s.heap.get? b=some o/\H b=none
 bsz:base.objs.size<=s.heap.objs.size
 funs:s.heap.FunFrames base outer
 frf:∀b∈frs outer,H b=none
 hok:HOk P w H s.heap
 bare:AllBare s.gens
noncomputable def CE(outer:List Env) (P:Program) (w:World) (H:Hp) (s:Shared) (Q:VK) (u:Value) (s':Shared):Prop :=
 ∃v H',s'.os=s.os/\AllBare s'.gens/\Un (frs outer) [] H H' s.heap s'.heap/\HOk P w H' s'.heap/\P1 v u/\Q v H'
noncomputable def CR(CX:CXT) (outer:List Env) (P:Program) (w:World) (H:Hp) (s:Shared) (Q:VK) (E:XK) (r:Result) (s':Shared):Prop :=
 match r with
 | .ok (.ret u)=>CE outer P w H s Q u s'
 | .ok _=>False
 | .error e=>CX outer H s E e s'
structure FnOk (P:Program) (w:World) (K:PySem.W.Frag) (mg:Str->Option Value) (base:Heap) (CX:CXT) (k:Nat) (f:Addr) (fd:FuncData) (ps:List Str) (sp:Sp):Prop where
 len:∀vs H Q E,sp vs H Q E->vs.length=ps.length
 run:∀(A:Around) (outer:List Env) (s:Shared) (H:Hp) (args:Args) (us:List Value) (vs:List V) (Q:VK) (E:XK),Room k A->Env0 P w K mg base A outer s H->BindsTo s fd args (ps.zip us)->K1 vs us->sp vs H Q E ->
  codeAny (model P w) A (.call (.ref f) args) (CR CX outer P w H s Q E) s
theorem FnOk.mono{P:Program}{w:World}{K:PySem.W.Frag}{mg:Str->Option Value}{base:Heap}{CX:CXT}{j k:Nat}{f:Addr}{fd:FuncData}{ps:List Str}{sp:Sp}(F:FnOk P w K mg base CX j f fd ps sp) (h:j<=k) :
  FnOk P w K mg base CX k f fd ps sp:=⟨F.len,fun A outer s H args us vs Q E hr=>F.run A outer s H args us vs Q E (hr.mono h)⟩
section
variable {X:Cx}{pins:List (Addr×Obj)}{σ:St}{H:Hp}{s s':Shared}
theorem Inv.env0(I:Inv X pins σ H s):Env0 X.prog X.w X.K X.mg X.base X.A X.stack s H :=
 ⟨I.ok.frames,I.ok.mod,I.bs,Nat.le_trans I.ok.bsz I.sz,I.stack,I.stkFree,I.hok,I.bare⟩
theorem Inv.after{Q:VK}{u:Value}(I:Inv X pins σ H s) (h:CE X.stack X.prog X.w H s Q u s'):EP X pins σ Q u s':=by
 obtain⟨v,H',os,bare,un,hok,r,q⟩:=h
 obtain⟨hh,g,d,t,os'⟩:=s'
 obtain rfl:os'=s.os:=os
 exact⟨v,H',I.call (h':=hh) (g':=g) (d':=d) (t':=t) (ch:=[]) un hok bare (fun b z=>absurd z (by simp)),r,q⟩
end
noncomputable def bN6(sp:Sp) (dvs:List V) (E:XK) (t:TA):TE:=fun σ H Q=>t σ H fun vs H1=>sp (vs++dvs) H1 Q E
noncomputable def T8(K:PySem.W.Frag) (fd:FuncData) (ps:List Str) (ds:List Value):Prop :=
 ∀(s:Shared) (us:List Value),K.In s.heap->(us++ds).length=ps.length->BindsTo s fd ⟨us,[]⟩ (ps.zip (us++ds))
theorem T8.all{K:PySem.W.Frag}{fd:FuncData}{ps:List Str}(h:∀us:List Value,us.length=ps.length->bindArgs fd ⟨us,[]⟩=pure (ps.zip us)):T8 K fd ps []:=fun s us _ hl=>by
 rw[List.append_nil]at hl ⊢
 exact .of_eq (h us hl)
noncomputable def aL7(CX:CXT) (X:Cx) (E:XK):Prop:=∀(pins:List (Addr×Obj)) (σ:St) (H:Hp) (s:Shared) (e:Value) (s':Shared),Inv X pins σ H s->CX X.stack H s E e s'->X.xe e s'
section
variable {X:Cx}{CX:CXT}{k:Nat}{f C:Addr}{fd:FuncData}{ps:List Str}{sp:Sp}{dvs:List V}{ds:List Value}{E:XK}{x m:Str}{p pos apos:Pos}{e o:Expr}{es:List Expr}{ta:TE}{t:TA}
theorem aV1{pins:List (Addr×Obj)}{σ:St}{H:Hp}{s:Shared}{Q:VK}{us:List Value}{vs:List V}(F:FnOk X.prog X.w X.K X.mg X.base CX k f fd ps sp) (hr:Room k X.A) (hb:T8 X.K fd ps ds) (hd:K1 dvs ds) (hx:aL7 CX X E)
  (I:Inv X pins σ H s) (r:K1 vs us) (h:sp (vs++dvs) H Q E):wpAny (model X.prog X.w) X.A (call (.ref f) us) (EP X pins σ Q) X.xe s:=by
 have r2:K1 (vs++dvs) (us++ds):=r.append hd
 have hl:(us++ds).length=ps.length:=by rw[← r2.length];exact F.len _ _ _ _ h
 refine wpAny_call (codeAny_mono (F.run X.A X.stack s H ⟨us,[]⟩ (us++ds) (vs++dvs) Q E hr I.env0 (hb s us I.kIn hl) r2 h) fun r s' hq=>?_)
 cases r with
 | error e=>exact hx pins σ H s e s' I hq
 | ok fl =>
  cases fl with
  | ret u=>exact I.after hq
  | next=>exact False.elim hq
  | brk=>exact False.elim hq
  | cont=>exact False.elim hq
theorem bG2(F:FnOk X.prog X.w X.K X.mg X.base CX k f fd ps sp) (hr:Room k X.A) (hg:Gl X x) (hm:X.mg x=some (.ref f)) (hk:PySem.W.keepIn X.K (.ref f)=true) (hb:T8 X.K fd ps ds) (hd:K1 dvs ds) (hx:aL7 CX X E)
  (ha:PA X (e::es) t) (hdb:(x==("__debug__" : Str))=false:=by decide) (he:starEach (e::es) X.env=(false,eval e X.env)::starEach es X.env:=by rfl) (hpl:(backTo pos (starEach es X.env)).any (·.1)=false:=by rfl) :
  PE X (.Call (.Name x p) (e::es) [] pos) (bN6 sp dvs E t):=by
 intro pins s σ H Q I h
 refine wpAny_Call_Name_kw (ag0 I hg hm ?_ hdb)
 refine PySem.W.callWith_K (h₀:=X.base) I.ok.mod.kin hk (thn (ha pos pins s σ H _ I h) fun us s1 ⟨vs,H1,I1,r,q⟩=>⟨I1.kIn,?_⟩) he hpl
 exact aV1 F hr hb hd hx I1 r q
theorem bs7(F:FnOk X.prog X.w X.K X.mg X.base CX k f fd ps sp) (hr:Room k X.A) (hg:Gl X x) (hm:X.mg x=some (.ref f)) (hk:PySem.W.keepIn X.K (.ref f)=true) (hb:T8 X.K fd ps ds) (hd:K1 dvs ds) (hx:aL7 CX X E)
  (hdb:(x==("__debug__" : Str))=false:=by decide):PE X (.Call (.Name x p) [] [] pos) (bN6 sp dvs E cg7):=by
 intro pins s σ H Q I h
 refine wpAny_Call_Name_kw (ag0 I hg hm ?_ hdb)
 exact PySem.W.callWith_K0 I.kIn hk (aV1 (us:=[]) F hr hb hd hx I .nil h)
end
section
variable {X:Cx}{CX:CXT}{k:Nat}{f C:Addr}{fd:FuncData}{ps ks:List Str}{sp:Sp}{E:XK}{x m:Str}{p pos apos kpos:Pos}{e o:Expr}{es:List Expr}{kws:List Keyword}{te ta:TE}{t tk:TA}{nm:Option Str}
variable {g:List Value->List Value->List Value}{gV:List V->List V->List V}
end
structure FnScope (N P:List Str) (sc:Scope):Prop where
 kind:sc.kind=.function
 co:sc.isCoroutine=false
 gen:sc.isGenerator=false
 nd:N.Nodup
 pre:N.take P.length=P
 par:∀x∈P,sc.names.lookup x=some .local\/sc.names.lookup x=some .cell
 nofree:∀y∈sc.names,y.2≠.free
theorem aF3{kindOf:Str->Option NameKind}{x:Str}:∀{binds:List (Str×Value)}{m:Str->Option Value},(∀v,(x,v)∉binds)->bindL kindOf binds m x=m x
 | [],_,_=>rfl
 | (n,v)::r,m,h=>by
  unfold bindL
  rw[aF3 fun w hw=>h w (xmm _ hw)]
  split
  ·have:x≠n:=by rintro rfl;exact h v List.mem_cons_self
   simp[this]
  ·rfl
theorem aF5{kindOf:Str->Option NameKind}{x:Str}:∀{binds:List (Str×Value)}{m:Str->Option Value},(∀v,(x,v)∉binds)->bindC kindOf binds m x=m x
 | [],_,_=>rfl
 | (n,v)::r,m,h=>by
  unfold bindC
  rw[aF5 fun w hw=>h w (xmm _ hw)]
  split
  ·rfl
  ·have:x≠n:=by rintro rfl;exact h v List.mem_cons_self
   simp[this]
theorem aF4{kindOf:Str->Option NameKind}{x:Str}{v:Value}:∀{P:List Str}{vs:List Value}{i:Nat}{m:Str->Option Value},P.Nodup->P[i]? = some x->vs[i]? = some v->kindOf x=some .local ->
  bindL kindOf (P.zip vs) m x=some v
 | [],_,_,_,_,h,_,_=>by simp at h
 | _::_,[],_,_,_,_,h,_=>by simp at h
 | p::P,w::vs,0,m,nd,h1,h2,hk=>by
  simp at h1 h2;subst h1;subst h2
  show bindL kindOf ((p,w)::P.zip vs) m p=_
  unfold bindL
  rw[aF3 fun v hv=>(List.nodup_cons.mp nd).1 (List.of_mem_zip hv).1,if_pos hk]
  simp
 | p::P,w::vs,i+1,m,nd,h1,h2,hk=>by
  show bindL kindOf ((p,w)::P.zip vs) m x=_
  unfold bindL
  exact aF4 (i:=i) (List.nodup_cons.mp nd).2 (by simpa using h1) (by simpa using h2) hk
theorem aF6{kindOf:Str->Option NameKind}{x:Str}{v:Value}:∀{P:List Str}{vs:List Value}{i:Nat}{m:Str->Option Value},P.Nodup->P[i]? = some x->vs[i]? = some v->kindOf x≠some .local ->
  bindC kindOf (P.zip vs) m x=some v
 | [],_,_,_,_,h,_,_=>by simp at h
 | _::_,[],_,_,_,_,h,_=>by simp at h
 | p::P,w::vs,0,m,nd,h1,h2,hk=>by
  simp at h1 h2;subst h1;subst h2
  show bindC kindOf ((p,w)::P.zip vs) m p=_
  unfold bindC
  rw[aF5 fun v hv=>(List.nodup_cons.mp nd).1 (List.of_mem_zip hv).1,if_neg hk]
  simp
 | p::P,w::vs,i+1,m,nd,h1,h2,hk=>by
  show bindC kindOf ((p,w)::P.zip vs) m x=_
  unfold bindC
  exact aF6 (i:=i) (List.nodup_cons.mp nd).2 (by simpa using h1) (by simpa using h2) hk
noncomputable def o6(N:List Str) (vs:List V):St:=vs.map some++List.replicate (N.length - vs.length) none
noncomputable def aR5(CX:CXT) (P:Program) (w:World) (K:PySem.W.Frag) (mg:Str->Option Value) (base:Heap) (N:List Str) (qual:Str) (scope:Scope) (f:Addr) (cd:Value) (A:Around) (outer:List Env) (s:Shared) (H:Hp) (E:XK):Cx where
 prog:=P
 w:=w
 K:=K
 mg:=mg
 base:=base
 A:=A.deeper (envOfC qual scope s.heap.objs.size f cd)
 N:=N
 s₀:=s
 H₀:=H
 env:=envOfC qual scope s.heap.objs.size f cd
 outer:=outer
 stack:=envOfC qual scope s.heap.objs.size f cd::outer
 ex:=[]
 calm:=true
 fn:=fun _=>true
 pn:=[]
 xe:=fun e s'=>wpAny (model P w) (A.deeper (envOfC qual scope s.heap.objs.size f cd)) (leaving (envOfC qual scope s.heap.objs.size f cd) e) (fun _ s''=>CX outer H s E e s'') (fun e' s''=>CX outer H s E e' s'') s'
theorem aR9{sc:Scope}{n:Nat}{x:Str}(h:sc.names.lookup x=some .cell):∃c,(cellsFrom n sc.names []).lookup x=some c:=by
 have q:=PySem.W.cellsFrom_some sc.names n [] (.inl h)
 exact Option.isSome_iff_exists.mp q
theorem bj3{CX:CXT}{P:Program}{w:World}{K:PySem.W.Frag}{mg:Str->Option Value}{base:Heap}{N ps:List Str}{qual:Str}{scope:Scope}{f:Addr}{cd:Value}{A:Around}{outer:List Env}{s s1:Shared}{H:Hp}{E:XK}{us:List Value}{vs:List V}
  (S:FnScope N ps scope) (hd:A.handled=none) (e0:Env0 P w K mg base A outer s H) (hl:vs.length=ps.length) (r:K1 vs us)
  (x:InCallC s s.heap.objs.size (bindL (envOfC qual scope s.heap.objs.size f cd).kindOf (ps.zip us) fun _=>none) (cellsFrom (s.heap.objs.size+1) scope.names []) (bindC (envOfC qual scope s.heap.objs.size f cd).kindOf (ps.zip us) fun _=>none) s1) :
  Inv (aR5 CX P w K mg base N qual scope f cd A outer s H E) [] (o6 N vs) H s1:=by
 have hpl:ps.length<=N.length:=by have:=congrArg List.length S.pre;rw[List.length_take]at this;omega
 obtain⟨h1,tk,rfl,hk⟩:=x.done
 have noA:∀b:Addr,b∉(aR5 CX P w K mg base N qual scope f cd A outer s H E).ex:=fun b z=>absurd (show b∈([]:List Addr) from z) (by simp)
 refine⟨⟨e0.mod,S.kind,rfl,rfl,Nat.le_refl _,fun y z c h1 h2=>?_,fun y hy=>?_,fun y c _ h=>?_,fun _=>hd,Around.frames_deeper e0.frames,.inr ⟨rfl,rfl⟩,fun b z=>absurd z (noA b),e0.bs,e0.bsz,fun b _ _=>noA b,fun b z=>absurd z (noA b),e0.funs,e0.frf⟩,
  rfl,e0.bare,Un.kept hk,⟨_,x.toInCall.ns,fun i y v h1 h2 h3=>?_⟩,fun y c h=>⟨_,x.cell y c h⟩,e0.hok.fresh (Nat.le_refl _),fun y c h=>?_,fun p hp=>absurd (show p∈([]:List (Addr×Obj)) from hp) (by simp),e0.hok.kept hk,?_⟩
 ·exact name_of_addr x.apart (PySem.mem_of_lookup h1) (PySem.mem_of_lookup h2)
 ·have hy:scope.names.lookup y=some .cell\/scope.names.lookup y=some .free:=hy
  rcases hy with hy|hy
  ·exact aR9 hy
  ·exact absurd rfl (S.nofree _ (PySem.mem_of_lookup hy))
 ·exact Nat.le_of_lt (x.above y c (PySem.mem_of_lookup h))
 ·have hi:i < vs.length:=by
   unfold o6 at h2
   by_cases hi:i < vs.length
   ·exact hi
   ·rw[List.getElem?_append_right (by simpa using hi)]at h2
    rw[List.getElem?_replicate]at h2
    split at h2<;>cases h2
  have ha:vs[i]? = some v:=by
   unfold o6 at h2
   rw[List.getElem?_append_left (by simpa using hi),List.getElem?_map]at h2
   cases e:vs[i]? with
   | none=>rw[e]at h2;cases h2
   | some a=>rw[e]at h2;cases h2;rfl
  obtain⟨u,hu,rv⟩:=r.get ha
  have hp:ps[i]? = some y:=by rw[← S.pre,List.getElem?_take_of_lt (by omega)];exact h1
  have ndP:ps.Nodup:=by rw[← S.pre];exact S.nd.sublist (List.take_sublist _ _)
  refine⟨u,rv,?_⟩
  rcases S.par y (List.mem_of_getElem? hp) with k|k
  ·exact .inl ⟨k,aF4 ndP hp hu k⟩
  ·obtain⟨c,e⟩:=aR9 (n:=s.heap.objs.size+1) k
   refine .inr ⟨.inl k,c,e,?_⟩
   have q:=x.cell y c e
   rw[aF6 ndP hp hu (by show scope.names.lookup y≠_;rw[k];decide)]at q
   exact q
 ·exact e0.hok.fresh (Nat.le_of_lt (x.above y c (PySem.mem_of_lookup h)))
 ·unfold o6
  show _=N.length
  rw[List.length_append,List.length_map,List.length_replicate]
  omega
theorem aE6{CX:CXT}{P:Program}{w:World}{K:PySem.W.Frag}{mg:Str->Option Value}{base:Heap}{k:Nat}{f:Addr}{name qual:Str}{params:Arguments}{body:List Stmt}{scope:Scope}{dV kV doc pm cdv ct oc:Value}{an od:Option Addr}
  {osl:Array (Option Value)}{N ps:List Str}{sp:Sp}(lk:K.lookup f=some ⟨oc,od,.func (PySem.W.fnOf name qual params body scope dV kV doc pm an cdv ct),osl⟩) (hcd:PySem.W.codeIn K cdv qual=true) (S:FnScope N ps scope)
  (len:∀vs H Q E,sp vs H Q E->vs.length=ps.length)
  (hbody:∀(A:Around) (outer:List Env) (s:Shared) (H:Hp) (vs:List V) (Q:VK) (E:XK),Room k (A.deeper (envOfC qual scope s.heap.objs.size f cdv))->sp vs H Q E ->
   ∃t,PSs (aR5 CX P w K mg base N qual scope f cdv A outer s H E) body t/\t { nx:=fun _ H'=>Q .non H',rt:=Q } (o6 N vs) H) :
  FnOk P w K mg base CX (k+1) f (PySem.W.fnOf name qual params body scope dV kV doc pm an cdv ct) ps sp:=by
 refine⟨len,fun A outer s H args us vs Q E hr e0 hb r hsp=>?_⟩
 have hl:=len _ _ _ _ hsp
 have KX:K.In s.heap:=e0.mod.kin.keeps fun b o e=>(e0.bs b o e).1
 have lim:s.heap.NoLimit:=e0.mod.nolimit.keeps fun b o e=>(e0.bs b o e).1
 have hkind:∀y∈ps.zip us,scope.names.lookup y.1=some .local\/(scope.names.lookup y.1=some .cell/\((cellsFrom (s.heap.objs.size+1) scope.names []).lookup y.1).isSome=true):=fun⟨n,v⟩ hy=>by
  rcases S.par n (List.of_mem_zip hy).1 with q|q
  ·exact .inl q
  ·exact .inr ⟨q,PySem.W.cellsFrom_some _ _ _ (.inl q)⟩
 refine codeAny_call_function hr.depth (KX _ _ lk) rfl S.co S.gen rfl (PySem.W.codeRec_of KX hcd) (hb _ _ _ _ ?_)
 refine wpAny_newFunctionEnv_cells S.kind hkind fun env he s1 x=>?_
 subst he
 refine⟨lim.keeps x.toInCall.keep,codeAny_func ?_⟩
 obtain⟨t,ht,hq⟩:=hbody A outer s H vs Q E (hr.deeper _) hsp
 have I:Inv (aR5 CX P w K mg base N qual scope f cdv A outer s H E) [] (o6 N vs) H s1:=bj3 S hr.hd e0 hl r x
 refine wpAny_mono (ht [] s1 (o6 N vs) H _ I hq) (fun fl s' hs=>?_) fun e s' hs=>hs
 have fin:∀{σ':St}{H':Hp}{v:V}{u:Value},Inv (aR5 CX P w K mg base N qual scope f cdv A outer s H E) [] σ' H' s'->P1 v u->Q v H'->CE outer P w H s Q u s' :=
  fun{σ' H' v u} J rv q=>⟨v,H',J.os,J.bare,J.base,J.hok,rv,q⟩
 cases fl with
 | ret u =>
  obtain⟨v,σ',H',J,rv,q⟩:=hs
  exact fin J rv q
 | next =>
  obtain⟨σ',H',J,q⟩:=hs
  exact fin (v:=V.non) (u:=Value.none) J rfl q
 | brk =>
  obtain⟨_,_,_,q⟩:=hs
  exact False.elim q
 | cont =>
  obtain⟨_,_,_,q⟩:=hs
  exact False.elim q
section
variable {X:Cx}{x:Str}{p pos:Pos}{e:Expr}{es:List Expr}{t:TA}{id T:String}{r:List V->Hp->VK->Prop}
noncomputable def tCB(r:List V->Hp->VK->Prop) (t:TA):TE:=fun σ H Q=>t σ H fun vs H1=>r vs H1 Q
theorem Y5(hc:t8 X (.builtin id) r) (hg:Gl X x) (hm:X.mg x=none) (hv:bootBuiltins x=some (.builtin id)) (ha:PA X (e::es) t) (hn:x ≠ "__name__" := by decide) (hdb:(x==("__debug__" : Str))=false:=by decide)
  (he:starEach (e::es) X.env=(false,eval e X.env)::starEach es X.env:=by rfl) (hpl:(backTo pos (starEach es X.env)).any (·.1)=false:=by rfl):PE X (.Call (.Name x p) (e::es) [] pos) (tCB r t):=by
 intro pins s σ H Q I h
 refine wpAny_Call_Name_kw (ap2 I hg hm hv ?_ hn hdb)
 exact PyProof.Rows.callWith_builtin1 (thn (ha pos pins s σ H _ I h) fun us s1 ⟨vs,H1,I1,r1,q1⟩=>hc pins s1 σ H1 vs us Q I1 r1 q1) he hpl
theorem v2(hc:t8 X (.type T) r) (hg:Gl X x) (hm:X.mg x=none) (hv:bootBuiltins x=some (.type T)) (ha:PA X (e::es) t) (hn:x ≠ "__name__" := by decide) (hdb:(x==("__debug__" : Str))=false:=by decide)
  (he:starEach (e::es) X.env=(false,eval e X.env)::starEach es X.env:=by rfl) (hpl:(backTo pos (starEach es X.env)).any (·.1)=false:=by rfl):PE X (.Call (.Name x p) (e::es) [] pos) (tCB r t):=by
 intro pins s σ H Q I h
 refine wpAny_Call_Name_kw (ap2 I hg hm hv ?_ hn hdb)
 exact PyProof.Rows.callWith_type1 (thn (ha pos pins s σ H _ I h) fun us s1 ⟨vs,H1,I1,r1,q1⟩=>hc pins s1 σ H1 vs us Q I1 r1 q1) he hpl
end
end L2
namespace HT
open PySem PyProof.Rows
section
open PySem.SeqAt
open PySem.AutoSeq1 (wpAny_loadPart')
open PySem.MeetsSeq PySem.MeetsSeq2 PySem.MeetsSeq3
end
section
variable {prog:Program}{w:World}{A:Around}{E:Value->Shared->Prop}{s:Shared}
theorem cat_tup{t b:Addr}{vs ws:List Value}{Q:Value->Shared->Prop}(ht:IsTup s.heap t vs.toArray) (hb:IsTup s.heap b ws.toArray) (hv:vs≠[])
  (h1:ws=[]->Q (.ref t) s) (h2:ws≠[]->Q (.ref s.heap.objs.size) { s with heap:=s.heap.push { cls:=.type "tuple", data:=.seq (vs++ws).toArray } })
  (hsz:vs.length+ws.length<=sizeLine):wpAny (model prog w) A (binaryOp .Add (.ref t) (.ref b)) Q E s:=by
 obtain⟨⟨cls,dd,data,sl⟩,ho,hc,n,hd⟩:=id ht
 obtain⟨⟨cls2,dd2,data2,sl2⟩,ho2,hc2,n2,hd2⟩:=id hb
 simp only at hc hd hc2 hd2
 subst hc hd hc2 hd2
 have e:vs.toArray++ws.toArray=(vs++ws).toArray:=by simp
 by_cases hw:ws=[]
 ·exact concat_meets ⟨_,ho,rfl⟩ ⟨_,ho2,rfl⟩ noFill_tuple_add seq_tuple_add PySem.F.slot_tuple_add PySem.F.entry_tuple_add (PySem.F.args_tuple_add_2 _ _)
   (tuple_addW1 t b vs.toArray ws.toArray n n2 dd dd2 sl sl2 (by simpa using hv) (by simp[hw])) ⟨ho,ho2,h1 hw⟩
 ·refine concat_meets ⟨_,ho,rfl⟩ ⟨_,ho2,rfl⟩ noFill_tuple_add seq_tuple_add PySem.F.slot_tuple_add PySem.F.entry_tuple_add (PySem.F.args_tuple_add_2 _ _)
   (tuple_addW2 t b vs.toArray ws.toArray n n2 dd dd2 sl sl2 (by simpa using hv) (by simpa using hw) (by rw[List.size_toArray,List.size_toArray];exact hsz)) ⟨ho,ho2,?_⟩
  rw[e]
  exact h2 hw
noncomputable def sIx(n d:Nat):Option Int->Nat
 | none=>d
 | some v=>if v < 0 then(v+(n:Int)).toNat else min v.toNat n
theorem sIx_none(n d:Nat):sIx n d none=d:=rfl
theorem sIx_nat(n d k:Nat):sIx n d (some (k:Int))=min k n:=by
 show(if(k:Int) < 0 then((k:Int)+(n:Int)).toNat else min (k:Int).toNat n)=min k n
 rw[if_neg (by omega),Int.toNat_natCast]
theorem bS2(n d:Nat) (hd:d<=n) (o:Option Int):sIx n d o<=n:=by
 cases o with
 | none=>exact hd
 | some v =>
  show(if v < 0 then(v+(n:Int)).toNat else min v.toNat n)<=n
  by_cases hv:v < 0
  ·rw[if_pos hv];omega
  ·rw[if_neg hv];exact Nat.min_le_right _ _
theorem bf2(v:Int) (n d:Nat):(if v < 0 then max (v+(n:Int)) 0 else min v (n:Int))=((sIx n d (some v):Nat):Int):=by
 show(if v < 0 then max (v+(n:Int)) 0 else min v (n:Int))=(((if v < 0 then(v+(n:Int)).toNat else min v.toNat n):Nat):Int)
 by_cases hv:v < 0
 ·simp only[if_pos hv];omega
 ·simp only[if_neg hv];omega
theorem aZ6(lo hi:Option Int) (n:Nat):Builtin.Slice.sliceAdjust lo hi 1 (n:Int)=(((sIx n 0 lo:Nat):Int),((sIx n n hi:Nat):Int)):=by
 have h1:¬((1:Int) < 0):=by omega
 unfold Builtin.Slice.sliceAdjust
 simp only[h1,if_false]
 refine Prod.ext ?_ ?_
 ·cases lo with
  | none=>rfl
  | some v=>exact bf2 v n 0
 ·cases hi with
  | none=>rfl
  | some v=>exact bf2 v n n
theorem aV4(i j:Nat):Builtin.Slice.slicePlaces (i:Int) (j:Int) 1=j - i:=by
 unfold Builtin.Slice.slicePlaces
 have h1:(1:Int) > 0:=by omega
 simp only[h1,if_true,Int.ediv_one]
 split<;>omega
theorem av5{v:Value}{o:Option Int}{Q:Option Int->Shared->Prop}(p:IsPart v o) (h:Q o s):wpAny (model prog w) A (Builtin.Slice.slicePartIndex v) Q E s:=by
 cases p with
 | none=>exact slicePart_none h
 | int i t=>exact slicePart_int h
theorem sliceApplied_gen{sl:Addr}{vl vu:Value}{lo hi:Option Int}{n:Nat}{Q:Int×Int×Nat->Shared->Prop}(hs:s.heap.IsSliceOf sl vl vu .none) (pl:IsPart vl lo) (pu:IsPart vu hi)
  (h:Q (((sIx n 0 lo:Nat):Int),1,sIx n n hi - sIx n 0 lo) s):wpAny (model prog w) A (Builtin.Slice.sliceApplied (.ref sl) (pure (n:Int))) Q E s:=by
 obtain⟨os,hos,hcs,hds⟩:=id hs
 unfold Builtin.Slice.sliceApplied Builtin.Slice.sliceFields
 refine wpAny_bind (wpAny_bind (wpAny_field hos hds (x:=vl) rfl (wpAny_bind (wpAny_field hos hds (x:=vu) rfl (wpAny_bind (wpAny_field hos hds (x:=.none) rfl (wpAny_pure ?_)))))))
 refine wpAny_bind (slicePart_none ?_)
 show wpAny _ _ (if((1:Int)==0)=true then _ else _) _ _ s
 rw[if_neg (by decide)]
 refine wpAny_bind (av5 pl (wpAny_bind (av5 pu (wpAny_bind (wpAny_pure ?_)))))
 show wpAny _ _ (match Builtin.Slice.sliceAdjust lo hi 1 (n:Int) with|(lo,hi)=>pure (lo,(1:Int),Builtin.Slice.slicePlaces lo hi 1)) _ _ s
 rw[aZ6 lo hi n]
 show wpAny _ _ (pure (((sIx n 0 lo:Nat):Int),(1:Int),Builtin.Slice.slicePlaces ((sIx n 0 lo:Nat):Int) ((sIx n n hi:Nat):Int) 1)) _ _ s
 rw[aV4]
 exact wpAny_pure h
theorem bs3(xs:Array Value) (i k:Nat):((List.range k).filterMap fun(m:Nat)=>xs[((i:Int)+(m:Int)*1).toNat]?).toArray=((xs.toList.drop i).take k).toArray:=by
 have e:(fun(m:Nat)=>xs[((i:Int)+(m:Int)*1).toNat]?)=fun m=>xs[i+m]?:=by
  funext m
  have:((i:Int)+(m:Int)*1).toNat=i+m:=by omega
  rw[this]
 rw[e]
 have:=pick_run xs i k
 rw[List.filterMap_map]at this
 have e2:((fun x=>xs[x]?) ∘ fun x=>i+x)=fun m=>xs[i+m]?:=rfl
 rw[e2]at this
 rw[this]
theorem getItem_tuple_cut{t sl:Addr}{items:Array Value}{vl vu:Value}{lo hi:Option Int}{Q:Value->Shared->Prop}(ht:IsTup s.heap t items) (hs:s.heap.IsSliceOf sl vl vu .none) (pl:IsPart vl lo) (pu:IsPart vu hi)
  (hw:¬(sIx items.size 0 lo=0/\sIx items.size items.size hi=items.size))
  (h:Q (.ref s.heap.objs.size) { s with heap:=s.heap.push { cls:=.type "tuple", data:=.seq ((items.toList.drop (sIx items.size 0 lo)).take (sIx items.size items.size hi - sIx items.size 0 lo)).toArray } })
  (hsz:items.size<=sizeLine):wpAny (model prog w) A (getItem (.ref t) (.ref sl)) Q E s:=by
 have htake:sizeOk (.seq ((items.toList.drop (sIx items.size 0 lo)).take (sIx items.size items.size hi - sIx items.size 0 lo)).toArray):=by
  show((items.toList.drop (sIx items.size 0 lo)).take (sIx items.size items.size hi - sIx items.size 0 lo)).toArray.size<=sizeLine
  rw[List.size_toArray,List.length_take,List.length_drop,Array.length_toList]
  omega
 have hj:sIx items.size items.size hi<=items.size:=bS2 _ _ (Nat.le_refl _) hi
 obtain⟨os,hos,hcs,hds⟩:=id hs
 have hTs:s.TypeIs (.ref sl) "slice" := ⟨os,hos,hcs⟩
 unfold getItem
 try with_reducible refine wpAny_holding ?_
 first|refine wpAny_bind (wpAny_pure ?_)|skip
 refine wpAny_bind (wpAny_sequenceKey ht.typeIs (by decide) ?_)
 refine wpAny_bind (wpAny_callSpecial?_slot (name:=Str.ofString "__getitem__") ht.typeIs PyProof.Rows.slot_tuple_getitem
  (wpAny_call_entry PyProof.Rows.slot_tuple_getitem ht.typeIs entry_tuple_getitem ?_ (args_tuple_getitem _ _)))
 show wpAny _ _ (Builtin.Tuple.tupleItemsOf (.ref t) >>= _) _ _ s
 refine wpAny_bind (tupleItemsOf_ ht ?_)
 refine wpAny_bind (wpAny_typeOf hTs ?_)
 rw[if_pos (by decide)]
 refine wpAny_bind (sliceApplied_gen hs pl pu ?_)
 have hno:¬((((sIx items.size 0 lo:Nat):Int)==0&&(1:Int)==1&&(sIx items.size items.size hi - sIx items.size 0 lo)==items.size)=true):=by
  intro q
  rw[Bool.and_eq_true,Bool.and_eq_true]at q
  have q1:((sIx items.size 0 lo:Nat):Int)=0:=eq_of_beq q.1.1
  have q2:sIx items.size items.size hi - sIx items.size 0 lo=items.size:=eq_of_beq q.2
  exact hw ⟨by omega,by omega⟩
 show wpAny _ _ (if(((sIx items.size 0 lo:Nat):Int)==0&&(1:Int)==1&&(sIx items.size items.size hi - sIx items.size 0 lo)==items.size)=true then _ else _) _ _ s
 rw[if_neg hno,bs3]
 first
  | exact wpAny_bind (m:=Builtin.Tuple.tupleExact _) (wpAny_newObj_type (wpAny_pure ⟨_,rfl,wpAny_pure h⟩) htake)
  | exact wpAny_bind (m:=Builtin.Tuple.tupleExact _) (wpAny_newObj_type (wpAny_bind (wpAny_pure (wpAny_pure ⟨_,rfl,wpAny_pure h⟩))) htake)
  | exact wpAny_bind (wpAny_bind (m:=Builtin.Tuple.tupleExact _) (wpAny_newObj_type (wpAny_pure (wpAny_pure ⟨_,rfl,wpAny_pure h⟩)) htake))
  | exact wpAny_bind (wpAny_bind (m:=Builtin.Tuple.tupleExact _) (wpAny_newObj_type (wpAny_pure ⟨_,rfl,wpAny_pure h⟩) htake))
end
end HT
namespace L2
open PySem PySem.Spec PyProof.Rows
noncomputable abbrev TO:=St->Hp->(Option Int->Hp->Prop)->Prop
noncomputable def PO(X:Cx) (e:Option Expr) (t:TO):Prop :=
 ∀(pins:List (Addr×Obj)) (s:Shared) (σ:St) (H:Hp) (Q:Option Int->Hp->Prop),Inv X pins σ H s->t σ H Q ->
  wpAny (model X.prog X.w) X.A (evalPart e X.env) (fun u s'=>∃o H',Inv X pins σ H' s'/\IsPart u o/\Q o H') X.xe s
noncomputable def bD8:TO:=fun _ H Q=>Q none H
noncomputable def cg5(t:TE):TO:=fun σ H Q=>t σ H fun x H1=>∃i,x=.int i/\Q (some i) H1
section
variable {X:Cx}{e:Expr}{te:TE}{lo hi:Option Expr}{tl th:TO}{pos p2:Pos}
theorem bF6:PO X none bD8:=by
 intro pins s σ H Q I h
 rw[evalPart_none]
 exact wpAny_pure ⟨none,H,I,.none,h⟩
theorem bF5(h:PE X e te):PO X (some e) (cg5 te):=by
 intro pins s σ H Q I hw
 rw[evalPart_some]
 refine thn (h pins s σ H _ I hw) fun u s1 ⟨x,H1,I1,r1,q1⟩=>?_
 obtain⟨i,rfl,q⟩:=q1
 obtain⟨t,rfl⟩:=r1
 exact⟨some i,H1,I1,.int i t,q⟩
noncomputable def SlR(X:Cx) (r:V->Option Int->Option Int->Hp->VK->Prop):Prop :=
 ∀(pins:List (Addr×Obj)) (s:Shared) (σ:St) (H:Hp) (x:V) (v vl vu:Value) (lo hi:Option Int) (sl:Addr) (Q:VK),Inv X pins σ H s->P1 x v->s.heap.IsSliceOf sl vl vu .none->IsPart vl lo->IsPart vu hi->r x lo hi H Q ->
  ∃T id,typeLookup (.type T) "__getitem__" = pure (some (.builtin id))/\s.TypeIs v T/\wpAny (model X.prog X.w) X.A (getItem v (.ref sl)) (EP X pins σ Q) X.xe s
theorem SlR.or{r r':V->Option Int->Option Int->Hp->VK->Prop}(h:SlR X r) (h':SlR X r'):SlR X (fun x lo hi H Q=>r x lo hi H Q\/r' x lo hi H Q):=by
 intro pins s σ H x v vl vu lo hi sl Q I rx hs pl pu q
 rcases q with q|q
 ·exact h pins s σ H x v vl vu lo hi sl Q I rx hs pl pu q
 ·exact h' pins s σ H x v vl vu lo hi sl Q I rx hs pl pu q
noncomputable def tSl(r:V->Option Int->Option Int->Hp->VK->Prop) (te:TE) (tl th:TO):TE:=fun σ H Q=>te σ H fun x H1=>tl σ H1 fun l H2=>th σ H2 fun u H3=>r x l u H3 Q
theorem al5{r:V->Option Int->Option Int->Hp->VK->Prop}(hr:SlR X r) (he:PE X e te) (hl:PO X lo tl) (hu:PO X hi th):PE X (.Subscript e (.Slice lo hi none p2) pos) (tSl r te tl th):=by
 intro pins s σ H Q I h
 refine Subscript_ (thn (he pins s σ H _ I h) fun v s1 ⟨x,H1,I1,r1,q1⟩=>?_)
 refine wpAny_Slice (thn (hl pins s1 σ H1 _ I1 q1) fun vl s2 ⟨l,H2,I2,pl,q2⟩=>thn (hu pins s2 σ H2 _ I2 q2) fun vu s3 ⟨u,H3,I3,pu,q3⟩=>?_)
 rw[evalPart_none]
 refine wpAny_pure ?_
 have I4:Inv X pins σ H3 { s3 with heap:=s3.heap.push { cls:=.type "slice", data:=.fields #[vl,vu,.none] } }:=I3.kept (t':=s3.toks) fun b ob q=>Heap.get?_push_of_some _ q
 obtain⟨T,id,hT,ht,hg⟩:=hr pins { s3 with heap:=s3.heap.push { cls:=.type "slice", data:=.fields #[vl,vu,.none] } } σ H3 x v vl vu l u s3.heap.objs.size Q I4 r1 (Heap.IsSliceOf.new ..) pl pu q3
 show wpAny (model X.prog X.w) X.A (subscriptTail e (.Slice lo hi none p2) v (.ref s3.heap.objs.size)) (EP X pins σ Q) X.xe { s3 with heap:=s3.heap.push { cls:=.type "slice", data:=.fields #[vl,vu,.none] } }
 exact tail_any (ops:=[.ref s3.heap.objs.size,v]) ht hT hg (by with_unfolding_all rfl)
noncomputable def aR6(xs:List V) (lo hi:Option Int):List V:=(xs.drop (HT.sIx xs.length 0 lo)).take (HT.sIx xs.length xs.length hi - HT.sIx xs.length 0 lo)
theorem ar8(xs:List V) (lo hi:Option Int):(aR6 xs lo hi).length<=xs.length:=by
 unfold aR6
 rw[List.length_take,List.length_drop]
 omega
noncomputable def cp0(K:PySem.W.Frag):V->Option Int->Option Int->Hp->VK->Prop:=fun x lo hi H Q=>∃a xs,x=.ref a/\SqT K H a xs /\
 ¬(HT.sIx xs.length 0 lo=0/\HT.sIx xs.length xs.length hi=xs.length)/\∀p,H p=none->Q (.ref p) (upd H p (.tup (aR6 xs lo hi)))
theorem bS1:SlR X (cp0 X.K):=by
 intro pins s σ H x v vl vu lo hi sl Q I rx hs pl pu h
 obtain⟨a,xs,rfl,hx,hw,q⟩:=h
 cases rx
 obtain⟨its,r,ht,hz⟩:=I.tuple hx
 have hlen:its.toArray.size=xs.length:=by rw[List.size_toArray];exact r.length.symm
 refine⟨"tuple", _,PyProof.Rows.slot_tuple_getitem.lookup,ht.typeIs,?_⟩
 refine HT.getItem_tuple_cut ht hs pl pu (by rw[hlen];exact hw) ?_ (by rw[hlen];exact hz)
 rw[hlen]
 refine⟨.ref s.heap.objs.size,_,I.laid (t':=s.toks) (o:=.tup (aR6 xs lo hi)) (fun b ob q=>Heap.get?_push_of_some _ q) (Nat.le_refl _) ?_,rfl,q _ (I.hok.fresh (Nat.le_refl _))⟩
 exact⟨Nat.le_trans (ar8 xs lo hi) hz,_,(r.drop (HT.sIx xs.length 0 lo)).take (HT.sIx xs.length xs.length hi - HT.sIx xs.length 0 lo),ay7.new _ _⟩
noncomputable def ci0(K:PySem.W.Frag):R2:=fun x y H Q=>∃a b xs ys,x=.ref a/\y=.ref b/\SqT K H a xs/\SqT K H b ys/\xs≠[]/\xs.length+ys.length<=sizeLine /\
 (ys=[]->Q (.ref a) H)/\(ys≠[]->∀p,H p=none->Q (.ref p) (upd H p (.tup (xs++ys))))
theorem K1.nil_iff{xs:List V}{us:List Value}(r:K1 xs us):us=[]↔xs=[]:=by
 cases r with
 | nil=>simp
 | cons _ _=>simp
theorem bG8:OpR X (binaryOp .Add) (ci0 X.K):=by
 intro pins s σ H x y v u Q I rx ry h
 obtain⟨a,b,xs,ys,rfl,rfl,ha,hb,hx,hz,q1,q2⟩:=h
 cases rx
 cases ry
 obtain⟨its,r1,p1,_⟩:=I.tuple ha
 obtain⟨its2,r2,p2,_⟩:=I.tuple hb
 refine HT.cat_tup p1 p2 (fun z=>hx (r1.nil_iff.mp z)) (fun z=>⟨.ref a,H,I,rfl,q1 (r2.nil_iff.mp z)⟩) (fun z=>?_) (by rw[← r1.length,← r2.length];exact hz)
 refine⟨.ref s.heap.objs.size,_,I.laid (t':=s.toks) (o:=.tup (xs++ys)) (fun b ob q=>Heap.get?_push_of_some _ q) (Nat.le_refl _) ?_,rfl,q2 (fun w=>z (r2.nil_iff.mpr w)) _ (I.hok.fresh (Nat.le_refl _))⟩
 exact⟨by rw[List.length_append];exact hz,_,r1.append r2,ay7.new _ _⟩
end
noncomputable def ixN(n:Nat) (i:Int):Option Nat:=if 0<=i then(if i < n then some i.toNat else none) else if -(n:Int)<=i then some (i+n).toNat else none
noncomputable def atI{α:Type}(xs:List α) (i:Int):Option α:=(ixN xs.length i).bind fun j=>xs[j]?
theorem bL2{n:Nat}{i:Int}{j:Nat}(h:ixN n i=some j):seqIndex? i n=some j/\j < n/\-(n:Int)<=i/\i < n:=by
 unfold ixN at h
 by_cases h0:0<=i
 ·rw[if_pos h0]at h
  by_cases h1:i < n
  ·rw[if_pos h1]at h
   have e:i.toNat=j:=Option.some.inj h
   exact⟨by rw[seqIndex_of h0 h1,e],by omega,by omega,h1⟩
  ·rw[if_neg h1]at h;cases h
 ·rw[if_neg h0]at h
  by_cases h1:-(n:Int)<=i
  ·rw[if_pos h1]at h
   have e:(i+n).toNat=j:=Option.some.inj h
   exact⟨by rw[seqIndex_neg (by omega) h1,e],by omega,h1,by omega⟩
  ·rw[if_neg h1]at h;cases h
theorem aL4{α:Type}{xs:List α}{i:Int}{v:α}(h:atI xs i=some v):∃j,seqIndex? i xs.length=some j/\xs[j]? = some v/\j < xs.length/\-(xs.length:Int)<=i/\i < xs.length:=by
 unfold atI at h
 cases e:ixN xs.length i with
 | none=>rw[e]at h;cases h
 | some j =>
  rw[e]at h
  obtain⟨h1,h2,h3,h4⟩:=bL2 e
  exact⟨j,h1,h,h2,h3,h4⟩
theorem bN0{α:Type}{xs:List α}{j:Nat}{v:α}(h:xs[j]? = some v):atI xs (j:Int)=some v:=by
 have hj:j < xs.length:=(List.getElem?_eq_some_iff.mp h).1
 have e:ixN xs.length (j:Int)=some j:=by
  unfold ixN
  rw[if_pos (by omega),if_pos (by omega)];simp
 unfold atI;rw[e];exact h
noncomputable def ab9(b:Expr):Prop:=∀o i,subscripted b false o i=operate [o,i] (getItem o i)
noncomputable def IxR(X:Cx) (r:R2):Prop :=
 ∀(value slice:Expr) (pins:List (Addr×Obj)) (s:Shared) (σ:St) (H:Hp) (x y:V) (v u:Value) (Q:VK),Inv X pins σ H s->P1 x v->P1 y u->r x y H Q ->
  subscripted slice false v u=operate [v,u] (getItem v u)->wpAny (model X.prog X.w) X.A (subscriptTail value slice v u) (EP X pins σ Q) X.xe s
noncomputable def MtR(X:Cx) (id:String) (r:V->List V->Hp->VK->Prop):Prop :=
 ∀(pins:List (Addr×Obj)) (s:Shared) (σ:St) (H:Hp) (x:V) (xs:List V) (v:Value) (us:List Value) (Q:VK),Inv X pins σ H s->P1 x v->K1 xs us->r x xs H Q ->
  wpAny (model X.prog X.w) X.A (call (.builtin id) (v::us)) (EP X pins σ Q) X.xe s
section
variable {X:Cx}{a b:Expr}{ta tb:TE}{pos:Pos}
theorem IxR.or{r r':R2}(h:IxR X r) (h':IxR X r'):IxR X (fun x y H Q=>r x y H Q\/r' x y H Q):=by
 intro value slice pins s σ H x y v u Q I rx ry q hs
 rcases q with q|q
 ·exact h value slice pins s σ H x y v u Q I rx ry q hs
 ·exact h' value slice pins s σ H x y v u Q I rx ry q hs
theorem bs6{r:R2}(hr:IxR X r) (ha:PE X a ta) (hb:PE X b tb) (hs:ab9 b):PE X (.Subscript a b pos) (tOp r ta tb):=by
 intro pins s σ H Q I h
 exact Subscript_ (cd9 ha hb I h fun v u s2 x y H2 I2 rx ry q=>hr a b pins s2 σ H2 x y v u Q I2 rx ry q (hs _ _))
noncomputable def ch9(K:PySem.W.Frag):R2:=fun x y H Q=>∃p xs i v,x=.ref p/\y=.int i/\SqL K H p xs/\atI xs i=some v/\Q v H
noncomputable def ch7(K:PySem.W.Frag):R2:=fun x y H Q=>∃p xs i v,x=.ref p/\y=.int i/\SqT K H p xs/\atI xs i=some v/\Q v H
noncomputable def ch8:R2:=fun x y H Q=>∃z i c,x=.str z/\y=.int i/\z.length<=sizeLine/\atI z.cps.toList i=some c/\Q (.str ⟨#[c]⟩) H
theorem bd8:IxR X (ch9 X.K):=by
 intro value slice pins s σ H x y v u Q I rx ry h hs
 obtain⟨p,xs,i,z,rfl,rfl,hq,he,q⟩:=h
 cases rx
 obtain⟨t,rfl⟩:=ry
 obtain⟨its,r,pl,hz⟩:=I.list hq
 obtain⟨j,h1,h2,h3,h4,h5⟩:=aL4 he
 obtain⟨w,ew,rw'⟩:=r.get h2
 have hl:=r.length
 have hn:=ap1
 have fin:EP X pins σ Q w s:=⟨z,H,I,rw',q⟩
 by_cases h0:0<=i
 ·have hj:i.toNat=j:=by
   rw[seqIndex_of h0 h5]at h1
   exact Option.some.inj h1
  exact item_listR pl.isList h0 (by omega) (by rw[hj];simpa using ew) fin hs
 ·have hj:(i+(its.toArray.size:Int)).toNat=j:=by
   rw[seqIndex_neg (by omega) h4]at h1
   rw[List.size_toArray,← hl]
   exact Option.some.inj h1
  exact subscriptTail_builtinR (x:=w) pl.isList.typeIs slot_list_getitem.lookup
   (wpAny_getItem_list_neg (Q:=fun r s'=>r=w/\EP X pins σ Q r s') pl.isList (by omega) (by rw[List.size_toArray]<;>omega) (by omega) (by rw[hj];simpa using ew) ⟨rfl,fin⟩) hs
theorem cb4:IxR X (ch7 X.K):=by
 intro value slice pins s σ H x y v u Q I rx ry h hs
 obtain⟨p,xs,i,z,rfl,rfl,hq,he,q⟩:=h
 cases rx
 obtain⟨t,rfl⟩:=ry
 obtain⟨its,r,pl,hz⟩:=I.tuple hq
 obtain⟨j,h1,h2,h3,h4,h5⟩:=aL4 he
 obtain⟨w,ew,rw'⟩:=r.get h2
 have hl:=r.length
 have hn:=ap1
 have fin:EP X pins σ Q w s:=⟨z,H,I,rw',q⟩
 exact subscriptTail_builtinR (x:=w) pl.typeIs slot_tuple_getitem.lookup
  (getItem_tuple (j:=j) (Q:=fun r s'=>r=w/\EP X pins σ Q r s') pl (by omega) (by omega) (by rw[List.size_toArray,← hl];exact h1) (by simpa using ew) ⟨rfl,fin⟩) hs
theorem cb5:IxR X ch8:=by
 intro value slice pins s σ H x y v u Q I rx ry h hs
 obtain⟨z,i,c,rfl,rfl,hz,he,q⟩:=h
 obtain⟨t,rfl⟩:=rx
 obtain⟨t',rfl⟩:=ry
 obtain⟨j,h1,h2,h3,h4,h5⟩:=aL4 he
 have hl:z.cps.toList.length=z.length:=by simp[Str.length]
 rw[hl]at h1 h4 h5
 have hn:=ap1
 exact tail_any (typeIs_str s z t) slot_str_getitem.lookup (getItem_str (c:=c) (by
  have e1:decide (i < -(2 ^ 63:Int))=false:=decide_eq_false (by omega)
  have e2:decide (i ≥ 2 ^ 63)=false:=decide_eq_false (by omega)
  rw[e1,e2,Bool.or_false]) (by rw[h1];simpa using h2) ⟨.str ⟨#[c]⟩,H,I.tok _,⟨_,rfl⟩,q⟩) hs
noncomputable def rIx(K:PySem.W.Frag):R2:=fun x y H Q=>ch9 K x y H Q\/ch7 K x y H Q\/ch8 x y H Q
theorem bx5:IxR X (rIx X.K):=bd8.or (cb4.or cb5)
theorem ak7(lo hi:Option Int) (n:Nat):(sliceBounds lo hi none n).1=((HT.sIx n 0 lo:Nat):Int)/\(sliceBounds lo hi none n).2.1=((HT.sIx n n hi:Nat):Int)/\(sliceBounds lo hi none n).2.2=1:=by
 refine⟨?_,?_,rfl⟩
 ·cases lo with
  | none=>simp[sliceBounds,HT.sIx]
  | some i =>
   simp only[sliceBounds,HT.sIx,Option.getD_none,show(1:Int) > 0 by decide,if_true]
   by_cases h:i < 0
   ·simp only[h,if_true]<;>omega
   ·simp only[h,if_false]<;>omega
 ·cases hi with
  | none=>simp[sliceBounds,HT.sIx]
  | some i =>
   simp only[sliceBounds,HT.sIx,Option.getD_none,show(1:Int) > 0 by decide,if_true]
   by_cases h:i < 0
   ·simp only[h,if_true]<;>omega
   ·simp only[h,if_false]<;>omega
theorem az8(its:List Value) (lo hi:Option Int):slicePick its.toArray lo hi none=((its.drop (HT.sIx its.length 0 lo)).take (HT.sIx its.length its.length hi - HT.sIx its.length 0 lo)).toArray:=by
 obtain⟨h1,h2,h3⟩:=ak7 lo hi its.toArray.size
 unfold slicePick
 rw[h1,h2,h3]
 simp only[sliceRange_one,pick_run,List.size_toArray]<;>rfl
noncomputable def cp1(K:PySem.W.Frag):V->Option Int->Option Int->Hp->VK->Prop:=fun x lo hi H Q=>∃a xs,x=.ref a/\SqL K H a xs/\∀p,H p=none->Q (.ref p) (upd H p (.lst (aR6 xs lo hi)))
theorem ba7:SlR X (cp1 X.K):=by
 intro pins s σ H x v vl vu lo hi sl Q I rx hs pl pu h
 obtain⟨a,xs,rfl,hx,q⟩:=h
 cases rx
 obtain⟨its,r,ht,hz⟩:=I.list hx
 have hlen:=r.length
 refine⟨"list", _,slot_list_getitem.lookup,ht.isList.typeIs,?_⟩
 refine wpAny_getItem_list_slice ht.isList hs pl pu .none (by simp) ?_ (by rw[List.size_toArray]<;>omega)
 rw[az8,← hlen]
 refine⟨.ref s.heap.objs.size,_,I.laid (t':=s.toks) (o:=.lst (aR6 xs lo hi)) (fun b ob q=>Heap.get?_push_of_some _ q) (Nat.le_refl _) ?_,rfl,q _ (I.hok.fresh (Nat.le_refl _))⟩
 exact⟨Nat.le_trans (ar8 xs lo hi) hz,_,0,(r.drop (HT.sIx xs.length 0 lo)).take (HT.sIx xs.length xs.length hi - HT.sIx xs.length 0 lo),Heap.get?_push_size _ rfl⟩
noncomputable def ah8:V->Bool
 | .non=>true
 | .bl _=>true
 | .int _=>true
 | .str _=>true
 | _=>false
noncomputable def eqV:V->V->Bool
 | .non,.non=>true
 | .bl a,.bl b=>a==b
 | .bl a,.int b=>(if a then 1 else 0)==b
 | .int a,.bl b=>a==(if b then 1 else 0)
 | .int a,.int b=>a==b
 | .str a,.str b=>a==b
 | _,_=>false
theorem cd1{A:Around}{s:Shared}{y x:V}{u v:Value}(ry:P1 y u) (rx:P1 x v) (fy:ah8 y=true) (fx:ah8 x=true):SeqAt.EqAt A s u v (eqV y x):=by
 cases y with
 | non =>
  cases ry
  cases x with
  | non=>cases rx;exact SeqAt.EqAt.same _
  | bl b=>cases rx;exact SeqAt.EqAt.none_bool b
  | int b=>obtain⟨t,rfl⟩:=rx;exact SeqAt.EqAt.none_int b t
  | str b=>obtain⟨t,rfl⟩:=rx;exact SeqAt.EqAt.none_str b t
  | _=>exact absurd (show false=true from fx) Bool.false_ne_true
 | bl a =>
  cases ry
  cases x with
  | non=>cases rx;exact SeqAt.EqAt.bool_none a
  | bl b=>cases rx;exact SeqAt.EqAt.bool_bool a b
  | int b=>obtain⟨t,rfl⟩:=rx;exact SeqAt.EqAt.bool_int a b t
  | str b=>obtain⟨t,rfl⟩:=rx;exact SeqAt.EqAt.bool_str a b t
  | _=>exact absurd (show false=true from fx) Bool.false_ne_true
 | int a =>
  obtain⟨t',rfl⟩:=ry
  cases x with
  | non=>cases rx;exact SeqAt.EqAt.int_none a t'
  | bl b=>cases rx;exact SeqAt.EqAt.int_bool a t' b
  | int b=>obtain⟨t,rfl⟩:=rx;exact SeqAt.EqAt.int_int a t' b t
  | str b=>obtain⟨t,rfl⟩:=rx;exact SeqAt.EqAt.int_str a t' b t
  | _=>exact absurd (show false=true from fx) Bool.false_ne_true
 | str a =>
  obtain⟨t',rfl⟩:=ry
  cases x with
  | non=>cases rx;exact SeqAt.EqAt.str_none a t'
  | bl b=>cases rx;exact SeqAt.EqAt.str_bool a t' b
  | int b=>obtain⟨t,rfl⟩:=rx;exact SeqAt.EqAt.str_int a t' b t
  | str b=>obtain⟨t,rfl⟩:=rx;exact SeqAt.EqAt.str_str a t' b t
  | _=>exact absurd (show false=true from fx) Bool.false_ne_true
 | _=>exact absurd (show false=true from fy) Bool.false_ne_true
noncomputable def eqU(x:V) (u:Value):Bool:=match u with
 | .none=>eqV .non x
 | .bool b=>eqV (.bl b) x
 | .int i _=>eqV (.int i) x
 | .str z _=>eqV (.str z) x
 | _=>false
theorem bA0{x y:V}{u:Value}(r:P1 y u) (f:ah8 y=true):eqU x u=eqV y x:=by
 cases y with
 | non=>cases r;rfl
 | bl b=>cases r;rfl
 | int i=>obtain⟨t,rfl⟩:=r;rfl
 | str z=>obtain⟨t,rfl⟩:=r;rfl
 | _=>exact absurd (show false=true from f) Bool.false_ne_true
theorem an6{x:V}:∀{xs:List V}{us:List Value},K1 xs us->xs.all ah8=true->us.any (eqU x)=xs.any fun y=>eqV y x
 | _,_,.nil,_=>rfl
 | y::xs,u::us,.cons r t,f=>by
  rw[List.all_cons,Bool.and_eq_true]at f
  rw[List.any_cons,List.any_cons,bA0 r f.1,an6 t f.2]
theorem ae7{A:Around}{s:Shared}{x:V}{v:Value}(rx:P1 x v) (fx:ah8 x=true):∀{xs:List V}{us:List Value},K1 xs us->xs.all ah8=true->∀u∈us,SeqAt.EqAt A s u v (eqU x u)
 | _,_,.nil,_=>fun u hu=>by cases hu
 | y::xs,u::us,.cons r t,f=>fun u' hu=>by
  rw[List.all_cons,Bool.and_eq_true]at f
  rcases List.mem_cons.mp hu with rfl|hu
  ·rw[bA0 r f.1];exact cd1 r rx f.1 fx
  ·exact ae7 rx fx t f.2 u' hu
noncomputable def inV(x:V) (xs:List V):Bool:=xs.any fun y=>eqV y x
noncomputable def rIn(K:PySem.W.Frag) (neg:Bool):R2:=fun x y H Q=>∃p xs,y=.ref p/\(SqL K H p xs\/SqT K H p xs)/\ah8 x=true/\xs.all ah8=true/\Q (.bl (if neg then !inV x xs else inV x xs)) H
theorem bh7:OpR X (compareOp .In) (rIn X.K false):=by
 intro pins s σ H x y v u Q I rx ry h
 obtain⟨p,xs,rfl,hq,fx,fs,q⟩:=h
 cases ry
 rcases hq with hq|hq
 ·obtain⟨its,r,pl,hz⟩:=I.list hq
  refine SeqAt.in_listAt (eqU x) pl.isList (fun w hw=>ae7 rx fx r fs w (by simpa using hw)) ⟨.bl _,H,I,rfl,?_⟩
  rw[show its.toArray.any (eqU x)=its.any (eqU x) by simp,an6 r fs]
  exact q
 ·obtain⟨its,r,pl,hz⟩:=I.tuple hq
  refine SeqAt.in_tupleAt (eqU x) pl (fun w hw=>ae7 rx fx r fs w (by simpa using hw)) ⟨.bl _,H,I,rfl,?_⟩
  rw[show its.toArray.any (eqU x)=its.any (eqU x) by simp,an6 r fs]
  exact q
theorem aI5:OpR X (compareOp .NotIn) (rIn X.K true):=by
 intro pins s σ H x y v u Q I rx ry h
 obtain⟨p,xs,rfl,hq,fx,fs,q⟩:=h
 cases ry
 rcases hq with hq|hq
 ·obtain⟨its,r,pl,hz⟩:=I.list hq
  refine SeqAt.notIn_listAt (eqU x) pl.isList (fun w hw=>ae7 rx fx r fs w (by simpa using hw)) ⟨.bl _,H,I,rfl,?_⟩
  rw[show its.toArray.any (eqU x)=its.any (eqU x) by simp,an6 r fs]
  exact q
 ·obtain⟨its,r,pl,hz⟩:=I.tuple hq
  refine SeqAt.notIn_tupleAt (eqU x) pl (fun w hw=>ae7 rx fx r fs w (by simpa using hw)) ⟨.bl _,H,I,rfl,?_⟩
  rw[show its.toArray.any (eqU x)=its.any (eqU x) by simp,an6 r fs]
  exact q
theorem aL2:t8 X (.builtin "len") (fun xs H Q=>∃p ys,xs=[.ref p]/\(SqL X.K H p ys\/SqT X.K H p ys)/\Q (.int ys.length) H):=by
 intro pins s σ H xs us Q I r h
 obtain⟨p,ys,rfl,hq,q⟩:=h
 obtain⟨u,rfl,rx⟩:=ak4 r
 cases rx
 have hn:=ap1
 rcases hq with hq|hq
 ·obtain⟨its,r',pl,hz⟩:=I.list hq
  have hlen:=r'.length
  exact Calls.call_len_list pl.isList (by simp only[List.size_toArray]<;>omega) ⟨.int ys.length,H,I.tok _,⟨s.toks+1,by rw[List.size_toArray,hlen]⟩,q⟩
 ·obtain⟨its,r',pl,hz⟩:=I.tuple hq
  have hlen:=r'.length
  exact len_tuple pl (by simp only[List.size_toArray]<;>omega) ⟨.int ys.length,H,I.tok _,⟨s.toks+1,by rw[List.size_toArray,hlen]⟩,q⟩
theorem aL1:t8 X (.builtin "len") (fun xs H Q=>∃z,xs=[.str z]/\z.length<=sizeLine/\Q (.int z.length) H):=by
 intro pins s σ H xs us Q I r h
 obtain⟨z,rfl,hz,q⟩:=h
 obtain⟨u,rfl,t,rfl⟩:=ak4 r
 have hn:=ap1
 exact len_str (by omega) ⟨.int z.length,H,I.tok _,⟨_,rfl⟩,q⟩
theorem aL0:t8 X (.type "list") (fun xs H Q=>∃p ys,xs=[.ref p]/\(SqL X.K H p ys\/SqT X.K H p ys)/\∀l,H l=none->Q (.ref l) (upd H l (.lst ys))):=by
 intro pins s σ H xs us Q I r h
 obtain⟨p,ys,rfl,hq,q⟩:=h
 obtain⟨u,rfl,rx⟩:=ak4 r
 cases rx
 have fin:∀(its:List Value),K1 ys its->ys.length<=sizeLine->∀(h':Heap) (c':Nat),(∀b o',s.heap.get? b=some o'->h'.get? b=some o') ->
   h'.get? s.heap.objs.size=some { cls:=.type "list", dict:=none,data:=.seq its.toArray c',slots:=#[] }->EP X pins σ Q (.ref s.heap.objs.size) { s with heap:=h' }:=fun its r' hz h' c' kp e =>
  ⟨.ref s.heap.objs.size,_,I.laid (t':=s.toks) kp (Nat.le_refl _) (show m4 X.prog X.w _ h' _ (.lst ys) from⟨hz,its,c',r',e⟩),rfl,q _ (I.hok.fresh (Nat.le_refl _))⟩
 rcases hq with hq|hq
 ·obtain⟨its,r',pl,hz⟩:=I.list hq
  have hlen:=r'.length
  obtain⟨o,ho,hc,n,hd⟩:=pl.isList
  exact call_list_seq p (.inl rfl) ho hc hd (fun h' c' kp e=>fin its r' hz h' c' kp e) (by simp only[List.size_toArray]<;>omega)
 ·obtain⟨its,r',pl,hz⟩:=I.tuple hq
  have hlen:=r'.length
  obtain⟨o,ho,hc,n,hd⟩:=pl
  exact call_list_seq p (.inr rfl) ho hc hd (fun h' c' kp e=>fin its r' hz h' c' kp e) (by simp only[List.size_toArray]<;>omega)
theorem aB5:t8 X (.type "tuple") (fun xs H Q=>∃p ys,xs=[.ref p]/\((SqL X.K H p ys/\∀l,H l=none->Q (.ref l) (upd H l (.tup ys)))\/(SqT X.K H p ys/\Q (.ref p) H))):=by
 intro pins s σ H xs us Q I r h
 obtain⟨p,ys,rfl,h⟩:=h
 obtain⟨u,rfl,rx⟩:=ak4 r
 cases rx
 rcases h with⟨hq,q⟩|⟨hq,q⟩
 ·obtain⟨its,r',pl,hz⟩:=I.list hq
  have hlen:=r'.length
  refine call_tuple_list pl.isList (fun h' kp=>?_) (by simp only[List.size_toArray]<;>omega)
  have I1:Inv X pins σ H { s with heap:=h' }:=I.kept (t':=s.toks) kp
  have I2:Inv X pins σ (upd H h'.objs.size (.tup ys)) { s with heap:=h'.push { cls:=.type "tuple", data:=.seq its.toArray } } :=
   I1.laid (t':=s.toks) (fun b o e=>Heap.get?_push_of_some _ e) (Nat.le_refl _) (show m4 X.prog X.w _ _ _ (.tup ys) from⟨hz,its,r',ay7.new _ _⟩)
  exact⟨.ref h'.objs.size,_,I2,rfl,q _ (I1.hok.fresh (Nat.le_refl _))⟩
 ·obtain⟨its,r',pl,hz⟩:=I.tuple hq
  exact call_tuple_same pl ⟨.ref p,H,I,rfl,q⟩
noncomputable def tyV(K:PySem.W.Frag) (T:String) (x:V) (H:Hp):Prop:=match x with
 | .str _=>T = "str"
 | .int _=>T = "int"
 | .ref p=>(T = "list" /\ ∃xs,SqL K H p xs)\/(T = "tuple" /\ ∃o,K.lookup p=some o/\o.cls=.type "tuple" /\ o.dict=none) \/
   (T = "dict" /\ ((∃kvs,H p=some (.dK kvs))\/∃kvs,H p=some (.dT kvs)))\/(T = "set" /\ ∃S n,H p=some (.set S n))
 | _=>False
theorem bR1{pins:List (Addr×Obj)}{σ:St}{H:Hp}{s:Shared}{T:String}{x:V}{v:Value}(I:Inv X pins σ H s) (r:P1 x v) (ty:tyV X.K T x H) :
  s.TypeIs v T/\∀a,v=.ref a->∃ob,s.heap.get? a=some ob/\ob.dict=none:=by
 cases x with
 | str z =>
  obtain⟨t,rfl⟩:=r
  cases(show T = "str" from ty)
  exact⟨typeIs_str s z t,fun _ e=>nomatch e⟩
 | int i =>
  obtain⟨t,rfl⟩:=r
  cases(show T = "int" from ty)
  exact⟨typeIs_int s i t,fun _ e=>nomatch e⟩
 | ref p =>
  cases r
  rcases ty with⟨rfl,xs,hq⟩|⟨rfl,o,hk,hc,hd⟩|⟨rfl,hk⟩|⟨rfl,S,n,hk⟩
  ·obtain⟨its,_,pl,_⟩:=I.list hq
   refine⟨pl.isList.typeIs,fun a e=>?_⟩
   cases e
   obtain⟨o,n,e,c,hd,_⟩:=pl
   exact⟨o,e,hd⟩
  ·refine⟨⟨o,I.kIn p o hk,hc⟩,fun a e=>?_⟩
   cases e
   exact⟨o,I.kIn _ o hk,hd⟩
  ·have z:∃o,s.heap.get? p=some o/\o.ExactDict:=by
    rcases hk with⟨kvs,hk⟩|⟨kvs,hk⟩
    ·obtain⟨_,_,_,_,o,_,_,e,ex,_⟩:=I.hok p _ hk
     exact⟨o,e,ex⟩
    ·obtain⟨_,_,_,_,o,_,_,e,ex,_⟩:=I.hok p _ hk
     exact⟨o,e,ex⟩
   obtain⟨o,e,ex⟩:=z
   refine⟨⟨o,e,ex.1⟩,fun a e2=>?_⟩
   cases e2
   exact⟨o,e,ex.2.1⟩
  ·obtain⟨o,_,_,_,e,ex,_⟩:=I.hok p _ hk
   refine⟨⟨o,e,ex.1⟩,fun a e2=>?_⟩
   cases e2
   exact⟨o,e,ex.2.1⟩
 | _=>exact False.elim ty
noncomputable def tBM(K:PySem.W.Frag) (T:String) (r:V->List V->Hp->VK->Prop) (to:TE) (t:TA):TE:=fun σ H Q=>to σ H fun x H1=>tyV K T x H1/\t σ H1 fun xs H2=>r x xs H2 Q
variable {o e:Expr}{es:List Expr}{to:TE}{t:TA}{name:Str}{apos cpos:Pos}{T id:String}{r:V->List V->Hp->VK->Prop}
theorem bc1(pa:PlainAttrs T) (slot:Slot T name id) (hty:typeOf (.builtin id)=pure (.type "method_descriptor")) (hm:MtR X id r) (ho:PE X o to) (ha:PA X (e::es) t)
  (hbase:attributeBase o name X.env (eval o X.env)=eval o X.env:=by rfl)
  (hfew:((backTo cpos (starEach (e::es) X.env)).all (fun x=>!x.1)&&(backToKw cpos (keywordEach [] X.env)).all (fun x=>x.1.isSome)
   && decide ((e::es).length+([]:List Keyword).length+(if([]:List Keyword).isEmpty then 0 else 1) < 30))=true:=by rfl)
  (hline:(apos.endLine==cpos.line)=true:=by rfl) (hs:starEach (e::es) X.env=(false,eval e X.env)::starEach es X.env:=by rfl) (hplain:(backTo cpos (starEach es X.env)).any (·.1)=false:=by rfl) :
  PE X (.Call (.Attribute o name apos) (e::es) [] cpos) (tBM X.K T r to t):=by
 intro pins s σ H Q I h
 refine wpAny_Call_method_late hbase hfew hline rfl (thn (ho pins s σ H _ I h) fun v s1 ⟨x,H1,I1,r1,ty,q1⟩=>?_)
 obtain⟨h1,h2⟩:=bR1 I1 r1 ty
 refine⟨T,id,pa,slot,hty,h1,h2,?_⟩
 have hA:=ha cpos pins s1 σ H1 _ I1 q1
 rw[hs]at hA ⊢
 refine Calls.callWith_builtin (by show(false || (backTo cpos (starEach es X.env)).any (·.1))=false;rw[hplain]<;>rfl) (Calls.evalArgs_plain ?_)
 exact thn hA fun us s2 ⟨vs,H2,I2,r2,q2⟩=>hm pins s2 σ H2 x vs v us Q I2 r1 r2 q2
end
noncomputable def MtM(X:Cx) (id:String) (r:V->List V->Hp->VK->Prop):Prop :=
 ∀(pins:List (Addr×Obj)) (s:Shared) (σ:St) (H:Hp) (x:V) (xs:List V) (v:Value) (us:List Value) (Q:VK),Inv X pins σ H s->P1 x v->K1 xs us->r x xs H Q ->
  wpAny (model X.prog X.w) X.A (call (.builtin id) (v::us)) (EP X pins σ Q) X.xe s
theorem K1.one:∀{x:V}{us:List Value},K1 [x] us->∃u,us=[u]/\P1 x u
 | _,_,.cons r .nil=>⟨_,rfl,r⟩
theorem K1.rep{xs:List V}{us:List Value}(h:K1 xs us):∀k:Nat,K1 (List.replicate k xs).flatten (List.replicate k us).flatten
 | 0=>.nil
 | k+1=>by
  rw[List.replicate_succ,List.replicate_succ,List.flatten_cons,List.flatten_cons]
  exact K1.append h (K1.rep h k)
theorem aE5(its:List Value):∀(k:Nat) (acc:List Value),
  List.foldl (fun x1 x2=>x1++x2) acc.toArray (List.replicate k its.toArray)=(acc++(List.replicate k its).flatten).toArray
 | 0,acc=>by simp
 | k+1,acc=>by
  have e:acc.toArray++its.toArray=(acc++its).toArray:=by simp
  have e2:(acc++its)++(List.replicate k its).flatten=acc++(List.replicate (k+1) its).flatten:=by rw[List.replicate_succ,List.flatten_cons,List.append_assoc]
  rw[← e2,← aE5 its k (acc++its),← e,List.replicate_succ,List.foldl_cons]
section
variable {X:Cx}{pins:List (Addr×Obj)}{σ:St}{H:Hp}{s:Shared}{l b:Addr}{xs ys zs:List V}
theorem Inv.lset{its its':List Value}{n:Nat}{f:Array Value->Array Value}{t':Nat}(I:Inv X pins σ H s) (hH:H l=some (.lst xs))
  (e:s.heap.get? l=some { cls:=.type "list", data:=.seq its.toArray n }) (hf:f its.toArray=its'.toArray) (hv:K1 ys its') (hz:ys.length<=sizeLine) :
  Inv X pins σ (upd H l (.lst ys)) { s with heap:=s.heap.update l (Obj.mapSeq f),toks:=t' }:=by
 have q:=PySem.IsL.update e f
 rw[hf]at q
 refine I.write (x:=l) (e:=l) (by rw[hH];exact trivial) (.inl rfl) (fun b' u hb hu=>(Heap.get?_update_other s.heap (Obj.mapSeq f) (Ne.symm hb)).trans hu) ⟨_,q⟩ ?_
 exact⟨hz,its',_,hv,q⟩
theorem Inv.lnew{its:List Value}{t':Nat}(I:Inv X pins σ H s) (hv:K1 ys its) (hz:ys.length<=sizeLine) :
  Inv X pins σ (upd H s.heap.objs.size (.lst ys)) { s with heap:=s.heap.push { cls:=.type "list", data:=.seq its.toArray },toks:=t' } :=
 I.laid (fun _ _ q=>Heap.get?_push_of_some _ q) (Nat.le_refl _) ⟨hz,its,0,hv,Heap.get?_push_size _ rfl⟩
theorem Inv.fresh(I:Inv X pins σ H s):H s.heap.objs.size=none:=I.hok.fresh (Nat.le_refl _)
theorem Inv.lstM(I:Inv X pins σ H s) (hH:H l=some (.lst xs)):xs.length<=sizeLine/\∃(its:List Value) (n:Nat),K1 xs its/\xs.length=its.length/\s.heap.get? l=some { cls:=.type "list", data:=.seq its.toArray n }:=by
 obtain⟨z,its,n,r,e⟩:=I.hok l _ hH
 exact⟨z,its,n,r,r.length,e⟩
theorem ae3{n:Nat}(h:n<=sizeLine):Builtin.List.listTooLong n=false:=by
 unfold Builtin.List.listTooLong
 exact decide_eq_false (by omega)
end
section
variable {X:Cx}
noncomputable def bE6:V->List V->Hp->VK->Prop:=fun x vs H Q=>∃l xs y,x=.ref l/\vs=[y]/\H l=some (.lst xs)/\xs.length < sizeLine/\Q .non (upd H l (.lst (xs++[y])))
theorem aE0:MtM X "list.append" bE6:=by
 intro pins s σ H x vs v us Q I rx rv h
 obtain⟨l,xs,y,rfl,rfl,hH,hz,q⟩:=h
 cases rx
 obtain⟨u,rfl,ru⟩:=rv.one
 obtain⟨z,its,n,r,hl,e⟩:=I.lstM hH
 refine call_meets F.slot_list_append ⟨_,e,rfl⟩ F.entry_list_append (F.args_list_append_2 _ _) (PySem.list_append l its.toArray n u (by rw[List.size_toArray];omega)) ⟨e,?_⟩
 refine⟨.non,_,I.lset (its':=its++[u]) hH e (by simp) (r.append (.cons ru .nil)) ?_,rfl,q⟩
 rw[List.length_append,List.length_singleton]
 omega
theorem aJ1{α:Type}(xs:List α) (k:Nat):(List.replicate k xs).flatten.length=k*xs.length:=by
 induction k with
 | zero=>simp
 | succ k ih=>rw[List.replicate_succ,List.flatten_cons,List.length_append,ih,Nat.succ_mul,Nat.add_comm]
end
section
variable {prog:Program}{w:World}{A:Around}{E:Value->Shared->Prop}{s:Shared}
theorem bg9(its its2:List Value) (a c:Nat):its.toArray.extract 0 a++its2.toArray++its.toArray.extract c its.toArray.size=(its.take a++its2++its.drop c).toArray:=by
  apply Array.toList_inj.mp
  first
    | (simp
       exact List.take_of_length_le (by simp))
    | simp[List.take_of_length_le]
    | simp
set_option maxRecDepth 100000 in
end
section
variable {X:Cx}
end
end L2
namespace Att
open PySem PySem.W PySem.Calls PyProof.Rows
theorem at0{P:Params}{h:Heap}:∀(ns:List Int) (vs:List Value),WellAll P h vs (ns.map WData.int)->IntsAre vs ns:=by
 intro ns
 induction ns with
 | nil =>
  intro vs w
  rw[List.map_nil]at w
  cases w
  exact .nil
 | cons n ns ih =>
  intro vs w
  rw[List.map_cons]at w
  cases w with
  | cons a b =>
   cases a
   exact .cons _ _ (ih _ b)
theorem bh2{l:OpenLaw}{n:Nat}(hn:l.most=some n) {P:Params}{h:Heap}{args:List WData}{vals:List Value}
  (hpre:l.row.toRowW.claim.pre args=true) (hwl:WellAll P h vals args) :
  ∃a vs ns,vals=[Value.ref a]/\args=[WData.list (ns.map WData.int)]/\h.get? a=some { cls:=.type "list", data:=.seq vs.toArray }/\IntsAre vs ns/\ns.length<=n:=by
 have hsh:WShape.hasAll [] args [.list .int]=true:=(pre_splitW hpre).1
 have hc:l.pre.holds [] { args:=args }=true:=(pre_splitW hpre).2
 obtain⟨d,r,rfl,h1,h2⟩:=hasAllW_cons hsh
 obtain rfl:=hasAllW_nil h2
 obtain⟨xs,rfl,h3⟩:=hasW_list h1
 obtain⟨ns,rfl⟩:=items_int h3
 have hlen:ns.length<=n:=by
  unfold OpenLaw.pre at hc
  have h4:(WTm.not (.lt (.lit (.int (n:Int))) (.len (.arg 0)))).holds [] { args:=[.list (ns.map .int)] }=true:=by
   have h4:=(holds_andW hc).1
   rw[hn]at h4
   exact h4
  have h5:=condW_of h4 (w_not (w_lt w_lit (w_len_list (w_arg rfl))))
  rw[List.length_map]at h5
  refine Nat.le_of_not_lt fun q=>?_
  have q':(n:Int) < ((ns.length:Nat):Int):=by omega
  first
   | (rw[decide_eq_true q']at h5;exact absurd h5 (by decide))
   | (simp at h5;omega)
 cases hwl with
 | cons w1 w2 =>
  cases w2
  cases w1 with
  | list ho hall=>exact⟨_,_,ns,rfl,rfl,ho,at0 ns _ hall,hlen⟩
theorem bh4(l:OpenLaw) (args:List WData):l.row.toRowW.claim.post args (.bool true) args=true :=
 postW_of (r:=l.row.toRowW) (X:=(true==true))
  (show WShape.has [] (.bool true) .bool=true by first|rfl|decide|simp[WShape.has,WShape.arms,WShape.armsAll])
  (show(WTm.eq .res (.lit (.bool true))).value [] { args:=args,res:=some (.bool true),after:=args }=some (.bool (true==true)) from w_eq_bool (w_res rfl) w_lit) rfl
theorem attach_call{l:OpenLaw}{n:Nat}{q:Program}{loose:List Str}{XP:(Str->Option Value)->Heap->Prop}{YP:World->Heap->Prop}{d:DefRec}
  (hn:l.most=some n) (hdf:d.params.defaults=[])
  (call:∀(w:World) (s₀ s₁:Shared) (mg mb:Str->Option Value) (fa:Addr) (o:Obj) (pm cd doc:Value) (a:Addr) (vs:List Value) (ns:List Int),
   Ground q loose [] XP w s₀ mg mb s₁.heap->YP w s₁.heap ->
   s₁.heap.get? fa=some o->o.data=.func (docDef d.name d.params d.body d.scope pm cd doc)->s₁.heap.CodeRec cd d.name->mg d.name=some (.ref fa) ->
   s₁.heap.get? a=some { cls:=.type "list", data:=.seq vs.toArray }->IntsAre vs ns->ns.length<=n->s₁.gens = #[] ->
   codeAny (model l.prog w) callerA (.call (.ref fa) ⟨[.ref a],[]⟩) (fun r s'=>r=.ok (.ret (.bool true))/\OldK s₁.heap s'.heap/\s'.os=s₁.os/\AllBare s'.gens) s₁) :
  WalkO q loose XP YP l.row.toRowW d [] (fun f vs=>PySem.call f vs):=by
 intro w s₀ s₁ mg mb G Y fa o pm cd doc dV kV ho hd hcd hD hmg hg args vals as hpre hlay hrd hwl hlo
 obtain rfl:dV=.none:=Dflts.none hD hdf
 obtain rfl:kV=.none:=Dflts.noKw hD
 obtain⟨a,vs,ns,rfl,rfl,hobj,hints,hlen⟩:=bh2 hn hpre hwl
 refine enter_call (codeAny_mono (call w s₀ s₁ mg mb fa o pm cd doc a vs ns G Y ho (fd_plain hd) hcd hmg hobj hints hlen hg) fun r s' hq=>?_)
 obtain⟨rfl,h2,h3,h4⟩:=hq
 exact⟨.inl ⟨.bool true,.bool true,[],rfl,fun _=>rfl,.bool true,bh4 l _,fun _=>⟨List.Pairwise.nil,fun _ hm=>(nomatch hm)⟩⟩,h2,h3,h4⟩
section
variable {prog:Program}{w:World}{A:Around}{E:Value->Shared->Prop}{s:Shared}{K:Frag}
end
end Att
namespace L2
open PySem PySem.Spec PyProof.Rows
theorem aC7:∀{vs:List Value}{ns:List Int},IntsAre vs ns->K1 (ns.map V.int) vs
 | _,_,.nil=>.nil
 | _,_,.cons n t h=>.cons ⟨t,rfl⟩ (aC7 h)
noncomputable def ce7(H:Hp):Prop:=∀b,H b=none\/∃o xs,H b=some (.frz o (.lst xs))
theorem bv1{P:Program}{w:World}{K:PySem.W.Frag}{mg mb:Str->Option Value}{CX:CXT}{k:Nat}{fa a:Addr}{fd:FuncData}{x:Str}{sp:Sp}{s₁:Shared}{vs:List Value}{ns:List Int}
  (KX:K.In s₁.heap) (hns:s₁.heap.Ns mainGlobals mg) (hb:s₁.heap.Ns builtinsNs mb) (hbb:∀x:Str,x ≠ "__name__" -> mb x=bootBuiltins x) (hlim:s₁.heap.NoLimit) (hg:s₁.gens = #[])
  (ha:s₁.heap.get? a=some { cls:=.type "list", data:=.seq vs.toArray }) (hi:IntsAre vs ns) (hl:ns.length<=sizeLine) (hr:Room k callerA)
  (F:∀base:Heap,K.In base->base.Ns mainGlobals mg->FnOk P w K mg base CX k fa fd [x] sp) (hbind:∀(s:Shared) (u:Value),BindsTo s fd ⟨[u],[]⟩ [(x,u)])
  (hsp:∀H:Hp,ce7 H->SqL K H a (ns.map V.int)->sp [.ref a] H (fun v _=>v=.bl true) fun _ _ _=>False)
  (hCX:∀H e s',CX [] H s₁ (fun _ _ _=>False) e s'->False) :
  codeAny (model P w) callerA (.call (.ref fa) ⟨[.ref a],[]⟩) (fun r s'=>r=.ok (.ret (.bool true))/\OldK s₁.heap s'.heap/\s'.os=s₁.os/\AllBare s'.gens) s₁:=by
 have rv:=aC7 hi
 have lenV:=hi.length
 have core:∀H:Hp,ce7 H->SqL K H a (ns.map V.int)->HOk P w H s₁.heap->(∀b,H b≠none->b=a)->(H a≠none->K.lookup a=none) ->
   codeAny (model P w) callerA (.call (.ref fa) ⟨[.ref a],[]⟩) (fun r s'=>r=.ok (.ret (.bool true))/\OldK s₁.heap s'.heap/\s'.os=s₁.os/\AllBare s'.gens) s₁:=by
  intro H hO hS hok hA hK
  have base_of:∀{b:Addr}{o:Obj},s₁.heap.get? b=some o->H b=none->(aJ8 s₁.heap H).get? b=some o:=fun e n=>by4 e n
  have noA:∀{b:Addr}{o:Obj}{es:Array DictEntry}{ep:Nat},s₁.heap.get? b=some o->o.data=.dict es ep->H b=none:=fun{b o es ep} e d=>by
   cases q:H b with
   | none=>rfl
   | some u =>
    have e':b=a:=hA b (by rw[q];simp)
    subst e'
    rw[ha]at e;cases e
    have d':Data.seq vs.toArray _=Data.dict es ep:=d
    cases d'
  have nsK:∀{b:Addr}{m:Str->Option Value},s₁.heap.Ns b m->(aJ8 s₁.heap H).Ns b m:=fun{b m} ⟨o,es,ep,e,d,r⟩=>⟨o,es,ep,base_of e (noA e d),d,r⟩
  have hKb:K.In (aJ8 s₁.heap H):=fun b o e=>base_of (KX b o e) (by
   cases q:H b with
   | none=>rfl
   | some u =>
    have e':b=a:=hA b (by rw[q];simp)
    subst e'
    rw[hK (by rw[q];simp)]at e;cases e)
  have hM:Mod K mg (aJ8 s₁.heap H):=⟨hKb,nsK hns,⟨mb,nsK hb,hbb⟩,let⟨mc,h1,h2⟩:=hlim;⟨mc,nsK h1,h2⟩⟩
  have e0:Env0 P w K mg (aJ8 s₁.heap H) callerA [] s₁ H:=⟨rfl,hM,fun b o e=>bH1 e,Nat.le_of_eq (bj4 _ _),trivial,fun b hb=>absurd (show b∈([]:List Addr) from hb) (by simp),hok,.of_eq hg⟩
  refine codeAny_mono ((F _ hKb (nsK hns)).run callerA [] s₁ H ⟨[.ref a],[]⟩ [.ref a] [.ref a] _ _ hr e0 (hbind s₁ (.ref a)) (.cons rfl .nil) (hsp H hO hS)) fun r s' h=>?_
  cases r with
  | error e=>exact(hCX H e s' h).elim
  | ok fl =>
   cases fl with
   | next=>exact False.elim h
   | brk=>exact False.elim h
   | cont=>exact False.elim h
   | ret u =>
    obtain⟨v,H',os,bare,un,hok',r',q⟩:=h
    have q':v=.bl true:=q
    subst q'
    obtain rfl:u=Value.bool true:=r'
    refine⟨rfl,OldK.of_keep fun b o e=>?_,os,bare⟩
    cases q:H b with
    | none=>exact un.keep b o e q (by intro z;exact absurd (show b∈([]:List Addr) from z) (by simp)) (by simp)
    | some u =>
     rcases hO b with z|⟨ob,xs,z⟩
     ·rw[q]at z;cases z
     ·have z2:=un.frzs b ob _ z
      obtain⟨e1,_⟩:=hok b _ z
      obtain⟨e2,_⟩:=hok' b _ z2
      rw[e]at e1;cases e1
      exact e2
 cases hk:K.lookup a with
 | some o =>
  have e:=KX a o hk
  rw[ha]at e
  cases e
  refine core (fun _=>none) (fun _=>.inl rfl) (.inr ⟨_,vs.toArray,_,hk,rfl,rfl,rfl,by rw[List.size_toArray,lenV];exact hl,by simpa using rv⟩) (fun b u z=>by have z':(none:Option HO)=some u:=z;cases z') (fun b z=>absurd rfl z) fun z=>absurd rfl z
 | none =>
  refine core (fun b=>if b=a then some (.frz { cls:=.type "list", data:=.seq vs.toArray } (.lst (ns.map V.int))) else none) (fun b=>?_) (.inl (.inr ⟨{ cls:=.type "list", data:=.seq vs.toArray },if_pos rfl⟩)) (fun b u z=>?_) (fun b z=>?_) fun _=>hk
  ·by_cases hb:b=a
   ·exact .inr ⟨_,_,if_pos hb⟩
   ·exact .inl (if_neg hb)
  ·by_cases hb:b=a
   ·have z':=(if_pos hb).symm.trans z
    cases z'
    subst hb
    exact⟨ha,by rw[List.length_map];exact hl,vs,_,rv,ha⟩
   ·have z':=(if_neg hb).symm.trans z
    cases z'
  ·by_cases hb:b=a
   ·exact hb
   ·exact absurd (if_neg hb) z
theorem bD2{l:PySem.W.OpenLaw}{n k:Nat}{q:Program}{loose:List Str}{XP:(Str->Option Value)->Heap->Prop}{YP:World->Heap->Prop}{d:DefRec}{K:Params->PySem.W.Frag}{CX:World->CXT}{sp:World->Sp}{x:Str}
  (hn:l.most=some n) (hn2:n<=sizeLine) (hdf:d.params.defaults=[]) (hr:Room k callerA)
  (hY:∀(w:World) (h:Heap),YP w h->(K w.params).In h)
  (F:∀(w:World) (mg:Str->Option Value) (fa:Addr) (h:Heap),(K w.params).In h->h.Ns mainGlobals mg->mg d.name=some (.ref fa) ->
   ∃fd:FuncData,(∀(s:Shared) (u:Value),BindsTo s fd ⟨[u],[]⟩ [(x,u)]) /\
    ∀base:Heap,(K w.params).In base->base.Ns mainGlobals mg->FnOk l.prog w (K w.params) mg base (CX w) k fa fd [x] (sp w))
  (hsp:∀(w:World) (H:Hp) (a:Addr) (ns:List Int),ns.length<=n->ce7 H->SqL (K w.params) H a (ns.map V.int)->sp w [.ref a] H (fun v _=>v=.bl true) fun _ _ _=>False)
  (hCX:∀(w:World) (H:Hp) (s:Shared) (e:Value) (s':Shared),CX w [] H s (fun _ _ _=>False) e s'->False) :
  PySem.W.WalkO q loose XP YP l.row.toRowW d [] (fun f vs=>PySem.call f vs):=by
 refine Att.attach_call hn hdf fun w s₀ s₁ mg mb fa o pm cd doc a vs ns G Y ho hd hcd hmg hobj hints hlen hg=>?_
 have KX:=hY w _ Y
 obtain⟨fd,hb,hF⟩:=F w mg fa _ KX G.T.g hmg
 exact bv1 KX G.T.g G.T.b G.T.builtins G.T.nolimit hg hobj hints (Nat.le_trans hlen hn2) hr hF hb (fun H hO hS=>hsp w H a ns hlen hO hS) fun H e s'=>hCX w H s₁ e s'
noncomputable def i8(s:Stmt):Arguments:=match s with
 | .FunctionDef _ a _ _ _ _ _ _ _ _=>a
 | _=>{ posonlyargs:=[],args:=[],vararg:=none,kwonlyargs:=[],kw_defaults:=[],kwarg:=none,defaults:=[] }
noncomputable def S7(s:Stmt):List Stmt:=match s with
 | .FunctionDef _ _ b _ _ _ _ _ _ _=>b
 | _=>[]
noncomputable def K8(s:Stmt):Scope:=match s with
 | .FunctionDef _ _ _ _ _ _ sc _ _ _=>sc
 | _=>{ kind:=.function,names:=[],isGenerator:=false,isCoroutine:=false }
noncomputable abbrev CX0:CXT:=fun _ _ _ _ _ _=>False
noncomputable abbrev E0:XK:=fun _ _ _=>False
theorem bs9{X:Cx}:aL7 CX0 X E0:=fun _ _ _ _ _ _ _ h=>h.elim
structure Fun (K:PySem.W.Frag) (x qual:Str) (st:Stmt) (f:Addr) (fd:FuncData):Prop where
 ex:∃(oc:Value) (od:Option Addr) (kV doc pm:Value) (an:Option Addr) (cdv ct:Value) (osl:Array (Option Value)),
  fd=PySem.W.fnOf x qual (i8 st) (S7 st) (K8 st) .none kV doc pm an cdv ct/\K.lookup f=some ⟨oc,od,.func fd,osl⟩/\PySem.W.codeIn K cdv qual=true
 kp:PySem.W.keepIn K (.ref f)=true
section
variable {P:Program}{w:World}{K:PySem.W.Frag}{mg:Str->Option Value}{base:Heap}
theorem Fun.ok{x qual:Str}{st:Stmt}{f:Addr}{fd:FuncData}{N ps:List Str}{k:Nat}{sp:Sp}(F:Fun K x qual st f fd) (S:FnScope N ps (K8 st)) (len:∀vs H Q E,sp vs H Q E->vs.length=ps.length)
  (hbody:∀(cdv:Value) (A:Around) (outer:List Env) (s:Shared) (H:Hp) (vs:List V) (Q:VK) (E:XK),Room k (A.deeper (envOfC qual (K8 st) s.heap.objs.size f cdv))->sp vs H Q E ->
   ∃t,PSs (aR5 CX0 P w K mg base N qual (K8 st) f cdv A outer s H E).nox (S7 st) t/\t { nx:=fun _ H'=>Q .non H',rt:=Q } (o6 N vs) H):FnOk P w K mg base CX0 (k+1) f fd ps sp:=by
 obtain⟨oc,od,kV,doc,pm,an,cdv,ct,osl,rfl,lk,hcd⟩:=F.ex
 refine aE6 lk hcd S len fun A outer s H vs Q E hr hsp=>?_
 obtain⟨t,h,q⟩:=hbody cdv A outer s H vs Q E hr hsp
 exact⟨t,h.nox,q⟩
theorem cc4{x qual:Str}{st:Stmt}{f:Addr}{oc:Value}{od an:Option Addr}{osl:Array (Option Value)}{kV doc pm cdv ct:Value}(l:K.lookup f=some ⟨oc,od,.func (PySem.W.fnOf x qual (i8 st) (S7 st) (K8 st) .none kV doc pm an cdv ct),osl⟩)
  (c:PySem.W.codeIn K cdv qual=true) (k:PySem.W.keepIn K (.ref f)=true):Fun K x qual st f (PySem.W.fnOf x qual (i8 st) (S7 st) (K8 st) .none kV doc pm an cdv ct):=⟨⟨oc,od,kV,doc,pm,an,cdv,ct,osl,rfl,l,c⟩,k⟩
end
theorem ao1{n:Nat}(h:n<=1000):n < sizeLine:=Nat.lt_of_le_of_lt h (by decide)
section
variable {X:Cx}
theorem pv(i:Nat) {x:Str}{pos:Pos}(hN:X.N[i]? = some x:=by rfl) (hv:Vis X.env.scope x:=by first|exact Or.inl rfl|exact Or.inr (Or.inl rfl)|exact Or.inr (Or.inr rfl)) (hd:(x==("__debug__" : Str))=false:=by decide)
  (hcd:(x==("__classdict__" : Str))=false:=by decide):PE X (.Name x pos) (cg4 i):=ai4 hN hv hd hcd
end
theorem aA2{A B:Prop}(h:B):if false=true then A else B:=by
 rw[if_neg Bool.false_ne_true]
 exact h
theorem aA1{A B:Prop}(h:A):if true=true then A else B:=by
 rw[if_pos rfl]
 exact h
noncomputable def G1(H H':Hp):Prop:=∀b o,H b=some o->H' b=some o
theorem G1.refl(H:Hp):G1 H H:=fun _ _ h=>h
theorem G1.trans{H H1 H2:Hp}(a:G1 H H1) (b:G1 H1 H2):G1 H H2:=fun c o h=>b c o (a c o h)
theorem G1.free{H H':Hp}(e:G1 H H') {l:Addr}(h:H' l=Option.none):H l=Option.none:=by
 cases q:H l with
 | none=>rfl
 | some o =>
  rw[e l o q]at h
  cases h
end L2
set_option maxHeartbeats 4000000
namespace G
theorem xbm{α β:Type}{o:Option α}{f:α->Option β}{b:β}(h:o.bind f=some b):∃a,o=some a/\f a=some b:=xbo h
open PySem PySem.Spec PyProof.Rows L2
noncomputable abbrev D:=PyData
mutual
noncomputable def Rep(K:PySem.W.Frag) (H:Hp):D->V->Prop
 | .none,v=>v=.non
 | .bool b,v=>v=.bl b
 | .int i,v=>v=.int i
 | .str x,v=>v=.str x
 | .tuple ds,v=>∃a vs,v=.ref a/\SqT K H a vs/\Reps K H ds vs
 | .list ds,v=>∃a vs,v=.ref a/\SqL K H a vs/\Reps K H ds vs
 | .dict _,_=>False
noncomputable def Reps(K:PySem.W.Frag) (H:Hp):List D->List V->Prop
 | [],vs=>vs=[]
 | d::ds,vs=>∃v r,vs=v::r/\Rep K H d v/\Reps K H ds r
end
section
variable {K:PySem.W.Frag}{H H' H0 H1 H2 Hf Hf' Hf1 Hf2:Hp}
theorem ba9{a:Addr}{u:HO}(e:G1 H H') (h:Rd H a u):Rd H' a u:=by
 rcases h with h|⟨o,h⟩
 ·exact .inl (e _ _ h)
 ·exact .inr ⟨o,e _ _ h⟩
theorem E3{a:Addr}{xs:List V}(e:G1 H H') (h:SqT K H a xs):SqT K H' a xs:=h.imp (ba9 e) id
theorem M3{a:Addr}{xs:List V}(e:G1 H H') (h:SqL K H a xs):SqL K H' a xs:=h.imp (ba9 e) id
mutual
theorem Rep.mono(e:G1 H H'):∀{d:D}{v:V},Rep K H d v->Rep K H' d v
 | .none,_,h=>h
 | .bool _,_,h=>h
 | .int _,_,h=>h
 | .str _,_,h=>h
 | .tuple _,_,⟨a,vs,h1,h2,h3⟩=>⟨a,vs,h1,E3 e h2,Reps.mono e h3⟩
 | .list _,_,⟨a,vs,h1,h2,h3⟩=>⟨a,vs,h1,M3 e h2,Reps.mono e h3⟩
 | .dict _,_,h=>h
theorem Reps.mono(e:G1 H H'):∀{ds:List D}{vs:List V},Reps K H ds vs->Reps K H' ds vs
 | [],_,h=>h
 | _::_,_,⟨v,r,h1,h2,h3⟩=>⟨v,r,h1,Rep.mono e h2,Reps.mono e h3⟩
end
theorem Reps.length:∀{ds:List D}{vs:List V},Reps K H ds vs->vs.length=ds.length
 | [],_,h=>by cases h;rfl
 | _::_,_,⟨v,r,h1,h2,h3⟩=>by subst h1;simp[Reps.length h3]
theorem Reps.get:∀{ds:List D}{vs:List V}{i:Nat}{d:D},Reps K H ds vs->ds[i]? = some d->∃v,vs[i]? = some v/\Rep K H d v
 | [],_,_,_,_,e=>by simp at e
 | x::_,_,0,_,⟨v,r,h1,h2,h3⟩,e=>by subst h1;simp at e;subst e;exact⟨v,rfl,h2⟩
 | x::_,_,i+1,_,⟨v,r,h1,h2,h3⟩,e=>by
  subst h1
  obtain⟨u,q1,q2⟩:=Reps.get (i:=i) h3 (by simpa using e)
  exact⟨u,by simpa using q1,q2⟩
theorem Reps.append:∀{ds es:List D}{vs us:List V},Reps K H ds vs->Reps K H es us->Reps K H (ds++es) (vs++us)
 | [],_,_,_,h,q=>by cases h;exact q
 | _::_,_,_,_,⟨v,r,h1,h2,h3⟩,q=>by subst h1;exact⟨v,r++_,rfl,h2,Reps.append h3 q⟩
theorem Reps.take:∀{ds:List D}{vs:List V}(n:Nat),Reps K H ds vs->Reps K H (ds.take n) (vs.take n)
 | [],_,n,h=>by cases h;simp[Reps]
 | _::_,_,0,h=>by simp[Reps]
 | _::_,_,n+1,⟨v,r,h1,h2,h3⟩=>by subst h1;exact⟨v,r.take n,rfl,h2,Reps.take n h3⟩
theorem Reps.drop:∀{ds:List D}{vs:List V}(n:Nat),Reps K H ds vs->Reps K H (ds.drop n) (vs.drop n)
 | [],_,n,h=>by cases h;simp[Reps]
 | _::_,_,0,h=>h
 | _::_,_,n+1,⟨v,r,h1,h2,h3⟩=>by subst h1;exact Reps.drop n h3
theorem Reps.ints:∀(ns:List Int),Reps K H (ns.map PyData.int) (ns.map V.int)
 | []=>rfl
 | n::r=>⟨.int n,r.map V.int,rfl,rfl,Reps.ints r⟩
theorem Reps.flatten{ds:List D}{vs:List V}(h:Reps K H ds vs):∀k:Nat,Reps K H (List.replicate k ds).flatten (List.replicate k vs).flatten
 | 0=>rfl
 | k+1=>by simp only[List.replicate_succ,List.flatten_cons];exact h.append (Reps.flatten h k)
structure Grow (H Hf H' Hf':Hp):Prop where
 big:G1 H H'
 sub:G1 Hf' H'
 ext:G1 Hf Hf'
 new:∀b,Hf' b≠none->Hf b≠none\/H b=none
theorem Grow.refl(h:G1 Hf H):Grow H Hf H Hf:=⟨G1.refl _,h,G1.refl _,fun _ h=>.inl h⟩
theorem Grow.trans(a:Grow H Hf H1 Hf1) (b:Grow H1 Hf1 H2 Hf2):Grow H Hf H2 Hf2 :=
 ⟨a.big.trans b.big,b.sub,a.ext.trans b.ext,fun x h=>(b.new x h).elim (a.new x) fun z=>.inr (a.big.free z)⟩
theorem G0{p:Addr}{o:HO}(h:H p=none):G1 H (upd H p o):=fun b u e=>by rw[D0 (D2 e h)];exact e
theorem Grow.laid{p:Addr}{o:HO}(s:G1 Hf H) (h:H p=none):Grow H Hf (upd H p o) (upd Hf p o):=by
 refine⟨G0 h,fun b u e=>?_,G0 (s.free h),fun b e=>?_⟩
 ·by_cases q:b=p
  ·subst q;rw[C5]at e;rw[C5];exact e
  ·rw[D0 q]at e;rw[D0 q];exact s b u e
 ·by_cases q:b=p
  ·subst q;exact .inr h
  ·rw[D0 q]at e;exact .inl e
theorem Grow.made{p:Addr}{o:HO}(s:G1 Hf H) (h:H p=none):Grow H Hf (upd H p o) Hf :=
 ⟨G0 h,s.trans (G0 h),G1.refl _,fun _ e=>.inl e⟩
theorem Grow.freeze{p:Addr}{o:HO}(g:Grow H Hf H1 Hf1) (h:H1 p=some o) (n:Hf1 p=none) (f:H p=none):Grow H Hf H1 (upd Hf1 p o):=by
 refine⟨g.big,fun b u e=>?_,g.ext.trans (G0 n),fun b e=>?_⟩
 ·by_cases q:b=p
  ·subst q;rw[C5]at e;rw[h];exact e
  ·rw[D0 q]at e;exact g.sub b u e
 ·by_cases q:b=p
  ·subst q;exact .inr f
  ·rw[D0 q]at e;exact g.new b e
end
inductive B where
 | val (d:D)
 | own (ds:List D)
 | exc (x:Str)
noncomputable abbrev Rho:=List (Option B)
noncomputable def clA(K:PySem.W.Frag) (x:Str):Option Addr:=match PySem.W.nsIn K mainGlobals x with
 | some (some (.ref C))=>some C
 | _=>none
noncomputable def SB(K:PySem.W.Frag) (H0 H Hf:Hp):B->V->Prop
 | .val d,v=>Rep K Hf d v
 | .own ds,v=>∃a vs,v=.ref a/\H a=some (.lst vs)/\Hf a=none/\H0 a=none/\Reps K Hf ds vs
 | .exc x,v=>∃a o C,v=.ref a/\Hf a=some (.frz o (.own a))/\clA K x=some C/\o.cls=.ref C
structure Slots (K:PySem.W.Frag) (H0:Hp) (ρ:Rho) (σ:L2.St) (H Hf:Hp):Prop where
 len:ρ.length=σ.length
 is:∀(i:Nat) (b:B),ρ[i]? = some (some b)->∃v,σ[i]? = some (some v)/\SB K H0 H Hf b v
 apart:∀(i j:Nat) (ds es:List D) (a:Addr),ρ[i]? = some (some (.own ds))->ρ[j]? = some (some (.own es))->σ[i]? = some (some (V.ref a))->σ[j]? = some (some (V.ref a))->i=j
section
variable {K:PySem.W.Frag}{H H' H0 H1 H2 Hf Hf' Hf1 Hf2:Hp}{ρ:Rho}{σ:L2.St}
theorem SB.grow{b:B}{v:V}(h:SB K H0 H Hf b v) (g:Grow H Hf H' Hf'):SB K H0 H' Hf' b v:=by
 cases b with
 | val d=>exact Rep.mono g.ext h
 | exc C =>
  obtain⟨a,o,C,e,h1,h2⟩:=h
  exact⟨a,o,C,e,g.ext _ _ h1,h2⟩
 | own ds =>
  obtain⟨a,vs,e,h1,h2,h3,h4⟩:=h
  refine⟨a,vs,e,g.big _ _ h1,?_,h3,h4.mono g.ext⟩
  cases q:Hf' a with
  | none=>rfl
  | some u =>
   rcases g.new a (by rw[q];simp) with z|z
   ·exact absurd h2 z
   ·rw[h1]at z;cases z
theorem Slots.grow(s:Slots K H0 ρ σ H Hf) (g:Grow H Hf H' Hf'):Slots K H0 ρ σ H' Hf' :=
 ⟨s.len,fun i b e=>let⟨v,h1,h2⟩:=s.is i b e;⟨v,h1,h2.grow g⟩,s.apart⟩
end
noncomputable abbrev DE:=Rho->Option D
noncomputable def tJ(K:PySem.W.Frag) (ρ:Rho) (R:Hp->V->Hp->Hp->Prop):TE:=fun σ H Q=>∃H0 Hf,G1 Hf H/\Slots K H0 ρ σ H Hf/\∀v H' Hf',Grow H Hf H' Hf'->R H v H' Hf'->Q v H'
noncomputable def JE(X:Cx) (e:Expr) (f:DE):Prop:=∀ρ d,f ρ=some d->PE X e (tJ X.K ρ fun _ v _ Hf=>Rep X.K Hf d v)
noncomputable def Sq(K:PySem.W.Frag):Bool->Hp->Addr->List V->Prop
 | true=>SqT K
 | false=>SqL K
noncomputable def RQ(K:PySem.W.Frag) (t:Bool) (ds:List D) (v:V) (H Hf:Hp):Prop:=∃a vs,v=.ref a/\Sq K t H a vs/\Reps K Hf ds vs
noncomputable def JQ(X:Cx) (e:Expr) (f:Rho->Option (Bool×List D)):Prop:=∀ρ t ds,f ρ=some (t,ds)->PE X e (tJ X.K ρ fun _ v H Hf=>RQ X.K t ds v H Hf)
noncomputable def JN(X:Cx) (e:Expr) (f:Rho->Option (List D)):Prop:=∀ρ ds,f ρ=some ds->PE X e (tJ X.K ρ fun H v H' Hf'=>∃a vs,v=.ref a/\H a=none/\H' a=some (.lst vs)/\Hf' a=none/\Reps X.K Hf' ds vs)
noncomputable def tJA(K:PySem.W.Frag) (ρ:Rho) (ds:List D):TA:=fun σ H Q=>∃H0 Hf,G1 Hf H/\Slots K H0 ρ σ H Hf/\∀vs H' Hf',Grow H Hf H' Hf'->Reps K Hf' ds vs->Q vs H'
structure JA (X:Cx) (es:List Expr) (f:Rho->Option (List D)):Prop where
 len:∀ρ ds,f ρ=some ds->ds.length=es.length
 run:∀ρ ds,f ρ=some ds->PA X es (tJA X.K ρ ds)
noncomputable def JT(X:Cx) (e:Expr) (f:Rho->Option Bool):Prop:=∀ρ c,f ρ=some c->PT X e (fun σ H Q=>∃H0 Hf,G1 Hf H/\Slots X.K H0 ρ σ H Hf/\∀H' Hf',Grow H Hf H' Hf'->Q c H')
noncomputable def JW(X:Cx) (e:Expr) (f:Rho->Option Bool):Prop:=∀ρ c,f ρ=some c->PW X e (fun σ H Q=>∃H0 Hf,G1 Hf H/\Slots X.K H0 ρ σ H Hf/\∀H' Hf',Grow H Hf H' Hf'->Q c H')
section
variable {X:Cx}
theorem C6{e:Expr}{t t':TE}(h:PE X e t) (i:∀σ H Q,t' σ H Q->t σ H Q):PE X e t':=fun pins s σ H Q I q=>h pins s σ H Q I (i σ H Q q)
theorem aI1{e:Expr}{t t':TT}(h:PT X e t) (i:∀σ H Q,t' σ H Q->t σ H Q):PT X e t':=fun pins s σ H Q I q=>h pins s σ H Q I (i σ H Q q)
noncomputable def dC(d:D):DE:=fun _=>some d
noncomputable def A1(i:Nat):DE:=fun ρ=>match ρ[i]? with
 | some (some (.val d))=>some d
 | _=>none
noncomputable def A8(i:Nat):Rho->Option (Bool×List D):=fun ρ=>match ρ[i]? with
 | some (some (.own ds))=>some (false,ds)
 | some (some (.val (.list ds)))=>some (false,ds)
 | some (some (.val (.tuple ds)))=>some (true,ds)
 | _=>none
noncomputable def ak9:D->Option (Bool×List D)
 | .list ds=>some (false,ds)
 | .tuple ds=>some (true,ds)
 | _=>none
theorem bx0{i:Int}{j:Nat}{pos:Pos}:JE X (.Constant (.int i) j pos) (dC (.int i)):=fun ρ d h=>by
 cases h
 exact C6 bU0 fun σ H Q ⟨H0,Hf,s,sl,k⟩=>k _ H Hf (Grow.refl s) rfl
theorem cl6{b:Bool}{j:Nat}{pos:Pos}:JE X (.Constant (.bool b) j pos) (dC (.bool b)):=fun ρ d h=>by
 cases h
 exact C6 ci5 fun σ H Q ⟨H0,Hf,s,sl,k⟩=>k _ H Hf (Grow.refl s) rfl
theorem ca6{j:Nat}{pos:Pos}:JE X (.Constant .none j pos) (dC .none):=fun ρ d h=>by
 cases h
 exact C6 bT9 fun σ H Q ⟨H0,Hf,s,sl,k⟩=>k _ H Hf (Grow.refl s) rfl
theorem ca0{x:Str}{j:Nat}{pos:Pos}:JE X (.Constant (.str x) j pos) (dC (.str x)):=fun ρ d h=>by
 cases h
 exact C6 bT5 fun σ H Q ⟨H0,Hf,s,sl,k⟩=>k _ H Hf (Grow.refl s) rfl
theorem bw4(i:Nat) {x:Str}{pos:Pos}(hN:X.N[i]? = some x:=by rfl) (hv:Vis X.env.scope x:=by first|exact Or.inl rfl|exact Or.inr (Or.inl rfl)|exact Or.inr (Or.inr rfl)) (hd:(x==("__debug__" : Str))=false:=by decide)
  (hcd:(x==("__classdict__" : Str))=false:=by decide):JE X (.Name x pos) (A1 i):=fun ρ d h=>by
 refine C6 (ai4 hN hv hd hcd) fun σ H Q ⟨H0,Hf,s,sl,k⟩=>?_
 unfold A1 at h
 split at h
 ·rename_i d' e
  cases h
  obtain⟨v,h1,h2⟩:=sl.is i _ e
  exact⟨v,h1,k v H Hf (Grow.refl s) h2⟩
 ·cases h
theorem bZ1(i:Nat) {x:Str}{pos:Pos}(hN:X.N[i]? = some x:=by rfl) (hv:Vis X.env.scope x:=by first|exact Or.inl rfl|exact Or.inr (Or.inl rfl)|exact Or.inr (Or.inr rfl)) (hd:(x==("__debug__" : Str))=false:=by decide)
  (hcd:(x==("__classdict__" : Str))=false:=by decide):JQ X (.Name x pos) (A8 i):=fun ρ t ds h=>by
 refine C6 (ai4 hN hv hd hcd) fun σ H Q ⟨H0,Hf,s,sl,k⟩=>?_
 unfold A8 at h
 split at h
 ·rename_i d' e
  cases h
  obtain⟨v,h1,a,vs,rfl,h2,h3,h4,h5⟩:=sl.is i _ e
  exact⟨_,h1,k _ H Hf (Grow.refl s) ⟨a,vs,rfl,SqL.of h2,h5⟩⟩
 ·rename_i d' e
  cases h
  obtain⟨v,h1,a,vs,rfl,h2,h3⟩:=sl.is i _ e
  exact⟨_,h1,k _ H Hf (Grow.refl s) ⟨a,vs,rfl,M3 s h2,h3⟩⟩
 ·rename_i d' e
  cases h
  obtain⟨v,h1,a,vs,rfl,h2,h3⟩:=sl.is i _ e
  exact⟨_,h1,k _ H Hf (Grow.refl s) ⟨a,vs,rfl,E3 s h2,h3⟩⟩
 ·cases h
theorem Rep.seq{K:PySem.W.Frag}{H Hf:Hp}{d:D}{v:V}{t:Bool}{ds:List D}(h:Rep K Hf d v) (s:G1 Hf H) (e:ak9 d=some (t,ds)):RQ K t ds v H Hf:=by
 cases d with
 | list xs=>cases e;obtain⟨a,vs,e1,e2,e3⟩:=h;exact⟨a,vs,e1,M3 s e2,e3⟩
 | tuple xs=>cases e;obtain⟨a,vs,e1,e2,e3⟩:=h;exact⟨a,vs,e1,E3 s e2,e3⟩
 | _=>cases e
noncomputable def qE(f:DE):Rho->Option (Bool×List D):=fun ρ=>(f ρ).bind ak9
theorem bw1{e:Expr}{f:DE}(h:JE X e f):JQ X e (qE f):=fun ρ t ds q=>by
 obtain⟨d,h1,h2⟩:=xbm q
 exact C6 (h ρ d h1) fun σ H Q ⟨H0,Hf,s,sl,k⟩=>⟨H0,Hf,s,sl,fun v H' Hf' g r=>k v H' Hf' g (r.seq g.sub h2)⟩
noncomputable def A3:Rho->Option (List D):=fun _=>some []
noncomputable def A0(f:DE) (g:Rho->Option (List D)):Rho->Option (List D):=fun ρ=>(f ρ).bind fun d=>(g ρ).map fun ds=>d::ds
theorem bx4:JA X [] A3:=⟨fun ρ ds h=>by cases h;rfl,fun ρ ds h pos pins s σ H Q I ⟨H0,Hf,ss,sl,k⟩=>by
 cases h
 exact R6 pos pins s σ H Q I (k [] H Hf (Grow.refl ss) rfl)⟩
theorem bd7{e:Expr}{es:List Expr}{f:DE}{g:Rho->Option (List D)}(h:JE X e f) (r:JA X es g) (hs:starEach (e::es) X.env=(false,eval e X.env)::starEach es X.env:=by rfl):JA X (e::es) (A0 f g):=by
 refine⟨fun ρ ds q=>?_,fun ρ ds q=>?_⟩
 ·obtain⟨d,h1,h2⟩:=xbm q
  obtain⟨es',h3,h4⟩:=xmo h2
  subst h4
  simp[r.len ρ es' h3]
 ·obtain⟨d,h1,h2⟩:=xbm q
  obtain⟨es',h3,h4⟩:=xmo h2
  subst h4
  intro pos pins s σ H Q I ⟨H0,Hf,ss,sl,k⟩
  refine L4 (h ρ d h1) (r.run ρ es' h3) hs pos pins s σ H Q I ⟨H0,Hf,ss,sl,fun v H1 Hf1 g1 r1=>⟨H0,Hf1,g1.sub,sl.grow g1,fun vs H2 Hf2 g2 r2=>?_⟩⟩
  exact k (v::vs) H2 Hf2 (g1.trans g2) ⟨v,vs,rfl,r1.mono g2.ext,r2⟩
noncomputable def O1(f:Rho->Option (List D)):DE:=fun ρ=>(f ρ).map PyData.tuple
theorem bZ9{es:List Expr}{f:Rho->Option (List D)}{k:Nat}{pos:Pos}(h:JA X es f) (hn:es.length<=1000:=by decide):JE X (.Tuple es k pos) (O1 f):=fun ρ d q=>by
 obtain⟨ds,h1,h2⟩:=xmo q
 subst h2
 refine C6 (bT4 fun pos pins s σ H Q I t=>h.run ρ ds h1 pos pins s σ H Q I t) fun σ H Q ⟨H0,Hf,s,sl,k⟩=>?_
 refine⟨H0,Hf,s,sl,fun vs H1 Hf1 g r=>⟨?_,fun p hp=>?_⟩⟩
 ·rw[r.length,h.len ρ ds h1];exact Nat.le_of_lt (ao1 hn)
 ·exact k _ _ _ (g.trans (Grow.laid g.sub hp)) ⟨p,vs,rfl,SqT.of C5,r.mono (Grow.laid (o:=.tup vs) g.sub hp).ext⟩
theorem bZ3{es:List Expr}{f:Rho->Option (List D)}{pos:Pos}(h:JA X es f) (hn:es.length<=1000:=by decide):JN X (.List es pos) f:=fun ρ ds h1=>by
 refine C6 (bs5 fun pos pins s σ H Q I t=>h.run ρ ds h1 pos pins s σ H Q I t) fun σ H Q ⟨H0,Hf,s,sl,k⟩=>?_
 refine⟨H0,Hf,s,sl,fun vs H1 Hf1 g r=>⟨?_,fun p hp=>?_⟩⟩
 ·rw[r.length,h.len ρ ds h1];exact Nat.le_of_lt (ao1 hn)
 ·exact k _ _ _ (g.trans (Grow.made g.sub hp)) ⟨p,vs,rfl,g.big.free hp,C5,g.sub.free hp,r⟩
noncomputable def W0(f:Rho->Option (List D)):DE:=fun ρ=>(f ρ).map PyData.list
theorem aw9{e:Expr}{f:Rho->Option (List D)}(h:JN X e f):JE X e (W0 f):=fun ρ d q=>by
 obtain⟨ds,h1,h2⟩:=xmo q
 subst h2
 refine C6 (h ρ ds h1) fun σ H Q ⟨H0,Hf,s,sl,k⟩=>⟨H0,Hf,s,sl,fun v H' Hf' g ⟨a,vs,e1,e2,e3,e4,e5⟩=>?_⟩
 subst e1
 exact k _ _ _ (g.freeze e3 e4 e2) ⟨a,vs,rfl,SqL.of C5,e5.mono (G0 e4)⟩
theorem bw0{e:Expr}{f:Rho->Option (List D)}(h:JN X e f):JQ X e (fun ρ=>(f ρ).map fun ds=>(false,ds)):=fun ρ t ds q=>by
 obtain⟨ds',h1,h2⟩:=xmo q
 cases h2
 refine C6 (h ρ ds h1) fun σ H Q ⟨H0,Hf,s,sl,k⟩=>⟨H0,Hf,s,sl,fun v H' Hf' g ⟨a,vs,e1,e2,e3,e4,e5⟩=>?_⟩
 subst e1
 exact k _ _ _ g ⟨a,vs,rfl,SqL.of e3,e5⟩
noncomputable def OpD(X:Cx) (F:Value->Value->Sem Value) (h:D->D->Option D):Prop:=∀x y z,h x y=some z ->
 OpR X F fun vx vy H Q=>∃Hf,G1 Hf H/\Rep X.K Hf x vx/\Rep X.K Hf y vy/\∀v H' Hf',Grow H Hf H' Hf'->Rep X.K Hf' z v->Q v H'
noncomputable def A5(h:D->D->Option D) (f g:DE):DE:=fun ρ=>(f ρ).bind fun x=>(g ρ).bind fun y=>h x y
theorem ab1{op:Operator}{h:D->D->Option D}{a b:Expr}{f g:DE}{pos:Pos}(o:OpD X (binaryOp op) h) (ha:JE X a f) (hb:JE X b g):JE X (.BinOp a op b pos) (A5 h f g):=fun ρ d q=>by
 obtain⟨x,h1,q⟩:=xbm q
 obtain⟨y,h2,h3⟩:=xbm q
 refine C6 (bO2 (o x y d h3) (ha ρ x h1) (hb ρ y h2)) fun σ H Q ⟨H0,Hf,s,sl,k⟩=>?_
 refine⟨H0,Hf,s,sl,fun v H1 Hf1 g1 r1=>⟨H0,Hf1,g1.sub,sl.grow g1,fun u H2 Hf2 g2 r2=>?_⟩⟩
 exact⟨Hf2,g2.sub,r1.mono g2.ext,r2,fun w H3 Hf3 g3 r3=>k w H3 Hf3 ((g1.trans g2).trans g3) r3⟩
theorem cb1{op:CmpOp}{h:D->D->Option D}{a b:Expr}{f g:DE}{pos:Pos}(o:OpD X (compareOp op) h) (ha:JE X a f) (hb:JE X b g) (hm:behindInMarks op b=false:=by first|exact bt7 _|rfl):JE X (.Compare a [op] [b] pos) (A5 h f g):=fun ρ d q=>by
 obtain⟨x,h1,q⟩:=xbm q
 obtain⟨y,h2,h3⟩:=xbm q
 refine C6 (bG1 (o x y d h3) (ha ρ x h1) (hb ρ y h2) hm) fun σ H Q ⟨H0,Hf,s,sl,k⟩=>?_
 refine⟨H0,Hf,s,sl,fun v H1 Hf1 g1 r1=>⟨H0,Hf1,g1.sub,sl.grow g1,fun u H2 Hf2 g2 r2=>?_⟩⟩
 exact⟨Hf2,g2.sub,r1.mono g2.ext,r2,fun w H3 Hf3 g3 r3=>k w H3 Hf3 ((g1.trans g2).trans g3) r3⟩
theorem OpR.imp{F:Value->Value->Sem Value}{r r':R2}(h:OpR X F r) (i:∀x y H Q,r' x y H Q->r x y H Q):OpR X F r':=fun pins s σ H x y v u Q I rx ry q=>h pins s σ H x y v u Q I rx ry (i x y H Q q)
end
section
variable {X:Cx}
noncomputable def L0(i:Int):Prop:=i.natAbs < 2 ^ 8000
instance:DecidablePred L0:=fun i=>inferInstanceAs (Decidable (i.natAbs < 2 ^ 8000))
theorem L0.log{i:Int}(h:L0 i) (h0:i.natAbs≠0):i.natAbs.log2 < 8000:=(Nat.log2_lt h0).mpr h
theorem L0.bits{i:Int}(h:L0 i):Builtin.Int.intBits i<=2 ^ 20:=by
 unfold Builtin.Int.intBits
 split
 ·exact Nat.zero_le _
 ·rename_i h0
  have:=h.log (by simpa using h0)
  omega
theorem bG7{X:Cx}:OpR X (binaryOp .Mult) (rI (fun i j=>L0 i/\L0 j) fun i j=>.int (i*j)):=opI fun _ _ _ _ _ _ _ hc q=>mul_int q (PySem.IntMulOk.of_bits hc.1.bits hc.2.bits)
noncomputable def cm6(x y:D):Option D:=match x,y with
 | .int i,.int j=>some (.int (i+j))
 | _,_=>none
noncomputable def aa2(x y:D):Option D:=match x,y with
 | .int i,.int j=>some (.int (i - j))
 | .int i,.bool b=>some (.int (i - if b=true then 1 else 0))
 | .bool a,.int j=>some (.int ((if a=true then 1 else 0) - j))
 | _,_=>none
noncomputable def bW1(x y:D):Option D:=match x,y with
 | .int i,.int j=>if L0 i/\L0 j then some (.int (i*j)) else none
 | _,_=>none
noncomputable def ai9(x y:D):Option D:=match x,y with
 | .int i,.int j=>if 0 < j/\L0 j then some (.int (i / j)) else none
 | _,_=>none
noncomputable def n8(x y:D):Option D:=match x,y with
 | .int i,.int j=>if 0 < j then some (.int (i % j)) else none
 | _,_=>none
theorem cp3:OpD X (binaryOp .Add) cm6:=fun x y z h=>by
 unfold cm6 at h
 split at h
 ·cases h
  exact OpR.imp bt2 fun vx vy H Q ⟨Hf,s,r1,r2,k⟩=>⟨_,_,r1,r2,k _ H Hf (Grow.refl s) rfl⟩
 ·cases h
theorem bU6:OpD X (binaryOp .Sub) aa2:=fun x y z h=>by
 unfold aa2 at h
 split at h
 ·cases h
  exact OpR.imp bU1 fun vx vy H Q ⟨Hf,s,r1,r2,k⟩=>⟨_,_,r1,r2,k _ H Hf (Grow.refl s) rfl⟩
 ·cases h
  intro pins s σ H vx vy v u Q I rx ry ⟨Hf,ss,r1,r2,k⟩
  cases r1;cases r2
  obtain⟨t,rfl⟩:=rx
  obtain rfl:u=Value.bool _:=ry
  exact PySem.IntBool.sub_int_bool ⟨.int _,H,I.tok _,⟨_,rfl⟩,k _ H Hf (Grow.refl ss) rfl⟩
 ·cases h
  intro pins s σ H vx vy v u Q I rx ry ⟨Hf,ss,r1,r2,k⟩
  cases r1;cases r2
  obtain⟨t,rfl⟩:=ry
  obtain rfl:v=Value.bool _:=rx
  exact PySem.IntBool.sub_bool_int ⟨.int _,H,I.tok _,⟨_,rfl⟩,k _ H Hf (Grow.refl ss) rfl⟩
 ·cases h
theorem bU7:OpD X (binaryOp .Mult) bW1:=fun x y z h=>by
 unfold bW1 at h
 split at h
 ·split at h
  ·rename_i c
   cases h
   exact OpR.imp bG7 fun vx vy H Q ⟨Hf,s,r1,r2,k⟩=>⟨_,_,r1,r2,c,k _ H Hf (Grow.refl s) rfl⟩
  ·cases h
 ·cases h
theorem bh8:OpR X (binaryOp .FloorDiv) (rI (fun _ j=>0 < j/\L0 j) fun i j=>.int (i / j)):=opI fun i j _ _ s Q E hc q=>by
 have e:i.fdiv j=i / j:=Int.fdiv_eq_ediv_of_nonneg i (Int.le_of_lt hc.1)
 refine floordiv_int (by omega) (by rw[e];exact q) (.inl (PyProof.noPylong_of_log2 ?_))
 have h2:=hc.2.log (by omega)
 omega
theorem bV1:OpD X (binaryOp .FloorDiv) ai9:=fun x y z h=>by
 unfold ai9 at h
 split at h
 ·split at h
  ·rename_i c
   cases h
   exact OpR.imp bh8 fun vx vy H Q ⟨Hf,s,r1,r2,k⟩=>⟨_,_,r1,r2,c,k _ H Hf (Grow.refl s) rfl⟩
  ·cases h
 ·cases h
theorem bU8:OpD X (binaryOp .Mod) n8:=fun x y z h=>by
 unfold n8 at h
 split at h
 ·split at h
  ·rename_i c
   cases h
   exact OpR.imp bU2 fun vx vy H Q ⟨Hf,s,r1,r2,k⟩=>⟨_,_,r1,r2,c,k _ H Hf (Grow.refl s) rfl⟩
  ·cases h
 ·cases h
theorem bt1:OpR X (binaryOp .Add) (fun x y H Q=>∃a b ys,x=.ref a/\y=.ref b/\SqT X.K H a []/\SqT X.K H b ys/\Q (.ref b) H):=by
 intro pins s σ H x y v u Q I rx ry h
 obtain⟨a,b,ys,rfl,rfl,ha,hb,q⟩:=h
 cases rx
 cases ry
 obtain⟨its,r1,p1,_⟩:=I.tuple ha
 obtain⟨its2,r2,p2,_⟩:=I.tuple hb
 cases r1
 obtain⟨⟨cls,dd,data,sl⟩,ho,hc,n,hd⟩:=id p1
 obtain⟨⟨cls2,dd2,data2,sl2⟩,ho2,hc2,n2,hd2⟩:=id p2
 simp only at hc hd hc2 hd2
 subst hc hd hc2 hd2
 exact concat_meets ⟨_,ho,rfl⟩ ⟨_,ho2,rfl⟩ noFill_tuple_add seq_tuple_add PySem.F.slot_tuple_add PySem.F.entry_tuple_add (PySem.F.args_tuple_add_2 _ _)
   (tuple_addW0 a b _ its2.toArray n n2 dd dd2 sl sl2 (by rfl)) ⟨ho,ho2,⟨.ref b,H,I,rfl,q⟩⟩
noncomputable def v8(x y:D):Option D:=match x,y with
 | .tuple xs,.tuple ys=>if xs.length+ys.length<=16777216 then some (.tuple (xs++ys)) else none
 | .str a,.str b=>if a.length+b.length<=16777216 then some (.str (a++b)) else none
 | .int i,.int j=>some (.int (i+j))
 | .bool a,.int j=>some (.int ((if a=true then 1 else 0)+j))
 | _,_=>none
theorem bt6:OpD X (binaryOp .Add) v8:=fun x y z h=>by
 unfold v8 at h
 split at h
 ·split at h
  ·rename_i xs ys c
   cases h
   cases xs with
   | nil =>
    refine OpR.imp bt1 fun vx vy H Q ⟨Hf,s,r1,r2,k⟩=>?_
    obtain⟨a,vs,rfl,h2,h3⟩:=r1
    obtain⟨b,us,rfl,h5,h6⟩:=r2
    cases h3
    exact⟨a,b,us,rfl,rfl,E3 s h2,E3 s h5,k _ H Hf (Grow.refl s) ⟨b,us,rfl,h5,h6⟩⟩
   | cons d0 ds0 =>
    refine OpR.imp bG8 fun vx vy H Q ⟨Hf,s,r1,r2,k⟩=>?_
    obtain⟨a,vs,rfl,h2,h3⟩:=r1
    obtain⟨b,us,rfl,h5,h6⟩:=r2
    have l1:=h3.length
    have l2:=h6.length
    refine⟨a,b,vs,us,rfl,rfl,E3 s h2,E3 s h5,?_,by rw[sizeLine_eq];omega,fun e=>?_,fun e p hp=>?_⟩
    ·intro e;subst e;simp at l1
    ·subst e
     have:ys=[]:=by cases ys<;>simp_all
     subst this
     exact k _ H Hf (Grow.refl s) ⟨a,vs,rfl,h2,by rw[List.append_nil];exact h3⟩
    ·exact k _ _ _ (Grow.laid s hp) ⟨p,vs++us,rfl,SqT.of C5,(h3.append h6).mono (G0 (s.free hp))⟩
  ·cases h
 ·split at h
  ·rename_i c
   cases h
   exact OpR.imp aV8 fun vx vy H Q ⟨Hf,s,r1,r2,k⟩=>⟨_,_,r1,r2,by rw[sizeLine_eq];exact c,k _ H Hf (Grow.refl s) rfl⟩
  ·cases h
 ·cases h
  exact OpR.imp bt2 fun vx vy H Q ⟨Hf,s,r1,r2,k⟩=>⟨_,_,r1,r2,k _ H Hf (Grow.refl s) rfl⟩
 ·cases h
  intro pins s σ H vx vy v u Q I rx ry ⟨Hf,ss,r1,r2,k⟩
  cases r1;cases r2
  obtain⟨t,rfl⟩:=ry
  obtain rfl:v=Value.bool _:=rx
  exact PySem.IntBool.add_bool_int ⟨.int _,H,I.tok _,⟨_,rfl⟩,k _ H Hf (Grow.refl ss) rfl⟩
 ·cases h
noncomputable def ltI(x y:D):Option D:=match x,y with
 | .int i,.int j=>some (.bool (decide (i < j)))
 | _,_=>none
noncomputable def leI(x y:D):Option D:=match x,y with
 | .int i,.int j=>some (.bool (decide (i<=j)))
 | _,_=>none
noncomputable def gtI(x y:D):Option D:=match x,y with
 | .int i,.int j=>some (.bool (decide (j < i)))
 | _,_=>none
noncomputable def geI(x y:D):Option D:=match x,y with
 | .int i,.int j=>some (.bool (decide (j<=i)))
 | _,_=>none
theorem cj3:OpD X (compareOp .Lt) ltI:=fun x y z h=>by
 unfold ltI at h
 split at h
 ·cases h
  exact OpR.imp ci7 fun vx vy H Q ⟨Hf,s,r1,r2,k⟩=>⟨_,_,r1,r2,k _ H Hf (Grow.refl s) rfl⟩
 ·cases h
theorem cj4:OpD X (compareOp .LtE) leI:=fun x y z h=>by
 unfold leI at h
 split at h
 ·cases h
  exact OpR.imp ci8 fun vx vy H Q ⟨Hf,s,r1,r2,k⟩=>⟨_,_,r1,r2,k _ H Hf (Grow.refl s) rfl⟩
 ·cases h
theorem cj7:OpD X (compareOp .Gt) gtI:=fun x y z h=>by
 unfold gtI at h
 split at h
 ·cases h
  exact OpR.imp ci9 fun vx vy H Q ⟨Hf,s,r1,r2,k⟩=>⟨_,_,r1,r2,k _ H Hf (Grow.refl s) rfl⟩
 ·cases h
theorem cj8:OpD X (compareOp .GtE) geI:=fun x y z h=>by
 unfold geI at h
 split at h
 ·cases h
  exact OpR.imp cj0 fun vx vy H Q ⟨Hf,s,r1,r2,k⟩=>⟨_,_,r1,r2,k _ H Hf (Grow.refl s) rfl⟩
 ·cases h
mutual
theorem Rep.reads{pins:List (Addr×Obj)}{σ:L2.St}{H:Hp}{s:Shared}(I:Inv X pins σ H s):∀{d:D}{v:V}{u:Value},Rep X.K H d v->P1 v u->∃as,Reads s.heap u d as
 | .none,_,_,h,r=>by cases h;cases r;exact⟨_,.none⟩
 | .bool b,_,_,h,r=>by cases h;cases r;exact⟨_,.bool b⟩
 | .int i,_,_,h,r=>by cases h;obtain⟨t,rfl⟩:=r;exact⟨_,.int i t⟩
 | .str x,_,_,h,r=>by cases h;obtain⟨t,rfl⟩:=r;exact⟨_,.str x t⟩
 | .tuple ds,_,_,⟨a,vs,h1,h2,h3⟩,r=>by
  subst h1;cases r
  obtain⟨its,rv,⟨o,ho,hc,n,hd⟩,_⟩:=I.tuple h2
  obtain⟨as,q⟩:=Reps.reads I h3 rv
  exact⟨_,.tuple ho hc hd (by simpa using q)⟩
 | .list ds,_,_,⟨a,vs,h1,h2,h3⟩,r=>by
  subst h1;cases r
  obtain⟨its,rv,pl,_⟩:=I.list h2
  obtain⟨o,ho,hc,n,hd⟩:=pl.isList
  obtain⟨as,q⟩:=Reps.reads I h3 rv
  exact⟨_,.list ho hc hd (by simpa using q)⟩
 | .dict _,_,_,h,_=>h.elim
theorem Reps.reads{pins:List (Addr×Obj)}{σ:L2.St}{H:Hp}{s:Shared}(I:Inv X pins σ H s):∀{ds:List D}{vs:List V}{us:List Value},Reps X.K H ds vs->K1 vs us->∃as,ReadsAll s.heap us ds as
 | [],_,_,h,r=>by cases h;cases r;exact⟨_,.nil⟩
 | d::ds,_,_,⟨v,vr,h1,h2,h3⟩,r=>by
  subst h1
  cases r with
  | cons r1 r2 =>
   obtain⟨as,q1⟩:=Rep.reads I h2 r1
   obtain⟨bs,q2⟩:=Reps.reads I h3 r2
   exact⟨_,.cons q1 q2⟩
end
noncomputable def eqD(x y:D):Option D:=if SeqAt.shaped x=true/\SeqAt.shaped y=true then some (.bool (PyData.eqv x y)) else none
noncomputable def neD(x y:D):Option D:=if SeqAt.shaped x=true/\SeqAt.shaped y=true then some (.bool (!PyData.eqv x y)) else none
theorem cj9(hu:X.A.units+64 < cLine):OpD X (compareOp .Eq) eqD:=fun x y z h=>by
 unfold eqD at h
 split at h
 ·rename_i c
  cases h
  intro pins s σ H vx vy v u Q I rx ry ⟨Hf,ss,r1,r2,k⟩
  obtain⟨as,q1⟩:=Rep.reads I (r1.mono ss) rx
  obtain⟨bs,q2⟩:=Rep.reads I (r2.mono ss) ry
  exact eq_dataH q1 q2 c.1 c.2 hu ⟨.bl _,H,I,rfl,k _ H Hf (Grow.refl ss) rfl⟩
 ·cases h
theorem cj2(hu:X.A.units+64 < cLine):OpD X (compareOp .NotEq) neD:=fun x y z h=>by
 unfold neD at h
 split at h
 ·rename_i c
  cases h
  intro pins s σ H vx vy v u Q I rx ry ⟨Hf,ss,r1,r2,k⟩
  obtain⟨as,q1⟩:=Rep.reads I (r1.mono ss) rx
  obtain⟨bs,q2⟩:=Rep.reads I (r2.mono ss) ry
  exact ne_dataH q1 q2 c.1 c.2 hu ⟨.bl _,H,I,rfl,k _ H Hf (Grow.refl ss) rfl⟩
 ·cases h
noncomputable def isN(x y:D):Option D:=match x,y with
 | .none,.none=>some (.bool true)
 | .dict _,_=>none
 | _,.none=>some (.bool false)
 | _,_=>none
theorem bb0{K:PySem.W.Frag}{H:Hp}{d:D}{v:V}(h:Rep K H d v):(decide (v=.non))=(match d with | .none=>true|_=>false):=by
 cases d with
 | none=>cases h;rfl
 | bool b=>cases h;rfl
 | int b=>cases h;rfl
 | str b=>cases h;rfl
 | tuple ds=>obtain⟨a,vs,rfl,_⟩:=h;rfl
 | list ds=>obtain⟨a,vs,rfl,_⟩:=h;rfl
 | dict ds=>exact h.elim
theorem bU9:OpD X (compareOp .Is) isN:=fun x y z h=>by
 refine OpR.imp bU3 fun vx vy H Q ⟨Hf,s,r1,r2,k⟩=>?_
 have e:=bb0 r1
 cases y<;>cases x<;>simp only[isN,Option.some.injEq,reduceCtorEq]at h <;>
  (subst h;simp only at e;rw[e];exact⟨r2,k _ H Hf (Grow.refl s) rfl⟩)
noncomputable def bV4(x y:D):Option D:=match x,y with
 | .none,.none=>some (.bool false)
 | .dict _,_=>none
 | _,.none=>some (.bool true)
 | _,_=>none
theorem bH2:OpD X (compareOp .IsNot) bV4:=fun x y z h=>by
 refine OpR.imp bG6 fun vx vy H Q ⟨Hf,s,r1,r2,k⟩=>?_
 have e:=bb0 r1
 cases y<;>cases x<;>simp only[bV4,Option.some.injEq,reduceCtorEq]at h <;>
  (subst h;simp only at e;rw[e];exact⟨r2,k _ H Hf (Grow.refl s) rfl⟩)
noncomputable def R7(h1 h2:D->D->Option D) (f g k:DE):DE:=fun ρ=>(f ρ).bind fun x=>(g ρ).bind fun y=>(h1 x y).bind fun z=>match z with
 | .bool true=>(k ρ).bind fun w=>h2 y w
 | .bool false=>some (.bool false)
 | _=>none
theorem bx1{op op':CmpOp}{h1 h2:D->D->Option D}{a b c:Expr}{f g k:DE}{pos:Pos}(o1:OpD X (compareOp op) h1) (o2:OpD X (compareOp op') h2) (ha:JE X a f) (hb:JE X b g) (hc:JE X c k)
  (hm:lastMarks [op,op'] [b,c]=false:=by with_unfolding_all rfl):JE X (.Compare a [op,op'] [b,c] pos) (R7 h1 h2 f g k):=fun ρ d q=>by
 obtain⟨x,e1,q⟩:=xbm q
 obtain⟨y,e2,q⟩:=xbm q
 obtain⟨z,e3,q⟩:=xbm q
 split at q
 ·obtain⟨w,e4,e5⟩:=xbm q
  refine C6 (aN9 (o1 x y _ e3) (o2 y w d e5) (ha ρ x e1) (hb ρ y e2) (hc ρ w e4) hm) fun σ H Q ⟨H0,Hf,s,sl,kk⟩=>?_
  refine⟨H0,Hf,s,sl,fun v H1 Hf1 g1 r1=>⟨H0,Hf1,g1.sub,sl.grow g1,fun u H2 Hf2 g2 r2=>⟨Hf2,g2.sub,r1.mono g2.ext,r2,fun z' H3 Hf3 g3 r3=>?_⟩⟩⟩
  refine⟨true,r3,aA1 ⟨H0,Hf3,g3.sub,sl.grow ((g1.trans g2).trans g3),fun w' H4 Hf4 g4 r4=>⟨Hf4,g4.sub,r2.mono (g3.trans g4).ext,r4,fun z2 H5 Hf5 g5 r5=>?_⟩⟩⟩
  exact kk z2 H5 Hf5 ((((g1.trans g2).trans g3).trans g4).trans g5) r5
 ·cases q
  intro pins s σ H Q I ⟨H0,Hf,ss,sl,kk⟩
  refine aN9 (tc:=fun _ _ _=>False) (r':=fun _ _ _ _=>False) (o1 x y _ e3) (fun _ _ _ _ _ _ _ _ _ _ _ _ h=>h.elim) (ha ρ x e1) (hb ρ y e2) (fun _ _ _ _ _ _ h=>h.elim) hm pins s σ H Q I ?_
  refine⟨H0,Hf,ss,sl,fun v H1 Hf1 g1 r1=>⟨H0,Hf1,g1.sub,sl.grow g1,fun u H2 Hf2 g2 r2=>⟨Hf2,g2.sub,r1.mono g2.ext,r2,fun z' H3 Hf3 g3 r3=>?_⟩⟩⟩
  exact⟨false,r3,aA2 (kk _ H3 Hf3 ((g1.trans g2).trans g3) rfl)⟩
 ·cases q
theorem ca4{op:BoolOp}{a:Expr}{f:DE}{pos:Pos}(h:JE X a f):JE X (.BoolOp op [a] pos) f:=fun ρ d q=>bT7 (h ρ d q)
noncomputable def S8(f g:DE):DE:=fun ρ=>(f ρ).bind fun x=>match x with
 | .bool true=>g ρ
 | .bool false=>some (.bool false)
 | _=>none
noncomputable def dOr(f g:DE):DE:=fun ρ=>(f ρ).bind fun x=>match x with
 | .bool true=>some (.bool true)
 | .bool false=>g ρ
 | _=>none
noncomputable def ae9(f:DE):DE:=fun ρ=>(f ρ).bind fun x=>match x with
 | .bool c=>some (.bool (!c))
 | _=>none
theorem cb2{a b:Expr}{T5:List Expr}{f g:DE}{pos:Pos}(ha:JE X a f) (hb:JE X (.BoolOp .And (b::T5) pos) g):JE X (.BoolOp .And (a::b::T5) pos) (S8 f g):=fun ρ d q=>by
 obtain⟨x,e1,q⟩:=xbm q
 split at q
 ·refine C6 (bs8 (ha ρ _ e1) (hb ρ d q)) fun σ H Q ⟨H0,Hf,s,sl,k⟩=>⟨H0,Hf,s,sl,fun v H1 Hf1 g1 r1=>⟨true,r1,aA1 ⟨H0,Hf1,g1.sub,sl.grow g1,fun u H2 Hf2 g2 r2=>k u H2 Hf2 (g1.trans g2) r2⟩⟩⟩
 ·cases q
  refine C6 (bs8 (tb:=fun _ _ _=>False) (ha ρ _ e1) (fun _ _ _ _ _ _ h=>h.elim)) fun σ H Q ⟨H0,Hf,s,sl,k⟩=>⟨H0,Hf,s,sl,fun v H1 Hf1 g1 r1=>⟨false,r1,aA2 (k _ H1 Hf1 g1 rfl)⟩⟩
 ·cases q
theorem cl3{a b:Expr}{T5:List Expr}{f g:DE}{pos:Pos}(ha:JE X a f) (hb:JE X (.BoolOp .Or (b::T5) pos) g):JE X (.BoolOp .Or (a::b::T5) pos) (dOr f g):=fun ρ d q=>by
 obtain⟨x,e1,q⟩:=xbm q
 split at q
 ·cases q
  refine C6 (bO1 (tb:=fun _ _ _=>False) (ha ρ _ e1) (fun _ _ _ _ _ _ h=>h.elim)) fun σ H Q ⟨H0,Hf,s,sl,k⟩=>⟨H0,Hf,s,sl,fun v H1 Hf1 g1 r1=>⟨true,r1,aA1 (k _ H1 Hf1 g1 rfl)⟩⟩
 ·refine C6 (bO1 (ha ρ _ e1) (hb ρ d q)) fun σ H Q ⟨H0,Hf,s,sl,k⟩=>⟨H0,Hf,s,sl,fun v H1 Hf1 g1 r1=>⟨false,r1,aA2 ⟨H0,Hf1,g1.sub,sl.grow g1,fun u H2 Hf2 g2 r2=>k u H2 Hf2 (g1.trans g2) r2⟩⟩⟩
 ·cases q
theorem ca5{a:Expr}{f:DE}{pos:Pos}(ha:JE X a f):JE X (.UnaryOp .Not a pos) (ae9 f):=fun ρ d q=>by
 obtain⟨x,e1,q⟩:=xbm q
 split at q
 ·cases q
  exact C6 (bT8 (ha ρ _ e1)) fun σ H Q ⟨H0,Hf,s,sl,k⟩=>⟨H0,Hf,s,sl,fun v H1 Hf1 g1 r1=>⟨_,r1,k _ H1 Hf1 g1 rfl⟩⟩
 ·cases q
noncomputable def ai3:D->Option Bool
 | .none=>some false
 | .bool b=>some b
 | .int i=>some (i != 0)
 | .str x=>if x.length<=16777216 then some ((x.length:Int) != 0) else none
 | .list ds=>some (!ds.isEmpty)
 | .tuple ds=>some (!ds.isEmpty)
 | .dict _=>none
noncomputable def K4(f:DE):Rho->Option Bool:=fun ρ=>(f ρ).bind ai3
theorem bX7{a:Expr}{f:DE}(ha:JE X a f) (he:∀whole,isTrue a X.env whole=(do let v ← whole;standAt a.pos;holding [v] (truthy v)):=by intro _;rfl):JT X a (K4 f):=fun ρ c q=>by
 obtain⟨d,e1,e2⟩:=xbm q
 refine aI1 (br6 (ha ρ d e1) he) fun σ H Q ⟨H0,Hf,s,sl,k⟩=>⟨H0,Hf,s,sl,fun v H1 Hf1 g1 r1=>⟨c,?_,k H1 Hf1 g1⟩⟩
 cases d with
 | none=>cases e2;cases r1;rfl
 | bool b=>cases e2;cases r1;rfl
 | int i=>cases e2;cases r1;rfl
 | str x =>
  simp only[ai3]at e2
  split at e2
  ·rename_i hx;cases e2;cases r1;exact⟨by rw[sizeLine_eq];exact hx,rfl⟩
  ·cases e2
 | list ds =>
  cases e2
  obtain⟨a,vs,rfl,h2,h3⟩:=r1
  refine .inl ⟨vs,M3 g1.sub h2,?_⟩
  have:=h3.length
  cases ds<;>cases vs<;>simp_all
 | tuple ds =>
  cases e2
  obtain⟨a,vs,rfl,h2,h3⟩:=r1
  refine .inr (.inl ⟨vs,E3 g1.sub h2,?_⟩)
  have:=h3.length
  cases ds<;>cases vs<;>simp_all
 | dict _=>cases e2
noncomputable def R8:D->Option Bool
 | .bool b=>some b
 | _=>none
noncomputable def tB2(h:D->D->Option D) (f g:DE):Rho->Option Bool:=fun ρ=>(A5 h f g ρ).bind R8
theorem bf3{d:D}{c:Bool}(h:R8 d=some c):d=.bool c:=by
 cases d<;>simp[R8]at h
 subst h;rfl
theorem bX9{op:CmpOp}{h:D->D->Option D}{a b:Expr}{f g:DE}{pos:Pos}(o:OpD X (compareOp op) h) (ha:JE X a f) (hb:JE X b g) (hm:behindInMarks op b=false:=by first|exact bt7 _|rfl):JT X (.Compare a [op] [b] pos) (tB2 h f g):=fun ρ c q=>by
 obtain⟨d,q,e⟩:=xbm q
 obtain⟨x,h1,q⟩:=xbm q
 obtain⟨y,h2,h3⟩:=xbm q
 have:=bf3 e
 subst this
 refine aI1 (bF1 (o x y _ h3) (ha ρ x h1) (hb ρ y h2) hm) fun σ H Q ⟨H0,Hf,s,sl,k⟩=>?_
 refine⟨H0,Hf,s,sl,fun v H1 Hf1 g1 r1=>⟨H0,Hf1,g1.sub,sl.grow g1,fun u H2 Hf2 g2 r2=>?_⟩⟩
 exact⟨Hf2,g2.sub,r1.mono g2.ext,r2,fun w H3 Hf3 g3 r3=>⟨c,r3,k H3 Hf3 ((g1.trans g2).trans g3)⟩⟩
noncomputable def ac4(f g:Rho->Option Bool):Rho->Option Bool:=fun ρ=>(f ρ).bind fun c=>if c then g ρ else some false
noncomputable def Q5(f g:Rho->Option Bool):Rho->Option Bool:=fun ρ=>(f ρ).bind fun c=>if c then some true else g ρ
noncomputable def F8(f:Rho->Option Bool):Rho->Option Bool:=fun ρ=>(f ρ).map fun c=>!c
theorem aI0{e:Expr}{t t':TT}(h:PW X e t) (i:∀σ H Q,t' σ H Q->t σ H Q):PW X e t':=fun whole pins s σ H Q I q=>h whole pins s σ H Q I (i σ H Q q)
theorem bv3{e:Expr}{f:Rho->Option Bool}(h:JW X e f):JT X e f:=fun ρ c q=>(h ρ c q).pt
theorem bI5{a:Expr}{f:Rho->Option Bool}{pos:Pos}(h:JT X a f):JW X (.BoolOp .And [a] pos) f:=fun ρ c q=>bE8 (h ρ c q)
theorem bX3{a:Expr}{f:Rho->Option Bool}{pos:Pos}(h:JT X a f):JW X (.BoolOp .Or [a] pos) f:=fun ρ c q=>bS5 (h ρ c q)
theorem bX4{a b:Expr}{T5:List Expr}{f g:Rho->Option Bool}{pos:Pos}(ha:JT X a f) (hb:JW X (.BoolOp .And (b::T5) pos) g):JW X (.BoolOp .And (a::b::T5) pos) (ac4 f g):=fun ρ c q=>by
 obtain⟨x,e1,q⟩:=xbm q
 cases x with
 | true=>exact aI0 (br5 (ha ρ _ e1) (hb ρ c (by simpa using q))) fun σ H Q ⟨H0,Hf,s,sl,k⟩=>⟨H0,Hf,s,sl,fun H1 Hf1 g1=>aA1 ⟨H0,Hf1,g1.sub,sl.grow g1,fun H2 Hf2 g2=>k H2 Hf2 (g1.trans g2)⟩⟩
 | false =>
  have:c=false:=by simpa using q.symm
  subst this
  exact aI0 (br5 (tB':=fun _ _ _=>False) (ha ρ _ e1) (fun _ _ _ _ _ _ _ h=>h.elim)) fun σ H Q ⟨H0,Hf,s,sl,k⟩=>⟨H0,Hf,s,sl,fun H1 Hf1 g1=>aA2 (k H1 Hf1 g1)⟩
theorem ck6{a b:Expr}{T5:List Expr}{f g:Rho->Option Bool}{pos:Pos}(ha:JT X a f) (hb:JW X (.BoolOp .Or (b::T5) pos) g):JW X (.BoolOp .Or (a::b::T5) pos) (Q5 f g):=fun ρ c q=>by
 obtain⟨x,e1,q⟩:=xbm q
 cases x with
 | false=>exact aI0 (bN9 (ha ρ _ e1) (hb ρ c (by simpa using q))) fun σ H Q ⟨H0,Hf,s,sl,k⟩=>⟨H0,Hf,s,sl,fun H1 Hf1 g1=>aA2 ⟨H0,Hf1,g1.sub,sl.grow g1,fun H2 Hf2 g2=>k H2 Hf2 (g1.trans g2)⟩⟩
 | true =>
  have:c=true:=by simpa using q.symm
  subst this
  exact aI0 (bN9 (tB':=fun _ _ _=>False) (ha ρ _ e1) (fun _ _ _ _ _ _ _ h=>h.elim)) fun σ H Q ⟨H0,Hf,s,sl,k⟩=>⟨H0,Hf,s,sl,fun H1 Hf1 g1=>aA1 (k H1 Hf1 g1)⟩
theorem bX8{a:Expr}{f:Rho->Option Bool}{pos:Pos}(ha:JT X a f):JT X (.UnaryOp .Not a pos) (F8 f):=fun ρ c q=>by
 obtain⟨x,e1,e2⟩:=xmo q
 subst e2
 exact aI1 (bS6 (ha ρ x e1)) fun σ H Q ⟨H0,Hf,s,sl,k⟩=>⟨H0,Hf,s,sl,fun H1 Hf1 g1=>k H1 Hf1 g1⟩
noncomputable def ah5(t:Rho->Option Bool) (f g:DE):DE:=fun ρ=>(t ρ).bind fun c=>if c then f ρ else g ρ
theorem ca9{c a b:Expr}{t:Rho->Option Bool}{f g:DE}{pos:Pos}(hc:JT X c t) (ha:JE X a f) (hb:JE X b g):JE X (.IfExp c a b pos) (ah5 t f g):=fun ρ d q=>by
 obtain⟨x,e1,q⟩:=xbm q
 cases x with
 | true=>exact C6 (aN8 (tb:=fun _ _ _=>False) (hc ρ _ e1) (ha ρ d (by simpa using q)) (fun _ _ _ _ _ _ h=>h.elim)) fun σ H Q ⟨H0,Hf,s,sl,k⟩=>⟨H0,Hf,s,sl,fun H1 Hf1 g1=>aA1 ⟨H0,Hf1,g1.sub,sl.grow g1,fun u H2 Hf2 g2 r2=>k u H2 Hf2 (g1.trans g2) r2⟩⟩
 | false=>exact C6 (aN8 (ta:=fun _ _ _=>False) (hc ρ _ e1) (fun _ _ _ _ _ _ h=>h.elim) (hb ρ d (by simpa using q))) fun σ H Q ⟨H0,Hf,s,sl,k⟩=>⟨H0,Hf,s,sl,fun H1 Hf1 g1=>aA2 ⟨H0,Hf1,g1.sub,sl.grow g1,fun u H2 Hf2 g2 r2=>k u H2 Hf2 (g1.trans g2) r2⟩⟩
noncomputable def dIx(f:Rho->Option (Bool×List D)) (g:DE):DE:=fun ρ=>(f ρ).bind fun q=>(g ρ).bind fun i=>match i with
 | .int i=>atI q.2 i
 | _=>none
theorem bE5{K:PySem.W.Frag}{H:Hp}{ds:List D}{vs:List V}{i:Int}{d:D}(h:Reps K H ds vs) (e:atI ds i=some d):∃v,atI vs i=some v/\Rep K H d v:=by
 unfold atI at e ⊢
 rw[h.length]
 obtain⟨j,h1,h2⟩:=xbm e
 obtain⟨v,h3,h4⟩:=h.get h2
 exact⟨v,by rw[h1];exact h3,h4⟩
theorem cl4{a b:Expr}{f:Rho->Option (Bool×List D)}{g:DE}{pos:Pos}(ha:JQ X a f) (hb:JE X b g) (hs:ab9 b:=by intro _ _;rfl):JE X (.Subscript a b pos) (dIx f g):=fun ρ d q=>by
 obtain⟨⟨t,ds⟩,h1,q⟩:=xbm q
 obtain⟨y,h2,h3⟩:=xbm q
 split at h3
 ·refine C6 (bs6 bx5 (ha ρ t ds h1) (hb ρ _ h2) hs) fun σ H Q ⟨H0,Hf,s,sl,k⟩=>?_
  refine⟨H0,Hf,s,sl,fun v H1 Hf1 g1 ⟨p,vs,e1,e2,e3⟩=>⟨H0,Hf1,g1.sub,sl.grow g1,fun u H2 Hf2 g2 r2=>?_⟩⟩
  obtain⟨w,q1,q2⟩:=bE5 (e3.mono g2.ext) h3
  cases t with
  | true=>exact .inr (.inl ⟨p,vs,_,w,e1,r2,E3 g2.big e2,q1,k w H2 Hf2 (g1.trans g2) q2⟩)
  | false=>exact .inl ⟨p,vs,_,w,e1,r2,M3 g2.big e2,q1,k w H2 Hf2 (g1.trans g2) q2⟩
 ·cases h3
noncomputable def v6(xs:List D) (lo hi:Option Int):List D:=(xs.drop (HT.sIx xs.length 0 lo)).take (HT.sIx xs.length xs.length hi - HT.sIx xs.length 0 lo)
theorem av7{K:PySem.W.Frag}{H:Hp}{ds:List D}{vs:List V}(h:Reps K H ds vs) (lo hi:Option Int):Reps K H (v6 ds lo hi) (aR6 vs lo hi):=by
 unfold v6 aR6
 rw[h.length]
 exact(h.drop _).take _
noncomputable def JO(X:Cx) (e:Option Expr) (f:Rho->Option (Option Int)):Prop:=∀ρ o,f ρ=some o->PO X e (fun σ H Q=>∃H0 Hf,G1 Hf H/\Slots X.K H0 ρ σ H Hf/\∀H' Hf',Grow H Hf H' Hf'->Q o H')
noncomputable def S0:Rho->Option (Option Int):=fun _=>some none
noncomputable def Z7:D->Option Int
 | .int i=>some i
 | _=>none
noncomputable def M5(f:DE):Rho->Option (Option Int):=fun ρ=>(f ρ).bind fun d=>(Z7 d).map some
theorem bJ9:JO X none S0:=fun ρ o q=>by
 cases q
 intro pins s σ H Q I ⟨H0,Hf,ss,sl,k⟩
 exact bF6 pins s σ H Q I (k H Hf (Grow.refl ss))
theorem bJ8{e:Expr}{f:DE}(h:JE X e f):JO X (some e) (M5 f):=fun ρ o q=>by
 obtain⟨d,e1,e2⟩:=xbm q
 obtain⟨i,e3,e4⟩:=xmo e2
 subst e4
 cases d<;>simp[Z7]at e3
 subst e3
 intro pins s σ H Q I ⟨H0,Hf,ss,sl,k⟩
 exact bF5 (h ρ _ e1) pins s σ H Q I ⟨H0,Hf,ss,sl,fun v H1 Hf1 g1 r1=>⟨_,r1,k H1 Hf1 g1⟩⟩
noncomputable def ac9(f:DE) (lo hi:Rho->Option (Option Int)):DE:=fun ρ=>(f ρ).bind fun d=>(lo ρ).bind fun l=>(hi ρ).bind fun h=>match d with
 | .tuple xs=>some (.tuple (v6 xs l h))
 | _=>none
theorem ag9{prog:Program}{w:World}{A:Around}{E:Value->Shared->Prop}{s:Shared}{t sl:Addr}{items:Array Value}{vl vu:Value}{lo hi:Option Int}{Q:Value->Shared->Prop}(ht:IsTup s.heap t items) (hs:s.heap.IsSliceOf sl vl vu .none) (pl:IsPart vl lo) (pu:IsPart vu hi)
  (hw:HT.sIx items.size 0 lo=0/\HT.sIx items.size items.size hi=items.size) (h:Q (.ref t) s):wpAny (model prog w) A (getItem (.ref t) (.ref sl)) Q E s:=by
 obtain⟨os,hos,hcs,hds⟩:=id hs
 have hTs:s.TypeIs (.ref sl) "slice" := ⟨os,hos,hcs⟩
 unfold getItem
 try with_reducible refine wpAny_holding ?_
 first|refine wpAny_bind (wpAny_pure ?_)|skip
 refine wpAny_bind (wpAny_sequenceKey ht.typeIs (by decide) ?_)
 refine wpAny_bind (wpAny_callSpecial?_slot (name:=Str.ofString "__getitem__") ht.typeIs PyProof.Rows.slot_tuple_getitem
  (wpAny_call_entry PyProof.Rows.slot_tuple_getitem ht.typeIs entry_tuple_getitem ?_ (args_tuple_getitem _ _)))
 show wpAny _ _ (Builtin.Tuple.tupleItemsOf (.ref t) >>= _) _ _ s
 refine wpAny_bind (tupleItemsOf_ ht ?_)
 refine wpAny_bind (wpAny_typeOf hTs ?_)
 rw[if_pos (by decide)]
 refine wpAny_bind (HT.sliceApplied_gen hs pl pu ?_)
 have hyes:((((HT.sIx items.size 0 lo:Nat):Int)==0&&(1:Int)==1&&(HT.sIx items.size items.size hi - HT.sIx items.size 0 lo)==items.size)=true):=by rw[hw.1,hw.2];simp
 show wpAny _ _ (if(((HT.sIx items.size 0 lo:Nat):Int)==0&&(1:Int)==1&&(HT.sIx items.size items.size hi - HT.sIx items.size 0 lo)==items.size)=true then _ else _) _ _ s
 rw[if_pos hyes]
 unfold Builtin.Tuple.tupleIsExact
 refine wpAny_bind (wpAny_bind (wpAny_typeOf ht.typeIs (wpAny_pure ?_)))
 rw[if_pos (by decide +kernel)]
 exact wpAny_bind (wpAny_rule (wpAny_pure ⟨_,rfl,wpAny_pure h⟩))
theorem aH2:SlR X (fun x lo hi H Q=>∃a xs,x=.ref a/\SqT X.K H a xs/\(HT.sIx xs.length 0 lo=0/\HT.sIx xs.length xs.length hi=xs.length)/\Q (.ref a) H):=by
 intro pins s σ H x v vl vu lo hi sl Q I rx hs pl pu h
 obtain⟨a,xs,rfl,hx,hw,q⟩:=h
 cases rx
 obtain⟨its,r,ht,hz⟩:=I.tuple hx
 have hlen:its.toArray.size=xs.length:=by rw[List.size_toArray];exact r.length.symm
 refine⟨"tuple", _,PyProof.Rows.slot_tuple_getitem.lookup,ht.typeIs,?_⟩
 exact ag9 ht hs pl pu (by rw[hlen];exact hw) ⟨.ref a,H,I,rfl,q⟩
theorem bw6{a:Expr}{lo hi:Option Expr}{f:DE}{l h:Rho->Option (Option Int)}{pos p2:Pos}(ha:JE X a f) (hl:JO X lo l) (hh:JO X hi h):JE X (.Subscript a (.Slice lo hi none p2) pos) (ac9 f l h):=fun ρ d q=>by
 obtain⟨x,e1,q⟩:=xbm q
 obtain⟨y,e2,q⟩:=xbm q
 obtain⟨z,e3,q⟩:=xbm q
 cases x with
 | tuple xs =>
  cases q
  refine C6 (al5 (bS1.or aH2) (ha ρ _ e1) (hl ρ y e2) (hh ρ z e3)) fun σ H Q ⟨H0,Hf,s,sl,k⟩=>?_
  refine⟨H0,Hf,s,sl,fun v H1 Hf1 g1 ⟨p,vs,q1,q2,q3⟩=>⟨H0,Hf1,g1.sub,sl.grow g1,fun H2 Hf2 g2=>⟨H0,Hf2,g2.sub,sl.grow (g1.trans g2),fun H3 Hf3 g3=>?_⟩⟩⟩
  subst q1
  have q2':=E3 (g2.trans g3).ext q2
  have q3':=q3.mono (g2.trans g3).ext
  by_cases c:HT.sIx vs.length 0 y=0/\HT.sIx vs.length vs.length z=vs.length
  ·refine .inr ⟨p,vs,rfl,E3 g3.sub q2',c,k _ H3 Hf3 ((g1.trans g2).trans g3) ⟨p,vs,rfl,q2',?_⟩⟩
   have:v6 xs y z=xs:=by
    unfold v6
    rw[← q3.length,c.1,c.2]
    simp[q3.length]
   rw[this];exact q3'
  ·refine .inl ⟨p,vs,rfl,E3 g3.sub q2',c,fun p' hp=>?_⟩
   exact k _ _ _ (((g1.trans g2).trans g3).trans (Grow.laid g3.sub hp)) ⟨p',_,rfl,SqT.of C5,(av7 q3' y z).mono (G0 (g3.sub.free hp))⟩
 | _=>cases q
end
section
variable {X:Cx}
theorem aZ3:bootBuiltins "len" = some (.builtin "len"):=PySem.boot_len
theorem ce6:bootBuiltins "all" = some (.builtin "all"):=by decide +kernel
theorem ce5:bootBuiltins "isinstance" = some (.builtin "isinstance"):=by decide +kernel
theorem aZ4:bootBuiltins "int" = some (.type "int"):=by decide +kernel
theorem bM9:bootBuiltins "bool" = some (.type "bool"):=by decide +kernel
theorem ce1:bootBuiltins "str" = some (.type "str"):=by decide +kernel
theorem bf4:bootBuiltins "list" = some (.type "list"):=by decide +kernel
theorem aS4:bootBuiltins "tuple" = some (.type "tuple"):=by decide +kernel
theorem ce0:bootBuiltins "zip" = some (.type "zip"):=by decide +kernel
noncomputable def R4(f:Rho->Option (Bool×List D)):DE:=fun ρ=>(f ρ).map fun q=>.int q.2.length
theorem bw8{e:Expr}{f:Rho->Option (Bool×List D)}{p pos:Pos}(hg:Gl X "len") (hm:X.mg "len" = none) (h:JQ X e f) (he:starEach [e] X.env=[(false,eval e X.env)]:=by rfl):JE X (.Call (.Name "len" p) [e] [] pos) (R4 f):=fun ρ d q=>by
 obtain⟨⟨t,ds⟩,h1,h2⟩:=xmo q
 subst h2
 refine C6 (Y5 aL2 hg hm aZ3 (L4 (h ρ t ds h1) R6 he) (he:=he)) fun σ H Q ⟨H0,Hf,s,sl,k⟩=>?_
 refine⟨H0,Hf,s,sl,fun v H1 Hf1 g1 ⟨a,vs,e1,e2,e3⟩=>⟨a,vs,by rw[e1],?_,?_⟩⟩
 ·cases t with
  | true=>exact .inr e2
  | false=>exact .inl e2
 ·exact k _ H1 Hf1 g1 (by rw[e3.length];rfl)
theorem bw5{e:Expr}{f:Rho->Option (Bool×List D)}{p pos:Pos}(hg:Gl X "tuple") (hm:X.mg "tuple" = none) (h:JQ X e f) (hz:∀ρ ds,f ρ≠some (true,ds)\/True:=by intros;exact .inr trivial) (he:starEach [e] X.env=[(false,eval e X.env)]:=by rfl) :
  JE X (.Call (.Name "tuple" p) [e] [] pos) (fun ρ=>(f ρ).bind fun q=>if q.1=true then none else some (.tuple q.2)):=fun ρ d q=>by
 obtain⟨⟨t,ds⟩,h1,h2⟩:=xbm q
 cases t with
 | true=>simp at h2
 | false =>
  simp only[Bool.false_eq_true,if_false,Option.some.injEq]at h2
  subst h2
  refine C6 (v2 aB5 hg hm aS4 (L4 (h ρ false ds h1) R6 he) (he:=he)) fun σ H Q ⟨H0,Hf,s,sl,k⟩=>?_
  refine⟨H0,Hf,s,sl,fun v H1 Hf1 g1 ⟨a,vs,e1,e2,e3⟩=>⟨a,vs,by rw[e1],.inl ⟨e2,fun l hl=>?_⟩⟩⟩
  exact k _ _ _ (g1.trans (Grow.laid g1.sub hl)) ⟨l,vs,rfl,SqT.of C5,e3.mono (G0 (g1.sub.free hl))⟩
theorem bK0{e:Expr}{f:Rho->Option (Bool×List D)}{p pos:Pos}(hg:Gl X "list") (hm:X.mg "list" = none) (h:JQ X e f) (he:starEach [e] X.env=[(false,eval e X.env)]:=by rfl):JN X (.Call (.Name "list" p) [e] [] pos) (fun ρ=>(f ρ).map fun q=>q.2):=fun ρ ds' q=>by
 obtain⟨⟨t,ds⟩,h1,h2⟩:=xmo q
 subst h2
 refine C6 (v2 aL0 hg hm bf4 (L4 (h ρ t ds h1) R6 he) (he:=he)) fun σ H Q ⟨H0,Hf,s,sl,k⟩=>?_
 refine⟨H0,Hf,s,sl,fun v H1 Hf1 g1 ⟨a,vs,e1,e2,e3⟩=>⟨a,vs,by rw[e1],?_,fun l hl=>?_⟩⟩
 ·cases t with
  | true=>exact .inr e2
  | false=>exact .inl e2
 ·exact k _ _ _ (g1.trans (Grow.made g1.sub hl)) ⟨l,vs,rfl,g1.big.free hl,C5,g1.sub.free hl,e3⟩
noncomputable def aj5(f:DE):DE:=fun ρ=>(f ρ).bind fun d=>match d with
 | .int i=>some (.int i)
 | .bool b=>some (.int (if b then 1 else 0))
 | _=>none
theorem bw9{e:Expr}{f:DE}{p pos:Pos}(hg:Gl X "int") (hm:X.mg "int" = none) (h:JE X e f) (he:starEach [e] X.env=[(false,eval e X.env)]:=by rfl):JE X (.Call (.Name "int" p) [e] [] pos) (aj5 f):=fun ρ d q=>by
 obtain⟨x,h1,h2⟩:=xbm q
 split at h2
 ·cases h2
  exact C6 (v2 aF2 hg hm aZ4 (L4 (h ρ _ h1) R6 he) (he:=he)) fun σ H Q ⟨H0,Hf,s,sl,k⟩ =>⟨H0,Hf,s,sl,fun v H1 Hf1 g1 r=>.inl ⟨_,by rw[show v=_ from r],k _ H1 Hf1 g1 rfl⟩⟩
 ·cases h2
  exact C6 (v2 aF2 hg hm aZ4 (L4 (h ρ _ h1) R6 he) (he:=he)) fun σ H Q ⟨H0,Hf,s,sl,k⟩ =>⟨H0,Hf,s,sl,fun v H1 Hf1 g1 r=>.inr ⟨_,by rw[show v=_ from r],k _ H1 Hf1 g1 rfl⟩⟩
 ·cases h2
noncomputable def aL5:List D->Option Bool
 | []=>some true
 | .bool b::r=>(aL5 r).map fun c=>b&&c
 | _::_=>none
theorem aS6:∀{ds:List D}{c:Bool},aL5 ds=some c->∃bs:List Bool,ds=bs.map PyData.bool/\c=bs.all id
 | [],c,h=>by cases h;exact⟨[],rfl,rfl⟩
 | .bool b::r,c,h=>by
  obtain⟨c',h1,h2⟩:=xmo h
  obtain⟨bs,h3,h4⟩:=aS6 h1
  exact⟨b::bs,by simp[h3],by simp[← h2,h4]⟩
theorem av8{K:PySem.W.Frag}{H:Hp}:∀{bs:List Bool}{vs:List V},Reps K H (bs.map PyData.bool) vs->vs=bs.map V.bl
 | [],_,h=>h
 | _::_,_,⟨v,r,h1,h2,h3⟩=>by subst h1;rw[show v=_ from h2,av8 h3];rfl
theorem bn1:t8 X (.builtin "all") (fun xs H Q=>X.calm=true/\∃(p:Addr) (bs:List Bool),xs=[.ref p]/\SqL X.K H p (bs.map V.bl)/\Q (.bl (bs.all id)) H):=by
 intro pins s σ H xs us Q I r h
 obtain⟨hc,p,bs,rfl,hq,q⟩:=h
 obtain⟨u,rfl,rx⟩:=ak4 r
 cases rx
 obtain⟨its,rv,pl,hz⟩:=I.list hq
 have hlen:=rv.length
 have hh:X.A.in1.handled=none:=I.ok.hd hc
 have hlt:p < s.heap.objs.size:=by obtain⟨_,e,_⟩:=pl.isList;exact Heap.lt_size e
 refine call_all_walk (wpAny_pyIter_list pl.isList ?_)
 refine⟨s.heap.objs.size,_,_,_,_,_,fun i=>(bs[i]?).getD false,rfl,Walks.list hh _ p (Nat.ne_of_lt hlt) its.toArray,⟨⟨_,Heap.get?_push_size _ rfl,rfl,rfl⟩,pl.isList.at fun o e=>Heap.get?_push_of_some _ e⟩,?_,?_⟩
 ·intro i v s' Q' E' hv hQ
  have hv':its[i]? = some v:=by simpa using hv
  have:∃b,bs[i]? = some b:=by
   have:i < its.length:=(List.getElem?_eq_some_iff.mp hv').1
   have:i < bs.length:=by simpa using (by omega:i < (bs.map V.bl).length)
   exact⟨bs[i],by simp[this]⟩
  obtain⟨b,hb⟩:=this
  obtain⟨u,hu,ru⟩:=rv.get (i:=i) (x:=.bl b) (by simp[hb])
  rw[hv']at hu;cases hu
  cases ru
  exact wpAny_truthy_bool (by simpa [hb] using hQ)
 ·intro h' tk hk
  have e:((List.range its.toArray.size).all fun i=>(bs[i]?).getD false)=bs.all id:=by
   have hn:its.toArray.size=bs.length:=by simpa using hlen.symm
   rw[hn,Bool.eq_iff_iff]
   simp only[List.all_eq_true,List.mem_range,id]
   constructor
   ·intro h x hx
    obtain⟨i,hi,rfl⟩:=List.mem_iff_getElem.mp hx
    simpa [hi] using h i hi
   ·intro h i hi
    simpa [hi] using h bs[i] (List.getElem_mem hi)
  rw[e]
  have I1:Inv X pins σ H { s with heap:=h',toks:=tk }:=by
   have I0:Inv X pins σ H { s with heap:=s.heap.push { cls:=.type "list_iterator", data:=.fields #[.ref p,rawInt 0] } }:=I.kept (t':=s.toks) fun b o e=>Heap.get?_push_of_some _ e
   refine I.kept (t':=tk) fun b o e=>hk b o ?_ (Heap.get?_push_of_some _ e)
   intro hb
   have:b=s.heap.objs.size:=by simpa using hb
   subst this
   exact absurd (Heap.lt_size e) (Nat.lt_irrefl _)
  exact⟨.bl (bs.all id),H,I1,rfl,q⟩
noncomputable def ab7(f:Rho->Option (Bool×List D)):DE:=fun ρ=>(f ρ).bind fun q=>if q.1=true then none else(aL5 q.2).map PyData.bool
theorem cb3{e:Expr}{f:Rho->Option (Bool×List D)}{p pos:Pos}(hg:Gl X "all") (hm:X.mg "all" = none) (h:JQ X e f) (hc:X.calm=true:=by rfl) (he:starEach [e] X.env=[(false,eval e X.env)]:=by rfl):JE X (.Call (.Name "all" p) [e] [] pos) (ab7 f):=fun ρ d q=>by
 obtain⟨⟨t,ds⟩,h1,h2⟩:=xbm q
 cases t with
 | true=>simp at h2
 | false =>
  simp only[Bool.false_eq_true,if_false]at h2
  obtain⟨c,h3,h4⟩:=xmo h2
  subst h4
  obtain⟨bs,h5,h6⟩:=aS6 h3
  subst h5 h6
  refine C6 (Y5 bn1 hg hm ce6 (L4 (h ρ false _ h1) R6 he) (he:=he)) fun σ H Q ⟨H0,Hf,s,sl,k⟩=>?_
  refine⟨H0,Hf,s,sl,fun v H1 Hf1 g1 ⟨a,vs,e1,e2,e3⟩=>⟨hc,a,bs,by rw[e1],?_,k _ H1 Hf1 g1 rfl⟩⟩
  rw[av8 e3]at e2
  exact e2
noncomputable def am2(T:String) (d:D):Option Bool:=match d with
 | .int _=>(match T with | "int" => some true | "bool" => some false | "str" => some false | "tuple" => some false | "list" => some false|_=>none)
 | .bool _=>(match T with | "int" => some true | "bool" => some true | "str" => some false | "tuple" => some false | "list" => some false|_=>none)
 | .none=>(match T with | "int" => some false | "bool" => some false | "str" => some false | "tuple" => some false | "list" => some false|_=>none)
 | .str _=>(match T with | "int" => some false | "bool" => some false | "str" => some true | "tuple" => some false | "list" => some false|_=>none)
 | .tuple _=>(match T with | "int" => some false | "bool" => some false | "str" => some false | "tuple" => some true | "list" => some false|_=>none)
 | .list _=>(match T with | "int" => some false | "bool" => some false | "str" => some false | "tuple" => some false | "list" => some true|_=>none)
 | _=>none
noncomputable def tyD:D->String
 | .int _ => "int"
 | .bool _ => "bool"
 | .none => "NoneType"
 | .str _ => "str"
 | .tuple _ => "tuple"
 | .list _ => "list"
 | .dict _ => "dict"
theorem bL5{K:PySem.W.Frag}{T:String}{d:D}{b:Bool}(h:am2 T d=some b):PySem.W.kitOne K (.type (tyD d)) (.type T)=some b:=by
 unfold am2 at h
 cases d<;>first
  | (dsimp only at h;split at h<;>first
   | (cases h;rfl)
   | cases h)
  | cases h
theorem bB2{T:String}:t8 X (.builtin "isinstance") (fun xs H Q=>∃d x b,xs=[x,.ty T]/\Rep X.K H d x/\am2 T d=some b/\Q (.bl b) H):=by
 intro pins s σ H xs us Q I r h
 obtain⟨d,x,b,rfl,hd,hb,q⟩:=h
 obtain⟨u,c,rfl,rx,rc⟩:=ba5 r
 cases rc
 have e:=bL5 (K:=X.K) hb
 have fin:∀tk,EP X pins σ Q (.bool b) { s with toks:=tk }:=fun tk=>⟨.bl b,H,I.tok tk,rfl,q⟩
 cases d with
 | none=>cases hd;cases rx;exact PySem.W.kia_one PySem.W.kitx_none I.kIn True.intro e (fun z=>nomatch z) fin
 | bool y=>cases hd;cases rx;exact PySem.W.kia_one PySem.W.kitx_bool I.kIn True.intro e (fun z=>nomatch z) fin
 | int i=>cases hd;obtain⟨t,rfl⟩:=rx;exact PySem.W.kia_one PySem.W.kitx_int I.kIn True.intro e (fun z=>nomatch z) fin
 | str i=>cases hd;obtain⟨t,rfl⟩:=rx;exact PySem.W.kia_one PySem.W.kitx_str I.kIn True.intro e (fun z=>nomatch z) fin
 | tuple ds =>
  obtain⟨a,vs,rfl,h2,h3⟩:=hd
  cases rx
  obtain⟨its,rv,⟨o,ho,hc,_⟩,_⟩:=I.tuple h2
  exact PySem.W.kia_one PySem.W.kitx_tuple I.kIn ⟨o,ho,hc⟩ e (fun z=>nomatch z) fin
 | list ds =>
  obtain⟨a,vs,rfl,h2,h3⟩:=hd
  cases rx
  obtain⟨its,rv,pl,_⟩:=I.list h2
  obtain⟨o,ho,hc,_⟩:=pl.isList
  exact PySem.W.kia_one PySem.W.kitx_list I.kIn ⟨o,ho,hc⟩ e (fun z=>nomatch z) fin
 | dict ds=>exact hd.elim
noncomputable def Y7(T:String) (f:DE):DE:=fun ρ=>(f ρ).bind fun d=>(am2 T d).map PyData.bool
theorem ca8{e:Expr}{f:DE}{x:Str}{T:String}{p p2 pos:Pos}(hg:Gl X "isinstance") (hm:X.mg "isinstance" = none) (hgT:Gl X x) (hmT:X.mg x=none) (hvT:bootBuiltins x=some (.type T)) (h:JE X e f)
  (hn:x ≠ "__name__" := by decide) (hd:(x==("__debug__" : Str))=false:=by decide)
  (he:starEach [e,.Name x p2] X.env=(false,eval e X.env)::starEach [.Name x p2] X.env:=by rfl) (he2:starEach [.Name x p2] X.env=[(false,eval (.Name x p2) X.env)]:=by rfl) (hpl:(backTo pos (starEach [.Name x p2] X.env)).any (·.1)=false:=by rfl) :
  JE X (.Call (.Name "isinstance" p) [e,.Name x p2] [] pos) (Y7 T f):=fun ρ d q=>by
 obtain⟨y,h1,h2⟩:=xbm q
 obtain⟨b,h3,h4⟩:=xmo h2
 subst h4
 refine C6 (Y5 (bB2 (T:=T)) hg hm ce5 (L4 (h ρ y h1) (L4 (bG3 (v:=.ty T) hgT hmT hvT rfl hn hd) R6 he2) he) (he:=he) (hpl:=hpl)) fun σ H Q ⟨H0,Hf,s,sl,k⟩=>?_
 exact⟨H0,Hf,s,sl,fun v H1 Hf1 g1 r=>⟨y,v,b,rfl,r.mono g1.sub,h3,k _ H1 Hf1 g1 rfl⟩⟩
noncomputable def spF(K:PySem.W.Frag) (n:Nat) (F:List D->Option D):Sp:=fun vs H Q _=>vs.length=n/\∃Hf ds d,G1 Hf H/\Reps K Hf ds vs/\F ds=some d/\∀v H' Hf',Grow H Hf H' Hf'->Rep K Hf' d v->Q v H'
noncomputable def A2(F:List D->Option D) (f:Rho->Option (List D)):DE:=fun ρ=>(f ρ).bind F
theorem bL1{k:Nat}{f:Addr}{fd:FuncData}{ps:List Str}{n:Nat}{F:List D->Option D}{x:Str}{e:Expr}{es:List Expr}{g:Rho->Option (List D)}{p pos:Pos}(Fk:FnOk X.prog X.w X.K X.mg X.base CX0 k f fd ps (spF X.K n F)) (hr:Room k X.A) (hg:Gl X x) (hm:X.mg x=some (.ref f)) (hk:PySem.W.keepIn X.K (.ref f)=true) (hb:T8 X.K fd ps [])
  (ha:JA X (e::es) g) (hn:(e::es).length=n:=by rfl) (hdb:(x==("__debug__" : Str))=false:=by decide) (he:starEach (e::es) X.env=(false,eval e X.env)::starEach es X.env:=by rfl) (hpl:(backTo pos (starEach es X.env)).any (·.1)=false:=by rfl) :
  JE X (.Call (.Name x p) (e::es) [] pos) (A2 F g):=fun ρ d q=>by
 obtain⟨ds,h1,h2⟩:=xbm q
 refine C6 (bG2 Fk hr hg hm hk hb .nil bs9 (fun pos pins s σ H Q I t=>ha.run ρ ds h1 pos pins s σ H Q I t) hdb he hpl) fun σ H Q ⟨H0,Hf,s,sl,kk⟩=>?_
 refine⟨H0,Hf,s,sl,fun vs H1 Hf1 g1 r1=>⟨?_,Hf1,ds,d,g1.sub,by rw[List.append_nil];exact r1,h2,fun v H2 Hf2 g2 r2=>kk v H2 Hf2 (g1.trans g2) r2⟩⟩
 rw[List.append_nil,r1.length,ha.len ρ ds h1,hn]
inductive Fl where
 | nx (ρ:Rho)
 | rt (d:D)
 | bk (ρ:Rho)
 | ct (ρ:Rho)
noncomputable abbrev DS:=Rho->Option Fl
structure At (K:PySem.W.Frag) (H0 Hf0:Hp) (ρ:Rho) (σ:L2.St) (H Hf:Hp):Prop where
 gr:Grow H0 Hf0 H Hf
 sl:Slots K H0 ρ σ H Hf
noncomputable def Fl.ends(K:PySem.W.Frag) (H0 Hf0 Hf:Hp) (En:Ends):Fl->Prop
 | .nx ρ=>∀σ' H' Hf',At K H0 Hf0 ρ σ' H' Hf'->G1 Hf Hf'->En.nx σ' H'
 | .bk ρ=>∀σ' H' Hf',At K H0 Hf0 ρ σ' H' Hf'->G1 Hf Hf'->En.bk σ' H'
 | .ct ρ=>∀σ' H' Hf',At K H0 Hf0 ρ σ' H' Hf'->G1 Hf Hf'->En.ct σ' H'
 | .rt d=>∀v H' Hf',Grow H0 Hf0 H' Hf'->Rep K Hf' d v->En.rt v H'
noncomputable def tJS(K:PySem.W.Frag) (H0 Hf0:Hp) (ρ:Rho) (fl:Fl):TS:=fun En σ H=>∃Hf,At K H0 Hf0 ρ σ H Hf/\fl.ends K H0 Hf0 Hf En
noncomputable def JS(X:Cx) (st:Stmt) (f:DS):Prop:=∀ρ fl,f ρ=some fl->∀H0 Hf0,PS X st (tJS X.K H0 Hf0 ρ fl)
noncomputable def JSs(X:Cx) (sts:List Stmt) (f:DS):Prop:=∀ρ fl,f ρ=some fl->∀H0 Hf0,PSs X sts (tJS X.K H0 Hf0 ρ fl)
theorem T6{st:Stmt}{t t':TS}(h:PS X st t) (i:∀En σ H,t' En σ H->t En σ H):PS X st t':=fun pins s σ H En I q=>h pins s σ H En I (i En σ H q)
theorem al3{st:List Stmt}{t t':TS}(h:PSs X st t) (i:∀En σ H,t' En σ H->t En σ H):PSs X st t':=fun pins s σ H En I q=>h pins s σ H En I (i En σ H q)
theorem At.grow{K:PySem.W.Frag}{H0 Hf0 H Hf H' Hf':Hp}{ρ:Rho}{σ:L2.St}(a:At K H0 Hf0 ρ σ H Hf) (g:Grow H Hf H' Hf'):At K H0 Hf0 ρ σ H' Hf':=⟨a.gr.trans g,a.sl.grow g⟩
theorem Fl.ends_mono{K:PySem.W.Frag}{H0 Hf0 Hf Hf':Hp}{En:Ends}{fl:Fl}(h:fl.ends K H0 Hf0 Hf En) (e:G1 Hf Hf'):fl.ends K H0 Hf0 Hf' En:=by
 cases fl with
 | nx ρ=>exact fun σ' H' Hf'' a s=>h σ' H' Hf'' a (e.trans s)
 | bk ρ=>exact fun σ' H' Hf'' a s=>h σ' H' Hf'' a (e.trans s)
 | ct ρ=>exact fun σ' H' Hf'' a s=>h σ' H' Hf'' a (e.trans s)
 | rt d=>exact h
noncomputable def C9:DS:=fun ρ=>some (.nx ρ)
noncomputable def B0(f g:DS):DS:=fun ρ=>(f ρ).bind fun fl=>match fl with
 | .nx ρ'=>g ρ'
 | fl=>some fl
theorem bI9:JSs X [] C9:=fun ρ fl q H0 Hf0=>by
 cases q
 exact al3 bF3 fun En σ H ⟨Hf,a,e⟩=>e σ H Hf a (G1.refl _)
theorem bv5{st:Stmt}{sts:List Stmt}{f g:DS}(h1:JS X st f) (h2:JSs X sts g):JSs X (st::sts) (B0 f g):=fun ρ fl q H0 Hf0=>by
 obtain⟨fl1,e1,q⟩:=xbm q
 cases fl1 with
 | nx ρ' =>refine al3 (al4 (h1 ρ _ e1 H0 Hf0) (h2 ρ' fl q H0 Hf0)) fun En σ H ⟨Hf,a,e⟩=>⟨Hf,a,fun σ' H' Hf' a' s'=>⟨Hf',a',Fl.ends_mono e s'⟩⟩
 | rt d=>cases q;exact al3 (al4 (h1 ρ _ e1 H0 Hf0) u9) fun En σ H ⟨Hf,a,e⟩=>⟨Hf,a,e⟩
 | bk ρ'=>cases q;exact al3 (al4 (h1 ρ _ e1 H0 Hf0) u9) fun En σ H ⟨Hf,a,e⟩=>⟨Hf,a,e⟩
 | ct ρ'=>cases q;exact al3 (al4 (h1 ρ _ e1 H0 Hf0) u9) fun En σ H ⟨Hf,a,e⟩=>⟨Hf,a,e⟩
theorem bI8{st:Stmt}{f:DS}(h1:JS X st f):JSs X [st] f:=fun ρ fl q H0 Hf0=>bF2 (h1 ρ fl q H0 Hf0)
noncomputable def A9(f:DE):DS:=fun ρ=>(f ρ).map Fl.rt
theorem aW8{e:Expr}{f:DE}{pos:Pos}(h:JE X e f):JS X (.Return (some e) pos) (A9 f):=fun ρ fl q H0 Hf0=>by
 obtain⟨d,e1,e2⟩:=xmo q
 subst e2
 exact T6 (bS8 (h ρ d e1)) fun En σ H ⟨Hf,a,e⟩=>⟨H0,Hf,a.gr.sub,a.sl,fun v H' Hf' g r=>e v H' Hf' (a.gr.trans g) r⟩
noncomputable def sIf(t:Rho->Option Bool) (f g:DS):DS:=fun ρ=>(t ρ).bind fun c=>if c then f ρ else g ρ
theorem ck8{c:Expr}{a b:List Stmt}{t:Rho->Option Bool}{f g:DS}{pos:Pos}(hc:JT X c t) (ha:JSs X a f) (hb:JSs X b g):JS X (.If c a b pos) (sIf t f g):=fun ρ fl q H0 Hf0=>by
 obtain⟨x,e1,q⟩:=xbm q
 cases x with
 | true =>refine T6 (bO0 (hc ρ _ e1) (ha ρ fl (by simpa using q) H0 Hf0) u9) fun En σ H ⟨Hf,a,e⟩=>⟨H0,Hf,a.gr.sub,a.sl,fun H' Hf' g=>aA1 ⟨Hf',a.grow g,Fl.ends_mono e g.ext⟩⟩
 | false =>refine T6 (bO0 (hc ρ _ e1) u9 (hb ρ fl (by simpa using q) H0 Hf0)) fun En σ H ⟨Hf,a,e⟩=>⟨H0,Hf,a.gr.sub,a.sl,fun H' Hf' g=>aA2 ⟨Hf',a.grow g,Fl.ends_mono e g.ext⟩⟩
theorem Slots.set{K:PySem.W.Frag}{H0 H Hf:Hp}{ρ:Rho}{σ:L2.St}{i:Nat}{d:D}{v:V}(s:Slots K H0 ρ σ H Hf) (r:Rep K Hf d v):Slots K H0 (ρ.set i (some (.val d))) (σ.set i (some v)) H Hf:=by
 refine⟨by simp[s.len],fun j b e=>?_,fun j k ds es a h1 h2 h3 h4=>?_⟩
 ·by_cases q:i=j
  ·subst q
   have hi:i < ρ.length:=by
    have:=(List.getElem?_eq_some_iff.mp e).1
    simpa using this
   have hi':i < σ.length:=by rw[← s.len];exact hi
   rw[List.getElem?_set_self hi]at e
   cases e
   exact⟨v,List.getElem?_set_self hi',r⟩
  ·rw[List.getElem?_set_ne q]at e
   obtain⟨u,h1,h2⟩:=s.is j b e
   exact⟨u,by rw[List.getElem?_set_ne q];exact h1,h2⟩
 ·have hj:i≠j:=by
   intro q;subst q
   have hi:i < ρ.length:=by
    have:=(List.getElem?_eq_some_iff.mp h1).1
    simpa using this
   rw[List.getElem?_set_self hi]at h1
   cases h1
  have hk:i≠k:=by
   intro q;subst q
   have hi:i < ρ.length:=by
    have:=(List.getElem?_eq_some_iff.mp h2).1
    simpa using this
   rw[List.getElem?_set_self hi]at h2
   cases h2
  rw[List.getElem?_set_ne hj]at h1 h3
  rw[List.getElem?_set_ne hk]at h2 h4
  exact s.apart j k ds es a h1 h2 h3 h4
noncomputable def B2(i:Nat) (f:DE):DS:=fun ρ=>(f ρ).map fun d=>.nx (ρ.set i (some (.val d)))
theorem aW7(i:Nat) {x:Str}{e:Expr}{f:DE}{pos pos':Pos}(hN:X.N.Nodup) (h:JE X e f) (hi:X.N[i]? = some x:=by rfl) (hx:Loc X.env.scope x:=by first|exact Or.inl rfl|exact Or.inr rfl)
  (hs:swapsWith e (some (.Name x pos')) pos.line X.env=pure false:=by rfl) (hf:X.fn x=true\/X.env.scope.names.lookup x=some .local:=by first|exact .inl rfl|exact .inr rfl):JS X (.Assign [.Name x pos'] e pos) (B2 i f):=fun ρ fl q H0 Hf0=>by
 obtain⟨d,e1,e2⟩:=xmo q
 subst e2
 exact T6 (br8 hN hi hx (h ρ d e1) hs hf) fun En σ H ⟨Hf,a,e⟩=>⟨H0,Hf,a.gr.sub,a.sl,fun v H' Hf' g r=>e _ H' Hf' ⟨a.gr.trans g,(a.sl.grow g).set r⟩ g.ext⟩
noncomputable def bq8(i j:Nat) (f:Rho->Option (List D)):DS:=fun ρ=>(f ρ).bind fun ds=>match ds with
 | [a,b]=>some (.nx ((ρ.set i (some (.val a))).set j (some (.val b))))
 | _=>none
end
theorem bm5{prog:Program}{w:World}{A:Around}{R:Result->Shared->Prop}{s:Shared}{elt target iter:Expr}{ifs:List Expr}{scope:Scope}{pos:Pos}{it acc:Value}{env:Env}(I:Nat->Shared->Prop)
  (turn:∀n s,I n s->wpAny (model prog w) A (pyNext it) (fun r s1=>match r with
   | none=>R (.ok .next) s1
   | some v=>wpAny (model prog w) A (letOwnedTupleGo target it v) (fun _ s1'=>wpAny (model prog w) A (assign target env v) (fun _ s2 =>
     wpAny (model prog w) A (forIn ifs true fun c r=>if r=true then do let ok ← isTrue c env (eval c env);pure (ForInStep.yield ok) else pure (ForInStep.yield r)) (fun ok s3 =>
      if ok=true then wpAny (model prog w) A (eval elt env) (fun x s4 =>wpAny (model prog w) A (call (.builtin "list.append") [acc,x]) (fun _ s5=>∃m,m < n/\I m s5) (fun _ _=>False) s4) (fun _ _=>False) s3
      else ∃m,m < n/\I m s3) (fun _ _=>False) s2) (fun _ _=>False) s1') (fun _ _=>False) s1) (fun _ _=>False) s)
  (n:Nat) (h:I n s) :
  codeAny (model prog w) A (.compLoop (.ListComp elt [⟨target,iter,ifs,0⟩] scope pos) 0 it acc env) R s:=by
 refine codeAny_loop rfl I (fun n s hI=>?_) n h
 show wpAny _ A ((compTurn (.ListComp elt [⟨target,iter,ifs,0⟩] scope pos) 0 it acc env).onRaise (fun x=>do noteFrame x env;theTreesLotGoes x)) _ _ s
 refine wpAny_noted ?_
 rw[compTurn_list]
 refine wpAny_bind (wpAny_standAt (wpAny_bind (wpAny_mono (turn n s hI) (fun r s1 h1=>?_) fun _ _ h'=>h'.elim)))
 cases r with
 | none=>exact wpAny_pure h1
 | some v =>
  refine wpAny_bind (wpAny_mono h1 (fun _ s1' h1'=>?_) fun _ _ h'=>h'.elim)
  refine wpAny_bind (wpAny_mono h1' (fun _ s2 h2=>wpAny_bind (wpAny_mono h2 (fun ok s3 h3=>?_) fun _ _ h'=>h'.elim)) fun _ _ h'=>h'.elim)
  cases ok with
  | false=>exact wpAny_pure ⟨rfl,h3⟩
  | true =>exact wpAny_bind (wpAny_bind (wpAny_mono h3 (fun x s4 h4=>wpAny_bind (wpAny_mono h4 (fun _ s5 h5=>wpAny_pure (wpAny_pure ⟨rfl,h5⟩)) fun _ _ h'=>h'.elim)) fun _ _ h'=>h'.elim))
noncomputable def V1(cells:List (Str×Addr)):List (Str×NameKind)->List (Str×Addr)->List (Str×Addr)
 | [],cs=>cs
 | (n,k)::r,cs=>if(k==NameKind.free)=true then V1 cells r ((n,(cells.lookup n).getD 0)::cs) else V1 cells r cs
theorem ay1{env:Env}:∀(names:List (Str×NameKind)) (cs:List (Str×Addr)),(∀y∈names,y.2=.free->∃c,env.cells.lookup y.1=some c) ->
  (forIn names cs fun(x:Str×NameKind) (r:List (Str×Addr))=>if(x.2==NameKind.free)=true then do let a ← cellOf env x.1;pure (ForInStep.yield ((x.1,a)::r)) else pure (ForInStep.yield r):Sem (List (Str×Addr)))=pure (V1 env.cells names cs)
 | [],cs,_=>rfl
 | (n,k)::r,cs,h=>by
  rw[List.forIn_cons]
  have hr:∀y∈r,y.2=.free->∃c,env.cells.lookup y.1=some c:=fun y hy=>h y (xmm _ hy)
  by_cases hk:(k==NameKind.free)=true
  ·obtain⟨c,hc⟩:=h (n,k) List.mem_cons_self (by simpa using hk)
   have hc':env.cells.lookup n=some c:=hc
   simp only[hk,if_true]
   have e:cellOf env n=pure c:=by unfold cellOf;rw[hc']
   rw[e]
   show(forIn r ((n,c)::cs) _:Sem _)=_
   rw[ay1 r _ hr]
   simp only[V1,hk,if_true,hc',Option.getD_some]
  ·have hk':(k==NameKind.free)=false:=by simpa using hk
   simp only[hk',Bool.false_eq_true,if_false]
   show(forIn r cs _:Sem _)=_
   rw[ay1 r _ hr]
   simp only[V1,hk',Bool.false_eq_true,if_false]
theorem bM7{scope:Scope}{env:Env}(h:∀y∈scope.names,y.2=.free->∃c,env.cells.lookup y.1=some c):closureFor scope env=pure (V1 env.cells scope.names []):=by
 have:=ay1 (env:=env) scope.names [] h
 unfold closureFor
 exact congrArg (fun z=>z >>= fun cs=>pure cs) this
theorem an2{cells:List (Str×Addr)}:∀{names:List (Str×NameKind)}{cs:List (Str×Addr)}{x:Str}{c:Addr},(x,c)∈V1 cells names cs->(x,c)∈cs\/((x,NameKind.free)∈names/\c=(cells.lookup x).getD 0)
 | [],cs,x,c,h=>.inl h
 | (n,k)::r,cs,x,c,h=>by
  unfold V1 at h
  split at h
  ·rename_i hk
   rcases an2 h with q|⟨q1,q2⟩
   ·rcases List.mem_cons.mp q with q|q
    ·cases q
     have:k=.free:=by simpa using hk
     subst this
     exact .inr ⟨List.mem_cons_self,rfl⟩
    ·exact .inl q
   ·exact .inr ⟨xmm _ q1,q2⟩
  ·rcases an2 h with q|⟨q1,q2⟩
   ·exact .inl q
   ·exact .inr ⟨xmm _ q1,q2⟩
theorem v7{cells:List (Str×Addr)}:∀{names:List (Str×NameKind)}{cs:List (Str×Addr)}{x:Str},((x,NameKind.free)∈names\/∃c,(x,c)∈cs)->∃c,(x,c)∈V1 cells names cs
 | [],cs,x,h=>by
  rcases h with h|h
  ·cases h
  ·exact h
 | (n,k)::r,cs,x,h=>by
  unfold V1
  rcases h with h|⟨c,h⟩
  ·rcases List.mem_cons.mp h with q|q
   ·cases q
    rw[if_pos (by rfl)]
    exact v7 (.inr ⟨_,List.mem_cons_self⟩)
   ·split
    ·exact v7 (.inl q)
    ·exact v7 (.inl q)
  ·split
   ·exact v7 (.inr ⟨c,xmm _ h⟩)
   ·exact v7 (.inr ⟨c,h⟩)
theorem ai5{l:List (Str×Addr)}{x:Str}{c:Addr}(h:(x,c)∈l):∃c',l.lookup x=some c':=by
 induction l with
 | nil=>cases h
 | cons p r ih =>
  obtain⟨n,a⟩:=p
  rw[List.lookup_cons]
  cases e:x==n with
  | true=>exact⟨a,rfl⟩
  | false =>
   rcases List.mem_cons.mp h with q|q
   ·cases q;simp at e
   ·exact ih q
theorem al2{scope:Scope}{env:Env}{x:Str}{k:NameKind}:(relabel scope env).names.lookup x=some k->∃k0,scope.names.lookup x=some k0/\(k=k0\/k0=.free):=by
 unfold relabel
 simp only
 generalize scope.names=names
 induction names with
 | nil=>intro h;simp at h
 | cons p r ih =>
  obtain⟨n,k1⟩:=p
  intro h
  rw[List.map_cons]at h
  by_cases hc:(k1==NameKind.free&&env.scope.kind == .function&&env.kindOf n==some .cell)=true
  ·simp only[hc,if_true,List.lookup_cons]at h
   rw[List.lookup_cons]
   cases e:x==n with
   | true =>
    rw[e]at h
    rw[Bool.and_eq_true,Bool.and_eq_true]at hc
    exact⟨k1,rfl,.inr (by simpa using hc.1.1)⟩
   | false=>rw[e]at h;exact ih h
  ·have hc':(k1==NameKind.free&&env.scope.kind == .function&&env.kindOf n==some .cell)=false:=by simpa using hc
   simp only[hc',Bool.false_eq_true,if_false,List.lookup_cons]at h
   rw[List.lookup_cons]
   cases e:x==n with
   | true=>rw[e]at h;cases h;exact⟨_,rfl,.inl rfl⟩
   | false=>rw[e]at h;exact ih h
theorem aH7{scope:Scope}{env:Env}{x:Str}:scope.names.lookup x=some .free->(relabel scope env).names.lookup x=some .cell\/(relabel scope env).names.lookup x=some .free:=by
 unfold relabel
 simp only
 generalize scope.names=names
 induction names with
 | nil=>intro h;simp at h
 | cons p r ih =>
  obtain⟨n,k1⟩:=p
  intro h
  rw[List.lookup_cons]at h
  rw[List.map_cons]
  cases e:x==n with
  | true =>
   rw[e]at h
   cases h
   have en:x=n:=by simpa using e
   subst en
   by_cases hc:(NameKind.free==NameKind.free&&env.scope.kind == .function&&env.kindOf x==some .cell)=true
   ·simp only[hc,if_true,List.lookup_cons,e];exact .inl trivial
   ·have hc':(NameKind.free==NameKind.free&&env.scope.kind == .function&&env.kindOf x==some .cell)=false:=by simpa using hc
    simp only[hc',Bool.false_eq_true,if_false,List.lookup_cons,e];exact .inr trivial
  | false =>
   rw[e]at h
   by_cases hc:(k1==NameKind.free&&env.scope.kind == .function&&env.kindOf n==some .cell)=true
   ·simp only[hc,if_true,List.lookup_cons,e];exact ih h
   ·have hc':(k1==NameKind.free&&env.scope.kind == .function&&env.kindOf n==some .cell)=false:=by simpa using hc
    simp only[hc',Bool.false_eq_true,if_false,List.lookup_cons,e];exact ih h
noncomputable def K9(X:Cx) (N':List Str) (scope:Scope) (C:Addr) (s₀:Shared) (H₀:Hp) (ex:List Addr):Cx where
 prog:=X.prog
 w:=X.w
 K:=X.K
 mg:=X.mg
 base:=X.base
 A:=X.A
 N:=N'
 s₀:=s₀
 H₀:=H₀
 env:=compEnvC scope (V1 X.env.cells scope.names []) C X.env
 outer:=X.stack
 stack:=X.stack
 ex:=ex
 fn:=fun _=>false
 calm:=X.calm
 pn:=[]
 xe:=fun _ _=>False
structure CompSc (X:Cx) (N':List Str) (n:Nat) (caps:List Nat) (scope:Scope):Prop where
 kind:scope.kind=.function
 cell:∀y∈scope.names,y.2≠.cell
 loc:∀y∈scope.names,y.2=.local->scope.names.lookup y.1=some .local
 free:∀y∈scope.names,y.2=.free->X.env.scope.names.lookup y.1=some .cell\/X.env.scope.names.lookup y.1=some .free
 len:N'.length=n+caps.length
 cap:∀(i j:Nat),caps[i]? = some j->∃x,X.N[j]? = some x/\N'[n+i]? = some x/\scope.names.lookup x=some .free
section
variable {X:Cx}{N':List Str}{n:Nat}{caps:List Nat}{scope:Scope}
theorem V8{l:List (Str×NameKind)}{x:Str}{k:NameKind}(h:l.lookup x=some k):(x,k)∈l:=PySem.mem_of_lookup h
noncomputable def aB4(n:Nat) (caps:List Nat) (σ:L2.St):L2.St:=List.replicate n none++caps.map fun j=>(σ[j]?).join
theorem aY9{pins:List (Addr×Obj)}{σ:L2.St}{H:Hp}{s:Shared}{h1:Heap}{tk:Nat}{fp:List Addr}{m:Str->Option Value}(S:CompSc X N' n caps scope) (I:Inv X pins σ H s) (hf:∀b∈fp,aq7 X pins H b) (hlt:∀b∈fp,b < s.heap.objs.size)
  (hns:h1.Ns s.heap.objs.size m) (hk:∀b o,s.heap.get? b=some o->h1.get? b=some o) :
  Inv (K9 X N' scope s.heap.objs.size s H fp) [] (aB4 n caps σ) H { s with heap:=h1,toks:=tk }:=by
 have cl_of:∀x c,(V1 X.env.cells scope.names []).lookup x=some c->X.env.cells.lookup x=some c:=fun x c h=>by
  have hm:=PySem.mem_of_lookup h
  rcases an2 hm with q|⟨q1,q2⟩
  ·cases q
  ·obtain⟨c',hc'⟩:=I.ok.has x (S.free _ q1 rfl)
   rw[hc']at q2
   rw[hc',q2];rfl
 have cl_has:∀x,(x,NameKind.free)∈scope.names->∃c,(V1 X.env.cells scope.names []).lookup x=some c:=fun x h=>by
  obtain⟨c,hc⟩:=v7 (cells:=X.env.cells) (cs:=[]) (.inl h)
  exact ai5 hc
 have kind_free:∀x,((relabel scope X.env).names.lookup x=some .cell\/(relabel scope X.env).names.lookup x=some .free)->(x,NameKind.free)∈scope.names:=fun x h=>by
  rcases h with h|h
  ·obtain⟨k0,e1,e2⟩:=al2 h
   rcases e2 with e2|e2
   ·subst e2;exact absurd rfl (S.cell _ (V8 e1))
   ·subst e2;exact V8 e1
  ·obtain⟨k0,e1,e2⟩:=al2 h
   rcases e2 with e2|e2
   ·subst e2;exact V8 e1
   ·subst e2;exact V8 e1
 have cell_lt:∀x c,X.env.cells.lookup x=some c->c < s.heap.objs.size:=fun x c e=>by
  obtain⟨v,q⟩:=I.cell x c e
  exact q.lt
 have ok:(K9 X N' scope s.heap.objs.size s H fp).Ok:=by
  refine⟨I.ok.mod,S.kind,I.ok.glob,I.ok.blt,Nat.le_refl _,fun x y c e1 e2=>I.ok.inj x y c (cl_of x c e1) (cl_of y c e2),fun x hx=>cl_has x (kind_free x hx),fun x c e _=>(Bool.false_ne_true e).elim,I.ok.hd,I.ok.frames,.inl rfl,fun b hb=>⟨Nat.ne_of_lt (hlt b hb),fun x c e=>(hf b hb).2.2.2.2.1 x c (cl_of x c e)⟩,
   I.bs,Nat.le_trans I.ok.bsz I.sz,fun b o e hb=>?_,fun b hb hb2=>?_,I.stack,I.stkFree⟩
  ·rcases(hf b hb).2.2.2.1 with z|z
   ·exact I.ok.noex b o e z
   ·exact absurd (Nat.lt_of_lt_of_le (Heap.lt_size e) (Nat.le_trans I.ok.bsz z)) (Nat.lt_irrefl _)
  ·rcases List.mem_cons.mp (I.stkSub b hb2) with z|z
   ·exact(hf b hb).2.1 z
   ·exact(hf b hb).2.2.1 z
 refine⟨ok,rfl,I.bare,Un.kept hk,⟨m,hns,fun i x v e1 e2 e3=>?_⟩,fun x c e=>?_,I.hok.fresh (Nat.le_refl _),fun x c e=>I.freeC x c (cl_of x c e),fun p hp=>absurd (show p∈([]:List (Addr×Obj)) from hp) (by simp),I.hok.kept hk,?_⟩
 ·have hi:n<=i:=by
   rcases Nat.lt_or_ge i n with h|h
   ·unfold aB4 at e2
    rw[List.getElem?_append_left (by simpa using h),List.getElem?_replicate,if_pos h]at e2
    cases e2
   ·exact h
  unfold aB4 at e2
  rw[List.getElem?_append_right (by simpa using hi),List.getElem?_map]at e2
  simp only[List.length_replicate]at e2
  cases hj:caps[i - n]? with
  | none=>rw[hj]at e2;cases e2
  | some j =>
   rw[hj]at e2
   have e2':(σ[j]?).join=some v:=by simpa using e2
   have e2'':σ[j]? = some (some v):=by
    cases q:σ[j]? with
    | none=>rw[q]at e2';cases e2'
    | some o=>rw[q]at e2';simp at e2';rw[e2']
   obtain⟨y,q1,q2,q3⟩:=S.cap _ _ hj
   have:y=x:=by
    have e1':N'[i]? = some x:=e1
    rw[show n+(i - n)=i by omega,e1']at q2
    cases q2;rfl
   subst this
   obtain⟨m0,hn0,hl0⟩:=I.loc
   have hv:Vis X.env.scope y:=by
    rcases S.free _ (V8 q3) rfl with z|z
    ·exact .inr (.inl z)
    ·exact .inr (.inr z)
   obtain⟨u,ru,lk⟩:=hl0 j y v q1 e2'' hv
   refine⟨u,ru,.inr ⟨aH7 q3,?_⟩⟩
   rcases lk with⟨lk,_⟩|⟨_,c,hc,hcell⟩
   ·rcases S.free _ (V8 q3) rfl with z|z
    ·have:X.env.scope.names.lookup y=some .local:=lk
     rw[z]at this;cases this
    ·have:X.env.scope.names.lookup y=some .local:=lk
     rw[z]at this;cases this
   ·obtain⟨c',hc'⟩:=cl_has y (V8 q3)
    have:=cl_of y c' hc'
    rw[hc]at this;cases this
    obtain⟨o,ho,hd⟩:=hcell
    exact⟨c,hc',o,hk c o ho,hd⟩
 ·obtain⟨v,o,ho,hd⟩:=I.cell x c (cl_of x c e)
  exact⟨v,o,hk c o ho,hd⟩
 ·show(aB4 n caps σ).length=N'.length
  unfold aB4
  rw[S.len];simp
theorem aF0{pins:List (Addr×Obj)}{σ σ':L2.St}{H H':Hp}{s s':Shared}{h':Heap}{fp:List Addr}(I:Inv X pins σ H s) (hf:∀b∈fp,aq7 X pins H b)
  (I':Inv (K9 X N' scope s.heap.objs.size s H fp) [] σ' H' s') (sb:Heap.SameBut s.heap.objs.size s'.heap h'):Inv X pins σ H' { s' with heap:=h' }:=by
 have ne:∀b o,s.heap.get? b=some o->b≠s.heap.objs.size:=fun b o e=>Nat.ne_of_lt (Heap.lt_size e)
 refine I.call' (s':={ s' with heap:=h' }) (ch:=fp) I'.os ?_ ?_ I'.bare fun b hb=>⟨(hf b hb).2.2.2.1,(hf b hb).2.1,(hf b hb).2.2.2.2.1,(hf b hb).2.2.2.2.2⟩
 ·refine⟨fun b o e n hb hx=>sb.extBut b o (ne b o e) (I'.base.keep b o e n hb hx),fun b o e n hb hx=>?_,I'.base.free,fun b o e hx=>?_,I'.base.tups,I'.base.frzs,I'.base.tbls⟩
  ·obtain⟨sl,q⟩:=I'.base.slot b o e n hb hx
   exact⟨sl,sb.extBut b _ (ne b o e) q⟩
  ·obtain⟨o',q⟩:=I'.base.there b o e hx
   exact⟨o',sb.extBut b _ (ne b o e) q⟩
 ·intro b u e
  have nC:∀c v,H' c=some v->c≠s.heap.objs.size:=fun c v q z=>by
   have:=I'.free
   have z':H' c=none:=by rw[z];exact this
   rw[z']at q;cases q
  refine(I'.hok b u e).stay (fun c v hc q=>sb.extBut c v ?_ q) (fun _ q=>q) fun _ _ q=>q
  rcases hc with z|z
  ·rw[z];exact nC b u e
  ·exact nC c _ z
noncomputable def PTs(X:Cx) (ifs:List Expr) (t:TT):Prop :=
 ∀(pins:List (Addr×Obj)) (s:Shared) (σ:L2.St) (H:Hp) (Q:Bool->Hp->Prop),Inv X pins σ H s->t σ H Q ->
  wpAny (model X.prog X.w) X.A (forIn ifs true fun c r=>if r=true then do let ok ← isTrue c X.env (eval c X.env);pure (ForInStep.yield ok) else pure (ForInStep.yield r)) (TP X pins σ Q) X.xe s
theorem bF0:PTs X [] (fun _ H Q=>Q true H):=fun pins s σ H Q I h=>wpAny_tests_nil ⟨H,I,h⟩
theorem bE9{c:Expr}{t:TT}(h:PT X c t):PTs X [c] t:=fun pins s σ H Q I q=>wpAny_tests_one (h pins s σ H Q I q)
noncomputable def bp4(n:Nat) (caps:List Nat) (wi:TI) (g:TG) (tc:TT) (te:TE):TE:=fun σ H Q=>wi σ H fun J H1=>∀Dd,H1 Dd=none->∃W:Nat->Nat->List V->L2.St->Hp->Prop,
 (∃m,W 0 m [] (aB4 n caps σ) (upd H1 Dd (.lst []))) /\
 ∀i m ys σ' H',W i m ys σ' H' ->
  (J.stop i H'/\Q (.ref Dd) H') \/
  (J.go i H'/\∀x H2,J.yld i H' x H2->g x σ' H2 fun σ3 H3=>tc σ3 H3 fun b H4 =>
   if b=true then te σ3 H4 fun y H5=>H5 Dd=some (.lst ys)/\ys.length < sizeLine/\∃m',m' < m/\W (i+1) m' (ys++[y]) σ3 (upd H5 Dd (.lst (ys++[y])))
   else ∃m',m' < m/\W (i+1) m' ys σ3 H4)
theorem aR7{elt tgt iter:Expr}{ifs:List Expr}{pos:Pos}{wi:TI}{g:TG}{tc:TT}{te:TE}{RR:Value->Addr->Result->Shared->Prop}{E:Value->Shared->Prop}(S:CompSc X N' n caps scope) (hx:∀e s,X.xe e s->False) (hc:X.calm=true)
  (hi:PI X tgt iter wi) (hg:∀C s0 H0 ex,PG (K9 X N' scope C s0 H0 ex) tgt g) (ht:∀C s0 H0 ex,PTs (K9 X N' scope C s0 H0 ex) ifs tc) (he:∀C s0 H0 ex,PE (K9 X N' scope C s0 H0 ex) elt te)
  {pins:List (Addr×Obj)}{s:Shared}{σ:L2.St}{H:Hp}{Q:VK}(I:Inv X pins σ H s) (h:bp4 n caps wi g tc te σ H Q)
  (hRR:∀D C r s',r=.ok .next->(∃m,s'.heap.Ns C m/\∀h',Heap.SameBut C s'.heap h'->∃H',Inv X pins σ H' { s' with heap:=h' }/\Q (.ref D) H') ->
   (∃s2 fp σ' H2 H',s2.heap.objs.size=C/\Inv X pins σ H2 s2/\(∀b∈fp,aq7 X pins H2 b)/\Inv (K9 X N' scope s2.heap.objs.size s2 H2 fp) [] σ' H' s'/\Q (.ref D) H')->RR (.ref D) C r s') :
  wpAny (model X.prog X.w) X.A (eval iter X.env) (fun x s₁=>wpAny (model X.prog X.w) X.A (pyIter x) (fun it s₂=>wpAny (model X.prog X.w) X.A (newList []) (fun acc s₃ =>
   wpAny (model X.prog X.w) X.A (newFunctionEnv scope X.env.globals (V1 X.env.cells scope.names []) [] X.env.qual none .none (some X.env)) (fun cenv s₄ =>
    codeAny (model X.prog X.w) X.A (.compStart (.ListComp elt [⟨tgt,iter,ifs,0⟩] scope pos) 0 it acc { cenv with scope:=relabel scope X.env }) (RR acc cenv.locals) s₄) E s₃) E s₂) E s₁) E s:=by
 refine wpAny_mono (hi pins s σ H _ I h) (fun v s1 h1=>wpAny_mono h1 (fun itv s2 h2=>?_) fun _ _ z=>(hx _ _ z).elim) fun _ _ z=>(hx _ _ z).elim
 obtain⟨it,fp,tn,J,H2,e,I2,T,st2,f2,R⟩:=h2
 subst e
 refine wpAny_newObj_type (wpAny_newFunctionEnv S.cell (by intro y hy;simp at hy) (fun h₁ hns₁ hsb₁=>?_) S.kind)
 dsimp only at hns₁ hsb₁ ⊢
 obtain⟨W,⟨m0,w0⟩,turn⟩:=R s2.heap.objs.size (I2.hok.fresh (Nat.le_refl _))
 have lt2:∀b∈fp,b < s2.heap.objs.size:=fun b hb=>by
  obtain⟨o,ho,_⟩:=T.obj _ _ st2 b hb
  exact Heap.lt_size ho
 have I3:Inv X pins σ (upd H2 s2.heap.objs.size (.lst [])) { s2 with heap:=s2.heap.push { cls:=.type "list", dict:=none,data:=.seq ([]:List Value).toArray } } :=
  I2.laid (t':=s2.toks) (fun b u e=>Heap.get?_push_of_some _ e) (Nat.le_refl _) ⟨Nat.zero_le _,[],0,.nil,Heap.get?_push_size _ rfl⟩
 generalize hs3:({ s2 with heap:=s2.heap.push { cls:=.type "list", dict:=none,data:=.seq ([]:List Value).toArray } }:Shared)=s3 at I3
 have es3:s3.heap=s2.heap.push { cls:=.type "list", dict:=none,data:=.seq ([]:List Value).toArray }:=by rw[← hs3]
 rw[← es3]at hns₁ hsb₁ ⊢
 have keep3:∀b o,s3.heap.get? b=some o->h₁.get? b=some o:=fun b o e=>hsb₁.extBut b o (Nat.ne_of_lt (Heap.lt_size e)) (Heap.get?_push_of_some _ e)
 have lt3:∀b∈fp,b < s3.heap.objs.size:=fun b hb=>by rw[es3,Heap.size_push];exact Nat.lt_succ_of_lt (lt2 b hb)
 have f3:∀b∈fp,aq7 X pins (upd H2 s2.heap.objs.size (.lst [])) b:=fun b hb=>⟨by rw[D0 (Nat.ne_of_lt (lt2 b hb))];exact(f2 b hb).1,(f2 b hb).2⟩
 generalize hH3:upd H2 s2.heap.objs.size (HO.lst [])=H3 at I3 f3 w0
 have fin3:∀{σ':L2.St}{H':Hp}{pl:List (Addr×Obj)},(∀b∈fp,H' b=none)->(∀p∈pl,False)->∀b∈fp,aq7 (K9 X N' scope s3.heap.objs.size s3 H3 fp) pl H' b:=fun{σ' H' pl} hn hp b hb=>by
  refine⟨hn b hb,Nat.ne_of_lt (lt3 b hb),fun z=>?_,.inl hb,fun x c e=>?_,fun p hp'=>?_⟩
  ·rcases List.mem_cons.mp (I3.stkSub b z) with z|z
   ·exact(f3 b hb).2.1 z
   ·exact(f3 b hb).2.2.1 z
  ·have hm:=PySem.mem_of_lookup e
   rcases an2 hm with q|⟨q1,q2⟩
   ·cases q
   ·obtain⟨c',hc'⟩:=I3.ok.has x (S.free _ q1 rfl)
    rw[hc']at q2
    have q2':c=c':=q2
    subst q2'
    exact(f3 b hb).2.2.2.2.1 x c hc'
  ·exact(hp p (by simpa [K9] using hp')).elim
 have toks:∃tk,({ s2 with heap:=h₁,toks:=s2.toks+([]:List (Str×Value)).length }:Shared)={ s3 with heap:=h₁,toks:=tk }:=⟨s2.toks,by rw[← hs3];rfl⟩
 obtain⟨tk,htk⟩:=toks
 have st4:tn 0 h₁:=T.keep 0 s2.heap h₁ st2 fun b hb o e=>keep3 b o (by rw[es3];exact Heap.get?_push_of_some _ e)
 have I4:Inv (K9 X N' scope s3.heap.objs.size s3 H3 fp) [] (aB4 n caps σ) H3 { s3 with heap:=h₁,toks:=tk }:=aY9 S I3 f3 lt3 hns₁ keep3
 have loop:codeAny (model X.prog X.w) X.A (.compLoop (.ListComp elt [⟨tgt,iter,ifs,0⟩] scope pos) 0 (.ref it) (.ref s2.heap.objs.size) (compEnvC scope (V1 X.env.cells scope.names []) s3.heap.objs.size X.env)) (RR (.ref s2.heap.objs.size) s3.heap.objs.size) { s3 with heap:=h₁,toks:=tk }:=by
  refine bm5 (fun k s'=>∃i ys σ' H',Inv (K9 X N' scope s3.heap.objs.size s3 H3 fp) [] σ' H' s'/\tn i s'.heap/\(∀b∈fp,H' b=none)/\W i k ys σ' H') ?_ m0 ⟨0,[],_,H3,I4,st4,fun b hb=>(f3 b hb).1,w0⟩
  rintro k s5 ⟨i,ys,σ5,H5,I5,st5,fr5,w5⟩
  have pz:∀p∈([]:List (Addr×Obj)),False:=fun p hp=>by cases hp
  rcases turn i k ys σ5 H5 w5 with⟨stop,qn⟩|⟨go,step⟩
  ·refine wpAny_mono (T.done (K9 X N' scope s3.heap.objs.size s3 H3 fp) rfl rfl rfl hc i [] s5 σ5 H5 (fun _ _=>False) I5 (fin3 (σ':=σ5) fr5 pz) st5 stop) (fun r s6 ⟨hr,I6⟩=>?_) fun _ _ z=>z
   subst hr
   obtain⟨m6,hn6,_⟩:=I6.loc
   refine hRR _ _ _ s6 rfl ⟨m6,hn6,fun h' sb=>⟨H5,aF0 I3 f3 I6 sb,qn⟩⟩ ⟨s3,fp,σ5,H3,H5,rfl,I3,f3,I6,qn⟩
  ·refine wpAny_mono (T.item (K9 X N' scope s3.heap.objs.size s3 H3 fp) rfl rfl rfl hc i [] s5 σ5 H5 (fun _ _=>False) I5 (fin3 (σ':=σ5) fr5 pz) st5 go) (fun r s6 ⟨u,hr,h6⟩=>?_) fun _ _ z=>z
   subst hr
   refine wpAny_mono h6 (fun _ s7 ⟨x,H7,I7,r7,y7,st7,fr7⟩=>?_) fun _ _ z=>z
   have I7':=I7.pinned (fin3 (σ':=σ5) fr7 pz) (T.obj _ _ st7)
   refine wpAny_mono (hg _ _ _ _ _ s7 σ5 H7 x u _ I7' r7 (step x H7 y7)) (fun _ s8 ⟨σ8,H8,I8,q8⟩=>?_) fun _ _ z=>z
   refine wpAny_mono (ht _ _ _ _ _ s8 σ8 H8 _ I8 q8) (fun ok s9 ⟨H9,I9,q9⟩=>?_) fun _ _ z=>z
   have again:∀{σ':L2.St}{H':Hp}{s':Shared},Inv (K9 X N' scope s3.heap.objs.size s3 H3 fp) ([]++aw1 fp s7.heap) σ' H' s'->Inv (K9 X N' scope s3.heap.objs.size s3 H3 fp) [] σ' H' s'/\tn (i+1) s'.heap/\∀b∈fp,H' b=none:=fun{σ' H' s'} I'=>by
    refine⟨I'.unpinned,T.keep _ _ _ st7 fun b hb o e=>(I'.pin (b,o) (List.mem_append_right _ (List.mem_append_right _ (ab0 hb e)))).1,fun b hb=>?_⟩
    obtain⟨o,e,d⟩:=T.obj _ _ st7 b hb
    exact(I'.pin (b,o) (List.mem_append_right _ (List.mem_append_right _ (ab0 hb e)))).2.1
   cases ok with
   | false =>
    rw[if_neg Bool.false_ne_true]at q9 ⊢
    obtain⟨m',hm,w'⟩:=q9
    obtain⟨a1,a2,a3⟩:=again I9
    exact⟨m',hm,i+1,ys,σ8,H9,a1,a2,a3,w'⟩
   | true =>
    rw[if_pos rfl]at q9 ⊢
    refine wpAny_mono (he _ _ _ _ _ s9 σ8 H9 _ I9 q9) (fun y s10 ⟨vy,H10,I10,r10,q10,z10,m',hm,w'⟩=>?_) fun _ _ z=>z
    refine wpAny_mono (aE0 (X:=K9 X N' scope s3.heap.objs.size s3 H3 fp) _ s10 σ8 H10 (.ref s2.heap.objs.size) [vy] _ _ (fun v H'=>v=.non/\H'=upd H10 s2.heap.objs.size (.lst (ys++[vy]))) I10 rfl (.cons r10 .nil) ⟨_,ys,vy,rfl,rfl,q10,z10,rfl,rfl⟩) (fun _ s11 ⟨v11,H11,I11,r11,e11,e12⟩=>?_) fun _ _ z=>z
    subst e12
    obtain⟨a1,a2,a3⟩:=again I11
    exact⟨m',hm,i+1,ys++[vy],σ8,_,a1,a2,a3,w'⟩
 show codeAny (model X.prog X.w) X.A _ _ ({ s2 with heap:=h₁,toks:=s2.toks+([]:List (Str×Value)).length }:Shared)
 rw[htk]
 exact codeAny_compStart_list loop (T.self _ _ _ _ _ st4 loop)
end
section
variable {X:Cx}
noncomputable def tgJ(K:PySem.W.Frag) (f:D->Rho->Option Rho):TG:=fun v σ H Q=>∃d ρ ρ' H0 Hf,f d ρ=some ρ'/\G1 Hf H/\Slots K H0 ρ σ H Hf/\Rep K Hf d v/\∀σ',Slots K H0 ρ' σ' H Hf->Q σ' H
noncomputable def JG(X:Cx) (tg:Expr) (f:D->Rho->Option Rho):Prop:=PG X tg (tgJ X.K f)
noncomputable def cn7(K:PySem.W.Frag) (f:List D->Rho->Option Rho):TGs:=fun vs σ H Q=>∃ds ρ ρ' H0 Hf,f ds ρ=some ρ'/\G1 Hf H/\Slots K H0 ρ σ H Hf/\Reps K Hf ds vs/\∀σ',Slots K H0 ρ' σ' H Hf->Q σ' H
noncomputable def JGs(X:Cx) (tg:List Expr) (f:List D->Rho->Option Rho):Prop:=PGs X tg (cn7 X.K f)
noncomputable def B7(i:Nat):D->Rho->Option Rho:=fun d ρ=>some (ρ.set i (some (.val d)))
theorem bK4(i:Nat) {x:Str}{pos:Pos}(hN:X.N.Nodup) (hi:X.N[i]? = some x:=by rfl) (hx:Loc X.env.scope x:=by first|exact Or.inl rfl|exact Or.inr rfl) (hf:X.fn x=true\/X.env.scope.names.lookup x=some .local:=by first|exact .inl rfl|exact .inr rfl):JG X (.Name x pos) (B7 i):=by
 intro pins s σ H v u Q I r ⟨d,ρ,ρ',H0,Hf,e,ss,sl,rp,k⟩
 cases e
 exact bG0 hN hi hx hf pins s σ H v u Q I r (k _ (sl.set rp))
noncomputable def R3:List D->Rho->Option Rho:=fun ds ρ=>match ds with
 | []=>some ρ
 | _=>none
noncomputable def C4(f:D->Rho->Option Rho) (g:List D->Rho->Option Rho):List D->Rho->Option Rho:=fun ds ρ=>match ds with
 | d::r=>(f d ρ).bind fun ρ'=>g r ρ'
 | []=>none
theorem bK3:JGs X [] R3:=by
 intro pins s σ H vs us Q I r ⟨ds,ρ,ρ',H0,Hf,e,ss,sl,rp,k⟩
 cases ds with
 | nil=>cases e;exact bF9 pins s σ H vs us Q I r ⟨rp,k _ sl⟩
 | cons d ds=>cases e
theorem bw3{e:Expr}{es:List Expr}{f:D->Rho->Option Rho}{g:List D->Rho->Option Rho}(h1:JG X e f) (h2:JGs X es g) (hs:(assignEach (e::es) X.env).map (·.2)=assign e X.env::(assignEach es X.env).map (·.2):=by rfl):JGs X (e::es) (C4 f g):=by
 intro pins s σ H vs us Q I r ⟨ds,ρ,ρ',H0,Hf,e,ss,sl,rp,k⟩
 cases ds with
 | nil=>cases e
 | cons d ds =>
  obtain⟨ρ1,e1,e2⟩:=xbm e
  obtain⟨v,vr,rfl,q1,q2⟩:=rp
  exact bs4 h1 h2 hs pins s σ H _ us Q I r ⟨v,vr,rfl,d,ρ,ρ1,H0,Hf,e1,ss,sl,q1,fun σ' sl'=>⟨ds,ρ1,ρ',H0,Hf,e2,ss,sl',q2,k⟩⟩
noncomputable def Q7(n:Nat) (g:List D->Rho->Option Rho):D->Rho->Option Rho:=fun d ρ=>match d with
 | .tuple ds=>if ds.length=n then g ds ρ else none
 | _=>none
theorem bZ8{es:List Expr}{k n:Nat}{pos:Pos}{g:List D->Rho->Option Rho}(h:JGs X es g) (hc:X.calm=true:=by rfl) (hn:(assignEach es X.env).length=n:=by rfl) (hst:(assignEach es X.env).findIdx? (·.1)=none:=by rfl):JG X (.Tuple es k pos) (Q7 n g):=by
 intro pins s σ H v u Q I r ⟨d,ρ,ρ',H0,Hf,e,ss,sl,rp,kk⟩
 cases d with
 | tuple ds =>
  simp only[Q7]at e
  split at e
  ·rename_i hl
   obtain⟨a,vs,rfl,q1,q2⟩:=rp
   exact bT3 hc h hn hst pins s σ H _ u Q I r ⟨a,vs,rfl,E3 ss q1,by rw[q2.length,hl],ds,ρ,ρ',H0,Hf,e,ss,sl,q2,kk⟩
  ·cases e
 | _=>cases e
noncomputable def aL6(K:PySem.W.Frag) (J:It) (ds:List D) (Hf1:Hp):Prop:=∀(i:Nat) (H Hf:Hp),G1 Hf1 Hf->G1 Hf H->(ds.length<=i->J.stop i H)/\∀d,ds[i]? = some d->J.go i H/\∀x H',J.yld i H x H'->∃Hf',Grow H Hf H' Hf'/\Rep K Hf' d x
noncomputable def tiJ(K:PySem.W.Frag) (ρ:Rho) (ds:List D):TI:=fun σ H R=>∃H0 Hf,G1 Hf H/\Slots K H0 ρ σ H Hf/\∀J H' Hf',Grow H Hf H' Hf'->aL6 K J ds Hf'->R J H'
noncomputable def JI(X:Cx) (tg iter:Expr) (f:Rho->Option (List D)):Prop:=∀ρ ds,f ρ=some ds->PI X tg iter (tiJ X.K ρ ds)
theorem aV6{tg iter:Expr}{t t':TI}(h:PI X tg iter t) (i:∀σ H R,t' σ H R->t σ H R):PI X tg iter t':=fun pins s σ H R I q=>h pins s σ H R I (i σ H R q)
noncomputable def Q6(f:DE):Rho->Option (List D):=fun ρ=>(f ρ).bind fun d=>match d with
 | .list ds=>some ds
 | .tuple ds=>some ds
 | _=>none
theorem aW9{tg e:Expr}{f:DE}(h:JE X e f):JI X tg e (Q6 f):=fun ρ ds q=>by
 obtain⟨d,e1,e2⟩:=xbm q
 cases d with
 | list xs =>
  cases e2
  refine aV6 (bF8 (h ρ _ e1)) fun σ H R ⟨H0,Hf,s,sl,k⟩=>⟨H0,Hf,s,sl,fun v H1 Hf1 g1 ⟨a,vs,h1,h2,h3⟩=>⟨a,h1,⟨vs,M3 g1.sub h2⟩,k _ H1 Hf1 g1 ?_⟩⟩
  intro i H' Hf' sa sb
  have q':SqL X.K H' a vs:=M3 (sa.trans sb) h2
  refine⟨fun hi=>⟨vs,q',by rw[h3.length];exact hi⟩,fun d hd=>?_⟩
  obtain⟨v,w1,w2⟩:=h3.get hd
  refine⟨⟨vs,v,q',w1⟩,fun x H'' hy=>?_⟩
  obtain⟨rfl,hy⟩:=hy
  have:=hy vs q'
  rw[w1]at this;cases this
  exact⟨Hf',Grow.refl sb,w2.mono sa⟩
 | tuple xs =>
  cases e2
  refine aV6 (bT2 (h ρ _ e1)) fun σ H R ⟨H0,Hf,s,sl,k⟩=>⟨H0,Hf,s,sl,fun v H1 Hf1 g1 ⟨a,vs,h1,h2,h3⟩=>⟨a,h1,⟨vs,E3 g1.sub h2⟩,k _ H1 Hf1 g1 ?_⟩⟩
  intro i H' Hf' sa sb
  have q':SqT X.K H' a vs:=E3 (sa.trans sb) h2
  refine⟨fun hi=>⟨vs,q',by rw[h3.length];exact hi⟩,fun d hd=>?_⟩
  obtain⟨v,w1,w2⟩:=h3.get hd
  refine⟨⟨vs,v,q',w1⟩,fun x H'' hy=>?_⟩
  obtain⟨rfl,hy⟩:=hy
  have:=hy vs q'
  rw[w1]at this;cases this
  exact⟨Hf',Grow.refl sb,w2.mono sa⟩
 | _=>cases e2
noncomputable def aa7(lo hi:Int):List D:=(List.range (hi - lo).toNat).map fun(i:Nat)=>PyData.int (lo+i)
theorem aG9{K:PySem.W.Frag}{lo hi:Int}{Hf1:Hp}:aL6 K (Itr lo (hi - lo).toNat) (aa7 lo hi) Hf1:=by
 intro i H Hf sa sb
 have hl:(aa7 lo hi).length=(hi - lo).toNat:=by simp[aa7]
 refine⟨fun h=>by rw[hl]at h;exact h,fun d hd=>?_⟩
 have hi':i < (hi - lo).toNat:=by
  have:=(List.getElem?_eq_some_iff.mp hd).1
  rw[hl]at this;exact this
 refine⟨hi',fun x H' hy=>?_⟩
 obtain⟨e1,e2⟩:=hy
 subst e1 e2
 have:d=.int (lo+i):=by
  have:(aa7 lo hi)[i]? = some (.int (lo+i)):=by simp[aa7,hi']
  rw[hd]at this;cases this;rfl
 subst this
 exact⟨Hf,Grow.refl sb,rfl⟩
noncomputable def N3(f:DE):Rho->Option (List D):=fun ρ=>(f ρ).bind fun d=>match d with
 | .int j=>if -(2 ^ 62)<=j/\j < 2 ^ 62 then some (aa7 0 j) else none
 | _=>none
theorem bj1{tg e:Expr}{f:DE}{p pos:Pos}(hg:Gl X "range") (hm:X.mg "range" = none) (h:JE X e f) (hs:starEach [e] X.env=[(false,eval e X.env)]:=by rfl):JI X tg (.Call (.Name "range" p) [e] [] pos) (N3 f):=fun ρ ds q=>by
 obtain⟨d,e1,e2⟩:=xbm q
 split at e2
 ·split at e2
  ·rename_i j c
   cases e2
   refine aV6 (bh5 hg hm (L4 (h ρ _ e1) R6 hs) hs) fun σ H R ⟨H0,Hf,s,sl,k⟩=>⟨H0,Hf,s,sl,fun v H1 Hf1 g1 r=>⟨j,by rw[show v=_ from r],c.1,c.2,k _ H1 Hf1 g1 ?_⟩⟩
   have:=aG9 (K:=X.K) (lo:=0) (hi:=j) (Hf1:=Hf1)
   rw[Int.sub_zero]at this
   exact this
  ·cases e2
 ·cases e2
theorem Grow.nofr{H Hf H' Hf':Hp}{a:Addr}{o:HO}(g:Grow H Hf H' Hf') (h:H a=some o) (n:Hf a=none):Hf' a=none:=by
 cases q:Hf' a with
 | none=>rfl
 | some u =>
  rcases g.new a (by rw[q];simp) with z|z
  ·exact absurd n z
  ·rw[h]at z;cases z
noncomputable def o0(n:Nat) (caps:List Nat) (ρ:Rho):Rho:=List.replicate n none++caps.map fun j=>match ρ[j]? with
 | some (some (.val d))=>some (.val d)
 | _=>none
noncomputable def U2(g:D->Rho->Option Rho) (c:Rho->Option Bool) (e:DE):List D->Rho->Option (List D)
 | [],_=>some []
 | d::ds,ρ=>(g d ρ).bind fun ρ1=>(c ρ1).bind fun b=>if b then(e ρ1).bind fun y=>(U2 g c e ds ρ1).map fun r=>y::r else U2 g c e ds ρ1
noncomputable def C2(n:Nat) (caps:List Nat) (src:Rho->Option (List D)) (g:D->Rho->Option Rho) (c:Rho->Option Bool) (e:DE):Rho->Option (List D):=fun ρ=>(src ρ).bind fun ds=>if ds.length<=16777216 then U2 g c e ds (o0 n caps ρ) else none
noncomputable def aC8(K:PySem.W.Frag) (c:Rho->Option Bool):TT:=fun σ H Q=>∃ρ b,c ρ=some b/\∃H0 Hf,G1 Hf H/\Slots K H0 ρ σ H Hf/\∀H' Hf',Grow H Hf H' Hf'->Q b H'
noncomputable def ba6(K:PySem.W.Frag) (e:DE):TE:=fun σ H Q=>∃ρ d,e ρ=some d/\tJ K ρ (fun _ v _ Hf=>Rep K Hf d v) σ H Q
noncomputable def JTs(X:Cx) (ifs:List Expr) (c:Rho->Option Bool):Prop:=PTs X ifs (aC8 X.K c)
noncomputable def E4:Rho->Option Bool:=fun _=>some true
theorem bI7:JTs X [] E4:=fun pins s σ H Q I ⟨ρ,b,e,H0,Hf,ss,sl,k⟩=>by
 cases e
 exact bF0 pins s σ H Q I (k H Hf (Grow.refl ss))
theorem bI6{e:Expr}{c:Rho->Option Bool}(h:JT X e c):JTs X [e] c:=fun pins s σ H Q I ⟨ρ,b,e,H0,Hf,ss,sl,k⟩=>bE9 (h ρ b e) pins s σ H Q I ⟨H0,Hf,ss,sl,k⟩
theorem aZ1{K:PySem.W.Frag}{n:Nat}{caps:List Nat}{H0 H H1 H' Hf:Hp}{ρ:Rho}{σ:L2.St}(sl:Slots K H0 ρ σ H Hf):Slots K H1 (o0 n caps ρ) (aB4 n caps σ) H' Hf:=by
 have noown:∀(i:Nat) (ds:List D),(o0 n caps ρ)[i]?≠some (some (.own ds)):=fun i ds h=>by
  unfold o0 at h
  rcases Nat.lt_or_ge i n with q|q
  ·rw[List.getElem?_append_left (by simpa using q),List.getElem?_replicate,if_pos q]at h;cases h
  ·rw[List.getElem?_append_right (by simpa using q),List.getElem?_map]at h
   cases hj:caps[i - (List.replicate n (none:Option B)).length]? with
   | none=>rw[hj]at h;cases h
   | some j =>
    rw[hj]at h
    simp only[Option.map_some,Option.some.injEq]at h
    split at h<;>cases h
 refine⟨by simp[o0,aB4],fun i b e=>?_,fun i j ds es a h1=>(noown i ds h1).elim⟩
 unfold o0 at e
 unfold aB4
 rcases Nat.lt_or_ge i n with q|q
 ·rw[List.getElem?_append_left (by simpa using q),List.getElem?_replicate,if_pos q]at e;cases e
 ·rw[List.getElem?_append_right (by simpa using q),List.getElem?_map]at e
  rw[List.getElem?_append_right (by simpa using q),List.getElem?_map]
  simp only[List.length_replicate]at e ⊢
  cases hj:caps[i - n]? with
  | none=>rw[hj]at e;cases e
  | some j =>
   rw[hj]at e
   simp only[Option.map_some,Option.some.injEq]at e ⊢
   split at e
   ·rename_i d hd
    cases e
    obtain⟨v,h1,h2⟩:=sl.is j _ hd
    exact⟨v,by rw[h1];rfl,h2⟩
   ·cases e
theorem aj6{K:PySem.W.Frag}{n:Nat}{caps:List Nat}{ρ:Rho}{src:Rho->Option (List D)}{g:D->Rho->Option Rho}{c:Rho->Option Bool}{e:DE}{out:List D}(h:C2 n caps src g c e ρ=some out) :
  ∃ds,src ρ=some ds/\∀σ H Q,tJ K ρ (fun H v H' Hf'=>∃a vs,v=.ref a/\H a=none/\H' a=some (.lst vs)/\Hf' a=none/\Reps K Hf' out vs) σ H Q->bp4 n caps (tiJ K ρ ds) (tgJ K g) (aC8 K c) (ba6 K e) σ H Q:=by
 obtain⟨ds,e1,e2⟩:=xbm h
 split at e2
 ·rename_i hz
  refine⟨ds,e1,fun σ H Q ⟨H0,Hf,s,sl,k⟩=>⟨H0,Hf,s,sl,fun J H1 Hf1 g1 Y Dd hD=>?_⟩⟩
  refine⟨fun i m ys σ' H'=>m=ds.length - i/\i<=ds.length/\∃Hf' ρ' o1 o2,Grow H1 Hf1 H' Hf'/\H' Dd=some (.lst ys)/\Hf' Dd=none/\Slots K (upd H1 Dd (.lst [])) ρ' σ' H' Hf'/\Reps K Hf' o1 ys/\o1.length<=i/\U2 g c e (ds.drop i) ρ'=some o2/\o1++o2=out,
   ⟨ds.length,by simp,Nat.zero_le _,Hf1,o0 n caps ρ,[],out,Grow.made g1.sub hD,C5,g1.sub.free hD,aZ1 (sl.grow g1),rfl,Nat.le_refl _,by simpa using e2,rfl⟩,?_⟩
  rintro i m ys σ' H' ⟨rfl,hi,Hf',ρ',o1,o2,gr,hd1,hd2,sl',rp,ho,ec,eo⟩
  obtain⟨Ys,Yg⟩:=Y i H' Hf' gr.ext gr.sub
  rcases Nat.lt_or_ge i ds.length with hlt|hge
  ·right
   obtain⟨go,yl⟩:=Yg ds[i] (by simp[hlt])
   refine⟨go,fun x H2 hy=>?_⟩
   obtain⟨Hf2,g2,r2⟩:=yl x H2 hy
   rw[List.drop_eq_getElem_cons hlt]at ec
   obtain⟨ρ1,c1,ec⟩:=xbm ec
   obtain⟨b,c2,ec⟩:=xbm ec
   refine⟨ds[i],ρ',ρ1,_,Hf2,c1,g2.sub,sl'.grow g2,r2,fun σ3 sl3=>⟨ρ1,b,c2,_,Hf2,g2.sub,sl3,fun H4 Hf4 g4=>?_⟩⟩
   have gr4:=(gr.trans g2).trans g4
   have hd4:H4 Dd=some (.lst ys):=g4.big _ _ (g2.big _ _ hd1)
   have hf4:Hf4 Dd=none:=(g2.trans g4).nofr hd1 hd2
   have rp4:=rp.mono (g2.trans g4).ext
   cases b with
   | false =>
    rw[if_neg Bool.false_ne_true]at ec
    refine aA2 ?_
    exact⟨ds.length - (i+1),by omega,rfl,hlt,Hf4,ρ1,o1,o2,gr4,hd4,hf4,sl3.grow g4,rp4,by omega,ec,eo⟩
   | true =>
    rw[if_pos rfl]at ec
    refine aA1 ?_
    obtain⟨y,c3,ec⟩:=xbm ec
    obtain⟨o3,c4,rfl⟩:=xmo ec
    refine⟨ρ1,y,c3,_,Hf4,g4.sub,sl3.grow g4,fun v H5 Hf5 g5 r5=>⟨g5.big _ _ hd4,?_,?_⟩⟩
    ·rw[rp.length,sizeLine_eq];omega
    ·have hf5:Hf5 Dd=none:=g5.nofr hd4 hf4
     have gr5:=gr4.trans g5
     refine⟨ds.length - (i+1),by omega,rfl,hlt,Hf5,ρ1,o1++[y],o3,⟨fun b u q=>?_,fun b u q=>?_,gr5.ext,gr5.new⟩,C5,hf5,?_,(rp4.mono g5.ext).append ⟨v,[],rfl,r5,rfl⟩,by simp;omega,c4,by simp[← eo]⟩
     ·rw[D0 (D2 q hD)];exact gr5.big b u q
     ·rw[D0 (D2 q hf5)];exact gr5.sub b u q
     ·have sl5:=(sl3.grow g4).grow g5
      refine⟨sl5.len,fun j bb q=>?_,sl5.apart⟩
      obtain⟨w,q1,q2⟩:=sl5.is j bb q
      refine⟨w,q1,?_⟩
      cases bb with
      | val d=>exact q2
      | exc C=>exact q2
      | own dd =>
       obtain⟨a,vs,z1,z2,z3,z4,z5⟩:=q2
       have ne:a≠Dd:=fun z=>by rw[z,C5]at z4;cases z4
       exact⟨a,vs,z1,by rw[D0 ne];exact z2,z3,z4,z5⟩
  ·left
   have:i=ds.length:=by omega
   subst this
   rw[List.drop_length]at ec
   cases ec
   rw[List.append_nil]at eo
   subst eo
   exact⟨Ys (Nat.le_refl _),k _ H' Hf' (g1.trans gr) ⟨Dd,ys,rfl,g1.big.free hD,hd1,hd2,rp⟩⟩
 ·cases e2
end
section
variable {X:Cx}
noncomputable def au3(N N':List Str) (n:Nat) (caps:List Nat) (sc scope:Scope):Bool :=
 (match scope.kind with | .function=>true|_=>false) &&
 (scope.names.all fun y=>(match y.2 with | .cell=>false | .local=>scope.names.lookup y.1==some .local | .free=>sc.names.lookup y.1==some .cell || sc.names.lookup y.1==some .free|_=>true)) &&
 (N'.length==n+caps.length) &&
 ((List.range caps.length).all fun i=>match caps[i]? with
  | some j=>(match N[j]? with|some x=>N'[n+i]? == some x&&scope.names.lookup x==some .free|none=>false)
  | none=>true)
theorem bm6{N N':List Str}{n:Nat}{caps:List Nat}{sc scope:Scope}(h:au3 N N' n caps sc scope=true) (hN:X.N=N) (hS:X.env.scope=sc):CompSc X N' n caps scope:=by
 subst hN hS
 unfold au3 at h
 simp only[Bool.and_eq_true,List.all_eq_true]at h
 obtain⟨⟨⟨h1,h2⟩,h3⟩,h4⟩:=h
 refine⟨?_,fun y hy e=>?_,fun y hy e=>?_,fun y hy e=>?_,by simpa using h3,fun i j e=>?_⟩
 ·cases q:scope.kind<;>rw[q]at h1<;>first|rfl|cases h1
 ·have:=h2 y hy
  rw[e]at this;cases this
 ·have:=h2 y hy
  rw[e]at this;simpa using this
 ·have:=h2 y hy
  rw[e]at this;simpa using this
 ·have hi:i < caps.length:=(List.getElem?_eq_some_iff.mp e).1
  have:=h4 i (by simpa using hi)
  rw[e]at this
  simp only at this
  cases q:X.N[j]? with
  | none=>rw[q]at this;cases this
  | some x =>
   rw[q]at this
   simp only[Bool.and_eq_true]at this
   exact⟨x,rfl,by simpa using this.1,by simpa using this.2⟩
theorem bf1{N':List Str}{n:Nat}{caps:List Nat}{scope:Scope}{pins:List (Addr×Obj)}{σ:L2.St}{H:Hp}{s:Shared}(S:CompSc X N' n caps scope) (I:Inv X pins σ H s):closureFor scope X.env=pure (V1 X.env.cells scope.names []) :=
 bM7 fun y hy e=>I.ok.has y.1 (S.free y hy e)
theorem bK1{N':List Str}{n:Nat}{caps:List Nat}{scope:Scope}{elt tgt iter:Expr}{ifs:List Expr}{pos:Pos}{src:Rho->Option (List D)}{g:D->Rho->Option Rho}{c:Rho->Option Bool}{e:DE}(S:CompSc X N' n caps scope) (hx:∀e s,X.xe e s->False)
  (hi:JI X tgt iter src) (hg:∀C s0 H0 ex,JG (K9 X N' scope C s0 H0 ex) tgt g) (ht:∀C s0 H0 ex,JTs (K9 X N' scope C s0 H0 ex) ifs c) (he:∀C s0 H0 ex,JE (K9 X N' scope C s0 H0 ex) elt e)
  (hc:X.calm=true:=by rfl) (hs:∀x,foldedSetIterable iter X.env x=pure x:=by intro _;rfl):JN X (.ListComp elt [⟨tgt,iter,ifs,0⟩] scope pos) (C2 n caps src g c e):=by
 intro ρ out h
 obtain⟨ds,e1,k⟩:=aj6 (K:=X.K) h
 intro pins s σ H Q I t
 rw[eval_ListComp]
 refine wpAny_comprehension_free (use:=none) rfl hs (bf1 S I) S.kind S.loc (aR7 (RR:=fun acc C=>compPost (model X.prog X.w) X.A X.xe none (EP X pins σ Q) acc C) S hx hc (hi ρ ds e1) (g:=tgJ X.K g) (tc:=aC8 X.K c) (te:=ba6 X.K e) hg ht (fun C s0 H0 ex pins s σ H Q I ⟨ρ,d,e,t⟩=>he C s0 H0 ex ρ d e pins s σ H Q I t) I (k σ H Q t) ?_)
 intro Dd C r s' hr ⟨m,hn,kk⟩ _
 subst hr
 exact⟨m,hn,fun h' sb=>let⟨H',I',q⟩:=kk h' sb;⟨.ref Dd,H',I',rfl,q⟩⟩
theorem aw0{N':List Str}{n:Nat}{caps:List Nat}{scope:Scope}{elt tgt iter:Expr}{ifs:List Expr}{pos pos' spos:Pos}{i:Nat}{x:Str}{wi:TI}{g:TG}{tc:TT}{te:TE}(S:CompSc X N' n caps scope) (hx:∀e s,X.xe e s->False) (hc:X.calm=true)
  (hN:X.N.Nodup) (hi:X.N[i]? = some x) (hl:X.env.scope.names.lookup x=some .local) (hsrc:PI X tgt iter wi) (hg:∀C s0 H0 ex,PG (K9 X N' scope C s0 H0 ex) tgt g) (ht:∀C s0 H0 ex,PTs (K9 X N' scope C s0 H0 ex) ifs tc) (he:∀C s0 H0 ex,PE (K9 X N' scope C s0 H0 ex) elt te)
  (hsw:swapsWith (.ListComp elt [⟨tgt,iter,ifs,0⟩] scope pos) (some (.Name x pos')) spos.line X.env=pure true) (hs:∀x,foldedSetIterable iter X.env x=pure x) :
  PS X (.Assign [.Name x pos'] (.ListComp elt [⟨tgt,iter,ifs,0⟩] scope pos) spos) (fun En σ H=>bp4 n caps wi g tc te σ H fun v H'=>En.nx (σ.set i (some v)) H'):=by
 intro pins s σ H En I h
 rw[exec_Assign_Name_used _ _ _ _ hsw]
 refine wpAny_bind (wpAny_standAt (wpAny_bind ?_))
 show wpAny _ X.A (do let _ ← comprehension (.ListComp elt [⟨tgt,iter,ifs,0⟩] scope pos) scope X.env _ (newList []) false (eval iter X.env) (some (assign (.Name x pos') X.env))) _ _ s
 refine wpAny_bind (wpAny_mono (wpAny_comprehension_free (use:=some (assign (.Name x pos') X.env)) (Q:=fun _ s'=>SP X pins En .next s') rfl hs (bf1 S I) S.kind S.loc
  (aR7 (RR:=fun acc C=>compPost (model X.prog X.w) X.A X.xe (some (assign (.Name x pos') X.env)) (fun _ s'=>SP X pins En .next s') acc C) S hx hc hsrc hg ht he I h ?_)) (fun _ s' hq=>wpAny_pure (wpAny_pure hq)) fun _ _ z=>z)
 intro Dd C r s' hr _ ⟨s2,fp,σ',H2,H',eC,I2,f2,I',q⟩
 subst hr eC
 have IX:Inv X pins σ H' s':=aF0 (h':=s'.heap) I2 f2 I' (Heap.SameBut.refl ..)
 obtain⟨mC,hnC,_⟩:=I'.loc
 have hCL:s2.heap.objs.size≠X.env.locals:=fun z=>by
  have:=I2.lt
  rw[← z]at this
  exact Nat.lt_irrefl _ this
 show wpAny _ X.A (assign (.Name x pos') X.env (.ref Dd)) _ _ _
 refine wpAny_assign_Name (aD0 (v:=.ref Dd) IX hN hi (.inl hl) rfl (fun s3 I3 ⟨a,sb,ha⟩=>?_) (.inr hl))
 have hCa:s2.heap.objs.size≠a:=fun z=>by
  rcases ha with ha|ha
  ·exact hCL (z.trans ha)
  ·obtain⟨v,q'⟩:=I2.cell x a ha
   have:=q'.lt
   rw[← z]at this
   exact Nat.lt_irrefl _ this
 refine⟨mC,hnC.sameBut sb hCa,fun h' sb'=>?_⟩
 refine⟨_,H',I3.turned (t':=s3.toks) (it:=s2.heap.objs.size) (fun b o hb e=>sb'.extBut b o hb e) I'.free hCL (.inr I2.sz) (fun y c e z=>?_) (fun p hp z=>?_),q⟩
 ·obtain⟨v,q'⟩:=I2.cell y c e
  have:=q'.lt
  rw[z]at this
  exact Nat.lt_irrefl _ this
 ·have:=Heap.lt_size (I2.pin p hp).1
  rw[z]at this
  exact Nat.lt_irrefl _ this
noncomputable def U9(i:Nat) (f:Rho->Option (List D)):DS:=fun ρ=>(f ρ).map fun ds=>.nx (ρ.set i (some (.val (.list ds))))
theorem bJ4(i:Nat) {N':List Str}{n:Nat}{caps:List Nat}{scope:Scope}{elt tgt iter:Expr}{ifs:List Expr}{pos pos' spos:Pos}{x:Str}{src:Rho->Option (List D)}{g:D->Rho->Option Rho}{c:Rho->Option Bool}{e:DE}(hN:X.N.Nodup) (S:CompSc X N' n caps scope) (hx:∀e s,X.xe e s->False)
  (hi:JI X tgt iter src) (hg:∀C s0 H0 ex,JG (K9 X N' scope C s0 H0 ex) tgt g) (ht:∀C s0 H0 ex,JTs (K9 X N' scope C s0 H0 ex) ifs c) (he:∀C s0 H0 ex,JE (K9 X N' scope C s0 H0 ex) elt e)
  (hi2:X.N[i]? = some x:=by rfl) (hl:X.env.scope.names.lookup x=some .local:=by rfl) (hsw:swapsWith (.ListComp elt [⟨tgt,iter,ifs,0⟩] scope pos) (some (.Name x pos')) spos.line X.env=pure true:=by rfl)
  (hc:X.calm=true:=by rfl) (hs:∀x,foldedSetIterable iter X.env x=pure x:=by intro _;rfl):JS X (.Assign [.Name x pos'] (.ListComp elt [⟨tgt,iter,ifs,0⟩] scope pos) spos) (U9 i (C2 n caps src g c e)):=fun ρ fl q H0 Hf0=>by
 obtain⟨out,e1,e2⟩:=xmo q
 subst e2
 obtain⟨ds,e3,k⟩:=aj6 (K:=X.K) e1
 refine T6 (aw0 S hx hc hN hi2 hl (hi ρ ds e3) (g:=tgJ X.K g) (tc:=aC8 X.K c) (te:=ba6 X.K e) hg ht (fun C s0 H0 ex pins s σ H Q I ⟨ρ,d,e,t⟩=>he C s0 H0 ex ρ d e pins s σ H Q I t) hsw hs) fun En σ H ⟨Hf,a,ee⟩=>k σ H _ ⟨H0,Hf,a.gr.sub,a.sl,fun v H' Hf' gg ⟨p,vs,z1,z2,z3,z4,z5⟩=>?_⟩
 subst z1
 have g2:=gg.freeze z3 z4 z2
 exact ee _ H' _ ⟨a.gr.trans g2,(a.sl.grow g2).set ⟨p,vs,rfl,SqL.of C5,z5.mono (G0 z4)⟩⟩ g2.ext
theorem bY1{i j:Nat}{x y:Str}{a b:Expr}{f:Rho->Option (List D)}{px py pt:Pos}{kt k2 pt2} {pos:Pos}(hN:X.N.Nodup) (ha:JA X [a,b] f) (hw:swappedStores [.Tuple [.Name x px,.Name y py] kt pt] (.Tuple [a,b] k2 pt2) X.env=pure (some [x,y])) (hij:i≠j)
  (hi:X.N[i]? = some x:=by rfl) (hj:X.N[j]? = some y:=by rfl) (hx:X.env.scope.names.lookup x=some .local:=by rfl) (hy:X.env.scope.names.lookup y=some .local:=by rfl) (hc:X.calm=true:=by rfl)
  (hs:swapsWithSole [.Tuple [.Name x px,.Name y py] kt pt] (.Tuple [a,b] k2 pt2) pos.line X.env=pure false:=by rfl):JS X (.Assign [.Tuple [.Name x px,.Name y py] kt pt] (.Tuple [a,b] k2 pt2) pos) (bq8 i j f):=fun ρ fl q H0 Hf0=>by
 obtain⟨ds,e1,e2⟩:=xbm q
 split at e2
 ·cases e2
  refine T6 (bS9 hc hN hi hj hij hx hy (fun pos pins s σ H Q I t=>ha.run ρ _ e1 pos pins s σ H Q I t) hw hs) fun En σ H ⟨Hf,at',e⟩=>⟨H0,Hf,at'.gr.sub,at'.sl,fun vs H' Hf' gg rp=>?_⟩
  obtain⟨v,r,rfl,r1,w,r',rfl,r2,r3⟩:=rp
  cases r3
  exact⟨v,w,rfl,e _ H' Hf' ⟨at'.gr.trans gg,((at'.sl.grow gg).set r1).set r2⟩ gg.ext⟩
 ·cases e2
noncomputable def al0(f:DE) (g:D->Rho->Option Rho):DS:=fun ρ=>(f ρ).bind fun d=>(g d ρ).map Fl.nx
theorem bv7{tg e:Expr}{f:DE}{g:D->Rho->Option Rho}{pos:Pos}(he:JE X e f) (hg:JG X tg g) (hs:swapsWithSole [tg] e pos.line X.env=pure false:=by rfl) (hw:swappedStores [tg] e X.env=pure none:=by rfl)
  (h1:(assignEach [tg] X.env).map (·.2)=[assign tg X.env]:=by rfl):JS X (.Assign [tg] e pos) (al0 f g):=fun ρ fl q H0 Hf0=>by
 obtain⟨d,e1,e2⟩:=xbm q
 obtain⟨ρ',e3,e4⟩:=xmo e2
 subst e4
 exact T6 (bT1 (he ρ d e1) hg hs hw h1) fun En σ H ⟨Hf,a,ee⟩=>⟨H0,Hf,a.gr.sub,a.sl,fun v H' Hf' gg r=>⟨d,ρ,ρ',H0,Hf',e3,gg.sub,a.sl.grow gg,r,fun σ' sl'=>ee σ' H' Hf' ⟨a.gr.trans gg,sl'⟩ gg.ext⟩⟩
noncomputable def ao3(i:Nat) (f:Rho->Option (List D)):DS:=fun ρ=>(f ρ).map fun ds=>.nx (ρ.set i (some (.own ds)))
theorem Slots.setOwn{K:PySem.W.Frag}{H0 H H' Hf Hf':Hp}{ρ:Rho}{σ:L2.St}{i:Nat}{ds:List D}{a:Addr}{vs:List V}(s:Slots K H0 ρ σ H Hf) (g:Grow H Hf H' Hf') (n0:H0 a=none) (n:H a=none) (h:H' a=some (.lst vs)) (nf:Hf' a=none) (r:Reps K Hf' ds vs) :
  Slots K H0 (ρ.set i (some (.own ds))) (σ.set i (some (.ref a))) H' Hf':=by
 have s':=s.grow g
 have old:∀(j:Nat) (es:List D),i≠j->ρ[j]? = some (some (.own es))->σ[j]?≠some (some (.ref a)):=fun j es hj e z=>by
  obtain⟨v,h1,b,us,e1,h2,_⟩:=s.is j _ e
  rw[z]at h1;cases h1;cases e1
  rw[n]at h2;cases h2
 refine⟨by simp[s.len],fun j b e=>?_,fun j k ds1 es b h1 h2 h3 h4=>?_⟩
 ·by_cases q:i=j
  ·subst q
   have hi:i < ρ.length:=by simpa using (List.getElem?_eq_some_iff.mp e).1
   have hi':i < σ.length:=by rw[← s.len];exact hi
   rw[List.getElem?_set_self hi]at e
   cases e
   exact⟨_,List.getElem?_set_self hi',a,vs,rfl,h,nf,n0,r⟩
  ·rw[List.getElem?_set_ne q]at e
   obtain⟨u,h1,h2⟩:=s'.is j b e
   exact⟨u,by rw[List.getElem?_set_ne q];exact h1,h2⟩
 ·by_cases qj:i=j
  ·by_cases qk:i=k
   ·rw[← qj,← qk]
   ·subst qj
    have hi:i < ρ.length:=by simpa using (List.getElem?_eq_some_iff.mp h1).1
    rw[List.getElem?_set_self (by rw[← s.len];exact hi)]at h3
    rw[List.getElem?_set_ne qk]at h2 h4
    cases h3
    exact(old k es qk h2 h4).elim
  ·rw[List.getElem?_set_ne qj]at h1 h3
   by_cases qk:i=k
   ·subst qk
    have hi:i < ρ.length:=by simpa using (List.getElem?_eq_some_iff.mp h2).1
    rw[List.getElem?_set_self (by rw[← s.len];exact hi)]at h4
    cases h4
    exact(old j ds1 qj h1 h3).elim
   ·rw[List.getElem?_set_ne qk]at h2 h4
    exact s.apart j k ds1 es b h1 h2 h3 h4
theorem bY2(i:Nat) {x:Str}{e:Expr}{f:Rho->Option (List D)}{pos pos':Pos}(hN:X.N.Nodup) (h:JN X e f) (hi:X.N[i]? = some x:=by rfl) (hx:Loc X.env.scope x:=by first|exact Or.inl rfl|exact Or.inr rfl)
  (hs:swapsWith e (some (.Name x pos')) pos.line X.env=pure false:=by rfl) (hf:X.fn x=true\/X.env.scope.names.lookup x=some .local:=by first|exact .inl rfl|exact .inr rfl):JS X (.Assign [.Name x pos'] e pos) (ao3 i f):=fun ρ fl q H0 Hf0=>by
 obtain⟨ds,e1,e2⟩:=xmo q
 subst e2
 refine T6 (br8 hN hi hx (h ρ ds e1) hs hf) fun En σ H ⟨Hf,a,e⟩=>⟨H0,Hf,a.gr.sub,a.sl,fun v H' Hf' g ⟨p,vs,z1,z2,z3,z4,z5⟩=>?_⟩
 subst z1
 exact e _ H' Hf' ⟨a.gr.trans g,a.sl.setOwn g (a.gr.big.free z2) z2 z3 z4 z5⟩ g.ext
noncomputable def az9(i:Nat) (f:DE):DS:=fun ρ=>match ρ[i]? with
 | some (some (.own ds))=>if ds.length < 16777216 then(f ρ).map fun d=>.nx (ρ.set i (some (.own (ds++[d])))) else none
 | _=>none
theorem bY7(i:Nat) {x:Str}{e:Expr}{f:DE}{p apos cpos pos:Pos}(h:JE X e f) (hN:X.N[i]? = some x:=by rfl) (hv:Vis X.env.scope x:=by first|exact Or.inl rfl|exact Or.inr (Or.inl rfl)|exact Or.inr (Or.inr rfl)) (hd:(x==("__debug__" : Str))=false:=by decide)
  (hcd:(x==("__classdict__" : Str))=false:=by decide) (hbase:attributeBase (.Name x p) "append" X.env (eval (.Name x p) X.env)=eval (.Name x p) X.env:=by rfl)
  (hfew:((backTo cpos (starEach [e] X.env)).all (fun x=>!x.1)&&(backToKw cpos (keywordEach [] X.env)).all (fun x=>x.1.isSome)
   && decide (([e]:List Expr).length+([]:List Keyword).length+(if([]:List Keyword).isEmpty then 0 else 1) < 30))=true:=by rfl)
  (hline:(apos.endLine==cpos.line)=true:=by rfl) (hs:starEach [e] X.env=[(false,eval e X.env)]:=by rfl) (hsw:swapsWith (.Call (.Attribute (.Name x p) "append" apos) [e] [] cpos) none pos.line X.env=pure false:=by rfl) :
  JS X (.Expr (.Call (.Attribute (.Name x p) "append" apos) [e] [] cpos) pos) (az9 i f):=fun ρ fl q H0 Hf0=>by
 unfold az9 at q
 split at q
 ·rename_i ds eo
  split at q
  ·rename_i hz
   obtain⟨d,e1,e2⟩:=xmo q
   subst e2
   refine T6 (aI2 (bc1 PySem.F.plainAttrs_list PySem.F.slot_list_append PySem.F.type_list_append aE0 (ai4 hN hv hd hcd) (L4 (h ρ d e1) R6 hs) hbase hfew hline hs) hsw) fun En σ H ⟨Hf,a,ee⟩=>?_
   obtain⟨v,h1,b,vs,rfl,h2,h3,h4,h5⟩:=a.sl.is i _ eo
   refine⟨_,h1,.inl ⟨rfl,vs,SqL.of h2⟩,H0,Hf,a.gr.sub,a.sl,fun w H' Hf' gg r=>?_⟩
   have hb:H' b=some (.lst vs):=gg.big _ _ h2
   have hfb:Hf' b=none:=gg.nofr h2 h3
   have g2:=a.gr.trans gg
   have sl2:=a.sl.grow gg
   refine⟨b,vs,w,rfl,rfl,hb,by rw[h5.length,sizeLine_eq];exact hz,ee _ _ Hf' ⟨⟨fun c u z=>?_,fun c u z=>?_,g2.ext,g2.new⟩,?_⟩ gg.ext⟩
   ·rw[D0 (D2 z h4)];exact g2.big c u z
   ·rw[D0 (D2 z hfb)];exact g2.sub c u z
   ·refine⟨by simpa using sl2.len,fun j bb z=>?_,fun j k ds1 es c q1 q2 q3 q4=>?_⟩
    ·by_cases qj:i=j
     ·subst qj
      have hi:i < ρ.length:=(List.getElem?_eq_some_iff.mp eo).1
      rw[List.getElem?_set_self hi]at z
      cases z
      exact⟨_,h1,b,vs++[w],rfl,C5,hfb,h4,(h5.mono gg.ext).append ⟨w,[],rfl,r,rfl⟩⟩
     ·rw[List.getElem?_set_ne qj]at z
      obtain⟨u,z1,z2⟩:=sl2.is j bb z
      refine⟨u,z1,?_⟩
      cases bb with
      | val d=>exact z2
      | exc C=>exact z2
      | own dd =>
       obtain⟨a',vs',y1,y2,y3,y4,y5⟩:=z2
       have ne:a'≠b:=fun zz=>by
        subst zz y1
        exact qj (a.sl.apart i j ds dd a' eo z h1 z1)
       exact⟨a',vs',y1,by rw[D0 ne];exact y2,y3,y4,y5⟩
    ·have q1':∃dd,ρ[j]? = some (some (.own dd)):=by
      by_cases qj:i=j
      ·subst qj;exact⟨ds,eo⟩
      ·rw[List.getElem?_set_ne qj]at q1;exact⟨_,q1⟩
     have q2':∃dd,ρ[k]? = some (some (.own dd)):=by
      by_cases qj:i=k
      ·subst qj;exact⟨ds,eo⟩
      ·rw[List.getElem?_set_ne qj]at q2;exact⟨_,q2⟩
     obtain⟨d1,q1'⟩:=q1'
     obtain⟨d2,q2'⟩:=q2'
     exact a.sl.apart j k d1 d2 c q1' q2' q3 q4
  ·cases q
 ·cases q
noncomputable def frz(i:Nat) (ρ:Rho):Rho:=match ρ[i]? with
 | some (some (.own ds))=>ρ.set i (some (.val (.list ds)))
 | _=>ρ
theorem cc6{K:PySem.W.Frag}{H0 Hf0 H Hf:Hp}{ρ:Rho}{σ:L2.St}(i:Nat) (a:At K H0 Hf0 ρ σ H Hf):∃Hf',G1 Hf Hf'/\At K H0 Hf0 (frz i ρ) σ H Hf':=by
 unfold frz
 split
 ·rename_i ds eo
  obtain⟨v,h1,b,vs,rfl,h2,h3,h4,h5⟩:=a.sl.is i _ eo
  have g:Grow H0 Hf0 H (upd Hf b (.lst vs)):=a.gr.freeze h2 h3 h4
  refine⟨upd Hf b (.lst vs),G0 h3,g,⟨by simpa using a.sl.len,fun j bb z=>?_,fun j k ds1 es c q1 q2 q3 q4=>?_⟩⟩
  ·have hi:i < ρ.length:=(List.getElem?_eq_some_iff.mp eo).1
   by_cases qj:i=j
   ·subst qj
    rw[List.getElem?_set_self hi]at z
    cases z
    exact⟨_,h1,b,vs,rfl,SqL.of C5,h5.mono (G0 h3)⟩
   ·rw[List.getElem?_set_ne qj]at z
    obtain⟨u,z1,z2⟩:=a.sl.is j bb z
    refine⟨u,z1,?_⟩
    cases bb with
    | val d=>exact Rep.mono (G0 h3) z2
    | exc C =>
     obtain⟨a',o',C',y1,y2,y3⟩:=z2
     exact⟨a',o',C',y1,G0 h3 _ _ y2,y3⟩
    | own dd =>
     obtain⟨a',vs',y1,y2,y3,y4,y5⟩:=z2
     have ne:a'≠b:=fun zz=>by
      subst zz y1
      exact qj (a.sl.apart i j ds dd a' eo z h1 z1)
     exact⟨a',vs',y1,y2,by rw[D0 ne];exact y3,y4,y5.mono (G0 h3)⟩
  ·have hi:i < ρ.length:=(List.getElem?_eq_some_iff.mp eo).1
   have qj:i≠j:=fun z=>by subst z;rw[List.getElem?_set_self hi]at q1;cases q1
   have qk:i≠k:=fun z=>by subst z;rw[List.getElem?_set_self hi]at q2;cases q2
   rw[List.getElem?_set_ne qj]at q1
   rw[List.getElem?_set_ne qk]at q2
   exact a.sl.apart j k ds1 es c q1 q2 q3 q4
 ·exact⟨Hf,G1.refl _,a⟩
noncomputable def aN3(i:Nat) (f:DS):DS:=fun ρ=>f (frz i ρ)
theorem bY3(i:Nat) {st:Stmt}{f:DS}(h:JS X st f):JS X st (aN3 i f):=fun ρ fl q H0 Hf0=>T6 (h (frz i ρ) fl q H0 Hf0) fun En σ H ⟨Hf,a,e⟩=>by
 obtain⟨Hf',s,a'⟩:=cc6 i a
 exact⟨Hf',a',Fl.ends_mono e s⟩
noncomputable def cg2(K:PySem.W.Frag) (H0 Hf0:Hp) (f:DS):TS:=fun En σ H=>∃ρ fl,f ρ=some fl/\tJS K H0 Hf0 ρ fl En σ H
theorem bb5{sts:List Stmt}{f:DS}{H0 Hf0:Hp}(h:JSs X sts f):PSs X sts (cg2 X.K H0 Hf0 f):=fun pins s σ H En I ⟨ρ,fl,e,t⟩=>h ρ fl e H0 Hf0 pins s σ H En I t
theorem bS7{e:Expr}{c:Rho->Option Bool}(h:JT X e c):PT X e (aC8 X.K c):=fun pins s σ H Q I ⟨ρ,b,e,t⟩=>h ρ b e pins s σ H Q I t
noncomputable def Y6(t:Rho->Option Bool) (f:DS):Nat->DS
 | 0=>fun _=>none
 | n+1=>fun ρ=>(t ρ).bind fun c=>if c then(f ρ).bind fun fl=>match fl with
   | .nx ρ'=>Y6 t f n ρ'
   | .ct ρ'=>Y6 t f n ρ'
   | .bk ρ'=>some (.nx ρ')
   | .rt d=>some (.rt d)
  else some (.nx ρ)
theorem ai8{t:Rho->Option Bool}{f:DS}:∀{n:Nat}{ρ:Rho}{fl:Fl},Y6 t f n ρ=some fl->Y6 t f (n+1) ρ=some fl
 | 0,_,_,h=>by cases h
 | n+1,ρ,fl,h=>by
  obtain⟨c,e1,h⟩:=xbm h
  show(t ρ).bind _=_
  rw[e1]
  cases c with
  | false=>exact h
  | true =>
   obtain⟨fl1,e2,h⟩:=xbm h
   show(f ρ).bind _=_
   rw[e2]
   cases fl1 with
   | nx ρ'=>exact ai8 (n:=n) h
   | ct ρ'=>exact ai8 (n:=n) h
   | bk ρ'=>exact h
   | rt d=>exact h
theorem aP5{t:Rho->Option Bool}{f:DS}{n m:Nat}{ρ:Rho}{fl:Fl}(h:Y6 t f n ρ=some fl) (l:n<=m):Y6 t f m ρ=some fl:=by
 induction l with
 | refl=>exact h
 | step _ ih=>exact ai8 ih
open Classical in
noncomputable def aa6(t:Rho->Option Bool) (f:DS):DS:=fun ρ=>if h:∃fl n,Y6 t f n ρ=some fl then some h.choose else none
theorem aD2{t:Rho->Option Bool}{f:DS}{n:Nat}{ρ:Rho}{fl:Fl}(h:Y6 t f n ρ=some fl):aa6 t f ρ=some fl:=by
 have hx:∃fl n,Y6 t f n ρ=some fl:=⟨fl,n,h⟩
 unfold aa6
 rw[dif_pos hx]
 obtain⟨m,hm⟩:=hx.choose_spec
 have h1:=aP5 h (Nat.le_max_left n m)
 have h2:=aP5 hm (Nat.le_max_right n m)
 rw[h1]at h2
 exact h2.symm
theorem bh9{t:Rho->Option Bool}{f:DS}{ρ:Rho}{fl:Fl}(h:aa6 t f ρ=some fl):∃n,Y6 t f n ρ=some fl:=by
 unfold aa6 at h
 split at h
 ·rename_i hx
  cases h
  exact hx.choose_spec
 ·cases h
theorem bv6{c:Expr}{body:List Stmt}{t:Rho->Option Bool}{f:DS}{pos:Pos}(hc:JT X c t) (hb:JSs X body f) (hp:PassesOwn (model X.prog X.w) X.A X.env X.xe:=by exact PassesOwn.never):JS X (.While c body [] pos) (aa6 t f):=fun ρ fl q H0 Hf0=>by
 obtain⟨n,hn⟩:=bh9 q
 refine T6 (br7 hp (bS7 hc) (bb5 (H0:=H0) (Hf0:=Hf0) hb)) fun En σ H ⟨Hf,a,e⟩=>?_
 refine⟨fun m σ H=>∃Hf' ρ',At X.K H0 Hf0 ρ' σ H Hf'/\G1 Hf Hf'/\Y6 t f m ρ'=some fl,⟨n,Hf,ρ,a,G1.refl _,hn⟩,?_⟩
 rintro m σ' H' ⟨Hf',ρ',a',s',hm⟩
 cases m with
 | zero=>cases hm
 | succ m =>
  obtain⟨b,e1,hm⟩:=xbm hm
  refine⟨ρ',b,e1,H0,Hf',a'.gr.sub,a'.sl,fun H2 Hf2 g2=>?_⟩
  have a2:=a'.grow g2
  have s2:=s'.trans g2.ext
  cases b with
  | false =>
   have:fl=.nx ρ':=by simpa using hm.symm
   subst this
   exact aA2 (e σ' H2 Hf2 a2 s2)
  | true =>
   obtain⟨fl1,e2,hm⟩:=xbm (show(f ρ').bind _=some fl from hm)
   refine aA1 ⟨fun σ3 H3=>∃m',m' < m+1/\∃Hf' ρ',At X.K H0 Hf0 ρ' σ3 H3 Hf'/\G1 Hf Hf'/\Y6 t f m' ρ'=some fl,fun σ3 H3 z=>z,ρ',fl1,e2,Hf2,a2,?_⟩
   cases fl1 with
   | nx ρ3=>exact fun σ3 H3 Hf3 a3 s3=>⟨m,Nat.lt_succ_self _,Hf3,ρ3,a3,s2.trans s3,hm⟩
   | ct ρ3=>exact fun σ3 H3 Hf3 a3 s3=>⟨m,Nat.lt_succ_self _,Hf3,ρ3,a3,s2.trans s3,hm⟩
   | bk ρ3 =>
    cases hm
    exact fun σ3 H3 Hf3 a3 s3=>e σ3 H3 Hf3 a3 (s2.trans s3)
   | rt d =>
    cases hm
    exact e
noncomputable def am7(g:D->Rho->Option Rho) (f:DS):List D->DS
 | []=>fun ρ=>some (.nx ρ)
 | d::ds=>fun ρ=>(g d ρ).bind fun ρ1=>(f ρ1).bind fun fl=>match fl with
   | .nx ρ'=>am7 g f ds ρ'
   | .ct ρ'=>am7 g f ds ρ'
   | .bk ρ'=>some (.nx ρ')
   | .rt d=>some (.rt d)
noncomputable def i6(src:Rho->Option (List D)) (g:D->Rho->Option Rho) (f:DS):DS:=fun ρ=>(src ρ).bind fun ds=>am7 g f ds ρ
theorem bY4{tg iter:Expr}{body:List Stmt}{src:Rho->Option (List D)}{g:D->Rho->Option Rho}{f:DS}{pos:Pos}(hi:JI X tg iter src) (hg:JG X tg g) (hb:JSs X body f) (hp:PassesOwn (model X.prog X.w) X.A X.env X.xe:=by exact PassesOwn.never) (hc:X.calm=true:=by rfl)
  (hs:∀x,foldedSetIterable iter X.env x=pure x:=by intro _;rfl):JS X (.For tg iter body [] pos) (i6 src g f):=fun ρ fl q H0 Hf0=>by
 obtain⟨ds,e1,e2⟩:=xbm q
 refine T6 (bT0 hp hc (hi ρ ds e1) hg (bb5 (H0:=H0) (Hf0:=Hf0) hb) hs) fun En σ H ⟨Hf,a,e⟩=>⟨H0,Hf,a.gr.sub,a.sl,fun J H1 Hf1 g1 Y=>?_⟩
 refine⟨fun i m σ H=>m=ds.length - i/\i<=ds.length/\∃Hf' ρ',At X.K H0 Hf0 ρ' σ H Hf'/\G1 Hf1 Hf'/\am7 g f (ds.drop i) ρ'=some fl,⟨ds.length,by simp,Nat.zero_le _,Hf1,ρ,a.grow g1,G1.refl _,by simpa using e2⟩,?_⟩
 rintro i m σ' H' ⟨rfl,hi,Hf',ρ',a',s',hm⟩
 obtain⟨Ys,Yg⟩:=Y i H' Hf' s' a'.gr.sub
 rcases Nat.lt_or_ge i ds.length with hlt|hge
 ·right
  obtain⟨go,yl⟩:=Yg ds[i] (by simp[hlt])
  rw[List.drop_eq_getElem_cons hlt]at hm
  obtain⟨ρ1,c1,hm⟩:=xbm hm
  obtain⟨fl1,c2,hm⟩:=xbm hm
  refine⟨go,fun σ3 H3=>∃m',m' < ds.length - i/\m'=ds.length - (i+1)/\i+1<=ds.length/\∃Hf' ρ',At X.K H0 Hf0 ρ' σ3 H3 Hf'/\G1 Hf1 Hf'/\am7 g f (ds.drop (i+1)) ρ'=some fl,fun σ3 H3 ⟨m',z1,z2⟩=>⟨m',z1,z2⟩,fun x H2 hy=>?_⟩
  obtain⟨Hf2,g2,r2⟩:=yl x H2 hy
  have a2:=a'.grow g2
  refine⟨ds[i],ρ',ρ1,H0,Hf2,c1,g2.sub,a2.sl,r2,fun σ3 sl3=>⟨ρ1,fl1,c2,Hf2,⟨a2.gr,sl3⟩,?_⟩⟩
  have s2:=s'.trans g2.ext
  cases fl1 with
  | nx ρ3=>exact fun σ3 H3 Hf3 a3 s3=>⟨_,by omega,rfl,hlt,Hf3,ρ3,a3,s2.trans s3,hm⟩
  | ct ρ3=>exact fun σ3 H3 Hf3 a3 s3=>⟨_,by omega,rfl,hlt,Hf3,ρ3,a3,s2.trans s3,hm⟩
  | bk ρ3 =>
   cases hm
   exact fun σ3 H3 Hf3 a3 s3=>e σ3 H3 Hf3 a3 (g1.ext.trans (s2.trans s3))
  | rt d =>
   cases hm
   exact e
 ·left
  have:i=ds.length:=by omega
  subst this
  rw[List.drop_length]at hm
  cases hm
  exact⟨Ys (Nat.le_refl _),e σ' H' Hf' a' (g1.ext.trans s')⟩
theorem bJ1{pos:Pos}:JS X (.Pass pos) C9:=fun ρ fl q H0 Hf0=>by
 cases q
 exact T6 bF4 fun En σ H ⟨Hf,a,e⟩=>e σ H Hf a (G1.refl _)
theorem bY6{pos:Pos}:JS X (.Break pos) (fun ρ=>some (.bk ρ)):=fun ρ fl q H0 Hf0=>by
 cases q
 exact T6 br9 fun En σ H ⟨Hf,a,e⟩=>e σ H Hf a (G1.refl _)
end
noncomputable def Z2(n:Nat) (ds:List D):Rho:=ds.map (fun d=>some (B.val d))++List.replicate (n - ds.length) none
noncomputable def C3(g:DS) (n:Nat):List D->Option D:=fun ds=>(g (Z2 n ds)).bind fun fl=>match fl with
 | .rt d=>some d
 | .nx _=>some .none
 | _=>none
theorem ar4{K:PySem.W.Frag}{H0 H Hf:Hp}{N:List Str}{ds:List D}{vs:List V}(r:Reps K Hf ds vs):Slots K H0 (Z2 N.length ds) (L2.o6 N vs) H Hf:=by
 have hl:=r.length
 have noown:∀(i:Nat) (b:B),(Z2 N.length ds)[i]? = some (some b)->∃d,ds[i]? = some d/\b=.val d:=fun i b h=>by
  unfold Z2 at h
  rcases Nat.lt_or_ge i ds.length with q|q
  ·rw[List.getElem?_append_left (by simpa using q),List.getElem?_map]at h
   rw[List.getElem?_eq_getElem q]at h ⊢
   simp only[Option.map_some,Option.some.injEq]at h
   exact⟨ds[i],rfl,h.symm⟩
  ·rw[List.getElem?_append_right (by simpa using q),List.getElem?_replicate]at h
   split at h<;>cases h
 refine⟨by simp[Z2,L2.o6,hl],fun i b e=>?_,fun i j d1 d2 a e1 _ _ _=>?_⟩
 ·obtain⟨d,h1,h2⟩:=noown i b e
  subst h2
  obtain⟨v,h3,h4⟩:=r.get h1
  refine⟨v,?_,h4⟩
  have hi:i < vs.length:=(List.getElem?_eq_some_iff.mp h3).1
  unfold L2.o6
  rw[List.getElem?_append_left (by simpa using hi),List.getElem?_map,h3];rfl
 ·obtain⟨d,_,h2⟩:=noown i _ e1
  cases h2
theorem be6{P:Program}{w:World}{K:PySem.W.Frag}{mg:Str->Option Value}{base:Heap}{x qual:Str}{st:Stmt}{f:Addr}{fd:FuncData}{N ps:List Str}{k:Nat}{g:DS}(F:Fun K x qual st f fd) (S:FnScope N ps (K8 st))
  (hb:∀(cdv:Value) (A:Around) (outer:List Env) (s:Shared) (H:Hp) (E:XK),Room k (A.deeper (envOfC qual (K8 st) s.heap.objs.size f cdv))->JSs (aR5 CX0 P w K mg base N qual (K8 st) f cdv A outer s H E).nox (S7 st) g) :
  FnOk P w K mg base CX0 (k+1) f fd ps (spF K ps.length (C3 g N.length)):=by
 refine F.ok S (fun vs H Q E h=>h.1) fun cdv A outer s H vs Q E hr hsp=>?_
 obtain⟨hlen,Hf,ds,d,ss,rp,e,kk⟩:=hsp
 obtain⟨fl,e1,e2⟩:=xbm e
 refine⟨_,hb cdv A outer s H E hr _ fl e1 H Hf,Hf,⟨Grow.refl ss,ar4 rp⟩,?_⟩
 cases fl with
 | rt d'=>cases e2;exact fun v H' Hf' g r=>kk v H' Hf' g r
 | nx ρ=>cases e2;exact fun σ' H' Hf' a _=>kk _ H' Hf' a.gr rfl
 | bk ρ=>cases e2
 | ct ρ=>cases e2
noncomputable def SIt:Bool->Heap->Addr->Addr->Nat->Prop
 | true=>Heap.IsTupleIter
 | false=>Heap.IsListIter
noncomputable def SSq:Bool->Heap->Addr->Array Value->Prop
 | true=>Heap.IsTuple
 | false=>Heap.IsList
section
variable {prog:Program}{w:World}{A:Around}{E:Value->Shared->Prop}{s:Shared}{t t1 t2:Bool}
theorem SIt.ext{h h':Heap}{it l:Addr}{k:Nat}(x:SIt t h it l k) (e:∀o,h.get? it=some o->h'.get? it=some o):SIt t h' it l k:=by
 cases t with
 | true=>obtain⟨o,ho,r⟩:=x;exact⟨o,e o ho,r⟩
 | false=>obtain⟨o,ho,r⟩:=x;exact⟨o,e o ho,r⟩
theorem SSq.ext{h h':Heap}{l:Addr}{xs:Array Value}(x:SSq t h l xs) (e:∀o,h.get? l=some o->h'.get? l=some o):SSq t h' l xs:=by
 cases t with
 | true=>obtain⟨o,ho,r⟩:=x;exact⟨o,e o ho,r⟩
 | false=>obtain⟨o,ho,r⟩:=x;exact⟨o,e o ho,r⟩
theorem SIt.lt{h:Heap}{it l:Addr}{k:Nat}(x:SIt t h it l k):it < h.objs.size:=by
 cases t with
 | true=>obtain⟨o,ho,_⟩:=x;exact Heap.lt_size ho
 | false=>obtain⟨o,ho,_⟩:=x;exact Heap.lt_size ho
theorem aU0{it l:Addr}{k:Nat}{xs:Array Value}{x:Value}{Q:Value->Shared->Prop}(hit:s.heap.IsTupleIter it l k) (hl:s.heap.IsTuple l xs) (hx:xs[k]? = some x)
  (hQ:∀h',h'.IsTupleIter it l (k+1)->Heap.SameBut it s.heap h'->Q x { s with heap:=h' }):wpAny (model prog w) A (Builtin.SmallTypes.nextOf (.ref it)) Q E s:=by
 obtain⟨o,ho,hc,hd⟩:=id hit;obtain⟨ol,hol,_,nl,hdl⟩:=hl;unfold Builtin.SmallTypes.nextOf
 refine wpAny_bind (wpAny_callSpecial?_slot (name:=Str.ofString "__next__") hit.typeIs F.slot_tuple_iterator_next (wpAny_call_entry F.slot_tuple_iterator_next hit.typeIs F.entry_tuple_iterator_next ?_ (F.args_tuple_iterator_next_1 _)))
 show wpAny _ _ (field (.ref it) 0 >>= _) _ _ s;refine wpAny_bind (wpAny_field ho hd (x:=.ref l) rfl ?_);show wpAny _ _ (if(Value.ref l==Value.none)=true then _ else _) _ _ s
 rw[if_neg (show ¬((Value.ref l==Value.none)=true) from Bool.false_ne_true)];show wpAny _ _ (field (.ref it) 1 >>= _) _ _ s
 refine wpAny_bind (wpAny_field ho hd (x:=.int k 0) rfl ?_);show wpAny _ _ (seqItems? (.ref l) >>= _) _ _ s;refine wpAny_bind (wpAny_seqItems hol hdl ?_);simp only[Int.toNat_natCast,hx]
 refine wpAny_bind (wpAny_setField ho hd (by simp) (wpAny_pure ⟨x,rfl,wpAny_pure (hQ _ ⟨_,Heap.get?_update_self _ ho (Obj.isFreed_of_fields (Obj.data_mapFields hd _)),(Obj.cls_mapFields ..).trans hc,?_⟩ (Heap.SameBut.update ..))⟩))
 rw[Obj.data_mapFields hd];simp[rawInt]
theorem bg6{it l:Addr}{k:Nat}{xs:Array Value}{Q:Value->Shared->Prop}(hh:A.handled=none) (hit:s.heap.IsTupleIter it l k) (hl:s.heap.IsTuple l xs) (hx:xs[k]? = none)
  (hE:∀h' e,Heap.ExtBut it s.heap h'->(∃o,h'.get? e=some o/\o.cls=.type "StopIteration")->E (.ref e) { s with heap:=h' }):wpAny (model prog w) A (Builtin.SmallTypes.nextOf (.ref it)) Q E s:=by
 obtain⟨o,ho,hc,hd⟩:=id hit;obtain⟨ol,hol,_,nl,hdl⟩:=hl;unfold Builtin.SmallTypes.nextOf
 refine wpAny_bind (wpAny_callSpecial?_slot (name:=Str.ofString "__next__") hit.typeIs F.slot_tuple_iterator_next (wpAny_call_entry F.slot_tuple_iterator_next hit.typeIs F.entry_tuple_iterator_next ?_ (F.args_tuple_iterator_next_1 _)))
 show wpAny _ _ (field (.ref it) 0 >>= _) _ _ s;refine wpAny_bind (wpAny_field ho hd (x:=.ref l) rfl ?_);show wpAny _ _ (if(Value.ref l==Value.none)=true then _ else _) _ _ s
 rw[if_neg (show ¬((Value.ref l==Value.none)=true) from Bool.false_ne_true)];show wpAny _ _ (field (.ref it) 1 >>= _) _ _ s
 refine wpAny_bind (wpAny_field ho hd (x:=.int k 0) rfl ?_);show wpAny _ _ (seqItems? (.ref l) >>= _) _ _ s;refine wpAny_bind (wpAny_seqItems hol hdl ?_);simp only[Int.toNat_natCast,hx]
 refine wpAny_bind (wpAny_rule (wpAny_bind (wpAny_setField ho hd (by simp) ?_)));show wpAny _ _ (newExc (.type "StopIteration") [] >>= _) _ _ _;refine wpAny_bind ?_;simp only[newExc,newTuple]
 refine wpAny_bind (wpAny_newObj_type ?_ (by size_fits));refine wpAny_bind (m:=firstArgMember _ _) (wpAny_of_eq (a:=Value.none) (by first|rfl|(simp only[firstArgMember];rfl)) ?_);refine wpAny_newObj_type ?_ (by size_fits)
 simp only[raiseNew];refine wpAny_bind (wpAny_handled ?_);first|rw[show A.in1.handled=none from hh]|rw[hh]
 refine wpAny_bind (wpAny_pure (wpAny_throw ?_));exact hE _ _ (((Heap.SameBut.update ..).extBut.push _).push _) ⟨_,Heap.get?_push_size _ rfl,rfl⟩
theorem ak8{it l:Addr}{k:Nat}{xs:Array Value}{x:Value}{Q:Value->Shared->Prop}(hit:SIt t s.heap it l k) (hl:SSq t s.heap l xs) (hx:xs[k]? = some x)
  (hQ:∀h',SIt t h' it l (k+1)->Heap.SameBut it s.heap h'->Q x { s with heap:=h' }):wpAny (model prog w) A (Builtin.SmallTypes.nextOf (.ref it)) Q E s:=by
 cases t with
 | true=>exact aU0 hit hl hx hQ
 | false=>exact wpAny_nextOf_list_item hit hl hx hQ
theorem at7{it l:Addr}{k:Nat}{xs:Array Value}{Q:Value->Shared->Prop}(hh:A.handled=none) (hit:SIt t s.heap it l k) (hl:SSq t s.heap l xs) (hx:xs[k]? = none)
  (hE:∀h' e,Heap.ExtBut it s.heap h'->(∃o,h'.get? e=some o/\o.cls=.type "StopIteration")->E (.ref e) { s with heap:=h' }):wpAny (model prog w) A (Builtin.SmallTypes.nextOf (.ref it)) Q E s:=by
 cases t with
 | true=>exact bg6 hh hit hl hx hE
 | false=>exact wpAny_nextOf_list_end hh hit hl hx hE
theorem bg7{z TI TO i1 i2 l1 l2:Addr}{k1 k2:Nat}{xs ys:Array Value}{x y a b:Value}{Q:Value->Shared->Prop}(Z:ZipApart z TI TO i1 i2 l1 l2)
  (hz:IsZip s.heap z TI TO .none) (hTI:IsPair s.heap TI (.ref i1) (.ref i2)) (hTO:IsPair s.heap TO a b) (h1:SIt t1 s.heap i1 l1 k1) (h2:SIt t2 s.heap i2 l2 k2) (hl1:SSq t1 s.heap l1 xs) (hl2:SSq t2 s.heap l2 ys) (hx:xs[k1]? = some x) (hy:ys[k2]? = some y)
  (hQ:∀h',IsZip h' z TI TO (rawInt s.heap.objs.size)->IsPair h' TO x y->SIt t1 h' i1 l1 (k1+1)->SIt t2 h' i2 l2 (k2+1)->IsPair h' s.heap.objs.size x y->h'.objs.size=s.heap.objs.size+1 ->
   (∀c o,c≠z->c≠TO->c≠i1->c≠i2->s.heap.get? c=some o->h'.get? c=some o)->Q (.ref s.heap.objs.size) { s with heap:=h' }) :
  wpAny (model prog w) A (Builtin.«zip.__next__» ⟨[.ref z],[]⟩) (fun fin s'=>∃v,fin=.done (.ret v)/\Q v s') E s:=by
 show wpAny _ _ (field (.ref z) 2 >>= _) _ _ _;refine wpAny_bind (wpAny_field hz rfl (x:=.bool false) rfl ?_);show wpAny _ _ (field (.ref z) 3 >>= _) _ _ _;refine wpAny_bind (wpAny_field hz rfl (x:=.ref TI) rfl ?_)
 refine wpAny_bind (wpAny_seqItems hTI rfl ?_);show wpAny _ _ (Builtin.SmallTypes.ownedTupleIsFree (.ref z) >>= _) _ _ _;refine wpAny_bind ?_;unfold Builtin.SmallTypes.ownedTupleIsFree
 refine wpAny_bind (wpAny_field hz rfl (x:=.none) rfl (wpAny_pure ?_));simp only[if_true];refine wpAny_bind (wpAny_rule ?_);refine wpAny_bind (wpAny_field hz rfl (x:=.ref TO) rfl ?_)
 refine wpAny_bind (wpAny_setField_rec hz (by simp) fun ha za sa=>?_);have za':IsZip ha z TI TO .ellipsis:=za
 refine wpAny_bind ?_;simp only[List.zipIdx_cons,List.zipIdx_nil,List.forIn_cons,List.forIn_nil];refine wpAny_bind (wpAny_bind (wpAny_onRaise ?_));show wpAny _ _ (Builtin.SmallTypes.nextOf (.ref i1) >>= _) _ _ _
 refine wpAny_bind (ak8 (h1.ext fun o e=>sa.extBut _ _ Z.i1z e) (hl1.ext fun o e=>sa.extBut _ _ Z.l1z e) hx fun hb h1b sb=>wpAny_pure ?_)
 have hTOb:IsPair hb TO a b:=sb.extBut _ _ Z.TOi1 (sa.extBut _ _ Z.TOz hTO)
 refine wpAny_bind (wpAny_seqItems hTOb rfl ?_);refine wpAny_bind (wpAny_updateSeq_pair hTOb fun hcc TOc sc=>?_);have TOc':IsPair hcc TO x b:=TOc
 refine wpAny_bind (wpAny_letGo (wpAny_pure ?_));refine wpAny_bind (wpAny_bind (wpAny_onRaise ?_));show wpAny _ _ (Builtin.SmallTypes.nextOf (.ref i2) >>= _) _ _ _
 refine wpAny_bind (ak8 (((h2.ext fun o e=>sa.extBut _ _ Z.i2z e).ext fun o e=>sb.extBut _ _ Z.i12.symm e).ext fun o e=>sc.extBut _ _ Z.TOi2.symm e) (((hl2.ext fun o e=>sa.extBut _ _ Z.l2z e).ext fun o e=>sb.extBut _ _ Z.l2i1 e).ext fun o e=>sc.extBut _ _ Z.l2TO e) hy fun hd h2d sd=>wpAny_pure ?_)
 have hTOd:IsPair hd TO x b:=sd.extBut _ _ Z.TOi2 TOc'
 refine wpAny_bind (wpAny_seqItems hTOd rfl ?_);refine wpAny_bind (wpAny_updateSeq_pair hTOd fun he TOe se=>?_);have TOe':IsPair he TO x y:=TOe
 refine wpAny_bind (wpAny_letGo (wpAny_pure (wpAny_pure ?_)));refine wpAny_bind (wpAny_seqItems TOe' rfl ?_);refine wpAny_bind (wpAny_newTuple ?_)
 have sz:he.objs.size=s.heap.objs.size:=by rw[se.1,sd.1,sc.1,sb.1,sa.1]
 have ze:IsZip he z TI TO .ellipsis:=se.extBut _ _ Z.TOz.symm (sd.extBut _ _ Z.i2z.symm (sc.extBut _ _ Z.TOz.symm (sb.extBut _ _ Z.i1z.symm za')))
 have ke:∀c o,c≠z->c≠TO->c≠i1->c≠i2->s.heap.get? c=some o->he.get? c=some o:=fun c o c1 c2 c3 c4 e=>se.extBut _ _ c2 (sd.extBut _ _ c4 (sc.extBut _ _ c2 (sb.extBut _ _ c3 (sa.extBut _ _ c1 e))))
 have h1e:SIt t1 he i1 l1 (k1+1):=((h1b.ext fun o e=>sc.extBut _ _ Z.TOi1.symm e).ext fun o e=>sd.extBut _ _ Z.i12 e).ext fun o e=>se.extBut _ _ Z.TOi1.symm e
 have h2e:SIt t2 he i2 l2 (k2+1):=h2d.ext fun o e=>se.extBut _ _ Z.TOi2.symm e
 have zlt:z < he.objs.size:=Heap.lt_size ze
 show wpAny _ _ (Builtin.SmallTypes.ownedTupleHandOut (.ref z) (.ref he.objs.size) >>= _) _ _ _;refine wpAny_bind ?_;unfold Builtin.SmallTypes.ownedTupleHandOut
 have zf:IsZip (he.push { cls:=.type "tuple", data:=.seq #[x,y] }) z TI TO .ellipsis:=Heap.get?_push_of_some _ ze
 refine wpAny_bind (wpAny_setField_rec zf (by simp) fun hg zg sg=>?_);have zg':IsZip hg z TI TO (rawInt he.objs.size):=zg
 refine wpAny_setField_rec zg' (by simp) fun hi zi si=>?_;have zi':IsZip hi z TI TO (rawInt he.objs.size):=zi
 have up:∀c o,c≠z->he.get? c=some o->hi.get? c=some o:=fun c o c1 e=>si.extBut _ _ c1 (sg.extBut _ _ c1 (Heap.get?_push_of_some _ e))
 have hT:IsPair hi he.objs.size x y:=si.extBut _ _ (Nat.ne_of_gt zlt) (sg.extBut _ _ (Nat.ne_of_gt zlt) (Heap.get?_push_size _ rfl))
 have szi:hi.objs.size=he.objs.size+1:=by rw[si.1,sg.1,Heap.size_push]
 rw[sz]at zi' hT szi
 refine wpAny_pure ⟨_,rfl,?_⟩;show Q (.ref he.objs.size) _;rw[sz]
 exact hQ hi zi' (up _ _ Z.TOz TOe') (h1e.ext fun o e=>up _ o Z.i1z e) (h2e.ext fun o e=>up _ o Z.i2z e) hT szi fun c o c1 c2 c3 c4 e=>up c o c1 (ke c o c1 c2 c3 c4 e)
theorem bp7{z TI TO i1 i2 l1 l2:Addr}{k1 k2:Nat}{xs ys:Array Value}{a b:Value}{Q:Fin->Shared->Prop}(hh:A.handled=none) (Z:ZipApart z TI TO i1 i2 l1 l2)
  (hz:IsZip s.heap z TI TO .none) (hTI:IsPair s.heap TI (.ref i1) (.ref i2)) (hTO:IsPair s.heap TO a b) (h1:SIt t1 s.heap i1 l1 k1) (h2:SIt t2 s.heap i2 l2 k2) (hl1:SSq t1 s.heap l1 xs) (hl2:SSq t2 s.heap l2 ys) (hend:xs[k1]? = none\/ys[k2]? = none)
  (hE:∀h' e,(∀c o,c≠z->c≠TO->c≠i1->c≠i2->s.heap.get? c=some o->h'.get? c=some o)->(∃o,h'.get? e=some o/\o.cls=.type "StopIteration")->E (.ref e) { s with heap:=h' }) :
  wpAny (model prog w) A (Builtin.«zip.__next__» ⟨[.ref z],[]⟩) Q E s:=by
 show wpAny _ _ (field (.ref z) 2 >>= _) _ _ _;refine wpAny_bind (wpAny_field hz rfl (x:=.bool false) rfl ?_);show wpAny _ _ (field (.ref z) 3 >>= _) _ _ _;refine wpAny_bind (wpAny_field hz rfl (x:=.ref TI) rfl ?_)
 refine wpAny_bind (wpAny_seqItems hTI rfl ?_);show wpAny _ _ (Builtin.SmallTypes.ownedTupleIsFree (.ref z) >>= _) _ _ _;refine wpAny_bind ?_;unfold Builtin.SmallTypes.ownedTupleIsFree
 refine wpAny_bind (wpAny_field hz rfl (x:=.none) rfl (wpAny_pure ?_));simp only[if_true];refine wpAny_bind (wpAny_rule ?_);refine wpAny_bind (wpAny_field hz rfl (x:=.ref TO) rfl ?_)
 refine wpAny_bind (wpAny_setField_rec hz (by simp) fun ha za sa=>?_);have za':IsZip ha z TI TO .ellipsis:=za
 refine wpAny_bind ?_;simp only[List.zipIdx_cons,List.zipIdx_nil,List.forIn_cons,List.forIn_nil];refine wpAny_bind (wpAny_bind (wpAny_onRaise ?_));show wpAny _ _ (Builtin.SmallTypes.nextOf (.ref i1) >>= _) _ _ _
 cases hx:xs[k1]? with
 | none =>
  refine wpAny_bind (at7 hh (h1.ext fun o e=>sa.extBut _ _ Z.i1z e) (hl1.ext fun o e=>sa.extBut _ _ Z.l1z e) hx fun hb e sb he=>?_)
  obtain⟨oe,hoe,hce⟩:=he;have zb:IsZip hb z TI TO .ellipsis:=sb _ _ Z.i1z.symm za';have hez:e≠z:=fun q=>by subst q;rw[zb]at hoe;cases hoe;simp at hce
  exact wpAny_setField_rec zb (by simp) fun hcc _ sc=>hE hcc e (fun c o c1 _ c3 _ q=>sc.extBut _ _ c1 (sb _ _ c3 (sa.extBut _ _ c1 q))) ⟨oe,sc.extBut _ _ hez hoe,hce⟩
 | some x =>
  have hy:ys[k2]? = none:=by rcases hend with h|h;rw[hx]at h;cases h;exact h
  refine wpAny_bind (ak8 (h1.ext fun o e=>sa.extBut _ _ Z.i1z e) (hl1.ext fun o e=>sa.extBut _ _ Z.l1z e) hx fun hb h1b sb=>wpAny_pure ?_)
  have hTOb:IsPair hb TO a b:=sb.extBut _ _ Z.TOi1 (sa.extBut _ _ Z.TOz hTO)
  refine wpAny_bind (wpAny_seqItems hTOb rfl ?_);refine wpAny_bind (wpAny_updateSeq_pair hTOb fun hcc TOc sc=>?_)
  refine wpAny_bind (wpAny_letGo (wpAny_pure ?_));refine wpAny_bind (wpAny_bind (wpAny_onRaise ?_));show wpAny _ _ (Builtin.SmallTypes.nextOf (.ref i2) >>= _) _ _ _
  refine wpAny_bind (at7 hh (((h2.ext fun o e=>sa.extBut _ _ Z.i2z e).ext fun o e=>sb.extBut _ _ Z.i12.symm e).ext fun o e=>sc.extBut _ _ Z.TOi2.symm e) (((hl2.ext fun o e=>sa.extBut _ _ Z.l2z e).ext fun o e=>sb.extBut _ _ Z.l2i1 e).ext fun o e=>sc.extBut _ _ Z.l2TO e) hy fun hd e sd he=>?_)
  obtain⟨oe,hoe,hce⟩:=he;have zd:IsZip hd z TI TO .ellipsis:=sd _ _ Z.i2z.symm (sc.extBut _ _ Z.TOz.symm (sb.extBut _ _ Z.i1z.symm za'));have hez:e≠z:=fun q=>by subst q;rw[zd]at hoe;cases hoe;simp at hce
  exact wpAny_setField_rec zd (by simp) fun hf _ sf=>hE hf e (fun c o c1 c2 c3 c4 q=>sf.extBut _ _ c1 (sd _ _ c4 (sc.extBut _ _ c2 (sb.extBut _ _ c3 (sa.extBut _ _ c1 q))))) ⟨oe,sf.extBut _ _ hez hoe,hce⟩
theorem aU5{z TI TO i1 i2 l1 l2:Addr}{k1 k2:Nat}{xs ys:Array Value}{x y a b:Value}{Q:Option Value->Shared->Prop}(Z:ZipApart z TI TO i1 i2 l1 l2)
  (hz:IsZip s.heap z TI TO .none) (hTI:IsPair s.heap TI (.ref i1) (.ref i2)) (hTO:IsPair s.heap TO a b) (h1:SIt t1 s.heap i1 l1 k1) (h2:SIt t2 s.heap i2 l2 k2) (hl1:SSq t1 s.heap l1 xs) (hl2:SSq t2 s.heap l2 ys) (hx:xs[k1]? = some x) (hy:ys[k2]? = some y)
  (hQ:∀h',IsZip h' z TI TO (rawInt s.heap.objs.size)->IsPair h' TO x y->SIt t1 h' i1 l1 (k1+1)->SIt t2 h' i2 l2 (k2+1)->IsPair h' s.heap.objs.size x y->h'.objs.size=s.heap.objs.size+1 ->
   (∀c o,c≠z->c≠TO->c≠i1->c≠i2->s.heap.get? c=some o->h'.get? c=some o)->Q (some (.ref s.heap.objs.size)) { s with heap:=h' }):wpAny (model prog w) A (pyNext (.ref z)) Q E s:=by
 have hT:s.TypeIs (.ref z) "zip" := ⟨_,hz,rfl⟩
 unfold pyNext
 refine wpAny_bind (wpAny_attempt (wpAny_callSpecial?_slot (name:=Str.ofString "__next__") hT F.slot_zip_next (wpAny_call_entry F.slot_zip_next hT F.entry_zip_next (bg7 Z hz hTI hTO h1 h2 hl1 hl2 hx hy ?_) (F.args_zip_next_1 _))))
 exact fun h' a1 a2 a3 a4 a5 a6 a7=>wpAny_pure (hQ h' a1 a2 a3 a4 a5 a6 a7)
theorem bh0{z TI TO i1 i2 l1 l2:Addr}{k1 k2:Nat}{xs ys:Array Value}{a b:Value}{Q:Option Value->Shared->Prop}(hh:A.handled=none) (Z:ZipApart z TI TO i1 i2 l1 l2)
  (hz:IsZip s.heap z TI TO .none) (hTI:IsPair s.heap TI (.ref i1) (.ref i2)) (hTO:IsPair s.heap TO a b) (h1:SIt t1 s.heap i1 l1 k1) (h2:SIt t2 s.heap i2 l2 k2) (hl1:SSq t1 s.heap l1 xs) (hl2:SSq t2 s.heap l2 ys) (hend:xs[k1]? = none\/ys[k2]? = none)
  (hQ:∀h',(∀c o,c≠z->c≠TO->c≠i1->c≠i2->s.heap.get? c=some o->h'.get? c=some o)->Q none { s with heap:=h' }):wpAny (model prog w) A (pyNext (.ref z)) Q E s:=by
 have hT:s.TypeIs (.ref z) "zip" := ⟨_,hz,rfl⟩
 unfold pyNext
 refine wpAny_bind (wpAny_attempt (wpAny_callSpecial?_slot (name:=Str.ofString "__next__") hT F.slot_zip_next (wpAny_call_entry F.slot_zip_next hT F.entry_zip_next (bp7 hh Z hz hTI hTO h1 h2 hl1 hl2 hend fun h' e hk he=>?_) (F.args_zip_next_1 _))))
 obtain⟨o,ho,hc⟩:=he
 exact wpAny_bind (wpAny_isInstance (T := "StopIteration") (b:=true) ⟨o,ho,hc⟩ isSubtype_stop (wpAny_pure (hQ _ hk)))
noncomputable def am1(t:Bool) (l:Addr):Obj:={ cls:=.type (if t then "tuple_iterator" else "list_iterator"),data:=.fields #[.ref l,.int 0 0] }
theorem aH3{h:Heap}{l:Addr}(t:Bool):SIt t (h.push (am1 t l)) h.objs.size l 0:=by
 cases t with
 | true=>exact⟨_,Heap.get?_push_size _ rfl,rfl,rfl⟩
 | false=>exact⟨_,Heap.get?_push_size _ rfl,rfl,rfl⟩
theorem ae0{l:Addr}{xs:Array Value}{Q:Value->Shared->Prop}(hl:SSq t s.heap l xs) (hQ:Q (.ref s.heap.objs.size) { s with heap:=s.heap.push (am1 t l) }):wpAny (model prog w) A (pyIter (.ref l)) Q E s:=by
 cases t with
 | true=>exact wpAny_pyIter_tuple hl hQ
 | false=>exact wpAny_pyIter_list hl hQ
end
noncomputable abbrev zp1(h:Heap) (t1:Bool) (l1:Addr):Heap:=h.push (am1 t1 l1)
noncomputable abbrev zp2(h:Heap) (t1 t2:Bool) (l1 l2:Addr):Heap:=(zp1 h t1 l1).push (am1 t2 l2)
noncomputable abbrev zp3(h:Heap) (t1 t2:Bool) (l1 l2:Addr):Heap:=(zp2 h t1 t2 l1 l2).push { cls:=.type "tuple", data:=.seq #[.ref h.objs.size,.ref (zp1 h t1 l1).objs.size] }
noncomputable abbrev zp4(h:Heap) (t1 t2:Bool) (l1 l2:Addr):Heap:=(zp3 h t1 t2 l1 l2).push { cls:=.type "tuple", data:=.seq #[.none,.none] }
noncomputable abbrev zp5(h:Heap) (t1 t2:Bool) (l1 l2:Addr):Heap:=(zp4 h t1 t2 l1 l2).push { cls:=.type "zip", data:=.fields #[.none,.bool false,.bool false,.ref (zp2 h t1 t2 l1 l2).objs.size,.ref (zp3 h t1 t2 l1 l2).objs.size] }
theorem bp6(l1 l2:Addr) (xs ys:Array Value) (t1 t2:Bool) :
  Meets (Builtin.«zip.__new__» ⟨[.type "zip", .ref l1,.ref l2],[]⟩) (fun _ R s=>SSq t1 s.heap l1 xs/\SSq t2 s.heap l2 ys/\∀h',IsZip h' (s.heap.objs.size+4) (s.heap.objs.size+2) (s.heap.objs.size+3) .none->IsPair h' (s.heap.objs.size+2) (.ref s.heap.objs.size) (.ref (s.heap.objs.size+1)) ->
   IsPair h' (s.heap.objs.size+3) .none .none->SIt t1 h' s.heap.objs.size l1 0->SIt t2 h' (s.heap.objs.size+1) l2 0->(∀c o,s.heap.get? c=some o->h'.get? c=some o)->R (.ok (.ret (.ref (s.heap.objs.size+4)))) { s with heap:=h' }) :=
 .of_wp fun prog w A R s h=>by
  obtain⟨hp,g,d,tk,os⟩:=s
  obtain⟨hl1,hl2,h⟩:=h
  have hsub:=sub_zip
  have q1:SSq t1 (Shared.heap ⟨hp,g,d,tk,os⟩) l1 xs:=hl1
  have q2:SSq t2 (Shared.heap ⟨hp.push (am1 t1 l1),g,d,tk,os⟩) l2 ys:=SSq.ext hl2 fun o e=>Heap.get?_push_of_some _ e
  wp_walk using ae0 q1,ae0 q2
  refine⟨_,rfl,?_⟩
  have z1:(zp1 hp t1 l1).objs.size=hp.objs.size+1:=Heap.size_push ..
  have z2:(zp2 hp t1 t2 l1 l2).objs.size=hp.objs.size+2:=by rw[Heap.size_push,z1]
  have z3:(zp3 hp t1 t2 l1 l2).objs.size=hp.objs.size+3:=by rw[Heap.size_push,z2]
  have z4:(zp4 hp t1 t2 l1 l2).objs.size=hp.objs.size+4:=by rw[Heap.size_push,z3]
  show R (.ok (.ret (.ref (zp4 hp t1 t2 l1 l2).objs.size))) ⟨zp5 hp t1 t2 l1 l2,g,d,tk,os⟩
  rw[z4]
  have g5:(zp5 hp t1 t2 l1 l2).get? (zp4 hp t1 t2 l1 l2).objs.size=some _:=Heap.get?_push_size _ rfl
  have g4:(zp5 hp t1 t2 l1 l2).get? (zp3 hp t1 t2 l1 l2).objs.size=some _:=Heap.get?_push_of_some _ (Heap.get?_push_size _ rfl)
  have g3:(zp5 hp t1 t2 l1 l2).get? (zp2 hp t1 t2 l1 l2).objs.size=some _:=Heap.get?_push_of_some _ (Heap.get?_push_of_some _ (Heap.get?_push_size _ rfl))
  rw[z4,z2,z3]at g5
  rw[z3]at g4
  rw[z2,z1]at g3
  have k1:∀c o,hp.get? c=some o->(zp5 hp t1 t2 l1 l2).get? c=some o:=fun c o e=>Heap.get?_push_of_some _ (Heap.get?_push_of_some _ (Heap.get?_push_of_some _ (Heap.get?_push_of_some _ (Heap.get?_push_of_some _ e))))
  have s1:SIt t1 (zp5 hp t1 t2 l1 l2) hp.objs.size l1 0:=(aH3 (h:=hp) (l:=l1) t1).ext fun o e=>Heap.get?_push_of_some _ (Heap.get?_push_of_some _ (Heap.get?_push_of_some _ (Heap.get?_push_of_some _ e)))
  have s2:SIt t2 (zp5 hp t1 t2 l1 l2) (zp1 hp t1 l1).objs.size l2 0:=(aH3 (h:=zp1 hp t1 l1) (l:=l2) t2).ext fun o e=>Heap.get?_push_of_some _ (Heap.get?_push_of_some _ (Heap.get?_push_of_some _ e))
  rw[z1]at s2
  exact h _ g5 g3 g4 s1 s2 k1
section
variable {prog:Program}{w:World}{A:Around}{E:Value->Shared->Prop}{s:Shared}{t1 t2:Bool}
theorem bg8{l1 l2:Addr}{xs ys:Array Value}{Q:Value->Shared->Prop}(hl1:SSq t1 s.heap l1 xs) (hl2:SSq t2 s.heap l2 ys)
  (h:∀h',IsZip h' (s.heap.objs.size+4) (s.heap.objs.size+2) (s.heap.objs.size+3) .none->IsPair h' (s.heap.objs.size+2) (.ref s.heap.objs.size) (.ref (s.heap.objs.size+1)) ->
   IsPair h' (s.heap.objs.size+3) .none .none->SIt t1 h' s.heap.objs.size l1 0->SIt t2 h' (s.heap.objs.size+1) l2 0->(∀c o,s.heap.get? c=some o->h'.get? c=some o)->Q (.ref (s.heap.objs.size+4)) { s with heap:=h' }) :
  wpAny (model prog w) A (call (.type "zip") [.ref l1,.ref l2]) Q E s:=by
 refine callType_new F.called_zip (by decide) (F.typeCall_zip_2 _ _) (F.newCall_zip_2 _ _) (fun obj=>F.args_object_init_3 obj _ _) F.entry_zip_new (bp6 l1 l2 xs ys t1 t2) ⟨hl1,hl2,fun h' a1 a2 a3 a4 a5 a6=>?_⟩
 exact⟨⟨_,a1,rfl⟩,h h' a1 a2 a3 a4 a5 a6⟩
end
noncomputable def Itz(K:PySem.W.Frag) (t1 t2:Bool) (a1 a2:Addr):It :=
  ⟨fun i H=>∃xs ys x y,Sq K t1 H a1 xs/\Sq K t2 H a2 ys/\xs[i]? = some x/\ys[i]? = some y,
   fun i H v H'=>∃T x y,v=.ref T/\H T=none/\H'=upd H T (.tup [x,y])/\(∀xs,Sq K t1 H a1 xs->xs[i]? = some x)/\∀ys,Sq K t2 H a2 ys->ys[i]? = some y,
   fun i H=>∃xs ys,Sq K t1 H a1 xs/\Sq K t2 H a2 ys/\(xs.length<=i\/ys.length<=i)⟩
theorem aU3{X:Cx}{pins:List (Addr×Obj)}{σ:L2.St}{H:Hp}{s:Shared}{t:Bool}{a:Addr}{xs ys:List V}(I:Inv X pins σ H s) (h:Sq X.K t H a xs) (h':Sq X.K t H a ys):xs=ys:=by
 cases t with
 | true=>exact I.tuple_inj h h'
 | false=>exact I.list_inj h h'
theorem i5{X:Cx}{pins:List (Addr×Obj)}{σ:L2.St}{H:Hp}{s:Shared}{t:Bool}{a:Addr}{xs:List V}(I:Inv X pins σ H s) (h:Sq X.K t H a xs):∃its:List Value,K1 xs its/\SSq t s.heap a its.toArray/\a < s.heap.objs.size:=by
 cases t with
 | true =>
  obtain⟨its,r,p,_⟩:=I.tuple h
  exact⟨its,r,p,by obtain⟨o,ho,_⟩:=p;exact Heap.lt_size ho⟩
 | false =>
  obtain⟨its,r,p,_⟩:=I.list h
  exact⟨its,r,p.isList,by obtain⟨o,ho,_⟩:=p.isList;exact Heap.lt_size ho⟩
theorem ac6{X:Cx}{pins:List (Addr×Obj)}{σ:L2.St}{H:Hp}{s:Shared}{h':Heap}{t':Nat}{ch:List Addr}{T:Addr}{o:HO}(I:Inv X pins σ H s) (hf:∀b∈ch,aq7 X pins H b) (hT:s.heap.objs.size<=T)
  (k:∀b u,b∉ch->s.heap.get? b=some u->h'.get? b=some u) (new:m4 X.prog X.w (upd H T o) h' T o):Inv X pins σ (upd H T o) { s with heap:=h',toks:=t' }:=by
 have hn:H T=none:=I.hok.fresh hT
 have neT:∀b u,s.heap.get? b=some u->b≠T:=fun b u e=>Nat.ne_of_lt (Nat.lt_of_lt_of_le (Heap.lt_size e) hT)
 have nch:∀b u,H b=some u->b∉ch:=fun b u e z=>by rw[(hf b z).1]at e;cases e
 refine I.step (g':=s.gens) (d':=s.drawn) (ch:=ch) (fun b hb=>⟨(hf b hb).2.2.2.1,(hf b hb).2.1,(hf b hb).2.2.2.2.1,(hf b hb).2.2.2.2.2⟩) (fun b u _ _ hc e _=>k b u hc e) (fun b u _ _ hc e _=>⟨u.slots,k b u hc e⟩)
  (fun b u _ e n=>by rw[D0 (neT b u e)];exact n) (fun b u hc e=>⟨u,k b u hc e⟩) (fun b xs e=>by rw[D0 (D2 e hn)];exact e) (fun b ob u e=>by rw[D0 (D2 e hn)];exact e)
  (fun b ps e=>⟨#[],by rw[D0 (D2 e hn),e];simp⟩) (fun m hm=>?_) (fun b u e=>?_) I.bare
 ·obtain⟨ob,es,ep,ho,r⟩:=hm
  exact⟨ob,es,ep,k _ ob (fun z=>(hf _ z).2.1 rfl) ho,r⟩
 ·by_cases hb:b=T
  ·subst hb;rw[C5]at e;cases e;exact new
  ·rw[D0 hb]at e
   refine(I.hok b u e).stay (fun c v hc q=>k c v ?_ q) (fun c q=>by rw[D0 (D2 q hn)];exact q) fun c xs q=>by rw[D0 (D2 q hn)];exact q
   rcases hc with z|z
   ·rw[z];exact nch b u e
   ·exact nch c _ z
theorem ax2{X:Cx}{pins:List (Addr×Obj)}{σ:L2.St}{H:Hp}{s:Shared}{h':Heap}{t':Nat}{ch:List Addr}(I:Inv X pins σ H s) (hf:∀b∈ch,aq7 X pins H b)
  (k:∀b u,b∉ch->s.heap.get? b=some u->h'.get? b=some u):Inv X pins σ H { s with heap:=h',toks:=t' }:=by
 have nch:∀b u,H b=some u->b∉ch:=fun b u e z=>by rw[(hf b z).1]at e;cases e
 refine I.step (g':=s.gens) (d':=s.drawn) (ch:=ch) (fun b hb=>⟨(hf b hb).2.2.2.1,(hf b hb).2.1,(hf b hb).2.2.2.2.1,(hf b hb).2.2.2.2.2⟩) (fun b u _ _ hc e _=>k b u hc e) (fun b u _ _ hc e _=>⟨u.slots,k b u hc e⟩)
  (fun b u _ e n=>n) (fun b u hc e=>⟨u,k b u hc e⟩) (fun b xs e=>e) (fun b ob u e=>e) (fun b ps e=>⟨#[],by rw[e];simp⟩) (fun m hm=>?_) (fun b u e=>?_) I.bare
 ·obtain⟨ob,es,ep,ho,r⟩:=hm
  exact⟨ob,es,ep,k _ ob (fun z=>(hf _ z).2.1 rfl) ho,r⟩
 ·refine(I.hok b u e).stay (fun c v hc q=>k c v ?_ q) (fun c q=>q) fun c xs q=>q
  rcases hc with z|z
  ·rw[z];exact nch b u e
  ·exact nch c _ z
theorem bo9{P:Program}{w:World}{K:PySem.W.Frag}{elts:List Expr}{k0:Nat}{pos:Pos}{t1 t2:Bool}{z TI TO i1 i2 a1 a2:Addr}(Z:ZipApart z TI TO i1 i2 a1 a2) :
  Turn P w K (.Tuple elts k0 pos) (Itz K t1 t2 a1 a2) [z,TI,TO,i1,i2] z (fun i h=>IsZip h z TI TO .none/\IsPair h TI (.ref i1) (.ref i2)/\(∃a b,IsPair h TO a b)/\SIt t1 h i1 a1 i/\SIt t2 h i2 a2 i) where
 mem:=by simp
 obj:=fun i h ⟨hz,hTI,⟨a,b,hTO⟩,h1,h2⟩ c hc=>by
  simp only[List.mem_cons,List.not_mem_nil,or_false]at hc
  rcases hc with rfl|rfl|rfl|rfl|rfl
  ·exact⟨_,hz,fun v q=>by cases q⟩
  ·exact⟨_,hTI,fun v q=>by cases q⟩
  ·exact⟨_,hTO,fun v q=>by cases q⟩
  ·cases t1 with
   | true=>obtain⟨o,ho,_,hd⟩:=h1;exact⟨o,ho,fun v q=>by rw[hd]at q;cases q⟩
   | false=>obtain⟨o,ho,_,hd⟩:=h1;exact⟨o,ho,fun v q=>by rw[hd]at q;cases q⟩
  ·cases t2 with
   | true=>obtain⟨o,ho,_,hd⟩:=h2;exact⟨o,ho,fun v q=>by rw[hd]at q;cases q⟩
   | false=>obtain⟨o,ho,_,hd⟩:=h2;exact⟨o,ho,fun v q=>by rw[hd]at q;cases q⟩
 keep:=fun i h h' ⟨hz,hTI,⟨a,b,hTO⟩,h1,h2⟩ hk=>⟨hk z (by simp) _ hz,hk TI (by simp) _ hTI,⟨a,b,hk TO (by simp) _ hTO⟩,h1.ext fun o e=>hk i1 (by simp) o e,h2.ext fun o e=>hk i2 (by simp) o e⟩
 item:=by
  intro X hP hw hK hc i pins s σ H E I hf ⟨hz,hTI,⟨a,b,hTO⟩,h1,h2⟩ hg
  subst hP hw hK
  obtain⟨xs,ys,x,y,q1,q2,ex,ey⟩:=hg
  obtain⟨us,r1,p1,lt1⟩:=i5 I q1
  obtain⟨ws,r2,p2,lt2⟩:=i5 I q2
  obtain⟨ux,eux,rx⟩:=r1.get ex
  obtain⟨uy,euy,ry⟩:=r2.get ey
  refine aU5 Z hz hTI hTO h1 h2 p1 p2 (x:=ux) (y:=uy) (by simpa using eux) (by simpa using euy) fun h' b1 b2 b3 b4 b5 b6 b7=>⟨_,rfl,wpAny_letOwnedTupleGo_zip b1 fun h'' c1 c2=>?_⟩
  have neT:∀c o,s.heap.get? c=some o->c≠s.heap.objs.size:=fun c o e=>Nat.ne_of_lt (Heap.lt_size e)
  have up:∀c o,c≠z->h'.get? c=some o->h''.get? c=some o:=fun c o n e=>c2.extBut c o n e
  refine⟨.ref s.heap.objs.size,upd H s.heap.objs.size (.tup [x,y]),ac6 (s:=s) (h':=h'') (t':=s.toks) (ch:=[z,TI,TO,i1,i2]) I hf (Nat.le_refl _) (fun c u hc e=>?_) ?_,rfl,⟨_,x,y,rfl,I.hok.fresh (Nat.le_refl _),rfl,fun zs hz'=>by rw[aU3 I hz' q1];exact ex,fun zs hz'=>by rw[aU3 I hz' q2];exact ey⟩,⟨c1,?_,⟨_,_,up TO _ Z.TOz b2⟩,b3.ext fun o e=>up i1 o Z.i1z e,b4.ext fun o e=>up i2 o Z.i2z e⟩,fun c hc=>?_⟩
  ·simp only[List.mem_cons,List.not_mem_nil,or_false,not_or]at hc
   exact up c u hc.1 (b7 c u hc.1 hc.2.2.1 hc.2.2.2.1 hc.2.2.2.2 e)
  ·refine⟨by show 2<=sizeLine;decide,[ux,uy],.cons rx (.cons ry .nil),_,up _ _ ?_ b5,rfl,⟨_,rfl⟩,rfl⟩
   exact fun q=>neT z _ hz q.symm
  ·exact up TI _ Z.TIz (b7 TI _ Z.TIz Z.TITO Z.TIi1 Z.TIi2 hTI)
  ·have e:c < s.heap.objs.size:=by
    simp only[List.mem_cons,List.not_mem_nil,or_false]at hc
    rcases hc with rfl|rfl|rfl|rfl|rfl
    ·exact Heap.lt_size hz
    ·exact Heap.lt_size hTI
    ·exact Heap.lt_size hTO
    ·exact h1.lt
    ·exact h2.lt
   rw[D0 (Nat.ne_of_lt e)]
   exact(hf c hc).1
 done:=by
  intro X hP hw hK hc i pins s σ H E I hf ⟨hz,hTI,⟨a,b,hTO⟩,h1,h2⟩ hg
  subst hP hw hK
  obtain⟨xs,ys,q1,q2,hl⟩:=hg
  obtain⟨us,r1,p1,lt1⟩:=i5 I q1
  obtain⟨ws,r2,p2,lt2⟩:=i5 I q2
  have l1:=r1.length
  have l2:=r2.length
  refine bh0 (I.ok.hd hc) Z hz hTI hTO h1 h2 p1 p2 ?_ fun h' hk=>⟨rfl,ax2 (t':=s.toks) (ch:=[z,TI,TO,i1,i2]) I hf fun c u hc e=>?_⟩
  ·rcases hl with h|h
   ·left;simp;omega
   ·right;simp;omega
  ·simp only[List.mem_cons,List.not_mem_nil,or_false,not_or]at hc
   exact hk c u hc.1 hc.2.2.1 hc.2.2.2.1 hc.2.2.2.2 e
 self:=fun _ _ _ _ _ st h=>wpAny_pyIter_zip st.1 h
section
variable {X:Cx}
noncomputable def ab4(f g:Rho->Option (Bool×List D)):Rho->Option (List D):=fun ρ=>(f ρ).bind fun p=>(g ρ).bind fun q=>some ((p.2.zip q.2).map fun(x,y)=>PyData.tuple [x,y])
theorem aT4{K:PySem.W.Frag}{t1 t2:Bool}{a1 a2:Addr}{vs us:List V}{ds es:List D}{Hf1:Hp}(h1:Sq K t1 Hf1 a1 vs) (h2:Sq K t2 Hf1 a2 us) (r1:Reps K Hf1 ds vs) (r2:Reps K Hf1 es us) :
  aL6 K (Itz K t1 t2 a1 a2) ((ds.zip es).map fun(x,y)=>PyData.tuple [x,y]) Hf1:=by
 have mono:∀{t:Bool}{a:Addr}{xs:List V}{H H':Hp},G1 H H'->Sq K t H a xs->Sq K t H' a xs:=fun{t a xs H H'} e h=>by
  cases t with
  | true=>exact E3 e h
  | false=>exact M3 e h
 intro i H Hf sa sb
 have m1:=mono (sa.trans sb) h1
 have m2:=mono (sa.trans sb) h2
 have l1:=r1.length
 have l2:=r2.length
 refine⟨fun hi=>⟨vs,us,m1,m2,?_⟩,fun d hd=>?_⟩
 ·simp at hi;omega
 ·rw[List.getElem?_map]at hd
  obtain⟨⟨x,y⟩,q1,q2⟩:=xmo hd
  subst q2
  obtain⟨q1,q2⟩:=List.getElem?_zip_eq_some.mp q1
  obtain⟨vx,e1,e2⟩:=r1.get q1
  obtain⟨vy,e3,e4⟩:=r2.get q2
  refine⟨⟨vs,us,vx,vy,m1,m2,e1,e3⟩,fun v H' ⟨T,x',y',z1,z2,z3,z4,z5⟩=>?_⟩
  subst z1 z3
  have w1:=z4 vs m1
  have w2:=z5 us m2
  rw[e1]at w1
  rw[e3]at w2
  cases w1
  cases w2
  have nf:Hf T=none:=sb.free z2
  refine⟨upd Hf T (.tup [vx,vy]),Grow.laid sb z2,T,[vx,vy],rfl,SqT.of C5,vx,[vy],rfl,(e2.mono sa).mono (G0 nf),vy,[],rfl,(e4.mono sa).mono (G0 nf),rfl⟩
theorem bZ5{elts:List Expr}{k0:Nat}{tpos:Pos}{a b:Expr}{f g:DE}{p pos:Pos}(hg:Gl X "zip") (hm:X.mg "zip" = none) (ha:JE X a f) (hb:JE X b g) (hs:starEach [a,b] X.env=[(false,eval a X.env),(false,eval b X.env)]:=by rfl) (hs2:starEach [b] X.env=[(false,eval b X.env)]:=by rfl) :
  JI X (.Tuple elts k0 tpos) (.Call (.Name "zip" p) [a,b] [] pos) (ab4 (qE f) (qE g)):=fun ρ out q=>by
 obtain⟨⟨t1,ds⟩,e1,q⟩:=xbm q
 obtain⟨⟨t2,es⟩,e2,q⟩:=xbm q
 cases q
 obtain⟨d1,e1,e1'⟩:=xbm e1
 obtain⟨d2,e2,e2'⟩:=xbm e2
 intro pins s σ H R I ⟨H0,Hf,ss,sl,k⟩
 refine Call_ (ap2 I hg hm ce0 (PyProof.Rows.callWith_type1 (thn (L4 (ha ρ d1 e1) (L4 (hb ρ d2 e2) R6 hs2) (by rw[hs,hs2]) pos pins s σ H
  (fun vs H'=>∃v u Hf',vs=[v,u]/\Grow H Hf H' Hf'/\Rep X.K Hf' d1 v/\Rep X.K Hf' d2 u) I ⟨H0,Hf,ss,sl,fun v H1 Hf1 g1 r1=>⟨H0,Hf1,g1.sub,sl.grow g1,fun u H2 Hf2 g2 r2=>⟨v,u,Hf2,rfl,g1.trans g2,r1.mono g2.ext,r2⟩⟩⟩) fun us s1 ⟨vs,H1,I1,r1,v,u,Hf1,ev,gr,p1,p2⟩=>?_) (by rw[hs,hs2]) (by rw[hs2];rfl)))
 subst ev
 obtain⟨uv,uu,rfl,rv,ru⟩:=ba5 r1
 obtain⟨a1,vs1,rfl,w1,w2⟩:=p1.seq (G1.refl Hf1) e1'
 obtain⟨a2,vs2,rfl,w3,w4⟩:=p2.seq (G1.refl Hf1) e2'
 cases rv
 cases ru
 have mono:∀{t:Bool}{a:Addr}{xs:List V}{H H':Hp},G1 H H'->Sq X.K t H a xs->Sq X.K t H' a xs:=fun{t a xs H H'} e h=>by
  cases t with
  | true=>exact E3 e h
  | false=>exact M3 e h
 obtain⟨us1,rr1,hp1,lt1⟩:=i5 I1 (mono gr.sub w1)
 obtain⟨us2,rr2,hp2,lt2⟩:=i5 I1 (mono gr.sub w3)
 refine bg8 hp1 hp2 fun h' b1 b2 b3 b4 b5 b6=>?_
 have I2:Inv X pins σ H1 { s1 with heap:=h' }:=I1.kept (t':=s1.toks) b6
 refine wpAny_pyIter_zip b1 ⟨_,_,_,_,H1,rfl,I2,bo9 (zipApart_new lt1 lt2),⟨b1,b2,⟨_,_,b3⟩,b4,b5⟩,fun b hb=>?_,k _ H1 Hf1 gr (aT4 w1 w3 w2 w4)⟩
 have hb':s1.heap.objs.size<=b:=by
  simp only[List.mem_cons,List.not_mem_nil,or_false]at hb
  rcases hb with rfl|rfl|rfl|rfl|rfl
  ·exact Nat.le_add_right _ _
  ·exact Nat.le_add_right _ _
  ·exact Nat.le_add_right _ _
  ·exact Nat.le_refl _
  ·exact Nat.le_add_right _ _
 exact I1.fpOk hb' (I1.hok.fresh hb')
end
theorem ar5:fillsNumberSlot (.type "tuple") "mul" = pure false:=PySem.fillsNumberSlot_seq (id := "tuple.__mul__") (r:=some (.builtin "tuple.__rmul__")) F.slot_tuple_mul.lookup (by decide +kernel) F.slot_tuple_rmul.lookup (by decide +kernel)
theorem aD4:seqRepeat? (.type "tuple")=pure (some (.builtin "tuple.__mul__")):=by
 unfold seqRepeat?
 rw[PySem.seqSlot_of (T := "tuple") (name := "__mul__") (id := "tuple.__mul__") F.slot_tuple_mul.lookup (by decide +kernel),PySem.seqSlot_of (T := "tuple") (name := "__rmul__") (id := "tuple.__rmul__") F.slot_tuple_rmul.lookup (by decide +kernel)];rfl
theorem al1(a:Int) (t:Tok) (l:Addr) (items:Array Value) (n:Nat) (dd:Option Addr) (sl:Array (Option Value)) :
  Meets (Builtin.«int.__rmul__» ⟨[.int a t,.ref l],[]⟩) (fun _ R s=>s.heap.get? l=some ⟨.type "tuple", dd,.seq items n,sl⟩/\R (.ok (.ret Value.notImplemented)) s) :=
 .of_wp fun prog w A R s h=>by obtain⟨hp,g,d,tk,os⟩:=s;obtain⟨hl,h⟩:=h;wp_walk;exact⟨_,rfl,h⟩
theorem aV2(items:Array Value) (k:Nat):List.foldl (fun x1 x2=>x1++x2) #[] (List.replicate k items)=(List.replicate k items.toList).flatten.toArray:=by
 have:=aE5 items.toList k []
 rw[List.nil_append]at this
 simpa using this
theorem aO6(l:Addr) (items:Array Value) (n:Nat) (dd:Option Addr) (sl:Array (Option Value)) (x:Int) (u:Tok) (h2:2<=x) (h3:x < 1000000) (he:items.isEmpty=false) (hz:items.size*x.toNat<=sizeLine) :
  Meets (Builtin.«tuple.__mul__» ⟨[.ref l,.int x u],[]⟩) (fun _ R s=>s.heap.get? l=some ⟨.type "tuple", dd,.seq items n,sl⟩/\R (.ok (.ret (Value.ref s.heap.objs.size))) { s with heap:=s.heap.push { cls:=Value.type "tuple", data:=Data.seq (List.foldl (fun x1 x2=>x1++x2) #[] (List.replicate x.toNat items)) } }) :=
 .of_wp fun prog w A R s h=>by
  obtain⟨hp,g,d,tk,os⟩:=s
  obtain⟨hl,h⟩:=h
  have hm:(items.size:Int)*x<=16777216:=by
   have e:((items.size*x.toNat:Nat):Int)=(items.size:Int)*x:=by rw[Int.natCast_mul,Int.toNat_of_nonneg (by omega)]
   have:items.size*x.toNat<=16777216:=by rw[← sizeLine_eq];exact hz
   omega
  wp_walk
  refine wpAny_ite_false (by simp;omega) ?_
  have ht:Heap.IsTuple (Shared.heap ⟨hp,g,d,tk,os⟩) l items:=⟨_,hl,rfl,n,rfl⟩
  refine wpAny_bind (tupleItemsOf_ ht ?_)
  refine wpAny_ite_false (by rw[he];simp;omega) ?_
  show wpAny _ _ (if(decide (x<=0) || items.isEmpty)=true then _ else _) _ _ _
  refine wpAny_ite_false (by rw[he];simp;omega) ?_
  show wpAny _ _ (if(items.size:Int)*x > (2 ^ 63 - 1) / 8 then _ else _) _ _ _
  rw[if_neg (by omega)]
  show wpAny _ _ (if Builtin.Tuple.tupleTooMany ((items.size:Int)*x)=true then _ else _) _ _ _
  rw[if_neg (by unfold Builtin.Tuple.tupleTooMany;rw[sizeLine_eq];simp;omega)]
  refine wpAny_bind (m:=Builtin.Tuple.tupleExact _) (wpAny_newObj_type (wpAny_pure ⟨_,rfl,h⟩) ?_)
  show(List.foldl (fun x1 x2=>x1++x2) #[] (List.replicate x.toNat items)).size<=sizeLine
  rw[aV2 items x.toNat,List.size_toArray,aJ1,Array.length_toList,Nat.mul_comm]
  exact hz
section
variable {X:Cx}
theorem bG4:OpR X (binaryOp .Mult) (fun x y H Q=>∃l k xs,x=.ref l/\y=.int k/\SqT X.K H l xs/\xs≠[]/\2<=k/\k < 1000000/\xs.length*k.toNat<=sizeLine/\∀p,H p=none->Q (.ref p) (upd H p (.tup (List.replicate k.toNat xs).flatten))):=by
 intro pins s σ H x y v u Q I rx ry h
 obtain⟨l,k,xs,rfl,rfl,hq,hx,h2,h3,hz,q⟩:=h
 cases rx
 obtain⟨t,rfl⟩:=ry
 obtain⟨its,r,p1,_⟩:=I.tuple hq
 obtain⟨⟨cls,dd,data,sl⟩,ho,hc,n,hd⟩:=id p1
 simp only at hc hd
 subst hc hd
 have hl:=r.length
 have he:its.toArray.isEmpty=false:=by
  cases its with
  | nil=>exact absurd (r.nil_iff.mp rfl) hx
  | cons a b=>rfl
 refine wpAny_binaryOp_repeat_ref (T := "tuple") (U := "int") (by decide) ⟨_,ho,rfl⟩ (fun s'=>typeIs_int s' k t) ar5 F.fills_int_mul F.slot_int_rmul aD4 F.slot_int_index.lookup
  (call_meets F.slot_int_rmul (typeIs_int s k t) F.entry_int_rmul (F.args_int_rmul_2 _ _) (al1 k t l its.toArray n dd sl) ⟨ho,rfl,⟨_,ho,rfl⟩,
   call_meets F.slot_tuple_mul ⟨_,ho,rfl⟩ F.entry_tuple_mul (F.args_tuple_mul_2 _ _) (aO6 l its.toArray n dd sl k t h2 h3 he (by rw[List.size_toArray,← hl];exact hz)) ⟨ho,?_⟩⟩)
 rw[aV2]
 refine⟨.ref _,_,I.laid (t':=s.toks) (o:=.tup (List.replicate k.toNat xs).flatten) (fun b ob q=>Heap.get?_push_of_some _ q) (Nat.le_refl _) ⟨?_,_,r.rep k.toNat,ay7.new _ _⟩,rfl,q _ (I.hok.fresh (Nat.le_refl _))⟩
 rw[aJ1,Nat.mul_comm];exact hz
noncomputable def Z4(x y:D):Option D:=match x,y with
 | .int i,.int j=>if L0 i/\L0 j then some (.int (i*j)) else none
 | .tuple xs,.int k=>if xs.isEmpty=false/\2<=k/\k < 1000000/\xs.length*k.toNat<=16777216 then some (.tuple (List.replicate k.toNat xs).flatten) else none
 | _,_=>none
theorem aI6:OpD X (binaryOp .Mult) Z4:=fun x y z h=>by
 unfold Z4 at h
 split at h
 ·exact bU7 _ _ z (by unfold bW1;exact h)
 ·split at h
  ·rename_i xs k c
   cases h
   refine OpR.imp bG4 fun vx vy H Q ⟨Hf,s,r1,r2,kk⟩=>?_
   obtain⟨a,vs,rfl,h2,h3⟩:=r1
   refine⟨a,k,vs,rfl,r2,E3 s h2,?_,c.2.1,c.2.2.1,by rw[h3.length,sizeLine_eq];exact c.2.2.2,fun p hp=>?_⟩
   ·intro e
    subst e
    have:=h3.length
    cases xs with
    | nil=>exact absurd c.1 (by simp)
    | cons a b=>simp at this
   ·exact kk _ _ _ (Grow.laid s hp) ⟨p,_,rfl,SqT.of C5,(h3.flatten k.toNat).mono (G0 (s.free hp))⟩
  ·cases h
 ·cases h
noncomputable def bm4(f:DE):DE:=fun ρ=>(f ρ).bind fun d=>match d with
 | .int i=>some (.int (-i))
 | _=>none
theorem bw7{a:Expr}{f:DE}{pos:Pos}(h:JE X a f):JE X (.UnaryOp .USub a pos) (bm4 f):=fun ρ d q=>by
 obtain⟨x,e1,e2⟩:=xbm q
 cases x with
 | int i =>
  cases e2
  exact C6 (ci4 bR0 (h ρ _ e1)) fun σ H Q ⟨H0,Hf,s,sl,k⟩=>⟨H0,Hf,s,sl,fun v H1 Hf1 g1 r1=>⟨_,r1,k _ H1 Hf1 g1 rfl⟩⟩
 | _=>cases e2
noncomputable def isB(x y:D):Option D:=match y with
 | .bool b=>(match x with
  | .bool c=>some (.bool (c==b))
  | .dict _=>none
  | _=>some (.bool false))
 | .none=>isN x .none
 | _=>none
noncomputable def ao8(x y:D):Option D:=match y with
 | .bool b=>(match x with
  | .bool c=>some (.bool (!(c==b)))
  | .dict _=>none
  | _=>some (.bool true))
 | .none=>bV4 x .none
 | _=>none
theorem cj5:OpD X (compareOp .Is) isB:=fun x y z h=>by
 cases y with
 | none=>exact bU9 x .none z h
 | bool b =>
  intro pins s σ H vx vy v u Q I rx ry ⟨Hf,ss,r1,r2,k⟩
  cases r2
  cases ry
  have fin:∀c,z=.bool c->(v==Value.bool b)=c->EP X pins σ Q (.bool (v==Value.bool b)) s:=fun c e1 e2=>by rw[e2];subst e1;exact⟨.bl c,H,I,rfl,k _ H Hf (Grow.refl ss) rfl⟩
  cases x with
  | none=>cases r1;cases rx;cases h;exact wpAny_is_plain rfl (fin _ rfl rfl)
  | bool c=>cases r1;cases rx;cases h;exact wpAny_is_plain rfl (fin _ rfl (by cases c<;>cases b<;>rfl))
  | int i=>cases r1;obtain⟨t,rfl⟩:=rx;cases h;exact wpAny_is_plain rfl (fin _ rfl rfl)
  | str i=>cases r1;obtain⟨t,rfl⟩:=rx;cases h;exact wpAny_is_plain rfl (fin _ rfl rfl)
  | tuple ds=>obtain⟨a,vs,rfl,_⟩:=r1;cases rx;cases h;exact wpAny_is_plain rfl (fin _ rfl rfl)
  | list ds=>obtain⟨a,vs,rfl,_⟩:=r1;cases rx;cases h;exact wpAny_is_plain rfl (fin _ rfl rfl)
  | dict ds=>cases h
 | _=>cases h
theorem bt5:OpD X (compareOp .IsNot) ao8:=fun x y z h=>by
 cases y with
 | none=>exact bH2 x .none z h
 | bool b =>
  intro pins s σ H vx vy v u Q I rx ry ⟨Hf,ss,r1,r2,k⟩
  cases r2
  cases ry
  have fin:∀c,z=.bool c->(!(v==Value.bool b))=c->EP X pins σ Q (.bool (!(v==Value.bool b))) s:=fun c e1 e2=>by rw[e2];subst e1;exact⟨.bl c,H,I,rfl,k _ H Hf (Grow.refl ss) rfl⟩
  cases x with
  | none=>cases r1;cases rx;cases h;exact wpAny_isNot_plain rfl (fin _ rfl rfl)
  | bool c=>cases r1;cases rx;cases h;exact wpAny_isNot_plain rfl (fin _ rfl (by cases c<;>cases b<;>rfl))
  | int i=>cases r1;obtain⟨t,rfl⟩:=rx;cases h;exact wpAny_isNot_plain rfl (fin _ rfl rfl)
  | str i=>cases r1;obtain⟨t,rfl⟩:=rx;cases h;exact wpAny_isNot_plain rfl (fin _ rfl rfl)
  | tuple ds=>obtain⟨a,vs,rfl,_⟩:=r1;cases rx;cases h;exact wpAny_isNot_plain rfl (fin _ rfl rfl)
  | list ds=>obtain⟨a,vs,rfl,_⟩:=r1;cases rx;cases h;exact wpAny_isNot_plain rfl (fin _ rfl rfl)
  | dict ds=>cases h
 | _=>cases h
noncomputable def aS7(K:PySem.W.Frag) (d:D) (u:Value):Prop:=∃v,P1 v u/\∀H:Hp,Rep K H d v
theorem cb0{x:Str}{d:D}{u:Value}{pos:Pos}(r:aS7 X.K d u) (hg:Gl X x) (hm:X.mg x=some u) (hd:(x==("__debug__" : Str))=false:=by decide):JE X (.Name x pos) (dC d):=fun ρ d' q=>by
 cases q
 obtain⟨v,rv,rp⟩:=r
 exact C6 (bb9 hg hm rv hd) fun σ H Q ⟨H0,Hf,s,sl,k⟩=>k _ H Hf (Grow.refl s) (rp Hf)
noncomputable def qN(f:Rho->Option (List D)):Rho->Option (Bool×List D):=fun ρ=>(f ρ).map fun ds=>(false,ds)
theorem bZ2{e:Expr}{f:Rho->Option (List D)}(h:JN X e f):JQ X e (qN f):=bw0 h
noncomputable def P3(f:Rho->Option (Bool×List D)):DE:=fun ρ=>(f ρ).bind fun q=>if q.1=true then none else some (.tuple q.2)
theorem bK5{e:Expr}{f:Rho->Option (Bool×List D)}{p pos:Pos}(hg:Gl X "tuple") (hm:X.mg "tuple" = none) (h:JQ X e f) (he:starEach [e] X.env=[(false,eval e X.env)]:=by rfl):JE X (.Call (.Name "tuple" p) [e] [] pos) (P3 f):=bw5 hg hm h (he:=he)
end
theorem bn3(l b:Addr) (items items2:Array Value) (n n2:Nat) (dd dd2:Option Addr) (sl sl2:Array (Option Value)) (hz:items.size+items2.size<=sizeLine) :
  Meets (Builtin.«list.__add__» ⟨[.ref l,.ref b],[]⟩) (fun _ R s=>s.heap.get? l=some ⟨.type "list", dd,.seq items n,sl⟩/\s.heap.get? b=some ⟨.type "list", dd2,.seq items2 n2,sl2⟩/\R (.ok (.ret (Value.ref s.heap.objs.size))) { s with heap:=s.heap.push { cls:=Value.type "list", data:=Data.seq (items++items2) } }) :=
 .of_wp fun prog w A R s h=>by
  obtain⟨hp,g,d,tk,os⟩:=s
  obtain⟨hl,hb,h⟩:=h
  have hsub:isSubtype (.type "list") (.type "list")=pure true:=by rw[isSubtype_type];kernel_rfl
  have hsz:=hz
  wp_walk
  exact⟨_,rfl,h⟩
section
variable {X:Cx}
theorem bc4:OpR X (binaryOp .Add) (fun x y H Q=>∃a b xs ys,x=.ref a/\y=.ref b/\SqL X.K H a xs/\SqL X.K H b ys/\xs.length+ys.length<=sizeLine/\∀p,H p=none->Q (.ref p) (upd H p (.lst (xs++ys)))):=by
 intro pins s σ H x y v u Q I rx ry h
 obtain⟨a,b,xs,ys,rfl,rfl,ha,hb,hz,q⟩:=h
 cases rx
 cases ry
 obtain⟨its,r1,p1,_⟩:=I.list ha
 obtain⟨its2,r2,p2,_⟩:=I.list hb
 obtain⟨⟨cls,dd,data,sl⟩,ho,hc,n,hd⟩:=p1.isList
 obtain⟨⟨cls2,dd2,data2,sl2⟩,ho2,hc2,n2,hd2⟩:=p2.isList
 simp only at hc hd hc2 hd2
 subst hc hd hc2 hd2
 have l1:=r1.length
 have l2:=r2.length
 refine concat_meets ⟨_,ho,rfl⟩ ⟨_,ho2,rfl⟩ noFill_list_add seq_list_add PySem.F.slot_list_add PySem.F.entry_list_add (PySem.F.args_list_add_2 _ _) (bn3 a b its.toArray its2.toArray n n2 dd dd2 sl sl2 (by simp only[List.size_toArray];omega)) ⟨ho,ho2,?_⟩
 have ea:its.toArray++its2.toArray=(its++its2).toArray:=by simp
 rw[ea]
 exact⟨.ref _,_,I.lnew (t':=s.toks) (r1.append r2) (by rw[List.length_append];omega),rfl,q _ I.fresh⟩
noncomputable def B1(x y:D):Option D:=match x,y with
 | .list xs,.list ys=>if xs.length+ys.length<=16777216 then some (.list (xs++ys)) else none
 | x,y=>v8 x y
theorem bH4:OpD X (binaryOp .Add) B1:=fun x y z h=>by
 unfold B1 at h
 split at h
 ·split at h
  ·rename_i c
   cases h
   refine OpR.imp bc4 fun vx vy H Q ⟨Hf,s,r1,r2,k⟩=>?_
   obtain⟨a,vs,rfl,h2,h3⟩:=r1
   obtain⟨b,us,rfl,h5,h6⟩:=r2
   refine⟨a,b,vs,us,rfl,rfl,M3 s h2,M3 s h5,by rw[h3.length,h6.length,sizeLine_eq];exact c,fun p hp=>?_⟩
   exact k _ _ _ (Grow.laid s hp) ⟨p,vs++us,rfl,SqL.of C5,(h3.append h6).mono (G0 (s.free hp))⟩
  ·cases h
 ·exact bt6 _ _ z h
noncomputable def bP2(f:DE):DE:=fun ρ=>(f ρ).bind fun d=>match d with
 | .tuple xs=>some (.tuple xs.reverse)
 | _=>none
end
end G
namespace G
theorem xg0{α:Type}{a:α}{l:List α}:(a::l)[0]? = some a:=rfl
theorem xg1{α:Type}{a:α}{i:Nat}{l:List α}:(a::l)[i+1]? = l[i]?:=rfl
theorem xw0{α:Type}{a b:α}{l:List α}:(a::l).set 0 b=b::l:=rfl
theorem xw1{α:Type}{a b:α}{i:Nat}{l:List α}:(a::l).set (i+1) b=a::l.set i b:=rfl
theorem xbs{α β:Type}{a:α}{f:α->Option β}:(some a).bind f=f a:=rfl
theorem xms{α β:Type}{a:α}{f:α->β}:(some a).map f=some (f a):=rfl
theorem xca{α:Type}{a:α}{l m:List α}:(a::l)++m=a::(l++m):=rfl
theorem xna{α:Type}{l:List α}:[]++l=l:=rfl
theorem xmc{α β:Type}{f:α->β}{a:α}{l:List α}:(a::l).map f=f a::l.map f:=rfl
theorem xmn{α β:Type}{f:α->β}:[].map f=[]:=rfl
theorem xnf:(!false)=true:=rfl
theorem xnt:(!true)=false:=rfl
theorem xft:(false=true)=False:=by simp
end G
local macro_rules
  | `(‹$x›) => `(some (G.B.val $x))
local macro_rules
  | `(⇑$x) => `(G.dC (PySem.PyData.int $x))
noncomputable section
namespace Sh
open PySem PySem.Spec PyProof.Rows L2 G
def aq6:DS:=(B0 (aa6 (tB2 neD (A1 1) ⇑0) (B0 (B2 2 (A5 n8 (A1 0) (A1 1))) (B0 (B2 0 (A1 1)) (B2 1 (A1 2))))) (A9 (A1 0)))
def S5:List D->Option D:=C3 aq6 3
def i9:DS:=(B0 (B2 2 (A2 S5 (A0 (A1 0) (A0 (A1 1) A3)))) (A9 (O1 (A0 (A5 ai9 (A1 0) (A1 2)) (A0 (A5 ai9 (A1 1) (A1 2)) A3)))))
def X1:List D->Option D:=C3 i9 3
def j4:DS:=(A9 (A5 leI (A5 Z4 (dIx (A8 0) ⇑0) (dIx (A8 1) ⇑1)) (A5 Z4 (dIx (A8 1) ⇑0) (dIx (A8 0) ⇑1))))
def j6:List D->Option D:=C3 j4 2
def au5:DS:=(A9 (A2 X1 (A0 (A5 v8 (A5 Z4 (dIx (A8 0) ⇑0) (dIx (A8 1) ⇑1)) (A5 Z4 (dIx (A8 1) ⇑0) (dIx (A8 0) ⇑1))) (A0 (A5 Z4 (dIx (A8 0) ⇑1) (dIx (A8 1) ⇑1)) A3))))
def U8:List D->Option D:=C3 au5 2
def ac0:DS:=(A9 (A2 X1 (A0 (A5 aa2 (A5 Z4 (dIx (A8 0) ⇑0) (dIx (A8 1) ⇑1)) (A5 Z4 (dIx (A8 1) ⇑0) (dIx (A8 0) ⇑1))) (A0 (A5 Z4 (dIx (A8 0) ⇑1) (dIx (A8 1) ⇑1)) A3))))
def U3:List D->Option D:=C3 ac0 2
def au4:DS:=(A9 (A2 X1 (A0 (A5 Z4 (dIx (A8 0) ⇑0) (dIx (A8 1) ⇑0)) (A0 (A5 Z4 (dIx (A8 0) ⇑1) (dIx (A8 1) ⇑1)) A3))))
def U5:List D->Option D:=C3 au4 2
def ag1:DS:=(A9 (A2 U3 (A0 (dC (.tuple [(.int 1),(.int 1)])) (A0 (A1 0) A3))))
def j8:List D->Option D:=C3 ag1 1
def Y2:DS:=(A9 (ah5 (K4 (A2 j6 (A0 (A1 0) (A0 (dC (.tuple [(.int 1),(.int 1)])) A3)))) (A1 0) (dC (.tuple [(.int 1),(.int 1)]))))
def Y3:List D->Option D:=C3 Y2 1
def P2:DS:=(B0 (sIf (tB2 eqD (A1 0) (dC (.str "plus"))) (A9 (A2 Y3 (A0 (A2 U8 (A0 (A1 1) (A0 (A1 2) A3))) A3))) C9) (B0 (sIf (tB2 eqD (A1 0) (dC (.str "atop"))) (A9 (A1 2)) C9) (B0 (sIf (tB2 eqD (A1 0) (dC (.str "cut"))) (A9 (A2 U5 (A0 (A1 2) (A0 (A2 j8 (A0 (A1 1) A3)) A3)))) C9) (A9 (A2 U3 (A0 (A2 U8 (A0 (A1 1) (A0 (A1 2) A3))) (A0 (A2 U5 (A0 (A1 1) (A0 (A1 2) A3))) A3)))))))
def Z6:List D->Option D:=C3 P2 3
def O3:DS:=(B0 (sIf (tB2 eqD (A1 0) (dC (.str "plus"))) (A9 (A2 Y3 (A0 (A2 U8 (A0 (A1 3) (A0 (A1 4) A3))) A3))) C9) (B0 (sIf (tB2 eqD (A1 0) (dC (.str "screen"))) (A9 (A2 U3 (A0 (A2 U8 (A0 (A1 3) (A0 (A1 4) A3))) (A0 (A2 U5 (A0 (A1 3) (A0 (A1 4) A3))) A3)))) C9) (B0 (B2 5 (A2 U5 (A0 (A1 4) (A0 (A2 j8 (A0 (A1 1) A3)) A3)))) (B0 (sIf (tB2 eqD (A1 0) (dC (.str "over"))) (A9 (A2 U8 (A0 (A1 3) (A0 (A1 5) A3)))) C9) (B0 (sIf (tB2 eqD (A1 0) (dC (.str "multiply"))) (A9 (A2 U8 (A0 (A2 U8 (A0 (A2 U5 (A0 (A1 3) (A0 (A1 4) A3))) (A0 (A2 U5 (A0 (A1 3) (A0 (A2 j8 (A0 (A1 2) A3)) A3))) A3))) (A0 (A1 5) A3)))) C9) (B0 (sIf (tB2 eqD (A1 0) (dC (.str "atop"))) (A9 (A2 U8 (A0 (A2 U5 (A0 (A1 3) (A0 (A1 2) A3))) (A0 (A1 5) A3)))) C9) (A9 (A1 5))))))))
def X9:List D->Option D:=C3 O3 6
def aG8:DS:=(B0 (B2 3 (dIx (A8 1) ⇑0)) (B0 (B2 4 (dIx (A8 2) ⇑0)) (B0 (U9 5 (C2 2 [0,3,4] (ab4 (qE (ac9 (A1 1) (M5 ⇑1) S0)) (qE (ac9 (A1 2) (M5 ⇑1) S0))) (Q7 2 (C4 (B7 0) (C4 (B7 1) R3))) E4 (A2 X9 (A0 (A1 2) (A0 (A1 3) (A0 (A1 4) (A0 (A1 0) (A0 (A1 1) A3)))))))) (A9 (O1 (A0 (A2 Z6 (A0 (A1 0) (A0 (A1 3) (A0 (A1 4) A3)))) (A0 (dIx (A8 5) ⇑0) (A0 (dIx (A8 5) ⇑1) (A0 (dIx (A8 5) ⇑2) A3)))))))))
def Y0:List D->Option D:=C3 aG8 6
def az3:DS:=(B0 (sIf (tB2 eqD (A1 0) (W0 A3)) (A9 (A5 Z4 ⇑7 (A1 1))) C9) (A9 (A5 v8 (dIx (A8 0) (A5 n8 (A1 1) (R4 (A8 0)))) (A5 Z4 ⇑6553 (A5 ai9 (A1 1) (R4 (A8 0)))))))
def az6:List D->Option D:=C3 az3 2
def aG3:DS:=(B0 (B2 3 (A5 n8 (A5 v8 (A5 Z4 (A5 n8 (A2 az6 (A0 (A1 0) (A0 (A1 1) A3))) ⇑2147483563) ⇑69069) (A5 Z4 ⇑104723 (A5 v8 (A1 1) ⇑1))) ⇑2147483563)) (B0 (B2 3 (A5 n8 (A5 v8 (A5 Z4 (A1 3) (A1 3)) (A5 ai9 (A1 3) ⇑3)) ⇑2147483399)) (A9 (A5 n8 (A5 ai9 (A5 n8 (A5 v8 (A5 Z4 (A1 3) (A1 3)) (A5 ai9 (A1 3) ⇑7)) ⇑2147483647) ⇑11) (A1 2)))))
def A7:List D->Option D:=C3 aG3 4
def an8:DS:=(B0 (B2 2 (A1 0)) (B0 (B2 3 (A1 1)) (B0 (aa6 (tB2 gtI (A1 2) ⇑0) (bq8 2 3 (A0 (A5 n8 (A1 3) (A1 2)) (A0 (A1 2) A3)))) (A9 (O1 (A0 (A5 ai9 (A1 0) (A1 3)) (A0 (A5 ai9 (A1 1) (A1 3)) A3)))))))
def y8:List D->Option D:=C3 an8 4
def aF9:DS:=(A9 (A2 y8 (A0 (A5 Z4 (dIx (A8 0) ⇑0) (dIx (A8 1) ⇑0)) (A0 (A5 Z4 (dIx (A8 0) ⇑1) (dIx (A8 1) ⇑1)) A3))))
def aq9:List D->Option D:=C3 aF9 2
def aG0:DS:=(B0 (B2 2 (A5 v8 ⇑1 (A2 A7 (A0 (A1 0) (A0 (A1 1) (A0 ⇑12 A3)))))) (B0 (B2 3 (A2 y8 (A0 (A2 A7 (A0 (A1 0) (A0 (A5 v8 (A1 1) ⇑1) (A0 (A5 v8 (A1 2) ⇑1) A3)))) (A0 (A1 2) A3)))) (A9 (dIx (qN (A0 (A1 3) (A0 (A1 3) (A0 (A1 3) (A0 (O1 (A0 ⇑0 (A0 ⇑1 A3))) (A0 (O1 (A0 ⇑1 (A0 ⇑1 A3))) A3)))))) (A2 A7 (A0 (A1 0) (A0 (A5 v8 (A1 1) ⇑2) (A0 ⇑5 A3))))))))
def Q9:List D->Option D:=C3 aG0 4
def aT2:DS:=(B0 (B2 2 (A2 Q9 (A0 (A1 0) (A0 (A1 1) A3)))) (A9 (A5 v8 (O1 (A0 (A1 2) A3)) (P3 (qN (C2 1 [2,0,1] (N3 ⇑3) (B7 0) E4 (A2 aq9 (A0 (A1 1) (A0 (A2 Q9 (A0 (A1 2) (A0 (A5 v8 (A5 v8 (A1 3) ⇑3) (A5 Z4 ⇑3 (A1 0))) A3))) A3)))))))))
def x9:List D->Option D:=C3 aT2 3
def aL8:DS:=(A9 (S8 (Y7 "int" (A1 0)) (ae9 (Y7 "bool" (A1 0)))))
def ac3:List D->Option D:=C3 aL8 1
def an9:DS:=(B0 (sIf (Q5 (F8 (K4 (Y7 "tuple" (A1 0)))) (Q5 (tB2 neD (R4 (A8 0)) ⇑2) (Q5 (F8 (K4 (A2 ac3 (A0 (dIx (A8 0) ⇑0) A3)))) (F8 (K4 (A2 ac3 (A0 (dIx (A8 0) ⇑1) A3))))))) (A9 (dC (.bool false))) C9) (A9 (S8 (A5 gtI (dIx (A8 0) ⇑1) ⇑0) (S8 (R7 leI leI ⇑0 (dIx (A8 0) ⇑0) (dIx (A8 0) ⇑1)) (A5 eqD (A2 y8 (A0 (dIx (A8 0) ⇑0) (A0 (dIx (A8 0) ⇑1) A3))) (A1 0))))))
def aM1:List D->Option D:=C3 an9 1
def aZ8:DS:=(A9 (S8 (Y7 "int" (A1 0)) (ae9 (Y7 "bool" (A1 0)))))
def S9:List D->Option D:=C3 aZ8 1
def az5:DS:=(B0 (sIf (Q5 (F8 (K4 (Y7 "tuple" (A1 0)))) (tB2 neD (R4 (A8 0)) ⇑2)) (A9 (dC (.bool false))) C9) (B0 (B2 1 (dIx (A8 0) ⇑0)) (B0 (B2 2 (dIx (A8 0) ⇑1)) (B0 (sIf (Q5 (F8 (K4 (A2 S9 (A0 (A1 1) A3)))) (F8 (K4 (A2 S9 (A0 (A1 2) A3))))) (A9 (dC (.bool false))) C9) (A9 (S8 (A5 gtI (A1 2) ⇑0) (S8 (R7 leI leI ⇑0 (A1 1) (A1 2)) (A5 eqD (A2 S5 (A0 (A1 1) (A0 (A1 2) A3))) ⇑1))))))))
def X7:List D->Option D:=C3 az5 3
def aG4:DS:=(B0 (sIf (Q5 (F8 (K4 (Y7 "tuple" (A1 0)))) (tB2 neD (R4 (A8 0)) ⇑4)) (A9 (dC (.bool false))) C9) (B0 (sIf (F8 (K4 (ab7 (qN (C2 1 [] (Q6 (A1 0)) (B7 0) E4 (A2 X7 (A0 (A1 0) A3))))))) (A9 (dC (.bool false))) C9) (A9 (ab7 (qN (C2 1 [0] (Q6 (ac9 (A1 0) (M5 ⇑1) S0)) (B7 0) E4 (A2 j6 (A0 (A1 0) (A0 (dIx (A8 1) ⇑0) A3)))))))))
def ag7:List D->Option D:=C3 aG4 1
def ag2:DS:=(B0 (B2 2 (dIx (A8 1) ⇑0)) (B0 (B2 3 (dIx (A8 1) ⇑1)) (B0 (B2 4 (dIx (A8 1) ⇑2)) (B0 (B2 5 (dIx (A8 1) ⇑3)) (B0 (sIf (tB2 eqD (A1 0) (dC (.str "turn"))) (A9 (O1 (A0 (A1 2) (A0 (A2 U3 (A0 (A1 2) (A0 (A1 3) A3))) (A0 (A2 U3 (A0 (A1 2) (A0 (A1 4) A3))) (A0 (A2 U3 (A0 (A1 2) (A0 (A1 5) A3))) A3)))))) C9) (B0 (sIf (tB2 eqD (A1 0) (dC (.str "grey"))) (B0 (B2 6 (A2 U5 (A0 (A2 U8 (A0 (A2 U8 (A0 (A1 3) (A0 (A1 4) A3))) (A0 (A1 5) A3))) (A0 (dC (.tuple [(.int 1),(.int 3)])) A3)))) (A9 (O1 (A0 (A1 2) (A0 (A1 6) (A0 (A1 6) (A0 (A1 6) A3))))))) C9) (A9 (O1 (A0 (A1 2) (A0 (A1 4) (A0 (A1 5) (A0 (A1 3) A3))))))))))))
def ar3:List D->Option D:=C3 ag2 7
def bf7:DS:=(A9 (A2 U8 (A0 (A2 U5 (A0 (A1 0) (A0 (A1 1) A3))) (A0 (A2 U5 (A0 (A2 j8 (A0 (A1 0) A3)) (A0 (A1 2) A3))) A3))))
def aL9:List D->Option D:=C3 bf7 3
def bf6:DS:=(A9 (P3 (qN (C2 2 [2] (ab4 (qE (A2 ar3 (A0 (A1 0) (A0 (A1 1) A3)))) (qE (A1 1))) (Q7 2 (C4 (B7 0) (C4 (B7 1) R3))) E4 (A2 aL9 (A0 (A1 2) (A0 (A1 0) (A0 (A1 1) A3))))))))
def au6:List D->Option D:=C3 bf6 3
end Sh
namespace G
open PySem PySem.Spec PyProof.Rows L2
section
variable {prog:Program}{w:World}{A:Around}{E:Value->Shared->Prop}{s:Shared}
theorem aZ5(n:Nat):Builtin.Slice.sliceAdjust none none (-1) (n:Int)=((n:Int) - 1,-1):=by
 unfold Builtin.Slice.sliceAdjust
 have h1:(-1:Int) < 0:=by omega
 simp only[h1,if_true]
theorem aV3(n:Nat):Builtin.Slice.slicePlaces ((n:Int) - 1) (-1) (-1)=n:=by
 unfold Builtin.Slice.slicePlaces
 have h1:¬(-1:Int) > 0:=by omega
 have h2:-(-1:Int)=1:=by omega
 simp only[h1,if_false,h2,Int.ediv_one]
 split<;>omega
theorem ao2{sl:Addr}{t:Tok}{n:Nat}{Q:Int×Int×Nat->Shared->Prop}(hs:s.heap.IsSliceOf sl .none .none (.int (-1) t))
  (h:Q ((n:Int) - 1,-1,n) s):wpAny (model prog w) A (Builtin.Slice.sliceApplied (.ref sl) (pure (n:Int))) Q E s:=by
 obtain⟨os,hos,hcs,hds⟩:=id hs
 unfold Builtin.Slice.sliceApplied Builtin.Slice.sliceFields
 refine wpAny_bind (wpAny_bind (wpAny_field hos hds (x:=.none) rfl (wpAny_bind (wpAny_field hos hds (x:=.none) rfl (wpAny_bind (wpAny_field hos hds (x:=.int (-1) t) rfl (wpAny_pure ?_)))))))
 refine wpAny_bind (slicePart_int ?_)
 show wpAny _ _ (if((-1:Int)==0)=true then _ else _) _ _ s
 rw[if_neg (by decide)]
 refine wpAny_bind (slicePart_none (wpAny_bind (slicePart_none (wpAny_bind (wpAny_pure ?_)))))
 show wpAny _ _ (match Builtin.Slice.sliceAdjust none none (-1) (n:Int) with|(lo,hi)=>pure (lo,(-1:Int),Builtin.Slice.slicePlaces lo hi (-1))) _ _ s
 rw[aZ5 n]
 show wpAny _ _ (pure ((n:Int) - 1,(-1:Int),Builtin.Slice.slicePlaces ((n:Int) - 1) (-1) (-1))) _ _ s
 rw[aV3]
 exact wpAny_pure h
theorem aN7{α:Type}:∀l:List α,(List.range l.length).filterMap (fun k=>l[k]?)=l
 | []=>rfl
 | a::l=>by
  rw[List.length_cons,List.range_succ_eq_map,List.filterMap_cons,List.filterMap_map]
  simp only[xg0]
  congr 1
  exact aN7 l
theorem aQ0{α β:Type}{f g:α->Option β}:∀{l:List α},(∀x∈l,f x=g x)->l.filterMap f=l.filterMap g
 | [],_=>rfl
 | a::l,h=>by rw[List.filterMap_cons,List.filterMap_cons,h a (List.mem_cons_self ..),aQ0 fun x hx=>h x (xmm _ hx)]
theorem bs1(xs:Array Value):((List.range xs.size).filterMap fun(k:Nat)=>xs[(((xs.size:Int) - 1)+(k:Int) * -1).toNat]?).toArray=xs.toList.reverse.toArray:=by
 congr 1
 have e:∀k∈List.range xs.size,xs[(((xs.size:Int) - 1)+(k:Int) * -1).toNat]? = xs.toList.reverse[k]?:=by
  intro k hk
  have hk:=List.mem_range.mp hk
  have:(((xs.size:Int) - 1)+(k:Int) * -1).toNat=xs.size - 1 - k:=by omega
  rw[this,List.getElem?_reverse (by rw[Array.length_toList];exact hk),Array.length_toList,Array.getElem?_toList]
 rw[aQ0 e]
 have:=aN7 xs.toList.reverse
 rw[List.length_reverse,Array.length_toList]at this
 exact this
theorem am6{t sl:Addr}{items:Array Value}{k:Tok}{Q:Value->Shared->Prop}(ht:IsTup s.heap t items) (hs:s.heap.IsSliceOf sl .none .none (.int (-1) k))
  (h:Q (.ref s.heap.objs.size) { s with heap:=s.heap.push { cls:=.type "tuple", data:=.seq items.toList.reverse.toArray } })
  (hsz:items.size<=sizeLine):wpAny (model prog w) A (getItem (.ref t) (.ref sl)) Q E s:=by
 have htake:sizeOk (.seq items.toList.reverse.toArray):=by
  show items.toList.reverse.toArray.size<=sizeLine
  rw[List.size_toArray,List.length_reverse,Array.length_toList]
  omega
 obtain⟨os,hos,hcs,hds⟩:=id hs
 have hTs:s.TypeIs (.ref sl) "slice" := ⟨os,hos,hcs⟩
 unfold getItem
 try with_reducible refine wpAny_holding ?_
 first|refine wpAny_bind (wpAny_pure ?_)|skip
 refine wpAny_bind (wpAny_sequenceKey ht.typeIs (by decide) ?_)
 refine wpAny_bind (wpAny_callSpecial?_slot (name:=Str.ofString "__getitem__") ht.typeIs PyProof.Rows.slot_tuple_getitem
  (wpAny_call_entry PyProof.Rows.slot_tuple_getitem ht.typeIs entry_tuple_getitem ?_ (args_tuple_getitem _ _)))
 show wpAny _ _ (Builtin.Tuple.tupleItemsOf (.ref t) >>= _) _ _ s
 refine wpAny_bind (tupleItemsOf_ ht ?_)
 refine wpAny_bind (wpAny_typeOf hTs ?_)
 rw[if_pos (by decide)]
 refine wpAny_bind (ao2 hs ?_)
 have hno:¬((((items.size:Int) - 1)==0&&(-1:Int)==1&&items.size==items.size)=true):=by
  have:((-1:Int)==1)=false:=rfl
  rw[this];simp
 show wpAny _ _ (if(((items.size:Int) - 1)==0&&(-1:Int)==1&&items.size==items.size)=true then _ else _) _ _ s
 rw[if_neg hno,bs1]
 first
  | exact wpAny_bind (m:=Builtin.Tuple.tupleExact _) (wpAny_newObj_type (wpAny_pure ⟨_,rfl,wpAny_pure h⟩) htake)
  | exact wpAny_bind (m:=Builtin.Tuple.tupleExact _) (wpAny_newObj_type (wpAny_bind (wpAny_pure (wpAny_pure ⟨_,rfl,wpAny_pure h⟩))) htake)
  | exact wpAny_bind (wpAny_bind (m:=Builtin.Tuple.tupleExact _) (wpAny_newObj_type (wpAny_pure (wpAny_pure ⟨_,rfl,wpAny_pure h⟩)) htake))
  | exact wpAny_bind (wpAny_bind (m:=Builtin.Tuple.tupleExact _) (wpAny_newObj_type (wpAny_pure ⟨_,rfl,wpAny_pure h⟩) htake))
end
section
variable {X:Cx}{e st:Expr}{te ts:TE}{p2 pos:Pos}
theorem aM5:∀{xs:List V}{us:List Value},K1 xs us->K1 xs.reverse us.reverse
 | [],[],h=>h
 | x::xs,u::us,h=>by
  cases h with
  | cons a b=>rw[List.reverse_cons,List.reverse_cons];exact(aM5 b).append (.cons a .nil)
theorem bT6(he:PE X e te) (hs:PE X st ts):PE X (.Subscript e (.Slice none none (some st) p2) pos)
  (fun σ H Q=>te σ H fun x H1=>ts σ H1 fun y H2=>∃a xs,x=.ref a/\y=.int (-1)/\SqT X.K H2 a xs/\∀p,H2 p=none->Q (.ref p) (upd H2 p (.tup xs.reverse))):=by
 intro pins s σ H Q I h
 refine Subscript_ (thn (he pins s σ H _ I h) fun v s1 ⟨x,H1,I1,r1,q1⟩=>?_)
 refine wpAny_Slice ?_
 rw[evalPart_none]
 refine wpAny_pure (wpAny_pure ?_)
 rw[evalPart_some]
 refine thn (hs pins s1 σ H1 _ I1 q1) fun vs s3 ⟨y,H3,I3,r3,a,xs,e1,e2,hx,q⟩=>?_
 subst e1 e2
 cases r1
 obtain⟨tk,rfl⟩:=r3
 have I4:Inv X pins σ H3 { s3 with heap:=s3.heap.push { cls:=.type "slice", data:=.fields #[.none,.none,.int (-1) tk] } }:=I3.kept (t':=s3.toks) fun b ob q=>Heap.get?_push_of_some _ q
 obtain⟨its,r,ht,hz⟩:=I4.tuple hx
 have hlen:its.toArray.size=xs.length:=by rw[List.size_toArray];exact r.length.symm
 show wpAny (model X.prog X.w) X.A (subscriptTail e (.Slice none none (some st) p2) (.ref a) (.ref s3.heap.objs.size)) (EP X pins σ Q) X.xe { s3 with heap:=s3.heap.push { cls:=.type "slice", data:=.fields #[.none,.none,.int (-1) tk] } }
 refine tail_any (ops:=[.ref a,.ref s3.heap.objs.size]) ht.typeIs PyProof.Rows.slot_tuple_getitem.lookup ?_ (by with_unfolding_all rfl)
 refine am6 ht (Heap.IsSliceOf.new ..) ?_ (by rw[hlen];exact hz)
 refine⟨.ref _,_,I4.laid (t':=s3.toks) (o:=.tup xs.reverse) (fun b ob q=>Heap.get?_push_of_some _ q) (Nat.le_refl _) ?_,rfl,q _ (I4.hok.fresh (Nat.le_refl _))⟩
 exact⟨by rw[List.length_reverse];exact hz,_,aM5 r,ay7.new _ _⟩
theorem br1{K:PySem.W.Frag}{H:Hp}{ds:List D}{vs:List V}(h:Reps K H ds vs):Reps K H ds.reverse vs.reverse:=by
 induction ds generalizing vs with
 | nil=>cases vs with
  | nil=>exact h
  | cons _ _=>exact absurd h.length (by simp)
 | cons d ds ih=>cases vs with
  | nil=>exact absurd h.length (by simp)
  | cons v vs =>
   obtain⟨v',r',e,h1,h2⟩:=h
   cases e
   rw[List.reverse_cons,List.reverse_cons]
   exact(ih h2).append ⟨_,_,rfl,h1,rfl⟩
theorem bK6{a st:Expr}{f:DE}{pos p2:Pos}(ha:JE X a f) (hs:JE X st (bm4 ⇑1)):JE X (.Subscript a (.Slice none none (some st) p2) pos) (bP2 f):=fun ρ d q=>by
 obtain⟨x,e1,q⟩:=xbo q
 cases x with
 | tuple xs =>
  cases q
  refine C6 (bT6 (ha ρ _ e1) (hs ρ (.int (-1)) rfl)) fun σ H Q ⟨H0,Hf,s,sl,k⟩=>?_
  refine⟨H0,Hf,s,sl,fun v H1 Hf1 g1 ⟨p,vs,q1,q2,q3⟩=>⟨H0,Hf1,g1.sub,sl.grow g1,fun u H2 Hf2 g2 r2=>?_⟩⟩
  subst q1
  cases r2
  have q2':=E3 g2.ext q2
  have q3':=q3.mono g2.ext
  refine⟨p,vs,rfl,rfl,E3 g2.sub q2',fun p' hp=>?_⟩
  exact k _ _ _ ((g1.trans g2).trans (Grow.laid g2.sub hp)) ⟨p',_,rfl,SqT.of C5,(br1 q3').mono (G0 (g2.sub.free hp))⟩
 | _=>cases q
end
end G
namespace Sh
open PySem PySem.Spec PyProof.Rows L2 G
def ay8:DS:=(A9 (P3 (qN (C2 1 [1] (Q6 (A1 0)) (B7 0) E4 (A2 U5 (A0 (A1 0) (A0 (A1 1) A3)))))))
def ac1:List D->Option D:=C3 ay8 2
end Sh
namespace G
open PySem PySem.Spec PyProof.Rows L2
section
variable {X:Cx}
def atS(x:Str) (i:Int):Option D:=if x.length<=16777216 then(atI x.cps.toList i).map fun c=>.str ⟨#[c]⟩ else none
def aj4(f g:DE):DE:=fun ρ=>(f ρ).bind fun x=>(g ρ).bind fun i=>match x,i with
 | .str x,.int i=>atS x i
 | _,_=>none
theorem ca7{a b:Expr}{f g:DE}{pos:Pos}(ha:JE X a f) (hb:JE X b g) (hs:ab9 b:=by intro _ _;rfl):JE X (.Subscript a b pos) (aj4 f g):=fun ρ d q=>by
 obtain⟨x,h1,q⟩:=xbo q
 obtain⟨y,h2,h3⟩:=xbo q
 split at h3
 ·rename_i x i
  unfold atS at h3
  split at h3
  ·rename_i hz
   obtain⟨c,e1,e2⟩:=xmo h3
   subst e2
   refine C6 (bs6 bx5 (ha ρ _ h1) (hb ρ _ h2) hs) fun σ H Q ⟨H0,Hf,s,sl,k⟩=>?_
   refine⟨H0,Hf,s,sl,fun v H1 Hf1 g1 r1=>⟨H0,Hf1,g1.sub,sl.grow g1,fun u H2 Hf2 g2 r2=>?_⟩⟩
   exact .inr (.inr ⟨x,i,c,r1,r2,by rw[sizeLine_eq];exact hz,e1,k _ H2 Hf2 (g1.trans g2) rfl⟩)
  ·cases h3
 ·cases h3
def aj3(f:DE) (lo hi:Rho->Option (Option Int)):DE:=fun ρ=>(f ρ).bind fun d=>(lo ρ).bind fun l=>(hi ρ).bind fun h=>match d with
 | .tuple xs=>some (.tuple (v6 xs l h))
 | .list xs=>some (.list (v6 xs l h))
 | _=>none
theorem ca3{a:Expr}{lo hi:Option Expr}{f:DE}{l h:Rho->Option (Option Int)}{pos p2:Pos}(ha:JE X a f) (hl:JO X lo l) (hh:JO X hi h):JE X (.Subscript a (.Slice lo hi none p2) pos) (aj3 f l h):=fun ρ d q=>by
 obtain⟨x,e1,q⟩:=xbo q
 obtain⟨y,e2,q⟩:=xbo q
 obtain⟨z,e3,q⟩:=xbo q
 cases x with
 | tuple xs =>
  cases q
  refine bw6 ha hl hh ρ _ ?_
  unfold ac9
  rw[e1,xbs,e2,xbs,e3,xbs]
 | list xs =>
  cases q
  refine C6 (al5 ba7 (ha ρ _ e1) (hl ρ y e2) (hh ρ z e3)) fun σ H Q ⟨H0,Hf,s,sl,k⟩=>?_
  refine⟨H0,Hf,s,sl,fun v H1 Hf1 g1 ⟨p,vs,q1,q2,q3⟩=>⟨H0,Hf1,g1.sub,sl.grow g1,fun H2 Hf2 g2=>⟨H0,Hf2,g2.sub,sl.grow (g1.trans g2),fun H3 Hf3 g3=>?_⟩⟩⟩
  subst q1
  have q2':=M3 (g2.trans g3).ext q2
  have q3':=q3.mono (g2.trans g3).ext
  refine⟨p,vs,rfl,M3 g3.sub q2',fun p' hp=>?_⟩
  exact k _ _ _ (((g1.trans g2).trans g3).trans (Grow.laid g3.sub hp)) ⟨p',_,rfl,SqL.of C5,(av7 q3' y z).mono (G0 (g3.sub.free hp))⟩
 | _=>cases q
end
section
variable {X:Cx}
theorem ak5:∀{ys:List Str}{us:List Value},K1 (ys.map V.str) us->∃l:List (Str×Tok),us=strValues l/\l.map (·.1)=ys
 | [],[],_=>⟨[],rfl,rfl⟩
 | y::ys,u::us,h=>by
  cases h with
  | cons a b =>
   obtain⟨t,rfl⟩:=a
   obtain⟨l,rfl,rfl⟩:=ak5 b
   exact⟨(y,t)::l,rfl,rfl⟩
def al8(sep:Str) (ys:List Str):Nat:=ys.toArray.foldl (fun n y=>n+y.length+sep.length) 0
def ch6(K:PySem.W.Frag):V->List V->Hp->VK->Prop:=fun x vs H Q=>∃sep p ys,x=.str sep/\vs=[.ref p]/\SqL K H p (ys.map V.str)/\al8 sep ys<=sizeLine/\(Builtin.Str.glued sep ys).length<=sizeLine/\Q (.str (Builtin.Str.glued sep ys)) H
theorem bI1:MtR X "str.join" (ch6 X.K):=by
 intro pins s σ H x vs v us Q I rx rv h
 obtain⟨sep,p,ys,rfl,rfl,hq,hz,hg,q⟩:=h
 obtain⟨t,rfl⟩:=rx
 obtain⟨u,rfl,ru⟩:=rv.one
 cases ru
 obtain⟨its,r,pl,_⟩:=I.list hq
 obtain⟨l,rfl,rfl⟩:=ak5 r
 refine call_meets F.slot_str_join (typeIs_str s sep t) F.entry_str_join (F.args_str_join_2 _ _) (meets_str_join_list sep t p l ?_) ⟨pl.isList,?_⟩
 ·show decide (al8 sep (l.map (·.1)) > sizeLine)=false
  exact decide_eq_false (by omega)
 ·match l,q,hg with
  | [],q,hg=>exact⟨hg,.str _,H,I.tok _,⟨_,rfl⟩,q⟩
  | [a],q,_=>exact⟨.str _,H,I,⟨_,rfl⟩,q⟩
  | a::b::r,q,hg=>exact⟨hg,.str _,H,I.tok _,⟨_,rfl⟩,q⟩
def av2:List D->Option (List Str)
 | []=>some []
 | .str x::r=>(av2 r).map fun ys=>x::ys
 | _::_=>none
theorem ao4{K:PySem.W.Frag}{H:Hp}:∀{ds:List D}{ys:List Str}{vs:List V},av2 ds=some ys->Reps K H ds vs->vs=ys.map V.str
 | [],ys,vs,h,r=>by cases h;exact r
 | .str x::ds,ys,vs,h,r=>by
  obtain⟨zs,e1,e2⟩:=xmo h
  subst e2
  obtain⟨v,r',e,h1,h2⟩:=r
  subst e
  rw[ao4 e1 h2]
  cases h1
  rfl
def ax9(f:DE) (g:Rho->Option (Bool×List D)):DE:=fun ρ=>(f ρ).bind fun s=>(g ρ).bind fun q=>match s with
 | .str sep=>if q.1=true then none else(av2 q.2).bind fun ys=>if al8 sep ys<=16777216/\(Builtin.Str.glued sep ys).length<=16777216 then some (.str (Builtin.Str.glued sep ys)) else none
 | _=>none
theorem bL0{o e:Expr}{f:DE}{g:Rho->Option (Bool×List D)}{apos cpos:Pos}(ho:JE X o f) (h:JQ X e g)
  (hbase:attributeBase o "join" X.env (eval o X.env)=eval o X.env:=by rfl)
  (hfew:((backTo cpos (starEach [e] X.env)).all (fun x=>!x.1)&&(backToKw cpos (keywordEach [] X.env)).all (fun x=>x.1.isSome)
   && decide (([e]:List Expr).length+([]:List Keyword).length+(if([]:List Keyword).isEmpty then 0 else 1) < 30))=true:=by rfl)
  (hline:(apos.endLine==cpos.line)=true:=by rfl) (hs:starEach [e] X.env=[(false,eval e X.env)]:=by rfl) :
  JE X (.Call (.Attribute o "join" apos) [e] [] cpos) (ax9 f g):=fun ρ d q=>by
 obtain⟨s,e1,q⟩:=xbo q
 obtain⟨⟨t,ds⟩,e2,q⟩:=xbo q
 cases s with
 | str sep =>
  cases t with
  | true=>simp at q
  | false =>
   simp only[xft,if_false]at q
   obtain⟨ys,e3,q⟩:=xbo q
   split at q
   ·rename_i hz
    cases q
    refine C6 (bc1 F.plainAttrs_str F.slot_str_join F.type_str_join bI1 (ho ρ _ e1) (L4 (h ρ false ds e2) R6 hs) hbase hfew hline hs) fun σ H Q ⟨H0,Hf,s,sl,k⟩=>?_
    refine⟨H0,Hf,s,sl,fun v H1 Hf1 g1 r1=>?_⟩
    cases r1
    refine⟨rfl,H0,Hf1,g1.sub,sl.grow g1,fun w H2 Hf2 g2 ⟨p,vs,z1,z2,z3⟩=>?_⟩
    subst z1
    rw[ao4 e3 z3]at z2
    exact⟨sep,p,ys,rfl,rfl,z2,by rw[sizeLine_eq];exact hz.1,by rw[sizeLine_eq];exact hz.2,k _ H2 Hf2 (g1.trans g2) rfl⟩
   ·cases q
 | _=>cases q
end
section
open PySem.SeqAt PySem.MeetsSeq PySem.MeetsSeq2 PySem.MeetsSeq3 PySem.SeqRoads2
open PySem.AutoSeq1 (wpAny_loadPart')
theorem au8(l:Addr) (items:Array Value) (n:Nat) (dd:Option Addr) (sl:Array (Option Value)) (x:Value) (e:Nat->Bool) :
  Meets (Builtin.«tuple.__contains__» ⟨[.ref l,x],[]⟩)
   (fun A R s=>s.heap.get? l=some { cls:=.type "tuple", dict:=dd,data:=.seq items n,slots:=sl }/\(∀j (h:j < items.size),EqAt A.in1 s items[j] x (e j))/\R (.ok (.ret (.bool ((List.range items.size).any e)))) s) :=
 .of_wp fun prog w A R s h=>by
  obtain⟨hp,g,d,tk,os⟩:=s;obtain⟨hl,he,h⟩:=h
  wp_walk using wpAny_loadPart' hl,wpAny_forIn_array _ (fun T5 b s'=>b.1=none/\s'=⟨hp,g,d,tk,os⟩/\∃i,T5=items.toList.drop i/\R (.ok (.ret (.bool (((List.range items.size).drop i).any e)))) ⟨hp,g,d,tk,os⟩) _
  case turn =>
   rintro y T5 b s' ⟨hb,rfl,i,hz,hR⟩
   have hlt:i < items.toList.length:=by
    rcases Nat.lt_or_ge i items.toList.length with h'|h'
    ·exact h'
    ·rw[List.drop_of_length_le h']at hz;cases hz
   have hi:i < items.size:=by simpa using hlt
   rw[List.drop_eq_getElem_cons hlt]at hz
   injection hz with hy hrest
   have hy:y=items[i]:=by simpa using hy
   subst hy
   have hd:(List.range items.size).drop i=i::(List.range items.size).drop (i+1):=by simp[List.drop_eq_getElem_cons,hi]
   rw[hd,List.any_cons]at hR
   refine wpAny_bind (he i hi prog w _ _ ?_)
   cases hy:e i with
   | true =>
    rw[hy]at hR
    wp_walk
    exact⟨_,rfl,by simpa using hR⟩
   | false =>
    rw[hy]at hR
    wp_walk
    exact⟨rfl,rfl,i+1,hrest,by simpa using hR⟩
  case fin =>
   rintro⟨b1,b2⟩ s' ⟨hb,rfl,i,hz,hR⟩
   simp only at hb
   subst hb
   have hge:items.size<=i:=by
    rcases Nat.lt_or_ge i items.toList.length with h'|h'
    ·rw[List.drop_eq_getElem_cons h']at hz;cases hz
    ·simpa using h'
   rw[List.drop_of_length_le (by simpa using hge)]at hR
   wp_walk
   exact⟨_,rfl,by simpa using hR⟩
  case h =>exact⟨rfl,rfl,0,by simp,by simpa using h⟩
end
section
variable {X:Cx}
def W7:D->Bool
 | .none=>true
 | .bool _=>true
 | .int _=>true
 | .str _=>true
 | _=>false
def toV:D->V
 | .none=>.non
 | .bool b=>.bl b
 | .int i=>.int i
 | .str x=>.str x
 | _=>.non
theorem u8{K:PySem.W.Frag}{H:Hp}{d:D}{v:V}(f:W7 d=true) (r:Rep K H d v):v=toV d/\ah8 v=true:=by
 cases d with
 | none=>cases r;exact⟨rfl,rfl⟩
 | bool b=>cases r;exact⟨rfl,rfl⟩
 | int i=>cases r;exact⟨rfl,rfl⟩
 | str x=>cases r;exact⟨rfl,rfl⟩
 | tuple _=>cases f
 | list _=>cases f
 | dict _=>cases f
theorem ao5{K:PySem.W.Frag}{H:Hp}:∀{ds:List D}{vs:List V},ds.all W7=true->Reps K H ds vs->vs=ds.map toV/\vs.all ah8=true
 | [],vs,_,r=>by cases(show vs=[] from r);exact⟨rfl,rfl⟩
 | d::ds,vs,f,r=>by
  rw[List.all_cons,Bool.and_eq_true]at f
  obtain⟨v,r',e,h1,h2⟩:=r
  subst e
  obtain⟨e1,e2⟩:=u8 f.1 h1
  obtain⟨e3,e4⟩:=ao5 f.2 h2
  subst e1 e3
  exact⟨rfl,by rw[List.all_cons,e2,e4];rfl⟩
def isS:D->Bool
 | .str _=>true
 | _=>false
def inD(neg:Bool) (x y:D):Option D:=match y with
 | .list ds=>if W7 x=true/\ds.all W7=true then some (.bool (if neg then !inV (toV x) (ds.map toV) else inV (toV x) (ds.map toV))) else none
 | .tuple ds=>if W7 x=true/\ds.all W7=true then some (.bool (if neg then !inV (toV x) (ds.map toV) else inV (toV x) (ds.map toV))) else if W7 x=false/\SeqAt.shaped x=true/\ds.all isS=true then some (.bool neg) else if SeqAt.shaped x=true/\x.depth<=60/\ds.all SeqAt.shaped=true then some (.bool (if neg then !(ds.any fun y=>PyData.eqv y x) else ds.any fun y=>PyData.eqv y x)) else none
 | _=>none
theorem bL9{A:Around}{s:Shared}{x:D}{v:Value}{as:List Addr}(f:W7 x=false) (sh:SeqAt.shaped x=true) (r:Reads s.heap v x as) (hu:A.units < cLine) (a:Str) (t:Tok):SeqAt.EqAt A s (.str a t) v false:=by
 cases r with
 | none=>cases f
 | bool _=>cases f
 | int _ _=>cases f
 | str _ _=>cases f
 | list h1 h2 h3 _=>exact SeqAt.EqAt.str_list a t ⟨_,h1,h2,_,h3⟩ hu
 | tuple h1 h2 h3 _=>exact SeqAt.EqAt.str_tuple a t ⟨_,h1,h2,_,h3⟩ hu
 | dict _ _ _ _ _=>exact absurd (SeqAt.canLay_of_shaped sh) (by simp[PyData.canLay0])
theorem aQ1{K:PySem.W.Frag}{H:Hp}:∀{ds:List D}{vs:List V}{us:List Value},ds.all isS=true->Reps K H ds vs->K1 vs us->∀y∈us,∃a t,y=Value.str a t
 | [],_,_,_,r,w=>by cases(show _=[] from r);cases w;intro y hy;cases hy
 | d::ds,_,_,f,r,w=>by
  rw[List.all_cons,Bool.and_eq_true]at f
  obtain⟨v,r',rfl,h1,h2⟩:=r
  cases w with
  | cons w1 w2 =>
   intro y hy
   rcases List.mem_cons.mp hy with rfl|hy
   ·cases d with
    | str a =>
     cases(show v=.str a from h1)
     obtain⟨t,e⟩:=w1
     exact⟨a,t,e⟩
    | _=>cases f.1
   ·exact aQ1 f.2 h2 w2 y hy
theorem bx9{x:D}{ds:List D}{vx vy:V}{v u:Value}{pins:List (Addr×Obj)}{s:Shared}{σ:L2.St}{H Hf:Hp}{Q:Value->Shared->Prop}(hu:X.A.units+64 < cLine) (f:W7 x=false) (sh:SeqAt.shaped x=true) (a:ds.all isS=true) (I:L2.Inv X pins σ H s) (rx:P1 vx v) (ry:P1 vy u) (ss:G1 Hf H) (r1:Rep X.K Hf x vx) (r2:Rep X.K Hf (.tuple ds) vy) :
  (Q (.bool false) s->wpAny (model X.prog X.w) X.A (compareOp .In v u) Q X.xe s)/\(Q (.bool true) s->wpAny (model X.prog X.w) X.A (compareOp .NotIn v u) Q X.xe s):=by
 obtain⟨p,vs,rfl,h2,h3⟩:=r2
 obtain rfl:u=Value.ref p:=ry
 obtain⟨its,rv,pl,_⟩:=I.tuple (E3 ss h2)
 obtain⟨as,rd⟩:=Rep.reads I (r1.mono ss) rx
 have st:=aQ1 a h3 rv
 have he:∀y,y∈its.toArray->SeqAt.EqAt X.A.in1 s y v ((fun _=>false) y):=fun y hy=>by
  obtain⟨b,t,rfl⟩:=st y (by simpa using hy)
  exact bL9 f sh rd (by show X.A.units+1 < _;omega) b t
 have no:its.toArray.any (fun _=>false)=false:=by simp
 refine⟨fun q=>SeqAt.in_tupleAt (fun _=>false) pl he (by rw[no];exact q),fun q=>SeqAt.notIn_tupleAt (fun _=>false) pl he (by rw[no];exact q)⟩
theorem ch5{h:Heap}:∀{vs:List Value}{ds:List D}{as:List Addr},ReadsAll h vs ds as->vs.length=ds.length/\∀(j:Nat) (hj:j < vs.length),∃bs,Reads h vs[j] (ds.getD j .none) bs
 | [],_,_,r=>by cases r;exact⟨rfl,fun j hj=>absurd hj (Nat.not_lt_zero _)⟩
 | v::vs,_,_,r=>by
  cases r with
  | cons r1 r2 =>
   obtain⟨h1,h2⟩:=ch5 r2
   refine⟨by rw[List.length_cons,List.length_cons,h1],fun j hj=>?_⟩
   cases j with
   | zero=>exact⟨_,r1⟩
   | succ j=>exact h2 j (by simpa using hj)
theorem bn2{α:Type}(p:α->Bool) (z:α) (l:List α):(List.range l.length).any (fun j=>p (l.getD j z))=l.any p:=by
 rw[Bool.eq_iff_iff,List.any_eq_true,List.any_eq_true]
 constructor
 ·rintro⟨j,hj,h⟩
  have hj:=List.mem_range.mp hj
  exact⟨l[j],List.getElem_mem hj,by simpa [hj] using h⟩
 ·rintro⟨x,hx,h⟩
  obtain⟨j,hj,rfl⟩:=List.getElem_of_mem hx
  exact⟨j,List.mem_range.mpr hj,by simpa [hj] using h⟩
theorem bD5{x:D}{ds:List D}{vx:V}{v:Value}{pins:List (Addr×Obj)}{s:Shared}{σ:L2.St}{H Hf:Hp}{p:Addr}{vs:List V}(hu:X.A.units+64 < cLine) (sx:SeqAt.shaped x=true) (dx:x.depth<=60) (sd:ds.all SeqAt.shaped=true) (I:L2.Inv X pins σ H s) (rx:P1 vx v) (ss:G1 Hf H) (r1:Rep X.K Hf x vx) (h2:SqT X.K Hf p vs) (h3:Reps X.K Hf ds vs) :
  ∃its:List Value,IsTup s.heap p its.toArray/\its.length=ds.length/\∀j (h:j < its.toArray.size),SeqAt.EqAt X.A.in1 s its.toArray[j] v (PyData.eqv (ds.getD j .none) x):=by
 obtain⟨its,rv,pl,_⟩:=I.tuple (E3 ss h2)
 obtain⟨as,rd⟩:=Rep.reads I (r1.mono ss) rx
 obtain⟨bs,ra⟩:=Reps.reads I (h3.mono ss) rv
 obtain⟨e1,e2⟩:=ch5 ra
 refine⟨its,pl,e1,fun j hj=>?_⟩
 have hj':j < its.length:=by simpa using hj
 obtain⟨cs,q⟩:=e2 j hj'
 have hd:j < ds.length:=by omega
 have sj:=List.all_eq_true.mp sd _ (List.getElem_mem hd)
 have ej:ds.getD j .none=ds[j]:=by simp[hd]
 rw[ej]at q ⊢
 have:=SeqAt.eqAt_reads ds[j] x X.A.in1 s _ _ _ _ q rd (SeqAt.canLay_of_shaped sj) (SeqAt.canLay_of_shaped sx) (by show X.A.units+1+_ < _;have:=Nat.min_le_right ds[j].depth x.depth;omega)
 simpa using this
theorem bx8{x:D}{ds:List D}{vx vy:V}{v u:Value}{pins:List (Addr×Obj)}{s:Shared}{σ:L2.St}{H Hf:Hp}{Q:Value->Shared->Prop}(hu:X.A.units+64 < cLine) (sx:SeqAt.shaped x=true) (dx:x.depth<=60) (sd:ds.all SeqAt.shaped=true) (I:L2.Inv X pins σ H s) (rx:P1 vx v) (ry:P1 vy u) (ss:G1 Hf H) (r1:Rep X.K Hf x vx) (r2:Rep X.K Hf (.tuple ds) vy) :
  (Q (.bool (ds.any fun y=>PyData.eqv y x)) s->wpAny (model X.prog X.w) X.A (compareOp .In v u) Q X.xe s)/\(Q (.bool (!(ds.any fun y=>PyData.eqv y x))) s->wpAny (model X.prog X.w) X.A (compareOp .NotIn v u) Q X.xe s):=by
 obtain⟨p,vs,rfl,h2,h3⟩:=r2
 obtain rfl:u=Value.ref p:=ry
 obtain⟨its,pl,ln,he⟩:=bD5 hu sx dx sd I rx ss r1 h2 h3
 obtain⟨⟨cls,dd,data,sl⟩,ho,hc,n,hd⟩:=id pl
 simp only at hc hd
 subst hc hd
 have ea:(List.range its.toArray.size).any (fun j=>PyData.eqv (ds.getD j .none) x)=ds.any fun y=>PyData.eqv y x:=by
  rw[List.size_toArray,ln]
  exact bn2 (fun y=>PyData.eqv y x) .none ds
 refine⟨fun q=>SeqRoads2.in_meets ⟨_,ho,rfl⟩ F.slot_tuple_contains F.entry_tuple_contains (F.args_tuple_contains_2 _ _) (au8 p its.toArray n dd sl v _) ⟨ho,he,_,rfl,by rw[ea];exact q⟩,
  fun q=>SeqRoads2.notIn_meets ⟨_,ho,rfl⟩ F.slot_tuple_contains F.entry_tuple_contains (F.args_tuple_contains_2 _ _) (au8 p its.toArray n dd sl v _) ⟨ho,he,_,rfl,by rw[ea];exact q⟩⟩
theorem by0{op:CmpOp}{neg:Bool}(o:OpR X (compareOp op) (rIn X.K neg)) (o2:∀x ds,W7 x=false->SeqAt.shaped x=true->ds.all isS=true->OpR X (compareOp op) (fun vx vy H Q=>∃Hf,G1 Hf H/\Rep X.K Hf x vx/\Rep X.K Hf (.tuple ds) vy/\∀v H' Hf',Grow H Hf H' Hf'->Rep X.K Hf' (.bool neg) v->Q v H'))
  (o3:∀x ds,SeqAt.shaped x=true->x.depth<=60->ds.all SeqAt.shaped=true->OpR X (compareOp op) (fun vx vy H Q=>∃Hf,G1 Hf H/\Rep X.K Hf x vx/\Rep X.K Hf (.tuple ds) vy/\∀v H' Hf',Grow H Hf H' Hf'->Rep X.K Hf' (.bool (if neg then !(ds.any fun y=>PyData.eqv y x) else ds.any fun y=>PyData.eqv y x)) v->Q v H')):OpD X (compareOp op) (inD neg):=fun x y z h=>by
 unfold inD at h
 split at h
 ·split at h
  ·rename_i c
   cases h
   refine OpR.imp o fun vx vy H Q ⟨Hf,s,r1,r2,k⟩=>?_
   obtain⟨p,vs,rfl,h2,h3⟩:=r2
   obtain⟨e1,e2⟩:=u8 c.1 r1
   obtain⟨e3,e4⟩:=ao5 c.2 h3
   subst e1 e3
   exact⟨p,_,rfl,.inl (M3 s h2),e2,e4,k _ H Hf (Grow.refl s) rfl⟩
  ·cases h
 ·split at h
  ·rename_i c
   cases h
   refine OpR.imp o fun vx vy H Q ⟨Hf,s,r1,r2,k⟩=>?_
   obtain⟨p,vs,rfl,h2,h3⟩:=r2
   obtain⟨e1,e2⟩:=u8 c.1 r1
   obtain⟨e3,e4⟩:=ao5 c.2 h3
   subst e1 e3
   exact⟨p,_,rfl,.inr (E3 s h2),e2,e4,k _ H Hf (Grow.refl s) rfl⟩
  ·split at h
   ·rename_i c
    cases h
    exact o2 _ _ c.1 c.2.1 c.2.2
   ·split at h
    ·rename_i c
     cases h
     exact o3 _ _ c.1 c.2.1 c.2.2
    ·cases h
 ·cases h
theorem cj6(hu:X.A.units+64 < cLine):OpD X (compareOp .In) (inD false):=by0 bh7 (fun x ds f sh a pins s σ H vx vy v u Q I rx ry ⟨Hf,ss,r1,r2,k⟩=>(bx9 hu f sh a I rx ry ss r1 r2).1 ⟨.bl false,H,I,rfl,k _ H Hf (Grow.refl ss) rfl⟩)
 fun x ds sx dx sd pins s σ H vx vy v u Q I rx ry ⟨Hf,ss,r1,r2,k⟩=>(bx8 hu sx dx sd I rx ry ss r1 r2).1 ⟨.bl _,H,I,rfl,k _ H Hf (Grow.refl ss) rfl⟩
theorem bt4(hu:X.A.units+64 < cLine):OpD X (compareOp .NotIn) (inD true):=by0 aI5 (fun x ds f sh a pins s σ H vx vy v u Q I rx ry ⟨Hf,ss,r1,r2,k⟩=>(bx9 hu f sh a I rx ry ss r1 r2).2 ⟨.bl true,H,I,rfl,k _ H Hf (Grow.refl ss) rfl⟩)
 fun x ds sx dx sd pins s σ H vx vy v u Q I rx ry ⟨Hf,ss,r1,r2,k⟩=>(bx8 hu sx dx sd I rx ry ss r1 r2).2 ⟨.bl _,H,I,rfl,k _ H Hf (Grow.refl ss) rfl⟩
end
section
variable {X:Cx}
theorem ce3:bootBuiltins "min" = some (.builtin "min"):=by decide +kernel
theorem ce4:bootBuiltins "max" = some (.builtin "max"):=by decide +kernel
def aE8(f g:DE):DE:=fun ρ=>(f ρ).bind fun x=>(g ρ).bind fun y=>match x,y with
 | .int i,.int j=>some (.int (if j < i then j else i))
 | _,_=>none
def aE9(f g:DE):DE:=fun ρ=>(f ρ).bind fun x=>(g ρ).bind fun y=>match x,y with
 | .int i,.int j=>some (.int (if j > i then j else i))
 | _,_=>none
theorem bK7{e e':Expr}{f g:DE}{p pos:Pos}(hg:Gl X "min") (hm:X.mg "min" = none) (h:JE X e f) (h':JE X e' g) (hc:X.calm=true:=by rfl) (he:starEach [e,e'] X.env=(false,eval e X.env)::starEach [e'] X.env:=by rfl) (he':starEach [e'] X.env=[(false,eval e' X.env)]:=by rfl)
  (hpl:(backTo pos (starEach [e'] X.env)).any (·.1)=false:=by rfl):JE X (.Call (.Name "min" p) [e,e'] [] pos) (aE8 f g):=fun ρ d q=>by
 obtain⟨x,h1,q⟩:=xbo q
 obtain⟨y,h2,h3⟩:=xbo q
 split at h3
 ·cases h3
  exact C6 (Y5 (bm8 hc) hg hm ce3 (L4 (h ρ _ h1) (L4 (h' ρ _ h2) R6 he') he) (he:=he) (hpl:=hpl)) fun σ H Q ⟨H0,Hf,s,sl,k⟩ =>⟨H0,Hf,s,sl,fun v H1 Hf1 g1 r=>⟨H0,Hf1,g1.sub,sl.grow g1,fun w H2 Hf2 g2 r2=>⟨_,_,by rw[show v=_ from r,show w=_ from r2],k _ H2 Hf2 (g1.trans g2) rfl⟩⟩⟩
 ·cases h3
theorem bK8{e e':Expr}{f g:DE}{p pos:Pos}(hg:Gl X "max") (hm:X.mg "max" = none) (h:JE X e f) (h':JE X e' g) (hc:X.calm=true:=by rfl) (he:starEach [e,e'] X.env=(false,eval e X.env)::starEach [e'] X.env:=by rfl) (he':starEach [e'] X.env=[(false,eval e' X.env)]:=by rfl)
  (hpl:(backTo pos (starEach [e'] X.env)).any (·.1)=false:=by rfl):JE X (.Call (.Name "max" p) [e,e'] [] pos) (aE9 f g):=fun ρ d q=>by
 obtain⟨x,h1,q⟩:=xbo q
 obtain⟨y,h2,h3⟩:=xbo q
 split at h3
 ·cases h3
  exact C6 (Y5 (bm9 hc) hg hm ce4 (L4 (h ρ _ h1) (L4 (h' ρ _ h2) R6 he') he) (he:=he) (hpl:=hpl)) fun σ H Q ⟨H0,Hf,s,sl,k⟩ =>⟨H0,Hf,s,sl,fun v H1 Hf1 g1 r=>⟨H0,Hf1,g1.sub,sl.grow g1,fun w H2 Hf2 g2 r2=>⟨_,_,by rw[show v=_ from r,show w=_ from r2],k _ H2 Hf2 (g1.trans g2) rfl⟩⟩⟩
 ·cases h3
theorem bx3{k:Nat}{f:Addr}{fd:FuncData}{ps:List Str}{F:List D->Option D}{x:Str}{p pos:Pos}(Fk:FnOk X.prog X.w X.K X.mg X.base CX0 k f fd ps (spF X.K 0 F)) (hr:Room k X.A) (hg:Gl X x) (hm:X.mg x=some (.ref f)) (hk:PySem.W.keepIn X.K (.ref f)=true) (hb:T8 X.K fd ps [])
  (hdb:(x==("__debug__" : Str))=false:=by decide):JE X (.Call (.Name x p) [] [] pos) (A2 F A3):=fun ρ d q=>by
 have h2:F []=some d:=q
 refine C6 (bs7 Fk hr hg hm hk hb .nil bs9 hdb) fun σ H Q ⟨H0,Hf,s,sl,kk⟩=>?_
 exact⟨rfl,Hf,[],d,s,rfl,h2,fun v H2 Hf2 g2 r2=>kk v H2 Hf2 g2 r2⟩
end
def aF7(K:PySem.W.Frag):List D->List Value->Prop
 | [],us=>us=[]
 | d::ds,us=>∃u r,us=u::r/\aS7 K d u/\aF7 K ds r
section
variable {K:PySem.W.Frag}
theorem S3:aF7 K [] []:=rfl
theorem B4{d:D}{ds:List D}{u:Value}{us:List Value}(h:aS7 K d u) (t:aF7 K ds us):aF7 K (d::ds) (u::us):=⟨u,us,rfl,h,t⟩
theorem aE2:∀{ds:List D}{us:List Value},aF7 K ds us->∃vs,K1 vs us/\∀H:Hp,Reps K H ds vs
 | [],_,h=>by cases h;exact⟨[],.nil,fun _=>rfl⟩
 | d::ds,_,⟨u,r,e,⟨v,h1,h2⟩,h3⟩=>by
  subst e
  obtain⟨vs,q1,q2⟩:=aE2 h3
  exact⟨v::vs,.cons h1 q1,fun H=>⟨v,vs,rfl,h2 H,q2 H⟩⟩
theorem Q0(i:Int) (t:Tok):aS7 K (.int i) (.int i t):=⟨.int i,⟨t,rfl⟩,fun _=>rfl⟩
theorem U1{a:Addr}{o:Obj}{its:Array Value}{n:Nat}{ds:List D}(h:K.lookup a=some o) (hc:o.cls=.type "tuple") (hn:o.dict=none) (hd:o.data=.seq its n) (hz:its.size<=1000) (hi:aF7 K ds its.toList):aS7 K (.tuple ds) (.ref a):=by
 obtain⟨vs,q1,q2⟩:=aE2 hi
 exact⟨.ref a,rfl,fun H=>⟨a,vs,rfl,.inr ⟨o,its,n,h,hc,hn,hd,Nat.le_of_lt (ao1 hz),q1⟩,q2 H⟩⟩
end
theorem aO5(l:Addr) (items:Array Value) (n:Nat) (dd:Option Addr) (sl:Array (Option Value)) (u:Tok) :
  Meets (Builtin.«tuple.__mul__» ⟨[.ref l,.int 1 u],[]⟩) (fun _ R s=>s.heap.get? l=some ⟨.type "tuple", dd,.seq items n,sl⟩/\R (.ok (.ret (Value.ref l))) s) :=
 .of_wp fun prog w A R s h=>by
  obtain⟨hp,g,d,tk,os⟩:=s
  obtain⟨hl,h⟩:=h
  wp_walk
  exact⟨_,rfl,h⟩
section
variable {X:Cx}
theorem bt0:OpR X (binaryOp .Mult) (fun x y H Q=>∃l xs,x=.ref l/\y=.int 1/\SqT X.K H l xs/\Q (.ref l) H):=by
 intro pins s σ H x y v u Q I rx ry h
 obtain⟨l,xs,rfl,rfl,hq,q⟩:=h
 cases rx
 obtain⟨t,rfl⟩:=ry
 obtain⟨its,r,p1,_⟩:=I.tuple hq
 obtain⟨⟨cls,dd,data,sl⟩,ho,hc,n,hd⟩:=id p1
 simp only at hc hd
 subst hc hd
 exact wpAny_binaryOp_repeat_ref (T := "tuple") (U := "int") (by decide) ⟨_,ho,rfl⟩ (fun s'=>typeIs_int s' 1 t) ar5 F.fills_int_mul F.slot_int_rmul aD4 F.slot_int_index.lookup
  (call_meets F.slot_int_rmul (typeIs_int s 1 t) F.entry_int_rmul (F.args_int_rmul_2 _ _) (al1 1 t l its.toArray n dd sl) ⟨ho,rfl,⟨_,ho,rfl⟩,
   call_meets F.slot_tuple_mul ⟨_,ho,rfl⟩ F.entry_tuple_mul (F.args_tuple_mul_2 _ _) (aO5 l its.toArray n dd sl t) ⟨ho,⟨.ref l,H,I,rfl,q⟩⟩⟩)
theorem aH6(a:Int) (t:Tok) (l:Addr) (items:Array Value) (n:Nat) (dd:Option Addr) (sl:Array (Option Value)) :
  Meets (Builtin.«int.__rmul__» ⟨[.int a t,.ref l],[]⟩) (fun _ R s=>s.heap.get? l=some ⟨.type "list", dd,.seq items n,sl⟩/\R (.ok (.ret Value.notImplemented)) s):=Meets.of_wp fun prog w A R s h=>by
 obtain⟨hp,g,d,tk,os⟩:=s
 obtain⟨hl,h⟩:=h
 wp_walk
 exact⟨_,rfl,h⟩
theorem aO7(l:Addr) (items:Array Value) (n:Nat) (dd:Option Addr) (sl:Array (Option Value)) (x:Int) (u:Tok) (c0:¬(!Builtin.List.listFitsIndex x)=true) (c1:¬items.size*x.toNat > (2 ^ 63 - 1) / 8) (c2:¬Builtin.List.listTooLong (items.size*x.toNat)=true) :
  Meets (Builtin.«list.__mul__» ⟨[.ref l,.int x u],[]⟩) (fun _ R s=>s.heap.get? l=some ⟨.type "list", dd,.seq items n,sl⟩/\R (.ok (.ret (Value.ref s.heap.objs.size))) { s with heap:=s.heap.push { cls:=Value.type "list", data:=Data.seq (List.foldl (fun x1 x2=>x1++x2) #[] (List.replicate (if items.isEmpty=true then 0 else x.toNat) items)) } }):=Meets.of_wp fun prog w A R s h=>by
 obtain⟨hp,g,d,tk,os⟩:=s
 obtain⟨hl,h⟩:=h
 have hsz:=AutoListH.joined_fits c2
 wp_walk
 refine wpAny_ite_false (decide_eq_false (Nat.not_lt.mpr hsz)) ?_
 wp_walk
 exact⟨_,rfl,h⟩
theorem bG5:OpR X (binaryOp .Mult) (fun x y H Q=>∃l k xs,x=.ref l/\y=.int k/\SqL X.K H l xs/\0<=k/\k < 1000000/\xs.length*k.toNat<=sizeLine/\∀p,H p=none->Q (.ref p) (upd H p (.lst (List.replicate k.toNat xs).flatten))):=by
 intro pins s σ H x y v u Q I rx ry h
 obtain⟨l,k,xs,rfl,rfl,hq,h1,h2,hz,q⟩:=h
 cases rx
 obtain⟨t,rfl⟩:=ry
 obtain⟨its,r,p1,_⟩:=I.list hq
 obtain⟨⟨cls,dd,data,sl⟩,ho,hc,n,hd⟩:=p1.isList
 simp only at hc hd
 subst hc hd
 have hl:=r.length
 have hlen:its.toArray.size*k.toNat<=sizeLine:=by rw[List.size_toArray,← hl];exact hz
 have hcap:¬its.toArray.size*k.toNat > (2 ^ 63 - 1) / 8:=by
  have:(sizeLine:Nat)<=(2 ^ 63 - 1) / 8:=by decide
  omega
 have hfit:¬(!Builtin.List.listFitsIndex k)=true:=by rw[fitsIndex_both (by omega) (by omega)];exact Bool.false_ne_true
 have hlong:¬Builtin.List.listTooLong (its.toArray.size*k.toNat)=true:=by rw[ae3 hlen];exact Bool.false_ne_true
 have hnew:List.foldl (fun x1 x2=>x1++x2) #[] (List.replicate (if its.toArray.isEmpty=true then 0 else k.toNat) its.toArray)=(List.replicate k.toNat its).flatten.toArray:=by
  rw[aV2]
  cases its with
  | nil=>simp
  | cons a r'=>rw[if_neg (by simp)]
 refine wpAny_binaryOp_repeat_ref (T := "list") (U := "int") (by decide) ⟨_,ho,rfl⟩ (fun s'=>typeIs_int s' k t) noFill_list_mul F.fills_int_mul F.slot_int_rmul repeat_list F.slot_int_index.lookup
  (call_meets F.slot_int_rmul (typeIs_int s k t) F.entry_int_rmul (F.args_int_rmul_2 _ _) (aH6 k t l its.toArray n dd sl) ⟨ho,rfl,⟨_,ho,rfl⟩,
   call_meets F.slot_list_mul ⟨_,ho,rfl⟩ F.entry_list_mul (F.args_list_mul_2 _ _) (aO7 l its.toArray n dd sl k t hfit hcap hlong) ⟨ho,?_⟩⟩)
 rw[hnew]
 exact⟨.ref _,_,I.lnew (t':=s.toks) (r.rep k.toNat) (by rw[aJ1,Nat.mul_comm];exact hz),rfl,q _ I.fresh⟩
def K7(x y:D):Option D:=match x,y with
 | .tuple xs,.int k=>if k=1 then some (.tuple xs) else Z4 (.tuple xs) (.int k)
 | .list xs,.int k=>if 0<=k/\k < 1000000/\xs.length*k.toNat<=16777216 then some (.list (List.replicate k.toNat xs).flatten) else none
 | x,y=>Z4 x y
theorem bc5:OpD X (binaryOp .Mult) K7:=fun x y z h=>by
 unfold K7 at h
 split at h
 ·split at h
  ·rename_i xs k c
   subst c
   cases h
   refine OpR.imp bt0 fun vx vy H Q ⟨Hf,s,r1,r2,kk⟩=>?_
   obtain⟨a,vs,rfl,h2,h3⟩:=r1
   exact⟨a,vs,rfl,r2,E3 s h2,kk _ _ _ (Grow.refl s) ⟨a,vs,rfl,h2,h3⟩⟩
  ·exact aI6 _ _ z h
 ·split at h
  ·rename_i xs k c
   cases h
   refine OpR.imp bG5 fun vx vy H Q ⟨Hf,s,r1,r2,kk⟩=>?_
   obtain⟨a,vs,rfl,h2,h3⟩:=r1
   refine⟨a,k,vs,rfl,r2,M3 s h2,c.1,c.2.1,by rw[h3.length,sizeLine_eq];exact c.2.2,fun p hp=>?_⟩
   exact kk _ _ _ (Grow.laid s hp) ⟨p,_,rfl,SqL.of C5,(h3.flatten k.toNat).mono (G0 (s.free hp))⟩
  ·cases h
 ·exact aI6 _ _ z h
theorem aj7(i j:Int):B1 (.int i) (.int j)=some (.int (i+j)):=rfl
def bm3(f:Rho->Option (Bool×List D)) (lo hi:Rho->Option (Option Int)):DE:=fun ρ=>(f ρ).bind fun q=>(lo ρ).bind fun l=>(hi ρ).bind fun h=>if q.1=true then none else some (.list (v6 q.2 l h))
theorem ca2{a:Expr}{lo hi:Option Expr}{f:Rho->Option (Bool×List D)}{l h:Rho->Option (Option Int)}{pos p2:Pos}(ha:JQ X a f) (hl:JO X lo l) (hh:JO X hi h):JE X (.Subscript a (.Slice lo hi none p2) pos) (bm3 f l h):=fun ρ d q=>by
 obtain⟨⟨t,xs⟩,e1,q⟩:=xbo q
 obtain⟨y,e2,q⟩:=xbo q
 obtain⟨z,e3,q⟩:=xbo q
 cases t with
 | true=>simp at q
 | false =>
  simp only[xft,if_false]at q
  cases q
  refine C6 (al5 ba7 (ha ρ _ _ e1) (hl ρ y e2) (hh ρ z e3)) fun σ H Q ⟨H0,Hf,s,sl,k⟩=>?_
  refine⟨H0,Hf,s,sl,fun v H1 Hf1 g1 ⟨p,vs,q1,q2,q3⟩=>⟨H0,Hf1,g1.sub,sl.grow g1,fun H2 Hf2 g2=>⟨H0,Hf2,g2.sub,sl.grow (g1.trans g2),fun H3 Hf3 g3=>?_⟩⟩⟩
  subst q1
  have q3':=q3.mono (g2.trans g3).ext
  refine⟨p,vs,rfl,M3 (g2.trans g3).big q2,fun p' hp=>?_⟩
  exact k _ _ _ (((g1.trans g2).trans g3).trans (Grow.laid g3.sub hp)) ⟨p',_,rfl,SqL.of C5,(av7 q3' y z).mono (G0 (g3.sub.free hp))⟩
def C8:DS:=fun _=>none
theorem B9{st:Stmt}:JS X st C8:=fun ρ fl q=>by cases q
def aU2(f:DE):Rho->Option Bool:=fun ρ=>(f ρ).bind R8
theorem bv4{op op':CmpOp}{h1 h2:D->D->Option D}{a b c:Expr}{f g k:DE}{pos:Pos}(o1:OpD X (compareOp op) h1) (o2:OpD X (compareOp op') h2) (ha:JE X a f) (hb:JE X b g) (hc:JE X c k)
  (hm:lastMarks [op,op'] [b,c]=false:=by with_unfolding_all rfl):JT X (.Compare a [op,op'] [b,c] pos) (aU2 (R7 h1 h2 f g k)):=fun ρ d q=>by
 obtain⟨dd,q,ed⟩:=xbo q
 have ed:=bf3 ed
 subst ed
 obtain⟨x,e1,q⟩:=xbo q
 obtain⟨y,e2,q⟩:=xbo q
 obtain⟨z,e3,q⟩:=xbo q
 split at q
 ·obtain⟨w,e4,e5⟩:=xbo q
  refine aI1 (aN5 (o1 x y _ e3) (o2 y w _ e5) (ha ρ x e1) (hb ρ y e2) (hc ρ w e4) hm) fun σ H Q ⟨H0,Hf,s,sl,kk⟩=>?_
  refine⟨H0,Hf,s,sl,fun v H1 Hf1 g1 r1=>⟨H0,Hf1,g1.sub,sl.grow g1,fun u H2 Hf2 g2 r2=>⟨Hf2,g2.sub,r1.mono g2.ext,r2,fun z' H3 Hf3 g3 r3=>?_⟩⟩⟩
  refine⟨true,r3,aA1 ⟨H0,Hf3,g3.sub,sl.grow ((g1.trans g2).trans g3),fun w' H4 Hf4 g4 r4=>⟨Hf4,g4.sub,r2.mono (g3.trans g4).ext,r4,fun z2 H5 Hf5 g5 r5=>?_⟩⟩⟩
  exact⟨d,r5,kk H5 Hf5 ((((g1.trans g2).trans g3).trans g4).trans g5)⟩
 ·cases q
  intro pins s σ H Q I ⟨H0,Hf,ss,sl,kk⟩
  refine aN5 (tc:=fun _ _ _=>False) (r':=fun _ _ _ _=>False) (o1 x y _ e3) (fun _ _ _ _ _ _ _ _ _ _ _ _ h=>h.elim) (ha ρ x e1) (hb ρ y e2) (fun _ _ _ _ _ _ h=>h.elim) hm pins s σ H Q I ?_
  refine⟨H0,Hf,ss,sl,fun v H1 Hf1 g1 r1=>⟨H0,Hf1,g1.sub,sl.grow g1,fun u H2 Hf2 g2 r2=>⟨Hf2,g2.sub,r1.mono g2.ext,r2,fun z' H3 Hf3 g3 r3=>?_⟩⟩⟩
  exact⟨false,r3,aA2 ⟨false,rfl,kk H3 Hf3 ((g1.trans g2).trans g3)⟩⟩
 ·cases q
end
end G
namespace Sh
open PySem PySem.Spec PyProof.Rows L2 G
def aq5:DS:=(A9 (S8 (A2 S9 (A0 (A1 0) A3)) (R7 leI leI ⇑1 (A1 0) ⇑8)))
def aa1:List D->Option D:=C3 aq5 1
def ak0:DS:=(B0 (sIf (Q5 (F8 (K4 (Y7 "tuple" (A1 0)))) (tB2 neD (R4 (A8 0)) ⇑3)) (A9 (dC (.bool false))) C9) (A9 (S8 (A2 aa1 (A0 (dIx (A8 0) ⇑0) A3)) (S8 (A2 aa1 (A0 (dIx (A8 0) ⇑1) A3)) (Y7 "tuple" (dIx (A8 0) ⇑2))))))
def n6:List D->Option D:=C3 ak0 1
def az4:DS:=(B0 (sIf (F8 (K4 (A2 n6 (A0 (A1 0) A3)))) (A9 (dC (.bool false))) C9) (B0 (B2 1 (dIx (A8 0) ⇑2)) (A9 (S8 (A5 eqD (R4 (A8 1)) (A5 K7 (dIx (A8 0) ⇑0) (dIx (A8 0) ⇑1))) (ab7 (qN (C2 1 [] (Q6 (A1 1)) (B7 0) E4 (A2 ag7 (A0 (A1 0) A3)))))))))
def ak2:List D->Option D:=C3 az4 2
def ar9:DS:=(A9 (W0 (C2 1 [0] (N3 (A5 K7 (A1 0) (A1 1))) (B7 0) E4 (O1 (A0 (A5 n8 (A1 0) (A1 1)) (A0 (A5 ai9 (A1 0) (A1 1)) A3))))))
def W5:List D->Option D:=C3 ar9 2
def as3:DS:=(A9 (S8 (R7 leI ltI ⇑0 (A1 1) (dIx (A8 0) ⇑0)) (R7 leI ltI ⇑0 (A1 2) (dIx (A8 0) ⇑1))))
def Y9:List D->Option D:=C3 as3 3
def r8:DS:=(A9 (A5 B1 (A5 K7 (A1 2) (dIx (A8 0) ⇑0)) (A1 1)))
def R5:List D->Option D:=C3 r8 3
def aq2:DS:=(B0 (sIf (F8 (K4 (A2 Y9 (A0 (A1 0) (A0 (A1 1) (A0 (A1 2) A3)))))) (A9 (dC (.tuple [(.tuple [(.int 0),(.int 1)]),(.tuple [(.int 0),(.int 1)]),(.tuple [(.int 0),(.int 1)]),(.tuple [(.int 0),(.int 1)])]))) C9) (A9 (dIx (qE (dIx (A8 0) ⇑2)) (A2 R5 (A0 (A1 0) (A0 (A1 1) (A0 (A1 2) A3)))))))
def aq8:List D->Option D:=C3 aq2 3
def w9:DS:=(B0 (U9 3 (C2 2 [0] (ab4 (qE (dIx (A8 1) ⇑2)) (qE (dIx (A8 2) ⇑2))) (Q7 2 (C4 (B7 0) (C4 (B7 1) R3))) E4 (A2 Y0 (A0 (A1 2) (A0 (A1 0) (A0 (A1 1) A3)))))) (A9 (O1 (A0 (dIx (A8 1) ⇑0) (A0 (dIx (A8 1) ⇑1) (A0 (P3 (A8 3)) A3))))))
def X8:List D->Option D:=C3 w9 4
def aq3:DS:=(B0 (U9 4 (C2 1 [0,1] (N3 (A5 K7 (A1 2) (A1 3))) (B7 0) E4 (A2 x9 (A0 (A1 1) (A0 (A5 B1 (A1 2) (A5 K7 ⇑12 (A1 0))) A3))))) (B0 (sIf (tB2 eqD (A2 A7 (A0 (A1 0) (A0 (A5 B1 (A1 1) ⇑7) (A0 ⇑3 A3)))) ⇑0) (B2 4 (A5 K7 (aj3 (A1 4) S0 (M5 ⇑1)) (A5 K7 (A1 2) (A1 3)))) C9) (A9 (O1 (A0 (A1 2) (A0 (A1 3) (A0 (P3 (A8 4)) A3)))))))
def ag5:List D->Option D:=C3 aq3 5
end Sh
namespace G
open PySem PySem.Spec PyProof.Rows L2
theorem bj7{prog:Program}{w:World}{A:Around}(hh:A.handled=none) (t:Bool) (it l:Addr) (hne:l≠it) (xs:Array Value):Draws prog w A it [it,l] xs.size (fun i x=>xs[i]? = some x) (fun i h=>SIt t h it l i/\SSq t h l xs):=by
 refine⟨fun i h ⟨a,_⟩=>?_,fun i h h' ⟨a,b⟩ k=>⟨a.ext fun o e=>k it (by simp) o e,b.ext fun o e=>k l (by simp) o e⟩,fun i s Q E hi ⟨a,b⟩ hQ=>?_,fun s Q E ⟨a,b⟩ hE=>at7 hh a b (by simp) hE⟩
 ·cases t with
  | true=>obtain⟨o,ho,_⟩:=a;exact⟨o,ho⟩
  | false=>obtain⟨o,ho,_⟩:=a;exact⟨o,ho⟩
 ·have hx:xs[i]? = some xs[i]:=by simp[hi]
  exact ak8 a b hx fun h' c sb=>hQ _ h' s.toks hx ⟨c,b.ext fun o e=>sb.extBut l o hne e⟩ sb
theorem bh1(l:Addr) (items:Array Value) (n:Nat) (dd:Option Addr) (sl:Array (Option Value)) :
  Meets (Builtin.«enumerate.__new__» ⟨[.type "enumerate", .ref l],[]⟩) (fun _ R s=>s.heap.get? l=some ⟨.type "tuple", dd,.seq items n,sl⟩ /\
   R (.ok (.ret (.ref (s.heap.push (am1 true l)).objs.size))) { s with heap:=(s.heap.push (am1 true l)).push { cls:=.type "enumerate", data:=.fields #[.none,.bool false,.ref s.heap.objs.size,rawInt 0,.none,.none] } }):=Meets.of_wp fun prog w A R s h=>by
 obtain⟨hp,g,d,tk,os⟩:=s
 obtain⟨hl,h⟩:=h
 have hsub:=sub_enumerate
 have q1:SSq true (Shared.heap ⟨hp,g,d,tk,os⟩) l items:=⟨_,hl,rfl,n,rfl⟩
 wp_walk using AutoSeq1.wpAny_loadPart' hl
 refine wpAny_stack_any fun st=>wpAny_pure ?_
 split
 ·rename_i c _ _ _ _ _
  cases(c==Value.type "enumerate")
  ·wp_walk using AutoSeq1.wpAny_loadPart' hl,ae0 q1
   exact⟨_,rfl,h⟩
  ·wp_walk using AutoSeq1.wpAny_loadPart' hl,ae0 q1
   exact⟨_,rfl,h⟩
 ·wp_walk using AutoSeq1.wpAny_loadPart' hl,ae0 q1
  exact⟨_,rfl,h⟩
section
variable {prog:Program}{w:World}{A:Around}{E:Value->Shared->Prop}{s:Shared}{t:Bool}
theorem aU8{l:Addr}{xs:Array Value}{Q:Value->Shared->Prop}(hl:SSq t s.heap l xs)
  (h:∀h',IsEnum h' (s.heap.objs.size+1) s.heap.objs.size 0 .none->SIt t h' s.heap.objs.size l 0->(∀c o,s.heap.get? c=some o->h'.get? c=some o)->Q (.ref (s.heap.objs.size+1)) { s with heap:=h' }) :
  wpAny (model prog w) A (call (.type "enumerate") [.ref l]) Q E s:=by
 cases t with
 | false=>exact call_enumerate_list hl fun h' a b _ d=>h h' a b d
 | true =>
  obtain⟨⟨cls,dd,data,sl⟩,ho,hc,n,hd⟩:=hl
  simp only at hc hd
  subst hc hd
  refine callType_new F.called_enumerate (by decide) (F.typeCall_enumerate_1 _) (F.newCall_enumerate_1 _) (fun obj=>F.args_object_init_2 obj _) F.entry_enumerate_new (bh1 l xs n dd sl) ⟨ho,?_⟩
  have z1:(s.heap.push (am1 true l)).objs.size=s.heap.objs.size+1:=Heap.size_push ..
  show _/\_
  rw[z1]
  have he:=Heap.get?_push_size (s.heap.push (am1 true l)) (o:={ cls:=.type "enumerate", data:=.fields #[.none,.bool false,.ref s.heap.objs.size,rawInt 0,.none,.none] }) rfl
  rw[z1]at he
  exact⟨⟨_,he,rfl⟩,h _ he ((aH3 (h:=s.heap) (l:=l) true).ext fun o e=>Heap.get?_push_of_some _ e) fun c o e=>Heap.get?_push_of_some _ (Heap.get?_push_of_some _ e)⟩
theorem bj6{e it l:Addr}{i:Int}{k:Nat}{xs:Array Value}{old:Value}{Q:Option Value->Shared->Prop}(hh:A.handled=none) (he:IsEnum s.heap e it i old) (hit:SIt t s.heap it l k) (hl:SSq t s.heap l xs) (hx:xs[k]? = none)
  (hQ:∀h',Heap.ExtBut it s.heap h'->Q none { s with heap:=h' }):wpAny (model prog w) A (pyNext (.ref e)) Q E s:=by
 have hT:s.TypeIs (.ref e) "enumerate" := ⟨_,he,rfl⟩
 unfold pyNext
 refine wpAny_bind (wpAny_attempt (wpAny_callSpecial?_slot (name:=Str.ofString "__next__") hT F.slot_enumerate_next (wpAny_call_entry F.slot_enumerate_next hT F.entry_enumerate_next ?_ (F.args_enumerate_next_1 _))))
 show wpAny _ _ (field (.ref e) 2 >>= _) _ _ _
 refine wpAny_bind (wpAny_field he rfl (x:=.ref it) rfl (wpAny_bind (at7 hh hit hl hx fun h' x he' hx'=>?_)))
 obtain⟨o,ho,hc⟩:=hx'
 exact wpAny_bind (wpAny_isInstance (T := "StopIteration") (b:=true) ⟨o,ho,hc⟩ isSubtype_stop (wpAny_pure (hQ _ he')))
end
def Ite(K:PySem.W.Frag) (t:Bool) (a:Addr):It :=
  ⟨fun i H=>∃xs x,Sq K t H a xs/\xs[i]? = some x,
   fun i H v H'=>∃T x,v=.ref T/\H T=none/\H'=upd H T (.tup [.int i,x])/\∀xs,Sq K t H a xs->xs[i]? = some x,
   fun i H=>∃xs,Sq K t H a xs/\xs.length<=i⟩
theorem bg5{P:Program}{w:World}{K:PySem.W.Frag}{elts:List Expr}{k0:Nat}{pos:Pos}{t:Bool}{e it a:Addr}(h1:e≠it) (h2:a≠e) (h3:a≠it) :
  Turn P w K (.Tuple elts k0 pos) (Ite K t a) [e,it] e (fun i h=>(∃old,IsEnum h e it i old)/\SIt t h it a i) where
 mem:=by simp
 obj:=fun i h ⟨⟨old,he⟩,hi⟩ c hc=>by
  simp only[List.mem_cons,List.not_mem_nil,or_false]at hc
  rcases hc with rfl|rfl
  ·exact⟨_,he,fun v q=>by cases q⟩
  ·cases t with
   | true=>obtain⟨o,ho,_,hd⟩:=hi;exact⟨o,ho,fun v q=>by rw[hd]at q;cases q⟩
   | false=>obtain⟨o,ho,_,hd⟩:=hi;exact⟨o,ho,fun v q=>by rw[hd]at q;cases q⟩
 keep:=fun i h h' ⟨⟨old,he⟩,hi⟩ hk=>⟨⟨old,hk e (by simp) _ he⟩,hi.ext fun o q=>hk it (by simp) o q⟩
 item:=by
  intro X hP hw hK hc i pins s σ H E I hf ⟨⟨old,he⟩,hi⟩ hg
  subst hP hw hK
  obtain⟨xs,x,q1,ex⟩:=hg
  obtain⟨us,r1,p1,lt1⟩:=i5 I q1
  obtain⟨ux,eux,rx⟩:=r1.get ex
  have hlt:i < us.toArray.size:=by rw[List.size_toArray];exact(List.getElem?_eq_some_iff.mp eux).1
  refine wpAny_pyNext_enum_itemD (bj7 (A:=X.A.in1) (I.ok.hd hc) t it a h3 us.toArray) he ⟨hi,p1⟩ hlt h1 (by simp only[List.mem_cons,List.not_mem_nil,or_false,not_or];exact⟨h1,fun z=>h2 z.symm⟩) fun y h' tk hy ho hst hT hsz hk=>⟨_,rfl,wpAny_letOwnedTupleGo_enum ho fun h'' c1 c2=>?_⟩
  have ey:y=ux:=by
   have:us[i]? = some y:=by simpa using hy
   rw[eux]at this
   exact(Option.some.inj this).symm
  subst ey
  have neT:∀c o,s.heap.get? c=some o->c≠s.heap.objs.size:=fun c o q=>Nat.ne_of_lt (Heap.lt_size q)
  have up:∀c o,c≠e->h'.get? c=some o->h''.get? c=some o:=fun c o n q=>c2.extBut c o n q
  refine⟨.ref s.heap.objs.size,upd H s.heap.objs.size (.tup [.int i,x]),ac6 (s:=s) (h':=h'') (t':=tk+1) (ch:=[e,it]) I hf (Nat.le_refl _) (fun c u hc q=>?_) ?_,rfl,⟨_,x,rfl,I.hok.fresh (Nat.le_refl _),rfl,fun zs hz'=>by rw[aU3 I hz' q1];exact ex⟩,⟨⟨_,by simpa using c1⟩,hst.1.ext fun o q=>up it o h1.symm q⟩,fun c hc=>?_⟩
  ·simp only[List.mem_cons,List.not_mem_nil,or_false,not_or]at hc
   exact up c u hc.1 (hk c u hc.1 hc.2 q)
  ·refine⟨by show 2<=sizeLine;decide,[.int i tk,y],.cons ⟨tk,rfl⟩ (.cons rx .nil),_,up _ _ ?_ hT,rfl,⟨_,rfl⟩,rfl⟩
   exact fun q=>neT e _ he q.symm
  ·have lt:c < s.heap.objs.size:=by
    simp only[List.mem_cons,List.not_mem_nil,or_false]at hc
    rcases hc with rfl|rfl
    ·exact Heap.lt_size he
    ·exact hi.lt
   rw[D0 (Nat.ne_of_lt lt)]
   exact(hf c hc).1
 done:=by
  intro X hP hw hK hc i pins s σ H E I hf ⟨⟨old,he⟩,hi⟩ hg
  subst hP hw hK
  obtain⟨xs,q1,hl⟩:=hg
  obtain⟨us,r1,p1,lt1⟩:=i5 I q1
  have l1:=r1.length
  refine bj6 (I.ok.hd hc) he hi p1 (by simp;omega) fun h' hk=>⟨rfl,ax2 (t':=s.toks) (ch:=[e,it]) I hf fun c u hc q=>?_⟩
  simp only[List.mem_cons,List.not_mem_nil,or_false,not_or]at hc
  exact hk c u hc.2 q
 self:=fun _ _ _ _ _ st h=>by
  obtain⟨⟨old,he⟩,_⟩:=st
  exact wpAny_pyIter_enum he h
section
variable {X:Cx}
def ar7(ds:List D):List D:=(List.range ds.length).zip ds |>.map fun(k,d)=>PyData.tuple [.int (k:Nat),d]
def aP8(f:Rho->Option (Bool×List D)):Rho->Option (List D):=fun ρ=>(f ρ).map fun q=>ar7 q.2
theorem am8(ds:List D) (i:Nat):(ar7 ds)[i]? = (ds[i]?).map fun d=>.tuple [.int i,d]:=by
 unfold ar7
 rw[List.getElem?_map]
 cases e:ds[i]? with
 | none =>
  have:ds.length<=i:=by simpa using e
  have z:((List.range ds.length).zip ds)[i]? = none:=by simp;omega
  rw[z];rfl
 | some d =>
  have hi:=(List.getElem?_eq_some_iff.mp e).1
  have z:((List.range ds.length).zip ds)[i]? = some (i,d):=List.getElem?_zip_eq_some.mpr ⟨by simp[hi],e⟩
  rw[z];rfl
theorem aQ2(ds:List D):(ar7 ds).length=ds.length:=by unfold ar7;simp
theorem aM3{K:PySem.W.Frag}{t:Bool}{a:Addr}{vs:List V}{ds:List D}{Hf1:Hp}(h1:Sq K t Hf1 a vs) (r1:Reps K Hf1 ds vs):aL6 K (Ite K t a) (ar7 ds) Hf1:=by
 have mono:∀{t:Bool}{a:Addr}{xs:List V}{H H':Hp},G1 H H'->Sq K t H a xs->Sq K t H' a xs:=fun{t a xs H H'} e h=>by
  cases t with
  | true=>exact E3 e h
  | false=>exact M3 e h
 intro i H Hf sa sb
 have m1:=mono (sa.trans sb) h1
 have l1:=r1.length
 refine⟨fun hi=>⟨vs,m1,by rw[aQ2]at hi;omega⟩,fun d hd=>?_⟩
 rw[am8]at hd
 obtain⟨x,q1,q2⟩:=xmo hd
 subst q2
 obtain⟨vx,e1,e2⟩:=r1.get q1
 refine⟨⟨vs,vx,m1,e1⟩,fun v H' ⟨T,x',z1,z2,z3,z4⟩=>?_⟩
 subst z1 z3
 have w1:=z4 vs m1
 rw[e1]at w1
 cases w1
 have nf:Hf T=none:=sb.free z2
 exact⟨upd Hf T (.tup [.int i,vx]),Grow.laid sb z2,T,[.int i,vx],rfl,SqT.of C5,.int i,[vx],rfl,rfl,vx,[],rfl,(e2.mono sa).mono (G0 nf),rfl⟩
theorem bK2{elts:List Expr}{k0:Nat}{tpos:Pos}{a:Expr}{f:DE}{p pos:Pos}(hg:Gl X "enumerate") (hm:X.mg "enumerate" = none) (ha:JE X a f) (hs:starEach [a] X.env=[(false,eval a X.env)]:=by rfl) :
  JI X (.Tuple elts k0 tpos) (.Call (.Name "enumerate" p) [a] [] pos) (aP8 (qE f)):=fun ρ out q=>by
 obtain⟨⟨t1,ds⟩,e1,q⟩:=xmo q
 subst q
 obtain⟨d1,e1,e1'⟩:=xbo e1
 intro pins s σ H R I ⟨H0,Hf,ss,sl,k⟩
 refine Call_ (ap2 I hg hm rfl (PyProof.Rows.callWith_type1 (thn (L4 (ha ρ d1 e1) R6 (by rw[hs];rfl) pos pins s σ H
  (fun vs H'=>∃v Hf',vs=[v]/\Grow H Hf H' Hf'/\Rep X.K Hf' d1 v) I ⟨H0,Hf,ss,sl,fun v H1 Hf1 g1 r1=>⟨v,Hf1,rfl,g1,r1⟩⟩) fun us s1 ⟨vs,H1,I1,r1,v,Hf1,ev,gr,p1⟩=>?_) (by rw[hs];rfl) (by rfl)))
 subst ev
 obtain⟨uv,rfl,rv⟩:=r1.one
 obtain⟨a1,vs1,rfl,w1,w2⟩:=p1.seq (G1.refl Hf1) e1'
 cases rv
 have mono:∀{t:Bool}{a:Addr}{xs:List V}{H H':Hp},G1 H H'->Sq X.K t H a xs->Sq X.K t H' a xs:=fun{t a xs H H'} e h=>by
  cases t with
  | true=>exact E3 e h
  | false=>exact M3 e h
 obtain⟨us1,rr1,hp1,lt1⟩:=i5 I1 (mono gr.sub w1)
 refine aU8 hp1 fun h' b1 b2 b3=>?_
 have I2:Inv X pins σ H1 { s1 with heap:=h' }:=I1.kept (t':=s1.toks) b3
 refine wpAny_pyIter_enum b1 ⟨_,_,_,_,H1,rfl,I2,bg5 (e:=s1.heap.objs.size+1) (it:=s1.heap.objs.size) (a:=a1) (Nat.succ_ne_self _) (Nat.ne_of_lt (Nat.lt_succ_of_lt lt1)) (Nat.ne_of_lt lt1),⟨⟨_,b1⟩,b2⟩,fun b hb=>?_,k _ H1 Hf1 gr (aM3 w1 w2)⟩
 have hb':s1.heap.objs.size<=b:=by
  simp only[List.mem_cons,List.not_mem_nil,or_false]at hb
  rcases hb with rfl|rfl
  ·exact Nat.le_add_right _ _
  ·exact Nat.le_refl _
 exact I1.fpOk hb' (I1.hok.fresh hb')
end
section
variable {prog:Program}{w:World}{A:Around}{E:Value->Shared->Prop}{s:Shared}
theorem av6{l b sl:Addr}{items new:Array Value}{n n2:Nat}{vl vu:Value}{lo hi:Option Int}{Q:Unit->Shared->Prop}
    (e:s.heap.get? l=some { cls:=.type "list", data:=.seq items n }) (e2:s.heap.get? b=some { cls:=.type "list", data:=.seq new n2 }) (hne:l≠b)
    (hs:s.heap.IsSliceOf sl vl vu .none) (pl:IsPart vl lo) (pu:IsPart vu hi) (hsz:items.size+new.size<=sizeLine)
    (h:Q () { s with heap:=s.heap.update l (Obj.mapSeq fun xs=>xs.extract 0 (HT.sIx items.size 0 lo)++new++xs.extract (max (HT.sIx items.size 0 lo) (HT.sIx items.size items.size hi)) xs.size) }) :
    wpAny (model prog w) A (setItem (.ref l) (.ref sl) (.ref b)) Q E s:=by
  have hl:s.heap.IsList l items:=PySem.IsL.isList e
  have hb:s.heap.IsList b new:=PySem.IsL.isList e2
  obtain⟨os,hos,hcs,hds⟩:=id hs
  have hTs:s.TypeIs (.ref sl) "slice" := ⟨os,hos,hcs⟩
  have hstep:¬((rawPart none==rawInt 0)=true):=Bool.false_ne_true
  have hsame:Builtin.List.listSameRef (.ref l) (.ref b)=false:=by
    unfold Builtin.List.listSameRef
    exact beq_eq_false_iff_ne.mpr hne
  have hbd:sliceBounds lo hi none items.size=(((HT.sIx items.size 0 lo:Nat):Int),((HT.sIx items.size items.size hi:Nat):Int),1):=by
    obtain⟨h1,h2,h3⟩:=ak7 lo hi items.size
    exact Prod.ext h1 (Prod.ext h2 h3)
  have hmax:(max ((HT.sIx items.size 0 lo:Nat):Int) ((HT.sIx items.size items.size hi:Nat):Int)).toNat=max (HT.sIx items.size 0 lo) (HT.sIx items.size items.size hi):=by omega
  have hz':((fun xs:Array Value=>xs.extract 0 (HT.sIx items.size 0 lo)++new++xs.extract (max (HT.sIx items.size 0 lo) (HT.sIx items.size items.size hi)) xs.size) items).size<=sizeLine+1:=by
    simp only[Array.size_append,Array.size_extract]
    omega
  unfold setItem
  try with_reducible refine wpAny_holding ?_
  first|refine wpAny_bind (wpAny_pure ?_)|skip
  refine wpAny_bind (wpAny_sequenceKey hl.typeIs (by decide) ?_)
  refine wpAny_bind (wpAny_callSpecial?_slot (name:=Str.ofString "__setitem__") hl.typeIs slot_list_setitem (wpAny_call_entry slot_list_setitem hl.typeIs entry_list_setitem ?_ (args_list_setitem _ _ _)))
  show wpAny _ _ (Builtin.List.listSubscript? (.ref sl) >>= _) _ _ s
  refine wpAny_bind ?_
  unfold Builtin.List.listSubscript?
  refine wpAny_bind (wpAny_specialOf hTs slice_no_index ?_)
  simp only[Option.isNone_none,if_true]
  refine wpAny_pure ?_
  show wpAny _ _ (typeOf (.ref sl) >>= _) _ _ s
  refine wpAny_bind (wpAny_typeOf hTs ?_)
  first
    | rw[if_neg (by decide)]
    | refine PySem.W.KFB.if_not (by decide) ?_
  rw[listSliceParts_eq]
  refine wpAny_bind (wpAny_bind (wpAny_field hos hds (x:=.none) rfl (wpAny_bind (wpAny_listPart .none ?_))))
  rw[if_neg hstep]
  refine wpAny_bind (wpAny_field hos hds (x:=vl) rfl (wpAny_bind (wpAny_listPart pl ?_)))
  refine wpAny_bind (wpAny_field hos hds (x:=vu) rfl (wpAny_bind (wpAny_listPart pu (wpAny_pure ?_))))
  first
    | simp only[hsame,xft,if_false]
    | refine PySem.W.KFB.if_not hsame ?_
    | (dsimp only
       rw[if_neg (by rw[hsame];exact Bool.false_ne_true)])
  refine wpAny_bind (m:=Builtin.List.listAllItems (.ref b) "must assign iterable to extended slice") ?_
  unfold Builtin.List.listAllItems
  refine wpAny_bind (wpAny_typeOf hb.typeIs ?_)
  first
    | refine PySem.W.KFB.if_so (by decide) ?_
    | rw[if_pos (by decide)]
    | simp only[beq_self_eq_true,Bool.true_or,if_true]
  unfold Builtin.List.listItems
  refine wpAny_bind (wpAny_seqItems e2 rfl (wpAny_pure ?_))
  refine wpAny_bind (wpAny_bind (wpAny_seqItems e rfl (wpAny_pure ?_)))
  refine wpAny_bind (wpAny_of_eq ((sliceIndices_raw lo hi none items.size (by simp)).trans (congrArg (pure:Int×Int×Int->Sem (Int×Int×Int)) hbd)) ?_)
  show wpAny _ _ (if((1:Int)==1)=true then _ else _) _ _ s
  rw[if_pos (by decide)]
  refine wpAny_bind (wpAny_rule ?_)
  first
    | simp only[ae3 hsz,xft,if_false]
    | refine PySem.W.KFB.if_not (ae3 hsz) ?_
  first|refine wpAny_bind (wpAny_pure ?_)|skip
  show wpAny _ _ (updateSeq l (fun xs=>xs.extract 0 (((HT.sIx items.size 0 lo:Nat):Int)).toNat++new++xs.extract (max ((HT.sIx items.size 0 lo:Nat):Int) ((HT.sIx items.size items.size hi:Nat):Int)).toNat xs.size) >>= _) _ _ s
  rw[hmax,Int.toNat_natCast]
  refine wpAny_bind (wpAny_updateSeq (hz:=Nat.le_trans (Nat.le_add_right _ _) hsz) (_hz':=hz') e rfl ?_)
  refine wpAny_bind (wpAny_letGo ?_)
  first
    | exact wpAny_bind (wpAny_pure (wpAny_pure ⟨.none,rfl,wpAny_pure h⟩))
    | exact wpAny_pure ⟨.none,rfl,wpAny_pure h⟩
end
section
variable {X:Cx}
def av3{α:Type}(xs:List α) (lo hi:Option Int) (ys:List α):List α:=xs.take (HT.sIx xs.length 0 lo)++ys++xs.drop (max (HT.sIx xs.length 0 lo) (HT.sIx xs.length xs.length hi))
theorem aU7{pins:List (Addr×Obj)}{s:Shared}{σ:L2.St}{H:Hp}{l b sl:Addr}{xs ys:List V}{lo hi:Option Int}{vl vu:Value}{Q:Unit->Shared->Prop}(I:Inv X pins σ H s)
  (hH:H l=some (.lst xs)) (hB:H b=some (.lst ys)) (hne:l≠b) (hs:s.heap.IsSliceOf sl vl vu .none) (pl:IsPart vl lo) (pu:IsPart vu hi)
  (hz:xs.length+ys.length<=sizeLine) (h:∀s',Inv X pins σ (upd H l (.lst (av3 xs lo hi ys))) s'->Q () s') :
  wpAny (model X.prog X.w) X.A (setItem (.ref l) (.ref sl) (.ref b)) Q X.xe s:=by
 obtain⟨z,its,n,r,hl,e⟩:=I.lstM hH
 obtain⟨z2,its2,n2,r2,hl2,e2⟩:=I.lstM hB
 refine av6 e e2 hne hs pl pu (by rw[List.size_toArray,List.size_toArray];omega) (h _ ?_)
 have hz0:its.toArray.size=xs.length:=by rw[List.size_toArray];exact hl.symm
 refine I.lset (its':=its.take (HT.sIx xs.length 0 lo)++its2++its.drop (max (HT.sIx xs.length 0 lo) (HT.sIx xs.length xs.length hi))) (t':=s.toks) hH e ?_ (K1.append (K1.append (r.take _) r2) (r.drop _)) ?_
 ·have e0:=bg9 its its2 (HT.sIx xs.length 0 lo) (max (HT.sIx xs.length 0 lo) (HT.sIx xs.length xs.length hi))
  rw[hz0]at e0 ⊢
  exact e0
 ·unfold av3
  rw[List.length_append,List.length_append,List.length_take,List.length_drop]
  omega
theorem br0{K:PySem.W.Frag}{H:Hp}{ds es:List D}{vs us:List V}(h:Reps K H ds vs) (g:Reps K H es us) (lo hi:Option Int):Reps K H (av3 ds lo hi es) (av3 vs lo hi us):=by
 unfold av3
 rw[h.length]
 exact((h.take _).append g).append (h.drop _)
theorem Slots.reOwn{K:PySem.W.Frag}{H0 H Hf:Hp}{ρ:Rho}{σ:L2.St}{i:Nat}{ds ds':List D}{b:Addr}{vs':List V}(sl:Slots K H0 ρ σ H Hf) (eo:ρ[i]? = some (some (.own ds))) (h1:σ[i]? = some (some (.ref b))) (hf:Hf b=none) (h0:H0 b=none) (r:Reps K Hf ds' vs') :
  Slots K H0 (ρ.set i (some (.own ds'))) σ (upd H b (.lst vs')) Hf:=by
 refine⟨by simpa using sl.len,fun j bb z=>?_,fun j k ds1 es c q1 q2 q3 q4=>?_⟩
 ·by_cases qj:i=j
  ·subst qj
   have hi:i < ρ.length:=(List.getElem?_eq_some_iff.mp eo).1
   rw[List.getElem?_set_self hi]at z
   cases z
   exact⟨_,h1,b,vs',rfl,C5,hf,h0,r⟩
  ·rw[List.getElem?_set_ne qj]at z
   obtain⟨u,z1,z2⟩:=sl.is j bb z
   refine⟨u,z1,?_⟩
   cases bb with
   | val d=>exact z2
   | exc C=>exact z2
   | own dd =>
    obtain⟨a',us',y1,y2,y3,y4,y5⟩:=z2
    have ne:a'≠b:=fun zz=>by
     subst zz y1
     exact qj (sl.apart i j ds dd a' eo z h1 z1)
    exact⟨a',us',y1,by rw[D0 ne];exact y2,y3,y4,y5⟩
 ·have f:∀(j:Nat) (es:List D),(ρ.set i (some (B.own ds')))[j]? = some (some (B.own es))->∃dd:List D,ρ[j]? = some (some (B.own dd)):=fun j es q=>by
   by_cases qj:i=j
   ·subst qj;exact⟨ds,eo⟩
   ·rw[List.getElem?_set_ne qj]at q;exact⟨_,q⟩
  obtain⟨d1,q1'⟩:=f j _ q1
  obtain⟨d2,q2'⟩:=f k _ q2
  exact sl.apart j k d1 d2 c q1' q2' q3 q4
def bq7(i:Nat) (lo hi:Rho->Option (Option Int)) (f:Rho->Option (List D)):DS:=fun ρ=>(f ρ).bind fun es=>(lo ρ).bind fun l=>(hi ρ).bind fun h=>match ρ[i]? with
 | some (some (.own ds))=>if ds.length+es.length<=16777216 then some (.nx (ρ.set i (some (.own (av3 ds l h es))))) else none
 | _=>none
theorem bY0(i:Nat) {x:Str}{e:Expr}{lo hi:Option Expr}{f:Rho->Option (List D)}{l h:Rho->Option (Option Int)}{p p2 pos' pos:Pos}(he:JN X e f) (hl:JO X lo l) (hh:JO X hi h) (hN:X.N[i]? = some x:=by rfl)
  (hv:Vis X.env.scope x:=by first|exact Or.inl rfl|exact Or.inr (Or.inl rfl)|exact Or.inr (Or.inr rfl)) (hd:(x==("__debug__" : Str))=false:=by decide) (hcd:(x==("__classdict__" : Str))=false:=by decide)
  (hsw:swapsWith e (some (.Subscript (.Name x p) (.Slice lo hi none p2) pos')) pos.line X.env=pure false:=by rfl):JS X (.Assign [.Subscript (.Name x p) (.Slice lo hi none p2) pos'] e pos) (bq7 i l h f):=fun ρ fl q H0 Hf0=>by
 obtain⟨es,e1,q⟩:=xbo q
 obtain⟨y,e2,q⟩:=xbo q
 obtain⟨z,e3,q⟩:=xbo q
 split at q
 ·rename_i ds eo
  split at q
  ·rename_i hz
   cases q
   intro pins s σ H En I ⟨Hf,a,ee⟩
   refine wpAny_Assign_Subscript (thn (he ρ es e1 pins s σ H (fun v H'=>∃Hf',Grow H Hf H' Hf'/\∃b us,v=.ref b/\H b=none/\H' b=some (.lst us)/\Hf' b=none/\Reps X.K Hf' es us) I ⟨H0,Hf,a.gr.sub,a.sl,fun v H' Hf' g r=>⟨Hf',g,r⟩⟩) fun v s1 ⟨x1,H1,I1,r1,Hf1,g1,b,us,ev,b1,b2,b3,b4⟩=>?_) hsw
   subst ev
   cases r1
   obtain⟨vl0,h1,c,vs,ev,h2,h3,h4,h5⟩:=a.sl.is i _ eo
   subst ev
   refine thn (ai4 hN hv hd hcd pins s1 σ H1 (fun v H'=>v=.ref c/\H'=H1) I1 ⟨_,h1,rfl,rfl⟩) fun ov s2 ⟨x2,H2,I2,r2,ex,eH⟩=>?_
   subst ex eH
   cases r2
   have sl1:=a.sl.grow g1
   refine wpAny_Slice (thn (hl ρ y e2 pins s2 σ H2 (fun o H'=>o=y/\∃Hf',Grow H2 Hf1 H' Hf') I2 ⟨H0,Hf1,g1.sub,sl1,fun H' Hf' g=>⟨rfl,Hf',g⟩⟩) fun wl s3 ⟨o3,H3,I3,pl,eo3,Hf3,g3⟩=>?_)
   subst eo3
   have sl3:=sl1.grow g3
   refine thn (hh ρ z e3 pins s3 σ H3 (fun o H'=>o=z/\∃Hf',Grow H3 Hf3 H' Hf') I3 ⟨H0,Hf3,g3.sub,sl3,fun H' Hf' g=>⟨rfl,Hf',g⟩⟩) fun wu s4 ⟨o4,H4,I4,pu,eo4,Hf4,g4⟩=>?_
   subst eo4
   have sl4:=sl3.grow g4
   have gg:Grow H Hf H4 Hf4:=(g1.trans g3).trans g4
   rw[evalPart_none]
   refine wpAny_pure ?_
   have I5:Inv X pins σ H4 { s4 with heap:=s4.heap.push { cls:=.type "slice", data:=.fields #[wl,wu,.none] } }:=I4.kept (t':=s4.toks) fun b ob q=>Heap.get?_push_of_some _ q
   have hc:H4 c=some (.lst vs):=gg.big _ _ h2
   have hb:H4 b=some (.lst us):=(g3.trans g4).big _ _ b2
   have hcb:c≠b:=fun zz=>by subst zz;rw[h2]at b1;cases b1
   have hfc:Hf4 c=none:=gg.nofr h2 h3
   have rd:Reps X.K Hf4 (av3 ds o3 o4 es) (av3 vs o3 o4 us):=br0 (h5.mono gg.ext) (b4.mono (g3.trans g4).ext) _ _
   refine aU7 I5 hc hb hcb (Heap.IsSliceOf.new ..) pl pu (by rw[h5.length,b4.length,sizeLine_eq];exact hz) fun s' I'=>?_
   have ga:=a.gr.trans gg
   refine⟨σ,_,I',ee σ _ Hf4 ⟨⟨fun d u zz=>?_,fun d u zz=>?_,ga.ext,ga.new⟩,sl4.reOwn eo h1 hfc h4 rd⟩ gg.ext⟩
   ·rw[D0 (D2 zz h4)];exact ga.big d u zz
   ·rw[D0 (D2 zz hfc)];exact ga.sub d u zz
  ·cases q
 ·cases q
theorem bJ2(i:Nat) {N':List Str}{n:Nat}{caps:List Nat}{scope:Scope}{elt tgt iter:Expr}{ifs:List Expr}{pos pos' spos:Pos}{x:Str}{src:Rho->Option (List D)}{g:D->Rho->Option Rho}{c:Rho->Option Bool}{e:DE}(hN:X.N.Nodup) (S:CompSc X N' n caps scope) (hx:∀e s,X.xe e s->False)
  (hi:JI X tgt iter src) (hg:∀C s0 H0 ex,JG (K9 X N' scope C s0 H0 ex) tgt g) (ht:∀C s0 H0 ex,JTs (K9 X N' scope C s0 H0 ex) ifs c) (he:∀C s0 H0 ex,JE (K9 X N' scope C s0 H0 ex) elt e)
  (hi2:X.N[i]? = some x:=by rfl) (hl:X.env.scope.names.lookup x=some .local:=by rfl) (hsw:swapsWith (.ListComp elt [⟨tgt,iter,ifs,0⟩] scope pos) (some (.Name x pos')) spos.line X.env=pure true:=by rfl)
  (hc:X.calm=true:=by rfl) (hs:∀x,foldedSetIterable iter X.env x=pure x:=by intro _;rfl):JS X (.Assign [.Name x pos'] (.ListComp elt [⟨tgt,iter,ifs,0⟩] scope pos) spos) (ao3 i (C2 n caps src g c e)):=fun ρ fl q H0 Hf0=>by
 obtain⟨out,e1,e2⟩:=xmo q
 subst e2
 obtain⟨ds,e3,k⟩:=aj6 (K:=X.K) e1
 refine T6 (aw0 S hx hc hN hi2 hl (hi ρ ds e3) (g:=tgJ X.K g) (tc:=aC8 X.K c) (te:=ba6 X.K e) hg ht (fun C s0 H0 ex pins s σ H Q I ⟨ρ,d,e,t⟩=>he C s0 H0 ex ρ d e pins s σ H Q I t) hsw hs) fun En σ H ⟨Hf,a,ee⟩=>k σ H _ ⟨H0,Hf,a.gr.sub,a.sl,fun v H' Hf' gg ⟨p,vs,z1,z2,z3,z4,z5⟩=>?_⟩
 subst z1
 exact ee _ H' Hf' ⟨a.gr.trans gg,a.sl.setOwn gg (a.gr.big.free z2) z2 z3 z4 z5⟩ gg.ext
def bN7:DS:=fun ρ=>some (.ct ρ)
theorem bJ3{pos:Pos}:JS X (.Continue pos) bN7:=fun ρ fl q H0 Hf0=>by
 cases q
 exact T6 aN6 fun En σ H ⟨Hf,a,e⟩=>e σ H Hf a (G1.refl _)
end
section
variable {X:Cx}
def as5(x:Str) (k:Int):Str:=if(k==1 || x.length==0)=true then x else⟨(List.replicate k.toNat x.cps).foldl (·++·) #[]⟩
def bi5(x y:D):Option D:=match x,y with
 | .str x,.int k=>if 1<=k/\k<=2/\x.length<=1000/\(as5 x k).length<=16777216 then some (.str (as5 x k)) else none
 | _,_=>none
theorem bH3:OpD X (binaryOp .Mult) bi5:=fun x y z h=>by
 unfold bi5 at h
 split at h
 ·split at h
  ·rename_i x k c
   cases h
   intro pins s σ H vx vy v u Q I rx ry ⟨Hf,ss,r1,r2,kk⟩
   cases r1
   cases r2
   obtain⟨t,rfl⟩:=rx
   obtain⟨t2,rfl⟩:=ry
   have w:=kk (.str (as5 x k)) H Hf (Grow.refl ss) rfl
   have k12:k=1\/k=2:=by omega
   refine P.mul_str (by rw[decide_eq_false (by omega),decide_eq_false (by omega)];rfl) (fun _ _=>by rcases k12 with rfl|rfl<;>omega) (fun _ _=>?_) ?_
   ·unfold Builtin.Str.tooLong
    rw[sizeLine_eq]
    refine decide_eq_false ?_
    rcases k12 with rfl|rfl<;>simp<;>omega
   ·rw[if_neg (by omega)]
    unfold as5 at w c
    split
    ·rename_i e
     rw[if_pos e]at w
     exact⟨.str x,H,I,⟨_,rfl⟩,w⟩
    ·rename_i e
     rw[if_neg e]at w c
     exact⟨by rw[sizeLine_eq];exact c.2.2.2,.str _,H,I.tok _,⟨_,rfl⟩,w⟩
  ·cases h
 ·cases h
def slS(x:Str) (lo hi:Option Int):Str:=if((1:Int)==1&&(Builtin.Str.strSliceIndices lo hi 1 x.length).length==x.length)=true then x else⟨((Builtin.Str.strSliceIndices lo hi 1 x.length).filterMap (x.cps[·]?)).toArray⟩
def bm1(f:DE) (lo hi:Rho->Option (Option Int)):DE:=fun ρ=>(f ρ).bind fun d=>(lo ρ).bind fun l=>(hi ρ).bind fun h=>match d with
 | .str x=>if x.length<=1000/\(slS x l h).length<=16777216 then some (.str (slS x l h)) else none
 | _=>none
theorem bc3{u:Value}{o:Option Int}(h:IsPart u o):∃p:Option (Int×Tok),u=partValue p/\p.map (·.1)=o:=by
 cases h with
 | none=>exact⟨none,rfl,rfl⟩
 | int i t=>exact⟨some (i,t),rfl,rfl⟩
theorem bE2:SlR X (fun x lo hi H Q=>∃z,x=.str z/\(slS z lo hi).length<=16777216/\Q (.str (slS z lo hi)) H):=by
 intro pins s σ H x v vl vu lo hi sl Q I rx hs pl pu h
 obtain⟨z,rfl,hz,q⟩:=h
 obtain⟨t,rfl⟩:=rx
 obtain⟨pl',rfl,rfl⟩:=bc3 pl
 obtain⟨pu',rfl,rfl⟩:=bc3 pu
 refine⟨"str", _,F.slot_str_getitem.lookup,typeIs_str s z t,wpAny_getItem_str_slice (l:=pl') (u:=pu') (st:=none) hs rfl ?_⟩
 show(if((1:Int)==1&&(Builtin.Str.strSliceIndices (pl'.map (·.1)) (pu'.map (·.1)) 1 z.length).length==z.length)=true then Made.val (.str z t) else Made.str ⟨((Builtin.Str.strSliceIndices (pl'.map (·.1)) (pu'.map (·.1)) 1 z.length).filterMap (z.cps[·]?)).toArray⟩).post _ _
 unfold slS at q hz
 by_cases e:((1:Int)==1&&(Builtin.Str.strSliceIndices (pl'.map (·.1)) (pu'.map (·.1)) 1 z.length).length==z.length)=true
 ·rw[if_pos e]at q ⊢
  exact⟨.str z,H,I,⟨_,rfl⟩,q⟩
 ·rw[if_neg e]at q hz ⊢
  exact⟨by rw[sizeLine_eq];exact hz,.str _,H,I.tok _,⟨_,rfl⟩,q⟩
theorem ca1{a:Expr}{lo hi:Option Expr}{f:DE}{l h:Rho->Option (Option Int)}{pos p2:Pos}(ha:JE X a f) (hl:JO X lo l) (hh:JO X hi h):JE X (.Subscript a (.Slice lo hi none p2) pos) (bm1 f l h):=fun ρ d q=>by
 obtain⟨x,e1,q⟩:=xbo q
 obtain⟨y,e2,q⟩:=xbo q
 obtain⟨z,e3,q⟩:=xbo q
 cases x with
 | str x =>
  simp only at q
  split at q
  ·rename_i c
   cases q
   refine C6 (al5 bE2 (ha ρ _ e1) (hl ρ y e2) (hh ρ z e3)) fun σ H Q ⟨H0,Hf,s,sl,k⟩=>?_
   refine⟨H0,Hf,s,sl,fun v H1 Hf1 g1 r1=>⟨H0,Hf1,g1.sub,sl.grow g1,fun H2 Hf2 g2=>⟨H0,Hf2,g2.sub,sl.grow (g1.trans g2),fun H3 Hf3 g3=>?_⟩⟩⟩
   exact⟨x,r1,c.2,k _ H3 Hf3 ((g1.trans g2).trans g3) rfl⟩
  ·cases q
 | _=>cases q
def bh3(i:Nat) (f:DE):DS:=fun ρ=>match ρ[i]? with
 | some (some (.own ds))=>(f ρ).bind fun d=>match d with
  | .list es=>if ds.length+es.length<=16777216 then some (.nx (ρ.set i (some (.own (ds++es))))) else none
  | .tuple es=>if ds.length+es.length<=16777216 then some (.nx (ρ.set i (some (.own (ds++es))))) else none
  | _=>none
 | _=>none
end
end G
namespace Sh
open PySem PySem.Spec PyProof.Rows L2 G
def bn9:DS:=(A9 (dIx (A8 0) ⇑0))
def ag6:List D->Option D:=C3 bn9 1
def ba1:DS:=(A9 (A5 eqD (A2 ag6 (A0 (A1 0) A3)) (dC (.str "layer"))))
def W2:List D->Option D:=C3 ba1 1
def bo0:DS:=(A9 (A5 eqD (A2 ag6 (A0 (A1 0) A3)) (dC (.str "tone"))))
def T4:List D->Option D:=C3 bo0 1
def aT1:DS:=(A9 (dIx (A8 0) ⇑2))
def D1:List D->Option D:=C3 aT1 1
def bn5:DS:=(A9 (dIx (A8 0) ⇑2))
def j7:List D->Option D:=C3 bn5 1
def aC4:DS:=(A9 (dIx (A8 0) ⇑3))
def M7:List D->Option D:=C3 aC4 1
def ba0:DS:=(A9 (dIx (A8 0) ⇑4))
def M2:List D->Option D:=C3 ba0 1
def bn8:DS:=(A9 (dIx (A8 0) ⇑5))
def x8:List D->Option D:=C3 bn8 1
def bC2:DS:=(A9 (dIx (A8 0) ⇑6))
def af3:List D->Option D:=C3 bC2 1
def bn7:DS:=(A9 (dIx (A8 0) ⇑7))
def x6:List D->Option D:=C3 bn7 1
def aZ7:DS:=(A9 (dIx (A8 0) ⇑8))
def X5:List D->Option D:=C3 aZ7 1
def aC6:DS:=(A9 (dIx (A8 0) ⇑5))
def C7:List D->Option D:=C3 aC6 1
def Y1:DS:=(B0 (B2 3 (A2 X5 (A0 (A1 0) A3))) (B0 (B2 4 (A2 x6 (A0 (A1 0) A3))) (B0 (B2 5 (A2 aq8 (A0 (A1 3) (A0 (A1 1) (A0 (A1 2) A3))))) (B0 (sIf (Q5 (tB2 isB (A1 4) (dC .none)) (F8 (K4 (A2 Y9 (A0 (A1 3) (A0 (A1 1) (A0 (A1 2) A3))))))) (A9 (A1 5)) C9) (A9 (A2 ac1 (A0 (A1 5) (A0 (dIx (A8 4) (A2 R5 (A0 (A1 3) (A0 (A1 1) (A0 (A1 2) A3))))) A3))))))))
def u6:List D->Option D:=C3 Y1 6
def w6(self:Nat->List D->Option D):DS:=(B0 (sIf (K4 (A2 W2 (A0 (A1 0) A3))) (B2 3 (A2 u6 (A0 (A1 0) (A0 (A5 aa2 (A1 1) (A2 x8 (A0 (A1 0) A3))) (A0 (A5 aa2 (A1 2) (A2 af3 (A0 (A1 0) A3))) A3))))) (B2 3 (A2 (self 2) (A0 (A2 C7 (A0 (A1 0) A3)) (A0 (A1 1) (A0 (A1 2) A3)))))) (A9 (A2 ac1 (A0 (A1 3) (A0 (A2 M7 (A0 (A1 0) A3)) A3)))))
def M6(self:Nat->List D->Option D):DS:=(B0 (sIf (F8 (K4 (A2 M2 (A0 (A1 0) A3)))) (A9 (A1 1)) C9) (B0 (sIf (K4 (A2 T4 (A0 (A1 0) A3))) (A9 (A2 au6 (A0 (A2 j7 (A0 (A1 0) A3)) (A0 (A1 1) (A0 (A2 M7 (A0 (A1 0) A3)) A3))))) C9) (A9 (A2 Y0 (A0 (A2 D1 (A0 (A1 0) A3)) (A0 (A2 (self 0) (A0 (A1 0) (A0 (A1 2) (A0 (A1 3) A3)))) (A0 (A1 1) A3)))))))
def m7(self:Nat->List D->Option D):DS:=(B0 (B2 3 (dC (.tuple [(.tuple [(.int 0),(.int 1)]),(.tuple [(.int 0),(.int 1)]),(.tuple [(.int 0),(.int 1)]),(.tuple [(.int 0),(.int 1)])]))) (B0 (i6 (Q6 (A1 0)) (B7 4) (B2 3 (A2 (self 1) (A0 (A1 4) (A0 (A1 3) (A0 (A1 1) (A0 (A1 2) A3))))))) (A9 (A1 3))))
def X2:Nat->Nat->List D->Option D
 | 0=>fun _ _=>none
 | k+1=>fun i=>match i with
  | 0=>C3 (w6 (X2 k)) 4
  | 1=>C3 (M6 (X2 k)) 4
  | 2=>C3 (m7 (X2 k)) 5
  | _=>fun _=>none
def j9(k:Nat):List D->Option D:=X2 k 0
def ai1(k:Nat):List D->Option D:=X2 k 1
def m9(k:Nat):List D->Option D:=X2 k 2
def aG7:DS:=(A9 (A2 (m9 12) (A0 (dIx (A8 0) ⇑2) (A0 (A1 1) (A0 (A1 2) A3)))))
def ag8:List D->Option D:=C3 aG7 3
def bC3:DS:=(B0 (U9 1 (C2 2 [0] (Q6 (A2 W5 (A0 (dIx (A8 0) ⇑0) (A0 (dIx (A8 0) ⇑1) A3)))) (Q7 2 (C4 (B7 0) (C4 (B7 1) R3))) E4 (A2 ag8 (A0 (A1 2) (A0 (A1 0) (A0 (A1 1) A3)))))) (A9 (O1 (A0 (dIx (A8 0) ⇑0) (A0 (dIx (A8 0) ⇑1) (A0 (P3 (A8 1)) A3))))))
def af6:List D->Option D:=C3 bC3 2
def aG2:DS:=(B0 (B2 3 (A5 eqD (A2 A7 (A0 (A1 0) (A0 (A1 1) (A0 ⇑2 A3)))) ⇑0)) (B0 (ao3 4 A3) (B0 (i6 (N3 (A1 2)) (B7 5) (B0 (B2 6 (ax9 (dC (.str "")) (qN (C2 1 [0,1,5] (N3 ⇑2) (B7 0) E4 (aj4 (dC (.str "abcdefghijklmnopqrstuvwxyz")) (A2 A7 (A0 (A1 1) (A0 (A5 B1 (A5 B1 (A5 B1 (A1 2) ⇑1) (A5 K7 ⇑3 (A1 3))) (A1 0)) (A0 ⇑26 A3))))))))) (B0 (B2 6 (A5 bi5 (bm1 (A1 6) S0 (M5 (A2 A7 (A0 (A1 0) (A0 (A5 B1 (A5 B1 (A1 1) ⇑3) (A5 K7 ⇑3 (A1 5))) (A0 ⇑3 A3)))))) (dIx (qN (A0 ⇑1 (A0 ⇑2 A3))) (A2 A7 (A0 (A1 0) (A0 (A5 B1 (A5 B1 (A1 1) ⇑2) (A5 K7 ⇑3 (A1 5))) (A0 ⇑2 A3))))))) (az9 4 (dIx (qN (A0 (A5 B1 (A1 6) (aj4 (dC (.str "abcdefghijklmn")) (A1 5))) (A0 (A5 B1 (aj4 (dC (.str "abcdefghijklmn")) (A1 5)) (A1 6)) A3))) (aj5 (A1 3))))))) (aN3 4 (A9 (A1 4))))))
def y6:List D->Option D:=C3 aG2 7
def ad9:DS:=(B2 4 (A2 Q9 (A0 (A1 0) (A0 (A1 1) A3))))
def ad8:DS:=(B2 5 (A5 gtI (A2 A7 (A0 (A1 0) (A0 (A5 B1 (A1 1) ⇑3) (A0 ⇑6 A3)))) ⇑0))
def Y4:DS:=(sIf (tB2 eqD (A2 A7 (A0 (A1 0) (A0 (A5 B1 (A1 1) ⇑4) (A0 ⇑6 A3)))) ⇑0) (A9 (O1 (A0 (dC (.str "tone")) (A0 (A1 2) (A0 (dIx (qN (A0 (dC (.str "turn")) (A0 (dC (.str "grey")) (A0 (dC (.str "round")) A3)))) (A2 A7 (A0 (A1 0) (A0 (A5 B1 (A1 1) ⇑5) (A0 ⇑3 A3))))) (A0 (A1 4) (A0 (A1 5) A3))))))) C9)
def ad7:DS:=(B2 6 (dIx (qN (A0 (dC (.str "over")) (A0 (dC (.str "multiply")) (A0 (dC (.str "screen")) (A0 (dC (.str "plus")) (A0 (dC (.str "atop")) (A0 (dC (.str "cut")) A3))))))) (A2 A7 (A0 (A1 0) (A0 (A5 B1 (A1 1) ⇑5) (A0 ⇑6 A3))))))
def o8:DS:=(sIf (tB2 gtI (A2 A7 (A0 (A1 0) (A0 (A5 B1 (A1 1) ⇑6) (A0 ⇑3 A3)))) ⇑0) (B2 6 (A1 3)) C9)
def ad6:DS:=(B2 7 (A5 B1 ⇑1 (A2 A7 (A0 (A1 0) (A0 (A5 B1 (A1 1) ⇑7) (A0 ⇑3 A3))))))
def ad5:DS:=(B2 8 (A5 B1 ⇑1 (A2 A7 (A0 (A1 0) (A0 (A5 B1 (A1 1) ⇑8) (A0 ⇑3 A3))))))
def ad4:DS:=(B2 9 (dC .none))
def o7:DS:=(sIf (tB2 eqD (A2 A7 (A0 (A1 0) (A0 (A5 B1 (A1 1) ⇑9) (A0 ⇑3 A3)))) ⇑0) (B2 9 (P3 (qN (C2 1 [0,1] (N3 (A5 K7 (A1 7) (A1 8))) (B7 0) E4 (A2 Q9 (A0 (A1 1) (A0 (A5 B1 (A5 B1 (A1 2) ⇑20) (A5 K7 ⇑3 (A1 0))) A3))))))) C9)
def ad3:DS:=(B2 10 (A5 aa2 (A2 A7 (A0 (A1 0) (A0 (A5 B1 (A1 1) ⇑10) (A0 ⇑4 A3)))) ⇑1))
def aa5:DS:=(B2 11 (A5 aa2 (A2 A7 (A0 (A1 0) (A0 (A5 B1 (A1 1) ⇑11) (A0 ⇑4 A3)))) ⇑1))
def h9:DS:=(sIf (tB2 eqD (A2 A7 (A0 (A1 0) (A0 (A5 B1 (A1 1) ⇑12) (A0 ⇑3 A3)))) ⇑0) (al0 (O1 (A0 ⇑3 (A0 ⇑3 (A0 ⇑0 (A0 ⇑0 (A0 (dC .none) A3)))))) (Q7 5 (C4 (B7 7) (C4 (B7 8) (C4 (B7 10) (C4 (B7 11) (C4 (B7 9) R3))))))) C9)
def aa4:DS:=(B2 12 (A2 ag5 (A0 (A1 0) (A0 (A5 B1 (A1 1) ⇑50) (A0 (A1 7) (A0 (A1 8) A3))))))
def aa3:DS:=(A9 (O1 (A0 (dC (.str "layer")) (A0 (A1 2) (A0 (A1 6) (A0 (A1 4) (A0 (A1 5) (A0 (A1 10) (A0 (A1 11) (A0 (A1 9) (A0 (A1 12) A3)))))))))))
def az2:DS:=(B0 ad9 (B0 ad8 (B0 Y4 (B0 ad7 (B0 o8 (B0 ad6 (B0 ad5 (B0 ad4 (B0 o7 (B0 ad3 (B0 aa5 (B0 h9 (B0 aa4 aa3)))))))))))))
def aa0:List D->Option D:=C3 az2 13
def aG1:DS:=(B0 (B2 4 (dIx (qN (A0 (dC (.str "over")) (A0 (dC (.str "multiply")) (A0 (dC (.str "screen")) (A0 (dC (.str "plus")) A3))))) (A2 A7 (A0 (A1 0) (A0 (A1 1) (A0 ⇑4 A3)))))) (B0 (B2 5 (A2 A7 (A0 (A1 0) (A0 (A5 B1 (A1 1) ⇑1) (A0 (A5 B1 (A1 2) ⇑1) A3))))) (B0 (ao3 6 (C2 1 [0,4,3,1] (N3 (A1 5)) (B7 0) E4 (A2 aa0 (A0 (A1 1) (A0 (A5 B1 (A5 B1 (A1 4) ⇑20) (A5 K7 ⇑170 (A1 0))) (A0 (dIx (A8 3) (A1 0)) (A0 (A1 2) A3))))))) (B0 (i6 (N3 (A2 A7 (A0 (A1 0) (A0 (A5 B1 (A1 1) ⇑2) (A0 ⇑3 A3))))) (B7 7) (B0 (B2 8 (A2 A7 (A0 (A1 0) (A0 (A5 B1 (A5 B1 (A1 1) ⇑3) (A5 K7 ⇑5 (A1 7))) (A0 (A5 B1 (R4 (A8 6)) ⇑1) A3))))) (B0 (B2 9 (A5 B1 (A1 8) (A2 A7 (A0 (A1 0) (A0 (A5 B1 (A5 B1 (A1 1) ⇑4) (A5 K7 ⇑5 (A1 7))) (A0 ⇑3 A3)))))) (B0 (B2 10 (dIx (qN (A0 (O1 (A0 ⇑1 (A0 ⇑1 A3))) (A0 (A2 Q9 (A0 (A1 0) (A0 (A5 B1 (A5 B1 (A1 1) ⇑5) (A5 K7 ⇑5 (A1 7))) A3))) A3))) (A2 A7 (A0 (A1 0) (A0 (A5 B1 (A5 B1 (A1 1) ⇑6) (A5 K7 ⇑5 (A1 7))) (A0 ⇑2 A3)))))) (B0 (B2 11 (dIx (qN (A0 (A1 4) (A0 (dC (.str "atop")) (A0 (A1 4) (A0 (dC (.str "cut")) A3))))) (A2 A7 (A0 (A1 0) (A0 (A5 B1 (A5 B1 (A1 1) ⇑7) (A5 K7 ⇑5 (A1 7))) (A0 ⇑4 A3)))))) (B0 (B2 12 (O1 (A0 (dC (.str "group")) (A0 (dIx (A8 3) (A5 B1 (A1 2) (A1 7))) (A0 (A1 11) (A0 (A1 10) (A0 (A5 gtI (A2 A7 (A0 (A1 0) (A0 (A5 B1 (A5 B1 (A1 1) ⇑14) (A1 7)) (A0 ⇑7 A3)))) ⇑0) A3))))))) (bq7 6 (M5 (A1 8)) (M5 (A1 9)) (A0 (A5 B1 (A1 12) (O1 (A0 (P3 (qE (bm3 (A8 6) (M5 (A1 8)) (M5 (A1 9))))) A3))) A3)))))))) (A9 (P3 (A8 6)))))))
def ar0:List D->Option D:=C3 aG1 13
def as0:DS:=(B0 (B2 4 (A5 B1 ⇑1 (A2 A7 (A0 (A1 0) (A0 (A1 1) (A0 ⇑3 A3)))))) (B0 (B2 5 (A5 B1 ⇑1 (A2 A7 (A0 (A1 0) (A0 (A5 B1 (A1 1) ⇑1) (A0 ⇑3 A3)))))) (A9 (O1 (A0 (A1 4) (A0 (A1 5) (A0 (A2 ar0 (A0 (A1 0) (A0 (A5 B1 (A1 1) ⇑2) (A0 (A1 2) (A0 (A1 3) A3))))) A3)))))))
def Y8:List D->Option D:=C3 as0 6
end Sh
namespace G
open PySem PySem.Spec PyProof.Rows L2
section
variable {X:Cx}
def ck1(f g:Rho->Option (Bool×List D)):Rho->Option (List D):=fun ρ=>(f ρ).bind fun p=>(g ρ).bind fun q=>if p.1=false/\q.1=false/\p.2.length+q.2.length<=16777216 then some (p.2++q.2) else none
theorem bZ4{a b:Expr}{f g:Rho->Option (Bool×List D)}{pos:Pos}(ha:JQ X a f) (hb:JQ X b g):JN X (.BinOp a .Add b pos) (ck1 f g):=fun ρ out q=>by
 obtain⟨⟨t1,xs⟩,e1,q⟩:=xbo q
 obtain⟨⟨t2,ys⟩,e2,q⟩:=xbo q
 split at q
 ·rename_i c
  obtain⟨c1,c2,c3⟩:=c
  simp only at c1 c2 c3
  subst c1 c2
  cases q
  refine C6 (bO2 bc4 (ha ρ _ _ e1) (hb ρ _ _ e2)) fun σ H Q ⟨H0,Hf,s,sl,k⟩=>?_
  refine⟨H0,Hf,s,sl,fun v H1 Hf1 g1 ⟨p,vs,z1,z2,z3⟩=>⟨H0,Hf1,g1.sub,sl.grow g1,fun u H2 Hf2 g2 ⟨p',us,z1',z2',z3'⟩=>?_⟩⟩
  subst z1 z1'
  refine⟨p,p',vs,us,rfl,rfl,M3 g2.big z2,z2',by rw[z3.length,z3'.length,sizeLine_eq];exact c3,fun n hn=>?_⟩
  exact k _ _ _ ((g1.trans g2).trans (Grow.made g2.sub hn)) ⟨n,vs++us,rfl,(g1.trans g2).big.free hn,C5,g2.sub.free hn,(z3.mono g2.ext).append z3'⟩
 ·cases q
end
end G
namespace Sh
open PySem PySem.Spec PyProof.Rows L2 G
def ba2:DS:=(A9 (A5 eqD (A2 ag6 (A0 (A1 0) A3)) (dC (.str "group"))))
def Q3:List D->Option D:=C3 ba2 1
def bn6:DS:=(A9 (dIx (A8 0) ⇑1))
def U6:List D->Option D:=C3 bn6 1
def aj9:DS:=(A9 (A5 B1 (aj3 (A1 0) S0 (M5 ⇑5)) (O1 (A0 (A1 1) A3))))
def W1:List D->Option D:=C3 aj9 2
def ay9:DS:=(B0 (i6 (aP8 (qE (A1 0))) (Q7 2 (C4 (B7 2) (C4 (B7 3) R3))) (sIf (tB2 eqD (A2 U6 (A0 (A1 3) A3)) (A1 1)) (A9 (A1 2)) C9)) (A9 (dC .none)))
def B6:List D->Option D:=C3 ay9 4
def P7(self:List D->Option D):DS:=(B0 (sIf (tB2 ao8 (A2 B6 (A0 (A1 0) (A0 (A1 1) A3))) (dC .none)) (A9 (A1 0)) C9) (B0 (i6 (Q6 (A1 0)) (B7 2) (sIf (K4 (A2 Q3 (A0 (A1 2) A3))) (B0 (B2 3 (A2 self (A0 (A2 C7 (A0 (A1 2) A3)) (A0 (A1 1) A3)))) (sIf (tB2 ao8 (A1 3) (dC .none)) (A9 (A1 3)) C9)) C9)) (A9 (dC .none))))
def L5:Nat->List D->Option D
 | 0=>fun _=>none
 | k+1=>C3 (P7 (L5 k)) 4
def af1:DS:=(B0 (B2 2 (A2 (L5 12) (A0 (dIx (A8 0) ⇑2) (A0 (A1 1) A3)))) (B0 (sIf (tB2 isB (A1 2) (dC .none)) C8 C9) (A9 (A1 2))))
def K2:List D->Option D:=C3 af1 3
def P4(self:Nat->List D->Option D):DS:=(B0 (sIf (tB2 ao8 (A2 B6 (A0 (A1 0) (A0 (A1 1) A3))) (dC .none)) (A9 (A1 2)) C9) (A9 (P3 (qN (C2 1 [1,2] (Q6 (A1 0)) (B7 0) E4 (A2 (self 1) (A0 (A1 0) (A0 (A1 1) (A0 (A1 2) A3)))))))))
def O2(self:Nat->List D->Option D):DS:=(B0 (sIf (F8 (K4 (A2 Q3 (A0 (A1 0) A3)))) (A9 (A1 0)) C9) (A9 (A2 W1 (A0 (A1 0) (A0 (A2 (self 0) (A0 (A2 C7 (A0 (A1 0) A3)) (A0 (A1 1) (A0 (A1 2) A3)))) A3)))))
def ai2:Nat->Nat->List D->Option D
 | 0=>fun _ _=>none
 | k+1=>fun i=>match i with
  | 0=>C3 (P4 (ai2 k)) 3
  | 1=>C3 (O2 (ai2 k)) 3
  | _=>fun _=>none
def N1(k:Nat):List D->Option D:=ai2 k 0
def O5(k:Nat):List D->Option D:=ai2 k 1
def Z9:DS:=(A9 (O1 (A0 (dIx (A8 0) ⇑0) (A0 (dIx (A8 0) ⇑1) (A0 (A2 (N1 12) (A0 (dIx (A8 0) ⇑2) (A0 (A1 1) (A0 (A1 2) A3)))) A3)))))
def P6:List D->Option D:=C3 Z9 3
end Sh
namespace G
open PySem PySem.Spec PyProof.Rows L2
section
variable {X:Cx}
theorem bM1(l b:Addr) (xs ys:Array Value) (n m:Nat) (dd:Option Addr) (sl:Array (Option Value)) (h0:¬(!xs.isEmpty&&Builtin.List.listTooLong (xs.size+ys.size))=true) (h1:xs.size<=sizeLine) (h2:xs.size+ys.size<=sizeLine+1) :
  Meets (Builtin.«list.extend» ⟨[.ref l,.ref b],[]⟩) (fun _ R s=>s.heap.get? l=some { cls:=.type "list", data:=.seq xs n }/\s.heap.get? b=some ⟨.type "list", dd,.seq ys m,sl⟩ /\
   R (.ok (.ret Value.none)) { s with heap:=s.heap.update l (Obj.mapSeq fun x=>x++ys),toks:=s.toks }) :=
 .of_wp fun prog w A R s h=>by
  obtain⟨hp,g,d,tk,os⟩:=s
  obtain⟨hl,hb,h⟩:=h
  have f1:=AutoSeq1.idx_int
  have f2:=AutoSeq1.sub_tuple_tuple
  have f3:=AutoSeq1.sub_list_list
  have f4:=AutoSeq1.sub_tuple_list
  have f5:=AutoSeq1.sub_list_tuple
  have hz':(xs++ys).size<=sizeLine+1:=by rw[Array.size_append];exact h2
  wp_walk using (wpAny_updateSeq hl rfl (hz:=h1) (_hz':=hz')),AutoSeq1.wpAny_loadPart' hl,AutoSeq1.wpAny_loadPart' hb
  exact⟨_,rfl,h⟩
theorem bM0(l b:Addr) (xs ys:Array Value) (n m:Nat) (dd:Option Addr) (sl:Array (Option Value)) (h0:¬(!xs.isEmpty&&Builtin.List.listTooLong (xs.size+ys.size))=true) (h1:xs.size<=sizeLine) (h2:xs.size+ys.size<=sizeLine+1) :
  Meets (Builtin.«list.extend» ⟨[.ref l,.ref b],[]⟩) (fun _ R s=>s.heap.get? l=some { cls:=.type "list", data:=.seq xs n }/\s.heap.get? b=some ⟨.type "tuple", dd,.seq ys m,sl⟩ /\
   R (.ok (.ret Value.none)) { s with heap:=s.heap.update l (Obj.mapSeq fun x=>x++ys),toks:=s.toks }) :=
 .of_wp fun prog w A R s h=>by
  obtain⟨hp,g,d,tk,os⟩:=s
  obtain⟨hl,hb,h⟩:=h
  have f1:=AutoSeq1.idx_int
  have f2:=AutoSeq1.sub_tuple_tuple
  have f3:=AutoSeq1.sub_list_list
  have f4:=AutoSeq1.sub_tuple_list
  have f5:=AutoSeq1.sub_list_tuple
  have hz':(xs++ys).size<=sizeLine+1:=by rw[Array.size_append];exact h2
  wp_walk using (wpAny_updateSeq hl rfl (hz:=h1) (_hz':=hz')),AutoSeq1.wpAny_loadPart' hl,AutoSeq1.wpAny_loadPart' hb
  exact⟨_,rfl,h⟩
def cp2(K:PySem.W.Frag):V->List V->Hp->VK->Prop:=fun x vs H Q=>∃l b xs zs,x=.ref l/\vs=[.ref b]/\H l=some (.lst xs)/\(SqL K H b zs\/SqT K H b zs)/\xs.length+zs.length<=sizeLine/\Q .non (upd H l (.lst (xs++zs)))
theorem bu5:MtM X "list.extend" (cp2 X.K):=by
 intro pins s σ H x vs v us Q I rx rv h
 obtain⟨l,b,xs,zs,rfl,rfl,hH,hB,hz,q⟩:=h
 cases rx
 obtain⟨u,rfl,ru⟩:=rv.one
 cases ru
 obtain⟨z,its,n,r,hl,e⟩:=I.lstM hH
 rcases hB with hB|hB
 ·obtain⟨its2,r2,pl,_⟩:=I.list hB
  obtain⟨⟨cls,dd,data,sl⟩,ho,hc,m,hd⟩:=pl.isList
  simp only at hc hd
  subst hc hd
  have hl2:=r2.length
  have hsz:its.toArray.size+its2.toArray.size<=sizeLine:=by rw[List.size_toArray,List.size_toArray];omega
  have hlong:¬(!its.toArray.isEmpty&&Builtin.List.listTooLong (its.toArray.size+its2.toArray.size))=true:=by rw[ae3 hsz,Bool.and_false];exact Bool.false_ne_true
  refine call_meets F.slot_list_extend ⟨_,e,rfl⟩ F.entry_list_extend (F.args_list_extend_2 _ _) (bM1 l b its.toArray its2.toArray n m dd sl hlong (by rw[List.size_toArray];omega) (by omega)) ⟨e,ho,?_⟩
  refine⟨.non,_,I.lset (its':=its++its2) hH e (by simp) (r.append r2) ?_,rfl,q⟩
  rw[List.length_append];omega
 ·obtain⟨its2,r2,pl,_⟩:=I.tuple hB
  obtain⟨⟨cls,dd,data,sl⟩,ho,hc,m,hd⟩:=pl
  simp only at hc hd
  subst hc hd
  have hl2:=r2.length
  have hsz:its.toArray.size+its2.toArray.size<=sizeLine:=by rw[List.size_toArray,List.size_toArray];omega
  have hlong:¬(!its.toArray.isEmpty&&Builtin.List.listTooLong (its.toArray.size+its2.toArray.size))=true:=by rw[ae3 hsz,Bool.and_false];exact Bool.false_ne_true
  refine call_meets F.slot_list_extend ⟨_,e,rfl⟩ F.entry_list_extend (F.args_list_extend_2 _ _) (bM0 l b its.toArray its2.toArray n m dd sl hlong (by rw[List.size_toArray];omega) (by omega)) ⟨e,ho,?_⟩
  refine⟨.non,_,I.lset (its':=its++its2) hH e (by simp) (r.append r2) ?_,rfl,q⟩
  rw[List.length_append];omega
theorem bY5(i:Nat) {x:Str}{e:Expr}{f:DE}{p apos cpos pos:Pos}(h:JE X e f) (hN:X.N[i]? = some x) (hv:Vis X.env.scope x) (hd:(x==("__debug__" : Str))=false)
  (hcd:(x==("__classdict__" : Str))=false) (hline:(apos.endLine==cpos.line)=true) (hs:starEach [e] X.env=[(false,eval e X.env)]) :
  JS X (.Expr (.Call (.Attribute (.Name x p) "extend" apos) [e] [] cpos) pos) (bh3 i f):=fun ρ fl q H0 Hf0=>by
 unfold bh3 at q
 split at q
 ·rename_i ds eo
  obtain⟨d,e1,q⟩:=xbo q
  split at q
  ·rename_i es
   split at q
   ·rename_i hz
    cases q
    refine T6 (aI2 (bc1 PySem.F.plainAttrs_list PySem.F.slot_list_extend PySem.F.type_list_extend bu5 (ai4 hN hv hd hcd) (L4 (h ρ _ e1) R6 hs) rfl (by rw[hs];rfl) hline hs) rfl) fun En σ H ⟨Hf,a,ee⟩=>?_
    obtain⟨v,h1,b,vs,rfl,h2,h3,h4,h5⟩:=a.sl.is i _ eo
    refine⟨_,h1,.inl ⟨rfl,vs,SqL.of h2⟩,H0,Hf,a.gr.sub,a.sl,fun w H' Hf' gg r=>?_⟩
    obtain⟨b2,us,rfl,r1,r2⟩:=r
    have hb:H' b=some (.lst vs):=gg.big _ _ h2
    have hfb:Hf' b=none:=gg.nofr h2 h3
    have g2:=a.gr.trans gg
    have sl2:=a.sl.grow gg
    refine⟨b,b2,vs,us,rfl,rfl,hb,.inl (M3 gg.sub r1),by rw[h5.length,r2.length,sizeLine_eq];exact hz,ee _ _ Hf' ⟨⟨fun c u z=>?_,fun c u z=>?_,g2.ext,g2.new⟩,?_⟩ gg.ext⟩
    ·rw[D0 (D2 z h4)];exact g2.big c u z
    ·rw[D0 (D2 z hfb)];exact g2.sub c u z
    ·exact sl2.reOwn eo h1 hfb h4 ((h5.mono gg.ext).append r2)
   ·cases q
  ·rename_i es
   split at q
   ·rename_i hz
    cases q
    refine T6 (aI2 (bc1 PySem.F.plainAttrs_list PySem.F.slot_list_extend PySem.F.type_list_extend bu5 (ai4 hN hv hd hcd) (L4 (h ρ _ e1) R6 hs) rfl (by rw[hs];rfl) hline hs) rfl) fun En σ H ⟨Hf,a,ee⟩=>?_
    obtain⟨v,h1,b,vs,rfl,h2,h3,h4,h5⟩:=a.sl.is i _ eo
    refine⟨_,h1,.inl ⟨rfl,vs,SqL.of h2⟩,H0,Hf,a.gr.sub,a.sl,fun w H' Hf' gg r=>?_⟩
    obtain⟨b2,us,rfl,r1,r2⟩:=r
    have hb:H' b=some (.lst vs):=gg.big _ _ h2
    have hfb:Hf' b=none:=gg.nofr h2 h3
    have g2:=a.gr.trans gg
    have sl2:=a.sl.grow gg
    refine⟨b,b2,vs,us,rfl,rfl,hb,.inr (E3 gg.sub r1),by rw[h5.length,r2.length,sizeLine_eq];exact hz,ee _ _ Hf' ⟨⟨fun c u z=>?_,fun c u z=>?_,g2.ext,g2.new⟩,?_⟩ gg.ext⟩
    ·rw[D0 (D2 z h4)];exact g2.big c u z
    ·rw[D0 (D2 z hfb)];exact g2.sub c u z
    ·exact sl2.reOwn eo h1 hfb h4 ((h5.mono gg.ext).append r2)
   ·cases q
  ·cases q
 ·cases q
end
def aA5(a:List Str) (x:Str):List Str:=if a.any (· == x) then a else a++[x]
def ddN(v:Nat->Str) (i:Nat):List Str:=((List.range i).map v).foldl aA5 []
def ddS(l:List Str):List Str:=l.foldl aA5 []
theorem ax7(v:Nat->Str) (i:Nat):ddN v (i+1)=aA5 (ddN v i) (v i):=by
 unfold ddN
 rw[List.range_succ,List.map_append,List.foldl_append]
 rfl
theorem bA1(v:Nat->Str):∀i,(ddN v i).length<=i
 | 0=>Nat.le_refl 0
 | i+1=>by
  have ih:=bA1 v i
  rw[ax7]
  unfold aA5
  split
  ·omega
  ·rw[List.length_append,List.length_singleton]
   omega
theorem cd3(a:List Str) (x y:Str):(aA5 a x).any (· == y)=(a.any (· == y) || decide (y=x)):=by
 unfold aA5
 by_cases q:a.any (· == x)=true
 ·rw[if_pos q]
  by_cases e:y=x
  ·subst e;rw[q];simp
  ·simp[e]
 ·rw[if_neg q,List.any_append]
  by_cases e:y=x
  ·subst e;simp
  ·have:(x==y)=false:=by simpa [beq_iff_eq] using fun z:x=y=>e z.symm
   simp[this,e]
theorem cd2(a:List Str) (x:Str):(aA5 a x).length=if a.any (· == x) then a.length else a.length+1:=by
 unfold aA5
 split<;>simp
theorem cd4(l:List Str) (d:Str):ddN (fun i=>l.getD i d) l.length=ddS l:=by
 unfold ddN ddS
 congr 1
 refine List.ext_getElem? fun i=>?_
 rw[List.getElem?_map]
 by_cases hi:i < l.length
 ·rw[List.getElem?_range hi,List.getElem?_eq_getElem hi]
  simp[List.getD,List.getElem?_eq_getElem hi]
 ·rw[List.getElem?_eq_none (by simpa using hi),List.getElem?_eq_none (by simpa using hi)]
  rfl
section
variable {prog:Program}{w:World}{A:Around}{R:Result->Shared->Prop}{J:Addr}{fp wr:List Addr}{Gn:Array GenState->Array GenState->Prop}{n:Nat}{P:Nat->Value->Prop}{St:Nat->Shared->Prop}
theorem bq5(W:WalksS prog w A.in1 J fp wr Gn n P St) (S:Addr) (hS1:S∉fp) (v:Nat->Str) (hv:∀i u,P i u->∃t,u=.str (v i) t) (hb:n+1 < scanBound) :
  ∀(k i:Nat) (s:Shared),n - i=k->i<=n->St i s->s.heap.SetOf (strKind prog w) S (fun y=>(ddN v i).any (· == y)) (ddN v i).length ->
   (∀s',Moved (S::wr) Gn s s'->s'.heap.SetOf (strKind prog w) S (fun y=>(ddN v n).any (· == y)) (ddN v n).length->R (.ok (.ret .none)) s') ->
   codeAny (model prog w) A (.builtin "set.update.loop" ⟨[.ref S,.ref J],[]⟩) R s:=by
 have hS2:S∉wr:=fun z=>hS1 (W.sub _ z)
 have more:∀b∈wr,b∈S::wr:=fun b z=>xmm _ z
 intro k
 induction k with
 | zero =>
  intro i s e1 e2 q1 q2 q3
  obtain rfl:i=n:=by omega
  refine codeAny_builtin PyProof.Rows.F.entry_set_update_loop ?_
  rw[Around.under_plainId PyProof.Rows.F.plain_set_update_loop _]
  show wpAny _ _ (pyNext (.ref J) >>= _) _ _ _
  refine wpAny_bind (W.done s _ _ q1 fun s' mv=>?_)
  show wpAny _ _ (ret Value.none) _ _ _
  refine wpAny_pure (q3 s' (mv.mono more) ?_)
  obtain⟨o,es,ep,tb,ho,more'⟩:=q2
  exact⟨o,es,ep,tb,mv.heap S _ hS2 ho,more'⟩
 | succ k ih =>
  intro i s e1 e2 q1 q2 q3
  have lt:i < n:=by omega
  refine codeAny_builtin PyProof.Rows.F.entry_set_update_loop ?_
  rw[Around.under_plainId PyProof.Rows.F.plain_set_update_loop _]
  show wpAny _ _ (pyNext (.ref J) >>= _) _ _ _
  refine wpAny_bind (W.item i s _ _ lt q1 fun u s' hP q1' mv=>?_)
  obtain⟨t,rfl⟩:=hv i u hP
  have q2':s'.heap.SetOf (strKind prog w) S (fun y=>(ddN v i).any (· == y)) (ddN v i).length:=by
   obtain⟨o,es,ep,tb,ho,more'⟩:=q2
   exact⟨o,es,ep,tb,mv.heap S _ hS2 ho,more'⟩
  show wpAny _ _ (holding [Value.str (v i) t] (setAdd S (.str (v i) t)) >>= _) _ _ _
  refine wpAny_bind (wpAny_holding ?_)
  unfold setAdd
  refine wpAny_holding (wpAny_bind ((strKind prog w).pyHash (k:=v i) (strKind_is _ _ _ _) ?_))
  have room:(ddN v i).length+1 < scanBound:=by have:=bA1 v i;omega
  refine wpAny_setAddHashed_of (knd:=strKind prog w) (s:={ s' with toks:=s'.toks+1 }) (strKind_is _ _ _ _) rfl q2' room fun h' sb q4=>?_
  have q5:h'.SetOf (strKind prog w) S (fun y=>(ddN v (i+1)).any (· == y)) (ddN v (i+1)).length:=SetOf_congr q4 (fun y=>by rw[ax7,cd3]) (by rw[ax7,cd2])
  refine wpAny_pure ⟨plainId_quiet PyProof.Rows.F.plain_set_update_loop _,ih (i+1) _ (by omega) lt (W.frame _ s' _ _ q1' (Nat.le_succ _) fun b z o e=>?_) q5 fun s2 mv2 q6=>?_⟩
  ·rw[sb.2 b (fun y:b=S=>hS1 (by rw[← y];exact z))];exact e
  ·refine q3 s2 (Moved.trans W.gtrans ((mv.mono more).then_heap (Nat.le_succ _) fun b o z e=>?_) mv2) q6
   rw[sb.2 b (fun y:b=S=>z (by rw[y];exact List.mem_cons_self))];exact e
end
section
variable {prog:Program}{w:World}{A:Around}{E:Value->Shared->Prop}{s:Shared}
abbrev W6(b:Bool):Obj:={ cls:=.type "set", dict:=none,data:=.set #[] 0 (.fresh 0 0 b) }
theorem aN2{l:Addr}{its:Array Value}{xs:List Str}{Q:Value->Shared->Prop}(hh:A.handled=none) (hl:s.heap.IsList l its) (hi:∀(i:Nat) (u:Value),its[i]? = some u->∃t,u=.str (xs.getD i "") t) (hb:its.size+1 < scanBound)
  (h:∀(h':Heap) (tk:Nat),h'.SetOf (strKind prog w) s.heap.objs.size (fun y=>(ddN (fun i=>xs.getD i "") its.size).any (· == y)) (ddN (fun i=>xs.getD i "") its.size).length ->
   (∀b o,b < s.heap.objs.size->s.heap.get? b=some o->h'.get? b=some o)->Q (.ref s.heap.objs.size) { s with heap:=h',toks:=tk }) :
  wpAny (model prog w) A (call (.type "set") [.ref l]) Q E s:=by
 obtain⟨c,tl,hmro⟩:=F.called_set.mro
 have hmade:=F.called_set.made
 have hsub:=F.called_set.sub
 refine wpAny_call (codeAny_of_tree ?_)
 show wpAny _ _ (callAny (.type "set") _) _ _ _
 refine wpAny_pure ⟨Code.quiet_builtin _ (by decide +kernel),codeAny_builtin F.entry_type_call ?_⟩
 rw[Around.under_plain (weight_type_call_type "set" [.ref l] []) rfl]
 have n1:=F.called_set.notType
 have n2:=F.called_set.canCreate
 have n3:=F.typeCall_set_1 (.ref l)
 repeat (any_goals (first|assumption|wp_step))
 refine codeAny_mono (code_set_new_1 (.ref l) (E:=E) (Q₁:=fun ob s1=>∃b:Bool,ob=.ref s.heap.objs.size/\s1={ s with heap:=s.heap.push (W6 b) }) fun b=>⟨b,rfl,rfl⟩) fun r s1 hr=>?_
 cases r with
 | error e=>exact hr
 | ok fl =>
  cases fl with
  | ret ob =>
   obtain⟨b,rfl,rfl⟩:=hr
   have g0:(s.heap.push (W6 b)).get? s.heap.objs.size=some (W6 b):=Heap.get?_push_size _ rfl
   have hT:Shared.TypeIs { s with heap:=s.heap.push (W6 b) } (.ref s.heap.objs.size) "set" := ⟨_,g0,rfl⟩
   have li:=F.called_set.init.lookup
   have bi:=F.called_set.init.bind (.ref s.heap.objs.size)
   repeat (any_goals (first|assumption|wp_step))
   refine codeAny_mono (codeAny_call_builtin (R:=wants (fun r s2=>r=.none/\∃h' tk,s2={ s with heap:=h',toks:=tk }/\h'.SetOf (strKind prog w) s.heap.objs.size (fun y=>(ddN (fun i=>xs.getD i "") its.size).any (· == y)) (ddN (fun i=>xs.getD i "") its.size).length /\
     (∀b o,b < s.heap.objs.size->s.heap.get? b=some o->h'.get? b=some o)) E) F.called_set.init.plain F.entry_set_init (check_set_init_1 hT ?_)) fun r2 s2 hr2=>?_
   ·obtain⟨⟨c0,d0,dt0,sl0⟩,hol,hcl,nl,hdl⟩:=hl
    simp only at hcl hdl
    subst hcl hdl
    have hol':(s.heap.push (W6 b)).get? l=some { cls:=.type "list", dict:=d0,data:=.seq its nl,slots:=sl0 }:=Heap.get?_push_of_some _ hol
    have f1:=F.sub_list_set
    have f2:=F.sub_list_frozenset
    have f3:(Value.type "list" == Value.type "dict")=false:=by decide
    have hl1:(s.heap.push (W6 b)).IsList l its:=⟨_,hol',rfl,nl,rfl⟩
    unfold Builtin.«set.__init__» noKeywords Builtin.Frozenset.updateFrom
    generalize hPI:pyIter=PI
    wp_walk
    subst hPI
    refine wpAny_pyIter_list hl1 (wpAny_bind (wpAny_runValue ?_))
    have lS:l < s.heap.objs.size:=Heap.lt_size hol
    have h3:A.in1.in1.in1.handled=none:=by simp[hh]
    have nI:l≠(s.heap.push (W6 b)).objs.size:=by
     rw[Heap.size_push]
     exact Nat.ne_of_lt (Nat.lt_succ_of_lt lS)
    have nf:s.heap.objs.size∉[(s.heap.push (W6 b)).objs.size,l]:=by
     rw[Heap.size_push]
     simp only[List.mem_cons,List.mem_singleton,List.not_mem_nil,or_false,not_or]
     exact⟨Nat.ne_of_lt (Nat.lt_succ_self _),Nat.ne_of_gt lS⟩
    refine bq5 ((Walks.list h3 _ l nI its).toS) s.heap.objs.size nf (fun i=>xs.getD i "") hi hb (its.size - 0) 0 _ (by omega) (Nat.zero_le _) ⟨⟨_,Heap.get?_push_size _ rfl,rfl,rfl⟩,(hl1.push _)⟩ ?hS0 ?hR
    case hS0 =>
     have gt:((s.heap.push (W6 b)).push { cls:=.type "list_iterator", data:=.fields #[.ref l,.int 0 0] }).get? s.heap.objs.size=some (W6 b):=Heap.get?_push_of_some _ g0
     exact SetOf_congr ((setObjOf_fresh (knd:=strKind prog w) b).setOf gt (by unfold scanBound;omega)) (fun _=>rfl) rfl
    case hR =>
     intro s' mv q
     obtain⟨h',g',d',tk',os'⟩:=s'
     have eg:g'=s.gens:=mv.gens
     have ed:d'=s.drawn:=mv.drawn
     have eo:os'=s.os:=mv.os
     subst eg ed eo
     show wpAny _ _ _ _ _ _
     refine wpAny_pure ?_
     show wpAny _ _ (ret Value.none) _ _ _
     refine wpAny_pure ⟨rfl,h',tk',rfl,q,fun c o hc e=>?_⟩
     have c1:c≠s.heap.objs.size:=Nat.ne_of_lt hc
     have c2:c≠(s.heap.push (W6 b)).objs.size:=by
      rw[Heap.size_push]
      exact Nat.ne_of_lt (Nat.lt_succ_of_lt hc)
     exact mv.heap c o (by simp only[List.mem_cons,List.mem_singleton,List.not_mem_nil,or_false,not_or];exact⟨c1,c2⟩) (Heap.get?_push_of_some _ (Heap.get?_push_of_some _ e))
   ·cases r2 with
    | error e=>exact hr2
    | ok fl2 =>
     cases fl2 with
     | ret r =>
      obtain⟨rfl,h',tk,rfl,q1,q2⟩:=hr2
      repeat (any_goals (first|assumption|wp_step))
      exact h _ _ q1 q2
     | _=>exact hr2.elim
  | _=>exact hr.elim
end
section
variable {X:Cx}
def SetO(X:Cx) (a:Addr) (n:Nat):HO:=.ext fun h=>∃S,h.SetOf (strKind X.prog X.w) a S n
theorem ce2:bootBuiltins "set" = some (.type "set"):=by decide +kernel
theorem aM4:∀{ys:List Str}{us:List Value},K1 (ys.map V.str) us->∀(i:Nat) (u:Value),us[i]? = some u->∃t,u=.str (ys.getD i "") t
 | [],[],_,i,u,h=>by simp at h
 | y::ys,u::us,h,i,v,e=>by
  cases h with
  | cons a b =>
   cases i with
   | zero =>
    simp only[xg0,Option.some.injEq]at e
    subst e
    obtain⟨t,e⟩:=a
    exact⟨t,e⟩
   | succ i =>
    simp only[xg1]at e
    obtain⟨t,e'⟩:=aM4 b i v e
    exact⟨t,e'⟩
theorem bm7(hc:X.calm=true):t8 X (.type "set") (fun xs H Q=>∃p ys,xs=[.ref p]/\SqL X.K H p (ys.map V.str)/\ys.length<=4000/\∀l,H l=none->Q (.ref l) (upd H l (SetO X l (ddS ys).length))):=by
 intro pins s σ H xs us Q I r h
 obtain⟨p,ys,rfl,hq,hz,q⟩:=h
 obtain⟨u,rfl,rx⟩:=ak4 r
 cases rx
 obtain⟨its,rv,pl,_⟩:=I.list hq
 have hl:its.length=ys.length:=by have:=rv.length;rw[List.length_map]at this;exact this.symm
 have hs:its.toArray.size=ys.length:=by rw[List.size_toArray];exact hl
 refine aN2 (xs:=ys) (I.ok.hd hc) pl.isList (fun i u e=>aM4 rv i u (by rw[List.getElem?_toArray]at e;exact e)) (by rw[hs];unfold scanBound;omega) fun h' tk q1 q2=>?_
 rw[hs,cd4]at q1
 refine⟨.ref _,_,I.laid (a:=s.heap.objs.size) (o:=SetO X s.heap.objs.size (ddS ys).length) (h':=h') (t':=tk) (fun b o e=>q2 b o (Heap.lt_size e) e) (Nat.le_refl _) ⟨⟨_,q1⟩,?_,?_⟩,rfl,q _ I.fresh⟩
 ·obtain⟨o,es,ep,t,ho,_⟩:=q1
  exact⟨o,ho⟩
 ·intro h1 h2 ⟨S,o,es,ep,t,ho,T5⟩ k
  exact⟨S,o,es,ep,t,k o ho,T5⟩
theorem bn0:t8 X (.builtin "len") (fun xs H Q=>∃p n,xs=[.ref p]/\H p=some (SetO X p n)/\Q (.int n) H):=by
 intro pins s σ H xs us Q I r h
 obtain⟨p,n,rfl,hp,q⟩:=h
 obtain⟨u,rfl,rx⟩:=ak4 r
 cases rx
 obtain⟨⟨S,o,es,ep,t,ho,hex,hd,_,_,hb,hf,hn⟩,_,_⟩:=I.hok p _ hp
 have:es.size < 4096:=hb
 exact call_len_set ho hex hd hf (by omega) ⟨.int n,H,I.tok _,⟨_,by rw[hn]⟩,q⟩
def au1(f:Rho->Option (Bool×List D)):DE:=fun ρ=>(f ρ).bind fun q=>if q.1=true then none else(av2 q.2).bind fun ys=>if ys.length<=4000 then some (.int (ddS ys).length) else none
theorem bj2{e:Expr}{f:Rho->Option (Bool×List D)}{p p2 pos pos2:Pos}(hg:Gl X "len") (hm:X.mg "len" = none) (hg2:Gl X "set") (hm2:X.mg "set" = none) (h:JQ X e f) (hc:X.calm=true) (he:starEach [e] X.env=[(false,eval e X.env)]) :
  JE X (.Call (.Name "len" p) [.Call (.Name "set" p2) [e] [] pos2] [] pos) (au1 f):=fun ρ d q=>by
 obtain⟨⟨t,ds⟩,h1,q⟩:=xbo q
 split at q
 ·cases q
 ·rename_i ht
  have ht:t=false:=by simpa using ht
  subst ht
  obtain⟨ys,h2,q⟩:=xbo q
  split at q
  ·rename_i hz
   cases q
   refine C6 (Y5 bn0 hg hm aZ3 (L4 (v2 (bm7 hc) hg2 hm2 ce2 (L4 (h ρ false ds h1) R6 he) (he:=he)) R6 rfl)) fun σ H Q ⟨H0,Hf,s,sl,k⟩=>?_
   refine⟨H0,Hf,s,sl,fun v H1 Hf1 g1 ⟨a,vs,e1,e2,e3⟩=>⟨a,ys,by rw[e1],?_,hz,fun l hl=>⟨l,_,rfl,C5,?_⟩⟩⟩
   ·rw[← ao4 h2 e3];exact e2
   ·exact k _ _ _ (g1.trans (Grow.made g1.sub hl)) rfl
  ·cases q
end
section
variable {X:Cx}
def bL7(x y:Str):Bool:=!(Builtin.Str.occurrences y x 0 y.length 1).isEmpty
def inS(neg:Bool) (x y:D):Option D:=match x,y with
 | .str i,.str j=>some (.bool (if neg then !bL7 i j else bL7 i j))
 | _,_=>none
theorem bV0:OpD X (compareOp .In) (inS false):=fun x y z h=>by
 cases x<;>cases y<;>first|(cases h;done)|skip
 rename_i i j
 cases h
 refine OpR.imp bh6 fun vx vy H Q ⟨Hf,s,rx,ry,k⟩=>?_
 cases rx
 cases ry
 exact⟨i,j,rfl,rfl,k _ H Hf (Grow.refl s) rfl⟩
theorem bi1:OpD X (compareOp .NotIn) (inS true):=fun x y z h=>by
 cases x<;>cases y<;>first|(cases h;done)|skip
 rename_i i j
 cases h
 refine OpR.imp aI4 fun vx vy H Q ⟨Hf,s,rx,ry,k⟩=>?_
 cases rx
 cases ry
 exact⟨i,j,rfl,rfl,k _ H Hf (Grow.refl s) rfl⟩
def be9(f:DE):DE:=fun ρ=>(f ρ).bind fun d=>match d with
 | .str x=>if x.length<=16777216 then some (.int x.length) else none
 | _=>none
theorem bK9{e:Expr}{f:DE}{p pos:Pos}(hg:Gl X "len") (hm:X.mg "len" = none) (h:JE X e f) (he:starEach [e] X.env=[(false,eval e X.env)]):JE X (.Call (.Name "len" p) [e] [] pos) (be9 f):=fun ρ d q=>by
 obtain⟨y,h1,h2⟩:=xbo q
 obtain⟨x,rfl⟩:∃x,y=.str x:=by
  cases y with
  | str x=>exact⟨x,rfl⟩
  | _=>cases h2
 have h2:(if x.length<=16777216 then some (PyData.int x.length) else none)=some d:=h2
 split at h2
 ·rename_i hz
  cases h2
  refine C6 (Y5 aL1 hg hm aZ3 (L4 (h ρ _ h1) R6 he) (he:=he)) fun σ H Q ⟨H0,Hf,s,sl,k⟩=>?_
  refine⟨H0,Hf,s,sl,fun v H1 Hf1 g1 r=>⟨x,?_,by rw[sizeLine_eq];exact hz,k _ H1 Hf1 g1 rfl⟩⟩
  cases r;rfl
 ·cases h2
def Its(x:Str):It:=⟨fun i _=>i < x.cps.size,fun i H v H'=>H'=H/\∃c,x.cps[i]? = some c/\v=.str ⟨#[c]⟩,fun i _=>x.cps.size<=i⟩
theorem bp0{P:Program}{w:World}{K:PySem.W.Frag}{tg:Expr}(x:Str) (t:Tok) (it:Addr):Turn P w K tg (Its x) [it] it (fun i h=>h.IsStrIter it "str_ascii_iterator" x t i) where
 mem:=by simp
 obj:=fun i h st b hb=>by
  have e:b=it:=by simpa using hb
  subst e
  obtain⟨o,e,c,d⟩:=st
  exact⟨o,e,fun v z=>by rw[d]at z;cases z⟩
 keep:=fun i h h' st k=>by
  obtain⟨o,e,r⟩:=st
  exact⟨o,k it (by simp) o e,r⟩
 item:=by
  intro X hP hw hK hc i pins s σ H E I hf st hg
  subst hP hw hK
  obtain⟨f0,f1,f2,f3,f4,f5⟩:=hf it (by simp)
  have hi:i < x.cps.size:=hg
  refine wpAny_pyNext_ascii_item st (c:=x.cps[i]) (by simp[hi]) fun h' st' sb=>?_
  have I1:Inv X pins σ H { s with heap:=h',toks:=s.toks+1 }:=I.turned (t':=s.toks+1) (fun b o hb e=>(sb.2 b hb).trans e) f0 f1 f3 f4 f5
  obtain⟨o,e,c,d⟩:=id st'
  exact⟨_,rfl,be1 (s:={ s with heap:=h',toks:=s.toks+1 }) e c d (by decide) ⟨.str ⟨#[x.cps[i]]⟩,H,I1,⟨_,rfl⟩,⟨rfl,_,by simp[hi],rfl⟩,st',fun b hb=>(hf b hb).1⟩⟩
 done:=by
  intro X hP hw hK hc i pins s σ H E I hf st hg
  subst hP hw hK
  obtain⟨f0,f1,f2,f3,f4,f5⟩:=hf it (by simp)
  have hi:x.cps.size<=i:=hg
  exact wpAny_pyNext_ascii_end (I.ok.hd hc) st (by simp[hi]) fun h' eb=>⟨rfl,I.turned (t':=s.toks) (fun b o hb e=>eb b o hb e) f0 f1 f3 f4 f5⟩
 self:=fun _ _ _ _ _ st h=>wpAny_pyIter_striter_ascii st h
def aM9(x:Str):List D:=x.cps.toList.map fun c=>.str ⟨#[c]⟩
def bL6(f:DE):Rho->Option (List D):=fun ρ=>(f ρ).bind fun d=>match d with
 | .str x=>if x.cps.all (· < 128)=true then some (aM9 x) else none
 | _=>none
theorem bZ6{tg e:Expr}{f:DE}(h:JE X e f):JI X tg e (bL6 f):=fun ρ ds q=>by
 obtain⟨d,e1,e2⟩:=xbo q
 obtain⟨x,rfl⟩:∃x,d=.str x:=by
  cases d with
  | str x=>exact⟨x,rfl⟩
  | _=>cases e2
 have e2:(if x.cps.all (· < 128)=true then some (aM9 x) else none)=some ds:=e2
 split at e2
 ·rename_i ha
  cases e2
  intro pins s σ H R I ⟨H0,Hf,ss,sl,k⟩
  refine thn (h ρ _ e1 pins s σ H (fun v H'=>∃Hf',Grow H Hf H' Hf'/\v=.str x) I ⟨H0,Hf,ss,sl,fun v H' Hf' g r=>⟨Hf',g,r⟩⟩) fun v s1 ⟨y,H1,I1,r1,Hf1,g1,ey⟩=>?_
  subst ey
  obtain⟨t,rfl⟩:=r1
  refine wpAny_pyIter_ascii ha ?_
  have I2:Inv X pins σ H1 { s1 with heap:=s1.heap.push { cls:=.type "str_ascii_iterator", data:=.fields #[.str x t,.int 0 0] } }:=I1.kept (t':=s1.toks) fun b u e=>Heap.get?_push_of_some _ e
  refine⟨_,_,_,Its x,H1,rfl,I2,bp0 x t s1.heap.objs.size,⟨_,Heap.get?_push_size _ rfl,rfl,rfl⟩,fun b hb=>?_,k _ H1 Hf1 g1 fun i H' Hf' sa sb=>⟨fun hi=>?_,fun d hd=>?_⟩⟩
  ·have hb':s1.heap.objs.size<=b:=by rw[List.mem_singleton]at hb;rw[hb];exact Nat.le_refl _
   exact I1.fpOk hb' (I1.hok.fresh hb')
  ·show x.cps.size<=i
   simpa [aM9] using hi
  ·unfold aM9 at hd
   rw[List.getElem?_map]at hd
   obtain⟨c,c1,c2⟩:=xmo hd
   have c1':x.cps[i]? = some c:=by rw[← Array.getElem?_toList];exact c1
   refine⟨(Array.getElem?_eq_some_iff.mp c1').1,fun v H'' ⟨h1,c',h2,h3⟩=>?_⟩
   subst h1 h3 c2
   rw[c1']at h2
   cases h2
   exact⟨Hf',Grow.refl sb,rfl⟩
 ·cases e2
end
end G
namespace G
open PySem PySem.Spec PyProof PyProof.Rows L2
section
variable {X:Cx}
end
end G
namespace G
open PySem PySem.Spec PyProof.Rows L2
section
variable {prog:Program}{w:World}{A:Around}{E:Value->Shared->Prop}{s:Shared}{t:Bool}
end
section
variable {X:Cx}{pins:List (Addr×Obj)}{σ:L2.St}{A:Around}{t:Bool}{S e it a:Addr}{ws:List V}
end
section
variable {X:Cx}
end
section
open PySem.SeqAt PySem.MeetsSeq PySem.MeetsSeq2 PySem.MeetsSeq3 PySem.SeqRoads2
open PySem.AutoSeq1 (wpAny_loadPart')
end
section
variable {X:Cx}
end
section
variable {X:Cx}
def lsB(x:D) (ds:List D):Prop:=SeqAt.shaped x=true/\x.depth<=60/\ds.all SeqAt.shaped=true/\ds.all W7=true
instance (x:D) (ds:List D):Decidable (lsB x ds):=by unfold lsB;exact inferInstance
end
abbrev FnD:=List D->Option D
structure Sg where
 fn:List (Str×FnD×Nat)
 cs:List (Str×D)
 bl:List Str
structure Kx where
 N:List Str
 sc:Scope
 df:Bool
 own:List Nat
 cpt:List Nat
 tx:List Nat
 old:Bool
 fz:List (Nat×List Nat)
 hc:List ((Nat×Nat)×List Nat)
def biS(K:PySem.W.Frag) (n:Nat) (F:List D->Option D):List V->Hp->VK->Prop:=fun vs H Q=>vs.length=n/\∃Hf ds d,G1 Hf H/\Reps K Hf ds vs/\F ds=some d/\∀v H' Hf',Grow H Hf H' Hf'->Rep K Hf' d v->Q v H'
def cf2(x:Str) (F:FnD) (n:Nat):Prop:=0 < n/\x ≠ "__name__" /\ ∃nm,bootBuiltins x=some (.builtin nm)/\∀X:Cx,X.A.units+64 < cLine->t8 X (.builtin nm) (biS X.K n F)
theorem cl7{X:Cx}{n:Nat}{F:FnD}{x:Str}{e:Expr}{es:List Expr}{g:Rho->Option (List D)}{p pos:Pos}(hb:cf2 x F n) (hu:X.A.units+64 < cLine) (hg:Gl X x) (hm:X.mg x=none) (ha:JA X (e::es) g) (hn:(e::es).length=n) (hdb:(x==("__debug__" : Str))=false)
  (he:starEach (e::es) X.env=(false,eval e X.env)::starEach es X.env) (hpl:(backTo pos (starEach es X.env)).any (·.1)=false):JE X (.Call (.Name x p) (e::es) [] pos) (A2 F g):=fun ρ d q=>by
 obtain⟨ds,h1,h2⟩:=xbo q
 obtain⟨_,hnn,nm,hv,hc⟩:=hb
 refine C6 (Y5 (hc X hu) hg hm hv (ha.run ρ ds h1) hnn hdb he hpl) fun σ H Q ⟨H0,Hf,s,sl,kk⟩=>?_
 exact⟨H0,Hf,s,sl,fun vs H1 Hf1 g1 r1=>⟨by rw[r1.length,ha.len ρ ds h1,hn],Hf1,ds,d,g1.sub,r1,h2,fun v H2 Hf2 g2 r2=>kk v H2 Hf2 (g1.trans g2) r2⟩⟩
def cr8(X:Cx) (x:Str) (F:FnD) (n:Nat):Prop:=(∃(k:Nat) (f:Addr) (fd:FuncData) (ps:List Str),FnOk X.prog X.w X.K X.mg X.base CX0 k f fd ps (spF X.K n F)/\Room k X.A/\X.mg x=some (.ref f)/\PySem.W.keepIn X.K (.ref f)=true/\T8 X.K fd ps [])\/(X.mg x=none/\cf2 x F n)
structure Fit (S:Sg) (c:Kx) (X:Cx):Prop where
 N:X.N=c.N
 sc:X.env.scope=c.sc
 nd:c.N.Nodup
 calm:X.calm=true
 xe:X.xe=fun _ _=>False
 units:X.A.units+64 < cLine
 df:c.df=true->(∀x,X.fn x=true)/\c.sc.kind=.function
 fns:∀x F n,S.fn.lookup x=some (F,n)->cr8 X x F n
 css:∀x d,S.cs.lookup x=some d->∃u,aS7 X.K d u/\X.mg x=some u
 bls:∀x,S.bl.contains x=true->X.mg x=none
def pl:Expr->Bool
 | .Starred ..=>false
 | .Slice ..=>false
 | .Set ..=>false
 | _=>true
def aV9:Expr->Bool
 | .Call ..=>false
 | _=>true
def isC:Expr->Bool
 | .ListComp ..=>true
 | .SetComp ..=>true
 | .DictComp ..=>true
 | _=>false
def plT:Expr->Bool
 | .UnaryOp ..=>false
 | .BoolOp ..=>false
 | .IfExp ..=>false
 | .Compare ..=>false
 | _=>true
def ab3(x:Str):List Str->Option Nat
 | []=>none
 | y::r=>if y==x then some 0 else(ab3 x r).map (·+1)
theorem aP4{x:Str}:∀{l:List Str}{i:Nat},ab3 x l=some i->l[i]? = some x
 | [],i,h=>by cases h
 | y::r,i,h=>by
  unfold ab3 at h
  split at h
  ·rename_i e
   cases h
   simp only[beq_iff_eq]at e
   subst e;rfl
  ·obtain⟨j,h1,h2⟩:=xmo h
   subst h2
   simpa using aP4 h1
def ap0:List Str->Bool
 | []=>true
 | x::r=>!(r.contains x)&&ap0 r
theorem ao9:∀{l:List Str},ap0 l=true->l.Nodup
 | [],_=>List.nodup_nil
 | x::r,h=>by
  unfold ap0 at h
  simp only[Bool.and_eq_true,Bool.not_eq_true']at h
  refine List.nodup_cons.mpr ⟨fun z=>?_,ao9 h.2⟩
  have:=h.1
  rw[List.contains_iff_mem.mpr z]at this
  cases this
def aH0(sc:Scope) (x:Str):Bool:=(match sc.names.lookup x with|some .local=>true|some .cell=>true|some .free=>true|_=>false) && !(x==("__debug__" : Str)) && !(x==("__classdict__" : Str))
def bi9(c:Kx) (x:Str):Bool:=(match c.sc.names.lookup x with|some .local=>true|some .cell=>c.df|_=>false)
def aA4(sc:Scope) (x:Str):Bool:=(match sc.names.lookup x with|some .globalImplicit=>true|_=>false) && !(x==("__debug__" : Str))
def biB(S:Sg) (c:Kx) (w x:Str):Bool:=x==w&&S.bl.contains w&&aA4 c.sc w
section
variable {X:Cx}{S:Sg}{c:Kx}
theorem ak3{x:Str}(F:Fit S c X) (h:aH0 c.sc x=true):Vis X.env.scope x/\(x==("__debug__" : Str))=false/\(x==("__classdict__" : Str))=false:=by
 unfold aH0 at h
 simp only[Bool.and_eq_true,Bool.not_eq_true']at h
 obtain⟨⟨h1,h2⟩,h3⟩:=h
 refine⟨?_,h2,h3⟩
 rw[F.sc]
 unfold Vis
 split at h1
 ·rename_i e;exact .inl e
 ·rename_i e;exact .inr (.inl e)
 ·rename_i e;exact .inr (.inr e)
 ·cases h1
theorem aJ0{x:Str}(F:Fit S c X) (h:bi9 c x=true):L2.Loc X.env.scope x/\(X.fn x=true\/X.env.scope.names.lookup x=some .local):=by
 unfold bi9 at h
 rw[F.sc]
 unfold L2.Loc
 split at h
 ·rename_i e;exact⟨.inl e,.inr e⟩
 ·rename_i e;exact⟨.inr e,.inl ((F.df h).1 x)⟩
 ·cases h
theorem ab5{x:Str}(F:Fit S c X) (h:aA4 c.sc x=true):Gl X x/\(x==("__debug__" : Str))=false:=by
 unfold aA4 at h
 simp only[Bool.and_eq_true,Bool.not_eq_true']at h
 refine⟨?_,h.2⟩
 unfold Gl Env.kindOf
 rw[F.sc]
 have h1:=h.1
 split at h1
 ·rename_i e;exact e
 ·cases h1
theorem R9{w x:Str}(F:Fit S c X) (h:biB S c w x=true):x=w/\Gl X w/\X.mg w=none:=by
 unfold biB at h
 simp only[Bool.and_eq_true,beq_iff_eq]at h
 exact⟨h.1.1,(ab5 F h.2).1,F.bls _ h.1.2⟩
theorem L3{e:Expr}(h:pl e=true) (es:List Expr) (env:Env):starEach (e::es) env=(false,eval e env)::starEach es env:=by cases e<;>first|rfl|cases h
theorem bb6{e:Expr}(h:pl e=true):ab9 e:=by
 intro o i
 cases e<;>first|rfl|cases h
theorem at9{e:Expr}(h:pl e=true) (op:CmpOp):behindInMarks op e=false:=by cases e<;>first|rfl|cases h
theorem bb7{e:Expr}(h:pl e=true) (env:Env) (x:Value):foldedSetIterable e env x=pure x:=by cases e<;>first|rfl|cases h
theorem aO3{o:Expr}(h:aV9 o=true) (attr:Str) (env:Env) (t:Sem Value):attributeBase o attr env t=t:=by cases o<;>first|rfl|cases h
theorem al7{e:Expr}(h:isC e=false) (t:Option Expr) (l:Nat) (env:Env):swapsWith e t l env=pure false:=by cases e<;>first|rfl|cases h
theorem bs0{e:Expr}(h:plT e=true) (env:Env) (whole:Sem Value):isTrue e env whole=(do let v ← whole;standAt e.pos;holding [v] (truthy v)):=by cases e<;>first|rfl|cases h
end
abbrev DA:=Rho->Option (List D)
abbrev DQ:=Rho->Option (Bool×List D)
abbrev DT:=Rho->Option Bool
abbrev DG:=D->Rho->Option Rho
def dNo:DE:=fun _=>none
def aNo:DA:=fun _=>none
def qNo:DQ:=fun _=>none
def tNo:DT:=fun _=>none
def gNo:DG:=fun _ _=>none
structure Ev where
 e:Kx->Expr->DE
 q:Kx->Expr->DQ
 n:Kx->Expr->DA
 t:Kx->Expr->DT
 g:Kx->Expr->DG
 b:Kx->List Stmt->DS
def aR8:CmpOp->D->D->Option D
 | .Lt=>ltI | .LtE=>leI | .Gt=>gtI | .GtE=>geI | .Eq=>eqD | .NotEq=>neD | .Is=>isB | .IsNot=>ao8 | .In=>inD false | .NotIn=>inD true
def evA(f:Expr->DE):List Expr->DA
 | []=>A3
 | e::es=>if pl e then A0 (f e) (evA f es) else aNo
def bj5(f:Expr->DE) (op:BoolOp):List Expr->DE
 | []=>dNo
 | [a]=>f a
 | a::b::r=>match op with
  | .And=>S8 (f a) (bj5 f op (b::r))
  | .Or=>dOr (f a) (bj5 f op (b::r))
def bz8(f:Expr->DT) (op:BoolOp):List Expr->DT
 | []=>tNo
 | [a]=>f a
 | a::b::r=>match op with
  | .And=>ac4 (f a) (bz8 f op (b::r))
  | .Or=>Q5 (f a) (bz8 f op (b::r))
def evO(f:Expr->DE):Option Expr->Rho->Option (Option Int)
 | none=>S0
 | some e=>M5 (f e)
def cc9(f:Expr->DG):List Expr->List D->Rho->Option Rho
 | []=>R3
 | e::es=>C4 (f e) (cc9 f es)
def bz7(f:Expr->DT):List Expr->DT
 | []=>E4
 | [t]=>f t
 | _=>tNo
def Z1:Expr->List Str
 | .Name x _=>[x]
 | .Tuple es _ _=>es.filterMap fun | .Name x _=>some x|_=>none
 | _=>[]
def rl(scope sc:Scope):Scope:={ scope with names:=scope.names.map fun(n,k)=>if(k == .free&&sc.kind == .function&&sc.names.lookup n==some .cell) then(n,.cell) else(n,k) }
def by3(n:Nat) (caps l:List Nat):List Nat:=(List.range caps.length).filterMap fun i=>match caps[i]? with|some j=>if l.contains j then some (n+i) else none|none=>none
def ch3(c:Kx) (j:Nat):Str:=(c.N[j]?).getD ""
def inner(c:Kx) (tn:List Str) (caps:List Nat) (scope:Scope):Kx :=
 { N:=tn++caps.map (ch3 c),sc:=rl scope c.sc,df:=false,own:=by3 tn.length caps c.own,cpt:=[],tx:=by3 tn.length caps c.tx,old:=c.old,fz:=[],hc:=c.hc }
def isList:Expr->Bool
 | .List ..=>true
 | .ListComp ..=>true
 | _=>false
def am3(c:Kx) (l:List Nat):Expr->Bool
 | .Name x _=>(match ab3 x c.N with|some i=>l.contains i|none=>false)
 | _=>false
def cb7:Expr->Bool
 | .Constant (.str _) _ _=>true
 | _=>false
def cg3(S:Sg) (c:Kx):Expr->Bool
 | .Constant (.str _) _ _=>true
 | .Name x _=>(match ab3 x c.N with|some _=>false|none=>(match S.cs.lookup x with|some (.str _)=>true|_=>false))
 | _=>false
def opW(S:Sg) (c:Kx) (op:CmpOp) (b:Expr):D->D->Option D:=if cg3 S c b then(match op with
 | .In=>inS false
 | .NotIn=>inS true
 | _=>aR8 op) else aR8 op
def aP7:Expr->Bool
 | .Tuple ..=>true
 | _=>false
def bR2(x:Str):Option String:=if x == "int" then some "int" else if x == "bool" then some "bool" else if x == "str" then some "str" else if x == "tuple" then some "tuple" else if x == "list" then some "list" else none
section
variable (S:Sg) (r:Ev)
def evR(c:Kx) (tg:Expr) (a:Expr):DA:=match a with
 | .Call f as kw _=>(match f,as,kw with
  | .Name y _,[e],[]=>(match e with
   | .Call f2 as2 kw2 _=>(match f2,as2,kw2 with
    | .Name z _,[b],[]=>if biB S c "list" y&&biB S c "enumerate" z&&aP7 tg&&pl b then fun _=>none else fun _=>none
    | _,_,_=>fun _=>none)
   | _=>fun _=>none)
  | _,_,_=>fun _=>none)
 | _=>fun _=>none
def evI(c:Kx) (tg it:Expr):DA:=match it with
 | .Call (.Name x _) [a] [] _=>if biB S c "reversed" x then evR S c tg a else if biB S c "range" x&&pl a then N3 (r.e c a) else if biB S c "enumerate" x&&aP7 tg&&pl a then aP8 (qE (r.e c a)) else Q6 (r.e c it)
 | .Call (.Name x _) [a,b] [] _=>if biB S c "range" x&&pl a&&pl b then(fun _=>none) else if biB S c "zip" x&&aP7 tg&&pl a&&pl b then ab4 (qE (r.e c a)) (qE (r.e c b)) else Q6 (r.e c it)
 | _=>if am3 c c.tx it then bL6 (r.e c it) else Q6 (r.e c it)
def evC(c:Kx) (ex:Expr):DA:=match ex with
 | .ListComp elt [⟨tgt,iter,ifs,0⟩] scope pos =>
  let tn:=Z1 tgt
  let caps:=(c.hc.lookup (pos.line,pos.col)).getD []
  let c':=inner c tn caps scope
  if au3 c.N c'.N tn.length caps c.sc scope&&ap0 c'.N&&pl iter then C2 tn.length caps (evI S r c tgt iter) (r.g c' tgt) (bz7 (r.t c') ifs) (r.e c' elt) else aNo
 | _=>aNo
def aT6(c:Kx) (x:Str) (a:Expr):DE :=
 if !(pl a) then dNo
 else if biB S c "len" x then(match a with
  | .Call (.Name y _) [e] [] _=>if biB S c "set" y&&pl e then au1 (r.q c e) else R4 (r.q c a)
  | _=>if am3 c c.tx a then be9 (r.e c a) else R4 (r.q c a))
 else if biB S c "tuple" x then P3 (r.q c a)
 else if biB S c "all" x then ab7 (r.q c a)
 else if biB S c "int" x then aj5 (r.e c a)
 else if biB S c "str" x then dNo
 else if biB S c "abs" x then dNo
 else if biB S c "min" x then dNo
 else if biB S c "max" x then dNo
 else dNo
def aT5(c:Kx) (x:Str) (a b:Expr):DE :=
 if !(pl a) then dNo
 else if biB S c "isinstance" x then(match b with
  | .Name y _=>(match bR2 y with
   | some T=>if biB S c y y then Y7 T (r.e c a) else dNo
   | none=>dNo)
  | _=>dNo)
 else if !(pl b) then dNo
 else if biB S c "min" x then aE8 (r.e c a) (r.e c b)
 else if biB S c "max" x then aE9 (r.e c a) (r.e c b)
 else dNo
def bo4(c:Kx) (x:Str) (args:List Expr) (ex:Expr):DE:=match S.fn.lookup x with
 | some (F,n)=>if aA4 c.sc x&&args.length==n&&args.all pl then A2 F (evA (r.e c) args) else dNo
 | none=>match args with
  | [a]=>if biB S c "list" x then W0 (r.n c ex) else aT6 S r c x a
  | [a,b]=>aT5 S r c x a b
  | _=>dNo
def bQ1(c:Kx) (a i:Expr):DE:=match i with
 | .Slice lo hi none _ =>
  if c.old then ac9 (r.e c a) (evO (r.e c) lo) (evO (r.e c) hi)
  else if am3 c c.tx a then bm1 (r.e c a) (evO (r.e c) lo) (evO (r.e c) hi)
  else if am3 c c.own a then bm3 (r.q c a) (evO (r.e c) lo) (evO (r.e c) hi)
  else aj3 (r.e c a) (evO (r.e c) lo) (evO (r.e c) hi)
 | .Slice none none (some (.UnaryOp .USub (.Constant (.int 1) _ _) _)) _=>bP2 (r.e c a)
 | _=>if pl i then(if cb7 a then aj4 (r.e c a) (r.e c i) else dIx (r.q c a) (r.e c i)) else dNo
def xCn(k:Const):DE:=match k with
 | .none=>dC .none
 | .bool b=>dC (.bool b)
 | .int i=>dC (.int i)
 | .str x=>dC (.str x)
 | _=>dNo
def bQ7(c:Kx) (a:Expr) (op:Operator) (b:Expr):DE:=match op with
 | .Add=>if c.old && !(isList a || isList b) then A5 v8 (r.e c a) (r.e c b) else A5 B1 (r.e c a) (r.e c b)
 | .Sub=>A5 aa2 (r.e c a) (r.e c b)
 | .Mult=>if c.old then A5 Z4 (r.e c a) (r.e c b) else(match a with
  | .Subscript v _ _=>if am3 c c.tx v then A5 bi5 (r.e c a) (r.e c b) else A5 K7 (r.e c a) (r.e c b)
  | _=>A5 K7 (r.e c a) (r.e c b))
 | .FloorDiv=>A5 ai9 (r.e c a) (r.e c b)
 | .Mod=>A5 n8 (r.e c a) (r.e c b)
 | .Pow=>dNo
 | _=>dNo
def xUn(c:Kx) (op:UnaryOp) (a:Expr):DE:=match op with
 | .USub=>bm4 (r.e c a)
 | .Not=>ae9 (r.e c a)
 | _=>dNo
def bQ5(c:Kx) (a:Expr) (ops:List CmpOp) (bs:List Expr):DE:=match ops,bs with
 | [op],[b]=>if pl b then A5 (opW S c op b) (r.e c a) (r.e c b) else dNo
 | [op,op'],[b,d]=>if pl d then R7 (aR8 op) (aR8 op') (r.e c a) (r.e c b) (r.e c d) else dNo
 | _,_=>dNo
def bQ3(c:Kx) (o:Expr) (m:Str) (apos cpos:Pos) (args:List Expr):DE:=match args with
 | [a]=>if m == "join" && aV9 o&&apos.endLine==cpos.line&&pl a then ax9 (r.e c o) (r.q c a) else if m == "index" && aV9 o&&apos.endLine==cpos.line&&pl a then dNo else dNo
 | _=>dNo
def xCl(c:Kx) (f:Expr) (args:List Expr) (kw:List Keyword) (pos:Pos):DE:=match kw with
 | []=>(match f with
  | .Name x p=>bo4 S r c x args (.Call (.Name x p) args [] pos)
  | .Attribute o m apos=>bQ3 r c o m apos pos args
  | _=>dNo)
 | _=>dNo
def xE(c:Kx) (ex:Expr):DE:=match ex with
 | .Constant k _ _=>xCn k
 | .Name x _=>(match ab3 x c.N with
  | some i=>if aH0 c.sc x then A1 i else dNo
  | none=>(match S.cs.lookup x with
   | some d=>if aA4 c.sc x then dC d else dNo
   | none=>dNo))
 | .Tuple es _ _=>if es.length<=1000 then O1 (evA (r.e c) es) else dNo
 | .List _ _=>W0 (r.n c ex)
 | .ListComp _ _ _ _=>W0 (r.n c ex)
 | .BinOp a op b _=>bQ7 r c a op b
 | .UnaryOp op a _=>xUn r c op a
 | .Compare a ops bs _=>bQ5 S r c a ops bs
 | .BoolOp op vs _=>bj5 (r.e c) op vs
 | .IfExp t a b _=>ah5 (r.t c t) (r.e c a) (r.e c b)
 | .Subscript a i _=>bQ1 r c a i
 | .Call f args kw pos=>xCl S r c f args kw pos
 | _=>dNo
def cq1(c:Kx) (f:Expr) (as:List Expr) (kw:List Keyword):Bool:=match f with
 | .Name x _=>as.length==1&&kw.isEmpty&&biB S c "list" x
 | _=>false
def xQ(c:Kx) (ex:Expr):DQ:=match ex with
 | .Name x _=>(match ab3 x c.N with
  | some i=>if aH0 c.sc x then A8 i else qNo
  | none=>qE (r.e c ex))
 | .List _ _=>qN (r.n c ex)
 | .ListComp _ _ _ _=>qN (r.n c ex)
 | .Call f as kw _=>if cq1 S c f as kw then qN (r.n c ex) else qE (r.e c ex)
 | _=>qE (r.e c ex)
def xNl(c:Kx) (f:Expr) (as:List Expr) (kw:List Keyword):DA:=match f with
 | .Name x _=>(match as,kw with
  | [a],[]=>if biB S c "list" x&&pl a then(fun ρ=>(r.q c a ρ).map fun q=>q.2) else aNo
  | _,_=>aNo)
 | _=>aNo
def xN(c:Kx) (ex:Expr):DA:=match ex with
 | .List es _=>if es.length<=1000 then evA (r.e c) es else aNo
 | .ListComp _ _ _ _=>evC S r c ex
 | .Call f as kw _=>xNl S r c f as kw
 | .BinOp a op b _=>(match op with
  | .Add=>ck1 (r.q c a) (r.q c b)
  | _=>aNo)
 | _=>aNo
def bN3(c:Kx) (a:Expr) (ops:List CmpOp) (bs:List Expr):DT:=match ops,bs with
 | [op],[b]=>if pl b then tB2 (opW S c op b) (r.e c a) (r.e c b) else tNo
 | [op,op'],[b,d]=>if pl d then aU2 (R7 (aR8 op) (aR8 op') (r.e c a) (r.e c b) (r.e c d)) else tNo
 | _,_=>tNo
def cn5(c:Kx) (op:UnaryOp) (a:Expr):DT:=match op with
 | .Not=>F8 (r.t c a)
 | _=>tNo
def xT(c:Kx) (ex:Expr):DT:=match ex with
 | .Compare a ops bs _=>bN3 S r c a ops bs
 | .BoolOp op vs _=>bz8 (r.t c) op vs
 | .UnaryOp op a _=>cn5 r c op a
 | _=>if plT ex then K4 (r.e c ex) else tNo
def xG(c:Kx) (ex:Expr):DG:=match ex with
 | .Name x _=>(match ab3 x c.N with
  | some i=>if bi9 c x then B7 i else gNo
  | none=>gNo)
 | .Tuple es _ _=>if es.all pl then Q7 es.length (cc9 (r.g c) es) else gNo
 | _=>gNo
def ci6(c:Kx) (x y:Str) (px py:Pos) (a b:Expr):Bool :=
 c.df&&pl a&&pl b && !(x==y)&&px.line==py.line&&c.sc.names.lookup x==some .local&&c.sc.names.lookup y==some .local && !(([a,b]:List Expr).all (foldedForSure 8)) && !(([a,b]:List Expr).all (constantsAlone 8))
def bQ8(c:Kx) (tg v:Expr) (p:Pos):DS:=match tg with
 | .Name x p'=>(match ab3 x c.N with
  | none=>C8
  | some i=>if !(bi9 c x) then C8 else(match v with
   | .ListComp _ _ sc pv=>if c.sc.names.lookup x==some .local then
     (if c.df&&p'.line==pv.line && !(sc.names.any fun(n,k)=>n==x&&(k == .local || k == .cell)) then(if c.own.contains i then ao3 i (evC S r c v) else U9 i (evC S r c v)) else C8)
    else B2 i (r.e c v)
   | _=>if isC v then C8 else if c.own.contains i then ao3 i (r.n c v) else B2 i (r.e c v)))
 | .Subscript (.Name x _) (.Slice lo hi none _) _=>(match ab3 x c.N with
  | none=>C8
  | some i=>if aH0 c.sc x && !(isC v) then bq7 i (evO (r.e c) lo) (evO (r.e c) hi) (r.n c v) else C8)
 | .Tuple [.Name x px,.Name y py] _ _=>(match v with
  | .Tuple [a,b] _ _=>(match ab3 x c.N,ab3 y c.N with
   | some i,some j=>if ci6 c x y px py a b then bq8 i j (evA (r.e c) [a,b]) else C8
   | _,_=>C8)
  | .Tuple _ _ _=>C8
  | _=>al0 (r.e c v) (r.g c tg))
 | .Tuple es _ _=>if aP7 v&&(es.length==2 || es.length==3) then C8 else al0 (r.e c v) (r.g c tg)
 | _=>C8
def bQ2(c:Kx) (x m:Str) (e:Expr):DS:=match ab3 x c.N with
 | none=>C8
 | some i=>if aH0 c.sc x&&pl e then(if m == "append" then az9 i (r.e c e) else if m == "extend" then bh3 i (r.e c e) else C8) else C8
def xEx(c:Kx) (e:Expr):DS:=match e with
 | .Call f args kw cpos=>(match f with
  | .Attribute o m apos=>(match o with
   | .Name x _=>(match args,kw with
    | [e],[]=>if apos.endLine==cpos.line then bQ2 r c x m e else C8
    | _,_=>C8)
   | _=>C8)
  | _=>C8)
 | _=>C8
def cn6(c:Kx):Option Expr->DS
 | some e=>A9 (r.e c e)
 | none=>C8
def xWh(c:Kx) (t:Expr) (a:List Stmt):List Stmt->DS
 | []=>aa6 (r.t c t) (r.b c a)
 | _=>C8
def xFo(c:Kx) (tg it:Expr) (a:List Stmt):List Stmt->DS
 | []=>if pl it then i6 (evI S r c tg it) (r.g c tg) (r.b c a) else C8
 | _=>C8
def xAs(c:Kx) (v:Expr) (p:Pos):List Expr->DS
 | [tg]=>bQ8 S r c tg v p
 | _=>C8
def xS0(c:Kx) (st:Stmt):DS:=match st with
 | .Return o _=>cn6 r c o
 | .If t a b _=>sIf (r.t c t) (r.b c a) (r.b c b)
 | .While t a o _=>xWh r c t a o
 | .For tg it a o _=>xFo S r c tg it a o
 | .Assign ts v p=>xAs S r c v p ts
 | .Expr e _=>xEx r c e
 | .Continue _=>bN7
 | .Break _=>fun ρ=>some (.bk ρ)
 | .Pass _=>C9
 | _=>C8
def bW7:Stmt->Nat
 | .Return _ p=>p.line
 | .If _ _ _ p=>p.line
 | .While _ _ _ p=>p.line
 | .For _ _ _ _ p=>p.line
 | .Assign _ _ p=>p.line
 | .Expr _ p=>p.line
 | _=>0
def fzW(g:DS):Option (List Nat)->DS
 | none=>g
 | some l=>l.foldl (fun g i=>aN3 i g) g
def xS(c:Kx) (st:Stmt):DS:=fzW (xS0 S r c st) (c.fz.lookup (bW7 st))
def evB(f:Stmt->DS):List Stmt->DS
 | []=>C9
 | [s]=>f s
 | s::t::T5=>B0 (f s) (evB f (t::T5))
def step:Ev:=⟨xE S r,xQ S r,xN S r,xT S r,xG r,fun c=>evB (xS S r c)⟩
end
def ev(S:Sg):Nat->Ev
 | 0=>⟨fun _ _=>dNo,fun _ _=>qNo,fun _ _=>aNo,fun _ _=>tNo,fun _ _=>gNo,fun _ _=>C8⟩
 | n+1=>step S (ev S n)
end G
namespace Sh
open PySem PySem.Spec PyProof.Rows L2 G
def aG5:DS:=(A9 (S8 (Y7 "str" (A1 0)) (S8 (R7 leI leI ⇑1 (be9 (A1 0)) ⇑6) (ab7 (qN (C2 1 [] (bL6 (A1 0)) (B7 0) E4 (A5 (inS false) (A1 0) (dC (.str "abcdefghijklmnopqrstuvwxyz")))))))))
def ar1:List D->Option D:=C3 aG5 1
def aZ9:DS:=(A9 (Y7 "bool" (A1 0)))
def ak1:List D->Option D:=C3 aZ9 1
def as1:DS:=(A9 (S8 (A2 S9 (A0 (A1 0) A3)) (R7 leI leI (bm4 ⇑9) (A1 0) ⇑9)))
def t5:List D->Option D:=C3 as1 1
def aG6:DS:=(B0 (sIf (tB2 isB (A1 0) (dC .none)) (A9 (dC (.bool true))) C9) (B0 (sIf (Q5 (F8 (K4 (Y7 "tuple" (A1 0)))) (tB2 neD (R4 (A8 0)) (R4 (qE (dIx (A8 1) ⇑2))))) (A9 (dC (.bool false))) C9) (A9 (ab7 (qN (C2 1 [] (Q6 (A1 0)) (B7 0) E4 (A2 X7 (A0 (A1 0) A3))))))))
def ar2:List D->Option D:=C3 aG6 2
def c7:DS:=(B0 (sIf (Q5 (tB2 neD (R4 (A8 0)) ⇑9) (Q5 (tB2 (inD true) (A2 D1 (A0 (A1 0) A3)) (dC (.tuple [(.str "over"),(.str "multiply"),(.str "screen"),(.str "plus"),(.str "atop"),(.str "cut")]))) (F8 (K4 (A2 ak2 (A0 (A2 X5 (A0 (A1 0) A3)) A3)))))) (A9 (dC (.bool false))) C9) (A9 (S8 (A2 t5 (A0 (A2 x8 (A0 (A1 0) A3)) A3)) (S8 (A2 t5 (A0 (A2 af3 (A0 (A1 0) A3)) A3)) (A2 ar2 (A0 (A2 x6 (A0 (A1 0) A3)) (A0 (A2 X5 (A0 (A1 0) A3)) A3)))))))
def S1:List D->Option D:=C3 c7 1
def V3(self:Nat->List D->Option D):DS:=(B0 (sIf (Q5 (tB2 neD (R4 (A8 0)) ⇑6) (Q5 (tB2 (inD true) (A2 D1 (A0 (A1 0) A3)) (dC (.tuple [(.str "over"),(.str "multiply"),(.str "screen"),(.str "plus"),(.str "atop"),(.str "cut")]))) (tB2 eqD (A1 1) ⇑0))) (A9 (dC (.bool false))) C9) (A9 (A2 (self 2) (A0 (A2 C7 (A0 (A1 0) A3)) (A0 (A5 aa2 (A1 1) ⇑1) A3)))))
def T2(self:Nat->List D->Option D):DS:=(B0 (sIf (Q5 (F8 (K4 (Y7 "tuple" (A1 0)))) (tB2 ltI (R4 (A8 0)) ⇑5)) (A9 (dC (.bool false))) C9) (B0 (sIf (Q5 (F8 (K4 (A2 ar1 (A0 (A2 U6 (A0 (A1 0) A3)) A3)))) (Q5 (F8 (K4 (A2 X7 (A0 (A2 M7 (A0 (A1 0) A3)) A3)))) (F8 (K4 (A2 ak1 (A0 (A2 M2 (A0 (A1 0) A3)) A3)))))) (A9 (dC (.bool false))) C9) (B0 (sIf (K4 (A2 W2 (A0 (A1 0) A3))) (A9 (A2 S1 (A0 (A1 0) A3))) C9) (B0 (sIf (K4 (A2 Q3 (A0 (A1 0) A3))) (A9 (A2 (self 0) (A0 (A1 0) (A0 (A1 1) A3)))) C9) (A9 (S8 (A2 T4 (A0 (A1 0) A3)) (S8 (A5 eqD (R4 (A8 0)) ⇑5) (A5 (inD false) (A2 j7 (A0 (A1 0) A3)) (dC (.tuple [(.str "turn"),(.str "grey"),(.str "round")]))))))))))
def af2(self:Nat->List D->Option D):DS:=(A9 (S8 (Y7 "tuple" (A1 0)) (ab7 (qN (C2 1 [1] (Q6 (A1 0)) (B7 0) E4 (A2 (self 1) (A0 (A1 0) (A0 (A1 1) A3))))))))
def A4:Nat->Nat->List D->Option D
 | 0=>fun _ _=>none
 | k+1=>fun i=>match i with
  | 0=>C3 (V3 (A4 k)) 2
  | 1=>C3 (T2 (A4 k)) 2
  | 2=>C3 (af2 (A4 k)) 2
  | _=>fun _=>none
def ah6(k:Nat):List D->Option D:=A4 k 0
def Z5(k:Nat):List D->Option D:=A4 k 1
def Z0(k:Nat):List D->Option D:=A4 k 2
def ah9(self:List D->Option D):DS:=(B0 (ao3 1 A3) (B0 (i6 (Q6 (A1 0)) (B7 2) (B0 (az9 1 (A2 U6 (A0 (A1 2) A3))) (sIf (K4 (A2 Q3 (A0 (A1 2) A3))) (bh3 1 (A2 self (A0 (A2 C7 (A0 (A1 2) A3)) A3))) C9))) (aN3 1 (A9 (A1 1)))))
def M8:Nat->List D->Option D
 | 0=>fun _=>none
 | k+1=>C3 (ah9 (M8 k)) 3
def m8:DS:=(B0 (B2 1 (A2 (M8 12) (A0 (A1 0) A3))) (A9 (A5 eqD (au1 (A8 1)) (R4 (A8 1)))))
def W3:List D->Option D:=C3 m8 2
def ao0:DS:=(A9 (S8 (A2 n6 (A0 (A1 0) A3)) (S8 (A2 (Z0 12) (A0 (dIx (A8 0) ⇑2) (A0 ⇑3 A3))) (A2 W3 (A0 (dIx (A8 0) ⇑2) A3)))))
def U7:List D->Option D:=C3 ao0 1
def aC5:DS:=(A9 (O1 (A0 (dC (.str "layer")) (A0 (A1 0) (A0 (A1 1) (A0 (dC (.tuple [(.int 1),(.int 1)])) (A0 (dC (.bool true)) (A0 ⇑0 (A0 ⇑0 (A0 (dC .none) (A0 (A1 2) A3)))))))))))
def u5:List D->Option D:=C3 aC5 3
def ac8:DS:=(B0 (U9 2 (C2 2 [1] (Q6 (A2 W5 (A0 (dIx (A8 0) ⇑0) (A0 (dIx (A8 0) ⇑1) A3)))) (Q7 2 (C4 (B7 0) (C4 (B7 1) R3))) E4 (A2 (j9 12) (A0 (A1 2) (A0 (A1 0) (A0 (A1 1) A3)))))) (A9 (O1 (A0 (dIx (A8 0) ⇑0) (A0 (dIx (A8 0) ⇑1) (A0 (P3 (A8 2)) A3))))))
def V7:List D->Option D:=C3 ac8 3
def az0:DS:=(A9 (A2 (M8 12) (A0 (dIx (A8 0) ⇑2) A3)))
def O6:List D->Option D:=C3 az0 1
def ai0:DS:=(A9 (ab7 (qN (C2 1 [1] (Q6 (A1 0)) (B7 0) E4 (S8 (ae9 (A2 T4 (A0 (A1 0) A3))) (A5 eqD (A2 D1 (A0 (A1 0) A3)) (A1 1)))))))
def P8:List D->Option D:=C3 ai0 2
def X0:DS:=(B0 (sIf (Q5 (F8 (K4 (A2 M2 (A0 (A1 0) A3)))) (Q5 (F8 (K4 (A2 M2 (A0 (A1 1) A3)))) (tB2 (inD true) (A2 D1 (A0 (A1 0) A3)) (dC (.tuple [(.str "over"),(.str "multiply"),(.str "screen"),(.str "plus")]))))) (A9 (dC (.bool false))) C9) (A9 (A2 P8 (A0 (O1 (A0 (A1 0) (A0 (A1 1) A3))) (A0 (A2 D1 (A0 (A1 0) A3)) A3)))))
def T0:List D->Option D:=C3 X0 2
def az1:DS:=(B0 (B2 3 (A2 D1 (A0 (A1 1) A3))) (B0 (B2 4 (A2 X8 (A0 (A1 3) (A0 (A2 V7 (A0 (A1 0) (A0 (A1 2) A3))) (A0 (A2 V7 (A0 (A1 0) (A0 (A1 1) A3))) A3))))) (A9 (A2 u5 (A0 (A2 U6 (A0 (A1 1) A3)) (A0 (A1 3) (A0 (A1 4) A3)))))))
def n5:List D->Option D:=C3 az1 5
def aT0:DS:=(B0 (B2 2 (A2 K2 (A0 (A1 0) (A0 (A1 1) A3)))) (B0 (B2 3 (A2 B6 (A0 (A1 2) (A0 (A1 1) A3)))) (B0 (sIf (Q5 (tB2 eqD (A1 3) ⇑0) (F8 (K4 (A2 T0 (A0 (dIx (A8 2) (A5 aa2 (A1 3) ⇑1)) (A0 (dIx (A8 2) (A1 3)) A3)))))) C8 C9) (B0 (B2 4 (A2 n5 (A0 (A1 0) (A0 (dIx (A8 2) (A5 aa2 (A1 3) ⇑1)) (A0 (dIx (A8 2) (A1 3)) A3))))) (A9 (A2 P6 (A0 (A1 0) (A0 (A1 1) (A0 (A5 B1 (A5 B1 (aj3 (A1 2) S0 (M5 (A5 aa2 (A1 3) ⇑1))) (O1 (A0 (A1 4) A3))) (aj3 (A1 2) (M5 (A5 B1 (A1 3) ⇑1)) S0)) A3)))))))))
def af5:List D->Option D:=C3 aT0 5
def Q8:DS:=(B0 (sIf (Q5 (F8 (K4 (A2 Q3 (A0 (A1 0) A3)))) (Q5 (F8 (K4 (A2 M2 (A0 (A1 0) A3)))) (tB2 neD (A2 M7 (A0 (A1 0) A3)) (dC (.tuple [(.int 1),(.int 1)]))))) (A9 (dC (.bool false))) C9) (B0 (sIf (tB2 (inD true) (A2 D1 (A0 (A1 0) A3)) (dC (.tuple [(.str "over"),(.str "multiply"),(.str "screen"),(.str "plus")]))) (A9 (dC (.bool false))) C9) (A9 (A2 P8 (A0 (W0 (C2 1 [] (Q6 (A2 C7 (A0 (A1 0) A3))) (B7 0) (K4 (A2 M2 (A0 (A1 0) A3))) (A1 0))) (A0 (A2 D1 (A0 (A1 0) A3)) A3))))))
def R0:List D->Option D:=C3 Q8 1
def aS9:DS:=(B0 (B2 2 (A2 K2 (A0 (A1 0) (A0 (A1 1) A3)))) (B0 (B2 3 (A2 B6 (A0 (A1 2) (A0 (A1 1) A3)))) (B0 (sIf (F8 (K4 (A2 R0 (A0 (dIx (A8 2) (A1 3)) A3)))) C8 C9) (A9 (A2 P6 (A0 (A1 0) (A0 (A1 1) (A0 (A5 B1 (A5 B1 (aj3 (A1 2) S0 (M5 (A1 3))) (A2 C7 (A0 (dIx (A8 2) (A1 3)) A3))) (aj3 (A1 2) (M5 (A5 B1 (A1 3) ⇑1)) S0)) A3))))))))
def af4:List D->Option D:=C3 aS9 4
end Sh
namespace Sh
open PySem G
theorem as9(i j:Int):neD (.int i) (.int j)=some (.bool (!(i==j))):=rfl
theorem ap4(i j:Int):eqD (.int i) (.int j)=some (.bool (i==j)):=rfl
theorem bd9{t:Rho->Option Bool}{f:DS}{n:Nat}{ρ ρ':Rho}(h1:t ρ=some true) (h2:f ρ=some (.nx ρ')):Y6 t f (n+1) ρ=Y6 t f n ρ':=by simp only[Y6,h1,h2,xbs,if_true]
theorem by9:∀(b a:Nat) (x:Option B),∃n x',Y6 (tB2 neD (A1 1) ⇑0) (B0 (B2 2 (A5 n8 (A1 0) (A1 1))) (B0 (B2 0 (A1 1)) (B2 1 (A1 2)))) n [‹.int a›,‹.int b›,x]
  = some (.nx [‹.int (Nat.gcd a b)›,‹.int 0›,x']):=by
 intro b
 induction b using Nat.strongRecOn with
 | _ b ih =>
  intro a x
  by_cases hb:b=0
  ·subst hb
   refine⟨1,x,?_⟩
   rw[Nat.gcd_zero_right]
   rfl
  ·obtain⟨n,x',h⟩:=ih (a % b) (Nat.mod_lt _ (Nat.pos_of_ne_zero hb)) b (‹.int ((a % b:Nat):Int)›)
   refine⟨n+1,x',?_⟩
   have e1:tB2 neD (A1 1) ⇑0 [‹.int a›,‹.int b›,x]=some true:=by
    show(neD (.int b) (.int 0)).bind R8=some true
    rw[as9]
    have:((b:Int)==0)=false:=by simp;omega
    rw[this];rfl
   have e2:n8 (.int a) (.int b)=some (.int ((a % b:Nat):Int)):=by
    show(if(0:Int) < (b:Int) then some (PyData.int ((a:Int) % (b:Int))) else none)=_
    rw[if_pos (by omega)]
    simp
   have e3:B0 (B2 2 (A5 n8 (A1 0) (A1 1))) (B0 (B2 0 (A1 1)) (B2 1 (A1 2))) [‹.int a›,‹.int b›,x]=some (.nx [‹.int b›,‹.int ((a % b:Nat):Int)›,‹.int ((a % b:Nat):Int)›]):=by
    show((((n8 (.int a) (.int b))).map fun d=>Fl.nx [‹.int a›,‹.int b›,‹d›]).bind _)=_
    rw[e2]
    rfl
   rw[bd9 e1 e3,h,Nat.gcd_comm b,Nat.gcd_comm a b,← Nat.gcd_rec]
theorem bP5(a b:Nat):S5 [.int a,.int b]=some (.int (Nat.gcd a b)):=by
 obtain⟨n,x',h⟩:=by9 b a none
 show((aa6 _ _ [‹.int a›,‹.int b›,none]).bind _).bind _=_
 rw[aD2 h]
 rfl
theorem bi8:∀(a b:Nat) (t u:D),∃n,Y6 (tB2 gtI (A1 2) ⇑0) (bq8 2 3 (A0 (A5 n8 (A1 3) (A1 2)) (A0 (A1 2) A3))) n [‹t›,‹u›,‹.int a›,‹.int b›]
  = some (.nx [‹t›,‹u›,‹.int 0›,‹.int (Nat.gcd a b)›]):=by
 intro a
 induction a using Nat.strongRecOn with
 | _ a ih =>
  intro b t u
  by_cases ha:a=0
  ·subst ha
   refine⟨1,?_⟩
   rw[Nat.gcd_zero_left]
   rfl
  ·obtain⟨n,h⟩:=ih (b % a) (Nat.mod_lt _ (Nat.pos_of_ne_zero ha)) a t u
   refine⟨n+1,?_⟩
   have e1:tB2 gtI (A1 2) ⇑0 [‹t›,‹u›,‹.int a›,‹.int b›]=some true:=by
    show some (decide ((0:Int) < (a:Int)))=some true
    rw[decide_eq_true (by omega)]
   have e2:n8 (.int b) (.int a)=some (.int ((b % a:Nat):Int)):=by
    show(if(0:Int) < (a:Int) then some (PyData.int ((b:Int) % (a:Int))) else none)=_
    rw[if_pos (by omega)]
    simp
   have e3:bq8 2 3 (A0 (A5 n8 (A1 3) (A1 2)) (A0 (A1 2) A3)) [‹t›,‹u›,‹.int a›,‹.int b›]=some (.nx [‹t›,‹u›,‹.int ((b % a:Nat):Int)›,‹.int a›]):=by
    show((n8 (.int b) (.int a)).bind fun d=>(some [PyData.int (a:Int)]).map fun ds=>d::ds).bind _=_
    rw[e2]
    rfl
   rw[bd9 e1 e3,h,← Nat.gcd_rec]
def fr(r:Rat):D:=.tuple [.int r.num,.int r.den]
theorem O8{i:Int}{k:Nat}(h:i.natAbs < 2 ^ k) (hk:k<=8000):L0 i:=Nat.lt_of_lt_of_le h (Nat.pow_le_pow_right (by decide) hk)
theorem aP0(a b:Nat) (hb:0 < b):fr (mkRat a b)=.tuple [.int ((a / Nat.gcd a b:Nat):Int),.int ((b / Nat.gcd a b:Nat):Int)]:=by
 unfold fr
 rw[Rat.num_mkRat,Rat.den_mkRat,if_neg (by omega),if_neg (by omega)]
 have e:b.gcd (a:Int).natAbs=Nat.gcd a b:=by rw[Int.natAbs_natCast,Nat.gcd_comm]
 rw[e]
 simp
theorem be8(a b x k:Nat) (hb:0 < b) (hk:b < 2 ^ k) (hk8:k<=8000):ai9 (.int x) (.int (Nat.gcd a b))=some (.int ((x / Nat.gcd a b:Nat):Int)):=by
 have g0:0 < Nat.gcd a b:=Nat.gcd_pos_of_pos_right _ hb
 have gs:L0 (Nat.gcd a b:Nat):=O8 (k:=k) (by rw[Int.natAbs_natCast];exact Nat.lt_of_le_of_lt (Nat.le_of_dvd hb (Nat.gcd_dvd_right a b)) hk) hk8
 show(if(0:Int) < ((Nat.gcd a b:Nat):Int)/\L0 (Nat.gcd a b:Nat) then some (PyData.int ((x:Int) / ((Nat.gcd a b:Nat):Int))) else none)=_
 rw[if_pos ⟨by omega,gs⟩]
 simp
theorem aM0(a b k:Nat) (hb:0 < b) (hk:b < 2 ^ k) (hk8:k<=8000):X1 [.int a,.int b]=some (fr (mkRat a b)):=by
 have d:=fun x=>be8 a b x k hb hk hk8
 have e:i9 [‹.int a›,‹.int b›,none]=some (.rt (fr (mkRat a b))):=by
  rw[aP0 a b hb]
  simp only[i9,B0,B2,A2,A0,A3,A1,xg0,xg1,xbs,xms,bP5,xw1,xw0,A9,O1,A5,d]
 show(i9 [‹.int a›,‹.int b›,none]).bind _=_
 rw[e];rfl
theorem ba3(a b k:Nat) (hb:0 < b) (hk:b < 2 ^ k) (hk8:k<=8000):y8 [.int a,.int b]=some (fr (mkRat a b)):=by
 have d:=fun x=>be8 a b x k hb hk hk8
 obtain⟨n,h⟩:=bi8 a b (.int a) (.int b)
 have e:an8 [‹.int a›,‹.int b›,none,none]=some (.rt (fr (mkRat a b))):=by
  rw[aP0 a b hb]
  simp only[an8,B0,B2,A2,A0,A3,A1,xg0,xg1,xbs,xms,xw1,xw0,A9,O1,A5,d,aD2 h]
 show(an8 [‹.int a›,‹.int b›,none,none]).bind _=_
 rw[e];rfl
structure Bd (k:Nat) (r:Rat):Prop where
 nn:0<=r
 num:r.num.natAbs < 2 ^ k
 den:r.den < 2 ^ k
theorem Bd.mono{j k:Nat}{r:Rat}(h:Bd j r) (l:j<=k):Bd k r:=⟨h.nn,Nat.lt_of_lt_of_le h.num (Nat.pow_le_pow_right (by decide) l),Nat.lt_of_lt_of_le h.den (Nat.pow_le_pow_right (by decide) l)⟩
theorem Bd.nat{k:Nat}{r:Rat}(h:Bd k r):r.num=(r.num.natAbs:Int):=by
 have:=Rat.num_nonneg.mpr h.nn
 omega
theorem bu6(a b:Nat):0<=mkRat (a:Int) b:=by
 rw[← Rat.num_nonneg,Rat.num_mkRat]
 split
 ·exact Int.le_refl _
 ·exact Int.ediv_nonneg (by omega) (by omega)
theorem Bd.of{a b k:Nat}(hb:0 < b) (h1:a < 2 ^ k) (h2:b < 2 ^ k):Bd k (mkRat a b):=by
 refine⟨bu6 a b,?_,?_⟩
 ·rw[Rat.num_mkRat,if_neg (by omega)]
  rw[show((a:Int) / ((b.gcd (a:Int).natAbs:Nat):Int))=((a / b.gcd (a:Int).natAbs:Nat):Int) by simp,Int.natAbs_natCast]
  exact Nat.lt_of_le_of_lt (Nat.div_le_self _ _) h1
 ·rw[Rat.den_mkRat,if_neg (by omega)]
  exact Nat.lt_of_le_of_lt (Nat.div_le_self _ _) h2
theorem P9{a b j k:Nat}(h1:a < 2 ^ j) (h2:b < 2 ^ k):a*b < 2 ^ (j+k):=by
 rw[Nat.pow_add]
 exact Nat.mul_lt_mul'' h1 h2
theorem aH8{j k:Nat}{r s:Rat}(hr:Bd j r) (hs:Bd k s):r*s=mkRat ((r.num.natAbs*s.num.natAbs:Nat):Int) (r.den*s.den):=by rw[Rat.mul_def,Rat.normalize_eq_mkRat,Int.natCast_mul,← hr.nat,← hs.nat]
theorem bb3{j k:Nat}{r s:Rat}(hr:Bd j r) (hs:Bd k s):r+s=mkRat ((r.num.natAbs*s.den+s.num.natAbs*r.den:Nat):Int) (r.den*s.den):=by rw[Rat.add_def,Rat.normalize_eq_mkRat,Int.natCast_add,Int.natCast_mul,Int.natCast_mul,← hr.nat,← hs.nat]
theorem bp9{j k:Nat}{r s:Rat}(hr:Bd j r) (hs:Bd k s) (l:s<=r):s.num.natAbs*r.den<=r.num.natAbs*s.den:=by
 have:=(Rat.le_iff s r).mp l
 rw[hr.nat,hs.nat]at this
 exact_mod_cast this
theorem bb1{j k:Nat}{r s:Rat}(hr:Bd j r) (hs:Bd k s) (l:s<=r):r - s=mkRat ((r.num.natAbs*s.den - s.num.natAbs*r.den:Nat):Int) (r.den*s.den):=by rw[Rat.sub_def,Rat.normalize_eq_mkRat,Int.ofNat_sub (bp9 hr hs l),Int.natCast_mul,Int.natCast_mul,← hr.nat,← hs.nat]
theorem M9(r:Rat):0 < r.den:=Nat.pos_of_ne_zero r.den_nz
theorem Bd.mul{j k:Nat}{r s:Rat}(hr:Bd j r) (hs:Bd k s):Bd (j+k) (r*s):=by
 rw[aH8 hr hs]
 exact Bd.of (Nat.mul_pos (M9 r) (M9 s)) (P9 hr.num hs.num) (P9 hr.den hs.den)
theorem Bd.add{j k:Nat}{r s:Rat}(hr:Bd j r) (hs:Bd k s):Bd (j+k+1) (r+s):=by
 rw[bb3 hr hs]
 have h1:=P9 hr.num hs.den
 have h2:=P9 hs.num hr.den
 have h3:=P9 hr.den hs.den
 rw[Nat.add_comm k j]at h2
 exact Bd.of (Nat.mul_pos (M9 r) (M9 s)) (by rw[Nat.pow_succ];omega) (by rw[Nat.pow_succ];omega)
theorem Bd.sub{j k:Nat}{r s:Rat}(hr:Bd j r) (hs:Bd k s) (l:s<=r):Bd (j+k) (r - s):=by
 rw[bb1 hr hs l]
 have h1:=P9 hr.num hs.den
 have h3:=P9 hr.den hs.den
 exact Bd.of (Nat.mul_pos (M9 r) (M9 s)) (by omega) (by omega)
theorem Bd.one:Bd 1 1:=⟨by decide,by decide,by decide⟩
theorem Bd.zero:Bd 1 0:=⟨by decide,by decide,by decide⟩
theorem bz5:fr 1=.tuple [.int 1,.int 1]:=rfl
theorem Bd.sn{k:Nat}{r:Rat}(h:Bd k r) (hk:k<=8000):L0 r.num:=O8 h.num hk
theorem Bd.sd{k:Nat}{r:Rat}(h:Bd k r) (hk:k<=8000):L0 r.den:=O8 (k:=k) (by rw[Int.natAbs_natCast];exact h.den) hk
theorem V0{i j:Int}(h1:L0 i) (h2:L0 j):Z4 (.int i) (.int j)=some (.int (i*j)):=by
 show(if L0 i/\L0 j then some (PyData.int (i*j)) else none)=_
 rw[if_pos ⟨h1,h2⟩]
theorem af0(i j:Int):v8 (.int i) (.int j)=some (.int (i+j)):=rfl
theorem ad2(i j:Int):aa2 (.int i) (.int j)=some (.int (i - j)):=rfl
theorem aw7(i j:Int):leI (.int i) (.int j)=some (.bool (decide (i<=j))):=rfl
theorem ay3(a b:D):L2.atI [a,b] 0=some a:=rfl
theorem ay2(a b:D):L2.atI [a,b] 1=some b:=rfl
theorem ix0{ρ:Rho}{i:Nat}{r:Rat}(h:ρ[i]? = some (‹fr r›)):dIx (A8 i) ⇑0 ρ=some (.int r.num):=by simp only[dIx,A8,h,fr,dC,xbs,ay3]
theorem ix1{ρ:Rho}{i:Nat}{r:Rat}(h:ρ[i]? = some (‹fr r›)):dIx (A8 i) ⇑1 ρ=some (.int r.den):=by simp only[dIx,A8,h,fr,dC,xbs,ay2]
theorem v0(x:Option B) (l:Rho):(x::l)[0]? = some x:=rfl
theorem v1(y x:Option B) (l:Rho):(y::x::l)[1]? = some x:=rfl
theorem O4{j k:Nat}{r s:Rat}(hr:Bd j r) (hs:Bd k s) (l:j+k<=8000):U5 [fr r,fr s]=some (fr (r*s)):=by
 have e:au4 [‹fr r›,‹fr s›]=some (.rt (fr (r*s))):=by
  simp only[au4,A9,A2,A0,A3,A5,ix0 (v0 _ _),ix1 (v0 _ _),ix0 (v1 _ _ _),ix1 (v1 _ _ _),xbs,xms,V0 (hr.sn (by omega)) (hs.sn (by omega)),V0 (hr.sd (by omega)) (hs.sd (by omega))]
  have:=aM0 (r.num.natAbs*s.num.natAbs) (r.den*s.den) (j+k) (Nat.mul_pos (M9 r) (M9 s)) (P9 hr.den hs.den) l
  rw[← aH8 hr hs,Int.natCast_mul,Int.natCast_mul,← hr.nat,← hs.nat]at this
  rw[this];rfl
 show(au4 [‹fr r›,‹fr s›]).bind _=_
 rw[e];rfl
theorem T1{j k:Nat}{r s:Rat}(hr:Bd j r) (hs:Bd k s) (l:j+k<=8000):U8 [fr r,fr s]=some (fr (r+s)):=by
 have e:au5 [‹fr r›,‹fr s›]=some (.rt (fr (r+s))):=by
  simp only[au5,A9,A2,A0,A3,A5,ix0 (v0 _ _),ix1 (v0 _ _),ix0 (v1 _ _ _),ix1 (v1 _ _ _),xbs,xms,V0 (hr.sn (by omega)) (hs.sd (by omega)),V0 (hs.sn (by omega)) (hr.sd (by omega)),V0 (hr.sd (by omega)) (hs.sd (by omega)),af0]
  have:=aM0 (r.num.natAbs*s.den+s.num.natAbs*r.den) (r.den*s.den) (j+k) (Nat.mul_pos (M9 r) (M9 s)) (P9 hr.den hs.den) l
  rw[← bb3 hr hs,Int.natCast_add,Int.natCast_mul,Int.natCast_mul,Int.natCast_mul,← hr.nat,← hs.nat]at this
  rw[this];rfl
 show(au5 [‹fr r›,‹fr s›]).bind _=_
 rw[e];rfl
theorem T3{j k:Nat}{r s:Rat}(hr:Bd j r) (hs:Bd k s) (l:j+k<=8000) (hl:s<=r):U3 [fr r,fr s]=some (fr (r - s)):=by
 have e:ac0 [‹fr r›,‹fr s›]=some (.rt (fr (r - s))):=by
  simp only[ac0,A9,A2,A0,A3,A5,ix0 (v0 _ _),ix1 (v0 _ _),ix0 (v1 _ _ _),ix1 (v1 _ _ _),xbs,xms,V0 (hr.sn (by omega)) (hs.sd (by omega)),V0 (hs.sn (by omega)) (hr.sd (by omega)),V0 (hr.sd (by omega)) (hs.sd (by omega)),ad2]
  have:=aM0 (r.num.natAbs*s.den - s.num.natAbs*r.den) (r.den*s.den) (j+k) (Nat.mul_pos (M9 r) (M9 s)) (P9 hr.den hs.den) l
  rw[← bb1 hr hs hl,Int.ofNat_sub (bp9 hr hs hl),Int.natCast_mul,Int.natCast_mul,Int.natCast_mul,← hr.nat,← hs.nat]at this
  rw[this];rfl
 show(ac0 [‹fr r›,‹fr s›]).bind _=_
 rw[e];rfl
theorem ag4{k:Nat}{s:Rat}(hs:Bd k s) (l:k+1<=8000) (hl:s<=1):j8 [fr s]=some (fr (1 - s)):=by
 have e:ag1 [‹fr s›]=some (.rt (fr (1 - s))):=by
  simp only[ag1,A9,A2,A0,A3,dC,A1,xg0,xbs,xms]
  rw[← bz5,T3 Bd.one hs (by omega) hl];rfl
 show(ag1 [‹fr s›]).bind _=_
 rw[e];rfl
theorem t7{j k:Nat}{r s:Rat}(hr:Bd j r) (hs:Bd k s) (l:j+k<=8000):j6 [fr r,fr s]=some (.bool (decide (r<=s))):=by
 have e:j4 [‹fr r›,‹fr s›]=some (.rt (.bool (decide (r<=s)))):=by
  simp only[j4,A9,A2,A0,A3,A5,ix0 (v0 _ _),ix1 (v0 _ _),ix0 (v1 _ _ _),ix1 (v1 _ _ _),xbs,xms,V0 (hr.sn (by omega)) (hs.sd (by omega)),V0 (hs.sn (by omega)) (hr.sd (by omega)),aw7]
  simp only[← Rat.le_iff]
 show(j4 [‹fr r›,‹fr s›]).bind _=_
 rw[e];rfl
theorem aT3{k:Nat}{r:Rat}(hr:Bd k r) (l:k+1<=8000):Y3 [fr r]=some (fr (if r<=1 then r else 1)):=by
 have e:Y2 [‹fr r›]=some (.rt (fr (if r<=1 then r else 1))):=by
  simp only[Y2,A9,ah5,K4,A2,A0,A3,dC,A1,xg0,xbs,xms]
  rw[← bz5,t7 hr Bd.one l]
  by_cases h:r<=1
  ·simp[h,ai3]
  ·simp[h,ai3]
 show(Y2 [‹fr r›]).bind _=_
 rw[e];rfl
end Sh
set_option exponentiation.threshold 9000
namespace Sh
open PySem G L2
theorem aA0(i j:Int):ltI (.int i) (.int j)=some (.bool (decide (i < j))):=rfl
theorem aA3(i j:Int):gtI (.int i) (.int j)=some (.bool (decide (j < i))):=rfl
theorem as8{α:Type}(x:α):List.replicate 0 x=[]:=rfl
theorem as7{α:Type}(x:α):List.replicate 1 x=[x]:=rfl
theorem as6{α:Type}(x:α):List.replicate 2 x=[x,x]:=rfl
theorem ac7(a b c d:D):v6 [a,b,c,d] (some 1) none=[b,c,d]:=rfl
theorem aB9(a b c d:D):L2.atI [a,b,c,d] 0=some a:=rfl
theorem aB8(a b c d:D):L2.atI [a,b,c,d] 1=some b:=rfl
theorem aB7(a b c d:D):L2.atI [a,b,c,d] 2=some c:=rfl
theorem aB6(a b c d:D):L2.atI [a,b,c,d] 3=some d:=rfl
theorem aC2(a b c:D):L2.atI [a,b,c] 0=some a:=rfl
theorem aC1(a b c:D):L2.atI [a,b,c] 1=some b:=rfl
theorem aC0(a b c:D):L2.atI [a,b,c] 2=some c:=rfl
theorem u7{n k:Nat}(h:n < 2 ^ k) (hk:k<=8000):L0 (n:Int):=O8 (k:=k) (by rw[Int.natAbs_natCast];exact h) hk
theorem aE1{i j:Int}(h:0 < j):n8 (.int i) (.int j)=some (.int (i % j)):=by
 show(if(0:Int) < j then some (PyData.int (i % j)) else none)=_
 rw[if_pos h]
theorem aQ5{i j:Int}(h:0 < j) (s:L0 j):ai9 (.int i) (.int j)=some (.int (i / j)):=by
 show(if(0:Int) < j/\L0 j then some (PyData.int (i / j)) else none)=_
 rw[if_pos ⟨h,s⟩]
theorem A6{g:DS}{n:Nat}{ds:List D}{ρ:Rho}{d:D}(h:Z2 n ds=ρ) (e:g ρ=some (.rt d)):C3 g n ds=some d:=by
 unfold C3
 rw[h,e];rfl
theorem aj8{j k:Nat}{r s:Rat}(hr:Bd j r) (hs:Bd k s) (l:j+k<=8000):aq9 [fr r,fr s]=some (fr (r*s)):=by
 refine A6 (ρ:=[‹fr r›,‹fr s›]) rfl ?_
 simp only[aF9,A9,A2,A0,A3,A5,ix0 (v0 _ _),ix1 (v0 _ _),ix0 (v1 _ _ _),ix1 (v1 _ _ _),xbs,xms,V0 (hr.sn (by omega)) (hs.sn (by omega)),V0 (hr.sd (by omega)) (hs.sd (by omega))]
 have:=ba3 (r.num.natAbs*s.num.natAbs) (r.den*s.den) (j+k) (Nat.mul_pos (M9 r) (M9 s)) (P9 hr.den hs.den) l
 rw[← aH8 hr hs,Int.natCast_mul,Int.natCast_mul,← hr.nat,← hs.nat]at this
 rw[this];rfl
def aF1(ns:List Int) (k:Nat):Int:=if ns.length=0 then 7*(k:Int) else ns.getD (k % ns.length) 0+6553*((k / ns.length:Nat):Int)
theorem bz9(ns:List Int):eqD (.list (ns.map PyData.int)) (.list [])=some (.bool (decide (ns.length=0))):=by
 have h1:SeqAt.shaped (.list (ns.map PyData.int))=true:=by
  have c:∀l:List Int,PyData.canLayAll0 (l.map PyData.int)=true:=fun l=>by
   induction l with
   | nil=>rfl
   | cons a r ih=>simp only[xmc,PyData.canLayAll0,PyData.canLay0,ih];rfl
  have d:∀l:List Int,PyData.depthAll (l.map PyData.int)=0:=fun l=>by
   induction l with
   | nil=>rfl
   | cons a r ih=>simp only[xmc,PyData.depthAll,PyData.depth,ih];rfl
  unfold SeqAt.shaped
  simp only[PyData.canLay0,c,PyData.depth,d]
  rfl
 unfold eqD
 rw[if_pos ⟨h1,rfl⟩]
 cases ns with
 | nil=>rfl
 | cons a r=>simp[PyData.eqv,PyData.eqvAll]
theorem cf1(ns:List Int) (k:Nat) (hn:ns.length<=63) (hk:k < 2 ^ 60):az6 [.list (ns.map PyData.int),.int k]=some (.int (aF1 ns k)):=by
 refine A6 (ρ:=[‹.list (ns.map PyData.int)›,‹.int k›]) rfl ?_
 have sk:L0 (k:Int):=u7 hk (by decide)
 by_cases h:ns.length=0
 ·have e:aF1 ns k=7*(k:Int):=by unfold aF1;rw[if_pos h]
  simp only[az3,B0,B2,A9,sIf,C9,U9,al0,A1,dC,O1,W0,A5,A2,ah5,S8,dOr,ae9,R7,dIx,ac9,R4,P3,ab7,aj5,Y7,A8,qE,qN,ak9,S0,M5,Z7,A3,A0,K4,tB2,ac4,Q5,F8,ai3,R8,C2,U2,o0,E4,B7,Q7,C4,R3,Q6,N3,ab4,am2,xg0,xg1,xw0,xw1,xbs,xms,xmc,xmn,xna,xca,af0,ad2,aw7,as9,ap4,aA0,aA3,as8,as7,as6,ac7,aB9,aB8,aB7,aB6,aC2,aC1,aC0,ay3,ay2,xnt,xnf,xft,if_true,if_false,ite_true,ite_false,bz9,h,decide_true,V0 (i:=7) (O8 (k:=3) (by decide) (by decide)) sk,e]
 ·have e:aF1 ns k=ns.getD (k % ns.length) 0+6553*((k / ns.length:Nat):Int):=by unfold aF1;rw[if_neg h]
  have hl:(List.map PyData.int ns).length=ns.length:=List.length_map ..
  have hp:0 < ns.length:=Nat.pos_of_ne_zero h
  have m1:n8 (.int k) (.int ns.length)=some (.int ((k % ns.length:Nat):Int)):=by rw[aE1 (by omega)];simp
  have m2:ai9 (.int k) (.int ns.length)=some (.int ((k / ns.length:Nat):Int)):=by rw[aQ5 (by omega) (u7 (k:=6) (by omega) (by decide))];simp
  have m3:L2.atI (List.map PyData.int ns) ((k % ns.length:Nat):Int)=some (.int (ns.getD (k % ns.length) 0)):=by
   refine L2.bN0 ?_
   have hlt:k % ns.length < ns.length:=Nat.mod_lt _ hp
   rw[List.getElem?_map,List.getElem?_eq_getElem hlt]
   simp[List.getD,hlt]
  have sq:L0 ((k / ns.length:Nat):Int):=u7 (k:=60) (Nat.lt_of_le_of_lt (Nat.div_le_self _ _) hk) (by decide)
  simp only[az3,B0,B2,A9,sIf,C9,U9,al0,A1,dC,O1,W0,A5,A2,ah5,S8,dOr,ae9,R7,dIx,ac9,R4,P3,ab7,aj5,Y7,A8,qE,qN,ak9,S0,M5,Z7,A3,A0,K4,tB2,ac4,Q5,F8,ai3,R8,C2,U2,o0,E4,B7,Q7,C4,R3,Q6,N3,ab4,am2,xg0,xg1,xw0,xw1,xbs,xms,xmc,xmn,xna,xca,af0,ad2,aw7,as9,ap4,aA0,aA3,as8,as7,as6,ac7,aB9,aB8,aB7,aB6,aC2,aC1,aC0,ay3,ay2,xnt,xnf,xft,if_true,if_false,ite_true,ite_false,bz9,h,decide_false,hl,m1,m2,m3,V0 (i:=6553) (O8 (k:=13) (by decide) (by decide)) sq,e]
def an0(ns:List Int) (k:Nat) (m:Int):Int :=
 let c:=(aF1 ns k % 2147483563*69069+104723*((k:Int)+1)) % 2147483563
 let c:=(c*c+c / 3) % 2147483399
 (c*c+c / 7) % 2147483647 / 11 % m
theorem av4{i:Int}(h0:0<=i) (h:i < 4294967296):L0 i:=O8 (k:=32) (by omega) (by decide)
theorem au7(ns:List Int) (k:Nat) (m:Int) (hn:ns.length<=63) (hk:k < 2 ^ 60) (hm:0 < m):A7 [.list (ns.map PyData.int),.int k,.int m]=some (.int (an0 ns k m)):=by
 refine A6 (ρ:=[‹.list (ns.map PyData.int)›,‹.int k›,‹.int m›,none]) rfl ?_
 have c0:∀x:Int,L0 (x % 2147483563):=fun x=>av4 (by omega) (by omega)
 have c1:∀x:Int,L0 (x % 2147483399):=fun x=>av4 (by omega) (by omega)
 have sk:L0 ((k:Int)+1):=O8 (k:=61) (by omega) (by decide)
 have s1:L0 69069:=O8 (k:=17) (by decide) (by decide)
 have s2:L0 104723:=O8 (k:=17) (by decide) (by decide)
 have s3:L0 3:=O8 (k:=2) (by decide) (by decide)
 have s7:L0 7:=O8 (k:=3) (by decide) (by decide)
 have s11:L0 11:=O8 (k:=4) (by decide) (by decide)
 simp only[aG3,B0,B2,A9,sIf,C9,U9,al0,A1,dC,O1,W0,A5,A2,ah5,S8,dOr,ae9,R7,dIx,ac9,R4,P3,ab7,aj5,Y7,A8,qE,qN,ak9,S0,M5,Z7,A3,A0,K4,tB2,ac4,Q5,F8,ai3,R8,C2,U2,o0,E4,B7,Q7,C4,R3,Q6,N3,ab4,am2,xg0,xg1,xw0,xw1,xbs,xms,xmc,xmn,xna,xca,af0,ad2,aw7,as9,ap4,aA0,aA3,as8,as7,as6,ac7,aB9,aB8,aB7,aB6,aC2,aC1,aC0,ay3,ay2,xnt,xnf,xft,if_true,if_false,ite_true,ite_false,cf1 ns k hn hk,aE1 (show(0:Int) < 2147483563 by decide),aE1 (show(0:Int) < 2147483399 by decide),aE1 (show(0:Int) < 2147483647 by decide),aE1 hm,V0 (c0 _) s1,V0 s2 sk,V0 (c0 _) (c0 _),V0 (c1 _) (c1 _),aQ5 (show(0:Int) < 3 by decide) s3,aQ5 (show(0:Int) < 7 by decide) s7,aQ5 (show(0:Int) < 11 by decide) s11]
 rfl
theorem au0(ns:List Int) (k:Nat) (m:Int) (hm:0 < m):0<=an0 ns k m/\an0 ns k m < m:=by
 unfold an0
 exact⟨Int.emod_nonneg _ (by omega),Int.emod_lt_of_pos _ hm⟩
structure IsSh (k:Nat) (r:Rat):Prop where
 bd:Bd k r
 le:r<=1
theorem bj0{a b:Nat}(hb:0 < b) (h:a<=b):mkRat (a:Int) b<=1:=by
 rw[Rat.le_iff,Rat.num_mkRat,Rat.den_mkRat,if_neg (by omega),if_neg (by omega)]
 have e0:(1:Rat).num=1:=rfl
 have e1:(1:Rat).den=1:=rfl
 rw[e0,e1]
 have:a / b.gcd a<=b / b.gcd a:=Nat.div_le_div_right h
 simp
 exact_mod_cast this
theorem ag3(ns:List Int) (at':Nat) (hn:ns.length<=63) (hk:at' < 2 ^ 40):∃r,Q9 [.list (ns.map PyData.int),.int at']=some (fr r)/\IsSh 4 r:=by
 obtain⟨u0,u1⟩:=au0 ns at' 12 (by decide)
 obtain⟨u,hu⟩:∃u:Nat,(1:Int)+an0 ns at' 12=u/\0 < u/\u<=12:=⟨(1+an0 ns at' 12).toNat,by omega,by omega,by omega⟩
 obtain⟨t0,t1⟩:=au0 ns (at'+1) ((u:Int)+1) (by omega)
 obtain⟨t,ht⟩:∃t:Nat,an0 ns (at'+1) ((u:Int)+1)=t/\t<=u:=⟨(an0 ns (at'+1) ((u:Int)+1)).toNat,by omega,by omega⟩
 obtain⟨p0,p1⟩:=au0 ns (at'+2) 5 (by decide)
 have hs:IsSh 4 (mkRat (t:Int) u):=⟨Bd.of (by omega) (by omega) (by omega),bj0 (by omega) (by omega)⟩
 have e1:=au7 ns at' 12 hn (by omega) (by decide)
 have e2:=au7 ns (at'+1) ((u:Int)+1) hn (by omega) (by omega)
 have e3:=au7 ns (at'+2) 5 hn (by omega) (by decide)
 have e4:=ba3 t u 4 (by omega) (by omega) (by decide)
 have c1:((at':Int)+1)=((at'+1:Nat):Int):=by omega
 have c2:((at':Int)+2)=((at'+2:Nat):Int):=by omega
 rw[ht.1]at e2
 have pick:∀(j:Int),0<=j->j < 5->∃r,L2.atI [fr (mkRat (t:Int) u),fr (mkRat (t:Int) u),fr (mkRat (t:Int) u),.tuple [.int 0,.int 1],.tuple [.int 1,.int 1]] j=some (fr r)/\IsSh 4 r:=fun j h0 h5=>by
  have:j=0\/j=1\/j=2\/j=3\/j=4:=by omega
  rcases this with rfl|rfl|rfl|rfl|rfl
  ·exact⟨_,rfl,hs⟩
  ·exact⟨_,rfl,hs⟩
  ·exact⟨_,rfl,hs⟩
  ·exact⟨0,rfl,Bd.zero.mono (by decide),by decide⟩
  ·exact⟨1,rfl,Bd.one.mono (by decide),by decide⟩
 obtain⟨r,hr1,hr2⟩:=pick _ p0 p1
 refine⟨r,A6 (ρ:=[‹.list (ns.map PyData.int)›,‹.int at'›,none,none]) rfl ?_,hr2⟩
 simp only[aG0,B0,B2,A9,sIf,C9,U9,al0,A1,dC,O1,W0,A5,A2,ah5,S8,dOr,ae9,R7,dIx,ac9,R4,P3,ab7,aj5,Y7,A8,qE,qN,ak9,S0,M5,Z7,A3,A0,K4,tB2,ac4,Q5,F8,ai3,R8,C2,U2,o0,E4,B7,Q7,C4,R3,Q6,N3,ab4,am2,xg0,xg1,xw0,xw1,xbs,xms,xmc,xmn,xna,xca,af0,ad2,aw7,as9,ap4,aA0,aA3,as8,as7,as6,ac7,aB9,aB8,aB7,aB6,aC2,aC1,aC0,ay3,ay2,xnt,xnf,xft,if_true,if_false,ite_true,ite_false,e1,hu.1,c1,c2,e2,e3,e4,hr1]
def sp(c x y z:Rat):D:=.tuple [fr c,fr x,fr y,fr z]
structure Spot (k:Nat) (c x y z:Rat):Prop where
 hc:IsSh k c
 hx:Bd k x
 hy:Bd k y
 hz:Bd k z
 xc:x<=c
 yc:y<=c
 zc:z<=c
theorem IsSh.mono{j k:Nat}{r:Rat}(h:IsSh j r) (l:j<=k):IsSh k r:=⟨h.bd.mono l,h.le⟩
theorem Spot.mono{j k:Nat}{c x y z:Rat}(h:Spot j c x y z) (l:j<=k):Spot k c x y z:=⟨h.hc.mono l,h.hx.mono l,h.hy.mono l,h.hz.mono l,h.xc,h.yc,h.zc⟩
theorem r6{c r:Rat}(hc:0<=c) (hr:r<=1):c*r<=c:=by
 have:=Rat.mul_le_mul_of_nonneg_right hr hc
 grind
theorem co9:aa7 0 3=[.int 0,.int 1,.int 2]:=rfl
theorem cf0(ns:List Int) (k:Nat) (hn:ns.length<=63) (hk:k < 2 ^ 30):∃c x y z,x9 [.list (ns.map PyData.int),.int k]=some (sp c x y z)/\Spot 8 c x y z:=by
 obtain⟨c,ec,hc⟩:=ag3 ns k hn (by omega)
 obtain⟨a0,e0,h0⟩:=ag3 ns (k+3) hn (by omega)
 obtain⟨a1,e1,h1⟩:=ag3 ns (k+6) hn (by omega)
 obtain⟨a2,e2,h2⟩:=ag3 ns (k+9) hn (by omega)
 refine⟨c,c*a0,c*a1,c*a2,?_,⟨hc.mono (by decide),hc.bd.mul h0.bd,hc.bd.mul h1.bd,hc.bd.mul h2.bd,r6 hc.bd.nn h0.le,r6 hc.bd.nn h1.le,r6 hc.bd.nn h2.le⟩⟩
 refine A6 (ρ:=[‹.list (ns.map PyData.int)›,‹.int k›,none]) rfl ?_
 have i0:(k:Int)+3+3*0=((k+3:Nat):Int):=by omega
 have i1:(k:Int)+3+3*1=((k+6:Nat):Int):=by omega
 have i2:(k:Int)+3+3*2=((k+9:Nat):Int):=by omega
 have s0:L0 0:=O8 (k:=2) (by decide) (by decide)
 have s1:L0 1:=O8 (k:=2) (by decide) (by decide)
 have s2:L0 2:=O8 (k:=2) (by decide) (by decide)
 have s3:L0 3:=O8 (k:=2) (by decide) (by decide)
 have m0:=V0 s3 s0
 have m1:=V0 s3 s1
 have m2:=V0 s3 s2
 have r3:((-(2 ^ 62):Int)<=3/\(3:Int) < 2 ^ 62):=by decide
 have l3:([PyData.int 0,.int 1,.int 2]:List D).length<=16777216:=by decide
 have ct:∀a b c d:D,v8 (.tuple [a]) (.tuple [b,c,d])=some (.tuple [a,b,c,d]):=fun a b c d=>rfl
 simp only[aT2,B0,B2,A9,sIf,C9,U9,al0,A1,dC,O1,W0,A5,A2,ah5,S8,dOr,ae9,R7,dIx,ac9,R4,P3,ab7,aj5,Y7,A8,qE,qN,ak9,S0,M5,Z7,A3,A0,K4,tB2,ac4,Q5,F8,ai3,R8,C2,U2,o0,E4,B7,Q7,C4,R3,Q6,N3,ab4,am2,xg0,xg1,xw0,xw1,xbs,xms,xmc,xmn,xna,xca,af0,ad2,aw7,as9,ap4,aA0,aA3,as8,as7,as6,ac7,aB9,aB8,aB7,aB6,aC2,aC1,aC0,ay3,ay2,xnt,xnf,xft,if_true,if_false,ite_true,ite_false,ec,r3,and_self,co9,l3,m0,m1,m2,i0,i1,i2,e0,e1,e2,aj8 hc.bd h0.bd (by decide),aj8 hc.bd h1.bd (by decide),aj8 hc.bd h2.bd (by decide),ct,sp]
theorem bL4(i:Int):ac3 [.int i]=some (.bool true):=rfl
theorem bx7(i:Int):S9 [.int i]=some (.bool true):=rfl
theorem aE4(r:Rat):SeqAt.shaped (fr r)=true:=rfl
theorem bP0(r s:Rat):eqD (fr r) (fr s)=some (.bool (decide (r=s))):=by
 unfold eqD
 rw[if_pos ⟨aE4 r,aE4 s⟩]
 congr 2
 show((r.num==s.num)&&(((r.den:Int)==(s.den:Int))&&true))=_
 rw[Bool.eq_iff_iff]
 simp only[Bool.and_true,Bool.and_eq_true,beq_iff_eq,decide_eq_true_eq]
 constructor
 ·intro h;exact Rat.ext h.1 (by exact_mod_cast h.2)
 ·intro h;subst h;exact⟨rfl,rfl⟩
theorem aO9{k:Nat}{r:Rat}(h:Bd k r):mkRat ((r.num.natAbs:Nat):Int) r.den=r:=by rw[← h.nat];exact Rat.mkRat_self r
theorem aw4{k:Nat}{r:Rat}(h:IsSh k r):r.num<=r.den:=by
 have:=(Rat.le_iff r 1).mp h.le
 have e0:(1:Rat).num=1:=rfl
 have e1:(1:Rat).den=1:=rfl
 rw[e0,e1]at this
 omega
theorem ck3(a b:D):((([a,b]:List D).length:Nat):Int)=2:=rfl
theorem cp8(a b c d:D):((([a,b,c,d]:List D).length:Nat):Int)=4:=rfl
theorem bb2:((2:Int)==2)=true:=rfl
theorem bb4:((4:Int)==4)=true:=rfl
theorem ce9{k:Nat}{r:Rat}(h:IsSh k r) (hk:k<=8000):aM1 [fr r]=some (.bool true):=by
 have n0:=Rat.num_nonneg.mpr h.bd.nn
 have nd:=aw4 h
 have d0:(0:Int) < r.den:=by have:=M9 r;omega
 have e:=ba3 r.num.natAbs r.den k (M9 r) h.bd.den hk
 rw[aO9 h.bd,← h.bd.nat]at e
 have e2:=bP0 r r
 refine A6 (ρ:=[‹fr r›]) rfl ?_
 have e':y8 [PyData.int r.num,PyData.int r.den]=some (.tuple [.int r.num,.int r.den]):=e
 have e2':eqD (.tuple [.int r.num,.int r.den]) (.tuple [.int r.num,.int r.den])=some (.bool true):=by
  have:=e2
  simp only[decide_true]at this
  exact this
 simp only[an9,fr,B0,B2,A9,sIf,C9,U9,al0,A1,dC,O1,W0,A5,A2,ah5,S8,dOr,ae9,R7,dIx,ac9,R4,P3,ab7,aj5,Y7,A8,qE,qN,ak9,S0,M5,Z7,A3,A0,K4,tB2,ac4,Q5,F8,ai3,R8,C2,U2,o0,E4,B7,Q7,C4,R3,Q6,N3,ab4,am2,xg0,xg1,xw0,xw1,xbs,xms,xmc,xmn,xna,xca,af0,ad2,aw7,as9,ap4,aA0,aA3,as8,as7,as6,ac7,aB9,aB8,aB7,aB6,aC2,aC1,aC0,ay3,ay2,xnt,xnf,xft,if_true,if_false,ite_true,ite_false,ck3,bb2,bL4,d0,decide_true,n0,nd,e',e2']
theorem X4{k:Nat}{r:Rat}(h:IsSh k r) (hk:k<=8000):X7 [fr r]=some (.bool true):=by
 have n0:=Rat.num_nonneg.mpr h.bd.nn
 have nd:=aw4 h
 have d0:(0:Int) < r.den:=by have:=M9 r;omega
 have e:=bP5 r.num.natAbs r.den
 rw[← h.bd.nat,show Nat.gcd r.num.natAbs r.den=1 from r.reduced]at e
 have e':S5 [PyData.int r.num,PyData.int r.den]=some (.int 1):=e
 have b1:((1:Int)==1)=true:=rfl
 refine A6 (ρ:=[‹fr r›,none,none]) rfl ?_
 simp only[az5,fr,B0,B2,A9,sIf,C9,U9,al0,A1,dC,O1,W0,A5,A2,ah5,S8,dOr,ae9,R7,dIx,ac9,R4,P3,ab7,aj5,Y7,A8,qE,qN,ak9,S0,M5,Z7,A3,A0,K4,tB2,ac4,Q5,F8,ai3,R8,C2,U2,o0,E4,B7,Q7,C4,R3,Q6,N3,ab4,am2,xg0,xg1,xw0,xw1,xbs,xms,xmc,xmn,xna,xca,af0,ad2,aw7,as9,ap4,aA0,aA3,as8,as7,as6,ac7,aB9,aB8,aB7,aB6,aC2,aC1,aC0,ay3,ay2,xnt,xnf,xft,if_true,if_false,ite_true,ite_false,ck3,bb2,bx7,d0,decide_true,n0,nd,e',b1]
theorem cm5:aL5 [.bool true,.bool true,.bool true]=some true:=rfl
theorem cm4:aL5 [.bool true,.bool true,.bool true,.bool true]=some true:=rfl
theorem bn4{k:Nat}{c x y z:Rat}(S:Spot k c x y z) (hk:k+k<=8000):ag7 [sp c x y z]=some (.bool true):=by
 have hk1:k<=8000:=by omega
 have lx:IsSh k x:=⟨S.hx,Rat.le_trans S.xc S.hc.le⟩
 have ly:IsSh k y:=⟨S.hy,Rat.le_trans S.yc S.hc.le⟩
 have lz:IsSh k z:=⟨S.hz,Rat.le_trans S.zc S.hc.le⟩
 refine A6 (ρ:=[‹sp c x y z›]) rfl ?_
 have f4:([fr c,fr x,fr y,fr z]:List D).length<=16777216:=by show 4<=16777216;decide
 have f3:([fr x,fr y,fr z]:List D).length<=16777216:=by show 3<=16777216;decide
 simp only[aG4,sp,B0,B2,A9,sIf,C9,U9,al0,A1,dC,O1,W0,A5,A2,ah5,S8,dOr,ae9,R7,dIx,ac9,R4,P3,ab7,aj5,Y7,A8,qE,qN,ak9,S0,M5,Z7,A3,A0,K4,tB2,ac4,Q5,F8,ai3,R8,C2,U2,o0,E4,B7,Q7,C4,R3,Q6,N3,ab4,am2,xg0,xg1,xw0,xw1,xbs,xms,xmc,xmn,xna,xca,af0,ad2,aw7,as9,ap4,aA0,aA3,as8,as7,as6,ac7,aB9,aB8,aB7,aB6,aC2,aC1,aC0,ay3,ay2,xnt,xnf,xft,if_true,if_false,ite_true,ite_false,cp8,bb4,f4,f3,X4 S.hc hk1,X4 lx hk1,X4 ly hk1,X4 lz hk1,cm5,cm4,t7 S.hx S.hc.bd hk,t7 S.hy S.hc.bd hk,t7 S.hz S.hc.bd hk,S.xc,S.yc,S.zc,decide_true]
end Sh
local macro_rules
  | `(tactic| wp_walk using evP, $ts,*) => `(tactic| simp only [G.B0, G.B2, G.A9, G.sIf, G.C9, G.U9, G.al0, G.A1, G.dC, G.O1, G.W0, G.A5, G.A2, G.S8, G.dOr, G.ae9, G.R7, G.P3, G.ab7, G.aj5, G.Y7, G.S0, G.M5, G.Z7, G.A3, G.A0, G.K4, G.tB2, G.ac4, G.Q5, G.F8, G.ai3, G.R8, G.E4, G.B7, G.Q7, G.C4, G.R3, G.Q6, G.am2, G.xg0, G.xg1, G.xw0, G.xw1, G.xbs, G.xms, G.xmc, G.xmn, G.xna, G.xca, Sh.af0, Sh.ad2, Sh.aw7, Sh.as9, Sh.ap4, Sh.aA0, Sh.aA3, Sh.aB9, Sh.aB8, Sh.aB7, Sh.aB6, Sh.aC2, Sh.aC1, Sh.aC0, Sh.ay3, Sh.ay2, G.xnt, G.xnf, G.xft, if_true, if_false, $[$ts:term],*])
local macro_rules
  | `(tactic| wp_walk using evB) => `(tactic| wp_walk using evP, G.dIx, G.R4, G.A8, G.qE, G.qN, G.ak9)
  | `(tactic| wp_walk using evB, $ts,*) => `(tactic| wp_walk using evP, G.dIx, G.R4, G.A8, G.qE, G.qN, G.ak9, $ts,*)
local macro_rules
  | `(tactic| wp_walk using evA) => `(tactic| wp_walk using evB, G.ah5, G.ac9, G.C2, G.U2, G.o0, G.N3, G.ab4, Sh.as8, Sh.as7, Sh.as6, Sh.ac7, ite_true, ite_false)
  | `(tactic| wp_walk using evA, $ts,*) => `(tactic| wp_walk using evB, G.ah5, G.ac9, G.C2, G.U2, G.o0, G.N3, G.ab4, Sh.as8, Sh.as7, Sh.as6, Sh.ac7, ite_true, ite_false, $ts,*)
local macro_rules
  | `(tactic| wp_walk using evD) => `(tactic| wp_walk using evB, G.aj7, G.aU2)
  | `(tactic| wp_walk using evD, $ts,*) => `(tactic| wp_walk using evB, G.aj7, G.aU2, $ts,*)
local macro_rules
  | `(tactic| wp_walk using evC) => `(tactic| wp_walk using evD, G.ah5, G.ac9, G.C2, G.U2, G.o0, G.N3, G.ab4, Sh.as8, Sh.as7, Sh.as6, Sh.ac7, ite_true, ite_false)
  | `(tactic| wp_walk using evC, $ts,*) => `(tactic| wp_walk using evD, G.ah5, G.ac9, G.C2, G.U2, G.o0, G.N3, G.ab4, Sh.as8, Sh.as7, Sh.as6, Sh.ac7, ite_true, ite_false, $ts,*)
local macro_rules
  | `(tactic| wp_walk using evQ) => `(tactic| wp_walk using evP, G.aj7, G.aU2)
  | `(tactic| wp_walk using evQ, $ts,*) => `(tactic| wp_walk using evP, G.aj7, G.aU2, $ts,*)
namespace Sh
open PySem G L2
theorem B3{x y:Str}{b:Bool}(hx:PyData.canLay0 (.str x)=true) (hy:PyData.canLay0 (.str y)=true) (e:(x==y)=b):eqD (.str x) (.str y)=some (.bool b):=by
 unfold eqD
 have s:∀z:Str,PyData.canLay0 (.str z)=true->SeqAt.shaped (.str z)=true:=fun z h=>by unfold SeqAt.shaped;rw[h];rfl
 rw[if_pos ⟨s x hx,s y hy⟩]
 show some (PyData.bool (x==y))=_
 rw[e]
theorem B3z{x y:Str}{b:Bool}(hx:PyData.canLay0 (.str x)=true:=by decide +kernel)(hy:PyData.canLay0 (.str y)=true:=by decide +kernel)(e:(x==y)=b:=by decide +kernel):eqD (.str x) (.str y)=some (.bool b):=B3 hx hy e
theorem i7{x y:Str}{b:Bool}(hx:PyData.canLay0 (.str x)=true) (hy:PyData.canLay0 (.str y)=true) (e:(!(x==y))=b):neD (.str x) (.str y)=some (.bool b):=by
 unfold neD
 have s:∀z:Str,PyData.canLay0 (.str z)=true->SeqAt.shaped (.str z)=true:=fun z h=>by unfold SeqAt.shaped;rw[h];rfl
 rw[if_pos ⟨s x hx,s y hy⟩]
 show some (PyData.bool (!(x==y)))=_
 rw[e]
theorem i7z{x y:Str}{b:Bool}(hx:PyData.canLay0 (.str x)=true:=by decide +kernel)(hy:PyData.canLay0 (.str y)=true:=by decide +kernel)(e:(!(x==y))=b:=by decide +kernel):neD (.str x) (.str y)=some (.bool b):=i7 hx hy e
theorem J3:eqD (.str "over") (.str "over")=some (.bool true):=B3z
theorem N5:eqD (.str "over") (.str "multiply")=some (.bool false):=B3z
theorem D9:eqD (.str "over") (.str "screen")=some (.bool false):=B3z
theorem J2:eqD (.str "over") (.str "plus")=some (.bool false):=B3z
theorem J4:eqD (.str "over") (.str "atop")=some (.bool false):=B3z
theorem L7:eqD (.str "over") (.str "cut")=some (.bool false):=B3z
theorem N7:eqD (.str "multiply") (.str "over")=some (.bool false):=B3z
theorem S6:eqD (.str "multiply") (.str "multiply")=some (.bool true):=B3z
theorem J5:eqD (.str "multiply") (.str "screen")=some (.bool false):=B3z
theorem N6:eqD (.str "multiply") (.str "plus")=some (.bool false):=B3z
theorem N8:eqD (.str "multiply") (.str "atop")=some (.bool false):=B3z
theorem Q1:eqD (.str "multiply") (.str "cut")=some (.bool false):=B3z
theorem D5:eqD (.str "screen") (.str "over")=some (.bool false):=B3z
theorem G8:eqD (.str "screen") (.str "multiply")=some (.bool false):=B3z
theorem C0:eqD (.str "screen") (.str "screen")=some (.bool true):=B3z
theorem D4:eqD (.str "screen") (.str "plus")=some (.bool false):=B3z
theorem D6:eqD (.str "screen") (.str "atop")=some (.bool false):=B3z
theorem F0:eqD (.str "screen") (.str "cut")=some (.bool false):=B3z
theorem J0:eqD (.str "plus") (.str "over")=some (.bool false):=B3z
theorem N4:eqD (.str "plus") (.str "multiply")=some (.bool false):=B3z
theorem D8:eqD (.str "plus") (.str "screen")=some (.bool false):=B3z
theorem G9:eqD (.str "plus") (.str "plus")=some (.bool true):=B3z
theorem J1:eqD (.str "plus") (.str "atop")=some (.bool false):=B3z
theorem L6:eqD (.str "plus") (.str "cut")=some (.bool false):=B3z
theorem J9:eqD (.str "atop") (.str "over")=some (.bool false):=B3z
theorem O0:eqD (.str "atop") (.str "multiply")=some (.bool false):=B3z
theorem E1:eqD (.str "atop") (.str "screen")=some (.bool false):=B3z
theorem J8:eqD (.str "atop") (.str "plus")=some (.bool false):=B3z
theorem K0:eqD (.str "atop") (.str "atop")=some (.bool true):=B3z
theorem M1:eqD (.str "atop") (.str "cut")=some (.bool false):=B3z
theorem L9:eqD (.str "cut") (.str "over")=some (.bool false):=B3z
theorem Q2:eqD (.str "cut") (.str "multiply")=some (.bool false):=B3z
theorem F7:eqD (.str "cut") (.str "screen")=some (.bool false):=B3z
theorem L8:eqD (.str "cut") (.str "plus")=some (.bool false):=B3z
theorem M0:eqD (.str "cut") (.str "atop")=some (.bool false):=B3z
theorem N9:eqD (.str "cut") (.str "cut")=some (.bool true):=B3z
theorem G6:eqD (.str "turn") (.str "turn")=some (.bool true):=B3z
theorem G7:eqD (.str "turn") (.str "grey")=some (.bool false):=B3z
theorem E9:eqD (.str "turn") (.str "round")=some (.bool false):=B3z
theorem J6:eqD (.str "grey") (.str "turn")=some (.bool false):=B3z
theorem J7:eqD (.str "grey") (.str "grey")=some (.bool true):=B3z
theorem F6:eqD (.str "grey") (.str "round")=some (.bool false):=B3z
theorem F4:eqD (.str "round") (.str "turn")=some (.bool false):=B3z
theorem F5:eqD (.str "round") (.str "grey")=some (.bool false):=B3z
theorem D7:eqD (.str "round") (.str "round")=some (.bool true):=B3z
theorem G2:neD (.str "turn") (.str "turn")=some (.bool false):=i7z
theorem G3:neD (.str "turn") (.str "grey")=some (.bool true):=i7z
theorem E5:neD (.str "turn") (.str "round")=some (.bool true):=i7z
theorem G4:neD (.str "grey") (.str "turn")=some (.bool true):=i7z
theorem G5:neD (.str "grey") (.str "grey")=some (.bool false):=i7z
theorem E8:neD (.str "grey") (.str "round")=some (.bool true):=i7z
theorem E6:neD (.str "round") (.str "turn")=some (.bool true):=i7z
theorem E7:neD (.str "round") (.str "grey")=some (.bool true):=i7z
theorem D3:neD (.str "round") (.str "round")=some (.bool false):=i7z
inductive Man where
 | over|mult|screen|plus|atop|cut
def Man.s:Man->Str
 | .over => "over"
 | .mult => "multiply"
 | .screen => "screen"
 | .plus => "plus"
 | .atop => "atop"
 | .cut => "cut"
def an3(r:Rat):Rat:=if r<=1 then r else 1
def Man.cov:Man->Rat->Rat->Rat
 | .plus,c,d=>an3 (c+d)
 | .atop,c,d=>d
 | .cut,c,d=>d*(1 - c)
 | _,c,d=>c+d - c*d
def Man.col:Man->Rat->Rat->Rat->Rat->Rat
 | .over,c,d,x,y=>x+y*(1 - c)
 | .mult,c,d,x,y=>x*y+x*(1 - d)+y*(1 - c)
 | .screen,c,d,x,y=>x+y - x*y
 | .plus,c,d,x,y=>an3 (x+y)
 | .atop,c,d,x,y=>x*d+y*(1 - c)
 | .cut,c,d,x,y=>y*(1 - c)
theorem af8{k:Nat}{c:Rat}(h:IsSh k c):IsSh (k+1) (1 - c):=by
 have b:=Bd.one.sub h.bd h.le
 rw[Nat.add_comm]at b
 exact⟨b,by have:=h.bd.nn;grind⟩
theorem aw6{a b:Rat}(ha:0<=a) (hb:0<=b) (ha1:a<=1) (hb1:b<=1):a*b<=a+b:=by
 have:=Rat.mul_le_mul_of_nonneg_right ha1 hb
 grind
theorem bB1{k:Nat}{r:Rat}(h:Bd k r) (hk:1<=k):IsSh k (an3 r):=by
 unfold an3
 split
 ·rename_i l;exact⟨h,l⟩
 ·exact⟨Bd.one.mono hk,Rat.le_refl⟩
local macro_rules
  | `(tactic| wp_walk using evS, $ts,*) => `(tactic| wp_walk using evA, J3, N5, D9, J2, J4, L7, N7, S6, J5, N6, N8, Q1, D5, G8, C0, D4, D6, F0, J0, N4, D8, G9, J1, L6, J9, O0, E1, J8, K0, M1, L9, Q2, F7, L8, M0, N9, G6, G7, E9, J6, J7, F6, F4, F5, D7, G2, G3, E5, G4, G5, E8, E6, E7, D3, $ts,*)
theorem bC4(m:Man) {k:Nat}{c d:Rat}(hc:IsSh k c) (hd:IsSh k d) (l:6*k+4<=8000):Z6 [.str m.s,fr c,fr d]=some (fr (m.cov c d))/\Bd (6*k+4) (m.cov c d):=by
 have r1:=ag4 hc.bd (by omega) hc.le
 have h1:=(af8 hc)
 have ml:=aw6 hc.bd.nn hd.bd.nn hc.le hd.le
 have e1:=T1 hc.bd hd.bd (by omega)
 have e2:=O4 hc.bd hd.bd (by omega)
 have b1:=hc.bd.add hd.bd
 have b2:=hc.bd.mul hd.bd
 have e3:=T3 b1 b2 (by omega) ml
 have e4:=aT3 b1 (by omega)
 have e5:=O4 hd.bd h1.bd (by omega)
 cases m with
 | plus=>exact⟨A6 (ρ:=[‹.str "plus"›,‹fr c›,‹fr d›]) rfl (by wp_walk using evS,P2,e1,e4;rfl),(bB1 b1 (by omega)).bd.mono (by omega)⟩
 | atop=>exact⟨A6 (ρ:=[‹.str "atop"›,‹fr c›,‹fr d›]) rfl (by wp_walk using evS,P2;rfl),hd.bd.mono (by omega)⟩
 | cut=>exact⟨A6 (ρ:=[‹.str "cut"›,‹fr c›,‹fr d›]) rfl (by wp_walk using evS,P2,r1,e5;rfl),(hd.bd.mul h1.bd).mono (by omega)⟩
 | over=>exact⟨A6 (ρ:=[‹.str "over"›,‹fr c›,‹fr d›]) rfl (by wp_walk using evS,P2,e1,e2,e3;rfl),(b1.sub b2 ml).mono (by omega)⟩
 | mult=>exact⟨A6 (ρ:=[‹.str "multiply"›,‹fr c›,‹fr d›]) rfl (by wp_walk using evS,P2,e1,e2,e3;rfl),(b1.sub b2 ml).mono (by omega)⟩
 | screen=>exact⟨A6 (ρ:=[‹.str "screen"›,‹fr c›,‹fr d›]) rfl (by wp_walk using evS,P2,e1,e2,e3;rfl),(b1.sub b2 ml).mono (by omega)⟩
theorem az7(m:Man) {k:Nat}{c d x y:Rat}(hc:IsSh k c) (hd:IsSh k d) (hx:IsSh k x) (hy:IsSh k y) (l:6*k+4<=8000):X9 [.str m.s,fr c,fr d,fr x,fr y]=some (fr (m.col c d x y))/\Bd (6*k+4) (m.col c d x y):=by
 have r1:=ag4 hc.bd (by omega) hc.le
 have r2:=ag4 hd.bd (by omega) hd.le
 have h1:=af8 hc
 have h2:=af8 hd
 have ml:=aw6 hx.bd.nn hy.bd.nn hx.le hy.le
 have e1:=T1 hx.bd hy.bd (by omega)
 have e2:=O4 hx.bd hy.bd (by omega)
 have b1:=hx.bd.add hy.bd
 have b2:=hx.bd.mul hy.bd
 have e3:=T3 b1 b2 (by omega) ml
 have e4:=aT3 b1 (by omega)
 have bt:=hy.bd.mul h1.bd
 have et:=O4 hy.bd h1.bd (by omega)
 have e6:=T1 hx.bd bt (by omega)
 have bd:=hx.bd.mul h2.bd
 have e7:=O4 hx.bd h2.bd (by omega)
 have b8:=b2.add bd
 have e8:=T1 b2 bd (by omega)
 have e9:=T1 b8 bt (by omega)
 have b10:=hx.bd.mul hd.bd
 have e10:=O4 hx.bd hd.bd (by omega)
 have e11:=T1 b10 bt (by omega)
 cases m with
 | plus=>exact⟨A6 (ρ:=[‹.str "plus"›,‹fr c›,‹fr d›,‹fr x›,‹fr y›,none]) rfl (by wp_walk using evS,O3,e1,e4;rfl),(bB1 b1 (by omega)).bd.mono (by omega)⟩
 | screen=>exact⟨A6 (ρ:=[‹.str "screen"›,‹fr c›,‹fr d›,‹fr x›,‹fr y›,none]) rfl (by wp_walk using evS,O3,e1,e2,e3;rfl),(b1.sub b2 ml).mono (by omega)⟩
 | over=>exact⟨A6 (ρ:=[‹.str "over"›,‹fr c›,‹fr d›,‹fr x›,‹fr y›,none]) rfl (by wp_walk using evS,O3,r1,et,e6;rfl),(hx.bd.add bt).mono (by omega)⟩
 | mult=>exact⟨A6 (ρ:=[‹.str "multiply"›,‹fr c›,‹fr d›,‹fr x›,‹fr y›,none]) rfl (by wp_walk using evS,O3,r1,r2,et,e2,e7,e8,e9;rfl),(b8.add bt).mono (by omega)⟩
 | atop=>exact⟨A6 (ρ:=[‹.str "atop"›,‹fr c›,‹fr d›,‹fr x›,‹fr y›,none]) rfl (by wp_walk using evS,O3,r1,et,e10,e11;rfl),(b10.add bt).mono (by omega)⟩
 | cut=>exact⟨A6 (ρ:=[‹.str "cut"›,‹fr c›,‹fr d›,‹fr x›,‹fr y›,none]) rfl (by wp_walk using evS,O3,r1,et;rfl),bt.mono (by omega)⟩
theorem cd6(m:Man) {c d:Rat}(hc:0<=c) (hd:0<=d) (hc1:c<=1) (hd1:d<=1):m.cov c d<=1:=by
 have p:0<=(1 - c)*(1 - d):=Rat.mul_nonneg (by grind) (by grind)
 have q:d*(1 - c)<=1*(1 - c):=Rat.mul_le_mul_of_nonneg_right hd1 (by grind)
 cases m<;>simp only[Man.cov,an3]<;>grind
theorem aZ0(m:Man) {c d x y:Rat}(hc:0<=c) (hd:0<=d) (hc1:c<=1) (hd1:d<=1) (hx:0<=x) (hy:0<=y) (xc:x<=c) (yd:y<=d):m.col c d x y<=m.cov c d:=by
 have q1:y*(1 - c)<=d*(1 - c):=Rat.mul_le_mul_of_nonneg_right yd (by grind)
 have q2:x*(y+1 - d)<=c*(y+1 - d):=Rat.mul_le_mul_of_nonneg_right xc (by grind)
 have q3:x*d<=c*d:=Rat.mul_le_mul_of_nonneg_right xc hd
 have q4:(1 - c)*(1 - d)<=(1 - x)*(1 - d):=Rat.mul_le_mul_of_nonneg_right (by grind) (by grind)
 have q5:(1 - d)*(1 - x)<=(1 - y)*(1 - x):=Rat.mul_le_mul_of_nonneg_right (by grind) (by grind)
 cases m<;>simp only[Man.cov,Man.col,an3]<;>grind
theorem cn3(a b c d e f:D):(List.zip [a,b,c] [d,e,f])=[(a,d),(b,e),(c,f)]:=rfl
theorem ln2(a b:D):([a,b]:List D).length=2:=rfl
theorem aZ2(m:Man) {k:Nat}{c x1 x2 x3 d y1 y2 y3:Rat}(S:Spot k c x1 x2 x3) (T:Spot k d y1 y2 y3) (l:6*k+4<=8000) :
  Y0 [.str m.s,sp c x1 x2 x3,sp d y1 y2 y3]=some (sp (m.cov c d) (m.col c d x1 y1) (m.col c d x2 y2) (m.col c d x3 y3))/\Spot (6*k+4) (m.cov c d) (m.col c d x1 y1) (m.col c d x2 y2) (m.col c d x3 y3):=by
 have s1:IsSh k x1:=⟨S.hx,Rat.le_trans S.xc S.hc.le⟩
 have s2:IsSh k x2:=⟨S.hy,Rat.le_trans S.yc S.hc.le⟩
 have s3:IsSh k x3:=⟨S.hz,Rat.le_trans S.zc S.hc.le⟩
 have t1:IsSh k y1:=⟨T.hx,Rat.le_trans T.xc T.hc.le⟩
 have t2:IsSh k y2:=⟨T.hy,Rat.le_trans T.yc T.hc.le⟩
 have t3:IsSh k y3:=⟨T.hz,Rat.le_trans T.zc T.hc.le⟩
 have a0:=bC4 m S.hc T.hc l
 have a1:=az7 m S.hc T.hc s1 t1 l
 have a2:=az7 m S.hc T.hc s2 t2 l
 have a3:=az7 m S.hc T.hc s3 t3 l
 refine⟨?_,⟨⟨a0.2,cd6 m S.hc.bd.nn T.hc.bd.nn S.hc.le T.hc.le⟩,a1.2,a2.2,a3.2,aZ0 m S.hc.bd.nn T.hc.bd.nn S.hc.le T.hc.le S.hx.nn T.hx.nn S.xc T.xc,aZ0 m S.hc.bd.nn T.hc.bd.nn S.hc.le T.hc.le S.hy.nn T.hy.nn S.yc T.yc,aZ0 m S.hc.bd.nn T.hc.bd.nn S.hc.le T.hc.le S.hz.nn T.hz.nn S.zc T.zc⟩⟩
 refine A6 (ρ:=[‹.str m.s›,‹sp c x1 x2 x3›,‹sp d y1 y2 y3›,none,none,none]) rfl ?_
 have f3:∀a b c:D,([a,b,c]:List D).length<=16777216:=fun a b c=>by show 3<=16777216;decide
 wp_walk using evA,aG8,sp,cn3,f3,ln2,a0.1,a1.1,a2.1,a3.1
inductive Rul where
 | turn|grey|round
def Rul.s:Rul->Str
 | .turn => "turn"
 | .grey => "grey"
 | .round => "round"
def third:Rat:=mkRat 1 3
theorem bz4:fr third=.tuple [.int 1,.int 3]:=by
 show PyData.tuple [.int (mkRat 1 3).num,.int (mkRat 1 3).den]=_
 rw[show(mkRat 1 3).num=1 by decide +kernel,show(mkRat 1 3).den=3 by decide +kernel];rfl
theorem bp3:third*3=1:=by decide +kernel
theorem au9:IsSh 2 third:=⟨⟨by decide +kernel,by decide +kernel,by decide +kernel⟩,by decide +kernel⟩
def Rul.new:Rul->Rat->Rat->Rat->Rat->Rat
 | .turn,c,x,y,z=>c - x
 | .grey,c,x,y,z=>(x+y+z)*third
 | .round,c,x,y,z=>y
def Rul.mix(r:Rul) (s c x y z:Rat):Rat:=s*r.new c x y z+(1 - s)*x
theorem ac2{j k:Nat}{s n o:Rat}(hs:IsSh k s) (hn:Bd j n) (ho:Bd k o) (l:k+j+2*k+1<=8000):aL9 [fr s,fr n,fr o]=some (fr (s*n+(1 - s)*o)):=by
 have e1:=O4 hs.bd hn (by omega)
 have r1:=ag4 hs.bd (by omega) hs.le
 have e2:=O4 (af8 hs).bd ho (by omega)
 have e3:=T1 (hs.bd.mul hn) ((af8 hs).bd.mul ho) (by omega)
 refine A6 (ρ:=[‹fr s›,‹fr n›,‹fr o›]) rfl ?_
 wp_walk using evA,bf7,e1,r1,e2,e3
theorem aM2(r:Rul) {k:Nat}{c x y z:Rat}(S:Spot k c x y z) (l:6*k+6<=8000):ar3 [.str r.s,sp c x y z]=some (sp c (r.new c x y z) (r.new c y z x) (r.new c z x y)):=by
 have e1:=T3 S.hc.bd S.hx (by omega) S.xc
 have e2:=T3 S.hc.bd S.hy (by omega) S.yc
 have e3:=T3 S.hc.bd S.hz (by omega) S.zc
 have b4:=S.hx.add S.hy
 have e4:=T1 S.hx S.hy (by omega)
 have e5:=T1 b4 S.hz (by omega)
 have e6:=O4 (b4.add S.hz) au9.bd (by omega)
 rw[bz4]at e6
 have g1:(y+z+x)*third=(x+y+z)*third:=by grind
 have g2:(z+x+y)*third=(x+y+z)*third:=by grind
 cases r with
 | turn =>
  refine A6 (ρ:=[‹.str "turn"›,‹sp c x y z›,none,none,none,none,none]) rfl ?_
  wp_walk using evS,ag2,sp,e1,e2,e3;rfl
 | grey =>
  refine A6 (ρ:=[‹.str "grey"›,‹sp c x y z›,none,none,none,none,none]) rfl ?_
  wp_walk using evS,ag2,sp,e4,e5,e6
  simp only[Rul.new,g1,g2]
 | round =>
  refine A6 (ρ:=[‹.str "round"›,‹sp c x y z›,none,none,none,none,none]) rfl ?_
  wp_walk using evS,ag2,sp;rfl
theorem aI7(r:Rul) {k:Nat}{c x y z:Rat}(S:Spot k c x y z):Bd (3*k+4) (r.new c x y z):=by
 cases r with
 | turn=>exact(S.hc.bd.sub S.hx S.xc).mono (by omega)
 | grey=>exact(((S.hx.add S.hy).add S.hz).mul au9.bd).mono (by omega)
 | round=>exact S.hy.mono (by omega)
theorem Spot.rot{k:Nat}{c x y z:Rat}(S:Spot k c x y z):Spot k c y z x:=⟨S.hc,S.hy,S.hz,S.hx,S.yc,S.zc,S.xc⟩
theorem bV6(r:Rul) {k:Nat}{c x y z:Rat}(S:Spot k c x y z):r.new c x y z<=c:=by
 have h1:=S.xc
 have h2:=S.yc
 have h3:=S.zc
 have h4:=S.hx.nn
 cases r with
 | turn=>simp only[Rul.new];grind
 | grey =>
  simp only[Rul.new]
  have:(x+y+z)*third<=(c+c+c)*third:=Rat.mul_le_mul_of_nonneg_right (by grind) au9.bd.nn
  have e:(c+c+c)*third=c:=by have:=bp3;grind
  rw[e]at this
  exact this
 | round=>exact h2
theorem aW2(r:Rul) {k:Nat}{s c x y z:Rat}(S:Spot k c x y z) (hs:IsSh k s):r.mix s c x y z<=c:=by
 have h1:r.new c x y z*s<=c*s:=Rat.mul_le_mul_of_nonneg_right (bV6 r S) hs.bd.nn
 have h2:x*(1 - s)<=c*(1 - s):=Rat.mul_le_mul_of_nonneg_right S.xc (by have:=hs.le;grind)
 unfold Rul.mix
 grind
theorem aW3(r:Rul) {k:Nat}{s c x y z:Rat}(S:Spot k c x y z) (hs:IsSh k s):Bd (6*k+6) (r.mix s c x y z):=by
 unfold Rul.mix
 exact((hs.bd.mul (aI7 r S)).add ((af8 hs).bd.mul S.hx)).mono (by omega)
theorem cn2(a b c d e f g h:D):(List.zip [a,b,c,d] [e,f,g,h])=[(a,e),(b,f),(c,g),(d,h)]:=rfl
theorem bp2(r:Rul) {k:Nat}{s c x y z:Rat}(S:Spot k c x y z) (hs:IsSh k s) (l:6*k+6<=8000) :
  au6 [.str r.s,sp c x y z,fr s]=some (sp c (r.mix s c x y z) (r.mix s c y z x) (r.mix s c z x y))/\Spot (6*k+6) c (r.mix s c x y z) (r.mix s c y z x) (r.mix s c z x y):=by
 refine⟨?_,⟨S.hc.mono (by omega),aW3 r S hs,aW3 r S.rot hs,aW3 r S.rot.rot hs,aW2 r S hs,aW2 r S.rot hs,aW2 r S.rot.rot hs⟩⟩
 have e0:=aM2 r S l
 have ec:=ac2 hs S.hc.bd S.hc.bd (by omega)
 have e1:=ac2 hs (aI7 r S) S.hx (by omega)
 have e2:=ac2 hs (aI7 r S.rot) S.hy (by omega)
 have e3:=ac2 hs (aI7 r S.rot.rot) S.hz (by omega)
 have cc:s*c+(1 - s)*c=c:=by grind
 rw[cc]at ec
 refine A6 (ρ:=[‹.str r.s›,‹sp c x y z›,‹fr s›]) rfl ?_
 have f4:∀a b c d:D,([a,b,c,d]:List D).length<=16777216:=fun a b c d=>by show 4<=16777216;decide
 simp only[sp]at e0
 wp_walk using evA,bf6,sp,cn2,f4,ln2,e0,ec,e1,e2,e3
 rfl
def Gd:Nat->D->Prop
 | _,.none=>True
 | _,.bool _=>True
 | _,.int i=>i.natAbs < 2 ^ 40
 | _,.str x=>PyData.strOk x=true
 | n+1,.tuple xs=>xs.length<=64/\∀x∈xs,Gd n x
 | n+1,.list xs=>xs.length<=64/\∀x∈xs,Gd n x
 | _,_=>False
theorem cat_tup{xs ys:List D}(h:xs.length+ys.length<=16777216):v8 (.tuple xs) (.tuple ys)=some (.tuple (xs++ys)):=if_pos h
theorem z3(a b c d e f:D):(List.zip [a,b,c] [d,e,f]).map (fun(x,y)=>PyData.tuple [x,y])=[.tuple [a,d],.tuple [b,e],.tuple [c,f]]:=rfl
structure Q4 where
 c:Rat
 x:Rat
 y:Rat
 z:Rat
def Q4.d(q:Q4):D:=sp q.c q.x q.y q.z
def Q4.ok(k:Nat) (q:Q4):Prop:=Spot k q.c q.x q.y q.z
def q0:Q4:=⟨0,0,0,0⟩
theorem ci2:q0.d=.tuple [.tuple [.int 0,.int 1],.tuple [.int 0,.int 1],.tuple [.int 0,.int 1],.tuple [.int 0,.int 1]]:=rfl
theorem ci1{k:Nat}(hk:1<=k):q0.ok k:=by
 have z:IsSh k 0:=⟨Bd.zero.mono hk,by decide⟩
 exact⟨z,z.bd,z.bd,z.bd,Rat.le_refl,Rat.le_refl,Rat.le_refl⟩
theorem Q4.ok.mono{j k:Nat}{q:Q4}(h:q.ok j) (l:j<=k):q.ok k:=Spot.mono h l
def Ly(n:Nat) (d:D):Prop:=PyData.canLay0 d=true/\PyData.depth d<=n
theorem ay5{n:Nat}:∀xs:List D,(∀x∈xs,Ly n x)->PyData.canLayAll0 xs=true/\PyData.depthAll xs<=n
 | [],_=>⟨rfl,Nat.zero_le _⟩
 | x::xs,g=>by
  have a:=g x (List.mem_cons_self ..)
  have b:=ay5 xs fun y hy=>g y (xmm _ hy)
  refine⟨?_,?_⟩
  ·show(PyData.canLay0 x&&PyData.canLayAll0 xs)=true
   rw[a.1,b.1];rfl
  ·show max (PyData.depth x) (PyData.depthAll xs)<=n
   have:=a.2;have:=b.2;omega
theorem Ly.tup{n:Nat}{xs:List D}(h:∀x∈xs,Ly n x):Ly (n+1) (.tuple xs):=⟨(ay5 xs h).1,Nat.succ_le_succ (ay5 xs h).2⟩
theorem Ly.lst{n:Nat}{xs:List D}(h:∀x∈xs,Ly n x):Ly (n+1) (.list xs):=⟨(ay5 xs h).1,Nat.succ_le_succ (ay5 xs h).2⟩
theorem Ly.int(n:Nat) (i:Int):Ly n (.int i):=⟨rfl,Nat.zero_le _⟩
theorem Ly.shaped{n:Nat}{d:D}(g:Ly n d) (hn:n<=64):SeqAt.shaped d=true:=by
 unfold SeqAt.shaped
 rw[g.1,Bool.true_and]
 exact decide_eq_true (by have:=g.2;omega)
theorem Ly.q4(q:Q4) (n:Nat):Ly (n+2) q.d:=⟨rfl,by show 2<=n+2;omega⟩
theorem Ly.spots(l:List Q4) (n:Nat):Ly (n+3) (.tuple (l.map Q4.d)):=Ly.tup fun x hx=>by
 obtain⟨q,_,rfl⟩:=List.mem_map.mp hx
 exact Ly.q4 q n
theorem bc7{n:Nat}{d:D}(g:Ly n d) (hn:n<=64):neD d d=some (.bool false):=by
 unfold neD
 rw[if_pos ⟨g.shaped hn,g.shaped hn⟩,SeqAt.eqv_refl d g.1];rfl
def shD(w h:Nat) (l:List Q4):D:=.tuple [.int w,.int h,.tuple (l.map Q4.d)]
theorem Ly.sheet(w h:Nat) (l:List Q4):Ly 4 (shD w h l):=Ly.tup fun x hx=>by
 simp only[List.mem_cons,List.not_mem_nil,or_false]at hx
 rcases hx with rfl|rfl|rfl
 ·exact Ly.int _ _
 ·exact Ly.int _ _
 ·exact Ly.spots l 0
def atQ(w h:Nat) (l:List Q4) (x y:Int):Q4:=if 0<=x/\x < w/\0<=y/\y < h then l.getD (y*w+x).toNat q0 else q0
structure ShOk (k:Nat) (w h:Nat) (l:List Q4):Prop where
 w1:1<=w
 w8:w<=8
 h1:1<=h
 h8:h<=8
 len:l.length=w*h
 ok:∀q∈l,q.ok k
theorem bP4{α:Type}{e:DE}{r:Rho}{h f:α->D}:∀(l:List α) (x:Option B),(∀a∈l,e (‹h a›::r)=some (f a))->U2 (B7 0) E4 e (l.map h) (x::r)=some (l.map f)
 | [],_,_=>rfl
 | a::l,x,H=>by simp only[xmc,U2,B7,xw0,xbs,E4,if_true,H a (List.mem_cons_self ..),bP4 l _ (fun b hb=>H b (xmm _ hb)),xms]
theorem bP3{α:Type}{e:DE}{r:Rho}{h1 h2 f:α->D}:∀(l:List α) (x y:Option B),(∀a∈l,e (‹h1 a›::‹h2 a›::r)=some (f a))->U2 (Q7 2 (C4 (B7 0) (C4 (B7 1) R3))) E4 e (l.map fun a=>.tuple [h1 a,h2 a]) (x::y::r)=some (l.map f)
 | [],_,_,_=>rfl
 | a::l,x,y,H=>by
  have hl:([h1 a,h2 a]:List D).length=2:=rfl
  simp only[xmc,U2,Q7,C4,R3,B7,hl,if_true,xw0,xw1,xbs,E4,if_true,H a (List.mem_cons_self ..),bP3 l _ _ (fun b hb=>H b (xmm _ hb)),xms]
theorem bA9{α:Type}{c:Rho->Option Bool}{e:DE}{r:Rho}{h f:α->D}{p:α->Bool}:∀(l:List α) (x:Option B),(∀a∈l,c (‹h a›::r)=some (p a))->(∀a∈l,e (‹h a›::r)=some (f a))->U2 (B7 0) c e (l.map h) (x::r)=some ((l.filter p).map f)
 | [],_,_,_=>rfl
 | a::l,x,C,H=>by
  have ih:=bA9 l (‹h a›) (fun b hb=>C b (xmm _ hb)) (fun b hb=>H b (xmm _ hb))
  cases q:p a with
  | true =>simp only[xmc,U2,B7,xw0,xbs,C a (List.mem_cons_self ..),q,if_true,H a (List.mem_cons_self ..),ih,xms,List.filter_cons_of_pos q]
  | false =>
   have q':¬p a=true:=by rw[q];exact Bool.false_ne_true
   simp only[xmc,U2,B7,xw0,xbs,C a (List.mem_cons_self ..),q,xft,if_false,ih,List.filter_cons_of_neg q']
theorem k6{α:Type}{caps:List Nat}{src:Rho->Option (List D)}{e:DE}{ρ r:Rho}{l:List α}{h f:α->D}(hr:o0 1 caps ρ=none::r) (hs:src ρ=some (l.map h)) (hl:l.length<=1000) (H:∀a∈l,e (‹h a›::r)=some (f a)) :
  C2 1 caps src (B7 0) E4 e ρ=some (l.map f):=by
 unfold C2
 rw[hs,xbs,if_pos (by rw[List.length_map];omega),hr,bP4 l _ H]
theorem aW1{α:Type}{caps:List Nat}{src:Rho->Option (List D)}{e:DE}{ρ r:Rho}{l:List α}{h1 h2 f:α->D}(hr:o0 2 caps ρ=none::none::r) (hs:src ρ=some (l.map fun a=>.tuple [h1 a,h2 a])) (hl:l.length<=1000) (H:∀a∈l,e (‹h1 a›::‹h2 a›::r)=some (f a)) :
  C2 2 caps src (Q7 2 (C4 (B7 0) (C4 (B7 1) R3))) E4 e ρ=some (l.map f):=by
 unfold C2
 rw[hs,xbs,if_pos (by rw[List.length_map];omega),hr,bP3 l _ _ H]
theorem bc9{α:Type}{caps:List Nat}{src:Rho->Option (List D)}{c:Rho->Option Bool}{e:DE}{ρ r:Rho}{l:List α}{h f:α->D}{p:α->Bool}(hr:o0 1 caps ρ=none::r) (hs:src ρ=some (l.map h)) (hl:l.length<=1000) (C:∀a∈l,c (‹h a›::r)=some (p a)) (H:∀a∈l,e (‹h a›::r)=some (f a)) :
  C2 1 caps src (B7 0) c e ρ=some ((l.filter p).map f):=by
 unfold C2
 rw[hs,xbs,if_pos (by rw[List.length_map];omega),hr,bA9 l _ C H]
theorem o9{f:DE}{ρ:Rho}{n:Nat}(h:f ρ=some (.int n)) (hn:n<=1000):N3 f ρ=some ((List.range n).map fun k:Nat=>PyData.int k):=by
 unfold N3
 rw[h,xbs]
 show(if -(2 ^ 62)<=(n:Int)/\(n:Int) < 2 ^ 62 then some (aa7 0 n) else none)=_
 rw[if_pos ⟨by omega,by omega⟩]
 unfold aa7
 congr 1
 have e:((n:Int) - 0).toNat=n:=by omega
 rw[e]
 apply List.map_congr_left
 intro k _
 congr 1
 omega
theorem bu3{i j:Int}(h1:L0 i) (h2:L0 j):K7 (.int i) (.int j)=some (.int (i*j)):=V0 h1 h2
theorem U0{i j:Nat}(h1:i<=1000) (h2:j<=1000):K7 (.int i) (.int j)=some (.int ((i*j:Nat):Int)):=by rw[bu3 (u7 (k:=10) (by omega) (by decide)) (u7 (k:=10) (by omega) (by decide)),Int.natCast_mul]
theorem sm8{i:Int}(h0:0<=i) (h:i<=1000):L0 i:=av4 h0 (by omega)
def plc(w n:Nat):List (Int×Int):=(List.range n).map fun k=>(((k % w:Nat):Int),((k / w:Nat):Int))
theorem aD5{w h:Nat}(w1:1<=w) (w8:w<=8) (h8:h<=8):W5 [.int w,.int h]=some (.list ((plc w (w*h)).map fun p=>.tuple [.int p.1,.int p.2])):=by
 refine A6 (ρ:=[‹.int w›,‹.int h›]) rfl ?_
 have hm:(A5 K7 (A1 0) (A1 1)) [‹.int w›,‹.int h›]=some (.int ((w*h:Nat):Int)):=U0 (by omega) (by omega)
 have wh:w*h<=64:=Nat.mul_le_mul w8 h8
 unfold ar9 A9 W0
 rw[k6 (l:=List.range (w*h)) (h:=fun k:Nat=>PyData.int k) (f:=fun k=>.tuple [.int ((k % w:Nat):Int),.int ((k / w:Nat):Int)]) (r:=[‹.int w›]) rfl (o9 hm (by omega)) (by rw[List.length_range];omega) ?_]
 ·unfold plc
  rw[List.map_map];rfl
 ·intro k _
  have wp:(0:Int) < (w:Int):=by omega
  simp only[O1,A0,A3,A5,A1,xg0,xg1,xbs,xms,aE1 wp,aQ5 wp (sm8 (by omega) (by omega))]
  rfl
theorem bF7{w h:Nat}{p:Int×Int}(hp:p∈plc w (w*h)) (w1:1<=w):0<=p.1/\p.1 < w/\0<=p.2/\p.2 < h:=by
 obtain⟨k,hk,rfl⟩:=List.mem_map.mp hp
 have hk:=List.mem_range.mp hk
 have a:=Nat.mod_lt k (show w > 0 by omega)
 have b:=Nat.div_lt_of_lt_mul hk
 exact⟨Int.natCast_nonneg _,Int.ofNat_lt.mpr a,Int.natCast_nonneg _,Int.ofNat_lt.mpr b⟩
theorem at8(w n:Nat):(plc w n).length=n:=by unfold plc;rw[List.length_map,List.length_range]
theorem am5(w h:Int) (s:D) (x y:Int):Y9 [.tuple [.int w,.int h,s],.int x,.int y]=some (.bool (decide (0<=x/\x < w/\0<=y/\y < h))):=by
 refine A6 (ρ:=[‹.tuple [.int w,.int h,s]›,‹.int x›,‹.int y›]) rfl ?_
 by_cases a:0<=x<;>by_cases b:x < w<;>by_cases c:0<=y<;>by_cases e:y < h<;>simp[as3,B0,B2,A9,sIf,C9,U9,al0,A1,dC,O1,W0,A5,A2,S8,dOr,ae9,R7,dIx,R4,P3,ab7,aj5,Y7,A8,qE,qN,ak9,S0,M5,Z7,A3,A0,K4,tB2,ac4,Q5,F8,ai3,R8,E4,B7,Q7,C4,R3,Q6,am2,xg0,xg1,xw0,xw1,xbs,xms,xmc,xmn,xna,xca,af0,ad2,aw7,as9,ap4,aA0,aA3,aB9,aB8,aB7,aB6,aC2,aC1,aC0,ay3,ay2,xnt,xnf,xft,if_true,if_false,aj7,aU2,a,b,c,e]
theorem ai7{n:Nat}{i:Int}(h0:0<=i) (h1:i < n):ixN n i=some i.toNat:=by unfold ixN;rw[if_pos h0,if_pos h1]
theorem atD(l:List Q4) {i:Int}(h0:0<=i) (h1:i < l.length):L2.atI (l.map Q4.d) i=some (l.getD i.toNat q0).d:=by
 unfold L2.atI
 rw[List.length_map,ai7 h0 h1,xbs,List.getElem?_map,List.getD_eq_getElem?_getD]
 have:i.toNat < l.length:=by omega
 rw[List.getElem?_eq_getElem this];rfl
theorem af7{w h:Nat}{x y:Int}(b:0<=x/\x < w/\0<=y/\y < h):0<=y*w+x/\y*w+x < ((w*h:Nat):Int):=by
 obtain⟨a,b,c,e⟩:=b
 have p:0<=y*(w:Int):=Int.mul_nonneg c (by omega)
 refine⟨by omega,?_⟩
 have:(y+1)*(w:Int)<=h*(w:Int):=Int.mul_le_mul_of_nonneg_right (by omega) (by omega)
 have e2:(y+1)*(w:Int)=y*w+w:=by rw[Int.add_mul,Int.one_mul]
 have e3:((w*h:Nat):Int)=h*w:=by rw[Int.natCast_mul,Int.mul_comm]
 omega
theorem aD7{w h:Nat}{x y:Int}(s:D) (w8:w<=8) (h8:h<=8) (b:0<=x/\x < w/\0<=y/\y < h):R5 [.tuple [.int w,.int h,s],.int x,.int y]=some (.int (y*w+x)):=by
 refine A6 (ρ:=[‹.tuple [.int w,.int h,s]›,‹.int x›,‹.int y›]) rfl ?_
 wp_walk using evD,r8,bu3 (sm8 b.2.2.1 (by omega)) (sm8 (show(0:Int)<=w by omega) (by omega))
theorem aU4{k w h:Nat}{l:List Q4}(S:ShOk k w h l) (x y:Int):aq8 [shD w h l,.int x,.int y]=some (atQ w h l x y).d:=by
 refine A6 (ρ:=[‹shD w h l›,‹.int x›,‹.int y›]) rfl ?_
 have hp:=am5 w h (.tuple (l.map Q4.d)) x y
 unfold atQ
 by_cases b:0<=x/\x < w/\0<=y/\y < h
 ·rw[if_pos b]
  rw[decide_eq_true b]at hp
  have nm:=aD7 (.tuple (l.map Q4.d)) S.w8 S.h8 b
  have pn:=af7 b
  have e:=atD l pn.1 (by rw[S.len];exact pn.2)
  wp_walk using evD,aq2,shD,hp,nm,e
 ·rw[if_neg b]
  rw[decide_eq_false b]at hp
  wp_walk using evD,aq2,shD,hp
  rfl
def Man.bl(m:Man) (a b:Q4):Q4:=⟨m.cov a.c b.c,m.col a.c b.c a.x b.x,m.col a.c b.c a.y b.y,m.col a.c b.c a.z b.z⟩
theorem bB4(m:Man) {k:Nat}{a b:Q4}(S:a.ok k) (T:b.ok k) (l:6*k+4<=8000):Y0 [.str m.s,a.d,b.d]=some (m.bl a b).d/\(m.bl a b).ok (6*k+4):=aZ2 m S T l
def blL(m:Man) (a b:List Q4):List Q4:=(a.zip b).map fun p=>m.bl p.1 p.2
theorem cf4(a b:List Q4):((a.map Q4.d).zip (b.map Q4.d)).map (fun(x,y)=>PyData.tuple [x,y])=(a.zip b).map fun p=>.tuple [p.1.d,p.2.d]:=by rw[List.zip_map,List.map_map];rfl
theorem cd8(m:Man) {k w h:Nat}{a b:List Q4}(S:ShOk k w h a) (T:ShOk k w h b) (l:6*k+4<=8000):X8 [.str m.s,shD w h a,shD w h b]=some (shD w h (blL m a b))/\ShOk (6*k+4) w h (blL m a b):=by
 have wh:w*h<=64:=Nat.mul_le_mul S.w8 S.h8
 have hz:(a.zip b).length=w*h:=by rw[List.length_zip,S.len,T.len,Nat.min_self]
 refine⟨?_,S.w1,S.w8,S.h1,S.h8,by unfold blL;rw[List.length_map,hz],fun q hq=>?_⟩
 ·refine A6 (ρ:=[‹.str m.s›,‹shD w h a›,‹shD w h b›,none]) rfl ?_
  have g:ab4 (qE (dIx (A8 1) ⇑2)) (qE (dIx (A8 2) ⇑2)) [‹.str m.s›,‹shD w h a›,‹shD w h b›,none]=some (((a.map Q4.d).zip (b.map Q4.d)).map (fun(x,y)=>PyData.tuple [x,y])):=rfl
  have c:C2 2 [0] (ab4 (qE (dIx (A8 1) ⇑2)) (qE (dIx (A8 2) ⇑2))) (Q7 2 (C4 (B7 0) (C4 (B7 1) R3))) E4 (A2 Y0 (A0 (A1 2) (A0 (A1 0) (A0 (A1 1) A3)))) [‹.str m.s›,‹shD w h a›,‹shD w h b›,none]=some ((blL m a b).map Q4.d):=by
   rw[aW1 (l:=a.zip b) (h1:=fun p=>p.1.d) (h2:=fun p=>p.2.d) (f:=fun p=>(m.bl p.1 p.2).d) (r:=[‹.str m.s›]) rfl (by rw[g,cf4]) (by omega) ?_]
   ·unfold blL;rw[List.map_map];rfl
   ·intro p hp
    have pa:=S.ok p.1 (List.of_mem_zip hp).1
    have pb:=T.ok p.2 (List.of_mem_zip hp).2
    wp_walk using evD,(bB4 m pa pb l).1
  have g0:∀v:Option B,dIx (A8 1) ⇑0 [‹.str m.s›,‹shD w h a›,‹shD w h b›,v]=some (.int w):=fun _=>rfl
  have g1:∀v:Option B,dIx (A8 1) ⇑1 [‹.str m.s›,‹shD w h a›,‹shD w h b›,v]=some (.int h):=fun _=>rfl
  simp only[w9,B0,U9,c,g0,g1,A9,O1,A0,A3,P3,A8,xw0,xw1,xms,xbs,xg0,xg1]
  rfl
 ·obtain⟨p,hp,rfl⟩:=List.mem_map.mp hq
  exact(bB4 m (S.ok p.1 (List.of_mem_zip hp).1) (T.ok p.2 (List.of_mem_zip hp).2) l).2
abbrev scr(ns:List Int):D:=.list (ns.map PyData.int)
theorem aQ3(ns:List Int) (k m:Nat) (hn:ns.length<=63) (hk:k < 2 ^ 60) (hm:0 < m):∃n:Nat,A7 [scr ns,.int k,.int m]=some (.int n)/\n < m:=by
 have a:=au7 ns k m hn hk (by omega)
 have b:=au0 ns k m (by omega)
 refine⟨(an0 ns k m).toNat,?_,by omega⟩
 rw[a]
 congr 2
 omega
theorem au2{h:D->D->Option D}{f g:DE}{ρ:Rho}{x y:D}(h1:f ρ=some x) (h2:g ρ=some y):A5 h f g ρ=h x y:=by unfold A5;rw[h1,xbs,h2,xbs]
theorem u8{α:Type}(a:α):∀n:Nat,(List.replicate n [a]).flatten=List.replicate n a
 | 0=>rfl
 | n+1=>by rw[List.replicate_succ,List.flatten_cons,u8 a n];rfl
theorem bu4{xs:List D}{n:Nat}(hn:n<=1000) (hx:xs.length<=1000):K7 (.list xs) (.int n)=some (.list (List.replicate n xs).flatten):=by
 show(if 0<=(n:Int)/\(n:Int) < 1000000/\xs.length*((n:Int)).toNat<=16777216 then some (PyData.list (List.replicate ((n:Int)).toNat xs).flatten) else none)=_
 rw[Int.toNat_natCast,if_pos ⟨by omega,by omega,Nat.le_trans (Nat.mul_le_mul hx hn) (by decide)⟩]
theorem cr4(a:D) (r:List D):v6 (a::r) none (some 1)=[a]:=by
 unfold v6
 have h1:HT.sIx (a::r).length 0 none=0:=by simp[HT.sIx]
 have h2:HT.sIx (a::r).length (a::r).length (some 1)=1:=by simp only[HT.sIx,List.length_cons];first|omega|(simp;omega)|simp
 rw[h1,h2];rfl
theorem bf8(ns:List Int) (k:Nat) (hn:ns.length<=63) (hk:k < 2 ^ 30):∃q:Q4,x9 [scr ns,.int k]=some q.d/\q.ok 8:=by
 obtain⟨c,x,y,z,e,S⟩:=cf0 ns k hn hk
 exact⟨⟨c,x,y,z⟩,e,S⟩
theorem bq2(ns:List Int) (at':Nat) (hn:ns.length<=63) (ha:at' < 2 ^ 20):∃f:Nat->Q4,∀k,k < 1000->x9 [scr ns,.int ((at'+12*k:Nat):Int)]=some (f k).d/\(f k).ok 8:=by
 refine⟨fun k=>if h:k < 1000 then Classical.choose (bf8 ns (at'+12*k) hn (by omega)) else q0,fun k hk=>?_⟩
 simp only[dif_pos hk]
 exact Classical.choose_spec (bf8 ns (at'+12*k) hn (by omega))
theorem aJ2(ns:List Int) (at' w h:Nat) (hn:ns.length<=63) (ha:at' < 2 ^ 20) (w1:1<=w) (w8:w<=8) (h1:1<=h) (h8:h<=8):∃l:List Q4,ag5 [scr ns,.int at',.int w,.int h]=some (shD w h l)/\ShOk 8 w h l:=by
 obtain⟨f,hf⟩:=bq2 ns at' hn ha
 have wh:w*h<=64:=Nat.mul_le_mul w8 h8
 have wh1:1<=w*h:=Nat.mul_le_mul w1 h1
 obtain⟨t,et,ht⟩:=aQ3 ns (at'+7) 3 hn (by omega) (by decide)
 have et':A7 [scr ns,.int ((at':Int)+7),.int 3]=some (.int t):=by rw[← et];simp
 have c:C2 1 [0,1] (N3 (A5 K7 (A1 2) (A1 3))) (B7 0) E4 (A2 x9 (A0 (A1 1) (A0 (A5 B1 (A1 2) (A5 K7 ⇑12 (A1 0))) A3))) [‹scr ns›,‹.int at'›,‹.int w›,‹.int h›,none]=some ((List.range (w*h)).map fun k=>(f k).d):=by
  refine k6 (l:=List.range (w*h)) (h:=fun k:Nat=>PyData.int k) (r:=[‹scr ns›,‹.int at'›]) rfl (o9 ?_ (by omega)) (by rw[List.length_range];omega) ?_
  ·exact U0 (by omega) (by omega)
  ·intro k hk
   have hk:=List.mem_range.mp hk
   have m12:K7 (.int 12) (.int k)=some (.int ((12*k:Nat):Int)):=U0 (i:=12) (by decide) (by omega)
   have e1:((at':Int)+((12*k:Nat):Int))=((at'+12*k:Nat):Int):=by omega
   wp_walk using evD,m12,e1,(hf k (by omega)).1
 have mwh:K7 (.int w) (.int h)=some (.int ((w*h:Nat):Int)):=U0 (by omega) (by omega)
 have cv:((t:Int)==0)=decide (t=0):=by cases t with
  | zero=>rfl
  | succ n=>rw[decide_eq_false (by omega)];exact beq_eq_false_iff_ne.mpr (by omega)
 obtain⟨n,en⟩:∃n,w*h=n+1:=⟨w*h - 1,by omega⟩
 by_cases t0:t=0
 ·refine⟨List.replicate (w*h) (f 0),?_,w1,w8,h1,h8,List.length_replicate ..,fun q hq=>by rw[(List.mem_replicate.mp hq).2];exact(hf 0 (by decide)).2⟩
  refine A6 (ρ:=[‹scr ns›,‹.int at'›,‹.int w›,‹.int h›,none]) rfl ?_
  have hd:(List.range (w*h)).map (fun k=>(f k).d)=(f 0).d::(List.range n).map (fun k=>(f (k+1)).d):=by rw[en,List.range_succ_eq_map,xmc,List.map_map];rfl
  rw[hd]at c
  have v:A5 K7 (aj3 (A1 4) S0 (M5 ⇑1)) (A5 K7 (A1 2) (A1 3)) [‹scr ns›,‹.int at'›,‹.int w›,‹.int h›,‹.list ((f 0).d::(List.range n).map (fun k=>(f (k+1)).d))›]=some (.list (List.replicate (w*h) (f 0).d)):=by
   have a1:aj3 (A1 4) S0 (M5 ⇑1) [‹scr ns›,‹.int at'›,‹.int w›,‹.int h›,‹.list ((f 0).d::(List.range n).map (fun k=>(f (k+1)).d))›]=some (.list (v6 ((f 0).d::(List.range n).map (fun k=>(f (k+1)).d)) none (some 1))):=rfl
   have a2:A5 K7 (A1 2) (A1 3) [‹scr ns›,‹.int at'›,‹.int w›,‹.int h›,‹.list ((f 0).d::(List.range n).map (fun k=>(f (k+1)).d))›]=some (.int ((w*h:Nat):Int)):=(au2 rfl rfl).trans mwh
   rw[cr4]at a1
   have a3:=bu4 (xs:=[(f 0).d]) (show w*h<=1000 by omega) (show 1<=1000 by decide)
   rw[u8]at a3
   exact(au2 a1 a2).trans a3
  have t1:tB2 eqD (A2 A7 (A0 (A1 0) (A0 (A5 B1 (A1 1) ⇑7) (A0 ⇑3 A3)))) ⇑0 [‹scr ns›,‹.int at'›,‹.int w›,‹.int h›,‹.list ((f 0).d::(List.range n).map (fun k=>(f (k+1)).d))›]=some true:=by simp only[tB2,A5,A2,A0,A3,A1,dC,xms,xbs,xg0,xg1,aj7,et',ap4,cv,decide_eq_true t0,R8]
  simp only[aq3,B0,U9,c,sIf,t1,B2,v,A9,O1,A0,A3,P3,A8,A1,xms,xbs,xw0,xw1,xg0,xg1,if_true,xft,if_false,shD,List.map_replicate]
 ·refine⟨(List.range (w*h)).map f,?_,w1,w8,h1,h8,by rw[List.length_map,List.length_range],fun q hq=>by
   obtain⟨k,hk,rfl⟩:=List.mem_map.mp hq
   exact(hf k (by have:=List.mem_range.mp hk;omega)).2⟩
  refine A6 (ρ:=[‹scr ns›,‹.int at'›,‹.int w›,‹.int h›,none]) rfl ?_
  wp_walk using evD,aq3,c,et',cv,decide_eq_false t0,shD,List.map_map
  rfl
theorem an7{α:Type}(f:α->Bool):∀l:List α,aL5 (l.map fun a=>PyData.bool (f a))=some (l.all f)
 | []=>rfl
 | a::l=>by
  show(aL5 (l.map fun a=>PyData.bool (f a))).map (fun c=>f a&&c)=_
  rw[an7 f l];rfl
theorem aP6{k w h:Nat}{l:List Q4}(S:ShOk k w h l) (hk:k+k<=8000):ak2 [shD w h l]=some (.bool true):=by
 have sz:∀n:Nat,1<=n->n<=8->aa1 [.int n]=some (.bool true):=fun n a b=>by
  refine A6 (ρ:=[‹.int n›]) rfl ?_
  have w1:S9 [.int n]=some (.bool true):=rfl
  have a':(1:Int)<=n:=by omega
  have b':(n:Int)<=8:=by omega
  wp_walk using evD,aq5,w1,a',b',decide_true
 have l3:((([.int w,.int h,.tuple (l.map Q4.d)]:List D).length:Nat):Int)=3:=rfl
 have b3:((3:Int)==3)=true:=rfl
 have w8:=S.w8
 have h8:=S.h8
 have wh:w*h<=64:=Nat.mul_le_mul w8 h8
 have zz:n6 [shD w h l]=some (.bool true):=by
  refine A6 (ρ:=[‹shD w h l›]) rfl ?_
  wp_walk using evD,ak0,shD,l3,b3,sz w S.w1 S.w8,sz h S.h1 S.h8
 have al:∀q:Option B,C2 1 [] (Q6 (A1 1)) (B7 0) E4 (A2 ag7 (A0 (A1 0) A3)) [q,‹.tuple (l.map Q4.d)›]=some (l.map fun x=>.bool true):=fun q=>by
  refine k6 (l:=l) (h:=Q4.d) (r:=[]) rfl rfl (by rw[S.len];omega) fun x hx=>?_
  have:=bn4 (S.ok x hx) hk
  wp_walk using evD,Q4.d,this
 have mwh:K7 (.int w) (.int h)=some (.int ((w*h:Nat):Int)):=U0 (by omega) (by omega)
 have hb:((((l.map Q4.d).length:Nat):Int)==((w*h:Nat):Int))=true:=by rw[List.length_map,S.len];simp
 have ab:aL5 (l.map fun x=>.bool true)=some true:=by rw[an7 (fun _=>true)];simp
 refine A6 (ρ:=[‹shD w h l›,none]) rfl ?_
 simp only[shD]at zz
 wp_walk using evD,az4,shD,zz,al,mwh,hb,ab
theorem q4:(4:Nat)<=16777216:=by decide
theorem q3:(3:Nat)<=16777216:=by decide
def Dv(N:Nat) (r:Rat):Prop:=∃z:Int,r*(N:Rat)=(z:Rat)
theorem Dv.add{N:Nat}{r s:Rat}(h:Dv N r) (g:Dv N s):Dv N (r+s):=by
 obtain⟨a,ha⟩:=h;obtain⟨b,hb⟩:=g
 exact⟨a+b,by rw[Rat.add_mul,ha,hb,Rat.intCast_add]⟩
theorem Dv.sub{N:Nat}{r s:Rat}(h:Dv N r) (g:Dv N s):Dv N (r - s):=by
 obtain⟨a,ha⟩:=h;obtain⟨b,hb⟩:=g
 exact⟨a - b,by rw[Rat.intCast_sub,← ha,← hb];grind⟩
theorem Dv.mul{M N:Nat}{r s:Rat}(h:Dv M r) (g:Dv N s):Dv (M*N) (r*s):=by
 obtain⟨a,ha⟩:=h;obtain⟨b,hb⟩:=g
 exact⟨a*b,by rw[Rat.intCast_mul,← ha,← hb,Rat.natCast_mul];grind⟩
theorem Dv.int(N:Nat) (i:Int):Dv N (i:Rat):=⟨i*N,by rw[Rat.intCast_mul];rfl⟩
theorem Dv.one(N:Nat):Dv N 1:=Dv.int N 1
theorem Dv.zero(N:Nat):Dv N 0:=Dv.int N 0
theorem Dv.right{N:Nat}{r:Rat}(h:Dv N r) (M:Nat):Dv (N*M) r:=by have:=h.mul (Dv.one M);rwa [Rat.mul_one]at this
theorem Dv.left{N:Nat}{r:Rat}(h:Dv N r) (M:Nat):Dv (M*N) r:=by have:=(Dv.one M).mul h;rwa [Rat.one_mul]at this
theorem Dv.comm{M N:Nat}{r:Rat}(h:Dv (M*N) r):Dv (N*M) r:=by rwa [Nat.mul_comm]
theorem Dv.of(a:Int) {N:Nat}(hN:0 < N):Dv N (mkRat a N):=by
 refine⟨a,?_⟩
 have hN':(N:Rat)≠0:=by
  intro h
  have:N=0:=by exact_mod_cast h
  omega
 rw[Rat.mkRat_eq_div]
 exact Rat.div_mul_cancel hN'
theorem Dv.mk{N:Nat}{r:Rat}(hN:0 < N) (h:Dv N r) (h0:0<=r) (h1:r<=1):∃a:Nat,a<=N/\r=mkRat a N:=by
 obtain⟨z,hz⟩:=h
 have hN':(0:Rat) < N:=by exact_mod_cast hN
 have z0:0<=z:=by
  have:(0:Rat)<=(z:Rat):=by rw[← hz];exact Rat.mul_nonneg h0 (Rat.le_of_lt hN')
  exact_mod_cast this
 have z1:z<=N:=by
  have:(z:Rat)<=(N:Rat):=by
   rw[← hz]
   have:=Rat.mul_le_mul_of_nonneg_right h1 (Rat.le_of_lt hN')
   rwa [Rat.one_mul]at this
  exact_mod_cast this
 refine⟨z.toNat,by omega,?_⟩
 have e:((z.toNat:Nat):Int)=z:=by omega
 rw[Rat.mkRat_eq_div]
 have hne:(N:Rat)≠0:=fun h=>by rw[h]at hN';exact absurd hN' (by decide)
 have e2:(((z.toNat:Nat):Int):Rat)=r*N:=by rw[e,hz]
 rw[e2]
 exact(Rat.mul_div_cancel hne).symm
theorem Dv.cap{N:Nat}{r:Rat}(h:Dv N r):Dv N (an3 r):=by
 unfold an3;split
 ·exact h
 ·exact Dv.one N
theorem Dv.cov(m:Man) {M N:Nat}{c d:Rat}(hc:Dv M c) (hd:Dv N d):Dv (M*N) (m.cov c d):=by
 cases m
 case plus=>exact((hc.right N).add (hd.left M)).cap
 case atop=>exact hd.left M
 case cut=>exact(hd.mul ((Dv.one M).sub hc)).comm
 all_goals exact((hc.right N).add (hd.left M)).sub (hc.mul hd)
theorem Dv.col(m:Man) {M N:Nat}{c d x y:Rat}(hc:Dv M c) (hd:Dv N d) (hx:Dv M x) (hy:Dv N y):Dv (M*N) (m.col c d x y):=by
 have r:=(hy.mul ((Dv.one M).sub hc)).comm
 cases m
 case over=>exact(hx.right N).add r
 case mult=>exact((hx.mul hy).add (hx.mul ((Dv.one N).sub hd))).add r
 case screen=>exact((hx.right N).add (hy.left M)).sub (hx.mul hy)
 case plus=>exact((hx.right N).add (hy.left M)).cap
 case atop=>exact(hx.mul hd).add r
 case cut=>exact r
def Dn(k:Nat) (q:Q4):Prop:=∃N,0 < N/\N < 2 ^ k/\Dv N q.c/\Dv N q.x/\Dv N q.y/\Dv N q.z
def Ds(k:Nat) (s:Rat):Prop:=∃N,0 < N/\N < 2 ^ k/\Dv N s
theorem V9{a b j k:Nat}(h1:a < 2 ^ j) (h2:b < 2 ^ k):a*b < 2 ^ (j+k):=by
 rw[Nat.pow_add]
 exact Nat.mul_lt_mul'' h1 h2
theorem Dn.bl(m:Man) {j k:Nat}{a b:Q4}(h:Dn j a) (g:Dn k b):Dn (j+k) (m.bl a b):=by
 obtain⟨M,m0,m1,hc,hx,hy,hz⟩:=h
 obtain⟨N,n0,n1,gc,gx,gy,gz⟩:=g
 exact⟨M*N,Nat.mul_pos m0 n0,V9 m1 n1,hc.cov m gc,hc.col m gc hx gx,hc.col m gc hy gy,hc.col m gc hz gz⟩
def Q4.wt(q:Q4) (s:Rat):Q4:=⟨q.c*s,q.x*s,q.y*s,q.z*s⟩
theorem Dn.wt{j k:Nat}{q:Q4}{s:Rat}(h:Dn j q) (g:Ds k s):Dn (j+k) (q.wt s):=by
 obtain⟨M,m0,m1,hc,hx,hy,hz⟩:=h
 obtain⟨N,n0,n1,gs⟩:=g
 exact⟨M*N,Nat.mul_pos m0 n0,V9 m1 n1,hc.mul gs,hx.mul gs,hy.mul gs,hz.mul gs⟩
def Rul.tn(r:Rul) (s:Rat) (q:Q4):Q4:=⟨q.c,r.mix s q.c q.x q.y q.z,r.mix s q.c q.y q.z q.x,r.mix s q.c q.z q.x q.y⟩
theorem Dv.third:Dv 3 third:=Dv.of 1 (by decide)
theorem Dv.new(r:Rul) {N:Nat}{c x y z:Rat}(hc:Dv N c) (hx:Dv N x) (hy:Dv N y) (hz:Dv N z):Dv (N*3) (r.new c x y z):=by
 cases r
 ·exact(hc.sub hx).right 3
 ·exact((hx.add hy).add hz).mul Dv.third
 ·exact hy.right 3
theorem Dv.mix(r:Rul) {M N:Nat}{s c x y z:Rat}(hs:Dv M s) (hc:Dv N c) (hx:Dv N x) (hy:Dv N y) (hz:Dv N z):Dv (M*(N*3)) (r.mix s c x y z) :=
 (hs.mul (Dv.new r hc hx hy hz)).add (((Dv.one M).sub hs).mul (hx.right 3))
theorem Dn.tn(r:Rul) {j k:Nat}{q:Q4}{s:Rat}(h:Dn j q) (g:Ds k s):Dn (k+(j+2)) (r.tn s q):=by
 obtain⟨N,n0,n1,hc,hx,hy,hz⟩:=h
 obtain⟨M,m0,m1,gs⟩:=g
 exact⟨M*(N*3),Nat.mul_pos m0 (Nat.mul_pos n0 (by decide)),V9 m1 (V9 n1 (by decide)),(hc.right 3).left M,gs.mix r hc hx hy hz,gs.mix r hc hy hz hx,gs.mix r hc hz hx hy⟩
theorem Dn.mono{j k:Nat}{q:Q4}(h:Dn j q) (l:j<=k):Dn k q:=by
 obtain⟨N,n0,n1,r⟩:=h
 exact⟨N,n0,Nat.lt_of_lt_of_le n1 (Nat.pow_le_pow_right (by decide) l),r⟩
def Q4.or(q:Q4):Prop:=0<=q.x/\0<=q.y/\0<=q.z/\q.x<=q.c/\q.y<=q.c/\q.z<=q.c/\q.c<=1
theorem Q4.ok.or{k:Nat}{q:Q4}(h:q.ok k):q.or:=⟨h.hx.nn,h.hy.nn,h.hz.nn,h.xc,h.yc,h.zc,h.hc.le⟩
structure Dq (k:Nat) (q:Q4):Prop where
 o:q.or
 n:Dn k q
theorem ba8{k N:Nat}{r:Rat}(n0:0 < N) (n1:N < 2 ^ k) (d:Dv N r) (h0:0<=r) (h1:r<=1):IsSh k r:=by
 obtain⟨a,ha,e⟩:=d.mk n0 h0 h1
 refine⟨?_,h1⟩
 rw[e]
 exact Bd.of n0 (by omega) n1
theorem Dq.ok{k:Nat}{q:Q4}(h:Dq k q):q.ok k:=by
 obtain⟨⟨x0,y0,z0,xc,yc,zc,c1⟩,N,n0,n1,hc,hx,hy,hz⟩:=h
 have c0:=Rat.le_trans x0 xc
 exact⟨ba8 n0 n1 hc c0 c1,(ba8 n0 n1 hx x0 (Rat.le_trans xc c1)).bd,(ba8 n0 n1 hy y0 (Rat.le_trans yc c1)).bd,(ba8 n0 n1 hz z0 (Rat.le_trans zc c1)).bd,xc,yc,zc⟩
theorem Dq.mono{j k:Nat}{q:Q4}(h:Dq j q) (l:j<=k):Dq k q:=⟨h.o,h.n.mono l⟩
theorem Dq.zero(k:Nat):Dq (k+1) q0:=⟨(ci1 (k:=1) (by decide)).or,1,by decide,Nat.one_lt_two_pow (by omega),Dv.zero 1,Dv.zero 1,Dv.zero 1,Dv.zero 1⟩
structure Sr (k:Nat) (s:Rat):Prop where
 h:IsSh k s
 n:Ds k s
theorem Dq.bl(m:Man) {j k:Nat}{a b:Q4}(h:Dq j a) (g:Dq k b) (l:j+k<=1000):Dq (j+k) (m.bl a b)/\Y0 [.str m.s,a.d,b.d]=some (m.bl a b).d:=by
 have r:=bB4 m (h.ok.mono (k:=j+k) (by omega)) (g.ok.mono (k:=j+k) (by omega)) (by omega)
 exact⟨⟨r.2.or,h.n.bl m g.n⟩,r.1⟩
theorem bo5{j k:Nat}{q:Q4}{s:Rat}(S:q.ok j) (hs:IsSh k s) (l:j+k<=8000):ac1 [q.d,fr s]=some (q.wt s).d:=by
 refine A6 (ρ:=[‹q.d›,‹fr s›]) rfl ?_
 have f4:∀a b c d:D,([a,b,c,d]:List D).length<=16777216:=fun a b c d=>by show 4<=16777216;decide
 wp_walk using evC,ay8,Q4.d,Q4.wt,sp,f4,O4 S.hc.bd hs.bd l,O4 S.hx hs.bd l,O4 S.hy hs.bd l,O4 S.hz hs.bd l
theorem cg0{q:Q4}{s:Rat}(h:q.or) (s0:0<=s) (s1:s<=1):(q.wt s).or:=by
 obtain⟨x0,y0,z0,xc,yc,zc,c1⟩:=h
 have mono:∀{u v:Rat},u<=v->u*s<=v*s:=fun h=>Rat.mul_le_mul_of_nonneg_right h s0
 exact⟨Rat.mul_nonneg x0 s0,Rat.mul_nonneg y0 s0,Rat.mul_nonneg z0 s0,mono xc,mono yc,mono zc,Rat.le_trans (r6 (Rat.le_trans x0 xc) s1) c1⟩
theorem Dq.wt{j k:Nat}{q:Q4}{s:Rat}(h:Dq j q) (g:Sr k s):Dq (j+k) (q.wt s):=⟨cg0 h.o g.h.bd.nn g.h.le,h.n.wt g.n⟩
theorem Dq.tn(r:Rul) {j k:Nat}{q:Q4}{s:Rat}(h:Dq j q) (g:Sr k s) (l:j+k+2<=1000):Dq (j+k+2) (r.tn s q)/\au6 [.str r.s,q.d,fr s]=some (r.tn s q).d:=by
 have t:=bp2 r (h.ok.mono (k:=j+k) (by omega)) (g.h.mono (k:=j+k) (by omega)) (by omega)
 refine⟨⟨Q4.ok.or (q:=r.tn s q) t.2,?_⟩,t.1⟩
 have:=h.n.tn r g.n
 rwa [show k+(j+2)=j+k+2 by omega]at this
inductive Nd where
 | layer (nm:D) (m:Man) (s:Rat) (sh:Bool) (lf tp:Int) (mk:Option (List Rat)) (w h:Nat) (l:List Q4) (kb:Nat)
 | tone (nm:D) (r:Rul) (s:Rat) (sh:Bool)
 | group (nm:D) (m:Man) (s:Rat) (sh:Bool) (ns:List Nd)
def mkD:Option (List Rat)->D
 | none=>.none
 | some ms=>.tuple (ms.map fr)
mutual
def Nd.d:Nd->D
 | .layer nm m s sh lf tp mk w h l _=>.tuple [.str "layer", nm,.str m.s,fr s,.bool sh,.int lf,.int tp,mkD mk,shD w h l]
 | .tone nm r s sh=>.tuple [.str "tone", nm,.str r.s,fr s,.bool sh]
 | .group nm m s sh ns=>.tuple [.str "group", nm,.str m.s,fr s,.bool sh,.tuple (Nd.ds ns)]
def Nd.ds:List Nd->List D
 | []=>[]
 | n::r=>n.d::Nd.ds r
end
def aO8(mk:Option (List Rat)) (w h:Nat) (l:List Q4) (x y:Int):Q4:=match mk with
 | none=>atQ w h l x y
 | some ms=>if 0<=x/\x < w/\0<=y/\y < h then(atQ w h l x y).wt (ms.getD (y*w+x).toNat 1) else atQ w h l x y
def aW5(s:Rat) (lf tp:Int) (mk:Option (List Rat)) (w h:Nat) (l:List Q4) (x y:Int):Q4:=(aO8 mk w h l (x - lf) (y - tp)).wt s
mutual
def Nd.ab(x y:Int):Nd->Q4->Q4
 | .layer _ m s sh lf tp mk w h l _,q=>if sh=true then m.bl (aW5 s lf tp mk w h l x y) q else q
 | .tone _ r s sh,q=>if sh=true then r.tn s q else q
 | .group _ m s sh ns,q=>if sh=true then m.bl ((Nd.sw x y ns q0).wt s) q else q
def Nd.sw(x y:Int):List Nd->Q4->Q4
 | [],q=>q
 | n::r,q=>Nd.sw x y r (Nd.ab x y n q)
end
mutual
def Nd.Ok:Nd->Prop
 | .layer _ _ s _ _ _ mk w h l kb=>Sr 4 s/\ShOk kb w h l/\(∀q∈l,Dq kb q)/\(∀ms,mk=some ms->ms.length=w*h/\∀r∈ms,Sr 4 r)/\1<=kb
 | .tone _ _ s _=>Sr 4 s
 | .group _ _ s _ ns=>Sr 4 s/\Nd.Oks ns
def Nd.Oks:List Nd->Prop
 | []=>True
 | n::r=>n.Ok/\Nd.Oks r
end
mutual
def Nd.wg:Nd->Nat
 | .layer _ _ _ _ _ _ _ _ _ _ kb=>kb+8
 | .tone ..=>6
 | .group _ _ _ _ ns=>5+Nd.wgs ns
def Nd.wgs:List Nd->Nat
 | []=>0
 | n::r=>n.wg+Nd.wgs r
end
mutual
def Nd.dp:Nd->Nat
 | .layer ..=>0
 | .tone ..=>0
 | .group _ _ _ _ ns=>1+Nd.dps ns
def Nd.dps:List Nd->Nat
 | []=>0
 | n::r=>max n.dp (Nd.dps r)
end
theorem cq7:eqD (.str "layer") (.str "tone")=some (.bool false):=B3z
theorem cq6:eqD (.str "tone") (.str "tone")=some (.bool true):=B3z
theorem cr0:eqD (.str "group") (.str "tone")=some (.bool false):=B3z
theorem cq8:eqD (.str "layer") (.str "layer")=some (.bool true):=B3z
theorem cr1:eqD (.str "group") (.str "layer")=some (.bool false):=B3z
theorem cq9:eqD (.str "layer") (.str "group")=some (.bool false):=B3z
theorem cr2:eqD (.str "group") (.str "group")=some (.bool true):=B3z
section
variable {nm:D}{m:Man}{r:Rul}{s:Rat}{sh:Bool}{lf tp:Int}{mk:Option (List Rat)}{w h:Nat}{l:List Q4}{kb:Nat}{ns:List Nd}
theorem aJ3:M2 [Nd.d (.layer nm m s sh lf tp mk w h l kb)]=some (.bool sh):=by rw[Nd.d];rfl
theorem aH1:M2 [Nd.d (.tone nm r s sh)]=some (.bool sh):=by rw[Nd.d];rfl
theorem aJ9:M2 [Nd.d (.group nm m s sh ns)]=some (.bool sh):=by rw[Nd.d];rfl
theorem bv2:T4 [Nd.d (.layer nm m s sh lf tp mk w h l kb)]=some (.bool false):=by rw[Nd.d];exact A6 (ρ:=[‹.tuple [.str "layer", nm,.str m.s,fr s,.bool sh,.int lf,.int tp,mkD mk,shD w h l]›]) rfl (congrArg (Option.map Fl.rt) cq7)
theorem aU1:T4 [Nd.d (.tone nm r s sh)]=some (.bool true):=by rw[Nd.d];exact A6 (ρ:=[‹.tuple [.str "tone", nm,.str r.s,fr s,.bool sh]›]) rfl (congrArg (Option.map Fl.rt) cq6)
theorem bz1:T4 [Nd.d (.group nm m s sh ns)]=some (.bool false):=by rw[Nd.d];exact A6 (ρ:=[‹.tuple [.str "group", nm,.str m.s,fr s,.bool sh,.tuple (Nd.ds ns)]›]) rfl (congrArg (Option.map Fl.rt) cr0)
theorem bd3:W2 [Nd.d (.layer nm m s sh lf tp mk w h l kb)]=some (.bool true):=by rw[Nd.d];exact A6 (ρ:=[‹.tuple [.str "layer", nm,.str m.s,fr s,.bool sh,.int lf,.int tp,mkD mk,shD w h l]›]) rfl (congrArg (Option.map Fl.rt) cq8)
theorem be4:W2 [Nd.d (.group nm m s sh ns)]=some (.bool false):=by rw[Nd.d];exact A6 (ρ:=[‹.tuple [.str "group", nm,.str m.s,fr s,.bool sh,.tuple (Nd.ds ns)]›]) rfl (congrArg (Option.map Fl.rt) cr1)
theorem aP2:D1 [Nd.d (.layer nm m s sh lf tp mk w h l kb)]=some (.str m.s):=by rw[Nd.d];rfl
theorem aP9:D1 [Nd.d (.group nm m s sh ns)]=some (.str m.s):=by rw[Nd.d];rfl
theorem bR5:j7 [Nd.d (.tone nm r s sh)]=some (.str r.s):=by rw[Nd.d];rfl
theorem aw8:M7 [Nd.d (.layer nm m s sh lf tp mk w h l kb)]=some (fr s):=by rw[Nd.d];rfl
theorem av0:M7 [Nd.d (.tone nm r s sh)]=some (fr s):=by rw[Nd.d];rfl
theorem ax4:M7 [Nd.d (.group nm m s sh ns)]=some (fr s):=by rw[Nd.d];rfl
theorem bW8:x8 [Nd.d (.layer nm m s sh lf tp mk w h l kb)]=some (.int lf):=by rw[Nd.d];rfl
theorem ck4:af3 [Nd.d (.layer nm m s sh lf tp mk w h l kb)]=some (.int tp):=by rw[Nd.d];rfl
theorem aW6:x6 [Nd.d (.layer nm m s sh lf tp mk w h l kb)]=some (mkD mk):=by rw[Nd.d];rfl
theorem aJ4:X5 [Nd.d (.layer nm m s sh lf tp mk w h l kb)]=some (shD w h l):=by rw[Nd.d];rfl
theorem ab6:C7 [Nd.d (.group nm m s sh ns)]=some (.tuple (Nd.ds ns)):=by rw[Nd.d];rfl
end
theorem atF(ms:List Rat) {i:Int}(h0:0<=i) (h1:i < ms.length):L2.atI (ms.map fr) i=some (fr (ms.getD i.toNat 1)):=by
 unfold L2.atI
 rw[List.length_map,ai7 h0 h1,xbs,List.getElem?_map,List.getD_eq_getElem?_getD]
 have:i.toNat < ms.length:=by omega
 rw[List.getElem?_eq_getElem this];rfl
theorem be2{k:Nat}{ms:List Rat}(h:∀r∈ms,Sr k r) {i:Nat}(hi:i < ms.length):Sr k (ms.getD i 1):=by
 rw[List.getD_eq_getElem?_getD,List.getElem?_eq_getElem hi]
 exact h _ (List.getElem_mem hi)
theorem aL3{w h kb:Nat}{l:List Q4}(k1:1<=kb) (H:∀q∈l,Dq kb q) (x y:Int):Dq kb (atQ w h l x y):=by
 unfold atQ
 split
 ·rw[List.getD_eq_getElem?_getD]
  cases e:l[(y*(w:Int)+x).toNat]? with
  | none=>exact(Dq.zero 0).mono (by omega)
  | some q=>exact H q (List.mem_of_getElem? e)
 ·exact(Dq.zero 0).mono (by omega)
theorem bd0{mk:Option (List Rat)}{w h kb:Nat}{l:List Q4}(k1:1<=kb) (H:∀q∈l,Dq kb q) (M:∀ms,mk=some ms->ms.length=w*h/\∀r∈ms,Sr 4 r) (x y:Int):Dq (kb+4) (aO8 mk w h l x y):=by
 unfold aO8
 split
 ·exact(aL3 k1 H x y).mono (by omega)
 ·rename_i ms
  split
  ·rename_i b
   have pn:=af7 b
   have hl:=(M ms rfl).1
   exact(aL3 k1 H x y).wt (be2 (M ms rfl).2 (by omega))
  ·exact(aL3 k1 H x y).mono (by omega)
theorem bd2{s:Rat}{lf tp:Int}{mk:Option (List Rat)}{w h kb:Nat}{l:List Q4}(k1:1<=kb) (hs:Sr 4 s) (H:∀q∈l,Dq kb q) (M:∀ms,mk=some ms->ms.length=w*h/\∀r∈ms,Sr 4 r) (x y:Int):Dq (kb+8) (aW5 s lf tp mk w h l x y):=(bd0 k1 H M _ _).wt hs
theorem cb8:isB .none .none=some (.bool true):=rfl
theorem aJ7(ds:List D):isB (.tuple ds) .none=some (.bool false):=rfl
theorem bi6{nm:D}{m:Man}{s:Rat}{sh:Bool}{lf tp:Int}{mk:Option (List Rat)}{w h kb:Nat}{l:List Q4}(k1:1<=kb) (k9:kb<=900) (S:ShOk kb w h l) (H:∀q∈l,Dq kb q) (M:∀ms,mk=some ms->ms.length=w*h/\∀r∈ms,Sr 4 r) (x y:Int) :
  u6 [Nd.d (.layer nm m s sh lf tp mk w h l kb),.int x,.int y]=some (aO8 mk w h l x y).d:=by
 have hp:Y9 [shD w h l,.int x,.int y]=_:=am5 w h (.tuple (l.map Q4.d)) x y
 have sa:=aU4 S x y
 refine A6 (ρ:=[‹Nd.d (.layer nm m s sh lf tp mk w h l kb)›,‹.int x›,‹.int y›,none,none,none]) rfl ?_
 cases mk with
 | none=>wp_walk using evD,Y1,aJ4,aW6,sa,mkD,cb8,aO8
 | some ms =>
  by_cases b:0<=x/\x < w/\0<=y/\y < h
  ·rw[decide_eq_true b]at hp
   have nm:R5 [shD w h l,.int x,.int y]=_:=aD7 (.tuple (l.map Q4.d)) S.w8 S.h8 b
   have pn:=af7 b
   have hl:=(M ms rfl).1
   have af:=atF ms pn.1 (by rw[hl];exact pn.2)
   have hs:=be2 (M ms rfl).2 (show(y*(w:Int)+x).toNat < ms.length by omega)
   have wo:=bo5 (aL3 (w:=w) (h:=h) k1 H x y).ok hs.h (by omega)
   wp_walk using evD,Y1,aJ4,aW6,sa,mkD,aJ7,hp,nm,af,wo,aO8,if_pos b
  ·rw[decide_eq_false b]at hp
   wp_walk using evD,Y1,aJ4,aW6,sa,mkD,aJ7,hp,aO8,if_neg b
theorem aS2{nm:D}{m:Man}{s:Rat}{sh:Bool}{lf tp:Int}{mk:Option (List Rat)}{w h kb:Nat}{l:List Q4}(k1:1<=kb) (k9:kb<=900) (hs:Sr 4 s) (S:ShOk kb w h l) (H:∀q∈l,Dq kb q) (M:∀ms,mk=some ms->ms.length=w*h/\∀r∈ms,Sr 4 r) (f:Nat) (x y:Int) :
  j9 (f+1) [Nd.d (.layer nm m s sh lf tp mk w h l kb),.int x,.int y]=some (aW5 s lf tp mk w h l x y).d:=by
 refine A6 (g:=w6 (X2 f)) (ρ:=[‹Nd.d (.layer nm m s sh lf tp mk w h l kb)›,‹.int x›,‹.int y›,none]) rfl ?_
 have mo:=bi6 (nm:=nm) (m:=m) (s:=s) (sh:=sh) (lf:=lf) (tp:=tp) k1 k9 S H M (x - lf) (y - tp)
 have wo:=bo5 (bd0 k1 H M (x - lf) (y - tp)).ok hs.h (by omega)
 wp_walk using evD,w6,bd3,bW8,ck4,mo,aw8,wo,aW5
theorem aS3{nm:D}{m:Man}{s:Rat}{sh:Bool}{ns:List Nd}{q:Q4}{j:Nat}(hs:Sr 4 s) (f:Nat) (x y:Int) (e:m9 f [.tuple (Nd.ds ns),.int x,.int y]=some q.d) (hq:Dq j q) (l:j+4<=8000) :
  j9 (f+1) [Nd.d (.group nm m s sh ns),.int x,.int y]=some (q.wt s).d:=by
 refine A6 (g:=w6 (X2 f)) (ρ:=[‹Nd.d (.group nm m s sh ns)›,‹.int x›,‹.int y›,none]) rfl ?_
 have e':X2 f 2 [.tuple (Nd.ds ns),.int x,.int y]=some q.d:=e
 have wo:=bo5 hq.ok hs.h l
 wp_walk using evD,w6,be4,ab6,e',ax4,wo
mutual
theorem bB8(x y:Int):∀(n:Nd) (f:Nat) (q:Q4) (j:Nat),n.Ok->3*n.dp+2<=f->Dq j q->j+n.wg<=900->ai1 f [n.d,q.d,.int x,.int y]=some (Nd.ab x y n q).d/\Dq (j+n.wg) (Nd.ab x y n q)
 | .layer nm m s sh lf tp mk w h l kb,f,q,j,ok,hf,hq,hj=>by
  obtain⟨f,rfl⟩:∃g,f=g+2:=⟨f - 2,by omega⟩
  simp only[Nd.Ok]at ok
  simp only[Nd.wg]at hj
  obtain⟨hs,S,H,M,k1⟩:=ok
  have bo:X2 (f+1) 0 [Nd.d (.layer nm m s sh lf tp mk w h l kb),.int x,.int y]=_:=aS2 (nm:=nm) (m:=m) (sh:=sh) k1 (by omega) hs S H M f x y
  have b:=Dq.bl m (bd2 (lf:=lf) (tp:=tp) k1 hs H M x y) hq (by omega)
  have st:C3 (M6 (X2 (f+1))) 4 [Nd.d (.layer nm m s sh lf tp mk w h l kb),q.d,.int x,.int y]=some (Nd.ab x y (.layer nm m s sh lf tp mk w h l kb) q).d:=by
   refine A6 (ρ:=[‹Nd.d (.layer nm m s sh lf tp mk w h l kb)›,‹q.d›,‹.int x›,‹.int y›]) rfl ?_
   cases sh with
   | true=>wp_walk using evD,M6,aJ3,bv2,aP2,bo,b.2,Nd.ab
   | false=>wp_walk using evD,M6,aJ3,Nd.ab
  refine⟨st,?_⟩
  simp only[Nd.ab,Nd.wg]
  split
  ·exact b.1.mono (by omega)
  ·exact hq.mono (by omega)
 | .tone nm r s sh,f,q,j,ok,hf,hq,hj=>by
  obtain⟨f,rfl⟩:∃g,f=g+2:=⟨f - 2,by omega⟩
  simp only[Nd.Ok]at ok
  simp only[Nd.wg]at hj
  have b:=Dq.tn r hq ok (by omega)
  have st:C3 (M6 (X2 (f+1))) 4 [Nd.d (.tone nm r s sh),q.d,.int x,.int y]=some (Nd.ab x y (.tone nm r s sh) q).d:=by
   refine A6 (ρ:=[‹Nd.d (.tone nm r s sh)›,‹q.d›,‹.int x›,‹.int y›]) rfl ?_
   cases sh with
   | true=>wp_walk using evD,M6,aH1,aU1,bR5,av0,b.2,Nd.ab
   | false=>wp_walk using evD,M6,aH1,Nd.ab
  refine⟨st,?_⟩
  simp only[Nd.ab,Nd.wg]
  split
  ·exact b.1.mono (by omega)
  ·exact hq.mono (by omega)
 | .group nm m s sh ns,f,q,j,ok,hf,hq,hj=>by
  simp only[Nd.dp]at hf
  obtain⟨f,rfl⟩:∃g,f=g+3:=⟨f - 3,by omega⟩
  simp only[Nd.Ok]at ok
  simp only[Nd.wg]at hj
  obtain⟨hs,oks⟩:=ok
  have lp:=loop_ok x y ns f q0 1 oks (by omega) (Dq.zero 0) (by omega)
  have sb:m9 (f+1) [.tuple (Nd.ds ns),.int x,.int y]=some (Nd.sw x y ns q0).d:=by
   obtain⟨a4,e4⟩:=lp.1 (‹.tuple (Nd.ds ns)›) none
   refine A6 (g:=m7 (X2 f)) (ρ:=[‹.tuple (Nd.ds ns)›,‹.int x›,‹.int y›,none,none]) rfl ?_
   simp only[ci2]at e4
   simp only[m7,B0,B2,dC,i6,Q6,A1,A9,xms,xbs,xw0,xw1,xg0,xg1,e4]
  have bo:X2 (f+2) 0 [Nd.d (.group nm m s sh ns),.int x,.int y]=_:=aS3 (nm:=nm) (m:=m) (sh:=sh) hs (f+1) x y sb lp.2 (by omega)
  have b:=Dq.bl m (lp.2.wt hs) hq (by omega)
  have st:C3 (M6 (X2 (f+2))) 4 [Nd.d (.group nm m s sh ns),q.d,.int x,.int y]=some (Nd.ab x y (.group nm m s sh ns) q).d:=by
   refine A6 (ρ:=[‹Nd.d (.group nm m s sh ns)›,‹q.d›,‹.int x›,‹.int y›]) rfl ?_
   cases sh with
   | true=>wp_walk using evD,M6,aJ9,bz1,aP9,bo,b.2,Nd.ab
   | false=>wp_walk using evD,M6,aJ9,Nd.ab
  refine⟨st,?_⟩
  simp only[Nd.ab,Nd.wg]
  split
  ·exact b.1.mono (by omega)
  ·exact hq.mono (by omega)
theorem loop_ok(x y:Int):∀(ns:List Nd) (f:Nat) (q:Q4) (j:Nat),Nd.Oks ns->3*Nd.dps ns+2<=f->Dq j q->j+Nd.wgs ns<=900 ->
  (∀a0 a4:Option B,∃a4',am7 (B7 4) (B2 3 (A2 (X2 f 1) (A0 (A1 4) (A0 (A1 3) (A0 (A1 1) (A0 (A1 2) A3)))))) (Nd.ds ns) [a0,‹.int x›,‹.int y›,‹q.d›,a4]=some (.nx [a0,‹.int x›,‹.int y›,some (.val (Nd.sw x y ns q).d),a4']))/\Dq (j+Nd.wgs ns) (Nd.sw x y ns q)
 | [],f,q,j,ok,hf,hq,hj=>by
  simp only[Nd.sw,Nd.wgs]
  exact⟨fun a0 a4=>⟨a4,by simp only[Nd.ds];rfl⟩,hq⟩
 | n::r,f,q,j,ok,hf,hq,hj=>by
  simp only[Nd.Oks]at ok
  simp only[Nd.dps]at hf
  simp only[Nd.wgs]at hj
  have a:=bB8 x y n f q j ok.1 (by omega) hq (by omega)
  have b:=loop_ok x y r f (Nd.ab x y n q) (j+n.wg) ok.2 (by omega) a.2 (by omega)
  have e:X2 f 1 [n.d,q.d,.int x,.int y]=_:=a.1
  simp only[Nd.sw,Nd.wgs]
  refine⟨fun a0 a4=>?_,by rw[← Nat.add_assoc];exact b.2⟩
  obtain⟨a4',e'⟩:=b.1 a0 (‹n.d›)
  refine⟨a4',?_⟩
  simp only[Nd.ds,am7,B7,B2,A2,A0,A3,A1,xbs,xms,xw0,xw1,xg0,xg1,e,e']
end
theorem aN0(x y:Int) (ns:List Nd) (f:Nat) (ok:Nd.Oks ns) (hf:3*Nd.dps ns+2<=f) (hj:1+Nd.wgs ns<=900):m9 (f+1) [.tuple (Nd.ds ns),.int x,.int y]=some (Nd.sw x y ns q0).d/\Dq (1+Nd.wgs ns) (Nd.sw x y ns q0):=by
 have lp:=loop_ok x y ns f q0 1 ok hf (Dq.zero 0) hj
 refine⟨?_,lp.2⟩
 obtain⟨a4,e4⟩:=lp.1 (‹.tuple (Nd.ds ns)›) none
 refine A6 (g:=m7 (X2 f)) (ρ:=[‹.tuple (Nd.ds ns)›,‹.int x›,‹.int y›,none,none]) rfl ?_
 simp only[ci2]at e4
 simp only[m7,B0,B2,dC,i6,Q6,A1,A9,xms,xbs,xw0,xw1,xg0,xg1,e4]
end Sh
local macro_rules
  | `(↥$x) => `(PySem.PyData.tuple (Sh.Nd.ds $x))
namespace Sh
open PySem G L2
theorem aD9:ao8 .none .none=some (.bool false):=rfl
theorem E2{f g:DS}{ρ ρ':Rho}(h:f ρ=some (.nx ρ')):B0 f g ρ=g ρ':=by unfold B0;rw[h];rfl
theorem bq6{f g:DS}{ρ:Rho}{d:D}(h:f ρ=some (.rt d)):B0 f g ρ=some (.rt d):=by unfold B0;rw[h];rfl
theorem v5{α:Type}{g:D->Rho->Option Rho}{f:DS}{h:α->D}{I:Nat->Rho->Prop}:∀(l:List α) (i:Nat) (ρ:Rho),I i ρ->(∀(j:Nat) (a:α),l[j]? = some a->∀ρ,I (i+j) ρ->∃ρ1,g (h a) ρ=some ρ1/\∃ρ',f ρ1=some (.nx ρ')/\I (i+j+1) ρ')->∃ρ',am7 g f (l.map h) ρ=some (.nx ρ')/\I (i+l.length) ρ'
 | [],i,ρ,h0,_=>⟨ρ,rfl,h0⟩
 | a::l,i,ρ,h0,H=>by
  obtain⟨ρ1,e1,ρ2,e2,h2⟩:=H 0 a rfl ρ h0
  obtain⟨ρ',e3,h3⟩:=v5 l (i+1) ρ2 (by simpa using h2) (fun j b hb ρ hρ=>by
   have:=H (j+1) b (by simpa using hb) ρ (by rwa [show i+(j+1)=i+1+j by omega])
   rwa [show i+(j+1)+1=i+1+j+1 by omega]at this)
  refine⟨ρ',?_,by rw[List.length_cons,show i+(l.length+1)=i+1+l.length by omega];exact h3⟩
  simp only[xmc,am7,e1,xbs,e2,e3]
theorem aE6{α:Type}(x:α) {n:Nat}{P:Nat->α->Prop}(h:∀j,j < n->∃a,P j a):∃f:Nat->α,∀j,j < n->P j (f j):=by
 refine⟨fun j=>if hj:j < n then Classical.choose (h j hj) else x,fun j hj=>?_⟩
 simp only[dif_pos hj]
 exact Classical.choose_spec (h j hj)
theorem K3(ns:List Int) (hn:ns.length<=63) {e m':Int}(k m:Nat) (he:e=(k:Int)) (hm':m'=(m:Int)) (hk:k < 2 ^ 60) (hm:0 < m):∃n:Nat,A7 [scr ns,.int e,.int m']=some (.int n)/\n < m:=by
 subst he hm'
 exact aQ3 ns k m hn hk hm
theorem aN1(ns:List Int) (hn:ns.length<=63) {e:Int}(k:Nat) (he:e=(k:Int)) (hk:k < 2 ^ 40):∃r,Q9 [scr ns,.int e]=some (fr r)/\IsSh 4 r:=by
 subst he
 exact ag3 ns k hn hk
theorem bq4(ns:List Int) (hn:ns.length<=63) {e:Int}(k w h:Nat) (he:e=(k:Int)) (hk:k < 2 ^ 20) (w1:1<=w) (w8:w<=8) (h1:1<=h) (h8:h<=8):∃l:List Q4,ag5 [scr ns,.int e,.int w,.int h]=some (shD w h l)/\ShOk 8 w h l:=by
 subst he
 exact aJ2 ns k w h hn hk w1 w8 h1 h8
theorem am9(r:Rat):Dv r.den r:=by
 have:=Dv.of r.num (M9 r)
 rwa [Rat.mkRat_self]at this
theorem aM8{k:Nat}{s:Rat}(h:IsSh k s):Sr k s:=⟨h,s.den,M9 s,h.bd.den,am9 s⟩
theorem cm2{q:Q4}(h:q.ok 8):Dq 32 q :=
 ⟨h.or,q.c.den*q.x.den*(q.y.den*q.z.den),Nat.mul_pos (Nat.mul_pos (M9 _) (M9 _)) (Nat.mul_pos (M9 _) (M9 _)),V9 (V9 h.hc.bd.den h.hx.den) (V9 h.hy.den h.hz.den),
  ((am9 q.c).right _).right _,((am9 q.x).left _).right _,((am9 q.y).right _).left _,((am9 q.z).left _).left _⟩
def SOk(s:Str):Prop:=∀c∈s.cps.toList,97<=c/\c<=122
theorem SOk.ok{s:Str}(h:SOk s):PyData.canLay0 (.str s)=true:=by
 show s.cps.all (· < 0x110000)=true
 rw[Array.all_eq_true']
 intro c hc
 exact decide_eq_true (by have:=h c (Array.mem_toList_iff.mpr hc);omega)
theorem SOk.app{a b:Str}(ha:SOk a) (hb:SOk b):SOk (a++b):=by
 intro c hc
 have:c∈(a.cps++b.cps).toList:=hc
 rw[Array.toList_append]at this
 rcases List.mem_append.mp this with h|h
 ·exact ha c h
 ·exact hb c h
theorem cb6(x:Str) (n:Nat) (h:n < x.length) (hx:x.length<=1000):∃s:Str,atS x (n:Int)=some (.str s)/\s.length=1/\(SOk x->SOk s):=by
 unfold atS
 rw[if_pos (by omega)]
 have hl:x.cps.toList.length=x.length:=by unfold Str.length;simp
 have h':n < x.cps.toList.length:=by omega
 have:atI x.cps.toList (n:Int)=some x.cps.toList[n]:=by
  unfold atI
  rw[ai7 (by omega) (by omega),xbs,Int.toNat_natCast,List.getElem?_eq_getElem h']
 rw[this]
 refine⟨⟨#[x.cps.toList[n]]⟩,rfl,rfl,fun hs c hc=>?_⟩
 have:c=x.cps.toList[n]:=by simpa using hc
 rw[this]
 exact hs _ (List.getElem_mem h')
theorem bE4(x:Str) (lo hi:Option Int):(slS x lo hi).length<=x.length:=by
 unfold slS
 split
 ·exact Nat.le_refl _
 ·unfold Str.length
  rw[List.size_toArray]
  exact Nat.le_trans (List.length_filterMap_le ..) (PyProof.Rows.indices_len_le ..)
theorem bE3{x:Str}(h:SOk x) (lo hi:Option Int):SOk (slS x lo hi):=by
 unfold slS
 split
 ·exact h
 ·intro c hc
  simp only[List.toList_toArray]at hc
  obtain⟨i,_,e⟩:=List.mem_filterMap.mp hc
  exact h c (Array.mem_toList_iff.mpr (Array.mem_of_getElem? e))
theorem br2{x:Str}(h:SOk x) (k:Int) (hk:k=1\/k=2):SOk (as5 x k):=by
 unfold as5
 split
 ·exact h
 ·rename_i e
  rcases hk with rfl|rfl
  ·simp at e
  ·intro c hc
   have:c∈((#[]++x.cps)++x.cps).toList:=hc
   simp at this
   exact h c (Array.mem_toList_iff.mpr this)
theorem by8{a b:Str}(ha:SOk a) (hb:SOk b):SOk (Builtin.Str.glued "" [a,b]):=by
 intro c hc
 have:c∈(a.cps++("" : Str).cps++b.cps).toList:=hc
 rw[Array.toList_append,Array.toList_append]at this
 rcases List.mem_append.mp this with h|h
 ·rcases List.mem_append.mp h with h|h
  ·exact ha c h
  ·exact absurd h (by simp[show("" : Str).cps = #[] from rfl])
 ·exact hb c h
theorem bN2:SOk "abcdefghijklmnopqrstuvwxyz" := by
 have:("abcdefghijklmnopqrstuvwxyz" : Str).cps.toList.all (fun c=>decide (97<=c/\c<=122))=true:=by decide +kernel
 intro c hc
 exact of_decide_eq_true (List.all_eq_true.mp this c hc)
def ltr(k:Nat):Str:=⟨#[97+k]⟩
theorem bW4:∀k:Nat,k < 14->atS "abcdefghijklmn" (k:Int)=some (.str (ltr k)):=by
 have e:("abcdefghijklmn" : Str)=⟨#[97,98,99,100,101,102,103,104,105,106,107,108,109,110]⟩:=by decide +kernel
 intro k hk
 rw[e]
 rcases k with _|_|_|_|_|_|_|_|_|_|_|_|_|_|k
 all_goals first|rfl|omega
theorem bd1(k:Nat) (h:k < 14):SOk (ltr k):=by
 intro c hc
 have:c=97+k:=by simpa [ltr] using hc
 omega
def nmS(b:Bool) (k:Nat) (y:Str):Str:=if b=true then ltr k++y else y++ltr k
theorem bH8(b:Bool) {k:Nat}{y:Str}(hk:k < 14) (hy:SOk y):SOk (nmS b k y):=by
 unfold nmS
 split
 ·exact(bd1 k hk).app hy
 ·exact hy.app (bd1 k hk)
theorem bH9{b:Bool}{i j:Nat}{y z:Str}(e:nmS b i y=nmS b j z):i=j:=by
 unfold nmS at e
 cases b with
 | true =>
  have e:(ltr i).cps++y.cps=(ltr j).cps++z.cps:=congrArg Str.cps e
  have e:=congrArg (fun a=>a.toList.head?) e
  simp[ltr]at e
  omega
 | false =>
  have e:y.cps++(ltr i).cps=z.cps++(ltr j).cps:=congrArg Str.cps e
  have e:=congrArg (fun a=>a.toList.getLast?) e
  simp[ltr]at e
  omega
theorem aN4(x:Str) (k:Int) (hk:k=1\/k=2):(as5 x k).length<=2*x.length:=by
 unfold as5
 split
 ·omega
 ·rename_i e
  rcases hk with rfl|rfl
  ·simp at e
  ·show((#[]++x.cps)++x.cps).size<=2*x.cps.size
   simp;omega
theorem bO7(a b:Str) (ha:a.length=1) (hb:b.length=1):ax9 (dC (.str "")) (fun _=>some (false,[.str a,.str b])) []=some (.str (Builtin.Str.glued "" [a,b]))/\(Builtin.Str.glued "" [a,b]).length=2:=by
 have h2:(Builtin.Str.glued "" [a,b]).length=2:=by
  show(a.cps++("" : Str).cps++b.cps).size=2
  unfold Str.length at ha hb
  rw[Array.size_append,Array.size_append,ha,hb]
  rfl
 have h1:al8 "" [a,b]<=16777216:=by
  show 0+a.length+("" : Str).length+b.length+("" : Str).length<=16777216
  have:("" : Str).length=0:=rfl
  omega
 refine⟨?_,h2⟩
 show(if al8 "" [a,b]<=16777216/\(Builtin.Str.glued "" [a,b]).length<=16777216 then some (PyData.str (Builtin.Str.glued "" [a,b])) else none)=_
 rw[if_pos ⟨h1,by omega⟩]
theorem bJ7{f:DE}{g:Rho->Option (Bool×List D)}{ρ:Rho}{a b:Str}(hf:f ρ=some (.str "")) (hg:g ρ=some (false,[.str a,.str b])) (ha:a.length=1) (hb:b.length=1):ax9 f g ρ=some (.str (Builtin.Str.glued "" [a,b])):=by
 rw[← (bO7 a b ha hb).1]
 unfold ax9
 rw[hf,hg]
 rfl
theorem bI0(x:Str) (k:Int) (hk:k=1\/k=2) (hx:x.length<=1000):bi5 (.str x) (.int k)=some (.str (as5 x k)):=by
 show(if 1<=k/\k<=2/\x.length<=1000/\(as5 x k).length<=16777216 then some (PyData.str (as5 x k)) else none)=_
 have:=aN4 x k hk
 rw[if_pos ⟨by omega,by omega,hx,by omega⟩]
theorem aS0(a b:Str) (ha:a.length<=1000) (hb:b.length<=1000):B1 (.str a) (.str b)=some (.str (a++b)):=by
 show(if a.length+b.length<=16777216 then some (PyData.str (a++b)) else none)=_
 rw[if_pos (by omega)]
theorem cq0:∀n:Nat,n < 2->∃k:Int,atI ([.int 1,.int 2]:List D) (n:Int)=some (.int k)/\(k=1\/k=2)
 | 0,_=>⟨1,rfl,.inl rfl⟩
 | 1,_=>⟨2,rfl,.inr rfl⟩
 | n+2,h=>absurd h (by omega)
def nbA:DS:=(B2 6 (ax9 (dC (.str "")) (qN (C2 1 [0,1,5] (N3 ⇑2) (B7 0) E4 (aj4 (dC (.str "abcdefghijklmnopqrstuvwxyz")) (A2 A7 (A0 (A1 1) (A0 (A5 B1 (A5 B1 (A5 B1 (A1 2) ⇑1) (A5 K7 ⇑3 (A1 3))) (A1 0)) (A0 ⇑26 A3)))))))))
def nbB:DS:=(B2 6 (A5 bi5 (bm1 (A1 6) S0 (M5 (A2 A7 (A0 (A1 0) (A0 (A5 B1 (A5 B1 (A1 1) ⇑3) (A5 K7 ⇑3 (A1 5))) (A0 ⇑3 A3)))))) (dIx (qN (A0 ⇑1 (A0 ⇑2 A3))) (A2 A7 (A0 (A1 0) (A0 (A5 B1 (A5 B1 (A1 1) ⇑2) (A5 K7 ⇑3 (A1 5))) (A0 ⇑2 A3)))))))
def nbC:DS:=(az9 4 (dIx (qN (A0 (A5 B1 (A1 6) (aj4 (dC (.str "abcdefghijklmn")) (A1 5))) (A0 (A5 B1 (aj4 (dC (.str "abcdefghijklmn")) (A1 5)) (A1 6)) A3))) (aj5 (A1 3))))
def aO4:DS:=B0 nbA (B0 nbB nbC)
theorem by7:aG2=(B0 (B2 3 (A5 eqD (A2 A7 (A0 (A1 0) (A0 (A1 1) (A0 ⇑2 A3)))) ⇑0)) (B0 (ao3 4 A3) (B0 (i6 (N3 (A1 2)) (B7 5) aO4) (aN3 4 (A9 (A1 4)))))):=rfl
def gb0:DS:=(B2 8 (A2 A7 (A0 (A1 0) (A0 (A5 B1 (A5 B1 (A1 1) ⇑3) (A5 K7 ⇑5 (A1 7))) (A0 (A5 B1 (R4 (A8 6)) ⇑1) A3)))))
def gb1:DS:=(B2 9 (A5 B1 (A1 8) (A2 A7 (A0 (A1 0) (A0 (A5 B1 (A5 B1 (A1 1) ⇑4) (A5 K7 ⇑5 (A1 7))) (A0 ⇑3 A3))))))
def gb2:DS:=(B2 10 (dIx (qN (A0 (O1 (A0 ⇑1 (A0 ⇑1 A3))) (A0 (A2 Q9 (A0 (A1 0) (A0 (A5 B1 (A5 B1 (A1 1) ⇑5) (A5 K7 ⇑5 (A1 7))) A3))) A3))) (A2 A7 (A0 (A1 0) (A0 (A5 B1 (A5 B1 (A1 1) ⇑6) (A5 K7 ⇑5 (A1 7))) (A0 ⇑2 A3))))))
def gb3:DS:=(B2 11 (dIx (qN (A0 (A1 4) (A0 (dC (.str "atop")) (A0 (A1 4) (A0 (dC (.str "cut")) A3))))) (A2 A7 (A0 (A1 0) (A0 (A5 B1 (A5 B1 (A1 1) ⇑7) (A5 K7 ⇑5 (A1 7))) (A0 ⇑4 A3))))))
def gb4:DS:=(B2 12 (O1 (A0 (dC (.str "group")) (A0 (dIx (A8 3) (A5 B1 (A1 2) (A1 7))) (A0 (A1 11) (A0 (A1 10) (A0 (A5 gtI (A2 A7 (A0 (A1 0) (A0 (A5 B1 (A5 B1 (A1 1) ⇑14) (A1 7)) (A0 ⇑7 A3)))) ⇑0) A3)))))))
def gb5:DS:=(bq7 6 (M5 (A1 8)) (M5 (A1 9)) (A0 (A5 B1 (A1 12) (O1 (A0 (P3 (qE (bm3 (A8 6) (M5 (A1 8)) (M5 (A1 9))))) A3))) A3))
def be3:DS:=(B0 gb0 (B0 gb1 (B0 gb2 (B0 gb3 (B0 gb4 gb5)))))
def gn0:DS:=(B2 4 (dIx (qN (A0 (dC (.str "over")) (A0 (dC (.str "multiply")) (A0 (dC (.str "screen")) (A0 (dC (.str "plus")) A3))))) (A2 A7 (A0 (A1 0) (A0 (A1 1) (A0 ⇑4 A3))))))
def gn1:DS:=(B2 5 (A2 A7 (A0 (A1 0) (A0 (A5 B1 (A1 1) ⇑1) (A0 (A5 B1 (A1 2) ⇑1) A3)))))
def gn2:DS:=(ao3 6 (C2 1 [0,4,3,1] (N3 (A1 5)) (B7 0) E4 (A2 aa0 (A0 (A1 1) (A0 (A5 B1 (A5 B1 (A1 4) ⇑20) (A5 K7 ⇑170 (A1 0))) (A0 (dIx (A8 3) (A1 0)) (A0 (A1 2) A3)))))))
def gn3:DS:=(i6 (N3 (A2 A7 (A0 (A1 0) (A0 (A5 B1 (A1 1) ⇑2) (A0 ⇑3 A3))))) (B7 7) be3)
def gn4:DS:=(A9 (P3 (A8 6)))
theorem by6:aG1=(B0 gn0 (B0 gn1 (B0 gn2 (B0 gn3 gn4)))):=rfl
theorem bW0(ns:List Int) (hn:ns.length<=63) (at' k:Nat) (ha:at' < 2 ^ 20) (hk:k < 14) (a2:Option B) (b:Bool) (L:List D) (a6:Option B):∃x:Str,nbA [‹scr ns›,‹.int at'›,a2,‹.bool b›,some (.own L),‹.int k›,a6]=some (.nx [‹scr ns›,‹.int at'›,a2,‹.bool b›,some (.own L),‹.int k›,‹.str x›])/\x.length=2/\SOk x:=by
 have m3:K7 (.int 3) (.int k)=some (.int ((3*k:Nat):Int)):=U0 (i:=3) (by decide) (by omega)
 have P:∀j,j < 2->∃s:Str,aj4 (dC (.str "abcdefghijklmnopqrstuvwxyz")) (A2 A7 (A0 (A1 1) (A0 (A5 B1 (A5 B1 (A5 B1 (A1 2) ⇑1) (A5 K7 ⇑3 (A1 3))) (A1 0)) (A0 ⇑26 A3)))) [‹.int (j:Nat)›,‹scr ns›,‹.int at'›,‹.int k›]=some (.str s)/\s.length=1/\SOk s:=fun j hj=>by
  obtain⟨d,ed,ld⟩:=K3 ns hn (e:=(at':Int)+1+((3*k:Nat):Int)+(j:Int)) (m':=26) (at'+1+3*k+j) 26 (by omega) rfl (by omega) (by decide)
  obtain⟨s,es,ls,ss⟩:=cb6 "abcdefghijklmnopqrstuvwxyz" d ld (by decide)
  refine⟨s,?_,ls,ss bN2⟩
  wp_walk using evD,aj4,m3,ed,es
 obtain⟨S,hS⟩:=aE6 (x:=("" : Str)) P
 have c:C2 1 [0,1,5] (N3 ⇑2) (B7 0) E4 (aj4 (dC (.str "abcdefghijklmnopqrstuvwxyz")) (A2 A7 (A0 (A1 1) (A0 (A5 B1 (A5 B1 (A5 B1 (A1 2) ⇑1) (A5 K7 ⇑3 (A1 3))) (A1 0)) (A0 ⇑26 A3))))) [‹scr ns›,‹.int at'›,a2,‹.bool b›,some (.own L),‹.int k›,a6]=some ((List.range 2).map fun j=>.str (S j)) :=
  k6 (l:=List.range 2) (h:=fun j:Nat=>PyData.int j) (r:=[‹scr ns›,‹.int at'›,‹.int k›]) rfl (o9 (n:=2) rfl (by decide)) (by decide) fun j hj=>(hS j (List.mem_range.mp hj)).1
 refine⟨Builtin.Str.glued "" [S 0,S 1],?_,(bO7 _ _ (hS 0 (by decide)).2.1 (hS 1 (by decide)).2.1).2,by8 (hS 0 (by decide)).2.2 (hS 1 (by decide)).2.2⟩
 have jn:=bJ7 (f:=dC (.str "")) (g:=qN (C2 1 [0,1,5] (N3 ⇑2) (B7 0) E4 (aj4 (dC (.str "abcdefghijklmnopqrstuvwxyz")) (A2 A7 (A0 (A1 1) (A0 (A5 B1 (A5 B1 (A5 B1 (A1 2) ⇑1) (A5 K7 ⇑3 (A1 3))) (A1 0)) (A0 ⇑26 A3))))))) (ρ:=[‹scr ns›,‹.int at'›,a2,‹.bool b›,some (.own L),‹.int k›,a6]) rfl (by unfold qN;rw[c];rfl) (hS 0 (by decide)).2.1 (hS 1 (by decide)).2.1
 unfold nbA B2
 rw[jn]
 rfl
theorem bV9(ns:List Int) (hn:ns.length<=63) (at' k:Nat) (ha:at' < 2 ^ 20) (hk:k < 14) (a2:Option B) (b:Bool) (L:List D) (x:Str) (hx:x.length=2) (sx:SOk x):∃y:Str,nbB [‹scr ns›,‹.int at'›,a2,‹.bool b›,some (.own L),‹.int k›,‹.str x›]=some (.nx [‹scr ns›,‹.int at'›,a2,‹.bool b›,some (.own L),‹.int k›,‹.str y›])/\y.length<=4/\SOk y:=by
 have m3:K7 (.int 3) (.int k)=some (.int ((3*k:Nat):Int)):=U0 (i:=3) (by decide) (by omega)
 obtain⟨d,ed,ld⟩:=K3 ns hn (e:=(at':Int)+3+((3*k:Nat):Int)) (m':=3) (at'+3+3*k) 3 (by omega) rfl (by omega) (by decide)
 obtain⟨d',ed',ld'⟩:=K3 ns hn (e:=(at':Int)+2+((3*k:Nat):Int)) (m':=2) (at'+2+3*k) 2 (by omega) rfl (by omega) (by decide)
 obtain⟨kk,ek,hk'⟩:=cq0 d' ld'
 have sl:=bE4 x none (some (d:Int))
 have rl:=aN4 (slS x none (some (d:Int))) kk hk'
 refine⟨as5 (slS x none (some (d:Int))) kk,?_,by omega,br2 (bE3 sx _ _) kk hk'⟩
 have a1:bm1 (A1 6) S0 (M5 (A2 A7 (A0 (A1 0) (A0 (A5 B1 (A5 B1 (A1 1) ⇑3) (A5 K7 ⇑3 (A1 5))) (A0 ⇑3 A3))))) [‹scr ns›,‹.int at'›,a2,‹.bool b›,some (.own L),‹.int k›,‹.str x›]=some (.str (slS x none (some (d:Int)))):=by
  have cnd:x.length<=1000/\(slS x none (some (d:Int))).length<=16777216:=⟨by omega,by omega⟩
  wp_walk using evD,bm1,m3,ed,if_pos cnd
 have a2:dIx (qN (A0 ⇑1 (A0 ⇑2 A3))) (A2 A7 (A0 (A1 0) (A0 (A5 B1 (A5 B1 (A1 1) ⇑2) (A5 K7 ⇑3 (A1 5))) (A0 ⇑2 A3)))) [‹scr ns›,‹.int at'›,a2,‹.bool b›,some (.own L),‹.int k›,‹.str x›]=some (.int kk):=by wp_walk using evD,m3,ed',ek
 unfold nbB B2
 rw[au2 a1 a2,bI0 _ kk hk' (by omega)]
 rfl
theorem ifb(b:Bool) (x y:D):atI [x,y] (if b=true then 1 else 0)=some (if b=true then y else x):=by cases b<;>rfl
theorem bV8(ns:List Int) (at' k:Nat) (hk:k < 14) (a2:Option B) (b:Bool) (L:List D) (hL:L.length<=100) (y:Str) (hy:y.length<=4):nbC [‹scr ns›,‹.int at'›,a2,‹.bool b›,some (.own L),‹.int k›,‹.str y›]=some (.nx [‹scr ns›,‹.int at'›,a2,‹.bool b›,some (.own (L++[.str (nmS b k y)])),‹.int k›,‹.str y›]):=by
 have ec:=bW4 k hk
 have lc:(ltr k).length=1:=rfl
 have c1:=aS0 y (ltr k) (by omega) (by omega)
 have c2:=aS0 (ltr k) y (by omega) (by omega)
 have hl:L.length < 16777216:=by omega
 have e:dIx (qN (A0 (A5 B1 (A1 6) (aj4 (dC (.str "abcdefghijklmn")) (A1 5))) (A0 (A5 B1 (aj4 (dC (.str "abcdefghijklmn")) (A1 5)) (A1 6)) A3))) (aj5 (A1 3)) [‹scr ns›,‹.int at'›,a2,‹.bool b›,some (.own L),‹.int k›,‹.str y›]=some (.str (nmS b k y)):=by
  wp_walk using evD,aj4,ec,c1,c2,ifb
  cases b<;>rfl
 unfold nbC az9
 simp only[xg0,xg1,if_pos hl,e,xms,xw0,xw1]
theorem bu2(ns:List Int) (hn:ns.length<=63) (at' many:Nat) (ha:at' < 2 ^ 20) (hm:many<=14):∃L:List D,y6 [scr ns,.int at',.int many]=some (.list L)/\L.length=many/\∃b:Bool,∀i,i < many->∃y,L[i]? = some (.str (nmS b i y))/\SOk y/\y.length<=4:=by
 obtain⟨d,ed,ld⟩:=K3 ns hn (e:=(at':Int)) (m':=2) at' 2 rfl rfl (by omega) (by decide)
 obtain⟨ρ',e,L,a5,a6,hρ,hL,hP⟩:=v5 (g:=B7 5) (f:=aO4) (h:=fun j:Nat=>PyData.int j) (I:=fun i ρ=>∃(L:List D) (a5 a6:Option B),ρ=[‹scr ns›,‹.int at'›,‹.int many›,‹.bool ((d:Int)==0)›,some (.own L),a5,a6]/\L.length=i/\∀n,n < i->∃y,L[n]? = some (.str (nmS ((d:Int)==0) n y))/\SOk y/\y.length<=4) (List.range many) 0 [‹scr ns›,‹.int at'›,‹.int many›,‹.bool ((d:Int)==0)›,some (.own []),none,none] ⟨[],none,none,rfl,rfl,fun n h=>absurd h (Nat.not_lt_zero n)⟩ (fun j a hj ρ hρ=>by
  obtain⟨L,a5,a6,rfl,hL,hP⟩:=hρ
  obtain⟨hj1,hj2⟩:=List.getElem?_eq_some_iff.mp hj
  rw[List.length_range]at hj1
  rw[List.getElem_range]at hj2
  subst hj2
  refine⟨_,rfl,?_⟩
  simp only[xw0,xw1]
  obtain⟨x,e1,hx,sx⟩:=bW0 ns hn at' j ha (by omega) (‹.int many›) ((d:Int)==0) L a6
  obtain⟨y,e2,hy,sy⟩:=bV9 ns hn at' j ha (by omega) (‹.int many›) ((d:Int)==0) L x hx sx
  have e3:=bV8 ns at' j (by omega) (‹.int many›) ((d:Int)==0) L (by omega) y hy
  have eb:aO4 [‹scr ns›,‹.int at'›,‹.int many›,‹.bool ((d:Int)==0)›,some (.own L),‹.int j›,a6]=some (.nx [‹scr ns›,‹.int at'›,‹.int many›,‹.bool ((d:Int)==0)›,some (.own (L++[.str (nmS ((d:Int)==0) j y)])),‹.int j›,‹.str y›]):=by
   unfold aO4
   rw[E2 e1,E2 e2,e3]
  refine⟨_,eb,L++[.str (nmS ((d:Int)==0) j y)],_,_,rfl,by rw[List.length_append,hL];rfl,fun n hn=>?_⟩
  by_cases q:n < 0+j
  ·obtain⟨z,e1,e2⟩:=hP n q
   exact⟨z,by rw[List.getElem?_append_left (by omega)];exact e1,e2⟩
  ·have:n=L.length:=by omega
   refine⟨y,?_,sy,hy⟩
   rw[this,List.getElem?_append_right (Nat.le_refl _),Nat.sub_self]
   rw[show L.length=j by omega]
   rfl)
 subst hρ
 rw[List.length_range,Nat.zero_add]at hL hP
 refine⟨L,?_,hL,_,hP⟩
 refine A6 (ρ:=[‹scr ns›,‹.int at'›,‹.int many›,none,none,none,none]) rfl ?_
 have rn:N3 (A1 2) [‹scr ns›,‹.int at'›,‹.int many›,‹.bool ((d:Int)==0)›,some (.own []),none,none]=_:=o9 (n:=many) rfl (by omega)
 have s0:(B2 3 (A5 eqD (A2 A7 (A0 (A1 0) (A0 (A1 1) (A0 ⇑2 A3)))) ⇑0)) [‹scr ns›,‹.int at'›,‹.int many›,none,none,none,none]=some (.nx [‹scr ns›,‹.int at'›,‹.int many›,‹.bool ((d:Int)==0)›,none,none,none]):=by simp only[B2,A5,A2,A0,A3,A1,dC,xbs,xms,xg0,xg1,xw0,xw1,ed,ap4]
 have s1:(ao3 4 A3) [‹scr ns›,‹.int at'›,‹.int many›,‹.bool ((d:Int)==0)›,none,none,none]=some (.nx [‹scr ns›,‹.int at'›,‹.int many›,‹.bool ((d:Int)==0)›,some (.own []),none,none]):=rfl
 have s2:(i6 (N3 (A1 2)) (B7 5) aO4) [‹scr ns›,‹.int at'›,‹.int many›,‹.bool ((d:Int)==0)›,some (.own []),none,none]=some (.nx [‹scr ns›,‹.int at'›,‹.int many›,‹.bool ((d:Int)==0)›,some (.own L),a5,a6]):=by
  unfold i6
  rw[rn]
  exact e
 have s3:(aN3 4 (A9 (A1 4))) [‹scr ns›,‹.int at'›,‹.int many›,‹.bool ((d:Int)==0)›,some (.own L),a5,a6]=some (.rt (.list L)):=rfl
 rw[by7,E2 s0,E2 s1,E2 s2]
 exact s3
theorem cp5:∀n:Nat,n < 6->∃m:Man,atI ([.str "over", .str "multiply", .str "screen", .str "plus", .str "atop", .str "cut"]:List D) (n:Int)=some (.str m.s)
 | 0,_=>⟨.over,rfl⟩
 | 1,_=>⟨.mult,rfl⟩
 | 2,_=>⟨.screen,rfl⟩
 | 3,_=>⟨.plus,rfl⟩
 | 4,_=>⟨.atop,rfl⟩
 | 5,_=>⟨.cut,rfl⟩
 | n+6,h=>absurd h (by omega)
theorem cp6:∀n:Nat,n < 4->∃m:Man,atI ([.str "over", .str "multiply", .str "screen", .str "plus"]:List D) (n:Int)=some (.str m.s)
 | 0,_=>⟨.over,rfl⟩
 | 1,_=>⟨.mult,rfl⟩
 | 2,_=>⟨.screen,rfl⟩
 | 3,_=>⟨.plus,rfl⟩
 | n+4,h=>absurd h (by omega)
theorem ck2(m:Man):∀n:Nat,n < 4->∃m':Man,atI ([.str m.s,.str "atop", .str m.s,.str "cut"]:List D) (n:Int)=some (.str m'.s)
 | 0,_=>⟨m,rfl⟩
 | 1,_=>⟨.atop,rfl⟩
 | 2,_=>⟨m,rfl⟩
 | 3,_=>⟨.cut,rfl⟩
 | n+4,h=>absurd h (by omega)
theorem co8:∀n:Nat,n < 3->∃r:Rul,atI ([.str "turn", .str "grey", .str "round"]:List D) (n:Int)=some (.str r.s)
 | 0,_=>⟨.turn,rfl⟩
 | 1,_=>⟨.grey,rfl⟩
 | 2,_=>⟨.round,rfl⟩
 | n+3,h=>absurd h (by omega)
theorem bg0(n:Nat):((n:Int)==0)=decide (n=0):=by
 cases n with
 | zero=>rfl
 | succ n=>rw[decide_eq_false (by omega)];exact beq_eq_false_iff_ne.mpr (by omega)
theorem bC5(n:Nat):(decide ((0:Int) < (n:Int)))=decide (0 < n):=by
 cases n with
 | zero=>rfl
 | succ n=>rw[decide_eq_true (by omega),decide_eq_true (by omega)]
theorem ad1(n:Nat):(1:Int)+(n:Int)=((1+n:Nat):Int):=by omega
def Nd.nm:Nd->D
 | .layer nm ..=>nm
 | .tone nm ..=>nm
 | .group nm ..=>nm
mutual
def Nd.near:Nd->Prop
 | .layer _ _ _ _ lf tp _ w h l kb=>-2<=lf/\lf<=2/\-2<=tp/\tp<=2/\kb<=40/\w<=3/\h<=3/\∀q∈l,q.ok 8
 | .tone ..=>True
 | .group _ _ _ _ ns=>Nd.nears ns
def Nd.nears:List Nd->Prop
 | []=>True
 | n::r=>n.near/\Nd.nears r
end
theorem v4:∀l:List Nd,Nd.nears l↔∀n∈l,n.near
 | []=>by simp[Nd.nears]
 | n::r=>by simp[Nd.nears,v4 r]
theorem bI3(ns:List Int) (hn:ns.length<=63) (at':Nat) (ha:at' < 2 ^ 19) (nm:D) (m:Man):∃n:Nd,aa0 [scr ns,.int at',nm,.str m.s]=some n.d/\n.Ok/\n.dp=0/\n.wg<=40/\n.nm=nm/\n.near:=by
 obtain⟨s,es,hs⟩:=ag3 ns at' hn (by omega)
 have es:Q9 [scr ns,.int at']=some (fr s):=es
 obtain⟨d3,e3,l3⟩:=K3 ns hn (e:=(at':Int)+3) (m':=6) (at'+3) 6 (by omega) rfl (by omega) (by decide)
 obtain⟨d4,e4,l4⟩:=K3 ns hn (e:=(at':Int)+4) (m':=6) (at'+4) 6 (by omega) rfl (by omega) (by decide)
 obtain⟨d6,e6,l6⟩:=K3 ns hn (e:=(at':Int)+6) (m':=3) (at'+6) 3 (by omega) rfl (by omega) (by decide)
 obtain⟨d7,e7,l7⟩:=K3 ns hn (e:=(at':Int)+7) (m':=3) (at'+7) 3 (by omega) rfl (by omega) (by decide)
 obtain⟨d8,e8,l8⟩:=K3 ns hn (e:=(at':Int)+8) (m':=3) (at'+8) 3 (by omega) rfl (by omega) (by decide)
 obtain⟨d9,e9,l9⟩:=K3 ns hn (e:=(at':Int)+9) (m':=3) (at'+9) 3 (by omega) rfl (by omega) (by decide)
 obtain⟨d10,e10,l10⟩:=K3 ns hn (e:=(at':Int)+10) (m':=4) (at'+10) 4 (by omega) rfl (by omega) (by decide)
 obtain⟨d11,e11,l11⟩:=K3 ns hn (e:=(at':Int)+11) (m':=4) (at'+11) 4 (by omega) rfl (by omega) (by decide)
 obtain⟨d12,e12,l12⟩:=K3 ns hn (e:=(at':Int)+12) (m':=3) (at'+12) 3 (by omega) rfl (by omega) (by decide)
 obtain⟨d5,e5,l5⟩:=K3 ns hn (e:=(at':Int)+5) (m':=3) (at'+5) 3 (by omega) rfl (by omega) (by decide)
 obtain⟨d5',e5',l5'⟩:=K3 ns hn (e:=(at':Int)+5) (m':=6) (at'+5) 6 (by omega) rfl (by omega) (by decide)
 have s0:ad9 [‹scr ns›,‹.int at'›,‹nm›,‹.str m.s›,none,none,none,none,none,none,none,none,none]=some (.nx [‹scr ns›,‹.int at'›,‹nm›,‹.str m.s›,‹fr s›,none,none,none,none,none,none,none,none]):=by wp_walk using evD,ad9,es
 have s1:ad8 [‹scr ns›,‹.int at'›,‹nm›,‹.str m.s›,‹fr s›,none,none,none,none,none,none,none,none]=some (.nx [‹scr ns›,‹.int at'›,‹nm›,‹.str m.s›,‹fr s›,‹.bool (decide (0 < d3))›,none,none,none,none,none,none,none]):=by wp_walk using evD,ad8,e3,bC5
 by_cases t4:d4=0
 ·obtain⟨r,er⟩:=co8 d5 l5
  refine⟨.tone nm r s (decide (0 < d3)),?_,aM8 hs,rfl,by show 6<=40;decide,rfl,by rw[Nd.near];trivial⟩
  have s2:Y4 [‹scr ns›,‹.int at'›,‹nm›,‹.str m.s›,‹fr s›,‹.bool (decide (0 < d3))›,none,none,none,none,none,none,none]=some (.rt (.tuple [.str "tone", nm,.str r.s,fr s,.bool (decide (0 < d3))])):=by wp_walk using evD,Y4,e4,bg0,decide_eq_true t4,e5,er
  refine A6 (ρ:=[‹scr ns›,‹.int at'›,‹nm›,‹.str m.s›,none,none,none,none,none,none,none,none,none]) rfl ?_
  unfold az2
  rw[E2 s0,E2 s1,bq6 s2,Nd.d]
 have s2:Y4 [‹scr ns›,‹.int at'›,‹nm›,‹.str m.s›,‹fr s›,‹.bool (decide (0 < d3))›,none,none,none,none,none,none,none]=some (.nx [‹scr ns›,‹.int at'›,‹nm›,‹.str m.s›,‹fr s›,‹.bool (decide (0 < d3))›,none,none,none,none,none,none,none]):=by wp_walk using evD,Y4,e4,bg0,decide_eq_false t4
 obtain⟨m0,em0⟩:=cp5 d5' l5'
 have s3:ad7 [‹scr ns›,‹.int at'›,‹nm›,‹.str m.s›,‹fr s›,‹.bool (decide (0 < d3))›,none,none,none,none,none,none,none]=some (.nx [‹scr ns›,‹.int at'›,‹nm›,‹.str m.s›,‹fr s›,‹.bool (decide (0 < d3))›,‹.str m0.s›,none,none,none,none,none,none]):=by wp_walk using evD,ad7,e5',em0
 obtain⟨m1,s4⟩:∃m1:Man,o8 [‹scr ns›,‹.int at'›,‹nm›,‹.str m.s›,‹fr s›,‹.bool (decide (0 < d3))›,‹.str m0.s›,none,none,none,none,none,none]=some (.nx [‹scr ns›,‹.int at'›,‹nm›,‹.str m.s›,‹fr s›,‹.bool (decide (0 < d3))›,‹.str m1.s›,none,none,none,none,none,none]):=by
  by_cases t6:0 < d6
  ·exact⟨m,by wp_walk using evD,o8,e6,bC5,decide_eq_true t6⟩
  ·exact⟨m0,by wp_walk using evD,o8,e6,bC5,decide_eq_false t6⟩
 have s5:ad6 [‹scr ns›,‹.int at'›,‹nm›,‹.str m.s›,‹fr s›,‹.bool (decide (0 < d3))›,‹.str m1.s›,none,none,none,none,none,none]=some (.nx [‹scr ns›,‹.int at'›,‹nm›,‹.str m.s›,‹fr s›,‹.bool (decide (0 < d3))›,‹.str m1.s›,‹.int ((1+d7:Nat):Int)›,none,none,none,none,none]):=by wp_walk using evD,ad6,e7,ad1
 have s6:ad5 [‹scr ns›,‹.int at'›,‹nm›,‹.str m.s›,‹fr s›,‹.bool (decide (0 < d3))›,‹.str m1.s›,‹.int ((1+d7:Nat):Int)›,none,none,none,none,none]=some (.nx [‹scr ns›,‹.int at'›,‹nm›,‹.str m.s›,‹fr s›,‹.bool (decide (0 < d3))›,‹.str m1.s›,‹.int ((1+d7:Nat):Int)›,‹.int ((1+d8:Nat):Int)›,none,none,none,none]):=by wp_walk using evD,ad5,e8,ad1
 have s7:ad4 [‹scr ns›,‹.int at'›,‹nm›,‹.str m.s›,‹fr s›,‹.bool (decide (0 < d3))›,‹.str m1.s›,‹.int ((1+d7:Nat):Int)›,‹.int ((1+d8:Nat):Int)›,none,none,none,none]=some (.nx [‹scr ns›,‹.int at'›,‹nm›,‹.str m.s›,‹fr s›,‹.bool (decide (0 < d3))›,‹.str m1.s›,‹.int ((1+d7:Nat):Int)›,‹.int ((1+d8:Nat):Int)›,some (.val .none),none,none,none]):=by wp_walk using evD,ad4
 have wh:(1+d7)*(1+d8)<=9:=Nat.mul_le_mul (show 1+d7<=3 by omega) (show 1+d8<=3 by omega)
 have mwh:K7 (.int ((1+d7:Nat):Int)) (.int ((1+d8:Nat):Int))=some (.int (((1+d7)*(1+d8):Nat):Int)):=U0 (by omega) (by omega)
 obtain⟨mk,s8,hmk⟩:∃mk:Option (List Rat),o7 [‹scr ns›,‹.int at'›,‹nm›,‹.str m.s›,‹fr s›,‹.bool (decide (0 < d3))›,‹.str m1.s›,‹.int ((1+d7:Nat):Int)›,‹.int ((1+d8:Nat):Int)›,some (.val .none),none,none,none]=some (.nx [‹scr ns›,‹.int at'›,‹nm›,‹.str m.s›,‹fr s›,‹.bool (decide (0 < d3))›,‹.str m1.s›,‹.int ((1+d7:Nat):Int)›,‹.int ((1+d8:Nat):Int)›,‹mkD mk›,none,none,none])/\∀ms,mk=some ms->ms.length=(1+d7)*(1+d8)/\∀r∈ms,Sr 4 r:=by
  by_cases t9:d9=0
  ·have P:∀j,j < 9->∃r:Rat,Q9 [scr ns,.int ((at':Int)+20+((3*j:Nat):Int))]=some (fr r)/\IsSh 4 r:=fun j hj=>aN1 ns hn (at'+20+3*j) (by omega) (by omega)
   obtain⟨R,hR⟩:=aE6 (x:=(0:Rat)) P
   have c:C2 1 [0,1] (N3 (A5 K7 (A1 7) (A1 8))) (B7 0) E4 (A2 Q9 (A0 (A1 1) (A0 (A5 B1 (A5 B1 (A1 2) ⇑20) (A5 K7 ⇑3 (A1 0))) A3))) [‹scr ns›,‹.int at'›,‹nm›,‹.str m.s›,‹fr s›,‹.bool (decide (0 < d3))›,‹.str m1.s›,‹.int ((1+d7:Nat):Int)›,‹.int ((1+d8:Nat):Int)›,some (.val .none),none,none,none]=some ((List.range ((1+d7)*(1+d8))).map fun j=>fr (R j)):=by
    refine k6 (l:=List.range ((1+d7)*(1+d8))) (h:=fun j:Nat=>PyData.int j) (r:=[‹scr ns›,‹.int at'›]) rfl (o9 ((au2 rfl rfl).trans mwh) (by omega)) (by rw[List.length_range];omega) fun j hj=>?_
    have hj:=List.mem_range.mp hj
    have m3:K7 (.int 3) (.int j)=some (.int ((3*j:Nat):Int)):=U0 (i:=3) (by decide) (by omega)
    wp_walk using evD,m3,(hR j (by omega)).1
   refine⟨some ((List.range ((1+d7)*(1+d8))).map R),?_,fun ms e=>?_⟩
   ·simp only[o7,sIf,tB2,B2,P3,qN,c,A5,A2,A0,A3,A1,dC,aj7,e9,ap4,bg0,decide_eq_true t9,R8,xbs,xms,xg0,xg1,xw0,xw1,if_true,xft,if_false,mkD,List.map_map]
    rfl
   ·cases e
    refine⟨by rw[List.length_map,List.length_range],fun r hr=>?_⟩
    obtain⟨j,hj,rfl⟩:=List.mem_map.mp hr
    exact aM8 (hR j (by have:=List.mem_range.mp hj;omega)).2
  ·exact⟨none,by(wp_walk using evD,o7,e9,bg0,decide_eq_false t9,mkD),fun ms e=>by cases e⟩
 have s9:ad3 [‹scr ns›,‹.int at'›,‹nm›,‹.str m.s›,‹fr s›,‹.bool (decide (0 < d3))›,‹.str m1.s›,‹.int ((1+d7:Nat):Int)›,‹.int ((1+d8:Nat):Int)›,‹mkD mk›,none,none,none]=some (.nx [‹scr ns›,‹.int at'›,‹nm›,‹.str m.s›,‹fr s›,‹.bool (decide (0 < d3))›,‹.str m1.s›,‹.int ((1+d7:Nat):Int)›,‹.int ((1+d8:Nat):Int)›,‹mkD mk›,‹.int ((d10:Int) - 1)›,none,none]):=by wp_walk using evD,ad3,e10
 have s10:aa5 [‹scr ns›,‹.int at'›,‹nm›,‹.str m.s›,‹fr s›,‹.bool (decide (0 < d3))›,‹.str m1.s›,‹.int ((1+d7:Nat):Int)›,‹.int ((1+d8:Nat):Int)›,‹mkD mk›,‹.int ((d10:Int) - 1)›,none,none]=some (.nx [‹scr ns›,‹.int at'›,‹nm›,‹.str m.s›,‹fr s›,‹.bool (decide (0 < d3))›,‹.str m1.s›,‹.int ((1+d7:Nat):Int)›,‹.int ((1+d8:Nat):Int)›,‹mkD mk›,‹.int ((d10:Int) - 1)›,‹.int ((d11:Int) - 1)›,none]):=by wp_walk using evD,aa5,e11
 obtain⟨w,h,lf,tp,mk',s11,hw,hh,hmk',hof⟩:∃(w h:Nat) (lf tp:Int) (mk':Option (List Rat)),h9 [‹scr ns›,‹.int at'›,‹nm›,‹.str m.s›,‹fr s›,‹.bool (decide (0 < d3))›,‹.str m1.s›,‹.int ((1+d7:Nat):Int)›,‹.int ((1+d8:Nat):Int)›,‹mkD mk›,‹.int ((d10:Int) - 1)›,‹.int ((d11:Int) - 1)›,none]=some (.nx [‹scr ns›,‹.int at'›,‹nm›,‹.str m.s›,‹fr s›,‹.bool (decide (0 < d3))›,‹.str m1.s›,‹.int (w:Nat)›,‹.int (h:Nat)›,‹mkD mk'›,‹.int lf›,‹.int tp›,none])/\(1<=w/\w<=3)/\(1<=h/\h<=3)/\(∀ms,mk'=some ms->ms.length=w*h/\∀r∈ms,Sr 4 r)/\(-2<=lf/\lf<=2/\-2<=tp/\tp<=2):=by
  by_cases t12:d12=0
  ·refine⟨3,3,0,0,none,?_,by decide,by decide,(fun ms e=>by cases e),by decide⟩
   have l5:∀a b c d e:D,([a,b,c,d,e]:List D).length=5:=fun _ _ _ _ _=>rfl
   wp_walk using evD,h9,e12,bg0,decide_eq_true t12,l5,mkD
   rfl
  ·exact⟨1+d7,1+d8,(d10:Int) - 1,(d11:Int) - 1,mk,by(wp_walk using evD,h9,e12,bg0,decide_eq_false t12),by omega,by omega,hmk,by omega⟩
 obtain⟨l,el,S⟩:=bq4 ns hn (e:=(at':Int)+50) (at'+50) w h (by omega) (by omega) hw.1 (by omega) hh.1 (by omega)
 have s12:aa4 [‹scr ns›,‹.int at'›,‹nm›,‹.str m.s›,‹fr s›,‹.bool (decide (0 < d3))›,‹.str m1.s›,‹.int (w:Nat)›,‹.int (h:Nat)›,‹mkD mk'›,‹.int lf›,‹.int tp›,none]=some (.nx [‹scr ns›,‹.int at'›,‹nm›,‹.str m.s›,‹fr s›,‹.bool (decide (0 < d3))›,‹.str m1.s›,‹.int (w:Nat)›,‹.int (h:Nat)›,‹mkD mk'›,‹.int lf›,‹.int tp›,‹shD w h l›]):=by wp_walk using evD,aa4,el
 refine⟨.layer nm m1 s (decide (0 < d3)) lf tp mk' w h l 32,?_,?_,rfl,Nat.le_refl _,rfl,by rw[Nd.near];exact⟨hof.1,hof.2.1,hof.2.2.1,hof.2.2.2,by decide,by omega,by omega,S.ok⟩⟩
 ·have s13:aa3 [‹scr ns›,‹.int at'›,‹nm›,‹.str m.s›,‹fr s›,‹.bool (decide (0 < d3))›,‹.str m1.s›,‹.int (w:Nat)›,‹.int (h:Nat)›,‹mkD mk'›,‹.int lf›,‹.int tp›,‹shD w h l›]=some (.rt (.tuple [.str "layer", nm,.str m1.s,fr s,.bool (decide (0 < d3)),.int lf,.int tp,mkD mk',shD w h l])):=by
   wp_walk using evD,aa3
  refine A6 (ρ:=[‹scr ns›,‹.int at'›,‹nm›,‹.str m.s›,none,none,none,none,none,none,none,none,none]) rfl ?_
  unfold az2
  rw[E2 s0,E2 s1,E2 s2,E2 s3,E2 s4,E2 s5,E2 s6,E2 s7,E2 s8,E2 s9,E2 s10,E2 s11,E2 s12,s13,Nd.d]
 ·rw[Nd.Ok]
  exact⟨aM8 hs,⟨S.w1,S.w8,S.h1,S.h8,S.len,fun q hq=>(S.ok q hq).mono (by decide)⟩,fun q hq=>cm2 (S.ok q hq),hmk',by decide⟩
theorem P0:∀l:List Nd,Nd.ds l=l.map Nd.d
 | []=>by rw[Nd.ds];rfl
 | n::r=>by rw[Nd.ds,P0 r];rfl
theorem V6:∀l:List Nd,Nd.Oks l↔∀n∈l,n.Ok
 | []=>by simp[Nd.Oks]
 | n::r=>by simp[Nd.Oks,V6 r]
theorem O7:∀a b:List Nd,Nd.wgs (a++b)=Nd.wgs a+Nd.wgs b
 | [],b=>by simp[Nd.wgs]
 | n::a,b=>by rw[xca,Nd.wgs,Nd.wgs,O7 a b];omega
theorem M4:∀a b:List Nd,Nd.dps (a++b)=max (Nd.dps a) (Nd.dps b)
 | [],b=>by simp[Nd.dps]
 | n::a,b=>by rw[xca,Nd.dps,Nd.dps,M4 a b,Nat.max_assoc]
theorem bo6:∀l:List Nd,(∀n∈l,n.wg<=40)->Nd.wgs l<=40*l.length
 | [],_=>by simp[Nd.wgs]
 | n::l,h=>by
  have a:=h n (List.mem_cons_self ..)
  have b:=bo6 l fun m hm=>h m (xmm _ hm)
  rw[Nd.wgs,List.length_cons];omega
theorem aQ4:∀l:List Nd,(∀n∈l,n.dp=0)->Nd.dps l=0
 | [],_=>by simp[Nd.dps]
 | n::l,h=>by
  have a:=h n (List.mem_cons_self ..)
  have b:=aQ4 l fun m hm=>h m (xmm _ hm)
  rw[Nd.dps];omega
mutual
def Nd.nms:Nd->List D
 | .layer nm _ _ _ _ _ _ _ _ _ _=>[nm]
 | .tone nm _ _ _=>[nm]
 | .group nm _ _ _ ns=>nm::Nd.nmss ns
def Nd.nmss:List Nd->List D
 | []=>[]
 | n::r=>n.nms++Nd.nmss r
end
theorem B8:∀a b:List Nd,Nd.nmss (a++b)=Nd.nmss a++Nd.nmss b
 | [],b=>by simp[Nd.nmss]
 | n::a,b=>by rw[xca,Nd.nmss,Nd.nmss,B8 a b,List.append_assoc]
mutual
def Nd.thin:Nd->Prop
 | .layer ..=>True
 | .tone ..=>True
 | .group _ _ _ _ ns=>ns.length<=1000/\Nd.thins ns
def Nd.thins:List Nd->Prop
 | []=>True
 | n::r=>n.thin/\Nd.thins r
end
theorem W4:∀l:List Nd,Nd.thins l↔∀n∈l,n.thin
 | []=>by simp[Nd.thins]
 | n::r=>by simp[Nd.thins,W4 r]
def at1(l:List Nd) (a c:Nat) (g:List Nd->Nd):List Nd:=l.take a++[g ((l.drop a).take (c - a))]++l.drop c
theorem bS0(l:List Nd) {a c:Nat}(h:a<=c):l.take a++(l.drop a).take (c - a)++l.drop c=l:=by
 have e:l.drop c=(l.drop a).drop (c - a):=by rw[List.drop_drop];congr 1;omega
 rw[e,List.append_assoc,List.take_append_drop,List.take_append_drop]
theorem bM6{ds:List D}{a b:Nat}(ha:a<=ds.length):v6 ds (some (a:Int)) (some (b:Int))=(ds.drop a).take (min b ds.length - a)/\∀es:List D,av3 ds (some (a:Int)) (some (b:Int)) es=ds.take a++es++ds.drop (max a (min b ds.length)):=by
 have h1:HT.sIx ds.length 0 (some (a:Int))=a:=by rw[HT.sIx_nat];omega
 have h2:HT.sIx ds.length ds.length (some (b:Int))=min b ds.length:=HT.sIx_nat ..
 refine⟨?_,fun es=>?_⟩
 ·unfold v6;rw[h1,h2]
 ·unfold av3;rw[h1,h2]
theorem bz0(ns:List Int) (hn:ns.length<=63) (at' most k:Nat) (ha:at' < 2 ^ 18) (hk:k < 2) (hmost:most<=6) (N:List D) (hN:most+2<=N.length) (m:Man) (l:List Nd) (hl:l.length<=100) (a5 a8 a9 a10 a11 a12:Option B) :
  ∃(a c:Nat) (nm:D) (m':Man) (s:Rat) (sh:Bool) (b8 b9 b10 b11 b12:Option B),be3 [‹scr ns›,‹.int at'›,‹.int most›,‹.list N›,‹.str m.s›,a5,some (.own (Nd.ds l)),‹.int k›,a8,a9,a10,a11,a12]=some (.nx [‹scr ns›,‹.int at'›,‹.int most›,‹.list N›,‹.str m.s›,a5,some (.own (Nd.ds (at1 l a c (Nd.group nm m' s sh)))),‹.int k›,b8,b9,b10,b11,b12])/\a<=c/\c<=l.length/\IsSh 4 s/\nm=N.getD (most+k) .none:=by
 have m5:K7 (.int 5) (.int k)=some (.int ((5*k:Nat):Int)):=U0 (i:=5) (by decide) (by omega)
 have hds:(Nd.ds l).length=l.length:=by rw[P0,List.length_map]
 obtain⟨f,ef,lf⟩:=K3 ns hn (e:=(at':Int)+3+((5*k:Nat):Int)) (m':=(((Nd.ds l).length:Nat):Int)+1) (at'+3+5*k) (l.length+1) (by omega) (by rw[hds];omega) (by omega) (by omega)
 obtain⟨d,ed,ld⟩:=K3 ns hn (e:=(at':Int)+4+((5*k:Nat):Int)) (m':=3) (at'+4+5*k) 3 (by omega) rfl (by omega) (by decide)
 obtain⟨s0,es0,hs0⟩:=aN1 ns hn (e:=(at':Int)+5+((5*k:Nat):Int)) (at'+5+5*k) (by omega) (by omega)
 obtain⟨d6,e6,l6⟩:=K3 ns hn (e:=(at':Int)+6+((5*k:Nat):Int)) (m':=2) (at'+6+5*k) 2 (by omega) rfl (by omega) (by decide)
 obtain⟨d7,e7,l7⟩:=K3 ns hn (e:=(at':Int)+7+((5*k:Nat):Int)) (m':=4) (at'+7+5*k) 4 (by omega) rfl (by omega) (by decide)
 obtain⟨d14,e14,l14⟩:=K3 ns hn (e:=(at':Int)+14+(k:Int)) (m':=7) (at'+14+k) 7 (by omega) rfl (by omega) (by decide)
 obtain⟨m',em'⟩:=ck2 m d7 l7
 obtain⟨s,est,hs⟩:∃s:Rat,atI ([.tuple [.int 1,.int 1],fr s0]:List D) (d6:Int)=some (fr s)/\IsSh 4 s:=by
  rcases(show d6=0\/d6=1 by omega) with rfl|rfl
  ·exact⟨1,rfl,Bd.one.mono (by decide),Rat.le_refl⟩
  ·exact⟨s0,rfl,hs0⟩
 obtain⟨nm,enm,hnm⟩:∃nm,atI N ((most:Int)+(k:Int))=some nm/\nm=N.getD (most+k) .none:=by
  unfold atI
  rw[ai7 (by omega) (by omega),xbs]
  have h':((most:Int)+(k:Int)).toNat=most+k:=by omega
  rw[h']
  exact⟨N[most+k]'(by omega),List.getElem?_eq_getElem (by omega),by rw[List.getD_eq_getElem?_getD,List.getElem?_eq_getElem (by omega)];rfl⟩
 refine⟨f,max f (min (f+d) l.length),nm,m',s,decide (0 < d14),?_⟩
 have s0:gb0 [‹scr ns›,‹.int at'›,‹.int most›,‹.list N›,‹.str m.s›,a5,some (.own (Nd.ds l)),‹.int k›,a8,a9,a10,a11,a12]=some (.nx [‹scr ns›,‹.int at'›,‹.int most›,‹.list N›,‹.str m.s›,a5,some (.own (Nd.ds l)),‹.int k›,‹.int f›,a9,a10,a11,a12]):=by wp_walk using evD,gb0,m5,ef
 have fd:(f:Int)+(d:Int)=((f+d:Nat):Int):=by omega
 have s1:gb1 [‹scr ns›,‹.int at'›,‹.int most›,‹.list N›,‹.str m.s›,a5,some (.own (Nd.ds l)),‹.int k›,‹.int f›,a9,a10,a11,a12]=some (.nx [‹scr ns›,‹.int at'›,‹.int most›,‹.list N›,‹.str m.s›,a5,some (.own (Nd.ds l)),‹.int k›,‹.int f›,‹.int ((f+d:Nat):Int)›,a10,a11,a12]):=by wp_walk using evD,gb1,m5,ed,fd
 have s2:gb2 [‹scr ns›,‹.int at'›,‹.int most›,‹.list N›,‹.str m.s›,a5,some (.own (Nd.ds l)),‹.int k›,‹.int f›,‹.int ((f+d:Nat):Int)›,a10,a11,a12]=some (.nx [‹scr ns›,‹.int at'›,‹.int most›,‹.list N›,‹.str m.s›,a5,some (.own (Nd.ds l)),‹.int k›,‹.int f›,‹.int ((f+d:Nat):Int)›,‹fr s›,a11,a12]):=by wp_walk using evD,gb2,m5,es0,e6,est
 have s3:gb3 [‹scr ns›,‹.int at'›,‹.int most›,‹.list N›,‹.str m.s›,a5,some (.own (Nd.ds l)),‹.int k›,‹.int f›,‹.int ((f+d:Nat):Int)›,‹fr s›,a11,a12]=some (.nx [‹scr ns›,‹.int at'›,‹.int most›,‹.list N›,‹.str m.s›,a5,some (.own (Nd.ds l)),‹.int k›,‹.int f›,‹.int ((f+d:Nat):Int)›,‹fr s›,‹.str m'.s›,a12]):=by wp_walk using evD,gb3,m5,e7,em'
 have s4:gb4 [‹scr ns›,‹.int at'›,‹.int most›,‹.list N›,‹.str m.s›,a5,some (.own (Nd.ds l)),‹.int k›,‹.int f›,‹.int ((f+d:Nat):Int)›,‹fr s›,‹.str m'.s›,a12]=some (.nx [‹scr ns›,‹.int at'›,‹.int most›,‹.list N›,‹.str m.s›,a5,some (.own (Nd.ds l)),‹.int k›,‹.int f›,‹.int ((f+d:Nat):Int)›,‹fr s›,‹.str m'.s›,‹.tuple [.str "group", nm,.str m'.s,fr s,.bool (decide (0 < d14))]›]):=by wp_walk using evD,gb4,enm,e14,bC5
 obtain⟨q1,q2⟩:=bM6 (ds:=Nd.ds l) (a:=f) (b:=f+d) (by omega)
 have mid:((Nd.ds l).drop f).take (min (f+d) (Nd.ds l).length - f)=Nd.ds ((l.drop f).take (max f (min (f+d) l.length) - f)):=by
  rw[hds,P0,P0,← List.map_drop,← List.map_take]
  congr 2;omega
 have s5:gb5 [‹scr ns›,‹.int at'›,‹.int most›,‹.list N›,‹.str m.s›,a5,some (.own (Nd.ds l)),‹.int k›,‹.int f›,‹.int ((f+d:Nat):Int)›,‹fr s›,‹.str m'.s›,‹.tuple [.str "group", nm,.str m'.s,fr s,.bool (decide (0 < d14))]›]=some (.nx [‹scr ns›,‹.int at'›,‹.int most›,‹.list N›,‹.str m.s›,a5,some (.own (Nd.ds (at1 l f (max f (min (f+d) l.length)) (Nd.group nm m' s (decide (0 < d14)))))),‹.int k›,‹.int f›,‹.int ((f+d:Nat):Int)›,‹fr s›,‹.str m'.s›,‹.tuple [.str "group", nm,.str m'.s,fr s,.bool (decide (0 < d14))]›]):=by
  have x1:bm3 (A8 6) (M5 (A1 8)) (M5 (A1 9)) [‹scr ns›,‹.int at'›,‹.int most›,‹.list N›,‹.str m.s›,a5,some (.own (Nd.ds l)),‹.int k›,‹.int f›,‹.int ((f+d:Nat):Int)›,‹fr s›,‹.str m'.s›,‹.tuple [.str "group", nm,.str m'.s,fr s,.bool (decide (0 < d14))]›]=some (.list (Nd.ds ((l.drop f).take (max f (min (f+d) l.length) - f)))):=by rw[← mid,← q1];rfl
  have x2:(A0 (A5 B1 (A1 12) (O1 (A0 (P3 (qE (bm3 (A8 6) (M5 (A1 8)) (M5 (A1 9))))) A3))) A3) [‹scr ns›,‹.int at'›,‹.int most›,‹.list N›,‹.str m.s›,a5,some (.own (Nd.ds l)),‹.int k›,‹.int f›,‹.int ((f+d:Nat):Int)›,‹fr s›,‹.str m'.s›,‹.tuple [.str "group", nm,.str m'.s,fr s,.bool (decide (0 < d14))]›]=some [Nd.d (Nd.group nm m' s (decide (0 < d14)) ((l.drop f).take (max f (min (f+d) l.length) - f)))]:=by
   have cc:∀a b c d e g:D,B1 (.tuple [a,b,c,d,e]) (.tuple [g])=some (.tuple [a,b,c,d,e,g]):=fun _ _ _ _ _ _=>rfl
   simp only[A0,A3,A5,O1,P3,qE,x1,ak9,A1,xbs,xms,xg0,xg1,xft,if_false,cc,Nd.d]
  have sz:(Nd.ds l).length+1<=16777216:=by omega
  have fin:av3 (Nd.ds l) (some (f:Int)) (some ((f+d:Nat):Int)) [Nd.d (Nd.group nm m' s (decide (0 < d14)) ((l.drop f).take (max f (min (f+d) l.length) - f)))]=Nd.ds (at1 l f (max f (min (f+d) l.length)) (Nd.group nm m' s (decide (0 < d14)))):=by
   rw[q2,hds]
   unfold at1
   rw[P0,P0,List.map_append,List.map_append,List.map_take,List.map_drop]
   rfl
  rw[← fin]
  unfold gb5 bq7
  rw[x2,xbs]
  show(if(Nd.ds l).length+1<=16777216 then some (Fl.nx _) else none)=_
  rw[if_pos sz]
  rfl
 refine⟨‹.int f›,‹.int ((f+d:Nat):Int)›,‹fr s›,‹.str m'.s›,‹.tuple [.str "group", nm,.str m'.s,fr s,.bool (decide (0 < d14))]›,?_,by omega,by omega,hs,hnm⟩
 unfold be3
 rw[E2 s0,E2 s1,E2 s2,E2 s3,E2 s4,s5]
structure NOk (N:List D) (i:Nat) (most:Nat) (l:List Nd):Prop where
 ok:Nd.Oks l
 wg:Nd.wgs l<=40*most+5*i
 dp:Nd.dps l<=i
 len:l.length<=most+i
 th:Nd.thins l
 nr:Nd.nears l
 ix:∃is:List Nat,Nd.nmss l=is.map (fun j=>N.getD j .none)/\is.Nodup/\∀j∈is,j < most+i
theorem NOk.grp{N:List D}{i most:Nat}{l:List Nd}(h:NOk N i most l) {a c:Nat}{nm:D}{m:Man}{s:Rat}{sh:Bool}(ac:a<=c) (hs:IsSh 4 s) (hnm:nm=N.getD (most+i) .none) (h100:l.length<=100):NOk N (i+1) most (at1 l a c (Nd.group nm m s sh)):=by
 have e:=bS0 l ac
 have w1:=congrArg Nd.wgs e
 have w2:=congrArg Nd.dps e
 rw[O7,O7]at w1
 rw[M4,M4]at w2
 have hw:=h.wg
 have hd:=h.dp
 refine⟨?_,?_,?_,?_,?_,?_,?_⟩
 ·rw[V6]
  have ok:=(V6 l).mp h.ok
  intro n hn
  unfold at1 at hn
  rcases List.mem_append.mp hn with hn|hn
  ·rcases List.mem_append.mp hn with hn|hn
   ·exact ok n (List.mem_of_mem_take hn)
   ·rw[List.mem_singleton.mp hn]
    rw[Nd.Ok]
    exact⟨aM8 hs,(V6 _).mpr fun n' hn'=>ok n' (List.mem_of_mem_drop (List.mem_of_mem_take hn'))⟩
  ·exact ok n (List.mem_of_mem_drop hn)
 ·unfold at1
  rw[O7,O7]
  simp only[Nd.wgs,Nd.wg]
  omega
 ·unfold at1
  rw[M4,M4]
  simp only[Nd.dps,Nd.dp]
  omega
 ·unfold at1
  rw[List.length_append,List.length_append,List.length_take,List.length_drop,List.length_singleton]
  have:=h.len
  omega
 ·rw[W4]
  have th:=(W4 l).mp h.th
  intro n hn
  unfold at1 at hn
  rcases List.mem_append.mp hn with hn|hn
  ·rcases List.mem_append.mp hn with hn|hn
   ·exact th n (List.mem_of_mem_take hn)
   ·rw[List.mem_singleton.mp hn,Nd.thin]
    exact⟨Nat.le_trans (List.length_take_le' ..) (by rw[List.length_drop];omega),(W4 _).mpr fun n' hn'=>th n' (List.mem_of_mem_drop (List.mem_of_mem_take hn'))⟩
  ·exact th n (List.mem_of_mem_drop hn)
 ·rw[v4]
  have th:=(v4 l).mp h.nr
  intro n hn
  unfold at1 at hn
  rcases List.mem_append.mp hn with hn|hn
  ·rcases List.mem_append.mp hn with hn|hn
   ·exact th n (List.mem_of_mem_take hn)
   ·rw[List.mem_singleton.mp hn,Nd.near]
    exact(v4 _).mpr fun n' hn'=>th n' (List.mem_of_mem_drop (List.mem_of_mem_take hn'))
  ·exact th n (List.mem_of_mem_drop hn)
 ·obtain⟨is,e1,e2,e3⟩:=h.ix
  have w3:=congrArg Nd.nmss e
  rw[B8,B8,e1]at w3
  obtain⟨i12,i3,q1,q2,q3⟩:=List.map_eq_append_iff.mp w3.symm
  obtain⟨i1,i2,p1,p2,p3⟩:=List.map_eq_append_iff.mp q2
  subst p1 q1
  refine⟨i1++((most+i)::i2)++i3,?_,?_,?_⟩
  ·unfold at1
   rw[B8,B8,← q3,← p2]
   simp only[Nd.nmss,Nd.nms,List.append_nil,List.map_append,xmc,p3,hnm]
  ·have pm:(i1++((most+i)::i2)++i3).Perm ((most+i)::(i1++i2++i3)):=by
    rw[List.append_assoc,xca,List.append_assoc i1 i2 i3]
    exact List.perm_middle
   rw[pm.nodup_iff,List.nodup_cons]
   exact⟨fun z=>by have:=e3 _ z;omega,e2⟩
  ·intro j hj
   have:j=most+i\/j∈i1++i2++i3:=by
    simp only[List.mem_append,List.mem_cons]at hj ⊢
    rcases hj with(h|h|h)|h
    ·exact .inr (.inl (.inl h))
    ·exact .inl h
    ·exact .inr (.inl (.inr h))
    ·exact .inr (.inr h)
   rcases this with rfl|h
   ·omega
   ·have:=e3 j h;omega
theorem bt8(ns:List Int) (hn:ns.length<=63) (at' most:Nat) (ha:at' < 2 ^ 18) (hmost:most<=6) (N:List D) (hN:most+2<=N.length):∃l:List Nd,ar0 [scr ns,.int at',.int most,.list N]=some ↥l/\NOk N 2 most l:=by
 obtain⟨d0,e0,l0⟩:=K3 ns hn (e:=(at':Int)) (m':=4) at' 4 rfl rfl (by omega) (by decide)
 obtain⟨d1,e1,l1⟩:=K3 ns hn (e:=(at':Int)+1) (m':=(most:Int)+1) (at'+1) (most+1) (by omega) (by omega) (by omega) (by omega)
 obtain⟨d2,e2,l2⟩:=K3 ns hn (e:=(at':Int)+2) (m':=3) (at'+2) 3 (by omega) rfl (by omega) (by decide)
 obtain⟨m,em⟩:=cp6 d0 l0
 have P:∀j,j < d1->∃n:Nd,A2 aa0 (A0 (A1 1) (A0 (A5 B1 (A5 B1 (A1 4) ⇑20) (A5 K7 ⇑170 (A1 0))) (A0 (dIx (A8 3) (A1 0)) (A0 (A1 2) A3)))) [‹.int (j:Nat)›,‹scr ns›,‹.str m.s›,‹.list N›,‹.int at'›]=some n.d/\n.Ok/\n.dp=0/\n.wg<=40/\n.nm=N.getD j .none/\n.near:=fun j hj=>by
  have m170:K7 (.int 170) (.int j)=some (.int ((170*j:Nat):Int)):=U0 (i:=170) (by decide) (by omega)
  have en:atI N (j:Int)=some (N[j]'(by omega)):=by
   unfold atI
   rw[ai7 (by omega) (by omega),xbs,Int.toNat_natCast]
   exact List.getElem?_eq_getElem (by omega)
  obtain⟨n,en',hn'⟩:=bI3 ns hn (at'+20+170*j) (by omega) (N[j]'(by omega)) m
  have ei:(at':Int)+20+((170*j:Nat):Int)=((at'+20+170*j:Nat):Int):=by omega
  refine⟨n,?_,hn'.1,hn'.2.1,hn'.2.2.1,by rw[hn'.2.2.2.1,List.getD_eq_getElem?_getD,List.getElem?_eq_getElem (by omega)];rfl,hn'.2.2.2.2⟩
  wp_walk using evD,m170,en,ei,en'
 obtain⟨f,hf⟩:=aE6 (x:=Nd.tone .none .turn 0 true) P
 have g0:gn0 [‹scr ns›,‹.int at'›,‹.int most›,‹.list N›,none,none,none,none,none,none,none,none,none]=some (.nx [‹scr ns›,‹.int at'›,‹.int most›,‹.list N›,‹.str m.s›,none,none,none,none,none,none,none,none]):=by wp_walk using evD,gn0,e0,em
 have g1:gn1 [‹scr ns›,‹.int at'›,‹.int most›,‹.list N›,‹.str m.s›,none,none,none,none,none,none,none,none]=some (.nx [‹scr ns›,‹.int at'›,‹.int most›,‹.list N›,‹.str m.s›,‹.int d1›,none,none,none,none,none,none,none]):=by wp_walk using evD,gn1,e1
 have g2:gn2 [‹scr ns›,‹.int at'›,‹.int most›,‹.list N›,‹.str m.s›,‹.int d1›,none,none,none,none,none,none,none]=some (.nx [‹scr ns›,‹.int at'›,‹.int most›,‹.list N›,‹.str m.s›,‹.int d1›,some (.own (Nd.ds ((List.range d1).map f))),none,none,none,none,none,none]):=by
  have c:C2 1 [0,4,3,1] (N3 (A1 5)) (B7 0) E4 (A2 aa0 (A0 (A1 1) (A0 (A5 B1 (A5 B1 (A1 4) ⇑20) (A5 K7 ⇑170 (A1 0))) (A0 (dIx (A8 3) (A1 0)) (A0 (A1 2) A3))))) [‹scr ns›,‹.int at'›,‹.int most›,‹.list N›,‹.str m.s›,‹.int d1›,none,none,none,none,none,none,none]=some ((List.range d1).map fun j=>(f j).d) :=
   k6 (l:=List.range d1) (h:=fun j:Nat=>PyData.int j) (r:=[‹scr ns›,‹.str m.s›,‹.list N›,‹.int at'›]) rfl (o9 (n:=d1) rfl (by omega)) (by rw[List.length_range];omega) fun j hj=>(hf j (List.mem_range.mp hj)).1
  unfold gn2 ao3
  rw[c,P0,List.map_map]
  rfl
 have o6:NOk N 0 most ((List.range d1).map f):=by
  refine⟨(V6 _).mpr fun n h=>?_,?_,?_,?_,(W4 _).mpr fun n h=>?_,(v4 _).mpr fun n h=>?_,List.range d1,?_,List.nodup_range,fun j hj=>by have:=List.mem_range.mp hj;omega⟩
  ·obtain⟨j,hj,rfl⟩:=List.mem_map.mp h
   exact(hf j (List.mem_range.mp hj)).2.1
  ·have:=bo6 ((List.range d1).map f) fun n h=>by
    obtain⟨j,hj,rfl⟩:=List.mem_map.mp h
    exact(hf j (List.mem_range.mp hj)).2.2.2.1
   rw[List.length_map,List.length_range]at this
   omega
  ·rw[aQ4 _ fun n h=>by
    obtain⟨j,hj,rfl⟩:=List.mem_map.mp h
    exact(hf j (List.mem_range.mp hj)).2.2.1]
   exact Nat.le_refl _
  ·rw[List.length_map,List.length_range];omega
  ·obtain⟨j,hj,rfl⟩:=List.mem_map.mp h
   have:=(hf j (List.mem_range.mp hj)).2.2.1
   cases q:f j with
   | group=>rw[q,Nd.dp]at this;omega
   | layer=>rw[Nd.thin];trivial
   | tone=>rw[Nd.thin];trivial
  ·obtain⟨j,hj,rfl⟩:=List.mem_map.mp h
   exact(hf j (List.mem_range.mp hj)).2.2.2.2.2
  ·have key:∀is:List Nat,(∀j∈is,j < d1)->Nd.nmss (is.map f)=is.map fun j=>N.getD j .none:=by
    intro is
    induction is with
    | nil=>intro _;simp[Nd.nmss]
    | cons j is ih =>
     intro hj
     have a:=hf j (hj j (List.mem_cons_self ..))
     rw[xmc,Nd.nmss,ih fun i hi=>hj i (xmm _ hi),xmc,← a.2.2.2.2.1]
     cases q:f j with
     | group=>have:=a.2.2.1;rw[q,Nd.dp]at this;omega
     | layer=>simp[Nd.nms,Nd.nm]
     | tone=>simp[Nd.nms,Nd.nm]
   exact key _ fun j hj=>List.mem_range.mp hj
 obtain⟨ρ',e3,l,b7,b8,b9,b10,b11,b12,hρ,hl⟩:=v5 (g:=B7 7) (f:=be3) (h:=fun j:Nat=>PyData.int j) (I:=fun i ρ=>∃(l:List Nd) (b7 b8 b9 b10 b11 b12:Option B),ρ=[‹scr ns›,‹.int at'›,‹.int most›,‹.list N›,‹.str m.s›,‹.int d1›,some (.own (Nd.ds l)),b7,b8,b9,b10,b11,b12]/\NOk N i most l) (List.range d2) 0 [‹scr ns›,‹.int at'›,‹.int most›,‹.list N›,‹.str m.s›,‹.int d1›,some (.own (Nd.ds ((List.range d1).map f))),none,none,none,none,none,none] ⟨_,_,_,_,_,_,_,rfl,o6⟩ (fun j a hj ρ hρ=>by
  obtain⟨l,b7,b8,b9,b10,b11,b12,rfl,hl⟩:=hρ
  obtain⟨hj1,hj2⟩:=List.getElem?_eq_some_iff.mp hj
  rw[List.length_range]at hj1
  rw[List.getElem_range]at hj2
  subst hj2
  refine⟨_,rfl,?_⟩
  simp only[xw0,xw1]
  have hll:=hl.len
  obtain⟨a,c,nm,m',s,sh,c8,c9,c10,c11,c12,eb,ac,cl,hs,hnm⟩:=bz0 ns hn at' most j ha (by omega) hmost N hN m l (by omega) (‹.int d1›) b8 b9 b10 b11 b12
  exact⟨_,eb,_,_,_,_,_,_,_,rfl,hl.grp ac hs (by rw[hnm,Nat.zero_add]) (by omega)⟩)
 subst hρ
 rw[List.length_range,Nat.zero_add]at hl
 refine⟨l,?_,hl.ok,by have:=hl.wg;omega,by have:=hl.dp;omega,by have:=hl.len;omega,hl.th,hl.nr,by
  obtain⟨is,q1,q2,q3⟩:=hl.ix
  exact⟨is,q1,q2,fun j hj=>by have:=q3 j hj;omega⟩⟩
 have rn:N3 (A2 A7 (A0 (A1 0) (A0 (A5 B1 (A1 1) ⇑2) (A0 ⇑3 A3)))) [‹scr ns›,‹.int at'›,‹.int most›,‹.list N›,‹.str m.s›,‹.int d1›,some (.own (Nd.ds ((List.range d1).map f))),none,none,none,none,none,none]=_:=o9 (n:=d2) (by wp_walk using evD,e2) (by omega)
 have g3:gn3 [‹scr ns›,‹.int at'›,‹.int most›,‹.list N›,‹.str m.s›,‹.int d1›,some (.own (Nd.ds ((List.range d1).map f))),none,none,none,none,none,none]=some (.nx [‹scr ns›,‹.int at'›,‹.int most›,‹.list N›,‹.str m.s›,‹.int d1›,some (.own (Nd.ds l)),b7,b8,b9,b10,b11,b12]):=by
  unfold gn3 i6
  rw[rn]
  exact e3
 have g4:gn4 [‹scr ns›,‹.int at'›,‹.int most›,‹.list N›,‹.str m.s›,‹.int d1›,some (.own (Nd.ds l)),b7,b8,b9,b10,b11,b12]=some (.rt ↥l):=rfl
 refine A6 (ρ:=[‹scr ns›,‹.int at'›,‹.int most›,‹.list N›,none,none,none,none,none,none,none,none,none]) rfl ?_
 rw[by6,E2 g0,E2 g1,E2 g2,E2 g3]
 exact g4
def B5(w h:Nat) (l:List Nd):D:=.tuple [.int w,.int h,↥l]
theorem aV5(ns:List Int) (hn:ns.length<=63) (at' most:Nat) (ha:at' < 2 ^ 17) (hmost:most<=6) (N:List D) (hN:most+2<=N.length):∃(w h:Nat) (l:List Nd),Y8 [scr ns,.int at',.int most,.list N]=some (B5 w h l)/\NOk N 2 most l/\(1<=w/\w<=3)/\(1<=h/\h<=3):=by
 obtain⟨d0,e0,l0⟩:=K3 ns hn (e:=(at':Int)) (m':=3) at' 3 rfl rfl (by omega) (by decide)
 obtain⟨d1,e1,l1⟩:=K3 ns hn (e:=(at':Int)+1) (m':=3) (at'+1) 3 (by omega) rfl (by omega) (by decide)
 obtain⟨l,el,hl⟩:=bt8 ns hn (at'+2) most (by omega) hmost N hN
 have e2:(at':Int)+2=((at'+2:Nat):Int):=by omega
 refine⟨1+d0,1+d1,l,?_,hl,by omega,by omega⟩
 refine A6 (ρ:=[‹scr ns›,‹.int at'›,‹.int most›,‹.list N›,none,none]) rfl ?_
 wp_walk using evD,as0,e0,e1,ad1,e2,el,B5
def flL(w h:Nat) (l:List Nd):List Q4:=(plc w (w*h)).map fun p=>Nd.sw p.1 p.2 l q0
structure Small6 (l:List Nd):Prop where
 ok:Nd.Oks l
 wg:Nd.wgs l<=800
 dp:Nd.dps l<=3
theorem aX3{w h:Nat}{l:List Nd}(S:Small6 l) (x y:Int):ag8 [B5 w h l,.int x,.int y]=some (Nd.sw x y l q0).d:=by
 have e:=(aN0 x y l 11 S.ok (by have:=S.dp;omega) (by have:=S.wg;omega)).1
 refine A6 (ρ:=[‹B5 w h l›,‹.int x›,‹.int y›]) rfl ?_
 wp_walk using evD,aG7,B5,e
theorem be7{w h:Nat}{l:List Nd}(S:Small6 l) (w1:1<=w) (w8:w<=8) (h8:h<=8):af6 [B5 w h l]=some (shD w h (flL w h l)):=by
 have wh:w*h<=64:=Nat.mul_le_mul w8 h8
 refine A6 (ρ:=[‹B5 w h l›,none]) rfl ?_
 have c:C2 2 [0] (Q6 (A2 W5 (A0 (dIx (A8 0) ⇑0) (A0 (dIx (A8 0) ⇑1) A3)))) (Q7 2 (C4 (B7 0) (C4 (B7 1) R3))) E4 (A2 ag8 (A0 (A1 2) (A0 (A1 0) (A0 (A1 1) A3)))) [‹B5 w h l›,none]=some ((flL w h l).map Q4.d):=by
  rw[aW1 (l:=plc w (w*h)) (h1:=fun p=>.int p.1) (h2:=fun p=>.int p.2) (f:=fun p=>(Nd.sw p.1 p.2 l q0).d) (r:=[‹B5 w h l›]) rfl ?_ (by rw[at8];omega) ?_]
  ·unfold flL;rw[List.map_map];rfl
  ·wp_walk using evD,B5,aD5 w1 w8 h8
  ·intro p _
   wp_walk using evD,aX3 S
 have g0:∀v:Option B,dIx (A8 0) ⇑0 [‹B5 w h l›,v]=some (.int w):=fun _=>rfl
 have g1:∀v:Option B,dIx (A8 0) ⇑1 [‹B5 w h l›,v]=some (.int h):=fun _=>rfl
 simp only[bC3,B0,U9,c,g0,g1,A9,O1,A0,A3,P3,A8,xw0,xw1,xms,xbs,xg0,xg1]
 rfl
theorem T9(n:Nd):n.nm∈n.nms:=by cases n<;>simp[Nd.nm,Nd.nms]
theorem T7{n:Nd}{l:List Nd}(h:n∈l) {d:D}(hd:d∈n.nms):d∈Nd.nmss l:=by
 obtain⟨a,b,rfl⟩:=List.append_of_mem h
 rw[B8,Nd.nmss]
 simp[hd]
def V2(d:D):Prop:=∃s:Str,d=.str s/\SOk s
def same(a b:D):Bool:=@decide (a=b) (Classical.propDecidable _)
theorem aD1(a:D):same a a=true:=@decide_eq_true _ (Classical.propDecidable _) rfl
theorem aH4{a b:D}(h:a≠b):same a b=false:=@decide_eq_false _ (Classical.propDecidable _) h
def bC1(d:D):Prop:=∃s:Str,d=.str s/\PyData.canLay0 (.str s)=true
theorem V2.l{d:D}(h:V2 d):bC1 d:=by
 obtain⟨s,rfl,hs⟩:=h
 exact⟨s,rfl,hs.ok⟩
theorem cd0{a b:D}(ha:V2 a) (hb:bC1 b):eqD a b=some (.bool (same a b)):=by
 obtain⟨s,rfl,hs⟩:=ha
 obtain⟨t,rfl,ht⟩:=hb
 refine B3 hs.ok ht ?_
 by_cases e:s=t
 ·subst e;rw[aD1];simp
 ·rw[aH4 (fun z=>e (by cases z;rfl))];simp[e]
theorem aK0{g:D->Rho->Option Rho}{f:DS}{I:Rho->Prop}{d:D}:∀(X:List D) (i:Nat) (ρ:Rho),I ρ->(∀j x,j < i->X[j]? = some x->∀ρ,I ρ->∃ρ1,g x ρ=some ρ1/\∃ρ',f ρ1=some (.nx ρ')/\I ρ')->(∀x,X[i]? = some x->∀ρ,I ρ->∃ρ1,g x ρ=some ρ1/\f ρ1=some (.rt d))->i < X.length->am7 g f X ρ=some (.rt d)
 | [],i,ρ,_,_,_,h=>absurd h (Nat.not_lt_zero i)
 | x::X,0,ρ,h0,_,H,_=>by
  obtain⟨ρ1,e1,e2⟩:=H x rfl ρ h0
  simp only[am7,e1,xbs,e2]
 | x::X,i+1,ρ,h0,S,H,hl=>by
  obtain⟨ρ1,e1,ρ',e2,h2⟩:=S 0 x (by omega) rfl ρ h0
  have:=aK0 X i ρ' h2 (fun j y hj hy=>S (j+1) y (by omega) (by simpa using hy)) (fun y hy=>H y (by simpa using hy)) (by simpa using hl)
  simp only[am7,e1,xbs,e2,this]
theorem ax5{g:D->Rho->Option Rho}{f:DS}{I:Rho->Prop}:∀(X:List D) (ρ:Rho),I ρ->(∀x∈X,∀ρ,I ρ->∃ρ1,g x ρ=some ρ1/\∃ρ',f ρ1=some (.nx ρ')/\I ρ')->∃ρ',am7 g f X ρ=some (.nx ρ')/\I ρ'
 | [],ρ,h,_=>⟨ρ,rfl,h⟩
 | x::X,ρ,h,H=>by
  obtain⟨ρ1,e1,ρ2,e2,h2⟩:=H x (List.mem_cons_self ..) ρ h
  obtain⟨ρ',e3,h3⟩:=ax5 X ρ2 h2 fun y hy=>H y (xmm _ hy)
  exact⟨ρ',by simp only[am7,e1,xbs,e2,e3],h3⟩
theorem name_of(n:Nd):U6 [n.d]=some n.nm:=by cases n<;>(rw[Nd.d];rfl)
def nab:DS:=(sIf (tB2 eqD (A2 U6 (A0 (A1 3) A3)) (A1 1)) (A9 (A1 2)) C9)
theorem aW0{n:Nd}{nm:D}(h1:V2 n.nm) (h2:bC1 nm) (a0 a2:Option B) (k:D):nab [a0,‹nm›,‹k›,‹n.d›]=if same n.nm nm=true then some (.rt k) else some (.nx [a0,‹nm›,‹k›,‹n.d›]):=by simp only[nab,sIf,tB2,A5,A2,A0,A3,A1,name_of,cd0 h1 h2,R8,A9,C9,xbs,xms,xg0,xg1]
theorem ap5(l:List Nd) (j:Nat):(Nd.ds l)[j]? = (l[j]?).map Nd.d:=by rw[P0,List.getElem?_map]
theorem ao6{l:List Nd}{nm:D}(hs:∀n∈l,V2 n.nm) (hn:bC1 nm) (h:∀n∈l,n.nm≠nm):B6 [↥l,nm]=some .none:=by
 refine A6 (ρ:=[‹↥l›,‹nm›,none,none]) rfl ?_
 obtain⟨ρ',e,_⟩:=v5 (g:=Q7 2 (C4 (B7 2) (C4 (B7 3) R3))) (f:=nab) (h:=id) (I:=fun _ ρ=>∃a2 a3,ρ=[‹↥l›,‹nm›,a2,a3]) (ar7 (Nd.ds l)) 0 [‹↥l›,‹nm›,none,none] ⟨none,none,rfl⟩ (fun j d hj ρ hρ=>by
  obtain⟨a2,a3,rfl⟩:=hρ
  rw[am8,ap5]at hj
  cases q:l[j]? with
  | none=>rw[q]at hj;cases hj
  | some n =>
   rw[q]at hj
   cases hj
   have hm:=List.mem_of_getElem? q
   refine⟨_,rfl,[‹↥l›,‹nm›,‹.int j›,‹n.d›],?_,_,_,rfl⟩
   have:=aW0 (hs n hm) hn (‹↥l›) none (.int j)
   rw[aH4 (h n hm)]at this
   exact this)
 rw[List.map_id]at e
 have s0:(i6 (aP8 (qE (A1 0))) (Q7 2 (C4 (B7 2) (C4 (B7 3) R3))) nab) [‹↥l›,‹nm›,none,none]=some (.nx ρ'):=e
 exact(E2 s0).trans rfl
theorem al6{l:List Nd}{nm:D}(hs:∀n∈l,V2 n.nm) (hn:V2 nm) (h:∀n∈l,n.nm≠nm):B6 [↥l,nm]=some .none:=ao6 hs hn.l h
theorem aw3{a b:List Nd}{n:Nd}(hs:∀n'∈a,V2 n'.nm) (hn:V2 n.nm) (h:∀n'∈a,n'.nm≠n.nm):B6 [↥(a++n::b),n.nm]=some (.int a.length):=by
 refine A6 (ρ:=[‹↥(a++n::b)›,‹n.nm›,none,none]) rfl ?_
 have e:=aK0 (g:=Q7 2 (C4 (B7 2) (C4 (B7 3) R3))) (f:=nab) (d:=.int a.length) (I:=fun ρ=>∃a2 a3,ρ=[‹↥(a++n::b)›,‹n.nm›,a2,a3]) (ar7 (Nd.ds (a++n::b))) a.length [‹↥(a++n::b)›,‹n.nm›,none,none] ⟨none,none,rfl⟩ (fun j x hj hx ρ hρ=>by
  obtain⟨a2,a3,rfl⟩:=hρ
  rw[am8,ap5,List.getElem?_append_left hj,List.getElem?_eq_getElem hj]at hx
  cases hx
  have hm:=List.getElem_mem hj
  refine⟨_,rfl,[‹↥(a++n::b)›,‹n.nm›,‹.int j›,some (.val (a[j]).d)],?_,_,_,rfl⟩
  have:=aW0 (hs _ hm) hn.l (‹↥(a++n::b)›) none (.int j)
  rw[aH4 (h _ hm)]at this
  exact this) (fun x hx ρ hρ=>by
  obtain⟨a2,a3,rfl⟩:=hρ
  rw[am8,ap5,List.getElem?_append_right (Nat.le_refl _),Nat.sub_self]at hx
  cases hx
  refine⟨_,rfl,?_⟩
  have:=aW0 hn hn.l (‹↥(a++n::b)›) none (.int a.length)
  rw[aD1]at this
  exact this) (by rw[aQ2,P0,List.length_map,List.length_append];simp)
 have s0:(i6 (aP8 (qE (A1 0))) (Q7 2 (C4 (B7 2) (C4 (B7 3) R3))) nab) [‹↥(a++n::b)›,‹n.nm›,none,none]=some (.rt (.int a.length)):=e
 exact bq6 s0
theorem F9(n:Nd):Q3 [n.d]=some (.bool (match n with | .group ..=>true|_=>false)):=by
 have e_tg:eqD (.str "tone") (.str "group")=some (.bool false):=B3z
 cases n with
 | layer nm m s sh lf tp mk w h l kb=>rw[Nd.d];exact A6 (ρ:=[‹.tuple [.str "layer", nm,.str m.s,fr s,.bool sh,.int lf,.int tp,mkD mk,shD w h l]›]) rfl (congrArg (Option.map Fl.rt) cq9)
 | tone nm r s sh=>rw[Nd.d];exact A6 (ρ:=[‹.tuple [.str "tone", nm,.str r.s,fr s,.bool sh]›]) rfl (congrArg (Option.map Fl.rt) e_tg)
 | group nm m s sh ns=>rw[Nd.d];exact A6 (ρ:=[‹.tuple [.str "group", nm,.str m.s,fr s,.bool sh,↥ns]›]) rfl (congrArg (Option.map Fl.rt) cr2)
theorem cp4(ds:List D):ao8 (.tuple ds) .none=some (.bool true):=rfl
theorem ck0(i:Int):ao8 (.int i) .none=some (.bool true):=rfl
theorem ad0{l:List Nd}{nm:D}(h:nm∉Nd.nmss l):∀n∈l,n.nm≠nm:=fun n hn e=>h (e ▸ T7 hn (T9 n))
theorem aa9{l:List Nd}(h:∀d∈Nd.nmss l,V2 d):∀n∈l,V2 n.nm:=fun n hn=>h _ (T7 hn (T9 n))
def twb(f:Nat):DS:=(sIf (K4 (A2 Q3 (A0 (A1 2) A3))) (B0 (B2 3 (A2 (L5 f) (A0 (A2 C7 (A0 (A1 2) A3)) (A0 (A1 1) A3)))) (sIf (tB2 ao8 (A1 3) (dC .none)) (A9 (A1 3)) C9)) C9)
theorem W8{l:List Nd}{n:Nd}(h:n∈l):n.dp<=Nd.dps l:=by
 obtain⟨a,b,rfl⟩:=List.append_of_mem h
 rw[M4,Nd.dps];omega
theorem bo8(nm:D) (hn:bC1 nm):∀(k:Nat) (l:List Nd) (f:Nat),Nd.dps l<=k->k+1<=f->(∀d∈Nd.nmss l,V2 d)->nm∉Nd.nmss l->L5 f [↥l,nm]=some .none:=by
 intro k
 induction k with
 | zero =>
  intro l f hd hf hs hni
  obtain⟨f,rfl⟩:∃g,f=g+1:=⟨f - 1,by omega⟩
  have e0:=ao6 (aa9 hs) hn (ad0 hni)
  obtain⟨ρ',e,a2,a3,hρ⟩:=ax5 (g:=B7 2) (f:=twb f) (I:=fun ρ=>∃a2 a3,ρ=[‹↥l›,‹nm›,a2,a3]) (Nd.ds l) [‹↥l›,‹nm›,none,none] ⟨none,none,rfl⟩ (fun x hx ρ hρ=>by
   obtain⟨a2,a3,rfl⟩:=hρ
   rw[P0]at hx
   obtain⟨n,hm,rfl⟩:=List.mem_map.mp hx
   refine⟨_,rfl,[‹↥l›,‹nm›,‹n.d›,a3],?_,_,_,rfl⟩
   have:=W8 hm
   cases n with
   | group _ _ _ _ _=>rw[Nd.dp]at this;omega
   | layer=>wp_walk using evD,twb,F9
   | tone=>wp_walk using evD,twb,F9)
  subst hρ
  refine A6 (g:=P7 (L5 f)) (ρ:=[‹↥l›,‹nm›,none,none]) rfl ?_
  unfold twb at e
  wp_walk using evD,P7,i6,e0,aD9,e
 | succ k ih =>
  intro l f hd hf hs hni
  obtain⟨f,rfl⟩:∃g,f=g+1:=⟨f - 1,by omega⟩
  have e0:=ao6 (aa9 hs) hn (ad0 hni)
  obtain⟨ρ',e,a2,a3,hρ⟩:=ax5 (g:=B7 2) (f:=twb f) (I:=fun ρ=>∃a2 a3,ρ=[‹↥l›,‹nm›,a2,a3]) (Nd.ds l) [‹↥l›,‹nm›,none,none] ⟨none,none,rfl⟩ (fun x hx ρ hρ=>by
   obtain⟨a2,a3,rfl⟩:=hρ
   rw[P0]at hx
   obtain⟨n,hm,rfl⟩:=List.mem_map.mp hx
   have hdp:=W8 hm
   refine⟨_,rfl,?_⟩
   cases n with
   | group nm' m s sh ns =>
    rw[Nd.dp]at hdp
    have sub:∀d∈Nd.nmss ns,d∈Nd.nmss l:=fun d hd=>T7 hm (by rw[Nd.nms];exact xmm _ hd)
    have e1:=ih ns f (by omega) (by omega) (fun d hd=>hs d (sub d hd)) (fun z=>hni (sub _ z))
    refine⟨[‹↥l›,‹nm›,‹Nd.d (.group nm' m s sh ns)›,some (.val .none)],?_,_,_,rfl⟩
    wp_walk using evD,twb,F9,ab6,e1,aD9
   | layer=>exact⟨_,by wp_walk using evD,twb,F9;rfl,_,_,rfl⟩
   | tone=>exact⟨_,by wp_walk using evD,twb,F9;rfl,_,_,rfl⟩)
  subst hρ
  refine A6 (g:=P7 (L5 f)) (ρ:=[‹↥l›,‹nm›,none,none]) rfl ?_
  unfold twb at e
  wp_walk using evD,P7,i6,e0,aD9,e
theorem bD4(nm:D) (hn:V2 nm) (k:Nat) (l:List Nd) (f:Nat):Nd.dps l<=k->k+1<=f->(∀d∈Nd.nmss l,V2 d)->nm∉Nd.nmss l->L5 f [↥l,nm]=some .none:=bo8 nm hn.l k l f
inductive Stands (a:List Nd) (n:Nd) (b:List Nd):List Nd->Prop
 | top:Stands a n b (a++n::b)
 | deep {c e:List Nd}{nm:D}{m:Man}{s:Rat}{sh:Bool}{ns:List Nd}:Stands a n b ns->Stands a n b (c ++ .group nm m s sh ns::e)
theorem Stands.nm{a:List Nd}{n:Nd}{b l:List Nd}(h:Stands a n b l):∀d∈n.nms,d∈Nd.nmss l:=by
 induction h with
 | top=>intro d hd;rw[B8,Nd.nmss];simp[hd]
 | deep _ ih=>intro d hd;rw[B8,Nd.nmss,Nd.nms];simp[ih d hd]
theorem bD3{a b:List Nd}{n:Nd}(hn:V2 n.nm) {l:List Nd}(h:Stands a n b l):∀f:Nat,Nd.dps l+1<=f->(∀d∈Nd.nmss l,V2 d)->(Nd.nmss l).Nodup->L5 f [↥l,n.nm]=some ↥(a++n::b):=by
 induction h with
 | top =>
  intro f hf hs hd
  obtain⟨f,rfl⟩:∃g,f=g+1:=⟨f - 1,by omega⟩
  rw[B8,Nd.nmss]at hd
  have e0:=aw3 (a:=a) (b:=b) (n:=n) (fun n' hn'=>aa9 hs n' (List.mem_append_left _ hn')) hn (fun n' hn' e=>by
   have d1:=(List.nodup_append.mp hd).2.2
   exact d1 n'.nm (T7 hn' (T9 n')) n.nm (List.mem_append_left _ (T9 n)) e)
  refine A6 (g:=P7 (L5 f)) (ρ:=[‹↥(a++n::b)›,‹n.nm›,none,none]) rfl ?_
  wp_walk using evD,P7,e0,ck0
 | @deep c e nm m s sh ns h ih =>
  intro f hf hs hd
  obtain⟨f,rfl⟩:∃g,f=g+1:=⟨f - 1,by omega⟩
  rw[M4,Nd.dps,Nd.dp]at hf
  have hin:=h.nm n.nm (T9 n)
  rw[B8,Nd.nmss,Nd.nms]at hd
  have dc:=(List.nodup_append.mp hd)
  have dg:=(List.nodup_append.mp dc.2.1)
  have dn:=List.nodup_cons.mp dg.1
  have hc:n.nm∉Nd.nmss c:=fun z=>dc.2.2 n.nm z n.nm (by simp[hin]) rfl
  have hg:nm≠n.nm:=fun z=>dn.1 (z ▸ hin)
  have he:n.nm∉Nd.nmss e:=fun z=>dg.2.2 n.nm (by simp[hin]) n.nm z rfl
  have hsc:∀d∈Nd.nmss c,V2 d:=fun d hd=>hs d (by rw[B8];simp[hd])
  have hsn:∀d∈Nd.nmss ns,V2 d:=fun d hd=>hs d (by rw[B8,Nd.nmss,Nd.nms];simp[hd])
  have e0:=al6 (l:=c ++ .group nm m s sh ns::e) (aa9 hs) hn (fun n' hn' z=>by
   rcases List.mem_append.mp hn' with q|q
   ·exact ad0 hc n' q z
   ·rcases List.mem_cons.mp q with rfl|q
    ·exact hg z
    ·exact ad0 he n' q z)
  have e1:=ih f (by omega) hsn dn.2
  have e2:=aK0 (g:=B7 2) (f:=twb f) (d:=.tuple (Nd.ds (a++n::b))) (I:=fun ρ=>∃a2 a3,ρ=[‹↥(c ++ .group nm m s sh ns::e)›,‹n.nm›,a2,a3]) (Nd.ds (c ++ .group nm m s sh ns::e)) c.length [‹↥(c ++ .group nm m s sh ns::e)›,‹n.nm›,none,none] ⟨none,none,rfl⟩ (fun j x hj hx ρ hρ=>by
   obtain⟨a2,a3,rfl⟩:=hρ
   rw[ap5,List.getElem?_append_left hj,List.getElem?_eq_getElem hj]at hx
   cases hx
   have hm:=List.getElem_mem hj
   have hdp:=W8 hm
   refine⟨_,rfl,?_⟩
   cases q:c[j] with
   | group nm' m' s' sh' ns' =>
    rw[q]at hm hdp
    rw[Nd.dp]at hdp
    have sub:∀d∈Nd.nmss ns',d∈Nd.nmss c:=fun d hd=>T7 hm (by rw[Nd.nms];exact xmm _ hd)
    have e3:=bD4 n.nm hn (Nd.dps ns') ns' f (Nat.le_refl _) (by omega) (fun d hd=>hsc d (sub d hd)) (fun z=>hc (sub _ z))
    refine⟨[‹↥(c ++ .group nm m s sh ns::e)›,‹n.nm›,‹Nd.d (.group nm' m' s' sh' ns')›,some (.val .none)],?_,_,_,rfl⟩
    wp_walk using evD,twb,F9,ab6,e3,aD9
   | layer=>exact⟨_,by wp_walk using evD,twb,F9;rfl,_,_,rfl⟩
   | tone=>exact⟨_,by wp_walk using evD,twb,F9;rfl,_,_,rfl⟩) (fun x hx ρ hρ=>by
   obtain⟨a2,a3,rfl⟩:=hρ
   rw[ap5,List.getElem?_append_right (Nat.le_refl _),Nat.sub_self]at hx
   cases hx
   refine⟨_,rfl,?_⟩
   wp_walk using evD,twb,F9,ab6,e1,cp4) (by rw[P0,List.length_map,List.length_append];simp)
  refine A6 (g:=P7 (L5 f)) (ρ:=[‹↥(c ++ .group nm m s sh ns::e)›,‹n.nm›,none,none]) rfl ?_
  unfold twb at e2
  wp_walk using evD,P7,i6,e0,aD9,e2
theorem aT7{nm:D}{m:Man}{s:Rat}{sh:Bool}{ns ns':List Nd}:W1 [Nd.d (.group nm m s sh ns),↥ns']=some (Nd.d (.group nm m s sh ns')):=by
 rw[Nd.d,Nd.d]
 rfl
theorem aw2{l l':List Nd}{nm oth:D}{f:Nat}(hl:l.length<=1000) (e0:B6 [↥l,nm]=some .none) (hz:l'.length=l.length) (H:∀(j:Nat) (hj:j < l.length),O5 f [(l[j]).d,nm,oth]=some ((l'[j]'(by omega)).d)) :
  N1 (f+1) [↥l,nm,oth]=some ↥l':=by
 refine A6 (g:=P4 (ai2 f)) (ρ:=[‹↥l›,‹nm›,‹oth›]) rfl ?_
 have c:C2 1 [1,2] (Q6 (A1 0)) (B7 0) E4 (A2 (ai2 f 1) (A0 (A1 0) (A0 (A1 1) (A0 (A1 2) A3)))) [‹↥l›,‹nm›,‹oth›]=some (Nd.ds l'):=by
  have q:Nd.ds l=(List.range l.length).map fun j=>((l[j]?).map Nd.d).getD .none:=by
   rw[P0]
   apply List.ext_getElem?
   intro j
   rw[List.getElem?_map,List.getElem?_map]
   by_cases hj:j < l.length
   ·simp[List.getElem?_range hj,List.getElem?_eq_getElem hj]
   ·rw[List.getElem?_eq_none (by omega),List.getElem?_eq_none (by rw[List.length_range];omega)];rfl
  have q':Nd.ds l'=(List.range l.length).map fun j=>((l'[j]?).map Nd.d).getD .none:=by
   rw[P0]
   apply List.ext_getElem?
   intro j
   rw[List.getElem?_map,List.getElem?_map]
   by_cases hj:j < l.length
   ·have hj':j < l'.length:=by omega
    simp[List.getElem?_range hj,List.getElem?_eq_getElem hj']
   ·rw[List.getElem?_eq_none (by omega),List.getElem?_eq_none (by rw[List.length_range];omega)];rfl
  rw[q']
  refine k6 (l:=List.range l.length) (h:=fun j=>((l[j]?).map Nd.d).getD .none) (r:=[‹nm›,‹oth›]) rfl (by rw[← q];rfl) (by rw[List.length_range];exact hl) fun j hj=>?_
  have hj:=List.mem_range.mp hj
  have:=H j hj
  rw[List.getElem?_eq_getElem hj,List.getElem?_eq_getElem (by omega)]
  exact this
 simp only[P4,B0,sIf,C9,tB2,A5,A2,A0,A3,A1,dC,e0,aD9,R8,A9,P3,qN,c,xbs,xms,xg0,xg1,xft,if_false]
theorem ae2{n:Nd}{nm oth:D}{f:Nat}(h:n.dp=0):O5 (f+1) [n.d,nm,oth]=some n.d:=by
 refine A6 (g:=O2 (ai2 f)) (ρ:=[‹n.d›,‹nm›,‹oth›]) rfl ?_
 cases n with
 | group=>rw[Nd.dp]at h;omega
 | layer=>wp_walk using evD,O2,F9
 | tone=>wp_walk using evD,O2,F9
theorem ao7{nm':D}{m:Man}{s:Rat}{sh:Bool}{ns ns':List Nd}{nm oth:D}{f:Nat}(h:N1 f [↥ns,nm,oth]=some ↥ns'):O5 (f+1) [Nd.d (.group nm' m s sh ns),nm,oth]=some (Nd.d (.group nm' m s sh ns')):=by
 refine A6 (g:=O2 (ai2 f)) (ρ:=[‹Nd.d (.group nm' m s sh ns)›,‹nm›,‹oth›]) rfl ?_
 have h':ai2 f 0 [↥ns,nm,oth]=some ↥ns':=h
 wp_walk using evD,O2,F9,ab6,h',aT7
theorem bV2(nm:D) (hn:V2 nm) (oth:D):∀(k:Nat) (l:List Nd) (f:Nat),Nd.dps l<=k->2*k+2<=f->(∀d∈Nd.nmss l,V2 d)->nm∉Nd.nmss l->l.length<=1000->Nd.thins l->N1 f [↥l,nm,oth]=some ↥l:=by
 intro k
 induction k with
 | zero =>
  intro l f hd hf hs hni hl ht
  obtain⟨f,rfl⟩:∃g,f=g+2:=⟨f - 2,by omega⟩
  refine aw2 hl (al6 (aa9 hs) hn (ad0 hni)) rfl fun j hj=>?_
  have:=W8 (List.getElem_mem hj)
  exact ae2 (by omega)
 | succ k ih =>
  intro l f hd hf hs hni hl ht
  obtain⟨f,rfl⟩:∃g,f=g+2:=⟨f - 2,by omega⟩
  refine aw2 hl (al6 (aa9 hs) hn (ad0 hni)) rfl fun j hj=>?_
  have hm:=List.getElem_mem hj
  have hdp:=W8 hm
  have htn:=(W4 l).mp ht _ hm
  generalize l[j]=n at hm hdp htn
  cases n with
  | group nm' m s sh ns =>
   rw[Nd.dp]at hdp
   rw[Nd.thin]at htn
   have sub:∀d∈Nd.nmss ns,d∈Nd.nmss l:=fun d hd=>T7 hm (by rw[Nd.nms];exact xmm _ hd)
   exact ao7 (ih ns f (by omega) (by omega) (fun d hd=>hs d (sub d hd)) (fun z=>hni (sub _ z)) htn.1 htn.2)
  | layer=>exact ae2 rfl
  | tone=>exact ae2 rfl
theorem bV3(nm:D) (hn:V2 nm) (oth:D) (n:Nd) (f:Nat) (hf:2*n.dp+1<=f) (hs:∀d∈n.nms,V2 d) (hni:nm∉n.nms) (ht:n.thin):O5 f [n.d,nm,oth]=some n.d:=by
 obtain⟨f,rfl⟩:∃g,f=g+1:=⟨f - 1,by omega⟩
 cases n with
 | group nm' m s sh ns =>
  rw[Nd.dp]at hf
  rw[Nd.thin]at ht
  rw[Nd.nms]at hs hni
  exact ao7 (bV2 nm hn oth (Nd.dps ns) ns f (Nat.le_refl _) (by omega) (fun d hd=>hs d (xmm _ hd)) (fun z=>hni (xmm _ z)) ht.1 ht.2)
 | layer=>exact ae2 rfl
 | tone=>exact ae2 rfl
theorem u3(x y:Int):∀(a b:List Nd) (q:Q4),Nd.sw x y (a++b) q=Nd.sw x y b (Nd.sw x y a q)
 | [],b,q=>by simp[Nd.sw]
 | n::a,b,q=>by rw[xca,Nd.sw,Nd.sw,u3 x y a b]
structure StProps (a:List Nd) (n:Nd) (b l:List Nd):Prop where
 ok:Nd.Oks l->n.Ok
 wg:n.wg<=Nd.wgs l
 dp:n.dp<=Nd.dps l
 nd:(Nd.nmss l).Nodup->(Nd.nmss (a++n::b)).Nodup
 sub:∀d∈Nd.nmss (a++n::b),d∈Nd.nmss l
 len:l.length<=1000->Nd.thins l->(a++n::b).length<=1000
theorem Stands.props{a b l:List Nd}{n:Nd}(h:Stands a n b l):StProps a n b l:=by
 induction h with
 | top =>
  refine⟨fun o=>(V6 _).mp o n (by simp),?_,?_,fun h=>h,fun d h=>h,fun h _=>h⟩
  ·rw[O7,Nd.wgs];omega
  ·rw[M4,Nd.dps];omega
 | @deep c e nm m s sh ns h ih =>
  refine⟨fun o=>?_,?_,?_,fun hd=>?_,fun d hd=>?_,fun hl ht=>?_⟩
  ·have og:=(V6 _).mp o (.group nm m s sh ns) (by simp)
   rw[Nd.Ok]at og
   exact ih.ok og.2
  ·have:=ih.wg
   rw[O7,Nd.wgs,Nd.wg];omega
  ·have:=ih.dp
   rw[M4,Nd.dps,Nd.dp];omega
  ·rw[B8,Nd.nmss,Nd.nms]at hd
   exact ih.nd (List.nodup_cons.mp (List.nodup_append.mp (List.nodup_append.mp hd).2.1).1).2
  ·rw[B8,Nd.nmss,Nd.nms]
   simp[ih.sub d hd]
  ·have tg:=(W4 _).mp ht (.group nm m s sh ns) (by simp)
   rw[Nd.thin]at tg
   exact ih.len tg.1 tg.2
theorem bQ9(n:Nd):1<=n.wg:=by cases n<;>(rw[Nd.wg];omega)
def Man.four(m:Man):Prop:=m=.over\/m=.mult\/m=.screen\/m=.plus
def Low(s:Str):Prop:=∀c∈s.cps.toList,97<=c/\c<=122
def Nm(d:D):Prop:=∃s:Str,d=.str s/\Low s/\1<=s.length/\s.length<=6
theorem bW5(c:Nat) (h1:97<=c) (h2:c<=122):inS false (.str ⟨#[c]⟩) (.str "abcdefghijklmnopqrstuvwxyz")=some (.bool true):=by
 have h:∀k:Fin 26,bL7 ⟨#[97+k.val]⟩ "abcdefghijklmnopqrstuvwxyz" = true:=by decide +kernel
 have:=h ⟨c - 97,by omega⟩
 simp only[show 97+(c - 97)=c by omega]at this
 show some (PyData.bool (bL7 ⟨#[c]⟩ "abcdefghijklmnopqrstuvwxyz"))=_
 rw[this]
theorem ay4{α:Type}(l:List α):aL5 (l.map fun _=>PyData.bool true)=some true:=by rw[an7 (fun _=>true)];simp
theorem bi4{d:D}(h:Nm d):ar1 [d]=some (.bool true):=by
 obtain⟨s,rfl,lo,l1,l6⟩:=h
 have as:s.cps.all (· < 128)=true:=by
  rw[Array.all_eq_true']
  intro c hc
  have:=lo c (Array.mem_toList_iff.mpr hc)
  exact decide_eq_true (by omega)
 have ll:s.cps.toList.length=s.length:=by unfold Str.length;simp
 have al:C2 1 [] (bL6 (A1 0)) (B7 0) E4 (A5 (inS false) (A1 0) (dC (.str "abcdefghijklmnopqrstuvwxyz"))) [‹.str s›]=some (s.cps.toList.map fun _=>.bool true):=by
  refine k6 (l:=s.cps.toList) (h:=fun c=>.str ⟨#[c]⟩) (r:=[]) rfl ?_ (by omega) fun c hc=>bW5 c (lo c hc).1 (lo c hc).2
  show(if s.cps.all (· < 128)=true then some (aM9 s) else none)=_
  rw[if_pos as];rfl
 have z:s.length<=16777216:=by omega
 have a':(1:Int)<=s.length:=by omega
 have b':(s.length:Int)<=6:=by omega
 refine A6 (ρ:=[‹.str s›]) rfl ?_
 wp_walk using evD,aG5,be9,if_pos z,al,ay4,a',b',decide_true
theorem aO1{i:Int}(h1:-9<=i) (h2:i<=9):t5 [.int i]=some (.bool true):=by
 refine A6 (ρ:=[‹.int i›]) rfl ?_
 have w1:S9 [.int i]=some (.bool true):=rfl
 wp_walk using evD,as1,bm4,w1,h1,h2,decide_true
theorem bi7{mk:Option (List Rat)}{w h:Nat}{l:List Q4}(w8:w<=8) (h8:h<=8) (len:l.length=w*h) (hm:∀ms,mk=some ms->ms.length=w*h/\∀r∈ms,Sr 4 r):ar2 [mkD mk,shD w h l]=some (.bool true):=by
 refine A6 (ρ:=[‹mkD mk›,‹shD w h l›]) rfl ?_
 cases mk with
 | none=>rfl
 | some ms =>
  obtain⟨lm,hr⟩:=hm ms rfl
  have wh:w*h<=64:=Nat.mul_le_mul w8 h8
  have al:∀q:Option B,C2 1 [] (Q6 (A1 0)) (B7 0) E4 (A2 X7 (A0 (A1 0) A3)) [‹.tuple (ms.map fr)›,q]=some (ms.map fun _=>.bool true):=fun q=>by
   refine k6 (l:=ms) (h:=fr) (r:=[]) rfl rfl (by omega) fun x hx=>?_
   have:=X4 (hr x hx).h (by decide)
   wp_walk using evD,this
  have i1:isB (.tuple (ms.map fr)) .none=some (.bool false):=rfl
  have n1:(((ms.map fr).length:Nat):Int)=((w*h:Nat):Int):=by rw[List.length_map,lm]
  have n2:(((l.map Q4.d).length:Nat):Int)=((w*h:Nat):Int):=by rw[List.length_map,len]
  have n3:neD (.int ((w*h:Nat):Int)) (.int ((w*h:Nat):Int))=some (.bool false):=by rw[as9];simp
  wp_walk using evD,aG6,mkD,shD,al,ay4,i1,n1,n2,beq_self_eq_true
theorem Z8{neg v:Bool}{x:D}{ds:List D}(hx:W7 x=true) (hd:ds.all W7=true) (h:inV (toV x) (ds.map toV)=v):inD neg x (.tuple ds)=some (.bool (if neg then !v else v)):=by
 subst h
 show(if W7 x=true/\ds.all W7=true then _ else _)=_
 rw[if_pos ⟨hx,hd⟩]
theorem bu7(m:Man):inD true (.str m.s) (.tuple [.str "over", .str "multiply", .str "screen", .str "plus", .str "atop", .str "cut"])=some (.bool false) :=
 Z8 (v:=true) rfl rfl (by cases m<;>decide +kernel)
theorem bS4(r:Rul):inD false (.str r.s) (.tuple [.str "turn", .str "grey", .str "round"])=some (.bool true) :=
 Z8 (v:=true) rfl rfl (by cases r<;>decide +kernel)
mutual
def Nd.off:Nd->Prop
 | .layer _ _ _ _ lf tp _ _ _ _ kb=>-9<=lf/\lf<=9/\-9<=tp/\tp<=9/\kb<=4000
 | .tone ..=>True
 | .group _ _ _ _ ns=>ns.length<=1000/\Nd.offs ns
def Nd.offs:List Nd->Prop
 | []=>True
 | n::r=>n.off/\Nd.offs r
end
theorem v3:∀l:List Nd,Nd.offs l↔∀n∈l,n.off
 | []=>by simp[Nd.offs]
 | n::r=>by simp[Nd.offs,v3 r]
theorem strength_of(n:Nd):∃s,M7 [n.d]=some (fr s)/\(n.Ok->Sr 4 s):=by
 cases n with
 | layer nm m s sh lf tp mk w h l kb=>exact⟨s,by rw[Nd.d];rfl,fun o=>by rw[Nd.Ok]at o;exact o.1⟩
 | tone nm r s sh=>exact⟨s,by rw[Nd.d];rfl,fun o=>by rw[Nd.Ok]at o;exact o⟩
 | group nm m s sh ns=>exact⟨s,by rw[Nd.d];rfl,fun o=>by rw[Nd.Ok]at o;exact o.1⟩
theorem bq3(n:Nd):∃b,M2 [n.d]=some (.bool b):=by cases n<;>exact⟨_,by rw[Nd.d];rfl⟩
theorem bp1(b:Bool):ak1 [.bool b]=some (.bool true):=rfl
theorem bv0{nm:D}{m:Man}{s:Rat}{sh:Bool}{lf tp:Int}{mk:Option (List Rat)}{w h:Nat}{l:List Q4}{kb:Nat}(o:(Nd.layer nm m s sh lf tp mk w h l kb).Ok) (f:(Nd.layer nm m s sh lf tp mk w h l kb).off):S1 [(Nd.layer nm m s sh lf tp mk w h l kb).d]=some (.bool true):=by
 rw[Nd.Ok]at o
 rw[Nd.off]at f
 obtain⟨hs,S,_,hm,_⟩:=o
 obtain⟨f1,f2,f3,f4,f5⟩:=f
 rw[Nd.d]
 refine A6 (ρ:=[‹.tuple [.str "layer", nm,.str m.s,fr s,.bool sh,.int lf,.int tp,mkD mk,shD w h l]›]) rfl ?_
 have e1:∀a b c d e f g h i:D,D1 [.tuple [a,b,c,d,e,f,g,h,i]]=some c:=fun _ _ _ _ _ _ _ _ _=>rfl
 have e2:∀a b c d e f g h i:D,X5 [.tuple [a,b,c,d,e,f,g,h,i]]=some i:=fun _ _ _ _ _ _ _ _ _=>rfl
 have e3:∀a b c d e f g h i:D,x8 [.tuple [a,b,c,d,e,f,g,h,i]]=some f:=fun _ _ _ _ _ _ _ _ _=>rfl
 have e4:∀a b c d e f g h i:D,af3 [.tuple [a,b,c,d,e,f,g,h,i]]=some g:=fun _ _ _ _ _ _ _ _ _=>rfl
 have e5:∀a b c d e f g h i:D,x6 [.tuple [a,b,c,d,e,f,g,h,i]]=some h:=fun _ _ _ _ _ _ _ _ _=>rfl
 have e6:∀a b c d e f g h i:D,((([a,b,c,d,e,f,g,h,i]:List D).length:Nat):Int)=9:=fun _ _ _ _ _ _ _ _ _=>rfl
 wp_walk using evD,c7,e1,e2,e3,e4,e5,e6,beq_self_eq_true,bu7,aP6 S (by omega),aO1 f1 f2,aO1 f3 f4,bi7 S.w8 S.h8 S.len hm
theorem bD7{nm:D}{r:Rul}{s:Rat}{sh:Bool}:W2 [Nd.d (.tone nm r s sh)]=some (.bool false):=by
 have e:eqD (.str "tone") (.str "layer")=some (.bool false):=B3z
 rw[Nd.d];exact A6 (ρ:=[‹.tuple [.str "tone", nm,.str r.s,fr s,.bool sh]›]) rfl (congrArg (Option.map Fl.rt) e)
theorem cp7(n:Nd):∃ds:List D,n.d=.tuple ds/\5<=ds.length/\(∀nm r s sh,n=.tone nm r s sh->ds.length=5):=by
 cases n with
 | layer=>exact⟨_,by rw[Nd.d],by simp,fun _ _ _ _ h=>by cases h⟩
 | tone=>exact⟨_,by rw[Nd.d],by simp,fun _ _ _ _ _=>rfl⟩
 | group=>exact⟨_,by rw[Nd.d],by simp,fun _ _ _ _ h=>by cases h⟩
theorem be0(n:Nd) (f:Nat) (dd:D) (o:n.Ok) (hn:Nm n.nm) {z:Option Fl}(h:(B0 (sIf (K4 (A2 W2 (A0 (A1 0) A3))) (A9 (A2 S1 (A0 (A1 0) A3))) C9) (B0 (sIf (K4 (A2 Q3 (A0 (A1 0) A3))) (A9 (A2 (A4 f 0) (A0 (A1 0) (A0 (A1 1) A3)))) C9) (A9 (S8 (A2 T4 (A0 (A1 0) A3)) (S8 (A5 eqD (R4 (A8 0)) ⇑5) (A5 (inD false) (A2 j7 (A0 (A1 0) A3)) (dC (.tuple [(.str "turn"),(.str "grey"),(.str "round")])))))))) [‹n.d›,‹dd›]=z):T2 (A4 f) [‹n.d›,‹dd›]=z:=by
 obtain⟨s,es,hs⟩:=strength_of n
 obtain⟨b,eb⟩:=bq3 n
 have en:=name_of n
 have et:=bi4 hn
 have eh:=X4 (hs o).h (by decide)
 obtain⟨ds,ed,l5,_⟩:=cp7 n
 unfold T2
 rw[E2 (ρ':=[‹n.d›,‹dd›]),E2 (ρ':=[‹n.d›,‹dd›])]
 ·exact h
 ·wp_walk using evD,en,et,es,eh,eb,bp1
 ·have l5':¬((ds.length:Nat):Int) < 5:=by omega
  rw[ed]
  wp_walk using evD,decide_eq_false l5'
theorem bB6{l:List Nd}{f:Nat}{dd:D}(hl:l.length<=1000) (H:∀n∈l,Z5 f [n.d,dd]=some (.bool true)):Z0 (f+1) [↥l,dd]=some (.bool true):=by
 refine A6 (g:=af2 (A4 f)) (ρ:=[‹↥l›,‹dd›]) rfl ?_
 have al:C2 1 [1] (Q6 (A1 0)) (B7 0) E4 (A2 (A4 f 1) (A0 (A1 0) (A0 (A1 1) A3))) [‹↥l›,‹dd›]=some (l.map fun _=>.bool true):=by
  refine k6 (l:=l) (h:=Nd.d) (r:=[‹dd›]) rfl (by rw[P0];rfl) hl fun x hx=>?_
  exact H x hx
 wp_walk using evD,af2,al,ay4
theorem cc2:∀(k:Nat) (n:Nd) (f:Nat) (dd:Nat),n.dp<=k->k<=dd->3*k+1<=f->n.Ok->n.off->(∀d∈n.nms,Nm d)->Z5 f [n.d,.int dd]=some (.bool true):=by
 intro k
 induction k with
 | zero =>
  intro n f dd hd hk hf o of hn
  obtain⟨f,rfl⟩:∃g,f=g+1:=⟨f - 1,by omega⟩
  refine A6 (g:=T2 (A4 f)) (ρ:=[‹n.d›,‹.int dd›]) rfl (be0 n f _ o (hn _ (T9 n)) ?_)
  cases n with
  | group=>rw[Nd.dp]at hd;omega
  | layer nm m s sh lf tp mk w h l kb =>
   have el:=bv0 o of
   wp_walk using evD,bd3,el
  | tone nm r s sh =>
   have e1:j7 [Nd.d (.tone nm r s sh)]=some (.str r.s):=by rw[Nd.d];rfl
   have e2:=F9 (.tone nm r s sh)
   have e3:R4 (A8 0) [‹Nd.d (.tone nm r s sh)›,‹.int dd›]=some (.int 5):=by rw[Nd.d];rfl
   have e4:eqD (.int 5) (.int 5)=some (.bool true):=rfl
   simp only[B0,B2,A9,sIf,C9,A1,dC,A5,A2,S8,A3,A0,K4,ai3,R8,xg0,xg1,xbs,xms,xw0,bD7,e2,e1,e3,e4,aU1,bS4,xft,if_true,if_false]
 | succ k ih =>
  intro n f dd hd hk hf o of hn
  obtain⟨f,rfl⟩:∃g,f=g+3:=⟨f - 3,by omega⟩
  by_cases hz:n.dp<=k
  ·exact ih n (f+3) dd hz (by omega) (by omega) o of hn
  refine A6 (g:=T2 (A4 (f+2))) (ρ:=[‹n.d›,‹.int dd›]) rfl (be0 n (f+2) _ o (hn _ (T9 n)) ?_)
  cases n with
  | layer=>rw[Nd.dp]at hz;omega
  | tone=>rw[Nd.dp]at hz;omega
  | group nm m s sh ns =>
   rw[Nd.dp]at hd
   rw[Nd.Ok]at o
   rw[Nd.off]at of
   have oks:=(V6 ns).mp o.2
   have ofs:=(v3 ns).mp of.2
   obtain⟨d',rfl⟩:∃d',dd=d'+1:=⟨dd - 1,by omega⟩
   have ea:Z0 (f+1) [↥ns,.int d']=some (.bool true):=bB6 of.1 fun n' h'=>ih n' f d' (by have:=W8 h';omega) (by omega) (by omega) (oks n' h') (ofs n' h') fun d hd'=>hn d (by rw[Nd.nms];exact xmm _ (T7 h' hd'))
   have eg:A4 (f+2) 0 [Nd.d (.group nm m s sh ns),.int ((d'+1:Nat):Int)]=some (.bool true):=by
    rw[Nd.d]
    refine A6 (g:=V3 (A4 (f+1))) (ρ:=[‹.tuple [.str "group", nm,.str m.s,fr s,.bool sh,↥ns]›,‹.int ((d'+1:Nat):Int)›]) rfl ?_
    have e1:∀a b c d e f:D,D1 [.tuple [a,b,c,d,e,f]]=some c:=fun _ _ _ _ _ _=>rfl
    have e2:∀a b c d e f:D,C7 [.tuple [a,b,c,d,e,f]]=some f:=fun _ _ _ _ _ _=>rfl
    have e3:∀a b c d e f:D,((([a,b,c,d,e,f]:List D).length:Nat):Int)=6:=fun _ _ _ _ _ _=>rfl
    have e4:(((d'+1:Nat):Int)==0)=false:=by simp;omega
    have e5:((d'+1:Nat):Int) - 1=(d':Int):=by omega
    have ea':A4 (f+1) 2 [↥ns,.int d']=some (.bool true):=ea
    wp_walk using evD,V3,e1,e2,e3,e4,e5,beq_self_eq_true,bu7,ea'
   have e2:=F9 (.group nm m s sh ns)
   wp_walk using evD,be4,e2,eg
def nmb(f:Nat):DS:=(B0 (az9 1 (A2 U6 (A0 (A1 2) A3))) (sIf (K4 (A2 Q3 (A0 (A1 2) A3))) (bh3 1 (A2 (M8 f) (A0 (A2 C7 (A0 (A1 2) A3)) A3))) C9))
theorem bV5{n:Nd}(f:Nat) (a0:Option B) (X:List D) (hX:X.length+n.nms.length<=1000) (H:∀nm m s sh ns,n=.group nm m s sh ns->M8 f [↥ns]=some (.list (Nd.nmss ns))):nmb f [a0,some (.own X),‹n.d›]=some (.nx [a0,some (.own (X++n.nms)),‹n.d›]):=by
 have hx:X.length < 16777216:=by omega
 have en:=name_of n
 have eg:=F9 n
 have s0:(az9 1 (A2 U6 (A0 (A1 2) A3))) [a0,some (.own X),‹n.d›]=some (.nx [a0,some (.own (X++[n.nm])),‹n.d›]):=by simp only[az9,A2,A0,A3,en,xg0,xg1,if_pos hx,A1,xms,xbs,xw0,xw1]
 unfold nmb
 rw[E2 s0]
 cases n with
 | layer=>wp_walk using evD,eg;rw[Nd.nm,Nd.nms]
 | tone=>wp_walk using evD,eg;rw[Nd.nm,Nd.nms]
 | group nm m s sh ns =>
  have e1:C7 [Nd.d (.group nm m s sh ns)]=some ↥ns:=by rw[Nd.d];rfl
  have e2:=H nm m s sh ns rfl
  rw[Nd.nms]at hX
  have e3:(X++[nm]).length+(Nd.nmss ns).length<=16777216:=by simp at hX ⊢;omega
  rw[Nd.nm]
  wp_walk using evD,bh3,eg,e1,e2,if_pos e3
  rw[Nd.nms,List.append_assoc];rfl
theorem bc8{l:List Nd}{f:Nat}(hw:(Nd.nmss l).length<=1000) (H:∀n∈l,∀nm m s sh ns,n=.group nm m s sh ns->M8 f [↥ns]=some (.list (Nd.nmss ns))):M8 (f+1) [↥l]=some (.list (Nd.nmss l)):=by
 obtain⟨ρ',e,a2,hρ⟩:=v5 (g:=B7 2) (f:=nmb f) (h:=Nd.d) (I:=fun i ρ=>∃a2,ρ=[‹↥l›,some (.own (Nd.nmss (l.take i))),a2]) l 0 [‹↥l›,some (.own []),none] ⟨none,rfl⟩ (fun j n hj ρ hρ=>by
  obtain⟨a2,rfl⟩:=hρ
  rw[Nat.zero_add]
  obtain⟨hjl,rfl⟩:=List.getElem?_eq_some_iff.mp hj
  have ww:Nd.nmss (l.take (j+1))=Nd.nmss (l.take j)++(l[j]).nms:=by rw[List.take_succ_eq_append_getElem hjl,B8,Nd.nmss,Nd.nmss,List.append_nil]
  have wl:=congrArg (fun x=>(Nd.nmss x).length) (List.take_append_drop (j+1) l)
  simp only[B8,ww,List.length_append]at wl
  exact⟨_,rfl,_,bV5 f _ _ (by omega) (H _ (List.getElem_mem hjl)),_,by rw[ww]⟩)
 subst hρ
 rw[Nat.zero_add,List.take_of_length_le (Nat.le_refl _),← P0]at e
 refine A6 (g:=ah9 (M8 f)) (ρ:=[‹↥l›,none,none]) rfl ?_
 have s0:(ao3 1 A3) [‹↥l›,none,none]=some (.nx [‹↥l›,some (.own []),none]):=rfl
 have s1:(i6 (Q6 (A1 0)) (B7 2) (nmb f)) [‹↥l›,some (.own []),none]=some (.nx [‹↥l›,some (.own (Nd.nmss l)),a2]):=e
 have s2:(aN3 1 (A9 (A1 1))) [‹↥l›,some (.own (Nd.nmss l)),a2]=some (.rt (.list (Nd.nmss l))):=rfl
 exact(E2 s0).trans ((E2 s1).trans s2)
theorem bH7{n:Nd}{l:List Nd}(h:n∈l):n.nms.length<=(Nd.nmss l).length:=by
 obtain⟨a,b,rfl⟩:=List.append_of_mem h
 rw[B8,Nd.nmss,List.length_append,List.length_append];omega
theorem names_among:∀(k:Nat) (l:List Nd) (f:Nat),Nd.dps l<=k->k+1<=f->(Nd.nmss l).length<=1000->M8 f [↥l]=some (.list (Nd.nmss l)):=by
 intro k
 induction k with
 | zero =>
  intro l f hd hf hw
  obtain⟨f,rfl⟩:∃g,f=g+1:=⟨f - 1,by omega⟩
  refine bc8 hw fun n hn nm m s sh ns e=>?_
  have:=W8 hn
  rw[e,Nd.dp]at this;omega
 | succ k ih =>
  intro l f hd hf hw
  obtain⟨f,rfl⟩:∃g,f=g+1:=⟨f - 1,by omega⟩
  refine bc8 hw fun n hn nm m s sh ns e=>?_
  have h1:=W8 hn
  have h2:=bH7 hn
  rw[e,Nd.dp]at h1
  rw[e,Nd.nms,List.length_cons]at h2
  exact ih ns f (by omega) (by omega) (by omega)
theorem ak5:∀L:List D,(∀d∈L,Nm d)->∃ys:List Str,L=ys.map PyData.str/\av2 L=some ys
 | [],_=>⟨[],rfl,rfl⟩
 | d::L,h=>by
  obtain⟨ys,e1,e2⟩:=ak5 L fun x hx=>h x (xmm _ hx)
  obtain⟨s,rfl,_⟩:=h d (List.mem_cons_self ..)
  exact⟨s::ys,by rw[e1];rfl,by unfold av2;rw[e2];rfl⟩
theorem aQ6:∀(l a:List Str),(a++l).Nodup->l.foldl aA5 a=a++l
 | [],a,_=>by simp
 | x::l,a,h=>by
  have hx:a.any (· == x)=false:=by
   rw[List.any_eq_false]
   intro y hy e
   have e:y=x:=by simpa using e
   subst e
   exact(List.nodup_append.mp h).2.2 y hy y (List.mem_cons_self ..) rfl
  rw[List.foldl_cons,aA5,hx]
  simp only[xft,if_false]
  rw[aQ6 l (a++[x]) (by rwa [List.append_assoc]),List.append_assoc];rfl
theorem aM6{l:List Nd}(hd:Nd.dps l<=3) (hw:(Nd.nmss l).length<=1000) (hn:∀d∈Nd.nmss l,Nm d) (nd:(Nd.nmss l).Nodup):W3 [↥l]=some (.bool true):=by
 have e:=names_among 3 l 12 hd (by decide) hw
 obtain⟨ys,e1,e2⟩:=ak5 _ hn
 have ny:ys.Nodup:=by
  rw[e1]at nd
  exact List.Pairwise.imp (fun h e=>h (congrArg PyData.str e)) (List.pairwise_map.mp nd)
 have ed:ddS ys=ys:=by have:=aQ6 ys [] (by simpa using ny);simpa [ddS] using this
 have ly:(Nd.nmss l).length=ys.length:=by rw[e1,List.length_map]
 have l4:ys.length<=4000:=by omega
 have es:∀q:Option B,au1 (A8 1) [q,‹.list (Nd.nmss l)›]=some (.int ys.length):=fun q=>by
  show((av2 (Nd.nmss l)).bind fun ys=>if ys.length<=4000 then some (PyData.int (ddS ys).length) else none)=_
  rw[e2,xbs,if_pos l4,ed]
 refine A6 (ρ:=[‹↥l›,none]) rfl ?_
 wp_walk using evD,m8,e,es,ly,beq_self_eq_true
theorem aU6{w h:Nat}(l:List Nd) (w1:1<=w) (w8:w<=8) (h1:1<=h) (h8:h<=8):n6 [B5 w h l]=some (.bool true):=by
 have sz:∀n:Nat,1<=n->n<=8->aa1 [.int n]=some (.bool true):=fun n a b=>by
  refine A6 (ρ:=[‹.int n›]) rfl ?_
  have w1:S9 [.int n]=some (.bool true):=rfl
  have a':(1:Int)<=n:=by omega
  have b':(n:Int)<=8:=by omega
  wp_walk using evD,aq5,w1,a',b',decide_true
 have l3:∀a b c:D,((([a,b,c]:List D).length:Nat):Int)=3:=fun _ _ _=>rfl
 refine A6 (ρ:=[‹B5 w h l›]) rfl ?_
 wp_walk using evD,ak0,B5,l3,beq_self_eq_true,sz w w1 w8,sz h h1 h8
theorem aI3{w h:Nat}{l:List Nd}(w1:1<=w) (w8:w<=8) (h1:1<=h) (h8:h<=8) (hd:Nd.dps l<=3) (hl:l.length<=1000) (o:Nd.Oks l) (of:Nd.offs l) (hw:(Nd.nmss l).length<=1000) (hn:∀d∈Nd.nmss l,Nm d) (nd:(Nd.nmss l).Nodup):U7 [B5 w h l]=some (.bool true):=by
 have e1:=aU6 l w1 w8 h1 h8
 have oks:=(V6 l).mp o
 have ofs:=(v3 l).mp of
 have e2:Z0 12 [↥l,.int 3]=some (.bool true):=bB6 hl fun n hn'=>cc2 3 n 11 3 (by have:=W8 hn';omega) (by decide) (by decide) (oks n hn') (ofs n hn') fun d hd'=>hn d (T7 hn' hd')
 have e3:=aM6 hd hw hn nd
 refine A6 (ρ:=[‹B5 w h l›]) rfl ?_
 unfold B5 at e1 ⊢
 wp_walk using evD,ao0,e1,e2,e3
theorem bA7(l:List Nd) (a:Nat):v6 (Nd.ds l) none (some (a:Int))=Nd.ds (l.take a):=by
 unfold v6
 rw[HT.sIx_none,HT.sIx_nat,List.drop_zero,P0,P0,List.length_map,← List.map_take,Nat.sub_zero]
 congr 1
 rcases Nat.le_total a l.length with h|h
 ·rw[Nat.min_eq_left h]
 ·rw[Nat.min_eq_right h,List.take_of_length_le (Nat.le_refl _),List.take_of_length_le h]
theorem bA8(l:List Nd) (a:Nat):v6 (Nd.ds l) (some (a:Int)) none=Nd.ds (l.drop a):=by
 unfold v6
 rw[HT.sIx_none,HT.sIx_nat,P0,P0,List.length_map]
 rcases Nat.le_total a l.length with h|h
 ·rw[Nat.min_eq_left h,← List.map_drop,List.take_of_length_le (by rw[List.length_map,List.length_drop];exact Nat.le_refl _)]
 ·rw[Nat.min_eq_right h,Nat.sub_self,List.take_zero,List.drop_of_length_le h];rfl
theorem aq0(a b:List Nd) (h:a.length+b.length<=1000):B1 ↥a ↥b=some ↥(a++b):=by
 have:=cat_tup (xs:=Nd.ds a) (ys:=Nd.ds b) (by rw[P0,P0,List.length_map,List.length_map];omega)
 have e:Nd.ds a++Nd.ds b=Nd.ds (a++b):=by simp[P0]
 rw[e]at this
 exact this
theorem aS5{l:List Nd}{i:Nat}{n:Nd}(h:l[i]? = some n):atI (Nd.ds l) (i:Int)=some n.d:=by
 obtain⟨hi,_⟩:=List.getElem?_eq_some_iff.mp h
 unfold atI
 rw[ai7 (by omega) (by rw[P0,List.length_map];omega),xbs,Int.toNat_natCast,ap5,h];rfl
def Nd.isM(m:Man):Nd->Prop
 | .layer _ m' _ sh _ _ _ _ _ _ _=>m'=m/\sh=true
 | .tone ..=>False
 | .group _ m' _ sh _=>m'=m/\sh=true
def Nd.br(x y:Int):Nd->Q4
 | .layer _ _ s _ lf tp mk w h l _=>aW5 s lf tp mk w h l x y
 | .tone ..=>q0
 | .group _ _ s _ ns=>(Nd.sw x y ns q0).wt s
theorem ab8{m:Man}{n:Nd}(h:n.isM m) (x y:Int) (q:Q4):Nd.ab x y n q=m.bl (n.br x y) q:=by
 cases n with
 | layer=>rw[Nd.isM]at h;rw[Nd.ab,h.1,h.2];rfl
 | tone=>rw[Nd.isM]at h;exact h.elim
 | group=>rw[Nd.isM]at h;rw[Nd.ab,h.1,h.2];rfl
theorem an4{m:Man}{n:Nd}(h:n.isM m) (o:n.Ok) (hd:n.dp<=3) (hw:n.wg<=800) (x y:Int):j9 12 [n.d,.int x,.int y]=some (n.br x y).d/\Dq n.wg (n.br x y):=by
 cases n with
 | layer nm m s sh lf tp mk w h l kb =>
  rw[Nd.Ok]at o
  rw[Nd.wg]at hw ⊢
  obtain⟨hs,S,H,M,k1⟩:=o
  exact⟨aS2 k1 (by omega) hs S H M 11 x y,bd2 k1 hs H M x y⟩
 | tone=>rw[Nd.isM]at h;exact h.elim
 | group nm m s sh ns =>
  rw[Nd.Ok]at o
  rw[Nd.wg]at hw ⊢
  rw[Nd.dp]at hd
  have so:=aN0 x y ns 10 o.2 (by omega) (by omega)
  exact⟨aS3 o.1 11 x y so.1 so.2 (by omega),(so.2.wt o.1).mono (by omega)⟩
theorem bu8{m:Man}{n:Nd}(h:n.isM m):D1 [n.d]=some (.str m.s):=by
 cases n with
 | layer=>rw[Nd.isM]at h;rw[aP2,h.1]
 | tone=>rw[Nd.isM]at h;exact h.elim
 | group=>rw[Nd.isM]at h;rw[aP9,h.1]
def brL(w h:Nat) (n:Nd):List Q4:=(plc w (w*h)).map fun p=>n.br p.1 p.2
theorem bB3{m:Man}{n:Nd}(hm:n.isM m) (o:n.Ok) (hd:n.dp<=3) (hw:n.wg<=800) {w h:Nat}(l:List Nd) (w1:1<=w) (w8:w<=8) (h1:1<=h) (h8:h<=8):V7 [B5 w h l,n.d]=some (shD w h (brL w h n))/\ShOk 800 w h (brL w h n):=by
 have wh:w*h<=64:=Nat.mul_le_mul w8 h8
 refine⟨?_,⟨w1,w8,h1,h8,by unfold brL;rw[List.length_map,at8],fun q hq=>?_⟩⟩
 ·refine A6 (ρ:=[‹B5 w h l›,‹n.d›,none]) rfl ?_
  have c:C2 2 [1] (Q6 (A2 W5 (A0 (dIx (A8 0) ⇑0) (A0 (dIx (A8 0) ⇑1) A3)))) (Q7 2 (C4 (B7 0) (C4 (B7 1) R3))) E4 (A2 (j9 12) (A0 (A1 2) (A0 (A1 0) (A0 (A1 1) A3)))) [‹B5 w h l›,‹n.d›,none]=some ((brL w h n).map Q4.d):=by
   rw[aW1 (l:=plc w (w*h)) (h1:=fun p=>.int p.1) (h2:=fun p=>.int p.2) (f:=fun p=>(n.br p.1 p.2).d) (r:=[‹n.d›]) rfl ?_ (by rw[at8];omega) ?_]
   ·unfold brL;rw[List.map_map];rfl
   ·wp_walk using evD,B5,aD5 w1 w8 h8
   ·intro p _
    wp_walk using evD,(an4 hm o hd hw p.1 p.2).1
  have g0:∀u v:Option B,dIx (A8 0) ⇑0 [‹B5 w h l›,u,v]=some (.int w):=fun _ _=>rfl
  have g1:∀u v:Option B,dIx (A8 0) ⇑1 [‹B5 w h l›,u,v]=some (.int h):=fun _ _=>rfl
  simp only[ac8,B0,U9,c,g0,g1,A9,O1,A0,A3,P3,A8,xw0,xw1,xms,xbs,xg0,xg1]
  rfl
 ·obtain⟨p,_,rfl⟩:=List.mem_map.mp hq
  exact((an4 hm o hd hw p.1 p.2).2.mono hw).ok
def Z3(m:Man) (w h:Nat) (L U:Nd):Nd:=.layer L.nm m 1 true 0 0 none w h ((plc w (w*h)).map fun p=>m.bl (U.br p.1 p.2) (L.br p.1 p.2)) (U.wg+L.wg)
theorem cd7(m:Man) (f g:Int×Int->Q4) (l:List (Int×Int)):blL m (l.map f) (l.map g)=l.map fun p=>m.bl (f p) (g p):=by
 unfold blL
 induction l with
 | nil=>rfl
 | cons a l ih=>simp only[xmc,List.zip_cons_cons];rw[ih]
theorem bI2{m:Man}{L U:Nd}(hL:L.isM m) (hU:U.isM m) (oL:L.Ok) (oU:U.Ok) (dL:L.dp<=3) (dU:U.dp<=3) (wL:L.wg<=800) (wU:U.wg<=800) {w h:Nat}(l:List Nd) (w1:1<=w) (w8:w<=8) (h1:1<=h) (h8:h<=8):n5 [B5 w h l,L.d,U.d]=some (Z3 m w h L U).d:=by
 have bU:=bB3 hU oU dU wU l w1 w8 h1 h8
 have bL:=bB3 hL oL dL wL l w1 w8 h1 h8
 have bs:=(cd8 m bU.2 bL.2 (by decide)).1
 have be:blL m (brL w h U) (brL w h L)=(plc w (w*h)).map fun p=>m.bl (U.br p.1 p.2) (L.br p.1 p.2):=cd7 m _ _ _
 rw[be]at bs
 have pl:∀a b c:D,u5 [a,b,c]=some (.tuple [.str "layer", a,b,.tuple [.int 1,.int 1],.bool true,.int 0,.int 0,.none,c]):=fun _ _ _=>rfl
 have f1:fr 1=.tuple [.int 1,.int 1]:=rfl
 refine A6 (ρ:=[‹B5 w h l›,‹L.d›,‹U.d›,none,none]) rfl ?_
 unfold Z3
 rw[Nd.d,mkD,f1]
 wp_walk using evD,az1,bu8 hL,bU.1,bL.1,bs,name_of,pl
theorem bW3{w h:Nat}{g:Int×Int->Q4}{x y:Int}(b:0<=x/\x < w/\0<=y/\y < h):atQ w h ((plc w (w*h)).map g) x y=g (x,y):=by
 unfold atQ
 rw[if_pos b]
 obtain⟨b1,b2,b3,b4⟩:=id b
 have pn:=af7 b
 obtain⟨X,rfl⟩:=Int.eq_ofNat_of_zero_le b1
 obtain⟨Y,rfl⟩:=Int.eq_ofNat_of_zero_le b3
 have e:(((Y:Int)*w+X).toNat)=Y*w+X:=by
  have:((Y:Int)*w+X)=((Y*w+X:Nat):Int):=by rw[Int.natCast_add,Int.natCast_mul]
  rw[this,Int.toNat_natCast]
 have hk:Y*w+X < w*h:=by omega
 have hX:X < w:=by omega
 have m:(Y*w+X) % w=X:=by rw[Nat.mul_comm,Nat.mul_add_mod,Nat.mod_eq_of_lt hX]
 have d:(Y*w+X) / w=Y:=by rw[Nat.mul_comm,Nat.mul_add_div (by omega),Nat.div_eq_of_lt hX,Nat.add_zero]
 rw[e,List.getD_eq_getElem?_getD]
 unfold plc
 rw[List.map_map,List.getElem?_map,List.getElem?_range hk]
 show g ((((Y*w+X) % w:Nat):Int),(((Y*w+X) / w:Nat):Int))=_
 rw[m,d]
theorem an5{m:Man}(f:m.four) {a b c:Q4}(ha:a.or) (hb:b.or) (hc:c.or):m.bl (m.bl a b) c=m.bl a (m.bl b c):=by
 obtain⟨x0,y0,z0,xc,yc,zc,c1⟩:=ha
 obtain⟨x0',y0',z0',xc',yc',zc',c1'⟩:=hb
 obtain⟨x0'',y0'',z0'',xc'',yc'',zc'',c1''⟩:=hc
 have k1:=Rat.le_trans x0 xc
 have k2:=Rat.le_trans x0' xc'
 have k3:=Rat.le_trans x0'' xc''
 have cov:∀{c d e:Rat},0<=c->0<=d->0<=e->m.cov (m.cov c d) e=m.cov c (m.cov d e):=fun{c d e} _ _ _=>by rcases f with rfl|rfl|rfl|rfl<;>simp only[Man.cov,an3]<;>grind
 have col:∀{c d e x y z:Rat},0<=x->0<=y->0<=z->m.col (m.cov c d) e (m.col c d x y) z=m.col c (m.cov d e) x (m.col d e y z):=fun{c d e x y z} _ _ _=>by rcases f with rfl|rfl|rfl|rfl<;>simp only[Man.cov,Man.col,an3]<;>grind
 unfold Man.bl
 simp only[Q4.mk.injEq]
 exact⟨cov k1 k2 k3,col x0 x0' x0'',col y0 y0' y0'',col z0 z0' z0''⟩
theorem cg1(q:Q4):q.wt 1=q:=by
 unfold Q4.wt
 simp only[Rat.mul_one]
theorem bU5{m:Man}(f:m.four) {L U:Nd}(hL:L.isM m) (hU:U.isM m) {w h:Nat}{x y:Int}(b:0<=x/\x < w/\0<=y/\y < h) {q:Q4}(q1:(L.br x y).or) (q2:(U.br x y).or) (q3:q.or):Nd.ab x y (Z3 m w h L U) q=Nd.ab x y U (Nd.ab x y L q):=by
 rw[ab8 hU,ab8 hL,← an5 f q2 q1 q3]
 unfold Z3
 rw[Nd.ab]
 have:aW5 1 0 0 none w h ((plc w (w*h)).map fun p=>m.bl (U.br p.1 p.2) (L.br p.1 p.2)) x y=m.bl (U.br x y) (L.br x y):=by
  unfold aW5 aO8
  simp only[Int.sub_zero]
  rw[bW3 b,cg1]
 rw[this,if_pos rfl]
theorem bU4:Sr 4 1:=aM8 ⟨⟨by decide +kernel,by decide +kernel,by decide +kernel⟩,by decide +kernel⟩
theorem bH0{m:Man}{L U:Nd}(hL:L.isM m) (hU:U.isM m) (oL:L.Ok) (oU:U.Ok) (dL:L.dp<=3) (dU:U.dp<=3) (wl:U.wg+L.wg<=800) {w h:Nat}(w1:1<=w) (w8:w<=8) (h1:1<=h) (h8:h<=8):(Z3 m w h L U).Ok:=by
 have dq:∀q∈(plc w (w*h)).map fun p=>m.bl (U.br p.1 p.2) (L.br p.1 p.2),Dq (U.wg+L.wg) q:=fun q hq=>by
  obtain⟨p,_,rfl⟩:=List.mem_map.mp hq
  exact(Dq.bl m (an4 hU oU dU (by omega) p.1 p.2).2 (an4 hL oL dL (by omega) p.1 p.2).2 (by omega)).1
 have:=bQ9 U
 unfold Z3
 rw[Nd.Ok]
 exact⟨bU4,⟨w1,w8,h1,h8,by rw[List.length_map,at8],fun q hq=>(dq q hq).ok⟩,dq,(fun ms e=>by cases e),by omega⟩
abbrev Bx:=Option (Int×Int×Int×Int)
def Bx.le(A B:Bx):Prop:=match A,B with
 | none,_=>True
 | some _,none=>False
 | some (l,t,r,b),some (l',t',r',b')=>l'<=l/\t'<=t/\r<=r'/\b<=b'
theorem le_refl(A:Bx):Bx.le A A:=by
 cases A with
 | none=>exact trivial
 | some a=>show _/\_/\_/\_;omega
theorem le_trans{A B C:Bx}(h1:Bx.le A B) (h2:Bx.le B C):Bx.le A C:=by
 cases A with
 | none=>exact trivial
 | some a =>
  cases B with
  | none=>exact h1.elim
  | some b =>
   cases C with
   | none=>exact h2.elim
   | some c =>
    obtain⟨a1,a2,a3,a4⟩:=h1
    obtain⟨b1,b2,b3,b4⟩:=h2
    exact⟨Int.le_trans b1 a1,Int.le_trans b2 a2,Int.le_trans a3 b3,Int.le_trans a4 b4⟩
def Nd.isT:Nd->Bool
 | .tone ..=>true
 | _=>false
theorem ax0(n:Nd):T4 [n.d]=some (.bool n.isT):=by
 cases n with
 | layer=>exact bv2
 | tone=>exact aU1
 | group=>exact bz1
theorem ci3(m:Man) {q:Q4}(o:q.or):m.bl q0 q=q:=by
 obtain⟨x0,y0,z0,xc,yc,zc,c1⟩:=o
 have cov:∀{d:Rat},0<=d->d<=1->m.cov 0 d=d:=fun{d} _ _=>by cases m<;>simp only[Man.cov,an3]<;>grind
 have col:∀{d y:Rat},0<=y->y<=1->m.col 0 d 0 y=y:=fun{d y} _ _=>by cases m<;>simp only[Man.col,an3]<;>grind
 unfold Man.bl q0
 simp only
 rw[cov (Rat.le_trans x0 xc) c1,col x0 (Rat.le_trans xc c1),col y0 (Rat.le_trans yc c1),col z0 (Rat.le_trans zc c1)]
theorem bp8{l:List Nd}{q:Q4}{j:Nat}(o:Nd.Oks l) (hq:Dq j q) (hj:j+Nd.wgs l<=900) (x y:Int):Dq (j+Nd.wgs l) (Nd.sw x y l q):=(loop_ok x y l (3*Nd.dps l+2) q j o (Nat.le_refl _) hq hj).2
theorem cc0{neg v:Bool}{x:D}{ds:List D}(hx:W7 x=true) (hd:ds.all W7=true) (h:inV (toV x) (ds.map toV)=v):inD neg x (.list ds)=some (.bool (if neg then !v else v)):=by
 subst h
 show(if W7 x=true/\ds.all W7=true then _ else _)=_
 rw[if_pos ⟨hx,hd⟩]
theorem cb9{d:D}{L:List D}(hd:d∈L) (hL:∀x∈L,V2 x):inD true d (.list L)=some (.bool false):=by
 obtain⟨s,rfl,_⟩:=hL d hd
 refine cc0 (v:=true) rfl (List.all_eq_true.mpr fun x hx=>?_) (List.any_eq_true.mpr ⟨.str s,List.mem_map.mpr ⟨.str s,hd,rfl⟩,?_⟩)
 ·obtain⟨t,rfl,_⟩:=hL x hx;rfl
 ·exact beq_self_eq_true s
theorem ae6{w h:Nat}{l:List Nd}(hd:Nd.dps l<=3) (hl:(Nd.nmss l).length<=1000):O6 [B5 w h l]=some (.list (Nd.nmss l)):=by
 have na:=names_among 3 l 12 hd (by decide) hl
 refine A6 (ρ:=[‹B5 w h l›]) rfl ?_
 wp_walk using evD,az0,B5,na
def Nd.shB:Nd->Bool
 | .layer _ _ _ sh _ _ _ _ _ _ _=>sh
 | .tone _ _ _ sh=>sh
 | .group _ _ _ sh _=>sh
def Nd.stg:Nd->Rat
 | .layer _ _ s _ _ _ _ _ _ _ _=>s
 | .tone _ _ s _=>s
 | .group _ _ s _ _=>s
def Nd.isG:Nd->Bool
 | .group ..=>true
 | _=>false
def Nd.inn:Nd->List Nd
 | .group _ _ _ _ ns=>ns
 | _=>[]
theorem S2(n:Nd):M2 [n.d]=some (.bool n.shB):=by
 cases n with
 | layer=>exact aJ3
 | tone=>exact aH1
 | group=>exact aJ9
theorem ae4(n:Nd):M7 [n.d]=some (fr n.stg):=by
 cases n with
 | layer=>exact aw8
 | tone=>exact av0
 | group=>exact ax4
theorem ae5(n:Nd):Q3 [n.d]=some (.bool n.isG):=by rw[F9];cases n<;>rfl
theorem bu1{n:Nd}(h:n.isG=true):C7 [n.d]=some ↥n.inn:=by
 cases n with
 | layer=>cases h
 | tone=>cases h
 | group=>exact ab6
structure Fits (w h:Nat):Prop where
 w1:1<=w
 w8:w<=8
 h1:1<=h
 h8:h<=8
section
variable {w h:Nat}{K:List D}{p:Int×Int}
mutual
theorem bi2(c e:List Nd):∀n:Nd,∀d∈n.nms,∃a n' b,Stands a n' b (c++n::e)/\n'.nm=d
 | .layer nm m s sh lf tp mk w h l kb,d,hd=>by
  rw[Nd.nms]at hd
  exact⟨c,_,e,.top,(List.mem_singleton.mp hd).symm⟩
 | .tone nm r s sh,d,hd=>by
  rw[Nd.nms]at hd
  exact⟨c,_,e,.top,(List.mem_singleton.mp hd).symm⟩
 | .group nm m s sh ns,d,hd=>by
  rw[Nd.nms]at hd
  rcases List.mem_cons.mp hd with q|q
  ·exact⟨c,_,e,.top,q.symm⟩
  ·obtain⟨a,n',b,st,en⟩:=nms_stands [] ns d q
   exact⟨a,n',b,.deep st,en⟩
theorem nms_stands(c:List Nd):∀l:List Nd,∀d∈Nd.nmss l,∃a n' b,Stands a n' b (c++l)/\n'.nm=d
 | [],d,hd=>by rw[Nd.nmss]at hd;simp at hd
 | n::r,d,hd=>by
  rw[Nd.nmss]at hd
  rcases List.mem_append.mp hd with q|q
  ·exact bi2 c r n d q
  ·have:=nms_stands (c++[n]) r d q
   rwa [List.append_assoc]at this
end
end
end Sh
namespace Sh
open PySem PySem.Spec PyProof.Rows L2 G
end Sh
namespace G
open PySem PySem.Spec PyProof.Rows L2
section
variable {X:Cx}{S:Sg}{c:Kx}
theorem K6{e:Expr}:JE X e dNo:=fun ρ d h=>by cases h
theorem bO6{e:Expr}:JQ X e qNo:=fun ρ t d h=>by cases h
theorem al9{e:Expr}:JN X e aNo:=fun ρ d h=>by cases h
theorem aE3{e:Expr}:JT X e tNo:=fun ρ d h=>by cases h
theorem ck7{e:Expr}:JW X e tNo:=fun ρ d h=>by cases h
theorem aP3{e:Expr}:JG X e gNo:=by
 unfold JG PG
 intros
 rename_i h
 obtain⟨d,ρ,ρ',H0,Hf,z,_⟩:=h
 cases z
theorem cl8{es:List Expr}:JA X es aNo:=⟨fun ρ d h=>(nomatch h),fun ρ d h=>(nomatch h)⟩
theorem bX5{es:List Expr}:JTs X es tNo:=fun pins s σ H Q I ⟨ρ,b,h,_⟩=>by cases h
theorem af9(hu:X.A.units+64 < cLine):∀op:CmpOp,OpD X (compareOp op) (aR8 op)
 | .Lt=>cj3 | .LtE=>cj4 | .Gt=>cj7 | .GtE=>cj8 | .Eq=>cj9 hu | .NotEq=>cj2 hu | .Is=>cj5 | .IsNot=>bt5 | .In=>cj6 hu | .NotIn=>bt4 hu
theorem bt3(hu:X.A.units+64 < cLine) (S:Sg) (c:Kx) (op:CmpOp) (b:Expr):OpD X (compareOp op) (opW S c op b):=by
 unfold opW
 split
 ·split
  ·exact bV0
  ·exact bi1
  ·exact af9 hu _
 ·exact af9 hu op
theorem am0{f:Expr->DE}(h:∀e,JE X e (f e)):∀es,JA X es (evA f es)
 | []=>bx4
 | e::es=>by
  unfold evA
  split
  ·rename_i p;exact bd7 (h e) (am0 h es) (L3 p es _)
  ·exact cl8
theorem aJ6{f:Expr->DE}(h:∀e,JE X e (f e)) (op:BoolOp) (pos:Pos):∀vs,JE X (.BoolOp op vs pos) (bj5 f op vs)
 | []=>K6
 | [a]=>ca4 (h a)
 | a::b::r=>by
  unfold bj5
  cases op
  ·exact cb2 (h a) (aJ6 h .And pos (b::r))
  ·exact cl3 (h a) (aJ6 h .Or pos (b::r))
theorem aJ5{f:Expr->DT}(h:∀e,JT X e (f e)) (op:BoolOp) (pos:Pos):∀vs,JW X (.BoolOp op vs pos) (bz8 f op vs)
 | []=>ck7
 | [a]=>by cases op;exact bI5 (h a);exact bX3 (h a)
 | a::b::r=>by
  unfold bz8
  cases op
  ·exact bX4 (h a) (aJ5 h .And pos (b::r))
  ·exact ck6 (h a) (aJ5 h .Or pos (b::r))
theorem ah7{f:Expr->DE}(h:∀e,JE X e (f e)):∀o,JO X o (evO f o)
 | none=>bJ9
 | some e=>bJ8 (h e)
theorem bX6{f:Expr->DT}(h:∀e,JT X e (f e)):∀l,JTs X l (bz7 f l)
 | []=>bI7
 | [t]=>bI6 (h t)
 | _::_::_=>bX5
theorem bw2{f:Expr->DG}(h:∀e,JG X e (f e)):∀es,es.all pl=true->JGs X es (cc9 f es)
 | [],_=>bK3
 | e::es,p=>by
  simp only[List.all_cons,Bool.and_eq_true]at p
  refine bw3 (h e) (bw2 h es p.2) ?_
  have p1:=p.1
  cases e<;>first|rfl|cases p1
theorem bf5{env:Env}:∀{es:List Expr},es.all pl=true->(assignEach es env).length=es.length/\(assignEach es env).findIdx? (·.1)=none
 | [],_=>⟨rfl,rfl⟩
 | e::es,p=>by
  simp only[List.all_cons,Bool.and_eq_true]at p
  obtain⟨h1,h2⟩:=bf5 (env:=env) p.2
  have p1:=p.1
  have q:assignEach (e::es) env=(false,assign e env)::assignEach es env:=by cases e<;>first|rfl|cases p1
  rw[q]
  refine⟨by simp[h1],?_⟩
  simp[List.findIdx?_cons,h2]
structure Sound (S:Sg) (r:Ev):Prop where
 e:∀{c X},Fit S c X->∀ex,JE X ex (r.e c ex)
 q:∀{c X},Fit S c X->∀ex,JQ X ex (r.q c ex)
 n:∀{c X},Fit S c X->∀ex,JN X ex (r.n c ex)
 t:∀{c X},Fit S c X->∀ex,JT X ex (r.t c ex)
 g:∀{c X},Fit S c X->∀ex,JG X ex (r.g c ex)
 b:∀{c X},Fit S c X->∀sts,JSs X sts (r.b c sts)
theorem Fit.hx(F:Fit S c X):∀e s,X.xe e s->False:=fun e s h=>by rw[F.xe]at h;exact h
theorem Fit.po(F:Fit S c X):PassesOwn (model X.prog X.w) X.A X.env X.xe:=by rw[F.xe];exact PassesOwn.never
theorem Fit.slot(F:Fit S c X) {x:Str}{i:Nat}(h:ab3 x c.N=some i):X.N[i]? = some x:=by rw[F.N];exact aP4 h
theorem Fit.inner{tn:List Str}{caps:List Nat}{scope:Scope}{C:Addr}{s0:Shared}{H0:Hp}{ex:List Addr}(F:Fit S c X) (hn:(G.inner c tn caps scope).N.Nodup):Fit S (G.inner c tn caps scope) (K9 X (G.inner c tn caps scope).N scope C s0 H0 ex) :=
 ⟨rfl,by show relabel scope X.env=rl scope c.sc;rw[← F.sc];rfl,hn,F.calm,rfl,F.units,(fun h=>by cases h),F.fns,F.css,F.bls⟩
variable {r:Ev}
theorem bZ7(R:Sound S r) (F:Fit S c X) (tg a:Expr) {p pos:Pos}(hg:Gl X "reversed") (hm:X.mg "reversed" = none):JI X tg (.Call (.Name "reversed" p) [a] [] pos) (evR S c tg a):=by
 have no:∀e:Expr,JI X tg e fun _=>none:=fun e ρ ds q=>nomatch q
 unfold evR
 split
 ·split
  ·split
   ·split
    ·split
     ·rename_i h
      simp only[Bool.and_eq_true]at h
      obtain⟨rfl,h1,h2⟩:=R9 F h.1.1.1
      obtain⟨rfl,h3,h4⟩:=R9 F h.1.1.2
      have ht:=h.1.2
      exact no _
     ·exact no _
    ·exact no _
   ·exact no _
  ·exact no _
 ·exact no _
theorem bO8(R:Sound S r) (F:Fit S c X) (tg it:Expr):JI X tg it (evI S r c tg it):=by
 unfold evI
 split
 ·rename_i x p a pos
  split
  ·rename_i h
   obtain⟨rfl,h1,h2⟩:=R9 F h
   exact bZ7 R F tg a h1 h2
  ·split
   ·rename_i h
    simp only[Bool.and_eq_true]at h
    obtain⟨rfl,h1,h2⟩:=R9 F h.1
    exact bj1 h1 h2 (R.e F a) (L3 h.2 _ _)
   ·split
    ·rename_i h
     simp only[Bool.and_eq_true]at h
     obtain⟨rfl,h1,h2⟩:=R9 F h.1.1
     have ht:=h.1.2
     cases tg<;>first|(exact bK2 h1 h2 (R.e F a) (L3 h.2 _ _))|(exact nomatch ht)
    ·exact aW9 (R.e F _)
 ·rename_i x p a b pos
  split
  ·rename_i h
   simp only[Bool.and_eq_true]at h
   obtain⟨rfl,h1,h2⟩:=R9 F h.1.1
   exact fun ρ ds q=>nomatch q
  ·split
   ·rename_i h
    simp only[Bool.and_eq_true]at h
    obtain⟨rfl,h1,h2⟩:=R9 F h.1.1.1
    have ht:=h.1.1.2
    cases tg<;>first|(exact bZ5 h1 h2 (R.e F a) (R.e F b) (by rw[L3 h.1.2,L3 h.2];rfl) (L3 h.2 _ _))|(exact nomatch ht)
   ·exact aW9 (R.e F _)
 ·split
  ·exact bZ6 (R.e F _)
  ·exact aW9 (R.e F _)
theorem bf0(R:Sound S r) (F:Fit S c X) {elt tgt iter:Expr}{ifs:List Expr}{scope:Scope}{caps:List Nat}
  (h:(au3 c.N (G.inner c (Z1 tgt) caps scope).N (Z1 tgt).length caps c.sc scope&&ap0 (G.inner c (Z1 tgt) caps scope).N&&pl iter)=true) :
  CompSc X (G.inner c (Z1 tgt) caps scope).N (Z1 tgt).length caps scope/\JI X tgt iter (evI S r c tgt iter)/\(∀C s0 H0 ex,JG (K9 X (G.inner c (Z1 tgt) caps scope).N scope C s0 H0 ex) tgt (r.g (G.inner c (Z1 tgt) caps scope) tgt)) /\
  (∀C s0 H0 ex,JTs (K9 X (G.inner c (Z1 tgt) caps scope).N scope C s0 H0 ex) ifs (bz7 (r.t (G.inner c (Z1 tgt) caps scope)) ifs))/\(∀C s0 H0 ex,JE (K9 X (G.inner c (Z1 tgt) caps scope).N scope C s0 H0 ex) elt (r.e (G.inner c (Z1 tgt) caps scope) elt)) /\
  ∀x,foldedSetIterable iter X.env x=pure x:=by
 simp only[Bool.and_eq_true]at h
 obtain⟨⟨h1,h2⟩,h3⟩:=h
 have hn:=ao9 h2
 exact⟨bm6 h1 F.N F.sc,bO8 R F tgt iter,fun C s0 H0 ex=>R.g (F.inner hn) tgt,fun C s0 H0 ex=>bX6 (R.t (F.inner hn)) ifs,fun C s0 H0 ex=>R.e (F.inner hn) elt,bb7 h3 _⟩
theorem cl1(R:Sound S r) (F:Fit S c X) (ex:Expr):JN X ex (evC S r c ex):=by
 unfold evC
 split
 ·rename_i elt tgt iter ifs scope pos
  dsimp only
  split
  ·rename_i h
   obtain⟨h1,h2,h3,h4,h5,h6⟩:=bf0 (ifs:=ifs) (elt:=elt) R F h
   exact bK1 h1 F.hx h2 h3 h4 h5 F.calm h6
  ·exact al9
 ·exact al9
theorem bg3{x:Str}{T:String}(h:bR2 x=some T):bootBuiltins x=some (.type T)/\x ≠ "__name__" /\ (x==("__debug__" : Str))=false:=by
 unfold bR2 at h
 split at h
 ·rename_i e;cases h;simp only[beq_iff_eq]at e;subst e;exact⟨aZ4,by decide,by decide⟩
 ·split at h
  ·rename_i e;cases h;simp only[beq_iff_eq]at e;subst e;exact⟨bM9,by decide,by decide⟩
  ·split at h
   ·rename_i e;cases h;simp only[beq_iff_eq]at e;subst e;exact⟨ce1,by decide,by decide⟩
   ·split at h
    ·rename_i e;cases h;simp only[beq_iff_eq]at e;subst e;exact⟨aS4,by decide,by decide⟩
    ·split at h
     ·rename_i e;cases h;simp only[beq_iff_eq]at e;subst e;exact⟨bf4,by decide,by decide⟩
     ·cases h
theorem bb8{e:Expr}(h:pl e=true) (pos:Pos) (env:Env):(backTo pos (starEach [e] env)).any (·.1)=false:=by rw[L3 h];rfl
theorem X3(pos:Pos) (env:Env):∀{es:List Expr},es.all pl=true->(starEach es env).any (·.1)=false
 | [],_=>rfl
 | e::es,h=>by
  simp only[List.all_cons,Bool.and_eq_true]at h
  rw[L3 h.1,List.any_cons,X3 pos env h.2];rfl
end
section
variable {X:Cx}{S:Sg}{c:Kx}{r:Ev}
theorem bC6(R:Sound S r) (F:Fit S c X) (a i:Expr) (pos:Pos):JE X (.Subscript a i pos) (bQ1 r c a i):=by
 unfold bQ1
 split
 ·split
  ·exact bw6 (R.e F _) (ah7 (R.e F) _) (ah7 (R.e F) _)
  ·split
   ·exact ca1 (R.e F _) (ah7 (R.e F) _) (ah7 (R.e F) _)
   ·split
    ·exact ca2 (R.q F _) (ah7 (R.e F) _) (ah7 (R.e F) _)
    ·exact ca3 (R.e F _) (ah7 (R.e F) _) (ah7 (R.e F) _)
 ·exact bK6 (R.e F _) (bw7 bx0)
 ·split
  ·rename_i h
   split
   ·exact ca7 (R.e F _) (R.e F _) (bb6 h)
   ·exact cl4 (R.q F _) (R.e F _) (bb6 h)
  ·exact K6
theorem bg2(R:Sound S r) (F:Fit S c X) (x:Str) (a:Expr) (p pos:Pos):JE X (.Call (.Name x p) [a] [] pos) (aT6 S r c x a):=by
 unfold aT6
 split
 ·exact K6
 rename_i hp
 have hp:pl a=true:=by simpa using hp
 have hs:=L3 hp [] X.env
 split
 ·rename_i h
  obtain⟨rfl,h1,h2⟩:=R9 F h
  split
  ·rename_i y py e ppos
   split
   ·rename_i hy
    simp only[Bool.and_eq_true]at hy
    obtain⟨rfl,g1,g2⟩:=R9 F hy.1
    exact bj2 h1 h2 g1 g2 (R.q F _) F.calm (L3 hy.2 _ _)
   ·exact bw8 h1 h2 (R.q F _) hs
  ·split
   ·exact bK9 h1 h2 (R.e F a) hs
   ·exact bw8 h1 h2 (R.q F a) hs
 split
 ·rename_i h;obtain⟨rfl,h1,h2⟩:=R9 F h;exact bK5 h1 h2 (R.q F a) hs
 split
 ·rename_i h;obtain⟨rfl,h1,h2⟩:=R9 F h;exact cb3 h1 h2 (R.q F a) F.calm hs
 split
 ·rename_i h;obtain⟨rfl,h1,h2⟩:=R9 F h;exact bw9 h1 h2 (R.e F a) hs
 split
 ·rename_i h;obtain⟨rfl,h1,h2⟩:=R9 F h;exact K6
 split
 ·rename_i h;obtain⟨rfl,h1,h2⟩:=R9 F h;exact K6
 split
 ·rename_i h;obtain⟨rfl,h1,h2⟩:=R9 F h;exact K6
 split
 ·rename_i h;obtain⟨rfl,h1,h2⟩:=R9 F h;exact K6
 exact K6
theorem bg1(R:Sound S r) (F:Fit S c X) (x:Str) (a b:Expr) (p pos:Pos):JE X (.Call (.Name x p) [a,b] [] pos) (aT5 S r c x a b):=by
 unfold aT5
 split
 ·exact K6
 rename_i hp
 have hp:pl a=true:=by simpa using hp
 split
 ·rename_i h
  obtain⟨rfl,h1,h2⟩:=R9 F h
  split
  ·rename_i y py
   split
   ·rename_i T hT
    split
    ·rename_i hy
     obtain⟨_,g1,g2⟩:=R9 F hy
     obtain⟨t1,t2,t3⟩:=bg3 hT
     exact ca8 h1 h2 g1 g2 t1 (R.e F a) t2 t3 (L3 hp _ _) rfl rfl
    ·exact K6
   ·exact K6
  ·exact K6
 split
 ·exact K6
 rename_i hb
 have hb:pl b=true:=by simpa using hb
 split
 ·rename_i h;obtain⟨rfl,h1,h2⟩:=R9 F h;exact bK7 h1 h2 (R.e F a) (R.e F b) F.calm (L3 hp _ _) (L3 hb _ _) (bb8 hb pos _)
 split
 ·rename_i h;obtain⟨rfl,h1,h2⟩:=R9 F h;exact bK8 h1 h2 (R.e F a) (R.e F b) F.calm (L3 hp _ _) (L3 hb _ _) (bb8 hb pos _)
 exact K6
theorem v9(pos:Pos):∀l:List (Bool×Sem Value),(backTo pos l).any (·.1)=l.any (·.1)
 | []=>rfl
 | (b,t)::r=>by
  have ih:=v9 pos r
  unfold backTo at ih ⊢
  rw[xmc,List.any_cons,List.any_cons,ih]
theorem bo3(R:Sound S r) (F:Fit S c X) (x:Str) (args:List Expr) (p pos:Pos):JE X (.Call (.Name x p) args [] pos) (bo4 S r c x args (.Call (.Name x p) args [] pos)):=by
 unfold bo4
 split
 ·rename_i Fn n hl
  split
  ·rename_i h
   simp only[Bool.and_eq_true,beq_iff_eq]at h
   obtain⟨⟨hg,hn⟩,hp⟩:=h
   obtain⟨g1,g2⟩:=ab5 F hg
   rcases F.fns _ _ _ hl with⟨k,f,fd,ps,hk,hr,hm,hkp,hb⟩|⟨hm,hb⟩
   case inr =>
    cases args with
    | nil=>cases hn;exact absurd hb.1 (Nat.lt_irrefl _)
    | cons e es =>
     simp only[List.all_cons,Bool.and_eq_true]at hp
     exact cl7 hb F.units g1 hm (am0 (R.e F) (e::es)) hn g2 (L3 hp.1 _ _) ((v9 pos _).trans (X3 pos _ hp.2))
   cases args with
   | nil=>cases hn;exact bx3 hk hr g1 hm hkp hb g2
   | cons e es =>
    simp only[List.all_cons,Bool.and_eq_true]at hp
    exact bL1 hk hr g1 hm hkp hb (am0 (R.e F) (e::es)) hn g2 (L3 hp.1 _ _) ((v9 pos _).trans (X3 pos _ hp.2))
  ·exact K6
 ·split
  ·split
   ·exact aw9 (R.n F _)
   ·exact bg2 R F _ _ _ _
  ·exact bg1 R F _ _ _ _ _
  ·exact K6
theorem bo2(k:Const) (u:Nat) (pos:Pos):JE X (.Constant k u pos) (xCn k):=by
 unfold xCn
 split
 ·exact ca6
 ·exact cl6
 ·exact bx0
 ·exact ca0
 ·exact K6
theorem bD0(R:Sound S r) (F:Fit S c X) (a:Expr) (op:Operator) (b:Expr) (pos:Pos):JE X (.BinOp a op b pos) (bQ7 r c a op b):=by
 unfold bQ7
 split
 ·split
  ·exact ab1 bt6 (R.e F _) (R.e F _)
  ·exact ab1 bH4 (R.e F _) (R.e F _)
 ·exact ab1 bU6 (R.e F _) (R.e F _)
 ·split
  ·exact ab1 aI6 (R.e F _) (R.e F _)
  ·split
   ·split
    ·exact ab1 bH3 (R.e F _) (R.e F _)
    ·exact ab1 bc5 (R.e F _) (R.e F _)
   ·exact ab1 bc5 (R.e F _) (R.e F _)
 ·exact ab1 bV1 (R.e F _) (R.e F _)
 ·exact ab1 bU8 (R.e F _) (R.e F _)
 ·exact K6
 ·exact K6
theorem bQ0(R:Sound S r) (F:Fit S c X) (op:UnaryOp) (a:Expr) (pos:Pos):JE X (.UnaryOp op a pos) (xUn r c op a):=by
 unfold xUn
 split
 ·exact bw7 (R.e F _)
 ·exact ca5 (R.e F _)
 ·exact K6
theorem bC9(R:Sound S r) (F:Fit S c X) (a:Expr) (ops:List CmpOp) (bs:List Expr) (pos:Pos):JE X (.Compare a ops bs pos) (bQ5 S r c a ops bs):=by
 have hu:=F.units
 unfold bQ5
 split
 ·split
  ·rename_i h;exact cb1 (bt3 hu S c _ _) (R.e F _) (R.e F _) (at9 h _)
  ·exact K6
 ·split
  ·rename_i h;exact bx1 (af9 hu _) (af9 hu _) (R.e F _) (R.e F _) (R.e F _) (at9 h _)
  ·exact K6
 ·exact K6
theorem bC8(R:Sound S r) (F:Fit S c X) (o:Expr) (m:Str) (apos cpos:Pos) (args:List Expr):JE X (.Call (.Attribute o m apos) args [] cpos) (bQ3 r c o m apos cpos args):=by
 have hu:=F.units
 unfold bQ3
 split
 ·split
  ·rename_i h
   simp only[Bool.and_eq_true,beq_iff_eq]at h
   obtain⟨⟨⟨hm,hn⟩,hl⟩,hp⟩:=h
   subst hm
   have hs:=L3 hp [] X.env
   exact bL0 (R.e F _) (R.q F _) (aO3 hn _ _ _) (by rw[hs];rfl) (by simpa using hl) hs
  ·split
   ·rename_i h
    simp only[Bool.and_eq_true,beq_iff_eq]at h
    obtain⟨⟨⟨hm,hn⟩,hl⟩,hp⟩:=h
    subst hm
    have hs:=L3 hp [] X.env
    exact K6
   ·exact K6
 ·exact K6
theorem bQ6(R:Sound S r) (F:Fit S c X) (f:Expr) (args:List Expr) (kw:List Keyword) (pos:Pos):JE X (.Call f args kw pos) (xCl S r c f args kw pos):=by
 unfold xCl
 split
 ·split
  ·exact bo3 R F _ _ _ _
  ·exact bC8 R F _ _ _ _ _
  ·exact K6
 ·exact K6
theorem cf9(R:Sound S r) (F:Fit S c X) (ex:Expr):JE X ex (xE S r c ex):=by
 cases ex
 case Constant=>exact bo2 _ _ _
 case Name x p =>
  unfold xE
  dsimp only
  split
  ·rename_i i h
   split
   ·rename_i v;obtain⟨h1,h2,h3⟩:=ak3 F v;exact bw4 i (F.slot h) h1 h2 h3
   ·exact K6
  ·split
   ·rename_i d hd
    split
    ·rename_i g;obtain⟨u,k1,k2⟩:=F.css _ _ hd;obtain⟨g1,g2⟩:=ab5 F g;exact cb0 k1 g1 k2 g2
    ·exact K6
   ·exact K6
 case Tuple es _ _ =>
  unfold xE
  dsimp only
  split
  ·rename_i h;exact bZ9 (am0 (R.e F) _) h
  ·exact K6
 case List=>exact aw9 (R.n F _)
 case ListComp=>exact aw9 (R.n F _)
 case BinOp=>exact bD0 R F _ _ _ _
 case UnaryOp=>exact bQ0 R F _ _ _
 case Compare=>exact bC9 R F _ _ _ _
 case BoolOp=>exact aJ6 (R.e F) _ _ _
 case IfExp=>exact ca9 (R.t F _) (R.e F _) (R.e F _)
 case Subscript=>exact bC6 R F _ _ _
 case Call=>exact bQ6 R F _ _ _ _
 all_goals exact K6
theorem cf6(R:Sound S r) (F:Fit S c X) (ex:Expr):JQ X ex (xQ S r c ex):=by
 cases ex
 case Name x p =>
  unfold xQ
  dsimp only
  split
  ·rename_i i h
   split
   ·rename_i v;obtain⟨h1,h2,h3⟩:=ak3 F v;exact bZ1 i (F.slot h) h1 h2 h3
   ·exact bO6
  ·exact bw1 (R.e F _)
 case List=>exact bZ2 (R.n F _)
 case ListComp=>exact bZ2 (R.n F _)
 case Call f as kw p =>
  unfold xQ
  dsimp only
  split
  ·exact bZ2 (R.n F _)
  ·exact bw1 (R.e F _)
 all_goals exact bw1 (R.e F _)
theorem cf7(R:Sound S r) (F:Fit S c X) (ex:Expr):JN X ex (xN S r c ex):=by
 cases ex
 case List es p =>
  unfold xN
  dsimp only
  split
  ·rename_i h;exact bZ3 (am0 (R.e F) _) h
  ·exact al9
 case ListComp=>exact cl1 R F _
 case Call f as kw p =>
  unfold xN
  dsimp only
  unfold xNl
  split
  ·split
   ·split
    ·rename_i h
     simp only[Bool.and_eq_true]at h
     obtain⟨rfl,h1,h2⟩:=R9 F h.1
     exact bK0 h1 h2 (R.q F _) (L3 h.2 _ _)
    ·exact al9
   ·exact al9
  ·exact al9
 case BinOp a op b p =>
  cases op
  case Add=>exact bZ4 (R.q F _) (R.q F _)
  all_goals exact al9
 all_goals exact al9
theorem cf5(R:Sound S r) (F:Fit S c X) (ex:Expr):JT X ex (xT S r c ex):=by
 have hu:=F.units
 have oth:∀e:Expr,JT X e (if plT e then K4 (r.e c e) else tNo):=fun e=>by
  split
  ·rename_i h;exact bX7 (R.e F _) (bs0 h _)
  ·exact aE3
 cases ex
 case Compare a ops bs p =>
  unfold xT bN3
  dsimp only
  split
  ·split
   ·rename_i h;exact bX9 (bt3 hu S c _ _) (R.e F _) (R.e F _) (at9 h _)
   ·exact aE3
  ·split
   ·rename_i h;exact bv4 (af9 hu _) (af9 hu _) (R.e F _) (R.e F _) (R.e F _) (at9 h _)
   ·exact aE3
  ·exact aE3
 case BoolOp=>exact bv3 (aJ5 (R.t F) _ _ _)
 case UnaryOp op a p =>
  cases op
  case Not=>exact bX8 (R.t F _)
  all_goals exact aE3
 all_goals exact oth _
theorem cf8(R:Sound S r) (F:Fit S c X) (ex:Expr):JG X ex (xG r c ex):=by
 unfold xG
 split
 ·split
  ·rename_i i h
   split
   ·rename_i v;obtain⟨h1,h2⟩:=aJ0 F v;exact bK4 i (by rw[F.N];exact F.nd) (F.slot h) h1 h2
   ·exact aP3
  ·exact aP3
 ·split
  ·rename_i h
   obtain⟨h1,h2⟩:=bf5 (env:=X.env) h
   exact bZ8 (bw2 (R.g F) _ h) F.calm h1 h2
  ·exact aP3
 ·exact aP3
theorem bd4{st:Stmt}{f:DS}(h:∀ρ,f ρ=none):JS X st f:=fun ρ fl q=>by rw[h ρ]at q;cases q
theorem bB5(F:Fit S c X) (h:c.df=true):X.env.blockKind=.function:=by
 unfold Env.blockKind
 rw[F.sc,(F.df h).2];rfl
theorem aC9(elt:Expr) (gens:List Comprehension) (sc:Scope) (pv p':Pos) (x:Str) (l:Nat) (env:Env):swapsWith (.ListComp elt gens sc pv) (some (.Name x p')) l env =
  pure (env.blockKind == .function&&env.kindOf x==some .local&&p'.line==pv.line && !(sc.names.any fun(n,k)=>n==x&&(k == .local || k == .cell))):=rfl
theorem bd5(R:Sound S r) (F:Fit S c X) {x:Str}{p' pv p:Pos}{elt:Expr}{gens:List Comprehension}{sc:Scope}{i:Nat}(hi:ab3 x c.N=some i) (hl:(c.sc.names.lookup x==some .local)=true)
  (h:(c.df&&p'.line==pv.line && !(sc.names.any fun(n,k)=>n==x&&(k == .local || k == .cell)))=true) :
  JS X (.Assign [.Name x p'] (.ListComp elt gens sc pv) p) (ao3 i (evC S r c (.ListComp elt gens sc pv)))/\JS X (.Assign [.Name x p'] (.ListComp elt gens sc pv) p) (U9 i (evC S r c (.ListComp elt gens sc pv))):=by
 unfold evC
 simp only[Bool.and_eq_true]at h
 have hl':X.env.scope.names.lookup x=some .local:=by rw[F.sc];simpa using hl
 have hsw:swapsWith (.ListComp elt gens sc pv) (some (.Name x p')) p.line X.env=pure true:=by
  rw[aC9,bB5 F h.1.1,h.1.2,h.2]
  unfold Env.kindOf
  rw[hl'];rfl
 split
 ·rename_i elt tgt iter ifs scope pos he
  cases he
  dsimp only
  split
  ·rename_i hc
   obtain⟨h1,h2,h3,h4,h5,h6⟩:=bf0 (ifs:=ifs) (elt:=elt) R F hc
   exact⟨bJ2 i (by rw[F.N];exact F.nd) h1 F.hx h2 h3 h4 h5 (F.slot hi) hl' hsw F.calm h6,bJ4 i (by rw[F.N];exact F.nd) h1 F.hx h2 h3 h4 h5 (F.slot hi) hl' hsw F.calm h6⟩
  ·exact⟨bd4 fun ρ=>rfl,bd4 fun ρ=>rfl⟩
 ·exact⟨bd4 fun ρ=>rfl,bd4 fun ρ=>rfl⟩
theorem bD1(R:Sound S r) (F:Fit S c X) (tg v:Expr) (p:Pos):JS X (.Assign [tg] v p) (bQ8 S r c tg v p):=by
 have nd:X.N.Nodup:=by rw[F.N];exact F.nd
 unfold bQ8
 split
 ·rename_i x p'
  split
  ·exact B9
  ·rename_i i hi
   split
   ·exact B9
   ·rename_i hlo
    have hlo:bi9 c x=true:=by simpa using hlo
    obtain⟨l1,l2⟩:=aJ0 F hlo
    split
    ·rename_i elt gens sc pv
     split
     ·rename_i hl
      split
      ·rename_i h
       split
       ·exact(bd5 R F hi hl h).1
       ·exact(bd5 R F hi hl h).2
      ·exact B9
     ·rename_i hl
      refine aW7 i nd (R.e F _) (F.slot hi) l1 ?_ l2
      rw[aC9]
      have:(X.env.kindOf x==some .local)=false:=by
       unfold Env.kindOf
       rw[F.sc];simpa using hl
      rw[this,Bool.and_false];rfl
    ·split
     ·exact B9
     ·rename_i hc
      have hc:isC v=false:=by simpa using hc
      split
      ·exact bY2 i nd (R.n F _) (F.slot hi) l1 (al7 hc _ _ _) l2
      ·exact aW7 i nd (R.e F _) (F.slot hi) l1 (al7 hc _ _ _) l2
 ·split
  ·exact B9
  ·rename_i i hi
   split
   ·rename_i h
    simp only[Bool.and_eq_true,Bool.not_eq_true']at h
    obtain⟨h1,h2,h3⟩:=ak3 F h.1
    exact bY0 i (R.n F _) (ah7 (R.e F) _) (ah7 (R.e F) _) (F.slot hi) h1 h2 h3 (al7 h.2 _ _ _)
   ·exact B9
 ·rename_i x px y py kt pt
  split
  ·rename_i a b k2 p2
   split
   ·rename_i i j hi hj
    split
    ·rename_i h
     unfold ci6 at h
     simp only[Bool.and_eq_true,Bool.not_eq_true',beq_iff_eq]at h
     obtain⟨⟨⟨⟨⟨⟨⟨⟨hd,ha⟩,hb⟩,hxy⟩,hl⟩,hx⟩,hy⟩,hf⟩,hcs⟩:=h
     have hx':X.env.scope.names.lookup x=some .local:=by rw[F.sc];exact hx
     have hy':X.env.scope.names.lookup y=some .local:=by rw[F.sc];exact hy
     have hne:i≠j:=fun z=>by
      subst z
      have:=(F.slot hi).symm.trans (F.slot hj)
      cases this
      simp at hxy
     refine bY1 nd (am0 (R.e F) [a,b]) ?_ hne (F.slot hi) (F.slot hj) hx' hy' F.calm rfl
     have kx:X.env.kindOf x=some .local:=hx'
     have ky:X.env.kindOf y=some .local:=hy'
     have st:∀e:Expr,pl e=true->(match e with | .Starred ..=>true|_=>false)=false:=fun e he=>by cases e<;>first|rfl|cases he
     have sa:=st a ha
     have sb:=st b hb
     have hyx:(y==x)=false:=by
      cases q:(y==x) with
      | false=>rfl
      | true=>simp only[beq_iff_eq]at q;subst q;simp at hxy
     simp only[swappedStores,List.length_cons,List.length_nil,List.head?_cons,xms,Option.getD_some,Expr.pos,List.filterMap_cons,List.filterMap_nil,kx,ky,bB5 F hd,hf,hcs,hl,sa,sb,List.any_cons,List.any_nil]
     simp[List.eraseDups,List.eraseDupsBy,List.eraseDupsBy.loop,hxy,hyx]
     intro z
     rcases z with z|z
     ·cases a<;>first|exact absurd (show false=true from z) Bool.false_ne_true|exact nomatch ha
     ·cases b<;>first|exact absurd (show false=true from z) Bool.false_ne_true|exact nomatch hb
    ·exact B9
   ·exact B9
  ·exact B9
  ·rename_i h1 h2
   refine bv7 (R.e F _) (R.g F _) ?_ ?_ rfl
   ·cases v<;>rfl
   ·cases v<;>first|rfl|exact(h2 _ _ _ rfl).elim
 ·rename_i es kt pt _
  split
  ·exact B9
  ·rename_i h
   refine bv7 (R.e F _) (R.g F _) ?_ ?_ rfl
   ·cases v<;>rfl
   ·cases v<;>first|rfl|skip
    rename_i vs k3 p3
    have h:(es.length==2 || es.length==3)=false:=by simpa [aP7] using h
    unfold swappedStores
    simp only[h,xnf,Bool.true_or,if_true]
 ·exact B9
end
section
variable {X:Cx}{S:Sg}{c:Kx}{r:Ev}
theorem bC7(R:Sound S r) (F:Fit S c X) (x m:Str) (e:Expr) (p apos cpos pos:Pos) (hl:(apos.endLine==cpos.line)=true):JS X (.Expr (.Call (.Attribute (.Name x p) m apos) [e] [] cpos) pos) (bQ2 r c x m e):=by
 unfold bQ2
 split
 ·exact B9
 ·rename_i i hi
  split
  ·rename_i h
   simp only[Bool.and_eq_true]at h
   obtain⟨h1,h2,h3⟩:=ak3 F h.1
   have hs:=L3 h.2 [] X.env
   split
   ·rename_i hm
    simp only[beq_iff_eq]at hm
    subst hm
    exact bY7 i (R.e F e) (F.slot hi) h1 h2 h3 rfl (by rw[hs];rfl) hl hs rfl
   ·split
    ·rename_i hm
     simp only[beq_iff_eq]at hm
     subst hm
     exact bY5 i (R.e F e) (F.slot hi) h1 h2 h3 hl hs
    ·exact B9
  ·exact B9
theorem bQ4(R:Sound S r) (F:Fit S c X) (e:Expr) (pos:Pos):JS X (.Expr e pos) (xEx r c e):=by
 unfold xEx
 split
 ·split
  ·split
   ·split
    ·split
     ·rename_i h;exact bC7 R F _ _ _ _ _ _ _ h
     ·exact B9
    ·exact B9
   ·exact B9
  ·exact B9
 ·exact B9
theorem bo1(R:Sound S r) (F:Fit S c X) (st:Stmt):JS X st (xS0 S r c st):=by
 cases st
 case Return o p =>
  cases o
  ·exact B9
  ·exact aW8 (R.e F _)
 case If=>exact ck8 (R.t F _) (R.b F _) (R.b F _)
 case While t a o p =>
  cases o
  ·exact bv6 (R.t F _) (R.b F _) F.po
  ·exact B9
 case For tg it a o p =>
  cases o
  ·unfold xS0 xFo
   dsimp only
   split
   ·rename_i h;exact bY4 (bO8 R F _ _) (R.g F _) (R.b F _) F.po F.calm (bb7 h _)
   ·exact B9
  ·exact B9
 case Assign ts v p =>
  unfold xS0 xAs
  dsimp only
  split
  ·exact bD1 R F _ _ _
  ·exact B9
 case Expr=>exact bQ4 R F _ _
 case Continue=>exact bJ3
 case Break=>exact bY6
 case Pass=>exact bJ1
 all_goals exact B9
theorem bz2{st:Stmt}:∀(l:List Nat) {g:DS},JS X st g->JS X st (l.foldl (fun g i=>aN3 i g) g)
 | [],_,h=>h
 | i::l,_,h=>bz2 l (bY3 i h)
theorem ba4(R:Sound S r) (F:Fit S c X) (st:Stmt):JS X st (xS S r c st):=by
 unfold xS fzW
 split
 ·exact bo1 R F st
 ·exact bz2 _ (bo1 R F st)
theorem ax6{f:Stmt->DS}(h:∀st,JS X st (f st)):∀sts,JSs X sts (evB f sts)
 | []=>bI9
 | [s]=>bI8 (h s)
 | s::t::T5=>bv5 (h s) (ax6 h (t::T5))
theorem bE1(R:Sound S r):Sound S (step S r) :=
 ⟨fun F=>cf9 R F,fun F=>cf6 R F,fun F=>cf7 R F,fun F=>cf5 R F,fun F=>cf8 R F,fun F=>ax6 (ba4 R F)⟩
theorem k8(S:Sg):∀n,Sound S (ev S n)
 | 0=>⟨fun _ _=>K6,fun _ _=>bO6,fun _ _=>al9,fun _ _=>aE3,fun _ _=>aP3,fun _ _ ρ fl q=>by cases q⟩
 | n+1=>bE1 (k8 S n)
end
structure Fd where
 x:Str
 st:Stmt
 ps:List Str
 N:List Str
 own:List Nat:=[]
 tx:List Nat:=[]
 old:Bool:=false
 fz:List (Nat×List Nat):=[]
 hc:List ((Nat×Nat)×List Nat):=[]
def fdm(x:Str) (st:Stmt) (n:Nat) (N:List Str) (old:Bool:=false):Fd:={ x,st,ps:=N.take n,N,old }
def Fd.c(d:Fd):Kx:={ N:=d.N,sc:=K8 d.st,df:=true,own:=d.own,cpt:=[],tx:=d.tx,old:=d.old,fz:=d.fz,hc:=d.hc }
def Fd.okB(d:Fd):Bool:=let sc:=K8 d.st
 sc.kind == .function && !sc.isCoroutine && !sc.isGenerator&&ap0 d.N&&d.N.take d.ps.length==d.ps&&(d.ps.all fun x=>match sc.names.lookup x with|some .local=>true|some .cell=>true|_=>false)&&sc.names.all fun y=>match y.2 with | .free=>false|_=>true
theorem Fd.sc{d:Fd}(h:d.okB=true):FnScope d.N d.ps (K8 d.st):=by
 unfold Fd.okB at h
 simp only[Bool.and_eq_true,Bool.not_eq_true',beq_iff_eq,List.all_eq_true]at h
 obtain⟨⟨⟨⟨⟨⟨h1,h2⟩,h3⟩,h4⟩,h5⟩,h6⟩,h7⟩:=h
 refine⟨h1,h2,h3,ao9 h4,h5,fun x hx=>?_,fun y hy e=>?_⟩
 ·have:=h6 x hx
  split at this
  ·rename_i q;exact .inl q
  ·rename_i q;exact .inr q
  ·cases this
 ·have:=h7 y hy
  rw[e]at this
  cases this
def KF(K:PySem.W.Frag) (x:Str) (st:Stmt):Prop:=∃(f:Addr) (oc:Value) (od:Option Addr) (sl:Array (Option Value)) (kV dc pm:Value) (an:Option Addr) (cd ct:Value),
 PySem.W.nsIn K mainGlobals x=some (some (.ref f))/\K.lookup f=some ⟨oc,od,.func (PySem.W.fnOf x x (i8 st) (S7 st) (K8 st) .none kV dc pm an cd ct),sl⟩/\PySem.W.codeIn K cd x=true/\PySem.W.keepIn K (.ref f)=true
theorem ck5{K:PySem.W.Frag}{x:Str}{st:Stmt}{f:Addr}{oc:Value}{od:Option Addr}{sl:Array (Option Value)}{kV dc pm:Value}{an:Option Addr}{cd ct:Value}(a:PySem.W.nsIn K mainGlobals x=some (some (.ref f)))
  (l:K.lookup f=some ⟨oc,od,.func (PySem.W.fnOf x x (i8 st) (S7 st) (K8 st) .none kV dc pm an cd ct),sl⟩) (c:PySem.W.codeIn K cd x=true) (k:PySem.W.keepIn K (.ref f)=true):KF K x st:=⟨f,oc,od,sl,kV,dc,pm,an,cd,ct,a,l,c,k⟩
abbrev Tab:=List (Str×FnD×Nat)
section
variable {P:Program}{w:World}{K:PySem.W.Frag}{mg:Str->Option Value}{base:Heap}{cs:List (Str×D)}{bl:List Str}
structure Md (K:PySem.W.Frag) (mg:Str->Option Value) (cs:List (Str×D)) (bl:List Str):Prop where
 ns:∀x v,PySem.W.nsIn K mainGlobals x=some (some v)->mg x=some v
 css:∀x d,cs.lookup x=some d->∃u,aS7 K d u/\mg x=some u
 bls:∀x,bl.contains x=true->mg x=none
def TOk(P:Program) (w:World) (K:PySem.W.Frag) (mg:Str->Option Value) (base:Heap) (k:Nat) (tab:Tab):Prop:=∀x F n,tab.lookup x=some (F,n)->(∃(f:Addr) (fd:FuncData) (ps:List Str),
 FnOk P w K mg base CX0 k f fd ps (spF K n F)/\mg x=some (.ref f)/\PySem.W.keepIn K (.ref f)=true/\T8 K fd ps [])\/(mg x=none/\cf2 x F n)
theorem TOk.nil:TOk P w K mg base 0 []:=fun x F n h=>by cases h
theorem TOk.mono{j k:Nat}{tab:Tab}(T:TOk P w K mg base j tab) (h:j<=k):TOk P w K mg base k tab:=fun x F n e =>(T x F n e).imp (fun⟨f,fd,ps,h1,h2,h3,h4⟩=>⟨f,fd,ps,h1.mono h,h2,h3,h4⟩) id
def UA:Nat->(List Value->Prop)->Prop
 | 0,P=>P []
 | n+1,P=>∀a,UA n fun us=>P (a::us)
theorem ua:∀{n:Nat}{P:List Value->Prop},UA n P->∀us:List Value,us.length=n->P us
 | 0,_,h,[],_=>h
 | _+1,P,h,a::us,e=>ua (P:=fun us=>P (a::us)) (h a) us (Nat.succ.inj e)
def Bd(d:Fd):Prop:=∀(kV doc pm:Value) (an:Option Addr) (cdv ct:Value),UA d.ps.length fun us=>bindArgs (PySem.W.fnOf d.x d.x (i8 d.st) (S7 d.st) (K8 d.st) .none kV doc pm an cdv ct) ⟨us,[]⟩=pure (d.ps.zip us)
def rd(tab:Tab) (cs:List (Str×D)) (bl:List Str) (d:Fd):FnD:=C3 ((ev ⟨tab,cs,bl⟩ 99).b d.c (S7 d.st)) d.N.length
theorem ar6{k:Nat}{tab:Tab}{d:Fd}{f:Addr}{fd:FuncData}(M:Md K mg cs bl) (T:TOk P w K mg base k tab) (ok:d.okB=true) (Fn:Fun K d.x d.x d.st f fd):FnOk P w K mg base CX0 (k+1) f fd d.ps (spF K d.ps.length (rd tab cs bl d)):=by
 have Sc:=Fd.sc ok
 refine be6 (N:=d.N) Fn Sc fun cdv A outer s H E hr=>(k8 ⟨tab,cs,bl⟩ 99).b (c:=d.c) ?_ _
 refine⟨rfl,rfl,Sc.nd,rfl,rfl,hr.units,fun _=>⟨fun _=>rfl,Sc.kind⟩,fun x F n h=>?_,M.css,M.bls⟩
 exact(T x F n h).imp (fun⟨f',fd',ps,h1,h2,h3,h4⟩=>⟨k,f',fd',ps,h1,hr,h2,h3,h4⟩) id
theorem u4{x:Str}{st:Stmt}(h:KF K x st) (M:Md K mg cs bl):∃(f:Addr) (kV dc pm:Value) (an:Option Addr) (cd ct:Value),Fun K x x st f (PySem.W.fnOf x x (i8 st) (S7 st) (K8 st) .none kV dc pm an cd ct)/\mg x=some (.ref f):=by
 obtain⟨f,oc,od,sl,kV,dc,pm,an,cd,ct,a,l,cc,kk⟩:=h
 exact⟨f,kV,dc,pm,an,cd,ct,cc4 l cc kk,M.ns _ _ a⟩
theorem TOk.cons{k:Nat}{tab:Tab}{x:Str}{F:FnD}{n:Nat}(T:TOk P w K mg base k tab) (h:∃(f:Addr) (fd:FuncData) (ps:List Str),FnOk P w K mg base CX0 k f fd ps (spF K n F)/\mg x=some (.ref f)/\PySem.W.keepIn K (.ref f)=true/\T8 K fd ps []) :
  TOk P w K mg base k ((x,F,n)::tab):=fun y G m e=>by
 rw[List.lookup_cons]at e
 split at e
 ·rename_i q
  cases e
  simp only[beq_iff_eq]at q
  subst q
  exact .inl h
 ·exact T y G m e
theorem TOk.add{k:Nat}{tab:Tab}(T:TOk P w K mg base k tab) (M:Md K mg cs bl) (d:Fd) (h:KF K d.x d.st) (F:FnD) (e:rd tab cs bl d=F:=by kernel_rfl) (ok:d.okB=true:=by kernel_rfl) (bd:Bd d:=by repeat (first|exact rfl|intro _)):TOk P w K mg base (k+1) ((d.x,F,d.ps.length)::tab):=by
 subst e
 obtain⟨f,kV,dc,pm,an,cd,ct,Fn,hm⟩:=u4 h M
 exact(T.mono (Nat.le_succ k)).cons ⟨f,_,d.ps,ar6 M T ok Fn,hm,Fn.kp,.all (ua (bd kV dc pm an cd ct))⟩
theorem TOk.rec{k:Nat}{tab:Tab}(T:TOk P w K mg base k tab) (M:Md K mg cs bl) (d:Fd) (h:KF K d.x d.st) (F:Nat->FnD) (j:Nat) (e0:F 0=fun _=>none:=by rfl) (e:∀j,rd ((d.x,F j,d.ps.length)::tab) cs bl d=F (j+1):=by intro;kernel_rfl) (ok:d.okB=true:=by kernel_rfl) (bd:Bd d:=by repeat (first|exact rfl|intro _)) :
  TOk P w K mg base (k+j) ((d.x,F j,d.ps.length)::tab):=by
 obtain⟨f,kV,dc,pm,an,cd,ct,Fn,hm⟩:=u4 h M
 have bb:T8 K _ d.ps []:=.all (ua (bd kV dc pm an cd ct))
 have main:∀j,FnOk P w K mg base CX0 (k+j) f (PySem.W.fnOf d.x d.x (i8 d.st) (S7 d.st) (K8 d.st) .none kV dc pm an cd ct) d.ps (spF K d.ps.length (F j)):=fun j=>by
  induction j with
  | zero =>
   rw[e0]
   exact⟨fun vs H Q E h=>h.1,fun A outer s H args us vs Q E hr e0 hb hv hs=>by obtain⟨_,Hf,ds,d,_,_,e,_⟩:=hs;cases e⟩
  | succ j ih =>
   rw[← e j]
   exact ar6 M ((T.mono (Nat.le_add_right k j)).cons ⟨f,_,d.ps,ih,hm,Fn.kp,bb⟩) ok Fn
 exact(T.mono (Nat.le_add_right k j)).cons ⟨f,_,d.ps,main j,hm,Fn.kp,bb⟩
theorem TOk.rec2{k:Nat}{tab:Tab}(T:TOk P w K mg base k tab) (M:Md K mg cs bl) (d d':Fd) (h:KF K d.x d.st) (h':KF K d'.x d'.st) (F F':Nat->FnD) (j:Nat) (e0:F 0=fun _=>none:=by rfl) (e0':F' 0=fun _=>none:=by rfl)
  (e:∀j,rd ((d.x,F j,d.ps.length)::(d'.x,F' j,d'.ps.length)::tab) cs bl d=F (j+1):=by intro;kernel_rfl) (e':∀j,rd ((d.x,F j,d.ps.length)::(d'.x,F' j,d'.ps.length)::tab) cs bl d'=F' (j+1):=by intro;kernel_rfl) (ok:d.okB=true:=by kernel_rfl) (ok':d'.okB=true:=by kernel_rfl) (bd:Bd d:=by repeat (first|exact rfl|intro _)) (bd':Bd d':=by repeat (first|exact rfl|intro _)) :
  TOk P w K mg base (k+j) ((d.x,F j,d.ps.length)::(d'.x,F' j,d'.ps.length)::tab):=by
 obtain⟨f,kV,dc,pm,an,cd,ct,Fn,hm⟩:=u4 h M
 obtain⟨f',kV',dc',pm',an',cd',ct',Fn',hm'⟩:=u4 h' M
 have b1:T8 K _ d.ps []:=.all (ua (bd kV dc pm an cd ct))
 have b2:T8 K _ d'.ps []:=.all (ua (bd' kV' dc' pm' an' cd' ct'))
 have none_ok:∀{f:Addr}{fd:FuncData}{ps:List Str},FnOk P w K mg base CX0 (k+0) f fd ps (spF K ps.length fun _=>none):=fun{f fd ps} =>⟨fun vs H Q E h=>h.1,fun A outer s H args us vs Q E hr e0 hb hv hs=>by obtain⟨_,Hf,ds,d,_,_,e,_⟩:=hs;cases e⟩
 have main:∀j,TOk P w K mg base (k+j) ((d.x,F j,d.ps.length)::(d'.x,F' j,d'.ps.length)::tab):=fun j=>by
  induction j with
  | zero=>rw[e0,e0'];exact((T.mono (Nat.le_refl _)).cons ⟨f',_,d'.ps,none_ok,hm',Fn'.kp,b2⟩).cons ⟨f,_,d.ps,none_ok,hm,Fn.kp,b1⟩
  | succ j ih =>
   have o1:=ar6 M ih ok Fn
   have o2:=ar6 M ih ok' Fn'
   rw[e j]at o1
   rw[e' j]at o2
   exact((T.mono (Nat.le_add_right k (j+1))).cons ⟨f',_,d'.ps,o2,hm',Fn'.kp,b2⟩).cons ⟨f,_,d.ps,o1,hm,Fn.kp,b1⟩
 exact main j
theorem TOk.rec3{k:Nat}{tab:Tab}(T:TOk P w K mg base k tab) (M:Md K mg cs bl) (d1 d2 d3:Fd) (h1:KF K d1.x d1.st) (h2:KF K d2.x d2.st) (h3:KF K d3.x d3.st) (F1 F2 F3:Nat->FnD) (j:Nat) (z1:F1 0=fun _=>none:=by rfl) (z2:F2 0=fun _=>none:=by rfl) (z3:F3 0=fun _=>none:=by rfl)
  (e1:∀j,rd ((d1.x,F1 j,d1.ps.length)::(d2.x,F2 j,d2.ps.length)::(d3.x,F3 j,d3.ps.length)::tab) cs bl d1=F1 (j+1):=by intro;kernel_rfl) (e2:∀j,rd ((d1.x,F1 j,d1.ps.length)::(d2.x,F2 j,d2.ps.length)::(d3.x,F3 j,d3.ps.length)::tab) cs bl d2=F2 (j+1):=by intro;kernel_rfl) (e3:∀j,rd ((d1.x,F1 j,d1.ps.length)::(d2.x,F2 j,d2.ps.length)::(d3.x,F3 j,d3.ps.length)::tab) cs bl d3=F3 (j+1):=by intro;kernel_rfl) (ok1:d1.okB=true:=by kernel_rfl) (ok2:d2.okB=true:=by kernel_rfl) (ok3:d3.okB=true:=by kernel_rfl) (q1:Bd d1:=by repeat (first|exact rfl|intro _)) (q2:Bd d2:=by repeat (first|exact rfl|intro _)) (q3:Bd d3:=by repeat (first|exact rfl|intro _)) :
  TOk P w K mg base (k+j) ((d1.x,F1 j,d1.ps.length)::(d2.x,F2 j,d2.ps.length)::(d3.x,F3 j,d3.ps.length)::tab):=by
 obtain⟨f1,a1,a2,a3,a4,a5,a6,Fn1,hm1⟩:=u4 h1 M
 obtain⟨f2,c1,c2,c3,c4,c5,c6,Fn2,hm2⟩:=u4 h2 M
 obtain⟨f3,g1,g2,g3,g4,g5,g6,Fn3,hm3⟩:=u4 h3 M
 have b1:T8 K _ d1.ps []:=.all (ua (q1 a1 a2 a3 a4 a5 a6))
 have b2:T8 K _ d2.ps []:=.all (ua (q2 c1 c2 c3 c4 c5 c6))
 have b3:T8 K _ d3.ps []:=.all (ua (q3 g1 g2 g3 g4 g5 g6))
 have none_ok:∀{f:Addr}{fd:FuncData}{ps:List Str},FnOk P w K mg base CX0 (k+0) f fd ps (spF K ps.length fun _=>none):=fun{f fd ps} =>⟨fun vs H Q E h=>h.1,fun A outer s H args us vs Q E hr e0 hb hv hs=>by obtain⟨_,Hf,ds,d,_,_,e,_⟩:=hs;cases e⟩
 induction j with
 | zero=>rw[z1,z2,z3];exact(((T.mono (Nat.le_refl _)).cons ⟨f3,_,d3.ps,none_ok,hm3,Fn3.kp,b3⟩).cons ⟨f2,_,d2.ps,none_ok,hm2,Fn2.kp,b2⟩).cons ⟨f1,_,d1.ps,none_ok,hm1,Fn1.kp,b1⟩
 | succ j ih =>
  have o1:=ar6 M ih ok1 Fn1
  have o2:=ar6 M ih ok2 Fn2
  have o3:=ar6 M ih ok3 Fn3
  rw[e1 j]at o1
  rw[e2 j]at o2
  rw[e3 j]at o3
  exact(((T.mono (Nat.le_add_right k (j+1))).cons ⟨f3,_,d3.ps,o3,hm3,Fn3.kp,b3⟩).cons ⟨f2,_,d2.ps,o2,hm2,Fn2.kp,b2⟩).cons ⟨f1,_,d1.ps,o1,hm1,Fn1.kp,b1⟩
theorem bI4{k:Nat}{tab:Tab}{F:FnD}{fa:Addr}{x:Str}(M:Md K mg cs bl) (T:∀base:Heap,TOk P w K mg base k tab) (d:Fd) (h:KF K d.x d.st) (e:rd tab cs bl d=F) (hm:mg d.x=some (.ref fa)) (hp:d.ps=[x]:=by rfl) (ok:d.okB=true:=by kernel_rfl) (bd:Bd d:=by repeat (first|exact rfl|intro _)) :
  ∃fd:FuncData,(∀(s:Shared) (u:Value),BindsTo s fd ⟨[u],[]⟩ [(x,u)])/\∀base:Heap,FnOk P w K mg base CX0 (k+1) fa fd [x] (spF K 1 F):=by
 subst e
 obtain⟨f,kV,dc,pm,an,cd,ct,Fn,hm'⟩:=u4 h M
 cases hm.symm.trans hm'
 refine⟨PySem.W.fnOf d.x d.x (i8 d.st) (S7 d.st) (K8 d.st) .none kV dc pm an cd ct,fun s u=>.of_eq ?_,fun base=>?_⟩
 ·have:=ua (bd kV dc pm an cd ct) [u] (by rw[hp];rfl)
  rw[hp]at this
  exact this
 ·have:=ar6 M (T base) ok Fn
  rw[hp]at this
  exact this
end
theorem aX4{K:PySem.W.Frag}{h:Heap}{C:Addr}{bb:List Value}{nid:String}(kin:K.In h) (q:PySem.W.excIn K C bb nid=true) :
  ∃nm qn N bs bm hd sn sub ab col dd k0 k1 k2 k3 k5 mN,h.get? C=some (excClassObj nm qn C N bs bm hd sn sub ab col dd k0 k1 k2 k3 k5 nid)/\h.Ns N mN/\mN "__init__" = none/\OwnTail h bb bm:=by
 unfold PySem.W.excIn at q
 split at q
 case h_2=>cases q
 rename_i d0 c0 sl0 lk
 split at q
 case h_2=>cases q
 rename_i C1 tl p0 p1 p2 p3 n1 p5 e1 e2
 simp only[Bool.and_eq_true,beq_iff_eq,Bool.not_eq_true']at q
 obtain⟨⟨⟨⟨⟨q1,q2⟩,q3⟩,q4⟩,q5⟩,q6⟩:=q
 subst q1 q2
 obtain⟨f1,f2,f3,f4,f5,f6,f7,f8,f9,f10,f11⟩:=c0
 dsimp only at e1 q3 q5 q6
 subst e1 q3
 obtain⟨sll⟩:=sl0
 dsimp only at e2
 subst e2
 exact⟨f1,f5,f4,f2,tl,f6,f7,f8,f9,f10,d0,p0,p1,p2,p3,p5,_,kin _ _ lk,.of_isNs (PySem.W.isNs_of_in kin q5),PySem.W.nsMap_none_of_in kin q5 q6,PySem.W.tail_of_in kin q4⟩
structure Fly (R:Addr->Prop) (l:List Env) (g B:Heap) (C a:Addr) (h:Heap):Prop where
 keep:∀b o,R b->g.get? b=some o->b∉frs l->B.get? b=some o
 fly:∃t,Heap.FlyingW B l a (.ref C) (.ref t) h
 sl:∀b o,g.get? b=some o->b∈frs l->∃z,h.get? b=some { o with slots:=z }
def Rl(s:Shared) (H':Hp) (b:Addr):Prop:=s.heap.get? b≠none\/H' b≠none
def CX1(P:Program) (w:World):CXT:=fun outer H s E e s'=>∃a C g B H',e=.ref a/\s'.os=s.os/\AllBare s'.gens/\Un (frs outer) [] H H' s.heap g/\HOk P w H' g/\Fly (Rl s H') outer g B C a s'.heap/\E (.ref C) none H'
section
variable {X:Cx}{pins:List (Addr×Obj)}{σ:L2.St}{H H':Hp}{s s':Shared}{g B:Heap}
theorem bL8(I:Inv X pins σ H s) (os:s'.os=s.os) (bare:AllBare s'.gens) (un:Un (frs X.stack) [] H H' s.heap g) (hok:HOk X.prog X.w H' g) (keep:∀b o,Rl s H' b->g.get? b=some o->b∉frs X.stack->B.get? b=some o)
  (hB:B.StaysIn s'.heap) (sl:∀b o,g.get? b=some o->b∈frs X.stack->∃z,s'.heap.get? b=some { o with slots:=z }):Inv X pins σ H' s':=by
 have nx:∀b:Addr,b∉([]:List Addr):=fun b z=>absurd z (by simp)
 refine I.call' (ch:=[]) os ⟨fun b o e n m z=>hB b o (keep b o (.inl (by rw[e];simp)) (un.keep b o e n m z) m),fun b o e n m z=>?_,un.free,fun b o e z=>?_,un.tups,un.frzs,un.tbls⟩ ?_ bare (fun b z=>absurd z (nx b))
 ·obtain⟨z1,q⟩:=un.slot b o e n m z
  obtain⟨z2,q2⟩:=sl b _ q m
  exact⟨z2,q2⟩
 ·obtain⟨o',q⟩:=un.there b o e z
  by_cases m:b∈frs X.stack
  ·obtain⟨z2,q2⟩:=sl b _ q m;exact⟨_,q2⟩
  ·exact⟨o',hB b o' (keep b o' (.inl (by rw[e];simp)) q m)⟩
 ·intro a o e
  have fr0:∀b,b∈frs X.stack->H' b=none:=fun b m=>by
   obtain⟨_,o1,h1,_⟩:=I.stack.mem m
   exact un.free b o1 h1 (I.stkFree b m) (nx b)
  refine(hok a o e).stay (fun b u hb q=>?_) (fun _ q=>q) fun _ _ q=>q
  have hn:H' b≠none:=by
   rcases hb with rfl|hb
   ·rw[e];simp
   ·rw[hb];simp
  exact hB b u (keep b u (.inr hn) q fun m=>hn (fr0 b m))
end
section
variable {P:Program}{w:World}{K:PySem.W.Frag}{mg:Str->Option Value}{base:Heap}{N:List Str}{qual:Str}{scope:Scope}{f:Addr}{cd:Value}{A:Around}{outer:List Env}{s:Shared}{H H1:Hp}{E:XK}
 {pins:List (Addr×Obj)}{σ:L2.St}{s1 s':Shared}{h2:Heap}{a C:Addr}{vs:List Value}
abbrev cx1(P:Program) (w:World) (K:PySem.W.Frag) (mg:Str->Option Value) (base:Heap) (N:List Str) (qual:Str) (scope:Scope) (f:Addr) (cd:Value) (A:Around) (outer:List Env) (s:Shared) (H:Hp) (E:XK):Cx:=aR5 (CX1 P w) P w K mg base N qual scope f cd A outer s H E
theorem bN8(I:Inv (cx1 P w K mg base N qual scope f cd A outer s H E) pins σ H1 s1) {b:Addr}(r:Rl s H1 b):b≠s.heap.objs.size:=by
 rintro rfl
 rcases r with r|r
 ·exact r (Heap.get?_none_of_le (Nat.le_refl _))
 ·exact r I.free
theorem aD8{b:Addr}(h1:b∉frs outer) (h2:b≠s.heap.objs.size):b∉frs (cx1 P w K mg base N qual scope f cd A outer s H E).stack:=fun m=>by
 have m:b∈s.heap.objs.size::frs outer:=m
 rcases List.mem_cons.mp m with z|z
 ·exact h2 z
 ·exact h1 z
theorem aP1(I:Inv (cx1 P w K mg base N qual scope f cd A outer s H E) pins σ H1 s1) (hm:Heap.MadeExcOf s1.heap h2 a (.ref C) vs) (hE:E (.ref C) none H1):(cx1 P w K mg base N qual scope f cd A outer s H E).xe (.ref a) { s1 with heap:=h2 }:=by
 have hin:∀env∈(cx1 P w K mg base N qual scope f cd A outer s H E).stack,∀b,env.frame=some b->b∈frs (cx1 P w K mg base N qual scope f cd A outer s H E).stack:=fun env he b hb=>List.mem_filterMap.mpr ⟨env,he,hb⟩
 refine wpAny_leaves_madeW (base:=PySem.W.hideAll s1.heap (frs (cx1 P w K mg base N qual scope f cd A outer s H E).stack)) (h:=s1.heap) (outer:=outer) I.ok.frames rfl (fun b o q=>PySem.W.of_hideAll _ q) (PySem.W.funFrames_hide I.stack hin) hm fun h' t x1 _ _ x4=>?_
 refine⟨a,C,s1.heap,_,H1,rfl,I.os,I.bare,I.base,I.hok,⟨fun b o r e m=>PySem.W.hideAll_get _ e (aD8 m (bN8 I r)),⟨t,x1⟩,fun b o e m=>?_⟩,hE⟩
 obtain⟨_,o',e',hd⟩:=I.stack.mem (xmm _ m)
 rw[e]at e';cases e'
 exact x4 b o (hm.keeps b o e) hd
theorem bc2(I:Inv (cx1 P w K mg base N qual scope f cd A outer s H E) pins σ H1 s1) {e:Value}(hx:CX1 P w (cx1 P w K mg base N qual scope f cd A outer s H E).stack H1 s1 E e s'):(cx1 P w K mg base N qual scope f cd A outer s H E).xe e s':=by
 obtain⟨a,C,g,B,H',rfl,os,bare,un,hok,F,hE⟩:=hx
 have J:Inv (cx1 P w K mg base N qual scope f cd A outer s H E) pins σ H' { s' with heap:=g }:=I.call' (s':={ s' with heap:=g }) (ch:=[]) os un hok bare (fun b z=>absurd z (by simp))
 obtain⟨t,fl⟩:=F.fly
 refine wpAny_leaves_onW (outer:=outer) I.ok.frames rfl fl fun h' x1 x2=>?_
 have up:∀b,Rl s H' b->Rl s1 H' b:=fun b r=>r.imp (fun z q=>by
  cases e:s.heap.get? b with
  | none=>exact z e
  | some o =>
   obtain⟨o',q'⟩:=I.base.there b o e (fun z=>absurd (show b∈([]:List Addr) from z) (by simp))
   rw[q]at q';cases q') id
 refine⟨a,C,g,B,H',rfl,J.os,bare,J.base,J.hok,⟨fun b o r e m=>F.keep b o (up b r) e (aD8 m (bN8 J r)),⟨t,x1⟩,fun b o e m=>?_⟩,hE⟩
 obtain⟨z,e2⟩:=F.sl b o e (xmm _ m)
 obtain⟨_,o',e',hd⟩:=J.stack.mem (xmm _ m)
 have e':g.get? b=some o':=e'
 rw[e]at e';cases e'
 obtain⟨z2,q⟩:=x2 b _ e2 hd
 exact⟨z2,q⟩
end
abbrev veB:List Value:=[.type "ValueError", .type "Exception", .type "BaseException", .type "object"]
def o5(K:PySem.W.Frag) (x:Str):Bool:=match clA K x with
 | some C=>PySem.W.excIn K C veB "ValueError.__new__"
 | none=>false
abbrev RD:=Rho->Option (Str×Rho)
def EC(C:Addr) (H1:Hp):XK:=fun cls _ H'=>cls=.ref C/\G1 H1 H'
def Ou(X:Cx) (m:Bool) (pins:List (Addr×Obj)) (ρ1:Rho) (C:Addr) (H0 Hf0:Hp) (e:Value) (s':Shared):Prop:=∃σ1 H1 Hf1 s1,Inv X pins σ1 H1 s1/\At X.K H0 Hf0 ρ1 σ1 H1 Hf1 /\
 ((m=true/\∃h' a vs,s'={ s1 with heap:=h' }/\e=.ref a/\Heap.MadeExcOf s1.heap h' a (.ref C) vs)\/CX1 X.prog X.w X.stack H1 s1 (EC C H1) e s')
def Lo(X:Cx) (C:Addr) (H0:Hp) (e:Value) (s':Shared):Prop:=wpAny (model X.prog X.w) X.A (leaving X.env e) (fun _ s''=>CX1 X.prog X.w X.outer X.H₀ X.s₀ (EC C H0) e s'') (fun e' s''=>CX1 X.prog X.w X.outer X.H₀ X.s₀ (EC C H0) e' s'') s'
def Ot(X:Cx) (m:Bool) (pins:List (Addr×Obj)) (ρ1:Rho) (C:Addr) (H0 Hf0:Hp) (e:Value) (s':Shared):Prop:=Ou X m pins ρ1 C H0 Hf0 e s'\/(m=true/\Lo X C H0 e s')
def JR(X:Cx) (m:Bool) (st:Stmt) (r:RD):Prop:=∀ρ x ρ1 C,r ρ=some (x,ρ1)->clA X.K x=some C->∀H0 Hf0 pins s σ H Hf,Inv X pins σ H s->At X.K H0 Hf0 ρ σ H Hf ->
 wpAny (model X.prog X.w) X.A (exec st X.env) (fun _ _=>False) (Ot X m pins ρ1 C H0 Hf0) s
def JRs(X:Cx) (m:Bool) (sts:List Stmt) (r:RD):Prop:=∀ρ x ρ1 C,r ρ=some (x,ρ1)->clA X.K x=some C->∀H0 Hf0 pins s σ H Hf,Inv X pins σ H s->At X.K H0 Hf0 ρ σ H Hf ->
 wpAny (model X.prog X.w) X.A (execs sts X.env) (fun _ _=>False) (Ot X m pins ρ1 C H0 Hf0) s
def PX(X:Cx) (m:Bool) (e:Expr) (r:RD):Prop:=∀ρ x ρ1 C,r ρ=some (x,ρ1)->clA X.K x=some C->∀H0 Hf0 pins s σ H Hf,Inv X pins σ H s->At X.K H0 Hf0 ρ σ H Hf ->
 wpAny (model X.prog X.w) X.A (eval e X.env) (fun _ _=>False) (Ot X m pins ρ1 C H0 Hf0) s
theorem noX{α:Type}{t:Sem α}{Q Q':α->Shared->Prop}{M:Model}{A:Around}{E E':Value->Shared->Prop}{s:Shared}(hx:∀e s,E e s->False) (h:wpAny M A t Q E s) (hQ:∀a s,Q a s->Q' a s):wpAny M A t Q' E' s:=wpAny_mono h hQ fun e s z=>(hx e s z).elim
section
variable {X:Cx}{m:Bool}(hx:∀e s,X.xe e s->False)
include hx
def aa8(x:Str) (f:DE):RD:=fun ρ=>(f ρ).map fun _=>(x,ρ)
theorem bv9{x:Str}{e:Expr}{f:DE}{np cpos pos:Pos}(hq:o5 X.K x=true) (hg:Gl X x) (hm:∀C,clA X.K x=some C->X.mg x=some (.ref C)) (hc:X.calm=true) (he:JE X e f) (hd:(x==("__debug__" : Str))=false)
  (hs:starEach [e] X.env=[(false,eval e X.env)]):JR X true (.Raise (some (.Call (.Name x np) [e] [] cpos)) none pos) (aa8 x f):=by
 intro ρ y ρ1 C q hC H0 Hf0 pins s σ H Hf I at_
 obtain⟨d,q1,q2⟩:=xmo q
 cases q2
 have hq:PySem.W.excIn X.K C veB "ValueError.__new__" = true:=by unfold o5 at hq;rw[hC]at hq;exact hq
 obtain⟨nm,qn,N,bs,bm,hd',sn,sub,ab,col,dd,k0,k1,k2,k3,k5,mN,g1,g2,g3,g4⟩:=aX4 I.mod.kin hq
 refine wpAny_Raise_call_subT (C:=C) (bm:=bm) (nm:=nm) (q:=qn) (N:=N) (bs:=bs) (hdct:=hd') (sn:=sn) (sub:=sub) (ab:=ab) (col:=col) (dd:=dd) (k0:=k0) (k1:=k1) (k2:=k2) (k3:=k3) (k5:=k5) F.excBase_ValueError (g4.hasType (by decide)) (I.ok.hd hc) (by rw[hs];rfl) g3 ?_
 refine ag0 I hg (hm C hC) ⟨rfl,?_⟩ hd
 have hA:=(bd7 he bx4 (by rw[hs];rfl)).run ρ [d] (by simp only[A0,A3,q1,xbs,xms]) cpos pins s σ H (fun vs H'=>(∃Hf',At X.K H0 Hf0 ρ σ H' Hf')/\vs.length=1) I ⟨H0,Hf,at_.gr.sub,at_.sl,fun vs H' Hf' gr rs=>⟨⟨Hf',at_.grow gr⟩,rs.length⟩⟩
 rw[hs]at hA ⊢
 refine Calls.evalArgs_plain (noX hx hA fun us s2 ⟨vs,H2,I2,r2,⟨Hf2,a2⟩,l1⟩=>?_)
 have ln:us.length=1:=by rw[← r2.length];exact l1
 exact⟨rfl,by show us.length<=_;rw[ln];decide,I2.bk _ _ g1,g2.keeps I2.bk,g4.keeps I2.bk,fun h' a hm'=>.inl ⟨σ,H2,Hf2,s2,I2,a2,.inl ⟨rfl,h',a,us,rfl,rfl,hm'⟩⟩⟩
def rNo:RD:=fun _=>none
omit hx in
theorem ac5{st:Stmt}:JR X m st rNo:=fun ρ x ρ1 C q=>by cases q
omit hx in
theorem bY8{sts:List Stmt}:JRs X m sts rNo:=fun ρ x ρ1 C q=>by cases q
def rIf(t:Rho->Option Bool) (a b:RD):RD:=fun ρ=>(t ρ).bind fun c=>if c=true then a ρ else b ρ
theorem ck9{c:Expr}{a b:List Stmt}{t:Rho->Option Bool}{f g:RD}{pos:Pos}(hc:JT X c t) (ha:JRs X m a f) (hb:JRs X m b g):JR X m (.If c a b pos) (rIf t f g):=by
 intro ρ x ρ1 C q hC H0 Hf0 pins s σ H Hf I at_
 obtain⟨d,q1,q2⟩:=xbo q
 refine wpAny_If (noX hx (hc ρ d q1 pins s σ H (fun d' H'=>d'=d/\∃Hf',Grow H Hf H' Hf') I ⟨H0,Hf,at_.gr.sub,at_.sl,fun H' Hf' gr=>⟨rfl,Hf',gr⟩⟩) fun d' s1 ⟨H1,I1,e,Hf1,gr⟩=>?_)
 subst e
 cases d' with
 | true=>exact ha ρ x ρ1 C q2 hC H0 Hf0 pins s1 σ H1 Hf1 I1 (at_.grow gr)
 | false=>exact hb ρ x ρ1 C q2 hC H0 Hf0 pins s1 σ H1 Hf1 I1 (at_.grow gr)
def k4(r:RD) (f:DS) (r2:RD):RD:=fun ρ=>match r ρ with
 | some x=>some x
 | none=>match f ρ with
  | some (.nx ρ')=>r2 ρ'
  | _=>none
theorem bv8{st:Stmt}{sts:List Stmt}{r r2:RD}{f:DS}(h1:JR X m st r) (h2:JS X st f) (h3:JRs X m sts r2):JRs X m (st::sts) (k4 r f r2):=by
 intro ρ x ρ1 C q hC H0 Hf0 pins s σ H Hf I at_
 unfold k4 at q
 split at q
 ·rename_i y e
  cases q
  exact wpAny_execs_cons (thn (h1 ρ x ρ1 C e hC H0 Hf0 pins s σ H Hf I at_) fun _ _ z=>z.elim)
 ·split at q
  ·rename_i ρ' e
   refine wpAny_execs_cons (noX hx (h2 ρ _ e H0 Hf0 pins s σ H { nx:=fun σ' H'=>∃Hf',At X.K H0 Hf0 ρ' σ' H' Hf',rt:=fun _ _=>False } I ⟨Hf,at_,fun σ' H' Hf' a _=>⟨Hf',a⟩⟩) fun fl s1 z=>?_)
   cases fl with
   | next =>
    obtain⟨σ1,H1,I1,Hf1,a1⟩:=z
    exact h3 ρ' x ρ1 C q hC H0 Hf0 pins s1 σ1 H1 Hf1 I1 a1
   | ret v=>obtain⟨_,_,_,_,_,z⟩:=z;exact z.elim
   | brk=>obtain⟨_,_,_,z⟩:=z;exact z.elim
   | cont=>obtain⟨_,_,_,z⟩:=z;exact z.elim
  ·cases q
omit hx in
theorem bJ5{st:Stmt}{r:RD}(h1:JR X m st r):JRs X m [st] r:=fun ρ x ρ1 C q hC H0 Hf0 pins s σ H Hf I at_ =>wpAny_execs_cons (thn (h1 ρ x ρ1 C q hC H0 Hf0 pins s σ H Hf I at_) fun _ _ z=>z.elim)
def spR(K:PySem.W.Frag) (n:Nat) (R:List D->Option Str):Sp:=fun vs H _ E=>vs.length=n/\∃Hf ds x C,G1 Hf H/\Reps K Hf ds vs/\R ds=some x/\clA K x=some C/\∀H',G1 H H'->E (.ref C) none H'
def ae1(R:List D->Option Str) (g:Rho->Option (List D)):RD:=fun ρ=>(g ρ).bind fun ds=>(R ds).map fun x=>(x,ρ)
theorem bE7{k:Nat}{f:Addr}{fd:FuncData}{ps:List Str}{n:Nat}{R:List D->Option Str}{x:Str}{e:Expr}{es:List Expr}{g:Rho->Option (List D)}{p pos:Pos}(Fk:FnOk X.prog X.w X.K X.mg X.base (CX1 X.prog X.w) k f fd ps (spR X.K n R)) (hr:Room k X.A) (hg:Gl X x) (hm:X.mg x=some (.ref f)) (hk:PySem.W.keepIn X.K (.ref f)=true) (hb:T8 X.K fd ps [])
  (ha:JA X (e::es) g) (hn:(e::es).length=n) (hdb:(x==("__debug__" : Str))=false) (he:starEach (e::es) X.env=(false,eval e X.env)::starEach es X.env) (hpl:(backTo pos (starEach es X.env)).any (·.1)=false) :
  PX X m (.Call (.Name x p) (e::es) [] pos) (ae1 R g):=by
 intro ρ y ρ1 C q hC H0 Hf0 pins s σ H Hf I at_
 obtain⟨ds,h1,h2⟩:=xbo q
 obtain⟨y',h4,h3⟩:=xmo h2
 cases h3
 refine wpAny_Call_Name_kw (ag0 I hg hm ?_ hdb)
 refine PySem.W.callWith_K (h₀:=X.base) I.ok.mod.kin hk (noX hx (ha.run ρ ds h1 pos pins s σ H (fun vs H'=>∃Hf',At X.K H0 Hf0 ρ σ H' Hf'/\Reps X.K Hf' ds vs) I ⟨H0,Hf,at_.gr.sub,at_.sl,fun vs H1 Hf1 g1 r1=>⟨Hf1,at_.grow g1,r1⟩⟩) fun us s1 ⟨vs,H1,I1,r,Hf1,a1,rp⟩=>⟨I1.kIn,?_⟩) he hpl
 have hl:vs.length=n:=by rw[rp.length,ha.len ρ ds h1,hn]
 have sp:spR X.K n R vs H1 (fun _ _=>False) (EC C H1):=⟨hl,Hf1,ds,y,C,a1.gr.sub,rp,h4,hC,fun H' sm=>⟨rfl,sm⟩⟩
 have hl2:us.length=ps.length:=by rw[← r.length];exact Fk.len vs H1 (fun _ _=>False) (EC C H1) sp
 have bd:BindsTo s1 fd ⟨us,[]⟩ (ps.zip us):=by
  have:=hb s1 us I1.kIn (by rw[List.append_nil];exact hl2)
  rwa [List.append_nil]at this
 refine wpAny_call (codeAny_mono (Fk.run X.A X.stack s1 H1 ⟨us,[]⟩ us vs (fun _ _=>False) (EC C H1) hr I1.env0 bd r sp) fun rs s' hq=>?_)
 cases rs with
 | error e=>exact .inl ⟨σ,H1,Hf1,s1,I1,a1,.inr hq⟩
 | ok fl =>
  cases fl with
  | ret u=>obtain⟨_,_,_,_,_,_,_,z⟩:=hq;exact z.elim
  | next=>exact False.elim hq
  | brk=>exact False.elim hq
  | cont=>exact False.elim hq
omit hx in
theorem bJ6{e:Expr}{r:RD}{pos:Pos}(h:PX X m e r) (hs:swapsWith e none pos.line X.env=pure false):JR X m (.Expr e pos) r:=fun ρ x ρ1 C q hC H0 Hf0 pins s σ H Hf I at_ =>wpAny_Expr_any (thn (h ρ x ρ1 C q hC H0 Hf0 pins s σ H Hf I at_) fun _ _ z=>z.elim) I.quiet hs
omit hx in
theorem bZ0{e:Expr}{r:RD}{pos:Pos}(h:PX X m e r):JR X m (.Return (some e) pos) r:=fun ρ x ρ1 C q hC H0 Hf0 pins s σ H Hf I at_ =>wpAny_Return_some (thn (h ρ x ρ1 C q hC H0 Hf0 pins s σ H Hf I at_) fun _ _ z=>z.elim)
omit hx in
theorem bY9{x:Str}{e:Expr}{r:RD}{pos pos':Pos}(h:PX X m e r) (hs:swapsWith e (some (.Name x pos')) pos.line X.env=pure false):JR X m (.Assign [.Name x pos'] e pos) r:=fun ρ y ρ1 C q hC H0 Hf0 pins s σ H Hf I at_ =>wpAny_Assign_Name (thn (h ρ y ρ1 C q hC H0 Hf0 pins s σ H Hf I at_) fun _ _ z=>z.elim) hs
end
theorem CX1.mono{P:Program}{w:World}{outer:List Env}{H:Hp}{s:Shared}{E E':XK}{e:Value}{s':Shared}(h:CX1 P w outer H s E e s') (m:∀cls H',E cls none H'->E' cls none H'):CX1 P w outer H s E' e s':=by
 obtain⟨a,C,g,B,H',q1,q2,q3,q4,q5,q6,q7⟩:=h
 exact⟨a,C,g,B,H',q1,q2,q3,q4,q5,q6,m _ _ q7⟩
def as4(r:RD) (n:Nat):List D->Option Str:=fun ds=>(r (Z2 n ds)).map (·.1)
theorem bz6{P:Program}{w:World}{K:PySem.W.Frag}{mg:Str->Option Value}{base:Heap}{x qual:Str}{st:Stmt}{f:Addr}{fd:FuncData}{N ps:List Str}{k:Nat}{r:RD}(F:Fun K x qual st f fd) (S:FnScope N ps (K8 st))
  (hb:∀(cdv:Value) (A:Around) (outer:List Env) (s:Shared) (H:Hp) (E:XK),Room k (A.deeper (envOfC qual (K8 st) s.heap.objs.size f cdv))->JRs (cx1 P w K mg base N qual (K8 st) f cdv A outer s H E).nox true (S7 st) r) :
  FnOk P w K mg base (CX1 P w) (k+1) f fd ps (spR K ps.length (as4 r N.length)):=by
 obtain⟨oc,od,kV,doc,pm,an,cdv,ct,osl,rfl,lk,hcd⟩:=F.ex
 refine aE6 lk hcd S (fun vs H Q E h=>h.1) fun A outer s H vs Q E hr hsp=>?_
 obtain⟨hlen,Hf,ds,y,C,ss,rp,e,hC,hE⟩:=hsp
 obtain⟨⟨y',ρ1⟩,e1,e2⟩:=xmo e
 cases e2
 refine⟨fun _ σ H'=>σ=L2.o6 N vs/\H'=H,fun pins s1 σ H1 D I z=>?_,rfl,rfl⟩
 obtain⟨rfl,rfl⟩:=z
 refine wpAny_mono (hb cdv A outer s H1 E hr (Z2 N.length ds) y' ρ1 C e1 hC H1 Hf pins s1 _ H1 Hf (I.wish _) ⟨Grow.refl ss,ar4 rp⟩) (fun _ _ z=>z.elim) fun ex s' ho=>?_
 rcases ho with ho|⟨_,lo⟩
 case inr =>exact wpAny_mono lo (fun _ s'' z=>CX1.mono z fun cls H' q=>by obtain⟨rfl,sm⟩:=q;exact hE H' sm) fun e' s'' z=>CX1.mono z fun cls H' q=>by obtain⟨rfl,sm⟩:=q;exact hE H' sm
 obtain⟨σ1,H2,Hf2,s2,I2,a2,o⟩:=ho
 have I2:=I2.unwish
 rcases o with⟨_,h',a,vs',rfl,rfl,hm⟩|hc
 ·exact aP1 I2 hm (hE H2 a2.gr.big)
 ·refine bc2 I2 ?_
  obtain⟨a,C',g,B,H',q1,q2,q3,q4,q5,q6,q7,q8⟩:=hc
  cases q7
  exact⟨a,C,g,B,H',q1,q2,q3,q4,q5,q6,hE H' (a2.gr.big.trans q8)⟩
section
variable {M:Model}{A:Around}{E:Value->Shared->Prop}{h:Heap}{g:Array GenState}{d:Drawn}{t:Nat}{os:OsState}
variable {nm qn nm2 qn2:Str}{C N D N2:Addr}{bs bm bs2 bm2:List Value}{hd hd2:Bool}{sn sn2:List Str}{sub sub2:List Value}{ab ab2:Bool}{col col2:Option Bool}{dd dd2:Option Addr}{k0 k1 k2 k3 k5 j0 j1 j2 j3 j5:Option Value}{nid nid2:String}
theorem cq5{e:Addr}{oe:Obj}{Q:Bool->Shared->Prop}(hC:h.get? C=some (excClassObj nm qn C N bs bm hd sn sub ab col dd k0 k1 k2 k3 k5 nid)) (hD:h.get? D=some (excClassObj nm2 qn2 D N2 bs2 bm2 hd2 sn2 sub2 ab2 col2 dd2 j0 j1 j2 j3 j5 nid2))
  (he:h.get? e=some oe) (hcls:oe.cls=.ref C) (hb:bm2.contains (.type "BaseException")=true) (hq:Q ((Value.ref C::bm).contains (.ref D)) ⟨h,g,d,t,os⟩):wpAny M A (excMatches (.ref e) (.ref D)) Q E ⟨h,g,d,t,os⟩:=by
 have cB:(Value.ref D::bm2).contains (.type "BaseException")=true:=by rw[List.contains_cons,hb,Bool.or_true]
 have f:=tc_notTuple
 generalize hb:(Value.ref C::bm).contains (.ref D)=b at hq
 unfold excMatches
 repeat (first|(with_reducible refine wpAny_loadPart_at he ?_;rw[hcls])|with_reducible refine wpAny_loadPart_at hD ?_|(with_reducible refine wpAny_isSubtype_exc hD ?_;rw[cB])|(with_reducible refine wpAny_isSubtype_exc hC ?_;rw[hb])|wp_step)
 cases b<;>(wp_walk;exact hq)
end
abbrev Cx.held(X:Cx) (e:Value):Cx:={ X with A:=X.A.mark (some e),calm:=false }
section
variable {X:Cx}{pins:List (Addr×Obj)}{σ:L2.St}{H:Hp}{s:Shared}
theorem Inv.held(I:Inv X pins σ H s) (e:Value):Inv (Cx.held X e) pins σ H s :=
 ⟨⟨I.ok.mod,I.ok.kind,I.ok.glob,I.ok.blt,I.ok.above,I.ok.inj,I.ok.has,I.ok.cab,(fun z=>by cases z),I.ok.frames,I.ok.stk,I.ok.exf,I.ok.bs,I.ok.bsz,I.ok.noex,I.ok.exfs,I.ok.funs,I.ok.frf⟩,I.os,I.bare,I.base,I.loc,I.cell,I.free,I.freeC,I.pin,I.hok,I.len⟩
theorem Inv.unheld{e:Value}(I:Inv (Cx.held X e) pins σ H s) (ok:X.Ok):Inv X pins σ H s:=⟨ok,I.os,I.bare,I.base,I.loc,I.cell,I.free,I.freeC,I.pin,I.hok,I.len⟩
end
section
variable {X:Cx}{pins:List (Addr×Obj)}{σ:L2.St}{H:Hp}{s:Shared}{a:Addr}{oe:Obj}
abbrev fz(oe:Obj) (a:Addr):HO:=.frz oe (.own a)
end
def bq1(K:PySem.W.Frag) (x c:Str):Bool:=match clA K x,clA K c with
 | some C,some D=>(match K.lookup C with
  | some ⟨_,_,.cls cd,_⟩=>cd.mro.contains (.ref D)
  | _=>false)
 | _,_=>false
section
variable {X:Cx}
end
section
variable {prog:Program}{w:World}{A:Around}{E:Value->Shared->Prop}{h:Heap}{g:Array GenState}{d:Drawn}{t:Nat}{os:OsState}{a C:Addr}{o:Obj}{K:PySem.W.Frag}
def xcB(K:PySem.W.Frag) (C:Addr):Bool:=PySem.W.findIn K (.ref C) "__class__" == some (some (.builtin "object.__class__"))&&PySem.W.findIn K (.ref C) "__getattribute__" == some (some (.builtin "BaseException.__getattribute__")) &&
 PySem.W.findIn K (.ref C) "__getattr__" == some none&&PySem.W.mroIn K C (.type "object")==some true&&PySem.W.mroIn K C (.type "BaseException")==some true
end
section
variable {X:Cx}
def cr3(i:Nat) (tb:Str->Option Bool):DE:=fun ρ=>match ρ[i]? with
 | some (some (.exc x))=>(tb x).map PyData.bool
 | _=>none
def aS8(K:PySem.W.Frag) (cv:Value) (tb:Str->Option Bool):Prop:=∀x b,tb x=some b->∃C,clA K x=some C/\xcB K C=true/\PySem.W.excIn K C veB "ValueError.__new__" = true/\PySem.W.kitOne K (.ref C) cv=some b
end
section
variable {X:Cx}
def dRp(f:DE):DE:=fun ρ=>(f ρ).bind fun d=>match d with
 | .str x=>if x.length<=1000/\x.cps.all (· < 1114112)=true then some (.str (reprText x)) else none
 | _=>none
theorem cl2{e:Expr}{f:DE}{pos:Pos}(h:JE X e f):JE X (.FormattedValue e 114 none pos) (dRp f):=fun ρ d q=>by
 obtain⟨y,h1,h2⟩:=xbo q
 cases y with
 | str x =>
  dsimp only at h2
  split at h2
  case isFalse=>cases h2
  rename_i c
  cases h2
  have ln:(reprText x).length<=sizeLine:=by
   refine Nat.le_trans (PySem.StrLaws.reprText_len x fun z hz=>?_) ?_
   ·have:=c.2
    rw[← Array.all_toList,List.all_eq_true]at this
    have:=of_decide_eq_true (this z hz)
    omega
   ·have:=c.1
    exact Nat.le_trans (show 10*x.length+2<=10002 by omega) (by decide)
  intro pins s σ H Q I hw
  obtain⟨H0,Hf,sm,sl,k⟩:=hw
  refine wpAny_FormattedValue_repr (thn (h ρ _ h1 pins s σ H (fun v H'=>v=.str x/\∃Hf',Grow H Hf H' Hf') I ⟨H0,Hf,sm,sl,fun v H' Hf' g r=>⟨r,Hf',g⟩⟩) fun v s1 ⟨v',H1,I1,r1,e1,Hf1,g1⟩=>?_)
  subst e1
  obtain⟨t,rfl⟩:=(show ∃t,v=Value.str x t from r1)
  refine wpAny_pyReprObj_str ?_ ln
  exact wpAny_formatField_str ⟨.str (reprText x),H1,I1.tok _,⟨_,rfl⟩,k _ H1 Hf1 g1 rfl⟩ ⟨.str (reprText x),H1,(I1.tok _).tok _,⟨_,rfl⟩,k _ H1 Hf1 g1 rfl⟩ ln
 | none=>cases h2
 | bool b=>cases h2
 | int i=>cases h2
 | tuple xs=>cases h2
 | list xs=>cases h2
 | dict xs=>cases h2
def ay0:Str->List DE->DE
 | acc,[]=>fun _=>some (.str acc)
 | acc,f::fs=>fun ρ=>(f ρ).bind fun d=>match d with
  | .str y=>if(acc++y).length<=16777216 then ay0 (acc++y) fs ρ else none
  | _=>none
inductive JEs (X:Cx):List Expr->List DE->Prop
 | nil:JEs X [] []
 | cons {e:Expr}{es:List Expr}{f:DE}{fs:List DE}:JE X e f->JEs X es fs->JEs X (e::es) (f::fs)
theorem ai6:∀(ps:List (Sem Value)) (a:Str) (Q Q':Str->Shared->Prop) (s:Shared),(∀o s,Q o s->Q' o s)->Joins (model X.prog X.w) X.A X.xe ps a Q s->Joins (model X.prog X.w) X.A X.xe ps a Q' s
 | [],_,_,_,_,hq,z=>hq _ _ z
 | _::ps,_,Q,Q',_,hq,z=>thn z fun _ s1 ⟨y,t,e,c,z⟩=>⟨y,t,e,c,ai6 ps _ Q Q' s1 hq z⟩
theorem be5:∀(fs:List DE) (acc:Str) (ρ:Rho) (d:D),ay0 acc fs ρ=some d->acc.length<=16777216->∃x:Str,d=.str x/\x.length<=16777216
 | [],acc,ρ,d,q,l=>by cases q;exact⟨acc,rfl,l⟩
 | f::fs,acc,ρ,d,q,l=>by
  obtain⟨y,h1,h2⟩:=xbo q
  cases y<;>dsimp only at h2
  case str x =>
   split at h2
   ·rename_i c;exact be5 fs (acc++x) ρ d h2 c
   ·cases h2
  all_goals cases h2
theorem cl0{es:List Expr}{fs:List DE}(h:JEs X es fs):∀(acc:Str) (ρ:Rho) (d:D),ay0 acc fs ρ=some d->∀(pins:List (Addr×Obj)) (s:Shared) (σ:L2.St) (H0 H Hf:Hp),Inv X pins σ H s->G1 Hf H->Slots X.K H0 ρ σ H Hf ->
  Joins (model X.prog X.w) X.A X.xe (evalEach es X.env) acc (fun out s1=>d=.str out/\∃H1 Hf1,Inv X pins σ H1 s1/\Grow H Hf H1 Hf1) s:=by
 induction h with
 | nil =>
  intro acc ρ d q pins s σ H0 H Hf I sm sl
  cases q
  exact⟨rfl,H,Hf,I,Grow.refl sm⟩
 | @cons e es f fs he hs ih =>
  intro acc ρ d q pins s σ H0 H Hf I sm sl
  obtain⟨y,h1,h2⟩:=xbo q
  cases y with
  | str x =>
   dsimp only at h2
   split at h2
   case isFalse=>cases h2
   rename_i c
   refine thn (he ρ _ h1 pins s σ H (fun v H'=>v=.str x/\∃Hf',Grow H Hf H' Hf') I ⟨H0,Hf,sm,sl,fun v H' Hf' g r=>⟨r,Hf',g⟩⟩) fun v s1 ⟨v',H1,I1,r1,e1,Hf1,g1⟩=>?_
   subst e1
   obtain⟨t,rfl⟩:=(show ∃t,v=Value.str x t from r1)
   refine⟨x,t,rfl,c,?_⟩
   have z:=ih (acc++x) ρ d h2 pins s1 σ H0 H1 Hf1 I1 g1.sub (sl.grow g1)
   exact ai6 _ _ _ _ _ (fun o s ⟨z1,H2,Hf2,I2,g2⟩=>⟨z1,H2,Hf2,I2,g1.trans g2⟩) z
  | none=>cases h2
  | bool b=>cases h2
  | int i=>cases h2
  | tuple xs=>cases h2
  | list xs=>cases h2
  | dict xs=>cases h2
theorem cl5{e1 e2:Expr}{es:List Expr}{fs:List DE}{pos:Pos}(h:JEs X (e1::e2::es) fs):JE X (.JoinedStr (e1::e2::es) pos) (ay0 Str.empty fs):=fun ρ d q=>by
 intro pins s σ H Q I hw
 obtain⟨H0,Hf,sm,sl,k⟩:=hw
 obtain⟨x,rfl,lx⟩:=be5 fs _ ρ d q (by decide)
 refine wpAny_JoinedStr (ai6 _ _ _ _ _ (fun o s1 z=>?_) (cl0 h Str.empty ρ _ q pins s σ H0 H Hf I sm sl))
 obtain⟨e,H1,Hf1,I1,g1⟩:=z
 cases e
 exact⟨lx,.str x,H1,I1.tok _,⟨_,rfl⟩,k _ H1 Hf1 g1 rfl⟩
end
def ce8(X:Cx):Prop:=∀pins ρ1 C H0 Hf0 e s',Ou X true pins ρ1 C H0 Hf0 e s'->Lo X C H0 e s'
section
variable {X:Cx}
theorem bW6{P:Program}{w:World}{K:PySem.W.Frag}{mg:Str->Option Value}{base:Heap}{N:List Str}{qual:Str}{scope:Scope}{f:Addr}{cd:Value}{A:Around}{outer:List Env}{s:Shared}{H:Hp}{E:XK}:ce8 (cx1 P w K mg base N qual scope f cd A outer s H E).nox:=by
 intro pins ρ1 C H0 Hf0 e s' h
 obtain⟨σ1,H2,Hf2,s2,I2,a2,o⟩:=h
 have I3:Inv (cx1 P w K mg base N qual scope f cd A outer s H (EC C H0)) pins σ1 H2 s2:=(I2.unwish).wish (cx1 P w K mg base N qual scope f cd A outer s H (EC C H0)).xe
 rcases o with⟨_,h',a,vs',rfl,rfl,hm⟩|hc
 ·exact aP1 I3 hm ⟨rfl,a2.gr.big⟩
 ·exact bc2 I3 (CX1.mono hc fun cls H' q=>⟨q.1,a2.gr.big.trans q.2⟩)
end
def bq0(K:PySem.W.Frag) (x c:Str):Bool:=match clA K x,clA K c with
 | some C,some D=>(match K.lookup C with
  | some ⟨_,_,.cls cd,_⟩=>!cd.mro.contains (.ref D)
  | _=>false)
 | _,_=>false
def am4(x:Str) (ρ1:Rho):List (List Str×List Str×DS)->Option Fl
 | []=>none
 | (l,nl,g)::r=>if l.contains x then(match g ρ1 with
   | some (.rt d)=>some (.rt d)
   | _=>none) else if nl.contains x then am4 x ρ1 r else none
def aD3(r:RD) (f:DS) (cs:List (List Str×List Str×DS)):DS:=fun ρ=>match r ρ with
 | some (x,ρ1)=>am4 x ρ1 cs
 | none=>f ρ
inductive HvOk (X:Cx):List ExceptHandler->List (List Str×List Str×DS)->Prop
 | nil:HvOk X [] []
 | cons {y:Str}{np:Pos}{b0:Stmt}{suite:List Stmt}{hpos:Pos}{l nl:List Str}{g:DS}{T5:List ExceptHandler}{cs:List (List Str×List Str×DS)}(hg:Gl X y) (hm:∀D,clA X.K y=some D->X.mg y=some (.ref D)) (hd:(y==("__debug__" : Str))=false) (hc:o5 X.K y=true)
   (hl:∀x∈l,o5 X.K x=true/\bq1 X.K x y=true) (hn:∀x∈nl,o5 X.K x=true/\bq0 X.K x y=true) (hs:∀a:Addr,JSs (Cx.held X (.ref a)) (b0::suite) g) (hr:HvOk X T5 cs):HvOk X (.ExceptHandler (some (.Name y np)) none (b0::suite) hpos::T5) ((l,nl,g)::cs)
theorem by1{X:Cx}{hs:List ExceptHandler}{cs:List (List Str×List Str×DS)}(h:HvOk X hs cs) {x:Str}{ρ1:Rho}{fl:Fl}(q:am4 x ρ1 cs=some fl):o5 X.K x=true:=by
 cases h with
 | nil=>cases q
 | cons hg hm hd hc hl hn hs hr =>
  unfold am4 at q
  split at q
  ·rename_i c;exact(hl x (List.contains_iff_mem.mp c)).1
  ·split at q
   ·rename_i c;exact(hn x (List.contains_iff_mem.mp c)).1
   ·cases q
section
variable {X:Cx}
theorem bJ0{body:List Stmt}{h0:ExceptHandler}{hs:List ExceptHandler}{r:RD}{f:DS}{cs:List (List Str×List Str×DS)}{pos:Pos}(hx:∀e s,X.xe e s->False) (hst:X.stack=X.env::X.outer) (hfr:X.env.frame=some X.env.locals)
  (hb:JSs X body f) (hr:JRs X false body r) (hh:HvOk X (h0::hs) cs) :
  JS X (.Try body (h0::hs) [] [] pos) (aD3 r f cs):=by
 intro ρ fl q H0 Hf0 pins s σ H En I hw
 obtain⟨Hf,at_,ends⟩:=hw
 unfold aD3 at q
 split at q
 case h_2 =>
  refine wpAny_Try_except (noX hx (hb ρ fl q H0 Hf0 pins s σ H En I ⟨Hf,at_,ends⟩) fun f' s1 z=>?_)
  cases f' with
  | next=>exact wpAny_execs_nil z
  | ret v=>exact z
  | brk=>exact z
  | cont=>exact z
 rename_i x ρ1 er
 have hxb:=by1 hh q
 obtain⟨C,hC⟩:∃C,clA X.K x=some C:=by
  unfold o5 at hxb
  cases e:clA X.K x with
  | none=>rw[e]at hxb;cases hxb
  | some C=>exact⟨C,rfl⟩
 have qC:PySem.W.excIn X.K C veB "ValueError.__new__" = true:=by unfold o5 at hxb;rw[hC]at hxb;exact hxb
 obtain⟨nm,qn,N,bs,bm,hd',sn,sub,ab,col,dd,k0,k1,k2,k3,k5,mN,c1,c2,c3,c4⟩:=aX4 I.mod.kin qC
 refine wpAny_Try_except (wpAny_mono (hr ρ x ρ1 C er hC H0 Hf0 pins s σ H Hf I at_) (fun _ _ z=>z.elim) fun ex s1 ho=>?_)
 rcases ho with ho|⟨z,_⟩
 case inr=>cases z
 obtain⟨σ1,H1,Hf1,s0,I1,a1,o⟩:=ho
 rcases o with⟨z,_⟩|hc
 ·cases z
 obtain⟨a,C',g,B,H',rfl,os,bare,un,hok,F,cE,sm⟩:=hc
 cases cE
 obtain⟨t,fl0⟩:=F.fly
 have nx:∀b:Addr,b∉([]:List Addr):=fun b z=>absurd z (by simp)
 have J:Inv X pins σ1 H' { s1 with heap:=g }:=I1.call' (s':={ s1 with heap:=g }) (ch:=[]) os un hok bare (fun b z=>absurd z (nx b))
 have key:∀h'':Heap,B.StaysIn h''->s1.heap.UpToSlots h''->Inv X pins σ1 H' { s1 with heap:=h'' }:=fun h'' k1 k2=>by
  refine bL8 (s':={ s1 with heap:=h'' }) I1 os bare un hok F.keep k1 fun b o e m=>?_
  obtain⟨z,e2⟩:=F.sl b o e m
  obtain⟨_,o',e',hd⟩:=J.stack.mem m
  have e':g.get? b=some o':=e'
  rw[e]at e';cases e'
  obtain⟨z2,q⟩:=k2 b _ e2 hd
  exact⟨z2,q⟩
 rw[hst]at fl0
 refine wpAny_looks_onW (outer:=X.outer) (by rw[← hst];exact I.ok.frames) hfr fl0 fun h4 held4 up4=>?_
 refine wpAny_landsW held4 fun h5 fl5 up5=>?_
 have I5:=key h5 fl5.1 (up4.trans up5)
 obtain⟨ob,hob,hobc⟩:=fl5.there
 have gr:Grow H1 Hf1 H' Hf1:=⟨sm,fun b u e=>sm b u (a1.gr.sub b u e),G1.refl _,fun b z=>.inl z⟩
 have a7:=a1.grow gr
 clear er hr
 generalize h0::hs=hs' at hh ⊢
 induction hh with
 | nil=>cases q
 | @cons y np b0 suite hpos l nl gd T5 cs hg hm hd hc hl hn hsu hre ih =>
  obtain⟨D,hD⟩:∃D,clA X.K y=some D:=by
   unfold o5 at hc
   cases e:clA X.K y with
   | none=>rw[e]at hc;cases hc
   | some C=>exact⟨C,rfl⟩
  have qD:PySem.W.excIn X.K D veB "ValueError.__new__" = true:=by unfold o5 at hc;rw[hD]at hc;exact hc
  obtain⟨nm',qn',N',bs',bm',hd'',sn',sub',ab',col',dd',j0,j1,j2,j3,j5,mN',d1,d2,d3,d4⟩:=aX4 I.mod.kin qD
  refine wpAny_handleBy_cons (codeAny_handlers_test (ag0 (Inv.held I5 (.ref a)) hg (hm D hD) ?_ hd)) (by intro q;cases q)
  refine cq5 (I5.bk _ _ c1) (I5.bk _ _ d1) hob hobc (d4.hasType (by decide)) ?_
  unfold am4 at q
  split at q
  ·rename_i cx
   obtain⟨d,hdd,rfl⟩:∃d,gd ρ1=some (.rt d)/\fl=.rt d:=by
    split at q
    ·rename_i d e;cases q;exact⟨d,e,rfl⟩
    ·cases q
   have hsb:=(hl x (List.contains_iff_mem.mp cx)).2
   have hin:(Value.ref C::bm).contains (.ref D)=true:=by
    unfold bq1 at hsb
    rw[hC,hD]at hsb
    dsimp only at hsb
    split at hsb
    ·rename_i lk
     have z:=I.mod.kin _ _ lk
     rw[c1]at z
     cases z
     exact hsb
    ·cases hsb
   rw[hin]
   refine codeAny_handlers_suite (lands_againW fl5 fun h6 fl6 up6=>?_)
   have I6:=key h6 fl6.1 ((up4.trans up5).trans up6)
   refine wpAny_mono (hsu a _ _ hdd H0 Hf0 pins _ _ _ { nx:=fun _ _=>False,rt:=fun v H'=>∃Hf',Grow H0 Hf0 H' Hf'/\Rep X.K Hf' d v } (Inv.held I6 (.ref a)) ⟨_,a7,fun v H' Hf' g r=>⟨Hf',g,r⟩⟩) (fun fl' s9 z=>?_) fun e s z=>(hx e s z).elim
   cases fl' with
   | next=>obtain⟨_,_,_,z⟩:=z;exact z.elim
   | brk=>obtain⟨_,_,_,z⟩:=z;exact z.elim
   | cont=>obtain⟨_,_,_,z⟩:=z;exact z.elim
   | ret u =>
   obtain⟨v,σ9,H9,I9,rv,Hf9,g9,rp⟩:=z
   exact⟨v,σ9,H9,Inv.unheld I9 I.ok,rv,ends v H9 Hf9 g9 rp⟩
  ·split at q
   ·rename_i _ cx
    have hsb:=(hn x (List.contains_iff_mem.mp cx)).2
    have hin:(Value.ref C::bm).contains (.ref D)=false:=by
     unfold bq0 at hsb
     rw[hC,hD]at hsb
     dsimp only at hsb
     split at hsb
     ·rename_i lk
      have z:=I.mod.kin _ _ lk
      rw[c1]at z
      cases z
      simpa using hsb
     ·cases hsb
    rw[hin]
    exact ih q
   ·cases q
end
def aK7(Fs:List (List D->Option D)) (i:DE) (g:Rho->Option (List D)):DE:=fun ρ=>(i ρ).bind fun k=>(Z7 k).bind fun k=>(atI Fs k).bind fun F=>(g ρ).bind F
def aH9(Rs:List (List D->Option Str)) (i:DE) (g:Rho->Option (List D)):RD:=fun ρ=>(i ρ).bind fun k=>(Z7 k).bind fun k=>(atI Rs k).bind fun R=>(g ρ).bind fun ds=>(R ds).map fun x=>(x,ρ)
section
variable {X:Cx}
def bC0(X:Cx) (e:Expr) (a:Addr):Prop:=∃x p,e=.Name x p/\Gl X x/\X.mg x=some (.ref a)/\(x==("__debug__" : Str))=false
theorem aO0:∀{es:List Expr}{as:List Addr},Paired (bC0 X) es as->PA X es (fun _ H Q=>Q (as.map V.ref) H)
 | _,_,.nil=>fun pos pins s σ H Q I h=>R6 pos pins s σ H Q I h
 | _,_,.cons ⟨x,p,e,hg,hm,hd⟩ r=>by
  subst e
  exact fun pos pins s σ H Q I h=>L4 (bb9 (v:=.ref _) hg hm rfl hd) (aO0 r) rfl pos pins s σ H Q I h
theorem bc0{es:List Expr}{as:List Addr}{b:Expr}{i:DE}{p1 p2:Pos}(hn:Paired (bC0 X) es as) (hb:JE X b i) (hs:ab9 b) (hl:as.length<=1000) {ρ:Rho}{k:Int}{f:Addr}(hi:i ρ=some (.int k)) (ha:atI as k=some f):PE X (.Subscript (.List es p1) b p2) (tJ X.K ρ fun _ v _ _=>v=.ref f):=by
 refine C6 (bs6 bd8 (bs5 (aO0 hn)) (hb ρ _ hi) hs) fun σ H Q ⟨H0,Hf,s,sl,kk⟩=>?_
 refine⟨by rw[List.length_map];exact Nat.le_trans hl (by rw[sizeLine_eq];decide),fun p hp=>?_⟩
 have g1:=Grow.made (o:=.lst (as.map V.ref)) s hp
 refine⟨H0,Hf,g1.sub,sl.grow g1,fun v H2 Hf2 g2 r2=>?_⟩
 refine⟨p,as.map V.ref,k,.ref f,rfl,r2,.inl (Rd.of (g2.big _ _ C5)),?_,kk _ H2 Hf2 (g1.trans g2) rfl⟩
 obtain⟨j,e1,e2⟩:=xbo ha
 unfold atI
 rw[List.length_map,e1,xbs,List.getElem?_map,e2]
 rfl
def cn1(X:Cx) (n:Nat) (a:Addr) (F:List D->Option D):Prop:=∃(k:Nat) (fd:FuncData) (ps:List Str),FnOk X.prog X.w X.K X.mg X.base CX0 k a fd ps (spF X.K n F)/\Room k X.A/\PySem.W.keepIn X.K (.ref a)=true/\T8 X.K fd ps []
def cm8(X:Cx) (n:Nat) (a:Addr) (R:List D->Option Str):Prop:=∃(k:Nat) (fd:FuncData) (ps:List Str),FnOk X.prog X.w X.K X.mg X.base (CX1 X.prog X.w) k a fd ps (spR X.K n R)/\Room k X.A/\PySem.W.keepIn X.K (.ref a)=true/\T8 X.K fd ps []
theorem aD6{α β:Type}{P:α->β->Prop}{as:List α}{bs:List β}(h:Paired P as bs) {k:Int}{b:β}(e:atI bs k=some b):∃a,atI as k=some a/\P a b:=by
 have hl:=h.length
 obtain⟨j,e1,e2⟩:=xbo e
 have get:∀{as:List α}{bs:List β}(j:Nat),Paired P as bs->bs[j]? = some b->∃a,as[j]? = some a/\P a b:=by
  intro as bs j h
  induction h generalizing j with
  | nil=>intro e;cases e
  | cons p r ih =>
   intro e
   cases j with
   | zero=>rw[xg0]at e;cases e;exact⟨_,rfl,p⟩
   | succ j=>rw[xg1]at e;exact ih j e
 obtain⟨a,e3,p⟩:=get j h e2
 exact⟨a,by unfold atI;rw[hl,e1,xbs,e3],p⟩
theorem bx2{es:List Expr}{as:List Addr}{Fs:List (List D->Option D)}{b e:Expr}{i:DE}{args:List Expr}{n:Nat}{g:Rho->Option (List D)}{p1 p2 pos:Pos}(hn:Paired (bC0 X) es as) (hF:Paired (cn1 X n) as Fs) (hb:JE X b i) (hs:ab9 b) (hl:as.length<=1000) (ha:JA X (e::args) g) (hln:(e::args).length=n)
  (he:starEach (e::args) X.env=(false,eval e X.env)::starEach args X.env) (hpl:(backTo pos (starEach args X.env)).any (·.1)=false):JE X (.Call (.Subscript (.List es p1) b p2) (e::args) [] pos) (aK7 Fs i g):=fun ρ d q=>by
 obtain⟨k0,h1,q⟩:=xbo q
 obtain⟨k,h2,q⟩:=xbo q
 obtain⟨F,h3,q⟩:=xbo q
 obtain⟨ds,h4,h5⟩:=xbo q
 have e0:k0=.int k:=by
  unfold Z7 at h2
  split at h2
  ·cases h2;rfl
  ·cases h2
 subst e0
 obtain⟨f,h6,kk,fd,ps,Fk,hr,hk,hbd⟩:=aD6 hF h3
 intro pins s σ H Q I ⟨H0,Hf,ss,sl,kq⟩
 show wpAny _ _ (eval (.Subscript (.List es p1) b p2) X.env >>= fun f=>callWith pos f [] (backTo pos (starEach (e::args) X.env)) []) _ _ _
 refine wpAny_bind (thn (bc0 hn hb hs hl h1 h6 pins s σ H (fun v H'=>v=.ref f/\∃Hf',Grow H Hf H' Hf') I ⟨H0,Hf,ss,sl,fun v H' Hf' gr e=>⟨e,Hf',gr⟩⟩) fun u s1 ⟨v,H1,I1,rv,ev,Hf1,gr⟩=>?_)
 subst ev
 cases rv
 refine PySem.W.callWith_K (h₀:=X.base) I.ok.mod.kin hk (thn (ha.run ρ ds h4 pos pins s1 σ H1 (fun vs H'=>spF X.K n F (vs++[]) H' Q E0) I1 ⟨H0,Hf1,gr.sub,sl.grow gr,fun vs H2 Hf2 g2 r2=>?_⟩) fun us s2 ⟨vs,H2,I2,r,q⟩=>⟨I2.kIn,aV1 Fk hr hbd .nil bs9 I2 r q⟩) he hpl
 exact⟨by rw[List.append_nil,r2.length,ha.len ρ ds h4,hln],Hf2,ds,d,g2.sub,by rw[List.append_nil];exact r2,h5,fun v H3 Hf3 g3 r3=>kq v H3 Hf3 ((gr.trans g2).trans g3) r3⟩
theorem br4{m:Bool}{es:List Expr}{as:List Addr}{Rs:List (List D->Option Str)}{b e:Expr}{i:DE}{args:List Expr}{n:Nat}{g:Rho->Option (List D)}{p1 p2 pos:Pos}(hx:∀e s,X.xe e s->False) (hn:Paired (bC0 X) es as) (hF:Paired (cm8 X n) as Rs) (hb:JE X b i) (hs:ab9 b) (hl:as.length<=1000) (ha:JA X (e::args) g) (hln:(e::args).length=n)
  (he:starEach (e::args) X.env=(false,eval e X.env)::starEach args X.env) (hpl:(backTo pos (starEach args X.env)).any (·.1)=false):PX X m (.Call (.Subscript (.List es p1) b p2) (e::args) [] pos) (aH9 Rs i g):=by
 intro ρ y ρ1 C q hC H0 Hf0 pins s σ H Hf I at_
 obtain⟨k0,h1,q⟩:=xbo q
 obtain⟨k,h2,q⟩:=xbo q
 obtain⟨R,h3,q⟩:=xbo q
 obtain⟨ds,h4,q⟩:=xbo q
 obtain⟨y',h5,q⟩:=xmo q
 cases q
 have e0:k0=.int k:=by
  unfold Z7 at h2
  split at h2
  ·cases h2;rfl
  ·cases h2
 subst e0
 obtain⟨f,h6,kk,fd,ps,Fk,hr,hk,hbd⟩:=aD6 hF h3
 show wpAny _ _ (eval (.Subscript (.List es p1) b p2) X.env >>= fun f=>callWith pos f [] (backTo pos (starEach (e::args) X.env)) []) _ _ _
 refine wpAny_bind (noX hx (bc0 hn hb hs hl h1 h6 pins s σ H (fun v H'=>v=.ref f/\∃Hf',Grow H Hf H' Hf') I ⟨H0,Hf,at_.gr.sub,at_.sl,fun v H' Hf' gr e=>⟨e,Hf',gr⟩⟩) fun u s0 ⟨v,H2,I2,rv,ev,Hf2,gr⟩=>?_)
 subst ev
 cases rv
 have at2:=at_.grow gr
 refine PySem.W.callWith_K (h₀:=X.base) I.ok.mod.kin hk (noX hx (ha.run ρ ds h4 pos pins s0 σ H2 (fun vs H'=>∃Hf',At X.K H0 Hf0 ρ σ H' Hf'/\Reps X.K Hf' ds vs) I2 ⟨H0,Hf2,at2.gr.sub,at2.sl,fun vs H1 Hf1 g1 r1=>⟨Hf1,at2.grow g1,r1⟩⟩) fun us s1 ⟨vs,H1,I1,r,Hf1,a1,rp⟩=>⟨I1.kIn,?_⟩) he hpl
 have hl1:vs.length=n:=by rw[rp.length,ha.len ρ ds h4,hln]
 have sp:spR X.K n R vs H1 (fun _ _=>False) (EC C H1):=⟨hl1,Hf1,ds,y,C,a1.gr.sub,rp,h5,hC,fun H' sm=>⟨rfl,sm⟩⟩
 have hl2:us.length=ps.length:=by rw[← r.length];exact Fk.len vs H1 (fun _ _=>False) (EC C H1) sp
 have bd:BindsTo s1 fd ⟨us,[]⟩ (ps.zip us):=by
  have:=hbd s1 us I1.kIn (by rw[List.append_nil];exact hl2)
  rwa [List.append_nil]at this
 refine wpAny_call (codeAny_mono (Fk.run X.A X.stack s1 H1 ⟨us,[]⟩ us vs (fun _ _=>False) (EC C H1) hr I1.env0 bd r sp) fun rs s' hq=>?_)
 cases rs with
 | error e=>exact .inl ⟨σ,H1,Hf1,s1,I1,a1,.inr hq⟩
 | ok fl =>
  cases fl with
  | ret u=>obtain⟨_,_,_,_,_,_,_,z⟩:=hq;exact z.elim
  | next=>exact False.elim hq
  | brk=>exact False.elim hq
  | cont=>exact False.elim hq
end
structure RoomQ (k:Nat) (A:Around):Prop where
 dp:A.depth+3*k+5 < recursionLimit
 un:A.units+16*k+200 < cLine
structure FnQ (P:Program) (w:World) (K:PySem.W.Frag) (mg:Str->Option Value) (base:Heap) (k:Nat) (f:Addr) (fd:FuncData) (ps:List Str) (sp:Sp):Prop where
 len:∀vs H Q E,sp vs H Q E->vs.length=ps.length
 run:∀(A:Around) (outer:List Env) (s:Shared) (H:Hp) (args:Args) (us:List Value) (vs:List V) (Q:VK),RoomQ k A->Env0 P w K mg base A outer s H->BindsTo s fd args (ps.zip us)->K1 vs us->sp vs H Q E0->codeAny (model P w) A (.call (.ref f) args) (CR CX0 outer P w H s Q E0) s
theorem FnQ.mono{P:Program}{w:World}{K:PySem.W.Frag}{mg:Str->Option Value}{base:Heap}{j k:Nat}{f:Addr}{fd:FuncData}{ps:List Str}{sp:Sp}(F:FnQ P w K mg base j f fd ps sp) (h:j<=k):FnQ P w K mg base k f fd ps sp :=
 ⟨F.len,fun A outer s H args us vs Q hr=>F.run A outer s H args us vs Q ⟨by have:=hr.dp;omega,by have:=hr.un;omega⟩⟩
def spX(K:PySem.W.Frag) (F:Str->Option D):Sp:=fun vs H Q _=>∃Hf x v d,vs=[v]/\G1 Hf H/\SB K H H Hf (.exc x) v/\F x=some d/\∀u H' Hf',Grow H Hf H' Hf'->Rep K Hf' d u->Q u H'
section
variable {X:Cx}
end
abbrev bB9:=List (Str×(Str->Option D))
abbrev aC3:=List (Str×(List D->Option Str)×Nat)
structure Rg where
 rf:aC3
 cl:List Str
 tb:List (Str×List (Str×Bool))
 sb:List (Str×List Str)
 nb:List (Str×List Str)
 xf:bB9
structure FitR (S:Sg) (T:Rg) (c:Kx) (X:Cx):Prop where
 fit:Fit S c X
 ns:∀x C,clA X.K x=some C->X.mg x=some (.ref C)
 rfs:∀x R n,T.rf.lookup x=some (R,n)->∃(k:Nat) (f:Addr) (fd:FuncData) (ps:List Str),FnOk X.prog X.w X.K X.mg X.base (CX1 X.prog X.w) k f fd ps (spR X.K n R)/\Room k X.A/\X.mg x=some (.ref f)/\PySem.W.keepIn X.K (.ref f)=true/\T8 X.K fd ps []
 cls:∀x,T.cl.contains x=true->o5 X.K x=true
 tbs:∀y l,T.tb.lookup y=some l->(∃D,clA X.K y=some D/\aS8 X.K (.ref D) fun x=>l.lookup x)\/(y = "ValueError" /\ X.mg y=none/\aS8 X.K (.type "ValueError") fun x=>l.lookup x)
 sbs:∀y l,T.sb.lookup y=some l->o5 X.K y=true/\∀x∈l,o5 X.K x=true/\bq1 X.K x y=true
 nbs:∀y l,T.nb.lookup y=some l->∀x∈l,o5 X.K x=true/\bq0 X.K x y=true
 xfs:∀x F,T.xf.lookup x=some F->∃(k:Nat) (f:Addr) (fd:FuncData) (ps:List Str),FnQ X.prog X.w X.K X.mg X.base k f fd ps (spX X.K F)/\RoomQ k X.A/\X.mg x=some (.ref f)/\PySem.W.keepIn X.K (.ref f)=true/\T8 X.K fd ps []
section
variable (S:Sg) (T:Rg)
def fsP(c:Kx) (e:Expr):DE:=match e with
 | .FormattedValue v k sp _=>if k==114 then(match sp with
  | none=>dRp ((ev S 99).e c v)
  | some _=>dNo) else dNo
 | .Constant k _ _=>xCn k
 | _=>dNo
def msE(c:Kx) (e:Expr):DE:=match e with
 | .JoinedStr (e1::e2::es) _=>ay0 Str.empty ((e1::e2::es).map (fsP S c))
 | _=>(ev S 99).e c e
def fnL(c:Kx) (n:Nat):List Expr->Option (List (FnD×(List D->Option Str)))
 | []=>some []
 | .Name x _::es=>(match S.fn.lookup x,T.rf.lookup x with
  | some (F,m),some (R,m')=>if aA4 c.sc x&&m==n&&m'==n then(fnL c n es).map fun r=>(F,R)::r else none
  | _,_=>none)
 | _::_=>none
def lsF(f:Expr):Option (List Expr×Expr):=match f with
 | .Subscript l i _=>(match l with
  | .List fs _=>some (fs,i)
  | _=>none)
 | _=>none
def xvL(c:Kx) (f a:Expr) (args:List Expr):DE:=match lsF f with
 | some (fs,i)=>(match fnL S T c (a::args).length fs with
  | some l=>if pl i&&fs.length<=1000&&(a::args).all pl then aK7 (l.map (·.1)) ((ev S 99).e c i) (evA ((ev S 99).e c) (a::args)) else dNo
  | none=>dNo)
 | none=>dNo
def xvE(c:Kx) (e:Expr):DE:=match e with
 | .Call f as kw _=>if(lsF f).isSome then(match as,kw with
  | a::args,[]=>xvL S T c f a args
  | _,_=>dNo) else(ev S 99).e c e
 | _=>(ev S 99).e c e
def xvS(c:Kx) (st:Stmt):DS:=match st with
 | .Return o _=>(match o with
  | some e=>A9 (xvE S T c e)
  | none=>C8)
 | _=>xS S (ev S 99) c st
def rvN(c:Kx) (f a:Expr) (args:List Expr):RD:=match f with
 | .Name x _=>(match T.rf.lookup x with
  | some (R,n)=>if aA4 c.sc x&&(a::args).length==n&&(a::args).all pl then ae1 R (evA ((ev S 99).e c) (a::args)) else rNo
  | none=>rNo)
 | _=>rNo
def ch4(c:Kx) (f a:Expr) (args:List Expr):RD:=match lsF f with
 | some (fs,i)=>(match fnL S T c (a::args).length fs with
  | some l=>if pl i&&fs.length<=1000&&(a::args).all pl then aH9 (l.map (·.2)) ((ev S 99).e c i) (evA ((ev S 99).e c) (a::args)) else rNo
  | none=>rNo)
 | none=>rvN S T c f a args
def rvE(c:Kx) (e:Expr):RD:=match e with
 | .Call f as kw _=>(match as,kw with
  | a::args,[]=>ch4 S T c f a args
  | _,_=>rNo)
 | _=>rNo
def rvL(f:Stmt->RD) (c:Kx):List Stmt->RD
 | []=>rNo
 | [s]=>f s
 | s::t::r=>k4 (f s) (xS S (ev S 99) c s) (rvL f c (t::r))
def rvR(mk:Bool) (c:Kx) (a b:Option Expr):RD:=match a,b with
 | some e,none=>(match e with
  | .Call f as kw _=>(match f with
   | .Name x _=>(match as,kw with
    | [e],[]=>if mk&&T.cl.contains x&&aA4 c.sc x&&pl e then aa8 x (msE S c e) else rNo
    | _,_=>rNo)
   | _=>rNo)
  | _=>rNo)
 | _,_=>rNo
def rvX(c:Kx) (e:Expr):RD:=match e with
 | .Call f as kw q=>rvE S T c (.Call f as kw q)
 | _=>rNo
def rvA(c:Kx) (v:Expr):List Expr->RD
 | [t]=>(match t with
  | .Name _ _=>rvX S T c v
  | _=>rNo)
 | _=>rNo
def rvS(mk:Bool):Nat->Kx->Stmt->RD
 | 0,_,_=>rNo
 | n+1,c,st=>match st with
  | .Raise a b _=>rvR S T mk c a b
  | .If t a b _=>rIf ((ev S 99).t c t) (rvL S (rvS mk n c) c a) (rvL S (rvS mk n c) c b)
  | .Expr e _=>rvX S T c e
  | .Return o _=>(match o with
   | some e=>rvE S T c e
   | none=>rNo)
  | .Assign ts v _=>rvA S T c v ts
  | _=>rNo
def rvB(mk:Bool) (c:Kx) (sts:List Stmt):RD:=rvL S (rvS S T mk 9 c) c sts
def zvI(c:Kx) (w:Str) (a b:Expr):DE:=match a with
 | .Name x _=>(match b with
  | .Name y _=>if biB S c "isinstance" w&&aH0 c.sc x&&aA4 c.sc y then(match ab3 x c.N,T.tb.lookup y with
   | some i,some l=>cr3 i fun x=>l.lookup x
   | _,_=>dNo) else dNo
  | _=>dNo)
 | _=>dNo
def zvE(c:Kx):Nat->Expr->DE
 | 0,_=>dNo
 | n+1,ex=>match ex with
  | .Call f as kw cpos=>(match kw with
   | []=>(match f with
    | .Name w _=>(match as with
     | [a,b]=>zvI S T c w a b
     | _=>dNo)
    | _=>dNo)
   | _=>dNo)
  | .Constant k _ _=>xCn k
  | .Name x _=>(match ab3 x c.N with
   | some i=>if aH0 c.sc x then A1 i else dNo
   | none=>dNo)
  | .Tuple es _ _=>if es.length<=1000 then O1 (evA (zvE c n) es) else dNo
  | .List es _=>if es.length<=1000 then W0 (evA (zvE c n) es) else dNo
  | .UnaryOp op a _=>(match op with
   | .USub=>bm4 (zvE c n a)
   | .Not=>ae9 (zvE c n a)
   | _=>dNo)
  | .BinOp a op b _=>(match op with
   | .Add=>A5 B1 (zvE c n a) (zvE c n b)
   | _=>dNo)
  | .Compare a ops bs _=>(match ops,bs with
   | [op],[b]=>if pl b then A5 (aR8 op) (zvE c n a) (zvE c n b) else dNo
   | _,_=>dNo)
  | .BoolOp op vs _=>bj5 (zvE c n) op vs
  | _=>dNo
def zvA(c:Kx) (d:DE) (v:Expr):List Expr->DS
 | [t]=>(match t with
  | .Name x _=>(match ab3 x c.N with
   | some i=>if bi9 c x && !(isC v) then B2 i d else C8
   | none=>C8)
  | _=>C8)
 | _=>C8
def hvE(c:Kx) (ex:Expr):DE:=(fun(_:Sg) (_:Rg)=>match ex with
 | .Name x _=>(match ab3 x c.N with
  | some i=>if aH0 c.sc x then A1 i else dNo
  | none=>dNo)
 | _=>dNo) S T
def hvS(c:Kx) (st:Stmt):DS:=match st with
 | .Assign ts v _=>zvA c (hvE S T c v) v ts
 | .Return o _=>(match o with
  | some e=>A9 (hvE S T c e)
  | none=>C8)
 | _=>C8
def hnd:ExceptHandler->Option (Str×Option Str×Stmt×List Stmt)
 | .ExceptHandler t nm su _=>(match t with
  | some e=>(match e with
   | .Name y _=>(match su with
    | b0::suite=>some (y,nm,b0,suite)
    | []=>none)
   | _=>none)
  | none=>none)
def hc1(c:Kx) (h:ExceptHandler):Option (List Str×List Str×DS):=match hnd h with
 | some (y,none,b0,suite)=>(match T.sb.lookup y,T.nb.lookup y with
  | some l,some nl=>if aA4 c.sc y then some (l,nl,evB (hvS S T c) (b0::suite)) else none
  | _,_=>none)
 | _=>none
def hcL(c:Kx):List ExceptHandler->Option (List (List Str×List Str×DS))
 | []=>some []
 | h::hs=>(hc1 S T c h).bind fun x=>(hcL c hs).map fun r=>x::r
def tvH(c:Kx) (body:List Stmt):List ExceptHandler->DS
 | []=>C8
 | h0::hs=>(match hcL S T c (h0::hs) with
  | some cs=>aD3 (rvB S T false c body) (evB (xvS S T c) body) cs
  | none=>C8)
def tvS(c:Kx) (st:Stmt):DS:=match st with
 | .Try body hs oe fi _=>(match oe,fi with
  | [],[]=>tvH S T c body hs
  | _,_=>C8)
 | _=>xS S (ev S 99) c st
def rdT(tab:Tab) (cs:List (Str×D)) (bl:List Str) (T:Rg) (d:Fd):FnD:=C3 (evB (tvS ⟨tab,cs,bl⟩ T d.c) (S7 d.st)) d.N.length
def rdR(tab:Tab) (cs:List (Str×D)) (bl:List Str) (T:Rg) (d:Fd):List D->Option Str:=as4 (rvB ⟨tab,cs,bl⟩ T true d.c (S7 d.st)) d.N.length
end
section
variable {S:Sg}{T:Rg}{c:Kx}{X:Cx}
theorem cc5(F:Fit S c X) (e:Expr):JE X e (fsP S c e):=by
 unfold fsP
 split
 ·split
  ·rename_i h
   simp only[beq_iff_eq]at h
   subst h
   split
   ·exact cl2 ((k8 S 99).e F _)
   ·exact K6
  ·exact K6
 ·exact bo2 _ _ _
 ·exact K6
theorem bd6(F:Fit S c X):∀es:List Expr,JEs X es (es.map (fsP S c))
 | []=>.nil
 | e::es=>.cons (cc5 F e) (bd6 F es)
theorem bW2(F:Fit S c X) (e:Expr):JE X e (msE S c e):=by
 unfold msE
 split
 ·exact cl5 (bd6 F _)
 ·exact(k8 S 99).e F e
theorem aX2(F:FitR S T c X) {n:Nat}:∀{es:List Expr}{l:List (FnD×(List D->Option Str))},fnL S T c n es=some l->∃as:List Addr,Paired (bC0 X) es as/\Paired (cn1 X n) as (l.map (·.1))/\Paired (cm8 X n) as (l.map (·.2))/\as.length=es.length
 | [],l,h=>by cases h;exact⟨[],.nil,.nil,.nil,rfl⟩
 | e::es,l,h=>by
  unfold fnL at h
  split at h
  ·rename_i e0;cases e0
  ·rename_i x p es' e0
   cases e0
   split at h
   ·rename_i G m R m' h1 h2
    split at h
    ·rename_i hc
     simp only[Bool.and_eq_true,beq_iff_eq]at hc
     obtain⟨⟨hg,rfl⟩,rfl⟩:=hc
     obtain⟨r,h3,h4⟩:=xmo h
     subst h4
     obtain⟨as,p1,p2,p3,p4⟩:=aX2 F h3
     obtain⟨g1,g2⟩:=ab5 F.fit hg
     obtain⟨k,f,fd,ps,hk,hr,hm,hkp,hb⟩:=F.rfs _ _ _ h2
     rcases F.fit.fns _ _ _ h1 with⟨k',f',fd',ps',hk',hr',hm',hkp',hb'⟩|⟨z,_⟩
     ·rw[hm]at hm'
      cases hm'
      exact⟨f::as,.cons ⟨x,p,rfl,g1,hm,g2⟩ p1,.cons ⟨k',fd',ps',hk',hr',hkp',hb'⟩ p2,.cons ⟨k,fd,ps,hk,hr,hkp,hb⟩ p3,by rw[List.length_cons,List.length_cons,p4]⟩
     ·rw[hm]at z;cases z
    ·cases h
   ·cases h
  ·cases h
theorem bu9{f:Expr}{fs:List Expr}{i:Expr}(h:lsF f=some (fs,i)):∃p1 p2,f=.Subscript (.List fs p1) i p2:=by
 unfold lsF at h
 split at h
 ·split at h
  ·cases h;exact⟨_,_,rfl⟩
  ·cases h
 ·cases h
theorem bP8(F:FitR S T c X) (f a:Expr) (args:List Expr) (pos:Pos):JE X (.Call f (a::args) [] pos) (xvL S T c f a args):=by
 unfold xvL
 split
 ·rename_i fs i e
  obtain⟨p1,p2,rfl⟩:=bu9 e
  split
  ·rename_i hl
   split
   ·rename_i h
    simp only[Bool.and_eq_true,decide_eq_true_eq]at h
    obtain⟨⟨h1,h2⟩,hp⟩:=h
    obtain⟨as,q1,q2,_,q4⟩:=aX2 F hl
    simp only[List.all_cons,Bool.and_eq_true]at hp
    exact bx2 q1 q2 ((k8 S 99).e F.fit _) (bb6 h1) (by rw[q4];exact h2) (am0 ((k8 S 99).e F.fit) (_::_)) rfl (L3 hp.1 _ _) ((v9 pos _).trans (X3 pos _ hp.2))
   ·exact K6
  ·exact K6
 ·exact K6
theorem bP9(F:FitR S T c X) (e:Expr):JE X e (xvE S T c e):=by
 unfold xvE
 split
 ·split
  ·split
   ·exact bP8 F _ _ _ _
   ·exact K6
  ·exact(k8 S 99).e F.fit _
 ·exact(k8 S 99).e F.fit e
theorem bP7(F:FitR S T c X) (st:Stmt):JS X st (xvS S T c st):=by
 unfold xvS
 split
 ·split
  ·exact aW8 (bP9 F _)
  ·exact B9
 ·exact ba4 (k8 S 99) F.fit st
theorem av9{m:Bool}{e:Expr}:PX X m e rNo:=fun ρ x ρ1 C q=>by cases q
theorem aV0{m:Bool}(F:FitR S T c X) (e:Expr):PX X m e (rvE S T c e):=by
 unfold rvE
 split
 ·rename_i f as kw pos
  split
  ·rename_i a args
   unfold ch4
   split
   ·rename_i fs i e
    obtain⟨p1,p2,rfl⟩:=bu9 e
    split
    ·rename_i hl
     split
     ·rename_i h
      simp only[Bool.and_eq_true,decide_eq_true_eq]at h
      obtain⟨⟨h1,h2⟩,hp⟩:=h
      obtain⟨as,q1,_,q3,q4⟩:=aX2 F hl
      simp only[List.all_cons,Bool.and_eq_true]at hp
      exact br4 F.fit.hx q1 q3 ((k8 S 99).e F.fit _) (bb6 h1) (by rw[q4];exact h2) (am0 ((k8 S 99).e F.fit) (_::_)) rfl (L3 hp.1 _ _) ((v9 pos _).trans (X3 pos _ hp.2))
     ·exact av9
    ·exact av9
   ·unfold rvN
    split
    ·rename_i x p
     split
     ·rename_i R n hl
      split
      ·rename_i h
       simp only[Bool.and_eq_true,beq_iff_eq]at h
       obtain⟨⟨hg,hn⟩,hp⟩:=h
       obtain⟨g1,g2⟩:=ab5 F.fit hg
       obtain⟨k,f,fd,ps,hk,hr,hm,hkp,hb⟩:=F.rfs _ _ _ hl
       simp only[List.all_cons,Bool.and_eq_true]at hp
       exact bE7 F.fit.hx hk hr g1 hm hkp hb (am0 ((k8 S 99).e F.fit) (a::args)) hn g2 (L3 hp.1 _ _) ((v9 pos _).trans (X3 pos _ hp.2))
      ·exact av9
     ·exact av9
    ·exact av9
  ·exact av9
 ·exact av9
theorem aH5{m:Bool}{f:Stmt->RD}(F:FitR S T c X) (h:∀st,JR X m st (f st)):∀sts,JRs X m sts (rvL S f c sts)
 | []=>bY8
 | [s]=>bJ5 (h s)
 | s::t::r=>bv8 F.fit.hx (h s) (ba4 (k8 S 99) F.fit s) (aH5 F h (t::r))
theorem bS3(F:FitR S T c X) (mk:Bool) (a b:Option Expr) (pos:Pos):JR X mk (.Raise a b pos) (rvR S T mk c a b):=by
 unfold rvR
 split
 ·split
  ·split
   ·rename_i x p
    split
    ·split
     ·rename_i h
      simp only[Bool.and_eq_true]at h
      obtain⟨⟨⟨rfl,hc⟩,hg⟩,hp⟩:=h
      obtain⟨g1,g2⟩:=ab5 F.fit hg
      exact bv9 F.fit.hx (F.cls x hc) g1 (fun C=>F.ns x C) F.fit.calm (bW2 F.fit _) g2 (L3 hp [] _)
     ·exact ac5
    ·exact ac5
   ·exact ac5
  ·exact ac5
 ·exact ac5
theorem aU9(F:FitR S T c X) (mk:Bool) (hlo:mk=true->ce8 X):∀(n:Nat) (st:Stmt),JR X mk st (rvS S T mk n c st)
 | 0,st=>ac5
 | n+1,st=>by
  cases st
  case Raise=>exact bS3 F mk _ _ _
  case If=>exact ck9 F.fit.hx ((k8 S 99).t F.fit _) (aH5 F (aU9 F mk hlo n) _) (aH5 F (aU9 F mk hlo n) _)
  case Expr e p =>
   cases e
   case Call=>exact bJ6 (aV0 F _) rfl
   all_goals exact ac5
  case Return o p =>
   cases o
   ·exact ac5
   ·exact bZ0 (aV0 F _)
  case Assign ts v p =>
   unfold rvS rvA
   dsimp only
   split
   ·split
    ·cases v
     case Call=>exact bY9 (aV0 F _) rfl
     all_goals exact ac5
    ·exact ac5
   ·exact ac5
  all_goals exact ac5
theorem bq9(F:FitR S T c X) (mk:Bool) (hlo:mk=true->ce8 X) (sts:List Stmt):JRs X mk sts (rvB S T mk c sts):=aH5 F (aU9 F mk hlo 9) sts
abbrev Cx.quiet(X:Cx):Cx:={ X with calm:=true }
theorem bP6(F:Fit S c (Cx.quiet X)) {d:DE}{v:Expr}(h:JE X v d) (ts:List Expr) (pos:Pos):JS X (.Assign ts v pos) (zvA c d v ts):=by
 have nd:X.N.Nodup:=by have:X.N=c.N:=F.N;rw[this];exact F.nd
 unfold zvA
 split
 ·split
  ·split
   ·rename_i i hi
    split
    ·rename_i hc
     simp only[Bool.and_eq_true,Bool.not_eq_true']at hc
     obtain⟨l1,l2⟩:=aJ0 F hc.1
     exact aW7 (X:=X) i nd h (F.slot hi) l1 (al7 hc.2 _ _ _) l2
    ·exact B9
   ·exact B9
  ·exact B9
 ·exact B9
theorem FitR.hf(F:FitR S T c X) (a:Addr):Fit ⟨[],[],S.bl⟩ c (Cx.quiet (Cx.held X (.ref a))) :=
 ⟨F.fit.N,F.fit.sc,F.fit.nd,rfl,F.fit.xe,F.fit.units,F.fit.df,(fun x F n h=>nomatch h),(fun x d h=>nomatch h),F.fit.bls⟩
theorem by2(F:FitR S T c X) (a:Addr) (ex:Expr):JE (Cx.held X (.ref a)) ex (hvE S T c ex):=by
 unfold hvE
 dsimp only
 split
 ·split
  ·rename_i i hi
   split
   ·rename_i v;obtain⟨h1,h2,h3⟩:=ak3 F.fit v;exact bw4 (X:=Cx.held X (.ref a)) i (F.fit.slot hi) h1 h2 h3
   ·exact K6
  ·exact K6
 ·exact K6
theorem cc1(F:FitR S T c X) (a:Addr) (st:Stmt):JS (Cx.held X (.ref a)) st (hvS S T c st):=by
 unfold hvS
 split
 ·exact bP6 (F.hf a) (by2 F a _) _ _
 ·split
  ·exact aW8 (by2 F a _)
  ·exact B9
 ·exact B9
theorem cc3{h:ExceptHandler}{y:Str}{nm:Option Str}{b0:Stmt}{suite:List Stmt}(e:hnd h=some (y,nm,b0,suite)):∃np hp,h=.ExceptHandler (some (.Name y np)) nm (b0::suite) hp:=by
 unfold hnd at e
 split at e
 split at e
 ·split at e
  ·split at e
   ·cases e;exact⟨_,_,rfl⟩
   ·cases e
  ·cases e
 ·cases e
theorem by5(F:FitR S T c X):∀{hs:List ExceptHandler}{cs:List (List Str×List Str×DS)},hcL S T c hs=some cs->HvOk X hs cs
 | [],cs,h=>by cases h;exact .nil
 | h0::hs,cs,h=>by
  obtain⟨x,h1,h2⟩:=xbo h
  obtain⟨r,h3,h4⟩:=xmo h2
  subst h4
  unfold hc1 at h1
  split at h1
  ·rename_i e
   obtain⟨np,hp,rfl⟩:=cc3 e
   split at h1
   ·rename_i l nl q1 q2
    split at h1
    ·rename_i hg
     cases h1
     obtain⟨g1,g2⟩:=ab5 F.fit hg
     obtain⟨c1,c2⟩:=F.sbs _ l q1
     exact .cons g1 (fun D hD=>F.ns _ D hD) g2 c1 c2 (F.nbs _ nl q2) (fun a=>ax6 (cc1 F a) _) (by5 F h3)
    ·cases h1
   ·cases h1
  ·cases h1
theorem bR3(F:FitR S T c X) (hex:X.ex=[]) (hst:X.stack=X.env::X.outer) (hfr:X.env.frame=some X.env.locals) (st:Stmt):JS X st (tvS S T c st):=by
 unfold tvS
 split
 ·split
  ·unfold tvH
   split
   ·exact B9
   ·split
    ·rename_i hc
     exact bJ0 F.fit.hx hst hfr (ax6 (bP7 F) _) (bq9 F false (fun z=>by cases z) _) (by5 F hc)
    ·exact B9
  ·exact B9
 ·exact ba4 (k8 S 99) F.fit st
end
section
variable {P:Program}{w:World}{K:PySem.W.Frag}{mg:Str->Option Value}{base:Heap}{cs:List (Str×D)}{bl:List Str}
def TRk(P:Program) (w:World) (K:PySem.W.Frag) (mg:Str->Option Value) (base:Heap) (k:Nat) (rt:aC3):Prop:=∀x R n,rt.lookup x=some (R,n)->∃(f:Addr) (fd:FuncData) (ps:List Str),
 FnOk P w K mg base (CX1 P w) k f fd ps (spR K n R)/\mg x=some (.ref f)/\PySem.W.keepIn K (.ref f)=true/\T8 K fd ps []
theorem TRk.nil:TRk P w K mg base 0 []:=fun x R n h=>by cases h
theorem TRk.mono{j k:Nat}{rt:aC3}(T:TRk P w K mg base j rt) (h:j<=k):TRk P w K mg base k rt:=fun x R n e =>
 let⟨f,fd,ps,h1,h2,h3,h4⟩:=T x R n e
 ⟨f,fd,ps,h1.mono h,h2,h3,h4⟩
theorem TRk.cons{k:Nat}{rt:aC3}{x:Str}{R:List D->Option Str}{n:Nat}(T:TRk P w K mg base k rt) (h:∃(f:Addr) (fd:FuncData) (ps:List Str),FnOk P w K mg base (CX1 P w) k f fd ps (spR K n R)/\mg x=some (.ref f)/\PySem.W.keepIn K (.ref f)=true/\T8 K fd ps []) :
  TRk P w K mg base k ((x,R,n)::rt):=fun y G m e=>by
 rw[List.lookup_cons]at e
 split at e
 ·rename_i q
  cases e
  simp only[beq_iff_eq]at q
  subst q
  exact h
 ·exact T y G m e
structure Cl (K:PySem.W.Frag) (mg:Str->Option Value) (T:Rg):Prop where
 cls:∀x,T.cl.contains x=true->o5 K x=true
 tbs:∀y l,T.tb.lookup y=some l->(∃D,clA K y=some D/\aS8 K (.ref D) fun x=>l.lookup x)\/(y = "ValueError" /\ mg y=none/\aS8 K (.type "ValueError") fun x=>l.lookup x)
 sbs:∀y l,T.sb.lookup y=some l->o5 K y=true/\∀x∈l,o5 K x=true/\bq1 K x y=true
 nbs:∀y l,T.nb.lookup y=some l->∀x∈l,o5 K x=true/\bq0 K x y=true
theorem bB0{x:Str}{C:Addr}(M:Md K mg cs bl) (h:clA K x=some C):mg x=some (.ref C):=by
 unfold clA at h
 split at h
 ·rename_i C' e;cases h;exact M.ns _ _ e
 ·cases h
def TXk(P:Program) (w:World) (K:PySem.W.Frag) (mg:Str->Option Value) (base:Heap) (k:Nat) (xt:bB9):Prop:=∀x F,xt.lookup x=some F->∃(f:Addr) (fd:FuncData) (ps:List Str),
 FnQ P w K mg base k f fd ps (spX K F)/\mg x=some (.ref f)/\PySem.W.keepIn K (.ref f)=true/\T8 K fd ps []
theorem TXk.nil:TXk P w K mg base 0 []:=fun x R h=>by cases h
theorem TXk.mono{j k:Nat}{xt:bB9}(T:TXk P w K mg base j xt) (h:j<=k):TXk P w K mg base k xt:=fun x F e =>
 let⟨f,fd,ps,h1,h2,h3,h4⟩:=T x F e
 ⟨f,fd,ps,h1.mono h,h2,h3,h4⟩
theorem cc8{k:Nat}{tab:Tab}{T:Rg}{d:Fd}{f:Addr}{fd:FuncData}(M:Md K mg cs bl) (Tk:TOk P w K mg base k tab) (Rk:TRk P w K mg base k T.rf) (Xk:TXk P w K mg base k T.xf) (Ck:Cl K mg T) (ok:d.okB=true) (Fn:Fun K d.x d.x d.st f fd):FnOk P w K mg base (CX1 P w) (k+1) f fd d.ps (spR K d.ps.length (rdR tab cs bl T d)):=by
 have Sc:=Fd.sc ok
 refine bz6 (N:=d.N) Fn Sc fun cdv A outer s H E hr=>bq9 (c:=d.c) ⟨?_,fun x C h=>bB0 M h,fun x R n h=>?_,Ck.cls,Ck.tbs,Ck.sbs,Ck.nbs,fun x F h=>?_⟩ true (fun _=>bW6) _
 ·refine⟨rfl,rfl,Sc.nd,rfl,rfl,hr.units,fun _=>⟨fun _=>rfl,Sc.kind⟩,fun x F n h=>?_,M.css,M.bls⟩
  exact(Tk x F n h).imp (fun⟨f',fd',ps,h1,h2,h3,h4⟩=>⟨k,f',fd',ps,h1,hr,h2,h3,h4⟩) id
 ·obtain⟨f',fd',ps,h1,h2,h3,h4⟩:=Rk x R n h
  exact⟨k,f',fd',ps,h1,hr,h2,h3,h4⟩
 ·obtain⟨f',fd',ps,h1,h2,h3,h4⟩:=Xk x F h
  exact⟨k,f',fd',ps,h1,⟨hr.dp,hr.un⟩,h2,h3,h4⟩
theorem cc7{k:Nat}{tab:Tab}{T:Rg}{d:Fd}{f:Addr}{fd:FuncData}(M:Md K mg cs bl) (Tk:TOk P w K mg base k tab) (Rk:TRk P w K mg base k T.rf) (Xk:TXk P w K mg base k T.xf) (Ck:Cl K mg T) (ok:d.okB=true) (Fn:Fun K d.x d.x d.st f fd):FnOk P w K mg base CX0 (k+1) f fd d.ps (spF K d.ps.length (rdT tab cs bl T d)):=by
 have Sc:=Fd.sc ok
 refine be6 (N:=d.N) Fn Sc fun cdv A outer s H E hr=>ax6 (fun st=>bR3 (c:=d.c) ⟨?_,fun x C h=>bB0 M h,fun x R n h=>?_,Ck.cls,Ck.tbs,Ck.sbs,Ck.nbs,fun x F h=>?_⟩ rfl rfl rfl st) _
 ·refine⟨rfl,rfl,Sc.nd,rfl,rfl,hr.units,fun _=>⟨fun _=>rfl,Sc.kind⟩,fun x F n h=>?_,M.css,M.bls⟩
  exact(Tk x F n h).imp (fun⟨f',fd',ps,h1,h2,h3,h4⟩=>⟨k,f',fd',ps,h1,hr,h2,h3,h4⟩) id
 ·obtain⟨f',fd',ps,h1,h2,h3,h4⟩:=Rk x R n h
  exact⟨k,f',fd',ps,h1,hr,h2,h3,h4⟩
 ·obtain⟨f',fd',ps,h1,h2,h3,h4⟩:=Xk x F h
  exact⟨k,f',fd',ps,h1,⟨hr.dp,hr.un⟩,h2,h3,h4⟩
end
def bL3(K:PySem.W.Frag) (cv:Value) (p:Str×Bool):Bool:=match clA K p.1 with
 | some C=>xcB K C&&PySem.W.excIn K C veB "ValueError.__new__" && PySem.W.kitOne K (.ref C) cv==some p.2
 | none=>false
def clB(K:PySem.W.Frag) (cl:List Str) (tb:List (Str×List (Str×Bool))) (sb nb:List (Str×List Str)):Bool :=
 cl.all (o5 K)&&tb.all (fun p=>match clA K p.1 with
  | some D=>p.2.all (bL3 K (.ref D))
  | none=>p.1 == "ValueError" && p.2.all (bL3 K (.type "ValueError")))&&(sb.all fun p=>o5 K p.1&&p.2.all fun x=>o5 K x&&bq1 K x p.1)&&nb.all fun p=>p.2.all fun x=>o5 K x&&bq0 K x p.1
theorem k7{α:Type}{x:Str}{a:α}:∀{l:List (Str×α)},l.lookup x=some a->(x,a)∈l
 | [],h=>by cases h
 | (y,b)::l,h=>by
  rw[List.lookup_cons]at h
  split at h
  ·rename_i q
   simp only[beq_iff_eq]at q
   cases h;subst q;exact List.mem_cons_self ..
  ·exact xmm _ (k7 h)
theorem bx6{K:PySem.W.Frag}{cv:Value}{l:List (Str×Bool)}(h:l.all (bL3 K cv)=true):aS8 K cv fun x=>l.lookup x:=fun x b e=>by
 have:=List.all_eq_true.mp h _ (k7 e)
 unfold bL3 at this
 split at this
 ·rename_i C hC
  simp only[Bool.and_eq_true,beq_iff_eq]at this
  exact⟨C,hC,this.1.1,this.1.2,this.2⟩
 ·cases this
section
variable {P:Program}{w:World}{K:PySem.W.Frag}{mg:Str->Option Value}{base:Heap}{cs:List (Str×D)}{bl:List Str}
theorem Cl.of{T:Rg}(M:Md K mg cs bl) (hv:bl.contains "ValueError" = true) (h:clB K T.cl T.tb T.sb T.nb=true):Cl K mg T:=by
 simp only[clB,Bool.and_eq_true]at h
 obtain⟨⟨⟨h1,h2⟩,h3⟩,h4⟩:=h
 refine⟨fun x hx=>List.all_eq_true.mp h1 x (List.contains_iff_mem.mp hx),fun y l e=>?_,fun y l e=>?_,fun y l e=>?_⟩
 ·have:=List.all_eq_true.mp h2 _ (k7 e)
  dsimp only at this
  split at this
  ·rename_i D hD;exact .inl ⟨D,hD,bx6 this⟩
  ·simp only[Bool.and_eq_true,beq_iff_eq]at this
   exact .inr ⟨this.1,by rw[this.1];exact M.bls _ hv,bx6 this.2⟩
 ·have:=List.all_eq_true.mp h3 _ (k7 e)
  simp only[Bool.and_eq_true,List.all_eq_true]at this
  exact this
 ·have:=List.all_eq_true.mp h4 _ (k7 e)
  simp only[Bool.and_eq_true,List.all_eq_true]at this
  exact this
theorem TRk.add{k:Nat}{tab:Tab}{T:Rg}(Rk:TRk P w K mg base k T.rf) (Tk:TOk P w K mg base k tab) (Xk:TXk P w K mg base k T.xf) (M:Md K mg cs bl) (Ck:Cl K mg T) (d:Fd) (h:KF K d.x d.st) (R:List D->Option Str) (e:rdR tab cs bl T d=R:=by kernel_rfl) (ok:d.okB=true:=by kernel_rfl) (bd:Bd d:=by repeat (first|exact rfl|intro _)):TRk P w K mg base (k+1) ((d.x,R,d.ps.length)::T.rf):=by
 subst e
 obtain⟨f,kV,dc,pm,an,cd,ct,Fn,hm⟩:=u4 h M
 exact(Rk.mono (Nat.le_succ k)).cons ⟨f,_,d.ps,cc8 M Tk Rk Xk Ck ok Fn,hm,Fn.kp,.all (ua (bd kV dc pm an cd ct))⟩
theorem TOk.addT{k:Nat}{tab:Tab}{T:Rg}(Tk:TOk P w K mg base k tab) (Rk:TRk P w K mg base k T.rf) (Xk:TXk P w K mg base k T.xf) (M:Md K mg cs bl) (Ck:Cl K mg T) (d:Fd) (h:KF K d.x d.st) (F:FnD) (e:rdT tab cs bl T d=F:=by kernel_rfl) (ok:d.okB=true:=by kernel_rfl) (bd:Bd d:=by repeat (first|exact rfl|intro _)):TOk P w K mg base (k+1) ((d.x,F,d.ps.length)::tab):=by
 subst e
 obtain⟨f,kV,dc,pm,an,cd,ct,Fn,hm⟩:=u4 h M
 exact(Tk.mono (Nat.le_succ k)).cons ⟨f,_,d.ps,cc7 M Tk Rk Xk Ck ok Fn,hm,Fn.kp,.all (ua (bd kV dc pm an cd ct))⟩
end
end G
namespace Lk51
open PySem PySem.Spec PyProof.Rows L2 G Sh
def top(i:Nat):Stmt:=PySem.Challenge.pw_glazework_k51_whole_made_one.main.body.getD i (.Pass ⟨0,0,0,0⟩)
def L1:List D->Option Str:=as4 (k4 rNo (B2 2 (A2 (L5 12) (A0 (dIx (A8 0) ⇑2) (A0 (A1 1) A3)))) (k4 (rIf (tB2 isB (A1 2) (dC .none)) (aa8 "NoName" (ay0 Str.empty [dC (.str "no node has the name "),dRp (A1 1)])) rNo) (sIf (tB2 isB (A1 2) (dC .none)) C8 C9) rNo)) 3
def W9:List D->Option Str:=as4 (k4 (ae1 L1 (A0 (A1 0) (A0 (A1 1) A3))) (B2 2 (A2 K2 (A0 (A1 0) (A0 (A1 1) A3)))) (k4 rNo (B2 3 (A2 B6 (A0 (A1 2) (A0 (A1 1) A3)))) (k4 (rIf (Q5 (tB2 eqD (A1 3) ⇑0) (F8 (K4 (A2 T0 (A0 (dIx (A8 2) (A5 aa2 (A1 3) ⇑1)) (A0 (dIx (A8 2) (A1 3)) A3)))))) (aa8 "NoMerge" (ay0 Str.empty [dRp (A1 1),dC (.str " can not be made one with what is right below it")])) rNo) (sIf (Q5 (tB2 eqD (A1 3) ⇑0) (F8 (K4 (A2 T0 (A0 (dIx (A8 2) (A5 aa2 (A1 3) ⇑1)) (A0 (dIx (A8 2) (A1 3)) A3)))))) C8 C9) (k4 rNo (B2 4 (A2 n5 (A0 (A1 0) (A0 (dIx (A8 2) (A5 aa2 (A1 3) ⇑1)) (A0 (dIx (A8 2) (A1 3)) A3))))) rNo)))) 5
def V5:List D->Option Str:=as4 (k4 (ae1 L1 (A0 (A1 0) (A0 (A1 1) A3))) (B2 2 (A2 K2 (A0 (A1 0) (A0 (A1 1) A3)))) (k4 rNo (B2 3 (A2 B6 (A0 (A1 2) (A0 (A1 1) A3)))) (k4 (rIf (F8 (K4 (A2 R0 (A0 (dIx (A8 2) (A1 3)) A3)))) (aa8 "NoOpen" (ay0 Str.empty [dRp (A1 1),dC (.str " is no group that can be left out around its nodes")])) rNo) (sIf (F8 (K4 (A2 R0 (A0 (dIx (A8 2) (A1 3)) A3)))) C8 C9) rNo))) 4
def P5:DS:=(B0 (sIf (Q5 (F8 (K4 (A2 M2 (A0 (A1 0) A3)))) (F8 (K4 (A2 M2 (A0 (A1 1) A3))))) (A9 (dC (.bool true))) C9) (A9 (S8 (A5 (inD false) (A2 D1 (A0 (A1 0) A3)) (dC (.tuple [(.str "multiply"),(.str "screen"),(.str "plus")]))) (A2 P8 (A0 (O1 (A0 (A1 0) (A0 (A1 1) A3))) (A0 (A2 D1 (A0 (A1 0) A3)) A3))))))
def K5:List D->Option D:=C3 P5 2
def aF8:DS:=(B0 (B2 2 (A2 K2 (A0 (A1 0) (A0 (A1 1) A3)))) (B0 (B2 3 (A2 B6 (A0 (A1 2) (A0 (A1 1) A3)))) (B0 (sIf (Q5 (tB2 eqD (A5 B1 (A1 3) ⇑1) (R4 (A8 2))) (F8 (K4 (A2 K5 (A0 (dIx (A8 2) (A1 3)) (A0 (dIx (A8 2) (A5 B1 (A1 3) ⇑1)) A3)))))) C8 C9) (B0 (B2 4 (O1 (A0 (dIx (A8 2) (A5 B1 (A1 3) ⇑1)) (A0 (dIx (A8 2) (A1 3)) A3)))) (A9 (A2 P6 (A0 (A1 0) (A0 (A1 1) (A0 (A5 B1 (A5 B1 (aj3 (A1 2) S0 (M5 (A1 3))) (A1 4)) (aj3 (A1 2) (M5 (A5 B1 (A1 3) ⇑2)) S0)) A3)))))))))
def x5:List D->Option D:=C3 aF8 5
def S4:List D->Option Str:=as4 (k4 (ae1 L1 (A0 (A1 0) (A0 (A1 1) A3))) (B2 2 (A2 K2 (A0 (A1 0) (A0 (A1 1) A3)))) (k4 rNo (B2 3 (A2 B6 (A0 (A1 2) (A0 (A1 1) A3)))) (k4 (rIf (Q5 (tB2 eqD (A5 B1 (A1 3) ⇑1) (R4 (A8 2))) (F8 (K4 (A2 K5 (A0 (dIx (A8 2) (A1 3)) (A0 (dIx (A8 2) (A5 B1 (A1 3) ⇑1)) A3)))))) (aa8 "NoSwap" (ay0 Str.empty [dRp (A1 1),dC (.str " can not change places with what is right above it")])) rNo) (sIf (Q5 (tB2 eqD (A5 B1 (A1 3) ⇑1) (R4 (A8 2))) (F8 (K4 (A2 K5 (A0 (dIx (A8 2) (A1 3)) (A0 (dIx (A8 2) (A5 B1 (A1 3) ⇑1)) A3)))))) C8 C9) (k4 rNo (B2 4 (O1 (A0 (dIx (A8 2) (A5 B1 (A1 3) ⇑1)) (A0 (dIx (A8 2) (A1 3)) A3)))) rNo)))) 5
def aq4:DS:=(aD3 (aH9 [W9,V5,S4] (A1 0) (A0 (A1 1) (A0 (A1 2) A3))) (A9 (aK7 [af5,af4,x5] (A1 0) (A0 (A1 1) (A0 (A1 2) A3)))) [(["NoMerge"],["NoName", "NoOpen", "NoSwap"],(A9 (A1 1))),(["NoOpen"],["NoMerge", "NoName", "NoSwap"],(A9 (A1 1))),(["NoSwap"],["NoMerge", "NoName", "NoOpen"],(A9 (A1 1)))])
def X6:List D->Option D:=C3 aq4 3
def cn0:DS:=(B0 (B2 1 (A2 Y8 (A0 (A1 0) (A0 ⇑30 (A0 ⇑4 (A0 (A2 y6 (A0 (A1 0) (A0 ⇑0 (A0 ⇑6 A3)))) A3)))))) (B0 (B2 2 (A2 af6 (A0 (A1 1) A3))) (B0 (B2 3 (A2 O6 (A0 (A1 1) A3))) (B0 (i6 (N3 (aE9 ⇑1 (aE8 ⇑6 (R4 (A8 0))))) (B7 4) (B0 (B2 5 (A2 O6 (A0 (A1 1) A3))) (B0 (sIf (tB2 neD (A1 5) (W0 A3)) (B0 (B2 6 (dIx (A8 5) (A2 A7 (A0 (A1 0) (A0 (A5 B1 ⇑800 (A5 K7 ⇑2 (A1 4))) (A0 (R4 (A8 5)) A3)))))) (B2 1 (A2 X6 (A0 (A2 A7 (A0 (A1 0) (A0 (A5 B1 ⇑801 (A5 K7 ⇑2 (A1 4))) (A0 ⇑3 A3)))) (A0 (A1 1) (A0 (A1 6) A3)))))) C9) (B0 (sIf (Q5 (tB2 ao8 (A2 U7 (A0 (A1 1) A3)) (dC (.bool true))) (tB2 neD (A2 af6 (A0 (A1 1) A3)) (A1 2))) (A9 (dC (.bool false))) C9) (sIf (tB2 neD (W0 (C2 1 [3] (Q6 (A2 O6 (A0 (A1 1) A3))) (B7 0) (tB2 (inD true) (A1 0) (A1 1)) (A1 0))) (W0 A3)) (A9 (dC (.bool false))) C9))))) (A9 (dC (.bool true)))))))
def bf9:List D->Option D:=C3 cn0 7
end Lk51
namespace Lk51
open PySem G L2 Sh
inductive Rp (o o':List Nd):List Nd->List Nd->Prop
 | top:Rp o o' o o'
 | deep {c e:List Nd}{nm:D}{m:Man}{s:Rat}{sh:Bool}{ns ns':List Nd}:Rp o o' ns ns'->Rp o o' (c ++ .group nm m s sh ns::e) (c ++ .group nm m s sh ns'::e)
theorem Rp.sw{o o' l l':List Nd}(h:Rp o o' l l') {x y:Int}(e:Nd.sw x y o' q0=Nd.sw x y o q0):Nd.sw x y l' q0=Nd.sw x y l q0:=by
 induction h with
 | top=>exact e
 | deep _ ih=>rw[u3,u3,Nd.sw,Nd.sw,Nd.ab,Nd.ab,ih]
theorem V4(a b:List Nd):Nd.offs (a++b)↔Nd.offs a/\Nd.offs b:=by
 rw[v3,v3,v3]
 constructor
 ·exact fun h=>⟨fun n hn=>h n (List.mem_append_left _ hn),fun n hn=>h n (List.mem_append_right _ hn)⟩
 ·intro h n hn
  rcases List.mem_append.mp hn with q|q
  ·exact h.1 n q
  ·exact h.2 n q
theorem U4(a b:List Nd):Nd.Oks (a++b)↔Nd.Oks a/\Nd.Oks b:=by
 rw[V6,V6,V6]
 constructor
 ·exact fun h=>⟨fun n hn=>h n (List.mem_append_left _ hn),fun n hn=>h n (List.mem_append_right _ hn)⟩
 ·intro h n hn
  rcases List.mem_append.mp hn with q|q
  ·exact h.1 n q
  ·exact h.2 n q
theorem Rp.inn{o o' l l':List Nd}(h:Rp o o' l l'):(Nd.Oks l->Nd.Oks o)/\Nd.wgs o<=Nd.wgs l/\Nd.dps o<=Nd.dps l/\(Nd.offs l->Nd.offs o):=by
 induction h with
 | top=>exact⟨fun x=>x,Nat.le_refl _,Nat.le_refl _,fun x=>x⟩
 | deep _ ih =>
  refine⟨fun z=>?_,?_,?_,fun z=>?_⟩
  ·have:=(U4 _ _).mp z
   rw[Nd.Oks,Nd.Ok]at this
   exact ih.1 this.2.1.2
  ·rw[O7,Nd.wgs,Nd.wg];omega
  ·rw[M4,Nd.dps,Nd.dp];omega
  ·have:=(V4 _ _).mp z
   rw[Nd.offs,Nd.off]at this
   exact ih.2.2.2 this.2.1.2
def NS(l' l:List Nd):Prop:=∃X:List D,List.Sublist X (Nd.nmss l)/\List.Perm (Nd.nmss l') X
theorem NS.len{l' l:List Nd}(h:NS l' l):(Nd.nmss l').length<=(Nd.nmss l).length:=by
 obtain⟨X,h1,h2⟩:=h
 rw[h2.length_eq];exact h1.length_le
theorem NS.nd{l' l:List Nd}(h:NS l' l) (n:(Nd.nmss l).Nodup):(Nd.nmss l').Nodup:=by
 obtain⟨X,h1,h2⟩:=h
 exact h2.nodup_iff.mpr (h1.nodup n)
theorem NS.sub{l' l:List Nd}(h:NS l' l):∀d∈Nd.nmss l',d∈Nd.nmss l:=by
 obtain⟨X,h1,h2⟩:=h
 exact fun d hd=>h1.subset (h2.mem_iff.mp hd)
theorem Rp.ns{o o' l l':List Nd}(h:Rp o o' l l') (e:NS o' o):NS l' l:=by
 induction h with
 | top=>exact e
 | @deep c e nm m s sh ns ns' _ ih =>
  obtain⟨X,h1,h2⟩:=ih
  refine⟨Nd.nmss c++(nm::X++Nd.nmss e),?_,?_⟩
  ·rw[B8,Nd.nmss,Nd.nms]
   exact List.Sublist.append (List.Sublist.refl _) (List.Sublist.append (h1.cons₂ _) (List.Sublist.refl _))
  ·rw[B8,Nd.nmss,Nd.nms]
   exact List.Perm.append (List.Perm.refl _) (List.Perm.append (List.Perm.cons _ h2) (List.Perm.refl _))
mutual
theorem bD6:∀n:Nd,n.nms.length<=1000->n.thin
 | .layer ..,_=>by rw[Nd.thin];trivial
 | .tone ..,_=>by rw[Nd.thin];trivial
 | .group nm m s sh ns,h=>by
  rw[Nd.nms,List.length_cons]at h
  rw[Nd.thin]
  have:=thins_of ns (by omega)
  exact⟨by omega,this.1⟩
theorem thins_of:∀l:List Nd,(Nd.nmss l).length<=1000->Nd.thins l/\l.length<=(Nd.nmss l).length
 | [],_=>by rw[Nd.thins,Nd.nmss];exact⟨trivial,Nat.le_refl _⟩
 | n::r,h=>by
  rw[Nd.nmss,List.length_append]at h ⊢
  rw[Nd.thins]
  have h1:=bD6 n (by omega)
  have h2:=thins_of r (by omega)
  have h3:1<=n.nms.length:=List.length_pos_iff.mpr (List.ne_nil_of_mem (T9 n))
  exact⟨⟨h1,h2.1⟩,by rw[List.length_cons];omega⟩
end
theorem Rp.small{o o' l l':List Nd}(h:Rp o o' l l') {k:Nat}(h1:Nd.Oks o->Nd.Oks o') (h2:Nd.wgs o'<=Nd.wgs o+k) (h3:Nd.dps o'<=Nd.dps o) (h4:Nd.offs o->Nd.offs o'):(Nd.nmss l').length<=1000->(Nd.Oks l->Nd.Oks l')/\Nd.wgs l'<=Nd.wgs l+k/\Nd.dps l'<=Nd.dps l/\(Nd.offs l->Nd.offs l'):=by
 induction h with
 | top=>exact fun _=>⟨h1,h2,h3,h4⟩
 | @deep c e nm m s sh ns ns' _ ih =>
  intro hl
  rw[B8,Nd.nmss,Nd.nms,List.length_append,List.length_append,List.length_cons]at hl
  obtain⟨i1,i2,i3,i4⟩:=ih (by omega)
  refine⟨fun z=>?_,?_,?_,fun z=>?_⟩
  ·have:=(U4 _ _).mp z
   rw[Nd.Oks,Nd.Ok]at this
   refine(U4 _ _).mpr ⟨this.1,?_⟩
   rw[Nd.Oks,Nd.Ok]
   exact⟨⟨this.2.1.1,i1 this.2.1.2⟩,this.2.2⟩
  ·rw[O7,O7,Nd.wgs,Nd.wgs,Nd.wg,Nd.wg];omega
  ·rw[M4,M4,Nd.dps,Nd.dps,Nd.dp,Nd.dp];omega
  ·have q:=(V4 _ _).mp z
   rw[Nd.offs,Nd.off]at q
   refine(V4 _ _).mpr ⟨q.1,?_⟩
   rw[Nd.offs,Nd.off]
   have:=(thins_of ns' (by omega)).2
   exact⟨⟨by omega,i4 q.2.1.2⟩,q.2.2⟩
theorem bH5{a b:List Nd}{n:Nd}{o':List Nd}(hn:V2 n.nm) {l:List Nd}(h:Stands a n b l):∀f:Nat,2*Nd.dps l+2<=f->(∀d∈Nd.nmss l,V2 d)->(Nd.nmss l).Nodup->l.length<=1000->Nd.thins l->∃l',Rp (a++n::b) o' l l'/\N1 f [↥l,n.nm,↥o']=some ↥l':=by
 induction h with
 | top =>
  intro f hf hs hd hl ht
  obtain⟨f,rfl⟩:∃g,f=g+1:=⟨f - 1,by omega⟩
  rw[B8,Nd.nmss]at hd
  have e0:=aw3 (a:=a) (b:=b) (n:=n) (fun n' hn'=>aa9 hs n' (List.mem_append_left _ hn')) hn (fun n' hn' e=>by
   have d1:=(List.nodup_append.mp hd).2.2
   exact d1 n'.nm (T7 hn' (T9 n')) n.nm (List.mem_append_left _ (T9 n)) e)
  refine⟨_,.top,A6 (g:=P4 (ai2 f)) (ρ:=[‹↥(a++n::b)›,‹n.nm›,‹↥o'›]) rfl ?_⟩
  wp_walk using evD,P4,e0,ck0
 | @deep c e nm m s sh ns h ih =>
  intro f hf hs hd hl ht
  obtain⟨f,rfl⟩:∃g,f=g+2:=⟨f - 2,by omega⟩
  rw[M4,Nd.dps,Nd.dp]at hf
  have hin:=h.nm n.nm (T9 n)
  rw[B8,Nd.nmss,Nd.nms]at hd
  have dc:=(List.nodup_append.mp hd)
  have dg:=(List.nodup_append.mp dc.2.1)
  have dn:=List.nodup_cons.mp dg.1
  have hc:n.nm∉Nd.nmss c:=fun z=>dc.2.2 n.nm z n.nm (by simp[hin]) rfl
  have hg:nm≠n.nm:=fun z=>dn.1 (z ▸ hin)
  have he:n.nm∉Nd.nmss e:=fun z=>dg.2.2 n.nm (by simp[hin]) n.nm z rfl
  have hsn:∀d∈Nd.nmss ns,V2 d:=fun d hd=>hs d (by rw[B8,Nd.nmss,Nd.nms];simp[hd])
  have hth:=(W4 _).mp ht
  have hgt:=hth (.group nm m s sh ns) (by simp)
  rw[Nd.thin]at hgt
  have e0:=al6 (l:=c ++ .group nm m s sh ns::e) (aa9 hs) hn (fun n' hn' z=>by
   rcases List.mem_append.mp hn' with q|q
   ·exact ad0 hc n' q z
   ·rcases List.mem_cons.mp q with rfl|q
    ·exact hg z
    ·exact ad0 he n' q z)
  obtain⟨ns',sb,e1⟩:=ih f (by omega) hsn dn.2 hgt.1 hgt.2
  refine⟨_,.deep sb,aw2 hl e0 (by simp) fun j hj=>?_⟩
  have idn:∀n0∈c++e,O5 (f+1) [n0.d,n.nm,↥o']=some n0.d:=fun n0 h0=>by
   have hm:n0∈c ++ .group nm m s sh ns::e:=by
    rcases List.mem_append.mp h0 with q|q
    ·exact List.mem_append_left _ q
    ·exact List.mem_append_right _ (xmm _ q)
   have hdp:n0.dp<=max (Nd.dps c) (Nd.dps e):=by
    rcases List.mem_append.mp h0 with q|q
    ·have:=W8 q;omega
    ·have:=W8 q;omega
   refine bV3 n.nm hn _ n0 (f+1) (by omega) (fun d hd=>hs d (T7 hm hd)) (fun z=>?_) (hth n0 hm)
   rcases List.mem_append.mp h0 with q|q
   ·exact hc (T7 q z)
   ·exact he (T7 q z)
  rcases Nat.lt_trichotomy j c.length with q|q|q
  ·rw[List.getElem_append_left q,List.getElem_append_left q]
   exact idn _ (List.mem_append_left _ (List.getElem_mem q))
  ·subst q
   simp only[List.getElem_append_right (Nat.le_refl _),Nat.sub_self,List.getElem_cons_zero]
   exact ao7 e1
  ·obtain⟨i,rfl⟩:∃i,j=c.length+(i+1):=⟨j - c.length - 1,by omega⟩
   have hi:i < e.length:=by simp at hj;omega
   rw[List.getElem_append_right (by omega),List.getElem_append_right (by omega)]
   simp only[Nat.add_sub_cancel_left,List.getElem_cons_succ]
   exact idn _ (List.mem_append_right _ (List.getElem_mem hi))
theorem aq1{w h:Nat}{a b l:List Nd}{n:Nd}(St:Stands a n b l) (hd:Nd.dps l<=3) (hs:∀d∈Nd.nmss l,V2 d) (nd:(Nd.nmss l).Nodup) (hN:(Nd.nmss l).length<=1000) :
  K2 [B5 w h l,n.nm]=some ↥(a++n::b)/\L1 [B5 w h l,n.nm]=none/\B6 [↥(a++n::b),n.nm]=some (.int a.length) /\
  ∀o':List Nd,∃l',Rp (a++n::b) o' l l'/\P6 [B5 w h l,n.nm,↥o']=some (B5 w h l'):=by
 have P:=St.props
 obtain⟨t1,t2⟩:=thins_of l hN
 have sab:∀d∈Nd.nmss (a++n::b),V2 d:=fun d hd=>hs d (P.sub d hd)
 have hn:V2 n.nm:=sab _ (T7 (by simp) (T9 n))
 have nda:=P.nd nd
 rw[B8,Nd.nmss]at nda
 have e0:=bD3 hn St 12 (by omega) hs nd
 have e1:=aw3 (a:=a) (b:=b) (n:=n) (fun n' hn'=>aa9 sab n' (List.mem_append_left _ hn')) hn (fun n' hn' e=>(List.nodup_append.mp nda).2.2 n'.nm (T7 hn' (T9 n')) n.nm (List.mem_append_left _ (T9 n)) e)
 refine⟨?_,?_,e1,fun o'=>?_⟩
 ·refine A6 (ρ:=[‹B5 w h l›,‹n.nm›,none]) rfl ?_
  wp_walk using evD,af1,B5,e0,aJ7
 ·have st:Z2 3 [B5 w h l,n.nm]=[‹B5 w h l›,‹n.nm›,none]:=rfl
  unfold L1 as4
  rw[st]
  wp_walk using evD,B5,k4,rIf,rNo,e0,aJ7,Option.map_none
 ·obtain⟨l',r,e2⟩:=bH5 (o':=o') hn St 12 (by omega) hs nd (by omega) t1
  refine⟨l',r,?_⟩
  refine A6 (ρ:=[‹B5 w h l›,‹n.nm›,‹↥o'›]) rfl ?_
  wp_walk using evD,Z9,B5,e2
def Nd.ms:Nd->Str
 | .layer _ m _ _ _ _ _ _ _ _ _=>m.s
 | .tone _ r _ _=>r.s
 | .group _ m _ _ _=>m.s
theorem aw5(n:Nd):D1 [n.d]=some (.str (Nd.ms n)):=by cases n<;>(rw[Nd.d];rfl)
theorem bO4(n:Nd):PyData.canLay0 (.str (Nd.ms n))=true:=by
 cases n with
 | layer _ m=>cases m<;>(rw[Nd.ms];decide +kernel)
 | tone _ r=>cases r<;>(rw[Nd.ms];decide +kernel)
 | group _ m=>cases m<;>(rw[Nd.ms];decide +kernel)
theorem aI9{m m':Man}(h:m.s=m'.s):m=m':=by cases m<;>cases m'<;>first|rfl|exact absurd h (by decide +kernel)
theorem aX0{n:Nd}{m:Man}(t:n.isT=false) (s:n.shB=true) (e:Nd.ms n=m.s):n.isM m:=by
 cases n with
 | layer=>exact⟨aI9 e,s⟩
 | tone=>cases t
 | group=>exact⟨aI9 e,s⟩
theorem ax3{l:List Nd}{N:Nd}(hl:l.length<=1000) {d:D}(hd:∀r:Rho,Q6 (A1 0) (‹d›::r)=some (l.map Nd.d)):P8 [d,.str (Nd.ms N)]=some (.bool (l.all fun n=>!n.isT&&(Nd.ms n==Nd.ms N))):=by
 refine A6 (ρ:=[‹d›,‹.str (Nd.ms N)›]) rfl ?_
 have al:C2 1 [1] (Q6 (A1 0)) (B7 0) E4 (S8 (ae9 (A2 T4 (A0 (A1 0) A3))) (A5 eqD (A2 D1 (A0 (A1 0) A3)) (A1 1))) [‹d›,‹.str (Nd.ms N)›]=some (l.map fun n=>.bool (!n.isT&&(Nd.ms n==Nd.ms N))):=by
  refine k6 (l:=l) (h:=Nd.d) (r:=[‹.str (Nd.ms N)›]) rfl (hd _) hl fun n hn=>?_
  have e:=B3 (bO4 n) (bO4 N) (b:=Nd.ms n==Nd.ms N) rfl
  cases t:n.isT with
  | true=>wp_walk using evD,ax0,t,Bool.false_and
  | false=>wp_walk using evD,ax0,t,aw5,e,Bool.true_and
 wp_walk using evD,ai0,al,an7
theorem in4(n:Nd):∃b,inD true (.str (Nd.ms n)) (.tuple [.str "over", .str "multiply", .str "screen", .str "plus"])=some (.bool (!b))/\(b=true->∃m:Man,m.four/\Nd.ms n=m.s):=by
 have M:∀m:Man,∃b,inD true (.str m.s) (.tuple [.str "over", .str "multiply", .str "screen", .str "plus"])=some (.bool (!b))/\(b=true->∃m':Man,m'.four/\m.s=m'.s):=fun m=>by
  cases m
  ·exact⟨true,Z8 (v:=true) rfl rfl (by decide +kernel),fun _=>⟨.over,.inl rfl,rfl⟩⟩
  ·exact⟨true,Z8 (v:=true) rfl rfl (by decide +kernel),fun _=>⟨.mult,.inr (.inl rfl),rfl⟩⟩
  ·exact⟨true,Z8 (v:=true) rfl rfl (by decide +kernel),fun _=>⟨.screen,.inr (.inr (.inl rfl)),rfl⟩⟩
  ·exact⟨true,Z8 (v:=true) rfl rfl (by decide +kernel),fun _=>⟨.plus,.inr (.inr (.inr rfl)),rfl⟩⟩
  ·exact⟨false,Z8 (v:=false) rfl rfl (by decide +kernel),(fun z=>nomatch z)⟩
  ·exact⟨false,Z8 (v:=false) rfl rfl (by decide +kernel),(fun z=>nomatch z)⟩
 cases n with
 | layer _ m=>exact M m
 | tone _ r=>cases r<;>exact⟨false,Z8 (v:=false) rfl rfl (by rw[Nd.ms];decide +kernel),(fun z=>nomatch z)⟩
 | group _ m=>exact M m
def Man.three(m:Man):Prop:=m=.mult\/m=.screen\/m=.plus
theorem Man.three.four{m:Man}(h:Man.three m):m.four:=.inr h
theorem in3(n:Nd):∃b,inD false (.str (Nd.ms n)) (.tuple [.str "multiply", .str "screen", .str "plus"])=some (.bool b)/\(b=true->∃m:Man,Man.three m/\Nd.ms n=m.s):=by
 have M:∀m:Man,∃b,inD false (.str m.s) (.tuple [.str "multiply", .str "screen", .str "plus"])=some (.bool b)/\(b=true->∃m':Man,Man.three m'/\m.s=m'.s):=fun m=>by
  cases m
  ·exact⟨false,Z8 (v:=false) rfl rfl (by decide +kernel),(fun z=>nomatch z)⟩
  ·exact⟨true,Z8 (v:=true) rfl rfl (by decide +kernel),fun _=>⟨.mult,.inl rfl,rfl⟩⟩
  ·exact⟨true,Z8 (v:=true) rfl rfl (by decide +kernel),fun _=>⟨.screen,.inr (.inl rfl),rfl⟩⟩
  ·exact⟨true,Z8 (v:=true) rfl rfl (by decide +kernel),fun _=>⟨.plus,.inr (.inr rfl),rfl⟩⟩
  ·exact⟨false,Z8 (v:=false) rfl rfl (by decide +kernel),(fun z=>nomatch z)⟩
  ·exact⟨false,Z8 (v:=false) rfl rfl (by decide +kernel),(fun z=>nomatch z)⟩
 cases n with
 | layer _ m=>exact M m
 | tone _ r=>cases r<;>exact⟨false,Z8 (v:=false) rfl rfl (by rw[Nd.ms];decide +kernel),(fun z=>nomatch z)⟩
 | group _ m=>exact M m
theorem bo7{L U:Nd}(h:([L,U].all fun n=>!n.isT&&(Nd.ms n==Nd.ms L))=true) {m:Man}(e:Nd.ms L=m.s) (sL:L.shB=true) (sU:U.shB=true):L.isM m/\U.isM m:=by
 simp only[List.all_cons,List.all_nil,Bool.and_true,Bool.and_eq_true,Bool.not_eq_true',beq_iff_eq]at h
 exact⟨aX0 h.1.1 sL e,aX0 h.2.1 sU (h.2.2.trans e)⟩
theorem aS1(L U:Nd):∃b,T0 [L.d,U.d]=some (.bool b)/\(b=true->∃m:Man,m.four/\L.isM m/\U.isM m):=by
 obtain⟨b4,e4,h4⟩:=in4 L
 have hm:P8 [.tuple [L.d,U.d],.str (Nd.ms L)]=some (.bool ([L,U].all fun n=>!n.isT&&(Nd.ms n==Nd.ms L))):=ax3 (l:=[L,U]) (by simp) fun _=>rfl
 cases sL:L.shB with
 | false=>exact⟨false,A6 (ρ:=[‹L.d›,‹U.d›]) rfl (by wp_walk using evD,X0,S2,sL),(fun z=>nomatch z)⟩
 | true =>
  cases sU:U.shB with
  | false=>exact⟨false,A6 (ρ:=[‹L.d›,‹U.d›]) rfl (by wp_walk using evD,X0,S2,sL,sU),(fun z=>nomatch z)⟩
  | true =>
   cases b4 with
   | false=>exact⟨false,A6 (ρ:=[‹L.d›,‹U.d›]) rfl (by wp_walk using evD,X0,S2,sL,sU,aw5,e4),(fun z=>nomatch z)⟩
   | true =>
    refine⟨[L,U].all fun n=>!n.isT&&(Nd.ms n==Nd.ms L),A6 (ρ:=[‹L.d›,‹U.d›]) rfl (by wp_walk using evD,X0,S2,sL,sU,aw5,e4,hm),fun z=>?_⟩
    obtain⟨m,f,e⟩:=h4 rfl
    exact⟨m,f,bo7 z e sL sU⟩
theorem aK8(L U:Nd):∃b,K5 [L.d,U.d]=some (.bool b)/\(b=true->L.shB=false\/U.shB=false\/∃m:Man,Man.three m/\L.isM m/\U.isM m):=by
 obtain⟨b4,e4,h4⟩:=in3 L
 have hm:P8 [.tuple [L.d,U.d],.str (Nd.ms L)]=some (.bool ([L,U].all fun n=>!n.isT&&(Nd.ms n==Nd.ms L))):=ax3 (l:=[L,U]) (by simp) fun _=>rfl
 cases sL:L.shB with
 | false=>exact⟨true,A6 (ρ:=[‹L.d›,‹U.d›]) rfl (by wp_walk using evD,P5,S2,sL),fun _=>.inl rfl⟩
 | true =>
  cases sU:U.shB with
  | false=>exact⟨true,A6 (ρ:=[‹L.d›,‹U.d›]) rfl (by wp_walk using evD,P5,S2,sL,sU),fun _=>.inr (.inl rfl)⟩
  | true =>
   cases b4 with
   | false=>exact⟨false,A6 (ρ:=[‹L.d›,‹U.d›]) rfl (by wp_walk using evD,P5,S2,sL,sU,aw5,e4),(fun z=>nomatch z)⟩
   | true =>
    refine⟨[L,U].all fun n=>!n.isT&&(Nd.ms n==Nd.ms L),A6 (ρ:=[‹L.d›,‹U.d›]) rfl (by wp_walk using evD,P5,S2,sL,sU,aw5,e4,hm),fun z=>?_⟩
    obtain⟨m,f,e⟩:=h4 rfl
    exact .inr (.inr ⟨m,f,bo7 z e sL sU⟩)
theorem bu0(c:Rat):neD (fr c) (.tuple [.int 1,.int 1])=some (.bool (!decide (c=1))):=by
 have:=bP0 c 1
 have e:fr 1=.tuple [.int 1,.int 1]:=rfl
 rw[e]at this
 unfold eqD at this
 unfold neD
 split at this
 ·rename_i h
  rw[if_pos h]
  have:=PyData.bool.inj (Option.some.inj this)
  rw[this]
 ·cases this
theorem aK9(n:Nd) (hl:n.inn.length<=1000):∃b,R0 [n.d]=some (.bool b)/\(b=true->∃nm m ns,n=.group nm m 1 true ns/\m.four/\∀k∈ns,k.shB=true->k.isM m):=by
 obtain⟨b4,e4,h4⟩:=in4 n
 cases gG:n.isG with
 | false=>exact⟨false,A6 (ρ:=[‹n.d›]) rfl (by wp_walk using evD,Q8,ae5,gG),(fun z=>nomatch z)⟩
 | true =>
  cases sL:n.shB with
  | false=>exact⟨false,A6 (ρ:=[‹n.d›]) rfl (by wp_walk using evD,Q8,ae5,gG,S2,sL),(fun z=>nomatch z)⟩
  | true =>
   by_cases s1:n.stg=1
   ·have ne:=bu0 n.stg
    rw[decide_eq_true s1]at ne
    cases b4 with
    | false=>exact⟨false,A6 (ρ:=[‹n.d›]) rfl (by wp_walk using evD,Q8,ae5,gG,S2,sL,ae4,ne,aw5,e4),(fun z=>nomatch z)⟩
    | true =>
     have c:C2 1 [] (Q6 (A2 C7 (A0 (A1 0) A3))) (B7 0) (K4 (A2 M2 (A0 (A1 0) A3))) (A1 0) [‹n.d›]=some ((n.inn.filter fun k=>k.shB).map Nd.d):=by
      refine bc9 (l:=n.inn) (h:=Nd.d) (f:=Nd.d) (p:=fun k=>k.shB) (r:=[]) rfl ?_ hl (fun k hk=>?_) fun k hk=>?_
      ·rw[← P0]
       wp_walk using evD,bu1 gG
      ·wp_walk using evD,S2
      ·wp_walk using evD
     have hm:P8 [.list ((n.inn.filter fun k=>k.shB).map Nd.d),.str (Nd.ms n)]=some (.bool ((n.inn.filter fun k=>k.shB).all fun k=>!k.isT&&(Nd.ms k==Nd.ms n))):=ax3 (l:=n.inn.filter fun k=>k.shB) (Nat.le_trans (List.length_filter_le ..) hl) fun _=>rfl
     refine⟨(n.inn.filter fun k=>k.shB).all fun k=>!k.isT&&(Nd.ms k==Nd.ms n),A6 (ρ:=[‹n.d›]) rfl (by wp_walk using evD,Q8,ae5,gG,S2,sL,ae4,ne,aw5,e4,c,hm),fun z=>?_⟩
     obtain⟨m,f,e⟩:=h4 rfl
     cases n with
     | layer=>cases gG
     | tone=>cases gG
     | group nm m' s sh ns =>
      rw[Nd.ms]at e
      have e:=aI9 e
      subst e
      rw[Nd.stg]at s1
      rw[Nd.shB]at sL
      subst s1 sL
      refine⟨nm,m',ns,rfl,f,fun k hk sk=>?_⟩
      have:=List.all_eq_true.mp z k (List.mem_filter.mpr ⟨hk,sk⟩)
      simp only[Bool.and_eq_true,Bool.not_eq_true',beq_iff_eq]at this
      exact aX0 this.1 sk this.2
   ·have ne:=bu0 n.stg
    rw[decide_eq_false s1]at ne
    exact⟨false,A6 (ρ:=[‹n.d›]) rfl (by wp_walk using evD,Q8,ae5,gG,S2,sL,ae4,ne),(fun z=>nomatch z)⟩
theorem ap3{n:Nd}(h:n.shB=false) (x y:Int) (q:Q4):Nd.ab x y n q=q:=by cases n<;>(rw[Nd.shB]at h;subst h;rw[Nd.ab];simp)
theorem bM8{m:Man}(f:Man.three m) {a b:Q4}:m.bl a b=m.bl b a:=by
 have cov:∀{c d:Rat},m.cov c d=m.cov d c:=fun{c d}=>by rcases f with rfl|rfl|rfl<;>simp only[Man.cov,an3]<;>grind
 have col:∀{c d x y:Rat},m.col c d x y=m.col d c y x:=fun{c d x y}=>by rcases f with rfl|rfl|rfl<;>simp only[Man.col,an3]<;>grind
 unfold Man.bl
 simp only[Q4.mk.injEq]
 exact⟨cov,col,col,col⟩
theorem av1{m:Man}(f:m.four) {x y:Int}{q:Q4}(hq:q.or):∀(ns:List Nd) (r:Q4) (j:Nat),Nd.Oks ns->Nd.dps ns<=3->(∀k∈ns,k.shB=true->k.isM m)->Dq j r->j+Nd.wgs ns<=800->Nd.sw x y ns (m.bl r q)=m.bl (Nd.sw x y ns r) q
 | [],r,j,_,_,_,_,_=>by rw[Nd.sw,Nd.sw]
 | n::ns,r,j,o,d,h,hr,hw=>by
  rw[Nd.Oks]at o
  rw[Nd.dps]at d
  rw[Nd.wgs]at hw
  rw[Nd.sw,Nd.sw]
  cases s:n.shB with
  | false=>rw[ap3 s,ap3 s];exact av1 f hq ns r j o.2 (by omega) (fun k hk=>h k (xmm _ hk)) hr (by omega)
  | true =>
   have im:=h n (List.mem_cons_self ..) s
   have b:=(an4 im o.1 (by omega) (by omega) x y).2
   rw[ab8 im,ab8 im,← an5 f b.o hr.o hq]
   exact av1 f hq ns _ (n.wg+j) o.2 (by omega) (fun k hk=>h k (xmm _ hk)) (Dq.bl m b hr (by omega)).1 (by omega)
theorem bR9{m:Man}(f:m.four) {a b:List Nd}{L U:Nd}(hL:L.isM m) (hU:U.isM m) (o:Nd.Oks (a++L::U::b)) (d:Nd.dps (a++L::U::b)<=3) (hw:Nd.wgs (a++L::U::b)<=800) {w h:Nat}{x y:Int}(bb:0<=x/\x < w/\0<=y/\y < h):Nd.sw x y (a++Z3 m w h L U::b) q0=Nd.sw x y (a++L::U::b) q0:=by
 have o':=(U4 _ _).mp o
 rw[Nd.Oks,Nd.Oks]at o'
 rw[M4,Nd.dps,Nd.dps]at d
 rw[O7,Nd.wgs,Nd.wgs]at hw
 rw[u3,u3,Nd.sw,Nd.sw,Nd.sw]
 rw[bU5 f hL hU bb (an4 hL o'.2.1 (by omega) (by omega) x y).2.o (an4 hU o'.2.2.1 (by omega) (by omega) x y).2.o (bp8 o'.1 (Dq.zero 0) (by omega) x y).o]
theorem bE0{m:Man}(f:m.four) {a b ns:List Nd}{nm:D}(hm:∀k∈ns,k.shB=true->k.isM m) (o:Nd.Oks (a ++ .group nm m 1 true ns::b)) (d:Nd.dps (a ++ .group nm m 1 true ns::b)<=3) (hw:Nd.wgs (a ++ .group nm m 1 true ns::b)<=800) (x y:Int):Nd.sw x y (a++ns++b) q0=Nd.sw x y (a ++ .group nm m 1 true ns::b) q0:=by
 have o':=(U4 _ _).mp o
 rw[Nd.Oks,Nd.Ok]at o'
 rw[M4,Nd.dps,Nd.dp]at d
 rw[O7,Nd.wgs,Nd.wg]at hw
 have qa:=(bp8 o'.1 (Dq.zero 0) (by omega) x y).o
 have im:Nd.isM m (.group nm m 1 true ns):=⟨rfl,rfl⟩
 rw[u3,u3,u3,Nd.sw,ab8 im,Nd.br,cg1]
 have:=av1 f (x:=x) (y:=y) qa ns q0 1 o'.2.1.2 (by omega) hm (Dq.zero 0) (by omega)
 rw[ci3 m qa]at this
 rw[this]
theorem bD9{a b:List Nd}{L U:Nd}(hh:L.shB=false\/U.shB=false\/∃m:Man,Man.three m/\L.isM m/\U.isM m) (o:Nd.Oks (a++L::U::b)) (d:Nd.dps (a++L::U::b)<=3) (hw:Nd.wgs (a++L::U::b)<=800) (x y:Int):Nd.sw x y (a++U::L::b) q0=Nd.sw x y (a++L::U::b) q0:=by
 rw[u3,u3,Nd.sw,Nd.sw,Nd.sw,Nd.sw]
 congr 1
 rcases hh with s|s|⟨m,f,hL,hU⟩
 ·rw[ap3 s,ap3 s]
 ·rw[ap3 s,ap3 s]
 ·have o':=(U4 _ _).mp o
  rw[Nd.Oks,Nd.Oks]at o'
  rw[M4,Nd.dps,Nd.dps]at d
  rw[O7,Nd.wgs,Nd.wgs]at hw
  have qa:=(bp8 o'.1 (Dq.zero 0) (by omega) x y).o
  have bL:=(an4 hL o'.2.1 (by omega) (by omega) x y).2.o
  have bU:=(an4 hU o'.2.2.1 (by omega) (by omega) x y).2.o
  rw[ab8 hL,ab8 hU,ab8 hU,ab8 hL,← an5 f.four bL bU qa,← an5 f.four bU bL qa,bM8 f (a:=L.br x y)]
theorem bH6{d:D}(h:Nm d):V2 d:=by
 obtain⟨s,e,o,_⟩:=h
 exact⟨s,e,o⟩
structure Gd (W:Nat) (l:List Nd):Prop where
 ok:Nd.Oks l
 wg:Nd.wgs l<=W
 dp:Nd.dps l<=3
 off:Nd.offs l
 nm:∀d∈Nd.nmss l,Nm d
 nd:(Nd.nmss l).Nodup
 nl:(Nd.nmss l).length<=1000
theorem Gd.hs{W:Nat}{l:List Nd}(g:Gd W l):∀d∈Nd.nmss l,V2 d:=fun d hd=>bH6 (g.nm d hd)
theorem Gd.step{W k:Nat}{o o' l l':List Nd}(g:Gd W l) (r:Rp o o' l l') (n:NS o' o) (h1:Nd.Oks o->Nd.Oks o') (h2:Nd.wgs o'<=Nd.wgs o+k) (h3:Nd.dps o'<=Nd.dps o) (h4:Nd.offs o->Nd.offs o'):Gd (W+k) l':=by
 have N:=r.ns n
 have nl:=N.len
 have:=g.nl
 obtain⟨i1,i2,i3,i4⟩:=r.small h1 h2 h3 h4 (by omega)
 exact⟨i1 g.ok,by have:=g.wg;omega,by have:=g.dp;omega,i4 g.off,fun d hd=>g.nm d (N.sub d hd),N.nd g.nd,by omega⟩
theorem bz3{d:D}(hd:Nm d) (T:Str) (hT:T.length<=1000) {ρ:Rho}(e:A1 1 ρ=some d):∃z,ay0 Str.empty [dRp (A1 1),dC (.str T)] ρ=some z:=by
 obtain⟨x,rfl,lo,_,l6⟩:=hd
 have ha:x.cps.all (· < 1114112)=true:=by
  rw[← Array.all_toList,List.all_eq_true]
  intro c hc
  have:=lo c hc
  exact decide_eq_true (by omega)
 have rp:dRp (A1 1) ρ=some (.str (reprText x)):=by
  unfold dRp
  rw[e]
  show(if x.length<=1000/\x.cps.all (· < 1114112)=true then some (PyData.str (reprText x)) else none)=_
  rw[if_pos ⟨by omega,ha⟩]
 have ln:(reprText x).length<=10002:=by
  refine Nat.le_trans (PySem.StrLaws.reprText_len x fun z hz=>?_) (by omega)
  rw[← Array.all_toList,List.all_eq_true]at ha
  have:=of_decide_eq_true (ha z hz)
  omega
 have a1:(Str.empty++reprText x).length=(reprText x).length:=by
  have:(Str.empty++reprText x).length=Str.empty.length+(reprText x).length:=Array.size_append ..
  have k:Str.empty.length=0:=rfl
  omega
 have a2:((Str.empty++reprText x)++T).length=(Str.empty++reprText x).length+T.length:=Array.size_append ..
 exact⟨.str ((Str.empty++reprText x)++T),by simp only[ay0,dC,rp,xbs,if_pos (show(Str.empty++reprText x).length<=16777216 by omega),if_pos (show((Str.empty++reprText x)++T).length<=16777216 by omega)]⟩
structure Done (w h W:Nat) (l l':List Nd):Prop where
 g:Gd W l'
 ns:NS l' l
 sw:∀x y:Int,0<=x/\x < w/\0<=y/\y < h->Nd.sw x y l' q0=Nd.sw x y l q0
theorem ap9(l:List Nd) {i:Int}{k:Nat}(e:i=(k:Int)):v6 (Nd.ds l) none (some i)=Nd.ds (l.take k)/\v6 (Nd.ds l) (some i) none=Nd.ds (l.drop k):=by subst e;exact⟨bA7 l k,bA8 l k⟩
theorem NS.of{l' l:List Nd}(h:List.Sublist (Nd.nmss l') (Nd.nmss l)):NS l' l:=⟨_,h,List.Perm.refl _⟩
theorem bc6{m:Man}{w h:Nat}{L U:Nd}:(Z3 m w h L U).nms=[L.nm]:=by unfold Z3;rw[Nd.nms]
theorem bt9(n:Nd):List.Sublist [n.nm] n.nms:=by
 cases n with
 | layer=>rw[Nd.nm,Nd.nms];exact List.Sublist.refl _
 | tone=>rw[Nd.nm,Nd.nms];exact List.Sublist.refl _
 | group=>rw[Nd.nm,Nd.nms];exact(List.nil_sublist _).cons₂ _
theorem aW4{w h W:Nat}(Wf:Fits w h) {a b l:List Nd}{n:Nd}(g:Gd W l) (hW:W<=700) (St:Stands a n b l) :
  (∃l',af5 [B5 w h l,n.nm]=some (B5 w h l')/\W9 [B5 w h l,n.nm]=none/\Done w h (W+8) l l')\/W9 [B5 w h l,n.nm]=some ("NoMerge" : Str):=by
 obtain⟨e1,r1,e2,put⟩:=aq1 (w:=w) (h:=h) St g.dp g.hs g.nd g.nl
 have hn:Nm n.nm:=g.nm _ (St.nm _ (T9 n))
 have st:Z2 5 [B5 w h l,n.nm]=[‹B5 w h l›,‹n.nm›,none,none,none]:=rfl
 have e2':B6 [↥(a++n::b),n.nm]=some (.int (a.length:Nat)):=e2
 have raise:∀t:Bool,(Q5 (tB2 eqD (A1 3) ⇑0) (F8 (K4 (A2 T0 (A0 (dIx (A8 2) (A5 aa2 (A1 3) ⇑1)) (A0 (dIx (A8 2) (A1 3)) A3)))))) [‹B5 w h l›,‹n.nm›,‹↥(a++n::b)›,‹.int (a.length:Nat)›,none]=some t->W9 [B5 w h l,n.nm]=if t=true then some ("NoMerge" : Str) else(match (B2 4 (A2 n5 (A0 (A1 0) (A0 (dIx (A8 2) (A5 aa2 (A1 3) ⇑1)) (A0 (dIx (A8 2) (A1 3)) A3))))) [‹B5 w h l›,‹n.nm›,‹↥(a++n::b)›,‹.int (a.length:Nat)›,none] with|_=>none):=fun t ht=>by
  unfold W9 as4
  rw[st]
  have s2:(B2 2 (A2 K2 (A0 (A1 0) (A0 (A1 1) A3)))) [‹B5 w h l›,‹n.nm›,none,none,none]=some (.nx [‹B5 w h l›,‹n.nm›,‹↥(a++n::b)›,none,none]):=by wp_walk using evD,e1
  have c2:ae1 L1 (A0 (A1 0) (A0 (A1 1) A3)) [‹B5 w h l›,‹n.nm›,none,none,none]=none:=by wp_walk using evD,ae1,r1,Option.map_none
  have s3:(B2 3 (A2 B6 (A0 (A1 2) (A0 (A1 1) A3)))) [‹B5 w h l›,‹n.nm›,‹↥(a++n::b)›,none,none]=some (.nx [‹B5 w h l›,‹n.nm›,‹↥(a++n::b)›,‹.int (a.length:Nat)›,none]):=by wp_walk using evD,e2'
  cases t with
  | true =>
   obtain⟨z,fs⟩:=bz3 hn " can not be made one with what is right below it" (by decide +kernel) (ρ:=[‹B5 w h l›,‹n.nm›,‹↥(a++n::b)›,‹.int (a.length:Nat)›,none]) rfl
   simp only[k4,c2,s2,rNo,s3,rIf,ht,xbs,if_true,aa8,fs,xms]
  | false =>
   simp only[k4,c2,s2,rNo,s3,rIf,sIf,C9,ht,xbs,xft,if_false]
   split<;>rfl
 by_cases a0:a=[]
 ·subst a0
  refine .inr ?_
  have:=raise true (by wp_walk using evD,List.length_nil;rfl)
  simpa using this
 ·obtain⟨a',L,ea⟩:∃a' L,a=a'++[L]:=⟨a.dropLast,a.getLast a0,(List.dropLast_concat_getLast a0).symm⟩
  subst ea
  obtain⟨cb,ec,hc⟩:=aS1 L n
  have ln:(a'++[L]).length=a'.length+1:=by simp
  have sub1:((a'++[L]).length:Int) - 1=(a'.length:Int):=by rw[ln];omega
  have i1:atI (Nd.ds (a'++[L]++n::b)) (a'.length:Int)=some L.d:=aS5 (by rw[List.append_assoc,List.getElem?_append_right (Nat.le_refl _),Nat.sub_self];rfl)
  have i2:atI (Nd.ds (a'++[L]++n::b)) ((a'++[L]).length:Int)=some n.d:=aS5 (by rw[List.getElem?_append_right (Nat.le_refl _),Nat.sub_self];rfl)
  have nz:(((a'++[L]).length:Int)==0)=false:=by rw[ln];exact beq_eq_false_iff_ne.mpr (by omega)
  have cond:(Q5 (tB2 eqD (A1 3) ⇑0) (F8 (K4 (A2 T0 (A0 (dIx (A8 2) (A5 aa2 (A1 3) ⇑1)) (A0 (dIx (A8 2) (A1 3)) A3)))))) [‹B5 w h l›,‹n.nm›,‹↥(a'++[L]++n::b)›,‹.int ((a'++[L]).length:Nat)›,none]=some (!cb):=by wp_walk using evD,nz,sub1,i1,i2,ec
  have rr:=raise _ cond
  cases cb with
  | false =>
   refine .inr ?_
   simpa using rr
  | true =>
   refine .inl ?_
   obtain⟨m,f,hL,hU⟩:=hc rfl
   have P:=St.props
   obtain⟨l',rp,ep⟩:=put (a'++Z3 m w h L n::b)
   have inn:=rp.inn
   have eo:a'++[L]++n::b=a'++L::n::b:=by simp
   rw[eo]at rp inn
   have oo:=inn.1 g.ok
   have gw:=g.wg
   have gd:=g.dp
   have wo:=inn.2.1
   have dO:=inn.2.2.1
   have oo':=(U4 _ _).mp oo
   rw[Nd.Oks,Nd.Oks]at oo'
   have dd:Nd.dps (a'++L::n::b)<=3:=by omega
   have ww:Nd.wgs (a'++L::n::b)<=700:=by omega
   have dd':=dd
   have ww':=ww
   rw[M4,Nd.dps,Nd.dps]at dd'
   rw[O7,Nd.wgs,Nd.wgs]at ww'
   have mk:=bI2 (w:=w) (h:=h) hL hU oo'.2.1 oo'.2.2.1 (by omega) (by omega) (by omega) (by omega) l Wf.w1 Wf.w8 Wf.h1 Wf.h8
   have oOk:=bH0 (w:=w) (h:=h) hL hU oo'.2.1 oo'.2.2.1 (by omega) (by omega) (by omega) Wf.w1 Wf.w8 Wf.h1 Wf.h8
   have wO:(Z3 m w h L n).wg=n.wg+L.wg+8:=by unfold Z3;rw[Nd.wg]
   have dO':(Z3 m w h L n).dp=0:=by unfold Z3;rw[Nd.dp]
   have lens:=thins_of l g.nl
   have hz:=P.len (by have:=g.nl;omega) lens.1
   rw[eo,List.length_append,List.length_cons,List.length_cons]at hz
   have c1:=(ap9 (a'++[L]++n::b) (i:=(a'.length:Int)) rfl).1
   have c2:=(ap9 (a'++[L]++n::b) (i:=((a'++[L]).length:Int)+1) (k:=a'.length+2) (by rw[ln];omega)).2
   have t1:(a'++[L]++n::b).take a'.length=a':=by rw[eo,List.take_left]
   have t2:(a'++[L]++n::b).drop (a'.length+2)=b:=by rw[show a'++[L]++n::b=(a'++[L,n])++b by simp,List.drop_left' (by simp)]
   rw[t1]at c1
   rw[t2]at c2
   have k1:B1 ↥a' (.tuple [(Z3 m w h L n).d])=some ↥(a'++[Z3 m w h L n]):=by
    have:=aq0 a' [Z3 m w h L n] (by simp;omega)
    rwa [show Nd.ds [Z3 m w h L n]=[(Z3 m w h L n).d] by rw[Nd.ds,Nd.ds]]at this
   have k2:B1 ↥(a'++[Z3 m w h L n]) ↥b=some ↥(a'++Z3 m w h L n::b):=by
    have:=aq0 (a'++[Z3 m w h L n]) b (by simp;omega)
    rwa [show a'++[Z3 m w h L n]++b=a'++Z3 m w h L n::b by simp]at this
   refine⟨l',?_,by simpa using rr,?_⟩
   ·refine A6 (ρ:=[‹B5 w h l›,‹n.nm›,none,none,none]) rfl ?_
    have ff:tB2 eqD (A1 3) ⇑0 [‹B5 w h l›,‹n.nm›,‹↥(a'++[L]++n::b)›,‹.int ((a'++[L]).length:Nat)›,none]=some false:=by wp_walk using evD,nz
    wp_walk using evD,aT0,e1,e2',nz,sub1,i1,i2,ec,mk,aj3,c1,c2,k1,k2,ep
   ·refine⟨g.step rp ?_ (fun _=>?_) ?_ ?_ fun z=>?_,rp.ns ?_,fun x y bb=>rp.sw (bR9 f hL hU oo dd (by omega) bb)⟩
    ·exact NS.of (by
      rw[B8,B8,Nd.nmss,Nd.nmss,Nd.nmss,bc6]
      exact List.Sublist.append (List.Sublist.refl _) (List.Sublist.append (bt9 L) (List.sublist_append_right ..)))
    ·refine(U4 _ _).mpr ⟨oo'.1,?_⟩
     rw[Nd.Oks];exact⟨oOk,oo'.2.2.2⟩
    ·rw[O7,O7,Nd.wgs,Nd.wgs,Nd.wgs,wO];omega
    ·rw[M4,M4,Nd.dps,Nd.dps,Nd.dps,dO'];omega
    ·have:=(V4 _ _).mp z
     rw[Nd.offs,Nd.offs]at this
     refine(V4 _ _).mpr ⟨this.1,?_⟩
     rw[Nd.offs]
     refine⟨?_,this.2.2.2⟩
     unfold Z3;rw[Nd.off];omega
    ·exact NS.of (by
      rw[B8,B8,Nd.nmss,Nd.nmss,Nd.nmss,bc6]
      exact List.Sublist.append (List.Sublist.refl _) (List.Sublist.append (bt9 L) (List.sublist_append_right ..)))
abbrev e4(w h:Nat) (l:List Nd) (n:Nd) (o:List Nd) (k:Nat):Rho:=[‹B5 w h l›,‹n.nm›,‹↥o›,‹.int k›]
theorem aV7{w h W:Nat}{a b l:List Nd}{n:Nd}(g:Gd W l) (hW:W<=700) (St:Stands a n b l) :
  (∃l',af4 [B5 w h l,n.nm]=some (B5 w h l')/\V5 [B5 w h l,n.nm]=none/\Done w h (W+8) l l')\/V5 [B5 w h l,n.nm]=some ("NoOpen" : Str):=by
 obtain⟨e1,r1,e2,put⟩:=aq1 (w:=w) (h:=h) St g.dp g.hs g.nd g.nl
 have hn:Nm n.nm:=g.nm _ (St.nm _ (T9 n))
 have st:Z2 4 [B5 w h l,n.nm]=[‹B5 w h l›,‹n.nm›,none,none]:=rfl
 have P:=St.props
 have lens:=thins_of l g.nl
 have hz:=P.len (by have:=g.nl;omega) lens.1
 have tn:n.inn.length<=1000:=by
  have h0:(Nd.nmss (a++n::b)).length<=1000:=by
   have:=List.Nodup.length_le_of_subset (P.nd g.nd) P.sub
   have:=g.nl;omega
  rw[B8,Nd.nmss,List.length_append,List.length_append]at h0
  cases n with
  | layer=>exact Nat.zero_le _
  | tone=>exact Nat.zero_le _
  | group nm m s sh ns =>
   rw[Nd.nms,List.length_cons]at h0
   have:=thins_of ns (by omega)
   show ns.length<=1000
   omega
 obtain⟨cb,ec,hc⟩:=aK9 n tn
 have i2:atI (Nd.ds (a++n::b)) (a.length:Int)=some n.d:=aS5 (by rw[List.getElem?_append_right (Nat.le_refl _),Nat.sub_self];rfl)
 have s2:(B2 2 (A2 K2 (A0 (A1 0) (A0 (A1 1) A3)))) [‹B5 w h l›,‹n.nm›,none,none]=some (.nx [‹B5 w h l›,‹n.nm›,‹↥(a++n::b)›,none]):=by wp_walk using evD,e1
 have c2:ae1 L1 (A0 (A1 0) (A0 (A1 1) A3)) [‹B5 w h l›,‹n.nm›,none,none]=none:=by wp_walk using evD,ae1,r1,Option.map_none
 have s3:(B2 3 (A2 B6 (A0 (A1 2) (A0 (A1 1) A3)))) [‹B5 w h l›,‹n.nm›,‹↥(a++n::b)›,none]=some (.nx (e4 w h l n (a++n::b) a.length)):=by wp_walk using evD,e2
 have cond:(F8 (K4 (A2 R0 (A0 (dIx (A8 2) (A1 3)) A3)))) (e4 w h l n (a++n::b) a.length)=some (!cb):=by wp_walk using evD,i2,ec
 cases cb with
 | false =>
  refine .inr ?_
  obtain⟨z,fs⟩:=bz3 hn " is no group that can be left out around its nodes" (by decide +kernel) (ρ:=e4 w h l n (a++n::b) a.length) rfl
  unfold V5 as4
  rw[st]
  simp only[k4,c2,s2,rNo,s3,rIf,cond,xnf,xbs,if_true,aa8,fs,xms]
 | true =>
  refine .inl ?_
  have rn:V5 [B5 w h l,n.nm]=none:=by
   unfold V5 as4
   rw[st]
   simp only[k4,c2,s2,rNo,s3,rIf,sIf,C9,cond,xnt,xbs,xft,if_false,Option.map_none]
  obtain⟨nm,m,ns,en,f,hm⟩:=hc rfl
  obtain⟨l',rp,ep⟩:=put (a++ns++b)
  have inn:=rp.inn
  rw[en]at inn rp
  have oo:=inn.1 g.ok
  have gw:=g.wg
  have gd:=g.dp
  have wo:=inn.2.1
  have dO:=inn.2.2.1
  have oo':=(U4 _ _).mp oo
  rw[Nd.Oks,Nd.Ok]at oo'
  have dd:Nd.dps (a ++ .group nm m 1 true ns::b)<=3:=by omega
  have ww:Nd.wgs (a ++ .group nm m 1 true ns::b)<=700:=by omega
  have nin:C7 [n.d]=some ↥ns:=by rw[en];exact ab6
  have tn':ns.length<=1000:=by rw[en]at tn;exact tn
  have hz2:a.length+ns.length+b.length<=1000:=by
   have h0:(Nd.nmss (a++n::b)).length<=1000:=by
    have:=List.Nodup.length_le_of_subset (P.nd g.nd) P.sub
    have:=g.nl;omega
   rw[en,B8,Nd.nmss,Nd.nms,List.length_append,List.length_append,List.length_cons]at h0
   have:=(thins_of ns (by omega)).2
   have:=(thins_of a (by omega)).2
   have:=(thins_of b (by omega)).2
   omega
  have c1:=(ap9 (a++n::b) (i:=(a.length:Int)) rfl).1
  have c2':=(ap9 (a++n::b) (i:=(a.length:Int)+1) (k:=a.length+1) (by omega)).2
  rw[List.take_left]at c1
  rw[show(a++n::b).drop (a.length+1)=b by rw[show a++n::b=(a++[n])++b by simp,List.drop_left' (by simp)]]at c2'
  have k1:=aq0 a ns (by omega)
  have k2:=aq0 (a++ns) b (by rw[List.length_append];omega)
  refine⟨l',?_,rn,?_⟩
  ·refine A6 (ρ:=[‹B5 w h l›,‹n.nm›,none,none]) rfl ?_
   wp_walk using evD,aS9,e1,e2,i2,ec,aj3,c1,c2',nin,k1,k2,ep
  ·have nss:NS (a++ns++b) (a ++ .group nm m 1 true ns::b):=NS.of (by
    rw[B8,B8,B8,Nd.nmss,Nd.nms,List.append_assoc]
    exact List.Sublist.append (List.Sublist.refl _) (List.Sublist.append (List.sublist_cons_self ..) (List.Sublist.refl _)))
   refine⟨g.step rp nss (fun _=>?_) ?_ ?_ fun z=>?_,rp.ns nss,fun x y bb=>rp.sw (bE0 f hm oo dd (by omega) x y)⟩
   ·exact(U4 _ _).mpr ⟨(U4 _ _).mpr ⟨oo'.1,oo'.2.1.2⟩,oo'.2.2⟩
   ·rw[O7,O7,O7,Nd.wgs,Nd.wg];omega
   ·rw[M4,M4,M4,Nd.dps,Nd.dp]
    exact Nat.max_le.mpr ⟨Nat.max_le.mpr ⟨Nat.le_max_left ..,Nat.le_trans (Nat.le_add_left _ 1) (Nat.le_trans (Nat.le_max_left ..) (Nat.le_max_right ..))⟩,Nat.le_trans (Nat.le_max_right ..) (Nat.le_max_right ..)⟩
   ·have:=(V4 _ _).mp z
    rw[Nd.offs,Nd.off]at this
    exact(V4 _ _).mpr ⟨(V4 _ _).mpr ⟨this.1,this.2.1.2⟩,this.2.2⟩
theorem aM7{w h W:Nat}{a b l:List Nd}{n:Nd}(g:Gd W l) (hW:W<=700) (St:Stands a n b l) :
  (∃l',x5 [B5 w h l,n.nm]=some (B5 w h l')/\S4 [B5 w h l,n.nm]=none/\Done w h (W+8) l l')\/S4 [B5 w h l,n.nm]=some ("NoSwap" : Str):=by
 obtain⟨e1,r1,e2,put⟩:=aq1 (w:=w) (h:=h) St g.dp g.hs g.nd g.nl
 have hn:Nm n.nm:=g.nm _ (St.nm _ (T9 n))
 have st:Z2 5 [B5 w h l,n.nm]=[‹B5 w h l›,‹n.nm›,none,none,none]:=rfl
 have P:=St.props
 have lens:=thins_of l g.nl
 have hz:=P.len (by have:=g.nl;omega) lens.1
 have i2:atI (Nd.ds (a++n::b)) (a.length:Int)=some n.d:=aS5 (by rw[List.getElem?_append_right (Nat.le_refl _),Nat.sub_self];rfl)
 have s2:(B2 2 (A2 K2 (A0 (A1 0) (A0 (A1 1) A3)))) [‹B5 w h l›,‹n.nm›,none,none,none]=some (.nx [‹B5 w h l›,‹n.nm›,‹↥(a++n::b)›,none,none]):=by wp_walk using evD,e1
 have c2:ae1 L1 (A0 (A1 0) (A0 (A1 1) A3)) [‹B5 w h l›,‹n.nm›,none,none,none]=none:=by wp_walk using evD,ae1,r1,Option.map_none
 have s3:(B2 3 (A2 B6 (A0 (A1 2) (A0 (A1 1) A3)))) [‹B5 w h l›,‹n.nm›,‹↥(a++n::b)›,none,none]=some (.nx [‹B5 w h l›,‹n.nm›,‹↥(a++n::b)›,‹.int (a.length:Nat)›,none]):=by wp_walk using evD,e2
 have dl:(((Nd.ds (a++n::b)).length:Nat):Int)=(a.length:Int)+1+(b.length:Int):=by rw[P0,List.length_map,List.length_append,List.length_cons];omega
 have raise:(Q5 (tB2 eqD (A5 B1 (A1 3) ⇑1) (R4 (A8 2))) (F8 (K4 (A2 K5 (A0 (dIx (A8 2) (A1 3)) (A0 (dIx (A8 2) (A5 B1 (A1 3) ⇑1)) A3)))))) [‹B5 w h l›,‹n.nm›,‹↥(a++n::b)›,‹.int (a.length:Nat)›,none]=some true->S4 [B5 w h l,n.nm]=some ("NoSwap" : Str):=fun cond=>by
  obtain⟨z,fs⟩:=bz3 hn " can not change places with what is right above it" (by decide +kernel) (ρ:=[‹B5 w h l›,‹n.nm›,‹↥(a++n::b)›,‹.int (a.length:Nat)›,none]) rfl
  unfold S4 as4
  rw[st]
  simp only[k4,c2,s2,rNo,s3,rIf,cond,xbs,if_true,aa8,fs,xms]
 cases b with
 | nil =>
  refine .inr (raise ?_)
  have:(((a.length:Int)+1)==(((Nd.ds (a++n::[])).length:Nat):Int))=true:=by rw[dl];simp
  wp_walk using evD,this
 | cons U b =>
  obtain⟨cb,ec,hc⟩:=aK8 n U
  have i1:atI (Nd.ds (a++n::U::b)) ((a.length:Int)+1)=some U.d:=by
   have:=aS5 (l:=a++n::U::b) (i:=a.length+1) (n:=U) (by rw[List.getElem?_append_right (by omega),show a.length+1 - a.length=1 by omega];rfl)
   rwa [show((a.length+1:Nat):Int)=(a.length:Int)+1 by omega]at this
  have ne:(((a.length:Int)+1)==(((Nd.ds (a++n::U::b)).length:Nat):Int))=false:=by rw[dl];exact beq_eq_false_iff_ne.mpr (by rw[List.length_cons];omega)
  have cond:(Q5 (tB2 eqD (A5 B1 (A1 3) ⇑1) (R4 (A8 2))) (F8 (K4 (A2 K5 (A0 (dIx (A8 2) (A1 3)) (A0 (dIx (A8 2) (A5 B1 (A1 3) ⇑1)) A3)))))) [‹B5 w h l›,‹n.nm›,‹↥(a++n::U::b)›,‹.int (a.length:Nat)›,none]=some (!cb):=by wp_walk using evD,ne,i1,i2,ec
  cases cb with
  | false=>exact .inr (raise cond)
  | true =>
   refine .inl ?_
   have s4:(B2 4 (O1 (A0 (dIx (A8 2) (A5 B1 (A1 3) ⇑1)) (A0 (dIx (A8 2) (A1 3)) A3)))) [‹B5 w h l›,‹n.nm›,‹↥(a++n::U::b)›,‹.int (a.length:Nat)›,none]=some (.nx [‹B5 w h l›,‹n.nm›,‹↥(a++n::U::b)›,‹.int (a.length:Nat)›,‹.tuple [U.d,n.d]›]):=by wp_walk using evD,i1,i2
   have rn:S4 [B5 w h l,n.nm]=none:=by
    unfold S4 as4
    rw[st]
    simp only[k4,c2,s2,rNo,s3,s4,rIf,sIf,C9,cond,xnt,xbs,xft,if_false,Option.map_none]
   obtain⟨l',rp,ep⟩:=put (a++U::n::b)
   have inn:=rp.inn
   have oo:=inn.1 g.ok
   have gw:=g.wg
   have gd:=g.dp
   have wo:=inn.2.1
   have dO:=inn.2.2.1
   have oo':=(U4 _ _).mp oo
   rw[Nd.Oks,Nd.Oks]at oo'
   have dd:Nd.dps (a++n::U::b)<=3:=by omega
   have ww:Nd.wgs (a++n::U::b)<=700:=by omega
   rw[List.length_append,List.length_cons,List.length_cons]at hz
   have c1:=(ap9 (a++n::U::b) (i:=(a.length:Int)) rfl).1
   have c2':=(ap9 (a++n::U::b) (i:=(a.length:Int)+2) (k:=a.length+2) (by omega)).2
   rw[List.take_left]at c1
   rw[show(a++n::U::b).drop (a.length+2)=b by rw[show a++n::U::b=(a++[n,U])++b by simp,List.drop_left' (by simp)]]at c2'
   have k1:B1 ↥a (.tuple [U.d,n.d])=some ↥(a++[U,n]):=by
    have:=aq0 a [U,n] (by simp;omega)
    rwa [show Nd.ds [U,n]=[U.d,n.d] by rw[Nd.ds,Nd.ds,Nd.ds]]at this
   have k2:B1 ↥(a++[U,n]) ↥b=some ↥(a++U::n::b):=by
    have:=aq0 (a++[U,n]) b (by simp;omega)
    rwa [show a++[U,n]++b=a++U::n::b by simp]at this
   refine⟨l',?_,rn,?_⟩
   ·refine A6 (ρ:=[‹B5 w h l›,‹n.nm›,none,none,none]) rfl ?_
    wp_walk using evD,aF8,e1,e2,ne,i1,i2,ec,aj3,c1,c2',k1,k2,ep
   ·have nss:NS (a++U::n::b) (a++n::U::b):=by
     refine⟨_,List.Sublist.refl _,?_⟩
     rw[B8,B8,Nd.nmss,Nd.nmss,Nd.nmss,Nd.nmss]
     refine List.Perm.append (List.Perm.refl _) ?_
     rw[← List.append_assoc,← List.append_assoc]
     exact List.Perm.append List.perm_append_comm (List.Perm.refl _)
    refine⟨g.step rp nss (fun _=>?_) ?_ ?_ fun z=>?_,rp.ns nss,fun x y bb=>rp.sw (bD9 (hc rfl) oo dd (by omega) x y)⟩
    ·refine(U4 _ _).mpr ⟨oo'.1,?_⟩
     rw[Nd.Oks,Nd.Oks];exact⟨oo'.2.2.1,oo'.2.1,oo'.2.2.2⟩
    ·rw[O7,O7,Nd.wgs,Nd.wgs,Nd.wgs,Nd.wgs];omega
    ·rw[M4,M4,Nd.dps,Nd.dps,Nd.dps,Nd.dps,Nat.max_left_comm U.dp];exact Nat.le_refl _
    ·have:=(V4 _ _).mp z
     rw[Nd.offs,Nd.offs]at this
     refine(V4 _ _).mpr ⟨this.1,?_⟩
     rw[Nd.offs,Nd.offs]
     exact⟨this.2.2.1,this.2.1,this.2.2.2⟩
mutual
theorem bi3:∀n:Nd,n.near->n.thin->n.off
 | .layer ..,o,_=>by rw[Nd.near]at o;rw[Nd.off];omega
 | .tone ..,_,_=>by rw[Nd.off];trivial
 | .group nm m s sh ns,o,t=>by
  rw[Nd.near]at o;rw[Nd.thin]at t;rw[Nd.off]
  exact⟨t.1,nears_off' ns o t.2⟩
theorem nears_off':∀l:List Nd,Nd.nears l->Nd.thins l->Nd.offs l
 | [],_,_=>by rw[Nd.offs];trivial
 | n::r,o,t=>by
  rw[Nd.nears]at o;rw[Nd.thins]at t;rw[Nd.offs]
  exact⟨bi3 n o.1 t.1,nears_off' r o.2 t.2⟩
end
theorem Gd.mono{W W':Nat}{l:List Nd}(g:Gd W l) (h:W<=W'):Gd W' l:=⟨g.ok,Nat.le_trans g.wg h,g.dp,g.off,g.nm,g.nd,g.nl⟩
theorem Done.same{w h W:Nat}{l:List Nd}(g:Gd W l):Done w h (W+8) l l:=⟨g.mono (by omega),NS.of (List.Sublist.refl _),fun _ _ _=>rfl⟩
theorem ay6{k:Nat}{p d:D}{R:List D->Option Str}{F:List D->Option D}(hk:k=0/\R=W9/\F=af5\/k=1/\R=V5/\F=af4\/k=2/\R=S4/\F=x5) :
  (∀q,R [p,d]=none->F [p,d]=some q->X6 [.int k,p,d]=some q)/\(∀x:Str,R [p,d]=some x->(x = "NoMerge" \/ x = "NoOpen" \/ x = "NoSwap")->X6 [.int k,p,d]=some p):=by
 have hw:∀x:Str,(x = "NoMerge" \/ x = "NoOpen" \/ x = "NoSwap")->am4 x [‹.int k›,‹p›,‹d›] [(["NoMerge"],["NoName", "NoOpen", "NoSwap"],(A9 (A1 1))),(["NoOpen"],["NoMerge", "NoName", "NoSwap"],(A9 (A1 1))),(["NoSwap"],["NoMerge", "NoName", "NoOpen"],(A9 (A1 1)))]=some (.rt p):=fun x hx=>by
  have g:A9 (A1 1) [‹.int k›,‹p›,‹d›]=some (.rt p):=rfl
  have a1:(["NoMerge"]:List Str).contains "NoMerge" = true:=by decide +kernel
  have a2:(["NoMerge"]:List Str).contains "NoOpen" = false:=by decide +kernel
  have a3:(["NoMerge"]:List Str).contains "NoSwap" = false:=by decide +kernel
  have b2:(["NoName", "NoOpen", "NoSwap"]:List Str).contains "NoOpen" = true:=by decide +kernel
  have b3:(["NoName", "NoOpen", "NoSwap"]:List Str).contains "NoSwap" = true:=by decide +kernel
  have c2:(["NoOpen"]:List Str).contains "NoOpen" = true:=by decide +kernel
  have c3:(["NoOpen"]:List Str).contains "NoSwap" = false:=by decide +kernel
  have d3:(["NoMerge", "NoName", "NoSwap"]:List Str).contains "NoSwap" = true:=by decide +kernel
  have e3:(["NoSwap"]:List Str).contains "NoSwap" = true:=by decide +kernel
  rcases hx with rfl|rfl|rfl
  ·simp only[am4,a1,g,if_true]
  ·simp only[am4,a2,b2,c2,g,if_true,xft,if_false]
  ·simp only[am4,a3,b3,c3,d3,e3,g,if_true,xft,if_false]
 have rc:aH9 [W9,V5,S4] (A1 0) (A0 (A1 1) (A0 (A1 2) A3)) [‹.int k›,‹p›,‹d›]=(R [p,d]).map fun x=>(x,[‹.int k›,‹p›,‹d›]):=by rcases hk with⟨rfl,rfl,rfl⟩|⟨rfl,rfl,rfl⟩|⟨rfl,rfl,rfl⟩<;>rfl
 have dc:aK7 [af5,af4,x5] (A1 0) (A0 (A1 1) (A0 (A1 2) A3)) [‹.int k›,‹p›,‹d›]=F [p,d]:=by rcases hk with⟨rfl,rfl,rfl⟩|⟨rfl,rfl,rfl⟩|⟨rfl,rfl,rfl⟩<;>rfl
 refine⟨fun q h1 h2=>?_,fun x h1 h2=>?_⟩
 ·refine A6 (ρ:=[‹.int k›,‹p›,‹d›]) rfl ?_
  unfold aq4 aD3
  rw[rc,h1]
  show A9 _ _=_
  unfold A9
  rw[dc,h2];rfl
 ·refine A6 (ρ:=[‹.int k›,‹p›,‹d›]) rfl ?_
  unfold aq4 aD3
  rw[rc,h1]
  exact hw x h2
theorem bB7{w h W:Nat}(Wf:Fits w h) {l:List Nd}{d:D}(g:Gd W l) (hW:W<=700) (hd:d∈Nd.nmss l) {k:Nat}(hk:k < 3):∃l',X6 [.int k,B5 w h l,d]=some (B5 w h l')/\Done w h (W+8) l l':=by
 obtain⟨a,n,b,St,rfl⟩:=nms_stands [] l d hd
 rw[xna]at St
 obtain rfl|rfl|rfl:k=0\/k=1\/k=2:=by omega
 ·obtain⟨A,B⟩:=ay6 (k:=0) (p:=B5 w h l) (d:=n.nm) (.inl ⟨rfl,rfl,rfl⟩)
  rcases aW4 Wf g hW St with⟨l',e1,e2,dn⟩|e
  ·exact⟨l',A _ e2 e1,dn⟩
  ·exact⟨l,B _ e (.inl rfl),.same g⟩
 ·obtain⟨A,B⟩:=ay6 (k:=1) (p:=B5 w h l) (d:=n.nm) (.inr (.inl ⟨rfl,rfl,rfl⟩))
  rcases aV7 (w:=w) (h:=h) g hW St with⟨l',e1,e2,dn⟩|e
  ·exact⟨l',A _ e2 e1,dn⟩
  ·exact⟨l,B _ e (.inr (.inl rfl)),.same g⟩
 ·obtain⟨A,B⟩:=ay6 (k:=2) (p:=B5 w h l) (d:=n.nm) (.inr (.inr ⟨rfl,rfl,rfl⟩))
  rcases aM7 (w:=w) (h:=h) g hW St with⟨l',e1,e2,dn⟩|e
  ·exact⟨l',A _ e2 e1,dn⟩
  ·exact⟨l,B _ e (.inr (.inr rfl)),.same g⟩
theorem bV7{L:List D}(h:∀d∈L,V2 d):neD (.list L) (.list [])=some (.bool (!L.isEmpty)):=by
 have g:Ly 1 (.list L):=Ly.lst (n:=0) fun d hd=>by
  obtain⟨s,rfl,o⟩:=h d hd
  exact⟨o.ok,Nat.zero_le _⟩
 have e:Ly 1 (.list ([]:List D)):=⟨rfl,Nat.le_refl _⟩
 unfold neD
 rw[if_pos ⟨g.shaped (by decide),e.shaped (by decide)⟩]
 cases L<;>rfl
theorem bO3{l:List Nd}{W:Nat}(g:Gd W l) (hW:W<=780):Small6 l:=⟨g.ok,by have:=g.wg;omega,by have:=g.dp;omega⟩
def bd:DS:=(B0 (B2 5 (A2 O6 (A0 (A1 1) A3))) (B0 (sIf (tB2 neD (A1 5) (W0 A3)) (B0 (B2 6 (dIx (A8 5) (A2 A7 (A0 (A1 0) (A0 (A5 B1 ⇑800 (A5 K7 ⇑2 (A1 4))) (A0 (R4 (A8 5)) A3)))))) (B2 1 (A2 X6 (A0 (A2 A7 (A0 (A1 0) (A0 (A5 B1 ⇑801 (A5 K7 ⇑2 (A1 4))) (A0 ⇑3 A3)))) (A0 (A1 1) (A0 (A1 6) A3)))))) C9) (B0 (sIf (Q5 (tB2 ao8 (A2 U7 (A0 (A1 1) A3)) (dC (.bool true))) (tB2 neD (A2 af6 (A0 (A1 1) A3)) (A1 2))) (A9 (dC (.bool false))) C9) (sIf (tB2 neD (W0 (C2 1 [3] (Q6 (A2 O6 (A0 (A1 1) A3))) (B7 0) (tB2 (inD true) (A1 0) (A1 1)) (A1 0))) (W0 A3)) (A9 (dC (.bool false))) C9))))
theorem cm3(ns:List Int) (hn:ns.length<=63) {w h:Nat}(Wf:Fits w h) {l l0:List Nd}{N0:List D}{W:Nat}(g:Gd W l) (hW:W<=700) (hs0:∀d∈N0,V2 d) (sub:∀d∈Nd.nmss l,d∈N0) (sw:∀x y:Int,0<=x/\x < w/\0<=y/\y < h->Nd.sw x y l q0=Nd.sw x y l0 q0) {j:Nat}(hj:j < 6) (a5 a6:Option B) :
  ∃l' b5 b6,bd [‹scr ns›,‹B5 w h l›,‹shD w h (flL w h l0)›,‹.list N0›,‹.int j›,a5,a6]=some (.nx [‹scr ns›,‹B5 w h l'›,‹shD w h (flL w h l0)›,‹.list N0›,‹.int j›,b5,b6])/\Gd (W+8) l'/\(∀d∈Nd.nmss l',d∈N0)/\∀x y:Int,0<=x/\x < w/\0<=y/\y < h->Nd.sw x y l' q0=Nd.sw x y l0 q0:=by
 have e5:=ae6 (w:=w) (h:=h) g.dp g.nl
 have s5:(B2 5 (A2 O6 (A0 (A1 1) A3))) [‹scr ns›,‹B5 w h l›,‹shD w h (flL w h l0)›,‹.list N0›,‹.int j›,a5,a6]=some (.nx [‹scr ns›,‹B5 w h l›,‹shD w h (flL w h l0)›,‹.list N0›,‹.int j›,‹.list (Nd.nmss l)›,a6]):=by wp_walk using evD,e5
 have mid:∃l' b6,(sIf (tB2 neD (A1 5) (W0 A3)) (B0 (B2 6 (dIx (A8 5) (A2 A7 (A0 (A1 0) (A0 (A5 B1 ⇑800 (A5 K7 ⇑2 (A1 4))) (A0 (R4 (A8 5)) A3)))))) (B2 1 (A2 X6 (A0 (A2 A7 (A0 (A1 0) (A0 (A5 B1 ⇑801 (A5 K7 ⇑2 (A1 4))) (A0 ⇑3 A3)))) (A0 (A1 1) (A0 (A1 6) A3)))))) C9) [‹scr ns›,‹B5 w h l›,‹shD w h (flL w h l0)›,‹.list N0›,‹.int j›,‹.list (Nd.nmss l)›,a6]=some (.nx [‹scr ns›,‹B5 w h l'›,‹shD w h (flL w h l0)›,‹.list N0›,‹.int j›,‹.list (Nd.nmss l)›,b6])/\Done w h (W+8) l l':=by
  have ne:=bV7 g.hs
  cases q:(Nd.nmss l).isEmpty with
  | true =>
   rw[q]at ne
   exact⟨l,a6,by(wp_walk using evD,ne),.same g⟩
  | false =>
   rw[q]at ne
   have pos:0 < (Nd.nmss l).length:=by
    cases z:Nd.nmss l with
    | nil=>rw[z]at q;cases q
    | cons=>simp
   have nl:=g.nl
   have m2:K7 (.int 2) (.int j)=some (.int (2*(j:Int))):=by rcases(by omega:j=0\/j=1\/j=2\/j=3\/j=4\/j=5) with rfl|rfl|rfl|rfl|rfl|rfl<;>rfl
   obtain⟨d,ed,ld⟩:=K3 ns hn (e:=800+2*(j:Int)) (m':=(((Nd.nmss l).length:Nat):Int)) (800+2*j) (Nd.nmss l).length (by omega) rfl (by omega) pos
   obtain⟨k,ek,lk⟩:=K3 ns hn (e:=801+2*(j:Int)) (m':=3) (801+2*j) 3 (by omega) rfl (by omega) (by decide)
   have ix:atI (Nd.nmss l) (d:Int)=some ((Nd.nmss l)[d]'ld):=by
    unfold atI
    rw[ai7 (by omega) (by omega),xbs,Int.toNat_natCast,List.getElem?_eq_getElem ld]
   obtain⟨l',ea,dn⟩:=bB7 Wf g hW (List.getElem_mem ld) lk
   exact⟨l',‹(Nd.nmss l)[d]'ld›,by(wp_walk using evD,ne,m2,ed,ix,ek,ea),dn⟩
 obtain⟨l',b6,s6,dn⟩:=mid
 have g':=dn.g
 have sub':∀d∈Nd.nmss l',d∈N0:=fun d hd=>sub d (dn.ns.sub d hd)
 have sw':∀x y:Int,0<=x/\x < w/\0<=y/\y < h->Nd.sw x y l' q0=Nd.sw x y l0 q0:=fun x y bb=>(dn.sw x y bb).trans (sw x y bb)
 refine⟨l',‹.list (Nd.nmss l)›,b6,?_,g',sub',sw'⟩
 have th:=thins_of l' g'.nl
 have ip:U7 [B5 w h l']=some (.bool true):=aI3 Wf.w1 Wf.w8 Wf.h1 Wf.h8 g'.dp (by have:=g'.nl;omega) g'.ok g'.off g'.nl g'.nm g'.nd
 have fl:af6 [B5 w h l']=some (shD w h (flL w h l0)):=by
  have:=be7 (w:=w) (h:=h) (bO3 g' (by omega)) Wf.w1 Wf.w8 Wf.h8
  rwa [show flL w h l'=flL w h l0 by
   unfold flL
   exact List.map_congr_left fun p hp=>sw' p.1 p.2 (bF7 hp Wf.w1)]at this
 have sn:neD (shD w h (flL w h l0)) (shD w h (flL w h l0))=some (.bool false):=bc7 (Ly.sheet w h _) (by decide)
 have nb:ao8 (.bool true) (.bool true)=some (.bool false):=rfl
 have s7:(sIf (Q5 (tB2 ao8 (A2 U7 (A0 (A1 1) A3)) (dC (.bool true))) (tB2 neD (A2 af6 (A0 (A1 1) A3)) (A1 2))) (A9 (dC (.bool false))) C9) [‹scr ns›,‹B5 w h l'›,‹shD w h (flL w h l0)›,‹.list N0›,‹.int j›,‹.list (Nd.nmss l)›,b6]=some (.nx [‹scr ns›,‹B5 w h l'›,‹shD w h (flL w h l0)›,‹.list N0›,‹.int j›,‹.list (Nd.nmss l)›,b6]):=by wp_walk using evD,ip,nb,fl,sn
 have en1:=ae6 (w:=w) (h:=h) g'.dp g'.nl
 have c8:C2 1 [3] (Q6 (A2 O6 (A0 (A1 1) A3))) (B7 0) (tB2 (inD true) (A1 0) (A1 1)) (A1 0) [‹scr ns›,‹B5 w h l'›,‹shD w h (flL w h l0)›,‹.list N0›,‹.int j›,‹.list (Nd.nmss l)›,b6]=some []:=by
  have:=bc9 (caps:=[3]) (src:=Q6 (A2 O6 (A0 (A1 1) A3))) (c:=tB2 (inD true) (A1 0) (A1 1)) (e:=A1 0) (ρ:=[‹scr ns›,‹B5 w h l'›,‹shD w h (flL w h l0)›,‹.list N0›,‹.int j›,‹.list (Nd.nmss l)›,b6]) (l:=Nd.nmss l') (h:=id) (f:=id) (p:=fun _=>false) (r:=[‹.list N0›]) rfl (by rw[List.map_id];wp_walk using evD,en1) g'.nl (fun d hd=>by
   have a1:=cb9 (sub' d hd) hs0
   wp_walk using evD,id,a1) (fun d _=>by wp_walk using evD,id)
  rw[this]
  simp
 have nil_ne:neD (.list []) (.list [])=some (.bool false):=bc7 (n:=1) ⟨rfl,Nat.le_refl _⟩ (by decide)
 have s8:(sIf (tB2 neD (W0 (C2 1 [3] (Q6 (A2 O6 (A0 (A1 1) A3))) (B7 0) (tB2 (inD true) (A1 0) (A1 1)) (A1 0))) (W0 A3)) (A9 (dC (.bool false))) C9) [‹scr ns›,‹B5 w h l'›,‹shD w h (flL w h l0)›,‹.list N0›,‹.int j›,‹.list (Nd.nmss l)›,b6]=some (.nx [‹scr ns›,‹B5 w h l'›,‹shD w h (flL w h l0)›,‹.list N0›,‹.int j›,‹.list (Nd.nmss l)›,b6]):=by
  have q:tB2 neD (W0 (C2 1 [3] (Q6 (A2 O6 (A0 (A1 1) A3))) (B7 0) (tB2 (inD true) (A1 0) (A1 1)) (A1 0))) (W0 A3) [‹scr ns›,‹B5 w h l'›,‹shD w h (flL w h l0)›,‹.list N0›,‹.int j›,‹.list (Nd.nmss l)›,b6]=some false:=by simp only[tB2,A5,W0,c8,A3,xms,xbs,nil_ne,R8]
  simp only[sIf,q,xbs,xft,if_false,C9]
 unfold bd
 rw[E2 s5,E2 s6,E2 s7]
 exact s8
theorem main:∀ns:List Int,ns.length<=63->bf9 [.list (ns.map PyData.int)]=some (.bool true):=by
 intro ns hn
 obtain⟨N,eN,hN,b,hP⟩:=bu2 ns hn 0 6 (by decide) (by decide)
 have eN:y6 [scr ns,.int 0,.int 6]=some (.list N):=eN
 obtain⟨w,h,l,ep,hl,hw,hh⟩:=aV5 ns hn 30 4 (by decide) (by decide) N (by omega)
 have ep:Y8 [scr ns,.int 30,.int 4,.list N]=some (B5 w h l):=ep
 have w1:=hw.1
 have w8:w<=8:=by omega
 have h1:=hh.1
 have h8:h<=8:=by omega
 have Wf:Fits w h:=⟨w1,w8,h1,h8⟩
 obtain⟨is,q1_ix,q2,q3⟩:=hl.ix
 have nmv:∀j,j < 6->∃y,N.getD j .none=.str (nmS b j y)/\SOk y/\y.length<=4:=fun j hj=>by
  obtain⟨y,e1,e2⟩:=hP j hj
  exact⟨y,by rw[List.getD_eq_getElem?_getD,e1];rfl,e2⟩
 have lw:=hl.wg
 have ld:=hl.dp
 have ll:=hl.len
 have nm6:∀j,j < 6->Nm (N.getD j .none):=fun j hj=>by
  obtain⟨y,e1,e2,e3⟩:=nmv j hj
  have z:(nmS b j y).length=y.length+1:=by
   have lc:(ltr j).cps.size=1:=rfl
   cases b
   ·show(y.cps++(ltr j).cps).size=_
    rw[Array.size_append,lc];rfl
   ·show((ltr j).cps++y.cps).size=_
    rw[Array.size_append,lc,Nat.add_comm];rfl
  exact⟨_,e1,bH8 b (by omega) e2,by omega,by omega⟩
 have nlen:(Nd.nmss l).length<=1000:=by
  rw[q1_ix,List.length_map]
  have:=List.Nodup.length_le_of_subset (l₂:=List.range 6) q2 fun j hj=>List.mem_range.mpr (by have:=q3 j hj;omega)
  rw[List.length_range]at this;omega
 have g:Gd 400 l:=by
  refine⟨hl.ok,by omega,by omega,nears_off' l hl.nr hl.th,fun d hd=>?_,?_,nlen⟩
  ·rw[q1_ix]at hd
   obtain⟨j,hj,rfl⟩:=List.mem_map.mp hd
   exact nm6 j (by have:=q3 j hj;omega)
  ·rw[q1_ix]
   refine List.pairwise_map.mpr (List.Pairwise.imp_of_mem (fun{i j} hi hj ne e=>?_) q2)
   obtain⟨y,e1,_⟩:=nmv i (by have:=q3 i hi;omega)
   obtain⟨z,e2,_⟩:=nmv j (by have:=q3 j hj;omega)
   rw[e1,e2]at e
   exact ne (bH9 (PyData.str.inj e))
 have e2:=be7 (w:=w) (h:=h) (bO3 g (by decide)) w1 w8 h8
 have e3:=ae6 (w:=w) (h:=h) g.dp g.nl
 obtain⟨M,eM,hM⟩:∃M:Nat,aE9 ⇑1 (aE8 ⇑6 (R4 (A8 0))) [‹scr ns›,‹B5 w h l›,‹shD w h (flL w h l)›,‹.list (Nd.nmss l)›,none,none,none]=some (.int M)/\M<=6:=by
  have el:R4 (A8 0) [‹scr ns›,‹B5 w h l›,‹shD w h (flL w h l)›,‹.list (Nd.nmss l)›,none,none,none]=some (.int (ns.length:Nat)):=by
   show some (PyData.int (((ns.map PyData.int).length:Nat):Int))=_
   rw[List.length_map]
  refine⟨max 1 (min 6 ns.length),?_,by omega⟩
  have d1:(if((if(ns.length:Int) < 6 then(ns.length:Int) else 6)) > 1 then(if(ns.length:Int) < 6 then(ns.length:Int) else 6) else 1)=((max 1 (min 6 ns.length):Nat):Int):=by split<;>split at *<;>omega
  simp only[aE9,aE8,el,dC,xbs]
  rw[d1]
 obtain⟨ρ',e,l',a4,a5,a6,hρ,_⟩:=v5 (g:=B7 4) (f:=bd) (h:=fun k:Nat=>PyData.int k) (I:=fun i ρ=>∃l' a4 a5 a6,ρ=[‹scr ns›,‹B5 w h l'›,‹shD w h (flL w h l)›,‹.list (Nd.nmss l)›,a4,a5,a6]/\Gd (400+8*i) l'/\(∀d∈Nd.nmss l',d∈Nd.nmss l)/\∀x y:Int,0<=x/\x < w/\0<=y/\y < h->Nd.sw x y l' q0=Nd.sw x y l q0) (List.range M) 0 [‹scr ns›,‹B5 w h l›,‹shD w h (flL w h l)›,‹.list (Nd.nmss l)›,none,none,none] ⟨l,none,none,none,rfl,g,fun d hd=>hd,fun _ _ _=>rfl⟩ (fun j k hj ρ hρ=>by
  obtain⟨hj1,hj2⟩:=List.getElem?_eq_some_iff.mp hj
  rw[List.length_range]at hj1
  rw[List.getElem_range]at hj2
  subst hj2
  obtain⟨l',a4,a5,a6,rfl,g',s',w'⟩:=hρ
  rw[Nat.zero_add]at g' ⊢
  obtain⟨l2,b5,b6,eb,g2,s2,w2⟩:=cm3 ns hn Wf g' (by omega) g.hs s' w' (j:=j) (by omega) a5 a6
  refine⟨_,rfl,_,eb,l2,_,_,_,rfl,?_,s2,w2⟩
  exact g2.mono (by omega))
 subst hρ
 have s3:(i6 (N3 (aE9 ⇑1 (aE8 ⇑6 (R4 (A8 0))))) (B7 4) bd) [‹scr ns›,‹B5 w h l›,‹shD w h (flL w h l)›,‹.list (Nd.nmss l)›,none,none,none]=some (.nx [‹scr ns›,‹B5 w h l'›,‹shD w h (flL w h l)›,‹.list (Nd.nmss l)›,a4,a5,a6]):=by
  unfold i6
  rw[o9 eM (by omega),xbs]
  exact e
 refine A6 (ρ:=[‹scr ns›,none,none,none,none,none,none]) rfl ?_
 have s0:(B2 1 (A2 Y8 (A0 (A1 0) (A0 ⇑30 (A0 ⇑4 (A0 (A2 y6 (A0 (A1 0) (A0 ⇑0 (A0 ⇑6 A3)))) A3)))))) [‹scr ns›,none,none,none,none,none,none]=some (.nx [‹scr ns›,‹B5 w h l›,none,none,none,none,none]):=by wp_walk using evD,eN,ep
 have s1:(B2 2 (A2 af6 (A0 (A1 1) A3))) [‹scr ns›,‹B5 w h l›,none,none,none,none,none]=some (.nx [‹scr ns›,‹B5 w h l›,‹shD w h (flL w h l)›,none,none,none,none]):=by wp_walk using evD,e2
 have s2:(B2 3 (A2 O6 (A0 (A1 1) A3))) [‹scr ns›,‹B5 w h l›,‹shD w h (flL w h l)›,none,none,none,none]=some (.nx [‹scr ns›,‹B5 w h l›,‹shD w h (flL w h l)›,‹.list (Nd.nmss l)›,none,none,none]):=by wp_walk using evD,e3
 exact(E2 s0).trans ((E2 s1).trans ((E2 s2).trans ((E2 s3).trans rfl)))
end Lk51
namespace Lk51
open PySem PySem.Spec PyProof.Rows L2 G Sh
theorem O9{K:PySem.W.Frag}(x:Str) (t:Tok):aS7 K (.str x) (.str x t):=⟨.str x,⟨t,rfl⟩,fun _=>rfl⟩
def zcs:List (Str×D):=[("ONE", (.tuple [(.int 1),(.int 1)])),("MANNERS", (.tuple [(.str "over"),(.str "multiply"),(.str "screen"),(.str "plus"),(.str "atop"),(.str "cut")])),("RULES", (.tuple [(.str "turn"),(.str "grey"),(.str "round")])),("CLEAR", (.tuple [(.tuple [(.int 0),(.int 1)]),(.tuple [(.int 0),(.int 1)]),(.tuple [(.int 0),(.int 1)]),(.tuple [(.int 0),(.int 1)])])),("THIRD", (.tuple [(.int 1),(.int 3)])),("GREATEST", (.int 8)),("LETTERS", (.str "abcdefghijklmnopqrstuvwxyz")),("DEEPEST", (.int 3)),("FARTHEST", (.int 9)),("FROM_EITHER_END", (.tuple [(.str "over"),(.str "multiply"),(.str "screen"),(.str "plus")])),("IN_EITHER_ORDER", (.tuple [(.str "multiply"),(.str "screen"),(.str "plus")]))]
def zbl:List Str:=["ValueError", "all", "bool", "enumerate", "int", "isinstance", "len", "max", "min", "range", "set", "str", "tuple", "zip"]
def tb0:Tab:=[]
def zcl:List Str:=["NoMerge", "NoName", "NoOpen", "NoSwap"]
def ztb:List (Str×List (Str×Bool)):=[]
def zsb:List (Str×List Str):=[("NoMerge", ["NoMerge"]),("NoOpen", ["NoOpen"]),("NoSwap", ["NoSwap"])]
def znb:List (Str×List Str):=[("NoMerge", ["NoName", "NoOpen", "NoSwap"]),("NoOpen", ["NoMerge", "NoName", "NoSwap"]),("NoSwap", ["NoMerge", "NoName", "NoOpen"])]
def zT(rt:aC3) (xt:bB9):Rg:=⟨rt,zcl,ztb,zsb,znb,xt⟩
def rt0:aC3:=[]
def xt0:bB9:=[]
def aY1:Fd:=fdm "is_whole" (top 8) 1 ["thing"] true
def ap6:Fd:=fdm "common_divisor" (top 9) 2 ["one", "other", "left_over"] true
def aY6:Fd:=fdm "is_share" (top 10) 1 ["thing", "top", "under"] true
def aK3:Fd:=fdm "least_form" (top 11) 2 ["top", "under", "divisor"] true
def aK5:Fd:=fdm "is_at_most" (top 12) 2 ["one", "other"] true
def bM5:Fd:=fdm "added" (top 13) 2 ["one", "other"] true
def aY0:Fd:=fdm "lessened" (top 14) 2 ["one", "other"] true
def bM3:Fd:=fdm "times" (top 15) 2 ["one", "other"] true
def bk0:Fd:=fdm "rest_of" (top 16) 1 ["share"] true
def aB3:Fd:=fdm "at_most_one" (top 17) 1 ["fraction"] true
def bl1:Fd:=fdm "kind_of" (top 19) 1 ["node"]
def aY7:Fd:=fdm "is_layer" (top 20) 1 ["node"]
def aY8:Fd:=fdm "is_group" (top 21) 1 ["node"]
def bl2:Fd:=fdm "is_tone" (top 22) 1 ["node"]
def bk1:Fd:=fdm "name_of" (top 23) 1 ["node"]
def aR0:Fd:=fdm "manner_of" (top 24) 1 ["node"]
def bj9:Fd:=fdm "rule_of" (top 25) 1 ["tone"]
def aA6:Fd:=fdm "strength_of" (top 26) 1 ["node"]
def aY4:Fd:=fdm "is_shown" (top 27) 1 ["node"]
def bk3:Fd:=fdm "left_of" (top 28) 1 ["layer"]
def bA2:Fd:=fdm "top_of" (top 29) 1 ["layer"]
def bk2:Fd:=fdm "mask_of" (top 30) 1 ["layer"]
def aX7:Fd:=fdm "sheet_of" (top 31) 1 ["layer"]
def aB1:Fd:=fdm "inner_nodes" (top 32) 1 ["group"]
def aj0:Fd:=fdm "with_inner_nodes" (top 33) 2 ["group", "nodes"]
def aA8:Fd:=fdm "plain_layer" (top 34) 3 ["name", "manner", "sheet"]
def bl3:Fd:={ fdm "is_spot" (top 40) 1 ["thing"] true with hc:=[((88,15),[0])] }
def aX5:Fd:={ fdm "weighted" (top 41) 2 ["spot", "share"] true with hc:=[((90,17),[1])] }
def at6:Fd:=fdm "blended_cover" (top 42) 3 ["manner", "c", "d"] true
def ap8:Fd:=fdm "blended_colour" (top 43) 5 ["manner", "c", "d", "x", "y", "through"] true
def bm0:Fd:={ fdm "blended" (top 44) 3 ["manner", "above", "below", "c", "d", "colours"] true with hc:=[((115,14),[0,3,4])] }
def bl8:Fd:=fdm "by_rule" (top 45) 2 ["rule", "spot", "cover", "red", "green", "blue", "mean"] true
def bM4:Fd:=fdm "mixed" (top 46) 3 ["strength", "new", "old"] true
def bM2:Fd:={ fdm "toned" (top 47) 3 ["rule", "spot", "strength"] true with hc:=[((131,17),[2])] }
def bl4:Fd:=fdm "is_size" (top 50) 1 ["thing"]
def aY3:Fd:=fdm "is_sized" (top 51) 1 ["thing"]
def aY5:Fd:=fdm "is_sheet" (top 52) 1 ["thing", "spots"]
def aQ7:Fd:={ fdm "places_of" (top 53) 2 ["wide", "high"] with hc:=[((146,11),[0])] }
def aR3:Fd:=fdm "has_place" (top 54) 3 ["sheet", "x", "y"]
def an1:Fd:=fdm "number_of_place" (top 55) 3 ["sheet", "x", "y"]
def bj8:Fd:=fdm "spot_at" (top 56) 3 ["sheet", "x", "y"]
def ap7:Fd:={ fdm "blended_sheets" (top 57) 3 ["manner", "above", "below", "spots"] with hc:=[((156,12),[0])] }
def aB0:Fd:=fdm "masked_spot" (top 59) 3 ["layer", "x", "y", "sheet", "mask", "spot"]
def bl9:Fd:=fdm "brought" (top 60) 3 ["node", "x", "y", "spot"]
def aA7:Fd:=fdm "shown_above" (top 61) 4 ["node", "below", "x", "y"]
def aX6:Fd:=fdm "shown_by" (top 62) 3 ["nodes", "x", "y", "spot", "node"]
def at5:Fd:={ fdm "brought_sheet" (top 63) 2 ["picture", "node", "spots"] with hc:=[((184,12),[1])] }
def bl7:Fd:=fdm "flat_at" (top 64) 3 ["picture", "x", "y"]
def cd5:Fd:={ fdm "flat" (top 65) 1 ["picture", "spots"] with hc:=[((189,12),[0])] }
def bl5:Fd:={ fdm "is_name" (top 70) 1 ["thing"] with tx:=[0] }
def aY2:Fd:=fdm "is_truth" (top 71) 1 ["thing"]
def aR2:Fd:=fdm "is_offset" (top 72) 1 ["thing"]
def bl6:Fd:=fdm "is_mask" (top 73) 2 ["thing", "sheet"]
def ah2:Fd:=fdm "is_layer_of_parts" (top 74) 1 ["thing"]
def ah3:Fd:=fdm "is_group_of_nodes" (top 75) 2 ["thing", "deepest"]
def at3:Fd:=fdm "has_node_form" (top 76) 2 ["thing", "deepest"]
def aR4:Fd:={ fdm "are_nodes" (top 77) 2 ["thing", "deepest"] with hc:=[((226,44),[1])] }
def aA9:Fd:={ fdm "names_among" (top 78) 1 ["nodes", "names", "node"] with own:=[1],fz:=[(233,[1])] }
def aj2:Fd:=fdm "are_names_unlike" (top 79) 1 ["nodes", "names"]
def aK4:Fd:=fdm "is_picture" (top 80) 1 ["thing"]
def aX8:Fd:=fdm "names_in" (top 81) 1 ["picture"]
def ax8:Fd:=fdm "number_among" (top 82) 2 ["nodes", "name", "number", "node"]
def aK2:Fd:=fdm "tuple_with" (top 83) 2 ["nodes", "name", "node", "told"]
def ae8:Fd:=fdm "nodes_beside" (top 84) 2 ["picture", "name", "nodes"]
def rt1:aC3:=("nodes_beside", L1,2)::rt0
def ah1:Fd:={ fdm "nodes_with_others" (top 85) 3 ["nodes", "name", "others"] with hc:=[((263,17),[1,2])] }
def aj1:Fd:=fdm "node_with_others" (top 86) 3 ["node", "name", "others"]
def ah0:Fd:=fdm "with_nodes_beside" (top 87) 3 ["picture", "name", "others"]
def aB2:Fd:={ fdm "have_manner" (top 91) 2 ["nodes", "manner"] with hc:=[((274,15),[1])] }
def aK6:Fd:=fdm "can_be_one" (top 92) 2 ["lower", "upper"]
def aX9:Fd:=fdm "made_one" (top 93) 3 ["picture", "lower", "upper", "manner", "sheet"]
def aQ9:Fd:=fdm "merged" (top 94) 2 ["picture", "name", "nodes", "number", "one"]
def rt2:aC3:=("merged", W9,2)::rt1
def at4:Fd:=fdm "can_be_opened" (top 95) 1 ["node"]
def aQ8:Fd:=fdm "opened" (top 96) 2 ["picture", "name", "nodes", "number"]
def rt3:aC3:=("opened", V5,2)::rt2
def ah4:Fd:=fdm "can_change_places" (top 97) 2 ["lower", "upper"]
def aE7:Fd:=fdm "swapped" (top 98) 2 ["picture", "name", "nodes", "number", "both"]
def rt4:aC3:=("swapped", S4,2)::rt3
def bA6:Fd:=fdm "_law_cell" (top 100) 2 ["_law_script", "_law_k"] true
def bk9:Fd:=fdm "_law_drawn" (top 101) 3 ["_law_script", "_law_k", "_law_many", "_law_cell_here"] true
def bA4:Fd:=fdm "_law_made" (top 102) 2 ["_law_top", "_law_under", "_law_one", "_law_by"] true
def bk4:Fd:=fdm "_law_times" (top 104) 2 ["_law_one", "_law_other"] true
def bk6:Fd:=fdm "_law_share" (top 106) 2 ["_law_script", "_law_at", "_law_under", "_law_drawn_here"] true
def bA3:Fd:={ fdm "_law_spot" (top 107) 2 ["_law_script", "_law_at", "_law_cover"] true with hc:=[((340,33),[2,0,1])] }
def bk5:Fd:={ fdm "_law_sheet" (top 108) 4 ["_law_script", "_law_at", "_law_wide", "_law_high", "_law_spots"] with hc:=[((342,17),[0,1])] }
def bk8:Fd:={ fdm "_law_names" (top 109) 3 ["_law_script", "_law_at", "_law_many", "_law_is_first", "_law_found", "_law_k", "_law_word"] with own:=[4],tx:=[6],fz:=[(353,[4])],hc:=[((350,28),[0,1,5])] }
def bA5:Fd:={ fdm "_law_leaf" (top 110) 4 ["_law_script", "_law_at", "_law_name", "_law_main", "_law_strength", "_law_is_shown", "_law_manner", "_law_wide", "_law_high", "_law_mask", "_law_left", "_law_top", "_law_sheet_here"] with hc:=[((366,26),[0,1])] }
def bk7:Fd:={ fdm "_law_nodes" (top 111) 4 ["_law_script", "_law_at", "_law_most", "_law_names_here", "_law_main", "_law_many", "_law_found", "_law_k", "_law_first", "_law_last", "_law_strength", "_law_manner", "_law_group"] with own:=[6],hc:=[((376,17),[0,4,3,1])] }
def aR1:Fd:=fdm "_law_picture" (top 112) 4 ["_law_script", "_law_at", "_law_most", "_law_names_here", "_law_wide", "_law_high"]
def bl0:Fd:=fdm "_law_after" (top 113) 3 ["_law_way", "_law_picture_here", "_law_name"]
def bP1:Fd:={ fdm "law" (top 114) 1 ["_law_script", "_law_picture_here", "_law_shown", "_law_first", "_law_k", "_law_names_here", "_law_name"] with hc:=[((409,11),[3])] }
structure Qs (K:PySem.W.Frag):Prop where
 h_is_whole:KF K "is_whole" (top 8)
 h_common_divisor:KF K "common_divisor" (top 9)
 h_is_share:KF K "is_share" (top 10)
 h_least_form:KF K "least_form" (top 11)
 h_is_at_most:KF K "is_at_most" (top 12)
 h_added:KF K "added" (top 13)
 h_lessened:KF K "lessened" (top 14)
 h_times:KF K "times" (top 15)
 h_rest_of:KF K "rest_of" (top 16)
 h_at_most_one:KF K "at_most_one" (top 17)
 h_kind_of:KF K "kind_of" (top 19)
 h_is_layer:KF K "is_layer" (top 20)
 h_is_group:KF K "is_group" (top 21)
 h_is_tone:KF K "is_tone" (top 22)
 h_name_of:KF K "name_of" (top 23)
 h_manner_of:KF K "manner_of" (top 24)
 h_rule_of:KF K "rule_of" (top 25)
 h_strength_of:KF K "strength_of" (top 26)
 h_is_shown:KF K "is_shown" (top 27)
 h_left_of:KF K "left_of" (top 28)
 h_top_of:KF K "top_of" (top 29)
 h_mask_of:KF K "mask_of" (top 30)
 h_sheet_of:KF K "sheet_of" (top 31)
 h_inner_nodes:KF K "inner_nodes" (top 32)
 h_with_inner_nodes:KF K "with_inner_nodes" (top 33)
 h_plain_layer:KF K "plain_layer" (top 34)
 h_is_spot:KF K "is_spot" (top 40)
 h_weighted:KF K "weighted" (top 41)
 h_blended_cover:KF K "blended_cover" (top 42)
 h_blended_colour:KF K "blended_colour" (top 43)
 h_blended:KF K "blended" (top 44)
 h_by_rule:KF K "by_rule" (top 45)
 h_mixed:KF K "mixed" (top 46)
 h_toned:KF K "toned" (top 47)
 h_is_size:KF K "is_size" (top 50)
 h_is_sized:KF K "is_sized" (top 51)
 h_is_sheet:KF K "is_sheet" (top 52)
 h_places_of:KF K "places_of" (top 53)
 h_has_place:KF K "has_place" (top 54)
 h_number_of_place:KF K "number_of_place" (top 55)
 h_spot_at:KF K "spot_at" (top 56)
 h_blended_sheets:KF K "blended_sheets" (top 57)
 h_masked_spot:KF K "masked_spot" (top 59)
 h_brought:KF K "brought" (top 60)
 h_shown_above:KF K "shown_above" (top 61)
 h_shown_by:KF K "shown_by" (top 62)
 h_brought_sheet:KF K "brought_sheet" (top 63)
 h_flat_at:KF K "flat_at" (top 64)
 h_flat:KF K "flat" (top 65)
 h_is_name:KF K "is_name" (top 70)
 h_is_truth:KF K "is_truth" (top 71)
 h_is_offset:KF K "is_offset" (top 72)
 h_is_mask:KF K "is_mask" (top 73)
 h_is_layer_of_parts:KF K "is_layer_of_parts" (top 74)
 h_is_group_of_nodes:KF K "is_group_of_nodes" (top 75)
 h_has_node_form:KF K "has_node_form" (top 76)
 h_are_nodes:KF K "are_nodes" (top 77)
 h_names_among:KF K "names_among" (top 78)
 h_are_names_unlike:KF K "are_names_unlike" (top 79)
 h_is_picture:KF K "is_picture" (top 80)
 h_names_in:KF K "names_in" (top 81)
 h_number_among:KF K "number_among" (top 82)
 h_tuple_with:KF K "tuple_with" (top 83)
 h_nodes_beside:KF K "nodes_beside" (top 84)
 h_nodes_with_others:KF K "nodes_with_others" (top 85)
 h_node_with_others:KF K "node_with_others" (top 86)
 h_with_nodes_beside:KF K "with_nodes_beside" (top 87)
 h_have_manner:KF K "have_manner" (top 91)
 h_can_be_one:KF K "can_be_one" (top 92)
 h_made_one:KF K "made_one" (top 93)
 h_merged:KF K "merged" (top 94)
 h_can_be_opened:KF K "can_be_opened" (top 95)
 h_opened:KF K "opened" (top 96)
 h_can_change_places:KF K "can_change_places" (top 97)
 h_swapped:KF K "swapped" (top 98)
 h_l_cell:KF K "_law_cell" (top 100)
 h_l_drawn:KF K "_law_drawn" (top 101)
 h_l_made:KF K "_law_made" (top 102)
 h_l_times:KF K "_law_times" (top 104)
 h_l_share:KF K "_law_share" (top 106)
 h_l_spot:KF K "_law_spot" (top 107)
 h_l_sheet:KF K "_law_sheet" (top 108)
 h_l_names:KF K "_law_names" (top 109)
 h_l_leaf:KF K "_law_leaf" (top 110)
 h_l_nodes:KF K "_law_nodes" (top 111)
 h_l_picture:KF K "_law_picture" (top 112)
 h_l_after:KF K "_law_after" (top 113)
 h_law:KF K "law" (top 114)
theorem cn4{P:Program}{w:World}{K:PySem.W.Frag}{mg:Str->Option Value}(M:Md K mg zcs zbl) (C:∀rt xt,Cl K mg (zT rt xt)) (q:Qs K):∃tab,rd tab zcs zbl bP1=bf9/\∀base:Heap,TOk P w K mg base 137 tab:=by
 refine⟨?tab,?e,fun base=>?t⟩
 case t =>
  have t:TOk P w K mg base 0 tb0:=TOk.nil
  have r:TRk P w K mg base 0 rt0:=TRk.nil
  have x:TXk P w K mg base 0 xt0:=TXk.nil
  have t:=t.add M aY1 q.h_is_whole S9
  have t:=t.add M ap6 q.h_common_divisor S5
  have t:=t.add M aY6 q.h_is_share X7
  have t:=t.add M aK3 q.h_least_form X1
  have t:=t.add M aK5 q.h_is_at_most j6
  have t:=t.add M bM5 q.h_added U8
  have t:=t.add M aY0 q.h_lessened U3
  have t:=t.add M bM3 q.h_times U5
  have t:=t.add M bk0 q.h_rest_of j8
  have t:=t.add M aB3 q.h_at_most_one Y3
  have t:=t.add M bl1 q.h_kind_of ag6
  have t:=t.add M aY7 q.h_is_layer W2
  have t:=t.add M aY8 q.h_is_group Q3
  have t:=t.add M bl2 q.h_is_tone T4
  have t:=t.add M bk1 q.h_name_of U6
  have t:=t.add M aR0 q.h_manner_of D1
  have t:=t.add M bj9 q.h_rule_of j7
  have t:=t.add M aA6 q.h_strength_of M7
  have t:=t.add M aY4 q.h_is_shown M2
  have t:=t.add M bk3 q.h_left_of x8
  have t:=t.add M bA2 q.h_top_of af3
  have t:=t.add M bk2 q.h_mask_of x6
  have t:=t.add M aX7 q.h_sheet_of X5
  have t:=t.add M aB1 q.h_inner_nodes C7
  have t:=t.add M aj0 q.h_with_inner_nodes W1
  have t:=t.add M aA8 q.h_plain_layer u5
  have t:=t.add M bl3 q.h_is_spot ag7
  have t:=t.add M aX5 q.h_weighted ac1
  have t:=t.add M at6 q.h_blended_cover Z6
  have t:=t.add M ap8 q.h_blended_colour X9
  have t:=t.add M bm0 q.h_blended Y0
  have t:=t.add M bl8 q.h_by_rule ar3
  have t:=t.add M bM4 q.h_mixed aL9
  have t:=t.add M bM2 q.h_toned au6
  have t:=t.add M bl4 q.h_is_size aa1
  have t:=t.add M aY3 q.h_is_sized n6
  have t:=t.add M aY5 q.h_is_sheet ak2
  have t:=t.add M aQ7 q.h_places_of W5
  have t:=t.add M aR3 q.h_has_place Y9
  have t:=t.add M an1 q.h_number_of_place R5
  have t:=t.add M bj8 q.h_spot_at aq8
  have t:=t.add M ap7 q.h_blended_sheets X8
  have t:=t.add M aB0 q.h_masked_spot u6
  have t:=TOk.rec3 t M bl9 aA7 aX6 q.h_brought q.h_shown_above q.h_shown_by j9 ai1 m9 12
  have t:=t.add M at5 q.h_brought_sheet V7
  have t:=t.add M bl7 q.h_flat_at ag8
  have t:=t.add M cd5 q.h_flat af6
  have t:=t.add M bl5 q.h_is_name ar1
  have t:=t.add M aY2 q.h_is_truth ak1
  have t:=t.add M aR2 q.h_is_offset t5
  have t:=t.add M bl6 q.h_is_mask ar2
  have t:=t.add M ah2 q.h_is_layer_of_parts S1
  have t:=TOk.rec3 t M ah3 at3 aR4 q.h_is_group_of_nodes q.h_has_node_form q.h_are_nodes ah6 Z5 Z0 12
  have t:=TOk.rec t M aA9 q.h_names_among M8 12
  have t:=t.add M aj2 q.h_are_names_unlike W3
  have t:=t.add M aK4 q.h_is_picture U7
  have t:=t.add M aX8 q.h_names_in O6
  have t:=t.add M ax8 q.h_number_among B6
  have t:=TOk.rec t M aK2 q.h_tuple_with L5 12
  have t:TOk P w K mg base 103 _:=t
  have r:TRk P w K mg base 104 rt1:=TRk.add (T:=zT rt0 xt0) (r.mono (by decide)) t (x.mono (by decide)) M (C _ _) ae8 q.h_nodes_beside L1
  have t:=t.add M ae8 q.h_nodes_beside K2
  have t:=TOk.rec2 t M ah1 aj1 q.h_nodes_with_others q.h_node_with_others N1 O5 12
  have t:=t.add M ah0 q.h_with_nodes_beside P6
  have t:=t.add M aB2 q.h_have_manner P8
  have t:=t.add M aK6 q.h_can_be_one T0
  have t:=t.add M aX9 q.h_made_one n5
  have t:TOk P w K mg base 120 _:=t
  have r:TRk P w K mg base 121 rt2:=TRk.add (T:=zT rt1 xt0) (r.mono (by decide)) t (x.mono (by decide)) M (C _ _) aQ9 q.h_merged W9
  have t:=t.add M aQ9 q.h_merged af5
  have t:=t.add M at4 q.h_can_be_opened R0
  have t:TOk P w K mg base 122 _:=t
  have r:TRk P w K mg base 123 rt3:=TRk.add (T:=zT rt2 xt0) (r.mono (by decide)) t (x.mono (by decide)) M (C _ _) aQ8 q.h_opened V5
  have t:=t.add M aQ8 q.h_opened af4
  have t:=t.add M ah4 q.h_can_change_places K5
  have t:TOk P w K mg base 124 _:=t
  have r:TRk P w K mg base 125 rt4:=TRk.add (T:=zT rt3 xt0) (r.mono (by decide)) t (x.mono (by decide)) M (C _ _) aE7 q.h_swapped S4
  have t:=t.add M aE7 q.h_swapped x5
  have t:=t.add M bA6 q.h_l_cell az6
  have t:=t.add M bk9 q.h_l_drawn A7
  have t:=t.add M bA4 q.h_l_made y8
  have t:=t.add M bk4 q.h_l_times aq9
  have t:=t.add M bk6 q.h_l_share Q9
  have t:=t.add M bA3 q.h_l_spot x9
  have t:=t.add M bk5 q.h_l_sheet ag5
  have t:=t.add M bk8 q.h_l_names y6
  have t:=t.add M bA5 q.h_l_leaf aa0
  have t:=t.add M bk7 q.h_l_nodes ar0
  have t:=t.add M aR1 q.h_l_picture Y8
  have t:TOk P w K mg base 136 _:=t
  have t:=t.addT (T:=zT rt4 xt0) (r.mono (by decide)) (x.mono (by decide)) M (C _ _) bl0 q.h_l_after X6
  exact t
 case e=>kernel_rfl
theorem zmd{K:PySem.W.Frag}{h:Heap}{mg:Str->Option Value}{q0 q1 q2 q3t0 q3t1 q3t2 q3t3 q3 q4 q9 q10:Addr}{y0 y1 y2 y3t0 y3t1 y3t2 y3t3 y3 y4 y9 y10:Array (Option Value)}{g0t0 g0t1 g1t0 g1t1 g1t2 g1t3 g1t4 g1t5 g2t0 g2t1 g2t2 g3t0t0 g3t0t1 g3t1t0 g3t1t1 g3t2t0 g3t2t1 g3t3t0 g3t3t1 g4t0 g4t1 g5 g6 g7 g8 g9t0 g9t1 g9t2 g9t3 g10t0 g10t1 g10t2:Tok}{n0 n1 n2 n3t0 n3t1 n3t2 n3t3 n3 n4 n9 n10:Nat}(X:K.In h) (G:h.Ns mainGlobals mg) (p0:PySem.W.nsIn K mainGlobals "ONE" = some (some (.ref q0))) (r0:K.lookup q0=some ⟨.type "tuple", none,.seq #[.int 1 g0t0,.int 1 g0t1] n0,y0⟩) (p1:PySem.W.nsIn K mainGlobals "MANNERS" = some (some (.ref q1))) (r1:K.lookup q1=some ⟨.type "tuple", none,.seq #[.str "over" g1t0,.str "multiply" g1t1,.str "screen" g1t2,.str "plus" g1t3,.str "atop" g1t4,.str "cut" g1t5] n1,y1⟩) (p2:PySem.W.nsIn K mainGlobals "RULES" = some (some (.ref q2))) (r2:K.lookup q2=some ⟨.type "tuple", none,.seq #[.str "turn" g2t0,.str "grey" g2t1,.str "round" g2t2] n2,y2⟩) (p3:PySem.W.nsIn K mainGlobals "CLEAR" = some (some (.ref q3))) (r3:K.lookup q3=some ⟨.type "tuple", none,.seq #[.ref q3t0,.ref q3t1,.ref q3t2,.ref q3t3] n3,y3⟩) (r3t3:K.lookup q3t3=some ⟨.type "tuple", none,.seq #[.int 0 g3t3t0,.int 1 g3t3t1] n3t3,y3t3⟩) (r3t2:K.lookup q3t2=some ⟨.type "tuple", none,.seq #[.int 0 g3t2t0,.int 1 g3t2t1] n3t2,y3t2⟩) (r3t1:K.lookup q3t1=some ⟨.type "tuple", none,.seq #[.int 0 g3t1t0,.int 1 g3t1t1] n3t1,y3t1⟩) (r3t0:K.lookup q3t0=some ⟨.type "tuple", none,.seq #[.int 0 g3t0t0,.int 1 g3t0t1] n3t0,y3t0⟩) (p4:PySem.W.nsIn K mainGlobals "THIRD" = some (some (.ref q4))) (r4:K.lookup q4=some ⟨.type "tuple", none,.seq #[.int 1 g4t0,.int 3 g4t1] n4,y4⟩) (p5:PySem.W.nsIn K mainGlobals "GREATEST" = some (some (.int 8 g5))) (p6:PySem.W.nsIn K mainGlobals "LETTERS" = some (some (.str "abcdefghijklmnopqrstuvwxyz" g6))) (p7:PySem.W.nsIn K mainGlobals "DEEPEST" = some (some (.int 3 g7))) (p8:PySem.W.nsIn K mainGlobals "FARTHEST" = some (some (.int 9 g8))) (p9:PySem.W.nsIn K mainGlobals "FROM_EITHER_END" = some (some (.ref q9))) (r9:K.lookup q9=some ⟨.type "tuple", none,.seq #[.str "over" g9t0,.str "multiply" g9t1,.str "screen" g9t2,.str "plus" g9t3] n9,y9⟩) (p10:PySem.W.nsIn K mainGlobals "IN_EITHER_ORDER" = some (some (.ref q10))) (r10:K.lookup q10=some ⟨.type "tuple", none,.seq #[.str "multiply" g10t0,.str "screen" g10t1,.str "plus" g10t2] n10,y10⟩) (z0:PySem.W.nsIn K mainGlobals "ValueError" = some none) (z1:PySem.W.nsIn K mainGlobals "all" = some none) (z2:PySem.W.nsIn K mainGlobals "bool" = some none) (z3:PySem.W.nsIn K mainGlobals "enumerate" = some none) (z4:PySem.W.nsIn K mainGlobals "int" = some none) (z5:PySem.W.nsIn K mainGlobals "isinstance" = some none) (z6:PySem.W.nsIn K mainGlobals "len" = some none) (z7:PySem.W.nsIn K mainGlobals "max" = some none) (z8:PySem.W.nsIn K mainGlobals "min" = some none) (z9:PySem.W.nsIn K mainGlobals "range" = some none) (z10:PySem.W.nsIn K mainGlobals "set" = some none) (z11:PySem.W.nsIn K mainGlobals "str" = some none) (z12:PySem.W.nsIn K mainGlobals "tuple" = some none) (z13:PySem.W.nsIn K mainGlobals "zip" = some none):Md K mg zcs zbl:=by
 refine⟨fun x v e=>PySem.W.mg_of X G e,fun x d e=>?_,fun x e=>?_⟩
 ·unfold zcs at e
  rw[List.lookup_cons]at e
  split at e
  ·rename_i q;cases e;simp only[beq_iff_eq]at q;subst q;exact⟨_,(U1 r0 rfl rfl rfl (by show 2<=1000;decide) (B4 (Q0 1 g0t0) (B4 (Q0 1 g0t1) S3))),PySem.W.mg_of X G p0⟩
  rw[List.lookup_cons]at e
  split at e
  ·rename_i q;cases e;simp only[beq_iff_eq]at q;subst q;exact⟨_,(U1 r1 rfl rfl rfl (by show 6<=1000;decide) (B4 (O9 "over" g1t0) (B4 (O9 "multiply" g1t1) (B4 (O9 "screen" g1t2) (B4 (O9 "plus" g1t3) (B4 (O9 "atop" g1t4) (B4 (O9 "cut" g1t5) S3))))))),PySem.W.mg_of X G p1⟩
  rw[List.lookup_cons]at e
  split at e
  ·rename_i q;cases e;simp only[beq_iff_eq]at q;subst q;exact⟨_,(U1 r2 rfl rfl rfl (by show 3<=1000;decide) (B4 (O9 "turn" g2t0) (B4 (O9 "grey" g2t1) (B4 (O9 "round" g2t2) S3)))),PySem.W.mg_of X G p2⟩
  rw[List.lookup_cons]at e
  split at e
  ·rename_i q;cases e;simp only[beq_iff_eq]at q;subst q;exact⟨_,(U1 r3 rfl rfl rfl (by show 4<=1000;decide) (B4 (U1 r3t0 rfl rfl rfl (by show 2<=1000;decide) (B4 (Q0 0 g3t0t0) (B4 (Q0 1 g3t0t1) S3))) (B4 (U1 r3t1 rfl rfl rfl (by show 2<=1000;decide) (B4 (Q0 0 g3t1t0) (B4 (Q0 1 g3t1t1) S3))) (B4 (U1 r3t2 rfl rfl rfl (by show 2<=1000;decide) (B4 (Q0 0 g3t2t0) (B4 (Q0 1 g3t2t1) S3))) (B4 (U1 r3t3 rfl rfl rfl (by show 2<=1000;decide) (B4 (Q0 0 g3t3t0) (B4 (Q0 1 g3t3t1) S3))) S3))))),PySem.W.mg_of X G p3⟩
  rw[List.lookup_cons]at e
  split at e
  ·rename_i q;cases e;simp only[beq_iff_eq]at q;subst q;exact⟨_,(U1 r4 rfl rfl rfl (by show 2<=1000;decide) (B4 (Q0 1 g4t0) (B4 (Q0 3 g4t1) S3))),PySem.W.mg_of X G p4⟩
  rw[List.lookup_cons]at e
  split at e
  ·rename_i q;cases e;simp only[beq_iff_eq]at q;subst q;exact⟨_,(Q0 8 g5),PySem.W.mg_of X G p5⟩
  rw[List.lookup_cons]at e
  split at e
  ·rename_i q;cases e;simp only[beq_iff_eq]at q;subst q;exact⟨_,(O9 "abcdefghijklmnopqrstuvwxyz" g6),PySem.W.mg_of X G p6⟩
  rw[List.lookup_cons]at e
  split at e
  ·rename_i q;cases e;simp only[beq_iff_eq]at q;subst q;exact⟨_,(Q0 3 g7),PySem.W.mg_of X G p7⟩
  rw[List.lookup_cons]at e
  split at e
  ·rename_i q;cases e;simp only[beq_iff_eq]at q;subst q;exact⟨_,(Q0 9 g8),PySem.W.mg_of X G p8⟩
  rw[List.lookup_cons]at e
  split at e
  ·rename_i q;cases e;simp only[beq_iff_eq]at q;subst q;exact⟨_,(U1 r9 rfl rfl rfl (by show 4<=1000;decide) (B4 (O9 "over" g9t0) (B4 (O9 "multiply" g9t1) (B4 (O9 "screen" g9t2) (B4 (O9 "plus" g9t3) S3))))),PySem.W.mg_of X G p9⟩
  rw[List.lookup_cons]at e
  split at e
  ·rename_i q;cases e;simp only[beq_iff_eq]at q;subst q;exact⟨_,(U1 r10 rfl rfl rfl (by show 3<=1000;decide) (B4 (O9 "multiply" g10t0) (B4 (O9 "screen" g10t1) (B4 (O9 "plus" g10t2) S3)))),PySem.W.mg_of X G p10⟩
  cases e
 ·unfold zbl at e
  simp only[List.contains_cons,List.contains_nil,Bool.or_false,Bool.or_eq_true,beq_iff_eq]at e
  rcases e with e|e|e|e|e|e|e|e|e|e|e|e|e|e
  ·subst e;exact PySem.W.mg_none_of X G z0
  ·subst e;exact PySem.W.mg_none_of X G z1
  ·subst e;exact PySem.W.mg_none_of X G z2
  ·subst e;exact PySem.W.mg_none_of X G z3
  ·subst e;exact PySem.W.mg_none_of X G z4
  ·subst e;exact PySem.W.mg_none_of X G z5
  ·subst e;exact PySem.W.mg_none_of X G z6
  ·subst e;exact PySem.W.mg_none_of X G z7
  ·subst e;exact PySem.W.mg_none_of X G z8
  ·subst e;exact PySem.W.mg_none_of X G z9
  ·subst e;exact PySem.W.mg_none_of X G z10
  ·subst e;exact PySem.W.mg_none_of X G z11
  ·subst e;exact PySem.W.mg_none_of X G z12
  ·subst e;exact PySem.W.mg_none_of X G z13
theorem cf3{l:PySem.W.OpenLaw}{q:Program}{loose:List Str}{XP:(Str->Option Value)->Heap->Prop}{YP:World->Heap->Prop}{d:DefRec}{K:Params->PySem.W.Frag}(hn:l.most=some 63) (hdf:d.params.defaults=[])
  (hY:∀(w:World) (h:Heap),YP w h->(K w.params).In h) (hd:d.name = "law")
  (F:∀(w:World) (mg:Str->Option Value) (h:Heap),(K w.params).In h->h.Ns mainGlobals mg->Md (K w.params) mg zcs zbl)
  (Q:∀w:World,Qs (K w.params)) (B:∀w:World,clB (K w.params) zcl ztb zsb znb=true)
  (M:∀ns:List Int,ns.length<=63->bf9 [.list (ns.map PyData.int)]=some (.bool true)) :
  PySem.W.WalkO q loose XP YP l.row.toRowW d [] (fun f vs=>PySem.call f vs) :=
 L2.bD2 (n:=63) (k:=138) (x := "_law_script") (CX:=fun _=>CX0) (sp:=fun w=>spF (K w.params) 1 bf9) hn (by decide) hdf ⟨rfl,by decide,by decide⟩ hY
  (fun w mg fa h hk hg hm=>by
   have N:=F w mg h hk hg
   have q:=Q w
   rw[hd]at hm
   obtain⟨_,e,t⟩:=cn4 N (fun rt xt=>Cl.of N (by decide +kernel) (B w)) q
   obtain⟨fd,b1,b2⟩:=bI4 N t bP1 q.h_law e hm
   exact⟨fd,b1,fun base _ _=>b2 base⟩)
  (fun w H a ns hl _ hS=>⟨rfl,H,[.list (ns.map PyData.int)],.bool true,G1.refl _,⟨.ref a,[],rfl,⟨a,_,rfl,hS,Reps.ints ns⟩,rfl⟩,M ns hl,fun v H' Hf' g r=>r⟩) fun _ _ _ _ _ z=>z
end Lk51
def PySem.W.Fast.tw14005132765696620317:Unit:=()
def PySem.W.Fast.tw4586997198848853163:Unit:=()
def PySem.W.Fast.tw8888329998761233546:Unit:=()
def PySem.W.Fast.tw14598467281976750754:Unit:=()
def PySem.W.Fast.tw13053371536626788096:Unit:=()
def PySem.W.Fast.tw2521841176377652033:Unit:=()
def PySem.W.Fast.tw17504992013959363139:Unit:=()
def PySem.W.Fast.tw1759004575415124664:Unit:=()
def PySem.W.Fast.tw13600033171927225713:Unit:=()
def PySem.W.Fast.tw7914390963816601197:Unit:=()
def PySem.W.Fast.tw10077064771318423436:Unit:=()
def PySem.W.Fast.tw1145868270353891813:Unit:=()
def PySem.W.Fast.tw529051135531109341:Unit:=()
def PySem.W.Fast.tw5047918575355995574:Unit:=()
def PySem.W.Fast.tw5938091773964433475:Unit:=()
def PySem.W.Fast.tw551564873337839537:Unit:=()
def PySem.W.Fast.tw6940781320376736606:Unit:=()
def PySem.W.Fast.tw11006077820013503733:Unit:=()
def PySem.W.Fast.tw13702870801479551652:Unit:=()
def PySem.W.Fast.tw10760208321482943735:Unit:=()
def PySem.W.Fast.tw3574866979019665631:Unit:=()
def PySem.W.Fast.tw17016756005530220522:Unit:=()
def PySem.W.Fast.tw5806943986224229587:Unit:=()
def PySem.W.Fast.tw5508920993514555888:Unit:=()
def PySem.W.Fast.tw13829012328206903708:Unit:=()
def PySem.W.Fast.tw5354140798968587099:Unit:=()
def PySem.W.Fast.tw5259715500581560581:Unit:=()
def PySem.W.Fast.tw15723275034549189584:Unit:=()
def PySem.W.Fast.tw13038088631007312242:Unit:=()
def PySem.W.Fast.tw9679260518290397004:Unit:=()
def PySem.W.Fast.tw17351825740900827715:Unit:=()
def PySem.W.Fast.tw87619559916725885:Unit:=()
def PySem.W.Fast.tw16505192078132836438:Unit:=()
def PySem.W.Fast.tw6507336517251216337:Unit:=()
def PySem.W.Fast.tw11482253863940541500:Unit:=()
def PySem.W.Fast.tw2327526218714627635:Unit:=()
def PySem.W.Fast.tw7870967189883562911:Unit:=()
def PySem.W.Fast.tw12660753515373658337:Unit:=()
def PySem.W.Fast.tw14759982408568645094:Unit:=()
def PySem.W.Fast.tw1595457797247314114:Unit:=()
def PySem.W.Fast.tw13238388531024823896:Unit:=()
def PySem.W.Fast.tw6590661775630131589:Unit:=()
def PySem.W.Fast.tw5732141286819427998:Unit:=()
def PySem.W.Fast.tw6800101715267859297:Unit:=()
def PySem.W.Fast.tw2944055181408919769:Unit:=()
def PySem.W.Fast.tw12481007430508012472:Unit:=()
def PySem.W.Fast.tw13628387831434145592:Unit:=()
def PySem.W.Fast.tw10137285606758989221:Unit:=()
def PySem.W.Fast.tw7226675334345601052:Unit:=()
def PySem.W.Fast.tw11000289735630151295:Unit:=()
def PySem.W.Fast.tw4447107015927738908:Unit:=()
def PySem.W.Fast.tw4758333640734223847:Unit:=()
def PySem.W.Fast.tw13088522915875088265:Unit:=()
def PySem.W.Fast.tw14880764135926261993:Unit:=()
def PySem.W.Fast.tw14254314652301572291:Unit:=()
def PySem.W.Fast.tw15469578080416595852:Unit:=()
def PySem.W.Fast.tw17842067882582164478:Unit:=()
def PySem.W.Fast.tw9001908656749616967:Unit:=()
def PySem.W.Fast.tw261125748893586044:Unit:=()
def PySem.W.Fast.tw13384605021621635205:Unit:=()
def PySem.W.Fast.tw10841602648560910765:Unit:=()
def PySem.W.Fast.tw9456258207957675182:Unit:=()
def PySem.W.Fast.tw9929569788829114642:Unit:=()
def PySem.W.Fast.tw15588864255124287570:Unit:=()
def PySem.W.Fast.tw9610043322647562093:Unit:=()
def PySem.W.Fast.tw9596998710435398529:Unit:=()
def PySem.W.Fast.tw13015341279669152125:Unit:=()
def PySem.W.Fast.tw6430800290721030617:Unit:=()
def PySem.W.Fast.tw14174008076640043743:Unit:=()
def PySem.W.Fast.tw2344456875313333319:Unit:=()
def PySem.W.Fast.tw9874091799965472401:Unit:=()
def PySem.W.Fast.tw13796818229356802454:Unit:=()
def PySem.W.Fast.tw2172790938734801849:Unit:=()
def PySem.W.Fast.tw15073146220510321488:Unit:=()
def PySem.W.Fast.tw9319950031489977262:Unit:=()
def PySem.W.Fast.tw384787082879990413:Unit:=()
def PySem.W.Fast.tw16578972554954844470:Unit:=()
def PySem.W.Fast.tw8961374772873641171:Unit:=()
def PySem.W.Fast.tw17280497370535987123:Unit:=()
def PySem.W.Fast.tw16630901085027868758:Unit:=()
def PySem.W.Fast.tw1473730730169331988:Unit:=()
def PySem.W.Fast.tw14940169103055987932:Unit:=()
def PySem.W.Fast.tw3379422746615469347:Unit:=()
def PySem.W.Fast.tw9585471372320812878:Unit:=()
def PySem.W.Fast.tw10570139399762512294:Unit:=()
def PySem.W.Fast.tw5992836779940389015:Unit:=()
namespace Lk51
open PySem PySem.W PyProof.Rows
set_option maxHeartbeats 0 in
open_top head for PySem.Challenge.rw_glazework_k51_whole_made_one
end Lk51
open PySem PySem.W PyProof.Rows
set_option maxRecDepth 100000 in
set_option maxHeartbeats 0 in
theorem PySem.Challenge.cw_glazework_k51_whole_made_one_holds : PySem.Challenge.rw_glazework_k51_whole_made_one.Holds := by
 refine Lk51.head ?_
 k_fill
 refine Lk51.cf3 (l:=PySem.Challenge.rw_glazework_k51_whole_made_one) rfl rfl (fun w h Y=>PySem.W.kIn_of Y) rfl ?F ?Q ?B Lk51.main
 case F =>
  intro w mg h KX G
  refine' Lk51.zmd KX G ?p0 ?r0 ?p1 ?r1 ?p2 ?r2 ?p3 ?r3 ?r3t3 ?r3t2 ?r3t1 ?r3t0 ?p4 ?r4 ?p5 ?p6 ?p7 ?p8 ?p9 ?r9 ?p10 ?r10 ?z0 ?z1 ?z2 ?z3 ?z4 ?z5 ?z6 ?z7 ?z8 ?z9 ?z10 ?z11 ?z12 ?z13
  (case p0=>k_is);(case r0=>k_is);(case p1=>k_is);(case r1=>k_is);(case p2=>k_is);(case r2=>k_is);(case p3=>k_is);(case r3=>k_is);(case r3t3=>k_is);(case r3t2=>k_is);(case r3t1=>k_is);(case r3t0=>k_is);(case p4=>k_is);(case r4=>k_is);(case p5=>k_is);(case p6=>k_is);(case p7=>k_is);(case p8=>k_is);(case p9=>k_is);(case r9=>k_is);(case p10=>k_is);(case r10=>k_is);(case z0=>k_is);(case z1=>k_is);(case z2=>k_is);(case z3=>k_is);(case z4=>k_is);(case z5=>k_is);(case z6=>k_is);(case z7=>k_is);(case z8=>k_is);(case z9=>k_is);(case z10=>k_is);(case z11=>k_is);(case z12=>k_is);(case z13=>k_is)
 case Q =>
  intro w
  constructor
  all_goals (refine' G.ck5 ?a ?l ?c ?k;(case a=>k_is);(case l=>k_is);(case c=>k_is);(case k=>k_is))
 case B=>intro w;kernel_rfl
